/- gessoref10.Of by value. -/
import Derived.Test.YtnapannphldglaaDoorLexF
namespace Go.Proofs.YtnapannphldglaaDoor
open Go Go.RowKit

theorem row_mono {w : World} {base base' : Nat} {e : TypeId} {size : Nat} {v : Value} {n : Nat} {xs : List Value} (h : w.ownsRow base e size v n xs) (hb : base' ≤ base) : w.ownsRow base' e size v n xs := by
  refine ⟨h.1, ?_⟩
  rcases h.2 with h2 | ⟨g, cap, cur, h1, h2, h3⟩
  · exact .inl h2
  · exact .inr ⟨g, cap, cur, h1, Nat.le_trans hb h2, h3⟩
theorem tkCells_snoc (ts : List Tk) (t : Tk) : tkCells (ts ++ [t]) = tkCells ts ++ tkCell t := by simp [tkCells]
/-- What the reference hands back. -/
def GivesRef (w : World) (r : Except Nat (List Tk)) (e : Ending) (w' : World) : Prop :=
  Below w.heap.size w w' ∧ match r with
  | .ok ts => ∃ A c, e = .returned (.agg #[.slice A ts.length c, .int .i64 0, .int .i64 0]) ∧ w'.ownsRow w.heap.size 91 4 (.slice A ts.length c) ts.length (tkCells ts)
  | .error p => e = .returned (.agg #[.slice none 0 0, .int .i64 (p : Int), .int .i64 20])

/-- Where the reference stands: ts are the tokens of the first a bytes. -/
def At (l : List UInt8) (a : Nat) (ts : List Tk) : Prop := a ≤ l.length ∧ ts.length ≤ a ∧ lcut 0 l = (lcut a (l.drop a)).map (ts ++ ·)
theorem At.start (l : List UInt8) : At l 0 [] := ⟨Nat.zero_le _, Nat.le_refl _, by rw [List.drop_zero, emap_nil]⟩
theorem At.next {l : List UInt8} {a : Nat} {ts : List Tk} (h : At l a ts) {c : UInt8} {r : List UInt8} (hd : l.drop a = c :: r) {m : Nat} {t : List Tk} (hf : firstT a c r = some (m, t)) (hm : m ≤ r.length) (ht : t.length ≤ 1) : At l (a + 1 + m) (ts ++ t) := by
  obtain ⟨h1, h2, h3⟩ := h
  have hlen := congrArg List.length hd
  simp at hlen
  refine ⟨by omega, by rw [List.length_append]; omega, ?_⟩
  rw [h3, hd, lcut_cons, hf]
  simp only
  rw [emap_map, show a + 1 + m = a + (1 + m) by omega, ← List.drop_drop (i := 1 + m) (j := a), hd, show 1 + m = m + 1 by omega, List.drop_succ_cons]
theorem At.ends {l : List UInt8} {ts : List Tk} (h : At l l.length ts) : lcut 0 l = .ok ts := by
  rw [h.2.2, List.drop_length, lcut_nil]; simp [Except.map]
theorem At.bad {l : List UInt8} {a : Nat} {ts : List Tk} (h : At l a ts) {c : UInt8} {r : List UInt8} (hd : l.drop a = c :: r) (hf : firstT a c r = none) : lcut 0 l = .error a := by
  rw [h.2.2, hd, lcut_cons, hf]; rfl
theorem first_p {a : Nat} {c : UInt8} {r : List UInt8} (h : isP c = true) : firstT a c r = some (0, []) := by unfold firstT; rw [if_pos h]
theorem first_l {a : Nat} {c : UInt8} {r : List UInt8} (h : isL c = true) {m : Nat} (hm : lrun isL r = m) : firstT a c r = some (m, [tkW (c :: r.take m) a]) := by
  have hP : isP c = false := isP_no.2 (by have := isL_iff.1 h; omega)
  unfold firstT; rw [if_neg (by simp [hP]), if_pos h, hm]
theorem first_d {a : Nat} {c : UInt8} {r : List UInt8} (h : isD c = true) {m : Nat} (hm : lrun isD r = m) : firstT a c r = some (m, [tkN (cap62 (lval (c :: r.take m))) a]) := by
  have hP : isP c = false := isP_no.2 (by have := isD_iff.1 h; omega)
  have hL : isL c = false := isL_no.2 (by have := isD_iff.1 h; omega)
  unfold firstT; rw [if_neg (by simp [hP]), if_neg (by simp [hL]), if_pos h, hm]
theorem first_m {a : Nat} {c : UInt8} {r : List UInt8} (h : c.toNat = 45) {m : Nat} (hm : lrun isD r = m) (h0 : 0 < m) : firstT a c r = some (m, [tkN (-(cap62 (lval (r.take m)) : Int)) a]) := by
  have hP : isP c = false := isP_no.2 (by omega)
  have hL : isL c = false := isL_no.2 (by omega)
  have hD : isD c = false := isD_no.2 (by omega)
  unfold firstT; rw [if_neg (by simp [hP]), if_neg (by simp [hL]), if_neg (by simp [hD]), if_pos h, hm, if_neg (by omega)]
theorem first_m0 {a : Nat} {c : UInt8} {r : List UInt8} (h : c.toNat = 45) (hm : lrun isD r = 0) : firstT a c r = none := by
  have hP : isP c = false := isP_no.2 (by omega)
  have hL : isL c = false := isL_no.2 (by omega)
  have hD : isD c = false := isD_no.2 (by omega)
  unfold firstT; rw [if_neg (by simp [hP]), if_neg (by simp [hL]), if_neg (by simp [hD]), if_pos h, hm, if_pos rfl]
theorem first_e {a : Nat} {c : UInt8} {r : List UInt8} (h : c.toNat = 10) : firstT a c r = some (0, [tkE a]) := by
  have hP : isP c = false := isP_no.2 (by omega)
  have hL : isL c = false := isL_no.2 (by omega)
  have hD : isD c = false := isD_no.2 (by omega)
  unfold firstT; rw [if_neg (by simp [hP]), if_neg (by simp [hL]), if_neg (by simp [hD]), if_neg (by omega), if_pos h]
theorem first_n {a : Nat} {c : UInt8} {r : List UInt8} (hP : isP c = false) (hL : isL c = false) (hD : isD c = false) (h : ¬ c.toNat = 45) (h10 : ¬ c.toNat = 10) : firstT a c r = none := by
  unfold firstT; rw [if_neg (by simp [hP]), if_neg (by simp [hL]), if_neg (by simp [hD]), if_neg h, if_neg h10]
theorem ext_take {s : ByteArray} {a n : Nat} {c : UInt8} {r : List UInt8} (hd : s.data.toList.drop a = c :: r) {m : Nat} (hn : n = a + 1 + m) : (s.extract a n).data.toList = c :: r.take m := by
  have h2 : (s.extract a n).data.toList = (s.data.toList.drop a).take (n - a) := by simp [ByteArray.data_extract]
  rw [h2, hd, show n - a = m + 1 by omega, List.take_succ_cons]
theorem drop_at {s : ByteArray} {a n : Nat} {c : UInt8} {r : List UInt8} (hd : s.data.toList.drop a = c :: r) (ha : a + 1 ≤ n) (hn : n < s.size) : r[n - a - 1]? = some (s[n]'hn) := by
  have : (s.data.toList.drop a)[n - a]? = some (s[n]'hn) := by
    rw [List.getElem?_drop, show a + (n - a) = n by omega, List.getElem?_eq_getElem (by simpa using hn)]; rfl
  rw [hd, show n - a = (n - a - 1) + 1 by omega, List.getElem?_cons_succ] at this
  exact this
theorem take_len {s : ByteArray} {a : Nat} {c : UInt8} {r : List UInt8} (hd : s.data.toList.drop a = c :: r) : a + 1 + r.length = s.size := by
  have := congrArg List.length hd
  simp at this
  omega

theorem below_push {w0 W w1 : World} {b : Nat} {e : TypeId} {size k : Nat} {v : Value} {xs : List Value} {o : Obj} (hb : Below b w0 W) (hr : W.ownsRow b e size v k xs) (hg : (W.alloc o).grownBy w1 v.ownBlock) (hb0 : b ≤ w0.heap.size) : Below b w0 w1 := by
  refine (hb.alloc (Nat.le_trans hb0 hb.size) o).grown hg (by simp; have := hb.size; omega) fun j ej => ?_
  rcases hr.2 with ⟨rfl, _⟩ | ⟨g, cap, cur, rfl, hbg, _, _⟩
  · simp [Value.ownBlock] at ej
  · obtain rfl : g = j := by simpa [Value.ownBlock] using ej
    exact hbg

theorem ext_size (s : ByteArray) (a n : Nat) : (s.extract a n).size ≤ s.size := by simp; omega
theorem cell_word {s : ByteArray} {a n m : Nat} {c : UInt8} {r : List UInt8} (hd : s.data.toList.drop a = c :: r) (hn : n = a + 1 + m) : tkCell (tkW (c :: r.take m) a) = [.int .i64 1, .string (s.extract a n), .int .i64 0, .int .i64 (a : Int)] := by
  rw [str_of (ext_take hd hn)]; rfl
theorem cell_num {N M a : Nat} (h : N = M) : tkCell (tkN (M : Int) a) = [.int .i64 2, .string ⟨#[]⟩, .int .i64 (N : Int), .int .i64 (a : Int)] := by rw [h]; rfl
theorem cell_neg {N M a : Nat} (h : N = M) : tkCell (tkN (-(M : Int)) a) = [.int .i64 2, .string ⟨#[]⟩, .int .i64 (-(N : Int)), .int .i64 (a : Int)] := by rw [h]; rfl
theorem ref_below {w W0 wr : World} {x y z : Value} (h0 : Below w.heap.size w W0) (hb : Below (w.heap.size + 1) W0 wr) : Below w.heap.size w (((wr.setCell ⟨w.heap.size, 0, none⟩ x).setCell ⟨w.heap.size, 1, none⟩ y).setCell ⟨w.heap.size, 2, none⟩ z) :=
  (((h0.trans (hb.mono (Nat.le_succ _))).setCell (p := ⟨w.heap.size, 0, none⟩) (Nat.le_refl _) x).setCell (p := ⟨w.heap.size, 1, none⟩) (Nat.le_refl _) y).setCell (p := ⟨w.heap.size, 2, none⟩) (Nat.le_refl _) z
theorem ref_row {w wr : World} {x y z v : Value} {e : TypeId} {size k : Nat} {xs : List Value} (h : wr.ownsRow (w.heap.size + 1) e size v k xs) : (((wr.setCell ⟨w.heap.size, 0, none⟩ x).setCell ⟨w.heap.size, 1, none⟩ y).setCell ⟨w.heap.size, 2, none⟩ z).ownsRow w.heap.size e size v k xs :=
  row_mono (ownsRow_setCell_below (ownsRow_setCell_below (ownsRow_setCell_below h (Nat.lt_succ_self _) x) (Nat.lt_succ_self _) y) (Nat.lt_succ_self _) z) (Nat.le_succ _)

end Go.Proofs.YtnapannphldglaaDoor
