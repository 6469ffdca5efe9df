/- gessoref10.Of by value. -/
import Derived.Test.YtlfcmlaffhcaiaaLexF
namespace Go.Proofs.Ytlfcmlaffhcaiaa
open Go Go.RowKit

theorem row_mono {w : World} {base base' : Nat} {e : TypeId} {size : Nat} {v : Value} {n : Nat} {xs : List Value} (h : w.ownsRow base e size v n xs) (hb : base' ≤ base) : w.ownsRow base' e size v n xs := by
  refine ⟨h.1, ?_⟩
  rcases h.2 with h2 | ⟨g, cap, cur, h1, h2, h3⟩
  · exact .inl h2
  · exact .inr ⟨g, cap, cur, h1, Nat.le_trans hb h2, h3⟩
theorem tkCells_snoc (ts : List Tk) (t : Tk) : tkCells (ts ++ [t]) = tkCells ts ++ tkCell t := by simp [tkCells]
/-- What the reference hands back. -/
def GivesRef (w : World) (r : Except Nat (List Tk)) (e : Ending) (w' : World) : Prop :=
  Below w.heap.size w w' ∧ match r with
  | .ok ts => ∃ A c, e = .returned (.agg #[.slice A ts.length c, .int .i64 0, .int .i64 0]) ∧ w'.ownsRow w.heap.size 33 4 (.slice A ts.length c) ts.length (tkCells ts)
  | .error p => e = .returned (.agg #[.slice none 0 0, .int .i64 (p : Int), .int .i64 20])

set_option maxRecDepth 100000 in
set_option maxHeartbeats 1000000 in
theorem of_long (s : ByteArray) (w : World) (hs : 1048576 < s.size) : Calls Try.prog 9 #[.string s] w fun e w' => e = .returned (.agg #[.slice none 0 0, .int .i64 0, .int .i64 22]) ∧ Below w.heap.size w w' := by
  have hs' : (1048576 : Int) < (s.size : Int) := by omega
  go_enter Try.func9, Try.ntmps9
  go_wp2
  refine bodyPost_ret (v := .agg #[.slice none 0 0, .int .i64 0, .int .i64 22]) ?_ rfl ⟨rfl, ?_⟩
  · simp [results, Try.results9, go_sem]
  · exact (Below.refl _ w).alloc (Nat.le_refl _) _

/-- Where the reference stands: ts are the tokens of the first a bytes. -/
def At (l : List UInt8) (a : Nat) (ts : List Tk) : Prop := a ≤ l.length ∧ ts.length ≤ a ∧ lcut 0 l = (lcut a (l.drop a)).map (ts ++ ·)
theorem At.start (l : List UInt8) : At l 0 [] := ⟨Nat.zero_le _, Nat.le_refl _, by rw [List.drop_zero, emap_nil]⟩
theorem At.next {l : List UInt8} {a : Nat} {ts : List Tk} (h : At l a ts) {c : UInt8} {r : List UInt8} (hd : l.drop a = c :: r) {m : Nat} {t : List Tk} (hf : firstT a c r = some (m, t)) (hm : m ≤ r.length) (ht : t.length ≤ 1) : At l (a + 1 + m) (ts ++ t) := by
  obtain ⟨h1, h2, h3⟩ := h
  have hlen := congrArg List.length hd
  simp at hlen
  refine ⟨by omega, by rw [List.length_append]; omega, ?_⟩
  rw [h3, hd, lcut_cons, hf]
  simp only
  rw [emap_map, show a + 1 + m = a + (1 + m) by omega, ← List.drop_drop (i := 1 + m) (j := a), hd, show 1 + m = m + 1 by omega, List.drop_succ_cons]
theorem At.ends {l : List UInt8} {ts : List Tk} (h : At l l.length ts) : lcut 0 l = .ok ts := by
  rw [h.2.2, List.drop_length, lcut_nil]; simp [Except.map]
theorem At.bad {l : List UInt8} {a : Nat} {ts : List Tk} (h : At l a ts) {c : UInt8} {r : List UInt8} (hd : l.drop a = c :: r) (hf : firstT a c r = none) : lcut 0 l = .error a := by
  rw [h.2.2, hd, lcut_cons, hf]; rfl
theorem first_p {a : Nat} {c : UInt8} {r : List UInt8} (h : isP c = true) : firstT a c r = some (0, []) := by unfold firstT; rw [if_pos h]
theorem first_l {a : Nat} {c : UInt8} {r : List UInt8} (h : isL c = true) {m : Nat} (hm : lrun isL r = m) : firstT a c r = some (m, [tkW (c :: r.take m) a]) := by
  have hP : isP c = false := isP_no.2 (by have := isL_iff.1 h; omega)
  unfold firstT; rw [if_neg (by simp [hP]), if_pos h, hm]
theorem first_d {a : Nat} {c : UInt8} {r : List UInt8} (h : isD c = true) {m : Nat} (hm : lrun isD r = m) : firstT a c r = some (m, [tkN (cap62 (lval (c :: r.take m))) a]) := by
  have hP : isP c = false := isP_no.2 (by have := isD_iff.1 h; omega)
  have hL : isL c = false := isL_no.2 (by have := isD_iff.1 h; omega)
  unfold firstT; rw [if_neg (by simp [hP]), if_neg (by simp [hL]), if_pos h, hm]
theorem first_m {a : Nat} {c : UInt8} {r : List UInt8} (h : c.toNat = 45) {m : Nat} (hm : lrun isD r = m) (h0 : 0 < m) : firstT a c r = some (m, [tkN (-(cap62 (lval (r.take m)) : Int)) a]) := by
  have hP : isP c = false := isP_no.2 (by omega)
  have hL : isL c = false := isL_no.2 (by omega)
  have hD : isD c = false := isD_no.2 (by omega)
  unfold firstT; rw [if_neg (by simp [hP]), if_neg (by simp [hL]), if_neg (by simp [hD]), if_pos h, hm, if_neg (by omega)]
theorem first_m0 {a : Nat} {c : UInt8} {r : List UInt8} (h : c.toNat = 45) (hm : lrun isD r = 0) : firstT a c r = none := by
  have hP : isP c = false := isP_no.2 (by omega)
  have hL : isL c = false := isL_no.2 (by omega)
  have hD : isD c = false := isD_no.2 (by omega)
  unfold firstT; rw [if_neg (by simp [hP]), if_neg (by simp [hL]), if_neg (by simp [hD]), if_pos h, hm, if_pos rfl]
theorem first_e {a : Nat} {c : UInt8} {r : List UInt8} (h : c.toNat = 10) : firstT a c r = some (0, [tkE a]) := by
  have hP : isP c = false := isP_no.2 (by omega)
  have hL : isL c = false := isL_no.2 (by omega)
  have hD : isD c = false := isD_no.2 (by omega)
  unfold firstT; rw [if_neg (by simp [hP]), if_neg (by simp [hL]), if_neg (by simp [hD]), if_neg (by omega), if_pos h]
theorem first_n {a : Nat} {c : UInt8} {r : List UInt8} (hP : isP c = false) (hL : isL c = false) (hD : isD c = false) (h : ¬ c.toNat = 45) (h10 : ¬ c.toNat = 10) : firstT a c r = none := by
  unfold firstT; rw [if_neg (by simp [hP]), if_neg (by simp [hL]), if_neg (by simp [hD]), if_neg h, if_neg h10]
theorem ext_take {s : ByteArray} {a n : Nat} {c : UInt8} {r : List UInt8} (hd : s.data.toList.drop a = c :: r) {m : Nat} (hn : n = a + 1 + m) : (s.extract a n).data.toList = c :: r.take m := by
  have h2 : (s.extract a n).data.toList = (s.data.toList.drop a).take (n - a) := by simp [ByteArray.data_extract]
  rw [h2, hd, show n - a = m + 1 by omega, List.take_succ_cons]
theorem drop_at {s : ByteArray} {a n : Nat} {c : UInt8} {r : List UInt8} (hd : s.data.toList.drop a = c :: r) (ha : a + 1 ≤ n) (hn : n < s.size) : r[n - a - 1]? = some (s[n]'hn) := by
  have : (s.data.toList.drop a)[n - a]? = some (s[n]'hn) := by
    rw [List.getElem?_drop, show a + (n - a) = n by omega, List.getElem?_eq_getElem (by simpa using hn)]; rfl
  rw [hd, show n - a = (n - a - 1) + 1 by omega, List.getElem?_cons_succ] at this
  exact this
theorem take_len {s : ByteArray} {a : Nat} {c : UInt8} {r : List UInt8} (hd : s.data.toList.drop a = c :: r) : a + 1 + r.length = s.size := by
  have := congrArg List.length hd
  simp at this
  omega

theorem below_push {w0 W w1 : World} {b : Nat} {e : TypeId} {size k : Nat} {v : Value} {xs : List Value} {o : Obj} (hb : Below b w0 W) (hr : W.ownsRow b e size v k xs) (hg : (W.alloc o).grownBy w1 v.ownBlock) (hb0 : b ≤ w0.heap.size) : Below b w0 w1 := by
  refine (hb.alloc (Nat.le_trans hb0 hb.size) o).grown hg (by simp; have := hb.size; omega) fun j ej => ?_
  rcases hr.2 with ⟨rfl, _⟩ | ⟨g, cap, cur, rfl, hbg, _, _⟩
  · simp [Value.ownBlock] at ej
  · obtain rfl : g = j := by simpa [Value.ownBlock] using ej
    exact hbg

theorem ext_size (s : ByteArray) (a n : Nat) : (s.extract a n).size ≤ s.size := by simp; omega
theorem cell_word {s : ByteArray} {a n m : Nat} {c : UInt8} {r : List UInt8} (hd : s.data.toList.drop a = c :: r) (hn : n = a + 1 + m) : tkCell (tkW (c :: r.take m) a) = [.int .i64 1, .string (s.extract a n), .int .i64 0, .int .i64 (a : Int)] := by
  rw [str_of (ext_take hd hn)]; rfl
theorem cell_num {N M a : Nat} (h : N = M) : tkCell (tkN (M : Int) a) = [.int .i64 2, .string ⟨#[]⟩, .int .i64 (N : Int), .int .i64 (a : Int)] := by rw [h]; rfl
theorem cell_neg {N M a : Nat} (h : N = M) : tkCell (tkN (-(M : Int)) a) = [.int .i64 2, .string ⟨#[]⟩, .int .i64 (-(N : Int)), .int .i64 (a : Int)] := by rw [h]; rfl
theorem ref_below {w W0 wr : World} {x y z : Value} (h0 : Below w.heap.size w W0) (hb : Below (w.heap.size + 1) W0 wr) : Below w.heap.size w (((wr.setCell ⟨w.heap.size, 0, none⟩ x).setCell ⟨w.heap.size, 1, none⟩ y).setCell ⟨w.heap.size, 2, none⟩ z) :=
  (((h0.trans (hb.mono (Nat.le_succ _))).setCell (p := ⟨w.heap.size, 0, none⟩) (Nat.le_refl _) x).setCell (p := ⟨w.heap.size, 1, none⟩) (Nat.le_refl _) y).setCell (p := ⟨w.heap.size, 2, none⟩) (Nat.le_refl _) z
theorem ref_row {w wr : World} {x y z v : Value} {e : TypeId} {size k : Nat} {xs : List Value} (h : wr.ownsRow (w.heap.size + 1) e size v k xs) : (((wr.setCell ⟨w.heap.size, 0, none⟩ x).setCell ⟨w.heap.size, 1, none⟩ y).setCell ⟨w.heap.size, 2, none⟩ z).ownsRow w.heap.size e size v k xs :=
  row_mono (ownsRow_setCell_below (ownsRow_setCell_below (ownsRow_setCell_below h (Nat.lt_succ_self _) x) (Nat.lt_succ_self _) y) (Nat.lt_succ_self _) z) (Nat.le_succ _)

set_option maxRecDepth 100000 in
set_option maxHeartbeats 8000000 in
theorem of_any (s : ByteArray) (w : World) (hs : s.size ≤ 1048576) : Calls Try.prog 9 #[.string s] w (GivesRef w (lcut 0 s.data.toList)) := by
  have hs' : decide (1048576 < (s.size : Int)) = false := decide_eq_false (by omega)
  obtain ⟨i0, hi, hz0, hz1, hz2⟩ := info_parts info33
  obtain ⟨W0, hW0⟩ : ∃ W0, w.alloc (.cells #[.slice none 0 0, .int .i64 0, .int .i64 0] 28) = W0 := ⟨_, rfl⟩
  have hsz0 : W0.heap.size = w.heap.size + 1 := by rw [← hW0]; simp
  have hB0 : Below w.heap.size w W0 := by rw [← hW0]; exact (Below.refl _ w).alloc (Nat.le_refl _) _
  have hbox : W0.heap[w.heap.size]? = some (.cells #[.slice none 0 0, .int .i64 0, .int .i64 0] 28 (0, 0)) := by rw [← hW0]; exact World.alloc_heap_new w _
  have HSZ0 := Lib.hid hsz0
  have HBX := Lib.hid hbox
  have HB0 := Lib.hid hB0
  have HW0 := Lib.hid hW0
  clear hsz0 hbox hW0 hB0
  go_enter Try.func9, Try.ntmps9
  go_wp2
  rw [HW0.out]
  go_loopw [3, 4] (fun out at_ wr => ∃ (a : Nat) (ts : List Tk) (V : Value), V = out ∧ at_ = .int .i64 (a : Int) ∧ At s.data.toList a ts ∧ wr.ownsRow (w.heap.size + 1) 33 4 V ts.length (tkCells ts) ∧ Below (w.heap.size + 1) W0 wr) (fun _ at_ _ => s.size - (intOf at_).toNat)
  case atStart => exact ⟨0, [], _, rfl, rfl, At.start _, World.ownsRow_nil _ _ _ _, Below.refl _ _⟩
  case round =>
    obtain ⟨a, ts, V, rfl, rfl, hat, hrow, hbw⟩ := hrel
    have hb0 : (wr.heap)[w.heap.size]? = some (.cells #[.slice none 0 0, .int .i64 0, .int .i64 0] 28 (0, 0)) := (hbw.block _ (Nat.lt_succ_self _)).trans HBX.out
    have cA : wr.cell? ⟨w.heap.size, 0, none⟩ = some (.slice none 0 0) := by unfold World.cell?; rw [show ({ block := w.heap.size, off := 0, spot := none } : Addr).block = w.heap.size from rfl, hb0]; rfl
    have cB : wr.cell? ⟨w.heap.size, 1, none⟩ = some (.int .i64 0) := by unfold World.cell?; rw [show ({ block := w.heap.size, off := 1, spot := none } : Addr).block = w.heap.size from rfl, hb0]; rfl
    have cC : wr.cell? ⟨w.heap.size, 2, none⟩ = some (.int .i64 0) := by unfold World.cell?; rw [show ({ block := w.heap.size, off := 2, spot := none } : Addr).block = w.heap.size from rfl, hb0]; rfl
    have fA : wr.frozen? ⟨w.heap.size, 0, none⟩ = false := by unfold World.frozen?; rw [show ({ block := w.heap.size, off := 0, spot := none } : Addr).block = w.heap.size from rfl, hb0]; rfl
    have fB : wr.frozen? ⟨w.heap.size, 1, none⟩ = false := by unfold World.frozen?; rw [show ({ block := w.heap.size, off := 1, spot := none } : Addr).block = w.heap.size from rfl, hb0]; rfl
    have fC : wr.frozen? ⟨w.heap.size, 2, none⟩ = false := by unfold World.frozen?; rw [show ({ block := w.heap.size, off := 2, spot := none } : Addr).block = w.heap.size from rfl, hb0]; rfl
    have hal : a ≤ s.size := by have := hat.1; simpa using this
    have htl := hat.2.1
    have hwz : w.heap.size + 1 ≤ wr.heap.size := by have := hbw.size; have := HSZ0.out; omega
    have HAT := Lib.hid hat
    have HR := Lib.hid hrow
    have HB := Lib.hid hbw
    clear hat hrow hbw hb0
    by_cases hp : a < s.size
    · have hdr := drop_get s a hp
      have hlen := take_len hdr
      have hc8 := (s[a]'hp).toNat_lt
      have HDR := Lib.hid hdr
      clear hdr
      by_cases hP : isP (s[a]'hp) = true
      · have HP := Lib.hid hP
        have hp2 := isP_iff.1 hP
        clear hP
        by_cases h32 : (s[a]'hp).toNat = 32
        · have e32 : (((s[a]'hp).toNat : Int) == 32) = true := by simp; omega
          clear h32 hp2
          go_wp2
          go_roundw
          case rel => exact ⟨a + 1, ts, V, rfl, by go_num, by have := HAT.out.next HDR.out (first_p HP.out) (Nat.zero_le _) (by simp); simpa using this, HR.out, HB.out⟩
          case measure => simp [intOf]; omega
        · have e32 : (((s[a]'hp).toNat : Int) == 32) = false := by simp; omega
          have e44 : (((s[a]'hp).toNat : Int) == 44) = true := by simp; omega
          clear h32 hp2
          go_wp2
          go_roundw
          case rel => exact ⟨a + 1, ts, V, rfl, by go_num, by have := HAT.out.next HDR.out (first_p HP.out) (Nat.zero_le _) (by simp); simpa using this, HR.out, HB.out⟩
          case measure => simp [intOf]; omega
      have hP : isP (s[a]'hp) = false := by simpa using hP
      have hp2 := isP_no.1 hP
      have e32 : (((s[a]'hp).toNat : Int) == 32) = false := by simp; omega
      have e44 : (((s[a]'hp).toNat : Int) == 44) = false := by simp; omega
      have HP := Lib.hid hP
      clear hP hp2
      by_cases h10 : (s[a]'hp).toNat = 10
      · have e10 : (((s[a]'hp).toNat : Int) == 10) = true := by simp; omega
        have H10 := Lib.hid h10
        clear h10
        go_wp2_with (at_builtin; refine wpList_append_own _ rfl _ _ 23 rfl (w.heap.size + 1) 33 i0 (.agg #[.int .i64 0, .string ⟨#[]⟩, .int .i64 0, .int .i64 0]) 4 40 Try.underlying23 hi hz0 hz1 hz2 rfl (by decide) V ts.length (tkCells ts) rfl (HR.out.alloc _) ⟨wr.heap.size, 0, none⟩ 1 1 [.int .i64 3, .string ⟨#[]⟩, .int .i64 0, .int .i64 (a : Int)] rfl rfl (cells_new _ _ _ _ _ _) (by simp [Value.oneCell']) (by unfold maxLen; omega) (by omega) (by simp; omega) ?_; intro v' w1 hown' hgrow _)
        go_roundw
        case rel =>
          refine ⟨a + 1 + 0, ts ++ [tkE a], v', rfl, by go_num, ?_, ?_, ?_⟩
          · exact HAT.out.next HDR.out (first_e H10.out) (Nat.zero_le _) (by simp)
          · rw [tkCells_snoc, List.length_append]; exact hown'
          · exact below_push HB.out HR.out hgrow (by have := HSZ0.out; omega)
        case measure => simp [intOf]; omega
      have e10 : (((s[a]'hp).toNat : Int) == 10) = false := by simp; omega
      have H10 := Lib.hid h10
      clear h10
      by_cases hL : isL (s[a]'hp) = true
      · have HL := Lib.hid hL
        clear hL
        go_wp2_with (go_at_call 14; refine (letter_any _ _).mono ?_; rintro e w' ⟨rfl, rfl⟩; rw [HL.out])
        go_loop [6] (fun nn => ∃ n : Nat, nn = .int .i64 (n : Int) ∧ a ≤ n ∧ n ≤ s.size ∧ n - a ≤ lrun isL (s.data.toList.drop (a + 1)) + 1) (fun nn => s.size - (intOf nn).toNat)
        case atStart => exact ⟨a, rfl, Nat.le_refl _, by omega, by omega⟩
        case round =>
          obtain ⟨n, rfl, hn1, hn2, hn3⟩ := hrel
          have hend : n < s.size → isL s.data.toList[n]! = false → a + 1 ≤ n ∧ lrun isL (s.data.toList.drop (a + 1)) = n - a - 1 := by
            intro hpn hq
            have hg : s.data.toList[n]! = s[n]'hpn := by rw [getElem!_pos _ _ (by simpa using hpn)]; rfl
            rw [hg] at hq
            have hna : a + 1 ≤ n := by
              rcases Nat.lt_or_ge a n with h | h
              · exact h
              · have : n = a := by omega
                subst this
                rw [HL.out] at hq; cases hq
            exact ⟨hna, (lrun_step (q := isL) (m := n - a - 1) (by omega) (drop_at HDR.out hna hpn)).2 hq⟩
          have hmore : ∀ hpn : n < s.size, isL (s[n]'hpn) = true → n + 1 - a ≤ lrun isL (s.data.toList.drop (a + 1)) + 1 := by
            intro hpn hq
            rcases Nat.lt_or_ge a n with h | h
            · have := (lrun_step (q := isL) (m := n - a - 1) (by omega) (drop_at HDR.out h hpn)).1 hq
              omega
            · omega
          by_cases hpn : n < s.size
          · have hn8 := (s[n]'hpn).toNat_lt
            by_cases hq : isL (s[n]'hpn) = true
            · have HQ := Lib.hid hq
              have hm := hmore hpn hq
              clear hend hmore hq
              go_wp2_with (go_at_call 14; refine (letter_any _ _).mono ?_; rintro e w' ⟨rfl, rfl⟩; rw [HQ.out])
              go_round
              case rel => exact ⟨n + 1, by go_num, by omega, by omega, hm⟩
              case measure => simp [intOf]; omega
            · have hq : isL (s[n]'hpn) = false := by simpa using hq
              have hnd := hend hpn (by rw [getElem!_pos _ _ (by simpa using hpn)]; exact hq)
              have HQ := Lib.hid hq
              obtain ⟨hna, hrun⟩ := hnd
              have HRUN := Lib.hid hrun
              clear hend hmore hq hrun
              go_wp2_with (first
                | (go_at_call 14; refine (letter_any _ _).mono ?_; rintro e w' ⟨rfl, rfl⟩; rw [HQ.out])
                | (at_builtin; refine wpList_append_own _ rfl _ _ 23 rfl (w.heap.size + 1) 33 i0 (.agg #[.int .i64 0, .string ⟨#[]⟩, .int .i64 0, .int .i64 0]) 4 40 Try.underlying23 hi hz0 hz1 hz2 rfl (by decide) V ts.length (tkCells ts) rfl (HR.out.alloc _) ⟨wr.heap.size, 0, none⟩ 1 1 [.int .i64 1, .string (s.extract a n), .int .i64 0, .int .i64 (a : Int)] rfl rfl (cells_new _ _ _ _ _ _) (by simp [Value.oneCell']) (by unfold maxLen; omega) (by omega) (by simp; omega) ?_; intro v' w1 hown' hgrow _))
              go_roundw
              case rel =>
                refine ⟨n, ts ++ [tkW (s[a]'hp :: (s.data.toList.drop (a + 1)).take (n - a - 1)) a], v', rfl, rfl, ?_, ?_, ?_⟩
                · have := HAT.out.next HDR.out (first_l HL.out HRUN.out) (by have := lrun_le isL (s.data.toList.drop (a + 1)); rw [HRUN.out] at this; exact this) (by simp)
                  rwa [show a + 1 + (n - a - 1) = n by omega] at this
                · rw [tkCells_snoc, List.length_append, cell_word HDR.out (show n = a + 1 + (n - a - 1) by omega)]; exact hown'
                · exact below_push HB.out HR.out hgrow (by have := HSZ0.out; omega)
              case measure => simp [intOf]; omega
          · have hns : n = s.size := by omega
            have hna : a + 1 ≤ n := by omega
            have HRUN : Hid (lrun isL (s.data.toList.drop (a + 1)) = n - a - 1) := lrun_end (by omega) (by simp; omega)
            clear hend hmore hns
            go_wp2_with (at_builtin; refine wpList_append_own _ rfl _ _ 23 rfl (w.heap.size + 1) 33 i0 (.agg #[.int .i64 0, .string ⟨#[]⟩, .int .i64 0, .int .i64 0]) 4 40 Try.underlying23 hi hz0 hz1 hz2 rfl (by decide) V ts.length (tkCells ts) rfl (HR.out.alloc _) ⟨wr.heap.size, 0, none⟩ 1 1 [.int .i64 1, .string (s.extract a n), .int .i64 0, .int .i64 (a : Int)] rfl rfl (cells_new _ _ _ _ _ _) (by simp [Value.oneCell']) (by unfold maxLen; omega) (by omega) (by simp; omega) ?_; intro v' w1 hown' hgrow _)
            go_roundw
            case rel =>
              refine ⟨n, ts ++ [tkW (s[a]'hp :: (s.data.toList.drop (a + 1)).take (n - a - 1)) a], v', rfl, rfl, ?_, ?_, ?_⟩
              · have := HAT.out.next HDR.out (first_l HL.out HRUN.out) (by have := lrun_le isL (s.data.toList.drop (a + 1)); rw [HRUN.out] at this; exact this) (by simp)
                rwa [show a + 1 + (n - a - 1) = n by omega] at this
              · rw [tkCells_snoc, List.length_append, cell_word HDR.out (show n = a + 1 + (n - a - 1) by omega)]; exact hown'
              · exact below_push HB.out HR.out hgrow (by have := HSZ0.out; omega)
            case measure => simp [intOf]; omega
      have hL : isL (s[a]'hp) = false := by simpa using hL
      have HL := Lib.hid hL
      clear hL
      by_cases hD : isD (s[a]'hp) = true
      · have HD := Lib.hid hD
        have hd9 := isD_iff.1 hD
        have e45 : (((s[a]'hp).toNat : Int) == 45) = false := by simp; omega
        have hn45 : ¬ (s[a]'hp).toNat = 45 := by omega
        clear hD hd9
        go_wp2_with (first | (go_at_call 14; refine (letter_any _ _).mono ?_; rintro e w' ⟨rfl, rfl⟩; rw [HL.out]) | (go_at_call 15; refine (digit_any _ _).mono ?_; rintro e w' ⟨rfl, rfl⟩; rw [HD.out]))
        go_loop [6] (fun nn => ∃ n : Nat, nn = .int .i64 (n : Int) ∧ a + 1 ≤ n ∧ n ≤ s.size ∧ n - a - 1 ≤ lrun isD (s.data.toList.drop (a + 1))) (fun nn => s.size - (intOf nn).toNat)
        case atStart => exact ⟨a + 1, by go_num, Nat.le_refl _, by omega, by omega⟩
        case round =>
          obtain ⟨n, rfl, hna, hn2, hn3⟩ := hrel
          by_cases hpn : n < s.size
          · have hn8 := (s[n]'hpn).toNat_lt
            have hst := lrun_step (q := isD) hn3 (drop_at HDR.out hna hpn)
            by_cases hq : isD (s[n]'hpn) = true
            · have HQ := Lib.hid hq
              have hm := hst.1 hq
              clear hst hq
              go_wp2_with (go_at_call 15; refine (digit_any _ _).mono ?_; rintro e w' ⟨rfl, rfl⟩; rw [HQ.out])
              go_round
              case rel => exact ⟨n + 1, by go_num, by omega, by omega, by omega⟩
              case measure => simp [intOf]; omega
            · have hq : isD (s[n]'hpn) = false := by simpa using hq
              have HRUN := Lib.hid (hst.2 hq)
              have HQ := Lib.hid hq
              clear hst hq
              have hext := ext_take HDR.out (show n = a + 1 + (n - a - 1) by omega)
              have hall : ∀ x ∈ (s.data.toList.drop (a + 1)).take (n - a - 1), isD x = true := by rw [← HRUN.out]; exact lrun_all _ _
              obtain ⟨h00, hh0, hl0⟩ := str_head hext
              have HH := Lib.hid hh0
              obtain ⟨N, hN⟩ : ∃ N, N = cap62 (nval (s.extract a n).data.toList) := ⟨_, rfl⟩
              have hNv : N = cap62 (lval (s[a]'hp :: (s.data.toList.drop (a + 1)).take (n - a - 1))) := by rw [hN, hext, nval_digits (fun x hx => by rcases List.mem_cons.1 hx with rfl | hx; exact HD.out; exact hall x hx)]
              have HNUM := Lib.hid (fun W => rnumber_pos (s.extract a n) h00 W (Nat.le_trans (ext_size s a n) hs) (by rw [HH.out]; exact hn45) (by rw [hext]; intro x hx; rcases List.mem_cons.1 hx with rfl | hx; exact .inl HD.out; exact .inl (hall x hx)))
              rw [← hN] at HNUM
              have hNle := cap62_le (nval (s.extract a n).data.toList)
              rw [← hN] at hNle
              unfold mst at hNle
              have HNV := Lib.hid hNv
              clear hext hall hh0 hl0 hN hNv
              go_wp2_with (first
                | (go_at_call 15; refine (digit_any _ _).mono ?_; rintro e w' ⟨rfl, rfl⟩; rw [HQ.out])
                | (go_at_call 16; refine (HNUM.out _).mono ?_; rintro e w' ⟨rfl, rfl⟩)
                | (at_builtin; refine wpList_append_own _ rfl _ _ 23 rfl (w.heap.size + 1) 33 i0 (.agg #[.int .i64 0, .string ⟨#[]⟩, .int .i64 0, .int .i64 0]) 4 40 Try.underlying23 hi hz0 hz1 hz2 rfl (by decide) V ts.length (tkCells ts) rfl (HR.out.alloc _) ⟨wr.heap.size, 0, none⟩ 1 1 [.int .i64 2, .string ⟨#[]⟩, .int .i64 ((N : Int)), .int .i64 (a : Int)] rfl rfl (cells_new _ _ _ _ _ _) (by simp [Value.oneCell']) (by unfold maxLen; omega) (by omega) (by simp; omega) ?_; intro v' w1 hown' hgrow _))
              go_roundw
              case rel =>
                refine ⟨n, ts ++ [tkN (cap62 (lval (s[a]'hp :: (s.data.toList.drop (a + 1)).take (n - a - 1)))) a], v', rfl, rfl, ?_, ?_, ?_⟩
                · have := HAT.out.next HDR.out (first_d HD.out HRUN.out) (by have := lrun_le isD (s.data.toList.drop (a + 1)); rw [HRUN.out] at this; exact this) (by simp)
                  rwa [show a + 1 + (n - a - 1) = n by omega] at this
                · rw [tkCells_snoc, List.length_append, cell_num HNV.out]; exact hown'
                · exact below_push HB.out HR.out hgrow (by have := HSZ0.out; omega)
              case measure => simp [intOf]; omega
          · have HRUN : Hid (lrun isD (s.data.toList.drop (a + 1)) = n - a - 1) := lrun_end hn3 (by simp; omega)
            have hext := ext_take HDR.out (show n = a + 1 + (n - a - 1) by omega)
            have hall : ∀ x ∈ (s.data.toList.drop (a + 1)).take (n - a - 1), isD x = true := by rw [← HRUN.out]; exact lrun_all _ _
            obtain ⟨h00, hh0, hl0⟩ := str_head hext
            have HH := Lib.hid hh0
            obtain ⟨N, hN⟩ : ∃ N, N = cap62 (nval (s.extract a n).data.toList) := ⟨_, rfl⟩
            have hNv : N = cap62 (lval (s[a]'hp :: (s.data.toList.drop (a + 1)).take (n - a - 1))) := by rw [hN, hext, nval_digits (fun x hx => by rcases List.mem_cons.1 hx with rfl | hx; exact HD.out; exact hall x hx)]
            have HNUM := Lib.hid (fun W => rnumber_pos (s.extract a n) h00 W (Nat.le_trans (ext_size s a n) hs) (by rw [HH.out]; exact hn45) (by rw [hext]; intro x hx; rcases List.mem_cons.1 hx with rfl | hx; exact .inl HD.out; exact .inl (hall x hx)))
            rw [← hN] at HNUM
            have hNle := cap62_le (nval (s.extract a n).data.toList)
            rw [← hN] at hNle
            unfold mst at hNle
            have HNV := Lib.hid hNv
            clear hext hall hh0 hl0 hN hNv
            go_wp2_with (first
              | (go_at_call 16; refine (HNUM.out _).mono ?_; rintro e w' ⟨rfl, rfl⟩)
              | (at_builtin; refine wpList_append_own _ rfl _ _ 23 rfl (w.heap.size + 1) 33 i0 (.agg #[.int .i64 0, .string ⟨#[]⟩, .int .i64 0, .int .i64 0]) 4 40 Try.underlying23 hi hz0 hz1 hz2 rfl (by decide) V ts.length (tkCells ts) rfl (HR.out.alloc _) ⟨wr.heap.size, 0, none⟩ 1 1 [.int .i64 2, .string ⟨#[]⟩, .int .i64 ((N : Int)), .int .i64 (a : Int)] rfl rfl (cells_new _ _ _ _ _ _) (by simp [Value.oneCell']) (by unfold maxLen; omega) (by omega) (by simp; omega) ?_; intro v' w1 hown' hgrow _))
            go_roundw
            case rel =>
              refine ⟨n, ts ++ [tkN (cap62 (lval (s[a]'hp :: (s.data.toList.drop (a + 1)).take (n - a - 1)))) a], v', rfl, rfl, ?_, ?_, ?_⟩
              · have := HAT.out.next HDR.out (first_d HD.out HRUN.out) (by have := lrun_le isD (s.data.toList.drop (a + 1)); rw [HRUN.out] at this; exact this) (by simp)
                rwa [show a + 1 + (n - a - 1) = n by omega] at this
              · rw [tkCells_snoc, List.length_append, cell_num HNV.out]; exact hown'
              · exact below_push HB.out HR.out hgrow (by have := HSZ0.out; omega)
            case measure => simp [intOf]; omega
      have hD : isD (s[a]'hp) = false := by simpa using hD
      have HD := Lib.hid hD
      clear hD
      by_cases h45 : (s[a]'hp).toNat = 45
      · have e45 : (((s[a]'hp).toNat : Int) == 45) = true := by simp; omega
        have H45 := Lib.hid h45
        clear h45
        go_wp2_with (first | (go_at_call 14; refine (letter_any _ _).mono ?_; rintro e w' ⟨rfl, rfl⟩; rw [HL.out]) | (go_at_call 15; refine (digit_any _ _).mono ?_; rintro e w' ⟨rfl, rfl⟩; rw [HD.out]))
        go_loop [6] (fun nn => ∃ n : Nat, nn = .int .i64 (n : Int) ∧ a + 1 ≤ n ∧ n ≤ s.size ∧ n - a - 1 ≤ lrun isD (s.data.toList.drop (a + 1))) (fun nn => s.size - (intOf nn).toNat)
        case atStart => exact ⟨a + 1, by go_num, Nat.le_refl _, by omega, by omega⟩
        case round =>
          obtain ⟨n, rfl, hna, hn2, hn3⟩ := hrel
          by_cases hpn : n < s.size
          · have hn8 := (s[n]'hpn).toNat_lt
            have hst := lrun_step (q := isD) hn3 (drop_at HDR.out hna hpn)
            by_cases hq : isD (s[n]'hpn) = true
            · have HQ := Lib.hid hq
              have hm := hst.1 hq
              clear hst hq
              go_wp2_with (go_at_call 15; refine (digit_any _ _).mono ?_; rintro e w' ⟨rfl, rfl⟩; rw [HQ.out])
              go_round
              case rel => exact ⟨n + 1, by go_num, by omega, by omega, by omega⟩
              case measure => simp [intOf]; omega
            · have hq : isD (s[n]'hpn) = false := by simpa using hq
              have HRUN := Lib.hid (hst.2 hq)
              have HQ := Lib.hid hq
              clear hst hq
              by_cases hm0 : n = a + 1
              · subst hm0
                go_wp2_with (go_at_call 15; refine (digit_any _ _).mono ?_; rintro e w' ⟨rfl, rfl⟩; rw [HQ.out])
                refine bodyPost_ret (v := .agg #[.slice none 0 0, .int .i64 (a : Int), .int .i64 20]) ?_ rfl ⟨?_, ?_⟩
                · simp [results, Try.results9, go_sem, cA, cB, cC]
                · exact ref_below HB0.out HB.out
                · rw [HAT.out.bad HDR.out (first_m0 H45.out (by rw [HRUN.out]; omega))]
              · have em : ((n : Int) == (a : Int) + 1) = false := by simp; omega
                have hext := ext_take HDR.out (show n = a + 1 + (n - a - 1) by omega)
                have hall : ∀ x ∈ (s.data.toList.drop (a + 1)).take (n - a - 1), isD x = true := by rw [← HRUN.out]; exact lrun_all _ _
                obtain ⟨h00, hh0, hl0⟩ := str_head hext
                have HH := Lib.hid hh0
                obtain ⟨N, hN⟩ : ∃ N, N = cap62 (nval (s.extract a n).data.toList) := ⟨_, rfl⟩
                have hNv : N = cap62 (lval ((s.data.toList.drop (a + 1)).take (n - a - 1))) := by rw [hN, hext, nval_minus H45.out hall]
                have HNUM := Lib.hid (fun W => rnumber_neg (s.extract a n) h00 W (Nat.le_trans (ext_size s a n) hs) (by rw [HH.out]; exact H45.out) (by rw [hext]; intro x hx; rcases List.mem_cons.1 hx with rfl | hx; exact .inr H45.out; exact .inl (hall x hx)))
                rw [← hN] at HNUM
                have hNle := cap62_le (nval (s.extract a n).data.toList)
                rw [← hN] at hNle
                unfold mst at hNle
                have HNV := Lib.hid hNv
                clear hext hall hh0 hl0 hN hNv
                go_wp2_with (first
                  | (go_at_call 15; refine (digit_any _ _).mono ?_; rintro e w' ⟨rfl, rfl⟩; rw [HQ.out])
                  | (go_at_call 16; refine (HNUM.out _).mono ?_; rintro e w' ⟨rfl, rfl⟩)
                  | (at_builtin; refine wpList_append_own _ rfl _ _ 23 rfl (w.heap.size + 1) 33 i0 (.agg #[.int .i64 0, .string ⟨#[]⟩, .int .i64 0, .int .i64 0]) 4 40 Try.underlying23 hi hz0 hz1 hz2 rfl (by decide) V ts.length (tkCells ts) rfl (HR.out.alloc _) ⟨wr.heap.size, 0, none⟩ 1 1 [.int .i64 2, .string ⟨#[]⟩, .int .i64 (-(N : Int)), .int .i64 (a : Int)] rfl rfl (cells_new _ _ _ _ _ _) (by simp [Value.oneCell']) (by unfold maxLen; omega) (by omega) (by simp; omega) ?_; intro v' w1 hown' hgrow _))
                go_roundw
                case rel =>
                  refine ⟨n, ts ++ [tkN (-(cap62 (lval ((s.data.toList.drop (a + 1)).take (n - a - 1))) : Int)) a], v', rfl, rfl, ?_, ?_, ?_⟩
                  · have := HAT.out.next HDR.out (first_m H45.out HRUN.out (by omega)) (by have := lrun_le isD (s.data.toList.drop (a + 1)); rw [HRUN.out] at this; exact this) (by simp)
                    rwa [show a + 1 + (n - a - 1) = n by omega] at this
                  · rw [tkCells_snoc, List.length_append, cell_neg HNV.out]; exact hown'
                  · exact below_push HB.out HR.out hgrow (by have := HSZ0.out; omega)
                case measure => simp [intOf]; omega
          · have HRUN : Hid (lrun isD (s.data.toList.drop (a + 1)) = n - a - 1) := lrun_end hn3 (by simp; omega)
            by_cases hm0 : n = a + 1
            · subst hm0
              go_wp2
              refine bodyPost_ret (v := .agg #[.slice none 0 0, .int .i64 (a : Int), .int .i64 20]) ?_ rfl ⟨?_, ?_⟩
              · simp [results, Try.results9, go_sem, cA, cB, cC]
              · exact ref_below HB0.out HB.out
              · rw [HAT.out.bad HDR.out (first_m0 H45.out (by rw [HRUN.out]; omega))]
            · have em : ((n : Int) == (a : Int) + 1) = false := by simp; omega
              have hext := ext_take HDR.out (show n = a + 1 + (n - a - 1) by omega)
              have hall : ∀ x ∈ (s.data.toList.drop (a + 1)).take (n - a - 1), isD x = true := by rw [← HRUN.out]; exact lrun_all _ _
              obtain ⟨h00, hh0, hl0⟩ := str_head hext
              have HH := Lib.hid hh0
              obtain ⟨N, hN⟩ : ∃ N, N = cap62 (nval (s.extract a n).data.toList) := ⟨_, rfl⟩
              have hNv : N = cap62 (lval ((s.data.toList.drop (a + 1)).take (n - a - 1))) := by rw [hN, hext, nval_minus H45.out hall]
              have HNUM := Lib.hid (fun W => rnumber_neg (s.extract a n) h00 W (Nat.le_trans (ext_size s a n) hs) (by rw [HH.out]; exact H45.out) (by rw [hext]; intro x hx; rcases List.mem_cons.1 hx with rfl | hx; exact .inr H45.out; exact .inl (hall x hx)))
              rw [← hN] at HNUM
              have hNle := cap62_le (nval (s.extract a n).data.toList)
              rw [← hN] at hNle
              unfold mst at hNle
              have HNV := Lib.hid hNv
              clear hext hall hh0 hl0 hN hNv
              go_wp2_with (first
                | (go_at_call 16; refine (HNUM.out _).mono ?_; rintro e w' ⟨rfl, rfl⟩)
                | (at_builtin; refine wpList_append_own _ rfl _ _ 23 rfl (w.heap.size + 1) 33 i0 (.agg #[.int .i64 0, .string ⟨#[]⟩, .int .i64 0, .int .i64 0]) 4 40 Try.underlying23 hi hz0 hz1 hz2 rfl (by decide) V ts.length (tkCells ts) rfl (HR.out.alloc _) ⟨wr.heap.size, 0, none⟩ 1 1 [.int .i64 2, .string ⟨#[]⟩, .int .i64 (-(N : Int)), .int .i64 (a : Int)] rfl rfl (cells_new _ _ _ _ _ _) (by simp [Value.oneCell']) (by unfold maxLen; omega) (by omega) (by simp; omega) ?_; intro v' w1 hown' hgrow _))
              go_roundw
              case rel =>
                refine ⟨n, ts ++ [tkN (-(cap62 (lval ((s.data.toList.drop (a + 1)).take (n - a - 1))) : Int)) a], v', rfl, rfl, ?_, ?_, ?_⟩
                · have := HAT.out.next HDR.out (first_m H45.out HRUN.out (by omega)) (by have := lrun_le isD (s.data.toList.drop (a + 1)); rw [HRUN.out] at this; exact this) (by simp)
                  rwa [show a + 1 + (n - a - 1) = n by omega] at this
                · rw [tkCells_snoc, List.length_append, cell_neg HNV.out]; exact hown'
                · exact below_push HB.out HR.out hgrow (by have := HSZ0.out; omega)
              case measure => simp [intOf]; omega
      have e45 : (((s[a]'hp).toNat : Int) == 45) = false := by simp; omega
      have H45 := Lib.hid h45
      clear h45
      go_wp2_with (first | (go_at_call 14; refine (letter_any _ _).mono ?_; rintro e w' ⟨rfl, rfl⟩; rw [HL.out]) | (go_at_call 15; refine (digit_any _ _).mono ?_; rintro e w' ⟨rfl, rfl⟩; rw [HD.out]))
      refine bodyPost_ret (v := .agg #[.slice none 0 0, .int .i64 (a : Int), .int .i64 20]) ?_ rfl ⟨?_, ?_⟩
      · simp [results, Try.results9, go_sem, cA, cB, cC]
      · exact ref_below HB0.out HB.out
      · rw [HAT.out.bad HDR.out (first_n HP.out HL.out HD.out H45.out H10.out)]
    · have hae : a = s.data.toList.length := by simp; omega
      obtain ⟨A, cp, hV⟩ := row_slice HR.out
      have HOK : Hid (lcut 0 s.data.toList = .ok ts) := by
        have := HAT.out
        rw [hae] at this
        exact this.ends
      subst hV
      clear hae
      go_wp2
      refine bodyPost_ret (v := .agg #[.slice A ts.length cp, .int .i64 0, .int .i64 0]) ?_ rfl ⟨?_, ?_⟩
      · simp [results, Try.results9, go_sem, cA, cB, cC]
      · exact ref_below HB0.out HB.out
      · rw [HOK.out]; exact ⟨A, cp, rfl, ref_row HR.out⟩
end Go.Proofs.Ytlfcmlaffhcaiaa
