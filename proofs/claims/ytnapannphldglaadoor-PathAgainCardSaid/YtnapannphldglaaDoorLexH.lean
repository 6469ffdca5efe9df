/- Tokens as they read: gessokeep.Tokens of the same ones; gessolaw10.wakes. -/
import Derived.Laws.OwnMore
import Derived.Test.YtnapannphldglaaDoorLexG
namespace Go.Proofs.YtnapannphldglaaDoor
open Go Go.RowKit

/-- At block g, place i, lies t. -/
structure TkAt (w : World) (g i : Nat) (t : Tk) : Prop where
  k : w.cell? ⟨g, i * 4, none⟩ = some (.int .i64 t.k)
  s : w.cell? ⟨g, i * 4 + 1, none⟩ = some (.string ⟨t.s.toArray⟩)
  n : w.cell? ⟨g, i * 4 + 2, none⟩ = some (.int .i64 t.n)
  p : w.cell? ⟨g, i * 4 + 3, none⟩ = some (.int .i64 (t.p : Int))
/-- The slice at A reads as ts. -/
def TV (w : World) (A : Option Addr) (ts : List Tk) : Prop := ts = [] ∨ ∃ g, A = some ⟨g, 0, none⟩ ∧ ∀ i t, ts[i]? = some t → TkAt w g i t
theorem tkCells_get : ∀ (ts : List Tk) (i : Nat) (t : Tk), ts[i]? = some t → ∀ f, f < 4 → (tkCells ts)[i * 4 + f]? = (tkCell t)[f]?
  | [], i, t, h, _, _ => by simp at h
  | x :: ts, 0, t, h, f, hf => by
    have : x = t := by simpa using h
    subst this
    show (tkCell x ++ tkCells ts)[0 * 4 + f]? = _
    rw [List.getElem?_append_left (by simp [tkCell]; omega)]
    simp
  | x :: ts, i + 1, t, h, f, hf => by
    have := tkCells_get ts i t (by simpa using h) f hf
    show (tkCell x ++ tkCells ts)[(i + 1) * 4 + f]? = _
    rw [List.getElem?_append_right (by simp [tkCell]; omega), ← this]
    congr 1
    simp [tkCell]
    omega
theorem tkCells_len (ts : List Tk) : (tkCells ts).length = ts.length * 4 := by
  induction ts with
  | nil => rfl
  | cons x ts ih => show (tkCell x ++ tkCells ts).length = _; rw [List.length_append, ih]; simp [tkCell]; omega
theorem TV.of_row {w : World} {base c : Nat} {e : TypeId} {A : Option Addr} {ts : List Tk} (h : w.ownsRow base e 4 (.slice A ts.length c) ts.length (tkCells ts)) : TV w A ts := by
  rcases h.2 with ⟨hv, h0⟩ | ⟨g, cap, cur, hv, _⟩
  · left; exact List.eq_nil_of_length_eq_zero h0
  · right
    have hA : A = some ⟨g, 0, none⟩ := by injection hv
    subst hA
    refine ⟨g, rfl, fun i t ht => ?_⟩
    have hi := (List.getElem?_eq_some_iff.1 ht).1
    have c0 := h.cellAt (i * 4) (by omega)
    have c1 := h.cellAt (i * 4 + 1) (by omega)
    have c2 := h.cellAt (i * 4 + 2) (by omega)
    have c3 := h.cellAt (i * 4 + 3) (by omega)
    have e0 := tkCells_get ts i t ht 0 (by omega)
    have e1 := tkCells_get ts i t ht 1 (by omega)
    have e2 := tkCells_get ts i t ht 2 (by omega)
    have e3 := tkCells_get ts i t ht 3 (by omega)
    exact ⟨c0.trans e0, c1.trans e1, c2.trans e2, c3.trans e3⟩
theorem TkAt.lt {w : World} {g i : Nat} {t : Tk} (h : TkAt w g i t) : g < w.heap.size := World.block_lt_of_cell? w (a := ⟨g, i * 4, none⟩) h.k
theorem TkAt.below {w w' : World} {g i : Nat} {t : Tk} (h : TkAt w g i t) (hb : Below w.heap.size w w') : TkAt w' g i t :=
  ⟨(hb.cell (p := ⟨g, _, none⟩) h.lt).trans h.k, (hb.cell (p := ⟨g, _, none⟩) h.lt).trans h.s, (hb.cell (p := ⟨g, _, none⟩) h.lt).trans h.n, (hb.cell (p := ⟨g, _, none⟩) h.lt).trans h.p⟩
theorem TV.below {w w' : World} {A : Option Addr} {ts : List Tk} (h : TV w A ts) (hb : Below w.heap.size w w') : TV w' A ts := by
  rcases h with h | ⟨g, hA, h⟩
  · exact .inl h
  · exact .inr ⟨g, hA, fun i t ht => (h i t ht).below hb⟩

theorem below_drewN' {B : Nat} {a w : World} (h : Below B a w) (n : Nat) : Below B a (w.drewN n) := ⟨h.os, h.tape, h.output, h.size, h.block⟩
theorem TV.alloc {w : World} {A : Option Addr} {ts : List Tk} (h : TV w A ts) (o : Obj) : TV (w.alloc o) A ts := h.below ((Below.refl _ w).alloc (Nat.le_refl _) o)
theorem row_len {w : World} {base size k : Nat} {e : TypeId} {v : Value} {xs : List Value} (h : w.ownsRow base e size v k xs) : k ≤ maxLen := by
  rcases h.2 with ⟨_, h0⟩ | ⟨g, cap, cur, _, _, _, h1, h2, _⟩
  · omega
  · exact Nat.le_trans h1 h2
theorem drewN_below (w : World) (q : Nat) : Below w.heap.size w (w.drewN q) := below_drewN' (Below.refl _ w) q

def bsA : ByteArray := ⟨#[77, 32, 49, 48, 44, 45, 53, 10, 122]⟩
def bsB : ByteArray := ⟨#[77, 32, 49, 46, 53]⟩
def tsA : List Tk := [⟨1, [77], 0, 0⟩, ⟨2, [], 10, 2⟩, ⟨2, [], -5, 5⟩, ⟨3, [], 0, 7⟩, ⟨1, [122], 0, 8⟩]
theorem cut_A : lcut 0 bsA.data.toList = .ok tsA := by rfl
theorem cut_B : lcut 0 bsB.data.toList = .error 3 := by rfl
theorem cut_wA (w : World) : Calls Tryd.prog 25 #[.string ⟨#[77, 32, 49, 48, 44, 45, 53, 10, 122]⟩] w fun e w' => ∃ g c, e = .returned (.tuple #[.slice (some ⟨g, 0, none⟩) 5 c, .int .i64 0, .int .i64 0]) ∧ g < w'.heap.size ∧ w'.cell? ⟨g, 1, none⟩ = some (.string ⟨#[77]⟩) ∧ w'.cell? ⟨g, 10, none⟩ = some (.int .i64 (-5)) ∧ w'.cell? ⟨g, 12, none⟩ = some (.int .i64 3) ∧ w'.cell? ⟨g, 19, none⟩ = some (.int .i64 8) ∧ Below w.heap.size w w' := by
  refine (cut_any bsA w (by decide)).mono ?_
  rintro e w' ⟨hb, h⟩
  rw [cut_A] at h
  obtain ⟨v, rfl, hr⟩ := h
  obtain ⟨A, c, rfl⟩ := row_slice hr
  have hv := TV.of_row hr
  rcases hv with h0 | ⟨g, rfl, hg⟩
  · cases h0
  · have t0 := hg 0 _ rfl
    have t2 := hg 2 _ rfl
    have t3 := hg 3 _ rfl
    have t4 := hg 4 _ rfl
    exact ⟨g, c, rfl, t0.lt, t0.s, t2.n, t3.k, t4.p, hb⟩
theorem cut_wB (w : World) : Calls Tryd.prog 25 #[.string ⟨#[77, 32, 49, 46, 53]⟩] w fun e w' => e = .returned (.tuple #[.slice none 0 0, .int .i64 3, .int .i64 20]) ∧ Below w.heap.size w w' := by
  refine (cut_any bsB w (by decide)).mono ?_
  rintro e w' ⟨hb, h⟩
  rw [cut_B] at h
  exact ⟨h, hb⟩
end Go.Proofs.YtnapannphldglaaDoor
