/- Texts of numbers in an array; a path of three parts. -/
import Derived.Test.YtnapannphldglaaDoorPathP3
import Derived.Test.YtnapannphldglaaDoorPathT2
import Derived.Test.YtnapannphldglaaDoorPathBk
namespace Go.Proofs.YtnapannphldglaaDoor
open Go Go.RowKit

theorem bk_ofs {w : World} {s : ByteArray} {t : List UInt8} {a : List Sg} (hs : s.data.toList = t) (hl : t.length ≤ 1048576) (h : LtIn w) (ha : ofP t = .ok a) :
    Calls Tryd.prog 14 #[.string s] w fun e w' => ∃ A c, e = .returned (.tuple #[.slice A a.length c, .int .i64 0, .int .i64 0]) ∧ SGV w' A a ∧ Below w.heap.size w w' := by
  have h1 : s.size = t.length := by rw [← hs]; simp
  exact bk_of (by omega) h (by rw [hs]; exact ha)
theorem it_0 : Lib.itoa 0 = [48] := itoa_0
theorem it_1 : Lib.itoa 1 = [49] := by unfold Lib.itoa; simp [Lib.decDigits_one]
theorem it_2 : Lib.itoa 2 = [50] := by unfold Lib.itoa; simp [Lib.decDigits_one]
theorem i16_len {v : Int} (h : i16 v) : (Lib.itoa v).length ≤ 20 := itoa_len v (by unfold i16 at h; omega)
/-- The numbers as they came, in a block. -/
def nC (n : Nat → Int) (m : Nat) : List Value := (List.range m).map fun j => .int .i16 (n j)
/-- The texts told so far. -/
def dT (n : Nat → Int) (k j : Nat) : ByteArray := if j < k then ⟨(Lib.itoa (n j)).toArray⟩ else ⟨#[]⟩
def dC (n : Nat → Int) (m k : Nat) : List Value := (List.range m).map fun j => .string (dT n k j)
def CB (w : World) (g : Nat) (cs : List Value) (T : TypeId) : Prop := w.heap[g]? = some (.cells cs.toArray T (0, 0))
theorem CB.below {w w' : World} {g B : Nat} {cs : List Value} {T : TypeId} (h : CB w g cs T) (hb : Below B w w') (hg : g < B) : CB w' g cs T := (hb.block g hg).trans h
theorem CB.lt {w : World} {g : Nat} {cs : List Value} {T : TypeId} (h : CB w g cs T) : g < w.heap.size := heap_none h
theorem CB.fz {w : World} {g : Nat} {cs : List Value} {T : TypeId} (h : CB w g cs T) (i : Nat) : w.frozen? ⟨g, i, none⟩ = false := frozen_of_row w g i _ _ h
theorem CB.cell {w : World} {g i : Nat} {cs : List Value} {T : TypeId} {v : Value} (h : CB w g cs T) (hi : cs[i]? = some v) : w.cell? ⟨g, i, none⟩ = some v := by
  rw [cell_of_row w g i _ _ (0, 0) h]; simpa using hi
theorem nC_at {n : Nat → Int} {m i : Nat} (h : i < m) : (nC n m)[i]? = some (.int .i16 (n i)) := by simp [nC, h]
theorem dC_at {n : Nat → Int} {m k i : Nat} (h : i < m) : (dC n m k)[i]? = some (.string (dT n k i)) := by simp [dC, h]
theorem dC_put {n : Nat → Int} {m k : Nat} (_h : k < m) : (dC n m k).toArray.setIfInBounds k (.string ⟨(Lib.itoa (n k)).toArray⟩) = (dC n m (k + 1)).toArray := by
  apply Array.ext'
  simp only [Array.toList_setIfInBounds]
  apply List.ext_getElem?
  intro i
  rw [List.getElem?_set]
  by_cases hi : i < m
  · by_cases hk : k = i
    · subst hk
      rw [dC_at hi]
      simp [dC, hi, dT]
    · rw [dC_at hi, if_neg hk, dC_at hi]
      have : dT n k i = dT n (k + 1) i := by
        unfold dT
        by_cases q : i < k
        · rw [if_pos q, if_pos (by omega)]
        · rw [if_neg q, if_neg (by omega)]
      rw [this]
  · have e : ∀ k, (dC n m k)[i]? = none := fun k => List.getElem?_eq_none (by simp [dC]; omega)
    rw [e, e]
    split
    · rename_i q; subst q; simp [dC, hi]
    · rfl
theorem CB.put {w : World} {g k m : Nat} {n : Nat → Int} {T : TypeId} (h : CB w g (dC n m k) T) (hk : k < m) : CB (w.setCell ⟨g, k, none⟩ (.string ⟨(Lib.itoa (n k)).toArray⟩)) g (dC n m (k + 1)) T := by
  have := heap_setCell_same w g k _ _ (.string ⟨(Lib.itoa (n k)).toArray⟩) h
  unfold CB
  rw [this, ← dC_put hk]
theorem CB.other {w : World} {g g' k : Nat} {cs : List Value} {T : TypeId} {v : Value} (h : CB w g cs T) (hg : g' ≠ g) : CB (w.setCell ⟨g', k, none⟩ v) g cs T := by
  unfold CB
  rw [heap_setCell_other w ⟨g', k, none⟩ g v (fun e => hg e.symm)]
  exact h
theorem dT_all {n : Nat → Int} {m i : Nat} (h : i < m) : dT n m i = ⟨(Lib.itoa (n i)).toArray⟩ := by unfold dT; rw [if_pos h]
theorem Sg.cells (s : Sg) : s.v = [.int .i64 s.k, .int .i64 s.v0, .int .i64 s.v1, .int .i64 s.v2, .int .i64 s.v3, .int .i64 s.v4, .int .i64 s.v5, .int .i64 s.w] := rfl
end Go.Proofs.YtnapannphldglaaDoor
