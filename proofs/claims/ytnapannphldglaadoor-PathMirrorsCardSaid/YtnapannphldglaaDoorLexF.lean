/- gessoref10's small functions by value; runs, step by step. -/
import Derived.Test.YtnapannphldglaaDoorLexE
namespace Go.Proofs.YtnapannphldglaaDoor
open Go Go.RowKit

theorem lrun_step {q : UInt8 → Bool} : ∀ {l : List UInt8} {m : Nat} {x : UInt8}, m ≤ lrun q l → l[m]? = some x → (q x = true → m + 1 ≤ lrun q l) ∧ (q x = false → lrun q l = m)
  | [], m, x, _, h => by simp at h
  | c :: r, 0, x, _, h => by
    have : c = x := by simpa using h
    subst this
    unfold lrun
    constructor
    · intro hq; rw [if_pos hq]; omega
    · intro hq; rw [if_neg (by simp [hq])]
  | c :: r, m + 1, x, hm, h => by
    unfold lrun at hm ⊢
    split at hm
    · rename_i hc
      rw [if_pos hc]
      have := lrun_step (q := q) (l := r) (m := m) (x := x) (by omega) (by simpa using h)
      exact ⟨fun hq => by have := this.1 hq; omega, fun hq => by have := this.2 hq; omega⟩
    · omega
theorem lrun_end {q : UInt8 → Bool} {l : List UInt8} {m : Nat} (h : m ≤ lrun q l) (hl : l.length ≤ m) : lrun q l = m := by
  have := lrun_le q l
  omega

/-- What the digits among bytes come to. -/
def nval (l : List UInt8) : Nat := lval (l.filter fun c => decide (c.toNat ≠ 45))
theorem nval_snoc_m {l : List UInt8} {c : UInt8} (h : c.toNat = 45) : nval (l ++ [c]) = nval l := by unfold nval; rw [List.filter_append]; simp [h]
theorem nval_snoc_d {l : List UInt8} {c : UInt8} (h : ¬ c.toNat = 45) : nval (l ++ [c]) = 10 * nval l + (c.toNat - 48) := by
  unfold nval; rw [List.filter_append, List.filter_cons_of_pos (by simp [h]), List.filter_nil, lval_snoc]
theorem nval_take (l : List UInt8) (k : Nat) : nval (l.take k) ≤ nval l := by
  conv => rhs; rw [← List.take_append_drop k l]
  unfold nval
  rw [List.filter_append]
  unfold lval
  rw [List.foldl_append]
  exact foldl_ge _ _
theorem nval_digits {l : List UInt8} (h : ∀ x ∈ l, isD x = true) : nval l = lval l := by
  unfold nval
  rw [List.filter_eq_self.2 (fun x hx => by have := isD_iff.1 (h x hx); simp; omega)]
theorem nval_minus {c : UInt8} {r : List UInt8} (hc : c.toNat = 45) (h : ∀ x ∈ r, isD x = true) : nval (c :: r) = lval r := by
  have := nval_digits h
  unfold nval at this ⊢
  rw [List.filter_cons_of_neg (by simp [hc])]
  exact this

theorem nval_big {s : ByteArray} {k : Nat} {x : UInt8} {N : Nat} (hn : nval (s.data.toList.take (k + 1)) = 10 * N + (x.toNat - 48)) (h1 : 48 ≤ x.toNat) (h2 : x.toNat ≤ 57) (h : (4611686018427387904 - ((x.toNat : Int) - 48)) / 10 < (N : Int)) : cap62 (nval s.data.toList) = 4611686018427387904 := by
  have := nval_take s.data.toList (k + 1)
  refine cap62_big ?_
  unfold mst
  omega

end Go.Proofs.YtnapannphldglaaDoor
