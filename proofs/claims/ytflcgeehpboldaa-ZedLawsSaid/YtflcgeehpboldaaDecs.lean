/- The decimal digits of a number, so many of them, noughts ahead; writing them. -/
import Derived.Test.YtflcgeehpboldaaMem
namespace Go.Proofs.Ytflcgeehpboldaa
open Go.RowKit

/-- The last L decimal digits of V, as letters' numbers, the highest first. -/
def decs (V : Nat) : Nat → List Nat
  | 0 => []
  | L + 1 => decs (V / 10) L ++ [48 + V % 10]
theorem length_decs (V L : Nat) : (decs V L).length = L := by
  induction L generalizing V with
  | zero => rfl
  | succ L ih => rw [decs, List.length_append, ih]; rfl
theorem decs_add (V i j : Nat) : decs V (i + j) = decs (V / 10 ^ j) i ++ decs V j := by
  induction j generalizing V with
  | zero => simp [decs]
  | succ j ih =>
    rw [← Nat.add_assoc, decs, ih, decs, ← List.append_assoc, Nat.pow_succ, Nat.mul_comm, ← Nat.div_div_eq_div_mul]
theorem decs_mod (V : Nat) {L k : Nat} (h : L ≤ k) : decs (V % 10 ^ k) L = decs V L := by
  induction L generalizing V k with
  | zero => rfl
  | succ L ih =>
    obtain ⟨m, rfl⟩ : ∃ m, k = m + 1 := ⟨k - 1, by omega⟩
    rw [decs, decs]
    have h1 : V % 10 ^ (m + 1) / 10 = V / 10 % 10 ^ m := by
      rw [Nat.pow_succ, Nat.mul_comm, Nat.mod_mul_right_div_self]
    have h2 : V % 10 ^ (m + 1) % 10 = V % 10 := by
      rw [Nat.pow_succ, Nat.mod_mul_left_mod]
    rw [h1, h2, ih _ (by omega)]
theorem decs_one (V L : Nat) : decs V (L + 1) = (48 + V / 10 ^ L % 10) :: decs V L := by
  rw [Nat.add_comm, decs_add]; rfl
theorem decs_range (V L : Nat) : ∀ x, x ∈ decs V L → 48 ≤ x ∧ x ≤ 57 := by
  induction L generalizing V with
  | zero => intro x hx; cases hx
  | succ L ih =>
    intro x hx
    rw [decs] at hx
    rcases List.mem_append.1 hx with hx | hx
    · exact ih _ x hx
    · rw [List.mem_singleton] at hx; omega

/-- Only the blocks of S have changed; there may be new ones. -/
structure OnlyS (S : Nat → Prop) (w w' : World) : Prop where
  os : w'.os = w.os
  tape : w'.tape = w.tape
  output : w'.output = w.output
  size : w.heap.size ≤ w'.heap.size
  block : ∀ k, k < w.heap.size → ¬ S k → w'.heap[k]? = w.heap[k]?
section
variable {S : Nat → Prop} {w w1 w' : World}
theorem OnlyS.refl (S : Nat → Prop) (w : World) : OnlyS S w w := ⟨rfl, rfl, rfl, Nat.le_refl _, fun _ _ _ => rfl⟩
theorem OnlyS.trans (h : OnlyS S w w1) (k : OnlyS S w1 w') : OnlyS S w w' :=
  ⟨k.os.trans h.os, k.tape.trans h.tape, k.output.trans h.output, Nat.le_trans h.size k.size, fun i hi hg => (k.block i (Nat.lt_of_lt_of_le hi h.size) hg).trans (h.block i hi hg)⟩
theorem OnlyS.only {g : Nat} (h : OnlyS S w w1) (hg : S g) (k : Only g w1 w') : OnlyS S w w' :=
  h.trans ⟨k.os, k.tape, k.output, k.size, fun i hi hs => k.block i hi (fun e => hs (by rw [e]; exact hg))⟩
theorem OnlyS.setCell {g : Nat} (h : OnlyS S w w1) (hg : S g) (i : Nat) (u : Value) : OnlyS S w (w1.setCell ⟨g, i, none⟩ u) := h.only hg ((Only.refl _ _).setCell i u)
end
theorem only_drawn {g : Nat} {w w' : World} (h : Only g w w') (q : Nat) : Only g w (w'.drewN q) := ⟨h.os, h.tape, h.output, h.size, h.block⟩
end Go.Proofs.Ytflcgeehpboldaa
