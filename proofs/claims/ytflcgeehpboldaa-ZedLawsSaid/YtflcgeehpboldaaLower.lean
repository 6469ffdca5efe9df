/- trim of an own block, shiftDown and shiftUp at an own block; the numbers of Shr and Shl. -/
import Derived.Test.YtflcgeehpboldaaMake
import Derived.Test.YtflcgeehpboldaaDown
namespace Go.Proofs.Ytflcgeehpboldaa
open Go.RowKit

/-- trim of a block of the call's own. -/
theorem trim_own (L : List Nat) (g n B : Nat) (w : World) (h : Own .u64 82 w g L) (hB : B ≤ g) (hl : L.length = n) (hL : Lim B64 L) (hn : n ≤ maxLen) :
    Calls Try.prog 66 #[.slice (some ⟨g, 0, none⟩) n n] w fun e w' => (∃ k, k ≤ n ∧ e = .returned (.slice (some ⟨g, 0, none⟩) k n) ∧ Fr .u64 82 w B (some ⟨g, 0, none⟩) k n (limbs B64 (val B64 L))) ∧ w = w' := by
  refine (trim_any L (some ⟨g, 0, none⟩) n n w (h.rd hl (fun j x hx => by simpa using hx)) hL hn (Nat.le_refl _)).mono ?_
  rintro e w' ⟨⟨k, hk, rfl, hr⟩, rfl⟩
  refine ⟨⟨k, hk, rfl, ?_⟩, rfl⟩
  have hk' : (limbs B64 (val B64 L)).length = k := hr.1
  have := Fr.of_own h hB (k := k) (by omega) (by omega)
  rw [← hk', limbs_take B64_two hL, hl, hk'] at this
  exact this

set_option maxHeartbeats 1000000 in
theorem shiftDown_at (S : Int) (lx seg : List Nat) (s g n m c : Nat) (X : Option Addr) (w : World) (hz : Own .u64 82 w g seg) (hn : seg.length = m)
    (hx : Rd .u64 w X m lx) (hoff : Off X m g) (Lx : Lim B64 lx) (hs : s < 64) (hmn : n = m) (hm : m ≤ maxLen) (hS : S = (s : Int)) :
    Calls Try.prog 97 #[.slice (some ⟨g, 0, none⟩) n n, .slice X m c, .int .u64 S] w fun e w' => e = .returned (.tuple #[]) ∧
      (∃ P, P.length = m ∧ Lim B64 P ∧ val B64 P = val B64 lx / 2 ^ s ∧ Own .u64 82 w' g P) ∧ Only g w w' := by
  subst hS
  refine (shiftDown_any lx [] seg [] s g 0 n n m c X w (by simpa using hz) rfl hn (Ahead.far hx hoff) Lx hs hmn hm).mono ?_
  rintro e w' ⟨he, ⟨P, h1, h2, h3, h4⟩, ho⟩
  exact ⟨he, ⟨P, h1, h2, h3, by simpa using h4⟩, ho⟩

theorem pow64 (q : Nat) : B64 ^ q = 2 ^ (64 * q) := by rw [Nat.pow_mul]; rfl
theorem low_zero {V k sh : Nat} (h : (limbs B64 V).length = k) (hk : k ≤ sh / 64) : V / 2 ^ sh = 0 := by
  apply Nat.div_eq_of_lt
  have h1 := lt_pow_limbs B64_two V
  rw [h, pow64] at h1
  exact Nat.lt_of_lt_of_le h1 (Nat.pow_le_pow_right (by omega) (by omega))
theorem low_parts {xs : List Nat} {V sh k : Nat} (hx : limbs B64 V = xs) (hl : xs.length = k) (hk : sh / 64 < k) : val B64 (xs.drop (sh / 64)) / 2 ^ (sh % 64) = V / 2 ^ sh := by
  have hL : Lim B64 xs := by rw [← hx]; exact lim_limbs B64_two V
  rw [val_drop hL _ (by omega) (by decide), Nat.div_div_eq_div_mul, pow64, ← Nat.pow_add, show 64 * (sh / 64) + sh % 64 = sh by omega, ← hx, val_limbs B64_two]

theorem shiftUp_at (S : Int) (lx seg pre : List Nat) (s g o n cz m c : Nat) (X : Option Addr) (w : World) (hz : Own .u64 82 w g (pre ++ seg)) (ho : pre.length = o) (hn : seg.length = n)
    (hx : Rd .u64 w X m lx) (hoff : Off X m g) (Lx : Lim B64 lx) (hs : s < 64) (hmn : n = m ∧ val B64 lx * 2 ^ s < B64 ^ m ∨ n = m + 1) (hm : n ≤ maxLen) (hS : S = (s : Int)) :
    Calls Try.prog 95 #[.slice (some ⟨g, o, none⟩) n cz, .slice X m c, .int .u64 S] w fun e w' => e = .returned (.tuple #[]) ∧
      (∃ P, P.length = n ∧ Lim B64 P ∧ val B64 P = val B64 lx * 2 ^ s ∧ Own .u64 82 w' g (pre ++ P)) ∧ Only g w w' := by
  subst hS
  refine (shiftUp_any lx pre seg [] s g o n cz m c X w (by simpa using hz) ho hn hx hoff Lx hs hmn hm).mono ?_
  rintro e w' ⟨he, ⟨P, h1, h2, h3, h4⟩, ho⟩
  exact ⟨he, ⟨P, h1, h2, h3, by simpa using h4⟩, ho⟩

theorem up_parts (V sh q : Nat) (hq : q = sh / 64) (P : List Nat) (hP : val B64 P = V * 2 ^ (sh % 64)) : val B64 (List.replicate q 0 ++ P) = V * 2 ^ sh := by
  rw [val_append, val_zeros, List.length_replicate, hP, pow64, Nat.zero_add, Nat.mul_left_comm, ← Nat.pow_add]
  congr 2; omega

/-- The call returns a slice of its own with the numbers l, and no error. -/
def GivesE (K : IntKind) (t : TypeId) (w : World) (l : List Nat) (err : Nat) (e : Ending) (w' : World) : Prop :=
  ∃ A n c, e = .returned (.tuple #[.slice A n c, .int .i64 (err : Int)]) ∧ n ≤ c ∧ c ≤ maxLen ∧ Fr K t w' w.heap.size A n c l ∧ Below w.heap.size w w'

end Go.Proofs.Ytflcgeehpboldaa
