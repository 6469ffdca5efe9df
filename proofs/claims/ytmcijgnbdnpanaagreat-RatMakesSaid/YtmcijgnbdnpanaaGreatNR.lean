/- Numbers in memory, told by their value alone: contracts of nat for laws. -/
import Derived.Test.YtmcijgnbdnpanaaGreatGcdAll
import Derived.Test.YtmcijgnbdnpanaaGreatSums
namespace Go.Proofs.YtmcijgnbdnpanaaGreat
open Go.RowKit

/-- The slice holds the number V, in at most k limbs. -/
def NR (w : World) (A : Option Addr) (n c V k : Nat) : Prop := ∃ l, Rd .u64 w A n l ∧ Lim B64 l ∧ val B64 l = V ∧ n ≤ c ∧ n ≤ k
/-- .. as its own limbs. -/
def NG (w : World) (A : Option Addr) (n c V k : Nat) : Prop := Rd .u64 w A n (limbs B64 V) ∧ n ≤ c ∧ n ≤ k
/-- The call tells the number V, in at most k limbs. -/
def GivesN (w : World) (V k : Nat) (e : Ending) (w' : World) : Prop :=
  ∃ A n c, e = .returned (.slice A n c) ∧ NG w' A n c V k ∧ Below w.heap.size w w'

section
variable {w w' : World} {A B : Option Addr} {n c m d U V k k1 k2 : Nat}
theorem NG.nr (h : NG w A n c V k) : NR w A n c V k := ⟨_, h.1, lim_limbs B64_two _, val_limbs B64_two _, h.2.1, h.2.2⟩
theorem NR.below (h : NR w A n c V k) (hb : Below w.heap.size w w') : NR w' A n c V k := by
  obtain ⟨l, h1, h2, h3, h4, h5⟩ := h
  exact ⟨l, h1.below hb, h2, h3, h4, h5⟩
theorem NG.below (h : NG w A n c V k) (hb : Below w.heap.size w w') : NG w' A n c V k := ⟨h.1.below hb, h.2.1, h.2.2⟩
theorem NR.lt (h : NR w A n c V k) : V < B64 ^ k := by
  obtain ⟨l, h1, h2, h3, h4, h5⟩ := h
  have := val_lt h2
  rw [h3, h1.1] at this
  exact Nat.lt_of_lt_of_le this (Nat.pow_le_pow_right (by decide) h5)
theorem NR.nil (w : World) (k : Nat) : NR w none 0 0 0 k := ⟨[], Rd.nil, Lim.nil, rfl, Nat.le_refl _, Nat.zero_le _⟩
theorem NR.more (h : NR w A n c V k) (hk : k ≤ k1) : NR w A n c V k1 := by
  obtain ⟨l, h1, h2, h3, h4, h5⟩ := h
  exact ⟨l, h1, h2, h3, h4, by omega⟩
theorem GivesS.toN {w0 : World} {e : Ending} (h : GivesS .u64 91 w0 (limbs B64 V) e w') (hV : V < B64 ^ k) : GivesN w0 V k e w' := by
  obtain ⟨A, n, c, rfl, h1, h2, h3, h4⟩ := h
  refine ⟨A, n, c, rfl, ⟨h3.rd, h1, ?_⟩, h4⟩
  rw [← h3.1]; exact length_limbs_le B64_two hV
theorem pow_sumN {a b k k1 k2 : Nat} (ha : a < B64 ^ k1) (hb : b < B64 ^ k2) (h1 : k1 + 1 ≤ k) (h2 : k2 + 1 ≤ k) : a + b < B64 ^ k := by
  obtain ⟨j, rfl⟩ : ∃ j, k = j + 1 := ⟨k - 1, by omega⟩
  have e1 : B64 ^ k1 ≤ B64 ^ j := Nat.pow_le_pow_right (by decide) (by omega)
  have e2 : B64 ^ k2 ≤ B64 ^ j := Nat.pow_le_pow_right (by decide) (by omega)
  have h3 : B64 ^ j * 2 ≤ B64 ^ (j + 1) := by rw [Nat.pow_succ]; exact Nat.mul_le_mul_left _ (by decide)
  omega
theorem add_nr (k : Nat) (X : NR w A n c U k1) (Y : NR w B m d V k2) (h1 : k1 + 1 ≤ k) (h2 : k2 + 1 ≤ k) (hk : k ≤ 100000) :
    Calls Tryz.prog 118 #[.slice A n c, .slice B m d] w (GivesN w (U + V) k) := by
  have hs := pow_sumN X.lt Y.lt h1 h2
  obtain ⟨la, a1, a2, rfl, a4, a5⟩ := X
  obtain ⟨lb, b1, b2, rfl, b4, b5⟩ := Y
  exact (add_any la lb A B n c m d w a1 b1 a2 b2 (by omega) a4 b4).mono fun e w' h => h.toN hs
theorem mul_nr (k : Nat) (X : NR w A n c U k1) (Y : NR w B m d V k2) (hk : k1 + k2 = k) (hm : k ≤ 100000) (hfew : k1 ≤ 40 ∨ k2 ≤ 40) :
    Calls Tryz.prog 112 #[.slice A n c, .slice B m d] w (GivesN w (U * V) k) := by
  have hs : U * V < B64 ^ k := by
    rw [← hk, Nat.pow_add]
    have h1 := X.lt
    have h2 := Y.lt
    exact Nat.mul_lt_mul'' h1 h2
  obtain ⟨la, a1, a2, rfl, a4, a5⟩ := X
  obtain ⟨lb, b1, b2, rfl, b4, b5⟩ := Y
  exact (mul_few la lb A B n c m d w a1 b1 a2 b2 (by omega) a4 b4 (by omega)).mono fun e w' h => h.toN hs
theorem cmp_nr (X : NR w A n c U k1) (Y : NR w B m d V k2) (h1 : k1 ≤ 100000) (h2 : k2 ≤ 100000) :
    Calls Tryz.prog 134 #[.slice A n c, .slice B m d] w fun e w' => e = .returned (.int .i64 (cmpN U V)) ∧ Below w.heap.size w w' := by
  obtain ⟨la, a1, a2, rfl, a4, a5⟩ := X
  obtain ⟨lb, b1, b2, rfl, b4, b5⟩ := Y
  refine (cmp_any la lb A B n c m d w a1 b1 a2 b2 (by unfold maxLen; omega) (by unfold maxLen; omega) a4 b4).mono ?_
  rintro e w' ⟨rfl, q, rfl⟩
  exact ⟨rfl, below_drawn (Below.refl _ _) q⟩
theorem gcd_nr (X : NR w A n c U k) (Y : NR w B m d V k) (hk : k ≤ 100000) :
    Calls Tryz.prog 137 #[.slice A n c, .slice B m d] w (GivesN w (Nat.gcd U V) k) := by
  have hs : Nat.gcd U V < B64 ^ k := by
    rcases Nat.eq_zero_or_pos U with h0 | h0
    · rw [h0, Nat.gcd_zero_left]; exact Y.lt
    · exact Nat.lt_of_le_of_lt (Nat.gcd_le_left _ h0) X.lt
  obtain ⟨la, a1, a2, rfl, a4, a5⟩ := X
  obtain ⟨lb, b1, b2, rfl, b4, b5⟩ := Y
  exact (gcd_any la lb A B n c m d w a1 b1 a2 b2 (by omega) (by omega) a4 b4).mono fun e w' h => h.toN hs
/-- The call tells the numbers Q and R, and no error. -/
def GivesNN (w : World) (Q R k1 k2 : Nat) (e : Ending) (w' : World) : Prop :=
  ∃ A n c A' n' c', e = .returned (.tuple #[.slice A n c, .slice A' n' c', .int .i64 0]) ∧ NG w' A n c Q k1 ∧ NG w' A' n' c' R k2 ∧ Below w.heap.size w w'
theorem dm_nr (X : NR w A n c U k1) (Y : NR w B m d V k2) (h1 : k1 ≤ 100000) (h2 : k2 ≤ 100000) (hV : V ≠ 0) :
    Calls Tryz.prog 140 #[.slice A n c, .slice B m d] w (GivesNN w (U / V) (U % V) k1 k2) := by
  have hX := X.lt
  have hY := Y.lt
  have hr := Nat.mod_lt U (show V > 0 by omega)
  have hq := Nat.div_le_self U V
  obtain ⟨la, a1, a2, rfl, a4, a5⟩ := X
  obtain ⟨lb, b1, b2, rfl, b4, b5⟩ := Y
  refine (divmod_any la lb A B n c m d w a1 b1 a2 b2 (by omega) (by omega) a4 b4 hV).mono ?_
  rintro e w' ⟨A1, n1, c1, A2, n2, c2, rfl, p1, p2, p3, p4, p5, p6, p7⟩
  refine ⟨A1, n1, c1, A2, n2, c2, rfl, ⟨p5.rd, p1, ?_⟩, ⟨p6.rd, p3, ?_⟩, p7⟩
  · rw [← p5.1]; exact length_limbs_le B64_two (by omega)
  · rw [← p6.1]; exact length_limbs_le B64_two (by omega)
theorem NG.zero (h : NG w A n c V k) (hV : V = 0) : n = 0 := by
  have := h.1.1
  rw [hV, limbs_zero] at this
  exact this.symm
theorem NG.pos (h : NG w A n c V k) (hV : V ≠ 0) : 0 < n := by
  have := h.1.1
  rw [limbs_pos B64_two hV] at this
  simp at this; omega
end
theorem bend {w w1 w2 : World} (h : Below w.heap.size w w1) (k : Below w1.heap.size w1 w2) : Below w.heap.size w w2 := h.trans (k.mono h.size)
theorem NG.le {w : World} {A : Option Addr} {n c V k : Nat} (h : NG w A n c V k) : n ≤ k := h.2.2
theorem NG.rd {w : World} {A : Option Addr} {n c V k : Nat} (h : NG w A n c V k) : Rd .u64 w A n (limbs B64 V) := h.1
theorem NG.more {w : World} {A : Option Addr} {n c V k k1 : Nat} (h : NG w A n c V k) (hk : k ≤ k1) : NG w A n c V k1 := ⟨h.1, h.2.1, Nat.le_trans h.2.2 hk⟩
theorem NG.only {w w' : World} {A : Option Addr} {n c V k g : Nat} (h : NG w A n c V k) (ho : Off A n g) (hb : Only g w w') : NG w' A n c V k := ⟨h.1.only ho hb, h.2.1, h.2.2⟩
theorem dmz_nr {w : World} {A B : Option Addr} {n c m d U V k1 k2 : Nat} (X : NR w A n c U k1) (Y : NR w B m d V k2) (h1 : k1 ≤ 100000) (h2 : k2 ≤ 100000) (hV : V = 0) :
    Calls Tryz.prog 140 #[.slice A n c, .slice B m d] w fun e w' => e = .returned (.tuple #[.slice none 0 0, .slice none 0 0, .int .i64 12]) ∧ Below w.heap.size w w' := by
  obtain ⟨la, a1, a2, rfl, a4, a5⟩ := X
  obtain ⟨lb, b1, b2, rfl, b4, b5⟩ := Y
  refine (divmod_zero la lb A B n c m d w a1 b1 a2 b2 (by omega) (by omega) a4 b4 hV).mono ?_
  rintro e w' ⟨rfl, rfl⟩
  exact ⟨rfl, Below.refl _ _⟩
theorem GivesE.ng {w w' : World} {V k err : Nat} {e : Ending} (h : GivesE .u64 91 w (limbs B64 V) err e w') (hk : V < B64 ^ k) :
    ∃ A n c, e = .returned (.tuple #[.slice A n c, .int .i64 (err : Int)]) ∧ NG w' A n c V k ∧ Below w.heap.size w w' := by
  obtain ⟨A, n, c, rfl, h1, h2, h3, h4⟩ := h
  refine ⟨A, n, c, rfl, ⟨h3.rd, h1, ?_⟩, h4⟩
  rw [← h3.1]; exact length_limbs_le B64_two hk
theorem of_nr (v : Nat) (hv : v < B64) (w : World) : Calls Tryz.prog 103 #[.int .u64 (v : Int)] w (GivesN w v 1) :=
  (of_any v hv w).mono fun _ _ h => h.toN (by rw [Nat.pow_one]; exact hv)
theorem NG.tight {w : World} {A : Option Addr} {n c V k k1 : Nat} (h : NG w A n c V k) (hV : V < B64 ^ k1) : NG w A n c V k1 :=
  ⟨h.1, h.2.1, by rw [← h.1.1]; exact length_limbs_le B64_two hV⟩
theorem NR.zero0 {w : World} (k : Nat) : NG w none 0 0 0 k := ⟨by rw [limbs_zero]; exact Rd.nil, Nat.le_refl _, Nat.zero_le _⟩
end Go.Proofs.YtmcijgnbdnpanaaGreat
