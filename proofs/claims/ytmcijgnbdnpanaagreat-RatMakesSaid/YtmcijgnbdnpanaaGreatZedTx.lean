/- The law ZedTexts: the digits of any number, and the number of any digits, or that there is none; the small number that it is. -/
import Derived.Test.YtmcijgnbdnpanaaGreatRefZ3
import Derived.Test.YtmcijgnbdnpanaaGreatRefZ4
import Derived.Test.YtmcijgnbdnpanaaGreatZedH
import Derived.Deep.CutRange
import Derived.Deep.Cut
namespace Go.Proofs.YtmcijgnbdnpanaaGreat
open Go Go.RowKit

/-- Parse's error's number, and the number that it tells. -/
theorem ZR.more {w : World} {s : Bool} {A : Option Addr} {n c k k1 : Nat} {v : Int} (h : ZR w s A n c v k) (hk : k ≤ k1) : ZR w s A n c v k1 := by
  obtain ⟨l, a1, a2, a3, a4, a5, a6⟩ := h
  exact ⟨l, a1, a2, a3, a4, by omega, Nat.lt_of_lt_of_le a6 (Nat.pow_le_pow_right (by decide) hk)⟩
def perr (s : ByteArray) : Int := if 20000 < s.size then 2 else if zbad s.data.toList then 11 else 0
def pval (s : ByteArray) : Int := if 20000 < s.size ∨ zbad s.data.toList = true then 0 else zval s.data.toList
theorem ZG.nil {w : World} (k : Nat) : ZG w false none 0 0 0 k := ⟨rfl, by rw [show ((0 : Int).natAbs) = 0 from rfl, limbs_zero]; exact Rd.nil, Nat.le_refl _, Nat.zero_le _⟩
theorem RG.nil {w : World} (k : Nat) : RG w false none 0 0 0 k := ⟨rfl, RN.zero w k⟩
theorem pow16 (k : Nat) : 16 ^ (16 * k) = B64 ^ k := by rw [Nat.pow_mul]; rfl
theorem zval_lt_any {l : List UInt8} (k : Nat) (h : zbad l = false) (hl : l.length ≤ 16 * k) : (zval l).natAbs < B64 ^ k := by
  unfold zval
  rw [iv_natAbs]
  have ht : isTextB (zdig l) = true := by unfold zbad at h; cases h' : isTextB (zdig l) <;> simp_all
  have h1 := dec_lt (isTextB_digits ht)
  have h2 := zdig_len l
  refine Nat.lt_of_lt_of_le h1 ?_
  have h3 : 10 ^ (zdig l).length ≤ 16 ^ (zdig l).length := Nat.pow_le_pow_left (by decide) _
  have h4 : 16 ^ (zdig l).length ≤ 16 ^ (16 * k) := Nat.pow_le_pow_right (by decide) (by omega)
  exact Nat.le_trans h3 (pow16 k ▸ h4)
theorem zval_lt {l : List UInt8} (h : zbad l = false) (hl : l.length ≤ 800) : (zval l).natAbs < B64 ^ 50 := zval_lt_any 50 h (by omega)
theorem zparse_u (s : ByteArray) (w : World) (h : s.size ≤ 800 ∨ 20000 < s.size) (hm : s.size ≤ maxLen) :
    Calls Tryz.prog 102 #[.string s] w fun e w' => ∃ b A n c, e = .returned (.tuple #[.agg #[.bool b, .slice A n c], .int .i64 (perr s)]) ∧ ZG w' b A n c (pval s) 50 ∧ Below w.heap.size w w' := by
  unfold perr pval
  by_cases h1 : 20000 < s.size
  · rw [if_pos h1, if_pos (.inl h1)]
    refine (zparse_long s w h1 hm).mono ?_
    rintro e w' ⟨rfl, hb⟩
    exact ⟨false, none, 0, 0, rfl, ZG.nil _, hb⟩
  · rw [if_neg h1]
    cases hz : zbad s.data.toList with
    | true =>
      rw [if_pos rfl, if_pos (.inr rfl)]
      refine (zparse_form s w (by omega) hz).mono ?_
      rintro e w' ⟨rfl, hb⟩
      exact ⟨false, none, 0, 0, rfl, ZG.nil _, hb⟩
    | false =>
      rw [if_neg (by decide), if_neg (by simp [h1])]
      refine (zparse_ok s w (by omega) hz 50 (zval_lt hz (by rw [← Lib.size_eq s]; omega))).mono ?_
      rintro e w' ⟨A, n, c, rfl, p1, p2, p3, hb⟩
      obtain ⟨l, _, _, _, p4, _⟩ := p1
      exact ⟨_, A, n, c, rfl, ⟨rfl, p3, p4, p2⟩, hb⟩
theorem rparse_u (s : ByteArray) (w : World) (_h : s.size ≤ 800 ∨ 20000 < s.size) (hm : s.size ≤ maxLen) :
    Calls Tryz.prog 105 #[.string s] w fun e w' => ∃ b A n c, e = .returned (.tuple #[.agg #[.bool b, .slice A n c], .int .i64 (perr s)]) ∧ RG w' b A n c (pval s) 2500 ∧ Below w.heap.size w w' := by
  unfold perr pval
  by_cases h1 : 20000 < s.size
  · rw [if_pos h1, if_pos (.inl h1)]
    refine (rparse2_long s w h1 hm).mono ?_
    rintro e w' ⟨rfl, hb⟩
    exact ⟨false, none, 0, 0, rfl, RG.nil _, hb⟩
  · rw [if_neg h1]
    cases hz : zbad s.data.toList with
    | true =>
      rw [if_pos rfl, if_pos (.inr rfl)]
      refine (rparse2_no s w (by omega) hz).mono ?_
      rintro e w' ⟨rfl, hb⟩
      exact ⟨false, none, 0, 0, rfl, RG.nil _, hb⟩
    | false =>
      rw [if_neg (by decide), if_neg (by simp [h1])]
      exact rparse2_yes s w (by omega) hz
theorem rof2_any (v : Int) (h1 : -9223372036854775808 ≤ v) (h2 : v < 9223372036854775808) (w : World) : Calls Tryz.prog 100 #[.int .i64 v] w (GivesRZ w v 2) := by
  by_cases h : v < 0
  · obtain ⟨V, rfl⟩ : ∃ V : Nat, v = -(V : Int) := ⟨v.natAbs, by omega⟩
    exact rof2_neg V (by omega) (by omega) w
  · obtain ⟨V, rfl⟩ : ∃ V : Nat, v = (V : Int) := ⟨v.natAbs, by omega⟩
    exact rof2_pos V (by omega) w
theorem zof_zg (v : Int) (h1 : -9223372036854775808 ≤ v) (h2 : v < 9223372036854775808) (w : World) : Calls Tryz.prog 51 #[.int .i64 v] w (GivesZG w v 1) :=
  (zof_any v h1 h2 w).mono fun e w' h => h.zg (by rw [Nat.pow_one]; unfold B64; omega)
theorem small_zr2 {w : World} {s : Bool} {A : Option Addr} {n c k : Nat} {v : Int} (X : ZR w s A n c v k) (hk : k ≤ 1000) :
    Calls Tryz.prog 124 #[.agg #[.bool s, .slice A n c]] w fun e w' => e = .returned (.tuple #[.int .i64 (smallV v), .bool (fitsB v)]) ∧ Below w.heap.size w w' := by
  obtain ⟨la, a1, a2, rfl, a4, a5, a6⟩ := X
  exact small_any s la A n c w a1 a2 (by omega) a4

end Go.Proofs.YtmcijgnbdnpanaaGreat
