/- The document's own answers of layer 2: Text, Parse. -/
import Derived.Test.YtmcijgnbdnpanaaRefZ2
namespace Go.Proofs.Ytmcijgnbdnpanaa
open Go.RowKit

theorem txt_room {V k : Nat} (h : V < B32 ^ k) (hk : k ≤ 900) : ¬ 9223372036854775807 < 1 + (txt V).length := by
  have h2 : V < B64 ^ k := Nat.lt_of_lt_of_le h (Nat.pow_le_pow_left (by decide) k)
  have := txt_len h2 hk
  omega

theorem zneg_true {s : ByteArray} (h : zneg s.data.toList = true) : ∃ hp : 0 < s.size, s[0].toNat = 45 ∧ (s.extract 1 s.size).data.toList = zdig s.data.toList := by
  have hz := Lib.size_eq s
  cases hl : s.data.toList with
  | nil => rw [hl] at h; cases h
  | cons x l =>
    rw [hl] at h hz
    have hp : 0 < s.size := by rw [hz]; simp
    have hx : x = 45 := by
      have h2 : ((45 : UInt8) == x && List.isPrefixOf [] l) = true := h
      simp at h2; exact h2.symm
    subst hx
    have h0 : s[0] = 45 := by
      have : s.data.toList[0]? = some s[0] := by rw [List.getElem?_eq_getElem (by rw [hl]; simp)]; rfl
      rw [hl] at this
      simpa using this.symm
    refine ⟨hp, by rw [h0]; rfl, ?_⟩
    have e1 : zdig (45 :: l) = l := by simp [zdig, Lib.trimPrefix, Lib.hasPrefix]
    rw [e1, ByteArray.data_extract, Array.toList_extract, hl, List.extract_eq_take_drop, List.drop_succ_cons, List.drop_zero, hz]
    simp
theorem zneg_false {s : ByteArray} (h : zneg s.data.toList = false) (hp : 0 < s.size) : ((s[0].toNat : Int) == 45) = false := by
  cases hl : s.data.toList with
  | nil =>
    have hz := Lib.size_eq s
    rw [hl] at hz
    rw [hz] at hp
    exact absurd hp (by simp)
  | cons x l =>
    have h0 : s[0] = x := by
      have : s.data.toList[0]? = some s[0] := by rw [List.getElem?_eq_getElem (by rw [hl]; simp)]; rfl
      rw [hl] at this
      simpa using this.symm
    have hx : x ≠ 45 := by
      intro e
      subst e
      rw [hl] at h
      have h2 : ((45 : UInt8) == 45 && List.isPrefixOf [] l) = false := h
      simp at h2
    have : s[0].toNat ≠ 45 := fun e => hx (by rw [← h0]; exact UInt8.toNat_inj.1 e)
    simp; omega
theorem zdig_false {l : List UInt8} (h : zneg l = false) : zdig l = l := by
  have : Lib.hasPrefix l [45] = false := h
  unfold zdig Lib.trimPrefix
  rw [this]; rfl
theorem below_set2' {B g : Nat} {w W : World} (h : Below B w W) (hg : B ≤ g) (x y : Value) : Below B w ((W.setCell ⟨g, 0, none⟩ x).setCell ⟨g, 1, none⟩ y) := (h.setCell hg _).setCell hg _

end Go.Proofs.Ytmcijgnbdnpanaa
