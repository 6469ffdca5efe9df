/- gessolaw02.wakes. -/
import Derived.Test.YtmcijgnbdnpanaaGreatZedFun
namespace Go.Proofs.YtmcijgnbdnpanaaGreat
open Go.RowKit

theorem z_lit {V d : Nat} (h : 0 < d) (h2 : d < 10) (hV : V = d) : txt V = [UInt8.ofNat (48 + d)] := by
  subst hV
  rw [txt, if_neg (by omega), limbs_small (by omega) h2 (by omega)]
  rfl
theorem z_m4 : (⟨(ztxt (-4)).toArray⟩ : ByteArray) = ⟨#[45, 52]⟩ := by rw [ztxt, if_pos (by omega), show ((-4 : Int).natAbs) = 4 from rfl, z_lit (d := 4) (by omega) (by omega) rfl]; rfl
theorem z_m1 : (⟨(ztxt (-1)).toArray⟩ : ByteArray) = ⟨#[45, 49]⟩ := by rw [ztxt, if_pos (by omega), show ((-1 : Int).natAbs) = 1 from rfl, z_lit (d := 1) (by omega) (by omega) rfl]; rfl
theorem z_1 : (⟨(ztxt 1).toArray⟩ : ByteArray) = ⟨#[49]⟩ := by rw [ztxt, if_neg (by omega), show ((1 : Int).natAbs) = 1 from rfl, z_lit (d := 1) (by omega) (by omega) rfl]; rfl
end Go.Proofs.YtmcijgnbdnpanaaGreat
