/- The texts of small fractions. -/
import Derived.Test.YtmcijgnbdnpanaaRatG
namespace Go.Proofs.Ytmcijgnbdnpanaa

theorem txt_one {V d : Nat} (h : 0 < d) (h2 : d < 10) (hV : V = d) : txt V = [UInt8.ofNat (48 + d)] := by
  subst hV
  rw [txt, if_neg (by omega), limbs_small (by omega) h2 (by omega)]
  rfl
theorem txt_two {V a b : Nat} (ha : 0 < a) (ha2 : a < 10) (hb : b < 10) (hV : V = 10 * a + b) : txt V = [UInt8.ofNat (48 + a), UInt8.ofNat (48 + b)] := by
  rw [txt_lit (l := [b, a]) ?_ (by omega)]
  · rfl
  · rw [limbs_pos (by decide) (by omega), show V % 10 = b by omega, show V / 10 = a by omega, limbs_small (by omega) ha2 (by omega)]
theorem qtxt_f {v : Rat} {a b : Nat} {l m : List UInt8} (hn : v.num = (a : Int)) (hd : v.den = b) (hb : b ≠ 1) (ha : txt a = l) (hm : txt b = m) : qtxt v = l ++ (47 :: m) := by
  unfold qtxt
  rw [if_neg (by omega), hn, hd]
  unfold ztxt
  rw [if_neg (by omega), show ((a : Int)).natAbs = a by omega, ha, hm]
end Go.Proofs.Ytmcijgnbdnpanaa
