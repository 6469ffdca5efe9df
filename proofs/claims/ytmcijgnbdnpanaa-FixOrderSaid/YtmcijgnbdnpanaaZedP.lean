/- zed.Parse. -/
import Derived.Test.YtmcijgnbdnpanaaZedFun
import Derived.Test.YtmcijgnbdnpanaaShelf
namespace Go.Proofs.Ytmcijgnbdnpanaa
open Go.RowKit

/-- Is there a - ahead; the digits. -/
def zneg (l : List UInt8) : Bool := Lib.hasPrefix l [45]
def zdig (l : List UInt8) : List UInt8 := Lib.trimPrefix l [45]
theorem zdig_len (l : List UInt8) : (zdig l).length ≤ l.length := by
  unfold zdig Lib.trimPrefix
  split
  · rw [List.length_drop]; omega
  · exact Nat.le_refl _
/-- The call tells the number v, and no error. -/
def GivesZE (w : World) (v : Int) (k : Nat) (e : Ending) (w' : World) : Prop :=
  ∃ A n c, e = .returned (.tuple #[.agg #[.bool (decide (v < 0)), .slice A n c], .int .i64 0]) ∧ ZR w' (decide (v < 0)) A n c v k ∧ n ≤ k ∧ Rd .u64 w' A n (limbs B64 v.natAbs) ∧ Below w.heap.size w w'
theorem GivesI.ze {w w' : World} {v : Int} {k n c : Nat} {s : Bool} {A : Option Addr} (hk : v.natAbs < B64 ^ k) (h : GivesI w v (.returned (.agg #[.bool s, .slice A n c])) w') : GivesZE w v k (.returned (.tuple #[.agg #[.bool s, .slice A n c], .int .i64 0])) w' := by
  obtain ⟨A', n', c', he, h1, h2, h3, h4⟩ := h
  have e := Ending.returned.inj he
  rw [e]
  exact ⟨A', n', c', rfl, ZR.of_fr h3 h1 hk, by rw [← h3.1]; exact length_limbs_le B64_two hk, h3.rd, h4⟩

/-- The text is no number's. -/
def zbad (l : List UInt8) : Bool := !(isTextB (zdig l)) || (zneg l && decide (dec (zdig l) = 0))
/-- The text's number. -/
def zval (l : List UInt8) : Int := iv (zneg l) (dec (zdig l))

end Go.Proofs.Ytmcijgnbdnpanaa
