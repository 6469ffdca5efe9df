/-
  No cell of these rows narrows 'for every input' (looked for: loops, veiled, ifaces, maps, wideKeys, modest, calm, conditions, laid).
  DERIVED. THE GIVEN ROWS OF THIS SEAT. 5 by the template 'for every input the law returns true; each argument reads behind the call as it read before'; 0 by the template 'total and deterministic' (their statements: YtfpaeophfcoohaaGreatTotals.lean).
  GIVEN WITH THE SEED: the statements are not yours to turn. If you find one false, say at which input.
  Laid BY PROGRAM, IN A SANDBOX (cutbox-rows.mjs): the forced cells as the released guide's own fill.sh prints them over the translation 8f9e25c28f706790… (all of the seat's roots in one cut). By AI agents, Wed Nov 11 2026. No macro, syntax, notation, axiom, sorry.
-/
import Derived.Test.YtfpaeophfcoohaaGreatChecked
import GoSem.Claim
import GoSem.ClaimJoined
import GoSem.ClaimMapViews
import Derived.JoinedTies
import Derived.KernelRfl
namespace Go.Proofs.YtfpaeophfcoohaaGreat
/- THE CELL 'sum', in the pinned program and in every row, IS THE sha256 OF THE DUMP (.gsa) THAT YtfpaeophfcoohaaGreatProg.lean LOADS. Nothing in Lean hashes anything: it is a label: what it is worth is what the hold of that sum in a sandbox is worth. -/
noncomputable def Tryz.pinned : Pinned := { name := "ytfpaeophfcoohaagreat", sum := "8f9e25c28f706790cad4860c0d0c24dd5f4bc73a3caa7c80b35dae7895533f2d", checked := Tryz.checked }
namespace Rows
def none {H : Type} : Left H := { results := [], args := [] }

/-- 'gessolaw13.CurveOf': WHATEVER THE INPUT: true; the input reads as it did. -/
def curveOfSpec : ChangeSpec := { name := "curveOf", fn := fun _ => fun
  | [d1, d2, d3] => { results := [.lit (.bool true)], args := [d1, d2, d3] }
  | _ => none }
def curveOfRow : OpenClaim := { program := "ytfpaeophfcoohaagreat", sum := "8f9e25c28f706790cad4860c0d0c24dd5f4bc73a3caa7c80b35dae7895533f2d", func := "gesso/gessolaw13.CurveOf", spec := "curveOf", inPlace := ["math/bits.Add64", "math/bits.Sub64"], unfollowed := true, recurses := true, named := ["math/bits.divideError", "math/bits.overflowError"], apart := false }
def CurveOfSaid : Prop := curveOfRow.holds Tryz.pinned (OpenSpec.ofChange curveOfSpec)

/-- ITS FALSE NEIGHBOUR: 'it returns false'. Refute it at one input. -/
def curveOfWrong : ChangeSpec := { name := "curveOf", fn := fun _ => fun
  | [d1, d2, d3] => { results := [.lit (.bool false)], args := [d1, d2, d3] }
  | _ => none }
def CurveOfWrongFalsely : Prop := curveOfRow.holds Tryz.pinned (OpenSpec.ofChange curveOfWrong)

/-- 'gessolaw14.HalveCuts': WHATEVER THE INPUT: true; the input reads as it did. -/
def halveCutsSpec : ChangeSpec := { name := "halveCuts", fn := fun _ => fun
  | [d1, d2] => { results := [.lit (.bool true)], args := [d1, d2] }
  | _ => none }
def halveCutsRow : OpenClaim := { program := "ytfpaeophfcoohaagreat", sum := "8f9e25c28f706790cad4860c0d0c24dd5f4bc73a3caa7c80b35dae7895533f2d", func := "gesso/gessolaw14.HalveCuts", spec := "halveCuts", inPlace := ["math/bits.Add64", "math/bits.Sub64"], unfollowed := true, recurses := true, named := ["math/bits.divideError", "math/bits.overflowError"], apart := false }
def HalveCutsSaid : Prop := halveCutsRow.holds Tryz.pinned (OpenSpec.ofChange halveCutsSpec)

/-- ITS FALSE NEIGHBOUR: 'it returns false'. Refute it at one input. -/
def halveCutsWrong : ChangeSpec := { name := "halveCuts", fn := fun _ => fun
  | [d1, d2] => { results := [.lit (.bool false)], args := [d1, d2] }
  | _ => none }
def HalveCutsWrongFalsely : Prop := halveCutsRow.holds Tryz.pinned (OpenSpec.ofChange halveCutsWrong)

/-- 'gessolaw14.HalveSame': WHATEVER THE INPUT: true; the input reads as it did. -/
def halveSameSpec : ChangeSpec := { name := "halveSame", fn := fun _ => fun
  | [d1, d2] => { results := [.lit (.bool true)], args := [d1, d2] }
  | _ => none }
def halveSameRow : OpenClaim := { program := "ytfpaeophfcoohaagreat", sum := "8f9e25c28f706790cad4860c0d0c24dd5f4bc73a3caa7c80b35dae7895533f2d", func := "gesso/gessolaw14.HalveSame", spec := "halveSame", inPlace := ["math/bits.Add64", "math/bits.Sub64"], unfollowed := true, recurses := true, named := ["math/bits.divideError", "math/bits.overflowError"], apart := false }
def HalveSameSaid : Prop := halveSameRow.holds Tryz.pinned (OpenSpec.ofChange halveSameSpec)

/-- ITS FALSE NEIGHBOUR: 'it returns false'. Refute it at one input. -/
def halveSameWrong : ChangeSpec := { name := "halveSame", fn := fun _ => fun
  | [d1, d2] => { results := [.lit (.bool false)], args := [d1, d2] }
  | _ => none }
def HalveSameWrongFalsely : Prop := halveSameRow.holds Tryz.pinned (OpenSpec.ofChange halveSameWrong)

/-- 'gessolaw14.HalveWeights': WHATEVER THE INPUT: true; the input reads as it did. -/
def halveWeightsSpec : ChangeSpec := { name := "halveWeights", fn := fun _ => fun
  | [d] => { results := [.lit (.bool true)], args := [d] }
  | _ => none }
def halveWeightsRow : OpenClaim := { program := "ytfpaeophfcoohaagreat", sum := "8f9e25c28f706790cad4860c0d0c24dd5f4bc73a3caa7c80b35dae7895533f2d", func := "gesso/gessolaw14.HalveWeights", spec := "halveWeights", inPlace := ["math/bits.Add64", "math/bits.Sub64"], unfollowed := true, recurses := true, named := ["math/bits.divideError", "math/bits.overflowError"], apart := false }
def HalveWeightsSaid : Prop := halveWeightsRow.holds Tryz.pinned (OpenSpec.ofChange halveWeightsSpec)

/-- ITS FALSE NEIGHBOUR: 'it returns false'. Refute it at one input. -/
def halveWeightsWrong : ChangeSpec := { name := "halveWeights", fn := fun _ => fun
  | [d] => { results := [.lit (.bool false)], args := [d] }
  | _ => none }
def HalveWeightsWrongFalsely : Prop := halveWeightsRow.holds Tryz.pinned (OpenSpec.ofChange halveWeightsWrong)

/-- 'gessolaw14.HalveMany': WHATEVER THE INPUT: true; the input reads as it did. -/
def halveManySpec : ChangeSpec := { name := "halveMany", fn := fun _ => fun
  | [d1, d2] => { results := [.lit (.bool true)], args := [d1, d2] }
  | _ => none }
def halveManyRow : OpenClaim := { program := "ytfpaeophfcoohaagreat", sum := "8f9e25c28f706790cad4860c0d0c24dd5f4bc73a3caa7c80b35dae7895533f2d", func := "gesso/gessolaw14.HalveMany", spec := "halveMany", inPlace := ["math/bits.Add64", "math/bits.Sub64"], unfollowed := true, recurses := true, named := ["math/bits.divideError", "math/bits.overflowError"], apart := false }
def HalveManySaid : Prop := halveManyRow.holds Tryz.pinned (OpenSpec.ofChange halveManySpec)

/-- ITS FALSE NEIGHBOUR: 'it returns false'. Refute it at one input. -/
def halveManyWrong : ChangeSpec := { name := "halveMany", fn := fun _ => fun
  | [d1, d2] => { results := [.lit (.bool false)], args := [d1, d2] }
  | _ => none }
def HalveManyWrongFalsely : Prop := halveManyRow.holds Tryz.pinned (OpenSpec.ofChange halveManyWrong)

/- THE SECOND FORM. 'bulk': how many values and letters a reading holds, each counted each time it is reached (what is shared counts as often as it is met; a slice's spare places count too). A statement '..UptoSaid' is the law's where the arguments, and the package variables that the reading takes, are together of bulk at most 1048576: NARROWER than '..Said'. Prove '..Said' where nothing that the law and all that it calls make is longer than what came in: it says more and counts as full. Else prove '..UptoSaid'. A law counts once. -/
mutual
def uptoBulk {H : Type} : DataW H → Nat
  | .lit (.string bytes) => bytes.length + 1
  | .lit _ => 1
  | .nil => 1
  | .ptr d => uptoBulk d + 1
  | .slice elems spare => uptoBulkAll elems + uptoBulkAll spare + 1
  | .agg parts => uptoBulkAll parts + 1
  | .iface _ d => uptoBulk d + 1
  | .map entries => uptoBulkEntries entries + 1
  | .held _ => 1
def uptoBulkAll {H : Type} : List (DataW H) → Nat
  | [] => 0
  | d :: r => uptoBulk d + uptoBulkAll r
def uptoBulkEntries {H : Type} : List (Lit × DataW H) → Nat
  | [] => 0
  | x :: r => uptoBulkEntry x + uptoBulkEntries r
def uptoBulkEntry {H : Type} : Lit × DataW H → Nat
  | (.string bytes, d) => bytes.length + uptoBulk d + 1
  | (_, d) => uptoBulk d + 1
 end
def uptoSmall : (H : Type) → List (DataW H) → Bool := fun _ ds => decide (uptoBulkAll ds ≤ 1048576)
def OpenSpec.upto (s : _root_.Go.ChangeSpec) : _root_.Go.OpenSpec := { _root_.Go.OpenSpec.ofChange s with cond := some uptoSmall }

/-- 'gessolaw13.CurveOf', WHERE WHAT IT READS IS OF BULK AT MOST 1048576: true; the input reads as it did. -/
def curveOfUptoRow : OpenClaim := { program := "ytfpaeophfcoohaagreat", sum := "8f9e25c28f706790cad4860c0d0c24dd5f4bc73a3caa7c80b35dae7895533f2d", func := "gesso/gessolaw13.CurveOf", spec := "curveOf", inPlace := ["math/bits.Add64", "math/bits.Sub64"], unfollowed := true, recurses := true, named := ["math/bits.divideError", "math/bits.overflowError"], apart := false, narrowed := true }
def CurveOfUptoSaid : Prop := curveOfUptoRow.holds Tryz.pinned (OpenSpec.upto curveOfSpec)

/-- 'gessolaw14.HalveCuts', WHERE WHAT IT READS IS OF BULK AT MOST 1048576: true; the input reads as it did. -/
def halveCutsUptoRow : OpenClaim := { program := "ytfpaeophfcoohaagreat", sum := "8f9e25c28f706790cad4860c0d0c24dd5f4bc73a3caa7c80b35dae7895533f2d", func := "gesso/gessolaw14.HalveCuts", spec := "halveCuts", inPlace := ["math/bits.Add64", "math/bits.Sub64"], unfollowed := true, recurses := true, named := ["math/bits.divideError", "math/bits.overflowError"], apart := false, narrowed := true }
def HalveCutsUptoSaid : Prop := halveCutsUptoRow.holds Tryz.pinned (OpenSpec.upto halveCutsSpec)

/-- 'gessolaw14.HalveSame', WHERE WHAT IT READS IS OF BULK AT MOST 1048576: true; the input reads as it did. -/
def halveSameUptoRow : OpenClaim := { program := "ytfpaeophfcoohaagreat", sum := "8f9e25c28f706790cad4860c0d0c24dd5f4bc73a3caa7c80b35dae7895533f2d", func := "gesso/gessolaw14.HalveSame", spec := "halveSame", inPlace := ["math/bits.Add64", "math/bits.Sub64"], unfollowed := true, recurses := true, named := ["math/bits.divideError", "math/bits.overflowError"], apart := false, narrowed := true }
def HalveSameUptoSaid : Prop := halveSameUptoRow.holds Tryz.pinned (OpenSpec.upto halveSameSpec)

/-- 'gessolaw14.HalveWeights', WHERE WHAT IT READS IS OF BULK AT MOST 1048576: true; the input reads as it did. -/
def halveWeightsUptoRow : OpenClaim := { program := "ytfpaeophfcoohaagreat", sum := "8f9e25c28f706790cad4860c0d0c24dd5f4bc73a3caa7c80b35dae7895533f2d", func := "gesso/gessolaw14.HalveWeights", spec := "halveWeights", inPlace := ["math/bits.Add64", "math/bits.Sub64"], unfollowed := true, recurses := true, named := ["math/bits.divideError", "math/bits.overflowError"], apart := false, narrowed := true }
def HalveWeightsUptoSaid : Prop := halveWeightsUptoRow.holds Tryz.pinned (OpenSpec.upto halveWeightsSpec)

/-- 'gessolaw14.HalveMany', WHERE WHAT IT READS IS OF BULK AT MOST 1048576: true; the input reads as it did. -/
def halveManyUptoRow : OpenClaim := { program := "ytfpaeophfcoohaagreat", sum := "8f9e25c28f706790cad4860c0d0c24dd5f4bc73a3caa7c80b35dae7895533f2d", func := "gesso/gessolaw14.HalveMany", spec := "halveMany", inPlace := ["math/bits.Add64", "math/bits.Sub64"], unfollowed := true, recurses := true, named := ["math/bits.divideError", "math/bits.overflowError"], apart := false, narrowed := true }
def HalveManyUptoSaid : Prop := halveManyUptoRow.holds Tryz.pinned (OpenSpec.upto halveManySpec)

end Rows
end Go.Proofs.YtfpaeophfcoohaaGreat
