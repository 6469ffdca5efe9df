/-
  No cell of these rows narrows 'for every input' (looked for: loops, veiled, ifaces, maps, wideKeys, modest, calm, conditions, laid).
  DERIVED. THE GIVEN ROWS OF THIS SEAT. 5 by the template 'for every input the law returns true; each argument reads behind the call as it read before'; 0 by the template 'total and deterministic' (their statements: YtananlhdmekmjaaGreatTotals.lean).
  GIVEN WITH THE SEED: the statements are not yours to turn. If you find one false, say at which input.
  Laid BY PROGRAM, IN A SANDBOX (cutbox-rows.mjs): the forced cells as the released guide's own fill.sh prints them over the translation 173aeffc066f1195… (all of the seat's roots in one cut). By AI agents, Wed Nov 11 2026. No macro, syntax, notation, axiom, sorry.
-/
import Derived.Test.YtananlhdmekmjaaGreatChecked
import GoSem.Claim
import GoSem.ClaimJoined
import GoSem.ClaimMapViews
import Derived.JoinedTies
import Derived.KernelRfl
namespace Go.Proofs.YtananlhdmekmjaaGreat
/- THE CELL 'sum', in the pinned program and in every row, IS THE sha256 OF THE DUMP (.gsa) THAT YtananlhdmekmjaaGreatProg.lean LOADS. Nothing in Lean hashes anything: it is a label: what it is worth is what the hold of that sum in a sandbox is worth. -/
noncomputable def Tryz.pinned : Pinned := { name := "ytananlhdmekmjaagreat", sum := "173aeffc066f1195b1bd889cb3ff07e7a9ed32395edda8dd7f45e98f29fdd421", checked := Tryz.checked }
namespace Rows
def none {H : Type} : Left H := { results := [], args := [] }

/-- 'gessolaw13.CurveOf': WHATEVER THE INPUT: true; the input reads as it did. -/
def curveOfSpec : ChangeSpec := { name := "curveOf", fn := fun _ => fun
  | [d1, d2, d3] => { results := [.lit (.bool true)], args := [d1, d2, d3] }
  | _ => none }
def curveOfRow : OpenClaim := { program := "ytananlhdmekmjaagreat", sum := "173aeffc066f1195b1bd889cb3ff07e7a9ed32395edda8dd7f45e98f29fdd421", func := "gesso/gessolaw13.CurveOf", spec := "curveOf", inPlace := ["math/bits.Add64", "math/bits.Sub64"], unfollowed := true, recurses := true, named := ["math/bits.divideError", "math/bits.overflowError"], apart := false }
def CurveOfSaid : Prop := curveOfRow.holds Tryz.pinned (OpenSpec.ofChange curveOfSpec)

/-- ITS FALSE NEIGHBOUR: 'it returns false'. Refute it at one input. -/
def curveOfWrong : ChangeSpec := { name := "curveOf", fn := fun _ => fun
  | [d1, d2, d3] => { results := [.lit (.bool false)], args := [d1, d2, d3] }
  | _ => none }
def CurveOfWrongFalsely : Prop := curveOfRow.holds Tryz.pinned (OpenSpec.ofChange curveOfWrong)

/-- 'gessolaw13.CurveAt': WHATEVER THE INPUT: true; the input reads as it did. -/
def curveAtSpec : ChangeSpec := { name := "curveAt", fn := fun _ => fun
  | [d1, d2] => { results := [.lit (.bool true)], args := [d1, d2] }
  | _ => none }
def curveAtRow : OpenClaim := { program := "ytananlhdmekmjaagreat", sum := "173aeffc066f1195b1bd889cb3ff07e7a9ed32395edda8dd7f45e98f29fdd421", func := "gesso/gessolaw13.CurveAt", spec := "curveAt", inPlace := ["math/bits.Add64", "math/bits.Sub64"], unfollowed := true, recurses := true, named := ["math/bits.divideError", "math/bits.overflowError"], apart := false }
def CurveAtSaid : Prop := curveAtRow.holds Tryz.pinned (OpenSpec.ofChange curveAtSpec)

/-- ITS FALSE NEIGHBOUR: 'it returns false'. Refute it at one input. -/
def curveAtWrong : ChangeSpec := { name := "curveAt", fn := fun _ => fun
  | [d1, d2] => { results := [.lit (.bool false)], args := [d1, d2] }
  | _ => none }
def CurveAtWrongFalsely : Prop := curveAtRow.holds Tryz.pinned (OpenSpec.ofChange curveAtWrong)

/-- 'gessolaw13.CurveEnds': WHATEVER THE INPUT: true; the input reads as it did. -/
def curveEndsSpec : ChangeSpec := { name := "curveEnds", fn := fun _ => fun
  | [d1, d2] => { results := [.lit (.bool true)], args := [d1, d2] }
  | _ => none }
def curveEndsRow : OpenClaim := { program := "ytananlhdmekmjaagreat", sum := "173aeffc066f1195b1bd889cb3ff07e7a9ed32395edda8dd7f45e98f29fdd421", func := "gesso/gessolaw13.CurveEnds", spec := "curveEnds", inPlace := ["math/bits.Add64", "math/bits.Sub64"], unfollowed := true, recurses := true, named := ["math/bits.divideError", "math/bits.overflowError"], apart := false }
def CurveEndsSaid : Prop := curveEndsRow.holds Tryz.pinned (OpenSpec.ofChange curveEndsSpec)

/-- ITS FALSE NEIGHBOUR: 'it returns false'. Refute it at one input. -/
def curveEndsWrong : ChangeSpec := { name := "curveEnds", fn := fun _ => fun
  | [d1, d2] => { results := [.lit (.bool false)], args := [d1, d2] }
  | _ => none }
def CurveEndsWrongFalsely : Prop := curveEndsRow.holds Tryz.pinned (OpenSpec.ofChange curveEndsWrong)

/-- 'gessolaw13.CurveMaps': WHATEVER THE INPUT: true; the input reads as it did. -/
def curveMapsSpec : ChangeSpec := { name := "curveMaps", fn := fun _ => fun
  | [d1, d2, d3] => { results := [.lit (.bool true)], args := [d1, d2, d3] }
  | _ => none }
def curveMapsRow : OpenClaim := { program := "ytananlhdmekmjaagreat", sum := "173aeffc066f1195b1bd889cb3ff07e7a9ed32395edda8dd7f45e98f29fdd421", func := "gesso/gessolaw13.CurveMaps", spec := "curveMaps", inPlace := ["math/bits.Add64", "math/bits.Sub64"], unfollowed := true, recurses := true, named := ["math/bits.divideError", "math/bits.overflowError"], apart := false }
def CurveMapsSaid : Prop := curveMapsRow.holds Tryz.pinned (OpenSpec.ofChange curveMapsSpec)

/-- ITS FALSE NEIGHBOUR: 'it returns false'. Refute it at one input. -/
def curveMapsWrong : ChangeSpec := { name := "curveMaps", fn := fun _ => fun
  | [d1, d2, d3] => { results := [.lit (.bool false)], args := [d1, d2, d3] }
  | _ => none }
def CurveMapsWrongFalsely : Prop := curveMapsRow.holds Tryz.pinned (OpenSpec.ofChange curveMapsWrong)

/-- 'gessolaw13.CurveHull': WHATEVER THE INPUT: true; the input reads as it did. -/
def curveHullSpec : ChangeSpec := { name := "curveHull", fn := fun _ => fun
  | [d1, d2] => { results := [.lit (.bool true)], args := [d1, d2] }
  | _ => none }
def curveHullRow : OpenClaim := { program := "ytananlhdmekmjaagreat", sum := "173aeffc066f1195b1bd889cb3ff07e7a9ed32395edda8dd7f45e98f29fdd421", func := "gesso/gessolaw13.CurveHull", spec := "curveHull", inPlace := ["math/bits.Add64", "math/bits.Sub64"], unfollowed := true, recurses := true, named := ["math/bits.divideError", "math/bits.overflowError"], apart := false }
def CurveHullSaid : Prop := curveHullRow.holds Tryz.pinned (OpenSpec.ofChange curveHullSpec)

/-- ITS FALSE NEIGHBOUR: 'it returns false'. Refute it at one input. -/
def curveHullWrong : ChangeSpec := { name := "curveHull", fn := fun _ => fun
  | [d1, d2] => { results := [.lit (.bool false)], args := [d1, d2] }
  | _ => none }
def CurveHullWrongFalsely : Prop := curveHullRow.holds Tryz.pinned (OpenSpec.ofChange curveHullWrong)

/- THE SECOND FORM. 'bulk': how many values and letters a reading holds, each counted each time it is reached (what is shared counts as often as it is met; a slice's spare places count too). A statement '..UptoSaid' is the law's where the arguments, and the package variables that the reading takes, are together of bulk at most 1048576: NARROWER than '..Said'. Prove '..Said' where nothing that the law and all that it calls make is longer than what came in: it says more and counts as full. Else prove '..UptoSaid'. A law counts once. -/
mutual
def uptoBulk {H : Type} : DataW H → Nat
  | .lit (.string bytes) => bytes.length + 1
  | .lit _ => 1
  | .nil => 1
  | .ptr d => uptoBulk d + 1
  | .slice elems spare => uptoBulkAll elems + uptoBulkAll spare + 1
  | .agg parts => uptoBulkAll parts + 1
  | .iface _ d => uptoBulk d + 1
  | .map entries => uptoBulkEntries entries + 1
  | .held _ => 1
def uptoBulkAll {H : Type} : List (DataW H) → Nat
  | [] => 0
  | d :: r => uptoBulk d + uptoBulkAll r
def uptoBulkEntries {H : Type} : List (Lit × DataW H) → Nat
  | [] => 0
  | x :: r => uptoBulkEntry x + uptoBulkEntries r
def uptoBulkEntry {H : Type} : Lit × DataW H → Nat
  | (.string bytes, d) => bytes.length + uptoBulk d + 1
  | (_, d) => uptoBulk d + 1
 end
def uptoSmall : (H : Type) → List (DataW H) → Bool := fun _ ds => decide (uptoBulkAll ds ≤ 1048576)
def OpenSpec.upto (s : _root_.Go.ChangeSpec) : _root_.Go.OpenSpec := { _root_.Go.OpenSpec.ofChange s with cond := some uptoSmall }

/-- 'gessolaw13.CurveOf', WHERE WHAT IT READS IS OF BULK AT MOST 1048576: true; the input reads as it did. -/
def curveOfUptoRow : OpenClaim := { program := "ytananlhdmekmjaagreat", sum := "173aeffc066f1195b1bd889cb3ff07e7a9ed32395edda8dd7f45e98f29fdd421", func := "gesso/gessolaw13.CurveOf", spec := "curveOf", inPlace := ["math/bits.Add64", "math/bits.Sub64"], unfollowed := true, recurses := true, named := ["math/bits.divideError", "math/bits.overflowError"], apart := false, narrowed := true }
def CurveOfUptoSaid : Prop := curveOfUptoRow.holds Tryz.pinned (OpenSpec.upto curveOfSpec)

/-- 'gessolaw13.CurveAt', WHERE WHAT IT READS IS OF BULK AT MOST 1048576: true; the input reads as it did. -/
def curveAtUptoRow : OpenClaim := { program := "ytananlhdmekmjaagreat", sum := "173aeffc066f1195b1bd889cb3ff07e7a9ed32395edda8dd7f45e98f29fdd421", func := "gesso/gessolaw13.CurveAt", spec := "curveAt", inPlace := ["math/bits.Add64", "math/bits.Sub64"], unfollowed := true, recurses := true, named := ["math/bits.divideError", "math/bits.overflowError"], apart := false, narrowed := true }
def CurveAtUptoSaid : Prop := curveAtUptoRow.holds Tryz.pinned (OpenSpec.upto curveAtSpec)

/-- 'gessolaw13.CurveEnds', WHERE WHAT IT READS IS OF BULK AT MOST 1048576: true; the input reads as it did. -/
def curveEndsUptoRow : OpenClaim := { program := "ytananlhdmekmjaagreat", sum := "173aeffc066f1195b1bd889cb3ff07e7a9ed32395edda8dd7f45e98f29fdd421", func := "gesso/gessolaw13.CurveEnds", spec := "curveEnds", inPlace := ["math/bits.Add64", "math/bits.Sub64"], unfollowed := true, recurses := true, named := ["math/bits.divideError", "math/bits.overflowError"], apart := false, narrowed := true }
def CurveEndsUptoSaid : Prop := curveEndsUptoRow.holds Tryz.pinned (OpenSpec.upto curveEndsSpec)

/-- 'gessolaw13.CurveMaps', WHERE WHAT IT READS IS OF BULK AT MOST 1048576: true; the input reads as it did. -/
def curveMapsUptoRow : OpenClaim := { program := "ytananlhdmekmjaagreat", sum := "173aeffc066f1195b1bd889cb3ff07e7a9ed32395edda8dd7f45e98f29fdd421", func := "gesso/gessolaw13.CurveMaps", spec := "curveMaps", inPlace := ["math/bits.Add64", "math/bits.Sub64"], unfollowed := true, recurses := true, named := ["math/bits.divideError", "math/bits.overflowError"], apart := false, narrowed := true }
def CurveMapsUptoSaid : Prop := curveMapsUptoRow.holds Tryz.pinned (OpenSpec.upto curveMapsSpec)

/-- 'gessolaw13.CurveHull', WHERE WHAT IT READS IS OF BULK AT MOST 1048576: true; the input reads as it did. -/
def curveHullUptoRow : OpenClaim := { program := "ytananlhdmekmjaagreat", sum := "173aeffc066f1195b1bd889cb3ff07e7a9ed32395edda8dd7f45e98f29fdd421", func := "gesso/gessolaw13.CurveHull", spec := "curveHull", inPlace := ["math/bits.Add64", "math/bits.Sub64"], unfollowed := true, recurses := true, named := ["math/bits.divideError", "math/bits.overflowError"], apart := false, narrowed := true }
def CurveHullUptoSaid : Prop := curveHullUptoRow.holds Tryz.pinned (OpenSpec.upto curveHullSpec)

end Rows
end Go.Proofs.YtananlhdmekmjaaGreat
