/-
  No cell of these rows narrows 'for every input' (looked for: loops, veiled, ifaces, maps, wideKeys, modest, calm, conditions, laid).
  DERIVED. THE GIVEN ROWS OF THIS SEAT. 7 by the template 'for every input the law returns true; each argument reads behind the call as it read before'; 0 by the template 'total and deterministic' (their statements: YtgneghgfpkkkdaaGreatTotals.lean).
  GIVEN WITH THE SEED: the statements are not yours to turn. If you find one false, say at which input.
  Laid BY PROGRAM, IN A SANDBOX (cutbox-rows.mjs): the forced cells as the released guide's own fill.sh prints them over the translation 82f8e763e11cc14f… (all of the seat's roots in one cut). By AI agents, Wed Nov 11 2026. No macro, syntax, notation, axiom, sorry.
-/
import Derived.Test.YtgneghgfpkkkdaaGreatChecked
import GoSem.Claim
import GoSem.ClaimJoined
import GoSem.ClaimMapViews
import Derived.JoinedTies
import Derived.KernelRfl
namespace Go.Proofs.YtgneghgfpkkkdaaGreat
/- THE CELL 'sum', in the pinned program and in every row, IS THE sha256 OF THE DUMP (.gsa) THAT YtgneghgfpkkkdaaGreatProg.lean LOADS. Nothing in Lean hashes anything: it is a label: what it is worth is what the hold of that sum in a sandbox is worth. -/
noncomputable def Tryz.pinned : Pinned := { name := "ytgneghgfpkkkdaagreat", sum := "82f8e763e11cc14f6d815dc2b0caec879495691477ce8001977da151fc814b34", checked := Tryz.checked }
namespace Rows
def none {H : Type} : Left H := { results := [], args := [] }

/-- 'gessolaw08.AreaTells': WHATEVER THE INPUT: true; the input reads as it did. -/
def areaTellsSpec : ChangeSpec := { name := "areaTells", fn := fun _ => fun
  | [d1, d2] => { results := [.lit (.bool true)], args := [d1, d2] }
  | _ => none }
def areaTellsRow : OpenClaim := { program := "ytgneghgfpkkkdaagreat", sum := "82f8e763e11cc14f6d815dc2b0caec879495691477ce8001977da151fc814b34", func := "gesso/gessolaw08.AreaTells", spec := "areaTells", inPlace := ["math/bits.Add64", "math/bits.Sub64"], unfollowed := true, recurses := true, named := ["math/bits.divideError", "math/bits.overflowError"], apart := false }
def AreaTellsSaid : Prop := areaTellsRow.holds Tryz.pinned (OpenSpec.ofChange areaTellsSpec)

/-- ITS FALSE NEIGHBOUR: 'it returns false'. Refute it at one input. -/
def areaTellsWrong : ChangeSpec := { name := "areaTells", fn := fun _ => fun
  | [d1, d2] => { results := [.lit (.bool false)], args := [d1, d2] }
  | _ => none }
def AreaTellsWrongFalsely : Prop := areaTellsRow.holds Tryz.pinned (OpenSpec.ofChange areaTellsWrong)

/-- 'gessolaw08.AreaHalves': WHATEVER THE INPUT: true; the input reads as it did. -/
def areaHalvesSpec : ChangeSpec := { name := "areaHalves", fn := fun _ => fun
  | [d1, d2, d3] => { results := [.lit (.bool true)], args := [d1, d2, d3] }
  | _ => none }
def areaHalvesRow : OpenClaim := { program := "ytgneghgfpkkkdaagreat", sum := "82f8e763e11cc14f6d815dc2b0caec879495691477ce8001977da151fc814b34", func := "gesso/gessolaw08.AreaHalves", spec := "areaHalves", inPlace := ["math/bits.Add64", "math/bits.Sub64"], unfollowed := true, recurses := true, named := ["math/bits.divideError", "math/bits.overflowError"], apart := false }
def AreaHalvesSaid : Prop := areaHalvesRow.holds Tryz.pinned (OpenSpec.ofChange areaHalvesSpec)

/-- ITS FALSE NEIGHBOUR: 'it returns false'. Refute it at one input. -/
def areaHalvesWrong : ChangeSpec := { name := "areaHalves", fn := fun _ => fun
  | [d1, d2, d3] => { results := [.lit (.bool false)], args := [d1, d2, d3] }
  | _ => none }
def AreaHalvesWrongFalsely : Prop := areaHalvesRow.holds Tryz.pinned (OpenSpec.ofChange areaHalvesWrong)

/-- 'gessolaw08.AreaCuts': WHATEVER THE INPUT: true; the input reads as it did. -/
def areaCutsSpec : ChangeSpec := { name := "areaCuts", fn := fun _ => fun
  | [d1, d2] => { results := [.lit (.bool true)], args := [d1, d2] }
  | _ => none }
def areaCutsRow : OpenClaim := { program := "ytgneghgfpkkkdaagreat", sum := "82f8e763e11cc14f6d815dc2b0caec879495691477ce8001977da151fc814b34", func := "gesso/gessolaw08.AreaCuts", spec := "areaCuts", inPlace := ["math/bits.Add64", "math/bits.Sub64"], unfollowed := true, recurses := true, named := ["math/bits.divideError", "math/bits.overflowError"], apart := false }
def AreaCutsSaid : Prop := areaCutsRow.holds Tryz.pinned (OpenSpec.ofChange areaCutsSpec)

/-- ITS FALSE NEIGHBOUR: 'it returns false'. Refute it at one input. -/
def areaCutsWrong : ChangeSpec := { name := "areaCuts", fn := fun _ => fun
  | [d1, d2] => { results := [.lit (.bool false)], args := [d1, d2] }
  | _ => none }
def AreaCutsWrongFalsely : Prop := areaCutsRow.holds Tryz.pinned (OpenSpec.ofChange areaCutsWrong)

/-- 'gessolaw09.MatDoes': WHATEVER THE INPUT: true; the input reads as it did. -/
def matDoesSpec : ChangeSpec := { name := "matDoes", fn := fun _ => fun
  | [d1, d2, d3] => { results := [.lit (.bool true)], args := [d1, d2, d3] }
  | _ => none }
def matDoesRow : OpenClaim := { program := "ytgneghgfpkkkdaagreat", sum := "82f8e763e11cc14f6d815dc2b0caec879495691477ce8001977da151fc814b34", func := "gesso/gessolaw09.MatDoes", spec := "matDoes", inPlace := ["math/bits.Add64", "math/bits.Sub64"], unfollowed := true, recurses := true, named := ["math/bits.divideError", "math/bits.overflowError"], apart := false }
def MatDoesSaid : Prop := matDoesRow.holds Tryz.pinned (OpenSpec.ofChange matDoesSpec)

/-- ITS FALSE NEIGHBOUR: 'it returns false'. Refute it at one input. -/
def matDoesWrong : ChangeSpec := { name := "matDoes", fn := fun _ => fun
  | [d1, d2, d3] => { results := [.lit (.bool false)], args := [d1, d2, d3] }
  | _ => none }
def MatDoesWrongFalsely : Prop := matDoesRow.holds Tryz.pinned (OpenSpec.ofChange matDoesWrong)

/-- 'gessolaw09.MatMakes': WHATEVER THE INPUT: true; the input reads as it did. -/
def matMakesSpec : ChangeSpec := { name := "matMakes", fn := fun _ => fun
  | [d] => { results := [.lit (.bool true)], args := [d] }
  | _ => none }
def matMakesRow : OpenClaim := { program := "ytgneghgfpkkkdaagreat", sum := "82f8e763e11cc14f6d815dc2b0caec879495691477ce8001977da151fc814b34", func := "gesso/gessolaw09.MatMakes", spec := "matMakes", inPlace := ["math/bits.Add64", "math/bits.Sub64"], unfollowed := true, recurses := true, named := ["math/bits.divideError", "math/bits.overflowError"], apart := false }
def MatMakesSaid : Prop := matMakesRow.holds Tryz.pinned (OpenSpec.ofChange matMakesSpec)

/-- ITS FALSE NEIGHBOUR: 'it returns false'. Refute it at one input. -/
def matMakesWrong : ChangeSpec := { name := "matMakes", fn := fun _ => fun
  | [d] => { results := [.lit (.bool false)], args := [d] }
  | _ => none }
def MatMakesWrongFalsely : Prop := matMakesRow.holds Tryz.pinned (OpenSpec.ofChange matMakesWrong)

/-- 'gessolaw09.MatLaws': WHATEVER THE INPUT: true; the input reads as it did. -/
def matLawsSpec : ChangeSpec := { name := "matLaws", fn := fun _ => fun
  | [d1, d2, d3] => { results := [.lit (.bool true)], args := [d1, d2, d3] }
  | _ => none }
def matLawsRow : OpenClaim := { program := "ytgneghgfpkkkdaagreat", sum := "82f8e763e11cc14f6d815dc2b0caec879495691477ce8001977da151fc814b34", func := "gesso/gessolaw09.MatLaws", spec := "matLaws", inPlace := ["math/bits.Add64", "math/bits.Sub64"], unfollowed := true, recurses := true, named := ["math/bits.divideError", "math/bits.overflowError"], apart := false }
def MatLawsSaid : Prop := matLawsRow.holds Tryz.pinned (OpenSpec.ofChange matLawsSpec)

/-- ITS FALSE NEIGHBOUR: 'it returns false'. Refute it at one input. -/
def matLawsWrong : ChangeSpec := { name := "matLaws", fn := fun _ => fun
  | [d1, d2, d3] => { results := [.lit (.bool false)], args := [d1, d2, d3] }
  | _ => none }
def MatLawsWrongFalsely : Prop := matLawsRow.holds Tryz.pinned (OpenSpec.ofChange matLawsWrong)

/-- 'gessolaw09.MatParts': WHATEVER THE INPUT: true; the input reads as it did. -/
def matPartsSpec : ChangeSpec := { name := "matParts", fn := fun _ => fun
  | [d1, d2, d3] => { results := [.lit (.bool true)], args := [d1, d2, d3] }
  | _ => none }
def matPartsRow : OpenClaim := { program := "ytgneghgfpkkkdaagreat", sum := "82f8e763e11cc14f6d815dc2b0caec879495691477ce8001977da151fc814b34", func := "gesso/gessolaw09.MatParts", spec := "matParts", inPlace := ["math/bits.Add64", "math/bits.Sub64"], unfollowed := true, recurses := true, named := ["math/bits.divideError", "math/bits.overflowError"], apart := false }
def MatPartsSaid : Prop := matPartsRow.holds Tryz.pinned (OpenSpec.ofChange matPartsSpec)

/-- ITS FALSE NEIGHBOUR: 'it returns false'. Refute it at one input. -/
def matPartsWrong : ChangeSpec := { name := "matParts", fn := fun _ => fun
  | [d1, d2, d3] => { results := [.lit (.bool false)], args := [d1, d2, d3] }
  | _ => none }
def MatPartsWrongFalsely : Prop := matPartsRow.holds Tryz.pinned (OpenSpec.ofChange matPartsWrong)

/- THE SECOND FORM. 'bulk': how many values and letters a reading holds, each counted each time it is reached (what is shared counts as often as it is met; a slice's spare places count too). A statement '..UptoSaid' is the law's where the arguments, and the package variables that the reading takes, are together of bulk at most 1048576: NARROWER than '..Said'. Prove '..Said' where nothing that the law and all that it calls make is longer than what came in: it says more and counts as full. Else prove '..UptoSaid'. A law counts once. -/
mutual
def uptoBulk {H : Type} : DataW H → Nat
  | .lit (.string bytes) => bytes.length + 1
  | .lit _ => 1
  | .nil => 1
  | .ptr d => uptoBulk d + 1
  | .slice elems spare => uptoBulkAll elems + uptoBulkAll spare + 1
  | .agg parts => uptoBulkAll parts + 1
  | .iface _ d => uptoBulk d + 1
  | .map entries => uptoBulkEntries entries + 1
  | .held _ => 1
def uptoBulkAll {H : Type} : List (DataW H) → Nat
  | [] => 0
  | d :: r => uptoBulk d + uptoBulkAll r
def uptoBulkEntries {H : Type} : List (Lit × DataW H) → Nat
  | [] => 0
  | x :: r => uptoBulkEntry x + uptoBulkEntries r
def uptoBulkEntry {H : Type} : Lit × DataW H → Nat
  | (.string bytes, d) => bytes.length + uptoBulk d + 1
  | (_, d) => uptoBulk d + 1
 end
def uptoSmall : (H : Type) → List (DataW H) → Bool := fun _ ds => decide (uptoBulkAll ds ≤ 1048576)
def OpenSpec.upto (s : _root_.Go.ChangeSpec) : _root_.Go.OpenSpec := { _root_.Go.OpenSpec.ofChange s with cond := some uptoSmall }

/-- 'gessolaw08.AreaTells', WHERE WHAT IT READS IS OF BULK AT MOST 1048576: true; the input reads as it did. -/
def areaTellsUptoRow : OpenClaim := { program := "ytgneghgfpkkkdaagreat", sum := "82f8e763e11cc14f6d815dc2b0caec879495691477ce8001977da151fc814b34", func := "gesso/gessolaw08.AreaTells", spec := "areaTells", inPlace := ["math/bits.Add64", "math/bits.Sub64"], unfollowed := true, recurses := true, named := ["math/bits.divideError", "math/bits.overflowError"], apart := false, narrowed := true }
def AreaTellsUptoSaid : Prop := areaTellsUptoRow.holds Tryz.pinned (OpenSpec.upto areaTellsSpec)

/-- 'gessolaw08.AreaHalves', WHERE WHAT IT READS IS OF BULK AT MOST 1048576: true; the input reads as it did. -/
def areaHalvesUptoRow : OpenClaim := { program := "ytgneghgfpkkkdaagreat", sum := "82f8e763e11cc14f6d815dc2b0caec879495691477ce8001977da151fc814b34", func := "gesso/gessolaw08.AreaHalves", spec := "areaHalves", inPlace := ["math/bits.Add64", "math/bits.Sub64"], unfollowed := true, recurses := true, named := ["math/bits.divideError", "math/bits.overflowError"], apart := false, narrowed := true }
def AreaHalvesUptoSaid : Prop := areaHalvesUptoRow.holds Tryz.pinned (OpenSpec.upto areaHalvesSpec)

/-- 'gessolaw08.AreaCuts', WHERE WHAT IT READS IS OF BULK AT MOST 1048576: true; the input reads as it did. -/
def areaCutsUptoRow : OpenClaim := { program := "ytgneghgfpkkkdaagreat", sum := "82f8e763e11cc14f6d815dc2b0caec879495691477ce8001977da151fc814b34", func := "gesso/gessolaw08.AreaCuts", spec := "areaCuts", inPlace := ["math/bits.Add64", "math/bits.Sub64"], unfollowed := true, recurses := true, named := ["math/bits.divideError", "math/bits.overflowError"], apart := false, narrowed := true }
def AreaCutsUptoSaid : Prop := areaCutsUptoRow.holds Tryz.pinned (OpenSpec.upto areaCutsSpec)

/-- 'gessolaw09.MatDoes', WHERE WHAT IT READS IS OF BULK AT MOST 1048576: true; the input reads as it did. -/
def matDoesUptoRow : OpenClaim := { program := "ytgneghgfpkkkdaagreat", sum := "82f8e763e11cc14f6d815dc2b0caec879495691477ce8001977da151fc814b34", func := "gesso/gessolaw09.MatDoes", spec := "matDoes", inPlace := ["math/bits.Add64", "math/bits.Sub64"], unfollowed := true, recurses := true, named := ["math/bits.divideError", "math/bits.overflowError"], apart := false, narrowed := true }
def MatDoesUptoSaid : Prop := matDoesUptoRow.holds Tryz.pinned (OpenSpec.upto matDoesSpec)

/-- 'gessolaw09.MatMakes', WHERE WHAT IT READS IS OF BULK AT MOST 1048576: true; the input reads as it did. -/
def matMakesUptoRow : OpenClaim := { program := "ytgneghgfpkkkdaagreat", sum := "82f8e763e11cc14f6d815dc2b0caec879495691477ce8001977da151fc814b34", func := "gesso/gessolaw09.MatMakes", spec := "matMakes", inPlace := ["math/bits.Add64", "math/bits.Sub64"], unfollowed := true, recurses := true, named := ["math/bits.divideError", "math/bits.overflowError"], apart := false, narrowed := true }
def MatMakesUptoSaid : Prop := matMakesUptoRow.holds Tryz.pinned (OpenSpec.upto matMakesSpec)

/-- 'gessolaw09.MatLaws', WHERE WHAT IT READS IS OF BULK AT MOST 1048576: true; the input reads as it did. -/
def matLawsUptoRow : OpenClaim := { program := "ytgneghgfpkkkdaagreat", sum := "82f8e763e11cc14f6d815dc2b0caec879495691477ce8001977da151fc814b34", func := "gesso/gessolaw09.MatLaws", spec := "matLaws", inPlace := ["math/bits.Add64", "math/bits.Sub64"], unfollowed := true, recurses := true, named := ["math/bits.divideError", "math/bits.overflowError"], apart := false, narrowed := true }
def MatLawsUptoSaid : Prop := matLawsUptoRow.holds Tryz.pinned (OpenSpec.upto matLawsSpec)

/-- 'gessolaw09.MatParts', WHERE WHAT IT READS IS OF BULK AT MOST 1048576: true; the input reads as it did. -/
def matPartsUptoRow : OpenClaim := { program := "ytgneghgfpkkkdaagreat", sum := "82f8e763e11cc14f6d815dc2b0caec879495691477ce8001977da151fc814b34", func := "gesso/gessolaw09.MatParts", spec := "matParts", inPlace := ["math/bits.Add64", "math/bits.Sub64"], unfollowed := true, recurses := true, named := ["math/bits.divideError", "math/bits.overflowError"], apart := false, narrowed := true }
def MatPartsUptoSaid : Prop := matPartsUptoRow.holds Tryz.pinned (OpenSpec.upto matPartsSpec)

end Rows
end Go.Proofs.YtgneghgfpkkkdaaGreat
