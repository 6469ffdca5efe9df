/-
  No cell of these rows narrows 'for every input' (looked for: loops, veiled, ifaces, maps, wideKeys, modest, calm, conditions, laid).
  DERIVED. THE GIVEN ROWS OF THIS SEAT. 7 by the template 'for every input the law returns true; each argument reads behind the call as it read before'; 0 by the template 'total and deterministic' (their statements: YtmgklaklnaihpaaGreatTotals.lean).
  GIVEN WITH THE SEED: the statements are not yours to turn. If you find one false, say at which input.
  Laid BY PROGRAM, IN A SANDBOX (cutbox-rows.mjs): the forced cells as the released guide's own fill.sh prints them over the translation c539b6e319274be4… (all of the seat's roots in one cut). By AI agents, Wed Nov 11 2026. No macro, syntax, notation, axiom, sorry.
-/
import Derived.Test.YtmgklaklnaihpaaGreatChecked
import GoSem.Claim
import GoSem.ClaimJoined
import GoSem.ClaimMapViews
import Derived.JoinedTies
import Derived.KernelRfl
namespace Go.Proofs.YtmgklaklnaihpaaGreat
/- THE CELL 'sum', in the pinned program and in every row, IS THE sha256 OF THE DUMP (.gsa) THAT YtmgklaklnaihpaaGreatProg.lean LOADS. Nothing in Lean hashes anything: it is a label: what it is worth is what the hold of that sum in a sandbox is worth. -/
noncomputable def Tryz.pinned : Pinned := { name := "ytmgklaklnaihpaagreat", sum := "c539b6e319274be4e01252097d7c893e355b8d3d11c5bf8d7ba5b668aa54dd89", checked := Tryz.checked }
namespace Rows
def none {H : Type} : Left H := { results := [], args := [] }

/-- 'gessolaw03.RatTexts': WHATEVER THE INPUT: true; the input reads as it did. -/
def ratTextsSpec : ChangeSpec := { name := "ratTexts", fn := fun _ => fun
  | [d1, d2] => { results := [.lit (.bool true)], args := [d1, d2] }
  | _ => none }
def ratTextsRow : OpenClaim := { program := "ytmgklaklnaihpaagreat", sum := "c539b6e319274be4e01252097d7c893e355b8d3d11c5bf8d7ba5b668aa54dd89", func := "gesso/gessolaw03.RatTexts", spec := "ratTexts", inPlace := ["math/bits.Add64", "math/bits.Sub64", "internal/bytealg.IndexByteString", "internal/bytealg.IndexString"], unfollowed := true, recurses := true, named := ["math/bits.divideError", "math/bits.overflowError", "internal/bytealg.MaxLen"], apart := false }
def RatTextsSaid : Prop := ratTextsRow.holds Tryz.pinned (OpenSpec.ofChange ratTextsSpec)

/-- ITS FALSE NEIGHBOUR: 'it returns false'. Refute it at one input. -/
def ratTextsWrong : ChangeSpec := { name := "ratTexts", fn := fun _ => fun
  | [d1, d2] => { results := [.lit (.bool false)], args := [d1, d2] }
  | _ => none }
def RatTextsWrongFalsely : Prop := ratTextsRow.holds Tryz.pinned (OpenSpec.ofChange ratTextsWrong)

/-- 'gessolaw03.RatLowest': WHATEVER THE INPUT: true; the input reads as it did. -/
def ratLowestSpec : ChangeSpec := { name := "ratLowest", fn := fun _ => fun
  | [d1, d2, d3] => { results := [.lit (.bool true)], args := [d1, d2, d3] }
  | _ => none }
def ratLowestRow : OpenClaim := { program := "ytmgklaklnaihpaagreat", sum := "c539b6e319274be4e01252097d7c893e355b8d3d11c5bf8d7ba5b668aa54dd89", func := "gesso/gessolaw03.RatLowest", spec := "ratLowest", inPlace := ["math/bits.Add64", "math/bits.Sub64", "internal/bytealg.IndexByteString", "internal/bytealg.IndexString"], unfollowed := true, recurses := true, named := ["math/bits.divideError", "math/bits.overflowError", "internal/bytealg.MaxLen"], apart := false }
def RatLowestSaid : Prop := ratLowestRow.holds Tryz.pinned (OpenSpec.ofChange ratLowestSpec)

/-- ITS FALSE NEIGHBOUR: 'it returns false'. Refute it at one input. -/
def ratLowestWrong : ChangeSpec := { name := "ratLowest", fn := fun _ => fun
  | [d1, d2, d3] => { results := [.lit (.bool false)], args := [d1, d2, d3] }
  | _ => none }
def RatLowestWrongFalsely : Prop := ratLowestRow.holds Tryz.pinned (OpenSpec.ofChange ratLowestWrong)

/-- 'gessolaw07.SegMeets': WHATEVER THE INPUT: true; the input reads as it did. -/
def segMeetsSpec : ChangeSpec := { name := "segMeets", fn := fun _ => fun
  | [d] => { results := [.lit (.bool true)], args := [d] }
  | _ => none }
def segMeetsRow : OpenClaim := { program := "ytmgklaklnaihpaagreat", sum := "c539b6e319274be4e01252097d7c893e355b8d3d11c5bf8d7ba5b668aa54dd89", func := "gesso/gessolaw07.SegMeets", spec := "segMeets", inPlace := ["math/bits.Add64", "math/bits.Sub64"], unfollowed := true, recurses := true, named := ["math/bits.divideError", "math/bits.overflowError"], apart := false }
def SegMeetsSaid : Prop := segMeetsRow.holds Tryz.pinned (OpenSpec.ofChange segMeetsSpec)

/-- ITS FALSE NEIGHBOUR: 'it returns false'. Refute it at one input. -/
def segMeetsWrong : ChangeSpec := { name := "segMeets", fn := fun _ => fun
  | [d] => { results := [.lit (.bool false)], args := [d] }
  | _ => none }
def SegMeetsWrongFalsely : Prop := segMeetsRow.holds Tryz.pinned (OpenSpec.ofChange segMeetsWrong)

/-- 'gessolaw07.SegLines': WHATEVER THE INPUT: true; the input reads as it did. -/
def segLinesSpec : ChangeSpec := { name := "segLines", fn := fun _ => fun
  | [d1, d2, d3] => { results := [.lit (.bool true)], args := [d1, d2, d3] }
  | _ => none }
def segLinesRow : OpenClaim := { program := "ytmgklaklnaihpaagreat", sum := "c539b6e319274be4e01252097d7c893e355b8d3d11c5bf8d7ba5b668aa54dd89", func := "gesso/gessolaw07.SegLines", spec := "segLines", inPlace := ["math/bits.Add64", "math/bits.Sub64"], unfollowed := true, recurses := true, named := ["math/bits.divideError", "math/bits.overflowError"], apart := false }
def SegLinesSaid : Prop := segLinesRow.holds Tryz.pinned (OpenSpec.ofChange segLinesSpec)

/-- ITS FALSE NEIGHBOUR: 'it returns false'. Refute it at one input. -/
def segLinesWrong : ChangeSpec := { name := "segLines", fn := fun _ => fun
  | [d1, d2, d3] => { results := [.lit (.bool false)], args := [d1, d2, d3] }
  | _ => none }
def SegLinesWrongFalsely : Prop := segLinesRow.holds Tryz.pinned (OpenSpec.ofChange segLinesWrong)

/-- 'gessolaw07.SegBoth': WHATEVER THE INPUT: true; the input reads as it did. -/
def segBothSpec : ChangeSpec := { name := "segBoth", fn := fun _ => fun
  | [d1, d2] => { results := [.lit (.bool true)], args := [d1, d2] }
  | _ => none }
def segBothRow : OpenClaim := { program := "ytmgklaklnaihpaagreat", sum := "c539b6e319274be4e01252097d7c893e355b8d3d11c5bf8d7ba5b668aa54dd89", func := "gesso/gessolaw07.SegBoth", spec := "segBoth", inPlace := ["math/bits.Add64", "math/bits.Sub64"], unfollowed := true, recurses := true, named := ["math/bits.divideError", "math/bits.overflowError"], apart := false }
def SegBothSaid : Prop := segBothRow.holds Tryz.pinned (OpenSpec.ofChange segBothSpec)

/-- ITS FALSE NEIGHBOUR: 'it returns false'. Refute it at one input. -/
def segBothWrong : ChangeSpec := { name := "segBoth", fn := fun _ => fun
  | [d1, d2] => { results := [.lit (.bool false)], args := [d1, d2] }
  | _ => none }
def SegBothWrongFalsely : Prop := segBothRow.holds Tryz.pinned (OpenSpec.ofChange segBothWrong)

/-- 'gessolaw07.SegAt': WHATEVER THE INPUT: true; the input reads as it did. -/
def segAtSpec : ChangeSpec := { name := "segAt", fn := fun _ => fun
  | [d1, d2, d3] => { results := [.lit (.bool true)], args := [d1, d2, d3] }
  | _ => none }
def segAtRow : OpenClaim := { program := "ytmgklaklnaihpaagreat", sum := "c539b6e319274be4e01252097d7c893e355b8d3d11c5bf8d7ba5b668aa54dd89", func := "gesso/gessolaw07.SegAt", spec := "segAt", inPlace := ["math/bits.Add64", "math/bits.Sub64"], unfollowed := true, recurses := true, named := ["math/bits.divideError", "math/bits.overflowError"], apart := false }
def SegAtSaid : Prop := segAtRow.holds Tryz.pinned (OpenSpec.ofChange segAtSpec)

/-- ITS FALSE NEIGHBOUR: 'it returns false'. Refute it at one input. -/
def segAtWrong : ChangeSpec := { name := "segAt", fn := fun _ => fun
  | [d1, d2, d3] => { results := [.lit (.bool false)], args := [d1, d2, d3] }
  | _ => none }
def SegAtWrongFalsely : Prop := segAtRow.holds Tryz.pinned (OpenSpec.ofChange segAtWrong)

/-- 'gessolaw07.SegCrosses': WHATEVER THE INPUT: true; the input reads as it did. -/
def segCrossesSpec : ChangeSpec := { name := "segCrosses", fn := fun _ => fun
  | [d] => { results := [.lit (.bool true)], args := [d] }
  | _ => none }
def segCrossesRow : OpenClaim := { program := "ytmgklaklnaihpaagreat", sum := "c539b6e319274be4e01252097d7c893e355b8d3d11c5bf8d7ba5b668aa54dd89", func := "gesso/gessolaw07.SegCrosses", spec := "segCrosses", inPlace := ["math/bits.Add64", "math/bits.Sub64"], unfollowed := true, recurses := true, named := ["math/bits.divideError", "math/bits.overflowError"], apart := false }
def SegCrossesSaid : Prop := segCrossesRow.holds Tryz.pinned (OpenSpec.ofChange segCrossesSpec)

/-- ITS FALSE NEIGHBOUR: 'it returns false'. Refute it at one input. -/
def segCrossesWrong : ChangeSpec := { name := "segCrosses", fn := fun _ => fun
  | [d] => { results := [.lit (.bool false)], args := [d] }
  | _ => none }
def SegCrossesWrongFalsely : Prop := segCrossesRow.holds Tryz.pinned (OpenSpec.ofChange segCrossesWrong)

/- THE SECOND FORM. 'bulk': how many values and letters a reading holds, each counted each time it is reached (what is shared counts as often as it is met; a slice's spare places count too). A statement '..UptoSaid' is the law's where the arguments, and the package variables that the reading takes, are together of bulk at most 1048576: NARROWER than '..Said'. Prove '..Said' where nothing that the law and all that it calls make is longer than what came in: it says more and counts as full. Else prove '..UptoSaid'. A law counts once. -/
mutual
def uptoBulk {H : Type} : DataW H → Nat
  | .lit (.string bytes) => bytes.length + 1
  | .lit _ => 1
  | .nil => 1
  | .ptr d => uptoBulk d + 1
  | .slice elems spare => uptoBulkAll elems + uptoBulkAll spare + 1
  | .agg parts => uptoBulkAll parts + 1
  | .iface _ d => uptoBulk d + 1
  | .map entries => uptoBulkEntries entries + 1
  | .held _ => 1
def uptoBulkAll {H : Type} : List (DataW H) → Nat
  | [] => 0
  | d :: r => uptoBulk d + uptoBulkAll r
def uptoBulkEntries {H : Type} : List (Lit × DataW H) → Nat
  | [] => 0
  | x :: r => uptoBulkEntry x + uptoBulkEntries r
def uptoBulkEntry {H : Type} : Lit × DataW H → Nat
  | (.string bytes, d) => bytes.length + uptoBulk d + 1
  | (_, d) => uptoBulk d + 1
 end
def uptoSmall : (H : Type) → List (DataW H) → Bool := fun _ ds => decide (uptoBulkAll ds ≤ 1048576)
def OpenSpec.upto (s : _root_.Go.ChangeSpec) : _root_.Go.OpenSpec := { _root_.Go.OpenSpec.ofChange s with cond := some uptoSmall }

/-- 'gessolaw03.RatTexts', WHERE WHAT IT READS IS OF BULK AT MOST 1048576: true; the input reads as it did. -/
def ratTextsUptoRow : OpenClaim := { program := "ytmgklaklnaihpaagreat", sum := "c539b6e319274be4e01252097d7c893e355b8d3d11c5bf8d7ba5b668aa54dd89", func := "gesso/gessolaw03.RatTexts", spec := "ratTexts", inPlace := ["math/bits.Add64", "math/bits.Sub64", "internal/bytealg.IndexByteString", "internal/bytealg.IndexString"], unfollowed := true, recurses := true, named := ["math/bits.divideError", "math/bits.overflowError", "internal/bytealg.MaxLen"], apart := false, narrowed := true }
def RatTextsUptoSaid : Prop := ratTextsUptoRow.holds Tryz.pinned (OpenSpec.upto ratTextsSpec)

/-- 'gessolaw03.RatLowest', WHERE WHAT IT READS IS OF BULK AT MOST 1048576: true; the input reads as it did. -/
def ratLowestUptoRow : OpenClaim := { program := "ytmgklaklnaihpaagreat", sum := "c539b6e319274be4e01252097d7c893e355b8d3d11c5bf8d7ba5b668aa54dd89", func := "gesso/gessolaw03.RatLowest", spec := "ratLowest", inPlace := ["math/bits.Add64", "math/bits.Sub64", "internal/bytealg.IndexByteString", "internal/bytealg.IndexString"], unfollowed := true, recurses := true, named := ["math/bits.divideError", "math/bits.overflowError", "internal/bytealg.MaxLen"], apart := false, narrowed := true }
def RatLowestUptoSaid : Prop := ratLowestUptoRow.holds Tryz.pinned (OpenSpec.upto ratLowestSpec)

/-- 'gessolaw07.SegMeets', WHERE WHAT IT READS IS OF BULK AT MOST 1048576: true; the input reads as it did. -/
def segMeetsUptoRow : OpenClaim := { program := "ytmgklaklnaihpaagreat", sum := "c539b6e319274be4e01252097d7c893e355b8d3d11c5bf8d7ba5b668aa54dd89", func := "gesso/gessolaw07.SegMeets", spec := "segMeets", inPlace := ["math/bits.Add64", "math/bits.Sub64"], unfollowed := true, recurses := true, named := ["math/bits.divideError", "math/bits.overflowError"], apart := false, narrowed := true }
def SegMeetsUptoSaid : Prop := segMeetsUptoRow.holds Tryz.pinned (OpenSpec.upto segMeetsSpec)

/-- 'gessolaw07.SegLines', WHERE WHAT IT READS IS OF BULK AT MOST 1048576: true; the input reads as it did. -/
def segLinesUptoRow : OpenClaim := { program := "ytmgklaklnaihpaagreat", sum := "c539b6e319274be4e01252097d7c893e355b8d3d11c5bf8d7ba5b668aa54dd89", func := "gesso/gessolaw07.SegLines", spec := "segLines", inPlace := ["math/bits.Add64", "math/bits.Sub64"], unfollowed := true, recurses := true, named := ["math/bits.divideError", "math/bits.overflowError"], apart := false, narrowed := true }
def SegLinesUptoSaid : Prop := segLinesUptoRow.holds Tryz.pinned (OpenSpec.upto segLinesSpec)

/-- 'gessolaw07.SegBoth', WHERE WHAT IT READS IS OF BULK AT MOST 1048576: true; the input reads as it did. -/
def segBothUptoRow : OpenClaim := { program := "ytmgklaklnaihpaagreat", sum := "c539b6e319274be4e01252097d7c893e355b8d3d11c5bf8d7ba5b668aa54dd89", func := "gesso/gessolaw07.SegBoth", spec := "segBoth", inPlace := ["math/bits.Add64", "math/bits.Sub64"], unfollowed := true, recurses := true, named := ["math/bits.divideError", "math/bits.overflowError"], apart := false, narrowed := true }
def SegBothUptoSaid : Prop := segBothUptoRow.holds Tryz.pinned (OpenSpec.upto segBothSpec)

/-- 'gessolaw07.SegAt', WHERE WHAT IT READS IS OF BULK AT MOST 1048576: true; the input reads as it did. -/
def segAtUptoRow : OpenClaim := { program := "ytmgklaklnaihpaagreat", sum := "c539b6e319274be4e01252097d7c893e355b8d3d11c5bf8d7ba5b668aa54dd89", func := "gesso/gessolaw07.SegAt", spec := "segAt", inPlace := ["math/bits.Add64", "math/bits.Sub64"], unfollowed := true, recurses := true, named := ["math/bits.divideError", "math/bits.overflowError"], apart := false, narrowed := true }
def SegAtUptoSaid : Prop := segAtUptoRow.holds Tryz.pinned (OpenSpec.upto segAtSpec)

/-- 'gessolaw07.SegCrosses', WHERE WHAT IT READS IS OF BULK AT MOST 1048576: true; the input reads as it did. -/
def segCrossesUptoRow : OpenClaim := { program := "ytmgklaklnaihpaagreat", sum := "c539b6e319274be4e01252097d7c893e355b8d3d11c5bf8d7ba5b668aa54dd89", func := "gesso/gessolaw07.SegCrosses", spec := "segCrosses", inPlace := ["math/bits.Add64", "math/bits.Sub64"], unfollowed := true, recurses := true, named := ["math/bits.divideError", "math/bits.overflowError"], apart := false, narrowed := true }
def SegCrossesUptoSaid : Prop := segCrossesUptoRow.holds Tryz.pinned (OpenSpec.upto segCrossesSpec)

end Rows
end Go.Proofs.YtmgklaklnaihpaaGreat
