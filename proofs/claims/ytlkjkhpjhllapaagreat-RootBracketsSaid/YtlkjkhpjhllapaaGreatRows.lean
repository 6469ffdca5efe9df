/-
  No cell of these rows narrows 'for every input' (looked for: loops, veiled, ifaces, maps, wideKeys, modest, calm, conditions, laid).
  DERIVED. THE GIVEN ROWS OF THIS SEAT. 11 by the template 'for every input the law returns true; each argument reads behind the call as it read before'; 0 by the template 'total and deterministic' (their statements: YtlkjkhpjhllapaaGreatTotals.lean).
  GIVEN WITH THE SEED: the statements are not yours to turn. If you find one false, say at which input.
  Laid BY PROGRAM, IN A SANDBOX (cutbox-rows.mjs): the forced cells as the released guide's own fill.sh prints them over the translation e4eece6344b9ff70… (all of the seat's roots in one cut). By AI agents, Wed Nov 11 2026. No macro, syntax, notation, axiom, sorry.
-/
import Derived.Test.YtlkjkhpjhllapaaGreatChecked
import GoSem.Claim
import GoSem.ClaimJoined
import GoSem.ClaimMapViews
import Derived.JoinedTies
import Derived.KernelRfl
namespace Go.Proofs.YtlkjkhpjhllapaaGreat
/- THE CELL 'sum', in the pinned program and in every row, IS THE sha256 OF THE DUMP (.gsa) THAT YtlkjkhpjhllapaaGreatProg.lean LOADS. Nothing in Lean hashes anything: it is a label: what it is worth is what the hold of that sum in a sandbox is worth. -/
noncomputable def Tryz.pinned : Pinned := { name := "ytlkjkhpjhllapaagreat", sum := "e4eece6344b9ff7010f456e538aa2d6ba92f3df98b7c5816938866512aeb0125", checked := Tryz.checked }
namespace Rows
def none {H : Type} : Left H := { results := [], args := [] }

/-- 'gessolaw03.RatReckons': WHATEVER THE INPUT: true; the input reads as it did. -/
def ratReckonsSpec : ChangeSpec := { name := "ratReckons", fn := fun _ => fun
  | [d1, d2] => { results := [.lit (.bool true)], args := [d1, d2] }
  | _ => none }
def ratReckonsRow : OpenClaim := { program := "ytlkjkhpjhllapaagreat", sum := "e4eece6344b9ff7010f456e538aa2d6ba92f3df98b7c5816938866512aeb0125", func := "gesso/gessolaw03.RatReckons", spec := "ratReckons", inPlace := ["math/bits.Add64", "math/bits.Sub64", "internal/bytealg.IndexByteString", "internal/bytealg.IndexString"], unfollowed := true, recurses := true, named := ["math/bits.divideError", "math/bits.overflowError", "internal/bytealg.MaxLen"], apart := false }
def RatReckonsSaid : Prop := ratReckonsRow.holds Tryz.pinned (OpenSpec.ofChange ratReckonsSpec)

/-- ITS FALSE NEIGHBOUR: 'it returns false'. Refute it at one input. -/
def ratReckonsWrong : ChangeSpec := { name := "ratReckons", fn := fun _ => fun
  | [d1, d2] => { results := [.lit (.bool false)], args := [d1, d2] }
  | _ => none }
def RatReckonsWrongFalsely : Prop := ratReckonsRow.holds Tryz.pinned (OpenSpec.ofChange ratReckonsWrong)

/-- 'gessolaw03.RatTexts': WHATEVER THE INPUT: true; the input reads as it did. -/
def ratTextsSpec : ChangeSpec := { name := "ratTexts", fn := fun _ => fun
  | [d1, d2] => { results := [.lit (.bool true)], args := [d1, d2] }
  | _ => none }
def ratTextsRow : OpenClaim := { program := "ytlkjkhpjhllapaagreat", sum := "e4eece6344b9ff7010f456e538aa2d6ba92f3df98b7c5816938866512aeb0125", func := "gesso/gessolaw03.RatTexts", spec := "ratTexts", inPlace := ["math/bits.Add64", "math/bits.Sub64", "internal/bytealg.IndexByteString", "internal/bytealg.IndexString"], unfollowed := true, recurses := true, named := ["math/bits.divideError", "math/bits.overflowError", "internal/bytealg.MaxLen"], apart := false }
def RatTextsSaid : Prop := ratTextsRow.holds Tryz.pinned (OpenSpec.ofChange ratTextsSpec)

/-- ITS FALSE NEIGHBOUR: 'it returns false'. Refute it at one input. -/
def ratTextsWrong : ChangeSpec := { name := "ratTexts", fn := fun _ => fun
  | [d1, d2] => { results := [.lit (.bool false)], args := [d1, d2] }
  | _ => none }
def RatTextsWrongFalsely : Prop := ratTextsRow.holds Tryz.pinned (OpenSpec.ofChange ratTextsWrong)

/-- 'gessolaw03.RatLowest': WHATEVER THE INPUT: true; the input reads as it did. -/
def ratLowestSpec : ChangeSpec := { name := "ratLowest", fn := fun _ => fun
  | [d1, d2, d3] => { results := [.lit (.bool true)], args := [d1, d2, d3] }
  | _ => none }
def ratLowestRow : OpenClaim := { program := "ytlkjkhpjhllapaagreat", sum := "e4eece6344b9ff7010f456e538aa2d6ba92f3df98b7c5816938866512aeb0125", func := "gesso/gessolaw03.RatLowest", spec := "ratLowest", inPlace := ["math/bits.Add64", "math/bits.Sub64", "internal/bytealg.IndexByteString", "internal/bytealg.IndexString"], unfollowed := true, recurses := true, named := ["math/bits.divideError", "math/bits.overflowError", "internal/bytealg.MaxLen"], apart := false }
def RatLowestSaid : Prop := ratLowestRow.holds Tryz.pinned (OpenSpec.ofChange ratLowestSpec)

/-- ITS FALSE NEIGHBOUR: 'it returns false'. Refute it at one input. -/
def ratLowestWrong : ChangeSpec := { name := "ratLowest", fn := fun _ => fun
  | [d1, d2, d3] => { results := [.lit (.bool false)], args := [d1, d2, d3] }
  | _ => none }
def RatLowestWrongFalsely : Prop := ratLowestRow.holds Tryz.pinned (OpenSpec.ofChange ratLowestWrong)

/-- 'gessolaw04.RootBrackets': WHATEVER THE INPUT: true; the input reads as it did. -/
def rootBracketsSpec : ChangeSpec := { name := "rootBrackets", fn := fun _ => fun
  | [d1, d2] => { results := [.lit (.bool true)], args := [d1, d2] }
  | _ => none }
def rootBracketsRow : OpenClaim := { program := "ytlkjkhpjhllapaagreat", sum := "e4eece6344b9ff7010f456e538aa2d6ba92f3df98b7c5816938866512aeb0125", func := "gesso/gessolaw04.RootBrackets", spec := "rootBrackets", inPlace := ["math/bits.Add64", "math/bits.Sub64", "sync/atomic.AddInt64", "sync/atomic.LoadInt64"], unfollowed := true, recurses := true, named := ["math/bits.divideError", "math/bits.overflowError"], apart := false }
def RootBracketsSaid : Prop := rootBracketsRow.holds Tryz.pinned (OpenSpec.ofChange rootBracketsSpec)

/-- ITS FALSE NEIGHBOUR: 'it returns false'. Refute it at one input. -/
def rootBracketsWrong : ChangeSpec := { name := "rootBrackets", fn := fun _ => fun
  | [d1, d2] => { results := [.lit (.bool false)], args := [d1, d2] }
  | _ => none }
def RootBracketsWrongFalsely : Prop := rootBracketsRow.holds Tryz.pinned (OpenSpec.ofChange rootBracketsWrong)

/-- 'gessolaw04.RootBetween': WHATEVER THE INPUT: true; the input reads as it did. -/
def rootBetweenSpec : ChangeSpec := { name := "rootBetween", fn := fun _ => fun
  | [d1, d2] => { results := [.lit (.bool true)], args := [d1, d2] }
  | _ => none }
def rootBetweenRow : OpenClaim := { program := "ytlkjkhpjhllapaagreat", sum := "e4eece6344b9ff7010f456e538aa2d6ba92f3df98b7c5816938866512aeb0125", func := "gesso/gessolaw04.RootBetween", spec := "rootBetween", inPlace := ["math/bits.Add64", "math/bits.Sub64", "sync/atomic.AddInt64", "sync/atomic.LoadInt64"], unfollowed := true, recurses := true, named := ["math/bits.divideError", "math/bits.overflowError"], apart := false }
def RootBetweenSaid : Prop := rootBetweenRow.holds Tryz.pinned (OpenSpec.ofChange rootBetweenSpec)

/-- ITS FALSE NEIGHBOUR: 'it returns false'. Refute it at one input. -/
def rootBetweenWrong : ChangeSpec := { name := "rootBetween", fn := fun _ => fun
  | [d1, d2] => { results := [.lit (.bool false)], args := [d1, d2] }
  | _ => none }
def RootBetweenWrongFalsely : Prop := rootBetweenRow.holds Tryz.pinned (OpenSpec.ofChange rootBetweenWrong)

/-- 'gessolaw05.FixTurns': WHATEVER THE INPUT: true; the input reads as it did. -/
def fixTurnsSpec : ChangeSpec := { name := "fixTurns", fn := fun _ => fun
  | [d1, d2, d3] => { results := [.lit (.bool true)], args := [d1, d2, d3] }
  | _ => none }
def fixTurnsRow : OpenClaim := { program := "ytlkjkhpjhllapaagreat", sum := "e4eece6344b9ff7010f456e538aa2d6ba92f3df98b7c5816938866512aeb0125", func := "gesso/gessolaw05.FixTurns", spec := "fixTurns", inPlace := ["math/bits.Add64", "math/bits.Sub64"], unfollowed := true, recurses := true, named := ["math/bits.divideError", "math/bits.overflowError"], apart := false }
def FixTurnsSaid : Prop := fixTurnsRow.holds Tryz.pinned (OpenSpec.ofChange fixTurnsSpec)

/-- ITS FALSE NEIGHBOUR: 'it returns false'. Refute it at one input. -/
def fixTurnsWrong : ChangeSpec := { name := "fixTurns", fn := fun _ => fun
  | [d1, d2, d3] => { results := [.lit (.bool false)], args := [d1, d2, d3] }
  | _ => none }
def FixTurnsWrongFalsely : Prop := fixTurnsRow.holds Tryz.pinned (OpenSpec.ofChange fixTurnsWrong)

/-- 'gessolaw06.PtReckons': WHATEVER THE INPUT: true; the input reads as it did. -/
def ptReckonsSpec : ChangeSpec := { name := "ptReckons", fn := fun _ => fun
  | [d1, d2, d3] => { results := [.lit (.bool true)], args := [d1, d2, d3] }
  | _ => none }
def ptReckonsRow : OpenClaim := { program := "ytlkjkhpjhllapaagreat", sum := "e4eece6344b9ff7010f456e538aa2d6ba92f3df98b7c5816938866512aeb0125", func := "gesso/gessolaw06.PtReckons", spec := "ptReckons", inPlace := ["math/bits.Add64", "math/bits.Sub64"], unfollowed := true, recurses := true, named := ["math/bits.divideError", "math/bits.overflowError"], apart := false }
def PtReckonsSaid : Prop := ptReckonsRow.holds Tryz.pinned (OpenSpec.ofChange ptReckonsSpec)

/-- ITS FALSE NEIGHBOUR: 'it returns false'. Refute it at one input. -/
def ptReckonsWrong : ChangeSpec := { name := "ptReckons", fn := fun _ => fun
  | [d1, d2, d3] => { results := [.lit (.bool false)], args := [d1, d2, d3] }
  | _ => none }
def PtReckonsWrongFalsely : Prop := ptReckonsRow.holds Tryz.pinned (OpenSpec.ofChange ptReckonsWrong)

/-- 'gessolaw06.PtPlaces': WHATEVER THE INPUT: true; the input reads as it did. -/
def ptPlacesSpec : ChangeSpec := { name := "ptPlaces", fn := fun _ => fun
  | [d1, d2, d3] => { results := [.lit (.bool true)], args := [d1, d2, d3] }
  | _ => none }
def ptPlacesRow : OpenClaim := { program := "ytlkjkhpjhllapaagreat", sum := "e4eece6344b9ff7010f456e538aa2d6ba92f3df98b7c5816938866512aeb0125", func := "gesso/gessolaw06.PtPlaces", spec := "ptPlaces", inPlace := ["math/bits.Add64", "math/bits.Sub64"], unfollowed := true, recurses := true, named := ["math/bits.divideError", "math/bits.overflowError"], apart := false }
def PtPlacesSaid : Prop := ptPlacesRow.holds Tryz.pinned (OpenSpec.ofChange ptPlacesSpec)

/-- ITS FALSE NEIGHBOUR: 'it returns false'. Refute it at one input. -/
def ptPlacesWrong : ChangeSpec := { name := "ptPlaces", fn := fun _ => fun
  | [d1, d2, d3] => { results := [.lit (.bool false)], args := [d1, d2, d3] }
  | _ => none }
def PtPlacesWrongFalsely : Prop := ptPlacesRow.holds Tryz.pinned (OpenSpec.ofChange ptPlacesWrong)

/-- 'gessolaw06.PtTurns': WHATEVER THE INPUT: true; the input reads as it did. -/
def ptTurnsSpec : ChangeSpec := { name := "ptTurns", fn := fun _ => fun
  | [d1, d2, d3] => { results := [.lit (.bool true)], args := [d1, d2, d3] }
  | _ => none }
def ptTurnsRow : OpenClaim := { program := "ytlkjkhpjhllapaagreat", sum := "e4eece6344b9ff7010f456e538aa2d6ba92f3df98b7c5816938866512aeb0125", func := "gesso/gessolaw06.PtTurns", spec := "ptTurns", inPlace := ["math/bits.Add64", "math/bits.Sub64"], unfollowed := true, recurses := true, named := ["math/bits.divideError", "math/bits.overflowError"], apart := false }
def PtTurnsSaid : Prop := ptTurnsRow.holds Tryz.pinned (OpenSpec.ofChange ptTurnsSpec)

/-- ITS FALSE NEIGHBOUR: 'it returns false'. Refute it at one input. -/
def ptTurnsWrong : ChangeSpec := { name := "ptTurns", fn := fun _ => fun
  | [d1, d2, d3] => { results := [.lit (.bool false)], args := [d1, d2, d3] }
  | _ => none }
def PtTurnsWrongFalsely : Prop := ptTurnsRow.holds Tryz.pinned (OpenSpec.ofChange ptTurnsWrong)

/-- 'gessolaw06.PtNear': WHATEVER THE INPUT: true; the input reads as it did. -/
def ptNearSpec : ChangeSpec := { name := "ptNear", fn := fun _ => fun
  | [d1, d2] => { results := [.lit (.bool true)], args := [d1, d2] }
  | _ => none }
def ptNearRow : OpenClaim := { program := "ytlkjkhpjhllapaagreat", sum := "e4eece6344b9ff7010f456e538aa2d6ba92f3df98b7c5816938866512aeb0125", func := "gesso/gessolaw06.PtNear", spec := "ptNear", inPlace := ["math/bits.Add64", "math/bits.Sub64"], unfollowed := true, recurses := true, named := ["math/bits.divideError", "math/bits.overflowError"], apart := false }
def PtNearSaid : Prop := ptNearRow.holds Tryz.pinned (OpenSpec.ofChange ptNearSpec)

/-- ITS FALSE NEIGHBOUR: 'it returns false'. Refute it at one input. -/
def ptNearWrong : ChangeSpec := { name := "ptNear", fn := fun _ => fun
  | [d1, d2] => { results := [.lit (.bool false)], args := [d1, d2] }
  | _ => none }
def PtNearWrongFalsely : Prop := ptNearRow.holds Tryz.pinned (OpenSpec.ofChange ptNearWrong)

/-- 'gessolaw06.PtSquares': WHATEVER THE INPUT: true; the input reads as it did. -/
def ptSquaresSpec : ChangeSpec := { name := "ptSquares", fn := fun _ => fun
  | [d1, d2] => { results := [.lit (.bool true)], args := [d1, d2] }
  | _ => none }
def ptSquaresRow : OpenClaim := { program := "ytlkjkhpjhllapaagreat", sum := "e4eece6344b9ff7010f456e538aa2d6ba92f3df98b7c5816938866512aeb0125", func := "gesso/gessolaw06.PtSquares", spec := "ptSquares", inPlace := ["math/bits.Add64", "math/bits.Sub64"], unfollowed := true, recurses := true, named := ["math/bits.divideError", "math/bits.overflowError"], apart := false }
def PtSquaresSaid : Prop := ptSquaresRow.holds Tryz.pinned (OpenSpec.ofChange ptSquaresSpec)

/-- ITS FALSE NEIGHBOUR: 'it returns false'. Refute it at one input. -/
def ptSquaresWrong : ChangeSpec := { name := "ptSquares", fn := fun _ => fun
  | [d1, d2] => { results := [.lit (.bool false)], args := [d1, d2] }
  | _ => none }
def PtSquaresWrongFalsely : Prop := ptSquaresRow.holds Tryz.pinned (OpenSpec.ofChange ptSquaresWrong)

/- THE SECOND FORM. 'bulk': how many values and letters a reading holds, each counted each time it is reached (what is shared counts as often as it is met; a slice's spare places count too). A statement '..UptoSaid' is the law's where the arguments, and the package variables that the reading takes, are together of bulk at most 1048576: NARROWER than '..Said'. Prove '..Said' where nothing that the law and all that it calls make is longer than what came in: it says more and counts as full. Else prove '..UptoSaid'. A law counts once. -/
mutual
def uptoBulk {H : Type} : DataW H → Nat
  | .lit (.string bytes) => bytes.length + 1
  | .lit _ => 1
  | .nil => 1
  | .ptr d => uptoBulk d + 1
  | .slice elems spare => uptoBulkAll elems + uptoBulkAll spare + 1
  | .agg parts => uptoBulkAll parts + 1
  | .iface _ d => uptoBulk d + 1
  | .map entries => uptoBulkEntries entries + 1
  | .held _ => 1
def uptoBulkAll {H : Type} : List (DataW H) → Nat
  | [] => 0
  | d :: r => uptoBulk d + uptoBulkAll r
def uptoBulkEntries {H : Type} : List (Lit × DataW H) → Nat
  | [] => 0
  | x :: r => uptoBulkEntry x + uptoBulkEntries r
def uptoBulkEntry {H : Type} : Lit × DataW H → Nat
  | (.string bytes, d) => bytes.length + uptoBulk d + 1
  | (_, d) => uptoBulk d + 1
 end
def uptoSmall : (H : Type) → List (DataW H) → Bool := fun _ ds => decide (uptoBulkAll ds ≤ 1048576)
def OpenSpec.upto (s : _root_.Go.ChangeSpec) : _root_.Go.OpenSpec := { _root_.Go.OpenSpec.ofChange s with cond := some uptoSmall }

/-- 'gessolaw03.RatReckons', WHERE WHAT IT READS IS OF BULK AT MOST 1048576: true; the input reads as it did. -/
def ratReckonsUptoRow : OpenClaim := { program := "ytlkjkhpjhllapaagreat", sum := "e4eece6344b9ff7010f456e538aa2d6ba92f3df98b7c5816938866512aeb0125", func := "gesso/gessolaw03.RatReckons", spec := "ratReckons", inPlace := ["math/bits.Add64", "math/bits.Sub64", "internal/bytealg.IndexByteString", "internal/bytealg.IndexString"], unfollowed := true, recurses := true, named := ["math/bits.divideError", "math/bits.overflowError", "internal/bytealg.MaxLen"], apart := false, narrowed := true }
def RatReckonsUptoSaid : Prop := ratReckonsUptoRow.holds Tryz.pinned (OpenSpec.upto ratReckonsSpec)

/-- 'gessolaw03.RatTexts', WHERE WHAT IT READS IS OF BULK AT MOST 1048576: true; the input reads as it did. -/
def ratTextsUptoRow : OpenClaim := { program := "ytlkjkhpjhllapaagreat", sum := "e4eece6344b9ff7010f456e538aa2d6ba92f3df98b7c5816938866512aeb0125", func := "gesso/gessolaw03.RatTexts", spec := "ratTexts", inPlace := ["math/bits.Add64", "math/bits.Sub64", "internal/bytealg.IndexByteString", "internal/bytealg.IndexString"], unfollowed := true, recurses := true, named := ["math/bits.divideError", "math/bits.overflowError", "internal/bytealg.MaxLen"], apart := false, narrowed := true }
def RatTextsUptoSaid : Prop := ratTextsUptoRow.holds Tryz.pinned (OpenSpec.upto ratTextsSpec)

/-- 'gessolaw03.RatLowest', WHERE WHAT IT READS IS OF BULK AT MOST 1048576: true; the input reads as it did. -/
def ratLowestUptoRow : OpenClaim := { program := "ytlkjkhpjhllapaagreat", sum := "e4eece6344b9ff7010f456e538aa2d6ba92f3df98b7c5816938866512aeb0125", func := "gesso/gessolaw03.RatLowest", spec := "ratLowest", inPlace := ["math/bits.Add64", "math/bits.Sub64", "internal/bytealg.IndexByteString", "internal/bytealg.IndexString"], unfollowed := true, recurses := true, named := ["math/bits.divideError", "math/bits.overflowError", "internal/bytealg.MaxLen"], apart := false, narrowed := true }
def RatLowestUptoSaid : Prop := ratLowestUptoRow.holds Tryz.pinned (OpenSpec.upto ratLowestSpec)

/-- 'gessolaw04.RootBrackets', WHERE WHAT IT READS IS OF BULK AT MOST 1048576: true; the input reads as it did. -/
def rootBracketsUptoRow : OpenClaim := { program := "ytlkjkhpjhllapaagreat", sum := "e4eece6344b9ff7010f456e538aa2d6ba92f3df98b7c5816938866512aeb0125", func := "gesso/gessolaw04.RootBrackets", spec := "rootBrackets", inPlace := ["math/bits.Add64", "math/bits.Sub64", "sync/atomic.AddInt64", "sync/atomic.LoadInt64"], unfollowed := true, recurses := true, named := ["math/bits.divideError", "math/bits.overflowError"], apart := false, narrowed := true }
def RootBracketsUptoSaid : Prop := rootBracketsUptoRow.holds Tryz.pinned (OpenSpec.upto rootBracketsSpec)

/-- 'gessolaw04.RootBetween', WHERE WHAT IT READS IS OF BULK AT MOST 1048576: true; the input reads as it did. -/
def rootBetweenUptoRow : OpenClaim := { program := "ytlkjkhpjhllapaagreat", sum := "e4eece6344b9ff7010f456e538aa2d6ba92f3df98b7c5816938866512aeb0125", func := "gesso/gessolaw04.RootBetween", spec := "rootBetween", inPlace := ["math/bits.Add64", "math/bits.Sub64", "sync/atomic.AddInt64", "sync/atomic.LoadInt64"], unfollowed := true, recurses := true, named := ["math/bits.divideError", "math/bits.overflowError"], apart := false, narrowed := true }
def RootBetweenUptoSaid : Prop := rootBetweenUptoRow.holds Tryz.pinned (OpenSpec.upto rootBetweenSpec)

/-- 'gessolaw05.FixTurns', WHERE WHAT IT READS IS OF BULK AT MOST 1048576: true; the input reads as it did. -/
def fixTurnsUptoRow : OpenClaim := { program := "ytlkjkhpjhllapaagreat", sum := "e4eece6344b9ff7010f456e538aa2d6ba92f3df98b7c5816938866512aeb0125", func := "gesso/gessolaw05.FixTurns", spec := "fixTurns", inPlace := ["math/bits.Add64", "math/bits.Sub64"], unfollowed := true, recurses := true, named := ["math/bits.divideError", "math/bits.overflowError"], apart := false, narrowed := true }
def FixTurnsUptoSaid : Prop := fixTurnsUptoRow.holds Tryz.pinned (OpenSpec.upto fixTurnsSpec)

/-- 'gessolaw06.PtReckons', WHERE WHAT IT READS IS OF BULK AT MOST 1048576: true; the input reads as it did. -/
def ptReckonsUptoRow : OpenClaim := { program := "ytlkjkhpjhllapaagreat", sum := "e4eece6344b9ff7010f456e538aa2d6ba92f3df98b7c5816938866512aeb0125", func := "gesso/gessolaw06.PtReckons", spec := "ptReckons", inPlace := ["math/bits.Add64", "math/bits.Sub64"], unfollowed := true, recurses := true, named := ["math/bits.divideError", "math/bits.overflowError"], apart := false, narrowed := true }
def PtReckonsUptoSaid : Prop := ptReckonsUptoRow.holds Tryz.pinned (OpenSpec.upto ptReckonsSpec)

/-- 'gessolaw06.PtPlaces', WHERE WHAT IT READS IS OF BULK AT MOST 1048576: true; the input reads as it did. -/
def ptPlacesUptoRow : OpenClaim := { program := "ytlkjkhpjhllapaagreat", sum := "e4eece6344b9ff7010f456e538aa2d6ba92f3df98b7c5816938866512aeb0125", func := "gesso/gessolaw06.PtPlaces", spec := "ptPlaces", inPlace := ["math/bits.Add64", "math/bits.Sub64"], unfollowed := true, recurses := true, named := ["math/bits.divideError", "math/bits.overflowError"], apart := false, narrowed := true }
def PtPlacesUptoSaid : Prop := ptPlacesUptoRow.holds Tryz.pinned (OpenSpec.upto ptPlacesSpec)

/-- 'gessolaw06.PtTurns', WHERE WHAT IT READS IS OF BULK AT MOST 1048576: true; the input reads as it did. -/
def ptTurnsUptoRow : OpenClaim := { program := "ytlkjkhpjhllapaagreat", sum := "e4eece6344b9ff7010f456e538aa2d6ba92f3df98b7c5816938866512aeb0125", func := "gesso/gessolaw06.PtTurns", spec := "ptTurns", inPlace := ["math/bits.Add64", "math/bits.Sub64"], unfollowed := true, recurses := true, named := ["math/bits.divideError", "math/bits.overflowError"], apart := false, narrowed := true }
def PtTurnsUptoSaid : Prop := ptTurnsUptoRow.holds Tryz.pinned (OpenSpec.upto ptTurnsSpec)

/-- 'gessolaw06.PtNear', WHERE WHAT IT READS IS OF BULK AT MOST 1048576: true; the input reads as it did. -/
def ptNearUptoRow : OpenClaim := { program := "ytlkjkhpjhllapaagreat", sum := "e4eece6344b9ff7010f456e538aa2d6ba92f3df98b7c5816938866512aeb0125", func := "gesso/gessolaw06.PtNear", spec := "ptNear", inPlace := ["math/bits.Add64", "math/bits.Sub64"], unfollowed := true, recurses := true, named := ["math/bits.divideError", "math/bits.overflowError"], apart := false, narrowed := true }
def PtNearUptoSaid : Prop := ptNearUptoRow.holds Tryz.pinned (OpenSpec.upto ptNearSpec)

/-- 'gessolaw06.PtSquares', WHERE WHAT IT READS IS OF BULK AT MOST 1048576: true; the input reads as it did. -/
def ptSquaresUptoRow : OpenClaim := { program := "ytlkjkhpjhllapaagreat", sum := "e4eece6344b9ff7010f456e538aa2d6ba92f3df98b7c5816938866512aeb0125", func := "gesso/gessolaw06.PtSquares", spec := "ptSquares", inPlace := ["math/bits.Add64", "math/bits.Sub64"], unfollowed := true, recurses := true, named := ["math/bits.divideError", "math/bits.overflowError"], apart := false, narrowed := true }
def PtSquaresUptoSaid : Prop := ptSquaresUptoRow.holds Tryz.pinned (OpenSpec.upto ptSquaresSpec)

end Rows
end Go.Proofs.YtlkjkhpjhllapaaGreat
