/-
  NARROWER THAN 'FOR EVERY INPUT', by the rows' own cells (each row's printed sentence says how): PathTexts: laid · PathBack: laid · PathSmall: laid · PathMirrors: laid · PathAgain: laid.
  DERIVED. THE GIVEN ROWS OF THIS SEAT. 5 by the template 'for every input the law returns true; each argument reads behind the call as it read before'; 0 by the template 'total and deterministic' (their statements: YtaoobmcdbkipiaaDoorTotals.lean).
  GIVEN WITH THE SEED: the statements are not yours to turn. If you find one false, say at which input.
  Laid BY PROGRAM, IN A SANDBOX (cutbox-rows.mjs): the forced cells as the released guide's own fill.sh prints them over the translation 541611da8acbc843… (all of the seat's roots in one cut). By AI agents, Wed Nov 11 2026. No macro, syntax, notation, axiom, sorry.
-/
import Derived.Test.YtaoobmcdbkipiaaDoorChecked
import GoSem.Claim
import GoSem.ClaimJoined
import GoSem.ClaimMapViews
import Derived.JoinedTies
import Derived.KernelRfl
namespace Go.Proofs.YtaoobmcdbkipiaaDoor
/- THE CELL 'sum', in the pinned program and in every row, IS THE sha256 OF THE DUMP (.gsa) THAT YtaoobmcdbkipiaaDoorProg.lean LOADS. Nothing in Lean hashes anything: it is a label: what it is worth is what the hold of that sum in a sandbox is worth. -/
noncomputable def Tryd.pinned : Pinned := { name := "ytaoobmcdbkipiaadoor", sum := "541611da8acbc8433c6521d106826ccfaa1f8fde53624b4bb815c381676eb788", checked := Tryd.checked }
namespace Rows
def none {H : Type} : Left H := { results := [], args := [] }

/- WHAT THE LISTED PACKAGE-LEVEL VARIABLES READ AS WHEN THE CALL BEGINS. Each datum BY PROGRAM (the guide's laid-datum.mjs) off the statement by which the dump's own 'gosem.cut.vars' lays the variable. In a bare row this is a premise. The card (YtaoobmcdbkipiaaDoorCards.lean) ties it to the program's text. -/
def laid_math_bits_deBruijn32tab {H : Type} : DataW H := .agg [.lit (.int .u8 0), .lit (.int .u8 1), .lit (.int .u8 28), .lit (.int .u8 2), .lit (.int .u8 29), .lit (.int .u8 14), .lit (.int .u8 24), .lit (.int .u8 3), .lit (.int .u8 30), .lit (.int .u8 22), .lit (.int .u8 20), .lit (.int .u8 15), .lit (.int .u8 25), .lit (.int .u8 17), .lit (.int .u8 4), .lit (.int .u8 8), .lit (.int .u8 31), .lit (.int .u8 27), .lit (.int .u8 13), .lit (.int .u8 23), .lit (.int .u8 21), .lit (.int .u8 19), .lit (.int .u8 16), .lit (.int .u8 7), .lit (.int .u8 26), .lit (.int .u8 12), .lit (.int .u8 18), .lit (.int .u8 6), .lit (.int .u8 11), .lit (.int .u8 5), .lit (.int .u8 10), .lit (.int .u8 9)]
def laid_math_bits_deBruijn64tab {H : Type} : DataW H := .agg [.lit (.int .u8 0), .lit (.int .u8 1), .lit (.int .u8 56), .lit (.int .u8 2), .lit (.int .u8 57), .lit (.int .u8 49), .lit (.int .u8 28), .lit (.int .u8 3), .lit (.int .u8 61), .lit (.int .u8 58), .lit (.int .u8 42), .lit (.int .u8 50), .lit (.int .u8 38), .lit (.int .u8 29), .lit (.int .u8 17), .lit (.int .u8 4), .lit (.int .u8 62), .lit (.int .u8 47), .lit (.int .u8 59), .lit (.int .u8 36), .lit (.int .u8 45), .lit (.int .u8 43), .lit (.int .u8 51), .lit (.int .u8 22), .lit (.int .u8 53), .lit (.int .u8 39), .lit (.int .u8 33), .lit (.int .u8 30), .lit (.int .u8 24), .lit (.int .u8 18), .lit (.int .u8 12), .lit (.int .u8 5), .lit (.int .u8 63), .lit (.int .u8 55), .lit (.int .u8 48), .lit (.int .u8 27), .lit (.int .u8 60), .lit (.int .u8 41), .lit (.int .u8 37), .lit (.int .u8 16), .lit (.int .u8 46), .lit (.int .u8 35), .lit (.int .u8 44), .lit (.int .u8 21), .lit (.int .u8 52), .lit (.int .u8 32), .lit (.int .u8 23), .lit (.int .u8 11), .lit (.int .u8 54), .lit (.int .u8 26), .lit (.int .u8 40), .lit (.int .u8 15), .lit (.int .u8 34), .lit (.int .u8 20), .lit (.int .u8 31), .lit (.int .u8 10), .lit (.int .u8 25), .lit (.int .u8 14), .lit (.int .u8 19), .lit (.int .u8 9), .lit (.int .u8 13), .lit (.int .u8 8), .lit (.int .u8 7), .lit (.int .u8 6)]
def laid_internal_strconv_uint64pow10 {H : Type} : DataW H := .agg [.lit (.int .u64 1), .lit (.int .u64 10), .lit (.int .u64 100), .lit (.int .u64 1000), .lit (.int .u64 10000), .lit (.int .u64 100000), .lit (.int .u64 1000000), .lit (.int .u64 10000000), .lit (.int .u64 100000000), .lit (.int .u64 1000000000), .lit (.int .u64 10000000000), .lit (.int .u64 100000000000), .lit (.int .u64 1000000000000), .lit (.int .u64 10000000000000), .lit (.int .u64 100000000000000), .lit (.int .u64 1000000000000000), .lit (.int .u64 10000000000000000), .lit (.int .u64 100000000000000000), .lit (.int .u64 1000000000000000000), .lit (.int .u64 10000000000000000000)]
def laid_gesso_path_letters {H : Type} : DataW H := .agg [.agg [.lit (.int .u8 77), .lit (.int .i64 1), .lit (.int .i64 1), .lit (.string [48, 49]), .lit (.int .i64 0), .lit (.int .u8 76)], .agg [.lit (.int .u8 76), .lit (.int .i64 2), .lit (.int .i64 1), .lit (.string [48, 49]), .lit (.int .i64 0), .lit (.int .u8 76)], .agg [.lit (.int .u8 72), .lit (.int .i64 2), .lit (.int .i64 1), .lit (.string [48]), .lit (.int .i64 1), .lit (.int .u8 72)], .agg [.lit (.int .u8 86), .lit (.int .i64 2), .lit (.int .i64 1), .lit (.string [49]), .lit (.int .i64 1), .lit (.int .u8 86)], .agg [.lit (.int .u8 81), .lit (.int .i64 3), .lit (.int .i64 2), .lit (.string [48, 49, 50, 51]), .lit (.int .i64 0), .lit (.int .u8 81)], .agg [.lit (.int .u8 67), .lit (.int .i64 4), .lit (.int .i64 3), .lit (.string [48, 49, 50, 51, 52, 53]), .lit (.int .i64 0), .lit (.int .u8 67)], .agg [.lit (.int .u8 83), .lit (.int .i64 4), .lit (.int .i64 3), .lit (.string [50, 51, 52, 53]), .lit (.int .i64 2), .lit (.int .u8 83)], .agg [.lit (.int .u8 84), .lit (.int .i64 3), .lit (.int .i64 2), .lit (.string [50, 51]), .lit (.int .i64 2), .lit (.int .u8 84)], .agg [.lit (.int .u8 75), .lit (.int .i64 5), .lit (.int .i64 2), .lit (.string [119, 48, 49, 50, 51]), .lit (.int .i64 0), .lit (.int .u8 75)], .agg [.lit (.int .u8 90), .lit (.int .i64 6), .lit (.int .i64 0), .lit (.string []), .lit (.int .i64 0), .lit (.int .u8 0)]]

/-- 'gessolaw11.PathTexts': WHATEVER THE INPUT: true; the input reads as it did. -/
def pathTextsSpec : ChangeSpec := { name := "pathTexts", fn := fun _ => fun
  | [d] => { results := [.lit (.bool true)], args := [d] }
  | _ => none }
def pathTextsRow : OpenClaim := { program := "ytaoobmcdbkipiaadoor", sum := "541611da8acbc8433c6521d106826ccfaa1f8fde53624b4bb815c381676eb788", func := "gesso/gessolaw11.PathTexts", spec := "pathTexts", unfollowed := true, recurses := true, named := ["gesso/path.letters", "internal/strconv.uint64pow10", "math/bits.deBruijn32tab", "math/bits.deBruijn64tab"], apart := false, laid := [("math/bits.deBruijn32tab", laid_math_bits_deBruijn32tab), ("math/bits.deBruijn64tab", laid_math_bits_deBruijn64tab), ("internal/strconv.uint64pow10", laid_internal_strconv_uint64pow10), ("gesso/path.letters", laid_gesso_path_letters)] }
def PathTextsSaid : Prop := pathTextsRow.holds Tryd.pinned (OpenSpec.ofChange pathTextsSpec)

/-- ITS FALSE NEIGHBOUR: 'it returns false'. Refute it at one input. -/
def pathTextsWrong : ChangeSpec := { name := "pathTexts", fn := fun _ => fun
  | [d] => { results := [.lit (.bool false)], args := [d] }
  | _ => none }
def PathTextsWrongFalsely : Prop := pathTextsRow.holds Tryd.pinned (OpenSpec.ofChange pathTextsWrong)

/-- 'gessolaw11.PathBack': WHATEVER THE INPUT: true; the input reads as it did. -/
def pathBackSpec : ChangeSpec := { name := "pathBack", fn := fun _ => fun
  | [d1, d2] => { results := [.lit (.bool true)], args := [d1, d2] }
  | _ => none }
def pathBackRow : OpenClaim := { program := "ytaoobmcdbkipiaadoor", sum := "541611da8acbc8433c6521d106826ccfaa1f8fde53624b4bb815c381676eb788", func := "gesso/gessolaw11.PathBack", spec := "pathBack", unfollowed := true, recurses := true, named := ["gesso/path.letters", "internal/strconv.uint64pow10", "math/bits.deBruijn32tab", "math/bits.deBruijn64tab"], apart := false, laid := [("math/bits.deBruijn32tab", laid_math_bits_deBruijn32tab), ("math/bits.deBruijn64tab", laid_math_bits_deBruijn64tab), ("internal/strconv.uint64pow10", laid_internal_strconv_uint64pow10), ("gesso/path.letters", laid_gesso_path_letters)] }
def PathBackSaid : Prop := pathBackRow.holds Tryd.pinned (OpenSpec.ofChange pathBackSpec)

/-- ITS FALSE NEIGHBOUR: 'it returns false'. Refute it at one input. -/
def pathBackWrong : ChangeSpec := { name := "pathBack", fn := fun _ => fun
  | [d1, d2] => { results := [.lit (.bool false)], args := [d1, d2] }
  | _ => none }
def PathBackWrongFalsely : Prop := pathBackRow.holds Tryd.pinned (OpenSpec.ofChange pathBackWrong)

/-- 'gessolaw11.PathSmall': WHATEVER THE INPUT: true; the input reads as it did. -/
def pathSmallSpec : ChangeSpec := { name := "pathSmall", fn := fun _ => fun
  | [d] => { results := [.lit (.bool true)], args := [d] }
  | _ => none }
def pathSmallRow : OpenClaim := { program := "ytaoobmcdbkipiaadoor", sum := "541611da8acbc8433c6521d106826ccfaa1f8fde53624b4bb815c381676eb788", func := "gesso/gessolaw11.PathSmall", spec := "pathSmall", unfollowed := true, recurses := true, named := ["gesso/path.letters", "internal/strconv.uint64pow10", "math/bits.deBruijn32tab", "math/bits.deBruijn64tab"], apart := false, laid := [("math/bits.deBruijn32tab", laid_math_bits_deBruijn32tab), ("math/bits.deBruijn64tab", laid_math_bits_deBruijn64tab), ("internal/strconv.uint64pow10", laid_internal_strconv_uint64pow10), ("gesso/path.letters", laid_gesso_path_letters)] }
def PathSmallSaid : Prop := pathSmallRow.holds Tryd.pinned (OpenSpec.ofChange pathSmallSpec)

/-- ITS FALSE NEIGHBOUR: 'it returns false'. Refute it at one input. -/
def pathSmallWrong : ChangeSpec := { name := "pathSmall", fn := fun _ => fun
  | [d] => { results := [.lit (.bool false)], args := [d] }
  | _ => none }
def PathSmallWrongFalsely : Prop := pathSmallRow.holds Tryd.pinned (OpenSpec.ofChange pathSmallWrong)

/-- 'gessolaw11.PathMirrors': WHATEVER THE INPUT: true; the input reads as it did. -/
def pathMirrorsSpec : ChangeSpec := { name := "pathMirrors", fn := fun _ => fun
  | [d1, d2] => { results := [.lit (.bool true)], args := [d1, d2] }
  | _ => none }
def pathMirrorsRow : OpenClaim := { program := "ytaoobmcdbkipiaadoor", sum := "541611da8acbc8433c6521d106826ccfaa1f8fde53624b4bb815c381676eb788", func := "gesso/gessolaw11.PathMirrors", spec := "pathMirrors", unfollowed := true, recurses := true, named := ["gesso/path.letters", "internal/strconv.uint64pow10", "math/bits.deBruijn32tab", "math/bits.deBruijn64tab"], apart := false, laid := [("math/bits.deBruijn32tab", laid_math_bits_deBruijn32tab), ("math/bits.deBruijn64tab", laid_math_bits_deBruijn64tab), ("internal/strconv.uint64pow10", laid_internal_strconv_uint64pow10), ("gesso/path.letters", laid_gesso_path_letters)] }
def PathMirrorsSaid : Prop := pathMirrorsRow.holds Tryd.pinned (OpenSpec.ofChange pathMirrorsSpec)

/-- ITS FALSE NEIGHBOUR: 'it returns false'. Refute it at one input. -/
def pathMirrorsWrong : ChangeSpec := { name := "pathMirrors", fn := fun _ => fun
  | [d1, d2] => { results := [.lit (.bool false)], args := [d1, d2] }
  | _ => none }
def PathMirrorsWrongFalsely : Prop := pathMirrorsRow.holds Tryd.pinned (OpenSpec.ofChange pathMirrorsWrong)

/-- 'gessolaw11.PathAgain': WHATEVER THE INPUT: true; the input reads as it did. -/
def pathAgainSpec : ChangeSpec := { name := "pathAgain", fn := fun _ => fun
  | [d1, d2] => { results := [.lit (.bool true)], args := [d1, d2] }
  | _ => none }
def pathAgainRow : OpenClaim := { program := "ytaoobmcdbkipiaadoor", sum := "541611da8acbc8433c6521d106826ccfaa1f8fde53624b4bb815c381676eb788", func := "gesso/gessolaw11.PathAgain", spec := "pathAgain", unfollowed := true, recurses := true, named := ["gesso/path.letters", "internal/strconv.uint64pow10", "math/bits.deBruijn32tab", "math/bits.deBruijn64tab"], apart := false, laid := [("math/bits.deBruijn32tab", laid_math_bits_deBruijn32tab), ("math/bits.deBruijn64tab", laid_math_bits_deBruijn64tab), ("internal/strconv.uint64pow10", laid_internal_strconv_uint64pow10), ("gesso/path.letters", laid_gesso_path_letters)] }
def PathAgainSaid : Prop := pathAgainRow.holds Tryd.pinned (OpenSpec.ofChange pathAgainSpec)

/-- ITS FALSE NEIGHBOUR: 'it returns false'. Refute it at one input. -/
def pathAgainWrong : ChangeSpec := { name := "pathAgain", fn := fun _ => fun
  | [d1, d2] => { results := [.lit (.bool false)], args := [d1, d2] }
  | _ => none }
def PathAgainWrongFalsely : Prop := pathAgainRow.holds Tryd.pinned (OpenSpec.ofChange pathAgainWrong)

/- THE SECOND FORM. 'bulk': how many values and letters a reading holds, each counted each time it is reached (what is shared counts as often as it is met; a slice's spare places count too). A statement '..UptoSaid' is the law's where the arguments, and the package variables that the reading takes, are together of bulk at most 1048576: NARROWER than '..Said'. Prove '..Said' where nothing that the law and all that it calls make is longer than what came in: it says more and counts as full. Else prove '..UptoSaid'. A law counts once. -/
mutual
def uptoBulk {H : Type} : DataW H → Nat
  | .lit (.string bytes) => bytes.length + 1
  | .lit _ => 1
  | .nil => 1
  | .ptr d => uptoBulk d + 1
  | .slice elems spare => uptoBulkAll elems + uptoBulkAll spare + 1
  | .agg parts => uptoBulkAll parts + 1
  | .iface _ d => uptoBulk d + 1
  | .map entries => uptoBulkEntries entries + 1
  | .held _ => 1
def uptoBulkAll {H : Type} : List (DataW H) → Nat
  | [] => 0
  | d :: r => uptoBulk d + uptoBulkAll r
def uptoBulkEntries {H : Type} : List (Lit × DataW H) → Nat
  | [] => 0
  | x :: r => uptoBulkEntry x + uptoBulkEntries r
def uptoBulkEntry {H : Type} : Lit × DataW H → Nat
  | (.string bytes, d) => bytes.length + uptoBulk d + 1
  | (_, d) => uptoBulk d + 1
 end
def uptoSmall : (H : Type) → List (DataW H) → Bool := fun _ ds => decide (uptoBulkAll ds ≤ 1048576)
def OpenSpec.upto (s : _root_.Go.ChangeSpec) : _root_.Go.OpenSpec := { _root_.Go.OpenSpec.ofChange s with cond := some uptoSmall }

/-- 'gessolaw11.PathTexts', WHERE WHAT IT READS IS OF BULK AT MOST 1048576: true; the input reads as it did. -/
def pathTextsUptoRow : OpenClaim := { program := "ytaoobmcdbkipiaadoor", sum := "541611da8acbc8433c6521d106826ccfaa1f8fde53624b4bb815c381676eb788", func := "gesso/gessolaw11.PathTexts", spec := "pathTexts", unfollowed := true, recurses := true, named := ["gesso/path.letters", "internal/strconv.uint64pow10", "math/bits.deBruijn32tab", "math/bits.deBruijn64tab"], apart := false, laid := [("math/bits.deBruijn32tab", laid_math_bits_deBruijn32tab), ("math/bits.deBruijn64tab", laid_math_bits_deBruijn64tab), ("internal/strconv.uint64pow10", laid_internal_strconv_uint64pow10), ("gesso/path.letters", laid_gesso_path_letters)], narrowed := true }
def PathTextsUptoSaid : Prop := pathTextsUptoRow.holds Tryd.pinned (OpenSpec.upto pathTextsSpec)

/-- 'gessolaw11.PathBack', WHERE WHAT IT READS IS OF BULK AT MOST 1048576: true; the input reads as it did. -/
def pathBackUptoRow : OpenClaim := { program := "ytaoobmcdbkipiaadoor", sum := "541611da8acbc8433c6521d106826ccfaa1f8fde53624b4bb815c381676eb788", func := "gesso/gessolaw11.PathBack", spec := "pathBack", unfollowed := true, recurses := true, named := ["gesso/path.letters", "internal/strconv.uint64pow10", "math/bits.deBruijn32tab", "math/bits.deBruijn64tab"], apart := false, laid := [("math/bits.deBruijn32tab", laid_math_bits_deBruijn32tab), ("math/bits.deBruijn64tab", laid_math_bits_deBruijn64tab), ("internal/strconv.uint64pow10", laid_internal_strconv_uint64pow10), ("gesso/path.letters", laid_gesso_path_letters)], narrowed := true }
def PathBackUptoSaid : Prop := pathBackUptoRow.holds Tryd.pinned (OpenSpec.upto pathBackSpec)

/-- 'gessolaw11.PathSmall', WHERE WHAT IT READS IS OF BULK AT MOST 1048576: true; the input reads as it did. -/
def pathSmallUptoRow : OpenClaim := { program := "ytaoobmcdbkipiaadoor", sum := "541611da8acbc8433c6521d106826ccfaa1f8fde53624b4bb815c381676eb788", func := "gesso/gessolaw11.PathSmall", spec := "pathSmall", unfollowed := true, recurses := true, named := ["gesso/path.letters", "internal/strconv.uint64pow10", "math/bits.deBruijn32tab", "math/bits.deBruijn64tab"], apart := false, laid := [("math/bits.deBruijn32tab", laid_math_bits_deBruijn32tab), ("math/bits.deBruijn64tab", laid_math_bits_deBruijn64tab), ("internal/strconv.uint64pow10", laid_internal_strconv_uint64pow10), ("gesso/path.letters", laid_gesso_path_letters)], narrowed := true }
def PathSmallUptoSaid : Prop := pathSmallUptoRow.holds Tryd.pinned (OpenSpec.upto pathSmallSpec)

/-- 'gessolaw11.PathMirrors', WHERE WHAT IT READS IS OF BULK AT MOST 1048576: true; the input reads as it did. -/
def pathMirrorsUptoRow : OpenClaim := { program := "ytaoobmcdbkipiaadoor", sum := "541611da8acbc8433c6521d106826ccfaa1f8fde53624b4bb815c381676eb788", func := "gesso/gessolaw11.PathMirrors", spec := "pathMirrors", unfollowed := true, recurses := true, named := ["gesso/path.letters", "internal/strconv.uint64pow10", "math/bits.deBruijn32tab", "math/bits.deBruijn64tab"], apart := false, laid := [("math/bits.deBruijn32tab", laid_math_bits_deBruijn32tab), ("math/bits.deBruijn64tab", laid_math_bits_deBruijn64tab), ("internal/strconv.uint64pow10", laid_internal_strconv_uint64pow10), ("gesso/path.letters", laid_gesso_path_letters)], narrowed := true }
def PathMirrorsUptoSaid : Prop := pathMirrorsUptoRow.holds Tryd.pinned (OpenSpec.upto pathMirrorsSpec)

/-- 'gessolaw11.PathAgain', WHERE WHAT IT READS IS OF BULK AT MOST 1048576: true; the input reads as it did. -/
def pathAgainUptoRow : OpenClaim := { program := "ytaoobmcdbkipiaadoor", sum := "541611da8acbc8433c6521d106826ccfaa1f8fde53624b4bb815c381676eb788", func := "gesso/gessolaw11.PathAgain", spec := "pathAgain", unfollowed := true, recurses := true, named := ["gesso/path.letters", "internal/strconv.uint64pow10", "math/bits.deBruijn32tab", "math/bits.deBruijn64tab"], apart := false, laid := [("math/bits.deBruijn32tab", laid_math_bits_deBruijn32tab), ("math/bits.deBruijn64tab", laid_math_bits_deBruijn64tab), ("internal/strconv.uint64pow10", laid_internal_strconv_uint64pow10), ("gesso/path.letters", laid_gesso_path_letters)], narrowed := true }
def PathAgainUptoSaid : Prop := pathAgainUptoRow.holds Tryd.pinned (OpenSpec.upto pathAgainSpec)

end Rows
end Go.Proofs.YtaoobmcdbkipiaaDoor
