/-
  NARROWER THAN 'FOR EVERY INPUT', by the rows' own cells (each row's printed sentence says how): PathSmall: laid · PathMirrors: laid · PathAgain: laid · CmdBack: laid · CmdFirst: laid · CmdLines: laid.
  DERIVED. THE GIVEN ROWS OF THIS SEAT. 6 by the template 'for every input the law returns true; each argument reads behind the call as it read before'; 0 by the template 'total and deterministic' (their statements: YtnapannphldglaaDoorTotals.lean).
  GIVEN WITH THE SEED: the statements are not yours to turn. If you find one false, say at which input.
  Laid BY PROGRAM, IN A SANDBOX (cutbox-rows.mjs): the forced cells as the released guide's own fill.sh prints them over the translation 869b489787778017… (all of the seat's roots in one cut). By AI agents, Wed Nov 11 2026. No macro, syntax, notation, axiom, sorry.
-/
import Derived.Test.YtnapannphldglaaDoorChecked
import GoSem.Claim
import GoSem.ClaimJoined
import GoSem.ClaimMapViews
import Derived.JoinedTies
import Derived.KernelRfl
namespace Go.Proofs.YtnapannphldglaaDoor
/- THE CELL 'sum', in the pinned program and in every row, IS THE sha256 OF THE DUMP (.gsa) THAT YtnapannphldglaaDoorProg.lean LOADS. Nothing in Lean hashes anything: it is a label: what it is worth is what the hold of that sum in a sandbox is worth. -/
noncomputable def Tryd.pinned : Pinned := { name := "ytnapannphldglaadoor", sum := "869b489787778017c423dd6f9d11a4ce074ffbd5785d4b7b62209ed24b4ec016", checked := Tryd.checked }
namespace Rows
def none {H : Type} : Left H := { results := [], args := [] }

/- WHAT THE LISTED PACKAGE-LEVEL VARIABLES READ AS WHEN THE CALL BEGINS. Each datum BY PROGRAM (the guide's laid-datum.mjs) off the statement by which the dump's own 'gosem.cut.vars' lays the variable. In a bare row this is a premise. The card (YtnapannphldglaaDoorCards.lean) ties it to the program's text. -/
def laid_math_bits_deBruijn32tab {H : Type} : DataW H := .agg [.lit (.int .u8 0), .lit (.int .u8 1), .lit (.int .u8 28), .lit (.int .u8 2), .lit (.int .u8 29), .lit (.int .u8 14), .lit (.int .u8 24), .lit (.int .u8 3), .lit (.int .u8 30), .lit (.int .u8 22), .lit (.int .u8 20), .lit (.int .u8 15), .lit (.int .u8 25), .lit (.int .u8 17), .lit (.int .u8 4), .lit (.int .u8 8), .lit (.int .u8 31), .lit (.int .u8 27), .lit (.int .u8 13), .lit (.int .u8 23), .lit (.int .u8 21), .lit (.int .u8 19), .lit (.int .u8 16), .lit (.int .u8 7), .lit (.int .u8 26), .lit (.int .u8 12), .lit (.int .u8 18), .lit (.int .u8 6), .lit (.int .u8 11), .lit (.int .u8 5), .lit (.int .u8 10), .lit (.int .u8 9)]
def laid_math_bits_deBruijn64tab {H : Type} : DataW H := .agg [.lit (.int .u8 0), .lit (.int .u8 1), .lit (.int .u8 56), .lit (.int .u8 2), .lit (.int .u8 57), .lit (.int .u8 49), .lit (.int .u8 28), .lit (.int .u8 3), .lit (.int .u8 61), .lit (.int .u8 58), .lit (.int .u8 42), .lit (.int .u8 50), .lit (.int .u8 38), .lit (.int .u8 29), .lit (.int .u8 17), .lit (.int .u8 4), .lit (.int .u8 62), .lit (.int .u8 47), .lit (.int .u8 59), .lit (.int .u8 36), .lit (.int .u8 45), .lit (.int .u8 43), .lit (.int .u8 51), .lit (.int .u8 22), .lit (.int .u8 53), .lit (.int .u8 39), .lit (.int .u8 33), .lit (.int .u8 30), .lit (.int .u8 24), .lit (.int .u8 18), .lit (.int .u8 12), .lit (.int .u8 5), .lit (.int .u8 63), .lit (.int .u8 55), .lit (.int .u8 48), .lit (.int .u8 27), .lit (.int .u8 60), .lit (.int .u8 41), .lit (.int .u8 37), .lit (.int .u8 16), .lit (.int .u8 46), .lit (.int .u8 35), .lit (.int .u8 44), .lit (.int .u8 21), .lit (.int .u8 52), .lit (.int .u8 32), .lit (.int .u8 23), .lit (.int .u8 11), .lit (.int .u8 54), .lit (.int .u8 26), .lit (.int .u8 40), .lit (.int .u8 15), .lit (.int .u8 34), .lit (.int .u8 20), .lit (.int .u8 31), .lit (.int .u8 10), .lit (.int .u8 25), .lit (.int .u8 14), .lit (.int .u8 19), .lit (.int .u8 9), .lit (.int .u8 13), .lit (.int .u8 8), .lit (.int .u8 7), .lit (.int .u8 6)]
def laid_internal_strconv_uint64pow10 {H : Type} : DataW H := .agg [.lit (.int .u64 1), .lit (.int .u64 10), .lit (.int .u64 100), .lit (.int .u64 1000), .lit (.int .u64 10000), .lit (.int .u64 100000), .lit (.int .u64 1000000), .lit (.int .u64 10000000), .lit (.int .u64 100000000), .lit (.int .u64 1000000000), .lit (.int .u64 10000000000), .lit (.int .u64 100000000000), .lit (.int .u64 1000000000000), .lit (.int .u64 10000000000000), .lit (.int .u64 100000000000000), .lit (.int .u64 1000000000000000), .lit (.int .u64 10000000000000000), .lit (.int .u64 100000000000000000), .lit (.int .u64 1000000000000000000), .lit (.int .u64 10000000000000000000)]
def laid_gesso_path_letters {H : Type} : DataW H := .agg [.agg [.lit (.int .u8 77), .lit (.int .i64 1), .lit (.int .i64 1), .lit (.string [48, 49]), .lit (.int .i64 0), .lit (.int .u8 76)], .agg [.lit (.int .u8 76), .lit (.int .i64 2), .lit (.int .i64 1), .lit (.string [48, 49]), .lit (.int .i64 0), .lit (.int .u8 76)], .agg [.lit (.int .u8 72), .lit (.int .i64 2), .lit (.int .i64 1), .lit (.string [48]), .lit (.int .i64 1), .lit (.int .u8 72)], .agg [.lit (.int .u8 86), .lit (.int .i64 2), .lit (.int .i64 1), .lit (.string [49]), .lit (.int .i64 1), .lit (.int .u8 86)], .agg [.lit (.int .u8 81), .lit (.int .i64 3), .lit (.int .i64 2), .lit (.string [48, 49, 50, 51]), .lit (.int .i64 0), .lit (.int .u8 81)], .agg [.lit (.int .u8 67), .lit (.int .i64 4), .lit (.int .i64 3), .lit (.string [48, 49, 50, 51, 52, 53]), .lit (.int .i64 0), .lit (.int .u8 67)], .agg [.lit (.int .u8 83), .lit (.int .i64 4), .lit (.int .i64 3), .lit (.string [50, 51, 52, 53]), .lit (.int .i64 2), .lit (.int .u8 83)], .agg [.lit (.int .u8 84), .lit (.int .i64 3), .lit (.int .i64 2), .lit (.string [50, 51]), .lit (.int .i64 2), .lit (.int .u8 84)], .agg [.lit (.int .u8 75), .lit (.int .i64 5), .lit (.int .i64 2), .lit (.string [119, 48, 49, 50, 51]), .lit (.int .i64 0), .lit (.int .u8 75)], .agg [.lit (.int .u8 90), .lit (.int .i64 6), .lit (.int .i64 0), .lit (.string []), .lit (.int .i64 0), .lit (.int .u8 0)]]
def laid_gesso_cmd_words {H : Type} : DataW H := .agg [.lit (.string []), .lit (.string [99, 97, 110, 118, 97, 115]), .lit (.string [109, 97, 116, 114, 105, 120]), .lit (.string [112, 117, 115, 104]), .lit (.string [112, 111, 112]), .lit (.string [114, 117, 108, 101]), .lit (.string [99, 111, 108, 111, 114]), .lit (.string [116, 111, 108]), .lit (.string [119, 105, 100, 116, 104]), .lit (.string [99, 97, 112]), .lit (.string [106, 111, 105, 110]), .lit (.string [109, 105, 116, 101, 114]), .lit (.string [100, 97, 115, 104]), .lit (.string [102, 105, 108, 108]), .lit (.string [115, 116, 114, 111, 107, 101]), .lit (.string [99, 108, 105, 112])]

/-- 'gessolaw11.PathSmall': WHATEVER THE INPUT: true; the input reads as it did. -/
def pathSmallSpec : ChangeSpec := { name := "pathSmall", fn := fun _ => fun
  | [d] => { results := [.lit (.bool true)], args := [d] }
  | _ => none }
def pathSmallRow : OpenClaim := { program := "ytnapannphldglaadoor", sum := "869b489787778017c423dd6f9d11a4ce074ffbd5785d4b7b62209ed24b4ec016", func := "gesso/gessolaw11.PathSmall", spec := "pathSmall", unfollowed := true, recurses := true, named := ["gesso/path.letters", "internal/strconv.uint64pow10", "math/bits.deBruijn32tab", "math/bits.deBruijn64tab"], apart := false, laid := [("math/bits.deBruijn32tab", laid_math_bits_deBruijn32tab), ("math/bits.deBruijn64tab", laid_math_bits_deBruijn64tab), ("internal/strconv.uint64pow10", laid_internal_strconv_uint64pow10), ("gesso/path.letters", laid_gesso_path_letters)] }
def PathSmallSaid : Prop := pathSmallRow.holds Tryd.pinned (OpenSpec.ofChange pathSmallSpec)

/-- ITS FALSE NEIGHBOUR: 'it returns false'. Refute it at one input. -/
def pathSmallWrong : ChangeSpec := { name := "pathSmall", fn := fun _ => fun
  | [d] => { results := [.lit (.bool false)], args := [d] }
  | _ => none }
def PathSmallWrongFalsely : Prop := pathSmallRow.holds Tryd.pinned (OpenSpec.ofChange pathSmallWrong)

/-- 'gessolaw11.PathMirrors': WHATEVER THE INPUT: true; the input reads as it did. -/
def pathMirrorsSpec : ChangeSpec := { name := "pathMirrors", fn := fun _ => fun
  | [d1, d2] => { results := [.lit (.bool true)], args := [d1, d2] }
  | _ => none }
def pathMirrorsRow : OpenClaim := { program := "ytnapannphldglaadoor", sum := "869b489787778017c423dd6f9d11a4ce074ffbd5785d4b7b62209ed24b4ec016", func := "gesso/gessolaw11.PathMirrors", spec := "pathMirrors", unfollowed := true, recurses := true, named := ["gesso/path.letters", "internal/strconv.uint64pow10", "math/bits.deBruijn32tab", "math/bits.deBruijn64tab"], apart := false, laid := [("math/bits.deBruijn32tab", laid_math_bits_deBruijn32tab), ("math/bits.deBruijn64tab", laid_math_bits_deBruijn64tab), ("internal/strconv.uint64pow10", laid_internal_strconv_uint64pow10), ("gesso/path.letters", laid_gesso_path_letters)] }
def PathMirrorsSaid : Prop := pathMirrorsRow.holds Tryd.pinned (OpenSpec.ofChange pathMirrorsSpec)

/-- ITS FALSE NEIGHBOUR: 'it returns false'. Refute it at one input. -/
def pathMirrorsWrong : ChangeSpec := { name := "pathMirrors", fn := fun _ => fun
  | [d1, d2] => { results := [.lit (.bool false)], args := [d1, d2] }
  | _ => none }
def PathMirrorsWrongFalsely : Prop := pathMirrorsRow.holds Tryd.pinned (OpenSpec.ofChange pathMirrorsWrong)

/-- 'gessolaw11.PathAgain': WHATEVER THE INPUT: true; the input reads as it did. -/
def pathAgainSpec : ChangeSpec := { name := "pathAgain", fn := fun _ => fun
  | [d1, d2] => { results := [.lit (.bool true)], args := [d1, d2] }
  | _ => none }
def pathAgainRow : OpenClaim := { program := "ytnapannphldglaadoor", sum := "869b489787778017c423dd6f9d11a4ce074ffbd5785d4b7b62209ed24b4ec016", func := "gesso/gessolaw11.PathAgain", spec := "pathAgain", unfollowed := true, recurses := true, named := ["gesso/path.letters", "internal/strconv.uint64pow10", "math/bits.deBruijn32tab", "math/bits.deBruijn64tab"], apart := false, laid := [("math/bits.deBruijn32tab", laid_math_bits_deBruijn32tab), ("math/bits.deBruijn64tab", laid_math_bits_deBruijn64tab), ("internal/strconv.uint64pow10", laid_internal_strconv_uint64pow10), ("gesso/path.letters", laid_gesso_path_letters)] }
def PathAgainSaid : Prop := pathAgainRow.holds Tryd.pinned (OpenSpec.ofChange pathAgainSpec)

/-- ITS FALSE NEIGHBOUR: 'it returns false'. Refute it at one input. -/
def pathAgainWrong : ChangeSpec := { name := "pathAgain", fn := fun _ => fun
  | [d1, d2] => { results := [.lit (.bool false)], args := [d1, d2] }
  | _ => none }
def PathAgainWrongFalsely : Prop := pathAgainRow.holds Tryd.pinned (OpenSpec.ofChange pathAgainWrong)

/-- 'gessolaw12.CmdBack': WHATEVER THE INPUT: true; the input reads as it did. -/
def cmdBackSpec : ChangeSpec := { name := "cmdBack", fn := fun _ => fun
  | [d1, d2] => { results := [.lit (.bool true)], args := [d1, d2] }
  | _ => none }
def cmdBackRow : OpenClaim := { program := "ytnapannphldglaadoor", sum := "869b489787778017c423dd6f9d11a4ce074ffbd5785d4b7b62209ed24b4ec016", func := "gesso/gessolaw12.CmdBack", spec := "cmdBack", unfollowed := true, recurses := true, named := ["gesso/cmd.words"], apart := false, laid := [("gesso/cmd.words", laid_gesso_cmd_words)] }
def CmdBackSaid : Prop := cmdBackRow.holds Tryd.pinned (OpenSpec.ofChange cmdBackSpec)

/-- ITS FALSE NEIGHBOUR: 'it returns false'. Refute it at one input. -/
def cmdBackWrong : ChangeSpec := { name := "cmdBack", fn := fun _ => fun
  | [d1, d2] => { results := [.lit (.bool false)], args := [d1, d2] }
  | _ => none }
def CmdBackWrongFalsely : Prop := cmdBackRow.holds Tryd.pinned (OpenSpec.ofChange cmdBackWrong)

/-- 'gessolaw12.CmdFirst': WHATEVER THE INPUT: true; the input reads as it did. -/
def cmdFirstSpec : ChangeSpec := { name := "cmdFirst", fn := fun _ => fun
  | [d1, d2, d3] => { results := [.lit (.bool true)], args := [d1, d2, d3] }
  | _ => none }
def cmdFirstRow : OpenClaim := { program := "ytnapannphldglaadoor", sum := "869b489787778017c423dd6f9d11a4ce074ffbd5785d4b7b62209ed24b4ec016", func := "gesso/gessolaw12.CmdFirst", spec := "cmdFirst", unfollowed := true, recurses := true, named := ["gesso/cmd.words"], apart := false, laid := [("gesso/cmd.words", laid_gesso_cmd_words)] }
def CmdFirstSaid : Prop := cmdFirstRow.holds Tryd.pinned (OpenSpec.ofChange cmdFirstSpec)

/-- ITS FALSE NEIGHBOUR: 'it returns false'. Refute it at one input. -/
def cmdFirstWrong : ChangeSpec := { name := "cmdFirst", fn := fun _ => fun
  | [d1, d2, d3] => { results := [.lit (.bool false)], args := [d1, d2, d3] }
  | _ => none }
def CmdFirstWrongFalsely : Prop := cmdFirstRow.holds Tryd.pinned (OpenSpec.ofChange cmdFirstWrong)

/-- 'gessolaw12.CmdLines': WHATEVER THE INPUT: true; the input reads as it did. -/
def cmdLinesSpec : ChangeSpec := { name := "cmdLines", fn := fun _ => fun
  | [d1, d2] => { results := [.lit (.bool true)], args := [d1, d2] }
  | _ => none }
def cmdLinesRow : OpenClaim := { program := "ytnapannphldglaadoor", sum := "869b489787778017c423dd6f9d11a4ce074ffbd5785d4b7b62209ed24b4ec016", func := "gesso/gessolaw12.CmdLines", spec := "cmdLines", unfollowed := true, recurses := true, named := ["gesso/cmd.words"], apart := false, laid := [("gesso/cmd.words", laid_gesso_cmd_words)] }
def CmdLinesSaid : Prop := cmdLinesRow.holds Tryd.pinned (OpenSpec.ofChange cmdLinesSpec)

/-- ITS FALSE NEIGHBOUR: 'it returns false'. Refute it at one input. -/
def cmdLinesWrong : ChangeSpec := { name := "cmdLines", fn := fun _ => fun
  | [d1, d2] => { results := [.lit (.bool false)], args := [d1, d2] }
  | _ => none }
def CmdLinesWrongFalsely : Prop := cmdLinesRow.holds Tryd.pinned (OpenSpec.ofChange cmdLinesWrong)

/- THE SECOND FORM. 'bulk': how many values and letters a reading holds, each counted each time it is reached (what is shared counts as often as it is met; a slice's spare places count too). A statement '..UptoSaid' is the law's where the arguments, and the package variables that the reading takes, are together of bulk at most 1048576: NARROWER than '..Said'. Prove '..Said' where nothing that the law and all that it calls make is longer than what came in: it says more and counts as full. Else prove '..UptoSaid'. A law counts once. -/
mutual
def uptoBulk {H : Type} : DataW H → Nat
  | .lit (.string bytes) => bytes.length + 1
  | .lit _ => 1
  | .nil => 1
  | .ptr d => uptoBulk d + 1
  | .slice elems spare => uptoBulkAll elems + uptoBulkAll spare + 1
  | .agg parts => uptoBulkAll parts + 1
  | .iface _ d => uptoBulk d + 1
  | .map entries => uptoBulkEntries entries + 1
  | .held _ => 1
def uptoBulkAll {H : Type} : List (DataW H) → Nat
  | [] => 0
  | d :: r => uptoBulk d + uptoBulkAll r
def uptoBulkEntries {H : Type} : List (Lit × DataW H) → Nat
  | [] => 0
  | x :: r => uptoBulkEntry x + uptoBulkEntries r
def uptoBulkEntry {H : Type} : Lit × DataW H → Nat
  | (.string bytes, d) => bytes.length + uptoBulk d + 1
  | (_, d) => uptoBulk d + 1
 end
def uptoSmall : (H : Type) → List (DataW H) → Bool := fun _ ds => decide (uptoBulkAll ds ≤ 1048576)
def OpenSpec.upto (s : _root_.Go.ChangeSpec) : _root_.Go.OpenSpec := { _root_.Go.OpenSpec.ofChange s with cond := some uptoSmall }

/-- 'gessolaw11.PathSmall', WHERE WHAT IT READS IS OF BULK AT MOST 1048576: true; the input reads as it did. -/
def pathSmallUptoRow : OpenClaim := { program := "ytnapannphldglaadoor", sum := "869b489787778017c423dd6f9d11a4ce074ffbd5785d4b7b62209ed24b4ec016", func := "gesso/gessolaw11.PathSmall", spec := "pathSmall", unfollowed := true, recurses := true, named := ["gesso/path.letters", "internal/strconv.uint64pow10", "math/bits.deBruijn32tab", "math/bits.deBruijn64tab"], apart := false, laid := [("math/bits.deBruijn32tab", laid_math_bits_deBruijn32tab), ("math/bits.deBruijn64tab", laid_math_bits_deBruijn64tab), ("internal/strconv.uint64pow10", laid_internal_strconv_uint64pow10), ("gesso/path.letters", laid_gesso_path_letters)], narrowed := true }
def PathSmallUptoSaid : Prop := pathSmallUptoRow.holds Tryd.pinned (OpenSpec.upto pathSmallSpec)

/-- 'gessolaw11.PathMirrors', WHERE WHAT IT READS IS OF BULK AT MOST 1048576: true; the input reads as it did. -/
def pathMirrorsUptoRow : OpenClaim := { program := "ytnapannphldglaadoor", sum := "869b489787778017c423dd6f9d11a4ce074ffbd5785d4b7b62209ed24b4ec016", func := "gesso/gessolaw11.PathMirrors", spec := "pathMirrors", unfollowed := true, recurses := true, named := ["gesso/path.letters", "internal/strconv.uint64pow10", "math/bits.deBruijn32tab", "math/bits.deBruijn64tab"], apart := false, laid := [("math/bits.deBruijn32tab", laid_math_bits_deBruijn32tab), ("math/bits.deBruijn64tab", laid_math_bits_deBruijn64tab), ("internal/strconv.uint64pow10", laid_internal_strconv_uint64pow10), ("gesso/path.letters", laid_gesso_path_letters)], narrowed := true }
def PathMirrorsUptoSaid : Prop := pathMirrorsUptoRow.holds Tryd.pinned (OpenSpec.upto pathMirrorsSpec)

/-- 'gessolaw11.PathAgain', WHERE WHAT IT READS IS OF BULK AT MOST 1048576: true; the input reads as it did. -/
def pathAgainUptoRow : OpenClaim := { program := "ytnapannphldglaadoor", sum := "869b489787778017c423dd6f9d11a4ce074ffbd5785d4b7b62209ed24b4ec016", func := "gesso/gessolaw11.PathAgain", spec := "pathAgain", unfollowed := true, recurses := true, named := ["gesso/path.letters", "internal/strconv.uint64pow10", "math/bits.deBruijn32tab", "math/bits.deBruijn64tab"], apart := false, laid := [("math/bits.deBruijn32tab", laid_math_bits_deBruijn32tab), ("math/bits.deBruijn64tab", laid_math_bits_deBruijn64tab), ("internal/strconv.uint64pow10", laid_internal_strconv_uint64pow10), ("gesso/path.letters", laid_gesso_path_letters)], narrowed := true }
def PathAgainUptoSaid : Prop := pathAgainUptoRow.holds Tryd.pinned (OpenSpec.upto pathAgainSpec)

/-- 'gessolaw12.CmdBack', WHERE WHAT IT READS IS OF BULK AT MOST 1048576: true; the input reads as it did. -/
def cmdBackUptoRow : OpenClaim := { program := "ytnapannphldglaadoor", sum := "869b489787778017c423dd6f9d11a4ce074ffbd5785d4b7b62209ed24b4ec016", func := "gesso/gessolaw12.CmdBack", spec := "cmdBack", unfollowed := true, recurses := true, named := ["gesso/cmd.words"], apart := false, laid := [("gesso/cmd.words", laid_gesso_cmd_words)], narrowed := true }
def CmdBackUptoSaid : Prop := cmdBackUptoRow.holds Tryd.pinned (OpenSpec.upto cmdBackSpec)

/-- 'gessolaw12.CmdFirst', WHERE WHAT IT READS IS OF BULK AT MOST 1048576: true; the input reads as it did. -/
def cmdFirstUptoRow : OpenClaim := { program := "ytnapannphldglaadoor", sum := "869b489787778017c423dd6f9d11a4ce074ffbd5785d4b7b62209ed24b4ec016", func := "gesso/gessolaw12.CmdFirst", spec := "cmdFirst", unfollowed := true, recurses := true, named := ["gesso/cmd.words"], apart := false, laid := [("gesso/cmd.words", laid_gesso_cmd_words)], narrowed := true }
def CmdFirstUptoSaid : Prop := cmdFirstUptoRow.holds Tryd.pinned (OpenSpec.upto cmdFirstSpec)

/-- 'gessolaw12.CmdLines', WHERE WHAT IT READS IS OF BULK AT MOST 1048576: true; the input reads as it did. -/
def cmdLinesUptoRow : OpenClaim := { program := "ytnapannphldglaadoor", sum := "869b489787778017c423dd6f9d11a4ce074ffbd5785d4b7b62209ed24b4ec016", func := "gesso/gessolaw12.CmdLines", spec := "cmdLines", unfollowed := true, recurses := true, named := ["gesso/cmd.words"], apart := false, laid := [("gesso/cmd.words", laid_gesso_cmd_words)], narrowed := true }
def CmdLinesUptoSaid : Prop := cmdLinesUptoRow.holds Tryd.pinned (OpenSpec.upto cmdLinesSpec)

end Rows
end Go.Proofs.YtnapannphldglaaDoor
