/-
  DERIVED. GIVEN WITH THE SEED: THE CARDS: each row of YtaoobmcdbkipiaaDoorRows.lean that lists a variable, with what it lists TIED to the program's text (the seventh form; the later family's looks); each row that meets fmt, with fmt's text TOLD by the authors' own Lean function (tested against real Go, not proved from fmt's source: count such statements apart). THE CARD IS WHAT COUNTS. Prove the row's statement (the work); the ties are given (YtaoobmcdbkipiaaDoorTie.lean); close each card by the builder's one call (the guide's Derived/Test/ToyasCard.lean, 'card_holds'). Laid BY PROGRAM, IN A SANDBOX (cutbox-door.mjs). By AI agents, Wed Nov 11 2026. No macro, syntax, notation, axiom, sorry.
-/
import Derived.Test.YtaoobmcdbkipiaaDoorRows
import GoSem.ClaimSeven
namespace Go.Proofs.YtaoobmcdbkipiaaDoor
namespace Rows

/-- THE TIED CARD OF 'gessolaw11.PathTexts'. -/
def pathTextsCard : Claim7 := { stood := { row := pathTextsRow, standIns := [], harness := (true, "7aeaec399bedff6b826dce383e3303117935567a166624b0bb743f4fae03f749"), looks := false }, kinds := [], alts := [], laidByText := true, laidKinds := [.data, .data, .data, .data], laidTests := true, laidLooks := .later }
def PathTextsCardSaid : Prop := Claim7.holds Tryd.pinned (.plain (OpenSpec.ofChange pathTextsSpec)) pathTextsCard

/-- THE TIED CARD OF 'gessolaw11.PathBack'. -/
def pathBackCard : Claim7 := { stood := { row := pathBackRow, standIns := [], harness := (true, "7aeaec399bedff6b826dce383e3303117935567a166624b0bb743f4fae03f749"), looks := false }, kinds := [], alts := [], laidByText := true, laidKinds := [.data, .data, .data, .data], laidTests := true, laidLooks := .later }
def PathBackCardSaid : Prop := Claim7.holds Tryd.pinned (.plain (OpenSpec.ofChange pathBackSpec)) pathBackCard

/-- THE TIED CARD OF 'gessolaw11.PathSmall'. -/
def pathSmallCard : Claim7 := { stood := { row := pathSmallRow, standIns := [], harness := (true, "7aeaec399bedff6b826dce383e3303117935567a166624b0bb743f4fae03f749"), looks := false }, kinds := [], alts := [], laidByText := true, laidKinds := [.data, .data, .data, .data], laidTests := true, laidLooks := .later }
def PathSmallCardSaid : Prop := Claim7.holds Tryd.pinned (.plain (OpenSpec.ofChange pathSmallSpec)) pathSmallCard

/-- THE TIED CARD OF 'gessolaw11.PathMirrors'. -/
def pathMirrorsCard : Claim7 := { stood := { row := pathMirrorsRow, standIns := [], harness := (true, "7aeaec399bedff6b826dce383e3303117935567a166624b0bb743f4fae03f749"), looks := false }, kinds := [], alts := [], laidByText := true, laidKinds := [.data, .data, .data, .data], laidTests := true, laidLooks := .later }
def PathMirrorsCardSaid : Prop := Claim7.holds Tryd.pinned (.plain (OpenSpec.ofChange pathMirrorsSpec)) pathMirrorsCard

/-- THE TIED CARD OF 'gessolaw11.PathAgain'. -/
def pathAgainCard : Claim7 := { stood := { row := pathAgainRow, standIns := [], harness := (true, "7aeaec399bedff6b826dce383e3303117935567a166624b0bb743f4fae03f749"), looks := false }, kinds := [], alts := [], laidByText := true, laidKinds := [.data, .data, .data, .data], laidTests := true, laidLooks := .later }
def PathAgainCardSaid : Prop := Claim7.holds Tryd.pinned (.plain (OpenSpec.ofChange pathAgainSpec)) pathAgainCard

/-- THE SECOND FORM's CARD OF 'gessolaw11.PathTexts'. -/
def pathTextsUptoCard : Claim7 := { stood := { row := pathTextsUptoRow, standIns := [], harness := (true, "7aeaec399bedff6b826dce383e3303117935567a166624b0bb743f4fae03f749"), looks := false }, kinds := [], alts := [], laidByText := true, laidKinds := [.data, .data, .data, .data], laidTests := true, laidLooks := .later }
def PathTextsUptoCardSaid : Prop := Claim7.holds Tryd.pinned (.plain (OpenSpec.upto pathTextsSpec)) pathTextsUptoCard

/-- THE SECOND FORM's CARD OF 'gessolaw11.PathBack'. -/
def pathBackUptoCard : Claim7 := { stood := { row := pathBackUptoRow, standIns := [], harness := (true, "7aeaec399bedff6b826dce383e3303117935567a166624b0bb743f4fae03f749"), looks := false }, kinds := [], alts := [], laidByText := true, laidKinds := [.data, .data, .data, .data], laidTests := true, laidLooks := .later }
def PathBackUptoCardSaid : Prop := Claim7.holds Tryd.pinned (.plain (OpenSpec.upto pathBackSpec)) pathBackUptoCard

/-- THE SECOND FORM's CARD OF 'gessolaw11.PathSmall'. -/
def pathSmallUptoCard : Claim7 := { stood := { row := pathSmallUptoRow, standIns := [], harness := (true, "7aeaec399bedff6b826dce383e3303117935567a166624b0bb743f4fae03f749"), looks := false }, kinds := [], alts := [], laidByText := true, laidKinds := [.data, .data, .data, .data], laidTests := true, laidLooks := .later }
def PathSmallUptoCardSaid : Prop := Claim7.holds Tryd.pinned (.plain (OpenSpec.upto pathSmallSpec)) pathSmallUptoCard

/-- THE SECOND FORM's CARD OF 'gessolaw11.PathMirrors'. -/
def pathMirrorsUptoCard : Claim7 := { stood := { row := pathMirrorsUptoRow, standIns := [], harness := (true, "7aeaec399bedff6b826dce383e3303117935567a166624b0bb743f4fae03f749"), looks := false }, kinds := [], alts := [], laidByText := true, laidKinds := [.data, .data, .data, .data], laidTests := true, laidLooks := .later }
def PathMirrorsUptoCardSaid : Prop := Claim7.holds Tryd.pinned (.plain (OpenSpec.upto pathMirrorsSpec)) pathMirrorsUptoCard

/-- THE SECOND FORM's CARD OF 'gessolaw11.PathAgain'. -/
def pathAgainUptoCard : Claim7 := { stood := { row := pathAgainUptoRow, standIns := [], harness := (true, "7aeaec399bedff6b826dce383e3303117935567a166624b0bb743f4fae03f749"), looks := false }, kinds := [], alts := [], laidByText := true, laidKinds := [.data, .data, .data, .data], laidTests := true, laidLooks := .later }
def PathAgainUptoCardSaid : Prop := Claim7.holds Tryd.pinned (.plain (OpenSpec.upto pathAgainSpec)) pathAgainUptoCard
end Rows
end Go.Proofs.YtaoobmcdbkipiaaDoor
