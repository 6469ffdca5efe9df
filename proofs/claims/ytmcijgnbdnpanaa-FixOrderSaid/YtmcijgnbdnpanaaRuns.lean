/- What single operations come to, whatever the frame: load and store of a box of two cells, a new box, a call. -/
import Derived.Test.YtmcijgnbdnpanaaRefZ3
namespace Go.Proofs.Ytmcijgnbdnpanaa
open Go Go.RowKit

theorem run_loadI {e : Operand → Value} {x : Operand} {d : Option Tmp} {y g : Nat} {pos : String} {af : Array Edge} {w : World} {u v : Value} (h : e x = .pointer (some ⟨g, 0, none⟩)) (h0 : w.cell? ⟨g, 0, none⟩ = some u) (h1 : w.cell? ⟨g, 1, none⟩ = some v) :
    (execOp e { dst := d, op := Op.load 24 x, type := y, pos := pos, after := af, guard := none }).run Try.prog w = .ok (.value (.agg #[u, v])) w := by
  go_simp
end Go.Proofs.Ytmcijgnbdnpanaa
