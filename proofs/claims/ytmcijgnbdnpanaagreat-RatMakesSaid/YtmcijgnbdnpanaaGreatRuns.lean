/- What single operations come to, whatever the frame: load and store of a box of two cells, a new box, a call. -/
import Derived.Test.YtmcijgnbdnpanaaGreatRefZ3
namespace Go.Proofs.YtmcijgnbdnpanaaGreat
open Go Go.RowKit

theorem run_loadI {e : Operand → Value} {x : Operand} {d : Option Tmp} {y g : Nat} {pos : String} {af : Array Edge} {w : World} {u v : Value} (h : e x = .pointer (some ⟨g, 0, none⟩)) (h0 : w.cell? ⟨g, 0, none⟩ = some u) (h1 : w.cell? ⟨g, 1, none⟩ = some v) :
    (execOp e { dst := d, op := Op.load 24 x, type := y, pos := pos, after := af, guard := none }).run Tryz.prog w = .ok (.value (.agg #[u, v])) w := by
  go_simp
theorem run_storeR {e : Operand → Value} {x z : Operand} {d : Option Tmp} {y g : Nat} {pos : String} {af : Array Edge} {w : World} {s : Bool} {A : Option Addr} {n c : Nat} {u0 v0 : Value} (h : e x = .pointer (some ⟨g, 0, none⟩)) (hz : e z = .agg #[.bool s, .slice A n c]) (h0 : w.cell? ⟨g, 0, none⟩ = some u0) (h1 : w.cell? ⟨g, 1, none⟩ = some v0) (f0 : w.frozen? ⟨g, 0, none⟩ = false) (f1 : w.frozen? ⟨g, 1, none⟩ = false) :
    (execOp e { dst := d, op := Op.store 32 x z, type := y, pos := pos, after := af, guard := none }).run Tryz.prog w = .ok .skip ((w.setCell ⟨g, 0, none⟩ (.bool s)).setCell ⟨g, 1, none⟩ (.slice A n c)) := by
  go_simp
theorem run_allocR {e : Operand → Value} {d : Option Tmp} {y : Nat} {pos : String} {af : Array Edge} {w : World} :
    (execOp e { dst := d, op := Op.alloc 32, type := y, pos := pos, after := af, guard := none }).run Tryz.prog w = .ok (.value (.pointer (some ⟨w.heap.size, 0, none⟩))) (w.alloc (.cells #[.bool false, .slice none 0 0] 32)) := by
  go_simp
theorem run_callI {e : Operand → Value} {x : Operand} {d : Option Tmp} {y : Nat} {pos : String} {af : Array Edge} {w : World} {u : Value} (h : e x = u) (h2 : e (.func 35) = .func (.func 35) #[] #[]) :
    (execOp e { dst := d, op := Op.call { callee := Callee.value (Operand.func 35), args := #[x], argTypes := #[24] }, type := y, pos := pos, after := af, guard := none }).run Tryz.prog w = .ok (.enter 35 #[u]) w := by
  go_simp
end Go.Proofs.YtmcijgnbdnpanaaGreat
