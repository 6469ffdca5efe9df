/- gessolaw03.wakes: the layer's functions are awake. -/
import Derived.Test.YtmcijgnbdnpanaaRatH
import Derived.Test.YtmcijgnbdnpanaaInv
import Derived.Test.YtmcijgnbdnpanaaRuns
import Derived.Test.YtmcijgnbdnpanaaTwoIn
import Derived.Test.YtmcijgnbdnpanaaZedH
namespace Go.Proofs.Ytmcijgnbdnpanaa
open Go Go.RowKit

theorem run_loadQ {e : Operand → Value} {x : Operand} {d : Option Tmp} {y g : Nat} {pos : String} {af : Array Edge} {w : World} {u v z : Value} (h : e x = .pointer (some ⟨g, 0, none⟩)) (h0 : w.cell? ⟨g, 0, none⟩ = some u) (h1 : w.cell? ⟨g, 1, none⟩ = some v) (h2 : w.cell? ⟨g, 2, none⟩ = some z) :
    (execOp e { dst := d, op := Op.load 26 x, type := y, pos := pos, after := af, guard := none }).run Try.prog w = .ok (.value (.agg #[u, v, z])) w := by
  go_simp
theorem run_storeQ {e : Operand → Value} {x z : Operand} {d : Option Tmp} {y g : Nat} {pos : String} {af : Array Edge} {w : World} {s : Bool} {A B : Option Addr} {n c m k : Nat} {u0 v0 z0 : Value} (h : e x = .pointer (some ⟨g, 0, none⟩)) (hz : e z = .agg #[.bool s, .slice A n c, .slice B m k]) (h0 : w.cell? ⟨g, 0, none⟩ = some u0) (h1 : w.cell? ⟨g, 1, none⟩ = some v0) (h2 : w.cell? ⟨g, 2, none⟩ = some z0) (f0 : w.frozen? ⟨g, 0, none⟩ = false) (f1 : w.frozen? ⟨g, 1, none⟩ = false) (f2 : w.frozen? ⟨g, 2, none⟩ = false) :
    (execOp e { dst := d, op := Op.store 26 x z, type := y, pos := pos, after := af, guard := none }).run Try.prog w = .ok .skip (((w.setCell ⟨g, 0, none⟩ (.bool s)).setCell ⟨g, 1, none⟩ (.slice A n c)).setCell ⟨g, 2, none⟩ (.slice B m k)) := by
  go_simp
theorem run_allocQ {e : Operand → Value} {d : Option Tmp} {y : Nat} {pos : String} {af : Array Edge} {w : World} :
    (execOp e { dst := d, op := Op.alloc 26, type := y, pos := pos, after := af, guard := none }).run Try.prog w = .ok (.value (.pointer (some ⟨w.heap.size, 0, none⟩))) (w.alloc (.cells #[.bool false, .slice none 0 0, .slice none 0 0] 26)) := by
  go_simp
theorem run_move {e : Operand → Value} {x : Operand} {d : Option Tmp} {y : Nat} {pos : String} {af : Array Edge} {w : World} {u : Value} (h : e x = u) :
    (execOp e { dst := d, op := Op.move x, type := y, pos := pos, after := af, guard := none }).run Try.prog w = .ok (.value u) w := by
  subst h; go_simp
theorem run_assign {e : Operand → Value} {x : Operand} {d : Option Tmp} {y : Nat} {pos : String} {af : Array Edge} {w : World} {u : Value} (h : e x = u) :
    (execOp e { dst := d, op := Op.assign x, type := y, pos := pos, after := af, guard := none }).run Try.prog w = .ok (.value u) w := by
  subst h; go_simp
theorem run_ext0 {e : Operand → Value} {x : Operand} {d : Option Tmp} {y : Nat} {pos : String} {af : Array Edge} {w : World} {u v : Value} (h : e x = .tuple #[u, v]) :
    (execOp e { dst := d, op := Op.extract x 0, type := y, pos := pos, after := af, guard := none }).run Try.prog w = .ok (.value u) w := by
  go_simp
theorem run_ext1 {e : Operand → Value} {x : Operand} {d : Option Tmp} {y : Nat} {pos : String} {af : Array Edge} {w : World} {u v : Value} (h : e x = .tuple #[u, v]) :
    (execOp e { dst := d, op := Op.extract x 1, type := y, pos := pos, after := af, guard := none }).run Try.prog w = .ok (.value v) w := by
  go_simp
theorem run_callOf {e : Operand → Value} {d : Option Tmp} {y : Nat} {pos : String} {af : Array Edge} {w : World} {i j : Int} (h1 : e (.const (.int .i64 i)) = .int .i64 i) (h2 : e (.const (.int .i64 j)) = .int .i64 j) (h3 : e (.func 16) = .func (.func 16) #[] #[]) :
    (execOp e { dst := d, op := Op.call { callee := Callee.value (Operand.func 16), args := #[.const (.int .i64 i), .const (.int .i64 j)], argTypes := #[2, 2] }, type := y, pos := pos, after := af, guard := none }).run Try.prog w = .ok (.enter 16 #[.int .i64 i, .int .i64 j]) w := by
  go_simp
def IsQ (w : World) (v : Value) (x : Rat) (k : Nat) : Prop := ∃ s A n c A' n' c', v = .agg #[.bool s, .slice A n c, .slice A' n' c'] ∧ QG w s A n c A' n' c' x k
theorem IsQ.below {w w' : World} {v : Value} {x : Rat} {k : Nat} (h : IsQ w v x k) (hb : Below w.heap.size w w') : IsQ w' v x k := by
  obtain ⟨s, A, n, c, A', n', c', h1, h2⟩ := h; exact ⟨s, A, n, c, A', n', c', h1, h2.below hb⟩
def HasBox (w : World) (base : Nat) (p : Value) : Prop := ∃ g s A n c A' n' c', p = .pointer (some ⟨g, 0, none⟩) ∧ base ≤ g ∧ B3 w g (.bool s) (.slice A n c) (.slice A' n' c')
theorem HasBox.below {w w' : World} {b : Nat} {p : Value} (h : HasBox w b p) (hb : Below w.heap.size w w') : HasBox w' b p := by
  obtain ⟨g, s, A, n, c, A', n', c', h1, h2, h3⟩ := h; exact ⟨g, s, A, n, c, A', n', c', h1, h2, h3.below hb⟩
def ErrT : Value := .tuple #[.agg #[.bool false, .slice none 0 0, .slice none 0 0], .int .i64 12]
def JW (w : World) (V : Value) (D : Nat → Bool) (v : Nat → Value) (w' : World) : Prop :=
  Below w.heap.size w w' ∧ (D 0 = true → v 18 = V) ∧ (D 1 = true ∧ D 2 = false → IsQ w' (v 19) (Rat.divInt 0 1) 1) ∧ (D 2 = true → v 20 = ErrT) ∧ (D 3 = true → v 17 = ErrT) ∧
  (D 4 = true → v 21 = .agg #[.bool false, .slice none 0 0, .slice none 0 0]) ∧ (D 5 = true → v 22 = .int .i64 12) ∧ (D 6 = true → HasBox w' w.heap.size (v 5)) ∧ (D 8 = true → v 6 = .int .i64 12)
end Go.Proofs.Ytmcijgnbdnpanaa
