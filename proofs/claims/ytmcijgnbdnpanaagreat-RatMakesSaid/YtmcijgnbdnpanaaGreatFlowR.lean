/- Drawn regions of the reference's: its structs. -/
import Derived.Test.YtmcijgnbdnpanaaGreatFlow
import Derived.Test.YtmcijgnbdnpanaaGreatFlow2
import Derived.Test.YtmcijgnbdnpanaaGreatRefR
import Derived.Test.YtmcijgnbdnpanaaGreatRuns
namespace Go.Proofs.YtmcijgnbdnpanaaGreat
open Go Go.RowKit

def VRG (v : Int) (k : Nat) (x : Value) (w : World) : Prop := ∃ s A n c, x = .agg #[.bool s, .slice A n c] ∧ RG w s A n c v k
theorem RG.box {T : TypeId} {w w' : World} {g : Nat} {cs : Array Value} {s : Bool} {A : Option Addr} {n c k : Nat} {v : Int} (h : RG w s A n c v k) (B : BoxAt T w g cs) (ho : Only g w w') : RG w' s A n c v k := h.only (B.offx h.2.1) ho
theorem stays_r (v : Int) (k : Nat) : Stays (VRG v k) :=
  ⟨fun _ _ _ ⟨s, A, n, c, h1, h2⟩ hb => ⟨s, A, n, c, h1, h2.below hb⟩, fun _ _ _ _ _ _ ⟨s, A, n, c, h1, h2⟩ hB ho => ⟨s, A, n, c, h1, h2.box hB ho⟩⟩
theorem run_load3 {e : Operand → Value} {x : Operand} {d : Option Tmp} {y g : Nat} {pos : String} {af : Array Edge} {w : World} {u v z : Value} (h : e x = .pointer (some ⟨g, 0, none⟩)) (h0 : w.cell? ⟨g, 0, none⟩ = some u) (h1 : w.cell? ⟨g, 1, none⟩ = some v) (h2 : w.cell? ⟨g, 2, none⟩ = some z) :
    (execOp e { dst := d, op := Op.load 34 x, type := y, pos := pos, after := af, guard := none }).run Tryz.prog w = .ok (.value (.agg #[u, v, z])) w := by
  go_simp
theorem run_load32 {e : Operand → Value} {x : Operand} {d : Option Tmp} {y g : Nat} {pos : String} {af : Array Edge} {w : World} {u v : Value} (h : e x = .pointer (some ⟨g, 0, none⟩)) (h0 : w.cell? ⟨g, 0, none⟩ = some u) (h1 : w.cell? ⟨g, 1, none⟩ = some v) :
    (execOp e { dst := d, op := Op.load 32 x, type := y, pos := pos, after := af, guard := none }).run Tryz.prog w = .ok (.value (.agg #[u, v])) w := by
  go_simp
theorem run_fa0 {e : Operand → Value} {x : Operand} {d : Option Tmp} {y g : Nat} {pos : String} {af : Array Edge} {w : World} (h : e x = .pointer (some ⟨g, 0, none⟩)) :
    (execOp e { dst := d, op := Op.fieldAddr 34 x 0, type := y, pos := pos, after := af, guard := none }).run Tryz.prog w = .ok (.value (.pointer (some ⟨g, 0, none⟩))) w := by
  go_simp
theorem store_r {ac : Act} {x z : Operand} {y g : Nat} {pos : String} {af : Array Edge} {w : World} {Q : Exit → Act → World → Prop} {V : Int} {k : Nat} (p1 : ac.eval x = .pointer (some ⟨g, 0, none⟩)) (h : VRG V k (ac.eval z) w) (B : BoxAt 32 w g #[.bool false, .slice none 0 0]) :
    ({ dst := none, op := Op.store 32 x z, type := y, pos := pos, after := af, guard := none } : Oper).wp Tryz.prog ac w (fun a'' w'' => a'' = ac ∧ Only g w w'' ∧ ∃ cs', BoxAt 32 w'' g cs' ∧ (fun cs w => ∃ s A n c, cs = #[.bool s, .slice A n c] ∧ RG w s A n c V k) cs' w'') Q := by
  obtain ⟨s1, A1, n1, c1, h1, h2⟩ := h
  have Z : By w g (Value.bool false) (Value.slice none 0 0) := B.at_
  unfold Oper.wp
  rw [run_storeR p1 h1 Z.c0 Z.c1 Z.f0 Z.f1, Oper.upon_skip]
  refine ⟨put_none ac undef, (((Only.refl g w).setCell 0 _).setCell 1 _), #[.bool s1, .slice A1 n1 c1], ⟨Z.set2 (Value.bool s1) (Value.slice A1 n1 c1), free2 _ _ _ _⟩, s1, A1, n1, c1, rfl, h2.box B (((Only.refl g w).setCell 0 _).setCell 1 _)⟩
def VRQ (v : Rat) (k : Nat) (x : Value) (w : World) : Prop := ∃ s A n c B m d, x = .agg #[.bool s, .slice A n c, .slice B m d] ∧ RQ w s A n c B m d v k
theorem RQ.box {T : TypeId} {w w' : World} {g : Nat} {cs : Array Value} {s : Bool} {A A' : Option Addr} {n c n' c' k : Nat} {v : Rat} (h : RQ w s A n c A' n' c' v k) (B : BoxAt T w g cs) (ho : Only g w w') : RQ w' s A n c A' n' c' v k := ⟨h.1.box B ho, h.2.only (B.offx h.2.1) ho⟩
theorem stays_rq (v : Rat) (k : Nat) : Stays (VRQ v k) :=
  ⟨fun _ _ _ ⟨s, A, n, c, B, m, d, h1, h2⟩ hb => ⟨s, A, n, c, B, m, d, h1, h2.below hb⟩, fun _ _ _ _ _ _ ⟨s, A, n, c, B, m, d, h1, h2⟩ hB ho => ⟨s, A, n, c, B, m, d, h1, h2.box hB ho⟩⟩
theorem run_alloc3 {e : Operand → Value} {d : Option Tmp} {y : Nat} {pos : String} {af : Array Edge} {w : World} :
    (execOp e { dst := d, op := Op.alloc 34, type := y, pos := pos, after := af, guard := none }).run Tryz.prog w = .ok (.value (.pointer (some ⟨w.heap.size, 0, none⟩))) (w.alloc (.cells #[.bool false, .slice none 0 0, .slice none 0 0] 34)) := by
  go_simp
theorem run_store3 {e : Operand → Value} {x z : Operand} {d : Option Tmp} {y g : Nat} {pos : String} {af : Array Edge} {w : World} {s : Bool} {A B : Option Addr} {n c m k : Nat} {u0 v0 z0 : Value} (h : e x = .pointer (some ⟨g, 0, none⟩)) (hz : e z = .agg #[.bool s, .slice A n c, .slice B m k]) (h0 : w.cell? ⟨g, 0, none⟩ = some u0) (h1 : w.cell? ⟨g, 1, none⟩ = some v0) (h2 : w.cell? ⟨g, 2, none⟩ = some z0) (f0 : w.frozen? ⟨g, 0, none⟩ = false) (f1 : w.frozen? ⟨g, 1, none⟩ = false) (f2 : w.frozen? ⟨g, 2, none⟩ = false) :
    (execOp e { dst := d, op := Op.store 34 x z, type := y, pos := pos, after := af, guard := none }).run Tryz.prog w = .ok .skip (((w.setCell ⟨g, 0, none⟩ (.bool s)).setCell ⟨g, 1, none⟩ (.slice A n c)).setCell ⟨g, 2, none⟩ (.slice B m k)) := by
  go_simp
theorem store_rq {ac : Act} {x z : Operand} {y g : Nat} {pos : String} {af : Array Edge} {w : World} {Q : Exit → Act → World → Prop} {V : Rat} {k : Nat} (p1 : ac.eval x = .pointer (some ⟨g, 0, none⟩)) (h : VRQ V k (ac.eval z) w) (B : BoxAt 34 w g #[.bool false, .slice none 0 0, .slice none 0 0]) :
    ({ dst := none, op := Op.store 34 x z, type := y, pos := pos, after := af, guard := none } : Oper).wp Tryz.prog ac w (fun a'' w'' => a'' = ac ∧ Only g w w'' ∧ ∃ cs', BoxAt 34 w'' g cs' ∧ (fun cs w => ∃ s A n c B m d, cs = #[.bool s, .slice A n c, .slice B m d] ∧ RQ w s A n c B m d V k) cs' w'') Q := by
  obtain ⟨s1, A1, n1, c1, B1, m1, d1, h1, h2⟩ := h
  have Z : B3R w g (Value.bool false) (Value.slice none 0 0) (Value.slice none 0 0) := B.at_
  unfold Oper.wp
  rw [run_store3 p1 h1 Z.c0 Z.c1 Z.c2 Z.f0 Z.f1 Z.f2, Oper.upon_skip]
  refine ⟨put_none ac undef, ((((Only.refl g w).setCell 0 _).setCell 1 _).setCell 2 _), #[.bool s1, .slice A1 n1 c1, .slice B1 m1 d1], ⟨Z.set3 (Value.bool s1) (Value.slice A1 n1 c1) (Value.slice B1 m1 d1), free3 _ _ _ _ _ _ _⟩, s1, A1, n1, c1, B1, m1, d1, rfl, h2.box B ((((Only.refl g w).setCell 0 _).setCell 1 _).setCell 2 _)⟩
end Go.Proofs.YtmcijgnbdnpanaaGreat
