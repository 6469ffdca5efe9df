/- PtNear: part 16. -/
import Derived.Test.YtlkjkhpjhllapaaGreatKPtNear15
set_option linter.unusedVariables false
namespace Go.Proofs.YtlkjkhpjhllapaaGreat
open Go Go.RowKit
def BA3 (W : World) (g : Nat) (v0 : Value) (v1 : Value) (v2 : Value) (v3 : Value) (v4 : Value) (v5 : Value) (v6 : Value) (v7 : Value) (v8 : Value) (v9 : Value) (v10 : Value) (v11 : Value) (v12 : Value) (v13 : Value) (v14 : Value) (v15 : Value) (v16 : Value) (v17 : Value) : Prop := W.heap[g]? = some (.cells #[v0, v1, v2, v3, v4, v5, v6, v7, v8, v9, v10, v11, v12, v13, v14, v15, v16, v17] 109 (0, 0))
section
variable {W W' : World} {g : Nat} {v0 v1 v2 v3 v4 v5 v6 v7 v8 v9 v10 v11 v12 v13 v14 v15 v16 v17 : Value}
theorem BA3.c0 (h : BA3 W g v0 v1 v2 v3 v4 v5 v6 v7 v8 v9 v10 v11 v12 v13 v14 v15 v16 v17) : W.cell? ⟨g, 0, none⟩ = some v0 := by rw [cell_of_row W g 0 _ _ (0, 0) h]; rfl
theorem BA3.c1 (h : BA3 W g v0 v1 v2 v3 v4 v5 v6 v7 v8 v9 v10 v11 v12 v13 v14 v15 v16 v17) : W.cell? ⟨g, 1, none⟩ = some v1 := by rw [cell_of_row W g 1 _ _ (0, 0) h]; rfl
theorem BA3.c2 (h : BA3 W g v0 v1 v2 v3 v4 v5 v6 v7 v8 v9 v10 v11 v12 v13 v14 v15 v16 v17) : W.cell? ⟨g, 2, none⟩ = some v2 := by rw [cell_of_row W g 2 _ _ (0, 0) h]; rfl
theorem BA3.c3 (h : BA3 W g v0 v1 v2 v3 v4 v5 v6 v7 v8 v9 v10 v11 v12 v13 v14 v15 v16 v17) : W.cell? ⟨g, 3, none⟩ = some v3 := by rw [cell_of_row W g 3 _ _ (0, 0) h]; rfl
theorem BA3.c4 (h : BA3 W g v0 v1 v2 v3 v4 v5 v6 v7 v8 v9 v10 v11 v12 v13 v14 v15 v16 v17) : W.cell? ⟨g, 4, none⟩ = some v4 := by rw [cell_of_row W g 4 _ _ (0, 0) h]; rfl
theorem BA3.c5 (h : BA3 W g v0 v1 v2 v3 v4 v5 v6 v7 v8 v9 v10 v11 v12 v13 v14 v15 v16 v17) : W.cell? ⟨g, 5, none⟩ = some v5 := by rw [cell_of_row W g 5 _ _ (0, 0) h]; rfl
theorem BA3.c6 (h : BA3 W g v0 v1 v2 v3 v4 v5 v6 v7 v8 v9 v10 v11 v12 v13 v14 v15 v16 v17) : W.cell? ⟨g, 6, none⟩ = some v6 := by rw [cell_of_row W g 6 _ _ (0, 0) h]; rfl
theorem BA3.c7 (h : BA3 W g v0 v1 v2 v3 v4 v5 v6 v7 v8 v9 v10 v11 v12 v13 v14 v15 v16 v17) : W.cell? ⟨g, 7, none⟩ = some v7 := by rw [cell_of_row W g 7 _ _ (0, 0) h]; rfl
theorem BA3.c8 (h : BA3 W g v0 v1 v2 v3 v4 v5 v6 v7 v8 v9 v10 v11 v12 v13 v14 v15 v16 v17) : W.cell? ⟨g, 8, none⟩ = some v8 := by rw [cell_of_row W g 8 _ _ (0, 0) h]; rfl
theorem BA3.c9 (h : BA3 W g v0 v1 v2 v3 v4 v5 v6 v7 v8 v9 v10 v11 v12 v13 v14 v15 v16 v17) : W.cell? ⟨g, 9, none⟩ = some v9 := by rw [cell_of_row W g 9 _ _ (0, 0) h]; rfl
theorem BA3.c10 (h : BA3 W g v0 v1 v2 v3 v4 v5 v6 v7 v8 v9 v10 v11 v12 v13 v14 v15 v16 v17) : W.cell? ⟨g, 10, none⟩ = some v10 := by rw [cell_of_row W g 10 _ _ (0, 0) h]; rfl
theorem BA3.c11 (h : BA3 W g v0 v1 v2 v3 v4 v5 v6 v7 v8 v9 v10 v11 v12 v13 v14 v15 v16 v17) : W.cell? ⟨g, 11, none⟩ = some v11 := by rw [cell_of_row W g 11 _ _ (0, 0) h]; rfl
theorem BA3.c12 (h : BA3 W g v0 v1 v2 v3 v4 v5 v6 v7 v8 v9 v10 v11 v12 v13 v14 v15 v16 v17) : W.cell? ⟨g, 12, none⟩ = some v12 := by rw [cell_of_row W g 12 _ _ (0, 0) h]; rfl
theorem BA3.c13 (h : BA3 W g v0 v1 v2 v3 v4 v5 v6 v7 v8 v9 v10 v11 v12 v13 v14 v15 v16 v17) : W.cell? ⟨g, 13, none⟩ = some v13 := by rw [cell_of_row W g 13 _ _ (0, 0) h]; rfl
theorem BA3.c14 (h : BA3 W g v0 v1 v2 v3 v4 v5 v6 v7 v8 v9 v10 v11 v12 v13 v14 v15 v16 v17) : W.cell? ⟨g, 14, none⟩ = some v14 := by rw [cell_of_row W g 14 _ _ (0, 0) h]; rfl
theorem BA3.c15 (h : BA3 W g v0 v1 v2 v3 v4 v5 v6 v7 v8 v9 v10 v11 v12 v13 v14 v15 v16 v17) : W.cell? ⟨g, 15, none⟩ = some v15 := by rw [cell_of_row W g 15 _ _ (0, 0) h]; rfl
theorem BA3.c16 (h : BA3 W g v0 v1 v2 v3 v4 v5 v6 v7 v8 v9 v10 v11 v12 v13 v14 v15 v16 v17) : W.cell? ⟨g, 16, none⟩ = some v16 := by rw [cell_of_row W g 16 _ _ (0, 0) h]; rfl
theorem BA3.c17 (h : BA3 W g v0 v1 v2 v3 v4 v5 v6 v7 v8 v9 v10 v11 v12 v13 v14 v15 v16 v17) : W.cell? ⟨g, 17, none⟩ = some v17 := by rw [cell_of_row W g 17 _ _ (0, 0) h]; rfl
theorem BA3.lt (h : BA3 W g v0 v1 v2 v3 v4 v5 v6 v7 v8 v9 v10 v11 v12 v13 v14 v15 v16 v17) : g < W.heap.size := World.block_lt_of_cell? W _ h.c0
theorem BA3.below (h : BA3 W g v0 v1 v2 v3 v4 v5 v6 v7 v8 v9 v10 v11 v12 v13 v14 v15 v16 v17) (hb : Below W.heap.size W W') : BA3 W' g v0 v1 v2 v3 v4 v5 v6 v7 v8 v9 v10 v11 v12 v13 v14 v15 v16 v17 := (hb.block g h.lt).trans h
end
theorem BA3.new' (W : World) (v0 v1 v2 v3 v4 v5 v6 v7 v8 v9 v10 v11 v12 v13 v14 v15 v16 v17 : Value) (g : Nat) (hg : g = W.heap.size) : BA3 (W.alloc (.cells #[v0, v1, v2, v3, v4, v5, v6, v7, v8, v9, v10, v11, v12, v13, v14, v15, v16, v17] 109)) g v0 v1 v2 v3 v4 v5 v6 v7 v8 v9 v10 v11 v12 v13 v14 v15 v16 v17 := by subst hg; exact heap_alloc_new W _
theorem at_0 (g : Nat) (w : World) : (Instr.indexAt 109 (Value.pointer (some ⟨g, 0, none⟩)) (Value.int IntKind.i64 0)).run Tryz.prog w = .ok (.pointer (some ⟨g, 0, none⟩)) w := by kernel_rfl
theorem run_ia0 {e1 : Operand → Value} {x1 : Operand} {d1 : Option Tmp} {y1 g : Nat} {pos : String} {af : Array Edge} {w : World} (h : e1 x1 = .pointer (some ⟨g, 0, none⟩)) (hc : e1 (Operand.const (Value.int IntKind.i64 0)) = .int .i64 0) :
    (execOp e1 { dst := d1, op := Op.indexAddr 109 x1 (Operand.const (Value.int IntKind.i64 0)), type := y1, pos := pos, after := af, guard := none }).run Tryz.prog w = .ok (.value (.pointer (some ⟨g, 0, none⟩))) w := by
  have h1 := at_0 g w
  go_simp
theorem run_loadA0 {e1 : Operand → Value} {x1 : Operand} {d1 : Option Tmp} {y1 g : Nat} {pos : String} {af : Array Edge} {w : World} {v0 v1 v2 v3 v4 v5 v6 v7 v8 v9 v10 v11 v12 v13 v14 v15 v16 v17 : Value} (h : e1 x1 = .pointer (some ⟨g, 0, none⟩)) (Z : BA3 w g v0 v1 v2 v3 v4 v5 v6 v7 v8 v9 v10 v11 v12 v13 v14 v15 v16 v17) :
    (execOp e1 { dst := d1, op := Op.load 83 x1, type := y1, pos := pos, after := af, guard := none }).run Tryz.prog w = .ok (.value (.agg #[v0, v1, v2, v3, v4, v5])) w := by
  have c0 := Z.c0
  have c1 := Z.c1
  have c2 := Z.c2
  have c3 := Z.c3
  have c4 := Z.c4
  have c5 := Z.c5
  go_simp
theorem at_1 (g : Nat) (w : World) : (Instr.indexAt 109 (Value.pointer (some ⟨g, 0, none⟩)) (Value.int IntKind.i64 1)).run Tryz.prog w = .ok (.pointer (some ⟨g, 6, none⟩)) w := by kernel_rfl
theorem run_ia1 {e1 : Operand → Value} {x1 : Operand} {d1 : Option Tmp} {y1 g : Nat} {pos : String} {af : Array Edge} {w : World} (h : e1 x1 = .pointer (some ⟨g, 0, none⟩)) (hc : e1 (Operand.const (Value.int IntKind.i64 1)) = .int .i64 1) :
    (execOp e1 { dst := d1, op := Op.indexAddr 109 x1 (Operand.const (Value.int IntKind.i64 1)), type := y1, pos := pos, after := af, guard := none }).run Tryz.prog w = .ok (.value (.pointer (some ⟨g, 6, none⟩))) w := by
  have h1 := at_1 g w
  go_simp
theorem run_loadA1 {e1 : Operand → Value} {x1 : Operand} {d1 : Option Tmp} {y1 g : Nat} {pos : String} {af : Array Edge} {w : World} {v0 v1 v2 v3 v4 v5 v6 v7 v8 v9 v10 v11 v12 v13 v14 v15 v16 v17 : Value} (h : e1 x1 = .pointer (some ⟨g, 6, none⟩)) (Z : BA3 w g v0 v1 v2 v3 v4 v5 v6 v7 v8 v9 v10 v11 v12 v13 v14 v15 v16 v17) :
    (execOp e1 { dst := d1, op := Op.load 83 x1, type := y1, pos := pos, after := af, guard := none }).run Tryz.prog w = .ok (.value (.agg #[v6, v7, v8, v9, v10, v11])) w := by
  have c0 := Z.c6
  have c1 := Z.c7
  have c2 := Z.c8
  have c3 := Z.c9
  have c4 := Z.c10
  have c5 := Z.c11
  go_simp
theorem at_2 (g : Nat) (w : World) : (Instr.indexAt 109 (Value.pointer (some ⟨g, 0, none⟩)) (Value.int IntKind.i64 2)).run Tryz.prog w = .ok (.pointer (some ⟨g, 12, none⟩)) w := by kernel_rfl
theorem run_ia2 {e1 : Operand → Value} {x1 : Operand} {d1 : Option Tmp} {y1 g : Nat} {pos : String} {af : Array Edge} {w : World} (h : e1 x1 = .pointer (some ⟨g, 0, none⟩)) (hc : e1 (Operand.const (Value.int IntKind.i64 2)) = .int .i64 2) :
    (execOp e1 { dst := d1, op := Op.indexAddr 109 x1 (Operand.const (Value.int IntKind.i64 2)), type := y1, pos := pos, after := af, guard := none }).run Tryz.prog w = .ok (.value (.pointer (some ⟨g, 12, none⟩))) w := by
  have h1 := at_2 g w
  go_simp
theorem run_loadA2 {e1 : Operand → Value} {x1 : Operand} {d1 : Option Tmp} {y1 g : Nat} {pos : String} {af : Array Edge} {w : World} {v0 v1 v2 v3 v4 v5 v6 v7 v8 v9 v10 v11 v12 v13 v14 v15 v16 v17 : Value} (h : e1 x1 = .pointer (some ⟨g, 12, none⟩)) (Z : BA3 w g v0 v1 v2 v3 v4 v5 v6 v7 v8 v9 v10 v11 v12 v13 v14 v15 v16 v17) :
    (execOp e1 { dst := d1, op := Op.load 83 x1, type := y1, pos := pos, after := af, guard := none }).run Tryz.prog w = .ok (.value (.agg #[v12, v13, v14, v15, v16, v17])) w := by
  have c0 := Z.c12
  have c1 := Z.c13
  have c2 := Z.c14
  have c3 := Z.c15
  have c4 := Z.c16
  have c5 := Z.c17
  go_simp
def VK (c : Array Value) (x : Value) (_w : World) : Prop := x = .agg c
theorem stays_k (c : Array Value) : Stays (VK c) := ⟨fun _ _ _ h _ => h, fun _ _ _ _ _ _ h _ _ => h⟩
theorem store_k {ac : Act} {x1 z : Operand} {y1 g : Nat} {pos : String} {af : Array Edge} {w : World} {Q : Exit → Act → World → Prop} {s t : Bool} {A B E F : Option Addr} {n c m d i e j f : Nat} (p1 : ac.eval x1 = .pointer (some ⟨g, 0, none⟩)) (h : VK #[.bool s, .slice A n c, .slice B m d, .bool t, .slice E i e, .slice F j f] (ac.eval z) w) (Z0 : BoxAt 83 w g #[.bool false, .slice none 0 0, .slice none 0 0, .bool false, .slice none 0 0, .slice none 0 0]) :
    ({ dst := none, op := Op.store 83 x1 z, type := y1, pos := pos, after := af, guard := none } : Oper).wp Tryz.prog ac w (fun a'' w'' => a'' = ac ∧ Only g w w'' ∧ ∃ cs', BoxAt 83 w'' g cs' ∧ (fun cs _ => cs = #[.bool s, .slice A n c, .slice B m d, .bool t, .slice E i e, .slice F j f]) cs' w'') Q := by
  have Z : B6 w g (.bool false) (.slice none 0 0) (.slice none 0 0) (.bool false) (.slice none 0 0) (.slice none 0 0) := Z0.at_
  unfold Oper.wp
  rw [run_store6 p1 h Z, Oper.upon_skip]
  have ho := ((((((Only.refl g w).setCell 0 (.bool s)).setCell 1 (.slice A n c)).setCell 2 (.slice B m d)).setCell 3 (.bool t)).setCell 4 (.slice E i e)).setCell 5 (.slice F j f)
  exact ⟨put_none ac undef, ho, _, ⟨Z.set6 _ _ _ _ _ _, free6 _ _ _ _ _ _ _ _ _ _ _ _ _ _⟩, rfl⟩
def F_near (s_p : Bool) (t_p : Bool) (A_p : Option Addr) (B_p : Option Addr) (E_p : Option Addr) (F_p : Option Addr) (n_p : Nat) (c_p : Nat) (m_p : Nat) (d_p : Nat) (i_p : Nat) (e_p : Nat) (j_p : Nat) (f_p : Nat) (s_q : Bool) (t_q : Bool) (A_q : Option Addr) (B_q : Option Addr) (E_q : Option Addr) (F_q : Option Addr) (n_q : Nat) (c_q : Nat) (m_q : Nat) (d_q : Nat) (i_q : Nat) (e_q : Nat) (j_q : Nat) (f_q : Nat) (s_r : Bool) (t_r : Bool) (A_r : Option Addr) (B_r : Option Addr) (E_r : Option Addr) (F_r : Option Addr) (n_r : Nat) (c_r : Nat) (m_r : Nat) (d_r : Nat) (i_r : Nat) (e_r : Nat) (j_r : Nat) (f_r : Nat) (gp : Nat) (sl : Nat) : Value → World → Prop :=
  match sl with
  | 11 => fun x _ => x = Value.pointer (some ⟨gp, 0, none⟩)
  | 12 => VK (#[.bool s_p, .slice A_p n_p c_p, .slice B_p m_p d_p, .bool t_p, .slice E_p i_p e_p, .slice F_p j_p f_p])
  | 13 => fun x _ => x = Value.pointer (some ⟨gp, 6, none⟩)
  | 14 => VK (#[.bool s_q, .slice A_q n_q c_q, .slice B_q m_q d_q, .bool t_q, .slice E_q i_q e_q, .slice F_q j_q f_q])
  | 15 => fun x _ => x = Value.pointer (some ⟨gp, 12, none⟩)
  | 16 => VK (#[.bool s_r, .slice A_r n_r c_r, .slice B_r m_r d_r, .bool t_r, .slice E_r i_r e_r, .slice F_r j_r f_r])
  | _ => fun _ _ => True
def B0_near (s_p : Bool) (t_p : Bool) (A_p : Option Addr) (B_p : Option Addr) (E_p : Option Addr) (F_p : Option Addr) (n_p : Nat) (c_p : Nat) (m_p : Nat) (d_p : Nat) (i_p : Nat) (e_p : Nat) (j_p : Nat) (f_p : Nat) : BoxOp :=
  ⟨6, 9, 5, 83, #[.bool false, .slice none 0 0, .slice none 0 0, .bool false, .slice none 0 0, .slice none 0 0], fun cs _ => cs = #[.bool s_p, .slice A_p n_p c_p, .slice B_p m_p d_p, .bool t_p, .slice E_p i_p e_p, .slice F_p j_p f_p]⟩
def B1_near (s_q : Bool) (t_q : Bool) (A_q : Option Addr) (B_q : Option Addr) (E_q : Option Addr) (F_q : Option Addr) (n_q : Nat) (c_q : Nat) (m_q : Nat) (d_q : Nat) (i_q : Nat) (e_q : Nat) (j_q : Nat) (f_q : Nat) : BoxOp :=
  ⟨7, 10, 6, 83, #[.bool false, .slice none 0 0, .slice none 0 0, .bool false, .slice none 0 0, .slice none 0 0], fun cs _ => cs = #[.bool s_q, .slice A_q n_q c_q, .slice B_q m_q d_q, .bool t_q, .slice E_q i_q e_q, .slice F_q j_q f_q]⟩
def B2_near (s_r : Bool) (t_r : Bool) (A_r : Option Addr) (B_r : Option Addr) (E_r : Option Addr) (F_r : Option Addr) (n_r : Nat) (c_r : Nat) (m_r : Nat) (d_r : Nat) (i_r : Nat) (e_r : Nat) (j_r : Nat) (f_r : Nat) : BoxOp :=
  ⟨8, 11, 7, 83, #[.bool false, .slice none 0 0, .slice none 0 0, .bool false, .slice none 0 0, .slice none 0 0], fun cs _ => cs = #[.bool s_r, .slice A_r n_r c_r, .slice B_r m_r d_r, .bool t_r, .slice E_r i_r e_r, .slice F_r j_r f_r]⟩
set_option maxRecDepth 100000 in
set_option maxHeartbeats 4000000 in
theorem near_region {id : Nat} {ac : Act} {w : World} {Q : Exit → Act → World → Prop} {s_p t_p : Bool} {A_p B_p E_p F_p : Option Addr} {n_p c_p m_p d_p i_p e_p j_p f_p : Nat} {s_q t_q : Bool} {A_q B_q E_q F_q : Option Addr} {n_q c_q m_q d_q i_q e_q j_q f_q : Nat} {s_r t_r : Bool} {A_r B_r E_r F_r : Option Addr} {n_r c_r m_r d_r i_r e_r j_r f_r : Nat} {gp : Nat}
    (hsz : 16 < ac.tmps.size) (e2 : ac.eval (.tmp 2) = Value.pointer (some ⟨gp, 0, none⟩)) (XL : BA3 w gp (.bool s_p) (.slice A_p n_p c_p) (.slice B_p m_p d_p) (.bool t_p) (.slice E_p i_p e_p) (.slice F_p j_p f_p) (.bool s_q) (.slice A_q n_q c_q) (.slice B_q m_q d_q) (.bool t_q) (.slice E_q i_q e_q) (.slice F_q j_q f_q) (.bool s_r) (.slice A_r n_r c_r) (.slice B_r m_r d_r) (.bool t_r) (.slice E_r i_r e_r) (.slice F_r j_r f_r)) 
    (hend : ∀ (V : Nat → Value) (w' : World) (g0 : Nat) (g1 : Nat) (g2 : Nat), B6 w' g0 (.bool s_p) (.slice A_p n_p c_p) (.slice B_p m_p d_p) (.bool t_p) (.slice E_p i_p e_p) (.slice F_p j_p f_p) → w.heap.size ≤ g0 → V 5 = .pointer (some ⟨g0, 0, none⟩) → B6 w' g1 (.bool s_q) (.slice A_q n_q c_q) (.slice B_q m_q d_q) (.bool t_q) (.slice E_q i_q e_q) (.slice F_q j_q f_q) → w.heap.size ≤ g1 → V 6 = .pointer (some ⟨g1, 0, none⟩) → B6 w' g2 (.bool s_r) (.slice A_r n_r c_r) (.slice B_r m_r d_r) (.bool t_r) (.slice E_r i_r e_r) (.slice F_r j_r f_r) → w.heap.size ≤ g2 → V 7 = .pointer (some ⟨g2, 0, none⟩) → g1 ≠ g0 → g2 ≠ g0 → g2 ≠ g1 → Below w.heap.size w w' → Q .normal (putAll ac [11, 12, 13, 14, 15, 16, 5, 6, 7] V) w') :
    (Code.region id #[{ dst := some 11, op := Op.indexAddr 109 (Operand.tmp 2) (Operand.const (Value.int IntKind.i64 0)), type := 0, pos := "law.go:62", after := #[], guard := none },
      { dst := some 12, op := Op.load 83 (Operand.tmp 11), type := 83, pos := "law.go:62", after := #[{ on := 0, ground := Ground.data }], guard := none },
      { dst := some 13, op := Op.indexAddr 109 (Operand.tmp 2) (Operand.const (Value.int IntKind.i64 1)), type := 0, pos := "law.go:62", after := #[{ on := 9, ground := Ground.gcOnly Departure.lateStores }], guard := none },
      { dst := some 14, op := Op.load 83 (Operand.tmp 13), type := 83, pos := "law.go:62", after := #[{ on := 2, ground := Ground.data }, { on := 9, ground := Ground.gcOnly Departure.lateStores }], guard := none },
      { dst := some 15, op := Op.indexAddr 109 (Operand.tmp 2) (Operand.const (Value.int IntKind.i64 2)), type := 0, pos := "law.go:62", after := #[{ on := 10, ground := Ground.gcOnly Departure.lateStores }], guard := none },
      { dst := some 16, op := Op.load 83 (Operand.tmp 15), type := 83, pos := "law.go:62", after := #[{ on := 4, ground := Ground.data }, { on := 10, ground := Ground.gcOnly Departure.lateStores }], guard := none },
      { dst := some 5, op := Op.alloc 83, type := 0, pos := "law.go:62", after := #[], guard := none },
      { dst := some 6, op := Op.alloc 83, type := 0, pos := "law.go:62", after := #[], guard := none },
      { dst := some 7, op := Op.alloc 83, type := 0, pos := "law.go:62", after := #[], guard := none },
      { dst := none, op := Op.store 83 (Operand.tmp 5) (Operand.tmp 12), type := 0, pos := "law.go:62", after := #[{ on := 6, ground := Ground.data }, { on := 1, ground := Ground.data }, { on := 0, ground := Ground.phase }, { on := 1, ground := Ground.phase }, { on := 2, ground := Ground.textOnly Departure.lateStores }, { on := 3, ground := Ground.textOnly Departure.lateStores }, { on := 4, ground := Ground.textOnly Departure.lateStores }, { on := 5, ground := Ground.textOnly Departure.lateStores }, { on := 6, ground := Ground.phase }, { on := 7, ground := Ground.phase }, { on := 8, ground := Ground.phase }], guard := none },
      { dst := none, op := Op.store 83 (Operand.tmp 6) (Operand.tmp 14), type := 0, pos := "law.go:62", after := #[{ on := 7, ground := Ground.data }, { on := 3, ground := Ground.data }, { on := 9, ground := Ground.chain }, { on := 0, ground := Ground.phase }, { on := 1, ground := Ground.phase }, { on := 2, ground := Ground.phase }, { on := 3, ground := Ground.phase }, { on := 4, ground := Ground.textOnly Departure.lateStores }, { on := 5, ground := Ground.textOnly Departure.lateStores }, { on := 6, ground := Ground.phase }, { on := 7, ground := Ground.phase }, { on := 8, ground := Ground.phase }, { on := 9, ground := Ground.phase }], guard := none },
      { dst := none, op := Op.store 83 (Operand.tmp 7) (Operand.tmp 16), type := 0, pos := "law.go:62", after := #[{ on := 8, ground := Ground.data }, { on := 5, ground := Ground.data }, { on := 10, ground := Ground.chain }, { on := 0, ground := Ground.phase }, { on := 1, ground := Ground.phase }, { on := 2, ground := Ground.phase }, { on := 3, ground := Ground.phase }, { on := 4, ground := Ground.phase }, { on := 5, ground := Ground.phase }, { on := 6, ground := Ground.phase }, { on := 7, ground := Ground.phase }, { on := 8, ground := Ground.phase }, { on := 9, ground := Ground.phase }, { on := 10, ground := Ground.phase }], guard := none }] true).wp Tryz.prog Q ac w := by
  have hnd : ([11, 12, 13, 14, 15, 16, 5, 6, 7] : List Nat).Nodup := by decide
  have G : ∀ (sv : Nat → Value) (t : Nat), t ∈ ([11, 12, 13, 14, 15, 16, 5, 6, 7] : List Nat) → t ≤ 16 → (putAll ac [11, 12, 13, 14, 15, 16, 5, 6, 7] sv).eval (.tmp t) = sv t := fun sv t ht h => eval_putAll_mem (t := t) [11, 12, 13, 14, 15, 16, 5, 6, 7] ac hnd ht (Nat.lt_of_le_of_lt h hsz)
  have E2 : ∀ sv : Nat → Value, (putAll ac [11, 12, 13, 14, 15, 16, 5, 6, 7] sv).eval (.tmp 2) = Value.pointer (some ⟨gp, 0, none⟩) := fun sv => (eval_putAll_not (v := sv) [11, 12, 13, 14, 15, 16, 5, 6, 7] ac (show 2 ∉ _ by decide)).trans e2
  have NE : ∀ t : Nat, (t ≠ 5 ∧ t ≠ 6 ∧ t ≠ 7) → ∀ p ∈ [B0_near s_p t_p A_p B_p E_p F_p n_p c_p m_p d_p i_p e_p j_p f_p, B1_near s_q t_q A_q B_q E_q F_q n_q c_q m_q d_q i_q e_q j_q f_q, B2_near s_r t_r A_r B_r E_r F_r n_r c_r m_r d_r i_r e_r j_r f_r], t ≠ p.tA := by
    intro t ht p hp
    simp only [List.mem_cons, List.not_mem_nil, or_false] at hp
    rcases hp with rfl | rfl | rfl
    · exact ht.1
    · exact ht.2.1
    · exact ht.2.2
  refine wp_region_flows [11, 12, 13, 14, 15, 16, 5, 6, 7] [B0_near s_p t_p A_p B_p E_p F_p n_p c_p m_p d_p i_p e_p j_p f_p, B1_near s_q t_q A_q B_q E_q F_q n_q c_q m_q d_q i_q e_q j_q f_q, B2_near s_r t_r A_r B_r E_r F_r n_r c_r m_r d_r i_r e_r j_r f_r] (F_near s_p t_p A_p B_p E_p F_p n_p c_p m_p d_p i_p e_p j_p f_p s_q t_q A_q B_q E_q F_q n_q c_q m_q d_q i_q e_q j_q f_q s_r t_r A_r B_r E_r F_r n_r c_r m_r d_r i_r e_r j_r f_r gp) (by kernel_rfl) (by kernel_rfl) rfl hnd ?_ ?_ ?_ ?_ ?_ ?_ ?_ ?_
  · intro p hp
    simp only [List.mem_cons, List.not_mem_nil, or_false] at hp
    rcases hp with rfl | rfl | rfl
    · refine ⟨⟨{ dst := some 5, op := Op.alloc 83, type := 0, pos := "law.go:62", after := #[], guard := none }, rfl, rfl, rfl, fun e w' => run_alloc6⟩, ⟨{ dst := none, op := Op.store 83 (Operand.tmp 5) (Operand.tmp 12), type := 0, pos := "law.go:62", after := #[{ on := 6, ground := Ground.data }, { on := 1, ground := Ground.data }, { on := 0, ground := Ground.phase }, { on := 1, ground := Ground.phase }, { on := 2, ground := Ground.textOnly Departure.lateStores }, { on := 3, ground := Ground.textOnly Departure.lateStores }, { on := 4, ground := Ground.textOnly Departure.lateStores }, { on := 5, ground := Ground.textOnly Departure.lateStores }, { on := 6, ground := Ground.phase }, { on := 7, ground := Ground.phase }, { on := 8, ground := Ground.phase }], guard := none }, rfl, rfl, rfl, { on := 6, ground := Ground.data }, by simp, rfl, rfl⟩, free6 _ _ _ _ _ _ _ _ _ _ _ _ _ _, ?_, ?_⟩
      · rintro cs w1 w2 rfl hb; rfl
      · rintro T cs w1 w2 g c0 rfl hB ho; rfl
    · refine ⟨⟨{ dst := some 6, op := Op.alloc 83, type := 0, pos := "law.go:62", after := #[], guard := none }, rfl, rfl, rfl, fun e w' => run_alloc6⟩, ⟨{ dst := none, op := Op.store 83 (Operand.tmp 6) (Operand.tmp 14), type := 0, pos := "law.go:62", after := #[{ on := 7, ground := Ground.data }, { on := 3, ground := Ground.data }, { on := 9, ground := Ground.chain }, { on := 0, ground := Ground.phase }, { on := 1, ground := Ground.phase }, { on := 2, ground := Ground.phase }, { on := 3, ground := Ground.phase }, { on := 4, ground := Ground.textOnly Departure.lateStores }, { on := 5, ground := Ground.textOnly Departure.lateStores }, { on := 6, ground := Ground.phase }, { on := 7, ground := Ground.phase }, { on := 8, ground := Ground.phase }, { on := 9, ground := Ground.phase }], guard := none }, rfl, rfl, rfl, { on := 7, ground := Ground.data }, by simp, rfl, rfl⟩, free6 _ _ _ _ _ _ _ _ _ _ _ _ _ _, ?_, ?_⟩
      · rintro cs w1 w2 rfl hb; rfl
      · rintro T cs w1 w2 g c0 rfl hB ho; rfl
    · refine ⟨⟨{ dst := some 7, op := Op.alloc 83, type := 0, pos := "law.go:62", after := #[], guard := none }, rfl, rfl, rfl, fun e w' => run_alloc6⟩, ⟨{ dst := none, op := Op.store 83 (Operand.tmp 7) (Operand.tmp 16), type := 0, pos := "law.go:62", after := #[{ on := 8, ground := Ground.data }, { on := 5, ground := Ground.data }, { on := 10, ground := Ground.chain }, { on := 0, ground := Ground.phase }, { on := 1, ground := Ground.phase }, { on := 2, ground := Ground.phase }, { on := 3, ground := Ground.phase }, { on := 4, ground := Ground.phase }, { on := 5, ground := Ground.phase }, { on := 6, ground := Ground.phase }, { on := 7, ground := Ground.phase }, { on := 8, ground := Ground.phase }, { on := 9, ground := Ground.phase }, { on := 10, ground := Ground.phase }], guard := none }, rfl, rfl, rfl, { on := 8, ground := Ground.data }, by simp, rfl, rfl⟩, free6 _ _ _ _ _ _ _ _ _ _ _ _ _ _, ?_, ?_⟩
      · rintro cs w1 w2 rfl hb; rfl
      · rintro T cs w1 w2 g c0 rfl hB ho; rfl
  · intro p hp q hq h
    simp only [List.mem_cons, List.not_mem_nil, or_false] at hp hq
    rcases hp with rfl | rfl | rfl <;> rcases hq with rfl | rfl | rfl
    · rfl
    · exact absurd (show (5 : Nat) = 6 from h) (by decide)
    · exact absurd (show (5 : Nat) = 7 from h) (by decide)
    · exact absurd (show (6 : Nat) = 5 from h) (by decide)
    · rfl
    · exact absurd (show (6 : Nat) = 7 from h) (by decide)
    · exact absurd (show (7 : Nat) = 5 from h) (by decide)
    · exact absurd (show (7 : Nat) = 6 from h) (by decide)
    · rfl
  · intro p hp q hq h
    simp only [List.mem_cons, List.not_mem_nil, or_false] at hp hq
    rcases hp with rfl | rfl | rfl <;> rcases hq with rfl | rfl | rfl
    · rfl
    · exact absurd (show (9 : Nat) = 10 from h) (by decide)
    · exact absurd (show (9 : Nat) = 11 from h) (by decide)
    · exact absurd (show (10 : Nat) = 9 from h) (by decide)
    · rfl
    · exact absurd (show (10 : Nat) = 11 from h) (by decide)
    · exact absurd (show (11 : Nat) = 9 from h) (by decide)
    · exact absurd (show (11 : Nat) = 10 from h) (by decide)
    · rfl
  · intro i o h1 h2
    match i, h1 with
    | 0, h1 => cases h1; cases h2
    | 1, h1 => cases h1; cases h2
    | 2, h1 => cases h1; cases h2
    | 3, h1 => cases h1; cases h2
    | 4, h1 => cases h1; cases h2
    | 5, h1 => cases h1; cases h2
    | 6, h1 => cases h1; cases h2
    | 7, h1 => cases h1; cases h2
    | 8, h1 => cases h1; cases h2
    | 9, h1 => exact ⟨B0_near s_p t_p A_p B_p E_p F_p n_p c_p m_p d_p i_p e_p j_p f_p, List.Mem.head _, rfl⟩
    | 10, h1 => exact ⟨B1_near s_q t_q A_q B_q E_q F_q n_q c_q m_q d_q i_q e_q j_q f_q, List.Mem.tail _ (List.Mem.head _), rfl⟩
    | 11, h1 => exact ⟨B2_near s_r t_r A_r B_r E_r F_r n_r c_r m_r d_r i_r e_r j_r f_r, List.Mem.tail _ (List.Mem.tail _ (List.Mem.head _)), rfl⟩
    | i + 12, h1 => cases h1
  · intro t
    unfold F_near
    split <;> first | exact stays_eq _ | exact stays_q _ _ | exact stays_z _ _ | exact stays_r _ _ | exact stays_rq _ _ | exact stays_pg _ _ _ | exact stays_k _ | exact stays_true
  · intro i o t sv w' ho hia hd J0 hf
    have XL := XL.below J0
    match i, ho with
    | 0, ho =>
      obtain rfl : { dst := some 11, op := Op.indexAddr 109 (Operand.tmp 2) (Operand.const (Value.int IntKind.i64 0)), type := 0, pos := "law.go:62", after := #[], guard := none } = o := Option.some.inj ho
      cases hd
      refine wpOp_plain' (o := { dst := some 11, op := Op.indexAddr 109 (Operand.tmp 2) (Operand.const (Value.int IntKind.i64 0)), type := 0, pos := "law.go:62", after := #[], guard := none }) rfl rfl ?_
      unfold Oper.wp
      rw [run_ia0 (E2 sv) rfl, Oper.upon_value]
      exact ⟨_, rfl, Below.refl _ _, rfl⟩
    | 1, ho =>
      obtain rfl : { dst := some 12, op := Op.load 83 (Operand.tmp 11), type := 83, pos := "law.go:62", after := #[{ on := 0, ground := Ground.data }], guard := none } = o := Option.some.inj ho
      cases hd
      have f11 : sv 11 = Value.pointer (some ⟨gp, 0, none⟩) := hf { on := 0, ground := Ground.data } (by simp) rfl _ 11 rfl rfl (NE _ (by decide))
      refine wpOp_plain' (o := { dst := some 12, op := Op.load 83 (Operand.tmp 11), type := 83, pos := "law.go:62", after := #[{ on := 0, ground := Ground.data }], guard := none }) rfl rfl ?_
      unfold Oper.wp
      rw [run_loadA0 ((G sv 11 (by decide) (by decide)).trans f11) XL, Oper.upon_value]
      exact ⟨_, rfl, Below.refl _ _, rfl⟩
    | 2, ho =>
      obtain rfl : { dst := some 13, op := Op.indexAddr 109 (Operand.tmp 2) (Operand.const (Value.int IntKind.i64 1)), type := 0, pos := "law.go:62", after := #[{ on := 9, ground := Ground.gcOnly Departure.lateStores }], guard := none } = o := Option.some.inj ho
      cases hd
      refine wpOp_plain' (o := { dst := some 13, op := Op.indexAddr 109 (Operand.tmp 2) (Operand.const (Value.int IntKind.i64 1)), type := 0, pos := "law.go:62", after := #[{ on := 9, ground := Ground.gcOnly Departure.lateStores }], guard := none }) rfl rfl ?_
      unfold Oper.wp
      rw [run_ia1 (E2 sv) rfl, Oper.upon_value]
      exact ⟨_, rfl, Below.refl _ _, rfl⟩
    | 3, ho =>
      obtain rfl : { dst := some 14, op := Op.load 83 (Operand.tmp 13), type := 83, pos := "law.go:62", after := #[{ on := 2, ground := Ground.data }, { on := 9, ground := Ground.gcOnly Departure.lateStores }], guard := none } = o := Option.some.inj ho
      cases hd
      have f13 : sv 13 = Value.pointer (some ⟨gp, 6, none⟩) := hf { on := 2, ground := Ground.data } (by simp) rfl _ 13 rfl rfl (NE _ (by decide))
      refine wpOp_plain' (o := { dst := some 14, op := Op.load 83 (Operand.tmp 13), type := 83, pos := "law.go:62", after := #[{ on := 2, ground := Ground.data }, { on := 9, ground := Ground.gcOnly Departure.lateStores }], guard := none }) rfl rfl ?_
      unfold Oper.wp
      rw [run_loadA1 ((G sv 13 (by decide) (by decide)).trans f13) XL, Oper.upon_value]
      exact ⟨_, rfl, Below.refl _ _, rfl⟩
    | 4, ho =>
      obtain rfl : { dst := some 15, op := Op.indexAddr 109 (Operand.tmp 2) (Operand.const (Value.int IntKind.i64 2)), type := 0, pos := "law.go:62", after := #[{ on := 10, ground := Ground.gcOnly Departure.lateStores }], guard := none } = o := Option.some.inj ho
      cases hd
      refine wpOp_plain' (o := { dst := some 15, op := Op.indexAddr 109 (Operand.tmp 2) (Operand.const (Value.int IntKind.i64 2)), type := 0, pos := "law.go:62", after := #[{ on := 10, ground := Ground.gcOnly Departure.lateStores }], guard := none }) rfl rfl ?_
      unfold Oper.wp
      rw [run_ia2 (E2 sv) rfl, Oper.upon_value]
      exact ⟨_, rfl, Below.refl _ _, rfl⟩
    | 5, ho =>
      obtain rfl : { dst := some 16, op := Op.load 83 (Operand.tmp 15), type := 83, pos := "law.go:62", after := #[{ on := 4, ground := Ground.data }, { on := 10, ground := Ground.gcOnly Departure.lateStores }], guard := none } = o := Option.some.inj ho
      cases hd
      have f15 : sv 15 = Value.pointer (some ⟨gp, 12, none⟩) := hf { on := 4, ground := Ground.data } (by simp) rfl _ 15 rfl rfl (NE _ (by decide))
      refine wpOp_plain' (o := { dst := some 16, op := Op.load 83 (Operand.tmp 15), type := 83, pos := "law.go:62", after := #[{ on := 4, ground := Ground.data }, { on := 10, ground := Ground.gcOnly Departure.lateStores }], guard := none }) rfl rfl ?_
      unfold Oper.wp
      rw [run_loadA2 ((G sv 15 (by decide) (by decide)).trans f15) XL, Oper.upon_value]
      exact ⟨_, rfl, Below.refl _ _, rfl⟩
    | 6, ho => cases ho; cases hd; exact absurd rfl (hia (B0_near s_p t_p A_p B_p E_p F_p n_p c_p m_p d_p i_p e_p j_p f_p) (List.Mem.head _))
    | 7, ho => cases ho; cases hd; exact absurd rfl (hia (B1_near s_q t_q A_q B_q E_q F_q n_q c_q m_q d_q i_q e_q j_q f_q) (List.Mem.tail _ (List.Mem.head _)))
    | 8, ho => cases ho; cases hd; exact absurd rfl (hia (B2_near s_r t_r A_r B_r E_r F_r n_r c_r m_r d_r i_r e_r j_r f_r) (List.Mem.tail _ (List.Mem.tail _ (List.Mem.head _))))
    | 9, ho => cases ho; cases hd
    | 10, ho => cases ho; cases hd
    | 11, ho => cases ho; cases hd
    | i + 12, ho => cases ho
  · intro p hp os sv w' g hos J0 p1 p3 hf
    simp only [List.mem_cons, List.not_mem_nil, or_false] at hp
    rcases hp with rfl | rfl | rfl
    · obtain rfl : { dst := none, op := Op.store 83 (Operand.tmp 5) (Operand.tmp 12), type := 0, pos := "law.go:62", after := #[{ on := 6, ground := Ground.data }, { on := 1, ground := Ground.data }, { on := 0, ground := Ground.phase }, { on := 1, ground := Ground.phase }, { on := 2, ground := Ground.textOnly Departure.lateStores }, { on := 3, ground := Ground.textOnly Departure.lateStores }, { on := 4, ground := Ground.textOnly Departure.lateStores }, { on := 5, ground := Ground.textOnly Departure.lateStores }, { on := 6, ground := Ground.phase }, { on := 7, ground := Ground.phase }, { on := 8, ground := Ground.phase }], guard := none } = os := Option.some.inj hos
      have h1 : VK (#[.bool s_p, .slice A_p n_p c_p, .slice B_p m_p d_p, .bool t_p, .slice E_p i_p e_p, .slice F_p j_p f_p]) (sv 12) w' := hf { on := 1, ground := Ground.data } (by simp) rfl _ 12 rfl rfl (NE _ (by decide))
      rw [← G sv 12 (by decide) (by decide)] at h1
      refine store_k  (ac := putAll ac [11, 12, 13, 14, 15, 16, 5, 6, 7] sv) (z := Operand.tmp 12) ?_ ?_ ?_
      · exact (G sv 5 (by decide) (by decide)).trans p1
      · exact h1
      · exact p3
    · obtain rfl : { dst := none, op := Op.store 83 (Operand.tmp 6) (Operand.tmp 14), type := 0, pos := "law.go:62", after := #[{ on := 7, ground := Ground.data }, { on := 3, ground := Ground.data }, { on := 9, ground := Ground.chain }, { on := 0, ground := Ground.phase }, { on := 1, ground := Ground.phase }, { on := 2, ground := Ground.phase }, { on := 3, ground := Ground.phase }, { on := 4, ground := Ground.textOnly Departure.lateStores }, { on := 5, ground := Ground.textOnly Departure.lateStores }, { on := 6, ground := Ground.phase }, { on := 7, ground := Ground.phase }, { on := 8, ground := Ground.phase }, { on := 9, ground := Ground.phase }], guard := none } = os := Option.some.inj hos
      have h1 : VK (#[.bool s_q, .slice A_q n_q c_q, .slice B_q m_q d_q, .bool t_q, .slice E_q i_q e_q, .slice F_q j_q f_q]) (sv 14) w' := hf { on := 3, ground := Ground.data } (by simp) rfl _ 14 rfl rfl (NE _ (by decide))
      rw [← G sv 14 (by decide) (by decide)] at h1
      refine store_k  (ac := putAll ac [11, 12, 13, 14, 15, 16, 5, 6, 7] sv) (z := Operand.tmp 14) ?_ ?_ ?_
      · exact (G sv 6 (by decide) (by decide)).trans p1
      · exact h1
      · exact p3
    · obtain rfl : { dst := none, op := Op.store 83 (Operand.tmp 7) (Operand.tmp 16), type := 0, pos := "law.go:62", after := #[{ on := 8, ground := Ground.data }, { on := 5, ground := Ground.data }, { on := 10, ground := Ground.chain }, { on := 0, ground := Ground.phase }, { on := 1, ground := Ground.phase }, { on := 2, ground := Ground.phase }, { on := 3, ground := Ground.phase }, { on := 4, ground := Ground.phase }, { on := 5, ground := Ground.phase }, { on := 6, ground := Ground.phase }, { on := 7, ground := Ground.phase }, { on := 8, ground := Ground.phase }, { on := 9, ground := Ground.phase }, { on := 10, ground := Ground.phase }], guard := none } = os := Option.some.inj hos
      have h1 : VK (#[.bool s_r, .slice A_r n_r c_r, .slice B_r m_r d_r, .bool t_r, .slice E_r i_r e_r, .slice F_r j_r f_r]) (sv 16) w' := hf { on := 5, ground := Ground.data } (by simp) rfl _ 16 rfl rfl (NE _ (by decide))
      rw [← G sv 16 (by decide) (by decide)] at h1
      refine store_k  (ac := putAll ac [11, 12, 13, 14, 15, 16, 5, 6, 7] sv) (z := Operand.tmp 16) ?_ ?_ ?_
      · exact (G sv 7 (by decide) (by decide)).trans p1
      · exact h1
      · exact p3
  · intro sv w' J0 hF hB hap
    obtain ⟨g0, cs0, p0, r0, b0, rfl⟩ := hB (B0_near s_p t_p A_p B_p E_p F_p n_p c_p m_p d_p i_p e_p j_p f_p) (List.Mem.head _)
    obtain ⟨g1, cs1, p1, r1, b1, rfl⟩ := hB (B1_near s_q t_q A_q B_q E_q F_q n_q c_q m_q d_q i_q e_q j_q f_q) (List.Mem.tail _ (List.Mem.head _))
    obtain ⟨g2, cs2, p2, r2, b2, rfl⟩ := hB (B2_near s_r t_r A_r B_r E_r F_r n_r c_r m_r d_r i_r e_r j_r f_r) (List.Mem.tail _ (List.Mem.tail _ (List.Mem.head _)))
    have p0' : sv 5 = .pointer (some ⟨g0, 0, none⟩) := p0
    have p1' : sv 6 = .pointer (some ⟨g1, 0, none⟩) := p1
    have p2' : sv 7 = .pointer (some ⟨g2, 0, none⟩) := p2
    exact hend sv w' g0 g1 g2 b0.at_ r0 p0' b1.at_ r1 p1' b2.at_ r2 p2' (fun q => hap (B1_near s_q t_q A_q B_q E_q F_q n_q c_q m_q d_q i_q e_q j_q f_q) (List.Mem.tail _ (List.Mem.head _)) (B0_near s_p t_p A_p B_p E_p F_p n_p c_p m_p d_p i_p e_p j_p f_p) (List.Mem.head _) (show (6 : Nat) ≠ 5 by decide) (by rw [show (B1_near s_q t_q A_q B_q E_q F_q n_q c_q m_q d_q i_q e_q j_q f_q).tA = 6 from rfl, show (B0_near s_p t_p A_p B_p E_p F_p n_p c_p m_p d_p i_p e_p j_p f_p).tA = 5 from rfl, p1', p0', q])) (fun q => hap (B2_near s_r t_r A_r B_r E_r F_r n_r c_r m_r d_r i_r e_r j_r f_r) (List.Mem.tail _ (List.Mem.tail _ (List.Mem.head _))) (B0_near s_p t_p A_p B_p E_p F_p n_p c_p m_p d_p i_p e_p j_p f_p) (List.Mem.head _) (show (7 : Nat) ≠ 5 by decide) (by rw [show (B2_near s_r t_r A_r B_r E_r F_r n_r c_r m_r d_r i_r e_r j_r f_r).tA = 7 from rfl, show (B0_near s_p t_p A_p B_p E_p F_p n_p c_p m_p d_p i_p e_p j_p f_p).tA = 5 from rfl, p2', p0', q])) (fun q => hap (B2_near s_r t_r A_r B_r E_r F_r n_r c_r m_r d_r i_r e_r j_r f_r) (List.Mem.tail _ (List.Mem.tail _ (List.Mem.head _))) (B1_near s_q t_q A_q B_q E_q F_q n_q c_q m_q d_q i_q e_q j_q f_q) (List.Mem.tail _ (List.Mem.head _)) (show (7 : Nat) ≠ 6 by decide) (by rw [show (B2_near s_r t_r A_r B_r E_r F_r n_r c_r m_r d_r i_r e_r j_r f_r).tA = 7 from rfl, show (B1_near s_q t_q A_q B_q E_q F_q n_q c_q m_q d_q i_q e_q j_q f_q).tA = 6 from rfl, p2', p1', q]))  J0
set_option maxRecDepth 100000 in
set_option maxHeartbeats 4000000 in
theorem near_l {w : World} {s_p t_p : Bool} {A_p B_p E_p F_p : Option Addr} {n_p c_p m_p d_p i_p e_p j_p f_p : Nat} {s_q t_q : Bool} {A_q B_q E_q F_q : Option Addr} {n_q c_q m_q d_q i_q e_q j_q f_q : Nat} {s_r t_r : Bool} {A_r B_r E_r F_r : Option Addr} {n_r c_r m_r d_r i_r e_r j_r f_r : Nat} (t : Nat) (h : ¬ (((n_p ≤ 6 ∧ m_p ≤ 6) ∧ i_p ≤ 6 ∧ j_p ≤ 6) ∧ ((n_q ≤ 6 ∧ m_q ≤ 6) ∧ i_q ≤ 6 ∧ j_q ≤ 6) ∧ ((n_r ≤ 6 ∧ m_r ≤ 6) ∧ i_r ≤ 6 ∧ j_r ≤ 6))) :
    Calls Tryz.prog 12 #[.agg #[.bool s_p, .slice A_p n_p c_p, .slice B_p m_p d_p, .bool t_p, .slice E_p i_p e_p, .slice F_p j_p f_p, .bool s_q, .slice A_q n_q c_q, .slice B_q m_q d_q, .bool t_q, .slice E_q i_q e_q, .slice F_q j_q f_q, .bool s_r, .slice A_r n_r c_r, .slice B_r m_r d_r, .bool t_r, .slice E_r i_r e_r, .slice F_r j_r f_r], .int .u8 (t : Int)] w fun e w' => e = .returned (.bool true) ∧ Below w.heap.size w w' := by
  have HL : Hid (decide (((n_p ≤ 6 ∧ m_p ≤ 6) ∧ i_p ≤ 6 ∧ j_p ≤ 6) ∧ ((n_q ≤ 6 ∧ m_q ≤ 6) ∧ i_q ≤ 6 ∧ j_q ≤ 6) ∧ ((n_r ≤ 6 ∧ m_r ≤ 6) ∧ i_r ≤ 6 ∧ j_r ≤ 6)) = false) := decide_eq_false h
  clear h
  go_enter Tryz.func12, Tryz.ntmps12
  go_upto_region 1 with (fail)
  generalize hW : (w.alloc (Obj.cells #[Value.bool s_p, Value.slice A_p n_p c_p, Value.slice B_p m_p d_p, Value.bool t_p, Value.slice E_p i_p e_p, Value.slice F_p j_p f_p, Value.bool s_q, Value.slice A_q n_q c_q, Value.slice B_q m_q d_q, Value.bool t_q, Value.slice E_q i_q e_q, Value.slice F_q j_q f_q, Value.bool s_r, Value.slice A_r n_r c_r, Value.slice B_r m_r d_r, Value.bool t_r, Value.slice E_r i_r e_r, Value.slice F_r j_r f_r] 109)) = W
  have hb : Below w.heap.size w W := by subst hW; exact ((Below.refl _ _).alloc (Nat.le_refl _) _)
  have XL0 : BA3 W (w.heap.size) (Value.bool s_p) (Value.slice A_p n_p c_p) (Value.slice B_p m_p d_p) (Value.bool t_p) (Value.slice E_p i_p e_p) (Value.slice F_p j_p f_p) (Value.bool s_q) (Value.slice A_q n_q c_q) (Value.slice B_q m_q d_q) (Value.bool t_q) (Value.slice E_q i_q e_q) (Value.slice F_q j_q f_q) (Value.bool s_r) (Value.slice A_r n_r c_r) (Value.slice B_r m_r d_r) (Value.bool t_r) (Value.slice E_r i_r e_r) (Value.slice F_r j_r f_r) := by subst hW; exact BA3.new' _ _ _ _ _ _ _ _ _ _ _ _ _ _ _ _ _ _ _ _ rfl
  have hzW : W.heap.size = w.heap.size + 1 := by subst hW; simp
  clear hW
  refine near_region (by simp) rfl XL0 ?_
  intro V w_1 g_a g_b g_c XA hg_a hva XB hg_b hvb XC hg_c hvc hne1 hne2 hne3 hh
  simp only [putAll, Act.put, List.setIfInBounds_toArray, List.set_cons_zero, List.set_cons_succ, hva, hvb, hvc]
  clear hva hvb hvc XL0 hne1 hne2 hne3
  replace hb := bend hb hh
  have xa0 := XA.c0
  have xa1 := XA.c1
  have xa2 := XA.c2
  have xa3 := XA.c3
  have xa4 := XA.c4
  have xa5 := XA.c5
  have xb0 := XB.c0
  have xb1 := XB.c1
  have xb2 := XB.c2
  have xb3 := XB.c3
  have xb4 := XB.c4
  have xb5 := XB.c5
  have xc0 := XC.c0
  have xc1 := XC.c1
  have xc2 := XC.c2
  have xc3 := XC.c3
  have xc4 := XC.c4
  have xc5 := XC.c5
  go_wp2_with fail
  generalize hW : (w_1.alloc (Obj.cells #[Value.bool s_p, Value.slice A_p n_p c_p, Value.slice B_p m_p d_p, Value.bool t_p, Value.slice E_p i_p e_p, Value.slice F_p j_p f_p, Value.bool s_q, Value.slice A_q n_q c_q, Value.slice B_q m_q d_q, Value.bool t_q, Value.slice E_q i_q e_q, Value.slice F_q j_q f_q, Value.bool s_r, Value.slice A_r n_r c_r, Value.slice B_r m_r d_r, Value.bool t_r, Value.slice E_r i_r e_r, Value.slice F_r j_r f_r] 83)) = W2
  have hh : Below w_1.heap.size w_1 W2 := by subst hW; exact ((Below.refl _ _).alloc (Nat.le_refl _) _)
  have XL : BL3 W2 (w_1.heap.size) (Value.bool s_p) (Value.slice A_p n_p c_p) (Value.slice B_p m_p d_p) (Value.bool t_p) (Value.slice E_p i_p e_p) (Value.slice F_p j_p f_p) (Value.bool s_q) (Value.slice A_q n_q c_q) (Value.slice B_q m_q d_q) (Value.bool t_q) (Value.slice E_q i_q e_q) (Value.slice F_q j_q f_q) (Value.bool s_r) (Value.slice A_r n_r c_r) (Value.slice B_r m_r d_r) (Value.bool t_r) (Value.slice E_r i_r e_r) (Value.slice F_r j_r f_r) := by subst hW; exact BL3.new' _ _ _ _ _ _ _ _ _ _ _ _ _ _ _ _ _ _ _ _ rfl
  have hzW2 : W2.heap.size = w_1.heap.size + 1 := by subst hW; simp
  clear hW
  try replace XA := XA.below hh
  try replace XB := XB.below hh
  try replace XC := XC.below hh
  replace hb := bend hb hh
  go_wp2_with (first
      | (go_at_call 66; (with_reducible refine (fair3 XL false HL.out).mono ?_); rintro e w_z ⟨rfl, hh⟩
         clear XL
         try replace XA := XA.below hh
         try replace XB := XB.below hh
         try replace XC := XC.below hh
         replace hb := bend hb hh
         have xa0 := XA.c0
         have xa1 := XA.c1
         have xa2 := XA.c2
         have xa3 := XA.c3
         have xa4 := XA.c4
         have xa5 := XA.c5
         have xb0 := XB.c0
         have xb1 := XB.c1
         have xb2 := XB.c2
         have xb3 := XB.c3
         have xb4 := XB.c4
         have xb5 := XB.c5
         have xc0 := XC.c0
         have xc1 := XC.c1
         have xc2 := XC.c2
         have xc3 := XC.c3
         have xc4 := XC.c4
         have xc5 := XC.c5)
      | (go_at_call 67; (with_reducible refine (pwakes_any _).mono ?_); rintro e w_z ⟨rfl, hh⟩
         replace hb := bend hb hh))
  go_ret
  exact ⟨rfl, hb⟩
theorem tq_range {t : Nat} (ht : t ≤ 255) : 0 ≤ Rat.divInt (t : Int) 255 ∧ Rat.divInt (t : Int) 255 ≤ 1 := by
  have e : Rat.divInt (t : Int) 255 = ((t : Int) : Rat) / ((255 : Int) : Rat) := by rw [Rat.divInt_eq_div]
  have h0 : ((0 : Int) : Rat) ≤ ((t : Int) : Rat) := Rat.intCast_le_intCast.2 (by omega)
  have h1 : ((t : Int) : Rat) ≤ ((255 : Int) : Rat) := Rat.intCast_le_intCast.2 (by omega)
  have h2 : ((255 : Int) : Rat) = 255 := rfl
  have h4 : ((0 : Int) : Rat) = 0 := rfl
  rw [e]
  rw [h2] at h1 ⊢
  rw [h4] at h0
  have h3 : ((t : Int) : Rat) / 255 * 255 = ((t : Int) : Rat) := Rat.div_mul_cancel (by decide)
  constructor <;> grind
set_option maxRecDepth 100000 in
set_option maxHeartbeats 16000000 in
theorem near_z {w : World} {s_p t_p : Bool} {A_p B_p E_p F_p : Option Addr} {n_p c_p m_p d_p i_p e_p j_p f_p : Nat} {s_q t_q : Bool} {A_q B_q E_q F_q : Option Addr} {n_q c_q m_q d_q i_q e_q j_q f_q : Nat} {s_r t_r : Bool} {A_r B_r E_r F_r : Option Addr} {n_r c_r m_r d_r i_r e_r j_r f_r : Nat} (t : Nat) {px py ax ay bx by_ : Rat} (p : PR w s_p A_p n_p c_p B_p m_p d_p t_p E_p i_p e_p F_p j_p f_p px py 6) (q : PR w s_q A_q n_q c_q B_q m_q d_q t_q E_q i_q e_q F_q j_q f_q ax ay 6) (r : PR w s_r A_r n_r c_r B_r m_r d_r t_r E_r i_r e_r F_r j_r f_r bx by_ 6) (h : (((n_p ≤ 6 ∧ m_p ≤ 6) ∧ i_p ≤ 6 ∧ j_p ≤ 6) ∧ ((n_q ≤ 6 ∧ m_q ≤ 6) ∧ i_q ≤ 6 ∧ j_q ≤ 6) ∧ ((n_r ≤ 6 ∧ m_r ≤ 6) ∧ i_r ≤ 6 ∧ j_r ≤ 6))) (ht : t ≤ 255) (hd : segQ px py ax ay bx by_ = 0) :
    Calls Tryz.prog 12 #[.agg #[.bool s_p, .slice A_p n_p c_p, .slice B_p m_p d_p, .bool t_p, .slice E_p i_p e_p, .slice F_p j_p f_p, .bool s_q, .slice A_q n_q c_q, .slice B_q m_q d_q, .bool t_q, .slice E_q i_q e_q, .slice F_q j_q f_q, .bool s_r, .slice A_r n_r c_r, .slice B_r m_r d_r, .bool t_r, .slice E_r i_r e_r, .slice F_r j_r f_r], .int .u8 (t : Int)] w fun e w' => e = .returned (.bool true) ∧ Below w.heap.size w w' := by
  have HL : Hid (decide (((n_p ≤ 6 ∧ m_p ≤ 6) ∧ i_p ≤ 6 ∧ j_p ≤ 6) ∧ ((n_q ≤ 6 ∧ m_q ≤ 6) ∧ i_q ≤ 6 ∧ j_q ≤ 6) ∧ ((n_r ≤ 6 ∧ m_r ≤ 6) ∧ i_r ≤ 6 ∧ j_r ≤ 6)) = true) := decide_eq_true h
  have hti : (t : Int) ≤ 255 := by omega
  have hr := tq_range ht
  obtain ⟨M, hM, hM0⟩ : ∃ M, cmpQ (segQ px py ax ay bx by_) (farQ px py (ax + (bx - ax) * (Rat.divInt (t : Int) 255)) (ay + (by_ - ay) * (Rat.divInt (t : Int) 255))) = M ∧ decide (0 < M) = false := ⟨_, rfl, decide_eq_false (by have := cmpQ_le.2 (seg_near px py ax ay bx by_ (Rat.divInt (t : Int) 255) hr.1 hr.2 rfl rfl); omega)⟩
  have HM := Lib.hid hM
  have HE : Hid (sgnQ (segQ (ax + (bx - ax) * (Rat.divInt (t : Int) 255)) (ay + (by_ - ay) * (Rat.divInt (t : Int) 255)) ax ay bx by_) = 0) := by show _ = _; rw [seg_on ax ay bx by_ (Rat.divInt (t : Int) 255) hr.1 hr.2 rfl rfl]; rfl
  have HB : Hid (cmpQ (segQ px py ax ay bx by_) (segQ px py bx by_ ax ay) = 0) := cmpQ_nul.2 (seg_back px py ax ay bx by_).symm
  have HS : Hid (sgnQ (segQ px py ax ay bx by_) = 0) := by show _ = _; rw [hd]; rfl
  have hz := seg_zero px py ax ay bx by_ hd
  have HO := Lib.hid hz.1
  obtain ⟨T, hT, hT0⟩ : ∃ T, sgnQ ((px - ax) * (px - bx) + (py - ay) * (py - by_)) = T ∧ decide (T ≤ 0) = true := ⟨_, rfl, decide_eq_true (sgn_nonpos.2 hz.2)⟩
  have HT := Lib.hid hT
  clear hz hT
  clear h hd hr hM ht
  go_enter Tryz.func12, Tryz.ntmps12
  go_upto_region 1 with (fail)
  generalize hW : (w.alloc (Obj.cells #[Value.bool s_p, Value.slice A_p n_p c_p, Value.slice B_p m_p d_p, Value.bool t_p, Value.slice E_p i_p e_p, Value.slice F_p j_p f_p, Value.bool s_q, Value.slice A_q n_q c_q, Value.slice B_q m_q d_q, Value.bool t_q, Value.slice E_q i_q e_q, Value.slice F_q j_q f_q, Value.bool s_r, Value.slice A_r n_r c_r, Value.slice B_r m_r d_r, Value.bool t_r, Value.slice E_r i_r e_r, Value.slice F_r j_r f_r] 109)) = W
  have hb : Below w.heap.size w W := by subst hW; exact ((Below.refl _ _).alloc (Nat.le_refl _) _)
  have XL0 : BA3 W (w.heap.size) (Value.bool s_p) (Value.slice A_p n_p c_p) (Value.slice B_p m_p d_p) (Value.bool t_p) (Value.slice E_p i_p e_p) (Value.slice F_p j_p f_p) (Value.bool s_q) (Value.slice A_q n_q c_q) (Value.slice B_q m_q d_q) (Value.bool t_q) (Value.slice E_q i_q e_q) (Value.slice F_q j_q f_q) (Value.bool s_r) (Value.slice A_r n_r c_r) (Value.slice B_r m_r d_r) (Value.bool t_r) (Value.slice E_r i_r e_r) (Value.slice F_r j_r f_r) := by subst hW; exact BA3.new' _ _ _ _ _ _ _ _ _ _ _ _ _ _ _ _ _ _ _ _ rfl
  have hzW : W.heap.size = w.heap.size + 1 := by subst hW; simp
  clear hW
  replace p := p.below hb
  replace q := q.below hb
  replace r := r.below hb
  refine near_region (by simp) rfl XL0 ?_
  intro V w_1 g_a g_b g_c XA hg_a hva XB hg_b hvb XC hg_c hvc hne1 hne2 hne3 hh
  simp only [putAll, Act.put, List.setIfInBounds_toArray, List.set_cons_zero, List.set_cons_succ, hva, hvb, hvc]
  clear hva hvb hvc XL0 hne1 hne2 hne3
  replace p := p.below hh
  replace q := q.below hh
  replace r := r.below hh
  replace hb := bend hb hh
  have xa0 := XA.c0
  have xa1 := XA.c1
  have xa2 := XA.c2
  have xa3 := XA.c3
  have xa4 := XA.c4
  have xa5 := XA.c5
  have xb0 := XB.c0
  have xb1 := XB.c1
  have xb2 := XB.c2
  have xb3 := XB.c3
  have xb4 := XB.c4
  have xb5 := XB.c5
  have xc0 := XC.c0
  have xc1 := XC.c1
  have xc2 := XC.c2
  have xc3 := XC.c3
  have xc4 := XC.c4
  have xc5 := XC.c5
  go_wp2_with fail
  generalize hW : (w_1.alloc (Obj.cells #[Value.bool s_p, Value.slice A_p n_p c_p, Value.slice B_p m_p d_p, Value.bool t_p, Value.slice E_p i_p e_p, Value.slice F_p j_p f_p, Value.bool s_q, Value.slice A_q n_q c_q, Value.slice B_q m_q d_q, Value.bool t_q, Value.slice E_q i_q e_q, Value.slice F_q j_q f_q, Value.bool s_r, Value.slice A_r n_r c_r, Value.slice B_r m_r d_r, Value.bool t_r, Value.slice E_r i_r e_r, Value.slice F_r j_r f_r] 83)) = W2
  have hh : Below w_1.heap.size w_1 W2 := by subst hW; exact ((Below.refl _ _).alloc (Nat.le_refl _) _)
  have XL : BL3 W2 (w_1.heap.size) (Value.bool s_p) (Value.slice A_p n_p c_p) (Value.slice B_p m_p d_p) (Value.bool t_p) (Value.slice E_p i_p e_p) (Value.slice F_p j_p f_p) (Value.bool s_q) (Value.slice A_q n_q c_q) (Value.slice B_q m_q d_q) (Value.bool t_q) (Value.slice E_q i_q e_q) (Value.slice F_q j_q f_q) (Value.bool s_r) (Value.slice A_r n_r c_r) (Value.slice B_r m_r d_r) (Value.bool t_r) (Value.slice E_r i_r e_r) (Value.slice F_r j_r f_r) := by subst hW; exact BL3.new' _ _ _ _ _ _ _ _ _ _ _ _ _ _ _ _ _ _ _ _ rfl
  have hzW2 : W2.heap.size = w_1.heap.size + 1 := by subst hW; simp
  clear hW
  try replace p := p.below hh
  try replace q := q.below hh
  try replace r := r.below hh
  try replace XA := XA.below hh
  try replace XB := XB.below hh
  try replace XC := XC.below hh
  replace hb := bend hb hh
  have xa0 := XA.c0
  have xa1 := XA.c1
  have xa2 := XA.c2
  have xa3 := XA.c3
  have xa4 := XA.c4
  have xa5 := XA.c5
  have xb0 := XB.c0
  have xb1 := XB.c1
  have xb2 := XB.c2
  have xb3 := XB.c3
  have xb4 := XB.c4
  have xb5 := XB.c5
  have xc0 := XC.c0
  have xc1 := XC.c1
  have xc2 := XC.c2
  have xc3 := XC.c3
  have xc4 := XC.c4
  have xc5 := XC.c5
  go_upto_region 5 with (first
      | (go_at_call 66; (with_reducible refine (fair3 XL true HL.out).mono ?_); rintro e w_z ⟨rfl, hh⟩
         clear XL
         try replace p := p.below hh
         try replace q := q.below hh
         try replace r := r.below hh
         try replace XA := XA.below hh
         try replace XB := XB.below hh
         try replace XC := XC.below hh
         replace hb := bend hb hh
         have xa0 := XA.c0
         have xa1 := XA.c1
         have xa2 := XA.c2
         have xa3 := XA.c3
         have xa4 := XA.c4
         have xa5 := XA.c5
         have xb0 := XB.c0
         have xb1 := XB.c1
         have xb2 := XB.c2
         have xb3 := XB.c3
         have xb4 := XB.c4
         have xb5 := XB.c5
         have xc0 := XC.c0
         have xc1 := XC.c1
         have xc2 := XC.c2
         have xc3 := XC.c3
         have xc4 := XC.c4
         have xc5 := XC.c5)
      | (go_at_call 42; (with_reducible refine (rof_q (t : Int) 255 (by omega) (by omega) (by decide) (by decide) (by decide) _).mono ?_); rintro e w_k ⟨s_k, A_k, n_k, c_k, B_k, m_k, d_k, rfl, k, hh⟩
         try replace p := p.below hh
         try replace q := q.below hh
         try replace r := r.below hh
         try replace XA := XA.below hh
         try replace XB := XB.below hh
         try replace XC := XC.below hh
         replace hb := bend hb hh
         have xa0 := XA.c0
         have xa1 := XA.c1
         have xa2 := XA.c2
         have xa3 := XA.c3
         have xa4 := XA.c4
         have xa5 := XA.c5
         have xb0 := XB.c0
         have xb1 := XB.c1
         have xb2 := XB.c2
         have xb3 := XB.c3
         have xb4 := XB.c4
         have xb5 := XB.c5
         have xc0 := XC.c0
         have xc1 := XC.c1
         have xc2 := XC.c2
         have xc3 := XC.c3
         have xc4 := XC.c4
         have xc5 := XC.c5))
  generalize hW : (w_k.alloc (Obj.cells #[Value.bool s_k, Value.slice A_k n_k c_k, Value.slice B_k m_k d_k] 26)) = W3
  have hh : Below w_k.heap.size w_k W3 := by subst hW; exact ((Below.refl _ _).alloc (Nat.le_refl _) _)
  have XK : B3 W3 (w_k.heap.size) (Value.bool s_k) (Value.slice A_k n_k c_k) (Value.slice B_k m_k d_k) := by subst hW; exact B3.new' _ _ _ _ _ rfl
  have hzW3 : W3.heap.size = w_k.heap.size + 1 := by subst hW; simp
  clear hW
  try replace p := p.below hh
  try replace q := q.below hh
  try replace r := r.below hh
  try replace XA := XA.below hh
  try replace XB := XB.below hh
  try replace XC := XC.below hh
  try replace k := k.below hh
  replace hb := bend hb hh
  have xa0 := XA.c0
  have xa1 := XA.c1
  have xa2 := XA.c2
  have xa3 := XA.c3
  have xa4 := XA.c4
  have xa5 := XA.c5
  have xb0 := XB.c0
  have xb1 := XB.c1
  have xb2 := XB.c2
  have xb3 := XB.c3
  have xb4 := XB.c4
  have xb5 := XB.c5
  have xc0 := XC.c0
  have xc1 := XC.c1
  have xc2 := XC.c2
  have xc3 := XC.c3
  have xc4 := XC.c4
  have xc5 := XC.c5
  have xk0 := XK.c0
  have xk1 := XK.c1
  have xk2 := XK.c2
  go_upto_region 6 with (first
      | (go_at_call 79; (with_reducible refine (pmix_p q r k.qr (by decide) (by decide) (by decide) (by decide) (by decide) (by decide)).mono ?_); rintro e w_o ⟨s_o, A_o, n_o, c_o, B_o, m_o, d_o, t_o, E_o, i_o, e_o, F_o, j_o, f_o, rfl, o, hh⟩
         try replace p := p.below hh
         try replace q := q.below hh
         try replace r := r.below hh
         try replace XA := XA.below hh
         try replace XB := XB.below hh
         try replace XC := XC.below hh
         try replace k := k.below hh
         try replace XK := XK.below hh
         replace hb := bend hb hh
         have xa0 := XA.c0
         have xa1 := XA.c1
         have xa2 := XA.c2
         have xa3 := XA.c3
         have xa4 := XA.c4
         have xa5 := XA.c5
         have xb0 := XB.c0
         have xb1 := XB.c1
         have xb2 := XB.c2
         have xb3 := XB.c3
         have xb4 := XB.c4
         have xb5 := XB.c5
         have xc0 := XC.c0
         have xc1 := XC.c1
         have xc2 := XC.c2
         have xc3 := XC.c3
         have xc4 := XC.c4
         have xc5 := XC.c5
         have xk0 := XK.c0
         have xk1 := XK.c1
         have xk2 := XK.c2))
  generalize hW : (w_o.alloc (Obj.cells #[Value.bool s_o, Value.slice A_o n_o c_o, Value.slice B_o m_o d_o, Value.bool t_o, Value.slice E_o i_o e_o, Value.slice F_o j_o f_o] 83)) = W4
  have hh : Below w_o.heap.size w_o W4 := by subst hW; exact ((Below.refl _ _).alloc (Nat.le_refl _) _)
  have XO : B6 W4 (w_o.heap.size) (Value.bool s_o) (Value.slice A_o n_o c_o) (Value.slice B_o m_o d_o) (Value.bool t_o) (Value.slice E_o i_o e_o) (Value.slice F_o j_o f_o) := by subst hW; exact B6.new' _ _ _ _ _ _ _ _ rfl
  have hzW4 : W4.heap.size = w_o.heap.size + 1 := by subst hW; simp
  clear hW
  try replace p := p.below hh
  try replace q := q.below hh
  try replace r := r.below hh
  try replace XA := XA.below hh
  try replace XB := XB.below hh
  try replace XC := XC.below hh
  try replace k := k.below hh
  try replace XK := XK.below hh
  try replace o := o.below hh
  replace hb := bend hb hh
  clear k XK
  have xa0 := XA.c0
  have xa1 := XA.c1
  have xa2 := XA.c2
  have xa3 := XA.c3
  have xa4 := XA.c4
  have xa5 := XA.c5
  have xb0 := XB.c0
  have xb1 := XB.c1
  have xb2 := XB.c2
  have xb3 := XB.c3
  have xb4 := XB.c4
  have xb5 := XB.c5
  have xc0 := XC.c0
  have xc1 := XC.c1
  have xc2 := XC.c2
  have xc3 := XC.c3
  have xc4 := XC.c4
  have xc5 := XC.c5
  have xo0 := XO.c0
  have xo1 := XO.c1
  have xo2 := XO.c2
  have xo3 := XO.c3
  have xo4 := XO.c4
  have xo5 := XO.c5
  go_upto_region 7 with (first
      | (go_at_call 92; (with_reducible refine (ptoseg_p p q r (by decide) (by decide) (by decide) (by decide)).mono ?_); rintro e w_d ⟨s_d, A_d, n_d, c_d, B_d, m_d, d_d, rfl, d, hh⟩
         try replace p := p.below hh
         try replace q := q.below hh
         try replace r := r.below hh
         try replace XA := XA.below hh
         try replace XB := XB.below hh
         try replace XC := XC.below hh
         try replace o := o.below hh
         try replace XO := XO.below hh
         replace hb := bend hb hh
         have xa0 := XA.c0
         have xa1 := XA.c1
         have xa2 := XA.c2
         have xa3 := XA.c3
         have xa4 := XA.c4
         have xa5 := XA.c5
         have xb0 := XB.c0
         have xb1 := XB.c1
         have xb2 := XB.c2
         have xb3 := XB.c3
         have xb4 := XB.c4
         have xb5 := XB.c5
         have xc0 := XC.c0
         have xc1 := XC.c1
         have xc2 := XC.c2
         have xc3 := XC.c3
         have xc4 := XC.c4
         have xc5 := XC.c5
         have xo0 := XO.c0
         have xo1 := XO.c1
         have xo2 := XO.c2
         have xo3 := XO.c3
         have xo4 := XO.c4
         have xo5 := XO.c5))
  generalize hW : (w_d.alloc (Obj.cells #[Value.bool s_d, Value.slice A_d n_d c_d, Value.slice B_d m_d d_d] 26)) = W5
  have hh : Below w_d.heap.size w_d W5 := by subst hW; exact ((Below.refl _ _).alloc (Nat.le_refl _) _)
  have XD : B3 W5 (w_d.heap.size) (Value.bool s_d) (Value.slice A_d n_d c_d) (Value.slice B_d m_d d_d) := by subst hW; exact B3.new' _ _ _ _ _ rfl
  have hzW5 : W5.heap.size = w_d.heap.size + 1 := by subst hW; simp
  clear hW
  try replace p := p.below hh
  try replace q := q.below hh
  try replace r := r.below hh
  try replace XA := XA.below hh
  try replace XB := XB.below hh
  try replace XC := XC.below hh
  try replace o := o.below hh
  try replace XO := XO.below hh
  try replace d := d.below hh
  replace hb := bend hb hh
  replace p := p.below (Below.refl _ _).drew
  replace q := q.below (Below.refl _ _).drew
  replace r := r.below (Below.refl _ _).drew
  replace XA := XA.below (Below.refl _ _).drew
  replace XB := XB.below (Below.refl _ _).drew
  replace XC := XC.below (Below.refl _ _).drew
  replace o := o.below (Below.refl _ _).drew
  replace XO := XO.below (Below.refl _ _).drew
  replace d := d.below (Below.refl _ _).drew
  replace XD := XD.below (Below.refl _ _).drew
  replace hb := hb.drew
  go_region_held3 (fun w' => w'.cell? ⟨g_a, 0, none⟩ = some (.bool s_p) ∧ w'.cell? ⟨g_a, 1, none⟩ = some (.slice A_p n_p c_p) ∧ w'.cell? ⟨g_a, 2, none⟩ = some (.slice B_p m_p d_p) ∧ w'.cell? ⟨g_a, 3, none⟩ = some (.bool t_p) ∧ w'.cell? ⟨g_a, 4, none⟩ = some (.slice E_p i_p e_p) ∧ w'.cell? ⟨g_a, 5, none⟩ = some (.slice F_p j_p f_p) ∧ w'.cell? ⟨g_b, 0, none⟩ = some (.bool s_q) ∧ w'.cell? ⟨g_b, 1, none⟩ = some (.slice A_q n_q c_q) ∧ w'.cell? ⟨g_b, 2, none⟩ = some (.slice B_q m_q d_q) ∧ w'.cell? ⟨g_b, 3, none⟩ = some (.bool t_q) ∧ w'.cell? ⟨g_b, 4, none⟩ = some (.slice E_q i_q e_q) ∧ w'.cell? ⟨g_b, 5, none⟩ = some (.slice F_q j_q f_q) ∧ w'.cell? ⟨g_c, 0, none⟩ = some (.bool s_r) ∧ w'.cell? ⟨g_c, 1, none⟩ = some (.slice A_r n_r c_r) ∧ w'.cell? ⟨g_c, 2, none⟩ = some (.slice B_r m_r d_r) ∧ w'.cell? ⟨g_c, 3, none⟩ = some (.bool t_r) ∧ w'.cell? ⟨g_c, 4, none⟩ = some (.slice E_r i_r e_r) ∧ w'.cell? ⟨g_c, 5, none⟩ = some (.slice F_r j_r f_r) ∧ w'.cell? ⟨w_o.heap.size, 0, none⟩ = some (.bool s_o) ∧ w'.cell? ⟨w_o.heap.size, 1, none⟩ = some (.slice A_o n_o c_o) ∧ w'.cell? ⟨w_o.heap.size, 2, none⟩ = some (.slice B_o m_o d_o) ∧ w'.cell? ⟨w_o.heap.size, 3, none⟩ = some (.bool t_o) ∧ w'.cell? ⟨w_o.heap.size, 4, none⟩ = some (.slice E_o i_o e_o) ∧ w'.cell? ⟨w_o.heap.size, 5, none⟩ = some (.slice F_o j_o f_o) ∧ w'.cell? ⟨w_d.heap.size, 0, none⟩ = some (.bool s_d) ∧ w'.cell? ⟨w_d.heap.size, 1, none⟩ = some (.slice A_d n_d c_d) ∧ w'.cell? ⟨w_d.heap.size, 2, none⟩ = some (.slice B_d m_d d_d))
    (first | with_reducible exact ⟨XA.c0, XA.c1, XA.c2, XA.c3, XA.c4, XA.c5, XB.c0, XB.c1, XB.c2, XB.c3, XB.c4, XB.c5, XC.c0, XC.c1, XC.c2, XC.c3, XC.c4, XC.c5, XO.c0, XO.c1, XO.c2, XO.c3, XO.c4, XO.c5, XD.c0, XD.c1, XD.c2⟩)
    (first
    | (go_at_call 90; (with_reducible refine (pfar_p p o.pr (by decide) (by decide) (by decide)).mono ?_); rintro e w_f ⟨s_f, A_f, n_f, c_f, B_f, m_f, d_f, rfl, f, hh⟩
       try replace p := p.below hh
       try replace q := q.below hh
       try replace r := r.below hh
       try replace XA := XA.below hh
       try replace XB := XB.below hh
       try replace XC := XC.below hh
       try replace o := o.below hh
       try replace XO := XO.below hh
       try replace d := d.below hh
       try replace XD := XD.below hh
       replace hb := bend hb hh)
    | (go_at_call 28; (with_reducible refine (rcmp_q d.qr f.qr (by decide) (by decide) (.inl (by decide)) (by decide) (by decide)).mono ?_); rintro e w_z ⟨rfl, hh⟩
       rw [HM.out]; clear f
       try replace p := p.below hh
       try replace q := q.below hh
       try replace r := r.below hh
       try replace XA := XA.below hh
       try replace XB := XB.below hh
       try replace XC := XC.below hh
       try replace o := o.below hh
       try replace XO := XO.below hh
       try replace d := d.below hh
       try replace XD := XD.below hh
       replace hb := bend hb hh)
    | (go_at_call 30; (with_reducible refine (rsign_q d.qr (by decide) (by decide)).mono ?_); rintro e w_z ⟨rfl, hh⟩
       rw [HS.out]
       try replace p := p.below hh
       try replace q := q.below hh
       try replace r := r.below hh
       try replace XA := XA.below hh
       try replace XB := XB.below hh
       try replace XC := XC.below hh
       try replace o := o.below hh
       try replace XO := XO.below hh
       try replace d := d.below hh
       try replace XD := XD.below hh
       replace hb := bend hb hh)
    | (go_at_call 92; (with_reducible refine (ptoseg_p o.pr q r (by decide) (by decide) (by decide) (by decide)).mono ?_); rintro e w_e1 ⟨s_e1, A_e1, n_e1, c_e1, B_e1, m_e1, d_e1, rfl, e1, hh⟩
       try replace p := p.below hh
       try replace q := q.below hh
       try replace r := r.below hh
       try replace XA := XA.below hh
       try replace XB := XB.below hh
       try replace XC := XC.below hh
       try replace o := o.below hh
       try replace XO := XO.below hh
       try replace d := d.below hh
       try replace XD := XD.below hh
       replace hb := bend hb hh)
    | (go_at_call 30; (with_reducible refine (rsign_q e1.qr (by decide) (by decide)).mono ?_); rintro e w_z ⟨rfl, hh⟩
       rw [HE.out]; clear e1
       try replace p := p.below hh
       try replace q := q.below hh
       try replace r := r.below hh
       try replace XA := XA.below hh
       try replace XB := XB.below hh
       try replace XC := XC.below hh
       try replace o := o.below hh
       try replace XO := XO.below hh
       try replace d := d.below hh
       try replace XD := XD.below hh
       replace hb := bend hb hh)
    | (go_at_call 92; (with_reducible refine (ptoseg_p p r q (by decide) (by decide) (by decide) (by decide)).mono ?_); rintro e w_e2 ⟨s_e2, A_e2, n_e2, c_e2, B_e2, m_e2, d_e2, rfl, e2, hh⟩
       try replace p := p.below hh
       try replace q := q.below hh
       try replace r := r.below hh
       try replace XA := XA.below hh
       try replace XB := XB.below hh
       try replace XC := XC.below hh
       try replace o := o.below hh
       try replace XO := XO.below hh
       try replace d := d.below hh
       try replace XD := XD.below hh
       replace hb := bend hb hh)
    | (go_at_call 28; (with_reducible refine (rcmp_q d.qr e2.qr (by decide) (by decide) (.inl (by decide)) (by decide) (by decide)).mono ?_); rintro e w_z ⟨rfl, hh⟩
       rw [HB.out]; clear e2
       try replace p := p.below hh
       try replace q := q.below hh
       try replace r := r.below hh
       try replace XA := XA.below hh
       try replace XB := XB.below hh
       try replace XC := XC.below hh
       try replace o := o.below hh
       try replace XO := XO.below hh
       try replace d := d.below hh
       try replace XD := XD.below hh
       replace hb := bend hb hh))
  clear o XO
  have xa0 := XA.c0
  have xa1 := XA.c1
  have xa2 := XA.c2
  have xa3 := XA.c3
  have xa4 := XA.c4
  have xa5 := XA.c5
  have xb0 := XB.c0
  have xb1 := XB.c1
  have xb2 := XB.c2
  have xb3 := XB.c3
  have xb4 := XB.c4
  have xb5 := XB.c5
  have xc0 := XC.c0
  have xc1 := XC.c1
  have xc2 := XC.c2
  have xc3 := XC.c3
  have xc4 := XC.c4
  have xc5 := XC.c5
  have xd0 := XD.c0
  have xd1 := XD.c1
  have xd2 := XD.c2
  go_upto_region 10 with (first
      | (go_at_call 30; (with_reducible refine (rsign_q d.qr (by decide) (by decide)).mono ?_); rintro e w_z ⟨rfl, hh⟩
         rw [HS.out]
         try replace p := p.below hh
         try replace q := q.below hh
         try replace r := r.below hh
         try replace XA := XA.below hh
         try replace XB := XB.below hh
         try replace XC := XC.below hh
         try replace d := d.below hh
         try replace XD := XD.below hh
         replace hb := bend hb hh
         have xa0 := XA.c0
         have xa1 := XA.c1
         have xa2 := XA.c2
         have xa3 := XA.c3
         have xa4 := XA.c4
         have xa5 := XA.c5
         have xb0 := XB.c0
         have xb1 := XB.c1
         have xb2 := XB.c2
         have xb3 := XB.c3
         have xb4 := XB.c4
         have xb5 := XB.c5
         have xc0 := XC.c0
         have xc1 := XC.c1
         have xc2 := XC.c2
         have xc3 := XC.c3
         have xc4 := XC.c4
         have xc5 := XC.c5
         have xd0 := XD.c0
         have xd1 := XD.c1
         have xd2 := XD.c2))
  clear d XD
  replace p := p.below (Below.refl _ _).drew
  replace q := q.below (Below.refl _ _).drew
  replace r := r.below (Below.refl _ _).drew
  replace XA := XA.below (Below.refl _ _).drew
  replace XB := XB.below (Below.refl _ _).drew
  replace XC := XC.below (Below.refl _ _).drew
  replace hb := hb.drew
  go_region_held3 (fun w' => w'.cell? ⟨g_a, 0, none⟩ = some (.bool s_p) ∧ w'.cell? ⟨g_a, 1, none⟩ = some (.slice A_p n_p c_p) ∧ w'.cell? ⟨g_a, 2, none⟩ = some (.slice B_p m_p d_p) ∧ w'.cell? ⟨g_a, 3, none⟩ = some (.bool t_p) ∧ w'.cell? ⟨g_a, 4, none⟩ = some (.slice E_p i_p e_p) ∧ w'.cell? ⟨g_a, 5, none⟩ = some (.slice F_p j_p f_p) ∧ w'.cell? ⟨g_b, 0, none⟩ = some (.bool s_q) ∧ w'.cell? ⟨g_b, 1, none⟩ = some (.slice A_q n_q c_q) ∧ w'.cell? ⟨g_b, 2, none⟩ = some (.slice B_q m_q d_q) ∧ w'.cell? ⟨g_b, 3, none⟩ = some (.bool t_q) ∧ w'.cell? ⟨g_b, 4, none⟩ = some (.slice E_q i_q e_q) ∧ w'.cell? ⟨g_b, 5, none⟩ = some (.slice F_q j_q f_q) ∧ w'.cell? ⟨g_c, 0, none⟩ = some (.bool s_r) ∧ w'.cell? ⟨g_c, 1, none⟩ = some (.slice A_r n_r c_r) ∧ w'.cell? ⟨g_c, 2, none⟩ = some (.slice B_r m_r d_r) ∧ w'.cell? ⟨g_c, 3, none⟩ = some (.bool t_r) ∧ w'.cell? ⟨g_c, 4, none⟩ = some (.slice E_r i_r e_r) ∧ w'.cell? ⟨g_c, 5, none⟩ = some (.slice F_r j_r f_r))
    (first | with_reducible exact ⟨XA.c0, XA.c1, XA.c2, XA.c3, XA.c4, XA.c5, XB.c0, XB.c1, XB.c2, XB.c3, XB.c4, XB.c5, XC.c0, XC.c1, XC.c2, XC.c3, XC.c4, XC.c5⟩)
    (first
    | (go_at_call 88; (with_reducible refine (porient_p q r p (by decide) (by decide)).mono ?_); rintro e w_z ⟨rfl, hh⟩
       rw [HO.out]
       try replace p := p.below hh
       try replace q := q.below hh
       try replace r := r.below hh
       try replace XA := XA.below hh
       try replace XB := XB.below hh
       try replace XC := XC.below hh
       replace hb := bend hb hh)
    | (go_at_call 75; (with_reducible refine (psub_p p q (by decide) (by decide) (.inl (by decide)) (by decide) (by decide)).mono ?_); rintro e w_s1 ⟨s_s1, A_s1, n_s1, c_s1, B_s1, m_s1, d_s1, t_s1, E_s1, i_s1, e_s1, F_s1, j_s1, f_s1, rfl, s1, hh⟩
       try replace p := p.below hh
       try replace q := q.below hh
       try replace r := r.below hh
       try replace XA := XA.below hh
       try replace XB := XB.below hh
       try replace XC := XC.below hh
       replace hb := bend hb hh)
    | (go_at_call 75; (with_reducible refine (psub_p p r (by decide) (by decide) (.inl (by decide)) (by decide) (by decide)).mono ?_); rintro e w_s2 ⟨s_s2, A_s2, n_s2, c_s2, B_s2, m_s2, d_s2, t_s2, E_s2, i_s2, e_s2, F_s2, j_s2, f_s2, rfl, s2, hh⟩
       try replace p := p.below hh
       try replace q := q.below hh
       try replace r := r.below hh
       try replace XA := XA.below hh
       try replace XB := XB.below hh
       try replace XC := XC.below hh
       try replace s1 := s1.below hh
       replace hb := bend hb hh)
    | (go_at_call 81; (with_reducible refine (pdot_p s1.pr s2.pr (by decide) (by decide) (by decide)).mono ?_); rintro e w_s3 ⟨s_s3, A_s3, n_s3, c_s3, B_s3, m_s3, d_s3, rfl, s3, hh⟩
       try replace p := p.below hh
       try replace q := q.below hh
       try replace r := r.below hh
       try replace XA := XA.below hh
       try replace XB := XB.below hh
       try replace XC := XC.below hh
       replace hb := bend hb hh
       clear s1 s2)
    | (go_at_call 30; (with_reducible refine (rsign_q s3.qr (by decide) (by decide)).mono ?_); rintro e w_z ⟨rfl, hh⟩
       rw [HT.out]; clear s3
       try replace p := p.below hh
       try replace q := q.below hh
       try replace r := r.below hh
       try replace XA := XA.below hh
       try replace XB := XB.below hh
       try replace XC := XC.below hh
       replace hb := bend hb hh)
    | (go_at_call 67; (with_reducible refine (pwakes_any _).mono ?_); rintro e w_z ⟨rfl, hh⟩
       try replace XA := XA.below hh
       try replace XB := XB.below hh
       try replace XC := XC.below hh
       replace hb := bend hb hh))
  go_wp2_with fail
  go_ret
  exact ⟨rfl, hb⟩
set_option maxRecDepth 100000 in
set_option maxHeartbeats 16000000 in
theorem near_o1 {w : World} {s_p t_p : Bool} {A_p B_p E_p F_p : Option Addr} {n_p c_p m_p d_p i_p e_p j_p f_p : Nat} {s_q t_q : Bool} {A_q B_q E_q F_q : Option Addr} {n_q c_q m_q d_q i_q e_q j_q f_q : Nat} {s_r t_r : Bool} {A_r B_r E_r F_r : Option Addr} {n_r c_r m_r d_r i_r e_r j_r f_r : Nat} (t : Nat) {px py ax ay bx by_ : Rat} (p : PR w s_p A_p n_p c_p B_p m_p d_p t_p E_p i_p e_p F_p j_p f_p px py 6) (q : PR w s_q A_q n_q c_q B_q m_q d_q t_q E_q i_q e_q F_q j_q f_q ax ay 6) (r : PR w s_r A_r n_r c_r B_r m_r d_r t_r E_r i_r e_r F_r j_r f_r bx by_ 6) (h : (((n_p ≤ 6 ∧ m_p ≤ 6) ∧ i_p ≤ 6 ∧ j_p ≤ 6) ∧ ((n_q ≤ 6 ∧ m_q ≤ 6) ∧ i_q ≤ 6 ∧ j_q ≤ 6) ∧ ((n_r ≤ 6 ∧ m_r ≤ 6) ∧ i_r ≤ 6 ∧ j_r ≤ 6))) (ht : t ≤ 255) (hd : segQ px py ax ay bx by_ ≠ 0) (hK : orientQ ax ay bx by_ px py = 1) :
    Calls Tryz.prog 12 #[.agg #[.bool s_p, .slice A_p n_p c_p, .slice B_p m_p d_p, .bool t_p, .slice E_p i_p e_p, .slice F_p j_p f_p, .bool s_q, .slice A_q n_q c_q, .slice B_q m_q d_q, .bool t_q, .slice E_q i_q e_q, .slice F_q j_q f_q, .bool s_r, .slice A_r n_r c_r, .slice B_r m_r d_r, .bool t_r, .slice E_r i_r e_r, .slice F_r j_r f_r], .int .u8 (t : Int)] w fun e w' => e = .returned (.bool true) ∧ Below w.heap.size w w' := by
  have HL : Hid (decide (((n_p ≤ 6 ∧ m_p ≤ 6) ∧ i_p ≤ 6 ∧ j_p ≤ 6) ∧ ((n_q ≤ 6 ∧ m_q ≤ 6) ∧ i_q ≤ 6 ∧ j_q ≤ 6) ∧ ((n_r ≤ 6 ∧ m_r ≤ 6) ∧ i_r ≤ 6 ∧ j_r ≤ 6)) = true) := decide_eq_true h
  have hti : (t : Int) ≤ 255 := by omega
  have hr := tq_range ht
  obtain ⟨M, hM, hM0⟩ : ∃ M, cmpQ (segQ px py ax ay bx by_) (farQ px py (ax + (bx - ax) * (Rat.divInt (t : Int) 255)) (ay + (by_ - ay) * (Rat.divInt (t : Int) 255))) = M ∧ decide (0 < M) = false := ⟨_, rfl, decide_eq_false (by have := cmpQ_le.2 (seg_near px py ax ay bx by_ (Rat.divInt (t : Int) 255) hr.1 hr.2 rfl rfl); omega)⟩
  have HM := Lib.hid hM
  have HE : Hid (sgnQ (segQ (ax + (bx - ax) * (Rat.divInt (t : Int) 255)) (ay + (by_ - ay) * (Rat.divInt (t : Int) 255)) ax ay bx by_) = 0) := by show _ = _; rw [seg_on ax ay bx by_ (Rat.divInt (t : Int) 255) hr.1 hr.2 rfl rfl]; rfl
  have HB : Hid (cmpQ (segQ px py ax ay bx by_) (segQ px py bx by_ ax ay) = 0) := cmpQ_nul.2 (seg_back px py ax ay bx by_).symm
  have HS : Hid (sgnQ (segQ px py ax ay bx by_) = 1) := by
    show _ = _
    have h0 := seg_nn px py ax ay bx by_
    unfold sgnQ
    rw [if_neg (Rat.not_lt.2 h0), if_neg hd]
  have HO := Lib.hid hK
  clear hK
  clear h hd hr hM ht
  go_enter Tryz.func12, Tryz.ntmps12
  go_upto_region 1 with (fail)
  generalize hW : (w.alloc (Obj.cells #[Value.bool s_p, Value.slice A_p n_p c_p, Value.slice B_p m_p d_p, Value.bool t_p, Value.slice E_p i_p e_p, Value.slice F_p j_p f_p, Value.bool s_q, Value.slice A_q n_q c_q, Value.slice B_q m_q d_q, Value.bool t_q, Value.slice E_q i_q e_q, Value.slice F_q j_q f_q, Value.bool s_r, Value.slice A_r n_r c_r, Value.slice B_r m_r d_r, Value.bool t_r, Value.slice E_r i_r e_r, Value.slice F_r j_r f_r] 109)) = W
  have hb : Below w.heap.size w W := by subst hW; exact ((Below.refl _ _).alloc (Nat.le_refl _) _)
  have XL0 : BA3 W (w.heap.size) (Value.bool s_p) (Value.slice A_p n_p c_p) (Value.slice B_p m_p d_p) (Value.bool t_p) (Value.slice E_p i_p e_p) (Value.slice F_p j_p f_p) (Value.bool s_q) (Value.slice A_q n_q c_q) (Value.slice B_q m_q d_q) (Value.bool t_q) (Value.slice E_q i_q e_q) (Value.slice F_q j_q f_q) (Value.bool s_r) (Value.slice A_r n_r c_r) (Value.slice B_r m_r d_r) (Value.bool t_r) (Value.slice E_r i_r e_r) (Value.slice F_r j_r f_r) := by subst hW; exact BA3.new' _ _ _ _ _ _ _ _ _ _ _ _ _ _ _ _ _ _ _ _ rfl
  have hzW : W.heap.size = w.heap.size + 1 := by subst hW; simp
  clear hW
  replace p := p.below hb
  replace q := q.below hb
  replace r := r.below hb
  refine near_region (by simp) rfl XL0 ?_
  intro V w_1 g_a g_b g_c XA hg_a hva XB hg_b hvb XC hg_c hvc hne1 hne2 hne3 hh
  simp only [putAll, Act.put, List.setIfInBounds_toArray, List.set_cons_zero, List.set_cons_succ, hva, hvb, hvc]
  clear hva hvb hvc XL0 hne1 hne2 hne3
  replace p := p.below hh
  replace q := q.below hh
  replace r := r.below hh
  replace hb := bend hb hh
  have xa0 := XA.c0
  have xa1 := XA.c1
  have xa2 := XA.c2
  have xa3 := XA.c3
  have xa4 := XA.c4
  have xa5 := XA.c5
  have xb0 := XB.c0
  have xb1 := XB.c1
  have xb2 := XB.c2
  have xb3 := XB.c3
  have xb4 := XB.c4
  have xb5 := XB.c5
  have xc0 := XC.c0
  have xc1 := XC.c1
  have xc2 := XC.c2
  have xc3 := XC.c3
  have xc4 := XC.c4
  have xc5 := XC.c5
  go_wp2_with fail
  generalize hW : (w_1.alloc (Obj.cells #[Value.bool s_p, Value.slice A_p n_p c_p, Value.slice B_p m_p d_p, Value.bool t_p, Value.slice E_p i_p e_p, Value.slice F_p j_p f_p, Value.bool s_q, Value.slice A_q n_q c_q, Value.slice B_q m_q d_q, Value.bool t_q, Value.slice E_q i_q e_q, Value.slice F_q j_q f_q, Value.bool s_r, Value.slice A_r n_r c_r, Value.slice B_r m_r d_r, Value.bool t_r, Value.slice E_r i_r e_r, Value.slice F_r j_r f_r] 83)) = W2
  have hh : Below w_1.heap.size w_1 W2 := by subst hW; exact ((Below.refl _ _).alloc (Nat.le_refl _) _)
  have XL : BL3 W2 (w_1.heap.size) (Value.bool s_p) (Value.slice A_p n_p c_p) (Value.slice B_p m_p d_p) (Value.bool t_p) (Value.slice E_p i_p e_p) (Value.slice F_p j_p f_p) (Value.bool s_q) (Value.slice A_q n_q c_q) (Value.slice B_q m_q d_q) (Value.bool t_q) (Value.slice E_q i_q e_q) (Value.slice F_q j_q f_q) (Value.bool s_r) (Value.slice A_r n_r c_r) (Value.slice B_r m_r d_r) (Value.bool t_r) (Value.slice E_r i_r e_r) (Value.slice F_r j_r f_r) := by subst hW; exact BL3.new' _ _ _ _ _ _ _ _ _ _ _ _ _ _ _ _ _ _ _ _ rfl
  have hzW2 : W2.heap.size = w_1.heap.size + 1 := by subst hW; simp
  clear hW
  try replace p := p.below hh
  try replace q := q.below hh
  try replace r := r.below hh
  try replace XA := XA.below hh
  try replace XB := XB.below hh
  try replace XC := XC.below hh
  replace hb := bend hb hh
  have xa0 := XA.c0
  have xa1 := XA.c1
  have xa2 := XA.c2
  have xa3 := XA.c3
  have xa4 := XA.c4
  have xa5 := XA.c5
  have xb0 := XB.c0
  have xb1 := XB.c1
  have xb2 := XB.c2
  have xb3 := XB.c3
  have xb4 := XB.c4
  have xb5 := XB.c5
  have xc0 := XC.c0
  have xc1 := XC.c1
  have xc2 := XC.c2
  have xc3 := XC.c3
  have xc4 := XC.c4
  have xc5 := XC.c5
  go_upto_region 5 with (first
      | (go_at_call 66; (with_reducible refine (fair3 XL true HL.out).mono ?_); rintro e w_z ⟨rfl, hh⟩
         clear XL
         try replace p := p.below hh
         try replace q := q.below hh
         try replace r := r.below hh
         try replace XA := XA.below hh
         try replace XB := XB.below hh
         try replace XC := XC.below hh
         replace hb := bend hb hh
         have xa0 := XA.c0
         have xa1 := XA.c1
         have xa2 := XA.c2
         have xa3 := XA.c3
         have xa4 := XA.c4
         have xa5 := XA.c5
         have xb0 := XB.c0
         have xb1 := XB.c1
         have xb2 := XB.c2
         have xb3 := XB.c3
         have xb4 := XB.c4
         have xb5 := XB.c5
         have xc0 := XC.c0
         have xc1 := XC.c1
         have xc2 := XC.c2
         have xc3 := XC.c3
         have xc4 := XC.c4
         have xc5 := XC.c5)
      | (go_at_call 42; (with_reducible refine (rof_q (t : Int) 255 (by omega) (by omega) (by decide) (by decide) (by decide) _).mono ?_); rintro e w_k ⟨s_k, A_k, n_k, c_k, B_k, m_k, d_k, rfl, k, hh⟩
         try replace p := p.below hh
         try replace q := q.below hh
         try replace r := r.below hh
         try replace XA := XA.below hh
         try replace XB := XB.below hh
         try replace XC := XC.below hh
         replace hb := bend hb hh
         have xa0 := XA.c0
         have xa1 := XA.c1
         have xa2 := XA.c2
         have xa3 := XA.c3
         have xa4 := XA.c4
         have xa5 := XA.c5
         have xb0 := XB.c0
         have xb1 := XB.c1
         have xb2 := XB.c2
         have xb3 := XB.c3
         have xb4 := XB.c4
         have xb5 := XB.c5
         have xc0 := XC.c0
         have xc1 := XC.c1
         have xc2 := XC.c2
         have xc3 := XC.c3
         have xc4 := XC.c4
         have xc5 := XC.c5))
  generalize hW : (w_k.alloc (Obj.cells #[Value.bool s_k, Value.slice A_k n_k c_k, Value.slice B_k m_k d_k] 26)) = W3
  have hh : Below w_k.heap.size w_k W3 := by subst hW; exact ((Below.refl _ _).alloc (Nat.le_refl _) _)
  have XK : B3 W3 (w_k.heap.size) (Value.bool s_k) (Value.slice A_k n_k c_k) (Value.slice B_k m_k d_k) := by subst hW; exact B3.new' _ _ _ _ _ rfl
  have hzW3 : W3.heap.size = w_k.heap.size + 1 := by subst hW; simp
  clear hW
  try replace p := p.below hh
  try replace q := q.below hh
  try replace r := r.below hh
  try replace XA := XA.below hh
  try replace XB := XB.below hh
  try replace XC := XC.below hh
  try replace k := k.below hh
  replace hb := bend hb hh
  have xa0 := XA.c0
  have xa1 := XA.c1
  have xa2 := XA.c2
  have xa3 := XA.c3
  have xa4 := XA.c4
  have xa5 := XA.c5
  have xb0 := XB.c0
  have xb1 := XB.c1
  have xb2 := XB.c2
  have xb3 := XB.c3
  have xb4 := XB.c4
  have xb5 := XB.c5
  have xc0 := XC.c0
  have xc1 := XC.c1
  have xc2 := XC.c2
  have xc3 := XC.c3
  have xc4 := XC.c4
  have xc5 := XC.c5
  have xk0 := XK.c0
  have xk1 := XK.c1
  have xk2 := XK.c2
  go_upto_region 6 with (first
      | (go_at_call 79; (with_reducible refine (pmix_p q r k.qr (by decide) (by decide) (by decide) (by decide) (by decide) (by decide)).mono ?_); rintro e w_o ⟨s_o, A_o, n_o, c_o, B_o, m_o, d_o, t_o, E_o, i_o, e_o, F_o, j_o, f_o, rfl, o, hh⟩
         try replace p := p.below hh
         try replace q := q.below hh
         try replace r := r.below hh
         try replace XA := XA.below hh
         try replace XB := XB.below hh
         try replace XC := XC.below hh
         try replace k := k.below hh
         try replace XK := XK.below hh
         replace hb := bend hb hh
         have xa0 := XA.c0
         have xa1 := XA.c1
         have xa2 := XA.c2
         have xa3 := XA.c3
         have xa4 := XA.c4
         have xa5 := XA.c5
         have xb0 := XB.c0
         have xb1 := XB.c1
         have xb2 := XB.c2
         have xb3 := XB.c3
         have xb4 := XB.c4
         have xb5 := XB.c5
         have xc0 := XC.c0
         have xc1 := XC.c1
         have xc2 := XC.c2
         have xc3 := XC.c3
         have xc4 := XC.c4
         have xc5 := XC.c5
         have xk0 := XK.c0
         have xk1 := XK.c1
         have xk2 := XK.c2))
  generalize hW : (w_o.alloc (Obj.cells #[Value.bool s_o, Value.slice A_o n_o c_o, Value.slice B_o m_o d_o, Value.bool t_o, Value.slice E_o i_o e_o, Value.slice F_o j_o f_o] 83)) = W4
  have hh : Below w_o.heap.size w_o W4 := by subst hW; exact ((Below.refl _ _).alloc (Nat.le_refl _) _)
  have XO : B6 W4 (w_o.heap.size) (Value.bool s_o) (Value.slice A_o n_o c_o) (Value.slice B_o m_o d_o) (Value.bool t_o) (Value.slice E_o i_o e_o) (Value.slice F_o j_o f_o) := by subst hW; exact B6.new' _ _ _ _ _ _ _ _ rfl
  have hzW4 : W4.heap.size = w_o.heap.size + 1 := by subst hW; simp
  clear hW
  try replace p := p.below hh
  try replace q := q.below hh
  try replace r := r.below hh
  try replace XA := XA.below hh
  try replace XB := XB.below hh
  try replace XC := XC.below hh
  try replace k := k.below hh
  try replace XK := XK.below hh
  try replace o := o.below hh
  replace hb := bend hb hh
  clear k XK
  have xa0 := XA.c0
  have xa1 := XA.c1
  have xa2 := XA.c2
  have xa3 := XA.c3
  have xa4 := XA.c4
  have xa5 := XA.c5
  have xb0 := XB.c0
  have xb1 := XB.c1
  have xb2 := XB.c2
  have xb3 := XB.c3
  have xb4 := XB.c4
  have xb5 := XB.c5
  have xc0 := XC.c0
  have xc1 := XC.c1
  have xc2 := XC.c2
  have xc3 := XC.c3
  have xc4 := XC.c4
  have xc5 := XC.c5
  have xo0 := XO.c0
  have xo1 := XO.c1
  have xo2 := XO.c2
  have xo3 := XO.c3
  have xo4 := XO.c4
  have xo5 := XO.c5
  go_upto_region 7 with (first
      | (go_at_call 92; (with_reducible refine (ptoseg_p p q r (by decide) (by decide) (by decide) (by decide)).mono ?_); rintro e w_d ⟨s_d, A_d, n_d, c_d, B_d, m_d, d_d, rfl, d, hh⟩
         try replace p := p.below hh
         try replace q := q.below hh
         try replace r := r.below hh
         try replace XA := XA.below hh
         try replace XB := XB.below hh
         try replace XC := XC.below hh
         try replace o := o.below hh
         try replace XO := XO.below hh
         replace hb := bend hb hh
         have xa0 := XA.c0
         have xa1 := XA.c1
         have xa2 := XA.c2
         have xa3 := XA.c3
         have xa4 := XA.c4
         have xa5 := XA.c5
         have xb0 := XB.c0
         have xb1 := XB.c1
         have xb2 := XB.c2
         have xb3 := XB.c3
         have xb4 := XB.c4
         have xb5 := XB.c5
         have xc0 := XC.c0
         have xc1 := XC.c1
         have xc2 := XC.c2
         have xc3 := XC.c3
         have xc4 := XC.c4
         have xc5 := XC.c5
         have xo0 := XO.c0
         have xo1 := XO.c1
         have xo2 := XO.c2
         have xo3 := XO.c3
         have xo4 := XO.c4
         have xo5 := XO.c5))
  generalize hW : (w_d.alloc (Obj.cells #[Value.bool s_d, Value.slice A_d n_d c_d, Value.slice B_d m_d d_d] 26)) = W5
  have hh : Below w_d.heap.size w_d W5 := by subst hW; exact ((Below.refl _ _).alloc (Nat.le_refl _) _)
  have XD : B3 W5 (w_d.heap.size) (Value.bool s_d) (Value.slice A_d n_d c_d) (Value.slice B_d m_d d_d) := by subst hW; exact B3.new' _ _ _ _ _ rfl
  have hzW5 : W5.heap.size = w_d.heap.size + 1 := by subst hW; simp
  clear hW
  try replace p := p.below hh
  try replace q := q.below hh
  try replace r := r.below hh
  try replace XA := XA.below hh
  try replace XB := XB.below hh
  try replace XC := XC.below hh
  try replace o := o.below hh
  try replace XO := XO.below hh
  try replace d := d.below hh
  replace hb := bend hb hh
  replace p := p.below (Below.refl _ _).drew
  replace q := q.below (Below.refl _ _).drew
  replace r := r.below (Below.refl _ _).drew
  replace XA := XA.below (Below.refl _ _).drew
  replace XB := XB.below (Below.refl _ _).drew
  replace XC := XC.below (Below.refl _ _).drew
  replace o := o.below (Below.refl _ _).drew
  replace XO := XO.below (Below.refl _ _).drew
  replace d := d.below (Below.refl _ _).drew
  replace XD := XD.below (Below.refl _ _).drew
  replace hb := hb.drew
  go_region_held3 (fun w' => w'.cell? ⟨g_a, 0, none⟩ = some (.bool s_p) ∧ w'.cell? ⟨g_a, 1, none⟩ = some (.slice A_p n_p c_p) ∧ w'.cell? ⟨g_a, 2, none⟩ = some (.slice B_p m_p d_p) ∧ w'.cell? ⟨g_a, 3, none⟩ = some (.bool t_p) ∧ w'.cell? ⟨g_a, 4, none⟩ = some (.slice E_p i_p e_p) ∧ w'.cell? ⟨g_a, 5, none⟩ = some (.slice F_p j_p f_p) ∧ w'.cell? ⟨g_b, 0, none⟩ = some (.bool s_q) ∧ w'.cell? ⟨g_b, 1, none⟩ = some (.slice A_q n_q c_q) ∧ w'.cell? ⟨g_b, 2, none⟩ = some (.slice B_q m_q d_q) ∧ w'.cell? ⟨g_b, 3, none⟩ = some (.bool t_q) ∧ w'.cell? ⟨g_b, 4, none⟩ = some (.slice E_q i_q e_q) ∧ w'.cell? ⟨g_b, 5, none⟩ = some (.slice F_q j_q f_q) ∧ w'.cell? ⟨g_c, 0, none⟩ = some (.bool s_r) ∧ w'.cell? ⟨g_c, 1, none⟩ = some (.slice A_r n_r c_r) ∧ w'.cell? ⟨g_c, 2, none⟩ = some (.slice B_r m_r d_r) ∧ w'.cell? ⟨g_c, 3, none⟩ = some (.bool t_r) ∧ w'.cell? ⟨g_c, 4, none⟩ = some (.slice E_r i_r e_r) ∧ w'.cell? ⟨g_c, 5, none⟩ = some (.slice F_r j_r f_r) ∧ w'.cell? ⟨w_o.heap.size, 0, none⟩ = some (.bool s_o) ∧ w'.cell? ⟨w_o.heap.size, 1, none⟩ = some (.slice A_o n_o c_o) ∧ w'.cell? ⟨w_o.heap.size, 2, none⟩ = some (.slice B_o m_o d_o) ∧ w'.cell? ⟨w_o.heap.size, 3, none⟩ = some (.bool t_o) ∧ w'.cell? ⟨w_o.heap.size, 4, none⟩ = some (.slice E_o i_o e_o) ∧ w'.cell? ⟨w_o.heap.size, 5, none⟩ = some (.slice F_o j_o f_o) ∧ w'.cell? ⟨w_d.heap.size, 0, none⟩ = some (.bool s_d) ∧ w'.cell? ⟨w_d.heap.size, 1, none⟩ = some (.slice A_d n_d c_d) ∧ w'.cell? ⟨w_d.heap.size, 2, none⟩ = some (.slice B_d m_d d_d))
    (first | with_reducible exact ⟨XA.c0, XA.c1, XA.c2, XA.c3, XA.c4, XA.c5, XB.c0, XB.c1, XB.c2, XB.c3, XB.c4, XB.c5, XC.c0, XC.c1, XC.c2, XC.c3, XC.c4, XC.c5, XO.c0, XO.c1, XO.c2, XO.c3, XO.c4, XO.c5, XD.c0, XD.c1, XD.c2⟩)
    (first
    | (go_at_call 90; (with_reducible refine (pfar_p p o.pr (by decide) (by decide) (by decide)).mono ?_); rintro e w_f ⟨s_f, A_f, n_f, c_f, B_f, m_f, d_f, rfl, f, hh⟩
       try replace p := p.below hh
       try replace q := q.below hh
       try replace r := r.below hh
       try replace XA := XA.below hh
       try replace XB := XB.below hh
       try replace XC := XC.below hh
       try replace o := o.below hh
       try replace XO := XO.below hh
       try replace d := d.below hh
       try replace XD := XD.below hh
       replace hb := bend hb hh)
    | (go_at_call 28; (with_reducible refine (rcmp_q d.qr f.qr (by decide) (by decide) (.inl (by decide)) (by decide) (by decide)).mono ?_); rintro e w_z ⟨rfl, hh⟩
       rw [HM.out]; clear f
       try replace p := p.below hh
       try replace q := q.below hh
       try replace r := r.below hh
       try replace XA := XA.below hh
       try replace XB := XB.below hh
       try replace XC := XC.below hh
       try replace o := o.below hh
       try replace XO := XO.below hh
       try replace d := d.below hh
       try replace XD := XD.below hh
       replace hb := bend hb hh)
    | (go_at_call 30; (with_reducible refine (rsign_q d.qr (by decide) (by decide)).mono ?_); rintro e w_z ⟨rfl, hh⟩
       rw [HS.out]
       try replace p := p.below hh
       try replace q := q.below hh
       try replace r := r.below hh
       try replace XA := XA.below hh
       try replace XB := XB.below hh
       try replace XC := XC.below hh
       try replace o := o.below hh
       try replace XO := XO.below hh
       try replace d := d.below hh
       try replace XD := XD.below hh
       replace hb := bend hb hh)
    | (go_at_call 92; (with_reducible refine (ptoseg_p o.pr q r (by decide) (by decide) (by decide) (by decide)).mono ?_); rintro e w_e1 ⟨s_e1, A_e1, n_e1, c_e1, B_e1, m_e1, d_e1, rfl, e1, hh⟩
       try replace p := p.below hh
       try replace q := q.below hh
       try replace r := r.below hh
       try replace XA := XA.below hh
       try replace XB := XB.below hh
       try replace XC := XC.below hh
       try replace o := o.below hh
       try replace XO := XO.below hh
       try replace d := d.below hh
       try replace XD := XD.below hh
       replace hb := bend hb hh)
    | (go_at_call 30; (with_reducible refine (rsign_q e1.qr (by decide) (by decide)).mono ?_); rintro e w_z ⟨rfl, hh⟩
       rw [HE.out]; clear e1
       try replace p := p.below hh
       try replace q := q.below hh
       try replace r := r.below hh
       try replace XA := XA.below hh
       try replace XB := XB.below hh
       try replace XC := XC.below hh
       try replace o := o.below hh
       try replace XO := XO.below hh
       try replace d := d.below hh
       try replace XD := XD.below hh
       replace hb := bend hb hh)
    | (go_at_call 92; (with_reducible refine (ptoseg_p p r q (by decide) (by decide) (by decide) (by decide)).mono ?_); rintro e w_e2 ⟨s_e2, A_e2, n_e2, c_e2, B_e2, m_e2, d_e2, rfl, e2, hh⟩
       try replace p := p.below hh
       try replace q := q.below hh
       try replace r := r.below hh
       try replace XA := XA.below hh
       try replace XB := XB.below hh
       try replace XC := XC.below hh
       try replace o := o.below hh
       try replace XO := XO.below hh
       try replace d := d.below hh
       try replace XD := XD.below hh
       replace hb := bend hb hh)
    | (go_at_call 28; (with_reducible refine (rcmp_q d.qr e2.qr (by decide) (by decide) (.inl (by decide)) (by decide) (by decide)).mono ?_); rintro e w_z ⟨rfl, hh⟩
       rw [HB.out]; clear e2
       try replace p := p.below hh
       try replace q := q.below hh
       try replace r := r.below hh
       try replace XA := XA.below hh
       try replace XB := XB.below hh
       try replace XC := XC.below hh
       try replace o := o.below hh
       try replace XO := XO.below hh
       try replace d := d.below hh
       try replace XD := XD.below hh
       replace hb := bend hb hh))
  clear o XO
  have xa0 := XA.c0
  have xa1 := XA.c1
  have xa2 := XA.c2
  have xa3 := XA.c3
  have xa4 := XA.c4
  have xa5 := XA.c5
  have xb0 := XB.c0
  have xb1 := XB.c1
  have xb2 := XB.c2
  have xb3 := XB.c3
  have xb4 := XB.c4
  have xb5 := XB.c5
  have xc0 := XC.c0
  have xc1 := XC.c1
  have xc2 := XC.c2
  have xc3 := XC.c3
  have xc4 := XC.c4
  have xc5 := XC.c5
  have xd0 := XD.c0
  have xd1 := XD.c1
  have xd2 := XD.c2
  go_upto_region 11 with (first
      | (go_at_call 30; (with_reducible refine (rsign_q d.qr (by decide) (by decide)).mono ?_); rintro e w_z ⟨rfl, hh⟩
         rw [HS.out]
         try replace p := p.below hh
         try replace q := q.below hh
         try replace r := r.below hh
         try replace XA := XA.below hh
         try replace XB := XB.below hh
         try replace XC := XC.below hh
         try replace d := d.below hh
         try replace XD := XD.below hh
         replace hb := bend hb hh
         have xa0 := XA.c0
         have xa1 := XA.c1
         have xa2 := XA.c2
         have xa3 := XA.c3
         have xa4 := XA.c4
         have xa5 := XA.c5
         have xb0 := XB.c0
         have xb1 := XB.c1
         have xb2 := XB.c2
         have xb3 := XB.c3
         have xb4 := XB.c4
         have xb5 := XB.c5
         have xc0 := XC.c0
         have xc1 := XC.c1
         have xc2 := XC.c2
         have xc3 := XC.c3
         have xc4 := XC.c4
         have xc5 := XC.c5
         have xd0 := XD.c0
         have xd1 := XD.c1
         have xd2 := XD.c2))
  clear d XD
  replace p := p.below (Below.refl _ _).drew
  replace q := q.below (Below.refl _ _).drew
  replace r := r.below (Below.refl _ _).drew
  replace XA := XA.below (Below.refl _ _).drew
  replace XB := XB.below (Below.refl _ _).drew
  replace XC := XC.below (Below.refl _ _).drew
  replace hb := hb.drew
  refine wp_region_held_drew (S := (fun w' => w'.cell? ⟨g_a, 0, none⟩ = some (.bool s_p) ∧ w'.cell? ⟨g_a, 1, none⟩ = some (.slice A_p n_p c_p) ∧ w'.cell? ⟨g_a, 2, none⟩ = some (.slice B_p m_p d_p) ∧ w'.cell? ⟨g_a, 3, none⟩ = some (.bool t_p) ∧ w'.cell? ⟨g_a, 4, none⟩ = some (.slice E_p i_p e_p) ∧ w'.cell? ⟨g_a, 5, none⟩ = some (.slice F_p j_p f_p) ∧ w'.cell? ⟨g_b, 0, none⟩ = some (.bool s_q) ∧ w'.cell? ⟨g_b, 1, none⟩ = some (.slice A_q n_q c_q) ∧ w'.cell? ⟨g_b, 2, none⟩ = some (.slice B_q m_q d_q) ∧ w'.cell? ⟨g_b, 3, none⟩ = some (.bool t_q) ∧ w'.cell? ⟨g_b, 4, none⟩ = some (.slice E_q i_q e_q) ∧ w'.cell? ⟨g_b, 5, none⟩ = some (.slice F_q j_q f_q) ∧ w'.cell? ⟨g_c, 0, none⟩ = some (.bool s_r) ∧ w'.cell? ⟨g_c, 1, none⟩ = some (.slice A_r n_r c_r) ∧ w'.cell? ⟨g_c, 2, none⟩ = some (.slice B_r m_r d_r) ∧ w'.cell? ⟨g_c, 3, none⟩ = some (.bool t_r) ∧ w'.cell? ⟨g_c, 4, none⟩ = some (.slice E_r i_r e_r) ∧ w'.cell? ⟨g_c, 5, none⟩ = some (.slice F_r j_r f_r))) (by kernel_rfl) ⟨XA.c0, XA.c1, XA.c2, XA.c3, XA.c4, XA.c5, XB.c0, XB.c1, XB.c2, XB.c3, XB.c4, XB.c5, XC.c0, XC.c1, XC.c2, XC.c3, XC.c4, XC.c5⟩ (fun hHeld => ?_)
  refine wpAnyH_take (i := 0) (oi := { dst := some 85, op := Op.load 83 (Operand.tmp 6), type := 83, pos := "law.go:75", after := #[], guard := none }) (v := ?_) rfl (by kernel_rfl) (by kernel_rfl) (by kernel_rfl) (fun _ _ _ h => h) (Or.inl ⟨by rfl, ?_⟩) hHeld ?_
  rotate_left
  · (intro w hSw; (try dsimp only at hSw); go_simp; try with_reducible rfl)
  simp only [Act.put, List.setIfInBounds_toArray, List.set_cons_zero, List.set_cons_succ]
  refine wpAnyH_take (i := 1) (oi := { dst := some 86, op := Op.load 83 (Operand.tmp 7), type := 83, pos := "law.go:75", after := #[], guard := none }) (v := ?_) rfl (by kernel_rfl) (by kernel_rfl) (by kernel_rfl) (fun _ _ _ h => h) (Or.inl ⟨by rfl, ?_⟩) hHeld ?_
  rotate_left
  · (intro w hSw; (try dsimp only at hSw); go_simp; try with_reducible rfl)
  simp only [Act.put, List.setIfInBounds_toArray, List.set_cons_zero, List.set_cons_succ]
  refine wpAnyH_take (i := 2) (oi := { dst := some 87, op := Op.load 83 (Operand.tmp 5), type := 83, pos := "law.go:75", after := #[], guard := none }) (v := ?_) rfl (by kernel_rfl) (by kernel_rfl) (by kernel_rfl) (fun _ _ _ h => h) (Or.inl ⟨by rfl, ?_⟩) hHeld ?_
  rotate_left
  · (intro w hSw; (try dsimp only at hSw); go_simp; try with_reducible rfl)
  simp only [Act.put, List.setIfInBounds_toArray, List.set_cons_zero, List.set_cons_succ]
  refine wpAnyH_ready (rs := [3]) (by kernel_rfl) (by simp) ?_
  refine AllReadyH.cons (o := { dst := some 88, op := Op.call { callee := Callee.value (Operand.func 88), args := #[Operand.tmp 85, Operand.tmp 86, Operand.tmp 87], argTypes := #[83, 83, 83] }, type := 3, pos := "law.go:75", after := #[{ on := 0, ground := Ground.data }, { on := 1, ground := Ground.data }, { on := 2, ground := Ground.data }], guard := none }) rfl (fun K1 hK1 => ?_) AllReadyH.nil
  go_simp
  first
    | (go_at_call 88; (with_reducible refine (porient_p q r p (by decide) (by decide)).mono ?_); rintro e w_z ⟨rfl, hh⟩
       rw [HO.out]
       try replace p := p.below hh
       try replace q := q.below hh
       try replace r := r.below hh
       try replace XA := XA.below hh
       try replace XB := XB.below hh
       try replace XC := XC.below hh
       replace hb := bend hb hh)
  refine hK1.out _ _ ⟨XA.c0, XA.c1, XA.c2, XA.c3, XA.c4, XA.c5, XB.c0, XB.c1, XB.c2, XB.c3, XB.c4, XB.c5, XC.c0, XC.c1, XC.c2, XC.c3, XC.c4, XC.c5⟩ (fun hHeld => ?_)
  clear hK1 K1
  refine wpAnyH_take (i := 4) (oi := { dst := some 89, op := Op.binOp BinOp.neq 3 (Operand.tmp 88) (Operand.const (Value.int IntKind.i64 0)) 3, type := 4, pos := "law.go:75", after := #[{ on := 3, ground := Ground.data }], guard := none }) (v := ?_) rfl (by kernel_rfl) (by kernel_rfl) (by kernel_rfl) (fun _ _ _ h => h) (Or.inl ⟨by rfl, ?_⟩) hHeld ?_
  rotate_left
  · (intro w hSw; (try dsimp only at hSw); go_simp; try with_reducible rfl)
  simp only [Act.put, List.setIfInBounds_toArray, List.set_cons_zero, List.set_cons_succ]
  refine wpAnyH_take (i := 5) (oi := { dst := some 90, op := Op.move (Operand.tmp 89), type := 4, pos := "law.go:75", after := #[{ on := 4, ground := Ground.data }, { on := 3, ground := Ground.chain }], guard := none }) (v := ?_) rfl (by kernel_rfl) (by kernel_rfl) (by kernel_rfl) (fun _ _ _ h => h) (Or.inl ⟨by rfl, ?_⟩) hHeld ?_
  rotate_left
  · (intro w hSw; (try dsimp only at hSw); go_simp; try with_reducible rfl)
  simp only [Act.put, List.setIfInBounds_toArray, List.set_cons_zero, List.set_cons_succ]
  refine wpAnyH_take (i := 6) (oi := { dst := some 91, op := Op.load 83 (Operand.tmp 5), type := 83, pos := "law.go:75", after := #[{ on := 5, ground := Ground.guard }], guard := some (5, false) }) (v := undef) rfl (by kernel_rfl) (by kernel_rfl) (by kernel_rfl) (fun _ _ _ h => h) (Or.inr ⟨by rfl, rfl⟩) hHeld ?_
  simp only [Act.put, List.setIfInBounds_toArray, List.set_cons_zero, List.set_cons_succ]
  refine wpAnyH_take (i := 7) (oi := { dst := some 92, op := Op.load 83 (Operand.tmp 6), type := 83, pos := "law.go:75", after := #[{ on := 5, ground := Ground.guard }], guard := some (5, false) }) (v := undef) rfl (by kernel_rfl) (by kernel_rfl) (by kernel_rfl) (fun _ _ _ h => h) (Or.inr ⟨by rfl, rfl⟩) hHeld ?_
  simp only [Act.put, List.setIfInBounds_toArray, List.set_cons_zero, List.set_cons_succ]
  refine wpAnyH_take (i := 8) (oi := { dst := some 93, op := Op.call { callee := Callee.value (Operand.func 75), args := #[Operand.tmp 91, Operand.tmp 92], argTypes := #[83, 83] }, type := 83, pos := "law.go:75", after := #[{ on := 6, ground := Ground.data }, { on := 7, ground := Ground.data }, { on := 5, ground := Ground.chain }, { on := 5, ground := Ground.guard }], guard := some (5, false) }) (v := undef) rfl (by kernel_rfl) (by kernel_rfl) (by kernel_rfl) (fun _ _ _ h => h) (Or.inr ⟨by rfl, rfl⟩) hHeld ?_
  simp only [Act.put, List.setIfInBounds_toArray, List.set_cons_zero, List.set_cons_succ]
  refine wpAnyH_take (i := 9) (oi := { dst := some 94, op := Op.load 83 (Operand.tmp 5), type := 83, pos := "law.go:75", after := #[{ on := 5, ground := Ground.guard }], guard := some (5, false) }) (v := undef) rfl (by kernel_rfl) (by kernel_rfl) (by kernel_rfl) (fun _ _ _ h => h) (Or.inr ⟨by rfl, rfl⟩) hHeld ?_
  simp only [Act.put, List.setIfInBounds_toArray, List.set_cons_zero, List.set_cons_succ]
  refine wpAnyH_take (i := 10) (oi := { dst := some 95, op := Op.load 83 (Operand.tmp 7), type := 83, pos := "law.go:75", after := #[{ on := 5, ground := Ground.guard }], guard := some (5, false) }) (v := undef) rfl (by kernel_rfl) (by kernel_rfl) (by kernel_rfl) (fun _ _ _ h => h) (Or.inr ⟨by rfl, rfl⟩) hHeld ?_
  simp only [Act.put, List.setIfInBounds_toArray, List.set_cons_zero, List.set_cons_succ]
  refine wpAnyH_take (i := 11) (oi := { dst := some 96, op := Op.call { callee := Callee.value (Operand.func 75), args := #[Operand.tmp 94, Operand.tmp 95], argTypes := #[83, 83] }, type := 83, pos := "law.go:75", after := #[{ on := 9, ground := Ground.data }, { on := 10, ground := Ground.data }, { on := 8, ground := Ground.chain }, { on := 5, ground := Ground.guard }], guard := some (5, false) }) (v := undef) rfl (by kernel_rfl) (by kernel_rfl) (by kernel_rfl) (fun _ _ _ h => h) (Or.inr ⟨by rfl, rfl⟩) hHeld ?_
  simp only [Act.put, List.setIfInBounds_toArray, List.set_cons_zero, List.set_cons_succ]
  refine wpAnyH_take (i := 12) (oi := { dst := some 97, op := Op.call { callee := Callee.value (Operand.func 81), args := #[Operand.tmp 93, Operand.tmp 96], argTypes := #[83, 83] }, type := 26, pos := "law.go:75", after := #[{ on := 8, ground := Ground.data }, { on := 11, ground := Ground.data }, { on := 11, ground := Ground.chain }, { on := 5, ground := Ground.guard }], guard := some (5, false) }) (v := undef) rfl (by kernel_rfl) (by kernel_rfl) (by kernel_rfl) (fun _ _ _ h => h) (Or.inr ⟨by rfl, rfl⟩) hHeld ?_
  simp only [Act.put, List.setIfInBounds_toArray, List.set_cons_zero, List.set_cons_succ]
  refine wpAnyH_take (i := 13) (oi := { dst := some 98, op := Op.call { callee := Callee.value (Operand.func 30), args := #[Operand.tmp 97], argTypes := #[26] }, type := 3, pos := "law.go:75", after := #[{ on := 12, ground := Ground.data }, { on := 12, ground := Ground.chain }, { on := 5, ground := Ground.guard }], guard := some (5, false) }) (v := undef) rfl (by kernel_rfl) (by kernel_rfl) (by kernel_rfl) (fun _ _ _ h => h) (Or.inr ⟨by rfl, rfl⟩) hHeld ?_
  simp only [Act.put, List.setIfInBounds_toArray, List.set_cons_zero, List.set_cons_succ]
  refine wpAnyH_take (i := 14) (oi := { dst := some 99, op := Op.binOp BinOp.gtr 3 (Operand.tmp 98) (Operand.const (Value.int IntKind.i64 0)) 3, type := 4, pos := "law.go:75", after := #[{ on := 13, ground := Ground.data }, { on := 5, ground := Ground.guard }], guard := some (5, false) }) (v := undef) rfl (by kernel_rfl) (by kernel_rfl) (by kernel_rfl) (fun _ _ _ h => h) (Or.inr ⟨by rfl, rfl⟩) hHeld ?_
  simp only [Act.put, List.setIfInBounds_toArray, List.set_cons_zero, List.set_cons_succ]
  refine wpAnyH_take (i := 15) (oi := { dst := some 100, op := Op.pick (Operand.tmp 90) (Operand.const (Value.bool true)) (Operand.tmp 99), type := 4, pos := "law.go:75", after := #[{ on := 5, ground := Ground.data }, { on := 14, ground := Ground.data }], guard := none }) (v := ?_) rfl (by kernel_rfl) (by kernel_rfl) (by kernel_rfl) (fun _ _ _ h => h) (Or.inl ⟨by rfl, ?_⟩) hHeld ?_
  rotate_left
  · (intro w hSw; (try dsimp only at hSw); go_simp; try with_reducible rfl)
  simp only [Act.put, List.setIfInBounds_toArray, List.set_cons_zero, List.set_cons_succ]
  refine wpAnyH_take (i := 16) (oi := { dst := some 101, op := Op.move (Operand.tmp 100), type := 4, pos := "law.go:75", after := #[{ on := 15, ground := Ground.data }, { on := 13, ground := Ground.chain }], guard := none }) (v := ?_) rfl (by kernel_rfl) (by kernel_rfl) (by kernel_rfl) (fun _ _ _ h => h) (Or.inl ⟨by rfl, ?_⟩) hHeld ?_
  rotate_left
  · (intro w hSw; (try dsimp only at hSw); go_simp; try with_reducible rfl)
  simp only [Act.put, List.setIfInBounds_toArray, List.set_cons_zero, List.set_cons_succ]
  refine wpAnyH_take (i := 17) (oi := { dst := some 102, op := Op.load 83 (Operand.tmp 6), type := 83, pos := "law.go:75", after := #[{ on := 16, ground := Ground.guard }], guard := some (16, false) }) (v := undef) rfl (by kernel_rfl) (by kernel_rfl) (by kernel_rfl) (fun _ _ _ h => h) (Or.inr ⟨by rfl, rfl⟩) hHeld ?_
  simp only [Act.put, List.setIfInBounds_toArray, List.set_cons_zero, List.set_cons_succ]
  refine wpAnyH_take (i := 18) (oi := { dst := some 103, op := Op.load 83 (Operand.tmp 7), type := 83, pos := "law.go:75", after := #[{ on := 16, ground := Ground.guard }], guard := some (16, false) }) (v := undef) rfl (by kernel_rfl) (by kernel_rfl) (by kernel_rfl) (fun _ _ _ h => h) (Or.inr ⟨by rfl, rfl⟩) hHeld ?_
  simp only [Act.put, List.setIfInBounds_toArray, List.set_cons_zero, List.set_cons_succ]
  refine wpAnyH_take (i := 19) (oi := { dst := some 104, op := Op.call { callee := Callee.value (Operand.func 85), args := #[Operand.tmp 102, Operand.tmp 103], argTypes := #[83, 83] }, type := 4, pos := "law.go:75", after := #[{ on := 17, ground := Ground.data }, { on := 18, ground := Ground.data }, { on := 16, ground := Ground.chain }, { on := 16, ground := Ground.guard }], guard := some (16, false) }) (v := undef) rfl (by kernel_rfl) (by kernel_rfl) (by kernel_rfl) (fun _ _ _ h => h) (Or.inr ⟨by rfl, rfl⟩) hHeld ?_
  simp only [Act.put, List.setIfInBounds_toArray, List.set_cons_zero, List.set_cons_succ]
  refine wpAnyH_take (i := 20) (oi := { dst := some 105, op := Op.pick (Operand.tmp 101) (Operand.const (Value.bool true)) (Operand.tmp 104), type := 4, pos := "law.go:75", after := #[{ on := 16, ground := Ground.data }, { on := 19, ground := Ground.data }], guard := none }) (v := ?_) rfl (by kernel_rfl) (by kernel_rfl) (by kernel_rfl) (fun _ _ _ h => h) (Or.inl ⟨by rfl, ?_⟩) hHeld ?_
  rotate_left
  · (intro w hSw; (try dsimp only at hSw); go_simp; try with_reducible rfl)
  simp only [Act.put, List.setIfInBounds_toArray, List.set_cons_zero, List.set_cons_succ]
  refine wpAnyH_take (i := 21) (oi := { dst := some 106, op := Op.move (Operand.tmp 105), type := 4, pos := "law.go:75", after := #[{ on := 20, ground := Ground.data }, { on := 19, ground := Ground.chain }], guard := none }) (v := ?_) rfl (by kernel_rfl) (by kernel_rfl) (by kernel_rfl) (fun _ _ _ h => h) (Or.inl ⟨by rfl, ?_⟩) hHeld ?_
  rotate_left
  · (intro w hSw; (try dsimp only at hSw); go_simp; try with_reducible rfl)
  simp only [Act.put, List.setIfInBounds_toArray, List.set_cons_zero, List.set_cons_succ]
  refine wpAnyH_ready (rs := [22]) (by kernel_rfl) (by simp) ?_
  refine AllReadyH.cons (o := { dst := some 107, op := Op.call { callee := Callee.value (Operand.func 67), args := #[], argTypes := #[] }, type := 4, pos := "law.go:75", after := #[{ on := 21, ground := Ground.chain }, { on := 21, ground := Ground.guard }], guard := some (21, true) }) rfl (fun K1 hK1 => ?_) AllReadyH.nil
  go_simp
  first
    | (go_at_call 67; (with_reducible refine (pwakes_any _).mono ?_); rintro e w_z ⟨rfl, hh⟩
       try replace XA := XA.below hh
       try replace XB := XB.below hh
       try replace XC := XC.below hh
       replace hb := bend hb hh)
  refine hK1.out _ _ ⟨XA.c0, XA.c1, XA.c2, XA.c3, XA.c4, XA.c5, XB.c0, XB.c1, XB.c2, XB.c3, XB.c4, XB.c5, XC.c0, XC.c1, XC.c2, XC.c3, XC.c4, XC.c5⟩ (fun hHeld => ?_)
  clear hK1 K1
  refine wpAnyH_take (i := 23) (oi := { dst := some 108, op := Op.pick (Operand.tmp 106) (Operand.tmp 107) (Operand.const (Value.bool false)), type := 4, pos := "law.go:75", after := #[{ on := 21, ground := Ground.data }, { on := 22, ground := Ground.data }], guard := none }) (v := ?_) rfl (by kernel_rfl) (by kernel_rfl) (by kernel_rfl) (fun _ _ _ h => h) (Or.inl ⟨by rfl, ?_⟩) hHeld ?_
  rotate_left
  · (intro w hSw; (try dsimp only at hSw); go_simp; try with_reducible rfl)
  simp only [Act.put, List.setIfInBounds_toArray, List.set_cons_zero, List.set_cons_succ]
  refine wpAnyH_take (i := 24) (oi := { dst := some 4, op := Op.assign (Operand.tmp 108), type := 4, pos := "law.go:75", after := #[{ on := 23, ground := Ground.data }, { on := 22, ground := Ground.chain }, { on := 0, ground := Ground.phase }, { on := 1, ground := Ground.phase }, { on := 2, ground := Ground.phase }, { on := 3, ground := Ground.phase }, { on := 4, ground := Ground.phase }, { on := 5, ground := Ground.phase }, { on := 6, ground := Ground.phase }, { on := 7, ground := Ground.phase }, { on := 8, ground := Ground.phase }, { on := 9, ground := Ground.phase }, { on := 10, ground := Ground.phase }, { on := 11, ground := Ground.phase }, { on := 12, ground := Ground.phase }, { on := 13, ground := Ground.phase }, { on := 14, ground := Ground.phase }, { on := 15, ground := Ground.phase }, { on := 16, ground := Ground.phase }, { on := 17, ground := Ground.phase }, { on := 18, ground := Ground.phase }, { on := 19, ground := Ground.phase }, { on := 20, ground := Ground.phase }, { on := 21, ground := Ground.phase }, { on := 22, ground := Ground.phase }, { on := 23, ground := Ground.phase }], guard := none }) (v := ?_) rfl (by kernel_rfl) (by kernel_rfl) (by kernel_rfl) (fun _ _ _ h => h) (Or.inl ⟨by rfl, ?_⟩) hHeld ?_
  rotate_left
  · (intro w hSw; (try dsimp only at hSw); go_simp; try with_reducible rfl)
  simp only [Act.put, List.setIfInBounds_toArray, List.set_cons_zero, List.set_cons_succ]
  refine wpAnyH_done (by kernel_rfl) ?_ _
  clear hHeld
  go_wp2_with fail
  go_ret
  exact ⟨rfl, hb⟩
set_option maxRecDepth 100000 in
set_option maxHeartbeats 16000000 in
theorem near_o2 {w : World} {s_p t_p : Bool} {A_p B_p E_p F_p : Option Addr} {n_p c_p m_p d_p i_p e_p j_p f_p : Nat} {s_q t_q : Bool} {A_q B_q E_q F_q : Option Addr} {n_q c_q m_q d_q i_q e_q j_q f_q : Nat} {s_r t_r : Bool} {A_r B_r E_r F_r : Option Addr} {n_r c_r m_r d_r i_r e_r j_r f_r : Nat} (t : Nat) {px py ax ay bx by_ : Rat} (p : PR w s_p A_p n_p c_p B_p m_p d_p t_p E_p i_p e_p F_p j_p f_p px py 6) (q : PR w s_q A_q n_q c_q B_q m_q d_q t_q E_q i_q e_q F_q j_q f_q ax ay 6) (r : PR w s_r A_r n_r c_r B_r m_r d_r t_r E_r i_r e_r F_r j_r f_r bx by_ 6) (h : (((n_p ≤ 6 ∧ m_p ≤ 6) ∧ i_p ≤ 6 ∧ j_p ≤ 6) ∧ ((n_q ≤ 6 ∧ m_q ≤ 6) ∧ i_q ≤ 6 ∧ j_q ≤ 6) ∧ ((n_r ≤ 6 ∧ m_r ≤ 6) ∧ i_r ≤ 6 ∧ j_r ≤ 6))) (ht : t ≤ 255) (hd : segQ px py ax ay bx by_ ≠ 0) (hK : orientQ ax ay bx by_ px py = -1) :
    Calls Tryz.prog 12 #[.agg #[.bool s_p, .slice A_p n_p c_p, .slice B_p m_p d_p, .bool t_p, .slice E_p i_p e_p, .slice F_p j_p f_p, .bool s_q, .slice A_q n_q c_q, .slice B_q m_q d_q, .bool t_q, .slice E_q i_q e_q, .slice F_q j_q f_q, .bool s_r, .slice A_r n_r c_r, .slice B_r m_r d_r, .bool t_r, .slice E_r i_r e_r, .slice F_r j_r f_r], .int .u8 (t : Int)] w fun e w' => e = .returned (.bool true) ∧ Below w.heap.size w w' := by
  have HL : Hid (decide (((n_p ≤ 6 ∧ m_p ≤ 6) ∧ i_p ≤ 6 ∧ j_p ≤ 6) ∧ ((n_q ≤ 6 ∧ m_q ≤ 6) ∧ i_q ≤ 6 ∧ j_q ≤ 6) ∧ ((n_r ≤ 6 ∧ m_r ≤ 6) ∧ i_r ≤ 6 ∧ j_r ≤ 6)) = true) := decide_eq_true h
  have hti : (t : Int) ≤ 255 := by omega
  have hr := tq_range ht
  obtain ⟨M, hM, hM0⟩ : ∃ M, cmpQ (segQ px py ax ay bx by_) (farQ px py (ax + (bx - ax) * (Rat.divInt (t : Int) 255)) (ay + (by_ - ay) * (Rat.divInt (t : Int) 255))) = M ∧ decide (0 < M) = false := ⟨_, rfl, decide_eq_false (by have := cmpQ_le.2 (seg_near px py ax ay bx by_ (Rat.divInt (t : Int) 255) hr.1 hr.2 rfl rfl); omega)⟩
  have HM := Lib.hid hM
  have HE : Hid (sgnQ (segQ (ax + (bx - ax) * (Rat.divInt (t : Int) 255)) (ay + (by_ - ay) * (Rat.divInt (t : Int) 255)) ax ay bx by_) = 0) := by show _ = _; rw [seg_on ax ay bx by_ (Rat.divInt (t : Int) 255) hr.1 hr.2 rfl rfl]; rfl
  have HB : Hid (cmpQ (segQ px py ax ay bx by_) (segQ px py bx by_ ax ay) = 0) := cmpQ_nul.2 (seg_back px py ax ay bx by_).symm
  have HS : Hid (sgnQ (segQ px py ax ay bx by_) = 1) := by
    show _ = _
    have h0 := seg_nn px py ax ay bx by_
    unfold sgnQ
    rw [if_neg (Rat.not_lt.2 h0), if_neg hd]
  have HO := Lib.hid hK
  clear hK
  clear h hd hr hM ht
  go_enter Tryz.func12, Tryz.ntmps12
  go_upto_region 1 with (fail)
  generalize hW : (w.alloc (Obj.cells #[Value.bool s_p, Value.slice A_p n_p c_p, Value.slice B_p m_p d_p, Value.bool t_p, Value.slice E_p i_p e_p, Value.slice F_p j_p f_p, Value.bool s_q, Value.slice A_q n_q c_q, Value.slice B_q m_q d_q, Value.bool t_q, Value.slice E_q i_q e_q, Value.slice F_q j_q f_q, Value.bool s_r, Value.slice A_r n_r c_r, Value.slice B_r m_r d_r, Value.bool t_r, Value.slice E_r i_r e_r, Value.slice F_r j_r f_r] 109)) = W
  have hb : Below w.heap.size w W := by subst hW; exact ((Below.refl _ _).alloc (Nat.le_refl _) _)
  have XL0 : BA3 W (w.heap.size) (Value.bool s_p) (Value.slice A_p n_p c_p) (Value.slice B_p m_p d_p) (Value.bool t_p) (Value.slice E_p i_p e_p) (Value.slice F_p j_p f_p) (Value.bool s_q) (Value.slice A_q n_q c_q) (Value.slice B_q m_q d_q) (Value.bool t_q) (Value.slice E_q i_q e_q) (Value.slice F_q j_q f_q) (Value.bool s_r) (Value.slice A_r n_r c_r) (Value.slice B_r m_r d_r) (Value.bool t_r) (Value.slice E_r i_r e_r) (Value.slice F_r j_r f_r) := by subst hW; exact BA3.new' _ _ _ _ _ _ _ _ _ _ _ _ _ _ _ _ _ _ _ _ rfl
  have hzW : W.heap.size = w.heap.size + 1 := by subst hW; simp
  clear hW
  replace p := p.below hb
  replace q := q.below hb
  replace r := r.below hb
  refine near_region (by simp) rfl XL0 ?_
  intro V w_1 g_a g_b g_c XA hg_a hva XB hg_b hvb XC hg_c hvc hne1 hne2 hne3 hh
  simp only [putAll, Act.put, List.setIfInBounds_toArray, List.set_cons_zero, List.set_cons_succ, hva, hvb, hvc]
  clear hva hvb hvc XL0 hne1 hne2 hne3
  replace p := p.below hh
  replace q := q.below hh
  replace r := r.below hh
  replace hb := bend hb hh
  have xa0 := XA.c0
  have xa1 := XA.c1
  have xa2 := XA.c2
  have xa3 := XA.c3
  have xa4 := XA.c4
  have xa5 := XA.c5
  have xb0 := XB.c0
  have xb1 := XB.c1
  have xb2 := XB.c2
  have xb3 := XB.c3
  have xb4 := XB.c4
  have xb5 := XB.c5
  have xc0 := XC.c0
  have xc1 := XC.c1
  have xc2 := XC.c2
  have xc3 := XC.c3
  have xc4 := XC.c4
  have xc5 := XC.c5
  go_wp2_with fail
  generalize hW : (w_1.alloc (Obj.cells #[Value.bool s_p, Value.slice A_p n_p c_p, Value.slice B_p m_p d_p, Value.bool t_p, Value.slice E_p i_p e_p, Value.slice F_p j_p f_p, Value.bool s_q, Value.slice A_q n_q c_q, Value.slice B_q m_q d_q, Value.bool t_q, Value.slice E_q i_q e_q, Value.slice F_q j_q f_q, Value.bool s_r, Value.slice A_r n_r c_r, Value.slice B_r m_r d_r, Value.bool t_r, Value.slice E_r i_r e_r, Value.slice F_r j_r f_r] 83)) = W2
  have hh : Below w_1.heap.size w_1 W2 := by subst hW; exact ((Below.refl _ _).alloc (Nat.le_refl _) _)
  have XL : BL3 W2 (w_1.heap.size) (Value.bool s_p) (Value.slice A_p n_p c_p) (Value.slice B_p m_p d_p) (Value.bool t_p) (Value.slice E_p i_p e_p) (Value.slice F_p j_p f_p) (Value.bool s_q) (Value.slice A_q n_q c_q) (Value.slice B_q m_q d_q) (Value.bool t_q) (Value.slice E_q i_q e_q) (Value.slice F_q j_q f_q) (Value.bool s_r) (Value.slice A_r n_r c_r) (Value.slice B_r m_r d_r) (Value.bool t_r) (Value.slice E_r i_r e_r) (Value.slice F_r j_r f_r) := by subst hW; exact BL3.new' _ _ _ _ _ _ _ _ _ _ _ _ _ _ _ _ _ _ _ _ rfl
  have hzW2 : W2.heap.size = w_1.heap.size + 1 := by subst hW; simp
  clear hW
  try replace p := p.below hh
  try replace q := q.below hh
  try replace r := r.below hh
  try replace XA := XA.below hh
  try replace XB := XB.below hh
  try replace XC := XC.below hh
  replace hb := bend hb hh
  have xa0 := XA.c0
  have xa1 := XA.c1
  have xa2 := XA.c2
  have xa3 := XA.c3
  have xa4 := XA.c4
  have xa5 := XA.c5
  have xb0 := XB.c0
  have xb1 := XB.c1
  have xb2 := XB.c2
  have xb3 := XB.c3
  have xb4 := XB.c4
  have xb5 := XB.c5
  have xc0 := XC.c0
  have xc1 := XC.c1
  have xc2 := XC.c2
  have xc3 := XC.c3
  have xc4 := XC.c4
  have xc5 := XC.c5
  go_upto_region 5 with (first
      | (go_at_call 66; (with_reducible refine (fair3 XL true HL.out).mono ?_); rintro e w_z ⟨rfl, hh⟩
         clear XL
         try replace p := p.below hh
         try replace q := q.below hh
         try replace r := r.below hh
         try replace XA := XA.below hh
         try replace XB := XB.below hh
         try replace XC := XC.below hh
         replace hb := bend hb hh
         have xa0 := XA.c0
         have xa1 := XA.c1
         have xa2 := XA.c2
         have xa3 := XA.c3
         have xa4 := XA.c4
         have xa5 := XA.c5
         have xb0 := XB.c0
         have xb1 := XB.c1
         have xb2 := XB.c2
         have xb3 := XB.c3
         have xb4 := XB.c4
         have xb5 := XB.c5
         have xc0 := XC.c0
         have xc1 := XC.c1
         have xc2 := XC.c2
         have xc3 := XC.c3
         have xc4 := XC.c4
         have xc5 := XC.c5)
      | (go_at_call 42; (with_reducible refine (rof_q (t : Int) 255 (by omega) (by omega) (by decide) (by decide) (by decide) _).mono ?_); rintro e w_k ⟨s_k, A_k, n_k, c_k, B_k, m_k, d_k, rfl, k, hh⟩
         try replace p := p.below hh
         try replace q := q.below hh
         try replace r := r.below hh
         try replace XA := XA.below hh
         try replace XB := XB.below hh
         try replace XC := XC.below hh
         replace hb := bend hb hh
         have xa0 := XA.c0
         have xa1 := XA.c1
         have xa2 := XA.c2
         have xa3 := XA.c3
         have xa4 := XA.c4
         have xa5 := XA.c5
         have xb0 := XB.c0
         have xb1 := XB.c1
         have xb2 := XB.c2
         have xb3 := XB.c3
         have xb4 := XB.c4
         have xb5 := XB.c5
         have xc0 := XC.c0
         have xc1 := XC.c1
         have xc2 := XC.c2
         have xc3 := XC.c3
         have xc4 := XC.c4
         have xc5 := XC.c5))
  generalize hW : (w_k.alloc (Obj.cells #[Value.bool s_k, Value.slice A_k n_k c_k, Value.slice B_k m_k d_k] 26)) = W3
  have hh : Below w_k.heap.size w_k W3 := by subst hW; exact ((Below.refl _ _).alloc (Nat.le_refl _) _)
  have XK : B3 W3 (w_k.heap.size) (Value.bool s_k) (Value.slice A_k n_k c_k) (Value.slice B_k m_k d_k) := by subst hW; exact B3.new' _ _ _ _ _ rfl
  have hzW3 : W3.heap.size = w_k.heap.size + 1 := by subst hW; simp
  clear hW
  try replace p := p.below hh
  try replace q := q.below hh
  try replace r := r.below hh
  try replace XA := XA.below hh
  try replace XB := XB.below hh
  try replace XC := XC.below hh
  try replace k := k.below hh
  replace hb := bend hb hh
  have xa0 := XA.c0
  have xa1 := XA.c1
  have xa2 := XA.c2
  have xa3 := XA.c3
  have xa4 := XA.c4
  have xa5 := XA.c5
  have xb0 := XB.c0
  have xb1 := XB.c1
  have xb2 := XB.c2
  have xb3 := XB.c3
  have xb4 := XB.c4
  have xb5 := XB.c5
  have xc0 := XC.c0
  have xc1 := XC.c1
  have xc2 := XC.c2
  have xc3 := XC.c3
  have xc4 := XC.c4
  have xc5 := XC.c5
  have xk0 := XK.c0
  have xk1 := XK.c1
  have xk2 := XK.c2
  go_upto_region 6 with (first
      | (go_at_call 79; (with_reducible refine (pmix_p q r k.qr (by decide) (by decide) (by decide) (by decide) (by decide) (by decide)).mono ?_); rintro e w_o ⟨s_o, A_o, n_o, c_o, B_o, m_o, d_o, t_o, E_o, i_o, e_o, F_o, j_o, f_o, rfl, o, hh⟩
         try replace p := p.below hh
         try replace q := q.below hh
         try replace r := r.below hh
         try replace XA := XA.below hh
         try replace XB := XB.below hh
         try replace XC := XC.below hh
         try replace k := k.below hh
         try replace XK := XK.below hh
         replace hb := bend hb hh
         have xa0 := XA.c0
         have xa1 := XA.c1
         have xa2 := XA.c2
         have xa3 := XA.c3
         have xa4 := XA.c4
         have xa5 := XA.c5
         have xb0 := XB.c0
         have xb1 := XB.c1
         have xb2 := XB.c2
         have xb3 := XB.c3
         have xb4 := XB.c4
         have xb5 := XB.c5
         have xc0 := XC.c0
         have xc1 := XC.c1
         have xc2 := XC.c2
         have xc3 := XC.c3
         have xc4 := XC.c4
         have xc5 := XC.c5
         have xk0 := XK.c0
         have xk1 := XK.c1
         have xk2 := XK.c2))
  generalize hW : (w_o.alloc (Obj.cells #[Value.bool s_o, Value.slice A_o n_o c_o, Value.slice B_o m_o d_o, Value.bool t_o, Value.slice E_o i_o e_o, Value.slice F_o j_o f_o] 83)) = W4
  have hh : Below w_o.heap.size w_o W4 := by subst hW; exact ((Below.refl _ _).alloc (Nat.le_refl _) _)
  have XO : B6 W4 (w_o.heap.size) (Value.bool s_o) (Value.slice A_o n_o c_o) (Value.slice B_o m_o d_o) (Value.bool t_o) (Value.slice E_o i_o e_o) (Value.slice F_o j_o f_o) := by subst hW; exact B6.new' _ _ _ _ _ _ _ _ rfl
  have hzW4 : W4.heap.size = w_o.heap.size + 1 := by subst hW; simp
  clear hW
  try replace p := p.below hh
  try replace q := q.below hh
  try replace r := r.below hh
  try replace XA := XA.below hh
  try replace XB := XB.below hh
  try replace XC := XC.below hh
  try replace k := k.below hh
  try replace XK := XK.below hh
  try replace o := o.below hh
  replace hb := bend hb hh
  clear k XK
  have xa0 := XA.c0
  have xa1 := XA.c1
  have xa2 := XA.c2
  have xa3 := XA.c3
  have xa4 := XA.c4
  have xa5 := XA.c5
  have xb0 := XB.c0
  have xb1 := XB.c1
  have xb2 := XB.c2
  have xb3 := XB.c3
  have xb4 := XB.c4
  have xb5 := XB.c5
  have xc0 := XC.c0
  have xc1 := XC.c1
  have xc2 := XC.c2
  have xc3 := XC.c3
  have xc4 := XC.c4
  have xc5 := XC.c5
  have xo0 := XO.c0
  have xo1 := XO.c1
  have xo2 := XO.c2
  have xo3 := XO.c3
  have xo4 := XO.c4
  have xo5 := XO.c5
  go_upto_region 7 with (first
      | (go_at_call 92; (with_reducible refine (ptoseg_p p q r (by decide) (by decide) (by decide) (by decide)).mono ?_); rintro e w_d ⟨s_d, A_d, n_d, c_d, B_d, m_d, d_d, rfl, d, hh⟩
         try replace p := p.below hh
         try replace q := q.below hh
         try replace r := r.below hh
         try replace XA := XA.below hh
         try replace XB := XB.below hh
         try replace XC := XC.below hh
         try replace o := o.below hh
         try replace XO := XO.below hh
         replace hb := bend hb hh
         have xa0 := XA.c0
         have xa1 := XA.c1
         have xa2 := XA.c2
         have xa3 := XA.c3
         have xa4 := XA.c4
         have xa5 := XA.c5
         have xb0 := XB.c0
         have xb1 := XB.c1
         have xb2 := XB.c2
         have xb3 := XB.c3
         have xb4 := XB.c4
         have xb5 := XB.c5
         have xc0 := XC.c0
         have xc1 := XC.c1
         have xc2 := XC.c2
         have xc3 := XC.c3
         have xc4 := XC.c4
         have xc5 := XC.c5
         have xo0 := XO.c0
         have xo1 := XO.c1
         have xo2 := XO.c2
         have xo3 := XO.c3
         have xo4 := XO.c4
         have xo5 := XO.c5))
  generalize hW : (w_d.alloc (Obj.cells #[Value.bool s_d, Value.slice A_d n_d c_d, Value.slice B_d m_d d_d] 26)) = W5
  have hh : Below w_d.heap.size w_d W5 := by subst hW; exact ((Below.refl _ _).alloc (Nat.le_refl _) _)
  have XD : B3 W5 (w_d.heap.size) (Value.bool s_d) (Value.slice A_d n_d c_d) (Value.slice B_d m_d d_d) := by subst hW; exact B3.new' _ _ _ _ _ rfl
  have hzW5 : W5.heap.size = w_d.heap.size + 1 := by subst hW; simp
  clear hW
  try replace p := p.below hh
  try replace q := q.below hh
  try replace r := r.below hh
  try replace XA := XA.below hh
  try replace XB := XB.below hh
  try replace XC := XC.below hh
  try replace o := o.below hh
  try replace XO := XO.below hh
  try replace d := d.below hh
  replace hb := bend hb hh
  replace p := p.below (Below.refl _ _).drew
  replace q := q.below (Below.refl _ _).drew
  replace r := r.below (Below.refl _ _).drew
  replace XA := XA.below (Below.refl _ _).drew
  replace XB := XB.below (Below.refl _ _).drew
  replace XC := XC.below (Below.refl _ _).drew
  replace o := o.below (Below.refl _ _).drew
  replace XO := XO.below (Below.refl _ _).drew
  replace d := d.below (Below.refl _ _).drew
  replace XD := XD.below (Below.refl _ _).drew
  replace hb := hb.drew
  go_region_held3 (fun w' => w'.cell? ⟨g_a, 0, none⟩ = some (.bool s_p) ∧ w'.cell? ⟨g_a, 1, none⟩ = some (.slice A_p n_p c_p) ∧ w'.cell? ⟨g_a, 2, none⟩ = some (.slice B_p m_p d_p) ∧ w'.cell? ⟨g_a, 3, none⟩ = some (.bool t_p) ∧ w'.cell? ⟨g_a, 4, none⟩ = some (.slice E_p i_p e_p) ∧ w'.cell? ⟨g_a, 5, none⟩ = some (.slice F_p j_p f_p) ∧ w'.cell? ⟨g_b, 0, none⟩ = some (.bool s_q) ∧ w'.cell? ⟨g_b, 1, none⟩ = some (.slice A_q n_q c_q) ∧ w'.cell? ⟨g_b, 2, none⟩ = some (.slice B_q m_q d_q) ∧ w'.cell? ⟨g_b, 3, none⟩ = some (.bool t_q) ∧ w'.cell? ⟨g_b, 4, none⟩ = some (.slice E_q i_q e_q) ∧ w'.cell? ⟨g_b, 5, none⟩ = some (.slice F_q j_q f_q) ∧ w'.cell? ⟨g_c, 0, none⟩ = some (.bool s_r) ∧ w'.cell? ⟨g_c, 1, none⟩ = some (.slice A_r n_r c_r) ∧ w'.cell? ⟨g_c, 2, none⟩ = some (.slice B_r m_r d_r) ∧ w'.cell? ⟨g_c, 3, none⟩ = some (.bool t_r) ∧ w'.cell? ⟨g_c, 4, none⟩ = some (.slice E_r i_r e_r) ∧ w'.cell? ⟨g_c, 5, none⟩ = some (.slice F_r j_r f_r) ∧ w'.cell? ⟨w_o.heap.size, 0, none⟩ = some (.bool s_o) ∧ w'.cell? ⟨w_o.heap.size, 1, none⟩ = some (.slice A_o n_o c_o) ∧ w'.cell? ⟨w_o.heap.size, 2, none⟩ = some (.slice B_o m_o d_o) ∧ w'.cell? ⟨w_o.heap.size, 3, none⟩ = some (.bool t_o) ∧ w'.cell? ⟨w_o.heap.size, 4, none⟩ = some (.slice E_o i_o e_o) ∧ w'.cell? ⟨w_o.heap.size, 5, none⟩ = some (.slice F_o j_o f_o) ∧ w'.cell? ⟨w_d.heap.size, 0, none⟩ = some (.bool s_d) ∧ w'.cell? ⟨w_d.heap.size, 1, none⟩ = some (.slice A_d n_d c_d) ∧ w'.cell? ⟨w_d.heap.size, 2, none⟩ = some (.slice B_d m_d d_d))
    (first | with_reducible exact ⟨XA.c0, XA.c1, XA.c2, XA.c3, XA.c4, XA.c5, XB.c0, XB.c1, XB.c2, XB.c3, XB.c4, XB.c5, XC.c0, XC.c1, XC.c2, XC.c3, XC.c4, XC.c5, XO.c0, XO.c1, XO.c2, XO.c3, XO.c4, XO.c5, XD.c0, XD.c1, XD.c2⟩)
    (first
    | (go_at_call 90; (with_reducible refine (pfar_p p o.pr (by decide) (by decide) (by decide)).mono ?_); rintro e w_f ⟨s_f, A_f, n_f, c_f, B_f, m_f, d_f, rfl, f, hh⟩
       try replace p := p.below hh
       try replace q := q.below hh
       try replace r := r.below hh
       try replace XA := XA.below hh
       try replace XB := XB.below hh
       try replace XC := XC.below hh
       try replace o := o.below hh
       try replace XO := XO.below hh
       try replace d := d.below hh
       try replace XD := XD.below hh
       replace hb := bend hb hh)
    | (go_at_call 28; (with_reducible refine (rcmp_q d.qr f.qr (by decide) (by decide) (.inl (by decide)) (by decide) (by decide)).mono ?_); rintro e w_z ⟨rfl, hh⟩
       rw [HM.out]; clear f
       try replace p := p.below hh
       try replace q := q.below hh
       try replace r := r.below hh
       try replace XA := XA.below hh
       try replace XB := XB.below hh
       try replace XC := XC.below hh
       try replace o := o.below hh
       try replace XO := XO.below hh
       try replace d := d.below hh
       try replace XD := XD.below hh
       replace hb := bend hb hh)
    | (go_at_call 30; (with_reducible refine (rsign_q d.qr (by decide) (by decide)).mono ?_); rintro e w_z ⟨rfl, hh⟩
       rw [HS.out]
       try replace p := p.below hh
       try replace q := q.below hh
       try replace r := r.below hh
       try replace XA := XA.below hh
       try replace XB := XB.below hh
       try replace XC := XC.below hh
       try replace o := o.below hh
       try replace XO := XO.below hh
       try replace d := d.below hh
       try replace XD := XD.below hh
       replace hb := bend hb hh)
    | (go_at_call 92; (with_reducible refine (ptoseg_p o.pr q r (by decide) (by decide) (by decide) (by decide)).mono ?_); rintro e w_e1 ⟨s_e1, A_e1, n_e1, c_e1, B_e1, m_e1, d_e1, rfl, e1, hh⟩
       try replace p := p.below hh
       try replace q := q.below hh
       try replace r := r.below hh
       try replace XA := XA.below hh
       try replace XB := XB.below hh
       try replace XC := XC.below hh
       try replace o := o.below hh
       try replace XO := XO.below hh
       try replace d := d.below hh
       try replace XD := XD.below hh
       replace hb := bend hb hh)
    | (go_at_call 30; (with_reducible refine (rsign_q e1.qr (by decide) (by decide)).mono ?_); rintro e w_z ⟨rfl, hh⟩
       rw [HE.out]; clear e1
       try replace p := p.below hh
       try replace q := q.below hh
       try replace r := r.below hh
       try replace XA := XA.below hh
       try replace XB := XB.below hh
       try replace XC := XC.below hh
       try replace o := o.below hh
       try replace XO := XO.below hh
       try replace d := d.below hh
       try replace XD := XD.below hh
       replace hb := bend hb hh)
    | (go_at_call 92; (with_reducible refine (ptoseg_p p r q (by decide) (by decide) (by decide) (by decide)).mono ?_); rintro e w_e2 ⟨s_e2, A_e2, n_e2, c_e2, B_e2, m_e2, d_e2, rfl, e2, hh⟩
       try replace p := p.below hh
       try replace q := q.below hh
       try replace r := r.below hh
       try replace XA := XA.below hh
       try replace XB := XB.below hh
       try replace XC := XC.below hh
       try replace o := o.below hh
       try replace XO := XO.below hh
       try replace d := d.below hh
       try replace XD := XD.below hh
       replace hb := bend hb hh)
    | (go_at_call 28; (with_reducible refine (rcmp_q d.qr e2.qr (by decide) (by decide) (.inl (by decide)) (by decide) (by decide)).mono ?_); rintro e w_z ⟨rfl, hh⟩
       rw [HB.out]; clear e2
       try replace p := p.below hh
       try replace q := q.below hh
       try replace r := r.below hh
       try replace XA := XA.below hh
       try replace XB := XB.below hh
       try replace XC := XC.below hh
       try replace o := o.below hh
       try replace XO := XO.below hh
       try replace d := d.below hh
       try replace XD := XD.below hh
       replace hb := bend hb hh))
  clear o XO
  have xa0 := XA.c0
  have xa1 := XA.c1
  have xa2 := XA.c2
  have xa3 := XA.c3
  have xa4 := XA.c4
  have xa5 := XA.c5
  have xb0 := XB.c0
  have xb1 := XB.c1
  have xb2 := XB.c2
  have xb3 := XB.c3
  have xb4 := XB.c4
  have xb5 := XB.c5
  have xc0 := XC.c0
  have xc1 := XC.c1
  have xc2 := XC.c2
  have xc3 := XC.c3
  have xc4 := XC.c4
  have xc5 := XC.c5
  have xd0 := XD.c0
  have xd1 := XD.c1
  have xd2 := XD.c2
  go_upto_region 11 with (first
      | (go_at_call 30; (with_reducible refine (rsign_q d.qr (by decide) (by decide)).mono ?_); rintro e w_z ⟨rfl, hh⟩
         rw [HS.out]
         try replace p := p.below hh
         try replace q := q.below hh
         try replace r := r.below hh
         try replace XA := XA.below hh
         try replace XB := XB.below hh
         try replace XC := XC.below hh
         try replace d := d.below hh
         try replace XD := XD.below hh
         replace hb := bend hb hh
         have xa0 := XA.c0
         have xa1 := XA.c1
         have xa2 := XA.c2
         have xa3 := XA.c3
         have xa4 := XA.c4
         have xa5 := XA.c5
         have xb0 := XB.c0
         have xb1 := XB.c1
         have xb2 := XB.c2
         have xb3 := XB.c3
         have xb4 := XB.c4
         have xb5 := XB.c5
         have xc0 := XC.c0
         have xc1 := XC.c1
         have xc2 := XC.c2
         have xc3 := XC.c3
         have xc4 := XC.c4
         have xc5 := XC.c5
         have xd0 := XD.c0
         have xd1 := XD.c1
         have xd2 := XD.c2))
  clear d XD
  replace p := p.below (Below.refl _ _).drew
  replace q := q.below (Below.refl _ _).drew
  replace r := r.below (Below.refl _ _).drew
  replace XA := XA.below (Below.refl _ _).drew
  replace XB := XB.below (Below.refl _ _).drew
  replace XC := XC.below (Below.refl _ _).drew
  replace hb := hb.drew
  refine wp_region_held_drew (S := (fun w' => w'.cell? ⟨g_a, 0, none⟩ = some (.bool s_p) ∧ w'.cell? ⟨g_a, 1, none⟩ = some (.slice A_p n_p c_p) ∧ w'.cell? ⟨g_a, 2, none⟩ = some (.slice B_p m_p d_p) ∧ w'.cell? ⟨g_a, 3, none⟩ = some (.bool t_p) ∧ w'.cell? ⟨g_a, 4, none⟩ = some (.slice E_p i_p e_p) ∧ w'.cell? ⟨g_a, 5, none⟩ = some (.slice F_p j_p f_p) ∧ w'.cell? ⟨g_b, 0, none⟩ = some (.bool s_q) ∧ w'.cell? ⟨g_b, 1, none⟩ = some (.slice A_q n_q c_q) ∧ w'.cell? ⟨g_b, 2, none⟩ = some (.slice B_q m_q d_q) ∧ w'.cell? ⟨g_b, 3, none⟩ = some (.bool t_q) ∧ w'.cell? ⟨g_b, 4, none⟩ = some (.slice E_q i_q e_q) ∧ w'.cell? ⟨g_b, 5, none⟩ = some (.slice F_q j_q f_q) ∧ w'.cell? ⟨g_c, 0, none⟩ = some (.bool s_r) ∧ w'.cell? ⟨g_c, 1, none⟩ = some (.slice A_r n_r c_r) ∧ w'.cell? ⟨g_c, 2, none⟩ = some (.slice B_r m_r d_r) ∧ w'.cell? ⟨g_c, 3, none⟩ = some (.bool t_r) ∧ w'.cell? ⟨g_c, 4, none⟩ = some (.slice E_r i_r e_r) ∧ w'.cell? ⟨g_c, 5, none⟩ = some (.slice F_r j_r f_r))) (by kernel_rfl) ⟨XA.c0, XA.c1, XA.c2, XA.c3, XA.c4, XA.c5, XB.c0, XB.c1, XB.c2, XB.c3, XB.c4, XB.c5, XC.c0, XC.c1, XC.c2, XC.c3, XC.c4, XC.c5⟩ (fun hHeld => ?_)
  refine wpAnyH_take (i := 0) (oi := { dst := some 85, op := Op.load 83 (Operand.tmp 6), type := 83, pos := "law.go:75", after := #[], guard := none }) (v := ?_) rfl (by kernel_rfl) (by kernel_rfl) (by kernel_rfl) (fun _ _ _ h => h) (Or.inl ⟨by rfl, ?_⟩) hHeld ?_
  rotate_left
  · (intro w hSw; (try dsimp only at hSw); go_simp; try with_reducible rfl)
  simp only [Act.put, List.setIfInBounds_toArray, List.set_cons_zero, List.set_cons_succ]
  refine wpAnyH_take (i := 1) (oi := { dst := some 86, op := Op.load 83 (Operand.tmp 7), type := 83, pos := "law.go:75", after := #[], guard := none }) (v := ?_) rfl (by kernel_rfl) (by kernel_rfl) (by kernel_rfl) (fun _ _ _ h => h) (Or.inl ⟨by rfl, ?_⟩) hHeld ?_
  rotate_left
  · (intro w hSw; (try dsimp only at hSw); go_simp; try with_reducible rfl)
  simp only [Act.put, List.setIfInBounds_toArray, List.set_cons_zero, List.set_cons_succ]
  refine wpAnyH_take (i := 2) (oi := { dst := some 87, op := Op.load 83 (Operand.tmp 5), type := 83, pos := "law.go:75", after := #[], guard := none }) (v := ?_) rfl (by kernel_rfl) (by kernel_rfl) (by kernel_rfl) (fun _ _ _ h => h) (Or.inl ⟨by rfl, ?_⟩) hHeld ?_
  rotate_left
  · (intro w hSw; (try dsimp only at hSw); go_simp; try with_reducible rfl)
  simp only [Act.put, List.setIfInBounds_toArray, List.set_cons_zero, List.set_cons_succ]
  refine wpAnyH_ready (rs := [3]) (by kernel_rfl) (by simp) ?_
  refine AllReadyH.cons (o := { dst := some 88, op := Op.call { callee := Callee.value (Operand.func 88), args := #[Operand.tmp 85, Operand.tmp 86, Operand.tmp 87], argTypes := #[83, 83, 83] }, type := 3, pos := "law.go:75", after := #[{ on := 0, ground := Ground.data }, { on := 1, ground := Ground.data }, { on := 2, ground := Ground.data }], guard := none }) rfl (fun K1 hK1 => ?_) AllReadyH.nil
  go_simp
  first
    | (go_at_call 88; (with_reducible refine (porient_p q r p (by decide) (by decide)).mono ?_); rintro e w_z ⟨rfl, hh⟩
       rw [HO.out]
       try replace p := p.below hh
       try replace q := q.below hh
       try replace r := r.below hh
       try replace XA := XA.below hh
       try replace XB := XB.below hh
       try replace XC := XC.below hh
       replace hb := bend hb hh)
  refine hK1.out _ _ ⟨XA.c0, XA.c1, XA.c2, XA.c3, XA.c4, XA.c5, XB.c0, XB.c1, XB.c2, XB.c3, XB.c4, XB.c5, XC.c0, XC.c1, XC.c2, XC.c3, XC.c4, XC.c5⟩ (fun hHeld => ?_)
  clear hK1 K1
  refine wpAnyH_take (i := 4) (oi := { dst := some 89, op := Op.binOp BinOp.neq 3 (Operand.tmp 88) (Operand.const (Value.int IntKind.i64 0)) 3, type := 4, pos := "law.go:75", after := #[{ on := 3, ground := Ground.data }], guard := none }) (v := ?_) rfl (by kernel_rfl) (by kernel_rfl) (by kernel_rfl) (fun _ _ _ h => h) (Or.inl ⟨by rfl, ?_⟩) hHeld ?_
  rotate_left
  · (intro w hSw; (try dsimp only at hSw); go_simp; try with_reducible rfl)
  simp only [Act.put, List.setIfInBounds_toArray, List.set_cons_zero, List.set_cons_succ]
  refine wpAnyH_take (i := 5) (oi := { dst := some 90, op := Op.move (Operand.tmp 89), type := 4, pos := "law.go:75", after := #[{ on := 4, ground := Ground.data }, { on := 3, ground := Ground.chain }], guard := none }) (v := ?_) rfl (by kernel_rfl) (by kernel_rfl) (by kernel_rfl) (fun _ _ _ h => h) (Or.inl ⟨by rfl, ?_⟩) hHeld ?_
  rotate_left
  · (intro w hSw; (try dsimp only at hSw); go_simp; try with_reducible rfl)
  simp only [Act.put, List.setIfInBounds_toArray, List.set_cons_zero, List.set_cons_succ]
  refine wpAnyH_take (i := 6) (oi := { dst := some 91, op := Op.load 83 (Operand.tmp 5), type := 83, pos := "law.go:75", after := #[{ on := 5, ground := Ground.guard }], guard := some (5, false) }) (v := undef) rfl (by kernel_rfl) (by kernel_rfl) (by kernel_rfl) (fun _ _ _ h => h) (Or.inr ⟨by rfl, rfl⟩) hHeld ?_
  simp only [Act.put, List.setIfInBounds_toArray, List.set_cons_zero, List.set_cons_succ]
  refine wpAnyH_take (i := 7) (oi := { dst := some 92, op := Op.load 83 (Operand.tmp 6), type := 83, pos := "law.go:75", after := #[{ on := 5, ground := Ground.guard }], guard := some (5, false) }) (v := undef) rfl (by kernel_rfl) (by kernel_rfl) (by kernel_rfl) (fun _ _ _ h => h) (Or.inr ⟨by rfl, rfl⟩) hHeld ?_
  simp only [Act.put, List.setIfInBounds_toArray, List.set_cons_zero, List.set_cons_succ]
  refine wpAnyH_take (i := 8) (oi := { dst := some 93, op := Op.call { callee := Callee.value (Operand.func 75), args := #[Operand.tmp 91, Operand.tmp 92], argTypes := #[83, 83] }, type := 83, pos := "law.go:75", after := #[{ on := 6, ground := Ground.data }, { on := 7, ground := Ground.data }, { on := 5, ground := Ground.chain }, { on := 5, ground := Ground.guard }], guard := some (5, false) }) (v := undef) rfl (by kernel_rfl) (by kernel_rfl) (by kernel_rfl) (fun _ _ _ h => h) (Or.inr ⟨by rfl, rfl⟩) hHeld ?_
  simp only [Act.put, List.setIfInBounds_toArray, List.set_cons_zero, List.set_cons_succ]
  refine wpAnyH_take (i := 9) (oi := { dst := some 94, op := Op.load 83 (Operand.tmp 5), type := 83, pos := "law.go:75", after := #[{ on := 5, ground := Ground.guard }], guard := some (5, false) }) (v := undef) rfl (by kernel_rfl) (by kernel_rfl) (by kernel_rfl) (fun _ _ _ h => h) (Or.inr ⟨by rfl, rfl⟩) hHeld ?_
  simp only [Act.put, List.setIfInBounds_toArray, List.set_cons_zero, List.set_cons_succ]
  refine wpAnyH_take (i := 10) (oi := { dst := some 95, op := Op.load 83 (Operand.tmp 7), type := 83, pos := "law.go:75", after := #[{ on := 5, ground := Ground.guard }], guard := some (5, false) }) (v := undef) rfl (by kernel_rfl) (by kernel_rfl) (by kernel_rfl) (fun _ _ _ h => h) (Or.inr ⟨by rfl, rfl⟩) hHeld ?_
  simp only [Act.put, List.setIfInBounds_toArray, List.set_cons_zero, List.set_cons_succ]
  refine wpAnyH_take (i := 11) (oi := { dst := some 96, op := Op.call { callee := Callee.value (Operand.func 75), args := #[Operand.tmp 94, Operand.tmp 95], argTypes := #[83, 83] }, type := 83, pos := "law.go:75", after := #[{ on := 9, ground := Ground.data }, { on := 10, ground := Ground.data }, { on := 8, ground := Ground.chain }, { on := 5, ground := Ground.guard }], guard := some (5, false) }) (v := undef) rfl (by kernel_rfl) (by kernel_rfl) (by kernel_rfl) (fun _ _ _ h => h) (Or.inr ⟨by rfl, rfl⟩) hHeld ?_
  simp only [Act.put, List.setIfInBounds_toArray, List.set_cons_zero, List.set_cons_succ]
  refine wpAnyH_take (i := 12) (oi := { dst := some 97, op := Op.call { callee := Callee.value (Operand.func 81), args := #[Operand.tmp 93, Operand.tmp 96], argTypes := #[83, 83] }, type := 26, pos := "law.go:75", after := #[{ on := 8, ground := Ground.data }, { on := 11, ground := Ground.data }, { on := 11, ground := Ground.chain }, { on := 5, ground := Ground.guard }], guard := some (5, false) }) (v := undef) rfl (by kernel_rfl) (by kernel_rfl) (by kernel_rfl) (fun _ _ _ h => h) (Or.inr ⟨by rfl, rfl⟩) hHeld ?_
  simp only [Act.put, List.setIfInBounds_toArray, List.set_cons_zero, List.set_cons_succ]
  refine wpAnyH_take (i := 13) (oi := { dst := some 98, op := Op.call { callee := Callee.value (Operand.func 30), args := #[Operand.tmp 97], argTypes := #[26] }, type := 3, pos := "law.go:75", after := #[{ on := 12, ground := Ground.data }, { on := 12, ground := Ground.chain }, { on := 5, ground := Ground.guard }], guard := some (5, false) }) (v := undef) rfl (by kernel_rfl) (by kernel_rfl) (by kernel_rfl) (fun _ _ _ h => h) (Or.inr ⟨by rfl, rfl⟩) hHeld ?_
  simp only [Act.put, List.setIfInBounds_toArray, List.set_cons_zero, List.set_cons_succ]
  refine wpAnyH_take (i := 14) (oi := { dst := some 99, op := Op.binOp BinOp.gtr 3 (Operand.tmp 98) (Operand.const (Value.int IntKind.i64 0)) 3, type := 4, pos := "law.go:75", after := #[{ on := 13, ground := Ground.data }, { on := 5, ground := Ground.guard }], guard := some (5, false) }) (v := undef) rfl (by kernel_rfl) (by kernel_rfl) (by kernel_rfl) (fun _ _ _ h => h) (Or.inr ⟨by rfl, rfl⟩) hHeld ?_
  simp only [Act.put, List.setIfInBounds_toArray, List.set_cons_zero, List.set_cons_succ]
  refine wpAnyH_take (i := 15) (oi := { dst := some 100, op := Op.pick (Operand.tmp 90) (Operand.const (Value.bool true)) (Operand.tmp 99), type := 4, pos := "law.go:75", after := #[{ on := 5, ground := Ground.data }, { on := 14, ground := Ground.data }], guard := none }) (v := ?_) rfl (by kernel_rfl) (by kernel_rfl) (by kernel_rfl) (fun _ _ _ h => h) (Or.inl ⟨by rfl, ?_⟩) hHeld ?_
  rotate_left
  · (intro w hSw; (try dsimp only at hSw); go_simp; try with_reducible rfl)
  simp only [Act.put, List.setIfInBounds_toArray, List.set_cons_zero, List.set_cons_succ]
  refine wpAnyH_take (i := 16) (oi := { dst := some 101, op := Op.move (Operand.tmp 100), type := 4, pos := "law.go:75", after := #[{ on := 15, ground := Ground.data }, { on := 13, ground := Ground.chain }], guard := none }) (v := ?_) rfl (by kernel_rfl) (by kernel_rfl) (by kernel_rfl) (fun _ _ _ h => h) (Or.inl ⟨by rfl, ?_⟩) hHeld ?_
  rotate_left
  · (intro w hSw; (try dsimp only at hSw); go_simp; try with_reducible rfl)
  simp only [Act.put, List.setIfInBounds_toArray, List.set_cons_zero, List.set_cons_succ]
  refine wpAnyH_take (i := 17) (oi := { dst := some 102, op := Op.load 83 (Operand.tmp 6), type := 83, pos := "law.go:75", after := #[{ on := 16, ground := Ground.guard }], guard := some (16, false) }) (v := undef) rfl (by kernel_rfl) (by kernel_rfl) (by kernel_rfl) (fun _ _ _ h => h) (Or.inr ⟨by rfl, rfl⟩) hHeld ?_
  simp only [Act.put, List.setIfInBounds_toArray, List.set_cons_zero, List.set_cons_succ]
  refine wpAnyH_take (i := 18) (oi := { dst := some 103, op := Op.load 83 (Operand.tmp 7), type := 83, pos := "law.go:75", after := #[{ on := 16, ground := Ground.guard }], guard := some (16, false) }) (v := undef) rfl (by kernel_rfl) (by kernel_rfl) (by kernel_rfl) (fun _ _ _ h => h) (Or.inr ⟨by rfl, rfl⟩) hHeld ?_
  simp only [Act.put, List.setIfInBounds_toArray, List.set_cons_zero, List.set_cons_succ]
  refine wpAnyH_take (i := 19) (oi := { dst := some 104, op := Op.call { callee := Callee.value (Operand.func 85), args := #[Operand.tmp 102, Operand.tmp 103], argTypes := #[83, 83] }, type := 4, pos := "law.go:75", after := #[{ on := 17, ground := Ground.data }, { on := 18, ground := Ground.data }, { on := 16, ground := Ground.chain }, { on := 16, ground := Ground.guard }], guard := some (16, false) }) (v := undef) rfl (by kernel_rfl) (by kernel_rfl) (by kernel_rfl) (fun _ _ _ h => h) (Or.inr ⟨by rfl, rfl⟩) hHeld ?_
  simp only [Act.put, List.setIfInBounds_toArray, List.set_cons_zero, List.set_cons_succ]
  refine wpAnyH_take (i := 20) (oi := { dst := some 105, op := Op.pick (Operand.tmp 101) (Operand.const (Value.bool true)) (Operand.tmp 104), type := 4, pos := "law.go:75", after := #[{ on := 16, ground := Ground.data }, { on := 19, ground := Ground.data }], guard := none }) (v := ?_) rfl (by kernel_rfl) (by kernel_rfl) (by kernel_rfl) (fun _ _ _ h => h) (Or.inl ⟨by rfl, ?_⟩) hHeld ?_
  rotate_left
  · (intro w hSw; (try dsimp only at hSw); go_simp; try with_reducible rfl)
  simp only [Act.put, List.setIfInBounds_toArray, List.set_cons_zero, List.set_cons_succ]
  refine wpAnyH_take (i := 21) (oi := { dst := some 106, op := Op.move (Operand.tmp 105), type := 4, pos := "law.go:75", after := #[{ on := 20, ground := Ground.data }, { on := 19, ground := Ground.chain }], guard := none }) (v := ?_) rfl (by kernel_rfl) (by kernel_rfl) (by kernel_rfl) (fun _ _ _ h => h) (Or.inl ⟨by rfl, ?_⟩) hHeld ?_
  rotate_left
  · (intro w hSw; (try dsimp only at hSw); go_simp; try with_reducible rfl)
  simp only [Act.put, List.setIfInBounds_toArray, List.set_cons_zero, List.set_cons_succ]
  refine wpAnyH_ready (rs := [22]) (by kernel_rfl) (by simp) ?_
  refine AllReadyH.cons (o := { dst := some 107, op := Op.call { callee := Callee.value (Operand.func 67), args := #[], argTypes := #[] }, type := 4, pos := "law.go:75", after := #[{ on := 21, ground := Ground.chain }, { on := 21, ground := Ground.guard }], guard := some (21, true) }) rfl (fun K1 hK1 => ?_) AllReadyH.nil
  go_simp
  first
    | (go_at_call 67; (with_reducible refine (pwakes_any _).mono ?_); rintro e w_z ⟨rfl, hh⟩
       try replace XA := XA.below hh
       try replace XB := XB.below hh
       try replace XC := XC.below hh
       replace hb := bend hb hh)
  refine hK1.out _ _ ⟨XA.c0, XA.c1, XA.c2, XA.c3, XA.c4, XA.c5, XB.c0, XB.c1, XB.c2, XB.c3, XB.c4, XB.c5, XC.c0, XC.c1, XC.c2, XC.c3, XC.c4, XC.c5⟩ (fun hHeld => ?_)
  clear hK1 K1
  refine wpAnyH_take (i := 23) (oi := { dst := some 108, op := Op.pick (Operand.tmp 106) (Operand.tmp 107) (Operand.const (Value.bool false)), type := 4, pos := "law.go:75", after := #[{ on := 21, ground := Ground.data }, { on := 22, ground := Ground.data }], guard := none }) (v := ?_) rfl (by kernel_rfl) (by kernel_rfl) (by kernel_rfl) (fun _ _ _ h => h) (Or.inl ⟨by rfl, ?_⟩) hHeld ?_
  rotate_left
  · (intro w hSw; (try dsimp only at hSw); go_simp; try with_reducible rfl)
  simp only [Act.put, List.setIfInBounds_toArray, List.set_cons_zero, List.set_cons_succ]
  refine wpAnyH_take (i := 24) (oi := { dst := some 4, op := Op.assign (Operand.tmp 108), type := 4, pos := "law.go:75", after := #[{ on := 23, ground := Ground.data }, { on := 22, ground := Ground.chain }, { on := 0, ground := Ground.phase }, { on := 1, ground := Ground.phase }, { on := 2, ground := Ground.phase }, { on := 3, ground := Ground.phase }, { on := 4, ground := Ground.phase }, { on := 5, ground := Ground.phase }, { on := 6, ground := Ground.phase }, { on := 7, ground := Ground.phase }, { on := 8, ground := Ground.phase }, { on := 9, ground := Ground.phase }, { on := 10, ground := Ground.phase }, { on := 11, ground := Ground.phase }, { on := 12, ground := Ground.phase }, { on := 13, ground := Ground.phase }, { on := 14, ground := Ground.phase }, { on := 15, ground := Ground.phase }, { on := 16, ground := Ground.phase }, { on := 17, ground := Ground.phase }, { on := 18, ground := Ground.phase }, { on := 19, ground := Ground.phase }, { on := 20, ground := Ground.phase }, { on := 21, ground := Ground.phase }, { on := 22, ground := Ground.phase }, { on := 23, ground := Ground.phase }], guard := none }) (v := ?_) rfl (by kernel_rfl) (by kernel_rfl) (by kernel_rfl) (fun _ _ _ h => h) (Or.inl ⟨by rfl, ?_⟩) hHeld ?_
  rotate_left
  · (intro w hSw; (try dsimp only at hSw); go_simp; try with_reducible rfl)
  simp only [Act.put, List.setIfInBounds_toArray, List.set_cons_zero, List.set_cons_succ]
  refine wpAnyH_done (by kernel_rfl) ?_ _
  clear hHeld
  go_wp2_with fail
  go_ret
  exact ⟨rfl, hb⟩
set_option maxRecDepth 100000 in
set_option maxHeartbeats 16000000 in
theorem near_d {w : World} {s_p t_p : Bool} {A_p B_p E_p F_p : Option Addr} {n_p c_p m_p d_p i_p e_p j_p f_p : Nat} {s_q t_q : Bool} {A_q B_q E_q F_q : Option Addr} {n_q c_q m_q d_q i_q e_q j_q f_q : Nat} {s_r t_r : Bool} {A_r B_r E_r F_r : Option Addr} {n_r c_r m_r d_r i_r e_r j_r f_r : Nat} (t : Nat) {px py ax ay bx by_ : Rat} (p : PR w s_p A_p n_p c_p B_p m_p d_p t_p E_p i_p e_p F_p j_p f_p px py 6) (q : PR w s_q A_q n_q c_q B_q m_q d_q t_q E_q i_q e_q F_q j_q f_q ax ay 6) (r : PR w s_r A_r n_r c_r B_r m_r d_r t_r E_r i_r e_r F_r j_r f_r bx by_ 6) (h : (((n_p ≤ 6 ∧ m_p ≤ 6) ∧ i_p ≤ 6 ∧ j_p ≤ 6) ∧ ((n_q ≤ 6 ∧ m_q ≤ 6) ∧ i_q ≤ 6 ∧ j_q ≤ 6) ∧ ((n_r ≤ 6 ∧ m_r ≤ 6) ∧ i_r ≤ 6 ∧ j_r ≤ 6))) (ht : t ≤ 255) (hd : segQ px py ax ay bx by_ ≠ 0) (hK : orientQ ax ay bx by_ px py = 0) (hp : ¬ (px - ax) * (px - bx) + (py - ay) * (py - by_) ≤ 0) :
    Calls Tryz.prog 12 #[.agg #[.bool s_p, .slice A_p n_p c_p, .slice B_p m_p d_p, .bool t_p, .slice E_p i_p e_p, .slice F_p j_p f_p, .bool s_q, .slice A_q n_q c_q, .slice B_q m_q d_q, .bool t_q, .slice E_q i_q e_q, .slice F_q j_q f_q, .bool s_r, .slice A_r n_r c_r, .slice B_r m_r d_r, .bool t_r, .slice E_r i_r e_r, .slice F_r j_r f_r], .int .u8 (t : Int)] w fun e w' => e = .returned (.bool true) ∧ Below w.heap.size w w' := by
  have HL : Hid (decide (((n_p ≤ 6 ∧ m_p ≤ 6) ∧ i_p ≤ 6 ∧ j_p ≤ 6) ∧ ((n_q ≤ 6 ∧ m_q ≤ 6) ∧ i_q ≤ 6 ∧ j_q ≤ 6) ∧ ((n_r ≤ 6 ∧ m_r ≤ 6) ∧ i_r ≤ 6 ∧ j_r ≤ 6)) = true) := decide_eq_true h
  have hti : (t : Int) ≤ 255 := by omega
  have hr := tq_range ht
  obtain ⟨M, hM, hM0⟩ : ∃ M, cmpQ (segQ px py ax ay bx by_) (farQ px py (ax + (bx - ax) * (Rat.divInt (t : Int) 255)) (ay + (by_ - ay) * (Rat.divInt (t : Int) 255))) = M ∧ decide (0 < M) = false := ⟨_, rfl, decide_eq_false (by have := cmpQ_le.2 (seg_near px py ax ay bx by_ (Rat.divInt (t : Int) 255) hr.1 hr.2 rfl rfl); omega)⟩
  have HM := Lib.hid hM
  have HE : Hid (sgnQ (segQ (ax + (bx - ax) * (Rat.divInt (t : Int) 255)) (ay + (by_ - ay) * (Rat.divInt (t : Int) 255)) ax ay bx by_) = 0) := by show _ = _; rw [seg_on ax ay bx by_ (Rat.divInt (t : Int) 255) hr.1 hr.2 rfl rfl]; rfl
  have HB : Hid (cmpQ (segQ px py ax ay bx by_) (segQ px py bx by_ ax ay) = 0) := cmpQ_nul.2 (seg_back px py ax ay bx by_).symm
  have HS : Hid (sgnQ (segQ px py ax ay bx by_) = 1) := by
    show _ = _
    have h0 := seg_nn px py ax ay bx by_
    unfold sgnQ
    rw [if_neg (Rat.not_lt.2 h0), if_neg hd]
  have HO := Lib.hid hK
  have HT : Hid (sgnQ ((px - ax) * (px - bx) + (py - ay) * (py - by_)) = 1) := by
    show _ = _
    unfold sgnQ
    rw [if_neg (fun q => hp (Rat.le_of_lt q)), if_neg (fun q => hp (by rw [q]; exact Rat.le_refl))]
  clear hp
  clear hK
  clear h hd hr hM ht
  go_enter Tryz.func12, Tryz.ntmps12
  go_upto_region 1 with (fail)
  generalize hW : (w.alloc (Obj.cells #[Value.bool s_p, Value.slice A_p n_p c_p, Value.slice B_p m_p d_p, Value.bool t_p, Value.slice E_p i_p e_p, Value.slice F_p j_p f_p, Value.bool s_q, Value.slice A_q n_q c_q, Value.slice B_q m_q d_q, Value.bool t_q, Value.slice E_q i_q e_q, Value.slice F_q j_q f_q, Value.bool s_r, Value.slice A_r n_r c_r, Value.slice B_r m_r d_r, Value.bool t_r, Value.slice E_r i_r e_r, Value.slice F_r j_r f_r] 109)) = W
  have hb : Below w.heap.size w W := by subst hW; exact ((Below.refl _ _).alloc (Nat.le_refl _) _)
  have XL0 : BA3 W (w.heap.size) (Value.bool s_p) (Value.slice A_p n_p c_p) (Value.slice B_p m_p d_p) (Value.bool t_p) (Value.slice E_p i_p e_p) (Value.slice F_p j_p f_p) (Value.bool s_q) (Value.slice A_q n_q c_q) (Value.slice B_q m_q d_q) (Value.bool t_q) (Value.slice E_q i_q e_q) (Value.slice F_q j_q f_q) (Value.bool s_r) (Value.slice A_r n_r c_r) (Value.slice B_r m_r d_r) (Value.bool t_r) (Value.slice E_r i_r e_r) (Value.slice F_r j_r f_r) := by subst hW; exact BA3.new' _ _ _ _ _ _ _ _ _ _ _ _ _ _ _ _ _ _ _ _ rfl
  have hzW : W.heap.size = w.heap.size + 1 := by subst hW; simp
  clear hW
  replace p := p.below hb
  replace q := q.below hb
  replace r := r.below hb
  refine near_region (by simp) rfl XL0 ?_
  intro V w_1 g_a g_b g_c XA hg_a hva XB hg_b hvb XC hg_c hvc hne1 hne2 hne3 hh
  simp only [putAll, Act.put, List.setIfInBounds_toArray, List.set_cons_zero, List.set_cons_succ, hva, hvb, hvc]
  clear hva hvb hvc XL0 hne1 hne2 hne3
  replace p := p.below hh
  replace q := q.below hh
  replace r := r.below hh
  replace hb := bend hb hh
  have xa0 := XA.c0
  have xa1 := XA.c1
  have xa2 := XA.c2
  have xa3 := XA.c3
  have xa4 := XA.c4
  have xa5 := XA.c5
  have xb0 := XB.c0
  have xb1 := XB.c1
  have xb2 := XB.c2
  have xb3 := XB.c3
  have xb4 := XB.c4
  have xb5 := XB.c5
  have xc0 := XC.c0
  have xc1 := XC.c1
  have xc2 := XC.c2
  have xc3 := XC.c3
  have xc4 := XC.c4
  have xc5 := XC.c5
  go_wp2_with fail
  generalize hW : (w_1.alloc (Obj.cells #[Value.bool s_p, Value.slice A_p n_p c_p, Value.slice B_p m_p d_p, Value.bool t_p, Value.slice E_p i_p e_p, Value.slice F_p j_p f_p, Value.bool s_q, Value.slice A_q n_q c_q, Value.slice B_q m_q d_q, Value.bool t_q, Value.slice E_q i_q e_q, Value.slice F_q j_q f_q, Value.bool s_r, Value.slice A_r n_r c_r, Value.slice B_r m_r d_r, Value.bool t_r, Value.slice E_r i_r e_r, Value.slice F_r j_r f_r] 83)) = W2
  have hh : Below w_1.heap.size w_1 W2 := by subst hW; exact ((Below.refl _ _).alloc (Nat.le_refl _) _)
  have XL : BL3 W2 (w_1.heap.size) (Value.bool s_p) (Value.slice A_p n_p c_p) (Value.slice B_p m_p d_p) (Value.bool t_p) (Value.slice E_p i_p e_p) (Value.slice F_p j_p f_p) (Value.bool s_q) (Value.slice A_q n_q c_q) (Value.slice B_q m_q d_q) (Value.bool t_q) (Value.slice E_q i_q e_q) (Value.slice F_q j_q f_q) (Value.bool s_r) (Value.slice A_r n_r c_r) (Value.slice B_r m_r d_r) (Value.bool t_r) (Value.slice E_r i_r e_r) (Value.slice F_r j_r f_r) := by subst hW; exact BL3.new' _ _ _ _ _ _ _ _ _ _ _ _ _ _ _ _ _ _ _ _ rfl
  have hzW2 : W2.heap.size = w_1.heap.size + 1 := by subst hW; simp
  clear hW
  try replace p := p.below hh
  try replace q := q.below hh
  try replace r := r.below hh
  try replace XA := XA.below hh
  try replace XB := XB.below hh
  try replace XC := XC.below hh
  replace hb := bend hb hh
  have xa0 := XA.c0
  have xa1 := XA.c1
  have xa2 := XA.c2
  have xa3 := XA.c3
  have xa4 := XA.c4
  have xa5 := XA.c5
  have xb0 := XB.c0
  have xb1 := XB.c1
  have xb2 := XB.c2
  have xb3 := XB.c3
  have xb4 := XB.c4
  have xb5 := XB.c5
  have xc0 := XC.c0
  have xc1 := XC.c1
  have xc2 := XC.c2
  have xc3 := XC.c3
  have xc4 := XC.c4
  have xc5 := XC.c5
  go_upto_region 5 with (first
      | (go_at_call 66; (with_reducible refine (fair3 XL true HL.out).mono ?_); rintro e w_z ⟨rfl, hh⟩
         clear XL
         try replace p := p.below hh
         try replace q := q.below hh
         try replace r := r.below hh
         try replace XA := XA.below hh
         try replace XB := XB.below hh
         try replace XC := XC.below hh
         replace hb := bend hb hh
         have xa0 := XA.c0
         have xa1 := XA.c1
         have xa2 := XA.c2
         have xa3 := XA.c3
         have xa4 := XA.c4
         have xa5 := XA.c5
         have xb0 := XB.c0
         have xb1 := XB.c1
         have xb2 := XB.c2
         have xb3 := XB.c3
         have xb4 := XB.c4
         have xb5 := XB.c5
         have xc0 := XC.c0
         have xc1 := XC.c1
         have xc2 := XC.c2
         have xc3 := XC.c3
         have xc4 := XC.c4
         have xc5 := XC.c5)
      | (go_at_call 42; (with_reducible refine (rof_q (t : Int) 255 (by omega) (by omega) (by decide) (by decide) (by decide) _).mono ?_); rintro e w_k ⟨s_k, A_k, n_k, c_k, B_k, m_k, d_k, rfl, k, hh⟩
         try replace p := p.below hh
         try replace q := q.below hh
         try replace r := r.below hh
         try replace XA := XA.below hh
         try replace XB := XB.below hh
         try replace XC := XC.below hh
         replace hb := bend hb hh
         have xa0 := XA.c0
         have xa1 := XA.c1
         have xa2 := XA.c2
         have xa3 := XA.c3
         have xa4 := XA.c4
         have xa5 := XA.c5
         have xb0 := XB.c0
         have xb1 := XB.c1
         have xb2 := XB.c2
         have xb3 := XB.c3
         have xb4 := XB.c4
         have xb5 := XB.c5
         have xc0 := XC.c0
         have xc1 := XC.c1
         have xc2 := XC.c2
         have xc3 := XC.c3
         have xc4 := XC.c4
         have xc5 := XC.c5))
  generalize hW : (w_k.alloc (Obj.cells #[Value.bool s_k, Value.slice A_k n_k c_k, Value.slice B_k m_k d_k] 26)) = W3
  have hh : Below w_k.heap.size w_k W3 := by subst hW; exact ((Below.refl _ _).alloc (Nat.le_refl _) _)
  have XK : B3 W3 (w_k.heap.size) (Value.bool s_k) (Value.slice A_k n_k c_k) (Value.slice B_k m_k d_k) := by subst hW; exact B3.new' _ _ _ _ _ rfl
  have hzW3 : W3.heap.size = w_k.heap.size + 1 := by subst hW; simp
  clear hW
  try replace p := p.below hh
  try replace q := q.below hh
  try replace r := r.below hh
  try replace XA := XA.below hh
  try replace XB := XB.below hh
  try replace XC := XC.below hh
  try replace k := k.below hh
  replace hb := bend hb hh
  have xa0 := XA.c0
  have xa1 := XA.c1
  have xa2 := XA.c2
  have xa3 := XA.c3
  have xa4 := XA.c4
  have xa5 := XA.c5
  have xb0 := XB.c0
  have xb1 := XB.c1
  have xb2 := XB.c2
  have xb3 := XB.c3
  have xb4 := XB.c4
  have xb5 := XB.c5
  have xc0 := XC.c0
  have xc1 := XC.c1
  have xc2 := XC.c2
  have xc3 := XC.c3
  have xc4 := XC.c4
  have xc5 := XC.c5
  have xk0 := XK.c0
  have xk1 := XK.c1
  have xk2 := XK.c2
  go_upto_region 6 with (first
      | (go_at_call 79; (with_reducible refine (pmix_p q r k.qr (by decide) (by decide) (by decide) (by decide) (by decide) (by decide)).mono ?_); rintro e w_o ⟨s_o, A_o, n_o, c_o, B_o, m_o, d_o, t_o, E_o, i_o, e_o, F_o, j_o, f_o, rfl, o, hh⟩
         try replace p := p.below hh
         try replace q := q.below hh
         try replace r := r.below hh
         try replace XA := XA.below hh
         try replace XB := XB.below hh
         try replace XC := XC.below hh
         try replace k := k.below hh
         try replace XK := XK.below hh
         replace hb := bend hb hh
         have xa0 := XA.c0
         have xa1 := XA.c1
         have xa2 := XA.c2
         have xa3 := XA.c3
         have xa4 := XA.c4
         have xa5 := XA.c5
         have xb0 := XB.c0
         have xb1 := XB.c1
         have xb2 := XB.c2
         have xb3 := XB.c3
         have xb4 := XB.c4
         have xb5 := XB.c5
         have xc0 := XC.c0
         have xc1 := XC.c1
         have xc2 := XC.c2
         have xc3 := XC.c3
         have xc4 := XC.c4
         have xc5 := XC.c5
         have xk0 := XK.c0
         have xk1 := XK.c1
         have xk2 := XK.c2))
  generalize hW : (w_o.alloc (Obj.cells #[Value.bool s_o, Value.slice A_o n_o c_o, Value.slice B_o m_o d_o, Value.bool t_o, Value.slice E_o i_o e_o, Value.slice F_o j_o f_o] 83)) = W4
  have hh : Below w_o.heap.size w_o W4 := by subst hW; exact ((Below.refl _ _).alloc (Nat.le_refl _) _)
  have XO : B6 W4 (w_o.heap.size) (Value.bool s_o) (Value.slice A_o n_o c_o) (Value.slice B_o m_o d_o) (Value.bool t_o) (Value.slice E_o i_o e_o) (Value.slice F_o j_o f_o) := by subst hW; exact B6.new' _ _ _ _ _ _ _ _ rfl
  have hzW4 : W4.heap.size = w_o.heap.size + 1 := by subst hW; simp
  clear hW
  try replace p := p.below hh
  try replace q := q.below hh
  try replace r := r.below hh
  try replace XA := XA.below hh
  try replace XB := XB.below hh
  try replace XC := XC.below hh
  try replace k := k.below hh
  try replace XK := XK.below hh
  try replace o := o.below hh
  replace hb := bend hb hh
  clear k XK
  have xa0 := XA.c0
  have xa1 := XA.c1
  have xa2 := XA.c2
  have xa3 := XA.c3
  have xa4 := XA.c4
  have xa5 := XA.c5
  have xb0 := XB.c0
  have xb1 := XB.c1
  have xb2 := XB.c2
  have xb3 := XB.c3
  have xb4 := XB.c4
  have xb5 := XB.c5
  have xc0 := XC.c0
  have xc1 := XC.c1
  have xc2 := XC.c2
  have xc3 := XC.c3
  have xc4 := XC.c4
  have xc5 := XC.c5
  have xo0 := XO.c0
  have xo1 := XO.c1
  have xo2 := XO.c2
  have xo3 := XO.c3
  have xo4 := XO.c4
  have xo5 := XO.c5
  go_upto_region 7 with (first
      | (go_at_call 92; (with_reducible refine (ptoseg_p p q r (by decide) (by decide) (by decide) (by decide)).mono ?_); rintro e w_d ⟨s_d, A_d, n_d, c_d, B_d, m_d, d_d, rfl, d, hh⟩
         try replace p := p.below hh
         try replace q := q.below hh
         try replace r := r.below hh
         try replace XA := XA.below hh
         try replace XB := XB.below hh
         try replace XC := XC.below hh
         try replace o := o.below hh
         try replace XO := XO.below hh
         replace hb := bend hb hh
         have xa0 := XA.c0
         have xa1 := XA.c1
         have xa2 := XA.c2
         have xa3 := XA.c3
         have xa4 := XA.c4
         have xa5 := XA.c5
         have xb0 := XB.c0
         have xb1 := XB.c1
         have xb2 := XB.c2
         have xb3 := XB.c3
         have xb4 := XB.c4
         have xb5 := XB.c5
         have xc0 := XC.c0
         have xc1 := XC.c1
         have xc2 := XC.c2
         have xc3 := XC.c3
         have xc4 := XC.c4
         have xc5 := XC.c5
         have xo0 := XO.c0
         have xo1 := XO.c1
         have xo2 := XO.c2
         have xo3 := XO.c3
         have xo4 := XO.c4
         have xo5 := XO.c5))
  generalize hW : (w_d.alloc (Obj.cells #[Value.bool s_d, Value.slice A_d n_d c_d, Value.slice B_d m_d d_d] 26)) = W5
  have hh : Below w_d.heap.size w_d W5 := by subst hW; exact ((Below.refl _ _).alloc (Nat.le_refl _) _)
  have XD : B3 W5 (w_d.heap.size) (Value.bool s_d) (Value.slice A_d n_d c_d) (Value.slice B_d m_d d_d) := by subst hW; exact B3.new' _ _ _ _ _ rfl
  have hzW5 : W5.heap.size = w_d.heap.size + 1 := by subst hW; simp
  clear hW
  try replace p := p.below hh
  try replace q := q.below hh
  try replace r := r.below hh
  try replace XA := XA.below hh
  try replace XB := XB.below hh
  try replace XC := XC.below hh
  try replace o := o.below hh
  try replace XO := XO.below hh
  try replace d := d.below hh
  replace hb := bend hb hh
  replace p := p.below (Below.refl _ _).drew
  replace q := q.below (Below.refl _ _).drew
  replace r := r.below (Below.refl _ _).drew
  replace XA := XA.below (Below.refl _ _).drew
  replace XB := XB.below (Below.refl _ _).drew
  replace XC := XC.below (Below.refl _ _).drew
  replace o := o.below (Below.refl _ _).drew
  replace XO := XO.below (Below.refl _ _).drew
  replace d := d.below (Below.refl _ _).drew
  replace XD := XD.below (Below.refl _ _).drew
  replace hb := hb.drew
  go_region_held3 (fun w' => w'.cell? ⟨g_a, 0, none⟩ = some (.bool s_p) ∧ w'.cell? ⟨g_a, 1, none⟩ = some (.slice A_p n_p c_p) ∧ w'.cell? ⟨g_a, 2, none⟩ = some (.slice B_p m_p d_p) ∧ w'.cell? ⟨g_a, 3, none⟩ = some (.bool t_p) ∧ w'.cell? ⟨g_a, 4, none⟩ = some (.slice E_p i_p e_p) ∧ w'.cell? ⟨g_a, 5, none⟩ = some (.slice F_p j_p f_p) ∧ w'.cell? ⟨g_b, 0, none⟩ = some (.bool s_q) ∧ w'.cell? ⟨g_b, 1, none⟩ = some (.slice A_q n_q c_q) ∧ w'.cell? ⟨g_b, 2, none⟩ = some (.slice B_q m_q d_q) ∧ w'.cell? ⟨g_b, 3, none⟩ = some (.bool t_q) ∧ w'.cell? ⟨g_b, 4, none⟩ = some (.slice E_q i_q e_q) ∧ w'.cell? ⟨g_b, 5, none⟩ = some (.slice F_q j_q f_q) ∧ w'.cell? ⟨g_c, 0, none⟩ = some (.bool s_r) ∧ w'.cell? ⟨g_c, 1, none⟩ = some (.slice A_r n_r c_r) ∧ w'.cell? ⟨g_c, 2, none⟩ = some (.slice B_r m_r d_r) ∧ w'.cell? ⟨g_c, 3, none⟩ = some (.bool t_r) ∧ w'.cell? ⟨g_c, 4, none⟩ = some (.slice E_r i_r e_r) ∧ w'.cell? ⟨g_c, 5, none⟩ = some (.slice F_r j_r f_r) ∧ w'.cell? ⟨w_o.heap.size, 0, none⟩ = some (.bool s_o) ∧ w'.cell? ⟨w_o.heap.size, 1, none⟩ = some (.slice A_o n_o c_o) ∧ w'.cell? ⟨w_o.heap.size, 2, none⟩ = some (.slice B_o m_o d_o) ∧ w'.cell? ⟨w_o.heap.size, 3, none⟩ = some (.bool t_o) ∧ w'.cell? ⟨w_o.heap.size, 4, none⟩ = some (.slice E_o i_o e_o) ∧ w'.cell? ⟨w_o.heap.size, 5, none⟩ = some (.slice F_o j_o f_o) ∧ w'.cell? ⟨w_d.heap.size, 0, none⟩ = some (.bool s_d) ∧ w'.cell? ⟨w_d.heap.size, 1, none⟩ = some (.slice A_d n_d c_d) ∧ w'.cell? ⟨w_d.heap.size, 2, none⟩ = some (.slice B_d m_d d_d))
    (first | with_reducible exact ⟨XA.c0, XA.c1, XA.c2, XA.c3, XA.c4, XA.c5, XB.c0, XB.c1, XB.c2, XB.c3, XB.c4, XB.c5, XC.c0, XC.c1, XC.c2, XC.c3, XC.c4, XC.c5, XO.c0, XO.c1, XO.c2, XO.c3, XO.c4, XO.c5, XD.c0, XD.c1, XD.c2⟩)
    (first
    | (go_at_call 90; (with_reducible refine (pfar_p p o.pr (by decide) (by decide) (by decide)).mono ?_); rintro e w_f ⟨s_f, A_f, n_f, c_f, B_f, m_f, d_f, rfl, f, hh⟩
       try replace p := p.below hh
       try replace q := q.below hh
       try replace r := r.below hh
       try replace XA := XA.below hh
       try replace XB := XB.below hh
       try replace XC := XC.below hh
       try replace o := o.below hh
       try replace XO := XO.below hh
       try replace d := d.below hh
       try replace XD := XD.below hh
       replace hb := bend hb hh)
    | (go_at_call 28; (with_reducible refine (rcmp_q d.qr f.qr (by decide) (by decide) (.inl (by decide)) (by decide) (by decide)).mono ?_); rintro e w_z ⟨rfl, hh⟩
       rw [HM.out]; clear f
       try replace p := p.below hh
       try replace q := q.below hh
       try replace r := r.below hh
       try replace XA := XA.below hh
       try replace XB := XB.below hh
       try replace XC := XC.below hh
       try replace o := o.below hh
       try replace XO := XO.below hh
       try replace d := d.below hh
       try replace XD := XD.below hh
       replace hb := bend hb hh)
    | (go_at_call 30; (with_reducible refine (rsign_q d.qr (by decide) (by decide)).mono ?_); rintro e w_z ⟨rfl, hh⟩
       rw [HS.out]
       try replace p := p.below hh
       try replace q := q.below hh
       try replace r := r.below hh
       try replace XA := XA.below hh
       try replace XB := XB.below hh
       try replace XC := XC.below hh
       try replace o := o.below hh
       try replace XO := XO.below hh
       try replace d := d.below hh
       try replace XD := XD.below hh
       replace hb := bend hb hh)
    | (go_at_call 92; (with_reducible refine (ptoseg_p o.pr q r (by decide) (by decide) (by decide) (by decide)).mono ?_); rintro e w_e1 ⟨s_e1, A_e1, n_e1, c_e1, B_e1, m_e1, d_e1, rfl, e1, hh⟩
       try replace p := p.below hh
       try replace q := q.below hh
       try replace r := r.below hh
       try replace XA := XA.below hh
       try replace XB := XB.below hh
       try replace XC := XC.below hh
       try replace o := o.below hh
       try replace XO := XO.below hh
       try replace d := d.below hh
       try replace XD := XD.below hh
       replace hb := bend hb hh)
    | (go_at_call 30; (with_reducible refine (rsign_q e1.qr (by decide) (by decide)).mono ?_); rintro e w_z ⟨rfl, hh⟩
       rw [HE.out]; clear e1
       try replace p := p.below hh
       try replace q := q.below hh
       try replace r := r.below hh
       try replace XA := XA.below hh
       try replace XB := XB.below hh
       try replace XC := XC.below hh
       try replace o := o.below hh
       try replace XO := XO.below hh
       try replace d := d.below hh
       try replace XD := XD.below hh
       replace hb := bend hb hh)
    | (go_at_call 92; (with_reducible refine (ptoseg_p p r q (by decide) (by decide) (by decide) (by decide)).mono ?_); rintro e w_e2 ⟨s_e2, A_e2, n_e2, c_e2, B_e2, m_e2, d_e2, rfl, e2, hh⟩
       try replace p := p.below hh
       try replace q := q.below hh
       try replace r := r.below hh
       try replace XA := XA.below hh
       try replace XB := XB.below hh
       try replace XC := XC.below hh
       try replace o := o.below hh
       try replace XO := XO.below hh
       try replace d := d.below hh
       try replace XD := XD.below hh
       replace hb := bend hb hh)
    | (go_at_call 28; (with_reducible refine (rcmp_q d.qr e2.qr (by decide) (by decide) (.inl (by decide)) (by decide) (by decide)).mono ?_); rintro e w_z ⟨rfl, hh⟩
       rw [HB.out]; clear e2
       try replace p := p.below hh
       try replace q := q.below hh
       try replace r := r.below hh
       try replace XA := XA.below hh
       try replace XB := XB.below hh
       try replace XC := XC.below hh
       try replace o := o.below hh
       try replace XO := XO.below hh
       try replace d := d.below hh
       try replace XD := XD.below hh
       replace hb := bend hb hh))
  clear o XO
  have xa0 := XA.c0
  have xa1 := XA.c1
  have xa2 := XA.c2
  have xa3 := XA.c3
  have xa4 := XA.c4
  have xa5 := XA.c5
  have xb0 := XB.c0
  have xb1 := XB.c1
  have xb2 := XB.c2
  have xb3 := XB.c3
  have xb4 := XB.c4
  have xb5 := XB.c5
  have xc0 := XC.c0
  have xc1 := XC.c1
  have xc2 := XC.c2
  have xc3 := XC.c3
  have xc4 := XC.c4
  have xc5 := XC.c5
  have xd0 := XD.c0
  have xd1 := XD.c1
  have xd2 := XD.c2
  go_upto_region 11 with (first
      | (go_at_call 30; (with_reducible refine (rsign_q d.qr (by decide) (by decide)).mono ?_); rintro e w_z ⟨rfl, hh⟩
         rw [HS.out]
         try replace p := p.below hh
         try replace q := q.below hh
         try replace r := r.below hh
         try replace XA := XA.below hh
         try replace XB := XB.below hh
         try replace XC := XC.below hh
         try replace d := d.below hh
         try replace XD := XD.below hh
         replace hb := bend hb hh
         have xa0 := XA.c0
         have xa1 := XA.c1
         have xa2 := XA.c2
         have xa3 := XA.c3
         have xa4 := XA.c4
         have xa5 := XA.c5
         have xb0 := XB.c0
         have xb1 := XB.c1
         have xb2 := XB.c2
         have xb3 := XB.c3
         have xb4 := XB.c4
         have xb5 := XB.c5
         have xc0 := XC.c0
         have xc1 := XC.c1
         have xc2 := XC.c2
         have xc3 := XC.c3
         have xc4 := XC.c4
         have xc5 := XC.c5
         have xd0 := XD.c0
         have xd1 := XD.c1
         have xd2 := XD.c2))
  clear d XD
  replace p := p.below (Below.refl _ _).drew
  replace q := q.below (Below.refl _ _).drew
  replace r := r.below (Below.refl _ _).drew
  replace XA := XA.below (Below.refl _ _).drew
  replace XB := XB.below (Below.refl _ _).drew
  replace XC := XC.below (Below.refl _ _).drew
  replace hb := hb.drew
  refine wp_region_held_drew (S := (fun w' => w'.cell? ⟨g_a, 0, none⟩ = some (.bool s_p) ∧ w'.cell? ⟨g_a, 1, none⟩ = some (.slice A_p n_p c_p) ∧ w'.cell? ⟨g_a, 2, none⟩ = some (.slice B_p m_p d_p) ∧ w'.cell? ⟨g_a, 3, none⟩ = some (.bool t_p) ∧ w'.cell? ⟨g_a, 4, none⟩ = some (.slice E_p i_p e_p) ∧ w'.cell? ⟨g_a, 5, none⟩ = some (.slice F_p j_p f_p) ∧ w'.cell? ⟨g_b, 0, none⟩ = some (.bool s_q) ∧ w'.cell? ⟨g_b, 1, none⟩ = some (.slice A_q n_q c_q) ∧ w'.cell? ⟨g_b, 2, none⟩ = some (.slice B_q m_q d_q) ∧ w'.cell? ⟨g_b, 3, none⟩ = some (.bool t_q) ∧ w'.cell? ⟨g_b, 4, none⟩ = some (.slice E_q i_q e_q) ∧ w'.cell? ⟨g_b, 5, none⟩ = some (.slice F_q j_q f_q) ∧ w'.cell? ⟨g_c, 0, none⟩ = some (.bool s_r) ∧ w'.cell? ⟨g_c, 1, none⟩ = some (.slice A_r n_r c_r) ∧ w'.cell? ⟨g_c, 2, none⟩ = some (.slice B_r m_r d_r) ∧ w'.cell? ⟨g_c, 3, none⟩ = some (.bool t_r) ∧ w'.cell? ⟨g_c, 4, none⟩ = some (.slice E_r i_r e_r) ∧ w'.cell? ⟨g_c, 5, none⟩ = some (.slice F_r j_r f_r))) (by kernel_rfl) ⟨XA.c0, XA.c1, XA.c2, XA.c3, XA.c4, XA.c5, XB.c0, XB.c1, XB.c2, XB.c3, XB.c4, XB.c5, XC.c0, XC.c1, XC.c2, XC.c3, XC.c4, XC.c5⟩ (fun hHeld => ?_)
  refine wpAnyH_take (i := 0) (oi := { dst := some 85, op := Op.load 83 (Operand.tmp 6), type := 83, pos := "law.go:75", after := #[], guard := none }) (v := ?_) rfl (by kernel_rfl) (by kernel_rfl) (by kernel_rfl) (fun _ _ _ h => h) (Or.inl ⟨by rfl, ?_⟩) hHeld ?_
  rotate_left
  · (intro w hSw; (try dsimp only at hSw); go_simp; try with_reducible rfl)
  simp only [Act.put, List.setIfInBounds_toArray, List.set_cons_zero, List.set_cons_succ]
  refine wpAnyH_take (i := 1) (oi := { dst := some 86, op := Op.load 83 (Operand.tmp 7), type := 83, pos := "law.go:75", after := #[], guard := none }) (v := ?_) rfl (by kernel_rfl) (by kernel_rfl) (by kernel_rfl) (fun _ _ _ h => h) (Or.inl ⟨by rfl, ?_⟩) hHeld ?_
  rotate_left
  · (intro w hSw; (try dsimp only at hSw); go_simp; try with_reducible rfl)
  simp only [Act.put, List.setIfInBounds_toArray, List.set_cons_zero, List.set_cons_succ]
  refine wpAnyH_take (i := 2) (oi := { dst := some 87, op := Op.load 83 (Operand.tmp 5), type := 83, pos := "law.go:75", after := #[], guard := none }) (v := ?_) rfl (by kernel_rfl) (by kernel_rfl) (by kernel_rfl) (fun _ _ _ h => h) (Or.inl ⟨by rfl, ?_⟩) hHeld ?_
  rotate_left
  · (intro w hSw; (try dsimp only at hSw); go_simp; try with_reducible rfl)
  simp only [Act.put, List.setIfInBounds_toArray, List.set_cons_zero, List.set_cons_succ]
  refine wpAnyH_ready (rs := [3]) (by kernel_rfl) (by simp) ?_
  refine AllReadyH.cons (o := { dst := some 88, op := Op.call { callee := Callee.value (Operand.func 88), args := #[Operand.tmp 85, Operand.tmp 86, Operand.tmp 87], argTypes := #[83, 83, 83] }, type := 3, pos := "law.go:75", after := #[{ on := 0, ground := Ground.data }, { on := 1, ground := Ground.data }, { on := 2, ground := Ground.data }], guard := none }) rfl (fun K1 hK1 => ?_) AllReadyH.nil
  go_simp
  first
    | (go_at_call 88; (with_reducible refine (porient_p q r p (by decide) (by decide)).mono ?_); rintro e w_z ⟨rfl, hh⟩
       rw [HO.out]
       try replace p := p.below hh
       try replace q := q.below hh
       try replace r := r.below hh
       try replace XA := XA.below hh
       try replace XB := XB.below hh
       try replace XC := XC.below hh
       replace hb := bend hb hh)
  refine hK1.out _ _ ⟨XA.c0, XA.c1, XA.c2, XA.c3, XA.c4, XA.c5, XB.c0, XB.c1, XB.c2, XB.c3, XB.c4, XB.c5, XC.c0, XC.c1, XC.c2, XC.c3, XC.c4, XC.c5⟩ (fun hHeld => ?_)
  clear hK1 K1
  refine wpAnyH_take (i := 4) (oi := { dst := some 89, op := Op.binOp BinOp.neq 3 (Operand.tmp 88) (Operand.const (Value.int IntKind.i64 0)) 3, type := 4, pos := "law.go:75", after := #[{ on := 3, ground := Ground.data }], guard := none }) (v := ?_) rfl (by kernel_rfl) (by kernel_rfl) (by kernel_rfl) (fun _ _ _ h => h) (Or.inl ⟨by rfl, ?_⟩) hHeld ?_
  rotate_left
  · (intro w hSw; (try dsimp only at hSw); go_simp; try with_reducible rfl)
  simp only [Act.put, List.setIfInBounds_toArray, List.set_cons_zero, List.set_cons_succ]
  refine wpAnyH_take (i := 5) (oi := { dst := some 90, op := Op.move (Operand.tmp 89), type := 4, pos := "law.go:75", after := #[{ on := 4, ground := Ground.data }, { on := 3, ground := Ground.chain }], guard := none }) (v := ?_) rfl (by kernel_rfl) (by kernel_rfl) (by kernel_rfl) (fun _ _ _ h => h) (Or.inl ⟨by rfl, ?_⟩) hHeld ?_
  rotate_left
  · (intro w hSw; (try dsimp only at hSw); go_simp; try with_reducible rfl)
  simp only [Act.put, List.setIfInBounds_toArray, List.set_cons_zero, List.set_cons_succ]
  refine wpAnyH_take (i := 6) (oi := { dst := some 91, op := Op.load 83 (Operand.tmp 5), type := 83, pos := "law.go:75", after := #[{ on := 5, ground := Ground.guard }], guard := some (5, false) }) (v := ?_) rfl (by kernel_rfl) (by kernel_rfl) (by kernel_rfl) (fun _ _ _ h => h) (Or.inl ⟨by rfl, ?_⟩) hHeld ?_
  rotate_left
  · (intro w hSw; (try dsimp only at hSw); go_simp; try with_reducible rfl)
  simp only [Act.put, List.setIfInBounds_toArray, List.set_cons_zero, List.set_cons_succ]
  refine wpAnyH_take (i := 7) (oi := { dst := some 92, op := Op.load 83 (Operand.tmp 6), type := 83, pos := "law.go:75", after := #[{ on := 5, ground := Ground.guard }], guard := some (5, false) }) (v := ?_) rfl (by kernel_rfl) (by kernel_rfl) (by kernel_rfl) (fun _ _ _ h => h) (Or.inl ⟨by rfl, ?_⟩) hHeld ?_
  rotate_left
  · (intro w hSw; (try dsimp only at hSw); go_simp; try with_reducible rfl)
  simp only [Act.put, List.setIfInBounds_toArray, List.set_cons_zero, List.set_cons_succ]
  refine wpAnyH_take (i := 9) (oi := { dst := some 94, op := Op.load 83 (Operand.tmp 5), type := 83, pos := "law.go:75", after := #[{ on := 5, ground := Ground.guard }], guard := some (5, false) }) (v := ?_) rfl (by kernel_rfl) (by kernel_rfl) (by kernel_rfl) (fun _ _ _ h => h) (Or.inl ⟨by rfl, ?_⟩) hHeld ?_
  rotate_left
  · (intro w hSw; (try dsimp only at hSw); go_simp; try with_reducible rfl)
  simp only [Act.put, List.setIfInBounds_toArray, List.set_cons_zero, List.set_cons_succ]
  refine wpAnyH_take (i := 10) (oi := { dst := some 95, op := Op.load 83 (Operand.tmp 7), type := 83, pos := "law.go:75", after := #[{ on := 5, ground := Ground.guard }], guard := some (5, false) }) (v := ?_) rfl (by kernel_rfl) (by kernel_rfl) (by kernel_rfl) (fun _ _ _ h => h) (Or.inl ⟨by rfl, ?_⟩) hHeld ?_
  rotate_left
  · (intro w hSw; (try dsimp only at hSw); go_simp; try with_reducible rfl)
  simp only [Act.put, List.setIfInBounds_toArray, List.set_cons_zero, List.set_cons_succ]
  refine wpAnyH_ready (rs := [8]) (by kernel_rfl) (by simp) ?_
  refine AllReadyH.cons (o := { dst := some 93, op := Op.call { callee := Callee.value (Operand.func 75), args := #[Operand.tmp 91, Operand.tmp 92], argTypes := #[83, 83] }, type := 83, pos := "law.go:75", after := #[{ on := 6, ground := Ground.data }, { on := 7, ground := Ground.data }, { on := 5, ground := Ground.chain }, { on := 5, ground := Ground.guard }], guard := some (5, false) }) rfl (fun K1 hK1 => ?_) AllReadyH.nil
  go_simp
  first
    | (go_at_call 75; (with_reducible refine (psub_p p q (by decide) (by decide) (.inl (by decide)) (by decide) (by decide)).mono ?_); rintro e w_s1 ⟨s_s1, A_s1, n_s1, c_s1, B_s1, m_s1, d_s1, t_s1, E_s1, i_s1, e_s1, F_s1, j_s1, f_s1, rfl, s1, hh⟩
       try replace p := p.below hh
       try replace q := q.below hh
       try replace r := r.below hh
       try replace XA := XA.below hh
       try replace XB := XB.below hh
       try replace XC := XC.below hh
       replace hb := bend hb hh)
    | (go_at_call 75; (with_reducible refine (psub_p p r (by decide) (by decide) (.inl (by decide)) (by decide) (by decide)).mono ?_); rintro e w_s2 ⟨s_s2, A_s2, n_s2, c_s2, B_s2, m_s2, d_s2, t_s2, E_s2, i_s2, e_s2, F_s2, j_s2, f_s2, rfl, s2, hh⟩
       try replace p := p.below hh
       try replace q := q.below hh
       try replace r := r.below hh
       try replace XA := XA.below hh
       try replace XB := XB.below hh
       try replace XC := XC.below hh
       try replace s1 := s1.below hh
       replace hb := bend hb hh)
  refine hK1.out _ _ ⟨XA.c0, XA.c1, XA.c2, XA.c3, XA.c4, XA.c5, XB.c0, XB.c1, XB.c2, XB.c3, XB.c4, XB.c5, XC.c0, XC.c1, XC.c2, XC.c3, XC.c4, XC.c5⟩ (fun hHeld => ?_)
  clear hK1 K1
  refine wpAnyH_ready (rs := [11]) (by kernel_rfl) (by simp) ?_
  refine AllReadyH.cons (o := { dst := some 96, op := Op.call { callee := Callee.value (Operand.func 75), args := #[Operand.tmp 94, Operand.tmp 95], argTypes := #[83, 83] }, type := 83, pos := "law.go:75", after := #[{ on := 9, ground := Ground.data }, { on := 10, ground := Ground.data }, { on := 8, ground := Ground.chain }, { on := 5, ground := Ground.guard }], guard := some (5, false) }) rfl (fun K1 hK1 => ?_) AllReadyH.nil
  go_simp
  first
    | (go_at_call 75; (with_reducible refine (psub_p p q (by decide) (by decide) (.inl (by decide)) (by decide) (by decide)).mono ?_); rintro e w_s1 ⟨s_s1, A_s1, n_s1, c_s1, B_s1, m_s1, d_s1, t_s1, E_s1, i_s1, e_s1, F_s1, j_s1, f_s1, rfl, s1, hh⟩
       try replace p := p.below hh
       try replace q := q.below hh
       try replace r := r.below hh
       try replace XA := XA.below hh
       try replace XB := XB.below hh
       try replace XC := XC.below hh
       replace hb := bend hb hh)
    | (go_at_call 75; (with_reducible refine (psub_p p r (by decide) (by decide) (.inl (by decide)) (by decide) (by decide)).mono ?_); rintro e w_s2 ⟨s_s2, A_s2, n_s2, c_s2, B_s2, m_s2, d_s2, t_s2, E_s2, i_s2, e_s2, F_s2, j_s2, f_s2, rfl, s2, hh⟩
       try replace p := p.below hh
       try replace q := q.below hh
       try replace r := r.below hh
       try replace XA := XA.below hh
       try replace XB := XB.below hh
       try replace XC := XC.below hh
       try replace s1 := s1.below hh
       replace hb := bend hb hh)
  refine hK1.out _ _ ⟨XA.c0, XA.c1, XA.c2, XA.c3, XA.c4, XA.c5, XB.c0, XB.c1, XB.c2, XB.c3, XB.c4, XB.c5, XC.c0, XC.c1, XC.c2, XC.c3, XC.c4, XC.c5⟩ (fun hHeld => ?_)
  clear hK1 K1
  refine wpAnyH_ready (rs := [12]) (by kernel_rfl) (by simp) ?_
  refine AllReadyH.cons (o := { dst := some 97, op := Op.call { callee := Callee.value (Operand.func 81), args := #[Operand.tmp 93, Operand.tmp 96], argTypes := #[83, 83] }, type := 26, pos := "law.go:75", after := #[{ on := 8, ground := Ground.data }, { on := 11, ground := Ground.data }, { on := 11, ground := Ground.chain }, { on := 5, ground := Ground.guard }], guard := some (5, false) }) rfl (fun K1 hK1 => ?_) AllReadyH.nil
  go_simp
  first
    | (go_at_call 81; (with_reducible refine (pdot_p s1.pr s2.pr (by decide) (by decide) (by decide)).mono ?_); rintro e w_s3 ⟨s_s3, A_s3, n_s3, c_s3, B_s3, m_s3, d_s3, rfl, s3, hh⟩
       try replace p := p.below hh
       try replace q := q.below hh
       try replace r := r.below hh
       try replace XA := XA.below hh
       try replace XB := XB.below hh
       try replace XC := XC.below hh
       replace hb := bend hb hh
       clear s1 s2)
  refine hK1.out _ _ ⟨XA.c0, XA.c1, XA.c2, XA.c3, XA.c4, XA.c5, XB.c0, XB.c1, XB.c2, XB.c3, XB.c4, XB.c5, XC.c0, XC.c1, XC.c2, XC.c3, XC.c4, XC.c5⟩ (fun hHeld => ?_)
  clear hK1 K1
  refine wpAnyH_ready (rs := [13]) (by kernel_rfl) (by simp) ?_
  refine AllReadyH.cons (o := { dst := some 98, op := Op.call { callee := Callee.value (Operand.func 30), args := #[Operand.tmp 97], argTypes := #[26] }, type := 3, pos := "law.go:75", after := #[{ on := 12, ground := Ground.data }, { on := 12, ground := Ground.chain }, { on := 5, ground := Ground.guard }], guard := some (5, false) }) rfl (fun K1 hK1 => ?_) AllReadyH.nil
  go_simp
  first
    | (go_at_call 30; (with_reducible refine (rsign_q s3.qr (by decide) (by decide)).mono ?_); rintro e w_z ⟨rfl, hh⟩
       rw [HT.out]; clear s3
       try replace p := p.below hh
       try replace q := q.below hh
       try replace r := r.below hh
       try replace XA := XA.below hh
       try replace XB := XB.below hh
       try replace XC := XC.below hh
       replace hb := bend hb hh)
  refine hK1.out _ _ ⟨XA.c0, XA.c1, XA.c2, XA.c3, XA.c4, XA.c5, XB.c0, XB.c1, XB.c2, XB.c3, XB.c4, XB.c5, XC.c0, XC.c1, XC.c2, XC.c3, XC.c4, XC.c5⟩ (fun hHeld => ?_)
  clear hK1 K1
  refine wpAnyH_take (i := 14) (oi := { dst := some 99, op := Op.binOp BinOp.gtr 3 (Operand.tmp 98) (Operand.const (Value.int IntKind.i64 0)) 3, type := 4, pos := "law.go:75", after := #[{ on := 13, ground := Ground.data }, { on := 5, ground := Ground.guard }], guard := some (5, false) }) (v := ?_) rfl (by kernel_rfl) (by kernel_rfl) (by kernel_rfl) (fun _ _ _ h => h) (Or.inl ⟨by rfl, ?_⟩) hHeld ?_
  rotate_left
  · (intro w hSw; (try dsimp only at hSw); go_simp; try with_reducible rfl)
  simp only [Act.put, List.setIfInBounds_toArray, List.set_cons_zero, List.set_cons_succ]
  refine wpAnyH_take (i := 15) (oi := { dst := some 100, op := Op.pick (Operand.tmp 90) (Operand.const (Value.bool true)) (Operand.tmp 99), type := 4, pos := "law.go:75", after := #[{ on := 5, ground := Ground.data }, { on := 14, ground := Ground.data }], guard := none }) (v := ?_) rfl (by kernel_rfl) (by kernel_rfl) (by kernel_rfl) (fun _ _ _ h => h) (Or.inl ⟨by rfl, ?_⟩) hHeld ?_
  rotate_left
  · (intro w hSw; (try dsimp only at hSw); go_simp; try with_reducible rfl)
  simp only [Act.put, List.setIfInBounds_toArray, List.set_cons_zero, List.set_cons_succ]
  refine wpAnyH_take (i := 16) (oi := { dst := some 101, op := Op.move (Operand.tmp 100), type := 4, pos := "law.go:75", after := #[{ on := 15, ground := Ground.data }, { on := 13, ground := Ground.chain }], guard := none }) (v := ?_) rfl (by kernel_rfl) (by kernel_rfl) (by kernel_rfl) (fun _ _ _ h => h) (Or.inl ⟨by rfl, ?_⟩) hHeld ?_
  rotate_left
  · (intro w hSw; (try dsimp only at hSw); go_simp; try with_reducible rfl)
  simp only [Act.put, List.setIfInBounds_toArray, List.set_cons_zero, List.set_cons_succ]
  refine wpAnyH_take (i := 17) (oi := { dst := some 102, op := Op.load 83 (Operand.tmp 6), type := 83, pos := "law.go:75", after := #[{ on := 16, ground := Ground.guard }], guard := some (16, false) }) (v := undef) rfl (by kernel_rfl) (by kernel_rfl) (by kernel_rfl) (fun _ _ _ h => h) (Or.inr ⟨by rfl, rfl⟩) hHeld ?_
  simp only [Act.put, List.setIfInBounds_toArray, List.set_cons_zero, List.set_cons_succ]
  refine wpAnyH_take (i := 18) (oi := { dst := some 103, op := Op.load 83 (Operand.tmp 7), type := 83, pos := "law.go:75", after := #[{ on := 16, ground := Ground.guard }], guard := some (16, false) }) (v := undef) rfl (by kernel_rfl) (by kernel_rfl) (by kernel_rfl) (fun _ _ _ h => h) (Or.inr ⟨by rfl, rfl⟩) hHeld ?_
  simp only [Act.put, List.setIfInBounds_toArray, List.set_cons_zero, List.set_cons_succ]
  refine wpAnyH_take (i := 19) (oi := { dst := some 104, op := Op.call { callee := Callee.value (Operand.func 85), args := #[Operand.tmp 102, Operand.tmp 103], argTypes := #[83, 83] }, type := 4, pos := "law.go:75", after := #[{ on := 17, ground := Ground.data }, { on := 18, ground := Ground.data }, { on := 16, ground := Ground.chain }, { on := 16, ground := Ground.guard }], guard := some (16, false) }) (v := undef) rfl (by kernel_rfl) (by kernel_rfl) (by kernel_rfl) (fun _ _ _ h => h) (Or.inr ⟨by rfl, rfl⟩) hHeld ?_
  simp only [Act.put, List.setIfInBounds_toArray, List.set_cons_zero, List.set_cons_succ]
  refine wpAnyH_take (i := 20) (oi := { dst := some 105, op := Op.pick (Operand.tmp 101) (Operand.const (Value.bool true)) (Operand.tmp 104), type := 4, pos := "law.go:75", after := #[{ on := 16, ground := Ground.data }, { on := 19, ground := Ground.data }], guard := none }) (v := ?_) rfl (by kernel_rfl) (by kernel_rfl) (by kernel_rfl) (fun _ _ _ h => h) (Or.inl ⟨by rfl, ?_⟩) hHeld ?_
  rotate_left
  · (intro w hSw; (try dsimp only at hSw); go_simp; try with_reducible rfl)
  simp only [Act.put, List.setIfInBounds_toArray, List.set_cons_zero, List.set_cons_succ]
  refine wpAnyH_take (i := 21) (oi := { dst := some 106, op := Op.move (Operand.tmp 105), type := 4, pos := "law.go:75", after := #[{ on := 20, ground := Ground.data }, { on := 19, ground := Ground.chain }], guard := none }) (v := ?_) rfl (by kernel_rfl) (by kernel_rfl) (by kernel_rfl) (fun _ _ _ h => h) (Or.inl ⟨by rfl, ?_⟩) hHeld ?_
  rotate_left
  · (intro w hSw; (try dsimp only at hSw); go_simp; try with_reducible rfl)
  simp only [Act.put, List.setIfInBounds_toArray, List.set_cons_zero, List.set_cons_succ]
  refine wpAnyH_ready (rs := [22]) (by kernel_rfl) (by simp) ?_
  refine AllReadyH.cons (o := { dst := some 107, op := Op.call { callee := Callee.value (Operand.func 67), args := #[], argTypes := #[] }, type := 4, pos := "law.go:75", after := #[{ on := 21, ground := Ground.chain }, { on := 21, ground := Ground.guard }], guard := some (21, true) }) rfl (fun K1 hK1 => ?_) AllReadyH.nil
  go_simp
  first
    | (go_at_call 67; (with_reducible refine (pwakes_any _).mono ?_); rintro e w_z ⟨rfl, hh⟩
       try replace XA := XA.below hh
       try replace XB := XB.below hh
       try replace XC := XC.below hh
       replace hb := bend hb hh)
  refine hK1.out _ _ ⟨XA.c0, XA.c1, XA.c2, XA.c3, XA.c4, XA.c5, XB.c0, XB.c1, XB.c2, XB.c3, XB.c4, XB.c5, XC.c0, XC.c1, XC.c2, XC.c3, XC.c4, XC.c5⟩ (fun hHeld => ?_)
  clear hK1 K1
  refine wpAnyH_take (i := 23) (oi := { dst := some 108, op := Op.pick (Operand.tmp 106) (Operand.tmp 107) (Operand.const (Value.bool false)), type := 4, pos := "law.go:75", after := #[{ on := 21, ground := Ground.data }, { on := 22, ground := Ground.data }], guard := none }) (v := ?_) rfl (by kernel_rfl) (by kernel_rfl) (by kernel_rfl) (fun _ _ _ h => h) (Or.inl ⟨by rfl, ?_⟩) hHeld ?_
  rotate_left
  · (intro w hSw; (try dsimp only at hSw); go_simp; try with_reducible rfl)
  simp only [Act.put, List.setIfInBounds_toArray, List.set_cons_zero, List.set_cons_succ]
  refine wpAnyH_take (i := 24) (oi := { dst := some 4, op := Op.assign (Operand.tmp 108), type := 4, pos := "law.go:75", after := #[{ on := 23, ground := Ground.data }, { on := 22, ground := Ground.chain }, { on := 0, ground := Ground.phase }, { on := 1, ground := Ground.phase }, { on := 2, ground := Ground.phase }, { on := 3, ground := Ground.phase }, { on := 4, ground := Ground.phase }, { on := 5, ground := Ground.phase }, { on := 6, ground := Ground.phase }, { on := 7, ground := Ground.phase }, { on := 8, ground := Ground.phase }, { on := 9, ground := Ground.phase }, { on := 10, ground := Ground.phase }, { on := 11, ground := Ground.phase }, { on := 12, ground := Ground.phase }, { on := 13, ground := Ground.phase }, { on := 14, ground := Ground.phase }, { on := 15, ground := Ground.phase }, { on := 16, ground := Ground.phase }, { on := 17, ground := Ground.phase }, { on := 18, ground := Ground.phase }, { on := 19, ground := Ground.phase }, { on := 20, ground := Ground.phase }, { on := 21, ground := Ground.phase }, { on := 22, ground := Ground.phase }, { on := 23, ground := Ground.phase }], guard := none }) (v := ?_) rfl (by kernel_rfl) (by kernel_rfl) (by kernel_rfl) (fun _ _ _ h => h) (Or.inl ⟨by rfl, ?_⟩) hHeld ?_
  rotate_left
  · (intro w hSw; (try dsimp only at hSw); go_simp; try with_reducible rfl)
  simp only [Act.put, List.setIfInBounds_toArray, List.set_cons_zero, List.set_cons_succ]
  refine wpAnyH_done (by kernel_rfl) ?_ _
  clear hHeld
  go_wp2_with fail
  go_ret
  exact ⟨rfl, hb⟩
set_option maxRecDepth 100000 in
set_option maxHeartbeats 16000000 in
theorem near_s {w : World} {s_p t_p : Bool} {A_p B_p E_p F_p : Option Addr} {n_p c_p m_p d_p i_p e_p j_p f_p : Nat} {s_q t_q : Bool} {A_q B_q E_q F_q : Option Addr} {n_q c_q m_q d_q i_q e_q j_q f_q : Nat} {s_r t_r : Bool} {A_r B_r E_r F_r : Option Addr} {n_r c_r m_r d_r i_r e_r j_r f_r : Nat} (t : Nat) {px py ax ay bx by_ : Rat} (p : PR w s_p A_p n_p c_p B_p m_p d_p t_p E_p i_p e_p F_p j_p f_p px py 6) (q : PR w s_q A_q n_q c_q B_q m_q d_q t_q E_q i_q e_q F_q j_q f_q ax ay 6) (r : PR w s_r A_r n_r c_r B_r m_r d_r t_r E_r i_r e_r F_r j_r f_r bx by_ 6) (h : (((n_p ≤ 6 ∧ m_p ≤ 6) ∧ i_p ≤ 6 ∧ j_p ≤ 6) ∧ ((n_q ≤ 6 ∧ m_q ≤ 6) ∧ i_q ≤ 6 ∧ j_q ≤ 6) ∧ ((n_r ≤ 6 ∧ m_r ≤ 6) ∧ i_r ≤ 6 ∧ j_r ≤ 6))) (ht : t ≤ 255) (hd : segQ px py ax ay bx by_ ≠ 0) (hK : orientQ ax ay bx by_ px py = 0) (hp : (px - ax) * (px - bx) + (py - ay) * (py - by_) ≤ 0) :
    Calls Tryz.prog 12 #[.agg #[.bool s_p, .slice A_p n_p c_p, .slice B_p m_p d_p, .bool t_p, .slice E_p i_p e_p, .slice F_p j_p f_p, .bool s_q, .slice A_q n_q c_q, .slice B_q m_q d_q, .bool t_q, .slice E_q i_q e_q, .slice F_q j_q f_q, .bool s_r, .slice A_r n_r c_r, .slice B_r m_r d_r, .bool t_r, .slice E_r i_r e_r, .slice F_r j_r f_r], .int .u8 (t : Int)] w fun e w' => e = .returned (.bool true) ∧ Below w.heap.size w w' := by
  have HL : Hid (decide (((n_p ≤ 6 ∧ m_p ≤ 6) ∧ i_p ≤ 6 ∧ j_p ≤ 6) ∧ ((n_q ≤ 6 ∧ m_q ≤ 6) ∧ i_q ≤ 6 ∧ j_q ≤ 6) ∧ ((n_r ≤ 6 ∧ m_r ≤ 6) ∧ i_r ≤ 6 ∧ j_r ≤ 6)) = true) := decide_eq_true h
  have hti : (t : Int) ≤ 255 := by omega
  have hr := tq_range ht
  obtain ⟨M, hM, hM0⟩ : ∃ M, cmpQ (segQ px py ax ay bx by_) (farQ px py (ax + (bx - ax) * (Rat.divInt (t : Int) 255)) (ay + (by_ - ay) * (Rat.divInt (t : Int) 255))) = M ∧ decide (0 < M) = false := ⟨_, rfl, decide_eq_false (by have := cmpQ_le.2 (seg_near px py ax ay bx by_ (Rat.divInt (t : Int) 255) hr.1 hr.2 rfl rfl); omega)⟩
  have HM := Lib.hid hM
  have HE : Hid (sgnQ (segQ (ax + (bx - ax) * (Rat.divInt (t : Int) 255)) (ay + (by_ - ay) * (Rat.divInt (t : Int) 255)) ax ay bx by_) = 0) := by show _ = _; rw [seg_on ax ay bx by_ (Rat.divInt (t : Int) 255) hr.1 hr.2 rfl rfl]; rfl
  have HB : Hid (cmpQ (segQ px py ax ay bx by_) (segQ px py bx by_ ax ay) = 0) := cmpQ_nul.2 (seg_back px py ax ay bx by_).symm
  have HS : Hid (sgnQ (segQ px py ax ay bx by_) = 1) := by
    show _ = _
    have h0 := seg_nn px py ax ay bx by_
    unfold sgnQ
    rw [if_neg (Rat.not_lt.2 h0), if_neg hd]
  have HO := Lib.hid hK
  obtain ⟨T, hT, hT0⟩ : ∃ T, sgnQ ((px - ax) * (px - bx) + (py - ay) * (py - by_)) = T ∧ decide (0 < T) = false := ⟨_, rfl, decide_eq_false (by have := sgn_nonpos.2 hp; omega)⟩
  have HT := Lib.hid hT
  have HQ : Hid (decide (ax = bx ∧ ay = by_) = true) := decide_eq_true (seg_far px py ax ay bx by_ hd hK hp)
  clear hT hp
  clear hK
  clear h hd hr hM ht
  go_enter Tryz.func12, Tryz.ntmps12
  go_upto_region 1 with (fail)
  generalize hW : (w.alloc (Obj.cells #[Value.bool s_p, Value.slice A_p n_p c_p, Value.slice B_p m_p d_p, Value.bool t_p, Value.slice E_p i_p e_p, Value.slice F_p j_p f_p, Value.bool s_q, Value.slice A_q n_q c_q, Value.slice B_q m_q d_q, Value.bool t_q, Value.slice E_q i_q e_q, Value.slice F_q j_q f_q, Value.bool s_r, Value.slice A_r n_r c_r, Value.slice B_r m_r d_r, Value.bool t_r, Value.slice E_r i_r e_r, Value.slice F_r j_r f_r] 109)) = W
  have hb : Below w.heap.size w W := by subst hW; exact ((Below.refl _ _).alloc (Nat.le_refl _) _)
  have XL0 : BA3 W (w.heap.size) (Value.bool s_p) (Value.slice A_p n_p c_p) (Value.slice B_p m_p d_p) (Value.bool t_p) (Value.slice E_p i_p e_p) (Value.slice F_p j_p f_p) (Value.bool s_q) (Value.slice A_q n_q c_q) (Value.slice B_q m_q d_q) (Value.bool t_q) (Value.slice E_q i_q e_q) (Value.slice F_q j_q f_q) (Value.bool s_r) (Value.slice A_r n_r c_r) (Value.slice B_r m_r d_r) (Value.bool t_r) (Value.slice E_r i_r e_r) (Value.slice F_r j_r f_r) := by subst hW; exact BA3.new' _ _ _ _ _ _ _ _ _ _ _ _ _ _ _ _ _ _ _ _ rfl
  have hzW : W.heap.size = w.heap.size + 1 := by subst hW; simp
  clear hW
  replace p := p.below hb
  replace q := q.below hb
  replace r := r.below hb
  refine near_region (by simp) rfl XL0 ?_
  intro V w_1 g_a g_b g_c XA hg_a hva XB hg_b hvb XC hg_c hvc hne1 hne2 hne3 hh
  simp only [putAll, Act.put, List.setIfInBounds_toArray, List.set_cons_zero, List.set_cons_succ, hva, hvb, hvc]
  clear hva hvb hvc XL0 hne1 hne2 hne3
  replace p := p.below hh
  replace q := q.below hh
  replace r := r.below hh
  replace hb := bend hb hh
  have xa0 := XA.c0
  have xa1 := XA.c1
  have xa2 := XA.c2
  have xa3 := XA.c3
  have xa4 := XA.c4
  have xa5 := XA.c5
  have xb0 := XB.c0
  have xb1 := XB.c1
  have xb2 := XB.c2
  have xb3 := XB.c3
  have xb4 := XB.c4
  have xb5 := XB.c5
  have xc0 := XC.c0
  have xc1 := XC.c1
  have xc2 := XC.c2
  have xc3 := XC.c3
  have xc4 := XC.c4
  have xc5 := XC.c5
  go_wp2_with fail
  generalize hW : (w_1.alloc (Obj.cells #[Value.bool s_p, Value.slice A_p n_p c_p, Value.slice B_p m_p d_p, Value.bool t_p, Value.slice E_p i_p e_p, Value.slice F_p j_p f_p, Value.bool s_q, Value.slice A_q n_q c_q, Value.slice B_q m_q d_q, Value.bool t_q, Value.slice E_q i_q e_q, Value.slice F_q j_q f_q, Value.bool s_r, Value.slice A_r n_r c_r, Value.slice B_r m_r d_r, Value.bool t_r, Value.slice E_r i_r e_r, Value.slice F_r j_r f_r] 83)) = W2
  have hh : Below w_1.heap.size w_1 W2 := by subst hW; exact ((Below.refl _ _).alloc (Nat.le_refl _) _)
  have XL : BL3 W2 (w_1.heap.size) (Value.bool s_p) (Value.slice A_p n_p c_p) (Value.slice B_p m_p d_p) (Value.bool t_p) (Value.slice E_p i_p e_p) (Value.slice F_p j_p f_p) (Value.bool s_q) (Value.slice A_q n_q c_q) (Value.slice B_q m_q d_q) (Value.bool t_q) (Value.slice E_q i_q e_q) (Value.slice F_q j_q f_q) (Value.bool s_r) (Value.slice A_r n_r c_r) (Value.slice B_r m_r d_r) (Value.bool t_r) (Value.slice E_r i_r e_r) (Value.slice F_r j_r f_r) := by subst hW; exact BL3.new' _ _ _ _ _ _ _ _ _ _ _ _ _ _ _ _ _ _ _ _ rfl
  have hzW2 : W2.heap.size = w_1.heap.size + 1 := by subst hW; simp
  clear hW
  try replace p := p.below hh
  try replace q := q.below hh
  try replace r := r.below hh
  try replace XA := XA.below hh
  try replace XB := XB.below hh
  try replace XC := XC.below hh
  replace hb := bend hb hh
  have xa0 := XA.c0
  have xa1 := XA.c1
  have xa2 := XA.c2
  have xa3 := XA.c3
  have xa4 := XA.c4
  have xa5 := XA.c5
  have xb0 := XB.c0
  have xb1 := XB.c1
  have xb2 := XB.c2
  have xb3 := XB.c3
  have xb4 := XB.c4
  have xb5 := XB.c5
  have xc0 := XC.c0
  have xc1 := XC.c1
  have xc2 := XC.c2
  have xc3 := XC.c3
  have xc4 := XC.c4
  have xc5 := XC.c5
  go_upto_region 5 with (first
      | (go_at_call 66; (with_reducible refine (fair3 XL true HL.out).mono ?_); rintro e w_z ⟨rfl, hh⟩
         clear XL
         try replace p := p.below hh
         try replace q := q.below hh
         try replace r := r.below hh
         try replace XA := XA.below hh
         try replace XB := XB.below hh
         try replace XC := XC.below hh
         replace hb := bend hb hh
         have xa0 := XA.c0
         have xa1 := XA.c1
         have xa2 := XA.c2
         have xa3 := XA.c3
         have xa4 := XA.c4
         have xa5 := XA.c5
         have xb0 := XB.c0
         have xb1 := XB.c1
         have xb2 := XB.c2
         have xb3 := XB.c3
         have xb4 := XB.c4
         have xb5 := XB.c5
         have xc0 := XC.c0
         have xc1 := XC.c1
         have xc2 := XC.c2
         have xc3 := XC.c3
         have xc4 := XC.c4
         have xc5 := XC.c5)
      | (go_at_call 42; (with_reducible refine (rof_q (t : Int) 255 (by omega) (by omega) (by decide) (by decide) (by decide) _).mono ?_); rintro e w_k ⟨s_k, A_k, n_k, c_k, B_k, m_k, d_k, rfl, k, hh⟩
         try replace p := p.below hh
         try replace q := q.below hh
         try replace r := r.below hh
         try replace XA := XA.below hh
         try replace XB := XB.below hh
         try replace XC := XC.below hh
         replace hb := bend hb hh
         have xa0 := XA.c0
         have xa1 := XA.c1
         have xa2 := XA.c2
         have xa3 := XA.c3
         have xa4 := XA.c4
         have xa5 := XA.c5
         have xb0 := XB.c0
         have xb1 := XB.c1
         have xb2 := XB.c2
         have xb3 := XB.c3
         have xb4 := XB.c4
         have xb5 := XB.c5
         have xc0 := XC.c0
         have xc1 := XC.c1
         have xc2 := XC.c2
         have xc3 := XC.c3
         have xc4 := XC.c4
         have xc5 := XC.c5))
  generalize hW : (w_k.alloc (Obj.cells #[Value.bool s_k, Value.slice A_k n_k c_k, Value.slice B_k m_k d_k] 26)) = W3
  have hh : Below w_k.heap.size w_k W3 := by subst hW; exact ((Below.refl _ _).alloc (Nat.le_refl _) _)
  have XK : B3 W3 (w_k.heap.size) (Value.bool s_k) (Value.slice A_k n_k c_k) (Value.slice B_k m_k d_k) := by subst hW; exact B3.new' _ _ _ _ _ rfl
  have hzW3 : W3.heap.size = w_k.heap.size + 1 := by subst hW; simp
  clear hW
  try replace p := p.below hh
  try replace q := q.below hh
  try replace r := r.below hh
  try replace XA := XA.below hh
  try replace XB := XB.below hh
  try replace XC := XC.below hh
  try replace k := k.below hh
  replace hb := bend hb hh
  have xa0 := XA.c0
  have xa1 := XA.c1
  have xa2 := XA.c2
  have xa3 := XA.c3
  have xa4 := XA.c4
  have xa5 := XA.c5
  have xb0 := XB.c0
  have xb1 := XB.c1
  have xb2 := XB.c2
  have xb3 := XB.c3
  have xb4 := XB.c4
  have xb5 := XB.c5
  have xc0 := XC.c0
  have xc1 := XC.c1
  have xc2 := XC.c2
  have xc3 := XC.c3
  have xc4 := XC.c4
  have xc5 := XC.c5
  have xk0 := XK.c0
  have xk1 := XK.c1
  have xk2 := XK.c2
  go_upto_region 6 with (first
      | (go_at_call 79; (with_reducible refine (pmix_p q r k.qr (by decide) (by decide) (by decide) (by decide) (by decide) (by decide)).mono ?_); rintro e w_o ⟨s_o, A_o, n_o, c_o, B_o, m_o, d_o, t_o, E_o, i_o, e_o, F_o, j_o, f_o, rfl, o, hh⟩
         try replace p := p.below hh
         try replace q := q.below hh
         try replace r := r.below hh
         try replace XA := XA.below hh
         try replace XB := XB.below hh
         try replace XC := XC.below hh
         try replace k := k.below hh
         try replace XK := XK.below hh
         replace hb := bend hb hh
         have xa0 := XA.c0
         have xa1 := XA.c1
         have xa2 := XA.c2
         have xa3 := XA.c3
         have xa4 := XA.c4
         have xa5 := XA.c5
         have xb0 := XB.c0
         have xb1 := XB.c1
         have xb2 := XB.c2
         have xb3 := XB.c3
         have xb4 := XB.c4
         have xb5 := XB.c5
         have xc0 := XC.c0
         have xc1 := XC.c1
         have xc2 := XC.c2
         have xc3 := XC.c3
         have xc4 := XC.c4
         have xc5 := XC.c5
         have xk0 := XK.c0
         have xk1 := XK.c1
         have xk2 := XK.c2))
  generalize hW : (w_o.alloc (Obj.cells #[Value.bool s_o, Value.slice A_o n_o c_o, Value.slice B_o m_o d_o, Value.bool t_o, Value.slice E_o i_o e_o, Value.slice F_o j_o f_o] 83)) = W4
  have hh : Below w_o.heap.size w_o W4 := by subst hW; exact ((Below.refl _ _).alloc (Nat.le_refl _) _)
  have XO : B6 W4 (w_o.heap.size) (Value.bool s_o) (Value.slice A_o n_o c_o) (Value.slice B_o m_o d_o) (Value.bool t_o) (Value.slice E_o i_o e_o) (Value.slice F_o j_o f_o) := by subst hW; exact B6.new' _ _ _ _ _ _ _ _ rfl
  have hzW4 : W4.heap.size = w_o.heap.size + 1 := by subst hW; simp
  clear hW
  try replace p := p.below hh
  try replace q := q.below hh
  try replace r := r.below hh
  try replace XA := XA.below hh
  try replace XB := XB.below hh
  try replace XC := XC.below hh
  try replace k := k.below hh
  try replace XK := XK.below hh
  try replace o := o.below hh
  replace hb := bend hb hh
  clear k XK
  have xa0 := XA.c0
  have xa1 := XA.c1
  have xa2 := XA.c2
  have xa3 := XA.c3
  have xa4 := XA.c4
  have xa5 := XA.c5
  have xb0 := XB.c0
  have xb1 := XB.c1
  have xb2 := XB.c2
  have xb3 := XB.c3
  have xb4 := XB.c4
  have xb5 := XB.c5
  have xc0 := XC.c0
  have xc1 := XC.c1
  have xc2 := XC.c2
  have xc3 := XC.c3
  have xc4 := XC.c4
  have xc5 := XC.c5
  have xo0 := XO.c0
  have xo1 := XO.c1
  have xo2 := XO.c2
  have xo3 := XO.c3
  have xo4 := XO.c4
  have xo5 := XO.c5
  go_upto_region 7 with (first
      | (go_at_call 92; (with_reducible refine (ptoseg_p p q r (by decide) (by decide) (by decide) (by decide)).mono ?_); rintro e w_d ⟨s_d, A_d, n_d, c_d, B_d, m_d, d_d, rfl, d, hh⟩
         try replace p := p.below hh
         try replace q := q.below hh
         try replace r := r.below hh
         try replace XA := XA.below hh
         try replace XB := XB.below hh
         try replace XC := XC.below hh
         try replace o := o.below hh
         try replace XO := XO.below hh
         replace hb := bend hb hh
         have xa0 := XA.c0
         have xa1 := XA.c1
         have xa2 := XA.c2
         have xa3 := XA.c3
         have xa4 := XA.c4
         have xa5 := XA.c5
         have xb0 := XB.c0
         have xb1 := XB.c1
         have xb2 := XB.c2
         have xb3 := XB.c3
         have xb4 := XB.c4
         have xb5 := XB.c5
         have xc0 := XC.c0
         have xc1 := XC.c1
         have xc2 := XC.c2
         have xc3 := XC.c3
         have xc4 := XC.c4
         have xc5 := XC.c5
         have xo0 := XO.c0
         have xo1 := XO.c1
         have xo2 := XO.c2
         have xo3 := XO.c3
         have xo4 := XO.c4
         have xo5 := XO.c5))
  generalize hW : (w_d.alloc (Obj.cells #[Value.bool s_d, Value.slice A_d n_d c_d, Value.slice B_d m_d d_d] 26)) = W5
  have hh : Below w_d.heap.size w_d W5 := by subst hW; exact ((Below.refl _ _).alloc (Nat.le_refl _) _)
  have XD : B3 W5 (w_d.heap.size) (Value.bool s_d) (Value.slice A_d n_d c_d) (Value.slice B_d m_d d_d) := by subst hW; exact B3.new' _ _ _ _ _ rfl
  have hzW5 : W5.heap.size = w_d.heap.size + 1 := by subst hW; simp
  clear hW
  try replace p := p.below hh
  try replace q := q.below hh
  try replace r := r.below hh
  try replace XA := XA.below hh
  try replace XB := XB.below hh
  try replace XC := XC.below hh
  try replace o := o.below hh
  try replace XO := XO.below hh
  try replace d := d.below hh
  replace hb := bend hb hh
  replace p := p.below (Below.refl _ _).drew
  replace q := q.below (Below.refl _ _).drew
  replace r := r.below (Below.refl _ _).drew
  replace XA := XA.below (Below.refl _ _).drew
  replace XB := XB.below (Below.refl _ _).drew
  replace XC := XC.below (Below.refl _ _).drew
  replace o := o.below (Below.refl _ _).drew
  replace XO := XO.below (Below.refl _ _).drew
  replace d := d.below (Below.refl _ _).drew
  replace XD := XD.below (Below.refl _ _).drew
  replace hb := hb.drew
  go_region_held3 (fun w' => w'.cell? ⟨g_a, 0, none⟩ = some (.bool s_p) ∧ w'.cell? ⟨g_a, 1, none⟩ = some (.slice A_p n_p c_p) ∧ w'.cell? ⟨g_a, 2, none⟩ = some (.slice B_p m_p d_p) ∧ w'.cell? ⟨g_a, 3, none⟩ = some (.bool t_p) ∧ w'.cell? ⟨g_a, 4, none⟩ = some (.slice E_p i_p e_p) ∧ w'.cell? ⟨g_a, 5, none⟩ = some (.slice F_p j_p f_p) ∧ w'.cell? ⟨g_b, 0, none⟩ = some (.bool s_q) ∧ w'.cell? ⟨g_b, 1, none⟩ = some (.slice A_q n_q c_q) ∧ w'.cell? ⟨g_b, 2, none⟩ = some (.slice B_q m_q d_q) ∧ w'.cell? ⟨g_b, 3, none⟩ = some (.bool t_q) ∧ w'.cell? ⟨g_b, 4, none⟩ = some (.slice E_q i_q e_q) ∧ w'.cell? ⟨g_b, 5, none⟩ = some (.slice F_q j_q f_q) ∧ w'.cell? ⟨g_c, 0, none⟩ = some (.bool s_r) ∧ w'.cell? ⟨g_c, 1, none⟩ = some (.slice A_r n_r c_r) ∧ w'.cell? ⟨g_c, 2, none⟩ = some (.slice B_r m_r d_r) ∧ w'.cell? ⟨g_c, 3, none⟩ = some (.bool t_r) ∧ w'.cell? ⟨g_c, 4, none⟩ = some (.slice E_r i_r e_r) ∧ w'.cell? ⟨g_c, 5, none⟩ = some (.slice F_r j_r f_r) ∧ w'.cell? ⟨w_o.heap.size, 0, none⟩ = some (.bool s_o) ∧ w'.cell? ⟨w_o.heap.size, 1, none⟩ = some (.slice A_o n_o c_o) ∧ w'.cell? ⟨w_o.heap.size, 2, none⟩ = some (.slice B_o m_o d_o) ∧ w'.cell? ⟨w_o.heap.size, 3, none⟩ = some (.bool t_o) ∧ w'.cell? ⟨w_o.heap.size, 4, none⟩ = some (.slice E_o i_o e_o) ∧ w'.cell? ⟨w_o.heap.size, 5, none⟩ = some (.slice F_o j_o f_o) ∧ w'.cell? ⟨w_d.heap.size, 0, none⟩ = some (.bool s_d) ∧ w'.cell? ⟨w_d.heap.size, 1, none⟩ = some (.slice A_d n_d c_d) ∧ w'.cell? ⟨w_d.heap.size, 2, none⟩ = some (.slice B_d m_d d_d))
    (first | with_reducible exact ⟨XA.c0, XA.c1, XA.c2, XA.c3, XA.c4, XA.c5, XB.c0, XB.c1, XB.c2, XB.c3, XB.c4, XB.c5, XC.c0, XC.c1, XC.c2, XC.c3, XC.c4, XC.c5, XO.c0, XO.c1, XO.c2, XO.c3, XO.c4, XO.c5, XD.c0, XD.c1, XD.c2⟩)
    (first
    | (go_at_call 90; (with_reducible refine (pfar_p p o.pr (by decide) (by decide) (by decide)).mono ?_); rintro e w_f ⟨s_f, A_f, n_f, c_f, B_f, m_f, d_f, rfl, f, hh⟩
       try replace p := p.below hh
       try replace q := q.below hh
       try replace r := r.below hh
       try replace XA := XA.below hh
       try replace XB := XB.below hh
       try replace XC := XC.below hh
       try replace o := o.below hh
       try replace XO := XO.below hh
       try replace d := d.below hh
       try replace XD := XD.below hh
       replace hb := bend hb hh)
    | (go_at_call 28; (with_reducible refine (rcmp_q d.qr f.qr (by decide) (by decide) (.inl (by decide)) (by decide) (by decide)).mono ?_); rintro e w_z ⟨rfl, hh⟩
       rw [HM.out]; clear f
       try replace p := p.below hh
       try replace q := q.below hh
       try replace r := r.below hh
       try replace XA := XA.below hh
       try replace XB := XB.below hh
       try replace XC := XC.below hh
       try replace o := o.below hh
       try replace XO := XO.below hh
       try replace d := d.below hh
       try replace XD := XD.below hh
       replace hb := bend hb hh)
    | (go_at_call 30; (with_reducible refine (rsign_q d.qr (by decide) (by decide)).mono ?_); rintro e w_z ⟨rfl, hh⟩
       rw [HS.out]
       try replace p := p.below hh
       try replace q := q.below hh
       try replace r := r.below hh
       try replace XA := XA.below hh
       try replace XB := XB.below hh
       try replace XC := XC.below hh
       try replace o := o.below hh
       try replace XO := XO.below hh
       try replace d := d.below hh
       try replace XD := XD.below hh
       replace hb := bend hb hh)
    | (go_at_call 92; (with_reducible refine (ptoseg_p o.pr q r (by decide) (by decide) (by decide) (by decide)).mono ?_); rintro e w_e1 ⟨s_e1, A_e1, n_e1, c_e1, B_e1, m_e1, d_e1, rfl, e1, hh⟩
       try replace p := p.below hh
       try replace q := q.below hh
       try replace r := r.below hh
       try replace XA := XA.below hh
       try replace XB := XB.below hh
       try replace XC := XC.below hh
       try replace o := o.below hh
       try replace XO := XO.below hh
       try replace d := d.below hh
       try replace XD := XD.below hh
       replace hb := bend hb hh)
    | (go_at_call 30; (with_reducible refine (rsign_q e1.qr (by decide) (by decide)).mono ?_); rintro e w_z ⟨rfl, hh⟩
       rw [HE.out]; clear e1
       try replace p := p.below hh
       try replace q := q.below hh
       try replace r := r.below hh
       try replace XA := XA.below hh
       try replace XB := XB.below hh
       try replace XC := XC.below hh
       try replace o := o.below hh
       try replace XO := XO.below hh
       try replace d := d.below hh
       try replace XD := XD.below hh
       replace hb := bend hb hh)
    | (go_at_call 92; (with_reducible refine (ptoseg_p p r q (by decide) (by decide) (by decide) (by decide)).mono ?_); rintro e w_e2 ⟨s_e2, A_e2, n_e2, c_e2, B_e2, m_e2, d_e2, rfl, e2, hh⟩
       try replace p := p.below hh
       try replace q := q.below hh
       try replace r := r.below hh
       try replace XA := XA.below hh
       try replace XB := XB.below hh
       try replace XC := XC.below hh
       try replace o := o.below hh
       try replace XO := XO.below hh
       try replace d := d.below hh
       try replace XD := XD.below hh
       replace hb := bend hb hh)
    | (go_at_call 28; (with_reducible refine (rcmp_q d.qr e2.qr (by decide) (by decide) (.inl (by decide)) (by decide) (by decide)).mono ?_); rintro e w_z ⟨rfl, hh⟩
       rw [HB.out]; clear e2
       try replace p := p.below hh
       try replace q := q.below hh
       try replace r := r.below hh
       try replace XA := XA.below hh
       try replace XB := XB.below hh
       try replace XC := XC.below hh
       try replace o := o.below hh
       try replace XO := XO.below hh
       try replace d := d.below hh
       try replace XD := XD.below hh
       replace hb := bend hb hh))
  clear o XO
  have xa0 := XA.c0
  have xa1 := XA.c1
  have xa2 := XA.c2
  have xa3 := XA.c3
  have xa4 := XA.c4
  have xa5 := XA.c5
  have xb0 := XB.c0
  have xb1 := XB.c1
  have xb2 := XB.c2
  have xb3 := XB.c3
  have xb4 := XB.c4
  have xb5 := XB.c5
  have xc0 := XC.c0
  have xc1 := XC.c1
  have xc2 := XC.c2
  have xc3 := XC.c3
  have xc4 := XC.c4
  have xc5 := XC.c5
  have xd0 := XD.c0
  have xd1 := XD.c1
  have xd2 := XD.c2
  go_upto_region 11 with (first
      | (go_at_call 30; (with_reducible refine (rsign_q d.qr (by decide) (by decide)).mono ?_); rintro e w_z ⟨rfl, hh⟩
         rw [HS.out]
         try replace p := p.below hh
         try replace q := q.below hh
         try replace r := r.below hh
         try replace XA := XA.below hh
         try replace XB := XB.below hh
         try replace XC := XC.below hh
         try replace d := d.below hh
         try replace XD := XD.below hh
         replace hb := bend hb hh
         have xa0 := XA.c0
         have xa1 := XA.c1
         have xa2 := XA.c2
         have xa3 := XA.c3
         have xa4 := XA.c4
         have xa5 := XA.c5
         have xb0 := XB.c0
         have xb1 := XB.c1
         have xb2 := XB.c2
         have xb3 := XB.c3
         have xb4 := XB.c4
         have xb5 := XB.c5
         have xc0 := XC.c0
         have xc1 := XC.c1
         have xc2 := XC.c2
         have xc3 := XC.c3
         have xc4 := XC.c4
         have xc5 := XC.c5
         have xd0 := XD.c0
         have xd1 := XD.c1
         have xd2 := XD.c2))
  clear d XD
  replace p := p.below (Below.refl _ _).drew
  replace q := q.below (Below.refl _ _).drew
  replace r := r.below (Below.refl _ _).drew
  replace XA := XA.below (Below.refl _ _).drew
  replace XB := XB.below (Below.refl _ _).drew
  replace XC := XC.below (Below.refl _ _).drew
  replace hb := hb.drew
  go_region_held3 (fun w' => w'.cell? ⟨g_a, 0, none⟩ = some (.bool s_p) ∧ w'.cell? ⟨g_a, 1, none⟩ = some (.slice A_p n_p c_p) ∧ w'.cell? ⟨g_a, 2, none⟩ = some (.slice B_p m_p d_p) ∧ w'.cell? ⟨g_a, 3, none⟩ = some (.bool t_p) ∧ w'.cell? ⟨g_a, 4, none⟩ = some (.slice E_p i_p e_p) ∧ w'.cell? ⟨g_a, 5, none⟩ = some (.slice F_p j_p f_p) ∧ w'.cell? ⟨g_b, 0, none⟩ = some (.bool s_q) ∧ w'.cell? ⟨g_b, 1, none⟩ = some (.slice A_q n_q c_q) ∧ w'.cell? ⟨g_b, 2, none⟩ = some (.slice B_q m_q d_q) ∧ w'.cell? ⟨g_b, 3, none⟩ = some (.bool t_q) ∧ w'.cell? ⟨g_b, 4, none⟩ = some (.slice E_q i_q e_q) ∧ w'.cell? ⟨g_b, 5, none⟩ = some (.slice F_q j_q f_q) ∧ w'.cell? ⟨g_c, 0, none⟩ = some (.bool s_r) ∧ w'.cell? ⟨g_c, 1, none⟩ = some (.slice A_r n_r c_r) ∧ w'.cell? ⟨g_c, 2, none⟩ = some (.slice B_r m_r d_r) ∧ w'.cell? ⟨g_c, 3, none⟩ = some (.bool t_r) ∧ w'.cell? ⟨g_c, 4, none⟩ = some (.slice E_r i_r e_r) ∧ w'.cell? ⟨g_c, 5, none⟩ = some (.slice F_r j_r f_r))
    (first | with_reducible exact ⟨XA.c0, XA.c1, XA.c2, XA.c3, XA.c4, XA.c5, XB.c0, XB.c1, XB.c2, XB.c3, XB.c4, XB.c5, XC.c0, XC.c1, XC.c2, XC.c3, XC.c4, XC.c5⟩)
    (first
    | (go_at_call 88; (with_reducible refine (porient_p q r p (by decide) (by decide)).mono ?_); rintro e w_z ⟨rfl, hh⟩
       rw [HO.out]
       try replace p := p.below hh
       try replace q := q.below hh
       try replace r := r.below hh
       try replace XA := XA.below hh
       try replace XB := XB.below hh
       try replace XC := XC.below hh
       replace hb := bend hb hh)
    | (go_at_call 75; (with_reducible refine (psub_p p q (by decide) (by decide) (.inl (by decide)) (by decide) (by decide)).mono ?_); rintro e w_s1 ⟨s_s1, A_s1, n_s1, c_s1, B_s1, m_s1, d_s1, t_s1, E_s1, i_s1, e_s1, F_s1, j_s1, f_s1, rfl, s1, hh⟩
       try replace p := p.below hh
       try replace q := q.below hh
       try replace r := r.below hh
       try replace XA := XA.below hh
       try replace XB := XB.below hh
       try replace XC := XC.below hh
       replace hb := bend hb hh)
    | (go_at_call 75; (with_reducible refine (psub_p p r (by decide) (by decide) (.inl (by decide)) (by decide) (by decide)).mono ?_); rintro e w_s2 ⟨s_s2, A_s2, n_s2, c_s2, B_s2, m_s2, d_s2, t_s2, E_s2, i_s2, e_s2, F_s2, j_s2, f_s2, rfl, s2, hh⟩
       try replace p := p.below hh
       try replace q := q.below hh
       try replace r := r.below hh
       try replace XA := XA.below hh
       try replace XB := XB.below hh
       try replace XC := XC.below hh
       try replace s1 := s1.below hh
       replace hb := bend hb hh)
    | (go_at_call 81; (with_reducible refine (pdot_p s1.pr s2.pr (by decide) (by decide) (by decide)).mono ?_); rintro e w_s3 ⟨s_s3, A_s3, n_s3, c_s3, B_s3, m_s3, d_s3, rfl, s3, hh⟩
       try replace p := p.below hh
       try replace q := q.below hh
       try replace r := r.below hh
       try replace XA := XA.below hh
       try replace XB := XB.below hh
       try replace XC := XC.below hh
       replace hb := bend hb hh
       clear s1 s2)
    | (go_at_call 30; (with_reducible refine (rsign_q s3.qr (by decide) (by decide)).mono ?_); rintro e w_z ⟨rfl, hh⟩
       rw [HT.out]; clear s3
       try replace p := p.below hh
       try replace q := q.below hh
       try replace r := r.below hh
       try replace XA := XA.below hh
       try replace XB := XB.below hh
       try replace XC := XC.below hh
       replace hb := bend hb hh)
    | (go_at_call 85; (with_reducible refine (psame_p q r (by decide) (by decide) (by decide) (by decide) true HQ.out).mono ?_); rintro e w_z ⟨rfl, hh⟩
       try replace p := p.below hh
       try replace q := q.below hh
       try replace r := r.below hh
       try replace XA := XA.below hh
       try replace XB := XB.below hh
       try replace XC := XC.below hh
       replace hb := bend hb hh)
    | (go_at_call 67; (with_reducible refine (pwakes_any _).mono ?_); rintro e w_z ⟨rfl, hh⟩
       try replace XA := XA.below hh
       try replace XB := XB.below hh
       try replace XC := XC.below hh
       replace hb := bend hb hh))
  go_wp2_with fail
  go_ret
  exact ⟨rfl, hb⟩
theorem law_near {w : World} {s_p t_p : Bool} {A_p B_p E_p F_p : Option Addr} {n_p c_p m_p d_p i_p e_p j_p f_p : Nat} {s_q t_q : Bool} {A_q B_q E_q F_q : Option Addr} {n_q c_q m_q d_q i_q e_q j_q f_q : Nat} {s_r t_r : Bool} {A_r B_r E_r F_r : Option Addr} {n_r c_r m_r d_r i_r e_r j_r f_r : Nat} (t : Nat) {lap lbp lcp ldp : List Nat} {laq lbq lcq ldq : List Nat} {lar lbr lcr ldr : List Nat} (ap : Rd .u64 w A_p n_p lap) (bp : Rd .u64 w B_p m_p lbp) (up : Rd .u64 w E_p i_p lcp) (vp : Rd .u64 w F_p j_p ldp) (tap : Lim B64 lap) (tbp : Lim B64 lbp) (tcp : Lim B64 lcp) (tdp : Lim B64 ldp) (cap : n_p ≤ c_p) (cbp : m_p ≤ d_p) (ccp : i_p ≤ e_p) (cdp : j_p ≤ f_p) (aq : Rd .u64 w A_q n_q laq) (bq : Rd .u64 w B_q m_q lbq) (uq : Rd .u64 w E_q i_q lcq) (vq : Rd .u64 w F_q j_q ldq) (taq : Lim B64 laq) (tbq : Lim B64 lbq) (tcq : Lim B64 lcq) (tdq : Lim B64 ldq) (caq : n_q ≤ c_q) (cbq : m_q ≤ d_q) (ccq : i_q ≤ e_q) (cdq : j_q ≤ f_q) (ar : Rd .u64 w A_r n_r lar) (br : Rd .u64 w B_r m_r lbr) (ur : Rd .u64 w E_r i_r lcr) (vr : Rd .u64 w F_r j_r ldr) (tar : Lim B64 lar) (tbr : Lim B64 lbr) (tcr : Lim B64 lcr) (tdr : Lim B64 ldr) (car : n_r ≤ c_r) (cbr : m_r ≤ d_r) (ccr : i_r ≤ e_r) (cdr : j_r ≤ f_r) (ht : t ≤ 255) :
    Calls Tryz.prog 12 #[.agg #[.bool s_p, .slice A_p n_p c_p, .slice B_p m_p d_p, .bool t_p, .slice E_p i_p e_p, .slice F_p j_p f_p, .bool s_q, .slice A_q n_q c_q, .slice B_q m_q d_q, .bool t_q, .slice E_q i_q e_q, .slice F_q j_q f_q, .bool s_r, .slice A_r n_r c_r, .slice B_r m_r d_r, .bool t_r, .slice E_r i_r e_r, .slice F_r j_r f_r], .int .u8 (t : Int)] w fun e w' => e = .returned (.bool true) ∧ Below w.heap.size w w' := by
  by_cases h : (((n_p ≤ 6 ∧ m_p ≤ 6) ∧ i_p ≤ 6 ∧ j_p ≤ 6) ∧ ((n_q ≤ 6 ∧ m_q ≤ 6) ∧ i_q ≤ 6 ∧ j_q ≤ 6) ∧ ((n_r ≤ 6 ∧ m_r ≤ 6) ∧ i_r ≤ 6 ∧ j_r ≤ 6))
  · have p : PR w s_p A_p n_p c_p B_p m_p d_p t_p E_p i_p e_p F_p j_p f_p (mkRat (iv s_p (val B64 lap)) (den1 (val B64 lbp))) (mkRat (iv t_p (val B64 lcp)) (den1 (val B64 ldp))) 6 := ⟨QR.of_rd ap tap cap bp tbp cbp h.1.1.1 h.1.1.2, QR.of_rd up tcp ccp vp tdp cdp h.1.2.1 h.1.2.2⟩
    have q : PR w s_q A_q n_q c_q B_q m_q d_q t_q E_q i_q e_q F_q j_q f_q (mkRat (iv s_q (val B64 laq)) (den1 (val B64 lbq))) (mkRat (iv t_q (val B64 lcq)) (den1 (val B64 ldq))) 6 := ⟨QR.of_rd aq taq caq bq tbq cbq h.2.1.1.1 h.2.1.1.2, QR.of_rd uq tcq ccq vq tdq cdq h.2.1.2.1 h.2.1.2.2⟩
    have r : PR w s_r A_r n_r c_r B_r m_r d_r t_r E_r i_r e_r F_r j_r f_r (mkRat (iv s_r (val B64 lar)) (den1 (val B64 lbr))) (mkRat (iv t_r (val B64 lcr)) (den1 (val B64 ldr))) 6 := ⟨QR.of_rd ar tar car br tbr cbr h.2.2.1.1 h.2.2.1.2, QR.of_rd ur tcr ccr vr tdr cdr h.2.2.2.1 h.2.2.2.2⟩
    generalize mkRat (iv s_p (val B64 lap)) (den1 (val B64 lbp)) = px at p
    generalize mkRat (iv t_p (val B64 lcp)) (den1 (val B64 ldp)) = py at p
    generalize mkRat (iv s_q (val B64 laq)) (den1 (val B64 lbq)) = ax at q
    generalize mkRat (iv t_q (val B64 lcq)) (den1 (val B64 ldq)) = ay at q
    generalize mkRat (iv s_r (val B64 lar)) (den1 (val B64 lbr)) = bx at r
    generalize mkRat (iv t_r (val B64 lcr)) (den1 (val B64 ldr)) = by_ at r
    by_cases hd : segQ px py ax ay bx by_ = 0
    · exact near_z t p q r h ht hd
    · by_cases hK : orientQ ax ay bx by_ px py = 0
      · by_cases hp : (px - ax) * (px - bx) + (py - ay) * (py - by_) ≤ 0
        · exact near_s t p q r h ht hd hK hp
        · exact near_d t p q r h ht hd hK hp
      · have hab := orient_abs ax ay bx by_ px py
        rcases (show orientQ ax ay bx by_ px py = 1 ∨ orientQ ax ay bx by_ px py = -1 by omega) with hK | hK
        · exact near_o1 t p q r h ht hd hK
        · exact near_o2 t p q r h ht hd hK
  · exact near_l t h
end Go.Proofs.YtlkjkhpjhllapaaGreat
