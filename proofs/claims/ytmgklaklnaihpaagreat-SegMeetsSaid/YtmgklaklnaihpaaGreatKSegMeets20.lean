/- SegMeets: part 20. -/
import Derived.Test.YtmgklaklnaihpaaGreatKSegMeets12
import Derived.Test.YtmgklaklnaihpaaGreatKSegMeets18
import Derived.Test.YtmgklaklnaihpaaGreatKSegMeets19
set_option linter.unusedVariables false
set_option maxRecDepth 100000
set_option maxHeartbeats 16000000
variable {w:Go.World}
variable {s_p t_p:Bool} {A_p B_p E_p F_p:Option Go.Addr} {n_p c_p m_p d_p i_p e_p j_p f_p:Nat}
variable {s_q t_q:Bool} {A_q B_q E_q F_q:Option Go.Addr} {n_q c_q m_q d_q i_q e_q j_q f_q:Nat}
variable {s_r t_r:Bool} {A_r B_r E_r F_r:Option Go.Addr} {n_r c_r m_r d_r i_r e_r j_r f_r:Nat}
variable {s_u t_u:Bool} {A_u B_u E_u F_u:Option Go.Addr} {n_u c_u m_u d_u i_u e_u j_u f_u:Nat}
namespace Go.Proofs.YtmgklaklnaihpaaGreat
section
open Go Go.RowKit
def BA4 (W:World) (g:Nat) (v0:Value) (v1:Value) (v2:Value) (v3:Value) (v4:Value) (v5:Value) (v6:Value) (v7:Value) (v8:Value) (v9:Value) (v10:Value) (v11:Value) (v12:Value) (v13:Value) (v14:Value) (v15:Value) (v16:Value) (v17:Value) (v18:Value) (v19:Value) (v20:Value) (v21:Value) (v22:Value) (v23:Value):Prop:=W.heap[g]?=some (.cells #[v0,v1,v2,v3,v4,v5,v6,v7,v8,v9,v10,v11,v12,v13,v14,v15,v16,v17,v18,v19,v20,v21,v22,v23] 57 (0,0))
section
variable {W W':World} {g:Nat} {v0 v1 v2 v3 v4 v5 v6 v7 v8 v9 v10 v11 v12 v13 v14 v15 v16 v17 v18 v19 v20 v21 v22 v23:Value}
theorem BA4.c0 (h:BA4 W g v0 v1 v2 v3 v4 v5 v6 v7 v8 v9 v10 v11 v12 v13 v14 v15 v16 v17 v18 v19 v20 v21 v22 v23):W.cell? ⟨g,0,none⟩=some v0:=by rw [cell_of_row W g 0 _ _ (0,0) h];rfl
theorem BA4.c1 (h:BA4 W g v0 v1 v2 v3 v4 v5 v6 v7 v8 v9 v10 v11 v12 v13 v14 v15 v16 v17 v18 v19 v20 v21 v22 v23):W.cell? ⟨g,1,none⟩=some v1:=by rw [cell_of_row W g 1 _ _ (0,0) h];rfl
theorem BA4.c2 (h:BA4 W g v0 v1 v2 v3 v4 v5 v6 v7 v8 v9 v10 v11 v12 v13 v14 v15 v16 v17 v18 v19 v20 v21 v22 v23):W.cell? ⟨g,2,none⟩=some v2:=by rw [cell_of_row W g 2 _ _ (0,0) h];rfl
theorem BA4.c3 (h:BA4 W g v0 v1 v2 v3 v4 v5 v6 v7 v8 v9 v10 v11 v12 v13 v14 v15 v16 v17 v18 v19 v20 v21 v22 v23):W.cell? ⟨g,3,none⟩=some v3:=by rw [cell_of_row W g 3 _ _ (0,0) h];rfl
theorem BA4.c4 (h:BA4 W g v0 v1 v2 v3 v4 v5 v6 v7 v8 v9 v10 v11 v12 v13 v14 v15 v16 v17 v18 v19 v20 v21 v22 v23):W.cell? ⟨g,4,none⟩=some v4:=by rw [cell_of_row W g 4 _ _ (0,0) h];rfl
theorem BA4.c5 (h:BA4 W g v0 v1 v2 v3 v4 v5 v6 v7 v8 v9 v10 v11 v12 v13 v14 v15 v16 v17 v18 v19 v20 v21 v22 v23):W.cell? ⟨g,5,none⟩=some v5:=by rw [cell_of_row W g 5 _ _ (0,0) h];rfl
theorem BA4.c6 (h:BA4 W g v0 v1 v2 v3 v4 v5 v6 v7 v8 v9 v10 v11 v12 v13 v14 v15 v16 v17 v18 v19 v20 v21 v22 v23):W.cell? ⟨g,6,none⟩=some v6:=by rw [cell_of_row W g 6 _ _ (0,0) h];rfl
theorem BA4.c7 (h:BA4 W g v0 v1 v2 v3 v4 v5 v6 v7 v8 v9 v10 v11 v12 v13 v14 v15 v16 v17 v18 v19 v20 v21 v22 v23):W.cell? ⟨g,7,none⟩=some v7:=by rw [cell_of_row W g 7 _ _ (0,0) h];rfl
theorem BA4.c8 (h:BA4 W g v0 v1 v2 v3 v4 v5 v6 v7 v8 v9 v10 v11 v12 v13 v14 v15 v16 v17 v18 v19 v20 v21 v22 v23):W.cell? ⟨g,8,none⟩=some v8:=by rw [cell_of_row W g 8 _ _ (0,0) h];rfl
theorem BA4.c9 (h:BA4 W g v0 v1 v2 v3 v4 v5 v6 v7 v8 v9 v10 v11 v12 v13 v14 v15 v16 v17 v18 v19 v20 v21 v22 v23):W.cell? ⟨g,9,none⟩=some v9:=by rw [cell_of_row W g 9 _ _ (0,0) h];rfl
theorem BA4.c10 (h:BA4 W g v0 v1 v2 v3 v4 v5 v6 v7 v8 v9 v10 v11 v12 v13 v14 v15 v16 v17 v18 v19 v20 v21 v22 v23):W.cell? ⟨g,10,none⟩=some v10:=by rw [cell_of_row W g 10 _ _ (0,0) h];rfl
theorem BA4.c11 (h:BA4 W g v0 v1 v2 v3 v4 v5 v6 v7 v8 v9 v10 v11 v12 v13 v14 v15 v16 v17 v18 v19 v20 v21 v22 v23):W.cell? ⟨g,11,none⟩=some v11:=by rw [cell_of_row W g 11 _ _ (0,0) h];rfl
theorem BA4.c12 (h:BA4 W g v0 v1 v2 v3 v4 v5 v6 v7 v8 v9 v10 v11 v12 v13 v14 v15 v16 v17 v18 v19 v20 v21 v22 v23):W.cell? ⟨g,12,none⟩=some v12:=by rw [cell_of_row W g 12 _ _ (0,0) h];rfl
theorem BA4.c13 (h:BA4 W g v0 v1 v2 v3 v4 v5 v6 v7 v8 v9 v10 v11 v12 v13 v14 v15 v16 v17 v18 v19 v20 v21 v22 v23):W.cell? ⟨g,13,none⟩=some v13:=by rw [cell_of_row W g 13 _ _ (0,0) h];rfl
theorem BA4.c14 (h:BA4 W g v0 v1 v2 v3 v4 v5 v6 v7 v8 v9 v10 v11 v12 v13 v14 v15 v16 v17 v18 v19 v20 v21 v22 v23):W.cell? ⟨g,14,none⟩=some v14:=by rw [cell_of_row W g 14 _ _ (0,0) h];rfl
theorem BA4.c15 (h:BA4 W g v0 v1 v2 v3 v4 v5 v6 v7 v8 v9 v10 v11 v12 v13 v14 v15 v16 v17 v18 v19 v20 v21 v22 v23):W.cell? ⟨g,15,none⟩=some v15:=by rw [cell_of_row W g 15 _ _ (0,0) h];rfl
theorem BA4.c16 (h:BA4 W g v0 v1 v2 v3 v4 v5 v6 v7 v8 v9 v10 v11 v12 v13 v14 v15 v16 v17 v18 v19 v20 v21 v22 v23):W.cell? ⟨g,16,none⟩=some v16:=by rw [cell_of_row W g 16 _ _ (0,0) h];rfl
theorem BA4.c17 (h:BA4 W g v0 v1 v2 v3 v4 v5 v6 v7 v8 v9 v10 v11 v12 v13 v14 v15 v16 v17 v18 v19 v20 v21 v22 v23):W.cell? ⟨g,17,none⟩=some v17:=by rw [cell_of_row W g 17 _ _ (0,0) h];rfl
theorem BA4.c18 (h:BA4 W g v0 v1 v2 v3 v4 v5 v6 v7 v8 v9 v10 v11 v12 v13 v14 v15 v16 v17 v18 v19 v20 v21 v22 v23):W.cell? ⟨g,18,none⟩=some v18:=by rw [cell_of_row W g 18 _ _ (0,0) h];rfl
theorem BA4.c19 (h:BA4 W g v0 v1 v2 v3 v4 v5 v6 v7 v8 v9 v10 v11 v12 v13 v14 v15 v16 v17 v18 v19 v20 v21 v22 v23):W.cell? ⟨g,19,none⟩=some v19:=by rw [cell_of_row W g 19 _ _ (0,0) h];rfl
theorem BA4.c20 (h:BA4 W g v0 v1 v2 v3 v4 v5 v6 v7 v8 v9 v10 v11 v12 v13 v14 v15 v16 v17 v18 v19 v20 v21 v22 v23):W.cell? ⟨g,20,none⟩=some v20:=by rw [cell_of_row W g 20 _ _ (0,0) h];rfl
theorem BA4.c21 (h:BA4 W g v0 v1 v2 v3 v4 v5 v6 v7 v8 v9 v10 v11 v12 v13 v14 v15 v16 v17 v18 v19 v20 v21 v22 v23):W.cell? ⟨g,21,none⟩=some v21:=by rw [cell_of_row W g 21 _ _ (0,0) h];rfl
theorem BA4.c22 (h:BA4 W g v0 v1 v2 v3 v4 v5 v6 v7 v8 v9 v10 v11 v12 v13 v14 v15 v16 v17 v18 v19 v20 v21 v22 v23):W.cell? ⟨g,22,none⟩=some v22:=by rw [cell_of_row W g 22 _ _ (0,0) h];rfl
theorem BA4.c23 (h:BA4 W g v0 v1 v2 v3 v4 v5 v6 v7 v8 v9 v10 v11 v12 v13 v14 v15 v16 v17 v18 v19 v20 v21 v22 v23):W.cell? ⟨g,23,none⟩=some v23:=by rw [cell_of_row W g 23 _ _ (0,0) h];rfl
theorem BA4.all (h:BA4 W g v0 v1 v2 v3 v4 v5 v6 v7 v8 v9 v10 v11 v12 v13 v14 v15 v16 v17 v18 v19 v20 v21 v22 v23):W.cell? ⟨g,0,none⟩=some v0∧W.cell? ⟨g,1,none⟩=some v1∧W.cell? ⟨g,2,none⟩=some v2∧W.cell? ⟨g,3,none⟩=some v3∧W.cell? ⟨g,4,none⟩=some v4∧W.cell? ⟨g,5,none⟩=some v5∧W.cell? ⟨g,6,none⟩=some v6∧W.cell? ⟨g,7,none⟩=some v7∧W.cell? ⟨g,8,none⟩=some v8∧W.cell? ⟨g,9,none⟩=some v9∧W.cell? ⟨g,10,none⟩=some v10∧W.cell? ⟨g,11,none⟩=some v11∧W.cell? ⟨g,12,none⟩=some v12∧W.cell? ⟨g,13,none⟩=some v13∧W.cell? ⟨g,14,none⟩=some v14∧W.cell? ⟨g,15,none⟩=some v15∧W.cell? ⟨g,16,none⟩=some v16∧W.cell? ⟨g,17,none⟩=some v17∧W.cell? ⟨g,18,none⟩=some v18∧W.cell? ⟨g,19,none⟩=some v19∧W.cell? ⟨g,20,none⟩=some v20∧W.cell? ⟨g,21,none⟩=some v21∧W.cell? ⟨g,22,none⟩=some v22∧W.cell? ⟨g,23,none⟩=some v23:=⟨h.c0,h.c1,h.c2,h.c3,h.c4,h.c5,h.c6,h.c7,h.c8,h.c9,h.c10,h.c11,h.c12,h.c13,h.c14,h.c15,h.c16,h.c17,h.c18,h.c19,h.c20,h.c21,h.c22,h.c23⟩
theorem BA4.lt (h:BA4 W g v0 v1 v2 v3 v4 v5 v6 v7 v8 v9 v10 v11 v12 v13 v14 v15 v16 v17 v18 v19 v20 v21 v22 v23):g < W.heap.size:=World.block_lt_of_cell? W _ h.c0
theorem BA4.below (h:BA4 W g v0 v1 v2 v3 v4 v5 v6 v7 v8 v9 v10 v11 v12 v13 v14 v15 v16 v17 v18 v19 v20 v21 v22 v23) (hb:Below W.heap.size W W'):BA4 W' g v0 v1 v2 v3 v4 v5 v6 v7 v8 v9 v10 v11 v12 v13 v14 v15 v16 v17 v18 v19 v20 v21 v22 v23:=(hb.block g h.lt).trans h
end
theorem BA4.new' (W:World) (v0 v1 v2 v3 v4 v5 v6 v7 v8 v9 v10 v11 v12 v13 v14 v15 v16 v17 v18 v19 v20 v21 v22 v23:Value) (g:Nat) (hg:g=W.heap.size):BA4 (W.alloc (.cells #[v0,v1,v2,v3,v4,v5,v6,v7,v8,v9,v10,v11,v12,v13,v14,v15,v16,v17,v18,v19,v20,v21,v22,v23] 57)) g v0 v1 v2 v3 v4 v5 v6 v7 v8 v9 v10 v11 v12 v13 v14 v15 v16 v17 v18 v19 v20 v21 v22 v23:=by subst hg;exact heap_alloc_new W _
theorem at4_0 (g:Nat) (w:World):(Instr.indexAt 57 (Value.pointer (some ⟨g,0,none⟩)) (Value.int IntKind.i64 0)).run Tryz.prog w=.ok (.pointer (some ⟨g,0,none⟩)) w:=by kernel_rfl
theorem at4_1 (g:Nat) (w:World):(Instr.indexAt 57 (Value.pointer (some ⟨g,0,none⟩)) (Value.int IntKind.i64 1)).run Tryz.prog w=.ok (.pointer (some ⟨g,6,none⟩)) w:=by kernel_rfl
theorem at4_2 (g:Nat) (w:World):(Instr.indexAt 57 (Value.pointer (some ⟨g,0,none⟩)) (Value.int IntKind.i64 2)).run Tryz.prog w=.ok (.pointer (some ⟨g,12,none⟩)) w:=by kernel_rfl
theorem at4_3 (g:Nat) (w:World):(Instr.indexAt 57 (Value.pointer (some ⟨g,0,none⟩)) (Value.int IntKind.i64 3)).run Tryz.prog w=.ok (.pointer (some ⟨g,18,none⟩)) w:=by kernel_rfl
def BL4 (W:World) (g:Nat) (v0:Value) (v1:Value) (v2:Value) (v3:Value) (v4:Value) (v5:Value) (v6:Value) (v7:Value) (v8:Value) (v9:Value) (v10:Value) (v11:Value) (v12:Value) (v13:Value) (v14:Value) (v15:Value) (v16:Value) (v17:Value) (v18:Value) (v19:Value) (v20:Value) (v21:Value) (v22:Value) (v23:Value):Prop:=W.heap[g]?=some (.cells #[v0,v1,v2,v3,v4,v5,v6,v7,v8,v9,v10,v11,v12,v13,v14,v15,v16,v17,v18,v19,v20,v21,v22,v23] 56 (0,0))
section
variable {W W':World} {g:Nat} {v0 v1 v2 v3 v4 v5 v6 v7 v8 v9 v10 v11 v12 v13 v14 v15 v16 v17 v18 v19 v20 v21 v22 v23:Value}
theorem BL4.c0 (h:BL4 W g v0 v1 v2 v3 v4 v5 v6 v7 v8 v9 v10 v11 v12 v13 v14 v15 v16 v17 v18 v19 v20 v21 v22 v23):W.cell? ⟨g,0,none⟩=some v0:=by rw [cell_of_row W g 0 _ _ (0,0) h];rfl
theorem BL4.c1 (h:BL4 W g v0 v1 v2 v3 v4 v5 v6 v7 v8 v9 v10 v11 v12 v13 v14 v15 v16 v17 v18 v19 v20 v21 v22 v23):W.cell? ⟨g,1,none⟩=some v1:=by rw [cell_of_row W g 1 _ _ (0,0) h];rfl
theorem BL4.c2 (h:BL4 W g v0 v1 v2 v3 v4 v5 v6 v7 v8 v9 v10 v11 v12 v13 v14 v15 v16 v17 v18 v19 v20 v21 v22 v23):W.cell? ⟨g,2,none⟩=some v2:=by rw [cell_of_row W g 2 _ _ (0,0) h];rfl
theorem BL4.c3 (h:BL4 W g v0 v1 v2 v3 v4 v5 v6 v7 v8 v9 v10 v11 v12 v13 v14 v15 v16 v17 v18 v19 v20 v21 v22 v23):W.cell? ⟨g,3,none⟩=some v3:=by rw [cell_of_row W g 3 _ _ (0,0) h];rfl
theorem BL4.c4 (h:BL4 W g v0 v1 v2 v3 v4 v5 v6 v7 v8 v9 v10 v11 v12 v13 v14 v15 v16 v17 v18 v19 v20 v21 v22 v23):W.cell? ⟨g,4,none⟩=some v4:=by rw [cell_of_row W g 4 _ _ (0,0) h];rfl
theorem BL4.c5 (h:BL4 W g v0 v1 v2 v3 v4 v5 v6 v7 v8 v9 v10 v11 v12 v13 v14 v15 v16 v17 v18 v19 v20 v21 v22 v23):W.cell? ⟨g,5,none⟩=some v5:=by rw [cell_of_row W g 5 _ _ (0,0) h];rfl
theorem BL4.c6 (h:BL4 W g v0 v1 v2 v3 v4 v5 v6 v7 v8 v9 v10 v11 v12 v13 v14 v15 v16 v17 v18 v19 v20 v21 v22 v23):W.cell? ⟨g,6,none⟩=some v6:=by rw [cell_of_row W g 6 _ _ (0,0) h];rfl
theorem BL4.c7 (h:BL4 W g v0 v1 v2 v3 v4 v5 v6 v7 v8 v9 v10 v11 v12 v13 v14 v15 v16 v17 v18 v19 v20 v21 v22 v23):W.cell? ⟨g,7,none⟩=some v7:=by rw [cell_of_row W g 7 _ _ (0,0) h];rfl
theorem BL4.c8 (h:BL4 W g v0 v1 v2 v3 v4 v5 v6 v7 v8 v9 v10 v11 v12 v13 v14 v15 v16 v17 v18 v19 v20 v21 v22 v23):W.cell? ⟨g,8,none⟩=some v8:=by rw [cell_of_row W g 8 _ _ (0,0) h];rfl
theorem BL4.c9 (h:BL4 W g v0 v1 v2 v3 v4 v5 v6 v7 v8 v9 v10 v11 v12 v13 v14 v15 v16 v17 v18 v19 v20 v21 v22 v23):W.cell? ⟨g,9,none⟩=some v9:=by rw [cell_of_row W g 9 _ _ (0,0) h];rfl
theorem BL4.c10 (h:BL4 W g v0 v1 v2 v3 v4 v5 v6 v7 v8 v9 v10 v11 v12 v13 v14 v15 v16 v17 v18 v19 v20 v21 v22 v23):W.cell? ⟨g,10,none⟩=some v10:=by rw [cell_of_row W g 10 _ _ (0,0) h];rfl
theorem BL4.c11 (h:BL4 W g v0 v1 v2 v3 v4 v5 v6 v7 v8 v9 v10 v11 v12 v13 v14 v15 v16 v17 v18 v19 v20 v21 v22 v23):W.cell? ⟨g,11,none⟩=some v11:=by rw [cell_of_row W g 11 _ _ (0,0) h];rfl
theorem BL4.c12 (h:BL4 W g v0 v1 v2 v3 v4 v5 v6 v7 v8 v9 v10 v11 v12 v13 v14 v15 v16 v17 v18 v19 v20 v21 v22 v23):W.cell? ⟨g,12,none⟩=some v12:=by rw [cell_of_row W g 12 _ _ (0,0) h];rfl
theorem BL4.c13 (h:BL4 W g v0 v1 v2 v3 v4 v5 v6 v7 v8 v9 v10 v11 v12 v13 v14 v15 v16 v17 v18 v19 v20 v21 v22 v23):W.cell? ⟨g,13,none⟩=some v13:=by rw [cell_of_row W g 13 _ _ (0,0) h];rfl
theorem BL4.c14 (h:BL4 W g v0 v1 v2 v3 v4 v5 v6 v7 v8 v9 v10 v11 v12 v13 v14 v15 v16 v17 v18 v19 v20 v21 v22 v23):W.cell? ⟨g,14,none⟩=some v14:=by rw [cell_of_row W g 14 _ _ (0,0) h];rfl
theorem BL4.c15 (h:BL4 W g v0 v1 v2 v3 v4 v5 v6 v7 v8 v9 v10 v11 v12 v13 v14 v15 v16 v17 v18 v19 v20 v21 v22 v23):W.cell? ⟨g,15,none⟩=some v15:=by rw [cell_of_row W g 15 _ _ (0,0) h];rfl
theorem BL4.c16 (h:BL4 W g v0 v1 v2 v3 v4 v5 v6 v7 v8 v9 v10 v11 v12 v13 v14 v15 v16 v17 v18 v19 v20 v21 v22 v23):W.cell? ⟨g,16,none⟩=some v16:=by rw [cell_of_row W g 16 _ _ (0,0) h];rfl
theorem BL4.c17 (h:BL4 W g v0 v1 v2 v3 v4 v5 v6 v7 v8 v9 v10 v11 v12 v13 v14 v15 v16 v17 v18 v19 v20 v21 v22 v23):W.cell? ⟨g,17,none⟩=some v17:=by rw [cell_of_row W g 17 _ _ (0,0) h];rfl
theorem BL4.c18 (h:BL4 W g v0 v1 v2 v3 v4 v5 v6 v7 v8 v9 v10 v11 v12 v13 v14 v15 v16 v17 v18 v19 v20 v21 v22 v23):W.cell? ⟨g,18,none⟩=some v18:=by rw [cell_of_row W g 18 _ _ (0,0) h];rfl
theorem BL4.c19 (h:BL4 W g v0 v1 v2 v3 v4 v5 v6 v7 v8 v9 v10 v11 v12 v13 v14 v15 v16 v17 v18 v19 v20 v21 v22 v23):W.cell? ⟨g,19,none⟩=some v19:=by rw [cell_of_row W g 19 _ _ (0,0) h];rfl
theorem BL4.c20 (h:BL4 W g v0 v1 v2 v3 v4 v5 v6 v7 v8 v9 v10 v11 v12 v13 v14 v15 v16 v17 v18 v19 v20 v21 v22 v23):W.cell? ⟨g,20,none⟩=some v20:=by rw [cell_of_row W g 20 _ _ (0,0) h];rfl
theorem BL4.c21 (h:BL4 W g v0 v1 v2 v3 v4 v5 v6 v7 v8 v9 v10 v11 v12 v13 v14 v15 v16 v17 v18 v19 v20 v21 v22 v23):W.cell? ⟨g,21,none⟩=some v21:=by rw [cell_of_row W g 21 _ _ (0,0) h];rfl
theorem BL4.c22 (h:BL4 W g v0 v1 v2 v3 v4 v5 v6 v7 v8 v9 v10 v11 v12 v13 v14 v15 v16 v17 v18 v19 v20 v21 v22 v23):W.cell? ⟨g,22,none⟩=some v22:=by rw [cell_of_row W g 22 _ _ (0,0) h];rfl
theorem BL4.c23 (h:BL4 W g v0 v1 v2 v3 v4 v5 v6 v7 v8 v9 v10 v11 v12 v13 v14 v15 v16 v17 v18 v19 v20 v21 v22 v23):W.cell? ⟨g,23,none⟩=some v23:=by rw [cell_of_row W g 23 _ _ (0,0) h];rfl
theorem BL4.all (h:BL4 W g v0 v1 v2 v3 v4 v5 v6 v7 v8 v9 v10 v11 v12 v13 v14 v15 v16 v17 v18 v19 v20 v21 v22 v23):W.cell? ⟨g,0,none⟩=some v0∧W.cell? ⟨g,1,none⟩=some v1∧W.cell? ⟨g,2,none⟩=some v2∧W.cell? ⟨g,3,none⟩=some v3∧W.cell? ⟨g,4,none⟩=some v4∧W.cell? ⟨g,5,none⟩=some v5∧W.cell? ⟨g,6,none⟩=some v6∧W.cell? ⟨g,7,none⟩=some v7∧W.cell? ⟨g,8,none⟩=some v8∧W.cell? ⟨g,9,none⟩=some v9∧W.cell? ⟨g,10,none⟩=some v10∧W.cell? ⟨g,11,none⟩=some v11∧W.cell? ⟨g,12,none⟩=some v12∧W.cell? ⟨g,13,none⟩=some v13∧W.cell? ⟨g,14,none⟩=some v14∧W.cell? ⟨g,15,none⟩=some v15∧W.cell? ⟨g,16,none⟩=some v16∧W.cell? ⟨g,17,none⟩=some v17∧W.cell? ⟨g,18,none⟩=some v18∧W.cell? ⟨g,19,none⟩=some v19∧W.cell? ⟨g,20,none⟩=some v20∧W.cell? ⟨g,21,none⟩=some v21∧W.cell? ⟨g,22,none⟩=some v22∧W.cell? ⟨g,23,none⟩=some v23:=⟨h.c0,h.c1,h.c2,h.c3,h.c4,h.c5,h.c6,h.c7,h.c8,h.c9,h.c10,h.c11,h.c12,h.c13,h.c14,h.c15,h.c16,h.c17,h.c18,h.c19,h.c20,h.c21,h.c22,h.c23⟩
theorem BL4.lt (h:BL4 W g v0 v1 v2 v3 v4 v5 v6 v7 v8 v9 v10 v11 v12 v13 v14 v15 v16 v17 v18 v19 v20 v21 v22 v23):g < W.heap.size:=World.block_lt_of_cell? W _ h.c0
theorem BL4.below (h:BL4 W g v0 v1 v2 v3 v4 v5 v6 v7 v8 v9 v10 v11 v12 v13 v14 v15 v16 v17 v18 v19 v20 v21 v22 v23) (hb:Below W.heap.size W W'):BL4 W' g v0 v1 v2 v3 v4 v5 v6 v7 v8 v9 v10 v11 v12 v13 v14 v15 v16 v17 v18 v19 v20 v21 v22 v23:=(hb.block g h.lt).trans h
end
theorem BL4.new' (W:World) (v0 v1 v2 v3 v4 v5 v6 v7 v8 v9 v10 v11 v12 v13 v14 v15 v16 v17 v18 v19 v20 v21 v22 v23:Value) (g:Nat) (hg:g=W.heap.size):BL4 (W.alloc (.cells #[v0,v1,v2,v3,v4,v5,v6,v7,v8,v9,v10,v11,v12,v13,v14,v15,v16,v17,v18,v19,v20,v21,v22,v23] 56)) g v0 v1 v2 v3 v4 v5 v6 v7 v8 v9 v10 v11 v12 v13 v14 v15 v16 v17 v18 v19 v20 v21 v22 v23:=by subst hg;exact heap_alloc_new W _
theorem line4_0 {g:Nat} (L:BL4 w g (.bool s_p) (.slice A_p n_p c_p) (.slice B_p m_p d_p) (.bool t_p) (.slice E_p i_p e_p) (.slice F_p j_p f_p) (.bool s_q) (.slice A_q n_q c_q) (.slice B_q m_q d_q) (.bool t_q) (.slice E_q i_q e_q) (.slice F_q j_q f_q) (.bool s_r) (.slice A_r n_r c_r) (.slice B_r m_r d_r) (.bool t_r) (.slice E_r i_r e_r) (.slice F_r j_r f_r) (.bool s_u) (.slice A_u n_u c_u) (.slice B_u m_u d_u) (.bool t_u) (.slice E_u i_u e_u) (.slice F_u j_u f_u)) (h0:decide ((n_p≤6∧m_p≤6)∧i_p≤6∧j_p≤6)=false) :
 Calls Tryz.prog 81 #[.slice (some ⟨g,0,none⟩) 4 4,.int .i64 6] w fun e w'=>e=.returned (.bool false)∧Below w.heap.size w w':=by
 have H0:=Lib.hid h0;clear h0
 have hb:Below w.heap.size w w:=Below.refl _ _
 obtain ⟨l0,l1,l2,l3,l4,l5,l6,l7,l8,l9,l10,l11,l12,l13,l14,l15,l16,l17,l18,l19,l20,l21,l22,l23⟩:=L.all
 go_enter Tryz.func81,Tryz.ntmps81
 go_wp2_with fail
 refine wp_loop_rounds 5 ?_
 rw [rounds_succ]
 go_wp2_with (first
  | (go_at_call 138;(with_reducible refine (smallpt_6 (s_p:=s_p) (A_p:=A_p) (n_p:=n_p) (c_p:=c_p) (B_p:=B_p) (m_p:=m_p) (d_p:=d_p) (t_p:=t_p) (E_p:=E_p) (i_p:=i_p) (e_p:=e_p) (F_p:=F_p) (j_p:=j_p) (f_p:=f_p) false H0.out).mono ?_);rintro e w_z ⟨rfl,hh⟩
     (try replace L:=L.below hh);replace hb:=bend hb hh;obtain ⟨l0,l1,l2,l3,l4,l5,l6,l7,l8,l9,l10,l11,l12,l13,l14,l15,l16,l17,l18,l19,l20,l21,l22,l23⟩:=L.all))
 go_ret;exact ⟨rfl,hb⟩
theorem line4_1 {g:Nat} (L:BL4 w g (.bool s_p) (.slice A_p n_p c_p) (.slice B_p m_p d_p) (.bool t_p) (.slice E_p i_p e_p) (.slice F_p j_p f_p) (.bool s_q) (.slice A_q n_q c_q) (.slice B_q m_q d_q) (.bool t_q) (.slice E_q i_q e_q) (.slice F_q j_q f_q) (.bool s_r) (.slice A_r n_r c_r) (.slice B_r m_r d_r) (.bool t_r) (.slice E_r i_r e_r) (.slice F_r j_r f_r) (.bool s_u) (.slice A_u n_u c_u) (.slice B_u m_u d_u) (.bool t_u) (.slice E_u i_u e_u) (.slice F_u j_u f_u)) (h0:decide ((n_p≤6∧m_p≤6)∧i_p≤6∧j_p≤6)=true) (h1:decide ((n_q≤6∧m_q≤6)∧i_q≤6∧j_q≤6)=false) :
 Calls Tryz.prog 81 #[.slice (some ⟨g,0,none⟩) 4 4,.int .i64 6] w fun e w'=>e=.returned (.bool false)∧Below w.heap.size w w':=by
 have H0:=Lib.hid h0;clear h0;have H1:=Lib.hid h1;clear h1
 have hb:Below w.heap.size w w:=Below.refl _ _
 obtain ⟨l0,l1,l2,l3,l4,l5,l6,l7,l8,l9,l10,l11,l12,l13,l14,l15,l16,l17,l18,l19,l20,l21,l22,l23⟩:=L.all
 go_enter Tryz.func81,Tryz.ntmps81
 go_wp2_with fail
 refine wp_loop_rounds 5 ?_
 rw [rounds_succ]
 go_wp2_with (first
  | (go_at_call 138;(with_reducible refine (smallpt_6 (s_p:=s_p) (A_p:=A_p) (n_p:=n_p) (c_p:=c_p) (B_p:=B_p) (m_p:=m_p) (d_p:=d_p) (t_p:=t_p) (E_p:=E_p) (i_p:=i_p) (e_p:=e_p) (F_p:=F_p) (j_p:=j_p) (f_p:=f_p) true H0.out).mono ?_);rintro e w_z ⟨rfl,hh⟩
     (try replace L:=L.below hh);replace hb:=bend hb hh;obtain ⟨l0,l1,l2,l3,l4,l5,l6,l7,l8,l9,l10,l11,l12,l13,l14,l15,l16,l17,l18,l19,l20,l21,l22,l23⟩:=L.all))
 rw [rounds_succ]
 go_wp2_with (first
  | (go_at_call 138;(with_reducible refine (smallpt_6 (s_p:=s_q) (A_p:=A_q) (n_p:=n_q) (c_p:=c_q) (B_p:=B_q) (m_p:=m_q) (d_p:=d_q) (t_p:=t_q) (E_p:=E_q) (i_p:=i_q) (e_p:=e_q) (F_p:=F_q) (j_p:=j_q) (f_p:=f_q) false H1.out).mono ?_);rintro e w_z ⟨rfl,hh⟩
     (try replace L:=L.below hh);replace hb:=bend hb hh;obtain ⟨l0,l1,l2,l3,l4,l5,l6,l7,l8,l9,l10,l11,l12,l13,l14,l15,l16,l17,l18,l19,l20,l21,l22,l23⟩:=L.all))
 go_ret;exact ⟨rfl,hb⟩
theorem line4_2 {g:Nat} (L:BL4 w g (.bool s_p) (.slice A_p n_p c_p) (.slice B_p m_p d_p) (.bool t_p) (.slice E_p i_p e_p) (.slice F_p j_p f_p) (.bool s_q) (.slice A_q n_q c_q) (.slice B_q m_q d_q) (.bool t_q) (.slice E_q i_q e_q) (.slice F_q j_q f_q) (.bool s_r) (.slice A_r n_r c_r) (.slice B_r m_r d_r) (.bool t_r) (.slice E_r i_r e_r) (.slice F_r j_r f_r) (.bool s_u) (.slice A_u n_u c_u) (.slice B_u m_u d_u) (.bool t_u) (.slice E_u i_u e_u) (.slice F_u j_u f_u)) (h0:decide ((n_p≤6∧m_p≤6)∧i_p≤6∧j_p≤6)=true) (h1:decide ((n_q≤6∧m_q≤6)∧i_q≤6∧j_q≤6)=true) (h2:decide ((n_r≤6∧m_r≤6)∧i_r≤6∧j_r≤6)=false) :
 Calls Tryz.prog 81 #[.slice (some ⟨g,0,none⟩) 4 4,.int .i64 6] w fun e w'=>e=.returned (.bool false)∧Below w.heap.size w w':=by
 have H0:=Lib.hid h0;clear h0;have H1:=Lib.hid h1;clear h1;have H2:=Lib.hid h2;clear h2
 have hb:Below w.heap.size w w:=Below.refl _ _
 obtain ⟨l0,l1,l2,l3,l4,l5,l6,l7,l8,l9,l10,l11,l12,l13,l14,l15,l16,l17,l18,l19,l20,l21,l22,l23⟩:=L.all
 go_enter Tryz.func81,Tryz.ntmps81
 go_wp2_with fail
 refine wp_loop_rounds 5 ?_
 rw [rounds_succ]
 go_wp2_with (first
  | (go_at_call 138;(with_reducible refine (smallpt_6 (s_p:=s_p) (A_p:=A_p) (n_p:=n_p) (c_p:=c_p) (B_p:=B_p) (m_p:=m_p) (d_p:=d_p) (t_p:=t_p) (E_p:=E_p) (i_p:=i_p) (e_p:=e_p) (F_p:=F_p) (j_p:=j_p) (f_p:=f_p) true H0.out).mono ?_);rintro e w_z ⟨rfl,hh⟩
     (try replace L:=L.below hh);replace hb:=bend hb hh;obtain ⟨l0,l1,l2,l3,l4,l5,l6,l7,l8,l9,l10,l11,l12,l13,l14,l15,l16,l17,l18,l19,l20,l21,l22,l23⟩:=L.all))
 rw [rounds_succ]
 go_wp2_with (first
  | (go_at_call 138;(with_reducible refine (smallpt_6 (s_p:=s_q) (A_p:=A_q) (n_p:=n_q) (c_p:=c_q) (B_p:=B_q) (m_p:=m_q) (d_p:=d_q) (t_p:=t_q) (E_p:=E_q) (i_p:=i_q) (e_p:=e_q) (F_p:=F_q) (j_p:=j_q) (f_p:=f_q) true H1.out).mono ?_);rintro e w_z ⟨rfl,hh⟩
     (try replace L:=L.below hh);replace hb:=bend hb hh;obtain ⟨l0,l1,l2,l3,l4,l5,l6,l7,l8,l9,l10,l11,l12,l13,l14,l15,l16,l17,l18,l19,l20,l21,l22,l23⟩:=L.all))
 rw [rounds_succ]
 go_wp2_with (first
  | (go_at_call 138;(with_reducible refine (smallpt_6 (s_p:=s_r) (A_p:=A_r) (n_p:=n_r) (c_p:=c_r) (B_p:=B_r) (m_p:=m_r) (d_p:=d_r) (t_p:=t_r) (E_p:=E_r) (i_p:=i_r) (e_p:=e_r) (F_p:=F_r) (j_p:=j_r) (f_p:=f_r) false H2.out).mono ?_);rintro e w_z ⟨rfl,hh⟩
     (try replace L:=L.below hh);replace hb:=bend hb hh;obtain ⟨l0,l1,l2,l3,l4,l5,l6,l7,l8,l9,l10,l11,l12,l13,l14,l15,l16,l17,l18,l19,l20,l21,l22,l23⟩:=L.all))
 go_ret;exact ⟨rfl,hb⟩
theorem line4_3 {g:Nat} (L:BL4 w g (.bool s_p) (.slice A_p n_p c_p) (.slice B_p m_p d_p) (.bool t_p) (.slice E_p i_p e_p) (.slice F_p j_p f_p) (.bool s_q) (.slice A_q n_q c_q) (.slice B_q m_q d_q) (.bool t_q) (.slice E_q i_q e_q) (.slice F_q j_q f_q) (.bool s_r) (.slice A_r n_r c_r) (.slice B_r m_r d_r) (.bool t_r) (.slice E_r i_r e_r) (.slice F_r j_r f_r) (.bool s_u) (.slice A_u n_u c_u) (.slice B_u m_u d_u) (.bool t_u) (.slice E_u i_u e_u) (.slice F_u j_u f_u)) (h0:decide ((n_p≤6∧m_p≤6)∧i_p≤6∧j_p≤6)=true) (h1:decide ((n_q≤6∧m_q≤6)∧i_q≤6∧j_q≤6)=true) (h2:decide ((n_r≤6∧m_r≤6)∧i_r≤6∧j_r≤6)=true) (h3:decide ((n_u≤6∧m_u≤6)∧i_u≤6∧j_u≤6)=false) :
 Calls Tryz.prog 81 #[.slice (some ⟨g,0,none⟩) 4 4,.int .i64 6] w fun e w'=>e=.returned (.bool false)∧Below w.heap.size w w':=by
 have H0:=Lib.hid h0;clear h0;have H1:=Lib.hid h1;clear h1;have H2:=Lib.hid h2;clear h2;have H3:=Lib.hid h3;clear h3
 have hb:Below w.heap.size w w:=Below.refl _ _
 obtain ⟨l0,l1,l2,l3,l4,l5,l6,l7,l8,l9,l10,l11,l12,l13,l14,l15,l16,l17,l18,l19,l20,l21,l22,l23⟩:=L.all
 go_enter Tryz.func81,Tryz.ntmps81
 go_wp2_with fail
 refine wp_loop_rounds 5 ?_
 rw [rounds_succ]
 go_wp2_with (first
  | (go_at_call 138;(with_reducible refine (smallpt_6 (s_p:=s_p) (A_p:=A_p) (n_p:=n_p) (c_p:=c_p) (B_p:=B_p) (m_p:=m_p) (d_p:=d_p) (t_p:=t_p) (E_p:=E_p) (i_p:=i_p) (e_p:=e_p) (F_p:=F_p) (j_p:=j_p) (f_p:=f_p) true H0.out).mono ?_);rintro e w_z ⟨rfl,hh⟩
     (try replace L:=L.below hh);replace hb:=bend hb hh;obtain ⟨l0,l1,l2,l3,l4,l5,l6,l7,l8,l9,l10,l11,l12,l13,l14,l15,l16,l17,l18,l19,l20,l21,l22,l23⟩:=L.all))
 rw [rounds_succ]
 go_wp2_with (first
  | (go_at_call 138;(with_reducible refine (smallpt_6 (s_p:=s_q) (A_p:=A_q) (n_p:=n_q) (c_p:=c_q) (B_p:=B_q) (m_p:=m_q) (d_p:=d_q) (t_p:=t_q) (E_p:=E_q) (i_p:=i_q) (e_p:=e_q) (F_p:=F_q) (j_p:=j_q) (f_p:=f_q) true H1.out).mono ?_);rintro e w_z ⟨rfl,hh⟩
     (try replace L:=L.below hh);replace hb:=bend hb hh;obtain ⟨l0,l1,l2,l3,l4,l5,l6,l7,l8,l9,l10,l11,l12,l13,l14,l15,l16,l17,l18,l19,l20,l21,l22,l23⟩:=L.all))
 rw [rounds_succ]
 go_wp2_with (first
  | (go_at_call 138;(with_reducible refine (smallpt_6 (s_p:=s_r) (A_p:=A_r) (n_p:=n_r) (c_p:=c_r) (B_p:=B_r) (m_p:=m_r) (d_p:=d_r) (t_p:=t_r) (E_p:=E_r) (i_p:=i_r) (e_p:=e_r) (F_p:=F_r) (j_p:=j_r) (f_p:=f_r) true H2.out).mono ?_);rintro e w_z ⟨rfl,hh⟩
     (try replace L:=L.below hh);replace hb:=bend hb hh;obtain ⟨l0,l1,l2,l3,l4,l5,l6,l7,l8,l9,l10,l11,l12,l13,l14,l15,l16,l17,l18,l19,l20,l21,l22,l23⟩:=L.all))
 rw [rounds_succ]
 go_wp2_with (first
  | (go_at_call 138;(with_reducible refine (smallpt_6 (s_p:=s_u) (A_p:=A_u) (n_p:=n_u) (c_p:=c_u) (B_p:=B_u) (m_p:=m_u) (d_p:=d_u) (t_p:=t_u) (E_p:=E_u) (i_p:=i_u) (e_p:=e_u) (F_p:=F_u) (j_p:=j_u) (f_p:=f_u) false H3.out).mono ?_);rintro e w_z ⟨rfl,hh⟩
     (try replace L:=L.below hh);replace hb:=bend hb hh;obtain ⟨l0,l1,l2,l3,l4,l5,l6,l7,l8,l9,l10,l11,l12,l13,l14,l15,l16,l17,l18,l19,l20,l21,l22,l23⟩:=L.all))
 go_ret;exact ⟨rfl,hb⟩
theorem line4_4 {g:Nat} (L:BL4 w g (.bool s_p) (.slice A_p n_p c_p) (.slice B_p m_p d_p) (.bool t_p) (.slice E_p i_p e_p) (.slice F_p j_p f_p) (.bool s_q) (.slice A_q n_q c_q) (.slice B_q m_q d_q) (.bool t_q) (.slice E_q i_q e_q) (.slice F_q j_q f_q) (.bool s_r) (.slice A_r n_r c_r) (.slice B_r m_r d_r) (.bool t_r) (.slice E_r i_r e_r) (.slice F_r j_r f_r) (.bool s_u) (.slice A_u n_u c_u) (.slice B_u m_u d_u) (.bool t_u) (.slice E_u i_u e_u) (.slice F_u j_u f_u)) (h0:decide ((n_p≤6∧m_p≤6)∧i_p≤6∧j_p≤6)=true) (h1:decide ((n_q≤6∧m_q≤6)∧i_q≤6∧j_q≤6)=true) (h2:decide ((n_r≤6∧m_r≤6)∧i_r≤6∧j_r≤6)=true) (h3:decide ((n_u≤6∧m_u≤6)∧i_u≤6∧j_u≤6)=true) :
 Calls Tryz.prog 81 #[.slice (some ⟨g,0,none⟩) 4 4,.int .i64 6] w fun e w'=>e=.returned (.bool true)∧Below w.heap.size w w':=by
 have H0:=Lib.hid h0;clear h0;have H1:=Lib.hid h1;clear h1;have H2:=Lib.hid h2;clear h2;have H3:=Lib.hid h3;clear h3
 have hb:Below w.heap.size w w:=Below.refl _ _
 obtain ⟨l0,l1,l2,l3,l4,l5,l6,l7,l8,l9,l10,l11,l12,l13,l14,l15,l16,l17,l18,l19,l20,l21,l22,l23⟩:=L.all
 go_enter Tryz.func81,Tryz.ntmps81
 go_wp2_with fail
 refine wp_loop_rounds 5 ?_
 rw [rounds_succ]
 go_wp2_with (first
  | (go_at_call 138;(with_reducible refine (smallpt_6 (s_p:=s_p) (A_p:=A_p) (n_p:=n_p) (c_p:=c_p) (B_p:=B_p) (m_p:=m_p) (d_p:=d_p) (t_p:=t_p) (E_p:=E_p) (i_p:=i_p) (e_p:=e_p) (F_p:=F_p) (j_p:=j_p) (f_p:=f_p) true H0.out).mono ?_);rintro e w_z ⟨rfl,hh⟩
     (try replace L:=L.below hh);replace hb:=bend hb hh;obtain ⟨l0,l1,l2,l3,l4,l5,l6,l7,l8,l9,l10,l11,l12,l13,l14,l15,l16,l17,l18,l19,l20,l21,l22,l23⟩:=L.all))
 rw [rounds_succ]
 go_wp2_with (first
  | (go_at_call 138;(with_reducible refine (smallpt_6 (s_p:=s_q) (A_p:=A_q) (n_p:=n_q) (c_p:=c_q) (B_p:=B_q) (m_p:=m_q) (d_p:=d_q) (t_p:=t_q) (E_p:=E_q) (i_p:=i_q) (e_p:=e_q) (F_p:=F_q) (j_p:=j_q) (f_p:=f_q) true H1.out).mono ?_);rintro e w_z ⟨rfl,hh⟩
     (try replace L:=L.below hh);replace hb:=bend hb hh;obtain ⟨l0,l1,l2,l3,l4,l5,l6,l7,l8,l9,l10,l11,l12,l13,l14,l15,l16,l17,l18,l19,l20,l21,l22,l23⟩:=L.all))
 rw [rounds_succ]
 go_wp2_with (first
  | (go_at_call 138;(with_reducible refine (smallpt_6 (s_p:=s_r) (A_p:=A_r) (n_p:=n_r) (c_p:=c_r) (B_p:=B_r) (m_p:=m_r) (d_p:=d_r) (t_p:=t_r) (E_p:=E_r) (i_p:=i_r) (e_p:=e_r) (F_p:=F_r) (j_p:=j_r) (f_p:=f_r) true H2.out).mono ?_);rintro e w_z ⟨rfl,hh⟩
     (try replace L:=L.below hh);replace hb:=bend hb hh;obtain ⟨l0,l1,l2,l3,l4,l5,l6,l7,l8,l9,l10,l11,l12,l13,l14,l15,l16,l17,l18,l19,l20,l21,l22,l23⟩:=L.all))
 rw [rounds_succ]
 go_wp2_with (first
  | (go_at_call 138;(with_reducible refine (smallpt_6 (s_p:=s_u) (A_p:=A_u) (n_p:=n_u) (c_p:=c_u) (B_p:=B_u) (m_p:=m_u) (d_p:=d_u) (t_p:=t_u) (E_p:=E_u) (i_p:=i_u) (e_p:=e_u) (F_p:=F_u) (j_p:=j_u) (f_p:=f_u) true H3.out).mono ?_);rintro e w_z ⟨rfl,hh⟩
     (try replace L:=L.below hh);replace hb:=bend hb hh;obtain ⟨l0,l1,l2,l3,l4,l5,l6,l7,l8,l9,l10,l11,l12,l13,l14,l15,l16,l17,l18,l19,l20,l21,l22,l23⟩:=L.all))
 rw [rounds_succ]
 go_wp2_with fail
 go_ret;exact ⟨rfl,hb⟩
theorem line4 {g:Nat} (L:BL4 w g (.bool s_p) (.slice A_p n_p c_p) (.slice B_p m_p d_p) (.bool t_p) (.slice E_p i_p e_p) (.slice F_p j_p f_p) (.bool s_q) (.slice A_q n_q c_q) (.slice B_q m_q d_q) (.bool t_q) (.slice E_q i_q e_q) (.slice F_q j_q f_q) (.bool s_r) (.slice A_r n_r c_r) (.slice B_r m_r d_r) (.bool t_r) (.slice E_r i_r e_r) (.slice F_r j_r f_r) (.bool s_u) (.slice A_u n_u c_u) (.slice B_u m_u d_u) (.bool t_u) (.slice E_u i_u e_u) (.slice F_u j_u f_u)) (R:Bool) (hR:decide (((n_p≤6∧m_p≤6)∧i_p≤6∧j_p≤6)∧((n_q≤6∧m_q≤6)∧i_q≤6∧j_q≤6)∧((n_r≤6∧m_r≤6)∧i_r≤6∧j_r≤6)∧((n_u≤6∧m_u≤6)∧i_u≤6∧j_u≤6))=R) :
 Calls Tryz.prog 81 #[.slice (some ⟨g,0,none⟩) 4 4,.int .i64 6] w fun e w'=>e=.returned (.bool R)∧Below w.heap.size w w':=by
 subst hR
 by_cases h0:(n_p≤6∧m_p≤6)∧i_p≤6∧j_p≤6
 case neg=>rw [decide_eq_false (fun q=>h0 q.1)];exact line4_0 L  (decide_eq_false h0)
 by_cases h1:(n_q≤6∧m_q≤6)∧i_q≤6∧j_q≤6
 case neg=>rw [decide_eq_false (fun q=>h1 q.2.1)];exact line4_1 L (decide_eq_true h0) (decide_eq_false h1)
 by_cases h2:(n_r≤6∧m_r≤6)∧i_r≤6∧j_r≤6
 case neg=>rw [decide_eq_false (fun q=>h2 q.2.2.1)];exact line4_2 L (decide_eq_true h0) (decide_eq_true h1) (decide_eq_false h2)
 by_cases h3:(n_u≤6∧m_u≤6)∧i_u≤6∧j_u≤6
 case neg=>rw [decide_eq_false (fun q=>h3 q.2.2.2)];exact line4_3 L (decide_eq_true h0) (decide_eq_true h1) (decide_eq_true h2) (decide_eq_false h3)
 rw [decide_eq_true ⟨h0,h1,h2,h3⟩];exact line4_4 L (decide_eq_true h0) (decide_eq_true h1) (decide_eq_true h2) (decide_eq_true h3)
theorem fair4 {g:Nat} (L:BL4 w g (.bool s_p) (.slice A_p n_p c_p) (.slice B_p m_p d_p) (.bool t_p) (.slice E_p i_p e_p) (.slice F_p j_p f_p) (.bool s_q) (.slice A_q n_q c_q) (.slice B_q m_q d_q) (.bool t_q) (.slice E_q i_q e_q) (.slice F_q j_q f_q) (.bool s_r) (.slice A_r n_r c_r) (.slice B_r m_r d_r) (.bool t_r) (.slice E_r i_r e_r) (.slice F_r j_r f_r) (.bool s_u) (.slice A_u n_u c_u) (.slice B_u m_u d_u) (.bool t_u) (.slice E_u i_u e_u) (.slice F_u j_u f_u)) (R:Bool) (hR:decide (((n_p≤6∧m_p≤6)∧i_p≤6∧j_p≤6)∧((n_q≤6∧m_q≤6)∧i_q≤6∧j_q≤6)∧((n_r≤6∧m_r≤6)∧i_r≤6∧j_r≤6)∧((n_u≤6∧m_u≤6)∧i_u≤6∧j_u≤6))=R) :
 Calls Tryz.prog 29 #[.slice (some ⟨g,0,none⟩) 4 4] w fun e w'=>e=.returned (.bool R)∧Below w.heap.size w w':=by
 have HR:=Lib.hid hR;clear hR
 have hb:Below w.heap.size w w:=Below.refl _ _
 go_enter Tryz.func29,Tryz.ntmps29
 go_wp2_with (first
  | (go_at_call 81;(with_reducible refine (line4 L R HR.out).mono ?_);rintro e w_z ⟨rfl,hh⟩
     replace hb:=bend hb hh))
 go_ret;exact ⟨rfl,hb⟩
end
section
open Go Go.RowKit
theorem lines_same {va vb:Value} {La Lb:List PV} {l:List (Rat × Rat)} {ba bb ka kb:Nat} (ha:Ln 56 ba w va La) (ha2:Ln 56 bb w vb Lb) (ea:Each PV.PG w La l ka) (eb:Each PV.PG w Lb l kb) (hk:ka≤100000) (hl:l.length≤1000000) :
 Calls Tryz.prog 32 #[va,vb] w fun e w'=>e=.returned (.bool true)∧Below w.heap.size w w':=by
 obtain ⟨A0,c0,rfl,_,_⟩:=ha.form
 obtain ⟨A1,c1,rfl,_,_⟩:=ha2.form
 obtain ⟨n,hn⟩:∃ n,l.length=n:=⟨_,rfl⟩
 have h1:La.length=n:=ea.1.trans hn
 have h2:Lb.length=n:=eb.1.trans hn
 rw [hn] at hl
 rw [h1] at ha ⊢
 rw [h2] at ha2 ⊢
 have H1:=Lib.hid h1;have H2:=Lib.hid h2;have HA:=Lib.hid ha;have HB:=Lib.hid ha2;have EA:=Lib.hid ea;have EB:=Lib.hid eb;clear h1 h2 hn ha ha2 ea eb
 go_enter Tryz.func32,Tryz.ntmps32
 go_wp2_with fail
 go_loopg [5] n (fun gk ix wr=>∃ m:Nat,Hid (gk+m=n)∧ix=.int .i64 (m:Int)∧Below w.heap.size w wr)
 case atStart=>exact ⟨0,Nat.add_zero _,rfl,Below.refl _ _⟩
 case round =>
  obtain ⟨m,HG,rfl,hB⟩:=hrel
  by_cases hm:m < n
  · obtain ⟨P,u,hP,hu,x⟩:=(EA.out.below hB).at_ (i:=m) (by rw [H1.out];exact hm)
    obtain ⟨Q,u2,hQ,hu2,y⟩:=(EB.out.below hB).at_ (i:=m) (by rw [H2.out];exact hm)
    obtain rfl:u=u2:=Option.some.inj (hu.symm.trans hu2)
    obtain ⟨g,c,hv,_,_,_,_⟩:=(HA.out.below hB).at_ hP
    obtain ⟨g2,c2,hv2,_,_,_,_⟩:=(HB.out.below hB).at_ hQ
    obtain rfl:A0=some ⟨g,0,none⟩:=by
     simp only [Value.slice.injEq] at hv
     exact hv.1
    obtain rfl:A1=some ⟨g2,0,none⟩:=by
     simp only [Value.slice.injEq] at hv2
     exact hv2.1
    replace x:PG wr P.s P.A P.n P.c P.B P.m P.d P.t P.E P.i P.e P.F P.j P.f u.1 u.2 ka:=x
    replace y:PG wr Q.s Q.A Q.n Q.c Q.B Q.m Q.d Q.t Q.E Q.i Q.e Q.F Q.j Q.f u.1 u.2 kb:=y
    have hix:=idx_pt (g:=g) (n:=n) (c:=c0) hm
    have hiy:=idx_pt (g:=g2) (n:=n) (c:=c1) hm
    have hlt:(m:Int) < (n:Int):=by omega
    have LA:=HA.out.below hB;have LB:=HB.out.below hB;clear hv hv2 hu hu2 hm;have hb:=hB
    go_upto_region 6 with (fail)
    replace x:=x.below (Below.refl _ _).drew
    replace y:=y.below (Below.refl _ _).drew
    replace LA:=LA.below (Below.refl _ _).drew
    replace LB:=LB.below (Below.refl _ _).drew
    replace hb:=hb.drew
    go_region_held3 (fun w'=>w'.cell? ⟨g,m*6,none⟩=some (.bool P.s)∧w'.cell? ⟨g,m*6+1,none⟩=some (.slice P.A P.n P.c)∧w'.cell? ⟨g,m*6+2,none⟩=some (.slice P.B P.m P.d)∧w'.cell? ⟨g,m*6+3,none⟩=some (.bool P.t)∧w'.cell? ⟨g,m*6+4,none⟩=some (.slice P.E P.i P.e)∧w'.cell? ⟨g,m*6+5,none⟩=some (.slice P.F P.j P.f)∧w'.cell? ⟨g2,m*6,none⟩=some (.bool Q.s)∧w'.cell? ⟨g2,m*6+1,none⟩=some (.slice Q.A Q.n Q.c)∧w'.cell? ⟨g2,m*6+2,none⟩=some (.slice Q.B Q.m Q.d)∧w'.cell? ⟨g2,m*6+3,none⟩=some (.bool Q.t)∧w'.cell? ⟨g2,m*6+4,none⟩=some (.slice Q.E Q.i Q.e)∧w'.cell? ⟨g2,m*6+5,none⟩=some (.slice Q.F Q.j Q.f))
     (first | with_reducible exact ⟨(LA.of hP).2.2.1,(LA.of hP).2.2.2.1,(LA.of hP).2.2.2.2.1,(LA.of hP).2.2.2.2.2.1,(LA.of hP).2.2.2.2.2.2.1,(LA.of hP).2.2.2.2.2.2.2,(LB.of hQ).2.2.1,(LB.of hQ).2.2.2.1,(LB.of hQ).2.2.2.2.1,(LB.of hQ).2.2.2.2.2.1,(LB.of hQ).2.2.2.2.2.2.1,(LB.of hQ).2.2.2.2.2.2.2⟩)
     (first
     | (go_at_call 83;(with_reducible refine (pts_same x y hk).mono ?_);rintro e w_z ⟨rfl,hh⟩
        (try replace LA:=LA.below hh);(try replace LB:=LB.below hh);replace hb:=bend hb hh))
    go_wp2_with fail
    go_roundg (gk - 1)
    case measure=>have:=HG.out;omega
    case rel=>exact ⟨m+1,by have:=HG.out;show _=_;omega,by go_num,hb⟩
  · have hlt:¬ (m:Int) < (n:Int):=by omega
    clear hm
    go_wp2_with fail
    go_ret
    exact ⟨rfl,hB⟩
end
section
open Go Go.RowKit
theorem told_ex (ax ay bx by_ cx cy dx dy:Rat):∃ l,Told ax ay bx by_ cx cy dx dy l:=by
 by_cases hz:(bx - ax)*(dy - cy) - (by_ - ay)*(dx - cx)=0
 · by_cases hf:farQ ax ay dx dy < farQ ax ay cx cy
   · exact ⟨_,told_by (fun x y=>(both_swap x y).symm) (told_ends (by rw [show (bx - ax)*(cy - dy) - (by_ - ay)*(cx - dx)=-((bx - ax)*(dy - cy) - (by_ - ay)*(dx - cx)) by grind,hz];rfl) (Rat.le_of_lt hf))⟩
   · exact ⟨_,told_ends hz (Rat.not_lt.1 hf)⟩
 · have ef:=div_mul_self (x:=(cx - ax)*(dy - cy) - (cy - ay)*(dx - cx)) hz
   have eg:=div_mul_self (x:=(cx - ax)*(by_ - ay) - (cy - ay)*(bx - ax)) hz
   generalize ((cx - ax)*(dy - cy) - (cy - ay)*(dx - cx)) / ((bx - ax)*(dy - cy) - (by_ - ay)*(dx - cx))=f at ef
   generalize ((cx - ax)*(by_ - ay) - (cy - ay)*(bx - ax)) / ((bx - ax)*(dy - cy) - (by_ - ay)*(dx - cx))=g at eg
   by_cases h:(0≤f∧f≤1)∧(0≤g∧g≤1)
   · exact ⟨_,told_cross hz ef eg h⟩
   · exact ⟨_,told_none hz ef eg h⟩
theorem Each.more {L:List PV} {l:List (Rat × Rat)} {k k2:Nat} (h:Each PV.PG w L l k) (hk:k≤k2):Each PV.PG w L l k2:=⟨h.1,fun i p u hp hu=>PG.more (h.2 i p u hp hu) hk⟩
def BL (K:Nat) (l:List (Rat × Rat)):Prop:=∀ u ∈ l,u.1.num.natAbs < B64 ^ K∧u.1.den < B64 ^ K∧u.2.num.natAbs < B64 ^ K∧u.2.den < B64 ^ K
theorem bl_ex (l:List (Rat × Rat)):∃ K,BL K l:=by
 induction l with
 | nil=>exact ⟨0,fun u hu=>by cases hu⟩
 | cons v l ih =>
   obtain ⟨K1,h1⟩:=big_ex v.1 v.2
   obtain ⟨K2,h2⟩:=ih
   have up:∀ {a k K:Nat},a < B64 ^ k→k≤K→a < B64 ^ K:=fun h hk=>Nat.lt_of_lt_of_le h (Nat.pow_le_pow_right (Nat.lt_of_lt_of_le (by decide) B64_two) hk)
   refine ⟨max K1 K2,fun u hu=>?_⟩
   rcases List.mem_cons.1 hu with rfl | hu
   · exact ⟨up h1.1 (Nat.le_max_left _ _),up h1.2.1 (Nat.le_max_left _ _),up h1.2.2.1 (Nat.le_max_left _ _),up h1.2.2.2 (Nat.le_max_left _ _)⟩
   · have h:=h2 u hu
     exact ⟨up h.1 (Nat.le_max_right _ _),up h.2.1 (Nat.le_max_right _ _),up h.2.2.1 (Nat.le_max_right _ _),up h.2.2.2 (Nat.le_max_right _ _)⟩
theorem bool_of (P:Prop):∃ R:Bool,(R=true ↔ P):=by
 by_cases h:P
 · exact ⟨true,fun _=>h,fun _=>rfl⟩
 · exact ⟨false,fun e=>(by cases e),fun e=>absurd e h⟩
theorem each_take {M:List PV} {l:List (Rat × Rat)} {K m:Nat} {P:PV} {u:Rat × Rat} (hu:l[m]?=some u) (h:Each PV.PG w (M ++ [P]) (l.take m ++ [u]) K):Each PV.PG w (M ++ [P]) (l.take (m+1)) K:=by
 obtain ⟨hm,hv⟩:=List.getElem?_eq_some_iff.1 hu
 rwa [List.take_succ_eq_append_getElem hm,hv]
theorem routs {v:Value} {L:List PV} {l:List (Rat × Rat)} {k K b:Nat} (hv:Ln 60 b w v L) (hE:Each PV.RP w L l k) (hk:k≤100000) (hB:BL K l) (hl:l.length≤1000) :
 Calls Tryz.prog 34 #[v] w (GivesLn w l K):=by
 obtain ⟨A0,c0,rfl,_,_⟩:=hv.form
 obtain ⟨n,hn⟩:∃ n,l.length=n:=⟨_,rfl⟩
 have h1:L.length=n:=hE.1.trans hn
 rw [hn] at hl
 rw [h1] at hv ⊢
 have H1:=Lib.hid h1;have HN:=Lib.hid hn;have HA:=Lib.hid hv;have EA:=Lib.hid hE;have HBL:=Lib.hid hB;clear h1 hn hv hE hB
 go_enter Tryz.func34,Tryz.ntmps34
 go_wp2_with fail
 go_loopg [3,4] n (fun gk out ix wr=>∃ (M:List PV) (m:Nat),Hid (gk+m=n)∧ix=.int .i64 (m:Int)∧Ln 56 w.heap.size wr out M∧Hid (Each PV.PG wr M (l.take m) K)∧Below w.heap.size w wr)
 case atStart=>exact ⟨[],0,Nat.add_zero _,rfl,Ln.nil _ _ _,Each.nil,Below.refl _ _⟩
 case round =>
  obtain ⟨M,m,HG,rfl,LT,HQ,hB⟩:=hrel
  by_cases hm:m < n
  · obtain ⟨P,u,hP,hu,x⟩:=(EA.out.belowR hB).at_ (i:=m) (by rw [H1.out];exact hm)
    obtain ⟨g,c,hv,_,_,_,_⟩:=(HA.out.below hB).at_ hP
    obtain rfl:A0=some ⟨g,0,none⟩:=by
     simp only [Value.slice.injEq] at hv
     exact hv.1
    have HU:=Lib.hid (HBL.out u (List.mem_of_getElem? hu))
    have HM:=Lib.hid hu
    obtain ⟨_,_,hc0,hc1,hc2,hc3,hc4,hc5⟩:=(HA.out.below hB).of hP
    obtain ⟨ux,uy⟩:=u
    obtain ⟨s_x,A_x,n_x,c_x,B_x,m_x,d_x,t_x,E_x,i_x,e_x,F_x,j_x,f_x⟩:=P
    replace x:RP wr s_x A_x n_x c_x B_x m_x d_x t_x E_x i_x e_x F_x j_x f_x ux uy k:=x
    simp only at hc0 hc1 hc2 hc3 hc4 hc5
    have hix:=idx_rpt (g:=g) (n:=n) (c:=c0) hm
    have hlt:(m:Int) < (n:Int):=by omega
    have hMl:M.length≤1000000:=by have:=HQ.out.1;rw [List.length_take] at this;omega
    have hb:=hB;clear hv hu hm hP
    go_wp2_with (first
     | (go_at_call 90;(with_reducible refine (rout6 x hk K HU.out.1 HU.out.2.1 HU.out.2.2.1 HU.out.2.2.2).mono ?_);rintro e w_y ⟨s_y,A_y,n_y,c_y,B_y,m_y,d_y,t_y,E_y,i_y,e_y,F_y,j_y,f_y,rfl,y,hh⟩
        replace LT:=LT.below hh
        replace HQ:=Lib.hid (Each.below HQ.out hh)
        replace hb:=bend hb hh)
     | (at_builtin
        have hal:Below w_y.heap.size w_y (w_y.alloc (Obj.cells #[Value.bool s_y,Value.slice A_y n_y c_y,Value.slice B_y m_y d_y,Value.bool t_y,Value.slice E_y i_y e_y,Value.slice F_y j_y f_y] 56)):=(Below.refl _ _).alloc (Nat.le_refl _) _
        refine wpList_push Tryz.underlying64 info_pt rfl (.tmp 11) (.tmp 17) rfl (p:=(PV.mk s_y A_y n_y c_y B_y m_y d_y t_y E_y i_y e_y F_y j_y f_y)) (k0:=1) (b:=w_y.heap.size) rfl rfl (LT.below hal) (Nat.le_trans hb.size hal.size) hMl (heap_alloc_new w_y _) ?_
        intro v3 w3 hn3 hg3))
    have hE3:Each PV.PG (w_y.alloc (Obj.cells #[Value.bool s_y,Value.slice A_y n_y c_y,Value.slice B_y m_y d_y,Value.bool t_y,Value.slice E_y i_y e_y,Value.slice F_y j_y f_y] 56)) M (l.take m) K:=Each.below HQ.out hal
    have hp3:PV.PG (w_y.alloc (Obj.cells #[Value.bool s_y,Value.slice A_y n_y c_y,Value.slice B_y m_y d_y,Value.bool t_y,Value.slice E_y i_y e_y,Value.slice F_y j_y f_y] 56)) (PV.mk s_y A_y n_y c_y B_y m_y d_y t_y E_y i_y e_y F_y j_y f_y) (ux,uy) K:=PG.below y hal
    have hst:=Each.stays hE3 (LT.below hal) hg3
    have hB9:=Ln.under (LT.below hal) hg3 (bend hb hal) (Nat.le_refl _)
    go_roundg (gk - 1)
    case measure=>have:=HG.out;omega
    case rel=>exact ⟨M ++ [(PV.mk s_y A_y n_y c_y B_y m_y d_y t_y E_y i_y e_y F_y j_y f_y)],m+1,by have:=HG.out;show _=_;omega,by go_num,hn3,each_take HM.out (Each.push hE3 hst (hst _ _ hp3)),hB9⟩
  · have hlt:¬ (m:Int) < (n:Int):=by omega
    have HQ2:Hid (Each PV.PG wr M l K):=by
     have h:=HQ.out
     rwa [List.take_of_length_le (by rw [HN.out];omega)] at h
    clear hm
    go_wp2_with fail
    (try rw [Exit.noGoto_ret])
    go_ret
    exact ⟨_,M,rfl,LT,HQ2.out,hB⟩
def BA4R (W:World) (g:Nat) (v0 v1 v2 v3 v4 v5 v6 v7 v8 v9 v10 v11 v12 v13 v14 v15 v16 v17 v18 v19 v20 v21 v22 v23:Value):Prop:=W.heap[g]?=some (.cells #[v0,v1,v2,v3,v4,v5,v6,v7,v8,v9,v10,v11,v12,v13,v14,v15,v16,v17,v18,v19,v20,v21,v22,v23] 61 (0,0))
section
variable {W W':World} {g:Nat} {v0 v1 v2 v3 v4 v5 v6 v7 v8 v9 v10 v11 v12 v13 v14 v15 v16 v17 v18 v19 v20 v21 v22 v23:Value}
theorem BA4R.c0 (h:BA4R W g v0 v1 v2 v3 v4 v5 v6 v7 v8 v9 v10 v11 v12 v13 v14 v15 v16 v17 v18 v19 v20 v21 v22 v23):W.cell? ⟨g,0,none⟩=some v0:=by rw [cell_of_row W g 0 _ _ (0,0) h];rfl
theorem BA4R.c1 (h:BA4R W g v0 v1 v2 v3 v4 v5 v6 v7 v8 v9 v10 v11 v12 v13 v14 v15 v16 v17 v18 v19 v20 v21 v22 v23):W.cell? ⟨g,1,none⟩=some v1:=by rw [cell_of_row W g 1 _ _ (0,0) h];rfl
theorem BA4R.c2 (h:BA4R W g v0 v1 v2 v3 v4 v5 v6 v7 v8 v9 v10 v11 v12 v13 v14 v15 v16 v17 v18 v19 v20 v21 v22 v23):W.cell? ⟨g,2,none⟩=some v2:=by rw [cell_of_row W g 2 _ _ (0,0) h];rfl
theorem BA4R.c3 (h:BA4R W g v0 v1 v2 v3 v4 v5 v6 v7 v8 v9 v10 v11 v12 v13 v14 v15 v16 v17 v18 v19 v20 v21 v22 v23):W.cell? ⟨g,3,none⟩=some v3:=by rw [cell_of_row W g 3 _ _ (0,0) h];rfl
theorem BA4R.c4 (h:BA4R W g v0 v1 v2 v3 v4 v5 v6 v7 v8 v9 v10 v11 v12 v13 v14 v15 v16 v17 v18 v19 v20 v21 v22 v23):W.cell? ⟨g,4,none⟩=some v4:=by rw [cell_of_row W g 4 _ _ (0,0) h];rfl
theorem BA4R.c5 (h:BA4R W g v0 v1 v2 v3 v4 v5 v6 v7 v8 v9 v10 v11 v12 v13 v14 v15 v16 v17 v18 v19 v20 v21 v22 v23):W.cell? ⟨g,5,none⟩=some v5:=by rw [cell_of_row W g 5 _ _ (0,0) h];rfl
theorem BA4R.c6 (h:BA4R W g v0 v1 v2 v3 v4 v5 v6 v7 v8 v9 v10 v11 v12 v13 v14 v15 v16 v17 v18 v19 v20 v21 v22 v23):W.cell? ⟨g,6,none⟩=some v6:=by rw [cell_of_row W g 6 _ _ (0,0) h];rfl
theorem BA4R.c7 (h:BA4R W g v0 v1 v2 v3 v4 v5 v6 v7 v8 v9 v10 v11 v12 v13 v14 v15 v16 v17 v18 v19 v20 v21 v22 v23):W.cell? ⟨g,7,none⟩=some v7:=by rw [cell_of_row W g 7 _ _ (0,0) h];rfl
theorem BA4R.c8 (h:BA4R W g v0 v1 v2 v3 v4 v5 v6 v7 v8 v9 v10 v11 v12 v13 v14 v15 v16 v17 v18 v19 v20 v21 v22 v23):W.cell? ⟨g,8,none⟩=some v8:=by rw [cell_of_row W g 8 _ _ (0,0) h];rfl
theorem BA4R.c9 (h:BA4R W g v0 v1 v2 v3 v4 v5 v6 v7 v8 v9 v10 v11 v12 v13 v14 v15 v16 v17 v18 v19 v20 v21 v22 v23):W.cell? ⟨g,9,none⟩=some v9:=by rw [cell_of_row W g 9 _ _ (0,0) h];rfl
theorem BA4R.c10 (h:BA4R W g v0 v1 v2 v3 v4 v5 v6 v7 v8 v9 v10 v11 v12 v13 v14 v15 v16 v17 v18 v19 v20 v21 v22 v23):W.cell? ⟨g,10,none⟩=some v10:=by rw [cell_of_row W g 10 _ _ (0,0) h];rfl
theorem BA4R.c11 (h:BA4R W g v0 v1 v2 v3 v4 v5 v6 v7 v8 v9 v10 v11 v12 v13 v14 v15 v16 v17 v18 v19 v20 v21 v22 v23):W.cell? ⟨g,11,none⟩=some v11:=by rw [cell_of_row W g 11 _ _ (0,0) h];rfl
theorem BA4R.c12 (h:BA4R W g v0 v1 v2 v3 v4 v5 v6 v7 v8 v9 v10 v11 v12 v13 v14 v15 v16 v17 v18 v19 v20 v21 v22 v23):W.cell? ⟨g,12,none⟩=some v12:=by rw [cell_of_row W g 12 _ _ (0,0) h];rfl
theorem BA4R.c13 (h:BA4R W g v0 v1 v2 v3 v4 v5 v6 v7 v8 v9 v10 v11 v12 v13 v14 v15 v16 v17 v18 v19 v20 v21 v22 v23):W.cell? ⟨g,13,none⟩=some v13:=by rw [cell_of_row W g 13 _ _ (0,0) h];rfl
theorem BA4R.c14 (h:BA4R W g v0 v1 v2 v3 v4 v5 v6 v7 v8 v9 v10 v11 v12 v13 v14 v15 v16 v17 v18 v19 v20 v21 v22 v23):W.cell? ⟨g,14,none⟩=some v14:=by rw [cell_of_row W g 14 _ _ (0,0) h];rfl
theorem BA4R.c15 (h:BA4R W g v0 v1 v2 v3 v4 v5 v6 v7 v8 v9 v10 v11 v12 v13 v14 v15 v16 v17 v18 v19 v20 v21 v22 v23):W.cell? ⟨g,15,none⟩=some v15:=by rw [cell_of_row W g 15 _ _ (0,0) h];rfl
theorem BA4R.c16 (h:BA4R W g v0 v1 v2 v3 v4 v5 v6 v7 v8 v9 v10 v11 v12 v13 v14 v15 v16 v17 v18 v19 v20 v21 v22 v23):W.cell? ⟨g,16,none⟩=some v16:=by rw [cell_of_row W g 16 _ _ (0,0) h];rfl
theorem BA4R.c17 (h:BA4R W g v0 v1 v2 v3 v4 v5 v6 v7 v8 v9 v10 v11 v12 v13 v14 v15 v16 v17 v18 v19 v20 v21 v22 v23):W.cell? ⟨g,17,none⟩=some v17:=by rw [cell_of_row W g 17 _ _ (0,0) h];rfl
theorem BA4R.c18 (h:BA4R W g v0 v1 v2 v3 v4 v5 v6 v7 v8 v9 v10 v11 v12 v13 v14 v15 v16 v17 v18 v19 v20 v21 v22 v23):W.cell? ⟨g,18,none⟩=some v18:=by rw [cell_of_row W g 18 _ _ (0,0) h];rfl
theorem BA4R.c19 (h:BA4R W g v0 v1 v2 v3 v4 v5 v6 v7 v8 v9 v10 v11 v12 v13 v14 v15 v16 v17 v18 v19 v20 v21 v22 v23):W.cell? ⟨g,19,none⟩=some v19:=by rw [cell_of_row W g 19 _ _ (0,0) h];rfl
theorem BA4R.c20 (h:BA4R W g v0 v1 v2 v3 v4 v5 v6 v7 v8 v9 v10 v11 v12 v13 v14 v15 v16 v17 v18 v19 v20 v21 v22 v23):W.cell? ⟨g,20,none⟩=some v20:=by rw [cell_of_row W g 20 _ _ (0,0) h];rfl
theorem BA4R.c21 (h:BA4R W g v0 v1 v2 v3 v4 v5 v6 v7 v8 v9 v10 v11 v12 v13 v14 v15 v16 v17 v18 v19 v20 v21 v22 v23):W.cell? ⟨g,21,none⟩=some v21:=by rw [cell_of_row W g 21 _ _ (0,0) h];rfl
theorem BA4R.c22 (h:BA4R W g v0 v1 v2 v3 v4 v5 v6 v7 v8 v9 v10 v11 v12 v13 v14 v15 v16 v17 v18 v19 v20 v21 v22 v23):W.cell? ⟨g,22,none⟩=some v22:=by rw [cell_of_row W g 22 _ _ (0,0) h];rfl
theorem BA4R.c23 (h:BA4R W g v0 v1 v2 v3 v4 v5 v6 v7 v8 v9 v10 v11 v12 v13 v14 v15 v16 v17 v18 v19 v20 v21 v22 v23):W.cell? ⟨g,23,none⟩=some v23:=by rw [cell_of_row W g 23 _ _ (0,0) h];rfl
theorem BA4R.all (h:BA4R W g v0 v1 v2 v3 v4 v5 v6 v7 v8 v9 v10 v11 v12 v13 v14 v15 v16 v17 v18 v19 v20 v21 v22 v23):W.cell? ⟨g,0,none⟩=some v0∧W.cell? ⟨g,1,none⟩=some v1∧W.cell? ⟨g,2,none⟩=some v2∧W.cell? ⟨g,3,none⟩=some v3∧W.cell? ⟨g,4,none⟩=some v4∧W.cell? ⟨g,5,none⟩=some v5∧W.cell? ⟨g,6,none⟩=some v6∧W.cell? ⟨g,7,none⟩=some v7∧W.cell? ⟨g,8,none⟩=some v8∧W.cell? ⟨g,9,none⟩=some v9∧W.cell? ⟨g,10,none⟩=some v10∧W.cell? ⟨g,11,none⟩=some v11∧W.cell? ⟨g,12,none⟩=some v12∧W.cell? ⟨g,13,none⟩=some v13∧W.cell? ⟨g,14,none⟩=some v14∧W.cell? ⟨g,15,none⟩=some v15∧W.cell? ⟨g,16,none⟩=some v16∧W.cell? ⟨g,17,none⟩=some v17∧W.cell? ⟨g,18,none⟩=some v18∧W.cell? ⟨g,19,none⟩=some v19∧W.cell? ⟨g,20,none⟩=some v20∧W.cell? ⟨g,21,none⟩=some v21∧W.cell? ⟨g,22,none⟩=some v22∧W.cell? ⟨g,23,none⟩=some v23:=⟨h.c0,h.c1,h.c2,h.c3,h.c4,h.c5,h.c6,h.c7,h.c8,h.c9,h.c10,h.c11,h.c12,h.c13,h.c14,h.c15,h.c16,h.c17,h.c18,h.c19,h.c20,h.c21,h.c22,h.c23⟩
theorem BA4R.f0 (h:BA4R W g v0 v1 v2 v3 v4 v5 v6 v7 v8 v9 v10 v11 v12 v13 v14 v15 v16 v17 v18 v19 v20 v21 v22 v23):W.frozen? ⟨g,0,none⟩=false:=frozen_of_row W g 0 _ _ h
theorem BA4R.f1 (h:BA4R W g v0 v1 v2 v3 v4 v5 v6 v7 v8 v9 v10 v11 v12 v13 v14 v15 v16 v17 v18 v19 v20 v21 v22 v23):W.frozen? ⟨g,1,none⟩=false:=frozen_of_row W g 1 _ _ h
theorem BA4R.f2 (h:BA4R W g v0 v1 v2 v3 v4 v5 v6 v7 v8 v9 v10 v11 v12 v13 v14 v15 v16 v17 v18 v19 v20 v21 v22 v23):W.frozen? ⟨g,2,none⟩=false:=frozen_of_row W g 2 _ _ h
theorem BA4R.f3 (h:BA4R W g v0 v1 v2 v3 v4 v5 v6 v7 v8 v9 v10 v11 v12 v13 v14 v15 v16 v17 v18 v19 v20 v21 v22 v23):W.frozen? ⟨g,3,none⟩=false:=frozen_of_row W g 3 _ _ h
theorem BA4R.f4 (h:BA4R W g v0 v1 v2 v3 v4 v5 v6 v7 v8 v9 v10 v11 v12 v13 v14 v15 v16 v17 v18 v19 v20 v21 v22 v23):W.frozen? ⟨g,4,none⟩=false:=frozen_of_row W g 4 _ _ h
theorem BA4R.f5 (h:BA4R W g v0 v1 v2 v3 v4 v5 v6 v7 v8 v9 v10 v11 v12 v13 v14 v15 v16 v17 v18 v19 v20 v21 v22 v23):W.frozen? ⟨g,5,none⟩=false:=frozen_of_row W g 5 _ _ h
theorem BA4R.f6 (h:BA4R W g v0 v1 v2 v3 v4 v5 v6 v7 v8 v9 v10 v11 v12 v13 v14 v15 v16 v17 v18 v19 v20 v21 v22 v23):W.frozen? ⟨g,6,none⟩=false:=frozen_of_row W g 6 _ _ h
theorem BA4R.f7 (h:BA4R W g v0 v1 v2 v3 v4 v5 v6 v7 v8 v9 v10 v11 v12 v13 v14 v15 v16 v17 v18 v19 v20 v21 v22 v23):W.frozen? ⟨g,7,none⟩=false:=frozen_of_row W g 7 _ _ h
theorem BA4R.f8 (h:BA4R W g v0 v1 v2 v3 v4 v5 v6 v7 v8 v9 v10 v11 v12 v13 v14 v15 v16 v17 v18 v19 v20 v21 v22 v23):W.frozen? ⟨g,8,none⟩=false:=frozen_of_row W g 8 _ _ h
theorem BA4R.f9 (h:BA4R W g v0 v1 v2 v3 v4 v5 v6 v7 v8 v9 v10 v11 v12 v13 v14 v15 v16 v17 v18 v19 v20 v21 v22 v23):W.frozen? ⟨g,9,none⟩=false:=frozen_of_row W g 9 _ _ h
theorem BA4R.f10 (h:BA4R W g v0 v1 v2 v3 v4 v5 v6 v7 v8 v9 v10 v11 v12 v13 v14 v15 v16 v17 v18 v19 v20 v21 v22 v23):W.frozen? ⟨g,10,none⟩=false:=frozen_of_row W g 10 _ _ h
theorem BA4R.f11 (h:BA4R W g v0 v1 v2 v3 v4 v5 v6 v7 v8 v9 v10 v11 v12 v13 v14 v15 v16 v17 v18 v19 v20 v21 v22 v23):W.frozen? ⟨g,11,none⟩=false:=frozen_of_row W g 11 _ _ h
theorem BA4R.f12 (h:BA4R W g v0 v1 v2 v3 v4 v5 v6 v7 v8 v9 v10 v11 v12 v13 v14 v15 v16 v17 v18 v19 v20 v21 v22 v23):W.frozen? ⟨g,12,none⟩=false:=frozen_of_row W g 12 _ _ h
theorem BA4R.f13 (h:BA4R W g v0 v1 v2 v3 v4 v5 v6 v7 v8 v9 v10 v11 v12 v13 v14 v15 v16 v17 v18 v19 v20 v21 v22 v23):W.frozen? ⟨g,13,none⟩=false:=frozen_of_row W g 13 _ _ h
theorem BA4R.f14 (h:BA4R W g v0 v1 v2 v3 v4 v5 v6 v7 v8 v9 v10 v11 v12 v13 v14 v15 v16 v17 v18 v19 v20 v21 v22 v23):W.frozen? ⟨g,14,none⟩=false:=frozen_of_row W g 14 _ _ h
theorem BA4R.f15 (h:BA4R W g v0 v1 v2 v3 v4 v5 v6 v7 v8 v9 v10 v11 v12 v13 v14 v15 v16 v17 v18 v19 v20 v21 v22 v23):W.frozen? ⟨g,15,none⟩=false:=frozen_of_row W g 15 _ _ h
theorem BA4R.f16 (h:BA4R W g v0 v1 v2 v3 v4 v5 v6 v7 v8 v9 v10 v11 v12 v13 v14 v15 v16 v17 v18 v19 v20 v21 v22 v23):W.frozen? ⟨g,16,none⟩=false:=frozen_of_row W g 16 _ _ h
theorem BA4R.f17 (h:BA4R W g v0 v1 v2 v3 v4 v5 v6 v7 v8 v9 v10 v11 v12 v13 v14 v15 v16 v17 v18 v19 v20 v21 v22 v23):W.frozen? ⟨g,17,none⟩=false:=frozen_of_row W g 17 _ _ h
theorem BA4R.f18 (h:BA4R W g v0 v1 v2 v3 v4 v5 v6 v7 v8 v9 v10 v11 v12 v13 v14 v15 v16 v17 v18 v19 v20 v21 v22 v23):W.frozen? ⟨g,18,none⟩=false:=frozen_of_row W g 18 _ _ h
theorem BA4R.f19 (h:BA4R W g v0 v1 v2 v3 v4 v5 v6 v7 v8 v9 v10 v11 v12 v13 v14 v15 v16 v17 v18 v19 v20 v21 v22 v23):W.frozen? ⟨g,19,none⟩=false:=frozen_of_row W g 19 _ _ h
theorem BA4R.f20 (h:BA4R W g v0 v1 v2 v3 v4 v5 v6 v7 v8 v9 v10 v11 v12 v13 v14 v15 v16 v17 v18 v19 v20 v21 v22 v23):W.frozen? ⟨g,20,none⟩=false:=frozen_of_row W g 20 _ _ h
theorem BA4R.f21 (h:BA4R W g v0 v1 v2 v3 v4 v5 v6 v7 v8 v9 v10 v11 v12 v13 v14 v15 v16 v17 v18 v19 v20 v21 v22 v23):W.frozen? ⟨g,21,none⟩=false:=frozen_of_row W g 21 _ _ h
theorem BA4R.f22 (h:BA4R W g v0 v1 v2 v3 v4 v5 v6 v7 v8 v9 v10 v11 v12 v13 v14 v15 v16 v17 v18 v19 v20 v21 v22 v23):W.frozen? ⟨g,22,none⟩=false:=frozen_of_row W g 22 _ _ h
theorem BA4R.f23 (h:BA4R W g v0 v1 v2 v3 v4 v5 v6 v7 v8 v9 v10 v11 v12 v13 v14 v15 v16 v17 v18 v19 v20 v21 v22 v23):W.frozen? ⟨g,23,none⟩=false:=frozen_of_row W g 23 _ _ h
theorem BA4R.lt (h:BA4R W g v0 v1 v2 v3 v4 v5 v6 v7 v8 v9 v10 v11 v12 v13 v14 v15 v16 v17 v18 v19 v20 v21 v22 v23):g < W.heap.size:=World.block_lt_of_cell? W _ h.c0
theorem BA4R.below (h:BA4R W g v0 v1 v2 v3 v4 v5 v6 v7 v8 v9 v10 v11 v12 v13 v14 v15 v16 v17 v18 v19 v20 v21 v22 v23) (hb:Below W.heap.size W W'):BA4R W' g v0 v1 v2 v3 v4 v5 v6 v7 v8 v9 v10 v11 v12 v13 v14 v15 v16 v17 v18 v19 v20 v21 v22 v23:=(hb.block g h.lt).trans h
theorem BA4R.set0 (h:BA4R W g v0 v1 v2 v3 v4 v5 v6 v7 v8 v9 v10 v11 v12 v13 v14 v15 v16 v17 v18 v19 v20 v21 v22 v23) (a b c d e f:Value):BA4R ((((((W.setCell ⟨g,0,none⟩ a).setCell ⟨g,1,none⟩ b).setCell ⟨g,2,none⟩ c).setCell ⟨g,3,none⟩ d).setCell ⟨g,4,none⟩ e).setCell ⟨g,5,none⟩ f) g a b c d e f v6 v7 v8 v9 v10 v11 v12 v13 v14 v15 v16 v17 v18 v19 v20 v21 v22 v23:=by
 unfold BA4R at h ⊢
 simp [World.setCell,Array.getElem?_modify,h]
theorem only24_0 (W:World) (g:Nat) (a b c d e f:Value):Only g W ((((((W.setCell ⟨g,0,none⟩ a).setCell ⟨g,1,none⟩ b).setCell ⟨g,2,none⟩ c).setCell ⟨g,3,none⟩ d).setCell ⟨g,4,none⟩ e).setCell ⟨g,5,none⟩ f):=((((((Only.refl g W).setCell 0 a).setCell 1 b).setCell 2 c).setCell 3 d).setCell 4 e).setCell 5 f
theorem at4r_0 (g:Nat) (w:World):(Instr.indexAt 61 (Value.pointer (some ⟨g,0,none⟩)) (Value.int IntKind.i64 0)).run Tryz.prog w=.ok (.pointer (some ⟨g,0,none⟩)) w:=by kernel_rfl
theorem BA4R.set1 (h:BA4R W g v0 v1 v2 v3 v4 v5 v6 v7 v8 v9 v10 v11 v12 v13 v14 v15 v16 v17 v18 v19 v20 v21 v22 v23) (a b c d e f:Value):BA4R ((((((W.setCell ⟨g,6,none⟩ a).setCell ⟨g,7,none⟩ b).setCell ⟨g,8,none⟩ c).setCell ⟨g,9,none⟩ d).setCell ⟨g,10,none⟩ e).setCell ⟨g,11,none⟩ f) g v0 v1 v2 v3 v4 v5 a b c d e f v12 v13 v14 v15 v16 v17 v18 v19 v20 v21 v22 v23:=by
 unfold BA4R at h ⊢
 simp [World.setCell,Array.getElem?_modify,h]
theorem only24_1 (W:World) (g:Nat) (a b c d e f:Value):Only g W ((((((W.setCell ⟨g,6,none⟩ a).setCell ⟨g,7,none⟩ b).setCell ⟨g,8,none⟩ c).setCell ⟨g,9,none⟩ d).setCell ⟨g,10,none⟩ e).setCell ⟨g,11,none⟩ f):=((((((Only.refl g W).setCell 6 a).setCell 7 b).setCell 8 c).setCell 9 d).setCell 10 e).setCell 11 f
theorem at4r_1 (g:Nat) (w:World):(Instr.indexAt 61 (Value.pointer (some ⟨g,0,none⟩)) (Value.int IntKind.i64 1)).run Tryz.prog w=.ok (.pointer (some ⟨g,6,none⟩)) w:=by kernel_rfl
theorem BA4R.set2 (h:BA4R W g v0 v1 v2 v3 v4 v5 v6 v7 v8 v9 v10 v11 v12 v13 v14 v15 v16 v17 v18 v19 v20 v21 v22 v23) (a b c d e f:Value):BA4R ((((((W.setCell ⟨g,12,none⟩ a).setCell ⟨g,13,none⟩ b).setCell ⟨g,14,none⟩ c).setCell ⟨g,15,none⟩ d).setCell ⟨g,16,none⟩ e).setCell ⟨g,17,none⟩ f) g v0 v1 v2 v3 v4 v5 v6 v7 v8 v9 v10 v11 a b c d e f v18 v19 v20 v21 v22 v23:=by
 unfold BA4R at h ⊢
 simp [World.setCell,Array.getElem?_modify,h]
theorem only24_2 (W:World) (g:Nat) (a b c d e f:Value):Only g W ((((((W.setCell ⟨g,12,none⟩ a).setCell ⟨g,13,none⟩ b).setCell ⟨g,14,none⟩ c).setCell ⟨g,15,none⟩ d).setCell ⟨g,16,none⟩ e).setCell ⟨g,17,none⟩ f):=((((((Only.refl g W).setCell 12 a).setCell 13 b).setCell 14 c).setCell 15 d).setCell 16 e).setCell 17 f
theorem at4r_2 (g:Nat) (w:World):(Instr.indexAt 61 (Value.pointer (some ⟨g,0,none⟩)) (Value.int IntKind.i64 2)).run Tryz.prog w=.ok (.pointer (some ⟨g,12,none⟩)) w:=by kernel_rfl
theorem BA4R.set3 (h:BA4R W g v0 v1 v2 v3 v4 v5 v6 v7 v8 v9 v10 v11 v12 v13 v14 v15 v16 v17 v18 v19 v20 v21 v22 v23) (a b c d e f:Value):BA4R ((((((W.setCell ⟨g,18,none⟩ a).setCell ⟨g,19,none⟩ b).setCell ⟨g,20,none⟩ c).setCell ⟨g,21,none⟩ d).setCell ⟨g,22,none⟩ e).setCell ⟨g,23,none⟩ f) g v0 v1 v2 v3 v4 v5 v6 v7 v8 v9 v10 v11 v12 v13 v14 v15 v16 v17 a b c d e f:=by
 unfold BA4R at h ⊢
 simp [World.setCell,Array.getElem?_modify,h]
theorem only24_3 (W:World) (g:Nat) (a b c d e f:Value):Only g W ((((((W.setCell ⟨g,18,none⟩ a).setCell ⟨g,19,none⟩ b).setCell ⟨g,20,none⟩ c).setCell ⟨g,21,none⟩ d).setCell ⟨g,22,none⟩ e).setCell ⟨g,23,none⟩ f):=((((((Only.refl g W).setCell 18 a).setCell 19 b).setCell 20 c).setCell 21 d).setCell 22 e).setCell 23 f
theorem at4r_3 (g:Nat) (w:World):(Instr.indexAt 61 (Value.pointer (some ⟨g,0,none⟩)) (Value.int IntKind.i64 3)).run Tryz.prog w=.ok (.pointer (some ⟨g,18,none⟩)) w:=by kernel_rfl
end
theorem BA4R.new' (W:World) (v0 v1 v2 v3 v4 v5 v6 v7 v8 v9 v10 v11 v12 v13 v14 v15 v16 v17 v18 v19 v20 v21 v22 v23:Value) (g:Nat) (hg:g=W.heap.size):BA4R (W.alloc (.cells #[v0,v1,v2,v3,v4,v5,v6,v7,v8,v9,v10,v11,v12,v13,v14,v15,v16,v17,v18,v19,v20,v21,v22,v23] 61)) g v0 v1 v2 v3 v4 v5 v6 v7 v8 v9 v10 v11 v12 v13 v14 v15 v16 v17 v18 v19 v20 v21 v22 v23:=by subst hg;exact heap_alloc_new W _
theorem free24 (L:List PV) (i:Nat) (k:IntKind) (x:Int):(pvs L).toArray[i]? ≠ some (Value.int k x):=by
 intro h
 rw [List.getElem?_toArray] at h
 exact pvs_free L _ (List.mem_of_getElem? h) k x rfl
theorem BA4.rest {w w':World} {g k:Nat} {v0 v1 v2 v3 v4 v5 v6 v7 v8 v9 v10 v11 v12 v13 v14 v15 v16 v17 v18 v19 v20 v21 v22 v23:Value} (h:BA4 w g v0 v1 v2 v3 v4 v5 v6 v7 v8 v9 v10 v11 v12 v13 v14 v15 v16 v17 v18 v19 v20 v21 v22 v23) (hne:g ≠ k) (ho:Only k w w'):BA4 w' g v0 v1 v2 v3 v4 v5 v6 v7 v8 v9 v10 v11 v12 v13 v14 v15 v16 v17 v18 v19 v20 v21 v22 v23:=(ho.block g h.lt hne).trans h
theorem ron_p {kp k:Nat} {px py ax ay bx by_:Rat} (p:RP w s_p A_p n_p c_p B_p m_p d_p t_p E_p i_p e_p F_p j_p f_p px py kp) (q:RP w s_q A_q n_q c_q B_q m_q d_q t_q E_q i_q e_q F_q j_q f_q ax ay k) (r:RP w s_r A_r n_r c_r B_r m_r d_r t_r E_r i_r e_r F_r j_r f_r bx by_ k) (hkp:kp≤300) (hk:k≤12) (R:Bool) (hR:R=true ↔ onS px py ax ay bx by_) :
 Calls Tryz.prog 37 #[.agg #[.bool s_p,.slice A_p n_p c_p,.slice B_p m_p d_p,.bool t_p,.slice E_p i_p e_p,.slice F_p j_p f_p],.agg #[.bool s_q,.slice A_q n_q c_q,.slice B_q m_q d_q,.bool t_q,.slice E_q i_q e_q,.slice F_q j_q f_q],.agg #[.bool s_r,.slice A_r n_r c_r,.slice B_r m_r d_r,.bool t_r,.slice E_r i_r e_r,.slice F_r j_r f_r]] w fun e w'=>e=.returned (.bool R)∧Below w.heap.size w w':=by
 cases R with
 | true=>exact ron_yes p q r hkp hk (hR.1 rfl)
 | false=>exact ron_no p q r hkp hk (fun e=>by have:=hR.2 e;cases this)
theorem mkbx46_20 {w W:World} {x0 x1 x2 x3 x4 x5 x6 x7 x8 x9 x10 x11 x12 x13 x14 x15 x16 x17 x18 x19 x20 x21 x22 x23:Value} (h:(w.alloc (Obj.cells #[x0,x1,x2,x3,x4,x5,x6,x7,x8,x9,x10,x11,x12,x13,x14,x15,x16,x17,x18,x19,x20,x21,x22,x23] 57))=W):Below w.heap.size w W∧BA4 W (w.heap.size) x0 x1 x2 x3 x4 x5 x6 x7 x8 x9 x10 x11 x12 x13 x14 x15 x16 x17 x18 x19 x20 x21 x22 x23∧W.heap.size=w.heap.size+1:=by subst h;exact ⟨by exact ((Below.refl _ _).alloc (Nat.le_refl _) _),by exact BA4.new' _ _ _ _ _ _ _ _ _ _ _ _ _ _ _ _ _ _ _ _ _ _ _ _ _ _ rfl,by simp⟩
theorem mkbx47_20 {w W:World} {x0 x1 x2 x3 x4 x5 x6 x7 x8 x9 x10 x11 x12 x13 x14 x15 x16 x17 x18 x19 x20 x21 x22 x23:Value} (h:(w.alloc (Obj.cells #[x0,x1,x2,x3,x4,x5,x6,x7,x8,x9,x10,x11,x12,x13,x14,x15,x16,x17,x18,x19,x20,x21,x22,x23] 56))=W):Below w.heap.size w W∧BL4 W (w.heap.size) x0 x1 x2 x3 x4 x5 x6 x7 x8 x9 x10 x11 x12 x13 x14 x15 x16 x17 x18 x19 x20 x21 x22 x23∧W.heap.size=w.heap.size+1:=by subst h;exact ⟨by exact ((Below.refl _ _).alloc (Nat.le_refl _) _),by exact BL4.new' _ _ _ _ _ _ _ _ _ _ _ _ _ _ _ _ _ _ _ _ _ _ _ _ _ _ rfl,by simp⟩
theorem meets_l (h:¬ (((n_p≤6∧m_p≤6)∧i_p≤6∧j_p≤6)∧((n_q≤6∧m_q≤6)∧i_q≤6∧j_q≤6)∧((n_r≤6∧m_r≤6)∧i_r≤6∧j_r≤6)∧((n_u≤6∧m_u≤6)∧i_u≤6∧j_u≤6))) :
 Calls Tryz.prog 5 #[.agg #[.bool s_p,.slice A_p n_p c_p,.slice B_p m_p d_p,.bool t_p,.slice E_p i_p e_p,.slice F_p j_p f_p,.bool s_q,.slice A_q n_q c_q,.slice B_q m_q d_q,.bool t_q,.slice E_q i_q e_q,.slice F_q j_q f_q,.bool s_r,.slice A_r n_r c_r,.slice B_r m_r d_r,.bool t_r,.slice E_r i_r e_r,.slice F_r j_r f_r,.bool s_u,.slice A_u n_u c_u,.slice B_u m_u d_u,.bool t_u,.slice E_u i_u e_u,.slice F_u j_u f_u]] w fun e w'=>e=.returned (.bool true)∧Below w.heap.size w w':=by
 have HL:Hid (decide (((n_p≤6∧m_p≤6)∧i_p≤6∧j_p≤6)∧((n_q≤6∧m_q≤6)∧i_q≤6∧j_q≤6)∧((n_r≤6∧m_r≤6)∧i_r≤6∧j_r≤6)∧((n_u≤6∧m_u≤6)∧i_u≤6∧j_u≤6))=false):=decide_eq_false h
 clear h
 go_enter Tryz.func5,Tryz.ntmps5
 go_upto_region 1 with (fail)
 generalize hW:World.alloc _ _=W
 obtain ⟨hb,XA,hzW⟩:=mkbx46_20 hW;clear hW;have ia0:=at4_0 w.heap.size;have ia1:=at4_1 w.heap.size;have ia2:=at4_2 w.heap.size;have ia3:=at4_3 w.heap.size;obtain ⟨xa0,xa1,xa2,xa3,xa4,xa5,xa6,xa7,xa8,xa9,xa10,xa11,xa12,xa13,xa14,xa15,xa16,xa17,xa18,xa19,xa20,xa21,xa22,xa23⟩:=XA.all
 go_wp2_with fail
 generalize hW:World.alloc _ _=W2
 obtain ⟨hh,XL,hzW2⟩:=mkbx47_20 hW;clear hW;(try replace XA:=XA.below hh);replace hb:=bend hb hh;rw [hzW] at XL;clear hzW2
 go_wp2_with (first
  | (go_at_call 29;(with_reducible refine (fair4 XL false HL.out).mono ?_);rintro e w_z ⟨rfl,hh⟩
     clear XL;(try replace XA:=XA.below hh);replace hb:=bend hb hh;obtain ⟨xa0,xa1,xa2,xa3,xa4,xa5,xa6,xa7,xa8,xa9,xa10,xa11,xa12,xa13,xa14,xa15,xa16,xa17,xa18,xa19,xa20,xa21,xa22,xa23⟩:=XA.all)
  | (go_at_call 30;(with_reducible refine (segwakes_any _).mono ?_);rintro e w_z ⟨rfl,hh⟩
     replace hb:=bend hb hh))
 go_ret;exact ⟨rfl,hb⟩
theorem mkbx48_20 {w W:World} {x0 x1 x2 x3 x4 x5 x6 x7 x8 x9 x10 x11 x12 x13 x14 x15 x16 x17 x18 x19 x20 x21 x22 x23:Value} (h:(w.alloc (Obj.cells #[x0,x1,x2,x3,x4,x5,x6,x7,x8,x9,x10,x11,x12,x13,x14,x15,x16,x17,x18,x19,x20,x21,x22,x23] 61))=W):Below w.heap.size w W∧BA4R W (w.heap.size) x0 x1 x2 x3 x4 x5 x6 x7 x8 x9 x10 x11 x12 x13 x14 x15 x16 x17 x18 x19 x20 x21 x22 x23∧W.heap.size=w.heap.size+1:=by subst h;exact ⟨by exact ((Below.refl _ _).alloc (Nat.le_refl _) _),by exact BA4R.new' _ _ _ _ _ _ _ _ _ _ _ _ _ _ _ _ _ _ _ _ _ _ _ _ _ _ rfl,by simp⟩
theorem meets_s {ax ay bx by_ cx cy dx dy:Rat} (p:PR w s_p A_p n_p c_p B_p m_p d_p t_p E_p i_p e_p F_p j_p f_p ax ay 6) (q:PR w s_q A_q n_q c_q B_q m_q d_q t_q E_q i_q e_q F_q j_q f_q bx by_ 6) (r:PR w s_r A_r n_r c_r B_r m_r d_r t_r E_r i_r e_r F_r j_r f_r cx cy 6) (u:PR w s_u A_u n_u c_u B_u m_u d_u t_u E_u i_u e_u F_u j_u f_u dx dy 6) (h:(((n_p≤6∧m_p≤6)∧i_p≤6∧j_p≤6)∧((n_q≤6∧m_q≤6)∧i_q≤6∧j_q≤6)∧((n_r≤6∧m_r≤6)∧i_r≤6∧j_r≤6)∧((n_u≤6∧m_u≤6)∧i_u≤6∧j_u≤6))) :
 Calls Tryz.prog 5 #[.agg #[.bool s_p,.slice A_p n_p c_p,.slice B_p m_p d_p,.bool t_p,.slice E_p i_p e_p,.slice F_p j_p f_p,.bool s_q,.slice A_q n_q c_q,.slice B_q m_q d_q,.bool t_q,.slice E_q i_q e_q,.slice F_q j_q f_q,.bool s_r,.slice A_r n_r c_r,.slice B_r m_r d_r,.bool t_r,.slice E_r i_r e_r,.slice F_r j_r f_r,.bool s_u,.slice A_u n_u c_u,.slice B_u m_u d_u,.bool t_u,.slice E_u i_u e_u,.slice F_u j_u f_u]] w fun e w'=>e=.returned (.bool true)∧Below w.heap.size w w':=by
 have HL:Hid (decide (((n_p≤6∧m_p≤6)∧i_p≤6∧j_p≤6)∧((n_q≤6∧m_q≤6)∧i_q≤6∧j_q≤6)∧((n_r≤6∧m_r≤6)∧i_r≤6∧j_r≤6)∧((n_u≤6∧m_u≤6)∧i_u≤6∧j_u≤6))=true):=decide_eq_true h
 obtain ⟨lT,hT⟩:=told_ex ax ay bx by_ cx cy dx dy
 obtain ⟨K,hK⟩:=bl_ex lT
 have HT:=Lib.hid hT;have HK:=Lib.hid hK
 have HLN:Hid (lT.length≤1000):=Nat.le_trans (told_one hT) (by decide)
 have HLN2:Hid (lT.length≤1000000):=Nat.le_trans (told_one hT) (by decide)
 obtain ⟨R,hR⟩:∃ R:Bool,(R=true ↔ onS ax ay bx by_ cx cy):=bool_of _
 have HR:=Lib.hid hR
 have hRR:(R == R)=true:=by cases R <;> rfl
 clear h hT hK hR
 go_enter Tryz.func5,Tryz.ntmps5
 go_upto_region 1 with (fail)
 generalize hW:World.alloc _ _=W
 obtain ⟨hb,XA,hzW⟩:=mkbx46_20 hW;clear hW;replace p:=p.below hb;replace q:=q.below hb;replace r:=r.below hb;replace u:=u.below hb;have ia0:=at4_0 w.heap.size;have ia1:=at4_1 w.heap.size;have ia2:=at4_2 w.heap.size;have ia3:=at4_3 w.heap.size;obtain ⟨xa0,xa1,xa2,xa3,xa4,xa5,xa6,xa7,xa8,xa9,xa10,xa11,xa12,xa13,xa14,xa15,xa16,xa17,xa18,xa19,xa20,xa21,xa22,xa23⟩:=XA.all
 go_wp2_with fail
 generalize hW:World.alloc _ _=W2
 obtain ⟨hh,XL,hzW2⟩:=mkbx47_20 hW;clear hW;(try replace p:=p.below hh);(try replace q:=q.below hh);(try replace r:=r.below hh);(try replace u:=u.below hh);(try replace XA:=XA.below hh);replace hb:=bend hb hh;rw [hzW] at XL;clear hzW2
 go_upto_region 3 with (first
  | (go_at_call 29;(with_reducible refine (fair4 XL true HL.out).mono ?_);rintro e w_z ⟨rfl,hh⟩
     clear XL;(try replace p:=p.below hh);(try replace q:=q.below hh);(try replace r:=r.below hh);(try replace u:=u.below hh);(try replace XA:=XA.below hh);replace hb:=bend hb hh;obtain ⟨xa0,xa1,xa2,xa3,xa4,xa5,xa6,xa7,xa8,xa9,xa10,xa11,xa12,xa13,xa14,xa15,xa16,xa17,xa18,xa19,xa20,xa21,xa22,xa23⟩:=XA.all))
 have hXA0:w.heap.size < w_z.heap.size:=XA.lt
 go_wp2_with fail
 generalize hW:World.alloc _ _=W3
 obtain ⟨hh,QA,hzW3⟩:=mkbx48_20 hW;clear hW;(try replace p:=p.below hh);(try replace q:=q.below hh);(try replace r:=r.below hh);(try replace u:=u.below hh);(try replace XA:=XA.below hh);replace hb:=bend hb hh;have iy0:=at4r_0 w_z.heap.size;have iy1:=at4r_1 w_z.heap.size;have iy2:=at4r_2 w_z.heap.size;have iy3:=at4r_3 w_z.heap.size;obtain ⟨xa0,xa1,xa2,xa3,xa4,xa5,xa6,xa7,xa8,xa9,xa10,xa11,xa12,xa13,xa14,xa15,xa16,xa17,xa18,xa19,xa20,xa21,xa22,xa23⟩:=XA.all
 have hgw0:w.heap.size < w_z.heap.size:=hXA0
 generalize hgQ:w_z.heap.size=gQ at QA iy0 iy1 iy2 iy3 ⊢
 rw [hgQ] at hgw0;clear hgQ hzW3;clear hXA0
 refine wp_loop_rounds 5 ?_
 rw [rounds_succ]
 go_wp2_with (first
  | (go_at_call 31;(with_reducible refine (rin6 p (by decide) (by decide)).mono ?_);rintro e w_x ⟨s_x,A_x,n_x,c_x,B_x,m_x,d_x,t_x,E_x,i_x,e_x,F_x,j_x,f_x,rfl,x,hh⟩
     (try replace p:=p.below hh);(try replace q:=q.below hh);(try replace r:=r.below hh);(try replace u:=u.below hh);(try replace XA:=XA.below hh);(try replace QA:=QA.below hh);replace hb:=bend hb hh;have qf0:=QA.f0;have qf1:=QA.f1;have qf2:=QA.f2;have qf3:=QA.f3;have qf4:=QA.f4;have qf5:=QA.f5;obtain ⟨qc0,qc1,qc2,qc3,qc4,qc5⟩:=QA.all))
 have ho:=only24_0 w_x gQ (.bool s_x) (.slice A_x n_x c_x) (.slice B_x m_x d_x) (.bool t_x) (.slice E_x i_x e_x) (.slice F_x j_x f_x)
 have hBX:BoxAt 61 w_x gQ (pvs [(PV.mk false none 0 0 none 0 0 false none 0 0 none 0 0),(PV.mk false none 0 0 none 0 0 false none 0 0 none 0 0),(PV.mk false none 0 0 none 0 0 false none 0 0 none 0 0),(PV.mk false none 0 0 none 0 0 false none 0 0 none 0 0)]).toArray:=⟨QA,free24 _⟩
 replace p:=p.box hBX ho;replace q:=q.box hBX ho;replace r:=r.box hBX ho;replace u:=u.box hBX ho;replace x:=x.box hBX ho
 replace XA:=XA.rest (by omega) ho
 replace hb:=Below.only hb (by omega) hb.size ho
 replace QA:=QA.set0 (.bool s_x) (.slice A_x n_x c_x) (.slice B_x m_x d_x) (.bool t_x) (.slice E_x i_x e_x) (.slice F_x j_x f_x)
 clear ho hBX
 generalize hWn:((((((w_x.setCell ⟨gQ,0,none⟩ (.bool s_x)).setCell ⟨gQ,1,none⟩ (.slice A_x n_x c_x)).setCell ⟨gQ,2,none⟩ (.slice B_x m_x d_x)).setCell ⟨gQ,3,none⟩ (.bool t_x)).setCell ⟨gQ,4,none⟩ (.slice E_x i_x e_x)).setCell ⟨gQ,5,none⟩ (.slice F_x j_x f_x))=W5 at *
 clear hWn;obtain ⟨xa0,xa1,xa2,xa3,xa4,xa5,xa6,xa7,xa8,xa9,xa10,xa11,xa12,xa13,xa14,xa15,xa16,xa17,xa18,xa19,xa20,xa21,xa22,xa23⟩:=XA.all;rw [rounds_succ]
 go_wp2_with (first
  | (go_at_call 31;(with_reducible refine (rin6 q (by decide) (by decide)).mono ?_);rintro e w_y ⟨s_y,A_y,n_y,c_y,B_y,m_y,d_y,t_y,E_y,i_y,e_y,F_y,j_y,f_y,rfl,y,hh⟩
     (try replace p:=p.below hh);(try replace q:=q.below hh);(try replace r:=r.below hh);(try replace u:=u.below hh);(try replace XA:=XA.below hh);(try replace QA:=QA.below hh);(try replace x:=x.below hh);replace hb:=bend hb hh;have qf0:=QA.f6;have qf1:=QA.f7;have qf2:=QA.f8;have qf3:=QA.f9;have qf4:=QA.f10;have qf5:=QA.f11;have qc0:=QA.c6;have qc1:=QA.c7;have qc2:=QA.c8;have qc3:=QA.c9;have qc4:=QA.c10;have qc5:=QA.c11))
 have ho:=only24_1 w_y gQ (.bool s_y) (.slice A_y n_y c_y) (.slice B_y m_y d_y) (.bool t_y) (.slice E_y i_y e_y) (.slice F_y j_y f_y)
 have hBX:BoxAt 61 w_y gQ (pvs [(PV.mk s_x A_x n_x c_x B_x m_x d_x t_x E_x i_x e_x F_x j_x f_x),(PV.mk false none 0 0 none 0 0 false none 0 0 none 0 0),(PV.mk false none 0 0 none 0 0 false none 0 0 none 0 0),(PV.mk false none 0 0 none 0 0 false none 0 0 none 0 0)]).toArray:=⟨QA,free24 _⟩
 replace p:=p.box hBX ho;replace q:=q.box hBX ho;replace r:=r.box hBX ho;replace u:=u.box hBX ho;replace x:=x.box hBX ho;replace y:=y.box hBX ho
 replace XA:=XA.rest (by omega) ho
 replace hb:=Below.only hb (by omega) hb.size ho
 replace QA:=QA.set1 (.bool s_y) (.slice A_y n_y c_y) (.slice B_y m_y d_y) (.bool t_y) (.slice E_y i_y e_y) (.slice F_y j_y f_y)
 clear ho hBX
 generalize hWn:((((((w_y.setCell ⟨gQ,6,none⟩ (.bool s_y)).setCell ⟨gQ,7,none⟩ (.slice A_y n_y c_y)).setCell ⟨gQ,8,none⟩ (.slice B_y m_y d_y)).setCell ⟨gQ,9,none⟩ (.bool t_y)).setCell ⟨gQ,10,none⟩ (.slice E_y i_y e_y)).setCell ⟨gQ,11,none⟩ (.slice F_y j_y f_y))=W6 at *
 clear hWn;obtain ⟨xa0,xa1,xa2,xa3,xa4,xa5,xa6,xa7,xa8,xa9,xa10,xa11,xa12,xa13,xa14,xa15,xa16,xa17,xa18,xa19,xa20,xa21,xa22,xa23⟩:=XA.all;rw [rounds_succ]
 go_wp2_with (first
  | (go_at_call 31;(with_reducible refine (rin6 r (by decide) (by decide)).mono ?_);rintro e w_a ⟨s_a,A_a,n_a,c_a,B_a,m_a,d_a,t_a,E_a,i_a,e_a,F_a,j_a,f_a,rfl,a,hh⟩
     (try replace p:=p.below hh);(try replace q:=q.below hh);(try replace r:=r.below hh);(try replace u:=u.below hh);(try replace XA:=XA.below hh);(try replace QA:=QA.below hh);(try replace x:=x.below hh);(try replace y:=y.below hh);replace hb:=bend hb hh;have qf0:=QA.f12;have qf1:=QA.f13;have qf2:=QA.f14;have qf3:=QA.f15;have qf4:=QA.f16;have qf5:=QA.f17;have qc0:=QA.c12;have qc1:=QA.c13;have qc2:=QA.c14;have qc3:=QA.c15;have qc4:=QA.c16;have qc5:=QA.c17))
 have ho:=only24_2 w_a gQ (.bool s_a) (.slice A_a n_a c_a) (.slice B_a m_a d_a) (.bool t_a) (.slice E_a i_a e_a) (.slice F_a j_a f_a)
 have hBX:BoxAt 61 w_a gQ (pvs [(PV.mk s_x A_x n_x c_x B_x m_x d_x t_x E_x i_x e_x F_x j_x f_x),(PV.mk s_y A_y n_y c_y B_y m_y d_y t_y E_y i_y e_y F_y j_y f_y),(PV.mk false none 0 0 none 0 0 false none 0 0 none 0 0),(PV.mk false none 0 0 none 0 0 false none 0 0 none 0 0)]).toArray:=⟨QA,free24 _⟩
 replace p:=p.box hBX ho;replace q:=q.box hBX ho;replace r:=r.box hBX ho;replace u:=u.box hBX ho;replace x:=x.box hBX ho;replace y:=y.box hBX ho;replace a:=a.box hBX ho
 replace XA:=XA.rest (by omega) ho
 replace hb:=Below.only hb (by omega) hb.size ho
 replace QA:=QA.set2 (.bool s_a) (.slice A_a n_a c_a) (.slice B_a m_a d_a) (.bool t_a) (.slice E_a i_a e_a) (.slice F_a j_a f_a)
 clear ho hBX
 generalize hWn:((((((w_a.setCell ⟨gQ,12,none⟩ (.bool s_a)).setCell ⟨gQ,13,none⟩ (.slice A_a n_a c_a)).setCell ⟨gQ,14,none⟩ (.slice B_a m_a d_a)).setCell ⟨gQ,15,none⟩ (.bool t_a)).setCell ⟨gQ,16,none⟩ (.slice E_a i_a e_a)).setCell ⟨gQ,17,none⟩ (.slice F_a j_a f_a))=W7 at *
 clear hWn;obtain ⟨xa0,xa1,xa2,xa3,xa4,xa5,xa6,xa7,xa8,xa9,xa10,xa11,xa12,xa13,xa14,xa15,xa16,xa17,xa18,xa19,xa20,xa21,xa22,xa23⟩:=XA.all;rw [rounds_succ]
 go_wp2_with (first
  | (go_at_call 31;(with_reducible refine (rin6 u (by decide) (by decide)).mono ?_);rintro e w_b ⟨s_b,A_b,n_b,c_b,B_b,m_b,d_b,t_b,E_b,i_b,e_b,F_b,j_b,f_b,rfl,b,hh⟩
     (try replace p:=p.below hh);(try replace q:=q.below hh);(try replace r:=r.below hh);(try replace u:=u.below hh);(try replace XA:=XA.below hh);(try replace QA:=QA.below hh);(try replace x:=x.below hh);(try replace y:=y.below hh);(try replace a:=a.below hh);replace hb:=bend hb hh;have qf0:=QA.f18;have qf1:=QA.f19;have qf2:=QA.f20;have qf3:=QA.f21;have qf4:=QA.f22;have qf5:=QA.f23;have qc0:=QA.c18;have qc1:=QA.c19;have qc2:=QA.c20;have qc3:=QA.c21;have qc4:=QA.c22;have qc5:=QA.c23))
 have ho:=only24_3 w_b gQ (.bool s_b) (.slice A_b n_b c_b) (.slice B_b m_b d_b) (.bool t_b) (.slice E_b i_b e_b) (.slice F_b j_b f_b)
 have hBX:BoxAt 61 w_b gQ (pvs [(PV.mk s_x A_x n_x c_x B_x m_x d_x t_x E_x i_x e_x F_x j_x f_x),(PV.mk s_y A_y n_y c_y B_y m_y d_y t_y E_y i_y e_y F_y j_y f_y),(PV.mk s_a A_a n_a c_a B_a m_a d_a t_a E_a i_a e_a F_a j_a f_a),(PV.mk false none 0 0 none 0 0 false none 0 0 none 0 0)]).toArray:=⟨QA,free24 _⟩
 replace p:=p.box hBX ho;replace q:=q.box hBX ho;replace r:=r.box hBX ho;replace u:=u.box hBX ho;replace x:=x.box hBX ho;replace y:=y.box hBX ho;replace a:=a.box hBX ho;replace b:=b.box hBX ho
 replace XA:=XA.rest (by omega) ho
 replace hb:=Below.only hb (by omega) hb.size ho
 replace QA:=QA.set3 (.bool s_b) (.slice A_b n_b c_b) (.slice B_b m_b d_b) (.bool t_b) (.slice E_b i_b e_b) (.slice F_b j_b f_b)
 clear ho hBX
 generalize hWn:((((((w_b.setCell ⟨gQ,18,none⟩ (.bool s_b)).setCell ⟨gQ,19,none⟩ (.slice A_b n_b c_b)).setCell ⟨gQ,20,none⟩ (.slice B_b m_b d_b)).setCell ⟨gQ,21,none⟩ (.bool t_b)).setCell ⟨gQ,22,none⟩ (.slice E_b i_b e_b)).setCell ⟨gQ,23,none⟩ (.slice F_b j_b f_b))=W8 at *
 clear hWn;obtain ⟨xa0,xa1,xa2,xa3,xa4,xa5,xa6,xa7,xa8,xa9,xa10,xa11,xa12,xa13,xa14,xa15,xa16,xa17,xa18,xa19,xa20,xa21,xa22,xa23⟩:=XA.all;rw [rounds_succ]
 go_wp2_with fail
 replace p:=p.below (Below.refl _ _).drew
 replace q:=q.below (Below.refl _ _).drew
 replace r:=r.below (Below.refl _ _).drew
 replace u:=u.below (Below.refl _ _).drew
 replace XA:=XA.below (Below.refl _ _).drew
 replace QA:=QA.below (Below.refl _ _).drew
 replace x:=x.below (Below.refl _ _).drew
 replace y:=y.below (Below.refl _ _).drew
 replace a:=a.below (Below.refl _ _).drew
 replace b:=b.below (Below.refl _ _).drew
 replace hb:=hb.drew
 go_region_held3 (fun w'=>w'.cell? ⟨w.heap.size,0,none⟩=some (.bool s_p)∧w'.cell? ⟨w.heap.size,1,none⟩=some (.slice A_p n_p c_p)∧w'.cell? ⟨w.heap.size,2,none⟩=some (.slice B_p m_p d_p)∧w'.cell? ⟨w.heap.size,3,none⟩=some (.bool t_p)∧w'.cell? ⟨w.heap.size,4,none⟩=some (.slice E_p i_p e_p)∧w'.cell? ⟨w.heap.size,5,none⟩=some (.slice F_p j_p f_p)∧w'.cell? ⟨w.heap.size,6,none⟩=some (.bool s_q)∧w'.cell? ⟨w.heap.size,7,none⟩=some (.slice A_q n_q c_q)∧w'.cell? ⟨w.heap.size,8,none⟩=some (.slice B_q m_q d_q)∧w'.cell? ⟨w.heap.size,9,none⟩=some (.bool t_q)∧w'.cell? ⟨w.heap.size,10,none⟩=some (.slice E_q i_q e_q)∧w'.cell? ⟨w.heap.size,11,none⟩=some (.slice F_q j_q f_q)∧w'.cell? ⟨w.heap.size,12,none⟩=some (.bool s_r)∧w'.cell? ⟨w.heap.size,13,none⟩=some (.slice A_r n_r c_r)∧w'.cell? ⟨w.heap.size,14,none⟩=some (.slice B_r m_r d_r)∧w'.cell? ⟨w.heap.size,15,none⟩=some (.bool t_r)∧w'.cell? ⟨w.heap.size,16,none⟩=some (.slice E_r i_r e_r)∧w'.cell? ⟨w.heap.size,17,none⟩=some (.slice F_r j_r f_r)∧w'.cell? ⟨w.heap.size,18,none⟩=some (.bool s_u)∧w'.cell? ⟨w.heap.size,19,none⟩=some (.slice A_u n_u c_u)∧w'.cell? ⟨w.heap.size,20,none⟩=some (.slice B_u m_u d_u)∧w'.cell? ⟨w.heap.size,21,none⟩=some (.bool t_u)∧w'.cell? ⟨w.heap.size,22,none⟩=some (.slice E_u i_u e_u)∧w'.cell? ⟨w.heap.size,23,none⟩=some (.slice F_u j_u f_u)∧w'.cell? ⟨gQ,0,none⟩=some (.bool s_x)∧w'.cell? ⟨gQ,1,none⟩=some (.slice A_x n_x c_x)∧w'.cell? ⟨gQ,2,none⟩=some (.slice B_x m_x d_x)∧w'.cell? ⟨gQ,3,none⟩=some (.bool t_x)∧w'.cell? ⟨gQ,4,none⟩=some (.slice E_x i_x e_x)∧w'.cell? ⟨gQ,5,none⟩=some (.slice F_x j_x f_x)∧w'.cell? ⟨gQ,6,none⟩=some (.bool s_y)∧w'.cell? ⟨gQ,7,none⟩=some (.slice A_y n_y c_y)∧w'.cell? ⟨gQ,8,none⟩=some (.slice B_y m_y d_y)∧w'.cell? ⟨gQ,9,none⟩=some (.bool t_y)∧w'.cell? ⟨gQ,10,none⟩=some (.slice E_y i_y e_y)∧w'.cell? ⟨gQ,11,none⟩=some (.slice F_y j_y f_y)∧w'.cell? ⟨gQ,12,none⟩=some (.bool s_a)∧w'.cell? ⟨gQ,13,none⟩=some (.slice A_a n_a c_a)∧w'.cell? ⟨gQ,14,none⟩=some (.slice B_a m_a d_a)∧w'.cell? ⟨gQ,15,none⟩=some (.bool t_a)∧w'.cell? ⟨gQ,16,none⟩=some (.slice E_a i_a e_a)∧w'.cell? ⟨gQ,17,none⟩=some (.slice F_a j_a f_a)∧w'.cell? ⟨gQ,18,none⟩=some (.bool s_b)∧w'.cell? ⟨gQ,19,none⟩=some (.slice A_b n_b c_b)∧w'.cell? ⟨gQ,20,none⟩=some (.slice B_b m_b d_b)∧w'.cell? ⟨gQ,21,none⟩=some (.bool t_b)∧w'.cell? ⟨gQ,22,none⟩=some (.slice E_b i_b e_b)∧w'.cell? ⟨gQ,23,none⟩=some (.slice F_b j_b f_b))
  (first | with_reducible exact ⟨XA.c0,XA.c1,XA.c2,XA.c3,XA.c4,XA.c5,XA.c6,XA.c7,XA.c8,XA.c9,XA.c10,XA.c11,XA.c12,XA.c13,XA.c14,XA.c15,XA.c16,XA.c17,XA.c18,XA.c19,XA.c20,XA.c21,XA.c22,XA.c23,QA.c0,QA.c1,QA.c2,QA.c3,QA.c4,QA.c5,QA.c6,QA.c7,QA.c8,QA.c9,QA.c10,QA.c11,QA.c12,QA.c13,QA.c14,QA.c15,QA.c16,QA.c17,QA.c18,QA.c19,QA.c20,QA.c21,QA.c22,QA.c23⟩)
  (first
  | (go_at_call 33;(with_reducible refine (meet_p p q r u (by decide) (by decide)).mono ?_);rintro e w_m ⟨l,ht,v,L,rfl,hL,hE,hh⟩
     (try replace p:=p.below hh);(try replace q:=q.below hh);(try replace r:=r.below hh);(try replace u:=u.below hh);(try replace XA:=XA.below hh);(try replace QA:=QA.below hh);(try replace x:=x.below hh);(try replace y:=y.below hh);(try replace a:=a.below hh);(try replace b:=b.below hh);(try replace hL2:=hL2.below hh);(try replace hE2:=hE2.below hh);(try replace hL3:=hL3.below hh);(try replace hE3:=hE3.below hh);replace hb:=bend hb hh
     obtain rfl:=told_same (fun _ _=>Iff.rfl) ht HT.out
     clear ht
     replace hE:=Each.more hE (k2:=126) (by split <;> decide))
  | (go_at_call 35;(with_reducible refine (rmeet_p x y a b (by decide)).mono ?_);rintro e w_n ⟨l,ht,v2,L2,rfl,hL2,hE2,hh⟩
     (try replace p:=p.below hh);(try replace q:=q.below hh);(try replace r:=r.below hh);(try replace u:=u.below hh);(try replace XA:=XA.below hh);(try replace QA:=QA.below hh);(try replace x:=x.below hh);(try replace y:=y.below hh);(try replace a:=a.below hh);(try replace b:=b.below hh);(try replace hL:=hL.below hh);(try replace hE:=hE.below hh);(try replace hL3:=hL3.below hh);(try replace hE3:=hE3.below hh);replace hb:=bend hb hh
     obtain rfl:=told_same (fun _ _=>Iff.rfl) ht HT.out
     clear ht)
  | (go_at_call 34;(with_reducible refine (routs hL2 hE2 (by decide) HK.out HLN.out).mono ?_);rintro e w_o ⟨v3,L3,rfl,hL3,hE3,hh⟩
     (try replace p:=p.below hh);(try replace q:=q.below hh);(try replace r:=r.below hh);(try replace u:=u.below hh);(try replace XA:=XA.below hh);(try replace QA:=QA.below hh);(try replace x:=x.below hh);(try replace y:=y.below hh);(try replace a:=a.below hh);(try replace b:=b.below hh);(try replace hL:=hL.below hh);(try replace hE:=hE.below hh);replace hb:=bend hb hh;clear hL2 hE2)
  | (go_at_call 32;(with_reducible refine (lines_same hL hL3 hE hE3 (by decide) HLN2.out).mono ?_);rintro e w_z ⟨rfl,hh⟩
     (try replace p:=p.below hh);(try replace q:=q.below hh);(try replace r:=r.below hh);(try replace u:=u.below hh);(try replace XA:=XA.below hh);(try replace QA:=QA.below hh);(try replace x:=x.below hh);(try replace y:=y.below hh);(try replace a:=a.below hh);(try replace b:=b.below hh);replace hb:=bend hb hh;clear hL hL3 hE hE3)
  | (go_at_call 36;(with_reducible refine (on_p p q r (by decide) (by decide) R HR.out).mono ?_);rintro e w_z ⟨rfl,hh⟩
     (try replace p:=p.below hh);(try replace q:=q.below hh);(try replace r:=r.below hh);(try replace u:=u.below hh);(try replace XA:=XA.below hh);(try replace QA:=QA.below hh);(try replace x:=x.below hh);(try replace y:=y.below hh);(try replace a:=a.below hh);(try replace b:=b.below hh);replace hb:=bend hb hh)
  | (go_at_call 37;(with_reducible refine (ron_p x y a (by decide) (by decide) R HR.out).mono ?_);rintro e w_z ⟨rfl,hh⟩
     (try replace p:=p.below hh);(try replace q:=q.below hh);(try replace r:=r.below hh);(try replace u:=u.below hh);(try replace XA:=XA.below hh);(try replace QA:=QA.below hh);(try replace x:=x.below hh);(try replace y:=y.below hh);(try replace a:=a.below hh);(try replace b:=b.below hh);replace hb:=bend hb hh)
  | (go_at_call 30;(with_reducible refine (segwakes_any _).mono ?_);rintro e w_z ⟨rfl,hh⟩
     (try replace p:=p.below hh);(try replace q:=q.below hh);(try replace r:=r.below hh);(try replace u:=u.below hh);(try replace XA:=XA.below hh);(try replace QA:=QA.below hh);(try replace x:=x.below hh);(try replace y:=y.below hh);(try replace a:=a.below hh);(try replace b:=b.below hh);replace hb:=bend hb hh))
 go_wp2_with fail
 go_ret;exact ⟨rfl,hb⟩
theorem law_meets {lap lbp lcp ldp:List Nat} {laq lbq lcq ldq:List Nat} {lar lbr lcr ldr:List Nat} {lau lbu lcu ldu:List Nat} (ap:Rd .u64 w A_p n_p lap) (bp:Rd .u64 w B_p m_p lbp) (up:Rd .u64 w E_p i_p lcp) (vp:Rd .u64 w F_p j_p ldp) (tap:Lim B64 lap) (tbp:Lim B64 lbp) (tcp:Lim B64 lcp) (tdp:Lim B64 ldp) (cap:n_p≤c_p) (cbp:m_p≤d_p) (ccp:i_p≤e_p) (cdp:j_p≤f_p) (aq:Rd .u64 w A_q n_q laq) (bq:Rd .u64 w B_q m_q lbq) (uq:Rd .u64 w E_q i_q lcq) (vq:Rd .u64 w F_q j_q ldq) (taq:Lim B64 laq) (tbq:Lim B64 lbq) (tcq:Lim B64 lcq) (tdq:Lim B64 ldq) (caq:n_q≤c_q) (cbq:m_q≤d_q) (ccq:i_q≤e_q) (cdq:j_q≤f_q) (ar:Rd .u64 w A_r n_r lar) (br:Rd .u64 w B_r m_r lbr) (ur:Rd .u64 w E_r i_r lcr) (vr:Rd .u64 w F_r j_r ldr) (tar:Lim B64 lar) (tbr:Lim B64 lbr) (tcr:Lim B64 lcr) (tdr:Lim B64 ldr) (car:n_r≤c_r) (cbr:m_r≤d_r) (ccr:i_r≤e_r) (cdr:j_r≤f_r) (au:Rd .u64 w A_u n_u lau) (bu:Rd .u64 w B_u m_u lbu) (uu:Rd .u64 w E_u i_u lcu) (vu:Rd .u64 w F_u j_u ldu) (tau:Lim B64 lau) (tbu:Lim B64 lbu) (tcu:Lim B64 lcu) (tdu:Lim B64 ldu) (cau:n_u≤c_u) (cbu:m_u≤d_u) (ccu:i_u≤e_u) (cdu:j_u≤f_u) :
 Calls Tryz.prog 5 #[.agg #[.bool s_p,.slice A_p n_p c_p,.slice B_p m_p d_p,.bool t_p,.slice E_p i_p e_p,.slice F_p j_p f_p,.bool s_q,.slice A_q n_q c_q,.slice B_q m_q d_q,.bool t_q,.slice E_q i_q e_q,.slice F_q j_q f_q,.bool s_r,.slice A_r n_r c_r,.slice B_r m_r d_r,.bool t_r,.slice E_r i_r e_r,.slice F_r j_r f_r,.bool s_u,.slice A_u n_u c_u,.slice B_u m_u d_u,.bool t_u,.slice E_u i_u e_u,.slice F_u j_u f_u]] w fun e w'=>e=.returned (.bool true)∧Below w.heap.size w w':=by
 by_cases h:(((n_p≤6∧m_p≤6)∧i_p≤6∧j_p≤6)∧((n_q≤6∧m_q≤6)∧i_q≤6∧j_q≤6)∧((n_r≤6∧m_r≤6)∧i_r≤6∧j_r≤6)∧((n_u≤6∧m_u≤6)∧i_u≤6∧j_u≤6))
 · have p:PR w s_p A_p n_p c_p B_p m_p d_p t_p E_p i_p e_p F_p j_p f_p (mkRat (iv s_p (val B64 lap)) (den1 (val B64 lbp))) (mkRat (iv t_p (val B64 lcp)) (den1 (val B64 ldp))) 6:=⟨QR.of_rd ap tap cap bp tbp cbp h.1.1.1 h.1.1.2,QR.of_rd up tcp ccp vp tdp cdp h.1.2.1 h.1.2.2⟩
   have q:PR w s_q A_q n_q c_q B_q m_q d_q t_q E_q i_q e_q F_q j_q f_q (mkRat (iv s_q (val B64 laq)) (den1 (val B64 lbq))) (mkRat (iv t_q (val B64 lcq)) (den1 (val B64 ldq))) 6:=⟨QR.of_rd aq taq caq bq tbq cbq h.2.1.1.1 h.2.1.1.2,QR.of_rd uq tcq ccq vq tdq cdq h.2.1.2.1 h.2.1.2.2⟩
   have r:PR w s_r A_r n_r c_r B_r m_r d_r t_r E_r i_r e_r F_r j_r f_r (mkRat (iv s_r (val B64 lar)) (den1 (val B64 lbr))) (mkRat (iv t_r (val B64 lcr)) (den1 (val B64 ldr))) 6:=⟨QR.of_rd ar tar car br tbr cbr h.2.2.1.1.1 h.2.2.1.1.2,QR.of_rd ur tcr ccr vr tdr cdr h.2.2.1.2.1 h.2.2.1.2.2⟩
   have u:PR w s_u A_u n_u c_u B_u m_u d_u t_u E_u i_u e_u F_u j_u f_u (mkRat (iv s_u (val B64 lau)) (den1 (val B64 lbu))) (mkRat (iv t_u (val B64 lcu)) (den1 (val B64 ldu))) 6:=⟨QR.of_rd au tau cau bu tbu cbu h.2.2.2.1.1 h.2.2.2.1.2,QR.of_rd uu tcu ccu vu tdu cdu h.2.2.2.2.1 h.2.2.2.2.2⟩
   generalize mkRat (iv s_p (val B64 lap)) (den1 (val B64 lbp))=ax at p
   generalize mkRat (iv t_p (val B64 lcp)) (den1 (val B64 ldp))=ay at p
   generalize mkRat (iv s_q (val B64 laq)) (den1 (val B64 lbq))=bx at q
   generalize mkRat (iv t_q (val B64 lcq)) (den1 (val B64 ldq))=by_ at q
   generalize mkRat (iv s_r (val B64 lar)) (den1 (val B64 lbr))=cx at r
   generalize mkRat (iv t_r (val B64 lcr)) (den1 (val B64 ldr))=cy at r
   generalize mkRat (iv s_u (val B64 lau)) (den1 (val B64 lbu))=dx at u
   generalize mkRat (iv t_u (val B64 lcu)) (den1 (val B64 ldu))=dy at u
   exact meets_s p q r u h
 · exact meets_l h
end
end Go.Proofs.YtmgklaklnaihpaaGreat
