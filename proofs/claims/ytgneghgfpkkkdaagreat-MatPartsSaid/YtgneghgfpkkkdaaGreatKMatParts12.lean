/- MatParts: part 12. -/
import Derived.Test.YtgneghgfpkkkdaaGreatKMatParts7
import Derived.Test.YtgneghgfpkkkdaaGreatKMatParts8
import Derived.Test.YtgneghgfpkkkdaaGreatKMatParts9
import Derived.Test.YtgneghgfpkkkdaaGreatKMatParts10
import Derived.Test.YtgneghgfpkkkdaaGreatKMatParts11
set_option linter.unusedVariables false
set_option maxRecDepth 100000
set_option maxHeartbeats 16000000
variable {w:Go.World}
variable {s_p t_p:Bool} {A_p B_p E_p F_p:Option Go.Addr} {n_p c_p m_p d_p i_p e_p j_p f_p:Nat}
variable {s_q t_q:Bool} {A_q B_q E_q F_q:Option Go.Addr} {n_q c_q m_q d_q i_q e_q j_q f_q:Nat}
variable {s_r t_r:Bool} {A_r B_r E_r F_r:Option Go.Addr} {n_r c_r m_r d_r i_r e_r j_r f_r:Nat}
namespace Go.Proofs.YtgneghgfpkkkdaaGreat
section
open Go Go.RowKit
structure MV where
 a:QV
 b:QV
 c:QV
 d:QV
 e:QV
 f:QV
structure AM where
 a:Rat
 b:Rat
 c:Rat
 d:Rat
 e:Rat
 f:Rat
def AM.ax (m:AM) (x y:Rat):Rat:=m.a*x+m.c*y+m.e
def AM.ay (m:AM) (x y:Rat):Rat:=m.b*x+m.d*y+m.f
def AM.dx (m:AM) (x y:Rat):Rat:=m.a*x+m.c*y
def AM.dy (m:AM) (x y:Rat):Rat:=m.b*x+m.d*y
def AM.mul (m n:AM):AM:=⟨m.dx n.a n.b,m.dy n.a n.b,m.dx n.c n.d,m.dy n.c n.d,m.ax n.e n.f,m.ay n.e n.f⟩
def AM.det (m:AM):Rat:=m.a*m.d - m.b*m.c
def B18 (W:World) (g:Nat) (v0 v1 v2 v3 v4 v5 v6 v7 v8 v9 v10 v11 v12 v13 v14 v15 v16 v17:Value):Prop:=W.heap[g]?=some (.cells #[v0,v1,v2,v3,v4,v5,v6,v7,v8,v9,v10,v11,v12,v13,v14,v15,v16,v17] 71 (0,0))
section
variable {W W':World} {g:Nat} {v0 v1 v2 v3 v4 v5 v6 v7 v8 v9 v10 v11 v12 v13 v14 v15 v16 v17:Value}
theorem B18.c0 (h:B18 W g v0 v1 v2 v3 v4 v5 v6 v7 v8 v9 v10 v11 v12 v13 v14 v15 v16 v17):W.cell? ⟨g,0,none⟩=some v0:=by rw [cell_of_row W g 0 _ _ (0,0) h];rfl
theorem B18.c1 (h:B18 W g v0 v1 v2 v3 v4 v5 v6 v7 v8 v9 v10 v11 v12 v13 v14 v15 v16 v17):W.cell? ⟨g,1,none⟩=some v1:=by rw [cell_of_row W g 1 _ _ (0,0) h];rfl
theorem B18.c2 (h:B18 W g v0 v1 v2 v3 v4 v5 v6 v7 v8 v9 v10 v11 v12 v13 v14 v15 v16 v17):W.cell? ⟨g,2,none⟩=some v2:=by rw [cell_of_row W g 2 _ _ (0,0) h];rfl
theorem B18.c3 (h:B18 W g v0 v1 v2 v3 v4 v5 v6 v7 v8 v9 v10 v11 v12 v13 v14 v15 v16 v17):W.cell? ⟨g,3,none⟩=some v3:=by rw [cell_of_row W g 3 _ _ (0,0) h];rfl
theorem B18.c4 (h:B18 W g v0 v1 v2 v3 v4 v5 v6 v7 v8 v9 v10 v11 v12 v13 v14 v15 v16 v17):W.cell? ⟨g,4,none⟩=some v4:=by rw [cell_of_row W g 4 _ _ (0,0) h];rfl
theorem B18.c5 (h:B18 W g v0 v1 v2 v3 v4 v5 v6 v7 v8 v9 v10 v11 v12 v13 v14 v15 v16 v17):W.cell? ⟨g,5,none⟩=some v5:=by rw [cell_of_row W g 5 _ _ (0,0) h];rfl
theorem B18.c6 (h:B18 W g v0 v1 v2 v3 v4 v5 v6 v7 v8 v9 v10 v11 v12 v13 v14 v15 v16 v17):W.cell? ⟨g,6,none⟩=some v6:=by rw [cell_of_row W g 6 _ _ (0,0) h];rfl
theorem B18.c7 (h:B18 W g v0 v1 v2 v3 v4 v5 v6 v7 v8 v9 v10 v11 v12 v13 v14 v15 v16 v17):W.cell? ⟨g,7,none⟩=some v7:=by rw [cell_of_row W g 7 _ _ (0,0) h];rfl
theorem B18.c8 (h:B18 W g v0 v1 v2 v3 v4 v5 v6 v7 v8 v9 v10 v11 v12 v13 v14 v15 v16 v17):W.cell? ⟨g,8,none⟩=some v8:=by rw [cell_of_row W g 8 _ _ (0,0) h];rfl
theorem B18.c9 (h:B18 W g v0 v1 v2 v3 v4 v5 v6 v7 v8 v9 v10 v11 v12 v13 v14 v15 v16 v17):W.cell? ⟨g,9,none⟩=some v9:=by rw [cell_of_row W g 9 _ _ (0,0) h];rfl
theorem B18.c10 (h:B18 W g v0 v1 v2 v3 v4 v5 v6 v7 v8 v9 v10 v11 v12 v13 v14 v15 v16 v17):W.cell? ⟨g,10,none⟩=some v10:=by rw [cell_of_row W g 10 _ _ (0,0) h];rfl
theorem B18.c11 (h:B18 W g v0 v1 v2 v3 v4 v5 v6 v7 v8 v9 v10 v11 v12 v13 v14 v15 v16 v17):W.cell? ⟨g,11,none⟩=some v11:=by rw [cell_of_row W g 11 _ _ (0,0) h];rfl
theorem B18.c12 (h:B18 W g v0 v1 v2 v3 v4 v5 v6 v7 v8 v9 v10 v11 v12 v13 v14 v15 v16 v17):W.cell? ⟨g,12,none⟩=some v12:=by rw [cell_of_row W g 12 _ _ (0,0) h];rfl
theorem B18.c13 (h:B18 W g v0 v1 v2 v3 v4 v5 v6 v7 v8 v9 v10 v11 v12 v13 v14 v15 v16 v17):W.cell? ⟨g,13,none⟩=some v13:=by rw [cell_of_row W g 13 _ _ (0,0) h];rfl
theorem B18.c14 (h:B18 W g v0 v1 v2 v3 v4 v5 v6 v7 v8 v9 v10 v11 v12 v13 v14 v15 v16 v17):W.cell? ⟨g,14,none⟩=some v14:=by rw [cell_of_row W g 14 _ _ (0,0) h];rfl
theorem B18.c15 (h:B18 W g v0 v1 v2 v3 v4 v5 v6 v7 v8 v9 v10 v11 v12 v13 v14 v15 v16 v17):W.cell? ⟨g,15,none⟩=some v15:=by rw [cell_of_row W g 15 _ _ (0,0) h];rfl
theorem B18.c16 (h:B18 W g v0 v1 v2 v3 v4 v5 v6 v7 v8 v9 v10 v11 v12 v13 v14 v15 v16 v17):W.cell? ⟨g,16,none⟩=some v16:=by rw [cell_of_row W g 16 _ _ (0,0) h];rfl
theorem B18.c17 (h:B18 W g v0 v1 v2 v3 v4 v5 v6 v7 v8 v9 v10 v11 v12 v13 v14 v15 v16 v17):W.cell? ⟨g,17,none⟩=some v17:=by rw [cell_of_row W g 17 _ _ (0,0) h];rfl
theorem B18.all (h:B18 W g v0 v1 v2 v3 v4 v5 v6 v7 v8 v9 v10 v11 v12 v13 v14 v15 v16 v17):W.cell? ⟨g,0,none⟩=some v0∧W.cell? ⟨g,1,none⟩=some v1∧W.cell? ⟨g,2,none⟩=some v2∧W.cell? ⟨g,3,none⟩=some v3∧W.cell? ⟨g,4,none⟩=some v4∧W.cell? ⟨g,5,none⟩=some v5∧W.cell? ⟨g,6,none⟩=some v6∧W.cell? ⟨g,7,none⟩=some v7∧W.cell? ⟨g,8,none⟩=some v8∧W.cell? ⟨g,9,none⟩=some v9∧W.cell? ⟨g,10,none⟩=some v10∧W.cell? ⟨g,11,none⟩=some v11∧W.cell? ⟨g,12,none⟩=some v12∧W.cell? ⟨g,13,none⟩=some v13∧W.cell? ⟨g,14,none⟩=some v14∧W.cell? ⟨g,15,none⟩=some v15∧W.cell? ⟨g,16,none⟩=some v16∧W.cell? ⟨g,17,none⟩=some v17:=⟨h.c0,h.c1,h.c2,h.c3,h.c4,h.c5,h.c6,h.c7,h.c8,h.c9,h.c10,h.c11,h.c12,h.c13,h.c14,h.c15,h.c16,h.c17⟩
theorem B18.f0 (h:B18 W g v0 v1 v2 v3 v4 v5 v6 v7 v8 v9 v10 v11 v12 v13 v14 v15 v16 v17):W.frozen? ⟨g,0,none⟩=false:=frozen_of_row W g 0 _ _ h
theorem B18.f1 (h:B18 W g v0 v1 v2 v3 v4 v5 v6 v7 v8 v9 v10 v11 v12 v13 v14 v15 v16 v17):W.frozen? ⟨g,1,none⟩=false:=frozen_of_row W g 1 _ _ h
theorem B18.f2 (h:B18 W g v0 v1 v2 v3 v4 v5 v6 v7 v8 v9 v10 v11 v12 v13 v14 v15 v16 v17):W.frozen? ⟨g,2,none⟩=false:=frozen_of_row W g 2 _ _ h
theorem B18.f3 (h:B18 W g v0 v1 v2 v3 v4 v5 v6 v7 v8 v9 v10 v11 v12 v13 v14 v15 v16 v17):W.frozen? ⟨g,3,none⟩=false:=frozen_of_row W g 3 _ _ h
theorem B18.f4 (h:B18 W g v0 v1 v2 v3 v4 v5 v6 v7 v8 v9 v10 v11 v12 v13 v14 v15 v16 v17):W.frozen? ⟨g,4,none⟩=false:=frozen_of_row W g 4 _ _ h
theorem B18.f5 (h:B18 W g v0 v1 v2 v3 v4 v5 v6 v7 v8 v9 v10 v11 v12 v13 v14 v15 v16 v17):W.frozen? ⟨g,5,none⟩=false:=frozen_of_row W g 5 _ _ h
theorem B18.f6 (h:B18 W g v0 v1 v2 v3 v4 v5 v6 v7 v8 v9 v10 v11 v12 v13 v14 v15 v16 v17):W.frozen? ⟨g,6,none⟩=false:=frozen_of_row W g 6 _ _ h
theorem B18.f7 (h:B18 W g v0 v1 v2 v3 v4 v5 v6 v7 v8 v9 v10 v11 v12 v13 v14 v15 v16 v17):W.frozen? ⟨g,7,none⟩=false:=frozen_of_row W g 7 _ _ h
theorem B18.f8 (h:B18 W g v0 v1 v2 v3 v4 v5 v6 v7 v8 v9 v10 v11 v12 v13 v14 v15 v16 v17):W.frozen? ⟨g,8,none⟩=false:=frozen_of_row W g 8 _ _ h
theorem B18.f9 (h:B18 W g v0 v1 v2 v3 v4 v5 v6 v7 v8 v9 v10 v11 v12 v13 v14 v15 v16 v17):W.frozen? ⟨g,9,none⟩=false:=frozen_of_row W g 9 _ _ h
theorem B18.f10 (h:B18 W g v0 v1 v2 v3 v4 v5 v6 v7 v8 v9 v10 v11 v12 v13 v14 v15 v16 v17):W.frozen? ⟨g,10,none⟩=false:=frozen_of_row W g 10 _ _ h
theorem B18.f11 (h:B18 W g v0 v1 v2 v3 v4 v5 v6 v7 v8 v9 v10 v11 v12 v13 v14 v15 v16 v17):W.frozen? ⟨g,11,none⟩=false:=frozen_of_row W g 11 _ _ h
theorem B18.f12 (h:B18 W g v0 v1 v2 v3 v4 v5 v6 v7 v8 v9 v10 v11 v12 v13 v14 v15 v16 v17):W.frozen? ⟨g,12,none⟩=false:=frozen_of_row W g 12 _ _ h
theorem B18.f13 (h:B18 W g v0 v1 v2 v3 v4 v5 v6 v7 v8 v9 v10 v11 v12 v13 v14 v15 v16 v17):W.frozen? ⟨g,13,none⟩=false:=frozen_of_row W g 13 _ _ h
theorem B18.f14 (h:B18 W g v0 v1 v2 v3 v4 v5 v6 v7 v8 v9 v10 v11 v12 v13 v14 v15 v16 v17):W.frozen? ⟨g,14,none⟩=false:=frozen_of_row W g 14 _ _ h
theorem B18.f15 (h:B18 W g v0 v1 v2 v3 v4 v5 v6 v7 v8 v9 v10 v11 v12 v13 v14 v15 v16 v17):W.frozen? ⟨g,15,none⟩=false:=frozen_of_row W g 15 _ _ h
theorem B18.f16 (h:B18 W g v0 v1 v2 v3 v4 v5 v6 v7 v8 v9 v10 v11 v12 v13 v14 v15 v16 v17):W.frozen? ⟨g,16,none⟩=false:=frozen_of_row W g 16 _ _ h
theorem B18.f17 (h:B18 W g v0 v1 v2 v3 v4 v5 v6 v7 v8 v9 v10 v11 v12 v13 v14 v15 v16 v17):W.frozen? ⟨g,17,none⟩=false:=frozen_of_row W g 17 _ _ h
theorem B18.lt (h:B18 W g v0 v1 v2 v3 v4 v5 v6 v7 v8 v9 v10 v11 v12 v13 v14 v15 v16 v17):g < W.heap.size:=World.block_lt_of_cell? W _ h.c0
theorem B18.below (h:B18 W g v0 v1 v2 v3 v4 v5 v6 v7 v8 v9 v10 v11 v12 v13 v14 v15 v16 v17) (hb:Below W.heap.size W W'):B18 W' g v0 v1 v2 v3 v4 v5 v6 v7 v8 v9 v10 v11 v12 v13 v14 v15 v16 v17:=(hb.block g h.lt).trans h
theorem B18.alloc (h:B18 W g v0 v1 v2 v3 v4 v5 v6 v7 v8 v9 v10 v11 v12 v13 v14 v15 v16 v17) (o:Obj):B18 (W.alloc o) g v0 v1 v2 v3 v4 v5 v6 v7 v8 v9 v10 v11 v12 v13 v14 v15 v16 v17:=(Below.heap_alloc W o g h.lt).trans h
theorem B18.new' (W:World) (v0 v1 v2 v3 v4 v5 v6 v7 v8 v9 v10 v11 v12 v13 v14 v15 v16 v17:Value) (g:Nat) (hg:g=W.heap.size):B18 (W.alloc (.cells #[v0,v1,v2,v3,v4,v5,v6,v7,v8,v9,v10,v11,v12,v13,v14,v15,v16,v17] 71)) g v0 v1 v2 v3 v4 v5 v6 v7 v8 v9 v10 v11 v12 v13 v14 v15 v16 v17:=by subst hg;exact heap_alloc_new W _
theorem B18.set18 (h:B18 W g v0 v1 v2 v3 v4 v5 v6 v7 v8 v9 v10 v11 v12 v13 v14 v15 v16 v17) (a0 a1 a2 a3 a4 a5 a6 a7 a8 a9 a10 a11 a12 a13 a14 a15 a16 a17:Value):B18 ((((((((((((((((((W.setCell ⟨g,0,none⟩ a0).setCell ⟨g,1,none⟩ a1).setCell ⟨g,2,none⟩ a2).setCell ⟨g,3,none⟩ a3).setCell ⟨g,4,none⟩ a4).setCell ⟨g,5,none⟩ a5).setCell ⟨g,6,none⟩ a6).setCell ⟨g,7,none⟩ a7).setCell ⟨g,8,none⟩ a8).setCell ⟨g,9,none⟩ a9).setCell ⟨g,10,none⟩ a10).setCell ⟨g,11,none⟩ a11).setCell ⟨g,12,none⟩ a12).setCell ⟨g,13,none⟩ a13).setCell ⟨g,14,none⟩ a14).setCell ⟨g,15,none⟩ a15).setCell ⟨g,16,none⟩ a16).setCell ⟨g,17,none⟩ a17) g a0 a1 a2 a3 a4 a5 a6 a7 a8 a9 a10 a11 a12 a13 a14 a15 a16 a17:=by
 unfold B18 at h ⊢
 have h0:=heap_setCell_same _ g 0 _ _ a0 h
 simp only [List.setIfInBounds_toArray,List.set_cons_zero] at h0
 have h1:=heap_setCell_same _ g 1 _ _ a1 h0
 simp only [List.setIfInBounds_toArray,List.set_cons_zero,List.set_cons_succ] at h1
 have h2:=heap_setCell_same _ g 2 _ _ a2 h1
 simp only [List.setIfInBounds_toArray,List.set_cons_zero,List.set_cons_succ] at h2
 have h3:=heap_setCell_same _ g 3 _ _ a3 h2
 simp only [List.setIfInBounds_toArray,List.set_cons_zero,List.set_cons_succ] at h3
 have h4:=heap_setCell_same _ g 4 _ _ a4 h3
 simp only [List.setIfInBounds_toArray,List.set_cons_zero,List.set_cons_succ] at h4
 have h5:=heap_setCell_same _ g 5 _ _ a5 h4
 simp only [List.setIfInBounds_toArray,List.set_cons_zero,List.set_cons_succ] at h5
 have h6:=heap_setCell_same _ g 6 _ _ a6 h5
 simp only [List.setIfInBounds_toArray,List.set_cons_zero,List.set_cons_succ] at h6
 have h7:=heap_setCell_same _ g 7 _ _ a7 h6
 simp only [List.setIfInBounds_toArray,List.set_cons_zero,List.set_cons_succ] at h7
 have h8:=heap_setCell_same _ g 8 _ _ a8 h7
 simp only [List.setIfInBounds_toArray,List.set_cons_zero,List.set_cons_succ] at h8
 have h9:=heap_setCell_same _ g 9 _ _ a9 h8
 simp only [List.setIfInBounds_toArray,List.set_cons_zero,List.set_cons_succ] at h9
 have h10:=heap_setCell_same _ g 10 _ _ a10 h9
 simp only [List.setIfInBounds_toArray,List.set_cons_zero,List.set_cons_succ] at h10
 have h11:=heap_setCell_same _ g 11 _ _ a11 h10
 simp only [List.setIfInBounds_toArray,List.set_cons_zero,List.set_cons_succ] at h11
 have h12:=heap_setCell_same _ g 12 _ _ a12 h11
 simp only [List.setIfInBounds_toArray,List.set_cons_zero,List.set_cons_succ] at h12
 have h13:=heap_setCell_same _ g 13 _ _ a13 h12
 simp only [List.setIfInBounds_toArray,List.set_cons_zero,List.set_cons_succ] at h13
 have h14:=heap_setCell_same _ g 14 _ _ a14 h13
 simp only [List.setIfInBounds_toArray,List.set_cons_zero,List.set_cons_succ] at h14
 have h15:=heap_setCell_same _ g 15 _ _ a15 h14
 simp only [List.setIfInBounds_toArray,List.set_cons_zero,List.set_cons_succ] at h15
 have h16:=heap_setCell_same _ g 16 _ _ a16 h15
 simp only [List.setIfInBounds_toArray,List.set_cons_zero,List.set_cons_succ] at h16
 have h17:=heap_setCell_same _ g 17 _ _ a17 h16
 simp only [List.setIfInBounds_toArray,List.set_cons_zero,List.set_cons_succ] at h17
 exact h17
theorem B18.restm {k:Nat} (h:B18 W g v0 v1 v2 v3 v4 v5 v6 v7 v8 v9 v10 v11 v12 v13 v14 v15 v16 v17) (hne:g ≠ k) (ho:Only k W W'):B18 W' g v0 v1 v2 v3 v4 v5 v6 v7 v8 v9 v10 v11 v12 v13 v14 v15 v16 v17:=(ho.block g h.lt hne).trans h
def LVM (a:Addr):Sem Value:=loadVar 71 a
theorem open_LVM (a:Addr):loadVar 71 a=LVM a:=rfl
def STM (a:Addr) (v:Value):Sem Unit:=storeVar 71 a v
theorem open_STM (a:Addr) (v:Value):storeVar 71 a v=STM a v:=rfl
theorem B18.ld (h:B18 W g v0 v1 v2 v3 v4 v5 v6 v7 v8 v9 v10 v11 v12 v13 v14 v15 v16 v17):(LVM ⟨g,0,none⟩).run Tryz.prog W=.ok (.agg #[v0,v1,v2,v3,v4,v5,v6,v7,v8,v9,v10,v11,v12,v13,v14,v15,v16,v17]) W :=
 run_loadVar_row W g _ _ _ (0,0) _ h Tryz.underlying71 rfl (by kernel_rfl)
theorem B18.st (h:B18 W g v0 v1 v2 v3 v4 v5 v6 v7 v8 v9 v10 v11 v12 v13 v14 v15 v16 v17) (a0 a1 a2 a3 a4 a5 a6 a7 a8 a9 a10 a11 a12 a13 a14 a15 a16 a17:Value) (h1:∀ v ∈ [a0,a1,a2,a3,a4,a5,a6,a7,a8,a9,a10,a11,a12,a13,a14,a15,a16,a17],v.oneCell'=true):(STM ⟨g,0,none⟩ (.agg #[a0,a1,a2,a3,a4,a5,a6,a7,a8,a9,a10,a11,a12,a13,a14,a15,a16,a17])).run Tryz.prog W=.ok () ((((((((((((((((((W.setCell ⟨g,0,none⟩ a0).setCell ⟨g,1,none⟩ a1).setCell ⟨g,2,none⟩ a2).setCell ⟨g,3,none⟩ a3).setCell ⟨g,4,none⟩ a4).setCell ⟨g,5,none⟩ a5).setCell ⟨g,6,none⟩ a6).setCell ⟨g,7,none⟩ a7).setCell ⟨g,8,none⟩ a8).setCell ⟨g,9,none⟩ a9).setCell ⟨g,10,none⟩ a10).setCell ⟨g,11,none⟩ a11).setCell ⟨g,12,none⟩ a12).setCell ⟨g,13,none⟩ a13).setCell ⟨g,14,none⟩ a14).setCell ⟨g,15,none⟩ a15).setCell ⟨g,16,none⟩ a16).setCell ⟨g,17,none⟩ a17):=by
 have hc:(storeCells ⟨g,0,none⟩ [a0,a1,a2,a3,a4,a5,a6,a7,a8,a9,a10,a11,a12,a13,a14,a15,a16,a17] 0).run Tryz.prog W=.ok () ((((((((((((((((((W.setCell ⟨g,0,none⟩ a0).setCell ⟨g,1,none⟩ a1).setCell ⟨g,2,none⟩ a2).setCell ⟨g,3,none⟩ a3).setCell ⟨g,4,none⟩ a4).setCell ⟨g,5,none⟩ a5).setCell ⟨g,6,none⟩ a6).setCell ⟨g,7,none⟩ a7).setCell ⟨g,8,none⟩ a8).setCell ⟨g,9,none⟩ a9).setCell ⟨g,10,none⟩ a10).setCell ⟨g,11,none⟩ a11).setCell ⟨g,12,none⟩ a12).setCell ⟨g,13,none⟩ a13).setCell ⟨g,14,none⟩ a14).setCell ⟨g,15,none⟩ a15).setCell ⟨g,16,none⟩ a16).setCell ⟨g,17,none⟩ a17) :=
  run_storeCells_cells g 0 [a0,a1,a2,a3,a4,a5,a6,a7,a8,a9,a10,a11,a12,a13,a14,a15,a16,a17] 0 W (fun j hj=>by rw [cell_of_row W g _ _ _ (0,0) h];simp only [List.length_cons,List.length_nil] at hj;simp;omega) (fun j _=>frozen_of_row W g _ _ _ h) h1
 have hz:(sizeOf 71).run Tryz.prog W=.ok 18 W:=by
  have hi:(Tryz.prog.info? 71).map (·.size)=some 18:=by kernel_rfl
  cases hq:Tryz.prog.info? 71 with
  | none=>simp [hq] at hi
  | some i=>simp [hq] at hi;simp [sizeOf,typeInfo,hq,hi]
 unfold STM storeVar
 simp only [Sem.run_bind,hz,Result.andThen_ok]
 exact hc
end
def B18R (W:World) (g:Nat) (v0 v1 v2 v3 v4 v5 v6 v7 v8 v9 v10 v11 v12 v13 v14 v15 v16 v17:Value):Prop:=W.heap[g]?=some (.cells #[v0,v1,v2,v3,v4,v5,v6,v7,v8,v9,v10,v11,v12,v13,v14,v15,v16,v17] 74 (0,0))
section
variable {W W':World} {g:Nat} {v0 v1 v2 v3 v4 v5 v6 v7 v8 v9 v10 v11 v12 v13 v14 v15 v16 v17:Value}
theorem B18R.c0 (h:B18R W g v0 v1 v2 v3 v4 v5 v6 v7 v8 v9 v10 v11 v12 v13 v14 v15 v16 v17):W.cell? ⟨g,0,none⟩=some v0:=by rw [cell_of_row W g 0 _ _ (0,0) h];rfl
theorem B18R.c1 (h:B18R W g v0 v1 v2 v3 v4 v5 v6 v7 v8 v9 v10 v11 v12 v13 v14 v15 v16 v17):W.cell? ⟨g,1,none⟩=some v1:=by rw [cell_of_row W g 1 _ _ (0,0) h];rfl
theorem B18R.c2 (h:B18R W g v0 v1 v2 v3 v4 v5 v6 v7 v8 v9 v10 v11 v12 v13 v14 v15 v16 v17):W.cell? ⟨g,2,none⟩=some v2:=by rw [cell_of_row W g 2 _ _ (0,0) h];rfl
theorem B18R.c3 (h:B18R W g v0 v1 v2 v3 v4 v5 v6 v7 v8 v9 v10 v11 v12 v13 v14 v15 v16 v17):W.cell? ⟨g,3,none⟩=some v3:=by rw [cell_of_row W g 3 _ _ (0,0) h];rfl
theorem B18R.c4 (h:B18R W g v0 v1 v2 v3 v4 v5 v6 v7 v8 v9 v10 v11 v12 v13 v14 v15 v16 v17):W.cell? ⟨g,4,none⟩=some v4:=by rw [cell_of_row W g 4 _ _ (0,0) h];rfl
theorem B18R.c5 (h:B18R W g v0 v1 v2 v3 v4 v5 v6 v7 v8 v9 v10 v11 v12 v13 v14 v15 v16 v17):W.cell? ⟨g,5,none⟩=some v5:=by rw [cell_of_row W g 5 _ _ (0,0) h];rfl
theorem B18R.c6 (h:B18R W g v0 v1 v2 v3 v4 v5 v6 v7 v8 v9 v10 v11 v12 v13 v14 v15 v16 v17):W.cell? ⟨g,6,none⟩=some v6:=by rw [cell_of_row W g 6 _ _ (0,0) h];rfl
theorem B18R.c7 (h:B18R W g v0 v1 v2 v3 v4 v5 v6 v7 v8 v9 v10 v11 v12 v13 v14 v15 v16 v17):W.cell? ⟨g,7,none⟩=some v7:=by rw [cell_of_row W g 7 _ _ (0,0) h];rfl
theorem B18R.c8 (h:B18R W g v0 v1 v2 v3 v4 v5 v6 v7 v8 v9 v10 v11 v12 v13 v14 v15 v16 v17):W.cell? ⟨g,8,none⟩=some v8:=by rw [cell_of_row W g 8 _ _ (0,0) h];rfl
theorem B18R.c9 (h:B18R W g v0 v1 v2 v3 v4 v5 v6 v7 v8 v9 v10 v11 v12 v13 v14 v15 v16 v17):W.cell? ⟨g,9,none⟩=some v9:=by rw [cell_of_row W g 9 _ _ (0,0) h];rfl
theorem B18R.c10 (h:B18R W g v0 v1 v2 v3 v4 v5 v6 v7 v8 v9 v10 v11 v12 v13 v14 v15 v16 v17):W.cell? ⟨g,10,none⟩=some v10:=by rw [cell_of_row W g 10 _ _ (0,0) h];rfl
theorem B18R.c11 (h:B18R W g v0 v1 v2 v3 v4 v5 v6 v7 v8 v9 v10 v11 v12 v13 v14 v15 v16 v17):W.cell? ⟨g,11,none⟩=some v11:=by rw [cell_of_row W g 11 _ _ (0,0) h];rfl
theorem B18R.c12 (h:B18R W g v0 v1 v2 v3 v4 v5 v6 v7 v8 v9 v10 v11 v12 v13 v14 v15 v16 v17):W.cell? ⟨g,12,none⟩=some v12:=by rw [cell_of_row W g 12 _ _ (0,0) h];rfl
theorem B18R.c13 (h:B18R W g v0 v1 v2 v3 v4 v5 v6 v7 v8 v9 v10 v11 v12 v13 v14 v15 v16 v17):W.cell? ⟨g,13,none⟩=some v13:=by rw [cell_of_row W g 13 _ _ (0,0) h];rfl
theorem B18R.c14 (h:B18R W g v0 v1 v2 v3 v4 v5 v6 v7 v8 v9 v10 v11 v12 v13 v14 v15 v16 v17):W.cell? ⟨g,14,none⟩=some v14:=by rw [cell_of_row W g 14 _ _ (0,0) h];rfl
theorem B18R.c15 (h:B18R W g v0 v1 v2 v3 v4 v5 v6 v7 v8 v9 v10 v11 v12 v13 v14 v15 v16 v17):W.cell? ⟨g,15,none⟩=some v15:=by rw [cell_of_row W g 15 _ _ (0,0) h];rfl
theorem B18R.c16 (h:B18R W g v0 v1 v2 v3 v4 v5 v6 v7 v8 v9 v10 v11 v12 v13 v14 v15 v16 v17):W.cell? ⟨g,16,none⟩=some v16:=by rw [cell_of_row W g 16 _ _ (0,0) h];rfl
theorem B18R.c17 (h:B18R W g v0 v1 v2 v3 v4 v5 v6 v7 v8 v9 v10 v11 v12 v13 v14 v15 v16 v17):W.cell? ⟨g,17,none⟩=some v17:=by rw [cell_of_row W g 17 _ _ (0,0) h];rfl
theorem B18R.all (h:B18R W g v0 v1 v2 v3 v4 v5 v6 v7 v8 v9 v10 v11 v12 v13 v14 v15 v16 v17):W.cell? ⟨g,0,none⟩=some v0∧W.cell? ⟨g,1,none⟩=some v1∧W.cell? ⟨g,2,none⟩=some v2∧W.cell? ⟨g,3,none⟩=some v3∧W.cell? ⟨g,4,none⟩=some v4∧W.cell? ⟨g,5,none⟩=some v5∧W.cell? ⟨g,6,none⟩=some v6∧W.cell? ⟨g,7,none⟩=some v7∧W.cell? ⟨g,8,none⟩=some v8∧W.cell? ⟨g,9,none⟩=some v9∧W.cell? ⟨g,10,none⟩=some v10∧W.cell? ⟨g,11,none⟩=some v11∧W.cell? ⟨g,12,none⟩=some v12∧W.cell? ⟨g,13,none⟩=some v13∧W.cell? ⟨g,14,none⟩=some v14∧W.cell? ⟨g,15,none⟩=some v15∧W.cell? ⟨g,16,none⟩=some v16∧W.cell? ⟨g,17,none⟩=some v17:=⟨h.c0,h.c1,h.c2,h.c3,h.c4,h.c5,h.c6,h.c7,h.c8,h.c9,h.c10,h.c11,h.c12,h.c13,h.c14,h.c15,h.c16,h.c17⟩
theorem B18R.f0 (h:B18R W g v0 v1 v2 v3 v4 v5 v6 v7 v8 v9 v10 v11 v12 v13 v14 v15 v16 v17):W.frozen? ⟨g,0,none⟩=false:=frozen_of_row W g 0 _ _ h
theorem B18R.f1 (h:B18R W g v0 v1 v2 v3 v4 v5 v6 v7 v8 v9 v10 v11 v12 v13 v14 v15 v16 v17):W.frozen? ⟨g,1,none⟩=false:=frozen_of_row W g 1 _ _ h
theorem B18R.f2 (h:B18R W g v0 v1 v2 v3 v4 v5 v6 v7 v8 v9 v10 v11 v12 v13 v14 v15 v16 v17):W.frozen? ⟨g,2,none⟩=false:=frozen_of_row W g 2 _ _ h
theorem B18R.f3 (h:B18R W g v0 v1 v2 v3 v4 v5 v6 v7 v8 v9 v10 v11 v12 v13 v14 v15 v16 v17):W.frozen? ⟨g,3,none⟩=false:=frozen_of_row W g 3 _ _ h
theorem B18R.f4 (h:B18R W g v0 v1 v2 v3 v4 v5 v6 v7 v8 v9 v10 v11 v12 v13 v14 v15 v16 v17):W.frozen? ⟨g,4,none⟩=false:=frozen_of_row W g 4 _ _ h
theorem B18R.f5 (h:B18R W g v0 v1 v2 v3 v4 v5 v6 v7 v8 v9 v10 v11 v12 v13 v14 v15 v16 v17):W.frozen? ⟨g,5,none⟩=false:=frozen_of_row W g 5 _ _ h
theorem B18R.f6 (h:B18R W g v0 v1 v2 v3 v4 v5 v6 v7 v8 v9 v10 v11 v12 v13 v14 v15 v16 v17):W.frozen? ⟨g,6,none⟩=false:=frozen_of_row W g 6 _ _ h
theorem B18R.f7 (h:B18R W g v0 v1 v2 v3 v4 v5 v6 v7 v8 v9 v10 v11 v12 v13 v14 v15 v16 v17):W.frozen? ⟨g,7,none⟩=false:=frozen_of_row W g 7 _ _ h
theorem B18R.f8 (h:B18R W g v0 v1 v2 v3 v4 v5 v6 v7 v8 v9 v10 v11 v12 v13 v14 v15 v16 v17):W.frozen? ⟨g,8,none⟩=false:=frozen_of_row W g 8 _ _ h
theorem B18R.f9 (h:B18R W g v0 v1 v2 v3 v4 v5 v6 v7 v8 v9 v10 v11 v12 v13 v14 v15 v16 v17):W.frozen? ⟨g,9,none⟩=false:=frozen_of_row W g 9 _ _ h
theorem B18R.f10 (h:B18R W g v0 v1 v2 v3 v4 v5 v6 v7 v8 v9 v10 v11 v12 v13 v14 v15 v16 v17):W.frozen? ⟨g,10,none⟩=false:=frozen_of_row W g 10 _ _ h
theorem B18R.f11 (h:B18R W g v0 v1 v2 v3 v4 v5 v6 v7 v8 v9 v10 v11 v12 v13 v14 v15 v16 v17):W.frozen? ⟨g,11,none⟩=false:=frozen_of_row W g 11 _ _ h
theorem B18R.f12 (h:B18R W g v0 v1 v2 v3 v4 v5 v6 v7 v8 v9 v10 v11 v12 v13 v14 v15 v16 v17):W.frozen? ⟨g,12,none⟩=false:=frozen_of_row W g 12 _ _ h
theorem B18R.f13 (h:B18R W g v0 v1 v2 v3 v4 v5 v6 v7 v8 v9 v10 v11 v12 v13 v14 v15 v16 v17):W.frozen? ⟨g,13,none⟩=false:=frozen_of_row W g 13 _ _ h
theorem B18R.f14 (h:B18R W g v0 v1 v2 v3 v4 v5 v6 v7 v8 v9 v10 v11 v12 v13 v14 v15 v16 v17):W.frozen? ⟨g,14,none⟩=false:=frozen_of_row W g 14 _ _ h
theorem B18R.f15 (h:B18R W g v0 v1 v2 v3 v4 v5 v6 v7 v8 v9 v10 v11 v12 v13 v14 v15 v16 v17):W.frozen? ⟨g,15,none⟩=false:=frozen_of_row W g 15 _ _ h
theorem B18R.f16 (h:B18R W g v0 v1 v2 v3 v4 v5 v6 v7 v8 v9 v10 v11 v12 v13 v14 v15 v16 v17):W.frozen? ⟨g,16,none⟩=false:=frozen_of_row W g 16 _ _ h
theorem B18R.f17 (h:B18R W g v0 v1 v2 v3 v4 v5 v6 v7 v8 v9 v10 v11 v12 v13 v14 v15 v16 v17):W.frozen? ⟨g,17,none⟩=false:=frozen_of_row W g 17 _ _ h
theorem B18R.lt (h:B18R W g v0 v1 v2 v3 v4 v5 v6 v7 v8 v9 v10 v11 v12 v13 v14 v15 v16 v17):g < W.heap.size:=World.block_lt_of_cell? W _ h.c0
theorem B18R.below (h:B18R W g v0 v1 v2 v3 v4 v5 v6 v7 v8 v9 v10 v11 v12 v13 v14 v15 v16 v17) (hb:Below W.heap.size W W'):B18R W' g v0 v1 v2 v3 v4 v5 v6 v7 v8 v9 v10 v11 v12 v13 v14 v15 v16 v17:=(hb.block g h.lt).trans h
theorem B18R.alloc (h:B18R W g v0 v1 v2 v3 v4 v5 v6 v7 v8 v9 v10 v11 v12 v13 v14 v15 v16 v17) (o:Obj):B18R (W.alloc o) g v0 v1 v2 v3 v4 v5 v6 v7 v8 v9 v10 v11 v12 v13 v14 v15 v16 v17:=(Below.heap_alloc W o g h.lt).trans h
theorem B18R.new' (W:World) (v0 v1 v2 v3 v4 v5 v6 v7 v8 v9 v10 v11 v12 v13 v14 v15 v16 v17:Value) (g:Nat) (hg:g=W.heap.size):B18R (W.alloc (.cells #[v0,v1,v2,v3,v4,v5,v6,v7,v8,v9,v10,v11,v12,v13,v14,v15,v16,v17] 74)) g v0 v1 v2 v3 v4 v5 v6 v7 v8 v9 v10 v11 v12 v13 v14 v15 v16 v17:=by subst hg;exact heap_alloc_new W _
theorem B18R.set18 (h:B18R W g v0 v1 v2 v3 v4 v5 v6 v7 v8 v9 v10 v11 v12 v13 v14 v15 v16 v17) (a0 a1 a2 a3 a4 a5 a6 a7 a8 a9 a10 a11 a12 a13 a14 a15 a16 a17:Value):B18R ((((((((((((((((((W.setCell ⟨g,0,none⟩ a0).setCell ⟨g,1,none⟩ a1).setCell ⟨g,2,none⟩ a2).setCell ⟨g,3,none⟩ a3).setCell ⟨g,4,none⟩ a4).setCell ⟨g,5,none⟩ a5).setCell ⟨g,6,none⟩ a6).setCell ⟨g,7,none⟩ a7).setCell ⟨g,8,none⟩ a8).setCell ⟨g,9,none⟩ a9).setCell ⟨g,10,none⟩ a10).setCell ⟨g,11,none⟩ a11).setCell ⟨g,12,none⟩ a12).setCell ⟨g,13,none⟩ a13).setCell ⟨g,14,none⟩ a14).setCell ⟨g,15,none⟩ a15).setCell ⟨g,16,none⟩ a16).setCell ⟨g,17,none⟩ a17) g a0 a1 a2 a3 a4 a5 a6 a7 a8 a9 a10 a11 a12 a13 a14 a15 a16 a17:=by
 unfold B18R at h ⊢
 have h0:=heap_setCell_same _ g 0 _ _ a0 h
 simp only [List.setIfInBounds_toArray,List.set_cons_zero] at h0
 have h1:=heap_setCell_same _ g 1 _ _ a1 h0
 simp only [List.setIfInBounds_toArray,List.set_cons_zero,List.set_cons_succ] at h1
 have h2:=heap_setCell_same _ g 2 _ _ a2 h1
 simp only [List.setIfInBounds_toArray,List.set_cons_zero,List.set_cons_succ] at h2
 have h3:=heap_setCell_same _ g 3 _ _ a3 h2
 simp only [List.setIfInBounds_toArray,List.set_cons_zero,List.set_cons_succ] at h3
 have h4:=heap_setCell_same _ g 4 _ _ a4 h3
 simp only [List.setIfInBounds_toArray,List.set_cons_zero,List.set_cons_succ] at h4
 have h5:=heap_setCell_same _ g 5 _ _ a5 h4
 simp only [List.setIfInBounds_toArray,List.set_cons_zero,List.set_cons_succ] at h5
 have h6:=heap_setCell_same _ g 6 _ _ a6 h5
 simp only [List.setIfInBounds_toArray,List.set_cons_zero,List.set_cons_succ] at h6
 have h7:=heap_setCell_same _ g 7 _ _ a7 h6
 simp only [List.setIfInBounds_toArray,List.set_cons_zero,List.set_cons_succ] at h7
 have h8:=heap_setCell_same _ g 8 _ _ a8 h7
 simp only [List.setIfInBounds_toArray,List.set_cons_zero,List.set_cons_succ] at h8
 have h9:=heap_setCell_same _ g 9 _ _ a9 h8
 simp only [List.setIfInBounds_toArray,List.set_cons_zero,List.set_cons_succ] at h9
 have h10:=heap_setCell_same _ g 10 _ _ a10 h9
 simp only [List.setIfInBounds_toArray,List.set_cons_zero,List.set_cons_succ] at h10
 have h11:=heap_setCell_same _ g 11 _ _ a11 h10
 simp only [List.setIfInBounds_toArray,List.set_cons_zero,List.set_cons_succ] at h11
 have h12:=heap_setCell_same _ g 12 _ _ a12 h11
 simp only [List.setIfInBounds_toArray,List.set_cons_zero,List.set_cons_succ] at h12
 have h13:=heap_setCell_same _ g 13 _ _ a13 h12
 simp only [List.setIfInBounds_toArray,List.set_cons_zero,List.set_cons_succ] at h13
 have h14:=heap_setCell_same _ g 14 _ _ a14 h13
 simp only [List.setIfInBounds_toArray,List.set_cons_zero,List.set_cons_succ] at h14
 have h15:=heap_setCell_same _ g 15 _ _ a15 h14
 simp only [List.setIfInBounds_toArray,List.set_cons_zero,List.set_cons_succ] at h15
 have h16:=heap_setCell_same _ g 16 _ _ a16 h15
 simp only [List.setIfInBounds_toArray,List.set_cons_zero,List.set_cons_succ] at h16
 have h17:=heap_setCell_same _ g 17 _ _ a17 h16
 simp only [List.setIfInBounds_toArray,List.set_cons_zero,List.set_cons_succ] at h17
 exact h17
theorem B18R.restm {k:Nat} (h:B18R W g v0 v1 v2 v3 v4 v5 v6 v7 v8 v9 v10 v11 v12 v13 v14 v15 v16 v17) (hne:g ≠ k) (ho:Only k W W'):B18R W' g v0 v1 v2 v3 v4 v5 v6 v7 v8 v9 v10 v11 v12 v13 v14 v15 v16 v17:=(ho.block g h.lt hne).trans h
def LVN (a:Addr):Sem Value:=loadVar 74 a
theorem open_LVN (a:Addr):loadVar 74 a=LVN a:=rfl
def STN (a:Addr) (v:Value):Sem Unit:=storeVar 74 a v
theorem open_STN (a:Addr) (v:Value):storeVar 74 a v=STN a v:=rfl
theorem B18R.ld (h:B18R W g v0 v1 v2 v3 v4 v5 v6 v7 v8 v9 v10 v11 v12 v13 v14 v15 v16 v17):(LVN ⟨g,0,none⟩).run Tryz.prog W=.ok (.agg #[v0,v1,v2,v3,v4,v5,v6,v7,v8,v9,v10,v11,v12,v13,v14,v15,v16,v17]) W :=
 run_loadVar_row W g _ _ _ (0,0) _ h Tryz.underlying74 rfl (by kernel_rfl)
theorem B18R.st (h:B18R W g v0 v1 v2 v3 v4 v5 v6 v7 v8 v9 v10 v11 v12 v13 v14 v15 v16 v17) (a0 a1 a2 a3 a4 a5 a6 a7 a8 a9 a10 a11 a12 a13 a14 a15 a16 a17:Value) (h1:∀ v ∈ [a0,a1,a2,a3,a4,a5,a6,a7,a8,a9,a10,a11,a12,a13,a14,a15,a16,a17],v.oneCell'=true):(STN ⟨g,0,none⟩ (.agg #[a0,a1,a2,a3,a4,a5,a6,a7,a8,a9,a10,a11,a12,a13,a14,a15,a16,a17])).run Tryz.prog W=.ok () ((((((((((((((((((W.setCell ⟨g,0,none⟩ a0).setCell ⟨g,1,none⟩ a1).setCell ⟨g,2,none⟩ a2).setCell ⟨g,3,none⟩ a3).setCell ⟨g,4,none⟩ a4).setCell ⟨g,5,none⟩ a5).setCell ⟨g,6,none⟩ a6).setCell ⟨g,7,none⟩ a7).setCell ⟨g,8,none⟩ a8).setCell ⟨g,9,none⟩ a9).setCell ⟨g,10,none⟩ a10).setCell ⟨g,11,none⟩ a11).setCell ⟨g,12,none⟩ a12).setCell ⟨g,13,none⟩ a13).setCell ⟨g,14,none⟩ a14).setCell ⟨g,15,none⟩ a15).setCell ⟨g,16,none⟩ a16).setCell ⟨g,17,none⟩ a17):=by
 have hc:(storeCells ⟨g,0,none⟩ [a0,a1,a2,a3,a4,a5,a6,a7,a8,a9,a10,a11,a12,a13,a14,a15,a16,a17] 0).run Tryz.prog W=.ok () ((((((((((((((((((W.setCell ⟨g,0,none⟩ a0).setCell ⟨g,1,none⟩ a1).setCell ⟨g,2,none⟩ a2).setCell ⟨g,3,none⟩ a3).setCell ⟨g,4,none⟩ a4).setCell ⟨g,5,none⟩ a5).setCell ⟨g,6,none⟩ a6).setCell ⟨g,7,none⟩ a7).setCell ⟨g,8,none⟩ a8).setCell ⟨g,9,none⟩ a9).setCell ⟨g,10,none⟩ a10).setCell ⟨g,11,none⟩ a11).setCell ⟨g,12,none⟩ a12).setCell ⟨g,13,none⟩ a13).setCell ⟨g,14,none⟩ a14).setCell ⟨g,15,none⟩ a15).setCell ⟨g,16,none⟩ a16).setCell ⟨g,17,none⟩ a17) :=
  run_storeCells_cells g 0 [a0,a1,a2,a3,a4,a5,a6,a7,a8,a9,a10,a11,a12,a13,a14,a15,a16,a17] 0 W (fun j hj=>by rw [cell_of_row W g _ _ _ (0,0) h];simp only [List.length_cons,List.length_nil] at hj;simp;omega) (fun j _=>frozen_of_row W g _ _ _ h) h1
 have hz:(sizeOf 74).run Tryz.prog W=.ok 18 W:=by
  have hi:(Tryz.prog.info? 74).map (·.size)=some 18:=by kernel_rfl
  cases hq:Tryz.prog.info? 74 with
  | none=>simp [hq] at hi
  | some i=>simp [hq] at hi;simp [sizeOf,typeInfo,hq,hi]
 unfold STN storeVar
 simp only [Sem.run_bind,hz,Result.andThen_ok]
 exact hc
end
theorem below_set18 {B g:Nat} {w W:World} (h:Below B w W) (hg:B≤g) (a0 a1 a2 a3 a4 a5 a6 a7 a8 a9 a10 a11 a12 a13 a14 a15 a16 a17:Value):Below B w ((((((((((((((((((W.setCell ⟨g,0,none⟩ a0).setCell ⟨g,1,none⟩ a1).setCell ⟨g,2,none⟩ a2).setCell ⟨g,3,none⟩ a3).setCell ⟨g,4,none⟩ a4).setCell ⟨g,5,none⟩ a5).setCell ⟨g,6,none⟩ a6).setCell ⟨g,7,none⟩ a7).setCell ⟨g,8,none⟩ a8).setCell ⟨g,9,none⟩ a9).setCell ⟨g,10,none⟩ a10).setCell ⟨g,11,none⟩ a11).setCell ⟨g,12,none⟩ a12).setCell ⟨g,13,none⟩ a13).setCell ⟨g,14,none⟩ a14).setCell ⟨g,15,none⟩ a15).setCell ⟨g,16,none⟩ a16).setCell ⟨g,17,none⟩ a17):=(((((((((((((((((h.setCell hg _).setCell hg _).setCell hg _).setCell hg _).setCell hg _).setCell hg _).setCell hg _).setCell hg _).setCell hg _).setCell hg _).setCell hg _).setCell hg _).setCell hg _).setCell hg _).setCell hg _).setCell hg _).setCell hg _).setCell hg _
theorem only_set18 (W:World) (g:Nat) (a0 a1 a2 a3 a4 a5 a6 a7 a8 a9 a10 a11 a12 a13 a14 a15 a16 a17:Value):Only g W ((((((((((((((((((W.setCell ⟨g,0,none⟩ a0).setCell ⟨g,1,none⟩ a1).setCell ⟨g,2,none⟩ a2).setCell ⟨g,3,none⟩ a3).setCell ⟨g,4,none⟩ a4).setCell ⟨g,5,none⟩ a5).setCell ⟨g,6,none⟩ a6).setCell ⟨g,7,none⟩ a7).setCell ⟨g,8,none⟩ a8).setCell ⟨g,9,none⟩ a9).setCell ⟨g,10,none⟩ a10).setCell ⟨g,11,none⟩ a11).setCell ⟨g,12,none⟩ a12).setCell ⟨g,13,none⟩ a13).setCell ⟨g,14,none⟩ a14).setCell ⟨g,15,none⟩ a15).setCell ⟨g,16,none⟩ a16).setCell ⟨g,17,none⟩ a17):=((((((((((((((((((Only.refl g W).setCell 0 _).setCell 1 _).setCell 2 _).setCell 3 _).setCell 4 _).setCell 5 _).setCell 6 _).setCell 7 _).setCell 8 _).setCell 9 _).setCell 10 _).setCell 11 _).setCell 12 _).setCell 13 _).setCell 14 _).setCell 15 _).setCell 16 _).setCell 17 _
theorem Rd.offB18 {K:IntKind} {W:World} {g:Nat} {s0:Bool} {s1:Bool} {s2:Bool} {s3:Bool} {s4:Bool} {s5:Bool} {A1:Option Addr} {n1 c1:Nat} {A2:Option Addr} {n2 c2:Nat} {A4:Option Addr} {n4 c4:Nat} {A5:Option Addr} {n5 c5:Nat} {A7:Option Addr} {n7 c7:Nat} {A8:Option Addr} {n8 c8:Nat} {A10:Option Addr} {n10 c10:Nat} {A11:Option Addr} {n11 c11:Nat} {A13:Option Addr} {n13 c13:Nat} {A14:Option Addr} {n14 c14:Nat} {A16:Option Addr} {n16 c16:Nat} {A17:Option Addr} {n17 c17:Nat} {A:Option Addr} {n:Nat} {l:List Nat} (hr:Rd K W A n l) (h:B18 W g (.bool s0) (.slice A1 n1 c1) (.slice A2 n2 c2) (.bool s1) (.slice A4 n4 c4) (.slice A5 n5 c5) (.bool s2) (.slice A7 n7 c7) (.slice A8 n8 c8) (.bool s3) (.slice A10 n10 c10) (.slice A11 n11 c11) (.bool s4) (.slice A13 n13 c13) (.slice A14 n14 c14) (.bool s5) (.slice A16 n16 c16) (.slice A17 n17 c17)):Off A n g:=by
 intro hn ad e hg
 obtain ⟨b,o,eA,hc⟩:=hr.at_ hn
 obtain ⟨x,_,hx⟩:=hc 0 hn
 rw [eA] at e
 cases e
 have hg2:b=g:=hg
 subst hg2
 rw [cell_of_row W b (o+0) _ _ (0,0) h] at hx
 match o,hx with
 | 0,hx=>cases hx
 | 1,hx=>cases hx
 | 2,hx=>cases hx
 | 3,hx=>cases hx
 | 4,hx=>cases hx
 | 5,hx=>cases hx
 | 6,hx=>cases hx
 | 7,hx=>cases hx
 | 8,hx=>cases hx
 | 9,hx=>cases hx
 | 10,hx=>cases hx
 | 11,hx=>cases hx
 | 12,hx=>cases hx
 | 13,hx=>cases hx
 | 14,hx=>cases hx
 | 15,hx=>cases hx
 | 16,hx=>cases hx
 | 17,hx=>cases hx
 | o+18,hx=>cases hx
theorem Rd.offB18R {K:IntKind} {W:World} {g:Nat} {s0:Bool} {s1:Bool} {s2:Bool} {s3:Bool} {s4:Bool} {s5:Bool} {A1:Option Addr} {n1 c1:Nat} {A2:Option Addr} {n2 c2:Nat} {A4:Option Addr} {n4 c4:Nat} {A5:Option Addr} {n5 c5:Nat} {A7:Option Addr} {n7 c7:Nat} {A8:Option Addr} {n8 c8:Nat} {A10:Option Addr} {n10 c10:Nat} {A11:Option Addr} {n11 c11:Nat} {A13:Option Addr} {n13 c13:Nat} {A14:Option Addr} {n14 c14:Nat} {A16:Option Addr} {n16 c16:Nat} {A17:Option Addr} {n17 c17:Nat} {A:Option Addr} {n:Nat} {l:List Nat} (hr:Rd K W A n l) (h:B18R W g (.bool s0) (.slice A1 n1 c1) (.slice A2 n2 c2) (.bool s1) (.slice A4 n4 c4) (.slice A5 n5 c5) (.bool s2) (.slice A7 n7 c7) (.slice A8 n8 c8) (.bool s3) (.slice A10 n10 c10) (.slice A11 n11 c11) (.bool s4) (.slice A13 n13 c13) (.slice A14 n14 c14) (.bool s5) (.slice A16 n16 c16) (.slice A17 n17 c17)):Off A n g:=by
 intro hn ad e hg
 obtain ⟨b,o,eA,hc⟩:=hr.at_ hn
 obtain ⟨x,_,hx⟩:=hc 0 hn
 rw [eA] at e
 cases e
 have hg2:b=g:=hg
 subst hg2
 rw [cell_of_row W b (o+0) _ _ (0,0) h] at hx
 match o,hx with
 | 0,hx=>cases hx
 | 1,hx=>cases hx
 | 2,hx=>cases hx
 | 3,hx=>cases hx
 | 4,hx=>cases hx
 | 5,hx=>cases hx
 | 6,hx=>cases hx
 | 7,hx=>cases hx
 | 8,hx=>cases hx
 | 9,hx=>cases hx
 | 10,hx=>cases hx
 | 11,hx=>cases hx
 | 12,hx=>cases hx
 | 13,hx=>cases hx
 | 14,hx=>cases hx
 | 15,hx=>cases hx
 | 16,hx=>cases hx
 | 17,hx=>cases hx
 | o+18,hx=>cases hx
def MR (w:World) (m:MV) (v:AM) (k l:Nat):Prop:=PR w m.a.s m.a.A m.a.n m.a.c m.a.B m.a.m m.a.d m.b.s m.b.A m.b.n m.b.c m.b.B m.b.m m.b.d v.a v.b k∧PR w m.c.s m.c.A m.c.n m.c.c m.c.B m.c.m m.c.d m.d.s m.d.A m.d.n m.d.c m.d.B m.d.m m.d.d v.c v.d k∧PR w m.e.s m.e.A m.e.n m.e.c m.e.B m.e.m m.e.d m.f.s m.f.A m.f.n m.f.c m.f.B m.f.m m.f.d v.e v.f l
def MG (w:World) (m:MV) (v:AM) (k l:Nat):Prop:=PG w m.a.s m.a.A m.a.n m.a.c m.a.B m.a.m m.a.d m.b.s m.b.A m.b.n m.b.c m.b.B m.b.m m.b.d v.a v.b k∧PG w m.c.s m.c.A m.c.n m.c.c m.c.B m.c.m m.c.d m.d.s m.d.A m.d.n m.d.c m.d.B m.d.m m.d.d v.c v.d k∧PG w m.e.s m.e.A m.e.n m.e.c m.e.B m.e.m m.e.d m.f.s m.f.A m.f.n m.f.c m.f.B m.f.m m.f.d v.e v.f l
def RM (w:World) (m:MV) (v:AM) (k l:Nat):Prop:=RP w m.a.s m.a.A m.a.n m.a.c m.a.B m.a.m m.a.d m.b.s m.b.A m.b.n m.b.c m.b.B m.b.m m.b.d v.a v.b k∧RP w m.c.s m.c.A m.c.n m.c.c m.c.B m.c.m m.c.d m.d.s m.d.A m.d.n m.d.c m.d.B m.d.m m.d.d v.c v.d k∧RP w m.e.s m.e.A m.e.n m.e.c m.e.B m.e.m m.e.d m.f.s m.f.A m.f.n m.f.c m.f.B m.f.m m.f.d v.e v.f l
def GivesMt (w:World) (v:AM) (k l:Nat) (en:Ending) (w':World):Prop:=∃ m:MV,en=.returned (.agg #[.bool m.a.s,.slice m.a.A m.a.n m.a.c,.slice m.a.B m.a.m m.a.d,.bool m.b.s,.slice m.b.A m.b.n m.b.c,.slice m.b.B m.b.m m.b.d,.bool m.c.s,.slice m.c.A m.c.n m.c.c,.slice m.c.B m.c.m m.c.d,.bool m.d.s,.slice m.d.A m.d.n m.d.c,.slice m.d.B m.d.m m.d.d,.bool m.e.s,.slice m.e.A m.e.n m.e.c,.slice m.e.B m.e.m m.e.d,.bool m.f.s,.slice m.f.A m.f.n m.f.c,.slice m.f.B m.f.m m.f.d])∧MG w' m v k l∧Below w.heap.size w w'
section
variable {w w':World} {m:MV} {v:AM} {k l k1 l1:Nat}
theorem MR.below (h:MR w m v k l) (hb:Below w.heap.size w w'):MR w' m v k l:=⟨h.1.below hb,h.2.1.below hb,h.2.2.below hb⟩
theorem MR.ab (h:MR w m v k l):PR w m.a.s m.a.A m.a.n m.a.c m.a.B m.a.m m.a.d m.b.s m.b.A m.b.n m.b.c m.b.B m.b.m m.b.d v.a v.b k:=h.1
theorem MR.cd (h:MR w m v k l):PR w m.c.s m.c.A m.c.n m.c.c m.c.B m.c.m m.c.d m.d.s m.d.A m.d.n m.d.c m.d.B m.d.m m.d.d v.c v.d k:=h.2.1
theorem MR.ef (h:MR w m v k l):PR w m.e.s m.e.A m.e.n m.e.c m.e.B m.e.m m.e.d m.f.s m.f.A m.f.n m.f.c m.f.B m.f.m m.f.d v.e v.f l:=h.2.2
theorem MG.below (h:MG w m v k l) (hb:Below w.heap.size w w'):MG w' m v k l:=⟨h.1.below hb,h.2.1.below hb,h.2.2.below hb⟩
theorem MG.ab (h:MG w m v k l):PG w m.a.s m.a.A m.a.n m.a.c m.a.B m.a.m m.a.d m.b.s m.b.A m.b.n m.b.c m.b.B m.b.m m.b.d v.a v.b k:=h.1
theorem MG.cd (h:MG w m v k l):PG w m.c.s m.c.A m.c.n m.c.c m.c.B m.c.m m.c.d m.d.s m.d.A m.d.n m.d.c m.d.B m.d.m m.d.d v.c v.d k:=h.2.1
theorem MG.ef (h:MG w m v k l):PG w m.e.s m.e.A m.e.n m.e.c m.e.B m.e.m m.e.d m.f.s m.f.A m.f.n m.f.c m.f.B m.f.m m.f.d v.e v.f l:=h.2.2
theorem RM.below (h:RM w m v k l) (hb:Below w.heap.size w w'):RM w' m v k l:=⟨h.1.below hb,h.2.1.below hb,h.2.2.below hb⟩
theorem RM.ab (h:RM w m v k l):RP w m.a.s m.a.A m.a.n m.a.c m.a.B m.a.m m.a.d m.b.s m.b.A m.b.n m.b.c m.b.B m.b.m m.b.d v.a v.b k:=h.1
theorem RM.cd (h:RM w m v k l):RP w m.c.s m.c.A m.c.n m.c.c m.c.B m.c.m m.c.d m.d.s m.d.A m.d.n m.d.c m.d.B m.d.m m.d.d v.c v.d k:=h.2.1
theorem RM.ef (h:RM w m v k l):RP w m.e.s m.e.A m.e.n m.e.c m.e.B m.e.m m.e.d m.f.s m.f.A m.f.n m.f.c m.f.B m.f.m m.f.d v.e v.f l:=h.2.2
theorem MG.mr (h:MG w m v k l):MR w m v k l:=⟨h.1.pr,h.2.1.pr,h.2.2.pr⟩
theorem MG.more (h:MG w m v k l) (hk:k≤k1) (hl:l≤l1):MG w m v k1 l1:=⟨h.1.more hk,h.2.1.more hk,h.2.2.more hl⟩
theorem MR.more (h:MR w m v k l) (hk:k≤k1) (hl:l≤l1):MR w m v k1 l1:=⟨h.1.more hk,h.2.1.more hk,h.2.2.more hl⟩
theorem QG.set18 {u:Rat} {g:Nat} {s:Bool} {A B:Option Addr} {n c m d:Nat} {s0:Bool} {s1:Bool} {s2:Bool} {s3:Bool} {s4:Bool} {s5:Bool} {A1:Option Addr} {n1 c1:Nat} {A2:Option Addr} {n2 c2:Nat} {A4:Option Addr} {n4 c4:Nat} {A5:Option Addr} {n5 c5:Nat} {A7:Option Addr} {n7 c7:Nat} {A8:Option Addr} {n8 c8:Nat} {A10:Option Addr} {n10 c10:Nat} {A11:Option Addr} {n11 c11:Nat} {A13:Option Addr} {n13 c13:Nat} {A14:Option Addr} {n14 c14:Nat} {A16:Option Addr} {n16 c16:Nat} {A17:Option Addr} {n17 c17:Nat} (h:QG w s A n c B m d u k) (Z:B18 w g (.bool s0) (.slice A1 n1 c1) (.slice A2 n2 c2) (.bool s1) (.slice A4 n4 c4) (.slice A5 n5 c5) (.bool s2) (.slice A7 n7 c7) (.slice A8 n8 c8) (.bool s3) (.slice A10 n10 c10) (.slice A11 n11 c11) (.bool s4) (.slice A13 n13 c13) (.slice A14 n14 c14) (.bool s5) (.slice A16 n16 c16) (.slice A17 n17 c17)) (a0 a1 a2 a3 a4 a5 a6 a7 a8 a9 a10 a11 a12 a13 a14 a15 a16 a17:Value):QG ((((((((((((((((((w.setCell ⟨g,0,none⟩ a0).setCell ⟨g,1,none⟩ a1).setCell ⟨g,2,none⟩ a2).setCell ⟨g,3,none⟩ a3).setCell ⟨g,4,none⟩ a4).setCell ⟨g,5,none⟩ a5).setCell ⟨g,6,none⟩ a6).setCell ⟨g,7,none⟩ a7).setCell ⟨g,8,none⟩ a8).setCell ⟨g,9,none⟩ a9).setCell ⟨g,10,none⟩ a10).setCell ⟨g,11,none⟩ a11).setCell ⟨g,12,none⟩ a12).setCell ⟨g,13,none⟩ a13).setCell ⟨g,14,none⟩ a14).setCell ⟨g,15,none⟩ a15).setCell ⟨g,16,none⟩ a16).setCell ⟨g,17,none⟩ a17) s A n c B m d u k:=by
 have ho:=only_set18 w g a0 a1 a2 a3 a4 a5 a6 a7 a8 a9 a10 a11 a12 a13 a14 a15 a16 a17
 exact ⟨⟨h.1.1,h.1.2.1.only (h.1.2.1.offB18 Z) ho,h.1.2.2⟩,⟨h.2.1.only (h.2.1.offB18 Z) ho,h.2.2⟩⟩
theorem MG.set18 {g:Nat} {s0:Bool} {s1:Bool} {s2:Bool} {s3:Bool} {s4:Bool} {s5:Bool} {A1:Option Addr} {n1 c1:Nat} {A2:Option Addr} {n2 c2:Nat} {A4:Option Addr} {n4 c4:Nat} {A5:Option Addr} {n5 c5:Nat} {A7:Option Addr} {n7 c7:Nat} {A8:Option Addr} {n8 c8:Nat} {A10:Option Addr} {n10 c10:Nat} {A11:Option Addr} {n11 c11:Nat} {A13:Option Addr} {n13 c13:Nat} {A14:Option Addr} {n14 c14:Nat} {A16:Option Addr} {n16 c16:Nat} {A17:Option Addr} {n17 c17:Nat} (h:MG w m v k l) (Z:B18 w g (.bool s0) (.slice A1 n1 c1) (.slice A2 n2 c2) (.bool s1) (.slice A4 n4 c4) (.slice A5 n5 c5) (.bool s2) (.slice A7 n7 c7) (.slice A8 n8 c8) (.bool s3) (.slice A10 n10 c10) (.slice A11 n11 c11) (.bool s4) (.slice A13 n13 c13) (.slice A14 n14 c14) (.bool s5) (.slice A16 n16 c16) (.slice A17 n17 c17)) (a0 a1 a2 a3 a4 a5 a6 a7 a8 a9 a10 a11 a12 a13 a14 a15 a16 a17:Value):MG ((((((((((((((((((w.setCell ⟨g,0,none⟩ a0).setCell ⟨g,1,none⟩ a1).setCell ⟨g,2,none⟩ a2).setCell ⟨g,3,none⟩ a3).setCell ⟨g,4,none⟩ a4).setCell ⟨g,5,none⟩ a5).setCell ⟨g,6,none⟩ a6).setCell ⟨g,7,none⟩ a7).setCell ⟨g,8,none⟩ a8).setCell ⟨g,9,none⟩ a9).setCell ⟨g,10,none⟩ a10).setCell ⟨g,11,none⟩ a11).setCell ⟨g,12,none⟩ a12).setCell ⟨g,13,none⟩ a13).setCell ⟨g,14,none⟩ a14).setCell ⟨g,15,none⟩ a15).setCell ⟨g,16,none⟩ a16).setCell ⟨g,17,none⟩ a17) m v k l :=
 ⟨⟨h.1.1.set18 Z a0 a1 a2 a3 a4 a5 a6 a7 a8 a9 a10 a11 a12 a13 a14 a15 a16 a17,h.1.2.set18 Z a0 a1 a2 a3 a4 a5 a6 a7 a8 a9 a10 a11 a12 a13 a14 a15 a16 a17⟩,⟨h.2.1.1.set18 Z a0 a1 a2 a3 a4 a5 a6 a7 a8 a9 a10 a11 a12 a13 a14 a15 a16 a17,h.2.1.2.set18 Z a0 a1 a2 a3 a4 a5 a6 a7 a8 a9 a10 a11 a12 a13 a14 a15 a16 a17⟩,⟨h.2.2.1.set18 Z a0 a1 a2 a3 a4 a5 a6 a7 a8 a9 a10 a11 a12 a13 a14 a15 a16 a17,h.2.2.2.set18 Z a0 a1 a2 a3 a4 a5 a6 a7 a8 a9 a10 a11 a12 a13 a14 a15 a16 a17⟩⟩
theorem RM.set18 {g:Nat} {s0:Bool} {s1:Bool} {s2:Bool} {s3:Bool} {s4:Bool} {s5:Bool} {A1:Option Addr} {n1 c1:Nat} {A2:Option Addr} {n2 c2:Nat} {A4:Option Addr} {n4 c4:Nat} {A5:Option Addr} {n5 c5:Nat} {A7:Option Addr} {n7 c7:Nat} {A8:Option Addr} {n8 c8:Nat} {A10:Option Addr} {n10 c10:Nat} {A11:Option Addr} {n11 c11:Nat} {A13:Option Addr} {n13 c13:Nat} {A14:Option Addr} {n14 c14:Nat} {A16:Option Addr} {n16 c16:Nat} {A17:Option Addr} {n17 c17:Nat} (h:RM w m v k l) (Z:B18R w g (.bool s0) (.slice A1 n1 c1) (.slice A2 n2 c2) (.bool s1) (.slice A4 n4 c4) (.slice A5 n5 c5) (.bool s2) (.slice A7 n7 c7) (.slice A8 n8 c8) (.bool s3) (.slice A10 n10 c10) (.slice A11 n11 c11) (.bool s4) (.slice A13 n13 c13) (.slice A14 n14 c14) (.bool s5) (.slice A16 n16 c16) (.slice A17 n17 c17)) (a0 a1 a2 a3 a4 a5 a6 a7 a8 a9 a10 a11 a12 a13 a14 a15 a16 a17:Value):RM ((((((((((((((((((w.setCell ⟨g,0,none⟩ a0).setCell ⟨g,1,none⟩ a1).setCell ⟨g,2,none⟩ a2).setCell ⟨g,3,none⟩ a3).setCell ⟨g,4,none⟩ a4).setCell ⟨g,5,none⟩ a5).setCell ⟨g,6,none⟩ a6).setCell ⟨g,7,none⟩ a7).setCell ⟨g,8,none⟩ a8).setCell ⟨g,9,none⟩ a9).setCell ⟨g,10,none⟩ a10).setCell ⟨g,11,none⟩ a11).setCell ⟨g,12,none⟩ a12).setCell ⟨g,13,none⟩ a13).setCell ⟨g,14,none⟩ a14).setCell ⟨g,15,none⟩ a15).setCell ⟨g,16,none⟩ a16).setCell ⟨g,17,none⟩ a17) m v k l:=by
 have ho:=only_set18 w g a0 a1 a2 a3 a4 a5 a6 a7 a8 a9 a10 a11 a12 a13 a14 a15 a16 a17
 exact ⟨⟨h.1.1.onl (h.1.1.1.2.1.offB18R Z) (h.1.1.2.1.offB18R Z) ho,h.1.2.onl (h.1.2.1.2.1.offB18R Z) (h.1.2.2.1.offB18R Z) ho⟩,⟨h.2.1.1.onl (h.2.1.1.1.2.1.offB18R Z) (h.2.1.1.2.1.offB18R Z) ho,h.2.1.2.onl (h.2.1.2.1.2.1.offB18R Z) (h.2.1.2.2.1.offB18R Z) ho⟩,⟨h.2.2.1.onl (h.2.2.1.1.2.1.offB18R Z) (h.2.2.1.2.1.offB18R Z) ho,h.2.2.2.onl (h.2.2.2.1.2.1.offB18R Z) (h.2.2.2.2.1.offB18R Z) ho⟩⟩
end
theorem free18 (u:MV):∀ (x:Nat) (k:IntKind) (v:Int),(#[.bool u.a.s,.slice u.a.A u.a.n u.a.c,.slice u.a.B u.a.m u.a.d,.bool u.b.s,.slice u.b.A u.b.n u.b.c,.slice u.b.B u.b.m u.b.d,.bool u.c.s,.slice u.c.A u.c.n u.c.c,.slice u.c.B u.c.m u.c.d,.bool u.d.s,.slice u.d.A u.d.n u.d.c,.slice u.d.B u.d.m u.d.d,.bool u.e.s,.slice u.e.A u.e.n u.e.c,.slice u.e.B u.e.m u.e.d,.bool u.f.s,.slice u.f.A u.f.n u.f.c,.slice u.f.B u.f.m u.f.d]:Array Value)[x]? ≠ some (.int k v):=by
 intro x k v h
 match x,h with
 | 0,h=>cases h
 | 1,h=>cases h
 | 2,h=>cases h
 | 3,h=>cases h
 | 4,h=>cases h
 | 5,h=>cases h
 | 6,h=>cases h
 | 7,h=>cases h
 | 8,h=>cases h
 | 9,h=>cases h
 | 10,h=>cases h
 | 11,h=>cases h
 | 12,h=>cases h
 | 13,h=>cases h
 | 14,h=>cases h
 | 15,h=>cases h
 | 16,h=>cases h
 | 17,h=>cases h
 | x+18,h=>cases h
theorem free18z:∀ (x:Nat) (k:IntKind) (v:Int),(#[.bool false,.slice none 0 0,.slice none 0 0,.bool false,.slice none 0 0,.slice none 0 0,.bool false,.slice none 0 0,.slice none 0 0,.bool false,.slice none 0 0,.slice none 0 0,.bool false,.slice none 0 0,.slice none 0 0,.bool false,.slice none 0 0,.slice none 0 0]:Array Value)[x]? ≠ some (.int k v):=free18 ⟨⟨false,none,0,0,none,0,0⟩,⟨false,none,0,0,none,0,0⟩,⟨false,none,0,0,none,0,0⟩,⟨false,none,0,0,none,0,0⟩,⟨false,none,0,0,none,0,0⟩,⟨false,none,0,0,none,0,0⟩⟩
theorem res_M {fn:Func} {a:Tmp} (h:fn.results=#[.cell a 71]) (tmps:Array Value) (w:World) {g:Nat} {c:Array Value} (ha:tmps[a]?.getD undef=.pointer (some ⟨g,0,none⟩)) (hl:(LVM ⟨g,0,none⟩).run Tryz.prog w=.ok (.agg c) w):(results fn tmps).run Tryz.prog w=.ok (.agg c) w:=by
 unfold results
 rw [h]
 simp only [List.mapM_toArray]
 simp [asAddr,ha,open_LVM,hl]
attribute [local go_sem ↓] open_LVM open_STM open_LVN open_STN
theorem run_loadM {e1:Operand→Value} {x1:Operand} {d1:Option Tmp} {y1 g:Nat} {pos:String} {af:Array Edge} {a0 a1 a2 a3 a4 a5 a6 a7 a8 a9 a10 a11 a12 a13 a14 a15 a16 a17:Value} (h:e1 x1=.pointer (some ⟨g,0,none⟩)) (Z:B18 w g a0 a1 a2 a3 a4 a5 a6 a7 a8 a9 a10 a11 a12 a13 a14 a15 a16 a17) :
 (execOp e1 ⟨d1,.load 71 x1,y1,pos,af,none⟩).run Tryz.prog w=.ok (.value (.agg #[a0,a1,a2,a3,a4,a5,a6,a7,a8,a9,a10,a11,a12,a13,a14,a15,a16,a17])) w:=by
 have hl:=Z.ld
 go_simp
theorem run_allocM {e1:Operand→Value} {d1:Option Tmp} {y1:Nat} {pos:String} {af:Array Edge} :
 (execOp e1 ⟨d1,.alloc 71,y1,pos,af,none⟩).run Tryz.prog w=.ok (.value (.pointer (some ⟨w.heap.size,0,none⟩))) (w.alloc (.cells #[.bool false,.slice none 0 0,.slice none 0 0,.bool false,.slice none 0 0,.slice none 0 0,.bool false,.slice none 0 0,.slice none 0 0,.bool false,.slice none 0 0,.slice none 0 0,.bool false,.slice none 0 0,.slice none 0 0,.bool false,.slice none 0 0,.slice none 0 0] 71)):=by
 go_simp
theorem run_storeM {e1:Operand→Value} {x1 z1:Operand} {d1:Option Tmp} {y1 g:Nat} {pos:String} {af:Array Edge} {u:MV} {a0 a1 a2 a3 a4 a5 a6 a7 a8 a9 a10 a11 a12 a13 a14 a15 a16 a17:Value} (h:e1 x1=.pointer (some ⟨g,0,none⟩)) (hz:e1 z1=.agg #[.bool u.a.s,.slice u.a.A u.a.n u.a.c,.slice u.a.B u.a.m u.a.d,.bool u.b.s,.slice u.b.A u.b.n u.b.c,.slice u.b.B u.b.m u.b.d,.bool u.c.s,.slice u.c.A u.c.n u.c.c,.slice u.c.B u.c.m u.c.d,.bool u.d.s,.slice u.d.A u.d.n u.d.c,.slice u.d.B u.d.m u.d.d,.bool u.e.s,.slice u.e.A u.e.n u.e.c,.slice u.e.B u.e.m u.e.d,.bool u.f.s,.slice u.f.A u.f.n u.f.c,.slice u.f.B u.f.m u.f.d]) (Z:B18 w g a0 a1 a2 a3 a4 a5 a6 a7 a8 a9 a10 a11 a12 a13 a14 a15 a16 a17) :
 (execOp e1 ⟨d1,.store 71 x1 z1,y1,pos,af,none⟩).run Tryz.prog w=.ok .skip ((((((((((((((((((w.setCell ⟨g,0,none⟩ (.bool u.a.s)).setCell ⟨g,1,none⟩ (.slice u.a.A u.a.n u.a.c)).setCell ⟨g,2,none⟩ (.slice u.a.B u.a.m u.a.d)).setCell ⟨g,3,none⟩ (.bool u.b.s)).setCell ⟨g,4,none⟩ (.slice u.b.A u.b.n u.b.c)).setCell ⟨g,5,none⟩ (.slice u.b.B u.b.m u.b.d)).setCell ⟨g,6,none⟩ (.bool u.c.s)).setCell ⟨g,7,none⟩ (.slice u.c.A u.c.n u.c.c)).setCell ⟨g,8,none⟩ (.slice u.c.B u.c.m u.c.d)).setCell ⟨g,9,none⟩ (.bool u.d.s)).setCell ⟨g,10,none⟩ (.slice u.d.A u.d.n u.d.c)).setCell ⟨g,11,none⟩ (.slice u.d.B u.d.m u.d.d)).setCell ⟨g,12,none⟩ (.bool u.e.s)).setCell ⟨g,13,none⟩ (.slice u.e.A u.e.n u.e.c)).setCell ⟨g,14,none⟩ (.slice u.e.B u.e.m u.e.d)).setCell ⟨g,15,none⟩ (.bool u.f.s)).setCell ⟨g,16,none⟩ (.slice u.f.A u.f.n u.f.c)).setCell ⟨g,17,none⟩ (.slice u.f.B u.f.m u.f.d)):=by
 have hs:=Z.st (.bool u.a.s) (.slice u.a.A u.a.n u.a.c) (.slice u.a.B u.a.m u.a.d) (.bool u.b.s) (.slice u.b.A u.b.n u.b.c) (.slice u.b.B u.b.m u.b.d) (.bool u.c.s) (.slice u.c.A u.c.n u.c.c) (.slice u.c.B u.c.m u.c.d) (.bool u.d.s) (.slice u.d.A u.d.n u.d.c) (.slice u.d.B u.d.m u.d.d) (.bool u.e.s) (.slice u.e.A u.e.n u.e.c) (.slice u.e.B u.e.m u.e.d) (.bool u.f.s) (.slice u.f.A u.f.n u.f.c) (.slice u.f.B u.f.m u.f.d) (by simp [Value.oneCell'])
 go_simp
def VMT (v:AM) (k l:Nat) (x:Value) (w:World):Prop:=∃ u:MV,x=.agg #[.bool u.a.s,.slice u.a.A u.a.n u.a.c,.slice u.a.B u.a.m u.a.d,.bool u.b.s,.slice u.b.A u.b.n u.b.c,.slice u.b.B u.b.m u.b.d,.bool u.c.s,.slice u.c.A u.c.n u.c.c,.slice u.c.B u.c.m u.c.d,.bool u.d.s,.slice u.d.A u.d.n u.d.c,.slice u.d.B u.d.m u.d.d,.bool u.e.s,.slice u.e.A u.e.n u.e.c,.slice u.e.B u.e.m u.e.d,.bool u.f.s,.slice u.f.A u.f.n u.f.c,.slice u.f.B u.f.m u.f.d]∧MG w u v k l
theorem MG.box {T:TypeId} {w w':World} {g:Nat} {cs:Array Value} {u:MV} {v:AM} {k l:Nat} (h:MG w u v k l) (Z:BoxAt T w g cs) (ho:Only g w w'):MG w' u v k l:=⟨⟨h.1.1.box Z ho,h.1.2.box Z ho⟩,⟨h.2.1.1.box Z ho,h.2.1.2.box Z ho⟩,⟨h.2.2.1.box Z ho,h.2.2.2.box Z ho⟩⟩
theorem stays_mt (v:AM) (k l:Nat):Stays (VMT v k l) :=
 ⟨fun _ _ _ ⟨u,h1,h2⟩ hb=>⟨u,h1,h2.below hb⟩,fun _ _ _ _ _ _ ⟨u,h1,h2⟩ hB ho=>⟨u,h1,h2.box hB ho⟩⟩
theorem run_fM0 {e1:Operand→Value} {x1:Operand} {d1:Option Tmp} {y1 g:Nat} {pos:String} {af:Array Edge} (h:e1 x1=.pointer (some ⟨g,0,none⟩)) :
 (execOp e1 ⟨d1,.fieldAddr 71 x1 0,y1,pos,af,none⟩).run Tryz.prog w=.ok (.value (.pointer (some ⟨g,0,none⟩))) w:=by
 go_simp
theorem run_loadM0 {e1:Operand→Value} {x1:Operand} {d1:Option Tmp} {y1 g:Nat} {pos:String} {af:Array Edge} {a0 a1 a2 a3 a4 a5 a6 a7 a8 a9 a10 a11 a12 a13 a14 a15 a16 a17:Value} (h:e1 x1=.pointer (some ⟨g,0,none⟩)) (Z:B18 w g a0 a1 a2 a3 a4 a5 a6 a7 a8 a9 a10 a11 a12 a13 a14 a15 a16 a17) :
 (execOp e1 ⟨d1,.load 27 x1,y1,pos,af,none⟩).run Tryz.prog w=.ok (.value (.agg #[a0,a1,a2])) w:=by
 obtain ⟨h0,h1,h2⟩:=Z.all
 go_simp
theorem run_fM1 {e1:Operand→Value} {x1:Operand} {d1:Option Tmp} {y1 g:Nat} {pos:String} {af:Array Edge} (h:e1 x1=.pointer (some ⟨g,0,none⟩)) :
 (execOp e1 ⟨d1,.fieldAddr 71 x1 1,y1,pos,af,none⟩).run Tryz.prog w=.ok (.value (.pointer (some ⟨g,3,none⟩))) w:=by
 go_simp
theorem run_loadM1 {e1:Operand→Value} {x1:Operand} {d1:Option Tmp} {y1 g:Nat} {pos:String} {af:Array Edge} {a0 a1 a2 a3 a4 a5 a6 a7 a8 a9 a10 a11 a12 a13 a14 a15 a16 a17:Value} (h:e1 x1=.pointer (some ⟨g,3,none⟩)) (Z:B18 w g a0 a1 a2 a3 a4 a5 a6 a7 a8 a9 a10 a11 a12 a13 a14 a15 a16 a17) :
 (execOp e1 ⟨d1,.load 27 x1,y1,pos,af,none⟩).run Tryz.prog w=.ok (.value (.agg #[a3,a4,a5])) w:=by
 have h0:=Z.c3;have h1:=Z.c4;have h2:=Z.c5
 go_simp
theorem run_fM2 {e1:Operand→Value} {x1:Operand} {d1:Option Tmp} {y1 g:Nat} {pos:String} {af:Array Edge} (h:e1 x1=.pointer (some ⟨g,0,none⟩)) :
 (execOp e1 ⟨d1,.fieldAddr 71 x1 2,y1,pos,af,none⟩).run Tryz.prog w=.ok (.value (.pointer (some ⟨g,6,none⟩))) w:=by
 go_simp
theorem run_loadM2 {e1:Operand→Value} {x1:Operand} {d1:Option Tmp} {y1 g:Nat} {pos:String} {af:Array Edge} {a0 a1 a2 a3 a4 a5 a6 a7 a8 a9 a10 a11 a12 a13 a14 a15 a16 a17:Value} (h:e1 x1=.pointer (some ⟨g,6,none⟩)) (Z:B18 w g a0 a1 a2 a3 a4 a5 a6 a7 a8 a9 a10 a11 a12 a13 a14 a15 a16 a17) :
 (execOp e1 ⟨d1,.load 27 x1,y1,pos,af,none⟩).run Tryz.prog w=.ok (.value (.agg #[a6,a7,a8])) w:=by
 have h0:=Z.c6;have h1:=Z.c7;have h2:=Z.c8
 go_simp
theorem run_fM3 {e1:Operand→Value} {x1:Operand} {d1:Option Tmp} {y1 g:Nat} {pos:String} {af:Array Edge} (h:e1 x1=.pointer (some ⟨g,0,none⟩)) :
 (execOp e1 ⟨d1,.fieldAddr 71 x1 3,y1,pos,af,none⟩).run Tryz.prog w=.ok (.value (.pointer (some ⟨g,9,none⟩))) w:=by
 go_simp
theorem run_loadM3 {e1:Operand→Value} {x1:Operand} {d1:Option Tmp} {y1 g:Nat} {pos:String} {af:Array Edge} {a0 a1 a2 a3 a4 a5 a6 a7 a8 a9 a10 a11 a12 a13 a14 a15 a16 a17:Value} (h:e1 x1=.pointer (some ⟨g,9,none⟩)) (Z:B18 w g a0 a1 a2 a3 a4 a5 a6 a7 a8 a9 a10 a11 a12 a13 a14 a15 a16 a17) :
 (execOp e1 ⟨d1,.load 27 x1,y1,pos,af,none⟩).run Tryz.prog w=.ok (.value (.agg #[a9,a10,a11])) w:=by
 have h0:=Z.c9;have h1:=Z.c10;have h2:=Z.c11
 go_simp
theorem RM.box {T:TypeId} {w w':World} {g:Nat} {cs:Array Value} {u:MV} {v:AM} {k l:Nat} (h:RM w u v k l) (Z:BoxAt T w g cs) (ho:Only g w w'):RM w' u v k l:=⟨⟨h.1.1.box Z ho,h.1.2.box Z ho⟩,⟨h.2.1.1.box Z ho,h.2.1.2.box Z ho⟩,⟨h.2.2.1.box Z ho,h.2.2.2.box Z ho⟩⟩
def VPR (x y:Rat) (k:Nat) (v:Value) (w:World):Prop:=∃ s A n c B m d t E i e F j f,v=.agg #[.bool s,.slice A n c,.slice B m d,.bool t,.slice E i e,.slice F j f]∧PR w s A n c B m d t E i e F j f x y k
theorem stays_pr (x y:Rat) (k:Nat):Stays (VPR x y k) :=
 ⟨fun _ _ _ ⟨s,A,n,c,B,m,d,t,E,i,e,F,j,f,h1,h2⟩ hb=>⟨s,A,n,c,B,m,d,t,E,i,e,F,j,f,h1,h2.below hb⟩,fun _ _ _ _ _ _ ⟨s,A,n,c,B,m,d,t,E,i,e,F,j,f,h1,h2⟩ hB ho=>⟨s,A,n,c,B,m,d,t,E,i,e,F,j,f,h1,⟨h2.1.box hB ho,h2.2.box hB ho⟩⟩⟩
def QV.zero:QV:=⟨false,none,0,0,none,0,0⟩
def MU (w:World) (m:MV) (v:AM) (k _l:Nat):Prop:=PG w m.a.s m.a.A m.a.n m.a.c m.a.B m.a.m m.a.d m.b.s m.b.A m.b.n m.b.c m.b.B m.b.m m.b.d v.a v.b k∧PG w m.c.s m.c.A m.c.n m.c.c m.c.B m.c.m m.c.d m.d.s m.d.A m.d.n m.d.c m.d.B m.d.m m.d.d v.c v.d k∧m.e=QV.zero∧m.f=QV.zero∧v.e=0∧v.f=0
section
variable {w w':World} {m:MV} {v:AM} {k l:Nat}
theorem MU.below (h:MU w m v k l) (hb:Below w.heap.size w w'):MU w' m v k l:=⟨h.1.below hb,h.2.1.below hb,h.2.2⟩
theorem MU.box {T:TypeId} {g:Nat} {cs:Array Value} (h:MU w m v k l) (Z:BoxAt T w g cs) (ho:Only g w w'):MU w' m v k l:=⟨⟨h.1.1.box Z ho,h.1.2.box Z ho⟩,⟨h.2.1.1.box Z ho,h.2.1.2.box Z ho⟩,h.2.2⟩
end
def VMU (v:AM) (k l:Nat) (x:Value) (w:World):Prop:=∃ u:MV,x=.agg #[.bool u.a.s,.slice u.a.A u.a.n u.a.c,.slice u.a.B u.a.m u.a.d,.bool u.b.s,.slice u.b.A u.b.n u.b.c,.slice u.b.B u.b.m u.b.d,.bool u.c.s,.slice u.c.A u.c.n u.c.c,.slice u.c.B u.c.m u.c.d,.bool u.d.s,.slice u.d.A u.d.n u.d.c,.slice u.d.B u.d.m u.d.d,.bool u.e.s,.slice u.e.A u.e.n u.e.c,.slice u.e.B u.e.m u.e.d,.bool u.f.s,.slice u.f.A u.f.n u.f.c,.slice u.f.B u.f.m u.f.d]∧MU w u v k l
theorem stays_mu (v:AM) (k l:Nat):Stays (VMU v k l) :=
 ⟨fun _ _ _ ⟨u,h1,h2⟩ hb=>⟨u,h1,h2.below hb⟩,fun _ _ _ _ _ _ ⟨u,h1,h2⟩ hB ho=>⟨u,h1,h2.box hB ho⟩⟩
theorem store_mu {ac:Act} {x1 z:Operand} {y1 g:Nat} {pos:String} {af:Array Edge} {Q:Exit→Act→World→Prop} {v:AM} {k l:Nat} (p1:ac.eval x1=.pointer (some ⟨g,0,none⟩)) (h:VMU v k l (ac.eval z) w) (B:BoxAt 71 w g #[.bool false,.slice none 0 0,.slice none 0 0,.bool false,.slice none 0 0,.slice none 0 0,.bool false,.slice none 0 0,.slice none 0 0,.bool false,.slice none 0 0,.slice none 0 0,.bool false,.slice none 0 0,.slice none 0 0,.bool false,.slice none 0 0,.slice none 0 0]) :
 (⟨none,.store 71 x1 z,y1,pos,af,none⟩:Oper).wp Tryz.prog ac w (fun a'' w''=>a''=ac∧Only g w w''∧∃ cs',BoxAt 71 w'' g cs'∧(fun cs w=>∃ u:MV,cs=#[.bool u.a.s,.slice u.a.A u.a.n u.a.c,.slice u.a.B u.a.m u.a.d,.bool u.b.s,.slice u.b.A u.b.n u.b.c,.slice u.b.B u.b.m u.b.d,.bool u.c.s,.slice u.c.A u.c.n u.c.c,.slice u.c.B u.c.m u.c.d,.bool u.d.s,.slice u.d.A u.d.n u.d.c,.slice u.d.B u.d.m u.d.d,.bool u.e.s,.slice u.e.A u.e.n u.e.c,.slice u.e.B u.e.m u.e.d,.bool u.f.s,.slice u.f.A u.f.n u.f.c,.slice u.f.B u.f.m u.f.d]∧MU w u v k l) cs' w'') Q:=by
 obtain ⟨u,h1,h2⟩:=h
 have Z:B18 w g (.bool false) (.slice none 0 0) (.slice none 0 0) (.bool false) (.slice none 0 0) (.slice none 0 0) (.bool false) (.slice none 0 0) (.slice none 0 0) (.bool false) (.slice none 0 0) (.slice none 0 0) (.bool false) (.slice none 0 0) (.slice none 0 0) (.bool false) (.slice none 0 0) (.slice none 0 0):=B.at_
 unfold Oper.wp
 rw [run_storeM p1 h1 Z,Oper.upon_skip]
 have ho:=only_set18 w g (.bool u.a.s) (.slice u.a.A u.a.n u.a.c) (.slice u.a.B u.a.m u.a.d) (.bool u.b.s) (.slice u.b.A u.b.n u.b.c) (.slice u.b.B u.b.m u.b.d) (.bool u.c.s) (.slice u.c.A u.c.n u.c.c) (.slice u.c.B u.c.m u.c.d) (.bool u.d.s) (.slice u.d.A u.d.n u.d.c) (.slice u.d.B u.d.m u.d.d) (.bool u.e.s) (.slice u.e.A u.e.n u.e.c) (.slice u.e.B u.e.m u.e.d) (.bool u.f.s) (.slice u.f.A u.f.n u.f.c) (.slice u.f.B u.f.m u.f.d)
 exact ⟨put_none ac undef,ho,#[.bool u.a.s,.slice u.a.A u.a.n u.a.c,.slice u.a.B u.a.m u.a.d,.bool u.b.s,.slice u.b.A u.b.n u.b.c,.slice u.b.B u.b.m u.b.d,.bool u.c.s,.slice u.c.A u.c.n u.c.c,.slice u.c.B u.c.m u.c.d,.bool u.d.s,.slice u.d.A u.d.n u.d.c,.slice u.d.B u.d.m u.d.d,.bool u.e.s,.slice u.e.A u.e.n u.e.c,.slice u.e.B u.e.m u.e.d,.bool u.f.s,.slice u.f.A u.f.n u.f.c,.slice u.f.B u.f.m u.f.d],⟨Z.set18 (.bool u.a.s) (.slice u.a.A u.a.n u.a.c) (.slice u.a.B u.a.m u.a.d) (.bool u.b.s) (.slice u.b.A u.b.n u.b.c) (.slice u.b.B u.b.m u.b.d) (.bool u.c.s) (.slice u.c.A u.c.n u.c.c) (.slice u.c.B u.c.m u.c.d) (.bool u.d.s) (.slice u.d.A u.d.n u.d.c) (.slice u.d.B u.d.m u.d.d) (.bool u.e.s) (.slice u.e.A u.e.n u.e.c) (.slice u.e.B u.e.m u.e.d) (.bool u.f.s) (.slice u.f.A u.f.n u.f.c) (.slice u.f.B u.f.m u.f.d),free18 u⟩,u,rfl,h2.box B ho⟩
theorem run_build6 {e1:Operand→Value} {x1 x2:Operand} {d1:Option Tmp} {y1:Nat} {pos:String} {af:Array Edge} {a b c d e f:Value} (h:e1 x1=.agg #[a,b,c]) (h2:e1 x2=.agg #[d,e,f]) :
 (execOp e1 ⟨d1,.build 29 #[(0,x1),(1,x2)],y1,pos,af,none⟩).run Tryz.prog w=.ok (.value (.agg #[a,b,c,d,e,f])) w:=by
 go_simp
theorem B6.restm {W W':World} {g k:Nat} {x y z u v t:Value} (h:B6 W g x y z u v t) (hne:g ≠ k) (ho:Only k W W'):B6 W' g x y z u v t:=(ho.block g h.lt hne).trans h
theorem B6R.restm {W W':World} {g k:Nat} {x y z u v t:Value} (h:B6R W g x y z u v t) (hne:g ≠ k) (ho:Only k W W'):B6R W' g x y z u v t:=(ho.block g h.lt hne).trans h
theorem B3.restm {W W':World} {g k:Nat} {x y z:Value} (h:B3 W g x y z) (hne:g ≠ k) (ho:Only k W W'):B3 W' g x y z:=(ho.block g h.lt hne).trans h
theorem B3R.restm {W W':World} {g k:Nat} {x y z:Value} (h:B3R W g x y z) (hne:g ≠ k) (ho:Only k W W'):B3R W' g x y z:=(ho.block g h.lt hne).trans h
theorem only_set6 (W:World) (g:Nat) (a b c d e f:Value):Only g W ((((((W.setCell ⟨g,0,none⟩ a).setCell ⟨g,1,none⟩ b).setCell ⟨g,2,none⟩ c).setCell ⟨g,3,none⟩ d).setCell ⟨g,4,none⟩ e).setCell ⟨g,5,none⟩ f):=((((((Only.refl g W).setCell 0 _).setCell 1 _).setCell 2 _).setCell 3 _).setCell 4 _).setCell 5 _
theorem only_set3 (W:World) (g:Nat) (a b c:Value):Only g W (((W.setCell ⟨g,0,none⟩ a).setCell ⟨g,1,none⟩ b).setCell ⟨g,2,none⟩ c):=(((Only.refl g W).setCell 0 _).setCell 1 _).setCell 2 _
theorem run_build0 {e1:Operand→Value} {d1:Option Tmp} {y1:Nat} {pos:String} {af:Array Edge} :
 (execOp e1 ⟨d1,.build 29 #[],y1,pos,af,none⟩).run Tryz.prog w=.ok (.value (.agg #[.bool false,.slice none 0 0,.slice none 0 0,.bool false,.slice none 0 0,.slice none 0 0])) w:=by
 go_simp
theorem B18.setef {W:World} {g:Nat} {v0 v1 v2 v3 v4 v5 v6 v7 v8 v9 v10 v11 v12 v13 v14 v15 v16 v17:Value} (h:B18 W g v0 v1 v2 v3 v4 v5 v6 v7 v8 v9 v10 v11 v12 v13 v14 v15 v16 v17) (a0 a1 a2 a3 a4 a5:Value):B18 ((((((W.setCell ⟨g,12,none⟩ a0).setCell ⟨g,13,none⟩ a1).setCell ⟨g,14,none⟩ a2).setCell ⟨g,15,none⟩ a3).setCell ⟨g,16,none⟩ a4).setCell ⟨g,17,none⟩ a5) g v0 v1 v2 v3 v4 v5 v6 v7 v8 v9 v10 v11 a0 a1 a2 a3 a4 a5:=by
 unfold B18 at h ⊢
 have h0:=heap_setCell_same _ g 12 _ _ a0 h
 simp only [List.setIfInBounds_toArray,List.set_cons_zero,List.set_cons_succ] at h0
 have h1:=heap_setCell_same _ g 13 _ _ a1 h0
 simp only [List.setIfInBounds_toArray,List.set_cons_zero,List.set_cons_succ] at h1
 have h2:=heap_setCell_same _ g 14 _ _ a2 h1
 simp only [List.setIfInBounds_toArray,List.set_cons_zero,List.set_cons_succ] at h2
 have h3:=heap_setCell_same _ g 15 _ _ a3 h2
 simp only [List.setIfInBounds_toArray,List.set_cons_zero,List.set_cons_succ] at h3
 have h4:=heap_setCell_same _ g 16 _ _ a4 h3
 simp only [List.setIfInBounds_toArray,List.set_cons_zero,List.set_cons_succ] at h4
 have h5:=heap_setCell_same _ g 17 _ _ a5 h4
 simp only [List.setIfInBounds_toArray,List.set_cons_zero,List.set_cons_succ] at h5
 exact h5
theorem B18R.setef {W:World} {g:Nat} {v0 v1 v2 v3 v4 v5 v6 v7 v8 v9 v10 v11 v12 v13 v14 v15 v16 v17:Value} (h:B18R W g v0 v1 v2 v3 v4 v5 v6 v7 v8 v9 v10 v11 v12 v13 v14 v15 v16 v17) (a0 a1 a2 a3 a4 a5:Value):B18R ((((((W.setCell ⟨g,12,none⟩ a0).setCell ⟨g,13,none⟩ a1).setCell ⟨g,14,none⟩ a2).setCell ⟨g,15,none⟩ a3).setCell ⟨g,16,none⟩ a4).setCell ⟨g,17,none⟩ a5) g v0 v1 v2 v3 v4 v5 v6 v7 v8 v9 v10 v11 a0 a1 a2 a3 a4 a5:=by
 unfold B18R at h ⊢
 have h0:=heap_setCell_same _ g 12 _ _ a0 h
 simp only [List.setIfInBounds_toArray,List.set_cons_zero,List.set_cons_succ] at h0
 have h1:=heap_setCell_same _ g 13 _ _ a1 h0
 simp only [List.setIfInBounds_toArray,List.set_cons_zero,List.set_cons_succ] at h1
 have h2:=heap_setCell_same _ g 14 _ _ a2 h1
 simp only [List.setIfInBounds_toArray,List.set_cons_zero,List.set_cons_succ] at h2
 have h3:=heap_setCell_same _ g 15 _ _ a3 h2
 simp only [List.setIfInBounds_toArray,List.set_cons_zero,List.set_cons_succ] at h3
 have h4:=heap_setCell_same _ g 16 _ _ a4 h3
 simp only [List.setIfInBounds_toArray,List.set_cons_zero,List.set_cons_succ] at h4
 have h5:=heap_setCell_same _ g 17 _ _ a5 h4
 simp only [List.setIfInBounds_toArray,List.set_cons_zero,List.set_cons_succ] at h5
 exact h5
theorem only_setef (W:World) (g:Nat) (a b c d e f:Value):Only g W ((((((W.setCell ⟨g,12,none⟩ a).setCell ⟨g,13,none⟩ b).setCell ⟨g,14,none⟩ c).setCell ⟨g,15,none⟩ d).setCell ⟨g,16,none⟩ e).setCell ⟨g,17,none⟩ f):=((((((Only.refl g W).setCell 12 _).setCell 13 _).setCell 14 _).setCell 15 _).setCell 16 _).setCell 17 _
theorem below_setef {B g:Nat} {w W:World} (h:Below B w W) (hg:B≤g) (a b c d e f:Value):Below B w ((((((W.setCell ⟨g,12,none⟩ a).setCell ⟨g,13,none⟩ b).setCell ⟨g,14,none⟩ c).setCell ⟨g,15,none⟩ d).setCell ⟨g,16,none⟩ e).setCell ⟨g,17,none⟩ f):=(((((h.setCell hg _).setCell hg _).setCell hg _).setCell hg _).setCell hg _).setCell hg _
end
section
open Go Go.RowKit
attribute [local go_sem ↓] open_LVM open_STM open_LVN open_STN
theorem mkbx29_12 {w W:World} {x0 x1 x2 x3 x4 x5 x6 x7 x8 x9 x10 x11 x12 x13 x14 x15 x16 x17 x18 x19 x20 x21 x22 x23:Value} (h:((w.alloc (Obj.cells #[x0,x1,x2,x3,x4,x5,x6,x7,x8,x9,x10,x11,x12,x13,x14,x15,x16,x17] 71)).alloc (Obj.cells #[x18,x19,x20,x21,x22,x23] 29))=W):Below w.heap.size w W∧B18 W (w.heap.size) x0 x1 x2 x3 x4 x5 x6 x7 x8 x9 x10 x11 x12 x13 x14 x15 x16 x17∧B6 W (w.heap.size+1) x18 x19 x20 x21 x22 x23∧W.heap.size=w.heap.size+2:=by subst h;exact ⟨by exact (((Below.refl _ _).alloc (Nat.le_refl _) _).alloc (by simp) _),by exact (B18.new' _ _ _ _ _ _ _ _ _ _ _ _ _ _ _ _ _ _ _ _ rfl).alloc _,by exact B6.new' _ _ _ _ _ _ _ _ (by simp),by simp⟩
theorem mfirst_any {m:MV} :
 Calls Tryz.prog 112 #[.agg #[.bool m.a.s,.slice m.a.A m.a.n m.a.c,.slice m.a.B m.a.m m.a.d,.bool m.b.s,.slice m.b.A m.b.n m.b.c,.slice m.b.B m.b.m m.b.d,.bool m.c.s,.slice m.c.A m.c.n m.c.c,.slice m.c.B m.c.m m.c.d,.bool m.d.s,.slice m.d.A m.d.n m.d.c,.slice m.d.B m.d.m m.d.d,.bool m.e.s,.slice m.e.A m.e.n m.e.c,.slice m.e.B m.e.m m.e.d,.bool m.f.s,.slice m.f.A m.f.n m.f.c,.slice m.f.B m.f.m m.f.d]] w fun e w'=>e=.returned (.agg #[.bool m.a.s,.slice m.a.A m.a.n m.a.c,.slice m.a.B m.a.m m.a.d,.bool m.b.s,.slice m.b.A m.b.n m.b.c,.slice m.b.B m.b.m m.b.d])∧Below w.heap.size w w':=by
 go_enter Tryz.func112,Tryz.ntmps112
 go_upto_region 1 with (fail)
 generalize hW:World.alloc _ _=W
 obtain ⟨hb,XA,Z,hzW⟩:=mkbx29_12 hW;clear hW;obtain ⟨xa0,xa1,xa2,xa3,xa4,xa5,xa6,xa7,xa8,xa9,xa10,xa11,xa12,xa13,xa14,xa15,xa16,xa17⟩:=XA.all;have zg0:=Z.f0;have zg1:=Z.f1;have zg2:=Z.f2;have zg3:=Z.f3;have zg4:=Z.f4;have zg5:=Z.f5;obtain ⟨zc0,zc1,zc2,zc3,zc4,zc5⟩:=Z.all
 go_wp2_with fail
 have Z2:=Z.set6 (.bool m.a.s) (.slice m.a.A m.a.n m.a.c) (.slice m.a.B m.a.m m.a.d) (.bool m.b.s) (.slice m.b.A m.b.n m.b.c) (.slice m.b.B m.b.m m.b.d)
 obtain ⟨g0,g1,g2,g3,g4,g5⟩:=Z2.all
 refine bodyPost_ret (v:=.agg #[.bool m.a.s,.slice m.a.A m.a.n m.a.c,.slice m.a.B m.a.m m.a.d,.bool m.b.s,.slice m.b.A m.b.n m.b.c,.slice m.b.B m.b.m m.b.d]) (by simp [results,Tryz.results112,go_sem,g0,g1,g2,g3,g4,g5]) rfl ?_
 exact ⟨rfl,below_set6 hb (by omega) _ _ _ _ _ _⟩
theorem msecond_any {m:MV} :
 Calls Tryz.prog 113 #[.agg #[.bool m.a.s,.slice m.a.A m.a.n m.a.c,.slice m.a.B m.a.m m.a.d,.bool m.b.s,.slice m.b.A m.b.n m.b.c,.slice m.b.B m.b.m m.b.d,.bool m.c.s,.slice m.c.A m.c.n m.c.c,.slice m.c.B m.c.m m.c.d,.bool m.d.s,.slice m.d.A m.d.n m.d.c,.slice m.d.B m.d.m m.d.d,.bool m.e.s,.slice m.e.A m.e.n m.e.c,.slice m.e.B m.e.m m.e.d,.bool m.f.s,.slice m.f.A m.f.n m.f.c,.slice m.f.B m.f.m m.f.d]] w fun e w'=>e=.returned (.agg #[.bool m.c.s,.slice m.c.A m.c.n m.c.c,.slice m.c.B m.c.m m.c.d,.bool m.d.s,.slice m.d.A m.d.n m.d.c,.slice m.d.B m.d.m m.d.d])∧Below w.heap.size w w':=by
 go_enter Tryz.func113,Tryz.ntmps113
 go_upto_region 1 with (fail)
 generalize hW:World.alloc _ _=W
 obtain ⟨hb,XA,Z,hzW⟩:=mkbx29_12 hW;clear hW;obtain ⟨xa0,xa1,xa2,xa3,xa4,xa5,xa6,xa7,xa8,xa9,xa10,xa11,xa12,xa13,xa14,xa15,xa16,xa17⟩:=XA.all;have zg0:=Z.f0;have zg1:=Z.f1;have zg2:=Z.f2;have zg3:=Z.f3;have zg4:=Z.f4;have zg5:=Z.f5;obtain ⟨zc0,zc1,zc2,zc3,zc4,zc5⟩:=Z.all
 go_wp2_with fail
 have Z2:=Z.set6 (.bool m.c.s) (.slice m.c.A m.c.n m.c.c) (.slice m.c.B m.c.m m.c.d) (.bool m.d.s) (.slice m.d.A m.d.n m.d.c) (.slice m.d.B m.d.m m.d.d)
 obtain ⟨g0,g1,g2,g3,g4,g5⟩:=Z2.all
 refine bodyPost_ret (v:=.agg #[.bool m.c.s,.slice m.c.A m.c.n m.c.c,.slice m.c.B m.c.m m.c.d,.bool m.d.s,.slice m.d.A m.d.n m.d.c,.slice m.d.B m.d.m m.d.d]) (by simp [results,Tryz.results113,go_sem,g0,g1,g2,g3,g4,g5]) rfl ?_
 exact ⟨rfl,below_set6 hb (by omega) _ _ _ _ _ _⟩
theorem mmoved_any {m:MV} :
 Calls Tryz.prog 108 #[.agg #[.bool m.a.s,.slice m.a.A m.a.n m.a.c,.slice m.a.B m.a.m m.a.d,.bool m.b.s,.slice m.b.A m.b.n m.b.c,.slice m.b.B m.b.m m.b.d,.bool m.c.s,.slice m.c.A m.c.n m.c.c,.slice m.c.B m.c.m m.c.d,.bool m.d.s,.slice m.d.A m.d.n m.d.c,.slice m.d.B m.d.m m.d.d,.bool m.e.s,.slice m.e.A m.e.n m.e.c,.slice m.e.B m.e.m m.e.d,.bool m.f.s,.slice m.f.A m.f.n m.f.c,.slice m.f.B m.f.m m.f.d]] w fun e w'=>e=.returned (.agg #[.bool m.e.s,.slice m.e.A m.e.n m.e.c,.slice m.e.B m.e.m m.e.d,.bool m.f.s,.slice m.f.A m.f.n m.f.c,.slice m.f.B m.f.m m.f.d])∧Below w.heap.size w w':=by
 go_enter Tryz.func108,Tryz.ntmps108
 go_upto_region 1 with (fail)
 generalize hW:World.alloc _ _=W
 obtain ⟨hb,XA,Z,hzW⟩:=mkbx29_12 hW;clear hW;obtain ⟨xa0,xa1,xa2,xa3,xa4,xa5,xa6,xa7,xa8,xa9,xa10,xa11,xa12,xa13,xa14,xa15,xa16,xa17⟩:=XA.all;have zg0:=Z.f0;have zg1:=Z.f1;have zg2:=Z.f2;have zg3:=Z.f3;have zg4:=Z.f4;have zg5:=Z.f5;obtain ⟨zc0,zc1,zc2,zc3,zc4,zc5⟩:=Z.all
 go_wp2_with fail
 have Z2:=Z.set6 (.bool m.e.s) (.slice m.e.A m.e.n m.e.c) (.slice m.e.B m.e.m m.e.d) (.bool m.f.s) (.slice m.f.A m.f.n m.f.c) (.slice m.f.B m.f.m m.f.d)
 obtain ⟨g0,g1,g2,g3,g4,g5⟩:=Z2.all
 refine bodyPost_ret (v:=.agg #[.bool m.e.s,.slice m.e.A m.e.n m.e.c,.slice m.e.B m.e.m m.e.d,.bool m.f.s,.slice m.f.A m.f.n m.f.c,.slice m.f.B m.f.m m.f.d]) (by simp [results,Tryz.results108,go_sem,g0,g1,g2,g3,g4,g5]) rfl ?_
 exact ⟨rfl,below_set6 hb (by omega) _ _ _ _ _ _⟩
theorem mkbx30_12 {w W:World} {x0 x1 x2 x3 x4 x5 x6 x7 x8 x9 x10 x11 x12 x13 x14 x15 x16 x17 x18 x19 x20 x21 x22 x23 x24 x25 x26 x27 x28 x29 x30 x31 x32 x33 x34 x35:Value} (h:((((w.alloc (Obj.cells #[x0,x1,x2,x3,x4,x5] 29)).alloc (Obj.cells #[x6,x7,x8,x9,x10,x11] 29)).alloc (Obj.cells #[x12,x13,x14,x15,x16,x17] 29)).alloc (Obj.cells #[x18,x19,x20,x21,x22,x23,x24,x25,x26,x27,x28,x29,x30,x31,x32,x33,x34,x35] 71))=W):Below w.heap.size w W∧B6 W (w.heap.size) x0 x1 x2 x3 x4 x5∧B6 W (w.heap.size+1) x6 x7 x8 x9 x10 x11∧B6 W (w.heap.size+1+1) x12 x13 x14 x15 x16 x17∧B18 W (w.heap.size+1+1+1) x18 x19 x20 x21 x22 x23 x24 x25 x26 x27 x28 x29 x30 x31 x32 x33 x34 x35∧W.heap.size=w.heap.size+4:=by subst h;exact ⟨by exact (((((Below.refl _ _).alloc (Nat.le_refl _) _).alloc (by simp) _).alloc (by simp;omega) _).alloc (by simp;omega) _),by exact (((B6.new' _ _ _ _ _ _ _ _ rfl).alloc _).alloc _).alloc _,by exact ((B6.new' _ _ _ _ _ _ _ _ (by simp)).alloc _).alloc _,by exact (B6.new' _ _ _ _ _ _ _ _ (by simp)).alloc _,by exact B18.new' _ _ _ _ _ _ _ _ _ _ _ _ _ _ _ _ _ _ _ _ (by simp),by simp⟩
theorem mby_p {k l:Nat} {x y x2 y2 x3 y3:Rat} (p:PG w s_p A_p n_p c_p B_p m_p d_p t_p E_p i_p e_p F_p j_p f_p x y k) (q:PG w s_q A_q n_q c_q B_q m_q d_q t_q E_q i_q e_q F_q j_q f_q x2 y2 k) (r:PG w s_r A_r n_r c_r B_r m_r d_r t_r E_r i_r e_r F_r j_r f_r x3 y3 l) :
 Calls Tryz.prog 105 #[.agg #[.bool s_p,.slice A_p n_p c_p,.slice B_p m_p d_p,.bool t_p,.slice E_p i_p e_p,.slice F_p j_p f_p],.agg #[.bool s_q,.slice A_q n_q c_q,.slice B_q m_q d_q,.bool t_q,.slice E_q i_q e_q,.slice F_q j_q f_q],.agg #[.bool s_r,.slice A_r n_r c_r,.slice B_r m_r d_r,.bool t_r,.slice E_r i_r e_r,.slice F_r j_r f_r]] w (GivesMt w ⟨x,y,x2,y2,x3,y3⟩ k l):=by
 go_enter Tryz.func105,Tryz.ntmps105
 go_upto_region 1 with (fail)
 generalize hW:World.alloc _ _=W
 obtain ⟨hb,XA,XB,XC,Z,hzW⟩:=mkbx30_12 hW;clear hW;replace p:=p.below hb;replace q:=q.below hb;replace r:=r.below hb;obtain ⟨xa0,xa1,xa2,xa3,xa4,xa5⟩:=XA.all;obtain ⟨xb0,xb1,xb2,xb3,xb4,xb5⟩:=XB.all;obtain ⟨xc0,xc1,xc2,xc3,xc4,xc5⟩:=XC.all
 have zst:=Z.st (.bool s_p) (.slice A_p n_p c_p) (.slice B_p m_p d_p) (.bool t_p) (.slice E_p i_p e_p) (.slice F_p j_p f_p) (.bool s_q) (.slice A_q n_q c_q) (.slice B_q m_q d_q) (.bool t_q) (.slice E_q i_q e_q) (.slice F_q j_q f_q) (.bool s_r) (.slice A_r n_r c_r) (.slice B_r m_r d_r) (.bool t_r) (.slice E_r i_r e_r) (.slice F_r j_r f_r) (by simp [Value.oneCell'])
 go_wp2_with fail
 have Z2:=Z.set18 (.bool s_p) (.slice A_p n_p c_p) (.slice B_p m_p d_p) (.bool t_p) (.slice E_p i_p e_p) (.slice F_p j_p f_p) (.bool s_q) (.slice A_q n_q c_q) (.slice B_q m_q d_q) (.bool t_q) (.slice E_q i_q e_q) (.slice F_q j_q f_q) (.bool s_r) (.slice A_r n_r c_r) (.slice B_r m_r d_r) (.bool t_r) (.slice E_r i_r e_r) (.slice F_r j_r f_r)
 have gl:=Z2.ld
 refine bodyPost_ret (v:=.agg #[.bool s_p,.slice A_p n_p c_p,.slice B_p m_p d_p,.bool t_p,.slice E_p i_p e_p,.slice F_p j_p f_p,.bool s_q,.slice A_q n_q c_q,.slice B_q m_q d_q,.bool t_q,.slice E_q i_q e_q,.slice F_q j_q f_q,.bool s_r,.slice A_r n_r c_r,.slice B_r m_r d_r,.bool t_r,.slice E_r i_r e_r,.slice F_r j_r f_r]) (res_M Tryz.results105 _ _ (by simp) gl) rfl ?_
 exact ⟨⟨⟨s_p,A_p,n_p,c_p,B_p,m_p,d_p⟩,⟨t_p,E_p,i_p,e_p,F_p,j_p,f_p⟩,⟨s_q,A_q,n_q,c_q,B_q,m_q,d_q⟩,⟨t_q,E_q,i_q,e_q,F_q,j_q,f_q⟩,⟨s_r,A_r,n_r,c_r,B_r,m_r,d_r⟩,⟨t_r,E_r,i_r,e_r,F_r,j_r,f_r⟩⟩,rfl,MG.set18 (m:=⟨⟨s_p,A_p,n_p,c_p,B_p,m_p,d_p⟩,⟨t_p,E_p,i_p,e_p,F_p,j_p,f_p⟩,⟨s_q,A_q,n_q,c_q,B_q,m_q,d_q⟩,⟨t_q,E_q,i_q,e_q,F_q,j_q,f_q⟩,⟨s_r,A_r,n_r,c_r,B_r,m_r,d_r⟩,⟨t_r,E_r,i_r,e_r,F_r,j_r,f_r⟩⟩) (v:=⟨x,y,x2,y2,x3,y3⟩) ⟨p,q,r⟩ Z _ _ _ _ _ _ _ _ _ _ _ _ _ _ _ _ _ _,below_set18 hb (by omega) _ _ _ _ _ _ _ _ _ _ _ _ _ _ _ _ _ _⟩
theorem mkbx31_12 {w W:World} {x0 x1 x2 x3 x4 x5 x6 x7 x8 x9 x10 x11 x12 x13 x14 x15 x16 x17 x18 x19 x20 x21 x22 x23 x24 x25 x26 x27 x28 x29:Value} (h:(((w.alloc (Obj.cells #[x0,x1,x2,x3,x4,x5,x6,x7,x8,x9,x10,x11,x12,x13,x14,x15,x16,x17] 71)).alloc (Obj.cells #[x18,x19,x20,x21,x22,x23] 29)).alloc (Obj.cells #[x24,x25,x26,x27,x28,x29] 29))=W):Below w.heap.size w W∧B18 W (w.heap.size) x0 x1 x2 x3 x4 x5 x6 x7 x8 x9 x10 x11 x12 x13 x14 x15 x16 x17∧B6 W (w.heap.size+1) x18 x19 x20 x21 x22 x23∧B6 W (w.heap.size+1+1) x24 x25 x26 x27 x28 x29∧W.heap.size=w.heap.size+3:=by subst h;exact ⟨by exact ((((Below.refl _ _).alloc (Nat.le_refl _) _).alloc (by simp) _).alloc (by simp;omega) _),by exact ((B18.new' _ _ _ _ _ _ _ _ _ _ _ _ _ _ _ _ _ _ _ _ rfl).alloc _).alloc _,by exact (B6.new' _ _ _ _ _ _ _ _ (by simp)).alloc _,by exact B6.new' _ _ _ _ _ _ _ _ (by simp),by simp⟩
theorem mdir_p {k l k2:Nat} {v:AM} {m:MV} {x y:Rat} (M:MR w m v k l) (p:PR w s_p A_p n_p c_p B_p m_p d_p t_p E_p i_p e_p F_p j_p f_p x y k2) (hk:k+k2≤290) (h1:1≤k) (h2:1≤k2) :
 Calls Tryz.prog 107 #[.agg #[.bool m.a.s,.slice m.a.A m.a.n m.a.c,.slice m.a.B m.a.m m.a.d,.bool m.b.s,.slice m.b.A m.b.n m.b.c,.slice m.b.B m.b.m m.b.d,.bool m.c.s,.slice m.c.A m.c.n m.c.c,.slice m.c.B m.c.m m.c.d,.bool m.d.s,.slice m.d.A m.d.n m.d.c,.slice m.d.B m.d.m m.d.d,.bool m.e.s,.slice m.e.A m.e.n m.e.c,.slice m.e.B m.e.m m.e.d,.bool m.f.s,.slice m.f.A m.f.n m.f.c,.slice m.f.B m.f.m m.f.d],.agg #[.bool s_p,.slice A_p n_p c_p,.slice B_p m_p d_p,.bool t_p,.slice E_p i_p e_p,.slice F_p j_p f_p]] w (GivesPt w (v.dx x y) (v.dy x y) (k+k2+(k+k2)+1)):=by
 go_enter Tryz.func107,Tryz.ntmps107
 go_upto_region 1 with (fail)
 generalize hW:World.alloc _ _=W
 obtain ⟨hb,XA,XB,Z,hzW⟩:=mkbx31_12 hW;clear hW;replace M:=M.below hb;replace p:=p.below hb
 replace M:=M.below (Below.refl _ _).drew
 replace p:=p.below (Below.refl _ _).drew
 replace XA:=XA.below (Below.refl _ _).drew
 replace XB:=XB.below (Below.refl _ _).drew
 replace Z:=Z.below (Below.refl _ _).drew
 replace hb:=hb.drew
 go_region_held3 (fun w'=>(LVM ⟨w.heap.size,0,none⟩).run Tryz.prog w'=.ok (.agg #[.bool m.a.s,.slice m.a.A m.a.n m.a.c,.slice m.a.B m.a.m m.a.d,.bool m.b.s,.slice m.b.A m.b.n m.b.c,.slice m.b.B m.b.m m.b.d,.bool m.c.s,.slice m.c.A m.c.n m.c.c,.slice m.c.B m.c.m m.c.d,.bool m.d.s,.slice m.d.A m.d.n m.d.c,.slice m.d.B m.d.m m.d.d,.bool m.e.s,.slice m.e.A m.e.n m.e.c,.slice m.e.B m.e.m m.e.d,.bool m.f.s,.slice m.f.A m.f.n m.f.c,.slice m.f.B m.f.m m.f.d]) w'∧w'.cell? ⟨w.heap.size+1,0,none⟩=some (.bool s_p)∧w'.cell? ⟨w.heap.size+1,1,none⟩=some (.slice A_p n_p c_p)∧w'.cell? ⟨w.heap.size+1,2,none⟩=some (.slice B_p m_p d_p)∧w'.cell? ⟨w.heap.size+1,3,none⟩=some (.bool t_p)∧w'.cell? ⟨w.heap.size+1,4,none⟩=some (.slice E_p i_p e_p)∧w'.cell? ⟨w.heap.size+1,5,none⟩=some (.slice F_p j_p f_p))
  (first | with_reducible exact ⟨XA.ld,XB.c0,XB.c1,XB.c2,XB.c3,XB.c4,XB.c5⟩ | with_reducible exact ⟨(XA.restm (by omega) (only_set6 _ _ _ _ _ _ _ _)).ld,(XB.restm (by omega) (only_set6 _ _ _ _ _ _ _ _)).c0,(XB.restm (by omega) (only_set6 _ _ _ _ _ _ _ _)).c1,(XB.restm (by omega) (only_set6 _ _ _ _ _ _ _ _)).c2,(XB.restm (by omega) (only_set6 _ _ _ _ _ _ _ _)).c3,(XB.restm (by omega) (only_set6 _ _ _ _ _ _ _ _)).c4,(XB.restm (by omega) (only_set6 _ _ _ _ _ _ _ _)).c5⟩)
  (first
  | (go_at_call 112;(with_reducible refine (mfirst_any).mono ?_);rintro e w_z ⟨rfl,hh⟩
     (try replace M:=M.below hh);(try replace p:=p.below hh);(try replace XA:=XA.below hh);(try replace XB:=XB.below hh);(try replace Z:=Z.below hh);(try replace r1:=r1.below hh);(try replace r2:=r2.below hh);(try replace r3:=r3.below hh);replace hb:=bend hb hh)
  | (go_at_call 113;(with_reducible refine (msecond_any).mono ?_);rintro e w_z ⟨rfl,hh⟩
     (try replace M:=M.below hh);(try replace p:=p.below hh);(try replace XA:=XA.below hh);(try replace XB:=XB.below hh);(try replace Z:=Z.below hh);(try replace r1:=r1.below hh);(try replace r2:=r2.below hh);(try replace r3:=r3.below hh);replace hb:=bend hb hh)
  | (go_at_call 63;(with_reducible refine (pscale_p M.ab p.qx (by omega) (by omega) (.inl (by omega)) (by omega) (by omega)).mono ?_);rintro e w_r1 ⟨s_r1,A_r1,n_r1,c_r1,B_r1,m_r1,d_r1,t_r1,E_r1,i_r1,e_r1,F_r1,j_r1,f_r1,rfl,r1,hh⟩
     (try replace M:=M.below hh);(try replace p:=p.below hh);(try replace XA:=XA.below hh);(try replace XB:=XB.below hh);(try replace Z:=Z.below hh);(try replace r2:=r2.below hh);(try replace r3:=r3.below hh);replace hb:=bend hb hh)
  | (go_at_call 63;(with_reducible refine (pscale_p M.cd p.qy (by omega) (by omega) (.inl (by omega)) (by omega) (by omega)).mono ?_);rintro e w_r2 ⟨s_r2,A_r2,n_r2,c_r2,B_r2,m_r2,d_r2,t_r2,E_r2,i_r2,e_r2,F_r2,j_r2,f_r2,rfl,r2,hh⟩
     (try replace M:=M.below hh);(try replace p:=p.below hh);(try replace XA:=XA.below hh);(try replace XB:=XB.below hh);(try replace Z:=Z.below hh);(try replace r1:=r1.below hh);(try replace r3:=r3.below hh);replace hb:=bend hb hh)
  | (go_at_call 62;(with_reducible refine (padd_p r1.pr r2.pr (by omega) (by omega) (.inl (by omega)) (by omega) (by omega)).mono ?_);rintro e w_r3 ⟨s_r3,A_r3,n_r3,c_r3,B_r3,m_r3,d_r3,t_r3,E_r3,i_r3,e_r3,F_r3,j_r3,f_r3,rfl,r3,hh⟩
     (try replace M:=M.below hh);(try replace p:=p.below hh);(try replace XA:=XA.below hh);(try replace XB:=XB.below hh);(try replace Z:=Z.below hh);(try replace r1:=r1.below hh);(try replace r2:=r2.below hh);replace hb:=bend hb hh;have zg0:=Z.f0;have zg1:=Z.f1;have zg2:=Z.f2;have zg3:=Z.f3;have zg4:=Z.f4;have zg5:=Z.f5;obtain ⟨zc0,zc1,zc2,zc3,zc4,zc5⟩:=Z.all))
 go_wp2_with fail
 have Z2:=Z.set6 (.bool s_r3) (.slice A_r3 n_r3 c_r3) (.slice B_r3 m_r3 d_r3) (.bool t_r3) (.slice E_r3 i_r3 e_r3) (.slice F_r3 j_r3 f_r3)
 obtain ⟨g0,g1,g2,g3,g4,g5⟩:=Z2.all
 refine bodyPost_ret (v:=.agg #[.bool s_r3,.slice A_r3 n_r3 c_r3,.slice B_r3 m_r3 d_r3,.bool t_r3,.slice E_r3 i_r3 e_r3,.slice F_r3 j_r3 f_r3]) (by simp [results,Tryz.results107,go_sem,g0,g1,g2,g3,g4,g5]) rfl ?_
 exact ⟨s_r3,A_r3,n_r3,c_r3,B_r3,m_r3,d_r3,t_r3,E_r3,i_r3,e_r3,F_r3,j_r3,f_r3,rfl,r3.set6 Z _ _ _ _ _ _,below_set6 hb (by omega) _ _ _ _ _ _⟩
theorem mapply_p {k l k2:Nat} {v:AM} {m:MV} {x y:Rat} (M:MR w m v k l) (p:PR w s_p A_p n_p c_p B_p m_p d_p t_p E_p i_p e_p F_p j_p f_p x y k2) (hk:k+k2≤140) (hl:l≤290) (h1:1≤k) (h2:1≤k2) (h3:1≤l) :
 Calls Tryz.prog 43 #[.agg #[.bool m.a.s,.slice m.a.A m.a.n m.a.c,.slice m.a.B m.a.m m.a.d,.bool m.b.s,.slice m.b.A m.b.n m.b.c,.slice m.b.B m.b.m m.b.d,.bool m.c.s,.slice m.c.A m.c.n m.c.c,.slice m.c.B m.c.m m.c.d,.bool m.d.s,.slice m.d.A m.d.n m.d.c,.slice m.d.B m.d.m m.d.d,.bool m.e.s,.slice m.e.A m.e.n m.e.c,.slice m.e.B m.e.m m.e.d,.bool m.f.s,.slice m.f.A m.f.n m.f.c,.slice m.f.B m.f.m m.f.d],.agg #[.bool s_p,.slice A_p n_p c_p,.slice B_p m_p d_p,.bool t_p,.slice E_p i_p e_p,.slice F_p j_p f_p]] w (GivesPt w (v.ax x y) (v.ay x y) ((k+k2+(k+k2)+1)+l+1)):=by
 go_enter Tryz.func43,Tryz.ntmps43
 go_upto_region 1 with (fail)
 generalize hW:World.alloc _ _=W
 obtain ⟨hb,XA,XB,Z,hzW⟩:=mkbx31_12 hW;clear hW;replace M:=M.below hb;replace p:=p.below hb
 replace M:=M.below (Below.refl _ _).drew
 replace p:=p.below (Below.refl _ _).drew
 replace XA:=XA.below (Below.refl _ _).drew
 replace XB:=XB.below (Below.refl _ _).drew
 replace Z:=Z.below (Below.refl _ _).drew
 replace hb:=hb.drew
 go_region_held3 (fun w'=>(LVM ⟨w.heap.size,0,none⟩).run Tryz.prog w'=.ok (.agg #[.bool m.a.s,.slice m.a.A m.a.n m.a.c,.slice m.a.B m.a.m m.a.d,.bool m.b.s,.slice m.b.A m.b.n m.b.c,.slice m.b.B m.b.m m.b.d,.bool m.c.s,.slice m.c.A m.c.n m.c.c,.slice m.c.B m.c.m m.c.d,.bool m.d.s,.slice m.d.A m.d.n m.d.c,.slice m.d.B m.d.m m.d.d,.bool m.e.s,.slice m.e.A m.e.n m.e.c,.slice m.e.B m.e.m m.e.d,.bool m.f.s,.slice m.f.A m.f.n m.f.c,.slice m.f.B m.f.m m.f.d]) w'∧w'.cell? ⟨w.heap.size+1,0,none⟩=some (.bool s_p)∧w'.cell? ⟨w.heap.size+1,1,none⟩=some (.slice A_p n_p c_p)∧w'.cell? ⟨w.heap.size+1,2,none⟩=some (.slice B_p m_p d_p)∧w'.cell? ⟨w.heap.size+1,3,none⟩=some (.bool t_p)∧w'.cell? ⟨w.heap.size+1,4,none⟩=some (.slice E_p i_p e_p)∧w'.cell? ⟨w.heap.size+1,5,none⟩=some (.slice F_p j_p f_p))
  (first | with_reducible exact ⟨XA.ld,XB.c0,XB.c1,XB.c2,XB.c3,XB.c4,XB.c5⟩ | with_reducible exact ⟨(XA.restm (by omega) (only_set6 _ _ _ _ _ _ _ _)).ld,(XB.restm (by omega) (only_set6 _ _ _ _ _ _ _ _)).c0,(XB.restm (by omega) (only_set6 _ _ _ _ _ _ _ _)).c1,(XB.restm (by omega) (only_set6 _ _ _ _ _ _ _ _)).c2,(XB.restm (by omega) (only_set6 _ _ _ _ _ _ _ _)).c3,(XB.restm (by omega) (only_set6 _ _ _ _ _ _ _ _)).c4,(XB.restm (by omega) (only_set6 _ _ _ _ _ _ _ _)).c5⟩)
  (first
  | (go_at_call 107;(with_reducible refine (mdir_p M p (by omega) (by omega) (by omega)).mono ?_);rintro e w_r1 ⟨s_r1,A_r1,n_r1,c_r1,B_r1,m_r1,d_r1,t_r1,E_r1,i_r1,e_r1,F_r1,j_r1,f_r1,rfl,r1,hh⟩
     (try replace M:=M.below hh);(try replace p:=p.below hh);(try replace XA:=XA.below hh);(try replace XB:=XB.below hh);(try replace Z:=Z.below hh);(try replace r3:=r3.below hh);replace hb:=bend hb hh)
  | (go_at_call 108;(with_reducible refine (mmoved_any).mono ?_);rintro e w_z ⟨rfl,hh⟩
     (try replace M:=M.below hh);(try replace p:=p.below hh);(try replace XA:=XA.below hh);(try replace XB:=XB.below hh);(try replace Z:=Z.below hh);(try replace r1:=r1.below hh);(try replace r3:=r3.below hh);replace hb:=bend hb hh)
  | (go_at_call 62;(with_reducible refine (padd_p r1.pr M.ef (by omega) (by omega) (.inl (by omega)) (by omega) (by omega)).mono ?_);rintro e w_r3 ⟨s_r3,A_r3,n_r3,c_r3,B_r3,m_r3,d_r3,t_r3,E_r3,i_r3,e_r3,F_r3,j_r3,f_r3,rfl,r3,hh⟩
     (try replace M:=M.below hh);(try replace p:=p.below hh);(try replace XA:=XA.below hh);(try replace XB:=XB.below hh);(try replace Z:=Z.below hh);(try replace r1:=r1.below hh);replace hb:=bend hb hh;have zg0:=Z.f0;have zg1:=Z.f1;have zg2:=Z.f2;have zg3:=Z.f3;have zg4:=Z.f4;have zg5:=Z.f5;obtain ⟨zc0,zc1,zc2,zc3,zc4,zc5⟩:=Z.all))
 go_wp2_with fail
 have Z2:=Z.set6 (.bool s_r3) (.slice A_r3 n_r3 c_r3) (.slice B_r3 m_r3 d_r3) (.bool t_r3) (.slice E_r3 i_r3 e_r3) (.slice F_r3 j_r3 f_r3)
 obtain ⟨g0,g1,g2,g3,g4,g5⟩:=Z2.all
 refine bodyPost_ret (v:=.agg #[.bool s_r3,.slice A_r3 n_r3 c_r3,.slice B_r3 m_r3 d_r3,.bool t_r3,.slice E_r3 i_r3 e_r3,.slice F_r3 j_r3 f_r3]) (by simp [results,Tryz.results43,go_sem,g0,g1,g2,g3,g4,g5]) rfl ?_
 exact ⟨s_r3,A_r3,n_r3,c_r3,B_r3,m_r3,d_r3,t_r3,E_r3,i_r3,e_r3,F_r3,j_r3,f_r3,rfl,r3.set6 Z _ _ _ _ _ _,below_set6 hb (by omega) _ _ _ _ _ _⟩
theorem mkbx32_12 {w W:World} {x0 x1 x2 x3 x4 x5 x6 x7 x8 x9 x10 x11 x12 x13 x14 x15 x16 x17 x18 x19 x20 x21 x22 x23 x24 x25 x26 x27 x28 x29 x30 x31 x32 x33 x34 x35 x36 x37 x38 x39 x40 x41 x42 x43 x44 x45 x46 x47 x48 x49 x50 x51 x52 x53:Value} (h:(((w.alloc (Obj.cells #[x0,x1,x2,x3,x4,x5,x6,x7,x8,x9,x10,x11,x12,x13,x14,x15,x16,x17] 71)).alloc (Obj.cells #[x18,x19,x20,x21,x22,x23,x24,x25,x26,x27,x28,x29,x30,x31,x32,x33,x34,x35] 71)).alloc (Obj.cells #[x36,x37,x38,x39,x40,x41,x42,x43,x44,x45,x46,x47,x48,x49,x50,x51,x52,x53] 71))=W):Below w.heap.size w W∧B18 W (w.heap.size) x0 x1 x2 x3 x4 x5 x6 x7 x8 x9 x10 x11 x12 x13 x14 x15 x16 x17∧B18 W (w.heap.size+1) x18 x19 x20 x21 x22 x23 x24 x25 x26 x27 x28 x29 x30 x31 x32 x33 x34 x35∧B18 W (w.heap.size+1+1) x36 x37 x38 x39 x40 x41 x42 x43 x44 x45 x46 x47 x48 x49 x50 x51 x52 x53∧W.heap.size=w.heap.size+3:=by subst h;exact ⟨by exact ((((Below.refl _ _).alloc (Nat.le_refl _) _).alloc (by simp) _).alloc (by simp;omega) _),by exact ((B18.new' _ _ _ _ _ _ _ _ _ _ _ _ _ _ _ _ _ _ _ _ rfl).alloc _).alloc _,by exact (B18.new' _ _ _ _ _ _ _ _ _ _ _ _ _ _ _ _ _ _ _ _ (by simp)).alloc _,by exact B18.new' _ _ _ _ _ _ _ _ _ _ _ _ _ _ _ _ _ _ _ _ (by simp),by simp⟩
theorem mmul_p {k l k2 l2:Nat} {v u:AM} {m n:MV} (M:MR w m v k l) (N:MR w n u k2 l2) (hk:k+k2≤140) (hk2:k+l2≤140) (hl:l≤290) (h1:1≤k) (h2:1≤k2) (h3:1≤l) (h4:1≤l2) :
 Calls Tryz.prog 45 #[.agg #[.bool m.a.s,.slice m.a.A m.a.n m.a.c,.slice m.a.B m.a.m m.a.d,.bool m.b.s,.slice m.b.A m.b.n m.b.c,.slice m.b.B m.b.m m.b.d,.bool m.c.s,.slice m.c.A m.c.n m.c.c,.slice m.c.B m.c.m m.c.d,.bool m.d.s,.slice m.d.A m.d.n m.d.c,.slice m.d.B m.d.m m.d.d,.bool m.e.s,.slice m.e.A m.e.n m.e.c,.slice m.e.B m.e.m m.e.d,.bool m.f.s,.slice m.f.A m.f.n m.f.c,.slice m.f.B m.f.m m.f.d],.agg #[.bool n.a.s,.slice n.a.A n.a.n n.a.c,.slice n.a.B n.a.m n.a.d,.bool n.b.s,.slice n.b.A n.b.n n.b.c,.slice n.b.B n.b.m n.b.d,.bool n.c.s,.slice n.c.A n.c.n n.c.c,.slice n.c.B n.c.m n.c.d,.bool n.d.s,.slice n.d.A n.d.n n.d.c,.slice n.d.B n.d.m n.d.d,.bool n.e.s,.slice n.e.A n.e.n n.e.c,.slice n.e.B n.e.m n.e.d,.bool n.f.s,.slice n.f.A n.f.n n.f.c,.slice n.f.B n.f.m n.f.d]] w (GivesMt w (v.mul u) (k+k2+(k+k2)+1) (k+l2+(k+l2)+1+l+1)):=by
 go_enter Tryz.func45,Tryz.ntmps45
 go_upto_region 1 with (fail)
 generalize hW:World.alloc _ _=W
 obtain ⟨hb,XA,XB,Z,hzW⟩:=mkbx32_12 hW;clear hW;replace M:=M.below hb;replace N:=N.below hb
 replace M:=M.below (Below.refl _ _).drew
 replace N:=N.below (Below.refl _ _).drew
 replace XA:=XA.below (Below.refl _ _).drew
 replace XB:=XB.below (Below.refl _ _).drew
 replace Z:=Z.below (Below.refl _ _).drew
 replace hb:=hb.drew
 go_region_held3 (fun w'=>(LVM ⟨w.heap.size,0,none⟩).run Tryz.prog w'=.ok (.agg #[.bool m.a.s,.slice m.a.A m.a.n m.a.c,.slice m.a.B m.a.m m.a.d,.bool m.b.s,.slice m.b.A m.b.n m.b.c,.slice m.b.B m.b.m m.b.d,.bool m.c.s,.slice m.c.A m.c.n m.c.c,.slice m.c.B m.c.m m.c.d,.bool m.d.s,.slice m.d.A m.d.n m.d.c,.slice m.d.B m.d.m m.d.d,.bool m.e.s,.slice m.e.A m.e.n m.e.c,.slice m.e.B m.e.m m.e.d,.bool m.f.s,.slice m.f.A m.f.n m.f.c,.slice m.f.B m.f.m m.f.d]) w'∧(LVM ⟨w.heap.size+1,0,none⟩).run Tryz.prog w'=.ok (.agg #[.bool n.a.s,.slice n.a.A n.a.n n.a.c,.slice n.a.B n.a.m n.a.d,.bool n.b.s,.slice n.b.A n.b.n n.b.c,.slice n.b.B n.b.m n.b.d,.bool n.c.s,.slice n.c.A n.c.n n.c.c,.slice n.c.B n.c.m n.c.d,.bool n.d.s,.slice n.d.A n.d.n n.d.c,.slice n.d.B n.d.m n.d.d,.bool n.e.s,.slice n.e.A n.e.n n.e.c,.slice n.e.B n.e.m n.e.d,.bool n.f.s,.slice n.f.A n.f.n n.f.c,.slice n.f.B n.f.m n.f.d]) w')
  (first | with_reducible exact ⟨XA.ld,XB.ld⟩ | with_reducible exact ⟨(XA.restm (by omega) (only_set18 _ _ _ _ _ _ _ _ _ _ _ _ _ _ _ _ _ _ _ _)).ld,(XB.restm (by omega) (only_set18 _ _ _ _ _ _ _ _ _ _ _ _ _ _ _ _ _ _ _ _)).ld⟩)
  (first
  | (go_at_call 112;(with_reducible refine (mfirst_any).mono ?_);rintro e w_z ⟨rfl,hh⟩
     (try replace M:=M.below hh);(try replace N:=N.below hh);(try replace XA:=XA.below hh);(try replace XB:=XB.below hh);(try replace Z:=Z.below hh);(try replace r1:=r1.below hh);(try replace r2:=r2.below hh);(try replace r3:=r3.below hh);(try replace rh:=rh.below hh);replace hb:=bend hb hh)
  | (go_at_call 113;(with_reducible refine (msecond_any).mono ?_);rintro e w_z ⟨rfl,hh⟩
     (try replace M:=M.below hh);(try replace N:=N.below hh);(try replace XA:=XA.below hh);(try replace XB:=XB.below hh);(try replace Z:=Z.below hh);(try replace r1:=r1.below hh);(try replace r2:=r2.below hh);(try replace r3:=r3.below hh);(try replace rh:=rh.below hh);replace hb:=bend hb hh)
  | (go_at_call 108;(with_reducible refine (mmoved_any).mono ?_);rintro e w_z ⟨rfl,hh⟩
     (try replace M:=M.below hh);(try replace N:=N.below hh);(try replace XA:=XA.below hh);(try replace XB:=XB.below hh);(try replace Z:=Z.below hh);(try replace r1:=r1.below hh);(try replace r2:=r2.below hh);(try replace r3:=r3.below hh);(try replace rh:=rh.below hh);replace hb:=bend hb hh)
  | (go_at_call 107;(with_reducible refine (mdir_p M N.ab (by omega) (by omega) (by omega)).mono ?_);rintro e w_r1 ⟨s_r1,A_r1,n_r1,c_r1,B_r1,m_r1,d_r1,t_r1,E_r1,i_r1,e_r1,F_r1,j_r1,f_r1,rfl,r1,hh⟩
     (try replace M:=M.below hh);(try replace N:=N.below hh);(try replace XA:=XA.below hh);(try replace XB:=XB.below hh);(try replace Z:=Z.below hh);(try replace r2:=r2.below hh);(try replace r3:=r3.below hh);(try replace rh:=rh.below hh);replace hb:=bend hb hh)
  | (go_at_call 107;(with_reducible refine (mdir_p M N.cd (by omega) (by omega) (by omega)).mono ?_);rintro e w_r2 ⟨s_r2,A_r2,n_r2,c_r2,B_r2,m_r2,d_r2,t_r2,E_r2,i_r2,e_r2,F_r2,j_r2,f_r2,rfl,r2,hh⟩
     (try replace M:=M.below hh);(try replace N:=N.below hh);(try replace XA:=XA.below hh);(try replace XB:=XB.below hh);(try replace Z:=Z.below hh);(try replace r1:=r1.below hh);(try replace r3:=r3.below hh);(try replace rh:=rh.below hh);replace hb:=bend hb hh)
  | (go_at_call 43;(with_reducible refine (mapply_p M N.ef (by omega) (by omega) (by omega) (by omega) (by omega)).mono ?_);rintro e w_r3 ⟨s_r3,A_r3,n_r3,c_r3,B_r3,m_r3,d_r3,t_r3,E_r3,i_r3,e_r3,F_r3,j_r3,f_r3,rfl,r3,hh⟩
     (try replace M:=M.below hh);(try replace N:=N.below hh);(try replace XA:=XA.below hh);(try replace XB:=XB.below hh);(try replace Z:=Z.below hh);(try replace r1:=r1.below hh);(try replace r2:=r2.below hh);(try replace rh:=rh.below hh);replace hb:=bend hb hh)
  | (go_at_call 105;(with_reducible refine (mby_p r1 r2 r3).mono ?_);rintro e w_r ⟨r,rfl,rh,hh⟩
     (try replace M:=M.below hh);(try replace N:=N.below hh);(try replace XA:=XA.below hh);(try replace XB:=XB.below hh);(try replace Z:=Z.below hh);(try replace r1:=r1.below hh);(try replace r2:=r2.below hh);(try replace r3:=r3.below hh);replace hb:=bend hb hh
     have zst:=Z.st (.bool r.a.s) (.slice r.a.A r.a.n r.a.c) (.slice r.a.B r.a.m r.a.d) (.bool r.b.s) (.slice r.b.A r.b.n r.b.c) (.slice r.b.B r.b.m r.b.d) (.bool r.c.s) (.slice r.c.A r.c.n r.c.c) (.slice r.c.B r.c.m r.c.d) (.bool r.d.s) (.slice r.d.A r.d.n r.d.c) (.slice r.d.B r.d.m r.d.d) (.bool r.e.s) (.slice r.e.A r.e.n r.e.c) (.slice r.e.B r.e.m r.e.d) (.bool r.f.s) (.slice r.f.A r.f.n r.f.c) (.slice r.f.B r.f.m r.f.d) (by simp [Value.oneCell'])))
 go_wp2_with fail
 have Z2:=Z.set18 (.bool r.a.s) (.slice r.a.A r.a.n r.a.c) (.slice r.a.B r.a.m r.a.d) (.bool r.b.s) (.slice r.b.A r.b.n r.b.c) (.slice r.b.B r.b.m r.b.d) (.bool r.c.s) (.slice r.c.A r.c.n r.c.c) (.slice r.c.B r.c.m r.c.d) (.bool r.d.s) (.slice r.d.A r.d.n r.d.c) (.slice r.d.B r.d.m r.d.d) (.bool r.e.s) (.slice r.e.A r.e.n r.e.c) (.slice r.e.B r.e.m r.e.d) (.bool r.f.s) (.slice r.f.A r.f.n r.f.c) (.slice r.f.B r.f.m r.f.d)
 have gl:=Z2.ld
 refine bodyPost_ret (v:=.agg #[.bool r.a.s,.slice r.a.A r.a.n r.a.c,.slice r.a.B r.a.m r.a.d,.bool r.b.s,.slice r.b.A r.b.n r.b.c,.slice r.b.B r.b.m r.b.d,.bool r.c.s,.slice r.c.A r.c.n r.c.c,.slice r.c.B r.c.m r.c.d,.bool r.d.s,.slice r.d.A r.d.n r.d.c,.slice r.d.B r.d.m r.d.d,.bool r.e.s,.slice r.e.A r.e.n r.e.c,.slice r.e.B r.e.m r.e.d,.bool r.f.s,.slice r.f.A r.f.n r.f.c,.slice r.f.B r.f.m r.f.d]) (res_M Tryz.results45 _ _ (by simp) gl) rfl ?_
 exact ⟨r,rfl,rh.set18 Z _ _ _ _ _ _ _ _ _ _ _ _ _ _ _ _ _ _,below_set18 hb (by omega) _ _ _ _ _ _ _ _ _ _ _ _ _ _ _ _ _ _⟩
theorem mkbx33_12 {w W:World} {x0 x1 x2 x3 x4 x5 x6 x7 x8 x9 x10 x11 x12 x13 x14 x15 x16 x17 x18 x19 x20:Value} (h:((w.alloc (Obj.cells #[x0,x1,x2,x3,x4,x5,x6,x7,x8,x9,x10,x11,x12,x13,x14,x15,x16,x17] 71)).alloc (Obj.cells #[x18,x19,x20] 27))=W):Below w.heap.size w W∧B18 W (w.heap.size) x0 x1 x2 x3 x4 x5 x6 x7 x8 x9 x10 x11 x12 x13 x14 x15 x16 x17∧B3 W (w.heap.size+1) x18 x19 x20∧W.heap.size=w.heap.size+2:=by subst h;exact ⟨by exact (((Below.refl _ _).alloc (Nat.le_refl _) _).alloc (by simp) _),by exact (B18.new' _ _ _ _ _ _ _ _ _ _ _ _ _ _ _ _ _ _ _ _ rfl).alloc _,by exact B3.new' _ _ _ _ _ (by simp),by simp⟩
theorem mdet_p {k l:Nat} {v:AM} {m:MV} (M:MR w m v k l) (hk:k+k≤200) (h1:1≤k) :
 Calls Tryz.prog 47 #[.agg #[.bool m.a.s,.slice m.a.A m.a.n m.a.c,.slice m.a.B m.a.m m.a.d,.bool m.b.s,.slice m.b.A m.b.n m.b.c,.slice m.b.B m.b.m m.b.d,.bool m.c.s,.slice m.c.A m.c.n m.c.c,.slice m.c.B m.c.m m.c.d,.bool m.d.s,.slice m.d.A m.d.n m.d.c,.slice m.d.B m.d.m m.d.d,.bool m.e.s,.slice m.e.A m.e.n m.e.c,.slice m.e.B m.e.m m.e.d,.bool m.f.s,.slice m.f.A m.f.n m.f.c,.slice m.f.B m.f.m m.f.d]] w (GivesQ w v.det (k+k+(k+k)+1)):=by
 go_enter Tryz.func47,Tryz.ntmps47
 go_upto_region 1 with (fail)
 generalize hW:World.alloc _ _=W
 obtain ⟨hb,XA,Z,hzW⟩:=mkbx33_12 hW;clear hW;replace M:=M.below hb
 replace M:=M.below (Below.refl _ _).drew
 replace XA:=XA.below (Below.refl _ _).drew
 replace Z:=Z.below (Below.refl _ _).drew
 replace hb:=hb.drew
 go_region_held3 (fun w'=>(LVM ⟨w.heap.size,0,none⟩).run Tryz.prog w'=.ok (.agg #[.bool m.a.s,.slice m.a.A m.a.n m.a.c,.slice m.a.B m.a.m m.a.d,.bool m.b.s,.slice m.b.A m.b.n m.b.c,.slice m.b.B m.b.m m.b.d,.bool m.c.s,.slice m.c.A m.c.n m.c.c,.slice m.c.B m.c.m m.c.d,.bool m.d.s,.slice m.d.A m.d.n m.d.c,.slice m.d.B m.d.m m.d.d,.bool m.e.s,.slice m.e.A m.e.n m.e.c,.slice m.e.B m.e.m m.e.d,.bool m.f.s,.slice m.f.A m.f.n m.f.c,.slice m.f.B m.f.m m.f.d]) w')
  (first | with_reducible exact XA.ld | with_reducible exact (XA.restm (by omega) (only_set3 _ _ _ _ _)).ld)
  (first
  | (go_at_call 112;(with_reducible refine (mfirst_any).mono ?_);rintro e w_z ⟨rfl,hh⟩
     (try replace M:=M.below hh);(try replace XA:=XA.below hh);(try replace Z:=Z.below hh);(try replace r:=r.below hh);replace hb:=bend hb hh)
  | (go_at_call 113;(with_reducible refine (msecond_any).mono ?_);rintro e w_z ⟨rfl,hh⟩
     (try replace M:=M.below hh);(try replace XA:=XA.below hh);(try replace Z:=Z.below hh);(try replace r:=r.below hh);replace hb:=bend hb hh)
  | (go_at_call 56;(with_reducible refine (pcross_p M.ab M.cd (by omega) (by omega) (by omega)).mono ?_);rintro e w_r ⟨s_r,A_r,n_r,c_r,B_r,m_r,d_r,rfl,r,hh⟩
     (try replace M:=M.below hh);(try replace XA:=XA.below hh);(try replace Z:=Z.below hh);replace hb:=bend hb hh;have zf0:=Z.f0;have zf1:=Z.f1;have zf2:=Z.f2;obtain ⟨z0,z1,z2⟩:=Z.all))
 go_wp2_with fail
 have Z2:=Z.set3 (.bool s_r) (.slice A_r n_r c_r) (.slice B_r m_r d_r)
 obtain ⟨g0,g1,g2⟩:=Z2.all
 refine bodyPost_ret (v:=.agg #[.bool s_r,.slice A_r n_r c_r,.slice B_r m_r d_r]) (by simp [results,Tryz.results47,go_sem,g0,g1,g2]) rfl ?_
 exact ⟨s_r,A_r,n_r,c_r,B_r,m_r,d_r,rfl,r.set3 Z _ _ _,below_set3 hb (by omega) _ _ _⟩
end
section
theorem castN (a:Nat):((a:Int):Rat)=(a:Rat):=rfl
theorem natCast_mul' (a b:Nat):((a*b:Nat):Rat)=(a:Rat)*(b:Rat):=by
 rw [← castN,← castN,← castN,Int.natCast_mul,Rat.intCast_mul]
def upQ (v:Rat) (k:Nat):Rat:=v*((4 ^ k:Nat):Rat)
def inQ (R k:Nat):Rat:=Rat.divInt (R:Int) ((2 ^ k:Nat):Int)
theorem two_pos (k:Nat):(0:Rat) < ((2 ^ k:Nat):Rat):=by
 have h:(0:Int) < ((2 ^ k:Nat):Int):=by have:=Nat.two_pow_pos k;omega
 rw [← castN];exact Rat.intCast_lt_intCast.2 h
theorem two_ne (k:Nat):((2 ^ k:Nat):Rat) ≠ 0:=fun h=>by
 have:=two_pos k;rw [h] at this;exact Rat.lt_irrefl this
theorem inQ_eq (R k:Nat):inQ R k*((2 ^ k:Nat):Rat)=(R:Rat):=by
 unfold inQ
 have h:=two_ne k
 rw [← castN (2 ^ k),← castN R,← int1,← int1,Rat.divInt_mul_divInt,Int.mul_one,Rat.divInt_eq_divInt_iff (by have:=Nat.two_pow_pos k;omega) (by decide)]
 simp
theorem four_two (k:Nat):((4 ^ k:Nat):Rat)=((2 ^ k:Nat):Rat)*((2 ^ k:Nat):Rat):=by
 rw [← natCast_mul',← Nat.mul_pow]
theorem four_pos (k:Nat):(0:Rat) < ((4 ^ k:Nat):Rat):=by rw [four_two];exact Rat.mul_pos (two_pos k) (two_pos k)
theorem inQ_sq (R k:Nat):upQ (inQ R k*inQ R k) k=((R*R:Nat):Rat):=by
 unfold upQ
 rw [four_two,natCast_mul',← inQ_eq R k]
 grind
theorem upQ_le {a b:Rat} (k:Nat):upQ a k≤upQ b k ↔ a≤b:=by
 unfold upQ
 constructor
 · exact fun h=>Rat.le_of_mul_le_mul_right h (four_pos k)
 · exact fun h=>Rat.mul_le_mul_of_nonneg_right h (Rat.le_of_lt (four_pos k))
theorem upQ_nonneg {v:Rat} (hv:0≤v) (k:Nat):0≤upQ v k:=Rat.mul_nonneg hv (Rat.le_of_lt (four_pos k))
theorem floor_nn {v:Rat} (hv:0≤v):0≤v.floor:=Rat.le_floor_iff.2 (by simpa using hv)
theorem ceil_nn {v:Rat} (hv:0≤v):0≤v.ceil:=by
 have h:=Rat.le_trans hv (@Rat.le_ceil v)
 have:((0:Int):Rat)≤(v.ceil:Rat):=h
 exact Rat.intCast_le_intCast.1 this
def IsLow (v:Rat) (k R:Nat):Prop:=IsRoot (upQ v k).floor.natAbs R
def IsHigh (v:Rat) (k H:Nat):Prop:=∃ R,IsRoot (upQ v k).ceil.natAbs R∧H=if R*R=(upQ v k).ceil.natAbs then R else R+1
theorem IsLow.le {v:Rat} {k R:Nat} (hv:0≤v) (h:IsLow v k R):inQ R k*inQ R k≤v:=by
 rw [← upQ_le k,inQ_sq]
 have h1:((R*R:Nat):Int)≤(upQ v k).floor:=by have:=h.1;have:=floor_nn (upQ_nonneg hv k);omega
 rw [← castN];exact Rat.le_floor_iff.1 h1
theorem IsHigh.ge {v:Rat} {k H:Nat} (hv:0≤v) (h:IsHigh v k H):v≤inQ H k*inQ H k:=by
 rw [← upQ_le k,inQ_sq]
 obtain ⟨R,h1,h2⟩:=h
 have h0:=ceil_nn (upQ_nonneg hv k)
 have h3:(upQ v k).ceil≤((H*H:Nat):Int):=by
  split at h2
  · rename_i e;subst h2;omega
  · subst h2;have:=h1.2;omega
 rw [← castN];exact Rat.le_trans Rat.le_ceil (Rat.intCast_le_intCast.2 h3)
end
section
open Go Go.RowKit
theorem QG.tight {s:Bool} {A A':Option Addr} {n c n' c' k k1:Nat} {v:Rat} (h:QG w s A n c A' n' c' v k) (h1:v.num.natAbs < B64 ^ k1) (h2:v.den < B64 ^ k1):QG w s A n c A' n' c' v k1 :=
 ⟨⟨h.1.1,h.1.2.1,h.1.2.2.1,by rw [← h.1.2.1.1];exact length_limbs_le B64_two h1⟩,NG.tight h.2 h2⟩
end
end Go.Proofs.YtgneghgfpkkkdaaGreat
