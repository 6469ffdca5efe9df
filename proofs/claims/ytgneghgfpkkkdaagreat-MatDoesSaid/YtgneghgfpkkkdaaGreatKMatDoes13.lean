/- MatDoes: part 13. -/
import Derived.Test.YtgneghgfpkkkdaaGreatKMatDoes10
import Derived.Test.YtgneghgfpkkkdaaGreatKMatDoes12
set_option linter.unusedVariables false
set_option maxRecDepth 100000
set_option maxHeartbeats 16000000
variable {w:Go.World}
namespace Go.Proofs.YtgneghgfpkkkdaaGreat
open Go Go.RowKit
structure MV where
 a:QV
 b:QV
 c:QV
 d:QV
 e:QV
 f:QV
structure AM where
 a:Rat
 b:Rat
 c:Rat
 d:Rat
 e:Rat
 f:Rat
def AM.ax (m:AM) (x y:Rat):Rat:=m.a*x+m.c*y+m.e
def AM.ay (m:AM) (x y:Rat):Rat:=m.b*x+m.d*y+m.f
def AM.dx (m:AM) (x y:Rat):Rat:=m.a*x+m.c*y
def AM.dy (m:AM) (x y:Rat):Rat:=m.b*x+m.d*y
def AM.mul (m n:AM):AM:=⟨m.dx n.a n.b,m.dy n.a n.b,m.dx n.c n.d,m.dy n.c n.d,m.ax n.e n.f,m.ay n.e n.f⟩
def AM.det (m:AM):Rat:=m.a*m.d - m.b*m.c
def B18 (W:World) (g:Nat) (v0 v1 v2 v3 v4 v5 v6 v7 v8 v9 v10 v11 v12 v13 v14 v15 v16 v17:Value):Prop:=W.heap[g]?=some (.cells #[v0,v1,v2,v3,v4,v5,v6,v7,v8,v9,v10,v11,v12,v13,v14,v15,v16,v17] 71 (0,0))
section
variable {W W':World} {g:Nat} {v0 v1 v2 v3 v4 v5 v6 v7 v8 v9 v10 v11 v12 v13 v14 v15 v16 v17:Value}
theorem B18.c0 (h:B18 W g v0 v1 v2 v3 v4 v5 v6 v7 v8 v9 v10 v11 v12 v13 v14 v15 v16 v17):W.cell? ⟨g,0,none⟩=some v0:=by rw [cell_of_row W g 0 _ _ (0,0) h];rfl
theorem B18.c1 (h:B18 W g v0 v1 v2 v3 v4 v5 v6 v7 v8 v9 v10 v11 v12 v13 v14 v15 v16 v17):W.cell? ⟨g,1,none⟩=some v1:=by rw [cell_of_row W g 1 _ _ (0,0) h];rfl
theorem B18.c2 (h:B18 W g v0 v1 v2 v3 v4 v5 v6 v7 v8 v9 v10 v11 v12 v13 v14 v15 v16 v17):W.cell? ⟨g,2,none⟩=some v2:=by rw [cell_of_row W g 2 _ _ (0,0) h];rfl
theorem B18.c3 (h:B18 W g v0 v1 v2 v3 v4 v5 v6 v7 v8 v9 v10 v11 v12 v13 v14 v15 v16 v17):W.cell? ⟨g,3,none⟩=some v3:=by rw [cell_of_row W g 3 _ _ (0,0) h];rfl
theorem B18.c4 (h:B18 W g v0 v1 v2 v3 v4 v5 v6 v7 v8 v9 v10 v11 v12 v13 v14 v15 v16 v17):W.cell? ⟨g,4,none⟩=some v4:=by rw [cell_of_row W g 4 _ _ (0,0) h];rfl
theorem B18.c5 (h:B18 W g v0 v1 v2 v3 v4 v5 v6 v7 v8 v9 v10 v11 v12 v13 v14 v15 v16 v17):W.cell? ⟨g,5,none⟩=some v5:=by rw [cell_of_row W g 5 _ _ (0,0) h];rfl
theorem B18.c6 (h:B18 W g v0 v1 v2 v3 v4 v5 v6 v7 v8 v9 v10 v11 v12 v13 v14 v15 v16 v17):W.cell? ⟨g,6,none⟩=some v6:=by rw [cell_of_row W g 6 _ _ (0,0) h];rfl
theorem B18.c7 (h:B18 W g v0 v1 v2 v3 v4 v5 v6 v7 v8 v9 v10 v11 v12 v13 v14 v15 v16 v17):W.cell? ⟨g,7,none⟩=some v7:=by rw [cell_of_row W g 7 _ _ (0,0) h];rfl
theorem B18.c8 (h:B18 W g v0 v1 v2 v3 v4 v5 v6 v7 v8 v9 v10 v11 v12 v13 v14 v15 v16 v17):W.cell? ⟨g,8,none⟩=some v8:=by rw [cell_of_row W g 8 _ _ (0,0) h];rfl
theorem B18.c9 (h:B18 W g v0 v1 v2 v3 v4 v5 v6 v7 v8 v9 v10 v11 v12 v13 v14 v15 v16 v17):W.cell? ⟨g,9,none⟩=some v9:=by rw [cell_of_row W g 9 _ _ (0,0) h];rfl
theorem B18.c10 (h:B18 W g v0 v1 v2 v3 v4 v5 v6 v7 v8 v9 v10 v11 v12 v13 v14 v15 v16 v17):W.cell? ⟨g,10,none⟩=some v10:=by rw [cell_of_row W g 10 _ _ (0,0) h];rfl
theorem B18.c11 (h:B18 W g v0 v1 v2 v3 v4 v5 v6 v7 v8 v9 v10 v11 v12 v13 v14 v15 v16 v17):W.cell? ⟨g,11,none⟩=some v11:=by rw [cell_of_row W g 11 _ _ (0,0) h];rfl
theorem B18.c12 (h:B18 W g v0 v1 v2 v3 v4 v5 v6 v7 v8 v9 v10 v11 v12 v13 v14 v15 v16 v17):W.cell? ⟨g,12,none⟩=some v12:=by rw [cell_of_row W g 12 _ _ (0,0) h];rfl
theorem B18.c13 (h:B18 W g v0 v1 v2 v3 v4 v5 v6 v7 v8 v9 v10 v11 v12 v13 v14 v15 v16 v17):W.cell? ⟨g,13,none⟩=some v13:=by rw [cell_of_row W g 13 _ _ (0,0) h];rfl
theorem B18.c14 (h:B18 W g v0 v1 v2 v3 v4 v5 v6 v7 v8 v9 v10 v11 v12 v13 v14 v15 v16 v17):W.cell? ⟨g,14,none⟩=some v14:=by rw [cell_of_row W g 14 _ _ (0,0) h];rfl
theorem B18.c15 (h:B18 W g v0 v1 v2 v3 v4 v5 v6 v7 v8 v9 v10 v11 v12 v13 v14 v15 v16 v17):W.cell? ⟨g,15,none⟩=some v15:=by rw [cell_of_row W g 15 _ _ (0,0) h];rfl
theorem B18.c16 (h:B18 W g v0 v1 v2 v3 v4 v5 v6 v7 v8 v9 v10 v11 v12 v13 v14 v15 v16 v17):W.cell? ⟨g,16,none⟩=some v16:=by rw [cell_of_row W g 16 _ _ (0,0) h];rfl
theorem B18.c17 (h:B18 W g v0 v1 v2 v3 v4 v5 v6 v7 v8 v9 v10 v11 v12 v13 v14 v15 v16 v17):W.cell? ⟨g,17,none⟩=some v17:=by rw [cell_of_row W g 17 _ _ (0,0) h];rfl
theorem B18.all (h:B18 W g v0 v1 v2 v3 v4 v5 v6 v7 v8 v9 v10 v11 v12 v13 v14 v15 v16 v17):W.cell? ⟨g,0,none⟩=some v0∧W.cell? ⟨g,1,none⟩=some v1∧W.cell? ⟨g,2,none⟩=some v2∧W.cell? ⟨g,3,none⟩=some v3∧W.cell? ⟨g,4,none⟩=some v4∧W.cell? ⟨g,5,none⟩=some v5∧W.cell? ⟨g,6,none⟩=some v6∧W.cell? ⟨g,7,none⟩=some v7∧W.cell? ⟨g,8,none⟩=some v8∧W.cell? ⟨g,9,none⟩=some v9∧W.cell? ⟨g,10,none⟩=some v10∧W.cell? ⟨g,11,none⟩=some v11∧W.cell? ⟨g,12,none⟩=some v12∧W.cell? ⟨g,13,none⟩=some v13∧W.cell? ⟨g,14,none⟩=some v14∧W.cell? ⟨g,15,none⟩=some v15∧W.cell? ⟨g,16,none⟩=some v16∧W.cell? ⟨g,17,none⟩=some v17:=⟨h.c0,h.c1,h.c2,h.c3,h.c4,h.c5,h.c6,h.c7,h.c8,h.c9,h.c10,h.c11,h.c12,h.c13,h.c14,h.c15,h.c16,h.c17⟩
theorem B18.f0 (h:B18 W g v0 v1 v2 v3 v4 v5 v6 v7 v8 v9 v10 v11 v12 v13 v14 v15 v16 v17):W.frozen? ⟨g,0,none⟩=false:=frozen_of_row W g 0 _ _ h
theorem B18.f1 (h:B18 W g v0 v1 v2 v3 v4 v5 v6 v7 v8 v9 v10 v11 v12 v13 v14 v15 v16 v17):W.frozen? ⟨g,1,none⟩=false:=frozen_of_row W g 1 _ _ h
theorem B18.f2 (h:B18 W g v0 v1 v2 v3 v4 v5 v6 v7 v8 v9 v10 v11 v12 v13 v14 v15 v16 v17):W.frozen? ⟨g,2,none⟩=false:=frozen_of_row W g 2 _ _ h
theorem B18.f3 (h:B18 W g v0 v1 v2 v3 v4 v5 v6 v7 v8 v9 v10 v11 v12 v13 v14 v15 v16 v17):W.frozen? ⟨g,3,none⟩=false:=frozen_of_row W g 3 _ _ h
theorem B18.f4 (h:B18 W g v0 v1 v2 v3 v4 v5 v6 v7 v8 v9 v10 v11 v12 v13 v14 v15 v16 v17):W.frozen? ⟨g,4,none⟩=false:=frozen_of_row W g 4 _ _ h
theorem B18.f5 (h:B18 W g v0 v1 v2 v3 v4 v5 v6 v7 v8 v9 v10 v11 v12 v13 v14 v15 v16 v17):W.frozen? ⟨g,5,none⟩=false:=frozen_of_row W g 5 _ _ h
theorem B18.f6 (h:B18 W g v0 v1 v2 v3 v4 v5 v6 v7 v8 v9 v10 v11 v12 v13 v14 v15 v16 v17):W.frozen? ⟨g,6,none⟩=false:=frozen_of_row W g 6 _ _ h
theorem B18.f7 (h:B18 W g v0 v1 v2 v3 v4 v5 v6 v7 v8 v9 v10 v11 v12 v13 v14 v15 v16 v17):W.frozen? ⟨g,7,none⟩=false:=frozen_of_row W g 7 _ _ h
theorem B18.f8 (h:B18 W g v0 v1 v2 v3 v4 v5 v6 v7 v8 v9 v10 v11 v12 v13 v14 v15 v16 v17):W.frozen? ⟨g,8,none⟩=false:=frozen_of_row W g 8 _ _ h
theorem B18.f9 (h:B18 W g v0 v1 v2 v3 v4 v5 v6 v7 v8 v9 v10 v11 v12 v13 v14 v15 v16 v17):W.frozen? ⟨g,9,none⟩=false:=frozen_of_row W g 9 _ _ h
theorem B18.f10 (h:B18 W g v0 v1 v2 v3 v4 v5 v6 v7 v8 v9 v10 v11 v12 v13 v14 v15 v16 v17):W.frozen? ⟨g,10,none⟩=false:=frozen_of_row W g 10 _ _ h
theorem B18.f11 (h:B18 W g v0 v1 v2 v3 v4 v5 v6 v7 v8 v9 v10 v11 v12 v13 v14 v15 v16 v17):W.frozen? ⟨g,11,none⟩=false:=frozen_of_row W g 11 _ _ h
theorem B18.f12 (h:B18 W g v0 v1 v2 v3 v4 v5 v6 v7 v8 v9 v10 v11 v12 v13 v14 v15 v16 v17):W.frozen? ⟨g,12,none⟩=false:=frozen_of_row W g 12 _ _ h
theorem B18.f13 (h:B18 W g v0 v1 v2 v3 v4 v5 v6 v7 v8 v9 v10 v11 v12 v13 v14 v15 v16 v17):W.frozen? ⟨g,13,none⟩=false:=frozen_of_row W g 13 _ _ h
theorem B18.f14 (h:B18 W g v0 v1 v2 v3 v4 v5 v6 v7 v8 v9 v10 v11 v12 v13 v14 v15 v16 v17):W.frozen? ⟨g,14,none⟩=false:=frozen_of_row W g 14 _ _ h
theorem B18.f15 (h:B18 W g v0 v1 v2 v3 v4 v5 v6 v7 v8 v9 v10 v11 v12 v13 v14 v15 v16 v17):W.frozen? ⟨g,15,none⟩=false:=frozen_of_row W g 15 _ _ h
theorem B18.f16 (h:B18 W g v0 v1 v2 v3 v4 v5 v6 v7 v8 v9 v10 v11 v12 v13 v14 v15 v16 v17):W.frozen? ⟨g,16,none⟩=false:=frozen_of_row W g 16 _ _ h
theorem B18.f17 (h:B18 W g v0 v1 v2 v3 v4 v5 v6 v7 v8 v9 v10 v11 v12 v13 v14 v15 v16 v17):W.frozen? ⟨g,17,none⟩=false:=frozen_of_row W g 17 _ _ h
theorem B18.lt (h:B18 W g v0 v1 v2 v3 v4 v5 v6 v7 v8 v9 v10 v11 v12 v13 v14 v15 v16 v17):g < W.heap.size:=World.block_lt_of_cell? W _ h.c0
theorem B18.below (h:B18 W g v0 v1 v2 v3 v4 v5 v6 v7 v8 v9 v10 v11 v12 v13 v14 v15 v16 v17) (hb:Below W.heap.size W W'):B18 W' g v0 v1 v2 v3 v4 v5 v6 v7 v8 v9 v10 v11 v12 v13 v14 v15 v16 v17:=(hb.block g h.lt).trans h
theorem B18.alloc (h:B18 W g v0 v1 v2 v3 v4 v5 v6 v7 v8 v9 v10 v11 v12 v13 v14 v15 v16 v17) (o:Obj):B18 (W.alloc o) g v0 v1 v2 v3 v4 v5 v6 v7 v8 v9 v10 v11 v12 v13 v14 v15 v16 v17:=(Below.heap_alloc W o g h.lt).trans h
theorem B18.new' (W:World) (v0 v1 v2 v3 v4 v5 v6 v7 v8 v9 v10 v11 v12 v13 v14 v15 v16 v17:Value) (g:Nat) (hg:g=W.heap.size):B18 (W.alloc (.cells #[v0,v1,v2,v3,v4,v5,v6,v7,v8,v9,v10,v11,v12,v13,v14,v15,v16,v17] 71)) g v0 v1 v2 v3 v4 v5 v6 v7 v8 v9 v10 v11 v12 v13 v14 v15 v16 v17:=by subst hg;exact heap_alloc_new W _
theorem B18.set18 (h:B18 W g v0 v1 v2 v3 v4 v5 v6 v7 v8 v9 v10 v11 v12 v13 v14 v15 v16 v17) (a0 a1 a2 a3 a4 a5 a6 a7 a8 a9 a10 a11 a12 a13 a14 a15 a16 a17:Value):B18 ((((((((((((((((((W.setCell ⟨g,0,none⟩ a0).setCell ⟨g,1,none⟩ a1).setCell ⟨g,2,none⟩ a2).setCell ⟨g,3,none⟩ a3).setCell ⟨g,4,none⟩ a4).setCell ⟨g,5,none⟩ a5).setCell ⟨g,6,none⟩ a6).setCell ⟨g,7,none⟩ a7).setCell ⟨g,8,none⟩ a8).setCell ⟨g,9,none⟩ a9).setCell ⟨g,10,none⟩ a10).setCell ⟨g,11,none⟩ a11).setCell ⟨g,12,none⟩ a12).setCell ⟨g,13,none⟩ a13).setCell ⟨g,14,none⟩ a14).setCell ⟨g,15,none⟩ a15).setCell ⟨g,16,none⟩ a16).setCell ⟨g,17,none⟩ a17) g a0 a1 a2 a3 a4 a5 a6 a7 a8 a9 a10 a11 a12 a13 a14 a15 a16 a17:=by
 unfold B18 at h ⊢
 have h0:=heap_setCell_same _ g 0 _ _ a0 h
 simp only [List.setIfInBounds_toArray,List.set_cons_zero] at h0
 have h1:=heap_setCell_same _ g 1 _ _ a1 h0
 simp only [List.setIfInBounds_toArray,List.set_cons_zero,List.set_cons_succ] at h1
 have h2:=heap_setCell_same _ g 2 _ _ a2 h1
 simp only [List.setIfInBounds_toArray,List.set_cons_zero,List.set_cons_succ] at h2
 have h3:=heap_setCell_same _ g 3 _ _ a3 h2
 simp only [List.setIfInBounds_toArray,List.set_cons_zero,List.set_cons_succ] at h3
 have h4:=heap_setCell_same _ g 4 _ _ a4 h3
 simp only [List.setIfInBounds_toArray,List.set_cons_zero,List.set_cons_succ] at h4
 have h5:=heap_setCell_same _ g 5 _ _ a5 h4
 simp only [List.setIfInBounds_toArray,List.set_cons_zero,List.set_cons_succ] at h5
 have h6:=heap_setCell_same _ g 6 _ _ a6 h5
 simp only [List.setIfInBounds_toArray,List.set_cons_zero,List.set_cons_succ] at h6
 have h7:=heap_setCell_same _ g 7 _ _ a7 h6
 simp only [List.setIfInBounds_toArray,List.set_cons_zero,List.set_cons_succ] at h7
 have h8:=heap_setCell_same _ g 8 _ _ a8 h7
 simp only [List.setIfInBounds_toArray,List.set_cons_zero,List.set_cons_succ] at h8
 have h9:=heap_setCell_same _ g 9 _ _ a9 h8
 simp only [List.setIfInBounds_toArray,List.set_cons_zero,List.set_cons_succ] at h9
 have h10:=heap_setCell_same _ g 10 _ _ a10 h9
 simp only [List.setIfInBounds_toArray,List.set_cons_zero,List.set_cons_succ] at h10
 have h11:=heap_setCell_same _ g 11 _ _ a11 h10
 simp only [List.setIfInBounds_toArray,List.set_cons_zero,List.set_cons_succ] at h11
 have h12:=heap_setCell_same _ g 12 _ _ a12 h11
 simp only [List.setIfInBounds_toArray,List.set_cons_zero,List.set_cons_succ] at h12
 have h13:=heap_setCell_same _ g 13 _ _ a13 h12
 simp only [List.setIfInBounds_toArray,List.set_cons_zero,List.set_cons_succ] at h13
 have h14:=heap_setCell_same _ g 14 _ _ a14 h13
 simp only [List.setIfInBounds_toArray,List.set_cons_zero,List.set_cons_succ] at h14
 have h15:=heap_setCell_same _ g 15 _ _ a15 h14
 simp only [List.setIfInBounds_toArray,List.set_cons_zero,List.set_cons_succ] at h15
 have h16:=heap_setCell_same _ g 16 _ _ a16 h15
 simp only [List.setIfInBounds_toArray,List.set_cons_zero,List.set_cons_succ] at h16
 have h17:=heap_setCell_same _ g 17 _ _ a17 h16
 simp only [List.setIfInBounds_toArray,List.set_cons_zero,List.set_cons_succ] at h17
 exact h17
theorem B18.restm {k:Nat} (h:B18 W g v0 v1 v2 v3 v4 v5 v6 v7 v8 v9 v10 v11 v12 v13 v14 v15 v16 v17) (hne:g ≠ k) (ho:Only k W W'):B18 W' g v0 v1 v2 v3 v4 v5 v6 v7 v8 v9 v10 v11 v12 v13 v14 v15 v16 v17:=(ho.block g h.lt hne).trans h
def LVM (a:Addr):Sem Value:=loadVar 71 a
theorem open_LVM (a:Addr):loadVar 71 a=LVM a:=rfl
def STM (a:Addr) (v:Value):Sem Unit:=storeVar 71 a v
theorem open_STM (a:Addr) (v:Value):storeVar 71 a v=STM a v:=rfl
theorem B18.ld (h:B18 W g v0 v1 v2 v3 v4 v5 v6 v7 v8 v9 v10 v11 v12 v13 v14 v15 v16 v17):(LVM ⟨g,0,none⟩).run Tryz.prog W=.ok (.agg #[v0,v1,v2,v3,v4,v5,v6,v7,v8,v9,v10,v11,v12,v13,v14,v15,v16,v17]) W :=
 run_loadVar_row W g _ _ _ (0,0) _ h Tryz.underlying71 rfl (by kernel_rfl)
theorem B18.st (h:B18 W g v0 v1 v2 v3 v4 v5 v6 v7 v8 v9 v10 v11 v12 v13 v14 v15 v16 v17) (a0 a1 a2 a3 a4 a5 a6 a7 a8 a9 a10 a11 a12 a13 a14 a15 a16 a17:Value) (h1:∀ v ∈ [a0,a1,a2,a3,a4,a5,a6,a7,a8,a9,a10,a11,a12,a13,a14,a15,a16,a17],v.oneCell'=true):(STM ⟨g,0,none⟩ (.agg #[a0,a1,a2,a3,a4,a5,a6,a7,a8,a9,a10,a11,a12,a13,a14,a15,a16,a17])).run Tryz.prog W=.ok () ((((((((((((((((((W.setCell ⟨g,0,none⟩ a0).setCell ⟨g,1,none⟩ a1).setCell ⟨g,2,none⟩ a2).setCell ⟨g,3,none⟩ a3).setCell ⟨g,4,none⟩ a4).setCell ⟨g,5,none⟩ a5).setCell ⟨g,6,none⟩ a6).setCell ⟨g,7,none⟩ a7).setCell ⟨g,8,none⟩ a8).setCell ⟨g,9,none⟩ a9).setCell ⟨g,10,none⟩ a10).setCell ⟨g,11,none⟩ a11).setCell ⟨g,12,none⟩ a12).setCell ⟨g,13,none⟩ a13).setCell ⟨g,14,none⟩ a14).setCell ⟨g,15,none⟩ a15).setCell ⟨g,16,none⟩ a16).setCell ⟨g,17,none⟩ a17):=by
 have hc:(storeCells ⟨g,0,none⟩ [a0,a1,a2,a3,a4,a5,a6,a7,a8,a9,a10,a11,a12,a13,a14,a15,a16,a17] 0).run Tryz.prog W=.ok () ((((((((((((((((((W.setCell ⟨g,0,none⟩ a0).setCell ⟨g,1,none⟩ a1).setCell ⟨g,2,none⟩ a2).setCell ⟨g,3,none⟩ a3).setCell ⟨g,4,none⟩ a4).setCell ⟨g,5,none⟩ a5).setCell ⟨g,6,none⟩ a6).setCell ⟨g,7,none⟩ a7).setCell ⟨g,8,none⟩ a8).setCell ⟨g,9,none⟩ a9).setCell ⟨g,10,none⟩ a10).setCell ⟨g,11,none⟩ a11).setCell ⟨g,12,none⟩ a12).setCell ⟨g,13,none⟩ a13).setCell ⟨g,14,none⟩ a14).setCell ⟨g,15,none⟩ a15).setCell ⟨g,16,none⟩ a16).setCell ⟨g,17,none⟩ a17) :=
  run_storeCells_cells g 0 [a0,a1,a2,a3,a4,a5,a6,a7,a8,a9,a10,a11,a12,a13,a14,a15,a16,a17] 0 W (fun j hj=>by rw [cell_of_row W g _ _ _ (0,0) h];simp only [List.length_cons,List.length_nil] at hj;simp;omega) (fun j _=>frozen_of_row W g _ _ _ h) h1
 have hz:(sizeOf 71).run Tryz.prog W=.ok 18 W:=by
  have hi:(Tryz.prog.info? 71).map (·.size)=some 18:=by kernel_rfl
  cases hq:Tryz.prog.info? 71 with
  | none=>simp [hq] at hi
  | some i=>simp [hq] at hi;simp [sizeOf,typeInfo,hq,hi]
 unfold STM storeVar
 simp only [Sem.run_bind,hz,Result.andThen_ok]
 exact hc
end
def B18R (W:World) (g:Nat) (v0 v1 v2 v3 v4 v5 v6 v7 v8 v9 v10 v11 v12 v13 v14 v15 v16 v17:Value):Prop:=W.heap[g]?=some (.cells #[v0,v1,v2,v3,v4,v5,v6,v7,v8,v9,v10,v11,v12,v13,v14,v15,v16,v17] 74 (0,0))
section
variable {W W':World} {g:Nat} {v0 v1 v2 v3 v4 v5 v6 v7 v8 v9 v10 v11 v12 v13 v14 v15 v16 v17:Value}
theorem B18R.c0 (h:B18R W g v0 v1 v2 v3 v4 v5 v6 v7 v8 v9 v10 v11 v12 v13 v14 v15 v16 v17):W.cell? ⟨g,0,none⟩=some v0:=by rw [cell_of_row W g 0 _ _ (0,0) h];rfl
theorem B18R.c1 (h:B18R W g v0 v1 v2 v3 v4 v5 v6 v7 v8 v9 v10 v11 v12 v13 v14 v15 v16 v17):W.cell? ⟨g,1,none⟩=some v1:=by rw [cell_of_row W g 1 _ _ (0,0) h];rfl
theorem B18R.c2 (h:B18R W g v0 v1 v2 v3 v4 v5 v6 v7 v8 v9 v10 v11 v12 v13 v14 v15 v16 v17):W.cell? ⟨g,2,none⟩=some v2:=by rw [cell_of_row W g 2 _ _ (0,0) h];rfl
theorem B18R.c3 (h:B18R W g v0 v1 v2 v3 v4 v5 v6 v7 v8 v9 v10 v11 v12 v13 v14 v15 v16 v17):W.cell? ⟨g,3,none⟩=some v3:=by rw [cell_of_row W g 3 _ _ (0,0) h];rfl
theorem B18R.c4 (h:B18R W g v0 v1 v2 v3 v4 v5 v6 v7 v8 v9 v10 v11 v12 v13 v14 v15 v16 v17):W.cell? ⟨g,4,none⟩=some v4:=by rw [cell_of_row W g 4 _ _ (0,0) h];rfl
theorem B18R.c5 (h:B18R W g v0 v1 v2 v3 v4 v5 v6 v7 v8 v9 v10 v11 v12 v13 v14 v15 v16 v17):W.cell? ⟨g,5,none⟩=some v5:=by rw [cell_of_row W g 5 _ _ (0,0) h];rfl
theorem B18R.c6 (h:B18R W g v0 v1 v2 v3 v4 v5 v6 v7 v8 v9 v10 v11 v12 v13 v14 v15 v16 v17):W.cell? ⟨g,6,none⟩=some v6:=by rw [cell_of_row W g 6 _ _ (0,0) h];rfl
theorem B18R.c7 (h:B18R W g v0 v1 v2 v3 v4 v5 v6 v7 v8 v9 v10 v11 v12 v13 v14 v15 v16 v17):W.cell? ⟨g,7,none⟩=some v7:=by rw [cell_of_row W g 7 _ _ (0,0) h];rfl
theorem B18R.c8 (h:B18R W g v0 v1 v2 v3 v4 v5 v6 v7 v8 v9 v10 v11 v12 v13 v14 v15 v16 v17):W.cell? ⟨g,8,none⟩=some v8:=by rw [cell_of_row W g 8 _ _ (0,0) h];rfl
theorem B18R.c9 (h:B18R W g v0 v1 v2 v3 v4 v5 v6 v7 v8 v9 v10 v11 v12 v13 v14 v15 v16 v17):W.cell? ⟨g,9,none⟩=some v9:=by rw [cell_of_row W g 9 _ _ (0,0) h];rfl
theorem B18R.c10 (h:B18R W g v0 v1 v2 v3 v4 v5 v6 v7 v8 v9 v10 v11 v12 v13 v14 v15 v16 v17):W.cell? ⟨g,10,none⟩=some v10:=by rw [cell_of_row W g 10 _ _ (0,0) h];rfl
theorem B18R.c11 (h:B18R W g v0 v1 v2 v3 v4 v5 v6 v7 v8 v9 v10 v11 v12 v13 v14 v15 v16 v17):W.cell? ⟨g,11,none⟩=some v11:=by rw [cell_of_row W g 11 _ _ (0,0) h];rfl
theorem B18R.c12 (h:B18R W g v0 v1 v2 v3 v4 v5 v6 v7 v8 v9 v10 v11 v12 v13 v14 v15 v16 v17):W.cell? ⟨g,12,none⟩=some v12:=by rw [cell_of_row W g 12 _ _ (0,0) h];rfl
theorem B18R.c13 (h:B18R W g v0 v1 v2 v3 v4 v5 v6 v7 v8 v9 v10 v11 v12 v13 v14 v15 v16 v17):W.cell? ⟨g,13,none⟩=some v13:=by rw [cell_of_row W g 13 _ _ (0,0) h];rfl
theorem B18R.c14 (h:B18R W g v0 v1 v2 v3 v4 v5 v6 v7 v8 v9 v10 v11 v12 v13 v14 v15 v16 v17):W.cell? ⟨g,14,none⟩=some v14:=by rw [cell_of_row W g 14 _ _ (0,0) h];rfl
theorem B18R.c15 (h:B18R W g v0 v1 v2 v3 v4 v5 v6 v7 v8 v9 v10 v11 v12 v13 v14 v15 v16 v17):W.cell? ⟨g,15,none⟩=some v15:=by rw [cell_of_row W g 15 _ _ (0,0) h];rfl
theorem B18R.c16 (h:B18R W g v0 v1 v2 v3 v4 v5 v6 v7 v8 v9 v10 v11 v12 v13 v14 v15 v16 v17):W.cell? ⟨g,16,none⟩=some v16:=by rw [cell_of_row W g 16 _ _ (0,0) h];rfl
theorem B18R.c17 (h:B18R W g v0 v1 v2 v3 v4 v5 v6 v7 v8 v9 v10 v11 v12 v13 v14 v15 v16 v17):W.cell? ⟨g,17,none⟩=some v17:=by rw [cell_of_row W g 17 _ _ (0,0) h];rfl
theorem B18R.all (h:B18R W g v0 v1 v2 v3 v4 v5 v6 v7 v8 v9 v10 v11 v12 v13 v14 v15 v16 v17):W.cell? ⟨g,0,none⟩=some v0∧W.cell? ⟨g,1,none⟩=some v1∧W.cell? ⟨g,2,none⟩=some v2∧W.cell? ⟨g,3,none⟩=some v3∧W.cell? ⟨g,4,none⟩=some v4∧W.cell? ⟨g,5,none⟩=some v5∧W.cell? ⟨g,6,none⟩=some v6∧W.cell? ⟨g,7,none⟩=some v7∧W.cell? ⟨g,8,none⟩=some v8∧W.cell? ⟨g,9,none⟩=some v9∧W.cell? ⟨g,10,none⟩=some v10∧W.cell? ⟨g,11,none⟩=some v11∧W.cell? ⟨g,12,none⟩=some v12∧W.cell? ⟨g,13,none⟩=some v13∧W.cell? ⟨g,14,none⟩=some v14∧W.cell? ⟨g,15,none⟩=some v15∧W.cell? ⟨g,16,none⟩=some v16∧W.cell? ⟨g,17,none⟩=some v17:=⟨h.c0,h.c1,h.c2,h.c3,h.c4,h.c5,h.c6,h.c7,h.c8,h.c9,h.c10,h.c11,h.c12,h.c13,h.c14,h.c15,h.c16,h.c17⟩
theorem B18R.f0 (h:B18R W g v0 v1 v2 v3 v4 v5 v6 v7 v8 v9 v10 v11 v12 v13 v14 v15 v16 v17):W.frozen? ⟨g,0,none⟩=false:=frozen_of_row W g 0 _ _ h
theorem B18R.f1 (h:B18R W g v0 v1 v2 v3 v4 v5 v6 v7 v8 v9 v10 v11 v12 v13 v14 v15 v16 v17):W.frozen? ⟨g,1,none⟩=false:=frozen_of_row W g 1 _ _ h
theorem B18R.f2 (h:B18R W g v0 v1 v2 v3 v4 v5 v6 v7 v8 v9 v10 v11 v12 v13 v14 v15 v16 v17):W.frozen? ⟨g,2,none⟩=false:=frozen_of_row W g 2 _ _ h
theorem B18R.f3 (h:B18R W g v0 v1 v2 v3 v4 v5 v6 v7 v8 v9 v10 v11 v12 v13 v14 v15 v16 v17):W.frozen? ⟨g,3,none⟩=false:=frozen_of_row W g 3 _ _ h
theorem B18R.f4 (h:B18R W g v0 v1 v2 v3 v4 v5 v6 v7 v8 v9 v10 v11 v12 v13 v14 v15 v16 v17):W.frozen? ⟨g,4,none⟩=false:=frozen_of_row W g 4 _ _ h
theorem B18R.f5 (h:B18R W g v0 v1 v2 v3 v4 v5 v6 v7 v8 v9 v10 v11 v12 v13 v14 v15 v16 v17):W.frozen? ⟨g,5,none⟩=false:=frozen_of_row W g 5 _ _ h
theorem B18R.f6 (h:B18R W g v0 v1 v2 v3 v4 v5 v6 v7 v8 v9 v10 v11 v12 v13 v14 v15 v16 v17):W.frozen? ⟨g,6,none⟩=false:=frozen_of_row W g 6 _ _ h
theorem B18R.f7 (h:B18R W g v0 v1 v2 v3 v4 v5 v6 v7 v8 v9 v10 v11 v12 v13 v14 v15 v16 v17):W.frozen? ⟨g,7,none⟩=false:=frozen_of_row W g 7 _ _ h
theorem B18R.f8 (h:B18R W g v0 v1 v2 v3 v4 v5 v6 v7 v8 v9 v10 v11 v12 v13 v14 v15 v16 v17):W.frozen? ⟨g,8,none⟩=false:=frozen_of_row W g 8 _ _ h
theorem B18R.f9 (h:B18R W g v0 v1 v2 v3 v4 v5 v6 v7 v8 v9 v10 v11 v12 v13 v14 v15 v16 v17):W.frozen? ⟨g,9,none⟩=false:=frozen_of_row W g 9 _ _ h
theorem B18R.f10 (h:B18R W g v0 v1 v2 v3 v4 v5 v6 v7 v8 v9 v10 v11 v12 v13 v14 v15 v16 v17):W.frozen? ⟨g,10,none⟩=false:=frozen_of_row W g 10 _ _ h
theorem B18R.f11 (h:B18R W g v0 v1 v2 v3 v4 v5 v6 v7 v8 v9 v10 v11 v12 v13 v14 v15 v16 v17):W.frozen? ⟨g,11,none⟩=false:=frozen_of_row W g 11 _ _ h
theorem B18R.f12 (h:B18R W g v0 v1 v2 v3 v4 v5 v6 v7 v8 v9 v10 v11 v12 v13 v14 v15 v16 v17):W.frozen? ⟨g,12,none⟩=false:=frozen_of_row W g 12 _ _ h
theorem B18R.f13 (h:B18R W g v0 v1 v2 v3 v4 v5 v6 v7 v8 v9 v10 v11 v12 v13 v14 v15 v16 v17):W.frozen? ⟨g,13,none⟩=false:=frozen_of_row W g 13 _ _ h
theorem B18R.f14 (h:B18R W g v0 v1 v2 v3 v4 v5 v6 v7 v8 v9 v10 v11 v12 v13 v14 v15 v16 v17):W.frozen? ⟨g,14,none⟩=false:=frozen_of_row W g 14 _ _ h
theorem B18R.f15 (h:B18R W g v0 v1 v2 v3 v4 v5 v6 v7 v8 v9 v10 v11 v12 v13 v14 v15 v16 v17):W.frozen? ⟨g,15,none⟩=false:=frozen_of_row W g 15 _ _ h
theorem B18R.f16 (h:B18R W g v0 v1 v2 v3 v4 v5 v6 v7 v8 v9 v10 v11 v12 v13 v14 v15 v16 v17):W.frozen? ⟨g,16,none⟩=false:=frozen_of_row W g 16 _ _ h
theorem B18R.f17 (h:B18R W g v0 v1 v2 v3 v4 v5 v6 v7 v8 v9 v10 v11 v12 v13 v14 v15 v16 v17):W.frozen? ⟨g,17,none⟩=false:=frozen_of_row W g 17 _ _ h
theorem B18R.lt (h:B18R W g v0 v1 v2 v3 v4 v5 v6 v7 v8 v9 v10 v11 v12 v13 v14 v15 v16 v17):g < W.heap.size:=World.block_lt_of_cell? W _ h.c0
theorem B18R.below (h:B18R W g v0 v1 v2 v3 v4 v5 v6 v7 v8 v9 v10 v11 v12 v13 v14 v15 v16 v17) (hb:Below W.heap.size W W'):B18R W' g v0 v1 v2 v3 v4 v5 v6 v7 v8 v9 v10 v11 v12 v13 v14 v15 v16 v17:=(hb.block g h.lt).trans h
theorem B18R.alloc (h:B18R W g v0 v1 v2 v3 v4 v5 v6 v7 v8 v9 v10 v11 v12 v13 v14 v15 v16 v17) (o:Obj):B18R (W.alloc o) g v0 v1 v2 v3 v4 v5 v6 v7 v8 v9 v10 v11 v12 v13 v14 v15 v16 v17:=(Below.heap_alloc W o g h.lt).trans h
theorem B18R.new' (W:World) (v0 v1 v2 v3 v4 v5 v6 v7 v8 v9 v10 v11 v12 v13 v14 v15 v16 v17:Value) (g:Nat) (hg:g=W.heap.size):B18R (W.alloc (.cells #[v0,v1,v2,v3,v4,v5,v6,v7,v8,v9,v10,v11,v12,v13,v14,v15,v16,v17] 74)) g v0 v1 v2 v3 v4 v5 v6 v7 v8 v9 v10 v11 v12 v13 v14 v15 v16 v17:=by subst hg;exact heap_alloc_new W _
theorem B18R.set18 (h:B18R W g v0 v1 v2 v3 v4 v5 v6 v7 v8 v9 v10 v11 v12 v13 v14 v15 v16 v17) (a0 a1 a2 a3 a4 a5 a6 a7 a8 a9 a10 a11 a12 a13 a14 a15 a16 a17:Value):B18R ((((((((((((((((((W.setCell ⟨g,0,none⟩ a0).setCell ⟨g,1,none⟩ a1).setCell ⟨g,2,none⟩ a2).setCell ⟨g,3,none⟩ a3).setCell ⟨g,4,none⟩ a4).setCell ⟨g,5,none⟩ a5).setCell ⟨g,6,none⟩ a6).setCell ⟨g,7,none⟩ a7).setCell ⟨g,8,none⟩ a8).setCell ⟨g,9,none⟩ a9).setCell ⟨g,10,none⟩ a10).setCell ⟨g,11,none⟩ a11).setCell ⟨g,12,none⟩ a12).setCell ⟨g,13,none⟩ a13).setCell ⟨g,14,none⟩ a14).setCell ⟨g,15,none⟩ a15).setCell ⟨g,16,none⟩ a16).setCell ⟨g,17,none⟩ a17) g a0 a1 a2 a3 a4 a5 a6 a7 a8 a9 a10 a11 a12 a13 a14 a15 a16 a17:=by
 unfold B18R at h ⊢
 have h0:=heap_setCell_same _ g 0 _ _ a0 h
 simp only [List.setIfInBounds_toArray,List.set_cons_zero] at h0
 have h1:=heap_setCell_same _ g 1 _ _ a1 h0
 simp only [List.setIfInBounds_toArray,List.set_cons_zero,List.set_cons_succ] at h1
 have h2:=heap_setCell_same _ g 2 _ _ a2 h1
 simp only [List.setIfInBounds_toArray,List.set_cons_zero,List.set_cons_succ] at h2
 have h3:=heap_setCell_same _ g 3 _ _ a3 h2
 simp only [List.setIfInBounds_toArray,List.set_cons_zero,List.set_cons_succ] at h3
 have h4:=heap_setCell_same _ g 4 _ _ a4 h3
 simp only [List.setIfInBounds_toArray,List.set_cons_zero,List.set_cons_succ] at h4
 have h5:=heap_setCell_same _ g 5 _ _ a5 h4
 simp only [List.setIfInBounds_toArray,List.set_cons_zero,List.set_cons_succ] at h5
 have h6:=heap_setCell_same _ g 6 _ _ a6 h5
 simp only [List.setIfInBounds_toArray,List.set_cons_zero,List.set_cons_succ] at h6
 have h7:=heap_setCell_same _ g 7 _ _ a7 h6
 simp only [List.setIfInBounds_toArray,List.set_cons_zero,List.set_cons_succ] at h7
 have h8:=heap_setCell_same _ g 8 _ _ a8 h7
 simp only [List.setIfInBounds_toArray,List.set_cons_zero,List.set_cons_succ] at h8
 have h9:=heap_setCell_same _ g 9 _ _ a9 h8
 simp only [List.setIfInBounds_toArray,List.set_cons_zero,List.set_cons_succ] at h9
 have h10:=heap_setCell_same _ g 10 _ _ a10 h9
 simp only [List.setIfInBounds_toArray,List.set_cons_zero,List.set_cons_succ] at h10
 have h11:=heap_setCell_same _ g 11 _ _ a11 h10
 simp only [List.setIfInBounds_toArray,List.set_cons_zero,List.set_cons_succ] at h11
 have h12:=heap_setCell_same _ g 12 _ _ a12 h11
 simp only [List.setIfInBounds_toArray,List.set_cons_zero,List.set_cons_succ] at h12
 have h13:=heap_setCell_same _ g 13 _ _ a13 h12
 simp only [List.setIfInBounds_toArray,List.set_cons_zero,List.set_cons_succ] at h13
 have h14:=heap_setCell_same _ g 14 _ _ a14 h13
 simp only [List.setIfInBounds_toArray,List.set_cons_zero,List.set_cons_succ] at h14
 have h15:=heap_setCell_same _ g 15 _ _ a15 h14
 simp only [List.setIfInBounds_toArray,List.set_cons_zero,List.set_cons_succ] at h15
 have h16:=heap_setCell_same _ g 16 _ _ a16 h15
 simp only [List.setIfInBounds_toArray,List.set_cons_zero,List.set_cons_succ] at h16
 have h17:=heap_setCell_same _ g 17 _ _ a17 h16
 simp only [List.setIfInBounds_toArray,List.set_cons_zero,List.set_cons_succ] at h17
 exact h17
theorem B18R.restm {k:Nat} (h:B18R W g v0 v1 v2 v3 v4 v5 v6 v7 v8 v9 v10 v11 v12 v13 v14 v15 v16 v17) (hne:g ≠ k) (ho:Only k W W'):B18R W' g v0 v1 v2 v3 v4 v5 v6 v7 v8 v9 v10 v11 v12 v13 v14 v15 v16 v17:=(ho.block g h.lt hne).trans h
def LVN (a:Addr):Sem Value:=loadVar 74 a
theorem open_LVN (a:Addr):loadVar 74 a=LVN a:=rfl
def STN (a:Addr) (v:Value):Sem Unit:=storeVar 74 a v
theorem open_STN (a:Addr) (v:Value):storeVar 74 a v=STN a v:=rfl
theorem B18R.ld (h:B18R W g v0 v1 v2 v3 v4 v5 v6 v7 v8 v9 v10 v11 v12 v13 v14 v15 v16 v17):(LVN ⟨g,0,none⟩).run Tryz.prog W=.ok (.agg #[v0,v1,v2,v3,v4,v5,v6,v7,v8,v9,v10,v11,v12,v13,v14,v15,v16,v17]) W :=
 run_loadVar_row W g _ _ _ (0,0) _ h Tryz.underlying74 rfl (by kernel_rfl)
theorem B18R.st (h:B18R W g v0 v1 v2 v3 v4 v5 v6 v7 v8 v9 v10 v11 v12 v13 v14 v15 v16 v17) (a0 a1 a2 a3 a4 a5 a6 a7 a8 a9 a10 a11 a12 a13 a14 a15 a16 a17:Value) (h1:∀ v ∈ [a0,a1,a2,a3,a4,a5,a6,a7,a8,a9,a10,a11,a12,a13,a14,a15,a16,a17],v.oneCell'=true):(STN ⟨g,0,none⟩ (.agg #[a0,a1,a2,a3,a4,a5,a6,a7,a8,a9,a10,a11,a12,a13,a14,a15,a16,a17])).run Tryz.prog W=.ok () ((((((((((((((((((W.setCell ⟨g,0,none⟩ a0).setCell ⟨g,1,none⟩ a1).setCell ⟨g,2,none⟩ a2).setCell ⟨g,3,none⟩ a3).setCell ⟨g,4,none⟩ a4).setCell ⟨g,5,none⟩ a5).setCell ⟨g,6,none⟩ a6).setCell ⟨g,7,none⟩ a7).setCell ⟨g,8,none⟩ a8).setCell ⟨g,9,none⟩ a9).setCell ⟨g,10,none⟩ a10).setCell ⟨g,11,none⟩ a11).setCell ⟨g,12,none⟩ a12).setCell ⟨g,13,none⟩ a13).setCell ⟨g,14,none⟩ a14).setCell ⟨g,15,none⟩ a15).setCell ⟨g,16,none⟩ a16).setCell ⟨g,17,none⟩ a17):=by
 have hc:(storeCells ⟨g,0,none⟩ [a0,a1,a2,a3,a4,a5,a6,a7,a8,a9,a10,a11,a12,a13,a14,a15,a16,a17] 0).run Tryz.prog W=.ok () ((((((((((((((((((W.setCell ⟨g,0,none⟩ a0).setCell ⟨g,1,none⟩ a1).setCell ⟨g,2,none⟩ a2).setCell ⟨g,3,none⟩ a3).setCell ⟨g,4,none⟩ a4).setCell ⟨g,5,none⟩ a5).setCell ⟨g,6,none⟩ a6).setCell ⟨g,7,none⟩ a7).setCell ⟨g,8,none⟩ a8).setCell ⟨g,9,none⟩ a9).setCell ⟨g,10,none⟩ a10).setCell ⟨g,11,none⟩ a11).setCell ⟨g,12,none⟩ a12).setCell ⟨g,13,none⟩ a13).setCell ⟨g,14,none⟩ a14).setCell ⟨g,15,none⟩ a15).setCell ⟨g,16,none⟩ a16).setCell ⟨g,17,none⟩ a17) :=
  run_storeCells_cells g 0 [a0,a1,a2,a3,a4,a5,a6,a7,a8,a9,a10,a11,a12,a13,a14,a15,a16,a17] 0 W (fun j hj=>by rw [cell_of_row W g _ _ _ (0,0) h];simp only [List.length_cons,List.length_nil] at hj;simp;omega) (fun j _=>frozen_of_row W g _ _ _ h) h1
 have hz:(sizeOf 74).run Tryz.prog W=.ok 18 W:=by
  have hi:(Tryz.prog.info? 74).map (·.size)=some 18:=by kernel_rfl
  cases hq:Tryz.prog.info? 74 with
  | none=>simp [hq] at hi
  | some i=>simp [hq] at hi;simp [sizeOf,typeInfo,hq,hi]
 unfold STN storeVar
 simp only [Sem.run_bind,hz,Result.andThen_ok]
 exact hc
end
theorem below_set18 {B g:Nat} {w W:World} (h:Below B w W) (hg:B≤g) (a0 a1 a2 a3 a4 a5 a6 a7 a8 a9 a10 a11 a12 a13 a14 a15 a16 a17:Value):Below B w ((((((((((((((((((W.setCell ⟨g,0,none⟩ a0).setCell ⟨g,1,none⟩ a1).setCell ⟨g,2,none⟩ a2).setCell ⟨g,3,none⟩ a3).setCell ⟨g,4,none⟩ a4).setCell ⟨g,5,none⟩ a5).setCell ⟨g,6,none⟩ a6).setCell ⟨g,7,none⟩ a7).setCell ⟨g,8,none⟩ a8).setCell ⟨g,9,none⟩ a9).setCell ⟨g,10,none⟩ a10).setCell ⟨g,11,none⟩ a11).setCell ⟨g,12,none⟩ a12).setCell ⟨g,13,none⟩ a13).setCell ⟨g,14,none⟩ a14).setCell ⟨g,15,none⟩ a15).setCell ⟨g,16,none⟩ a16).setCell ⟨g,17,none⟩ a17):=(((((((((((((((((h.setCell hg _).setCell hg _).setCell hg _).setCell hg _).setCell hg _).setCell hg _).setCell hg _).setCell hg _).setCell hg _).setCell hg _).setCell hg _).setCell hg _).setCell hg _).setCell hg _).setCell hg _).setCell hg _).setCell hg _).setCell hg _
theorem only_set18 (W:World) (g:Nat) (a0 a1 a2 a3 a4 a5 a6 a7 a8 a9 a10 a11 a12 a13 a14 a15 a16 a17:Value):Only g W ((((((((((((((((((W.setCell ⟨g,0,none⟩ a0).setCell ⟨g,1,none⟩ a1).setCell ⟨g,2,none⟩ a2).setCell ⟨g,3,none⟩ a3).setCell ⟨g,4,none⟩ a4).setCell ⟨g,5,none⟩ a5).setCell ⟨g,6,none⟩ a6).setCell ⟨g,7,none⟩ a7).setCell ⟨g,8,none⟩ a8).setCell ⟨g,9,none⟩ a9).setCell ⟨g,10,none⟩ a10).setCell ⟨g,11,none⟩ a11).setCell ⟨g,12,none⟩ a12).setCell ⟨g,13,none⟩ a13).setCell ⟨g,14,none⟩ a14).setCell ⟨g,15,none⟩ a15).setCell ⟨g,16,none⟩ a16).setCell ⟨g,17,none⟩ a17):=((((((((((((((((((Only.refl g W).setCell 0 _).setCell 1 _).setCell 2 _).setCell 3 _).setCell 4 _).setCell 5 _).setCell 6 _).setCell 7 _).setCell 8 _).setCell 9 _).setCell 10 _).setCell 11 _).setCell 12 _).setCell 13 _).setCell 14 _).setCell 15 _).setCell 16 _).setCell 17 _
theorem Rd.offB18 {K:IntKind} {W:World} {g:Nat} {s0:Bool} {s1:Bool} {s2:Bool} {s3:Bool} {s4:Bool} {s5:Bool} {A1:Option Addr} {n1 c1:Nat} {A2:Option Addr} {n2 c2:Nat} {A4:Option Addr} {n4 c4:Nat} {A5:Option Addr} {n5 c5:Nat} {A7:Option Addr} {n7 c7:Nat} {A8:Option Addr} {n8 c8:Nat} {A10:Option Addr} {n10 c10:Nat} {A11:Option Addr} {n11 c11:Nat} {A13:Option Addr} {n13 c13:Nat} {A14:Option Addr} {n14 c14:Nat} {A16:Option Addr} {n16 c16:Nat} {A17:Option Addr} {n17 c17:Nat} {A:Option Addr} {n:Nat} {l:List Nat} (hr:Rd K W A n l) (h:B18 W g (.bool s0) (.slice A1 n1 c1) (.slice A2 n2 c2) (.bool s1) (.slice A4 n4 c4) (.slice A5 n5 c5) (.bool s2) (.slice A7 n7 c7) (.slice A8 n8 c8) (.bool s3) (.slice A10 n10 c10) (.slice A11 n11 c11) (.bool s4) (.slice A13 n13 c13) (.slice A14 n14 c14) (.bool s5) (.slice A16 n16 c16) (.slice A17 n17 c17)):Off A n g:=by
 intro hn ad e hg
 obtain ⟨b,o,eA,hc⟩:=hr.at_ hn
 obtain ⟨x,_,hx⟩:=hc 0 hn
 rw [eA] at e
 cases e
 have hg2:b=g:=hg
 subst hg2
 rw [cell_of_row W b (o+0) _ _ (0,0) h] at hx
 match o,hx with
 | 0,hx=>cases hx
 | 1,hx=>cases hx
 | 2,hx=>cases hx
 | 3,hx=>cases hx
 | 4,hx=>cases hx
 | 5,hx=>cases hx
 | 6,hx=>cases hx
 | 7,hx=>cases hx
 | 8,hx=>cases hx
 | 9,hx=>cases hx
 | 10,hx=>cases hx
 | 11,hx=>cases hx
 | 12,hx=>cases hx
 | 13,hx=>cases hx
 | 14,hx=>cases hx
 | 15,hx=>cases hx
 | 16,hx=>cases hx
 | 17,hx=>cases hx
 | o+18,hx=>cases hx
theorem Rd.offB18R {K:IntKind} {W:World} {g:Nat} {s0:Bool} {s1:Bool} {s2:Bool} {s3:Bool} {s4:Bool} {s5:Bool} {A1:Option Addr} {n1 c1:Nat} {A2:Option Addr} {n2 c2:Nat} {A4:Option Addr} {n4 c4:Nat} {A5:Option Addr} {n5 c5:Nat} {A7:Option Addr} {n7 c7:Nat} {A8:Option Addr} {n8 c8:Nat} {A10:Option Addr} {n10 c10:Nat} {A11:Option Addr} {n11 c11:Nat} {A13:Option Addr} {n13 c13:Nat} {A14:Option Addr} {n14 c14:Nat} {A16:Option Addr} {n16 c16:Nat} {A17:Option Addr} {n17 c17:Nat} {A:Option Addr} {n:Nat} {l:List Nat} (hr:Rd K W A n l) (h:B18R W g (.bool s0) (.slice A1 n1 c1) (.slice A2 n2 c2) (.bool s1) (.slice A4 n4 c4) (.slice A5 n5 c5) (.bool s2) (.slice A7 n7 c7) (.slice A8 n8 c8) (.bool s3) (.slice A10 n10 c10) (.slice A11 n11 c11) (.bool s4) (.slice A13 n13 c13) (.slice A14 n14 c14) (.bool s5) (.slice A16 n16 c16) (.slice A17 n17 c17)):Off A n g:=by
 intro hn ad e hg
 obtain ⟨b,o,eA,hc⟩:=hr.at_ hn
 obtain ⟨x,_,hx⟩:=hc 0 hn
 rw [eA] at e
 cases e
 have hg2:b=g:=hg
 subst hg2
 rw [cell_of_row W b (o+0) _ _ (0,0) h] at hx
 match o,hx with
 | 0,hx=>cases hx
 | 1,hx=>cases hx
 | 2,hx=>cases hx
 | 3,hx=>cases hx
 | 4,hx=>cases hx
 | 5,hx=>cases hx
 | 6,hx=>cases hx
 | 7,hx=>cases hx
 | 8,hx=>cases hx
 | 9,hx=>cases hx
 | 10,hx=>cases hx
 | 11,hx=>cases hx
 | 12,hx=>cases hx
 | 13,hx=>cases hx
 | 14,hx=>cases hx
 | 15,hx=>cases hx
 | 16,hx=>cases hx
 | 17,hx=>cases hx
 | o+18,hx=>cases hx
def MR (w:World) (m:MV) (v:AM) (k l:Nat):Prop:=PR w m.a.s m.a.A m.a.n m.a.c m.a.B m.a.m m.a.d m.b.s m.b.A m.b.n m.b.c m.b.B m.b.m m.b.d v.a v.b k∧PR w m.c.s m.c.A m.c.n m.c.c m.c.B m.c.m m.c.d m.d.s m.d.A m.d.n m.d.c m.d.B m.d.m m.d.d v.c v.d k∧PR w m.e.s m.e.A m.e.n m.e.c m.e.B m.e.m m.e.d m.f.s m.f.A m.f.n m.f.c m.f.B m.f.m m.f.d v.e v.f l
def MG (w:World) (m:MV) (v:AM) (k l:Nat):Prop:=PG w m.a.s m.a.A m.a.n m.a.c m.a.B m.a.m m.a.d m.b.s m.b.A m.b.n m.b.c m.b.B m.b.m m.b.d v.a v.b k∧PG w m.c.s m.c.A m.c.n m.c.c m.c.B m.c.m m.c.d m.d.s m.d.A m.d.n m.d.c m.d.B m.d.m m.d.d v.c v.d k∧PG w m.e.s m.e.A m.e.n m.e.c m.e.B m.e.m m.e.d m.f.s m.f.A m.f.n m.f.c m.f.B m.f.m m.f.d v.e v.f l
def RM (w:World) (m:MV) (v:AM) (k l:Nat):Prop:=RP w m.a.s m.a.A m.a.n m.a.c m.a.B m.a.m m.a.d m.b.s m.b.A m.b.n m.b.c m.b.B m.b.m m.b.d v.a v.b k∧RP w m.c.s m.c.A m.c.n m.c.c m.c.B m.c.m m.c.d m.d.s m.d.A m.d.n m.d.c m.d.B m.d.m m.d.d v.c v.d k∧RP w m.e.s m.e.A m.e.n m.e.c m.e.B m.e.m m.e.d m.f.s m.f.A m.f.n m.f.c m.f.B m.f.m m.f.d v.e v.f l
def GivesMt (w:World) (v:AM) (k l:Nat) (en:Ending) (w':World):Prop:=∃ m:MV,en=.returned (.agg #[.bool m.a.s,.slice m.a.A m.a.n m.a.c,.slice m.a.B m.a.m m.a.d,.bool m.b.s,.slice m.b.A m.b.n m.b.c,.slice m.b.B m.b.m m.b.d,.bool m.c.s,.slice m.c.A m.c.n m.c.c,.slice m.c.B m.c.m m.c.d,.bool m.d.s,.slice m.d.A m.d.n m.d.c,.slice m.d.B m.d.m m.d.d,.bool m.e.s,.slice m.e.A m.e.n m.e.c,.slice m.e.B m.e.m m.e.d,.bool m.f.s,.slice m.f.A m.f.n m.f.c,.slice m.f.B m.f.m m.f.d])∧MG w' m v k l∧Below w.heap.size w w'
def GivesRM (w:World) (v:AM) (k l:Nat) (en:Ending) (w':World):Prop:=∃ m:MV,en=.returned (.agg #[.bool m.a.s,.slice m.a.A m.a.n m.a.c,.slice m.a.B m.a.m m.a.d,.bool m.b.s,.slice m.b.A m.b.n m.b.c,.slice m.b.B m.b.m m.b.d,.bool m.c.s,.slice m.c.A m.c.n m.c.c,.slice m.c.B m.c.m m.c.d,.bool m.d.s,.slice m.d.A m.d.n m.d.c,.slice m.d.B m.d.m m.d.d,.bool m.e.s,.slice m.e.A m.e.n m.e.c,.slice m.e.B m.e.m m.e.d,.bool m.f.s,.slice m.f.A m.f.n m.f.c,.slice m.f.B m.f.m m.f.d])∧RM w' m v k l∧Below w.heap.size w w'
section
variable {w w':World} {m:MV} {v:AM} {k l k1 l1:Nat}
theorem MR.below (h:MR w m v k l) (hb:Below w.heap.size w w'):MR w' m v k l:=⟨h.1.below hb,h.2.1.below hb,h.2.2.below hb⟩
theorem MR.ab (h:MR w m v k l):PR w m.a.s m.a.A m.a.n m.a.c m.a.B m.a.m m.a.d m.b.s m.b.A m.b.n m.b.c m.b.B m.b.m m.b.d v.a v.b k:=h.1
theorem MR.cd (h:MR w m v k l):PR w m.c.s m.c.A m.c.n m.c.c m.c.B m.c.m m.c.d m.d.s m.d.A m.d.n m.d.c m.d.B m.d.m m.d.d v.c v.d k:=h.2.1
theorem MR.ef (h:MR w m v k l):PR w m.e.s m.e.A m.e.n m.e.c m.e.B m.e.m m.e.d m.f.s m.f.A m.f.n m.f.c m.f.B m.f.m m.f.d v.e v.f l:=h.2.2
theorem MG.below (h:MG w m v k l) (hb:Below w.heap.size w w'):MG w' m v k l:=⟨h.1.below hb,h.2.1.below hb,h.2.2.below hb⟩
theorem MG.ab (h:MG w m v k l):PG w m.a.s m.a.A m.a.n m.a.c m.a.B m.a.m m.a.d m.b.s m.b.A m.b.n m.b.c m.b.B m.b.m m.b.d v.a v.b k:=h.1
theorem MG.cd (h:MG w m v k l):PG w m.c.s m.c.A m.c.n m.c.c m.c.B m.c.m m.c.d m.d.s m.d.A m.d.n m.d.c m.d.B m.d.m m.d.d v.c v.d k:=h.2.1
theorem MG.ef (h:MG w m v k l):PG w m.e.s m.e.A m.e.n m.e.c m.e.B m.e.m m.e.d m.f.s m.f.A m.f.n m.f.c m.f.B m.f.m m.f.d v.e v.f l:=h.2.2
theorem RM.below (h:RM w m v k l) (hb:Below w.heap.size w w'):RM w' m v k l:=⟨h.1.below hb,h.2.1.below hb,h.2.2.below hb⟩
theorem RM.ab (h:RM w m v k l):RP w m.a.s m.a.A m.a.n m.a.c m.a.B m.a.m m.a.d m.b.s m.b.A m.b.n m.b.c m.b.B m.b.m m.b.d v.a v.b k:=h.1
theorem RM.cd (h:RM w m v k l):RP w m.c.s m.c.A m.c.n m.c.c m.c.B m.c.m m.c.d m.d.s m.d.A m.d.n m.d.c m.d.B m.d.m m.d.d v.c v.d k:=h.2.1
theorem RM.ef (h:RM w m v k l):RP w m.e.s m.e.A m.e.n m.e.c m.e.B m.e.m m.e.d m.f.s m.f.A m.f.n m.f.c m.f.B m.f.m m.f.d v.e v.f l:=h.2.2
theorem MG.mr (h:MG w m v k l):MR w m v k l:=⟨h.1.pr,h.2.1.pr,h.2.2.pr⟩
theorem MG.more (h:MG w m v k l) (hk:k≤k1) (hl:l≤l1):MG w m v k1 l1:=⟨h.1.more hk,h.2.1.more hk,h.2.2.more hl⟩
theorem MR.more (h:MR w m v k l) (hk:k≤k1) (hl:l≤l1):MR w m v k1 l1:=⟨h.1.more hk,h.2.1.more hk,h.2.2.more hl⟩
theorem QG.set18 {u:Rat} {g:Nat} {s:Bool} {A B:Option Addr} {n c m d:Nat} {s0:Bool} {s1:Bool} {s2:Bool} {s3:Bool} {s4:Bool} {s5:Bool} {A1:Option Addr} {n1 c1:Nat} {A2:Option Addr} {n2 c2:Nat} {A4:Option Addr} {n4 c4:Nat} {A5:Option Addr} {n5 c5:Nat} {A7:Option Addr} {n7 c7:Nat} {A8:Option Addr} {n8 c8:Nat} {A10:Option Addr} {n10 c10:Nat} {A11:Option Addr} {n11 c11:Nat} {A13:Option Addr} {n13 c13:Nat} {A14:Option Addr} {n14 c14:Nat} {A16:Option Addr} {n16 c16:Nat} {A17:Option Addr} {n17 c17:Nat} (h:QG w s A n c B m d u k) (Z:B18 w g (.bool s0) (.slice A1 n1 c1) (.slice A2 n2 c2) (.bool s1) (.slice A4 n4 c4) (.slice A5 n5 c5) (.bool s2) (.slice A7 n7 c7) (.slice A8 n8 c8) (.bool s3) (.slice A10 n10 c10) (.slice A11 n11 c11) (.bool s4) (.slice A13 n13 c13) (.slice A14 n14 c14) (.bool s5) (.slice A16 n16 c16) (.slice A17 n17 c17)) (a0 a1 a2 a3 a4 a5 a6 a7 a8 a9 a10 a11 a12 a13 a14 a15 a16 a17:Value):QG ((((((((((((((((((w.setCell ⟨g,0,none⟩ a0).setCell ⟨g,1,none⟩ a1).setCell ⟨g,2,none⟩ a2).setCell ⟨g,3,none⟩ a3).setCell ⟨g,4,none⟩ a4).setCell ⟨g,5,none⟩ a5).setCell ⟨g,6,none⟩ a6).setCell ⟨g,7,none⟩ a7).setCell ⟨g,8,none⟩ a8).setCell ⟨g,9,none⟩ a9).setCell ⟨g,10,none⟩ a10).setCell ⟨g,11,none⟩ a11).setCell ⟨g,12,none⟩ a12).setCell ⟨g,13,none⟩ a13).setCell ⟨g,14,none⟩ a14).setCell ⟨g,15,none⟩ a15).setCell ⟨g,16,none⟩ a16).setCell ⟨g,17,none⟩ a17) s A n c B m d u k:=by
 have ho:=only_set18 w g a0 a1 a2 a3 a4 a5 a6 a7 a8 a9 a10 a11 a12 a13 a14 a15 a16 a17
 exact ⟨⟨h.1.1,h.1.2.1.only (h.1.2.1.offB18 Z) ho,h.1.2.2⟩,⟨h.2.1.only (h.2.1.offB18 Z) ho,h.2.2⟩⟩
theorem MG.set18 {g:Nat} {s0:Bool} {s1:Bool} {s2:Bool} {s3:Bool} {s4:Bool} {s5:Bool} {A1:Option Addr} {n1 c1:Nat} {A2:Option Addr} {n2 c2:Nat} {A4:Option Addr} {n4 c4:Nat} {A5:Option Addr} {n5 c5:Nat} {A7:Option Addr} {n7 c7:Nat} {A8:Option Addr} {n8 c8:Nat} {A10:Option Addr} {n10 c10:Nat} {A11:Option Addr} {n11 c11:Nat} {A13:Option Addr} {n13 c13:Nat} {A14:Option Addr} {n14 c14:Nat} {A16:Option Addr} {n16 c16:Nat} {A17:Option Addr} {n17 c17:Nat} (h:MG w m v k l) (Z:B18 w g (.bool s0) (.slice A1 n1 c1) (.slice A2 n2 c2) (.bool s1) (.slice A4 n4 c4) (.slice A5 n5 c5) (.bool s2) (.slice A7 n7 c7) (.slice A8 n8 c8) (.bool s3) (.slice A10 n10 c10) (.slice A11 n11 c11) (.bool s4) (.slice A13 n13 c13) (.slice A14 n14 c14) (.bool s5) (.slice A16 n16 c16) (.slice A17 n17 c17)) (a0 a1 a2 a3 a4 a5 a6 a7 a8 a9 a10 a11 a12 a13 a14 a15 a16 a17:Value):MG ((((((((((((((((((w.setCell ⟨g,0,none⟩ a0).setCell ⟨g,1,none⟩ a1).setCell ⟨g,2,none⟩ a2).setCell ⟨g,3,none⟩ a3).setCell ⟨g,4,none⟩ a4).setCell ⟨g,5,none⟩ a5).setCell ⟨g,6,none⟩ a6).setCell ⟨g,7,none⟩ a7).setCell ⟨g,8,none⟩ a8).setCell ⟨g,9,none⟩ a9).setCell ⟨g,10,none⟩ a10).setCell ⟨g,11,none⟩ a11).setCell ⟨g,12,none⟩ a12).setCell ⟨g,13,none⟩ a13).setCell ⟨g,14,none⟩ a14).setCell ⟨g,15,none⟩ a15).setCell ⟨g,16,none⟩ a16).setCell ⟨g,17,none⟩ a17) m v k l :=
 ⟨⟨h.1.1.set18 Z a0 a1 a2 a3 a4 a5 a6 a7 a8 a9 a10 a11 a12 a13 a14 a15 a16 a17,h.1.2.set18 Z a0 a1 a2 a3 a4 a5 a6 a7 a8 a9 a10 a11 a12 a13 a14 a15 a16 a17⟩,⟨h.2.1.1.set18 Z a0 a1 a2 a3 a4 a5 a6 a7 a8 a9 a10 a11 a12 a13 a14 a15 a16 a17,h.2.1.2.set18 Z a0 a1 a2 a3 a4 a5 a6 a7 a8 a9 a10 a11 a12 a13 a14 a15 a16 a17⟩,⟨h.2.2.1.set18 Z a0 a1 a2 a3 a4 a5 a6 a7 a8 a9 a10 a11 a12 a13 a14 a15 a16 a17,h.2.2.2.set18 Z a0 a1 a2 a3 a4 a5 a6 a7 a8 a9 a10 a11 a12 a13 a14 a15 a16 a17⟩⟩
theorem RM.set18 {g:Nat} {s0:Bool} {s1:Bool} {s2:Bool} {s3:Bool} {s4:Bool} {s5:Bool} {A1:Option Addr} {n1 c1:Nat} {A2:Option Addr} {n2 c2:Nat} {A4:Option Addr} {n4 c4:Nat} {A5:Option Addr} {n5 c5:Nat} {A7:Option Addr} {n7 c7:Nat} {A8:Option Addr} {n8 c8:Nat} {A10:Option Addr} {n10 c10:Nat} {A11:Option Addr} {n11 c11:Nat} {A13:Option Addr} {n13 c13:Nat} {A14:Option Addr} {n14 c14:Nat} {A16:Option Addr} {n16 c16:Nat} {A17:Option Addr} {n17 c17:Nat} (h:RM w m v k l) (Z:B18R w g (.bool s0) (.slice A1 n1 c1) (.slice A2 n2 c2) (.bool s1) (.slice A4 n4 c4) (.slice A5 n5 c5) (.bool s2) (.slice A7 n7 c7) (.slice A8 n8 c8) (.bool s3) (.slice A10 n10 c10) (.slice A11 n11 c11) (.bool s4) (.slice A13 n13 c13) (.slice A14 n14 c14) (.bool s5) (.slice A16 n16 c16) (.slice A17 n17 c17)) (a0 a1 a2 a3 a4 a5 a6 a7 a8 a9 a10 a11 a12 a13 a14 a15 a16 a17:Value):RM ((((((((((((((((((w.setCell ⟨g,0,none⟩ a0).setCell ⟨g,1,none⟩ a1).setCell ⟨g,2,none⟩ a2).setCell ⟨g,3,none⟩ a3).setCell ⟨g,4,none⟩ a4).setCell ⟨g,5,none⟩ a5).setCell ⟨g,6,none⟩ a6).setCell ⟨g,7,none⟩ a7).setCell ⟨g,8,none⟩ a8).setCell ⟨g,9,none⟩ a9).setCell ⟨g,10,none⟩ a10).setCell ⟨g,11,none⟩ a11).setCell ⟨g,12,none⟩ a12).setCell ⟨g,13,none⟩ a13).setCell ⟨g,14,none⟩ a14).setCell ⟨g,15,none⟩ a15).setCell ⟨g,16,none⟩ a16).setCell ⟨g,17,none⟩ a17) m v k l:=by
 have ho:=only_set18 w g a0 a1 a2 a3 a4 a5 a6 a7 a8 a9 a10 a11 a12 a13 a14 a15 a16 a17
 exact ⟨⟨h.1.1.onl (h.1.1.1.2.1.offB18R Z) (h.1.1.2.1.offB18R Z) ho,h.1.2.onl (h.1.2.1.2.1.offB18R Z) (h.1.2.2.1.offB18R Z) ho⟩,⟨h.2.1.1.onl (h.2.1.1.1.2.1.offB18R Z) (h.2.1.1.2.1.offB18R Z) ho,h.2.1.2.onl (h.2.1.2.1.2.1.offB18R Z) (h.2.1.2.2.1.offB18R Z) ho⟩,⟨h.2.2.1.onl (h.2.2.1.1.2.1.offB18R Z) (h.2.2.1.2.1.offB18R Z) ho,h.2.2.2.onl (h.2.2.2.1.2.1.offB18R Z) (h.2.2.2.2.1.offB18R Z) ho⟩⟩
end
theorem free18 (u:MV):∀ (x:Nat) (k:IntKind) (v:Int),(#[.bool u.a.s,.slice u.a.A u.a.n u.a.c,.slice u.a.B u.a.m u.a.d,.bool u.b.s,.slice u.b.A u.b.n u.b.c,.slice u.b.B u.b.m u.b.d,.bool u.c.s,.slice u.c.A u.c.n u.c.c,.slice u.c.B u.c.m u.c.d,.bool u.d.s,.slice u.d.A u.d.n u.d.c,.slice u.d.B u.d.m u.d.d,.bool u.e.s,.slice u.e.A u.e.n u.e.c,.slice u.e.B u.e.m u.e.d,.bool u.f.s,.slice u.f.A u.f.n u.f.c,.slice u.f.B u.f.m u.f.d]:Array Value)[x]? ≠ some (.int k v):=by
 intro x k v h
 match x,h with
 | 0,h=>cases h
 | 1,h=>cases h
 | 2,h=>cases h
 | 3,h=>cases h
 | 4,h=>cases h
 | 5,h=>cases h
 | 6,h=>cases h
 | 7,h=>cases h
 | 8,h=>cases h
 | 9,h=>cases h
 | 10,h=>cases h
 | 11,h=>cases h
 | 12,h=>cases h
 | 13,h=>cases h
 | 14,h=>cases h
 | 15,h=>cases h
 | 16,h=>cases h
 | 17,h=>cases h
 | x+18,h=>cases h
theorem free18z:∀ (x:Nat) (k:IntKind) (v:Int),(#[.bool false,.slice none 0 0,.slice none 0 0,.bool false,.slice none 0 0,.slice none 0 0,.bool false,.slice none 0 0,.slice none 0 0,.bool false,.slice none 0 0,.slice none 0 0,.bool false,.slice none 0 0,.slice none 0 0,.bool false,.slice none 0 0,.slice none 0 0]:Array Value)[x]? ≠ some (.int k v):=free18 ⟨⟨false,none,0,0,none,0,0⟩,⟨false,none,0,0,none,0,0⟩,⟨false,none,0,0,none,0,0⟩,⟨false,none,0,0,none,0,0⟩,⟨false,none,0,0,none,0,0⟩,⟨false,none,0,0,none,0,0⟩⟩
theorem res_M {fn:Func} {a:Tmp} (h:fn.results=#[.cell a 71]) (tmps:Array Value) (w:World) {g:Nat} {c:Array Value} (ha:tmps[a]?.getD undef=.pointer (some ⟨g,0,none⟩)) (hl:(LVM ⟨g,0,none⟩).run Tryz.prog w=.ok (.agg c) w):(results fn tmps).run Tryz.prog w=.ok (.agg c) w:=by
 unfold results
 rw [h]
 simp only [List.mapM_toArray]
 simp [asAddr,ha,open_LVM,hl]
theorem res_N {fn:Func} {a:Tmp} (h:fn.results=#[.cell a 74]) (tmps:Array Value) (w:World) {g:Nat} {c:Array Value} (ha:tmps[a]?.getD undef=.pointer (some ⟨g,0,none⟩)) (hl:(LVN ⟨g,0,none⟩).run Tryz.prog w=.ok (.agg c) w):(results fn tmps).run Tryz.prog w=.ok (.agg c) w:=by
 unfold results
 rw [h]
 simp only [List.mapM_toArray]
 simp [asAddr,ha,open_LVN,hl]
attribute [local go_sem ↓] open_LVM open_STM open_LVN open_STN
theorem run_loadM {e1:Operand→Value} {x1:Operand} {d1:Option Tmp} {y1 g:Nat} {pos:String} {af:Array Edge} {a0 a1 a2 a3 a4 a5 a6 a7 a8 a9 a10 a11 a12 a13 a14 a15 a16 a17:Value} (h:e1 x1=.pointer (some ⟨g,0,none⟩)) (Z:B18 w g a0 a1 a2 a3 a4 a5 a6 a7 a8 a9 a10 a11 a12 a13 a14 a15 a16 a17) :
 (execOp e1 ⟨d1,.load 71 x1,y1,pos,af,none⟩).run Tryz.prog w=.ok (.value (.agg #[a0,a1,a2,a3,a4,a5,a6,a7,a8,a9,a10,a11,a12,a13,a14,a15,a16,a17])) w:=by
 have hl:=Z.ld
 go_simp
theorem run_allocM {e1:Operand→Value} {d1:Option Tmp} {y1:Nat} {pos:String} {af:Array Edge} :
 (execOp e1 ⟨d1,.alloc 71,y1,pos,af,none⟩).run Tryz.prog w=.ok (.value (.pointer (some ⟨w.heap.size,0,none⟩))) (w.alloc (.cells #[.bool false,.slice none 0 0,.slice none 0 0,.bool false,.slice none 0 0,.slice none 0 0,.bool false,.slice none 0 0,.slice none 0 0,.bool false,.slice none 0 0,.slice none 0 0,.bool false,.slice none 0 0,.slice none 0 0,.bool false,.slice none 0 0,.slice none 0 0] 71)):=by
 go_simp
theorem run_storeM {e1:Operand→Value} {x1 z1:Operand} {d1:Option Tmp} {y1 g:Nat} {pos:String} {af:Array Edge} {u:MV} {a0 a1 a2 a3 a4 a5 a6 a7 a8 a9 a10 a11 a12 a13 a14 a15 a16 a17:Value} (h:e1 x1=.pointer (some ⟨g,0,none⟩)) (hz:e1 z1=.agg #[.bool u.a.s,.slice u.a.A u.a.n u.a.c,.slice u.a.B u.a.m u.a.d,.bool u.b.s,.slice u.b.A u.b.n u.b.c,.slice u.b.B u.b.m u.b.d,.bool u.c.s,.slice u.c.A u.c.n u.c.c,.slice u.c.B u.c.m u.c.d,.bool u.d.s,.slice u.d.A u.d.n u.d.c,.slice u.d.B u.d.m u.d.d,.bool u.e.s,.slice u.e.A u.e.n u.e.c,.slice u.e.B u.e.m u.e.d,.bool u.f.s,.slice u.f.A u.f.n u.f.c,.slice u.f.B u.f.m u.f.d]) (Z:B18 w g a0 a1 a2 a3 a4 a5 a6 a7 a8 a9 a10 a11 a12 a13 a14 a15 a16 a17) :
 (execOp e1 ⟨d1,.store 71 x1 z1,y1,pos,af,none⟩).run Tryz.prog w=.ok .skip ((((((((((((((((((w.setCell ⟨g,0,none⟩ (.bool u.a.s)).setCell ⟨g,1,none⟩ (.slice u.a.A u.a.n u.a.c)).setCell ⟨g,2,none⟩ (.slice u.a.B u.a.m u.a.d)).setCell ⟨g,3,none⟩ (.bool u.b.s)).setCell ⟨g,4,none⟩ (.slice u.b.A u.b.n u.b.c)).setCell ⟨g,5,none⟩ (.slice u.b.B u.b.m u.b.d)).setCell ⟨g,6,none⟩ (.bool u.c.s)).setCell ⟨g,7,none⟩ (.slice u.c.A u.c.n u.c.c)).setCell ⟨g,8,none⟩ (.slice u.c.B u.c.m u.c.d)).setCell ⟨g,9,none⟩ (.bool u.d.s)).setCell ⟨g,10,none⟩ (.slice u.d.A u.d.n u.d.c)).setCell ⟨g,11,none⟩ (.slice u.d.B u.d.m u.d.d)).setCell ⟨g,12,none⟩ (.bool u.e.s)).setCell ⟨g,13,none⟩ (.slice u.e.A u.e.n u.e.c)).setCell ⟨g,14,none⟩ (.slice u.e.B u.e.m u.e.d)).setCell ⟨g,15,none⟩ (.bool u.f.s)).setCell ⟨g,16,none⟩ (.slice u.f.A u.f.n u.f.c)).setCell ⟨g,17,none⟩ (.slice u.f.B u.f.m u.f.d)):=by
 have hs:=Z.st (.bool u.a.s) (.slice u.a.A u.a.n u.a.c) (.slice u.a.B u.a.m u.a.d) (.bool u.b.s) (.slice u.b.A u.b.n u.b.c) (.slice u.b.B u.b.m u.b.d) (.bool u.c.s) (.slice u.c.A u.c.n u.c.c) (.slice u.c.B u.c.m u.c.d) (.bool u.d.s) (.slice u.d.A u.d.n u.d.c) (.slice u.d.B u.d.m u.d.d) (.bool u.e.s) (.slice u.e.A u.e.n u.e.c) (.slice u.e.B u.e.m u.e.d) (.bool u.f.s) (.slice u.f.A u.f.n u.f.c) (.slice u.f.B u.f.m u.f.d) (by simp [Value.oneCell'])
 go_simp
theorem MG.box {T:TypeId} {w w':World} {g:Nat} {cs:Array Value} {u:MV} {v:AM} {k l:Nat} (h:MG w u v k l) (Z:BoxAt T w g cs) (ho:Only g w w'):MG w' u v k l:=⟨⟨h.1.1.box Z ho,h.1.2.box Z ho⟩,⟨h.2.1.1.box Z ho,h.2.1.2.box Z ho⟩,⟨h.2.2.1.box Z ho,h.2.2.2.box Z ho⟩⟩
theorem run_fM0 {e1:Operand→Value} {x1:Operand} {d1:Option Tmp} {y1 g:Nat} {pos:String} {af:Array Edge} (h:e1 x1=.pointer (some ⟨g,0,none⟩)) :
 (execOp e1 ⟨d1,.fieldAddr 71 x1 0,y1,pos,af,none⟩).run Tryz.prog w=.ok (.value (.pointer (some ⟨g,0,none⟩))) w:=by
 go_simp
theorem run_loadM0 {e1:Operand→Value} {x1:Operand} {d1:Option Tmp} {y1 g:Nat} {pos:String} {af:Array Edge} {a0 a1 a2 a3 a4 a5 a6 a7 a8 a9 a10 a11 a12 a13 a14 a15 a16 a17:Value} (h:e1 x1=.pointer (some ⟨g,0,none⟩)) (Z:B18 w g a0 a1 a2 a3 a4 a5 a6 a7 a8 a9 a10 a11 a12 a13 a14 a15 a16 a17) :
 (execOp e1 ⟨d1,.load 27 x1,y1,pos,af,none⟩).run Tryz.prog w=.ok (.value (.agg #[a0,a1,a2])) w:=by
 obtain ⟨h0,h1,h2⟩:=Z.all
 go_simp
theorem run_fM1 {e1:Operand→Value} {x1:Operand} {d1:Option Tmp} {y1 g:Nat} {pos:String} {af:Array Edge} (h:e1 x1=.pointer (some ⟨g,0,none⟩)) :
 (execOp e1 ⟨d1,.fieldAddr 71 x1 1,y1,pos,af,none⟩).run Tryz.prog w=.ok (.value (.pointer (some ⟨g,3,none⟩))) w:=by
 go_simp
theorem run_loadM1 {e1:Operand→Value} {x1:Operand} {d1:Option Tmp} {y1 g:Nat} {pos:String} {af:Array Edge} {a0 a1 a2 a3 a4 a5 a6 a7 a8 a9 a10 a11 a12 a13 a14 a15 a16 a17:Value} (h:e1 x1=.pointer (some ⟨g,3,none⟩)) (Z:B18 w g a0 a1 a2 a3 a4 a5 a6 a7 a8 a9 a10 a11 a12 a13 a14 a15 a16 a17) :
 (execOp e1 ⟨d1,.load 27 x1,y1,pos,af,none⟩).run Tryz.prog w=.ok (.value (.agg #[a3,a4,a5])) w:=by
 have h0:=Z.c3;have h1:=Z.c4;have h2:=Z.c5
 go_simp
theorem run_fM2 {e1:Operand→Value} {x1:Operand} {d1:Option Tmp} {y1 g:Nat} {pos:String} {af:Array Edge} (h:e1 x1=.pointer (some ⟨g,0,none⟩)) :
 (execOp e1 ⟨d1,.fieldAddr 71 x1 2,y1,pos,af,none⟩).run Tryz.prog w=.ok (.value (.pointer (some ⟨g,6,none⟩))) w:=by
 go_simp
theorem run_loadM2 {e1:Operand→Value} {x1:Operand} {d1:Option Tmp} {y1 g:Nat} {pos:String} {af:Array Edge} {a0 a1 a2 a3 a4 a5 a6 a7 a8 a9 a10 a11 a12 a13 a14 a15 a16 a17:Value} (h:e1 x1=.pointer (some ⟨g,6,none⟩)) (Z:B18 w g a0 a1 a2 a3 a4 a5 a6 a7 a8 a9 a10 a11 a12 a13 a14 a15 a16 a17) :
 (execOp e1 ⟨d1,.load 27 x1,y1,pos,af,none⟩).run Tryz.prog w=.ok (.value (.agg #[a6,a7,a8])) w:=by
 have h0:=Z.c6;have h1:=Z.c7;have h2:=Z.c8
 go_simp
theorem run_fM3 {e1:Operand→Value} {x1:Operand} {d1:Option Tmp} {y1 g:Nat} {pos:String} {af:Array Edge} (h:e1 x1=.pointer (some ⟨g,0,none⟩)) :
 (execOp e1 ⟨d1,.fieldAddr 71 x1 3,y1,pos,af,none⟩).run Tryz.prog w=.ok (.value (.pointer (some ⟨g,9,none⟩))) w:=by
 go_simp
theorem run_loadM3 {e1:Operand→Value} {x1:Operand} {d1:Option Tmp} {y1 g:Nat} {pos:String} {af:Array Edge} {a0 a1 a2 a3 a4 a5 a6 a7 a8 a9 a10 a11 a12 a13 a14 a15 a16 a17:Value} (h:e1 x1=.pointer (some ⟨g,9,none⟩)) (Z:B18 w g a0 a1 a2 a3 a4 a5 a6 a7 a8 a9 a10 a11 a12 a13 a14 a15 a16 a17) :
 (execOp e1 ⟨d1,.load 27 x1,y1,pos,af,none⟩).run Tryz.prog w=.ok (.value (.agg #[a9,a10,a11])) w:=by
 have h0:=Z.c9;have h1:=Z.c10;have h2:=Z.c11
 go_simp
theorem run_loadN {e1:Operand→Value} {x1:Operand} {d1:Option Tmp} {y1 g:Nat} {pos:String} {af:Array Edge} {a0 a1 a2 a3 a4 a5 a6 a7 a8 a9 a10 a11 a12 a13 a14 a15 a16 a17:Value} (h:e1 x1=.pointer (some ⟨g,0,none⟩)) (Z:B18R w g a0 a1 a2 a3 a4 a5 a6 a7 a8 a9 a10 a11 a12 a13 a14 a15 a16 a17) :
 (execOp e1 ⟨d1,.load 74 x1,y1,pos,af,none⟩).run Tryz.prog w=.ok (.value (.agg #[a0,a1,a2,a3,a4,a5,a6,a7,a8,a9,a10,a11,a12,a13,a14,a15,a16,a17])) w:=by
 have hl:=Z.ld
 go_simp
theorem run_allocN {e1:Operand→Value} {d1:Option Tmp} {y1:Nat} {pos:String} {af:Array Edge} :
 (execOp e1 ⟨d1,.alloc 74,y1,pos,af,none⟩).run Tryz.prog w=.ok (.value (.pointer (some ⟨w.heap.size,0,none⟩))) (w.alloc (.cells #[.bool false,.slice none 0 0,.slice none 0 0,.bool false,.slice none 0 0,.slice none 0 0,.bool false,.slice none 0 0,.slice none 0 0,.bool false,.slice none 0 0,.slice none 0 0,.bool false,.slice none 0 0,.slice none 0 0,.bool false,.slice none 0 0,.slice none 0 0] 74)):=by
 go_simp
theorem run_storeN {e1:Operand→Value} {x1 z1:Operand} {d1:Option Tmp} {y1 g:Nat} {pos:String} {af:Array Edge} {u:MV} {a0 a1 a2 a3 a4 a5 a6 a7 a8 a9 a10 a11 a12 a13 a14 a15 a16 a17:Value} (h:e1 x1=.pointer (some ⟨g,0,none⟩)) (hz:e1 z1=.agg #[.bool u.a.s,.slice u.a.A u.a.n u.a.c,.slice u.a.B u.a.m u.a.d,.bool u.b.s,.slice u.b.A u.b.n u.b.c,.slice u.b.B u.b.m u.b.d,.bool u.c.s,.slice u.c.A u.c.n u.c.c,.slice u.c.B u.c.m u.c.d,.bool u.d.s,.slice u.d.A u.d.n u.d.c,.slice u.d.B u.d.m u.d.d,.bool u.e.s,.slice u.e.A u.e.n u.e.c,.slice u.e.B u.e.m u.e.d,.bool u.f.s,.slice u.f.A u.f.n u.f.c,.slice u.f.B u.f.m u.f.d]) (Z:B18R w g a0 a1 a2 a3 a4 a5 a6 a7 a8 a9 a10 a11 a12 a13 a14 a15 a16 a17) :
 (execOp e1 ⟨d1,.store 74 x1 z1,y1,pos,af,none⟩).run Tryz.prog w=.ok .skip ((((((((((((((((((w.setCell ⟨g,0,none⟩ (.bool u.a.s)).setCell ⟨g,1,none⟩ (.slice u.a.A u.a.n u.a.c)).setCell ⟨g,2,none⟩ (.slice u.a.B u.a.m u.a.d)).setCell ⟨g,3,none⟩ (.bool u.b.s)).setCell ⟨g,4,none⟩ (.slice u.b.A u.b.n u.b.c)).setCell ⟨g,5,none⟩ (.slice u.b.B u.b.m u.b.d)).setCell ⟨g,6,none⟩ (.bool u.c.s)).setCell ⟨g,7,none⟩ (.slice u.c.A u.c.n u.c.c)).setCell ⟨g,8,none⟩ (.slice u.c.B u.c.m u.c.d)).setCell ⟨g,9,none⟩ (.bool u.d.s)).setCell ⟨g,10,none⟩ (.slice u.d.A u.d.n u.d.c)).setCell ⟨g,11,none⟩ (.slice u.d.B u.d.m u.d.d)).setCell ⟨g,12,none⟩ (.bool u.e.s)).setCell ⟨g,13,none⟩ (.slice u.e.A u.e.n u.e.c)).setCell ⟨g,14,none⟩ (.slice u.e.B u.e.m u.e.d)).setCell ⟨g,15,none⟩ (.bool u.f.s)).setCell ⟨g,16,none⟩ (.slice u.f.A u.f.n u.f.c)).setCell ⟨g,17,none⟩ (.slice u.f.B u.f.m u.f.d)):=by
 have hs:=Z.st (.bool u.a.s) (.slice u.a.A u.a.n u.a.c) (.slice u.a.B u.a.m u.a.d) (.bool u.b.s) (.slice u.b.A u.b.n u.b.c) (.slice u.b.B u.b.m u.b.d) (.bool u.c.s) (.slice u.c.A u.c.n u.c.c) (.slice u.c.B u.c.m u.c.d) (.bool u.d.s) (.slice u.d.A u.d.n u.d.c) (.slice u.d.B u.d.m u.d.d) (.bool u.e.s) (.slice u.e.A u.e.n u.e.c) (.slice u.e.B u.e.m u.e.d) (.bool u.f.s) (.slice u.f.A u.f.n u.f.c) (.slice u.f.B u.f.m u.f.d) (by simp [Value.oneCell'])
 go_simp
def VRM (v:AM) (k l:Nat) (x:Value) (w:World):Prop:=∃ u:MV,x=.agg #[.bool u.a.s,.slice u.a.A u.a.n u.a.c,.slice u.a.B u.a.m u.a.d,.bool u.b.s,.slice u.b.A u.b.n u.b.c,.slice u.b.B u.b.m u.b.d,.bool u.c.s,.slice u.c.A u.c.n u.c.c,.slice u.c.B u.c.m u.c.d,.bool u.d.s,.slice u.d.A u.d.n u.d.c,.slice u.d.B u.d.m u.d.d,.bool u.e.s,.slice u.e.A u.e.n u.e.c,.slice u.e.B u.e.m u.e.d,.bool u.f.s,.slice u.f.A u.f.n u.f.c,.slice u.f.B u.f.m u.f.d]∧RM w u v k l
theorem RM.box {T:TypeId} {w w':World} {g:Nat} {cs:Array Value} {u:MV} {v:AM} {k l:Nat} (h:RM w u v k l) (Z:BoxAt T w g cs) (ho:Only g w w'):RM w' u v k l:=⟨⟨h.1.1.box Z ho,h.1.2.box Z ho⟩,⟨h.2.1.1.box Z ho,h.2.1.2.box Z ho⟩,⟨h.2.2.1.box Z ho,h.2.2.2.box Z ho⟩⟩
theorem stays_rm (v:AM) (k l:Nat):Stays (VRM v k l) :=
 ⟨fun _ _ _ ⟨u,h1,h2⟩ hb=>⟨u,h1,h2.below hb⟩,fun _ _ _ _ _ _ ⟨u,h1,h2⟩ hB ho=>⟨u,h1,h2.box hB ho⟩⟩
theorem store_rm {ac:Act} {x1 z:Operand} {y1 g:Nat} {pos:String} {af:Array Edge} {Q:Exit→Act→World→Prop} {v:AM} {k l:Nat} (p1:ac.eval x1=.pointer (some ⟨g,0,none⟩)) (h:VRM v k l (ac.eval z) w) (B:BoxAt 74 w g #[.bool false,.slice none 0 0,.slice none 0 0,.bool false,.slice none 0 0,.slice none 0 0,.bool false,.slice none 0 0,.slice none 0 0,.bool false,.slice none 0 0,.slice none 0 0,.bool false,.slice none 0 0,.slice none 0 0,.bool false,.slice none 0 0,.slice none 0 0]) :
 (⟨none,.store 74 x1 z,y1,pos,af,none⟩:Oper).wp Tryz.prog ac w (fun a'' w''=>a''=ac∧Only g w w''∧∃ cs',BoxAt 74 w'' g cs'∧(fun cs w=>∃ u:MV,cs=#[.bool u.a.s,.slice u.a.A u.a.n u.a.c,.slice u.a.B u.a.m u.a.d,.bool u.b.s,.slice u.b.A u.b.n u.b.c,.slice u.b.B u.b.m u.b.d,.bool u.c.s,.slice u.c.A u.c.n u.c.c,.slice u.c.B u.c.m u.c.d,.bool u.d.s,.slice u.d.A u.d.n u.d.c,.slice u.d.B u.d.m u.d.d,.bool u.e.s,.slice u.e.A u.e.n u.e.c,.slice u.e.B u.e.m u.e.d,.bool u.f.s,.slice u.f.A u.f.n u.f.c,.slice u.f.B u.f.m u.f.d]∧RM w u v k l) cs' w'') Q:=by
 obtain ⟨u,h1,h2⟩:=h
 have Z:B18R w g (.bool false) (.slice none 0 0) (.slice none 0 0) (.bool false) (.slice none 0 0) (.slice none 0 0) (.bool false) (.slice none 0 0) (.slice none 0 0) (.bool false) (.slice none 0 0) (.slice none 0 0) (.bool false) (.slice none 0 0) (.slice none 0 0) (.bool false) (.slice none 0 0) (.slice none 0 0):=B.at_
 unfold Oper.wp
 rw [run_storeN p1 h1 Z,Oper.upon_skip]
 have ho:=only_set18 w g (.bool u.a.s) (.slice u.a.A u.a.n u.a.c) (.slice u.a.B u.a.m u.a.d) (.bool u.b.s) (.slice u.b.A u.b.n u.b.c) (.slice u.b.B u.b.m u.b.d) (.bool u.c.s) (.slice u.c.A u.c.n u.c.c) (.slice u.c.B u.c.m u.c.d) (.bool u.d.s) (.slice u.d.A u.d.n u.d.c) (.slice u.d.B u.d.m u.d.d) (.bool u.e.s) (.slice u.e.A u.e.n u.e.c) (.slice u.e.B u.e.m u.e.d) (.bool u.f.s) (.slice u.f.A u.f.n u.f.c) (.slice u.f.B u.f.m u.f.d)
 exact ⟨put_none ac undef,ho,#[.bool u.a.s,.slice u.a.A u.a.n u.a.c,.slice u.a.B u.a.m u.a.d,.bool u.b.s,.slice u.b.A u.b.n u.b.c,.slice u.b.B u.b.m u.b.d,.bool u.c.s,.slice u.c.A u.c.n u.c.c,.slice u.c.B u.c.m u.c.d,.bool u.d.s,.slice u.d.A u.d.n u.d.c,.slice u.d.B u.d.m u.d.d,.bool u.e.s,.slice u.e.A u.e.n u.e.c,.slice u.e.B u.e.m u.e.d,.bool u.f.s,.slice u.f.A u.f.n u.f.c,.slice u.f.B u.f.m u.f.d],⟨Z.set18 (.bool u.a.s) (.slice u.a.A u.a.n u.a.c) (.slice u.a.B u.a.m u.a.d) (.bool u.b.s) (.slice u.b.A u.b.n u.b.c) (.slice u.b.B u.b.m u.b.d) (.bool u.c.s) (.slice u.c.A u.c.n u.c.c) (.slice u.c.B u.c.m u.c.d) (.bool u.d.s) (.slice u.d.A u.d.n u.d.c) (.slice u.d.B u.d.m u.d.d) (.bool u.e.s) (.slice u.e.A u.e.n u.e.c) (.slice u.e.B u.e.m u.e.d) (.bool u.f.s) (.slice u.f.A u.f.n u.f.c) (.slice u.f.B u.f.m u.f.d),free18 u⟩,u,rfl,h2.box B ho⟩
theorem run_fN0 {e1:Operand→Value} {x1:Operand} {d1:Option Tmp} {y1 g:Nat} {pos:String} {af:Array Edge} (h:e1 x1=.pointer (some ⟨g,0,none⟩)) :
 (execOp e1 ⟨d1,.fieldAddr 74 x1 0,y1,pos,af,none⟩).run Tryz.prog w=.ok (.value (.pointer (some ⟨g,0,none⟩))) w:=by
 go_simp
theorem run_loadN0 {e1:Operand→Value} {x1:Operand} {d1:Option Tmp} {y1 g:Nat} {pos:String} {af:Array Edge} {a0 a1 a2 a3 a4 a5 a6 a7 a8 a9 a10 a11 a12 a13 a14 a15 a16 a17:Value} (h:e1 x1=.pointer (some ⟨g,0,none⟩)) (Z:B18R w g a0 a1 a2 a3 a4 a5 a6 a7 a8 a9 a10 a11 a12 a13 a14 a15 a16 a17) :
 (execOp e1 ⟨d1,.load 43 x1,y1,pos,af,none⟩).run Tryz.prog w=.ok (.value (.agg #[a0,a1,a2])) w:=by
 obtain ⟨h0,h1,h2⟩:=Z.all
 go_simp
theorem run_fN1 {e1:Operand→Value} {x1:Operand} {d1:Option Tmp} {y1 g:Nat} {pos:String} {af:Array Edge} (h:e1 x1=.pointer (some ⟨g,0,none⟩)) :
 (execOp e1 ⟨d1,.fieldAddr 74 x1 1,y1,pos,af,none⟩).run Tryz.prog w=.ok (.value (.pointer (some ⟨g,3,none⟩))) w:=by
 go_simp
theorem run_loadN1 {e1:Operand→Value} {x1:Operand} {d1:Option Tmp} {y1 g:Nat} {pos:String} {af:Array Edge} {a0 a1 a2 a3 a4 a5 a6 a7 a8 a9 a10 a11 a12 a13 a14 a15 a16 a17:Value} (h:e1 x1=.pointer (some ⟨g,3,none⟩)) (Z:B18R w g a0 a1 a2 a3 a4 a5 a6 a7 a8 a9 a10 a11 a12 a13 a14 a15 a16 a17) :
 (execOp e1 ⟨d1,.load 43 x1,y1,pos,af,none⟩).run Tryz.prog w=.ok (.value (.agg #[a3,a4,a5])) w:=by
 have h0:=Z.c3;have h1:=Z.c4;have h2:=Z.c5
 go_simp
theorem run_fN2 {e1:Operand→Value} {x1:Operand} {d1:Option Tmp} {y1 g:Nat} {pos:String} {af:Array Edge} (h:e1 x1=.pointer (some ⟨g,0,none⟩)) :
 (execOp e1 ⟨d1,.fieldAddr 74 x1 2,y1,pos,af,none⟩).run Tryz.prog w=.ok (.value (.pointer (some ⟨g,6,none⟩))) w:=by
 go_simp
theorem run_loadN2 {e1:Operand→Value} {x1:Operand} {d1:Option Tmp} {y1 g:Nat} {pos:String} {af:Array Edge} {a0 a1 a2 a3 a4 a5 a6 a7 a8 a9 a10 a11 a12 a13 a14 a15 a16 a17:Value} (h:e1 x1=.pointer (some ⟨g,6,none⟩)) (Z:B18R w g a0 a1 a2 a3 a4 a5 a6 a7 a8 a9 a10 a11 a12 a13 a14 a15 a16 a17) :
 (execOp e1 ⟨d1,.load 43 x1,y1,pos,af,none⟩).run Tryz.prog w=.ok (.value (.agg #[a6,a7,a8])) w:=by
 have h0:=Z.c6;have h1:=Z.c7;have h2:=Z.c8
 go_simp
theorem run_fN3 {e1:Operand→Value} {x1:Operand} {d1:Option Tmp} {y1 g:Nat} {pos:String} {af:Array Edge} (h:e1 x1=.pointer (some ⟨g,0,none⟩)) :
 (execOp e1 ⟨d1,.fieldAddr 74 x1 3,y1,pos,af,none⟩).run Tryz.prog w=.ok (.value (.pointer (some ⟨g,9,none⟩))) w:=by
 go_simp
theorem run_loadN3 {e1:Operand→Value} {x1:Operand} {d1:Option Tmp} {y1 g:Nat} {pos:String} {af:Array Edge} {a0 a1 a2 a3 a4 a5 a6 a7 a8 a9 a10 a11 a12 a13 a14 a15 a16 a17:Value} (h:e1 x1=.pointer (some ⟨g,9,none⟩)) (Z:B18R w g a0 a1 a2 a3 a4 a5 a6 a7 a8 a9 a10 a11 a12 a13 a14 a15 a16 a17) :
 (execOp e1 ⟨d1,.load 43 x1,y1,pos,af,none⟩).run Tryz.prog w=.ok (.value (.agg #[a9,a10,a11])) w:=by
 have h0:=Z.c9;have h1:=Z.c10;have h2:=Z.c11
 go_simp
def VPR (x y:Rat) (k:Nat) (v:Value) (w:World):Prop:=∃ s A n c B m d t E i e F j f,v=.agg #[.bool s,.slice A n c,.slice B m d,.bool t,.slice E i e,.slice F j f]∧PR w s A n c B m d t E i e F j f x y k
theorem stays_pr (x y:Rat) (k:Nat):Stays (VPR x y k) :=
 ⟨fun _ _ _ ⟨s,A,n,c,B,m,d,t,E,i,e,F,j,f,h1,h2⟩ hb=>⟨s,A,n,c,B,m,d,t,E,i,e,F,j,f,h1,h2.below hb⟩,fun _ _ _ _ _ _ ⟨s,A,n,c,B,m,d,t,E,i,e,F,j,f,h1,h2⟩ hB ho=>⟨s,A,n,c,B,m,d,t,E,i,e,F,j,f,h1,⟨h2.1.box hB ho,h2.2.box hB ho⟩⟩⟩
def QV.zero:QV:=⟨false,none,0,0,none,0,0⟩
def MU (w:World) (m:MV) (v:AM) (k _l:Nat):Prop:=PG w m.a.s m.a.A m.a.n m.a.c m.a.B m.a.m m.a.d m.b.s m.b.A m.b.n m.b.c m.b.B m.b.m m.b.d v.a v.b k∧PG w m.c.s m.c.A m.c.n m.c.c m.c.B m.c.m m.c.d m.d.s m.d.A m.d.n m.d.c m.d.B m.d.m m.d.d v.c v.d k∧m.e=QV.zero∧m.f=QV.zero∧v.e=0∧v.f=0
section
variable {w w':World} {m:MV} {v:AM} {k l:Nat}
theorem MU.below (h:MU w m v k l) (hb:Below w.heap.size w w'):MU w' m v k l:=⟨h.1.below hb,h.2.1.below hb,h.2.2⟩
theorem MU.box {T:TypeId} {g:Nat} {cs:Array Value} (h:MU w m v k l) (Z:BoxAt T w g cs) (ho:Only g w w'):MU w' m v k l:=⟨⟨h.1.1.box Z ho,h.1.2.box Z ho⟩,⟨h.2.1.1.box Z ho,h.2.1.2.box Z ho⟩,h.2.2⟩
end
def VMU (v:AM) (k l:Nat) (x:Value) (w:World):Prop:=∃ u:MV,x=.agg #[.bool u.a.s,.slice u.a.A u.a.n u.a.c,.slice u.a.B u.a.m u.a.d,.bool u.b.s,.slice u.b.A u.b.n u.b.c,.slice u.b.B u.b.m u.b.d,.bool u.c.s,.slice u.c.A u.c.n u.c.c,.slice u.c.B u.c.m u.c.d,.bool u.d.s,.slice u.d.A u.d.n u.d.c,.slice u.d.B u.d.m u.d.d,.bool u.e.s,.slice u.e.A u.e.n u.e.c,.slice u.e.B u.e.m u.e.d,.bool u.f.s,.slice u.f.A u.f.n u.f.c,.slice u.f.B u.f.m u.f.d]∧MU w u v k l
theorem stays_mu (v:AM) (k l:Nat):Stays (VMU v k l) :=
 ⟨fun _ _ _ ⟨u,h1,h2⟩ hb=>⟨u,h1,h2.below hb⟩,fun _ _ _ _ _ _ ⟨u,h1,h2⟩ hB ho=>⟨u,h1,h2.box hB ho⟩⟩
theorem store_mu {ac:Act} {x1 z:Operand} {y1 g:Nat} {pos:String} {af:Array Edge} {Q:Exit→Act→World→Prop} {v:AM} {k l:Nat} (p1:ac.eval x1=.pointer (some ⟨g,0,none⟩)) (h:VMU v k l (ac.eval z) w) (B:BoxAt 71 w g #[.bool false,.slice none 0 0,.slice none 0 0,.bool false,.slice none 0 0,.slice none 0 0,.bool false,.slice none 0 0,.slice none 0 0,.bool false,.slice none 0 0,.slice none 0 0,.bool false,.slice none 0 0,.slice none 0 0,.bool false,.slice none 0 0,.slice none 0 0]) :
 (⟨none,.store 71 x1 z,y1,pos,af,none⟩:Oper).wp Tryz.prog ac w (fun a'' w''=>a''=ac∧Only g w w''∧∃ cs',BoxAt 71 w'' g cs'∧(fun cs w=>∃ u:MV,cs=#[.bool u.a.s,.slice u.a.A u.a.n u.a.c,.slice u.a.B u.a.m u.a.d,.bool u.b.s,.slice u.b.A u.b.n u.b.c,.slice u.b.B u.b.m u.b.d,.bool u.c.s,.slice u.c.A u.c.n u.c.c,.slice u.c.B u.c.m u.c.d,.bool u.d.s,.slice u.d.A u.d.n u.d.c,.slice u.d.B u.d.m u.d.d,.bool u.e.s,.slice u.e.A u.e.n u.e.c,.slice u.e.B u.e.m u.e.d,.bool u.f.s,.slice u.f.A u.f.n u.f.c,.slice u.f.B u.f.m u.f.d]∧MU w u v k l) cs' w'') Q:=by
 obtain ⟨u,h1,h2⟩:=h
 have Z:B18 w g (.bool false) (.slice none 0 0) (.slice none 0 0) (.bool false) (.slice none 0 0) (.slice none 0 0) (.bool false) (.slice none 0 0) (.slice none 0 0) (.bool false) (.slice none 0 0) (.slice none 0 0) (.bool false) (.slice none 0 0) (.slice none 0 0) (.bool false) (.slice none 0 0) (.slice none 0 0):=B.at_
 unfold Oper.wp
 rw [run_storeM p1 h1 Z,Oper.upon_skip]
 have ho:=only_set18 w g (.bool u.a.s) (.slice u.a.A u.a.n u.a.c) (.slice u.a.B u.a.m u.a.d) (.bool u.b.s) (.slice u.b.A u.b.n u.b.c) (.slice u.b.B u.b.m u.b.d) (.bool u.c.s) (.slice u.c.A u.c.n u.c.c) (.slice u.c.B u.c.m u.c.d) (.bool u.d.s) (.slice u.d.A u.d.n u.d.c) (.slice u.d.B u.d.m u.d.d) (.bool u.e.s) (.slice u.e.A u.e.n u.e.c) (.slice u.e.B u.e.m u.e.d) (.bool u.f.s) (.slice u.f.A u.f.n u.f.c) (.slice u.f.B u.f.m u.f.d)
 exact ⟨put_none ac undef,ho,#[.bool u.a.s,.slice u.a.A u.a.n u.a.c,.slice u.a.B u.a.m u.a.d,.bool u.b.s,.slice u.b.A u.b.n u.b.c,.slice u.b.B u.b.m u.b.d,.bool u.c.s,.slice u.c.A u.c.n u.c.c,.slice u.c.B u.c.m u.c.d,.bool u.d.s,.slice u.d.A u.d.n u.d.c,.slice u.d.B u.d.m u.d.d,.bool u.e.s,.slice u.e.A u.e.n u.e.c,.slice u.e.B u.e.m u.e.d,.bool u.f.s,.slice u.f.A u.f.n u.f.c,.slice u.f.B u.f.m u.f.d],⟨Z.set18 (.bool u.a.s) (.slice u.a.A u.a.n u.a.c) (.slice u.a.B u.a.m u.a.d) (.bool u.b.s) (.slice u.b.A u.b.n u.b.c) (.slice u.b.B u.b.m u.b.d) (.bool u.c.s) (.slice u.c.A u.c.n u.c.c) (.slice u.c.B u.c.m u.c.d) (.bool u.d.s) (.slice u.d.A u.d.n u.d.c) (.slice u.d.B u.d.m u.d.d) (.bool u.e.s) (.slice u.e.A u.e.n u.e.c) (.slice u.e.B u.e.m u.e.d) (.bool u.f.s) (.slice u.f.A u.f.n u.f.c) (.slice u.f.B u.f.m u.f.d),free18 u⟩,u,rfl,h2.box B ho⟩
theorem run_build6 {e1:Operand→Value} {x1 x2:Operand} {d1:Option Tmp} {y1:Nat} {pos:String} {af:Array Edge} {a b c d e f:Value} (h:e1 x1=.agg #[a,b,c]) (h2:e1 x2=.agg #[d,e,f]) :
 (execOp e1 ⟨d1,.build 29 #[(0,x1),(1,x2)],y1,pos,af,none⟩).run Tryz.prog w=.ok (.value (.agg #[a,b,c,d,e,f])) w:=by
 go_simp
theorem B6.restm {W W':World} {g k:Nat} {x y z u v t:Value} (h:B6 W g x y z u v t) (hne:g ≠ k) (ho:Only k W W'):B6 W' g x y z u v t:=(ho.block g h.lt hne).trans h
theorem B6R.restm {W W':World} {g k:Nat} {x y z u v t:Value} (h:B6R W g x y z u v t) (hne:g ≠ k) (ho:Only k W W'):B6R W' g x y z u v t:=(ho.block g h.lt hne).trans h
theorem B3.restm {W W':World} {g k:Nat} {x y z:Value} (h:B3 W g x y z) (hne:g ≠ k) (ho:Only k W W'):B3 W' g x y z:=(ho.block g h.lt hne).trans h
theorem B3R.restm {W W':World} {g k:Nat} {x y z:Value} (h:B3R W g x y z) (hne:g ≠ k) (ho:Only k W W'):B3R W' g x y z:=(ho.block g h.lt hne).trans h
theorem only_set6 (W:World) (g:Nat) (a b c d e f:Value):Only g W ((((((W.setCell ⟨g,0,none⟩ a).setCell ⟨g,1,none⟩ b).setCell ⟨g,2,none⟩ c).setCell ⟨g,3,none⟩ d).setCell ⟨g,4,none⟩ e).setCell ⟨g,5,none⟩ f):=((((((Only.refl g W).setCell 0 _).setCell 1 _).setCell 2 _).setCell 3 _).setCell 4 _).setCell 5 _
theorem only_set3 (W:World) (g:Nat) (a b c:Value):Only g W (((W.setCell ⟨g,0,none⟩ a).setCell ⟨g,1,none⟩ b).setCell ⟨g,2,none⟩ c):=(((Only.refl g W).setCell 0 _).setCell 1 _).setCell 2 _
theorem run_build0 {e1:Operand→Value} {d1:Option Tmp} {y1:Nat} {pos:String} {af:Array Edge} :
 (execOp e1 ⟨d1,.build 29 #[],y1,pos,af,none⟩).run Tryz.prog w=.ok (.value (.agg #[.bool false,.slice none 0 0,.slice none 0 0,.bool false,.slice none 0 0,.slice none 0 0])) w:=by
 go_simp
theorem set3o_cell (W:World) (g k o i0 i1 i2:Nat) (a b c:Value) (h:k ≠ g):(((W.setCell ⟨g,i0,none⟩ a).setCell ⟨g,i1,none⟩ b).setCell ⟨g,i2,none⟩ c).cell? ⟨k,o,none⟩=W.cell? ⟨k,o,none⟩:=by
 rw [World.cell?_of_block (Below.heap_setCell _ _ _ _ h),World.cell?_of_block (Below.heap_setCell _ _ _ _ h),World.cell?_of_block (Below.heap_setCell _ _ _ _ h)]
theorem B18.setef {W:World} {g:Nat} {v0 v1 v2 v3 v4 v5 v6 v7 v8 v9 v10 v11 v12 v13 v14 v15 v16 v17:Value} (h:B18 W g v0 v1 v2 v3 v4 v5 v6 v7 v8 v9 v10 v11 v12 v13 v14 v15 v16 v17) (a0 a1 a2 a3 a4 a5:Value):B18 ((((((W.setCell ⟨g,12,none⟩ a0).setCell ⟨g,13,none⟩ a1).setCell ⟨g,14,none⟩ a2).setCell ⟨g,15,none⟩ a3).setCell ⟨g,16,none⟩ a4).setCell ⟨g,17,none⟩ a5) g v0 v1 v2 v3 v4 v5 v6 v7 v8 v9 v10 v11 a0 a1 a2 a3 a4 a5:=by
 unfold B18 at h ⊢
 have h0:=heap_setCell_same _ g 12 _ _ a0 h
 simp only [List.setIfInBounds_toArray,List.set_cons_zero,List.set_cons_succ] at h0
 have h1:=heap_setCell_same _ g 13 _ _ a1 h0
 simp only [List.setIfInBounds_toArray,List.set_cons_zero,List.set_cons_succ] at h1
 have h2:=heap_setCell_same _ g 14 _ _ a2 h1
 simp only [List.setIfInBounds_toArray,List.set_cons_zero,List.set_cons_succ] at h2
 have h3:=heap_setCell_same _ g 15 _ _ a3 h2
 simp only [List.setIfInBounds_toArray,List.set_cons_zero,List.set_cons_succ] at h3
 have h4:=heap_setCell_same _ g 16 _ _ a4 h3
 simp only [List.setIfInBounds_toArray,List.set_cons_zero,List.set_cons_succ] at h4
 have h5:=heap_setCell_same _ g 17 _ _ a5 h4
 simp only [List.setIfInBounds_toArray,List.set_cons_zero,List.set_cons_succ] at h5
 exact h5
theorem B18R.setef {W:World} {g:Nat} {v0 v1 v2 v3 v4 v5 v6 v7 v8 v9 v10 v11 v12 v13 v14 v15 v16 v17:Value} (h:B18R W g v0 v1 v2 v3 v4 v5 v6 v7 v8 v9 v10 v11 v12 v13 v14 v15 v16 v17) (a0 a1 a2 a3 a4 a5:Value):B18R ((((((W.setCell ⟨g,12,none⟩ a0).setCell ⟨g,13,none⟩ a1).setCell ⟨g,14,none⟩ a2).setCell ⟨g,15,none⟩ a3).setCell ⟨g,16,none⟩ a4).setCell ⟨g,17,none⟩ a5) g v0 v1 v2 v3 v4 v5 v6 v7 v8 v9 v10 v11 a0 a1 a2 a3 a4 a5:=by
 unfold B18R at h ⊢
 have h0:=heap_setCell_same _ g 12 _ _ a0 h
 simp only [List.setIfInBounds_toArray,List.set_cons_zero,List.set_cons_succ] at h0
 have h1:=heap_setCell_same _ g 13 _ _ a1 h0
 simp only [List.setIfInBounds_toArray,List.set_cons_zero,List.set_cons_succ] at h1
 have h2:=heap_setCell_same _ g 14 _ _ a2 h1
 simp only [List.setIfInBounds_toArray,List.set_cons_zero,List.set_cons_succ] at h2
 have h3:=heap_setCell_same _ g 15 _ _ a3 h2
 simp only [List.setIfInBounds_toArray,List.set_cons_zero,List.set_cons_succ] at h3
 have h4:=heap_setCell_same _ g 16 _ _ a4 h3
 simp only [List.setIfInBounds_toArray,List.set_cons_zero,List.set_cons_succ] at h4
 have h5:=heap_setCell_same _ g 17 _ _ a5 h4
 simp only [List.setIfInBounds_toArray,List.set_cons_zero,List.set_cons_succ] at h5
 exact h5
theorem only_setef (W:World) (g:Nat) (a b c d e f:Value):Only g W ((((((W.setCell ⟨g,12,none⟩ a).setCell ⟨g,13,none⟩ b).setCell ⟨g,14,none⟩ c).setCell ⟨g,15,none⟩ d).setCell ⟨g,16,none⟩ e).setCell ⟨g,17,none⟩ f):=((((((Only.refl g W).setCell 12 _).setCell 13 _).setCell 14 _).setCell 15 _).setCell 16 _).setCell 17 _
theorem below_setef {B g:Nat} {w W:World} (h:Below B w W) (hg:B≤g) (a b c d e f:Value):Below B w ((((((W.setCell ⟨g,12,none⟩ a).setCell ⟨g,13,none⟩ b).setCell ⟨g,14,none⟩ c).setCell ⟨g,15,none⟩ d).setCell ⟨g,16,none⟩ e).setCell ⟨g,17,none⟩ f):=(((((h.setCell hg _).setCell hg _).setCell hg _).setCell hg _).setCell hg _).setCell hg _
end Go.Proofs.YtgneghgfpkkkdaaGreat
