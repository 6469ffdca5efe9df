/- FlatTells: part 15. -/
import Derived.Deep.AppendLies
import Derived.Deep.MidRow
import Derived.Deep.WholeRow
import Derived.LoopIn
import Derived.LoopNIn
import Derived.RangeFuncBound
import Derived.RangeFuncBox
import Derived.RangeFuncCalls
import Derived.RangeFuncLeaves
import Derived.RangeFuncNested
import Derived.TacticsInMore
import Derived.Test.YtlpogecpdfdggaaGreatProg
import Derived.Test.YtlpogecpdfdggaaGreatKFlatTells11
import Derived.Test.YtlpogecpdfdggaaGreatKFlatTells13
import Derived.Test.YtlpogecpdfdggaaGreatKFlatTells14
set_option linter.unusedVariables false
set_option maxRecDepth 100000
set_option maxHeartbeats 16000000
variable {w:Go.World}
namespace Go.Proofs.YtlpogecpdfdggaaGreat
section
open Go Go.RowKit
structure HV where
 x:QV
 y:QV
 w:QV
def HV.cells (h:HV):List Value:=[.bool h.x.s,.slice h.x.A h.x.n h.x.c,.slice h.x.B h.x.m h.x.d,.bool h.y.s,.slice h.y.A h.y.n h.y.c,.slice h.y.B h.y.m h.y.d,.bool h.w.s,.slice h.w.A h.w.n h.w.c,.slice h.w.B h.w.m h.w.d]
def hvs (L:List HV):List Value:=L.flatMap HV.cells
theorem hvs_cons (p:HV) (L:List HV):hvs (p :: L)=p.cells ++ hvs L:=List.flatMap_cons
theorem hvs_append (L M:List HV):hvs (L ++ M)=hvs L ++ hvs M:=List.flatMap_append
theorem hvc_len (p:HV):p.cells.length=9:=rfl
theorem hvs_length (L:List HV):(hvs L).length=L.length*9:=rows_length hvc_len L
theorem hv_free (p:HV):∀ u ∈ p.cells,∀ (k:IntKind) (x:Int),u ≠ .int k x:=by
 intro u hu k x
 simp only [HV.cells,List.mem_cons,List.not_mem_nil,or_false] at hu
 rcases hu with rfl | rfl | rfl | rfl | rfl | rfl | rfl | rfl | rfl <;> exact fun e=>by cases e
theorem hv_one (p:HV):∀ u ∈ p.cells,u.oneCell'=true:=by
 intro u hu
 simp only [HV.cells,List.mem_cons,List.not_mem_nil,or_false] at hu
 rcases hu with rfl | rfl | rfl | rfl | rfl | rfl | rfl | rfl | rfl <;> rfl
theorem hvs_free (L:List HV):∀ u ∈ hvs L,∀ (k:IntKind) (x:Int),u ≠ .int k x:=by
 intro u hu k x
 obtain ⟨p,_,hp⟩:=List.mem_flatMap.1 hu
 exact hv_free p u hp k x
def BH (W:World) (g:Nat) (v0 v1 v2 v3 v4 v5 v6 v7 v8:Value):Prop:=W.heap[g]?=some (.cells #[v0,v1,v2,v3,v4,v5,v6,v7,v8] 55 (0,0))
section
variable {W W':World} {g:Nat} {v0 v1 v2 v3 v4 v5 v6 v7 v8:Value}
theorem BH.c0 (h:BH W g v0 v1 v2 v3 v4 v5 v6 v7 v8):W.cell? ⟨g,0,none⟩=some v0:=by rw [cell_of_row W g 0 _ _ (0,0) h];rfl
theorem BH.c1 (h:BH W g v0 v1 v2 v3 v4 v5 v6 v7 v8):W.cell? ⟨g,1,none⟩=some v1:=by rw [cell_of_row W g 1 _ _ (0,0) h];rfl
theorem BH.c2 (h:BH W g v0 v1 v2 v3 v4 v5 v6 v7 v8):W.cell? ⟨g,2,none⟩=some v2:=by rw [cell_of_row W g 2 _ _ (0,0) h];rfl
theorem BH.c3 (h:BH W g v0 v1 v2 v3 v4 v5 v6 v7 v8):W.cell? ⟨g,3,none⟩=some v3:=by rw [cell_of_row W g 3 _ _ (0,0) h];rfl
theorem BH.c4 (h:BH W g v0 v1 v2 v3 v4 v5 v6 v7 v8):W.cell? ⟨g,4,none⟩=some v4:=by rw [cell_of_row W g 4 _ _ (0,0) h];rfl
theorem BH.c5 (h:BH W g v0 v1 v2 v3 v4 v5 v6 v7 v8):W.cell? ⟨g,5,none⟩=some v5:=by rw [cell_of_row W g 5 _ _ (0,0) h];rfl
theorem BH.c6 (h:BH W g v0 v1 v2 v3 v4 v5 v6 v7 v8):W.cell? ⟨g,6,none⟩=some v6:=by rw [cell_of_row W g 6 _ _ (0,0) h];rfl
theorem BH.c7 (h:BH W g v0 v1 v2 v3 v4 v5 v6 v7 v8):W.cell? ⟨g,7,none⟩=some v7:=by rw [cell_of_row W g 7 _ _ (0,0) h];rfl
theorem BH.c8 (h:BH W g v0 v1 v2 v3 v4 v5 v6 v7 v8):W.cell? ⟨g,8,none⟩=some v8:=by rw [cell_of_row W g 8 _ _ (0,0) h];rfl
theorem BH.all (h:BH W g v0 v1 v2 v3 v4 v5 v6 v7 v8):W.cell? ⟨g,0,none⟩=some v0∧W.cell? ⟨g,1,none⟩=some v1∧W.cell? ⟨g,2,none⟩=some v2∧W.cell? ⟨g,3,none⟩=some v3∧W.cell? ⟨g,4,none⟩=some v4∧W.cell? ⟨g,5,none⟩=some v5∧W.cell? ⟨g,6,none⟩=some v6∧W.cell? ⟨g,7,none⟩=some v7∧W.cell? ⟨g,8,none⟩=some v8:=⟨h.c0,h.c1,h.c2,h.c3,h.c4,h.c5,h.c6,h.c7,h.c8⟩
theorem BH.f0 (h:BH W g v0 v1 v2 v3 v4 v5 v6 v7 v8):W.frozen? ⟨g,0,none⟩=false:=frozen_of_row W g 0 _ _ h
theorem BH.f1 (h:BH W g v0 v1 v2 v3 v4 v5 v6 v7 v8):W.frozen? ⟨g,1,none⟩=false:=frozen_of_row W g 1 _ _ h
theorem BH.f2 (h:BH W g v0 v1 v2 v3 v4 v5 v6 v7 v8):W.frozen? ⟨g,2,none⟩=false:=frozen_of_row W g 2 _ _ h
theorem BH.f3 (h:BH W g v0 v1 v2 v3 v4 v5 v6 v7 v8):W.frozen? ⟨g,3,none⟩=false:=frozen_of_row W g 3 _ _ h
theorem BH.f4 (h:BH W g v0 v1 v2 v3 v4 v5 v6 v7 v8):W.frozen? ⟨g,4,none⟩=false:=frozen_of_row W g 4 _ _ h
theorem BH.f5 (h:BH W g v0 v1 v2 v3 v4 v5 v6 v7 v8):W.frozen? ⟨g,5,none⟩=false:=frozen_of_row W g 5 _ _ h
theorem BH.f6 (h:BH W g v0 v1 v2 v3 v4 v5 v6 v7 v8):W.frozen? ⟨g,6,none⟩=false:=frozen_of_row W g 6 _ _ h
theorem BH.f7 (h:BH W g v0 v1 v2 v3 v4 v5 v6 v7 v8):W.frozen? ⟨g,7,none⟩=false:=frozen_of_row W g 7 _ _ h
theorem BH.f8 (h:BH W g v0 v1 v2 v3 v4 v5 v6 v7 v8):W.frozen? ⟨g,8,none⟩=false:=frozen_of_row W g 8 _ _ h
theorem BH.lt (h:BH W g v0 v1 v2 v3 v4 v5 v6 v7 v8):g < W.heap.size:=World.block_lt_of_cell? W _ h.c0
theorem BH.below (h:BH W g v0 v1 v2 v3 v4 v5 v6 v7 v8) (hb:Below W.heap.size W W'):BH W' g v0 v1 v2 v3 v4 v5 v6 v7 v8:=(hb.block g h.lt).trans h
theorem BH.alloc (h:BH W g v0 v1 v2 v3 v4 v5 v6 v7 v8) (o:Obj):BH (W.alloc o) g v0 v1 v2 v3 v4 v5 v6 v7 v8:=(Below.heap_alloc W o g h.lt).trans h
theorem BH.new' (W:World) (v0 v1 v2 v3 v4 v5 v6 v7 v8:Value) (g:Nat) (hg:g=W.heap.size):BH (W.alloc (.cells #[v0,v1,v2,v3,v4,v5,v6,v7,v8] 55)) g v0 v1 v2 v3 v4 v5 v6 v7 v8:=by subst hg;exact heap_alloc_new W _
theorem BH.restm {k:Nat} (h:BH W g v0 v1 v2 v3 v4 v5 v6 v7 v8) (hne:g ≠ k) (ho:Only k W W'):BH W' g v0 v1 v2 v3 v4 v5 v6 v7 v8:=(ho.block g h.lt hne).trans h
def LVH (a:Addr):Sem Value:=loadVar 55 a
theorem open_LVH (a:Addr):loadVar 55 a=LVH a:=rfl
def STH (a:Addr) (v:Value):Sem Unit:=storeVar 55 a v
theorem open_STH (a:Addr) (v:Value):storeVar 55 a v=STH a v:=rfl
theorem BH.ld (h:BH W g v0 v1 v2 v3 v4 v5 v6 v7 v8):(LVH ⟨g,0,none⟩).run Tryz.prog W=.ok (.agg #[v0,v1,v2,v3,v4,v5,v6,v7,v8]) W :=
 run_loadVar_row W g _ _ _ (0,0) _ h Tryz.underlying55 rfl (by kernel_rfl)
theorem BH.st (h:BH W g v0 v1 v2 v3 v4 v5 v6 v7 v8) (a0 a1 a2 a3 a4 a5 a6 a7 a8:Value) (h1:∀ v ∈ [a0,a1,a2,a3,a4,a5,a6,a7,a8],v.oneCell'=true):(STH ⟨g,0,none⟩ (.agg #[a0,a1,a2,a3,a4,a5,a6,a7,a8])).run Tryz.prog W=.ok () (((((((((W.setCell ⟨g,0,none⟩ a0).setCell ⟨g,1,none⟩ a1).setCell ⟨g,2,none⟩ a2).setCell ⟨g,3,none⟩ a3).setCell ⟨g,4,none⟩ a4).setCell ⟨g,5,none⟩ a5).setCell ⟨g,6,none⟩ a6).setCell ⟨g,7,none⟩ a7).setCell ⟨g,8,none⟩ a8):=by
 have hc:(storeCells ⟨g,0,none⟩ [a0,a1,a2,a3,a4,a5,a6,a7,a8] 0).run Tryz.prog W=.ok () (((((((((W.setCell ⟨g,0,none⟩ a0).setCell ⟨g,1,none⟩ a1).setCell ⟨g,2,none⟩ a2).setCell ⟨g,3,none⟩ a3).setCell ⟨g,4,none⟩ a4).setCell ⟨g,5,none⟩ a5).setCell ⟨g,6,none⟩ a6).setCell ⟨g,7,none⟩ a7).setCell ⟨g,8,none⟩ a8) :=
  run_storeCells_cells g 0 [a0,a1,a2,a3,a4,a5,a6,a7,a8] 0 W (fun j hj=>by rw [cell_of_row W g _ _ _ (0,0) h];simp only [List.length_cons,List.length_nil] at hj;simp;omega) (fun j _=>frozen_of_row W g _ _ _ h) h1
 have hz:(sizeOf 55).run Tryz.prog W=.ok 9 W:=by
  have hi:(Tryz.prog.info? 55).map (·.size)=some 9:=by kernel_rfl
  cases hq:Tryz.prog.info? 55 with
  | none=>simp [hq] at hi
  | some i=>simp [hq] at hi;simp [sizeOf,typeInfo,hq,hi]
 unfold STH storeVar
 simp only [Sem.run_bind,hz,Result.andThen_ok]
 exact hc
end
def BJ (W:World) (g:Nat) (v0 v1 v2 v3 v4 v5 v6 v7 v8:Value):Prop:=W.heap[g]?=some (.cells #[v0,v1,v2,v3,v4,v5,v6,v7,v8] 65 (0,0))
section
variable {W W':World} {g:Nat} {v0 v1 v2 v3 v4 v5 v6 v7 v8:Value}
theorem BJ.c0 (h:BJ W g v0 v1 v2 v3 v4 v5 v6 v7 v8):W.cell? ⟨g,0,none⟩=some v0:=by rw [cell_of_row W g 0 _ _ (0,0) h];rfl
theorem BJ.c1 (h:BJ W g v0 v1 v2 v3 v4 v5 v6 v7 v8):W.cell? ⟨g,1,none⟩=some v1:=by rw [cell_of_row W g 1 _ _ (0,0) h];rfl
theorem BJ.c2 (h:BJ W g v0 v1 v2 v3 v4 v5 v6 v7 v8):W.cell? ⟨g,2,none⟩=some v2:=by rw [cell_of_row W g 2 _ _ (0,0) h];rfl
theorem BJ.c3 (h:BJ W g v0 v1 v2 v3 v4 v5 v6 v7 v8):W.cell? ⟨g,3,none⟩=some v3:=by rw [cell_of_row W g 3 _ _ (0,0) h];rfl
theorem BJ.c4 (h:BJ W g v0 v1 v2 v3 v4 v5 v6 v7 v8):W.cell? ⟨g,4,none⟩=some v4:=by rw [cell_of_row W g 4 _ _ (0,0) h];rfl
theorem BJ.c5 (h:BJ W g v0 v1 v2 v3 v4 v5 v6 v7 v8):W.cell? ⟨g,5,none⟩=some v5:=by rw [cell_of_row W g 5 _ _ (0,0) h];rfl
theorem BJ.c6 (h:BJ W g v0 v1 v2 v3 v4 v5 v6 v7 v8):W.cell? ⟨g,6,none⟩=some v6:=by rw [cell_of_row W g 6 _ _ (0,0) h];rfl
theorem BJ.c7 (h:BJ W g v0 v1 v2 v3 v4 v5 v6 v7 v8):W.cell? ⟨g,7,none⟩=some v7:=by rw [cell_of_row W g 7 _ _ (0,0) h];rfl
theorem BJ.c8 (h:BJ W g v0 v1 v2 v3 v4 v5 v6 v7 v8):W.cell? ⟨g,8,none⟩=some v8:=by rw [cell_of_row W g 8 _ _ (0,0) h];rfl
theorem BJ.all (h:BJ W g v0 v1 v2 v3 v4 v5 v6 v7 v8):W.cell? ⟨g,0,none⟩=some v0∧W.cell? ⟨g,1,none⟩=some v1∧W.cell? ⟨g,2,none⟩=some v2∧W.cell? ⟨g,3,none⟩=some v3∧W.cell? ⟨g,4,none⟩=some v4∧W.cell? ⟨g,5,none⟩=some v5∧W.cell? ⟨g,6,none⟩=some v6∧W.cell? ⟨g,7,none⟩=some v7∧W.cell? ⟨g,8,none⟩=some v8:=⟨h.c0,h.c1,h.c2,h.c3,h.c4,h.c5,h.c6,h.c7,h.c8⟩
theorem BJ.f0 (h:BJ W g v0 v1 v2 v3 v4 v5 v6 v7 v8):W.frozen? ⟨g,0,none⟩=false:=frozen_of_row W g 0 _ _ h
theorem BJ.f1 (h:BJ W g v0 v1 v2 v3 v4 v5 v6 v7 v8):W.frozen? ⟨g,1,none⟩=false:=frozen_of_row W g 1 _ _ h
theorem BJ.f2 (h:BJ W g v0 v1 v2 v3 v4 v5 v6 v7 v8):W.frozen? ⟨g,2,none⟩=false:=frozen_of_row W g 2 _ _ h
theorem BJ.f3 (h:BJ W g v0 v1 v2 v3 v4 v5 v6 v7 v8):W.frozen? ⟨g,3,none⟩=false:=frozen_of_row W g 3 _ _ h
theorem BJ.f4 (h:BJ W g v0 v1 v2 v3 v4 v5 v6 v7 v8):W.frozen? ⟨g,4,none⟩=false:=frozen_of_row W g 4 _ _ h
theorem BJ.f5 (h:BJ W g v0 v1 v2 v3 v4 v5 v6 v7 v8):W.frozen? ⟨g,5,none⟩=false:=frozen_of_row W g 5 _ _ h
theorem BJ.f6 (h:BJ W g v0 v1 v2 v3 v4 v5 v6 v7 v8):W.frozen? ⟨g,6,none⟩=false:=frozen_of_row W g 6 _ _ h
theorem BJ.f7 (h:BJ W g v0 v1 v2 v3 v4 v5 v6 v7 v8):W.frozen? ⟨g,7,none⟩=false:=frozen_of_row W g 7 _ _ h
theorem BJ.f8 (h:BJ W g v0 v1 v2 v3 v4 v5 v6 v7 v8):W.frozen? ⟨g,8,none⟩=false:=frozen_of_row W g 8 _ _ h
theorem BJ.lt (h:BJ W g v0 v1 v2 v3 v4 v5 v6 v7 v8):g < W.heap.size:=World.block_lt_of_cell? W _ h.c0
theorem BJ.below (h:BJ W g v0 v1 v2 v3 v4 v5 v6 v7 v8) (hb:Below W.heap.size W W'):BJ W' g v0 v1 v2 v3 v4 v5 v6 v7 v8:=(hb.block g h.lt).trans h
theorem BJ.alloc (h:BJ W g v0 v1 v2 v3 v4 v5 v6 v7 v8) (o:Obj):BJ (W.alloc o) g v0 v1 v2 v3 v4 v5 v6 v7 v8:=(Below.heap_alloc W o g h.lt).trans h
theorem BJ.new' (W:World) (v0 v1 v2 v3 v4 v5 v6 v7 v8:Value) (g:Nat) (hg:g=W.heap.size):BJ (W.alloc (.cells #[v0,v1,v2,v3,v4,v5,v6,v7,v8] 65)) g v0 v1 v2 v3 v4 v5 v6 v7 v8:=by subst hg;exact heap_alloc_new W _
theorem BJ.restm {k:Nat} (h:BJ W g v0 v1 v2 v3 v4 v5 v6 v7 v8) (hne:g ≠ k) (ho:Only k W W'):BJ W' g v0 v1 v2 v3 v4 v5 v6 v7 v8:=(ho.block g h.lt hne).trans h
def LVJ (a:Addr):Sem Value:=loadVar 65 a
theorem open_LVJ (a:Addr):loadVar 65 a=LVJ a:=rfl
def STJ (a:Addr) (v:Value):Sem Unit:=storeVar 65 a v
theorem open_STJ (a:Addr) (v:Value):storeVar 65 a v=STJ a v:=rfl
theorem BJ.ld (h:BJ W g v0 v1 v2 v3 v4 v5 v6 v7 v8):(LVJ ⟨g,0,none⟩).run Tryz.prog W=.ok (.agg #[v0,v1,v2,v3,v4,v5,v6,v7,v8]) W :=
 run_loadVar_row W g _ _ _ (0,0) _ h Tryz.underlying65 rfl (by kernel_rfl)
theorem BJ.st (h:BJ W g v0 v1 v2 v3 v4 v5 v6 v7 v8) (a0 a1 a2 a3 a4 a5 a6 a7 a8:Value) (h1:∀ v ∈ [a0,a1,a2,a3,a4,a5,a6,a7,a8],v.oneCell'=true):(STJ ⟨g,0,none⟩ (.agg #[a0,a1,a2,a3,a4,a5,a6,a7,a8])).run Tryz.prog W=.ok () (((((((((W.setCell ⟨g,0,none⟩ a0).setCell ⟨g,1,none⟩ a1).setCell ⟨g,2,none⟩ a2).setCell ⟨g,3,none⟩ a3).setCell ⟨g,4,none⟩ a4).setCell ⟨g,5,none⟩ a5).setCell ⟨g,6,none⟩ a6).setCell ⟨g,7,none⟩ a7).setCell ⟨g,8,none⟩ a8):=by
 have hc:(storeCells ⟨g,0,none⟩ [a0,a1,a2,a3,a4,a5,a6,a7,a8] 0).run Tryz.prog W=.ok () (((((((((W.setCell ⟨g,0,none⟩ a0).setCell ⟨g,1,none⟩ a1).setCell ⟨g,2,none⟩ a2).setCell ⟨g,3,none⟩ a3).setCell ⟨g,4,none⟩ a4).setCell ⟨g,5,none⟩ a5).setCell ⟨g,6,none⟩ a6).setCell ⟨g,7,none⟩ a7).setCell ⟨g,8,none⟩ a8) :=
  run_storeCells_cells g 0 [a0,a1,a2,a3,a4,a5,a6,a7,a8] 0 W (fun j hj=>by rw [cell_of_row W g _ _ _ (0,0) h];simp only [List.length_cons,List.length_nil] at hj;simp;omega) (fun j _=>frozen_of_row W g _ _ _ h) h1
 have hz:(sizeOf 65).run Tryz.prog W=.ok 9 W:=by
  have hi:(Tryz.prog.info? 65).map (·.size)=some 9:=by kernel_rfl
  cases hq:Tryz.prog.info? 65 with
  | none=>simp [hq] at hi
  | some i=>simp [hq] at hi;simp [sizeOf,typeInfo,hq,hi]
 unfold STJ storeVar
 simp only [Sem.run_bind,hz,Result.andThen_ok]
 exact hc
end
def HR (w:World) (h:HV) (v:AH) (k:Nat):Prop:=QR w h.x.s h.x.A h.x.n h.x.c h.x.B h.x.m h.x.d v.x k∧QR w h.y.s h.y.A h.y.n h.y.c h.y.B h.y.m h.y.d v.y k∧QR w h.w.s h.w.A h.w.n h.w.c h.w.B h.w.m h.w.d v.w k
def HG (w:World) (h:HV) (v:AH) (k:Nat):Prop:=QG w h.x.s h.x.A h.x.n h.x.c h.x.B h.x.m h.x.d v.x k∧QG w h.y.s h.y.A h.y.n h.y.c h.y.B h.y.m h.y.d v.y k∧QG w h.w.s h.w.A h.w.n h.w.c h.w.B h.w.m h.w.d v.w k
def RH (w:World) (h:HV) (v:AH) (k:Nat):Prop:=RQ w h.x.s h.x.A h.x.n h.x.c h.x.B h.x.m h.x.d v.x k∧RQ w h.y.s h.y.A h.y.n h.y.c h.y.B h.y.m h.y.d v.y k∧RQ w h.w.s h.w.A h.w.n h.w.c h.w.B h.w.m h.w.d v.w k
section
variable {w w':World} {h:HV} {v:AH} {k k1:Nat}
theorem HR.below (a:HR w h v k) (hb:Below w.heap.size w w'):HR w' h v k:=⟨a.1.below hb,a.2.1.below hb,a.2.2.below hb⟩
theorem HR.qx (a:HR w h v k):QR w h.x.s h.x.A h.x.n h.x.c h.x.B h.x.m h.x.d v.x k:=a.1
theorem HR.qy (a:HR w h v k):QR w h.y.s h.y.A h.y.n h.y.c h.y.B h.y.m h.y.d v.y k:=a.2.1
theorem HR.qw (a:HR w h v k):QR w h.w.s h.w.A h.w.n h.w.c h.w.B h.w.m h.w.d v.w k:=a.2.2
theorem HR.more (a:HR w h v k) (hk:k≤k1):HR w h v k1:=⟨a.1.more hk,a.2.1.more hk,a.2.2.more hk⟩
theorem HG.below (a:HG w h v k) (hb:Below w.heap.size w w'):HG w' h v k:=⟨a.1.below hb,a.2.1.below hb,a.2.2.below hb⟩
theorem HG.qx (a:HG w h v k):QG w h.x.s h.x.A h.x.n h.x.c h.x.B h.x.m h.x.d v.x k:=a.1
theorem HG.qy (a:HG w h v k):QG w h.y.s h.y.A h.y.n h.y.c h.y.B h.y.m h.y.d v.y k:=a.2.1
theorem HG.qw (a:HG w h v k):QG w h.w.s h.w.A h.w.n h.w.c h.w.B h.w.m h.w.d v.w k:=a.2.2
theorem HG.more (a:HG w h v k) (hk:k≤k1):HG w h v k1:=⟨a.1.more hk,a.2.1.more hk,a.2.2.more hk⟩
theorem RH.below (a:RH w h v k) (hb:Below w.heap.size w w'):RH w' h v k:=⟨a.1.below hb,a.2.1.below hb,a.2.2.below hb⟩
theorem RH.qx (a:RH w h v k):RQ w h.x.s h.x.A h.x.n h.x.c h.x.B h.x.m h.x.d v.x k:=a.1
theorem RH.qy (a:RH w h v k):RQ w h.y.s h.y.A h.y.n h.y.c h.y.B h.y.m h.y.d v.y k:=a.2.1
theorem RH.qw (a:RH w h v k):RQ w h.w.s h.w.A h.w.n h.w.c h.w.B h.w.m h.w.d v.w k:=a.2.2
theorem RH.more (a:RH w h v k) (hk:k≤k1):RH w h v k1:=⟨a.1.more hk,a.2.1.more hk,a.2.2.more hk⟩
theorem HG.hr (a:HG w h v k):HR w h v k:=⟨a.1.qr,a.2.1.qr,a.2.2.qr⟩
theorem HR.pt (a:HR w h v k):PR w h.x.s h.x.A h.x.n h.x.c h.x.B h.x.m h.x.d h.y.s h.y.A h.y.n h.y.c h.y.B h.y.m h.y.d v.x v.y k:=⟨a.1,a.2.1⟩
theorem HG.pt (a:HG w h v k):PG w h.x.s h.x.A h.x.n h.x.c h.x.B h.x.m h.x.d h.y.s h.y.A h.y.n h.y.c h.y.B h.y.m h.y.d v.x v.y k:=⟨a.1,a.2.1⟩
theorem RH.pt (a:RH w h v k):RP w h.x.s h.x.A h.x.n h.x.c h.x.B h.x.m h.x.d h.y.s h.y.A h.y.n h.y.c h.y.B h.y.m h.y.d v.x v.y k:=⟨a.1,a.2.1⟩
theorem HG.box {T:TypeId} {g:Nat} {cs:Array Value} (a:HG w h v k) (Z:BoxAt T w g cs) (ho:Only g w w'):HG w' h v k:=⟨a.1.box Z ho,a.2.1.box Z ho,a.2.2.box Z ho⟩
theorem HR.box {T:TypeId} {g:Nat} {cs:Array Value} (a:HR w h v k) (Z:BoxAt T w g cs) (ho:Only g w w'):HR w' h v k:=⟨a.1.box Z ho,a.2.1.box Z ho,a.2.2.box Z ho⟩
theorem RH.box {T:TypeId} {g:Nat} {cs:Array Value} (a:RH w h v k) (Z:BoxAt T w g cs) (ho:Only g w w'):RH w' h v k:=⟨a.1.box Z ho,a.2.1.box Z ho,a.2.2.box Z ho⟩
end
def EH (w:World) (g o:Nat) (p:HV):Prop:=g < w.heap.size∧∀ j v,p.cells[j]?=some v→w.cell? ⟨g,o+j,none⟩=some v
section
variable {w w':World} {g o k:Nat} {p:HV}
theorem EH.lt (h:EH w g o p):g < w.heap.size:=h.1
theorem EH.below (h:EH w g o p) (hb:Below w.heap.size w w'):EH w' g o p:=⟨Nat.lt_of_lt_of_le h.1 hb.size,fun j v e=>(hb.cell (p:=⟨g,o+j,none⟩) h.1).trans (h.2 j v e)⟩
theorem EH.rest (h:EH w g o p) (hne:g ≠ k) (ho:Only k w w'):EH w' g o p:=⟨Nat.lt_of_lt_of_le h.1 ho.size,fun j v e=>(World.cell?_of_block (a:=⟨g,o+j,none⟩) (ho.block g h.1 hne)).trans (h.2 j v e)⟩
theorem EH.c0 (h:EH w g o p):w.cell? ⟨g,o,none⟩=some (.bool p.x.s):=h.2 0 _ rfl
theorem EH.c1 (h:EH w g o p):w.cell? ⟨g,o+1,none⟩=some (.slice p.x.A p.x.n p.x.c):=h.2 1 _ rfl
theorem EH.c2 (h:EH w g o p):w.cell? ⟨g,o+2,none⟩=some (.slice p.x.B p.x.m p.x.d):=h.2 2 _ rfl
theorem EH.c3 (h:EH w g o p):w.cell? ⟨g,o+3,none⟩=some (.bool p.y.s):=h.2 3 _ rfl
theorem EH.c4 (h:EH w g o p):w.cell? ⟨g,o+4,none⟩=some (.slice p.y.A p.y.n p.y.c):=h.2 4 _ rfl
theorem EH.c5 (h:EH w g o p):w.cell? ⟨g,o+5,none⟩=some (.slice p.y.B p.y.m p.y.d):=h.2 5 _ rfl
theorem EH.c6 (h:EH w g o p):w.cell? ⟨g,o+6,none⟩=some (.bool p.w.s):=h.2 6 _ rfl
theorem EH.c7 (h:EH w g o p):w.cell? ⟨g,o+7,none⟩=some (.slice p.w.A p.w.n p.w.c):=h.2 7 _ rfl
theorem EH.c8 (h:EH w g o p):w.cell? ⟨g,o+8,none⟩=some (.slice p.w.B p.w.m p.w.d):=h.2 8 _ rfl
theorem EH.all (h:EH w g o p):w.cell? ⟨g,o,none⟩=some (.bool p.x.s)∧w.cell? ⟨g,o+1,none⟩=some (.slice p.x.A p.x.n p.x.c)∧w.cell? ⟨g,o+2,none⟩=some (.slice p.x.B p.x.m p.x.d)∧w.cell? ⟨g,o+3,none⟩=some (.bool p.y.s)∧w.cell? ⟨g,o+4,none⟩=some (.slice p.y.A p.y.n p.y.c)∧w.cell? ⟨g,o+5,none⟩=some (.slice p.y.B p.y.m p.y.d)∧w.cell? ⟨g,o+6,none⟩=some (.bool p.w.s)∧w.cell? ⟨g,o+7,none⟩=some (.slice p.w.A p.w.n p.w.c)∧w.cell? ⟨g,o+8,none⟩=some (.slice p.w.B p.w.m p.w.d):=⟨h.c0,h.c1,h.c2,h.c3,h.c4,h.c5,h.c6,h.c7,h.c8⟩
theorem EH.ldH (h:EH w g o p):(LVH ⟨g,o,none⟩).run Tryz.prog w=.ok (.agg #[.bool p.x.s,.slice p.x.A p.x.n p.x.c,.slice p.x.B p.x.m p.x.d,.bool p.y.s,.slice p.y.A p.y.n p.y.c,.slice p.y.B p.y.m p.y.d,.bool p.w.s,.slice p.w.A p.w.n p.w.c,.slice p.w.B p.w.m p.w.d]) w :=
 run_loadVar_mid w g o 55 p.cells _ h.2 Tryz.underlying55 rfl (by kernel_rfl)
theorem EH.ldJ (h:EH w g o p):(LVJ ⟨g,o,none⟩).run Tryz.prog w=.ok (.agg #[.bool p.x.s,.slice p.x.A p.x.n p.x.c,.slice p.x.B p.x.m p.x.d,.bool p.y.s,.slice p.y.A p.y.n p.y.c,.slice p.y.B p.y.m p.y.d,.bool p.w.s,.slice p.w.A p.w.n p.w.c,.slice p.w.B p.w.m p.w.d]) w :=
 run_loadVar_mid w g o 65 p.cells _ h.2 Tryz.underlying65 rfl (by kernel_rfl)
end
theorem SV.ht {A:Option Addr} {L:List HV} (h:SV w A (hvs L)) {i:Nat} {p:HV} (hi:L[i]?=some p):∃ g o,(∀ (n c:Nat) (w':World),i < n→(Instr.indexAt 22 (.slice A n c) (.int .i64 (i:Int))).run Tryz.prog w'=.ok (.pointer (some ⟨g,o,none⟩)) w')∧EH w g o p∧∃ o0,A=some ⟨g,o0,none⟩:=by
 have hl:=(List.getElem?_eq_some_iff.1 hi).1
 obtain ⟨g,o,e,h1,h2⟩:=h (by rw [hvs_length];omega)
 refine ⟨g,o+i*9,fun n c w' hn=>?_,⟨h1,fun j v hv=>?_⟩,o,e⟩
 · subst e
   have ha:∀ j,(⟨g,o,none⟩:Addr).add j=⟨g,o+j,none⟩:=fun j=>by unfold Addr.add;split <;> simp_all
   obtain ⟨i0,hi0,hz,hs,hby⟩:=info_parts (show (Tryz.prog.info? 55).map (fun i=>(i.zero,i.size,i.bytes))=some (some (.agg #[.bool false,.slice none 0 0,.slice none 0 0,.bool false,.slice none 0 0,.slice none 0 0,.bool false,.slice none 0 0,.slice none 0 0]),9,168) by kernel_rfl)
   have k1:(0:Int)≤(i:Int):=by omega
   have k2:(i:Int) < (n:Int):=by omega
   simp [Instr.indexAt,asIntOf,run_underlying Tryz.underlying22,k1,sizeOf,typeInfo,hi0,hs,ha]
   exact fun e=>absurd hn (by omega)
 · have hj:j < 9:=by have:=(List.getElem?_eq_some_iff.1 hv).1;rwa [hvc_len] at this
   rw [Nat.add_assoc]
   exact h2 _ v ((rows_get hvc_len hi hj).trans hv)
theorem SV.jt {A:Option Addr} {L:List HV} (h:SV w A (hvs L)) {i:Nat} {p:HV} (hi:L[i]?=some p):∃ g o,(∀ (n c:Nat) (w':World),i < n→(Instr.indexAt 31 (.slice A n c) (.int .i64 (i:Int))).run Tryz.prog w'=.ok (.pointer (some ⟨g,o,none⟩)) w')∧EH w g o p∧∃ o0,A=some ⟨g,o0,none⟩:=by
 have hl:=(List.getElem?_eq_some_iff.1 hi).1
 obtain ⟨g,o,e,h1,h2⟩:=h (by rw [hvs_length];omega)
 refine ⟨g,o+i*9,fun n c w' hn=>?_,⟨h1,fun j v hv=>?_⟩,o,e⟩
 · subst e
   have ha:∀ j,(⟨g,o,none⟩:Addr).add j=⟨g,o+j,none⟩:=fun j=>by unfold Addr.add;split <;> simp_all
   obtain ⟨i0,hi0,hz,hs,hby⟩:=info_parts (show (Tryz.prog.info? 65).map (fun i=>(i.zero,i.size,i.bytes))=some (some (.agg #[.bool false,.slice none 0 0,.slice none 0 0,.bool false,.slice none 0 0,.slice none 0 0,.bool false,.slice none 0 0,.slice none 0 0]),9,168) by kernel_rfl)
   have k1:(0:Int)≤(i:Int):=by omega
   have k2:(i:Int) < (n:Int):=by omega
   simp [Instr.indexAt,asIntOf,run_underlying Tryz.underlying31,k1,sizeOf,typeInfo,hi0,hs,ha]
   exact fun e=>absurd hn (by omega)
 · have hj:j < 9:=by have:=(List.getElem?_eq_some_iff.1 hv).1;rwa [hvc_len] at this
   rw [Nat.add_assoc]
   exact h2 _ v ((rows_get hvc_len hi hj).trans hv)
def zhv:Value:=.agg #[.bool false,.slice none 0 0,.slice none 0 0,.bool false,.slice none 0 0,.slice none 0 0,.bool false,.slice none 0 0,.slice none 0 0]
theorem info_hom:(Tryz.prog.info? 55).map (fun i=>(i.zero,i.size,i.bytes))=some (some zhv,9,168):=by kernel_rfl
theorem info_rhom:(Tryz.prog.info? 65).map (fun i=>(i.zero,i.size,i.bytes))=some (some zhv,9,168):=by kernel_rfl
attribute [local go_sem ↓] open_LVH open_STH open_LVJ open_STJ
theorem run_fH2 {e1:Operand→Value} {x1:Operand} {d1:Option Tmp} {y1 g:Nat} {pos:String} {af:Array Edge} (h:e1 x1=.pointer (some ⟨g,0,none⟩)) :
 (execOp e1 ⟨d1,.fieldAddr 55 x1 2,y1,pos,af,none⟩).run Tryz.prog w=.ok (.value (.pointer (some ⟨g,6,none⟩))) w:=by
 go_simp
theorem run_loadH2 {e1:Operand→Value} {x1:Operand} {d1:Option Tmp} {y1 g:Nat} {pos:String} {af:Array Edge} {a0 a1 a2 a3 a4 a5 a6 a7 a8:Value} (h:e1 x1=.pointer (some ⟨g,6,none⟩)) (Z:BH w g a0 a1 a2 a3 a4 a5 a6 a7 a8) :
 (execOp e1 ⟨d1,.load 27 x1,y1,pos,af,none⟩).run Tryz.prog w=.ok (.value (.agg #[a6,a7,a8])) w:=by
 have h0:=Z.c6;have h1:=Z.c7;have h2:=Z.c8
 go_simp
end
section
open Go Go.RowKit
theorem hvs_nil:hvs []=[]:=rfl
theorem hvs_one (L:List HV):∀ u ∈ hvs L,u.oneCell'=true:=by
 intro u hu
 obtain ⟨p,_,hp⟩:=List.mem_flatMap.1 hu
 exact hv_one p u hp
structure LnH (T:TypeId) (base:Nat) (w:World) (v:Value) (L:List HV):Prop where
 own:w.ownsRow base T 9 v L.length (hvs L)
 free:∀ g,v.ownBlock=some g→∃ cs,BoxAt T w g cs
section
variable {T:TypeId} {base:Nat} {w w':World} {v:Value} {L:List HV}
theorem LnH.nil (T:TypeId) (base:Nat) (w:World):LnH T base w (.slice none 0 0) []:=⟨World.ownsRow_nil w base T 9,fun g h=>by cases h⟩
theorem LnH.kept (h:LnH T base w v L) (hb:∀ g,v.ownBlock=some g→w'.heap[g]?=w.heap[g]?):LnH T base w' v L:=by
 refine ⟨⟨h.own.1,?_⟩,fun g hg=>?_⟩
 · rcases h.own.2 with hn | ⟨g,cap,cur,rfl,h1,h2,h3⟩
   · exact .inl hn
   · exact .inr ⟨g,cap,cur,rfl,h1,(hb g rfl).trans h2,h3⟩
 · obtain ⟨cs,hc⟩:=h.free g hg
   exact ⟨cs,(hb g hg).trans hc.at_,hc.free⟩
theorem LnH.below (h:LnH T base w v L) (hb:Below w.heap.size w w'):LnH T base w' v L:=h.kept fun g hg=>by
 obtain ⟨cs,hc⟩:=h.free g hg
 exact hb.block g hc.lt
theorem LnH.base_le {b:Nat} (h:LnH T base w v L) (hb:b≤base):LnH T b w v L:=by
 refine ⟨⟨h.own.1,?_⟩,h.free⟩
 rcases h.own.2 with hn | ⟨g,cap,cur,rfl,h1,h2⟩
 · exact .inl hn
 · exact .inr ⟨g,cap,cur,rfl,Nat.le_trans hb h1,h2⟩
theorem LnH.lit (w:World) (L:List HV) (hb:base≤w.heap.size) (hL:L.length≤1000000):LnH T base (w.alloc (.cells (hvs L).toArray T)) (.slice (some ⟨w.heap.size,0,none⟩) L.length L.length) L:=by
 refine ⟨⟨hvs_length L,.inr ⟨w.heap.size,L.length,_,rfl,hb,heap_alloc_new w _,Nat.le_refl _,by unfold maxLen;omega,?_,?_⟩⟩,fun g hg=>?_⟩
 · simp [hvs_length]
 · simp [← hvs_length]
 · obtain rfl:w.heap.size=g:=by simpa [Value.ownBlock] using hg
   refine ⟨(hvs L).toArray,heap_alloc_new w _,fun i k x e=>?_⟩
   rw [List.getElem?_toArray] at e
   exact hvs_free L _ (List.mem_of_getElem? e) k x rfl
theorem LnH.form (h:LnH T base w v L):∃ A c,v=.slice A L.length c∧L.length≤c∧(A=none→c=0):=by
 rcases h.own.2 with ⟨rfl,hn⟩ | ⟨g,cap,cur,rfl,_,_,h3,_⟩
 · exact ⟨none,0,by rw [hn],by omega,fun _=>rfl⟩
 · exact ⟨_,cap,rfl,h3,fun e=>by cases e⟩
end
theorem zeroH_free (n:Nat):∀ u ∈ (Builtin.zeroCells zhv.cells n).toList,∀ (k:IntKind) (x:Int),u ≠ .int k x:=by
 intro u hu k x
 simp only [Builtin.zeroCells,Array.toList_map,List.mem_map] at hu
 obtain ⟨i,_,rfl⟩:=hu
 have h:i % zhv.cells.size < 9:=Nat.mod_lt _ (by decide)
 generalize i % zhv.cells.size=j at h
 match j,h with
 | 0,_=>exact fun e=>by cases e
 | 1,_=>exact fun e=>by cases e
 | 2,_=>exact fun e=>by cases e
 | 3,_=>exact fun e=>by cases e
 | 4,_=>exact fun e=>by cases e
 | 5,_=>exact fun e=>by cases e
 | 6,_=>exact fun e=>by cases e
 | 7,_=>exact fun e=>by cases e
 | 8,_=>exact fun e=>by cases e
 | j+9,h=>omega
theorem run_push2H {T tS ty:TypeId} {base b:Nat} {v:Value} {L:List HV} {p:HV} {k0:Nat} (ht:Tryz.prog.underlying tS=some (.slice T)) (hinfo:(Tryz.prog.info? T).map (fun i=>(i.zero,i.size,i.bytes))=some (some zhv,9,168))
 (h:LnH T base w v L) (hbase:base≤w.heap.size) (hL:L.length≤1000000) (hb:w.heap[b]?=some (.cells p.cells.toArray T (0,0))) :
 ∃ v' w',(Builtin.append_ #[tS,tS] ty #[v,.slice (some ⟨b,0,none⟩) 1 k0]).run Tryz.prog w=.ok v' w'∧LnH T base w' v' (L ++ [p])∧w.grownBy w' v.ownBlock∧∀ g,v'.ownBlock=some g→v.ownBlock=some g ∨ w.heap.size≤g:=by
 obtain ⟨i0,hi,hz,hs,hby⟩:=info_parts hinfo
 have hnews:∀ j u,p.cells[j]?=some u→w.cell? ((⟨b,0,none⟩:Addr).add j)=some u:=fun j u hu=>World.news_of_block hb j u (by simpa using hu)
 have h1:∀ u ∈ p.cells,u.oneCell'=true:=fun u hu=>hvs_one [p] u (by rw [hvs_cons,hvs_nil,List.append_nil];exact hu)
 have hfree:∀ u ∈ p.cells,∀ (k:IntKind) (x:Int),u ≠ .int k x:=fun u hu=>hvs_free [p] u (by rw [hvs_cons,hvs_nil,List.append_nil];exact hu)
 obtain ⟨v',w',hr,hown,hg,_⟩:=run_append_own (P:=Tryz.prog) w base tS ty T i0 zhv 9 168 ht hi hz hs hby rfl (by decide) v L.length (hvs L) h.own ⟨b,0,none⟩ 1 k0 p.cells rfl hnews h1 (by unfold maxLen;omega) (by omega) hbase
 have hown2:∀ g,v'.ownBlock=some g→v.ownBlock=some g ∨ w.heap.size≤g:=by
  rcases h.own.2 with ⟨rfl,hn⟩ | ⟨g0,cap,cur,rfl,_,hg0,hnc,hcm,hcs,htake⟩
  · have e:=run_append_nil (P:=Tryz.prog) w tS ty T i0 zhv ht hi hz ⟨b,0,none⟩ 1 k0 p.cells (by rw [hs];rfl) hnews (by decide) (by decide) (by rw [hby];decide)
    rw [hr] at e
    injection e with e1 e2
    subst e1
    intro g hgv
    right
    obtain rfl:w.heap.size=g:=by simpa [Value.ownBlock] using hgv
    exact Nat.le_refl _
  · by_cases hroom:L.length+1≤cap
    · have e:=run_append_room (P:=Tryz.prog) w tS ty T i0 ht hi g0 L.length cap cur hg0 ⟨b,0,none⟩ 1 k0 p.cells (by rw [hs];rfl) hnews h1 hroom (by rw [hs,hcs];show L.length*9+9≤_;omega)
      rw [hr] at e
      injection e with e1 e2
      subst e1
      intro g hgv
      left
      simpa [Value.ownBlock] using hgv
    · have holds:∀ j u,(hvs L)[j]?=some u→w.cell? ((⟨g0,0,none⟩:Addr).add j)=some u:=h.own.cells (g:=g0) rfl
      have e:=run_append_grow (P:=Tryz.prog) w tS ty T i0 zhv ht hi hz ⟨g0,0,none⟩ L.length cap (hvs L) (by rw [hs];exact h.own.1) holds ⟨b,0,none⟩ 1 k0 p.cells (by rw [hs];rfl) hnews (by omega) (by omega) (growslice_fits (by omega) (by rw [hby];omega))
      rw [hr] at e
      injection e with e1 e2
      subst e1
      intro g hgv
      right
      obtain rfl:w.heap.size=g:=by simpa [Value.ownBlock] using hgv
      exact Nat.le_refl _
 refine ⟨v',w',hr,⟨by rw [hvs_append,List.length_append,hvs_cons,hvs_nil,List.append_nil];exact hown,?_⟩,hg,hown2⟩
 have fr:∀ (cs:List Value),(∀ u ∈ cs,∀ (k:IntKind) (x:Int),u ≠ .int k x)→∀ (i:Nat) (k:IntKind) (x:Int),cs.toArray[i]? ≠ some (Value.int k x):=fun cs hc i k x e=>by
  rw [List.getElem?_toArray] at e
  exact hc _ (List.mem_of_getElem? e) k x rfl
 intro g hgv
 rcases h.own.2 with ⟨rfl,hn⟩ | ⟨g0,cap,cur,rfl,_,hg0,hnc,hcm,hcs,htake⟩
 · have e:=run_append_nil (P:=Tryz.prog) w tS ty T i0 zhv ht hi hz ⟨b,0,none⟩ 1 k0 p.cells (by rw [hs];rfl) hnews (by decide) (by decide) (by rw [hby];decide)
   rw [hr] at e
   injection e with e1 e2
   subst e1 e2
   obtain rfl:w.heap.size=g:=by simpa [Value.ownBlock] using hgv
   refine ⟨_,heap_alloc_new w.drew _,?_⟩
   have:=fr (p.cells ++ (Builtin.zeroCells zhv.cells (grownCap w 1 0 T - 1)).toList) (fun u hu=>by
    rcases List.mem_append.1 hu with q | q
    · exact hfree u q
    · exact zeroH_free _ u q)
   intro i k x
   have:=this i k x
   rwa [show (p.cells ++ (Builtin.zeroCells zhv.cells (grownCap w 1 0 T - 1)).toList).toArray=p.cells.toArray ++ Builtin.zeroCells zhv.cells (grownCap w 1 0 T - 1) by apply Array.ext';simp] at this
 · obtain ⟨cs,hB⟩:=h.free g0 rfl
   have hcur:∀ u ∈ cur.toList,∀ (k:IntKind) (x:Int),u ≠ .int k x:=by
    have:cs=cur:=by exact (Obj.cells.inj (Option.some.inj (hB.at_.symm.trans hg0))).1
    subst this
    intro u hu k x e
    obtain ⟨j,hj⟩:=List.getElem?_of_mem hu
    rw [Array.getElem?_toList] at hj
    exact hB.free j k x (by rw [← e];exact hj)
   by_cases hroom:L.length+1≤cap
   · have e:=run_append_room (P:=Tryz.prog) w tS ty T i0 ht hi g0 L.length cap cur hg0 ⟨b,0,none⟩ 1 k0 p.cells (by rw [hs];rfl) hnews h1 hroom (by rw [hs,hcs];show L.length*9+9≤_;omega)
     rw [hr] at e
     injection e with e1 e2
     subst e1 e2
     obtain rfl:g0=g:=by simpa [Value.ownBlock] using hgv
     refine ⟨_,setRow_heap w g0 cur _ T _ hg0,fr _ fun u hu=>?_⟩
     rcases List.mem_append.1 hu with q | q
     · rcases List.mem_append.1 q with q | q
       · exact hcur u (List.mem_of_mem_take q)
       · exact hfree u q
     · exact hcur u (List.mem_of_mem_drop q)
   · have holds:∀ j u,(hvs L)[j]?=some u→w.cell? ((⟨g0,0,none⟩:Addr).add j)=some u:=h.own.cells (g:=g0) rfl
     have e:=run_append_grow (P:=Tryz.prog) w tS ty T i0 zhv ht hi hz ⟨g0,0,none⟩ L.length cap (hvs L) (by rw [hs];exact h.own.1) holds ⟨b,0,none⟩ 1 k0 p.cells (by rw [hs];rfl) hnews (by omega) (by omega) (growslice_fits (by omega) (by rw [hby];omega))
     rw [hr] at e
     injection e with e1 e2
     subst e1 e2
     obtain rfl:w.heap.size=g:=by simpa [Value.ownBlock] using hgv
     refine ⟨_,heap_alloc_new w.drew _,?_⟩
     have:=fr (hvs L ++ p.cells ++ (Builtin.zeroCells zhv.cells (grownCap w (L.length+1) cap T - (L.length+1))).toList) (fun u hu=>by
      rcases List.mem_append.1 hu with q | q
      · rcases List.mem_append.1 q with q | q
        · exact hvs_free L u q
        · exact hfree u q
      · exact zeroH_free _ u q)
     intro i k x
     have:=this i k x
     rwa [show (hvs L ++ p.cells ++ (Builtin.zeroCells zhv.cells (grownCap w (L.length+1) cap T - (L.length+1))).toList).toArray=(hvs L).toArray ++ p.cells.toArray ++ Builtin.zeroCells zhv.cells (grownCap w (L.length+1) cap T - (L.length+1)) by apply Array.ext';simp] at this
theorem LnH.stays {T:TypeId} {base:Nat} {w w':World} {v:Value} {L:List HV} (h:LnH T base w v L) (hg:w.grownBy w' v.ownBlock):Below w.heap.size w w' ∨ ∃ g cs,BoxAt T w g cs∧base≤g∧Only g w w':=by
 cases hv:v.ownBlock with
 | none =>
   rw [hv] at hg
   exact .inl ((Below.refl _ _).grown hg (Nat.le_refl _) (fun k e=>by cases e))
 | some g =>
   rw [hv] at hg
   obtain ⟨cs,hc⟩:=h.free g hv
   refine .inr ⟨g,cs,hc,(h.own.lt g hv).1,⟨hg.os,hg.tape,hg.output,hg.size,fun k hk hn=>hg.block k hk (fun e=>hn (by injection e))⟩⟩
theorem step_pushH {ops:Array Oper} {o:Oper} {a:Act} {K:Act→World→Prop} {Q:Exit→Act→World→Prop} {E:Prop} {T tS:TypeId} (ht:Tryz.prog.underlying tS=some (.slice T)) (hinfo:(Tryz.prog.info? T).map (fun i=>(i.zero,i.size,i.bytes))=some (some zhv,9,168))
 (hgd:o.guard=none) (s x:Operand) (ho:o.op=.call ⟨.builtin .append,#[s,x],#[tS,tS]⟩) {base b:Nat} {v:Value} {L:List HV} {p:HV} {k0:Nat} (hs:a.eval s=v) (hx:a.eval x=.slice (some ⟨b,0,none⟩) 1 k0)
 (h:LnH T base w v L) (hbase:base≤w.heap.size) (hL:L.length≤1000000) (hb:w.heap[b]?=some (.cells p.cells.toArray T (0,0)))
 (hK:∀ v' w',LnH T base w' v' (L ++ [p])→w.grownBy w' v.ownBlock→(∀ g,v'.ownBlock=some g→v.ownBlock=some g ∨ w.heap.size≤g)→K (a.put o.dst v') w'):if Region.wanted o (yielded ops a.tmps)=true then Oper.wp Tryz.prog o a w K Q else E:=by
 have hw:Region.wanted o (yielded ops a.tmps)=true:=by simp [Region.wanted,hgd]
 rw [if_pos hw]
 obtain ⟨v',w',hr,h2,h3,h4⟩:=run_push2H (ty:=o.type) (k0:=k0) ht hinfo h hbase hL hb
 exact wp_append_at s x ho hs hx hr (hK v' w' h2 h3 h4)
theorem LnH.under {T:TypeId} {base:Nat} {w0 w w':World} {v:Value} {M:List HV} (hn:LnH T base w v M) (hg:w.grownBy w' v.ownBlock) (hb:Below w0.heap.size w0 w) (hb0:w0.heap.size≤base):Below w0.heap.size w0 w':=by
 rcases hn.stays hg with q | ⟨g,cs,hB,hg2,ho⟩
 · exact bend hb q
 · exact Below.only hb (Nat.le_trans hb0 hg2) hb.size ho
def EachH (G:World→HV→AH→Nat→Prop) (w:World) (L:List HV) (l:List AH) (k:Nat):Prop :=
 L.length=l.length∧∀ (i:Nat) (p:HV) (u:AH),L[i]?=some p→l[i]?=some u→G w p u k
section
variable {G:World→HV→AH→Nat→Prop} {w w':World} {L:List HV} {l:List AH} {k k2:Nat}
theorem EachH.nil:EachH G w [] [] k:=⟨rfl,fun i p u h=>by cases h⟩
theorem EachH.push {p:HV} {u:AH} (h:EachH G w L l k) (hw:∀ p u,G w p u k→G w' p u k) (hp:G w' p u k):EachH G w' (L ++ [p]) (l ++ [u]) k:=by
 refine ⟨by rw [List.length_append,List.length_append,h.1];rfl,fun i q v hq hv=>?_⟩
 rcases Nat.lt_or_ge i L.length with hi | hi
 · rw [List.getElem?_append_left hi] at hq
   rw [List.getElem?_append_left (by rw [← h.1];exact hi)] at hv
   exact hw _ _ (h.2 i q v hq hv)
 · rw [List.getElem?_append_right hi] at hq
   rw [List.getElem?_append_right (by rw [← h.1];exact hi)] at hv
   have:=(List.getElem?_eq_some_iff.1 hq).1
   rw [List.length_singleton] at this
   have:i - L.length=0:=by omega
   rw [this] at hq
   rw [show i - l.length=0 by rw [← h.1];exact this] at hv
   obtain rfl:p=q:=by simpa using hq
   obtain rfl:u=v:=by simpa using hv
   exact hp
theorem EachH.imp {G':World→HV→AH→Nat→Prop} (h:EachH G w L l k) (hw:∀ p u,G w p u k→G' w' p u k2):EachH G' w' L l k2:=⟨h.1,fun i p u hp hu=>hw _ _ (h.2 i p u hp hu)⟩
theorem EachH.at_ (h:EachH G w L l k) {i:Nat} (hi:i < L.length):∃ p u,L[i]?=some p∧l[i]?=some u∧G w p u k :=
 ⟨_,_,List.getElem?_eq_getElem hi,List.getElem?_eq_getElem (by rw [← h.1];exact hi),h.2 i _ _ (List.getElem?_eq_getElem hi) (List.getElem?_eq_getElem (by rw [← h.1];exact hi))⟩
theorem EachH.belowG (h:EachH HG w L l k) (hb:Below w.heap.size w w'):EachH HG w' L l k:=h.imp fun _ _ hp=>hp.below hb
theorem EachH.belowR (h:EachH HR w L l k) (hb:Below w.heap.size w w'):EachH HR w' L l k:=h.imp fun _ _ hp=>hp.below hb
theorem EachH.belowJ (h:EachH RH w L l k) (hb:Below w.heap.size w w'):EachH RH w' L l k:=h.imp fun _ _ hp=>hp.below hb
theorem EachH.hr (h:EachH HG w L l k):EachH HR w L l k:=h.imp fun _ _ hp=>hp.hr
end
section
variable {T:TypeId} {base:Nat} {w w':World} {v:Value} {M:List HV} {k:Nat} {p:HV} {u:AH}
theorem LnH.hg (hn:LnH T base w v M) (hg:w.grownBy w' v.ownBlock) (h:HG w p u k):HG w' p u k:=by
 rcases hn.stays hg with q | ⟨g,cs,hB,_,ho⟩
 · exact h.below q
 · exact h.box hB ho
theorem LnH.hr (hn:LnH T base w v M) (hg:w.grownBy w' v.ownBlock) (h:HR w p u k):HR w' p u k:=by
 rcases hn.stays hg with q | ⟨g,cs,hB,_,ho⟩
 · exact h.below q
 · exact h.box hB ho
theorem LnH.rh (hn:LnH T base w v M) (hg:w.grownBy w' v.ownBlock) (h:RH w p u k):RH w' p u k:=by
 rcases hn.stays hg with q | ⟨g,cs,hB,_,ho⟩
 · exact h.below q
 · exact h.box hB ho
theorem LnH.sv {A:Option Addr} {n c:Nat} (h:LnH T base w (.slice A n c) M):SV w A (hvs M):=fun hn=>by
 rcases h.own.2 with ⟨_,e⟩ | ⟨g,cap,cur,hv,_,hg,_⟩
 · rw [hvs_length,List.length_eq_zero_iff.1 e] at hn;exact absurd hn (by simp)
 · have hc:=h.own.cells (g:=g) (by rw [hv];rfl)
   have ha:∀ j,(⟨g,0,none⟩:Addr).add j=⟨g,j,none⟩:=fun j=>by unfold Addr.add;split <;> simp_all
   simp only [Value.slice.injEq] at hv
   refine ⟨g,0,hv.1,?_,fun j u hu=>by have:=hc j u hu;rw [ha] at this;rw [Nat.zero_add];exact this⟩
   rcases Nat.lt_or_ge g w.heap.size with q | q
   · exact q
   · rw [Array.getElem?_eq_none q] at hg;cases hg
end
theorem takeH {G:World→HV→AH→Nat→Prop} {M:List HV} {l:List AH} {k m:Nat} {P:HV} {u:AH} (hu:l[m]?=some u) (h:EachH G w (M ++ [P]) (l.take m ++ [u]) k):EachH G w (M ++ [P]) (l.take (m+1)) k:=by
 obtain ⟨hm,hv⟩:=List.getElem?_eq_some_iff.1 hu
 rwa [List.take_succ_eq_append_getElem hm,hv]
def GivesHs (w:World) (l:List AH) (k:Nat) (en:Ending) (w':World):Prop :=
 ∃ v M,en=.returned v∧LnH 55 w.heap.size w' v M∧EachH HG w' M l k∧Below w.heap.size w w'
def GivesJs (w:World) (l:List AH) (k:Nat) (en:Ending) (w':World):Prop :=
 ∃ v M,en=.returned v∧LnH 65 w.heap.size w' v M∧EachH RH w' M l k∧Below w.heap.size w w'
end
section
open Go Go.RowKit
structure KpS (W W':World):Prop where
 size:W.heap.size≤W'.heap.size
 same:∀ (k o:Nat) (u:Value),W.cell? ⟨k,o,none⟩=some u→(∀ A n c,u ≠ .slice A n c)→W'.heap[k]?=W.heap[k]?
theorem KpS.refl (W:World):KpS W W:=⟨Nat.le_refl _,fun _ _ _ _ _=>rfl⟩
theorem KpS.trans {A B C:World} (h:KpS A B) (k:KpS B C):KpS A C:=⟨Nat.le_trans h.size k.size,fun b o u hu hn =>
 (k.same b o u ((World.cell?_of_block (a:=⟨b,o,none⟩) (h.same b o u hu hn)).trans hu) hn).trans (h.same b o u hu hn)⟩
theorem KpS.below {W W':World} (h:Below W.heap.size W W'):KpS W W':=⟨h.size,fun k o _u hu _=>h.block k (World.block_lt_of_cell? W ⟨k,o,none⟩ hu)⟩
theorem KpS.grown {W W':World} {row:Option Nat} (h:W.grownBy W' row) (hr:∀ r,row=some r→∃ o:Obj,W.heap[r]?=some o∧o.isCells=false):KpS W W':=⟨h.size,fun k o _u hu _=>by
 refine h.block k (World.block_lt_of_cell? W ⟨k,o,none⟩ hu) fun e=>?_
 obtain ⟨x,hx,hc⟩:=hr k e.symm
 unfold World.cell? at hu
 rw [show ({block:=k,off:=o,spot:=none}:Addr).block=k from rfl,hx] at hu
 cases x <;> first | (cases hc;done) | cases hu⟩
theorem KpS.box {W:World} {g:Nat} {t:TypeId} {A:Option Addr} {n c:Nat} (h:Boxed W g t (.slice A n c)) (u:Value):KpS W (W.setCell ⟨g,0,none⟩ u):=⟨by simp [World.setCell],fun k o x hx hn=>by
 refine Below.heap_setCell _ _ _ _ fun e=>?_
 have e2:k=g:=e
 subst e2
 rw [cell_of_row W k o _ _ (0,0) h] at hx
 match o,hx with
 | 0,hx=>cases hx;exact hn _ _ _ rfl
 | o+1,hx=>cases hx⟩
section
variable {W W':World}
theorem Rd.kp {K:IntKind} {A:Option Addr} {n:Nat} {l:List Nat} (h:Rd K W A n l) (hk:KpS W W'):Rd K W' A n l:=by
 refine h.keep fun hn ad e p hp=>World.cell?_of_block ?_
 obtain ⟨b,o,e2,hx⟩:=h.at_ hn
 obtain ⟨x,_,hc⟩:=hx 0 hn
 rw [e] at e2;cases e2
 rw [hp]
 exact hk.same _ _ _ hc (fun _ _ _ e=>by cases e)
theorem QR.kp {s:Bool} {A B:Option Addr} {n c m d k:Nat} {v:Rat} (h:QR W s A n c B m d v k) (hk:KpS W W'):QR W' s A n c B m d v k:=by
 obtain ⟨p,q,⟨l1,r1,r2⟩,⟨l2,t1,t2⟩,h3⟩:=h
 exact ⟨p,q,⟨l1,r1.kp hk,r2⟩,⟨l2,t1.kp hk,t2⟩,h3⟩
theorem HR.kp {h:HV} {v:AH} {k:Nat} (a:HR W h v k) (hk:KpS W W'):HR W' h v k:=⟨a.1.kp hk,a.2.1.kp hk,a.2.2.kp hk⟩
theorem SV.kp {A:Option Addr} {L:List HV} (h:SV W A (hvs L)) (hk:KpS W W'):SV W' A (hvs L):=fun hn=>by
 obtain ⟨g,o,e,h1,h2⟩:=h hn
 cases L with
 | nil=>exact absurd hn (by simp [hvs])
 | cons p L =>
   have e0:W.cell? ⟨g,o+0,none⟩=some (.bool p.x.s):=h2 0 _ (by rw [hvs_cons];rfl)
   have hs:=hk.same _ _ _ e0 (fun _ _ _ e=>by cases e)
   exact ⟨g,o,e,Nat.lt_of_lt_of_le h1 hk.size,fun j u hu=>(World.cell?_of_block (a:=⟨g,o+j,none⟩) hs).trans (h2 j u hu)⟩
end
structure RowX where
 A:Option Addr
 n:Nat
 c:Nat
 L:List HV
 V:List AH
 k:Nat
def RowX.In (x:RowX) (W:World):Prop:=SV W x.A (hvs x.L)∧EachH HR W x.L x.V x.k∧x.L.length=x.n
theorem RowX.In.kp {x:RowX} {W W':World} (h:x.In W) (hk:KpS W W'):x.In W':=⟨h.1.kp hk,h.2.1.imp fun _ _ hp=>hp.kp hk,h.2.2⟩
theorem RowX.In.below {x:RowX} {W W':World} (h:x.In W) (hb:Below W.heap.size W W'):x.In W':=h.kp (.below hb)
end
section
open Go Go.RowKit
def EachQ (w:World) (L:List QV) (l:List Rat) (k:Nat):Prop:=L.length=l.length∧∀ (i:Nat) (p:QV) (v:Rat),L[i]?=some p→l[i]?=some v→QG w p.s p.A p.n p.c p.B p.m p.d v k
section
variable {w w':World} {L:List QV} {l:List Rat} {k:Nat}
theorem EachQ.below (h:EachQ w L l k) (hb:Below w.heap.size w w'):EachQ w' L l k:=⟨h.1,fun i p v h1 h2=>(h.2 i p v h1 h2).below hb⟩
theorem EachQ.box {T:TypeId} {g:Nat} {cs:Array Value} (h:EachQ w L l k) (B:BoxAt T w g cs) (ho:Only g w w'):EachQ w' L l k:=⟨h.1,fun i p v h1 h2=>(h.2 i p v h1 h2).box B ho⟩
theorem EachQ.take (h:EachQ w L l k) (m:Nat):EachQ w (L.take m) (l.take m) k:=by
 refine ⟨by rw [List.length_take,List.length_take,h.1],fun i p v h1 h2=>?_⟩
 rw [List.getElem?_take] at h1 h2
 split at h1
 · rename_i q;rw [if_pos q] at h2;exact h.2 i p v h1 h2
 · cases h1
theorem EachQ.drop (h:EachQ w L l k) (m:Nat):EachQ w (L.drop m) (l.drop m) k:=by
 refine ⟨by rw [List.length_drop,List.length_drop,h.1],fun i p v h1 h2=>?_⟩
 rw [List.getElem?_drop] at h1 h2
 exact h.2 _ p v h1 h2
theorem EachQ.push {p:QV} {v:Rat} (h:EachQ w L l k) (hp:QG w p.s p.A p.n p.c p.B p.m p.d v k):EachQ w (L ++ [p]) (l ++ [v]) k:=by
 refine ⟨by rw [List.length_append,List.length_append,h.1];rfl,fun i q u h1 h2=>?_⟩
 rcases Nat.lt_or_ge i L.length with hi | hi
 · rw [List.getElem?_append_left hi] at h1
   rw [List.getElem?_append_left (by rw [← h.1];exact hi)] at h2
   exact h.2 i q u h1 h2
 · rw [List.getElem?_append_right hi] at h1
   rw [List.getElem?_append_right (by rw [← h.1];exact hi),← h.1] at h2
   obtain ⟨j,hj⟩:∃ j,i - L.length=j:=⟨_,rfl⟩
   rw [hj] at h1 h2
   match j,h1,h2 with
   | 0,h1,h2=>cases h1;cases h2;exact hp
   | j+1,h1,h2=>simp at h1
end
theorem SV.take {A:Option Addr} {L:List QV} (h:SV w A (qvs L)) (m:Nat):SV w A (qvs (L.take m)):=fun hn=>by
 have e:qvs L=qvs (L.take m) ++ qvs (L.drop m):=by rw [← qvs_append,List.take_append_drop]
 obtain ⟨g,o,e1,h1,h2⟩:=h (by rw [e,List.length_append];omega)
 refine ⟨g,o,e1,h1,fun j u hu=>h2 j u ?_⟩
 rw [e,List.getElem?_append_left (List.getElem?_eq_some_iff.1 hu).1];exact hu
theorem SV.drop {g o:Nat} {L:List QV} (h:SV w (some ⟨g,o,none⟩) (qvs L)) (m:Nat) (hm:m≤L.length):SV w (some ⟨g,o+m*3,none⟩) (qvs (L.drop m)):=fun hn=>by
 have e:qvs L=qvs (L.take m) ++ qvs (L.drop m):=by rw [← qvs_append,List.take_append_drop]
 have hl:(qvs (L.take m)).length=m*3:=by rw [show (qvs (L.take m)).length=(L.take m).length*3 from rows_length qvc_len _,List.length_take,Nat.min_eq_left hm]
 obtain ⟨g2,o2,e1,h1,h2⟩:=h (by rw [e,List.length_append];omega)
 cases e1
 refine ⟨_,_,rfl,h1,fun j u hu=>?_⟩
 rw [Nat.add_assoc]
 refine h2 (m*3+j) u ?_
 rw [e,List.getElem?_append_right (by omega),hl,Nat.add_sub_cancel_left];exact hu
end
section
open Go Go.RowKit
theorem SNr.box {T T':TypeId} {base n k:Nat} {vs:List Value} {w w':World} {A:Option Addr} {cs:Array Value} (h:SNr T base n vs w A) (hB:BoxAt T' w k cs) (hne:T ≠ T' ∨ cs.size < vs.length) (ho:Only k w w'):SNr T base n vs w' A:=fun hn=>by
 obtain ⟨g,e,h1,h2⟩:=h hn
 obtain ⟨cs2,h3,h4,_⟩:=id h2
 exact ⟨g,e,h1,h2.rest (BoxAt.ne h3 hB (hne.imp id (fun q=>by omega))) ho⟩
theorem BoxAt.q3 {T:TypeId} {g m:Nat} {M:List QV} {p:QV} (h:BoxAt T w g (qvs M).toArray) (hp:M[m]?=some p):E3x w g (m*3) p:=by
 have key:∀ j,j < 3→∀ u,p.cells[j]?=some u→w.cell? ⟨g,m*3+j,none⟩=some u:=fun j hj u hu=>by
  rw [cell_of_row w g (m*3+j) _ _ (0,0) h.at_,← hu,← rows_get qvc_len hp hj];simp [qvs]
 exact ⟨h.lt,key 0 (by decide) _ rfl,key 1 (by decide) _ rfl,key 2 (by decide) _ rfl⟩
end
section
def crs (a b c d:Rat):Rat:=a*d - b*c
def dotq (a b c d:Rat):Rat:=a*c+b*d
def LeftV (a b c d:Rat):Prop:=0 < crs a b c d ∨ (crs a b c d=0∧0 < dotq a b c d)
section
variable {n:Nat} {x y:Nat→Rat}
def dd (x:Nat→Rat) (k:Nat):Rat:=x (k+1) - x k
def sideQ (x y:Nat→Rat) (i k:Nat):Rat:=crs (dd x i) (dd y i) (x k - x i) (y k - y i)
theorem along_of {a b c d:Rat} (hz:¬ (a=0∧b=0)) (h:crs a b c d=0):∃ t,c=t*a∧d=t*b:=by
 unfold crs at h
 by_cases ha:a=0
 · subst ha
   have hb:b ≠ 0:=fun e=>hz ⟨rfl,e⟩
   have e:d / b*b=d:=Rat.div_mul_cancel hb
   refine ⟨d / b,?_,e.symm⟩
   have:b*c=0:=by grind
   rcases Rat.mul_eq_zero.1 this with q | q
   · exact absurd q hb
   · grind
 · have e:c / a*a=c:=Rat.div_mul_cancel ha
   refine ⟨c / a,e.symm,?_⟩
   generalize c / a=t at e
   subst e
   have:a*(d - t*b)=0:=by grind
   rcases Rat.mul_eq_zero.1 this with q | q
   · exact absurd q ha
   · grind
end
section
variable {n:Nat} {x y:Nat→Rat}
structure Conv (n:Nat) (x y:Nat→Rat):Prop where
 three:3≤n
 apart:∀ i k,i < n→k < n→i ≠ k→¬ (x i=x k∧y i=y k)
 left:∀ i k,i < n→k < n→0≤sideQ x y i k
 some:∃ i k,i < n∧k < n∧0 < sideQ x y i k
theorem crs_along {a b c d e f:Rat} (hz:¬ (a=0∧b=0)) (h1:crs a b c d=0) (h2:crs a b e f=0):crs c d e f=0:=by
 obtain ⟨t,rfl,rfl⟩:=along_of hz h1
 obtain ⟨s,rfl,rfl⟩:=along_of hz h2
 unfold crs;grind
theorem Conv.off (h:Conv n x y) {a b ox oy:Rat} (hz:¬ (a=0∧b=0)) (hl:∀ k,crs a b (x k - ox) (y k - oy)=0):False:=by
 obtain ⟨i,k,_,_,hs⟩:=h.some
 have e1:=hl i
 have e2:=hl (i+1)
 have e3:=hl k
 have:sideQ x y i k=0:=by
  unfold sideQ
  refine crs_along hz ?_ ?_
  · unfold dd;unfold crs at *;grind
  · unfold crs at *;grind
 rw [this] at hs
 exact absurd hs (by decide)
end
end
section
open Go Go.RowKit
theorem BoxAt.p6 {T:TypeId} {g m:Nat} {M:List PV} {p:PV} (h:BoxAt T w g (pvs M).toArray) (hp:M[m]?=some p):E6x w g (m*6) p:=by
 have key:∀ j,j < 6→∀ u,p.cells[j]?=some u→w.cell? ⟨g,m*6+j,none⟩=some u:=fun j hj u hu=>by
  rw [cell_of_row w g (m*6+j) _ _ (0,0) h.at_,← hu,← rows_get pvc_len hp hj];simp [pvs]
 exact ⟨h.lt,key 0 (by decide) _ rfl,key 1 (by decide) _ rfl,key 2 (by decide) _ rfl,key 3 (by decide) _ rfl,key 4 (by decide) _ rfl,key 5 (by decide) _ rfl⟩
instance (a b c d:Rat):Decidable (LeftV a b c d):=by unfold LeftV;exact inferInstance
end
section
open Go Go.RowKit
section
variable {W W':World} {g:Nat} {v0 v1 v2 v3 v4 v5 v6 v7 v8:Value}
end
def VQEa (V:Rat) (k:Nat) (x:Value) (w:World):Prop:=∃ s A n c B m d,x=.tuple #[.agg #[.bool s,.slice A n c,.slice B m d],.int .i64 0]∧QG w s A n c B m d V k
theorem stays_qea (v:Rat) (k:Nat):Stays (VQEa v k) :=
 ⟨fun _ _ _ ⟨s,A,n,c,B,m,d,h1,h2⟩ hb=>⟨s,A,n,c,B,m,d,h1,h2.below hb⟩,fun _ _ _ _ _ _ ⟨s,A,n,c,B,m,d,h1,h2⟩ hB ho=>⟨s,A,n,c,B,m,d,h1,h2.box hB ho⟩⟩
end
section
open Go Go.RowKit
attribute [local go_sem ↓] open_LVH open_STH open_LVJ open_STJ
theorem cone_q (w:World) :
 Calls Tryz.prog 44 #[] w (GivesQ w (Rat.divInt 1 1) 1):=by
 go_enter Tryz.func44,Tryz.ntmps44
 go_upto_region 1 with (fail)
 generalize hW:World.alloc _ _=W
 obtain ⟨hb,Z,hzW⟩:=mkbx13_8 hW;clear hW
 go_wp2_with (first
  | (go_at_call 18;(with_reducible refine (rof_q 1 1 (by decide) (by decide) (by decide) (by decide) (by decide) _).mono ?_);rintro e w_r ⟨s_r,A_r,n_r,c_r,B_r,m_r,d_r,rfl,r,hh⟩
     (try replace Z:=Z.below hh);replace hb:=bend hb hh;have zf0:=Z.f0;have zf1:=Z.f1;have zf2:=Z.f2;obtain ⟨z0,z1,z2⟩:=Z.all))
 have Z2:=Z.set3 (.bool s_r) (.slice A_r n_r c_r) (.slice B_r m_r d_r)
 obtain ⟨g0,g1,g2⟩:=Z2.all
 refine bodyPost_ret (v:=.agg #[.bool s_r,.slice A_r n_r c_r,.slice B_r m_r d_r]) (by simp [results,Tryz.results44,go_sem,g0,g1,g2]) rfl ?_
 exact ⟨s_r,A_r,n_r,c_r,B_r,m_r,d_r,rfl,r.set3 Z _ _ _,below_set3 hb (by omega) _ _ _⟩
theorem one_q:Rat.divInt 1 1=1:=by decide +kernel
def GivesPtE (w:World) (x y:Rat) (k:Nat) (en:Ending) (w':World):Prop :=
 ∃ s A n c B m d t E i e F j f,en=.returned (.tuple #[.agg #[.bool s,.slice A n c,.slice B m d,.bool t,.slice E i e,.slice F j f],.int .i64 0])∧PG w' s A n c B m d t E i e F j f x y k∧Below w.heap.size w w'
abbrev L_cptz:List Nat:=[7,8,9,10,6,11,12,4,5]
def o0_cptz:Oper:=⟨some 7,.call ⟨.value (.func 44),#[],#[]⟩,27, "curve.go:92",#[],none⟩
def o1_cptz:Oper:=⟨some 8,.fieldAddr 55 (.tmp 1) 2,0, "curve.go:92",#[],none⟩
def o2_cptz:Oper:=⟨some 9,.load 27 (.tmp 8),27, "curve.go:92",#[⟨1,.data⟩],none⟩
def o3_cptz:Oper:=⟨some 10,.call ⟨.value (.func 48),#[.tmp 7,.tmp 9],#[27,27]⟩,34, "curve.go:92",#[⟨0,.data⟩,⟨2,.data⟩,⟨0,.chain⟩],none⟩
def o4_cptz:Oper:=⟨some 6,.move (.tmp 10),34, "curve.go:92",#[⟨3,.data⟩],none⟩
def o5_cptz:Oper:=⟨some 11,.extract (.tmp 6) 0,27, "curve.go:92",#[⟨4,.data⟩],none⟩
def o6_cptz:Oper:=⟨some 12,.extract (.tmp 6) 1,33, "curve.go:92",#[⟨4,.data⟩,⟨8,.gcOnly .lateStores⟩],none⟩
def o7_cptz:Oper:=⟨some 4,.alloc 27,0, "curve.go:92",#[],none⟩
def o8_cptz:Oper:=⟨none,.store 27 (.tmp 4) (.tmp 11),0, "curve.go:92",#[⟨7,.data⟩,⟨5,.data⟩,⟨3,.chain⟩,⟨0,.phase⟩,⟨1,.phase⟩,⟨2,.phase⟩,⟨3,.phase⟩,⟨4,.phase⟩,⟨5,.phase⟩,⟨6,.textOnly .lateStores⟩,⟨7,.phase⟩],none⟩
def o9_cptz:Oper:=⟨some 5,.assign (.tmp 12),33, "curve.go:92",#[⟨6,.data⟩,⟨8,.chain⟩,⟨0,.phase⟩,⟨1,.phase⟩,⟨2,.phase⟩,⟨3,.phase⟩,⟨4,.phase⟩,⟨5,.phase⟩,⟨6,.phase⟩,⟨7,.phase⟩,⟨8,.phase⟩],none⟩
theorem rc_gesso_curve_one {e:Operand→Value} {d:Option Tmp} {y:Nat} {pos:String} {af:Array Edge}  (hf:e (.func 44)=.func (.func 44) #[] #[]) :
 (execOp e ⟨d,.call ⟨.value (.func 44),#[],#[]⟩,y,pos,af,none⟩).run Tryz.prog w=.ok (.enter 44 #[]) w:=by
 go_simp
def F_cptp (h:HV) (v:AH) (k:Nat) (gm:Nat) (sl:Nat):Value→World→Prop :=
 match sl with
 | 7=>VQ (Rat.divInt 1 1) (1)
 | 8=>fun x _=>x=Value.pointer (some ⟨gm,6,none⟩)
 | 9=>fun x _=>x=Value.agg #[.bool h.w.s,.slice h.w.A h.w.n h.w.c,.slice h.w.B h.w.m h.w.d]
 | 10=>VQEa (Rat.divInt 1 1 / v.w) (1+k)
 | 6=>VQEa (Rat.divInt 1 1 / v.w) (1+k)
 | 11=>VQ (Rat.divInt 1 1 / v.w) (1+k)
 | 12=>fun x _=>x=Value.int .i64 0
 | 5=>fun x _=>x=Value.int .i64 0
 | _=>fun _ _=>True
def B0_cptp (v:AH) (k:Nat):BoxOp :=
 ⟨7,8,4,27,#[.bool false,.slice none 0 0,.slice none 0 0],fun cs w=>∃ s A n c B m d,cs=#[.bool s,.slice A n c,.slice B m d]∧QG w s A n c B m d (Rat.divInt 1 1 / v.w) (1+k)⟩
theorem cptp_region {id:Nat} {ac:Act} {Q:Exit→Act→World→Prop} {h:HV} {v:AH} {k gm:Nat}
 (hsz:12 < ac.tmps.size) (e1:ac.eval (.tmp 1)=Value.pointer (some ⟨gm,0,none⟩)) (XA:BH w gm (.bool h.x.s) (.slice h.x.A h.x.n h.x.c) (.slice h.x.B h.x.m h.x.d) (.bool h.y.s) (.slice h.y.A h.y.n h.y.c) (.slice h.y.B h.y.m h.y.d) (.bool h.w.s) (.slice h.w.A h.w.n h.w.c) (.slice h.w.B h.w.m h.w.d)) (M:HR w h v k) (hk:k≤30000) (h1:1≤k) (h0:v.w ≠ 0)
 (hend:∀ (V:Nat→Value) (w':World) (g0:Nat) (s0:Bool) (A0:Option Addr) (n0:Nat) (c0:Nat) (B0:Option Addr) (m0:Nat) (d0:Nat),QG w' s0 A0 n0 c0 B0 m0 d0 (Rat.divInt 1 1 / v.w) (1+k)→B3 w' g0 (.bool s0) (.slice A0 n0 c0) (.slice B0 m0 d0)→w.heap.size≤g0→V 4=.pointer (some ⟨g0,0,none⟩)→V 5=Value.int .i64 0→Below w.heap.size w w'→Q .normal (putAll ac [7,8,9,10,6,11,12,4,5] V) w') :
 (Code.region id #[o0_cptz,o1_cptz,o2_cptz,o3_cptz,o4_cptz,o5_cptz,o6_cptz,o7_cptz,o8_cptz,o9_cptz] true).wp Tryz.prog Q ac w:=by
 have hnd:L_cptz.Nodup:=by decide
 have G:∀ (sv:Nat→Value) (t:Nat),t ∈ L_cptz→t≤12→(putAll ac L_cptz sv).eval (.tmp t)=sv t:=fun sv t ht h=>eval_putAll_mem (t:=t) L_cptz ac hnd ht (Nat.lt_of_le_of_lt h hsz)
 have E1:∀ sv:Nat→Value,(putAll ac L_cptz sv).eval (.tmp 1)=Value.pointer (some ⟨gm,0,none⟩):=fun sv=>(eval_putAll_not (v:=sv) L_cptz ac (show 1 ∉ _ by decide)).trans e1
 have NE:∀ t:Nat,(t ≠ 4)→∀ p ∈ [B0_cptp v k],t ≠ p.tA:=by
  intro t ht p hp
  simp only [List.mem_cons,List.not_mem_nil,or_false] at hp
  rcases hp with rfl
  · exact ht
 refine wp_region_flowsT L_cptz [B0_cptp v k] (F_cptp h v k gm) (by kernel_rfl) (by kernel_rfl) rfl hnd ?_ ?_ ?_ ?_ ?_ ?_ ?_ ?_
 · intro p hp
   simp only [List.mem_cons,List.not_mem_nil,or_false] at hp
   rcases hp with rfl
   · refine ⟨⟨o7_cptz,rfl,rfl,rfl,fun e w'=>run_allocQ⟩,⟨o8_cptz,rfl,rfl,rfl,⟨7,.data⟩,by simp [o8_cptz],rfl,rfl⟩,free3 _ _ _ _ _ _ _,?_,?_⟩
     · rintro cs w1 w2 ⟨s_,A_,n_,c_,B_,m_,d_,rfl,h⟩ hb;exact ⟨s_,A_,n_,c_,B_,m_,d_,rfl,h.below hb⟩
     · rintro T cs w1 w2 g c0 ⟨s_,A_,n_,c_,B_,m_,d_,rfl,h⟩ hB ho;exact ⟨s_,A_,n_,c_,B_,m_,d_,rfl,h.box hB ho⟩
 · intro p hp q hq h
   simp only [List.mem_cons,List.not_mem_nil,or_false] at hp hq
   rcases hp with rfl <;> rcases hq with rfl
   · rfl
 · intro p hp q hq h
   simp only [List.mem_cons,List.not_mem_nil,or_false] at hp hq
   rcases hp with rfl <;> rcases hq with rfl
   · rfl
 · intro i o h1 h2
   match i,h1 with
   | 0,h1=>cases h1;cases h2
   | 1,h1=>cases h1;cases h2
   | 2,h1=>cases h1;cases h2
   | 3,h1=>cases h1;cases h2
   | 4,h1=>cases h1;cases h2
   | 5,h1=>cases h1;cases h2
   | 6,h1=>cases h1;cases h2
   | 7,h1=>cases h1;cases h2
   | 8,h1=>exact ⟨B0_cptp v k,List.Mem.head _,rfl⟩
   | 9,h1=>cases h1;cases h2
   | i+10,h1=>cases h1
 · intro t
   unfold F_cptp
   split <;> first | exact (stays_eq _).inn _ | exact (stays_q _ _).inn _ | exact (stays_z _ _).inn _ | exact (stays_r _ _).inn _ | exact (stays_rq _ _).inn _ | exact (stays_pg _ _ _).inn _ | exact (stays_true).inn _ | exact (stays_qea _ _).inn _
 · intro i o t sv w' ho hia hd J0 hf
   have XA:=XA.below J0;have M:=M.below J0
   match i,ho with
   | 0,ho =>
     obtain rfl:o0_cptz=o:=Option.some.inj ho
     cases hd
     refine wpOp_plain' (o:=o0_cptz) rfl rfl ?_
     unfold Oper.wp o0_cptz
     rw [rc_gesso_curve_one  rfl,Oper.upon_enter]
     refine (cone_q _).mono ?_
     rintro e w1 ⟨s_,A_,n_,c_,B_,m_,d_,rfl,hq,hh⟩
     exact ⟨_,rfl,hh,s_,A_,n_,c_,B_,m_,d_,rfl,hq⟩
   | 1,ho =>
     obtain rfl:o1_cptz=o:=Option.some.inj ho
     cases hd
     refine wpOp_plain' (o:=o1_cptz) rfl rfl ?_
     unfold Oper.wp o1_cptz
     rw [run_fH2 (E1 sv),Oper.upon_value]
     exact ⟨_,rfl,Below.refl _ _,rfl⟩
   | 2,ho =>
     obtain rfl:o2_cptz=o:=Option.some.inj ho
     cases hd
     have f8:sv 8=Value.pointer (some ⟨gm,6,none⟩):=hf ⟨1,.data⟩ (by simp [o2_cptz]) rfl _ 8 rfl rfl (NE _ (by decide))
     refine wpOp_plain' (o:=o2_cptz) rfl rfl ?_
     unfold Oper.wp o2_cptz
     rw [run_loadH2 ((G sv 8 (by decide) (by decide)).trans f8) XA,Oper.upon_value]
     exact ⟨_,rfl,Below.refl _ _,rfl⟩
   | 3,ho =>
     obtain rfl:o3_cptz=o:=Option.some.inj ho
     cases hd
     have h7:VQ (Rat.divInt 1 1) (1) (sv 7) w':=hf ⟨0,.data⟩ (by simp [o3_cptz]) rfl _ 7 rfl rfl (NE _ (by decide))
     obtain ⟨s7_,A7_,n7_,c7_,B7_,m7_,d7_,f7,q7⟩:=h7
     have f9:sv 9=Value.agg #[.bool h.w.s,.slice h.w.A h.w.n h.w.c,.slice h.w.B h.w.m h.w.d]:=hf ⟨2,.data⟩ (by simp [o3_cptz]) rfl _ 9 rfl rfl (NE _ (by decide))
     refine wpOp_plain' (o:=o3_cptz) rfl rfl ?_
     unfold Oper.wp o3_cptz
     rw [rc_gesso_rat_Div ((G sv 7 (by decide) (by decide)).trans f7) ((G sv 9 (by decide) (by decide)).trans f9) rfl,Oper.upon_enter]
     refine (rdiv_q q7.qr M.qw (by decide) (by omega) (.inl (by decide)) (by decide) (by omega) h0).mono ?_
     rintro e w1 ⟨s_,A_,n_,c_,B_,m_,d_,rfl,hq,hh⟩
     exact ⟨_,rfl,hh,s_,A_,n_,c_,B_,m_,d_,rfl,hq⟩
   | 4,ho =>
     obtain rfl:o4_cptz=o:=Option.some.inj ho
     cases hd
     have f:=hf ⟨3,.data⟩ (by simp [o4_cptz]) rfl _ 10 rfl rfl (NE _ (by decide))
     refine wpOp_plain' (o:=o4_cptz) rfl rfl ?_
     unfold Oper.wp o4_cptz
     rw [run_move (G sv 10 (by decide) (by decide)),Oper.upon_value]
     exact ⟨_,rfl,Below.refl _ _,f⟩
   | 5,ho =>
     obtain rfl:o5_cptz=o:=Option.some.inj ho
     cases hd
     have h6:VQEa (Rat.divInt 1 1 / v.w) (1+k) (sv 6) w':=hf ⟨4,.data⟩ (by simp [o5_cptz]) rfl _ 6 rfl rfl (NE _ (by decide))
     obtain ⟨s6_,A6_,n6_,c6_,B6_,m6_,d6_,f6,q6⟩:=h6
     refine wpOp_plain' (o:=o5_cptz) rfl rfl ?_
     unfold Oper.wp o5_cptz
     rw [run_ext0 ((G sv 6 (by decide) (by decide)).trans f6),Oper.upon_value]
     exact ⟨_,rfl,Below.refl _ _,s6_,A6_,n6_,c6_,B6_,m6_,d6_,rfl,q6⟩
   | 6,ho =>
     obtain rfl:o6_cptz=o:=Option.some.inj ho
     cases hd
     have h6:VQEa (Rat.divInt 1 1 / v.w) (1+k) (sv 6) w':=hf ⟨4,.data⟩ (by simp [o6_cptz]) rfl _ 6 rfl rfl (NE _ (by decide))
     obtain ⟨s6_,A6_,n6_,c6_,B6_,m6_,d6_,f6,q6⟩:=h6
     refine wpOp_plain' (o:=o6_cptz) rfl rfl ?_
     unfold Oper.wp o6_cptz
     rw [run_ext1 ((G sv 6 (by decide) (by decide)).trans f6),Oper.upon_value]
     exact ⟨_,rfl,Below.refl _ _,rfl⟩
   | 7,ho=>cases ho;cases hd;exact absurd rfl (hia (B0_cptp v k) (List.Mem.head _))
   | 8,ho=>cases ho;cases hd
   | 9,ho =>
     obtain rfl:o9_cptz=o:=Option.some.inj ho
     cases hd
     have f:=hf ⟨6,.data⟩ (by simp [o9_cptz]) rfl _ 12 rfl rfl (NE _ (by decide))
     refine wpOp_plain' (o:=o9_cptz) rfl rfl ?_
     unfold Oper.wp o9_cptz
     rw [run_assign (G sv 12 (by decide) (by decide)),Oper.upon_value]
     exact ⟨_,rfl,Below.refl _ _,f⟩
   | i+10,ho=>cases ho
 · intro p hp os sv w' g hos J0 p1 p3 hf
   simp only [List.mem_cons,List.not_mem_nil,or_false] at hp
   rcases hp with rfl
   · obtain rfl:o8_cptz=os:=Option.some.inj hos
     have h1:VQ (Rat.divInt 1 1 / v.w) (1+k) (sv 11) w':=hf ⟨5,.data⟩ (by simp [o8_cptz]) rfl _ 11 rfl rfl (NE _ (by decide))
     rw [← G sv 11 (by decide) (by decide)] at h1
     refine store_q (V:=Rat.divInt 1 1 / v.w) (k:=1+k) (ac:=putAll ac L_cptz sv) (z:=.tmp 11) ?_ ?_ ?_
     · exact (G sv 4 (by decide) (by decide)).trans p1
     · exact h1
     · exact p3
 · intro sv w' J0 hF hB hap
   obtain ⟨g0,cs0,p0,r0,b0,⟨s0,A0,n0,c0,B0,m0,d0,rfl,h0⟩⟩:=hB (B0_cptp v k) (List.Mem.head _)
   have p0':sv 4=.pointer (some ⟨g0,0,none⟩):=p0
   exact hend sv w' g0 _ _ _ _ _ _ _ h0 b0.at_ r0 p0' (hF 9 _ 5 rfl rfl (NE _ (by decide)))  J0
theorem mkbx39_15 {w W:World} {x0 x1 x2 x3 x4 x5 x6 x7 x8 x9 x10 x11 x12 x13 x14:Value} (h:((w.alloc (Obj.cells #[x0,x1,x2,x3,x4,x5,x6,x7,x8] 55)).alloc (Obj.cells #[x9,x10,x11,x12,x13,x14] 49))=W):Below w.heap.size w W∧BH W (w.heap.size) x0 x1 x2 x3 x4 x5 x6 x7 x8∧B6 W (w.heap.size+1) x9 x10 x11 x12 x13 x14∧W.heap.size=w.heap.size+2:=by subst h;exact ⟨by exact (((Below.refl _ _).alloc (Nat.le_refl _) _).alloc (by simp) _),by exact (BH.new' _ _ _ _ _ _ _ _ _ _ _ rfl).alloc _,by exact B6.new' _ _ _ _ _ _ _ _ (by simp),by simp⟩
theorem cpoint_p {k:Nat} {v:AH} {h:HV} (M:HR w h v k) (hk:k≤15000) (h1:1≤k) (h0:v.w ≠ 0) :
 Calls Tryz.prog 19 #[.agg #[.bool h.x.s,.slice h.x.A h.x.n h.x.c,.slice h.x.B h.x.m h.x.d,.bool h.y.s,.slice h.y.A h.y.n h.y.c,.slice h.y.B h.y.m h.y.d,.bool h.w.s,.slice h.w.A h.w.n h.w.c,.slice h.w.B h.w.m h.w.d]] w (GivesPtE w v.px v.py (k+(1+k))):=by
 go_enter Tryz.func19,Tryz.ntmps19
 go_upto_region 1 with (fail)
 generalize hW:World.alloc _ _=W
 obtain ⟨hb,XA,Z,hzW⟩:=mkbx39_15 hW;clear hW;replace M:=M.below hb
 refine cptp_region (by simp) rfl XA M (by omega) h1 h0 ?_
 intro V1 w_t g_t s_t A_t n_t c_t B_t m_t d_t tq XT hg_t hvt hv5 hh
 simp only [putAll,Act.put,List.setIfInBounds_toArray,List.set_cons_zero,List.set_cons_succ,hvt,hv5]
 clear hvt hv5;rw [one_q] at tq;replace M:=M.below hh;replace XA:=XA.below hh;replace Z:=Z.below hh;replace hb:=bend hb hh;obtain ⟨xa0,xa1,xa2,xa3,xa4,xa5,xa6,xa7,xa8⟩:=XA.all;obtain ⟨xt0,xt1,xt2⟩:=XT.all
 go_wp2_with (first
  | (go_at_call 49;(with_reducible refine (pscale_p M.pt tq.qr (by omega) (by omega) (.inl (by omega)) (by omega) (by omega)).mono ?_);rintro e w_r ⟨s_r,A_r,n_r,c_r,B_r,m_r,d_r,t_r,E_r,i_r,e_r,F_r,j_r,f_r,rfl,r,hh⟩
     (try replace M:=M.below hh);(try replace XA:=XA.below hh);(try replace Z:=Z.below hh);(try replace XT:=XT.below hh);(try replace tq:=tq.below hh);replace hb:=bend hb hh;have zg0:=Z.f0;have zg1:=Z.f1;have zg2:=Z.f2;have zg3:=Z.f3;have zg4:=Z.f4;have zg5:=Z.f5;obtain ⟨zc0,zc1,zc2,zc3,zc4,zc5⟩:=Z.all))
 have Z2:=Z.set6 (.bool s_r) (.slice A_r n_r c_r) (.slice B_r m_r d_r) (.bool t_r) (.slice E_r i_r e_r) (.slice F_r j_r f_r)
 obtain ⟨g0,g1,g2,g3,g4,g5⟩:=Z2.all
 refine bodyPost_ret (v:=.tuple #[.agg #[.bool s_r,.slice A_r n_r c_r,.slice B_r m_r d_r,.bool t_r,.slice E_r i_r e_r,.slice F_r j_r f_r],.int .i64 0]) (by rw [results_cell_tmp Tryz.results19];simp [go_sem,asAddr,Result.andThen,g0,g1,g2,g3,g4,g5]) rfl ?_
 exact ⟨s_r,A_r,n_r,c_r,B_r,m_r,d_r,t_r,E_r,i_r,e_r,F_r,j_r,f_r,rfl,r.set6 Z _ _ _ _ _ _,below_set6 hb (by omega) _ _ _ _ _ _⟩
theorem st_newH (w:World) (a0 a1 a2 a3 a4 a5 a6 a7 a8:Value) (h1:(#[a0,a1,a2,a3,a4,a5,a6,a7,a8]:Array Value).all (·.oneCell')=true):(STH ⟨w.heap.size,0,none⟩ (.agg #[a0,a1,a2,a3,a4,a5,a6,a7,a8])).run Tryz.prog (w.alloc (.cells #[.bool false,.slice none 0 0,.slice none 0 0,.bool false,.slice none 0 0,.slice none 0 0,.bool false,.slice none 0 0,.slice none 0 0] 55))=.ok () (w.alloc (.cells #[a0,a1,a2,a3,a4,a5,a6,a7,a8] 55)) :=
 run_storeVar_new w _ _ _ (by kernel_rfl) rfl h1
theorem sgn_p {v:Rat} (h:0 < v):sgnQ v=1:=by unfold sgnQ;rw [if_neg (by grind),if_neg (by grind)]
theorem sgn_np {v:Rat} (h:¬ 0 < v):sgnQ v≤0:=by
 unfold sgnQ
 by_cases q:v < 0
 · rw [if_pos q];decide
 · rw [if_neg q,if_pos (by grind)];decide
def GoodH (V:List AH):Prop:=(2≤V.length∧V.length≤4)∧∀ u ∈ V,0 < u.w
theorem cgood_s {A:Option Addr} {n c:Nat} (h:n < 2) :
 Calls Tryz.prog 28 #[.slice A n c] w fun e w'=>e=.returned (.bool false)∧Below w.heap.size w w':=by
 have hs:(n:Int) < 2:=by omega
 clear h
 have hb:Below w.heap.size w w:=Below.refl _ _
 go_enter Tryz.func28,Tryz.ntmps28
 go_wp2_with fail
 (try rw [Exit.noGoto_ret])
 go_ret;exact ⟨rfl,hb⟩
theorem cgood_l {A:Option Addr} {n c:Nat} (h:4 < n) :
 Calls Tryz.prog 28 #[.slice A n c] w fun e w'=>e=.returned (.bool false)∧Below w.heap.size w w':=by
 have hs:¬ (n:Int) < 2:=by omega
 have hs2:(4:Int) < (n:Int):=by omega
 clear h
 have hb:Below w.heap.size w w:=Below.refl _ _
 go_enter Tryz.func28,Tryz.ntmps28
 go_wp2_with fail
 (try rw [Exit.noGoto_ret])
 go_ret;exact ⟨rfl,hb⟩
theorem cgood_w {A:Option Addr} {n c k:Nat} {L:List HV} {V:List AH} (hL:SV w A (hvs L)) (hE:EachH HR w L V k) (hn:L.length=n) (h2:2≤n) (h4:n≤4) (hk:k≤90000) (h1:1≤k) (R:Bool) (hR0:R=true ↔ ∀ u ∈ V,0 < u.w) :
 Calls Tryz.prog 28 #[.slice A n c] w fun e w'=>e=.returned (.bool R)∧Below w.heap.size w w':=by
 have HN:=Lib.hid hn
 have HVl:Hid (V.length=n):=hE.1.symm.trans hn
 have HL9:=Lib.hid hL;have E9:=Lib.hid hE;have HR0:=Lib.hid hR0
 have ha2:¬ (n:Int) < 2:=by omega
 have ha4:¬ (4:Int) < (n:Int):=by omega
 clear hL hE hn hR0
 go_enter Tryz.func28,Tryz.ntmps28
 go_wp2_with fail
 go_loopg [15] n (fun gk ix wr=>∃ (m:Nat),Hid (gk+m=n)∧ix=.int .i64 (m:Int)∧Hid (∀ (i:Nat) (u:AH),i < m→V[i]?=some u→0 < u.w)∧Below w.heap.size w wr)
 case atStart=>exact ⟨0,Nat.add_zero _,rfl,fun i p hi=>absurd hi (by omega),Below.refl _ _⟩
 case round =>
  obtain ⟨m,HG,rfl,HS,hb⟩:=hrel
  by_cases hmn:m < n
  · have HMN:=Lib.hid hmn
    obtain ⟨P,u,hP1,hu1,p0⟩:=E9.out.at_ (i:=m) (by rw [HN.out];exact hmn)
    obtain ⟨g0,o0,hix0,EP0,_⟩:=(HL9.out.below hb).ht hP1
    have hixa:∀ w',(Instr.indexAt 22 (.slice A n c) (.int .i64 (m:Int))).run Tryz.prog w'=.ok (.pointer (some ⟨g0,o0,none⟩)) w':=fun w'=>hix0 n c w' hmn
    have hlt:(m:Int) < (n:Int):=by omega
    have hwr:IntKind.i64.wrap ((m:Int)+1)=(m:Int)+1:=IntWalk.i64_in _ (by omega)
    have HU:=Lib.hid hu1
    have pw:=(p0.below hb).qw
    have epl:=EP0.ldH
    have zs:=st_newH wr (.bool P.x.s) (.slice P.x.A P.x.n P.x.c) (.slice P.x.B P.x.m P.x.d) (.bool P.y.s) (.slice P.y.A P.y.n P.y.c) (.slice P.y.B P.y.m P.y.d) (.bool P.w.s) (.slice P.w.A P.w.n P.w.c) (.slice P.w.B P.w.m P.w.d) (by simp [Value.oneCell'])
    have XN:=BH.new' wr (.bool P.x.s) (.slice P.x.A P.x.n P.x.c) (.slice P.x.B P.x.m P.x.d) (.bool P.y.s) (.slice P.y.A P.y.n P.y.c) (.slice P.y.B P.y.m P.y.d) (.bool P.w.s) (.slice P.w.A P.w.n P.w.c) (.slice P.w.B P.w.m P.w.d) wr.heap.size rfl
    have xn6:=XN.c6;have xn7:=XN.c7;have xn8:=XN.c8
    have hbn:Below wr.heap.size wr (wr.alloc (Obj.cells #[.bool P.x.s,.slice P.x.A P.x.n P.x.c,.slice P.x.B P.x.m P.x.d,.bool P.y.s,.slice P.y.A P.y.n P.y.c,.slice P.y.B P.y.m P.y.d,.bool P.w.s,.slice P.w.A P.w.n P.w.c,.slice P.w.B P.w.m P.w.d] 55)):=(Below.refl _ _).alloc (Nat.le_refl _) _
    have pn:=pw.below hbn;have hb2:=bend hb hbn;clear hP1 hu1 hix0 hmn p0 EP0 XN pw
    by_cases hs:0 < u.w
    · have HT:Hid (sgnQ u.w=1):=by exact sgn_p hs
      have HSM:=Lib.hid hs;clear hs
      go_wp2_with (first
       | (go_at_call 24;(with_reducible refine (rsign_q pn hk h1).mono ?_);rintro e w_z ⟨rfl,hh⟩;rw [HT.out];replace hb2:=bend hb2 hh))
      go_roundg (gk - 1)
      case measure=>have:=HG.out;have:=HMN.out;omega
      case rel =>
       refine ⟨m+1,by have:=HG.out;have:=HMN.out;show _=_;omega,by go_num,fun i v hi h5=>?_,hb2⟩
       rcases Nat.lt_or_ge i m with h | h
       · exact HS.out i v h h5
       · obtain rfl:i=m:=by omega
         rw [HU.out] at h5;cases h5;exact HSM.out
    · obtain ⟨T,hT,hT0⟩:∃ T,sgnQ u.w=T∧T≤0:=⟨_,rfl,sgn_np hs⟩
      have HT:=Lib.hid hT
      have HF:Hid (false=R):=by
       show _=_
       cases R with
       | false=>rfl
       | true=>exact absurd (HR0.out.1 rfl _ (List.mem_of_getElem? HU.out)) hs
      clear hs hT
      go_wp2_with (first
       | (go_at_call 24;(with_reducible refine (rsign_q pn hk h1).mono ?_);rintro e w_z ⟨rfl,hh⟩;rw [HT.out];replace hb2:=bend hb2 hh))
      (try rw [Exit.noGoto_ret])
      go_ret
      exact ⟨by rw [← HF.out];rfl,hb2⟩
  · have hlt:¬ (m:Int) < (n:Int):=by omega
    have HT:Hid (true=R):=by
     refine (HR0.out.2 fun p hp=>?_).symm
     obtain ⟨i,hi⟩:=List.getElem?_of_mem hp
     have h7:=(List.getElem?_eq_some_iff.1 hi).1
     rw [HVl.out] at h7
     exact HS.out i p (by omega) hi
    clear hmn
    go_wp2_with fail
    (try rw [Exit.noGoto_ret])
    go_ret
    exact ⟨by rw [← HT.out];rfl,hb⟩
end
section
open Go Go.RowKit
attribute [local go_sem ↓] open_LVH open_STH open_LVJ open_STJ
theorem EH.push {w w':World} {g o:Nat} {p:HV} {row:Option Nat} (h:EH w g o p) (hg:w.grownBy w' row) (hne:∀ k,row=some k→k ≠ g):EH w' g o p :=
 ⟨Nat.lt_of_lt_of_le h.1 hg.size,fun j v e=>(World.cell?_of_block (a:=⟨g,o+j,none⟩) (hg.block g h.1 (fun e=>hne g e.symm rfl))).trans (h.2 j v e)⟩
theorem LnH.own_base {T:TypeId} {base g:Nat} {v:Value} {L:List HV} (h:LnH T base w v L) (hg:v.ownBlock=some g):base≤g:=(h.own.lt g hg).1
end
section
open Go Go.RowKit
attribute [local go_sem] Oper.semAt_some
attribute [local go_sem ↓] open_LVH open_STH open_LVJ open_STJ
theorem B3.kp {W W':World} {g:Nat} {s:Bool} {y z:Value} (h:B3 W g (.bool s) y z) (hk:KpS W W'):B3 W' g (.bool s) y z :=
 (hk.same g 0 _ h.c0 (fun _ _ _ e=>by cases e)).trans h
end
section
open Go Go.RowKit
attribute [local go_sem] Oper.semAt_some
attribute [local go_sem ↓] open_LVH open_STH open_LVJ open_STJ
theorem QG.kp {W W':World} {s:Bool} {A B:Option Addr} {n c m d k:Nat} {v:Rat} (h:QG W s A n c B m d v k) (hk:KpS W W'):QG W' s A n c B m d v k:=⟨⟨h.1.1,h.1.2.1.kp hk,h.1.2.2⟩,⟨h.2.1.kp hk,h.2.2⟩⟩
theorem PG.kp {W W':World} {s t:Bool} {A B E F:Option Addr} {n c m d i e j f k:Nat} {x y:Rat} (h:PG W s A n c B m d t E i e F j f x y k) (hk:KpS W W'):PG W' s A n c B m d t E i e F j f x y k:=⟨h.1.kp hk,h.2.kp hk⟩
theorem cgood_any {A:Option Addr} {n c k:Nat} {L:List HV} {V:List AH} (hL:SV w A (hvs L)) (hE:EachH HR w L V k) (hn:L.length=n) (hk:k≤90000) (h1:1≤k) (R:Bool) (hR:R=true ↔ GoodH V) :
 Calls Tryz.prog 28 #[.slice A n c] w fun e w'=>e=.returned (.bool R)∧Below w.heap.size w w':=by
 have hv:V.length=n:=hE.1.symm.trans hn
 by_cases h2:n < 2
 · obtain rfl : R = false := by
     cases R with
     | false=>rfl
     | true=>have:=(hR.1 rfl).1;omega
   exact cgood_s h2
 · by_cases h4:4 < n
   · obtain rfl : R = false := by
       cases R with
       | false=>rfl
       | true=>have:=(hR.1 rfl).1;omega
     exact cgood_l h4
   · refine cgood_w hL hE hn (by omega) (by omega) hk h1 R (hR.trans ⟨fun h=>h.2,fun h=>⟨⟨by omega,by omega⟩,h⟩⟩)
end
section
open Go Go.RowKit
attribute [local go_sem ↓] open_LVH open_STH open_LVJ open_STJ
section
variable {W W':World} {g:Nat} {v0 v1 v2 v3 v4 v5 v6 v7:Value}
end
structure SV8 where
 k:Int
 v0:Int
 v1:Int
 v2:Int
 v3:Int
 v4:Int
 v5:Int
 w:Int
def SV8.at_ (s:SV8):Nat→Int
 | 0=>s.v0
 | 1=>s.v1
 | 2=>s.v2
 | 3=>s.v3
 | 4=>s.v4
 | _=>s.v5
def i64In (x:Int):Prop:=-9223372036854775808≤x∧x < 9223372036854775808
def SV8.In (s:SV8):Prop:=i64In s.k∧(∀ i,i64In (s.at_ i))∧i64In s.w
def C1 (w:World) (g o:Nat) (u:Value):Prop:=w.cell? ⟨g,o,none⟩=some u
theorem C1.below {w w':World} {g o:Nat} {u:Value} (h:C1 w g o u) (hb:Below w.heap.size w w'):C1 w' g o u:=(hb.cell (p:=⟨g,o,none⟩) (World.block_lt_of_cell? w ⟨g,o,none⟩ h)).trans h
theorem B6.pushX {w w':World} {g:Nat} {x y z u v t:Value} {row:Option Nat} (h:B6 w g x y z u v t) (hg:w.grownBy w' row) (hne:∀ k,row=some k→k ≠ g):B6 w' g x y z u v t:=(hg.block g h.lt (fun e=>hne g e.symm rfl)).trans h
end
end Go.Proofs.YtlpogecpdfdggaaGreat
