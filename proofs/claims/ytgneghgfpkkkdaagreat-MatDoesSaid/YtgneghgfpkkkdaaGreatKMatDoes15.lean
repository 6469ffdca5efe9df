/- MatDoes: part 15. -/
import Derived.Deep.AppendLies
import Derived.Deep.LoopGhost
import Derived.WalkMore
import Derived.Test.YtgneghgfpkkkdaaGreatKMatDoes12
import Derived.Test.YtgneghgfpkkkdaaGreatKMatDoes14
set_option linter.unusedVariables false
set_option maxRecDepth 100000
set_option maxHeartbeats 16000000
variable {w:Go.World}
namespace Go.Proofs.YtgneghgfpkkkdaaGreat
section
open Go Go.RowKit
attribute [local go_sem ↓] open_LVM open_STM open_LVN open_STN
def BV6 (W:World) (g:Nat) (v0 v1 v2 v3 v4 v5:Value):Prop:=W.heap[g]?=some (.cells #[v0,v1,v2,v3,v4,v5] 91 (0,0))
section
variable {W W':World} {g:Nat} {v0 v1 v2 v3 v4 v5:Value}
theorem BV6.c0 (h:BV6 W g v0 v1 v2 v3 v4 v5):W.cell? ⟨g,0,none⟩=some v0:=by rw [cell_of_row W g 0 _ _ (0,0) h];rfl
theorem BV6.c1 (h:BV6 W g v0 v1 v2 v3 v4 v5):W.cell? ⟨g,1,none⟩=some v1:=by rw [cell_of_row W g 1 _ _ (0,0) h];rfl
theorem BV6.c2 (h:BV6 W g v0 v1 v2 v3 v4 v5):W.cell? ⟨g,2,none⟩=some v2:=by rw [cell_of_row W g 2 _ _ (0,0) h];rfl
theorem BV6.c3 (h:BV6 W g v0 v1 v2 v3 v4 v5):W.cell? ⟨g,3,none⟩=some v3:=by rw [cell_of_row W g 3 _ _ (0,0) h];rfl
theorem BV6.c4 (h:BV6 W g v0 v1 v2 v3 v4 v5):W.cell? ⟨g,4,none⟩=some v4:=by rw [cell_of_row W g 4 _ _ (0,0) h];rfl
theorem BV6.c5 (h:BV6 W g v0 v1 v2 v3 v4 v5):W.cell? ⟨g,5,none⟩=some v5:=by rw [cell_of_row W g 5 _ _ (0,0) h];rfl
theorem BV6.all (h:BV6 W g v0 v1 v2 v3 v4 v5):W.cell? ⟨g,0,none⟩=some v0∧W.cell? ⟨g,1,none⟩=some v1∧W.cell? ⟨g,2,none⟩=some v2∧W.cell? ⟨g,3,none⟩=some v3∧W.cell? ⟨g,4,none⟩=some v4∧W.cell? ⟨g,5,none⟩=some v5:=⟨h.c0,h.c1,h.c2,h.c3,h.c4,h.c5⟩
theorem BV6.lt (h:BV6 W g v0 v1 v2 v3 v4 v5):g < W.heap.size:=World.block_lt_of_cell? W _ h.c0
theorem BV6.below (h:BV6 W g v0 v1 v2 v3 v4 v5) (hb:Below W.heap.size W W'):BV6 W' g v0 v1 v2 v3 v4 v5:=(hb.block g h.lt).trans h
theorem BV6.alloc (h:BV6 W g v0 v1 v2 v3 v4 v5) (o:Obj):BV6 (W.alloc o) g v0 v1 v2 v3 v4 v5:=(Below.heap_alloc W o g h.lt).trans h
theorem BV6.restm {k:Nat} (h:BV6 W g v0 v1 v2 v3 v4 v5) (hne:g ≠ k) (ho:Only k W W'):BV6 W' g v0 v1 v2 v3 v4 v5:=(ho.block g h.lt hne).trans h
theorem BV6.new' (W:World) (v0 v1 v2 v3 v4 v5:Value) (g:Nat) (hg:g=W.heap.size):BV6 (W.alloc (.cells #[v0,v1,v2,v3,v4,v5] 91)) g v0 v1 v2 v3 v4 v5:=by subst hg;exact heap_alloc_new W _
end
theorem atv_0 (g:Nat) (w:World):(Instr.indexAt 91 (Value.pointer (some ⟨g,0,none⟩)) (Value.int IntKind.i64 0)).run Tryz.prog w=.ok (.pointer (some ⟨g,0,none⟩)) w:=by kernel_rfl
theorem atv_1 (g:Nat) (w:World):(Instr.indexAt 91 (Value.pointer (some ⟨g,0,none⟩)) (Value.int IntKind.i64 1)).run Tryz.prog w=.ok (.pointer (some ⟨g,1,none⟩)) w:=by kernel_rfl
theorem atv_2 (g:Nat) (w:World):(Instr.indexAt 91 (Value.pointer (some ⟨g,0,none⟩)) (Value.int IntKind.i64 2)).run Tryz.prog w=.ok (.pointer (some ⟨g,2,none⟩)) w:=by kernel_rfl
theorem atv_3 (g:Nat) (w:World):(Instr.indexAt 91 (Value.pointer (some ⟨g,0,none⟩)) (Value.int IntKind.i64 3)).run Tryz.prog w=.ok (.pointer (some ⟨g,3,none⟩)) w:=by kernel_rfl
theorem atv_4 (g:Nat) (w:World):(Instr.indexAt 91 (Value.pointer (some ⟨g,0,none⟩)) (Value.int IntKind.i64 4)).run Tryz.prog w=.ok (.pointer (some ⟨g,4,none⟩)) w:=by kernel_rfl
theorem atv_5 (g:Nat) (w:World):(Instr.indexAt 91 (Value.pointer (some ⟨g,0,none⟩)) (Value.int IntKind.i64 5)).run Tryz.prog w=.ok (.pointer (some ⟨g,5,none⟩)) w:=by kernel_rfl
theorem mwhole_p (x y:Int) (hx1:-9223372036854775808≤x) (hx2:x < 9223372036854775808) (hy1:-9223372036854775808≤y) (hy2:y < 9223372036854775808) (w:World) :
 Calls Tryz.prog 116 #[.int .i64 x,.int .i64 y] w (GivesPt w (Rat.divInt x 1) (Rat.divInt y 1) 1):=by
 have Hx1:=Lib.hid hx1;have Hx2:=Lib.hid hx2;have Hy1:=Lib.hid hy1;have Hy2:=Lib.hid hy2;clear hx1 hx2 hy1 hy2
 go_enter Tryz.func116,Tryz.ntmps116
 go_upto_region 1 with (fail)
 generalize hW:World.alloc _ _=W
 obtain ⟨hb,Z,hzW⟩:=mkbx20_10 hW;clear hW
 go_wp2_with (first
  | (go_at_call 60;(with_reducible refine (rof_q x 1 Hx1.out Hx2.out (by decide) (by decide) (by decide) _).mono ?_);rintro e w_r ⟨s_r,A_r,n_r,c_r,B_r,m_r,d_r,rfl,r,hh⟩
     (try replace Z:=Z.below hh);replace hb:=bend hb hh)
  | (go_at_call 60;(with_reducible refine (rof_q y 1 Hy1.out Hy2.out (by decide) (by decide) (by decide) _).mono ?_);rintro e w_u ⟨s_u,A_u,n_u,c_u,B_u,m_u,d_u,rfl,u,hh⟩
     (try replace Z:=Z.below hh);(try replace r:=r.below hh);replace hb:=bend hb hh;have zg0:=Z.f0;have zg1:=Z.f1;have zg2:=Z.f2;have zg3:=Z.f3;have zg4:=Z.f4;have zg5:=Z.f5;obtain ⟨zc0,zc1,zc2,zc3,zc4,zc5⟩:=Z.all))
 have Z2:=Z.set6 (.bool s_r) (.slice A_r n_r c_r) (.slice B_r m_r d_r) (.bool s_u) (.slice A_u n_u c_u) (.slice B_u m_u d_u)
 obtain ⟨g0,g1,g2,g3,g4,g5⟩:=Z2.all
 refine bodyPost_ret (v:=.agg #[.bool s_r,.slice A_r n_r c_r,.slice B_r m_r d_r,.bool s_u,.slice A_u n_u c_u,.slice B_u m_u d_u]) (by simp [results,Tryz.results116,go_sem,g0,g1,g2,g3,g4,g5]) rfl ?_
 exact ⟨_,_,_,_,_,_,_,_,_,_,_,_,_,_,rfl,(show PG _ _ _ _ _ _ _ _ _ _ _ _ _ _ _ _ _ _ from ⟨r,u⟩).set6 Z _ _ _ _ _ _,below_set6 hb (by omega) _ _ _ _ _ _⟩
theorem mparts_p (x y u:Int) (hx1:-9223372036854775808≤x) (hx2:x < 9223372036854775808) (hy1:-9223372036854775808≤y) (hy2:y < 9223372036854775808) (hu1:-9223372036854775808≤u) (hu2:u < 9223372036854775808) (w:World) :
 Calls Tryz.prog 115 #[.int .i64 x,.int .i64 y,.int .i64 u] w (GivesPt w (fromQ x u) (fromQ y u) 1):=by
 have Hx1:=Lib.hid hx1;have Hx2:=Lib.hid hx2;have Hy1:=Lib.hid hy1;have Hy2:=Lib.hid hy2;have Hu1:=Lib.hid hu1;have Hu2:=Lib.hid hu2;clear hx1 hx2 hy1 hy2 hu1 hu2
 go_enter Tryz.func115,Tryz.ntmps115
 go_upto_region 1 with (fail)
 generalize hW:World.alloc _ _=W
 obtain ⟨hb,Z,hzW⟩:=mkbx20_10 hW;clear hW
 go_wp2_with (first
  | (go_at_call 158;(with_reducible refine (from_all x u Hx1.out Hx2.out Hu1.out Hu2.out _).mono ?_);rintro e w_r ⟨s_r,A_r,n_r,c_r,B_r,m_r,d_r,rfl,r,hh⟩
     (try replace Z:=Z.below hh);replace hb:=bend hb hh)
  | (go_at_call 158;(with_reducible refine (from_all y u Hy1.out Hy2.out Hu1.out Hu2.out _).mono ?_);rintro e w_t ⟨s_t,A_t,n_t,c_t,B_t,m_t,d_t,rfl,t,hh⟩
     (try replace Z:=Z.below hh);(try replace r:=r.below hh);replace hb:=bend hb hh;have zg0:=Z.f0;have zg1:=Z.f1;have zg2:=Z.f2;have zg3:=Z.f3;have zg4:=Z.f4;have zg5:=Z.f5;obtain ⟨zc0,zc1,zc2,zc3,zc4,zc5⟩:=Z.all))
 have Z2:=Z.set6 (.bool s_r) (.slice A_r n_r c_r) (.slice B_r m_r d_r) (.bool s_t) (.slice A_t n_t c_t) (.slice B_t m_t d_t)
 obtain ⟨g0,g1,g2,g3,g4,g5⟩:=Z2.all
 refine bodyPost_ret (v:=.agg #[.bool s_r,.slice A_r n_r c_r,.slice B_r m_r d_r,.bool s_t,.slice A_t n_t c_t,.slice B_t m_t d_t]) (by simp [results,Tryz.results115,go_sem,g0,g1,g2,g3,g4,g5]) rfl ?_
 exact ⟨_,_,_,_,_,_,_,_,_,_,_,_,_,_,rfl,(show PG _ _ _ _ _ _ _ _ _ _ _ _ _ _ _ _ _ _ from ⟨r,t⟩).set6 Z _ _ _ _ _ _,below_set6 hb (by omega) _ _ _ _ _ _⟩
def AM.one:AM:=⟨Rat.divInt 1 1,Rat.divInt 0 1,Rat.divInt 0 1,Rat.divInt 1 1,Rat.divInt 0 1,Rat.divInt 0 1⟩
def AM.of (x0 x1 x2 x3 x4 x5:Int):AM:=⟨fromQ x0 65536,fromQ x1 65536,fromQ x2 65536,fromQ x3 65536,fromQ x4 64,fromQ x5 64⟩
theorem mkbx43_15 {w W:World} {x0 x1 x2 x3 x4 x5 x6 x7 x8 x9 x10 x11 x12 x13 x14 x15 x16 x17:Value} (h:(w.alloc (Obj.cells #[x0,x1,x2,x3,x4,x5,x6,x7,x8,x9,x10,x11,x12,x13,x14,x15,x16,x17] 71))=W):Below w.heap.size w W∧B18 W (w.heap.size) x0 x1 x2 x3 x4 x5 x6 x7 x8 x9 x10 x11 x12 x13 x14 x15 x16 x17∧W.heap.size=w.heap.size+1:=by subst h;exact ⟨by exact ((Below.refl _ _).alloc (Nat.le_refl _) _),by exact B18.new' _ _ _ _ _ _ _ _ _ _ _ _ _ _ _ _ _ _ _ _ rfl,by simp⟩
theorem mone_p (w:World) :
 Calls Tryz.prog 53 #[] w (GivesMt w AM.one 1 1):=by
 go_enter Tryz.func53,Tryz.ntmps53
 go_upto_region 1 with (fail)
 generalize hW:World.alloc _ _=W
 obtain ⟨hb,Z,hzW⟩:=mkbx43_15 hW;clear hW
 go_wp2_with (first
  | (go_at_call 116;(with_reducible refine (mwhole_p 1 0 (by decide) (by decide) (by decide) (by decide) _).mono ?_);rintro e w_r1 ⟨s_r1,A_r1,n_r1,c_r1,B_r1,m_r1,d_r1,t_r1,E_r1,i_r1,e_r1,F_r1,j_r1,f_r1,rfl,r1,hh⟩
     (try replace Z:=Z.below hh);replace hb:=bend hb hh)
  | (go_at_call 116;(with_reducible refine (mwhole_p 0 1 (by decide) (by decide) (by decide) (by decide) _).mono ?_);rintro e w_r2 ⟨s_r2,A_r2,n_r2,c_r2,B_r2,m_r2,d_r2,t_r2,E_r2,i_r2,e_r2,F_r2,j_r2,f_r2,rfl,r2,hh⟩
     (try replace Z:=Z.below hh);(try replace r1:=r1.below hh);replace hb:=bend hb hh)
  | (go_at_call 116;(with_reducible refine (mwhole_p 0 0 (by decide) (by decide) (by decide) (by decide) _).mono ?_);rintro e w_r3 ⟨s_r3,A_r3,n_r3,c_r3,B_r3,m_r3,d_r3,t_r3,E_r3,i_r3,e_r3,F_r3,j_r3,f_r3,rfl,r3,hh⟩
     (try replace Z:=Z.below hh);(try replace r1:=r1.below hh);(try replace r2:=r2.below hh);replace hb:=bend hb hh)
  | (go_at_call 105;(with_reducible refine (mby_p r1 r2 r3).mono ?_);rintro e w_r ⟨r,rfl,rh,hh⟩
     (try replace Z:=Z.below hh);(try replace r1:=r1.below hh);(try replace r2:=r2.below hh);(try replace r3:=r3.below hh);replace hb:=bend hb hh
     have zst:=Z.st (.bool r.a.s) (.slice r.a.A r.a.n r.a.c) (.slice r.a.B r.a.m r.a.d) (.bool r.b.s) (.slice r.b.A r.b.n r.b.c) (.slice r.b.B r.b.m r.b.d) (.bool r.c.s) (.slice r.c.A r.c.n r.c.c) (.slice r.c.B r.c.m r.c.d) (.bool r.d.s) (.slice r.d.A r.d.n r.d.c) (.slice r.d.B r.d.m r.d.d) (.bool r.e.s) (.slice r.e.A r.e.n r.e.c) (.slice r.e.B r.e.m r.e.d) (.bool r.f.s) (.slice r.f.A r.f.n r.f.c) (.slice r.f.B r.f.m r.f.d) (by simp [Value.oneCell'])))
 have Z2:=Z.set18 (.bool r.a.s) (.slice r.a.A r.a.n r.a.c) (.slice r.a.B r.a.m r.a.d) (.bool r.b.s) (.slice r.b.A r.b.n r.b.c) (.slice r.b.B r.b.m r.b.d) (.bool r.c.s) (.slice r.c.A r.c.n r.c.c) (.slice r.c.B r.c.m r.c.d) (.bool r.d.s) (.slice r.d.A r.d.n r.d.c) (.slice r.d.B r.d.m r.d.d) (.bool r.e.s) (.slice r.e.A r.e.n r.e.c) (.slice r.e.B r.e.m r.e.d) (.bool r.f.s) (.slice r.f.A r.f.n r.f.c) (.slice r.f.B r.f.m r.f.d)
 have gl:=Z2.ld
 refine bodyPost_ret (v:=.agg #[.bool r.a.s,.slice r.a.A r.a.n r.a.c,.slice r.a.B r.a.m r.a.d,.bool r.b.s,.slice r.b.A r.b.n r.b.c,.slice r.b.B r.b.m r.b.d,.bool r.c.s,.slice r.c.A r.c.n r.c.c,.slice r.c.B r.c.m r.c.d,.bool r.d.s,.slice r.d.A r.d.n r.d.c,.slice r.d.B r.d.m r.d.d,.bool r.e.s,.slice r.e.A r.e.n r.e.c,.slice r.e.B r.e.m r.e.d,.bool r.f.s,.slice r.f.A r.f.n r.f.c,.slice r.f.B r.f.m r.f.d]) (res_M Tryz.results53 _ _ (by simp) gl) rfl ?_
 exact ⟨r,rfl,rh.set18 Z _ _ _ _ _ _ _ _ _ _ _ _ _ _ _ _ _ _,below_set18 hb (by omega) _ _ _ _ _ _ _ _ _ _ _ _ _ _ _ _ _ _⟩
theorem mkbx44_15 {w W:World} {x0 x1 x2 x3 x4 x5 x6 x7 x8 x9 x10 x11 x12 x13 x14 x15 x16 x17 x18 x19 x20 x21 x22 x23:Value} (h:((w.alloc (Obj.cells #[x0,x1,x2,x3,x4,x5] 91)).alloc (Obj.cells #[x6,x7,x8,x9,x10,x11,x12,x13,x14,x15,x16,x17,x18,x19,x20,x21,x22,x23] 71))=W):Below w.heap.size w W∧BV6 W (w.heap.size) x0 x1 x2 x3 x4 x5∧B18 W (w.heap.size+1) x6 x7 x8 x9 x10 x11 x12 x13 x14 x15 x16 x17 x18 x19 x20 x21 x22 x23∧W.heap.size=w.heap.size+2:=by subst h;exact ⟨by exact (((Below.refl _ _).alloc (Nat.le_refl _) _).alloc (by simp) _),by exact (BV6.new' _ _ _ _ _ _ _ _ rfl).alloc _,by exact B18.new' _ _ _ _ _ _ _ _ _ _ _ _ _ _ _ _ _ _ _ _ (by simp),by simp⟩
theorem mof_p (x0 x1 x2 x3 x4 x5:Int) (hx01:-9223372036854775808≤x0) (hx02:x0 < 9223372036854775808) (hx11:-9223372036854775808≤x1) (hx12:x1 < 9223372036854775808) (hx21:-9223372036854775808≤x2) (hx22:x2 < 9223372036854775808) (hx31:-9223372036854775808≤x3) (hx32:x3 < 9223372036854775808) (hx41:-9223372036854775808≤x4) (hx42:x4 < 9223372036854775808) (hx51:-9223372036854775808≤x5) (hx52:x5 < 9223372036854775808) (w:World) :
 Calls Tryz.prog 51 #[.agg #[.int .i64 x0,.int .i64 x1,.int .i64 x2,.int .i64 x3,.int .i64 x4,.int .i64 x5]] w (GivesMt w (AM.of x0 x1 x2 x3 x4 x5) 1 1):=by
 have Hx01:=Lib.hid hx01;have Hx02:=Lib.hid hx02;have Hx11:=Lib.hid hx11;have Hx12:=Lib.hid hx12;have Hx21:=Lib.hid hx21;have Hx22:=Lib.hid hx22;have Hx31:=Lib.hid hx31;have Hx32:=Lib.hid hx32;have Hx41:=Lib.hid hx41;have Hx42:=Lib.hid hx42;have Hx51:=Lib.hid hx51;have Hx52:=Lib.hid hx52;clear hx01 hx02 hx11 hx12 hx21 hx22 hx31 hx32 hx41 hx42 hx51 hx52;have hat0:=atv_0;have hat1:=atv_1;have hat2:=atv_2;have hat3:=atv_3;have hat4:=atv_4;have hat5:=atv_5
 go_enter Tryz.func51,Tryz.ntmps51
 go_upto_region 1 with (fail)
 generalize hW:World.alloc _ _=W
 obtain ⟨hb,XA,Z,hzW⟩:=mkbx44_15 hW;clear hW
 replace XA:=XA.below (Below.refl _ _).drew
 replace Z:=Z.below (Below.refl _ _).drew
 replace hb:=hb.drew
 go_region_held3 (fun w'=>w'.cell? ⟨w.heap.size,0,none⟩=some (.int .i64 x0)∧w'.cell? ⟨w.heap.size,1,none⟩=some (.int .i64 x1)∧w'.cell? ⟨w.heap.size,2,none⟩=some (.int .i64 x2)∧w'.cell? ⟨w.heap.size,3,none⟩=some (.int .i64 x3)∧w'.cell? ⟨w.heap.size,4,none⟩=some (.int .i64 x4)∧w'.cell? ⟨w.heap.size,5,none⟩=some (.int .i64 x5))
  (first | with_reducible exact ⟨XA.c0,XA.c1,XA.c2,XA.c3,XA.c4,XA.c5⟩ | with_reducible exact ⟨(XA.restm (by omega) (only_set18 _ _ _ _ _ _ _ _ _ _ _ _ _ _ _ _ _ _ _ _)).c0,(XA.restm (by omega) (only_set18 _ _ _ _ _ _ _ _ _ _ _ _ _ _ _ _ _ _ _ _)).c1,(XA.restm (by omega) (only_set18 _ _ _ _ _ _ _ _ _ _ _ _ _ _ _ _ _ _ _ _)).c2,(XA.restm (by omega) (only_set18 _ _ _ _ _ _ _ _ _ _ _ _ _ _ _ _ _ _ _ _)).c3,(XA.restm (by omega) (only_set18 _ _ _ _ _ _ _ _ _ _ _ _ _ _ _ _ _ _ _ _)).c4,(XA.restm (by omega) (only_set18 _ _ _ _ _ _ _ _ _ _ _ _ _ _ _ _ _ _ _ _)).c5⟩)
  (first
  | (go_at_call 115;(with_reducible refine (mparts_p x0 x1 65536 Hx01.out Hx02.out Hx11.out Hx12.out (by decide) (by decide) _).mono ?_);rintro e w_r1 ⟨s_r1,A_r1,n_r1,c_r1,B_r1,m_r1,d_r1,t_r1,E_r1,i_r1,e_r1,F_r1,j_r1,f_r1,rfl,r1,hh⟩
     (try replace XA:=XA.below hh);(try replace Z:=Z.below hh);replace hb:=bend hb hh)
  | (go_at_call 115;(with_reducible refine (mparts_p x2 x3 65536 Hx21.out Hx22.out Hx31.out Hx32.out (by decide) (by decide) _).mono ?_);rintro e w_r2 ⟨s_r2,A_r2,n_r2,c_r2,B_r2,m_r2,d_r2,t_r2,E_r2,i_r2,e_r2,F_r2,j_r2,f_r2,rfl,r2,hh⟩
     (try replace XA:=XA.below hh);(try replace Z:=Z.below hh);(try replace r1:=r1.below hh);replace hb:=bend hb hh)
  | (go_at_call 115;(with_reducible refine (mparts_p x4 x5 64 Hx41.out Hx42.out Hx51.out Hx52.out (by decide) (by decide) _).mono ?_);rintro e w_r3 ⟨s_r3,A_r3,n_r3,c_r3,B_r3,m_r3,d_r3,t_r3,E_r3,i_r3,e_r3,F_r3,j_r3,f_r3,rfl,r3,hh⟩
     (try replace XA:=XA.below hh);(try replace Z:=Z.below hh);(try replace r1:=r1.below hh);(try replace r2:=r2.below hh);replace hb:=bend hb hh)
  | (go_at_call 105;(with_reducible refine (mby_p r1 r2 r3).mono ?_);rintro e w_r ⟨r,rfl,rh,hh⟩
     (try replace XA:=XA.below hh);(try replace Z:=Z.below hh);(try replace r1:=r1.below hh);(try replace r2:=r2.below hh);(try replace r3:=r3.below hh);replace hb:=bend hb hh
     have zst:=Z.st (.bool r.a.s) (.slice r.a.A r.a.n r.a.c) (.slice r.a.B r.a.m r.a.d) (.bool r.b.s) (.slice r.b.A r.b.n r.b.c) (.slice r.b.B r.b.m r.b.d) (.bool r.c.s) (.slice r.c.A r.c.n r.c.c) (.slice r.c.B r.c.m r.c.d) (.bool r.d.s) (.slice r.d.A r.d.n r.d.c) (.slice r.d.B r.d.m r.d.d) (.bool r.e.s) (.slice r.e.A r.e.n r.e.c) (.slice r.e.B r.e.m r.e.d) (.bool r.f.s) (.slice r.f.A r.f.n r.f.c) (.slice r.f.B r.f.m r.f.d) (by simp [Value.oneCell'])))
 go_wp2_with fail
 have Z2:=Z.set18 (.bool r.a.s) (.slice r.a.A r.a.n r.a.c) (.slice r.a.B r.a.m r.a.d) (.bool r.b.s) (.slice r.b.A r.b.n r.b.c) (.slice r.b.B r.b.m r.b.d) (.bool r.c.s) (.slice r.c.A r.c.n r.c.c) (.slice r.c.B r.c.m r.c.d) (.bool r.d.s) (.slice r.d.A r.d.n r.d.c) (.slice r.d.B r.d.m r.d.d) (.bool r.e.s) (.slice r.e.A r.e.n r.e.c) (.slice r.e.B r.e.m r.e.d) (.bool r.f.s) (.slice r.f.A r.f.n r.f.c) (.slice r.f.B r.f.m r.f.d)
 have gl:=Z2.ld
 refine bodyPost_ret (v:=.agg #[.bool r.a.s,.slice r.a.A r.a.n r.a.c,.slice r.a.B r.a.m r.a.d,.bool r.b.s,.slice r.b.A r.b.n r.b.c,.slice r.b.B r.b.m r.b.d,.bool r.c.s,.slice r.c.A r.c.n r.c.c,.slice r.c.B r.c.m r.c.d,.bool r.d.s,.slice r.d.A r.d.n r.d.c,.slice r.d.B r.d.m r.d.d,.bool r.e.s,.slice r.e.A r.e.n r.e.c,.slice r.e.B r.e.m r.e.d,.bool r.f.s,.slice r.f.A r.f.n r.f.c,.slice r.f.B r.f.m r.f.d]) (res_M Tryz.results51 _ _ (by simp) gl) rfl ?_
 exact ⟨r,rfl,rh.set18 Z _ _ _ _ _ _ _ _ _ _ _ _ _ _ _ _ _ _,below_set18 hb (by omega) _ _ _ _ _ _ _ _ _ _ _ _ _ _ _ _ _ _⟩
def AM.sab (v u:AM):Bool:=decide (v.a=u.a∧v.b=u.b)
def AM.scd (v u:AM):Bool:=decide (v.c=u.c∧v.d=u.d)
def AM.sef (v u:AM):Bool:=decide (v.e=u.e∧v.f=u.f)
def AM.same (v u:AM):Bool:=(v.sab u && v.scd u) && v.sef u
theorem mkbx45_15 {w W:World} {x0 x1 x2 x3 x4 x5 x6 x7 x8 x9 x10 x11 x12 x13 x14 x15 x16 x17 x18 x19 x20 x21 x22 x23 x24 x25 x26 x27 x28 x29 x30 x31 x32 x33 x34 x35:Value} (h:((w.alloc (Obj.cells #[x0,x1,x2,x3,x4,x5,x6,x7,x8,x9,x10,x11,x12,x13,x14,x15,x16,x17] 71)).alloc (Obj.cells #[x18,x19,x20,x21,x22,x23,x24,x25,x26,x27,x28,x29,x30,x31,x32,x33,x34,x35] 71))=W):Below w.heap.size w W∧B18 W (w.heap.size) x0 x1 x2 x3 x4 x5 x6 x7 x8 x9 x10 x11 x12 x13 x14 x15 x16 x17∧B18 W (w.heap.size+1) x18 x19 x20 x21 x22 x23 x24 x25 x26 x27 x28 x29 x30 x31 x32 x33 x34 x35∧W.heap.size=w.heap.size+2:=by subst h;exact ⟨by exact (((Below.refl _ _).alloc (Nat.le_refl _) _).alloc (by simp) _),by exact (B18.new' _ _ _ _ _ _ _ _ _ _ _ _ _ _ _ _ _ _ _ _ rfl).alloc _,by exact B18.new' _ _ _ _ _ _ _ _ _ _ _ _ _ _ _ _ _ _ _ _ (by simp),by simp⟩
theorem msame_f1 {k l k2 l2:Nat} {v u:AM} {m n:MV} (M:MR w m v k l) (N:MR w n u k2 l2) (hk:k≤400) (hk2:k2≤400) (hl:l≤400) (hl2:l2≤400) (h1:1≤k) (h2:1≤k2) (h3:1≤l) (h4:1≤l2) (r1:decide (v.a=u.a∧v.b=u.b)=false) :
 Calls Tryz.prog 48 #[.agg #[.bool m.a.s,.slice m.a.A m.a.n m.a.c,.slice m.a.B m.a.m m.a.d,.bool m.b.s,.slice m.b.A m.b.n m.b.c,.slice m.b.B m.b.m m.b.d,.bool m.c.s,.slice m.c.A m.c.n m.c.c,.slice m.c.B m.c.m m.c.d,.bool m.d.s,.slice m.d.A m.d.n m.d.c,.slice m.d.B m.d.m m.d.d,.bool m.e.s,.slice m.e.A m.e.n m.e.c,.slice m.e.B m.e.m m.e.d,.bool m.f.s,.slice m.f.A m.f.n m.f.c,.slice m.f.B m.f.m m.f.d],.agg #[.bool n.a.s,.slice n.a.A n.a.n n.a.c,.slice n.a.B n.a.m n.a.d,.bool n.b.s,.slice n.b.A n.b.n n.b.c,.slice n.b.B n.b.m n.b.d,.bool n.c.s,.slice n.c.A n.c.n n.c.c,.slice n.c.B n.c.m n.c.d,.bool n.d.s,.slice n.d.A n.d.n n.d.c,.slice n.d.B n.d.m n.d.d,.bool n.e.s,.slice n.e.A n.e.n n.e.c,.slice n.e.B n.e.m n.e.d,.bool n.f.s,.slice n.f.A n.f.n n.f.c,.slice n.f.B n.f.m n.f.d]] w fun e w'=>e=.returned (.bool false)∧Below w.heap.size w w':=by
 have H1:=Lib.hid r1;clear r1
 go_enter Tryz.func48,Tryz.ntmps48
 go_upto_region 1 with (fail)
 generalize hW:World.alloc _ _=W
 obtain ⟨hb,XA,XB,hzW⟩:=mkbx45_15 hW;clear hW;replace M:=M.below hb;replace N:=N.below hb
 replace M:=M.below (Below.refl _ _).drew
 replace N:=N.below (Below.refl _ _).drew
 replace XA:=XA.below (Below.refl _ _).drew
 replace XB:=XB.below (Below.refl _ _).drew
 replace hb:=hb.drew
 refine wp_region_held_drew (S:=(fun w'=>(LVM ⟨w.heap.size,0,none⟩).run Tryz.prog w'=.ok (.agg #[.bool m.a.s,.slice m.a.A m.a.n m.a.c,.slice m.a.B m.a.m m.a.d,.bool m.b.s,.slice m.b.A m.b.n m.b.c,.slice m.b.B m.b.m m.b.d,.bool m.c.s,.slice m.c.A m.c.n m.c.c,.slice m.c.B m.c.m m.c.d,.bool m.d.s,.slice m.d.A m.d.n m.d.c,.slice m.d.B m.d.m m.d.d,.bool m.e.s,.slice m.e.A m.e.n m.e.c,.slice m.e.B m.e.m m.e.d,.bool m.f.s,.slice m.f.A m.f.n m.f.c,.slice m.f.B m.f.m m.f.d]) w'∧(LVM ⟨w.heap.size+1,0,none⟩).run Tryz.prog w'=.ok (.agg #[.bool n.a.s,.slice n.a.A n.a.n n.a.c,.slice n.a.B n.a.m n.a.d,.bool n.b.s,.slice n.b.A n.b.n n.b.c,.slice n.b.B n.b.m n.b.d,.bool n.c.s,.slice n.c.A n.c.n n.c.c,.slice n.c.B n.c.m n.c.d,.bool n.d.s,.slice n.d.A n.d.n n.d.c,.slice n.d.B n.d.m n.d.d,.bool n.e.s,.slice n.e.A n.e.n n.e.c,.slice n.e.B n.e.m n.e.d,.bool n.f.s,.slice n.f.A n.f.n n.f.c,.slice n.f.B n.f.m n.f.d]) w')) (by kernel_rfl) (by with_reducible exact ⟨XA.ld,XB.ld⟩) (fun hHeld=>?_)
 refine wpAnyH_take (i:=0) (oi:=⟨some 5,.load 71 (.tmp 2),71, "mat.go:75",#[],none⟩) (v:=?_) rfl (by kernel_rfl) (by kernel_rfl) (by kernel_rfl) (fun _ _ _ h=>h) (Or.inl ⟨by rfl,?_⟩) hHeld ?_
 rotate_left
 · (intro w hSw;(try dsimp only at hSw);go_simp;try with_reducible rfl)
 simp only [Act.put,List.setIfInBounds_toArray,List.set_cons_zero,List.set_cons_succ]
 refine wpAnyH_take (i:=2) (oi:=⟨some 7,.load 71 (.tmp 3),71, "mat.go:75",#[],none⟩) (v:=?_) rfl (by kernel_rfl) (by kernel_rfl) (by kernel_rfl) (fun _ _ _ h=>h) (Or.inl ⟨by rfl,?_⟩) hHeld ?_
 rotate_left
 · (intro w hSw;(try dsimp only at hSw);go_simp;try with_reducible rfl)
 simp only [Act.put,List.setIfInBounds_toArray,List.set_cons_zero,List.set_cons_succ]
 refine wpAnyH_ready (rs:=[1]) (by kernel_rfl) (by simp) ?_
 refine AllReadyH.cons (o:=⟨some 6,.call ⟨.value (.func 112),#[.tmp 5],#[71]⟩,29, "mat.go:75",#[⟨0,.data⟩],none⟩) rfl (fun K1 hK1=>?_) AllReadyH.nil
 go_simp
 first
  | (go_at_call 112;(with_reducible refine (mfirst_any).mono ?_);rintro e w_z ⟨rfl,hh⟩
     (try replace M:=M.below hh);(try replace N:=N.below hh);(try replace XA:=XA.below hh);(try replace XB:=XB.below hh);replace hb:=bend hb hh)
  | (go_at_call 113;(with_reducible refine (msecond_any).mono ?_);rintro e w_z ⟨rfl,hh⟩
     (try replace M:=M.below hh);(try replace N:=N.below hh);(try replace XA:=XA.below hh);(try replace XB:=XB.below hh);replace hb:=bend hb hh)
  | (go_at_call 108;(with_reducible refine (mmoved_any).mono ?_);rintro e w_z ⟨rfl,hh⟩
     (try replace M:=M.below hh);(try replace N:=N.below hh);(try replace XA:=XA.below hh);(try replace XB:=XB.below hh);replace hb:=bend hb hh)
  | (go_at_call 55;(with_reducible refine (psame_p M.ab N.ab hk hk2 h1 h2 false H1.out).mono ?_);rintro e w_z ⟨rfl,hh⟩
     (try replace M:=M.below hh);(try replace N:=N.below hh);(try replace XA:=XA.below hh);(try replace XB:=XB.below hh);replace hb:=bend hb hh)
 refine hK1.out _ _ (by with_reducible exact ⟨XA.ld,XB.ld⟩) (fun hHeld=>?_)
 clear hK1 K1
 refine wpAnyH_ready (rs:=[3]) (by kernel_rfl) (by simp) ?_
 refine AllReadyH.cons (o:=⟨some 8,.call ⟨.value (.func 112),#[.tmp 7],#[71]⟩,29, "mat.go:75",#[⟨2,.data⟩,⟨1,.chain⟩],none⟩) rfl (fun K1 hK1=>?_) AllReadyH.nil
 go_simp
 first
  | (go_at_call 112;(with_reducible refine (mfirst_any).mono ?_);rintro e w_z ⟨rfl,hh⟩
     (try replace M:=M.below hh);(try replace N:=N.below hh);(try replace XA:=XA.below hh);(try replace XB:=XB.below hh);replace hb:=bend hb hh)
  | (go_at_call 113;(with_reducible refine (msecond_any).mono ?_);rintro e w_z ⟨rfl,hh⟩
     (try replace M:=M.below hh);(try replace N:=N.below hh);(try replace XA:=XA.below hh);(try replace XB:=XB.below hh);replace hb:=bend hb hh)
  | (go_at_call 108;(with_reducible refine (mmoved_any).mono ?_);rintro e w_z ⟨rfl,hh⟩
     (try replace M:=M.below hh);(try replace N:=N.below hh);(try replace XA:=XA.below hh);(try replace XB:=XB.below hh);replace hb:=bend hb hh)
  | (go_at_call 55;(with_reducible refine (psame_p M.ab N.ab hk hk2 h1 h2 false H1.out).mono ?_);rintro e w_z ⟨rfl,hh⟩
     (try replace M:=M.below hh);(try replace N:=N.below hh);(try replace XA:=XA.below hh);(try replace XB:=XB.below hh);replace hb:=bend hb hh)
 refine hK1.out _ _ (by with_reducible exact ⟨XA.ld,XB.ld⟩) (fun hHeld=>?_)
 clear hK1 K1
 refine wpAnyH_ready (rs:=[4]) (by kernel_rfl) (by simp) ?_
 refine AllReadyH.cons (o:=⟨some 9,.call ⟨.value (.func 55),#[.tmp 6,.tmp 8],#[29,29]⟩,4, "mat.go:75",#[⟨1,.data⟩,⟨3,.data⟩,⟨3,.chain⟩],none⟩) rfl (fun K1 hK1=>?_) AllReadyH.nil
 go_simp
 first
  | (go_at_call 112;(with_reducible refine (mfirst_any).mono ?_);rintro e w_z ⟨rfl,hh⟩
     (try replace M:=M.below hh);(try replace N:=N.below hh);(try replace XA:=XA.below hh);(try replace XB:=XB.below hh);replace hb:=bend hb hh)
  | (go_at_call 113;(with_reducible refine (msecond_any).mono ?_);rintro e w_z ⟨rfl,hh⟩
     (try replace M:=M.below hh);(try replace N:=N.below hh);(try replace XA:=XA.below hh);(try replace XB:=XB.below hh);replace hb:=bend hb hh)
  | (go_at_call 108;(with_reducible refine (mmoved_any).mono ?_);rintro e w_z ⟨rfl,hh⟩
     (try replace M:=M.below hh);(try replace N:=N.below hh);(try replace XA:=XA.below hh);(try replace XB:=XB.below hh);replace hb:=bend hb hh)
  | (go_at_call 55;(with_reducible refine (psame_p M.ab N.ab hk hk2 h1 h2 false H1.out).mono ?_);rintro e w_z ⟨rfl,hh⟩
     (try replace M:=M.below hh);(try replace N:=N.below hh);(try replace XA:=XA.below hh);(try replace XB:=XB.below hh);replace hb:=bend hb hh)
 refine hK1.out _ _ (by with_reducible exact ⟨XA.ld,XB.ld⟩) (fun hHeld=>?_)
 clear hK1 K1
 refine wpAnyH_take (i:=5) (oi:=⟨some 10,.move (.tmp 9),4, "mat.go:75",#[⟨4,.data⟩,⟨4,.chain⟩],none⟩) (v:=?_) rfl (by kernel_rfl) (by kernel_rfl) (by kernel_rfl) (fun _ _ _ h=>h) (Or.inl ⟨by rfl,?_⟩) hHeld ?_
 rotate_left
 · (intro w hSw;(try dsimp only at hSw);go_simp;try with_reducible rfl)
 simp only [Act.put,List.setIfInBounds_toArray,List.set_cons_zero,List.set_cons_succ]
 refine wpAnyH_take (i:=6) (oi:=⟨some 11,.load 71 (.tmp 2),71, "mat.go:75",#[⟨5,.guard⟩],some (5,true)⟩) (v:=undef) rfl (by kernel_rfl) (by kernel_rfl) (by kernel_rfl) (fun _ _ _ h=>h) (Or.inr ⟨by rfl,rfl⟩) hHeld ?_
 simp only [Act.put,List.setIfInBounds_toArray,List.set_cons_zero,List.set_cons_succ]
 refine wpAnyH_take (i:=7) (oi:=⟨some 12,.call ⟨.value (.func 113),#[.tmp 11],#[71]⟩,29, "mat.go:75",#[⟨6,.data⟩,⟨5,.chain⟩,⟨5,.guard⟩],some (5,true)⟩) (v:=undef) rfl (by kernel_rfl) (by kernel_rfl) (by kernel_rfl) (fun _ _ _ h=>h) (Or.inr ⟨by rfl,rfl⟩) hHeld ?_
 simp only [Act.put,List.setIfInBounds_toArray,List.set_cons_zero,List.set_cons_succ]
 refine wpAnyH_take (i:=8) (oi:=⟨some 13,.load 71 (.tmp 3),71, "mat.go:75",#[⟨5,.guard⟩],some (5,true)⟩) (v:=undef) rfl (by kernel_rfl) (by kernel_rfl) (by kernel_rfl) (fun _ _ _ h=>h) (Or.inr ⟨by rfl,rfl⟩) hHeld ?_
 simp only [Act.put,List.setIfInBounds_toArray,List.set_cons_zero,List.set_cons_succ]
 refine wpAnyH_take (i:=9) (oi:=⟨some 14,.call ⟨.value (.func 113),#[.tmp 13],#[71]⟩,29, "mat.go:75",#[⟨8,.data⟩,⟨7,.chain⟩,⟨5,.guard⟩],some (5,true)⟩) (v:=undef) rfl (by kernel_rfl) (by kernel_rfl) (by kernel_rfl) (fun _ _ _ h=>h) (Or.inr ⟨by rfl,rfl⟩) hHeld ?_
 simp only [Act.put,List.setIfInBounds_toArray,List.set_cons_zero,List.set_cons_succ]
 refine wpAnyH_take (i:=10) (oi:=⟨some 15,.call ⟨.value (.func 55),#[.tmp 12,.tmp 14],#[29,29]⟩,4, "mat.go:75",#[⟨7,.data⟩,⟨9,.data⟩,⟨9,.chain⟩,⟨5,.guard⟩],some (5,true)⟩) (v:=undef) rfl (by kernel_rfl) (by kernel_rfl) (by kernel_rfl) (fun _ _ _ h=>h) (Or.inr ⟨by rfl,rfl⟩) hHeld ?_
 simp only [Act.put,List.setIfInBounds_toArray,List.set_cons_zero,List.set_cons_succ]
 refine wpAnyH_take (i:=11) (oi:=⟨some 16,.pick (.tmp 10) (.tmp 15) (.const (Value.bool false)),4, "mat.go:75",#[⟨5,.data⟩,⟨10,.data⟩],none⟩) (v:=?_) rfl (by kernel_rfl) (by kernel_rfl) (by kernel_rfl) (fun _ _ _ h=>h) (Or.inl ⟨by rfl,?_⟩) hHeld ?_
 rotate_left
 · (intro w hSw;(try dsimp only at hSw);go_simp;try with_reducible rfl)
 simp only [Act.put,List.setIfInBounds_toArray,List.set_cons_zero,List.set_cons_succ]
 refine wpAnyH_take (i:=12) (oi:=⟨some 17,.move (.tmp 16),4, "mat.go:75",#[⟨11,.data⟩,⟨10,.chain⟩],none⟩) (v:=?_) rfl (by kernel_rfl) (by kernel_rfl) (by kernel_rfl) (fun _ _ _ h=>h) (Or.inl ⟨by rfl,?_⟩) hHeld ?_
 rotate_left
 · (intro w hSw;(try dsimp only at hSw);go_simp;try with_reducible rfl)
 simp only [Act.put,List.setIfInBounds_toArray,List.set_cons_zero,List.set_cons_succ]
 refine wpAnyH_take (i:=13) (oi:=⟨some 18,.load 71 (.tmp 2),71, "mat.go:75",#[⟨12,.guard⟩],some (12,true)⟩) (v:=undef) rfl (by kernel_rfl) (by kernel_rfl) (by kernel_rfl) (fun _ _ _ h=>h) (Or.inr ⟨by rfl,rfl⟩) hHeld ?_
 simp only [Act.put,List.setIfInBounds_toArray,List.set_cons_zero,List.set_cons_succ]
 refine wpAnyH_take (i:=14) (oi:=⟨some 19,.call ⟨.value (.func 108),#[.tmp 18],#[71]⟩,29, "mat.go:75",#[⟨13,.data⟩,⟨12,.chain⟩,⟨12,.guard⟩],some (12,true)⟩) (v:=undef) rfl (by kernel_rfl) (by kernel_rfl) (by kernel_rfl) (fun _ _ _ h=>h) (Or.inr ⟨by rfl,rfl⟩) hHeld ?_
 simp only [Act.put,List.setIfInBounds_toArray,List.set_cons_zero,List.set_cons_succ]
 refine wpAnyH_take (i:=15) (oi:=⟨some 20,.load 71 (.tmp 3),71, "mat.go:75",#[⟨12,.guard⟩],some (12,true)⟩) (v:=undef) rfl (by kernel_rfl) (by kernel_rfl) (by kernel_rfl) (fun _ _ _ h=>h) (Or.inr ⟨by rfl,rfl⟩) hHeld ?_
 simp only [Act.put,List.setIfInBounds_toArray,List.set_cons_zero,List.set_cons_succ]
 refine wpAnyH_take (i:=16) (oi:=⟨some 21,.call ⟨.value (.func 108),#[.tmp 20],#[71]⟩,29, "mat.go:75",#[⟨15,.data⟩,⟨14,.chain⟩,⟨12,.guard⟩],some (12,true)⟩) (v:=undef) rfl (by kernel_rfl) (by kernel_rfl) (by kernel_rfl) (fun _ _ _ h=>h) (Or.inr ⟨by rfl,rfl⟩) hHeld ?_
 simp only [Act.put,List.setIfInBounds_toArray,List.set_cons_zero,List.set_cons_succ]
 refine wpAnyH_take (i:=17) (oi:=⟨some 22,.call ⟨.value (.func 55),#[.tmp 19,.tmp 21],#[29,29]⟩,4, "mat.go:75",#[⟨14,.data⟩,⟨16,.data⟩,⟨16,.chain⟩,⟨12,.guard⟩],some (12,true)⟩) (v:=undef) rfl (by kernel_rfl) (by kernel_rfl) (by kernel_rfl) (fun _ _ _ h=>h) (Or.inr ⟨by rfl,rfl⟩) hHeld ?_
 simp only [Act.put,List.setIfInBounds_toArray,List.set_cons_zero,List.set_cons_succ]
 refine wpAnyH_take (i:=18) (oi:=⟨some 23,.pick (.tmp 17) (.tmp 22) (.const (Value.bool false)),4, "mat.go:75",#[⟨12,.data⟩,⟨17,.data⟩],none⟩) (v:=?_) rfl (by kernel_rfl) (by kernel_rfl) (by kernel_rfl) (fun _ _ _ h=>h) (Or.inl ⟨by rfl,?_⟩) hHeld ?_
 rotate_left
 · (intro w hSw;(try dsimp only at hSw);go_simp;try with_reducible rfl)
 simp only [Act.put,List.setIfInBounds_toArray,List.set_cons_zero,List.set_cons_succ]
 refine wpAnyH_take (i:=19) (oi:=⟨some 4,.assign (.tmp 23),4, "mat.go:75",#[⟨18,.data⟩,⟨17,.chain⟩,⟨0,.phase⟩,⟨1,.phase⟩,⟨2,.phase⟩,⟨3,.phase⟩,⟨4,.phase⟩,⟨5,.phase⟩,⟨6,.phase⟩,⟨7,.phase⟩,⟨8,.phase⟩,⟨9,.phase⟩,⟨10,.phase⟩,⟨11,.phase⟩,⟨12,.phase⟩,⟨13,.phase⟩,⟨14,.phase⟩,⟨15,.phase⟩,⟨16,.phase⟩,⟨17,.phase⟩,⟨18,.phase⟩],none⟩) (v:=?_) rfl (by kernel_rfl) (by kernel_rfl) (by kernel_rfl) (fun _ _ _ h=>h) (Or.inl ⟨by rfl,?_⟩) hHeld ?_
 rotate_left
 · (intro w hSw;(try dsimp only at hSw);go_simp;try with_reducible rfl)
 simp only [Act.put,List.setIfInBounds_toArray,List.set_cons_zero,List.set_cons_succ]
 refine wpAnyH_done (by kernel_rfl) ?_ _
 go_wp2_with fail
 go_ret;exact ⟨rfl,hb⟩
theorem msame_f2 {k l k2 l2:Nat} {v u:AM} {m n:MV} (M:MR w m v k l) (N:MR w n u k2 l2) (hk:k≤400) (hk2:k2≤400) (hl:l≤400) (hl2:l2≤400) (h1:1≤k) (h2:1≤k2) (h3:1≤l) (h4:1≤l2) (r1:decide (v.a=u.a∧v.b=u.b)=true) (r2:decide (v.c=u.c∧v.d=u.d)=false) :
 Calls Tryz.prog 48 #[.agg #[.bool m.a.s,.slice m.a.A m.a.n m.a.c,.slice m.a.B m.a.m m.a.d,.bool m.b.s,.slice m.b.A m.b.n m.b.c,.slice m.b.B m.b.m m.b.d,.bool m.c.s,.slice m.c.A m.c.n m.c.c,.slice m.c.B m.c.m m.c.d,.bool m.d.s,.slice m.d.A m.d.n m.d.c,.slice m.d.B m.d.m m.d.d,.bool m.e.s,.slice m.e.A m.e.n m.e.c,.slice m.e.B m.e.m m.e.d,.bool m.f.s,.slice m.f.A m.f.n m.f.c,.slice m.f.B m.f.m m.f.d],.agg #[.bool n.a.s,.slice n.a.A n.a.n n.a.c,.slice n.a.B n.a.m n.a.d,.bool n.b.s,.slice n.b.A n.b.n n.b.c,.slice n.b.B n.b.m n.b.d,.bool n.c.s,.slice n.c.A n.c.n n.c.c,.slice n.c.B n.c.m n.c.d,.bool n.d.s,.slice n.d.A n.d.n n.d.c,.slice n.d.B n.d.m n.d.d,.bool n.e.s,.slice n.e.A n.e.n n.e.c,.slice n.e.B n.e.m n.e.d,.bool n.f.s,.slice n.f.A n.f.n n.f.c,.slice n.f.B n.f.m n.f.d]] w fun e w'=>e=.returned (.bool false)∧Below w.heap.size w w':=by
 have H1:=Lib.hid r1;clear r1;have H2:=Lib.hid r2;clear r2
 go_enter Tryz.func48,Tryz.ntmps48
 go_upto_region 1 with (fail)
 generalize hW:World.alloc _ _=W
 obtain ⟨hb,XA,XB,hzW⟩:=mkbx45_15 hW;clear hW;replace M:=M.below hb;replace N:=N.below hb
 replace M:=M.below (Below.refl _ _).drew
 replace N:=N.below (Below.refl _ _).drew
 replace XA:=XA.below (Below.refl _ _).drew
 replace XB:=XB.below (Below.refl _ _).drew
 replace hb:=hb.drew
 refine wp_region_held_drew (S:=(fun w'=>(LVM ⟨w.heap.size,0,none⟩).run Tryz.prog w'=.ok (.agg #[.bool m.a.s,.slice m.a.A m.a.n m.a.c,.slice m.a.B m.a.m m.a.d,.bool m.b.s,.slice m.b.A m.b.n m.b.c,.slice m.b.B m.b.m m.b.d,.bool m.c.s,.slice m.c.A m.c.n m.c.c,.slice m.c.B m.c.m m.c.d,.bool m.d.s,.slice m.d.A m.d.n m.d.c,.slice m.d.B m.d.m m.d.d,.bool m.e.s,.slice m.e.A m.e.n m.e.c,.slice m.e.B m.e.m m.e.d,.bool m.f.s,.slice m.f.A m.f.n m.f.c,.slice m.f.B m.f.m m.f.d]) w'∧(LVM ⟨w.heap.size+1,0,none⟩).run Tryz.prog w'=.ok (.agg #[.bool n.a.s,.slice n.a.A n.a.n n.a.c,.slice n.a.B n.a.m n.a.d,.bool n.b.s,.slice n.b.A n.b.n n.b.c,.slice n.b.B n.b.m n.b.d,.bool n.c.s,.slice n.c.A n.c.n n.c.c,.slice n.c.B n.c.m n.c.d,.bool n.d.s,.slice n.d.A n.d.n n.d.c,.slice n.d.B n.d.m n.d.d,.bool n.e.s,.slice n.e.A n.e.n n.e.c,.slice n.e.B n.e.m n.e.d,.bool n.f.s,.slice n.f.A n.f.n n.f.c,.slice n.f.B n.f.m n.f.d]) w')) (by kernel_rfl) (by with_reducible exact ⟨XA.ld,XB.ld⟩) (fun hHeld=>?_)
 refine wpAnyH_take (i:=0) (oi:=⟨some 5,.load 71 (.tmp 2),71, "mat.go:75",#[],none⟩) (v:=?_) rfl (by kernel_rfl) (by kernel_rfl) (by kernel_rfl) (fun _ _ _ h=>h) (Or.inl ⟨by rfl,?_⟩) hHeld ?_
 rotate_left
 · (intro w hSw;(try dsimp only at hSw);go_simp;try with_reducible rfl)
 simp only [Act.put,List.setIfInBounds_toArray,List.set_cons_zero,List.set_cons_succ]
 refine wpAnyH_take (i:=2) (oi:=⟨some 7,.load 71 (.tmp 3),71, "mat.go:75",#[],none⟩) (v:=?_) rfl (by kernel_rfl) (by kernel_rfl) (by kernel_rfl) (fun _ _ _ h=>h) (Or.inl ⟨by rfl,?_⟩) hHeld ?_
 rotate_left
 · (intro w hSw;(try dsimp only at hSw);go_simp;try with_reducible rfl)
 simp only [Act.put,List.setIfInBounds_toArray,List.set_cons_zero,List.set_cons_succ]
 refine wpAnyH_ready (rs:=[1]) (by kernel_rfl) (by simp) ?_
 refine AllReadyH.cons (o:=⟨some 6,.call ⟨.value (.func 112),#[.tmp 5],#[71]⟩,29, "mat.go:75",#[⟨0,.data⟩],none⟩) rfl (fun K1 hK1=>?_) AllReadyH.nil
 go_simp
 first
  | (go_at_call 112;(with_reducible refine (mfirst_any).mono ?_);rintro e w_z ⟨rfl,hh⟩
     (try replace M:=M.below hh);(try replace N:=N.below hh);(try replace XA:=XA.below hh);(try replace XB:=XB.below hh);replace hb:=bend hb hh)
  | (go_at_call 113;(with_reducible refine (msecond_any).mono ?_);rintro e w_z ⟨rfl,hh⟩
     (try replace M:=M.below hh);(try replace N:=N.below hh);(try replace XA:=XA.below hh);(try replace XB:=XB.below hh);replace hb:=bend hb hh)
  | (go_at_call 108;(with_reducible refine (mmoved_any).mono ?_);rintro e w_z ⟨rfl,hh⟩
     (try replace M:=M.below hh);(try replace N:=N.below hh);(try replace XA:=XA.below hh);(try replace XB:=XB.below hh);replace hb:=bend hb hh)
  | (go_at_call 55;(with_reducible refine (psame_p M.ab N.ab hk hk2 h1 h2 true H1.out).mono ?_);rintro e w_z ⟨rfl,hh⟩
     (try replace M:=M.below hh);(try replace N:=N.below hh);(try replace XA:=XA.below hh);(try replace XB:=XB.below hh);replace hb:=bend hb hh)
  | (go_at_call 55;(with_reducible refine (psame_p M.cd N.cd hk hk2 h1 h2 false H2.out).mono ?_);rintro e w_z ⟨rfl,hh⟩
     (try replace M:=M.below hh);(try replace N:=N.below hh);(try replace XA:=XA.below hh);(try replace XB:=XB.below hh);replace hb:=bend hb hh)
 refine hK1.out _ _ (by with_reducible exact ⟨XA.ld,XB.ld⟩) (fun hHeld=>?_)
 clear hK1 K1
 refine wpAnyH_ready (rs:=[3]) (by kernel_rfl) (by simp) ?_
 refine AllReadyH.cons (o:=⟨some 8,.call ⟨.value (.func 112),#[.tmp 7],#[71]⟩,29, "mat.go:75",#[⟨2,.data⟩,⟨1,.chain⟩],none⟩) rfl (fun K1 hK1=>?_) AllReadyH.nil
 go_simp
 first
  | (go_at_call 112;(with_reducible refine (mfirst_any).mono ?_);rintro e w_z ⟨rfl,hh⟩
     (try replace M:=M.below hh);(try replace N:=N.below hh);(try replace XA:=XA.below hh);(try replace XB:=XB.below hh);replace hb:=bend hb hh)
  | (go_at_call 113;(with_reducible refine (msecond_any).mono ?_);rintro e w_z ⟨rfl,hh⟩
     (try replace M:=M.below hh);(try replace N:=N.below hh);(try replace XA:=XA.below hh);(try replace XB:=XB.below hh);replace hb:=bend hb hh)
  | (go_at_call 108;(with_reducible refine (mmoved_any).mono ?_);rintro e w_z ⟨rfl,hh⟩
     (try replace M:=M.below hh);(try replace N:=N.below hh);(try replace XA:=XA.below hh);(try replace XB:=XB.below hh);replace hb:=bend hb hh)
  | (go_at_call 55;(with_reducible refine (psame_p M.ab N.ab hk hk2 h1 h2 true H1.out).mono ?_);rintro e w_z ⟨rfl,hh⟩
     (try replace M:=M.below hh);(try replace N:=N.below hh);(try replace XA:=XA.below hh);(try replace XB:=XB.below hh);replace hb:=bend hb hh)
  | (go_at_call 55;(with_reducible refine (psame_p M.cd N.cd hk hk2 h1 h2 false H2.out).mono ?_);rintro e w_z ⟨rfl,hh⟩
     (try replace M:=M.below hh);(try replace N:=N.below hh);(try replace XA:=XA.below hh);(try replace XB:=XB.below hh);replace hb:=bend hb hh)
 refine hK1.out _ _ (by with_reducible exact ⟨XA.ld,XB.ld⟩) (fun hHeld=>?_)
 clear hK1 K1
 refine wpAnyH_ready (rs:=[4]) (by kernel_rfl) (by simp) ?_
 refine AllReadyH.cons (o:=⟨some 9,.call ⟨.value (.func 55),#[.tmp 6,.tmp 8],#[29,29]⟩,4, "mat.go:75",#[⟨1,.data⟩,⟨3,.data⟩,⟨3,.chain⟩],none⟩) rfl (fun K1 hK1=>?_) AllReadyH.nil
 go_simp
 first
  | (go_at_call 112;(with_reducible refine (mfirst_any).mono ?_);rintro e w_z ⟨rfl,hh⟩
     (try replace M:=M.below hh);(try replace N:=N.below hh);(try replace XA:=XA.below hh);(try replace XB:=XB.below hh);replace hb:=bend hb hh)
  | (go_at_call 113;(with_reducible refine (msecond_any).mono ?_);rintro e w_z ⟨rfl,hh⟩
     (try replace M:=M.below hh);(try replace N:=N.below hh);(try replace XA:=XA.below hh);(try replace XB:=XB.below hh);replace hb:=bend hb hh)
  | (go_at_call 108;(with_reducible refine (mmoved_any).mono ?_);rintro e w_z ⟨rfl,hh⟩
     (try replace M:=M.below hh);(try replace N:=N.below hh);(try replace XA:=XA.below hh);(try replace XB:=XB.below hh);replace hb:=bend hb hh)
  | (go_at_call 55;(with_reducible refine (psame_p M.ab N.ab hk hk2 h1 h2 true H1.out).mono ?_);rintro e w_z ⟨rfl,hh⟩
     (try replace M:=M.below hh);(try replace N:=N.below hh);(try replace XA:=XA.below hh);(try replace XB:=XB.below hh);replace hb:=bend hb hh)
  | (go_at_call 55;(with_reducible refine (psame_p M.cd N.cd hk hk2 h1 h2 false H2.out).mono ?_);rintro e w_z ⟨rfl,hh⟩
     (try replace M:=M.below hh);(try replace N:=N.below hh);(try replace XA:=XA.below hh);(try replace XB:=XB.below hh);replace hb:=bend hb hh)
 refine hK1.out _ _ (by with_reducible exact ⟨XA.ld,XB.ld⟩) (fun hHeld=>?_)
 clear hK1 K1
 refine wpAnyH_take (i:=5) (oi:=⟨some 10,.move (.tmp 9),4, "mat.go:75",#[⟨4,.data⟩,⟨4,.chain⟩],none⟩) (v:=?_) rfl (by kernel_rfl) (by kernel_rfl) (by kernel_rfl) (fun _ _ _ h=>h) (Or.inl ⟨by rfl,?_⟩) hHeld ?_
 rotate_left
 · (intro w hSw;(try dsimp only at hSw);go_simp;try with_reducible rfl)
 simp only [Act.put,List.setIfInBounds_toArray,List.set_cons_zero,List.set_cons_succ]
 refine wpAnyH_take (i:=6) (oi:=⟨some 11,.load 71 (.tmp 2),71, "mat.go:75",#[⟨5,.guard⟩],some (5,true)⟩) (v:=?_) rfl (by kernel_rfl) (by kernel_rfl) (by kernel_rfl) (fun _ _ _ h=>h) (Or.inl ⟨by rfl,?_⟩) hHeld ?_
 rotate_left
 · (intro w hSw;(try dsimp only at hSw);go_simp;try with_reducible rfl)
 simp only [Act.put,List.setIfInBounds_toArray,List.set_cons_zero,List.set_cons_succ]
 refine wpAnyH_take (i:=8) (oi:=⟨some 13,.load 71 (.tmp 3),71, "mat.go:75",#[⟨5,.guard⟩],some (5,true)⟩) (v:=?_) rfl (by kernel_rfl) (by kernel_rfl) (by kernel_rfl) (fun _ _ _ h=>h) (Or.inl ⟨by rfl,?_⟩) hHeld ?_
 rotate_left
 · (intro w hSw;(try dsimp only at hSw);go_simp;try with_reducible rfl)
 simp only [Act.put,List.setIfInBounds_toArray,List.set_cons_zero,List.set_cons_succ]
 refine wpAnyH_ready (rs:=[7]) (by kernel_rfl) (by simp) ?_
 refine AllReadyH.cons (o:=⟨some 12,.call ⟨.value (.func 113),#[.tmp 11],#[71]⟩,29, "mat.go:75",#[⟨6,.data⟩,⟨5,.chain⟩,⟨5,.guard⟩],some (5,true)⟩) rfl (fun K1 hK1=>?_) AllReadyH.nil
 go_simp
 first
  | (go_at_call 112;(with_reducible refine (mfirst_any).mono ?_);rintro e w_z ⟨rfl,hh⟩
     (try replace M:=M.below hh);(try replace N:=N.below hh);(try replace XA:=XA.below hh);(try replace XB:=XB.below hh);replace hb:=bend hb hh)
  | (go_at_call 113;(with_reducible refine (msecond_any).mono ?_);rintro e w_z ⟨rfl,hh⟩
     (try replace M:=M.below hh);(try replace N:=N.below hh);(try replace XA:=XA.below hh);(try replace XB:=XB.below hh);replace hb:=bend hb hh)
  | (go_at_call 108;(with_reducible refine (mmoved_any).mono ?_);rintro e w_z ⟨rfl,hh⟩
     (try replace M:=M.below hh);(try replace N:=N.below hh);(try replace XA:=XA.below hh);(try replace XB:=XB.below hh);replace hb:=bend hb hh)
  | (go_at_call 55;(with_reducible refine (psame_p M.ab N.ab hk hk2 h1 h2 true H1.out).mono ?_);rintro e w_z ⟨rfl,hh⟩
     (try replace M:=M.below hh);(try replace N:=N.below hh);(try replace XA:=XA.below hh);(try replace XB:=XB.below hh);replace hb:=bend hb hh)
  | (go_at_call 55;(with_reducible refine (psame_p M.cd N.cd hk hk2 h1 h2 false H2.out).mono ?_);rintro e w_z ⟨rfl,hh⟩
     (try replace M:=M.below hh);(try replace N:=N.below hh);(try replace XA:=XA.below hh);(try replace XB:=XB.below hh);replace hb:=bend hb hh)
 refine hK1.out _ _ (by with_reducible exact ⟨XA.ld,XB.ld⟩) (fun hHeld=>?_)
 clear hK1 K1
 refine wpAnyH_ready (rs:=[9]) (by kernel_rfl) (by simp) ?_
 refine AllReadyH.cons (o:=⟨some 14,.call ⟨.value (.func 113),#[.tmp 13],#[71]⟩,29, "mat.go:75",#[⟨8,.data⟩,⟨7,.chain⟩,⟨5,.guard⟩],some (5,true)⟩) rfl (fun K1 hK1=>?_) AllReadyH.nil
 go_simp
 first
  | (go_at_call 112;(with_reducible refine (mfirst_any).mono ?_);rintro e w_z ⟨rfl,hh⟩
     (try replace M:=M.below hh);(try replace N:=N.below hh);(try replace XA:=XA.below hh);(try replace XB:=XB.below hh);replace hb:=bend hb hh)
  | (go_at_call 113;(with_reducible refine (msecond_any).mono ?_);rintro e w_z ⟨rfl,hh⟩
     (try replace M:=M.below hh);(try replace N:=N.below hh);(try replace XA:=XA.below hh);(try replace XB:=XB.below hh);replace hb:=bend hb hh)
  | (go_at_call 108;(with_reducible refine (mmoved_any).mono ?_);rintro e w_z ⟨rfl,hh⟩
     (try replace M:=M.below hh);(try replace N:=N.below hh);(try replace XA:=XA.below hh);(try replace XB:=XB.below hh);replace hb:=bend hb hh)
  | (go_at_call 55;(with_reducible refine (psame_p M.ab N.ab hk hk2 h1 h2 true H1.out).mono ?_);rintro e w_z ⟨rfl,hh⟩
     (try replace M:=M.below hh);(try replace N:=N.below hh);(try replace XA:=XA.below hh);(try replace XB:=XB.below hh);replace hb:=bend hb hh)
  | (go_at_call 55;(with_reducible refine (psame_p M.cd N.cd hk hk2 h1 h2 false H2.out).mono ?_);rintro e w_z ⟨rfl,hh⟩
     (try replace M:=M.below hh);(try replace N:=N.below hh);(try replace XA:=XA.below hh);(try replace XB:=XB.below hh);replace hb:=bend hb hh)
 refine hK1.out _ _ (by with_reducible exact ⟨XA.ld,XB.ld⟩) (fun hHeld=>?_)
 clear hK1 K1
 refine wpAnyH_ready (rs:=[10]) (by kernel_rfl) (by simp) ?_
 refine AllReadyH.cons (o:=⟨some 15,.call ⟨.value (.func 55),#[.tmp 12,.tmp 14],#[29,29]⟩,4, "mat.go:75",#[⟨7,.data⟩,⟨9,.data⟩,⟨9,.chain⟩,⟨5,.guard⟩],some (5,true)⟩) rfl (fun K1 hK1=>?_) AllReadyH.nil
 go_simp
 first
  | (go_at_call 112;(with_reducible refine (mfirst_any).mono ?_);rintro e w_z ⟨rfl,hh⟩
     (try replace M:=M.below hh);(try replace N:=N.below hh);(try replace XA:=XA.below hh);(try replace XB:=XB.below hh);replace hb:=bend hb hh)
  | (go_at_call 113;(with_reducible refine (msecond_any).mono ?_);rintro e w_z ⟨rfl,hh⟩
     (try replace M:=M.below hh);(try replace N:=N.below hh);(try replace XA:=XA.below hh);(try replace XB:=XB.below hh);replace hb:=bend hb hh)
  | (go_at_call 108;(with_reducible refine (mmoved_any).mono ?_);rintro e w_z ⟨rfl,hh⟩
     (try replace M:=M.below hh);(try replace N:=N.below hh);(try replace XA:=XA.below hh);(try replace XB:=XB.below hh);replace hb:=bend hb hh)
  | (go_at_call 55;(with_reducible refine (psame_p M.ab N.ab hk hk2 h1 h2 true H1.out).mono ?_);rintro e w_z ⟨rfl,hh⟩
     (try replace M:=M.below hh);(try replace N:=N.below hh);(try replace XA:=XA.below hh);(try replace XB:=XB.below hh);replace hb:=bend hb hh)
  | (go_at_call 55;(with_reducible refine (psame_p M.cd N.cd hk hk2 h1 h2 false H2.out).mono ?_);rintro e w_z ⟨rfl,hh⟩
     (try replace M:=M.below hh);(try replace N:=N.below hh);(try replace XA:=XA.below hh);(try replace XB:=XB.below hh);replace hb:=bend hb hh)
 refine hK1.out _ _ (by with_reducible exact ⟨XA.ld,XB.ld⟩) (fun hHeld=>?_)
 clear hK1 K1
 refine wpAnyH_take (i:=11) (oi:=⟨some 16,.pick (.tmp 10) (.tmp 15) (.const (Value.bool false)),4, "mat.go:75",#[⟨5,.data⟩,⟨10,.data⟩],none⟩) (v:=?_) rfl (by kernel_rfl) (by kernel_rfl) (by kernel_rfl) (fun _ _ _ h=>h) (Or.inl ⟨by rfl,?_⟩) hHeld ?_
 rotate_left
 · (intro w hSw;(try dsimp only at hSw);go_simp;try with_reducible rfl)
 simp only [Act.put,List.setIfInBounds_toArray,List.set_cons_zero,List.set_cons_succ]
 refine wpAnyH_take (i:=12) (oi:=⟨some 17,.move (.tmp 16),4, "mat.go:75",#[⟨11,.data⟩,⟨10,.chain⟩],none⟩) (v:=?_) rfl (by kernel_rfl) (by kernel_rfl) (by kernel_rfl) (fun _ _ _ h=>h) (Or.inl ⟨by rfl,?_⟩) hHeld ?_
 rotate_left
 · (intro w hSw;(try dsimp only at hSw);go_simp;try with_reducible rfl)
 simp only [Act.put,List.setIfInBounds_toArray,List.set_cons_zero,List.set_cons_succ]
 refine wpAnyH_take (i:=13) (oi:=⟨some 18,.load 71 (.tmp 2),71, "mat.go:75",#[⟨12,.guard⟩],some (12,true)⟩) (v:=undef) rfl (by kernel_rfl) (by kernel_rfl) (by kernel_rfl) (fun _ _ _ h=>h) (Or.inr ⟨by rfl,rfl⟩) hHeld ?_
 simp only [Act.put,List.setIfInBounds_toArray,List.set_cons_zero,List.set_cons_succ]
 refine wpAnyH_take (i:=14) (oi:=⟨some 19,.call ⟨.value (.func 108),#[.tmp 18],#[71]⟩,29, "mat.go:75",#[⟨13,.data⟩,⟨12,.chain⟩,⟨12,.guard⟩],some (12,true)⟩) (v:=undef) rfl (by kernel_rfl) (by kernel_rfl) (by kernel_rfl) (fun _ _ _ h=>h) (Or.inr ⟨by rfl,rfl⟩) hHeld ?_
 simp only [Act.put,List.setIfInBounds_toArray,List.set_cons_zero,List.set_cons_succ]
 refine wpAnyH_take (i:=15) (oi:=⟨some 20,.load 71 (.tmp 3),71, "mat.go:75",#[⟨12,.guard⟩],some (12,true)⟩) (v:=undef) rfl (by kernel_rfl) (by kernel_rfl) (by kernel_rfl) (fun _ _ _ h=>h) (Or.inr ⟨by rfl,rfl⟩) hHeld ?_
 simp only [Act.put,List.setIfInBounds_toArray,List.set_cons_zero,List.set_cons_succ]
 refine wpAnyH_take (i:=16) (oi:=⟨some 21,.call ⟨.value (.func 108),#[.tmp 20],#[71]⟩,29, "mat.go:75",#[⟨15,.data⟩,⟨14,.chain⟩,⟨12,.guard⟩],some (12,true)⟩) (v:=undef) rfl (by kernel_rfl) (by kernel_rfl) (by kernel_rfl) (fun _ _ _ h=>h) (Or.inr ⟨by rfl,rfl⟩) hHeld ?_
 simp only [Act.put,List.setIfInBounds_toArray,List.set_cons_zero,List.set_cons_succ]
 refine wpAnyH_take (i:=17) (oi:=⟨some 22,.call ⟨.value (.func 55),#[.tmp 19,.tmp 21],#[29,29]⟩,4, "mat.go:75",#[⟨14,.data⟩,⟨16,.data⟩,⟨16,.chain⟩,⟨12,.guard⟩],some (12,true)⟩) (v:=undef) rfl (by kernel_rfl) (by kernel_rfl) (by kernel_rfl) (fun _ _ _ h=>h) (Or.inr ⟨by rfl,rfl⟩) hHeld ?_
 simp only [Act.put,List.setIfInBounds_toArray,List.set_cons_zero,List.set_cons_succ]
 refine wpAnyH_take (i:=18) (oi:=⟨some 23,.pick (.tmp 17) (.tmp 22) (.const (Value.bool false)),4, "mat.go:75",#[⟨12,.data⟩,⟨17,.data⟩],none⟩) (v:=?_) rfl (by kernel_rfl) (by kernel_rfl) (by kernel_rfl) (fun _ _ _ h=>h) (Or.inl ⟨by rfl,?_⟩) hHeld ?_
 rotate_left
 · (intro w hSw;(try dsimp only at hSw);go_simp;try with_reducible rfl)
 simp only [Act.put,List.setIfInBounds_toArray,List.set_cons_zero,List.set_cons_succ]
 refine wpAnyH_take (i:=19) (oi:=⟨some 4,.assign (.tmp 23),4, "mat.go:75",#[⟨18,.data⟩,⟨17,.chain⟩,⟨0,.phase⟩,⟨1,.phase⟩,⟨2,.phase⟩,⟨3,.phase⟩,⟨4,.phase⟩,⟨5,.phase⟩,⟨6,.phase⟩,⟨7,.phase⟩,⟨8,.phase⟩,⟨9,.phase⟩,⟨10,.phase⟩,⟨11,.phase⟩,⟨12,.phase⟩,⟨13,.phase⟩,⟨14,.phase⟩,⟨15,.phase⟩,⟨16,.phase⟩,⟨17,.phase⟩,⟨18,.phase⟩],none⟩) (v:=?_) rfl (by kernel_rfl) (by kernel_rfl) (by kernel_rfl) (fun _ _ _ h=>h) (Or.inl ⟨by rfl,?_⟩) hHeld ?_
 rotate_left
 · (intro w hSw;(try dsimp only at hSw);go_simp;try with_reducible rfl)
 simp only [Act.put,List.setIfInBounds_toArray,List.set_cons_zero,List.set_cons_succ]
 refine wpAnyH_done (by kernel_rfl) ?_ _
 go_wp2_with fail
 go_ret;exact ⟨rfl,hb⟩
theorem msame_t {k l k2 l2:Nat} {v u:AM} {m n:MV} (M:MR w m v k l) (N:MR w n u k2 l2) (hk:k≤400) (hk2:k2≤400) (hl:l≤400) (hl2:l2≤400) (h1:1≤k) (h2:1≤k2) (h3:1≤l) (h4:1≤l2) (r1:decide (v.a=u.a∧v.b=u.b)=true) (r2:decide (v.c=u.c∧v.d=u.d)=true) (R:Bool) (r3:decide (v.e=u.e∧v.f=u.f)=R) :
 Calls Tryz.prog 48 #[.agg #[.bool m.a.s,.slice m.a.A m.a.n m.a.c,.slice m.a.B m.a.m m.a.d,.bool m.b.s,.slice m.b.A m.b.n m.b.c,.slice m.b.B m.b.m m.b.d,.bool m.c.s,.slice m.c.A m.c.n m.c.c,.slice m.c.B m.c.m m.c.d,.bool m.d.s,.slice m.d.A m.d.n m.d.c,.slice m.d.B m.d.m m.d.d,.bool m.e.s,.slice m.e.A m.e.n m.e.c,.slice m.e.B m.e.m m.e.d,.bool m.f.s,.slice m.f.A m.f.n m.f.c,.slice m.f.B m.f.m m.f.d],.agg #[.bool n.a.s,.slice n.a.A n.a.n n.a.c,.slice n.a.B n.a.m n.a.d,.bool n.b.s,.slice n.b.A n.b.n n.b.c,.slice n.b.B n.b.m n.b.d,.bool n.c.s,.slice n.c.A n.c.n n.c.c,.slice n.c.B n.c.m n.c.d,.bool n.d.s,.slice n.d.A n.d.n n.d.c,.slice n.d.B n.d.m n.d.d,.bool n.e.s,.slice n.e.A n.e.n n.e.c,.slice n.e.B n.e.m n.e.d,.bool n.f.s,.slice n.f.A n.f.n n.f.c,.slice n.f.B n.f.m n.f.d]] w fun e w'=>e=.returned (.bool R)∧Below w.heap.size w w':=by
 have H1:=Lib.hid r1;clear r1;have H2:=Lib.hid r2;clear r2;have H3:=Lib.hid r3;clear r3
 go_enter Tryz.func48,Tryz.ntmps48
 go_upto_region 1 with (fail)
 generalize hW:World.alloc _ _=W
 obtain ⟨hb,XA,XB,hzW⟩:=mkbx45_15 hW;clear hW;replace M:=M.below hb;replace N:=N.below hb
 replace M:=M.below (Below.refl _ _).drew
 replace N:=N.below (Below.refl _ _).drew
 replace XA:=XA.below (Below.refl _ _).drew
 replace XB:=XB.below (Below.refl _ _).drew
 replace hb:=hb.drew
 go_region_held3 (fun w'=>(LVM ⟨w.heap.size,0,none⟩).run Tryz.prog w'=.ok (.agg #[.bool m.a.s,.slice m.a.A m.a.n m.a.c,.slice m.a.B m.a.m m.a.d,.bool m.b.s,.slice m.b.A m.b.n m.b.c,.slice m.b.B m.b.m m.b.d,.bool m.c.s,.slice m.c.A m.c.n m.c.c,.slice m.c.B m.c.m m.c.d,.bool m.d.s,.slice m.d.A m.d.n m.d.c,.slice m.d.B m.d.m m.d.d,.bool m.e.s,.slice m.e.A m.e.n m.e.c,.slice m.e.B m.e.m m.e.d,.bool m.f.s,.slice m.f.A m.f.n m.f.c,.slice m.f.B m.f.m m.f.d]) w'∧(LVM ⟨w.heap.size+1,0,none⟩).run Tryz.prog w'=.ok (.agg #[.bool n.a.s,.slice n.a.A n.a.n n.a.c,.slice n.a.B n.a.m n.a.d,.bool n.b.s,.slice n.b.A n.b.n n.b.c,.slice n.b.B n.b.m n.b.d,.bool n.c.s,.slice n.c.A n.c.n n.c.c,.slice n.c.B n.c.m n.c.d,.bool n.d.s,.slice n.d.A n.d.n n.d.c,.slice n.d.B n.d.m n.d.d,.bool n.e.s,.slice n.e.A n.e.n n.e.c,.slice n.e.B n.e.m n.e.d,.bool n.f.s,.slice n.f.A n.f.n n.f.c,.slice n.f.B n.f.m n.f.d]) w')
  (first | with_reducible exact ⟨XA.ld,XB.ld⟩)
  (first
  | (go_at_call 112;(with_reducible refine (mfirst_any).mono ?_);rintro e w_z ⟨rfl,hh⟩
     (try replace M:=M.below hh);(try replace N:=N.below hh);(try replace XA:=XA.below hh);(try replace XB:=XB.below hh);replace hb:=bend hb hh)
  | (go_at_call 113;(with_reducible refine (msecond_any).mono ?_);rintro e w_z ⟨rfl,hh⟩
     (try replace M:=M.below hh);(try replace N:=N.below hh);(try replace XA:=XA.below hh);(try replace XB:=XB.below hh);replace hb:=bend hb hh)
  | (go_at_call 108;(with_reducible refine (mmoved_any).mono ?_);rintro e w_z ⟨rfl,hh⟩
     (try replace M:=M.below hh);(try replace N:=N.below hh);(try replace XA:=XA.below hh);(try replace XB:=XB.below hh);replace hb:=bend hb hh)
  | (go_at_call 55;(with_reducible refine (psame_p M.ab N.ab hk hk2 h1 h2 true H1.out).mono ?_);rintro e w_z ⟨rfl,hh⟩
     (try replace M:=M.below hh);(try replace N:=N.below hh);(try replace XA:=XA.below hh);(try replace XB:=XB.below hh);replace hb:=bend hb hh)
  | (go_at_call 55;(with_reducible refine (psame_p M.cd N.cd hk hk2 h1 h2 true H2.out).mono ?_);rintro e w_z ⟨rfl,hh⟩
     (try replace M:=M.below hh);(try replace N:=N.below hh);(try replace XA:=XA.below hh);(try replace XB:=XB.below hh);replace hb:=bend hb hh)
  | (go_at_call 55;(with_reducible refine (psame_p M.ef N.ef hl hl2 h3 h4 R H3.out).mono ?_);rintro e w_z ⟨rfl,hh⟩
     (try replace M:=M.below hh);(try replace N:=N.below hh);(try replace XA:=XA.below hh);(try replace XB:=XB.below hh);replace hb:=bend hb hh))
 go_wp2_with fail
 go_ret;exact ⟨rfl,hb⟩
theorem msame_p {k l k2 l2:Nat} {v u:AM} {m n:MV} (M:MR w m v k l) (N:MR w n u k2 l2) (hk:k≤400) (hk2:k2≤400) (hl:l≤400) (hl2:l2≤400) (h1:1≤k) (h2:1≤k2) (h3:1≤l) (h4:1≤l2) (R:Bool) (hR:v.same u=R) :
 Calls Tryz.prog 48 #[.agg #[.bool m.a.s,.slice m.a.A m.a.n m.a.c,.slice m.a.B m.a.m m.a.d,.bool m.b.s,.slice m.b.A m.b.n m.b.c,.slice m.b.B m.b.m m.b.d,.bool m.c.s,.slice m.c.A m.c.n m.c.c,.slice m.c.B m.c.m m.c.d,.bool m.d.s,.slice m.d.A m.d.n m.d.c,.slice m.d.B m.d.m m.d.d,.bool m.e.s,.slice m.e.A m.e.n m.e.c,.slice m.e.B m.e.m m.e.d,.bool m.f.s,.slice m.f.A m.f.n m.f.c,.slice m.f.B m.f.m m.f.d],.agg #[.bool n.a.s,.slice n.a.A n.a.n n.a.c,.slice n.a.B n.a.m n.a.d,.bool n.b.s,.slice n.b.A n.b.n n.b.c,.slice n.b.B n.b.m n.b.d,.bool n.c.s,.slice n.c.A n.c.n n.c.c,.slice n.c.B n.c.m n.c.d,.bool n.d.s,.slice n.d.A n.d.n n.d.c,.slice n.d.B n.d.m n.d.d,.bool n.e.s,.slice n.e.A n.e.n n.e.c,.slice n.e.B n.e.m n.e.d,.bool n.f.s,.slice n.f.A n.f.n n.f.c,.slice n.f.B n.f.m n.f.d]] w fun e w'=>e=.returned (.bool R)∧Below w.heap.size w w':=by
 subst hR
 unfold AM.same
 cases r1:v.sab u with
 | false=>exact msame_f1 M N hk hk2 hl hl2 h1 h2 h3 h4 r1
 | true =>
   cases r2:v.scd u with
   | false=>exact msame_f2 M N hk hk2 hl hl2 h1 h2 h3 h4 r1 r2
   | true=>exact msame_t M N hk hk2 hl hl2 h1 h2 h3 h4 r1 r2 _ rfl
theorem mkbx46_15 {w W:World} {x0 x1 x2 x3 x4 x5 x6 x7 x8 x9 x10 x11 x12 x13 x14 x15 x16 x17 x18 x19 x20 x21 x22 x23 x24 x25 x26 x27 x28 x29 x30 x31 x32 x33 x34 x35:Value} (h:((w.alloc (Obj.cells #[x0,x1,x2,x3,x4,x5,x6,x7,x8,x9,x10,x11,x12,x13,x14,x15,x16,x17] 71)).alloc (Obj.cells #[x18,x19,x20,x21,x22,x23,x24,x25,x26,x27,x28,x29,x30,x31,x32,x33,x34,x35] 29))=W):Below w.heap.size w W∧B18 W (w.heap.size) x0 x1 x2 x3 x4 x5 x6 x7 x8 x9 x10 x11 x12 x13 x14 x15 x16 x17∧BL3 W (w.heap.size+1) x18 x19 x20 x21 x22 x23 x24 x25 x26 x27 x28 x29 x30 x31 x32 x33 x34 x35∧W.heap.size=w.heap.size+2:=by subst h;exact ⟨by exact (((Below.refl _ _).alloc (Nat.le_refl _) _).alloc (by simp) _),by exact (B18.new' _ _ _ _ _ _ _ _ _ _ _ _ _ _ _ _ _ _ _ _ rfl).alloc _,by exact BL3.new' _ _ _ _ _ _ _ _ _ _ _ _ _ _ _ _ _ _ _ _ (by simp),by simp⟩
theorem fairM {m:MV} (R:Bool) (hR:decide ((((m.a.n≤6∧m.a.m≤6)∧m.b.n≤6∧m.b.m≤6))∧(((m.c.n≤6∧m.c.m≤6)∧m.d.n≤6∧m.d.m≤6))∧(((m.e.n≤6∧m.e.m≤6)∧m.f.n≤6∧m.f.m≤6)))=R) :
 Calls Tryz.prog 35 #[.agg #[.bool m.a.s,.slice m.a.A m.a.n m.a.c,.slice m.a.B m.a.m m.a.d,.bool m.b.s,.slice m.b.A m.b.n m.b.c,.slice m.b.B m.b.m m.b.d,.bool m.c.s,.slice m.c.A m.c.n m.c.c,.slice m.c.B m.c.m m.c.d,.bool m.d.s,.slice m.d.A m.d.n m.d.c,.slice m.d.B m.d.m m.d.d,.bool m.e.s,.slice m.e.A m.e.n m.e.c,.slice m.e.B m.e.m m.e.d,.bool m.f.s,.slice m.f.A m.f.n m.f.c,.slice m.f.B m.f.m m.f.d]] w fun e w'=>e=.returned (.bool R)∧Below w.heap.size w w':=by
 have HR:=Lib.hid hR;clear hR
 go_enter Tryz.func35,Tryz.ntmps35
 go_wp2_with fail
 generalize hW:World.alloc _ _=W
 obtain ⟨hb,XA,XL,hzW⟩:=mkbx46_15 hW;clear hW
 go_wp2_with (first
  | (go_at_call 11;(with_reducible refine (fair3 XL R HR.out).mono ?_);rintro e w_z ⟨rfl,hh⟩
     replace hb:=bend hb hh))
 go_ret;exact ⟨rfl,hb⟩
end
section
open Go Go.RowKit
structure PV where
 s:Bool
 A:Option Addr
 n:Nat
 c:Nat
 B:Option Addr
 m:Nat
 d:Nat
 t:Bool
 E:Option Addr
 i:Nat
 e:Nat
 F:Option Addr
 j:Nat
 f:Nat
def PV.cells (p:PV):List Value:=[.bool p.s,.slice p.A p.n p.c,.slice p.B p.m p.d,.bool p.t,.slice p.E p.i p.e,.slice p.F p.j p.f]
def PV.PG (w:World) (p:PV) (u:Rat × Rat) (k:Nat):Prop:=Go.Proofs.YtgneghgfpkkkdaaGreat.PG w p.s p.A p.n p.c p.B p.m p.d p.t p.E p.i p.e p.F p.j p.f u.1 u.2 k
def PV.PR (w:World) (p:PV) (u:Rat × Rat) (k:Nat):Prop:=Go.Proofs.YtgneghgfpkkkdaaGreat.PR w p.s p.A p.n p.c p.B p.m p.d p.t p.E p.i p.e p.F p.j p.f u.1 u.2 k
def PV.RP (w:World) (p:PV) (u:Rat × Rat) (k:Nat):Prop:=Go.Proofs.YtgneghgfpkkkdaaGreat.RP w p.s p.A p.n p.c p.B p.m p.d p.t p.E p.i p.e p.F p.j p.f u.1 u.2 k
def pvs (L:List PV):List Value:=L.flatMap PV.cells
theorem pvs_cons (p:PV) (L:List PV):pvs (p :: L)=p.cells ++ pvs L:=List.flatMap_cons
theorem pvs_get {L:List PV} {i:Nat} {p:PV} (h:L[i]?=some p) {j:Nat} (hj:j < 6):(pvs L)[i*6+j]?=p.cells[j]?:=by
 induction L generalizing i with
 | nil=>cases h
 | cons q L ih =>
   rw [pvs_cons]
   match i with
   | 0 =>
     obtain rfl:q=p:=by simpa using h
     rw [List.getElem?_append_left (show 0*6+j < q.cells.length by show _ < 6;omega)]
     congr 1;omega
   | i+1 =>
     rw [List.getElem?_append_right (show q.cells.length≤(i+1)*6+j by show 6≤_;omega)]
     rw [show (i+1)*6+j - q.cells.length=i*6+j by show (i+1)*6+j - 6=_;omega]
     exact ih h
structure Ln (T:TypeId) (base:Nat) (w:World) (v:Value) (L:List PV):Prop where
 own:w.ownsRow base T 6 v L.length (pvs L)
 free:∀ g,v.ownBlock=some g→∃ cs,BoxAt T w g cs
section
variable {T:TypeId} {base:Nat} {w w':World} {v:Value} {L:List PV}
theorem Ln.nil (T:TypeId) (base:Nat) (w:World):Ln T base w (.slice none 0 0) []:=⟨World.ownsRow_nil w base T 6,fun g h=>by cases h⟩
theorem Ln.kept (h:Ln T base w v L) (hb:∀ g,v.ownBlock=some g→w'.heap[g]?=w.heap[g]?):Ln T base w' v L:=by
 refine ⟨⟨h.own.1,?_⟩,fun g hg=>?_⟩
 · rcases h.own.2 with hn | ⟨g,cap,cur,rfl,h1,h2,h3⟩
   · exact .inl hn
   · exact .inr ⟨g,cap,cur,rfl,h1,(hb g rfl).trans h2,h3⟩
 · obtain ⟨cs,hc⟩:=h.free g hg
   exact ⟨cs,(hb g hg).trans hc.at_,hc.free⟩
theorem Ln.below (h:Ln T base w v L) (hb:Below w.heap.size w w'):Ln T base w' v L:=h.kept fun g hg=>by
 obtain ⟨cs,hc⟩:=h.free g hg
 exact hb.block g hc.lt
theorem Ln.form (h:Ln T base w v L):∃ A c,v=.slice A L.length c∧L.length≤c∧(A=none→c=0):=by
 rcases h.own.2 with ⟨rfl,hn⟩ | ⟨g,cap,cur,rfl,_,_,h3,_⟩
 · exact ⟨none,0,by rw [hn],by omega,fun _=>rfl⟩
 · exact ⟨_,cap,rfl,h3,fun e=>by cases e⟩
theorem Ln.at_ (h:Ln T base w v L) {i:Nat} {p:PV} (hi:L[i]?=some p):∃ g c,v=.slice (some ⟨g,0,none⟩) L.length c∧i < L.length∧base≤g∧g < w.heap.size ∧
 w.cell? ⟨g,i*6,none⟩=some (.bool p.s)∧w.cell? ⟨g,i*6+1,none⟩=some (.slice p.A p.n p.c)∧w.cell? ⟨g,i*6+2,none⟩=some (.slice p.B p.m p.d) ∧
 w.cell? ⟨g,i*6+3,none⟩=some (.bool p.t)∧w.cell? ⟨g,i*6+4,none⟩=some (.slice p.E p.i p.e)∧w.cell? ⟨g,i*6+5,none⟩=some (.slice p.F p.j p.f):=by
 have hlt:i < L.length:=(List.getElem?_eq_some_iff.1 hi).1
 rcases h.own.2 with ⟨_,hn⟩ | ⟨g,cap,cur,hv,hb,hg,_⟩
 · omega
 · have hc:=h.own.cells (g:=g) (by rw [hv];rfl)
   have ha:∀ j,(⟨g,0,none⟩:Addr).add j=⟨g,j,none⟩:=fun j=>by unfold Addr.add;split <;> simp_all
   have key:∀ j,j < 6→∀ u,p.cells[j]?=some u→w.cell? ⟨g,i*6+j,none⟩=some u:=fun j hj u hu=>by
    have:=hc (i*6+j) u ((pvs_get hi hj).trans hu)
    rwa [ha] at this
   have hlt2:g < w.heap.size:=by
    rcases Nat.lt_or_ge g w.heap.size with q | q
    · exact q
    · rw [Array.getElem?_eq_none q] at hg;cases hg
   exact ⟨g,cap,hv,hlt,hb,hlt2,key 0 (by decide) _ rfl,key 1 (by decide) _ rfl,key 2 (by decide) _ rfl,key 3 (by decide) _ rfl,key 4 (by decide) _ rfl,key 5 (by decide) _ rfl⟩
end
theorem Ln.stays {T:TypeId} {base:Nat} {w w':World} {v:Value} {L:List PV} (h:Ln T base w v L) (hg:w.grownBy w' v.ownBlock):Below w.heap.size w w' ∨ ∃ g cs,BoxAt T w g cs∧base≤g∧Only g w w':=by
 cases hv:v.ownBlock with
 | none =>
   rw [hv] at hg
   exact .inl ((Below.refl _ _).grown hg (Nat.le_refl _) (fun k e=>by cases e))
 | some g =>
   rw [hv] at hg
   obtain ⟨cs,hc⟩:=h.free g hv
   refine .inr ⟨g,cs,hc,(h.own.lt g hv).1,⟨hg.os,hg.tape,hg.output,hg.size,fun k hk hn=>hg.block k hk (fun e=>hn (by injection e))⟩⟩
end
section
open Go Go.RowKit
section
variable {w w':World} {s t:Bool} {A B E F:Option Addr} {n c m d i e j f k:Nat} {x y:Rat}
theorem PR.box {T:TypeId} {g:Nat} {cs:Array Value} (h:PR w s A n c B m d t E i e F j f x y k) (Z:BoxAt T w g cs) (ho:Only g w w'):PR w' s A n c B m d t E i e F j f x y k:=⟨h.1.box Z ho,h.2.box Z ho⟩
theorem B6.rest {g k:Nat} {x y z u v t:Value} (h:B6 w g x y z u v t) (hne:g ≠ k) (ho:Only k w w'):B6 w' g x y z u v t:=(ho.block g h.lt hne).trans h
end
theorem Ln.of {T:TypeId} {base g n c:Nat} {L:List PV} (h:Ln T base w (.slice (some ⟨g,0,none⟩) n c) L) {i:Nat} {p:PV} (hi:L[i]?=some p):i < n∧g < w.heap.size ∧
 w.cell? ⟨g,i*6,none⟩=some (.bool p.s)∧w.cell? ⟨g,i*6+1,none⟩=some (.slice p.A p.n p.c)∧w.cell? ⟨g,i*6+2,none⟩=some (.slice p.B p.m p.d) ∧
 w.cell? ⟨g,i*6+3,none⟩=some (.bool p.t)∧w.cell? ⟨g,i*6+4,none⟩=some (.slice p.E p.i p.e)∧w.cell? ⟨g,i*6+5,none⟩=some (.slice p.F p.j p.f):=by
 obtain ⟨g',c',hv,h1,_,h2,h3⟩:=h.at_ hi
 have e:g'=g∧n=L.length:=by
  simp only [Value.slice.injEq,Option.some.injEq,Addr.mk.injEq] at hv
  exact ⟨hv.1.1.symm,hv.2.1⟩
 obtain ⟨rfl,hn⟩:=e
 exact ⟨hn ▸ h1,h2,h3⟩
def Each (G:World→PV→Rat × Rat→Nat→Prop) (w:World) (L:List PV) (l:List (Rat × Rat)) (k:Nat):Prop :=
 L.length=l.length∧∀ (i:Nat) (p:PV) (u:Rat × Rat),L[i]?=some p→l[i]?=some u→G w p u k
theorem Each.nil {G:World→PV→Rat × Rat→Nat→Prop} {k:Nat}:Each G w [] [] k:=⟨rfl,fun i p u h=>by cases h⟩
theorem Each.push {G:World→PV→Rat × Rat→Nat→Prop} {w w':World} {L:List PV} {l:List (Rat × Rat)} {k:Nat} {p:PV} {u:Rat × Rat} (h:Each G w L l k) (hw:∀ p u,G w p u k→G w' p u k) (hp:G w' p u k):Each G w' (L ++ [p]) (l ++ [u]) k:=by
 refine ⟨by rw [List.length_append,List.length_append,h.1];rfl,fun i q v hq hv=>?_⟩
 rcases Nat.lt_or_ge i L.length with hi | hi
 · rw [List.getElem?_append_left hi] at hq
   rw [List.getElem?_append_left (by rw [← h.1];exact hi)] at hv
   exact hw _ _ (h.2 i q v hq hv)
 · rw [List.getElem?_append_right hi] at hq
   rw [List.getElem?_append_right (by rw [← h.1];exact hi)] at hv
   have:i - L.length=0:=by
    have:=(List.getElem?_eq_some_iff.1 hq).1
    simp at this;omega
   rw [this] at hq
   rw [show i - l.length=0 by rw [← h.1];exact this] at hv
   obtain rfl:p=q:=by simpa using hq
   obtain rfl:u=v:=by simpa using hv
   exact hp
theorem Each.imp {G:World→PV→Rat × Rat→Nat→Prop} {w w':World} {L:List PV} {l:List (Rat × Rat)} {k:Nat} (h:Each G w L l k) (hw:∀ p u,G w p u k→G w' p u k):Each G w' L l k:=⟨h.1,fun i p u hp hu=>hw _ _ (h.2 i p u hp hu)⟩
theorem Each.at_ {G:World→PV→Rat × Rat→Nat→Prop} {L:List PV} {l:List (Rat × Rat)} {k:Nat} (h:Each G w L l k) {i:Nat} (hi:i < L.length):∃ p u,L[i]?=some p∧l[i]?=some u∧G w p u k :=
 ⟨_,_,List.getElem?_eq_getElem hi,List.getElem?_eq_getElem (by rw [← h.1];exact hi),h.2 i _ _ (List.getElem?_eq_getElem hi) (List.getElem?_eq_getElem (by rw [← h.1];exact hi))⟩
theorem Each.below {w w':World} {L:List PV} {l:List (Rat × Rat)} {k:Nat} (h:Each PV.PG w L l k) (hb:Below w.heap.size w w'):Each PV.PG w' L l k:=h.imp fun _ _ hp=>PG.below hp hb
theorem Each.stays {T:TypeId} {base:Nat} {w w':World} {v:Value} {M L:List PV} {l:List (Rat × Rat)} {k:Nat} (h:Each PV.PG w L l k) (hn:Ln T base w v M) (hg:w.grownBy w' v.ownBlock):∀ p u,PV.PG w p u k→PV.PG w' p u k:=fun p u hp=>by
 rcases hn.stays hg with q | ⟨g,cs,hB,_,ho⟩
 · exact PG.below hp q
 · exact PG.box hp hB ho
end
section
open Go Go.RowKit
structure CV where
 p:PV
 q:QV
def CV.cells (x:CV):List Value:=x.p.cells ++ x.q.cells
def cvs (L:List CV):List Value:=L.flatMap CV.cells
theorem qvs_append (L M:List QV):qvs (L ++ M)=qvs L ++ qvs M:=List.flatMap_append
theorem rows_length {α:Type} {f:α→List Value} {m:Nat} (hf:∀ x,(f x).length=m) (L:List α):(L.flatMap f).length=L.length*m:=by
 induction L with
 | nil=>simp
 | cons p L ih=>rw [List.flatMap_cons,List.length_append,ih,hf,List.length_cons,Nat.succ_mul];omega
theorem rows_get {α:Type} {f:α→List Value} {m:Nat} (hf:∀ x,(f x).length=m) {L:List α} {i:Nat} {p:α} (h:L[i]?=some p) {j:Nat} (hj:j < m):(L.flatMap f)[i*m+j]?=(f p)[j]?:=by
 induction L generalizing i with
 | nil=>cases h
 | cons q L ih =>
   rw [List.flatMap_cons]
   match i with
   | 0 =>
     obtain rfl:q=p:=by simpa using h
     rw [Nat.zero_mul,Nat.zero_add,List.getElem?_append_left (by rw [hf];exact hj)]
   | i+1 =>
     rw [Nat.succ_mul,List.getElem?_append_right (by rw [hf];omega),hf,show i*m+m+j - m=i*m+j by omega]
     exact ih h
theorem pvc_len (p:PV):p.cells.length=6:=rfl
theorem qvc_len (p:QV):p.cells.length=3:=rfl
theorem cvc_len (p:CV):p.cells.length=9:=rfl
def SV (w:World) (A:Option Addr) (vs:List Value):Prop:=0 < vs.length→∃ g o,A=some ⟨g,o,none⟩∧g < w.heap.size∧∀ j u,vs[j]?=some u→w.cell? ⟨g,o+j,none⟩=some u
theorem SV.nil (w:World) (A:Option Addr):SV w A []:=fun h=>absurd h (by simp)
theorem SV.below {w w':World} {A:Option Addr} {vs:List Value} (h:SV w A vs) (hb:Below w.heap.size w w'):SV w' A vs:=fun hn=>by
 obtain ⟨g,o,e,h1,h2⟩:=h hn
 exact ⟨g,o,e,Nat.lt_of_lt_of_le h1 hb.size,fun j u hu=>(hb.cell (p:=⟨g,o+j,none⟩) h1).trans (h2 j u hu)⟩
theorem SV.lt {A:Option Addr} {vs:List Value} (h:SV w A vs) {g o:Nat} (e:A=some ⟨g,o,none⟩) (hn:0 < vs.length):g < w.heap.size:=by
 obtain ⟨g2,o2,e2,h1,_⟩:=h hn
 rw [e] at e2;cases e2;exact h1
def E6x (w:World) (g o:Nat) (p:PV):Prop:=g < w.heap.size∧w.cell? ⟨g,o,none⟩=some (.bool p.s)∧w.cell? ⟨g,o+1,none⟩=some (.slice p.A p.n p.c)∧w.cell? ⟨g,o+2,none⟩=some (.slice p.B p.m p.d)∧w.cell? ⟨g,o+3,none⟩=some (.bool p.t)∧w.cell? ⟨g,o+4,none⟩=some (.slice p.E p.i p.e)∧w.cell? ⟨g,o+5,none⟩=some (.slice p.F p.j p.f)
section
variable {w w':World} {g o k:Nat} {p:PV}
theorem E6x.lt (h:E6x w g o p):g < w.heap.size:=h.1
theorem E6x.c0 (h:E6x w g o p):w.cell? ⟨g,o,none⟩=some (.bool p.s):=h.2.1
theorem E6x.c1 (h:E6x w g o p):w.cell? ⟨g,o+1,none⟩=some (.slice p.A p.n p.c):=h.2.2.1
theorem E6x.c2 (h:E6x w g o p):w.cell? ⟨g,o+2,none⟩=some (.slice p.B p.m p.d):=h.2.2.2.1
theorem E6x.c3 (h:E6x w g o p):w.cell? ⟨g,o+3,none⟩=some (.bool p.t):=h.2.2.2.2.1
theorem E6x.c4 (h:E6x w g o p):w.cell? ⟨g,o+4,none⟩=some (.slice p.E p.i p.e):=h.2.2.2.2.2.1
theorem E6x.c5 (h:E6x w g o p):w.cell? ⟨g,o+5,none⟩=some (.slice p.F p.j p.f):=h.2.2.2.2.2.2
theorem E6x.all (h:E6x w g o p):w.cell? ⟨g,o,none⟩=some (.bool p.s)∧w.cell? ⟨g,o+1,none⟩=some (.slice p.A p.n p.c)∧w.cell? ⟨g,o+2,none⟩=some (.slice p.B p.m p.d)∧w.cell? ⟨g,o+3,none⟩=some (.bool p.t)∧w.cell? ⟨g,o+4,none⟩=some (.slice p.E p.i p.e)∧w.cell? ⟨g,o+5,none⟩=some (.slice p.F p.j p.f):=⟨h.c0,h.c1,h.c2,h.c3,h.c4,h.c5⟩
theorem E6x.below (h:E6x w g o p) (hb:Below w.heap.size w w'):E6x w' g o p:=⟨Nat.lt_of_lt_of_le h.1 hb.size,(hb.cell (p:=⟨g,o,none⟩) h.1).trans h.c0,(hb.cell (p:=⟨g,o+1,none⟩) h.1).trans h.c1,(hb.cell (p:=⟨g,o+2,none⟩) h.1).trans h.c2,(hb.cell (p:=⟨g,o+3,none⟩) h.1).trans h.c3,(hb.cell (p:=⟨g,o+4,none⟩) h.1).trans h.c4,(hb.cell (p:=⟨g,o+5,none⟩) h.1).trans h.c5⟩
theorem E6x.rest (h:E6x w g o p) (hne:g ≠ k) (ho:Only k w w'):E6x w' g o p:=⟨Nat.lt_of_lt_of_le h.1 ho.size,(World.cell?_of_block (a:=⟨g,o,none⟩) (ho.block g h.1 hne)).trans h.c0,(World.cell?_of_block (a:=⟨g,o+1,none⟩) (ho.block g h.1 hne)).trans h.c1,(World.cell?_of_block (a:=⟨g,o+2,none⟩) (ho.block g h.1 hne)).trans h.c2,(World.cell?_of_block (a:=⟨g,o+3,none⟩) (ho.block g h.1 hne)).trans h.c3,(World.cell?_of_block (a:=⟨g,o+4,none⟩) (ho.block g h.1 hne)).trans h.c4,(World.cell?_of_block (a:=⟨g,o+5,none⟩) (ho.block g h.1 hne)).trans h.c5⟩
end
def E3x (w:World) (g o:Nat) (p:QV):Prop:=g < w.heap.size∧w.cell? ⟨g,o,none⟩=some (.bool p.s)∧w.cell? ⟨g,o+1,none⟩=some (.slice p.A p.n p.c)∧w.cell? ⟨g,o+2,none⟩=some (.slice p.B p.m p.d)
section
variable {w w':World} {g o k:Nat} {p:QV}
theorem E3x.lt (h:E3x w g o p):g < w.heap.size:=h.1
theorem E3x.c0 (h:E3x w g o p):w.cell? ⟨g,o,none⟩=some (.bool p.s):=h.2.1
theorem E3x.c1 (h:E3x w g o p):w.cell? ⟨g,o+1,none⟩=some (.slice p.A p.n p.c):=h.2.2.1
theorem E3x.c2 (h:E3x w g o p):w.cell? ⟨g,o+2,none⟩=some (.slice p.B p.m p.d):=h.2.2.2
theorem E3x.all (h:E3x w g o p):w.cell? ⟨g,o,none⟩=some (.bool p.s)∧w.cell? ⟨g,o+1,none⟩=some (.slice p.A p.n p.c)∧w.cell? ⟨g,o+2,none⟩=some (.slice p.B p.m p.d):=⟨h.c0,h.c1,h.c2⟩
theorem E3x.below (h:E3x w g o p) (hb:Below w.heap.size w w'):E3x w' g o p:=⟨Nat.lt_of_lt_of_le h.1 hb.size,(hb.cell (p:=⟨g,o,none⟩) h.1).trans h.c0,(hb.cell (p:=⟨g,o+1,none⟩) h.1).trans h.c1,(hb.cell (p:=⟨g,o+2,none⟩) h.1).trans h.c2⟩
theorem E3x.rest (h:E3x w g o p) (hne:g ≠ k) (ho:Only k w w'):E3x w' g o p:=⟨Nat.lt_of_lt_of_le h.1 ho.size,(World.cell?_of_block (a:=⟨g,o,none⟩) (ho.block g h.1 hne)).trans h.c0,(World.cell?_of_block (a:=⟨g,o+1,none⟩) (ho.block g h.1 hne)).trans h.c1,(World.cell?_of_block (a:=⟨g,o+2,none⟩) (ho.block g h.1 hne)).trans h.c2⟩
end
def E9x (w:World) (g o:Nat) (p:CV):Prop:=g < w.heap.size∧w.cell? ⟨g,o,none⟩=some (.bool p.p.s)∧w.cell? ⟨g,o+1,none⟩=some (.slice p.p.A p.p.n p.p.c)∧w.cell? ⟨g,o+2,none⟩=some (.slice p.p.B p.p.m p.p.d)∧w.cell? ⟨g,o+3,none⟩=some (.bool p.p.t)∧w.cell? ⟨g,o+4,none⟩=some (.slice p.p.E p.p.i p.p.e)∧w.cell? ⟨g,o+5,none⟩=some (.slice p.p.F p.p.j p.p.f)∧w.cell? ⟨g,o+6,none⟩=some (.bool p.q.s)∧w.cell? ⟨g,o+7,none⟩=some (.slice p.q.A p.q.n p.q.c)∧w.cell? ⟨g,o+8,none⟩=some (.slice p.q.B p.q.m p.q.d)
section
variable {w w':World} {g o k:Nat} {p:CV}
theorem E9x.lt (h:E9x w g o p):g < w.heap.size:=h.1
theorem E9x.c0 (h:E9x w g o p):w.cell? ⟨g,o,none⟩=some (.bool p.p.s):=h.2.1
theorem E9x.c1 (h:E9x w g o p):w.cell? ⟨g,o+1,none⟩=some (.slice p.p.A p.p.n p.p.c):=h.2.2.1
theorem E9x.c2 (h:E9x w g o p):w.cell? ⟨g,o+2,none⟩=some (.slice p.p.B p.p.m p.p.d):=h.2.2.2.1
theorem E9x.c3 (h:E9x w g o p):w.cell? ⟨g,o+3,none⟩=some (.bool p.p.t):=h.2.2.2.2.1
theorem E9x.c4 (h:E9x w g o p):w.cell? ⟨g,o+4,none⟩=some (.slice p.p.E p.p.i p.p.e):=h.2.2.2.2.2.1
theorem E9x.c5 (h:E9x w g o p):w.cell? ⟨g,o+5,none⟩=some (.slice p.p.F p.p.j p.p.f):=h.2.2.2.2.2.2.1
theorem E9x.c6 (h:E9x w g o p):w.cell? ⟨g,o+6,none⟩=some (.bool p.q.s):=h.2.2.2.2.2.2.2.1
theorem E9x.c7 (h:E9x w g o p):w.cell? ⟨g,o+7,none⟩=some (.slice p.q.A p.q.n p.q.c):=h.2.2.2.2.2.2.2.2.1
theorem E9x.c8 (h:E9x w g o p):w.cell? ⟨g,o+8,none⟩=some (.slice p.q.B p.q.m p.q.d):=h.2.2.2.2.2.2.2.2.2
theorem E9x.all (h:E9x w g o p):w.cell? ⟨g,o,none⟩=some (.bool p.p.s)∧w.cell? ⟨g,o+1,none⟩=some (.slice p.p.A p.p.n p.p.c)∧w.cell? ⟨g,o+2,none⟩=some (.slice p.p.B p.p.m p.p.d)∧w.cell? ⟨g,o+3,none⟩=some (.bool p.p.t)∧w.cell? ⟨g,o+4,none⟩=some (.slice p.p.E p.p.i p.p.e)∧w.cell? ⟨g,o+5,none⟩=some (.slice p.p.F p.p.j p.p.f)∧w.cell? ⟨g,o+6,none⟩=some (.bool p.q.s)∧w.cell? ⟨g,o+7,none⟩=some (.slice p.q.A p.q.n p.q.c)∧w.cell? ⟨g,o+8,none⟩=some (.slice p.q.B p.q.m p.q.d):=⟨h.c0,h.c1,h.c2,h.c3,h.c4,h.c5,h.c6,h.c7,h.c8⟩
theorem E9x.below (h:E9x w g o p) (hb:Below w.heap.size w w'):E9x w' g o p:=⟨Nat.lt_of_lt_of_le h.1 hb.size,(hb.cell (p:=⟨g,o,none⟩) h.1).trans h.c0,(hb.cell (p:=⟨g,o+1,none⟩) h.1).trans h.c1,(hb.cell (p:=⟨g,o+2,none⟩) h.1).trans h.c2,(hb.cell (p:=⟨g,o+3,none⟩) h.1).trans h.c3,(hb.cell (p:=⟨g,o+4,none⟩) h.1).trans h.c4,(hb.cell (p:=⟨g,o+5,none⟩) h.1).trans h.c5,(hb.cell (p:=⟨g,o+6,none⟩) h.1).trans h.c6,(hb.cell (p:=⟨g,o+7,none⟩) h.1).trans h.c7,(hb.cell (p:=⟨g,o+8,none⟩) h.1).trans h.c8⟩
theorem E9x.rest (h:E9x w g o p) (hne:g ≠ k) (ho:Only k w w'):E9x w' g o p:=⟨Nat.lt_of_lt_of_le h.1 ho.size,(World.cell?_of_block (a:=⟨g,o,none⟩) (ho.block g h.1 hne)).trans h.c0,(World.cell?_of_block (a:=⟨g,o+1,none⟩) (ho.block g h.1 hne)).trans h.c1,(World.cell?_of_block (a:=⟨g,o+2,none⟩) (ho.block g h.1 hne)).trans h.c2,(World.cell?_of_block (a:=⟨g,o+3,none⟩) (ho.block g h.1 hne)).trans h.c3,(World.cell?_of_block (a:=⟨g,o+4,none⟩) (ho.block g h.1 hne)).trans h.c4,(World.cell?_of_block (a:=⟨g,o+5,none⟩) (ho.block g h.1 hne)).trans h.c5,(World.cell?_of_block (a:=⟨g,o+6,none⟩) (ho.block g h.1 hne)).trans h.c6,(World.cell?_of_block (a:=⟨g,o+7,none⟩) (ho.block g h.1 hne)).trans h.c7,(World.cell?_of_block (a:=⟨g,o+8,none⟩) (ho.block g h.1 hne)).trans h.c8⟩
end
theorem SV.ct {A:Option Addr} {L:List CV} (h:SV w A (cvs L)) {i:Nat} {p:CV} (hi:L[i]?=some p):∃ g o,(∀ (n c:Nat) (w':World),i < n→(Instr.indexAt 121 (.slice A n c) (.int .i64 (i:Int))).run Tryz.prog w'=.ok (.pointer (some ⟨g,o,none⟩)) w')∧E9x w g o p∧∃ o0,A=some ⟨g,o0,none⟩:=by
 have hl:=(List.getElem?_eq_some_iff.1 hi).1
 obtain ⟨g,o,e,h1,h2⟩:=h (by rw [show (cvs L).length=L.length*9 from rows_length cvc_len L];omega)
 have key:∀ j,j < 9→∀ u,p.cells[j]?=some u→w.cell? ⟨g,o+i*9+j,none⟩=some u:=fun j hj u hu=>by
  rw [Nat.add_assoc];exact h2 _ u ((rows_get cvc_len hi hj).trans hu)
 refine ⟨g,o+i*9,fun n c w' hn=>?_,⟨h1,key 0 (by decide) _ rfl,key 1 (by decide) _ rfl,key 2 (by decide) _ rfl,key 3 (by decide) _ rfl,key 4 (by decide) _ rfl,key 5 (by decide) _ rfl,key 6 (by decide) _ rfl,key 7 (by decide) _ rfl,key 8 (by decide) _ rfl⟩,o,e⟩
 subst e
 have ha:∀ j,(⟨g,o,none⟩:Addr).add j=⟨g,o+j,none⟩:=fun j=>by unfold Addr.add;split <;> simp_all
 obtain ⟨i0,hi0,hz,hs,hby⟩:=info_parts (show (Tryz.prog.info? 124).map (fun i=>(i.zero,i.size,i.bytes))=some (some (.agg #[.bool false,.slice none 0 0,.slice none 0 0,.bool false,.slice none 0 0,.slice none 0 0,.bool false,.slice none 0 0,.slice none 0 0]),9,168) by kernel_rfl)
 have k1:(0:Int)≤(i:Int):=by omega
 have k2:(i:Int) < (n:Int):=by omega
 simp [Instr.indexAt,asIntOf,run_underlying Tryz.underlying121,k1,sizeOf,typeInfo,hi0,hs,ha]
 exact fun e=>absurd hn (by omega)
def RowB (T:TypeId) (w:World) (g:Nat) (vs:List Value):Prop:=∃ cs,BoxAt T w g cs∧vs.length≤cs.size∧∀ (j:Nat) (u:Value),vs[j]?=some u→cs[j]?=some u
section
variable {T:TypeId} {w w':World} {g k:Nat} {vs:List Value} {cs:Array Value}
theorem RowB.below (h:RowB T w g vs) (hb:Below w.heap.size w w'):RowB T w' g vs:=by
 obtain ⟨cs,h1,h2⟩:=h;exact ⟨cs,h1.below hb,h2⟩
theorem RowB.rest (h:RowB T w g vs) (hne:g ≠ k) (ho:Only k w w'):RowB T w' g vs:=by
 obtain ⟨cs,h1,h2⟩:=h;exact ⟨cs,⟨(ho.block g h1.lt hne).trans h1.at_,h1.free⟩,h2⟩
theorem RowB.sv (h:RowB T w g vs):SV w (some ⟨g,0,none⟩) vs:=fun _=>by
 obtain ⟨cs,h1,h2,h3⟩:=h
 refine ⟨g,0,rfl,h1.lt,fun j u hu=>?_⟩
 rw [Nat.zero_add,cell_of_row w g j _ _ (0,0) h1.at_];exact h3 j u hu
theorem BoxAt.sv (h:BoxAt T w g vs.toArray):SV w (some ⟨g,0,none⟩) vs:=fun _=>⟨g,0,rfl,h.lt,fun j u hu=>by
 rw [Nat.zero_add,cell_of_row w g j _ _ (0,0) h.at_];simpa using hu⟩
theorem BoxAt.ne {T':TypeId} {cs':Array Value} (h:BoxAt T w g cs) (h':BoxAt T' w k cs') (hne:T ≠ T' ∨ cs.size ≠ cs'.size):g ≠ k:=by
 rintro rfl
 have e:=h.at_.symm.trans h'.at_
 simp only [Option.some.injEq,Obj.cells.injEq] at e
 rcases hne with q | q
 · exact q e.2.1
 · exact q (by rw [e.1])
end
def SNr (T:TypeId) (base n:Nat) (vs:List Value) (w:World) (A:Option Addr):Prop:=0 < n→∃ g,A=some ⟨g,0,none⟩∧base≤g∧RowB T w g vs
theorem SNr.below {T:TypeId} {base n:Nat} {vs:List Value} {w w':World} {A:Option Addr} (h:SNr T base n vs w A) (hb:Below w.heap.size w w'):SNr T base n vs w' A:=fun hn=>by
 obtain ⟨g,e,h1,h2⟩:=h hn;exact ⟨g,e,h1,h2.below hb⟩
theorem SNr.sv {T:TypeId} {base n:Nat} {vs:List Value} {A:Option Addr} (h:SNr T base n vs w A) (hn:0 < n):SV w A vs:=by
 obtain ⟨g,rfl,_,h2⟩:=h hn;exact h2.sv
end
section
open Go Go.RowKit
def EachQ (w:World) (L:List QV) (l:List Rat) (k:Nat):Prop:=L.length=l.length∧∀ (i:Nat) (p:QV) (v:Rat),L[i]?=some p→l[i]?=some v→QG w p.s p.A p.n p.c p.B p.m p.d v k
section
variable {w w':World} {L:List QV} {l:List Rat} {k:Nat}
theorem EachQ.below (h:EachQ w L l k) (hb:Below w.heap.size w w'):EachQ w' L l k:=⟨h.1,fun i p v h1 h2=>(h.2 i p v h1 h2).below hb⟩
theorem EachQ.box {T:TypeId} {g:Nat} {cs:Array Value} (h:EachQ w L l k) (B:BoxAt T w g cs) (ho:Only g w w'):EachQ w' L l k:=⟨h.1,fun i p v h1 h2=>(h.2 i p v h1 h2).box B ho⟩
theorem EachQ.take (h:EachQ w L l k) (m:Nat):EachQ w (L.take m) (l.take m) k:=by
 refine ⟨by rw [List.length_take,List.length_take,h.1],fun i p v h1 h2=>?_⟩
 rw [List.getElem?_take] at h1 h2
 split at h1
 · rename_i q;rw [if_pos q] at h2;exact h.2 i p v h1 h2
 · cases h1
theorem EachQ.drop (h:EachQ w L l k) (m:Nat):EachQ w (L.drop m) (l.drop m) k:=by
 refine ⟨by rw [List.length_drop,List.length_drop,h.1],fun i p v h1 h2=>?_⟩
 rw [List.getElem?_drop] at h1 h2
 exact h.2 _ p v h1 h2
theorem EachQ.push {p:QV} {v:Rat} (h:EachQ w L l k) (hp:QG w p.s p.A p.n p.c p.B p.m p.d v k):EachQ w (L ++ [p]) (l ++ [v]) k:=by
 refine ⟨by rw [List.length_append,List.length_append,h.1];rfl,fun i q u h1 h2=>?_⟩
 rcases Nat.lt_or_ge i L.length with hi | hi
 · rw [List.getElem?_append_left hi] at h1
   rw [List.getElem?_append_left (by rw [← h.1];exact hi)] at h2
   exact h.2 i q u h1 h2
 · rw [List.getElem?_append_right hi] at h1
   rw [List.getElem?_append_right (by rw [← h.1];exact hi),← h.1] at h2
   obtain ⟨j,hj⟩:∃ j,i - L.length=j:=⟨_,rfl⟩
   rw [hj] at h1 h2
   match j,h1,h2 with
   | 0,h1,h2=>cases h1;cases h2;exact hp
   | j+1,h1,h2=>simp at h1
end
theorem SV.take {A:Option Addr} {L:List QV} (h:SV w A (qvs L)) (m:Nat):SV w A (qvs (L.take m)):=fun hn=>by
 have e:qvs L=qvs (L.take m) ++ qvs (L.drop m):=by rw [← qvs_append,List.take_append_drop]
 obtain ⟨g,o,e1,h1,h2⟩:=h (by rw [e,List.length_append];omega)
 refine ⟨g,o,e1,h1,fun j u hu=>h2 j u ?_⟩
 rw [e,List.getElem?_append_left (List.getElem?_eq_some_iff.1 hu).1];exact hu
theorem SV.drop {g o:Nat} {L:List QV} (h:SV w (some ⟨g,o,none⟩) (qvs L)) (m:Nat) (hm:m≤L.length):SV w (some ⟨g,o+m*3,none⟩) (qvs (L.drop m)):=fun hn=>by
 have e:qvs L=qvs (L.take m) ++ qvs (L.drop m):=by rw [← qvs_append,List.take_append_drop]
 have hl:(qvs (L.take m)).length=m*3:=by rw [show (qvs (L.take m)).length=(L.take m).length*3 from rows_length qvc_len _,List.length_take,Nat.min_eq_left hm]
 obtain ⟨g2,o2,e1,h1,h2⟩:=h (by rw [e,List.length_append];omega)
 cases e1
 refine ⟨_,_,rfl,h1,fun j u hu=>?_⟩
 rw [Nat.add_assoc]
 refine h2 (m*3+j) u ?_
 rw [e,List.getElem?_append_right (by omega),hl,Nat.add_sub_cancel_left];exact hu
end
section
open Go Go.RowKit
theorem SNr.box {T T':TypeId} {base n k:Nat} {vs:List Value} {w w':World} {A:Option Addr} {cs:Array Value} (h:SNr T base n vs w A) (hB:BoxAt T' w k cs) (hne:T ≠ T' ∨ cs.size < vs.length) (ho:Only k w w'):SNr T base n vs w' A:=fun hn=>by
 obtain ⟨g,e,h1,h2⟩:=h hn
 obtain ⟨cs2,h3,h4,_⟩:=id h2
 exact ⟨g,e,h1,h2.rest (BoxAt.ne h3 hB (hne.imp id (fun q=>by omega))) ho⟩
theorem BoxAt.q3 {T:TypeId} {g m:Nat} {M:List QV} {p:QV} (h:BoxAt T w g (qvs M).toArray) (hp:M[m]?=some p):E3x w g (m*3) p:=by
 have key:∀ j,j < 3→∀ u,p.cells[j]?=some u→w.cell? ⟨g,m*3+j,none⟩=some u:=fun j hj u hu=>by
  rw [cell_of_row w g (m*3+j) _ _ (0,0) h.at_,← hu,← rows_get qvc_len hp hj];simp [qvs]
 exact ⟨h.lt,key 0 (by decide) _ rfl,key 1 (by decide) _ rfl,key 2 (by decide) _ rfl⟩
end
section
def crs (a b c d:Rat):Rat:=a*d - b*c
def dotq (a b c d:Rat):Rat:=a*c+b*d
def LeftV (a b c d:Rat):Prop:=0 < crs a b c d ∨ (crs a b c d=0∧0 < dotq a b c d)
section
variable {n:Nat} {x y:Nat→Rat}
def dd (x:Nat→Rat) (k:Nat):Rat:=x (k+1) - x k
def sideQ (x y:Nat→Rat) (i k:Nat):Rat:=crs (dd x i) (dd y i) (x k - x i) (y k - y i)
theorem along_of {a b c d:Rat} (hz:¬ (a=0∧b=0)) (h:crs a b c d=0):∃ t,c=t*a∧d=t*b:=by
 unfold crs at h
 by_cases ha:a=0
 · subst ha
   have hb:b ≠ 0:=fun e=>hz ⟨rfl,e⟩
   have e:d / b*b=d:=Rat.div_mul_cancel hb
   refine ⟨d / b,?_,e.symm⟩
   have:b*c=0:=by grind
   rcases Rat.mul_eq_zero.1 this with q | q
   · exact absurd q hb
   · grind
 · have e:c / a*a=c:=Rat.div_mul_cancel ha
   refine ⟨c / a,e.symm,?_⟩
   generalize c / a=t at e
   subst e
   have:a*(d - t*b)=0:=by grind
   rcases Rat.mul_eq_zero.1 this with q | q
   · exact absurd q ha
   · grind
end
section
variable {n:Nat} {x y:Nat→Rat}
structure Conv (n:Nat) (x y:Nat→Rat):Prop where
 three:3≤n
 apart:∀ i k,i < n→k < n→i ≠ k→¬ (x i=x k∧y i=y k)
 left:∀ i k,i < n→k < n→0≤sideQ x y i k
 some:∃ i k,i < n∧k < n∧0 < sideQ x y i k
theorem crs_along {a b c d e f:Rat} (hz:¬ (a=0∧b=0)) (h1:crs a b c d=0) (h2:crs a b e f=0):crs c d e f=0:=by
 obtain ⟨t,rfl,rfl⟩:=along_of hz h1
 obtain ⟨s,rfl,rfl⟩:=along_of hz h2
 unfold crs;grind
theorem Conv.off (h:Conv n x y) {a b ox oy:Rat} (hz:¬ (a=0∧b=0)) (hl:∀ k,crs a b (x k - ox) (y k - oy)=0):False:=by
 obtain ⟨i,k,_,_,hs⟩:=h.some
 have e1:=hl i
 have e2:=hl (i+1)
 have e3:=hl k
 have:sideQ x y i k=0:=by
  unfold sideQ
  refine crs_along hz ?_ ?_
  · unfold dd;unfold crs at *;grind
  · unfold crs at *;grind
 rw [this] at hs
 exact absurd hs (by decide)
end
end
section
open Go Go.RowKit
theorem zqr (w:World):QR w false none 0 0 none 0 0 0 1:=by
 refine ⟨0,0,⟨[],⟨rfl,fun h=>absurd h (by decide)⟩,Lim.nil,rfl,Nat.le_refl _,by decide,by decide⟩,⟨[],⟨rfl,fun h=>absurd h (by decide)⟩,Lim.nil,rfl,Nat.le_refl _,by decide⟩,by decide +kernel⟩
theorem zpr (w:World):PR w false none 0 0 none 0 0 false none 0 0 none 0 0 0 0 1:=⟨zqr w,zqr w⟩
theorem BoxAt.p6 {T:TypeId} {g m:Nat} {M:List PV} {p:PV} (h:BoxAt T w g (pvs M).toArray) (hp:M[m]?=some p):E6x w g (m*6) p:=by
 have key:∀ j,j < 6→∀ u,p.cells[j]?=some u→w.cell? ⟨g,m*6+j,none⟩=some u:=fun j hj u hu=>by
  rw [cell_of_row w g (m*6+j) _ _ (0,0) h.at_,← hu,← rows_get pvc_len hp hj];simp [pvs]
 exact ⟨h.lt,key 0 (by decide) _ rfl,key 1 (by decide) _ rfl,key 2 (by decide) _ rfl,key 3 (by decide) _ rfl,key 4 (by decide) _ rfl,key 5 (by decide) _ rfl⟩
instance (a b c d:Rat):Decidable (LeftV a b c d):=by unfold LeftV;exact inferInstance
end
section
open Go Go.RowKit
def B9 (W:World) (g:Nat) (v0 v1 v2 v3 v4 v5 v6 v7 v8:Value):Prop:=W.heap[g]?=some (.cells #[v0,v1,v2,v3,v4,v5,v6,v7,v8] 124 (0,0))
section
variable {W W':World} {g:Nat} {v0 v1 v2 v3 v4 v5 v6 v7 v8:Value}
theorem B9.c0 (h:B9 W g v0 v1 v2 v3 v4 v5 v6 v7 v8):W.cell? ⟨g,0,none⟩=some v0:=by rw [cell_of_row W g 0 _ _ (0,0) h];rfl
theorem B9.c1 (h:B9 W g v0 v1 v2 v3 v4 v5 v6 v7 v8):W.cell? ⟨g,1,none⟩=some v1:=by rw [cell_of_row W g 1 _ _ (0,0) h];rfl
theorem B9.c2 (h:B9 W g v0 v1 v2 v3 v4 v5 v6 v7 v8):W.cell? ⟨g,2,none⟩=some v2:=by rw [cell_of_row W g 2 _ _ (0,0) h];rfl
theorem B9.c3 (h:B9 W g v0 v1 v2 v3 v4 v5 v6 v7 v8):W.cell? ⟨g,3,none⟩=some v3:=by rw [cell_of_row W g 3 _ _ (0,0) h];rfl
theorem B9.c4 (h:B9 W g v0 v1 v2 v3 v4 v5 v6 v7 v8):W.cell? ⟨g,4,none⟩=some v4:=by rw [cell_of_row W g 4 _ _ (0,0) h];rfl
theorem B9.c5 (h:B9 W g v0 v1 v2 v3 v4 v5 v6 v7 v8):W.cell? ⟨g,5,none⟩=some v5:=by rw [cell_of_row W g 5 _ _ (0,0) h];rfl
theorem B9.c6 (h:B9 W g v0 v1 v2 v3 v4 v5 v6 v7 v8):W.cell? ⟨g,6,none⟩=some v6:=by rw [cell_of_row W g 6 _ _ (0,0) h];rfl
theorem B9.c7 (h:B9 W g v0 v1 v2 v3 v4 v5 v6 v7 v8):W.cell? ⟨g,7,none⟩=some v7:=by rw [cell_of_row W g 7 _ _ (0,0) h];rfl
theorem B9.c8 (h:B9 W g v0 v1 v2 v3 v4 v5 v6 v7 v8):W.cell? ⟨g,8,none⟩=some v8:=by rw [cell_of_row W g 8 _ _ (0,0) h];rfl
theorem B9.all (h:B9 W g v0 v1 v2 v3 v4 v5 v6 v7 v8):W.cell? ⟨g,0,none⟩=some v0∧W.cell? ⟨g,1,none⟩=some v1∧W.cell? ⟨g,2,none⟩=some v2∧W.cell? ⟨g,3,none⟩=some v3∧W.cell? ⟨g,4,none⟩=some v4∧W.cell? ⟨g,5,none⟩=some v5∧W.cell? ⟨g,6,none⟩=some v6∧W.cell? ⟨g,7,none⟩=some v7∧W.cell? ⟨g,8,none⟩=some v8:=⟨h.c0,h.c1,h.c2,h.c3,h.c4,h.c5,h.c6,h.c7,h.c8⟩
theorem B9.f0 (h:B9 W g v0 v1 v2 v3 v4 v5 v6 v7 v8):W.frozen? ⟨g,0,none⟩=false:=frozen_of_row W g 0 _ _ h
theorem B9.f1 (h:B9 W g v0 v1 v2 v3 v4 v5 v6 v7 v8):W.frozen? ⟨g,1,none⟩=false:=frozen_of_row W g 1 _ _ h
theorem B9.f2 (h:B9 W g v0 v1 v2 v3 v4 v5 v6 v7 v8):W.frozen? ⟨g,2,none⟩=false:=frozen_of_row W g 2 _ _ h
theorem B9.f3 (h:B9 W g v0 v1 v2 v3 v4 v5 v6 v7 v8):W.frozen? ⟨g,3,none⟩=false:=frozen_of_row W g 3 _ _ h
theorem B9.f4 (h:B9 W g v0 v1 v2 v3 v4 v5 v6 v7 v8):W.frozen? ⟨g,4,none⟩=false:=frozen_of_row W g 4 _ _ h
theorem B9.f5 (h:B9 W g v0 v1 v2 v3 v4 v5 v6 v7 v8):W.frozen? ⟨g,5,none⟩=false:=frozen_of_row W g 5 _ _ h
theorem B9.f6 (h:B9 W g v0 v1 v2 v3 v4 v5 v6 v7 v8):W.frozen? ⟨g,6,none⟩=false:=frozen_of_row W g 6 _ _ h
theorem B9.f7 (h:B9 W g v0 v1 v2 v3 v4 v5 v6 v7 v8):W.frozen? ⟨g,7,none⟩=false:=frozen_of_row W g 7 _ _ h
theorem B9.f8 (h:B9 W g v0 v1 v2 v3 v4 v5 v6 v7 v8):W.frozen? ⟨g,8,none⟩=false:=frozen_of_row W g 8 _ _ h
theorem B9.lt (h:B9 W g v0 v1 v2 v3 v4 v5 v6 v7 v8):g < W.heap.size:=World.block_lt_of_cell? W _ h.c0
theorem B9.below (h:B9 W g v0 v1 v2 v3 v4 v5 v6 v7 v8) (hb:Below W.heap.size W W'):B9 W' g v0 v1 v2 v3 v4 v5 v6 v7 v8:=(hb.block g h.lt).trans h
theorem B9.alloc (h:B9 W g v0 v1 v2 v3 v4 v5 v6 v7 v8) (o:Obj):B9 (W.alloc o) g v0 v1 v2 v3 v4 v5 v6 v7 v8:=(Below.heap_alloc W o g h.lt).trans h
end
theorem B9.new' (W:World) (v0 v1 v2 v3 v4 v5 v6 v7 v8:Value) (g:Nat) (hg:g=W.heap.size):B9 (W.alloc (.cells #[v0,v1,v2,v3,v4,v5,v6,v7,v8] 124)) g v0 v1 v2 v3 v4 v5 v6 v7 v8:=by subst hg;exact heap_alloc_new W _
def VQEa (V:Rat) (k:Nat) (x:Value) (w:World):Prop:=∃ s A n c B m d,x=.tuple #[.agg #[.bool s,.slice A n c,.slice B m d],.int .i64 0]∧QG w s A n c B m d V k
theorem stays_qea (v:Rat) (k:Nat):Stays (VQEa v k) :=
 ⟨fun _ _ _ ⟨s,A,n,c,B,m,d,h1,h2⟩ hb=>⟨s,A,n,c,B,m,d,h1,h2.below hb⟩,fun _ _ _ _ _ _ ⟨s,A,n,c,B,m,d,h1,h2⟩ hB ho=>⟨s,A,n,c,B,m,d,h1,h2.box hB ho⟩⟩
end
end Go.Proofs.YtgneghgfpkkkdaaGreat
