/- MatParts: part 13. -/
import Derived.Deep.AppendLies
import Derived.Deep.LoopGhost
import Derived.Laws.IdiomRangeMap
import Derived.LoopN
import Derived.WalkMore
import Derived.Test.YtgneghgfpkkkdaaGreatKMatParts10
import Derived.Test.YtgneghgfpkkkdaaGreatKMatParts11
import Derived.Test.YtgneghgfpkkkdaaGreatKMatParts12
set_option linter.unusedVariables false
set_option maxRecDepth 100000
set_option maxHeartbeats 16000000
variable {w:Go.World}
namespace Go.Proofs.YtgneghgfpkkkdaaGreat
section
open Go Go.RowKit
abbrev oneEs (u v:Int):Array MapEntry:=#[{key:=.int .i64 u,val:=.int .i64 v,born:=0}]
theorem setObj_it (W:World) (it:Nat) (o:Obj) {a:Option Nat} {b c:Nat} {z:Array Nat} (h:W.heap[it]?=some (.mapIter a b z c)):(setObj it o).run Tryz.prog W=.ok () {W with heap:=W.heap.setIfInBounds it o}:=by
 simp only [setObj,Sem.run,h]
theorem next_one1 (W:World) (it r:Nat) (ty:TypeId) (u v:Int) (h1:W.heap[it]?=some (.mapIter (some r) 1 #[] 1)) (h2:W.heap[r]?=some (.map (oneEs u v) 1)) :
 (Instr.next (.pointer (some ⟨it,0,none⟩)) false ty).run Tryz.prog W=.ok (.tuple #[.bool true,.int .i64 u,.int .i64 v]) {W with heap:=W.heap.setIfInBounds it (.mapIter (some r) 1 #[0] 1)}:=by
 have hset:=setObj_it W it (.mapIter (some r) 1 #[0] 1) h1
 simp [Instr.next,getObj,Sem.run,h1,h2,Result.andThen,choose,Question.forced,hset]
theorem next_one2 (W:World) (it r:Nat) (ty:TypeId) (u v:Int) (h1:W.heap[it]?=some (.mapIter (some r) 1 #[0] 1)) (h2:W.heap[r]?=some (.map (oneEs u v) 1)) :
 (Instr.next (.pointer (some ⟨it,0,none⟩)) false ty).run Tryz.prog W=.ok (.tuple #[.bool false]) W:=by
 simp [Instr.next,getObj,Sem.run,h1,h2,Result.andThen,choose,Question.forced]
theorem entry_one (W:World) (it r:Nat) (u v:Int) (h1:W.heap[it]?=some (.mapIter (some r) 1 #[0] 1)) (h2:W.heap[r]?=some (.map (oneEs u v) 1)) :
 (Instr.entry (.pointer (some ⟨it,0,none⟩))).run Tryz.prog W=.ok (.tuple #[.int .i64 u,.int .i64 v]) W:=by
 simp [Instr.entry,getObj,Sem.run,h1,h2,Result.andThen]
theorem mkbx34_13 {w W:World} {x0 x1 x2:Value} (h:(w.alloc (Obj.cells #[x0,x1,x2] 27))=W):Below w.heap.size w W∧B3 W (w.heap.size) x0 x1 x2:=by subst h;exact ⟨by exact (Below.refl _ _).alloc (Nat.le_refl _) _,by exact B3.new' _ _ _ _ _ rfl⟩
theorem sum_one {r:Nat} (u v:Int) (hm:w.heap[r]?=some (.map (oneEs u v) 1)) (hu1:1≤u) (hu2:u < 9223372036854775808) (hv1:-9223372036854775808≤v) (hv2:v < 9223372036854775808) :
 Calls Tryz.prog 186 #[.map (some r)] w (GivesQ w (Rat.divInt v u) 3):=by
 have hu0:((u:Int) == 0)=false:=by simp;omega
 have h1:-9223372036854775808≤u:=by omega
 have H1:=Lib.hid h1;have H2:=Lib.hid hu2;have H3:=Lib.hid hv1;have H4:=Lib.hid hv2;have H0:=Lib.hid hu0;have HM:=Lib.hid hm
 have HS:Hid (Rat.divInt 0 1+Rat.divInt v u=Rat.divInt v u):=by
  show _=_
  rw [show Rat.divInt 0 1=0 by decide +kernel,Rat.zero_add]
 have hrlt:r < w.heap.size:=by
  rcases Nat.lt_or_ge r w.heap.size with h | h
  · exact h
  · simp [Array.getElem?_eq_none h] at hm
 clear h1 hu2 hv1 hv2 hu0 hm
 go_enter Tryz.func186,Tryz.ntmps186
 go_upto_region 1 with (fail)
 generalize hW:World.alloc _ _=W
 obtain ⟨hb,Z⟩:=mkbx34_13 hW;clear hW
 go_upto_region 2 with (first
  | (go_at_call 60;(with_reducible refine (rof_q 0 1 (by decide) (by decide) (by decide) (by decide) (by decide) _).mono ?_);rintro e w_o ⟨s_o,A_o,n_o,c_o,B_o,m_o,d_o,rfl,o,hh⟩
     replace Z:=Z.below hh;have HBS:=Lib.hid Z.lt;replace hb:=bend hb hh))
 generalize hW:World.alloc _ _=W2
 obtain ⟨hh,T⟩:=mkbx34_13 hW;clear hW;replace o:=o.below hh;replace Z:=Z.below hh;replace hb:=bend hb hh
 have hm2:W2.heap[r]?=some (.map (oneEs u v) 1):=(hb.block r hrlt).trans HM.out
 have hrg:=run_range_map (P:=Tryz.prog) W2 208 2 2 r (oneEs u v) 1 (by kernel_rfl) hm2
 go_wp2_with fail
 refine wp_loop_rounds 2 ?_
 rw [rounds_succ]
 generalize hW:W2.alloc (Obj.mapIter (some r) 1 #[] 1)=W3
 obtain ⟨it,hit⟩:∃ it,it=W2.heap.size:=⟨_,rfl⟩
 have hi1:W3.heap[it]?=some (.mapIter (some r) 1 #[] 1):=by subst hW hit;exact heap_alloc_new _ _
 have hh:Below W2.heap.size W2 W3:=by subst hW;exact (Below.refl _ _).alloc (Nat.le_refl _) _
 have hm3:W3.heap[r]?=some (.map (oneEs u v) 1):=(hh.block r (Nat.lt_of_lt_of_le hrlt hb.size)).trans hm2
 have hitl:it < W3.heap.size:=by subst hW hit;simp
 rw [← hit]
 have hn1:∀ ty,_:=fun ty=>next_one1 W3 it r ty u v hi1 hm3
 have HI:=Lib.hid hit;have HW3:=Lib.hid hW;clear hrg hit hW
 go_upto_region 4 with (fail)
 generalize hW4:({heap:=W3.heap.setIfInBounds it (Obj.mapIter (some r) 1 #[0] 1),tape:=W3.tape,drawn:=W3.drawn,os:=W3.os,output:=W3.output}:World)=W4
 have hit:=HI.out
 have hi4:W4.heap[it]?=some (.mapIter (some r) 1 #[0] 1):=by subst hW4;simp [hitl]
 have hh4:Below W2.heap.size W2 W4:=by
  subst hW4
  exact ⟨hh.os,hh.tape,hh.output,by simpa using hh.size,fun k hk=>by
   show (W3.heap.setIfInBounds it _)[k]?=_
   rw [Array.getElem?_setIfInBounds_ne (by omega)];exact hh.block k hk⟩
 have hm4:W4.heap[r]?=some (.map (oneEs u v) 1):=(hh4.block r (Nat.lt_of_lt_of_le hrlt hb.size)).trans hm2
 have hW:=HW3.out;have hT0:=T.lt
 have hTit:w_o.heap.size < it:=by rw [hit];exact hT0
 have hitw:w.heap.size≤w_o.heap.size:=Nat.le_of_lt HBS.out
 have hi4l:it < W4.heap.size:=by subst hW4;simpa using hitl
 have hw4:W4.heap.size=it+1:=by subst hW4;rw [hit,← hW];simp
 clear hn1 hW4 hi1 hW hm3 hitl hm2 hh hT0;clear hit HW3;replace o:=o.below hh4;replace Z:=Z.below hh4;replace T:=T.below hh4;replace hb:=bend hb hh4;clear hh4;have hen:=entry_one W4 it r u v hi4 hm4
 go_upto_region 6 with (fail)
 clear hen
 have Hi4:Hid (W4.drew.heap[it]?=some (.mapIter (some r) 1 #[0] 1)):=hi4
 have Hm4:Hid (W4.drew.heap[r]?=some (.map (oneEs u v) 1)):=hm4
 clear hi4 hm4
 have hw4d:W4.drew.heap.size=it+1:=hw4
 replace o:=o.below (Below.refl _ _).drew
 replace Z:=Z.below (Below.refl _ _).drew
 replace T:=T.below (Below.refl _ _).drew
 replace hb:=hb.drew;obtain ⟨t0,t1,t2⟩:=T.all;have zf0:=T.f0;have zf1:=T.f1;have zf2:=T.f2;obtain ⟨z0,z1,z2⟩:=T.all
 go_region_with (first
  | (go_at_call 60;(with_reducible refine (rof_q v u H3.out H4.out H1.out H2.out H0.out _).mono ?_);rintro e w_q ⟨s_q,A_q,n_q,c_q,B_q,m_q,d_q,rfl,q,hh⟩
     (try replace o:=o.below hh);(try replace t:=t.below hh);(try replace T:=T.below hh);(try replace Z:=Z.below hh);replace hb:=bend hb hh;obtain ⟨t0,t1,t2⟩:=T.all;have hh1:=hh;have zf0:=T.f0;have zf1:=T.f1;have zf2:=T.f2;obtain ⟨t0,t1,t2⟩:=T.all)
  | (go_at_call 32;(with_reducible refine (radd_q o.qr q.qr (by decide) (by decide) (.inl (by decide)) (by decide) (by decide)).mono ?_);rintro e w_t ⟨s_t,A_t,n_t,c_t,B_t,m_t,d_t,rfl,t,hh⟩
     (try replace o:=o.below hh);(try replace q:=q.below hh);(try replace T:=T.below hh);(try replace Z:=Z.below hh);replace hb:=bend hb hh;obtain ⟨t0,t1,t2⟩:=T.all;have zf0:=T.f0;have zf1:=T.f1;have zf2:=T.f2;obtain ⟨z0,z1,z2⟩:=T.all))
 all_goals
  have hh5:=hh1.trans (hh.mono hh1.size)
  have hi5:w_t.heap[it]?=some (.mapIter (some r) 1 #[0] 1):=(hh5.block it (by omega)).trans Hi4.out
  have hm5:w_t.heap[r]?=some (.map (oneEs u v) 1):=(hh5.block r (by omega)).trans Hm4.out
  generalize hW5:(((w_t.setCell ⟨w_o.heap.size,0,none⟩ (Value.bool s_t)).setCell ⟨w_o.heap.size,1,none⟩ (Value.slice A_t n_t c_t)).setCell ⟨w_o.heap.size,2,none⟩ (Value.slice B_t m_t d_t))=W5
  have hz3:∀ k,k ≠ w_o.heap.size→W5.heap[k]?=w_t.heap[k]?:=by
   intro k hk
   subst hW5
   rw [Below.heap_setCell _ _ _ _ hk,Below.heap_setCell _ _ _ _ hk,Below.heap_setCell _ _ _ _ hk]
  have T5:B3 W5 w_o.heap.size (Value.bool s_t) (Value.slice A_t n_t c_t) (Value.slice B_t m_t d_t):=by subst hW5;exact T.set3 _ _ _
  have t5:QG W5 s_t A_t n_t c_t B_t m_t d_t (Rat.divInt v u) 3:=by
   subst hW5
   rw [HS.out] at t
   exact t.set3 T _ _ _
  have hb5:Below w.heap.size w W5:=by subst hW5;exact below_set3 hb hitw _ _ _
  have hwlt:w.heap.size < w_o.heap.size:=by have:=HBS.out;omega
  have Z5:B3 W5 w.heap.size (Value.bool false) (Value.slice none 0 0) (Value.slice none 0 0):=(hz3 _ (by omega)).trans Z
  have hi6:W5.heap[it]?=_:=(hz3 it (by omega)).trans hi5
  have hm6:W5.heap[r]?=_:=(hz3 r (by omega)).trans hm5
  clear hz3 hW5 hh5 hi5 hm5 hh hh1 o q T Z hb t
  have hn2:∀ ty,_:=fun ty=>next_one2 W5 it r ty u v hi6 hm6
  clear hi6 hm6;have zf0:=Z5.f0;have zf1:=Z5.f1;have zf2:=Z5.f2;obtain ⟨z0,z1,z2⟩:=Z5.all;obtain ⟨t0,t1,t2⟩:=T5.all
  go_wp2_with fail
  rw [rounds_succ]
  go_wp2_with fail
  have Z2:=Z5.set3 (.bool s_t) (.slice A_t n_t c_t) (.slice B_t m_t d_t)
  obtain ⟨g0,g1,g2⟩:=Z2.all
  refine bodyPost_ret (v:=.agg #[.bool s_t,.slice A_t n_t c_t,.slice B_t m_t d_t]) (by simp [results,Tryz.results186,go_sem,g0,g1,g2]) rfl ?_
  exact ⟨s_t,A_t,n_t,c_t,B_t,m_t,d_t,rfl,t5.set3 Z5 _ _ _,below_set3 hb5 (Nat.le_refl _) _ _ _⟩
theorem und_parts:Tryz.prog.underlying 208=some (.map 2 2):=by kernel_rfl
theorem und_i64:Tryz.prog.underlying 2=some (.int .i64):=by kernel_rfl
theorem run_updF {r:Nat} (u v:Int) (hb:w.heap[r]?=some (.map #[] 0)) :
 (Instr.mapUpdate 208 (.map (some r)) (.int .i64 u) (.int .i64 v)).run Tryz.prog w=.ok () (setMap w r (oneEs u v) 1):=by
 have hk:Go.MapKept.IsKey (.int .i64) (.int .i64 u):=rfl
 have h1:Instr.findNow (.int .i64) (.int .i64 u) (#[]:Array MapEntry).toList 0=some none:=rfl
 simp [Instr.mapUpdate,run_underlying und_parts,Go.MapKept.run_getObj_map hb,Go.MapKept.run_checkKey und_i64 hk,Go.MapKept.run_findKey und_i64 h1,Go.MapKept.run_setObj_map _ hb,Result.andThen,setMap]
theorem small1 {v u:Int} (hu1:1≤u) (hu2:u < 9223372036854775808) (hv1:-9223372036854775808≤v) (hv2:v < 9223372036854775808):(Rat.divInt v u).num.natAbs < B64 ^ 1∧(Rat.divInt v u).den < B64 ^ 1:=by
 have h0:u ≠ 0:=by omega
 rw [div_num h0,div_den h0,Nat.pow_one]
 have h1:=Nat.div_le_self v.natAbs (Nat.gcd v.natAbs u.natAbs)
 have h2:=Nat.div_le_self u.natAbs (Nat.gcd v.natAbs u.natAbs)
 have:B64=18446744073709551616:=rfl
 omega
theorem from_q (v u:Int) (hu1:1≤u) (hu2:u < 9223372036854775808) (hv1:-9223372036854775808≤v) (hv2:v < 9223372036854775808) (w:World) :
 Calls Tryz.prog 158 #[.int .i64 v,.int .i64 u] w (GivesQ w (Rat.divInt v u) 1):=by
 have hs:=small1 hu1 hu2 hv1 hv2;have HS:=Lib.hid hs;have H1:=Lib.hid hu1;have H2:=Lib.hid hu2;have H3:=Lib.hid hv1;have H4:=Lib.hid hv2;clear hs hu1 hu2 hv1 hv2
 have hmm:=@run_makeMap Tryz.prog
 go_enter Tryz.func158,Tryz.ntmps158
 go_upto_region 1 with (fail)
 generalize hW:World.alloc _ _=W
 obtain ⟨hb,Z⟩:=mkbx34_13 hW;clear hW
 have h0:(W.alloc (.map #[] 0)).heap[W.heap.size]?=some (.map #[] 0):=heap_alloc_new W _
 have hi0:=run_updF u v h0
 have h2:Below W.heap.size W (setMap (W.alloc (.map #[] 0)) W.heap.size (oneEs u v) 1):=below_setMap ((Below.refl _ _).alloc (Nat.le_refl _) _) (Nat.le_refl _) _ _
 have hm:(setMap (W.alloc (.map #[] 0)) W.heap.size (oneEs u v) 1).heap[W.heap.size]?=some (.map (oneEs u v) 1):=setMap_at (by simp)
 have HM:=Lib.hid hm;clear h0 hm
 go_wp2_with (first
  | (go_at_call 186;(with_reducible refine (sum_one u v HM.out H1.out H2.out H3.out H4.out).mono ?_);rintro e w_t ⟨s_t,A_t,n_t,c_t,B_t,m_t,d_t,rfl,t,hh⟩
     replace Z:=Z.below h2;replace hb:=bend hb h2;(try replace Z:=Z.below hh);replace hb:=bend hb hh;have zf0:=Z.f0;have zf1:=Z.f1;have zf2:=Z.f2;obtain ⟨z0,z1,z2⟩:=Z.all))
 replace t:=t.tight HS.out.1 HS.out.2
 have Z2:=Z.set3 (.bool s_t) (.slice A_t n_t c_t) (.slice B_t m_t d_t)
 obtain ⟨g0,g1,g2⟩:=Z2.all
 refine bodyPost_ret (v:=.agg #[.bool s_t,.slice A_t n_t c_t,.slice B_t m_t d_t]) (by simp [results,Tryz.results158,go_sem,g0,g1,g2]) rfl ?_
 exact ⟨s_t,A_t,n_t,c_t,B_t,m_t,d_t,rfl,t.set3 Z _ _ _,below_set3 hb (by omega) _ _ _⟩
end
section
open Go Go.RowKit
def fromQ (v u:Int):Rat:=if u < 1 then Rat.divInt 0 1 else Rat.divInt v u
end
section
open Go Go.RowKit
theorem sum_zero {r:Nat} (u v:Int) (hm:w.heap[r]?=some (.map (oneEs u v) 1)) (hu1:¬ 1≤u) :
 Calls Tryz.prog 186 #[.map (some r)] w (GivesQ w (Rat.divInt 0 1) 1):=by
 have HM:=Lib.hid hm
 have hrlt:r < w.heap.size:=by
  rcases Nat.lt_or_ge r w.heap.size with h | h
  · exact h
  · simp [Array.getElem?_eq_none h] at hm
 clear hm
 go_enter Tryz.func186,Tryz.ntmps186
 go_upto_region 1 with (fail)
 generalize hW:World.alloc _ _=W
 obtain ⟨hb,Z⟩:=mkbx34_13 hW;clear hW
 go_upto_region 2 with (first
  | (go_at_call 60;(with_reducible refine (rof_q 0 1 (by decide) (by decide) (by decide) (by decide) (by decide) _).mono ?_);rintro e w_o ⟨s_o,A_o,n_o,c_o,B_o,m_o,d_o,rfl,o,hh⟩
     replace Z:=Z.below hh;have HBS:=Lib.hid Z.lt;replace hb:=bend hb hh))
 generalize hW:World.alloc _ _=W2
 obtain ⟨hh,T⟩:=mkbx34_13 hW;clear hW;replace o:=o.below hh;replace Z:=Z.below hh;replace hb:=bend hb hh
 have hm2:W2.heap[r]?=some (.map (oneEs u v) 1):=(hb.block r hrlt).trans HM.out
 have hrg:=run_range_map (P:=Tryz.prog) W2 208 2 2 r (oneEs u v) 1 (by kernel_rfl) hm2
 go_wp2_with fail
 refine wp_loop_rounds 2 ?_
 rw [rounds_succ]
 generalize hW:W2.alloc (Obj.mapIter (some r) 1 #[] 1)=W3
 obtain ⟨it,hit⟩:∃ it,it=W2.heap.size:=⟨_,rfl⟩
 have hi1:W3.heap[it]?=some (.mapIter (some r) 1 #[] 1):=by subst hW hit;exact heap_alloc_new _ _
 have hh:Below W2.heap.size W2 W3:=by subst hW;exact (Below.refl _ _).alloc (Nat.le_refl _) _
 have hm3:W3.heap[r]?=some (.map (oneEs u v) 1):=(hh.block r (Nat.lt_of_lt_of_le hrlt hb.size)).trans hm2
 have hitl:it < W3.heap.size:=by subst hW hit;simp
 rw [← hit]
 have hn1:∀ ty,_:=fun ty=>next_one1 W3 it r ty u v hi1 hm3
 have HI:=Lib.hid hit;have HW3:=Lib.hid hW;clear hrg hit hW
 go_upto_region 4 with (fail)
 generalize hW4:({heap:=W3.heap.setIfInBounds it (Obj.mapIter (some r) 1 #[0] 1),tape:=W3.tape,drawn:=W3.drawn,os:=W3.os,output:=W3.output}:World)=W4
 have hit:=HI.out
 have hi4:W4.heap[it]?=some (.mapIter (some r) 1 #[0] 1):=by subst hW4;simp [hitl]
 have hh4:Below W2.heap.size W2 W4:=by
  subst hW4
  exact ⟨hh.os,hh.tape,hh.output,by simpa using hh.size,fun k hk=>by
   show (W3.heap.setIfInBounds it _)[k]?=_
   rw [Array.getElem?_setIfInBounds_ne (by omega)];exact hh.block k hk⟩
 have hm4:W4.heap[r]?=some (.map (oneEs u v) 1):=(hh4.block r (Nat.lt_of_lt_of_le hrlt hb.size)).trans hm2
 have hW:=HW3.out;have hT0:=T.lt
 have hTit:w_o.heap.size < it:=by rw [hit];exact hT0
 have hitw:w.heap.size≤w_o.heap.size:=Nat.le_of_lt HBS.out
 have hi4l:it < W4.heap.size:=by subst hW4;simpa using hitl
 have hw4:W4.heap.size=it+1:=by subst hW4;rw [hit,← hW];simp
 clear hn1 hW4 hi1 hW hm3 hitl hm2 hh hT0;clear hit HW3;replace o:=o.below hh4;replace Z:=Z.below hh4;replace T:=T.below hh4;replace hb:=bend hb hh4;clear hh4;have hen:=entry_one W4 it r u v hi4 hm4
 have hn2:∀ ty,_:=fun ty=>next_one2 W4 it r ty u v hi4 hm4
 have zf0:=Z.f0;have zf1:=Z.f1;have zf2:=Z.f2;obtain ⟨z0,z1,z2⟩:=Z.all;obtain ⟨t0,t1,t2⟩:=T.all
 go_wp2_with fail
 rw [rounds_succ];clear hen
 go_wp2_with fail
 have Z2:=Z.set3 (.bool s_o) (.slice A_o n_o c_o) (.slice B_o m_o d_o)
 obtain ⟨g0,g1,g2⟩:=Z2.all
 refine bodyPost_ret (v:=.agg #[.bool s_o,.slice A_o n_o c_o,.slice B_o m_o d_o]) (by simp [results,Tryz.results186,go_sem,g0,g1,g2]) rfl ?_
 exact ⟨s_o,A_o,n_o,c_o,B_o,m_o,d_o,rfl,o.set3 Z _ _ _,below_set3 hb (Nat.le_refl _) _ _ _⟩
theorem from_zero (v u:Int) (hu1:¬ 1≤u) (w:World) :
 Calls Tryz.prog 158 #[.int .i64 v,.int .i64 u] w (GivesQ w (Rat.divInt 0 1) 1):=by
 have H1:=Lib.hid hu1;clear hu1
 have hmm:=@run_makeMap Tryz.prog
 go_enter Tryz.func158,Tryz.ntmps158
 go_upto_region 1 with (fail)
 generalize hW:World.alloc _ _=W
 obtain ⟨hb,Z⟩:=mkbx34_13 hW;clear hW
 have h0:(W.alloc (.map #[] 0)).heap[W.heap.size]?=some (.map #[] 0):=heap_alloc_new W _
 have hi0:=run_updF u v h0
 have h2:Below W.heap.size W (setMap (W.alloc (.map #[] 0)) W.heap.size (oneEs u v) 1):=below_setMap ((Below.refl _ _).alloc (Nat.le_refl _) _) (Nat.le_refl _) _ _
 have hm:(setMap (W.alloc (.map #[] 0)) W.heap.size (oneEs u v) 1).heap[W.heap.size]?=some (.map (oneEs u v) 1):=setMap_at (by simp)
 have HM:=Lib.hid hm;clear h0 hm
 go_wp2_with (first
  | (go_at_call 186;(with_reducible refine (sum_zero u v HM.out H1.out).mono ?_);rintro e w_t ⟨s_t,A_t,n_t,c_t,B_t,m_t,d_t,rfl,t,hh⟩
     replace Z:=Z.below h2;replace hb:=bend hb h2;(try replace Z:=Z.below hh);replace hb:=bend hb hh;have zf0:=Z.f0;have zf1:=Z.f1;have zf2:=Z.f2;obtain ⟨z0,z1,z2⟩:=Z.all))
 have Z2:=Z.set3 (.bool s_t) (.slice A_t n_t c_t) (.slice B_t m_t d_t)
 obtain ⟨g0,g1,g2⟩:=Z2.all
 refine bodyPost_ret (v:=.agg #[.bool s_t,.slice A_t n_t c_t,.slice B_t m_t d_t]) (by simp [results,Tryz.results158,go_sem,g0,g1,g2]) rfl ?_
 exact ⟨s_t,A_t,n_t,c_t,B_t,m_t,d_t,rfl,t.set3 Z _ _ _,below_set3 hb (by omega) _ _ _⟩
theorem from_all (v u:Int) (hv1:-9223372036854775808≤v) (hv2:v < 9223372036854775808) (hu1:-9223372036854775808≤u) (hu2:u < 9223372036854775808) (w:World) :
 Calls Tryz.prog 158 #[.int .i64 v,.int .i64 u] w (GivesQ w (fromQ v u) 1):=by
 unfold fromQ
 split
 · exact from_zero v u (by omega) w
 · exact from_q v u (by omega) hu2 hv1 hv2 w
end
section
open Go Go.RowKit
attribute [local go_sem ↓] open_LVM open_STM open_LVN open_STN
def BV6 (W:World) (g:Nat) (v0 v1 v2 v3 v4 v5:Value):Prop:=W.heap[g]?=some (.cells #[v0,v1,v2,v3,v4,v5] 91 (0,0))
section
variable {W W':World} {g:Nat} {v0 v1 v2 v3 v4 v5:Value}
theorem BV6.c0 (h:BV6 W g v0 v1 v2 v3 v4 v5):W.cell? ⟨g,0,none⟩=some v0:=by rw [cell_of_row W g 0 _ _ (0,0) h];rfl
theorem BV6.c1 (h:BV6 W g v0 v1 v2 v3 v4 v5):W.cell? ⟨g,1,none⟩=some v1:=by rw [cell_of_row W g 1 _ _ (0,0) h];rfl
theorem BV6.c2 (h:BV6 W g v0 v1 v2 v3 v4 v5):W.cell? ⟨g,2,none⟩=some v2:=by rw [cell_of_row W g 2 _ _ (0,0) h];rfl
theorem BV6.c3 (h:BV6 W g v0 v1 v2 v3 v4 v5):W.cell? ⟨g,3,none⟩=some v3:=by rw [cell_of_row W g 3 _ _ (0,0) h];rfl
theorem BV6.c4 (h:BV6 W g v0 v1 v2 v3 v4 v5):W.cell? ⟨g,4,none⟩=some v4:=by rw [cell_of_row W g 4 _ _ (0,0) h];rfl
theorem BV6.c5 (h:BV6 W g v0 v1 v2 v3 v4 v5):W.cell? ⟨g,5,none⟩=some v5:=by rw [cell_of_row W g 5 _ _ (0,0) h];rfl
theorem BV6.all (h:BV6 W g v0 v1 v2 v3 v4 v5):W.cell? ⟨g,0,none⟩=some v0∧W.cell? ⟨g,1,none⟩=some v1∧W.cell? ⟨g,2,none⟩=some v2∧W.cell? ⟨g,3,none⟩=some v3∧W.cell? ⟨g,4,none⟩=some v4∧W.cell? ⟨g,5,none⟩=some v5:=⟨h.c0,h.c1,h.c2,h.c3,h.c4,h.c5⟩
theorem BV6.lt (h:BV6 W g v0 v1 v2 v3 v4 v5):g < W.heap.size:=World.block_lt_of_cell? W _ h.c0
theorem BV6.below (h:BV6 W g v0 v1 v2 v3 v4 v5) (hb:Below W.heap.size W W'):BV6 W' g v0 v1 v2 v3 v4 v5:=(hb.block g h.lt).trans h
theorem BV6.alloc (h:BV6 W g v0 v1 v2 v3 v4 v5) (o:Obj):BV6 (W.alloc o) g v0 v1 v2 v3 v4 v5:=(Below.heap_alloc W o g h.lt).trans h
theorem BV6.restm {k:Nat} (h:BV6 W g v0 v1 v2 v3 v4 v5) (hne:g ≠ k) (ho:Only k W W'):BV6 W' g v0 v1 v2 v3 v4 v5:=(ho.block g h.lt hne).trans h
theorem BV6.new' (W:World) (v0 v1 v2 v3 v4 v5:Value) (g:Nat) (hg:g=W.heap.size):BV6 (W.alloc (.cells #[v0,v1,v2,v3,v4,v5] 91)) g v0 v1 v2 v3 v4 v5:=by subst hg;exact heap_alloc_new W _
end
theorem atv_0 (g:Nat) (w:World):(Instr.indexAt 91 (Value.pointer (some ⟨g,0,none⟩)) (Value.int IntKind.i64 0)).run Tryz.prog w=.ok (.pointer (some ⟨g,0,none⟩)) w:=by kernel_rfl
theorem atv_1 (g:Nat) (w:World):(Instr.indexAt 91 (Value.pointer (some ⟨g,0,none⟩)) (Value.int IntKind.i64 1)).run Tryz.prog w=.ok (.pointer (some ⟨g,1,none⟩)) w:=by kernel_rfl
theorem atv_2 (g:Nat) (w:World):(Instr.indexAt 91 (Value.pointer (some ⟨g,0,none⟩)) (Value.int IntKind.i64 2)).run Tryz.prog w=.ok (.pointer (some ⟨g,2,none⟩)) w:=by kernel_rfl
theorem atv_3 (g:Nat) (w:World):(Instr.indexAt 91 (Value.pointer (some ⟨g,0,none⟩)) (Value.int IntKind.i64 3)).run Tryz.prog w=.ok (.pointer (some ⟨g,3,none⟩)) w:=by kernel_rfl
theorem atv_4 (g:Nat) (w:World):(Instr.indexAt 91 (Value.pointer (some ⟨g,0,none⟩)) (Value.int IntKind.i64 4)).run Tryz.prog w=.ok (.pointer (some ⟨g,4,none⟩)) w:=by kernel_rfl
theorem atv_5 (g:Nat) (w:World):(Instr.indexAt 91 (Value.pointer (some ⟨g,0,none⟩)) (Value.int IntKind.i64 5)).run Tryz.prog w=.ok (.pointer (some ⟨g,5,none⟩)) w:=by kernel_rfl
theorem mwhole_p (x y:Int) (hx1:-9223372036854775808≤x) (hx2:x < 9223372036854775808) (hy1:-9223372036854775808≤y) (hy2:y < 9223372036854775808) (w:World) :
 Calls Tryz.prog 116 #[.int .i64 x,.int .i64 y] w (GivesPt w (Rat.divInt x 1) (Rat.divInt y 1) 1):=by
 have Hx1:=Lib.hid hx1;have Hx2:=Lib.hid hx2;have Hy1:=Lib.hid hy1;have Hy2:=Lib.hid hy2;clear hx1 hx2 hy1 hy2
 go_enter Tryz.func116,Tryz.ntmps116
 go_upto_region 1 with (fail)
 generalize hW:World.alloc _ _=W
 obtain ⟨hb,Z,hzW⟩:=mkbx16_9 hW;clear hW
 go_wp2_with (first
  | (go_at_call 60;(with_reducible refine (rof_q x 1 Hx1.out Hx2.out (by decide) (by decide) (by decide) _).mono ?_);rintro e w_r ⟨s_r,A_r,n_r,c_r,B_r,m_r,d_r,rfl,r,hh⟩
     (try replace Z:=Z.below hh);replace hb:=bend hb hh)
  | (go_at_call 60;(with_reducible refine (rof_q y 1 Hy1.out Hy2.out (by decide) (by decide) (by decide) _).mono ?_);rintro e w_u ⟨s_u,A_u,n_u,c_u,B_u,m_u,d_u,rfl,u,hh⟩
     (try replace Z:=Z.below hh);(try replace r:=r.below hh);replace hb:=bend hb hh;have zg0:=Z.f0;have zg1:=Z.f1;have zg2:=Z.f2;have zg3:=Z.f3;have zg4:=Z.f4;have zg5:=Z.f5;obtain ⟨zc0,zc1,zc2,zc3,zc4,zc5⟩:=Z.all))
 have Z2:=Z.set6 (.bool s_r) (.slice A_r n_r c_r) (.slice B_r m_r d_r) (.bool s_u) (.slice A_u n_u c_u) (.slice B_u m_u d_u)
 obtain ⟨g0,g1,g2,g3,g4,g5⟩:=Z2.all
 refine bodyPost_ret (v:=.agg #[.bool s_r,.slice A_r n_r c_r,.slice B_r m_r d_r,.bool s_u,.slice A_u n_u c_u,.slice B_u m_u d_u]) (by simp [results,Tryz.results116,go_sem,g0,g1,g2,g3,g4,g5]) rfl ?_
 exact ⟨_,_,_,_,_,_,_,_,_,_,_,_,_,_,rfl,(show PG _ _ _ _ _ _ _ _ _ _ _ _ _ _ _ _ _ _ from ⟨r,u⟩).set6 Z _ _ _ _ _ _,below_set6 hb (by omega) _ _ _ _ _ _⟩
theorem mparts_p (x y u:Int) (hx1:-9223372036854775808≤x) (hx2:x < 9223372036854775808) (hy1:-9223372036854775808≤y) (hy2:y < 9223372036854775808) (hu1:-9223372036854775808≤u) (hu2:u < 9223372036854775808) (w:World) :
 Calls Tryz.prog 115 #[.int .i64 x,.int .i64 y,.int .i64 u] w (GivesPt w (fromQ x u) (fromQ y u) 1):=by
 have Hx1:=Lib.hid hx1;have Hx2:=Lib.hid hx2;have Hy1:=Lib.hid hy1;have Hy2:=Lib.hid hy2;have Hu1:=Lib.hid hu1;have Hu2:=Lib.hid hu2;clear hx1 hx2 hy1 hy2 hu1 hu2
 go_enter Tryz.func115,Tryz.ntmps115
 go_upto_region 1 with (fail)
 generalize hW:World.alloc _ _=W
 obtain ⟨hb,Z,hzW⟩:=mkbx16_9 hW;clear hW
 go_wp2_with (first
  | (go_at_call 158;(with_reducible refine (from_all x u Hx1.out Hx2.out Hu1.out Hu2.out _).mono ?_);rintro e w_r ⟨s_r,A_r,n_r,c_r,B_r,m_r,d_r,rfl,r,hh⟩
     (try replace Z:=Z.below hh);replace hb:=bend hb hh)
  | (go_at_call 158;(with_reducible refine (from_all y u Hy1.out Hy2.out Hu1.out Hu2.out _).mono ?_);rintro e w_t ⟨s_t,A_t,n_t,c_t,B_t,m_t,d_t,rfl,t,hh⟩
     (try replace Z:=Z.below hh);(try replace r:=r.below hh);replace hb:=bend hb hh;have zg0:=Z.f0;have zg1:=Z.f1;have zg2:=Z.f2;have zg3:=Z.f3;have zg4:=Z.f4;have zg5:=Z.f5;obtain ⟨zc0,zc1,zc2,zc3,zc4,zc5⟩:=Z.all))
 have Z2:=Z.set6 (.bool s_r) (.slice A_r n_r c_r) (.slice B_r m_r d_r) (.bool s_t) (.slice A_t n_t c_t) (.slice B_t m_t d_t)
 obtain ⟨g0,g1,g2,g3,g4,g5⟩:=Z2.all
 refine bodyPost_ret (v:=.agg #[.bool s_r,.slice A_r n_r c_r,.slice B_r m_r d_r,.bool s_t,.slice A_t n_t c_t,.slice B_t m_t d_t]) (by simp [results,Tryz.results115,go_sem,g0,g1,g2,g3,g4,g5]) rfl ?_
 exact ⟨_,_,_,_,_,_,_,_,_,_,_,_,_,_,rfl,(show PG _ _ _ _ _ _ _ _ _ _ _ _ _ _ _ _ _ _ from ⟨r,t⟩).set6 Z _ _ _ _ _ _,below_set6 hb (by omega) _ _ _ _ _ _⟩
def AM.one:AM:=⟨Rat.divInt 1 1,Rat.divInt 0 1,Rat.divInt 0 1,Rat.divInt 1 1,Rat.divInt 0 1,Rat.divInt 0 1⟩
def AM.of (x0 x1 x2 x3 x4 x5:Int):AM:=⟨fromQ x0 65536,fromQ x1 65536,fromQ x2 65536,fromQ x3 65536,fromQ x4 64,fromQ x5 64⟩
theorem mkbx35_13 {w W:World} {x0 x1 x2 x3 x4 x5 x6 x7 x8 x9 x10 x11 x12 x13 x14 x15 x16 x17:Value} (h:(w.alloc (Obj.cells #[x0,x1,x2,x3,x4,x5,x6,x7,x8,x9,x10,x11,x12,x13,x14,x15,x16,x17] 71))=W):Below w.heap.size w W∧B18 W (w.heap.size) x0 x1 x2 x3 x4 x5 x6 x7 x8 x9 x10 x11 x12 x13 x14 x15 x16 x17∧W.heap.size=w.heap.size+1:=by subst h;exact ⟨by exact ((Below.refl _ _).alloc (Nat.le_refl _) _),by exact B18.new' _ _ _ _ _ _ _ _ _ _ _ _ _ _ _ _ _ _ _ _ rfl,by simp⟩
theorem mone_p (w:World) :
 Calls Tryz.prog 53 #[] w (GivesMt w AM.one 1 1):=by
 go_enter Tryz.func53,Tryz.ntmps53
 go_upto_region 1 with (fail)
 generalize hW:World.alloc _ _=W
 obtain ⟨hb,Z,hzW⟩:=mkbx35_13 hW;clear hW
 go_wp2_with (first
  | (go_at_call 116;(with_reducible refine (mwhole_p 1 0 (by decide) (by decide) (by decide) (by decide) _).mono ?_);rintro e w_r1 ⟨s_r1,A_r1,n_r1,c_r1,B_r1,m_r1,d_r1,t_r1,E_r1,i_r1,e_r1,F_r1,j_r1,f_r1,rfl,r1,hh⟩
     (try replace Z:=Z.below hh);replace hb:=bend hb hh)
  | (go_at_call 116;(with_reducible refine (mwhole_p 0 1 (by decide) (by decide) (by decide) (by decide) _).mono ?_);rintro e w_r2 ⟨s_r2,A_r2,n_r2,c_r2,B_r2,m_r2,d_r2,t_r2,E_r2,i_r2,e_r2,F_r2,j_r2,f_r2,rfl,r2,hh⟩
     (try replace Z:=Z.below hh);(try replace r1:=r1.below hh);replace hb:=bend hb hh)
  | (go_at_call 116;(with_reducible refine (mwhole_p 0 0 (by decide) (by decide) (by decide) (by decide) _).mono ?_);rintro e w_r3 ⟨s_r3,A_r3,n_r3,c_r3,B_r3,m_r3,d_r3,t_r3,E_r3,i_r3,e_r3,F_r3,j_r3,f_r3,rfl,r3,hh⟩
     (try replace Z:=Z.below hh);(try replace r1:=r1.below hh);(try replace r2:=r2.below hh);replace hb:=bend hb hh)
  | (go_at_call 105;(with_reducible refine (mby_p r1 r2 r3).mono ?_);rintro e w_r ⟨r,rfl,rh,hh⟩
     (try replace Z:=Z.below hh);(try replace r1:=r1.below hh);(try replace r2:=r2.below hh);(try replace r3:=r3.below hh);replace hb:=bend hb hh
     have zst:=Z.st (.bool r.a.s) (.slice r.a.A r.a.n r.a.c) (.slice r.a.B r.a.m r.a.d) (.bool r.b.s) (.slice r.b.A r.b.n r.b.c) (.slice r.b.B r.b.m r.b.d) (.bool r.c.s) (.slice r.c.A r.c.n r.c.c) (.slice r.c.B r.c.m r.c.d) (.bool r.d.s) (.slice r.d.A r.d.n r.d.c) (.slice r.d.B r.d.m r.d.d) (.bool r.e.s) (.slice r.e.A r.e.n r.e.c) (.slice r.e.B r.e.m r.e.d) (.bool r.f.s) (.slice r.f.A r.f.n r.f.c) (.slice r.f.B r.f.m r.f.d) (by simp [Value.oneCell'])))
 have Z2:=Z.set18 (.bool r.a.s) (.slice r.a.A r.a.n r.a.c) (.slice r.a.B r.a.m r.a.d) (.bool r.b.s) (.slice r.b.A r.b.n r.b.c) (.slice r.b.B r.b.m r.b.d) (.bool r.c.s) (.slice r.c.A r.c.n r.c.c) (.slice r.c.B r.c.m r.c.d) (.bool r.d.s) (.slice r.d.A r.d.n r.d.c) (.slice r.d.B r.d.m r.d.d) (.bool r.e.s) (.slice r.e.A r.e.n r.e.c) (.slice r.e.B r.e.m r.e.d) (.bool r.f.s) (.slice r.f.A r.f.n r.f.c) (.slice r.f.B r.f.m r.f.d)
 have gl:=Z2.ld
 refine bodyPost_ret (v:=.agg #[.bool r.a.s,.slice r.a.A r.a.n r.a.c,.slice r.a.B r.a.m r.a.d,.bool r.b.s,.slice r.b.A r.b.n r.b.c,.slice r.b.B r.b.m r.b.d,.bool r.c.s,.slice r.c.A r.c.n r.c.c,.slice r.c.B r.c.m r.c.d,.bool r.d.s,.slice r.d.A r.d.n r.d.c,.slice r.d.B r.d.m r.d.d,.bool r.e.s,.slice r.e.A r.e.n r.e.c,.slice r.e.B r.e.m r.e.d,.bool r.f.s,.slice r.f.A r.f.n r.f.c,.slice r.f.B r.f.m r.f.d]) (res_M Tryz.results53 _ _ (by simp) gl) rfl ?_
 exact ⟨r,rfl,rh.set18 Z _ _ _ _ _ _ _ _ _ _ _ _ _ _ _ _ _ _,below_set18 hb (by omega) _ _ _ _ _ _ _ _ _ _ _ _ _ _ _ _ _ _⟩
theorem mkbx36_13 {w W:World} {x0 x1 x2 x3 x4 x5 x6 x7 x8 x9 x10 x11 x12 x13 x14 x15 x16 x17 x18 x19 x20 x21 x22 x23:Value} (h:((w.alloc (Obj.cells #[x0,x1,x2,x3,x4,x5] 91)).alloc (Obj.cells #[x6,x7,x8,x9,x10,x11,x12,x13,x14,x15,x16,x17,x18,x19,x20,x21,x22,x23] 71))=W):Below w.heap.size w W∧BV6 W (w.heap.size) x0 x1 x2 x3 x4 x5∧B18 W (w.heap.size+1) x6 x7 x8 x9 x10 x11 x12 x13 x14 x15 x16 x17 x18 x19 x20 x21 x22 x23∧W.heap.size=w.heap.size+2:=by subst h;exact ⟨by exact (((Below.refl _ _).alloc (Nat.le_refl _) _).alloc (by simp) _),by exact (BV6.new' _ _ _ _ _ _ _ _ rfl).alloc _,by exact B18.new' _ _ _ _ _ _ _ _ _ _ _ _ _ _ _ _ _ _ _ _ (by simp),by simp⟩
theorem mof_p (x0 x1 x2 x3 x4 x5:Int) (hx01:-9223372036854775808≤x0) (hx02:x0 < 9223372036854775808) (hx11:-9223372036854775808≤x1) (hx12:x1 < 9223372036854775808) (hx21:-9223372036854775808≤x2) (hx22:x2 < 9223372036854775808) (hx31:-9223372036854775808≤x3) (hx32:x3 < 9223372036854775808) (hx41:-9223372036854775808≤x4) (hx42:x4 < 9223372036854775808) (hx51:-9223372036854775808≤x5) (hx52:x5 < 9223372036854775808) (w:World) :
 Calls Tryz.prog 51 #[.agg #[.int .i64 x0,.int .i64 x1,.int .i64 x2,.int .i64 x3,.int .i64 x4,.int .i64 x5]] w (GivesMt w (AM.of x0 x1 x2 x3 x4 x5) 1 1):=by
 have Hx01:=Lib.hid hx01;have Hx02:=Lib.hid hx02;have Hx11:=Lib.hid hx11;have Hx12:=Lib.hid hx12;have Hx21:=Lib.hid hx21;have Hx22:=Lib.hid hx22;have Hx31:=Lib.hid hx31;have Hx32:=Lib.hid hx32;have Hx41:=Lib.hid hx41;have Hx42:=Lib.hid hx42;have Hx51:=Lib.hid hx51;have Hx52:=Lib.hid hx52;clear hx01 hx02 hx11 hx12 hx21 hx22 hx31 hx32 hx41 hx42 hx51 hx52;have hat0:=atv_0;have hat1:=atv_1;have hat2:=atv_2;have hat3:=atv_3;have hat4:=atv_4;have hat5:=atv_5
 go_enter Tryz.func51,Tryz.ntmps51
 go_upto_region 1 with (fail)
 generalize hW:World.alloc _ _=W
 obtain ⟨hb,XA,Z,hzW⟩:=mkbx36_13 hW;clear hW
 replace XA:=XA.below (Below.refl _ _).drew
 replace Z:=Z.below (Below.refl _ _).drew
 replace hb:=hb.drew
 go_region_held3 (fun w'=>w'.cell? ⟨w.heap.size,0,none⟩=some (.int .i64 x0)∧w'.cell? ⟨w.heap.size,1,none⟩=some (.int .i64 x1)∧w'.cell? ⟨w.heap.size,2,none⟩=some (.int .i64 x2)∧w'.cell? ⟨w.heap.size,3,none⟩=some (.int .i64 x3)∧w'.cell? ⟨w.heap.size,4,none⟩=some (.int .i64 x4)∧w'.cell? ⟨w.heap.size,5,none⟩=some (.int .i64 x5))
  (first | with_reducible exact ⟨XA.c0,XA.c1,XA.c2,XA.c3,XA.c4,XA.c5⟩ | with_reducible exact ⟨(XA.restm (by omega) (only_set18 _ _ _ _ _ _ _ _ _ _ _ _ _ _ _ _ _ _ _ _)).c0,(XA.restm (by omega) (only_set18 _ _ _ _ _ _ _ _ _ _ _ _ _ _ _ _ _ _ _ _)).c1,(XA.restm (by omega) (only_set18 _ _ _ _ _ _ _ _ _ _ _ _ _ _ _ _ _ _ _ _)).c2,(XA.restm (by omega) (only_set18 _ _ _ _ _ _ _ _ _ _ _ _ _ _ _ _ _ _ _ _)).c3,(XA.restm (by omega) (only_set18 _ _ _ _ _ _ _ _ _ _ _ _ _ _ _ _ _ _ _ _)).c4,(XA.restm (by omega) (only_set18 _ _ _ _ _ _ _ _ _ _ _ _ _ _ _ _ _ _ _ _)).c5⟩)
  (first
  | (go_at_call 115;(with_reducible refine (mparts_p x0 x1 65536 Hx01.out Hx02.out Hx11.out Hx12.out (by decide) (by decide) _).mono ?_);rintro e w_r1 ⟨s_r1,A_r1,n_r1,c_r1,B_r1,m_r1,d_r1,t_r1,E_r1,i_r1,e_r1,F_r1,j_r1,f_r1,rfl,r1,hh⟩
     (try replace XA:=XA.below hh);(try replace Z:=Z.below hh);replace hb:=bend hb hh)
  | (go_at_call 115;(with_reducible refine (mparts_p x2 x3 65536 Hx21.out Hx22.out Hx31.out Hx32.out (by decide) (by decide) _).mono ?_);rintro e w_r2 ⟨s_r2,A_r2,n_r2,c_r2,B_r2,m_r2,d_r2,t_r2,E_r2,i_r2,e_r2,F_r2,j_r2,f_r2,rfl,r2,hh⟩
     (try replace XA:=XA.below hh);(try replace Z:=Z.below hh);(try replace r1:=r1.below hh);replace hb:=bend hb hh)
  | (go_at_call 115;(with_reducible refine (mparts_p x4 x5 64 Hx41.out Hx42.out Hx51.out Hx52.out (by decide) (by decide) _).mono ?_);rintro e w_r3 ⟨s_r3,A_r3,n_r3,c_r3,B_r3,m_r3,d_r3,t_r3,E_r3,i_r3,e_r3,F_r3,j_r3,f_r3,rfl,r3,hh⟩
     (try replace XA:=XA.below hh);(try replace Z:=Z.below hh);(try replace r1:=r1.below hh);(try replace r2:=r2.below hh);replace hb:=bend hb hh)
  | (go_at_call 105;(with_reducible refine (mby_p r1 r2 r3).mono ?_);rintro e w_r ⟨r,rfl,rh,hh⟩
     (try replace XA:=XA.below hh);(try replace Z:=Z.below hh);(try replace r1:=r1.below hh);(try replace r2:=r2.below hh);(try replace r3:=r3.below hh);replace hb:=bend hb hh
     have zst:=Z.st (.bool r.a.s) (.slice r.a.A r.a.n r.a.c) (.slice r.a.B r.a.m r.a.d) (.bool r.b.s) (.slice r.b.A r.b.n r.b.c) (.slice r.b.B r.b.m r.b.d) (.bool r.c.s) (.slice r.c.A r.c.n r.c.c) (.slice r.c.B r.c.m r.c.d) (.bool r.d.s) (.slice r.d.A r.d.n r.d.c) (.slice r.d.B r.d.m r.d.d) (.bool r.e.s) (.slice r.e.A r.e.n r.e.c) (.slice r.e.B r.e.m r.e.d) (.bool r.f.s) (.slice r.f.A r.f.n r.f.c) (.slice r.f.B r.f.m r.f.d) (by simp [Value.oneCell'])))
 go_wp2_with fail
 have Z2:=Z.set18 (.bool r.a.s) (.slice r.a.A r.a.n r.a.c) (.slice r.a.B r.a.m r.a.d) (.bool r.b.s) (.slice r.b.A r.b.n r.b.c) (.slice r.b.B r.b.m r.b.d) (.bool r.c.s) (.slice r.c.A r.c.n r.c.c) (.slice r.c.B r.c.m r.c.d) (.bool r.d.s) (.slice r.d.A r.d.n r.d.c) (.slice r.d.B r.d.m r.d.d) (.bool r.e.s) (.slice r.e.A r.e.n r.e.c) (.slice r.e.B r.e.m r.e.d) (.bool r.f.s) (.slice r.f.A r.f.n r.f.c) (.slice r.f.B r.f.m r.f.d)
 have gl:=Z2.ld
 refine bodyPost_ret (v:=.agg #[.bool r.a.s,.slice r.a.A r.a.n r.a.c,.slice r.a.B r.a.m r.a.d,.bool r.b.s,.slice r.b.A r.b.n r.b.c,.slice r.b.B r.b.m r.b.d,.bool r.c.s,.slice r.c.A r.c.n r.c.c,.slice r.c.B r.c.m r.c.d,.bool r.d.s,.slice r.d.A r.d.n r.d.c,.slice r.d.B r.d.m r.d.d,.bool r.e.s,.slice r.e.A r.e.n r.e.c,.slice r.e.B r.e.m r.e.d,.bool r.f.s,.slice r.f.A r.f.n r.f.c,.slice r.f.B r.f.m r.f.d]) (res_M Tryz.results51 _ _ (by simp) gl) rfl ?_
 exact ⟨r,rfl,rh.set18 Z _ _ _ _ _ _ _ _ _ _ _ _ _ _ _ _ _ _,below_set18 hb (by omega) _ _ _ _ _ _ _ _ _ _ _ _ _ _ _ _ _ _⟩
def AM.sab (v u:AM):Bool:=decide (v.a=u.a∧v.b=u.b)
def AM.scd (v u:AM):Bool:=decide (v.c=u.c∧v.d=u.d)
def AM.sef (v u:AM):Bool:=decide (v.e=u.e∧v.f=u.f)
def AM.same (v u:AM):Bool:=(v.sab u && v.scd u) && v.sef u
theorem mkbx37_13 {w W:World} {x0 x1 x2 x3 x4 x5 x6 x7 x8 x9 x10 x11 x12 x13 x14 x15 x16 x17 x18 x19 x20 x21 x22 x23 x24 x25 x26 x27 x28 x29 x30 x31 x32 x33 x34 x35:Value} (h:((w.alloc (Obj.cells #[x0,x1,x2,x3,x4,x5,x6,x7,x8,x9,x10,x11,x12,x13,x14,x15,x16,x17] 71)).alloc (Obj.cells #[x18,x19,x20,x21,x22,x23,x24,x25,x26,x27,x28,x29,x30,x31,x32,x33,x34,x35] 71))=W):Below w.heap.size w W∧B18 W (w.heap.size) x0 x1 x2 x3 x4 x5 x6 x7 x8 x9 x10 x11 x12 x13 x14 x15 x16 x17∧B18 W (w.heap.size+1) x18 x19 x20 x21 x22 x23 x24 x25 x26 x27 x28 x29 x30 x31 x32 x33 x34 x35∧W.heap.size=w.heap.size+2:=by subst h;exact ⟨by exact (((Below.refl _ _).alloc (Nat.le_refl _) _).alloc (by simp) _),by exact (B18.new' _ _ _ _ _ _ _ _ _ _ _ _ _ _ _ _ _ _ _ _ rfl).alloc _,by exact B18.new' _ _ _ _ _ _ _ _ _ _ _ _ _ _ _ _ _ _ _ _ (by simp),by simp⟩
theorem msame_f1 {k l k2 l2:Nat} {v u:AM} {m n:MV} (M:MR w m v k l) (N:MR w n u k2 l2) (hk:k≤400) (hk2:k2≤400) (hl:l≤400) (hl2:l2≤400) (h1:1≤k) (h2:1≤k2) (h3:1≤l) (h4:1≤l2) (r1:decide (v.a=u.a∧v.b=u.b)=false) :
 Calls Tryz.prog 48 #[.agg #[.bool m.a.s,.slice m.a.A m.a.n m.a.c,.slice m.a.B m.a.m m.a.d,.bool m.b.s,.slice m.b.A m.b.n m.b.c,.slice m.b.B m.b.m m.b.d,.bool m.c.s,.slice m.c.A m.c.n m.c.c,.slice m.c.B m.c.m m.c.d,.bool m.d.s,.slice m.d.A m.d.n m.d.c,.slice m.d.B m.d.m m.d.d,.bool m.e.s,.slice m.e.A m.e.n m.e.c,.slice m.e.B m.e.m m.e.d,.bool m.f.s,.slice m.f.A m.f.n m.f.c,.slice m.f.B m.f.m m.f.d],.agg #[.bool n.a.s,.slice n.a.A n.a.n n.a.c,.slice n.a.B n.a.m n.a.d,.bool n.b.s,.slice n.b.A n.b.n n.b.c,.slice n.b.B n.b.m n.b.d,.bool n.c.s,.slice n.c.A n.c.n n.c.c,.slice n.c.B n.c.m n.c.d,.bool n.d.s,.slice n.d.A n.d.n n.d.c,.slice n.d.B n.d.m n.d.d,.bool n.e.s,.slice n.e.A n.e.n n.e.c,.slice n.e.B n.e.m n.e.d,.bool n.f.s,.slice n.f.A n.f.n n.f.c,.slice n.f.B n.f.m n.f.d]] w fun e w'=>e=.returned (.bool false)∧Below w.heap.size w w':=by
 have H1:=Lib.hid r1;clear r1
 go_enter Tryz.func48,Tryz.ntmps48
 go_upto_region 1 with (fail)
 generalize hW:World.alloc _ _=W
 obtain ⟨hb,XA,XB,hzW⟩:=mkbx37_13 hW;clear hW;replace M:=M.below hb;replace N:=N.below hb
 replace M:=M.below (Below.refl _ _).drew
 replace N:=N.below (Below.refl _ _).drew
 replace XA:=XA.below (Below.refl _ _).drew
 replace XB:=XB.below (Below.refl _ _).drew
 replace hb:=hb.drew
 refine wp_region_held_drew (S:=(fun w'=>(LVM ⟨w.heap.size,0,none⟩).run Tryz.prog w'=.ok (.agg #[.bool m.a.s,.slice m.a.A m.a.n m.a.c,.slice m.a.B m.a.m m.a.d,.bool m.b.s,.slice m.b.A m.b.n m.b.c,.slice m.b.B m.b.m m.b.d,.bool m.c.s,.slice m.c.A m.c.n m.c.c,.slice m.c.B m.c.m m.c.d,.bool m.d.s,.slice m.d.A m.d.n m.d.c,.slice m.d.B m.d.m m.d.d,.bool m.e.s,.slice m.e.A m.e.n m.e.c,.slice m.e.B m.e.m m.e.d,.bool m.f.s,.slice m.f.A m.f.n m.f.c,.slice m.f.B m.f.m m.f.d]) w'∧(LVM ⟨w.heap.size+1,0,none⟩).run Tryz.prog w'=.ok (.agg #[.bool n.a.s,.slice n.a.A n.a.n n.a.c,.slice n.a.B n.a.m n.a.d,.bool n.b.s,.slice n.b.A n.b.n n.b.c,.slice n.b.B n.b.m n.b.d,.bool n.c.s,.slice n.c.A n.c.n n.c.c,.slice n.c.B n.c.m n.c.d,.bool n.d.s,.slice n.d.A n.d.n n.d.c,.slice n.d.B n.d.m n.d.d,.bool n.e.s,.slice n.e.A n.e.n n.e.c,.slice n.e.B n.e.m n.e.d,.bool n.f.s,.slice n.f.A n.f.n n.f.c,.slice n.f.B n.f.m n.f.d]) w')) (by kernel_rfl) (by with_reducible exact ⟨XA.ld,XB.ld⟩) (fun hHeld=>?_)
 refine wpAnyH_take (i:=0) (oi:=⟨some 5,.load 71 (.tmp 2),71, "mat.go:75",#[],none⟩) (v:=?_) rfl (by kernel_rfl) (by kernel_rfl) (by kernel_rfl) (fun _ _ _ h=>h) (Or.inl ⟨by rfl,?_⟩) hHeld ?_
 rotate_left
 · (intro w hSw;(try dsimp only at hSw);go_simp;try with_reducible rfl)
 simp only [Act.put,List.setIfInBounds_toArray,List.set_cons_zero,List.set_cons_succ]
 refine wpAnyH_take (i:=2) (oi:=⟨some 7,.load 71 (.tmp 3),71, "mat.go:75",#[],none⟩) (v:=?_) rfl (by kernel_rfl) (by kernel_rfl) (by kernel_rfl) (fun _ _ _ h=>h) (Or.inl ⟨by rfl,?_⟩) hHeld ?_
 rotate_left
 · (intro w hSw;(try dsimp only at hSw);go_simp;try with_reducible rfl)
 simp only [Act.put,List.setIfInBounds_toArray,List.set_cons_zero,List.set_cons_succ]
 refine wpAnyH_ready (rs:=[1]) (by kernel_rfl) (by simp) ?_
 refine AllReadyH.cons (o:=⟨some 6,.call ⟨.value (.func 112),#[.tmp 5],#[71]⟩,29, "mat.go:75",#[⟨0,.data⟩],none⟩) rfl (fun K1 hK1=>?_) AllReadyH.nil
 go_simp
 first
  | (go_at_call 112;(with_reducible refine (mfirst_any).mono ?_);rintro e w_z ⟨rfl,hh⟩
     (try replace M:=M.below hh);(try replace N:=N.below hh);(try replace XA:=XA.below hh);(try replace XB:=XB.below hh);replace hb:=bend hb hh)
  | (go_at_call 113;(with_reducible refine (msecond_any).mono ?_);rintro e w_z ⟨rfl,hh⟩
     (try replace M:=M.below hh);(try replace N:=N.below hh);(try replace XA:=XA.below hh);(try replace XB:=XB.below hh);replace hb:=bend hb hh)
  | (go_at_call 108;(with_reducible refine (mmoved_any).mono ?_);rintro e w_z ⟨rfl,hh⟩
     (try replace M:=M.below hh);(try replace N:=N.below hh);(try replace XA:=XA.below hh);(try replace XB:=XB.below hh);replace hb:=bend hb hh)
  | (go_at_call 55;(with_reducible refine (psame_p M.ab N.ab hk hk2 h1 h2 false H1.out).mono ?_);rintro e w_z ⟨rfl,hh⟩
     (try replace M:=M.below hh);(try replace N:=N.below hh);(try replace XA:=XA.below hh);(try replace XB:=XB.below hh);replace hb:=bend hb hh)
 refine hK1.out _ _ (by with_reducible exact ⟨XA.ld,XB.ld⟩) (fun hHeld=>?_)
 clear hK1 K1
 refine wpAnyH_ready (rs:=[3]) (by kernel_rfl) (by simp) ?_
 refine AllReadyH.cons (o:=⟨some 8,.call ⟨.value (.func 112),#[.tmp 7],#[71]⟩,29, "mat.go:75",#[⟨2,.data⟩,⟨1,.chain⟩],none⟩) rfl (fun K1 hK1=>?_) AllReadyH.nil
 go_simp
 first
  | (go_at_call 112;(with_reducible refine (mfirst_any).mono ?_);rintro e w_z ⟨rfl,hh⟩
     (try replace M:=M.below hh);(try replace N:=N.below hh);(try replace XA:=XA.below hh);(try replace XB:=XB.below hh);replace hb:=bend hb hh)
  | (go_at_call 113;(with_reducible refine (msecond_any).mono ?_);rintro e w_z ⟨rfl,hh⟩
     (try replace M:=M.below hh);(try replace N:=N.below hh);(try replace XA:=XA.below hh);(try replace XB:=XB.below hh);replace hb:=bend hb hh)
  | (go_at_call 108;(with_reducible refine (mmoved_any).mono ?_);rintro e w_z ⟨rfl,hh⟩
     (try replace M:=M.below hh);(try replace N:=N.below hh);(try replace XA:=XA.below hh);(try replace XB:=XB.below hh);replace hb:=bend hb hh)
  | (go_at_call 55;(with_reducible refine (psame_p M.ab N.ab hk hk2 h1 h2 false H1.out).mono ?_);rintro e w_z ⟨rfl,hh⟩
     (try replace M:=M.below hh);(try replace N:=N.below hh);(try replace XA:=XA.below hh);(try replace XB:=XB.below hh);replace hb:=bend hb hh)
 refine hK1.out _ _ (by with_reducible exact ⟨XA.ld,XB.ld⟩) (fun hHeld=>?_)
 clear hK1 K1
 refine wpAnyH_ready (rs:=[4]) (by kernel_rfl) (by simp) ?_
 refine AllReadyH.cons (o:=⟨some 9,.call ⟨.value (.func 55),#[.tmp 6,.tmp 8],#[29,29]⟩,4, "mat.go:75",#[⟨1,.data⟩,⟨3,.data⟩,⟨3,.chain⟩],none⟩) rfl (fun K1 hK1=>?_) AllReadyH.nil
 go_simp
 first
  | (go_at_call 112;(with_reducible refine (mfirst_any).mono ?_);rintro e w_z ⟨rfl,hh⟩
     (try replace M:=M.below hh);(try replace N:=N.below hh);(try replace XA:=XA.below hh);(try replace XB:=XB.below hh);replace hb:=bend hb hh)
  | (go_at_call 113;(with_reducible refine (msecond_any).mono ?_);rintro e w_z ⟨rfl,hh⟩
     (try replace M:=M.below hh);(try replace N:=N.below hh);(try replace XA:=XA.below hh);(try replace XB:=XB.below hh);replace hb:=bend hb hh)
  | (go_at_call 108;(with_reducible refine (mmoved_any).mono ?_);rintro e w_z ⟨rfl,hh⟩
     (try replace M:=M.below hh);(try replace N:=N.below hh);(try replace XA:=XA.below hh);(try replace XB:=XB.below hh);replace hb:=bend hb hh)
  | (go_at_call 55;(with_reducible refine (psame_p M.ab N.ab hk hk2 h1 h2 false H1.out).mono ?_);rintro e w_z ⟨rfl,hh⟩
     (try replace M:=M.below hh);(try replace N:=N.below hh);(try replace XA:=XA.below hh);(try replace XB:=XB.below hh);replace hb:=bend hb hh)
 refine hK1.out _ _ (by with_reducible exact ⟨XA.ld,XB.ld⟩) (fun hHeld=>?_)
 clear hK1 K1
 refine wpAnyH_take (i:=5) (oi:=⟨some 10,.move (.tmp 9),4, "mat.go:75",#[⟨4,.data⟩,⟨4,.chain⟩],none⟩) (v:=?_) rfl (by kernel_rfl) (by kernel_rfl) (by kernel_rfl) (fun _ _ _ h=>h) (Or.inl ⟨by rfl,?_⟩) hHeld ?_
 rotate_left
 · (intro w hSw;(try dsimp only at hSw);go_simp;try with_reducible rfl)
 simp only [Act.put,List.setIfInBounds_toArray,List.set_cons_zero,List.set_cons_succ]
 refine wpAnyH_take (i:=6) (oi:=⟨some 11,.load 71 (.tmp 2),71, "mat.go:75",#[⟨5,.guard⟩],some (5,true)⟩) (v:=undef) rfl (by kernel_rfl) (by kernel_rfl) (by kernel_rfl) (fun _ _ _ h=>h) (Or.inr ⟨by rfl,rfl⟩) hHeld ?_
 simp only [Act.put,List.setIfInBounds_toArray,List.set_cons_zero,List.set_cons_succ]
 refine wpAnyH_take (i:=7) (oi:=⟨some 12,.call ⟨.value (.func 113),#[.tmp 11],#[71]⟩,29, "mat.go:75",#[⟨6,.data⟩,⟨5,.chain⟩,⟨5,.guard⟩],some (5,true)⟩) (v:=undef) rfl (by kernel_rfl) (by kernel_rfl) (by kernel_rfl) (fun _ _ _ h=>h) (Or.inr ⟨by rfl,rfl⟩) hHeld ?_
 simp only [Act.put,List.setIfInBounds_toArray,List.set_cons_zero,List.set_cons_succ]
 refine wpAnyH_take (i:=8) (oi:=⟨some 13,.load 71 (.tmp 3),71, "mat.go:75",#[⟨5,.guard⟩],some (5,true)⟩) (v:=undef) rfl (by kernel_rfl) (by kernel_rfl) (by kernel_rfl) (fun _ _ _ h=>h) (Or.inr ⟨by rfl,rfl⟩) hHeld ?_
 simp only [Act.put,List.setIfInBounds_toArray,List.set_cons_zero,List.set_cons_succ]
 refine wpAnyH_take (i:=9) (oi:=⟨some 14,.call ⟨.value (.func 113),#[.tmp 13],#[71]⟩,29, "mat.go:75",#[⟨8,.data⟩,⟨7,.chain⟩,⟨5,.guard⟩],some (5,true)⟩) (v:=undef) rfl (by kernel_rfl) (by kernel_rfl) (by kernel_rfl) (fun _ _ _ h=>h) (Or.inr ⟨by rfl,rfl⟩) hHeld ?_
 simp only [Act.put,List.setIfInBounds_toArray,List.set_cons_zero,List.set_cons_succ]
 refine wpAnyH_take (i:=10) (oi:=⟨some 15,.call ⟨.value (.func 55),#[.tmp 12,.tmp 14],#[29,29]⟩,4, "mat.go:75",#[⟨7,.data⟩,⟨9,.data⟩,⟨9,.chain⟩,⟨5,.guard⟩],some (5,true)⟩) (v:=undef) rfl (by kernel_rfl) (by kernel_rfl) (by kernel_rfl) (fun _ _ _ h=>h) (Or.inr ⟨by rfl,rfl⟩) hHeld ?_
 simp only [Act.put,List.setIfInBounds_toArray,List.set_cons_zero,List.set_cons_succ]
 refine wpAnyH_take (i:=11) (oi:=⟨some 16,.pick (.tmp 10) (.tmp 15) (.const (Value.bool false)),4, "mat.go:75",#[⟨5,.data⟩,⟨10,.data⟩],none⟩) (v:=?_) rfl (by kernel_rfl) (by kernel_rfl) (by kernel_rfl) (fun _ _ _ h=>h) (Or.inl ⟨by rfl,?_⟩) hHeld ?_
 rotate_left
 · (intro w hSw;(try dsimp only at hSw);go_simp;try with_reducible rfl)
 simp only [Act.put,List.setIfInBounds_toArray,List.set_cons_zero,List.set_cons_succ]
 refine wpAnyH_take (i:=12) (oi:=⟨some 17,.move (.tmp 16),4, "mat.go:75",#[⟨11,.data⟩,⟨10,.chain⟩],none⟩) (v:=?_) rfl (by kernel_rfl) (by kernel_rfl) (by kernel_rfl) (fun _ _ _ h=>h) (Or.inl ⟨by rfl,?_⟩) hHeld ?_
 rotate_left
 · (intro w hSw;(try dsimp only at hSw);go_simp;try with_reducible rfl)
 simp only [Act.put,List.setIfInBounds_toArray,List.set_cons_zero,List.set_cons_succ]
 refine wpAnyH_take (i:=13) (oi:=⟨some 18,.load 71 (.tmp 2),71, "mat.go:75",#[⟨12,.guard⟩],some (12,true)⟩) (v:=undef) rfl (by kernel_rfl) (by kernel_rfl) (by kernel_rfl) (fun _ _ _ h=>h) (Or.inr ⟨by rfl,rfl⟩) hHeld ?_
 simp only [Act.put,List.setIfInBounds_toArray,List.set_cons_zero,List.set_cons_succ]
 refine wpAnyH_take (i:=14) (oi:=⟨some 19,.call ⟨.value (.func 108),#[.tmp 18],#[71]⟩,29, "mat.go:75",#[⟨13,.data⟩,⟨12,.chain⟩,⟨12,.guard⟩],some (12,true)⟩) (v:=undef) rfl (by kernel_rfl) (by kernel_rfl) (by kernel_rfl) (fun _ _ _ h=>h) (Or.inr ⟨by rfl,rfl⟩) hHeld ?_
 simp only [Act.put,List.setIfInBounds_toArray,List.set_cons_zero,List.set_cons_succ]
 refine wpAnyH_take (i:=15) (oi:=⟨some 20,.load 71 (.tmp 3),71, "mat.go:75",#[⟨12,.guard⟩],some (12,true)⟩) (v:=undef) rfl (by kernel_rfl) (by kernel_rfl) (by kernel_rfl) (fun _ _ _ h=>h) (Or.inr ⟨by rfl,rfl⟩) hHeld ?_
 simp only [Act.put,List.setIfInBounds_toArray,List.set_cons_zero,List.set_cons_succ]
 refine wpAnyH_take (i:=16) (oi:=⟨some 21,.call ⟨.value (.func 108),#[.tmp 20],#[71]⟩,29, "mat.go:75",#[⟨15,.data⟩,⟨14,.chain⟩,⟨12,.guard⟩],some (12,true)⟩) (v:=undef) rfl (by kernel_rfl) (by kernel_rfl) (by kernel_rfl) (fun _ _ _ h=>h) (Or.inr ⟨by rfl,rfl⟩) hHeld ?_
 simp only [Act.put,List.setIfInBounds_toArray,List.set_cons_zero,List.set_cons_succ]
 refine wpAnyH_take (i:=17) (oi:=⟨some 22,.call ⟨.value (.func 55),#[.tmp 19,.tmp 21],#[29,29]⟩,4, "mat.go:75",#[⟨14,.data⟩,⟨16,.data⟩,⟨16,.chain⟩,⟨12,.guard⟩],some (12,true)⟩) (v:=undef) rfl (by kernel_rfl) (by kernel_rfl) (by kernel_rfl) (fun _ _ _ h=>h) (Or.inr ⟨by rfl,rfl⟩) hHeld ?_
 simp only [Act.put,List.setIfInBounds_toArray,List.set_cons_zero,List.set_cons_succ]
 refine wpAnyH_take (i:=18) (oi:=⟨some 23,.pick (.tmp 17) (.tmp 22) (.const (Value.bool false)),4, "mat.go:75",#[⟨12,.data⟩,⟨17,.data⟩],none⟩) (v:=?_) rfl (by kernel_rfl) (by kernel_rfl) (by kernel_rfl) (fun _ _ _ h=>h) (Or.inl ⟨by rfl,?_⟩) hHeld ?_
 rotate_left
 · (intro w hSw;(try dsimp only at hSw);go_simp;try with_reducible rfl)
 simp only [Act.put,List.setIfInBounds_toArray,List.set_cons_zero,List.set_cons_succ]
 refine wpAnyH_take (i:=19) (oi:=⟨some 4,.assign (.tmp 23),4, "mat.go:75",#[⟨18,.data⟩,⟨17,.chain⟩,⟨0,.phase⟩,⟨1,.phase⟩,⟨2,.phase⟩,⟨3,.phase⟩,⟨4,.phase⟩,⟨5,.phase⟩,⟨6,.phase⟩,⟨7,.phase⟩,⟨8,.phase⟩,⟨9,.phase⟩,⟨10,.phase⟩,⟨11,.phase⟩,⟨12,.phase⟩,⟨13,.phase⟩,⟨14,.phase⟩,⟨15,.phase⟩,⟨16,.phase⟩,⟨17,.phase⟩,⟨18,.phase⟩],none⟩) (v:=?_) rfl (by kernel_rfl) (by kernel_rfl) (by kernel_rfl) (fun _ _ _ h=>h) (Or.inl ⟨by rfl,?_⟩) hHeld ?_
 rotate_left
 · (intro w hSw;(try dsimp only at hSw);go_simp;try with_reducible rfl)
 simp only [Act.put,List.setIfInBounds_toArray,List.set_cons_zero,List.set_cons_succ]
 refine wpAnyH_done (by kernel_rfl) ?_ _
 go_wp2_with fail
 go_ret;exact ⟨rfl,hb⟩
theorem msame_f2 {k l k2 l2:Nat} {v u:AM} {m n:MV} (M:MR w m v k l) (N:MR w n u k2 l2) (hk:k≤400) (hk2:k2≤400) (hl:l≤400) (hl2:l2≤400) (h1:1≤k) (h2:1≤k2) (h3:1≤l) (h4:1≤l2) (r1:decide (v.a=u.a∧v.b=u.b)=true) (r2:decide (v.c=u.c∧v.d=u.d)=false) :
 Calls Tryz.prog 48 #[.agg #[.bool m.a.s,.slice m.a.A m.a.n m.a.c,.slice m.a.B m.a.m m.a.d,.bool m.b.s,.slice m.b.A m.b.n m.b.c,.slice m.b.B m.b.m m.b.d,.bool m.c.s,.slice m.c.A m.c.n m.c.c,.slice m.c.B m.c.m m.c.d,.bool m.d.s,.slice m.d.A m.d.n m.d.c,.slice m.d.B m.d.m m.d.d,.bool m.e.s,.slice m.e.A m.e.n m.e.c,.slice m.e.B m.e.m m.e.d,.bool m.f.s,.slice m.f.A m.f.n m.f.c,.slice m.f.B m.f.m m.f.d],.agg #[.bool n.a.s,.slice n.a.A n.a.n n.a.c,.slice n.a.B n.a.m n.a.d,.bool n.b.s,.slice n.b.A n.b.n n.b.c,.slice n.b.B n.b.m n.b.d,.bool n.c.s,.slice n.c.A n.c.n n.c.c,.slice n.c.B n.c.m n.c.d,.bool n.d.s,.slice n.d.A n.d.n n.d.c,.slice n.d.B n.d.m n.d.d,.bool n.e.s,.slice n.e.A n.e.n n.e.c,.slice n.e.B n.e.m n.e.d,.bool n.f.s,.slice n.f.A n.f.n n.f.c,.slice n.f.B n.f.m n.f.d]] w fun e w'=>e=.returned (.bool false)∧Below w.heap.size w w':=by
 have H1:=Lib.hid r1;clear r1;have H2:=Lib.hid r2;clear r2
 go_enter Tryz.func48,Tryz.ntmps48
 go_upto_region 1 with (fail)
 generalize hW:World.alloc _ _=W
 obtain ⟨hb,XA,XB,hzW⟩:=mkbx37_13 hW;clear hW;replace M:=M.below hb;replace N:=N.below hb
 replace M:=M.below (Below.refl _ _).drew
 replace N:=N.below (Below.refl _ _).drew
 replace XA:=XA.below (Below.refl _ _).drew
 replace XB:=XB.below (Below.refl _ _).drew
 replace hb:=hb.drew
 refine wp_region_held_drew (S:=(fun w'=>(LVM ⟨w.heap.size,0,none⟩).run Tryz.prog w'=.ok (.agg #[.bool m.a.s,.slice m.a.A m.a.n m.a.c,.slice m.a.B m.a.m m.a.d,.bool m.b.s,.slice m.b.A m.b.n m.b.c,.slice m.b.B m.b.m m.b.d,.bool m.c.s,.slice m.c.A m.c.n m.c.c,.slice m.c.B m.c.m m.c.d,.bool m.d.s,.slice m.d.A m.d.n m.d.c,.slice m.d.B m.d.m m.d.d,.bool m.e.s,.slice m.e.A m.e.n m.e.c,.slice m.e.B m.e.m m.e.d,.bool m.f.s,.slice m.f.A m.f.n m.f.c,.slice m.f.B m.f.m m.f.d]) w'∧(LVM ⟨w.heap.size+1,0,none⟩).run Tryz.prog w'=.ok (.agg #[.bool n.a.s,.slice n.a.A n.a.n n.a.c,.slice n.a.B n.a.m n.a.d,.bool n.b.s,.slice n.b.A n.b.n n.b.c,.slice n.b.B n.b.m n.b.d,.bool n.c.s,.slice n.c.A n.c.n n.c.c,.slice n.c.B n.c.m n.c.d,.bool n.d.s,.slice n.d.A n.d.n n.d.c,.slice n.d.B n.d.m n.d.d,.bool n.e.s,.slice n.e.A n.e.n n.e.c,.slice n.e.B n.e.m n.e.d,.bool n.f.s,.slice n.f.A n.f.n n.f.c,.slice n.f.B n.f.m n.f.d]) w')) (by kernel_rfl) (by with_reducible exact ⟨XA.ld,XB.ld⟩) (fun hHeld=>?_)
 refine wpAnyH_take (i:=0) (oi:=⟨some 5,.load 71 (.tmp 2),71, "mat.go:75",#[],none⟩) (v:=?_) rfl (by kernel_rfl) (by kernel_rfl) (by kernel_rfl) (fun _ _ _ h=>h) (Or.inl ⟨by rfl,?_⟩) hHeld ?_
 rotate_left
 · (intro w hSw;(try dsimp only at hSw);go_simp;try with_reducible rfl)
 simp only [Act.put,List.setIfInBounds_toArray,List.set_cons_zero,List.set_cons_succ]
 refine wpAnyH_take (i:=2) (oi:=⟨some 7,.load 71 (.tmp 3),71, "mat.go:75",#[],none⟩) (v:=?_) rfl (by kernel_rfl) (by kernel_rfl) (by kernel_rfl) (fun _ _ _ h=>h) (Or.inl ⟨by rfl,?_⟩) hHeld ?_
 rotate_left
 · (intro w hSw;(try dsimp only at hSw);go_simp;try with_reducible rfl)
 simp only [Act.put,List.setIfInBounds_toArray,List.set_cons_zero,List.set_cons_succ]
 refine wpAnyH_ready (rs:=[1]) (by kernel_rfl) (by simp) ?_
 refine AllReadyH.cons (o:=⟨some 6,.call ⟨.value (.func 112),#[.tmp 5],#[71]⟩,29, "mat.go:75",#[⟨0,.data⟩],none⟩) rfl (fun K1 hK1=>?_) AllReadyH.nil
 go_simp
 first
  | (go_at_call 112;(with_reducible refine (mfirst_any).mono ?_);rintro e w_z ⟨rfl,hh⟩
     (try replace M:=M.below hh);(try replace N:=N.below hh);(try replace XA:=XA.below hh);(try replace XB:=XB.below hh);replace hb:=bend hb hh)
  | (go_at_call 113;(with_reducible refine (msecond_any).mono ?_);rintro e w_z ⟨rfl,hh⟩
     (try replace M:=M.below hh);(try replace N:=N.below hh);(try replace XA:=XA.below hh);(try replace XB:=XB.below hh);replace hb:=bend hb hh)
  | (go_at_call 108;(with_reducible refine (mmoved_any).mono ?_);rintro e w_z ⟨rfl,hh⟩
     (try replace M:=M.below hh);(try replace N:=N.below hh);(try replace XA:=XA.below hh);(try replace XB:=XB.below hh);replace hb:=bend hb hh)
  | (go_at_call 55;(with_reducible refine (psame_p M.ab N.ab hk hk2 h1 h2 true H1.out).mono ?_);rintro e w_z ⟨rfl,hh⟩
     (try replace M:=M.below hh);(try replace N:=N.below hh);(try replace XA:=XA.below hh);(try replace XB:=XB.below hh);replace hb:=bend hb hh)
  | (go_at_call 55;(with_reducible refine (psame_p M.cd N.cd hk hk2 h1 h2 false H2.out).mono ?_);rintro e w_z ⟨rfl,hh⟩
     (try replace M:=M.below hh);(try replace N:=N.below hh);(try replace XA:=XA.below hh);(try replace XB:=XB.below hh);replace hb:=bend hb hh)
 refine hK1.out _ _ (by with_reducible exact ⟨XA.ld,XB.ld⟩) (fun hHeld=>?_)
 clear hK1 K1
 refine wpAnyH_ready (rs:=[3]) (by kernel_rfl) (by simp) ?_
 refine AllReadyH.cons (o:=⟨some 8,.call ⟨.value (.func 112),#[.tmp 7],#[71]⟩,29, "mat.go:75",#[⟨2,.data⟩,⟨1,.chain⟩],none⟩) rfl (fun K1 hK1=>?_) AllReadyH.nil
 go_simp
 first
  | (go_at_call 112;(with_reducible refine (mfirst_any).mono ?_);rintro e w_z ⟨rfl,hh⟩
     (try replace M:=M.below hh);(try replace N:=N.below hh);(try replace XA:=XA.below hh);(try replace XB:=XB.below hh);replace hb:=bend hb hh)
  | (go_at_call 113;(with_reducible refine (msecond_any).mono ?_);rintro e w_z ⟨rfl,hh⟩
     (try replace M:=M.below hh);(try replace N:=N.below hh);(try replace XA:=XA.below hh);(try replace XB:=XB.below hh);replace hb:=bend hb hh)
  | (go_at_call 108;(with_reducible refine (mmoved_any).mono ?_);rintro e w_z ⟨rfl,hh⟩
     (try replace M:=M.below hh);(try replace N:=N.below hh);(try replace XA:=XA.below hh);(try replace XB:=XB.below hh);replace hb:=bend hb hh)
  | (go_at_call 55;(with_reducible refine (psame_p M.ab N.ab hk hk2 h1 h2 true H1.out).mono ?_);rintro e w_z ⟨rfl,hh⟩
     (try replace M:=M.below hh);(try replace N:=N.below hh);(try replace XA:=XA.below hh);(try replace XB:=XB.below hh);replace hb:=bend hb hh)
  | (go_at_call 55;(with_reducible refine (psame_p M.cd N.cd hk hk2 h1 h2 false H2.out).mono ?_);rintro e w_z ⟨rfl,hh⟩
     (try replace M:=M.below hh);(try replace N:=N.below hh);(try replace XA:=XA.below hh);(try replace XB:=XB.below hh);replace hb:=bend hb hh)
 refine hK1.out _ _ (by with_reducible exact ⟨XA.ld,XB.ld⟩) (fun hHeld=>?_)
 clear hK1 K1
 refine wpAnyH_ready (rs:=[4]) (by kernel_rfl) (by simp) ?_
 refine AllReadyH.cons (o:=⟨some 9,.call ⟨.value (.func 55),#[.tmp 6,.tmp 8],#[29,29]⟩,4, "mat.go:75",#[⟨1,.data⟩,⟨3,.data⟩,⟨3,.chain⟩],none⟩) rfl (fun K1 hK1=>?_) AllReadyH.nil
 go_simp
 first
  | (go_at_call 112;(with_reducible refine (mfirst_any).mono ?_);rintro e w_z ⟨rfl,hh⟩
     (try replace M:=M.below hh);(try replace N:=N.below hh);(try replace XA:=XA.below hh);(try replace XB:=XB.below hh);replace hb:=bend hb hh)
  | (go_at_call 113;(with_reducible refine (msecond_any).mono ?_);rintro e w_z ⟨rfl,hh⟩
     (try replace M:=M.below hh);(try replace N:=N.below hh);(try replace XA:=XA.below hh);(try replace XB:=XB.below hh);replace hb:=bend hb hh)
  | (go_at_call 108;(with_reducible refine (mmoved_any).mono ?_);rintro e w_z ⟨rfl,hh⟩
     (try replace M:=M.below hh);(try replace N:=N.below hh);(try replace XA:=XA.below hh);(try replace XB:=XB.below hh);replace hb:=bend hb hh)
  | (go_at_call 55;(with_reducible refine (psame_p M.ab N.ab hk hk2 h1 h2 true H1.out).mono ?_);rintro e w_z ⟨rfl,hh⟩
     (try replace M:=M.below hh);(try replace N:=N.below hh);(try replace XA:=XA.below hh);(try replace XB:=XB.below hh);replace hb:=bend hb hh)
  | (go_at_call 55;(with_reducible refine (psame_p M.cd N.cd hk hk2 h1 h2 false H2.out).mono ?_);rintro e w_z ⟨rfl,hh⟩
     (try replace M:=M.below hh);(try replace N:=N.below hh);(try replace XA:=XA.below hh);(try replace XB:=XB.below hh);replace hb:=bend hb hh)
 refine hK1.out _ _ (by with_reducible exact ⟨XA.ld,XB.ld⟩) (fun hHeld=>?_)
 clear hK1 K1
 refine wpAnyH_take (i:=5) (oi:=⟨some 10,.move (.tmp 9),4, "mat.go:75",#[⟨4,.data⟩,⟨4,.chain⟩],none⟩) (v:=?_) rfl (by kernel_rfl) (by kernel_rfl) (by kernel_rfl) (fun _ _ _ h=>h) (Or.inl ⟨by rfl,?_⟩) hHeld ?_
 rotate_left
 · (intro w hSw;(try dsimp only at hSw);go_simp;try with_reducible rfl)
 simp only [Act.put,List.setIfInBounds_toArray,List.set_cons_zero,List.set_cons_succ]
 refine wpAnyH_take (i:=6) (oi:=⟨some 11,.load 71 (.tmp 2),71, "mat.go:75",#[⟨5,.guard⟩],some (5,true)⟩) (v:=?_) rfl (by kernel_rfl) (by kernel_rfl) (by kernel_rfl) (fun _ _ _ h=>h) (Or.inl ⟨by rfl,?_⟩) hHeld ?_
 rotate_left
 · (intro w hSw;(try dsimp only at hSw);go_simp;try with_reducible rfl)
 simp only [Act.put,List.setIfInBounds_toArray,List.set_cons_zero,List.set_cons_succ]
 refine wpAnyH_take (i:=8) (oi:=⟨some 13,.load 71 (.tmp 3),71, "mat.go:75",#[⟨5,.guard⟩],some (5,true)⟩) (v:=?_) rfl (by kernel_rfl) (by kernel_rfl) (by kernel_rfl) (fun _ _ _ h=>h) (Or.inl ⟨by rfl,?_⟩) hHeld ?_
 rotate_left
 · (intro w hSw;(try dsimp only at hSw);go_simp;try with_reducible rfl)
 simp only [Act.put,List.setIfInBounds_toArray,List.set_cons_zero,List.set_cons_succ]
 refine wpAnyH_ready (rs:=[7]) (by kernel_rfl) (by simp) ?_
 refine AllReadyH.cons (o:=⟨some 12,.call ⟨.value (.func 113),#[.tmp 11],#[71]⟩,29, "mat.go:75",#[⟨6,.data⟩,⟨5,.chain⟩,⟨5,.guard⟩],some (5,true)⟩) rfl (fun K1 hK1=>?_) AllReadyH.nil
 go_simp
 first
  | (go_at_call 112;(with_reducible refine (mfirst_any).mono ?_);rintro e w_z ⟨rfl,hh⟩
     (try replace M:=M.below hh);(try replace N:=N.below hh);(try replace XA:=XA.below hh);(try replace XB:=XB.below hh);replace hb:=bend hb hh)
  | (go_at_call 113;(with_reducible refine (msecond_any).mono ?_);rintro e w_z ⟨rfl,hh⟩
     (try replace M:=M.below hh);(try replace N:=N.below hh);(try replace XA:=XA.below hh);(try replace XB:=XB.below hh);replace hb:=bend hb hh)
  | (go_at_call 108;(with_reducible refine (mmoved_any).mono ?_);rintro e w_z ⟨rfl,hh⟩
     (try replace M:=M.below hh);(try replace N:=N.below hh);(try replace XA:=XA.below hh);(try replace XB:=XB.below hh);replace hb:=bend hb hh)
  | (go_at_call 55;(with_reducible refine (psame_p M.ab N.ab hk hk2 h1 h2 true H1.out).mono ?_);rintro e w_z ⟨rfl,hh⟩
     (try replace M:=M.below hh);(try replace N:=N.below hh);(try replace XA:=XA.below hh);(try replace XB:=XB.below hh);replace hb:=bend hb hh)
  | (go_at_call 55;(with_reducible refine (psame_p M.cd N.cd hk hk2 h1 h2 false H2.out).mono ?_);rintro e w_z ⟨rfl,hh⟩
     (try replace M:=M.below hh);(try replace N:=N.below hh);(try replace XA:=XA.below hh);(try replace XB:=XB.below hh);replace hb:=bend hb hh)
 refine hK1.out _ _ (by with_reducible exact ⟨XA.ld,XB.ld⟩) (fun hHeld=>?_)
 clear hK1 K1
 refine wpAnyH_ready (rs:=[9]) (by kernel_rfl) (by simp) ?_
 refine AllReadyH.cons (o:=⟨some 14,.call ⟨.value (.func 113),#[.tmp 13],#[71]⟩,29, "mat.go:75",#[⟨8,.data⟩,⟨7,.chain⟩,⟨5,.guard⟩],some (5,true)⟩) rfl (fun K1 hK1=>?_) AllReadyH.nil
 go_simp
 first
  | (go_at_call 112;(with_reducible refine (mfirst_any).mono ?_);rintro e w_z ⟨rfl,hh⟩
     (try replace M:=M.below hh);(try replace N:=N.below hh);(try replace XA:=XA.below hh);(try replace XB:=XB.below hh);replace hb:=bend hb hh)
  | (go_at_call 113;(with_reducible refine (msecond_any).mono ?_);rintro e w_z ⟨rfl,hh⟩
     (try replace M:=M.below hh);(try replace N:=N.below hh);(try replace XA:=XA.below hh);(try replace XB:=XB.below hh);replace hb:=bend hb hh)
  | (go_at_call 108;(with_reducible refine (mmoved_any).mono ?_);rintro e w_z ⟨rfl,hh⟩
     (try replace M:=M.below hh);(try replace N:=N.below hh);(try replace XA:=XA.below hh);(try replace XB:=XB.below hh);replace hb:=bend hb hh)
  | (go_at_call 55;(with_reducible refine (psame_p M.ab N.ab hk hk2 h1 h2 true H1.out).mono ?_);rintro e w_z ⟨rfl,hh⟩
     (try replace M:=M.below hh);(try replace N:=N.below hh);(try replace XA:=XA.below hh);(try replace XB:=XB.below hh);replace hb:=bend hb hh)
  | (go_at_call 55;(with_reducible refine (psame_p M.cd N.cd hk hk2 h1 h2 false H2.out).mono ?_);rintro e w_z ⟨rfl,hh⟩
     (try replace M:=M.below hh);(try replace N:=N.below hh);(try replace XA:=XA.below hh);(try replace XB:=XB.below hh);replace hb:=bend hb hh)
 refine hK1.out _ _ (by with_reducible exact ⟨XA.ld,XB.ld⟩) (fun hHeld=>?_)
 clear hK1 K1
 refine wpAnyH_ready (rs:=[10]) (by kernel_rfl) (by simp) ?_
 refine AllReadyH.cons (o:=⟨some 15,.call ⟨.value (.func 55),#[.tmp 12,.tmp 14],#[29,29]⟩,4, "mat.go:75",#[⟨7,.data⟩,⟨9,.data⟩,⟨9,.chain⟩,⟨5,.guard⟩],some (5,true)⟩) rfl (fun K1 hK1=>?_) AllReadyH.nil
 go_simp
 first
  | (go_at_call 112;(with_reducible refine (mfirst_any).mono ?_);rintro e w_z ⟨rfl,hh⟩
     (try replace M:=M.below hh);(try replace N:=N.below hh);(try replace XA:=XA.below hh);(try replace XB:=XB.below hh);replace hb:=bend hb hh)
  | (go_at_call 113;(with_reducible refine (msecond_any).mono ?_);rintro e w_z ⟨rfl,hh⟩
     (try replace M:=M.below hh);(try replace N:=N.below hh);(try replace XA:=XA.below hh);(try replace XB:=XB.below hh);replace hb:=bend hb hh)
  | (go_at_call 108;(with_reducible refine (mmoved_any).mono ?_);rintro e w_z ⟨rfl,hh⟩
     (try replace M:=M.below hh);(try replace N:=N.below hh);(try replace XA:=XA.below hh);(try replace XB:=XB.below hh);replace hb:=bend hb hh)
  | (go_at_call 55;(with_reducible refine (psame_p M.ab N.ab hk hk2 h1 h2 true H1.out).mono ?_);rintro e w_z ⟨rfl,hh⟩
     (try replace M:=M.below hh);(try replace N:=N.below hh);(try replace XA:=XA.below hh);(try replace XB:=XB.below hh);replace hb:=bend hb hh)
  | (go_at_call 55;(with_reducible refine (psame_p M.cd N.cd hk hk2 h1 h2 false H2.out).mono ?_);rintro e w_z ⟨rfl,hh⟩
     (try replace M:=M.below hh);(try replace N:=N.below hh);(try replace XA:=XA.below hh);(try replace XB:=XB.below hh);replace hb:=bend hb hh)
 refine hK1.out _ _ (by with_reducible exact ⟨XA.ld,XB.ld⟩) (fun hHeld=>?_)
 clear hK1 K1
 refine wpAnyH_take (i:=11) (oi:=⟨some 16,.pick (.tmp 10) (.tmp 15) (.const (Value.bool false)),4, "mat.go:75",#[⟨5,.data⟩,⟨10,.data⟩],none⟩) (v:=?_) rfl (by kernel_rfl) (by kernel_rfl) (by kernel_rfl) (fun _ _ _ h=>h) (Or.inl ⟨by rfl,?_⟩) hHeld ?_
 rotate_left
 · (intro w hSw;(try dsimp only at hSw);go_simp;try with_reducible rfl)
 simp only [Act.put,List.setIfInBounds_toArray,List.set_cons_zero,List.set_cons_succ]
 refine wpAnyH_take (i:=12) (oi:=⟨some 17,.move (.tmp 16),4, "mat.go:75",#[⟨11,.data⟩,⟨10,.chain⟩],none⟩) (v:=?_) rfl (by kernel_rfl) (by kernel_rfl) (by kernel_rfl) (fun _ _ _ h=>h) (Or.inl ⟨by rfl,?_⟩) hHeld ?_
 rotate_left
 · (intro w hSw;(try dsimp only at hSw);go_simp;try with_reducible rfl)
 simp only [Act.put,List.setIfInBounds_toArray,List.set_cons_zero,List.set_cons_succ]
 refine wpAnyH_take (i:=13) (oi:=⟨some 18,.load 71 (.tmp 2),71, "mat.go:75",#[⟨12,.guard⟩],some (12,true)⟩) (v:=undef) rfl (by kernel_rfl) (by kernel_rfl) (by kernel_rfl) (fun _ _ _ h=>h) (Or.inr ⟨by rfl,rfl⟩) hHeld ?_
 simp only [Act.put,List.setIfInBounds_toArray,List.set_cons_zero,List.set_cons_succ]
 refine wpAnyH_take (i:=14) (oi:=⟨some 19,.call ⟨.value (.func 108),#[.tmp 18],#[71]⟩,29, "mat.go:75",#[⟨13,.data⟩,⟨12,.chain⟩,⟨12,.guard⟩],some (12,true)⟩) (v:=undef) rfl (by kernel_rfl) (by kernel_rfl) (by kernel_rfl) (fun _ _ _ h=>h) (Or.inr ⟨by rfl,rfl⟩) hHeld ?_
 simp only [Act.put,List.setIfInBounds_toArray,List.set_cons_zero,List.set_cons_succ]
 refine wpAnyH_take (i:=15) (oi:=⟨some 20,.load 71 (.tmp 3),71, "mat.go:75",#[⟨12,.guard⟩],some (12,true)⟩) (v:=undef) rfl (by kernel_rfl) (by kernel_rfl) (by kernel_rfl) (fun _ _ _ h=>h) (Or.inr ⟨by rfl,rfl⟩) hHeld ?_
 simp only [Act.put,List.setIfInBounds_toArray,List.set_cons_zero,List.set_cons_succ]
 refine wpAnyH_take (i:=16) (oi:=⟨some 21,.call ⟨.value (.func 108),#[.tmp 20],#[71]⟩,29, "mat.go:75",#[⟨15,.data⟩,⟨14,.chain⟩,⟨12,.guard⟩],some (12,true)⟩) (v:=undef) rfl (by kernel_rfl) (by kernel_rfl) (by kernel_rfl) (fun _ _ _ h=>h) (Or.inr ⟨by rfl,rfl⟩) hHeld ?_
 simp only [Act.put,List.setIfInBounds_toArray,List.set_cons_zero,List.set_cons_succ]
 refine wpAnyH_take (i:=17) (oi:=⟨some 22,.call ⟨.value (.func 55),#[.tmp 19,.tmp 21],#[29,29]⟩,4, "mat.go:75",#[⟨14,.data⟩,⟨16,.data⟩,⟨16,.chain⟩,⟨12,.guard⟩],some (12,true)⟩) (v:=undef) rfl (by kernel_rfl) (by kernel_rfl) (by kernel_rfl) (fun _ _ _ h=>h) (Or.inr ⟨by rfl,rfl⟩) hHeld ?_
 simp only [Act.put,List.setIfInBounds_toArray,List.set_cons_zero,List.set_cons_succ]
 refine wpAnyH_take (i:=18) (oi:=⟨some 23,.pick (.tmp 17) (.tmp 22) (.const (Value.bool false)),4, "mat.go:75",#[⟨12,.data⟩,⟨17,.data⟩],none⟩) (v:=?_) rfl (by kernel_rfl) (by kernel_rfl) (by kernel_rfl) (fun _ _ _ h=>h) (Or.inl ⟨by rfl,?_⟩) hHeld ?_
 rotate_left
 · (intro w hSw;(try dsimp only at hSw);go_simp;try with_reducible rfl)
 simp only [Act.put,List.setIfInBounds_toArray,List.set_cons_zero,List.set_cons_succ]
 refine wpAnyH_take (i:=19) (oi:=⟨some 4,.assign (.tmp 23),4, "mat.go:75",#[⟨18,.data⟩,⟨17,.chain⟩,⟨0,.phase⟩,⟨1,.phase⟩,⟨2,.phase⟩,⟨3,.phase⟩,⟨4,.phase⟩,⟨5,.phase⟩,⟨6,.phase⟩,⟨7,.phase⟩,⟨8,.phase⟩,⟨9,.phase⟩,⟨10,.phase⟩,⟨11,.phase⟩,⟨12,.phase⟩,⟨13,.phase⟩,⟨14,.phase⟩,⟨15,.phase⟩,⟨16,.phase⟩,⟨17,.phase⟩,⟨18,.phase⟩],none⟩) (v:=?_) rfl (by kernel_rfl) (by kernel_rfl) (by kernel_rfl) (fun _ _ _ h=>h) (Or.inl ⟨by rfl,?_⟩) hHeld ?_
 rotate_left
 · (intro w hSw;(try dsimp only at hSw);go_simp;try with_reducible rfl)
 simp only [Act.put,List.setIfInBounds_toArray,List.set_cons_zero,List.set_cons_succ]
 refine wpAnyH_done (by kernel_rfl) ?_ _
 go_wp2_with fail
 go_ret;exact ⟨rfl,hb⟩
theorem msame_t {k l k2 l2:Nat} {v u:AM} {m n:MV} (M:MR w m v k l) (N:MR w n u k2 l2) (hk:k≤400) (hk2:k2≤400) (hl:l≤400) (hl2:l2≤400) (h1:1≤k) (h2:1≤k2) (h3:1≤l) (h4:1≤l2) (r1:decide (v.a=u.a∧v.b=u.b)=true) (r2:decide (v.c=u.c∧v.d=u.d)=true) (R:Bool) (r3:decide (v.e=u.e∧v.f=u.f)=R) :
 Calls Tryz.prog 48 #[.agg #[.bool m.a.s,.slice m.a.A m.a.n m.a.c,.slice m.a.B m.a.m m.a.d,.bool m.b.s,.slice m.b.A m.b.n m.b.c,.slice m.b.B m.b.m m.b.d,.bool m.c.s,.slice m.c.A m.c.n m.c.c,.slice m.c.B m.c.m m.c.d,.bool m.d.s,.slice m.d.A m.d.n m.d.c,.slice m.d.B m.d.m m.d.d,.bool m.e.s,.slice m.e.A m.e.n m.e.c,.slice m.e.B m.e.m m.e.d,.bool m.f.s,.slice m.f.A m.f.n m.f.c,.slice m.f.B m.f.m m.f.d],.agg #[.bool n.a.s,.slice n.a.A n.a.n n.a.c,.slice n.a.B n.a.m n.a.d,.bool n.b.s,.slice n.b.A n.b.n n.b.c,.slice n.b.B n.b.m n.b.d,.bool n.c.s,.slice n.c.A n.c.n n.c.c,.slice n.c.B n.c.m n.c.d,.bool n.d.s,.slice n.d.A n.d.n n.d.c,.slice n.d.B n.d.m n.d.d,.bool n.e.s,.slice n.e.A n.e.n n.e.c,.slice n.e.B n.e.m n.e.d,.bool n.f.s,.slice n.f.A n.f.n n.f.c,.slice n.f.B n.f.m n.f.d]] w fun e w'=>e=.returned (.bool R)∧Below w.heap.size w w':=by
 have H1:=Lib.hid r1;clear r1;have H2:=Lib.hid r2;clear r2;have H3:=Lib.hid r3;clear r3
 go_enter Tryz.func48,Tryz.ntmps48
 go_upto_region 1 with (fail)
 generalize hW:World.alloc _ _=W
 obtain ⟨hb,XA,XB,hzW⟩:=mkbx37_13 hW;clear hW;replace M:=M.below hb;replace N:=N.below hb
 replace M:=M.below (Below.refl _ _).drew
 replace N:=N.below (Below.refl _ _).drew
 replace XA:=XA.below (Below.refl _ _).drew
 replace XB:=XB.below (Below.refl _ _).drew
 replace hb:=hb.drew
 go_region_held3 (fun w'=>(LVM ⟨w.heap.size,0,none⟩).run Tryz.prog w'=.ok (.agg #[.bool m.a.s,.slice m.a.A m.a.n m.a.c,.slice m.a.B m.a.m m.a.d,.bool m.b.s,.slice m.b.A m.b.n m.b.c,.slice m.b.B m.b.m m.b.d,.bool m.c.s,.slice m.c.A m.c.n m.c.c,.slice m.c.B m.c.m m.c.d,.bool m.d.s,.slice m.d.A m.d.n m.d.c,.slice m.d.B m.d.m m.d.d,.bool m.e.s,.slice m.e.A m.e.n m.e.c,.slice m.e.B m.e.m m.e.d,.bool m.f.s,.slice m.f.A m.f.n m.f.c,.slice m.f.B m.f.m m.f.d]) w'∧(LVM ⟨w.heap.size+1,0,none⟩).run Tryz.prog w'=.ok (.agg #[.bool n.a.s,.slice n.a.A n.a.n n.a.c,.slice n.a.B n.a.m n.a.d,.bool n.b.s,.slice n.b.A n.b.n n.b.c,.slice n.b.B n.b.m n.b.d,.bool n.c.s,.slice n.c.A n.c.n n.c.c,.slice n.c.B n.c.m n.c.d,.bool n.d.s,.slice n.d.A n.d.n n.d.c,.slice n.d.B n.d.m n.d.d,.bool n.e.s,.slice n.e.A n.e.n n.e.c,.slice n.e.B n.e.m n.e.d,.bool n.f.s,.slice n.f.A n.f.n n.f.c,.slice n.f.B n.f.m n.f.d]) w')
  (first | with_reducible exact ⟨XA.ld,XB.ld⟩)
  (first
  | (go_at_call 112;(with_reducible refine (mfirst_any).mono ?_);rintro e w_z ⟨rfl,hh⟩
     (try replace M:=M.below hh);(try replace N:=N.below hh);(try replace XA:=XA.below hh);(try replace XB:=XB.below hh);replace hb:=bend hb hh)
  | (go_at_call 113;(with_reducible refine (msecond_any).mono ?_);rintro e w_z ⟨rfl,hh⟩
     (try replace M:=M.below hh);(try replace N:=N.below hh);(try replace XA:=XA.below hh);(try replace XB:=XB.below hh);replace hb:=bend hb hh)
  | (go_at_call 108;(with_reducible refine (mmoved_any).mono ?_);rintro e w_z ⟨rfl,hh⟩
     (try replace M:=M.below hh);(try replace N:=N.below hh);(try replace XA:=XA.below hh);(try replace XB:=XB.below hh);replace hb:=bend hb hh)
  | (go_at_call 55;(with_reducible refine (psame_p M.ab N.ab hk hk2 h1 h2 true H1.out).mono ?_);rintro e w_z ⟨rfl,hh⟩
     (try replace M:=M.below hh);(try replace N:=N.below hh);(try replace XA:=XA.below hh);(try replace XB:=XB.below hh);replace hb:=bend hb hh)
  | (go_at_call 55;(with_reducible refine (psame_p M.cd N.cd hk hk2 h1 h2 true H2.out).mono ?_);rintro e w_z ⟨rfl,hh⟩
     (try replace M:=M.below hh);(try replace N:=N.below hh);(try replace XA:=XA.below hh);(try replace XB:=XB.below hh);replace hb:=bend hb hh)
  | (go_at_call 55;(with_reducible refine (psame_p M.ef N.ef hl hl2 h3 h4 R H3.out).mono ?_);rintro e w_z ⟨rfl,hh⟩
     (try replace M:=M.below hh);(try replace N:=N.below hh);(try replace XA:=XA.below hh);(try replace XB:=XB.below hh);replace hb:=bend hb hh))
 go_wp2_with fail
 go_ret;exact ⟨rfl,hb⟩
theorem msame_p {k l k2 l2:Nat} {v u:AM} {m n:MV} (M:MR w m v k l) (N:MR w n u k2 l2) (hk:k≤400) (hk2:k2≤400) (hl:l≤400) (hl2:l2≤400) (h1:1≤k) (h2:1≤k2) (h3:1≤l) (h4:1≤l2) (R:Bool) (hR:v.same u=R) :
 Calls Tryz.prog 48 #[.agg #[.bool m.a.s,.slice m.a.A m.a.n m.a.c,.slice m.a.B m.a.m m.a.d,.bool m.b.s,.slice m.b.A m.b.n m.b.c,.slice m.b.B m.b.m m.b.d,.bool m.c.s,.slice m.c.A m.c.n m.c.c,.slice m.c.B m.c.m m.c.d,.bool m.d.s,.slice m.d.A m.d.n m.d.c,.slice m.d.B m.d.m m.d.d,.bool m.e.s,.slice m.e.A m.e.n m.e.c,.slice m.e.B m.e.m m.e.d,.bool m.f.s,.slice m.f.A m.f.n m.f.c,.slice m.f.B m.f.m m.f.d],.agg #[.bool n.a.s,.slice n.a.A n.a.n n.a.c,.slice n.a.B n.a.m n.a.d,.bool n.b.s,.slice n.b.A n.b.n n.b.c,.slice n.b.B n.b.m n.b.d,.bool n.c.s,.slice n.c.A n.c.n n.c.c,.slice n.c.B n.c.m n.c.d,.bool n.d.s,.slice n.d.A n.d.n n.d.c,.slice n.d.B n.d.m n.d.d,.bool n.e.s,.slice n.e.A n.e.n n.e.c,.slice n.e.B n.e.m n.e.d,.bool n.f.s,.slice n.f.A n.f.n n.f.c,.slice n.f.B n.f.m n.f.d]] w fun e w'=>e=.returned (.bool R)∧Below w.heap.size w w':=by
 subst hR
 unfold AM.same
 cases r1:v.sab u with
 | false=>exact msame_f1 M N hk hk2 hl hl2 h1 h2 h3 h4 r1
 | true =>
   cases r2:v.scd u with
   | false=>exact msame_f2 M N hk hk2 hl hl2 h1 h2 h3 h4 r1 r2
   | true=>exact msame_t M N hk hk2 hl hl2 h1 h2 h3 h4 r1 r2 _ rfl
theorem mkbx38_13 {w W:World} {x0 x1 x2 x3 x4 x5 x6 x7 x8 x9 x10 x11 x12 x13 x14 x15 x16 x17 x18 x19 x20 x21 x22 x23 x24 x25 x26 x27 x28 x29 x30 x31 x32 x33 x34 x35:Value} (h:((w.alloc (Obj.cells #[x0,x1,x2,x3,x4,x5,x6,x7,x8,x9,x10,x11,x12,x13,x14,x15,x16,x17] 71)).alloc (Obj.cells #[x18,x19,x20,x21,x22,x23,x24,x25,x26,x27,x28,x29,x30,x31,x32,x33,x34,x35] 29))=W):Below w.heap.size w W∧B18 W (w.heap.size) x0 x1 x2 x3 x4 x5 x6 x7 x8 x9 x10 x11 x12 x13 x14 x15 x16 x17∧BL3 W (w.heap.size+1) x18 x19 x20 x21 x22 x23 x24 x25 x26 x27 x28 x29 x30 x31 x32 x33 x34 x35∧W.heap.size=w.heap.size+2:=by subst h;exact ⟨by exact (((Below.refl _ _).alloc (Nat.le_refl _) _).alloc (by simp) _),by exact (B18.new' _ _ _ _ _ _ _ _ _ _ _ _ _ _ _ _ _ _ _ _ rfl).alloc _,by exact BL3.new' _ _ _ _ _ _ _ _ _ _ _ _ _ _ _ _ _ _ _ _ (by simp),by simp⟩
theorem fairM {m:MV} (R:Bool) (hR:decide ((((m.a.n≤6∧m.a.m≤6)∧m.b.n≤6∧m.b.m≤6))∧(((m.c.n≤6∧m.c.m≤6)∧m.d.n≤6∧m.d.m≤6))∧(((m.e.n≤6∧m.e.m≤6)∧m.f.n≤6∧m.f.m≤6)))=R) :
 Calls Tryz.prog 35 #[.agg #[.bool m.a.s,.slice m.a.A m.a.n m.a.c,.slice m.a.B m.a.m m.a.d,.bool m.b.s,.slice m.b.A m.b.n m.b.c,.slice m.b.B m.b.m m.b.d,.bool m.c.s,.slice m.c.A m.c.n m.c.c,.slice m.c.B m.c.m m.c.d,.bool m.d.s,.slice m.d.A m.d.n m.d.c,.slice m.d.B m.d.m m.d.d,.bool m.e.s,.slice m.e.A m.e.n m.e.c,.slice m.e.B m.e.m m.e.d,.bool m.f.s,.slice m.f.A m.f.n m.f.c,.slice m.f.B m.f.m m.f.d]] w fun e w'=>e=.returned (.bool R)∧Below w.heap.size w w':=by
 have HR:=Lib.hid hR;clear hR
 go_enter Tryz.func35,Tryz.ntmps35
 go_wp2_with fail
 generalize hW:World.alloc _ _=W
 obtain ⟨hb,XA,XL,hzW⟩:=mkbx38_13 hW;clear hW
 go_wp2_with (first
  | (go_at_call 11;(with_reducible refine (fair3 XL R HR.out).mono ?_);rintro e w_z ⟨rfl,hh⟩
     replace hb:=bend hb hh))
 go_ret;exact ⟨rfl,hb⟩
end
section
open Go Go.RowKit
structure PV where
 s:Bool
 A:Option Addr
 n:Nat
 c:Nat
 B:Option Addr
 m:Nat
 d:Nat
 t:Bool
 E:Option Addr
 i:Nat
 e:Nat
 F:Option Addr
 j:Nat
 f:Nat
def PV.cells (p:PV):List Value:=[.bool p.s,.slice p.A p.n p.c,.slice p.B p.m p.d,.bool p.t,.slice p.E p.i p.e,.slice p.F p.j p.f]
def PV.PG (w:World) (p:PV) (u:Rat × Rat) (k:Nat):Prop:=Go.Proofs.YtgneghgfpkkkdaaGreat.PG w p.s p.A p.n p.c p.B p.m p.d p.t p.E p.i p.e p.F p.j p.f u.1 u.2 k
def PV.PR (w:World) (p:PV) (u:Rat × Rat) (k:Nat):Prop:=Go.Proofs.YtgneghgfpkkkdaaGreat.PR w p.s p.A p.n p.c p.B p.m p.d p.t p.E p.i p.e p.F p.j p.f u.1 u.2 k
def PV.RP (w:World) (p:PV) (u:Rat × Rat) (k:Nat):Prop:=Go.Proofs.YtgneghgfpkkkdaaGreat.RP w p.s p.A p.n p.c p.B p.m p.d p.t p.E p.i p.e p.F p.j p.f u.1 u.2 k
def pvs (L:List PV):List Value:=L.flatMap PV.cells
theorem pvs_cons (p:PV) (L:List PV):pvs (p :: L)=p.cells ++ pvs L:=List.flatMap_cons
theorem pvs_get {L:List PV} {i:Nat} {p:PV} (h:L[i]?=some p) {j:Nat} (hj:j < 6):(pvs L)[i*6+j]?=p.cells[j]?:=by
 induction L generalizing i with
 | nil=>cases h
 | cons q L ih =>
   rw [pvs_cons]
   match i with
   | 0 =>
     obtain rfl:q=p:=by simpa using h
     rw [List.getElem?_append_left (show 0*6+j < q.cells.length by show _ < 6;omega)]
     congr 1;omega
   | i+1 =>
     rw [List.getElem?_append_right (show q.cells.length≤(i+1)*6+j by show 6≤_;omega)]
     rw [show (i+1)*6+j - q.cells.length=i*6+j by show (i+1)*6+j - 6=_;omega]
     exact ih h
structure Ln (T:TypeId) (base:Nat) (w:World) (v:Value) (L:List PV):Prop where
 own:w.ownsRow base T 6 v L.length (pvs L)
 free:∀ g,v.ownBlock=some g→∃ cs,BoxAt T w g cs
section
variable {T:TypeId} {base:Nat} {w w':World} {v:Value} {L:List PV}
theorem Ln.nil (T:TypeId) (base:Nat) (w:World):Ln T base w (.slice none 0 0) []:=⟨World.ownsRow_nil w base T 6,fun g h=>by cases h⟩
theorem Ln.kept (h:Ln T base w v L) (hb:∀ g,v.ownBlock=some g→w'.heap[g]?=w.heap[g]?):Ln T base w' v L:=by
 refine ⟨⟨h.own.1,?_⟩,fun g hg=>?_⟩
 · rcases h.own.2 with hn | ⟨g,cap,cur,rfl,h1,h2,h3⟩
   · exact .inl hn
   · exact .inr ⟨g,cap,cur,rfl,h1,(hb g rfl).trans h2,h3⟩
 · obtain ⟨cs,hc⟩:=h.free g hg
   exact ⟨cs,(hb g hg).trans hc.at_,hc.free⟩
theorem Ln.below (h:Ln T base w v L) (hb:Below w.heap.size w w'):Ln T base w' v L:=h.kept fun g hg=>by
 obtain ⟨cs,hc⟩:=h.free g hg
 exact hb.block g hc.lt
theorem Ln.form (h:Ln T base w v L):∃ A c,v=.slice A L.length c∧L.length≤c∧(A=none→c=0):=by
 rcases h.own.2 with ⟨rfl,hn⟩ | ⟨g,cap,cur,rfl,_,_,h3,_⟩
 · exact ⟨none,0,by rw [hn],by omega,fun _=>rfl⟩
 · exact ⟨_,cap,rfl,h3,fun e=>by cases e⟩
theorem Ln.at_ (h:Ln T base w v L) {i:Nat} {p:PV} (hi:L[i]?=some p):∃ g c,v=.slice (some ⟨g,0,none⟩) L.length c∧i < L.length∧base≤g∧g < w.heap.size ∧
 w.cell? ⟨g,i*6,none⟩=some (.bool p.s)∧w.cell? ⟨g,i*6+1,none⟩=some (.slice p.A p.n p.c)∧w.cell? ⟨g,i*6+2,none⟩=some (.slice p.B p.m p.d) ∧
 w.cell? ⟨g,i*6+3,none⟩=some (.bool p.t)∧w.cell? ⟨g,i*6+4,none⟩=some (.slice p.E p.i p.e)∧w.cell? ⟨g,i*6+5,none⟩=some (.slice p.F p.j p.f):=by
 have hlt:i < L.length:=(List.getElem?_eq_some_iff.1 hi).1
 rcases h.own.2 with ⟨_,hn⟩ | ⟨g,cap,cur,hv,hb,hg,_⟩
 · omega
 · have hc:=h.own.cells (g:=g) (by rw [hv];rfl)
   have ha:∀ j,(⟨g,0,none⟩:Addr).add j=⟨g,j,none⟩:=fun j=>by unfold Addr.add;split <;> simp_all
   have key:∀ j,j < 6→∀ u,p.cells[j]?=some u→w.cell? ⟨g,i*6+j,none⟩=some u:=fun j hj u hu=>by
    have:=hc (i*6+j) u ((pvs_get hi hj).trans hu)
    rwa [ha] at this
   have hlt2:g < w.heap.size:=by
    rcases Nat.lt_or_ge g w.heap.size with q | q
    · exact q
    · rw [Array.getElem?_eq_none q] at hg;cases hg
   exact ⟨g,cap,hv,hlt,hb,hlt2,key 0 (by decide) _ rfl,key 1 (by decide) _ rfl,key 2 (by decide) _ rfl,key 3 (by decide) _ rfl,key 4 (by decide) _ rfl,key 5 (by decide) _ rfl⟩
end
theorem Ln.stays {T:TypeId} {base:Nat} {w w':World} {v:Value} {L:List PV} (h:Ln T base w v L) (hg:w.grownBy w' v.ownBlock):Below w.heap.size w w' ∨ ∃ g cs,BoxAt T w g cs∧base≤g∧Only g w w':=by
 cases hv:v.ownBlock with
 | none =>
   rw [hv] at hg
   exact .inl ((Below.refl _ _).grown hg (Nat.le_refl _) (fun k e=>by cases e))
 | some g =>
   rw [hv] at hg
   obtain ⟨cs,hc⟩:=h.free g hv
   refine .inr ⟨g,cs,hc,(h.own.lt g hv).1,⟨hg.os,hg.tape,hg.output,hg.size,fun k hk hn=>hg.block k hk (fun e=>hn (by injection e))⟩⟩
end
section
open Go Go.RowKit
section
variable {w w':World} {s t:Bool} {A B E F:Option Addr} {n c m d i e j f k:Nat} {x y:Rat}
theorem PR.box {T:TypeId} {g:Nat} {cs:Array Value} (h:PR w s A n c B m d t E i e F j f x y k) (Z:BoxAt T w g cs) (ho:Only g w w'):PR w' s A n c B m d t E i e F j f x y k:=⟨h.1.box Z ho,h.2.box Z ho⟩
theorem B6.rest {g k:Nat} {x y z u v t:Value} (h:B6 w g x y z u v t) (hne:g ≠ k) (ho:Only k w w'):B6 w' g x y z u v t:=(ho.block g h.lt hne).trans h
end
theorem Ln.of {T:TypeId} {base g n c:Nat} {L:List PV} (h:Ln T base w (.slice (some ⟨g,0,none⟩) n c) L) {i:Nat} {p:PV} (hi:L[i]?=some p):i < n∧g < w.heap.size ∧
 w.cell? ⟨g,i*6,none⟩=some (.bool p.s)∧w.cell? ⟨g,i*6+1,none⟩=some (.slice p.A p.n p.c)∧w.cell? ⟨g,i*6+2,none⟩=some (.slice p.B p.m p.d) ∧
 w.cell? ⟨g,i*6+3,none⟩=some (.bool p.t)∧w.cell? ⟨g,i*6+4,none⟩=some (.slice p.E p.i p.e)∧w.cell? ⟨g,i*6+5,none⟩=some (.slice p.F p.j p.f):=by
 obtain ⟨g',c',hv,h1,_,h2,h3⟩:=h.at_ hi
 have e:g'=g∧n=L.length:=by
  simp only [Value.slice.injEq,Option.some.injEq,Addr.mk.injEq] at hv
  exact ⟨hv.1.1.symm,hv.2.1⟩
 obtain ⟨rfl,hn⟩:=e
 exact ⟨hn ▸ h1,h2,h3⟩
def Each (G:World→PV→Rat × Rat→Nat→Prop) (w:World) (L:List PV) (l:List (Rat × Rat)) (k:Nat):Prop :=
 L.length=l.length∧∀ (i:Nat) (p:PV) (u:Rat × Rat),L[i]?=some p→l[i]?=some u→G w p u k
theorem Each.nil {G:World→PV→Rat × Rat→Nat→Prop} {k:Nat}:Each G w [] [] k:=⟨rfl,fun i p u h=>by cases h⟩
theorem Each.push {G:World→PV→Rat × Rat→Nat→Prop} {w w':World} {L:List PV} {l:List (Rat × Rat)} {k:Nat} {p:PV} {u:Rat × Rat} (h:Each G w L l k) (hw:∀ p u,G w p u k→G w' p u k) (hp:G w' p u k):Each G w' (L ++ [p]) (l ++ [u]) k:=by
 refine ⟨by rw [List.length_append,List.length_append,h.1];rfl,fun i q v hq hv=>?_⟩
 rcases Nat.lt_or_ge i L.length with hi | hi
 · rw [List.getElem?_append_left hi] at hq
   rw [List.getElem?_append_left (by rw [← h.1];exact hi)] at hv
   exact hw _ _ (h.2 i q v hq hv)
 · rw [List.getElem?_append_right hi] at hq
   rw [List.getElem?_append_right (by rw [← h.1];exact hi)] at hv
   have:i - L.length=0:=by
    have:=(List.getElem?_eq_some_iff.1 hq).1
    simp at this;omega
   rw [this] at hq
   rw [show i - l.length=0 by rw [← h.1];exact this] at hv
   obtain rfl:p=q:=by simpa using hq
   obtain rfl:u=v:=by simpa using hv
   exact hp
theorem Each.imp {G:World→PV→Rat × Rat→Nat→Prop} {w w':World} {L:List PV} {l:List (Rat × Rat)} {k:Nat} (h:Each G w L l k) (hw:∀ p u,G w p u k→G w' p u k):Each G w' L l k:=⟨h.1,fun i p u hp hu=>hw _ _ (h.2 i p u hp hu)⟩
theorem Each.at_ {G:World→PV→Rat × Rat→Nat→Prop} {L:List PV} {l:List (Rat × Rat)} {k:Nat} (h:Each G w L l k) {i:Nat} (hi:i < L.length):∃ p u,L[i]?=some p∧l[i]?=some u∧G w p u k :=
 ⟨_,_,List.getElem?_eq_getElem hi,List.getElem?_eq_getElem (by rw [← h.1];exact hi),h.2 i _ _ (List.getElem?_eq_getElem hi) (List.getElem?_eq_getElem (by rw [← h.1];exact hi))⟩
theorem Each.below {w w':World} {L:List PV} {l:List (Rat × Rat)} {k:Nat} (h:Each PV.PG w L l k) (hb:Below w.heap.size w w'):Each PV.PG w' L l k:=h.imp fun _ _ hp=>PG.below hp hb
theorem Each.stays {T:TypeId} {base:Nat} {w w':World} {v:Value} {M L:List PV} {l:List (Rat × Rat)} {k:Nat} (h:Each PV.PG w L l k) (hn:Ln T base w v M) (hg:w.grownBy w' v.ownBlock):∀ p u,PV.PG w p u k→PV.PG w' p u k:=fun p u hp=>by
 rcases hn.stays hg with q | ⟨g,cs,hB,_,ho⟩
 · exact PG.below hp q
 · exact PG.box hp hB ho
end
section
open Go Go.RowKit
structure CV where
 p:PV
 q:QV
def CV.cells (x:CV):List Value:=x.p.cells ++ x.q.cells
def cvs (L:List CV):List Value:=L.flatMap CV.cells
theorem qvs_append (L M:List QV):qvs (L ++ M)=qvs L ++ qvs M:=List.flatMap_append
theorem rows_length {α:Type} {f:α→List Value} {m:Nat} (hf:∀ x,(f x).length=m) (L:List α):(L.flatMap f).length=L.length*m:=by
 induction L with
 | nil=>simp
 | cons p L ih=>rw [List.flatMap_cons,List.length_append,ih,hf,List.length_cons,Nat.succ_mul];omega
theorem rows_get {α:Type} {f:α→List Value} {m:Nat} (hf:∀ x,(f x).length=m) {L:List α} {i:Nat} {p:α} (h:L[i]?=some p) {j:Nat} (hj:j < m):(L.flatMap f)[i*m+j]?=(f p)[j]?:=by
 induction L generalizing i with
 | nil=>cases h
 | cons q L ih =>
   rw [List.flatMap_cons]
   match i with
   | 0 =>
     obtain rfl:q=p:=by simpa using h
     rw [Nat.zero_mul,Nat.zero_add,List.getElem?_append_left (by rw [hf];exact hj)]
   | i+1 =>
     rw [Nat.succ_mul,List.getElem?_append_right (by rw [hf];omega),hf,show i*m+m+j - m=i*m+j by omega]
     exact ih h
theorem pvc_len (p:PV):p.cells.length=6:=rfl
theorem qvc_len (p:QV):p.cells.length=3:=rfl
theorem cvc_len (p:CV):p.cells.length=9:=rfl
def SV (w:World) (A:Option Addr) (vs:List Value):Prop:=0 < vs.length→∃ g o,A=some ⟨g,o,none⟩∧g < w.heap.size∧∀ j u,vs[j]?=some u→w.cell? ⟨g,o+j,none⟩=some u
theorem SV.nil (w:World) (A:Option Addr):SV w A []:=fun h=>absurd h (by simp)
theorem SV.below {w w':World} {A:Option Addr} {vs:List Value} (h:SV w A vs) (hb:Below w.heap.size w w'):SV w' A vs:=fun hn=>by
 obtain ⟨g,o,e,h1,h2⟩:=h hn
 exact ⟨g,o,e,Nat.lt_of_lt_of_le h1 hb.size,fun j u hu=>(hb.cell (p:=⟨g,o+j,none⟩) h1).trans (h2 j u hu)⟩
theorem SV.lt {A:Option Addr} {vs:List Value} (h:SV w A vs) {g o:Nat} (e:A=some ⟨g,o,none⟩) (hn:0 < vs.length):g < w.heap.size:=by
 obtain ⟨g2,o2,e2,h1,_⟩:=h hn
 rw [e] at e2;cases e2;exact h1
def E6x (w:World) (g o:Nat) (p:PV):Prop:=g < w.heap.size∧w.cell? ⟨g,o,none⟩=some (.bool p.s)∧w.cell? ⟨g,o+1,none⟩=some (.slice p.A p.n p.c)∧w.cell? ⟨g,o+2,none⟩=some (.slice p.B p.m p.d)∧w.cell? ⟨g,o+3,none⟩=some (.bool p.t)∧w.cell? ⟨g,o+4,none⟩=some (.slice p.E p.i p.e)∧w.cell? ⟨g,o+5,none⟩=some (.slice p.F p.j p.f)
section
variable {w w':World} {g o k:Nat} {p:PV}
theorem E6x.lt (h:E6x w g o p):g < w.heap.size:=h.1
theorem E6x.c0 (h:E6x w g o p):w.cell? ⟨g,o,none⟩=some (.bool p.s):=h.2.1
theorem E6x.c1 (h:E6x w g o p):w.cell? ⟨g,o+1,none⟩=some (.slice p.A p.n p.c):=h.2.2.1
theorem E6x.c2 (h:E6x w g o p):w.cell? ⟨g,o+2,none⟩=some (.slice p.B p.m p.d):=h.2.2.2.1
theorem E6x.c3 (h:E6x w g o p):w.cell? ⟨g,o+3,none⟩=some (.bool p.t):=h.2.2.2.2.1
theorem E6x.c4 (h:E6x w g o p):w.cell? ⟨g,o+4,none⟩=some (.slice p.E p.i p.e):=h.2.2.2.2.2.1
theorem E6x.c5 (h:E6x w g o p):w.cell? ⟨g,o+5,none⟩=some (.slice p.F p.j p.f):=h.2.2.2.2.2.2
theorem E6x.all (h:E6x w g o p):w.cell? ⟨g,o,none⟩=some (.bool p.s)∧w.cell? ⟨g,o+1,none⟩=some (.slice p.A p.n p.c)∧w.cell? ⟨g,o+2,none⟩=some (.slice p.B p.m p.d)∧w.cell? ⟨g,o+3,none⟩=some (.bool p.t)∧w.cell? ⟨g,o+4,none⟩=some (.slice p.E p.i p.e)∧w.cell? ⟨g,o+5,none⟩=some (.slice p.F p.j p.f):=⟨h.c0,h.c1,h.c2,h.c3,h.c4,h.c5⟩
theorem E6x.below (h:E6x w g o p) (hb:Below w.heap.size w w'):E6x w' g o p:=⟨Nat.lt_of_lt_of_le h.1 hb.size,(hb.cell (p:=⟨g,o,none⟩) h.1).trans h.c0,(hb.cell (p:=⟨g,o+1,none⟩) h.1).trans h.c1,(hb.cell (p:=⟨g,o+2,none⟩) h.1).trans h.c2,(hb.cell (p:=⟨g,o+3,none⟩) h.1).trans h.c3,(hb.cell (p:=⟨g,o+4,none⟩) h.1).trans h.c4,(hb.cell (p:=⟨g,o+5,none⟩) h.1).trans h.c5⟩
theorem E6x.rest (h:E6x w g o p) (hne:g ≠ k) (ho:Only k w w'):E6x w' g o p:=⟨Nat.lt_of_lt_of_le h.1 ho.size,(World.cell?_of_block (a:=⟨g,o,none⟩) (ho.block g h.1 hne)).trans h.c0,(World.cell?_of_block (a:=⟨g,o+1,none⟩) (ho.block g h.1 hne)).trans h.c1,(World.cell?_of_block (a:=⟨g,o+2,none⟩) (ho.block g h.1 hne)).trans h.c2,(World.cell?_of_block (a:=⟨g,o+3,none⟩) (ho.block g h.1 hne)).trans h.c3,(World.cell?_of_block (a:=⟨g,o+4,none⟩) (ho.block g h.1 hne)).trans h.c4,(World.cell?_of_block (a:=⟨g,o+5,none⟩) (ho.block g h.1 hne)).trans h.c5⟩
end
def E3x (w:World) (g o:Nat) (p:QV):Prop:=g < w.heap.size∧w.cell? ⟨g,o,none⟩=some (.bool p.s)∧w.cell? ⟨g,o+1,none⟩=some (.slice p.A p.n p.c)∧w.cell? ⟨g,o+2,none⟩=some (.slice p.B p.m p.d)
section
variable {w w':World} {g o k:Nat} {p:QV}
theorem E3x.lt (h:E3x w g o p):g < w.heap.size:=h.1
theorem E3x.c0 (h:E3x w g o p):w.cell? ⟨g,o,none⟩=some (.bool p.s):=h.2.1
theorem E3x.c1 (h:E3x w g o p):w.cell? ⟨g,o+1,none⟩=some (.slice p.A p.n p.c):=h.2.2.1
theorem E3x.c2 (h:E3x w g o p):w.cell? ⟨g,o+2,none⟩=some (.slice p.B p.m p.d):=h.2.2.2
theorem E3x.all (h:E3x w g o p):w.cell? ⟨g,o,none⟩=some (.bool p.s)∧w.cell? ⟨g,o+1,none⟩=some (.slice p.A p.n p.c)∧w.cell? ⟨g,o+2,none⟩=some (.slice p.B p.m p.d):=⟨h.c0,h.c1,h.c2⟩
theorem E3x.below (h:E3x w g o p) (hb:Below w.heap.size w w'):E3x w' g o p:=⟨Nat.lt_of_lt_of_le h.1 hb.size,(hb.cell (p:=⟨g,o,none⟩) h.1).trans h.c0,(hb.cell (p:=⟨g,o+1,none⟩) h.1).trans h.c1,(hb.cell (p:=⟨g,o+2,none⟩) h.1).trans h.c2⟩
theorem E3x.rest (h:E3x w g o p) (hne:g ≠ k) (ho:Only k w w'):E3x w' g o p:=⟨Nat.lt_of_lt_of_le h.1 ho.size,(World.cell?_of_block (a:=⟨g,o,none⟩) (ho.block g h.1 hne)).trans h.c0,(World.cell?_of_block (a:=⟨g,o+1,none⟩) (ho.block g h.1 hne)).trans h.c1,(World.cell?_of_block (a:=⟨g,o+2,none⟩) (ho.block g h.1 hne)).trans h.c2⟩
end
def E9x (w:World) (g o:Nat) (p:CV):Prop:=g < w.heap.size∧w.cell? ⟨g,o,none⟩=some (.bool p.p.s)∧w.cell? ⟨g,o+1,none⟩=some (.slice p.p.A p.p.n p.p.c)∧w.cell? ⟨g,o+2,none⟩=some (.slice p.p.B p.p.m p.p.d)∧w.cell? ⟨g,o+3,none⟩=some (.bool p.p.t)∧w.cell? ⟨g,o+4,none⟩=some (.slice p.p.E p.p.i p.p.e)∧w.cell? ⟨g,o+5,none⟩=some (.slice p.p.F p.p.j p.p.f)∧w.cell? ⟨g,o+6,none⟩=some (.bool p.q.s)∧w.cell? ⟨g,o+7,none⟩=some (.slice p.q.A p.q.n p.q.c)∧w.cell? ⟨g,o+8,none⟩=some (.slice p.q.B p.q.m p.q.d)
section
variable {w w':World} {g o k:Nat} {p:CV}
theorem E9x.lt (h:E9x w g o p):g < w.heap.size:=h.1
theorem E9x.c0 (h:E9x w g o p):w.cell? ⟨g,o,none⟩=some (.bool p.p.s):=h.2.1
theorem E9x.c1 (h:E9x w g o p):w.cell? ⟨g,o+1,none⟩=some (.slice p.p.A p.p.n p.p.c):=h.2.2.1
theorem E9x.c2 (h:E9x w g o p):w.cell? ⟨g,o+2,none⟩=some (.slice p.p.B p.p.m p.p.d):=h.2.2.2.1
theorem E9x.c3 (h:E9x w g o p):w.cell? ⟨g,o+3,none⟩=some (.bool p.p.t):=h.2.2.2.2.1
theorem E9x.c4 (h:E9x w g o p):w.cell? ⟨g,o+4,none⟩=some (.slice p.p.E p.p.i p.p.e):=h.2.2.2.2.2.1
theorem E9x.c5 (h:E9x w g o p):w.cell? ⟨g,o+5,none⟩=some (.slice p.p.F p.p.j p.p.f):=h.2.2.2.2.2.2.1
theorem E9x.c6 (h:E9x w g o p):w.cell? ⟨g,o+6,none⟩=some (.bool p.q.s):=h.2.2.2.2.2.2.2.1
theorem E9x.c7 (h:E9x w g o p):w.cell? ⟨g,o+7,none⟩=some (.slice p.q.A p.q.n p.q.c):=h.2.2.2.2.2.2.2.2.1
theorem E9x.c8 (h:E9x w g o p):w.cell? ⟨g,o+8,none⟩=some (.slice p.q.B p.q.m p.q.d):=h.2.2.2.2.2.2.2.2.2
theorem E9x.all (h:E9x w g o p):w.cell? ⟨g,o,none⟩=some (.bool p.p.s)∧w.cell? ⟨g,o+1,none⟩=some (.slice p.p.A p.p.n p.p.c)∧w.cell? ⟨g,o+2,none⟩=some (.slice p.p.B p.p.m p.p.d)∧w.cell? ⟨g,o+3,none⟩=some (.bool p.p.t)∧w.cell? ⟨g,o+4,none⟩=some (.slice p.p.E p.p.i p.p.e)∧w.cell? ⟨g,o+5,none⟩=some (.slice p.p.F p.p.j p.p.f)∧w.cell? ⟨g,o+6,none⟩=some (.bool p.q.s)∧w.cell? ⟨g,o+7,none⟩=some (.slice p.q.A p.q.n p.q.c)∧w.cell? ⟨g,o+8,none⟩=some (.slice p.q.B p.q.m p.q.d):=⟨h.c0,h.c1,h.c2,h.c3,h.c4,h.c5,h.c6,h.c7,h.c8⟩
theorem E9x.below (h:E9x w g o p) (hb:Below w.heap.size w w'):E9x w' g o p:=⟨Nat.lt_of_lt_of_le h.1 hb.size,(hb.cell (p:=⟨g,o,none⟩) h.1).trans h.c0,(hb.cell (p:=⟨g,o+1,none⟩) h.1).trans h.c1,(hb.cell (p:=⟨g,o+2,none⟩) h.1).trans h.c2,(hb.cell (p:=⟨g,o+3,none⟩) h.1).trans h.c3,(hb.cell (p:=⟨g,o+4,none⟩) h.1).trans h.c4,(hb.cell (p:=⟨g,o+5,none⟩) h.1).trans h.c5,(hb.cell (p:=⟨g,o+6,none⟩) h.1).trans h.c6,(hb.cell (p:=⟨g,o+7,none⟩) h.1).trans h.c7,(hb.cell (p:=⟨g,o+8,none⟩) h.1).trans h.c8⟩
theorem E9x.rest (h:E9x w g o p) (hne:g ≠ k) (ho:Only k w w'):E9x w' g o p:=⟨Nat.lt_of_lt_of_le h.1 ho.size,(World.cell?_of_block (a:=⟨g,o,none⟩) (ho.block g h.1 hne)).trans h.c0,(World.cell?_of_block (a:=⟨g,o+1,none⟩) (ho.block g h.1 hne)).trans h.c1,(World.cell?_of_block (a:=⟨g,o+2,none⟩) (ho.block g h.1 hne)).trans h.c2,(World.cell?_of_block (a:=⟨g,o+3,none⟩) (ho.block g h.1 hne)).trans h.c3,(World.cell?_of_block (a:=⟨g,o+4,none⟩) (ho.block g h.1 hne)).trans h.c4,(World.cell?_of_block (a:=⟨g,o+5,none⟩) (ho.block g h.1 hne)).trans h.c5,(World.cell?_of_block (a:=⟨g,o+6,none⟩) (ho.block g h.1 hne)).trans h.c6,(World.cell?_of_block (a:=⟨g,o+7,none⟩) (ho.block g h.1 hne)).trans h.c7,(World.cell?_of_block (a:=⟨g,o+8,none⟩) (ho.block g h.1 hne)).trans h.c8⟩
end
theorem SV.ct {A:Option Addr} {L:List CV} (h:SV w A (cvs L)) {i:Nat} {p:CV} (hi:L[i]?=some p):∃ g o,(∀ (n c:Nat) (w':World),i < n→(Instr.indexAt 121 (.slice A n c) (.int .i64 (i:Int))).run Tryz.prog w'=.ok (.pointer (some ⟨g,o,none⟩)) w')∧E9x w g o p∧∃ o0,A=some ⟨g,o0,none⟩:=by
 have hl:=(List.getElem?_eq_some_iff.1 hi).1
 obtain ⟨g,o,e,h1,h2⟩:=h (by rw [show (cvs L).length=L.length*9 from rows_length cvc_len L];omega)
 have key:∀ j,j < 9→∀ u,p.cells[j]?=some u→w.cell? ⟨g,o+i*9+j,none⟩=some u:=fun j hj u hu=>by
  rw [Nat.add_assoc];exact h2 _ u ((rows_get cvc_len hi hj).trans hu)
 refine ⟨g,o+i*9,fun n c w' hn=>?_,⟨h1,key 0 (by decide) _ rfl,key 1 (by decide) _ rfl,key 2 (by decide) _ rfl,key 3 (by decide) _ rfl,key 4 (by decide) _ rfl,key 5 (by decide) _ rfl,key 6 (by decide) _ rfl,key 7 (by decide) _ rfl,key 8 (by decide) _ rfl⟩,o,e⟩
 subst e
 have ha:∀ j,(⟨g,o,none⟩:Addr).add j=⟨g,o+j,none⟩:=fun j=>by unfold Addr.add;split <;> simp_all
 obtain ⟨i0,hi0,hz,hs,hby⟩:=info_parts (show (Tryz.prog.info? 124).map (fun i=>(i.zero,i.size,i.bytes))=some (some (.agg #[.bool false,.slice none 0 0,.slice none 0 0,.bool false,.slice none 0 0,.slice none 0 0,.bool false,.slice none 0 0,.slice none 0 0]),9,168) by kernel_rfl)
 have k1:(0:Int)≤(i:Int):=by omega
 have k2:(i:Int) < (n:Int):=by omega
 simp [Instr.indexAt,asIntOf,run_underlying Tryz.underlying121,k1,sizeOf,typeInfo,hi0,hs,ha]
 exact fun e=>absurd hn (by omega)
def RowB (T:TypeId) (w:World) (g:Nat) (vs:List Value):Prop:=∃ cs,BoxAt T w g cs∧vs.length≤cs.size∧∀ (j:Nat) (u:Value),vs[j]?=some u→cs[j]?=some u
section
variable {T:TypeId} {w w':World} {g k:Nat} {vs:List Value} {cs:Array Value}
theorem RowB.below (h:RowB T w g vs) (hb:Below w.heap.size w w'):RowB T w' g vs:=by
 obtain ⟨cs,h1,h2⟩:=h;exact ⟨cs,h1.below hb,h2⟩
theorem RowB.rest (h:RowB T w g vs) (hne:g ≠ k) (ho:Only k w w'):RowB T w' g vs:=by
 obtain ⟨cs,h1,h2⟩:=h;exact ⟨cs,⟨(ho.block g h1.lt hne).trans h1.at_,h1.free⟩,h2⟩
theorem RowB.sv (h:RowB T w g vs):SV w (some ⟨g,0,none⟩) vs:=fun _=>by
 obtain ⟨cs,h1,h2,h3⟩:=h
 refine ⟨g,0,rfl,h1.lt,fun j u hu=>?_⟩
 rw [Nat.zero_add,cell_of_row w g j _ _ (0,0) h1.at_];exact h3 j u hu
theorem BoxAt.sv (h:BoxAt T w g vs.toArray):SV w (some ⟨g,0,none⟩) vs:=fun _=>⟨g,0,rfl,h.lt,fun j u hu=>by
 rw [Nat.zero_add,cell_of_row w g j _ _ (0,0) h.at_];simpa using hu⟩
theorem BoxAt.ne {T':TypeId} {cs':Array Value} (h:BoxAt T w g cs) (h':BoxAt T' w k cs') (hne:T ≠ T' ∨ cs.size ≠ cs'.size):g ≠ k:=by
 rintro rfl
 have e:=h.at_.symm.trans h'.at_
 simp only [Option.some.injEq,Obj.cells.injEq] at e
 rcases hne with q | q
 · exact q e.2.1
 · exact q (by rw [e.1])
end
def SNr (T:TypeId) (base n:Nat) (vs:List Value) (w:World) (A:Option Addr):Prop:=0 < n→∃ g,A=some ⟨g,0,none⟩∧base≤g∧RowB T w g vs
theorem SNr.below {T:TypeId} {base n:Nat} {vs:List Value} {w w':World} {A:Option Addr} (h:SNr T base n vs w A) (hb:Below w.heap.size w w'):SNr T base n vs w' A:=fun hn=>by
 obtain ⟨g,e,h1,h2⟩:=h hn;exact ⟨g,e,h1,h2.below hb⟩
theorem SNr.sv {T:TypeId} {base n:Nat} {vs:List Value} {A:Option Addr} (h:SNr T base n vs w A) (hn:0 < n):SV w A vs:=by
 obtain ⟨g,rfl,_,h2⟩:=h hn;exact h2.sv
end
end Go.Proofs.YtgneghgfpkkkdaaGreat
