/- AreaMoves: part 17. -/
import Derived.Test.YtghmejlikfiegaaGreatKAreaMoves13
import Derived.Test.YtghmejlikfiegaaGreatKAreaMoves16
set_option linter.unusedVariables false
set_option maxRecDepth 100000
set_option maxHeartbeats 16000000
variable {w:Go.World}
variable {s_p t_p:Bool} {A_p B_p E_p F_p:Option Go.Addr} {n_p c_p m_p d_p i_p e_p j_p f_p:Nat}
namespace Go.Proofs.YtghmejlikfiegaaGreat
section
open Go Go.RowKit
theorem each_take2 {M:List PV} {l:List (Rat × Rat)} {K m:Nat} {P:PV} {u:Rat × Rat} (hu:l[m]?=some u) (h:Each PV.PR w (M ++ [P]) (l.take m ++ [u]) K):Each PV.PR w (M ++ [P]) (l.take (m+1)) K:=by
 obtain ⟨hm,hv⟩:=List.getElem?_eq_some_iff.1 hu
 rwa [List.take_succ_eq_append_getElem hm,hv]
theorem E6x.push {w w':World} {g o:Nat} {p:PV} {row:Option Nat} (h:E6x w g o p) (hg:w.grownBy w' row) (hne:∀ k,row=some k→k ≠ g):E6x w' g o p :=
 ⟨Nat.lt_of_lt_of_le h.1 hg.size,(World.cell?_of_block (a:=⟨g,o,none⟩) (hg.block g h.1 (fun e=>hne g e.symm rfl))).trans h.c0,(World.cell?_of_block (a:=⟨g,o+1,none⟩) (hg.block g h.1 (fun e=>hne g e.symm rfl))).trans h.c1,(World.cell?_of_block (a:=⟨g,o+2,none⟩) (hg.block g h.1 (fun e=>hne g e.symm rfl))).trans h.c2,(World.cell?_of_block (a:=⟨g,o+3,none⟩) (hg.block g h.1 (fun e=>hne g e.symm rfl))).trans h.c3,(World.cell?_of_block (a:=⟨g,o+4,none⟩) (hg.block g h.1 (fun e=>hne g e.symm rfl))).trans h.c4,(World.cell?_of_block (a:=⟨g,o+5,none⟩) (hg.block g h.1 (fun e=>hne g e.symm rfl))).trans h.c5⟩
theorem step_push {ops:Array Oper} {o:Oper} {a:Act} {K:Act→World→Prop} {Q:Exit→Act→World→Prop} {E:Prop} {T tS:TypeId} (ht:Tryz.prog.underlying tS=some (.slice T)) (hinfo:(Tryz.prog.info? T).map (fun i=>(i.zero,i.size,i.bytes))=some (some zpt,6,112))
 (hgd:o.guard=none) (s x:Operand) (ho:o.op=.call ⟨.builtin .append,#[s,x],#[tS,tS]⟩) {base b:Nat} {v:Value} {L:List PV} {p:PV} {k0:Nat} (hs:a.eval s=v) (hx:a.eval x=.slice (some ⟨b,0,none⟩) 1 k0)
 (h:Ln T base w v L) (hbase:base≤w.heap.size) (hL:L.length≤1000000) (hb:w.heap[b]?=some (.cells p.cells.toArray T (0,0)))
 (hK:∀ v' w',Ln T base w' v' (L ++ [p])→w.grownBy w' v.ownBlock→(∀ g,v'.ownBlock=some g→v.ownBlock=some g ∨ w.heap.size≤g)→K (a.put o.dst v') w'):if Region.wanted o (yielded ops a.tmps)=true then Oper.wp Tryz.prog o a w K Q else E:=by
 have hw:Region.wanted o (yielded ops a.tmps)=true:=by simp [Region.wanted,hgd]
 rw [if_pos hw]
 obtain ⟨v',w',hr,h2,h3,h4⟩:=run_push2 (ty:=o.type) (k0:=k0) ht hinfo h hbase hL hb
 exact wp_append_at s x ho hs hx hr (hK v' w' h2 h3 h4)
theorem B6.push {w w':World} {g:Nat} {x y z u v t:Value} {row:Option Nat} (h:B6 w g x y z u v t) (hg:w.grownBy w' row) (hne:∀ k,row=some k→k ≠ g):B6 w' g x y z u v t :=
 (hg.block g h.lt (fun e=>hne g e.symm rfl)).trans h
theorem Ln.own_base {T:TypeId} {base g:Nat} {v:Value} {L:List PV} (h:Ln T base w v L) (hg:v.ownBlock=some g):base≤g:=(h.own.lt g hg).1
theorem map_at {l:List (Rat × Rat)} {m:Nat} {u:Rat × Rat} (f:Rat × Rat→Rat × Rat) (h:l[m]?=some u):(l.map f)[m]?=some (f u):=by rw [List.getElem?_map,h];rfl
theorem moves_1 {A:Option Addr} {n c k8:Nat} {L:List PV} (hL:SV w A (pvs L)) (hn:L.length=n) (hnc:n≤c) (h:¬ n≤10) :
 Calls Tryz.prog 6 #[.slice A n c,.agg #[.bool s_p,.slice A_p n_p c_p,.slice B_p m_p d_p,.bool t_p,.slice E_p i_p e_p,.slice F_p j_p f_p],.int .u8 (k8:Int)] w fun e w'=>e=.returned (.bool true)∧Below w.heap.size w w':=by
 have H10:Hid ((10:Int)=((10:Nat):Int)):=rfl
 have HNN:=Lib.hid h;clear h
 go_enter Tryz.func6,Tryz.ntmps6
 go_upto_region 1 with (fail)
 generalize hW:World.alloc _ _=W
 obtain ⟨hb,XA,hzW⟩:=mkbx16_9 hW;clear hW;replace hL:=hL.below hb;obtain ⟨xa0,xa1,xa2,xa3,xa4,xa5⟩:=XA.all
 go_wp2_with (first
  | (go_at_call 8;(with_reducible refine (fair8_n (N:=10) H10.out hL hn hnc HNN.out).mono ?_);rintro e w_z ⟨rfl,hh⟩
     (try replace hL:=hL.below hh);(try replace XA:=XA.below hh);replace hb:=bend hb hh;obtain ⟨xa0,xa1,xa2,xa3,xa4,xa5⟩:=XA.all)
  | (go_at_call 10;(with_reducible refine (areawakes_any _).mono ?_);rintro e w_z ⟨rfl,hh⟩
     replace hb:=bend hb hh))
 go_ret;exact ⟨rfl,hb⟩
theorem moves_2 {A:Option Addr} {n c k8:Nat} {L:List PV} (hL:SV w A (pvs L)) (hn:L.length=n) (hnc:n≤c) (h:n≤10) (h2:¬ ∀ q ∈ L,q.small 4) :
 Calls Tryz.prog 6 #[.slice A n c,.agg #[.bool s_p,.slice A_p n_p c_p,.slice B_p m_p d_p,.bool t_p,.slice E_p i_p e_p,.slice F_p j_p f_p],.int .u8 (k8:Int)] w fun e w'=>e=.returned (.bool true)∧Below w.heap.size w w':=by
 have H10:Hid ((10:Int)=((10:Nat):Int)):=rfl
 have HNN:=Lib.hid h
 have HF8:Hid (¬ ∀ q ∈ L,q.small 4):=h2
 clear h h2
 go_enter Tryz.func6,Tryz.ntmps6
 go_upto_region 1 with (fail)
 generalize hW:World.alloc _ _=W
 obtain ⟨hb,XA,hzW⟩:=mkbx16_9 hW;clear hW;replace hL:=hL.below hb;obtain ⟨xa0,xa1,xa2,xa3,xa4,xa5⟩:=XA.all
 go_wp2_with (first
  | (go_at_call 8;(with_reducible refine (fair8_f (N:=10) H10.out hL hn (by decide) hnc HNN.out HF8.out).mono ?_);rintro e w_z ⟨rfl,hh⟩
     (try replace hL:=hL.below hh);(try replace XA:=XA.below hh);replace hb:=bend hb hh;obtain ⟨xa0,xa1,xa2,xa3,xa4,xa5⟩:=XA.all)
  | (go_at_call 10;(with_reducible refine (areawakes_any _).mono ?_);rintro e w_z ⟨rfl,hh⟩
     replace hb:=bend hb hh))
 go_ret;exact ⟨rfl,hb⟩
theorem moves_3 {A:Option Addr} {n c k8:Nat} {L:List PV} (hL:SV w A (pvs L)) (hn:L.length=n) (hnc:n≤c) (h:n≤10) (h2:∀ q ∈ L,q.small 4) (h3:¬ ((n_p≤6∧m_p≤6)∧i_p≤6∧j_p≤6)) :
 Calls Tryz.prog 6 #[.slice A n c,.agg #[.bool s_p,.slice A_p n_p c_p,.slice B_p m_p d_p,.bool t_p,.slice E_p i_p e_p,.slice F_p j_p f_p],.int .u8 (k8:Int)] w fun e w'=>e=.returned (.bool true)∧Below w.heap.size w w':=by
 have H10:Hid ((10:Int)=((10:Nat):Int)):=rfl
 have HNN:=Lib.hid h
 have HF8:Hid (∀ q ∈ L,q.small 4):=h2
 have HF6:Hid (¬ ∀ q ∈ [(PV.mk s_p A_p n_p c_p B_p m_p d_p t_p E_p i_p e_p F_p j_p f_p)],q.small 6):=fun e=>absurd (e (PV.mk s_p A_p n_p c_p B_p m_p d_p t_p E_p i_p e_p F_p j_p f_p) (List.mem_singleton.2 rfl)) h3
 clear h h2 h3
 go_enter Tryz.func6,Tryz.ntmps6
 go_upto_region 1 with (fail)
 generalize hW:World.alloc _ _=W
 obtain ⟨hb,XA,hzW⟩:=mkbx16_9 hW;clear hW;replace hL:=hL.below hb;obtain ⟨xa0,xa1,xa2,xa3,xa4,xa5⟩:=XA.all
 go_wp2_with (first
  | (go_at_call 8;(with_reducible refine (fair8_t (N:=10) H10.out hL hn (by decide) hnc HNN.out HF8.out).mono ?_);rintro e w_z ⟨rfl,hh⟩
     (try replace hL:=hL.below hh);(try replace XA:=XA.below hh);replace hb:=bend hb hh;obtain ⟨xa0,xa1,xa2,xa3,xa4,xa5⟩:=XA.all))
 have hOne:SV (w_z.alloc (Obj.cells #[Value.bool s_p,Value.slice A_p n_p c_p,Value.slice B_p m_p d_p,Value.bool t_p,Value.slice E_p i_p e_p,Value.slice F_p j_p f_p] 29)) (some ⟨w_z.heap.size,0,none⟩) (pvs [(PV.mk s_p A_p n_p c_p B_p m_p d_p t_p E_p i_p e_p F_p j_p f_p)]):=(show BoxAt 29 (w_z.alloc (Obj.cells #[Value.bool s_p,Value.slice A_p n_p c_p,Value.slice B_p m_p d_p,Value.bool t_p,Value.slice E_p i_p e_p,Value.slice F_p j_p f_p] 29)) w_z.heap.size (pvs [(PV.mk s_p A_p n_p c_p B_p m_p d_p t_p E_p i_p e_p F_p j_p f_p)]).toArray from ⟨heap_alloc_new w_z _,arr_free (pvs_free _)⟩).sv
 have hOn1:[(PV.mk s_p A_p n_p c_p B_p m_p d_p t_p E_p i_p e_p F_p j_p f_p)].length=1:=rfl
 have hh:Below w_z.heap.size w_z (w_z.alloc (Obj.cells #[Value.bool s_p,Value.slice A_p n_p c_p,Value.slice B_p m_p d_p,Value.bool t_p,Value.slice E_p i_p e_p,Value.slice F_p j_p f_p] 29)):=(Below.refl _ _).alloc (Nat.le_refl _) _
 replace hL:=hL.below hh;replace XA:=XA.below hh;replace hb:=bend hb hh
 generalize (w_z.alloc (Obj.cells #[Value.bool s_p,Value.slice A_p n_p c_p,Value.slice B_p m_p d_p,Value.bool t_p,Value.slice E_p i_p e_p,Value.slice F_p j_p f_p] 29))=W9 at *
 generalize w_z.heap.size=g9 at *
 obtain ⟨xa0,xa1,xa2,xa3,xa4,xa5⟩:=XA.all
 go_wp2_with (first
  | (go_at_call 9;(with_reducible refine (fair6_f hOne hOn1 (by decide) (by decide) HF6.out).mono ?_);rintro e w_z ⟨rfl,hh⟩
     (try replace hL:=hL.below hh);(try replace XA:=XA.below hh);replace hb:=bend hb hh;obtain ⟨xa0,xa1,xa2,xa3,xa4,xa5⟩:=XA.all)
  | (go_at_call 10;(with_reducible refine (areawakes_any _).mono ?_);rintro e w_z ⟨rfl,hh⟩
     replace hb:=bend hb hh))
 go_ret;exact ⟨rfl,hb⟩
theorem moves_4 {A:Option Addr} {n c k8:Nat} {L:List PV} (hL:SV w A (pvs L)) (hn:L.length=n) (hnc:n≤c) (h:n=0) (h2:∀ q ∈ L,q.small 4) (h3:((n_p≤6∧m_p≤6)∧i_p≤6∧j_p≤6)) :
 Calls Tryz.prog 6 #[.slice A n c,.agg #[.bool s_p,.slice A_p n_p c_p,.slice B_p m_p d_p,.bool t_p,.slice E_p i_p e_p,.slice F_p j_p f_p],.int .u8 (k8:Int)] w fun e w'=>e=.returned (.bool true)∧Below w.heap.size w w':=by
 have H10:Hid ((10:Int)=((10:Nat):Int)):=rfl
 have HNN:Hid (n≤10):=by show n≤10;omega
 have HF8:Hid (∀ q ∈ L,q.small 4):=h2
 have HF6:Hid (∀ q ∈ [(PV.mk s_p A_p n_p c_p B_p m_p d_p t_p E_p i_p e_p F_p j_p f_p)],q.small 6):=fun q hq=>by rw [List.mem_singleton.1 hq];exact h3
 subst h
 clear h2 h3
 go_enter Tryz.func6,Tryz.ntmps6
 go_upto_region 1 with (fail)
 generalize hW:World.alloc _ _=W
 obtain ⟨hb,XA,hzW⟩:=mkbx16_9 hW;clear hW;replace hL:=hL.below hb;obtain ⟨xa0,xa1,xa2,xa3,xa4,xa5⟩:=XA.all
 go_wp2_with (first
  | (go_at_call 8;(with_reducible refine (fair8_t (N:=10) H10.out hL hn (by decide) hnc HNN.out HF8.out).mono ?_);rintro e w_z ⟨rfl,hh⟩
     (try replace hL:=hL.below hh);(try replace XA:=XA.below hh);replace hb:=bend hb hh;obtain ⟨xa0,xa1,xa2,xa3,xa4,xa5⟩:=XA.all))
 have hOne:SV (w_z.alloc (Obj.cells #[Value.bool s_p,Value.slice A_p n_p c_p,Value.slice B_p m_p d_p,Value.bool t_p,Value.slice E_p i_p e_p,Value.slice F_p j_p f_p] 29)) (some ⟨w_z.heap.size,0,none⟩) (pvs [(PV.mk s_p A_p n_p c_p B_p m_p d_p t_p E_p i_p e_p F_p j_p f_p)]):=(show BoxAt 29 (w_z.alloc (Obj.cells #[Value.bool s_p,Value.slice A_p n_p c_p,Value.slice B_p m_p d_p,Value.bool t_p,Value.slice E_p i_p e_p,Value.slice F_p j_p f_p] 29)) w_z.heap.size (pvs [(PV.mk s_p A_p n_p c_p B_p m_p d_p t_p E_p i_p e_p F_p j_p f_p)]).toArray from ⟨heap_alloc_new w_z _,arr_free (pvs_free _)⟩).sv
 have hOn1:[(PV.mk s_p A_p n_p c_p B_p m_p d_p t_p E_p i_p e_p F_p j_p f_p)].length=1:=rfl
 have hh:Below w_z.heap.size w_z (w_z.alloc (Obj.cells #[Value.bool s_p,Value.slice A_p n_p c_p,Value.slice B_p m_p d_p,Value.bool t_p,Value.slice E_p i_p e_p,Value.slice F_p j_p f_p] 29)):=(Below.refl _ _).alloc (Nat.le_refl _) _
 replace hL:=hL.below hh;replace XA:=XA.below hh;replace hb:=bend hb hh
 generalize (w_z.alloc (Obj.cells #[Value.bool s_p,Value.slice A_p n_p c_p,Value.slice B_p m_p d_p,Value.bool t_p,Value.slice E_p i_p e_p,Value.slice F_p j_p f_p] 29))=W9 at *
 generalize w_z.heap.size=g9 at *
 obtain ⟨xa0,xa1,xa2,xa3,xa4,xa5⟩:=XA.all
 go_wp2_with (first
  | (go_at_call 9;(with_reducible refine (fair6_t hOne hOn1 (by decide) (by decide) HF6.out).mono ?_);rintro e w_z ⟨rfl,hh⟩
     (try replace hL:=hL.below hh);(try replace XA:=XA.below hh);replace hb:=bend hb hh;obtain ⟨xa0,xa1,xa2,xa3,xa4,xa5⟩:=XA.all)
  | (go_at_call 10;(with_reducible refine (areawakes_any _).mono ?_);rintro e w_z ⟨rfl,hh⟩
     replace hb:=bend hb hh))
 go_ret;exact ⟨rfl,hb⟩
theorem moves_5 {A:Option Addr} {n c k8:Nat} {L:List PV} (hL:SV w A (pvs L)) (hn:L.length=n) (hnc:n≤c) {l:List (Rat × Rat)} (hE:Each PV.PR w L l 4) {px py:Rat} (p:PR w s_p A_p n_p c_p B_p m_p d_p t_p E_p i_p e_p F_p j_p f_p px py 6) (h0:0 < n) (h:n≤10) (h2:∀ q ∈ L,q.small 4) (h3:((n_p≤6∧m_p≤6)∧i_p≤6∧j_p≤6)) (hk8:k8≤255) :
 Calls Tryz.prog 6 #[.slice A n c,.agg #[.bool s_p,.slice A_p n_p c_p,.slice B_p m_p d_p,.bool t_p,.slice E_p i_p e_p,.slice F_p j_p f_p],.int .u8 (k8:Int)] w fun e w'=>e=.returned (.bool true)∧Below w.heap.size w w':=by
 have H10:Hid ((10:Int)=((10:Nat):Int)):=rfl
 have HNN:=Lib.hid h
 have HF8:Hid (∀ q ∈ L,q.small 4):=h2
 have HF6:Hid (∀ q ∈ [(PV.mk s_p A_p n_p c_p B_p m_p d_p t_p E_p i_p e_p F_p j_p f_p)],q.small 6):=fun q hq=>by rw [List.mem_singleton.1 hq];exact h3
 have E0:=Lib.hid hE;have HN:=Lib.hid hn
 have HLl:Hid (l.length=n):=hE.1.symm.trans hn
 have hn0:¬ (n:Int)=0:=by omega
 have hn00:¬ n=0:=by omega
 obtain ⟨kk,hkk⟩:∃ kk,k8 % n=kk:=⟨_,rfl⟩
 have hkn:kk < n:=by rw [← hkk];exact Nat.mod_lt _ h0
 have hrem:(k8:Int).tmod (n:Int)=(kk:Int):=by rw [← hkk,Int.tmod_eq_emod_of_nonneg (by omega)];omega
 clear h h2 h3 hE hkk
 go_enter Tryz.func6,Tryz.ntmps6
 go_upto_region 1 with (fail)
 generalize hW:World.alloc _ _=W
 obtain ⟨hb,XA,hzW⟩:=mkbx16_9 hW;clear hW;replace hL:=hL.below hb;replace p:=p.below hb;obtain ⟨xa0,xa1,xa2,xa3,xa4,xa5⟩:=XA.all
 go_wp2_with (first
  | (go_at_call 8;(with_reducible refine (fair8_t (N:=10) H10.out hL hn (by decide) hnc HNN.out HF8.out).mono ?_);rintro e w_z ⟨rfl,hh⟩
     (try replace hL:=hL.below hh);(try replace p:=p.below hh);(try replace XA:=XA.below hh);replace hb:=bend hb hh;obtain ⟨xa0,xa1,xa2,xa3,xa4,xa5⟩:=XA.all))
 have hOne:SV (w_z.alloc (Obj.cells #[Value.bool s_p,Value.slice A_p n_p c_p,Value.slice B_p m_p d_p,Value.bool t_p,Value.slice E_p i_p e_p,Value.slice F_p j_p f_p] 29)) (some ⟨w_z.heap.size,0,none⟩) (pvs [(PV.mk s_p A_p n_p c_p B_p m_p d_p t_p E_p i_p e_p F_p j_p f_p)]):=(show BoxAt 29 (w_z.alloc (Obj.cells #[Value.bool s_p,Value.slice A_p n_p c_p,Value.slice B_p m_p d_p,Value.bool t_p,Value.slice E_p i_p e_p,Value.slice F_p j_p f_p] 29)) w_z.heap.size (pvs [(PV.mk s_p A_p n_p c_p B_p m_p d_p t_p E_p i_p e_p F_p j_p f_p)]).toArray from ⟨heap_alloc_new w_z _,arr_free (pvs_free _)⟩).sv
 have hOn1:[(PV.mk s_p A_p n_p c_p B_p m_p d_p t_p E_p i_p e_p F_p j_p f_p)].length=1:=rfl
 have hh:Below w_z.heap.size w_z (w_z.alloc (Obj.cells #[Value.bool s_p,Value.slice A_p n_p c_p,Value.slice B_p m_p d_p,Value.bool t_p,Value.slice E_p i_p e_p,Value.slice F_p j_p f_p] 29)):=(Below.refl _ _).alloc (Nat.le_refl _) _
 replace hL:=hL.below hh;replace p:=p.below hh;replace XA:=XA.below hh;replace hb:=bend hb hh
 generalize (w_z.alloc (Obj.cells #[Value.bool s_p,Value.slice A_p n_p c_p,Value.slice B_p m_p d_p,Value.bool t_p,Value.slice E_p i_p e_p,Value.slice F_p j_p f_p] 29))=W9 at *
 generalize w_z.heap.size=g9 at *
 obtain ⟨xa0,xa1,xa2,xa3,xa4,xa5⟩:=XA.all;have hn10:=HNN.out
 go_upto_region 4 with (first
  | (go_at_call 9;(with_reducible refine (fair6_t hOne hOn1 (by decide) (by decide) HF6.out).mono ?_);rintro e w_z ⟨rfl,hh⟩
     (try replace hL:=hL.below hh);(try replace p:=p.below hh);(try replace XA:=XA.below hh);replace hb:=bend hb hh;obtain ⟨xa0,xa1,xa2,xa3,xa4,xa5⟩:=XA.all))
 clear hOne hOn1
 go_upto_region 5 with (fail)
 have HL9:=Lib.hid hL;have P9:=Lib.hid p
 have E9:=Lib.hid (Each.belowP E0.out hb)
 have XA9:=XA;have hb9:=Lib.hid hb
 have hw9:w.heap.size < w_z.heap.size:=XA.lt
 clear hL p hb XA xa0 xa1 xa2 xa3 xa4 xa5
 go_wp2_with fail
 have hnb:((n:Int) == 0)=false:=by simpa using hn0
 simp only [hnb]
 go_loopg [7,8,9,10,12] n (fun gk s7 s8 s9 s0 ix wr=>∃ (M7 M8 M9 M0:List PV) (m:Nat),Hid (gk+m=n)∧ix=.int .i64 (m:Int)∧Ln 29 w_z.heap.size wr s7 M7∧Ln 29 w_z.heap.size wr s8 M8∧Ln 29 w_z.heap.size wr s9 M9∧Ln 29 w_z.heap.size wr s0 M0∧(Apart s7 s8∧Apart s7 s9∧Apart s7 s0∧Apart s8 s9∧Apart s8 s0∧Apart s9 s0)∧Hid (Each PV.PG wr M7 ((l.map fun u=>(u.1+px,u.2+py)).take m) 11)∧Hid (Each PV.PR w_z M8 (l.reverse.take m) 4)∧Hid (Each PV.PG wr M9 ((l.map fun u=>(u.1*(Rat.divInt 2 1),u.2*(Rat.divInt 2 1))).take m) 5)∧Hid (Each PV.PR w_z M0 ((rotL l kk).take m) 4)∧Below w_z.heap.size w_z wr)
 case atStart=>exact ⟨[],[],[],[],0,Nat.add_zero _,rfl,Ln.nil _ _ _,Ln.nil _ _ _,Ln.nil _ _ _,Ln.nil _ _ _,⟨apart_nil _,apart_nil _,apart_nil _,apart_nil _,apart_nil _,apart_nil _⟩,Each.nil,⟨rfl,fun i p u h=>by cases h⟩,Each.nil,⟨rfl,fun i p u h=>by cases h⟩,Below.refl _ _⟩
 case round =>
  obtain ⟨M7,M8,M9,M0,m,HG,rfl,T7,T8,T9,T0,⟨A78,A79,A70,A89,A80,A90⟩,Q7,Q8,Q9,Q0,hB⟩:=hrel
  by_cases hmn:m < n
  · have HMN:=Lib.hid hmn
    have lt_of:∀ {i:Nat},i < n→i < L.length:=fun h=>by rw [HN.out];exact h
    obtain ⟨P,u,hP1,hu1,p0⟩:=E9.out.at_ (i:=m) (lt_of hmn)
    obtain ⟨R,v,hP2,hu2,r0⟩:=E9.out.at_ (i:=n - 1 - m) (lt_of (by omega))
    obtain ⟨Q,x,hP3,hu3,q0⟩:=E9.out.at_ (i:=(m+kk) % n) (lt_of (Nat.mod_lt _ h0))
    obtain ⟨g0,o0,hix0,EP,_⟩:=HL9.out.pt hP1
    obtain ⟨g1,o1,hix1,ER,_⟩:=HL9.out.pt hP2
    obtain ⟨g2,o2,hix2,EQ,_⟩:=HL9.out.pt hP3
    have hixa:∀ w',(Instr.indexAt 22 (.slice A n c) (.int .i64 (m:Int))).run Tryz.prog w'=.ok (.pointer (some ⟨g0,o0,none⟩)) w':=fun w'=>hix0 n c w' hmn
    have hixb:∀ w',(Instr.indexAt 22 (.slice A n c) (.int .i64 ((n:Int) - 1 - (m:Int)))).run Tryz.prog w'=.ok (.pointer (some ⟨g1,o1,none⟩)) w':=fun w'=>by
     have:=hix1 n c w' (by omega)
     rwa [show ((n - 1 - m:Nat):Int)=(n:Int) - 1 - (m:Int) by omega] at this
    have hixc:∀ w',(Instr.indexAt 22 (.slice A n c) (.int .i64 (((m:Int)+(kk:Int)) % (n:Int)))).run Tryz.prog w'=.ok (.pointer (some ⟨g2,o2,none⟩)) w':=fun w'=>by
     have:=hix2 n c w' (Nat.mod_lt _ h0)
     rwa [show (((m+kk) % n:Nat):Int)=((m:Int)+(kk:Int)) % (n:Int) by push_cast;rfl] at this
    have hrm:((m:Int)+(kk:Int)).tmod (n:Int)=(((m+kk) % n:Nat):Int):=by rw [Int.tmod_eq_emod_of_nonneg (by omega)];push_cast;rfl
    have hlt:(m:Int) < (n:Int):=by omega
    have hwr:IntKind.i64.wrap ((m:Int)+1)=(m:Int)+1:=IntWalk.i64_in _ (by omega)
    have hwr2:IntKind.i64.wrap ((n:Int) - 1)=(n:Int) - 1:=IntWalk.i64_in _ (by omega)
    have hwr3:IntKind.i64.wrap ((n:Int) - 1 - (m:Int))=(n:Int) - 1 - (m:Int):=IntWalk.i64_in _ (by omega)
    have hwr4:IntKind.i64.wrap ((m:Int)+(kk:Int))=(m:Int)+(kk:Int):=IntWalk.i64_in _ (by omega)
    have HU:=Lib.hid hu1
    have HV:Hid (l.reverse[m]?=some v):=(List.getElem?_reverse (by rw [HLl.out];exact hmn)).trans (by rw [HLl.out];exact hu2)
    have HX:Hid ((rotL l kk)[m]?=some x):=rotL_at (by rw [HLl.out];exact hmn) (by rw [HLl.out];exact hu3)
    have hl7:M7.length≤1000000:=by have:=Q7.out.1;rw [List.length_take] at this;omega
    have hl8:M8.length≤1000000:=by have:=Q8.out.1;rw [List.length_take] at this;omega
    have hl9:M9.length≤1000000:=by have:=Q9.out.1;rw [List.length_take] at this;omega
    have hl0:M0.length≤1000000:=by have:=Q0.out.1;rw [List.length_take] at this;omega
    obtain ⟨ux,uy⟩:=u
    obtain ⟨s_x,A_x,n_x,c_x,B_x,m_x,d_x,t_x,E_x,i_x,e_x,F_x,j_x,f_x⟩:=P
    obtain ⟨s_r,A_r,n_r,c_r,B_r,m_r,d_r,t_r,E_r,i_r,e_r,F_r,j_r,f_r⟩:=R
    obtain ⟨s_q,A_q,n_q,c_q,B_q,m_q,d_q,t_q,E_q,i_q,e_q,F_q,j_q,f_q⟩:=Q
    replace p0:PR w_z s_x A_x n_x c_x B_x m_x d_x t_x E_x i_x e_x F_x j_x f_x ux uy 4:=p0
    have PX0:=Lib.hid p0;have PR0:=Lib.hid r0;have PQ0:=Lib.hid q0;have EP9:=Lib.hid EP;have ER9:=Lib.hid ER;have EQ9:=Lib.hid EQ
    have h7g:∀ k,u7.ownBlock=some k→k ≠ g0:=fun k e=>by have:=T7.own_base e;have:=EP.lt;omega
    have h7x:∀ k,u7.ownBlock=some k→k ≠ w.heap.size:=fun k e=>by have:=T7.own_base e;omega
    have h9g:∀ k,u9.ownBlock=some k→k ≠ g0:=fun k e=>by have:=T9.own_base e;have:=EP.lt;omega
    have h9x:∀ k,u9.ownBlock=some k→k ≠ w.heap.size:=fun k e=>by have:=T9.own_base e;omega
    clear hP1 hP2 hP3 hu1 hu2 hu3 hix0 hix1 hix2 hmn p0 r0 q0 ER EQ;replace EP:=EP9.out.below hB;have XA:=XA9.below hB;have x:=PR.below PX0.out hB;have p:=PR.below P9.out hB;obtain ⟨e0,e1,e2,e3,e4,e5⟩:=EP.all
    simp only at e0 e1 e2 e3 e4 e5
    go_upto_region 8 with (fail)
    replace T7:=T7.below (Below.refl _ _).drew
    replace T8:=T8.below (Below.refl _ _).drew
    replace T9:=T9.below (Below.refl _ _).drew
    replace T0:=T0.below (Below.refl _ _).drew
    replace EP:=EP.below (Below.refl _ _).drew
    replace XA:=XA.below (Below.refl _ _).drew
    replace x:=x.below (Below.refl _ _).drew
    replace p:=p.below (Below.refl _ _).drew
    replace Q7:=Lib.hid (Each.below Q7.out (Below.refl _ _).drew)
    replace Q9:=Lib.hid (Each.below Q9.out (Below.refl _ _).drew)
    replace hB:=hB.drew
    go_region_held3 (fun w'=>w'.cell? ⟨g0,o0,none⟩=some (.bool s_x)∧w'.cell? ⟨g0,o0+1,none⟩=some (.slice A_x n_x c_x)∧w'.cell? ⟨g0,o0+2,none⟩=some (.slice B_x m_x d_x)∧w'.cell? ⟨g0,o0+3,none⟩=some (.bool t_x)∧w'.cell? ⟨g0,o0+4,none⟩=some (.slice E_x i_x e_x)∧w'.cell? ⟨g0,o0+5,none⟩=some (.slice F_x j_x f_x)∧w'.cell? ⟨w.heap.size,0,none⟩=some (.bool s_p)∧w'.cell? ⟨w.heap.size,1,none⟩=some (.slice A_p n_p c_p)∧w'.cell? ⟨w.heap.size,2,none⟩=some (.slice B_p m_p d_p)∧w'.cell? ⟨w.heap.size,3,none⟩=some (.bool t_p)∧w'.cell? ⟨w.heap.size,4,none⟩=some (.slice E_p i_p e_p)∧w'.cell? ⟨w.heap.size,5,none⟩=some (.slice F_p j_p f_p))
     (first | with_reducible exact ⟨EPb.c0,EPb.c1,EPb.c2,EPb.c3,EPb.c4,EPb.c5,XAb.c0,XAb.c1,XAb.c2,XAb.c3,XAb.c4,XAb.c5⟩ | with_reducible exact ⟨EP.c0,EP.c1,EP.c2,EP.c3,EP.c4,EP.c5,XA.c0,XA.c1,XA.c2,XA.c3,XA.c4,XA.c5⟩ | exact ⟨(EP.below ((Below.refl _ _).alloc (Nat.le_refl _) _)).c0,(EP.below ((Below.refl _ _).alloc (Nat.le_refl _) _)).c1,(EP.below ((Below.refl _ _).alloc (Nat.le_refl _) _)).c2,(EP.below ((Below.refl _ _).alloc (Nat.le_refl _) _)).c3,(EP.below ((Below.refl _ _).alloc (Nat.le_refl _) _)).c4,(EP.below ((Below.refl _ _).alloc (Nat.le_refl _) _)).c5,(XA.below ((Below.refl _ _).alloc (Nat.le_refl _) _)).c0,(XA.below ((Below.refl _ _).alloc (Nat.le_refl _) _)).c1,(XA.below ((Below.refl _ _).alloc (Nat.le_refl _) _)).c2,(XA.below ((Below.refl _ _).alloc (Nat.le_refl _) _)).c3,(XA.below ((Below.refl _ _).alloc (Nat.le_refl _) _)).c4,(XA.below ((Below.refl _ _).alloc (Nat.le_refl _) _)).c5⟩)
     (first
     | (go_at_call 33;(with_reducible refine (padd_p x p (by decide) (by decide) (.inl (by decide)) (by decide) (by decide)).mono ?_);rintro e w_y ⟨s_y,A_y,n_y,c_y,B_y,m_y,d_y,t_y,E_y,i_y,e_y,F_y,j_y,f_y,rfl,y,hh⟩
        (try replace T7:=T7.below hh);(try replace T8:=T8.below hh);(try replace T9:=T9.below hh);(try replace T0:=T0.below hh);(try replace EP:=EP.below hh);(try replace XA:=XA.below hh);(try replace x:=x.below hh);(try replace p:=p.below hh)
        replace Q7:=Lib.hid (Each.below Q7.out hh)
        replace Q9:=Lib.hid (Each.below Q9.out hh)
        replace hB:=bend hB hh)
     | (have hal:Below w_y.heap.size w_y (w_y.alloc (Obj.cells #[Value.bool s_y,Value.slice A_y n_y c_y,Value.slice B_y m_y d_y,Value.bool t_y,Value.slice E_y i_y e_y,Value.slice F_y j_y f_y] 29)):=(Below.refl _ _).alloc (Nat.le_refl _) _
        have EPa:=EP.below hal;have XAa:=XA.below hal
        refine step_push Tryz.underlying22 info_pt (by rfl) _ _ (by rfl) (p:=(PV.mk s_y A_y n_y c_y B_y m_y d_y t_y E_y i_y e_y F_y j_y f_y)) (k0:=1) (b:=w_y.heap.size) (by rfl) (by rfl) (T7.below hal) (Nat.le_trans hB.size hal.size) hl7 (heap_alloc_new w_y _) ?_
        intro v7 wv7 hnv7 hgv7 hov7
        have EPb:=EPa.push hgv7 h7g;have XAb:=XAa.push hgv7 h7x))
    have B9:=Apart.push (A78) (T8.below hal) hov7
    replace T8:=(T8.below hal).other (A78) hgv7
    replace A78:=B9;clear B9
    have B9:=Apart.push (A79) (T9.below hal) hov7
    replace T9:=(T9.below hal).other (A79) hgv7
    replace A79:=B9;clear B9
    have B9:=Apart.push (A70) (T0.below hal) hov7
    replace T0:=(T0.below hal).other (A70) hgv7
    replace A70:=B9;clear B9
    have hst7:=Each.stays (Each.below Q7.out hal) (T7.below hal) hgv7
    replace Q7:=Lib.hid (Each.push (p:=(PV.mk s_y A_y n_y c_y B_y m_y d_y t_y E_y i_y e_y F_y j_y f_y)) (u:=(ux+px,uy+py)) (Each.below Q7.out hal) hst7 (hst7 _ _ (PG.more (PG.below y hal) (by decide))))
    clear hst7
    have hst9:=Each.stays (Each.below Q9.out hal) (T7.below hal) hgv7
    replace Q9:=Lib.hid ((Each.below Q9.out hal).imp hst9)
    clear hst9
    replace hB:=Ln.under (T7.below hal) hgv7 (bend hB hal) (Nat.le_refl _)
    replace T7:=hnv7;clear hal EPa XAa EPb XAb hnv7 hgv7 hov7 y EP XA x p hh e0 e1 e2 e3 e4 e5;have ER:=ER9.out.below hB;obtain ⟨e0,e1,e2,e3,e4,e5⟩:=ER.all
    simp only at e0 e1 e2 e3 e4 e5
    have hal:Below wv7.heap.size wv7 (wv7.alloc (Obj.cells #[Value.bool s_r,Value.slice A_r n_r c_r,Value.slice B_r m_r d_r,Value.bool t_r,Value.slice E_r i_r e_r,Value.slice F_r j_r f_r] 29)):=(Below.refl _ _).alloc (Nat.le_refl _) _
    have Ta:=T8.below hal;have hba:=Nat.le_trans hB.size hal.size
    have hla:=heap_alloc_new wv7 (Obj.cells #[Value.bool s_r,Value.slice A_r n_r c_r,Value.slice B_r m_r d_r,Value.bool t_r,Value.slice E_r i_r e_r,Value.slice F_r j_r f_r] 29)
    go_upto_region 10 with (at_builtin;refine wpList_push2 Tryz.underlying22 info_pt rfl (.tmp 49) (.tmp 58) rfl (base:=w_z.heap.size) (v:=u8) (L:=M8) (p:=(PV.mk s_r A_r n_r c_r B_r m_r d_r t_r E_r i_r e_r F_r j_r f_r)) (k0:=1) (b:=wv7.heap.size) rfl rfl Ta hba hl8 hla ?_;intro v8 wv8 hnv8 hgv8 hov8)
    have B9:=Apart.push (A78.symm) (T7.below hal) hov8
    replace T7:=(T7.below hal).other (A78.symm) hgv8
    replace A78:=B9.symm;clear B9
    have B9:=Apart.push (A89) (T9.below hal) hov8
    replace T9:=(T9.below hal).other (A89) hgv8
    replace A89:=B9;clear B9
    have B9:=Apart.push (A80) (T0.below hal) hov8
    replace T0:=(T0.below hal).other (A80) hgv8
    replace A80:=B9;clear B9
    have hst7:=Each.stays (Each.below Q7.out hal) (T8.below hal) hgv8
    replace Q7:=Lib.hid ((Each.below Q7.out hal).imp hst7)
    clear hst7
    have hst9:=Each.stays (Each.below Q9.out hal) (T8.below hal) hgv8
    replace Q9:=Lib.hid ((Each.below Q9.out hal).imp hst9)
    clear hst9
    replace hB:=Ln.under (T8.below hal) hgv8 (bend hB hal) (Nat.le_refl _)
    replace T8:=hnv8
    have Q8n:=Lib.hid (Each.push Q8.out (fun _ _ h=>h) PR0.out)
    replace Q8:=Q8n;clear Q8n hal hnv8 hgv8 hov8 ER e0 e1 e2 e3 e4 e5;have EP:=EP9.out.below hB;have x:=PR.below PX0.out hB;obtain ⟨e0,e1,e2,e3,e4,e5⟩:=EP.all
    simp only at e0 e1 e2 e3 e4 e5
    replace T7:=T7.below (Below.refl _ _).drew
    replace T8:=T8.below (Below.refl _ _).drew
    replace T9:=T9.below (Below.refl _ _).drew
    replace T0:=T0.below (Below.refl _ _).drew
    replace EP:=EP.below (Below.refl _ _).drew
    replace x:=x.below (Below.refl _ _).drew
    replace Q7:=Lib.hid (Each.below Q7.out (Below.refl _ _).drew)
    replace Q9:=Lib.hid (Each.below Q9.out (Below.refl _ _).drew)
    replace hB:=hB.drew
    go_region_held3 (fun w'=>w'.cell? ⟨g0,o0,none⟩=some (.bool s_x)∧w'.cell? ⟨g0,o0+1,none⟩=some (.slice A_x n_x c_x)∧w'.cell? ⟨g0,o0+2,none⟩=some (.slice B_x m_x d_x)∧w'.cell? ⟨g0,o0+3,none⟩=some (.bool t_x)∧w'.cell? ⟨g0,o0+4,none⟩=some (.slice E_x i_x e_x)∧w'.cell? ⟨g0,o0+5,none⟩=some (.slice F_x j_x f_x))
     (first | with_reducible exact ⟨EPb.c0,EPb.c1,EPb.c2,EPb.c3,EPb.c4,EPb.c5⟩ | with_reducible exact ⟨EP.c0,EP.c1,EP.c2,EP.c3,EP.c4,EP.c5⟩ | exact ⟨(EP.below ((Below.refl _ _).alloc (Nat.le_refl _) _)).c0,(EP.below ((Below.refl _ _).alloc (Nat.le_refl _) _)).c1,(EP.below ((Below.refl _ _).alloc (Nat.le_refl _) _)).c2,(EP.below ((Below.refl _ _).alloc (Nat.le_refl _) _)).c3,(EP.below ((Below.refl _ _).alloc (Nat.le_refl _) _)).c4,(EP.below ((Below.refl _ _).alloc (Nat.le_refl _) _)).c5⟩)
     (first
     | (go_at_call 35;(with_reducible refine (rof_q 2 1 (by decide) (by decide) (by decide) (by decide) (by decide) _).mono ?_);rintro e w_h ⟨s_h,A_h,n_h,c_h,B_h,m_h,d_h,rfl,h,hh⟩
        (try replace T7:=T7.below hh);(try replace T8:=T8.below hh);(try replace T9:=T9.below hh);(try replace T0:=T0.below hh);(try replace EP:=EP.below hh);(try replace x:=x.below hh)
        replace Q7:=Lib.hid (Each.below Q7.out hh)
        replace Q9:=Lib.hid (Each.below Q9.out hh)
        replace hB:=bend hB hh)
     | (go_at_call 34;(with_reducible refine (pscale_p x h.qr (by decide) (by decide) (.inl (by decide)) (by decide) (by decide)).mono ?_);rintro e w_t ⟨s_t,A_t,n_t,c_t,B_t,m_t,d_t,t_t,E_t,i_t,e_t,F_t,j_t,f_t,rfl,t,hh⟩
        (try replace T7:=T7.below hh);(try replace T8:=T8.below hh);(try replace T9:=T9.below hh);(try replace T0:=T0.below hh);(try replace EP:=EP.below hh);(try replace x:=x.below hh);(try replace h:=h.below hh)
        replace Q7:=Lib.hid (Each.below Q7.out hh)
        replace Q9:=Lib.hid (Each.below Q9.out hh)
        replace hB:=bend hB hh)
     | (have hal:Below w_t.heap.size w_t (w_t.alloc (Obj.cells #[Value.bool s_t,Value.slice A_t n_t c_t,Value.slice B_t m_t d_t,Value.bool t_t,Value.slice E_t i_t e_t,Value.slice F_t j_t f_t] 29)):=(Below.refl _ _).alloc (Nat.le_refl _) _
        have EPa:=EP.below hal
        refine step_push Tryz.underlying22 info_pt (by rfl) _ _ (by rfl) (p:=(PV.mk s_t A_t n_t c_t B_t m_t d_t t_t E_t i_t e_t F_t j_t f_t)) (k0:=1) (b:=w_t.heap.size) (by rfl) (by rfl) (T9.below hal) (Nat.le_trans hB.size hal.size) hl9 (heap_alloc_new w_t _) ?_
        intro v9 wv9 hnv9 hgv9 hov9
        have EPb:=EPa.push hgv9 h9g))
    have B9:=Apart.push (A79.symm) (T7.below hal) hov9
    replace T7:=(T7.below hal).other (A79.symm) hgv9
    replace A79:=B9.symm;clear B9
    have B9:=Apart.push (A89.symm) (T8.below hal) hov9
    replace T8:=(T8.below hal).other (A89.symm) hgv9
    replace A89:=B9.symm;clear B9
    have B9:=Apart.push (A90) (T0.below hal) hov9
    replace T0:=(T0.below hal).other (A90) hgv9
    replace A90:=B9;clear B9
    have hst7:=Each.stays (Each.below Q7.out hal) (T9.below hal) hgv9
    replace Q7:=Lib.hid ((Each.below Q7.out hal).imp hst7)
    clear hst7
    have hst9:=Each.stays (Each.below Q9.out hal) (T9.below hal) hgv9
    replace Q9:=Lib.hid (Each.push (p:=(PV.mk s_t A_t n_t c_t B_t m_t d_t t_t E_t i_t e_t F_t j_t f_t)) (u:=(ux*(Rat.divInt 2 1),uy*(Rat.divInt 2 1))) (Each.below Q9.out hal) hst9 (hst9 _ _ (PG.more (PG.below t hal) (by decide))))
    clear hst9
    replace hB:=Ln.under (T9.below hal) hgv9 (bend hB hal) (Nat.le_refl _)
    replace T9:=hnv9;clear hal EPa EPb hnv9 hgv9 hov9 t h EP x hh e0 e1 e2 e3 e4 e5;have EQ:=EQ9.out.below hB;obtain ⟨e0,e1,e2,e3,e4,e5⟩:=EQ.all
    simp only at e0 e1 e2 e3 e4 e5
    have hal:Below wv9.heap.size wv9 (wv9.alloc (Obj.cells #[Value.bool s_q,Value.slice A_q n_q c_q,Value.slice B_q m_q d_q,Value.bool t_q,Value.slice E_q i_q e_q,Value.slice F_q j_q f_q] 29)):=(Below.refl _ _).alloc (Nat.le_refl _) _
    have Ta:=T0.below hal;have hba:=Nat.le_trans hB.size hal.size
    have hla:=heap_alloc_new wv9 (Obj.cells #[Value.bool s_q,Value.slice A_q n_q c_q,Value.slice B_q m_q d_q,Value.bool t_q,Value.slice E_q i_q e_q,Value.slice F_q j_q f_q] 29)
    go_wp2_with (at_builtin;refine wpList_push2 Tryz.underlying22 info_pt rfl (.tmp 69) (.tmp 79) rfl (base:=w_z.heap.size) (v:=u10) (L:=M0) (p:=(PV.mk s_q A_q n_q c_q B_q m_q d_q t_q E_q i_q e_q F_q j_q f_q)) (k0:=1) (b:=wv9.heap.size) rfl rfl Ta hba hl0 hla ?_;intro v0 wv0 hnv0 hgv0 hov0)
    have B9:=Apart.push (A70.symm) (T7.below hal) hov0
    replace T7:=(T7.below hal).other (A70.symm) hgv0
    replace A70:=B9.symm;clear B9
    have B9:=Apart.push (A80.symm) (T8.below hal) hov0
    replace T8:=(T8.below hal).other (A80.symm) hgv0
    replace A80:=B9.symm;clear B9
    have B9:=Apart.push (A90.symm) (T9.below hal) hov0
    replace T9:=(T9.below hal).other (A90.symm) hgv0
    replace A90:=B9.symm;clear B9
    have hst7:=Each.stays (Each.below Q7.out hal) (T0.below hal) hgv0
    replace Q7:=Lib.hid ((Each.below Q7.out hal).imp hst7)
    clear hst7
    have hst9:=Each.stays (Each.below Q9.out hal) (T0.below hal) hgv0
    replace Q9:=Lib.hid ((Each.below Q9.out hal).imp hst9)
    clear hst9
    replace hB:=Ln.under (T0.below hal) hgv0 (bend hB hal) (Nat.le_refl _)
    replace T0:=hnv0
    have Q0n:=Lib.hid (Each.push Q0.out (fun _ _ h=>h) PQ0.out)
    go_roundg (gk - 1)
    case measure=>have:=HG.out;omega
    case rel=>exact ⟨_,_,_,_,m+1,by have:=HG.out;show _=_;omega,by go_num,T7,T8,T9,T0,⟨A78,A79,A70,A89,A80,A90⟩,each_take (map_at _ HU.out) Q7.out,each_take2 HV.out Q8.out,each_take (map_at _ HU.out) Q9.out,each_take2 HX.out Q0n.out,hB⟩
  · have hlt:¬ (m:Int) < (n:Int):=by omega
    have F7:Each PV.PR wr M7 (l.map fun u=>(u.1+px,u.2+py)) 11:=by
     have h:=Q7.out
     rw [List.take_of_length_le (by rw [List.length_map,HLl.out];omega)] at h
     exact Each.pr h
    have F8:Each PV.PR wr M8 l.reverse 4:=by
     have h:=Q8.out
     rw [List.take_of_length_le (by rw [List.length_reverse,HLl.out];omega)] at h
     exact Each.belowP h hB
    have F9:Each PV.PR wr M9 (l.map fun u=>(u.1*(Rat.divInt 2 1),u.2*(Rat.divInt 2 1))) 5:=by
     have h:=Q9.out
     rw [List.take_of_length_le (by rw [List.length_map,HLl.out];omega)] at h
     exact Each.pr h
    have F0:Each PV.PR wr M0 (rotL l kk) 4:=by
     have h:=Q0.out
     rw [List.take_of_length_le (by rw [rotL_len,HLl.out];omega)] at h
     exact Each.belowP h hB
    have hm7:M7.length=n:=F7.1.trans (by rw [List.length_map,HLl.out])
    have hm8:M8.length=n:=F8.1.trans (by rw [List.length_reverse,HLl.out])
    have hm9:M9.length=n:=F9.1.trans (by rw [List.length_map,HLl.out])
    have hm0:M0.length=n:=F0.1.trans (by rw [rotL_len,HLl.out])
    obtain ⟨A7,c7,e7,hc7,_⟩:=T7.form
    rw [hm7] at e7 hc7
    subst e7
    obtain ⟨A8,c8,e8,hc8,_⟩:=T8.form
    rw [hm8] at e8 hc8
    subst e8
    obtain ⟨A9,c9,e9,hc9,_⟩:=T9.form
    rw [hm9] at e9 hc9
    subst e9
    obtain ⟨A0,c0,e0,hc0,_⟩:=T0.form
    rw [hm0] at e0 hc0
    subst e0
    have h0l:0 < l.length:=by rw [HLl.out];exact h0
    have eq7:areaQ (l.map fun u=>(u.1+px,u.2+py))=areaQ l:=area_ext (sum_moved h0l px py)
    have eq8:areaQ l.reverse=-areaQ l:=area_rev h0l
    have eq9:areaQ (l.map fun u=>(u.1*(Rat.divInt 2 1),u.2*(Rat.divInt 2 1)))=areaQ l*Rat.divInt 4 1:=area_twice h0l (by decide +kernel)
    have eq0:areaQ (rotL l kk)=areaQ l:=area_rot h0l kk
    have HC7:Hid (cmpQ (areaQ (l.map fun u=>(u.1+px,u.2+py))) (areaQ l)=0):=cmpQ_eq eq7
    have HC8:Hid (cmpQ (areaQ l.reverse) (-areaQ l)=0):=cmpQ_eq eq8
    have HC9:Hid (cmpQ (areaQ (l.map fun u=>(u.1*(Rat.divInt 2 1),u.2*(Rat.divInt 2 1)))) (areaQ l*Rat.divInt 4 1)=0):=cmpQ_eq eq9
    have HC0:Hid (cmpQ (areaQ (rotL l kk)) (areaQ l)=0):=cmpQ_eq eq0
    have HE7:=Lib.hid ((sum_of_area (l.map fun u=>(u.1+px,u.2+py))).trans (congrArg (·*2) eq7))
    have HA:Hid (n*(4+4+(4+4)+1+2)+1+1≤400):=by show n*(4+4+(4+4)+1+2)+1+1≤400;omega
    have HA2:Hid (n*(4+4+(4+4)+1+2)+2≤400):=by show n*(4+4+(4+4)+1+2)+2≤400;omega
    have HA5:Hid (n*(5+5+(5+5)+1+2)+2≤400):=by show n*(5+5+(5+5)+1+2)+2≤400;omega
    have HB5:Hid (n*(5+5+(5+5)+1+2)+1+1≤400):=by show n*(5+5+(5+5)+1+2)+1+1≤400;omega
    have HW:Hid ((n+1)*(11+11+(11+11)+1+2)≤800):=by show (n+1)*(11+11+(11+11)+1+2)≤800;omega
    have HK:Hid (n*(4+4+(4+4)+1+2)+1+1+1+1≤400):=by show n*(4+4+(4+4)+1+2)+1+1+1+1≤400;omega
    have hL:=HL9.out.below hB;have hE:=Each.belowP E9.out hB;have hb:=bend hb9.out hB;clear hB eq7 eq8 eq9 eq0 Q7 Q8 Q9 Q0 A78 A79 A70 A89 A80 A90
    go_upto_region 13 with (first
     | (go_at_call 17;(with_reducible refine (area_p hL hE HN.out (by omega) hnc (by decide) (by decide) HA2.out).mono ?_);rintro e w_t ⟨s_t,A_t,n_t,c_t,B_t,m_t,d_t,rfl,t,hh⟩
        (try replace T7:=T7.below hh);(try replace T8:=T8.below hh);(try replace T9:=T9.below hh);(try replace T0:=T0.below hh);replace hb:=bend hb hh;replace F7:=Each.belowP F7 hh;replace F8:=Each.belowP F8 hh;replace F9:=Each.belowP F9 hh;replace F0:=Each.belowP F0 hh))
    generalize hW:World.alloc _ _=W3
    obtain ⟨hh,XT,hzW3⟩:=mkbx9_8 hW;clear hW;(try replace T7:=T7.below hh);(try replace T8:=T8.below hh);(try replace T9:=T9.below hh);(try replace T0:=T0.below hh);(try replace t:=t.below hh);replace hb:=bend hb hh;replace F7:=Each.belowP F7 hh;replace F8:=Each.belowP F8 hh;replace F9:=Each.belowP F9 hh;replace F0:=Each.belowP F0 hh
    have HS7:Hid ((qsum (crosses (l.map fun u=>(u.1+px,u.2+py)))).num.natAbs < B64 ^ (n*(4+4+(4+4)+1+2)+1+1+1)∧(qsum (crosses (l.map fun u=>(u.1+px,u.2+py)))).den < B64 ^ (n*(4+4+(4+4)+1+2)+1+1+1)):=by
     show _∧_
     rw [HE7.out]
     exact twice_lt (QG.lt t)
    replace T7:=T7.below (Below.refl _ _).drew
    replace T8:=T8.below (Below.refl _ _).drew
    replace T9:=T9.below (Below.refl _ _).drew
    replace T0:=T0.below (Below.refl _ _).drew
    replace XT:=XT.below (Below.refl _ _).drew
    replace t:=t.below (Below.refl _ _).drew
    replace F7:=Each.belowP F7 (Below.refl _ _).drew
    replace F8:=Each.belowP F8 (Below.refl _ _).drew
    replace F9:=Each.belowP F9 (Below.refl _ _).drew
    replace F0:=Each.belowP F0 (Below.refl _ _).drew
    replace hb:=hb.drew
    go_region_held3 (fun w'=>w'.cell? ⟨w_t.heap.size,0,none⟩=some (.bool s_t)∧w'.cell? ⟨w_t.heap.size,1,none⟩=some (.slice A_t n_t c_t)∧w'.cell? ⟨w_t.heap.size,2,none⟩=some (.slice B_t m_t d_t))
     (first | with_reducible exact ⟨XT.c0,XT.c1,XT.c2⟩)
     (first
     | (go_at_call 17;(with_reducible refine (area_w T7.sv F7 hm7 (by omega) hc7 (by decide) (by decide) HW.out HS7.out.1 HS7.out.2 (Nat.le_of_succ_le HK.out) (by omega)).mono ?_);rintro e w_a ⟨s_a,A_a,n_a,c_a,B_a,m_a,d_a,rfl,a,hh⟩
        (try replace T7:=T7.below hh);(try replace T8:=T8.below hh);(try replace T9:=T9.below hh);(try replace T0:=T0.below hh);(try replace XT:=XT.below hh);(try replace t:=t.below hh);(try replace a:=a.below hh);(try replace b:=b.below hh);(try replace c:=c.below hh);(try replace d:=d.below hh);(try replace g:=g.below hh);(try replace h:=h.below hh);(try replace i:=i.below hh);replace hb:=bend hb hh;replace F7:=Each.belowP F7 hh;replace F8:=Each.belowP F8 hh;replace F9:=Each.belowP F9 hh;replace F0:=Each.belowP F0 hh)
     | (go_at_call 17;(with_reducible refine (area_p T8.sv F8 hm8 (by omega) hc8 (by decide) (by decide) HA2.out).mono ?_);rintro e w_b ⟨s_b,A_b,n_b,c_b,B_b,m_b,d_b,rfl,b,hh⟩
        (try replace T7:=T7.below hh);(try replace T8:=T8.below hh);(try replace T9:=T9.below hh);(try replace T0:=T0.below hh);(try replace XT:=XT.below hh);(try replace t:=t.below hh);(try replace a:=a.below hh);(try replace b:=b.below hh);(try replace c:=c.below hh);(try replace d:=d.below hh);(try replace g:=g.below hh);(try replace h:=h.below hh);(try replace i:=i.below hh);replace hb:=bend hb hh;replace F7:=Each.belowP F7 hh;replace F8:=Each.belowP F8 hh;replace F9:=Each.belowP F9 hh;replace F0:=Each.belowP F0 hh)
     | (go_at_call 17;(with_reducible refine (area_p T9.sv F9 hm9 (by omega) hc9 (by decide) (by decide) HA5.out).mono ?_);rintro e w_c ⟨s_c,A_c,n_c,c_c,B_c,m_c,d_c,rfl,c,hh⟩
        (try replace T7:=T7.below hh);(try replace T8:=T8.below hh);(try replace T9:=T9.below hh);(try replace T0:=T0.below hh);(try replace XT:=XT.below hh);(try replace t:=t.below hh);(try replace a:=a.below hh);(try replace b:=b.below hh);(try replace c:=c.below hh);(try replace d:=d.below hh);(try replace g:=g.below hh);(try replace h:=h.below hh);(try replace i:=i.below hh);replace hb:=bend hb hh;replace F7:=Each.belowP F7 hh;replace F8:=Each.belowP F8 hh;replace F9:=Each.belowP F9 hh;replace F0:=Each.belowP F0 hh)
     | (go_at_call 17;(with_reducible refine (area_p T0.sv F0 hm0 (by omega) hc0 (by decide) (by decide) HA2.out).mono ?_);rintro e w_d ⟨s_d,A_d,n_d,c_d,B_d,m_d,d_d,rfl,d,hh⟩
        (try replace T7:=T7.below hh);(try replace T8:=T8.below hh);(try replace T9:=T9.below hh);(try replace T0:=T0.below hh);(try replace XT:=XT.below hh);(try replace t:=t.below hh);(try replace a:=a.below hh);(try replace b:=b.below hh);(try replace c:=c.below hh);(try replace d:=d.below hh);(try replace g:=g.below hh);(try replace h:=h.below hh);(try replace i:=i.below hh);replace hb:=bend hb hh;replace F7:=Each.belowP F7 hh;replace F8:=Each.belowP F8 hh;replace F9:=Each.belowP F9 hh;replace F0:=Each.belowP F0 hh)
     | (go_at_call 36;(with_reducible refine (rneg_q t.qr (Nat.le_trans HA.out (by decide)) (by omega)).mono ?_);rintro e w_g ⟨s_g,A_g,n_g,c_g,B_g,m_g,d_g,rfl,g,hh⟩
        (try replace T7:=T7.below hh);(try replace T8:=T8.below hh);(try replace T9:=T9.below hh);(try replace T0:=T0.below hh);(try replace XT:=XT.below hh);(try replace t:=t.below hh);(try replace a:=a.below hh);(try replace b:=b.below hh);(try replace c:=c.below hh);(try replace d:=d.below hh);(try replace g:=g.below hh);(try replace h:=h.below hh);(try replace i:=i.below hh);replace hb:=bend hb hh;replace F7:=Each.belowP F7 hh;replace F8:=Each.belowP F8 hh;replace F9:=Each.belowP F9 hh;replace F0:=Each.belowP F0 hh)
     | (go_at_call 35;(with_reducible refine (rof_q 4 1 (by decide) (by decide) (by decide) (by decide) (by decide) _).mono ?_);rintro e w_h ⟨s_h,A_h,n_h,c_h,B_h,m_h,d_h,rfl,h,hh⟩
        (try replace T7:=T7.below hh);(try replace T8:=T8.below hh);(try replace T9:=T9.below hh);(try replace T0:=T0.below hh);(try replace XT:=XT.below hh);(try replace t:=t.below hh);(try replace a:=a.below hh);(try replace b:=b.below hh);(try replace c:=c.below hh);(try replace d:=d.below hh);(try replace g:=g.below hh);(try replace h:=h.below hh);(try replace i:=i.below hh);replace hb:=bend hb hh;replace F7:=Each.belowP F7 hh;replace F8:=Each.belowP F8 hh;replace F9:=Each.belowP F9 hh;replace F0:=Each.belowP F0 hh)
     | (go_at_call 37;(with_reducible refine (rmul_q t.qr h.qr HA.out (by decide) (.inl HA.out) (by omega) (by decide)).mono ?_);rintro e w_i ⟨s_i,A_i,n_i,c_i,B_i,m_i,d_i,rfl,i,hh⟩
        (try replace T7:=T7.below hh);(try replace T8:=T8.below hh);(try replace T9:=T9.below hh);(try replace T0:=T0.below hh);(try replace XT:=XT.below hh);(try replace t:=t.below hh);(try replace a:=a.below hh);(try replace b:=b.below hh);(try replace c:=c.below hh);(try replace d:=d.below hh);(try replace g:=g.below hh);(try replace h:=h.below hh);(try replace i:=i.below hh);replace hb:=bend hb hh;replace F7:=Each.belowP F7 hh;replace F8:=Each.belowP F8 hh;replace F9:=Each.belowP F9 hh;replace F0:=Each.belowP F0 hh)
     | (go_at_call 29;(with_reducible refine (rcmp_q a.qr t.qr HK.out HA.out (.inl HK.out) (by omega) (by omega)).mono ?_);rintro e w_z ⟨rfl,hh⟩
        rw [HC7.out];(try replace T7:=T7.below hh);(try replace T8:=T8.below hh);(try replace T9:=T9.below hh);(try replace T0:=T0.below hh);(try replace XT:=XT.below hh);(try replace t:=t.below hh);(try replace a:=a.below hh);(try replace b:=b.below hh);(try replace c:=c.below hh);(try replace d:=d.below hh);(try replace g:=g.below hh);(try replace h:=h.below hh);(try replace i:=i.below hh);replace hb:=bend hb hh;replace F7:=Each.belowP F7 hh;replace F8:=Each.belowP F8 hh;replace F9:=Each.belowP F9 hh;replace F0:=Each.belowP F0 hh)
     | (go_at_call 29;(with_reducible refine (rcmp_q b.qr g.qr HA.out HA.out (.inl HA.out) (by omega) (by omega)).mono ?_);rintro e w_z ⟨rfl,hh⟩
        rw [HC8.out];(try replace T7:=T7.below hh);(try replace T8:=T8.below hh);(try replace T9:=T9.below hh);(try replace T0:=T0.below hh);(try replace XT:=XT.below hh);(try replace t:=t.below hh);(try replace a:=a.below hh);(try replace b:=b.below hh);(try replace c:=c.below hh);(try replace d:=d.below hh);(try replace g:=g.below hh);(try replace h:=h.below hh);(try replace i:=i.below hh);replace hb:=bend hb hh;replace F7:=Each.belowP F7 hh;replace F8:=Each.belowP F8 hh;replace F9:=Each.belowP F9 hh;replace F0:=Each.belowP F0 hh)
     | (go_at_call 29;(with_reducible refine (rcmp_q c.qr i.qr HB5.out (Nat.le_of_succ_le HK.out) (.inl HB5.out) (by omega) (by omega)).mono ?_);rintro e w_z ⟨rfl,hh⟩
        rw [HC9.out];(try replace T7:=T7.below hh);(try replace T8:=T8.below hh);(try replace T9:=T9.below hh);(try replace T0:=T0.below hh);(try replace XT:=XT.below hh);(try replace t:=t.below hh);(try replace a:=a.below hh);(try replace b:=b.below hh);(try replace c:=c.below hh);(try replace d:=d.below hh);(try replace g:=g.below hh);(try replace h:=h.below hh);(try replace i:=i.below hh);replace hb:=bend hb hh;replace F7:=Each.belowP F7 hh;replace F8:=Each.belowP F8 hh;replace F9:=Each.belowP F9 hh;replace F0:=Each.belowP F0 hh)
     | (go_at_call 29;(with_reducible refine (rcmp_q d.qr t.qr HA.out HA.out (.inl HA.out) (by omega) (by omega)).mono ?_);rintro e w_z ⟨rfl,hh⟩
        rw [HC0.out];(try replace T7:=T7.below hh);(try replace T8:=T8.below hh);(try replace T9:=T9.below hh);(try replace T0:=T0.below hh);(try replace XT:=XT.below hh);(try replace t:=t.below hh);(try replace a:=a.below hh);(try replace b:=b.below hh);(try replace c:=c.below hh);(try replace d:=d.below hh);(try replace g:=g.below hh);(try replace h:=h.below hh);(try replace i:=i.below hh);replace hb:=bend hb hh;replace F7:=Each.belowP F7 hh;replace F8:=Each.belowP F8 hh;replace F9:=Each.belowP F9 hh;replace F0:=Each.belowP F0 hh)
     | (go_at_call 10;(with_reducible refine (areawakes_any _).mono ?_);rintro e w_z ⟨rfl,hh⟩
        (try replace T7:=T7.below hh);(try replace T8:=T8.below hh);(try replace T9:=T9.below hh);(try replace T0:=T0.below hh);(try replace XT:=XT.below hh);(try replace t:=t.below hh);(try replace a:=a.below hh);(try replace b:=b.below hh);(try replace c:=c.below hh);(try replace d:=d.below hh);(try replace g:=g.below hh);(try replace h:=h.below hh);(try replace i:=i.below hh);replace hb:=bend hb hh;replace F7:=Each.belowP F7 hh;replace F8:=Each.belowP F8 hh;replace F9:=Each.belowP F9 hh;replace F0:=Each.belowP F0 hh))
    go_wp2_with fail
    (try rw [Exit.noGoto_ret])
    go_ret;exact ⟨rfl,hb⟩
end
section
open Go Go.RowKit
theorem law_moves {A:Option Addr} {n c k8:Nat} {L:List PV} (hL:SV w A (pvs L)) (hn:L.length=n) (hnc:n≤c) (hR:∀ q ∈ L,q.Raw w) {l1 l2 l3 l4:List Nat} (r1:Rd .u64 w A_p n_p l1) (r2:Rd .u64 w B_p m_p l2) (r3:Rd .u64 w E_p i_p l3) (r4:Rd .u64 w F_p j_p l4) (t1:Lim B64 l1) (t2:Lim B64 l2) (t3:Lim B64 l3) (t4:Lim B64 l4) (e1:n_p≤c_p) (e2:m_p≤d_p) (e3:i_p≤e_p) (e4:j_p≤f_p) (hk8:k8≤255) :
 Calls Tryz.prog 6 #[.slice A n c,.agg #[.bool s_p,.slice A_p n_p c_p,.slice B_p m_p d_p,.bool t_p,.slice E_p i_p e_p,.slice F_p j_p f_p],.int .u8 (k8:Int)] w fun e w'=>e=.returned (.bool true)∧Below w.heap.size w w':=by
 by_cases h:n≤10
 · by_cases h2:∀ q ∈ L,q.small 4
   · by_cases h3:((n_p≤6∧m_p≤6)∧i_p≤6∧j_p≤6)
     · obtain ⟨l,hE⟩:=raw_each hR h2
       rcases Nat.eq_zero_or_pos n with h0 | h0
       · exact moves_4 hL hn hnc h0 h2 h3
       · exact moves_5 hL hn hnc hE ⟨QR.of_rd r1 t1 e1 r2 t2 e2 h3.1.1 h3.1.2,QR.of_rd r3 t3 e3 r4 t4 e4 h3.2.1 h3.2.2⟩ h0 h h2 h3 hk8
     · exact moves_3 hL hn hnc h h2 h3
   · exact moves_2 hL hn hnc h h2
 · exact moves_1 hL hn hnc h
end
end Go.Proofs.YtghmejlikfiegaaGreat
