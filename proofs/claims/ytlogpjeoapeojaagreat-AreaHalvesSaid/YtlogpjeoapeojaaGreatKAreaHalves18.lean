/- AreaHalves: part 18. -/
import Derived.Deep.AppendSrc
import Derived.Test.YtlogpjeoapeojaaGreatKAreaHalves14
import Derived.Test.YtlogpjeoapeojaaGreatKAreaHalves17
set_option linter.unusedVariables false
set_option maxRecDepth 100000
set_option maxHeartbeats 16000000
variable {w:Go.World}
variable {s_a t_a:Bool} {A_a B_a E_a F_a:Option Go.Addr} {n_a c_a m_a d_a i_a e_a j_a f_a:Nat}
variable {s_b t_b:Bool} {A_b B_b E_b F_b:Option Go.Addr} {n_b c_b m_b d_b i_b e_b j_b f_b:Nat}
variable {s_p t_p:Bool} {A_p B_p E_p F_p:Option Go.Addr} {n_p c_p m_p d_p i_p e_p j_p f_p:Nat}
variable {s_q t_q:Bool} {A_q B_q E_q F_q:Option Go.Addr} {n_q c_q m_q d_q i_q e_q j_q f_q:Nat}
namespace Go.Proofs.YtlogpjeoapeojaaGreat
section
open Go Go.RowKit
theorem run_push4 {T tS ty:TypeId} {base b:Nat} {v:Value} {L:List PV} {p:PV} {k0:Nat} (ht:Tryz.prog.underlying tS=some (.slice T)) (hinfo:(Tryz.prog.info? T).map (fun i=>(i.zero,i.size,i.bytes))=some (some zpt,6,112))
 (h:Ln T base w v L) (hbase:base≤w.heap.size) (hL:L.length≤1000000) (hb:w.heap[b]?=some (.cells p.cells.toArray T (0,0))) :
 ∃ v' w',(Builtin.append_ #[tS,tS] ty #[v,.slice (some ⟨b,0,none⟩) 1 k0]).run Tryz.prog w=.ok v' w'∧Ln T base w' v' (L ++ [p])∧w.grownBy w' v.ownBlock∧∀ g,v'.ownBlock=some g→v.ownBlock=some g ∨ w.heap.size≤g:=by
 obtain ⟨i0,hi,hz,hs,hby⟩:=info_parts hinfo
 have hnews:∀ j u,p.cells[j]?=some u→w.cell? ((⟨b,0,none⟩:Addr).add j)=some u:=fun j u hu=>World.news_of_block hb j u (by simpa using hu)
 have h1:∀ u ∈ p.cells,u.oneCell'=true:=fun u hu=>pvs_one [p] u (by rw [pvs_cons,pvs_nil,List.append_nil];exact hu)
 have hfree:∀ u ∈ p.cells,∀ (k:IntKind) (x:Int),u ≠ .int k x:=fun u hu=>pvs_free [p] u (by rw [pvs_cons,pvs_nil,List.append_nil];exact hu)
 obtain ⟨v',w',hr,hown,hg,_⟩:=run_append_own (P:=Tryz.prog) w base tS ty T i0 zpt 6 112 ht hi hz hs hby rfl (by decide) v L.length (pvs L) h.own ⟨b,0,none⟩ 1 k0 p.cells rfl hnews h1 (by unfold maxLen;omega) (by omega) hbase
 have hown2:∀ g,v'.ownBlock=some g→v.ownBlock=some g ∨ w.heap.size≤g:=by
  rcases h.own.2 with ⟨rfl,hn⟩ | ⟨g0,cap,cur,rfl,_,hg0,hnc,hcm,hcs,htake⟩
  · have e:=run_append_nil (P:=Tryz.prog) w tS ty T i0 zpt ht hi hz ⟨b,0,none⟩ 1 k0 p.cells (by rw [hs];rfl) hnews (by decide) (by decide) (by rw [hby];decide)
    rw [hr] at e
    injection e with e1 e2
    subst e1
    intro g hgv
    right
    obtain rfl:w.heap.size=g:=by simpa [Value.ownBlock] using hgv
    exact Nat.le_refl _
  · by_cases hroom:L.length+1≤cap
    · have e:=run_append_room (P:=Tryz.prog) w tS ty T i0 ht hi g0 L.length cap cur hg0 ⟨b,0,none⟩ 1 k0 p.cells (by rw [hs];rfl) hnews h1 hroom (by rw [hs,hcs];show L.length*6+6≤_;omega)
      rw [hr] at e
      injection e with e1 e2
      subst e1
      intro g hgv
      left
      simpa [Value.ownBlock] using hgv
    · have holds:∀ j u,(pvs L)[j]?=some u→w.cell? ((⟨g0,0,none⟩:Addr).add j)=some u:=h.own.cells (g:=g0) rfl
      have e:=run_append_grow (P:=Tryz.prog) w tS ty T i0 zpt ht hi hz ⟨g0,0,none⟩ L.length cap (pvs L) (by rw [hs];exact h.own.1) holds ⟨b,0,none⟩ 1 k0 p.cells (by rw [hs];rfl) hnews (by omega) (by omega) (growslice_fits (by omega) (by rw [hby];omega))
      rw [hr] at e
      injection e with e1 e2
      subst e1
      intro g hgv
      right
      obtain rfl:w.heap.size=g:=by simpa [Value.ownBlock] using hgv
      exact Nat.le_refl _
 refine ⟨v',w',hr,⟨by rw [pvs_append,List.length_append,pvs_cons,pvs_nil,List.append_nil];exact hown,?_⟩,hg,hown2⟩
 have fr:∀ (cs:List Value),(∀ u ∈ cs,∀ (k:IntKind) (x:Int),u ≠ .int k x)→∀ (i:Nat) (k:IntKind) (x:Int),cs.toArray[i]? ≠ some (Value.int k x):=fun cs hc i k x e=>by
  rw [List.getElem?_toArray] at e
  exact hc _ (List.mem_of_getElem? e) k x rfl
 intro g hgv
 rcases h.own.2 with ⟨rfl,hn⟩ | ⟨g0,cap,cur,rfl,_,hg0,hnc,hcm,hcs,htake⟩
 · have e:=run_append_nil (P:=Tryz.prog) w tS ty T i0 zpt ht hi hz ⟨b,0,none⟩ 1 k0 p.cells (by rw [hs];rfl) hnews (by decide) (by decide) (by rw [hby];decide)
   rw [hr] at e
   injection e with e1 e2
   subst e1 e2
   obtain rfl:w.heap.size=g:=by simpa [Value.ownBlock] using hgv
   refine ⟨_,heap_alloc_new w.drew _,?_⟩
   have:=fr (p.cells ++ (Builtin.zeroCells zpt.cells (grownCap w 1 0 T - 1)).toList) (fun u hu=>by
    rcases List.mem_append.1 hu with q | q
    · exact hfree u q
    · exact zero_free _ u q)
   intro i k x
   have:=this i k x
   rwa [show (p.cells ++ (Builtin.zeroCells zpt.cells (grownCap w 1 0 T - 1)).toList).toArray=p.cells.toArray ++ Builtin.zeroCells zpt.cells (grownCap w 1 0 T - 1) by apply Array.ext';simp] at this
 · obtain ⟨cs,hB⟩:=h.free g0 rfl
   have hcur:∀ u ∈ cur.toList,∀ (k:IntKind) (x:Int),u ≠ .int k x:=by
    have:cs=cur:=by exact (Obj.cells.inj (Option.some.inj (hB.at_.symm.trans hg0))).1
    subst this
    intro u hu k x e
    obtain ⟨j,hj⟩:=List.getElem?_of_mem hu
    rw [Array.getElem?_toList] at hj
    exact hB.free j k x (by rw [← e];exact hj)
   by_cases hroom:L.length+1≤cap
   · have e:=run_append_room (P:=Tryz.prog) w tS ty T i0 ht hi g0 L.length cap cur hg0 ⟨b,0,none⟩ 1 k0 p.cells (by rw [hs];rfl) hnews h1 hroom (by rw [hs,hcs];show L.length*6+6≤_;omega)
     rw [hr] at e
     injection e with e1 e2
     subst e1 e2
     obtain rfl:g0=g:=by simpa [Value.ownBlock] using hgv
     refine ⟨_,setRow_heap w g0 cur _ T _ hg0,fr _ fun u hu=>?_⟩
     rcases List.mem_append.1 hu with q | q
     · rcases List.mem_append.1 q with q | q
       · exact hcur u (List.mem_of_mem_take q)
       · exact hfree u q
     · exact hcur u (List.mem_of_mem_drop q)
   · have holds:∀ j u,(pvs L)[j]?=some u→w.cell? ((⟨g0,0,none⟩:Addr).add j)=some u:=h.own.cells (g:=g0) rfl
     have e:=run_append_grow (P:=Tryz.prog) w tS ty T i0 zpt ht hi hz ⟨g0,0,none⟩ L.length cap (pvs L) (by rw [hs];exact h.own.1) holds ⟨b,0,none⟩ 1 k0 p.cells (by rw [hs];rfl) hnews (by omega) (by omega) (growslice_fits (by omega) (by rw [hby];omega))
     rw [hr] at e
     injection e with e1 e2
     subst e1 e2
     obtain rfl:w.heap.size=g:=by simpa [Value.ownBlock] using hgv
     refine ⟨_,heap_alloc_new w.drew _,?_⟩
     have:=fr (pvs L ++ p.cells ++ (Builtin.zeroCells zpt.cells (grownCap w (L.length+1) cap T - (L.length+1))).toList) (fun u hu=>by
      rcases List.mem_append.1 hu with q | q
      · rcases List.mem_append.1 q with q | q
        · exact pvs_free L u q
        · exact hfree u q
      · exact zero_free _ u q)
     intro i k x
     have:=this i k x
     rwa [show (pvs L ++ p.cells ++ (Builtin.zeroCells zpt.cells (grownCap w (L.length+1) cap T - (L.length+1))).toList).toArray=(pvs L).toArray ++ p.cells.toArray ++ Builtin.zeroCells zpt.cells (grownCap w (L.length+1) cap T - (L.length+1)) by apply Array.ext';simp] at this
theorem wpList_push4 {ops:Array Oper} {rest:List Oper} {o:Oper} {a:Act} {Q:Exit→Act→World→Prop} {T tS:TypeId} (ht:Tryz.prog.underlying tS=some (.slice T)) (hinfo:(Tryz.prog.info? T).map (fun i=>(i.zero,i.size,i.bytes))=some (some zpt,6,112))
 (hgd:o.guard=none) (s x:Operand) (ho:o.op=.call ⟨.builtin .append,#[s,x],#[tS,tS]⟩) {base b:Nat} {v:Value} {L:List PV} {p:PV} {k0:Nat} (hs:a.eval s=v) (hx:a.eval x=.slice (some ⟨b,0,none⟩) 1 k0)
 (h:Ln T base w v L) (hbase:base≤w.heap.size) (hL:L.length≤1000000) (hb:w.heap[b]?=some (.cells p.cells.toArray T (0,0)))
 (hK:∀ v' w',Ln T base w' v' (L ++ [p])→w.grownBy w' v.ownBlock→(∀ g,v'.ownBlock=some g→v.ownBlock=some g ∨ w.heap.size≤g)→wpList Tryz.prog ops Q rest (a.put o.dst v') w'):wpList Tryz.prog ops Q (o :: rest) a w :=
 wpList_plain hgd fun K hK2=>by
  obtain ⟨v',w',hr,h2,h3,h4⟩:=run_push4 (ty:=o.type) (k0:=k0) ht hinfo h hbase hL hb
  exact wp_append_at s x ho hs hx hr (hK2 _ _ (hK v' w' h2 h3 h4))
theorem SV.rpt {A:Option Addr} {L:List PV} (h:SV w A (pvs L)) {i:Nat} {p:PV} (hi:L[i]?=some p):∃ g o,(∀ (n c:Nat) (w':World),i < n→(Instr.indexAt 33 (.slice A n c) (.int .i64 (i:Int))).run Tryz.prog w'=.ok (.pointer (some ⟨g,o,none⟩)) w')∧E6x w g o p∧∃ o0,A=some ⟨g,o0,none⟩:=by
 have hl:=(List.getElem?_eq_some_iff.1 hi).1
 obtain ⟨g,o,e,h1,h2⟩:=h (by rw [show (pvs L).length=L.length*6 from rows_length pvc_len L];omega)
 have key:∀ j,j < 6→∀ u,p.cells[j]?=some u→w.cell? ⟨g,o+i*6+j,none⟩=some u:=fun j hj u hu=>by
  rw [Nat.add_assoc];exact h2 _ u ((rows_get pvc_len hi hj).trans hu)
 refine ⟨g,o+i*6,fun n c w' hn=>?_,⟨h1,key 0 (by decide) _ rfl,key 1 (by decide) _ rfl,key 2 (by decide) _ rfl,key 3 (by decide) _ rfl,key 4 (by decide) _ rfl,key 5 (by decide) _ rfl⟩,o,e⟩
 subst e
 have ha:∀ j,(⟨g,o,none⟩:Addr).add j=⟨g,o+j,none⟩:=fun j=>by unfold Addr.add;split <;> simp_all
 obtain ⟨i0,hi0,hz,hs,hby⟩:=info_parts (show (Tryz.prog.info? 45).map (fun i=>(i.zero,i.size,i.bytes))=some (some (.agg #[.bool false,.slice none 0 0,.slice none 0 0,.bool false,.slice none 0 0,.slice none 0 0]),6,112) by kernel_rfl)
 have k1:(0:Int)≤(i:Int):=by omega
 have k2:(i:Int) < (n:Int):=by omega
 simp [Instr.indexAt,asIntOf,run_underlying Tryz.underlying33,k1,sizeOf,typeInfo,hi0,hs,ha]
 exact fun e=>absurd hn (by omega)
theorem ring_next {α:Type} {l:List α} {m:Nat} (hm:m < l.length):(ringL l)[m+1]?=l[(m+1) % l.length]?:=by
 unfold ringL
 by_cases h:m+1 < l.length
 · rw [List.getElem?_append_left h,Nat.mod_eq_of_lt h]
 · have e:m+1=l.length:=by omega
   rw [e,Nat.mod_self,List.getElem?_append_right (Nat.le_refl _),Nat.sub_self,List.getElem?_take]
   simp
theorem tmod_next (m n:Nat):((m:Int)+1).tmod (n:Int)=(((m+1) % n:Nat):Int):=by
 rw [show ((m:Int)+1)=((m+1:Nat):Int) by omega,Int.ofNat_tmod]
theorem step_push3 {ops:Array Oper} {o:Oper} {a:Act} {K:Act→World→Prop} {Q:Exit→Act→World→Prop} {E:Prop} {T tS:TypeId} (ht:Tryz.prog.underlying tS=some (.slice T)) (hinfo:(Tryz.prog.info? T).map (fun i=>(i.zero,i.size,i.bytes))=some (some zpt,6,112))
 (hgd:o.guard=none) (s x:Operand) (ho:o.op=.call ⟨.builtin .append,#[s,x],#[tS,tS]⟩) {base b:Nat} {v:Value} {L:List PV} {p:PV} {k0:Nat} (hs:a.eval s=v) (hx:a.eval x=.slice (some ⟨b,0,none⟩) 1 k0)
 (h:Ln T base w v L) (hbase:base≤w.heap.size) (hL:L.length≤1000000) (hb:w.heap[b]?=some (.cells p.cells.toArray T (0,0)))
 (hK:∀ v' w',Ln T base w' v' (L ++ [p])→w.grownBy w' v.ownBlock→K (a.put o.dst v') w'):if Region.wanted o (yielded ops a.tmps)=true then Oper.wp Tryz.prog o a w K Q else E:=by
 have hw:Region.wanted o (yielded ops a.tmps)=true:=by simp [Region.wanted,hgd]
 rw [if_pos hw]
 obtain ⟨v',w',hr,h2,h3⟩:=run_push (ty:=o.type) (k0:=k0) ht hinfo h hbase hL hb
 exact wp_append_at s x ho hs hx hr (hK v' w' h2 h3)
theorem B6R.pushr {w w':World} {g:Nat} {x y z u v t:Value} {row:Option Nat} (h:B6R w g x y z u v t) (hg:w.grownBy w' row) (hne:∀ k,row=some k→k ≠ g):B6R w' g x y z u v t :=
 (hg.block g h.lt (fun e=>hne g e.symm rfl)).trans h
theorem B3R.pushr {w w':World} {g:Nat} {x y z:Value} {row:Option Nat} (h:B3R w g x y z) (hg:w.grownBy w' row) (hne:∀ k,row=some k→k ≠ g):B3R w' g x y z :=
 (hg.block g h.lt (fun e=>hne g e.symm rfl)).trans h
theorem Ln.rq {T:TypeId} {base:Nat} {w w':World} {v:Value} {M:List PV} (hn:Ln T base w v M) (hg:w.grownBy w' v.ownBlock) {s:Bool} {A B:Option Addr} {n c m d k:Nat} {u:Rat} (h:RQ w s A n c B m d u k):RQ w' s A n c B m d u k:=by
 rcases hn.stays hg with q | ⟨g,cs,hB,_,ho⟩
 · exact h.below q
 · exact h.box hB ho
theorem Ln.rp {T:TypeId} {base:Nat} {w w':World} {v:Value} {M:List PV} (hn:Ln T base w v M) (hg:w.grownBy w' v.ownBlock) {x y:Rat} {k:Nat} {s t:Bool} {A B E F:Option Addr} {n c m d i e j f:Nat} (h:RP w s A n c B m d t E i e F j f x y k):RP w' s A n c B m d t E i e F j f x y k:=⟨hn.rq hg h.1,hn.rq hg h.2⟩
theorem rhalf_ne {A:Option Addr} {n c k k2:Nat} {L:List PV} {l:List (Rat × Rat)} {ax ay bx by_:Rat} (hL:SV w A (pvs L)) (hE:Each PV.RP w L l k) (a:RP w s_a A_a n_a c_a B_a m_a d_a t_a E_a i_a e_a F_a j_a f_a ax ay k2) (b:RP w s_b A_b n_b c_b B_b m_b d_b t_b E_b i_b e_b F_b j_b f_b bx by_ k2) (hn:L.length=n) (hm:n≤1000) (hk:k≤60) (hk2:k2≤60) (hne:decide (ax=bx∧ay=by_)=false) :
 Calls Tryz.prog 25 #[.slice A n c,.agg #[.bool s_a,.slice A_a n_a c_a,.slice B_a m_a d_a,.bool t_a,.slice E_a i_a e_a,.slice F_a j_a f_a],.agg #[.bool s_b,.slice A_b n_b c_b,.slice B_b m_b d_b,.bool t_b,.slice E_b i_b e_b,.slice F_b j_b f_b]] w (GivesLnR w (halfQ (asideP ax ay bx by_) l) (k+(k+k+1+((k2+k2+1+(k+k2+1)+(k2+k2+1+(k+k2+1))+1)+((k2+k2+1+(k+k2+1)+(k2+k2+1+(k+k2+1))+1)+(k2+k2+1+(k+k2+1)+(k2+k2+1+(k+k2+1))+1)+1)))+1)):=by
 have HN:=Lib.hid hn;have HNE:=Lib.hid hne
 have HNl:Hid (l.length=n):=hE.1.symm.trans hn
 clear hn hne
 go_enter Tryz.func25,Tryz.ntmps25
 go_upto_region 1 with (fail)
 generalize hW:World.alloc _ _=W
 obtain ⟨hb,XA,XB,hzW⟩:=mkbx40_15 hW;clear hW;replace hL:=hL.below hb;replace a:=a.below hb;replace b:=b.below hb;obtain ⟨xa0,xa1,xa2,xa3,xa4,xa5⟩:=XA.all;obtain ⟨xb0,xb1,xb2,xb3,xb4,xb5⟩:=XB.all;replace hE:=hE.belowR hb
 go_wp2_with (first
  | (go_at_call 26;(with_reducible refine (rsame6 a b (by omega) (by omega) false HNE.out).mono ?_);rintro e w_z ⟨rfl,hh⟩
     (try replace hL:=hL.below hh);(try replace a:=a.below hh);(try replace b:=b.below hh);(try replace XA:=XA.below hh);(try replace XB:=XB.below hh);replace hb:=bend hb hh;replace hE:=hE.belowR hh))
 have HL9:=Lib.hid hL;have E9:=Lib.hid hE;have A9:=Lib.hid a;have B9:=Lib.hid b;have XA9:=Lib.hid XA;have XB9:=Lib.hid XB;clear hL hE a b XA XB xa0 xb0 xa1 xb1 xa2 xb2 xa3 xb3 xa4 xb4 xa5 xb5
 go_loopg [7,8] n (fun gk out ix wr=>∃ (M':List PV) (m:Nat),Hid (gk+m=n)∧ix=.int .i64 (m:Int)∧Ln 45 w_z.heap.size wr out M'∧Hid (M'.length≤2*m)∧Hid (Each PV.RP wr M' (halfUpto (asideP ax ay bx by_) (ringL l) m) (k+(k+k+1+((k2+k2+1+(k+k2+1)+(k2+k2+1+(k+k2+1))+1)+((k2+k2+1+(k+k2+1)+(k2+k2+1+(k+k2+1))+1)+(k2+k2+1+(k+k2+1)+(k2+k2+1+(k+k2+1))+1)+1)))+1))∧Below w_z.heap.size w_z wr)
 case atStart=>exact ⟨[],0,Nat.add_zero _,rfl,Ln.nil _ _ _,by show _≤_;simp,Each.nil,Below.refl _ _⟩
 case round =>
  obtain ⟨M',m,HG,rfl,LT,HLn,HQ,hB⟩:=hrel
  by_cases hmn:m < n
  · have HMN:=Lib.hid hmn
    obtain ⟨P,u,hP1,hu1,p0⟩:=(Each.belowR E9.out hB).at_ (i:=m) (by rw [HN.out];exact hmn)
    obtain ⟨Q,v,hP2,hu2,q0⟩:=(Each.belowR E9.out hB).at_ (i:=(m+1) % n) (by rw [HN.out];exact Nat.mod_lt _ (by omega))
    obtain ⟨g0,o0,hix0,Ep,_⟩:=(HL9.out.below hB).rpt hP1
    obtain ⟨g1,o1,hix1,Eq,_⟩:=(HL9.out.below hB).rpt hP2
    have hixa:∀ w',(Instr.indexAt 33 (.slice A n c) (.int .i64 (m:Int))).run Tryz.prog w'=.ok (.pointer (some ⟨g0,o0,none⟩)) w':=fun w'=>hix0 n c w' hmn
    have hixb:∀ w',(Instr.indexAt 33 (.slice A n c) (.int .i64 (((m:Int)+1).tmod (n:Int)))).run Tryz.prog w'=.ok (.pointer (some ⟨g1,o1,none⟩)) w':=fun w'=>by rw [tmod_next];exact hix1 n c w' (Nat.mod_lt _ (by omega))
    have hwr:IntKind.i64.wrap ((m:Int)+1)=(m:Int)+1:=IntWalk.i64_in _ (by omega)
    have hlt:(m:Int) < (n:Int):=by omega
    have hn0:¬ (n:Int)=0:=by omega
    have HS0:=halfUpto_at (f:=(asideP ax ay bx by_)) (r:=ringL l) (m:=m) (u:=u) (v:=v) ((ringL_at (by rw [HNl.out];exact hmn)).trans hu1) (by rw [ring_next (by rw [HNl.out];exact hmn),HNl.out];exact hu2)
    unfold halfStep at HS0
    have hMl:M'.length≤1000000:=by have:=HLn.out;omega
    obtain ⟨ux,uy⟩:=u
    obtain ⟨vx,vy⟩:=v
    generalize hfu:(asideP ax ay bx by_) (ux,uy)=fu at HS0
    generalize hfv:(asideP ax ay bx by_) (vx,vy)=fv at HS0
    have HFU:=Lib.hid hfu;have HFV:=Lib.hid hfv;have HS:=Lib.hid HS0;clear HS0 hfu hfv
    obtain ⟨s_p,A_p,n_p,c_p,B_p,m_p,d_p,t_p,E_p,i_p,e_p,F_p,j_p,f_p⟩:=P
    obtain ⟨s_q,A_q,n_q,c_q,B_q,m_q,d_q,t_q,E_q,i_q,e_q,F_q,j_q,f_q⟩:=Q
    replace p0:RP wr s_p A_p n_p c_p B_p m_p d_p t_p E_p i_p e_p F_p j_p f_p ux uy k:=p0
    replace q0:RP wr s_q A_q n_q c_q B_q m_q d_q t_q E_q i_q e_q F_q j_q f_q vx vy k:=q0
    obtain ⟨K1,hK1⟩:∃ K,sgnQ fu=K:=⟨_,rfl⟩
    obtain ⟨K2,hK2⟩:∃ K,sgnQ fv=K:=⟨_,rfl⟩
    have HK1:=Lib.hid hK1;have HK2:=Lib.hid hK2
    have hw12:IntKind.i64.wrap (K1*K2)=K1*K2:=by rw [← hK1,← hK2];exact sgn_mul_wrap fu fv
    have XA:=XA9.out.below hB;have XB:=XB9.out.below hB;have a:=A9.out.below hB;have b:=B9.out.below hB;clear hP1 hP2 hu1 hu2 hix0 hix1 hmn hK1 hK2
    have LTo:∀ g,u7.ownBlock=some g→g < wr.heap.size:=fun g hg=>LT.own_lt hg
    go_upto_region 7 with (fail)
    refine rh7_region (by simp) rfl rfl Ep Eq hixa hixb hwr hn0 ?_
    intro V1 w_b gX gY X hgX hv9 Y hgY hv10 hXY hh
    simp only [putAll,Act.put,List.setIfInBounds_toArray,List.set_cons_zero,List.set_cons_succ,hv9,hv10]
    clear hv9 hv10;replace LT:=LT.below hh;replace XA:=XA.below hh;replace XB:=XB.below hh;replace a:=a.below hh;replace b:=b.below hh;replace p0:=p0.below hh;replace q0:=q0.below hh
    replace HQ:=Lib.hid (Each.belowR HQ.out hh)
    replace hB:=bend hB hh;have hs1:=hh.size
    have hXo:∀ g,u7.ownBlock=some g→g ≠ gX:=fun g hg=>by have:=LTo g hg;omega
    have hYo:∀ g,u7.ownBlock=some g→g ≠ gY:=fun g hg=>by have:=LTo g hg;omega
    clear Ep Eq hixa hixb
    go_upto_region 8 with (fail)
    refine rhx_region (by simp) rfl rfl rfl XA XB X a b p0 (by omega) (by omega) ?_
    intro V2 w_x gU s_x A_x n_x c_x B_x m_x d_x x XX hgU hvx hh
    simp only [putAll,Act.put,List.setIfInBounds_toArray,List.set_cons_zero,List.set_cons_succ,hvx]
    clear hvx;replace LT:=LT.below hh;replace XA:=XA.below hh;replace XB:=XB.below hh;replace a:=a.below hh;replace b:=b.below hh;replace p0:=p0.below hh;replace q0:=q0.below hh;replace X:=X.below hh;replace Y:=Y.below hh
    replace HQ:=Lib.hid (Each.belowR HQ.out hh)
    replace hB:=bend hB hh;have hs2:=hh.size
    go_upto_region 9 with (fail)
    refine rhy_region (by simp) rfl rfl rfl XA XB Y a b q0 (by omega) (by omega) ?_
    intro V3 w_y gV s_y A_y n_y c_y B_y m_y d_y y XY hgV hvy hh
    simp only [putAll,Act.put,List.setIfInBounds_toArray,List.set_cons_zero,List.set_cons_succ,hvy]
    clear hvy;replace LT:=LT.below hh;replace XA:=XA.below hh;replace XB:=XB.below hh;replace a:=a.below hh;replace b:=b.below hh;replace p0:=p0.below hh;replace q0:=q0.below hh;replace X:=X.below hh;replace Y:=Y.below hh;replace x:=x.below hh;replace XX:=XX.below hh
    replace HQ:=Lib.hid (Each.belowR HQ.out hh)
    replace hB:=bend hB hh
    have hUo:∀ g,u7.ownBlock=some g→g ≠ gU:=fun g hg=>by have:=LTo g hg;omega
    have hVo:∀ g,u7.ownBlock=some g→g ≠ gV:=fun g hg=>by have:=LTo g hg;omega
    replace x:RQ w_y s_x A_x n_x c_x B_x m_x d_x fu (k2+k2+1+(k+k2+1)+(k2+k2+1+(k+k2+1))+1):=by have e:=HFU.out;unfold asideP at e;simp only at e;rw [← e];exact x
    replace y:RQ w_y s_y A_y n_y c_y B_y m_y d_y fv (k2+k2+1+(k+k2+1)+(k2+k2+1+(k+k2+1))+1):=by have e:=HFV.out;unfold asideP at e;simp only at e;rw [← e];exact y
    clear XA XB a b;obtain ⟨xx0,xx1,xx2⟩:=XX.all
    by_cases hx1:0≤fu
    · have hk1:0≤K1:=by rw [← HK1.out];exact (sgn_nn fu).2 hx1
      have HX1:=Lib.hid hx1;clear hx1
      go_upto_region 12 with (first
       | (go_at_call 65;(with_reducible refine (rsign3 x).mono ?_);rintro e w_s ⟨rfl,hh⟩
          rw [HK1.out];(try replace LT:=LT.below hh);(try replace p0:=p0.below hh);(try replace q0:=q0.below hh);(try replace X:=X.below hh);(try replace Y:=Y.below hh);(try replace x:=x.below hh);(try replace XX:=XX.below hh);(try replace y:=y.below hh);(try replace XY:=XY.below hh)
          replace HQ:=Lib.hid (Each.belowR HQ.out hh)
          replace hB:=bend hB hh;obtain ⟨x0,x1,x2,x3,x4,x5⟩:=X.all)
       | (at_builtin
          have hal:Below w_s.heap.size w_s (w_s.alloc (Obj.cells #[Value.bool s_p,Value.slice A_p n_p c_p,Value.slice B_p m_p d_p,Value.bool t_p,Value.slice E_p i_p e_p,Value.slice F_p j_p f_p] 45)):=(Below.refl _ _).alloc (Nat.le_refl _) _
          refine wpList_push4 Tryz.underlying33 info_rpt rfl (.tmp 54) (.tmp 56) rfl (p:=(PV.mk s_p A_p n_p c_p B_p m_p d_p t_p E_p i_p e_p F_p j_p f_p)) (k0:=1) (b:=w_s.heap.size) rfl rfl (LT.below hal) (Nat.le_trans hB.size hal.size) hMl (heap_alloc_new w_s _) ?_
          intro v_r w3 hnr hgr hor))
      have hE3:Each PV.RP (w_s.alloc (Obj.cells #[Value.bool s_p,Value.slice A_p n_p c_p,Value.slice B_p m_p d_p,Value.bool t_p,Value.slice E_p i_p e_p,Value.slice F_p j_p f_p] 45)) M' _ (k+(k+k+1+((k2+k2+1+(k+k2+1)+(k2+k2+1+(k+k2+1))+1)+((k2+k2+1+(k+k2+1)+(k2+k2+1+(k+k2+1))+1)+(k2+k2+1+(k+k2+1)+(k2+k2+1+(k+k2+1))+1)+1)))+1):=Each.belowR HQ.out hal
      have hp3:PV.RP (w_s.alloc (Obj.cells #[Value.bool s_p,Value.slice A_p n_p c_p,Value.slice B_p m_p d_p,Value.bool t_p,Value.slice E_p i_p e_p,Value.slice F_p j_p f_p] 45)) (PV.mk s_p A_p n_p c_p B_p m_p d_p t_p E_p i_p e_p F_p j_p f_p) (ux,uy) (k+(k+k+1+((k2+k2+1+(k+k2+1)+(k2+k2+1+(k+k2+1))+1)+((k2+k2+1+(k+k2+1)+(k2+k2+1+(k+k2+1))+1)+(k2+k2+1+(k+k2+1)+(k2+k2+1+(k+k2+1))+1)+1)))+1):=RP.more (RP.below p0 hal) (by omega)
      have hst:=Each.staysR hE3 (LT.below hal) hgr
      have Xa:=X.below hal;have Ya:=Y.below hal;have XXa:=XX.below hal;have XYa:=XY.below hal;have hlX:=Xa.lt;have hlY:=Ya.lt;have hlU:=XXa.lt;have hlV:=XYa.lt;replace X:=Xa.pushr hgr hXo;replace Y:=Ya.pushr hgr hYo;replace XX:=XXa.pushr hgr hUo;replace XY:=XYa.pushr hgr hVo
      replace hXo:∀ g,v_r.ownBlock=some g→g ≠ gX:=fun g hg=>by rcases hor g hg with h | h;exact hXo g h;omega
      replace hYo:∀ g,v_r.ownBlock=some g→g ≠ gY:=fun g hg=>by rcases hor g hg with h | h;exact hYo g h;omega
      replace hUo:∀ g,v_r.ownBlock=some g→g ≠ gU:=fun g hg=>by rcases hor g hg with h | h;exact hUo g h;omega
      replace hVo:∀ g,v_r.ownBlock=some g→g ≠ gV:=fun g hg=>by rcases hor g hg with h | h;exact hVo g h;omega
      replace x:=(LT.below hal).rq hgr (x.below hal)
      replace y:=(LT.below hal).rq hgr (y.below hal)
      replace q0:=(LT.below hal).rp hgr (RP.below q0 hal)
      have p1:=(LT.below hal).rp hgr (RP.below p0 hal)
      replace hB:=Ln.under (LT.below hal) hgr (bend hB hal) (Nat.le_refl _)
      replace HQ:=Lib.hid (Each.push hE3 hst (hst _ _ hp3))
      clear hE3 hp3 hst p0 hlX hlY hlU hlV Xa Ya XXa XYa;have p0:=p1;replace LT:=hnr;clear hnr hgr hor hal p1 LTo xx0 xx1 xx2 x0 x1 x2 x3 x4 x5
      have hMr:(M' ++ [(PV.mk s_p A_p n_p c_p B_p m_p d_p t_p E_p i_p e_p F_p j_p f_p)]).length≤1000000:=by have:=HLn.out;have:=HMN.out;rw [List.length_append];show M'.length+1≤_;omega
      replace LT:=LT.below (Below.refl _ _).drew
      replace p0:=p0.below (Below.refl _ _).drew
      replace q0:=q0.below (Below.refl _ _).drew
      replace X:=X.below (Below.refl _ _).drew
      replace Y:=Y.below (Below.refl _ _).drew
      replace x:=x.below (Below.refl _ _).drew
      replace XX:=XX.below (Below.refl _ _).drew
      replace y:=y.below (Below.refl _ _).drew
      replace XY:=XY.below (Below.refl _ _).drew
      replace HQ:=Lib.hid (Each.belowR HQ.out (Below.refl _ _).drew)
      replace hB:=hB.drew
      go_region_held3 (fun w'=>w'.cell? ⟨gU,0,none⟩=some (.bool s_x)∧w'.cell? ⟨gU,1,none⟩=some (.slice A_x n_x c_x)∧w'.cell? ⟨gU,2,none⟩=some (.slice B_x m_x d_x)∧w'.cell? ⟨gV,0,none⟩=some (.bool s_y)∧w'.cell? ⟨gV,1,none⟩=some (.slice A_y n_y c_y)∧w'.cell? ⟨gV,2,none⟩=some (.slice B_y m_y d_y))
       (first | with_reducible exact ⟨XX.c0,XX.c1,XX.c2,XY.c0,XY.c1,XY.c2⟩)
       (first
        | (go_at_call 65;(with_reducible refine (rsign3 x).mono ?_);rintro e w_e ⟨rfl,hh⟩
           rw [HK1.out];(try replace LT:=LT.below hh);(try replace p0:=p0.below hh);(try replace q0:=q0.below hh);(try replace X:=X.below hh);(try replace Y:=Y.below hh);(try replace x:=x.below hh);(try replace XX:=XX.below hh);(try replace y:=y.below hh);(try replace XY:=XY.below hh)
           replace HQ:=Lib.hid (Each.belowR HQ.out hh)
           replace hB:=bend hB hh)
        | (go_at_call 65;(with_reducible refine (rsign3 y).mono ?_);rintro e w_f ⟨rfl,hh⟩
           rw [HK2.out];(try replace LT:=LT.below hh);(try replace p0:=p0.below hh);(try replace q0:=q0.below hh);(try replace X:=X.below hh);(try replace Y:=Y.below hh);(try replace x:=x.below hh);(try replace XX:=XX.below hh);(try replace y:=y.below hh);(try replace XY:=XY.below hh)
           replace HQ:=Lib.hid (Each.belowR HQ.out hh)
           replace hB:=bend hB hh))
      by_cases hx2:fu*fv < 0
      · have hk12:K1*K2 < 0:=by rw [← HK1.out,← HK2.out];exact (sgn_mul_lt fu fv).2 hx2
        have HNZ:Hid (fu - fv ≠ 0):=fun e=>by
         have e2:fv=fu:=by grind
         rw [e2] at hx2
         have:=sq_nonneg fu
         grind
        have HX2:=Lib.hid hx2;clear hx2
        go_upto_region 13 with (fail)
        replace LT:=LT.below (Below.refl _ _).drew
        replace p0:=p0.below (Below.refl _ _).drew
        replace q0:=q0.below (Below.refl _ _).drew
        replace X:=X.below (Below.refl _ _).drew
        replace Y:=Y.below (Below.refl _ _).drew
        replace x:=x.below (Below.refl _ _).drew
        replace XX:=XX.below (Below.refl _ _).drew
        replace y:=y.below (Below.refl _ _).drew
        replace XY:=XY.below (Below.refl _ _).drew
        replace HQ:=Lib.hid (Each.belowR HQ.out (Below.refl _ _).drew)
        replace hB:=hB.drew
        go_region_held3 (fun w'=>w'.cell? ⟨gX,0,none⟩=some (.bool s_p)∧w'.cell? ⟨gX,1,none⟩=some (.slice A_p n_p c_p)∧w'.cell? ⟨gX,2,none⟩=some (.slice B_p m_p d_p)∧w'.cell? ⟨gX,3,none⟩=some (.bool t_p)∧w'.cell? ⟨gX,4,none⟩=some (.slice E_p i_p e_p)∧w'.cell? ⟨gX,5,none⟩=some (.slice F_p j_p f_p)∧w'.cell? ⟨gY,0,none⟩=some (.bool s_q)∧w'.cell? ⟨gY,1,none⟩=some (.slice A_q n_q c_q)∧w'.cell? ⟨gY,2,none⟩=some (.slice B_q m_q d_q)∧w'.cell? ⟨gY,3,none⟩=some (.bool t_q)∧w'.cell? ⟨gY,4,none⟩=some (.slice E_q i_q e_q)∧w'.cell? ⟨gY,5,none⟩=some (.slice F_q j_q f_q)∧w'.cell? ⟨gU,0,none⟩=some (.bool s_x)∧w'.cell? ⟨gU,1,none⟩=some (.slice A_x n_x c_x)∧w'.cell? ⟨gU,2,none⟩=some (.slice B_x m_x d_x)∧w'.cell? ⟨gV,0,none⟩=some (.bool s_y)∧w'.cell? ⟨gV,1,none⟩=some (.slice A_y n_y c_y)∧w'.cell? ⟨gV,2,none⟩=some (.slice B_y m_y d_y))
         (first | with_reducible exact ⟨Xb.c0,Xb.c1,Xb.c2,Xb.c3,Xb.c4,Xb.c5,Yb.c0,Yb.c1,Yb.c2,Yb.c3,Yb.c4,Yb.c5,XXb.c0,XXb.c1,XXb.c2,XYb.c0,XYb.c1,XYb.c2⟩ | with_reducible exact ⟨X.c0,X.c1,X.c2,X.c3,X.c4,X.c5,Y.c0,Y.c1,Y.c2,Y.c3,Y.c4,Y.c5,XX.c0,XX.c1,XX.c2,XY.c0,XY.c1,XY.c2⟩ | exact ⟨(X.below ((Below.refl _ _).alloc (Nat.le_refl _) _)).c0,(X.below ((Below.refl _ _).alloc (Nat.le_refl _) _)).c1,(X.below ((Below.refl _ _).alloc (Nat.le_refl _) _)).c2,(X.below ((Below.refl _ _).alloc (Nat.le_refl _) _)).c3,(X.below ((Below.refl _ _).alloc (Nat.le_refl _) _)).c4,(X.below ((Below.refl _ _).alloc (Nat.le_refl _) _)).c5,(Y.below ((Below.refl _ _).alloc (Nat.le_refl _) _)).c0,(Y.below ((Below.refl _ _).alloc (Nat.le_refl _) _)).c1,(Y.below ((Below.refl _ _).alloc (Nat.le_refl _) _)).c2,(Y.below ((Below.refl _ _).alloc (Nat.le_refl _) _)).c3,(Y.below ((Below.refl _ _).alloc (Nat.le_refl _) _)).c4,(Y.below ((Below.refl _ _).alloc (Nat.le_refl _) _)).c5,(XX.below ((Below.refl _ _).alloc (Nat.le_refl _) _)).c0,(XX.below ((Below.refl _ _).alloc (Nat.le_refl _) _)).c1,(XX.below ((Below.refl _ _).alloc (Nat.le_refl _) _)).c2,(XY.below ((Below.refl _ _).alloc (Nat.le_refl _) _)).c0,(XY.below ((Below.refl _ _).alloc (Nat.le_refl _) _)).c1,(XY.below ((Below.refl _ _).alloc (Nat.le_refl _) _)).c2⟩)
         (first
          | (go_at_call 68;(with_reducible refine (rsub3 x y (by omega) (by omega)).mono ?_);rintro e w_d ⟨s_d,A_d,n_d,c_d,B_d,m_d,d_d,rfl,d,hh⟩
             (try replace LT:=LT.below hh);(try replace p0:=p0.below hh);(try replace q0:=q0.below hh);(try replace X:=X.below hh);(try replace Y:=Y.below hh);(try replace x:=x.below hh);(try replace XX:=XX.below hh);(try replace y:=y.below hh);(try replace XY:=XY.below hh)
             replace HQ:=Lib.hid (Each.belowR HQ.out hh)
             replace hB:=bend hB hh)
          | (go_at_call 67;(with_reducible refine (rdiv3 x d (by omega) (by omega) HNZ.out).mono ?_);rintro e w_r ⟨s_r,A_r,n_r,c_r,B_r,m_r,d_r,rfl,r,hh⟩
             (try replace LT:=LT.below hh);(try replace p0:=p0.below hh);(try replace q0:=q0.below hh);(try replace X:=X.below hh);(try replace Y:=Y.below hh);(try replace x:=x.below hh);(try replace XX:=XX.below hh);(try replace y:=y.below hh);(try replace XY:=XY.below hh)
             replace HQ:=Lib.hid (Each.belowR HQ.out hh)
             replace hB:=bend hB hh;clear d)
          | (go_at_call 66;(with_reducible refine (rmix6 p0 q0 r (by omega) (by omega) (by omega)).mono ?_);rintro e w_t ⟨s_t,A_t,n_t,c_t,B_t,m_t,d_t,t_t,E_t,i_t,e_t,F_t,j_t,f_t,rfl,t,hh⟩
             (try replace LT:=LT.below hh);(try replace p0:=p0.below hh);(try replace q0:=q0.below hh);(try replace X:=X.below hh);(try replace Y:=Y.below hh);(try replace x:=x.below hh);(try replace XX:=XX.below hh);(try replace y:=y.below hh);(try replace XY:=XY.below hh)
             replace HQ:=Lib.hid (Each.belowR HQ.out hh)
             replace hB:=bend hB hh;clear r)
          | (have hal:Below w_t.heap.size w_t (w_t.alloc (Obj.cells #[Value.bool s_t,Value.slice A_t n_t c_t,Value.slice B_t m_t d_t,Value.bool t_t,Value.slice E_t i_t e_t,Value.slice F_t j_t f_t] 45)):=(Below.refl _ _).alloc (Nat.le_refl _) _
             refine step_push3 Tryz.underlying33 info_rpt (by rfl) _ _ (by rfl) (p:=(PV.mk s_t A_t n_t c_t B_t m_t d_t t_t E_t i_t e_t F_t j_t f_t)) (k0:=1) (b:=w_t.heap.size) (by rfl) (by rfl) (LT.below hal) (Nat.le_trans hB.size hal.size) hMr (heap_alloc_new w_t _) ?_
             intro v9 w9 hn9 hg9
             have Xb:=(X.below hal).pushr hg9 hXo
             have Yb:=(Y.below hal).pushr hg9 hYo
             have XXb:=(XX.below hal).pushr hg9 hUo
             have XYb:=(XY.below hal).pushr hg9 hVo))
        have hE9:Each PV.RP (w_t.alloc (Obj.cells #[Value.bool s_t,Value.slice A_t n_t c_t,Value.slice B_t m_t d_t,Value.bool t_t,Value.slice E_t i_t e_t,Value.slice F_t j_t f_t] 45)) _ _ (k+(k+k+1+((k2+k2+1+(k+k2+1)+(k2+k2+1+(k+k2+1))+1)+((k2+k2+1+(k+k2+1)+(k2+k2+1+(k+k2+1))+1)+(k2+k2+1+(k+k2+1)+(k2+k2+1+(k+k2+1))+1)+1)))+1):=Each.belowR HQ.out hal
        have hp9:PV.RP (w_t.alloc (Obj.cells #[Value.bool s_t,Value.slice A_t n_t c_t,Value.slice B_t m_t d_t,Value.bool t_t,Value.slice E_t i_t e_t,Value.slice F_t j_t f_t] 45)) (PV.mk s_t A_t n_t c_t B_t m_t d_t t_t E_t i_t e_t F_t j_t f_t) (mixP (ux,uy) (vx,vy) (fu / (fu - fv))) (k+(k+k+1+((k2+k2+1+(k+k2+1)+(k2+k2+1+(k+k2+1))+1)+((k2+k2+1+(k+k2+1)+(k2+k2+1+(k+k2+1))+1)+(k2+k2+1+(k+k2+1)+(k2+k2+1+(k+k2+1))+1)+1)))+1):=RP.below t hal
        have hst:=Each.staysR hE9 (LT.below hal) hg9
        replace hB:=Ln.under (LT.below hal) hg9 (bend hB hal) (Nat.le_refl _)
        have HQ9:=Lib.hid (Each.push hE9 hst (hst _ _ hp9))
        clear hE9 hp9 hst t
        go_wp2_with fail
        go_roundg (gk - 1)
        case measure=>have:=HG.out;have:=HMN.out;omega
        case rel =>
         refine ⟨(M' ++ [(PV.mk s_p A_p n_p c_p B_p m_p d_p t_p E_p i_p e_p F_p j_p f_p)]) ++ [(PV.mk s_t A_t n_t c_t B_t m_t d_t t_t E_t i_t e_t F_t j_t f_t)],m+1,by have:=HG.out;have:=HMN.out;show _=_;omega,by go_num,hn9,?_,?_,hB⟩
         · have:=HLn.out;show List.length _≤_;(try simp only [List.length_append,List.length_cons,List.length_nil]);omega
         · rw [HS.out,if_pos HX1.out,if_pos HX2.out];exact Lib.hid (by simpa [List.append_assoc] using HQ9.out)
      · have hk12:¬ K1*K2 < 0:=by rw [← HK1.out,← HK2.out];exact fun e=>hx2 ((sgn_mul_lt fu fv).1 e)
        have HX2:=Lib.hid hx2;clear hx2
        go_wp2_with fail
        go_roundg (gk - 1)
        case measure=>have:=HG.out;have:=HMN.out;omega
        case rel =>
         refine ⟨M' ++ [(PV.mk s_p A_p n_p c_p B_p m_p d_p t_p E_p i_p e_p F_p j_p f_p)],m+1,by have:=HG.out;have:=HMN.out;show _=_;omega,by go_num,LT,?_,?_,hB⟩
         · have:=HLn.out;show List.length _≤_;(try simp only [List.length_append,List.length_cons,List.length_nil]);omega
         · rw [HS.out,if_pos HX1.out,if_neg HX2.out];exact Lib.hid (by simpa using HQ.out)
    · have hk1:¬ 0≤K1:=by rw [← HK1.out];exact fun e=>hx1 ((sgn_nn fu).1 e)
      have HX1:=Lib.hid hx1;clear hx1
      go_upto_region 12 with (first
       | (go_at_call 65;(with_reducible refine (rsign3 x).mono ?_);rintro e w_s ⟨rfl,hh⟩
          rw [HK1.out];(try replace LT:=LT.below hh);(try replace p0:=p0.below hh);(try replace q0:=q0.below hh);(try replace X:=X.below hh);(try replace Y:=Y.below hh);(try replace x:=x.below hh);(try replace XX:=XX.below hh);(try replace y:=y.below hh);(try replace XY:=XY.below hh)
          replace HQ:=Lib.hid (Each.belowR HQ.out hh)
          replace hB:=bend hB hh))
      clear xx0 xx1 xx2 LTo
      replace LT:=LT.below (Below.refl _ _).drew
      replace p0:=p0.below (Below.refl _ _).drew
      replace q0:=q0.below (Below.refl _ _).drew
      replace X:=X.below (Below.refl _ _).drew
      replace Y:=Y.below (Below.refl _ _).drew
      replace x:=x.below (Below.refl _ _).drew
      replace XX:=XX.below (Below.refl _ _).drew
      replace y:=y.below (Below.refl _ _).drew
      replace XY:=XY.below (Below.refl _ _).drew
      replace HQ:=Lib.hid (Each.belowR HQ.out (Below.refl _ _).drew)
      replace hB:=hB.drew
      go_region_held3 (fun w'=>w'.cell? ⟨gU,0,none⟩=some (.bool s_x)∧w'.cell? ⟨gU,1,none⟩=some (.slice A_x n_x c_x)∧w'.cell? ⟨gU,2,none⟩=some (.slice B_x m_x d_x)∧w'.cell? ⟨gV,0,none⟩=some (.bool s_y)∧w'.cell? ⟨gV,1,none⟩=some (.slice A_y n_y c_y)∧w'.cell? ⟨gV,2,none⟩=some (.slice B_y m_y d_y))
       (first | with_reducible exact ⟨XX.c0,XX.c1,XX.c2,XY.c0,XY.c1,XY.c2⟩)
       (first
        | (go_at_call 65;(with_reducible refine (rsign3 x).mono ?_);rintro e w_e ⟨rfl,hh⟩
           rw [HK1.out];(try replace LT:=LT.below hh);(try replace p0:=p0.below hh);(try replace q0:=q0.below hh);(try replace X:=X.below hh);(try replace Y:=Y.below hh);(try replace x:=x.below hh);(try replace XX:=XX.below hh);(try replace y:=y.below hh);(try replace XY:=XY.below hh)
           replace HQ:=Lib.hid (Each.belowR HQ.out hh)
           replace hB:=bend hB hh)
        | (go_at_call 65;(with_reducible refine (rsign3 y).mono ?_);rintro e w_f ⟨rfl,hh⟩
           rw [HK2.out];(try replace LT:=LT.below hh);(try replace p0:=p0.below hh);(try replace q0:=q0.below hh);(try replace X:=X.below hh);(try replace Y:=Y.below hh);(try replace x:=x.below hh);(try replace XX:=XX.below hh);(try replace y:=y.below hh);(try replace XY:=XY.below hh)
           replace HQ:=Lib.hid (Each.belowR HQ.out hh)
           replace hB:=bend hB hh))
      by_cases hx2:fu*fv < 0
      · have hk12:K1*K2 < 0:=by rw [← HK1.out,← HK2.out];exact (sgn_mul_lt fu fv).2 hx2
        have HNZ:Hid (fu - fv ≠ 0):=fun e=>by
         have e2:fv=fu:=by grind
         rw [e2] at hx2
         have:=sq_nonneg fu
         grind
        have HX2:=Lib.hid hx2;clear hx2
        go_upto_region 13 with (fail)
        replace LT:=LT.below (Below.refl _ _).drew
        replace p0:=p0.below (Below.refl _ _).drew
        replace q0:=q0.below (Below.refl _ _).drew
        replace X:=X.below (Below.refl _ _).drew
        replace Y:=Y.below (Below.refl _ _).drew
        replace x:=x.below (Below.refl _ _).drew
        replace XX:=XX.below (Below.refl _ _).drew
        replace y:=y.below (Below.refl _ _).drew
        replace XY:=XY.below (Below.refl _ _).drew
        replace HQ:=Lib.hid (Each.belowR HQ.out (Below.refl _ _).drew)
        replace hB:=hB.drew
        go_region_held3 (fun w'=>w'.cell? ⟨gX,0,none⟩=some (.bool s_p)∧w'.cell? ⟨gX,1,none⟩=some (.slice A_p n_p c_p)∧w'.cell? ⟨gX,2,none⟩=some (.slice B_p m_p d_p)∧w'.cell? ⟨gX,3,none⟩=some (.bool t_p)∧w'.cell? ⟨gX,4,none⟩=some (.slice E_p i_p e_p)∧w'.cell? ⟨gX,5,none⟩=some (.slice F_p j_p f_p)∧w'.cell? ⟨gY,0,none⟩=some (.bool s_q)∧w'.cell? ⟨gY,1,none⟩=some (.slice A_q n_q c_q)∧w'.cell? ⟨gY,2,none⟩=some (.slice B_q m_q d_q)∧w'.cell? ⟨gY,3,none⟩=some (.bool t_q)∧w'.cell? ⟨gY,4,none⟩=some (.slice E_q i_q e_q)∧w'.cell? ⟨gY,5,none⟩=some (.slice F_q j_q f_q)∧w'.cell? ⟨gU,0,none⟩=some (.bool s_x)∧w'.cell? ⟨gU,1,none⟩=some (.slice A_x n_x c_x)∧w'.cell? ⟨gU,2,none⟩=some (.slice B_x m_x d_x)∧w'.cell? ⟨gV,0,none⟩=some (.bool s_y)∧w'.cell? ⟨gV,1,none⟩=some (.slice A_y n_y c_y)∧w'.cell? ⟨gV,2,none⟩=some (.slice B_y m_y d_y))
         (first | with_reducible exact ⟨Xb.c0,Xb.c1,Xb.c2,Xb.c3,Xb.c4,Xb.c5,Yb.c0,Yb.c1,Yb.c2,Yb.c3,Yb.c4,Yb.c5,XXb.c0,XXb.c1,XXb.c2,XYb.c0,XYb.c1,XYb.c2⟩ | with_reducible exact ⟨X.c0,X.c1,X.c2,X.c3,X.c4,X.c5,Y.c0,Y.c1,Y.c2,Y.c3,Y.c4,Y.c5,XX.c0,XX.c1,XX.c2,XY.c0,XY.c1,XY.c2⟩ | exact ⟨(X.below ((Below.refl _ _).alloc (Nat.le_refl _) _)).c0,(X.below ((Below.refl _ _).alloc (Nat.le_refl _) _)).c1,(X.below ((Below.refl _ _).alloc (Nat.le_refl _) _)).c2,(X.below ((Below.refl _ _).alloc (Nat.le_refl _) _)).c3,(X.below ((Below.refl _ _).alloc (Nat.le_refl _) _)).c4,(X.below ((Below.refl _ _).alloc (Nat.le_refl _) _)).c5,(Y.below ((Below.refl _ _).alloc (Nat.le_refl _) _)).c0,(Y.below ((Below.refl _ _).alloc (Nat.le_refl _) _)).c1,(Y.below ((Below.refl _ _).alloc (Nat.le_refl _) _)).c2,(Y.below ((Below.refl _ _).alloc (Nat.le_refl _) _)).c3,(Y.below ((Below.refl _ _).alloc (Nat.le_refl _) _)).c4,(Y.below ((Below.refl _ _).alloc (Nat.le_refl _) _)).c5,(XX.below ((Below.refl _ _).alloc (Nat.le_refl _) _)).c0,(XX.below ((Below.refl _ _).alloc (Nat.le_refl _) _)).c1,(XX.below ((Below.refl _ _).alloc (Nat.le_refl _) _)).c2,(XY.below ((Below.refl _ _).alloc (Nat.le_refl _) _)).c0,(XY.below ((Below.refl _ _).alloc (Nat.le_refl _) _)).c1,(XY.below ((Below.refl _ _).alloc (Nat.le_refl _) _)).c2⟩)
         (first
          | (go_at_call 68;(with_reducible refine (rsub3 x y (by omega) (by omega)).mono ?_);rintro e w_d ⟨s_d,A_d,n_d,c_d,B_d,m_d,d_d,rfl,d,hh⟩
             (try replace LT:=LT.below hh);(try replace p0:=p0.below hh);(try replace q0:=q0.below hh);(try replace X:=X.below hh);(try replace Y:=Y.below hh);(try replace x:=x.below hh);(try replace XX:=XX.below hh);(try replace y:=y.below hh);(try replace XY:=XY.below hh)
             replace HQ:=Lib.hid (Each.belowR HQ.out hh)
             replace hB:=bend hB hh)
          | (go_at_call 67;(with_reducible refine (rdiv3 x d (by omega) (by omega) HNZ.out).mono ?_);rintro e w_r ⟨s_r,A_r,n_r,c_r,B_r,m_r,d_r,rfl,r,hh⟩
             (try replace LT:=LT.below hh);(try replace p0:=p0.below hh);(try replace q0:=q0.below hh);(try replace X:=X.below hh);(try replace Y:=Y.below hh);(try replace x:=x.below hh);(try replace XX:=XX.below hh);(try replace y:=y.below hh);(try replace XY:=XY.below hh)
             replace HQ:=Lib.hid (Each.belowR HQ.out hh)
             replace hB:=bend hB hh;clear d)
          | (go_at_call 66;(with_reducible refine (rmix6 p0 q0 r (by omega) (by omega) (by omega)).mono ?_);rintro e w_t ⟨s_t,A_t,n_t,c_t,B_t,m_t,d_t,t_t,E_t,i_t,e_t,F_t,j_t,f_t,rfl,t,hh⟩
             (try replace LT:=LT.below hh);(try replace p0:=p0.below hh);(try replace q0:=q0.below hh);(try replace X:=X.below hh);(try replace Y:=Y.below hh);(try replace x:=x.below hh);(try replace XX:=XX.below hh);(try replace y:=y.below hh);(try replace XY:=XY.below hh)
             replace HQ:=Lib.hid (Each.belowR HQ.out hh)
             replace hB:=bend hB hh;clear r)
          | (have hal:Below w_t.heap.size w_t (w_t.alloc (Obj.cells #[Value.bool s_t,Value.slice A_t n_t c_t,Value.slice B_t m_t d_t,Value.bool t_t,Value.slice E_t i_t e_t,Value.slice F_t j_t f_t] 45)):=(Below.refl _ _).alloc (Nat.le_refl _) _
             refine step_push3 Tryz.underlying33 info_rpt (by rfl) _ _ (by rfl) (p:=(PV.mk s_t A_t n_t c_t B_t m_t d_t t_t E_t i_t e_t F_t j_t f_t)) (k0:=1) (b:=w_t.heap.size) (by rfl) (by rfl) (LT.below hal) (Nat.le_trans hB.size hal.size) hMl (heap_alloc_new w_t _) ?_
             intro v9 w9 hn9 hg9
             have Xb:=(X.below hal).pushr hg9 hXo
             have Yb:=(Y.below hal).pushr hg9 hYo
             have XXb:=(XX.below hal).pushr hg9 hUo
             have XYb:=(XY.below hal).pushr hg9 hVo))
        have hE9:Each PV.RP (w_t.alloc (Obj.cells #[Value.bool s_t,Value.slice A_t n_t c_t,Value.slice B_t m_t d_t,Value.bool t_t,Value.slice E_t i_t e_t,Value.slice F_t j_t f_t] 45)) _ _ (k+(k+k+1+((k2+k2+1+(k+k2+1)+(k2+k2+1+(k+k2+1))+1)+((k2+k2+1+(k+k2+1)+(k2+k2+1+(k+k2+1))+1)+(k2+k2+1+(k+k2+1)+(k2+k2+1+(k+k2+1))+1)+1)))+1):=Each.belowR HQ.out hal
        have hp9:PV.RP (w_t.alloc (Obj.cells #[Value.bool s_t,Value.slice A_t n_t c_t,Value.slice B_t m_t d_t,Value.bool t_t,Value.slice E_t i_t e_t,Value.slice F_t j_t f_t] 45)) (PV.mk s_t A_t n_t c_t B_t m_t d_t t_t E_t i_t e_t F_t j_t f_t) (mixP (ux,uy) (vx,vy) (fu / (fu - fv))) (k+(k+k+1+((k2+k2+1+(k+k2+1)+(k2+k2+1+(k+k2+1))+1)+((k2+k2+1+(k+k2+1)+(k2+k2+1+(k+k2+1))+1)+(k2+k2+1+(k+k2+1)+(k2+k2+1+(k+k2+1))+1)+1)))+1):=RP.below t hal
        have hst:=Each.staysR hE9 (LT.below hal) hg9
        replace hB:=Ln.under (LT.below hal) hg9 (bend hB hal) (Nat.le_refl _)
        have HQ9:=Lib.hid (Each.push hE9 hst (hst _ _ hp9))
        clear hE9 hp9 hst t
        go_wp2_with fail
        go_roundg (gk - 1)
        case measure=>have:=HG.out;have:=HMN.out;omega
        case rel =>
         refine ⟨M' ++ [(PV.mk s_t A_t n_t c_t B_t m_t d_t t_t E_t i_t e_t F_t j_t f_t)],m+1,by have:=HG.out;have:=HMN.out;show _=_;omega,by go_num,hn9,?_,?_,hB⟩
         · have:=HLn.out;show List.length _≤_;(try simp only [List.length_append,List.length_cons,List.length_nil]);omega
         · rw [HS.out,if_neg HX1.out,if_pos HX2.out];exact Lib.hid (by simpa using HQ9.out)
      · have hk12:¬ K1*K2 < 0:=by rw [← HK1.out,← HK2.out];exact fun e=>hx2 ((sgn_mul_lt fu fv).1 e)
        have HX2:=Lib.hid hx2;clear hx2
        go_wp2_with fail
        go_roundg (gk - 1)
        case measure=>have:=HG.out;have:=HMN.out;omega
        case rel =>
         refine ⟨M',m+1,by have:=HG.out;have:=HMN.out;show _=_;omega,by go_num,LT,?_,?_,hB⟩
         · have:=HLn.out;show List.length _≤_;(try simp only [List.length_append,List.length_cons,List.length_nil]);omega
         · rw [HS.out,if_neg HX1.out,if_neg HX2.out];exact Lib.hid (by simpa using HQ.out)
  · have hlt:¬ (m:Int) < (n:Int):=by omega
    obtain rfl:m=n:=by have:=HG.out;omega
    clear hmn
    go_wp2_with fail
    (try rw [Exit.noGoto_ret])
    go_ret;have HQ3:=HQ.out
    unfold halfQ
    rw [HNl.out]
    exact ⟨_,M',rfl,LT.base_le hb.size,HQ3,bend hb hB⟩
end
section
open Go Go.RowKit
theorem run_copy {T tS ty:TypeId} {base g n c:Nat} {A:Option Addr} {L:List PV} (ht:Tryz.prog.underlying tS=some (.slice T)) (hinfo:(Tryz.prog.info? T).map (fun i=>(i.zero,i.size,i.bytes))=some (some zpt,6,112))
 (hg:w.heap[g]?=some (.cells #[] T (0,0))) (hgb:base≤g) (hS:SV w A (pvs L)) (hn:L.length=n) (hn1:n≤1000000) (hbase:base≤w.heap.size) :
 ∃ v' w',(Builtin.append_ #[tS,tS] ty #[.slice (some ⟨g,0,none⟩) 0 0,.slice A n c]).run Tryz.prog w=.ok v' w'∧Ln T base w' v' L∧Below w.heap.size w w':=by
 obtain ⟨i0,hi,hz,hs,hby⟩:=info_parts hinfo
 have own0:w.ownsRow base T 6 (.slice (some ⟨g,0,none⟩) 0 0) 0 (pvs []) :=
  ⟨rfl,.inr ⟨g,0,#[],rfl,hgb,hg,Nat.le_refl _,by unfold maxLen;omega,rfl,rfl⟩⟩
 by_cases h0:n=0
 · subst h0
   obtain rfl:L=[]:=List.length_eq_zero_iff.1 hn
   have hsrc:Src Tryz.prog i0.size tS (.slice A 0 c) 0 [] w:=by
    cases A with
    | none=>exact Src.ofNil w ht c
    | some a=>exact Src.ofSlice w ht a 0 c [] (by simp) (fun j u hu=>by simp at hu) (fun u hu=>by cases hu)
   have hr:=run_append_room_src (P:=Tryz.prog) w tS tS ty T i0 ht hi g 0 0 0 (.slice A 0 c) 0 [] hsrc (Nat.le_refl _) (fun j hj=>by simp at hj) (fun j hj=>by simp at hj)
   exact ⟨_,_,hr,⟨own0,fun k hk=>by
    obtain rfl:g=k:=by simpa [Value.ownBlock] using hk
    exact ⟨#[],hg,fun i k x e=>by simp at e⟩⟩,Below.refl _ _⟩
 · have hpos:0 < (pvs L).length:=by rw [pvs_length];omega
   obtain ⟨g2,o2,rfl,hl2,hc⟩:=hS hpos
   have hadd:∀ j,(⟨g2,o2,none⟩:Addr).add j=⟨g2,o2+j,none⟩:=fun j=>by unfold Addr.add;split <;> simp_all
   have hnews:∀ j u,(pvs L)[j]?=some u→w.cell? ((⟨g2,o2,none⟩:Addr).add j)=some u:=fun j u hu=>by rw [hadd];exact hc j u hu
   have hlen:(pvs L).length=n*i0.size:=by rw [pvs_length,hn,hs]
   obtain ⟨v',w',hr,hown,hgr,_⟩:=run_append_own (P:=Tryz.prog) w base tS ty T i0 zpt 6 112 ht hi hz hs hby rfl (by decide) (.slice (some ⟨g,0,none⟩) 0 0) 0 (pvs []) own0 ⟨g2,o2,none⟩ n c (pvs L) (by rw [pvs_length,hn]) hnews (pvs_one L) (by unfold maxLen;omega) (by omega) hbase
   have e:=run_append_grow (P:=Tryz.prog) w tS ty T i0 zpt ht hi hz ⟨g,0,none⟩ 0 0 (pvs []) (by simp [pvs_nil]) (fun j u hu=>by simp [pvs_nil] at hu) ⟨g2,o2,none⟩ n c (pvs L) hlen hnews (by omega) (by omega) (growslice_fits (by omega) (by rw [hby];omega))
   have e9:=e;rw [hr] at e
   injection e with e1 e2
   refine ⟨v',w',hr,⟨?_,?_⟩,?_⟩
   · have h:=hown
     rwa [Nat.zero_add,pvs_nil,List.nil_append,← hn] at h
   · intro k hk
     subst e1 e2
     obtain rfl:w.heap.size=k:=by simpa [Value.ownBlock] using hk
     refine ⟨_,heap_alloc_new w.drew _,?_⟩
     intro i k x e
     have hf:∀ u ∈ (pvs [] ++ pvs L ++ (Builtin.zeroCells zpt.cells (grownCap w (0+n) 0 T - (0+n))).toList),∀ (k:IntKind) (x:Int),u ≠ .int k x:=fun u hu=>by
      rcases List.mem_append.1 hu with q | q
      · rcases List.mem_append.1 q with q | q
        · cases q
        · exact pvs_free L u q
      · exact zero_free _ u q
     have e0:(pvs [] ++ pvs L ++ (Builtin.zeroCells zpt.cells (grownCap w (0+n) 0 T - (0+n))).toList).toArray=(pvs []).toArray ++ (pvs L).toArray ++ Builtin.zeroCells zpt.cells (grownCap w (0+n) 0 T - (0+n)):=by apply Array.ext';simp
     rw [← e0,List.getElem?_toArray] at e
     exact hf _ (List.mem_of_getElem? e) k x rfl
   · subst e1 e2
     exact ((Below.refl _ _).drew).alloc (Nat.le_refl _) _
theorem wpList_copy {ops:Array Oper} {rest:List Oper} {o:Oper} {a:Act} {Q:Exit→Act→World→Prop} {T tS:TypeId} (ht:Tryz.prog.underlying tS=some (.slice T)) (hinfo:(Tryz.prog.info? T).map (fun i=>(i.zero,i.size,i.bytes))=some (some zpt,6,112))
 (hgd:o.guard=none) (s x:Operand) (ho:o.op=.call ⟨.builtin .append,#[s,x],#[tS,tS]⟩) {base g n c:Nat} {A:Option Addr} {L:List PV} (hs:a.eval s=.slice (some ⟨g,0,none⟩) 0 0) (hx:a.eval x=.slice A n c)
 (hg:w.heap[g]?=some (.cells #[] T (0,0))) (hgb:base≤g) (hS:SV w A (pvs L)) (hn:L.length=n) (hn1:n≤1000000) (hbase:base≤w.heap.size)
 (hK:∀ v' w',Ln T base w' v' L→Below w.heap.size w w'→wpList Tryz.prog ops Q rest (a.put o.dst v') w'):wpList Tryz.prog ops Q (o :: rest) a w :=
 wpList_plain hgd fun K hK2=>by
  obtain ⟨v',w',hr,h2,h3⟩:=run_copy (ty:=o.type) (c:=c) ht hinfo hg hgb hS hn hn1 hbase
  exact wp_append_at s x ho hs hx hr (hK2 _ _ (hK v' w' h2 h3))
theorem aside_nul (ax ay:Rat) (u:Rat × Rat):asideP ax ay ax ay u=0:=by unfold asideP;grind
theorem halfUpto_nul {f:Rat × Rat→Rat} (h:∀ u,f u=0) (r:List (Rat × Rat)):∀ m,m < r.length→halfUpto f r m=r.take m
 | 0,_=>by simp [halfUpto]
 | m+1,hm=>by
   have h1:=halfUpto_nul h r m (by omega)
   obtain ⟨u,hu⟩:∃ u,r[m]?=some u:=⟨_,List.getElem?_eq_getElem (by omega)⟩
   obtain ⟨v,hv⟩:∃ v,r[m+1]?=some v:=⟨_,List.getElem?_eq_getElem hm⟩
   rw [halfUpto_at hu hv,h1]
   unfold halfStep
   rw [h u,h v,if_pos Rat.le_refl,if_neg (by rw [Rat.zero_mul];exact Rat.lt_irrefl),List.append_nil,List.take_add_one,hu]
   rfl
theorem half_same (ax ay:Rat) (l:List (Rat × Rat)):halfQ (asideP ax ay ax ay) l=l:=by
 unfold halfQ
 by_cases h0:l.length=0
 · rw [List.length_eq_zero_iff.1 h0];rfl
 · rw [halfUpto_nul (aside_nul ax ay) _ _ (by rw [ringL_len l (by omega)];omega)]
   unfold ringL
   rw [List.take_append_of_le_length (Nat.le_refl _),List.take_length]
theorem rhalf_eq {A:Option Addr} {n c k k2:Nat} {L:List PV} {l:List (Rat × Rat)} {ax ay bx by_:Rat} (hL:SV w A (pvs L)) (hE:Each PV.RP w L l k) (a:RP w s_a A_a n_a c_a B_a m_a d_a t_a E_a i_a e_a F_a j_a f_a ax ay k2) (b:RP w s_b A_b n_b c_b B_b m_b d_b t_b E_b i_b e_b F_b j_b f_b bx by_ k2) (hn:L.length=n) (hm:n≤1000) (hk2:k2≤60) (hne:decide (ax=bx∧ay=by_)=true) :
 Calls Tryz.prog 25 #[.slice A n c,.agg #[.bool s_a,.slice A_a n_a c_a,.slice B_a m_a d_a,.bool t_a,.slice E_a i_a e_a,.slice F_a j_a f_a],.agg #[.bool s_b,.slice A_b n_b c_b,.slice B_b m_b d_b,.bool t_b,.slice E_b i_b e_b,.slice F_b j_b f_b]] w (GivesLnR w l k):=by
 have HNE:=Lib.hid hne;have HN:=Lib.hid hn;clear hne hn
 go_enter Tryz.func25,Tryz.ntmps25
 go_upto_region 1 with (fail)
 generalize hW:World.alloc _ _=W
 obtain ⟨hb,XA,XB,hzW⟩:=mkbx40_15 hW;clear hW;replace hL:=hL.below hb;replace a:=a.below hb;replace b:=b.below hb;obtain ⟨xa0,xa1,xa2,xa3,xa4,xa5⟩:=XA.all;obtain ⟨xb0,xb1,xb2,xb3,xb4,xb5⟩:=XB.all;replace hE:=hE.belowR hb
 go_wp2_with (first
  | (go_at_call 26;(with_reducible refine (rsame6 a b (by omega) (by omega) true HNE.out).mono ?_);rintro e w_z ⟨rfl,hh⟩
     (try replace hL:=hL.below hh);(try replace a:=a.below hh);(try replace b:=b.below hh);replace hb:=bend hb hh;replace hE:=hE.belowR hh)
  | (at_builtin
     have hal:Below w_z.heap.size w_z (w_z.alloc (Obj.cells #[] 45)):=(Below.refl _ _).alloc (Nat.le_refl _) _
     refine wpList_copy Tryz.underlying33 info_rpt rfl (.tmp 16) (.tmp 17) rfl (base:=w_z.heap.size) (L:=L) rfl rfl (heap_alloc_new w_z _) (Nat.le_refl _) (hL.below hal) HN.out (by omega) hal.size ?_
     intro v_r w3 hnr hgr))
 go_ret
 have hE2:Each PV.RP w3 L l k:=(hE.belowR hal).belowR hgr
 exact ⟨_,L,rfl,hnr.base_le hb.size,hE2,bend (bend hb hal) hgr⟩
end
section
open Go Go.RowKit
theorem cmpQ_lt {x y:Rat}:cmpQ x y < 0 ↔ x < y:=by
 unfold cmpQ
 by_cases h:x < y
 · rw [if_pos h];exact ⟨fun _=>h,fun _=>by decide⟩
 · rw [if_neg h]
   refine ⟨fun e=>?_,fun e=>absurd e h⟩
   exfalso
   split at e <;> exact absurd e (by decide)
theorem cmpQ_gt {x y:Rat}:0 < cmpQ x y ↔ y < x:=by
 rw [cmpQ_swap y x]
 constructor
 · intro h;exact cmpQ_lt.1 (by omega)
 · intro h;have:=cmpQ_lt.2 h;omega
theorem byX_p {k:Nat} {px py qx qy:Rat} (p:PR w s_p A_p n_p c_p B_p m_p d_p t_p E_p i_p e_p F_p j_p f_p px py k) (q:PR w s_q A_q n_q c_q B_q m_q d_q t_q E_q i_q e_q F_q j_q f_q qx qy k) (hk:k≤400) (h1:1≤k) (K:Int) (hK:cmpQ px qx=K) :
 Calls Tryz.prog 37 #[.agg #[.bool s_p,.slice A_p n_p c_p,.slice B_p m_p d_p,.bool t_p,.slice E_p i_p e_p,.slice F_p j_p f_p],.agg #[.bool s_q,.slice A_q n_q c_q,.slice B_q m_q d_q,.bool t_q,.slice E_q i_q e_q,.slice F_q j_q f_q]] w fun e w'=>e=.returned (.int .i64 K)∧Below w.heap.size w w':=by
 have HK:=Lib.hid hK;clear hK
 go_enter Tryz.func37,Tryz.ntmps37
 go_upto_region 1 with (fail)
 generalize hW:World.alloc _ _=W
 obtain ⟨hb,XA,XB,hzW⟩:=mkbx24_10 hW;clear hW;replace p:=p.below hb;replace q:=q.below hb;obtain ⟨xa0,xa1,xa2,xa3,xa4,xa5⟩:=XA.all;obtain ⟨xb0,xb1,xb2,xb3,xb4,xb5⟩:=XB.all
 go_wp2_with (first
  | (go_at_call 27;(with_reducible refine (rcmp_q p.qx q.qx hk hk (.inl hk) h1 h1).mono ?_);rintro e w_z ⟨rfl,hh⟩
     rw [HK.out];replace hb:=bend hb hh))
 (try rw [Exit.noGoto_ret])
 go_ret;exact ⟨rfl,hb⟩
theorem byY_p {k:Nat} {px py qx qy:Rat} (p:PR w s_p A_p n_p c_p B_p m_p d_p t_p E_p i_p e_p F_p j_p f_p px py k) (q:PR w s_q A_q n_q c_q B_q m_q d_q t_q E_q i_q e_q F_q j_q f_q qx qy k) (hk:k≤400) (h1:1≤k) (K:Int) (hK:cmpQ py qy=K) :
 Calls Tryz.prog 38 #[.agg #[.bool s_p,.slice A_p n_p c_p,.slice B_p m_p d_p,.bool t_p,.slice E_p i_p e_p,.slice F_p j_p f_p],.agg #[.bool s_q,.slice A_q n_q c_q,.slice B_q m_q d_q,.bool t_q,.slice E_q i_q e_q,.slice F_q j_q f_q]] w fun e w'=>e=.returned (.int .i64 K)∧Below w.heap.size w w':=by
 have HK:=Lib.hid hK;clear hK
 go_enter Tryz.func38,Tryz.ntmps38
 go_upto_region 1 with (fail)
 generalize hW:World.alloc _ _=W
 obtain ⟨hb,XA,XB,hzW⟩:=mkbx24_10 hW;clear hW;replace p:=p.below hb;replace q:=q.below hb;obtain ⟨xa0,xa1,xa2,xa3,xa4,xa5⟩:=XA.all;obtain ⟨xb0,xb1,xb2,xb3,xb4,xb5⟩:=XB.all
 go_wp2_with (first
  | (go_at_call 27;(with_reducible refine (rcmp_q p.qy q.qy hk hk (.inl hk) h1 h1).mono ?_);rintro e w_z ⟨rfl,hh⟩
     rw [HK.out];replace hb:=bend hb hh))
 (try rw [Exit.noGoto_ret])
 go_ret;exact ⟨rfl,hb⟩
def Gives_min_byX (w:World) (L:List PV) (l:List (Rat × Rat)) (e:Ending) (w':World):Prop:=∃ (j:Nat) (p:PV) (v:Rat × Rat),L[j]?=some p∧l[j]?=some v∧(∀ (i:Nat) (u:Rat × Rat),l[i]?=some u→v.1≤u.1)∧e=.returned (.agg #[.bool p.s,.slice p.A p.n p.c,.slice p.B p.m p.d,.bool p.t,.slice p.E p.i p.e,.slice p.F p.j p.f])∧Below w.heap.size w w'
theorem min_byX {A:Option Addr} {n c k:Nat} {L:List PV} {l:List (Rat × Rat)} (hL:SV w A (pvs L)) (hE:Each PV.PR w L l k) (hn:L.length=n) (h0:0 < n) (hm:n≤1000) (hnc:n≤c) (h1:1≤k) (hk:k≤400) :
 Calls Tryz.prog 36 #[.slice A n c,.func (.func 37) #[] #[]] w (Gives_min_byX w L l):=by
 have HN:=Lib.hid hn;have HL0:=Lib.hid hL;have E0:=Lib.hid hE;have H0:=Lib.hid h0
 obtain ⟨P,u,hP1,hu1,p⟩:=hE.at_ (i:=0) (by rw [hn];exact h0)
 obtain ⟨g0,o0,hix0,E,_⟩:=hL.pt hP1
 have hixa:∀ w',(Instr.indexAt 22 (.slice A n c) (.int .i64 0)).run Tryz.prog w'=.ok (.pointer (some ⟨g0,o0,none⟩)) w':=fun w'=>hix0 n c w' h0
 have h4:¬ (n:Int) < 1:=by omega
 have HP0:=Lib.hid hP1;have HU0:=Lib.hid hu1
 obtain ⟨s_p,A_p,n_p,c_p,B_p,m_p,d_p,t_p,E_p,i_p,e_p,F_p,j_p,f_p⟩:=P
 clear hix0 hP1 hu1 p hL hE
 go_enter Tryz.func36,Tryz.ntmps36
 go_upto_region 1 with (fail)
 generalize hW:World.alloc _ _=W
 obtain ⟨hb,Z,hzW⟩:=mkbx18_10 hW;clear hW;replace E:=E.below hb;obtain ⟨e0,e1,e2,e3,e4,e5⟩:=E.all
 simp only at e0 e1 e2 e3 e4 e5
 go_upto_region 4 with (fail)
 generalize hW:World.alloc _ _=W2
 obtain ⟨hh,X,hzW2⟩:=mkbx18_10 hW;clear hW;(try replace Z:=Z.below hh);replace hb:=bend hb hh;clear E e0 e1 e2 e3 e4 e5 hixa;rw [hzW] at X
 have hgZ:w.heap.size < w.heap.size+1:=by omega
 have hgZ2:w.heap.size+1≤W.heap.size:=by omega
 clear hzW hzW2
 generalize w.heap.size+1=gM at X hgZ hgZ2 ⊢
 go_wp2_with fail
 go_loopg [6] n (fun gk ix wr=>∃ (m j:Nat) (P:PV),Hid (gk+m=n+1∧m≤n)∧ix=.int .i64 (m:Int)∧Hid (1≤m)∧Hid (j < m)∧Hid (L[j]?=some P)∧B6 wr gM (.bool P.s) (.slice P.A P.n P.c) (.slice P.B P.m P.d) (.bool P.t) (.slice P.E P.i P.e) (.slice P.F P.j P.f)∧Hid (∀ i,i < m→∀ u v:Rat × Rat,l[i]?=some u→l[j]?=some v→v.1≤u.1)∧B6 wr w.heap.size (.bool false) (.slice none 0 0) (.slice none 0 0) (.bool false) (.slice none 0 0) (.slice none 0 0)∧Below w.heap.size w wr)
 case atStart =>
  refine ⟨1,0,(PV.mk s_p A_p n_p c_p B_p m_p d_p t_p E_p i_p e_p F_p j_p f_p),by have:=H0.out;exact ⟨by omega,by omega⟩,rfl,by show _≤_;decide,by show _ < _;decide,HP0.out,X,fun i hi u v h5 h6=>?_,Z,hb⟩
  obtain rfl:i=0:=by omega
  rw [h5] at h6;cases h6;exact Rat.le_refl
 case round =>
  clear X Z HP0 HU0
  obtain ⟨m,j,P,HG,rfl,HM1,HJ,HPj,X,HS,Z,hb⟩:=hrel
  obtain ⟨s_q,A_q,n_q,c_q,B_q,m_q,d_q,t_q,E_q,i_q,e_q,F_q,j_q,f_q⟩:=P
  replace X:B6 wr gM (.bool s_q) (.slice A_q n_q c_q) (.slice B_q m_q d_q) (.bool t_q) (.slice E_q i_q e_q) (.slice F_q j_q f_q):=X
  by_cases hmn:m < n
  · have HMN:=Lib.hid hmn
    obtain ⟨P,u,hP1,hu1,p⟩:=(E0.out.imp (fun p u h=>PR.below h hb)).at_ (i:=m) (by rw [HN.out];exact hmn)
    obtain ⟨Pj,v,hPj,hvj,q⟩:=(E0.out.imp (fun p u h=>PR.below h hb)).at_ (i:=j) (by have:=HJ.out;rw [HN.out];omega)
    rw [HPj.out] at hPj
    cases hPj
    obtain ⟨g1,o1,hix0,E,_⟩:=(HL0.out.below hb).pt hP1
    have hixa:∀ w',(Instr.indexAt 22 (.slice A n c) (.int .i64 (m:Int))).run Tryz.prog w'=.ok (.pointer (some ⟨g1,o1,none⟩)) w':=fun w'=>hix0 n c w' hmn
    have hlt:(m:Int) < (n:Int):=by omega
    have hwr:IntKind.i64.wrap ((m:Int)+1)=(m:Int)+1:=IntWalk.i64_in _ (by omega)
    have hg1:g1 ≠ gM:=fun e=>by
     obtain ⟨g2,o2,e2,h3,_⟩:=HL0.out (by rw [show (pvs L).length=L.length*6 from rows_length pvc_len L,HN.out];omega)
     have h5:=hix0 n c wr hmn;rw [e2] at h5
     have h6:=(SV.pt HL0.out hP1)
     obtain ⟨g3,o3,h7,h8,o4,h9⟩:=h6
     have h10:=h7 n c wr hmn;rw [e2] at h10;rw [h5] at h10
     cases h10
     have:=h8.lt
     omega
    have HU:=Lib.hid hu1;have HV:=Lib.hid hvj;have HPm:=Lib.hid hP1
    obtain ⟨ux,uy⟩:=u
    obtain ⟨vx,vy⟩:=v
    obtain ⟨s_p,A_p,n_p,c_p,B_p,m_p,d_p,t_p,E_p,i_p,e_p,F_p,j_p,f_p⟩:=P
    replace p:PR wr s_p A_p n_p c_p B_p m_p d_p t_p E_p i_p e_p F_p j_p f_p ux uy k:=p
    replace q:PR wr s_q A_q n_q c_q B_q m_q d_q t_q E_q i_q e_q F_q j_q f_q vx vy k:=q
    obtain ⟨K,hK⟩:∃ K,cmpQ ux vx=K:=⟨_,rfl⟩
    have HK:=Lib.hid hK;obtain ⟨e0,e1,e2,e3,e4,e5⟩:=E.all
    simp only at e0 e1 e2 e3 e4 e5
    clear hP1 hu1 hvj hix0 hmn hK
    go_upto_region 7 with (fail)
    replace p:=p.below (Below.refl _ _).drew
    replace q:=q.below (Below.refl _ _).drew
    replace E:=E.below (Below.refl _ _).drew
    replace X:=X.below (Below.refl _ _).drew
    replace Z:=Z.below (Below.refl _ _).drew
    replace hb:=hb.drew
    go_region_held3 (fun w'=>w'.cell? ⟨gM,0,none⟩=some (.bool s_q)∧w'.cell? ⟨gM,1,none⟩=some (.slice A_q n_q c_q)∧w'.cell? ⟨gM,2,none⟩=some (.slice B_q m_q d_q)∧w'.cell? ⟨gM,3,none⟩=some (.bool t_q)∧w'.cell? ⟨gM,4,none⟩=some (.slice E_q i_q e_q)∧w'.cell? ⟨gM,5,none⟩=some (.slice F_q j_q f_q)∧w'.cell? ⟨g1,o1,none⟩=some (.bool s_p)∧w'.cell? ⟨g1,o1+1,none⟩=some (.slice A_p n_p c_p)∧w'.cell? ⟨g1,o1+2,none⟩=some (.slice B_p m_p d_p)∧w'.cell? ⟨g1,o1+3,none⟩=some (.bool t_p)∧w'.cell? ⟨g1,o1+4,none⟩=some (.slice E_p i_p e_p)∧w'.cell? ⟨g1,o1+5,none⟩=some (.slice F_p j_p f_p))
     (first | with_reducible exact ⟨X.c0,X.c1,X.c2,X.c3,X.c4,X.c5,E.c0,E.c1,E.c2,E.c3,E.c4,E.c5⟩)
     (first
     | (go_at_call 37;(with_reducible refine (byX_p p q hk h1 K HK.out).mono ?_);rintro e w_z ⟨rfl,hh⟩
        (try replace p:=p.below hh);(try replace q:=q.below hh);(try replace E:=E.below hh);(try replace X:=X.below hh);(try replace Z:=Z.below hh);replace hb:=bend hb hh;obtain ⟨x0,x1,x2,x3,x4,x5⟩:=X.all;have xf0:=X.f0;have xf1:=X.f1;have xf2:=X.f2;have xf3:=X.f3;have xf4:=X.f4;have xf5:=X.f5;obtain ⟨e0,e1,e2,e3,e4,e5⟩:=E.all
        simp only at e0 e1 e2 e3 e4 e5))
    by_cases hK2:K < 0
    · have hlt2:ux < vx:=by rw [← HK.out] at hK2;exact cmpQ_lt.1 hK2
      have HLT:=Lib.hid hlt2;clear hlt2
      go_wp2_with fail
      have ho:=only6 w_z gM (.bool s_p) (.slice A_p n_p c_p) (.slice B_p m_p d_p) (.bool t_p) (.slice E_p i_p e_p) (.slice F_p j_p f_p)
      have X2:=X.set6 (.bool s_p) (.slice A_p n_p c_p) (.slice B_p m_p d_p) (.bool t_p) (.slice E_p i_p e_p) (.slice F_p j_p f_p)
      replace Z:=(ho.block _ Z.lt (by omega)).trans Z
      replace hb:=Below.only hb (by omega) hb.size ho
      clear X ho p q E x0 xf0 x1 xf1 x2 xf2 x3 xf3 x4 xf4 x5 xf5 e0 e1 e2 e3 e4 e5
      generalize ((((((w_z.setCell ⟨gM,0,none⟩ (.bool s_p)).setCell ⟨gM,1,none⟩ (.slice A_p n_p c_p)).setCell ⟨gM,2,none⟩ (.slice B_p m_p d_p)).setCell ⟨gM,3,none⟩ (.bool t_p)).setCell ⟨gM,4,none⟩ (.slice E_p i_p e_p)).setCell ⟨gM,5,none⟩ (.slice F_p j_p f_p))=W3 at *
      go_roundg (gk - 1)
      case measure=>have:=HG.out;have:=HMN.out;omega
      case rel =>
       refine ⟨m+1,m,(PV.mk s_p A_p n_p c_p B_p m_p d_p t_p E_p i_p e_p F_p j_p f_p),by have:=HG.out;have:=HMN.out;exact ⟨by omega,by omega⟩,by go_num,by show _≤_;omega,by show _ < _;omega,HPm.out,X2,fun i hi u v h5 h6=>?_,Z,hb⟩
       rw [HU.out] at h6
       cases h6
       rcases Nat.lt_or_ge i m with h | h
       · have:=HS.out i h u _ h5 HV.out
         have:=HLT.out
         grind
       · obtain rfl:i=m:=by omega
         rw [HU.out] at h5;cases h5;exact Rat.le_refl
    · have hlt2:vx≤ux:=by rw [← HK.out] at hK2;exact Rat.not_lt.1 (fun e=>hK2 (cmpQ_lt.2 e))
      have HLT:=Lib.hid hlt2;clear hlt2
      go_wp2_with fail
      go_roundg (gk - 1)
      case measure=>have:=HG.out;have:=HMN.out;omega
      case rel =>
       refine ⟨m+1,j,(PV.mk s_q A_q n_q c_q B_q m_q d_q t_q E_q i_q e_q F_q j_q f_q),by have:=HG.out;have:=HMN.out;exact ⟨by omega,by omega⟩,by go_num,by show _≤_;omega,by have:=HJ.out;show _ < _;omega,HPj.out,X,fun i hi u v h5 h6=>?_,Z,hb⟩
       rcases Nat.lt_or_ge i m with h | h
       · exact HS.out i h u v h5 h6
       · obtain rfl:i=m:=by omega
         rw [HU.out] at h5;rw [HV.out] at h6;cases h5;cases h6;exact HLT.out
  · have hlt:¬ (m:Int) < (n:Int):=by omega
    obtain rfl:m=n:=by have:=HG.out;omega
    obtain ⟨Pj,v,hPj,hvj,_⟩:=E0.out.at_ (i:=j) (by have:=HJ.out;rw [HN.out];omega)
    have HV:=Lib.hid hvj;clear hmn hPj hvj;obtain ⟨x0,x1,x2,x3,x4,x5⟩:=X.all;have zg0:=Z.f0;have zc0:=Z.c0;have zg1:=Z.f1;have zc1:=Z.c1;have zg2:=Z.f2;have zc2:=Z.c2;have zg3:=Z.f3;have zc3:=Z.c3;have zg4:=Z.f4;have zc4:=Z.c4;have zg5:=Z.f5;have zc5:=Z.c5
    go_wp2_with fail
    have Z2:=Z.set6 (.bool s_q) (.slice A_q n_q c_q) (.slice B_q m_q d_q) (.bool t_q) (.slice E_q i_q e_q) (.slice F_q j_q f_q)
    obtain ⟨g0,g1,g2,g3,g4,g5⟩:=Z2.all
    refine bodyPost_ret (v:=.agg #[.bool s_q,.slice A_q n_q c_q,.slice B_q m_q d_q,.bool t_q,.slice E_q i_q e_q,.slice F_q j_q f_q]) (by simp [results,Tryz.results36,go_sem,g0,g1,g2,g3,g4,g5]) rfl ?_
    refine ⟨j,(PV.mk s_q A_q n_q c_q B_q m_q d_q t_q E_q i_q e_q F_q j_q f_q),v,HPj.out,HV.out,fun i u h5=>HS.out i ?_ u v h5 HV.out,rfl,below_set6 hb (Nat.le_refl _) _ _ _ _ _ _⟩
    have h7:=(List.getElem?_eq_some_iff.1 h5).1
    rw [← E0.out.1,HN.out] at h7
    exact h7
def Gives_min_byY (w:World) (L:List PV) (l:List (Rat × Rat)) (e:Ending) (w':World):Prop:=∃ (j:Nat) (p:PV) (v:Rat × Rat),L[j]?=some p∧l[j]?=some v∧(∀ (i:Nat) (u:Rat × Rat),l[i]?=some u→v.2≤u.2)∧e=.returned (.agg #[.bool p.s,.slice p.A p.n p.c,.slice p.B p.m p.d,.bool p.t,.slice p.E p.i p.e,.slice p.F p.j p.f])∧Below w.heap.size w w'
theorem min_byY {A:Option Addr} {n c k:Nat} {L:List PV} {l:List (Rat × Rat)} (hL:SV w A (pvs L)) (hE:Each PV.PR w L l k) (hn:L.length=n) (h0:0 < n) (hm:n≤1000) (hnc:n≤c) (h1:1≤k) (hk:k≤400) :
 Calls Tryz.prog 36 #[.slice A n c,.func (.func 38) #[] #[]] w (Gives_min_byY w L l):=by
 have HN:=Lib.hid hn;have HL0:=Lib.hid hL;have E0:=Lib.hid hE;have H0:=Lib.hid h0
 obtain ⟨P,u,hP1,hu1,p⟩:=hE.at_ (i:=0) (by rw [hn];exact h0)
 obtain ⟨g0,o0,hix0,E,_⟩:=hL.pt hP1
 have hixa:∀ w',(Instr.indexAt 22 (.slice A n c) (.int .i64 0)).run Tryz.prog w'=.ok (.pointer (some ⟨g0,o0,none⟩)) w':=fun w'=>hix0 n c w' h0
 have h4:¬ (n:Int) < 1:=by omega
 have HP0:=Lib.hid hP1;have HU0:=Lib.hid hu1
 obtain ⟨s_p,A_p,n_p,c_p,B_p,m_p,d_p,t_p,E_p,i_p,e_p,F_p,j_p,f_p⟩:=P
 clear hix0 hP1 hu1 p hL hE
 go_enter Tryz.func36,Tryz.ntmps36
 go_upto_region 1 with (fail)
 generalize hW:World.alloc _ _=W
 obtain ⟨hb,Z,hzW⟩:=mkbx18_10 hW;clear hW;replace E:=E.below hb;obtain ⟨e0,e1,e2,e3,e4,e5⟩:=E.all
 simp only at e0 e1 e2 e3 e4 e5
 go_upto_region 4 with (fail)
 generalize hW:World.alloc _ _=W2
 obtain ⟨hh,X,hzW2⟩:=mkbx18_10 hW;clear hW;(try replace Z:=Z.below hh);replace hb:=bend hb hh;clear E e0 e1 e2 e3 e4 e5 hixa;rw [hzW] at X
 have hgZ:w.heap.size < w.heap.size+1:=by omega
 have hgZ2:w.heap.size+1≤W.heap.size:=by omega
 clear hzW hzW2
 generalize w.heap.size+1=gM at X hgZ hgZ2 ⊢
 go_wp2_with fail
 go_loopg [6] n (fun gk ix wr=>∃ (m j:Nat) (P:PV),Hid (gk+m=n+1∧m≤n)∧ix=.int .i64 (m:Int)∧Hid (1≤m)∧Hid (j < m)∧Hid (L[j]?=some P)∧B6 wr gM (.bool P.s) (.slice P.A P.n P.c) (.slice P.B P.m P.d) (.bool P.t) (.slice P.E P.i P.e) (.slice P.F P.j P.f)∧Hid (∀ i,i < m→∀ u v:Rat × Rat,l[i]?=some u→l[j]?=some v→v.2≤u.2)∧B6 wr w.heap.size (.bool false) (.slice none 0 0) (.slice none 0 0) (.bool false) (.slice none 0 0) (.slice none 0 0)∧Below w.heap.size w wr)
 case atStart =>
  refine ⟨1,0,(PV.mk s_p A_p n_p c_p B_p m_p d_p t_p E_p i_p e_p F_p j_p f_p),by have:=H0.out;exact ⟨by omega,by omega⟩,rfl,by show _≤_;decide,by show _ < _;decide,HP0.out,X,fun i hi u v h5 h6=>?_,Z,hb⟩
  obtain rfl:i=0:=by omega
  rw [h5] at h6;cases h6;exact Rat.le_refl
 case round =>
  clear X Z HP0 HU0
  obtain ⟨m,j,P,HG,rfl,HM1,HJ,HPj,X,HS,Z,hb⟩:=hrel
  obtain ⟨s_q,A_q,n_q,c_q,B_q,m_q,d_q,t_q,E_q,i_q,e_q,F_q,j_q,f_q⟩:=P
  replace X:B6 wr gM (.bool s_q) (.slice A_q n_q c_q) (.slice B_q m_q d_q) (.bool t_q) (.slice E_q i_q e_q) (.slice F_q j_q f_q):=X
  by_cases hmn:m < n
  · have HMN:=Lib.hid hmn
    obtain ⟨P,u,hP1,hu1,p⟩:=(E0.out.imp (fun p u h=>PR.below h hb)).at_ (i:=m) (by rw [HN.out];exact hmn)
    obtain ⟨Pj,v,hPj,hvj,q⟩:=(E0.out.imp (fun p u h=>PR.below h hb)).at_ (i:=j) (by have:=HJ.out;rw [HN.out];omega)
    rw [HPj.out] at hPj
    cases hPj
    obtain ⟨g1,o1,hix0,E,_⟩:=(HL0.out.below hb).pt hP1
    have hixa:∀ w',(Instr.indexAt 22 (.slice A n c) (.int .i64 (m:Int))).run Tryz.prog w'=.ok (.pointer (some ⟨g1,o1,none⟩)) w':=fun w'=>hix0 n c w' hmn
    have hlt:(m:Int) < (n:Int):=by omega
    have hwr:IntKind.i64.wrap ((m:Int)+1)=(m:Int)+1:=IntWalk.i64_in _ (by omega)
    have hg1:g1 ≠ gM:=fun e=>by
     obtain ⟨g2,o2,e2,h3,_⟩:=HL0.out (by rw [show (pvs L).length=L.length*6 from rows_length pvc_len L,HN.out];omega)
     have h5:=hix0 n c wr hmn;rw [e2] at h5
     have h6:=(SV.pt HL0.out hP1)
     obtain ⟨g3,o3,h7,h8,o4,h9⟩:=h6
     have h10:=h7 n c wr hmn;rw [e2] at h10;rw [h5] at h10
     cases h10
     have:=h8.lt
     omega
    have HU:=Lib.hid hu1;have HV:=Lib.hid hvj;have HPm:=Lib.hid hP1
    obtain ⟨ux,uy⟩:=u
    obtain ⟨vx,vy⟩:=v
    obtain ⟨s_p,A_p,n_p,c_p,B_p,m_p,d_p,t_p,E_p,i_p,e_p,F_p,j_p,f_p⟩:=P
    replace p:PR wr s_p A_p n_p c_p B_p m_p d_p t_p E_p i_p e_p F_p j_p f_p ux uy k:=p
    replace q:PR wr s_q A_q n_q c_q B_q m_q d_q t_q E_q i_q e_q F_q j_q f_q vx vy k:=q
    obtain ⟨K,hK⟩:∃ K,cmpQ uy vy=K:=⟨_,rfl⟩
    have HK:=Lib.hid hK;obtain ⟨e0,e1,e2,e3,e4,e5⟩:=E.all
    simp only at e0 e1 e2 e3 e4 e5
    clear hP1 hu1 hvj hix0 hmn hK
    go_upto_region 7 with (fail)
    replace p:=p.below (Below.refl _ _).drew
    replace q:=q.below (Below.refl _ _).drew
    replace E:=E.below (Below.refl _ _).drew
    replace X:=X.below (Below.refl _ _).drew
    replace Z:=Z.below (Below.refl _ _).drew
    replace hb:=hb.drew
    go_region_held3 (fun w'=>w'.cell? ⟨gM,0,none⟩=some (.bool s_q)∧w'.cell? ⟨gM,1,none⟩=some (.slice A_q n_q c_q)∧w'.cell? ⟨gM,2,none⟩=some (.slice B_q m_q d_q)∧w'.cell? ⟨gM,3,none⟩=some (.bool t_q)∧w'.cell? ⟨gM,4,none⟩=some (.slice E_q i_q e_q)∧w'.cell? ⟨gM,5,none⟩=some (.slice F_q j_q f_q)∧w'.cell? ⟨g1,o1,none⟩=some (.bool s_p)∧w'.cell? ⟨g1,o1+1,none⟩=some (.slice A_p n_p c_p)∧w'.cell? ⟨g1,o1+2,none⟩=some (.slice B_p m_p d_p)∧w'.cell? ⟨g1,o1+3,none⟩=some (.bool t_p)∧w'.cell? ⟨g1,o1+4,none⟩=some (.slice E_p i_p e_p)∧w'.cell? ⟨g1,o1+5,none⟩=some (.slice F_p j_p f_p))
     (first | with_reducible exact ⟨X.c0,X.c1,X.c2,X.c3,X.c4,X.c5,E.c0,E.c1,E.c2,E.c3,E.c4,E.c5⟩)
     (first
     | (go_at_call 38;(with_reducible refine (byY_p p q hk h1 K HK.out).mono ?_);rintro e w_z ⟨rfl,hh⟩
        (try replace p:=p.below hh);(try replace q:=q.below hh);(try replace E:=E.below hh);(try replace X:=X.below hh);(try replace Z:=Z.below hh);replace hb:=bend hb hh;obtain ⟨x0,x1,x2,x3,x4,x5⟩:=X.all;have xf0:=X.f0;have xf1:=X.f1;have xf2:=X.f2;have xf3:=X.f3;have xf4:=X.f4;have xf5:=X.f5;obtain ⟨e0,e1,e2,e3,e4,e5⟩:=E.all
        simp only at e0 e1 e2 e3 e4 e5))
    by_cases hK2:K < 0
    · have hlt2:uy < vy:=by rw [← HK.out] at hK2;exact cmpQ_lt.1 hK2
      have HLT:=Lib.hid hlt2;clear hlt2
      go_wp2_with fail
      have ho:=only6 w_z gM (.bool s_p) (.slice A_p n_p c_p) (.slice B_p m_p d_p) (.bool t_p) (.slice E_p i_p e_p) (.slice F_p j_p f_p)
      have X2:=X.set6 (.bool s_p) (.slice A_p n_p c_p) (.slice B_p m_p d_p) (.bool t_p) (.slice E_p i_p e_p) (.slice F_p j_p f_p)
      replace Z:=(ho.block _ Z.lt (by omega)).trans Z
      replace hb:=Below.only hb (by omega) hb.size ho
      clear X ho p q E x0 xf0 x1 xf1 x2 xf2 x3 xf3 x4 xf4 x5 xf5 e0 e1 e2 e3 e4 e5
      generalize ((((((w_z.setCell ⟨gM,0,none⟩ (.bool s_p)).setCell ⟨gM,1,none⟩ (.slice A_p n_p c_p)).setCell ⟨gM,2,none⟩ (.slice B_p m_p d_p)).setCell ⟨gM,3,none⟩ (.bool t_p)).setCell ⟨gM,4,none⟩ (.slice E_p i_p e_p)).setCell ⟨gM,5,none⟩ (.slice F_p j_p f_p))=W3 at *
      go_roundg (gk - 1)
      case measure=>have:=HG.out;have:=HMN.out;omega
      case rel =>
       refine ⟨m+1,m,(PV.mk s_p A_p n_p c_p B_p m_p d_p t_p E_p i_p e_p F_p j_p f_p),by have:=HG.out;have:=HMN.out;exact ⟨by omega,by omega⟩,by go_num,by show _≤_;omega,by show _ < _;omega,HPm.out,X2,fun i hi u v h5 h6=>?_,Z,hb⟩
       rw [HU.out] at h6
       cases h6
       rcases Nat.lt_or_ge i m with h | h
       · have:=HS.out i h u _ h5 HV.out
         have:=HLT.out
         grind
       · obtain rfl:i=m:=by omega
         rw [HU.out] at h5;cases h5;exact Rat.le_refl
    · have hlt2:vy≤uy:=by rw [← HK.out] at hK2;exact Rat.not_lt.1 (fun e=>hK2 (cmpQ_lt.2 e))
      have HLT:=Lib.hid hlt2;clear hlt2
      go_wp2_with fail
      go_roundg (gk - 1)
      case measure=>have:=HG.out;have:=HMN.out;omega
      case rel =>
       refine ⟨m+1,j,(PV.mk s_q A_q n_q c_q B_q m_q d_q t_q E_q i_q e_q F_q j_q f_q),by have:=HG.out;have:=HMN.out;exact ⟨by omega,by omega⟩,by go_num,by show _≤_;omega,by have:=HJ.out;show _ < _;omega,HPj.out,X,fun i hi u v h5 h6=>?_,Z,hb⟩
       rcases Nat.lt_or_ge i m with h | h
       · exact HS.out i h u v h5 h6
       · obtain rfl:i=m:=by omega
         rw [HU.out] at h5;rw [HV.out] at h6;cases h5;cases h6;exact HLT.out
  · have hlt:¬ (m:Int) < (n:Int):=by omega
    obtain rfl:m=n:=by have:=HG.out;omega
    obtain ⟨Pj,v,hPj,hvj,_⟩:=E0.out.at_ (i:=j) (by have:=HJ.out;rw [HN.out];omega)
    have HV:=Lib.hid hvj;clear hmn hPj hvj;obtain ⟨x0,x1,x2,x3,x4,x5⟩:=X.all;have zg0:=Z.f0;have zc0:=Z.c0;have zg1:=Z.f1;have zc1:=Z.c1;have zg2:=Z.f2;have zc2:=Z.c2;have zg3:=Z.f3;have zc3:=Z.c3;have zg4:=Z.f4;have zc4:=Z.c4;have zg5:=Z.f5;have zc5:=Z.c5
    go_wp2_with fail
    have Z2:=Z.set6 (.bool s_q) (.slice A_q n_q c_q) (.slice B_q m_q d_q) (.bool t_q) (.slice E_q i_q e_q) (.slice F_q j_q f_q)
    obtain ⟨g0,g1,g2,g3,g4,g5⟩:=Z2.all
    refine bodyPost_ret (v:=.agg #[.bool s_q,.slice A_q n_q c_q,.slice B_q m_q d_q,.bool t_q,.slice E_q i_q e_q,.slice F_q j_q f_q]) (by simp [results,Tryz.results36,go_sem,g0,g1,g2,g3,g4,g5]) rfl ?_
    refine ⟨j,(PV.mk s_q A_q n_q c_q B_q m_q d_q t_q E_q i_q e_q F_q j_q f_q),v,HPj.out,HV.out,fun i u h5=>HS.out i ?_ u v h5 HV.out,rfl,below_set6 hb (Nat.le_refl _) _ _ _ _ _ _⟩
    have h7:=(List.getElem?_eq_some_iff.1 h5).1
    rw [← E0.out.1,HN.out] at h7
    exact h7
def Gives_max_byX (w:World) (L:List PV) (l:List (Rat × Rat)) (e:Ending) (w':World):Prop:=∃ (j:Nat) (p:PV) (v:Rat × Rat),L[j]?=some p∧l[j]?=some v∧(∀ (i:Nat) (u:Rat × Rat),l[i]?=some u→u.1≤v.1)∧e=.returned (.agg #[.bool p.s,.slice p.A p.n p.c,.slice p.B p.m p.d,.bool p.t,.slice p.E p.i p.e,.slice p.F p.j p.f])∧Below w.heap.size w w'
theorem max_byX {A:Option Addr} {n c k:Nat} {L:List PV} {l:List (Rat × Rat)} (hL:SV w A (pvs L)) (hE:Each PV.PR w L l k) (hn:L.length=n) (h0:0 < n) (hm:n≤1000) (hnc:n≤c) (h1:1≤k) (hk:k≤400) :
 Calls Tryz.prog 39 #[.slice A n c,.func (.func 37) #[] #[]] w (Gives_max_byX w L l):=by
 have HN:=Lib.hid hn;have HL0:=Lib.hid hL;have E0:=Lib.hid hE;have H0:=Lib.hid h0
 obtain ⟨P,u,hP1,hu1,p⟩:=hE.at_ (i:=0) (by rw [hn];exact h0)
 obtain ⟨g0,o0,hix0,E,_⟩:=hL.pt hP1
 have hixa:∀ w',(Instr.indexAt 22 (.slice A n c) (.int .i64 0)).run Tryz.prog w'=.ok (.pointer (some ⟨g0,o0,none⟩)) w':=fun w'=>hix0 n c w' h0
 have h4:¬ (n:Int) < 1:=by omega
 have HP0:=Lib.hid hP1;have HU0:=Lib.hid hu1
 obtain ⟨s_p,A_p,n_p,c_p,B_p,m_p,d_p,t_p,E_p,i_p,e_p,F_p,j_p,f_p⟩:=P
 clear hix0 hP1 hu1 p hL hE
 go_enter Tryz.func39,Tryz.ntmps39
 go_upto_region 1 with (fail)
 generalize hW:World.alloc _ _=W
 obtain ⟨hb,Z,hzW⟩:=mkbx18_10 hW;clear hW;replace E:=E.below hb;obtain ⟨e0,e1,e2,e3,e4,e5⟩:=E.all
 simp only at e0 e1 e2 e3 e4 e5
 go_upto_region 4 with (fail)
 generalize hW:World.alloc _ _=W2
 obtain ⟨hh,X,hzW2⟩:=mkbx18_10 hW;clear hW;(try replace Z:=Z.below hh);replace hb:=bend hb hh;clear E e0 e1 e2 e3 e4 e5 hixa;rw [hzW] at X
 have hgZ:w.heap.size < w.heap.size+1:=by omega
 have hgZ2:w.heap.size+1≤W.heap.size:=by omega
 clear hzW hzW2
 generalize w.heap.size+1=gM at X hgZ hgZ2 ⊢
 go_wp2_with fail
 go_loopg [6] n (fun gk ix wr=>∃ (m j:Nat) (P:PV),Hid (gk+m=n+1∧m≤n)∧ix=.int .i64 (m:Int)∧Hid (1≤m)∧Hid (j < m)∧Hid (L[j]?=some P)∧B6 wr gM (.bool P.s) (.slice P.A P.n P.c) (.slice P.B P.m P.d) (.bool P.t) (.slice P.E P.i P.e) (.slice P.F P.j P.f)∧Hid (∀ i,i < m→∀ u v:Rat × Rat,l[i]?=some u→l[j]?=some v→u.1≤v.1)∧B6 wr w.heap.size (.bool false) (.slice none 0 0) (.slice none 0 0) (.bool false) (.slice none 0 0) (.slice none 0 0)∧Below w.heap.size w wr)
 case atStart =>
  refine ⟨1,0,(PV.mk s_p A_p n_p c_p B_p m_p d_p t_p E_p i_p e_p F_p j_p f_p),by have:=H0.out;exact ⟨by omega,by omega⟩,rfl,by show _≤_;decide,by show _ < _;decide,HP0.out,X,fun i hi u v h5 h6=>?_,Z,hb⟩
  obtain rfl:i=0:=by omega
  rw [h5] at h6;cases h6;exact Rat.le_refl
 case round =>
  clear X Z HP0 HU0
  obtain ⟨m,j,P,HG,rfl,HM1,HJ,HPj,X,HS,Z,hb⟩:=hrel
  obtain ⟨s_q,A_q,n_q,c_q,B_q,m_q,d_q,t_q,E_q,i_q,e_q,F_q,j_q,f_q⟩:=P
  replace X:B6 wr gM (.bool s_q) (.slice A_q n_q c_q) (.slice B_q m_q d_q) (.bool t_q) (.slice E_q i_q e_q) (.slice F_q j_q f_q):=X
  by_cases hmn:m < n
  · have HMN:=Lib.hid hmn
    obtain ⟨P,u,hP1,hu1,p⟩:=(E0.out.imp (fun p u h=>PR.below h hb)).at_ (i:=m) (by rw [HN.out];exact hmn)
    obtain ⟨Pj,v,hPj,hvj,q⟩:=(E0.out.imp (fun p u h=>PR.below h hb)).at_ (i:=j) (by have:=HJ.out;rw [HN.out];omega)
    rw [HPj.out] at hPj
    cases hPj
    obtain ⟨g1,o1,hix0,E,_⟩:=(HL0.out.below hb).pt hP1
    have hixa:∀ w',(Instr.indexAt 22 (.slice A n c) (.int .i64 (m:Int))).run Tryz.prog w'=.ok (.pointer (some ⟨g1,o1,none⟩)) w':=fun w'=>hix0 n c w' hmn
    have hlt:(m:Int) < (n:Int):=by omega
    have hwr:IntKind.i64.wrap ((m:Int)+1)=(m:Int)+1:=IntWalk.i64_in _ (by omega)
    have hg1:g1 ≠ gM:=fun e=>by
     obtain ⟨g2,o2,e2,h3,_⟩:=HL0.out (by rw [show (pvs L).length=L.length*6 from rows_length pvc_len L,HN.out];omega)
     have h5:=hix0 n c wr hmn;rw [e2] at h5
     have h6:=(SV.pt HL0.out hP1)
     obtain ⟨g3,o3,h7,h8,o4,h9⟩:=h6
     have h10:=h7 n c wr hmn;rw [e2] at h10;rw [h5] at h10
     cases h10
     have:=h8.lt
     omega
    have HU:=Lib.hid hu1;have HV:=Lib.hid hvj;have HPm:=Lib.hid hP1
    obtain ⟨ux,uy⟩:=u
    obtain ⟨vx,vy⟩:=v
    obtain ⟨s_p,A_p,n_p,c_p,B_p,m_p,d_p,t_p,E_p,i_p,e_p,F_p,j_p,f_p⟩:=P
    replace p:PR wr s_p A_p n_p c_p B_p m_p d_p t_p E_p i_p e_p F_p j_p f_p ux uy k:=p
    replace q:PR wr s_q A_q n_q c_q B_q m_q d_q t_q E_q i_q e_q F_q j_q f_q vx vy k:=q
    obtain ⟨K,hK⟩:∃ K,cmpQ ux vx=K:=⟨_,rfl⟩
    have HK:=Lib.hid hK;obtain ⟨e0,e1,e2,e3,e4,e5⟩:=E.all
    simp only at e0 e1 e2 e3 e4 e5
    clear hP1 hu1 hvj hix0 hmn hK
    go_upto_region 7 with (fail)
    replace p:=p.below (Below.refl _ _).drew
    replace q:=q.below (Below.refl _ _).drew
    replace E:=E.below (Below.refl _ _).drew
    replace X:=X.below (Below.refl _ _).drew
    replace Z:=Z.below (Below.refl _ _).drew
    replace hb:=hb.drew
    go_region_held3 (fun w'=>w'.cell? ⟨gM,0,none⟩=some (.bool s_q)∧w'.cell? ⟨gM,1,none⟩=some (.slice A_q n_q c_q)∧w'.cell? ⟨gM,2,none⟩=some (.slice B_q m_q d_q)∧w'.cell? ⟨gM,3,none⟩=some (.bool t_q)∧w'.cell? ⟨gM,4,none⟩=some (.slice E_q i_q e_q)∧w'.cell? ⟨gM,5,none⟩=some (.slice F_q j_q f_q)∧w'.cell? ⟨g1,o1,none⟩=some (.bool s_p)∧w'.cell? ⟨g1,o1+1,none⟩=some (.slice A_p n_p c_p)∧w'.cell? ⟨g1,o1+2,none⟩=some (.slice B_p m_p d_p)∧w'.cell? ⟨g1,o1+3,none⟩=some (.bool t_p)∧w'.cell? ⟨g1,o1+4,none⟩=some (.slice E_p i_p e_p)∧w'.cell? ⟨g1,o1+5,none⟩=some (.slice F_p j_p f_p))
     (first | with_reducible exact ⟨X.c0,X.c1,X.c2,X.c3,X.c4,X.c5,E.c0,E.c1,E.c2,E.c3,E.c4,E.c5⟩)
     (first
     | (go_at_call 37;(with_reducible refine (byX_p p q hk h1 K HK.out).mono ?_);rintro e w_z ⟨rfl,hh⟩
        (try replace p:=p.below hh);(try replace q:=q.below hh);(try replace E:=E.below hh);(try replace X:=X.below hh);(try replace Z:=Z.below hh);replace hb:=bend hb hh;obtain ⟨x0,x1,x2,x3,x4,x5⟩:=X.all;have xf0:=X.f0;have xf1:=X.f1;have xf2:=X.f2;have xf3:=X.f3;have xf4:=X.f4;have xf5:=X.f5;obtain ⟨e0,e1,e2,e3,e4,e5⟩:=E.all
        simp only at e0 e1 e2 e3 e4 e5))
    by_cases hK2:0 < K
    · have hlt2:vx < ux:=by rw [← HK.out] at hK2;exact cmpQ_gt.1 hK2
      have HLT:=Lib.hid hlt2;clear hlt2
      go_wp2_with fail
      have ho:=only6 w_z gM (.bool s_p) (.slice A_p n_p c_p) (.slice B_p m_p d_p) (.bool t_p) (.slice E_p i_p e_p) (.slice F_p j_p f_p)
      have X2:=X.set6 (.bool s_p) (.slice A_p n_p c_p) (.slice B_p m_p d_p) (.bool t_p) (.slice E_p i_p e_p) (.slice F_p j_p f_p)
      replace Z:=(ho.block _ Z.lt (by omega)).trans Z
      replace hb:=Below.only hb (by omega) hb.size ho
      clear X ho p q E x0 xf0 x1 xf1 x2 xf2 x3 xf3 x4 xf4 x5 xf5 e0 e1 e2 e3 e4 e5
      generalize ((((((w_z.setCell ⟨gM,0,none⟩ (.bool s_p)).setCell ⟨gM,1,none⟩ (.slice A_p n_p c_p)).setCell ⟨gM,2,none⟩ (.slice B_p m_p d_p)).setCell ⟨gM,3,none⟩ (.bool t_p)).setCell ⟨gM,4,none⟩ (.slice E_p i_p e_p)).setCell ⟨gM,5,none⟩ (.slice F_p j_p f_p))=W3 at *
      go_roundg (gk - 1)
      case measure=>have:=HG.out;have:=HMN.out;omega
      case rel =>
       refine ⟨m+1,m,(PV.mk s_p A_p n_p c_p B_p m_p d_p t_p E_p i_p e_p F_p j_p f_p),by have:=HG.out;have:=HMN.out;exact ⟨by omega,by omega⟩,by go_num,by show _≤_;omega,by show _ < _;omega,HPm.out,X2,fun i hi u v h5 h6=>?_,Z,hb⟩
       rw [HU.out] at h6
       cases h6
       rcases Nat.lt_or_ge i m with h | h
       · have:=HS.out i h u _ h5 HV.out
         have:=HLT.out
         grind
       · obtain rfl:i=m:=by omega
         rw [HU.out] at h5;cases h5;exact Rat.le_refl
    · have hlt2:ux≤vx:=by rw [← HK.out] at hK2;exact Rat.not_lt.1 (fun e=>hK2 (cmpQ_gt.2 e))
      have HLT:=Lib.hid hlt2;clear hlt2
      go_wp2_with fail
      go_roundg (gk - 1)
      case measure=>have:=HG.out;have:=HMN.out;omega
      case rel =>
       refine ⟨m+1,j,(PV.mk s_q A_q n_q c_q B_q m_q d_q t_q E_q i_q e_q F_q j_q f_q),by have:=HG.out;have:=HMN.out;exact ⟨by omega,by omega⟩,by go_num,by show _≤_;omega,by have:=HJ.out;show _ < _;omega,HPj.out,X,fun i hi u v h5 h6=>?_,Z,hb⟩
       rcases Nat.lt_or_ge i m with h | h
       · exact HS.out i h u v h5 h6
       · obtain rfl:i=m:=by omega
         rw [HU.out] at h5;rw [HV.out] at h6;cases h5;cases h6;exact HLT.out
  · have hlt:¬ (m:Int) < (n:Int):=by omega
    obtain rfl:m=n:=by have:=HG.out;omega
    obtain ⟨Pj,v,hPj,hvj,_⟩:=E0.out.at_ (i:=j) (by have:=HJ.out;rw [HN.out];omega)
    have HV:=Lib.hid hvj;clear hmn hPj hvj;obtain ⟨x0,x1,x2,x3,x4,x5⟩:=X.all;have zg0:=Z.f0;have zc0:=Z.c0;have zg1:=Z.f1;have zc1:=Z.c1;have zg2:=Z.f2;have zc2:=Z.c2;have zg3:=Z.f3;have zc3:=Z.c3;have zg4:=Z.f4;have zc4:=Z.c4;have zg5:=Z.f5;have zc5:=Z.c5
    go_wp2_with fail
    have Z2:=Z.set6 (.bool s_q) (.slice A_q n_q c_q) (.slice B_q m_q d_q) (.bool t_q) (.slice E_q i_q e_q) (.slice F_q j_q f_q)
    obtain ⟨g0,g1,g2,g3,g4,g5⟩:=Z2.all
    refine bodyPost_ret (v:=.agg #[.bool s_q,.slice A_q n_q c_q,.slice B_q m_q d_q,.bool t_q,.slice E_q i_q e_q,.slice F_q j_q f_q]) (by simp [results,Tryz.results39,go_sem,g0,g1,g2,g3,g4,g5]) rfl ?_
    refine ⟨j,(PV.mk s_q A_q n_q c_q B_q m_q d_q t_q E_q i_q e_q F_q j_q f_q),v,HPj.out,HV.out,fun i u h5=>HS.out i ?_ u v h5 HV.out,rfl,below_set6 hb (Nat.le_refl _) _ _ _ _ _ _⟩
    have h7:=(List.getElem?_eq_some_iff.1 h5).1
    rw [← E0.out.1,HN.out] at h7
    exact h7
def Gives_max_byY (w:World) (L:List PV) (l:List (Rat × Rat)) (e:Ending) (w':World):Prop:=∃ (j:Nat) (p:PV) (v:Rat × Rat),L[j]?=some p∧l[j]?=some v∧(∀ (i:Nat) (u:Rat × Rat),l[i]?=some u→u.2≤v.2)∧e=.returned (.agg #[.bool p.s,.slice p.A p.n p.c,.slice p.B p.m p.d,.bool p.t,.slice p.E p.i p.e,.slice p.F p.j p.f])∧Below w.heap.size w w'
theorem max_byY {A:Option Addr} {n c k:Nat} {L:List PV} {l:List (Rat × Rat)} (hL:SV w A (pvs L)) (hE:Each PV.PR w L l k) (hn:L.length=n) (h0:0 < n) (hm:n≤1000) (hnc:n≤c) (h1:1≤k) (hk:k≤400) :
 Calls Tryz.prog 39 #[.slice A n c,.func (.func 38) #[] #[]] w (Gives_max_byY w L l):=by
 have HN:=Lib.hid hn;have HL0:=Lib.hid hL;have E0:=Lib.hid hE;have H0:=Lib.hid h0
 obtain ⟨P,u,hP1,hu1,p⟩:=hE.at_ (i:=0) (by rw [hn];exact h0)
 obtain ⟨g0,o0,hix0,E,_⟩:=hL.pt hP1
 have hixa:∀ w',(Instr.indexAt 22 (.slice A n c) (.int .i64 0)).run Tryz.prog w'=.ok (.pointer (some ⟨g0,o0,none⟩)) w':=fun w'=>hix0 n c w' h0
 have h4:¬ (n:Int) < 1:=by omega
 have HP0:=Lib.hid hP1;have HU0:=Lib.hid hu1
 obtain ⟨s_p,A_p,n_p,c_p,B_p,m_p,d_p,t_p,E_p,i_p,e_p,F_p,j_p,f_p⟩:=P
 clear hix0 hP1 hu1 p hL hE
 go_enter Tryz.func39,Tryz.ntmps39
 go_upto_region 1 with (fail)
 generalize hW:World.alloc _ _=W
 obtain ⟨hb,Z,hzW⟩:=mkbx18_10 hW;clear hW;replace E:=E.below hb;obtain ⟨e0,e1,e2,e3,e4,e5⟩:=E.all
 simp only at e0 e1 e2 e3 e4 e5
 go_upto_region 4 with (fail)
 generalize hW:World.alloc _ _=W2
 obtain ⟨hh,X,hzW2⟩:=mkbx18_10 hW;clear hW;(try replace Z:=Z.below hh);replace hb:=bend hb hh;clear E e0 e1 e2 e3 e4 e5 hixa;rw [hzW] at X
 have hgZ:w.heap.size < w.heap.size+1:=by omega
 have hgZ2:w.heap.size+1≤W.heap.size:=by omega
 clear hzW hzW2
 generalize w.heap.size+1=gM at X hgZ hgZ2 ⊢
 go_wp2_with fail
 go_loopg [6] n (fun gk ix wr=>∃ (m j:Nat) (P:PV),Hid (gk+m=n+1∧m≤n)∧ix=.int .i64 (m:Int)∧Hid (1≤m)∧Hid (j < m)∧Hid (L[j]?=some P)∧B6 wr gM (.bool P.s) (.slice P.A P.n P.c) (.slice P.B P.m P.d) (.bool P.t) (.slice P.E P.i P.e) (.slice P.F P.j P.f)∧Hid (∀ i,i < m→∀ u v:Rat × Rat,l[i]?=some u→l[j]?=some v→u.2≤v.2)∧B6 wr w.heap.size (.bool false) (.slice none 0 0) (.slice none 0 0) (.bool false) (.slice none 0 0) (.slice none 0 0)∧Below w.heap.size w wr)
 case atStart =>
  refine ⟨1,0,(PV.mk s_p A_p n_p c_p B_p m_p d_p t_p E_p i_p e_p F_p j_p f_p),by have:=H0.out;exact ⟨by omega,by omega⟩,rfl,by show _≤_;decide,by show _ < _;decide,HP0.out,X,fun i hi u v h5 h6=>?_,Z,hb⟩
  obtain rfl:i=0:=by omega
  rw [h5] at h6;cases h6;exact Rat.le_refl
 case round =>
  clear X Z HP0 HU0
  obtain ⟨m,j,P,HG,rfl,HM1,HJ,HPj,X,HS,Z,hb⟩:=hrel
  obtain ⟨s_q,A_q,n_q,c_q,B_q,m_q,d_q,t_q,E_q,i_q,e_q,F_q,j_q,f_q⟩:=P
  replace X:B6 wr gM (.bool s_q) (.slice A_q n_q c_q) (.slice B_q m_q d_q) (.bool t_q) (.slice E_q i_q e_q) (.slice F_q j_q f_q):=X
  by_cases hmn:m < n
  · have HMN:=Lib.hid hmn
    obtain ⟨P,u,hP1,hu1,p⟩:=(E0.out.imp (fun p u h=>PR.below h hb)).at_ (i:=m) (by rw [HN.out];exact hmn)
    obtain ⟨Pj,v,hPj,hvj,q⟩:=(E0.out.imp (fun p u h=>PR.below h hb)).at_ (i:=j) (by have:=HJ.out;rw [HN.out];omega)
    rw [HPj.out] at hPj
    cases hPj
    obtain ⟨g1,o1,hix0,E,_⟩:=(HL0.out.below hb).pt hP1
    have hixa:∀ w',(Instr.indexAt 22 (.slice A n c) (.int .i64 (m:Int))).run Tryz.prog w'=.ok (.pointer (some ⟨g1,o1,none⟩)) w':=fun w'=>hix0 n c w' hmn
    have hlt:(m:Int) < (n:Int):=by omega
    have hwr:IntKind.i64.wrap ((m:Int)+1)=(m:Int)+1:=IntWalk.i64_in _ (by omega)
    have hg1:g1 ≠ gM:=fun e=>by
     obtain ⟨g2,o2,e2,h3,_⟩:=HL0.out (by rw [show (pvs L).length=L.length*6 from rows_length pvc_len L,HN.out];omega)
     have h5:=hix0 n c wr hmn;rw [e2] at h5
     have h6:=(SV.pt HL0.out hP1)
     obtain ⟨g3,o3,h7,h8,o4,h9⟩:=h6
     have h10:=h7 n c wr hmn;rw [e2] at h10;rw [h5] at h10
     cases h10
     have:=h8.lt
     omega
    have HU:=Lib.hid hu1;have HV:=Lib.hid hvj;have HPm:=Lib.hid hP1
    obtain ⟨ux,uy⟩:=u
    obtain ⟨vx,vy⟩:=v
    obtain ⟨s_p,A_p,n_p,c_p,B_p,m_p,d_p,t_p,E_p,i_p,e_p,F_p,j_p,f_p⟩:=P
    replace p:PR wr s_p A_p n_p c_p B_p m_p d_p t_p E_p i_p e_p F_p j_p f_p ux uy k:=p
    replace q:PR wr s_q A_q n_q c_q B_q m_q d_q t_q E_q i_q e_q F_q j_q f_q vx vy k:=q
    obtain ⟨K,hK⟩:∃ K,cmpQ uy vy=K:=⟨_,rfl⟩
    have HK:=Lib.hid hK;obtain ⟨e0,e1,e2,e3,e4,e5⟩:=E.all
    simp only at e0 e1 e2 e3 e4 e5
    clear hP1 hu1 hvj hix0 hmn hK
    go_upto_region 7 with (fail)
    replace p:=p.below (Below.refl _ _).drew
    replace q:=q.below (Below.refl _ _).drew
    replace E:=E.below (Below.refl _ _).drew
    replace X:=X.below (Below.refl _ _).drew
    replace Z:=Z.below (Below.refl _ _).drew
    replace hb:=hb.drew
    go_region_held3 (fun w'=>w'.cell? ⟨gM,0,none⟩=some (.bool s_q)∧w'.cell? ⟨gM,1,none⟩=some (.slice A_q n_q c_q)∧w'.cell? ⟨gM,2,none⟩=some (.slice B_q m_q d_q)∧w'.cell? ⟨gM,3,none⟩=some (.bool t_q)∧w'.cell? ⟨gM,4,none⟩=some (.slice E_q i_q e_q)∧w'.cell? ⟨gM,5,none⟩=some (.slice F_q j_q f_q)∧w'.cell? ⟨g1,o1,none⟩=some (.bool s_p)∧w'.cell? ⟨g1,o1+1,none⟩=some (.slice A_p n_p c_p)∧w'.cell? ⟨g1,o1+2,none⟩=some (.slice B_p m_p d_p)∧w'.cell? ⟨g1,o1+3,none⟩=some (.bool t_p)∧w'.cell? ⟨g1,o1+4,none⟩=some (.slice E_p i_p e_p)∧w'.cell? ⟨g1,o1+5,none⟩=some (.slice F_p j_p f_p))
     (first | with_reducible exact ⟨X.c0,X.c1,X.c2,X.c3,X.c4,X.c5,E.c0,E.c1,E.c2,E.c3,E.c4,E.c5⟩)
     (first
     | (go_at_call 38;(with_reducible refine (byY_p p q hk h1 K HK.out).mono ?_);rintro e w_z ⟨rfl,hh⟩
        (try replace p:=p.below hh);(try replace q:=q.below hh);(try replace E:=E.below hh);(try replace X:=X.below hh);(try replace Z:=Z.below hh);replace hb:=bend hb hh;obtain ⟨x0,x1,x2,x3,x4,x5⟩:=X.all;have xf0:=X.f0;have xf1:=X.f1;have xf2:=X.f2;have xf3:=X.f3;have xf4:=X.f4;have xf5:=X.f5;obtain ⟨e0,e1,e2,e3,e4,e5⟩:=E.all
        simp only at e0 e1 e2 e3 e4 e5))
    by_cases hK2:0 < K
    · have hlt2:vy < uy:=by rw [← HK.out] at hK2;exact cmpQ_gt.1 hK2
      have HLT:=Lib.hid hlt2;clear hlt2
      go_wp2_with fail
      have ho:=only6 w_z gM (.bool s_p) (.slice A_p n_p c_p) (.slice B_p m_p d_p) (.bool t_p) (.slice E_p i_p e_p) (.slice F_p j_p f_p)
      have X2:=X.set6 (.bool s_p) (.slice A_p n_p c_p) (.slice B_p m_p d_p) (.bool t_p) (.slice E_p i_p e_p) (.slice F_p j_p f_p)
      replace Z:=(ho.block _ Z.lt (by omega)).trans Z
      replace hb:=Below.only hb (by omega) hb.size ho
      clear X ho p q E x0 xf0 x1 xf1 x2 xf2 x3 xf3 x4 xf4 x5 xf5 e0 e1 e2 e3 e4 e5
      generalize ((((((w_z.setCell ⟨gM,0,none⟩ (.bool s_p)).setCell ⟨gM,1,none⟩ (.slice A_p n_p c_p)).setCell ⟨gM,2,none⟩ (.slice B_p m_p d_p)).setCell ⟨gM,3,none⟩ (.bool t_p)).setCell ⟨gM,4,none⟩ (.slice E_p i_p e_p)).setCell ⟨gM,5,none⟩ (.slice F_p j_p f_p))=W3 at *
      go_roundg (gk - 1)
      case measure=>have:=HG.out;have:=HMN.out;omega
      case rel =>
       refine ⟨m+1,m,(PV.mk s_p A_p n_p c_p B_p m_p d_p t_p E_p i_p e_p F_p j_p f_p),by have:=HG.out;have:=HMN.out;exact ⟨by omega,by omega⟩,by go_num,by show _≤_;omega,by show _ < _;omega,HPm.out,X2,fun i hi u v h5 h6=>?_,Z,hb⟩
       rw [HU.out] at h6
       cases h6
       rcases Nat.lt_or_ge i m with h | h
       · have:=HS.out i h u _ h5 HV.out
         have:=HLT.out
         grind
       · obtain rfl:i=m:=by omega
         rw [HU.out] at h5;cases h5;exact Rat.le_refl
    · have hlt2:uy≤vy:=by rw [← HK.out] at hK2;exact Rat.not_lt.1 (fun e=>hK2 (cmpQ_gt.2 e))
      have HLT:=Lib.hid hlt2;clear hlt2
      go_wp2_with fail
      go_roundg (gk - 1)
      case measure=>have:=HG.out;have:=HMN.out;omega
      case rel =>
       refine ⟨m+1,j,(PV.mk s_q A_q n_q c_q B_q m_q d_q t_q E_q i_q e_q F_q j_q f_q),by have:=HG.out;have:=HMN.out;exact ⟨by omega,by omega⟩,by go_num,by show _≤_;omega,by have:=HJ.out;show _ < _;omega,HPj.out,X,fun i hi u v h5 h6=>?_,Z,hb⟩
       rcases Nat.lt_or_ge i m with h | h
       · exact HS.out i h u v h5 h6
       · obtain rfl:i=m:=by omega
         rw [HU.out] at h5;rw [HV.out] at h6;cases h5;cases h6;exact HLT.out
  · have hlt:¬ (m:Int) < (n:Int):=by omega
    obtain rfl:m=n:=by have:=HG.out;omega
    obtain ⟨Pj,v,hPj,hvj,_⟩:=E0.out.at_ (i:=j) (by have:=HJ.out;rw [HN.out];omega)
    have HV:=Lib.hid hvj;clear hmn hPj hvj;obtain ⟨x0,x1,x2,x3,x4,x5⟩:=X.all;have zg0:=Z.f0;have zc0:=Z.c0;have zg1:=Z.f1;have zc1:=Z.c1;have zg2:=Z.f2;have zc2:=Z.c2;have zg3:=Z.f3;have zc3:=Z.c3;have zg4:=Z.f4;have zc4:=Z.c4;have zg5:=Z.f5;have zc5:=Z.c5
    go_wp2_with fail
    have Z2:=Z.set6 (.bool s_q) (.slice A_q n_q c_q) (.slice B_q m_q d_q) (.bool t_q) (.slice E_q i_q e_q) (.slice F_q j_q f_q)
    obtain ⟨g0,g1,g2,g3,g4,g5⟩:=Z2.all
    refine bodyPost_ret (v:=.agg #[.bool s_q,.slice A_q n_q c_q,.slice B_q m_q d_q,.bool t_q,.slice E_q i_q e_q,.slice F_q j_q f_q]) (by simp [results,Tryz.results39,go_sem,g0,g1,g2,g3,g4,g5]) rfl ?_
    refine ⟨j,(PV.mk s_q A_q n_q c_q B_q m_q d_q t_q E_q i_q e_q F_q j_q f_q),v,HPj.out,HV.out,fun i u h5=>HS.out i ?_ u v h5 HV.out,rfl,below_set6 hb (Nat.le_refl _) _ _ _ _ _ _⟩
    have h7:=(List.getElem?_eq_some_iff.1 h5).1
    rw [← E0.out.1,HN.out] at h7
    exact h7
end
end Go.Proofs.YtlogpjeoapeojaaGreat
