/- FlatMore: part 14. -/
import Derived.Test.YtlpogecpdfdggaaGreatKFlatMore11
import Derived.Test.YtlpogecpdfdggaaGreatKFlatMore13
set_option linter.unusedVariables false
set_option maxRecDepth 100000
set_option maxHeartbeats 16000000
variable {w:Go.World}
namespace Go.Proofs.YtlpogecpdfdggaaGreat
section
open Go Go.RowKit
attribute [local go_sem ↓] open_LVH open_STH open_LVJ open_STJ
theorem BH.pushR {w w':World} {g:Nat} {v0 v1 v2 v3 v4 v5 v6 v7 v8:Value} {row:Option Nat} (h:BH w g v0 v1 v2 v3 v4 v5 v6 v7 v8) (hg:w.grownBy w' row) (hne:∀ k,row=some k→k ≠ g):BH w' g v0 v1 v2 v3 v4 v5 v6 v7 v8 :=
 (hg.block g h.lt (fun e=>hne g e.symm rfl)).trans h
theorem B6.pushR {w w':World} {g:Nat} {v0 v1 v2 v3 v4 v5:Value} {row:Option Nat} (h:B6 w g v0 v1 v2 v3 v4 v5) (hg:w.grownBy w' row) (hne:∀ k,row=some k→k ≠ g):B6 w' g v0 v1 v2 v3 v4 v5 :=
 (hg.block g h.lt (fun e=>hne g e.symm rfl)).trans h
def BQ (w:World) (g:Nat) (q:QV):Prop:=B3 w g (.bool q.s) (.slice q.A q.n q.c) (.slice q.B q.m q.d)
theorem BQ.b3 {g:Nat} {q:QV} (h:BQ w g q):B3 w g (.bool q.s) (.slice q.A q.n q.c) (.slice q.B q.m q.d):=h
theorem BQ.below {w w':World} {g:Nat} {q:QV} (h:BQ w g q) (hb:Below w.heap.size w w'):BQ w' g q:=B3.below h hb
theorem QV.G.qg {q:QV} {v:Rat} {k:Nat} (h:q.G w v k):Go.Proofs.YtlpogecpdfdggaaGreat.QG w q.s q.A q.n q.c q.B q.m q.d v k:=h
def fstH (V:List AH):AH:=V.headD ⟨0,0,0⟩
def lstH (V:List AH):AH:=V.getLastD ⟨0,0,0⟩
def midQ (V:List AH):List Rat:=((V.drop 1).take (V.length - 2)).map (AH.far (fstH V) (lstH V))
def gapQ (V:List AH):Rat:=topQ (V.map (AH.far (fstH V) (lstH V)))
theorem fst_get {V:List AH} (h:1≤V.length):V[0]?=some (fstH V):=by
 cases V with
 | nil=>simp at h
 | cons a V=>rfl
theorem lst_get {V:List AH} {l:Nat} (h:V.length=l+1):V[l]?=some (lstH V):=by
 have e:V.getLast?=V[l]?:=by rw [List.getLast?_eq_getElem?,h];rfl
 rw [← e,lstH,List.getLastD_eq_getLast?]
 cases hq:V.getLast? with
 | none=>rw [List.getLast?_eq_none_iff.1 hq] at h;simp at h
 | some v=>rfl
theorem mid_get {V:List AH} {j m:Nat} (h:V.length=m+2) (hj:j < m):(midQ V)[j]?=(V[j+1]?).map (AH.far (fstH V) (lstH V)):=by
 rw [midQ,List.getElem?_map,List.getElem?_take,if_pos (by omega),List.getElem?_drop,Nat.add_comm]
theorem mid_length {V:List AH} {m:Nat} (h:V.length=m+2):(midQ V).length=m:=by
 rw [midQ,List.length_map,List.length_take,List.length_drop];omega
theorem gap_mid {V:List AH} (h:2≤V.length):topQ (midQ V)=gapQ V:=by
 obtain ⟨m,hm⟩:∃ m,V.length=m+2:=⟨V.length - 2,by omega⟩
 refine (topQ_same (fun v hv=>?_) fun v hv=>?_).symm
 · obtain ⟨i,hi⟩:=List.getElem?_of_mem hv
   have hl:=(List.getElem?_eq_some_iff.1 hi).1
   rw [List.length_map] at hl
   rw [List.getElem?_map] at hi
   rcases Nat.eq_zero_or_pos i with rfl | h0
   · rw [fst_get (by omega)] at hi
     left
     have:=Option.some.inj hi
     rw [← this];exact far_a _ _
   · rcases Nat.lt_or_ge i (m+1) with h1 | h1
     · right
       refine List.mem_of_getElem? (i:=i - 1) ?_
       rw [mid_get hm (by omega),show i - 1+1=i by omega];exact hi
     · left
       obtain rfl:i=m+1:=by omega
       rw [lst_get hm] at hi
       have:=Option.some.inj hi
       rw [← this];exact far_b _ _
 · obtain ⟨u,hu,rfl⟩:=List.mem_map.1 hv
   exact List.mem_map.2 ⟨u,List.mem_of_mem_drop (List.mem_of_mem_take hu),rfl⟩
theorem take_step {α:Type} {l:List α} {j:Nat} {v:α} (h:l[j]?=some v):l.take (j+1)=l.take j ++ [v]:=by
 obtain ⟨hj,hv⟩:=List.getElem?_eq_some_iff.1 h
 rw [List.take_succ_eq_append_getElem hj,hv]
theorem fplace {k:Nat} {v:AH} {h:HV} (M:HR w h v k) (hk:k≤15000) (h1:1≤k) (h0:v.w ≠ 0) :
 Calls Tryz.prog 67 #[.agg #[.bool h.x.s,.slice h.x.A h.x.n h.x.c,.slice h.x.B h.x.m h.x.d,.bool h.y.s,.slice h.y.A h.y.n h.y.c,.slice h.y.B h.y.m h.y.d,.bool h.w.s,.slice h.w.A h.w.n h.w.c,.slice h.w.B h.w.m h.w.d]] w (GivesPt w v.px v.py (k+(1+k))):=by
 go_enter Tryz.func67,Tryz.ntmps67
 go_upto_region 1 with (fail)
 generalize hW:World.alloc _ _=W
 obtain ⟨hb,XA,Z,hzW⟩:=mkbx30_13 hW;clear hW;replace M:=M.below hb;have xal:=XA.ld
 go_upto_region 2 with (first
  | (go_at_call 19;(with_reducible refine (cpoint_p M hk h1 h0).mono ?_);rintro e w_q ⟨s_q,A_q,n_q,c_q,B_q,m_q,d_q,t_q,E_q,i_q,e_q,F_q,j_q,f_q,rfl,q,hh⟩
     (try replace M:=M.below hh);(try replace Z:=Z.below hh);replace hb:=bend hb hh))
 clear xal
 have XQ:=B6.new' w_q (Value.bool s_q) (Value.slice A_q n_q c_q) (Value.slice B_q m_q d_q) (Value.bool t_q) (Value.slice E_q i_q e_q) (Value.slice F_q j_q f_q) w_q.heap.size rfl
 have hh:Below w_q.heap.size w_q (w_q.alloc (Obj.cells #[Value.bool s_q,Value.slice A_q n_q c_q,Value.slice B_q m_q d_q,Value.bool t_q,Value.slice E_q i_q e_q,Value.slice F_q j_q f_q] 49)):=(Below.refl w_q.heap.size w_q).alloc (Nat.le_refl _) _
 generalize (w_q.alloc (Obj.cells #[Value.bool s_q,Value.slice A_q n_q c_q,Value.slice B_q m_q d_q,Value.bool t_q,Value.slice E_q i_q e_q,Value.slice F_q j_q f_q] 49))=W2 at *
 replace Z:=Z.below hh;replace q:=q.below hh;replace hb:=bend hb hh;clear hh;obtain ⟨xq0,xq1,xq2,xq3,xq4,xq5⟩:=XQ.all;have zg0:=Z.f0;have zg1:=Z.f1;have zg2:=Z.f2;have zg3:=Z.f3;have zg4:=Z.f4;have zg5:=Z.f5;obtain ⟨zc0,zc1,zc2,zc3,zc4,zc5⟩:=Z.all
 go_wp2_with fail
 have Z2:=Z.set6 (.bool s_q) (.slice A_q n_q c_q) (.slice B_q m_q d_q) (.bool t_q) (.slice E_q i_q e_q) (.slice F_q j_q f_q)
 obtain ⟨g0,g1,g2,g3,g4,g5⟩:=Z2.all
 refine bodyPost_ret (v:=.agg #[.bool s_q,.slice A_q n_q c_q,.slice B_q m_q d_q,.bool t_q,.slice E_q i_q e_q,.slice F_q j_q f_q]) (by simp [results,Tryz.results67,go_sem,g0,g1,g2,g3,g4,g5]) rfl ?_
 exact ⟨s_q,A_q,n_q,c_q,B_q,m_q,d_q,t_q,E_q,i_q,e_q,F_q,j_q,f_q,rfl,q.set6 Z _ _ _ _ _ _,below_set6 hb (by omega) _ _ _ _ _ _⟩
theorem run_ixh {e1:Operand→Value} {d1:Option Tmp} {y1:Nat} {pos:String} {af:Array Edge} {x1 x2:Operand} {A:Option Addr} {n c g o:Nat} {M:Int} (h:e1 x1=.slice A n c) (h2:e1 x2=.int .i64 M) (hx:∀ w',(Instr.indexAt 22 (.slice A n c) (.int .i64 M)).run Tryz.prog w'=.ok (.pointer (some ⟨g,o,none⟩)) w') :
 (execOp e1 ⟨d1,.indexAddr 22 x1 x2,y1,pos,af,none⟩).run Tryz.prog w=.ok (.value (.pointer (some ⟨g,o,none⟩))) w:=by
 have hx2:=hx w
 go_simp
theorem run_ldh {e1:Operand→Value} {d1:Option Tmp} {y1:Nat} {pos:String} {af:Array Edge} {x1:Operand} {g o:Nat} {p:HV} (h:e1 x1=.pointer (some ⟨g,o,none⟩)) (E:EH w g o p) :
 (execOp e1 ⟨d1,.load 55 x1,y1,pos,af,none⟩).run Tryz.prog w=.ok (.value (.agg #[.bool p.x.s,.slice p.x.A p.x.n p.x.c,.slice p.x.B p.x.m p.x.d,.bool p.y.s,.slice p.y.A p.y.n p.y.c,.slice p.y.B p.y.m p.y.d,.bool p.w.s,.slice p.w.A p.w.n p.w.c,.slice p.w.B p.w.m p.w.d])) w:=by
 have hl:=E.ldH
 go_simp
abbrev L_fends:List Nat:=[12,13,14,15,16,17,18,19,20,4,5]
def o0_fends:Oper:=⟨some 12,.move (.tmp 0),22, "flat.go:36",#[],none⟩
def o1_fends:Oper:=⟨some 13,.indexAddr 22 (.tmp 12) (.const (Value.int IntKind.i64 0)),0, "flat.go:36",#[⟨0,.data⟩],none⟩
def o2_fends:Oper:=⟨some 14,.load 55 (.tmp 13),55, "flat.go:36",#[⟨1,.data⟩],none⟩
def o3_fends:Oper:=⟨some 15,.call ⟨.value (.func 67),#[.tmp 14],#[55]⟩,49, "flat.go:36",#[⟨2,.data⟩],none⟩
def o4_fends:Oper:=⟨some 16,.move (.tmp 0),22, "flat.go:36",#[],none⟩
def o5_fends:Oper:=⟨some 17,.move (.tmp 3),3, "flat.go:36",#[],none⟩
def o6_fends:Oper:=⟨some 18,.indexAddr 22 (.tmp 16) (.tmp 17),0, "flat.go:36",#[⟨4,.data⟩,⟨5,.data⟩],none⟩
def o7_fends:Oper:=⟨some 19,.load 55 (.tmp 18),55, "flat.go:36",#[⟨6,.data⟩],none⟩
def o8_fends:Oper:=⟨some 20,.call ⟨.value (.func 67),#[.tmp 19],#[55]⟩,49, "flat.go:36",#[⟨7,.data⟩,⟨3,.chain⟩],none⟩
def o9_fends:Oper:=⟨some 4,.alloc 49,0, "flat.go:36",#[],none⟩
def o10_fends:Oper:=⟨some 5,.alloc 49,0, "flat.go:36",#[],none⟩
def o11_fends:Oper:=⟨none,.store 49 (.tmp 4) (.tmp 15),0, "flat.go:36",#[⟨9,.data⟩,⟨3,.data⟩,⟨8,.chain⟩,⟨0,.phase⟩,⟨1,.phase⟩,⟨2,.phase⟩,⟨3,.phase⟩,⟨4,.textOnly .lateStores⟩,⟨5,.textOnly .lateStores⟩,⟨6,.textOnly .lateStores⟩,⟨7,.textOnly .lateStores⟩,⟨8,.textOnly .lateStoresUnsure⟩,⟨9,.phase⟩,⟨10,.phase⟩],none⟩
def o12_fends:Oper:=⟨none,.store 49 (.tmp 5) (.tmp 20),0, "flat.go:36",#[⟨10,.data⟩,⟨8,.data⟩,⟨11,.chain⟩,⟨0,.phase⟩,⟨1,.phase⟩,⟨2,.phase⟩,⟨3,.phase⟩,⟨4,.phase⟩,⟨5,.phase⟩,⟨6,.phase⟩,⟨7,.phase⟩,⟨8,.phase⟩,⟨9,.phase⟩,⟨10,.phase⟩,⟨11,.phase⟩],none⟩
theorem rc_gesso_flat_place {e:Operand→Value} {x0:Operand} {d:Option Tmp} {y:Nat} {pos:String} {af:Array Edge} {u0:Value} (h0:e x0=u0) (hf:e (.func 67)=.func (.func 67) #[] #[]) :
 (execOp e ⟨d,.call ⟨.value (.func 67),#[x0],#[55]⟩,y,pos,af,none⟩).run Tryz.prog w=.ok (.enter 67 #[u0]) w:=by
 go_simp
def F_fends (A:Option Addr) (n:Nat) (c:Nat) (l:Nat) (ga:Nat) (oa:Nat) (gb:Nat) (ob:Nat) (k:Nat) (P:HV) (R:HV) (va:AH) (vb:AH) (sl:Nat):Value→World→Prop :=
 match sl with
 | 12=>fun x _=>x=Value.slice A n c
 | 13=>fun x _=>x=Value.pointer (some ⟨ga,oa,none⟩)
 | 14=>fun x _=>x=Value.agg #[.bool P.x.s,.slice P.x.A P.x.n P.x.c,.slice P.x.B P.x.m P.x.d,.bool P.y.s,.slice P.y.A P.y.n P.y.c,.slice P.y.B P.y.m P.y.d,.bool P.w.s,.slice P.w.A P.w.n P.w.c,.slice P.w.B P.w.m P.w.d]
 | 15=>VPG (va.px) (va.py) ((k+(1+k)))
 | 16=>fun x _=>x=Value.slice A n c
 | 17=>fun x _=>x=Value.int .i64 (l:Int)
 | 18=>fun x _=>x=Value.pointer (some ⟨gb,ob,none⟩)
 | 19=>fun x _=>x=Value.agg #[.bool R.x.s,.slice R.x.A R.x.n R.x.c,.slice R.x.B R.x.m R.x.d,.bool R.y.s,.slice R.y.A R.y.n R.y.c,.slice R.y.B R.y.m R.y.d,.bool R.w.s,.slice R.w.A R.w.n R.w.c,.slice R.w.B R.w.m R.w.d]
 | 20=>VPG (vb.px) (vb.py) ((k+(1+k)))
 | _=>fun _ _=>True
def B0_fends (k:Nat) (va:AH):BoxOp :=
 ⟨9,11,4,49,#[.bool false,.slice none 0 0,.slice none 0 0,.bool false,.slice none 0 0,.slice none 0 0],fun cs w=>∃ s A n c B m d t E i e F j f,cs=#[.bool s,.slice A n c,.slice B m d,.bool t,.slice E i e,.slice F j f]∧PG w s A n c B m d t E i e F j f (va.px) (va.py) ((k+(1+k)))⟩
def B1_fends (k:Nat) (vb:AH):BoxOp :=
 ⟨10,12,5,49,#[.bool false,.slice none 0 0,.slice none 0 0,.bool false,.slice none 0 0,.slice none 0 0],fun cs w=>∃ s A n c B m d t E i e F j f,cs=#[.bool s,.slice A n c,.slice B m d,.bool t,.slice E i e,.slice F j f]∧PG w s A n c B m d t E i e F j f (vb.px) (vb.py) ((k+(1+k)))⟩
theorem fends_region {id:Nat} {ac:Act} {Q:Exit→Act→World→Prop} {A:Option Addr} {n c l ga oa gb ob k:Nat} {P R:HV} {va vb:AH}
 (hsz:20 < ac.tmps.size) (e0:ac.eval (.tmp 0)=Value.slice A n c) (e3:ac.eval (.tmp 3)=Value.int .i64 (l:Int)) (EP:EH w ga oa P) (EQ:EH w gb ob R) (pa:HR w P va k) (pb:HR w R vb k) (hixa:∀ w',(Instr.indexAt 22 (.slice A n c) (.int .i64 0)).run Tryz.prog w'=.ok (.pointer (some ⟨ga,oa,none⟩)) w') (hixb:∀ w',(Instr.indexAt 22 (.slice A n c) (.int .i64 (l:Int))).run Tryz.prog w'=.ok (.pointer (some ⟨gb,ob,none⟩)) w') (hk:k≤15000) (h1:1≤k) (ha0:va.w ≠ 0) (hb0:vb.w ≠ 0)
 (hend:∀ (V:Nat→Value) (w':World) (g0:Nat) (s0:Bool) (A0:Option Addr) (n0:Nat) (c0:Nat) (B0:Option Addr) (m0:Nat) (d0:Nat) (t0:Bool) (E0:Option Addr) (i0:Nat) (e0:Nat) (F0:Option Addr) (j0:Nat) (f0:Nat) (g1:Nat) (s1:Bool) (A1:Option Addr) (n1:Nat) (c1:Nat) (B1:Option Addr) (m1:Nat) (d1:Nat) (t1:Bool) (E1:Option Addr) (i1:Nat) (e1:Nat) (F1:Option Addr) (j1:Nat) (f1:Nat),PG w' s0 A0 n0 c0 B0 m0 d0 t0 E0 i0 e0 F0 j0 f0 (va.px) (va.py) ((k+(1+k)))→B6 w' g0 (.bool s0) (.slice A0 n0 c0) (.slice B0 m0 d0) (.bool t0) (.slice E0 i0 e0) (.slice F0 j0 f0)→w.heap.size≤g0→V 4=.pointer (some ⟨g0,0,none⟩)→PG w' s1 A1 n1 c1 B1 m1 d1 t1 E1 i1 e1 F1 j1 f1 (vb.px) (vb.py) ((k+(1+k)))→B6 w' g1 (.bool s1) (.slice A1 n1 c1) (.slice B1 m1 d1) (.bool t1) (.slice E1 i1 e1) (.slice F1 j1 f1)→w.heap.size≤g1→V 5=.pointer (some ⟨g1,0,none⟩)→g1 ≠ g0→Below w.heap.size w w'→Q .normal (putAll ac [12,13,14,15,16,17,18,19,20,4,5] V) w') :
 (Code.region id #[o0_fends,o1_fends,o2_fends,o3_fends,o4_fends,o5_fends,o6_fends,o7_fends,o8_fends,o9_fends,o10_fends,o11_fends,o12_fends] true).wp Tryz.prog Q ac w:=by
 have hnd:L_fends.Nodup:=by decide
 have G:∀ (sv:Nat→Value) (t:Nat),t ∈ L_fends→t≤20→(putAll ac L_fends sv).eval (.tmp t)=sv t:=fun sv t ht h=>eval_putAll_mem (t:=t) L_fends ac hnd ht (Nat.lt_of_le_of_lt h hsz)
 have E0:∀ sv:Nat→Value,(putAll ac L_fends sv).eval (.tmp 0)=Value.slice A n c:=fun sv=>(eval_putAll_not (v:=sv) L_fends ac (show 0 ∉ _ by decide)).trans e0
 have E3:∀ sv:Nat→Value,(putAll ac L_fends sv).eval (.tmp 3)=Value.int .i64 (l:Int):=fun sv=>(eval_putAll_not (v:=sv) L_fends ac (show 3 ∉ _ by decide)).trans e3
 have NE:∀ t:Nat,(t ≠ 4∧t ≠ 5)→∀ p ∈ [B0_fends k va,B1_fends k vb],t ≠ p.tA:=by
  intro t ht p hp
  simp only [List.mem_cons,List.not_mem_nil,or_false] at hp
  rcases hp with rfl | rfl
  · exact ht.1
  · exact ht.2
 refine wp_region_flowsT L_fends [B0_fends k va,B1_fends k vb] (F_fends A n c l ga oa gb ob k P R va vb) (by kernel_rfl) (by kernel_rfl) rfl hnd ?_ ?_ ?_ ?_ ?_ ?_ ?_ ?_
 · intro p hp
   simp only [List.mem_cons,List.not_mem_nil,or_false] at hp
   rcases hp with rfl | rfl
   · refine ⟨⟨o9_fends,rfl,rfl,rfl,fun e w'=>run_alloc6⟩,⟨o11_fends,rfl,rfl,rfl,⟨9,.data⟩,by simp [o11_fends],rfl,rfl⟩,free6 _ _ _ _ _ _ _ _ _ _ _ _ _ _,?_,?_⟩
     · rintro cs w1 w2 ⟨s_,A_,n_,c_,B_,m_,d_,t_,E_,i_,e_,F_,j_,f_,rfl,h⟩ hb;exact ⟨s_,A_,n_,c_,B_,m_,d_,t_,E_,i_,e_,F_,j_,f_,rfl,h.below hb⟩
     · rintro T cs w1 w2 g c0 ⟨s_,A_,n_,c_,B_,m_,d_,t_,E_,i_,e_,F_,j_,f_,rfl,h⟩ hB ho;exact ⟨s_,A_,n_,c_,B_,m_,d_,t_,E_,i_,e_,F_,j_,f_,rfl,h.box hB ho⟩
   · refine ⟨⟨o10_fends,rfl,rfl,rfl,fun e w'=>run_alloc6⟩,⟨o12_fends,rfl,rfl,rfl,⟨10,.data⟩,by simp [o12_fends],rfl,rfl⟩,free6 _ _ _ _ _ _ _ _ _ _ _ _ _ _,?_,?_⟩
     · rintro cs w1 w2 ⟨s_,A_,n_,c_,B_,m_,d_,t_,E_,i_,e_,F_,j_,f_,rfl,h⟩ hb;exact ⟨s_,A_,n_,c_,B_,m_,d_,t_,E_,i_,e_,F_,j_,f_,rfl,h.below hb⟩
     · rintro T cs w1 w2 g c0 ⟨s_,A_,n_,c_,B_,m_,d_,t_,E_,i_,e_,F_,j_,f_,rfl,h⟩ hB ho;exact ⟨s_,A_,n_,c_,B_,m_,d_,t_,E_,i_,e_,F_,j_,f_,rfl,h.box hB ho⟩
 · intro p hp q hq h
   simp only [List.mem_cons,List.not_mem_nil,or_false] at hp hq
   rcases hp with rfl | rfl <;> rcases hq with rfl | rfl
   · rfl
   · exact absurd (show (4:Nat)=5 from h) (by decide)
   · exact absurd (show (5:Nat)=4 from h) (by decide)
   · rfl
 · intro p hp q hq h
   simp only [List.mem_cons,List.not_mem_nil,or_false] at hp hq
   rcases hp with rfl | rfl <;> rcases hq with rfl | rfl
   · rfl
   · exact absurd (show (11:Nat)=12 from h) (by decide)
   · exact absurd (show (12:Nat)=11 from h) (by decide)
   · rfl
 · intro i o h1 h2
   match i,h1 with
   | 0,h1=>cases h1;cases h2
   | 1,h1=>cases h1;cases h2
   | 2,h1=>cases h1;cases h2
   | 3,h1=>cases h1;cases h2
   | 4,h1=>cases h1;cases h2
   | 5,h1=>cases h1;cases h2
   | 6,h1=>cases h1;cases h2
   | 7,h1=>cases h1;cases h2
   | 8,h1=>cases h1;cases h2
   | 9,h1=>cases h1;cases h2
   | 10,h1=>cases h1;cases h2
   | 11,h1=>exact ⟨B0_fends k va,List.Mem.head _,rfl⟩
   | 12,h1=>exact ⟨B1_fends k vb,List.Mem.tail _ (List.Mem.head _),rfl⟩
   | i+13,h1=>cases h1
 · intro t
   unfold F_fends
   split <;> first | exact (stays_eq _).inn _ | exact (stays_q _ _).inn _ | exact (stays_z _ _).inn _ | exact (stays_r _ _).inn _ | exact (stays_rq _ _).inn _ | exact (stays_pg _ _ _).inn _ | exact (stays_true).inn _
 · intro i o t sv w' ho hia hd J0 hf
   have EP:=EP.below J0;have EQ:=EQ.below J0;have pa:=pa.below J0;have pb:=pb.below J0
   match i,ho with
   | 0,ho =>
     obtain rfl:o0_fends=o:=Option.some.inj ho
     cases hd
     refine wpOp_plain' (o:=o0_fends) rfl rfl ?_
     unfold Oper.wp o0_fends
     rw [run_move (E0 sv),Oper.upon_value]
     exact ⟨_,rfl,Below.refl _ _,rfl⟩
   | 1,ho =>
     obtain rfl:o1_fends=o:=Option.some.inj ho
     cases hd
     have f12:sv 12=Value.slice A n c:=hf ⟨0,.data⟩ (by simp [o1_fends]) rfl _ 12 rfl rfl (NE _ (by decide))
     refine wpOp_plain' (o:=o1_fends) rfl rfl ?_
     unfold Oper.wp o1_fends
     rw [run_ixh ((G sv 12 (by decide) (by decide)).trans f12) (show (putAll ac L_fends sv).eval (.const (Value.int IntKind.i64 0))=(Value.int IntKind.i64 0) from rfl) hixa,Oper.upon_value]
     exact ⟨_,rfl,Below.refl _ _,rfl⟩
   | 2,ho =>
     obtain rfl:o2_fends=o:=Option.some.inj ho
     cases hd
     have f13:sv 13=Value.pointer (some ⟨ga,oa,none⟩):=hf ⟨1,.data⟩ (by simp [o2_fends]) rfl _ 13 rfl rfl (NE _ (by decide))
     refine wpOp_plain' (o:=o2_fends) rfl rfl ?_
     unfold Oper.wp o2_fends
     rw [run_ldh ((G sv 13 (by decide) (by decide)).trans f13) EP,Oper.upon_value]
     exact ⟨_,rfl,Below.refl _ _,rfl⟩
   | 3,ho =>
     obtain rfl:o3_fends=o:=Option.some.inj ho
     cases hd
     have f14:sv 14=Value.agg #[.bool P.x.s,.slice P.x.A P.x.n P.x.c,.slice P.x.B P.x.m P.x.d,.bool P.y.s,.slice P.y.A P.y.n P.y.c,.slice P.y.B P.y.m P.y.d,.bool P.w.s,.slice P.w.A P.w.n P.w.c,.slice P.w.B P.w.m P.w.d]:=hf ⟨2,.data⟩ (by simp [o3_fends]) rfl _ 14 rfl rfl (NE _ (by decide))
     refine wpOp_plain' (o:=o3_fends) rfl rfl ?_
     unfold Oper.wp o3_fends
     rw [rc_gesso_flat_place ((G sv 14 (by decide) (by decide)).trans f14) rfl,Oper.upon_enter]
     refine (fplace pa hk h1 ha0).mono ?_
     rintro e w1 ⟨s_,A_,n_,c_,B_,m_,d_,t_,E_,i_,e_,F_,j_,f_,rfl,hq,hh⟩
     exact ⟨_,rfl,hh,s_,A_,n_,c_,B_,m_,d_,t_,E_,i_,e_,F_,j_,f_,rfl,hq⟩
   | 4,ho =>
     obtain rfl:o4_fends=o:=Option.some.inj ho
     cases hd
     refine wpOp_plain' (o:=o4_fends) rfl rfl ?_
     unfold Oper.wp o4_fends
     rw [run_move (E0 sv),Oper.upon_value]
     exact ⟨_,rfl,Below.refl _ _,rfl⟩
   | 5,ho =>
     obtain rfl:o5_fends=o:=Option.some.inj ho
     cases hd
     refine wpOp_plain' (o:=o5_fends) rfl rfl ?_
     unfold Oper.wp o5_fends
     rw [run_move (E3 sv),Oper.upon_value]
     exact ⟨_,rfl,Below.refl _ _,rfl⟩
   | 6,ho =>
     obtain rfl:o6_fends=o:=Option.some.inj ho
     cases hd
     have f16:sv 16=Value.slice A n c:=hf ⟨4,.data⟩ (by simp [o6_fends]) rfl _ 16 rfl rfl (NE _ (by decide))
     have f17:sv 17=Value.int .i64 (l:Int):=hf ⟨5,.data⟩ (by simp [o6_fends]) rfl _ 17 rfl rfl (NE _ (by decide))
     refine wpOp_plain' (o:=o6_fends) rfl rfl ?_
     unfold Oper.wp o6_fends
     rw [run_ixh ((G sv 16 (by decide) (by decide)).trans f16) ((G sv 17 (by decide) (by decide)).trans f17) hixb,Oper.upon_value]
     exact ⟨_,rfl,Below.refl _ _,rfl⟩
   | 7,ho =>
     obtain rfl:o7_fends=o:=Option.some.inj ho
     cases hd
     have f18:sv 18=Value.pointer (some ⟨gb,ob,none⟩):=hf ⟨6,.data⟩ (by simp [o7_fends]) rfl _ 18 rfl rfl (NE _ (by decide))
     refine wpOp_plain' (o:=o7_fends) rfl rfl ?_
     unfold Oper.wp o7_fends
     rw [run_ldh ((G sv 18 (by decide) (by decide)).trans f18) EQ,Oper.upon_value]
     exact ⟨_,rfl,Below.refl _ _,rfl⟩
   | 8,ho =>
     obtain rfl:o8_fends=o:=Option.some.inj ho
     cases hd
     have f19:sv 19=Value.agg #[.bool R.x.s,.slice R.x.A R.x.n R.x.c,.slice R.x.B R.x.m R.x.d,.bool R.y.s,.slice R.y.A R.y.n R.y.c,.slice R.y.B R.y.m R.y.d,.bool R.w.s,.slice R.w.A R.w.n R.w.c,.slice R.w.B R.w.m R.w.d]:=hf ⟨7,.data⟩ (by simp [o8_fends]) rfl _ 19 rfl rfl (NE _ (by decide))
     refine wpOp_plain' (o:=o8_fends) rfl rfl ?_
     unfold Oper.wp o8_fends
     rw [rc_gesso_flat_place ((G sv 19 (by decide) (by decide)).trans f19) rfl,Oper.upon_enter]
     refine (fplace pb hk h1 hb0).mono ?_
     rintro e w1 ⟨s_,A_,n_,c_,B_,m_,d_,t_,E_,i_,e_,F_,j_,f_,rfl,hq,hh⟩
     exact ⟨_,rfl,hh,s_,A_,n_,c_,B_,m_,d_,t_,E_,i_,e_,F_,j_,f_,rfl,hq⟩
   | 9,ho=>cases ho;cases hd;exact absurd rfl (hia (B0_fends k va) (List.Mem.head _))
   | 10,ho=>cases ho;cases hd;exact absurd rfl (hia (B1_fends k vb) (List.Mem.tail _ (List.Mem.head _)))
   | 11,ho=>cases ho;cases hd
   | 12,ho=>cases ho;cases hd
   | i+13,ho=>cases ho
 · intro p hp os sv w' g hos J0 p1 p3 hf
   simp only [List.mem_cons,List.not_mem_nil,or_false] at hp
   rcases hp with rfl | rfl
   · obtain rfl:o11_fends=os:=Option.some.inj hos
     have h1:VPG (va.px) (va.py) ((k+(1+k))) (sv 15) w':=hf ⟨3,.data⟩ (by simp [o11_fends]) rfl _ 15 rfl rfl (NE _ (by decide))
     rw [← G sv 15 (by decide) (by decide)] at h1
     refine store_pg (x:=va.px) (y:=va.py) (k:=(k+(1+k))) (ac:=putAll ac L_fends sv) (z:=.tmp 15) ?_ ?_ ?_
     · exact (G sv 4 (by decide) (by decide)).trans p1
     · exact h1
     · exact p3
   · obtain rfl:o12_fends=os:=Option.some.inj hos
     have h1:VPG (vb.px) (vb.py) ((k+(1+k))) (sv 20) w':=hf ⟨8,.data⟩ (by simp [o12_fends]) rfl _ 20 rfl rfl (NE _ (by decide))
     rw [← G sv 20 (by decide) (by decide)] at h1
     refine store_pg (x:=vb.px) (y:=vb.py) (k:=(k+(1+k))) (ac:=putAll ac L_fends sv) (z:=.tmp 20) ?_ ?_ ?_
     · exact (G sv 5 (by decide) (by decide)).trans p1
     · exact h1
     · exact p3
 · intro sv w' J0 hF hB hap
   obtain ⟨g0,cs0,p0,r0,b0,⟨s0,A0,n0,c0,B0,m0,d0,t0,E0,i0,e0,F0,j0,f0,rfl,h0⟩⟩:=hB (B0_fends k va) (List.Mem.head _)
   obtain ⟨g1,cs1,p1,r1,b1,⟨s1,A1,n1,c1,B1,m1,d1,t1,E1,i1,e1,F1,j1,f1,rfl,h1⟩⟩:=hB (B1_fends k vb) (List.Mem.tail _ (List.Mem.head _))
   have p0':sv 4=.pointer (some ⟨g0,0,none⟩):=p0
   have p1':sv 5=.pointer (some ⟨g1,0,none⟩):=p1
   exact hend sv w' g0 _ _ _ _ _ _ _ _ _ _ _ _ _ _ g1 _ _ _ _ _ _ _ _ _ _ _ _ _ _ h0 b0.at_ r0 p0' h1 b1.at_ r1 p1' (fun q=>hap (B1_fends k vb) (List.Mem.tail _ (List.Mem.head _)) (B0_fends k va) (List.Mem.head _) (show (5:Nat) ≠ 4 by decide) (by rw [show (B1_fends k vb).tA=5 from rfl,show (B0_fends k va).tA=4 from rfl,p1',p0',q]))   J0
theorem fdist {A:Option Addr} {n c k:Nat} {L:List HV} {V:List AH} (hL:SV w A (hvs L)) (hE:EachH HR w L V k) (hn:L.length=n) (hnc:n≤c) (hk:k≤400) (h1:1≤k) (hG:GoodH V) :
 Calls Tryz.prog 30 #[.slice A n c] w (GivesQs w (0 :: midQ V) (12*((k+(1+k))+(k+(1+k)))+8*(k+(1+k))+40)):=by
 have HN:=Lib.hid hn
 have hvn:V.length=n:=hE.1.symm.trans hn
 obtain ⟨l,m,hl,hm⟩:∃ l m,n=l+1∧l=m+1:=⟨n - 1,n - 2,by have:=hG.1;omega,by have:=hG.1;omega⟩
 have hn4:n≤4:=by have:=hG.1;omega
 have HVm:Hid (V.length=m+2):=by show _=_;omega
 have HVl:Hid (V.length=l+1):=by show _=_;omega
 obtain ⟨P0,u0,hP0,hu0,p0⟩:=hE.at_ (i:=0) (by rw [hn];omega)
 obtain ⟨R0,v0,hR0,hv0,q0⟩:=hE.at_ (i:=l) (by rw [hn];omega)
 obtain ⟨ga,oa,hix0,E0,_⟩:=hL.ht hP0
 obtain ⟨gb,ob,hix1,E1,_⟩:=hL.ht hR0
 have hixa:∀ w',(Instr.indexAt 22 (.slice A n c) (.int .i64 0)).run Tryz.prog w'=.ok (.pointer (some ⟨ga,oa,none⟩)) w':=fun w'=>hix0 n c w' (by omega)
 have hixb:∀ w',(Instr.indexAt 22 (.slice A n c) (.int .i64 (l:Int))).run Tryz.prog w'=.ok (.pointer (some ⟨gb,ob,none⟩)) w':=fun w'=>hix1 n c w' (by omega)
 obtain ⟨A2,c2,hcut0,hS2⟩:=hL.midH (c:=c) hn hl hm hnc
 have hw0:u0.w ≠ 0:=by have:=hG.2 _ (List.mem_of_getElem? hu0);grind
 have hw1:v0.w ≠ 0:=by have:=hG.2 _ (List.mem_of_getElem? hv0);grind
 have HU0:Hid (u0=fstH V):=Option.some.inj (hu0.symm.trans (fst_get (by rw [HVm.out];omega)))
 have HV0:Hid (v0=lstH V):=Option.some.inj (hv0.symm.trans (lst_get HVl.out))
 have HW0:=Lib.hid hw0;have HW1:=Lib.hid hw1;have HG:=Lib.hid hG;have HLM:=Lib.hid hl;have HMM:=Lib.hid hm
 have hm2:m≤2:=by omega
 have hwl:IntKind.i64.wrap ((n:Int) - 1)=(l:Int):=by rw [IntWalk.i64_in _ (by omega)];omega
 have HS2:=Lib.hid hS2;have HE9:=Lib.hid hE
 have hb:Below w.heap.size w w:=Below.refl _ _
 have HL9:Hid (L.length=m+2):=by show _=_;omega
 clear hL hE hn hnc hG hvn hP0 hu0 hR0 hv0 hix0 hix1 hw0 hw1 hl hm hS2
 go_enter Tryz.func30,Tryz.ntmps30
 go_upto_region 2 with (fail)
 refine fends_region (by simp) rfl rfl E0 E1 p0 q0 hixa hixb (by omega) h1 HW0.out HW1.out ?_
 intro V1 w_s g_a s_a A_a n_a c_a B_a m_a d_a t_a E_a i_a e_a F_a j_a f_a g_b s_b A_b n_b c_b B_b m_b d_b t_b E_b i_b e_b F_b j_b f_b a XA hg_a hva b XB hg_b hvb hne hh
 simp only [putAll,Act.put,List.setIfInBounds_toArray,List.set_cons_zero,List.set_cons_succ,hva,hvb]
 clear hva hvb hne E0 E1 p0 q0 hixa hixb hg_a hg_b;replace hb:=bend hb hh
 have HS3:Hid (SV w_s A2 (hvs ((L.drop 1).take m))):=HS2.out.below hh
 have HE3:Hid (EachH HR w_s L V k):=HE9.out.belowR hh
 clear HS2 HE9 hh
 go_upto_region 4 with (first
  | (go_at_call 18;(with_reducible refine (rof_q 0 1 (by decide) (by decide) (by decide) (by decide) (by decide) _).mono ?_);rintro e w_z ⟨s_z,A_z,n_z,c_z,B_z,m_z,d_z,rfl,z,hh⟩
     (try replace a:=a.below hh);(try replace b:=b.below hh);(try replace XA:=XA.below hh);(try replace XB:=XB.below hh);replace hb:=bend hb hh
     replace HS3:=Lib.hid (HS3.out.below hh)
     replace HE3:=Lib.hid (HE3.out.belowR hh)))
 have hzq:Rat.divInt 0 1=0:=by decide +kernel
 rw [hzq] at z
 have LN0:=LnQ.lit (T:=27) (base:=w_z.heap.size) w_z [(⟨s_z,A_z,n_z,c_z,B_z,m_z,d_z⟩:QV)] (Nat.le_refl _) (by simp)
 have hh:Below w_z.heap.size w_z (w_z.alloc (Obj.cells (qvs [(⟨s_z,A_z,n_z,c_z,B_z,m_z,d_z⟩:QV)]).toArray 27)):=(Below.refl _ _).alloc (Nat.le_refl _) _
 have e9:(qvs [(⟨s_z,A_z,n_z,c_z,B_z,m_z,d_z⟩:QV)]).toArray=#[Value.bool s_z,Value.slice A_z n_z c_z,Value.slice B_z m_z d_z]:=rfl
 rw [e9] at LN0 hh
 clear e9
 have hga:g_a < w_z.heap.size:=XA.lt
 have hgb:g_b < w_z.heap.size:=XB.lt
 have HBz:Hid (w.heap.size≤w_z.heap.size):=hb.size
 have HB0:Hid (Below w.heap.size w w_z):=hb
 have HQ0:Hid (EachQ (w_z.alloc (Obj.cells #[Value.bool s_z,Value.slice A_z n_z c_z,Value.slice B_z m_z d_z] 27)) [(⟨s_z,A_z,n_z,c_z,B_z,m_z,d_z⟩:QV)] (0 :: (midQ V).take 0) (12*((k+(1+k))+(k+(1+k)))+8*(k+(1+k))+40)):=by
  refine ⟨rfl,fun i p u hp hu=>?_⟩
  match i,hp,hu with
  | 0,hp,hu =>
    cases hp;cases hu
    exact (z.below hh).more (by omega)
  | i+1,hp,hu=>cases hp
 have HH1:=Lib.hid hh
 generalize (w_z.alloc (Obj.cells #[Value.bool s_z,Value.slice A_z n_z c_z,Value.slice B_z m_z d_z] 27))=W1 at *
 have hcut:∀ w',(Instr.slice 22 (.slice A n c) (some (.int .i64 1)) (some (.int .i64 (l:Int))) none).run Tryz.prog w'=.ok (.slice A2 m c2) w':=hcut0
 clear hcut0 z hzq hb hh
 go_wp2_with fail
 have HXA:=Lib.hid XA;have HXB:=Lib.hid XB;have Ha:=Lib.hid a;have Hb:=Lib.hid b;have HLN:=Lib.hid LN0;clear XA XB a b LN0
 go_loopg [6,27] m (fun gk out ix wr=>∃ (M:List QV) (j:Nat),Hid (gk+j=m)∧ix=.int .i64 (j:Int)∧LnQ 27 w_z.heap.size wr out M∧Hid (EachQ wr M (0 :: (midQ V).take j) (12*((k+(1+k))+(k+(1+k)))+8*(k+(1+k))+40))∧Below w_z.heap.size w_z wr)
 case atStart=>exact ⟨_,0,Nat.add_zero _,rfl,HLN.out,HQ0.out,HH1.out⟩
 case round =>
  obtain ⟨M,j,HG9,rfl,LT,HQ,hB⟩:=hrel
  by_cases hjm:j < m
  · obtain ⟨P,u,hP1,hu1,p9⟩:=HE3.out.at_ (i:=j+1) (by rw [HL9.out];omega)
    have hP2:((L.drop 1).take m)[j]?=some P:=by rw [List.getElem?_take,if_pos hjm,List.getElem?_drop,Nat.add_comm];exact hP1
    obtain ⟨g0,o0,hix0,EP0,_⟩:=HS3.out.ht hP2
    have hixa:∀ w',(Instr.indexAt 22 (.slice A2 m c2) (.int .i64 (j:Int))).run Tryz.prog w'=.ok (.pointer (some ⟨g0,o0,none⟩)) w':=fun w'=>hix0 m c2 w' hjm
    have hlt:(j:Int) < (m:Int):=by omega
    have hwr:IntKind.i64.wrap ((j:Int)+1)=(j:Int)+1:=IntWalk.i64_in _ (by omega)
    have HWU:Hid (u.w ≠ 0):=by have:=HG.out.2 _ (List.mem_of_getElem? hu1);show _ ≠ _;grind
    have HMQ:Hid ((midQ V)[j]?=some (segQ u.px u.py u0.px u0.py v0.px v0.py)):=by
     show _=_
     rw [mid_get HVm.out hjm,hu1,HU0.out,HV0.out];rfl
    have hMl:M.length≤1000000:=by have:=HQ.out.1;rw [List.length_cons,List.length_take] at this;omega
    have HJM:=Lib.hid hjm
    have epl:=(EP0.below hB).ldH
    have p:=p9.below hB;have XA:=HXA.out.below hB;have XB:=HXB.out.below hB;have a:=Ha.out.below hB;have b:=Hb.out.below hB
    have hxh:∀ g,u6.ownBlock=some g→g ≠ wr.heap.size:=fun g e=>by have:=(LT.own.lt g e).2;omega
    have hxa:∀ g,u6.ownBlock=some g→g ≠ g_a:=fun g e=>by have:=(LT.own.lt g e).1;omega
    have hxb:∀ g,u6.ownBlock=some g→g ≠ g_b:=fun g e=>by have:=(LT.own.lt g e).1;omega
    clear hP1 hP2 hu1 hix0 hjm EP0 p9
    have zs:=st_newH wr (Value.bool P.x.s) (Value.slice P.x.A P.x.n P.x.c) (Value.slice P.x.B P.x.m P.x.d) (Value.bool P.y.s) (Value.slice P.y.A P.y.n P.y.c) (Value.slice P.y.B P.y.m P.y.d) (Value.bool P.w.s) (Value.slice P.w.A P.w.n P.w.c) (Value.slice P.w.B P.w.m P.w.d) (by simp [Value.oneCell'])
    go_upto_region 7 with (fail)
    clear zs
    have XH:=BH.new' wr (Value.bool P.x.s) (Value.slice P.x.A P.x.n P.x.c) (Value.slice P.x.B P.x.m P.x.d) (Value.bool P.y.s) (Value.slice P.y.A P.y.n P.y.c) (Value.slice P.y.B P.y.m P.y.d) (Value.bool P.w.s) (Value.slice P.w.A P.w.n P.w.c) (Value.slice P.w.B P.w.m P.w.d) wr.heap.size rfl
    have hh:Below wr.heap.size wr (wr.alloc (Obj.cells #[Value.bool P.x.s,Value.slice P.x.A P.x.n P.x.c,Value.slice P.x.B P.x.m P.x.d,Value.bool P.y.s,Value.slice P.y.A P.y.n P.y.c,Value.slice P.y.B P.y.m P.y.d,Value.bool P.w.s,Value.slice P.w.A P.w.n P.w.c,Value.slice P.w.B P.w.m P.w.d] 55)):=((Below.refl _ _).alloc (Nat.le_refl _) _)
    have hzs:(wr.alloc (Obj.cells #[Value.bool P.x.s,Value.slice P.x.A P.x.n P.x.c,Value.slice P.x.B P.x.m P.x.d,Value.bool P.y.s,Value.slice P.y.A P.y.n P.y.c,Value.slice P.y.B P.y.m P.y.d,Value.bool P.w.s,Value.slice P.w.A P.w.n P.w.c,Value.slice P.w.B P.w.m P.w.d] 55)).heap.size=wr.heap.size+1:=World.size_alloc _ _
    generalize (wr.alloc (Obj.cells #[Value.bool P.x.s,Value.slice P.x.A P.x.n P.x.c,Value.slice P.x.B P.x.m P.x.d,Value.bool P.y.s,Value.slice P.y.A P.y.n P.y.c,Value.slice P.y.B P.y.m P.y.d,Value.bool P.w.s,Value.slice P.w.A P.w.n P.w.c,Value.slice P.w.B P.w.m P.w.d] 55))=W3 at *
    replace LT:=LT.below hh;replace XA:=XA.below hh;replace XB:=XB.below hh;replace p:=p.below hh;replace a:=a.below hh;replace b:=b.below hh
    replace HQ:=Lib.hid (HQ.out.below hh)
    replace hB:=bend hB hh;clear hh epl
    replace LT:=LT.below (Below.refl _ _).drew
    replace XH:=XH.below (Below.refl _ _).drew
    replace XA:=XA.below (Below.refl _ _).drew
    replace XB:=XB.below (Below.refl _ _).drew
    replace p:=p.below (Below.refl _ _).drew
    replace a:=a.below (Below.refl _ _).drew
    replace b:=b.below (Below.refl _ _).drew
    replace HQ:=Lib.hid (EachQ.below HQ.out (Below.refl _ _).drew)
    replace hB:=hB.drew
    go_region_held3 (fun w'=>(LVH ⟨wr.heap.size,0,none⟩).run Tryz.prog w'=.ok (.agg #[.bool P.x.s,.slice P.x.A P.x.n P.x.c,.slice P.x.B P.x.m P.x.d,.bool P.y.s,.slice P.y.A P.y.n P.y.c,.slice P.y.B P.y.m P.y.d,.bool P.w.s,.slice P.w.A P.w.n P.w.c,.slice P.w.B P.w.m P.w.d]) w'∧w'.cell? ⟨g_a,0,none⟩=some (.bool s_a)∧w'.cell? ⟨g_a,1,none⟩=some (.slice A_a n_a c_a)∧w'.cell? ⟨g_a,2,none⟩=some (.slice B_a m_a d_a)∧w'.cell? ⟨g_a,3,none⟩=some (.bool t_a)∧w'.cell? ⟨g_a,4,none⟩=some (.slice E_a i_a e_a)∧w'.cell? ⟨g_a,5,none⟩=some (.slice F_a j_a f_a)∧w'.cell? ⟨g_b,0,none⟩=some (.bool s_b)∧w'.cell? ⟨g_b,1,none⟩=some (.slice A_b n_b c_b)∧w'.cell? ⟨g_b,2,none⟩=some (.slice B_b m_b d_b)∧w'.cell? ⟨g_b,3,none⟩=some (.bool t_b)∧w'.cell? ⟨g_b,4,none⟩=some (.slice E_b i_b e_b)∧w'.cell? ⟨g_b,5,none⟩=some (.slice F_b j_b f_b))
     (first | with_reducible exact ⟨XHb.ld,XAb.c0,XAb.c1,XAb.c2,XAb.c3,XAb.c4,XAb.c5,XBb.c0,XBb.c1,XBb.c2,XBb.c3,XBb.c4,XBb.c5⟩ | with_reducible exact ⟨XH.ld,XA.c0,XA.c1,XA.c2,XA.c3,XA.c4,XA.c5,XB.c0,XB.c1,XB.c2,XB.c3,XB.c4,XB.c5⟩ | exact ⟨(XH.below ((Below.refl _ _).alloc (Nat.le_refl _) _)).ld,(XA.below ((Below.refl _ _).alloc (Nat.le_refl _) _)).c0,(XA.below ((Below.refl _ _).alloc (Nat.le_refl _) _)).c1,(XA.below ((Below.refl _ _).alloc (Nat.le_refl _) _)).c2,(XA.below ((Below.refl _ _).alloc (Nat.le_refl _) _)).c3,(XA.below ((Below.refl _ _).alloc (Nat.le_refl _) _)).c4,(XA.below ((Below.refl _ _).alloc (Nat.le_refl _) _)).c5,(XB.below ((Below.refl _ _).alloc (Nat.le_refl _) _)).c0,(XB.below ((Below.refl _ _).alloc (Nat.le_refl _) _)).c1,(XB.below ((Below.refl _ _).alloc (Nat.le_refl _) _)).c2,(XB.below ((Below.refl _ _).alloc (Nat.le_refl _) _)).c3,(XB.below ((Below.refl _ _).alloc (Nat.le_refl _) _)).c4,(XB.below ((Below.refl _ _).alloc (Nat.le_refl _) _)).c5⟩)
     (first
     | (go_at_call 67;(with_reducible refine (fplace p (by omega) h1 HWU.out).mono ?_);rintro e w_q ⟨s_q,A_q,n_q,c_q,B_q,m_q,d_q,t_q,E_q,i_q,e_q,F_q,j_q,f_q,rfl,q,hh⟩
        (try replace LT:=LT.below hh);(try replace XH:=XH.below hh);(try replace XA:=XA.below hh);(try replace XB:=XB.below hh);(try replace p:=p.below hh);(try replace a:=a.below hh);(try replace b:=b.below hh)
        replace HQ:=Lib.hid (EachQ.below HQ.out hh)
        replace hB:=bend hB hh)
     | (go_at_call 21;(with_reducible refine (ptoseg_p q.pr a.pr b.pr (by omega) (by omega) (by omega) (by omega)).mono ?_);rintro e w_t ⟨s_t,A_t,n_t,c_t,B_t,m_t,d_t,rfl,t,hh⟩
        (try replace LT:=LT.below hh);(try replace XH:=XH.below hh);(try replace XA:=XA.below hh);(try replace XB:=XB.below hh);(try replace p:=p.below hh);(try replace a:=a.below hh);(try replace b:=b.below hh);(try replace q:=q.below hh)
        replace HQ:=Lib.hid (EachQ.below HQ.out hh)
        replace hB:=bend hB hh)
     | (have hal:Below w_t.heap.size w_t (w_t.alloc (Obj.cells #[Value.bool s_t,Value.slice A_t n_t c_t,Value.slice B_t m_t d_t] 27)):=((Below.refl _ _).alloc (Nat.le_refl _) _)
        have XHa:=XH.below hal;have XAa:=XA.below hal;have XBa:=XB.below hal
        refine step_pushQ Tryz.underlying67 info_rat (by rfl) _ _ (by rfl) (p:=(⟨s_t,A_t,n_t,c_t,B_t,m_t,d_t⟩:QV)) (k0:=1) (b:=w_t.heap.size) (by rfl) (by rfl) (LT.below hal) (by have h5:=hB.size;have h6:=hal.size;omega) hMl (heap_alloc_new w_t _) ?_
        intro v3 w3 hn3 hg3 ho3
        have XHb:=XHa.pushR hg3 hxh;have XAb:=XAa.pushR hg3 hxa;have XBb:=XBa.pushR hg3 hxb))
    have hE3:EachQ (w_t.alloc (Obj.cells #[Value.bool s_t,Value.slice A_t n_t c_t,Value.slice B_t m_t d_t] 27)) M (0 :: (midQ V).take j) (12*((k+(1+k))+(k+(1+k)))+8*(k+(1+k))+40):=EachQ.below HQ.out hal
    have hp3:((⟨s_t,A_t,n_t,c_t,B_t,m_t,d_t⟩:QV)).G (w_t.alloc (Obj.cells #[Value.bool s_t,Value.slice A_t n_t c_t,Value.slice B_t m_t d_t] 27)) (segQ u.px u.py u0.px u0.py v0.px v0.py) (12*((k+(1+k))+(k+(1+k)))+8*(k+(1+k))+40):=QG.below t hal
    have hB9:=LnQ.under (T:=27) (base:=w_z.heap.size) (LT.below hal) hg3 (w0:=w_z) (bend hB hal) (Nat.le_refl _)
    have hE4:=(hE3.imp (fun _ _ h=>(LT.below hal).qg hg3 h)).push (p:=(⟨s_t,A_t,n_t,c_t,B_t,m_t,d_t⟩:QV)) ((LT.below hal).qg hg3 hp3)
    rw [List.cons_append,← take_step HMQ.out] at hE4
    clear hE3 hp3 p t XH XA XB XHa XAa XBa XHb XAb XBb
    go_wp2_with fail
    go_roundg (gk - 1)
    case measure=>have:=HG9.out;have:=HJM.out;omega
    case rel=>exact ⟨M ++ [(⟨s_t,A_t,n_t,c_t,B_t,m_t,d_t⟩:QV)],j+1,by have:=HG9.out;have:=HJM.out;show _=_;omega,by go_num,hn3,Lib.hid hE4,hB9⟩
  · have hlt:¬ (j:Int) < (m:Int):=by omega
    have HQ2:Hid (EachQ wr M (0 :: midQ V) (12*((k+(1+k))+(k+(1+k)))+8*(k+(1+k))+40)):=by
     have h:=HQ.out
     rwa [List.take_of_length_le (by rw [mid_length HVm.out];omega)] at h
    have HB9:Hid (Below w.heap.size w wr):=bend HB0.out hB
    clear hjm
    go_wp2_with fail
    (try rw [Exit.noGoto_ret])
    go_ret
    exact ⟨_,M,rfl,LT.base_le HBz.out,HQ2.out,HB9.out⟩
end
section
open Go Go.RowKit
attribute [local go_sem ↓] open_LVH open_STH open_LVJ open_STJ
theorem fgreatest {A:Option Addr} {n c k:Nat} {L:List QV} {u0:Rat} {r:List Rat} (hL:SV w A (qvs L)) (hE:EachQ w L (u0 :: r) k) (hn:L.length=n) (hnc:n≤c) (hm:n≤1000) (hk:k≤40000) (h1:1≤k) :
 Calls Tryz.prog 29 #[.slice A n c,.func (.func 20) #[] #[]] w (GivesQ w (r.foldl maxQ u0) k):=by
 have HN:=Lib.hid hn
 obtain ⟨m,hnm⟩:∃ m,n=m+1:=⟨n - 1,by have:=hE.1;rw [hn,List.length_cons] at this;omega⟩
 have HRm:Hid (r.length=m):=by show _=_;have:=hE.1;rw [hn,List.length_cons] at this;omega
 obtain ⟨P0,v0,hP0,hv0,p0⟩:=hE.at_ (i:=0) (by rw [hn];omega)
 obtain rfl:u0=v0:=by simpa using hv0
 obtain ⟨g0,o0,hix0,E0,_⟩:=hL.qt hP0
 have hixa:∀ w',(Instr.indexAt 67 (.slice A n c) (.int .i64 0)).run Tryz.prog w'=.ok (.pointer (some ⟨g0,o0,none⟩)) w':=fun w'=>hix0 n c w' (by omega)
 obtain ⟨A2,c2,hcut0,hS2⟩:=hL.tailQ (c:=c) hn (by omega) hnc
 have hcut:∀ w',(Instr.slice 67 (.slice A n c) (some (.int .i64 1)) none none).run Tryz.prog w'=.ok (.slice A2 m c2) w':=by
  intro w';have:=hcut0 w';rwa [show n - 1=m by omega] at this
 have HS2:=Lib.hid hS2;have HE9:=Lib.hid hE;have HNM:=Lib.hid hnm
 have hm9:m≤1000:=by omega
 clear hL hE hn hnc hm hnm hP0 hv0 hix0 hcut0 hS2
 go_enter Tryz.func29,Tryz.ntmps29
 go_upto_region 1 with (fail)
 generalize hW:World.alloc _ _=W
 obtain ⟨hb,Z,hzW⟩:=mkbx9_8 hW;clear hW;replace p0:=p0.below hb;replace E0:=E0.below hb;obtain ⟨e0,e1,e2⟩:=E0.all
 go_upto_region 2 with (fail)
 have X5:BQ (W.alloc (Obj.cells #[Value.bool P0.s,Value.slice P0.A P0.n P0.c,Value.slice P0.B P0.m P0.d] 27)) (w.heap.size+1) P0:=B3.new' W (Value.bool P0.s) (Value.slice P0.A P0.n P0.c) (Value.slice P0.B P0.m P0.d) (w.heap.size+1) hzW.symm
 have hh:Below W.heap.size W (W.alloc (Obj.cells #[Value.bool P0.s,Value.slice P0.A P0.n P0.c,Value.slice P0.B P0.m P0.d] 27)):=(Below.refl _ _).alloc (Nat.le_refl _) _
 generalize (W.alloc (Obj.cells #[Value.bool P0.s,Value.slice P0.A P0.n P0.c,Value.slice P0.B P0.m P0.d] 27))=W2 at *
 generalize hg5:w.heap.size+1=g5 at X5 ⊢
 have hgz:w.heap.size < g5:=by omega
 clear hg5;replace Z:=Z.below hh;replace p0:=p0.below hh;replace hb:=bend hb hh;clear hh e0 e1 e2 E0 hixa hzW;have HX:=Lib.hid X5;have HZ:=Lib.hid Z;have HP:=Lib.hid p0;have HB:=Lib.hid hb;clear X5 Z p0 hb
 go_wp2_with fail
 go_loopg [14] m (fun gk ix wr=>∃ (j:Nat) (q:QV),Hid (gk+j=m)∧ix=.int .i64 (j:Int)∧Hid (BQ wr g5 q)∧Hid (q.G wr ((r.take j).foldl maxQ u0) k)∧Hid (B3 wr w.heap.size (.bool false) (.slice none 0 0) (.slice none 0 0))∧Below w.heap.size w wr)
 case atStart=>exact ⟨0,P0,Nat.add_zero _,rfl,HX.out,HP.out,HZ.out,HB.out⟩
 case round =>
  obtain ⟨j,q,HG9,rfl,HX,HQ,HZ,hb⟩:=hrel
  by_cases hjm:j < m
  · obtain ⟨P,v,hP1,hv1,p9⟩:=HE9.out.at_ (i:=j+1) (by rw [HN.out,HNM.out];omega)
    have hP2:(L.drop 1)[j]?=some P:=by rw [List.getElem?_drop,Nat.add_comm];exact hP1
    obtain ⟨g1,o1,hix1,E1,_⟩:=HS2.out.qt hP2
    have hixb:∀ w',(Instr.indexAt 67 (.slice A2 m c2) (.int .i64 (j:Int))).run Tryz.prog w'=.ok (.pointer (some ⟨g1,o1,none⟩)) w':=fun w'=>hix1 m c2 w' hjm
    have hlt:(j:Int) < (m:Int):=by omega
    have hwr:IntKind.i64.wrap ((j:Int)+1)=(j:Int)+1:=IntWalk.i64_in _ (by omega)
    have HV:Hid ((r.take (j+1)).foldl maxQ u0=maxQ ((r.take j).foldl maxQ u0) v):=by
     show _=_
     rw [List.getElem?_cons_succ] at hv1
     rw [take_step hv1,List.foldl_append];rfl
    have HJM:=Lib.hid hjm;have p:=p9.below hb
    have e0:=(E1.below hb).c0
    have e1:=(E1.below hb).c1
    have e2:=(E1.below hb).c2
    clear hP1 hP2 hv1 hix1 hjm E1 p9
    go_upto_region 5 with (fail)
    have X7:BQ (wr.alloc (Obj.cells #[Value.bool P.s,Value.slice P.A P.n P.c,Value.slice P.B P.m P.d] 27)) wr.heap.size P:=B3.new' wr (Value.bool P.s) (Value.slice P.A P.n P.c) (Value.slice P.B P.m P.d) wr.heap.size rfl
    have hh:Below wr.heap.size wr (wr.alloc (Obj.cells #[Value.bool P.s,Value.slice P.A P.n P.c,Value.slice P.B P.m P.d] 27)):=(Below.refl _ _).alloc (Nat.le_refl _) _
    have X5:=HX.out.below hh;have Z:=HZ.out.below hh
    have hgx:g5 ≠ wr.heap.size:=by have:=HX.out.b3.lt;omega
    have p:=p.below hh;have qq:=HQ.out.below hh;replace hb:=bend hb hh
    generalize (wr.alloc (Obj.cells #[Value.bool P.s,Value.slice P.A P.n P.c,Value.slice P.B P.m P.d] 27))=W3 at *
    generalize wr.heap.size=g7 at X7 hgx ⊢
    generalize hcu:(r.take j).foldl maxQ u0=cu at *
    have HCU:=Lib.hid hcu;clear hh e0 e1 e2 hixb HX HZ HQ hcu;have NX:=X5;have x50:=X5.b3.c0;have x51:=X5.b3.c1;have x52:=X5.b3.c2;have x70:=X7.b3.c0;have x71:=X7.b3.c1;have x72:=X7.b3.c2
    by_cases hc:cu < v
    · obtain ⟨K,hK,hK0⟩:∃ K,cmpQ v cu=K∧decide (0 < K)=true:=⟨_,rfl,decide_eq_true (cmpQ_gt0.2 hc)⟩
      have HK:=Lib.hid hK;have HC:=Lib.hid hc;clear hK hc
      have hK1:0 < K:=of_decide_eq_true hK0
      clear hK0
      go_upto_region 7 with (first
       | (go_at_call 20;(with_reducible refine (rcmp_q p.qg.qr qq.qg.qr hk hk (.inl hk) h1 h1).mono ?_);rintro e w_z ⟨rfl,hh⟩
          rw [HK.out];(try replace Z:=Z.below hh);(try replace p:=p.below hh);(try replace qq:=qq.below hh);(try replace X5:=X5.below hh);(try replace X7:=X7.below hh);replace hb:=bend hb hh;have x50:=X5.b3.c0;have xf0:=X5.b3.f0;have x70:=X7.b3.c0;have x51:=X5.b3.c1;have xf1:=X5.b3.f1;have x71:=X7.b3.c1;have x52:=X5.b3.c2;have xf2:=X5.b3.f2;have x72:=X7.b3.c2))
      have X9:BQ (((w_z.setCell ⟨g5,0,none⟩ (Value.bool P.s)).setCell ⟨g5,1,none⟩ (Value.slice P.A P.n P.c)).setCell ⟨g5,2,none⟩ (Value.slice P.B P.m P.d)) g5 P:=X5.b3.set3 _ _ _
      have p9:P.G (((w_z.setCell ⟨g5,0,none⟩ (Value.bool P.s)).setCell ⟨g5,1,none⟩ (Value.slice P.A P.n P.c)).setCell ⟨g5,2,none⟩ (Value.slice P.B P.m P.d)) v k:=QG.set3 p.qg X5.b3 _ _ _
      have ho:Only g5 w_z (((w_z.setCell ⟨g5,0,none⟩ (Value.bool P.s)).setCell ⟨g5,1,none⟩ (Value.slice P.A P.n P.c)).setCell ⟨g5,2,none⟩ (Value.slice P.B P.m P.d)):=only_set3 _ _ _ _ _
      have Z9:=Z.restm (show w.heap.size ≠ g5 by omega) ho
      have hb9:Below w.heap.size w (((w_z.setCell ⟨g5,0,none⟩ (Value.bool P.s)).setCell ⟨g5,1,none⟩ (Value.slice P.A P.n P.c)).setCell ⟨g5,2,none⟩ (Value.slice P.B P.m P.d)):=below_set3 hb (by omega) _ _ _
      generalize (((w_z.setCell ⟨g5,0,none⟩ (Value.bool P.s)).setCell ⟨g5,1,none⟩ (Value.slice P.A P.n P.c)).setCell ⟨g5,2,none⟩ (Value.slice P.B P.m P.d))=W9 at *
      have HX9:=Lib.hid X9;have HP9:=Lib.hid p9;have HZ9:=Lib.hid Z9;clear X5 X7 NX Z p qq hb X9 p9 ho Z9 x50 x51 x52 x70 x71 x72 xf0 xf1 xf2
      go_wp2_with fail
      go_roundg (gk - 1)
      case measure=>have:=HG9.out;have:=HJM.out;omega
      case rel=>exact ⟨j+1,P,by have:=HG9.out;have:=HJM.out;show _=_;omega,by go_num,HX9.out,by show QV.G _ _ _ _;rw [HV.out,maxQ,if_pos HC.out];exact HP9.out,HZ9.out,hb9⟩
    · obtain ⟨K,hK,hK0⟩:∃ K,cmpQ v cu=K∧decide (0 < K)=false:=⟨_,rfl,decide_eq_false (fun e=>hc (cmpQ_gt0.1 e))⟩
      have HK:=Lib.hid hK;have HC:=Lib.hid hc;clear hK hc
      have hK1:¬ 0 < K:=of_decide_eq_false hK0
      clear hK0
      go_wp2_with (first
       | (go_at_call 20;(with_reducible refine (rcmp_q p.qg.qr qq.qg.qr hk hk (.inl hk) h1 h1).mono ?_);rintro e w_z ⟨rfl,hh⟩
          rw [HK.out];(try replace Z:=Z.below hh);(try replace p:=p.below hh);(try replace qq:=qq.below hh);(try replace X5:=X5.below hh);(try replace X7:=X7.below hh);replace hb:=bend hb hh))
      go_roundg (gk - 1)
      case measure=>have:=HG9.out;have:=HJM.out;omega
      case rel=>exact ⟨j+1,q,by have:=HG9.out;have:=HJM.out;show _=_;omega,by go_num,X5,by show QV.G _ _ _ _;rw [HV.out,maxQ,if_neg HC.out];exact qq,Z,hb⟩
  · have hlt:¬ (j:Int) < (m:Int):=by omega
    have HQ2:Hid (q.G wr (r.foldl maxQ u0) k):=by
     have h:=HQ.out
     rwa [List.take_of_length_le (by rw [HRm.out];omega)] at h
    clear hjm;have X5:=HX.out.b3;have Z:=HZ.out;have x50:=X5.c0;have zf0:=Z.f0;have zc0:=Z.c0;have x51:=X5.c1;have zf1:=Z.f1;have zc1:=Z.c1;have x52:=X5.c2;have zf2:=Z.f2;have zc2:=Z.c2
    go_wp2_with fail
    have Z2:=Z.set3 (.bool q.s) (.slice q.A q.n q.c) (.slice q.B q.m q.d)
    obtain ⟨g0,g1,g2⟩:=Z2.all
    refine bodyPost_ret (v:=.agg #[.bool q.s,.slice q.A q.n q.c,.slice q.B q.m q.d]) (by simp [results,Tryz.results29,go_sem,g0,g1,g2]) rfl ?_
    exact ⟨q.s,q.A,q.n,q.c,q.B,q.m,q.d,rfl,QG.set3 HQ2.out.qg Z _ _ _,below_set3 hb (by omega) _ _ _⟩
def GivesQN (w:World) (x:Int) (en:Ending) (w':World):Prop:=en=.returned (.tuple #[.agg #[.bool false,.slice none 0 0,.slice none 0 0],.int .i64 x])∧Below w.heap.size w w'
theorem fgap_bad {A:Option Addr} {n c k:Nat} {L:List HV} {V:List AH} (hL:SV w A (hvs L)) (hE:EachH HR w L V k) (hn:L.length=n) (hk:k≤400) (h1:1≤k) (hG:¬ GoodH V) :
 Calls Tryz.prog 10 #[.slice A n c] w (GivesQN w 11):=by
 have HG:=Lib.hid hG;have HN:=Lib.hid hn;clear hG hn
 go_enter Tryz.func10,Tryz.ntmps10
 go_upto_region 1 with (fail)
 generalize hW:World.alloc _ _=W
 obtain ⟨hb,Z,hzW⟩:=mkbx9_8 hW;clear hW;replace hL:=hL.below hb;replace hE:=EachH.belowR hE hb
 go_wp2_with (first
  | (go_at_call 28;(with_reducible refine (cgood_any hL hE HN.out (by omega) h1 false ⟨fun e=>(by cases e),fun e=>absurd e HG.out⟩).mono ?_);rintro e w_z ⟨rfl,hh⟩
     (try replace Z:=Z.below hh);replace hb:=bend hb hh;have zf0:=Z.f0;have zc0:=Z.c0;have zf1:=Z.f1;have zc1:=Z.c1;have zf2:=Z.f2;have zc2:=Z.c2))
 have Z2:=Z.set3 (.bool false) (.slice none 0 0) (.slice none 0 0)
 obtain ⟨g0,g1,g2⟩:=Z2.all
 refine bodyPost_ret (v:=.tuple #[.agg #[.bool false,.slice none 0 0,.slice none 0 0],.int .i64 11]) (by rw [results_cell_tmp Tryz.results10];simp [go_sem,asAddr,Result.andThen,g0,g1,g2]) rfl ?_
 exact ⟨rfl,below_set3 hb (by omega) _ _ _⟩
theorem fgap_ok {A:Option Addr} {n c k:Nat} {L:List HV} {V:List AH} (hL:SV w A (hvs L)) (hE:EachH HR w L V k) (hn:L.length=n) (hnc:n≤c) (hk:k≤400) (h1:1≤k) (hG:GoodH V) :
 Calls Tryz.prog 10 #[.slice A n c] w (GivesQE w (gapQ V) (12*((k+(1+k))+(k+(1+k)))+8*(k+(1+k))+40)):=by
 have HG:=Lib.hid hG;have HN:=Lib.hid hn
 have HVn:Hid (V.length=n):=hE.1.symm.trans hn
 have HGM:=Lib.hid (gap_mid hG.1.1)
 clear hG hn
 go_enter Tryz.func10,Tryz.ntmps10
 go_upto_region 1 with (fail)
 generalize hW:World.alloc _ _=W
 obtain ⟨hb,Z,hzW⟩:=mkbx9_8 hW;clear hW;replace hL:=hL.below hb;replace hE:=EachH.belowR hE hb
 have hn4:n≤4:=by have:=HG.out.1;have:=HVn.out;omega
 go_wp2_with (first
  | (go_at_call 28;(with_reducible refine (cgood_any hL hE HN.out (by omega) h1 true ⟨fun _=>HG.out,fun _=>rfl⟩).mono ?_);rintro e w_z ⟨rfl,hh⟩
     (try replace Z:=Z.below hh);(try replace hL:=hL.below hh);replace hb:=bend hb hh;replace hE:=EachH.belowR hE hh)
  | (go_at_call 30;(with_reducible refine (fdist hL hE HN.out hnc hk h1 HG.out).mono ?_);rintro e w_d ⟨v,M,rfl,lM,eM,hh⟩
     (try replace Z:=Z.below hh);replace hb:=bend hb hh
     obtain ⟨A2,c2,rfl,hc2,_⟩:=lM.form
     have hMl:M.length≤1000:=(by have h5:=eM.1;have h6:=HG.out.1;have h7:=HVn.out;rw [List.length_cons,mid_length (m:=n - 2) (by omega)] at h5;omega))
  | (go_at_call 29;(with_reducible refine (fgreatest lM.sv eM rfl hc2 hMl (by omega) (by omega)).mono ?_);rintro e w_r ⟨s_r,A_r,n_r,c_r,B_r,m_r,d_r,rfl,r,hh⟩
     (try replace Z:=Z.below hh);replace hb:=bend hb hh;have zf0:=Z.f0;have zc0:=Z.c0;have zf1:=Z.f1;have zc1:=Z.c1;have zf2:=Z.f2;have zc2:=Z.c2))
 have HR9:Hid (QG w_r s_r A_r n_r c_r B_r m_r d_r (gapQ V) (12*((k+(1+k))+(k+(1+k)))+8*(k+(1+k))+40)):=by
  have h:=r
  rw [show (midQ V).foldl maxQ 0=gapQ V from HGM.out] at h
  exact h
 have Z2:=Z.set3 (.bool s_r) (.slice A_r n_r c_r) (.slice B_r m_r d_r)
 obtain ⟨g0,g1,g2⟩:=Z2.all
 refine bodyPost_ret (v:=.tuple #[.agg #[.bool s_r,.slice A_r n_r c_r,.slice B_r m_r d_r],.int .i64 0]) (by rw [results_cell_tmp Tryz.results10];simp [go_sem,asAddr,Result.andThen,g0,g1,g2]) rfl ?_
 exact ⟨s_r,A_r,n_r,c_r,B_r,m_r,d_r,rfl,HR9.out.set3 Z _ _ _,below_set3 hb (by omega) _ _ _⟩
theorem fis_neg {A:Option Addr} {n c k:Nat} {L:List HV} {V:List AH} {s:Bool} {A1 A2:Option Addr} {n1 c1 n2 c2 kt:Nat} {vt:Rat} (hL:SV w A (hvs L)) (hE:EachH HR w L V k) (_hn:L.length=n) (t:QR w s A1 n1 c1 A2 n2 c2 vt kt) (_hk:k≤400) (_h1:1≤k) (hkt:kt≤10000) (ht1:1≤kt) (hT:vt < 0) :
 Calls Tryz.prog 11 #[.slice A n c,.agg #[.bool s,.slice A1 n1 c1,.slice A2 n2 c2]] w fun e w'=>e=.returned (.bool false)∧Below w.heap.size w w':=by
 obtain ⟨S,hS,hS0⟩:∃ S,sgnQ vt=S∧S < 0:=⟨_,rfl,by unfold sgnQ;rw [if_pos hT];decide⟩
 have HS:=Lib.hid hS;clear hS hT
 go_enter Tryz.func11,Tryz.ntmps11
 go_upto_region 1 with (fail)
 generalize hW:World.alloc _ _=W
 obtain ⟨hb,XT,hzW⟩:=mkbx9_8 hW;clear hW;replace t:=t.below hb;replace hL:=hL.below hb;replace hE:=EachH.belowR hE hb;obtain ⟨xt0,xt1,xt2⟩:=XT.all
 go_wp2_with (first
  | (go_at_call 24;(with_reducible refine (rsign_q t (by omega) ht1).mono ?_);rintro e w_z ⟨rfl,hh⟩
     rw [HS.out];(try replace hL:=hL.below hh);(try replace t:=t.below hh);(try replace XT:=XT.below hh);replace hb:=bend hb hh;replace hE:=EachH.belowR hE hh))
 (try rw [Exit.noGoto_ret])
 go_ret;exact ⟨rfl,hb⟩
theorem fis_bad {A:Option Addr} {n c k:Nat} {L:List HV} {V:List AH} {s:Bool} {A1 A2:Option Addr} {n1 c1 n2 c2 kt:Nat} {vt:Rat} (hL:SV w A (hvs L)) (hE:EachH HR w L V k) (hn:L.length=n) (t:QR w s A1 n1 c1 A2 n2 c2 vt kt) (hk:k≤400) (h1:1≤k) (hkt:kt≤10000) (ht1:1≤kt) (hT:0≤vt) (hG:¬ GoodH V) :
 Calls Tryz.prog 11 #[.slice A n c,.agg #[.bool s,.slice A1 n1 c1,.slice A2 n2 c2]] w fun e w'=>e=.returned (.bool false)∧Below w.heap.size w w':=by
 have HG:=Lib.hid hG;have HN:=Lib.hid hn;clear hG hn
 obtain ⟨S,hS,hS0⟩:∃ S,sgnQ vt=S∧¬ S < 0:=⟨_,rfl,by have:=sgn_nonneg.2 hT;omega⟩
 have HS:=Lib.hid hS;clear hS hT
 go_enter Tryz.func11,Tryz.ntmps11
 go_upto_region 1 with (fail)
 generalize hW:World.alloc _ _=W
 obtain ⟨hb,XT,hzW⟩:=mkbx9_8 hW;clear hW;replace t:=t.below hb;replace hL:=hL.below hb;replace hE:=EachH.belowR hE hb;obtain ⟨xt0,xt1,xt2⟩:=XT.all
 go_upto_region 4 with (first
  | (go_at_call 24;(with_reducible refine (rsign_q t (by omega) ht1).mono ?_);rintro e w_z ⟨rfl,hh⟩
     rw [HS.out];(try replace hL:=hL.below hh);(try replace t:=t.below hh);(try replace XT:=XT.below hh);replace hb:=bend hb hh;replace hE:=EachH.belowR hE hh)
  | (go_at_call 10;(with_reducible refine (fgap_bad hL hE HN.out hk h1 HG.out).mono ?_);rintro e w_g ⟨rfl,hh⟩
     (try replace XT:=XT.below hh);(try replace t:=t.below hh);replace hb:=bend hb hh))
 have XG:=B3.new' w_g (Value.bool false) (Value.slice none 0 0) (Value.slice none 0 0) w_g.heap.size rfl
 have hh:Below w_g.heap.size w_g (w_g.alloc (Obj.cells #[Value.bool false,Value.slice none 0 0,Value.slice none 0 0] 27)):=(Below.refl _ _).alloc (Nat.le_refl _) _
 generalize (w_g.alloc (Obj.cells #[Value.bool false,Value.slice none 0 0,Value.slice none 0 0] 27))=W2 at *
 replace XT:=XT.below hh;replace hb:=bend hb hh;clear hh
 replace XG:=XG.below (Below.refl _ _).drew
 replace XT:=XT.below (Below.refl _ _).drew
 replace hb:=hb.drew
 refine wp_region_held_drew (S:=(fun w'=>w'.cell? ⟨w_g.heap.size,0,none⟩=some (Value.bool false)∧w'.cell? ⟨w_g.heap.size,1,none⟩=some (Value.slice none 0 0)∧w'.cell? ⟨w_g.heap.size,2,none⟩=some (Value.slice none 0 0)∧w'.cell? ⟨w.heap.size,0,none⟩=some (.bool s)∧w'.cell? ⟨w.heap.size,1,none⟩=some (.slice A1 n1 c1)∧w'.cell? ⟨w.heap.size,2,none⟩=some (.slice A2 n2 c2))) (by kernel_rfl) (by with_reducible exact ⟨XG.c0,XG.c1,XG.c2,XT.c0,XT.c1,XT.c2⟩) (fun hHeld=>?_)
 refine wpAnyH_take (i:=0) (oi:=⟨some 15,.move (.tmp 6),33, "flat.go:20",#[],none⟩) (v:=?_) rfl (by kernel_rfl) (by kernel_rfl) (by kernel_rfl) (fun _ _ _ h=>h) (Or.inl ⟨by rfl,?_⟩) hHeld ?_
 rotate_left
 · (intro w hSw;(try dsimp only at hSw);go_simp;try with_reducible rfl)
 simp only [Act.put,List.setIfInBounds_toArray,List.set_cons_zero,List.set_cons_succ]
 refine wpAnyH_take (i:=1) (oi:=⟨some 16,.binOp BinOp.eql 33 (.tmp 15) (.const (Value.int IntKind.i64 0)) 33,4, "flat.go:20",#[⟨0,.data⟩],none⟩) (v:=?_) rfl (by kernel_rfl) (by kernel_rfl) (by kernel_rfl) (fun _ _ _ h=>h) (Or.inl ⟨by rfl,?_⟩) hHeld ?_
 rotate_left
 · (intro w hSw;(try dsimp only at hSw);go_simp;try with_reducible rfl)
 simp only [Act.put,List.setIfInBounds_toArray,List.set_cons_zero,List.set_cons_succ]
 refine wpAnyH_take (i:=2) (oi:=⟨some 17,.move (.tmp 16),4, "flat.go:20",#[⟨1,.data⟩],none⟩) (v:=?_) rfl (by kernel_rfl) (by kernel_rfl) (by kernel_rfl) (fun _ _ _ h=>h) (Or.inl ⟨by rfl,?_⟩) hHeld ?_
 rotate_left
 · (intro w hSw;(try dsimp only at hSw);go_simp;try with_reducible rfl)
 simp only [Act.put,List.setIfInBounds_toArray,List.set_cons_zero,List.set_cons_succ]
 refine wpAnyH_take (i:=3) (oi:=⟨some 18,.load 27 (.tmp 5),27, "flat.go:20",#[⟨2,.guard⟩],some (2,true)⟩) (v:=undef) rfl (by kernel_rfl) (by kernel_rfl) (by kernel_rfl) (fun _ _ _ h=>h) (Or.inr ⟨by rfl,rfl⟩) hHeld ?_
 simp only [Act.put,List.setIfInBounds_toArray,List.set_cons_zero,List.set_cons_succ]
 refine wpAnyH_take (i:=4) (oi:=⟨some 19,.load 27 (.tmp 3),27, "flat.go:20",#[⟨2,.guard⟩],some (2,true)⟩) (v:=undef) rfl (by kernel_rfl) (by kernel_rfl) (by kernel_rfl) (fun _ _ _ h=>h) (Or.inr ⟨by rfl,rfl⟩) hHeld ?_
 simp only [Act.put,List.setIfInBounds_toArray,List.set_cons_zero,List.set_cons_succ]
 refine wpAnyH_take (i:=5) (oi:=⟨some 20,.load 27 (.tmp 3),27, "flat.go:20",#[⟨2,.guard⟩],some (2,true)⟩) (v:=undef) rfl (by kernel_rfl) (by kernel_rfl) (by kernel_rfl) (fun _ _ _ h=>h) (Or.inr ⟨by rfl,rfl⟩) hHeld ?_
 simp only [Act.put,List.setIfInBounds_toArray,List.set_cons_zero,List.set_cons_succ]
 refine wpAnyH_take (i:=6) (oi:=⟨some 21,.call ⟨.value (.func 23),#[.tmp 19,.tmp 20],#[27,27]⟩,27, "flat.go:20",#[⟨4,.data⟩,⟨5,.data⟩,⟨2,.chain⟩,⟨2,.guard⟩],some (2,true)⟩) (v:=undef) rfl (by kernel_rfl) (by kernel_rfl) (by kernel_rfl) (fun _ _ _ h=>h) (Or.inr ⟨by rfl,rfl⟩) hHeld ?_
 simp only [Act.put,List.setIfInBounds_toArray,List.set_cons_zero,List.set_cons_succ]
 refine wpAnyH_take (i:=7) (oi:=⟨some 22,.call ⟨.value (.func 20),#[.tmp 18,.tmp 21],#[27,27]⟩,3, "flat.go:20",#[⟨3,.data⟩,⟨6,.data⟩,⟨6,.chain⟩,⟨2,.guard⟩],some (2,true)⟩) (v:=undef) rfl (by kernel_rfl) (by kernel_rfl) (by kernel_rfl) (fun _ _ _ h=>h) (Or.inr ⟨by rfl,rfl⟩) hHeld ?_
 simp only [Act.put,List.setIfInBounds_toArray,List.set_cons_zero,List.set_cons_succ]
 refine wpAnyH_take (i:=8) (oi:=⟨some 23,.binOp BinOp.leq 3 (.tmp 22) (.const (Value.int IntKind.i64 0)) 3,4, "flat.go:20",#[⟨7,.data⟩,⟨2,.guard⟩],some (2,true)⟩) (v:=undef) rfl (by kernel_rfl) (by kernel_rfl) (by kernel_rfl) (fun _ _ _ h=>h) (Or.inr ⟨by rfl,rfl⟩) hHeld ?_
 simp only [Act.put,List.setIfInBounds_toArray,List.set_cons_zero,List.set_cons_succ]
 refine wpAnyH_take (i:=9) (oi:=⟨some 24,.pick (.tmp 17) (.tmp 23) (.const (Value.bool false)),4, "flat.go:20",#[⟨2,.data⟩,⟨8,.data⟩],none⟩) (v:=?_) rfl (by kernel_rfl) (by kernel_rfl) (by kernel_rfl) (fun _ _ _ h=>h) (Or.inl ⟨by rfl,?_⟩) hHeld ?_
 rotate_left
 · (intro w hSw;(try dsimp only at hSw);go_simp;try with_reducible rfl)
 simp only [Act.put,List.setIfInBounds_toArray,List.set_cons_zero,List.set_cons_succ]
 refine wpAnyH_take (i:=10) (oi:=⟨some 4,.assign (.tmp 24),4, "flat.go:20",#[⟨9,.data⟩,⟨7,.chain⟩,⟨0,.phase⟩,⟨1,.phase⟩,⟨2,.phase⟩,⟨3,.phase⟩,⟨4,.phase⟩,⟨5,.phase⟩,⟨6,.phase⟩,⟨7,.phase⟩,⟨8,.phase⟩,⟨9,.phase⟩],none⟩) (v:=?_) rfl (by kernel_rfl) (by kernel_rfl) (by kernel_rfl) (fun _ _ _ h=>h) (Or.inl ⟨by rfl,?_⟩) hHeld ?_
 rotate_left
 · (intro w hSw;(try dsimp only at hSw);go_simp;try with_reducible rfl)
 simp only [Act.put,List.setIfInBounds_toArray,List.set_cons_zero,List.set_cons_succ]
 refine wpAnyH_done (by kernel_rfl) ?_ _
 clear hHeld
 go_wp2_with fail
 (try rw [Exit.noGoto_ret])
 go_ret;exact ⟨rfl,hb⟩
theorem fis_ok {A:Option Addr} {n c k:Nat} {L:List HV} {V:List AH} {s:Bool} {A1 A2:Option Addr} {n1 c1 n2 c2 kt:Nat} {vt:Rat} (hL:SV w A (hvs L)) (hE:EachH HR w L V k) (hn:L.length=n) (t:QR w s A1 n1 c1 A2 n2 c2 vt kt) (hk:k≤400) (h1:1≤k) (hkt:kt≤10000) (ht1:1≤kt) (hnc:n≤c) (hT:0≤vt) (hG:GoodH V) (R:Bool) (hR:R=true ↔ gapQ V≤vt*vt) :
 Calls Tryz.prog 11 #[.slice A n c,.agg #[.bool s,.slice A1 n1 c1,.slice A2 n2 c2]] w fun e w'=>e=.returned (.bool R)∧Below w.heap.size w w':=by
 obtain ⟨T,hT9,hT8⟩:∃ T,cmpQ (gapQ V) (vt*vt)=T∧decide (T≤0)=R:=⟨_,rfl,by rw [Bool.eq_iff_iff,decide_eq_true_iff,hR];exact cmpQ_le⟩
 have HT:=Lib.hid hT9;have HR:=Lib.hid hT8;have HG:=Lib.hid hG;have HN:=Lib.hid hn;clear hG hn hR hT9 hT8
 obtain ⟨S,hS,hS0⟩:∃ S,sgnQ vt=S∧¬ S < 0:=⟨_,rfl,by have:=sgn_nonneg.2 hT;omega⟩
 have HS:=Lib.hid hS;clear hS hT
 go_enter Tryz.func11,Tryz.ntmps11
 go_upto_region 1 with (fail)
 generalize hW:World.alloc _ _=W
 obtain ⟨hb,XT,hzW⟩:=mkbx9_8 hW;clear hW;replace t:=t.below hb;replace hL:=hL.below hb;replace hE:=EachH.belowR hE hb;obtain ⟨xt0,xt1,xt2⟩:=XT.all
 go_upto_region 4 with (first
  | (go_at_call 24;(with_reducible refine (rsign_q t (by omega) ht1).mono ?_);rintro e w_z ⟨rfl,hh⟩
     rw [HS.out];(try replace hL:=hL.below hh);(try replace t:=t.below hh);(try replace XT:=XT.below hh);replace hb:=bend hb hh;replace hE:=EachH.belowR hE hh)
  | (go_at_call 10;(with_reducible refine (fgap_ok hL hE HN.out hnc hk h1 HG.out).mono ?_);rintro e w_g ⟨s_g,A_g,n_g,c_g,B_g,m_g,d_g,rfl,g,hh⟩
     (try replace XT:=XT.below hh);(try replace t:=t.below hh);replace hb:=bend hb hh))
 have XG:=B3.new' w_g (Value.bool s_g) (Value.slice A_g n_g c_g) (Value.slice B_g m_g d_g) w_g.heap.size rfl
 have hh:Below w_g.heap.size w_g (w_g.alloc (Obj.cells #[Value.bool s_g,Value.slice A_g n_g c_g,Value.slice B_g m_g d_g] 27)):=(Below.refl _ _).alloc (Nat.le_refl _) _
 generalize (w_g.alloc (Obj.cells #[Value.bool s_g,Value.slice A_g n_g c_g,Value.slice B_g m_g d_g] 27))=W2 at *
 replace XT:=XT.below hh;replace t:=t.below hh;replace g:=g.below hh;replace hb:=bend hb hh;clear hh
 replace XG:=XG.below (Below.refl _ _).drew
 replace XT:=XT.below (Below.refl _ _).drew
 replace t:=t.below (Below.refl _ _).drew
 replace g:=g.below (Below.refl _ _).drew
 replace hb:=hb.drew
 go_region_held3 (fun w'=>w'.cell? ⟨w_g.heap.size,0,none⟩=some (.bool s_g)∧w'.cell? ⟨w_g.heap.size,1,none⟩=some (.slice A_g n_g c_g)∧w'.cell? ⟨w_g.heap.size,2,none⟩=some (.slice B_g m_g d_g)∧w'.cell? ⟨w.heap.size,0,none⟩=some (.bool s)∧w'.cell? ⟨w.heap.size,1,none⟩=some (.slice A1 n1 c1)∧w'.cell? ⟨w.heap.size,2,none⟩=some (.slice A2 n2 c2))
  (first | with_reducible exact ⟨XG.c0,XG.c1,XG.c2,XT.c0,XT.c1,XT.c2⟩)
  (first
  | (go_at_call 23;(with_reducible refine (rmul_q t t (by omega) (by omega) (.inl (by omega)) ht1 ht1).mono ?_);rintro e w_q ⟨s_q,A_q,n_q,c_q,B_q,m_q,d_q,rfl,q,hh⟩
     (try replace XG:=XG.below hh);(try replace XT:=XT.below hh);(try replace t:=t.below hh);(try replace g:=g.below hh);replace hb:=bend hb hh)
  | (go_at_call 20;(with_reducible refine (rcmp_q g.qr q.qr (by omega) (by omega) (.inl (by omega)) (by omega) (by omega)).mono ?_);rintro e w_z ⟨rfl,hh⟩
     rw [HT.out];(try replace XG:=XG.below hh);(try replace XT:=XT.below hh);(try replace t:=t.below hh);(try replace g:=g.below hh);(try replace q:=q.below hh);replace hb:=bend hb hh))
 go_wp2_with fail
 (try rw [Exit.noGoto_ret])
 go_ret
 exact ⟨by rw [← HR.out];rfl,hb⟩
theorem fis_any {A:Option Addr} {n c k:Nat} {L:List HV} {V:List AH} {s:Bool} {A1 A2:Option Addr} {n1 c1 n2 c2 kt:Nat} {vt:Rat} (hL:SV w A (hvs L)) (hE:EachH HR w L V k) (hn:L.length=n) (t:QR w s A1 n1 c1 A2 n2 c2 vt kt) (hk:k≤400) (h1:1≤k) (hkt:kt≤10000) (ht1:1≤kt) (hnc:n≤c) (R:Bool) (hR:R=true ↔ GoodH V∧0≤vt∧gapQ V≤vt*vt) :
 Calls Tryz.prog 11 #[.slice A n c,.agg #[.bool s,.slice A1 n1 c1,.slice A2 n2 c2]] w fun e w'=>e=.returned (.bool R)∧Below w.heap.size w w':=by
 by_cases hT:0≤vt
 · by_cases hG:GoodH V
   · exact fis_ok hL hE hn t hk h1 hkt ht1 hnc hT hG R (hR.trans ⟨fun e=>e.2.2,fun e=>⟨hG,hT,e⟩⟩)
   · have:=fis_bad (c:=c) hL hE hn t hk h1 hkt ht1 hT hG
     rwa [show false=R by cases R with | false=>rfl | true=>exact absurd (hR.1 rfl).1 hG] at this
 · have:=fis_neg (c:=c) hL hE hn t hk h1 hkt ht1 (Rat.not_le.1 hT)
   rwa [show false=R by cases R with | false=>rfl | true=>exact absurd (hR.1 rfl).2.1 hT] at this
end
section
open Go Go.RowKit
attribute [local go_sem ↓] open_LVH open_STH open_LVJ open_STJ
abbrev fwV:List AH:=(quadH [(Rat.divInt 0 1,Rat.divInt 0 1),(Rat.divInt 1 1,Rat.divInt 2 1),(Rat.divInt 2 1,Rat.divInt 0 1)])
theorem fw_good:GoodH fwV:=by
 refine ⟨by decide,fun u hu=>?_⟩
 simp only [fwV,quadH,List.map_cons,List.map_nil,List.mem_cons,List.not_mem_nil,or_false] at hu
 rcases hu with rfl | rfl | rfl <;> decide
theorem fw_gap:gapQ fwV=4:=by decide +kernel
theorem fw_txt:(⟨(qtxt (gapQ fwV)).toArray⟩:ByteArray)=⟨#[52]⟩:=by
 rw [fw_gap,qtxt_i (a:=4) (by decide +kernel) (by decide +kernel) (txt_one (d:=4) (by decide) (by decide) rfl)];rfl
theorem QG.fitQ {s:Bool} {A B:Option Addr} {n c m d K k:Nat} {v:Rat} (h:QG w s A n c B m d v K) (h1:v.num.natAbs < B64 ^ k) (h2:v.den < B64 ^ k):QG w s A n c B m d v k:=by
 obtain ⟨⟨a1,a2,a3,_⟩,⟨b1,b2,_⟩⟩:=h
 refine ⟨⟨a1,a2,a3,?_⟩,⟨b1,b2,?_⟩⟩
 · rw [← a2.1];exact length_limbs_le B64_two h1
 · rw [← b1.1];exact length_limbs_le B64_two h2
theorem fw_num:(gapQ fwV).num.natAbs < B64 ^ 1:=by rw [fw_gap];decide +kernel
theorem fw_den:(gapQ fwV).den < B64 ^ 1:=by rw [fw_gap];decide +kernel
theorem fw_is2:true=true ↔ GoodH fwV∧0≤Rat.divInt 2 1∧gapQ fwV≤Rat.divInt 2 1*Rat.divInt 2 1:=⟨fun _=>⟨fw_good,by decide +kernel,by rw [fw_gap];decide +kernel⟩,fun _=>rfl⟩
theorem fw_is1:false=true ↔ GoodH fwV∧0≤Rat.divInt 1 1∧gapQ fwV≤Rat.divInt 1 1*Rat.divInt 1 1:=⟨fun e=>(by cases e),fun e=>absurd e.2.2 (by rw [fw_gap];decide +kernel)⟩
theorem wakes15_any (w:World):Calls Tryz.prog 8 #[] w fun e w'=>e=.returned (.bool true)∧Below w.heap.size w w':=by
 have hb:Below w.heap.size w w:=Below.refl _ _
 go_enter Tryz.func8,Tryz.ntmps8
 go_upto_region 4 with (first
  | (go_at_call 25;(with_reducible refine (lawP 0 0 (by decide) (by decide) (by decide) (by decide) _).mono ?_);rintro e w_p ⟨s_p,A_p,n_p,c_p,B_p,m_p,d_p,t_p,E_p,i_p,e_p,F_p,j_p,f_p,rfl,p,hh⟩
     replace hb:=bend hb hh)
  | (go_at_call 25;(with_reducible refine (lawP 1 2 (by decide) (by decide) (by decide) (by decide) _).mono ?_);rintro e w_q ⟨s_q,A_q,n_q,c_q,B_q,m_q,d_q,t_q,E_q,i_q,e_q,F_q,j_q,f_q,rfl,q,hh⟩
     (try replace p:=p.below hh);replace hb:=bend hb hh)
  | (go_at_call 25;(with_reducible refine (lawP 2 0 (by decide) (by decide) (by decide) (by decide) _).mono ?_);rintro e w_r ⟨s_r,A_r,n_r,c_r,B_r,m_r,d_r,t_r,E_r,i_r,e_r,F_r,j_r,f_r,rfl,r,hh⟩
     (try replace p:=p.below hh);(try replace q:=q.below hh);replace hb:=bend hb hh)
  | (go_at_call 26;(with_reducible refine (cquad p q r (by decide)).mono ?_);rintro e w_u ⟨v1,M1,rfl,l1,e1,hh⟩
     replace hb:=bend hb hh
     obtain ⟨A_x,c_x,rfl,hc3,_⟩:=l1.form
     have hM1:M1.length=3:=e1.1
     rw [hM1] at l1 hc3 ⊢
     have LM1:=l1.sv;have E1:=e1.hr;clear p q r e1)
  | (go_at_call 10;(with_reducible refine (fgap_ok (n:=3) LM1 E1 hM1 hc3 (by decide) (by decide) fw_good).mono ?_);rintro e w_g ⟨s_g,A_g,n_g,c_g,B_g,m_g,d_g,rfl,g,hh⟩
     (try replace LM1:=LM1.below hh);replace hb:=bend hb hh;replace E1:=EachH.belowR E1 hh))
 have XG:=B3.new' w_g (Value.bool s_g) (Value.slice A_g n_g c_g) (Value.slice B_g m_g d_g) w_g.heap.size rfl
 have hh:Below w_g.heap.size w_g (w_g.alloc (Obj.cells #[Value.bool s_g,Value.slice A_g n_g c_g,Value.slice B_g m_g d_g] 27)):=(Below.refl _ _).alloc (Nat.le_refl _) _
 generalize (w_g.alloc (Obj.cells #[Value.bool s_g,Value.slice A_g n_g c_g,Value.slice B_g m_g d_g] 27))=W2 at *
 replace LM1:=LM1.below hh;replace E1:=EachH.belowR E1 hh;replace g:=g.below hh;replace hb:=bend hb hh;clear l1 hh;obtain ⟨xg0,xg1,xg2⟩:=XG.all
 go_wp2_with (first
  | (go_at_call 27;(with_reducible refine (rtext_q (QG.fitQ g fw_num fw_den).qr (by decide) (by decide)).mono ?_);rintro e w_z ⟨rfl,hh⟩
     rw [fw_txt];(try replace LM1:=LM1.below hh);replace hb:=bend hb hh;replace E1:=EachH.belowR E1 hh;clear g)
  | (go_at_call 18;(with_reducible refine (rof_q 2 1 (by decide) (by decide) (by decide) (by decide) (by decide) _).mono ?_);rintro e w_t2 ⟨s_t2,A_t2,n_t2,c_t2,B_t2,m_t2,d_t2,rfl,t2,hh⟩
     (try replace LM1:=LM1.below hh);replace hb:=bend hb hh;replace E1:=EachH.belowR E1 hh)
  | (go_at_call 18;(with_reducible refine (rof_q 1 1 (by decide) (by decide) (by decide) (by decide) (by decide) _).mono ?_);rintro e w_t1 ⟨s_t1,A_t1,n_t1,c_t1,B_t1,m_t1,d_t1,rfl,t1,hh⟩
     (try replace LM1:=LM1.below hh);(try replace t2:=t2.below hh);replace hb:=bend hb hh;replace E1:=EachH.belowR E1 hh)
  | (go_at_call 11;(with_reducible refine (fis_any (n:=3) LM1 E1 hM1 t2.qr (by decide) (by decide) (by decide) (by decide) hc3 true fw_is2).mono ?_);rintro e w_z ⟨rfl,hh⟩
     (try replace LM1:=LM1.below hh);(try replace t2:=t2.below hh);(try replace t1:=t1.below hh);replace hb:=bend hb hh;replace E1:=EachH.belowR E1 hh)
  | (go_at_call 11;(with_reducible refine (fis_any (n:=3) LM1 E1 hM1 t1.qr (by decide) (by decide) (by decide) (by decide) hc3 false fw_is1).mono ?_);rintro e w_z ⟨rfl,hh⟩
     (try replace LM1:=LM1.below hh);(try replace t2:=t2.below hh);(try replace t1:=t1.below hh);replace hb:=bend hb hh;replace E1:=EachH.belowR E1 hh))
 (try rw [Exit.noGoto_ret])
 go_ret;exact ⟨rfl,hb⟩
end
end Go.Proofs.YtlpogecpdfdggaaGreat
