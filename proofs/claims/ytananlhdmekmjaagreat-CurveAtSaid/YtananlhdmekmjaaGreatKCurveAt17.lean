/- CurveAt: part 17. -/
import Derived.Test.YtananlhdmekmjaaGreatKCurveAt16
set_option linter.unusedVariables false
set_option maxRecDepth 100000
set_option maxHeartbeats 16000000
variable {w:Go.World}
namespace Go.Proofs.YtananlhdmekmjaaGreat
open Go Go.RowKit
attribute [local go_sem ↓] open_LVM open_STM open_LVN open_STN
attribute [local go_sem ↓] open_LVH open_STH open_LVJ open_STJ
theorem held_go {P:Program} {md:Region.Mode} {ops:Array Oper} {Q:Exit→Act→World→Prop} {S:World→Prop} {f:Nat} {d:Array Bool} {a:Act} (h:S w) (k:S w→wpAnyH P md ops Q S f d a w):wpAny P md ops Q f d a w:=wpAny_of_held _ _ _ _ (k h)
def pwG (i:Nat) (m t u:Rat):Nat→Rat
 | 0=>m
 | j+1=>pwG i m t u j*(if j < i then t else u)
def sumG (V:List AH) (N:Nat) (t u:Rat):Nat→AH
 | 0=>⟨Rat.divInt 0 1,Rat.divInt 0 1,Rat.divInt 0 1⟩
 | i+1=>⟨(sumG V N t u i).x+(V.getD i ⟨0,0,0⟩).x*pwG i (Rat.divInt (chN N i:Int) 1) t u N,(sumG V N t u i).y+(V.getD i ⟨0,0,0⟩).y*pwG i (Rat.divInt (chN N i:Int) 1) t u N,(sumG V N t u i).w+(V.getD i ⟨0,0,0⟩).w*pwG i (Rat.divInt (chN N i:Int) 1) t u N⟩
theorem div1_2:Rat.divInt 2 1=2:=by decide +kernel
theorem div1_3:Rat.divInt 3 1=3:=by decide +kernel
theorem div1_0:Rat.divInt 0 1=0:=by decide +kernel
theorem sumG_bez {V:List AH} (h:2≤V.length∧V.length≤4) (t:Rat):sumG V (V.length - 1) t (Rat.divInt 1 1 - t) V.length=bez t V:=by
 rw [one_q]
 rcases forms h with ⟨a,b,rfl⟩ | ⟨a,b,c,rfl⟩ | ⟨a,b,c,d,rfl⟩
 · rw [bez2]
   refine AH.eq ?_ ?_ ?_ <;> simp [sumG,pwG,chN,AH.mix,one_q,div1_0,mixQ] <;> grind
 · rw [bez3]
   refine AH.eq ?_ ?_ ?_ <;> simp only [AH.mix,bern3] <;> simp [sumG,pwG,chN,one_q,div1_0,div1_2] <;> grind
 · rw [bez4]
   refine AH.eq ?_ ?_ ?_ <;> simp only [AH.mix,bern4] <;> simp [sumG,pwG,chN,one_q,div1_0,div1_3] <;> grind
theorem chN_le (N i:Nat):chN N i≤3:=by unfold chN;split <;> decide
theorem chN_step {N i:Nat} (h1:1≤N) (h3:N≤3) (hi:i≤N):((chN N i:Int)*((N:Int) - (i:Int))).tdiv ((i:Int)+1)=(chN N (i+1):Int):=by
 match N,i,h1,h3,hi with
 | 1,0,_,_,_=>decide
 | 1,1,_,_,_=>decide
 | 2,0,_,_,_=>decide
 | 2,1,_,_,_=>decide
 | 2,2,_,_,_=>decide
 | 3,0,_,_,_=>decide
 | 3,1,_,_,_=>decide
 | 3,2,_,_,_=>decide
 | 3,3,_,_,_=>decide
 | 1,i+2,_,_,h=>omega
 | 2,i+3,_,_,h=>omega
 | 3,i+4,_,_,h=>omega
 | 0,_,h,_,_=>omega
 | N+4,_,_,h,_=>omega
theorem RQ.setB {u:Rat} {g:Nat} {s:Bool} {A B:Option Addr} {n c m d k:Nat} {w w':World} {h:HV} (a:RQ w s A n c B m d u k) (Z:BJ w g (.bool h.x.s) (.slice h.x.A h.x.n h.x.c) (.slice h.x.B h.x.m h.x.d) (.bool h.y.s) (.slice h.y.A h.y.n h.y.c) (.slice h.y.B h.y.m h.y.d) (.bool h.w.s) (.slice h.w.A h.w.n h.w.c) (.slice h.w.B h.w.m h.w.d)) (ho:Only g w w'):RQ w' s A n c B m d u k :=
 a.box (show BoxAt 75 w g #[.bool h.x.s,.slice h.x.A h.x.n h.x.c,.slice h.x.B h.x.m h.x.d,.bool h.y.s,.slice h.y.A h.y.n h.y.c,.slice h.y.B h.y.m h.y.d,.bool h.w.s,.slice h.w.A h.w.n h.w.c,.slice h.w.B h.w.m h.w.d] from ⟨Z,fun x k v e=>by
  match x,e with
  | 0,e=>cases e
  | 1,e=>cases e
  | 2,e=>cases e
  | 3,e=>cases e
  | 4,e=>cases e
  | 5,e=>cases e
  | 6,e=>cases e
  | 7,e=>cases e
  | 8,e=>cases e
  | x+9,e=>cases e⟩) ho
abbrev L_rat1:List Nat:=[12,13,14,5]
def o0_rat1:Oper:=⟨some 12,.call ⟨.value (.func 25),#[.const (Value.int IntKind.i64 1),.const (Value.int IntKind.i64 1)],#[2,2]⟩,49, "ref.go:102",#[],none⟩
def o1_rat1:Oper:=⟨some 13,.load 49 (.tmp 3),49, "ref.go:102",#[],none⟩
def o2_rat1:Oper:=⟨some 14,.call ⟨.value (.func 64),#[.tmp 12,.tmp 13],#[49,49]⟩,49, "ref.go:102",#[⟨0,.data⟩,⟨1,.data⟩,⟨0,.chain⟩],none⟩
def o3_rat1:Oper:=⟨some 5,.alloc 49,0, "ref.go:102",#[],none⟩
def o4_rat1:Oper:=⟨none,.store 49 (.tmp 5) (.tmp 14),0, "ref.go:102",#[⟨3,.data⟩,⟨2,.data⟩,⟨2,.chain⟩,⟨0,.phase⟩,⟨1,.phase⟩,⟨2,.phase⟩,⟨3,.phase⟩],none⟩
theorem rc_gesso_gessoref03_Of {e:Operand→Value} {x0 x1:Operand} {d:Option Tmp} {y:Nat} {pos:String} {af:Array Edge} {u0 u1:Value} (h0:e x0=u0) (h1:e x1=u1) (hf:e (.func 25)=.func (.func 25) #[] #[]) :
 (execOp e ⟨d,.call ⟨.value (.func 25),#[x0,x1],#[2,2]⟩,y,pos,af,none⟩).run Tryz.prog w=.ok (.enter 25 #[u0,u1]) w:=by
 go_simp
theorem rc_gesso_gessoref03_Sub {e:Operand→Value} {x0 x1:Operand} {d:Option Tmp} {y:Nat} {pos:String} {af:Array Edge} {u0 u1:Value} (h0:e x0=u0) (h1:e x1=u1) (hf:e (.func 64)=.func (.func 64) #[] #[]) :
 (execOp e ⟨d,.call ⟨.value (.func 64),#[x0,x1],#[49,49]⟩,y,pos,af,none⟩).run Tryz.prog w=.ok (.enter 64 #[u0,u1]) w:=by
 go_simp
def F_rat1 (s:Bool) (A1:Option Addr) (A2:Option Addr) (n1:Nat) (c1:Nat) (n2:Nat) (c2:Nat) (vt:Rat) (sl:Nat):Value→World→Prop :=
 match sl with
 | 12=>VRQ (Rat.divInt 1 1) (2)
 | 13=>fun x _=>x=Value.agg #[.bool s,.slice A1 n1 c1,.slice A2 n2 c2]
 | 14=>VRQ (Rat.divInt 1 1 - vt) (2+12+1)
 | _=>fun _ _=>True
def B0_rat1 (vt:Rat):BoxOp :=
 ⟨3,4,5,49,#[.bool false,.slice none 0 0,.slice none 0 0],fun cs w=>∃ s A n c B m d,cs=#[.bool s,.slice A n c,.slice B m d]∧RQ w s A n c B m d (Rat.divInt 1 1 - vt) (2+12+1)⟩
theorem rat1_region {id:Nat} {ac:Act} {Q:Exit→Act→World→Prop} {s:Bool} {A1 A2:Option Addr} {n1 c1 n2 c2:Nat} {vt:Rat} {gt:Nat}
 (hsz:14 < ac.tmps.size) (e3:ac.eval (.tmp 3)=Value.pointer (some ⟨gt,0,none⟩)) (XT:B3R w gt (.bool s) (.slice A1 n1 c1) (.slice A2 n2 c2)) (tq:RQ w s A1 n1 c1 A2 n2 c2 vt 12)
 (hend:∀ (V:Nat→Value) (w':World) (g0:Nat) (s0:Bool) (A0:Option Addr) (n0:Nat) (c0:Nat) (B0:Option Addr) (m0:Nat) (d0:Nat),RQ w' s0 A0 n0 c0 B0 m0 d0 (Rat.divInt 1 1 - vt) (2+12+1)→B3R w' g0 (.bool s0) (.slice A0 n0 c0) (.slice B0 m0 d0)→w.heap.size≤g0→V 5=.pointer (some ⟨g0,0,none⟩)→Below w.heap.size w w'→Q .normal (putAll ac [12,13,14,5] V) w') :
 (Code.region id #[o0_rat1,o1_rat1,o2_rat1,o3_rat1,o4_rat1] true).wp Tryz.prog Q ac w:=by
 have hnd:L_rat1.Nodup:=by decide
 have G:∀ (sv:Nat→Value) (t:Nat),t ∈ L_rat1→t≤14→(putAll ac L_rat1 sv).eval (.tmp t)=sv t:=fun sv t ht h=>eval_putAll_mem (t:=t) L_rat1 ac hnd ht (Nat.lt_of_le_of_lt h hsz)
 have E3:∀ sv:Nat→Value,(putAll ac L_rat1 sv).eval (.tmp 3)=Value.pointer (some ⟨gt,0,none⟩):=fun sv=>(eval_putAll_not (v:=sv) L_rat1 ac (show 3 ∉ _ by decide)).trans e3
 have NE:∀ t:Nat,(t ≠ 5)→∀ p ∈ [B0_rat1 vt],t ≠ p.tA:=by
  intro t ht p hp
  simp only [List.mem_cons,List.not_mem_nil,or_false] at hp
  rcases hp with rfl
  · exact ht
 refine wp_region_flowsT L_rat1 [B0_rat1 vt] (F_rat1 s A1 A2 n1 c1 n2 c2 vt) (by kernel_rfl) (by kernel_rfl) rfl hnd ?_ ?_ ?_ ?_ ?_ ?_ ?_ ?_
 · intro p hp
   simp only [List.mem_cons,List.not_mem_nil,or_false] at hp
   rcases hp with rfl
   · refine ⟨⟨o3_rat1,rfl,rfl,rfl,fun e w'=>run_alloc3⟩,⟨o4_rat1,rfl,rfl,rfl,⟨3,.data⟩,by simp [o4_rat1],rfl,rfl⟩,free3 _ _ _ _ _ _ _,?_,?_⟩
     · rintro cs w1 w2 ⟨s_,A_,n_,c_,B_,m_,d_,rfl,h⟩ hb;exact ⟨s_,A_,n_,c_,B_,m_,d_,rfl,h.below hb⟩
     · rintro T cs w1 w2 g c0 ⟨s_,A_,n_,c_,B_,m_,d_,rfl,h⟩ hB ho;exact ⟨s_,A_,n_,c_,B_,m_,d_,rfl,h.box hB ho⟩
 · intro p hp q hq h
   simp only [List.mem_cons,List.not_mem_nil,or_false] at hp hq
   rcases hp with rfl <;> rcases hq with rfl
   · rfl
 · intro p hp q hq h
   simp only [List.mem_cons,List.not_mem_nil,or_false] at hp hq
   rcases hp with rfl <;> rcases hq with rfl
   · rfl
 · intro i o h1 h2
   match i,h1 with
   | 0,h1=>cases h1;cases h2
   | 1,h1=>cases h1;cases h2
   | 2,h1=>cases h1;cases h2
   | 3,h1=>cases h1;cases h2
   | 4,h1=>exact ⟨B0_rat1 vt,List.Mem.head _,rfl⟩
   | i+5,h1=>cases h1
 · intro t
   unfold F_rat1
   split <;> first | exact (stays_eq _).inn _ | exact (stays_q _ _).inn _ | exact (stays_z _ _).inn _ | exact (stays_r _ _).inn _ | exact (stays_rq _ _).inn _ | exact (stays_pg _ _ _).inn _ | exact (stays_true).inn _
 · intro i o t sv w' ho hia hd J0 hf
   have XT:=XT.below J0;have tq:=tq.below J0
   match i,ho with
   | 0,ho =>
     obtain rfl:o0_rat1=o:=Option.some.inj ho
     cases hd
     refine wpOp_plain' (o:=o0_rat1) rfl rfl ?_
     unfold Oper.wp o0_rat1
     rw [rc_gesso_gessoref03_Of (show (putAll ac L_rat1 sv).eval (.const (Value.int IntKind.i64 1))=(Value.int IntKind.i64 1) from rfl) (show (putAll ac L_rat1 sv).eval (.const (Value.int IntKind.i64 1))=(Value.int IntKind.i64 1) from rfl) rfl,Oper.upon_enter]
     refine (rof3 1 1 (by decide) (by decide) (by decide) (by decide) (by decide) _).mono ?_
     rintro e w1 ⟨s_,A_,n_,c_,B_,m_,d_,rfl,hq,hh⟩
     exact ⟨_,rfl,hh,s_,A_,n_,c_,B_,m_,d_,rfl,hq⟩
   | 1,ho =>
     obtain rfl:o1_rat1=o:=Option.some.inj ho
     cases hd
     refine wpOp_plain' (o:=o1_rat1) rfl rfl ?_
     unfold Oper.wp o1_rat1
     rw [run_load3 (E3 sv) XT.c0 XT.c1 XT.c2,Oper.upon_value]
     exact ⟨_,rfl,Below.refl _ _,rfl⟩
   | 2,ho =>
     obtain rfl:o2_rat1=o:=Option.some.inj ho
     cases hd
     have h12:VRQ (Rat.divInt 1 1) (2) (sv 12) w':=hf ⟨0,.data⟩ (by simp [o2_rat1]) rfl _ 12 rfl rfl (NE _ (by decide))
     obtain ⟨s12_,A12_,n12_,c12_,B12_,m12_,d12_,f12,q12⟩:=h12
     have f13:sv 13=Value.agg #[.bool s,.slice A1 n1 c1,.slice A2 n2 c2]:=hf ⟨1,.data⟩ (by simp [o2_rat1]) rfl _ 13 rfl rfl (NE _ (by decide))
     refine wpOp_plain' (o:=o2_rat1) rfl rfl ?_
     unfold Oper.wp o2_rat1
     rw [rc_gesso_gessoref03_Sub ((G sv 12 (by decide) (by decide)).trans f12) ((G sv 13 (by decide) (by decide)).trans f13) rfl,Oper.upon_enter]
     refine (rsub3 q12 tq (by decide) (by decide)).mono ?_
     rintro e w1 ⟨s_,A_,n_,c_,B_,m_,d_,rfl,hq,hh⟩
     exact ⟨_,rfl,hh,s_,A_,n_,c_,B_,m_,d_,rfl,hq⟩
   | 3,ho=>cases ho;cases hd;exact absurd rfl (hia (B0_rat1 vt) (List.Mem.head _))
   | 4,ho=>cases ho;cases hd
   | i+5,ho=>cases ho
 · intro p hp os sv w' g hos J0 p1 p3 hf
   simp only [List.mem_cons,List.not_mem_nil,or_false] at hp
   rcases hp with rfl
   · obtain rfl:o4_rat1=os:=Option.some.inj hos
     have h1:VRQ (Rat.divInt 1 1 - vt) (2+12+1) (sv 14) w':=hf ⟨2,.data⟩ (by simp [o4_rat1]) rfl _ 14 rfl rfl (NE _ (by decide))
     rw [← G sv 14 (by decide) (by decide)] at h1
     refine store_rq (V:=Rat.divInt 1 1 - vt) (k:=2+12+1) (ac:=putAll ac L_rat1 sv) (z:=.tmp 14) ?_ ?_ ?_
     · exact (G sv 5 (by decide) (by decide)).trans p1
     · exact h1
     · exact p3
 · intro sv w' J0 hF hB hap
   obtain ⟨g0,cs0,p0,r0,b0,⟨s0,A0,n0,c0,B0,m0,d0,rfl,h0⟩⟩:=hB (B0_rat1 vt) (List.Mem.head _)
   have p0':sv 5=.pointer (some ⟨g0,0,none⟩):=p0
   exact hend sv w' g0 _ _ _ _ _ _ _ h0 b0.at_ r0 p0'   J0
theorem mkbx46_17 {w W:World} {x0 x1 x2 x3 x4 x5 x6 x7 x8:Value} (h:((w.alloc (Obj.cells #[x0,x1,x2] 49)).alloc (Obj.cells #[x3,x4,x5,x6,x7,x8] 51))=W):Below w.heap.size w W∧B3R W (w.heap.size) x0 x1 x2∧B6R W (w.heap.size+1) x3 x4 x5 x6 x7 x8∧W.heap.size=w.heap.size+2:=by subst h;exact ⟨by exact (((Below.refl _ _).alloc (Nat.le_refl _) _).alloc (by simp) _),by exact (B3R.new' _ _ _ _ _ rfl).alloc _,by exact B6R.new' _ _ _ _ _ _ _ _ (by simp),by simp⟩
theorem rat13 {A:Option Addr} {n c k:Nat} {s:Bool} {A1 A2:Option Addr} {n1 c1 n2 c2:Nat} {L:List HV} {V:List AH} {vt:Rat} (hL:SV w A (hvs L)) (hE:EachH RH w L V k) (hn:L.length=n) (t:RQ w s A1 n1 c1 A2 n2 c2 vt 12) (hk:k≤12) (hG:GoodH V) (h0:0≤vt∧vt≤1) :
 Calls Tryz.prog 27 #[.slice A n c,.agg #[.bool s,.slice A1 n1 c1,.slice A2 n2 c2]] w (GivesRP w (bez vt V).px (bez vt V).py 484):=by
 have HN:=Lib.hid hn
 have HVl:Hid (V.length=n):=hE.1.symm.trans hn
 have HL9:=Lib.hid hL;have E9:=Lib.hid hE
 have HB:Hid (2≤n∧n≤4):=by show _∧_;have:=hG.1;rw [hE.1.symm.trans hn] at this;exact this
 have HK:=Lib.hid hk;have HG:=Lib.hid hG;have H0:=Lib.hid h0
 have hwn:IntKind.i64.wrap ((n:Int) - 1)=(n:Int) - 1:=IntWalk.i64_in _ (by have:=HB.out;omega)
 clear hL hE hn hk hG h0
 go_enter Tryz.func27,Tryz.ntmps27
 go_upto_region 1 with (fail)
 generalize hW:World.alloc _ _=W
 obtain ⟨hb,XT,Z,hzW⟩:=mkbx46_17 hW;clear hW;replace t:=t.below hb
 refine rat1_region (by simp) rfl XT t ?_
 intro V1 w_1 g_u s_u A_u n_u c_u B_u m_u d_u u XU hg_u hvu hh
 simp only [putAll,Act.put,List.setIfInBounds_toArray,List.set_cons_zero,List.set_cons_succ,hvu]
 clear hvu;replace t:=t.below hh;replace XT:=XT.below hh;replace Z:=Z.below hh;replace hb:=bend hb hh
 have HGU:Hid (w.heap.size+1 < g_u):=by show _ < _;omega
 clear hzW hg_u hh
 go_upto_region 4 with (first
  | (have hq:=a2;clear hq;go_at_call 25;(with_reducible refine (rof3 0 1 (by decide) (by decide) (by decide) (by decide) (by decide) _).mono ?_);rintro e w_a3 ⟨s_a3,A_a3,n_a3,c_a3,B_a3,m_a3,d_a3,rfl,a3,hh⟩
     (try replace t:=t.below hh);(try replace XT:=XT.below hh);(try replace Z:=Z.below hh);(try replace u:=u.below hh);(try replace XU:=XU.below hh);(try replace a1:=a1.below hh);(try replace a2:=a2.below hh);replace hb:=bend hb hh
     have zs:=st_newJ w_a3 (.bool s_a1) (.slice A_a1 n_a1 c_a1) (.slice B_a1 m_a1 d_a1) (.bool s_a2) (.slice A_a2 n_a2 c_a2) (.slice B_a2 m_a2 d_a2) (.bool s_a3) (.slice A_a3 n_a3 c_a3) (.slice B_a3 m_a3 d_a3) (by simp [Value.oneCell']))
  | (have hq:=a1;clear hq;go_at_call 25;(with_reducible refine (rof3 0 1 (by decide) (by decide) (by decide) (by decide) (by decide) _).mono ?_);rintro e w_a2 ⟨s_a2,A_a2,n_a2,c_a2,B_a2,m_a2,d_a2,rfl,a2,hh⟩
     (try replace t:=t.below hh);(try replace XT:=XT.below hh);(try replace Z:=Z.below hh);(try replace u:=u.below hh);(try replace XU:=XU.below hh);(try replace a1:=a1.below hh);(try replace a3:=a3.below hh);replace hb:=bend hb hh)
  | (go_at_call 25;(with_reducible refine (rof3 0 1 (by decide) (by decide) (by decide) (by decide) (by decide) _).mono ?_);rintro e w_a1 ⟨s_a1,A_a1,n_a1,c_a1,B_a1,m_a1,d_a1,rfl,a1,hh⟩
     (try replace t:=t.below hh);(try replace XT:=XT.below hh);(try replace Z:=Z.below hh);(try replace u:=u.below hh);(try replace XU:=XU.below hh);(try replace a2:=a2.below hh);(try replace a3:=a3.below hh);replace hb:=bend hb hh))
 clear zs
 generalize hW:(w_a3.alloc (Obj.cells #[Value.bool s_a1,Value.slice A_a1 n_a1 c_a1,Value.slice B_a1 m_a1 d_a1,Value.bool s_a2,Value.slice A_a2 n_a2 c_a2,Value.slice B_a2 m_a2 d_a2,Value.bool s_a3,Value.slice A_a3 n_a3 c_a3,Value.slice B_a3 m_a3 d_a3] 75))=W2
 have hh:Below w_a3.heap.size w_a3 W2:=by subst hW;exact ((Below.refl _ _).alloc (Nat.le_refl _) _)
 have XS:BJ W2 (w_a3.heap.size) (Value.bool s_a1) (Value.slice A_a1 n_a1 c_a1) (Value.slice B_a1 m_a1 d_a1) (Value.bool s_a2) (Value.slice A_a2 n_a2 c_a2) (Value.slice B_a2 m_a2 d_a2) (Value.bool s_a3) (Value.slice A_a3 n_a3 c_a3) (Value.slice B_a3 m_a3 d_a3):=by subst hW;exact BJ.new' _ _ _ _ _ _ _ _ _ _ _ rfl
 have HGS:Hid (g_u < w_a3.heap.size∧w.heap.size+1 < w_a3.heap.size):=⟨XU.lt,Z.lt⟩
 clear hW;replace t:=t.below hh;replace XT:=XT.below hh;replace Z:=Z.below hh;replace u:=u.below hh;replace XU:=XU.below hh;replace a1:=a1.below hh;replace a2:=a2.below hh;replace a3:=a3.below hh;replace hb:=bend hb hh;clear hh;have HZ9:=Lib.hid Z
 generalize w_a3.heap.size=g_s at XS HGS ⊢
 clear Z
 go_wp2_with fail
 go_loopg [8,9] n (fun gk mm ix wr=>∃ (m:Nat) (S:HV),Hid (gk+m=n)∧ix=.int .i64 (m:Int)∧mm=.int .i64 (chN (n - 1) m:Int)∧B3R wr w.heap.size (.bool s) (.slice A1 n1 c1) (.slice A2 n2 c2)∧RQ wr s A1 n1 c1 A2 n2 c2 vt 12∧B3R wr g_u (.bool s_u) (.slice A_u n_u c_u) (.slice B_u m_u d_u)∧RQ wr s_u A_u n_u c_u B_u m_u d_u (Rat.divInt 1 1 - vt) (2+12+1)∧BJ wr g_s (.bool S.x.s) (.slice S.x.A S.x.n S.x.c) (.slice S.x.B S.x.m S.x.d) (.bool S.y.s) (.slice S.y.A S.y.n S.y.c) (.slice S.y.B S.y.m S.y.d) (.bool S.w.s) (.slice S.w.A S.w.n S.w.c) (.slice S.w.B S.w.m S.w.d)∧Hid (RH wr S (sumG V (n - 1) vt (Rat.divInt 1 1 - vt) m) (2+60*m))∧Hid (B6R wr (w.heap.size+1) (.bool false) (.slice none 0 0) (.slice none 0 0) (.bool false) (.slice none 0 0) (.slice none 0 0))∧Below w.heap.size w wr)
 case atStart=>exact ⟨0,⟨⟨s_a1,A_a1,n_a1,c_a1,B_a1,m_a1,d_a1⟩,⟨s_a2,A_a2,n_a2,c_a2,B_a2,m_a2,d_a2⟩,⟨s_a3,A_a3,n_a3,c_a3,B_a3,m_a3,d_a3⟩⟩,Nat.add_zero _,rfl,by have hc:chN (n - 1) 0=1:=(by have:=HB.out;rcases (show n=2 ∨ n=3 ∨ n=4 by omega) with rfl | rfl | rfl <;> rfl);rw [hc];rfl,XT,t,XU,u,XS,⟨a1,a2,a3⟩,HZ9,hb⟩
 case round =>
  clear XT t XU u XS a1 a2 a3 HZ9 hb
  obtain ⟨m,S,HGK,rfl,rfl,XT,t,XU,u,XS,SH,HZ9,hb⟩:=hrel
  have hch:=chN_le (n - 1) m
  by_cases hmn:m < n
  · have HMN:=Lib.hid hmn
    have hle:(m:Int)≤(n:Int) - 1:=by omega
    clear hmn
    go_upto_region 9 with (first
     | (go_at_call 25;(with_reducible refine (rof3 (chN (n - 1) m:Int) 1 (by omega) (by omega) (by decide) (by decide) (by decide) _).mono ?_);rintro e w_p ⟨s_p,A_p,n_p,c_p,B_p,m_p,d_p,rfl,p,hh⟩
        have hwp:=hh;(try replace t:=t.below hh);(try replace XT:=XT.below hh);(try replace u:=u.below hh);(try replace XU:=XU.below hh);(try replace XS:=XS.below hh);replace hb:=bend hb hh))
    generalize hW:(w_p.alloc (Obj.cells #[Value.bool s_p,Value.slice A_p n_p c_p,Value.slice B_p m_p d_p] 49))=W3
    have hh:Below w_p.heap.size w_p W3:=by subst hW;exact ((Below.refl _ _).alloc (Nat.le_refl _) _)
    have XK:B3R W3 (w_p.heap.size) (Value.bool s_p) (Value.slice A_p n_p c_p) (Value.slice B_p m_p d_p):=by subst hW;exact B3R.new' _ _ _ _ _ rfl
    have HGP:Hid (g_s < w_p.heap.size):=XS.lt
    have HBW:Hid (Below wr.heap.size wr W3):=by
     subst hW;exact hwp.alloc hwp.size _
    clear hW;replace t:=t.below hh;replace XT:=XT.below hh;replace u:=u.below hh;replace XU:=XU.below hh;replace XS:=XS.below hh;replace p:=p.below hh;replace hb:=bend hb hh
    replace SH:=Lib.hid (SH.out.below HBW.out)
    replace HZ9:=Lib.hid (HZ9.out.below HBW.out)
    clear hh HBW hwp
    generalize w_p.heap.size=g_k at XK HGP ⊢
    go_wp2_with fail
    go_loopg [11] (n - 1) (fun gi jx wi=>∃ (j:Nat) (K:QV),Hid (gi+j=n - 1)∧jx=.int .i64 (j:Int)∧B3R wi w.heap.size (.bool s) (.slice A1 n1 c1) (.slice A2 n2 c2)∧RQ wi s A1 n1 c1 A2 n2 c2 vt 12∧B3R wi g_u (.bool s_u) (.slice A_u n_u c_u) (.slice B_u m_u d_u)∧RQ wi s_u A_u n_u c_u B_u m_u d_u (Rat.divInt 1 1 - vt) (2+12+1)∧BJ wi g_s (.bool S.x.s) (.slice S.x.A S.x.n S.x.c) (.slice S.x.B S.x.m S.x.d) (.bool S.y.s) (.slice S.y.A S.y.n S.y.c) (.slice S.y.B S.y.m S.y.d) (.bool S.w.s) (.slice S.w.A S.w.n S.w.c) (.slice S.w.B S.w.m S.w.d)∧Hid (RH wi S (sumG V (n - 1) vt (Rat.divInt 1 1 - vt) m) (2+60*m))∧Hid (B6R wi (w.heap.size+1) (.bool false) (.slice none 0 0) (.slice none 0 0) (.bool false) (.slice none 0 0) (.slice none 0 0))∧B3R wi g_k (.bool K.s) (.slice K.A K.n K.c) (.slice K.B K.m K.d)∧Hid (RQ wi K.s K.A K.n K.c K.B K.m K.d (pwG m (Rat.divInt (chN (n - 1) m:Int) 1) vt (Rat.divInt 1 1 - vt) j) (2+15*j))∧Below w.heap.size w wi)
    case atStart=>exact ⟨0,⟨s_p,A_p,n_p,c_p,B_p,m_p,d_p⟩,Nat.add_zero _,rfl,XT,t,XU,u,XS,SH,HZ9,XK,p,hb⟩
    case round =>
     clear XT t XU u XS SH HZ9 XK p hb
     obtain ⟨j,K,HGI,rfl,XT,t,XU,u,XS,SH,HZ9,XK,KQ,hb⟩:=hrel
     obtain ⟨s_p,A_p,n_p,c_p,B_p,m_p,d_p⟩:=K
     have p:RQ wr s_p A_p n_p c_p B_p m_p d_p (pwG m (Rat.divInt (chN (n - 1) m:Int) 1) vt (Rat.divInt 1 1 - vt) j) (2+15*j):=KQ.out
     replace XK:B3R wr g_k (.bool s_p) (.slice A_p n_p c_p) (.slice B_p m_p d_p):=XK
     clear KQ
     by_cases hj:j < n - 1
     · have HJ:=Lib.hid hj
       have hlj:(j:Int) < (n:Int) - 1:=by omega
       have hwj:IntKind.i64.wrap ((j:Int)+1)=(j:Int)+1:=IntWalk.i64_in _ (by have:=HB.out;omega)
       clear hj
       by_cases hji:j < m
       · have HJI:=Lib.hid hji
         have hlm:(j:Int) < (m:Int):=by omega
         have hpw:pwG m (Rat.divInt (chN (n - 1) m:Int) 1) vt (Rat.divInt 1 1 - vt) j*vt=pwG m (Rat.divInt (chN (n - 1) m:Int) 1) vt (Rat.divInt 1 1 - vt) (j+1):=by rw [pwG,if_pos HJI.out]
         have HPW:=Lib.hid hpw;clear hpw hji;have xk0:=XK.c0;have xf0:=XK.f0;have xb0:=XT.c0;have xk1:=XK.c1;have xf1:=XK.f1;have xb1:=XT.c1;have xk2:=XK.c2;have xf2:=XK.f2;have xb2:=XT.c2
         go_upto_region 11 with (first
          | (go_at_call 65;(with_reducible refine (rmul3 p t (by have:=HJ.out;have:=HB.out;omega) (by decide)).mono ?_);rintro e w_r ⟨s_r,A_r,n_r,c_r,B_r,m_r,d_r,rfl,r,hh⟩
             (try replace t:=t.below hh);(try replace XT:=XT.below hh);(try replace u:=u.below hh);(try replace XU:=XU.below hh);(try replace XS:=XS.below hh);(try replace XK:=XK.below hh);(try replace p:=p.below hh);replace hb:=bend hb hh
             replace SH:=Lib.hid (SH.out.below hh)
             replace HZ9:=Lib.hid (HZ9.out.below hh)
             have xk0:=XK.c0;have xf0:=XK.f0;have xk1:=XK.c1;have xf1:=XK.f1;have xk2:=XK.c2;have xf2:=XK.f2))
         rw [HPW.out] at r
         replace r:=r.more (show _≤2+15*(j+1) by omega)
         generalize hW5:(((w_r.setCell ⟨g_k,0,none⟩ (Value.bool s_r)).setCell ⟨g_k,1,none⟩ (Value.slice A_r n_r c_r)).setCell ⟨g_k,2,none⟩ (Value.slice B_r m_r d_r))=W5
         have ho:Only g_k w_r W5:=by subst hW5;exact (((Only.refl _ _).setCell 0 _).setCell 1 _).setCell 2 _
         have X5:B3R W5 g_k (Value.bool s_r) (Value.slice A_r n_r c_r) (Value.slice B_r m_r d_r):=by subst hW5;exact XK.set3 _ _ _
         have r5:RQ W5 s_r A_r n_r c_r B_r m_r d_r (pwG m (Rat.divInt (chN (n - 1) m:Int) 1) vt (Rat.divInt 1 1 - vt) (j+1)) (2+15*(j+1)):=by subst hW5;exact r.set3 XK _ _ _
         have hb5:Below w.heap.size w W5:=by subst hW5;exact below_set3 hb (by have:=HGP.out;have:=HGS.out;omega) _ _ _
         have t5:RQ W5 s A1 n1 c1 A2 n2 c2 vt 12:=by subst hW5;exact t.set3 XK _ _ _
         have u5:RQ W5 s_u A_u n_u c_u B_u m_u d_u (Rat.divInt 1 1 - vt) (2+12+1):=by subst hW5;exact u.set3 XK _ _ _
         have S5:Hid (RH W5 S (sumG V (n - 1) vt (Rat.divInt 1 1 - vt) m) (2+60*m)):=by subst hW5;exact ⟨SH.out.1.set3 XK _ _ _,SH.out.2.1.set3 XK _ _ _,SH.out.2.2.set3 XK _ _ _⟩
         have T5:=XT.restm (by have:=HGP.out;have:=HGS.out;omega) ho
         have U5:=XU.restm (by have:=HGP.out;have:=HGS.out;omega) ho
         have XS5:=XS.restm (by have:=HGP.out;omega) ho
         have Z5:=Lib.hid (HZ9.out.restm (by have:=HGP.out;have:=HGS.out;omega) ho)
         clear hW5 ho XT t XU u XS SH HZ9 XK p hb r xk0 xf0 xb0 xk1 xf1 xb1 xk2 xf2 xb2
         go_wp2_with fail
         go_roundg (gk - 1)
         case measure=>have:=HGI.out;have:=HJ.out;omega
         case rel=>exact ⟨j+1,⟨s_r,A_r,n_r,c_r,B_r,m_r,d_r⟩,by have:=HGI.out;have:=HJ.out;show _=_;omega,by go_num,T5,t5,U5,u5,XS5,S5,Z5,X5,r5,hb5⟩
       · have HJI:=Lib.hid hji
         have hlm:¬ (j:Int) < (m:Int):=by omega
         have hpw:pwG m (Rat.divInt (chN (n - 1) m:Int) 1) vt (Rat.divInt 1 1 - vt) j*(Rat.divInt 1 1 - vt)=pwG m (Rat.divInt (chN (n - 1) m:Int) 1) vt (Rat.divInt 1 1 - vt) (j+1):=by rw [pwG,if_neg HJI.out]
         have HPW:=Lib.hid hpw;clear hpw hji;have xk0:=XK.c0;have xf0:=XK.f0;have xb0:=XU.c0;have xk1:=XK.c1;have xf1:=XK.f1;have xb1:=XU.c1;have xk2:=XK.c2;have xf2:=XK.f2;have xb2:=XU.c2
         go_upto_region 11 with (first
          | (go_at_call 65;(with_reducible refine (rmul3 p u (by have:=HJ.out;have:=HB.out;omega) (by decide)).mono ?_);rintro e w_r ⟨s_r,A_r,n_r,c_r,B_r,m_r,d_r,rfl,r,hh⟩
             (try replace t:=t.below hh);(try replace XT:=XT.below hh);(try replace u:=u.below hh);(try replace XU:=XU.below hh);(try replace XS:=XS.below hh);(try replace XK:=XK.below hh);(try replace p:=p.below hh);replace hb:=bend hb hh
             replace SH:=Lib.hid (SH.out.below hh)
             replace HZ9:=Lib.hid (HZ9.out.below hh)
             have xk0:=XK.c0;have xf0:=XK.f0;have xk1:=XK.c1;have xf1:=XK.f1;have xk2:=XK.c2;have xf2:=XK.f2))
         rw [HPW.out] at r
         replace r:=r.more (show _≤2+15*(j+1) by omega)
         generalize hW5:(((w_r.setCell ⟨g_k,0,none⟩ (Value.bool s_r)).setCell ⟨g_k,1,none⟩ (Value.slice A_r n_r c_r)).setCell ⟨g_k,2,none⟩ (Value.slice B_r m_r d_r))=W5
         have ho:Only g_k w_r W5:=by subst hW5;exact (((Only.refl _ _).setCell 0 _).setCell 1 _).setCell 2 _
         have X5:B3R W5 g_k (Value.bool s_r) (Value.slice A_r n_r c_r) (Value.slice B_r m_r d_r):=by subst hW5;exact XK.set3 _ _ _
         have r5:RQ W5 s_r A_r n_r c_r B_r m_r d_r (pwG m (Rat.divInt (chN (n - 1) m:Int) 1) vt (Rat.divInt 1 1 - vt) (j+1)) (2+15*(j+1)):=by subst hW5;exact r.set3 XK _ _ _
         have hb5:Below w.heap.size w W5:=by subst hW5;exact below_set3 hb (by have:=HGP.out;have:=HGS.out;omega) _ _ _
         have t5:RQ W5 s A1 n1 c1 A2 n2 c2 vt 12:=by subst hW5;exact t.set3 XK _ _ _
         have u5:RQ W5 s_u A_u n_u c_u B_u m_u d_u (Rat.divInt 1 1 - vt) (2+12+1):=by subst hW5;exact u.set3 XK _ _ _
         have S5:Hid (RH W5 S (sumG V (n - 1) vt (Rat.divInt 1 1 - vt) m) (2+60*m)):=by subst hW5;exact ⟨SH.out.1.set3 XK _ _ _,SH.out.2.1.set3 XK _ _ _,SH.out.2.2.set3 XK _ _ _⟩
         have T5:=XT.restm (by have:=HGP.out;have:=HGS.out;omega) ho
         have U5:=XU.restm (by have:=HGP.out;have:=HGS.out;omega) ho
         have XS5:=XS.restm (by have:=HGP.out;omega) ho
         have Z5:=Lib.hid (HZ9.out.restm (by have:=HGP.out;have:=HGS.out;omega) ho)
         clear hW5 ho XT t XU u XS SH HZ9 XK p hb r xk0 xf0 xb0 xk1 xf1 xb1 xk2 xf2 xb2
         go_wp2_with fail
         go_roundg (gk - 1)
         case measure=>have:=HGI.out;have:=HJ.out;omega
         case rel=>exact ⟨j+1,⟨s_r,A_r,n_r,c_r,B_r,m_r,d_r⟩,by have:=HGI.out;have:=HJ.out;show _=_;omega,by go_num,T5,t5,U5,u5,XS5,S5,Z5,X5,r5,hb5⟩
     · obtain rfl:n - 1=j:=by have:=HGI.out;omega
       clear hj
       obtain ⟨P,v,hP1,hu1,p0⟩:=(E9.out.belowJ hb).at_ (i:=m) (by rw [HN.out];exact HMN.out)
       obtain ⟨g0,o0,hix0,EP0,_⟩:=(HL9.out.below hb).jt hP1
       have hixa:∀ w',(Instr.indexAt 41 (.slice A n c) (.int .i64 (m:Int))).run Tryz.prog w'=.ok (.pointer (some ⟨g0,o0,none⟩)) w':=fun w'=>hix0 n c w' HMN.out
       have HU:=Lib.hid hu1;have HO:=HB.out
       obtain ⟨⟨s_a,A_a,n_a,c_a,B_a,m_a,d_a⟩,⟨s_b,A_b,n_b,c_b,B_b,m_b,d_b⟩,⟨s_c,A_c,n_c,c_c,B_c,m_c,d_c⟩⟩:=S
       have sx:=SH.out.qx;have sy:=SH.out.qy;have sw:=SH.out.qw;have px:=p0.qx;have py:=p0.qy;have pw:=p0.qw;have HKm:=HK.out;have HMm:=HMN.out;clear hP1 hu1 hix0 p0 SH
       go_upto_region 15 with (fail)
       replace XT:=XT.below (Below.refl _ _).drew
       replace t:=t.below (Below.refl _ _).drew
       replace XU:=XU.below (Below.refl _ _).drew
       replace u:=u.below (Below.refl _ _).drew
       replace XS:=XS.below (Below.refl _ _).drew
       replace XK:=XK.below (Below.refl _ _).drew
       replace p:=p.below (Below.refl _ _).drew
       replace EP0:=EP0.below (Below.refl _ _).drew
       replace sx:=sx.below (Below.refl _ _).drew
       replace sy:=sy.below (Below.refl _ _).drew
       replace sw:=sw.below (Below.refl _ _).drew
       replace px:=px.below (Below.refl _ _).drew
       replace py:=py.below (Below.refl _ _).drew
       replace pw:=pw.below (Below.refl _ _).drew
       replace HZ9:=Lib.hid (HZ9.out.below (Below.refl _ _).drew)
       replace hb:=hb.drew
       refine wp_region_last _ (o:=⟨none,.store 75 (.tmp 7) (.tmp 73),0, "ref.go:115",#[⟨30,.data⟩,⟨29,.chain⟩,⟨0,.phase⟩,⟨1,.phase⟩,⟨2,.phase⟩,⟨3,.phase⟩,⟨4,.phase⟩,⟨5,.phase⟩,⟨6,.phase⟩,⟨7,.phase⟩,⟨8,.phase⟩,⟨9,.phase⟩,⟨10,.phase⟩,⟨11,.phase⟩,⟨12,.phase⟩,⟨13,.phase⟩,⟨14,.phase⟩,⟨15,.phase⟩,⟨16,.phase⟩,⟨17,.phase⟩,⟨18,.phase⟩,⟨19,.phase⟩,⟨20,.phase⟩,⟨21,.phase⟩,⟨22,.phase⟩,⟨23,.phase⟩,⟨24,.phase⟩,⟨25,.phase⟩,⟨26,.phase⟩,⟨27,.phase⟩,⟨28,.phase⟩,⟨29,.phase⟩,⟨30,.phase⟩],none⟩) rfl (by kernel_rfl) (by kernel_rfl) (by kernel_rfl) rfl ?_
       refine held_go (S:=(fun w'=>w'.cell? ⟨g_s,0,none⟩=some (.bool s_a)∧w'.cell? ⟨g_s,1,none⟩=some (.slice A_a n_a c_a)∧w'.cell? ⟨g_s,2,none⟩=some (.slice B_a m_a d_a)∧w'.cell? ⟨g_s,3,none⟩=some (.bool s_b)∧w'.cell? ⟨g_s,4,none⟩=some (.slice A_b n_b c_b)∧w'.cell? ⟨g_s,5,none⟩=some (.slice B_b m_b d_b)∧w'.cell? ⟨g_s,6,none⟩=some (.bool s_c)∧w'.cell? ⟨g_s,7,none⟩=some (.slice A_c n_c c_c)∧w'.cell? ⟨g_s,8,none⟩=some (.slice B_c m_c d_c)∧w'.cell? ⟨g_k,0,none⟩=some (.bool s_p)∧w'.cell? ⟨g_k,1,none⟩=some (.slice A_p n_p c_p)∧w'.cell? ⟨g_k,2,none⟩=some (.slice B_p m_p d_p)∧w'.cell? ⟨g0,o0,none⟩=some (.bool P.x.s)∧w'.cell? ⟨g0,o0+1,none⟩=some (.slice P.x.A P.x.n P.x.c)∧w'.cell? ⟨g0,o0+2,none⟩=some (.slice P.x.B P.x.m P.x.d)∧w'.cell? ⟨g0,o0+3,none⟩=some (.bool P.y.s)∧w'.cell? ⟨g0,o0+4,none⟩=some (.slice P.y.A P.y.n P.y.c)∧w'.cell? ⟨g0,o0+5,none⟩=some (.slice P.y.B P.y.m P.y.d)∧w'.cell? ⟨g0,o0+6,none⟩=some (.bool P.w.s)∧w'.cell? ⟨g0,o0+7,none⟩=some (.slice P.w.A P.w.n P.w.c)∧w'.cell? ⟨g0,o0+8,none⟩=some (.slice P.w.B P.w.m P.w.d))) ⟨XS.c0,XS.c1,XS.c2,XS.c3,XS.c4,XS.c5,XS.c6,XS.c7,XS.c8,XK.c0,XK.c1,XK.c2,EP0.c0,EP0.c1,EP0.c2,EP0.c3,EP0.c4,EP0.c5,EP0.c6,EP0.c7,EP0.c8⟩ (fun hHeld=>?_)
       refine wpAnyH_take (i:=0) (v:=?_) rfl (by kernel_rfl) (by kernel_rfl) (by kernel_rfl) (fun _ _ _ h=>h) (Or.inl ⟨by rfl,?_⟩) hHeld ?_
       rotate_left
       · (intro w hSw;(try dsimp only at hSw);go_simp;try with_reducible rfl)
       simp only [Act.put,List.setIfInBounds_toArray,List.set_cons_zero,List.set_cons_succ]
       refine wpAnyH_take (i:=1) (v:=?_) rfl (by kernel_rfl) (by kernel_rfl) (by kernel_rfl) (fun _ _ _ h=>h) (Or.inl ⟨by rfl,?_⟩) hHeld ?_
       rotate_left
       · (intro w hSw;(try dsimp only at hSw);go_simp;try with_reducible rfl)
       simp only [Act.put,List.setIfInBounds_toArray,List.set_cons_zero,List.set_cons_succ]
       refine wpAnyH_take (i:=2) (v:=?_) rfl (by kernel_rfl) (by kernel_rfl) (by kernel_rfl) (fun _ _ _ h=>h) (Or.inl ⟨by rfl,?_⟩) hHeld ?_
       rotate_left
       · (intro w hSw;(try dsimp only at hSw);go_simp;try with_reducible rfl)
       simp only [Act.put,List.setIfInBounds_toArray,List.set_cons_zero,List.set_cons_succ]
       refine wpAnyH_take (i:=3) (v:=?_) rfl (by kernel_rfl) (by kernel_rfl) (by kernel_rfl) (fun _ _ _ h=>h) (Or.inl ⟨by rfl,?_⟩) hHeld ?_
       rotate_left
       · (intro w hSw;(try dsimp only at hSw);go_simp;try with_reducible rfl)
       simp only [Act.put,List.setIfInBounds_toArray,List.set_cons_zero,List.set_cons_succ]
       refine wpAnyH_take (i:=4) (v:=?_) rfl (by kernel_rfl) (by kernel_rfl) (by kernel_rfl) (fun _ _ _ h=>h) (Or.inl ⟨by rfl,?_⟩) hHeld ?_
       rotate_left
       · (intro w hSw;(try dsimp only at hSw);go_simp;try with_reducible rfl)
       simp only [Act.put,List.setIfInBounds_toArray,List.set_cons_zero,List.set_cons_succ]
       refine wpAnyH_take (i:=5) (v:=?_) rfl (by kernel_rfl) (by kernel_rfl) (by kernel_rfl) (fun _ _ _ h=>h) (Or.inl ⟨by rfl,?_⟩) hHeld ?_
       rotate_left
       · (intro w hSw;(try dsimp only at hSw);go_simp;try with_reducible rfl)
       simp only [Act.put,List.setIfInBounds_toArray,List.set_cons_zero,List.set_cons_succ]
       refine wpAnyH_take (i:=6) (v:=?_) rfl (by kernel_rfl) (by kernel_rfl) (by kernel_rfl) (fun _ _ _ h=>h) (Or.inl ⟨by rfl,?_⟩) hHeld ?_
       rotate_left
       · (intro w hSw;(try dsimp only at hSw);go_simp;try with_reducible rfl)
       simp only [Act.put,List.setIfInBounds_toArray,List.set_cons_zero,List.set_cons_succ]
       refine wpAnyH_take (i:=7) (v:=?_) rfl (by kernel_rfl) (by kernel_rfl) (by kernel_rfl) (fun _ _ _ h=>h) (Or.inl ⟨by rfl,?_⟩) hHeld ?_
       rotate_left
       · (intro w hSw;(try dsimp only at hSw);go_simp;try with_reducible rfl)
       simp only [Act.put,List.setIfInBounds_toArray,List.set_cons_zero,List.set_cons_succ]
       refine wpAnyH_take (i:=10) (v:=?_) rfl (by kernel_rfl) (by kernel_rfl) (by kernel_rfl) (fun _ _ _ h=>h) (Or.inl ⟨by rfl,?_⟩) hHeld ?_
       rotate_left
       · (intro w hSw;(try dsimp only at hSw);go_simp;try with_reducible rfl)
       simp only [Act.put,List.setIfInBounds_toArray,List.set_cons_zero,List.set_cons_succ]
       refine wpAnyH_take (i:=11) (v:=?_) rfl (by kernel_rfl) (by kernel_rfl) (by kernel_rfl) (fun _ _ _ h=>h) (Or.inl ⟨by rfl,?_⟩) hHeld ?_
       rotate_left
       · (intro w hSw;(try dsimp only at hSw);go_simp;try with_reducible rfl)
       simp only [Act.put,List.setIfInBounds_toArray,List.set_cons_zero,List.set_cons_succ]
       refine wpAnyH_take (i:=12) (v:=?_) rfl (by kernel_rfl) (by kernel_rfl) (by kernel_rfl) (fun _ _ _ h=>h) (Or.inl ⟨by rfl,?_⟩) hHeld ?_
       rotate_left
       · (intro w hSw;(try dsimp only at hSw);go_simp;try with_reducible rfl)
       simp only [Act.put,List.setIfInBounds_toArray,List.set_cons_zero,List.set_cons_succ]
       refine wpAnyH_take (i:=13) (v:=?_) rfl (by kernel_rfl) (by kernel_rfl) (by kernel_rfl) (fun _ _ _ h=>h) (Or.inl ⟨by rfl,?_⟩) hHeld ?_
       rotate_left
       · (intro w hSw;(try dsimp only at hSw);go_simp;try with_reducible rfl)
       simp only [Act.put,List.setIfInBounds_toArray,List.set_cons_zero,List.set_cons_succ]
       refine wpAnyH_take (i:=14) (v:=?_) rfl (by kernel_rfl) (by kernel_rfl) (by kernel_rfl) (fun _ _ _ h=>h) (Or.inl ⟨by rfl,?_⟩) hHeld ?_
       rotate_left
       · (intro w hSw;(try dsimp only at hSw);go_simp;try with_reducible rfl)
       simp only [Act.put,List.setIfInBounds_toArray,List.set_cons_zero,List.set_cons_succ]
       refine wpAnyH_take (i:=15) (v:=?_) rfl (by kernel_rfl) (by kernel_rfl) (by kernel_rfl) (fun _ _ _ h=>h) (Or.inl ⟨by rfl,?_⟩) hHeld ?_
       rotate_left
       · (intro w hSw;(try dsimp only at hSw);go_simp;try with_reducible rfl)
       simp only [Act.put,List.setIfInBounds_toArray,List.set_cons_zero,List.set_cons_succ]
       refine wpAnyH_take (i:=16) (v:=?_) rfl (by kernel_rfl) (by kernel_rfl) (by kernel_rfl) (fun _ _ _ h=>h) (Or.inl ⟨by rfl,?_⟩) hHeld ?_
       rotate_left
       · (intro w hSw;(try dsimp only at hSw);go_simp;try with_reducible rfl)
       simp only [Act.put,List.setIfInBounds_toArray,List.set_cons_zero,List.set_cons_succ]
       refine wpAnyH_take (i:=17) (v:=?_) rfl (by kernel_rfl) (by kernel_rfl) (by kernel_rfl) (fun _ _ _ h=>h) (Or.inl ⟨by rfl,?_⟩) hHeld ?_
       rotate_left
       · (intro w hSw;(try dsimp only at hSw);go_simp;try with_reducible rfl)
       simp only [Act.put,List.setIfInBounds_toArray,List.set_cons_zero,List.set_cons_succ]
       refine wpAnyH_take (i:=20) (v:=?_) rfl (by kernel_rfl) (by kernel_rfl) (by kernel_rfl) (fun _ _ _ h=>h) (Or.inl ⟨by rfl,?_⟩) hHeld ?_
       rotate_left
       · (intro w hSw;(try dsimp only at hSw);go_simp;try with_reducible rfl)
       simp only [Act.put,List.setIfInBounds_toArray,List.set_cons_zero,List.set_cons_succ]
       refine wpAnyH_take (i:=21) (v:=?_) rfl (by kernel_rfl) (by kernel_rfl) (by kernel_rfl) (fun _ _ _ h=>h) (Or.inl ⟨by rfl,?_⟩) hHeld ?_
       rotate_left
       · (intro w hSw;(try dsimp only at hSw);go_simp;try with_reducible rfl)
       simp only [Act.put,List.setIfInBounds_toArray,List.set_cons_zero,List.set_cons_succ]
       refine wpAnyH_take (i:=22) (v:=?_) rfl (by kernel_rfl) (by kernel_rfl) (by kernel_rfl) (fun _ _ _ h=>h) (Or.inl ⟨by rfl,?_⟩) hHeld ?_
       rotate_left
       · (intro w hSw;(try dsimp only at hSw);go_simp;try with_reducible rfl)
       simp only [Act.put,List.setIfInBounds_toArray,List.set_cons_zero,List.set_cons_succ]
       refine wpAnyH_take (i:=23) (v:=?_) rfl (by kernel_rfl) (by kernel_rfl) (by kernel_rfl) (fun _ _ _ h=>h) (Or.inl ⟨by rfl,?_⟩) hHeld ?_
       rotate_left
       · (intro w hSw;(try dsimp only at hSw);go_simp;try with_reducible rfl)
       simp only [Act.put,List.setIfInBounds_toArray,List.set_cons_zero,List.set_cons_succ]
       refine wpAnyH_take (i:=24) (v:=?_) rfl (by kernel_rfl) (by kernel_rfl) (by kernel_rfl) (fun _ _ _ h=>h) (Or.inl ⟨by rfl,?_⟩) hHeld ?_
       rotate_left
       · (intro w hSw;(try dsimp only at hSw);go_simp;try with_reducible rfl)
       simp only [Act.put,List.setIfInBounds_toArray,List.set_cons_zero,List.set_cons_succ]
       refine wpAnyH_take (i:=25) (v:=?_) rfl (by kernel_rfl) (by kernel_rfl) (by kernel_rfl) (fun _ _ _ h=>h) (Or.inl ⟨by rfl,?_⟩) hHeld ?_
       rotate_left
       · (intro w hSw;(try dsimp only at hSw);go_simp;try with_reducible rfl)
       simp only [Act.put,List.setIfInBounds_toArray,List.set_cons_zero,List.set_cons_succ]
       refine wpAnyH_take (i:=26) (v:=?_) rfl (by kernel_rfl) (by kernel_rfl) (by kernel_rfl) (fun _ _ _ h=>h) (Or.inl ⟨by rfl,?_⟩) hHeld ?_
       rotate_left
       · (intro w hSw;(try dsimp only at hSw);go_simp;try with_reducible rfl)
       simp only [Act.put,List.setIfInBounds_toArray,List.set_cons_zero,List.set_cons_succ]
       refine wpAnyH_take (i:=27) (v:=?_) rfl (by kernel_rfl) (by kernel_rfl) (by kernel_rfl) (fun _ _ _ h=>h) (Or.inl ⟨by rfl,?_⟩) hHeld ?_
       rotate_left
       · (intro w hSw;(try dsimp only at hSw);go_simp;try with_reducible rfl)
       simp only [Act.put,List.setIfInBounds_toArray,List.set_cons_zero,List.set_cons_succ]
       refine wpAnyH_ready (rs:=[8]) (by kernel_rfl) (by simp) ?_
       refine AllReadyH.cons (o:=⟨some 51,.call ⟨.value (.func 65),#[.tmp 49,.tmp 50],#[49,49]⟩,49, "ref.go:115",#[⟨6,.data⟩,⟨7,.data⟩],none⟩) rfl (fun K1 hK1=>?_) AllReadyH.nil
       go_simp
       first
       | (go_at_call 65;(with_reducible refine (rmul3 px p (by omega) (by omega)).mono ?_);rintro e w_r1 ⟨s_r1,A_r1,n_r1,c_r1,B_r1,m_r1,d_r1,rfl,r1,hh⟩
          (try replace XT:=XT.below hh);(try replace t:=t.below hh);(try replace XU:=XU.below hh);(try replace u:=u.below hh);(try replace XS:=XS.below hh);(try replace XK:=XK.below hh);(try replace p:=p.below hh);(try replace EP0:=EP0.below hh);(try replace sx:=sx.below hh);(try replace sy:=sy.below hh);(try replace sw:=sw.below hh);(try replace px:=px.below hh);(try replace py:=py.below hh);(try replace pw:=pw.below hh);(try replace q1:=q1.below hh);(try replace r2:=r2.below hh);(try replace q2:=q2.below hh);(try replace r3:=r3.below hh);(try replace q3:=q3.below hh);replace hb:=bend hb hh
          replace HZ9:=Lib.hid (HZ9.out.below hh))
       | (go_at_call 65;(with_reducible refine (rmul3 py p (by omega) (by omega)).mono ?_);rintro e w_r2 ⟨s_r2,A_r2,n_r2,c_r2,B_r2,m_r2,d_r2,rfl,r2,hh⟩
          (try replace XT:=XT.below hh);(try replace t:=t.below hh);(try replace XU:=XU.below hh);(try replace u:=u.below hh);(try replace XS:=XS.below hh);(try replace XK:=XK.below hh);(try replace p:=p.below hh);(try replace EP0:=EP0.below hh);(try replace sx:=sx.below hh);(try replace sy:=sy.below hh);(try replace sw:=sw.below hh);(try replace px:=px.below hh);(try replace py:=py.below hh);(try replace pw:=pw.below hh);(try replace r1:=r1.below hh);(try replace q1:=q1.below hh);(try replace q2:=q2.below hh);(try replace r3:=r3.below hh);(try replace q3:=q3.below hh);replace hb:=bend hb hh
          replace HZ9:=Lib.hid (HZ9.out.below hh))
       | (go_at_call 65;(with_reducible refine (rmul3 pw p (by omega) (by omega)).mono ?_);rintro e w_r3 ⟨s_r3,A_r3,n_r3,c_r3,B_r3,m_r3,d_r3,rfl,r3,hh⟩
          (try replace XT:=XT.below hh);(try replace t:=t.below hh);(try replace XU:=XU.below hh);(try replace u:=u.below hh);(try replace XS:=XS.below hh);(try replace XK:=XK.below hh);(try replace p:=p.below hh);(try replace EP0:=EP0.below hh);(try replace sx:=sx.below hh);(try replace sy:=sy.below hh);(try replace sw:=sw.below hh);(try replace px:=px.below hh);(try replace py:=py.below hh);(try replace pw:=pw.below hh);(try replace r1:=r1.below hh);(try replace q1:=q1.below hh);(try replace r2:=r2.below hh);(try replace q2:=q2.below hh);(try replace q3:=q3.below hh);replace hb:=bend hb hh
          replace HZ9:=Lib.hid (HZ9.out.below hh))
       refine hK1.out _ _ (by with_reducible exact ⟨XS.c0,XS.c1,XS.c2,XS.c3,XS.c4,XS.c5,XS.c6,XS.c7,XS.c8,XK.c0,XK.c1,XK.c2,EP0.c0,EP0.c1,EP0.c2,EP0.c3,EP0.c4,EP0.c5,EP0.c6,EP0.c7,EP0.c8⟩) (fun hHeld=>?_)
       clear hK1 K1
       refine wpAnyH_ready (rs:=[9]) (by kernel_rfl) (by simp) ?_
       refine AllReadyH.cons (o:=⟨some 52,.call ⟨.value (.func 66),#[.tmp 44,.tmp 51],#[49,49]⟩,49, "ref.go:115",#[⟨1,.data⟩,⟨8,.data⟩,⟨8,.chain⟩],none⟩) rfl (fun K1 hK1=>?_) AllReadyH.nil
       go_simp
       first
       | (go_at_call 66;(with_reducible refine (radd3 sx r1 (by omega) (by omega)).mono ?_);rintro e w_q1 ⟨s_q1,A_q1,n_q1,c_q1,B_q1,m_q1,d_q1,rfl,q1,hh⟩
          (try replace XT:=XT.below hh);(try replace t:=t.below hh);(try replace XU:=XU.below hh);(try replace u:=u.below hh);(try replace XS:=XS.below hh);(try replace XK:=XK.below hh);(try replace p:=p.below hh);(try replace EP0:=EP0.below hh);(try replace sx:=sx.below hh);(try replace sy:=sy.below hh);(try replace sw:=sw.below hh);(try replace px:=px.below hh);(try replace py:=py.below hh);(try replace pw:=pw.below hh);(try replace r1:=r1.below hh);(try replace r2:=r2.below hh);(try replace q2:=q2.below hh);(try replace r3:=r3.below hh);(try replace q3:=q3.below hh);replace hb:=bend hb hh
          replace HZ9:=Lib.hid (HZ9.out.below hh))
       | (go_at_call 66;(with_reducible refine (radd3 sy r2 (by omega) (by omega)).mono ?_);rintro e w_q2 ⟨s_q2,A_q2,n_q2,c_q2,B_q2,m_q2,d_q2,rfl,q2,hh⟩
          (try replace XT:=XT.below hh);(try replace t:=t.below hh);(try replace XU:=XU.below hh);(try replace u:=u.below hh);(try replace XS:=XS.below hh);(try replace XK:=XK.below hh);(try replace p:=p.below hh);(try replace EP0:=EP0.below hh);(try replace sx:=sx.below hh);(try replace sy:=sy.below hh);(try replace sw:=sw.below hh);(try replace px:=px.below hh);(try replace py:=py.below hh);(try replace pw:=pw.below hh);(try replace r1:=r1.below hh);(try replace q1:=q1.below hh);(try replace r2:=r2.below hh);(try replace r3:=r3.below hh);(try replace q3:=q3.below hh);replace hb:=bend hb hh
          replace HZ9:=Lib.hid (HZ9.out.below hh))
       | (go_at_call 66;(with_reducible refine (radd3 sw r3 (by omega) (by omega)).mono ?_);rintro e w_q3 ⟨s_q3,A_q3,n_q3,c_q3,B_q3,m_q3,d_q3,rfl,q3,hh⟩
          (try replace XT:=XT.below hh);(try replace t:=t.below hh);(try replace XU:=XU.below hh);(try replace u:=u.below hh);(try replace XS:=XS.below hh);(try replace XK:=XK.below hh);(try replace p:=p.below hh);(try replace EP0:=EP0.below hh);(try replace sx:=sx.below hh);(try replace sy:=sy.below hh);(try replace sw:=sw.below hh);(try replace px:=px.below hh);(try replace py:=py.below hh);(try replace pw:=pw.below hh);(try replace r1:=r1.below hh);(try replace q1:=q1.below hh);(try replace r2:=r2.below hh);(try replace q2:=q2.below hh);(try replace r3:=r3.below hh);replace hb:=bend hb hh
          replace HZ9:=Lib.hid (HZ9.out.below hh))
       refine hK1.out _ _ (by with_reducible exact ⟨XS.c0,XS.c1,XS.c2,XS.c3,XS.c4,XS.c5,XS.c6,XS.c7,XS.c8,XK.c0,XK.c1,XK.c2,EP0.c0,EP0.c1,EP0.c2,EP0.c3,EP0.c4,EP0.c5,EP0.c6,EP0.c7,EP0.c8⟩) (fun hHeld=>?_)
       clear hK1 K1
       refine wpAnyH_ready (rs:=[18]) (by kernel_rfl) (by simp) ?_
       refine AllReadyH.cons (o:=⟨some 61,.call ⟨.value (.func 65),#[.tmp 59,.tmp 60],#[49,49]⟩,49, "ref.go:115",#[⟨16,.data⟩,⟨17,.data⟩,⟨9,.chain⟩],none⟩) rfl (fun K1 hK1=>?_) AllReadyH.nil
       go_simp
       first
       | (go_at_call 65;(with_reducible refine (rmul3 px p (by omega) (by omega)).mono ?_);rintro e w_r1 ⟨s_r1,A_r1,n_r1,c_r1,B_r1,m_r1,d_r1,rfl,r1,hh⟩
          (try replace XT:=XT.below hh);(try replace t:=t.below hh);(try replace XU:=XU.below hh);(try replace u:=u.below hh);(try replace XS:=XS.below hh);(try replace XK:=XK.below hh);(try replace p:=p.below hh);(try replace EP0:=EP0.below hh);(try replace sx:=sx.below hh);(try replace sy:=sy.below hh);(try replace sw:=sw.below hh);(try replace px:=px.below hh);(try replace py:=py.below hh);(try replace pw:=pw.below hh);(try replace q1:=q1.below hh);(try replace r2:=r2.below hh);(try replace q2:=q2.below hh);(try replace r3:=r3.below hh);(try replace q3:=q3.below hh);replace hb:=bend hb hh
          replace HZ9:=Lib.hid (HZ9.out.below hh))
       | (go_at_call 65;(with_reducible refine (rmul3 py p (by omega) (by omega)).mono ?_);rintro e w_r2 ⟨s_r2,A_r2,n_r2,c_r2,B_r2,m_r2,d_r2,rfl,r2,hh⟩
          (try replace XT:=XT.below hh);(try replace t:=t.below hh);(try replace XU:=XU.below hh);(try replace u:=u.below hh);(try replace XS:=XS.below hh);(try replace XK:=XK.below hh);(try replace p:=p.below hh);(try replace EP0:=EP0.below hh);(try replace sx:=sx.below hh);(try replace sy:=sy.below hh);(try replace sw:=sw.below hh);(try replace px:=px.below hh);(try replace py:=py.below hh);(try replace pw:=pw.below hh);(try replace r1:=r1.below hh);(try replace q1:=q1.below hh);(try replace q2:=q2.below hh);(try replace r3:=r3.below hh);(try replace q3:=q3.below hh);replace hb:=bend hb hh
          replace HZ9:=Lib.hid (HZ9.out.below hh))
       | (go_at_call 65;(with_reducible refine (rmul3 pw p (by omega) (by omega)).mono ?_);rintro e w_r3 ⟨s_r3,A_r3,n_r3,c_r3,B_r3,m_r3,d_r3,rfl,r3,hh⟩
          (try replace XT:=XT.below hh);(try replace t:=t.below hh);(try replace XU:=XU.below hh);(try replace u:=u.below hh);(try replace XS:=XS.below hh);(try replace XK:=XK.below hh);(try replace p:=p.below hh);(try replace EP0:=EP0.below hh);(try replace sx:=sx.below hh);(try replace sy:=sy.below hh);(try replace sw:=sw.below hh);(try replace px:=px.below hh);(try replace py:=py.below hh);(try replace pw:=pw.below hh);(try replace r1:=r1.below hh);(try replace q1:=q1.below hh);(try replace r2:=r2.below hh);(try replace q2:=q2.below hh);(try replace q3:=q3.below hh);replace hb:=bend hb hh
          replace HZ9:=Lib.hid (HZ9.out.below hh))
       refine hK1.out _ _ (by with_reducible exact ⟨XS.c0,XS.c1,XS.c2,XS.c3,XS.c4,XS.c5,XS.c6,XS.c7,XS.c8,XK.c0,XK.c1,XK.c2,EP0.c0,EP0.c1,EP0.c2,EP0.c3,EP0.c4,EP0.c5,EP0.c6,EP0.c7,EP0.c8⟩) (fun hHeld=>?_)
       clear hK1 K1
       refine wpAnyH_ready (rs:=[19]) (by kernel_rfl) (by simp) ?_
       refine AllReadyH.cons (o:=⟨some 62,.call ⟨.value (.func 66),#[.tmp 54,.tmp 61],#[49,49]⟩,49, "ref.go:115",#[⟨11,.data⟩,⟨18,.data⟩,⟨18,.chain⟩],none⟩) rfl (fun K1 hK1=>?_) AllReadyH.nil
       go_simp
       first
       | (go_at_call 66;(with_reducible refine (radd3 sx r1 (by omega) (by omega)).mono ?_);rintro e w_q1 ⟨s_q1,A_q1,n_q1,c_q1,B_q1,m_q1,d_q1,rfl,q1,hh⟩
          (try replace XT:=XT.below hh);(try replace t:=t.below hh);(try replace XU:=XU.below hh);(try replace u:=u.below hh);(try replace XS:=XS.below hh);(try replace XK:=XK.below hh);(try replace p:=p.below hh);(try replace EP0:=EP0.below hh);(try replace sx:=sx.below hh);(try replace sy:=sy.below hh);(try replace sw:=sw.below hh);(try replace px:=px.below hh);(try replace py:=py.below hh);(try replace pw:=pw.below hh);(try replace r1:=r1.below hh);(try replace r2:=r2.below hh);(try replace q2:=q2.below hh);(try replace r3:=r3.below hh);(try replace q3:=q3.below hh);replace hb:=bend hb hh
          replace HZ9:=Lib.hid (HZ9.out.below hh))
       | (go_at_call 66;(with_reducible refine (radd3 sy r2 (by omega) (by omega)).mono ?_);rintro e w_q2 ⟨s_q2,A_q2,n_q2,c_q2,B_q2,m_q2,d_q2,rfl,q2,hh⟩
          (try replace XT:=XT.below hh);(try replace t:=t.below hh);(try replace XU:=XU.below hh);(try replace u:=u.below hh);(try replace XS:=XS.below hh);(try replace XK:=XK.below hh);(try replace p:=p.below hh);(try replace EP0:=EP0.below hh);(try replace sx:=sx.below hh);(try replace sy:=sy.below hh);(try replace sw:=sw.below hh);(try replace px:=px.below hh);(try replace py:=py.below hh);(try replace pw:=pw.below hh);(try replace r1:=r1.below hh);(try replace q1:=q1.below hh);(try replace r2:=r2.below hh);(try replace r3:=r3.below hh);(try replace q3:=q3.below hh);replace hb:=bend hb hh
          replace HZ9:=Lib.hid (HZ9.out.below hh))
       | (go_at_call 66;(with_reducible refine (radd3 sw r3 (by omega) (by omega)).mono ?_);rintro e w_q3 ⟨s_q3,A_q3,n_q3,c_q3,B_q3,m_q3,d_q3,rfl,q3,hh⟩
          (try replace XT:=XT.below hh);(try replace t:=t.below hh);(try replace XU:=XU.below hh);(try replace u:=u.below hh);(try replace XS:=XS.below hh);(try replace XK:=XK.below hh);(try replace p:=p.below hh);(try replace EP0:=EP0.below hh);(try replace sx:=sx.below hh);(try replace sy:=sy.below hh);(try replace sw:=sw.below hh);(try replace px:=px.below hh);(try replace py:=py.below hh);(try replace pw:=pw.below hh);(try replace r1:=r1.below hh);(try replace q1:=q1.below hh);(try replace r2:=r2.below hh);(try replace q2:=q2.below hh);(try replace r3:=r3.below hh);replace hb:=bend hb hh
          replace HZ9:=Lib.hid (HZ9.out.below hh))
       refine hK1.out _ _ (by with_reducible exact ⟨XS.c0,XS.c1,XS.c2,XS.c3,XS.c4,XS.c5,XS.c6,XS.c7,XS.c8,XK.c0,XK.c1,XK.c2,EP0.c0,EP0.c1,EP0.c2,EP0.c3,EP0.c4,EP0.c5,EP0.c6,EP0.c7,EP0.c8⟩) (fun hHeld=>?_)
       clear hK1 K1
       refine wpAnyH_ready (rs:=[28]) (by kernel_rfl) (by simp) ?_
       refine AllReadyH.cons (o:=⟨some 71,.call ⟨.value (.func 65),#[.tmp 69,.tmp 70],#[49,49]⟩,49, "ref.go:115",#[⟨26,.data⟩,⟨27,.data⟩,⟨19,.chain⟩],none⟩) rfl (fun K1 hK1=>?_) AllReadyH.nil
       go_simp
       first
       | (go_at_call 65;(with_reducible refine (rmul3 px p (by omega) (by omega)).mono ?_);rintro e w_r1 ⟨s_r1,A_r1,n_r1,c_r1,B_r1,m_r1,d_r1,rfl,r1,hh⟩
          (try replace XT:=XT.below hh);(try replace t:=t.below hh);(try replace XU:=XU.below hh);(try replace u:=u.below hh);(try replace XS:=XS.below hh);(try replace XK:=XK.below hh);(try replace p:=p.below hh);(try replace EP0:=EP0.below hh);(try replace sx:=sx.below hh);(try replace sy:=sy.below hh);(try replace sw:=sw.below hh);(try replace px:=px.below hh);(try replace py:=py.below hh);(try replace pw:=pw.below hh);(try replace q1:=q1.below hh);(try replace r2:=r2.below hh);(try replace q2:=q2.below hh);(try replace r3:=r3.below hh);(try replace q3:=q3.below hh);replace hb:=bend hb hh
          replace HZ9:=Lib.hid (HZ9.out.below hh))
       | (go_at_call 65;(with_reducible refine (rmul3 py p (by omega) (by omega)).mono ?_);rintro e w_r2 ⟨s_r2,A_r2,n_r2,c_r2,B_r2,m_r2,d_r2,rfl,r2,hh⟩
          (try replace XT:=XT.below hh);(try replace t:=t.below hh);(try replace XU:=XU.below hh);(try replace u:=u.below hh);(try replace XS:=XS.below hh);(try replace XK:=XK.below hh);(try replace p:=p.below hh);(try replace EP0:=EP0.below hh);(try replace sx:=sx.below hh);(try replace sy:=sy.below hh);(try replace sw:=sw.below hh);(try replace px:=px.below hh);(try replace py:=py.below hh);(try replace pw:=pw.below hh);(try replace r1:=r1.below hh);(try replace q1:=q1.below hh);(try replace q2:=q2.below hh);(try replace r3:=r3.below hh);(try replace q3:=q3.below hh);replace hb:=bend hb hh
          replace HZ9:=Lib.hid (HZ9.out.below hh))
       | (go_at_call 65;(with_reducible refine (rmul3 pw p (by omega) (by omega)).mono ?_);rintro e w_r3 ⟨s_r3,A_r3,n_r3,c_r3,B_r3,m_r3,d_r3,rfl,r3,hh⟩
          (try replace XT:=XT.below hh);(try replace t:=t.below hh);(try replace XU:=XU.below hh);(try replace u:=u.below hh);(try replace XS:=XS.below hh);(try replace XK:=XK.below hh);(try replace p:=p.below hh);(try replace EP0:=EP0.below hh);(try replace sx:=sx.below hh);(try replace sy:=sy.below hh);(try replace sw:=sw.below hh);(try replace px:=px.below hh);(try replace py:=py.below hh);(try replace pw:=pw.below hh);(try replace r1:=r1.below hh);(try replace q1:=q1.below hh);(try replace r2:=r2.below hh);(try replace q2:=q2.below hh);(try replace q3:=q3.below hh);replace hb:=bend hb hh
          replace HZ9:=Lib.hid (HZ9.out.below hh))
       refine hK1.out _ _ (by with_reducible exact ⟨XS.c0,XS.c1,XS.c2,XS.c3,XS.c4,XS.c5,XS.c6,XS.c7,XS.c8,XK.c0,XK.c1,XK.c2,EP0.c0,EP0.c1,EP0.c2,EP0.c3,EP0.c4,EP0.c5,EP0.c6,EP0.c7,EP0.c8⟩) (fun hHeld=>?_)
       clear hK1 K1
       refine wpAnyH_ready (rs:=[29]) (by kernel_rfl) (by simp) ?_
       refine AllReadyH.cons (o:=⟨some 72,.call ⟨.value (.func 66),#[.tmp 64,.tmp 71],#[49,49]⟩,49, "ref.go:115",#[⟨21,.data⟩,⟨28,.data⟩,⟨28,.chain⟩],none⟩) rfl (fun K1 hK1=>?_) AllReadyH.nil
       go_simp
       first
       | (go_at_call 66;(with_reducible refine (radd3 sx r1 (by omega) (by omega)).mono ?_);rintro e w_q1 ⟨s_q1,A_q1,n_q1,c_q1,B_q1,m_q1,d_q1,rfl,q1,hh⟩
          (try replace XT:=XT.below hh);(try replace t:=t.below hh);(try replace XU:=XU.below hh);(try replace u:=u.below hh);(try replace XS:=XS.below hh);(try replace XK:=XK.below hh);(try replace p:=p.below hh);(try replace EP0:=EP0.below hh);(try replace sx:=sx.below hh);(try replace sy:=sy.below hh);(try replace sw:=sw.below hh);(try replace px:=px.below hh);(try replace py:=py.below hh);(try replace pw:=pw.below hh);(try replace r1:=r1.below hh);(try replace r2:=r2.below hh);(try replace q2:=q2.below hh);(try replace r3:=r3.below hh);(try replace q3:=q3.below hh);replace hb:=bend hb hh
          replace HZ9:=Lib.hid (HZ9.out.below hh))
       | (go_at_call 66;(with_reducible refine (radd3 sy r2 (by omega) (by omega)).mono ?_);rintro e w_q2 ⟨s_q2,A_q2,n_q2,c_q2,B_q2,m_q2,d_q2,rfl,q2,hh⟩
          (try replace XT:=XT.below hh);(try replace t:=t.below hh);(try replace XU:=XU.below hh);(try replace u:=u.below hh);(try replace XS:=XS.below hh);(try replace XK:=XK.below hh);(try replace p:=p.below hh);(try replace EP0:=EP0.below hh);(try replace sx:=sx.below hh);(try replace sy:=sy.below hh);(try replace sw:=sw.below hh);(try replace px:=px.below hh);(try replace py:=py.below hh);(try replace pw:=pw.below hh);(try replace r1:=r1.below hh);(try replace q1:=q1.below hh);(try replace r2:=r2.below hh);(try replace r3:=r3.below hh);(try replace q3:=q3.below hh);replace hb:=bend hb hh
          replace HZ9:=Lib.hid (HZ9.out.below hh))
       | (go_at_call 66;(with_reducible refine (radd3 sw r3 (by omega) (by omega)).mono ?_);rintro e w_q3 ⟨s_q3,A_q3,n_q3,c_q3,B_q3,m_q3,d_q3,rfl,q3,hh⟩
          (try replace XT:=XT.below hh);(try replace t:=t.below hh);(try replace XU:=XU.below hh);(try replace u:=u.below hh);(try replace XS:=XS.below hh);(try replace XK:=XK.below hh);(try replace p:=p.below hh);(try replace EP0:=EP0.below hh);(try replace sx:=sx.below hh);(try replace sy:=sy.below hh);(try replace sw:=sw.below hh);(try replace px:=px.below hh);(try replace py:=py.below hh);(try replace pw:=pw.below hh);(try replace r1:=r1.below hh);(try replace q1:=q1.below hh);(try replace r2:=r2.below hh);(try replace q2:=q2.below hh);(try replace r3:=r3.below hh);replace hb:=bend hb hh
          replace HZ9:=Lib.hid (HZ9.out.below hh))
       refine hK1.out _ _ (by with_reducible exact ⟨XS.c0,XS.c1,XS.c2,XS.c3,XS.c4,XS.c5,XS.c6,XS.c7,XS.c8,XK.c0,XK.c1,XK.c2,EP0.c0,EP0.c1,EP0.c2,EP0.c3,EP0.c4,EP0.c5,EP0.c6,EP0.c7,EP0.c8⟩) (fun hHeld=>?_)
       clear hK1 K1
       refine wpAnyH_take (i:=30) (v:=?_) rfl (by kernel_rfl) (by kernel_rfl) (by kernel_rfl) (fun _ _ _ h=>h) (Or.inl ⟨by rfl,?_⟩) hHeld ?_
       rotate_left
       · (intro w hSw;(try dsimp only at hSw);go_simp;try with_reducible rfl)
       simp only [Act.put,List.setIfInBounds_toArray,List.set_cons_zero,List.set_cons_succ]
       refine wpAnyH_done (by kernel_rfl) ?_ _
       have zst:=XS.st (.bool s_q1) (.slice A_q1 n_q1 c_q1) (.slice B_q1 m_q1 d_q1) (.bool s_q2) (.slice A_q2 n_q2 c_q2) (.slice B_q2 m_q2 d_q2) (.bool s_q3) (.slice A_q3 n_q3 c_q3) (.slice B_q3 m_q3 d_q3) (by simp [Value.oneCell'])
       change Oper.wp _ _ _ _ _ _
       go_simp
       clear zst hixa hHeld
       generalize hW7:(((((((((w_q3.setCell ⟨g_s,0,none⟩ (Value.bool s_q1)).setCell ⟨g_s,1,none⟩ (Value.slice A_q1 n_q1 c_q1)).setCell ⟨g_s,2,none⟩ (Value.slice B_q1 m_q1 d_q1)).setCell ⟨g_s,3,none⟩ (Value.bool s_q2)).setCell ⟨g_s,4,none⟩ (Value.slice A_q2 n_q2 c_q2)).setCell ⟨g_s,5,none⟩ (Value.slice B_q2 m_q2 d_q2)).setCell ⟨g_s,6,none⟩ (Value.bool s_q3)).setCell ⟨g_s,7,none⟩ (Value.slice A_q3 n_q3 c_q3)).setCell ⟨g_s,8,none⟩ (Value.slice B_q3 m_q3 d_q3))=W7
       have ho:Only g_s w_q3 W7:=by subst hW7;exact only_set9 _ _ _ _ _ _ _ _ _ _ _
       have X7:BJ W7 g_s (Value.bool s_q1) (Value.slice A_q1 n_q1 c_q1) (Value.slice B_q1 m_q1 d_q1) (Value.bool s_q2) (Value.slice A_q2 n_q2 c_q2) (Value.slice B_q2 m_q2 d_q2) (Value.bool s_q3) (Value.slice A_q3 n_q3 c_q3) (Value.slice B_q3 m_q3 d_q3):=by subst hW7;exact XS.set9 _ _ _ _ _ _ _ _ _
       have hb7:Below w.heap.size w W7:=by subst hW7;exact below_set9 hb (by have:=HGS.out;omega) _ _ _ _ _ _ _ _ _
       replace t:=RQ.setB (h:=⟨⟨s_a,A_a,n_a,c_a,B_a,m_a,d_a⟩,⟨s_b,A_b,n_b,c_b,B_b,m_b,d_b⟩,⟨s_c,A_c,n_c,c_c,B_c,m_c,d_c⟩⟩) t XS ho
       replace u:=RQ.setB (h:=⟨⟨s_a,A_a,n_a,c_a,B_a,m_a,d_a⟩,⟨s_b,A_b,n_b,c_b,B_b,m_b,d_b⟩,⟨s_c,A_c,n_c,c_c,B_c,m_c,d_c⟩⟩) u XS ho
       replace q1:=RQ.setB (h:=⟨⟨s_a,A_a,n_a,c_a,B_a,m_a,d_a⟩,⟨s_b,A_b,n_b,c_b,B_b,m_b,d_b⟩,⟨s_c,A_c,n_c,c_c,B_c,m_c,d_c⟩⟩) q1 XS ho
       replace q2:=RQ.setB (h:=⟨⟨s_a,A_a,n_a,c_a,B_a,m_a,d_a⟩,⟨s_b,A_b,n_b,c_b,B_b,m_b,d_b⟩,⟨s_c,A_c,n_c,c_c,B_c,m_c,d_c⟩⟩) q2 XS ho
       replace q3:=RQ.setB (h:=⟨⟨s_a,A_a,n_a,c_a,B_a,m_a,d_a⟩,⟨s_b,A_b,n_b,c_b,B_b,m_b,d_b⟩,⟨s_c,A_c,n_c,c_c,B_c,m_c,d_c⟩⟩) q3 XS ho
       replace XT:=XT.restm (by have:=HGS.out;omega) ho
       replace XU:=XU.restm (by have:=HGS.out;omega) ho
       replace HZ9:=Lib.hid (HZ9.out.restm (by have:=HGS.out;omega) ho)
       have SH7:Hid (RH W7 ⟨⟨s_q1,A_q1,n_q1,c_q1,B_q1,m_q1,d_q1⟩,⟨s_q2,A_q2,n_q2,c_q2,B_q2,m_q2,d_q2⟩,⟨s_q3,A_q3,n_q3,c_q3,B_q3,m_q3,d_q3⟩⟩ (sumG V (n - 1) vt (Rat.divInt 1 1 - vt) (m+1)) (2+60*(m+1))):=by
        have hV:V.getD m ⟨0,0,0⟩=v:=by rw [List.getD_eq_getElem?_getD,HU.out];rfl
        show RH _ _ _ _
        rw [sumG,hV]
        exact ⟨q1.more (by omega),q2.more (by omega),q3.more (by omega)⟩
       have hwa:IntKind.i64.wrap ((n:Int) - 1 - (m:Int))=(n:Int) - 1 - (m:Int):=IntWalk.i64_in _ (by omega)
       have hmb:(chN (n - 1) m:Int)*((n:Int) - 1 - (m:Int))=(chN (n - 1) m*(n - 1 - m):Nat):=by rw [Int.natCast_mul,show ((n - 1 - m:Nat):Int)=(n:Int) - 1 - (m:Int) by omega]
       have hmc:chN (n - 1) m*(n - 1 - m)≤3*3:=Nat.mul_le_mul hch (by omega)
       have hwb:IntKind.i64.wrap ((chN (n - 1) m:Int)*((n:Int) - 1 - (m:Int)))=(chN (n - 1) m:Int)*((n:Int) - 1 - (m:Int)):=IntWalk.i64_in _ (by rw [hmb];omega)
       have hwm:IntKind.i64.wrap ((m:Int)+1)=(m:Int)+1:=IntWalk.i64_in _ (by omega)
       have hst:((chN (n - 1) m:Int)*((n:Int) - 1 - (m:Int))).tdiv ((m:Int)+1)=(chN (n - 1) (m+1):Int):=by
        rw [← chN_step (N:=n - 1) (i:=m) (by omega) (by omega) (by omega),show ((n - 1:Nat):Int)=(n:Int) - 1 by omega]
       have hc2:=chN_le (n - 1) (m+1)
       have hwc:IntKind.i64.wrap (chN (n - 1) (m+1):Int)=(chN (n - 1) (m+1):Int):=IntWalk.i64_in _ (by omega)
       have hm0:¬ (m:Int)+1=0:=by omega
       clear hW7 ho XS XK p EP0 sx sy sw px py pw r1 r2 r3 q1 q2 q3 hb hmb hmc HO
       go_wp2_with fail
       go_roundg (n - m - 1)
       case measure=>have:=HGK.out;have:=HMN.out;omega
       case rel=>exact ⟨m+1,_,by have:=HMN.out;show _=_;omega,by go_num,by first | rfl | (rw [hst];rfl) | go_num,XT,t,XU,u,X7,SH7,HZ9,hb7⟩
  · obtain rfl:n=m:=by have:=HGK.out;omega
    have hle:¬ (n:Int)≤(n:Int) - 1:=by omega
    clear hmn;have hs:=sumG_bez HG.out.1 vt;rw [HVl.out] at hs;have HS2:=Lib.hid hs;clear hs
    have SB:Hid (RH wr S (bez vt V) 242):=by
     rw [← HS2.out]
     have:=HB.out
     exact ⟨SH.out.1.more (by omega),SH.out.2.1.more (by omega),SH.out.2.2.more (by omega)⟩
    have HWn:Hid ((bez vt V).w ≠ 0):=by
     have:=bez_w (by have:=HG.out.1;omega) H0.out.1 H0.out.2 HG.out.2
     show _ ≠ _;grind
    have sl:=XS.ld;have ZZ:=HZ9.out;clear SH HZ9
    go_wp2_with (first
     | (go_at_call 29;(with_reducible refine (rpoint13 SB.out (by decide) HWn.out).mono ?_);rintro e w_q ⟨s_q,A_q,n_q,c_q,B_q,m_q,d_q,t_q,E_q,i_q,e_q,F_q,j_q,f_q,rfl,q,hh⟩
        (try replace ZZ:=ZZ.below hh);replace hb:=bend hb hh;have zg0:=ZZ.f0;have zg1:=ZZ.f1;have zg2:=ZZ.f2;have zg3:=ZZ.f3;have zg4:=ZZ.f4;have zg5:=ZZ.f5;obtain ⟨zc0,zc1,zc2,zc3,zc4,zc5⟩:=ZZ.all))
    have Z2:=ZZ.set6 (.bool s_q) (.slice A_q n_q c_q) (.slice B_q m_q d_q) (.bool t_q) (.slice E_q i_q e_q) (.slice F_q j_q f_q)
    obtain ⟨g0,g1,g2,g3,g4,g5⟩:=Z2.all
    refine bodyPost_ret (v:=.agg #[.bool s_q,.slice A_q n_q c_q,.slice B_q m_q d_q,.bool t_q,.slice E_q i_q e_q,.slice F_q j_q f_q]) (by simp [results,Tryz.results27,go_sem,g0,g1,g2,g3,g4,g5]) rfl ?_
    have ex:(bez vt V).x / (bez vt V).w=(bez vt V).px:=by unfold AH.px;grind
    have ey:(bez vt V).y / (bez vt V).w=(bez vt V).py:=by unfold AH.py;grind
    rw [ex,ey] at q
    exact ⟨s_q,A_q,n_q,c_q,B_q,m_q,d_q,t_q,E_q,i_q,e_q,F_q,j_q,f_q,rfl,q.set6 ZZ _ _ _ _ _ _,below_set6 hb (by omega) _ _ _ _ _ _⟩
end Go.Proofs.YtananlhdmekmjaaGreat
