/- FlatTells: part 17. -/
import Derived.Test.YtlpogecpdfdggaaGreatKFlatTells9
import Derived.Test.YtlpogecpdfdggaaGreatKFlatTells13
import Derived.Test.YtlpogecpdfdggaaGreatKFlatTells14
import Derived.Test.YtlpogecpdfdggaaGreatKFlatTells15
import Derived.Test.YtlpogecpdfdggaaGreatKFlatTells16
set_option linter.unusedVariables false
set_option maxRecDepth 100000
set_option maxHeartbeats 16000000
variable {w:Go.World}
variable {s_p t_p:Bool} {A_p B_p E_p F_p:Option Go.Addr} {n_p c_p m_p d_p i_p e_p j_p f_p:Nat}
variable {s_q t_q:Bool} {A_q B_q E_q F_q:Option Go.Addr} {n_q c_q m_q d_q i_q e_q j_q f_q:Nat}
variable {s_r t_r:Bool} {A_r B_r E_r F_r:Option Go.Addr} {n_r c_r m_r d_r i_r e_r j_r f_r:Nat}
variable {s_a:Bool} {A_a B_a:Option Go.Addr} {n_a c_a m_a d_a:Nat}
variable {s_b:Bool} {A_b B_b:Option Go.Addr} {n_b c_b m_b d_b:Nat}
namespace Go.Proofs.YtlpogecpdfdggaaGreat
section
open Go Go.RowKit
attribute [local go_sem ↓] open_LVH open_STH open_LVJ open_STJ
theorem one_n:(Rat.divInt 1 1).num.natAbs < B64 ^ 1:=by decide +kernel
theorem one_d:(Rat.divInt 1 1).den < B64 ^ 1:=by decide +kernel
theorem Ln.svX {T:TypeId} {base:Nat} {A:Option Addr} {n c:Nat} {L:List PV} (h:Ln T base w (.slice A n c) L):SV w A (pvs L):=fun hn=>by
 rcases h.own.2 with ⟨_,e⟩ | ⟨g,cap,cur,hv,_,hg,_⟩
 · rw [show L=[] from List.length_eq_zero_iff.1 e] at hn;exact absurd hn (by simp [pvs])
 · have hc:=h.own.cells (g:=g) (by rw [hv];rfl)
   have ha:∀ j,(⟨g,0,none⟩:Addr).add j=⟨g,j,none⟩:=fun j=>by unfold Addr.add;split <;> simp_all
   simp only [Value.slice.injEq] at hv
   refine ⟨g,0,hv.1,?_,fun j u hu=>by have:=hc j u hu;rw [ha] at this;rw [Nat.zero_add];exact this⟩
   rcases Nat.lt_or_ge g w.heap.size with q | q
   · exact q
   · rw [Array.getElem?_eq_none q] at hg;cases hg
def quadH (V:List (Rat × Rat)):List AH:=V.map fun u=>⟨u.1,u.2,1⟩
theorem E6x.pushX {w w':World} {g o:Nat} {p:PV} {row:Option Nat} (h:E6x w g o p) (hg:w.grownBy w' row) (hne:∀ k,row=some k→k ≠ g):E6x w' g o p:=by
 have hs:=hg.block g h.lt (fun e=>hne g e.symm rfl)
 exact ⟨Nat.lt_of_lt_of_le h.lt hg.size,(World.cell?_of_block (a:=⟨g,o,none⟩) hs).trans h.c0,(World.cell?_of_block (a:=⟨g,o+1,none⟩) hs).trans h.c1,(World.cell?_of_block (a:=⟨g,o+2,none⟩) hs).trans h.c2,(World.cell?_of_block (a:=⟨g,o+3,none⟩) hs).trans h.c3,(World.cell?_of_block (a:=⟨g,o+4,none⟩) hs).trans h.c4,(World.cell?_of_block (a:=⟨g,o+5,none⟩) hs).trans h.c5⟩
theorem cquad {k:Nat} {x y x2 y2 x3 y3:Rat} (p:PG w s_p A_p n_p c_p B_p m_p d_p t_p E_p i_p e_p F_p j_p f_p x y k) (q:PG w s_q A_q n_q c_q B_q m_q d_q t_q E_q i_q e_q F_q j_q f_q x2 y2 k) (r:PG w s_r A_r n_r c_r B_r m_r d_r t_r E_r i_r e_r F_r j_r f_r x3 y3 k) (h1:1≤k) :
 Calls Tryz.prog 26 #[.agg #[.bool s_p,.slice A_p n_p c_p,.slice B_p m_p d_p,.bool t_p,.slice E_p i_p e_p,.slice F_p j_p f_p],.agg #[.bool s_q,.slice A_q n_q c_q,.slice B_q m_q d_q,.bool t_q,.slice E_q i_q e_q,.slice F_q j_q f_q],.agg #[.bool s_r,.slice A_r n_r c_r,.slice B_r m_r d_r,.bool t_r,.slice E_r i_r e_r,.slice F_r j_r f_r]] w (GivesHs w (quadH [(x,y),(x2,y2),(x3,y3)]) k):=by
 go_enter Tryz.func26,Tryz.ntmps26
 go_upto_region 1 with (fail)
 generalize hW:World.alloc _ _=W
 obtain ⟨hb,XA,XB,XC,hzW⟩:=mkbx20_10 hW;clear hW;replace p:=p.below hb;replace q:=q.below hb;replace r:=r.below hb;obtain ⟨xa0,xa1,xa2,xa3,xa4,xa5⟩:=XA.all;obtain ⟨xb0,xb1,xb2,xb3,xb4,xb5⟩:=XB.all;obtain ⟨xc0,xc1,xc2,xc3,xc4,xc5⟩:=XC.all
 have hLit:=Ln.lit (T:=49) (base:=W.heap.size) W [(PV.mk s_p A_p n_p c_p B_p m_p d_p t_p E_p i_p e_p F_p j_p f_p:PV),(PV.mk s_q A_q n_q c_q B_q m_q d_q t_q E_q i_q e_q F_q j_q f_q:PV),(PV.mk s_r A_r n_r c_r B_r m_r d_r t_r E_r i_r e_r F_r j_r f_r:PV)] (Nat.le_refl _) (by simp)
 have hal0:Below W.heap.size W (W.alloc (Obj.cells #[Value.bool s_p,Value.slice A_p n_p c_p,Value.slice B_p m_p d_p,Value.bool t_p,Value.slice E_p i_p e_p,Value.slice F_p j_p f_p,Value.bool s_q,Value.slice A_q n_q c_q,Value.slice B_q m_q d_q,Value.bool t_q,Value.slice E_q i_q e_q,Value.slice F_q j_q f_q,Value.bool s_r,Value.slice A_r n_r c_r,Value.slice B_r m_r d_r,Value.bool t_r,Value.slice E_r i_r e_r,Value.slice F_r j_r f_r] 49)):=((Below.refl _ _).alloc (Nat.le_refl _) _)
 have hE0:Each PV.PG (W.alloc (Obj.cells #[Value.bool s_p,Value.slice A_p n_p c_p,Value.slice B_p m_p d_p,Value.bool t_p,Value.slice E_p i_p e_p,Value.slice F_p j_p f_p,Value.bool s_q,Value.slice A_q n_q c_q,Value.slice B_q m_q d_q,Value.bool t_q,Value.slice E_q i_q e_q,Value.slice F_q j_q f_q,Value.bool s_r,Value.slice A_r n_r c_r,Value.slice B_r m_r d_r,Value.bool t_r,Value.slice E_r i_r e_r,Value.slice F_r j_r f_r] 49)) [(PV.mk s_p A_p n_p c_p B_p m_p d_p t_p E_p i_p e_p F_p j_p f_p:PV),(PV.mk s_q A_q n_q c_q B_q m_q d_q t_q E_q i_q e_q F_q j_q f_q:PV),(PV.mk s_r A_r n_r c_r B_r m_r d_r t_r E_r i_r e_r F_r j_r f_r:PV)] [(x,y),(x2,y2),(x3,y3)] k:=⟨rfl,fun i a b ha hb=>by
  match i with
  | 0=>cases ha;cases hb;exact PG.below p hal0
  | 1=>cases ha;cases hb;exact PG.below q hal0
  | 2=>cases ha;cases hb;exact PG.below r hal0
  | i+3=>cases ha⟩
 have hSV:SV (W.alloc (Obj.cells #[Value.bool s_p,Value.slice A_p n_p c_p,Value.slice B_p m_p d_p,Value.bool t_p,Value.slice E_p i_p e_p,Value.slice F_p j_p f_p,Value.bool s_q,Value.slice A_q n_q c_q,Value.slice B_q m_q d_q,Value.bool t_q,Value.slice E_q i_q e_q,Value.slice F_q j_q f_q,Value.bool s_r,Value.slice A_r n_r c_r,Value.slice B_r m_r d_r,Value.bool t_r,Value.slice E_r i_r e_r,Value.slice F_r j_r f_r] 49)) (some ⟨W.heap.size,0,none⟩) (pvs [(PV.mk s_p A_p n_p c_p B_p m_p d_p t_p E_p i_p e_p F_p j_p f_p:PV),(PV.mk s_q A_q n_q c_q B_q m_q d_q t_q E_q i_q e_q F_q j_q f_q:PV),(PV.mk s_r A_r n_r c_r B_r m_r d_r t_r E_r i_r e_r F_r j_r f_r:PV)]):=hLit.svX
 have hb0:=bend hb hal0;clear p q r hLit
 go_wp2_with fail
 generalize hL0:[(PV.mk s_p A_p n_p c_p B_p m_p d_p t_p E_p i_p e_p F_p j_p f_p:PV),(PV.mk s_q A_q n_q c_q B_q m_q d_q t_q E_q i_q e_q F_q j_q f_q:PV),(PV.mk s_r A_r n_r c_r B_r m_r d_r t_r E_r i_r e_r F_r j_r f_r:PV)]=L0 at *
 generalize hV0:[(x,y),(x2,y2),(x3,y3)]=V0 at *
 have HLl:Hid (L0.length=3):=by show _=_;rw [← hL0];rfl
 have HVl:Hid (V0.length=3):=by show _=_;rw [← hV0];rfl
 clear hL0 hV0
 generalize (W.alloc (Obj.cells #[Value.bool s_p,Value.slice A_p n_p c_p,Value.slice B_p m_p d_p,Value.bool t_p,Value.slice E_p i_p e_p,Value.slice F_p j_p f_p,Value.bool s_q,Value.slice A_q n_q c_q,Value.slice B_q m_q d_q,Value.bool t_q,Value.slice E_q i_q e_q,Value.slice F_q j_q f_q,Value.bool s_r,Value.slice A_r n_r c_r,Value.slice B_r m_r d_r,Value.bool t_r,Value.slice E_r i_r e_r,Value.slice F_r j_r f_r] 49))=W0 at *
 rw [hzW] at hSV
 generalize (some ({block:=w.heap.size+3,off:=0,spot:=none}:Addr))=A0 at *
 have HL9:=Lib.hid hSV;have E9:=Lib.hid hE0;have HB9:=Lib.hid hb0;clear hSV hE0 hb0 hb XA XB XC xa0 xa1 xa2 xa3 xa4 xa5 xb0 xb1 xb2 xb3 xb4 xb5 xc0 xc1 xc2 xc3 xc4 xc5
 go_loopg [8,9] 3 (fun gk out ix wr=>∃ (M:List HV) (m:Nat),Hid (gk+m=3)∧ix=.int .i64 (m:Int)∧LnH 55 W0.heap.size wr out M∧Hid (EachH HG wr M ((quadH V0).take m) k)∧Below W0.heap.size W0 wr)
 case atStart=>exact ⟨[],0,rfl,rfl,LnH.nil _ _ _,⟨rfl,fun i p u h=>by cases h⟩,Below.refl _ _⟩
 case round =>
  obtain ⟨M,m,HG9,rfl,LT,HQ,hB⟩:=hrel
  by_cases hmn:m < 3
  · obtain ⟨P,u,hP1,hu1,p0⟩:=(Each.below E9.out hB).at_ (i:=m) (by rw [HLl.out];exact hmn)
    obtain ⟨g0,o0,hix0,EP0,_⟩:=HL9.out.pt hP1
    have hixa:∀ (c:Nat) (w':World),(Instr.indexAt 104 (.slice A0 3 c) (.int .i64 (m:Int))).run Tryz.prog w'=.ok (.pointer (some ⟨g0,o0,none⟩)) w':=fun c w'=>hix0 3 c w' hmn
    have hlt:(m:Int) < 3:=by omega
    have hwr:IntKind.i64.wrap ((m:Int)+1)=(m:Int)+1:=IntWalk.i64_in _ (by omega)
    have HU:Hid ((quadH V0)[m]?=some ⟨u.1,u.2,1⟩):=by show _=_;unfold quadH;rw [List.getElem?_map,hu1];rfl
    have hMl:M.length≤1000000:=by have:=HQ.out.1;rw [List.length_take] at this;omega
    have HMN:=Lib.hid hmn;have EP:=EP0.below hB
    have hxg:∀ b,u8.ownBlock=some b→b ≠ g0:=fun b e=>by have:=LT.own_base e;have:=EP0.lt;omega
    replace p0:PG wr P.s P.A P.n P.c P.B P.m P.d P.t P.E P.i P.e P.F P.j P.f u.1 u.2 k:=p0
    clear hP1 hu1 hix0 hmn EP0
    go_upto_region 6 with (fail)
    replace LT:=LT.below (Below.refl _ _).drew
    replace EP:=EP.below (Below.refl _ _).drew
    replace p0:=p0.below (Below.refl _ _).drew
    replace HQ:=Lib.hid (EachH.belowG HQ.out (Below.refl _ _).drew)
    replace hB:=hB.drew
    go_region_held3 (fun w'=>w'.cell? ⟨g0,o0,none⟩=some (.bool P.s)∧w'.cell? ⟨g0,o0+1,none⟩=some (.slice P.A P.n P.c)∧w'.cell? ⟨g0,o0+2,none⟩=some (.slice P.B P.m P.d)∧w'.cell? ⟨g0,o0+3,none⟩=some (.bool P.t)∧w'.cell? ⟨g0,o0+4,none⟩=some (.slice P.E P.i P.e)∧w'.cell? ⟨g0,o0+5,none⟩=some (.slice P.F P.j P.f))
     (first | with_reducible exact ⟨EPb.c0,EPb.c1,EPb.c2,EPb.c3,EPb.c4,EPb.c5⟩ | with_reducible exact ⟨EP.c0,EP.c1,EP.c2,EP.c3,EP.c4,EP.c5⟩ | exact ⟨(EP.below ((Below.refl _ _).alloc (Nat.le_refl _) _)).c0,(EP.below ((Below.refl _ _).alloc (Nat.le_refl _) _)).c1,(EP.below ((Below.refl _ _).alloc (Nat.le_refl _) _)).c2,(EP.below ((Below.refl _ _).alloc (Nat.le_refl _) _)).c3,(EP.below ((Below.refl _ _).alloc (Nat.le_refl _) _)).c4,(EP.below ((Below.refl _ _).alloc (Nat.le_refl _) _)).c5⟩)
     (first
     | (go_at_call 41;(with_reducible refine (rof3 1 1 (by decide) (by decide) (by decide) (by decide) (by decide) _).mono ?_);rintro e w_a ⟨s_a,A_a,n_a,c_a,B_a,m_a,d_a,rfl,a,hh⟩
        (try replace LT:=LT.below hh);(try replace EP:=EP.below hh);(try replace p0:=p0.below hh)
        replace HQ:=Lib.hid (EachH.belowG HQ.out hh)
        replace hB:=bend hB hh)
     | (go_at_call 39;(with_reducible refine (rout3g a (by decide) 1 one_n one_d).mono ?_);rintro e w_o ⟨s_o,A_o,n_o,c_o,B_o,m_o,d_o,rfl,o,hh⟩
        (try replace LT:=LT.below hh);(try replace EP:=EP.below hh);(try replace p0:=p0.below hh)
        replace HQ:=Lib.hid (EachH.belowG HQ.out hh)
        replace hB:=bend hB hh)
     | (have hal:Below w_o.heap.size w_o (w_o.alloc (Obj.cells #[Value.bool P.s,Value.slice P.A P.n P.c,Value.slice P.B P.m P.d,Value.bool P.t,Value.slice P.E P.i P.e,Value.slice P.F P.j P.f,Value.bool s_o,Value.slice A_o n_o c_o,Value.slice B_o m_o d_o] 55)):=((Below.refl _ _).alloc (Nat.le_refl _) _)
        have EPa:=EP.below hal
        refine step_pushH Tryz.underlying22 info_hom (by rfl) _ _ (by rfl) (p:=(⟨⟨P.s,P.A,P.n,P.c,P.B,P.m,P.d⟩,⟨P.t,P.E,P.i,P.e,P.F,P.j,P.f⟩,⟨s_o,A_o,n_o,c_o,B_o,m_o,d_o⟩⟩:HV)) (k0:=1) (b:=w_o.heap.size) (by rfl) (by rfl) (LT.below hal) (Nat.le_trans hB.size hal.size) hMl (heap_alloc_new w_o _) ?_
        intro v3 w3 hn3 hg3 ho3
        have EPb:=EPa.pushX hg3 hxg))
    rw [one_q] at o
    have hE3:EachH HG (w_o.alloc (Obj.cells #[Value.bool P.s,Value.slice P.A P.n P.c,Value.slice P.B P.m P.d,Value.bool P.t,Value.slice P.E P.i P.e,Value.slice P.F P.j P.f,Value.bool s_o,Value.slice A_o n_o c_o,Value.slice B_o m_o d_o] 55)) M ((quadH V0).take m) k:=EachH.belowG HQ.out hal
    have hp3:HG (w_o.alloc (Obj.cells #[Value.bool P.s,Value.slice P.A P.n P.c,Value.slice P.B P.m P.d,Value.bool P.t,Value.slice P.E P.i P.e,Value.slice P.F P.j P.f,Value.bool s_o,Value.slice A_o n_o c_o,Value.slice B_o m_o d_o] 55)) (⟨⟨P.s,P.A,P.n,P.c,P.B,P.m,P.d⟩,⟨P.t,P.E,P.i,P.e,P.F,P.j,P.f⟩,⟨s_o,A_o,n_o,c_o,B_o,m_o,d_o⟩⟩:HV) ⟨u.1,u.2,1⟩ k:=(HG.below (h:=(⟨⟨P.s,P.A,P.n,P.c,P.B,P.m,P.d⟩,⟨P.t,P.E,P.i,P.e,P.F,P.j,P.f⟩,⟨s_o,A_o,n_o,c_o,B_o,m_o,d_o⟩⟩:HV)) (v:=⟨u.1,u.2,1⟩) (k:=k) ⟨p0.1,p0.2,o.more h1⟩ hal)
    have hB9:=LnH.under (T:=55) (base:=W0.heap.size) (LT.below hal) hg3 (w0:=W0) (bend hB hal) (Nat.le_refl _)
    have hE4:=takeH HU.out (EachH.push hE3 (fun _ _ h=>(LT.below hal).hg hg3 h) ((LT.below hal).hg hg3 hp3))
    clear hE3 hp3 EPa EPb EP p0 o a
    go_wp2_with fail
    go_roundg (gk - 1)
    case measure=>have:=HG9.out;have:=HMN.out;omega
    case rel=>exact ⟨M ++ [(⟨⟨P.s,P.A,P.n,P.c,P.B,P.m,P.d⟩,⟨P.t,P.E,P.i,P.e,P.F,P.j,P.f⟩,⟨s_o,A_o,n_o,c_o,B_o,m_o,d_o⟩⟩:HV)],m+1,by have:=HG9.out;have:=HMN.out;show _=_;omega,by go_num,hn3,Lib.hid hE4,hB9⟩
  · have hlt:¬ (m:Int) < 3:=by omega
    have HQ2:Hid (EachH HG wr M (quadH V0) k):=by
     have h:=HQ.out
     rwa [List.take_of_length_le (by unfold quadH;rw [List.length_map,HVl.out];omega)] at h
    clear hmn
    go_wp2_with fail
    (try rw [Exit.noGoto_ret])
    go_ret
    exact ⟨_,M,rfl,LT.base_le HB9.out.size,HQ2.out,bend HB9.out hB⟩
end
section
open Go Go.RowKit
attribute [local go_sem ↓] open_LVH open_STH open_LVJ open_STJ
instance (V:List AH):Decidable (GoodH V):=by unfold GoodH;exact inferInstance
end
section
open Go Go.RowKit
attribute [local go_sem ↓] open_LVH open_STH open_LVJ open_STJ
theorem GivesPtE.more {x y:Rat} {k k1:Nat} {en:Ending} {w':World} (h:GivesPtE w x y k en w') (hk:k≤k1):GivesPtE w x y k1 en w':=by
 obtain ⟨s,A,n,c,B,m,d,t,E,i,e,F,j,f,h1,h2,h3⟩:=h
 exact ⟨s,A,n,c,B,m,d,t,E,i,e,F,j,f,h1,h2.more hk,h3⟩
theorem fair13_t {A:Option Addr} {n c:Nat} {L:List HV} (hL:SV w A (hvs L)) (hn:L.length=n) (hm:n≤maxLen) (h:(∀ p ∈ L,p.small 4)∧n≤6):Calls Tryz.prog 6 #[.slice A n c] w fun e w'=>e=.returned (.bool true)∧Below w.heap.size w w':=fair13 hL hn hm true ⟨fun _=>h,fun _=>rfl⟩
theorem fair13_f {A:Option Addr} {n c:Nat} {L:List HV} (hL:SV w A (hvs L)) (hn:L.length=n) (hm:n≤maxLen) (h:¬ ((∀ p ∈ L,p.small 4)∧n≤6)):Calls Tryz.prog 6 #[.slice A n c] w fun e w'=>e=.returned (.bool false)∧Below w.heap.size w w':=fair13 hL hn hm false ⟨fun e=>by (cases e),fun e=>absurd e h⟩
theorem rgood13_t {A:Option Addr} {n c k:Nat} {L:List HV} {V:List AH} (hL:SV w A (hvs L)) (hE:EachH RH w L V k) (hn:L.length=n) (hm:n≤1000) (h:GoodH V):Calls Tryz.prog 14 #[.slice A n c] w fun e w'=>e=.returned (.bool true)∧Below w.heap.size w w':=rgood13 hL hE hn hm true ⟨fun _=>h,fun _=>rfl⟩
theorem rgood13_f {A:Option Addr} {n c k:Nat} {L:List HV} {V:List AH} (hL:SV w A (hvs L)) (hE:EachH RH w L V k) (hn:L.length=n) (hm:n≤1000) (h:¬ GoodH V):Calls Tryz.prog 14 #[.slice A n c] w fun e w'=>e=.returned (.bool false)∧Below w.heap.size w w':=rgood13 hL hE hn hm false ⟨fun e=>by (cases e),fun e=>absurd e h⟩
end
section
open Go Go.RowKit
def maxQ (a b:Rat):Rat:=if a < b then b else a
theorem cmpQ_lt0 {v u:Rat}:cmpQ v u < 0 ↔ v < u:=by
 unfold cmpQ
 split
 · rename_i h;exact ⟨fun _=>h,fun _=>by decide⟩
 · rename_i h;exact ⟨fun e=>absurd e (by split <;> decide),fun e=>absurd e h⟩
theorem cmpQ_gt0 {v u:Rat}:0 < cmpQ v u ↔ u < v:=by
 have e:cmpQ v u=-cmpQ u v:=cmpQ_swap u v
 have h:=cmpQ_lt0 (v:=u) (u:=v)
 rw [← h,e]
 omega
theorem rmax3_0 {k:Nat} {x y:Rat} (a:RQ w s_a A_a n_a c_a B_a m_a d_a x k) (b:RQ w s_b A_b n_b c_b B_b m_b d_b y k) (hk:k≤10000) (h:¬ x < y) :
 Calls Tryz.prog 42 #[.agg #[.bool s_a,.slice A_a n_a c_a,.slice B_a m_a d_a],.agg #[.bool s_b,.slice A_b n_b c_b,.slice B_b m_b d_b]] w (GivesRQ w x k):=by
 obtain ⟨K,hK,h0⟩:∃ K,cmpQ y x=K∧decide (0 < K)=false:=⟨_,rfl,decide_eq_false (fun e=>h (cmpQ_gt0.1 e))⟩
 have HK:=Lib.hid hK;clear hK h
 go_enter Tryz.func42,Tryz.ntmps42
 go_wp2_with fail
 generalize hW:World.alloc _ _=W
 obtain ⟨hb,XA,XB,Z,hzW⟩:=mkbx29_11 hW;clear hW;replace a:=a.below hb;replace b:=b.below hb;obtain ⟨xa0,xa1,xa2⟩:=XA.all;obtain ⟨xb0,xb1,xb2⟩:=XB.all;have zf0:=Z.f0;have zf1:=Z.f1;have zf2:=Z.f2;obtain ⟨z0,z1,z2⟩:=Z.all
 go_wp2_with (first
  | (go_at_call 32;(with_reducible refine (rcmp3 b a hk hk).mono ?_);rintro e w_z ⟨rfl,hh⟩
     rw [HK.out];(try replace a:=a.below hh);(try replace b:=b.below hh);(try replace XA:=XA.below hh);(try replace XB:=XB.below hh);(try replace Z:=Z.below hh);replace hb:=bend hb hh;obtain ⟨xa0,xa1,xa2⟩:=XA.all;obtain ⟨xb0,xb1,xb2⟩:=XB.all;have zf0:=Z.f0;have zf1:=Z.f1;have zf2:=Z.f2;obtain ⟨z0,z1,z2⟩:=Z.all))
 have Z2:=Z.set3 (.bool s_a) (.slice A_a n_a c_a) (.slice B_a m_a d_a)
 obtain ⟨g0,g1,g2⟩:=Z2.all
 refine bodyPost_ret (v:=.agg #[.bool s_a,.slice A_a n_a c_a,.slice B_a m_a d_a]) (by simp [results,Tryz.results42,go_sem,g0,g1,g2]) rfl ?_
 exact ⟨s_a,A_a,n_a,c_a,B_a,m_a,d_a,rfl,a.set3 Z _ _ _,below_set3 hb (by omega) _ _ _⟩
theorem rmax3_1 {k:Nat} {x y:Rat} (a:RQ w s_a A_a n_a c_a B_a m_a d_a x k) (b:RQ w s_b A_b n_b c_b B_b m_b d_b y k) (hk:k≤10000) (h:x < y) :
 Calls Tryz.prog 42 #[.agg #[.bool s_a,.slice A_a n_a c_a,.slice B_a m_a d_a],.agg #[.bool s_b,.slice A_b n_b c_b,.slice B_b m_b d_b]] w (GivesRQ w y k):=by
 obtain ⟨K,hK,h0⟩:∃ K,cmpQ y x=K∧decide (0 < K)=true:=⟨_,rfl,decide_eq_true (cmpQ_gt0.2 h)⟩
 have HK:=Lib.hid hK;clear hK h
 go_enter Tryz.func42,Tryz.ntmps42
 go_wp2_with fail
 generalize hW:World.alloc _ _=W
 obtain ⟨hb,XA,XB,Z,hzW⟩:=mkbx29_11 hW;clear hW;replace a:=a.below hb;replace b:=b.below hb;obtain ⟨xa0,xa1,xa2⟩:=XA.all;obtain ⟨xb0,xb1,xb2⟩:=XB.all;have zf0:=Z.f0;have zf1:=Z.f1;have zf2:=Z.f2;obtain ⟨z0,z1,z2⟩:=Z.all
 go_wp2_with (first
  | (go_at_call 32;(with_reducible refine (rcmp3 b a hk hk).mono ?_);rintro e w_z ⟨rfl,hh⟩
     rw [HK.out];(try replace a:=a.below hh);(try replace b:=b.below hh);(try replace XA:=XA.below hh);(try replace XB:=XB.below hh);(try replace Z:=Z.below hh);replace hb:=bend hb hh;obtain ⟨xa0,xa1,xa2⟩:=XA.all;obtain ⟨xb0,xb1,xb2⟩:=XB.all;have zf0:=Z.f0;have zf1:=Z.f1;have zf2:=Z.f2;obtain ⟨z0,z1,z2⟩:=Z.all))
 have Z2:=Z.set3 (.bool s_b) (.slice A_b n_b c_b) (.slice B_b m_b d_b)
 obtain ⟨g0,g1,g2⟩:=Z2.all
 refine bodyPost_ret (v:=.agg #[.bool s_b,.slice A_b n_b c_b,.slice B_b m_b d_b]) (by simp [results,Tryz.results42,go_sem,g0,g1,g2]) rfl ?_
 exact ⟨s_b,A_b,n_b,c_b,B_b,m_b,d_b,rfl,b.set3 Z _ _ _,below_set3 hb (by omega) _ _ _⟩
theorem rmax3 {k:Nat} {x y:Rat} (a:RQ w s_a A_a n_a c_a B_a m_a d_a x k) (b:RQ w s_b A_b n_b c_b B_b m_b d_b y k) (hk:k≤10000):Calls Tryz.prog 42 #[.agg #[.bool s_a,.slice A_a n_a c_a,.slice B_a m_a d_a],.agg #[.bool s_b,.slice A_b n_b c_b,.slice B_b m_b d_b]] w (GivesRQ w (maxQ x y) k):=by
 unfold maxQ
 split
 · rename_i h;exact rmax3_1 a b hk h
 · rename_i h;exact rmax3_0 a b hk h
end
section
open Go Go.RowKit
theorem qvs_nil:qvs []=[]:=rfl
theorem qvs_length (L:List QV):(qvs L).length=L.length*3:=rows_length qvc_len L
theorem qvs_one (L:List QV):∀ u ∈ qvs L,u.oneCell'=true:=by
 intro u hu
 obtain ⟨p,_,hp⟩:=List.mem_flatMap.1 hu
 simp only [QV.cells,List.mem_cons,List.not_mem_nil,or_false] at hp
 rcases hp with rfl | rfl | rfl <;> rfl
def zqq:Value:=.agg #[.bool false,.slice none 0 0,.slice none 0 0]
theorem info_rat:(Tryz.prog.info? 27).map (fun i=>(i.zero,i.size,i.bytes))=some (some zqq,3,56):=by kernel_rfl
structure LnQ (T:TypeId) (base:Nat) (w:World) (v:Value) (L:List QV):Prop where
 own:w.ownsRow base T 3 v L.length (qvs L)
 free:∀ g,v.ownBlock=some g→∃ cs,BoxAt T w g cs
section
variable {T:TypeId} {base:Nat} {w w':World} {v:Value} {L:List QV}
theorem LnQ.nil (T:TypeId) (base:Nat) (w:World):LnQ T base w (.slice none 0 0) []:=⟨World.ownsRow_nil w base T 3,fun g h=>by cases h⟩
theorem LnQ.kept (h:LnQ T base w v L) (hb:∀ g,v.ownBlock=some g→w'.heap[g]?=w.heap[g]?):LnQ T base w' v L:=by
 refine ⟨⟨h.own.1,?_⟩,fun g hg=>?_⟩
 · rcases h.own.2 with hn | ⟨g,cap,cur,rfl,h1,h2,h3⟩
   · exact .inl hn
   · exact .inr ⟨g,cap,cur,rfl,h1,(hb g rfl).trans h2,h3⟩
 · obtain ⟨cs,hc⟩:=h.free g hg
   exact ⟨cs,(hb g hg).trans hc.at_,hc.free⟩
theorem LnQ.below (h:LnQ T base w v L) (hb:Below w.heap.size w w'):LnQ T base w' v L:=h.kept fun g hg=>by
 obtain ⟨cs,hc⟩:=h.free g hg
 exact hb.block g hc.lt
theorem LnQ.base_le {b:Nat} (h:LnQ T base w v L) (hb:b≤base):LnQ T b w v L:=by
 refine ⟨⟨h.own.1,?_⟩,h.free⟩
 rcases h.own.2 with hn | ⟨g,cap,cur,rfl,h1,h2⟩
 · exact .inl hn
 · exact .inr ⟨g,cap,cur,rfl,Nat.le_trans hb h1,h2⟩
theorem LnQ.lit (w:World) (L:List QV) (hb:base≤w.heap.size) (hL:L.length≤1000000):LnQ T base (w.alloc (.cells (qvs L).toArray T)) (.slice (some ⟨w.heap.size,0,none⟩) L.length L.length) L:=by
 refine ⟨⟨qvs_length L,.inr ⟨w.heap.size,L.length,_,rfl,hb,heap_alloc_new w _,Nat.le_refl _,by unfold maxLen;omega,?_,?_⟩⟩,fun g hg=>?_⟩
 · simp [qvs_length]
 · simp [← qvs_length]
 · obtain rfl:w.heap.size=g:=by simpa [Value.ownBlock] using hg
   refine ⟨(qvs L).toArray,heap_alloc_new w _,fun i k x e=>?_⟩
   rw [List.getElem?_toArray] at e
   exact qvs_free L _ (List.mem_of_getElem? e) k x rfl
theorem LnQ.form (h:LnQ T base w v L):∃ A c,v=.slice A L.length c∧L.length≤c∧(A=none→c=0):=by
 rcases h.own.2 with ⟨rfl,hn⟩ | ⟨g,cap,cur,rfl,_,_,h3,_⟩
 · exact ⟨none,0,by rw [hn],by omega,fun _=>rfl⟩
 · exact ⟨_,cap,rfl,h3,fun e=>by cases e⟩
end
theorem zeroQ_free (n:Nat):∀ u ∈ (Builtin.zeroCells zqq.cells n).toList,∀ (k:IntKind) (x:Int),u ≠ .int k x:=by
 intro u hu k x
 simp only [Builtin.zeroCells,Array.toList_map,List.mem_map] at hu
 obtain ⟨i,_,rfl⟩:=hu
 have h:i % zqq.cells.size < 3:=Nat.mod_lt _ (by decide)
 generalize i % zqq.cells.size=j at h
 match j,h with
 | 0,_=>exact fun e=>by cases e
 | 1,_=>exact fun e=>by cases e
 | 2,_=>exact fun e=>by cases e
 | j+3,h=>omega
theorem run_push2Q {T tS ty:TypeId} {base b:Nat} {v:Value} {L:List QV} {p:QV} {k0:Nat} (ht:Tryz.prog.underlying tS=some (.slice T)) (hinfo:(Tryz.prog.info? T).map (fun i=>(i.zero,i.size,i.bytes))=some (some zqq,3,56))
 (h:LnQ T base w v L) (hbase:base≤w.heap.size) (hL:L.length≤1000000) (hb:w.heap[b]?=some (.cells p.cells.toArray T (0,0))) :
 ∃ v' w',(Builtin.append_ #[tS,tS] ty #[v,.slice (some ⟨b,0,none⟩) 1 k0]).run Tryz.prog w=.ok v' w'∧LnQ T base w' v' (L ++ [p])∧w.grownBy w' v.ownBlock∧∀ g,v'.ownBlock=some g→v.ownBlock=some g ∨ w.heap.size≤g:=by
 obtain ⟨i0,hi,hz,hs,hby⟩:=info_parts hinfo
 have hnews:∀ j u,p.cells[j]?=some u→w.cell? ((⟨b,0,none⟩:Addr).add j)=some u:=fun j u hu=>World.news_of_block hb j u (by simpa using hu)
 have h1:∀ u ∈ p.cells,u.oneCell'=true:=fun u hu=>qvs_one [p] u (by rw [qvs_cons,qvs_nil,List.append_nil];exact hu)
 have hfree:∀ u ∈ p.cells,∀ (k:IntKind) (x:Int),u ≠ .int k x:=fun u hu=>qvs_free [p] u (by rw [qvs_cons,qvs_nil,List.append_nil];exact hu)
 obtain ⟨v',w',hr,hown,hg,_⟩:=run_append_own (P:=Tryz.prog) w base tS ty T i0 zqq 3 56 ht hi hz hs hby rfl (by decide) v L.length (qvs L) h.own ⟨b,0,none⟩ 1 k0 p.cells rfl hnews h1 (by unfold maxLen;omega) (by omega) hbase
 have hown2:∀ g,v'.ownBlock=some g→v.ownBlock=some g ∨ w.heap.size≤g:=by
  rcases h.own.2 with ⟨rfl,hn⟩ | ⟨g0,cap,cur,rfl,_,hg0,hnc,hcm,hcs,htake⟩
  · have e:=run_append_nil (P:=Tryz.prog) w tS ty T i0 zqq ht hi hz ⟨b,0,none⟩ 1 k0 p.cells (by rw [hs];rfl) hnews (by decide) (by decide) (by rw [hby];decide)
    rw [hr] at e
    injection e with e1 e2
    subst e1
    intro g hgv
    right
    obtain rfl:w.heap.size=g:=by simpa [Value.ownBlock] using hgv
    exact Nat.le_refl _
  · by_cases hroom:L.length+1≤cap
    · have e:=run_append_room (P:=Tryz.prog) w tS ty T i0 ht hi g0 L.length cap cur hg0 ⟨b,0,none⟩ 1 k0 p.cells (by rw [hs];rfl) hnews h1 hroom (by rw [hs,hcs];show L.length*3+3≤_;omega)
      rw [hr] at e
      injection e with e1 e2
      subst e1
      intro g hgv
      left
      simpa [Value.ownBlock] using hgv
    · have holds:∀ j u,(qvs L)[j]?=some u→w.cell? ((⟨g0,0,none⟩:Addr).add j)=some u:=h.own.cells (g:=g0) rfl
      have e:=run_append_grow (P:=Tryz.prog) w tS ty T i0 zqq ht hi hz ⟨g0,0,none⟩ L.length cap (qvs L) (by rw [hs];exact h.own.1) holds ⟨b,0,none⟩ 1 k0 p.cells (by rw [hs];rfl) hnews (by omega) (by omega) (growslice_fits (by omega) (by rw [hby];omega))
      rw [hr] at e
      injection e with e1 e2
      subst e1
      intro g hgv
      right
      obtain rfl:w.heap.size=g:=by simpa [Value.ownBlock] using hgv
      exact Nat.le_refl _
 refine ⟨v',w',hr,⟨by rw [qvs_append,List.length_append,qvs_cons,qvs_nil,List.append_nil];exact hown,?_⟩,hg,hown2⟩
 have fr:∀ (cs:List Value),(∀ u ∈ cs,∀ (k:IntKind) (x:Int),u ≠ .int k x)→∀ (i:Nat) (k:IntKind) (x:Int),cs.toArray[i]? ≠ some (Value.int k x):=fun cs hc i k x e=>by
  rw [List.getElem?_toArray] at e
  exact hc _ (List.mem_of_getElem? e) k x rfl
 intro g hgv
 rcases h.own.2 with ⟨rfl,hn⟩ | ⟨g0,cap,cur,rfl,_,hg0,hnc,hcm,hcs,htake⟩
 · have e:=run_append_nil (P:=Tryz.prog) w tS ty T i0 zqq ht hi hz ⟨b,0,none⟩ 1 k0 p.cells (by rw [hs];rfl) hnews (by decide) (by decide) (by rw [hby];decide)
   rw [hr] at e
   injection e with e1 e2
   subst e1 e2
   obtain rfl:w.heap.size=g:=by simpa [Value.ownBlock] using hgv
   refine ⟨_,heap_alloc_new w.drew _,?_⟩
   have:=fr (p.cells ++ (Builtin.zeroCells zqq.cells (grownCap w 1 0 T - 1)).toList) (fun u hu=>by
    rcases List.mem_append.1 hu with q | q
    · exact hfree u q
    · exact zeroQ_free _ u q)
   intro i k x
   have:=this i k x
   rwa [show (p.cells ++ (Builtin.zeroCells zqq.cells (grownCap w 1 0 T - 1)).toList).toArray=p.cells.toArray ++ Builtin.zeroCells zqq.cells (grownCap w 1 0 T - 1) by apply Array.ext';simp] at this
 · obtain ⟨cs,hB⟩:=h.free g0 rfl
   have hcur:∀ u ∈ cur.toList,∀ (k:IntKind) (x:Int),u ≠ .int k x:=by
    have:cs=cur:=by exact (Obj.cells.inj (Option.some.inj (hB.at_.symm.trans hg0))).1
    subst this
    intro u hu k x e
    obtain ⟨j,hj⟩:=List.getElem?_of_mem hu
    rw [Array.getElem?_toList] at hj
    exact hB.free j k x (by rw [← e];exact hj)
   by_cases hroom:L.length+1≤cap
   · have e:=run_append_room (P:=Tryz.prog) w tS ty T i0 ht hi g0 L.length cap cur hg0 ⟨b,0,none⟩ 1 k0 p.cells (by rw [hs];rfl) hnews h1 hroom (by rw [hs,hcs];show L.length*3+3≤_;omega)
     rw [hr] at e
     injection e with e1 e2
     subst e1 e2
     obtain rfl:g0=g:=by simpa [Value.ownBlock] using hgv
     refine ⟨_,setRow_heap w g0 cur _ T _ hg0,fr _ fun u hu=>?_⟩
     rcases List.mem_append.1 hu with q | q
     · rcases List.mem_append.1 q with q | q
       · exact hcur u (List.mem_of_mem_take q)
       · exact hfree u q
     · exact hcur u (List.mem_of_mem_drop q)
   · have holds:∀ j u,(qvs L)[j]?=some u→w.cell? ((⟨g0,0,none⟩:Addr).add j)=some u:=h.own.cells (g:=g0) rfl
     have e:=run_append_grow (P:=Tryz.prog) w tS ty T i0 zqq ht hi hz ⟨g0,0,none⟩ L.length cap (qvs L) (by rw [hs];exact h.own.1) holds ⟨b,0,none⟩ 1 k0 p.cells (by rw [hs];rfl) hnews (by omega) (by omega) (growslice_fits (by omega) (by rw [hby];omega))
     rw [hr] at e
     injection e with e1 e2
     subst e1 e2
     obtain rfl:w.heap.size=g:=by simpa [Value.ownBlock] using hgv
     refine ⟨_,heap_alloc_new w.drew _,?_⟩
     have:=fr (qvs L ++ p.cells ++ (Builtin.zeroCells zqq.cells (grownCap w (L.length+1) cap T - (L.length+1))).toList) (fun u hu=>by
      rcases List.mem_append.1 hu with q | q
      · rcases List.mem_append.1 q with q | q
        · exact qvs_free L u q
        · exact hfree u q
      · exact zeroQ_free _ u q)
     intro i k x
     have:=this i k x
     rwa [show (qvs L ++ p.cells ++ (Builtin.zeroCells zqq.cells (grownCap w (L.length+1) cap T - (L.length+1))).toList).toArray=(qvs L).toArray ++ p.cells.toArray ++ Builtin.zeroCells zqq.cells (grownCap w (L.length+1) cap T - (L.length+1)) by apply Array.ext';simp] at this
theorem LnQ.stays {T:TypeId} {base:Nat} {w w':World} {v:Value} {L:List QV} (h:LnQ T base w v L) (hg:w.grownBy w' v.ownBlock):Below w.heap.size w w' ∨ ∃ g cs,BoxAt T w g cs∧base≤g∧Only g w w':=by
 cases hv:v.ownBlock with
 | none =>
   rw [hv] at hg
   exact .inl ((Below.refl _ _).grown hg (Nat.le_refl _) (fun k e=>by cases e))
 | some g =>
   rw [hv] at hg
   obtain ⟨cs,hc⟩:=h.free g hv
   refine .inr ⟨g,cs,hc,(h.own.lt g hv).1,⟨hg.os,hg.tape,hg.output,hg.size,fun k hk hn=>hg.block k hk (fun e=>hn (by injection e))⟩⟩
theorem step_pushQ {ops:Array Oper} {o:Oper} {a:Act} {K:Act→World→Prop} {Q:Exit→Act→World→Prop} {E:Prop} {T tS:TypeId} (ht:Tryz.prog.underlying tS=some (.slice T)) (hinfo:(Tryz.prog.info? T).map (fun i=>(i.zero,i.size,i.bytes))=some (some zqq,3,56))
 (hgd:o.guard=none) (s x:Operand) (ho:o.op=.call ⟨.builtin .append,#[s,x],#[tS,tS]⟩) {base b:Nat} {v:Value} {L:List QV} {p:QV} {k0:Nat} (hs:a.eval s=v) (hx:a.eval x=.slice (some ⟨b,0,none⟩) 1 k0)
 (h:LnQ T base w v L) (hbase:base≤w.heap.size) (hL:L.length≤1000000) (hb:w.heap[b]?=some (.cells p.cells.toArray T (0,0)))
 (hK:∀ v' w',LnQ T base w' v' (L ++ [p])→w.grownBy w' v.ownBlock→(∀ g,v'.ownBlock=some g→v.ownBlock=some g ∨ w.heap.size≤g)→K (a.put o.dst v') w'):if Region.wanted o (yielded ops a.tmps)=true then Oper.wp Tryz.prog o a w K Q else E:=by
 have hw:Region.wanted o (yielded ops a.tmps)=true:=by simp [Region.wanted,hgd]
 rw [if_pos hw]
 obtain ⟨v',w',hr,h2,h3,h4⟩:=run_push2Q (ty:=o.type) (k0:=k0) ht hinfo h hbase hL hb
 exact wp_append_at s x ho hs hx hr (hK v' w' h2 h3 h4)
theorem LnQ.under {T:TypeId} {base:Nat} {w0 w w':World} {v:Value} {M:List QV} (hn:LnQ T base w v M) (hg:w.grownBy w' v.ownBlock) (hb:Below w0.heap.size w0 w) (hb0:w0.heap.size≤base):Below w0.heap.size w0 w':=by
 rcases hn.stays hg with q | ⟨g,cs,hB,hg2,ho⟩
 · exact bend hb q
 · exact Below.only hb (Nat.le_trans hb0 hg2) hb.size ho
def QV.G (w:World) (p:QV) (v:Rat) (k:Nat):Prop:=QG w p.s p.A p.n p.c p.B p.m p.d v k
theorem QV.G.below {w w':World} {p:QV} {v:Rat} {k:Nat} (h:p.G w v k) (hb:Below w.heap.size w w'):p.G w' v k:=QG.below h hb
theorem EachQ.imp {w w':World} {L:List QV} {l:List Rat} {k k2:Nat} (h:EachQ w L l k) (hw:∀ (p:QV) u,p.G w u k→p.G w' u k2):EachQ w' L l k2:=⟨h.1,fun i p u hp hu=>hw p u (h.2 i p u hp hu)⟩
theorem EachQ.at_ {L:List QV} {l:List Rat} {k:Nat} (h:EachQ w L l k) {i:Nat} (hi:i < L.length):∃ (p:QV) (u:Rat),L[i]?=some p∧l[i]?=some u∧p.G w u k :=
 ⟨_,_,List.getElem?_eq_getElem hi,List.getElem?_eq_getElem (by rw [← h.1];exact hi),h.2 i _ _ (List.getElem?_eq_getElem hi) (List.getElem?_eq_getElem (by rw [← h.1];exact hi))⟩
section
variable {T:TypeId} {base:Nat} {w w':World} {v:Value} {M:List QV} {k:Nat} {p:QV} {u:Rat}
theorem LnQ.qg (hn:LnQ T base w v M) (hg:w.grownBy w' v.ownBlock) (h:p.G w u k):p.G w' u k:=by
 rcases hn.stays hg with q | ⟨g,cs,hB,_,ho⟩
 · exact h.below q
 · exact QG.box h hB ho
theorem LnQ.hr {h:HV} {v2:AH} (hn:LnQ T base w v M) (hg:w.grownBy w' v.ownBlock) (hh:HR w h v2 k):HR w' h v2 k:=by
 rcases hn.stays hg with q | ⟨g,cs,hB,_,ho⟩
 · exact hh.below q
 · exact hh.box hB ho
theorem LnQ.sv {A:Option Addr} {n c:Nat} (h:LnQ T base w (.slice A n c) M):SV w A (qvs M):=fun hn=>by
 rcases h.own.2 with ⟨_,e⟩ | ⟨g,cap,cur,hv,_,hg,_⟩
 · rw [qvs_length,List.length_eq_zero_iff.1 e] at hn;exact absurd hn (by simp)
 · have hc:=h.own.cells (g:=g) (by rw [hv];rfl)
   have ha:∀ j,(⟨g,0,none⟩:Addr).add j=⟨g,j,none⟩:=fun j=>by unfold Addr.add;split <;> simp_all
   simp only [Value.slice.injEq] at hv
   refine ⟨g,0,hv.1,?_,fun j u hu=>by have:=hc j u hu;rw [ha] at this;rw [Nat.zero_add];exact this⟩
   rcases Nat.lt_or_ge g w.heap.size with q | q
   · exact q
   · rw [Array.getElem?_eq_none q] at hg;cases hg
end
theorem SV.tailQ {A:Option Addr} {L:List QV} {n c:Nat} (h:SV w A (qvs L)) (hn:L.length=n) (h1:1≤n) (hc:n≤c):∃ A2 c2,(∀ w',(Instr.slice 67 (.slice A n c) (some (.int .i64 1)) none none).run Tryz.prog w'=.ok (.slice A2 (n - 1) c2) w')∧SV w A2 (qvs (L.drop 1)):=by
 obtain ⟨i0,hi0,hz,hs,hby⟩:=info_parts info_rat
 refine ⟨if c=1 then A else A.map (·.add 3),c - 1,fun w'=>?_,fun hl=>?_⟩
 · have k1:(1:Int)≤(n:Int):=by omega
   simp [Instr.slice,Instr.sliceBounds,Instr.sliceBound,asIntOf,run_underlying Tryz.underlying67,sizeOf,typeInfo,hi0,hs,k1]
 · rw [qvs_length,List.length_drop] at hl
   obtain ⟨g,o,e,e1,e2⟩:=h (by rw [qvs_length];omega)
   subst e
   have ha:(⟨g,o,none⟩:Addr).add 3=⟨g,o+3,none⟩:=by unfold Addr.add;split <;> simp_all
   rw [if_neg (by omega),Option.map_some,ha]
   refine ⟨g,o+3,rfl,e1,fun j u hu=>?_⟩
   cases L with
   | nil=>rw [List.drop_nil] at hu;cases hu
   | cons p L =>
     rw [List.drop_succ_cons,List.drop_zero] at hu
     rw [Nat.add_assoc]
     refine e2 (3+j) u ?_
     rw [qvs_cons,List.getElem?_append_right (by rw [qvc_len];omega),qvc_len,Nat.add_sub_cancel_left]
     exact hu
theorem SV.midH {A:Option Addr} {L:List HV} {n c l m:Nat} (h:SV w A (hvs L)) (hn:L.length=n) (hl:n=l+1) (hm:l=m+1) (hc:n≤c):∃ A2 c2,(∀ w',(Instr.slice 22 (.slice A n c) (some (.int .i64 1)) (some (.int .i64 (l:Int))) none).run Tryz.prog w'=.ok (.slice A2 m c2) w')∧SV w A2 (hvs ((L.drop 1).take m)):=by
 obtain ⟨i0,hi0,hz,hs,hby⟩:=info_parts info_hom
 refine ⟨if c=1 then A else A.map (·.add 9),c - 1,fun w'=>?_,fun hl=>?_⟩
 · obtain ⟨M,hM⟩:∃ M:Int,(l:Int)=M:=⟨_,rfl⟩
   have k1:M≤(c:Int):=by omega
   have k2:(0:Int)≤M:=by omega
   have k4:M.toNat=m+1:=by omega
   rw [hM]
   simp only [Instr.slice,Instr.sliceBounds,Instr.sliceBound,asIntOf,Sem.run_bind,run_underlying Tryz.underlying22,Result.andThen_ok]
   simp [k1,k2,k4,sizeOf,typeInfo,hi0,hs]
   exact fun e=>absurd e (by omega)
 · have hl2:0 < m:=by rw [hvs_length,List.length_take,List.length_drop] at hl;omega
   obtain ⟨g,o,e,e1,e2⟩:=h (by rw [hvs_length];omega)
   subst e
   have ha:(⟨g,o,none⟩:Addr).add 9=⟨g,o+9,none⟩:=by unfold Addr.add;split <;> simp_all
   rw [if_neg (by omega),Option.map_some,ha]
   refine ⟨g,o+9,rfl,e1,fun j u hu=>?_⟩
   cases L with
   | nil=>rw [List.drop_nil,List.take_nil] at hu;cases hu
   | cons p L =>
     rw [List.drop_succ_cons,List.drop_zero] at hu
     rw [Nat.add_assoc]
     refine e2 (9+j) u ?_
     rw [hvs_cons,List.getElem?_append_right (by rw [hvc_len];omega),hvc_len,Nat.add_sub_cancel_left]
     have hj:j < (hvs (L.take m)).length:=(List.getElem?_eq_some_iff.1 hu).1
     rw [← List.take_append_drop m L,hvs_append,List.getElem?_append_left hj]
     exact hu
def GivesQs (w:World) (l:List Rat) (k:Nat) (en:Ending) (w':World):Prop :=
 ∃ v M,en=.returned v∧LnQ 27 w.heap.size w' v M∧EachQ w' M l k∧Below w.heap.size w w'
def topQ (l:List Rat):Rat:=l.foldl maxQ 0
theorem maxQ_le {a b c:Rat}:maxQ a b≤c ↔ a≤c∧b≤c:=by
 unfold maxQ
 split
 · rename_i h;exact ⟨fun e=>⟨Rat.le_trans (Rat.le_of_lt h) e,e⟩,fun e=>e.2⟩
 · rename_i h;exact ⟨fun e=>⟨e,Rat.le_trans (Rat.not_lt.1 h) e⟩,fun e=>e.1⟩
theorem fold_le:∀ (l:List Rat) (a c:Rat),l.foldl maxQ a≤c ↔ a≤c∧∀ v ∈ l,v≤c
 | [],a,c=>⟨fun h=>⟨h,fun v hv=>by cases hv⟩,fun h=>h.1⟩
 | x :: l,a,c=>by
   rw [List.foldl_cons,fold_le l,maxQ_le]
   constructor
   · rintro ⟨⟨h1,h2⟩,h3⟩
     refine ⟨h1,fun v hv=>?_⟩
     rcases List.mem_cons.1 hv with rfl | hv
     · exact h2
     · exact h3 v hv
   · rintro ⟨h1,h2⟩
     exact ⟨⟨h1,h2 x (by simp)⟩,fun v hv=>h2 v (List.mem_cons_of_mem _ hv)⟩
theorem topQ_le {l:List Rat} {c:Rat}:topQ l≤c ↔ 0≤c∧∀ v ∈ l,v≤c:=fold_le l 0 c
theorem topQ_nonneg (l:List Rat):0≤topQ l:=(topQ_le.1 Rat.le_refl).1
theorem le_topQ {l:List Rat} {v:Rat} (h:v ∈ l):v≤topQ l:=(topQ_le.1 Rat.le_refl).2 v h
theorem topQ_push (l:List Rat) (v:Rat):topQ (l ++ [v])=maxQ (topQ l) v:=by unfold topQ;rw [List.foldl_append];rfl
theorem topQ_same {l m:List Rat} (h1:∀ v ∈ l,v=0 ∨ v ∈ m) (h2:∀ v ∈ m,v ∈ l):topQ l=topQ m:=by
 refine Rat.le_antisymm (topQ_le.2 ⟨topQ_nonneg m,fun v hv=>?_⟩) (topQ_le.2 ⟨topQ_nonneg l,fun v hv=>le_topQ (h2 v hv)⟩)
 rcases h1 v hv with rfl | h
 · exact topQ_nonneg m
 · exact le_topQ h
def AH.far (a b p:AH):Rat:=segQ p.px p.py a.px a.py b.px b.py
theorem far_a (a b:AH):AH.far a b a=0:=seg_on _ _ _ _ 0 Rat.le_refl (by decide) (by grind) (by grind)
theorem far_b (a b:AH):AH.far a b b=0:=seg_on _ _ _ _ 1 (by decide) Rat.le_refl (by grind) (by grind)
end
section
open Go Go.RowKit
attribute [local go_sem ↓] open_LVH open_STH open_LVJ open_STJ
theorem BH.pushR {w w':World} {g:Nat} {v0 v1 v2 v3 v4 v5 v6 v7 v8:Value} {row:Option Nat} (h:BH w g v0 v1 v2 v3 v4 v5 v6 v7 v8) (hg:w.grownBy w' row) (hne:∀ k,row=some k→k ≠ g):BH w' g v0 v1 v2 v3 v4 v5 v6 v7 v8 :=
 (hg.block g h.lt (fun e=>hne g e.symm rfl)).trans h
theorem B6.pushR {w w':World} {g:Nat} {v0 v1 v2 v3 v4 v5:Value} {row:Option Nat} (h:B6 w g v0 v1 v2 v3 v4 v5) (hg:w.grownBy w' row) (hne:∀ k,row=some k→k ≠ g):B6 w' g v0 v1 v2 v3 v4 v5 :=
 (hg.block g h.lt (fun e=>hne g e.symm rfl)).trans h
def BQ (w:World) (g:Nat) (q:QV):Prop:=B3 w g (.bool q.s) (.slice q.A q.n q.c) (.slice q.B q.m q.d)
theorem BQ.b3 {g:Nat} {q:QV} (h:BQ w g q):B3 w g (.bool q.s) (.slice q.A q.n q.c) (.slice q.B q.m q.d):=h
theorem BQ.below {w w':World} {g:Nat} {q:QV} (h:BQ w g q) (hb:Below w.heap.size w w'):BQ w' g q:=B3.below h hb
theorem QV.G.qg {q:QV} {v:Rat} {k:Nat} (h:q.G w v k):QG w q.s q.A q.n q.c q.B q.m q.d v k:=h
def fstH (V:List AH):AH:=V.headD ⟨0,0,0⟩
def lstH (V:List AH):AH:=V.getLastD ⟨0,0,0⟩
def midQ (V:List AH):List Rat:=((V.drop 1).take (V.length - 2)).map (AH.far (fstH V) (lstH V))
def gapQ (V:List AH):Rat:=topQ (V.map (AH.far (fstH V) (lstH V)))
theorem fst_get {V:List AH} (h:1≤V.length):V[0]?=some (fstH V):=by
 cases V with
 | nil=>simp at h
 | cons a V=>rfl
theorem lst_get {V:List AH} {l:Nat} (h:V.length=l+1):V[l]?=some (lstH V):=by
 have e:V.getLast?=V[l]?:=by rw [List.getLast?_eq_getElem?,h];rfl
 rw [← e,lstH,List.getLastD_eq_getLast?]
 cases hq:V.getLast? with
 | none=>rw [List.getLast?_eq_none_iff.1 hq] at h;simp at h
 | some v=>rfl
theorem mid_get {V:List AH} {j m:Nat} (h:V.length=m+2) (hj:j < m):(midQ V)[j]?=(V[j+1]?).map (AH.far (fstH V) (lstH V)):=by
 rw [midQ,List.getElem?_map,List.getElem?_take,if_pos (by omega),List.getElem?_drop,Nat.add_comm]
theorem mid_length {V:List AH} {m:Nat} (h:V.length=m+2):(midQ V).length=m:=by
 rw [midQ,List.length_map,List.length_take,List.length_drop];omega
theorem gap_mid {V:List AH} (h:2≤V.length):topQ (midQ V)=gapQ V:=by
 obtain ⟨m,hm⟩:∃ m,V.length=m+2:=⟨V.length - 2,by omega⟩
 refine (topQ_same (fun v hv=>?_) fun v hv=>?_).symm
 · obtain ⟨i,hi⟩:=List.getElem?_of_mem hv
   have hl:=(List.getElem?_eq_some_iff.1 hi).1
   rw [List.length_map] at hl
   rw [List.getElem?_map] at hi
   rcases Nat.eq_zero_or_pos i with rfl | h0
   · rw [fst_get (by omega)] at hi
     left
     have:=Option.some.inj hi
     rw [← this];exact far_a _ _
   · rcases Nat.lt_or_ge i (m+1) with h1 | h1
     · right
       refine List.mem_of_getElem? (i:=i - 1) ?_
       rw [mid_get hm (by omega),show i - 1+1=i by omega];exact hi
     · left
       obtain rfl:i=m+1:=by omega
       rw [lst_get hm] at hi
       have:=Option.some.inj hi
       rw [← this];exact far_b _ _
 · obtain ⟨u,hu,rfl⟩:=List.mem_map.1 hv
   exact List.mem_map.2 ⟨u,List.mem_of_mem_drop (List.mem_of_mem_take hu),rfl⟩
theorem take_step {α:Type} {l:List α} {j:Nat} {v:α} (h:l[j]?=some v):l.take (j+1)=l.take j ++ [v]:=by
 obtain ⟨hj,hv⟩:=List.getElem?_eq_some_iff.1 h
 rw [List.take_succ_eq_append_getElem hj,hv]
theorem fplace {k:Nat} {v:AH} {h:HV} (M:HR w h v k) (hk:k≤15000) (h1:1≤k) (h0:v.w ≠ 0) :
 Calls Tryz.prog 67 #[.agg #[.bool h.x.s,.slice h.x.A h.x.n h.x.c,.slice h.x.B h.x.m h.x.d,.bool h.y.s,.slice h.y.A h.y.n h.y.c,.slice h.y.B h.y.m h.y.d,.bool h.w.s,.slice h.w.A h.w.n h.w.c,.slice h.w.B h.w.m h.w.d]] w (GivesPt w v.px v.py (k+(1+k))):=by
 go_enter Tryz.func67,Tryz.ntmps67
 go_upto_region 1 with (fail)
 generalize hW:World.alloc _ _=W
 obtain ⟨hb,XA,Z,hzW⟩:=mkbx39_15 hW;clear hW;replace M:=M.below hb;have xal:=XA.ld
 go_upto_region 2 with (first
  | (go_at_call 19;(with_reducible refine (cpoint_p M hk h1 h0).mono ?_);rintro e w_q ⟨s_q,A_q,n_q,c_q,B_q,m_q,d_q,t_q,E_q,i_q,e_q,F_q,j_q,f_q,rfl,q,hh⟩
     (try replace M:=M.below hh);(try replace Z:=Z.below hh);replace hb:=bend hb hh))
 clear xal
 have XQ:=B6.new' w_q (Value.bool s_q) (Value.slice A_q n_q c_q) (Value.slice B_q m_q d_q) (Value.bool t_q) (Value.slice E_q i_q e_q) (Value.slice F_q j_q f_q) w_q.heap.size rfl
 have hh:Below w_q.heap.size w_q (w_q.alloc (Obj.cells #[Value.bool s_q,Value.slice A_q n_q c_q,Value.slice B_q m_q d_q,Value.bool t_q,Value.slice E_q i_q e_q,Value.slice F_q j_q f_q] 49)):=(Below.refl w_q.heap.size w_q).alloc (Nat.le_refl _) _
 generalize (w_q.alloc (Obj.cells #[Value.bool s_q,Value.slice A_q n_q c_q,Value.slice B_q m_q d_q,Value.bool t_q,Value.slice E_q i_q e_q,Value.slice F_q j_q f_q] 49))=W2 at *
 replace Z:=Z.below hh;replace q:=q.below hh;replace hb:=bend hb hh;clear hh;obtain ⟨xq0,xq1,xq2,xq3,xq4,xq5⟩:=XQ.all;have zg0:=Z.f0;have zg1:=Z.f1;have zg2:=Z.f2;have zg3:=Z.f3;have zg4:=Z.f4;have zg5:=Z.f5;obtain ⟨zc0,zc1,zc2,zc3,zc4,zc5⟩:=Z.all
 go_wp2_with fail
 have Z2:=Z.set6 (.bool s_q) (.slice A_q n_q c_q) (.slice B_q m_q d_q) (.bool t_q) (.slice E_q i_q e_q) (.slice F_q j_q f_q)
 obtain ⟨g0,g1,g2,g3,g4,g5⟩:=Z2.all
 refine bodyPost_ret (v:=.agg #[.bool s_q,.slice A_q n_q c_q,.slice B_q m_q d_q,.bool t_q,.slice E_q i_q e_q,.slice F_q j_q f_q]) (by simp [results,Tryz.results67,go_sem,g0,g1,g2,g3,g4,g5]) rfl ?_
 exact ⟨s_q,A_q,n_q,c_q,B_q,m_q,d_q,t_q,E_q,i_q,e_q,F_q,j_q,f_q,rfl,q.set6 Z _ _ _ _ _ _,below_set6 hb (by omega) _ _ _ _ _ _⟩
theorem run_ixh {e1:Operand→Value} {d1:Option Tmp} {y1:Nat} {pos:String} {af:Array Edge} {x1 x2:Operand} {A:Option Addr} {n c g o:Nat} {M:Int} (h:e1 x1=.slice A n c) (h2:e1 x2=.int .i64 M) (hx:∀ w',(Instr.indexAt 22 (.slice A n c) (.int .i64 M)).run Tryz.prog w'=.ok (.pointer (some ⟨g,o,none⟩)) w') :
 (execOp e1 ⟨d1,.indexAddr 22 x1 x2,y1,pos,af,none⟩).run Tryz.prog w=.ok (.value (.pointer (some ⟨g,o,none⟩))) w:=by
 have hx2:=hx w
 go_simp
theorem run_ldh {e1:Operand→Value} {d1:Option Tmp} {y1:Nat} {pos:String} {af:Array Edge} {x1:Operand} {g o:Nat} {p:HV} (h:e1 x1=.pointer (some ⟨g,o,none⟩)) (E:EH w g o p) :
 (execOp e1 ⟨d1,.load 55 x1,y1,pos,af,none⟩).run Tryz.prog w=.ok (.value (.agg #[.bool p.x.s,.slice p.x.A p.x.n p.x.c,.slice p.x.B p.x.m p.x.d,.bool p.y.s,.slice p.y.A p.y.n p.y.c,.slice p.y.B p.y.m p.y.d,.bool p.w.s,.slice p.w.A p.w.n p.w.c,.slice p.w.B p.w.m p.w.d])) w:=by
 have hl:=E.ldH
 go_simp
abbrev L_fends:List Nat:=[12,13,14,15,16,17,18,19,20,4,5]
def o0_fends:Oper:=⟨some 12,.move (.tmp 0),22, "flat.go:36",#[],none⟩
def o1_fends:Oper:=⟨some 13,.indexAddr 22 (.tmp 12) (.const (Value.int IntKind.i64 0)),0, "flat.go:36",#[⟨0,.data⟩],none⟩
def o2_fends:Oper:=⟨some 14,.load 55 (.tmp 13),55, "flat.go:36",#[⟨1,.data⟩],none⟩
def o3_fends:Oper:=⟨some 15,.call ⟨.value (.func 67),#[.tmp 14],#[55]⟩,49, "flat.go:36",#[⟨2,.data⟩],none⟩
def o4_fends:Oper:=⟨some 16,.move (.tmp 0),22, "flat.go:36",#[],none⟩
def o5_fends:Oper:=⟨some 17,.move (.tmp 3),3, "flat.go:36",#[],none⟩
def o6_fends:Oper:=⟨some 18,.indexAddr 22 (.tmp 16) (.tmp 17),0, "flat.go:36",#[⟨4,.data⟩,⟨5,.data⟩],none⟩
def o7_fends:Oper:=⟨some 19,.load 55 (.tmp 18),55, "flat.go:36",#[⟨6,.data⟩],none⟩
def o8_fends:Oper:=⟨some 20,.call ⟨.value (.func 67),#[.tmp 19],#[55]⟩,49, "flat.go:36",#[⟨7,.data⟩,⟨3,.chain⟩],none⟩
def o9_fends:Oper:=⟨some 4,.alloc 49,0, "flat.go:36",#[],none⟩
def o10_fends:Oper:=⟨some 5,.alloc 49,0, "flat.go:36",#[],none⟩
def o11_fends:Oper:=⟨none,.store 49 (.tmp 4) (.tmp 15),0, "flat.go:36",#[⟨9,.data⟩,⟨3,.data⟩,⟨8,.chain⟩,⟨0,.phase⟩,⟨1,.phase⟩,⟨2,.phase⟩,⟨3,.phase⟩,⟨4,.textOnly .lateStores⟩,⟨5,.textOnly .lateStores⟩,⟨6,.textOnly .lateStores⟩,⟨7,.textOnly .lateStores⟩,⟨8,.textOnly .lateStoresUnsure⟩,⟨9,.phase⟩,⟨10,.phase⟩],none⟩
def o12_fends:Oper:=⟨none,.store 49 (.tmp 5) (.tmp 20),0, "flat.go:36",#[⟨10,.data⟩,⟨8,.data⟩,⟨11,.chain⟩,⟨0,.phase⟩,⟨1,.phase⟩,⟨2,.phase⟩,⟨3,.phase⟩,⟨4,.phase⟩,⟨5,.phase⟩,⟨6,.phase⟩,⟨7,.phase⟩,⟨8,.phase⟩,⟨9,.phase⟩,⟨10,.phase⟩,⟨11,.phase⟩],none⟩
theorem rc_gesso_flat_place {e:Operand→Value} {x0:Operand} {d:Option Tmp} {y:Nat} {pos:String} {af:Array Edge} {u0:Value} (h0:e x0=u0) (hf:e (.func 67)=.func (.func 67) #[] #[]) :
 (execOp e ⟨d,.call ⟨.value (.func 67),#[x0],#[55]⟩,y,pos,af,none⟩).run Tryz.prog w=.ok (.enter 67 #[u0]) w:=by
 go_simp
def F_fends (A:Option Addr) (n:Nat) (c:Nat) (l:Nat) (ga:Nat) (oa:Nat) (gb:Nat) (ob:Nat) (k:Nat) (P:HV) (R:HV) (va:AH) (vb:AH) (sl:Nat):Value→World→Prop :=
 match sl with
 | 12=>fun x _=>x=Value.slice A n c
 | 13=>fun x _=>x=Value.pointer (some ⟨ga,oa,none⟩)
 | 14=>fun x _=>x=Value.agg #[.bool P.x.s,.slice P.x.A P.x.n P.x.c,.slice P.x.B P.x.m P.x.d,.bool P.y.s,.slice P.y.A P.y.n P.y.c,.slice P.y.B P.y.m P.y.d,.bool P.w.s,.slice P.w.A P.w.n P.w.c,.slice P.w.B P.w.m P.w.d]
 | 15=>VPG (va.px) (va.py) ((k+(1+k)))
 | 16=>fun x _=>x=Value.slice A n c
 | 17=>fun x _=>x=Value.int .i64 (l:Int)
 | 18=>fun x _=>x=Value.pointer (some ⟨gb,ob,none⟩)
 | 19=>fun x _=>x=Value.agg #[.bool R.x.s,.slice R.x.A R.x.n R.x.c,.slice R.x.B R.x.m R.x.d,.bool R.y.s,.slice R.y.A R.y.n R.y.c,.slice R.y.B R.y.m R.y.d,.bool R.w.s,.slice R.w.A R.w.n R.w.c,.slice R.w.B R.w.m R.w.d]
 | 20=>VPG (vb.px) (vb.py) ((k+(1+k)))
 | _=>fun _ _=>True
def B0_fends (k:Nat) (va:AH):BoxOp :=
 ⟨9,11,4,49,#[.bool false,.slice none 0 0,.slice none 0 0,.bool false,.slice none 0 0,.slice none 0 0],fun cs w=>∃ s A n c B m d t E i e F j f,cs=#[.bool s,.slice A n c,.slice B m d,.bool t,.slice E i e,.slice F j f]∧PG w s A n c B m d t E i e F j f (va.px) (va.py) ((k+(1+k)))⟩
def B1_fends (k:Nat) (vb:AH):BoxOp :=
 ⟨10,12,5,49,#[.bool false,.slice none 0 0,.slice none 0 0,.bool false,.slice none 0 0,.slice none 0 0],fun cs w=>∃ s A n c B m d t E i e F j f,cs=#[.bool s,.slice A n c,.slice B m d,.bool t,.slice E i e,.slice F j f]∧PG w s A n c B m d t E i e F j f (vb.px) (vb.py) ((k+(1+k)))⟩
theorem fends_region {id:Nat} {ac:Act} {Q:Exit→Act→World→Prop} {A:Option Addr} {n c l ga oa gb ob k:Nat} {P R:HV} {va vb:AH}
 (hsz:20 < ac.tmps.size) (e0:ac.eval (.tmp 0)=Value.slice A n c) (e3:ac.eval (.tmp 3)=Value.int .i64 (l:Int)) (EP:EH w ga oa P) (EQ:EH w gb ob R) (pa:HR w P va k) (pb:HR w R vb k) (hixa:∀ w',(Instr.indexAt 22 (.slice A n c) (.int .i64 0)).run Tryz.prog w'=.ok (.pointer (some ⟨ga,oa,none⟩)) w') (hixb:∀ w',(Instr.indexAt 22 (.slice A n c) (.int .i64 (l:Int))).run Tryz.prog w'=.ok (.pointer (some ⟨gb,ob,none⟩)) w') (hk:k≤15000) (h1:1≤k) (ha0:va.w ≠ 0) (hb0:vb.w ≠ 0)
 (hend:∀ (V:Nat→Value) (w':World) (g0:Nat) (s0:Bool) (A0:Option Addr) (n0:Nat) (c0:Nat) (B0:Option Addr) (m0:Nat) (d0:Nat) (t0:Bool) (E0:Option Addr) (i0:Nat) (e0:Nat) (F0:Option Addr) (j0:Nat) (f0:Nat) (g1:Nat) (s1:Bool) (A1:Option Addr) (n1:Nat) (c1:Nat) (B1:Option Addr) (m1:Nat) (d1:Nat) (t1:Bool) (E1:Option Addr) (i1:Nat) (e1:Nat) (F1:Option Addr) (j1:Nat) (f1:Nat),PG w' s0 A0 n0 c0 B0 m0 d0 t0 E0 i0 e0 F0 j0 f0 (va.px) (va.py) ((k+(1+k)))→B6 w' g0 (.bool s0) (.slice A0 n0 c0) (.slice B0 m0 d0) (.bool t0) (.slice E0 i0 e0) (.slice F0 j0 f0)→w.heap.size≤g0→V 4=.pointer (some ⟨g0,0,none⟩)→PG w' s1 A1 n1 c1 B1 m1 d1 t1 E1 i1 e1 F1 j1 f1 (vb.px) (vb.py) ((k+(1+k)))→B6 w' g1 (.bool s1) (.slice A1 n1 c1) (.slice B1 m1 d1) (.bool t1) (.slice E1 i1 e1) (.slice F1 j1 f1)→w.heap.size≤g1→V 5=.pointer (some ⟨g1,0,none⟩)→g1 ≠ g0→Below w.heap.size w w'→Q .normal (putAll ac [12,13,14,15,16,17,18,19,20,4,5] V) w') :
 (Code.region id #[o0_fends,o1_fends,o2_fends,o3_fends,o4_fends,o5_fends,o6_fends,o7_fends,o8_fends,o9_fends,o10_fends,o11_fends,o12_fends] true).wp Tryz.prog Q ac w:=by
 have hnd:L_fends.Nodup:=by decide
 have G:∀ (sv:Nat→Value) (t:Nat),t ∈ L_fends→t≤20→(putAll ac L_fends sv).eval (.tmp t)=sv t:=fun sv t ht h=>eval_putAll_mem (t:=t) L_fends ac hnd ht (Nat.lt_of_le_of_lt h hsz)
 have E0:∀ sv:Nat→Value,(putAll ac L_fends sv).eval (.tmp 0)=Value.slice A n c:=fun sv=>(eval_putAll_not (v:=sv) L_fends ac (show 0 ∉ _ by decide)).trans e0
 have E3:∀ sv:Nat→Value,(putAll ac L_fends sv).eval (.tmp 3)=Value.int .i64 (l:Int):=fun sv=>(eval_putAll_not (v:=sv) L_fends ac (show 3 ∉ _ by decide)).trans e3
 have NE:∀ t:Nat,(t ≠ 4∧t ≠ 5)→∀ p ∈ [B0_fends k va,B1_fends k vb],t ≠ p.tA:=by
  intro t ht p hp
  simp only [List.mem_cons,List.not_mem_nil,or_false] at hp
  rcases hp with rfl | rfl
  · exact ht.1
  · exact ht.2
 refine wp_region_flowsT L_fends [B0_fends k va,B1_fends k vb] (F_fends A n c l ga oa gb ob k P R va vb) (by kernel_rfl) (by kernel_rfl) rfl hnd ?_ ?_ ?_ ?_ ?_ ?_ ?_ ?_
 · intro p hp
   simp only [List.mem_cons,List.not_mem_nil,or_false] at hp
   rcases hp with rfl | rfl
   · refine ⟨⟨o9_fends,rfl,rfl,rfl,fun e w'=>run_alloc6⟩,⟨o11_fends,rfl,rfl,rfl,⟨9,.data⟩,by simp [o11_fends],rfl,rfl⟩,free6 _ _ _ _ _ _ _ _ _ _ _ _ _ _,?_,?_⟩
     · rintro cs w1 w2 ⟨s_,A_,n_,c_,B_,m_,d_,t_,E_,i_,e_,F_,j_,f_,rfl,h⟩ hb;exact ⟨s_,A_,n_,c_,B_,m_,d_,t_,E_,i_,e_,F_,j_,f_,rfl,h.below hb⟩
     · rintro T cs w1 w2 g c0 ⟨s_,A_,n_,c_,B_,m_,d_,t_,E_,i_,e_,F_,j_,f_,rfl,h⟩ hB ho;exact ⟨s_,A_,n_,c_,B_,m_,d_,t_,E_,i_,e_,F_,j_,f_,rfl,h.box hB ho⟩
   · refine ⟨⟨o10_fends,rfl,rfl,rfl,fun e w'=>run_alloc6⟩,⟨o12_fends,rfl,rfl,rfl,⟨10,.data⟩,by simp [o12_fends],rfl,rfl⟩,free6 _ _ _ _ _ _ _ _ _ _ _ _ _ _,?_,?_⟩
     · rintro cs w1 w2 ⟨s_,A_,n_,c_,B_,m_,d_,t_,E_,i_,e_,F_,j_,f_,rfl,h⟩ hb;exact ⟨s_,A_,n_,c_,B_,m_,d_,t_,E_,i_,e_,F_,j_,f_,rfl,h.below hb⟩
     · rintro T cs w1 w2 g c0 ⟨s_,A_,n_,c_,B_,m_,d_,t_,E_,i_,e_,F_,j_,f_,rfl,h⟩ hB ho;exact ⟨s_,A_,n_,c_,B_,m_,d_,t_,E_,i_,e_,F_,j_,f_,rfl,h.box hB ho⟩
 · intro p hp q hq h
   simp only [List.mem_cons,List.not_mem_nil,or_false] at hp hq
   rcases hp with rfl | rfl <;> rcases hq with rfl | rfl
   · rfl
   · exact absurd (show (4:Nat)=5 from h) (by decide)
   · exact absurd (show (5:Nat)=4 from h) (by decide)
   · rfl
 · intro p hp q hq h
   simp only [List.mem_cons,List.not_mem_nil,or_false] at hp hq
   rcases hp with rfl | rfl <;> rcases hq with rfl | rfl
   · rfl
   · exact absurd (show (11:Nat)=12 from h) (by decide)
   · exact absurd (show (12:Nat)=11 from h) (by decide)
   · rfl
 · intro i o h1 h2
   match i,h1 with
   | 0,h1=>cases h1;cases h2
   | 1,h1=>cases h1;cases h2
   | 2,h1=>cases h1;cases h2
   | 3,h1=>cases h1;cases h2
   | 4,h1=>cases h1;cases h2
   | 5,h1=>cases h1;cases h2
   | 6,h1=>cases h1;cases h2
   | 7,h1=>cases h1;cases h2
   | 8,h1=>cases h1;cases h2
   | 9,h1=>cases h1;cases h2
   | 10,h1=>cases h1;cases h2
   | 11,h1=>exact ⟨B0_fends k va,List.Mem.head _,rfl⟩
   | 12,h1=>exact ⟨B1_fends k vb,List.Mem.tail _ (List.Mem.head _),rfl⟩
   | i+13,h1=>cases h1
 · intro t
   unfold F_fends
   split <;> first | exact (stays_eq _).inn _ | exact (stays_q _ _).inn _ | exact (stays_z _ _).inn _ | exact (stays_r _ _).inn _ | exact (stays_rq _ _).inn _ | exact (stays_pg _ _ _).inn _ | exact (stays_true).inn _
 · intro i o t sv w' ho hia hd J0 hf
   have EP:=EP.below J0;have EQ:=EQ.below J0;have pa:=pa.below J0;have pb:=pb.below J0
   match i,ho with
   | 0,ho =>
     obtain rfl:o0_fends=o:=Option.some.inj ho
     cases hd
     refine wpOp_plain' (o:=o0_fends) rfl rfl ?_
     unfold Oper.wp o0_fends
     rw [run_move (E0 sv),Oper.upon_value]
     exact ⟨_,rfl,Below.refl _ _,rfl⟩
   | 1,ho =>
     obtain rfl:o1_fends=o:=Option.some.inj ho
     cases hd
     have f12:sv 12=Value.slice A n c:=hf ⟨0,.data⟩ (by simp [o1_fends]) rfl _ 12 rfl rfl (NE _ (by decide))
     refine wpOp_plain' (o:=o1_fends) rfl rfl ?_
     unfold Oper.wp o1_fends
     rw [run_ixh ((G sv 12 (by decide) (by decide)).trans f12) (show (putAll ac L_fends sv).eval (.const (Value.int IntKind.i64 0))=(Value.int IntKind.i64 0) from rfl) hixa,Oper.upon_value]
     exact ⟨_,rfl,Below.refl _ _,rfl⟩
   | 2,ho =>
     obtain rfl:o2_fends=o:=Option.some.inj ho
     cases hd
     have f13:sv 13=Value.pointer (some ⟨ga,oa,none⟩):=hf ⟨1,.data⟩ (by simp [o2_fends]) rfl _ 13 rfl rfl (NE _ (by decide))
     refine wpOp_plain' (o:=o2_fends) rfl rfl ?_
     unfold Oper.wp o2_fends
     rw [run_ldh ((G sv 13 (by decide) (by decide)).trans f13) EP,Oper.upon_value]
     exact ⟨_,rfl,Below.refl _ _,rfl⟩
   | 3,ho =>
     obtain rfl:o3_fends=o:=Option.some.inj ho
     cases hd
     have f14:sv 14=Value.agg #[.bool P.x.s,.slice P.x.A P.x.n P.x.c,.slice P.x.B P.x.m P.x.d,.bool P.y.s,.slice P.y.A P.y.n P.y.c,.slice P.y.B P.y.m P.y.d,.bool P.w.s,.slice P.w.A P.w.n P.w.c,.slice P.w.B P.w.m P.w.d]:=hf ⟨2,.data⟩ (by simp [o3_fends]) rfl _ 14 rfl rfl (NE _ (by decide))
     refine wpOp_plain' (o:=o3_fends) rfl rfl ?_
     unfold Oper.wp o3_fends
     rw [rc_gesso_flat_place ((G sv 14 (by decide) (by decide)).trans f14) rfl,Oper.upon_enter]
     refine (fplace pa hk h1 ha0).mono ?_
     rintro e w1 ⟨s_,A_,n_,c_,B_,m_,d_,t_,E_,i_,e_,F_,j_,f_,rfl,hq,hh⟩
     exact ⟨_,rfl,hh,s_,A_,n_,c_,B_,m_,d_,t_,E_,i_,e_,F_,j_,f_,rfl,hq⟩
   | 4,ho =>
     obtain rfl:o4_fends=o:=Option.some.inj ho
     cases hd
     refine wpOp_plain' (o:=o4_fends) rfl rfl ?_
     unfold Oper.wp o4_fends
     rw [run_move (E0 sv),Oper.upon_value]
     exact ⟨_,rfl,Below.refl _ _,rfl⟩
   | 5,ho =>
     obtain rfl:o5_fends=o:=Option.some.inj ho
     cases hd
     refine wpOp_plain' (o:=o5_fends) rfl rfl ?_
     unfold Oper.wp o5_fends
     rw [run_move (E3 sv),Oper.upon_value]
     exact ⟨_,rfl,Below.refl _ _,rfl⟩
   | 6,ho =>
     obtain rfl:o6_fends=o:=Option.some.inj ho
     cases hd
     have f16:sv 16=Value.slice A n c:=hf ⟨4,.data⟩ (by simp [o6_fends]) rfl _ 16 rfl rfl (NE _ (by decide))
     have f17:sv 17=Value.int .i64 (l:Int):=hf ⟨5,.data⟩ (by simp [o6_fends]) rfl _ 17 rfl rfl (NE _ (by decide))
     refine wpOp_plain' (o:=o6_fends) rfl rfl ?_
     unfold Oper.wp o6_fends
     rw [run_ixh ((G sv 16 (by decide) (by decide)).trans f16) ((G sv 17 (by decide) (by decide)).trans f17) hixb,Oper.upon_value]
     exact ⟨_,rfl,Below.refl _ _,rfl⟩
   | 7,ho =>
     obtain rfl:o7_fends=o:=Option.some.inj ho
     cases hd
     have f18:sv 18=Value.pointer (some ⟨gb,ob,none⟩):=hf ⟨6,.data⟩ (by simp [o7_fends]) rfl _ 18 rfl rfl (NE _ (by decide))
     refine wpOp_plain' (o:=o7_fends) rfl rfl ?_
     unfold Oper.wp o7_fends
     rw [run_ldh ((G sv 18 (by decide) (by decide)).trans f18) EQ,Oper.upon_value]
     exact ⟨_,rfl,Below.refl _ _,rfl⟩
   | 8,ho =>
     obtain rfl:o8_fends=o:=Option.some.inj ho
     cases hd
     have f19:sv 19=Value.agg #[.bool R.x.s,.slice R.x.A R.x.n R.x.c,.slice R.x.B R.x.m R.x.d,.bool R.y.s,.slice R.y.A R.y.n R.y.c,.slice R.y.B R.y.m R.y.d,.bool R.w.s,.slice R.w.A R.w.n R.w.c,.slice R.w.B R.w.m R.w.d]:=hf ⟨7,.data⟩ (by simp [o8_fends]) rfl _ 19 rfl rfl (NE _ (by decide))
     refine wpOp_plain' (o:=o8_fends) rfl rfl ?_
     unfold Oper.wp o8_fends
     rw [rc_gesso_flat_place ((G sv 19 (by decide) (by decide)).trans f19) rfl,Oper.upon_enter]
     refine (fplace pb hk h1 hb0).mono ?_
     rintro e w1 ⟨s_,A_,n_,c_,B_,m_,d_,t_,E_,i_,e_,F_,j_,f_,rfl,hq,hh⟩
     exact ⟨_,rfl,hh,s_,A_,n_,c_,B_,m_,d_,t_,E_,i_,e_,F_,j_,f_,rfl,hq⟩
   | 9,ho=>cases ho;cases hd;exact absurd rfl (hia (B0_fends k va) (List.Mem.head _))
   | 10,ho=>cases ho;cases hd;exact absurd rfl (hia (B1_fends k vb) (List.Mem.tail _ (List.Mem.head _)))
   | 11,ho=>cases ho;cases hd
   | 12,ho=>cases ho;cases hd
   | i+13,ho=>cases ho
 · intro p hp os sv w' g hos J0 p1 p3 hf
   simp only [List.mem_cons,List.not_mem_nil,or_false] at hp
   rcases hp with rfl | rfl
   · obtain rfl:o11_fends=os:=Option.some.inj hos
     have h1:VPG (va.px) (va.py) ((k+(1+k))) (sv 15) w':=hf ⟨3,.data⟩ (by simp [o11_fends]) rfl _ 15 rfl rfl (NE _ (by decide))
     rw [← G sv 15 (by decide) (by decide)] at h1
     refine store_pg (x:=va.px) (y:=va.py) (k:=(k+(1+k))) (ac:=putAll ac L_fends sv) (z:=.tmp 15) ?_ ?_ ?_
     · exact (G sv 4 (by decide) (by decide)).trans p1
     · exact h1
     · exact p3
   · obtain rfl:o12_fends=os:=Option.some.inj hos
     have h1:VPG (vb.px) (vb.py) ((k+(1+k))) (sv 20) w':=hf ⟨8,.data⟩ (by simp [o12_fends]) rfl _ 20 rfl rfl (NE _ (by decide))
     rw [← G sv 20 (by decide) (by decide)] at h1
     refine store_pg (x:=vb.px) (y:=vb.py) (k:=(k+(1+k))) (ac:=putAll ac L_fends sv) (z:=.tmp 20) ?_ ?_ ?_
     · exact (G sv 5 (by decide) (by decide)).trans p1
     · exact h1
     · exact p3
 · intro sv w' J0 hF hB hap
   obtain ⟨g0,cs0,p0,r0,b0,⟨s0,A0,n0,c0,B0,m0,d0,t0,E0,i0,e0,F0,j0,f0,rfl,h0⟩⟩:=hB (B0_fends k va) (List.Mem.head _)
   obtain ⟨g1,cs1,p1,r1,b1,⟨s1,A1,n1,c1,B1,m1,d1,t1,E1,i1,e1,F1,j1,f1,rfl,h1⟩⟩:=hB (B1_fends k vb) (List.Mem.tail _ (List.Mem.head _))
   have p0':sv 4=.pointer (some ⟨g0,0,none⟩):=p0
   have p1':sv 5=.pointer (some ⟨g1,0,none⟩):=p1
   exact hend sv w' g0 _ _ _ _ _ _ _ _ _ _ _ _ _ _ g1 _ _ _ _ _ _ _ _ _ _ _ _ _ _ h0 b0.at_ r0 p0' h1 b1.at_ r1 p1' (fun q=>hap (B1_fends k vb) (List.Mem.tail _ (List.Mem.head _)) (B0_fends k va) (List.Mem.head _) (show (5:Nat) ≠ 4 by decide) (by rw [show (B1_fends k vb).tA=5 from rfl,show (B0_fends k va).tA=4 from rfl,p1',p0',q]))   J0
theorem fdist {A:Option Addr} {n c k:Nat} {L:List HV} {V:List AH} (hL:SV w A (hvs L)) (hE:EachH HR w L V k) (hn:L.length=n) (hnc:n≤c) (hk:k≤400) (h1:1≤k) (hG:GoodH V) :
 Calls Tryz.prog 30 #[.slice A n c] w (GivesQs w (0 :: midQ V) (12*((k+(1+k))+(k+(1+k)))+8*(k+(1+k))+40)):=by
 have HN:=Lib.hid hn
 have hvn:V.length=n:=hE.1.symm.trans hn
 obtain ⟨l,m,hl,hm⟩:∃ l m,n=l+1∧l=m+1:=⟨n - 1,n - 2,by have:=hG.1;omega,by have:=hG.1;omega⟩
 have hn4:n≤4:=by have:=hG.1;omega
 have HVm:Hid (V.length=m+2):=by show _=_;omega
 have HVl:Hid (V.length=l+1):=by show _=_;omega
 obtain ⟨P0,u0,hP0,hu0,p0⟩:=hE.at_ (i:=0) (by rw [hn];omega)
 obtain ⟨R0,v0,hR0,hv0,q0⟩:=hE.at_ (i:=l) (by rw [hn];omega)
 obtain ⟨ga,oa,hix0,E0,_⟩:=hL.ht hP0
 obtain ⟨gb,ob,hix1,E1,_⟩:=hL.ht hR0
 have hixa:∀ w',(Instr.indexAt 22 (.slice A n c) (.int .i64 0)).run Tryz.prog w'=.ok (.pointer (some ⟨ga,oa,none⟩)) w':=fun w'=>hix0 n c w' (by omega)
 have hixb:∀ w',(Instr.indexAt 22 (.slice A n c) (.int .i64 (l:Int))).run Tryz.prog w'=.ok (.pointer (some ⟨gb,ob,none⟩)) w':=fun w'=>hix1 n c w' (by omega)
 obtain ⟨A2,c2,hcut0,hS2⟩:=hL.midH (c:=c) hn hl hm hnc
 have hw0:u0.w ≠ 0:=by have:=hG.2 _ (List.mem_of_getElem? hu0);grind
 have hw1:v0.w ≠ 0:=by have:=hG.2 _ (List.mem_of_getElem? hv0);grind
 have HU0:Hid (u0=fstH V):=Option.some.inj (hu0.symm.trans (fst_get (by rw [HVm.out];omega)))
 have HV0:Hid (v0=lstH V):=Option.some.inj (hv0.symm.trans (lst_get HVl.out))
 have HW0:=Lib.hid hw0;have HW1:=Lib.hid hw1;have HG:=Lib.hid hG;have HLM:=Lib.hid hl;have HMM:=Lib.hid hm
 have hm2:m≤2:=by omega
 have hwl:IntKind.i64.wrap ((n:Int) - 1)=(l:Int):=by rw [IntWalk.i64_in _ (by omega)];omega
 have HS2:=Lib.hid hS2;have HE9:=Lib.hid hE
 have hb:Below w.heap.size w w:=Below.refl _ _
 have HL9:Hid (L.length=m+2):=by show _=_;omega
 clear hL hE hn hnc hG hvn hP0 hu0 hR0 hv0 hix0 hix1 hw0 hw1 hl hm hS2
 go_enter Tryz.func30,Tryz.ntmps30
 go_upto_region 2 with (fail)
 refine fends_region (by simp) rfl rfl E0 E1 p0 q0 hixa hixb (by omega) h1 HW0.out HW1.out ?_
 intro V1 w_s g_a s_a A_a n_a c_a B_a m_a d_a t_a E_a i_a e_a F_a j_a f_a g_b s_b A_b n_b c_b B_b m_b d_b t_b E_b i_b e_b F_b j_b f_b a XA hg_a hva b XB hg_b hvb hne hh
 simp only [putAll,Act.put,List.setIfInBounds_toArray,List.set_cons_zero,List.set_cons_succ,hva,hvb]
 clear hva hvb hne E0 E1 p0 q0 hixa hixb hg_a hg_b;replace hb:=bend hb hh
 have HS3:Hid (SV w_s A2 (hvs ((L.drop 1).take m))):=HS2.out.below hh
 have HE3:Hid (EachH HR w_s L V k):=HE9.out.belowR hh
 clear HS2 HE9 hh
 go_upto_region 4 with (first
  | (go_at_call 18;(with_reducible refine (rof_q 0 1 (by decide) (by decide) (by decide) (by decide) (by decide) _).mono ?_);rintro e w_z ⟨s_z,A_z,n_z,c_z,B_z,m_z,d_z,rfl,z,hh⟩
     (try replace a:=a.below hh);(try replace b:=b.below hh);(try replace XA:=XA.below hh);(try replace XB:=XB.below hh);replace hb:=bend hb hh
     replace HS3:=Lib.hid (HS3.out.below hh)
     replace HE3:=Lib.hid (HE3.out.belowR hh)))
 have hzq:Rat.divInt 0 1=0:=by decide +kernel
 rw [hzq] at z
 have LN0:=LnQ.lit (T:=27) (base:=w_z.heap.size) w_z [(⟨s_z,A_z,n_z,c_z,B_z,m_z,d_z⟩:QV)] (Nat.le_refl _) (by simp)
 have hh:Below w_z.heap.size w_z (w_z.alloc (Obj.cells (qvs [(⟨s_z,A_z,n_z,c_z,B_z,m_z,d_z⟩:QV)]).toArray 27)):=(Below.refl _ _).alloc (Nat.le_refl _) _
 have e9:(qvs [(⟨s_z,A_z,n_z,c_z,B_z,m_z,d_z⟩:QV)]).toArray=#[Value.bool s_z,Value.slice A_z n_z c_z,Value.slice B_z m_z d_z]:=rfl
 rw [e9] at LN0 hh
 clear e9
 have hga:g_a < w_z.heap.size:=XA.lt
 have hgb:g_b < w_z.heap.size:=XB.lt
 have HBz:Hid (w.heap.size≤w_z.heap.size):=hb.size
 have HB0:Hid (Below w.heap.size w w_z):=hb
 have HQ0:Hid (EachQ (w_z.alloc (Obj.cells #[Value.bool s_z,Value.slice A_z n_z c_z,Value.slice B_z m_z d_z] 27)) [(⟨s_z,A_z,n_z,c_z,B_z,m_z,d_z⟩:QV)] (0 :: (midQ V).take 0) (12*((k+(1+k))+(k+(1+k)))+8*(k+(1+k))+40)):=by
  refine ⟨rfl,fun i p u hp hu=>?_⟩
  match i,hp,hu with
  | 0,hp,hu =>
    cases hp;cases hu
    exact (z.below hh).more (by omega)
  | i+1,hp,hu=>cases hp
 have HH1:=Lib.hid hh
 generalize (w_z.alloc (Obj.cells #[Value.bool s_z,Value.slice A_z n_z c_z,Value.slice B_z m_z d_z] 27))=W1 at *
 have hcut:∀ w',(Instr.slice 22 (.slice A n c) (some (.int .i64 1)) (some (.int .i64 (l:Int))) none).run Tryz.prog w'=.ok (.slice A2 m c2) w':=hcut0
 clear hcut0 z hzq hb hh
 go_wp2_with fail
 have HXA:=Lib.hid XA;have HXB:=Lib.hid XB;have Ha:=Lib.hid a;have Hb:=Lib.hid b;have HLN:=Lib.hid LN0;clear XA XB a b LN0
 go_loopg [6,27] m (fun gk out ix wr=>∃ (M:List QV) (j:Nat),Hid (gk+j=m)∧ix=.int .i64 (j:Int)∧LnQ 27 w_z.heap.size wr out M∧Hid (EachQ wr M (0 :: (midQ V).take j) (12*((k+(1+k))+(k+(1+k)))+8*(k+(1+k))+40))∧Below w_z.heap.size w_z wr)
 case atStart=>exact ⟨_,0,Nat.add_zero _,rfl,HLN.out,HQ0.out,HH1.out⟩
 case round =>
  obtain ⟨M,j,HG9,rfl,LT,HQ,hB⟩:=hrel
  by_cases hjm:j < m
  · obtain ⟨P,u,hP1,hu1,p9⟩:=HE3.out.at_ (i:=j+1) (by rw [HL9.out];omega)
    have hP2:((L.drop 1).take m)[j]?=some P:=by rw [List.getElem?_take,if_pos hjm,List.getElem?_drop,Nat.add_comm];exact hP1
    obtain ⟨g0,o0,hix0,EP0,_⟩:=HS3.out.ht hP2
    have hixa:∀ w',(Instr.indexAt 22 (.slice A2 m c2) (.int .i64 (j:Int))).run Tryz.prog w'=.ok (.pointer (some ⟨g0,o0,none⟩)) w':=fun w'=>hix0 m c2 w' hjm
    have hlt:(j:Int) < (m:Int):=by omega
    have hwr:IntKind.i64.wrap ((j:Int)+1)=(j:Int)+1:=IntWalk.i64_in _ (by omega)
    have HWU:Hid (u.w ≠ 0):=by have:=HG.out.2 _ (List.mem_of_getElem? hu1);show _ ≠ _;grind
    have HMQ:Hid ((midQ V)[j]?=some (segQ u.px u.py u0.px u0.py v0.px v0.py)):=by
     show _=_
     rw [mid_get HVm.out hjm,hu1,HU0.out,HV0.out];rfl
    have hMl:M.length≤1000000:=by have:=HQ.out.1;rw [List.length_cons,List.length_take] at this;omega
    have HJM:=Lib.hid hjm
    have epl:=(EP0.below hB).ldH
    have p:=p9.below hB;have XA:=HXA.out.below hB;have XB:=HXB.out.below hB;have a:=Ha.out.below hB;have b:=Hb.out.below hB
    have hxh:∀ g,u6.ownBlock=some g→g ≠ wr.heap.size:=fun g e=>by have:=(LT.own.lt g e).2;omega
    have hxa:∀ g,u6.ownBlock=some g→g ≠ g_a:=fun g e=>by have:=(LT.own.lt g e).1;omega
    have hxb:∀ g,u6.ownBlock=some g→g ≠ g_b:=fun g e=>by have:=(LT.own.lt g e).1;omega
    clear hP1 hP2 hu1 hix0 hjm EP0 p9
    have zs:=st_newH wr (Value.bool P.x.s) (Value.slice P.x.A P.x.n P.x.c) (Value.slice P.x.B P.x.m P.x.d) (Value.bool P.y.s) (Value.slice P.y.A P.y.n P.y.c) (Value.slice P.y.B P.y.m P.y.d) (Value.bool P.w.s) (Value.slice P.w.A P.w.n P.w.c) (Value.slice P.w.B P.w.m P.w.d) (by simp [Value.oneCell'])
    go_upto_region 7 with (fail)
    clear zs
    have XH:=BH.new' wr (Value.bool P.x.s) (Value.slice P.x.A P.x.n P.x.c) (Value.slice P.x.B P.x.m P.x.d) (Value.bool P.y.s) (Value.slice P.y.A P.y.n P.y.c) (Value.slice P.y.B P.y.m P.y.d) (Value.bool P.w.s) (Value.slice P.w.A P.w.n P.w.c) (Value.slice P.w.B P.w.m P.w.d) wr.heap.size rfl
    have hh:Below wr.heap.size wr (wr.alloc (Obj.cells #[Value.bool P.x.s,Value.slice P.x.A P.x.n P.x.c,Value.slice P.x.B P.x.m P.x.d,Value.bool P.y.s,Value.slice P.y.A P.y.n P.y.c,Value.slice P.y.B P.y.m P.y.d,Value.bool P.w.s,Value.slice P.w.A P.w.n P.w.c,Value.slice P.w.B P.w.m P.w.d] 55)):=((Below.refl _ _).alloc (Nat.le_refl _) _)
    have hzs:(wr.alloc (Obj.cells #[Value.bool P.x.s,Value.slice P.x.A P.x.n P.x.c,Value.slice P.x.B P.x.m P.x.d,Value.bool P.y.s,Value.slice P.y.A P.y.n P.y.c,Value.slice P.y.B P.y.m P.y.d,Value.bool P.w.s,Value.slice P.w.A P.w.n P.w.c,Value.slice P.w.B P.w.m P.w.d] 55)).heap.size=wr.heap.size+1:=World.size_alloc _ _
    generalize (wr.alloc (Obj.cells #[Value.bool P.x.s,Value.slice P.x.A P.x.n P.x.c,Value.slice P.x.B P.x.m P.x.d,Value.bool P.y.s,Value.slice P.y.A P.y.n P.y.c,Value.slice P.y.B P.y.m P.y.d,Value.bool P.w.s,Value.slice P.w.A P.w.n P.w.c,Value.slice P.w.B P.w.m P.w.d] 55))=W3 at *
    replace LT:=LT.below hh;replace XA:=XA.below hh;replace XB:=XB.below hh;replace p:=p.below hh;replace a:=a.below hh;replace b:=b.below hh
    replace HQ:=Lib.hid (HQ.out.below hh)
    replace hB:=bend hB hh;clear hh epl
    replace LT:=LT.below (Below.refl _ _).drew
    replace XH:=XH.below (Below.refl _ _).drew
    replace XA:=XA.below (Below.refl _ _).drew
    replace XB:=XB.below (Below.refl _ _).drew
    replace p:=p.below (Below.refl _ _).drew
    replace a:=a.below (Below.refl _ _).drew
    replace b:=b.below (Below.refl _ _).drew
    replace HQ:=Lib.hid (EachQ.below HQ.out (Below.refl _ _).drew)
    replace hB:=hB.drew
    go_region_held3 (fun w'=>(LVH ⟨wr.heap.size,0,none⟩).run Tryz.prog w'=.ok (.agg #[.bool P.x.s,.slice P.x.A P.x.n P.x.c,.slice P.x.B P.x.m P.x.d,.bool P.y.s,.slice P.y.A P.y.n P.y.c,.slice P.y.B P.y.m P.y.d,.bool P.w.s,.slice P.w.A P.w.n P.w.c,.slice P.w.B P.w.m P.w.d]) w'∧w'.cell? ⟨g_a,0,none⟩=some (.bool s_a)∧w'.cell? ⟨g_a,1,none⟩=some (.slice A_a n_a c_a)∧w'.cell? ⟨g_a,2,none⟩=some (.slice B_a m_a d_a)∧w'.cell? ⟨g_a,3,none⟩=some (.bool t_a)∧w'.cell? ⟨g_a,4,none⟩=some (.slice E_a i_a e_a)∧w'.cell? ⟨g_a,5,none⟩=some (.slice F_a j_a f_a)∧w'.cell? ⟨g_b,0,none⟩=some (.bool s_b)∧w'.cell? ⟨g_b,1,none⟩=some (.slice A_b n_b c_b)∧w'.cell? ⟨g_b,2,none⟩=some (.slice B_b m_b d_b)∧w'.cell? ⟨g_b,3,none⟩=some (.bool t_b)∧w'.cell? ⟨g_b,4,none⟩=some (.slice E_b i_b e_b)∧w'.cell? ⟨g_b,5,none⟩=some (.slice F_b j_b f_b))
     (first | with_reducible exact ⟨XHb.ld,XAb.c0,XAb.c1,XAb.c2,XAb.c3,XAb.c4,XAb.c5,XBb.c0,XBb.c1,XBb.c2,XBb.c3,XBb.c4,XBb.c5⟩ | with_reducible exact ⟨XH.ld,XA.c0,XA.c1,XA.c2,XA.c3,XA.c4,XA.c5,XB.c0,XB.c1,XB.c2,XB.c3,XB.c4,XB.c5⟩ | exact ⟨(XH.below ((Below.refl _ _).alloc (Nat.le_refl _) _)).ld,(XA.below ((Below.refl _ _).alloc (Nat.le_refl _) _)).c0,(XA.below ((Below.refl _ _).alloc (Nat.le_refl _) _)).c1,(XA.below ((Below.refl _ _).alloc (Nat.le_refl _) _)).c2,(XA.below ((Below.refl _ _).alloc (Nat.le_refl _) _)).c3,(XA.below ((Below.refl _ _).alloc (Nat.le_refl _) _)).c4,(XA.below ((Below.refl _ _).alloc (Nat.le_refl _) _)).c5,(XB.below ((Below.refl _ _).alloc (Nat.le_refl _) _)).c0,(XB.below ((Below.refl _ _).alloc (Nat.le_refl _) _)).c1,(XB.below ((Below.refl _ _).alloc (Nat.le_refl _) _)).c2,(XB.below ((Below.refl _ _).alloc (Nat.le_refl _) _)).c3,(XB.below ((Below.refl _ _).alloc (Nat.le_refl _) _)).c4,(XB.below ((Below.refl _ _).alloc (Nat.le_refl _) _)).c5⟩)
     (first
     | (go_at_call 67;(with_reducible refine (fplace p (by omega) h1 HWU.out).mono ?_);rintro e w_q ⟨s_q,A_q,n_q,c_q,B_q,m_q,d_q,t_q,E_q,i_q,e_q,F_q,j_q,f_q,rfl,q,hh⟩
        (try replace LT:=LT.below hh);(try replace XH:=XH.below hh);(try replace XA:=XA.below hh);(try replace XB:=XB.below hh);(try replace p:=p.below hh);(try replace a:=a.below hh);(try replace b:=b.below hh)
        replace HQ:=Lib.hid (EachQ.below HQ.out hh)
        replace hB:=bend hB hh)
     | (go_at_call 21;(with_reducible refine (ptoseg_p q.pr a.pr b.pr (by omega) (by omega) (by omega) (by omega)).mono ?_);rintro e w_t ⟨s_t,A_t,n_t,c_t,B_t,m_t,d_t,rfl,t,hh⟩
        (try replace LT:=LT.below hh);(try replace XH:=XH.below hh);(try replace XA:=XA.below hh);(try replace XB:=XB.below hh);(try replace p:=p.below hh);(try replace a:=a.below hh);(try replace b:=b.below hh);(try replace q:=q.below hh)
        replace HQ:=Lib.hid (EachQ.below HQ.out hh)
        replace hB:=bend hB hh)
     | (have hal:Below w_t.heap.size w_t (w_t.alloc (Obj.cells #[Value.bool s_t,Value.slice A_t n_t c_t,Value.slice B_t m_t d_t] 27)):=((Below.refl _ _).alloc (Nat.le_refl _) _)
        have XHa:=XH.below hal;have XAa:=XA.below hal;have XBa:=XB.below hal
        refine step_pushQ Tryz.underlying67 info_rat (by rfl) _ _ (by rfl) (p:=(⟨s_t,A_t,n_t,c_t,B_t,m_t,d_t⟩:QV)) (k0:=1) (b:=w_t.heap.size) (by rfl) (by rfl) (LT.below hal) (by have h5:=hB.size;have h6:=hal.size;omega) hMl (heap_alloc_new w_t _) ?_
        intro v3 w3 hn3 hg3 ho3
        have XHb:=XHa.pushR hg3 hxh;have XAb:=XAa.pushR hg3 hxa;have XBb:=XBa.pushR hg3 hxb))
    have hE3:EachQ (w_t.alloc (Obj.cells #[Value.bool s_t,Value.slice A_t n_t c_t,Value.slice B_t m_t d_t] 27)) M (0 :: (midQ V).take j) (12*((k+(1+k))+(k+(1+k)))+8*(k+(1+k))+40):=EachQ.below HQ.out hal
    have hp3:((⟨s_t,A_t,n_t,c_t,B_t,m_t,d_t⟩:QV)).G (w_t.alloc (Obj.cells #[Value.bool s_t,Value.slice A_t n_t c_t,Value.slice B_t m_t d_t] 27)) (segQ u.px u.py u0.px u0.py v0.px v0.py) (12*((k+(1+k))+(k+(1+k)))+8*(k+(1+k))+40):=QG.below t hal
    have hB9:=LnQ.under (T:=27) (base:=w_z.heap.size) (LT.below hal) hg3 (w0:=w_z) (bend hB hal) (Nat.le_refl _)
    have hE4:=(hE3.imp (fun _ _ h=>(LT.below hal).qg hg3 h)).push (p:=(⟨s_t,A_t,n_t,c_t,B_t,m_t,d_t⟩:QV)) ((LT.below hal).qg hg3 hp3)
    rw [List.cons_append,← take_step HMQ.out] at hE4
    clear hE3 hp3 p t XH XA XB XHa XAa XBa XHb XAb XBb
    go_wp2_with fail
    go_roundg (gk - 1)
    case measure=>have:=HG9.out;have:=HJM.out;omega
    case rel=>exact ⟨M ++ [(⟨s_t,A_t,n_t,c_t,B_t,m_t,d_t⟩:QV)],j+1,by have:=HG9.out;have:=HJM.out;show _=_;omega,by go_num,hn3,Lib.hid hE4,hB9⟩
  · have hlt:¬ (j:Int) < (m:Int):=by omega
    have HQ2:Hid (EachQ wr M (0 :: midQ V) (12*((k+(1+k))+(k+(1+k)))+8*(k+(1+k))+40)):=by
     have h:=HQ.out
     rwa [List.take_of_length_le (by rw [mid_length HVm.out];omega)] at h
    have HB9:Hid (Below w.heap.size w wr):=bend HB0.out hB
    clear hjm
    go_wp2_with fail
    (try rw [Exit.noGoto_ret])
    go_ret
    exact ⟨_,M,rfl,LT.base_le HBz.out,HQ2.out,HB9.out⟩
end
section
open Go
theorem wp_post {P:Program} {o:Oper} {a:Act} {K K':Act→World→Prop} {N:Act→World→Prop} {Q:Exit→Act→World→Prop} (h:∀ a w,K a w→K' a w)
 (hh:o.wp P a w K (Exit.then N Q)):o.wp P a w K' Q:=by
 unfold Oper.wp at *
 generalize (execOp a.eval o).run P w=r at *
 cases r with
 | ok n w' =>
   cases n <;> simp only [Oper.upon] at hh ⊢ <;>
    first
     | exact h _ _ hh
     | exact Calls.mono hh (fun e w'' he=>by cases e <;> first | exact h _ _ he | exact he)
     | exact Rows.mono hh (fun _ _ he=>h _ _ he)
 | halt x w'=>cases x <;> simp only [Oper.upon] at hh ⊢ <;> exact hh
def lastB (ops:Array Oper):Bool :=
 (ops.all fun o=>o.guard.isNone) &&
 (List.range (ops.size - 1)).all fun i=>(List.range ops.size).any fun j=>decide (i < j) && ((ops[j]?).map fun o=>o.after.any fun e=>Region.binds .any e && decide (e.on=i)).getD false
section
variable {P:Program} {ops:Array Oper} {Q:Exit→Act→World→Prop}
theorem unguarded {i:Nat} {o:Oper} (h:lastB ops=true) (ho:ops[i]?=some o):o.guard=none:=by
 unfold lastB at h
 rw [Bool.and_eq_true] at h
 have h1:=Array.all_eq_true.1 h.1 i (Array.getElem?_eq_some_iff.1 ho).1
 rw [(Array.getElem?_eq_some_iff.1 ho).2] at h1
 simpa using h1
theorem asked {i:Nat} (h:lastB ops=true) (hi:i+1 < ops.size):∃ j o e,i < j∧ops[j]?=some o∧e ∈ o.after∧Region.binds .any e=true∧e.on=i:=by
 unfold lastB at h
 rw [Bool.and_eq_true] at h
 have h1:=List.all_eq_true.1 h.2 i (by rw [List.mem_range];omega)
 obtain ⟨j,_,h2⟩:=List.any_eq_true.1 h1
 rw [Bool.and_eq_true] at h2
 cases ho:ops[j]? with
 | none=>rw [ho] at h2;simp at h2
 | some o =>
   rw [ho] at h2
   simp only [Option.map_some,Option.getD_some] at h2
   obtain ⟨m,hm,h3⟩:=Array.any_eq_true.1 h2.2
   rw [Bool.and_eq_true] at h3
   exact ⟨j,o,_,of_decide_eq_true h2.1,ho,Array.getElem_mem hm,h3.1,of_decide_eq_true h3.2⟩
def Shut (ops:Array Oper) (listed:Array Bool):Prop :=
 ∀ (j:Nat) (o:Oper),ops[j]?=some o→listed.getD j false=true→∀ e ∈ o.after,Region.binds .any e=true→listed.getD e.on false=true
theorem shut_all {listed:Array Bool} (hl:lastB ops=true) (hs:Shut ops listed) (h:listed.getD (ops.size - 1) false=true):∀ k i,i+k+1=ops.size→listed.getD i false=true:=by
 intro k
 induction k using Nat.strongRecOn with
 | ind k ih =>
   intro i hi
   rcases Nat.eq_zero_or_pos k with h0 | h0
   · subst h0
     rw [show i=ops.size - 1 by omega];exact h
   · obtain ⟨j,o,e,hij,ho,he,hb,rfl⟩:=asked (i:=i) hl (by omega)
     have hj:=(Array.getElem?_eq_some_iff.1 ho).1
     exact hs j o ho (ih (ops.size - 1 - j) (by omega) j (by omega)) e he hb
theorem shut_set {listed:Array Bool} {i:Nat} {o:Oper} (hs:Shut ops listed) (hi:i < listed.size) (ho:ops[i]?=some o) (hall:∀ e ∈ o.after,Region.binds .any e=true→listed.getD e.on false=true) :
 Shut ops (listed.setIfInBounds i true):=by
 have up:∀ k,listed.getD k false=true→(listed.setIfInBounds i true).getD k false=true:=by
  intro k hk
  by_cases hki:k=i
  · subst hki;simp [hi]
  · simpa [Array.getD_eq_getD_getElem?,Ne.symm hki] using hk
 intro j o' ho' hj e he hb
 by_cases hji:j=i
 · subst hji
   cases Option.some.inj (ho.symm.trans ho')
   exact up _ (hall e he hb)
 · refine up _ (hs j o' ho' ?_ e he hb)
   simpa [Array.getD_eq_getD_getElem?,Ne.symm hji] using hj
theorem pop_at {i:Nat} (h:i+1 < ops.size):ops.pop[i]?=ops[i]?:=by
 rw [Array.getElem?_pop];simp;omega
theorem wpAny_last {o:Oper} (hl:lastB ops=true) (hb:backB ops=true) (ho:ops[ops.size - 1]?=some o) :
 ∀ (fuel:Nat) (listed:Array Bool) (a:Act) (w:World),listed.size=ops.size→Shut ops listed→listed.getD (ops.size - 1) false=false →
  wpAny P .any ops.pop (Exit.then (fun a w=>o.wp P a w (Q .normal) Q) Q) fuel listed.pop a w→wpAny P .any ops Q (fuel+1) listed a w:=by
 have hn:ops.size - 1 < ops.size:=(Array.getElem?_eq_some_iff.1 ho).1
 have hg:=unguarded hl ho
 have hw:∀ a:Act,Region.wanted o (yielded ops a.tmps)=true:=by intro a;unfold Region.wanted;rw [hg]
 have atn:∀ (K:Act→World→Prop) (a:Act) (w:World),(∀ a w,Q .normal a w→K a w)→o.wp P a w (Q .normal) Q→wpOp P ops Q (ops.size - 1) K a w:=by
  intro K a w h1 h2
  unfold wpOp
  rw [ho]
  simp only [hw,if_true]
  exact .inl (Oper.wp_mono h1 h2)
 have lp:∀ {listed:Array Bool},listed.size=ops.size→∀ {i:Nat} (d:Bool),i+1 < ops.size→listed.pop.getD i d=listed.getD i d:=by
  intro listed hs i d hi
  have h1:i < listed.size - 1:=by omega
  simp only [Array.getD_eq_getD_getElem?,Array.getElem?_pop]
  rw [if_pos h1]
 have setall:∀ {listed:Array Bool},listed.size=ops.size→(∀ i,i+1 < ops.size→listed.getD i false=true)→Region.ready .any ops (listed.setIfInBounds (ops.size - 1) true)=[]:=by
  intro listed hs h
  rw [List.eq_nil_iff_forall_not_mem]
  intro i hi
  obtain ⟨h1,o',ho',_⟩:=mem_ready.1 hi
  have hi1:=(Array.getElem?_eq_some_iff.1 ho').1
  by_cases hin:i=ops.size - 1
  · subst hin
    have hin':ops.size - 1 < listed.size:=by omega
    simp [hin'] at h1
  · have h2:=h i (by omega)
    have h3:i < listed.size:=by omega
    simp only [Array.getD_eq_getD_getElem?,Array.getElem?_eq_getElem h3,Option.getD_some] at h2
    simp [Array.getD_eq_getD_getElem?,Ne.symm hin,h3,h2] at h1
 have goAll:∀ (fuel:Nat) (listed:Array Bool) (a:Act) (w:World),listed.size=ops.size→(∀ i,i+1 < ops.size→listed.getD i false=true)→Q .normal a w→wpAny P .any ops Q fuel (listed.setIfInBounds (ops.size - 1) true) a w:=by
  intro fuel listed a w hs h hq
  have h0:=setall hs h
  cases fuel with
  | zero=>exact ⟨h0,hq⟩
  | succ f =>
    refine ⟨fun _=>hq,fun i hi=>?_⟩
    rw [h0] at hi
    cases hi
 have part1:∀ {listed:Array Bool},listed.size=ops.size→listed.getD (ops.size - 1) false=false→¬ Region.ready .any ops listed=[]:=by
  intro listed hs h hr
  have:=all_listed hs hb hr (ops.size - 1) hn
  rw [h] at this
  cases this
 have popnil:∀ {listed:Array Bool},listed.size=ops.size→(∀ i,i+1 < ops.size→listed.getD i false=true)→Region.ready .any ops.pop listed.pop=[]:=by
  intro listed hs h
  rw [List.eq_nil_iff_forall_not_mem]
  intro i hi
  obtain ⟨h1,o',ho',_⟩:=mem_ready.1 hi
  have hi1:=(Array.getElem?_eq_some_iff.1 ho').1
  rw [Array.size_pop] at hi1
  rw [lp hs true (by omega)] at h1
  have h2:=h i (by omega)
  have h3:i < listed.size:=by omega
  simp only [Array.getD_eq_getD_getElem?,Array.getElem?_eq_getElem h3,Option.getD_some] at h1 h2
  rw [h1] at h2
  cases h2
 intro fuel
 induction fuel with
 | zero =>
   intro listed a w hs hS hL h
   obtain ⟨hr,hq⟩:=h
   refine ⟨fun hr=>absurd hr (part1 hs hL),fun i hi=>?_⟩
   obtain ⟨h1,o',ho',hall⟩:=mem_ready.1 hi
   have hi1:=(Array.getElem?_eq_some_iff.1 ho').1
   by_cases hin:i=ops.size - 1
   · subst hin
     cases Option.some.inj (ho.symm.trans ho')
     have hall2:∀ i,i+1 < ops.size→listed.getD i false=true:=by
      have hS2:=shut_set hS (by omega) ho hall
      intro i hi
      have:=shut_all hl hS2 (by rw [Array.getD_eq_getD_getElem?];simp;omega) (ops.size - 1 - i) i (by omega)
      simpa [Array.getD_eq_getD_getElem?,show ¬ ops.size - 1=i by omega] using this
     exact atn _ _ _ (fun a w hq=>goAll 0 listed a w hs hall2 hq) hq
   · exfalso
     have:i ∈ Region.ready .any ops.pop listed.pop:=by
      refine mem_ready.2 ⟨by rw [lp hs true (by omega)];exact h1,o',by rw [pop_at (by omega)];exact ho',fun e he hbe=>?_⟩
      have h5:=hall e he hbe
      have h6:e.on+1 < ops.size:=by
       have h7:=List.all_eq_true.1 hb i (by simpa using hi1)
       rw [ho'] at h7
       simp only [Option.map_some,Option.getD_some] at h7
       obtain ⟨k,hk,rfl⟩:=Array.mem_iff_getElem.1 he
       have h8:=Array.all_eq_true.1 h7 k hk;rw [hbe] at h8
       have:(o'.after[k]).on < i:=of_decide_eq_true (by simpa using h8)
       omega
      rw [lp hs false h6];exact h5
     rw [hr] at this
     cases this
 | succ f ih =>
   intro listed a w hs hS hL h
   obtain ⟨h0,hst⟩:=h
   refine ⟨fun hr=>absurd hr (part1 hs hL),fun i hi=>?_⟩
   obtain ⟨h1,o',ho',hall⟩:=mem_ready.1 hi
   have hi1:=(Array.getElem?_eq_some_iff.1 ho').1
   by_cases hin:i=ops.size - 1
   · subst hin
     cases Option.some.inj (ho.symm.trans ho')
     have hall2:∀ i,i+1 < ops.size→listed.getD i false=true:=by
      have hS2:=shut_set hS (by omega) ho hall
      intro i hi
      have:=shut_all hl hS2 (by rw [Array.getD_eq_getD_getElem?];simp;omega) (ops.size - 1 - i) i (by omega)
      simpa [Array.getD_eq_getD_getElem?,show ¬ ops.size - 1=i by omega] using this
     exact atn _ _ _ (fun a w hq=>goAll _ listed a w hs hall2 hq) (h0 (popnil hs hall2))
   · have hm : i ∈ Region.ready .any ops.pop listed.pop := by
       refine mem_ready.2 ⟨by rw [lp hs true (by omega)];exact h1,o',by rw [pop_at (by omega)];exact ho',fun e he hbe=>?_⟩
       have h5:=hall e he hbe
       have h6:e.on+1 < ops.size:=by
        have h7:=List.all_eq_true.1 hb i (by simpa using hi1)
        rw [ho'] at h7
        simp only [Option.map_some,Option.getD_some] at h7
        obtain ⟨k,hk,rfl⟩:=Array.mem_iff_getElem.1 he
        have h8:=Array.all_eq_true.1 h7 k hk;rw [hbe] at h8
        have:(o'.after[k]).on < i:=of_decide_eq_true (by simpa using h8)
        omega
       rw [lp hs false h6];exact h5
     have h9:=hst i hm
     unfold wpOp at h9 ⊢
     rw [pop_at (by omega),ho'] at h9
     rw [ho']
     have hg':=unguarded hl ho'
     have hw1:∀ ops':Array Oper,Region.wanted o' (yielded ops' a.tmps)=true:=by intro ops';unfold Region.wanted;rw [hg']
     simp only [hw1,if_true] at h9 ⊢
     have hpop:listed.pop.setIfInBounds i true=(listed.setIfInBounds i true).pop:=by
      apply Array.ext
      · simp
      · intro j h1 h2
        have h3:j < listed.size:=by simp at h1;omega
        rw [Array.getElem_pop,Array.getElem_setIfInBounds (by simpa using h1),Array.getElem_setIfInBounds h3,Array.getElem_pop]
     refine h9.imp (fun h=>wp_post (fun a' w' hK=>ih _ a' w' (by simpa using hs) (shut_set hS (by omega) ho' hall) ?_ (by rw [← hpop];exact hK)) h) id
     simpa [Array.getD_eq_getD_getElem?,hin] using hL
theorem repF (n j:Nat):(Array.replicate n false).getD j false=false:=by
 rw [Array.getD_eq_getD_getElem?]
 cases h:(Array.replicate n false)[j]? with
 | none=>rfl
 | some b =>
   obtain ⟨h1,h2⟩:=Array.getElem?_eq_some_iff.1 h
   rw [Array.getElem_replicate] at h2
   rw [← h2];rfl
theorem wp_region_last {id:Nat} {o:Oper} {a:Act} (init:Array Oper) (hi:ops.pop=init) (hm:P.follows .mixedOrders=true) (hl:lastB ops=true) (hb:backB ops=true) (ho:ops[ops.size - 1]?=some o)
 (h:wpAny P .any init (Exit.then (fun a w=>o.wp P a w (Q .normal) Q) Q) init.size (Array.replicate init.size false) a w.drew):(Code.region id ops true).wp P Q a w:=by
 have hn:ops.size - 1 < ops.size:=(Array.getElem?_eq_some_iff.1 ho).1
 subst hi
 refine wp_region_any hm ?_
 have h1:ops.size=ops.pop.size+1:=by rw [Array.size_pop];omega
 have h2:=wpAny_last (P:=P) (Q:=Q) hl hb ho ops.pop.size (Array.replicate ops.size false) a w.drew (by simp) (fun j o' _ hj=>by rw [repF] at hj;cases hj) (repF _ _) (by
  have:(Array.replicate ops.size false).pop=Array.replicate ops.pop.size false:=by
   apply Array.ext <;> simp
  rw [this];exact h)
 rw [← h1] at h2
 exact h2
end
end
section
open Go Go.RowKit
attribute [local go_sem ↓] open_LVH open_STH open_LVJ open_STJ
theorem held_go {P:Program} {md:Region.Mode} {ops:Array Oper} {Q:Exit→Act→World→Prop} {S:World→Prop} {f:Nat} {d:Array Bool} {a:Act} (h:S w) (k:S w→wpAnyH P md ops Q S f d a w):wpAny P md ops Q f d a w:=wpAny_of_held _ _ _ _ (k h)
end
end Go.Proofs.YtlpogecpdfdggaaGreat
