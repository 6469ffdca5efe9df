/- FlatMore: part 9. -/
import Derived.IntWalk
import Derived.Orders
import Derived.Test.YtlpogecpdfdggaaGreatProg
import Derived.WalkKit
import Derived.Test.YtlpogecpdfdggaaGreatKFlatMore6
import Derived.Test.YtlpogecpdfdggaaGreatKFlatMore7
import Derived.Test.YtlpogecpdfdggaaGreatKFlatMore8
set_option linter.unusedVariables false
set_option maxRecDepth 100000
set_option maxHeartbeats 16000000
variable {w:Go.World}
variable {s_p t_p:Bool} {A_p B_p E_p F_p:Option Go.Addr} {n_p c_p m_p d_p i_p e_p j_p f_p:Nat}
variable {s_q t_q:Bool} {A_q B_q E_q F_q:Option Go.Addr} {n_q c_q m_q d_q i_q e_q j_q f_q:Nat}
namespace Go.Proofs.YtlpogecpdfdggaaGreat
section
open Go Go.RowKit
theorem rof_q (p q:Int) (hp1:-9223372036854775808≤p) (hp2:p < 9223372036854775808) (hq1:-9223372036854775808≤q) (hq2:q < 9223372036854775808) (hq0:((q:Int) == 0)=false) (w:World) :
 Calls Tryz.prog 18 #[.int .i64 p,.int .i64 q] w (GivesQ w (Rat.divInt p q) 1):=by
 have hq:q ≠ 0:=by simpa using hq0
 have HQ:=Lib.hid hq;have H1:=Lib.hid hp1;have H2:=Lib.hid hp2;have H3:=Lib.hid hq1;have H4:=Lib.hid hq2;clear hq hp1 hp2 hq1 hq2
 go_enter Tryz.func18,Tryz.ntmps18
 go_wp2_with fail
 generalize hW:World.alloc _ _=W
 obtain ⟨hb,Z,hzW⟩:=mkbx9_8 hW;clear hW
 go_upto_region 4 with (first
  | (go_at_call 47;(with_reducible refine (zof_zr p H1.out H2.out _).mono ?_);rintro e w_x ⟨s_x,A_x,n_x,c_x,rfl,x,hh⟩
     (try replace y:=y.below hh);(try replace r:=r.below hh);(try replace Z:=Z.below hh);replace hb:=bend hb hh)
  | (go_at_call 47;(with_reducible refine (zof_zr q H3.out H4.out _).mono ?_);rintro e w_y ⟨s_y,A_y,n_y,c_y,rfl,y,hh⟩
     (try replace x:=x.below hh);(try replace r:=r.below hh);(try replace Z:=Z.below hh);replace hb:=bend hb hh)
  | (go_at_call 46;(with_reducible refine (make_zr 1 x y (by omega) (by omega) HQ.out (Nat.le_refl _) (Nat.le_refl _)).mono ?_);rintro e w_r ⟨s_r,A_r,n_r,c_r,B_r,m_r,d_r,rfl,r,hh⟩
     (try replace x:=x.below hh);(try replace y:=y.below hh);(try replace Z:=Z.below hh);replace hb:=bend hb hh))
 generalize hW:World.alloc _ _=W2
 obtain ⟨hh,R,hzW2⟩:=mkbx9_8 hW;clear hW;(try replace r:=r.below hh);(try replace Z:=Z.below hh);replace hb:=bend hb hh;obtain ⟨r0,r1,r2⟩:=R.all;have zf0:=Z.f0;have zf1:=Z.f1;have zf2:=Z.f2;obtain ⟨z0,z1,z2⟩:=Z.all
 go_wp2_with fail
 have Z2:=Z.set3 (.bool s_r) (.slice A_r n_r c_r) (.slice B_r m_r d_r)
 obtain ⟨g0,g1,g2⟩:=Z2.all
 refine bodyPost_ret (v:=.agg #[.bool s_r,.slice A_r n_r c_r,.slice B_r m_r d_r]) (by simp [results,Tryz.results18,go_sem,g0,g1,g2]) rfl ?_
 exact ⟨s_r,A_r,n_r,c_r,B_r,m_r,d_r,rfl,r.set3 Z _ _ _,below_set3 hb (by omega) _ _ _⟩
theorem ba_app3 (a b:List UInt8):((⟨a.toArray⟩ ++ ⟨#[47]⟩) ++ ⟨b.toArray⟩:ByteArray)=⟨(a ++ (47 :: b)).toArray⟩:=by
 apply ByteArray.ext
 simp [ByteArray.data_append]
def qtxt (v:Rat):List UInt8:=if v.den=1 then ztxt v.num else ztxt v.num ++ (47 :: txt v.den)
theorem ztxt_le {v:Int} {k:Nat} (hv:v.natAbs < B64 ^ k) (hk:k≤800):(ztxt v).length≤20001:=by
 have:=txt_len hv (show k≤900 by omega)
 unfold ztxt
 split
 · rw [List.length_cons];omega
 · omega
theorem ZR.nab' {s:Bool} {A:Option Addr} {n c k:Nat} {v:Int} (h:ZR w s A n c v k):v.natAbs < B64 ^ k:=by
 obtain ⟨l,h1,h2,h3,h4,h5,h6⟩:=h
 exact h6
theorem QG.num_lt {s:Bool} {A A':Option Addr} {n c n' c' k:Nat} {v:Rat} (h:QG w s A n c A' n' c' v k):v.num.natAbs < B64 ^ k:=h.1.zr.nab'
theorem QG.den_lt {s:Bool} {A A':Option Addr} {n c n' c' k:Nat} {v:Rat} (h:QG w s A n c A' n' c' v k):v.den < B64 ^ k:=h.2.nr.lt
theorem rtext_one {s:Bool} {A A':Option Addr} {n c n' c' k:Nat} {v:Rat} (X0:QR w s A n c A' n' c' v k) (hk:k≤78) (hk1:1≤k) (hd:v.den=1) :
 Calls Tryz.prog 27 #[.agg #[.bool s,.slice A n c,.slice A' n' c']] w fun e w'=>e=.returned (.string ⟨(qtxt v).toArray⟩)∧Below w.heap.size w w':=by
 obtain ⟨p,q,X,Q,rfl⟩:=X0
 have HE:Hid (Rat.divInt p (den1 q:Int)=mkRat p (den1 q)):=Rat.divInt_ofNat _ _
 have HD:Hid (decide ((mkRat p (den1 q)).den=1)=true):=decide_eq_true hd
 have HQ:Hid (qtxt (mkRat p (den1 q))=ztxt (mkRat p (den1 q)).num):=if_pos hd
 clear hd
 go_enter Tryz.func27,Tryz.ntmps27
 go_wp2_with fail
 generalize hW:World.alloc _ _=W
 obtain ⟨hb,XA,hzW⟩:=mkbx9_8 hW;clear hW;replace X:=X.below hb;replace Q:=Q.below hb;obtain ⟨xa0,xa1,xa2⟩:=XA.all
 go_upto_region 2 with (first
  | (go_at_call 50;(with_reducible refine (parts_any X Q (by omega) hk1).mono ?_);rintro e w_p ⟨s_x,A_x,n_x,c_x,s_y,A_y,n_y,c_y,rfl,x,y,hh⟩
     (try replace X:=X.below hh);(try replace Q:=Q.below hh);(try replace r:=r.below hh);(try replace XA:=XA.below hh);replace hb:=bend hb hh)
  | (go_at_call 58;(with_reducible refine (by_zr k x y (by omega) (by omega) (den1_i q) (Nat.le_refl _) (Nat.le_refl _)).mono ?_);rintro e w_r ⟨s_r,A_r,n_r,c_r,B_r,m_r,d_r,rfl,r,hh⟩
     rw [HE.out] at r;(try replace X:=X.below hh);(try replace Q:=Q.below hh);(try replace x:=x.below hh);(try replace y:=y.below hh);(try replace XA:=XA.below hh);replace hb:=bend hb hh;have zf0:=XA.f0;have zf1:=XA.f1;have zf2:=XA.f2;obtain ⟨z0,z1,z2⟩:=XA.all))
 generalize hW:((w_r.setCell ⟨w.heap.size,0,none⟩ (.bool s_r)).setCell ⟨w.heap.size,1,none⟩ (.slice A_r n_r c_r)).setCell ⟨w.heap.size,2,none⟩ (.slice B_r m_r d_r)=W1
 replace r:QG W1 s_r A_r n_r c_r B_r m_r d_r (mkRat p (den1 q)) k:=by subst hW;exact r.set3 XA _ _ _
 replace hb:Below w.heap.size w W1:=by subst hW;exact below_set3 hb (Nat.le_refl _) _ _ _
 have XA3:B3 W1 w.heap.size (.bool s_r) (.slice A_r n_r c_r) (.slice B_r m_r d_r):=by subst hW;exact XA.set3 _ _ _
 clear hW XA;have XA:=XA3;clear XA3;obtain ⟨xa0,xa1,xa2⟩:=XA.all;have HR2:=Lib.hid r.2.nr;have r1:=r.1.zr
 go_wp2_with (first
  | (go_at_call 64;(with_reducible refine (isone_nr HR2.out (by omega)).mono ?_);rintro e w_o ⟨rfl,rfl⟩;rw [HD.out])
  | (go_at_call 65;(with_reducible refine (ztext_zr r1 (by omega)).mono ?_);rintro e w_z ⟨rfl,hh⟩
     (try replace X:=X.below hh);(try replace Q:=Q.below hh);(try replace x:=x.below hh);(try replace y:=y.below hh);(try replace r:=r.below hh);(try replace XA:=XA.below hh);replace hb:=bend hb hh))
 go_ret;rw [HQ.out];exact ⟨rfl,hb⟩
theorem rtext_frac {s:Bool} {A A':Option Addr} {n c n' c' k:Nat} {v:Rat} (X0:QR w s A n c A' n' c' v k) (hk:k≤78) (hk1:1≤k) (hd:¬ v.den=1) :
 Calls Tryz.prog 27 #[.agg #[.bool s,.slice A n c,.slice A' n' c']] w fun e w'=>e=.returned (.string ⟨(qtxt v).toArray⟩)∧Below w.heap.size w w':=by
 obtain ⟨p,q,X,Q,rfl⟩:=X0
 have HE:Hid (Rat.divInt p (den1 q:Int)=mkRat p (den1 q)):=Rat.divInt_ofNat _ _
 have HD:Hid (decide ((mkRat p (den1 q)).den=1)=false):=decide_eq_false hd
 have HQ:Hid (qtxt (mkRat p (den1 q))=ztxt (mkRat p (den1 q)).num ++ (47 :: txt (mkRat p (den1 q)).den)):=if_neg hd
 clear hd
 go_enter Tryz.func27,Tryz.ntmps27
 go_wp2_with fail
 generalize hW:World.alloc _ _=W
 obtain ⟨hb,XA,hzW⟩:=mkbx9_8 hW;clear hW;replace X:=X.below hb;replace Q:=Q.below hb;obtain ⟨xa0,xa1,xa2⟩:=XA.all
 go_upto_region 2 with (first
  | (go_at_call 50;(with_reducible refine (parts_any X Q (by omega) hk1).mono ?_);rintro e w_p ⟨s_x,A_x,n_x,c_x,s_y,A_y,n_y,c_y,rfl,x,y,hh⟩
     (try replace X:=X.below hh);(try replace Q:=Q.below hh);(try replace r:=r.below hh);(try replace XA:=XA.below hh);replace hb:=bend hb hh)
  | (go_at_call 58;(with_reducible refine (by_zr k x y (by omega) (by omega) (den1_i q) (Nat.le_refl _) (Nat.le_refl _)).mono ?_);rintro e w_r ⟨s_r,A_r,n_r,c_r,B_r,m_r,d_r,rfl,r,hh⟩
     rw [HE.out] at r;(try replace X:=X.below hh);(try replace Q:=Q.below hh);(try replace x:=x.below hh);(try replace y:=y.below hh);(try replace XA:=XA.below hh);replace hb:=bend hb hh;have zf0:=XA.f0;have zf1:=XA.f1;have zf2:=XA.f2;obtain ⟨z0,z1,z2⟩:=XA.all))
 generalize hW:((w_r.setCell ⟨w.heap.size,0,none⟩ (.bool s_r)).setCell ⟨w.heap.size,1,none⟩ (.slice A_r n_r c_r)).setCell ⟨w.heap.size,2,none⟩ (.slice B_r m_r d_r)=W1
 replace r:QG W1 s_r A_r n_r c_r B_r m_r d_r (mkRat p (den1 q)) k:=by subst hW;exact r.set3 XA _ _ _
 replace hb:Below w.heap.size w W1:=by subst hW;exact below_set3 hb (Nat.le_refl _) _ _ _
 have XA3:B3 W1 w.heap.size (.bool s_r) (.slice A_r n_r c_r) (.slice B_r m_r d_r):=by subst hW;exact XA.set3 _ _ _
 clear hW XA;have XA:=XA3;clear XA3;obtain ⟨xa0,xa1,xa2⟩:=XA.all;have HR2:=Lib.hid r.2.nr;have r1:=r.1.zr
 have l1:=ztxt_le r.num_lt (show k≤800 by omega)
 have l2:=txt_len r.den_lt (show k≤900 by omega)
 have hs1:¬ 9223372036854775807 < (ztxt (mkRat p (den1 q)).num).length+1:=by omega
 have hs2:¬ 9223372036854775807 < (ztxt (mkRat p (den1 q)).num).length+1+(txt (mkRat p (den1 q)).den).length:=by omega
 clear l1 l2
 go_upto_region 4 with (first
  | (go_at_call 64;(with_reducible refine (isone_nr HR2.out (by omega)).mono ?_);rintro e w_o ⟨rfl,rfl⟩;rw [HD.out]))
 replace r:=r.below (Below.refl _ _).drew
 replace r1:=r1.below (Below.refl _ _).drew
 replace XA:=XA.below (Below.refl _ _).drew
 have r2:=r.2.nr.more hk;replace hb:=hb.drew
 go_region_held3 (fun w'=>w'.cell? ⟨w.heap.size,0,none⟩=some (.bool s_r)∧w'.cell? ⟨w.heap.size,1,none⟩=some (.slice A_r n_r c_r)∧w'.cell? ⟨w.heap.size,2,none⟩=some (.slice B_r m_r d_r))
  (first | with_reducible exact ⟨XA.c0,XA.c1,XA.c2⟩)
  (first
  | (go_at_call 65;(with_reducible refine (ztext_zr r1 (by omega)).mono ?_);rintro e w_z ⟨rfl,hh⟩
     (try replace r:=r.below hh);(try replace r2:=r2.below hh);(try replace XA:=XA.below hh);replace hb:=bend hb hh)
  | (go_at_call 66;(with_reducible refine (text_nr r2).mono ?_);rintro e w_z ⟨rfl,hh⟩
     (try replace r:=r.below hh);(try replace XA:=XA.below hh);replace hb:=bend hb hh))
 go_wp2_with fail
 go_ret
 refine ⟨?_,hb⟩
 rw [HQ.out]
 refine ret_eq ?_
 show Value.string ((⟨(ztxt (mkRat p (den1 q)).num).toArray⟩ ++ ⟨#[47]⟩) ++ ⟨(txt (mkRat p (den1 q)).den).toArray⟩)=_
 rw [ba_app3]
theorem rtext_q {s:Bool} {A A':Option Addr} {n c n' c' k:Nat} {v:Rat} (X0:QR w s A n c A' n' c' v k) (hk:k≤78) (hk1:1≤k) :
 Calls Tryz.prog 27 #[.agg #[.bool s,.slice A n c,.slice A' n' c']] w fun e w'=>e=.returned (.string ⟨(qtxt v).toArray⟩)∧Below w.heap.size w w':=by
 by_cases hd:v.den=1
 · exact rtext_one X0 hk hk1 hd
 · exact rtext_frac X0 hk hk1 hd
end
section
open Go
def upd {α:Type} (f:Nat→α) (d:Nat) (x:α):Nat→α:=fun k=>if k=d then x else f k
theorem upd_same {α:Type} (f:Nat→α) (d:Nat) (x:α):upd f d x d=x:=by simp [upd]
theorem upd_ne {α:Type} (f:Nat→α) {d k:Nat} (x:α) (h:k ≠ d):upd f d x k=f k:=by simp [upd,h]
def putAll (a:Act):List Nat→(Nat→Value)→Act
 | [],_=>a
 | d :: l,v=>putAll (a.put (some d) (v d)) l v
theorem put_put (a:Act) (d:Nat) (x y:Value):(a.put (some d) x).put (some d) y=a.put (some d) y:=by
 simp [Act.put]
theorem putAll_comm (x:Value) (d:Nat) (v:Nat→Value):∀ (l:List Nat) (a:Act),d ∉ l→(putAll a l v).put (some d) x=putAll (a.put (some d) x) l v
 | [],_,_=>rfl
 | e :: l,a,h=>by
   have h1:e ≠ d:=fun k=>h (by simp [k])
   have h2:d ∉ l:=fun k=>h (by simp [k])
   rw [putAll,putAll_comm x d v l _ h2,putAll]
   congr 1
   simp [Act.put,Array.setIfInBounds_comm _ _ h1]
theorem putAll_congr {v u:Nat→Value}:∀ (l:List Nat) (a:Act),(∀ d ∈ l,v d=u d)→putAll a l v=putAll a l u
 | [],_,_=>rfl
 | e :: l,a,h=>by
   rw [putAll,putAll,h e (by simp)]
   exact putAll_congr l _ fun d hd=>h d (by simp [hd])
theorem putAll_put (x:Value) (d:Nat) (v:Nat→Value):∀ (l:List Nat) (a:Act),l.Nodup→d ∈ l→(putAll a l v).put (some d) x=putAll a l (upd v d x)
 | [],_,_,h=>by cases h
 | e :: l,a,hn,h=>by
   have hn':=List.nodup_cons.1 hn
   by_cases hd:e=d
   · subst hd
     rw [putAll,putAll_comm x e v l _ hn'.1,put_put,putAll,upd_same]
     exact putAll_congr l _ fun k hk=>(upd_ne v x (fun q=>by subst q;exact hn'.1 hk)).symm
   · have hm : d ∈ l := by
       cases h with
       | head=>exact absurd rfl hd
       | tail _ h=>exact h
     rw [putAll,putAll_put x d v l _ hn'.2 hm,putAll,upd_ne v x hd]
theorem put_self (a:Act) (d:Nat):a.put (some d) (a.tmps.getD d undef)=a:=by
 cases a with
 | mk tmps defers =>
   simp only [Act.put]
   congr 1
   apply Array.ext
   · simp
   · intro i h1 h2
     simp only [Array.getElem_setIfInBounds h2]
     split
     · rename_i h;subst h;simp [h2]
     · rfl
theorem putAll_self (a:Act):∀ (l:List Nat),putAll a l (fun d=>a.tmps.getD d undef)=a
 | []=>rfl
 | d :: l=>by rw [putAll,put_self];exact putAll_self a l
section
variable {P:Program} {ops:Array Oper} {Q:Exit→Act→World→Prop}
def backB (ops:Array Oper):Bool:=(List.range ops.size).all fun i=>((ops[i]?).map fun o=>o.after.all fun e=>!Region.binds .any e || decide (e.on < i)).getD true
theorem all_listed {listed:Array Bool} (hs:listed.size=ops.size) (hb:backB ops=true) (hr:Region.ready .any ops listed=[]):∀ i,i < ops.size→listed.getD i false=true:=by
 intro i
 induction i using Nat.strongRecOn with
 | ind i ih =>
   intro hi
   cases hl:listed.getD i false with
   | true=>rfl
   | false =>
     exfalso
     have hm:i ∈ Region.ready .any ops listed:=by
      unfold Region.ready
      rw [List.mem_filter]
      refine ⟨by simpa using hi,?_⟩
      have h1:listed.getD i true=false:=by
       simp only [Array.getD_eq_getD_getElem?,Array.getElem?_eq_getElem (show i < listed.size by omega),Option.getD_some] at hl ⊢;exact hl
      rw [h1,Array.getElem?_eq_getElem hi]
      simp only [Bool.not_false,Option.map_some,Option.getD_some,Bool.true_and]
      rw [Array.all_eq_true]
      intro j hj
      have h2:=List.all_eq_true.1 hb i (by simpa using hi)
      rw [Array.getElem?_eq_getElem hi] at h2
      simp only [Option.map_some,Option.getD_some] at h2
      have h3:=Array.all_eq_true.1 h2 j hj
      cases hbd:Region.binds .any (ops[i].after[j]) with
      | false=>simp
      | true =>
        rw [hbd] at h3
        have h4:(ops[i].after[j]).on < i:=of_decide_eq_true (by simpa using h3)
        rw [ih _ h4 (by omega)]
        simp
     rw [hr] at hm;cases hm
theorem wpAny_inv (J:(Nat→Bool)→Act→World→Prop) (hb:backB ops=true)
 (hstep:∀ (i:Nat) (o:Oper) (D:Nat→Bool) (a:Act) (w:World),ops[i]?=some o→D i=false→(∀ e ∈ o.after,Region.binds .any e=true→D e.on=true)→J D a w →
  wpOp P ops Q i (fun a' w'=>J (upd D i true) a' w') a w)
 (hend:∀ (D:Nat→Bool) (a:Act) (w:World),(∀ i,i < ops.size→D i=true)→J D a w→Q .normal a w)
 (hcong:∀ D D' a w,(∀ i,i < ops.size→D i=D' i)→J D a w→J D' a w) :
 ∀ (fuel:Nat) (listed:Array Bool) (a:Act) (w:World),listed.size=ops.size→listed.toList.count false≤fuel→J (fun i=>listed.getD i false) a w→wpAny P .any ops Q fuel listed a w
 | 0,listed,a,w,hs,hf,hJ=>by
   have hall:∀ i,i < ops.size→listed.getD i false=true:=by
    intro i hi
    have h0:listed.toList.count false=0:=by omega
    have hi':i < listed.size:=by omega
    have:=List.count_eq_zero.1 h0
    simp only [Array.getD_eq_getD_getElem?,Array.getElem?_eq_getElem hi',Option.getD_some]
    cases h:listed[i] with
    | true=>rfl
    | false=>exact absurd (by rw [← h];exact Array.mem_toList_iff.2 (Array.getElem_mem hi')) this
   refine ⟨?_,hend _ _ _ hall hJ⟩
   unfold Region.ready
   rw [List.filter_eq_nil_iff]
   intro i hi
   have hi2:i < ops.size:=by simpa using hi
   have h2:listed.getD i true=true:=by
    have h:=hall i hi2
    have hi':i < listed.size:=by omega
    simp only [Array.getD_eq_getD_getElem?,Array.getElem?_eq_getElem hi',Option.getD_some] at h ⊢;exact h
   simp [h2]
 | fuel+1,listed,a,w,hs,hf,hJ=>by
   refine ⟨fun hr=>hend _ _ _ (all_listed hs hb hr) hJ,fun i hi=>?_⟩
   obtain ⟨hjun,o,ho,hall⟩:=mem_ready.1 hi
   have hi1:i < ops.size:=by
    rcases Nat.lt_or_ge i ops.size with h | h
    · exact h
    · rw [Array.getElem?_eq_none h] at ho;cases ho
   have hi':i < listed.size:=by omega
   have hl:listed[i]=false:=by
    simp only [Array.getD_eq_getD_getElem?,Array.getElem?_eq_getElem hi',Option.getD_some] at hjun;exact hjun
   have hD:listed.getD i false=false:=by
    simp only [Array.getD_eq_getD_getElem?,Array.getElem?_eq_getElem hi',Option.getD_some];exact hl
   refine wpOp_mono (fun a' w' h=>wpAny_inv J hb hstep hend hcong fuel _ a' w' (by simpa using hs) ?_ (hcong _ _ _ _ (fun j hj=>?_) h)) (hstep i o _ a w ho hD hall hJ)
   · rw [Array.toList_setIfInBounds,List.count_set (by simpa using hi')]
     have:listed.toList[i]'(by simpa using hi')=false:=by simpa using hl
     rw [this]
     show listed.toList.count false - 1+0≤fuel
     omega
   · by_cases hji:j=i
     · subst hji
       rw [upd_same]
       simp [hi']
     · rw [upd_ne _ _ hji]
       simp [Array.getD_eq_getD_getElem?,Ne.symm hji]
theorem wp_region_inv {id:Nat} {a:Act} (l:List Nat) (J:(Nat→Bool)→(Nat→Value)→World→Prop) (hm:P.follows .mixedOrders=true) (hb:backB ops=true)
 (h0:J (fun _=>false) (fun d=>a.tmps.getD d undef) w.drew)
 (hcong:∀ D D' v w,(∀ i,i < ops.size→D i=D' i)→J D v w→J D' v w)
 (hstep:∀ (i:Nat) (o:Oper) (D:Nat→Bool) (v:Nat→Value) (w:World),ops[i]?=some o→D i=false→(∀ e ∈ o.after,Region.binds .any e=true→D e.on=true)→J D v w →
  wpOp P ops Q i (fun a' w'=>∃ v',a'=putAll a l v'∧J (upd D i true) v' w') (putAll a l v) w)
 (hend:∀ (D:Nat→Bool) (v:Nat→Value) (w:World),(∀ i,i < ops.size→D i=true)→J D v w→Q .normal (putAll a l v) w) :
 (Code.region id ops true).wp P Q a w:=by
 refine wp_region_any hm (wpAny_inv (fun D a' w'=>∃ v,a'=putAll a l v∧J D v w') hb ?_ ?_ ?_ _ _ _ _ (by simp) (by simp) ?_)
 · rintro i o D a' w' ho hD hall ⟨v,rfl,hJ⟩
   exact hstep i o D v w' ho hD hall hJ
 · rintro D a' w' hall ⟨v,rfl,hJ⟩
   exact hend D v w' hall hJ
 · rintro D D' a' w' h ⟨v,e,hJ⟩
   exact ⟨v,e,hcong D D' v w' h hJ⟩
 · refine ⟨_,(putAll_self a l).symm,hcong _ _ _ _ (fun i hi=>?_) h0⟩
   simp [hi]
end
end
section
open Go Go.RowKit
theorem put_none (a:Act) (x:Value):a.put none x=a:=rfl
theorem eval_putAll_not {t:Nat} {v:Nat→Value}:∀ (l:List Nat) (a:Act),t ∉ l→(putAll a l v).eval (.tmp t)=a.eval (.tmp t)
 | [],_,_=>rfl
 | d :: l,a,h=>by
   rw [putAll,eval_putAll_not l _ (fun q=>h (by simp [q]))]
   have hne:d ≠ t:=fun q=>h (by simp [q])
   simp [Act.eval,Act.put,Array.getD_eq_getD_getElem?,hne]
theorem eval_putAll_mem {t:Nat} {v:Nat→Value}:∀ (l:List Nat) (a:Act),l.Nodup→t ∈ l→t < a.tmps.size→(putAll a l v).eval (.tmp t)=v t
 | [],_,_,h,_=>by cases h
 | d :: l,a,hn,h,hs=>by
   have hn':=List.nodup_cons.1 hn
   rw [putAll]
   by_cases hd:d=t
   · subst hd
     rw [eval_putAll_not l _ hn'.1]
     simp [Act.eval,Act.put,hs]
   · have hm : t ∈ l := by
       cases h with
       | head=>exact absurd rfl hd
       | tail _ h=>exact h
     exact eval_putAll_mem l _ hn'.2 hm (by simpa [Act.put] using hs)
def IsG (w:World) (v:Value) (x:Int) (k:Nat):Prop:=∃ s A n c,v=.agg #[.bool s,.slice A n c]∧RG w s A n c x k
def IsBox (w:World) (base:Nat) (p cont:Value) (full:Bool):Prop:=∃ g s A n c,p=.pointer (some ⟨g,0,none⟩)∧base≤g∧By w g (.bool s) (.slice A n c)∧(full=true→cont=.agg #[.bool s,.slice A n c])
theorem IsG.below {w w':World} {v:Value} {x:Int} {k:Nat} (h:IsG w v x k) (hb:Below w.heap.size w w'):IsG w' v x k:=by
 obtain ⟨s,A,n,c,h1,h2⟩:=h;exact ⟨s,A,n,c,h1,h2.below hb⟩
theorem IsBox.below {w w':World} {base:Nat} {p cont:Value} {full:Bool} (h:IsBox w base p cont full) (hb:Below w.heap.size w w'):IsBox w' base p cont full:=by
 obtain ⟨g,s,A,n,c,h1,h2,h3,h4⟩:=h;exact ⟨g,s,A,n,c,h1,h2,h3.below hb,h4⟩
theorem IsG.store {v:Value} {x:Int} {k g n0 c0:Nat} {s0:Bool} {A0:Option Addr} (h:IsG w v x k) (Z:By w g (.bool s0) (.slice A0 n0 c0)) (y z:Value):IsG ((w.setCell ⟨g,0,none⟩ y).setCell ⟨g,1,none⟩ z) v x k:=by
 obtain ⟨s,A,n,c,h1,h2⟩:=h;exact ⟨s,A,n,c,h1,h2.set2 Z y z⟩
theorem IsBox.other {base g:Nat} {p cont:Value} {full:Bool} (h:IsBox w base p cont full) (hne:p ≠ .pointer (some ⟨g,0,none⟩)) (y z:Value):IsBox ((w.setCell ⟨g,0,none⟩ y).setCell ⟨g,1,none⟩ z) base p cont full:=by
 obtain ⟨g',s,A,n,c,h1,h2,h3,h4⟩:=h
 refine ⟨g',s,A,n,c,h1,h2,h3.other (fun q=>hne (by rw [h1,q])) y z,h4⟩
end
section
open Go Go.RowKit
theorem run_loadQ {e:Operand→Value} {x:Operand} {d:Option Tmp} {y g:Nat} {pos:String} {af:Array Edge} {u v z:Value} (h:e x=.pointer (some ⟨g,0,none⟩)) (h0:w.cell? ⟨g,0,none⟩=some u) (h1:w.cell? ⟨g,1,none⟩=some v) (h2:w.cell? ⟨g,2,none⟩=some z) :
 (execOp e ⟨d,.load 27 x,y,pos,af,none⟩).run Tryz.prog w=.ok (.value (.agg #[u,v,z])) w:=by
 go_simp
theorem run_storeQ {e:Operand→Value} {x z:Operand} {d:Option Tmp} {y g:Nat} {pos:String} {af:Array Edge} {s:Bool} {A B:Option Addr} {n c m k:Nat} {u0 v0 z0:Value} (h:e x=.pointer (some ⟨g,0,none⟩)) (hz:e z=.agg #[.bool s,.slice A n c,.slice B m k]) (h0:w.cell? ⟨g,0,none⟩=some u0) (h1:w.cell? ⟨g,1,none⟩=some v0) (h2:w.cell? ⟨g,2,none⟩=some z0) (f0:w.frozen? ⟨g,0,none⟩=false) (f1:w.frozen? ⟨g,1,none⟩=false) (f2:w.frozen? ⟨g,2,none⟩=false) :
 (execOp e ⟨d,.store 27 x z,y,pos,af,none⟩).run Tryz.prog w=.ok .skip (((w.setCell ⟨g,0,none⟩ (.bool s)).setCell ⟨g,1,none⟩ (.slice A n c)).setCell ⟨g,2,none⟩ (.slice B m k)):=by
 go_simp
theorem run_allocQ {e:Operand→Value} {d:Option Tmp} {y:Nat} {pos:String} {af:Array Edge} :
 (execOp e ⟨d,.alloc 27,y,pos,af,none⟩).run Tryz.prog w=.ok (.value (.pointer (some ⟨w.heap.size,0,none⟩))) (w.alloc (.cells #[.bool false,.slice none 0 0,.slice none 0 0] 27)):=by
 go_simp
theorem run_move {e:Operand→Value} {x:Operand} {d:Option Tmp} {y:Nat} {pos:String} {af:Array Edge} {u:Value} (h:e x=u) :
 (execOp e ⟨d,.move x,y,pos,af,none⟩).run Tryz.prog w=.ok (.value u) w:=by
 subst h;go_simp
theorem run_assign {e:Operand→Value} {x:Operand} {d:Option Tmp} {y:Nat} {pos:String} {af:Array Edge} {u:Value} (h:e x=u) :
 (execOp e ⟨d,.assign x,y,pos,af,none⟩).run Tryz.prog w=.ok (.value u) w:=by
 subst h;go_simp
theorem run_ext0 {e:Operand→Value} {x:Operand} {d:Option Tmp} {y:Nat} {pos:String} {af:Array Edge} {u v:Value} (h:e x=.tuple #[u,v]) :
 (execOp e ⟨d,.extract x 0,y,pos,af,none⟩).run Tryz.prog w=.ok (.value u) w:=by
 go_simp
theorem run_ext1 {e:Operand→Value} {x:Operand} {d:Option Tmp} {y:Nat} {pos:String} {af:Array Edge} {u v:Value} (h:e x=.tuple #[u,v]) :
 (execOp e ⟨d,.extract x 1,y,pos,af,none⟩).run Tryz.prog w=.ok (.value v) w:=by
 go_simp
def IsQ (w:World) (v:Value) (x:Rat) (k:Nat):Prop:=∃ s A n c A' n' c',v=.agg #[.bool s,.slice A n c,.slice A' n' c']∧QG w s A n c A' n' c' x k
theorem IsQ.below {w w':World} {v:Value} {x:Rat} {k:Nat} (h:IsQ w v x k) (hb:Below w.heap.size w w'):IsQ w' v x k:=by
 obtain ⟨s,A,n,c,A',n',c',h1,h2⟩:=h;exact ⟨s,A,n,c,A',n',c',h1,h2.below hb⟩
def HasBox (w:World) (base:Nat) (p:Value):Prop:=∃ g s A n c A' n' c',p=.pointer (some ⟨g,0,none⟩)∧base≤g∧B3 w g (.bool s) (.slice A n c) (.slice A' n' c')
theorem HasBox.below {w w':World} {b:Nat} {p:Value} (h:HasBox w b p) (hb:Below w.heap.size w w'):HasBox w' b p:=by
 obtain ⟨g,s,A,n,c,A',n',c',h1,h2,h3⟩:=h;exact ⟨g,s,A,n,c,A',n',c',h1,h2,h3.below hb⟩
end
section
open Go Go.RowKit
theorem QR.more {s:Bool} {A A':Option Addr} {n c n' c' k k1:Nat} {v:Rat} (h:QR w s A n c A' n' c' v k) (hk:k≤k1):QR w s A n c A' n' c' v k1:=by
 obtain ⟨p,q,h1,h2,h3⟩:=h
 exact ⟨p,q,h1.more hk,h2.more hk,h3⟩
end
section
open Go Go.RowKit
def B6 (W:World) (g:Nat) (x y z u v t:Value):Prop:=W.heap[g]?=some (.cells #[x,y,z,u,v,t] 49 (0,0))
section
variable {W W':World} {g:Nat} {x y z u v t:Value}
theorem B6.c0 (h:B6 W g x y z u v t):W.cell? ⟨g,0,none⟩=some x:=by rw [cell_of_row W g 0 _ _ (0,0) h];rfl
theorem B6.c1 (h:B6 W g x y z u v t):W.cell? ⟨g,1,none⟩=some y:=by rw [cell_of_row W g 1 _ _ (0,0) h];rfl
theorem B6.c2 (h:B6 W g x y z u v t):W.cell? ⟨g,2,none⟩=some z:=by rw [cell_of_row W g 2 _ _ (0,0) h];rfl
theorem B6.c3 (h:B6 W g x y z u v t):W.cell? ⟨g,3,none⟩=some u:=by rw [cell_of_row W g 3 _ _ (0,0) h];rfl
theorem B6.c4 (h:B6 W g x y z u v t):W.cell? ⟨g,4,none⟩=some v:=by rw [cell_of_row W g 4 _ _ (0,0) h];rfl
theorem B6.c5 (h:B6 W g x y z u v t):W.cell? ⟨g,5,none⟩=some t:=by rw [cell_of_row W g 5 _ _ (0,0) h];rfl
theorem B6.all (h:B6 W g x y z u v t):W.cell? ⟨g,0,none⟩=some x∧W.cell? ⟨g,1,none⟩=some y∧W.cell? ⟨g,2,none⟩=some z∧W.cell? ⟨g,3,none⟩=some u∧W.cell? ⟨g,4,none⟩=some v∧W.cell? ⟨g,5,none⟩=some t:=⟨h.c0,h.c1,h.c2,h.c3,h.c4,h.c5⟩
theorem B6.f0 (h:B6 W g x y z u v t):W.frozen? ⟨g,0,none⟩=false:=frozen_of_row W g 0 _ _ h
theorem B6.f1 (h:B6 W g x y z u v t):W.frozen? ⟨g,1,none⟩=false:=frozen_of_row W g 1 _ _ h
theorem B6.f2 (h:B6 W g x y z u v t):W.frozen? ⟨g,2,none⟩=false:=frozen_of_row W g 2 _ _ h
theorem B6.f3 (h:B6 W g x y z u v t):W.frozen? ⟨g,3,none⟩=false:=frozen_of_row W g 3 _ _ h
theorem B6.f4 (h:B6 W g x y z u v t):W.frozen? ⟨g,4,none⟩=false:=frozen_of_row W g 4 _ _ h
theorem B6.f5 (h:B6 W g x y z u v t):W.frozen? ⟨g,5,none⟩=false:=frozen_of_row W g 5 _ _ h
theorem B6.lt (h:B6 W g x y z u v t):g < W.heap.size:=World.block_lt_of_cell? W _ h.c0
theorem B6.below (h:B6 W g x y z u v t) (hb:Below W.heap.size W W'):B6 W' g x y z u v t:=(hb.block g h.lt).trans h
theorem B6.alloc (h:B6 W g x y z u v t) (o:Obj):B6 (W.alloc o) g x y z u v t:=(Below.heap_alloc W o g h.lt).trans h
theorem B6.new' (W:World) (x y z u v t:Value) (g:Nat) (hg:g=W.heap.size):B6 (W.alloc (.cells #[x,y,z,u,v,t] 49)) g x y z u v t:=by subst hg;exact heap_alloc_new W _
end
def set6 (W:World) (g:Nat) (a b c d e f:Value):World:=(((((W.setCell ⟨g,0,none⟩ a).setCell ⟨g,1,none⟩ b).setCell ⟨g,2,none⟩ c).setCell ⟨g,3,none⟩ d).setCell ⟨g,4,none⟩ e).setCell ⟨g,5,none⟩ f
theorem B6.set6 {W:World} {g:Nat} {x y z u v t:Value} (h:B6 W g x y z u v t) (a b c d e f:Value):B6 ((((((W.setCell ⟨g,0,none⟩ a).setCell ⟨g,1,none⟩ b).setCell ⟨g,2,none⟩ c).setCell ⟨g,3,none⟩ d).setCell ⟨g,4,none⟩ e).setCell ⟨g,5,none⟩ f) g a b c d e f:=by
 unfold B6 at h ⊢
 simp [World.setCell,Array.getElem?_modify,h]
theorem set6_cell (W:World) (g k o:Nat) (a b c d e f:Value) (h:k ≠ g):((((((W.setCell ⟨g,0,none⟩ a).setCell ⟨g,1,none⟩ b).setCell ⟨g,2,none⟩ c).setCell ⟨g,3,none⟩ d).setCell ⟨g,4,none⟩ e).setCell ⟨g,5,none⟩ f).cell? ⟨k,o,none⟩=W.cell? ⟨k,o,none⟩:=by
 rw [World.cell?_of_block (Below.heap_setCell _ _ _ _ h),World.cell?_of_block (Below.heap_setCell _ _ _ _ h),World.cell?_of_block (Below.heap_setCell _ _ _ _ h),World.cell?_of_block (Below.heap_setCell _ _ _ _ h),World.cell?_of_block (Below.heap_setCell _ _ _ _ h),World.cell?_of_block (Below.heap_setCell _ _ _ _ h)]
theorem below_set6 {B g:Nat} {w W:World} (h:Below B w W) (hg:B≤g) (a b c d e f:Value):Below B w ((((((W.setCell ⟨g,0,none⟩ a).setCell ⟨g,1,none⟩ b).setCell ⟨g,2,none⟩ c).setCell ⟨g,3,none⟩ d).setCell ⟨g,4,none⟩ e).setCell ⟨g,5,none⟩ f):=(((((h.setCell hg _).setCell hg _).setCell hg _).setCell hg _).setCell hg _).setCell hg _
theorem Rd.off6 {K:IntKind} {W:World} {g:Nat} {s t:Bool} {A A1 A2 A3 A4:Option Addr} {n n1 c1 n2 c2 n3 c3 n4 c4:Nat} {l:List Nat} (hr:Rd K W A n l) (h:B6 W g (.bool s) (.slice A1 n1 c1) (.slice A2 n2 c2) (.bool t) (.slice A3 n3 c3) (.slice A4 n4 c4)):Off A n g:=by
 intro hn ad e hg
 obtain ⟨b,o,eA,hc⟩:=hr.at_ hn
 obtain ⟨x,_,hx⟩:=hc 0 hn
 rw [eA] at e
 cases e
 have hg2:b=g:=hg
 subst hg2
 rw [cell_of_row W b (o+0) _ _ (0,0) h] at hx
 match o,hx with
 | 0,hx=>cases hx
 | 1,hx=>cases hx
 | 2,hx=>cases hx
 | 3,hx=>cases hx
 | 4,hx=>cases hx
 | 5,hx=>cases hx
 | o+6,hx=>cases hx
def PR (w:World) (s:Bool) (A:Option Addr) (n c:Nat) (B:Option Addr) (m d:Nat) (t:Bool) (E:Option Addr) (i e:Nat) (F:Option Addr) (j f:Nat) (x y:Rat) (k:Nat):Prop:=QR w s A n c B m d x k∧QR w t E i e F j f y k
def PG (w:World) (s:Bool) (A:Option Addr) (n c:Nat) (B:Option Addr) (m d:Nat) (t:Bool) (E:Option Addr) (i e:Nat) (F:Option Addr) (j f:Nat) (x y:Rat) (k:Nat):Prop:=QG w s A n c B m d x k∧QG w t E i e F j f y k
def GivesPt (w:World) (x y:Rat) (k:Nat) (en:Ending) (w':World):Prop :=
 ∃ s A n c B m d t E i e F j f,en=.returned (.agg #[.bool s,.slice A n c,.slice B m d,.bool t,.slice E i e,.slice F j f])∧PG w' s A n c B m d t E i e F j f x y k∧Below w.heap.size w w'
section
variable {w w':World} {s t:Bool} {A B E F:Option Addr} {n c m d i e j f k k1:Nat} {x y:Rat}
theorem PR.below (h:PR w s A n c B m d t E i e F j f x y k) (hb:Below w.heap.size w w'):PR w' s A n c B m d t E i e F j f x y k:=⟨h.1.below hb,h.2.below hb⟩
theorem PG.below (h:PG w s A n c B m d t E i e F j f x y k) (hb:Below w.heap.size w w'):PG w' s A n c B m d t E i e F j f x y k:=⟨h.1.below hb,h.2.below hb⟩
theorem PG.pr (h:PG w s A n c B m d t E i e F j f x y k):PR w s A n c B m d t E i e F j f x y k:=⟨h.1.qr,h.2.qr⟩
theorem PR.qx (h:PR w s A n c B m d t E i e F j f x y k):QR w s A n c B m d x k:=h.1
theorem PR.qy (h:PR w s A n c B m d t E i e F j f x y k):QR w t E i e F j f y k:=h.2
theorem PG.qx (h:PG w s A n c B m d t E i e F j f x y k):QG w s A n c B m d x k:=h.1
theorem PG.qy (h:PG w s A n c B m d t E i e F j f x y k):QG w t E i e F j f y k:=h.2
theorem QG.more (h:QG w s A n c B m d x k) (hk:k≤k1):QG w s A n c B m d x k1:=⟨⟨h.1.1,h.1.2.1,h.1.2.2.1,Nat.le_trans h.1.2.2.2 hk⟩,h.2.more hk⟩
theorem PG.more (h:PG w s A n c B m d t E i e F j f x y k) (hk:k≤k1):PG w s A n c B m d t E i e F j f x y k1:=⟨h.1.more hk,h.2.more hk⟩
theorem PR.more (h:PR w s A n c B m d t E i e F j f x y k) (hk:k≤k1):PR w s A n c B m d t E i e F j f x y k1:=⟨h.1.more hk,h.2.more hk⟩
theorem QG.set6 {v0:Rat} {s0 t0:Bool} {g:Nat} {A1 A2 A3 A4:Option Addr} {n1 c1 n2 c2 n3 c3 n4 c4:Nat} (h:QG w s A n c B m d v0 k) (Z:B6 w g (.bool s0) (.slice A1 n1 c1) (.slice A2 n2 c2) (.bool t0) (.slice A3 n3 c3) (.slice A4 n4 c4)) (a1 a2 a3 a4 a5 a6:Value) :
 QG ((((((w.setCell ⟨g,0,none⟩ a1).setCell ⟨g,1,none⟩ a2).setCell ⟨g,2,none⟩ a3).setCell ⟨g,3,none⟩ a4).setCell ⟨g,4,none⟩ a5).setCell ⟨g,5,none⟩ a6) s A n c B m d v0 k:=by
 have ho:Only g w ((((((w.setCell ⟨g,0,none⟩ a1).setCell ⟨g,1,none⟩ a2).setCell ⟨g,2,none⟩ a3).setCell ⟨g,3,none⟩ a4).setCell ⟨g,4,none⟩ a5).setCell ⟨g,5,none⟩ a6):=((((((Only.refl g w).setCell 0 _).setCell 1 _).setCell 2 _).setCell 3 _).setCell 4 _).setCell 5 _
 exact ⟨⟨h.1.1,h.1.2.1.only (h.1.2.1.off6 Z) ho,h.1.2.2⟩,⟨h.2.1.only (h.2.1.off6 Z) ho,h.2.2⟩⟩
theorem PG.set6 {s0 t0:Bool} {g:Nat} {A1 A2 A3 A4:Option Addr} {n1 c1 n2 c2 n3 c3 n4 c4:Nat} (h:PG w s A n c B m d t E i e F j f x y k) (Z:B6 w g (.bool s0) (.slice A1 n1 c1) (.slice A2 n2 c2) (.bool t0) (.slice A3 n3 c3) (.slice A4 n4 c4)) (a1 a2 a3 a4 a5 a6:Value) :
 PG ((((((w.setCell ⟨g,0,none⟩ a1).setCell ⟨g,1,none⟩ a2).setCell ⟨g,2,none⟩ a3).setCell ⟨g,3,none⟩ a4).setCell ⟨g,4,none⟩ a5).setCell ⟨g,5,none⟩ a6) s A n c B m d t E i e F j f x y k:=⟨h.1.set6 Z _ _ _ _ _ _,h.2.set6 Z _ _ _ _ _ _⟩
end
theorem mkbx15_9 {w W:World} {x0 x1 x2 x3 x4 x5 x6 x7 x8:Value} (h:((w.alloc (Obj.cells #[x0,x1,x2,x3,x4,x5] 49)).alloc (Obj.cells #[x6,x7,x8] 27))=W):Below w.heap.size w W∧B6 W (w.heap.size) x0 x1 x2 x3 x4 x5∧B3 W (w.heap.size+1) x6 x7 x8∧W.heap.size=w.heap.size+2:=by subst h;exact ⟨by exact (((Below.refl _ _).alloc (Nat.le_refl _) _).alloc (by simp) _),by exact (B6.new' _ _ _ _ _ _ _ _ rfl).alloc _,by exact B3.new' _ _ _ _ _ (by simp),by simp⟩
theorem partx_any :
 Calls Tryz.prog 120 #[.agg #[.bool s_p,.slice A_p n_p c_p,.slice B_p m_p d_p,.bool t_p,.slice E_p i_p e_p,.slice F_p j_p f_p]] w fun e w'=>e=.returned (.agg #[.bool s_p,.slice A_p n_p c_p,.slice B_p m_p d_p])∧Below w.heap.size w w':=by
 go_enter Tryz.func120,Tryz.ntmps120
 go_upto_region 1 with (fail)
 generalize hW:World.alloc _ _=W
 obtain ⟨hb,XA,Z,hzW⟩:=mkbx15_9 hW;clear hW;obtain ⟨xa0,xa1,xa2,xa3,xa4,xa5⟩:=XA.all;have zf0:=Z.f0;have zf1:=Z.f1;have zf2:=Z.f2;obtain ⟨z0,z1,z2⟩:=Z.all
 go_wp2_with fail
 have Z2:=Z.set3 (.bool s_p) (.slice A_p n_p c_p) (.slice B_p m_p d_p)
 obtain ⟨g0,g1,g2⟩:=Z2.all
 refine bodyPost_ret (v:=.agg #[.bool s_p,.slice A_p n_p c_p,.slice B_p m_p d_p]) (by simp [results,Tryz.results120,go_sem,g0,g1,g2]) rfl ?_
 exact ⟨rfl,below_set3 hb (by omega) _ _ _⟩
theorem party_any :
 Calls Tryz.prog 121 #[.agg #[.bool s_p,.slice A_p n_p c_p,.slice B_p m_p d_p,.bool t_p,.slice E_p i_p e_p,.slice F_p j_p f_p]] w fun e w'=>e=.returned (.agg #[.bool t_p,.slice E_p i_p e_p,.slice F_p j_p f_p])∧Below w.heap.size w w':=by
 go_enter Tryz.func121,Tryz.ntmps121
 go_upto_region 1 with (fail)
 generalize hW:World.alloc _ _=W
 obtain ⟨hb,XA,Z,hzW⟩:=mkbx15_9 hW;clear hW;obtain ⟨xa0,xa1,xa2,xa3,xa4,xa5⟩:=XA.all;have zf0:=Z.f0;have zf1:=Z.f1;have zf2:=Z.f2;obtain ⟨z0,z1,z2⟩:=Z.all
 go_wp2_with fail
 have Z2:=Z.set3 (.bool t_p) (.slice E_p i_p e_p) (.slice F_p j_p f_p)
 obtain ⟨g0,g1,g2⟩:=Z2.all
 refine bodyPost_ret (v:=.agg #[.bool t_p,.slice E_p i_p e_p,.slice F_p j_p f_p]) (by simp [results,Tryz.results121,go_sem,g0,g1,g2]) rfl ?_
 exact ⟨rfl,below_set3 hb (by omega) _ _ _⟩
theorem sub1_x {g1 g2 k k2:Nat} {x y x2 y2:Rat} (XA:B6 w g1 (.bool s_p) (.slice A_p n_p c_p) (.slice B_p m_p d_p) (.bool t_p) (.slice E_p i_p e_p) (.slice F_p j_p f_p)) (XB:B6 w g2 (.bool s_q) (.slice A_q n_q c_q) (.slice B_q m_q d_q) (.bool t_q) (.slice E_q i_q e_q) (.slice F_q j_q f_q)) (p:PR w s_p A_p n_p c_p B_p m_p d_p t_p E_p i_p e_p F_p j_p f_p x y k) (q:PR w s_q A_q n_q c_q B_q m_q d_q t_q E_q i_q e_q F_q j_q f_q x2 y2 k2) (hk:k≤30000) (hk2:k2≤30000) (h40:k≤40000 ∨ k2≤40000) (hk1:1≤k) (hk3:1≤k2) :
 Calls Tryz.prog 97 #[(.func (.func 120) #[] #[]),.pointer (some ⟨g1,0,none⟩),.pointer (some ⟨g2,0,none⟩)] w (GivesQ w (x - x2) (k+k2+1)):=by
 go_enter Tryz.func97,Tryz.ntmps97
 go_upto_region 1 with (fail)
 have hl1:=XA.lt;have hl2:=XB.lt
 generalize hW:World.alloc _ _=W
 obtain ⟨hb,Z,hzW⟩:=mkbx9_8 hW;clear hW;replace p:=p.below hb;replace q:=q.below hb;replace XA:=XA.below hb;replace XB:=XB.below hb
 replace p:=p.below (Below.refl _ _).drew
 replace q:=q.below (Below.refl _ _).drew
 replace XA:=XA.below (Below.refl _ _).drew
 replace XB:=XB.below (Below.refl _ _).drew
 replace Z:=Z.below (Below.refl _ _).drew
 replace hb:=hb.drew
 go_region_held3 (fun w'=>w'.cell? ⟨g1,0,none⟩=some (.bool s_p)∧w'.cell? ⟨g1,1,none⟩=some (.slice A_p n_p c_p)∧w'.cell? ⟨g1,2,none⟩=some (.slice B_p m_p d_p)∧w'.cell? ⟨g1,3,none⟩=some (.bool t_p)∧w'.cell? ⟨g1,4,none⟩=some (.slice E_p i_p e_p)∧w'.cell? ⟨g1,5,none⟩=some (.slice F_p j_p f_p)∧w'.cell? ⟨g2,0,none⟩=some (.bool s_q)∧w'.cell? ⟨g2,1,none⟩=some (.slice A_q n_q c_q)∧w'.cell? ⟨g2,2,none⟩=some (.slice B_q m_q d_q)∧w'.cell? ⟨g2,3,none⟩=some (.bool t_q)∧w'.cell? ⟨g2,4,none⟩=some (.slice E_q i_q e_q)∧w'.cell? ⟨g2,5,none⟩=some (.slice F_q j_q f_q))
  (first | with_reducible exact ⟨XA.c0,XA.c1,XA.c2,XA.c3,XA.c4,XA.c5,XB.c0,XB.c1,XB.c2,XB.c3,XB.c4,XB.c5⟩ | with_reducible exact ⟨(set3_cell _ _ _ _ _ _ _ (by omega)).trans (XA.c0),(set3_cell _ _ _ _ _ _ _ (by omega)).trans (XA.c1),(set3_cell _ _ _ _ _ _ _ (by omega)).trans (XA.c2),(set3_cell _ _ _ _ _ _ _ (by omega)).trans (XA.c3),(set3_cell _ _ _ _ _ _ _ (by omega)).trans (XA.c4),(set3_cell _ _ _ _ _ _ _ (by omega)).trans (XA.c5),(set3_cell _ _ _ _ _ _ _ (by omega)).trans (XB.c0),(set3_cell _ _ _ _ _ _ _ (by omega)).trans (XB.c1),(set3_cell _ _ _ _ _ _ _ (by omega)).trans (XB.c2),(set3_cell _ _ _ _ _ _ _ (by omega)).trans (XB.c3),(set3_cell _ _ _ _ _ _ _ (by omega)).trans (XB.c4),(set3_cell _ _ _ _ _ _ _ (by omega)).trans (XB.c5)⟩)
  (first
  | (go_at_call 120;(with_reducible refine (partx_any).mono ?_);rintro e w_z ⟨rfl,hh⟩
     (try replace p:=p.below hh);(try replace q:=q.below hh);(try replace XA:=XA.below hh);(try replace XB:=XB.below hh);(try replace Z:=Z.below hh);replace hb:=bend hb hh)
  | (go_at_call 98;(with_reducible refine (rsub_q p.qx q.qx (by omega) (by omega) h40 hk1 hk3).mono ?_);rintro e w_r ⟨s_r,A_r,n_r,c_r,B_r,m_r,d_r,rfl,r,hh⟩
     (try replace p:=p.below hh);(try replace q:=q.below hh);(try replace XA:=XA.below hh);(try replace XB:=XB.below hh);(try replace Z:=Z.below hh);replace hb:=bend hb hh;have zf0:=Z.f0;have zf1:=Z.f1;have zf2:=Z.f2;obtain ⟨z0,z1,z2⟩:=Z.all))
 go_wp2_with fail
 have Z2:=Z.set3 (.bool s_r) (.slice A_r n_r c_r) (.slice B_r m_r d_r)
 obtain ⟨g0,g1,g2⟩:=Z2.all
 refine bodyPost_ret (v:=.agg #[.bool s_r,.slice A_r n_r c_r,.slice B_r m_r d_r]) (by simp [results,Tryz.results97,go_sem,g0,g1,g2]) rfl ?_
 exact ⟨s_r,A_r,n_r,c_r,B_r,m_r,d_r,rfl,r.set3 Z _ _ _,below_set3 hb (by omega) _ _ _⟩
theorem sub1_y {g1 g2 k k2:Nat} {x y x2 y2:Rat} (XA:B6 w g1 (.bool s_p) (.slice A_p n_p c_p) (.slice B_p m_p d_p) (.bool t_p) (.slice E_p i_p e_p) (.slice F_p j_p f_p)) (XB:B6 w g2 (.bool s_q) (.slice A_q n_q c_q) (.slice B_q m_q d_q) (.bool t_q) (.slice E_q i_q e_q) (.slice F_q j_q f_q)) (p:PR w s_p A_p n_p c_p B_p m_p d_p t_p E_p i_p e_p F_p j_p f_p x y k) (q:PR w s_q A_q n_q c_q B_q m_q d_q t_q E_q i_q e_q F_q j_q f_q x2 y2 k2) (hk:k≤30000) (hk2:k2≤30000) (h40:k≤40000 ∨ k2≤40000) (hk1:1≤k) (hk3:1≤k2) :
 Calls Tryz.prog 97 #[(.func (.func 121) #[] #[]),.pointer (some ⟨g1,0,none⟩),.pointer (some ⟨g2,0,none⟩)] w (GivesQ w (y - y2) (k+k2+1)):=by
 go_enter Tryz.func97,Tryz.ntmps97
 go_upto_region 1 with (fail)
 have hl1:=XA.lt;have hl2:=XB.lt
 generalize hW:World.alloc _ _=W
 obtain ⟨hb,Z,hzW⟩:=mkbx9_8 hW;clear hW;replace p:=p.below hb;replace q:=q.below hb;replace XA:=XA.below hb;replace XB:=XB.below hb
 replace p:=p.below (Below.refl _ _).drew
 replace q:=q.below (Below.refl _ _).drew
 replace XA:=XA.below (Below.refl _ _).drew
 replace XB:=XB.below (Below.refl _ _).drew
 replace Z:=Z.below (Below.refl _ _).drew
 replace hb:=hb.drew
 go_region_held3 (fun w'=>w'.cell? ⟨g1,0,none⟩=some (.bool s_p)∧w'.cell? ⟨g1,1,none⟩=some (.slice A_p n_p c_p)∧w'.cell? ⟨g1,2,none⟩=some (.slice B_p m_p d_p)∧w'.cell? ⟨g1,3,none⟩=some (.bool t_p)∧w'.cell? ⟨g1,4,none⟩=some (.slice E_p i_p e_p)∧w'.cell? ⟨g1,5,none⟩=some (.slice F_p j_p f_p)∧w'.cell? ⟨g2,0,none⟩=some (.bool s_q)∧w'.cell? ⟨g2,1,none⟩=some (.slice A_q n_q c_q)∧w'.cell? ⟨g2,2,none⟩=some (.slice B_q m_q d_q)∧w'.cell? ⟨g2,3,none⟩=some (.bool t_q)∧w'.cell? ⟨g2,4,none⟩=some (.slice E_q i_q e_q)∧w'.cell? ⟨g2,5,none⟩=some (.slice F_q j_q f_q))
  (first | with_reducible exact ⟨XA.c0,XA.c1,XA.c2,XA.c3,XA.c4,XA.c5,XB.c0,XB.c1,XB.c2,XB.c3,XB.c4,XB.c5⟩ | with_reducible exact ⟨(set3_cell _ _ _ _ _ _ _ (by omega)).trans (XA.c0),(set3_cell _ _ _ _ _ _ _ (by omega)).trans (XA.c1),(set3_cell _ _ _ _ _ _ _ (by omega)).trans (XA.c2),(set3_cell _ _ _ _ _ _ _ (by omega)).trans (XA.c3),(set3_cell _ _ _ _ _ _ _ (by omega)).trans (XA.c4),(set3_cell _ _ _ _ _ _ _ (by omega)).trans (XA.c5),(set3_cell _ _ _ _ _ _ _ (by omega)).trans (XB.c0),(set3_cell _ _ _ _ _ _ _ (by omega)).trans (XB.c1),(set3_cell _ _ _ _ _ _ _ (by omega)).trans (XB.c2),(set3_cell _ _ _ _ _ _ _ (by omega)).trans (XB.c3),(set3_cell _ _ _ _ _ _ _ (by omega)).trans (XB.c4),(set3_cell _ _ _ _ _ _ _ (by omega)).trans (XB.c5)⟩)
  (first
  | (go_at_call 121;(with_reducible refine (party_any).mono ?_);rintro e w_z ⟨rfl,hh⟩
     (try replace p:=p.below hh);(try replace q:=q.below hh);(try replace XA:=XA.below hh);(try replace XB:=XB.below hh);(try replace Z:=Z.below hh);replace hb:=bend hb hh)
  | (go_at_call 98;(with_reducible refine (rsub_q p.qy q.qy (by omega) (by omega) h40 hk1 hk3).mono ?_);rintro e w_r ⟨s_r,A_r,n_r,c_r,B_r,m_r,d_r,rfl,r,hh⟩
     (try replace p:=p.below hh);(try replace q:=q.below hh);(try replace XA:=XA.below hh);(try replace XB:=XB.below hh);(try replace Z:=Z.below hh);replace hb:=bend hb hh;have zf0:=Z.f0;have zf1:=Z.f1;have zf2:=Z.f2;obtain ⟨z0,z1,z2⟩:=Z.all))
 go_wp2_with fail
 have Z2:=Z.set3 (.bool s_r) (.slice A_r n_r c_r) (.slice B_r m_r d_r)
 obtain ⟨g0,g1,g2⟩:=Z2.all
 refine bodyPost_ret (v:=.agg #[.bool s_r,.slice A_r n_r c_r,.slice B_r m_r d_r]) (by simp [results,Tryz.results97,go_sem,g0,g1,g2]) rfl ?_
 exact ⟨s_r,A_r,n_r,c_r,B_r,m_r,d_r,rfl,r.set3 Z _ _ _,below_set3 hb (by omega) _ _ _⟩
theorem mkbx16_9 {w W:World} {x0 x1 x2 x3 x4 x5:Value} (h:(w.alloc (Obj.cells #[x0,x1,x2,x3,x4,x5] 49))=W):Below w.heap.size w W∧B6 W (w.heap.size) x0 x1 x2 x3 x4 x5∧W.heap.size=w.heap.size+1:=by subst h;exact ⟨by exact ((Below.refl _ _).alloc (Nat.le_refl _) _),by exact B6.new' _ _ _ _ _ _ _ _ rfl,by simp⟩
theorem made_sub {g1 g2 k k2:Nat} {x y x2 y2:Rat} (XA:B6 w g1 (.bool s_p) (.slice A_p n_p c_p) (.slice B_p m_p d_p) (.bool t_p) (.slice E_p i_p e_p) (.slice F_p j_p f_p)) (XB:B6 w g2 (.bool s_q) (.slice A_q n_q c_q) (.slice B_q m_q d_q) (.bool t_q) (.slice E_q i_q e_q) (.slice F_q j_q f_q)) (p:PR w s_p A_p n_p c_p B_p m_p d_p t_p E_p i_p e_p F_p j_p f_p x y k) (q:PR w s_q A_q n_q c_q B_q m_q d_q t_q E_q i_q e_q F_q j_q f_q x2 y2 k2) (hk:k≤30000) (hk2:k2≤30000) (h40:k≤40000 ∨ k2≤40000) (hk1:1≤k) (hk3:1≤k2) :
 Calls Tryz.prog 92 #[.func (.func 97) #[] #[.pointer (some ⟨g1,0,none⟩),.pointer (some ⟨g2,0,none⟩)]] w (GivesPt w (x - x2) (y - y2) (k+k2+1)):=by
 go_enter Tryz.func92,Tryz.ntmps92
 go_upto_region 1 with (fail)
 generalize hW:World.alloc _ _=W
 obtain ⟨hb,Z,hzW⟩:=mkbx16_9 hW;clear hW;replace p:=p.below hb;replace q:=q.below hb;replace XA:=XA.below hb;replace XB:=XB.below hb
 go_wp2_with (first
  | (go_at_call 97;(with_reducible refine (sub1_x XA XB p q hk hk2 h40 hk1 hk3).mono ?_);rintro e w_r ⟨s_r,A_r,n_r,c_r,B_r,m_r,d_r,rfl,r,hh⟩
     (try replace p:=p.below hh);(try replace q:=q.below hh);(try replace XA:=XA.below hh);(try replace XB:=XB.below hh);(try replace Z:=Z.below hh);replace hb:=bend hb hh)
  | (go_at_call 97;(with_reducible refine (sub1_y XA XB p q hk hk2 h40 hk1 hk3).mono ?_);rintro e w_u ⟨s_u,A_u,n_u,c_u,B_u,m_u,d_u,rfl,u,hh⟩
     (try replace p:=p.below hh);(try replace q:=q.below hh);(try replace r:=r.below hh);(try replace XA:=XA.below hh);(try replace XB:=XB.below hh);(try replace Z:=Z.below hh);replace hb:=bend hb hh;have zg0:=Z.f0;have zg1:=Z.f1;have zg2:=Z.f2;have zg3:=Z.f3;have zg4:=Z.f4;have zg5:=Z.f5;obtain ⟨zc0,zc1,zc2,zc3,zc4,zc5⟩:=Z.all))
 have Z2:=Z.set6 (.bool s_r) (.slice A_r n_r c_r) (.slice B_r m_r d_r) (.bool s_u) (.slice A_u n_u c_u) (.slice B_u m_u d_u)
 obtain ⟨g0,g1,g2,g3,g4,g5⟩:=Z2.all
 refine bodyPost_ret (v:=.agg #[.bool s_r,.slice A_r n_r c_r,.slice B_r m_r d_r,.bool s_u,.slice A_u n_u c_u,.slice B_u m_u d_u]) (by simp [results,Tryz.results92,go_sem,g0,g1,g2,g3,g4,g5]) rfl ?_
 exact ⟨_,_,_,_,_,_,_,_,_,_,_,_,_,_,rfl,(show PG _ _ _ _ _ _ _ _ _ _ _ _ _ _ _ _ _ _ from ⟨r,u⟩).set6 Z _ _ _ _ _ _,below_set6 hb (by omega) _ _ _ _ _ _⟩
theorem mkbx17_9 {w W:World} {x0 x1 x2 x3 x4 x5 x6 x7 x8 x9 x10 x11 x12 x13 x14 x15 x16 x17:Value} (h:(((w.alloc (Obj.cells #[x0,x1,x2,x3,x4,x5] 49)).alloc (Obj.cells #[x6,x7,x8,x9,x10,x11] 49)).alloc (Obj.cells #[x12,x13,x14,x15,x16,x17] 49))=W):Below w.heap.size w W∧B6 W (w.heap.size) x0 x1 x2 x3 x4 x5∧B6 W (w.heap.size+1) x6 x7 x8 x9 x10 x11∧B6 W (w.heap.size+1+1) x12 x13 x14 x15 x16 x17∧W.heap.size=w.heap.size+3:=by subst h;exact ⟨by exact ((((Below.refl _ _).alloc (Nat.le_refl _) _).alloc (by simp) _).alloc (by simp;omega) _),by exact ((B6.new' _ _ _ _ _ _ _ _ rfl).alloc _).alloc _,by exact (B6.new' _ _ _ _ _ _ _ _ (by simp)).alloc _,by exact B6.new' _ _ _ _ _ _ _ _ (by simp),by simp⟩
theorem psub_p {k k2:Nat} {x y x2 y2:Rat} (p:PR w s_p A_p n_p c_p B_p m_p d_p t_p E_p i_p e_p F_p j_p f_p x y k) (q:PR w s_q A_q n_q c_q B_q m_q d_q t_q E_q i_q e_q F_q j_q f_q x2 y2 k2) (hk:k≤30000) (hk2:k2≤30000) (h40:k≤40000 ∨ k2≤40000) (hk1:1≤k) (hk3:1≤k2) :
 Calls Tryz.prog 53 #[.agg #[.bool s_p,.slice A_p n_p c_p,.slice B_p m_p d_p,.bool t_p,.slice E_p i_p e_p,.slice F_p j_p f_p],.agg #[.bool s_q,.slice A_q n_q c_q,.slice B_q m_q d_q,.bool t_q,.slice E_q i_q e_q,.slice F_q j_q f_q]] w (GivesPt w (x - x2) (y - y2) (k+k2+1)):=by
 have hmf:∀ (fn:Fn) (first cap:Array Value) (w:World),(Instr.makeFunc fn first cap).run Tryz.prog w=.ok (.func fn first cap) w:=fun _ _ _ _=>rfl
 go_enter Tryz.func53,Tryz.ntmps53
 go_upto_region 1 with (fail)
 generalize hW:World.alloc _ _=W
 obtain ⟨hb,XA,XB,Z,hzW⟩:=mkbx17_9 hW;clear hW;replace p:=p.below hb;replace q:=q.below hb
 go_wp2_with (first
  | (go_at_call 92;(with_reducible refine (made_sub XA XB p q hk hk2 h40 hk1 hk3).mono ?_);rintro e w_r ⟨s_r,A_r,n_r,c_r,B_r,m_r,d_r,t_r,E_r,i_r,e_r,F_r,j_r,f_r,rfl,r,hh⟩
     (try replace Z:=Z.below hh);replace hb:=bend hb hh;have zg0:=Z.f0;have zg1:=Z.f1;have zg2:=Z.f2;have zg3:=Z.f3;have zg4:=Z.f4;have zg5:=Z.f5;obtain ⟨zc0,zc1,zc2,zc3,zc4,zc5⟩:=Z.all))
 have Z2:=Z.set6 (.bool s_r) (.slice A_r n_r c_r) (.slice B_r m_r d_r) (.bool t_r) (.slice E_r i_r e_r) (.slice F_r j_r f_r)
 obtain ⟨g0,g1,g2,g3,g4,g5⟩:=Z2.all
 refine bodyPost_ret (v:=.agg #[.bool s_r,.slice A_r n_r c_r,.slice B_r m_r d_r,.bool t_r,.slice E_r i_r e_r,.slice F_r j_r f_r]) (by simp [results,Tryz.results53,go_sem,g0,g1,g2,g3,g4,g5]) rfl ?_
 exact ⟨s_r,A_r,n_r,c_r,B_r,m_r,d_r,t_r,E_r,i_r,e_r,F_r,j_r,f_r,rfl,r.set6 Z _ _ _ _ _ _,below_set6 hb (by omega) _ _ _ _ _ _⟩
theorem scale1_x {g1 g2 k k2:Nat} {x y x2:Rat} {s:Bool} {A A':Option Addr} {n c n' c':Nat} (XA:B6 w g1 (.bool s_p) (.slice A_p n_p c_p) (.slice B_p m_p d_p) (.bool t_p) (.slice E_p i_p e_p) (.slice F_p j_p f_p)) (XB:B3 w g2 (.bool s) (.slice A n c) (.slice A' n' c')) (p:PR w s_p A_p n_p c_p B_p m_p d_p t_p E_p i_p e_p F_p j_p f_p x y k) (q:QR w s A n c A' n' c' x2 k2) (hk:k≤30000) (hk2:k2≤30000) (h40:k≤40000 ∨ k2≤40000) (hk1:1≤k) (hk3:1≤k2) :
 Calls Tryz.prog 93 #[(.func (.func 120) #[] #[]),.pointer (some ⟨g1,0,none⟩),.pointer (some ⟨g2,0,none⟩)] w (GivesQ w (x*x2) (k+k2)):=by
 go_enter Tryz.func93,Tryz.ntmps93
 go_upto_region 1 with (fail)
 have hl1:=XA.lt;have hl2:=XB.lt
 generalize hW:World.alloc _ _=W
 obtain ⟨hb,Z,hzW⟩:=mkbx9_8 hW;clear hW;replace p:=p.below hb;replace q:=q.below hb;replace XA:=XA.below hb;replace XB:=XB.below hb
 replace p:=p.below (Below.refl _ _).drew
 replace q:=q.below (Below.refl _ _).drew
 replace XA:=XA.below (Below.refl _ _).drew
 replace XB:=XB.below (Below.refl _ _).drew
 replace Z:=Z.below (Below.refl _ _).drew
 replace hb:=hb.drew
 go_region_held3 (fun w'=>w'.cell? ⟨g1,0,none⟩=some (.bool s_p)∧w'.cell? ⟨g1,1,none⟩=some (.slice A_p n_p c_p)∧w'.cell? ⟨g1,2,none⟩=some (.slice B_p m_p d_p)∧w'.cell? ⟨g1,3,none⟩=some (.bool t_p)∧w'.cell? ⟨g1,4,none⟩=some (.slice E_p i_p e_p)∧w'.cell? ⟨g1,5,none⟩=some (.slice F_p j_p f_p)∧w'.cell? ⟨g2,0,none⟩=some (.bool s)∧w'.cell? ⟨g2,1,none⟩=some (.slice A n c)∧w'.cell? ⟨g2,2,none⟩=some (.slice A' n' c'))
  (first | with_reducible exact ⟨XA.c0,XA.c1,XA.c2,XA.c3,XA.c4,XA.c5,XB.c0,XB.c1,XB.c2⟩ | with_reducible exact ⟨(set3_cell _ _ _ _ _ _ _ (by omega)).trans (XA.c0),(set3_cell _ _ _ _ _ _ _ (by omega)).trans (XA.c1),(set3_cell _ _ _ _ _ _ _ (by omega)).trans (XA.c2),(set3_cell _ _ _ _ _ _ _ (by omega)).trans (XA.c3),(set3_cell _ _ _ _ _ _ _ (by omega)).trans (XA.c4),(set3_cell _ _ _ _ _ _ _ (by omega)).trans (XA.c5),(set3_cell _ _ _ _ _ _ _ (by omega)).trans (XB.c0),(set3_cell _ _ _ _ _ _ _ (by omega)).trans (XB.c1),(set3_cell _ _ _ _ _ _ _ (by omega)).trans (XB.c2)⟩)
  (first
  | (go_at_call 120;(with_reducible refine (partx_any).mono ?_);rintro e w_z ⟨rfl,hh⟩
     (try replace p:=p.below hh);(try replace q:=q.below hh);(try replace XA:=XA.below hh);(try replace XB:=XB.below hh);(try replace Z:=Z.below hh);replace hb:=bend hb hh)
  | (go_at_call 23;(with_reducible refine (rmul_q p.qx q (by omega) (by omega) h40 hk1 hk3).mono ?_);rintro e w_r ⟨s_r,A_r,n_r,c_r,B_r,m_r,d_r,rfl,r,hh⟩
     (try replace p:=p.below hh);(try replace q:=q.below hh);(try replace XA:=XA.below hh);(try replace XB:=XB.below hh);(try replace Z:=Z.below hh);replace hb:=bend hb hh;have zf0:=Z.f0;have zf1:=Z.f1;have zf2:=Z.f2;obtain ⟨z0,z1,z2⟩:=Z.all))
 go_wp2_with fail
 have Z2:=Z.set3 (.bool s_r) (.slice A_r n_r c_r) (.slice B_r m_r d_r)
 obtain ⟨g0,g1,g2⟩:=Z2.all
 refine bodyPost_ret (v:=.agg #[.bool s_r,.slice A_r n_r c_r,.slice B_r m_r d_r]) (by simp [results,Tryz.results93,go_sem,g0,g1,g2]) rfl ?_
 exact ⟨s_r,A_r,n_r,c_r,B_r,m_r,d_r,rfl,r.set3 Z _ _ _,below_set3 hb (by omega) _ _ _⟩
theorem scale1_y {g1 g2 k k2:Nat} {x y x2:Rat} {s:Bool} {A A':Option Addr} {n c n' c':Nat} (XA:B6 w g1 (.bool s_p) (.slice A_p n_p c_p) (.slice B_p m_p d_p) (.bool t_p) (.slice E_p i_p e_p) (.slice F_p j_p f_p)) (XB:B3 w g2 (.bool s) (.slice A n c) (.slice A' n' c')) (p:PR w s_p A_p n_p c_p B_p m_p d_p t_p E_p i_p e_p F_p j_p f_p x y k) (q:QR w s A n c A' n' c' x2 k2) (hk:k≤30000) (hk2:k2≤30000) (h40:k≤40000 ∨ k2≤40000) (hk1:1≤k) (hk3:1≤k2) :
 Calls Tryz.prog 93 #[(.func (.func 121) #[] #[]),.pointer (some ⟨g1,0,none⟩),.pointer (some ⟨g2,0,none⟩)] w (GivesQ w (y*x2) (k+k2)):=by
 go_enter Tryz.func93,Tryz.ntmps93
 go_upto_region 1 with (fail)
 have hl1:=XA.lt;have hl2:=XB.lt
 generalize hW:World.alloc _ _=W
 obtain ⟨hb,Z,hzW⟩:=mkbx9_8 hW;clear hW;replace p:=p.below hb;replace q:=q.below hb;replace XA:=XA.below hb;replace XB:=XB.below hb
 replace p:=p.below (Below.refl _ _).drew
 replace q:=q.below (Below.refl _ _).drew
 replace XA:=XA.below (Below.refl _ _).drew
 replace XB:=XB.below (Below.refl _ _).drew
 replace Z:=Z.below (Below.refl _ _).drew
 replace hb:=hb.drew
 go_region_held3 (fun w'=>w'.cell? ⟨g1,0,none⟩=some (.bool s_p)∧w'.cell? ⟨g1,1,none⟩=some (.slice A_p n_p c_p)∧w'.cell? ⟨g1,2,none⟩=some (.slice B_p m_p d_p)∧w'.cell? ⟨g1,3,none⟩=some (.bool t_p)∧w'.cell? ⟨g1,4,none⟩=some (.slice E_p i_p e_p)∧w'.cell? ⟨g1,5,none⟩=some (.slice F_p j_p f_p)∧w'.cell? ⟨g2,0,none⟩=some (.bool s)∧w'.cell? ⟨g2,1,none⟩=some (.slice A n c)∧w'.cell? ⟨g2,2,none⟩=some (.slice A' n' c'))
  (first | with_reducible exact ⟨XA.c0,XA.c1,XA.c2,XA.c3,XA.c4,XA.c5,XB.c0,XB.c1,XB.c2⟩ | with_reducible exact ⟨(set3_cell _ _ _ _ _ _ _ (by omega)).trans (XA.c0),(set3_cell _ _ _ _ _ _ _ (by omega)).trans (XA.c1),(set3_cell _ _ _ _ _ _ _ (by omega)).trans (XA.c2),(set3_cell _ _ _ _ _ _ _ (by omega)).trans (XA.c3),(set3_cell _ _ _ _ _ _ _ (by omega)).trans (XA.c4),(set3_cell _ _ _ _ _ _ _ (by omega)).trans (XA.c5),(set3_cell _ _ _ _ _ _ _ (by omega)).trans (XB.c0),(set3_cell _ _ _ _ _ _ _ (by omega)).trans (XB.c1),(set3_cell _ _ _ _ _ _ _ (by omega)).trans (XB.c2)⟩)
  (first
  | (go_at_call 121;(with_reducible refine (party_any).mono ?_);rintro e w_z ⟨rfl,hh⟩
     (try replace p:=p.below hh);(try replace q:=q.below hh);(try replace XA:=XA.below hh);(try replace XB:=XB.below hh);(try replace Z:=Z.below hh);replace hb:=bend hb hh)
  | (go_at_call 23;(with_reducible refine (rmul_q p.qy q (by omega) (by omega) h40 hk1 hk3).mono ?_);rintro e w_r ⟨s_r,A_r,n_r,c_r,B_r,m_r,d_r,rfl,r,hh⟩
     (try replace p:=p.below hh);(try replace q:=q.below hh);(try replace XA:=XA.below hh);(try replace XB:=XB.below hh);(try replace Z:=Z.below hh);replace hb:=bend hb hh;have zf0:=Z.f0;have zf1:=Z.f1;have zf2:=Z.f2;obtain ⟨z0,z1,z2⟩:=Z.all))
 go_wp2_with fail
 have Z2:=Z.set3 (.bool s_r) (.slice A_r n_r c_r) (.slice B_r m_r d_r)
 obtain ⟨g0,g1,g2⟩:=Z2.all
 refine bodyPost_ret (v:=.agg #[.bool s_r,.slice A_r n_r c_r,.slice B_r m_r d_r]) (by simp [results,Tryz.results93,go_sem,g0,g1,g2]) rfl ?_
 exact ⟨s_r,A_r,n_r,c_r,B_r,m_r,d_r,rfl,r.set3 Z _ _ _,below_set3 hb (by omega) _ _ _⟩
theorem made_scale {g1 g2 k k2:Nat} {x y x2:Rat} {s:Bool} {A A':Option Addr} {n c n' c':Nat} (XA:B6 w g1 (.bool s_p) (.slice A_p n_p c_p) (.slice B_p m_p d_p) (.bool t_p) (.slice E_p i_p e_p) (.slice F_p j_p f_p)) (XB:B3 w g2 (.bool s) (.slice A n c) (.slice A' n' c')) (p:PR w s_p A_p n_p c_p B_p m_p d_p t_p E_p i_p e_p F_p j_p f_p x y k) (q:QR w s A n c A' n' c' x2 k2) (hk:k≤30000) (hk2:k2≤30000) (h40:k≤40000 ∨ k2≤40000) (hk1:1≤k) (hk3:1≤k2) :
 Calls Tryz.prog 92 #[.func (.func 93) #[] #[.pointer (some ⟨g1,0,none⟩),.pointer (some ⟨g2,0,none⟩)]] w (GivesPt w (x*x2) (y*x2) (k+k2)):=by
 go_enter Tryz.func92,Tryz.ntmps92
 go_upto_region 1 with (fail)
 generalize hW:World.alloc _ _=W
 obtain ⟨hb,Z,hzW⟩:=mkbx16_9 hW;clear hW;replace p:=p.below hb;replace q:=q.below hb;replace XA:=XA.below hb;replace XB:=XB.below hb
 go_wp2_with (first
  | (go_at_call 93;(with_reducible refine (scale1_x XA XB p q hk hk2 h40 hk1 hk3).mono ?_);rintro e w_r ⟨s_r,A_r,n_r,c_r,B_r,m_r,d_r,rfl,r,hh⟩
     (try replace p:=p.below hh);(try replace q:=q.below hh);(try replace XA:=XA.below hh);(try replace XB:=XB.below hh);(try replace Z:=Z.below hh);replace hb:=bend hb hh)
  | (go_at_call 93;(with_reducible refine (scale1_y XA XB p q hk hk2 h40 hk1 hk3).mono ?_);rintro e w_u ⟨s_u,A_u,n_u,c_u,B_u,m_u,d_u,rfl,u,hh⟩
     (try replace p:=p.below hh);(try replace q:=q.below hh);(try replace r:=r.below hh);(try replace XA:=XA.below hh);(try replace XB:=XB.below hh);(try replace Z:=Z.below hh);replace hb:=bend hb hh;have zg0:=Z.f0;have zg1:=Z.f1;have zg2:=Z.f2;have zg3:=Z.f3;have zg4:=Z.f4;have zg5:=Z.f5;obtain ⟨zc0,zc1,zc2,zc3,zc4,zc5⟩:=Z.all))
 have Z2:=Z.set6 (.bool s_r) (.slice A_r n_r c_r) (.slice B_r m_r d_r) (.bool s_u) (.slice A_u n_u c_u) (.slice B_u m_u d_u)
 obtain ⟨g0,g1,g2,g3,g4,g5⟩:=Z2.all
 refine bodyPost_ret (v:=.agg #[.bool s_r,.slice A_r n_r c_r,.slice B_r m_r d_r,.bool s_u,.slice A_u n_u c_u,.slice B_u m_u d_u]) (by simp [results,Tryz.results92,go_sem,g0,g1,g2,g3,g4,g5]) rfl ?_
 exact ⟨_,_,_,_,_,_,_,_,_,_,_,_,_,_,rfl,(show PG _ _ _ _ _ _ _ _ _ _ _ _ _ _ _ _ _ _ from ⟨r,u⟩).set6 Z _ _ _ _ _ _,below_set6 hb (by omega) _ _ _ _ _ _⟩
theorem mkbx18_9 {w W:World} {x0 x1 x2 x3 x4 x5 x6 x7 x8 x9 x10 x11 x12 x13 x14:Value} (h:(((w.alloc (Obj.cells #[x0,x1,x2,x3,x4,x5] 49)).alloc (Obj.cells #[x6,x7,x8] 27)).alloc (Obj.cells #[x9,x10,x11,x12,x13,x14] 49))=W):Below w.heap.size w W∧B6 W (w.heap.size) x0 x1 x2 x3 x4 x5∧B3 W (w.heap.size+1) x6 x7 x8∧B6 W (w.heap.size+1+1) x9 x10 x11 x12 x13 x14∧W.heap.size=w.heap.size+3:=by subst h;exact ⟨by exact ((((Below.refl _ _).alloc (Nat.le_refl _) _).alloc (by simp) _).alloc (by simp;omega) _),by exact ((B6.new' _ _ _ _ _ _ _ _ rfl).alloc _).alloc _,by exact (B3.new' _ _ _ _ _ (by simp)).alloc _,by exact B6.new' _ _ _ _ _ _ _ _ (by simp),by simp⟩
theorem pscale_p {k k2:Nat} {x y x2:Rat} {s:Bool} {A A':Option Addr} {n c n' c':Nat} (p:PR w s_p A_p n_p c_p B_p m_p d_p t_p E_p i_p e_p F_p j_p f_p x y k) (q:QR w s A n c A' n' c' x2 k2) (hk:k≤30000) (hk2:k2≤30000) (h40:k≤40000 ∨ k2≤40000) (hk1:1≤k) (hk3:1≤k2) :
 Calls Tryz.prog 49 #[.agg #[.bool s_p,.slice A_p n_p c_p,.slice B_p m_p d_p,.bool t_p,.slice E_p i_p e_p,.slice F_p j_p f_p],.agg #[.bool s,.slice A n c,.slice A' n' c']] w (GivesPt w (x*x2) (y*x2) (k+k2)):=by
 have hmf:∀ (fn:Fn) (first cap:Array Value) (w:World),(Instr.makeFunc fn first cap).run Tryz.prog w=.ok (.func fn first cap) w:=fun _ _ _ _=>rfl
 go_enter Tryz.func49,Tryz.ntmps49
 go_upto_region 1 with (fail)
 generalize hW:World.alloc _ _=W
 obtain ⟨hb,XA,XB,Z,hzW⟩:=mkbx18_9 hW;clear hW;replace p:=p.below hb;replace q:=q.below hb
 go_wp2_with (first
  | (go_at_call 92;(with_reducible refine (made_scale XA XB p q hk hk2 h40 hk1 hk3).mono ?_);rintro e w_r ⟨s_r,A_r,n_r,c_r,B_r,m_r,d_r,t_r,E_r,i_r,e_r,F_r,j_r,f_r,rfl,r,hh⟩
     (try replace Z:=Z.below hh);replace hb:=bend hb hh;have zg0:=Z.f0;have zg1:=Z.f1;have zg2:=Z.f2;have zg3:=Z.f3;have zg4:=Z.f4;have zg5:=Z.f5;obtain ⟨zc0,zc1,zc2,zc3,zc4,zc5⟩:=Z.all))
 have Z2:=Z.set6 (.bool s_r) (.slice A_r n_r c_r) (.slice B_r m_r d_r) (.bool t_r) (.slice E_r i_r e_r) (.slice F_r j_r f_r)
 obtain ⟨g0,g1,g2,g3,g4,g5⟩:=Z2.all
 refine bodyPost_ret (v:=.agg #[.bool s_r,.slice A_r n_r c_r,.slice B_r m_r d_r,.bool t_r,.slice E_r i_r e_r,.slice F_r j_r f_r]) (by simp [results,Tryz.results49,go_sem,g0,g1,g2,g3,g4,g5]) rfl ?_
 exact ⟨s_r,A_r,n_r,c_r,B_r,m_r,d_r,t_r,E_r,i_r,e_r,F_r,j_r,f_r,rfl,r.set6 Z _ _ _ _ _ _,below_set6 hb (by omega) _ _ _ _ _ _⟩
end
section
open Go Go.RowKit
theorem mkbx19_9 {w W:World} {x0 x1 x2 x3 x4 x5 x6 x7 x8 x9 x10 x11 x12 x13 x14:Value} (h:(((w.alloc (Obj.cells #[x0,x1,x2,x3,x4,x5] 49)).alloc (Obj.cells #[x6,x7,x8,x9,x10,x11] 49)).alloc (Obj.cells #[x12,x13,x14] 27))=W):Below w.heap.size w W∧B6 W (w.heap.size) x0 x1 x2 x3 x4 x5∧B6 W (w.heap.size+1) x6 x7 x8 x9 x10 x11∧B3 W (w.heap.size+1+1) x12 x13 x14∧W.heap.size=w.heap.size+3:=by subst h;exact ⟨by exact ((((Below.refl _ _).alloc (Nat.le_refl _) _).alloc (by simp) _).alloc (by simp;omega) _),by exact ((B6.new' _ _ _ _ _ _ _ _ rfl).alloc _).alloc _,by exact (B6.new' _ _ _ _ _ _ _ _ (by simp)).alloc _,by exact B3.new' _ _ _ _ _ (by simp),by simp⟩
theorem pdot_p {k k2:Nat} {x y x2 y2:Rat} (p:PR w s_p A_p n_p c_p B_p m_p d_p t_p E_p i_p e_p F_p j_p f_p x y k) (q:PR w s_q A_q n_q c_q B_q m_q d_q t_q E_q i_q e_q F_q j_q f_q x2 y2 k2) (hk:k+k2≤20000) (h1:1≤k) (h2:1≤k2) :
 Calls Tryz.prog 54 #[.agg #[.bool s_p,.slice A_p n_p c_p,.slice B_p m_p d_p,.bool t_p,.slice E_p i_p e_p,.slice F_p j_p f_p],.agg #[.bool s_q,.slice A_q n_q c_q,.slice B_q m_q d_q,.bool t_q,.slice E_q i_q e_q,.slice F_q j_q f_q]] w (GivesQ w (x*x2+y*y2) (k+k2+(k+k2)+1)):=by
 go_enter Tryz.func54,Tryz.ntmps54
 go_upto_region 1 with (fail)
 generalize hW:World.alloc _ _=W
 obtain ⟨hb,XA,XB,Z,hzW⟩:=mkbx19_9 hW;clear hW;replace p:=p.below hb;replace q:=q.below hb
 replace p:=p.below (Below.refl _ _).drew
 replace q:=q.below (Below.refl _ _).drew
 replace XA:=XA.below (Below.refl _ _).drew
 replace XB:=XB.below (Below.refl _ _).drew
 replace Z:=Z.below (Below.refl _ _).drew
 replace hb:=hb.drew
 go_region_held3 (fun w'=>w'.cell? ⟨w.heap.size,0,none⟩=some (.bool s_p)∧w'.cell? ⟨w.heap.size,1,none⟩=some (.slice A_p n_p c_p)∧w'.cell? ⟨w.heap.size,2,none⟩=some (.slice B_p m_p d_p)∧w'.cell? ⟨w.heap.size,3,none⟩=some (.bool t_p)∧w'.cell? ⟨w.heap.size,4,none⟩=some (.slice E_p i_p e_p)∧w'.cell? ⟨w.heap.size,5,none⟩=some (.slice F_p j_p f_p)∧w'.cell? ⟨w.heap.size+1,0,none⟩=some (.bool s_q)∧w'.cell? ⟨w.heap.size+1,1,none⟩=some (.slice A_q n_q c_q)∧w'.cell? ⟨w.heap.size+1,2,none⟩=some (.slice B_q m_q d_q)∧w'.cell? ⟨w.heap.size+1,3,none⟩=some (.bool t_q)∧w'.cell? ⟨w.heap.size+1,4,none⟩=some (.slice E_q i_q e_q)∧w'.cell? ⟨w.heap.size+1,5,none⟩=some (.slice F_q j_q f_q))
  (first | with_reducible exact ⟨XA.c0,XA.c1,XA.c2,XA.c3,XA.c4,XA.c5,XB.c0,XB.c1,XB.c2,XB.c3,XB.c4,XB.c5⟩ | with_reducible exact ⟨(set3_cell _ _ _ _ _ _ _ (by omega)).trans (XA.c0),(set3_cell _ _ _ _ _ _ _ (by omega)).trans (XA.c1),(set3_cell _ _ _ _ _ _ _ (by omega)).trans (XA.c2),(set3_cell _ _ _ _ _ _ _ (by omega)).trans (XA.c3),(set3_cell _ _ _ _ _ _ _ (by omega)).trans (XA.c4),(set3_cell _ _ _ _ _ _ _ (by omega)).trans (XA.c5),(set3_cell _ _ _ _ _ _ _ (by omega)).trans (XB.c0),(set3_cell _ _ _ _ _ _ _ (by omega)).trans (XB.c1),(set3_cell _ _ _ _ _ _ _ (by omega)).trans (XB.c2),(set3_cell _ _ _ _ _ _ _ (by omega)).trans (XB.c3),(set3_cell _ _ _ _ _ _ _ (by omega)).trans (XB.c4),(set3_cell _ _ _ _ _ _ _ (by omega)).trans (XB.c5)⟩)
  (first
  | (go_at_call 23;(with_reducible refine (rmul_q p.qx q.qx (by omega) (by omega) (.inl (by omega)) h1 h2).mono ?_);rintro e w_r1 ⟨s_r1,A_r1,n_r1,c_r1,B_r1,m_r1,d_r1,rfl,r1,hh⟩
     (try replace p:=p.below hh);(try replace q:=q.below hh);(try replace r2:=r2.below hh);(try replace r3:=r3.below hh);(try replace XA:=XA.below hh);(try replace XB:=XB.below hh);(try replace Z:=Z.below hh);replace hb:=bend hb hh)
  | (go_at_call 23;(with_reducible refine (rmul_q p.qy q.qy (by omega) (by omega) (.inl (by omega)) h1 h2).mono ?_);rintro e w_r2 ⟨s_r2,A_r2,n_r2,c_r2,B_r2,m_r2,d_r2,rfl,r2,hh⟩
     (try replace p:=p.below hh);(try replace q:=q.below hh);(try replace r1:=r1.below hh);(try replace r3:=r3.below hh);(try replace XA:=XA.below hh);(try replace XB:=XB.below hh);(try replace Z:=Z.below hh);replace hb:=bend hb hh)
  | (go_at_call 22;(with_reducible refine (radd_q r1.qr r2.qr (by omega) (by omega) (.inl (by omega)) (by omega) (by omega)).mono ?_);rintro e w_r3 ⟨s_r3,A_r3,n_r3,c_r3,B_r3,m_r3,d_r3,rfl,r3,hh⟩
     (try replace p:=p.below hh);(try replace q:=q.below hh);(try replace r1:=r1.below hh);(try replace r2:=r2.below hh);(try replace XA:=XA.below hh);(try replace XB:=XB.below hh);(try replace Z:=Z.below hh);replace hb:=bend hb hh;have zf0:=Z.f0;have zf1:=Z.f1;have zf2:=Z.f2;obtain ⟨z0,z1,z2⟩:=Z.all))
 go_wp2_with fail
 have Z2:=Z.set3 (.bool s_r3) (.slice A_r3 n_r3 c_r3) (.slice B_r3 m_r3 d_r3)
 obtain ⟨g0,g1,g2⟩:=Z2.all
 refine bodyPost_ret (v:=.agg #[.bool s_r3,.slice A_r3 n_r3 c_r3,.slice B_r3 m_r3 d_r3]) (by simp [results,Tryz.results54,go_sem,g0,g1,g2]) rfl ?_
 exact ⟨s_r3,A_r3,n_r3,c_r3,B_r3,m_r3,d_r3,rfl,r3.set3 Z _ _ _,below_set3 hb (by omega) _ _ _⟩
def GivesQQ (w:World) (u v:Rat) (k:Nat) (en:Ending) (w':World):Prop :=
 ∃ s A n c A' n' c' t B m d B' m' d',en=.returned (.tuple #[.agg #[.bool s,.slice A n c,.slice A' n' c'],.agg #[.bool t,.slice B m d,.slice B' m' d']])∧QG w' s A n c A' n' c' u k∧QG w' t B m d B' m' d' v k∧Below w.heap.size w w'
theorem B3.rest {W W':World} {g k:Nat} {x y z:Value} (h:B3 W g x y z) (hne:g ≠ k) (ho:Only k W W'):B3 W' g x y z:=(ho.block g h.lt hne).trans h
theorem mkbx20_9 {w W:World} {x0 x1 x2 x3 x4 x5 x6 x7 x8 x9 x10 x11 x12 x13 x14 x15 x16 x17:Value} (h:((((w.alloc (Obj.cells #[x0,x1,x2,x3,x4,x5] 49)).alloc (Obj.cells #[x6,x7,x8,x9,x10,x11] 49)).alloc (Obj.cells #[x12,x13,x14] 27)).alloc (Obj.cells #[x15,x16,x17] 27))=W):Below w.heap.size w W∧B6 W (w.heap.size) x0 x1 x2 x3 x4 x5∧B6 W (w.heap.size+1) x6 x7 x8 x9 x10 x11∧B3 W (w.heap.size+1+1) x12 x13 x14∧B3 W (w.heap.size+1+1+1) x15 x16 x17∧W.heap.size=w.heap.size+4:=by subst h;exact ⟨by exact (((((Below.refl _ _).alloc (Nat.le_refl _) _).alloc (by simp) _).alloc (by simp;omega) _).alloc (by simp;omega) _),by exact (((B6.new' _ _ _ _ _ _ _ _ rfl).alloc _).alloc _).alloc _,by exact ((B6.new' _ _ _ _ _ _ _ _ (by simp)).alloc _).alloc _,by exact (B3.new' _ _ _ _ _ (by simp)).alloc _,by exact B3.new' _ _ _ _ _ (by simp),by simp⟩
theorem pcw_p {k k2:Nat} {x y x2 y2:Rat} (p:PR w s_p A_p n_p c_p B_p m_p d_p t_p E_p i_p e_p F_p j_p f_p x y k) (q:PR w s_q A_q n_q c_q B_q m_q d_q t_q E_q i_q e_q F_q j_q f_q x2 y2 k2) (hk:k+k2≤20000) (h1:1≤k) (h2:1≤k2) :
 Calls Tryz.prog 99 #[.agg #[.bool s_p,.slice A_p n_p c_p,.slice B_p m_p d_p,.bool t_p,.slice E_p i_p e_p,.slice F_p j_p f_p],.agg #[.bool s_q,.slice A_q n_q c_q,.slice B_q m_q d_q,.bool t_q,.slice E_q i_q e_q,.slice F_q j_q f_q]] w (GivesQQ w (x*y2) (y*x2) (k+k2)):=by
 go_enter Tryz.func99,Tryz.ntmps99
 go_upto_region 1 with (fail)
 generalize hW:World.alloc _ _=W
 obtain ⟨hb,XA,XB,Z,Y,hzW⟩:=mkbx20_9 hW;clear hW;replace p:=p.below hb;replace q:=q.below hb
 replace p:=p.below (Below.refl _ _).drew
 replace q:=q.below (Below.refl _ _).drew
 replace XA:=XA.below (Below.refl _ _).drew
 replace XB:=XB.below (Below.refl _ _).drew
 replace Z:=Z.below (Below.refl _ _).drew
 replace Y:=Y.below (Below.refl _ _).drew
 replace hb:=hb.drew
 go_region_held3 (fun w'=>w'.cell? ⟨w.heap.size,0,none⟩=some (.bool s_p)∧w'.cell? ⟨w.heap.size,1,none⟩=some (.slice A_p n_p c_p)∧w'.cell? ⟨w.heap.size,2,none⟩=some (.slice B_p m_p d_p)∧w'.cell? ⟨w.heap.size,3,none⟩=some (.bool t_p)∧w'.cell? ⟨w.heap.size,4,none⟩=some (.slice E_p i_p e_p)∧w'.cell? ⟨w.heap.size,5,none⟩=some (.slice F_p j_p f_p)∧w'.cell? ⟨w.heap.size+1,0,none⟩=some (.bool s_q)∧w'.cell? ⟨w.heap.size+1,1,none⟩=some (.slice A_q n_q c_q)∧w'.cell? ⟨w.heap.size+1,2,none⟩=some (.slice B_q m_q d_q)∧w'.cell? ⟨w.heap.size+1,3,none⟩=some (.bool t_q)∧w'.cell? ⟨w.heap.size+1,4,none⟩=some (.slice E_q i_q e_q)∧w'.cell? ⟨w.heap.size+1,5,none⟩=some (.slice F_q j_q f_q))
  (first | with_reducible exact ⟨XA.c0,XA.c1,XA.c2,XA.c3,XA.c4,XA.c5,XB.c0,XB.c1,XB.c2,XB.c3,XB.c4,XB.c5⟩ | with_reducible exact ⟨(set3_cell _ _ _ _ _ _ _ (by omega)).trans (XA.c0),(set3_cell _ _ _ _ _ _ _ (by omega)).trans (XA.c1),(set3_cell _ _ _ _ _ _ _ (by omega)).trans (XA.c2),(set3_cell _ _ _ _ _ _ _ (by omega)).trans (XA.c3),(set3_cell _ _ _ _ _ _ _ (by omega)).trans (XA.c4),(set3_cell _ _ _ _ _ _ _ (by omega)).trans (XA.c5),(set3_cell _ _ _ _ _ _ _ (by omega)).trans (XB.c0),(set3_cell _ _ _ _ _ _ _ (by omega)).trans (XB.c1),(set3_cell _ _ _ _ _ _ _ (by omega)).trans (XB.c2),(set3_cell _ _ _ _ _ _ _ (by omega)).trans (XB.c3),(set3_cell _ _ _ _ _ _ _ (by omega)).trans (XB.c4),(set3_cell _ _ _ _ _ _ _ (by omega)).trans (XB.c5)⟩ | with_reducible exact ⟨(set3_cell _ _ _ _ _ _ _ (by omega)).trans ((set3_cell _ _ _ _ _ _ _ (by omega)).trans XA.c0),(set3_cell _ _ _ _ _ _ _ (by omega)).trans ((set3_cell _ _ _ _ _ _ _ (by omega)).trans XA.c1),(set3_cell _ _ _ _ _ _ _ (by omega)).trans ((set3_cell _ _ _ _ _ _ _ (by omega)).trans XA.c2),(set3_cell _ _ _ _ _ _ _ (by omega)).trans ((set3_cell _ _ _ _ _ _ _ (by omega)).trans XA.c3),(set3_cell _ _ _ _ _ _ _ (by omega)).trans ((set3_cell _ _ _ _ _ _ _ (by omega)).trans XA.c4),(set3_cell _ _ _ _ _ _ _ (by omega)).trans ((set3_cell _ _ _ _ _ _ _ (by omega)).trans XA.c5),(set3_cell _ _ _ _ _ _ _ (by omega)).trans ((set3_cell _ _ _ _ _ _ _ (by omega)).trans XB.c0),(set3_cell _ _ _ _ _ _ _ (by omega)).trans ((set3_cell _ _ _ _ _ _ _ (by omega)).trans XB.c1),(set3_cell _ _ _ _ _ _ _ (by omega)).trans ((set3_cell _ _ _ _ _ _ _ (by omega)).trans XB.c2),(set3_cell _ _ _ _ _ _ _ (by omega)).trans ((set3_cell _ _ _ _ _ _ _ (by omega)).trans XB.c3),(set3_cell _ _ _ _ _ _ _ (by omega)).trans ((set3_cell _ _ _ _ _ _ _ (by omega)).trans XB.c4),(set3_cell _ _ _ _ _ _ _ (by omega)).trans ((set3_cell _ _ _ _ _ _ _ (by omega)).trans XB.c5)⟩)
  (first
  | (go_at_call 23;(with_reducible refine (rmul_q p.qx q.qy (by omega) (by omega) (.inl (by omega)) h1 h2).mono ?_);rintro e w_r1 ⟨s_r1,A_r1,n_r1,c_r1,B_r1,m_r1,d_r1,rfl,r1,hh⟩
     (try replace p:=p.below hh);(try replace q:=q.below hh);(try replace r2:=r2.below hh);(try replace XA:=XA.below hh);(try replace XB:=XB.below hh);(try replace Z:=Z.below hh);(try replace Y:=Y.below hh);replace hb:=bend hb hh;have zaf0:=Z.f0;have zaf1:=Z.f1;have zaf2:=Z.f2;obtain ⟨zac0,zac1,zac2⟩:=Z.all;have yaf0:=Y.f0;have yaf1:=Y.f1;have yaf2:=Y.f2;obtain ⟨yac0,yac1,yac2⟩:=Y.all)
  | (go_at_call 23;(with_reducible refine (rmul_q p.qy q.qx (by omega) (by omega) (.inl (by omega)) h1 h2).mono ?_);rintro e w_r2 ⟨s_r2,A_r2,n_r2,c_r2,B_r2,m_r2,d_r2,rfl,r2,hh⟩
     (try replace p:=p.below hh);(try replace q:=q.below hh);(try replace r1:=r1.below hh);(try replace XA:=XA.below hh);(try replace XB:=XB.below hh);(try replace Z:=Z.below hh);(try replace Y:=Y.below hh);replace hb:=bend hb hh;have zaf0:=Z.f0;have zaf1:=Z.f1;have zaf2:=Z.f2;obtain ⟨zac0,zac1,zac2⟩:=Z.all;have yaf0:=Y.f0;have yaf1:=Y.f1;have yaf2:=Y.f2;obtain ⟨yac0,yac1,yac2⟩:=Y.all))
 have hgz:w.heap.size+1+1 ≠ w.heap.size+1+1+1:=by omega
 have ho1:Only (w.heap.size+1+1) w_r2 (((w_r2.setCell ⟨w.heap.size+1+1,0,none⟩ (.bool s_r1)).setCell ⟨w.heap.size+1+1,1,none⟩ (.slice A_r1 n_r1 c_r1)).setCell ⟨w.heap.size+1+1,2,none⟩ (.slice B_r1 m_r1 d_r1)):=(((Only.refl _ _).setCell 0 _).setCell 1 _).setCell 2 _
 have Z1:=Z.set3 (.bool s_r1) (.slice A_r1 n_r1 c_r1) (.slice B_r1 m_r1 d_r1)
 have Y1:=Y.rest hgz.symm ho1
 have r11:=r1.set3 Z (.bool s_r1) (.slice A_r1 n_r1 c_r1) (.slice B_r1 m_r1 d_r1)
 have r21:=r2.set3 Z (.bool s_r1) (.slice A_r1 n_r1 c_r1) (.slice B_r1 m_r1 d_r1)
 have hb1:=below_set3 hb (show w.heap.size≤w.heap.size+1+1 by omega) (.bool s_r1) (.slice A_r1 n_r1 c_r1) (.slice B_r1 m_r1 d_r1)
 clear Z Y r1 r2 hb
 generalize hW1:(((w_r2.setCell ⟨w.heap.size+1+1,0,none⟩ (.bool s_r1)).setCell ⟨w.heap.size+1+1,1,none⟩ (.slice A_r1 n_r1 c_r1)).setCell ⟨w.heap.size+1+1,2,none⟩ (.slice B_r1 m_r1 d_r1))=W1 at *
 clear hW1
 have ho2:Only (w.heap.size+1+1+1) W1 (((W1.setCell ⟨w.heap.size+1+1+1,0,none⟩ (.bool s_r2)).setCell ⟨w.heap.size+1+1+1,1,none⟩ (.slice A_r2 n_r2 c_r2)).setCell ⟨w.heap.size+1+1+1,2,none⟩ (.slice B_r2 m_r2 d_r2)):=(((Only.refl _ _).setCell 0 _).setCell 1 _).setCell 2 _
 have Z2:=Z1.rest hgz ho2
 have Y2:=Y1.set3 (.bool s_r2) (.slice A_r2 n_r2 c_r2) (.slice B_r2 m_r2 d_r2)
 have r12:=r11.set3 Y1 (.bool s_r2) (.slice A_r2 n_r2 c_r2) (.slice B_r2 m_r2 d_r2)
 have r22:=r21.set3 Y1 (.bool s_r2) (.slice A_r2 n_r2 c_r2) (.slice B_r2 m_r2 d_r2)
 have hb2:=below_set3 hb1 (show w.heap.size≤w.heap.size+1+1+1 by omega) (.bool s_r2) (.slice A_r2 n_r2 c_r2) (.slice B_r2 m_r2 d_r2)
 clear Z1 Y1 r11 r21 hb1 ho1 ho2
 generalize hW2:(((W1.setCell ⟨w.heap.size+1+1+1,0,none⟩ (.bool s_r2)).setCell ⟨w.heap.size+1+1+1,1,none⟩ (.slice A_r2 n_r2 c_r2)).setCell ⟨w.heap.size+1+1+1,2,none⟩ (.slice B_r2 m_r2 d_r2))=W2 at *
 clear hW2
 go_wp2_with fail
 obtain ⟨g0,g1,g2⟩:=Z2.all;have y0:=Y2.c0;have y1:=Y2.c1;have yy2:=Y2.c2
 refine bodyPost_ret (v:=.tuple #[.agg #[.bool s_r1,.slice A_r1 n_r1 c_r1,.slice B_r1 m_r1 d_r1],.agg #[.bool s_r2,.slice A_r2 n_r2 c_r2,.slice B_r2 m_r2 d_r2]]) (by simp [results,Tryz.results99,go_sem,g0,g1,g2,y0,y1,yy2]) rfl ?_
 exact ⟨_,_,_,_,_,_,_,_,_,_,_,_,_,_,rfl,r12,r22,hb2⟩
theorem pcross_p {k k2:Nat} {x y x2 y2:Rat} (p:PR w s_p A_p n_p c_p B_p m_p d_p t_p E_p i_p e_p F_p j_p f_p x y k) (q:PR w s_q A_q n_q c_q B_q m_q d_q t_q E_q i_q e_q F_q j_q f_q x2 y2 k2) (hk:k+k2≤20000) (h1:1≤k) (h2:1≤k2) :
 Calls Tryz.prog 57 #[.agg #[.bool s_p,.slice A_p n_p c_p,.slice B_p m_p d_p,.bool t_p,.slice E_p i_p e_p,.slice F_p j_p f_p],.agg #[.bool s_q,.slice A_q n_q c_q,.slice B_q m_q d_q,.bool t_q,.slice E_q i_q e_q,.slice F_q j_q f_q]] w (GivesQ w (x*y2 - y*x2) (k+k2+(k+k2)+1)):=by
 go_enter Tryz.func57,Tryz.ntmps57
 go_upto_region 1 with (fail)
 generalize hW:World.alloc _ _=W
 obtain ⟨hb,XA,XB,Z,hzW⟩:=mkbx19_9 hW;clear hW;replace p:=p.below hb;replace q:=q.below hb;obtain ⟨xa0,xa1,xa2,xa3,xa4,xa5⟩:=XA.all;obtain ⟨xb0,xb1,xb2,xb3,xb4,xb5⟩:=XB.all
 go_wp2_with (first
  | (go_at_call 99;(with_reducible refine (pcw_p p q hk h1 h2).mono ?_);rintro e w_u ⟨s_u,A_u,n_u,c_u,B_u,m_u,d_u,s_v,A_v,n_v,c_v,B_v,m_v,d_v,rfl,u,v,hh⟩
     (try replace Z:=Z.below hh);replace hb:=bend hb hh)
  | (go_at_call 98;(with_reducible refine (rsub_q u.qr v.qr (by omega) (by omega) (.inl (by omega)) (by omega) (by omega)).mono ?_);rintro e w_r ⟨s_r,A_r,n_r,c_r,B_r,m_r,d_r,rfl,r,hh⟩
     (try replace Z:=Z.below hh);replace hb:=bend hb hh;have zf0:=Z.f0;have zf1:=Z.f1;have zf2:=Z.f2;obtain ⟨z0,z1,z2⟩:=Z.all))
 have Z2:=Z.set3 (.bool s_r) (.slice A_r n_r c_r) (.slice B_r m_r d_r)
 obtain ⟨g0,g1,g2⟩:=Z2.all
 refine bodyPost_ret (v:=.agg #[.bool s_r,.slice A_r n_r c_r,.slice B_r m_r d_r]) (by simp [results,Tryz.results57,go_sem,g0,g1,g2]) rfl ?_
 exact ⟨s_r,A_r,n_r,c_r,B_r,m_r,d_r,rfl,r.set3 Z _ _ _,below_set3 hb (by omega) _ _ _⟩
theorem psquare_p {k:Nat} {x y:Rat} (p:PR w s_p A_p n_p c_p B_p m_p d_p t_p E_p i_p e_p F_p j_p f_p x y k) (hk:k≤10000) (h1:1≤k) :
 Calls Tryz.prog 55 #[.agg #[.bool s_p,.slice A_p n_p c_p,.slice B_p m_p d_p,.bool t_p,.slice E_p i_p e_p,.slice F_p j_p f_p]] w (GivesQ w (x*x+y*y) (k+k+(k+k)+1)):=by
 go_enter Tryz.func55,Tryz.ntmps55
 go_upto_region 1 with (fail)
 generalize hW:World.alloc _ _=W
 obtain ⟨hb,XA,Z,hzW⟩:=mkbx15_9 hW;clear hW;replace p:=p.below hb;obtain ⟨xa0,xa1,xa2,xa3,xa4,xa5⟩:=XA.all
 go_wp2_with (first
  | (go_at_call 54;(with_reducible refine (pdot_p p p (by omega) h1 h1).mono ?_);rintro e w_r ⟨s_r,A_r,n_r,c_r,B_r,m_r,d_r,rfl,r,hh⟩
     (try replace Z:=Z.below hh);replace hb:=bend hb hh;have zf0:=Z.f0;have zf1:=Z.f1;have zf2:=Z.f2;obtain ⟨z0,z1,z2⟩:=Z.all))
 have Z2:=Z.set3 (.bool s_r) (.slice A_r n_r c_r) (.slice B_r m_r d_r)
 obtain ⟨g0,g1,g2⟩:=Z2.all
 refine bodyPost_ret (v:=.agg #[.bool s_r,.slice A_r n_r c_r,.slice B_r m_r d_r]) (by simp [results,Tryz.results55,go_sem,g0,g1,g2]) rfl ?_
 exact ⟨s_r,A_r,n_r,c_r,B_r,m_r,d_r,rfl,r.set3 Z _ _ _,below_set3 hb (by omega) _ _ _⟩
def farQ (x y x2 y2:Rat):Rat:=(x2 - x)*(x2 - x)+(y2 - y)*(y2 - y)
theorem pfar_p {k k2:Nat} {x y x2 y2:Rat} (p:PR w s_p A_p n_p c_p B_p m_p d_p t_p E_p i_p e_p F_p j_p f_p x y k) (q:PR w s_q A_q n_q c_q B_q m_q d_q t_q E_q i_q e_q F_q j_q f_q x2 y2 k2) (hk:k2+k≤9998) (h1:1≤k) (h2:1≤k2) :
 Calls Tryz.prog 56 #[.agg #[.bool s_p,.slice A_p n_p c_p,.slice B_p m_p d_p,.bool t_p,.slice E_p i_p e_p,.slice F_p j_p f_p],.agg #[.bool s_q,.slice A_q n_q c_q,.slice B_q m_q d_q,.bool t_q,.slice E_q i_q e_q,.slice F_q j_q f_q]] w (GivesQ w (farQ x y x2 y2) (k2+k+1+(k2+k+1)+(k2+k+1+(k2+k+1))+1)):=by
 go_enter Tryz.func56,Tryz.ntmps56
 go_upto_region 1 with (fail)
 generalize hW:World.alloc _ _=W
 obtain ⟨hb,XA,XB,Z,hzW⟩:=mkbx19_9 hW;clear hW;replace p:=p.below hb;replace q:=q.below hb;obtain ⟨xa0,xa1,xa2,xa3,xa4,xa5⟩:=XA.all;obtain ⟨xb0,xb1,xb2,xb3,xb4,xb5⟩:=XB.all
 go_wp2_with (first
  | (go_at_call 53;(with_reducible refine (psub_p q p (by omega) (by omega) (.inl (by omega)) (by omega) (by omega)).mono ?_);rintro e w_a ⟨s_a,A_a,n_a,c_a,B_a,m_a,d_a,t_a,E_a,i_a,e_a,F_a,j_a,f_a,rfl,a,hh⟩
     (try replace Z:=Z.below hh);replace hb:=bend hb hh)
  | (go_at_call 55;(with_reducible refine (psquare_p a.pr (by omega) (by omega)).mono ?_);rintro e w_r ⟨s_r,A_r,n_r,c_r,B_r,m_r,d_r,rfl,r,hh⟩
     (try replace Z:=Z.below hh);replace hb:=bend hb hh;have zf0:=Z.f0;have zf1:=Z.f1;have zf2:=Z.f2;obtain ⟨z0,z1,z2⟩:=Z.all))
 have Z2:=Z.set3 (.bool s_r) (.slice A_r n_r c_r) (.slice B_r m_r d_r)
 obtain ⟨g0,g1,g2⟩:=Z2.all
 refine bodyPost_ret (v:=.agg #[.bool s_r,.slice A_r n_r c_r,.slice B_r m_r d_r]) (by simp [results,Tryz.results56,go_sem,g0,g1,g2]) rfl ?_
 exact ⟨s_r,A_r,n_r,c_r,B_r,m_r,d_r,rfl,r.set3 Z _ _ _,below_set3 hb (by omega) _ _ _⟩
end
section
open Go Go.RowKit
def IsZ (w:World) (v:Value) (x:Int) (k:Nat):Prop:=∃ s A n c,v=.agg #[.bool s,.slice A n c]∧ZR w s A n c x k
def IsDM (w:World) (v:Value) (x:Int) (k:Nat):Prop:=∃ s A n c s' A' n' c',v=.tuple #[.agg #[.bool s,.slice A n c],.agg #[.bool s',.slice A' n' c'],.int .i64 0]∧ZG w s A n c x k
def IBox (w:World) (base:Nat) (p cont:Value) (full:Bool):Prop:=∃ g s A n c,p=.pointer (some ⟨g,0,none⟩)∧base≤g∧Bx w g (.bool s) (.slice A n c)∧(full=true→cont=.agg #[.bool s,.slice A n c])
theorem IsZ.below {w w':World} {v:Value} {x:Int} {k:Nat} (h:IsZ w v x k) (hb:Below w.heap.size w w'):IsZ w' v x k:=by
 obtain ⟨s,A,n,c,h1,h2⟩:=h;exact ⟨s,A,n,c,h1,h2.below hb⟩
theorem IsDM.below {w w':World} {v:Value} {x:Int} {k:Nat} (h:IsDM w v x k) (hb:Below w.heap.size w w'):IsDM w' v x k:=by
 obtain ⟨s,A,n,c,s',A',n',c',h1,h2⟩:=h;exact ⟨s,A,n,c,s',A',n',c',h1,h2.below hb⟩
theorem IBox.below {w w':World} {base:Nat} {p cont:Value} {full:Bool} (h:IBox w base p cont full) (hb:Below w.heap.size w w'):IBox w' base p cont full:=by
 obtain ⟨g,s,A,n,c,h1,h2,h3,h4⟩:=h;exact ⟨g,s,A,n,c,h1,h2,h3.below hb,h4⟩
theorem IsZ.store {v:Value} {x:Int} {k g n0 c0:Nat} {s0:Bool} {A0:Option Addr} (h:IsZ w v x k) (Z:Bx w g (.bool s0) (.slice A0 n0 c0)) (y z:Value):IsZ ((w.setCell ⟨g,0,none⟩ y).setCell ⟨g,1,none⟩ z) v x k:=by
 obtain ⟨s,A,n,c,h1,h2⟩:=h;exact ⟨s,A,n,c,h1,h2.set2x Z y z⟩
theorem IsDM.store {v:Value} {x:Int} {k g n0 c0:Nat} {s0:Bool} {A0:Option Addr} (h:IsDM w v x k) (Z:Bx w g (.bool s0) (.slice A0 n0 c0)) (y z:Value):IsDM ((w.setCell ⟨g,0,none⟩ y).setCell ⟨g,1,none⟩ z) v x k:=by
 obtain ⟨s,A,n,c,s',A',n',c',h1,h2⟩:=h;exact ⟨s,A,n,c,s',A',n',c',h1,h2.set2x Z y z⟩
theorem IBox.other {base g:Nat} {p cont:Value} {full:Bool} (h:IBox w base p cont full) (hne:p ≠ .pointer (some ⟨g,0,none⟩)) (y z:Value):IBox ((w.setCell ⟨g,0,none⟩ y).setCell ⟨g,1,none⟩ z) base p cont full:=by
 obtain ⟨g',s,A,n,c,h1,h2,h3,h4⟩:=h
 exact ⟨g',s,A,n,c,h1,h2,h3.other (fun q=>hne (by rw [h1,q])) y z,h4⟩
end
section
open Go Go.RowKit
theorem wpOp_plain' {P:Program} {ops:Array Oper} {Q:Exit→Act→World→Prop} {i:Nat} {o:Oper} {K:Act→World→Prop} {a:Act} (hi:ops[i]?=some o) (hg:o.guard=none) (h:o.wp P a w K Q):wpOp P ops Q i K a w:=by
 unfold wpOp
 rw [hi]
 simp only [Region.wanted,hg,if_true]
 exact .inl h
structure BoxAt (T:TypeId) (w:World) (g:Nat) (cs:Array Value):Prop where
 at_:w.heap[g]?=some (.cells cs T (0,0))
 free:∀ (i:Nat) (k:IntKind) (x:Int),cs[i]? ≠ some (Value.int k x)
section
variable {T:TypeId} {w w':World} {g:Nat} {cs:Array Value}
theorem BoxAt.lt (h:BoxAt T w g cs):g < w.heap.size:=by
 rcases Nat.lt_or_ge g w.heap.size with k | k
 · exact k
 · have:=h.at_;simp [Array.getElem?_eq_none k] at this
theorem BoxAt.below (h:BoxAt T w g cs) (hb:Below w.heap.size w w'):BoxAt T w' g cs:=⟨(hb.block g h.lt).trans h.at_,h.free⟩
theorem BoxAt.offx {K:IntKind} {A:Option Addr} {n:Nat} {l:List Nat} (h:BoxAt T w g cs) (hr:Rd K w A n l):Off A n g:=by
 intro hn ad e hg
 obtain ⟨b,o,eA,hc⟩:=hr.at_ hn
 obtain ⟨y,_,hx⟩:=hc 0 hn
 rw [eA] at e
 cases e
 have hg2:b=g:=hg
 subst hg2
 rw [cell_of_row w b (o+0) _ _ (0,0) h.at_] at hx
 exact h.free _ _ _ hx
theorem NR.box {A:Option Addr} {n c V k:Nat} (h:NR w A n c V k) (B:BoxAt T w g cs) (ho:Only g w w'):NR w' A n c V k:=by
 obtain ⟨l,h1,h2⟩:=h;exact ⟨l,h1.only (B.offx h1) ho,h2⟩
theorem NG.box {A:Option Addr} {n c V k:Nat} (h:NG w A n c V k) (B:BoxAt T w g cs) (ho:Only g w w'):NG w' A n c V k:=⟨h.1.only (B.offx h.1) ho,h.2⟩
theorem ZG.box {s:Bool} {A:Option Addr} {n c k:Nat} {v:Int} (h:ZG w s A n c v k) (B:BoxAt T w g cs) (ho:Only g w w'):ZG w' s A n c v k:=⟨h.1,h.2.1.only (B.offx h.2.1) ho,h.2.2⟩
theorem ZR.box {s:Bool} {A:Option Addr} {n c k:Nat} {v:Int} (h:ZR w s A n c v k) (B:BoxAt T w g cs) (ho:Only g w w'):ZR w' s A n c v k:=by
 obtain ⟨l,h1,h2⟩:=h;exact ⟨l,h1.only (B.offx h1) ho,h2⟩
theorem QG.box {s:Bool} {A A':Option Addr} {n c n' c' k:Nat} {v:Rat} (h:QG w s A n c A' n' c' v k) (B:BoxAt T w g cs) (ho:Only g w w'):QG w' s A n c A' n' c' v k:=⟨h.1.box B ho,h.2.box B ho⟩
theorem QR.box {s:Bool} {A A':Option Addr} {n c n' c' k:Nat} {v:Rat} (h:QR w s A n c A' n' c' v k) (B:BoxAt T w g cs) (ho:Only g w w'):QR w' s A n c A' n' c' v k:=by
 obtain ⟨p,q,h1,h2,h3⟩:=h;exact ⟨p,q,h1.box B ho,h2.box B ho,h3⟩
end
theorem free3 (s:Bool) (A B:Option Addr) (n c m d:Nat):∀ (i:Nat) (k:IntKind) (v:Int),(#[.bool s,.slice A n c,.slice B m d]:Array Value)[i]? ≠ some (.int k v):=by
 intro i k v h
 match i,h with
 | 0,h=>cases h
 | 1,h=>cases h
 | 2,h=>cases h
 | i+3,h=>cases h
def VQ (v:Rat) (k:Nat) (x:Value) (w:World):Prop:=∃ s A n c B m d,x=.agg #[.bool s,.slice A n c,.slice B m d]∧QG w s A n c B m d v k
def VZG (v:Int) (k:Nat) (x:Value) (w:World):Prop:=∃ s A n c,x=.agg #[.bool s,.slice A n c]∧ZG w s A n c v k
def VQE (S:Rat→Prop) (k:Nat) (x:Value) (w:World):Prop:=∃ v,S v∧∃ s A n c B m d,x=.tuple #[.agg #[.bool s,.slice A n c,.slice B m d],.int .i64 0]∧QG w s A n c B m d v k
def VQS (S:Rat→Prop) (k:Nat) (x:Value) (w:World):Prop:=∃ v,S v∧VQ v k x w
def Stays (F:Value→World→Prop):Prop:=(∀ x w w',F x w→Below w.heap.size w w'→F x w')∧∀ (T:TypeId) x w w' g cs,F x w→BoxAt T w g cs→Only g w w'→F x w'
theorem stays_eq (c:Value):Stays (fun x _=>x=c):=⟨fun _ _ _ h _=>h,fun _ _ _ _ _ _ h _ _=>h⟩
theorem stays_true:Stays (fun _ _=>True):=⟨fun _ _ _ h _=>h,fun _ _ _ _ _ _ h _ _=>h⟩
theorem stays_q (v:Rat) (k:Nat):Stays (VQ v k) :=
 ⟨fun _ _ _ ⟨s,A,n,c,B,m,d,h1,h2⟩ hb=>⟨s,A,n,c,B,m,d,h1,h2.below hb⟩,fun _ _ _ _ _ _ ⟨s,A,n,c,B,m,d,h1,h2⟩ hB ho=>⟨s,A,n,c,B,m,d,h1,h2.box hB ho⟩⟩
theorem stays_z (v:Int) (k:Nat):Stays (VZG v k) :=
 ⟨fun _ _ _ ⟨s,A,n,c,h1,h2⟩ hb=>⟨s,A,n,c,h1,h2.below hb⟩,fun _ _ _ _ _ _ ⟨s,A,n,c,h1,h2⟩ hB ho=>⟨s,A,n,c,h1,h2.box hB ho⟩⟩
theorem stays_qe (S:Rat→Prop) (k:Nat):Stays (VQE S k) :=
 ⟨fun _ _ _ ⟨v,hv,s,A,n,c,B,m,d,h1,h2⟩ hb=>⟨v,hv,s,A,n,c,B,m,d,h1,h2.below hb⟩,fun _ _ _ _ _ _ ⟨v,hv,s,A,n,c,B,m,d,h1,h2⟩ hB ho=>⟨v,hv,s,A,n,c,B,m,d,h1,h2.box hB ho⟩⟩
theorem stays_qs (S:Rat→Prop) (k:Nat):Stays (VQS S k) :=
 ⟨fun _ _ _ ⟨v,hv,h⟩ hb=>⟨v,hv,(stays_q v k).1 _ _ _ h hb⟩,fun T _ _ _ _ _ ⟨v,hv,h⟩ hB ho=>⟨v,hv,(stays_q v k).2 T _ _ _ _ _ h hB ho⟩⟩
theorem store_q {ac:Act} {x z:Operand} {y g:Nat} {pos:String} {af:Array Edge} {Q:Exit→Act→World→Prop} {V:Rat} {k:Nat} (p1:ac.eval x=.pointer (some ⟨g,0,none⟩)) (h:VQ V k (ac.eval z) w) (B:BoxAt 27 w g #[.bool false,.slice none 0 0,.slice none 0 0]) :
 (⟨none,.store 27 x z,y,pos,af,none⟩:Oper).wp Tryz.prog ac w (fun a'' w''=>a''=ac∧Only g w w''∧∃ cs',BoxAt 27 w'' g cs'∧(fun cs w=>∃ s A n c B m d,cs=#[.bool s,.slice A n c,.slice B m d]∧QG w s A n c B m d V k) cs' w'') Q:=by
 obtain ⟨s1,A1,n1,c1,B1,m1,d1,h1,h2⟩:=h
 have Z:B3 w g (Value.bool false) (Value.slice none 0 0) (Value.slice none 0 0):=B.at_
 unfold Oper.wp
 rw [run_storeQ p1 h1 Z.c0 Z.c1 Z.c2 Z.f0 Z.f1 Z.f2,Oper.upon_skip]
 refine ⟨put_none ac undef,((((Only.refl g w).setCell 0 _).setCell 1 _).setCell 2 _),#[.bool s1,.slice A1 n1 c1,.slice B1 m1 d1],⟨Z.set3 (Value.bool s1) (Value.slice A1 n1 c1) (Value.slice B1 m1 d1),free3 _ _ _ _ _ _ _⟩,s1,A1,n1,c1,B1,m1,d1,rfl,h2.box B ((((Only.refl g w).setCell 0 _).setCell 1 _).setCell 2 _)⟩
theorem store_qs {ac:Act} {x z:Operand} {y g:Nat} {pos:String} {af:Array Edge} {Q:Exit→Act→World→Prop} {S:Rat→Prop} {k:Nat} (p1:ac.eval x=.pointer (some ⟨g,0,none⟩)) (h:VQS S k (ac.eval z) w) (B:BoxAt 27 w g #[.bool false,.slice none 0 0,.slice none 0 0]) :
 (⟨none,.store 27 x z,y,pos,af,none⟩:Oper).wp Tryz.prog ac w (fun a'' w''=>a''=ac∧Only g w w''∧∃ cs',BoxAt 27 w'' g cs'∧(fun cs w=>∃ v,S v∧∃ s A n c B m d,cs=#[.bool s,.slice A n c,.slice B m d]∧QG w s A n c B m d v k) cs' w'') Q:=by
 obtain ⟨u,hu,s1,A1,n1,c1,B1,m1,d1,h1,h2⟩:=h
 have Z:B3 w g (Value.bool false) (Value.slice none 0 0) (Value.slice none 0 0):=B.at_
 unfold Oper.wp
 rw [run_storeQ p1 h1 Z.c0 Z.c1 Z.c2 Z.f0 Z.f1 Z.f2,Oper.upon_skip]
 refine ⟨put_none ac undef,((((Only.refl g w).setCell 0 _).setCell 1 _).setCell 2 _),#[.bool s1,.slice A1 n1 c1,.slice B1 m1 d1],⟨Z.set3 (Value.bool s1) (Value.slice A1 n1 c1) (Value.slice B1 m1 d1),free3 _ _ _ _ _ _ _⟩,u,hu,s1,A1,n1,c1,B1,m1,d1,rfl,h2.box B ((((Only.refl g w).setCell 0 _).setCell 1 _).setCell 2 _)⟩
section
variable {P:Program} {ops:Array Oper} {Q:Exit→Act→World→Prop}
def JFlow (ops:Array Oper) (w0:World) (T:TypeId) (zs:Array Value) (ia is tA:Nat) (F:Nat→Value→World→Prop) (Fst:Array Value→World→Prop) (D:Nat→Bool) (v:Nat→Value) (w':World):Prop :=
 Below w0.heap.size w0 w'∧(∀ (i:Nat) (o:Oper) (t:Nat),ops[i]?=some o→o.dst=some t→t ≠ tA→D i=true→F t (v t) w') ∧
 (D ia=true→∃ g cs,v tA=.pointer (some ⟨g,0,none⟩)∧w0.heap.size≤g∧BoxAt T w' g cs∧(D is=true→Fst cs w')∧(D is=false→cs=zs))∧(D is=true→D ia=true)
theorem once_of {i j:Nat} {oi oj:Oper} {t:Nat}:∀ {l:List Oper},(l.filterMap (·.dst)).Nodup→l[i]?=some oi→l[j]?=some oj→oi.dst=some t→oj.dst=some t→i=j:=by
 intro l
 induction l generalizing i j with
 | nil=>intro _ h;simp at h
 | cons o l ih =>
   intro hn h1 h2 d1 d2
   have mem:∀ {k:Nat} {p:Oper},l[k]?=some p→p.dst=some t→t ∈ l.filterMap (·.dst):=fun h d=>List.mem_filterMap.2 ⟨_,List.mem_of_getElem? h,d⟩
   have hn':(l.filterMap (·.dst)).Nodup:=by
    rw [List.filterMap_cons] at hn
    split at hn
    · exact hn
    · exact (List.nodup_cons.1 hn).2
   match i,j with
   | 0,0=>rfl
   | 0,j+1 =>
     exfalso
     simp at h1
     subst h1
     rw [List.filterMap_cons,d1] at hn
     exact (List.nodup_cons.1 hn).1 (mem (by simpa using h2) d2)
   | i+1,0 =>
     exfalso
     simp at h2
     subst h2
     rw [List.filterMap_cons,d2] at hn
     exact (List.nodup_cons.1 hn).1 (mem (by simpa using h1) d1)
   | i+1,j+1=>exact congrArg (·+1) (ih hn' (by simpa using h1) (by simpa using h2) d1 d2)
theorem wp_region_flow {id:Nat} {a:Act} {w0:World} (T:TypeId) (zs:Array Value) (l:List Nat) (ia is tA:Nat) (oa os:Oper) (F:Nat→Value→World→Prop) (Fst:Array Value→World→Prop)
 (hm:P.follows .mixedOrders=true) (hb:backB ops=true) (hl:ops.toList.filterMap (·.dst)=l) (hn:l.Nodup)
 (hoa:ops[ia]?=some oa) (hos:ops[is]?=some os) (hda:oa.dst=some tA) (hds:os.dst=none) (hone:∀ (i:Nat) (o:Oper),ops[i]?=some o→o.dst=none→i=is)
 (hga:oa.guard=none) (hgs:os.guard=none) (hedge:∃ e ∈ os.after,Region.binds .any e=true∧e.on=ia)
 (hst:∀ t,Stays (F t)) (hzs:∀ (i:Nat) (k:IntKind) (x:Int),zs[i]? ≠ some (Value.int k x))
 (halloc:∀ (e:Operand→Value) (w':World),(execOp e oa).run P w'=.ok (.value (.pointer (some ⟨w'.heap.size,0,none⟩))) (w'.alloc (.cells zs T)))
 (hval:∀ (i:Nat) (o:Oper) (t:Nat) (v:Nat→Value) (w':World),ops[i]?=some o→i ≠ ia→o.dst=some t→Below w0.heap.size w0 w' →
  (∀ e ∈ o.after,Region.binds .any e=true→∀ (oe:Oper) (te:Nat),ops[e.on]?=some oe→oe.dst=some te→te ≠ tA→F te (v te) w') →
  wpOp P ops Q i (fun a'' w''=>∃ x,a''=(putAll a l v).put (some t) x∧Below w'.heap.size w' w''∧F t x w'') (putAll a l v) w')
 (hstore:∀ (v:Nat→Value) (w':World) (g:Nat),Below w0.heap.size w0 w'→v tA=.pointer (some ⟨g,0,none⟩)→BoxAt T w' g zs →
  (∀ e ∈ os.after,Region.binds .any e=true→∀ (oe:Oper) (te:Nat),ops[e.on]?=some oe→oe.dst=some te→te ≠ tA→F te (v te) w') →
  os.wp P (putAll a l v) w' (fun a'' w''=>a''=putAll a l v∧Only g w' w''∧∃ cs',BoxAt T w'' g cs'∧Fst cs' w'') Q)
 (hfst:∀ cs w w',Fst cs w→Below w.heap.size w w'→Fst cs w')
 (hend:∀ (v:Nat→Value) (w':World) (g:Nat) (cs:Array Value),Below w0.heap.size w0 w'→(∀ (i:Nat) (o:Oper) (t:Nat),ops[i]?=some o→o.dst=some t→t ≠ tA→F t (v t) w')→v tA=.pointer (some ⟨g,0,none⟩)→w0.heap.size≤g→BoxAt T w' g cs→Fst cs w'→Q .normal (putAll a l v) w') :
 (Code.region id ops true).wp P Q a w0:=by
 have hmem:∀ {i:Nat} {o:Oper} {t:Nat},ops[i]?=some o→o.dst=some t→t ∈ l:=fun {i o t} h d=>by
  rw [← hl];exact List.mem_filterMap.2 ⟨o,List.mem_of_getElem? (by simpa using h),d⟩
 have hinj:∀ {i j:Nat} {oi oj:Oper} {t:Nat},ops[i]?=some oi→ops[j]?=some oj→oi.dst=some t→oj.dst=some t→i=j:=fun {i j oi oj t} h1 h2 d1 d2 =>
  once_of (l:=ops.toList) (by rw [hl];exact hn) (by simpa using h1) (by simpa using h2) d1 d2
 refine wp_region_inv l (JFlow ops w0 T zs ia is tA F Fst) hm hb ?_ ?_ ?_ ?_
 · refine ⟨(Below.refl _ _).drew,?_,?_,?_⟩
   · intro i o t _ _ _ h;exact absurd (show false=true from h) (by decide)
   · intro h;exact absurd (show false=true from h) (by decide)
   · intro h;exact absurd (show false=true from h) (by decide)
 · intro D D' v w hD h
   obtain ⟨h0,h1,h2,h3⟩:=h
   have lt_of:∀ {i:Nat} {o:Oper},ops[i]?=some o→i < ops.size:=fun {i o} h=>by
    rcases Nat.lt_or_ge i ops.size with k | k
    · exact k
    · rw [Array.getElem?_eq_none k] at h;cases h
   have e1:=hD ia (lt_of hoa)
   have e2:=hD is (lt_of hos)
   refine ⟨h0,fun i o t hi ht hne hd=>h1 i o t hi ht hne (by rw [hD i (lt_of hi)];exact hd),?_,?_⟩
   · rw [← e1,← e2];exact h2
   · rw [← e1,← e2];exact h3
 · intro i o D v w' ho hDi hall hJ
   obtain ⟨J0,J1,J2,J3⟩:=hJ
   by_cases hia:i=ia
   · subst hia
     rw [hoa] at ho
     cases ho
     have nis:¬ D is=true:=fun h=>by have:=J3 h;rw [hDi] at this;cases this
     refine wpOp_plain' hoa hga ?_
     unfold Oper.wp
     rw [halloc,Oper.upon_value,hda]
     have hbl:=(Below.refl w'.heap.size w').alloc (Nat.le_refl _) (.cells zs T)
     refine ⟨_,putAll_put _ _ _ _ _ hn (hmem hoa hda),J0.trans (hbl.mono J0.size),?_,?_,?_⟩
     · intro j oj t hj ht hne hd
       have hji:j ≠ i:=fun q=>hne (by subst q;rw [hoa] at hj;cases hj;rw [hda] at ht;cases ht;rfl)
       rw [upd_ne _ _ hji] at hd;rw [upd_ne _ _ hne]
       exact (hst t).1 _ _ _ (J1 j oj t hj ht hne hd) hbl
     · intro _
       refine ⟨w'.heap.size,zs,upd_same _ _ _,J0.size,⟨heap_alloc_new _ _,hzs⟩,fun h=>?_,fun _=>rfl⟩
       have:is ≠ i:=fun q=>by subst q;rw [hos] at hoa;cases hoa;rw [hds] at hda;cases hda
       rw [upd_ne _ _ this] at h
       exact absurd h nis
     · intro h
       have:is ≠ i:=fun q=>by subst q;rw [hos] at hoa;cases hoa;rw [hds] at hda;cases hda
       rw [upd_ne _ _ this] at h
       exact absurd h nis
   · cases hd:o.dst with
     | none =>
       have his:=hone i o ho hd
       subst his
       rw [hos] at ho
       cases ho
       obtain ⟨e,he,hbd,hon⟩:=hedge
       have hDa:D ia=true:=by rw [← hon];exact hall e he hbd
       obtain ⟨g,cs,p1,p2,p3,_,pz⟩:=J2 hDa
       obtain rfl:=pz hDi
       refine wpOp_plain' hos hgs ?_
       refine Oper.wp_mono ?_ (hstore v w' g J0 p1 p3 (fun e he hb' oe te h1 h2 h3=>J1 e.on oe te h1 h2 h3 (hall e he hb')))
       rintro a'' w'' ⟨rfl,ho2,cs',hB,hF⟩
       refine ⟨v,rfl,Below.only J0 p2 J0.size ho2,?_,?_,?_⟩
       · intro j oj t hj ht hne hd2
         have hji:j ≠ i:=fun q=>by subst q;rw [hos] at hj;cases hj;rw [hds] at ht;cases ht
         rw [upd_ne _ _ hji] at hd2
         exact (hst t).2 T _ _ _ _ _ (J1 j oj t hj ht hne hd2) p3 ho2
       · intro _
         exact ⟨g,cs',p1,p2,hB,fun _=>hF,fun q=>by rw [upd_same] at q;cases q⟩
       · intro _
         rw [upd_ne _ _ (Ne.symm hia)];exact hDa
     | some t =>
       have htA:t ≠ tA:=fun q=>hia (by subst q;exact hinj ho hoa hd hda)
       refine wpOp_mono ?_ (hval i o t v w' ho hia hd J0 (fun e he hb' oe te h1 h2 h3=>J1 e.on oe te h1 h2 h3 (hall e he hb')))
       rintro a'' w'' ⟨x,rfl,hbl,hF⟩
       have nis:is ≠ i:=fun q=>by subst q;rw [hos] at ho;cases ho;rw [hds] at hd;cases hd
       refine ⟨_,putAll_put _ _ _ _ _ hn (hmem ho hd),J0.trans (hbl.mono J0.size),?_,?_,?_⟩
       · intro j oj t' hj ht hne hd2
         by_cases hji:j=i
         · subst hji
           rw [ho] at hj
           cases hj
           rw [hd] at ht
           cases ht
           rw [upd_same]
           exact hF
         · rw [upd_ne _ _ hji] at hd2
           have htt:t' ≠ t:=fun q=>hji (by subst q;exact hinj hj ho ht hd)
           rw [upd_ne _ _ htt]
           exact (hst t').1 _ _ _ (J1 j oj t' hj ht hne hd2) hbl
       · intro h
         rw [upd_ne _ _ (Ne.symm hia)] at h
         obtain ⟨g,cs,p1,p2,p3,p4,pz⟩:=J2 h
         refine ⟨g,cs,by rw [upd_ne _ _ (Ne.symm htA)];exact p1,p2,p3.below hbl,fun h'=>?_,fun h'=>?_⟩
         · rw [upd_ne _ _ nis] at h'
           exact hfst _ _ _ (p4 h') hbl
         · rw [upd_ne _ _ nis] at h'
           exact pz h'
       · intro h
         rw [upd_ne _ _ nis] at h
         rw [upd_ne _ _ (Ne.symm hia)]
         exact J3 h
 · intro D v w' hall hJ
   obtain ⟨J0,J1,J2,J3⟩:=hJ
   have lt_of:∀ {i:Nat} {o:Oper},ops[i]?=some o→i < ops.size:=fun {i o} h=>by
    rcases Nat.lt_or_ge i ops.size with k | k
    · exact k
    · rw [Array.getElem?_eq_none k] at h;cases h
   obtain ⟨g,cs,p1,p2,p3,p4,_⟩:=J2 (hall ia (lt_of hoa))
   exact hend v w' g cs J0 (fun i o t hi ht hne=>J1 i o t hi ht hne (hall i (lt_of hi))) p1 p2 p3 (p4 (hall is (lt_of hos)))
end
end
end Go.Proofs.YtlpogecpdfdggaaGreat
