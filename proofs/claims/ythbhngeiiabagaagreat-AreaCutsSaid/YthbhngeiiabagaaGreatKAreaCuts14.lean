/- AreaCuts: part 14. -/
import Derived.Test.YthbhngeiiabagaaGreatKAreaCuts0
import Derived.Test.YthbhngeiiabagaaGreatKAreaCuts12
import Derived.Test.YthbhngeiiabagaaGreatKAreaCuts13
set_option linter.unusedVariables false
set_option maxRecDepth 100000
set_option maxHeartbeats 16000000
variable {w:Go.World}
variable {s_p t_p:Bool} {A_p B_p E_p F_p:Option Go.Addr} {n_p c_p m_p d_p i_p e_p j_p f_p:Nat}
variable {s_q t_q:Bool} {A_q B_q E_q F_q:Option Go.Addr} {n_q c_q m_q d_q i_q e_q j_q f_q:Nat}
variable {s_r t_r:Bool} {A_r B_r E_r F_r:Option Go.Addr} {n_r c_r m_r d_r i_r e_r j_r f_r:Nat}
namespace Go.Proofs.YthbhngeiiabagaaGreat
section
open Go Go.RowKit
theorem BoxAt.setq {T:TypeId} {g m:Nat} {M:List QV} (h:BoxAt T w g (qvs M).toArray) (hm:m < M.length) (q:QV) :
 BoxAt T (((w.setCell ⟨g,m*3,none⟩ (.bool q.s)).setCell ⟨g,m*3+1,none⟩ (.slice q.A q.n q.c)).setCell ⟨g,m*3+2,none⟩ (.slice q.B q.m q.d)) g (qvs (M.set m q)).toArray:=by
 refine ⟨?_,Qdv (QiB _)⟩
 have h0:=h.at_
 have e:((((qvs M).toArray.setIfInBounds (m*3) (.bool q.s)).setIfInBounds (m*3+1) (.slice q.A q.n q.c)).setIfInBounds (m*3+2) (.slice q.B q.m q.d))=(qvs (M.set m q)).toArray:=by
  apply Array.ext'
  simp only [List.setIfInBounds_toArray,List.toList_toArray]
  apply List.ext_getElem?
  intro j
  have hl:(qvs M).length=M.length*3:=Qas QdV M
  have:=Qiv QdV hm q j
  rw [show (qvs (M.set m q))[j]?=_ from this]
  simp only [List.getElem?_set,List.length_set,hl]
  by_cases h0:j=m*3
  · subst h0;rw [if_neg (by omega),if_neg (by omega),if_pos rfl,if_pos (by omega),if_pos (by omega),Nat.sub_self];rfl
  · by_cases h1:j=m*3+1
    · subst h1;rw [if_neg (by omega),if_pos rfl,if_pos (by omega),if_pos (by omega),Nat.add_sub_cancel_left];rfl
    · by_cases h2:j=m*3+2
      · subst h2;rw [if_pos rfl,if_pos (by omega),if_pos (by omega),Nat.add_sub_cancel_left];rfl
      · rw [if_neg (by omega),if_neg (by omega),if_neg (by omega),if_neg (by omega)];rfl
 have e2:=congrArg Array.toList e
 simp only [List.setIfInBounds_toArray,List.toList_toArray] at e2
 simp [World.setCell,Array.getElem?_modify,h0,e2]
theorem QoA {A:Option Addr} {n c k:Nat} {L:List QV} {l:List Rat} (hS:SV w A (qvs L)) (hE:EachQ w L l k) (hn:L.length=n) (hc:n≤c) (h63:n≤100000) (hk:1≤k) (hB:n*(k+2)≤40000):Calls Tryz.prog 39 #[.slice A n c] w (QbM w (QiL l) (n*(k+2)+1)):=by
 rcases Nat.eq_zero_or_pos n with h0 | h0
 · subst h0
   have:l=[]:=List.eq_nil_of_length_eq_zero (by rw [← hE.1,hn])
   subst this
   refine total_0.mono ?_
   rintro e w' ⟨s_r,A_r,n_r,c_r,B_r,m_r,d_r,e1,r2,hh⟩
   exact ⟨s_r,A_r,n_r,c_r,B_r,m_r,d_r,e1,r2.more (by omega),hh⟩
 · refine (QsW n hS hE hn h0 hc h63 hk hB).mono ?_
   rintro e w' ⟨s_r,A_r,n_r,c_r,B_r,m_r,d_r,e1,r2,hh⟩
   exact ⟨s_r,A_r,n_r,c_r,B_r,m_r,d_r,e1,r2.more (by omega),hh⟩
theorem onlyq (w:World) (g o:Nat) (a b c:Value):Only g w (((w.setCell ⟨g,o,none⟩ a).setCell ⟨g,o+1,none⟩ b).setCell ⟨g,o+2,none⟩ c):=(((Only.refl g w).setCell o a).setCell (o+1) b).setCell (o+2) c
theorem BoxAt.frz {T:TypeId} {g j:Nat} {cs:Array Value} (h:BoxAt T w g cs):w.frozen? ⟨g,j,none⟩=false:=frozen_of_row w g j _ _ h.at_
theorem QhX {α:Type} {M:List α} {m:Nat} (hm:m < M.length) (q:α):(M.set m q).take (m+1)=M.take m ++ [q]:=by
 rw [List.take_succ_eq_append_getElem (by rw [List.length_set];exact hm),List.getElem_set_self,List.take_set_of_le (Nat.le_refl _)]
theorem SNr.box {T T':TypeId} {base n k:Nat} {vs:List Value} {w w':World} {A:Option Addr} {cs:Array Value} (h:SNr T base n vs w A) (hB:BoxAt T' w k cs) (hne:T ≠ T' ∨ cs.size < vs.length) (ho:Only k w w'):SNr T base n vs w' A:=fun hn=>by
 obtain ⟨g,e,h1,h2⟩:=h hn
 obtain ⟨cs2,h3,h4,_⟩:=id h2
 exact ⟨g,e,h1,h2.rest (BoxAt.ne h3 hB (hne.imp id (fun q=>by omega))) ho⟩
theorem Qbm (W:World) (g k o p:Nat) (x y z:Value) (h:k ≠ g):(((W.setCell ⟨g,o,none⟩ x).setCell ⟨g,o+1,none⟩ y).setCell ⟨g,o+2,none⟩ z).cell? ⟨k,p,none⟩=W.cell? ⟨k,p,none⟩:=by
 rw [World.cell?_of_block (Below.heap_setCell _ _ _ _ h),World.cell?_of_block (Below.heap_setCell _ _ _ _ h),World.cell?_of_block (Below.heap_setCell _ _ _ _ h)]
def Qav {α:Type} (l:List α):List α:=l ++ l.take 1
theorem QbK {α:Type} (l:List α) (h:0 < l.length):(Qav l).length=l.length+1:=by unfold Qav;rw [List.length_append,List.length_take];omega
theorem Qeb {α:Type} {l:List α} {i:Nat} (h:i < l.length):(Qav l)[i]?=l[i]?:=by unfold Qav;rw [List.getElem?_append_left h]
theorem Each.ring {G:World→PV→Rat × Rat→Nat→Prop} {L:List PV} {l:List (Rat × Rat)} {k:Nat} (h:Each G w L l k):Each G w (Qav L) (Qav l) k:=by
 refine ⟨by unfold Qav;rw [List.length_append,List.length_append,List.length_take,List.length_take,h.1],fun i p u hp hu=>?_⟩
 unfold Qav at hp hu
 rcases Nat.lt_or_ge i L.length with hi | hi
 · rw [List.getElem?_append_left hi] at hp
   rw [List.getElem?_append_left (by rw [← h.1];exact hi)] at hu
   exact h.2 i p u hp hu
 · rw [List.getElem?_append_right hi] at hp
   rw [List.getElem?_append_right (by rw [← h.1];exact hi),← h.1] at hu
   rw [List.getElem?_take] at hp hu
   split at hp
   · rename_i q;rw [if_pos q] at hu;exact h.2 _ p u hp hu
   · cases hp
def Qra (u v:Rat × Rat):Rat:=u.1*v.2 - u.2*v.1
def QdK (l:List (Rat × Rat)):List Rat:=List.zipWith Qra (Qav l) (Qav l).tail
theorem Qhr {l:List (Rat × Rat)} {i:Nat} {u v:Rat × Rat} (hu:(Qav l)[i]?=some u) (hv:(Qav l)[i+1]?=some v):(QdK l)[i]?=some (Qra u v):=by
 unfold QdK
 rw [List.getElem?_zipWith,hu,List.getElem?_tail,hv]
theorem QgJ (l:List (Rat × Rat)):(QdK l).length=l.length:=by
 unfold QdK
 rw [List.length_zipWith,List.length_tail]
 rcases Nat.eq_zero_or_pos l.length with h | h
 · rw [List.length_eq_zero_iff] at h;subst h;rfl
 · rw [QbK l h];omega
theorem Qgo {α:Type} {l:List α} {m:Nat} {u:α} (h:l[m]?=some u):l.take (m+1)=l.take m ++ [u]:=by
 obtain ⟨hm,hv⟩:=List.getElem?_eq_some_iff.1 h
 rw [List.take_succ_eq_append_getElem hm,hv]
theorem BoxAt.q3 {T:TypeId} {g m:Nat} {M:List QV} {p:QV} (h:BoxAt T w g (qvs M).toArray) (hp:M[m]?=some p):E3x w g (m*3) p:=by
 have key:∀ j,j < 3→∀ u,p.cells[j]?=some u→w.cell? ⟨g,m*3+j,none⟩=some u:=fun j hj u hu=>by
  rw [cell_of_row w g (m*3+j) _ _ (0,0) h.at_,← hu,← Qci QdV hp hj];simp [qvs]
 exact ⟨h.lt,key 0 (by decide) _ rfl,key 1 (by decide) _ rfl,key 2 (by decide) _ rfl⟩
def Qcn (l:List (Rat × Rat)):Rat:=QiL (QdK l)*Rat.divInt 1 2
abbrev L_area1:List Nat:=[7,8,9,10,11,3,4]
def Qf8:Oper:=⟨some 7,.move (.tmp 0),22, "area.go:14",#[],none⟩
def QeF:Oper:=⟨some 8,.call ⟨.value (.func 36),#[.tmp 7],#[22]⟩,22, "area.go:14",#[⟨0,.data⟩],none⟩
def QfO:Oper:=⟨some 9,.move (.tmp 0),22, "area.go:14",#[],none⟩
def Qfd:Oper:=⟨some 10,.call ⟨.builtin Builtin.len,#[.tmp 9],#[22]⟩,3, "area.go:14",#[⟨2,.data⟩],none⟩
def QeX:Oper:=⟨some 11,.makeSlice 78 (.tmp 10) (.tmp 10),78, "area.go:14",#[⟨3,.data⟩,⟨3,.data⟩],none⟩
def Qe4:Oper:=⟨some 3,.assign (.tmp 8),22, "area.go:14",#[⟨1,.data⟩,⟨1,.chain⟩,⟨0,.phase⟩,⟨1,.phase⟩,⟨2,.textOnly .lateStores⟩,⟨3,.textOnly .lateStoresUnsure⟩,⟨4,.textOnly .lateStoresUnsure⟩],none⟩
def Qe9:Oper:=⟨some 4,.assign (.tmp 11),78, "area.go:14",#[⟨4,.data⟩,⟨5,.chain⟩,⟨0,.phase⟩,⟨1,.phase⟩,⟨2,.phase⟩,⟨3,.phase⟩,⟨4,.phase⟩,⟨5,.phase⟩],none⟩
theorem Qba {e:Operand→Value} {x0:Operand} {d:Option Tmp} {y:Nat} {pos:String} {af:Array Edge} {u0:Value} (h0:e x0=u0) (hf:e (.func 36)=.func (.func 36) #[] #[]) :
 (execOp e ⟨d,.call ⟨.value (.func 36),#[x0],#[22]⟩,y,pos,af,none⟩).run Tryz.prog w=.ok (.enter 36 #[u0]) w:=by
 go_simp
def Qnf (A:Option Addr) (n:Nat) (c:Nat) (base:Nat) (L:List PV) (sl:Nat):Value→World→Prop :=
 match sl with
 | 7=>fun x _=>x=Value.slice A n c
 | 8=>VSB (29) (base) (n) (n+min 1 n) (pvs (L ++ L.take 1))
 | 9=>fun x _=>x=Value.slice A n c
 | 10=>fun x _=>x=Value.int .i64 (n:Int)
 | 11=>VMK (27) ((qvs (List.replicate n zqv)).toArray) (n) (base)
 | 3=>VSB (29) (base) (n) (n+min 1 n) (pvs (L ++ L.take 1))
 | 4=>VMK (27) ((qvs (List.replicate n zqv)).toArray) (n) (base)
 | _=>fun _ _=>True
theorem Qja {id:Nat} {ac:Act} {Q:Exit→Act→World→Prop} {A:Option Addr} {n c base:Nat} {L:List PV}
 (hsz:11 < ac.tmps.size) (e0:ac.eval (.tmp 0)=Value.slice A n c) (hL:SV w A (pvs L)) (hn:L.length=n) (hm:n≤100000) (hnc:n≤c) (hbs:base≤w.heap.size)
 (hend:∀ (V:Nat→Value) (w':World),(VSB (29) (base) (n) (n+min 1 n) (pvs (L ++ L.take 1))) (V 3) w'→(VMK (27) ((qvs (List.replicate n zqv)).toArray) (n) (base)) (V 4) w'→Below w.heap.size w w'→Q .normal (Qam ac [7,8,9,10,11,3,4] V) w') :
 (Code.region id #[Qf8,QeF,QfO,Qfd,QeX,Qe4,Qe9] true).wp Tryz.prog Q ac w:=by
 have hnd:L_area1.Nodup:=by decide
 have G:∀ (sv:Nat→Value) (t:Nat),t ∈ L_area1→t≤11→(Qam ac L_area1 sv).eval (.tmp t)=sv t:=fun sv t ht h=>Qaz (t:=t) L_area1 ac hnd ht (Nat.lt_of_le_of_lt h hsz)
 have E0:∀ sv:Nat→Value,(Qam ac L_area1 sv).eval (.tmp 0)=Value.slice A n c:=fun sv=>(Qap (v:=sv) L_area1 ac (show 0 ∉ _ by decide)).trans e0
 have NE:∀ t:Nat,(True)→∀ p ∈ ([]:List QbU),t ≠ p.tA:=by
  intro t ht p hp
  cases hp
 refine QaB L_area1 ([]:List QbU) (Qnf A n c base L) (by kernel_rfl) (by kernel_rfl) rfl hnd ?_ ?_ ?_ ?_ ?_ ?_ ?_ ?_
 · intro p hp
   cases hp
 · intro p hp;cases hp
 · intro p hp;cases hp
 · intro i o h1 h2
   match i,h1 with
   | 0,h1=>cases h1;cases h2
   | 1,h1=>cases h1;cases h2
   | 2,h1=>cases h1;cases h2
   | 3,h1=>cases h1;cases h2
   | 4,h1=>cases h1;cases h2
   | 5,h1=>cases h1;cases h2
   | 6,h1=>cases h1;cases h2
   | i+7,h1=>cases h1
 · intro t
   unfold Qnf
   split <;> first | exact (QbF _).inn _ | exact (QbS _ _).inn _ | exact (Qct _ _).inn _ | exact (Qco _ _).inn _ | exact (QbO _ _).inn _ | exact (QbQ _ _ _).inn _ | exact (Qa4).inn _ | exact Qf2 _ _ _ _ _ _ (fun p hp=>by cases hp) | exact Qh5 _ _ _ _ _ (fun p hp=>by cases hp)
 · intro i o t sv w' ho hia hd J0 hf
   have hL:=hL.below J0
   match i,ho with
   | 0,ho =>
     obtain rfl:Qf8=o:=Option.some.inj ho
     cases hd
     refine Qaa (o:=Qf8) rfl rfl ?_
     unfold Oper.wp Qf8
     rw [Qaw (E0 sv),Oper.upon_value]
     exact ⟨_,rfl,Below.refl _ _,rfl⟩
   | 1,ho =>
     obtain rfl:QeF=o:=Option.some.inj ho
     cases hd
     have f7:sv 7=Value.slice A n c:=hf ⟨0,.data⟩ (by simp [QeF]) rfl _ 7 rfl rfl (NE _ (by decide))
     refine Qaa (o:=QeF) rfl rfl ?_
     unfold Oper.wp QeF
     rw [Qba ((G sv 7 (by decide) (by decide)).trans f7) rfl,Oper.upon_enter]
     refine (Qe1 hL hn hm hnc (Nat.le_trans hbs J0.size)).mono ?_
     rintro e w1 ⟨A_,c_,rfl,hq,hh⟩
     exact ⟨_,rfl,hh,A_,c_,rfl,hq⟩
   | 2,ho =>
     obtain rfl:QfO=o:=Option.some.inj ho
     cases hd
     refine Qaa (o:=QfO) rfl rfl ?_
     unfold Oper.wp QfO
     rw [Qaw (E0 sv),Oper.upon_value]
     exact ⟨_,rfl,Below.refl _ _,rfl⟩
   | 3,ho =>
     obtain rfl:Qfd=o:=Option.some.inj ho
     cases hd
     have f9:sv 9=Value.slice A n c:=hf ⟨2,.data⟩ (by simp [Qfd]) rfl _ 9 rfl rfl (NE _ (by decide))
     refine Qaa (o:=Qfd) rfl rfl ?_
     unfold Oper.wp Qfd
     rw [Qb9 ((G sv 9 (by decide) (by decide)).trans f9) ,Oper.upon_value]
     exact ⟨_,rfl,Below.refl _ _,rfl⟩
   | 4,ho =>
     obtain rfl:QeX=o:=Option.some.inj ho
     cases hd
     have f10:sv 10=Value.int .i64 (n:Int):=hf ⟨3,.data⟩ (by simp [QeX]) rfl _ 10 rfl rfl (NE _ (by decide))
     refine Qaa (o:=QeX) rfl rfl ?_
     unfold Oper.wp QeX
     rw [Ql2 ((G sv 10 (by decide) (by decide)).trans f10) ((G sv 10 (by decide) (by decide)).trans f10) hm,Oper.upon_value]
     exact ⟨_,rfl,(Below.refl _ _).alloc (Nat.le_refl _) _,_,rfl,made_q w' n base (Nat.le_trans hbs J0.size)⟩
   | 5,ho =>
     obtain rfl:Qe4=o:=Option.some.inj ho
     cases hd
     have f:=hf ⟨1,.data⟩ (by simp [Qe4]) rfl _ 8 rfl rfl (NE _ (by decide))
     refine Qaa (o:=Qe4) rfl rfl ?_
     unfold Oper.wp Qe4
     rw [Qbq (G sv 8 (by decide) (by decide)),Oper.upon_value]
     exact ⟨_,rfl,Below.refl _ _,f⟩
   | 6,ho =>
     obtain rfl:Qe9=o:=Option.some.inj ho
     cases hd
     have f:=hf ⟨4,.data⟩ (by simp [Qe9]) rfl _ 11 rfl rfl (NE _ (by decide))
     refine Qaa (o:=Qe9) rfl rfl ?_
     unfold Oper.wp Qe9
     rw [Qbq (G sv 11 (by decide) (by decide)),Oper.upon_value]
     exact ⟨_,rfl,Below.refl _ _,f⟩
   | i+7,ho=>cases ho
 · intro p hp os sv w' g hos J0 p1 p3 hf
   cases hp
 · intro sv w' J0 hF hB hap
   exact hend sv w'   (hF 5 _ 3 rfl rfl (NE _ (by decide))) (hF 6 _ 4 rfl rfl (NE _ (by decide))) J0
theorem QlV {A:Option Addr} {n c k:Nat} {L:List PV} {l:List (Rat × Rat)} (hL:SV w A (pvs L)) (hE:Each PV.PR w L l k) (hn:L.length=n) (hm:n≤1000) (hnc:n≤c) (h1:1≤k) (hk:k+k≤20000) (hB:n*(k+k+(k+k)+1+2)+2≤40000) :
 Calls Tryz.prog 14 #[.slice A n c] w (QbM w (Qcn l) (n*(k+k+(k+k)+1+2)+1+1)):=by
 have HN:=Lib.hid hn;have HB:=Lib.hid hB;have HL00:=Lib.hid hL;have E00:=Lib.hid hE;clear hB
 go_enter Tryz.func14,Tryz.ntmps14
 go_upto_region 1 with (fail)
 generalize hW:World.alloc _ _=W
 obtain ⟨hb,Z,hzW⟩:=Qbb hW;clear hW;replace hL:=hL.below hb
 replace hE:=hE.imp (fun p u h=>PR.below h hb)
 refine Qja (by simp) rfl hL hn (by omega) hnc (Nat.le_refl _) ?_
 intro V w1 hF3 hF4 hh
 obtain ⟨A1,c1,hv3,hR0⟩:=hF3
 obtain ⟨gP,hv4,hgP,hP0⟩:=hF4
 simp only [Qam,Act.put,List.setIfInBounds_toArray,List.set_cons_zero,List.set_cons_succ,hv3,hv4]
 clear hv3 hv4;replace hL:=hL.below hh
 replace hE:=hE.imp (fun p u h=>PR.below h hh)
 replace Z:=Z.below hh;replace hb:=Qaj hb hh
 have hgZ:w.heap.size < gP:=by omega
 rw [show n+min 1 n=(Qav L).length by unfold Qav;rw [List.length_append,List.length_take,hn,Nat.min_comm]]
 have HR1:Hid ((Qav L).length=n+min 1 n):=by show _=_;unfold Qav;rw [List.length_append,List.length_take,hn,Nat.min_comm]
 generalize hN1:(Qav L).length=N1 at HR1 ⊢
 have HR2:=Lib.hid hN1
 have HL0:Hid (SV w A (pvs L)):=HL00
 have E0:Hid (Each PV.PR w L l k):=E00
 clear hN1 hL hE
 go_wp2_with fail
 go_loopg [14] n (fun gk ix wr=>∃ (M:List QV) (m:Nat),Hid (gk+m=n)∧ix=.int .i64 (m:Int)∧Hid (M.length=n)∧BoxAt 27 wr gP (qvs M).toArray∧Hid (EachQ wr (M.take m) ((QdK l).take m) (k+k+(k+k)+1))∧SNr 29 W.heap.size n (pvs (Qav L)) wr A1∧B3 wr w.heap.size (.bool false) (.slice none 0 0) (.slice none 0 0)∧Below w.heap.size w wr)
 case atStart=>exact ⟨List.replicate n zqv,0,Nat.add_zero _,rfl,by show _=_;rw [List.length_replicate],hP0,⟨rfl,fun i p v h=>by cases h⟩,hR0,Z,hb⟩
 case round =>
  clear hP0 hR0
  obtain ⟨M,m,HG,rfl,HM,hP,HQ,hR,Z,hb⟩:=hrel
  by_cases hmn:m < n
  · have hmn':m < M.length:=by rw [HM.out];exact hmn
    obtain ⟨pm,hpm⟩:∃ pm,M[m]?=some pm:=⟨_,List.getElem?_eq_getElem hmn'⟩
    have HPM:=Lib.hid hpm
    have HL1:=Lib.hid hmn'
    have hixq:=idx_q (g:=gP) (n:=n) (c:=n) hmn
    obtain ⟨P,u,hP1,hu1,p⟩:=(E0.out.imp (fun p u h=>PR.below h hb)).at_ (i:=m) (by rw [HN.out];exact hmn)
    obtain ⟨Q,v,hP2,hu2,q⟩:=(E0.out.imp (fun p u h=>PR.below h hb)).ring.at_ (i:=m+1) (by have h:=HR1.out;have h2:=HR2.out;rw [h2,h];omega)
    have hv1:(Qav l)[m]?=some u:=by rw [Qeb (by rw [← E0.out.1,HN.out];exact hmn)];exact hu1
    obtain ⟨g0,o0,hix0,E,_⟩:=(HL0.out.below hb).pt hP1
    obtain ⟨g1,o1,hix1,E',o1_,hA1⟩:=(hR.sv (by omega)).pt hP2
    have hixa:∀ w',(Instr.indexAt 22 (.slice A n c) (.int .i64 (m:Int))).run Tryz.prog w'=.ok (.pointer (some ⟨g0,o0,none⟩)) w':=fun w'=>hix0 n c w' hmn
    have hixb:∀ w',(Instr.indexAt 22 (.slice A1 N1 c1) (.int .i64 ((m:Int)+1))).run Tryz.prog w'=.ok (.pointer (some ⟨g1,o1,none⟩)) w':=fun w'=>hix1 N1 c1 w' (by have:=HR1.out;omega)
    have hwr:IntKind.i64.wrap ((m:Int)+1)=(m:Int)+1:=IntWalk.i64_in _ (by omega)
    have hlt:(m:Int) < (n:Int):=by omega
    have HU:=Lib.hid hv1;have HV:=Lib.hid hu2
    obtain ⟨ux,uy⟩:=u
    obtain ⟨vx,vy⟩:=v
    obtain ⟨s_p,A_p,n_p,c_p,B_p,m_p,d_p,t_p,E_p,i_p,e_p,F_p,j_p,f_p⟩:=P
    obtain ⟨s_q,A_q,n_q,c_q,B_q,m_q,d_q,t_q,E_q,i_q,e_q,F_q,j_q,f_q⟩:=Q
    replace p:PR wr s_p A_p n_p c_p B_p m_p d_p t_p E_p i_p e_p F_p j_p f_p ux uy k:=p
    replace q:PR wr s_q A_q n_q c_q B_q m_q d_q t_q E_q i_q e_q F_q j_q f_q vx vy k:=q
    have hgg:g1 ≠ gP:=by
     obtain ⟨g2,e2,_,cs2,h3,_⟩:=hR (by omega)
     rw [hA1] at e2
     cases e2
     exact BoxAt.ne h3 hP (.inl (by decide))
    obtain ⟨e0,e1,e2,e3,e4,e5⟩:=E.all
    simp only at e0 e1 e2 e3 e4 e5
    clear hpm hP1 hP2 hu1 hu2 hix0 hix1 hA1 hv1 hmn' hmn
    go_upto_region 5 with (fail)
    replace HQ:=HQ.out
    have hx1:wr.heap.size ≠ gP:=by have:=hP.lt;omega
    generalize hW:World.alloc _ _=W2
    obtain ⟨hh,X,hzW2⟩:=QaD hW;clear hW;(try replace p:=p.below hh);(try replace q:=q.below hh);(try replace hP:=hP.below hh);(try replace HQ:=HQ.below hh);(try replace hR:=hR.below hh);(try replace Z:=Z.below hh)
    try replace E':=E'.below hh
    replace hb:=Qaj hb hh
    replace p:=p.below (Below.refl _ _).drew
    replace q:=q.below (Below.refl _ _).drew
    replace hP:=hP.below (Below.refl _ _).drew
    replace HQ:=HQ.below (Below.refl _ _).drew
    replace hR:=hR.below (Below.refl _ _).drew
    replace Z:=Z.below (Below.refl _ _).drew
    replace E':=E'.below (Below.refl _ _).drew
    replace X:=X.below (Below.refl _ _).drew
    replace hb:=hb.drew
    have hx2:g1 ≠ gP:=hgg
    go_region_held3 (fun w'=>w'.cell? ⟨wr.heap.size,0,none⟩=some (.bool s_p)∧w'.cell? ⟨wr.heap.size,1,none⟩=some (.slice A_p n_p c_p)∧w'.cell? ⟨wr.heap.size,2,none⟩=some (.slice B_p m_p d_p)∧w'.cell? ⟨wr.heap.size,3,none⟩=some (.bool t_p)∧w'.cell? ⟨wr.heap.size,4,none⟩=some (.slice E_p i_p e_p)∧w'.cell? ⟨wr.heap.size,5,none⟩=some (.slice F_p j_p f_p)∧w'.cell? ⟨g1,o1,none⟩=some (.bool s_q)∧w'.cell? ⟨g1,o1+1,none⟩=some (.slice A_q n_q c_q)∧w'.cell? ⟨g1,o1+2,none⟩=some (.slice B_q m_q d_q)∧w'.cell? ⟨g1,o1+3,none⟩=some (.bool t_q)∧w'.cell? ⟨g1,o1+4,none⟩=some (.slice E_q i_q e_q)∧w'.cell? ⟨g1,o1+5,none⟩=some (.slice F_q j_q f_q))
     (first | with_reducible exact ⟨X.c0,X.c1,X.c2,X.c3,X.c4,X.c5,E'.c0,E'.c1,E'.c2,E'.c3,E'.c4,E'.c5⟩ | with_reducible exact ⟨(Qbm _ _ _ _ _ _ _ _ hx1).trans X.c0,(Qbm _ _ _ _ _ _ _ _ hx1).trans X.c1,(Qbm _ _ _ _ _ _ _ _ hx1).trans X.c2,(Qbm _ _ _ _ _ _ _ _ hx1).trans X.c3,(Qbm _ _ _ _ _ _ _ _ hx1).trans X.c4,(Qbm _ _ _ _ _ _ _ _ hx1).trans X.c5,(Qbm _ _ _ _ _ _ _ _ hx2).trans E'.c0,(Qbm _ _ _ _ _ _ _ _ hx2).trans E'.c1,(Qbm _ _ _ _ _ _ _ _ hx2).trans E'.c2,(Qbm _ _ _ _ _ _ _ _ hx2).trans E'.c3,(Qbm _ _ _ _ _ _ _ _ hx2).trans E'.c4,(Qbm _ _ _ _ _ _ _ _ hx2).trans E'.c5⟩)
     (first
     | (go_at_call 37;(with_reducible refine (QeH p q hk h1 h1).mono ?_);rintro e w_r ⟨s_r,A_r,n_r,c_r,B_r,m_r,d_r,rfl,r,hh⟩
        (try replace p:=p.below hh);(try replace q:=q.below hh);(try replace hP:=hP.below hh);(try replace HQ:=HQ.below hh);(try replace hR:=hR.below hh);(try replace Z:=Z.below hh)
        try replace E':=E'.below hh
        (try replace X:=X.below hh);replace hb:=Qaj hb hh;have Eq:=hP.q3 HPM.out;obtain ⟨q0,q1,q2⟩:=Eq.all
        have qf0:=hP.frz (j:=m*3)
        have qf1:=hP.frz (j:=m*3+1)
        have qf2:=hP.frz (j:=m*3+2)))
    have ho:=onlyq w_r gP (m*3) (.bool s_r) (.slice A_r n_r c_r) (.slice B_r m_r d_r)
    have hP2:=hP.setq HL1.out (QV.mk s_r A_r n_r c_r B_r m_r d_r)
    replace r:=r.box hP ho
    replace HQ:=(HQ.box hP ho).push (p:=(QV.mk s_r A_r n_r c_r B_r m_r d_r)) r
    replace hR:=hR.box hP (.inl (by decide)) ho
    replace Z:B3 (((w_r.setCell ⟨gP,m*3,none⟩ (.bool s_r)).setCell ⟨gP,m*3+1,none⟩ (.slice A_r n_r c_r)).setCell ⟨gP,m*3+2,none⟩ (.slice B_r m_r d_r)) w.heap.size (.bool false) (.slice none 0 0) (.slice none 0 0):=(ho.block _ Z.lt (by omega)).trans Z
    replace hb:=Below.only hb (by omega) hb.size ho
    have hcr:(QdK l)[m]?=some (ux*vy - uy*vx):=Qhr HU.out HV.out
    rw [← Qgo hcr,← QhX HL1.out (QV.mk s_r A_r n_r c_r B_r m_r d_r)] at HQ
    clear hP ho Eq q0 q1 q2 qf0 qf1 qf2 E' X p q hcr
    generalize (((w_r.setCell ⟨gP,m*3,none⟩ (.bool s_r)).setCell ⟨gP,m*3+1,none⟩ (.slice A_r n_r c_r)).setCell ⟨gP,m*3+2,none⟩ (.slice B_r m_r d_r))=W3 at *
    go_wp2_with fail
    go_roundg (gk - 1)
    case measure=>have:=HG.out;omega
    case rel=>exact ⟨M.set m (QV.mk s_r A_r n_r c_r B_r m_r d_r),m+1,by have:=HG.out;show _=_;omega,by go_num,by show _=_;rw [List.length_set];exact HM.out,hP2,HQ,hR,Z,hb⟩
  · have hlt:¬ (m:Int) < (n:Int):=by omega
    obtain rfl:m=n:=by have:=HG.out;omega
    replace HQ:=HQ.out
    rw [List.take_of_length_le (by rw [HM.out];exact Nat.le_refl _),List.take_of_length_le (by rw [QgJ,← E0.out.1,HN.out];exact Nat.le_refl _)] at HQ
    have hPS:=hP.sv;have hB2:=HB.out
    have HK:Hid (m*((k+k+(k+k)+1)+2)+1≤40000):=by show _≤_;omega
    have HK2:Hid (1≤m*((k+k+(k+k)+1)+2)+1):=by show _≤_;omega
    clear hmn hR;have zf0:=Z.f0;have zf1:=Z.f1;have zf2:=Z.f2;obtain ⟨z0,z1,z2⟩:=Z.all
    go_wp2_with (first
     | (go_at_call 39;(with_reducible refine (QoA hPS HQ HM.out (Nat.le_refl _) (by omega) (by omega) (by have:=HK.out;omega)).mono ?_);rintro e w_x ⟨s_x,A_x,n_x,c_x,B_x,m_x,d_x,rfl,x,hh⟩
        (try replace Z:=Z.below hh);replace hb:=Qaj hb hh;have zf0:=Z.f0;have zf1:=Z.f1;have zf2:=Z.f2;obtain ⟨z0,z1,z2⟩:=Z.all)
     | (go_at_call 40;(with_reducible refine (rof_q 1 2 (by decide) (by decide) (by decide) (by decide) (by decide) _).mono ?_);rintro e w_y ⟨s_y,A_y,n_y,c_y,B_y,m_y,d_y,rfl,y,hh⟩
        (try replace Z:=Z.below hh);(try replace x:=x.below hh);replace hb:=Qaj hb hh;have zf0:=Z.f0;have zf1:=Z.f1;have zf2:=Z.f2;obtain ⟨z0,z1,z2⟩:=Z.all)
     | (go_at_call 38;(with_reducible refine (Qhe x.qr y.qr HK.out (by decide) (.inl HK.out) HK2.out (by decide)).mono ?_);rintro e w_r ⟨s_r,A_r,n_r,c_r,B_r,m_r,d_r,rfl,r,hh⟩
        (try replace Z:=Z.below hh);replace hb:=Qaj hb hh;have zf0:=Z.f0;have zf1:=Z.f1;have zf2:=Z.f2;obtain ⟨z0,z1,z2⟩:=Z.all))
    have Z2:=Z.set3 (.bool s_r) (.slice A_r n_r c_r) (.slice B_r m_r d_r)
    obtain ⟨g0,g1,g2⟩:=Z2.all
    refine bodyPost_ret (v:=.agg #[.bool s_r,.slice A_r n_r c_r,.slice B_r m_r d_r]) (by simp [results,Tryz.results14,go_sem,g0,g1,g2]) rfl ?_
    exact ⟨s_r,A_r,n_r,c_r,B_r,m_r,d_r,rfl,r.set3 Z _ _ _,Qao hb (Nat.le_refl _) _ _ _⟩
end
section
theorem tri (a b:Rat):a < b ∨ a=b ∨ b < a:=by grind
def crs (a b c d:Rat):Rat:=a*d - b*c
def Qj7 (a b c d:Rat):Rat:=a*c+b*d
def Qcd (a b c d:Rat):Prop:=0 < crs a b c d ∨ (crs a b c d=0∧0 < Qj7 a b c d)
def UpJ (ax ay bx by_:Rat):Prop:=0≤crs ax ay bx by_∧(ay=0→by_=0→0 < bx→0 < ax)
theorem Qiy {a b c d:Rat} (h:Qcd a b c d):0≤crs a b c d:=by
 rcases h with h | h
 · exact Rat.le_of_lt h
 · rw [h.1];exact Rat.le_refl
theorem Qir {a b c d:Rat} (h:Qcd a b c d):¬ (a=0∧b=0):=by
 rintro ⟨rfl,rfl⟩
 unfold Qcd crs Qj7 at h
 grind
theorem Qp6 {a b c d:Rat} (h:Qcd a b c d):¬ (c=0∧d=0):=by
 rintro ⟨rfl,rfl⟩
 unfold Qcd crs Qj7 at h
 grind
theorem Qcs {x u:Rat} (hu:0 < u) (h:0 < x*u):0 < x:=by
 refine Rat.not_le.1 fun q=>?_
 have:=Rat.mul_nonneg (show 0≤-x by grind) (Rat.le_of_lt hu)
 grind
theorem QrT {ax ay bx by_:Rat} (h:Qcd ax ay bx by_):UpJ ax ay bx by_:=by
 refine ⟨Qiy h,fun ha hb hx=>?_⟩
 subst ha hb
 unfold Qcd crs Qj7 at h
 exact Qcs hx (by grind)
theorem QpE {ax ay bx by_ cx cy:Rat} (ha:0≤ay) (hb:0≤by_) (hc:0≤cy) (h:UpJ ax ay bx by_) (hl:Qcd bx by_ cx cy):UpJ ax ay cx cy:=by
 have h1:=h.1;have h2:=Qiy hl
 refine ⟨?_,fun qa qc qx=>?_⟩
 · by_cases qb:by_=0
   · subst qb
     rcases tri bx 0 with q | q | q
     · have hcy : cy = 0 := by
         have:=Rat.mul_nonneg (show 0≤-bx by grind) hc
         have e:bx*cy=0:=by unfold crs at h2;grind
         rcases Rat.mul_eq_zero.1 e with e | e
         · grind
         · exact e
       subst hcy
       have hcx:0 < -cx:=by
        refine Qcs (show 0 < -bx by grind) ?_
        unfold Qcd crs Qj7 at hl;grind
       have:=Rat.mul_nonneg ha (Rat.le_of_lt hcx)
       unfold crs;grind
     · exact absurd ⟨q,rfl⟩ (Qir hl)
     · have hay : ay = 0 := by
         have:=Rat.mul_nonneg ha (Rat.le_of_lt q)
         have e:ay*bx=0:=by unfold crs at h1;grind
         rcases Rat.mul_eq_zero.1 e with e | e
         · exact e
         · grind
       have:=Rat.mul_nonneg (Rat.le_of_lt (h.2 hay rfl q)) hc
       unfold crs;rw [hay];grind
   · refine Qda (u:=by_) (by grind) ?_
     have e1:=Rat.mul_nonneg h1 hc;have e2:=Rat.mul_nonneg h2 ha
     have e:crs ax ay cx cy*by_=crs ax ay bx by_*cy+crs bx by_ cx cy*ay:=by unfold crs;grind
     rw [e];grind
 · subst qc
   have hby:by_=0:=by
    have e1:=Rat.mul_nonneg hb (Rat.le_of_lt qx)
    have e:by_*cx=0:=by unfold crs at h2;grind
    rcases Rat.mul_eq_zero.1 e with e | e
    · exact e
    · grind
   subst hby
   exact h.2 qa rfl (by
    refine Qcs qx ?_
    unfold Qcd crs Qj7 at hl;grind)
theorem Qmt {ax ay bx by_ cx cy:Rat} (ha:ay < 0) (hb:by_ < 0) (hc:cy < 0) (h1:0≤crs ax ay bx by_) (h2:0≤crs bx by_ cx cy):0≤crs ax ay cx cy:=by
 refine Qda (u:=-by_) (by grind) ?_
 have e1:=Rat.mul_nonneg h1 (show 0≤-cy by grind)
 have e2:=Rat.mul_nonneg h2 (show 0≤-ay by grind)
 have e:crs ax ay cx cy*-by_=crs ax ay bx by_*-cy+crs bx by_ cx cy*-ay:=by unfold crs;grind
 rw [e];grind
theorem QrE {dx dy ax ay bx by_:Rat} (hd:0≤dy) (ha:ay < 0) (hb:by_ < 0) (h:0≤crs ax ay bx by_) (hn:crs dx dy ax ay≤0):crs dx dy bx by_≤0:=by
 have:0≤-crs dx dy bx by_:=by
  refine Qda (u:=-ay) (by grind) ?_
  have e1:=Rat.mul_nonneg hd h
  have e2:=Rat.mul_nonneg (show 0≤-crs dx dy ax ay by grind) (show 0≤-by_ by grind)
  have e:-crs dx dy bx by_*-ay=dy*crs ax ay bx by_+-crs dx dy ax ay*-by_:=by unfold crs;grind
  rw [e];grind
 grind
theorem Qnl {dx dy ax ay bx by_:Rat} (hd:dy < 0) (ha:0≤ay) (hb:0≤by_) (hz:¬ (bx=0∧by_=0)) (h:UpJ ax ay bx by_) (hn:crs dx dy ax ay < 0):crs dx dy bx by_≤0:=by
 by_cases qa:ay=0
 · subst qa
   have hax:0 < -ax:=by
    refine Qcs (show 0 < -dy by grind) ?_
    unfold crs at hn;grind
   have h1:=h.1
   have hby:by_=0:=by
    have:=Rat.mul_nonneg (Rat.le_of_lt hax) hb
    have e:ax*by_=0:=by unfold crs at h1;grind
    rcases Rat.mul_eq_zero.1 e with e | e
    · grind
    · exact e
   subst hby
   have hbx:¬ 0 < bx:=fun q=>by
    have:=h.2 rfl rfl q
    grind
   have:=Rat.mul_nonneg (show 0≤-bx by grind) (show 0≤-dy by grind)
   unfold crs;grind
 · have : 0 ≤ -crs dx dy bx by_ := by
     refine Qda (u:=ay) (by grind) ?_
     have e1:=Rat.mul_nonneg (show 0≤-dy by grind) h.1
     have e2:=Rat.mul_nonneg (show 0≤-crs dx dy ax ay by grind) hb
     have e:-crs dx dy bx by_*ay=-dy*crs ax ay bx by_+-crs dx dy ax ay*by_:=by unfold crs;grind
     rw [e];grind
   grind
section
variable {n:Nat} {x y:Nat→Rat}
def dd (x:Nat→Rat) (k:Nat):Rat:=x (k+1) - x k
def Qc4 (x y:Nat→Rat) (k:Nat):Prop:=Qcd (dd x k) (dd y k) (dd x (k+1)) (dd y (k+1))
def QaG (x y:Nat→Rat) (i k:Nat):Rat:=crs (dd x i) (dd y i) (x k - x i) (y k - y i)
theorem QcS (hx:∀ k,x (k+n)=x k) (k:Nat):dd x (k+n)=dd x k:=by
 unfold dd
 rw [show k+n+1=(k+1)+n by omega,hx,hx]
theorem Qsn (hx:∀ k,x (k+n)=x k) (k m:Nat):x (k+n*m)=x k:=by
 induction m with
 | zero=>rfl
 | succ m ih=>rw [Nat.mul_succ,← Nat.add_assoc,hx,ih]
theorem Qcu (hx:∀ k,x (k+n)=x k) (k:Nat):x (k % n)=x k:=by
 rw [← Qsn hx (k % n) (k / n),Nat.mod_add_div]
theorem QdM (hx:∀ k,x (k+n)=x k) {k l:Nat} (h:k % n=l % n):x k=x l:=by rw [← Qcu hx k,← Qcu hx l,h]
theorem rep {n:Nat} (hn:0 < n) (lo k:Nat):∃ l,lo≤l∧l < lo+n∧l % n=k % n:=by
 refine ⟨lo+(k+n*lo - lo) % n,by omega,by have:=Nat.mod_lt (k+n*lo - lo) hn;omega,?_⟩
 have h:lo≤n*lo:=Nat.le_mul_of_pos_left lo hn
 rw [Nat.add_mod,Nat.mod_mod,← Nat.add_mod,show lo+(k+n*lo - lo)=k+n*lo by omega,Nat.add_mul_mod_self_left]
theorem QdR (hm:∀ k,k+1 < n→dd y k < 0→dd y (k+1) < 0) {k l:Nat} (h:k≤l) (hl:l < n) (hk:dd y k < 0):dd y l < 0:=by
 induction l with
 | zero=>rwa [show k=0 by omega] at hk
 | succ l ih =>
   rcases Nat.lt_or_ge k (l+1) with q | q
   · exact hm l hl (ih (by omega) (by omega))
   · rwa [show k=l+1 by omega] at hk
theorem QkO (hL:∀ k,Qc4 x y k) (hm:∀ k,k+1 < n→dd y k < 0→dd y (k+1) < 0) {k l:Nat} (h:k < l) (hl:l < n) (hd:¬ dd y l < 0):UpJ (dd x k) (dd y k) (dd x l) (dd y l):=by
 induction l with
 | zero=>omega
 | succ l ih =>
   rcases Nat.lt_or_ge k l with q | q
   · have h1:¬ dd y l < 0:=fun e=>hd (hm l hl e)
     have h2:¬ dd y k < 0:=fun e=>h1 (QdR hm (by omega) (by omega) e)
     exact QpE (Rat.not_lt.1 h2) (Rat.not_lt.1 h1) (Rat.not_lt.1 hd) (ih q (by omega) h1) (hL l)
   · rw [show k=l by omega];exact QrT (hL l)
theorem Qg4 (hL:∀ k,Qc4 x y k) (hm:∀ k,k+1 < n→dd y k < 0→dd y (k+1) < 0) {k l:Nat} (h:k < l) (hl:l < n) (hd:dd y k < 0):0≤crs (dd x k) (dd y k) (dd x l) (dd y l):=by
 induction l with
 | zero=>omega
 | succ l ih =>
   rcases Nat.lt_or_ge k l with q | q
   · exact Qmt hd (QdR hm (by omega) (by omega) hd) (QdR hm (by omega) hl hd) (ih q (by omega)) (Qiy (hL l))
   · rw [show k=l by omega];exact Qiy (hL l)
theorem Qpg (a b c d:Rat):crs c d a b=-crs a b c d:=by unfold crs;grind
theorem Qny (hx:∀ k,x (k+n)=x k) (hy:∀ k,y (k+n)=y k) (hL:∀ k,Qc4 x y k) (hm:∀ k,k+1 < n→dd y k < 0→dd y (k+1) < 0) {i k l:Nat} (hi:i < n) (h1:i < k) (h2:k < l) (h3:l < i+n)
 (h:crs (dd x i) (dd y i) (dd x k) (dd y k) < 0):crs (dd x i) (dd y i) (dd x l) (dd y l)≤0:=by
 have back:∀ j,n≤j→j < i+n→(dd y i < 0→dd y (j - n) < 0)→crs (dd x i) (dd y i) (dd x j) (dd y j)≤0:=fun j hj hj2 hd=>by
  obtain ⟨m,rfl⟩:∃ m,j=m+n:=⟨j - n,by omega⟩
  rw [QcS hx,QcS hy,Qpg (dd x m) (dd y m)]
  rw [show m+n - n=m by omega] at hd
  by_cases q:dd y i < 0
  · have:=Qg4 hL hm (show m < i by omega) hi (hd q)
    grind
  · have:=(QkO hL hm (show m < i by omega) hi q).1
    grind
 by_cases di:dd y i < 0
 · by_cases hkn:k < n
   · have:=Qg4 hL hm h1 hkn di
     grind
   · by_cases dl:dd y (l - n) < 0
     · exact back l (by omega) h3 (fun _=>dl)
     · obtain ⟨m,rfl⟩:∃ m,l=m+n:=⟨l - n,by omega⟩
       obtain ⟨j,rfl⟩:∃ j,k=j+n:=⟨k - n,by omega⟩
       rw [show m+n - n=m by omega] at dl
       rw [QcS hx,QcS hy] at h ⊢
       have dj:¬ dd y j < 0:=fun e=>dl (QdR hm (by omega) (by omega) e)
       exact Qnl di (Rat.not_lt.1 dj) (Rat.not_lt.1 dl) (Qir (hL m)) (QkO hL hm (by omega) (by omega) dl) h
 · by_cases hln:l < n
   · by_cases dk:dd y k < 0
     · have dl:=QdR hm (Nat.le_of_lt h2) hln dk
       exact QrE (Rat.not_lt.1 di) dk dl (Qg4 hL hm h2 hln dk) (Rat.le_of_lt h)
     · have:=(QkO hL hm h1 (by omega) dk).1
       grind
   · exact back l (by omega) h3 (fun e=>absurd e di)
theorem Qkd {c F:Nat→Rat} (hF:∀ k,F (k+1)=F k+c k) {a m:Nat} (h:∀ j,j < m→0≤c (a+j)):F a≤F (a+m)∧(F (a+m)=F a→∀ j,j < m→c (a+j)=0):=by
 induction m with
 | zero=>exact ⟨Rat.le_refl,fun _ j hj=>absurd hj (by omega)⟩
 | succ m ih =>
   obtain ⟨i1,i2⟩:=ih (fun j hj=>h j (by omega))
   have h1:=h m (by omega)
   have h2:F (a+(m+1))=F (a+m)+c (a+m):=hF (a+m)
   refine ⟨by grind,fun e j hj=>?_⟩
   rcases Nat.lt_or_ge j m with q | q
   · exact i2 (by grind) j q
   · rw [show j=m by omega];grind
theorem Qpb {c F:Nat→Rat} (hF:∀ k,F (k+1)=F k+c k) {a m:Nat} (h:∀ j,j < m→c (a+j)≤0):F (a+m)≤F a∧(F (a+m)=F a→∀ j,j < m→c (a+j)=0):=by
 have:=Qkd (c:=fun k=>-c k) (F:=fun k=>-F k) (fun k=>by have:=hF k;grind) (a:=a) (m:=m) (fun j hj=>by have:=h j hj;grind)
 refine ⟨by have:=this.1;grind,fun e j hj=>?_⟩
 have:=this.2 (by rw [e]) j hj
 grind
theorem hump {c F:Nat→Rat} (hF:∀ k,F (k+1)=F k+c k) {a m:Nat} (h0:F a=0) (h1:F (a+m)=0) (ht:∀ j k,j < k→k < m→c (a+j) < 0→c (a+k)≤0) {k:Nat} (hk:k≤m) :
 0≤F (a+k)∧(F (a+k)=0→(∀ j,j < k→c (a+j)=0) ∨ (∀ j,k≤j→j < m→c (a+j)=0)):=by
 by_cases hneg:∃ j,j < k∧c (a+j) < 0
 · obtain ⟨j0,hj0,hn⟩:=hneg
   have:=Qpb hF (a:=a+k) (m:=m - k) (fun j hj=>by
    have:=ht j0 (k+j) (by omega) (by omega) hn
    rwa [← Nat.add_assoc] at this)
   rw [show a+k+(m - k)=a+m by omega,h1] at this
   refine ⟨this.1,fun e=>.inr fun j h2 h3=>?_⟩
   have:=this.2 e.symm (j - k) (by omega)
   rwa [show a+k+(j - k)=a+j by omega] at this
 · have:=Qkd hF (a:=a) (m:=k) (fun j hj=>Rat.not_lt.1 fun e=>hneg ⟨j,hj,e⟩)
   rw [h0] at this
   exact ⟨this.1,fun e=>.inl (this.2 e)⟩
theorem QcL {a b c d:Rat} (hz:¬ (a=0∧b=0)) (h:crs a b c d=0):∃ t,c=t*a∧d=t*b:=by
 unfold crs at h
 by_cases ha:a=0
 · subst ha
   have hb:b ≠ 0:=fun e=>hz ⟨rfl,e⟩
   have e:d / b*b=d:=Rat.div_mul_cancel hb
   refine ⟨d / b,?_,e.symm⟩
   have:b*c=0:=by grind
   rcases Rat.mul_eq_zero.1 this with q | q
   · exact absurd q hb
   · grind
 · have e:c / a*a=c:=Rat.div_mul_cancel ha
   refine ⟨c / a,e.symm,?_⟩
   generalize c / a=t at e
   subst e
   have:a*(d - t*b)=0:=by grind
   rcases Rat.mul_eq_zero.1 this with q | q
   · exact absurd q ha
   · grind
theorem QlD {a b:Rat} (hz:¬ (a=0∧b=0)):0 < a*a+b*b:=by
 have ha:0≤a*a:=by
  rcases (Rat.le_total:0≤a ∨ a≤0) with q | q
  · exact Rat.mul_nonneg q q
  · have:=Rat.mul_nonneg (show 0≤-a by grind) (show 0≤-a by grind);grind
 have hb:0≤b*b:=by
  rcases (Rat.le_total:0≤b ∨ b≤0) with q | q
  · exact Rat.mul_nonneg q q
  · have:=Rat.mul_nonneg (show 0≤-b by grind) (show 0≤-b by grind);grind
 refine Rat.not_le.1 fun q=>hz ⟨?_,?_⟩
 · have e:a*a=0:=by grind
   rcases Rat.mul_eq_zero.1 e with e | e <;> exact e
 · have e:b*b=0:=by grind
   rcases Rat.mul_eq_zero.1 e with e | e <;> exact e
theorem QoV {a b c d t:Rat} (ht:0 < t) (hl:Qcd (t*a) (t*b) c d) (h:crs a b c d=0):∃ s,0 < s∧c=s*a∧d=s*b:=by
 have hz:¬ (a=0∧b=0):=fun ⟨e1,e2⟩=>Qir hl ⟨by rw [e1,Rat.mul_zero],by rw [e2,Rat.mul_zero]⟩
 obtain ⟨s,rfl,rfl⟩:=QcL hz h
 refine ⟨s,?_,rfl,rfl⟩
 have hp:=QlD hz
 have:0 < s*(t*(a*a+b*b)):=by
  unfold Qcd crs Qj7 at hl
  unfold crs at h
  grind
 exact Qcs (Rat.mul_pos ht hp) this
theorem Qoa {a b c d t:Rat} (ht:0 < t) (hl:Qcd c d (t*a) (t*b)) (h:crs a b c d=0):∃ s,0 < s∧c=s*a∧d=s*b:=by
 have hz:¬ (a=0∧b=0):=fun ⟨e1,e2⟩=>Qp6 hl ⟨by rw [e1,Rat.mul_zero],by rw [e2,Rat.mul_zero]⟩
 obtain ⟨s,rfl,rfl⟩:=QcL hz h
 refine ⟨s,?_,rfl,rfl⟩
 have hp:=QlD hz
 have:0 < s*(t*(a*a+b*b)):=by
  unfold Qcd crs Qj7 at hl
  unfold crs at h
  grind
 exact Qcs (Rat.mul_pos ht hp) this
theorem Qll (hL:∀ k,Qc4 x y k) {i m:Nat} (h:∀ j,j < m→crs (dd x i) (dd y i) (dd x (i+1+j)) (dd y (i+1+j))=0) :
 (∃ t,0 < t∧dd x (i+m)=t*dd x i∧dd y (i+m)=t*dd y i)∧∃ s,0≤s∧x (i+1+m)=x (i+1)+s*dd x i∧y (i+1+m)=y (i+1)+s*dd y i:=by
 induction m with
 | zero=>exact ⟨⟨1,by decide,by rw [Nat.add_zero];grind,by rw [Nat.add_zero];grind⟩,0,Rat.le_refl,by rw [Nat.add_zero];grind,by rw [Nat.add_zero];grind⟩
 | succ m ih =>
   obtain ⟨⟨t,ht,e1,e2⟩,s,hs,e3,e4⟩:=ih (fun j hj=>h j (by omega))
   have hl:=hL (i+m)
   unfold Qc4 at hl
   rw [e1,e2] at hl
   obtain ⟨r,hr,e5,e6⟩:=QoV ht hl (by have:=h m (by omega);rwa [show i+1+m=i+m+1 by omega] at this)
   refine ⟨⟨r,hr,e5,e6⟩,s+r,by grind,?_,?_⟩
   · have e:dd x (i+m+1)=x (i+1+(m+1)) - x (i+1+m):=by unfold dd;congr 2 <;> omega
     grind
   · have e:dd y (i+m+1)=y (i+1+(m+1)) - y (i+1+m):=by unfold dd;congr 2 <;> omega
     grind
theorem QmI (hL:∀ k,Qc4 x y k) {e m:Nat} (hm:m≤e) (h:∀ j,e - m≤j→j < e→crs (dd x e) (dd y e) (dd x j) (dd y j)=0) :
 (∃ t,0 < t∧dd x (e - m)=t*dd x e∧dd y (e - m)=t*dd y e)∧∃ s,0≤s∧(0 < m→0 < s)∧x (e - m)=x e - s*dd x e∧y (e - m)=y e - s*dd y e:=by
 induction m with
 | zero=>exact ⟨⟨1,by decide,by rw [Nat.sub_zero];grind,by rw [Nat.sub_zero];grind⟩,0,Rat.le_refl,by omega,by rw [Nat.sub_zero];grind,by rw [Nat.sub_zero];grind⟩
 | succ m ih =>
   obtain ⟨⟨t,ht,e1,e2⟩,s,hs,_,e3,e4⟩:=ih (by omega) (fun j hj hj2=>h j (by omega) hj2)
   have hl:=hL (e - (m+1))
   unfold Qc4 at hl
   rw [show e - (m+1)+1=e - m by omega,e1,e2] at hl
   obtain ⟨r,hr,e5,e6⟩:=Qoa ht hl (h _ (Nat.le_refl _) (by omega))
   refine ⟨⟨r,hr,e5,e6⟩,s+r,by grind,fun _=>by grind,?_,?_⟩
   · have q:dd x (e - (m+1))=x (e - m) - x (e - (m+1)):=by unfold dd;congr 2;omega
     grind
   · have q:dd y (e - (m+1))=y (e - m) - y (e - (m+1)):=by unfold dd;congr 2;omega
     grind
def QsK (n:Nat) (x y:Nat→Rat) (i k:Nat):Prop:=0≤QaG x y i k∧(QaG x y i k=0 →
 (∃ s,0≤s∧x k=x (i+1)+s*dd x i∧y k=y (i+1)+s*dd y i) ∨ (∃ s,0≤s∧(k % n ≠ i % n→0 < s)∧x k=x i - s*dd x i∧y k=y i - s*dd y i))
theorem QjI (x y:Nat→Rat) (i k:Nat):QaG x y i (k+1)=QaG x y i k+crs (dd x i) (dd y i) (dd x k) (dd y k):=by unfold QaG crs dd;grind
theorem QpX (hx:∀ k,x (k+n)=x k) (hy:∀ k,y (k+n)=y k) (hL:∀ k,Qc4 x y k) (hm:∀ k,k+1 < n→dd y k < 0→dd y (k+1) < 0) {i k:Nat} (hi:i < n) (h1:i < k) (h2:k≤i+n):QsK n x y i k:=by
 have H:=hump (QjI x y i) (a:=i+1) (m:=n - 1) (by unfold QaG crs dd;grind) (by
  rw [show i+1+(n - 1)=i+n by omega];unfold QaG;rw [hx,hy];unfold crs;grind)
  (fun j k hj hk h=>Qny hx hy hL hm hi (by omega) (show i+1+j < i+1+k by omega) (by omega) h) (k:=k - (i+1)) (by omega)
 rw [show i+1+(k - (i+1))=k by omega] at H
 refine ⟨H.1,fun e=>?_⟩
 rcases H.2 e with q | q
 · obtain ⟨_,s,hs,e1,e2⟩:=Qll hL (i:=i) q
   rw [show i+1+(k - (i+1))=k by omega] at e1 e2
   exact .inl ⟨s,hs,e1,e2⟩
 · obtain ⟨_, s, hs, hp, e1, e2⟩ := QmI hL (e := i + n) (m := i + n - k) (by omega) (fun j hj hj2 => by
     have:=q (j - (i+1)) (by omega) (by omega)
     rw [show i+1+(j - (i+1))=j by omega] at this
     rwa [QcS hx,QcS hy])
   rw [show i+n - (i+n - k)=k by omega,QcS hx,hx,QcS hy,hy] at *
   refine .inr ⟨s,hs,fun hne=>hp ?_,e1,e2⟩
   rcases Nat.lt_or_ge k (i+n) with q | q
   · omega
   · rw [show k=i+n by omega,Nat.add_mod_right] at hne
     exact absurd rfl hne
end
section
variable {n:Nat} {x y:Nat→Rat}
structure Conv (n:Nat) (x y:Nat→Rat):Prop where
 three:3≤n
 apart:∀ i k,i < n→k < n→i ≠ k→¬ (x i=x k∧y i=y k)
 left:∀ i k,i < n→k < n→0≤QaG x y i k
 some:∃ i k,i < n∧k < n∧0 < QaG x y i k
def Qev (y:Nat→Rat) (k:Nat):Prop:=dd y k < 0∧¬ dd y (k+1) < 0
def lows (y:Nat→Rat):Nat→Nat
 | 0=>0
 | k+1=>lows y k+if dd y k < 0∧¬ dd y (k+1) < 0 then 1 else 0
theorem QjM {y:Nat→Rat} {m:Nat} (h:∀ k,k < m→¬ Qev y k):lows y m=0:=by
 induction m with
 | zero=>rfl
 | succ m ih =>
   have:=h m (by omega)
   unfold Qev at this
   rw [lows,ih (fun k hk=>h k (by omega)),if_neg this]
theorem Qqn {y:Nat→Rat} {m:Nat} (h:lows y m ≠ 0):∃ k,k < m∧Qev y k:=by
 refine Classical.byContradiction fun q=>h (QjM fun k hk e=>q ⟨k,hk,e⟩)
theorem Qfc {y:Nat→Rat} {m k:Nat} (h:m≤k):lows y m≤lows y k:=by
 induction k with
 | zero=>rw [show m=0 by omega];exact Nat.le_refl _
 | succ k ih =>
   rcases Nat.lt_or_ge m (k+1) with q | q
   · rw [lows];have:=ih (by omega);omega
   · rw [show m=k+1 by omega];exact Nat.le_refl _
theorem Qg8 {y:Nat→Rat} {k:Nat} (h:Qev y k):lows y (k+1)=lows y k+1:=by
 unfold Qev at h
 rw [lows,if_pos h]
theorem lows_one {y:Nat→Rat} {m:Nat}:lows y m=1 ↔ ∃ k,k < m∧Qev y k∧∀ l,l < m→Qev y l→l=k:=by
 constructor
 · intro h
   obtain ⟨k,hk,hl⟩:=Qqn (y:=y) (m:=m) (by omega)
   refine ⟨k,hk,hl,fun l hm he=>?_⟩
   rcases Nat.lt_trichotomy l k with q | q | q
   · have h1:=Qg8 he
     have h2:=Qfc (y:=y) (show l+1≤k by omega)
     have h3:=Qg8 hl
     have h4:=Qfc (y:=y) (show k+1≤m by omega)
     omega
   · exact q
   · have h1:=Qg8 hl
     have h2:=Qfc (y:=y) (show k+1≤l by omega)
     have h3:=Qg8 he
     have h4:=Qfc (y:=y) (show l+1≤m by omega)
     omega
 · rintro ⟨k,hk,hl,hu⟩
   have h1:lows y k=0:=QjM fun l h2 h3=>absurd (hu l (by omega) h3) (by omega)
   have h2:=Qg8 hl
   have:∀ m,k+1≤m→(∀ l,l < m→Qev y l→l=k)→lows y m=1:=by
    intro m
    induction m with
    | zero=>intro q;omega
    | succ m ih =>
      intro q hu
      rcases Nat.lt_or_ge k m with r | r
      · have h3:=ih (by omega) (fun l hl=>hu l (by omega))
        have h4:¬ Qev y m:=fun e=>absurd (hu m (by omega) e) (by omega)
        unfold Qev at h4
        rw [lows,h3,if_neg h4]
      · rw [show m=k by omega,h2,h1]
   exact this m (by omega) hu
theorem Qq2 (x:Nat→Rat) {m:Nat} (h:∀ k,k < m→0≤dd x k):x 0≤x m∧(x m=x 0→∀ k,k < m→dd x k=0):=by
 have:=Qkd (c:=fun k=>dd x k) (F:=x) (fun k=>by unfold dd;grind) (a:=0) (m:=m) (fun j hj=>by have:=h j hj;rwa [Nat.zero_add])
 rw [Nat.zero_add] at this
 exact ⟨this.1,fun e k hk=>by have:=this.2 e k hk;rwa [Nat.zero_add] at this⟩
theorem cone {ax ay bx by_ vx vy:Rat} (ha:ay < 0) (hb:0≤by_) (hl:Qcd ax ay bx by_) (h1:0≤crs ax ay vx vy) (h2:0≤crs bx by_ vx vy):0≤vy∧(vy=0→0≤vx):=by
 have hp:0 < crs ax ay bx by_:=by
  rcases hl with q | ⟨q1,q2⟩
  · exact q
  · exfalso
    have hz:¬ (ax=0∧ay=0):=fun e=>by rw [e.2] at ha;exact absurd ha (by decide)
    obtain ⟨t,rfl,rfl⟩:=QcL hz q1
    have ht:0 < t:=by
     refine Qcs (QlD hz) ?_
     unfold Qj7 at q2;grind
    have:=Rat.mul_pos ht (show 0 < -ay by grind)
    grind
 refine ⟨Qda hp ?_,fun e=>?_⟩
 · have e1:=Rat.mul_nonneg hb h1
   have e2:=Rat.mul_nonneg (show 0≤-ay by grind) h2
   have e:vy*crs ax ay bx by_=by_*crs ax ay vx vy+-ay*crs bx by_ vx vy:=by unfold crs;grind
   rw [e];grind
 · subst e
   refine Qda (show 0 < -ay by grind) ?_
   unfold crs at h1;grind
theorem QlK (hx:∀ k,x (k+n)=x k) (hy:∀ k,y (k+n)=y k) (i k:Nat):QaG x y (i % n) (k % n)=QaG x y i k:=by
 have e1:x (i % n+1)=x (i+1):=QdM hx (by rw [Nat.add_mod,Nat.mod_mod,← Nat.add_mod])
 have e2:y (i % n+1)=y (i+1):=QdM hy (by rw [Nat.add_mod,Nat.mod_mod,← Nat.add_mod])
 unfold QaG dd
 rw [e1,e2,Qcu hx,Qcu hx,Qcu hy,Qcu hy]
theorem Conv.left' (h:Conv n x y) (hx:∀ k,x (k+n)=x k) (hy:∀ k,y (k+n)=y k) (i k:Nat):0≤QaG x y i k:=by
 have hn:0 < n:=by have:=h.three;omega
 rw [← QlK hx hy]
 exact h.left _ _ (Nat.mod_lt _ hn) (Nat.mod_lt _ hn)
theorem Conv.apart' (h:Conv n x y) (hx:∀ k,x (k+n)=x k) (hy:∀ k,y (k+n)=y k) {i k:Nat} (hne:i % n ≠ k % n):¬ (x i=x k∧y i=y k):=by
 have hn:0 < n:=by have:=h.three;omega
 have:=h.apart _ _ (Nat.mod_lt i hn) (Nat.mod_lt k hn) hne
 rwa [Qcu hx,Qcu hx,Qcu hy,Qcu hy] at this
theorem QkU (hn:2≤n) (i:Nat):i % n ≠ (i+1) % n:=by
 intro e
 have h1:=Nat.mod_lt i (show 0 < n by omega)
 rw [Nat.add_mod] at e
 rw [Nat.mod_eq_of_lt (show 1 < n by omega)] at e
 rcases Nat.lt_or_ge (i % n+1) n with q | q
 · rw [Nat.mod_eq_of_lt q] at e;omega
 · rw [show i % n+1=n by omega,Nat.mod_self] at e;omega
theorem Conv.way_nz (h:Conv n x y) (hx:∀ k,x (k+n)=x k) (hy:∀ k,y (k+n)=y k) (i:Nat):¬ (dd x i=0∧dd y i=0):=by
 have:=h.apart' hx hy (QkU (by have:=h.three;omega) i)
 unfold dd
 rintro ⟨e1,e2⟩
 exact this ⟨by grind,by grind⟩
theorem QgP {a b c d e f:Rat} (hz:¬ (a=0∧b=0)) (h1:crs a b c d=0) (h2:crs a b e f=0):crs c d e f=0:=by
 obtain ⟨t,rfl,rfl⟩:=QcL hz h1
 obtain ⟨s,rfl,rfl⟩:=QcL hz h2
 unfold crs;grind
theorem Conv.off (h:Conv n x y) {a b ox oy:Rat} (hz:¬ (a=0∧b=0)) (hl:∀ k,crs a b (x k - ox) (y k - oy)=0):False:=by
 obtain ⟨i,k,_,_,hs⟩:=h.some
 have e1:=hl i
 have e2:=hl (i+1)
 have e3:=hl k
 have:QaG x y i k=0:=by
  unfold QaG
  refine QgP hz ?_ ?_
  · unfold dd;unfold crs at *;grind
  · unfold crs at *;grind
 rw [this] at hs
 exact absurd hs (by decide)
theorem Conv.turn (h:Conv n x y) (hx:∀ k,x (k+n)=x k) (hy:∀ k,y (k+n)=y k) (i:Nat):Qc4 x y i:=by
 have hc:crs (dd x i) (dd y i) (dd x (i+1)) (dd y (i+1))=QaG x y i (i+2):=by unfold QaG crs dd;grind
 have h0:=h.left' hx hy i (i+2)
 unfold Qc4 Qcd
 rw [hc]
 by_cases hz:QaG x y i (i+2)=0
 · right
   refine ⟨hz,Rat.not_le.1 fun q=>?_⟩
   rw [hz] at hc;have nz:=h.way_nz hx hy i
   obtain ⟨t,e1,e2⟩:=QcL nz hc
   have ht:t≤0:=by
    refine Rat.not_lt.1 fun r=>?_
    have:=Rat.mul_pos r (QlD nz)
    rw [e1,e2] at q
    unfold Qj7 at q;grind
   have ht:t < 0:=by
    rcases Rat.le_iff_lt_or_eq.1 ht with r | r
    · exact r
    · have:=h.way_nz hx hy (i+1)
      rw [e1,e2,r,Rat.zero_mul,Rat.zero_mul] at this
      exact absurd ⟨rfl,rfl⟩ this
   refine h.off nz (ox:=x i) (oy:=y i) fun k=>?_
   have h1:=h.left' hx hy i k
   have h2:=h.left' hx hy (i+1) k
   have e:QaG x y (i+1) k=t*QaG x y i k:=by
    have q1:x (i+1)=x i+dd x i:=by unfold dd;grind
    have q2:y (i+1)=y i+dd y i:=by unfold dd;grind
    unfold QaG
    rw [e1,e2,q1,q2]
    unfold crs;grind
   rw [e] at h2
   have h3:¬ 0 < QaG x y i k:=fun r=>by
    have:=Rat.mul_pos (show 0 < -t by grind) r
    grind
   show QaG x y i k=0
   grind
 · left;grind
theorem Conv.low (h:Conv n x y) (hx:∀ k,x (k+n)=x k) (hy:∀ k,y (k+n)=y k) {i:Nat} (hi:Qev y i) (k:Nat):y (i+1)≤y k∧(y k=y (i+1)→x (i+1)≤x k):=by
 have h1:=h.left' hx hy i k
 have h2:=h.left' hx hy (i+1) k
 have:=cone hi.1 (Rat.not_lt.1 hi.2) (h.turn hx hy i) (vx:=x k - x (i+1)) (vy:=y k - y (i+1)) (by
  have e:crs (dd x i) (dd y i) (x k - x (i+1)) (y k - y (i+1))=QaG x y i k:=by unfold QaG crs dd;grind
  rw [e];exact h1) h2
 exact ⟨by grind,fun e=>by have:=this.2 (by grind);grind⟩
theorem ex_min {P:Nat→Prop} (h:∃ k,P k):∃ k,P k∧∀ l,l < k→¬ P l:=by
 obtain ⟨k,hk⟩:=h
 have:∀ m k,k < m→P k→∃ k,P k∧∀ l,l < k→¬ P l:=by
  intro m
  induction m with
  | zero=>intro k hk;omega
  | succ m ih =>
    intro k hk hp
    by_cases q:∃ l,l < k∧P l
    · obtain ⟨l,hl,hp2⟩:=q;exact ih l (by omega) hp2
    · exact ⟨k,hp,fun l hl e=>q ⟨l,hl,e⟩⟩
 exact this (k+1) k (by omega) hk
theorem ceases {P:Nat→Prop} (hn:0 < n) (hp:∀ k,P (k+n) ↔ P k) {a b:Nat} (ha:P a) (hb:¬ P b):∃ k,k < n∧P k∧¬ P (k+1):=by
 have up:∀ m k,P (k+n*m) ↔ P k:=by
  intro m
  induction m with
  | zero=>intro k;exact Iff.rfl
  | succ m ih=>intro k;rw [Nat.mul_succ,← Nat.add_assoc,hp,ih]
 have hmod:∀ k,P (k % n) ↔ P k:=fun k=>by
  have:=up (k / n) (k % n)
  rw [Nat.mod_add_div] at this
  exact this.symm
 obtain ⟨c,hc1,hc2,hc3⟩:=rep hn a b
 have hc:¬ P c:=fun e=>hb ((hmod b).1 (by rw [← hc3];exact (hmod c).2 e))
 obtain ⟨k,hk,hmin⟩:=ex_min (P:=fun j=>¬ P (a+j)) ⟨c - a,by rwa [show a+(c - a)=c by omega]⟩
 obtain ⟨j,rfl⟩:∃ j,k=j+1:=by
  cases k with
  | zero=>exact absurd ha hk
  | succ j=>exact ⟨j,rfl⟩
 have hj:P (a+j):=Classical.byContradiction fun e=>hmin j (by omega) e
 refine ⟨(a+j) % n,Nat.mod_lt _ hn,(hmod _).2 hj,fun e=>hk ?_⟩
 refine (hmod _).1 ?_
 have q:(a+(j+1)) % n=((a+j) % n+1) % n:=by rw [Nat.add_mod ((a+j) % n),Nat.mod_mod,← Nat.add_mod,Nat.add_assoc]
 rw [q]
 exact (hmod _).2 e
theorem Conv.lows (h:Conv n x y) (hx:∀ k,x (k+n)=x k) (hy:∀ k,y (k+n)=y k):lows y n=1:=by
 have hn:0 < n:=by have:=h.three;omega
 have h2:2≤n:=by have:=h.three;omega
 -- some way goes down
 have hd:∃ k,dd y k < 0:=by
  refine Classical.byContradiction fun q=>?_
  have hz:=(Qq2 y (m:=n) (fun k _=>Rat.not_lt.1 fun e=>q ⟨k,e⟩)).2 (by have:=hy 0;rwa [Nat.zero_add] at this)
  have hall:∀ k,k < n→y k=y 0:=by
   intro k
   induction k with
   | zero=>intro _;rfl
   | succ k ih=>intro hk;have e:=hz k (by omega);have:=ih (by omega);unfold dd at e;grind
  refine h.off (a:=1) (b:=0) (ox:=0) (oy:=y 0) (fun e=>absurd e.1 (by decide)) fun k=>?_
  rw [← Qcu hy k,hall _ (Nat.mod_lt _ hn)]
  unfold crs;grind
 have hu:∃ k,¬ dd y k < 0:=by
  refine Classical.byContradiction fun q=>?_
  have hall:∀ k,dd y k < 0:=fun k=>Classical.byContradiction fun e=>q ⟨k,e⟩
  have:=Qq2 (fun k=>-y k) (m:=n) (fun k _=>by have:=hall k;unfold dd at *;grind)
  have h0:=this.2 (by have:=hy 0;rw [Nat.zero_add] at this;rw [this]) 0 hn
  have:=hall 0
  unfold dd at *;grind
 obtain ⟨a,ha⟩:=hd
 obtain ⟨b,hb⟩:=hu
 obtain ⟨k,hk,h3,h4⟩:=ceases (P:=fun k=>dd y k < 0) hn (fun k=>by rw [QcS hy]) ha hb
 refine lows_one.2 ⟨k,hk,⟨h3,h4⟩,fun l hl hm=>?_⟩
 refine Classical.byContradiction fun hne=>?_
 have a1:=h.low hx hy ⟨h3,h4⟩ (l+1)
 have a2:=h.low hx hy hm (k+1)
 have ey:y (k+1)=y (l+1):=by grind
 have ex:x (k+1)=x (l+1):=by have:=a1.2 ey.symm;have:=a2.2 ey;grind
 refine h.apart' hx hy (i:=k+1) (k:=l+1) (fun e=>hne ?_) ⟨ex,ey⟩
 rcases Nat.lt_or_ge (k+1) n with q | q <;> rcases Nat.lt_or_ge (l+1) n with r | r
 · rw [Nat.mod_eq_of_lt q,Nat.mod_eq_of_lt r] at e;omega
 · rw [Nat.mod_eq_of_lt q,show l+1=n by omega,Nat.mod_self] at e;omega
 · rw [Nat.mod_eq_of_lt r,show k+1=n by omega,Nat.mod_self] at e;omega
 · omega
theorem key_of (hx:∀ k,x (k+n)=x k) (hy:∀ k,y (k+n)=y k) (hn:0 < n) (hL:∀ k,Qc4 x y k) (h1:lows y n=1) (i k:Nat):QsK n x y i k:=by
 obtain ⟨s,hs,hls,hu⟩:=lows_one.1 h1
 have hper:∀ k,Qev y (k+n) ↔ Qev y k:=fun k=>by unfold Qev;rw [show k+n+1=k+1+n by omega,QcS hy,QcS hy]
 have hu2:∀ l,l < n+(s+1)→s+1≤l→Qev y l→l=s+n:=by
  intro l hl h2 h3
  rcases Nat.lt_or_ge l n with q | q
  · have:=hu l q h3;omega
  · have:=hu (l - n) (by omega) ((hper _).1 (by rwa [show l - n+n=l by omega]));omega
 obtain ⟨j,hj1,hj2,hj3⟩:=rep hn (s+1) i
 obtain ⟨m,hm1,hm2,hm3⟩:=rep hn (j+1) k
 have K:=QpX (n:=n) (x:=fun k=>x (s+1+k)) (y:=fun k=>y (s+1+k)) (fun k=>(congrArg x (Nat.add_assoc _ _ _).symm).trans (hx (s+1+k))) (fun k=>(congrArg y (Nat.add_assoc _ _ _).symm).trans (hy (s+1+k))) (fun k=>hL (s+1+k)) (fun k hk hd=>by
  refine Classical.byContradiction fun e=>?_
  have:=hu2 (s+1+k) (by omega) (by omega) ⟨hd,e⟩
  omega) (i:=j - (s+1)) (k:=m - (s+1)) (by omega) (by omega) (by omega)
 have e1:∀ z:Nat→Rat,(∀ k,z (k+n)=z k)→z (s+1+(j - (s+1)))=z i:=fun z hz=>QdM hz (by rw [show s+1+(j - (s+1))=j by omega,hj3])
 have e2:∀ z:Nat→Rat,(∀ k,z (k+n)=z k)→z (s+1+(j - (s+1)+1))=z (i+1):=fun z hz=>QdM hz (by rw [show s+1+(j - (s+1)+1)=j+1 by omega,Nat.add_mod,hj3,← Nat.add_mod])
 have e3:∀ z:Nat→Rat,(∀ k,z (k+n)=z k)→z (s+1+(m - (s+1)))=z k:=fun z hz=>QdM hz (by rw [show s+1+(m - (s+1))=m by omega,hm3])
 have hne:k % n ≠ i % n→(m - (s+1)) % n ≠ (j - (s+1)) % n:=fun h e=>h (by
  rw [← hm3,← hj3,show m=s+1+(m - (s+1)) by omega,show j=s+1+(j - (s+1)) by omega,Nat.add_mod,e,← Nat.add_mod])
 unfold QsK QaG dd at K
 simp only [e1 x hx,e1 y hy,e2 x hx,e2 y hy,e3 x hx,e3 y hy] at K
 refine ⟨K.1,fun h=>?_⟩
 rcases K.2 h with q | ⟨t,h2,h3,h4⟩
 · exact .inl q
 · exact .inr ⟨t,h2,fun e=>h3 (hne e),h4⟩
theorem QrD (hx:∀ k,x (k+n)=x k) (hy:∀ k,y (k+n)=y k) (hn:0 < n) (hL:∀ k,Qc4 x y k) (h1:lows y n=1):Conv n x y:=by
 have K:=key_of hx hy hn hL h1
 have nz:∀ i,¬ (dd x i=0∧dd y i=0):=fun i=>Qir (hL i)
 have ap:∀ i k,i % n ≠ k % n→¬ (x i=x k∧y i=y k):=by
  rintro i k hne ⟨e1,e2⟩
  have hs:QaG x y i k=0:=by unfold QaG;rw [e1,e2];unfold crs;grind
  rcases (K i k).2 hs with ⟨t,ht,q1,q2⟩ | ⟨t,_,ht,q1,q2⟩
  · refine nz i ⟨?_,?_⟩
    · have e : dd x i * (1 + t) = 0 := by have q : x (i + 1) = x i + dd x i := by unfold dd; grind
                                          rw [q,← e1] at q1;grind
      rcases Rat.mul_eq_zero.1 e with r | r
      · exact r
      · grind
    · have e : dd y i * (1 + t) = 0 := by have q : y (i + 1) = y i + dd y i := by unfold dd; grind
                                          rw [q,← e2] at q2;grind
      rcases Rat.mul_eq_zero.1 e with r | r
      · exact r
      · grind
  · have ht:=ht (fun e=>hne e.symm)
    refine nz i ⟨?_,?_⟩
    · have e:t*dd x i=0:=by rw [← e1] at q1;grind
      rcases Rat.mul_eq_zero.1 e with r | r
      · grind
      · exact r
    · have e:t*dd y i=0:=by rw [← e2] at q2;grind
      rcases Rat.mul_eq_zero.1 e with r | r
      · grind
      · exact r
 have sm:∃ i k,0 < QaG x y i k:=by
  refine Classical.byContradiction fun q=>?_
  have hz:∀ k,QaG x y 0 k=0:=fun k=>by
   have h2:=(K 0 k).1
   have h3:¬ 0 < QaG x y 0 k:=fun e=>q ⟨0,k,e⟩
   grind
  have hc:∀ j,crs (dd x 0) (dd y 0) (dd x (0+1+j)) (dd y (0+1+j))=0:=fun j=>by
   have h2:=hz (0+1+j)
   have h3:=hz (0+1+j+1)
   have:=QjI x y 0 (0+1+j)
   grind
  obtain ⟨_,s,hs,e1,e2⟩:=Qll hL (i:=0) (m:=n - 1) (fun j _=>hc j)
  have h0:=hx 0;have h00:=hy 0
  rw [show 0+1+(n - 1)=0+n by omega,h0] at e1
  rw [show 0+1+(n - 1)=0+n by omega,h00] at e2
  refine nz 0 ⟨?_,?_⟩
  · have e : dd x 0 * (1 + s) = 0 := by have q : x (0 + 1) = x 0 + dd x 0 := by unfold dd; grind
                                        rw [q] at e1;grind
    rcases Rat.mul_eq_zero.1 e with r | r
    · exact r
    · grind
  · have e : dd y 0 * (1 + s) = 0 := by have q : y (0 + 1) = y 0 + dd y 0 := by unfold dd; grind
                                        rw [q] at e2;grind
    rcases Rat.mul_eq_zero.1 e with r | r
    · exact r
    · grind
 have h3:3≤n:=by
  refine Nat.le_of_not_lt fun q=>?_
  obtain ⟨i,k,h⟩:=sm
  rcases Nat.lt_or_ge n 2 with r | r
  · obtain rfl:n=1:=by omega
    exact nz 0 ⟨by unfold dd;rw [show x (0+1)=x 0 from hx 0];grind,by unfold dd;rw [show y (0+1)=y 0 from hy 0];grind⟩
  · obtain rfl:n=2:=by omega
    have h2:QaG x y i k=0:=by
     have hk:(k % 2=i % 2) ∨ (k % 2=(i+1) % 2):=by omega
     rcases hk with e | e
     · unfold QaG;rw [QdM hx e,QdM hy e];unfold crs;grind
     · unfold QaG;rw [QdM hx e,QdM hy e];unfold crs dd;grind
    rw [h2] at h;exact absurd h (by decide)
 refine ⟨h3,fun i k hi hk hne=>ap i k (by rwa [Nat.mod_eq_of_lt hi,Nat.mod_eq_of_lt hk]),fun i k _ _=>(K i k).1,?_⟩
 obtain ⟨i,k,h⟩:=sm
 refine ⟨i % n,k % n,Nat.mod_lt _ hn,Nat.mod_lt _ hn,?_⟩
 rwa [QlK hx hy]
theorem Qqk (hx:∀ k,x (k+n)=x k) (hy:∀ k,y (k+n)=y k):Conv n x y ↔ (∀ k,k < n→Qc4 x y k)∧lows y n=1:=by
 constructor
 · exact fun h=>⟨fun k _=>h.turn hx hy k,h.lows hx hy⟩
 · rintro ⟨hL,h1⟩
   have hn:0 < n:=by
    rcases Nat.eq_zero_or_pos n with q | q
    · subst q;simp [Go.Proofs.YthbhngeiiabagaaGreat.lows] at h1
    · exact q
   refine QrD hx hy hn (fun k=>?_) h1
   have:=hL (k % n) (Nat.mod_lt _ hn)
   have e:∀ z:Nat→Rat,(∀ k,z (k+n)=z k)→dd z (k % n)=dd z k∧dd z (k % n+1)=dd z (k+1):=fun z hz =>
    ⟨QdM (QcS hz) (Nat.mod_mod _ _),QdM (QcS hz) (by rw [Nat.add_mod,Nat.mod_mod,← Nat.add_mod])⟩
   unfold Qc4 at this ⊢
   rwa [(e x hx).1,(e x hx).2,(e y hy).1,(e y hy).2] at this
end
end
section
open Go Go.RowKit
theorem zqr (w:World):QR w false none 0 0 none 0 0 0 1:=by
 refine ⟨0,0,⟨[],⟨rfl,fun h=>absurd h (by decide)⟩,Lim.nil,rfl,Nat.le_refl _,by decide,by decide⟩,⟨[],⟨rfl,fun h=>absurd h (by decide)⟩,Lim.nil,rfl,Nat.le_refl _,by decide⟩,by decide +kernel⟩
theorem zpr (w:World):PR w false none 0 0 none 0 0 false none 0 0 none 0 0 0 0 1:=⟨zqr w,zqr w⟩
theorem BoxAt.setp {T:TypeId} {g m:Nat} {M:List PV} (h:BoxAt T w g (pvs M).toArray) (hm:m < M.length) (q:PV) :
 BoxAt T ((((((w.setCell ⟨g,m*6,none⟩ (.bool q.s)).setCell ⟨g,m*6+1,none⟩ (.slice q.A q.n q.c)).setCell ⟨g,m*6+2,none⟩ (.slice q.B q.m q.d)).setCell ⟨g,m*6+3,none⟩ (.bool q.t)).setCell ⟨g,m*6+4,none⟩ (.slice q.E q.i q.e)).setCell ⟨g,m*6+5,none⟩ (.slice q.F q.j q.f)) g (pvs (M.set m q)).toArray:=by
 refine ⟨?_,Qdv (QcJ _)⟩
 have h0:=h.at_
 have e2:((((((pvs M).set (m*6) (.bool q.s)).set (m*6+1) (.slice q.A q.n q.c)).set (m*6+2) (.slice q.B q.m q.d)).set (m*6+3) (.bool q.t)).set (m*6+4) (.slice q.E q.i q.e)).set (m*6+5) (.slice q.F q.j q.f)=pvs (M.set m q):=by
  apply List.ext_getElem?
  intro j
  have hl:(pvs M).length=M.length*6:=Qas Qa9 M
  have:=Qiv Qa9 hm q j
  rw [show (pvs (M.set m q))[j]?=_ from this]
  simp only [List.getElem?_set,List.length_set,hl]
  by_cases h0:m*6≤j∧j < m*6+6
  · rw [if_pos h0]
    obtain ⟨a,rfl,ha⟩:∃ a,j=m*6+a∧a < 6:=⟨j - m*6,by omega,by omega⟩
    rw [Nat.add_sub_cancel_left]
    match a,ha with
    | 0,_=>rw [if_neg (by omega),if_neg (by omega),if_neg (by omega),if_neg (by omega),if_neg (by omega),if_pos (by omega),if_pos (by omega)];rfl
    | 1,_=>rw [if_neg (by omega),if_neg (by omega),if_neg (by omega),if_neg (by omega),if_pos (by omega),if_pos (by omega)];rfl
    | 2,_=>rw [if_neg (by omega),if_neg (by omega),if_neg (by omega),if_pos (by omega),if_pos (by omega)];rfl
    | 3,_=>rw [if_neg (by omega),if_neg (by omega),if_pos (by omega),if_pos (by omega)];rfl
    | 4,_=>rw [if_neg (by omega),if_pos (by omega),if_pos (by omega)];rfl
    | 5,_=>rw [if_pos (by omega),if_pos (by omega)];rfl
    | a+6,ha=>omega
  · rw [if_neg h0,if_neg (by omega),if_neg (by omega),if_neg (by omega),if_neg (by omega),if_neg (by omega),if_neg (by omega)];rfl
 simp [World.setCell,Array.getElem?_modify,h0,e2]
theorem onlyp (w:World) (g o:Nat) (a b c d e f:Value):Only g w ((((((w.setCell ⟨g,o,none⟩ a).setCell ⟨g,o+1,none⟩ b).setCell ⟨g,o+2,none⟩ c).setCell ⟨g,o+3,none⟩ d).setCell ⟨g,o+4,none⟩ e).setCell ⟨g,o+5,none⟩ f):=((((((Only.refl g w).setCell o a).setCell (o+1) b).setCell (o+2) c).setCell (o+3) d).setCell (o+4) e).setCell (o+5) f
theorem Qbo (W:World) (g k o p:Nat) (a b c d e f:Value) (h:k ≠ g):((((((W.setCell ⟨g,o,none⟩ a).setCell ⟨g,o+1,none⟩ b).setCell ⟨g,o+2,none⟩ c).setCell ⟨g,o+3,none⟩ d).setCell ⟨g,o+4,none⟩ e).setCell ⟨g,o+5,none⟩ f).cell? ⟨k,p,none⟩=W.cell? ⟨k,p,none⟩:=by
 rw [World.cell?_of_block (Below.heap_setCell _ _ _ _ h),World.cell?_of_block (Below.heap_setCell _ _ _ _ h),World.cell?_of_block (Below.heap_setCell _ _ _ _ h),World.cell?_of_block (Below.heap_setCell _ _ _ _ h),World.cell?_of_block (Below.heap_setCell _ _ _ _ h),World.cell?_of_block (Below.heap_setCell _ _ _ _ h)]
theorem BoxAt.p6 {T:TypeId} {g m:Nat} {M:List PV} {p:PV} (h:BoxAt T w g (pvs M).toArray) (hp:M[m]?=some p):E6x w g (m*6) p:=by
 have key:∀ j,j < 6→∀ u,p.cells[j]?=some u→w.cell? ⟨g,m*6+j,none⟩=some u:=fun j hj u hu=>by
  rw [cell_of_row w g (m*6+j) _ _ (0,0) h.at_,← hu,← Qci Qa9 hp hj];simp [pvs]
 exact ⟨h.lt,key 0 (by decide) _ rfl,key 1 (by decide) _ rfl,key 2 (by decide) _ rfl,key 3 (by decide) _ rfl,key 4 (by decide) _ rfl,key 5 (by decide) _ rfl⟩
theorem Qie {k:Nat} {x y:Rat} (p:PR w s_p A_p n_p c_p B_p m_p d_p t_p E_p i_p e_p F_p j_p f_p x y k) (hk:k≤30000) (h1:1≤k) :
 Calls Tryz.prog 29 #[.agg #[.bool s_p,.slice A_p n_p c_p,.slice B_p m_p d_p,.bool t_p,.slice E_p i_p e_p,.slice F_p j_p f_p]] w (QcU w x y (k+1+1)):=by
 rw [show x=x+0 by grind,show y=y+0 by grind]
 go_enter Tryz.func29,Tryz.ntmps29
 go_upto_region 1 with (fail)
 generalize hW:World.alloc _ _=W
 obtain ⟨hb,XA,Z,hzW⟩:=Qbn hW;clear hW;replace p:=p.below hb;obtain ⟨xa0,xa1,xa2,xa3,xa4,xa5⟩:=XA.all
 go_wp2_with (first
  | (go_at_call 67;(with_reducible refine (QqS p (zpr _) hk (by omega) (.inl (by omega)) h1 (by omega)).mono ?_);rintro e w_r ⟨s_r,A_r,n_r,c_r,B_r,m_r,d_r,t_r,E_r,i_r,e_r,F_r,j_r,f_r,rfl,r,hh⟩
     (try replace Z:=Z.below hh);replace hb:=Qaj hb hh;have zg0:=Z.f0;have zg1:=Z.f1;have zg2:=Z.f2;have zg3:=Z.f3;have zg4:=Z.f4;have zg5:=Z.f5;obtain ⟨zc0,zc1,zc2,zc3,zc4,zc5⟩:=Z.all))
 have Z2:=Z.set6 (.bool s_r) (.slice A_r n_r c_r) (.slice B_r m_r d_r) (.bool t_r) (.slice E_r i_r e_r) (.slice F_r j_r f_r)
 obtain ⟨g0,g1,g2,g3,g4,g5⟩:=Z2.all
 refine bodyPost_ret (v:=.agg #[.bool s_r,.slice A_r n_r c_r,.slice B_r m_r d_r,.bool t_r,.slice E_r i_r e_r,.slice F_r j_r f_r]) (by simp [results,Tryz.results29,go_sem,g0,g1,g2,g3,g4,g5]) rfl ?_
 exact ⟨s_r,A_r,n_r,c_r,B_r,m_r,d_r,t_r,E_r,i_r,e_r,F_r,j_r,f_r,rfl,r.set6 Z _ _ _ _ _ _,QaE hb (by omega) _ _ _ _ _ _⟩
theorem QjC {k:Nat} {x y:Rat} (p:PR w s_p A_p n_p c_p B_p m_p d_p t_p E_p i_p e_p F_p j_p f_p x y k) (hk:k≤90000) (h1:1≤k) (R:Bool) (hR:decide (y < 0)=R) :
 Calls Tryz.prog 44 #[.agg #[.bool s_p,.slice A_p n_p c_p,.slice B_p m_p d_p,.bool t_p,.slice E_p i_p e_p,.slice F_p j_p f_p]] w fun e w'=>e=.returned (.bool R)∧Below w.heap.size w w':=by
 obtain ⟨K,hK⟩:∃ K,Qck y=K:=⟨_,rfl⟩
 have HK:=Lib.hid hK
 have HR:Hid (decide (K < 0)=R):=by
  show _=_
  rw [← hR,← hK];unfold Qck
  split
  · rename_i h;rw [decide_eq_true h];rfl
  · rename_i h;rw [decide_eq_false h];split <;> rfl
 clear hK hR
 go_enter Tryz.func44,Tryz.ntmps44
 go_upto_region 1 with (fail)
 generalize hW:World.alloc _ _=W
 obtain ⟨hb,XA,hzW⟩:=QaD hW;clear hW;replace p:=p.below hb;obtain ⟨xa0,xa1,xa2,xa3,xa4,xa5⟩:=XA.all
 go_wp2_with (first
  | (go_at_call 15;(with_reducible refine (QbI p.qy hk h1).mono ?_);rintro e w_z ⟨rfl,hh⟩
     rw [HK.out];replace hb:=Qaj hb hh))
 (try rw [Exit.noGoto_ret])
 go_ret
 exact ⟨by rw [← HR.out];first | rfl | simp,hb⟩
theorem QbG (v:Rat):(Qck v=1∧0 < v) ∨ (Qck v=0∧v=0) ∨ (Qck v=-1∧v < 0):=by
 unfold Qck
 split
 · exact .inr (.inr ⟨rfl,by assumption⟩)
 · split
   · exact .inr (.inl ⟨rfl,by assumption⟩)
   · exact .inl ⟨rfl,by grind⟩
theorem Qpy {k:Nat} {ax ay bx by_:Rat} (p:PR w s_p A_p n_p c_p B_p m_p d_p t_p E_p i_p e_p F_p j_p f_p ax ay k) (q:PR w s_q A_q n_q c_q B_q m_q d_q t_q E_q i_q e_q F_q j_q f_q bx by_ k) (hk:k+k≤20000) (h1:1≤k) (hc:0 < ax*by_ - ay*bx) :
 Calls Tryz.prog 43 #[.agg #[.bool s_p,.slice A_p n_p c_p,.slice B_p m_p d_p,.bool t_p,.slice E_p i_p e_p,.slice F_p j_p f_p],.agg #[.bool s_q,.slice A_q n_q c_q,.slice B_q m_q d_q,.bool t_q,.slice E_q i_q e_q,.slice F_q j_q f_q]] w fun e w'=>e=.returned (.bool (true))∧Below w.heap.size w w':=by
 have HC:Hid (Qck (ax*by_ - ay*bx)=1):=by
  rcases QbG (ax*by_ - ay*bx) with h | h | h
  · exact h.1
  · exfalso;have:=h.2;grind
  · exfalso;have:=h.2;grind
 clear hc
 go_enter Tryz.func43,Tryz.ntmps43
 go_upto_region 1 with (fail)
 generalize hW:World.alloc _ _=W
 obtain ⟨hb,XA,XB,hzW⟩:=Qbn hW;clear hW;replace p:=p.below hb;replace q:=q.below hb;obtain ⟨xa0,xa1,xa2,xa3,xa4,xa5⟩:=XA.all;obtain ⟨xb0,xb1,xb2,xb3,xb4,xb5⟩:=XB.all
 go_wp2_with (first
  | (go_at_call 37;(with_reducible refine (QeH p q hk h1 h1).mono ?_);rintro e w_r ⟨s_r,A_r,n_r,c_r,B_r,m_r,d_r,rfl,r,hh⟩
     (try replace p:=p.below hh);(try replace q:=q.below hh);(try replace XA:=XA.below hh);(try replace XB:=XB.below hh);replace hb:=Qaj hb hh;obtain ⟨xa0,xa1,xa2,xa3,xa4,xa5⟩:=XA.all;obtain ⟨xb0,xb1,xb2,xb3,xb4,xb5⟩:=XB.all)
  | (go_at_call 15;(with_reducible refine (QbI r.qr (by omega) (by omega)).mono ?_);rintro e w_z ⟨rfl,hh⟩
     rw [HC.out];(try replace p:=p.below hh);(try replace q:=q.below hh);(try replace XA:=XA.below hh);(try replace XB:=XB.below hh);replace hb:=Qaj hb hh;obtain ⟨xa0,xa1,xa2,xa3,xa4,xa5⟩:=XA.all;obtain ⟨xb0,xb1,xb2,xb3,xb4,xb5⟩:=XB.all))
 (try rw [Exit.noGoto_ret])
 go_ret;exact ⟨rfl,hb⟩
theorem QpQ {k:Nat} {ax ay bx by_:Rat} (p:PR w s_p A_p n_p c_p B_p m_p d_p t_p E_p i_p e_p F_p j_p f_p ax ay k) (q:PR w s_q A_q n_q c_q B_q m_q d_q t_q E_q i_q e_q F_q j_q f_q bx by_ k) (hk:k+k≤20000) (h1:1≤k) (hc:ax*by_ - ay*bx < 0) :
 Calls Tryz.prog 43 #[.agg #[.bool s_p,.slice A_p n_p c_p,.slice B_p m_p d_p,.bool t_p,.slice E_p i_p e_p,.slice F_p j_p f_p],.agg #[.bool s_q,.slice A_q n_q c_q,.slice B_q m_q d_q,.bool t_q,.slice E_q i_q e_q,.slice F_q j_q f_q]] w fun e w'=>e=.returned (.bool (false))∧Below w.heap.size w w':=by
 have HC:Hid (Qck (ax*by_ - ay*bx)=(-1)):=by
  rcases QbG (ax*by_ - ay*bx) with h | h | h
  · exfalso;have:=h.2;grind
  · exfalso;have:=h.2;grind
  · exact h.1
 clear hc
 go_enter Tryz.func43,Tryz.ntmps43
 go_upto_region 1 with (fail)
 generalize hW:World.alloc _ _=W
 obtain ⟨hb,XA,XB,hzW⟩:=Qbn hW;clear hW;replace p:=p.below hb;replace q:=q.below hb;obtain ⟨xa0,xa1,xa2,xa3,xa4,xa5⟩:=XA.all;obtain ⟨xb0,xb1,xb2,xb3,xb4,xb5⟩:=XB.all
 go_wp2_with (first
  | (go_at_call 37;(with_reducible refine (QeH p q hk h1 h1).mono ?_);rintro e w_r ⟨s_r,A_r,n_r,c_r,B_r,m_r,d_r,rfl,r,hh⟩
     (try replace p:=p.below hh);(try replace q:=q.below hh);(try replace XA:=XA.below hh);(try replace XB:=XB.below hh);replace hb:=Qaj hb hh;obtain ⟨xa0,xa1,xa2,xa3,xa4,xa5⟩:=XA.all;obtain ⟨xb0,xb1,xb2,xb3,xb4,xb5⟩:=XB.all)
  | (go_at_call 15;(with_reducible refine (QbI r.qr (by omega) (by omega)).mono ?_);rintro e w_z ⟨rfl,hh⟩
     rw [HC.out];(try replace p:=p.below hh);(try replace q:=q.below hh);(try replace XA:=XA.below hh);(try replace XB:=XB.below hh);replace hb:=Qaj hb hh;obtain ⟨xa0,xa1,xa2,xa3,xa4,xa5⟩:=XA.all;obtain ⟨xb0,xb1,xb2,xb3,xb4,xb5⟩:=XB.all))
 (try rw [Exit.noGoto_ret])
 go_ret;exact ⟨rfl,hb⟩
theorem Qpo {k:Nat} {ax ay bx by_:Rat} (p:PR w s_p A_p n_p c_p B_p m_p d_p t_p E_p i_p e_p F_p j_p f_p ax ay k) (q:PR w s_q A_q n_q c_q B_q m_q d_q t_q E_q i_q e_q F_q j_q f_q bx by_ k) (hk:k+k≤20000) (h1:1≤k) (hc:ax*by_ - ay*bx=0) :
 Calls Tryz.prog 43 #[.agg #[.bool s_p,.slice A_p n_p c_p,.slice B_p m_p d_p,.bool t_p,.slice E_p i_p e_p,.slice F_p j_p f_p],.agg #[.bool s_q,.slice A_q n_q c_q,.slice B_q m_q d_q,.bool t_q,.slice E_q i_q e_q,.slice F_q j_q f_q]] w fun e w'=>e=.returned (.bool (decide (0 < ax*bx+ay*by_)))∧Below w.heap.size w w':=by
 have HC:Hid (Qck (ax*by_ - ay*bx)=0):=by
  rcases QbG (ax*by_ - ay*bx) with h | h | h
  · exfalso;have:=h.2;grind
  · exact h.1
  · exfalso;have:=h.2;grind
 obtain ⟨K,hK⟩:∃ K,Qck (ax*bx+ay*by_)=K:=⟨_,rfl⟩
 have HK:=Lib.hid hK
 have HR:Hid (decide (0 < K)=decide (0 < ax*bx+ay*by_)):=by
  show _=_
  rw [← hK]
  rcases QbG (ax*bx+ay*by_) with h | h | h
  · have e:decide (0 < ax*bx+ay*by_)=true:=decide_eq_true h.2
    rw [h.1,e];rfl
  · have e:decide (0 < ax*bx+ay*by_)=false:=decide_eq_false (by have:=h.2;grind)
    rw [h.1,e];rfl
  · have e:decide (0 < ax*bx+ay*by_)=false:=decide_eq_false (by have:=h.2;grind)
    rw [h.1,e];rfl
 clear hK;clear hc
 go_enter Tryz.func43,Tryz.ntmps43
 go_upto_region 1 with (fail)
 generalize hW:World.alloc _ _=W
 obtain ⟨hb,XA,XB,hzW⟩:=Qbn hW;clear hW;replace p:=p.below hb;replace q:=q.below hb;obtain ⟨xa0,xa1,xa2,xa3,xa4,xa5⟩:=XA.all;obtain ⟨xb0,xb1,xb2,xb3,xb4,xb5⟩:=XB.all
 go_wp2_with (first
  | (go_at_call 37;(with_reducible refine (QeH p q hk h1 h1).mono ?_);rintro e w_r ⟨s_r,A_r,n_r,c_r,B_r,m_r,d_r,rfl,r,hh⟩
     (try replace p:=p.below hh);(try replace q:=q.below hh);(try replace XA:=XA.below hh);(try replace XB:=XB.below hh);replace hb:=Qaj hb hh;obtain ⟨xa0,xa1,xa2,xa3,xa4,xa5⟩:=XA.all;obtain ⟨xb0,xb1,xb2,xb3,xb4,xb5⟩:=XB.all)
  | (go_at_call 82;(with_reducible refine (pdot_p p q hk h1 h1).mono ?_);rintro e w_u ⟨s_u,A_u,n_u,c_u,B_u,m_u,d_u,rfl,u,hh⟩
     (try replace p:=p.below hh);(try replace q:=q.below hh);(try replace XA:=XA.below hh);(try replace XB:=XB.below hh);replace hb:=Qaj hb hh;obtain ⟨xa0,xa1,xa2,xa3,xa4,xa5⟩:=XA.all;obtain ⟨xb0,xb1,xb2,xb3,xb4,xb5⟩:=XB.all)
  | (go_at_call 15;(with_reducible refine (QbI u.qr (by omega) (by omega)).mono ?_);rintro e w_z ⟨rfl,hh⟩
     rw [HK.out];(try replace p:=p.below hh);(try replace q:=q.below hh);(try replace XA:=XA.below hh);(try replace XB:=XB.below hh);replace hb:=Qaj hb hh;obtain ⟨xa0,xa1,xa2,xa3,xa4,xa5⟩:=XA.all;obtain ⟨xb0,xb1,xb2,xb3,xb4,xb5⟩:=XB.all)
  | (go_at_call 15;(with_reducible refine (QbI r.qr (by omega) (by omega)).mono ?_);rintro e w_z ⟨rfl,hh⟩
     rw [HC.out];(try replace p:=p.below hh);(try replace q:=q.below hh);(try replace XA:=XA.below hh);(try replace XB:=XB.below hh);replace hb:=Qaj hb hh;obtain ⟨xa0,xa1,xa2,xa3,xa4,xa5⟩:=XA.all;obtain ⟨xb0,xb1,xb2,xb3,xb4,xb5⟩:=XB.all))
 (try rw [Exit.noGoto_ret])
 go_ret
 exact ⟨by rw [← HR.out];first | rfl | simp,hb⟩
instance (a b c d:Rat):Decidable (Qcd a b c d):=by unfold Qcd;exact inferInstance
theorem Qq6 {k:Nat} {ax ay bx by_:Rat} (p:PR w s_p A_p n_p c_p B_p m_p d_p t_p E_p i_p e_p F_p j_p f_p ax ay k) (q:PR w s_q A_q n_q c_q B_q m_q d_q t_q E_q i_q e_q F_q j_q f_q bx by_ k) (hk:k+k≤20000) (h1:1≤k) (R:Bool) (hR:decide (Qcd ax ay bx by_)=R) :
 Calls Tryz.prog 43 #[.agg #[.bool s_p,.slice A_p n_p c_p,.slice B_p m_p d_p,.bool t_p,.slice E_p i_p e_p,.slice F_p j_p f_p],.agg #[.bool s_q,.slice A_q n_q c_q,.slice B_q m_q d_q,.bool t_q,.slice E_q i_q e_q,.slice F_q j_q f_q]] w fun e w'=>e=.returned (.bool R)∧Below w.heap.size w w':=by
 subst hR
 rcases QbG (ax*by_ - ay*bx) with h | h | h
 · rw [decide_eq_true (show Qcd ax ay bx by_ from .inl h.2)];exact Qpy p q hk h1 h.2
 · have e : decide (Qcd ax ay bx by_) = decide (0 < ax * bx + ay * by_) := by
     have h2:=h.2
     by_cases g:0 < ax*bx+ay*by_
     · rw [decide_eq_true g,decide_eq_true];exact .inr ⟨h2,g⟩
     · rw [decide_eq_false g,decide_eq_false];rintro (q | q)
       · unfold crs at q;grind
       · exact g q.2
   rw [e];exact Qpo p q hk h1 h.2
 · rw [decide_eq_false (show ¬ Qcd ax ay bx by_ from fun e=>by rcases e with q | q <;> unfold crs at q <;> have:=h.2 <;> grind)];exact QpQ p q hk h1 h.2
def QkC (l:List (Rat × Rat)) (px py:Rat):Prop:=3≤l.length∧∀ (i:Nat) (u v:Rat × Rat),(Qav l)[i]?=some u→(Qav l)[i+1]?=some v→0≤Qbz u.1 u.2 v.1 v.2 px py
theorem QqE {A:Option Addr} {n c k:Nat} {L:List PV} {l:List (Rat × Rat)} {px py:Rat} (hL:SV w A (pvs L)) (hE:Each PV.PR w L l k) (r:PR w s_r A_r n_r c_r B_r m_r d_r t_r E_r i_r e_r F_r j_r f_r px py k) (hn:L.length=n) (hm:n≤1000) (hnc:n≤c) (h1:1≤k) (hk:k≤40) (R:Bool) (hR0:R=true ↔ QkC l px py) :
 Calls Tryz.prog 17 #[.slice A n c,.agg #[.bool s_r,.slice A_r n_r c_r,.slice B_r m_r d_r,.bool t_r,.slice E_r i_r e_r,.slice F_r j_r f_r]] w fun e w'=>e=.returned (.bool R)∧Below w.heap.size w w':=by
 have HN:=Lib.hid hn;have HL0:=Lib.hid hL;have E0:=Lib.hid hE;have HR0:=Lib.hid hR0;have RP0:=Lib.hid r;clear hR0
 go_enter Tryz.func17,Tryz.ntmps17
 go_upto_region 1 with (fail)
 generalize hW:World.alloc _ _=W
 obtain ⟨hb,XC,hzW⟩:=QaD hW;clear hW;replace hL:=hL.below hb;replace r:=r.below hb
 by_cases h3:n < 3
 · have h4:(n:Int) < 3:=by omega
   have HF:Hid (false=R):=by
    show _=_
    cases R with
    | false=>rfl
    | true=>exact absurd (HR0.out.1 rfl).1 (by rw [← E0.out.1,HN.out];omega)
   clear h3
   go_wp2_with fail
   (try rw [Exit.noGoto_ret])
   go_ret
   exact ⟨by rw [← HF.out];rfl,hb⟩
 · have h4:¬ (n:Int) < 3:=by omega
   go_upto_region 4 with (first
    | (go_at_call 36;(with_reducible refine (Qe1 hL hn (by omega) hnc (Nat.le_refl _)).mono ?_);rintro e w_z ⟨A1,c1,rfl,hR1_,hh⟩
       (try replace XC:=XC.below hh);(try replace r:=r.below hh);replace hb:=Qaj hb hh))
   have hR0:=hR1_;clear hR1_
   rw [show n+min 1 n=(Qav L).length by unfold Qav;rw [List.length_append,List.length_take,hn,Nat.min_comm]]
   have HR1:Hid ((Qav L).length=n+min 1 n):=by show _=_;unfold Qav;rw [List.length_append,List.length_take,hn,Nat.min_comm]
   generalize hN1:(Qav L).length=N1 at HR1 ⊢
   have HR2:=Lib.hid hN1;clear hN1 hL hE
   go_wp2_with fail
   go_loopg [15] n (fun gk ix wr=>∃ (m:Nat),Hid (gk+m=n)∧ix=.int .i64 (m:Int)∧Hid (∀ i,i < m→∀ u v,(Qav l)[i]?=some u→(Qav l)[i+1]?=some v→0≤Qbz u.1 u.2 v.1 v.2 px py)∧SNr 29 W.heap.size n (pvs (Qav L)) wr A1∧B6 wr w.heap.size (.bool s_r) (.slice A_r n_r c_r) (.slice B_r m_r d_r) (.bool t_r) (.slice E_r i_r e_r) (.slice F_r j_r f_r)∧Below w.heap.size w wr)
   case atStart=>exact ⟨0,Nat.add_zero _,rfl,fun i hi=>absurd hi (by omega),hR0,XC,hb⟩
   case round =>
    clear hR0 r XC
    obtain ⟨m,HG,rfl,HS,hR,XC,hb⟩:=hrel
    have r:=PR.below RP0.out hb
    by_cases hmn:m < n
    · have HMN:=Lib.hid hmn
      obtain ⟨P,u,hP1,hu1,p⟩:=(E0.out.imp (fun p u h=>PR.below h hb)).at_ (i:=m) (by rw [HN.out];exact hmn)
      obtain ⟨Q,v,hP2,hu2,q⟩:=(E0.out.imp (fun p u h=>PR.below h hb)).ring.at_ (i:=m+1) (by have h:=HR1.out;have h2:=HR2.out;rw [h2,h];omega)
      have hv1:(Qav l)[m]?=some u:=by rw [Qeb (by rw [← E0.out.1,HN.out];exact hmn)];exact hu1
      obtain ⟨g0,o0,hix0,E,_⟩:=(HL0.out.below hb).pt hP1
      obtain ⟨g1,o1,hix1,E',o1_,hA1⟩:=(hR.sv (by omega)).pt hP2
      have hixa:∀ w',(Instr.indexAt 22 (.slice A n c) (.int .i64 (m:Int))).run Tryz.prog w'=.ok (.pointer (some ⟨g0,o0,none⟩)) w':=fun w'=>hix0 n c w' hmn
      have hixb:∀ w',(Instr.indexAt 22 (.slice A1 N1 c1) (.int .i64 ((m:Int)+1))).run Tryz.prog w'=.ok (.pointer (some ⟨g1,o1,none⟩)) w':=fun w'=>hix1 N1 c1 w' (by have:=HR1.out;omega)
      have hwr:IntKind.i64.wrap ((m:Int)+1)=(m:Int)+1:=IntWalk.i64_in _ (by omega)
      have hlt:(m:Int) < (n:Int):=by omega
      have HU:=Lib.hid hv1;have HV:=Lib.hid hu2
      obtain ⟨ux,uy⟩:=u
      obtain ⟨vx,vy⟩:=v
      obtain ⟨s_p,A_p,n_p,c_p,B_p,m_p,d_p,t_p,E_p,i_p,e_p,F_p,j_p,f_p⟩:=P
      obtain ⟨s_q,A_q,n_q,c_q,B_q,m_q,d_q,t_q,E_q,i_q,e_q,F_q,j_q,f_q⟩:=Q
      replace p:PR wr s_p A_p n_p c_p B_p m_p d_p t_p E_p i_p e_p F_p j_p f_p ux uy k:=p
      replace q:PR wr s_q A_q n_q c_q B_q m_q d_q t_q E_q i_q e_q F_q j_q f_q vx vy k:=q
      have hx1:w.heap.size < wr.heap.size:=XC.lt
      obtain ⟨e0,e1,e2,e3,e4,e5⟩:=E.all
      simp only at e0 e1 e2 e3 e4 e5
      obtain ⟨K,hK⟩:∃ K,Qbz ux uy vx vy px py=K:=⟨_,rfl⟩
      have HK:=Lib.hid hK;clear hK hP1 hP2 hu1 hu2 hix0 hix1 hA1 hv1 hmn
      go_upto_region 7 with (fail)
      generalize hW:World.alloc _ _=W2
      obtain ⟨hh,X,hzW2⟩:=QaD hW;clear hW;(try replace p:=p.below hh);(try replace q:=q.below hh);(try replace r:=r.below hh);(try replace hR:=hR.below hh);(try replace XC:=XC.below hh)
      try replace E':=E'.below hh
      replace hb:=Qaj hb hh
      replace p:=p.below (Below.refl _ _).drew
      replace q:=q.below (Below.refl _ _).drew
      replace r:=r.below (Below.refl _ _).drew
      replace hR:=hR.below (Below.refl _ _).drew
      replace XC:=XC.below (Below.refl _ _).drew
      replace E':=E'.below (Below.refl _ _).drew
      replace X:=X.below (Below.refl _ _).drew
      replace hb:=hb.drew
      go_region_held3 (fun w'=>w'.cell? ⟨wr.heap.size,0,none⟩=some (.bool s_p)∧w'.cell? ⟨wr.heap.size,1,none⟩=some (.slice A_p n_p c_p)∧w'.cell? ⟨wr.heap.size,2,none⟩=some (.slice B_p m_p d_p)∧w'.cell? ⟨wr.heap.size,3,none⟩=some (.bool t_p)∧w'.cell? ⟨wr.heap.size,4,none⟩=some (.slice E_p i_p e_p)∧w'.cell? ⟨wr.heap.size,5,none⟩=some (.slice F_p j_p f_p)∧w'.cell? ⟨w.heap.size,0,none⟩=some (.bool s_r)∧w'.cell? ⟨w.heap.size,1,none⟩=some (.slice A_r n_r c_r)∧w'.cell? ⟨w.heap.size,2,none⟩=some (.slice B_r m_r d_r)∧w'.cell? ⟨w.heap.size,3,none⟩=some (.bool t_r)∧w'.cell? ⟨w.heap.size,4,none⟩=some (.slice E_r i_r e_r)∧w'.cell? ⟨w.heap.size,5,none⟩=some (.slice F_r j_r f_r)∧w'.cell? ⟨g1,o1,none⟩=some (.bool s_q)∧w'.cell? ⟨g1,o1+1,none⟩=some (.slice A_q n_q c_q)∧w'.cell? ⟨g1,o1+2,none⟩=some (.slice B_q m_q d_q)∧w'.cell? ⟨g1,o1+3,none⟩=some (.bool t_q)∧w'.cell? ⟨g1,o1+4,none⟩=some (.slice E_q i_q e_q)∧w'.cell? ⟨g1,o1+5,none⟩=some (.slice F_q j_q f_q))
       (first | with_reducible exact ⟨X.c0,X.c1,X.c2,X.c3,X.c4,X.c5,XC.c0,XC.c1,XC.c2,XC.c3,XC.c4,XC.c5,E'.c0,E'.c1,E'.c2,E'.c3,E'.c4,E'.c5⟩)
       (first
       | (go_at_call 18;(with_reducible refine (QiW p q r hk h1).mono ?_);rintro e w_z ⟨rfl,hh⟩
          rw [HK.out];(try replace p:=p.below hh);(try replace q:=q.below hh);(try replace r:=r.below hh);(try replace hR:=hR.below hh);(try replace XC:=XC.below hh)
          try replace E':=E'.below hh
          (try replace X:=X.below hh);replace hb:=Qaj hb hh))
      by_cases hK2:K < 0
      · have HF : Hid (false = R) := by
          show _=_
          cases R with
          | false=>rfl
          | true =>
            have:=(HR0.out.1 rfl).2 m _ _ HU.out HV.out
            rw [show Qbz (ux,uy).1 (ux,uy).2 (vx,vy).1 (vx,vy).2 px py=K from HK.out] at this
            omega
        go_wp2_with fail
        (try rw [Exit.noGoto_ret])
        go_ret
        exact ⟨by rw [← HF.out];rfl,hb⟩
      · have HK2:=Lib.hid hK2
        go_wp2_with fail
        go_roundg (gk - 1)
        case measure=>have:=HG.out;have:=HMN.out;omega
        case rel =>
         refine ⟨m+1,by have:=HG.out;have:=HMN.out;show _=_;omega,by go_num,fun i hi u v h5 h6=>?_,hR,XC,hb⟩
         rcases Nat.lt_or_ge i m with h | h
         · exact HS.out i h u v h5 h6
         · obtain rfl:i=m:=by omega
           rw [HU.out] at h5;rw [HV.out] at h6
           cases h5;cases h6
           rw [show Qbz (ux,uy).1 (ux,uy).2 (vx,vy).1 (vx,vy).2 px py=K from HK.out]
           have:=HK2.out;omega
    · have hlt:¬ (m:Int) < (n:Int):=by omega
      have HT:Hid (true=R):=by
       refine (HR0.out.2 ⟨by rw [← E0.out.1,HN.out];omega,fun i u v h5 h6=>HS.out i ?_ u v h5 h6⟩).symm
       have h7:=(List.getElem?_eq_some_iff.1 h6).1
       rw [QbK l (by rw [← E0.out.1,HN.out];omega),← E0.out.1,HN.out] at h7
       omega
      clear hmn
      go_wp2_with fail
      (try rw [Exit.noGoto_ret])
      go_ret
      exact ⟨by rw [← HT.out];rfl,hb⟩
end
section
open Go Go.ChangeShapes Go.WideShapes Go.ChangeAt Go.RowKit
def PV.Raw (w:World) (p:PV):Prop:=∃ z1 z2 z3 z4,IsRow64 w p.A p.n p.c z1∧IsRow64 w p.B p.m p.d z2∧IsRow64 w p.E p.i p.e z3∧IsRow64 w p.F p.j p.f z4
theorem QnV {H:Type} {enc:TypeId × Value→H} {base:Nat} {held:Bool} {r:Reach} {b0:Nat} {v:Value} {d:DataW H} {p:List MemPlace}
 (hv:Value.okWide Tryz.prog w r b0 22 v) (h:DataW.Trod enc Tryz.prog w base (fun _=>true) held 22 v d p) :
 ∃ (A:Option Addr) (n c:Nat) (L:List PV),v=.slice A n c∧SV w A (pvs L)∧L.length=n∧n≤c∧n≤maxLen∧∀ q ∈ L,q.Raw w:=by
 obtain ⟨A,n,c,rfl⟩:=okWide_slice Tryz.underlying22 hv
 have e6:Tryz.prog.cellsOf 29=6:=by kernel_rfl
 obtain ⟨fuel,hf⟩:=h
 rcases DataW.trod_slice Tryz.underlying22 hf with ⟨h0,_⟩ | ⟨a,len,cap,elems,rest,m,_,h0,_,hb,hl,hm,hlen,hel,_,_⟩
 · simp [Value.cells] at h0
   obtain ⟨rfl,rfl,rfl⟩:=h0
   exact ⟨none,0,0,[],rfl,SV.nil _ _,rfl,Nat.le_refl _,Nat.zero_le _,fun q hq=>by cases hq⟩
 · simp [Value.cells] at h0
   obtain ⟨rfl,rfl,rfl⟩:=h0
   rw [e6] at hel
   have each:∀ i,i < n→∃ q:PV,(∀ j u,q.cells[j]?=some u→w.cell? ((a.add (i*6)).add j)=some u)∧q.Raw w:=by
    intro i hi
    have h1:=hel i hi
    rw [List.getElem?_eq_getElem (by rw [hlen];exact hi)] at h1
    obtain ⟨cs,hc1,hc2⟩:=Option.bind_eq_some_iff.1 h1
    unfold World.cells? at hc1
    split at hc1
    · have hcl:=mapM_some_length hc1
      have hcg:=fun k (hk:k < 6)=>mapM_some_get hc1 k k (by simp [hk])
      rw [List.length_range] at hcl
      match cs,hcl with
      | [x0,x1,x2,x3,x4,x5],_ =>
        obtain ⟨s,A',n',c',zs,B,m',d',ys,t,E,i',e,xs,F,j',f,us,rfl,rfl,rfl,rfl,rfl,rfl,r1,r2,r3,r4⟩:=QfV hc2
        refine ⟨PV.mk s A' n' c' B m' d' t E i' e F j' f,fun j u hu=>?_,zs,ys,xs,us,r1,r2,r3,r4⟩
        have hj:j < 6:=(List.getElem?_eq_some_iff.1 hu).1
        have:=hcg j hj
        rw [this];exact hu
    · cases hc1
   obtain ⟨L,hL,hq⟩:∃ L:List PV,L.length=n∧∀ i q,L[i]?=some q→(∀ j u,q.cells[j]?=some u→w.cell? ((a.add (i*6)).add j)=some u)∧q.Raw w:=by
    have:∀ m,m≤n→∃ L:List PV,L.length=m∧∀ i q,L[i]?=some q→(∀ j u,q.cells[j]?=some u→w.cell? ((a.add (i*6)).add j)=some u)∧q.Raw w:=by
     intro m
     induction m with
     | zero=>intro _;exact ⟨[],rfl,fun i q h=>by cases h⟩
     | succ m ih =>
       intro hm
       obtain ⟨L,h1,h2⟩:=ih (by omega)
       obtain ⟨q,h3⟩:=each m (by omega)
       refine ⟨L ++ [q],by rw [List.length_append,h1];rfl,fun i x hx=>?_⟩
       rcases Nat.lt_or_ge i L.length with k | k
       · rw [List.getElem?_append_left k] at hx;exact h2 i x hx
       · rw [List.getElem?_append_right k] at hx
         have:i - L.length=0:=by
          have:=(List.getElem?_eq_some_iff.1 hx).1
          simp at this;omega
         rw [this] at hx
         cases hx
         rw [show i=m by omega];exact h3
    exact this n (Nat.le_refl _)
   refine ⟨some a,n,c,L,rfl,fun hn=>?_,hL,hl,by omega,fun q hq2=>?_⟩
   · have hn0:0 < n:=by rw [show (pvs L).length=L.length*6 from Qas Qa9 L,hL] at hn;omega
     obtain ⟨b,o,spot⟩:=a
     have hx:=(hq 0 _ (List.getElem?_eq_getElem (by rw [hL];exact hn0))).1 0 _ rfl
     have hspot:spot=none:=by simpa [Addr.add] using World.cell?_spot hx
     subst hspot
     refine ⟨b,o,rfl,?_,fun j u hu=>?_⟩
     · rw [Qce,Qce] at hx
       exact World.block_lt_of_cell? w _ hx
     · have hj:=(List.getElem?_eq_some_iff.1 hu).1
       rw [show (pvs L).length=L.length*6 from Qas Qa9 L,hL] at hj
       obtain ⟨i,k,hk,rfl⟩:∃ i k,k < 6∧j=i*6+k:=⟨j / 6,j % 6,Nat.mod_lt _ (by decide),by omega⟩
       have hi:i < L.length:=by omega
       have hg:=List.getElem?_eq_getElem hi
       have:=(hq i _ hg).1 k u (by rw [← Qci Qa9 hg hk];exact hu)
       rw [Qce,Qce] at this
       rwa [← Nat.add_assoc]
   · obtain ⟨i,hi⟩:=List.getElem?_of_mem hq2
     exact (hq i q hi).2
end
end Go.Proofs.YthbhngeiiabagaaGreat
