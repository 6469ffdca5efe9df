/- SegMeets: part 14. -/
import Derived.Test.YtmgklaklnaihpaaGreatKSegMeets13
set_option linter.unusedVariables false
set_option maxRecDepth 100000
set_option maxHeartbeats 16000000
variable {w:Go.World}
variable {s_p t_p:Bool} {A_p B_p E_p F_p:Option Go.Addr} {n_p c_p m_p d_p i_p e_p j_p f_p:Nat}
variable {s_q t_q:Bool} {A_q B_q E_q F_q:Option Go.Addr} {n_q c_q m_q d_q i_q e_q j_q f_q:Nat}
variable {s_r t_r:Bool} {A_r B_r E_r F_r:Option Go.Addr} {n_r c_r m_r d_r i_r e_r j_r f_r:Nat}
variable {s_a:Bool} {A_a B_a:Option Go.Addr} {n_a c_a m_a d_a:Nat}
variable {s_b:Bool} {A_b B_b:Option Go.Addr} {n_b c_b m_b d_b:Nat}
variable {s_v:Bool} {A_v B_v:Option Go.Addr} {n_v c_v m_v d_v:Nat}
namespace Go.Proofs.YtmgklaklnaihpaaGreat
section
def onS (px py ax ay bx by_:Rat):Prop:=∃ t,0≤t∧t≤1∧px=ax+(bx - ax)*t∧py=ay+(by_ - ay)*t
theorem unit_of {t:Rat} (h:0≤t*(1 - t)):0≤t∧t≤1:=by
 refine ⟨Rat.not_lt.1 fun q=>?_,Rat.not_lt.1 fun q=>?_⟩
 · have:=Rat.mul_pos (show 0 < -t by grind) (show 0 < 1 - t by grind)
   grind
 · have:=Rat.mul_pos (show 0 < t by grind) (show 0 < t - 1 by grind)
   grind
theorem sq_pos' {u:Rat} (h:u ≠ 0):0 < u*u:=by
 have:=sq_nonneg u
 rcases Rat.le_iff_lt_or_eq.1 this with q | q
 · exact q
 · exact absurd (sq_zero q.symm) h
theorem nn_of_mul {x u:Rat} (hu:0 < u) (h:0≤x*u):0≤x:=by
 refine Rat.not_lt.1 fun q=>?_
 have:=Rat.mul_pos (show 0 < -x by grind) hu
 grind
theorem eq_of_mul {x y u:Rat} (hu:u ≠ 0) (h:x*u=y*u):x=y:=by
 have e:(x - y)*u=0:=by grind
 rcases Rat.mul_eq_zero.1 e with q | q
 · grind
 · exact absurd q hu
theorem share_of {p a b:Rat} (hne:a ≠ b) (h:0≤(p - a)*(b - p)):∃ t,0≤t∧t≤1∧p=a+(b - a)*t:=by
 have hu:b - a ≠ 0:=fun q=>hne (by grind)
 have e:(p - a) / (b - a)*(b - a)=p - a:=div_mul_self hu
 generalize (p - a) / (b - a)=t at e
 have h2:0≤t*(1 - t):=by
  refine nn_of_mul (sq_pos' hu) ?_
  have:t*(1 - t)*((b - a)*(b - a))=(p - a)*(b - p):=by
   rw [← e]
   have:b - p=(b - a) - t*(b - a):=by rw [e];grind
   rw [this];grind
  rw [this];exact h
 have:=unit_of h2
 exact ⟨t,this.1,this.2,by grind⟩
section
variable {px py ax ay bx by_ cx cy dx dy:Rat}
theorem on_of (hx:0≤(px - ax)*(bx - px)) (hy:0≤(py - ay)*(by_ - py)) (hc:(bx - ax)*(py - ay)=(by_ - ay)*(px - ax)):onS px py ax ay bx by_:=by
 by_cases h1:ax=bx
 · subst h1
   have e1:px=ax:=by
    have:=sq_nonneg (px - ax)
    have:(px - ax)*(px - ax)=0:=by grind
    have:=sq_zero this
    grind
   by_cases h2:ay=by_
   · subst h2
     have e2:py=ay:=by
      have:=sq_nonneg (py - ay)
      have:(py - ay)*(py - ay)=0:=by grind
      have:=sq_zero this
      grind
     exact ⟨0,Rat.le_refl,by decide,by grind,by grind⟩
   · obtain ⟨t,h0,h1,h3⟩:=share_of h2 hy
     exact ⟨t,h0,h1,by grind,h3⟩
 · obtain ⟨t,h0,h2,h3⟩:=share_of h1 hx
   refine ⟨t,h0,h2,h3,?_⟩
   refine eq_of_mul (u:=bx - ax) (fun q=>h1 (by grind)) ?_
   rw [h3] at hc
   grind
theorem on_in {p a b t:Rat} (h0:0≤t) (h1:t≤1) (h:p=a+(b - a)*t):0≤(p - a)*(b - p):=by
 have e:(p - a)*(b - p)=(b - a)*(b - a)*(t*(1 - t)):=by rw [h];grind
 rw [e]
 exact Rat.mul_nonneg (sq_nonneg _) (Rat.mul_nonneg h0 (by grind))
theorem of_on (h:onS px py ax ay bx by_):0≤(px - ax)*(bx - px)∧0≤(py - ay)*(by_ - py)∧(bx - ax)*(py - ay)=(by_ - ay)*(px - ax):=by
 obtain ⟨t,h0,h1,hx,hy⟩:=h
 exact ⟨on_in h0 h1 hx,on_in h0 h1 hy,by rw [hx,hy];grind⟩
theorem on_back:onS px py bx by_ ax ay ↔ onS px py ax ay bx by_:=by
 constructor <;> (rintro ⟨t,h0,h1,hx,hy⟩;exact ⟨1 - t,by grind,by grind,by grind,by grind⟩)
theorem seg_iff:segQ px py ax ay bx by_=0 ↔ onS px py ax ay bx by_:=by
 constructor
 · intro h
   have h2:=seg_zero _ _ _ _ _ _ h
   by_cases hw:wholeQ ax ay bx by_=0
   · have e:=whole_z _ _ _ _ hw
     obtain ⟨rfl,rfl⟩:=e
     have h3:=h2.2
     have e1:=sq_nonneg (px - ax)
     have e2:=sq_nonneg (py - ay)
     have:=sum_zero2 (a:=px - ax) (b:=py - ay) (by grind)
     exact ⟨0,Rat.le_refl,by decide,by grind,by grind⟩
   · have ho:=h2.1
     rw [orient_aside] at ho;have ho:=sgn_nul ho;have hd:=h2.2;have hg:=whole_nn ax ay bx by_
     have hg:0 < wholeQ ax ay bx by_:=by grind
     have e:forthQ px py ax ay bx by_ / wholeQ ax ay bx by_*wholeQ ax ay bx by_=forthQ px py ax ay bx by_:=div_mul_self hw
     generalize forthQ px py ax ay bx by_ / wholeQ ax ay bx by_=t at e
     have ex:px=ax+(bx - ax)*t:=by
      refine eq_of_mul hw ?_
      unfold wholeQ forthQ at e
      unfold asideQ at ho
      unfold wholeQ
      grind
     have ey:py=ay+(by_ - ay)*t:=by
      refine eq_of_mul hw ?_
      unfold wholeQ forthQ at e
      unfold asideQ at ho
      unfold wholeQ
      grind
     have:=unit_of (t:=t) (by
      refine nn_of_mul hg ?_
      have:t*(1 - t)*wholeQ ax ay bx by_=-((px - ax)*(px - bx)+(py - ay)*(py - by_)):=by
       rw [ex,ey];unfold wholeQ;grind
      rw [this];grind)
     exact ⟨t,this.1,this.2,ex,ey⟩
 · rintro ⟨t,h0,h1,hx,hy⟩
   exact seg_on _ _ _ _ t h0 h1 hx hy
theorem on_first:onS ax ay ax ay bx by_:=⟨0,Rat.le_refl,by decide,by grind,by grind⟩
theorem on_last:onS bx by_ ax ay bx by_:=⟨1,by decide,Rat.le_refl,by grind,by grind⟩
end
def both (ax ay bx by_ cx cy dx dy x y:Rat):Prop:=onS x y ax ay bx by_∧onS x y cx cy dx dy
def Told (ax ay bx by_ cx cy dx dy:Rat):List (Rat × Rat)→Prop
 | []=>∀ x y,¬ both ax ay bx by_ cx cy dx dy x y
 | [p]=>∀ x y,both ax ay bx by_ cx cy dx dy x y ↔ x=p.1∧y=p.2
 | [p, q] => ¬ (ax = bx ∧ ay = by_) ∧ ∃ s t, s < t ∧ (p.1 = ax + (bx - ax) * s ∧ p.2 = ay + (by_ - ay) * s) ∧ (q.1 = ax + (bx - ax) * t ∧ q.2 = ay + (by_ - ay) * t) ∧
     ∀ x y,both ax ay bx by_ cx cy dx dy x y ↔ ∃ r,s≤r∧r≤t∧x=ax+(bx - ax)*r∧y=ay+(by_ - ay)*r
 | _=>False
theorem line_inj {ax ay bx by_ r s:Rat} (h:¬ (ax=bx∧ay=by_)) (hx:ax+(bx - ax)*r=ax+(bx - ax)*s) (hy:ay+(by_ - ay)*r=ay+(by_ - ay)*s):r=s:=by
 by_cases h1:ax=bx
 · exact eq_of_mul (u:=by_ - ay) (fun q=>h ⟨h1,by grind⟩) (by grind)
 · exact eq_of_mul (u:=bx - ax) (fun q=>h1 (by grind)) (by grind)
section
variable {ax ay bx by_ cx cy dx dy:Rat}
theorem told_one {l:List (Rat × Rat)} (h:Told ax ay bx by_ cx cy dx dy l):l.length≤2:=by
 match l,h with
 | [],_=>exact Nat.zero_le _
 | [_],_=>exact (by decide:1≤2)
 | [_,_],_=>exact Nat.le_refl _
 | _ :: _ :: _ :: _,h=>exact h.elim
theorem told_mem {l:List (Rat × Rat)} (h:Told ax ay bx by_ cx cy dx dy l) {p:Rat × Rat} (hp:p ∈ l):both ax ay bx by_ cx cy dx dy p.1 p.2:=by
 match l,h with
 | [],_=>cases hp
 | [q],h =>
   simp only [List.mem_cons,List.not_mem_nil,or_false] at hp
   subst hp
   exact (h _ _).2 ⟨rfl,rfl⟩
 | [q,r],⟨_,s,t,hst,hq,hr,h⟩ =>
   simp only [List.mem_cons,List.not_mem_nil,or_false] at hp
   rcases hp with rfl | rfl
   · exact (h _ _).2 ⟨s,Rat.le_refl,Rat.le_of_lt hst,hq.1,hq.2⟩
   · exact (h _ _).2 ⟨t,Rat.le_of_lt hst,Rat.le_refl,hr.1,hr.2⟩
 | _ :: _ :: _ :: _,h=>exact h.elim
theorem told_diff {p q:Rat × Rat} (h:Told ax ay bx by_ cx cy dx dy [p,q]):¬ (p.1=q.1∧p.2=q.2):=by
 obtain ⟨hn,s,t,hst,hp,hq,_⟩:=h
 intro e
 have:s=t:=line_inj hn (by rw [← hp.1,← hq.1,e.1]) (by rw [← hp.2,← hq.2,e.2])
 rw [this] at hst
 exact Rat.lt_irrefl hst
theorem told_len {ax' ay' bx' by' cx' cy' dx' dy':Rat} (hb:∀ x y,both ax ay bx by_ cx cy dx dy x y ↔ both ax' ay' bx' by' cx' cy' dx' dy' x y) {l m:List (Rat × Rat)} (h:Told ax ay bx by_ cx cy dx dy l) (h2:Told ax' ay' bx' by' cx' cy' dx' dy' m):l.length=m.length:=by
 match l,m,h,h2 with
 | [],[],_,_=>rfl
 | [],p :: m,h,h2=>exact absurd ((hb _ _).2 (told_mem h2 (List.mem_cons_self ..))) (h _ _)
 | p :: l,[],h,h2=>exact absurd ((hb _ _).1 (told_mem h (List.mem_cons_self ..))) (h2 _ _)
 | [p],[q],_,_=>rfl
 | [p],[q,r],h,h2 =>
   have e1:=(h _ _).1 ((hb _ _).2 (told_mem h2 (p:=q) (by simp)))
   have e2:=(h _ _).1 ((hb _ _).2 (told_mem h2 (p:=r) (by simp)))
   exact absurd ⟨e1.1.trans e2.1.symm,e1.2.trans e2.2.symm⟩ (told_diff h2)
 | [q,r],[p],h,h2 =>
   have e1:=(h2 _ _).1 ((hb _ _).1 (told_mem h (p:=q) (by simp)))
   have e2:=(h2 _ _).1 ((hb _ _).1 (told_mem h (p:=r) (by simp)))
   exact absurd ⟨e1.1.trans e2.1.symm,e1.2.trans e2.2.symm⟩ (told_diff h)
 | [_,_],[_,_],_,_=>rfl
 | _ :: _ :: _ :: _,_,h,_=>exact h.elim
 | _,_ :: _ :: _ :: _,_,h=>exact h.elim
theorem told_same {cx' cy' dx' dy':Rat} (hb:∀ x y,both ax ay bx by_ cx cy dx dy x y ↔ both ax ay bx by_ cx' cy' dx' dy' x y) {l m:List (Rat × Rat)} (h:Told ax ay bx by_ cx cy dx dy l) (h2:Told ax ay bx by_ cx' cy' dx' dy' m):l=m:=by
 have hl:=told_len hb h h2
 match l,m,h,h2 with
 | [],[],_,_=>rfl
 | [p],[q],h,h2 =>
   have e:=(h2 _ _).1 ((hb _ _).1 (told_mem h (p:=p) (by simp)))
   rw [show p=q from Prod.ext e.1 e.2]
 | [p,q],[p',q'],⟨hn,s,t,hst,hp,hq,hI⟩,⟨_,s',t',hst',hp',hq',hI'⟩ =>
   have key:∀ r,(s≤r∧r≤t) ↔ (s'≤r∧r≤t'):=by
    intro r
    have e:=(hI (ax+(bx - ax)*r) (ay+(by_ - ay)*r)).symm.trans ((hb _ _).trans (hI' _ _))
    constructor
    · intro h
      obtain ⟨r',h1,h2,hx,hy⟩:=e.1 ⟨r,h.1,h.2,rfl,rfl⟩
      rw [line_inj hn hx hy];exact ⟨h1,h2⟩
    · intro h
      obtain ⟨r',h1,h2,hx,hy⟩:=e.2 ⟨r,h.1,h.2,rfl,rfl⟩
      rw [line_inj hn hx hy];exact ⟨h1,h2⟩
   have a1:=(key s).1 ⟨Rat.le_refl,Rat.le_of_lt hst⟩
   have a2:=(key t).1 ⟨Rat.le_of_lt hst,Rat.le_refl⟩
   have a3:=(key s').2 ⟨Rat.le_refl,Rat.le_of_lt hst'⟩
   have a4:=(key t').2 ⟨Rat.le_of_lt hst',Rat.le_refl⟩
   have es:s=s':=Rat.le_antisymm a3.1 a1.1
   have et:t=t':=Rat.le_antisymm a2.2 a4.2
   subst es et
   rw [show p=p' from Prod.ext (hp.1.trans hp'.1.symm) (hp.2.trans hp'.2.symm),show q=q' from Prod.ext (hq.1.trans hq'.1.symm) (hq.2.trans hq'.2.symm)]
 | [],_ :: _,_,_=>cases hl
 | _ :: _,[],_,_=>cases hl
 | [_],_ :: _ :: _,_,_=>simp at hl
 | _ :: _ :: _,[_],_,_=>simp at hl
 | _ :: _ :: _ :: _,_,h,_=>exact h.elim
 | _,_ :: _ :: _ :: _,_,h=>exact h.elim
theorem on_lt {p a b m:Rat} {t:Rat} (h0:0≤t) (h1:t≤1) (h:p=a+(b - a)*t) (ha:a≤m) (hb:b≤m):p≤m:=by
 have e1:=Rat.mul_nonneg (show 0≤m - a by grind) (show 0≤1 - t by grind)
 have e2:=Rat.mul_nonneg (show 0≤m - b by grind) h0
 grind
theorem on_gt {p a b m:Rat} {t:Rat} (h0:0≤t) (h1:t≤1) (h:p=a+(b - a)*t) (ha:m≤a) (hb:m≤b):m≤p:=by
 have e1:=Rat.mul_nonneg (show 0≤a - m by grind) (show 0≤1 - t by grind)
 have e2:=Rat.mul_nonneg (show 0≤b - m by grind) h0
 grind
theorem part_lt {p a b c d s t:Rat} (h0:0≤t) (h1:t≤1) (h:p=a+(b - a)*t) (g0:0≤s) (g1:s≤1) (g:p=c+(d - c)*s) (h2:a < c) (h3:a < d) (h4:b < c) (h5:b < d):False:=by
 by_cases q:a≤b
 · have e1:=on_lt h0 h1 h q Rat.le_refl
   have e2:b < p:=by
    by_cases q2:c≤d
    · have:=on_gt g0 g1 g Rat.le_refl q2;grind
    · have:=on_gt g0 g1 g (m:=d) (by grind) Rat.le_refl;grind
   grind
 · have e1:=on_lt h0 h1 h (m:=a) Rat.le_refl (by grind)
   have e2:a < p:=by
    by_cases q2:c≤d
    · have:=on_gt g0 g1 g Rat.le_refl q2;grind
    · have:=on_gt g0 g1 g (m:=d) (by grind) Rat.le_refl;grind
   grind
def apartQ (a b c d:Rat):Prop:=(a < c∧a < d∧b < c∧b < d) ∨ (c < a∧d < a∧c < b∧d < b)
theorem part_none {p a b c d s t:Rat} (h0:0≤t) (h1:t≤1) (h:p=a+(b - a)*t) (g0:0≤s) (g1:s≤1) (g:p=c+(d - c)*s):¬ apartQ a b c d:=by
 rintro (q | q)
 · exact part_lt h0 h1 h g0 g1 g q.1 q.2.1 q.2.2.1 q.2.2.2
 · exact part_lt g0 g1 g h0 h1 h q.1 q.2.2.1 q.2.1 q.2.2.2
theorem told_apart (h:apartQ ax bx cx dx ∨ apartQ ay by_ cy dy):Told ax ay bx by_ cx cy dx dy []:=by
 rintro x y ⟨⟨t,h0,h1,hx,hy⟩,⟨s,g0,g1,gx,gy⟩⟩
 rcases h with q | q
 · exact part_none h0 h1 hx g0 g1 gx q
 · exact part_none h0 h1 hy g0 g1 gy q
theorem cross_iff {f g x y:Rat} (hk:(bx - ax)*(dy - cy) - (by_ - ay)*(dx - cx) ≠ 0)
 (hf:f*((bx - ax)*(dy - cy) - (by_ - ay)*(dx - cx))=(cx - ax)*(dy - cy) - (cy - ay)*(dx - cx))
 (hg:g*((bx - ax)*(dy - cy) - (by_ - ay)*(dx - cx))=(cx - ax)*(by_ - ay) - (cy - ay)*(bx - ax)) :
 both ax ay bx by_ cx cy dx dy x y ↔ (0≤f∧f≤1)∧(0≤g∧g≤1)∧x=ax+(bx - ax)*f∧y=ay+(by_ - ay)*f:=by
 constructor
 · rintro ⟨⟨t,h0,h1,hx,hy⟩,⟨s,g0,g1,gx,gy⟩⟩
   have e1:(bx - ax)*t - (dx - cx)*s=cx - ax:=by grind
   have e2:(by_ - ay)*t - (dy - cy)*s=cy - ay:=by grind
   have ef:f=t:=eq_of_mul hk (by rw [hf,← e1,← e2];grind)
   have eg:g=s:=eq_of_mul hk (by rw [hg,← e1,← e2];grind)
   rw [ef,eg]
   exact ⟨⟨h0,h1⟩,⟨g0,g1⟩,hx,hy⟩
 · rintro ⟨hf1,hg1,hx,hy⟩
   refine ⟨⟨f,hf1.1,hf1.2,hx,hy⟩,⟨g,hg1.1,hg1.2,?_,?_⟩⟩
   · rw [hx];refine eq_of_mul hk ?_;grind
   · rw [hy];refine eq_of_mul hk ?_;grind
end
noncomputable def pick {α:Type} (K:α→Prop) (l:List α) (p:α):List α:=open Classical in if K p∧p ∉ l then l ++ [p] else l
def Spec1 (K:Rat→Prop):List Rat→Prop
 | []=>∀ x,¬ K x
 | [s]=>∀ x,K x ↔ x=s
 | [s,t]=>s < t∧∀ x,K x ↔ s≤x∧x≤t
 | _=>False
theorem pick_yes {α:Type} {K:α→Prop} {l:List α} {p:α} (h:K p) (h2:p ∉ l):pick K l p=l ++ [p]:=if_pos ⟨h,h2⟩
theorem pick_no {α:Type} {K:α→Prop} {l:List α} {p:α} (h:¬ K p):pick K l p=l:=if_neg (fun q=>h q.1)
theorem pick_old {α:Type} {K:α→Prop} {l:List α} {p:α} (h:p ∈ l):pick K l p=l:=if_neg (fun q=>q.2 h)
def keep1 (g d x:Rat):Prop:=(0≤x∧x≤1)∧((g≤x∧x≤d) ∨ (d≤x∧x≤g))
theorem ends1 {g d:Rat} (h:(g≤d ∨ g≤-d)∧(-g≤d ∨ -g≤-d)):Spec1 (keep1 g d) (pick (keep1 g d) (pick (keep1 g d) (pick (keep1 g d) (pick (keep1 g d) [] 0) g) d) 1):=by
 have e0:keep1 g d 0 ↔ (g≤0∧0≤d) ∨ (d≤0∧0≤g):=by unfold keep1;grind
 have e1:keep1 g d 1 ↔ (g≤1∧1≤d) ∨ (d≤1∧1≤g):=by unfold keep1;grind
 have eg:keep1 g d g ↔ 0≤g∧g≤1:=by unfold keep1;grind
 have ed:keep1 g d d ↔ 0≤d∧d≤1:=by unfold keep1;grind
 by_cases h0:keep1 g d 0 <;> by_cases hg:keep1 g d g <;> by_cases hd:keep1 g d d <;> by_cases h1:keep1 g d 1 <;> by_cases z1:g=0 <;> by_cases z2:d=0 <;> by_cases z3:d=g <;> by_cases z4:g=1 <;> by_cases z5:d=1 <;> first
  | (exfalso;grind)
  | (simp [pick,h0,hg,hd,h1,z1,z2,z3,z4,z5,Spec1];unfold keep1 at *;grind)
noncomputable def pickR {α:Type} (K:α→Prop) (F:α→Rat) (l:List α) (p:α):List α:=open Classical in if K p∧p ∉ l then (match l with | [q]=>if F p < F q then [p,q] else [q,p] | _=>l ++ [p]) else l
theorem pickR_no {α:Type} {K:α→Prop} {F:α→Rat} {l:List α} {p:α} (h:¬ K p):pickR K F l p=l:=if_neg (fun q=>h q.1)
theorem pickR_old {α:Type} {K:α→Prop} {F:α→Rat} {l:List α} {p:α} (h:p ∈ l):pickR K F l p=l:=if_neg (fun q=>q.2 h)
theorem pickR_yes {α:Type} {K:α→Prop} {F:α→Rat} {l:List α} {p:α} (h:K p) (h2:p ∉ l) (h3:l.length ≠ 1):pickR K F l p=l ++ [p]:=by
 unfold pickR
 rw [if_pos ⟨h,h2⟩]
 match l,h3 with
 | [],_=>rfl
 | [_],h3=>exact absurd rfl h3
 | _ :: _ :: _,_=>rfl
theorem pickR_lt {α:Type} {K:α→Prop} {F:α→Rat} {q p:α} (h:K p) (h2:p ≠ q) (h3:F p < F q):pickR K F [q] p=[p,q]:=by
 unfold pickR
 rw [if_pos ⟨h,by simpa using h2⟩]
 exact if_pos h3
theorem pickR_ge {α:Type} {K:α→Prop} {F:α→Rat} {q p:α} (h:K p) (h2:p ≠ q) (h3:¬ F p < F q):pickR K F [q] p=[q,p]:=by
 unfold pickR
 rw [if_pos ⟨h,by simpa using h2⟩]
 exact if_neg h3
theorem sq_lt_of {x y:Rat} (hx:0≤x) (hy:0≤y):x*x < y*y ↔ x < y:=by
 constructor
 · intro h
   refine Rat.not_le.1 fun q=>?_
   have e1:=Rat.mul_nonneg (show 0≤x - y by grind) (show 0≤x+y by grind)
   grind
 · intro h
   have e1:=Rat.mul_pos (show 0 < y - x by grind) (show 0 < x+y by grind)
   grind
theorem ends1R {g d:Rat}:Spec1 (keep1 g d) (pickR (keep1 g d) (fun x=>x*x) (pickR (keep1 g d) (fun x=>x*x) (pickR (keep1 g d) (fun x=>x*x) (pickR (keep1 g d) (fun x=>x*x) [] 0) 1) g) d):=by
 have e0:keep1 g d 0 ↔ (g≤0∧0≤d) ∨ (d≤0∧0≤g):=by unfold keep1;grind
 have e1:keep1 g d 1 ↔ (g≤1∧1≤d) ∨ (d≤1∧1≤g):=by unfold keep1;grind
 have eg:keep1 g d g ↔ 0≤g∧g≤1:=by unfold keep1;grind
 have ed:keep1 g d d ↔ 0≤d∧d≤1:=by unfold keep1;grind
 have n1:0 < g→0 < g*g:=fun h=>Rat.mul_pos h h
 have n2:0 < d→0 < d*d:=fun h=>Rat.mul_pos h h
 have m1:0≤g→(g*g < 1 ↔ g < 1):=fun h=>by have:=sq_lt_of h (show (0:Rat)≤1 by decide);grind
 have m2:0≤d→(d*d < 1 ↔ d < 1):=fun h=>by have:=sq_lt_of h (show (0:Rat)≤1 by decide);grind
 have m3:0≤g→0≤d→(d*d < g*g ↔ d < g):=fun h h2=>sq_lt_of h2 h
 by_cases h0:keep1 g d 0 <;> by_cases hg:keep1 g d g <;> by_cases hd:keep1 g d d <;> by_cases h1:keep1 g d 1 <;> by_cases z1:g=0 <;> by_cases z2:d=0 <;> by_cases z3:d=g <;> by_cases z4:g=1 <;> by_cases z5:d=1 <;> first
  | (exfalso;grind)
  | (simp [pickR,h0,hg,hd,h1,z1,z2,z3,z4,z5,Spec1];(repeat' split) <;> unfold keep1 at*<;> grind)
section
variable {ax ay bx by_ cx cy dx dy:Rat}
def lineAt (ax ay bx by_ r:Rat):Rat × Rat:=(ax+(bx - ax)*r,ay+(by_ - ay)*r)
theorem lineAt_inj (hn:¬ (ax=bx∧ay=by_)) {r s:Rat} (h:lineAt ax ay bx by_ r=lineAt ax ay bx by_ s):r=s:=line_inj hn (congrArg Prod.fst h) (congrArg Prod.snd h)
theorem mem_map_at (hn:¬ (ax=bx∧ay=by_)) {l:List Rat} {r:Rat}:lineAt ax ay bx by_ r ∈ l.map (lineAt ax ay bx by_) ↔ r ∈ l:=by
 rw [List.mem_map]
 exact ⟨fun ⟨s,h1,h2⟩=>by rw [lineAt_inj hn h2.symm];exact h1,fun h=>⟨r,h,rfl⟩⟩
theorem pick_map (hn:¬ (ax=bx∧ay=by_)) {K1:Rat→Prop} {K2:Rat × Rat→Prop} (hK:∀ r,K2 (lineAt ax ay bx by_ r) ↔ K1 r) (l:List Rat) (r:Rat):pick K2 (l.map (lineAt ax ay bx by_)) (lineAt ax ay bx by_ r)=(pick K1 l r).map (lineAt ax ay bx by_):=by
 by_cases h:K1 r
 · by_cases h2:r ∈ l
   · rw [pick_old h2,pick_old ((mem_map_at hn).2 h2)]
   · rw [pick_yes h h2,pick_yes ((hK r).2 h) (fun q=>h2 ((mem_map_at hn).1 q)),List.map_append];rfl
 · rw [pick_no h,pick_no (fun q=>h ((hK r).1 q))]
theorem pickR_map (hn:¬ (ax=bx∧ay=by_)) {K1:Rat→Prop} {K2:Rat × Rat→Prop} {F1:Rat→Rat} {F2:Rat × Rat→Rat} (hK:∀ r,K2 (lineAt ax ay bx by_ r) ↔ K1 r) (hF:∀ r s,F2 (lineAt ax ay bx by_ r) < F2 (lineAt ax ay bx by_ s) ↔ F1 r < F1 s) (l:List Rat) (r:Rat):pickR K2 F2 (l.map (lineAt ax ay bx by_)) (lineAt ax ay bx by_ r)=(pickR K1 F1 l r).map (lineAt ax ay bx by_):=by
 by_cases h:K1 r
 · by_cases h2:r ∈ l
   · rw [pickR_old h2,pickR_old ((mem_map_at hn).2 h2)]
   · have h3:lineAt ax ay bx by_ r ∉ l.map (lineAt ax ay bx by_):=fun q=>h2 ((mem_map_at hn).1 q)
     match l,h2,h3 with
     | [],h2,h3=>rw [pickR_yes h h2 (by simp),pickR_yes ((hK r).2 h) h3 (by simp)];rfl
     | [q],h2,h3 =>
       have h4:r ≠ q:=by simpa using h2
       have h5:lineAt ax ay bx by_ r ≠ lineAt ax ay bx by_ q:=fun e=>h4 (lineAt_inj hn e)
       by_cases h6:F1 r < F1 q
       · rw [pickR_lt h h4 h6];exact pickR_lt ((hK r).2 h) h5 ((hF _ _).2 h6)
       · rw [pickR_ge h h4 h6];exact pickR_ge ((hK r).2 h) h5 (fun e=>h6 ((hF _ _).1 e))
     | a :: b :: l,h2,h3=>rw [pickR_yes h h2 (by simp),pickR_yes ((hK r).2 h) h3 (by simp),List.map_append];rfl
 · rw [pickR_no h,pickR_no (fun q=>h ((hK r).1 q))]
theorem spec_told (hn:¬ (ax=bx∧ay=by_)) {K1:Rat→Prop} (hb:∀ x y,both ax ay bx by_ cx cy dx dy x y ↔ ∃ r,K1 r∧(x,y)=lineAt ax ay bx by_ r) {l:List Rat} (h:Spec1 K1 l):Told ax ay bx by_ cx cy dx dy (l.map (lineAt ax ay bx by_)):=by
 match l,h with
 | [],h=>exact fun x y q=>by obtain ⟨r,h1,_⟩:=(hb x y).1 q;exact h r h1
 | [s],h =>
   intro x y
   rw [hb]
   constructor
   · rintro ⟨r,h1,h2⟩
     rw [(h r).1 h1] at h2
     exact ⟨congrArg Prod.fst h2,congrArg Prod.snd h2⟩
   · rintro ⟨h1,h2⟩
     exact ⟨s,(h s).2 rfl,Prod.ext h1 h2⟩
 | [s,t],⟨hst,h⟩ =>
   refine ⟨hn,s,t,hst,⟨rfl,rfl⟩,⟨rfl,rfl⟩,fun x y=>?_⟩
   rw [hb]
   constructor
   · rintro ⟨r,h1,h2⟩
     exact ⟨r,((h r).1 h1).1,((h r).1 h1).2,congrArg Prod.fst h2,congrArg Prod.snd h2⟩
   · rintro ⟨r,h1,h2,h3,h4⟩
     exact ⟨r,(h r).2 ⟨h1,h2⟩,Prod.ext h3 h4⟩
 | _ :: _ :: _ :: _,h=>exact h.elim
theorem on_line {px py:Rat} (hn:¬ (ax=bx∧ay=by_)) (h:(bx - ax)*(py - ay)=(by_ - ay)*(px - ax)):∃ r,px=ax+(bx - ax)*r∧py=ay+(by_ - ay)*r:=by
 by_cases h1:ax=bx
 · have hu:by_ - ay ≠ 0:=fun q=>hn ⟨h1,by grind⟩
   have e:(py - ay) / (by_ - ay)*(by_ - ay)=py - ay:=div_mul_self hu
   refine ⟨(py - ay) / (by_ - ay),?_,by grind⟩
   have:px=ax:=eq_of_mul hu (by subst h1;grind)
   rw [this,h1];grind
 · have hu:bx - ax ≠ 0:=fun q=>h1 (by grind)
   have e:(px - ax) / (bx - ax)*(bx - ax)=px - ax:=div_mul_self hu
   refine ⟨(px - ax) / (bx - ax),by grind,?_⟩
   generalize (px - ax) / (bx - ax)=r at e
   refine eq_of_mul hu ?_
   rw [← e] at h
   grind
theorem both_line {g d:Rat} (hn:¬ (ax=bx∧ay=by_)) (hc:cx=ax+(bx - ax)*g∧cy=ay+(by_ - ay)*g) (hd:dx=ax+(bx - ax)*d∧dy=ay+(by_ - ay)*d) (x y:Rat):both ax ay bx by_ cx cy dx dy x y ↔ ∃ r,keep1 g d r∧(x,y)=lineAt ax ay bx by_ r:=by
 constructor
 · rintro ⟨⟨t,h0,h1,hx,hy⟩,⟨s,g0,g1,gx,gy⟩⟩
   refine ⟨t,⟨⟨h0,h1⟩,?_⟩,Prod.ext hx hy⟩
   have e:t=g+(d - g)*s:=line_inj hn (by rw [← hx,gx,hc.1,hd.1];grind) (by rw [← hy,gy,hc.2,hd.2];grind)
   by_cases q:g≤d
   · exact .inl ⟨on_gt g0 g1 e Rat.le_refl q,on_lt g0 g1 e q Rat.le_refl⟩
   · exact .inr ⟨on_gt g0 g1 e (by grind) Rat.le_refl,on_lt g0 g1 e Rat.le_refl (by grind)⟩
 · rintro ⟨r,⟨⟨h0,h1⟩,hk⟩,e⟩
   have ex:x=ax+(bx - ax)*r:=congrArg Prod.fst e
   have ey:y=ay+(by_ - ay)*r:=congrArg Prod.snd e
   refine ⟨⟨r,h0,h1,ex,ey⟩,?_⟩
   have:∃ s,0≤s∧s≤1∧r=g+(d - g)*s:=by
    by_cases q:g=d
    · exact ⟨0,Rat.le_refl,by decide,by grind⟩
    · refine share_of q ?_
      rcases hk with hk | hk
      · exact Rat.mul_nonneg (by grind) (by grind)
      · have:=Rat.mul_nonneg (show 0≤g - r by grind) (show 0≤r - d by grind);grind
   obtain ⟨s,s0,s1,es⟩:=this
   exact ⟨s,s0,s1,by rw [ex,hc.1,hd.1,es];grind,by rw [ey,hc.2,hd.2,es];grind⟩
def bothP (ax ay bx by_ cx cy dx dy:Rat) (p:Rat × Rat):Prop:=both ax ay bx by_ cx cy dx dy p.1 p.2
theorem both_off (hk:(bx - ax)*(dy - cy) - (by_ - ay)*(dx - cx)=0) (h:¬ (bx - ax)*(cy - ay)=(by_ - ay)*(cx - ax)) (x y:Rat):¬ both ax ay bx by_ cx cy dx dy x y:=by
 rintro ⟨⟨t,h0,h1,hx,hy⟩,⟨s,g0,g1,gx,gy⟩⟩
 apply h
 have e1:cx=ax+(bx - ax)*t - (dx - cx)*s:=by grind
 have e2:cy=ay+(by_ - ay)*t - (dy - cy)*s:=by grind
 have e3:((bx - ax)*(dy - cy) - (by_ - ay)*(dx - cx))*s=0:=by rw [hk,Rat.zero_mul]
 have e4:cx - ax=(bx - ax)*t - (dx - cx)*s:=by grind
 have e5:cy - ay=(by_ - ay)*t - (dy - cy)*s:=by grind
 rw [e4,e5]
 grind
theorem told_ends (hk:(bx - ax)*(dy - cy) - (by_ - ay)*(dx - cx)=0) (hf:farQ ax ay cx cy≤farQ ax ay dx dy) :
 Told ax ay bx by_ cx cy dx dy (pick (bothP ax ay bx by_ cx cy dx dy) (pick (bothP ax ay bx by_ cx cy dx dy) (pick (bothP ax ay bx by_ cx cy dx dy) (pick (bothP ax ay bx by_ cx cy dx dy) [] (ax,ay)) (cx,cy)) (dx,dy)) (bx,by_)):=by
 by_cases hn:ax=bx∧ay=by_
 · obtain ⟨rfl,rfl⟩:=hn
   have hab:∀ x y,both ax ay ax ay cx cy dx dy x y→x=ax∧y=ay:=by
    rintro x y ⟨⟨t,h0,h1,hx,hy⟩,_⟩
    exact ⟨by grind,by grind⟩
   by_cases ha:both ax ay ax ay cx cy dx dy ax ay
   · have st : ∀ p, pick (bothP ax ay ax ay cx cy dx dy) [(ax, ay)] p = [(ax, ay)] := by
       intro p
       by_cases h:bothP ax ay ax ay cx cy dx dy p
       · exact pick_old (by rw [show p=(ax,ay) from Prod.ext (hab _ _ h).1 (hab _ _ h).2];simp)
       · exact pick_no h
     rw [pick_yes (l:=[]) (show bothP ax ay ax ay cx cy dx dy (ax,ay) from ha) (by simp),List.nil_append,st,st,st]
     exact fun x y=>⟨fun h=>hab x y h,fun h=>by rw [h.1,h.2];exact ha⟩
   · have no : ∀ x y, ¬ both ax ay ax ay cx cy dx dy x y := fun x y h => by
       have:=hab x y h
       rw [this.1,this.2] at h
       exact ha h
     have st:∀ p,pick (bothP ax ay ax ay cx cy dx dy) [] p=[]:=fun p=>pick_no (no _ _)
     rw [st,st,st,st]
     exact no
 · by_cases h:(bx - ax)*(cy - ay)=(by_ - ay)*(cx - ax)
   · obtain ⟨g,hg⟩:=on_line (px:=cx) (py:=cy) hn h
     obtain ⟨d,hd⟩:=on_line (px:=dx) (py:=dy) hn (by grind)
     have hb:=both_line hn hg hd
     have hK:∀ r,bothP ax ay bx by_ cx cy dx dy (lineAt ax ay bx by_ r) ↔ keep1 g d r:=by
      intro r
      refine (hb _ _).trans ⟨fun ⟨s,h1,h2⟩=>?_,fun h=>⟨r,h,rfl⟩⟩
      rw [lineAt_inj hn (r:=r) (s:=s) h2];exact h1
     have hw:0 < wholeQ ax ay bx by_:=by
      rcases Rat.le_iff_lt_or_eq.1 (whole_nn ax ay bx by_) with q | q
      · exact q
      · exact absurd (whole_z _ _ _ _ q.symm) hn
     have hgd:g*g≤d*d:=by
      refine Rat.le_of_mul_le_mul_right (c:=wholeQ ax ay bx by_) ?_ hw
      have e1:g*g*wholeQ ax ay bx by_=farQ ax ay cx cy:=by rw [hg.1,hg.2];unfold wholeQ farQ;grind
      have e2:d*d*wholeQ ax ay bx by_=farQ ax ay dx dy:=by rw [hd.1,hd.2];unfold wholeQ farQ;grind
      rw [e1,e2];exact hf
     have habs:(g≤d ∨ g≤-d)∧(-g≤d ∨ -g≤-d):=by
      constructor
      · by_cases q:g≤d
        · exact .inl q
        · refine .inr (Rat.not_lt.1 fun q2=>?_)
          have:=Rat.mul_pos (show 0 < g - d by grind) (show 0 < g+d by grind)
          grind
      · by_cases q:-g≤d
        · exact .inl q
        · refine .inr (Rat.not_lt.1 fun q2=>?_)
          have:=Rat.mul_pos (show 0 < -g - d by grind) (show 0 < -g+d by grind)
          grind
     have e:=spec_told hn hb (ends1 habs)
     have pa:(ax,ay)=lineAt ax ay bx by_ 0:=Prod.ext (by show ax=ax+(bx - ax)*0;grind) (by show ay=ay+(by_ - ay)*0;grind)
     have pb:(bx,by_)=lineAt ax ay bx by_ 1:=Prod.ext (by show bx=ax+(bx - ax)*1;grind) (by show by_=ay+(by_ - ay)*1;grind)
     have pc:(cx,cy)=lineAt ax ay bx by_ g:=Prod.ext hg.1 hg.2
     have pd:(dx,dy)=lineAt ax ay bx by_ d:=Prod.ext hd.1 hd.2
     rw [pa,pb,pc,pd,show ([]:List (Rat × Rat))=[].map (lineAt ax ay bx by_) from rfl,pick_map hn hK,pick_map hn hK,pick_map hn hK,pick_map hn hK]
     exact e
   · have no:=both_off hk h
     have st:∀ p,pick (bothP ax ay bx by_ cx cy dx dy) [] p=[]:=fun p=>pick_no (no _ _)
     rw [st,st,st,st]
     exact no
theorem told_endsR (hk:(bx - ax)*(dy - cy) - (by_ - ay)*(dx - cx)=0) (F:Rat × Rat→Rat) (hF:∀ p,F p=(p.1 - ax)*(p.1 - ax)+(p.2 - ay)*(p.2 - ay)) :
 Told ax ay bx by_ cx cy dx dy (pickR (bothP ax ay bx by_ cx cy dx dy) F (pickR (bothP ax ay bx by_ cx cy dx dy) F (pickR (bothP ax ay bx by_ cx cy dx dy) F (pickR (bothP ax ay bx by_ cx cy dx dy) F [] (ax,ay)) (bx,by_)) (cx,cy)) (dx,dy)):=by
 by_cases hn:ax=bx∧ay=by_
 · obtain ⟨rfl,rfl⟩:=hn
   have hab:∀ x y,both ax ay ax ay cx cy dx dy x y→x=ax∧y=ay:=by
    rintro x y ⟨⟨t,h0,h1,hx,hy⟩,_⟩
    exact ⟨by grind,by grind⟩
   by_cases ha:both ax ay ax ay cx cy dx dy ax ay
   · have st : ∀ p, pickR (bothP ax ay ax ay cx cy dx dy) F [(ax, ay)] p = [(ax, ay)] := by
       intro p
       by_cases h:bothP ax ay ax ay cx cy dx dy p
       · exact pickR_old (by rw [show p=(ax,ay) from Prod.ext (hab _ _ h).1 (hab _ _ h).2];simp)
       · exact pickR_no h
     rw [pickR_yes (l:=[]) (show bothP ax ay ax ay cx cy dx dy (ax,ay) from ha) (by simp) (by decide),List.nil_append,st,st,st]
     exact fun x y=>⟨fun h=>hab x y h,fun h=>by rw [h.1,h.2];exact ha⟩
   · have no : ∀ x y, ¬ both ax ay ax ay cx cy dx dy x y := fun x y h => by
       have:=hab x y h
       rw [this.1,this.2] at h
       exact ha h
     have st:∀ p,pickR (bothP ax ay ax ay cx cy dx dy) F [] p=[]:=fun p=>pickR_no (no _ _)
     rw [st,st,st,st]
     exact no
 · by_cases h:(bx - ax)*(cy - ay)=(by_ - ay)*(cx - ax)
   · obtain ⟨g,hg⟩:=on_line (px:=cx) (py:=cy) hn h
     obtain ⟨d,hd⟩:=on_line (px:=dx) (py:=dy) hn (by grind)
     have hb:=both_line hn hg hd
     have hK:∀ r,bothP ax ay bx by_ cx cy dx dy (lineAt ax ay bx by_ r) ↔ keep1 g d r:=by
      intro r
      refine (hb _ _).trans ⟨fun ⟨s,h1,h2⟩=>?_,fun h=>⟨r,h,rfl⟩⟩
      rw [lineAt_inj hn (r:=r) (s:=s) h2];exact h1
     have hw:0 < wholeQ ax ay bx by_:=by
      rcases Rat.le_iff_lt_or_eq.1 (whole_nn ax ay bx by_) with q | q
      · exact q
      · exact absurd (whole_z _ _ _ _ q.symm) hn
     have hFF:∀ r s,F (lineAt ax ay bx by_ r) < F (lineAt ax ay bx by_ s) ↔ r*r < s*s:=by
      intro r s
      have e:∀ r,F (lineAt ax ay bx by_ r)=r*r*wholeQ ax ay bx by_:=by
       intro r;rw [hF];unfold lineAt wholeQ;grind
      rw [e,e]
      exact Rat.mul_lt_mul_right hw
     have e:=spec_told hn hb ends1R
     have pa:(ax,ay)=lineAt ax ay bx by_ 0:=Prod.ext (by show ax=ax+(bx - ax)*0;grind) (by show ay=ay+(by_ - ay)*0;grind)
     have pb:(bx,by_)=lineAt ax ay bx by_ 1:=Prod.ext (by show bx=ax+(bx - ax)*1;grind) (by show by_=ay+(by_ - ay)*1;grind)
     have pc:(cx,cy)=lineAt ax ay bx by_ g:=Prod.ext hg.1 hg.2
     have pd:(dx,dy)=lineAt ax ay bx by_ d:=Prod.ext hd.1 hd.2
     rw [pa,pb,pc,pd,show ([]:List (Rat × Rat))=[].map (lineAt ax ay bx by_) from rfl,pickR_map hn hK hFF,pickR_map hn hK hFF,pickR_map hn hK hFF,pickR_map hn hK hFF]
     exact e
   · have no:=both_off hk h
     have st:∀ p,pickR (bothP ax ay bx by_ cx cy dx dy) F [] p=[]:=fun p=>pickR_no (no _ _)
     rw [st,st,st,st]
     exact no
theorem both_swap (x y:Rat):both ax ay bx by_ cx cy dx dy x y ↔ both ax ay bx by_ dx dy cx cy x y:=by unfold both;rw [on_back (ax:=cx)]
theorem told_by {cx' cy' dx' dy':Rat} (hb:∀ x y,both ax ay bx by_ cx cy dx dy x y ↔ both ax ay bx by_ cx' cy' dx' dy' x y) {l:List (Rat × Rat)} (h:Told ax ay bx by_ cx cy dx dy l):Told ax ay bx by_ cx' cy' dx' dy' l:=by
 match l,h with
 | [],h=>exact fun x y q=>h x y ((hb x y).2 q)
 | [p],h=>exact fun x y=>(hb x y).symm.trans (h x y)
 | [p,q],⟨hn,s,t,hst,h1,h2,h3⟩=>exact ⟨hn,s,t,hst,h1,h2,fun x y=>(hb x y).symm.trans (h3 x y)⟩
 | _ :: _ :: _ :: _,h=>exact h.elim
end
end
section
open Go Go.RowKit
theorem sgn_mul (x y:Rat):0≤sgnQ x*sgnQ y ↔ 0≤x*y:=by
 rcases (show x < 0 ∨ x=0 ∨ 0 < x by rcases Rat.le_total (a:=0) (b:=x) with h | h <;> rcases Rat.le_iff_lt_or_eq.1 h with q | q <;> grind) with h | h | h <;>
 rcases (show y < 0 ∨ y=0 ∨ 0 < y by rcases Rat.le_total (a:=0) (b:=y) with h | h <;> rcases Rat.le_iff_lt_or_eq.1 h with q | q <;> grind) with g | g | g
 · have:=Rat.mul_pos (show 0 < -x by grind) (show 0 < -y by grind)
   rw [show sgnQ x=-1 by unfold sgnQ;rw [if_pos h],show sgnQ y=-1 by unfold sgnQ;rw [if_pos g]]
   exact ⟨fun _=>by grind,fun _=>by decide⟩
 · rw [g,Rat.mul_zero];exact ⟨fun _=>Rat.le_refl,fun _=>by rw [show sgnQ 0=0 from rfl];simp⟩
 · have:=Rat.mul_pos (show 0 < -x by grind) g
   rw [show sgnQ x=-1 by unfold sgnQ;rw [if_pos h],show sgnQ y=1 by unfold sgnQ;rw [if_neg (by grind),if_neg (by grind)]]
   exact ⟨fun e=>absurd e (by decide),fun _=>by grind⟩
 · rw [h,Rat.zero_mul];exact ⟨fun _=>Rat.le_refl,fun _=>by rw [show sgnQ 0=0 from rfl];simp⟩
 · rw [h,Rat.zero_mul];exact ⟨fun _=>Rat.le_refl,fun _=>by rw [show sgnQ 0=0 from rfl];simp⟩
 · rw [h,Rat.zero_mul];exact ⟨fun _=>Rat.le_refl,fun _=>by rw [show sgnQ 0=0 from rfl];simp⟩
 · have:=Rat.mul_pos h (show 0 < -y by grind)
   rw [show sgnQ x=1 by unfold sgnQ;rw [if_neg (by grind),if_neg (by grind)],show sgnQ y=-1 by unfold sgnQ;rw [if_pos g]]
   exact ⟨fun e=>absurd e (by decide),fun _=>by grind⟩
 · rw [g,Rat.mul_zero];exact ⟨fun _=>Rat.le_refl,fun _=>by rw [show sgnQ 0=0 from rfl];simp⟩
 · have:=Rat.mul_pos h g
   rw [show sgnQ x=1 by unfold sgnQ;rw [if_neg (by grind),if_neg (by grind)],show sgnQ y=1 by unfold sgnQ;rw [if_neg (by grind),if_neg (by grind)]]
   exact ⟨fun _=>by grind,fun _=>by decide⟩
def inQ (v a b:Rat):Prop:=0≤(v - a)*(b - v)
instance (v a b:Rat):Decidable (inQ v a b):=inferInstanceAs (Decidable (_≤_))
theorem within_eq (v a b:Rat):decide (0≤IntKind.i64.wrap (cmpQ a v*cmpQ v b))=decide (inQ v a b):=by
 have h1:=cmpQ_abs a v;have h2:=cmpQ_abs v b
 have e:IntKind.i64.wrap (cmpQ a v*cmpQ v b)=cmpQ a v*cmpQ v b:=by
  have a1:cmpQ a v=-1 ∨ cmpQ a v=0 ∨ cmpQ a v=1:=by omega
  have a2:cmpQ v b=-1 ∨ cmpQ v b=0 ∨ cmpQ v b=1:=by omega
  rcases a1 with q | q | q <;> rcases a2 with r | r | r <;> rw [q,r] <;> decide +kernel
 rw [e,cmp_sub,cmp_sub]
 have e2:0≤sgnQ (a - v)*sgnQ (v - b) ↔ inQ v a b:=by
  rw [sgn_mul];unfold inQ
  rw [show (a - v)*(v - b)=(v - a)*(b - v) by grind]
 by_cases h:inQ v a b
 · rw [decide_eq_true h,decide_eq_true (e2.2 h)]
 · rw [decide_eq_false h,decide_eq_false (fun q=>h (e2.1 q))]
theorem within_q {k1 k2 k3:Nat} {xv xa xb:Rat} (v:QR w s_v A_v n_v c_v B_v m_v d_v xv k1) (a:QR w s_a A_a n_a c_a B_a m_a d_a xa k2) (b:QR w s_b A_b n_b c_b B_b m_b d_b xb k3) (h1:k1≤400) (h2:k2≤400) (h3:k3≤400) (g1:1≤k1) (g2:1≤k2) (g3:1≤k3) (R:Bool) (hR:decide (inQ xv xa xb)=R) :
 Calls Tryz.prog 99 #[.agg #[.bool s_v,.slice A_v n_v c_v,.slice B_v m_v d_v],.agg #[.bool s_a,.slice A_a n_a c_a,.slice B_a m_a d_a],.agg #[.bool s_b,.slice A_b n_b c_b,.slice B_b m_b d_b]] w fun e w'=>e=.returned (.bool R)∧Below w.heap.size w w':=by
 rw [← within_eq] at hR
 obtain ⟨K,hK⟩:∃ K,cmpQ xa xv=K:=⟨_,rfl⟩
 obtain ⟨M,hM⟩:∃ M,cmpQ xv xb=M:=⟨_,rfl⟩
 rw [hK,hM] at hR
 have HK:=Lib.hid hK;have HM:=Lib.hid hM;have HR:=Lib.hid hR;clear hK hM hR
 go_enter Tryz.func99,Tryz.ntmps99
 go_upto_region 1 with (fail)
 generalize hW:World.alloc _ _=W
 obtain ⟨hb,XA,XB,XC,hzW⟩:=mkbx16_9 hW;clear hW;replace v:=v.below hb;replace a:=a.below hb;replace b:=b.below hb
 replace v:=v.below (Below.refl _ _).drew
 replace a:=a.below (Below.refl _ _).drew
 replace b:=b.below (Below.refl _ _).drew
 replace XA:=XA.below (Below.refl _ _).drew
 replace XB:=XB.below (Below.refl _ _).drew
 replace XC:=XC.below (Below.refl _ _).drew
 replace hb:=hb.drew
 go_region_held3 (fun w'=>w'.cell? ⟨w.heap.size,0,none⟩=some (.bool s_v)∧w'.cell? ⟨w.heap.size,1,none⟩=some (.slice A_v n_v c_v)∧w'.cell? ⟨w.heap.size,2,none⟩=some (.slice B_v m_v d_v)∧w'.cell? ⟨w.heap.size+1,0,none⟩=some (.bool s_a)∧w'.cell? ⟨w.heap.size+1,1,none⟩=some (.slice A_a n_a c_a)∧w'.cell? ⟨w.heap.size+1,2,none⟩=some (.slice B_a m_a d_a)∧w'.cell? ⟨w.heap.size+1+1,0,none⟩=some (.bool s_b)∧w'.cell? ⟨w.heap.size+1+1,1,none⟩=some (.slice A_b n_b c_b)∧w'.cell? ⟨w.heap.size+1+1,2,none⟩=some (.slice B_b m_b d_b))
  (first | with_reducible exact ⟨XA.c0,XA.c1,XA.c2,XB.c0,XB.c1,XB.c2,XC.c0,XC.c1,XC.c2⟩)
  (first
  | (go_at_call 45;(with_reducible refine (rcmp_q a v h2 h1 (.inl h2) g2 g1).mono ?_);rintro e w_z ⟨rfl,hh⟩
     rw [HK.out];(try replace v:=v.below hh);(try replace a:=a.below hh);(try replace b:=b.below hh);(try replace XA:=XA.below hh);(try replace XB:=XB.below hh);(try replace XC:=XC.below hh);replace hb:=bend hb hh)
  | (go_at_call 45;(with_reducible refine (rcmp_q v b h1 h3 (.inl h1) g1 g3).mono ?_);rintro e w_z ⟨rfl,hh⟩
     rw [HM.out];(try replace v:=v.below hh);(try replace a:=a.below hh);(try replace b:=b.below hh);(try replace XA:=XA.below hh);(try replace XB:=XB.below hh);(try replace XC:=XC.below hh);replace hb:=bend hb hh))
 go_wp2_with fail
 go_ret
 exact ⟨by rw [← HR.out];first | rfl | simp,hb⟩
theorem onS_iff {px py ax ay bx by_:Rat}:onS px py ax ay bx by_ ↔ inQ px ax bx∧inQ py ay by_∧orientQ ax ay bx by_ px py=0:=by
 have e:orientQ ax ay bx by_ px py=0 ↔ (bx - ax)*(py - ay)=(by_ - ay)*(px - ax):=by unfold orientQ;exact cmpQ_nul
 rw [e]
 exact ⟨of_on,fun h=>on_of h.1 h.2.1 h.2.2⟩
theorem on_x {k:Nat} {px py ax ay bx by_:Rat} (p:PR w s_p A_p n_p c_p B_p m_p d_p t_p E_p i_p e_p F_p j_p f_p px py k) (q:PR w s_q A_q n_q c_q B_q m_q d_q t_q E_q i_q e_q F_q j_q f_q ax ay k) (r:PR w s_r A_r n_r c_r B_r m_r d_r t_r E_r i_r e_r F_r j_r f_r bx by_ k) (hk:k≤40) (h1:1≤k) (h:¬ inQ px ax bx) :
 Calls Tryz.prog 36 #[.agg #[.bool s_p,.slice A_p n_p c_p,.slice B_p m_p d_p,.bool t_p,.slice E_p i_p e_p,.slice F_p j_p f_p],.agg #[.bool s_q,.slice A_q n_q c_q,.slice B_q m_q d_q,.bool t_q,.slice E_q i_q e_q,.slice F_q j_q f_q],.agg #[.bool s_r,.slice A_r n_r c_r,.slice B_r m_r d_r,.bool t_r,.slice E_r i_r e_r,.slice F_r j_r f_r]] w fun e w'=>e=.returned (.bool (false))∧Below w.heap.size w w':=by
 have H1:Hid (decide (inQ px ax bx)=false):=decide_eq_false h
 clear h
 go_enter Tryz.func36,Tryz.ntmps36
 go_wp2_with fail
 generalize hW:World.alloc _ _=W
 obtain ⟨hb,XA,XB,XC,hzW⟩:=mkbx19_10 hW;clear hW;replace p:=p.below hb;replace q:=q.below hb;replace r:=r.below hb;obtain ⟨xa0,xa1,xa2,xa3,xa4,xa5⟩:=XA.all;obtain ⟨xb0,xb1,xb2,xb3,xb4,xb5⟩:=XB.all;obtain ⟨xc0,xc1,xc2,xc3,xc4,xc5⟩:=XC.all
 go_wp2_with (first
  | (go_at_call 99;(with_reducible refine (within_q p.qx q.qx r.qx (by omega) (by omega) (by omega) h1 h1 h1 false H1.out).mono ?_);rintro e w_z ⟨rfl,hh⟩
     (try replace p:=p.below hh);(try replace q:=q.below hh);(try replace r:=r.below hh);(try replace XA:=XA.below hh);(try replace XB:=XB.below hh);(try replace XC:=XC.below hh);replace hb:=bend hb hh;obtain ⟨xa0,xa1,xa2,xa3,xa4,xa5⟩:=XA.all;obtain ⟨xb0,xb1,xb2,xb3,xb4,xb5⟩:=XB.all;obtain ⟨xc0,xc1,xc2,xc3,xc4,xc5⟩:=XC.all))
 go_ret;exact ⟨rfl,hb⟩
theorem on_y {k:Nat} {px py ax ay bx by_:Rat} (p:PR w s_p A_p n_p c_p B_p m_p d_p t_p E_p i_p e_p F_p j_p f_p px py k) (q:PR w s_q A_q n_q c_q B_q m_q d_q t_q E_q i_q e_q F_q j_q f_q ax ay k) (r:PR w s_r A_r n_r c_r B_r m_r d_r t_r E_r i_r e_r F_r j_r f_r bx by_ k) (hk:k≤40) (h1:1≤k) (h:inQ px ax bx) (h2:¬ inQ py ay by_) :
 Calls Tryz.prog 36 #[.agg #[.bool s_p,.slice A_p n_p c_p,.slice B_p m_p d_p,.bool t_p,.slice E_p i_p e_p,.slice F_p j_p f_p],.agg #[.bool s_q,.slice A_q n_q c_q,.slice B_q m_q d_q,.bool t_q,.slice E_q i_q e_q,.slice F_q j_q f_q],.agg #[.bool s_r,.slice A_r n_r c_r,.slice B_r m_r d_r,.bool t_r,.slice E_r i_r e_r,.slice F_r j_r f_r]] w fun e w'=>e=.returned (.bool (false))∧Below w.heap.size w w':=by
 have H1:Hid (decide (inQ px ax bx)=true):=decide_eq_true h
 have H2:Hid (decide (inQ py ay by_)=false):=decide_eq_false h2
 clear h h2
 go_enter Tryz.func36,Tryz.ntmps36
 go_wp2_with fail
 generalize hW:World.alloc _ _=W
 obtain ⟨hb,XA,XB,XC,hzW⟩:=mkbx19_10 hW;clear hW;replace p:=p.below hb;replace q:=q.below hb;replace r:=r.below hb;obtain ⟨xa0,xa1,xa2,xa3,xa4,xa5⟩:=XA.all;obtain ⟨xb0,xb1,xb2,xb3,xb4,xb5⟩:=XB.all;obtain ⟨xc0,xc1,xc2,xc3,xc4,xc5⟩:=XC.all
 go_wp2_with (first
  | (go_at_call 99;(with_reducible refine (within_q p.qx q.qx r.qx (by omega) (by omega) (by omega) h1 h1 h1 true H1.out).mono ?_);rintro e w_z ⟨rfl,hh⟩
     (try replace p:=p.below hh);(try replace q:=q.below hh);(try replace r:=r.below hh);(try replace XA:=XA.below hh);(try replace XB:=XB.below hh);(try replace XC:=XC.below hh);replace hb:=bend hb hh;obtain ⟨xa0,xa1,xa2,xa3,xa4,xa5⟩:=XA.all;obtain ⟨xb0,xb1,xb2,xb3,xb4,xb5⟩:=XB.all;obtain ⟨xc0,xc1,xc2,xc3,xc4,xc5⟩:=XC.all)
  | (go_at_call 99;(with_reducible refine (within_q p.qy q.qy r.qy (by omega) (by omega) (by omega) h1 h1 h1 false H2.out).mono ?_);rintro e w_z ⟨rfl,hh⟩
     (try replace p:=p.below hh);(try replace q:=q.below hh);(try replace r:=r.below hh);(try replace XA:=XA.below hh);(try replace XB:=XB.below hh);(try replace XC:=XC.below hh);replace hb:=bend hb hh;obtain ⟨xa0,xa1,xa2,xa3,xa4,xa5⟩:=XA.all;obtain ⟨xb0,xb1,xb2,xb3,xb4,xb5⟩:=XB.all;obtain ⟨xc0,xc1,xc2,xc3,xc4,xc5⟩:=XC.all))
 go_ret;exact ⟨rfl,hb⟩
theorem on_o {k:Nat} {px py ax ay bx by_:Rat} (p:PR w s_p A_p n_p c_p B_p m_p d_p t_p E_p i_p e_p F_p j_p f_p px py k) (q:PR w s_q A_q n_q c_q B_q m_q d_q t_q E_q i_q e_q F_q j_q f_q ax ay k) (r:PR w s_r A_r n_r c_r B_r m_r d_r t_r E_r i_r e_r F_r j_r f_r bx by_ k) (hk:k≤40) (h1:1≤k) (h:inQ px ax bx) (h2:inQ py ay by_) :
 Calls Tryz.prog 36 #[.agg #[.bool s_p,.slice A_p n_p c_p,.slice B_p m_p d_p,.bool t_p,.slice E_p i_p e_p,.slice F_p j_p f_p],.agg #[.bool s_q,.slice A_q n_q c_q,.slice B_q m_q d_q,.bool t_q,.slice E_q i_q e_q,.slice F_q j_q f_q],.agg #[.bool s_r,.slice A_r n_r c_r,.slice B_r m_r d_r,.bool t_r,.slice E_r i_r e_r,.slice F_r j_r f_r]] w fun e w'=>e=.returned (.bool (orientQ ax ay bx by_ px py == 0))∧Below w.heap.size w w':=by
 have H1:Hid (decide (inQ px ax bx)=true):=decide_eq_true h
 have H2:Hid (decide (inQ py ay by_)=true):=decide_eq_true h2
 obtain ⟨K,hK⟩:∃ K,orientQ ax ay bx by_ px py=K:=⟨_,rfl⟩
 rw [hK];have HK:=Lib.hid hK;clear hK;clear h h2
 go_enter Tryz.func36,Tryz.ntmps36
 go_wp2_with fail
 generalize hW:World.alloc _ _=W
 obtain ⟨hb,XA,XB,XC,hzW⟩:=mkbx19_10 hW;clear hW;replace p:=p.below hb;replace q:=q.below hb;replace r:=r.below hb;obtain ⟨xa0,xa1,xa2,xa3,xa4,xa5⟩:=XA.all;obtain ⟨xb0,xb1,xb2,xb3,xb4,xb5⟩:=XB.all;obtain ⟨xc0,xc1,xc2,xc3,xc4,xc5⟩:=XC.all
 go_wp2_with (first
  | (go_at_call 99;(with_reducible refine (within_q p.qx q.qx r.qx (by omega) (by omega) (by omega) h1 h1 h1 true H1.out).mono ?_);rintro e w_z ⟨rfl,hh⟩
     (try replace p:=p.below hh);(try replace q:=q.below hh);(try replace r:=r.below hh);(try replace XA:=XA.below hh);(try replace XB:=XB.below hh);(try replace XC:=XC.below hh);replace hb:=bend hb hh;obtain ⟨xa0,xa1,xa2,xa3,xa4,xa5⟩:=XA.all;obtain ⟨xb0,xb1,xb2,xb3,xb4,xb5⟩:=XB.all;obtain ⟨xc0,xc1,xc2,xc3,xc4,xc5⟩:=XC.all)
  | (go_at_call 99;(with_reducible refine (within_q p.qy q.qy r.qy (by omega) (by omega) (by omega) h1 h1 h1 true H2.out).mono ?_);rintro e w_z ⟨rfl,hh⟩
     (try replace p:=p.below hh);(try replace q:=q.below hh);(try replace r:=r.below hh);(try replace XA:=XA.below hh);(try replace XB:=XB.below hh);(try replace XC:=XC.below hh);replace hb:=bend hb hh;obtain ⟨xa0,xa1,xa2,xa3,xa4,xa5⟩:=XA.all;obtain ⟨xb0,xb1,xb2,xb3,xb4,xb5⟩:=XB.all;obtain ⟨xc0,xc1,xc2,xc3,xc4,xc5⟩:=XC.all)
  | (go_at_call 46;(with_reducible refine (porient_p q r p hk h1).mono ?_);rintro e w_z ⟨rfl,hh⟩
     rw [HK.out];(try replace p:=p.below hh);(try replace q:=q.below hh);(try replace r:=r.below hh);(try replace XA:=XA.below hh);(try replace XB:=XB.below hh);(try replace XC:=XC.below hh);replace hb:=bend hb hh;obtain ⟨xa0,xa1,xa2,xa3,xa4,xa5⟩:=XA.all;obtain ⟨xb0,xb1,xb2,xb3,xb4,xb5⟩:=XB.all;obtain ⟨xc0,xc1,xc2,xc3,xc4,xc5⟩:=XC.all))
 go_ret
 exact ⟨by first | rfl | simp,hb⟩
theorem on_p {k:Nat} {px py ax ay bx by_:Rat} (p:PR w s_p A_p n_p c_p B_p m_p d_p t_p E_p i_p e_p F_p j_p f_p px py k) (q:PR w s_q A_q n_q c_q B_q m_q d_q t_q E_q i_q e_q F_q j_q f_q ax ay k) (r:PR w s_r A_r n_r c_r B_r m_r d_r t_r E_r i_r e_r F_r j_r f_r bx by_ k) (hk:k≤40) (h1:1≤k) (R:Bool) (hR:R=true ↔ onS px py ax ay bx by_) :
 Calls Tryz.prog 36 #[.agg #[.bool s_p,.slice A_p n_p c_p,.slice B_p m_p d_p,.bool t_p,.slice E_p i_p e_p,.slice F_p j_p f_p],.agg #[.bool s_q,.slice A_q n_q c_q,.slice B_q m_q d_q,.bool t_q,.slice E_q i_q e_q,.slice F_q j_q f_q],.agg #[.bool s_r,.slice A_r n_r c_r,.slice B_r m_r d_r,.bool t_r,.slice E_r i_r e_r,.slice F_r j_r f_r]] w fun e w'=>e=.returned (.bool R)∧Below w.heap.size w w':=by
 by_cases h:inQ px ax bx
 · by_cases h2:inQ py ay by_
   · have:=on_o p q r hk h1 h h2
     rwa [show (orientQ ax ay bx by_ px py == 0)=R from by
      rw [Bool.eq_iff_iff,hR,onS_iff,beq_iff_eq];exact ⟨fun e=>⟨h,h2,e⟩,fun e=>e.2.2⟩] at this
   · have:=on_y p q r hk h1 h h2
     rwa [show false=R from by rw [Bool.eq_iff_iff,hR,onS_iff];exact ⟨fun e=>(by cases e),fun e=>absurd e.2.1 h2⟩] at this
 · have:=on_x p q r hk h1 h
   rwa [show false=R from by rw [Bool.eq_iff_iff,hR,onS_iff];exact ⟨fun e=>(by cases e),fun e=>absurd e.1 h⟩] at this
end
section
open Go Go.RowKit
section
variable {W W':World} {g:Nat} {v0 v1 v2 v3 v4 v5 v6 v7 v8 v9 v10 v11 v12 v13 v14 v15 v16 v17:Value}
end
def VK (c:Array Value) (x:Value) (_w:World):Prop:=x=.agg c
theorem stays_k (c:Array Value):Stays (VK c):=⟨fun _ _ _ h _=>h,fun _ _ _ _ _ _ h _ _=>h⟩
end
end Go.Proofs.YtmgklaklnaihpaaGreat
