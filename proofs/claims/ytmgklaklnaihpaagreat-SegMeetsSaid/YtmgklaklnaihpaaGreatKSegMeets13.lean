/- SegMeets: part 13. -/
import Derived.Test.YtmgklaklnaihpaaGreatKSegMeets9
import Derived.Test.YtmgklaklnaihpaaGreatKSegMeets10
import Derived.Test.YtmgklaklnaihpaaGreatKSegMeets11
import Derived.Test.YtmgklaklnaihpaaGreatKSegMeets12
set_option linter.unusedVariables false
set_option maxRecDepth 100000
set_option maxHeartbeats 16000000
variable {w:Go.World}
variable {s_p t_p:Bool} {A_p B_p E_p F_p:Option Go.Addr} {n_p c_p m_p d_p i_p e_p j_p f_p:Nat}
variable {s_q t_q:Bool} {A_q B_q E_q F_q:Option Go.Addr} {n_q c_q m_q d_q i_q e_q j_q f_q:Nat}
variable {s_r t_r:Bool} {A_r B_r E_r F_r:Option Go.Addr} {n_r c_r m_r d_r i_r e_r j_r f_r:Nat}
namespace Go.Proofs.YtmgklaklnaihpaaGreat
section
open Go Go.RowKit
theorem free6 (s:Bool) (A B:Option Addr) (n c m d:Nat) (t:Bool) (E F:Option Addr) (i e j f:Nat):∀ (x:Nat) (k:IntKind) (v:Int),(#[.bool s,.slice A n c,.slice B m d,.bool t,.slice E i e,.slice F j f]:Array Value)[x]? ≠ some (.int k v):=by
 intro x k v h
 match x,h with
 | 0,h=>cases h
 | 1,h=>cases h
 | 2,h=>cases h
 | 3,h=>cases h
 | 4,h=>cases h
 | 5,h=>cases h
 | x+6,h=>cases h
def VPG (x y:Rat) (k:Nat) (v:Value) (w:World):Prop:=∃ s A n c B m d t E i e F j f,v=.agg #[.bool s,.slice A n c,.slice B m d,.bool t,.slice E i e,.slice F j f]∧PG w s A n c B m d t E i e F j f x y k
theorem PG.box {T:TypeId} {w w':World} {g:Nat} {cs:Array Value} {s t:Bool} {A B E F:Option Addr} {n c m d i e j f:Nat} {x y:Rat} {k:Nat} (h:PG w s A n c B m d t E i e F j f x y k) (Z:BoxAt T w g cs) (ho:Only g w w'):PG w' s A n c B m d t E i e F j f x y k:=⟨h.1.box Z ho,h.2.box Z ho⟩
theorem stays_pg (x y:Rat) (k:Nat):Stays (VPG x y k) :=
 ⟨fun _ _ _ ⟨s,A,n,c,B,m,d,t,E,i,e,F,j,f,h1,h2⟩ hb=>⟨s,A,n,c,B,m,d,t,E,i,e,F,j,f,h1,h2.below hb⟩,fun _ _ _ _ _ _ ⟨s,A,n,c,B,m,d,t,E,i,e,F,j,f,h1,h2⟩ hB ho=>⟨s,A,n,c,B,m,d,t,E,i,e,F,j,f,h1,h2.box hB ho⟩⟩
theorem run_load6 {e1:Operand→Value} {x1:Operand} {d1:Option Tmp} {y1 g:Nat} {pos:String} {af:Array Edge} {a b c d e f:Value} (h:e1 x1=.pointer (some ⟨g,0,none⟩)) (h0:w.cell? ⟨g,0,none⟩=some a) (h1:w.cell? ⟨g,1,none⟩=some b) (h2:w.cell? ⟨g,2,none⟩=some c) (h3:w.cell? ⟨g,3,none⟩=some d) (h4:w.cell? ⟨g,4,none⟩=some e) (h5:w.cell? ⟨g,5,none⟩=some f) :
 (execOp e1 ⟨d1,.load 56 x1,y1,pos,af,none⟩).run Tryz.prog w=.ok (.value (.agg #[a,b,c,d,e,f])) w:=by
 go_simp
theorem run_alloc6 {e1:Operand→Value} {d1:Option Tmp} {y1:Nat} {pos:String} {af:Array Edge} :
 (execOp e1 ⟨d1,.alloc 56,y1,pos,af,none⟩).run Tryz.prog w=.ok (.value (.pointer (some ⟨w.heap.size,0,none⟩))) (w.alloc (.cells #[.bool false,.slice none 0 0,.slice none 0 0,.bool false,.slice none 0 0,.slice none 0 0] 56)):=by
 go_simp
theorem run_store6 {e1:Operand→Value} {x1 z1:Operand} {d1:Option Tmp} {y1 g:Nat} {pos:String} {af:Array Edge} {s t:Bool} {A B E F:Option Addr} {n c m d i e j f:Nat} {v0 v1 v2 v3 v4 v5:Value} (h:e1 x1=.pointer (some ⟨g,0,none⟩)) (hz:e1 z1=.agg #[.bool s,.slice A n c,.slice B m d,.bool t,.slice E i e,.slice F j f]) (Z:B6 w g v0 v1 v2 v3 v4 v5) :
 (execOp e1 ⟨d1,.store 56 x1 z1,y1,pos,af,none⟩).run Tryz.prog w=.ok .skip ((((((w.setCell ⟨g,0,none⟩ (.bool s)).setCell ⟨g,1,none⟩ (.slice A n c)).setCell ⟨g,2,none⟩ (.slice B m d)).setCell ⟨g,3,none⟩ (.bool t)).setCell ⟨g,4,none⟩ (.slice E i e)).setCell ⟨g,5,none⟩ (.slice F j f)):=by
 obtain ⟨c0,c1,c2,c3,c4,c5⟩:=Z.all;have f0:=Z.f0;have f1:=Z.f1;have f2:=Z.f2;have f3:=Z.f3;have f4:=Z.f4;have f5:=Z.f5
 go_simp
theorem store_pg {ac:Act} {x1 z:Operand} {y1 g:Nat} {pos:String} {af:Array Edge} {Q:Exit→Act→World→Prop} {x y:Rat} {k:Nat} (p1:ac.eval x1=.pointer (some ⟨g,0,none⟩)) (h:VPG x y k (ac.eval z) w) (B:BoxAt 56 w g #[.bool false,.slice none 0 0,.slice none 0 0,.bool false,.slice none 0 0,.slice none 0 0]) :
 (⟨none,.store 56 x1 z,y1,pos,af,none⟩:Oper).wp Tryz.prog ac w (fun a'' w''=>a''=ac∧Only g w w''∧∃ cs',BoxAt 56 w'' g cs'∧(fun cs w=>∃ s A n c B m d t E i e F j f,cs=#[.bool s,.slice A n c,.slice B m d,.bool t,.slice E i e,.slice F j f]∧PG w s A n c B m d t E i e F j f x y k) cs' w'') Q:=by
 obtain ⟨s,A,n,c,B1,m,d,t,E,i,e,F,j,f,h1,h2⟩:=h
 have Z:B6 w g (.bool false) (.slice none 0 0) (.slice none 0 0) (.bool false) (.slice none 0 0) (.slice none 0 0):=B.at_
 unfold Oper.wp
 rw [run_store6 p1 h1 Z,Oper.upon_skip]
 have ho:=((((((Only.refl g w).setCell 0 (.bool s)).setCell 1 (.slice A n c)).setCell 2 (.slice B1 m d)).setCell 3 (.bool t)).setCell 4 (.slice E i e)).setCell 5 (.slice F j f)
 exact ⟨put_none ac undef,ho,#[.bool s,.slice A n c,.slice B1 m d,.bool t,.slice E i e,.slice F j f],⟨Z.set6 _ _ _ _ _ _,free6 _ _ _ _ _ _ _ _ _ _ _ _ _ _⟩,s,A,n,c,B1,m,d,t,E,i,e,F,j,f,rfl,h2.box B ho⟩
theorem rc_gesso_pt_Sub {e:Operand→Value} {x0 x1:Operand} {d:Option Tmp} {y:Nat} {pos:String} {af:Array Edge} {u0 u1:Value} (h0:e x0=u0) (h1:e x1=u1) (hf:e (.func 85)=.func (.func 85) #[] #[]) :
 (execOp e ⟨d,.call ⟨.value (.func 85),#[x0,x1],#[56,56]⟩,y,pos,af,none⟩).run Tryz.prog w=.ok (.enter 85 #[u0,u1]) w:=by
 go_simp
def forthQ (px py ax ay bx by_:Rat):Rat:=(px - ax)*(bx - ax)+(py - ay)*(by_ - ay)
def wholeQ (ax ay bx by_:Rat):Rat:=(bx - ax)*(bx - ax)+(by_ - ay)*(by_ - ay)
def asideQ (px py ax ay bx by_:Rat):Rat:=(bx - ax)*(py - ay) - (by_ - ay)*(px - ax)
def segQ (px py ax ay bx by_:Rat):Rat:=if forthQ px py ax ay bx by_≤0 then (px - ax)*(px - ax)+(py - ay)*(py - ay) else if wholeQ ax ay bx by_≤forthQ px py ax ay bx by_ then farQ px py bx by_ else asideQ px py ax ay bx by_*asideQ px py ax ay bx by_ / wholeQ ax ay bx by_
theorem sgn_nonpos {v:Rat}:sgnQ v≤0 ↔ v≤0:=by
 unfold sgnQ
 split
 · rename_i q;exact ⟨fun _=>Rat.le_of_lt q,fun _=>by decide⟩
 · split
   · rename_i q;rw [q];exact ⟨fun _=>Rat.le_refl,fun _=>by decide⟩
   · rename_i q r;exact ⟨fun e=>absurd e (by decide),fun e=>absurd (Rat.le_antisymm e (Rat.not_lt.1 q)) r⟩
theorem cmp_nonneg {v u:Rat}:0≤cmpQ v u ↔ u≤v:=by
 unfold cmpQ
 split
 · rename_i q;exact ⟨fun e=>absurd e (by decide),fun e=>absurd q (Rat.not_lt.2 e)⟩
 · rename_i q;exact ⟨fun _=>Rat.not_lt.1 q,fun _=>by split <;> decide⟩
end
section
theorem txt_one {V d:Nat} (h:0 < d) (h2:d < 10) (hV:V=d):txt V=[UInt8.ofNat (48+d)]:=by
 subst hV
 rw [txt,if_neg (by omega),limbs_small (by omega) h2 (by omega)]
 rfl
end
section
open Go Go.RowKit
theorem qtxt_i {v:Rat} {a:Nat} {l:List UInt8} (hn:v.num=(a:Int)) (hd:v.den=1) (ha:txt a=l):qtxt v=l:=by
 unfold qtxt
 rw [if_pos hd,hn]
 unfold ztxt
 rw [if_neg (by omega),show ((a:Int)).natAbs=a by omega,ha]
end
section
open Go Go.RowKit
theorem QR.of_rd {s:Bool} {A A':Option Addr} {n c n' c' k:Nat} {l l':List Nat} (h:Rd .u64 w A n l) (hL:Lim B64 l) (hnc:n≤c) (h':Rd .u64 w A' n' l') (hL':Lim B64 l') (hnc':n'≤c') (hk:n≤k) (hk':n'≤k) :
 QR w s A n c A' n' c' (mkRat (iv s (val B64 l)) (den1 (val B64 l'))) k:=⟨_,_,ZR.of_rd h hL hnc hk,⟨l',h',hL',rfl,hnc',hk'⟩,rfl⟩
end
section
open Go Go.RowKit
theorem cmp_sub (u v:Rat):cmpQ u v=sgnQ (u - v):=by
 unfold cmpQ sgnQ
 have e1:u - v < 0 ↔ u < v:=by rw [← Rat.not_le,← Rat.not_le,← Rat.le_iff_sub_nonneg]
 have e2:u - v=0 ↔ u=v:=by
  constructor
  · intro h;have:u=(u - v)+v:=by grind
    rw [this,h,Rat.zero_add]
  · intro h;rw [h];grind
 by_cases h1:u < v
 · rw [if_pos h1,if_pos (e1.2 h1)]
 · rw [if_neg h1,if_neg (fun q=>h1 (e1.1 q))]
   by_cases h2:v < u
   · rw [if_pos h2,if_neg (fun q=>by rw [e2.1 q] at h2;exact Rat.lt_irrefl h2)]
   · rw [if_neg h2,if_pos (e2.2 (Rat.le_antisymm (Rat.not_lt.1 h2) (Rat.not_lt.1 h1)))]
end
section
open Go Go.RowKit
def VRP (x y:Rat) (k:Nat) (v:Value) (w:World):Prop:=∃ s A n c B m d t E i e F j f,v=.agg #[.bool s,.slice A n c,.slice B m d,.bool t,.slice E i e,.slice F j f]∧RP w s A n c B m d t E i e F j f x y k
theorem RP.box {T:TypeId} {w w':World} {g:Nat} {cs:Array Value} {s t:Bool} {A B E F:Option Addr} {n c m d i e j f:Nat} {x y:Rat} {k:Nat} (h:RP w s A n c B m d t E i e F j f x y k) (Z:BoxAt T w g cs) (ho:Only g w w'):RP w' s A n c B m d t E i e F j f x y k:=⟨h.1.box Z ho,h.2.box Z ho⟩
theorem stays_rp (x y:Rat) (k:Nat):Stays (VRP x y k) :=
 ⟨fun _ _ _ ⟨s,A,n,c,B,m,d,t,E,i,e,F,j,f,h1,h2⟩ hb=>⟨s,A,n,c,B,m,d,t,E,i,e,F,j,f,h1,h2.below hb⟩,fun _ _ _ _ _ _ ⟨s,A,n,c,B,m,d,t,E,i,e,F,j,f,h1,h2⟩ hB ho=>⟨s,A,n,c,B,m,d,t,E,i,e,F,j,f,h1,h2.box hB ho⟩⟩
theorem run_alloc7 {e1:Operand→Value} {d1:Option Tmp} {y1:Nat} {pos:String} {af:Array Edge} :
 (execOp e1 ⟨d1,.alloc 60,y1,pos,af,none⟩).run Tryz.prog w=.ok (.value (.pointer (some ⟨w.heap.size,0,none⟩))) (w.alloc (.cells #[.bool false,.slice none 0 0,.slice none 0 0,.bool false,.slice none 0 0,.slice none 0 0] 60)):=by
 go_simp
theorem run_store7 {e1:Operand→Value} {x1 z1:Operand} {d1:Option Tmp} {y1 g:Nat} {pos:String} {af:Array Edge} {s t:Bool} {A B E F:Option Addr} {n c m d i e j f:Nat} {v0 v1 v2 v3 v4 v5:Value} (h:e1 x1=.pointer (some ⟨g,0,none⟩)) (hz:e1 z1=.agg #[.bool s,.slice A n c,.slice B m d,.bool t,.slice E i e,.slice F j f]) (Z:B6R w g v0 v1 v2 v3 v4 v5) :
 (execOp e1 ⟨d1,.store 60 x1 z1,y1,pos,af,none⟩).run Tryz.prog w=.ok .skip ((((((w.setCell ⟨g,0,none⟩ (.bool s)).setCell ⟨g,1,none⟩ (.slice A n c)).setCell ⟨g,2,none⟩ (.slice B m d)).setCell ⟨g,3,none⟩ (.bool t)).setCell ⟨g,4,none⟩ (.slice E i e)).setCell ⟨g,5,none⟩ (.slice F j f)):=by
 obtain ⟨c0,c1,c2,c3,c4,c5⟩:=Z.all;have f0:=Z.f0;have f1:=Z.f1;have f2:=Z.f2;have f3:=Z.f3;have f4:=Z.f4;have f5:=Z.f5
 go_simp
theorem store_rp {ac:Act} {x1 z:Operand} {y1 g:Nat} {pos:String} {af:Array Edge} {Q:Exit→Act→World→Prop} {x y:Rat} {k:Nat} (p1:ac.eval x1=.pointer (some ⟨g,0,none⟩)) (h:VRP x y k (ac.eval z) w) (B:BoxAt 60 w g #[.bool false,.slice none 0 0,.slice none 0 0,.bool false,.slice none 0 0,.slice none 0 0]) :
 (⟨none,.store 60 x1 z,y1,pos,af,none⟩:Oper).wp Tryz.prog ac w (fun a'' w''=>a''=ac∧Only g w w''∧∃ cs',BoxAt 60 w'' g cs'∧(fun cs w=>∃ s A n c B m d t E i e F j f,cs=#[.bool s,.slice A n c,.slice B m d,.bool t,.slice E i e,.slice F j f]∧RP w s A n c B m d t E i e F j f x y k) cs' w'') Q:=by
 obtain ⟨s,A,n,c,B1,m,d,t,E,i,e,F,j,f,h1,h2⟩:=h
 have Z:B6R w g (.bool false) (.slice none 0 0) (.slice none 0 0) (.bool false) (.slice none 0 0) (.slice none 0 0):=B.at_
 unfold Oper.wp
 rw [run_store7 p1 h1 Z,Oper.upon_skip]
 have ho:=((((((Only.refl g w).setCell 0 (.bool s)).setCell 1 (.slice A n c)).setCell 2 (.slice B1 m d)).setCell 3 (.bool t)).setCell 4 (.slice E i e)).setCell 5 (.slice F j f)
 exact ⟨put_none ac undef,ho,#[.bool s,.slice A n c,.slice B1 m d,.bool t,.slice E i e,.slice F j f],⟨Z.set6 _ _ _ _ _ _,free6 _ _ _ _ _ _ _ _ _ _ _ _ _ _⟩,s,A,n,c,B1,m,d,t,E,i,e,F,j,f,rfl,h2.box B ho⟩
theorem big_ex (x y:Rat):∃ K,x.num.natAbs < B64 ^ K∧x.den < B64 ^ K∧y.num.natAbs < B64 ^ K∧y.den < B64 ^ K:=by
 have h:∀ n m:Nat,n≤m→n < B64 ^ m:=fun n m h=>Nat.lt_of_lt_of_le (Nat.lt_pow_self (by decide)) (Nat.pow_le_pow_right (by decide) h)
 exact ⟨x.num.natAbs+x.den+(y.num.natAbs+y.den),h _ _ (by omega),h _ _ (by omega),h _ _ (by omega),h _ _ (by omega)⟩
end
section
theorem sq_nonneg (a:Rat):0≤a*a:=by
 rcases Rat.le_total (a:=0) (b:=a) with h | h
 · exact Rat.mul_nonneg h h
 · have:=Rat.mul_nonneg (show 0≤-a by grind) (show 0≤-a by grind)
   grind
theorem sq_zero {a:Rat} (h:a*a=0):a=0:=by
 rcases Rat.mul_eq_zero.1 h with q | q <;> exact q
theorem sum_zero2 {a b:Rat} (h:a*a+b*b=0):a=0∧b=0:=by
 have h1:=sq_nonneg a;have h2:=sq_nonneg b
 exact ⟨sq_zero (by grind),sq_zero (by grind)⟩
theorem div_mul_self {x g:Rat} (hg:g ≠ 0):x / g*g=x:=Rat.div_mul_cancel hg
def segC (f g s c:Rat):Rat:=if f≤0 then s else if g≤f then s - 2*f+g else c*c / g
section
variable {f g s c t:Rat}
theorem segC_on (hg:0≤g) (h0:0≤t) (h1:t≤1) (hf:f=t*g) (hs:s=t*t*g) (hc:c=0):segC f g s c=0:=by
 unfold segC
 have e1:=Rat.mul_nonneg h0 hg
 have e2:=Rat.mul_nonneg (show 0≤1 - t by grind) hg
 split
 · rename_i h
   have:t*g=0:=by grind
   rw [hs,Rat.mul_assoc,this,Rat.mul_zero]
 · split
   · rename_i h
     have:(1 - t)*g=0:=by grind
     have e3:s - 2*f+g=(1 - t)*((1 - t)*g):=by rw [hs,hf];grind
     rw [e3,this,Rat.mul_zero]
   · rw [hc,Rat.mul_zero,Rat.div_def,Rat.zero_mul]
theorem segC_zero (hL:f*f+c*c=g*s) (_hg:0≤g) (h:segC f g s c=0) (hs0:s=0→f=0∧c=0) (hq0:s - 2*f+g=0→c=0∧s=f):c=0∧s - f≤0:=by
 unfold segC at h
 split at h
 · have:=hs0 h;exact ⟨this.2,by grind⟩
 · rename_i h1
   split at h
   · have:=hq0 h;exact ⟨this.1,by grind⟩
   · rename_i h2
     have hgp:0 < g:=by grind
     have e1:c*c=0:=by
      have:=div_mul_self (x:=c*c) (g:=g) (by grind)
      rw [h,Rat.zero_mul] at this;exact this.symm
     refine ⟨sq_zero e1,?_⟩
     have e2:(s - f)*g≤0*g:=by
      have:=Rat.mul_nonneg (show 0≤f by grind) (show 0≤g - f by grind)
      grind
     have:=Rat.le_of_mul_le_mul_right e2 hgp
     exact this
end
section
variable (px py ax ay bx by_ t:Rat)
theorem segQ_C:segQ px py ax ay bx by_=segC (forthQ px py ax ay bx by_) (wholeQ ax ay bx by_) ((px - ax)*(px - ax)+(py - ay)*(py - ay)) (asideQ px py ax ay bx by_):=by
 unfold segQ segC
 split
 · rfl
 · split
   · unfold farQ forthQ wholeQ;grind
   · rfl
theorem lagrange:forthQ px py ax ay bx by_*forthQ px py ax ay bx by_+asideQ px py ax ay bx by_*asideQ px py ax ay bx by_=wholeQ ax ay bx by_*((px - ax)*(px - ax)+(py - ay)*(py - ay)):=by
 unfold forthQ asideQ wholeQ;grind
theorem whole_nn:0≤wholeQ ax ay bx by_:=by
 unfold wholeQ
 have:=sq_nonneg (bx - ax)
 have:=sq_nonneg (by_ - ay)
 grind
theorem whole_z (h:wholeQ ax ay bx by_=0):ax=bx∧ay=by_:=by
 have:=sum_zero2 h
 exact ⟨by grind,by grind⟩
theorem seg_on {x y:Rat} (h0:0≤t) (h1:t≤1) (hx:x=ax+(bx - ax)*t) (hy:y=ay+(by_ - ay)*t):segQ x y ax ay bx by_=0:=by
 rw [segQ_C]
 refine segC_on (t:=t) (whole_nn _ _ _ _) h0 h1 ?_ ?_ ?_
 · rw [hx,hy];unfold forthQ wholeQ;grind
 · rw [hx,hy];unfold wholeQ;grind
 · rw [hx,hy];unfold asideQ;grind
theorem dot_eq:(px - ax)*(px - bx)+(py - ay)*(py - by_)=(px - ax)*(px - ax)+(py - ay)*(py - ay) - forthQ px py ax ay bx by_:=by unfold forthQ;grind
theorem orient_aside:orientQ ax ay bx by_ px py=sgnQ (asideQ px py ax ay bx by_):=by unfold orientQ asideQ;rw [cmp_sub]
theorem seg_zero (h:segQ px py ax ay bx by_=0):orientQ ax ay bx by_ px py=0∧(px - ax)*(px - bx)+(py - ay)*(py - by_)≤0:=by
 rw [segQ_C] at h
 have e:=segC_zero (lagrange px py ax ay bx by_) (whole_nn _ _ _ _) h (fun q=>by
  have:=sum_zero2 q
  unfold forthQ asideQ;rw [this.1,this.2];exact ⟨by grind,by grind⟩) (fun q=>by
  have e:(px - ax)*(px - ax)+(py - ay)*(py - ay) - 2*forthQ px py ax ay bx by_+wholeQ ax ay bx by_=(px - bx)*(px - bx)+(py - by_)*(py - by_):=by unfold forthQ wholeQ;grind
  rw [e] at q
  have:=sum_zero2 q
  have e1:px=bx:=by grind
  have e2:py=by_:=by grind
  unfold asideQ forthQ;rw [e1,e2];exact ⟨by grind,by grind⟩)
 rw [orient_aside,e.1,dot_eq]
 exact ⟨rfl,e.2⟩
theorem sgn_nul {v:Rat} (h:sgnQ v=0):v=0:=by
 unfold sgnQ at h
 split at h
 · exact absurd h (by decide)
 · split at h
   · assumption
   · exact absurd h (by decide)
end
end
section
open Go Go.RowKit
def near2 (px py ax ay bx by_:Rat):Rat:=(px - bx)*(bx - ax)+(py - by_)*(by_ - ay)
theorem near2_eq (px py ax ay bx by_:Rat):near2 px py ax ay bx by_=forthQ px py ax ay bx by_ - wholeQ ax ay bx by_:=by unfold near2 forthQ wholeQ;grind
theorem sgn_nonneg {v:Rat}:0≤sgnQ v ↔ 0≤v:=by
 unfold sgnQ
 split
 · rename_i q;exact ⟨fun e=>absurd e (by decide),fun e=>absurd q (Rat.not_lt.2 e)⟩
 · rename_i q;exact ⟨fun _=>Rat.not_lt.1 q,fun _=>by split <;> decide⟩
theorem mid_eq {px py ax ay bx by_ T:Rat} (hw:wholeQ ax ay bx by_ ≠ 0) (hT:T=forthQ px py ax ay bx by_ / wholeQ ax ay bx by_) :
 asideQ px py ax ay bx by_*asideQ px py ax ay bx by_ / wholeQ ax ay bx by_=(px - (ax+(bx - ax)*T))*(px - (ax+(bx - ax)*T))+(py - (ay+(by_ - ay)*T))*(py - (ay+(by_ - ay)*T)):=by
 have e1:T*wholeQ ax ay bx by_=forthQ px py ax ay bx by_:=by rw [hT];exact Rat.div_mul_cancel hw
 have e2:((px - (ax+(bx - ax)*T))*(px - (ax+(bx - ax)*T))+(py - (ay+(by_ - ay)*T))*(py - (ay+(by_ - ay)*T)))*wholeQ ax ay bx by_=asideQ px py ax ay bx by_*asideQ px py ax ay bx by_:=by
  unfold wholeQ forthQ at e1
  unfold wholeQ asideQ
  grind
 rw [← e2]
 exact Rat.mul_div_cancel hw
theorem rfar6 {k k2:Nat} {x y x2 y2:Rat} (p:RP w s_p A_p n_p c_p B_p m_p d_p t_p E_p i_p e_p F_p j_p f_p x y k) (q:RP w s_q A_q n_q c_q B_q m_q d_q t_q E_q i_q e_q F_q j_q f_q x2 y2 k2) (hk:k≤1000) (hk2:k2≤1000) :
 Calls Tryz.prog 98 #[.agg #[.bool s_p,.slice A_p n_p c_p,.slice B_p m_p d_p,.bool t_p,.slice E_p i_p e_p,.slice F_p j_p f_p],.agg #[.bool s_q,.slice A_q n_q c_q,.slice B_q m_q d_q,.bool t_q,.slice E_q i_q e_q,.slice F_q j_q f_q]] w (GivesRQ w ((x - x2)*(x - x2)+(y - y2)*(y - y2)) (k+k2+1+(k+k2+1)+(k+k2+1+(k+k2+1))+1)):=by
 go_enter Tryz.func98,Tryz.ntmps98
 go_upto_region 1 with (fail)
 generalize hW:World.alloc _ _=W
 obtain ⟨hb,XA,XB,Z,hzW⟩:=mkbx38_12 hW;clear hW;replace p:=p.below hb;replace q:=q.below hb
 replace p:=p.below (Below.refl _ _).drew
 replace q:=q.below (Below.refl _ _).drew
 replace XA:=XA.below (Below.refl _ _).drew
 replace XB:=XB.below (Below.refl _ _).drew
 replace Z:=Z.below (Below.refl _ _).drew
 replace hb:=hb.drew
 go_region_held3 (fun w'=>w'.cell? ⟨w.heap.size,0,none⟩=some (.bool s_p)∧w'.cell? ⟨w.heap.size,1,none⟩=some (.slice A_p n_p c_p)∧w'.cell? ⟨w.heap.size,2,none⟩=some (.slice B_p m_p d_p)∧w'.cell? ⟨w.heap.size,3,none⟩=some (.bool t_p)∧w'.cell? ⟨w.heap.size,4,none⟩=some (.slice E_p i_p e_p)∧w'.cell? ⟨w.heap.size,5,none⟩=some (.slice F_p j_p f_p)∧w'.cell? ⟨w.heap.size+1,0,none⟩=some (.bool s_q)∧w'.cell? ⟨w.heap.size+1,1,none⟩=some (.slice A_q n_q c_q)∧w'.cell? ⟨w.heap.size+1,2,none⟩=some (.slice B_q m_q d_q)∧w'.cell? ⟨w.heap.size+1,3,none⟩=some (.bool t_q)∧w'.cell? ⟨w.heap.size+1,4,none⟩=some (.slice E_q i_q e_q)∧w'.cell? ⟨w.heap.size+1,5,none⟩=some (.slice F_q j_q f_q))
  (first | with_reducible exact ⟨XA.c0,XA.c1,XA.c2,XA.c3,XA.c4,XA.c5,XB.c0,XB.c1,XB.c2,XB.c3,XB.c4,XB.c5⟩ | with_reducible exact ⟨(set3_cell _ _ _ _ _ _ _ (by omega)).trans XA.c0,(set3_cell _ _ _ _ _ _ _ (by omega)).trans XA.c1,(set3_cell _ _ _ _ _ _ _ (by omega)).trans XA.c2,(set3_cell _ _ _ _ _ _ _ (by omega)).trans XA.c3,(set3_cell _ _ _ _ _ _ _ (by omega)).trans XA.c4,(set3_cell _ _ _ _ _ _ _ (by omega)).trans XA.c5,(set3_cell _ _ _ _ _ _ _ (by omega)).trans XB.c0,(set3_cell _ _ _ _ _ _ _ (by omega)).trans XB.c1,(set3_cell _ _ _ _ _ _ _ (by omega)).trans XB.c2,(set3_cell _ _ _ _ _ _ _ (by omega)).trans XB.c3,(set3_cell _ _ _ _ _ _ _ (by omega)).trans XB.c4,(set3_cell _ _ _ _ _ _ _ (by omega)).trans XB.c5⟩)
  (first
  | (go_at_call 91;(have h0:=a);(with_reducible refine (rsub6 p q (by omega) (by omega)).mono ?_);rintro e w_b ⟨s_b,A_b,n_b,c_b,B_b,m_b,d_b,t_b,E_b,i_b,e_b,F_b,j_b,f_b,rfl,b,hh⟩
     (try replace p:=p.below hh);(try replace q:=q.below hh);(try replace a:=a.below hh);(try replace XA:=XA.below hh);(try replace XB:=XB.below hh);(try replace Z:=Z.below hh);clear h0;replace hb:=bend hb hh)
  | (go_at_call 91;(with_reducible refine (rsub6 p q (by omega) (by omega)).mono ?_);rintro e w_a ⟨s_a,A_a,n_a,c_a,B_a,m_a,d_a,t_a,E_a,i_a,e_a,F_a,j_a,f_a,rfl,a,hh⟩
     (try replace p:=p.below hh);(try replace q:=q.below hh);(try replace XA:=XA.below hh);(try replace XB:=XB.below hh);(try replace Z:=Z.below hh);replace hb:=bend hb hh)
  | (go_at_call 151;(with_reducible refine (rdot6 a b (by omega) (by omega)).mono ?_);rintro e w_v ⟨s_v,A_v,n_v,c_v,B_v,m_v,d_v,rfl,v,hh⟩
     (try replace XA:=XA.below hh);(try replace XB:=XB.below hh);(try replace Z:=Z.below hh);replace hb:=bend hb hh;have zf0:=Z.f0;have zf1:=Z.f1;have zf2:=Z.f2;obtain ⟨z0,z1,z2⟩:=Z.all))
 go_wp2_with fail
 have Z2:=Z.set3 (.bool s_v) (.slice A_v n_v c_v) (.slice B_v m_v d_v)
 obtain ⟨g0,g1,g2⟩:=Z2.all
 refine bodyPost_ret (v:=.agg #[.bool s_v,.slice A_v n_v c_v,.slice B_v m_v d_v]) (by simp [results,Tryz.results98,go_sem,g0,g1,g2]) rfl ?_
 exact ⟨s_v,A_v,n_v,c_v,B_v,m_v,d_v,rfl,v.set3 Z _ _ _,below_set3 hb (by omega) _ _ _⟩
theorem mkbx40_13 {w W:World} {x0 x1 x2 x3 x4 x5 x6 x7 x8 x9 x10 x11 x12 x13 x14 x15 x16 x17 x18 x19 x20 x21 x22 x23:Value} (h:((((w.alloc (Obj.cells #[x0,x1,x2,x3,x4,x5] 60)).alloc (Obj.cells #[x6,x7,x8,x9,x10,x11] 60)).alloc (Obj.cells #[x12,x13,x14,x15,x16,x17] 60)).alloc (Obj.cells #[x18,x19,x20,x21,x22,x23] 60))=W):Below w.heap.size w W∧B6R W (w.heap.size) x0 x1 x2 x3 x4 x5∧B6R W (w.heap.size+1) x6 x7 x8 x9 x10 x11∧B6R W (w.heap.size+1+1) x12 x13 x14 x15 x16 x17∧B6R W (w.heap.size+1+1+1) x18 x19 x20 x21 x22 x23∧W.heap.size=w.heap.size+4:=by subst h;exact ⟨by exact (((((Below.refl _ _).alloc (Nat.le_refl _) _).alloc (by simp) _).alloc (by simp;omega) _).alloc (by simp;omega) _),by exact (((B6R.new' _ _ _ _ _ _ _ _ rfl).alloc _).alloc _).alloc _,by exact ((B6R.new' _ _ _ _ _ _ _ _ (by simp)).alloc _).alloc _,by exact (B6R.new' _ _ _ _ _ _ _ _ (by simp)).alloc _,by exact B6R.new' _ _ _ _ _ _ _ _ (by simp),by simp⟩
theorem rnear_same {kp k:Nat} {px py ax ay bx by_:Rat} (p:RP w s_p A_p n_p c_p B_p m_p d_p t_p E_p i_p e_p F_p j_p f_p px py kp) (q:RP w s_q A_q n_q c_q B_q m_q d_q t_q E_q i_q e_q F_q j_q f_q ax ay k) (r:RP w s_r A_r n_r c_r B_r m_r d_r t_r E_r i_r e_r F_r j_r f_r bx by_ k) (hkp:kp≤300) (hk:k≤12) (hs:ax=bx∧ay=by_) :
 Calls Tryz.prog 152 #[.agg #[.bool s_p,.slice A_p n_p c_p,.slice B_p m_p d_p,.bool t_p,.slice E_p i_p e_p,.slice F_p j_p f_p],.agg #[.bool s_q,.slice A_q n_q c_q,.slice B_q m_q d_q,.bool t_q,.slice E_q i_q e_q,.slice F_q j_q f_q],.agg #[.bool s_r,.slice A_r n_r c_r,.slice B_r m_r d_r,.bool t_r,.slice E_r i_r e_r,.slice F_r j_r f_r]] w (GivesRP w ax ay (2*kp+17*k+12)):=by
 have HS:Hid (decide (ax=bx∧ay=by_)=true):=decide_eq_true hs
 clear hs
 go_enter Tryz.func152,Tryz.ntmps152
 go_wp2_with fail
 generalize hW:World.alloc _ _=W
 obtain ⟨hb,XA,XB,XC,Z,hzW⟩:=mkbx40_13 hW;clear hW;replace p:=p.below hb;replace q:=q.below hb;replace r:=r.below hb;obtain ⟨xa0,xa1,xa2,xa3,xa4,xa5⟩:=XA.all;obtain ⟨xb0,xb1,xb2,xb3,xb4,xb5⟩:=XB.all;obtain ⟨xc0,xc1,xc2,xc3,xc4,xc5⟩:=XC.all
 go_upto_region 2 with (first
  | (go_at_call 91;(with_reducible refine (rsub6 r q (by omega) (by omega)).mono ?_);rintro e w_d ⟨s_d,A_d,n_d,c_d,B_d,m_d,d_d,t_d,E_d,i_d,e_d,F_d,j_d,f_d,rfl,d,hh⟩
     have hgd:w.heap.size+4≤w_d.heap.size:=by have:=hh.size;omega
     (try replace p:=p.below hh);(try replace q:=q.below hh);(try replace r:=r.below hh);(try replace XA:=XA.below hh);(try replace XB:=XB.below hh);(try replace XC:=XC.below hh);(try replace Z:=Z.below hh);replace hb:=bend hb hh;obtain ⟨xa0,xa1,xa2,xa3,xa4,xa5⟩:=XA.all;obtain ⟨xb0,xb1,xb2,xb3,xb4,xb5⟩:=XB.all;obtain ⟨xc0,xc1,xc2,xc3,xc4,xc5⟩:=XC.all))
 generalize hW:World.alloc _ _=W2
 obtain ⟨hh,XD,hzW2⟩:=mkbx32_12 hW;clear hW;(try replace p:=p.below hh);(try replace q:=q.below hh);(try replace r:=r.below hh);(try replace XA:=XA.below hh);(try replace XB:=XB.below hh);(try replace XC:=XC.below hh);(try replace Z:=Z.below hh);(try replace d:=d.below hh);replace hb:=bend hb hh
 replace p:=p.below (Below.refl _ _).drew
 replace q:=q.below (Below.refl _ _).drew
 replace r:=r.below (Below.refl _ _).drew
 replace d:=d.below (Below.refl _ _).drew
 replace XA:=XA.below (Below.refl _ _).drew
 replace XB:=XB.below (Below.refl _ _).drew
 replace XC:=XC.below (Below.refl _ _).drew
 replace XD:=XD.below (Below.refl _ _).drew
 replace Z:=Z.below (Below.refl _ _).drew
 replace hb:=hb.drew
 refine wp_region_held_drew (S:=(fun w'=>w'.cell? ⟨w.heap.size,0,none⟩=some (.bool s_p)∧w'.cell? ⟨w.heap.size,1,none⟩=some (.slice A_p n_p c_p)∧w'.cell? ⟨w.heap.size,2,none⟩=some (.slice B_p m_p d_p)∧w'.cell? ⟨w.heap.size,3,none⟩=some (.bool t_p)∧w'.cell? ⟨w.heap.size,4,none⟩=some (.slice E_p i_p e_p)∧w'.cell? ⟨w.heap.size,5,none⟩=some (.slice F_p j_p f_p)∧w'.cell? ⟨w.heap.size+1,0,none⟩=some (.bool s_q)∧w'.cell? ⟨w.heap.size+1,1,none⟩=some (.slice A_q n_q c_q)∧w'.cell? ⟨w.heap.size+1,2,none⟩=some (.slice B_q m_q d_q)∧w'.cell? ⟨w.heap.size+1,3,none⟩=some (.bool t_q)∧w'.cell? ⟨w.heap.size+1,4,none⟩=some (.slice E_q i_q e_q)∧w'.cell? ⟨w.heap.size+1,5,none⟩=some (.slice F_q j_q f_q)∧w'.cell? ⟨w.heap.size+1+1,0,none⟩=some (.bool s_r)∧w'.cell? ⟨w.heap.size+1+1,1,none⟩=some (.slice A_r n_r c_r)∧w'.cell? ⟨w.heap.size+1+1,2,none⟩=some (.slice B_r m_r d_r)∧w'.cell? ⟨w.heap.size+1+1,3,none⟩=some (.bool t_r)∧w'.cell? ⟨w.heap.size+1+1,4,none⟩=some (.slice E_r i_r e_r)∧w'.cell? ⟨w.heap.size+1+1,5,none⟩=some (.slice F_r j_r f_r)∧w'.cell? ⟨w_d.heap.size,0,none⟩=some (.bool s_d)∧w'.cell? ⟨w_d.heap.size,1,none⟩=some (.slice A_d n_d c_d)∧w'.cell? ⟨w_d.heap.size,2,none⟩=some (.slice B_d m_d d_d)∧w'.cell? ⟨w_d.heap.size,3,none⟩=some (.bool t_d)∧w'.cell? ⟨w_d.heap.size,4,none⟩=some (.slice E_d i_d e_d)∧w'.cell? ⟨w_d.heap.size,5,none⟩=some (.slice F_d j_d f_d))) (by kernel_rfl) ⟨XA.c0,XA.c1,XA.c2,XA.c3,XA.c4,XA.c5,XB.c0,XB.c1,XB.c2,XB.c3,XB.c4,XB.c5,XC.c0,XC.c1,XC.c2,XC.c3,XC.c4,XC.c5,XD.c0,XD.c1,XD.c2,XD.c3,XD.c4,XD.c5⟩ (fun hHeld=>?_)
 refine wpAnyH_take (i:=0) (oi:=⟨some 11,.load 60 (.tmp 4),60, "ref.go:62",#[],none⟩) (v:=?_) rfl (by kernel_rfl) (by kernel_rfl) (by kernel_rfl) (fun _ _ _ h=>h) (Or.inl ⟨by rfl,?_⟩) hHeld ?_
 rotate_left
 · (intro w hSw;(try dsimp only at hSw);go_simp;try with_reducible rfl)
 simp only [Act.put,List.setIfInBounds_toArray,List.set_cons_zero,List.set_cons_succ]
 refine wpAnyH_take (i:=1) (oi:=⟨some 12,.load 60 (.tmp 5),60, "ref.go:62",#[],none⟩) (v:=?_) rfl (by kernel_rfl) (by kernel_rfl) (by kernel_rfl) (fun _ _ _ h=>h) (Or.inl ⟨by rfl,?_⟩) hHeld ?_
 rotate_left
 · (intro w hSw;(try dsimp only at hSw);go_simp;try with_reducible rfl)
 simp only [Act.put,List.setIfInBounds_toArray,List.set_cons_zero,List.set_cons_succ]
 refine wpAnyH_ready (rs:=[2]) (by kernel_rfl) (by simp) ?_
 refine AllReadyH.cons (o:=⟨some 13,.call ⟨.value (.func 96),#[.tmp 11,.tmp 12],#[60,60]⟩,4, "ref.go:62",#[⟨0,.data⟩,⟨1,.data⟩],none⟩) rfl (fun K1 hK1=>?_) AllReadyH.nil
 go_simp
 first
  | (go_at_call 96;(with_reducible refine (rsame6 q r (by omega) (by omega) true HS.out).mono ?_);rintro e w_z ⟨rfl,hh⟩
     (try replace p:=p.below hh);(try replace q:=q.below hh);(try replace r:=r.below hh);(try replace d:=d.below hh);(try replace XA:=XA.below hh);(try replace XB:=XB.below hh);(try replace XC:=XC.below hh);(try replace XD:=XD.below hh);(try replace Z:=Z.below hh);replace hb:=bend hb hh)
 refine hK1.out _ _ ⟨XA.c0,XA.c1,XA.c2,XA.c3,XA.c4,XA.c5,XB.c0,XB.c1,XB.c2,XB.c3,XB.c4,XB.c5,XC.c0,XC.c1,XC.c2,XC.c3,XC.c4,XC.c5,XD.c0,XD.c1,XD.c2,XD.c3,XD.c4,XD.c5⟩ (fun hHeld=>?_)
 clear hK1 K1
 refine wpAnyH_take (i:=3) (oi:=⟨some 14,.move (.tmp 13),4, "ref.go:62",#[⟨2,.data⟩,⟨2,.chain⟩],none⟩) (v:=?_) rfl (by kernel_rfl) (by kernel_rfl) (by kernel_rfl) (fun _ _ _ h=>h) (Or.inl ⟨by rfl,?_⟩) hHeld ?_
 rotate_left
 · (intro w hSw;(try dsimp only at hSw);go_simp;try with_reducible rfl)
 simp only [Act.put,List.setIfInBounds_toArray,List.set_cons_zero,List.set_cons_succ]
 refine wpAnyH_take (i:=4) (oi:=⟨some 15,.load 60 (.tmp 3),60, "ref.go:62",#[⟨3,.guard⟩],some (3,false)⟩) (v:=undef) rfl (by kernel_rfl) (by kernel_rfl) (by kernel_rfl) (fun _ _ _ h=>h) (Or.inr ⟨by rfl,rfl⟩) hHeld ?_
 simp only [Act.put,List.setIfInBounds_toArray,List.set_cons_zero,List.set_cons_succ]
 refine wpAnyH_take (i:=5) (oi:=⟨some 16,.load 60 (.tmp 4),60, "ref.go:62",#[⟨3,.guard⟩],some (3,false)⟩) (v:=undef) rfl (by kernel_rfl) (by kernel_rfl) (by kernel_rfl) (fun _ _ _ h=>h) (Or.inr ⟨by rfl,rfl⟩) hHeld ?_
 simp only [Act.put,List.setIfInBounds_toArray,List.set_cons_zero,List.set_cons_succ]
 refine wpAnyH_take (i:=6) (oi:=⟨some 17,.call ⟨.value (.func 91),#[.tmp 15,.tmp 16],#[60,60]⟩,60, "ref.go:62",#[⟨4,.data⟩,⟨5,.data⟩,⟨3,.chain⟩,⟨3,.guard⟩],some (3,false)⟩) (v:=undef) rfl (by kernel_rfl) (by kernel_rfl) (by kernel_rfl) (fun _ _ _ h=>h) (Or.inr ⟨by rfl,rfl⟩) hHeld ?_
 simp only [Act.put,List.setIfInBounds_toArray,List.set_cons_zero,List.set_cons_succ]
 refine wpAnyH_take (i:=7) (oi:=⟨some 18,.load 60 (.tmp 7),60, "ref.go:62",#[⟨3,.guard⟩],some (3,false)⟩) (v:=undef) rfl (by kernel_rfl) (by kernel_rfl) (by kernel_rfl) (fun _ _ _ h=>h) (Or.inr ⟨by rfl,rfl⟩) hHeld ?_
 simp only [Act.put,List.setIfInBounds_toArray,List.set_cons_zero,List.set_cons_succ]
 refine wpAnyH_take (i:=8) (oi:=⟨some 19,.call ⟨.value (.func 151),#[.tmp 17,.tmp 18],#[60,60]⟩,37, "ref.go:62",#[⟨6,.data⟩,⟨7,.data⟩,⟨6,.chain⟩,⟨3,.guard⟩],some (3,false)⟩) (v:=undef) rfl (by kernel_rfl) (by kernel_rfl) (by kernel_rfl) (fun _ _ _ h=>h) (Or.inr ⟨by rfl,rfl⟩) hHeld ?_
 simp only [Act.put,List.setIfInBounds_toArray,List.set_cons_zero,List.set_cons_succ]
 refine wpAnyH_take (i:=9) (oi:=⟨some 20,.call ⟨.value (.func 93),#[.tmp 19],#[37]⟩,3, "ref.go:62",#[⟨8,.data⟩,⟨8,.chain⟩,⟨3,.guard⟩],some (3,false)⟩) (v:=undef) rfl (by kernel_rfl) (by kernel_rfl) (by kernel_rfl) (fun _ _ _ h=>h) (Or.inr ⟨by rfl,rfl⟩) hHeld ?_
 simp only [Act.put,List.setIfInBounds_toArray,List.set_cons_zero,List.set_cons_succ]
 refine wpAnyH_take (i:=10) (oi:=⟨some 21,.binOp BinOp.leq 3 (.tmp 20) (.const (Value.int IntKind.i64 0)) 3,4, "ref.go:62",#[⟨9,.data⟩,⟨3,.guard⟩],some (3,false)⟩) (v:=undef) rfl (by kernel_rfl) (by kernel_rfl) (by kernel_rfl) (fun _ _ _ h=>h) (Or.inr ⟨by rfl,rfl⟩) hHeld ?_
 simp only [Act.put,List.setIfInBounds_toArray,List.set_cons_zero,List.set_cons_succ]
 refine wpAnyH_take (i:=11) (oi:=⟨some 22,.pick (.tmp 14) (.const (Value.bool true)) (.tmp 21),4, "ref.go:62",#[⟨3,.data⟩,⟨10,.data⟩],none⟩) (v:=?_) rfl (by kernel_rfl) (by kernel_rfl) (by kernel_rfl) (fun _ _ _ h=>h) (Or.inl ⟨by rfl,?_⟩) hHeld ?_
 rotate_left
 · (intro w hSw;(try dsimp only at hSw);go_simp;try with_reducible rfl)
 simp only [Act.put,List.setIfInBounds_toArray,List.set_cons_zero,List.set_cons_succ]
 refine wpAnyH_done (by kernel_rfl) ?_ _
 clear hHeld;have zg0:=Z.f0;have zg1:=Z.f1;have zg2:=Z.f2;have zg3:=Z.f3;have zg4:=Z.f4;have zg5:=Z.f5;obtain ⟨zc0,zc1,zc2,zc3,zc4,zc5⟩:=Z.all;obtain ⟨xb0,xb1,xb2,xb3,xb4,xb5⟩:=XB.all
 go_wp2_with fail
 have Z2:=Z.set6 (.bool s_q) (.slice A_q n_q c_q) (.slice B_q m_q d_q) (.bool t_q) (.slice E_q i_q e_q) (.slice F_q j_q f_q)
 obtain ⟨g0,g1,g2,g3,g4,g5⟩:=Z2.all
 refine bodyPost_ret (v:=.agg #[.bool s_q,.slice A_q n_q c_q,.slice B_q m_q d_q,.bool t_q,.slice E_q i_q e_q,.slice F_q j_q f_q]) (by simp [results,Tryz.results152,go_sem,g0,g1,g2,g3,g4,g5]) rfl ?_
 exact ⟨s_q,A_q,n_q,c_q,B_q,m_q,d_q,t_q,E_q,i_q,e_q,F_q,j_q,f_q,rfl,(q.more (by omega)).set6 Z _ _ _ _ _ _,below_set6 hb (by omega) _ _ _ _ _ _⟩
theorem rnear_lo {kp k:Nat} {px py ax ay bx by_:Rat} (p:RP w s_p A_p n_p c_p B_p m_p d_p t_p E_p i_p e_p F_p j_p f_p px py kp) (q:RP w s_q A_q n_q c_q B_q m_q d_q t_q E_q i_q e_q F_q j_q f_q ax ay k) (r:RP w s_r A_r n_r c_r B_r m_r d_r t_r E_r i_r e_r F_r j_r f_r bx by_ k) (hkp:kp≤300) (hk:k≤12) (hs:¬ (ax=bx∧ay=by_)) (hf:forthQ px py ax ay bx by_≤0) :
 Calls Tryz.prog 152 #[.agg #[.bool s_p,.slice A_p n_p c_p,.slice B_p m_p d_p,.bool t_p,.slice E_p i_p e_p,.slice F_p j_p f_p],.agg #[.bool s_q,.slice A_q n_q c_q,.slice B_q m_q d_q,.bool t_q,.slice E_q i_q e_q,.slice F_q j_q f_q],.agg #[.bool s_r,.slice A_r n_r c_r,.slice B_r m_r d_r,.bool t_r,.slice E_r i_r e_r,.slice F_r j_r f_r]] w (GivesRP w ax ay (2*kp+17*k+12)):=by
 have HS:Hid (decide (ax=bx∧ay=by_)=false):=decide_eq_false hs
 obtain ⟨U,hU,hU0⟩:∃ U,sgnQ ((px - ax)*(bx - ax)+(py - ay)*(by_ - ay))=U∧decide (U≤0)=true:=⟨_,rfl,decide_eq_true (sgn_nonpos.2 hf)⟩
 have HU:=Lib.hid hU;clear hU;clear hs hf
 go_enter Tryz.func152,Tryz.ntmps152
 go_wp2_with fail
 generalize hW:World.alloc _ _=W
 obtain ⟨hb,XA,XB,XC,Z,hzW⟩:=mkbx40_13 hW;clear hW;replace p:=p.below hb;replace q:=q.below hb;replace r:=r.below hb;obtain ⟨xa0,xa1,xa2,xa3,xa4,xa5⟩:=XA.all;obtain ⟨xb0,xb1,xb2,xb3,xb4,xb5⟩:=XB.all;obtain ⟨xc0,xc1,xc2,xc3,xc4,xc5⟩:=XC.all
 go_upto_region 2 with (first
  | (go_at_call 91;(with_reducible refine (rsub6 r q (by omega) (by omega)).mono ?_);rintro e w_d ⟨s_d,A_d,n_d,c_d,B_d,m_d,d_d,t_d,E_d,i_d,e_d,F_d,j_d,f_d,rfl,d,hh⟩
     have hgd:w.heap.size+4≤w_d.heap.size:=by have:=hh.size;omega
     (try replace p:=p.below hh);(try replace q:=q.below hh);(try replace r:=r.below hh);(try replace XA:=XA.below hh);(try replace XB:=XB.below hh);(try replace XC:=XC.below hh);(try replace Z:=Z.below hh);replace hb:=bend hb hh;obtain ⟨xa0,xa1,xa2,xa3,xa4,xa5⟩:=XA.all;obtain ⟨xb0,xb1,xb2,xb3,xb4,xb5⟩:=XB.all;obtain ⟨xc0,xc1,xc2,xc3,xc4,xc5⟩:=XC.all))
 generalize hW:World.alloc _ _=W2
 obtain ⟨hh,XD,hzW2⟩:=mkbx32_12 hW;clear hW;(try replace p:=p.below hh);(try replace q:=q.below hh);(try replace r:=r.below hh);(try replace XA:=XA.below hh);(try replace XB:=XB.below hh);(try replace XC:=XC.below hh);(try replace Z:=Z.below hh);(try replace d:=d.below hh);replace hb:=bend hb hh
 replace p:=p.below (Below.refl _ _).drew
 replace q:=q.below (Below.refl _ _).drew
 replace r:=r.below (Below.refl _ _).drew
 replace d:=d.below (Below.refl _ _).drew
 replace XA:=XA.below (Below.refl _ _).drew
 replace XB:=XB.below (Below.refl _ _).drew
 replace XC:=XC.below (Below.refl _ _).drew
 replace XD:=XD.below (Below.refl _ _).drew
 replace Z:=Z.below (Below.refl _ _).drew
 replace hb:=hb.drew
 go_region_held3 (fun w'=>w'.cell? ⟨w.heap.size,0,none⟩=some (.bool s_p)∧w'.cell? ⟨w.heap.size,1,none⟩=some (.slice A_p n_p c_p)∧w'.cell? ⟨w.heap.size,2,none⟩=some (.slice B_p m_p d_p)∧w'.cell? ⟨w.heap.size,3,none⟩=some (.bool t_p)∧w'.cell? ⟨w.heap.size,4,none⟩=some (.slice E_p i_p e_p)∧w'.cell? ⟨w.heap.size,5,none⟩=some (.slice F_p j_p f_p)∧w'.cell? ⟨w.heap.size+1,0,none⟩=some (.bool s_q)∧w'.cell? ⟨w.heap.size+1,1,none⟩=some (.slice A_q n_q c_q)∧w'.cell? ⟨w.heap.size+1,2,none⟩=some (.slice B_q m_q d_q)∧w'.cell? ⟨w.heap.size+1,3,none⟩=some (.bool t_q)∧w'.cell? ⟨w.heap.size+1,4,none⟩=some (.slice E_q i_q e_q)∧w'.cell? ⟨w.heap.size+1,5,none⟩=some (.slice F_q j_q f_q)∧w'.cell? ⟨w.heap.size+1+1,0,none⟩=some (.bool s_r)∧w'.cell? ⟨w.heap.size+1+1,1,none⟩=some (.slice A_r n_r c_r)∧w'.cell? ⟨w.heap.size+1+1,2,none⟩=some (.slice B_r m_r d_r)∧w'.cell? ⟨w.heap.size+1+1,3,none⟩=some (.bool t_r)∧w'.cell? ⟨w.heap.size+1+1,4,none⟩=some (.slice E_r i_r e_r)∧w'.cell? ⟨w.heap.size+1+1,5,none⟩=some (.slice F_r j_r f_r)∧w'.cell? ⟨w_d.heap.size,0,none⟩=some (.bool s_d)∧w'.cell? ⟨w_d.heap.size,1,none⟩=some (.slice A_d n_d c_d)∧w'.cell? ⟨w_d.heap.size,2,none⟩=some (.slice B_d m_d d_d)∧w'.cell? ⟨w_d.heap.size,3,none⟩=some (.bool t_d)∧w'.cell? ⟨w_d.heap.size,4,none⟩=some (.slice E_d i_d e_d)∧w'.cell? ⟨w_d.heap.size,5,none⟩=some (.slice F_d j_d f_d))
  (first | with_reducible exact ⟨XA.c0,XA.c1,XA.c2,XA.c3,XA.c4,XA.c5,XB.c0,XB.c1,XB.c2,XB.c3,XB.c4,XB.c5,XC.c0,XC.c1,XC.c2,XC.c3,XC.c4,XC.c5,XD.c0,XD.c1,XD.c2,XD.c3,XD.c4,XD.c5⟩)
  (first
  | (go_at_call 96;(with_reducible refine (rsame6 q r (by omega) (by omega) false HS.out).mono ?_);rintro e w_z ⟨rfl,hh⟩
     (try replace p:=p.below hh);(try replace q:=q.below hh);(try replace r:=r.below hh);(try replace d:=d.below hh);(try replace XA:=XA.below hh);(try replace XB:=XB.below hh);(try replace XC:=XC.below hh);(try replace XD:=XD.below hh);(try replace Z:=Z.below hh);replace hb:=bend hb hh)
  | (go_at_call 91;(with_reducible refine (rsub6 p q (by omega) (by omega)).mono ?_);rintro e w_a ⟨s_a,A_a,n_a,c_a,B_a,m_a,d_a,t_a,E_a,i_a,e_a,F_a,j_a,f_a,rfl,a,hh⟩
     (try replace p:=p.below hh);(try replace q:=q.below hh);(try replace r:=r.below hh);(try replace d:=d.below hh);(try replace XA:=XA.below hh);(try replace XB:=XB.below hh);(try replace XC:=XC.below hh);(try replace XD:=XD.below hh);(try replace Z:=Z.below hh);replace hb:=bend hb hh)
  | (go_at_call 151;(with_reducible refine (rdot6 a d (by omega) (by omega)).mono ?_);rintro e w_f ⟨s_f,A_f,n_f,c_f,B_f,m_f,d_f,rfl,f,hh⟩
     (try replace p:=p.below hh);(try replace q:=q.below hh);(try replace r:=r.below hh);(try replace d:=d.below hh);(try replace XA:=XA.below hh);(try replace XB:=XB.below hh);(try replace XC:=XC.below hh);(try replace XD:=XD.below hh);(try replace Z:=Z.below hh);replace hb:=bend hb hh;clear a)
  | (go_at_call 93;(with_reducible refine (rsign3 f).mono ?_);rintro e w_z ⟨rfl,hh⟩
     rw [HU.out];clear f
     (try replace p:=p.below hh);(try replace q:=q.below hh);(try replace r:=r.below hh);(try replace d:=d.below hh);(try replace XA:=XA.below hh);(try replace XB:=XB.below hh);(try replace XC:=XC.below hh);(try replace XD:=XD.below hh);(try replace Z:=Z.below hh);replace hb:=bend hb hh))
 have zg0:=Z.f0;have zg1:=Z.f1;have zg2:=Z.f2;have zg3:=Z.f3;have zg4:=Z.f4;have zg5:=Z.f5;obtain ⟨zc0,zc1,zc2,zc3,zc4,zc5⟩:=Z.all;obtain ⟨xb0,xb1,xb2,xb3,xb4,xb5⟩:=XB.all
 go_wp2_with fail
 have Z2:=Z.set6 (.bool s_q) (.slice A_q n_q c_q) (.slice B_q m_q d_q) (.bool t_q) (.slice E_q i_q e_q) (.slice F_q j_q f_q)
 obtain ⟨g0,g1,g2,g3,g4,g5⟩:=Z2.all
 refine bodyPost_ret (v:=.agg #[.bool s_q,.slice A_q n_q c_q,.slice B_q m_q d_q,.bool t_q,.slice E_q i_q e_q,.slice F_q j_q f_q]) (by simp [results,Tryz.results152,go_sem,g0,g1,g2,g3,g4,g5]) rfl ?_
 exact ⟨s_q,A_q,n_q,c_q,B_q,m_q,d_q,t_q,E_q,i_q,e_q,F_q,j_q,f_q,rfl,(q.more (by omega)).set6 Z _ _ _ _ _ _,below_set6 hb (by omega) _ _ _ _ _ _⟩
theorem rnear_hi {kp k:Nat} {px py ax ay bx by_:Rat} (p:RP w s_p A_p n_p c_p B_p m_p d_p t_p E_p i_p e_p F_p j_p f_p px py kp) (q:RP w s_q A_q n_q c_q B_q m_q d_q t_q E_q i_q e_q F_q j_q f_q ax ay k) (r:RP w s_r A_r n_r c_r B_r m_r d_r t_r E_r i_r e_r F_r j_r f_r bx by_ k) (hkp:kp≤300) (hk:k≤12) (hs:¬ (ax=bx∧ay=by_)) (hf:¬ forthQ px py ax ay bx by_≤0) (hv:0≤near2 px py ax ay bx by_) :
 Calls Tryz.prog 152 #[.agg #[.bool s_p,.slice A_p n_p c_p,.slice B_p m_p d_p,.bool t_p,.slice E_p i_p e_p,.slice F_p j_p f_p],.agg #[.bool s_q,.slice A_q n_q c_q,.slice B_q m_q d_q,.bool t_q,.slice E_q i_q e_q,.slice F_q j_q f_q],.agg #[.bool s_r,.slice A_r n_r c_r,.slice B_r m_r d_r,.bool t_r,.slice E_r i_r e_r,.slice F_r j_r f_r]] w (GivesRP w bx by_ (2*kp+17*k+12)):=by
 have HS:Hid (decide (ax=bx∧ay=by_)=false):=decide_eq_false hs
 obtain ⟨U,hU,hU0⟩:∃ U,sgnQ ((px - ax)*(bx - ax)+(py - ay)*(by_ - ay))=U∧decide (U≤0)=false:=⟨_,rfl,decide_eq_false (fun e=>hf (sgn_nonpos.1 e))⟩
 have HU:=Lib.hid hU;clear hU
 obtain ⟨T,hT,hT0⟩:∃ T,sgnQ ((px - bx)*(bx - ax)+(py - by_)*(by_ - ay))=T∧decide (0≤T)=true:=⟨_,rfl,decide_eq_true (sgn_nonneg.2 hv)⟩
 have HT:=Lib.hid hT;clear hT;clear hs hf hv
 go_enter Tryz.func152,Tryz.ntmps152
 go_wp2_with fail
 generalize hW:World.alloc _ _=W
 obtain ⟨hb,XA,XB,XC,Z,hzW⟩:=mkbx40_13 hW;clear hW;replace p:=p.below hb;replace q:=q.below hb;replace r:=r.below hb;obtain ⟨xa0,xa1,xa2,xa3,xa4,xa5⟩:=XA.all;obtain ⟨xb0,xb1,xb2,xb3,xb4,xb5⟩:=XB.all;obtain ⟨xc0,xc1,xc2,xc3,xc4,xc5⟩:=XC.all
 go_upto_region 2 with (first
  | (go_at_call 91;(with_reducible refine (rsub6 r q (by omega) (by omega)).mono ?_);rintro e w_d ⟨s_d,A_d,n_d,c_d,B_d,m_d,d_d,t_d,E_d,i_d,e_d,F_d,j_d,f_d,rfl,d,hh⟩
     have hgd:w.heap.size+4≤w_d.heap.size:=by have:=hh.size;omega
     (try replace p:=p.below hh);(try replace q:=q.below hh);(try replace r:=r.below hh);(try replace XA:=XA.below hh);(try replace XB:=XB.below hh);(try replace XC:=XC.below hh);(try replace Z:=Z.below hh);replace hb:=bend hb hh;obtain ⟨xa0,xa1,xa2,xa3,xa4,xa5⟩:=XA.all;obtain ⟨xb0,xb1,xb2,xb3,xb4,xb5⟩:=XB.all;obtain ⟨xc0,xc1,xc2,xc3,xc4,xc5⟩:=XC.all))
 generalize hW:World.alloc _ _=W2
 obtain ⟨hh,XD,hzW2⟩:=mkbx32_12 hW;clear hW;(try replace p:=p.below hh);(try replace q:=q.below hh);(try replace r:=r.below hh);(try replace XA:=XA.below hh);(try replace XB:=XB.below hh);(try replace XC:=XC.below hh);(try replace Z:=Z.below hh);(try replace d:=d.below hh);replace hb:=bend hb hh
 replace p:=p.below (Below.refl _ _).drew
 replace q:=q.below (Below.refl _ _).drew
 replace r:=r.below (Below.refl _ _).drew
 replace d:=d.below (Below.refl _ _).drew
 replace XA:=XA.below (Below.refl _ _).drew
 replace XB:=XB.below (Below.refl _ _).drew
 replace XC:=XC.below (Below.refl _ _).drew
 replace XD:=XD.below (Below.refl _ _).drew
 replace Z:=Z.below (Below.refl _ _).drew
 replace hb:=hb.drew
 go_region_held3 (fun w'=>w'.cell? ⟨w.heap.size,0,none⟩=some (.bool s_p)∧w'.cell? ⟨w.heap.size,1,none⟩=some (.slice A_p n_p c_p)∧w'.cell? ⟨w.heap.size,2,none⟩=some (.slice B_p m_p d_p)∧w'.cell? ⟨w.heap.size,3,none⟩=some (.bool t_p)∧w'.cell? ⟨w.heap.size,4,none⟩=some (.slice E_p i_p e_p)∧w'.cell? ⟨w.heap.size,5,none⟩=some (.slice F_p j_p f_p)∧w'.cell? ⟨w.heap.size+1,0,none⟩=some (.bool s_q)∧w'.cell? ⟨w.heap.size+1,1,none⟩=some (.slice A_q n_q c_q)∧w'.cell? ⟨w.heap.size+1,2,none⟩=some (.slice B_q m_q d_q)∧w'.cell? ⟨w.heap.size+1,3,none⟩=some (.bool t_q)∧w'.cell? ⟨w.heap.size+1,4,none⟩=some (.slice E_q i_q e_q)∧w'.cell? ⟨w.heap.size+1,5,none⟩=some (.slice F_q j_q f_q)∧w'.cell? ⟨w.heap.size+1+1,0,none⟩=some (.bool s_r)∧w'.cell? ⟨w.heap.size+1+1,1,none⟩=some (.slice A_r n_r c_r)∧w'.cell? ⟨w.heap.size+1+1,2,none⟩=some (.slice B_r m_r d_r)∧w'.cell? ⟨w.heap.size+1+1,3,none⟩=some (.bool t_r)∧w'.cell? ⟨w.heap.size+1+1,4,none⟩=some (.slice E_r i_r e_r)∧w'.cell? ⟨w.heap.size+1+1,5,none⟩=some (.slice F_r j_r f_r)∧w'.cell? ⟨w_d.heap.size,0,none⟩=some (.bool s_d)∧w'.cell? ⟨w_d.heap.size,1,none⟩=some (.slice A_d n_d c_d)∧w'.cell? ⟨w_d.heap.size,2,none⟩=some (.slice B_d m_d d_d)∧w'.cell? ⟨w_d.heap.size,3,none⟩=some (.bool t_d)∧w'.cell? ⟨w_d.heap.size,4,none⟩=some (.slice E_d i_d e_d)∧w'.cell? ⟨w_d.heap.size,5,none⟩=some (.slice F_d j_d f_d))
  (first | with_reducible exact ⟨XA.c0,XA.c1,XA.c2,XA.c3,XA.c4,XA.c5,XB.c0,XB.c1,XB.c2,XB.c3,XB.c4,XB.c5,XC.c0,XC.c1,XC.c2,XC.c3,XC.c4,XC.c5,XD.c0,XD.c1,XD.c2,XD.c3,XD.c4,XD.c5⟩)
  (first
  | (go_at_call 96;(with_reducible refine (rsame6 q r (by omega) (by omega) false HS.out).mono ?_);rintro e w_z ⟨rfl,hh⟩
     (try replace p:=p.below hh);(try replace q:=q.below hh);(try replace r:=r.below hh);(try replace d:=d.below hh);(try replace XA:=XA.below hh);(try replace XB:=XB.below hh);(try replace XC:=XC.below hh);(try replace XD:=XD.below hh);(try replace Z:=Z.below hh);replace hb:=bend hb hh)
  | (go_at_call 91;(with_reducible refine (rsub6 p q (by omega) (by omega)).mono ?_);rintro e w_a ⟨s_a,A_a,n_a,c_a,B_a,m_a,d_a,t_a,E_a,i_a,e_a,F_a,j_a,f_a,rfl,a,hh⟩
     (try replace p:=p.below hh);(try replace q:=q.below hh);(try replace r:=r.below hh);(try replace d:=d.below hh);(try replace XA:=XA.below hh);(try replace XB:=XB.below hh);(try replace XC:=XC.below hh);(try replace XD:=XD.below hh);(try replace Z:=Z.below hh);replace hb:=bend hb hh)
  | (go_at_call 151;(with_reducible refine (rdot6 a d (by omega) (by omega)).mono ?_);rintro e w_f ⟨s_f,A_f,n_f,c_f,B_f,m_f,d_f,rfl,f,hh⟩
     (try replace p:=p.below hh);(try replace q:=q.below hh);(try replace r:=r.below hh);(try replace d:=d.below hh);(try replace XA:=XA.below hh);(try replace XB:=XB.below hh);(try replace XC:=XC.below hh);(try replace XD:=XD.below hh);(try replace Z:=Z.below hh);replace hb:=bend hb hh;clear a)
  | (go_at_call 93;(with_reducible refine (rsign3 f).mono ?_);rintro e w_z ⟨rfl,hh⟩
     rw [HU.out];clear f
     (try replace p:=p.below hh);(try replace q:=q.below hh);(try replace r:=r.below hh);(try replace d:=d.below hh);(try replace XA:=XA.below hh);(try replace XB:=XB.below hh);(try replace XC:=XC.below hh);(try replace XD:=XD.below hh);(try replace Z:=Z.below hh);replace hb:=bend hb hh))
 go_upto_region 4 with (fail)
 replace p:=p.below (Below.refl _ _).drew
 replace q:=q.below (Below.refl _ _).drew
 replace r:=r.below (Below.refl _ _).drew
 replace d:=d.below (Below.refl _ _).drew
 replace XA:=XA.below (Below.refl _ _).drew
 replace XB:=XB.below (Below.refl _ _).drew
 replace XC:=XC.below (Below.refl _ _).drew
 replace XD:=XD.below (Below.refl _ _).drew
 replace Z:=Z.below (Below.refl _ _).drew
 replace hb:=hb.drew
 go_region_held3 (fun w'=>w'.cell? ⟨w.heap.size,0,none⟩=some (.bool s_p)∧w'.cell? ⟨w.heap.size,1,none⟩=some (.slice A_p n_p c_p)∧w'.cell? ⟨w.heap.size,2,none⟩=some (.slice B_p m_p d_p)∧w'.cell? ⟨w.heap.size,3,none⟩=some (.bool t_p)∧w'.cell? ⟨w.heap.size,4,none⟩=some (.slice E_p i_p e_p)∧w'.cell? ⟨w.heap.size,5,none⟩=some (.slice F_p j_p f_p)∧w'.cell? ⟨w.heap.size+1,0,none⟩=some (.bool s_q)∧w'.cell? ⟨w.heap.size+1,1,none⟩=some (.slice A_q n_q c_q)∧w'.cell? ⟨w.heap.size+1,2,none⟩=some (.slice B_q m_q d_q)∧w'.cell? ⟨w.heap.size+1,3,none⟩=some (.bool t_q)∧w'.cell? ⟨w.heap.size+1,4,none⟩=some (.slice E_q i_q e_q)∧w'.cell? ⟨w.heap.size+1,5,none⟩=some (.slice F_q j_q f_q)∧w'.cell? ⟨w.heap.size+1+1,0,none⟩=some (.bool s_r)∧w'.cell? ⟨w.heap.size+1+1,1,none⟩=some (.slice A_r n_r c_r)∧w'.cell? ⟨w.heap.size+1+1,2,none⟩=some (.slice B_r m_r d_r)∧w'.cell? ⟨w.heap.size+1+1,3,none⟩=some (.bool t_r)∧w'.cell? ⟨w.heap.size+1+1,4,none⟩=some (.slice E_r i_r e_r)∧w'.cell? ⟨w.heap.size+1+1,5,none⟩=some (.slice F_r j_r f_r)∧w'.cell? ⟨w_d.heap.size,0,none⟩=some (.bool s_d)∧w'.cell? ⟨w_d.heap.size,1,none⟩=some (.slice A_d n_d c_d)∧w'.cell? ⟨w_d.heap.size,2,none⟩=some (.slice B_d m_d d_d)∧w'.cell? ⟨w_d.heap.size,3,none⟩=some (.bool t_d)∧w'.cell? ⟨w_d.heap.size,4,none⟩=some (.slice E_d i_d e_d)∧w'.cell? ⟨w_d.heap.size,5,none⟩=some (.slice F_d j_d f_d))
  (first | with_reducible exact ⟨XA.c0,XA.c1,XA.c2,XA.c3,XA.c4,XA.c5,XB.c0,XB.c1,XB.c2,XB.c3,XB.c4,XB.c5,XC.c0,XC.c1,XC.c2,XC.c3,XC.c4,XC.c5,XD.c0,XD.c1,XD.c2,XD.c3,XD.c4,XD.c5⟩)
  (first
  | (go_at_call 91;(with_reducible refine (rsub6 p r (by omega) (by omega)).mono ?_);rintro e w_b ⟨s_b,A_b,n_b,c_b,B_b,m_b,d_b,t_b,E_b,i_b,e_b,F_b,j_b,f_b,rfl,b,hh⟩
     (try replace p:=p.below hh);(try replace q:=q.below hh);(try replace r:=r.below hh);(try replace d:=d.below hh);(try replace XA:=XA.below hh);(try replace XB:=XB.below hh);(try replace XC:=XC.below hh);(try replace XD:=XD.below hh);(try replace Z:=Z.below hh);replace hb:=bend hb hh)
  | (go_at_call 151;(with_reducible refine (rdot6 b d (by omega) (by omega)).mono ?_);rintro e w_g ⟨s_g,A_g,n_g,c_g,B_g,m_g,d_g,rfl,g,hh⟩
     (try replace p:=p.below hh);(try replace q:=q.below hh);(try replace r:=r.below hh);(try replace d:=d.below hh);(try replace XA:=XA.below hh);(try replace XB:=XB.below hh);(try replace XC:=XC.below hh);(try replace XD:=XD.below hh);(try replace Z:=Z.below hh);replace hb:=bend hb hh;clear b)
  | (go_at_call 93;(with_reducible refine (rsign3 g).mono ?_);rintro e w_z ⟨rfl,hh⟩
     rw [HT.out];clear g
     (try replace p:=p.below hh);(try replace q:=q.below hh);(try replace r:=r.below hh);(try replace d:=d.below hh);(try replace XA:=XA.below hh);(try replace XB:=XB.below hh);(try replace XC:=XC.below hh);(try replace XD:=XD.below hh);(try replace Z:=Z.below hh);replace hb:=bend hb hh))
 have zg0:=Z.f0;have zg1:=Z.f1;have zg2:=Z.f2;have zg3:=Z.f3;have zg4:=Z.f4;have zg5:=Z.f5;obtain ⟨zc0,zc1,zc2,zc3,zc4,zc5⟩:=Z.all;obtain ⟨xc0,xc1,xc2,xc3,xc4,xc5⟩:=XC.all
 go_wp2_with fail
 have Z2:=Z.set6 (.bool s_r) (.slice A_r n_r c_r) (.slice B_r m_r d_r) (.bool t_r) (.slice E_r i_r e_r) (.slice F_r j_r f_r)
 obtain ⟨g0,g1,g2,g3,g4,g5⟩:=Z2.all
 refine bodyPost_ret (v:=.agg #[.bool s_r,.slice A_r n_r c_r,.slice B_r m_r d_r,.bool t_r,.slice E_r i_r e_r,.slice F_r j_r f_r]) (by simp [results,Tryz.results152,go_sem,g0,g1,g2,g3,g4,g5]) rfl ?_
 exact ⟨s_r,A_r,n_r,c_r,B_r,m_r,d_r,t_r,E_r,i_r,e_r,F_r,j_r,f_r,rfl,(r.more (by omega)).set6 Z _ _ _ _ _ _,below_set6 hb (by omega) _ _ _ _ _ _⟩
theorem rnear_mid {kp k:Nat} {px py ax ay bx by_:Rat} (p:RP w s_p A_p n_p c_p B_p m_p d_p t_p E_p i_p e_p F_p j_p f_p px py kp) (q:RP w s_q A_q n_q c_q B_q m_q d_q t_q E_q i_q e_q F_q j_q f_q ax ay k) (r:RP w s_r A_r n_r c_r B_r m_r d_r t_r E_r i_r e_r F_r j_r f_r bx by_ k) (hkp:kp≤300) (hk:k≤12) (hs:¬ (ax=bx∧ay=by_)) (hf:¬ forthQ px py ax ay bx by_≤0) (hv:¬ 0≤near2 px py ax ay bx by_) :
 Calls Tryz.prog 152 #[.agg #[.bool s_p,.slice A_p n_p c_p,.slice B_p m_p d_p,.bool t_p,.slice E_p i_p e_p,.slice F_p j_p f_p],.agg #[.bool s_q,.slice A_q n_q c_q,.slice B_q m_q d_q,.bool t_q,.slice E_q i_q e_q,.slice F_q j_q f_q],.agg #[.bool s_r,.slice A_r n_r c_r,.slice B_r m_r d_r,.bool t_r,.slice E_r i_r e_r,.slice F_r j_r f_r]] w (GivesRP w (ax+(bx - ax)*(((px - ax)*(bx - ax)+(py - ay)*(by_ - ay)) / ((bx - ax)*(bx - ax)+(by_ - ay)*(by_ - ay)))) (ay+(by_ - ay)*(((px - ax)*(bx - ax)+(py - ay)*(by_ - ay)) / ((bx - ax)*(bx - ax)+(by_ - ay)*(by_ - ay)))) (2*kp+17*k+12)):=by
 have HS:Hid (decide (ax=bx∧ay=by_)=false):=decide_eq_false hs
 obtain ⟨U,hU,hU0⟩:∃ U,sgnQ ((px - ax)*(bx - ax)+(py - ay)*(by_ - ay))=U∧decide (U≤0)=false:=⟨_,rfl,decide_eq_false (fun e=>hf (sgn_nonpos.1 e))⟩
 have HU:=Lib.hid hU;clear hU
 obtain ⟨T,hT,hT0⟩:∃ T,sgnQ ((px - bx)*(bx - ax)+(py - by_)*(by_ - ay))=T∧decide (0≤T)=false:=⟨_,rfl,decide_eq_false (fun e=>hv (sgn_nonneg.1 e))⟩
 have HT:=Lib.hid hT;clear hT
 have HG:Hid (((bx - ax)*(bx - ax)+(by_ - ay)*(by_ - ay)) ≠ 0):=fun e=>hs (whole_z ax ay bx by_ e)
 clear hs hf hv
 go_enter Tryz.func152,Tryz.ntmps152
 go_wp2_with fail
 generalize hW:World.alloc _ _=W
 obtain ⟨hb,XA,XB,XC,Z,hzW⟩:=mkbx40_13 hW;clear hW;replace p:=p.below hb;replace q:=q.below hb;replace r:=r.below hb;obtain ⟨xa0,xa1,xa2,xa3,xa4,xa5⟩:=XA.all;obtain ⟨xb0,xb1,xb2,xb3,xb4,xb5⟩:=XB.all;obtain ⟨xc0,xc1,xc2,xc3,xc4,xc5⟩:=XC.all
 go_upto_region 2 with (first
  | (go_at_call 91;(with_reducible refine (rsub6 r q (by omega) (by omega)).mono ?_);rintro e w_d ⟨s_d,A_d,n_d,c_d,B_d,m_d,d_d,t_d,E_d,i_d,e_d,F_d,j_d,f_d,rfl,d,hh⟩
     have hgd:w.heap.size+4≤w_d.heap.size:=by have:=hh.size;omega
     (try replace p:=p.below hh);(try replace q:=q.below hh);(try replace r:=r.below hh);(try replace XA:=XA.below hh);(try replace XB:=XB.below hh);(try replace XC:=XC.below hh);(try replace Z:=Z.below hh);replace hb:=bend hb hh;obtain ⟨xa0,xa1,xa2,xa3,xa4,xa5⟩:=XA.all;obtain ⟨xb0,xb1,xb2,xb3,xb4,xb5⟩:=XB.all;obtain ⟨xc0,xc1,xc2,xc3,xc4,xc5⟩:=XC.all))
 generalize hW:World.alloc _ _=W2
 obtain ⟨hh,XD,hzW2⟩:=mkbx32_12 hW;clear hW;(try replace p:=p.below hh);(try replace q:=q.below hh);(try replace r:=r.below hh);(try replace XA:=XA.below hh);(try replace XB:=XB.below hh);(try replace XC:=XC.below hh);(try replace Z:=Z.below hh);(try replace d:=d.below hh);replace hb:=bend hb hh
 replace p:=p.below (Below.refl _ _).drew
 replace q:=q.below (Below.refl _ _).drew
 replace r:=r.below (Below.refl _ _).drew
 replace d:=d.below (Below.refl _ _).drew
 replace XA:=XA.below (Below.refl _ _).drew
 replace XB:=XB.below (Below.refl _ _).drew
 replace XC:=XC.below (Below.refl _ _).drew
 replace XD:=XD.below (Below.refl _ _).drew
 replace Z:=Z.below (Below.refl _ _).drew
 replace hb:=hb.drew
 go_region_held3 (fun w'=>w'.cell? ⟨w.heap.size,0,none⟩=some (.bool s_p)∧w'.cell? ⟨w.heap.size,1,none⟩=some (.slice A_p n_p c_p)∧w'.cell? ⟨w.heap.size,2,none⟩=some (.slice B_p m_p d_p)∧w'.cell? ⟨w.heap.size,3,none⟩=some (.bool t_p)∧w'.cell? ⟨w.heap.size,4,none⟩=some (.slice E_p i_p e_p)∧w'.cell? ⟨w.heap.size,5,none⟩=some (.slice F_p j_p f_p)∧w'.cell? ⟨w.heap.size+1,0,none⟩=some (.bool s_q)∧w'.cell? ⟨w.heap.size+1,1,none⟩=some (.slice A_q n_q c_q)∧w'.cell? ⟨w.heap.size+1,2,none⟩=some (.slice B_q m_q d_q)∧w'.cell? ⟨w.heap.size+1,3,none⟩=some (.bool t_q)∧w'.cell? ⟨w.heap.size+1,4,none⟩=some (.slice E_q i_q e_q)∧w'.cell? ⟨w.heap.size+1,5,none⟩=some (.slice F_q j_q f_q)∧w'.cell? ⟨w.heap.size+1+1,0,none⟩=some (.bool s_r)∧w'.cell? ⟨w.heap.size+1+1,1,none⟩=some (.slice A_r n_r c_r)∧w'.cell? ⟨w.heap.size+1+1,2,none⟩=some (.slice B_r m_r d_r)∧w'.cell? ⟨w.heap.size+1+1,3,none⟩=some (.bool t_r)∧w'.cell? ⟨w.heap.size+1+1,4,none⟩=some (.slice E_r i_r e_r)∧w'.cell? ⟨w.heap.size+1+1,5,none⟩=some (.slice F_r j_r f_r)∧w'.cell? ⟨w_d.heap.size,0,none⟩=some (.bool s_d)∧w'.cell? ⟨w_d.heap.size,1,none⟩=some (.slice A_d n_d c_d)∧w'.cell? ⟨w_d.heap.size,2,none⟩=some (.slice B_d m_d d_d)∧w'.cell? ⟨w_d.heap.size,3,none⟩=some (.bool t_d)∧w'.cell? ⟨w_d.heap.size,4,none⟩=some (.slice E_d i_d e_d)∧w'.cell? ⟨w_d.heap.size,5,none⟩=some (.slice F_d j_d f_d))
  (first | with_reducible exact ⟨XA.c0,XA.c1,XA.c2,XA.c3,XA.c4,XA.c5,XB.c0,XB.c1,XB.c2,XB.c3,XB.c4,XB.c5,XC.c0,XC.c1,XC.c2,XC.c3,XC.c4,XC.c5,XD.c0,XD.c1,XD.c2,XD.c3,XD.c4,XD.c5⟩)
  (first
  | (go_at_call 96;(with_reducible refine (rsame6 q r (by omega) (by omega) false HS.out).mono ?_);rintro e w_z ⟨rfl,hh⟩
     (try replace p:=p.below hh);(try replace q:=q.below hh);(try replace r:=r.below hh);(try replace d:=d.below hh);(try replace XA:=XA.below hh);(try replace XB:=XB.below hh);(try replace XC:=XC.below hh);(try replace XD:=XD.below hh);(try replace Z:=Z.below hh);replace hb:=bend hb hh)
  | (go_at_call 91;(with_reducible refine (rsub6 p q (by omega) (by omega)).mono ?_);rintro e w_a ⟨s_a,A_a,n_a,c_a,B_a,m_a,d_a,t_a,E_a,i_a,e_a,F_a,j_a,f_a,rfl,a,hh⟩
     (try replace p:=p.below hh);(try replace q:=q.below hh);(try replace r:=r.below hh);(try replace d:=d.below hh);(try replace XA:=XA.below hh);(try replace XB:=XB.below hh);(try replace XC:=XC.below hh);(try replace XD:=XD.below hh);(try replace Z:=Z.below hh);replace hb:=bend hb hh)
  | (go_at_call 151;(with_reducible refine (rdot6 a d (by omega) (by omega)).mono ?_);rintro e w_f ⟨s_f,A_f,n_f,c_f,B_f,m_f,d_f,rfl,f,hh⟩
     (try replace p:=p.below hh);(try replace q:=q.below hh);(try replace r:=r.below hh);(try replace d:=d.below hh);(try replace XA:=XA.below hh);(try replace XB:=XB.below hh);(try replace XC:=XC.below hh);(try replace XD:=XD.below hh);(try replace Z:=Z.below hh);replace hb:=bend hb hh;clear a)
  | (go_at_call 93;(with_reducible refine (rsign3 f).mono ?_);rintro e w_z ⟨rfl,hh⟩
     rw [HU.out];clear f
     (try replace p:=p.below hh);(try replace q:=q.below hh);(try replace r:=r.below hh);(try replace d:=d.below hh);(try replace XA:=XA.below hh);(try replace XB:=XB.below hh);(try replace XC:=XC.below hh);(try replace XD:=XD.below hh);(try replace Z:=Z.below hh);replace hb:=bend hb hh))
 go_upto_region 4 with (fail)
 replace p:=p.below (Below.refl _ _).drew
 replace q:=q.below (Below.refl _ _).drew
 replace r:=r.below (Below.refl _ _).drew
 replace d:=d.below (Below.refl _ _).drew
 replace XA:=XA.below (Below.refl _ _).drew
 replace XB:=XB.below (Below.refl _ _).drew
 replace XC:=XC.below (Below.refl _ _).drew
 replace XD:=XD.below (Below.refl _ _).drew
 replace Z:=Z.below (Below.refl _ _).drew
 replace hb:=hb.drew
 go_region_held3 (fun w'=>w'.cell? ⟨w.heap.size,0,none⟩=some (.bool s_p)∧w'.cell? ⟨w.heap.size,1,none⟩=some (.slice A_p n_p c_p)∧w'.cell? ⟨w.heap.size,2,none⟩=some (.slice B_p m_p d_p)∧w'.cell? ⟨w.heap.size,3,none⟩=some (.bool t_p)∧w'.cell? ⟨w.heap.size,4,none⟩=some (.slice E_p i_p e_p)∧w'.cell? ⟨w.heap.size,5,none⟩=some (.slice F_p j_p f_p)∧w'.cell? ⟨w.heap.size+1,0,none⟩=some (.bool s_q)∧w'.cell? ⟨w.heap.size+1,1,none⟩=some (.slice A_q n_q c_q)∧w'.cell? ⟨w.heap.size+1,2,none⟩=some (.slice B_q m_q d_q)∧w'.cell? ⟨w.heap.size+1,3,none⟩=some (.bool t_q)∧w'.cell? ⟨w.heap.size+1,4,none⟩=some (.slice E_q i_q e_q)∧w'.cell? ⟨w.heap.size+1,5,none⟩=some (.slice F_q j_q f_q)∧w'.cell? ⟨w.heap.size+1+1,0,none⟩=some (.bool s_r)∧w'.cell? ⟨w.heap.size+1+1,1,none⟩=some (.slice A_r n_r c_r)∧w'.cell? ⟨w.heap.size+1+1,2,none⟩=some (.slice B_r m_r d_r)∧w'.cell? ⟨w.heap.size+1+1,3,none⟩=some (.bool t_r)∧w'.cell? ⟨w.heap.size+1+1,4,none⟩=some (.slice E_r i_r e_r)∧w'.cell? ⟨w.heap.size+1+1,5,none⟩=some (.slice F_r j_r f_r)∧w'.cell? ⟨w_d.heap.size,0,none⟩=some (.bool s_d)∧w'.cell? ⟨w_d.heap.size,1,none⟩=some (.slice A_d n_d c_d)∧w'.cell? ⟨w_d.heap.size,2,none⟩=some (.slice B_d m_d d_d)∧w'.cell? ⟨w_d.heap.size,3,none⟩=some (.bool t_d)∧w'.cell? ⟨w_d.heap.size,4,none⟩=some (.slice E_d i_d e_d)∧w'.cell? ⟨w_d.heap.size,5,none⟩=some (.slice F_d j_d f_d))
  (first | with_reducible exact ⟨XA.c0,XA.c1,XA.c2,XA.c3,XA.c4,XA.c5,XB.c0,XB.c1,XB.c2,XB.c3,XB.c4,XB.c5,XC.c0,XC.c1,XC.c2,XC.c3,XC.c4,XC.c5,XD.c0,XD.c1,XD.c2,XD.c3,XD.c4,XD.c5⟩)
  (first
  | (go_at_call 91;(with_reducible refine (rsub6 p r (by omega) (by omega)).mono ?_);rintro e w_b ⟨s_b,A_b,n_b,c_b,B_b,m_b,d_b,t_b,E_b,i_b,e_b,F_b,j_b,f_b,rfl,b,hh⟩
     (try replace p:=p.below hh);(try replace q:=q.below hh);(try replace r:=r.below hh);(try replace d:=d.below hh);(try replace XA:=XA.below hh);(try replace XB:=XB.below hh);(try replace XC:=XC.below hh);(try replace XD:=XD.below hh);(try replace Z:=Z.below hh);replace hb:=bend hb hh)
  | (go_at_call 151;(with_reducible refine (rdot6 b d (by omega) (by omega)).mono ?_);rintro e w_g ⟨s_g,A_g,n_g,c_g,B_g,m_g,d_g,rfl,g,hh⟩
     (try replace p:=p.below hh);(try replace q:=q.below hh);(try replace r:=r.below hh);(try replace d:=d.below hh);(try replace XA:=XA.below hh);(try replace XB:=XB.below hh);(try replace XC:=XC.below hh);(try replace XD:=XD.below hh);(try replace Z:=Z.below hh);replace hb:=bend hb hh;clear b)
  | (go_at_call 93;(with_reducible refine (rsign3 g).mono ?_);rintro e w_z ⟨rfl,hh⟩
     rw [HT.out];clear g
     (try replace p:=p.below hh);(try replace q:=q.below hh);(try replace r:=r.below hh);(try replace d:=d.below hh);(try replace XA:=XA.below hh);(try replace XB:=XB.below hh);(try replace XC:=XC.below hh);(try replace XD:=XD.below hh);(try replace Z:=Z.below hh);replace hb:=bend hb hh))
 go_upto_region 6 with (fail)
 replace p:=p.below (Below.refl _ _).drew
 replace q:=q.below (Below.refl _ _).drew
 replace r:=r.below (Below.refl _ _).drew
 replace d:=d.below (Below.refl _ _).drew
 replace XA:=XA.below (Below.refl _ _).drew
 replace XB:=XB.below (Below.refl _ _).drew
 replace XC:=XC.below (Below.refl _ _).drew
 replace XD:=XD.below (Below.refl _ _).drew
 replace Z:=Z.below (Below.refl _ _).drew
 replace hb:=hb.drew
 go_region_held3 (fun w'=>w'.cell? ⟨w.heap.size,0,none⟩=some (.bool s_p)∧w'.cell? ⟨w.heap.size,1,none⟩=some (.slice A_p n_p c_p)∧w'.cell? ⟨w.heap.size,2,none⟩=some (.slice B_p m_p d_p)∧w'.cell? ⟨w.heap.size,3,none⟩=some (.bool t_p)∧w'.cell? ⟨w.heap.size,4,none⟩=some (.slice E_p i_p e_p)∧w'.cell? ⟨w.heap.size,5,none⟩=some (.slice F_p j_p f_p)∧w'.cell? ⟨w.heap.size+1,0,none⟩=some (.bool s_q)∧w'.cell? ⟨w.heap.size+1,1,none⟩=some (.slice A_q n_q c_q)∧w'.cell? ⟨w.heap.size+1,2,none⟩=some (.slice B_q m_q d_q)∧w'.cell? ⟨w.heap.size+1,3,none⟩=some (.bool t_q)∧w'.cell? ⟨w.heap.size+1,4,none⟩=some (.slice E_q i_q e_q)∧w'.cell? ⟨w.heap.size+1,5,none⟩=some (.slice F_q j_q f_q)∧w'.cell? ⟨w.heap.size+1+1,0,none⟩=some (.bool s_r)∧w'.cell? ⟨w.heap.size+1+1,1,none⟩=some (.slice A_r n_r c_r)∧w'.cell? ⟨w.heap.size+1+1,2,none⟩=some (.slice B_r m_r d_r)∧w'.cell? ⟨w.heap.size+1+1,3,none⟩=some (.bool t_r)∧w'.cell? ⟨w.heap.size+1+1,4,none⟩=some (.slice E_r i_r e_r)∧w'.cell? ⟨w.heap.size+1+1,5,none⟩=some (.slice F_r j_r f_r)∧w'.cell? ⟨w_d.heap.size,0,none⟩=some (.bool s_d)∧w'.cell? ⟨w_d.heap.size,1,none⟩=some (.slice A_d n_d c_d)∧w'.cell? ⟨w_d.heap.size,2,none⟩=some (.slice B_d m_d d_d)∧w'.cell? ⟨w_d.heap.size,3,none⟩=some (.bool t_d)∧w'.cell? ⟨w_d.heap.size,4,none⟩=some (.slice E_d i_d e_d)∧w'.cell? ⟨w_d.heap.size,5,none⟩=some (.slice F_d j_d f_d))
  (first | with_reducible exact ⟨XA.c0,XA.c1,XA.c2,XA.c3,XA.c4,XA.c5,XB.c0,XB.c1,XB.c2,XB.c3,XB.c4,XB.c5,XC.c0,XC.c1,XC.c2,XC.c3,XC.c4,XC.c5,XD.c0,XD.c1,XD.c2,XD.c3,XD.c4,XD.c5⟩ | with_reducible exact ⟨(set6_cell _ _ _ _ _ _ _ _ _ _ (by omega)).trans XA.c0,(set6_cell _ _ _ _ _ _ _ _ _ _ (by omega)).trans XA.c1,(set6_cell _ _ _ _ _ _ _ _ _ _ (by omega)).trans XA.c2,(set6_cell _ _ _ _ _ _ _ _ _ _ (by omega)).trans XA.c3,(set6_cell _ _ _ _ _ _ _ _ _ _ (by omega)).trans XA.c4,(set6_cell _ _ _ _ _ _ _ _ _ _ (by omega)).trans XA.c5,(set6_cell _ _ _ _ _ _ _ _ _ _ (by omega)).trans XB.c0,(set6_cell _ _ _ _ _ _ _ _ _ _ (by omega)).trans XB.c1,(set6_cell _ _ _ _ _ _ _ _ _ _ (by omega)).trans XB.c2,(set6_cell _ _ _ _ _ _ _ _ _ _ (by omega)).trans XB.c3,(set6_cell _ _ _ _ _ _ _ _ _ _ (by omega)).trans XB.c4,(set6_cell _ _ _ _ _ _ _ _ _ _ (by omega)).trans XB.c5,(set6_cell _ _ _ _ _ _ _ _ _ _ (by omega)).trans XC.c0,(set6_cell _ _ _ _ _ _ _ _ _ _ (by omega)).trans XC.c1,(set6_cell _ _ _ _ _ _ _ _ _ _ (by omega)).trans XC.c2,(set6_cell _ _ _ _ _ _ _ _ _ _ (by omega)).trans XC.c3,(set6_cell _ _ _ _ _ _ _ _ _ _ (by omega)).trans XC.c4,(set6_cell _ _ _ _ _ _ _ _ _ _ (by omega)).trans XC.c5,(set6_cell _ _ _ _ _ _ _ _ _ _ (by omega)).trans XD.c0,(set6_cell _ _ _ _ _ _ _ _ _ _ (by omega)).trans XD.c1,(set6_cell _ _ _ _ _ _ _ _ _ _ (by omega)).trans XD.c2,(set6_cell _ _ _ _ _ _ _ _ _ _ (by omega)).trans XD.c3,(set6_cell _ _ _ _ _ _ _ _ _ _ (by omega)).trans XD.c4,(set6_cell _ _ _ _ _ _ _ _ _ _ (by omega)).trans XD.c5⟩)
  (first
  | (go_at_call 91;(with_reducible refine (rsub6 p q (by omega) (by omega)).mono ?_);rintro e w_a ⟨s_a,A_a,n_a,c_a,B_a,m_a,d_a,t_a,E_a,i_a,e_a,F_a,j_a,f_a,rfl,a,hh⟩
     (try replace p:=p.below hh);(try replace q:=q.below hh);(try replace r:=r.below hh);(try replace d:=d.below hh);(try replace XA:=XA.below hh);(try replace XB:=XB.below hh);(try replace XC:=XC.below hh);(try replace XD:=XD.below hh);(try replace Z:=Z.below hh);replace hb:=bend hb hh)
  | (go_at_call 151;(with_reducible refine (rdot6 a d (by omega) (by omega)).mono ?_);rintro e w_f ⟨s_f,A_f,n_f,c_f,B_f,m_f,d_f,rfl,f,hh⟩
     (try replace p:=p.below hh);(try replace q:=q.below hh);(try replace r:=r.below hh);(try replace d:=d.below hh);(try replace XA:=XA.below hh);(try replace XB:=XB.below hh);(try replace XC:=XC.below hh);(try replace XD:=XD.below hh);(try replace Z:=Z.below hh);(try replace g:=g.below hh);replace hb:=bend hb hh;clear a)
  | (go_at_call 151;(with_reducible refine (rdot6 d d (by omega) (by omega)).mono ?_);rintro e w_g ⟨s_g,A_g,n_g,c_g,B_g,m_g,d_g,rfl,g,hh⟩
     (try replace p:=p.below hh);(try replace q:=q.below hh);(try replace r:=r.below hh);(try replace d:=d.below hh);(try replace XA:=XA.below hh);(try replace XB:=XB.below hh);(try replace XC:=XC.below hh);(try replace XD:=XD.below hh);(try replace Z:=Z.below hh);(try replace f:=f.below hh);replace hb:=bend hb hh)
  | (go_at_call 94;(with_reducible refine (rdiv3 f g (by omega) (by omega) HG.out).mono ?_);rintro e w_h ⟨s_h,A_h,n_h,c_h,B_h,m_h,d_h,rfl,h,hh⟩
     (try replace p:=p.below hh);(try replace q:=q.below hh);(try replace r:=r.below hh);(try replace d:=d.below hh);(try replace XA:=XA.below hh);(try replace XB:=XB.below hh);(try replace XC:=XC.below hh);(try replace XD:=XD.below hh);(try replace Z:=Z.below hh);replace hb:=bend hb hh;clear f g)
  | (go_at_call 95;(with_reducible refine (rmix6 q r h (by omega) (by omega) (by omega)).mono ?_);rintro e w_m ⟨s_m,A_m,n_m,c_m,B_m,m_m,d_m,t_m,E_m,i_m,e_m,F_m,j_m,f_m,rfl,m,hh⟩
     (try replace p:=p.below hh);(try replace q:=q.below hh);(try replace r:=r.below hh);(try replace d:=d.below hh);(try replace XA:=XA.below hh);(try replace XB:=XB.below hh);(try replace XC:=XC.below hh);(try replace XD:=XD.below hh);(try replace Z:=Z.below hh);replace hb:=bend hb hh;clear h;have zg0:=Z.f0;have zg1:=Z.f1;have zg2:=Z.f2;have zg3:=Z.f3;have zg4:=Z.f4;have zg5:=Z.f5;obtain ⟨zc0,zc1,zc2,zc3,zc4,zc5⟩:=Z.all))
 go_wp2_with fail
 have Z2:=Z.set6 (.bool s_m) (.slice A_m n_m c_m) (.slice B_m m_m d_m) (.bool t_m) (.slice E_m i_m e_m) (.slice F_m j_m f_m)
 obtain ⟨g0,g1,g2,g3,g4,g5⟩:=Z2.all
 refine bodyPost_ret (v:=.agg #[.bool s_m,.slice A_m n_m c_m,.slice B_m m_m d_m,.bool t_m,.slice E_m i_m e_m,.slice F_m j_m f_m]) (by simp [results,Tryz.results152,go_sem,g0,g1,g2,g3,g4,g5]) rfl ?_
 exact ⟨s_m,A_m,n_m,c_m,B_m,m_m,d_m,t_m,E_m,i_m,e_m,F_m,j_m,f_m,rfl,(m.more (by omega)).set6 Z _ _ _ _ _ _,below_set6 hb (by omega) _ _ _ _ _ _⟩
def nearQ (px py ax ay bx by_:Rat):Rat × Rat:=if ax=bx∧ay=by_ then (ax,ay) else if forthQ px py ax ay bx by_≤0 then (ax,ay) else if 0≤near2 px py ax ay bx by_ then (bx,by_) else (ax+(bx - ax)*(((px - ax)*(bx - ax)+(py - ay)*(by_ - ay)) / ((bx - ax)*(bx - ax)+(by_ - ay)*(by_ - ay))),ay+(by_ - ay)*(((px - ax)*(bx - ax)+(py - ay)*(by_ - ay)) / ((bx - ax)*(bx - ax)+(by_ - ay)*(by_ - ay))))
theorem rnear6 {kp k:Nat} {px py ax ay bx by_:Rat} (p:RP w s_p A_p n_p c_p B_p m_p d_p t_p E_p i_p e_p F_p j_p f_p px py kp) (q:RP w s_q A_q n_q c_q B_q m_q d_q t_q E_q i_q e_q F_q j_q f_q ax ay k) (r:RP w s_r A_r n_r c_r B_r m_r d_r t_r E_r i_r e_r F_r j_r f_r bx by_ k) (hkp:kp≤300) (hk:k≤12):Calls Tryz.prog 152 #[.agg #[.bool s_p,.slice A_p n_p c_p,.slice B_p m_p d_p,.bool t_p,.slice E_p i_p e_p,.slice F_p j_p f_p],.agg #[.bool s_q,.slice A_q n_q c_q,.slice B_q m_q d_q,.bool t_q,.slice E_q i_q e_q,.slice F_q j_q f_q],.agg #[.bool s_r,.slice A_r n_r c_r,.slice B_r m_r d_r,.bool t_r,.slice E_r i_r e_r,.slice F_r j_r f_r]] w (GivesRP w (nearQ px py ax ay bx by_).1 (nearQ px py ax ay bx by_).2 (2*kp+17*k+12)):=by
 unfold nearQ
 split
 · rename_i h;exact rnear_same p q r hkp hk h
 · rename_i h
   split
   · rename_i h1;exact rnear_lo p q r hkp hk h h1
   · rename_i h1
     split
     · rename_i h2;exact rnear_hi p q r hkp hk h h1 h2
     · rename_i h2;exact rnear_mid p q r hkp hk h h1 h2
theorem seg_nearQ (px py ax ay bx by_:Rat):segQ px py ax ay bx by_=(px - (nearQ px py ax ay bx by_).1)*(px - (nearQ px py ax ay bx by_).1)+(py - (nearQ px py ax ay bx by_).2)*(py - (nearQ px py ax ay bx by_).2):=by
 unfold nearQ
 by_cases h:ax=bx∧ay=by_
 · rw [if_pos h]
   unfold segQ
   rw [if_pos (show forthQ px py ax ay bx by_≤0 by unfold forthQ;rw [h.1,h.2];grind)]
 · rw [if_neg h]
   by_cases h1:forthQ px py ax ay bx by_≤0
   · rw [if_pos h1]
     unfold segQ
     rw [if_pos h1]
   · rw [if_neg h1]
     by_cases h2:0≤near2 px py ax ay bx by_
     · rw [if_pos h2]
       unfold segQ
       rw [if_neg h1,if_pos (show wholeQ ax ay bx by_≤forthQ px py ax ay bx by_ by rw [near2_eq] at h2;grind)]
       unfold farQ;grind
     · rw [if_neg h2]
       unfold segQ
       rw [if_neg h1,if_neg (fun e=>h2 (by rw [near2_eq];grind))]
       exact mid_eq (fun e=>h (whole_z ax ay bx by_ e)) rfl
theorem mkbx41_13 {w W:World} {x0 x1 x2 x3 x4 x5 x6 x7 x8 x9 x10 x11 x12 x13 x14 x15 x16 x17 x18 x19 x20:Value} (h:((((w.alloc (Obj.cells #[x0,x1,x2,x3,x4,x5] 60)).alloc (Obj.cells #[x6,x7,x8,x9,x10,x11] 60)).alloc (Obj.cells #[x12,x13,x14,x15,x16,x17] 60)).alloc (Obj.cells #[x18,x19,x20] 37))=W):Below w.heap.size w W∧B6R W (w.heap.size) x0 x1 x2 x3 x4 x5∧B6R W (w.heap.size+1) x6 x7 x8 x9 x10 x11∧B6R W (w.heap.size+1+1) x12 x13 x14 x15 x16 x17∧B3R W (w.heap.size+1+1+1) x18 x19 x20∧W.heap.size=w.heap.size+4:=by subst h;exact ⟨by exact (((((Below.refl _ _).alloc (Nat.le_refl _) _).alloc (by simp) _).alloc (by simp;omega) _).alloc (by simp;omega) _),by exact (((B6R.new' _ _ _ _ _ _ _ _ rfl).alloc _).alloc _).alloc _,by exact ((B6R.new' _ _ _ _ _ _ _ _ (by simp)).alloc _).alloc _,by exact (B6R.new' _ _ _ _ _ _ _ _ (by simp)).alloc _,by exact B3R.new' _ _ _ _ _ (by simp),by simp⟩
theorem rtoseg6 {kp k:Nat} {px py ax ay bx by_:Rat} (p:RP w s_p A_p n_p c_p B_p m_p d_p t_p E_p i_p e_p F_p j_p f_p px py kp) (q:RP w s_q A_q n_q c_q B_q m_q d_q t_q E_q i_q e_q F_q j_q f_q ax ay k) (r:RP w s_r A_r n_r c_r B_r m_r d_r t_r E_r i_r e_r F_r j_r f_r bx by_ k) (hkp:kp≤300) (hk:k≤12) :
 Calls Tryz.prog 100 #[.agg #[.bool s_p,.slice A_p n_p c_p,.slice B_p m_p d_p,.bool t_p,.slice E_p i_p e_p,.slice F_p j_p f_p],.agg #[.bool s_q,.slice A_q n_q c_q,.slice B_q m_q d_q,.bool t_q,.slice E_q i_q e_q,.slice F_q j_q f_q],.agg #[.bool s_r,.slice A_r n_r c_r,.slice B_r m_r d_r,.bool t_r,.slice E_r i_r e_r,.slice F_r j_r f_r]] w (GivesRQ w (segQ px py ax ay bx by_) (4*(kp+(2*kp+17*k+12)+1)+1)):=by
 rw [seg_nearQ]
 obtain ⟨nx,hx⟩:∃ nx,(nearQ px py ax ay bx by_).1=nx:=⟨_,rfl⟩
 obtain ⟨ny,hy⟩:∃ ny,(nearQ px py ax ay bx by_).2=ny:=⟨_,rfl⟩
 rw [hx,hy]
 have HN:=Lib.hid hx;have HM:=Lib.hid hy;clear hx hy
 go_enter Tryz.func100,Tryz.ntmps100
 go_upto_region 1 with (fail)
 generalize hW:World.alloc _ _=W
 obtain ⟨hb,XA,XB,XC,Z,hzW⟩:=mkbx41_13 hW;clear hW;replace p:=p.below hb;replace q:=q.below hb;replace r:=r.below hb
 replace p:=p.below (Below.refl _ _).drew
 replace q:=q.below (Below.refl _ _).drew
 replace r:=r.below (Below.refl _ _).drew
 replace XA:=XA.below (Below.refl _ _).drew
 replace XB:=XB.below (Below.refl _ _).drew
 replace XC:=XC.below (Below.refl _ _).drew
 replace Z:=Z.below (Below.refl _ _).drew
 replace hb:=hb.drew
 go_region_held3 (fun w'=>w'.cell? ⟨w.heap.size,0,none⟩=some (.bool s_p)∧w'.cell? ⟨w.heap.size,1,none⟩=some (.slice A_p n_p c_p)∧w'.cell? ⟨w.heap.size,2,none⟩=some (.slice B_p m_p d_p)∧w'.cell? ⟨w.heap.size,3,none⟩=some (.bool t_p)∧w'.cell? ⟨w.heap.size,4,none⟩=some (.slice E_p i_p e_p)∧w'.cell? ⟨w.heap.size,5,none⟩=some (.slice F_p j_p f_p)∧w'.cell? ⟨w.heap.size+1,0,none⟩=some (.bool s_q)∧w'.cell? ⟨w.heap.size+1,1,none⟩=some (.slice A_q n_q c_q)∧w'.cell? ⟨w.heap.size+1,2,none⟩=some (.slice B_q m_q d_q)∧w'.cell? ⟨w.heap.size+1,3,none⟩=some (.bool t_q)∧w'.cell? ⟨w.heap.size+1,4,none⟩=some (.slice E_q i_q e_q)∧w'.cell? ⟨w.heap.size+1,5,none⟩=some (.slice F_q j_q f_q)∧w'.cell? ⟨w.heap.size+1+1,0,none⟩=some (.bool s_r)∧w'.cell? ⟨w.heap.size+1+1,1,none⟩=some (.slice A_r n_r c_r)∧w'.cell? ⟨w.heap.size+1+1,2,none⟩=some (.slice B_r m_r d_r)∧w'.cell? ⟨w.heap.size+1+1,3,none⟩=some (.bool t_r)∧w'.cell? ⟨w.heap.size+1+1,4,none⟩=some (.slice E_r i_r e_r)∧w'.cell? ⟨w.heap.size+1+1,5,none⟩=some (.slice F_r j_r f_r))
  (first | with_reducible exact ⟨XA.c0,XA.c1,XA.c2,XA.c3,XA.c4,XA.c5,XB.c0,XB.c1,XB.c2,XB.c3,XB.c4,XB.c5,XC.c0,XC.c1,XC.c2,XC.c3,XC.c4,XC.c5⟩ | with_reducible exact ⟨(set3_cell _ _ _ _ _ _ _ (by omega)).trans XA.c0,(set3_cell _ _ _ _ _ _ _ (by omega)).trans XA.c1,(set3_cell _ _ _ _ _ _ _ (by omega)).trans XA.c2,(set3_cell _ _ _ _ _ _ _ (by omega)).trans XA.c3,(set3_cell _ _ _ _ _ _ _ (by omega)).trans XA.c4,(set3_cell _ _ _ _ _ _ _ (by omega)).trans XA.c5,(set3_cell _ _ _ _ _ _ _ (by omega)).trans XB.c0,(set3_cell _ _ _ _ _ _ _ (by omega)).trans XB.c1,(set3_cell _ _ _ _ _ _ _ (by omega)).trans XB.c2,(set3_cell _ _ _ _ _ _ _ (by omega)).trans XB.c3,(set3_cell _ _ _ _ _ _ _ (by omega)).trans XB.c4,(set3_cell _ _ _ _ _ _ _ (by omega)).trans XB.c5,(set3_cell _ _ _ _ _ _ _ (by omega)).trans XC.c0,(set3_cell _ _ _ _ _ _ _ (by omega)).trans XC.c1,(set3_cell _ _ _ _ _ _ _ (by omega)).trans XC.c2,(set3_cell _ _ _ _ _ _ _ (by omega)).trans XC.c3,(set3_cell _ _ _ _ _ _ _ (by omega)).trans XC.c4,(set3_cell _ _ _ _ _ _ _ (by omega)).trans XC.c5⟩)
  (first
  | (go_at_call 152;(with_reducible refine (rnear6 p q r hkp hk).mono ?_);rintro e w_n ⟨s_n,A_n,n_n,c_n,B_n,m_n,d_n,t_n,E_n,i_n,e_n,F_n,j_n,f_n,rfl,n,hh⟩
     (try replace p:=p.below hh);(try replace q:=q.below hh);(try replace r:=r.below hh);(try replace XA:=XA.below hh);(try replace XB:=XB.below hh);(try replace XC:=XC.below hh);(try replace Z:=Z.below hh);replace hb:=bend hb hh
     rw [HN.out,HM.out] at n)
  | (go_at_call 98;(with_reducible refine (rfar6 p n (by omega) (by omega)).mono ?_);rintro e w_v ⟨s_v,A_v,n_v,c_v,B_v,m_v,d_v,rfl,v,hh⟩
     (try replace XA:=XA.below hh);(try replace XB:=XB.below hh);(try replace XC:=XC.below hh);(try replace Z:=Z.below hh);replace hb:=bend hb hh
     replace v:=v.more (k1:=4*(kp+(2*kp+17*k+12)+1)+1) (by omega)
     have zf0:=Z.f0;have zf1:=Z.f1;have zf2:=Z.f2;obtain ⟨z0,z1,z2⟩:=Z.all))
 go_wp2_with fail
 have Z2:=Z.set3 (.bool s_v) (.slice A_v n_v c_v) (.slice B_v m_v d_v)
 obtain ⟨g0,g1,g2⟩:=Z2.all
 refine bodyPost_ret (v:=.agg #[.bool s_v,.slice A_v n_v c_v,.slice B_v m_v d_v]) (by simp [results,Tryz.results100,go_sem,g0,g1,g2]) rfl ?_
 exact ⟨s_v,A_v,n_v,c_v,B_v,m_v,d_v,rfl,v.set3 Z _ _ _,below_set3 hb (by omega) _ _ _⟩
end
end Go.Proofs.YtmgklaklnaihpaaGreat
