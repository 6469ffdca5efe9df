/- RatTexts: part 6. -/
import Derived.Carry
import Derived.Deep.RegionHeld3
import Derived.Handy
import Derived.MapKept
import Derived.Test.YtmgklaklnaihpaaGreatKRatTexts1
import Derived.Test.YtmgklaklnaihpaaGreatKRatTexts2
import Derived.Test.YtmgklaklnaihpaaGreatKRatTexts5
set_option linter.unusedVariables false
set_option maxRecDepth 100000
set_option maxHeartbeats 16000000
variable {w:Go.World}
namespace Go.Proofs.YtmgklaklnaihpaaGreat
section
open Go.RowKit
def Bx (W:World) (g:Nat) (x y:Value):Prop:=W.heap[g]?=some (.cells #[x,y] 24 (0,0))
section
variable {W W':World} {g:Nat} {x y:Value}
theorem Bx.c0 (h:Bx W g x y):W.cell? ⟨g,0,none⟩=some x:=by rw [cell_of_row W g 0 _ _ (0,0) h];rfl
theorem Bx.c1 (h:Bx W g x y):W.cell? ⟨g,1,none⟩=some y:=by rw [cell_of_row W g 1 _ _ (0,0) h];rfl
theorem Bx.all (h:Bx W g x y):W.cell? ⟨g,0,none⟩=some x∧W.cell? ⟨g,1,none⟩=some y:=⟨h.c0,h.c1⟩
theorem Bx.f0 (h:Bx W g x y):W.frozen? ⟨g,0,none⟩=false:=frozen_of_row W g 0 _ _ h
theorem Bx.f1 (h:Bx W g x y):W.frozen? ⟨g,1,none⟩=false:=frozen_of_row W g 1 _ _ h
theorem Bx.lt (h:Bx W g x y):g < W.heap.size:=World.block_lt_of_cell? W _ h.c0
theorem Bx.below (h:Bx W g x y) (hb:Below W.heap.size W W'):Bx W' g x y:=(hb.block g h.lt).trans h
theorem Bx.drew (h:Bx W g x y):Bx W.drew g x y:=h
theorem Bx.alloc (h:Bx W g x y) (o:Obj):Bx (W.alloc o) g x y:=(Below.heap_alloc W o g h.lt).trans h
theorem Bx.new (W:World) (x y:Value):Bx (W.alloc (.cells #[x,y] 24)) W.heap.size x y:=heap_alloc_new W _
theorem Bx.new' (W:World) (x y:Value) (g:Nat) (hg:g=W.heap.size):Bx (W.alloc (.cells #[x,y] 24)) g x y:=by subst hg;exact Bx.new W x y
theorem set2_cell (W:World) (g k o:Nat) (x y:Value) (h:k ≠ g):((W.setCell ⟨g,0,none⟩ x).setCell ⟨g,1,none⟩ y).cell? ⟨k,o,none⟩=W.cell? ⟨k,o,none⟩:=by
 rw [World.cell?_of_block (Below.heap_setCell _ _ _ _ h),World.cell?_of_block (Below.heap_setCell _ _ _ _ h)]
theorem Bx.set2 (h:Bx W g x y) (u v:Value):Bx ((W.setCell ⟨g,0,none⟩ u).setCell ⟨g,1,none⟩ v) g u v:=by
 unfold Bx at h ⊢
 simp [World.setCell,Array.getElem?_modify,h]
end
theorem number_any (neg:Bool) (A:Option Addr) (n c:Nat) (w:World) :
 Calls Tryz.prog 77 #[.bool neg,.slice A n c] w fun e w'=>e=.returned (.agg #[.bool (neg && decide (0 < n)),.slice A n c])∧Below w.heap.size w w':=by
 cases neg
 · go_enter Tryz.func77,Tryz.ntmps77
   go_wp2
   go_returns
   exact ⟨rfl,(Below.refl _ _).alloc (Nat.le_refl _) _⟩
 · go_enter Tryz.func77,Tryz.ntmps77
   go_wp2
   go_returns
   exact ⟨by simp,(Below.refl _ _).alloc (Nat.le_refl _) _⟩
def iv (s:Bool) (V:Nat):Int:=if s then -(V:Int) else V
theorem iv_natAbs (s:Bool) (V:Nat):(iv s V).natAbs=V:=by cases s <;> simp [iv]
theorem iv_neg (s:Bool) (V:Nat):decide (iv s V < 0)=(s && decide (0 < V)):=by
 cases s
 · simp [iv]
 · simp [iv]
def GivesI (w:World) (v:Int) (e:Ending) (w':World):Prop :=
 ∃ A n c,e=.returned (.agg #[.bool (decide (v < 0)),.slice A n c])∧n≤c∧c≤maxLen∧Fr .u64 93 w' w.heap.size A n c (limbs B64 v.natAbs)∧Below w.heap.size w w'
theorem limbs_len_pos {V n:Nat} (h:(limbs B64 V).length=n):decide (0 < n)=decide (0 < V):=by
 rcases Nat.eq_zero_or_pos V with h0 | h0
 · subst h0;rw [limbs_zero] at h;subst h;rfl
 · have h1 : 0 < n := by
     rw [limbs_pos B64_two (by omega)] at h;simp at h;omega
   simp [h0,h1]
theorem Fr.base {K:IntKind} {e:TypeId} {B n c:Nat} {A:Option Addr} {l:List Nat} (h:Fr K e w B A n c l):∀ ad,A=some ad→B≤ad.block:=by
 intro ad hA
 rcases h.2.2 with ⟨h2,_⟩ | ⟨g,cap,cur,hv,hg,r⟩
 · subst hA;cases h2
 · subst hA
   injection hv with ha
   injection ha with ha
   subst ha
   exact hg
theorem close_i {w W w1 w2:World} {s:Bool} {V g B1:Nat} {v:Int} {A1:Option Addr} {n1 k1:Nat} (hb0:Below w.heap.size w W) (hg0:w.heap.size≤g) (hg:g < B1) (hv:v=iv s V)
 (p1:n1≤k1) (p2:k1≤maxLen) (p3:Fr .u64 93 w1 B1 A1 n1 k1 (limbs B64 V)) (p4:Below W.heap.size W w1) (q4:Below w1.heap.size w1 w2) (u x:Value) :
 GivesI w v (.returned (.agg #[.bool (s && decide (0 < n1)),.slice A1 n1 k1])) ((w2.setCell ⟨g,0,none⟩ u).setCell ⟨g,1,none⟩ x):=by
 subst hv
 have h1:W.heap.size≤w1.heap.size:=p4.size
 have h2:w.heap.size≤W.heap.size:=hb0.size
 have hbl:Below w.heap.size w w2:=hb0.trans ((p4.mono h2).trans (q4.mono (by omega)))
 refine ⟨A1,n1,k1,?_,p1,p2,?_,(hbl.setCell hg0 _).setCell hg0 _⟩
 · rw [iv_neg,limbs_len_pos p3.1]
 · rw [iv_natAbs]
   refine Fr.only (g:=g) ((p3.more (by omega)).below q4 (Nat.le_refl _)) (((Only.refl g w2).setCell 0 u).setCell 1 x) ?_
   intro ad hA
   have:=p3.base ad hA
   omega
end
section
open Go.RowKit
theorem mkbx0_6 {w W:World} {x0 x1 x2 x3 x4 x5:Value} (h:(((w.alloc (Obj.cells #[x0,x1] 24)).alloc (Obj.cells #[x2,x3] 24)).alloc (Obj.cells #[x4,x5] 24))=W):Below w.heap.size w W∧W.heap.size=w.heap.size+3∧Bx W (w.heap.size) x0 x1∧Bx W (w.heap.size+1) x2 x3∧Bx W (w.heap.size+1+1) x4 x5:=by subst h;exact ⟨by exact (((Below.refl _ _).alloc (Nat.le_refl _) _).alloc (by simp) _).alloc (by simp;omega) _,by simp,by exact ((Bx.new w _ _).alloc _).alloc _,by exact (Bx.new' _ _ _ _ (by simp)).alloc _,by exact Bx.new' _ _ _ _ (by simp)⟩
theorem zadd_same (s:Bool) (la lb:List Nat) (A B:Option Addr) (n c m d:Nat) (w:World) (ha:Rd .u64 w A n la) (hb:Rd .u64 w B m lb) (La:Lim B64 la) (Lb:Lim B64 lb)
 (hnc:n≤c) (hmd:m≤d) (hnm0:n+m≤35184372088831) :
 Calls Tryz.prog 133 #[.agg #[.bool s,.slice A n c],.agg #[.bool s,.slice B m d]] w (GivesI w (iv s (val B64 la+val B64 lb))):=by
 go_enter Tryz.func133,Tryz.ntmps133
 go_wp2
 generalize hW:World.alloc _ _=W
 obtain ⟨hb0,hz,X,Y,Z⟩:=mkbx0_6 hW;clear hW;obtain ⟨c0,c1⟩:=X.all;obtain ⟨d0,d1⟩:=Y.all
 go_region_held3 (fun w'=>w'.cell? ⟨w.heap.size,0,none⟩=some (.bool s)∧w'.cell? ⟨w.heap.size,1,none⟩=some (.slice A n c)∧w'.cell? ⟨w.heap.size+1,0,none⟩=some (.bool s)∧w'.cell? ⟨w.heap.size+1,1,none⟩=some (.slice B m d))
  (first | exact ⟨X.c0,X.c1,Y.c0,Y.c1⟩ | exact ⟨X1.c0,X1.c1,Y1.c0,Y1.c1⟩ | exact ⟨X2.c0,X2.c1,Y2.c0,Y2.c1⟩ | exact ⟨(set2_cell _ _ _ _ _ _ (by omega)).trans X2.c0,(set2_cell _ _ _ _ _ _ (by omega)).trans X2.c1,(set2_cell _ _ _ _ _ _ (by omega)).trans Y2.c0,(set2_cell _ _ _ _ _ _ (by omega)).trans Y2.c1⟩)
  (first
   | (go_at_call 135;(with_reducible refine (add_any la lb _ _ _ _ _ _ _ (ha.below hb0).drew (hb.below hb0).drew La Lb hnm0 hnc hmd).mono ?_);rintro e w1 ⟨A1,n1,k1,rfl,p1,p2,p3,p4⟩
      replace p4:Below W.heap.size W w1:=(Below.refl _ W).drew.trans p4
      have z1:W.heap.size≤w1.heap.size:=p4.size
      have X1:=X.below p4;have Y1:=Y.below p4;have Z1:=Z.below p4)
   | (go_at_call 77;(with_reducible refine (number_any _ _ _ _ _).mono ?_);rintro e w2 ⟨rfl,q4⟩
      have z2:w1.heap.size≤w2.heap.size:=q4.size
      have X2:=X1.below q4;have Y2:=Y1.below q4;have Z2:=Z1.below q4;obtain ⟨r0,r1⟩:=Z2.all;have r2:=Z2.f0;have r3:=Z2.f1))
 go_wp2
 have hf0:=(Z2.set2 (.bool (s && decide (0 < n1))) (.slice A1 n1 k1)).c0
 have hf1:=(Z2.set2 (.bool (s && decide (0 < n1))) (.slice A1 n1 k1)).c1
 refine bodyPost_ret (v:=.agg #[.bool (s && decide (0 < n1)),.slice A1 n1 k1]) (by simp [results,Tryz.results133,go_sem,hf0,hf1]) rfl ?_
 exact close_i (g:=w.heap.size+1+1) hb0 (by omega) (by show _ < W.heap.size;omega) rfl p1 p2 p3 p4 q4 _ _
theorem zmul_any (s t:Bool) (la lb:List Nat) (A B:Option Addr) (n c m d:Nat) (w:World) (ha:Rd .u64 w A n la) (hb:Rd .u64 w B m lb) (La:Lim B64 la) (Lb:Lim B64 lb)
 (hnc:n≤c) (hmd:m≤d) (hnm0:n+m≤1000000) :
 Calls Tryz.prog 26 #[.agg #[.bool s,.slice A n c],.agg #[.bool t,.slice B m d]] w (GivesI w (iv (!(s == t)) (val B64 la*val B64 lb))):=by
 go_enter Tryz.func26,Tryz.ntmps26
 go_wp2
 generalize hW:World.alloc _ _=W
 obtain ⟨hb0,hz,X,Y,Z⟩:=mkbx0_6 hW;clear hW;obtain ⟨c0,c1⟩:=X.all;obtain ⟨d0,d1⟩:=Y.all
 go_region_held3 (fun w'=>w'.cell? ⟨w.heap.size,0,none⟩=some (.bool s)∧w'.cell? ⟨w.heap.size,1,none⟩=some (.slice A n c)∧w'.cell? ⟨w.heap.size+1,0,none⟩=some (.bool t)∧w'.cell? ⟨w.heap.size+1,1,none⟩=some (.slice B m d))
  (first | exact ⟨X.c0,X.c1,Y.c0,Y.c1⟩ | exact ⟨X1.c0,X1.c1,Y1.c0,Y1.c1⟩ | exact ⟨X2.c0,X2.c1,Y2.c0,Y2.c1⟩ | exact ⟨(set2_cell _ _ _ _ _ _ (by omega)).trans X2.c0,(set2_cell _ _ _ _ _ _ (by omega)).trans X2.c1,(set2_cell _ _ _ _ _ _ (by omega)).trans Y2.c0,(set2_cell _ _ _ _ _ _ (by omega)).trans Y2.c1⟩)
  (first
   | (go_at_call 78;(with_reducible refine (mul_any la lb _ _ _ _ _ _ _ (ha.below hb0).drew (hb.below hb0).drew La Lb hnm0 hnc hmd).mono ?_);rintro e w1 ⟨A1,n1,k1,rfl,p1,p2,p3,p4⟩
      replace p4:Below W.heap.size W w1:=(Below.refl _ W).drew.trans p4
      have z1:W.heap.size≤w1.heap.size:=p4.size
      have X1:=X.below p4;have Y1:=Y.below p4;have Z1:=Z.below p4)
   | (go_at_call 77;(with_reducible refine (number_any _ _ _ _ _).mono ?_);rintro e w2 ⟨rfl,q4⟩
      have z2:w1.heap.size≤w2.heap.size:=q4.size
      have X2:=X1.below q4;have Y2:=Y1.below q4;have Z2:=Z1.below q4;obtain ⟨r0,r1⟩:=Z2.all;have r2:=Z2.f0;have r3:=Z2.f1))
 go_wp2
 have hf0:=(Z2.set2 (.bool ((!(s == t)) && decide (0 < n1))) (.slice A1 n1 k1)).c0
 have hf1:=(Z2.set2 (.bool ((!(s == t)) && decide (0 < n1))) (.slice A1 n1 k1)).c1
 refine bodyPost_ret (v:=.agg #[.bool ((!(s == t)) && decide (0 < n1)),.slice A1 n1 k1]) (by simp [results,Tryz.results26,go_sem,hf0,hf1]) rfl ?_
 exact close_i (g:=w.heap.size+1+1) hb0 (by omega) (by show _ < W.heap.size;omega) rfl p1 p2 p3 p4 q4 _ _
theorem zadd_ge (s:Bool) (la lb:List Nat) (A B:Option Addr) (n c m d:Nat) (w:World) (ha:Rd .u64 w A n la) (hb:Rd .u64 w B m lb) (La:Lim B64 la) (Lb:Lim B64 lb)
 (hnc:n≤c) (hmd:m≤d) (hnm0:n+m≤35184372088831) (hle:val B64 lb≤val B64 la) :
 Calls Tryz.prog 133 #[.agg #[.bool s,.slice A n c],.agg #[.bool (!s),.slice B m d]] w (GivesI w (iv s (val B64 la - val B64 lb))):=by
 go_enter Tryz.func133,Tryz.ntmps133
 have hne:(s == !s)=false:=by cases s <;> rfl
 go_wp2_with fail
 generalize hW:World.alloc _ _=W
 obtain ⟨hb0,hz,X,Y,Z⟩:=mkbx0_6 hW;clear hW
 refine (sub_any la lb _ _ _ _ _ _ _ (ha.below hb0) (hb.below hb0) La Lb hnm0 hnc hmd hle).mono ?_
 rintro e w1 ⟨A1,n1,k1,rfl,p1,p2,p3,p4⟩
 have z1:W.heap.size≤w1.heap.size:=p4.size
 have X1:=X.below p4;have Z1:=Z.below p4;have c2:=X1.c0
 go_wp2_with (first
  | (go_at_call 77;(with_reducible refine (number_any _ _ _ _ _).mono ?_);rintro e w2 ⟨rfl,q4⟩
     have z2:w1.heap.size≤w2.heap.size:=q4.size
     have X2:=X1.below q4;have Z2:=Z1.below q4;obtain ⟨r0,r1⟩:=Z2.all;have r2:=Z2.f0;have r3:=Z2.f1))
 have hf0:=(Z2.set2 (.bool (s && decide (0 < n1))) (.slice A1 n1 k1)).c0
 have hf1:=(Z2.set2 (.bool (s && decide (0 < n1))) (.slice A1 n1 k1)).c1
 refine bodyPost_ret (v:=.agg #[.bool (s && decide (0 < n1)),.slice A1 n1 k1]) (by simp [results,Tryz.results133,go_sem,hf0,hf1]) rfl ?_
 exact close_i (g:=w.heap.size+1+1) hb0 (by omega) (by omega) rfl p1 p2 p3 p4 q4 _ _
theorem zadd_lt (s:Bool) (la lb:List Nat) (A B:Option Addr) (n c m d:Nat) (w:World) (ha:Rd .u64 w A n la) (hb:Rd .u64 w B m lb) (La:Lim B64 la) (Lb:Lim B64 lb)
 (hnc:n≤c) (hmd:m≤d) (hnm0:n+m≤35184372088831) (hlt:val B64 la < val B64 lb) :
 Calls Tryz.prog 133 #[.agg #[.bool s,.slice A n c],.agg #[.bool (!s),.slice B m d]] w (GivesI w (iv (!s) (val B64 lb - val B64 la))):=by
 go_enter Tryz.func133,Tryz.ntmps133
 have hne:(s == !s)=false:=by cases s <;> rfl
 go_wp2_with fail
 generalize hW:World.alloc _ _=W
 obtain ⟨hb0,hz,X,Y,Z⟩:=mkbx0_6 hW;clear hW
 refine (sub_below la lb _ _ _ _ _ _ _ (ha.below hb0) (hb.below hb0) La Lb hnm0 hnc hmd hlt).mono ?_
 rintro e w0 ⟨rfl,p0⟩
 have z0:W.heap.size≤w0.heap.size:=p0.size
 have X0:=X.below p0;have Y0:=Y.below p0;have Z0:=Z.below p0;have c2:=X0.c1;have d2:=Y0.c1
 go_wp2_with (first
  | (go_at_call 162;(with_reducible refine (sub_any lb la _ _ _ _ _ _ _ (hb.below (hb0.trans (p0.mono (by omega)))) (ha.below (hb0.trans (p0.mono (by omega)))) Lb La (by omega) hmd hnc (Nat.le_of_lt hlt)).mono ?_);rintro e w1 ⟨A1,n1,k1,rfl,p1,p2,p3,p4⟩
     have z1:w0.heap.size≤w1.heap.size:=p4.size
     have Y1:=Y0.below p4;have Z1:=Z0.below p4;have d3:=Y1.c0)
  | (go_at_call 77;(with_reducible refine (number_any _ _ _ _ _).mono ?_);rintro e w2 ⟨rfl,q4⟩
     have z2:w1.heap.size≤w2.heap.size:=q4.size
     have Y2:=Y1.below q4;have Z2:=Z1.below q4;obtain ⟨r0,r1⟩:=Z2.all;have r2:=Z2.f0;have r3:=Z2.f1))
 have hf0:=(Z2.set2 (.bool ((!s) && decide (0 < n1))) (.slice A1 n1 k1)).c0
 have hf1:=(Z2.set2 (.bool ((!s) && decide (0 < n1))) (.slice A1 n1 k1)).c1
 refine bodyPost_ret (v:=.agg #[.bool ((!s) && decide (0 < n1)),.slice A1 n1 k1]) (by simp [results,Tryz.results133,go_sem,hf0,hf1]) rfl ?_
 exact close_i (g:=w.heap.size+1+1) hb0 (by omega) (by omega) rfl p1 p2 p3 (p0.trans (p4.mono z0)) q4 _ _
theorem iv_add_ge {s:Bool} {a b:Nat} (h:b≤a):iv s (a - b)=iv s a+iv (!s) b:=by cases s <;> simp [iv] <;> omega
theorem iv_add_lt {s:Bool} {a b:Nat} (h:a < b):iv (!s) (b - a)=iv s a+iv (!s) b:=by cases s <;> simp [iv] <;> omega
theorem iv_add_same (s:Bool) (a b:Nat):iv s (a+b)=iv s a+iv s b:=by cases s <;> simp [iv];omega
theorem iv_mul (s t:Bool) (a b:Nat):iv (!(s == t)) (a*b)=iv s a*iv t b:=by cases s <;> cases t <;> simp [iv,Int.neg_mul,Int.mul_neg]
theorem zadd_any (s t:Bool) (la lb:List Nat) (A B:Option Addr) (n c m d:Nat) (w:World) (ha:Rd .u64 w A n la) (hb:Rd .u64 w B m lb) (La:Lim B64 la) (Lb:Lim B64 lb)
 (hnc:n≤c) (hmd:m≤d) (hnm0:n+m≤35184372088831) :
 Calls Tryz.prog 133 #[.agg #[.bool s,.slice A n c],.agg #[.bool t,.slice B m d]] w (GivesI w (iv s (val B64 la)+iv t (val B64 lb))):=by
 by_cases hst:s=t
 · subst hst
   rw [← iv_add_same]
   exact zadd_same s la lb A B n c m d w ha hb La Lb hnc hmd hnm0
 · have ht:t=!s:=by cases s <;> cases t <;> simp_all
   rcases Nat.lt_or_ge (val B64 la) (val B64 lb) with h | h
   · have:=zadd_lt s la lb A B n c m d w ha hb La Lb hnc hmd hnm0 h
     rw [iv_add_lt h] at this;rw [ht]
     exact this
   · have:=zadd_ge s la lb A B n c m d w ha hb La Lb hnc hmd hnm0 h
     rw [iv_add_ge h] at this;rw [ht]
     exact this
end
section
open Go.RowKit Go.MapKept
abbrev tSigns:TypeId:=193
abbrev tBool:TypeId:=4
theorem und_signs:Tryz.prog.underlying tSigns=some (.map tBool 135):=by kernel_rfl
theorem und_bool:Tryz.prog.underlying tBool=some .bool:=by kernel_rfl
def setMap (w:World) (r:Nat) (es:Array MapEntry) (clock:Nat):World:={w with heap:=w.heap.setIfInBounds r (.map es clock)}
theorem setMap_at {r:Nat} {es:Array MapEntry} {clock:Nat} (h:r < w.heap.size):(setMap w r es clock).heap[r]?=some (.map es clock):=by
 simp [setMap,h]
theorem below_setMap {B:Nat} {a w:World} (h:Below B a w) {r:Nat} (hr:B≤r) (es:Array MapEntry) (clock:Nat):Below B a (setMap w r es clock) :=
 ⟨h.os,h.tape,h.output,by simpa [setMap] using h.size,fun k hk=>by
  show (w.heap.setIfInBounds r _)[k]?=_
  rw [Array.getElem?_setIfInBounds_ne (by omega)];exact h.block k hk⟩
theorem run_upd {r:Nat} {es:Array MapEntry} {clock:Nat} (b:Bool) (v:Value) (hb:w.heap[r]?=some (.map es clock)) (h1:Instr.findNow .bool (.bool b) es.toList 0=some none) :
 (Instr.mapUpdate tSigns (.map (some r)) (.bool b) v).run Tryz.prog w=.ok () (setMap w r (es.push {key:=.bool b,val:=v,born:=clock}) (clock+1)):=by
 have hk:IsKey .bool (.bool b):=trivial
 simp [Instr.mapUpdate,run_underlying und_signs,Go.MapKept.run_getObj_map hb,run_checkKey und_bool hk,run_findKey und_bool h1,run_setObj_map _ hb,Result.andThen,setMap]
theorem run_look {r:Nat} {es:Array MapEntry} {clock:Nat} (b:Bool) (i:Nat) (v:Value) (hb:w.heap[r]?=some (.map es clock)) (h1:Instr.findNow .bool (.bool b) es.toList 0=some (some (i,v))) :
 (Instr.lookup tSigns (.map (some r)) (.bool b) false).run Tryz.prog w=.ok v w:=by
 have hk:IsKey .bool (.bool b):=trivial
 simp [Instr.lookup,run_underlying und_signs,Go.MapKept.run_getObj_map hb,run_checkKey und_bool hk,run_findKey und_bool h1,Result.andThen]
def signEs (x:Value):Array MapEntry:=#[{key:=.bool false,val:=.func (.func 188) #[x] #[],born:=0},{key:=.bool true,val:=.func (.func 189) #[x] #[],born:=1}]
theorem signs_any (A:Option Addr) (n c:Nat) (w:World) :
 Calls Tryz.prog 161 #[.slice A n c] w fun e w'=>e=.returned (.map (some w.heap.size))∧w'.heap[w.heap.size]?=some (.map (signEs (.slice A n c)) 2)∧Below w.heap.size w w':=by
 have hmm:=@run_makeMap Tryz.prog
 have h0:(w.alloc (.map #[] 0)).heap[w.heap.size]?=some (.map #[] 0):=heap_alloc_new w _
 have hi0:=run_upd false (.func (.func 188) #[.slice A n c] #[]) h0 rfl
 have h1:(setMap (w.alloc (.map #[] 0)) w.heap.size #[{key:=.bool false,val:=.func (.func 188) #[.slice A n c] #[],born:=0}] 1).heap[w.heap.size]?=_:=setMap_at (by simp)
 have hi1:=run_upd true (.func (.func 189) #[.slice A n c] #[]) h1 rfl
 go_enter Tryz.func161,Tryz.ntmps161
 go_wp2
 go_returns
 exact ⟨rfl,setMap_at (by simp [setMap]),below_setMap (below_setMap ((Below.refl _ _).alloc (Nat.le_refl _) _) (Nat.le_refl _) _ _) (Nat.le_refl _) _ _⟩
def sgn (v:Int):Int:=if v < 0 then -1 else if v=0 then 0 else 1
theorem cmpN_zero (V:Nat):cmpN V 0=sgn (iv false V):=by
 rcases Nat.eq_zero_or_pos V with h0 | h0
 · subst h0;rfl
 · have h1:¬ ((V:Int) < 0):=by omega
   have h2:¬ (V=0):=by omega
   simp [cmpN,sgn,iv,h1,h2]
theorem sgn_neg (V:Nat):wrap64 (-(sgn (iv false V)))=sgn (iv true V):=by
 rcases Nat.eq_zero_or_pos V with h0 | h0
 · subst h0;decide +kernel
 · have h1 : sgn (iv false V) = 1 := by
     have h1:¬ ((V:Int) < 0):=by omega
     have h2:¬ (V=0):=by omega
     simp [sgn,iv,h1,h2]
   have h2:sgn (iv true V)=-1:=by
    have h3:0 < V:=h0
    simp [sgn,iv,h3]
   rw [h1,h2];decide +kernel
theorem up_any (l:List Nat) (A:Option Addr) (n c:Nat) (w:World) (h:Rd .u64 w A n l) (hL:Lim B64 l) (hn:n≤maxLen) (hnc:n≤c) :
 Calls Tryz.prog 188 #[.slice A n c] w fun e w'=>e=.returned (.int .i64 (sgn (iv false (val B64 l))))∧∃ q,w'=w.drewN q:=by
 go_enter Tryz.func188,Tryz.ntmps188
 go_wp2_with (first
  | (go_at_call 160;(with_reducible refine (cmp_any l [] _ _ _ _ _ _ _ h Rd.nil hL Lim.nil hn (Nat.zero_le _) hnc (Nat.le_refl _)).mono ?_);rintro e w' ⟨rfl,q,rfl⟩))
 go_ret
 exact ⟨by rw [← cmpN_zero];rfl,q,rfl⟩
theorem down_any (l:List Nat) (A:Option Addr) (n c:Nat) (w:World) (h:Rd .u64 w A n l) (hL:Lim B64 l) (hn:n≤maxLen) (hnc:n≤c) :
 Calls Tryz.prog 189 #[.slice A n c] w fun e w'=>e=.returned (.int .i64 (sgn (iv true (val B64 l))))∧∃ q,w'=w.drewN q:=by
 go_enter Tryz.func189,Tryz.ntmps189
 go_wp2_with (first
  | (go_at_call 188;(with_reducible refine (up_any l _ _ _ _ h hL hn hnc).mono ?_);rintro e w' ⟨rfl,q,rfl⟩))
 go_ret
 exact ⟨ret_int (sgn_neg _),q,rfl⟩
theorem run_look_s {r:Nat} {x:Value} (s:Bool) (hm:w.heap[r]?=some (.map (signEs x) 2)) :
 (Instr.lookup tSigns (.map (some r)) (.bool s) false).run Tryz.prog w=.ok (.func (.func (if s then 189 else 188)) #[x] #[]) w:=by
 cases s
 · exact run_look _ 0 _ hm rfl
 · exact run_look _ 1 _ hm rfl
theorem mkbx1_6 {w W:World} {x0 x1:Value} (h:(w.alloc (Obj.cells #[x0,x1] 24))=W):Below w.heap.size w W∧Bx W (w.heap.size) x0 x1:=by subst h;exact ⟨by exact (Below.refl _ _).alloc (Nat.le_refl _) _,by exact Bx.new w _ _⟩
theorem sign_any (s:Bool) (l:List Nat) (A:Option Addr) (n c:Nat) (w:World) (h:Rd .u64 w A n l) (hL:Lim B64 l) (hn:n≤maxLen) (hnc:n≤c) :
 Calls Tryz.prog 109 #[.agg #[.bool s,.slice A n c]] w fun e w'=>e=.returned (.int .i64 (sgn (iv s (val B64 l))))∧Below w.heap.size w w':=by
 cases s
 · go_enter Tryz.func109,Tryz.ntmps109
   go_wp2_with fail
   generalize hW:World.alloc _ _=W
   obtain ⟨hb0,X⟩:=mkbx1_6 hW;clear hW;obtain ⟨c0,c1⟩:=X.all
   go_region_held3 (fun w'=>w'.cell? ⟨w.heap.size,0,none⟩=some (.bool false)∧w'.cell? ⟨w.heap.size,1,none⟩=some (.slice A n c))
    (first | exact ⟨c0,c1⟩ | exact ⟨X1.c0,X1.c1⟩ | exact ⟨X2.c0,X2.c1⟩)
    (first
     | (go_at_call 161;(with_reducible refine (signs_any _ _ _ _).mono ?_);rintro e w1 ⟨rfl,hm,p4⟩
        have p5:Below W.heap.size W w1:=(Below.refl _ W).drew.trans p4
        have X1:=X.below p5
        have hl:=run_look_s false (r:=W.heap.size) hm
        have hl2:=run_look_s (w:=w1.drew) false (r:=W.heap.size) hm)
     | (go_at_call 188;(with_reducible refine (up_any l _ _ _ _ ((h.below hb0).below p5) hL hn hnc).mono ?_);rintro e w2 ⟨rfl,q,rfl⟩)
     | (go_at_call 188;(with_reducible refine (up_any l _ _ _ _ (((h.below hb0).below p5).drew) hL hn hnc).mono ?_);rintro e w2 ⟨rfl,q,rfl⟩)
     | (go_at_call 189;(with_reducible refine (down_any l _ _ _ _ ((h.below hb0).below p5) hL hn hnc).mono ?_);rintro e w2 ⟨rfl,q,rfl⟩)
     | (go_at_call 189;(with_reducible refine (down_any l _ _ _ _ (((h.below hb0).below p5).drew) hL hn hnc).mono ?_);rintro e w2 ⟨rfl,q,rfl⟩))
   go_wp2
   go_ret
   exact ⟨rfl,below_drawn (hb0.trans (p5.mono hb0.size)) q⟩
 · go_enter Tryz.func109,Tryz.ntmps109
   go_wp2_with fail
   generalize hW:World.alloc _ _=W
   obtain ⟨hb0,X⟩:=mkbx1_6 hW;clear hW;obtain ⟨c0,c1⟩:=X.all
   go_region_held3 (fun w'=>w'.cell? ⟨w.heap.size,0,none⟩=some (.bool true)∧w'.cell? ⟨w.heap.size,1,none⟩=some (.slice A n c))
    (first | exact ⟨c0,c1⟩ | exact ⟨X1.c0,X1.c1⟩ | exact ⟨X2.c0,X2.c1⟩)
    (first
     | (go_at_call 161;(with_reducible refine (signs_any _ _ _ _).mono ?_);rintro e w1 ⟨rfl,hm,p4⟩
        have p5:Below W.heap.size W w1:=(Below.refl _ W).drew.trans p4
        have X1:=X.below p5
        have hl:=run_look_s true (r:=W.heap.size) hm
        have hl2:=run_look_s (w:=w1.drew) true (r:=W.heap.size) hm)
     | (go_at_call 188;(with_reducible refine (up_any l _ _ _ _ ((h.below hb0).below p5) hL hn hnc).mono ?_);rintro e w2 ⟨rfl,q,rfl⟩)
     | (go_at_call 188;(with_reducible refine (up_any l _ _ _ _ (((h.below hb0).below p5).drew) hL hn hnc).mono ?_);rintro e w2 ⟨rfl,q,rfl⟩)
     | (go_at_call 189;(with_reducible refine (down_any l _ _ _ _ ((h.below hb0).below p5) hL hn hnc).mono ?_);rintro e w2 ⟨rfl,q,rfl⟩)
     | (go_at_call 189;(with_reducible refine (down_any l _ _ _ _ (((h.below hb0).below p5).drew) hL hn hnc).mono ?_);rintro e w2 ⟨rfl,q,rfl⟩))
   go_wp2
   go_ret
   exact ⟨rfl,below_drawn (hb0.trans (p5.mono hb0.size)) q⟩
end
section
open Go.RowKit
theorem mkbx2_6 {w W:World} {x0 x1:Value} (h:(w.alloc (Obj.cells #[x0,x1] 24))=W):Below w.heap.size w W∧W.heap.size=w.heap.size+1∧Bx W (w.heap.size) x0 x1:=by subst h;exact ⟨by exact (Below.refl _ _).alloc (Nat.le_refl _) _,by simp,by exact Bx.new w _ _⟩
theorem zof_any (v:Int) (h1:-9223372036854775808≤v) (h2:v < 9223372036854775808) (w:World):Calls Tryz.prog 27 #[.int .i64 v] w (GivesI w v):=by
 by_cases hs:v < 0
 · obtain ⟨V,rfl⟩:∃ V:Nat,v=-(V:Int):=⟨v.natAbs,by omega⟩
   have hw:IntKind.u64.wrap (-IntKind.u64.wrap (-(V:Int)))=(V:Int):=by rw [IntKind.wrap_u64,IntKind.wrap_u64];omega
   go_enter Tryz.func27,Tryz.ntmps27
   go_wp2_with fail
   generalize hW:World.alloc _ _=W
   obtain ⟨hb0,hz,Z⟩:=mkbx2_6 hW;clear hW
   refine (of_any V (by unfold B64;omega) _).mono ?_
   rintro e w1 ⟨A1,n1,k1,rfl,p1,p2,p3,p4⟩
   have Z1:=Z.below p4
   go_wp2_with (first
    | (go_at_call 77;(with_reducible refine (number_any _ _ _ _ _).mono ?_);rintro e w2 ⟨rfl,q4⟩
       have Z2:=Z1.below q4;obtain ⟨r0,r1⟩:=Z2.all;have r2:=Z2.f0;have r3:=Z2.f1))
   have hf0:=(Z2.set2 (.bool (true && decide (0 < n1))) (.slice A1 n1 k1)).c0
   have hf1:=(Z2.set2 (.bool (true && decide (0 < n1))) (.slice A1 n1 k1)).c1
   simp only [Bool.true_and] at hf0 hf1
   refine bodyPost_ret (v:=.agg #[.bool (true && decide (0 < n1)),.slice A1 n1 k1]) (by simp [results,Tryz.results27,go_sem,hf0,hf1]) rfl ?_
   exact close_i (s:=true) (g:=w.heap.size) hb0 (Nat.le_refl _) (by omega) (by simp [iv]) p1 p2 p3 p4 q4 _ _
 · obtain ⟨V,rfl⟩:∃ V:Nat,v=(V:Int):=⟨v.natAbs,by omega⟩
   go_enter Tryz.func27,Tryz.ntmps27
   go_wp2_with fail
   generalize hW:World.alloc _ _=W
   obtain ⟨hb0,hz,Z⟩:=mkbx2_6 hW;clear hW
   refine (of_any V (by unfold B64;omega) _).mono ?_
   rintro e w1 ⟨A1,n1,k1,rfl,p1,p2,p3,p4⟩
   have Z1:=Z.below p4
   go_wp2_with (first
    | (go_at_call 77;(with_reducible refine (number_any _ _ _ _ _).mono ?_);rintro e w2 ⟨rfl,q4⟩
       have Z2:=Z1.below q4;obtain ⟨r0,r1⟩:=Z2.all;have r2:=Z2.f0;have r3:=Z2.f1))
   have hf0:=(Z2.set2 (.bool (false && decide (0 < n1))) (.slice A1 n1 k1)).c0
   have hf1:=(Z2.set2 (.bool (false && decide (0 < n1))) (.slice A1 n1 k1)).c1
   simp only [Bool.false_and] at hf0 hf1
   refine bodyPost_ret (v:=.agg #[.bool (false && decide (0 < n1)),.slice A1 n1 k1]) (by simp [results,Tryz.results27,go_sem,hf0,hf1]) rfl ?_
   exact close_i (s:=false) (g:=w.heap.size) hb0 (Nat.le_refl _) (by omega) (by simp [iv]) p1 p2 p3 p4 q4 _ _
end
section
open Go.RowKit
def ztxt (v:Int):List UInt8:=if v < 0 then 45 :: txt v.natAbs else txt v.natAbs
theorem ztext_any (s:Bool) (l:List Nat) (A:Option Addr) (n c:Nat) (w:World) (h:Rd .u64 w A n l) (hL:Lim B64 l) (hn:n≤78) (hnc:n≤c) :
 Calls Tryz.prog 48 #[.agg #[.bool s,.slice A n c]] w fun e w'=>e=.returned (.string ⟨(ztxt (iv s (val B64 l))).toArray⟩)∧Below w.heap.size w w':=by
 go_enter Tryz.func48,Tryz.ntmps48
 go_wp2_with fail
 generalize hW:World.alloc _ _=W
 obtain ⟨hb0,X⟩:=mkbx1_6 hW;clear hW
 refine (sign_any s l _ _ _ _ (h.below hb0) hL (by unfold maxLen;omega) hnc).mono ?_
 rintro e w1 ⟨rfl,p4⟩
 have X1:=X.below p4;obtain ⟨c0,c1⟩:=X1.all
 have hb1:Below w.heap.size w w1:=hb0.trans (p4.mono hb0.size)
 generalize hV:iv s (val B64 l)=v
 have hva:v.natAbs=val B64 l:=by rw [← hV,iv_natAbs]
 have hw1:Rd .u64 w1 A n l:=h.below hb1
 have hlen:¬ (9223372036854775807 < 1+(txt (val B64 l)).length):=by
  have h1:=val_lt hL;rw [h.1] at h1
  have:=txt_len h1 (show n≤900 by omega)
  omega
 by_cases hv:v < 0
 · have hs:sgn v=-1:=by simp [sgn,hv]
   have HV:=Lib.hid hv;clear hv;rw [hs]
   go_wp2_with (first
    | (go_at_call 64;(with_reducible refine (text_any l _ _ _ _ hw1 hL hn hnc).mono ?_);rintro e w2 ⟨rfl,q4⟩))
   go_ret
   refine ⟨?_,hb1.trans (q4.mono hb1.size)⟩
   refine ret_eq ?_
   show Value.string (⟨#[45]⟩ ++ ⟨(txt (val B64 l)).toArray⟩)=_
   rw [hV,ztxt,if_pos HV.out,hva]
   congr 1
 · have hs:decide (sgn v < 0)=false:=by unfold sgn;rw [if_neg hv];split <;> simp
   have HV:Hid (¬ v < 0):=hv
   clear hv
   go_wp2_with (first
    | (go_at_call 64;(with_reducible refine (text_any l _ _ _ _ hw1 hL hn hnc).mono ?_);rintro e w2 ⟨rfl,q4⟩))
   go_ret
   refine ⟨?_,hb1.trans (q4.mono hb1.size)⟩
   refine ret_eq ?_
   show Value.string ⟨(txt (val B64 l)).toArray⟩=_
   rw [hV,ztxt,if_neg (Int.not_lt.2 HV.out),hva]
def cmpZ (a b:Int):Int:=if a < b then -1 else if b < a then 1 else 0
theorem compareInt_cmpZ (a b:Int):Lib.compareInt a b=cmpZ a b:=by
 unfold Lib.compareInt cmpZ;rfl
theorem mkbx3_6 {w W:World} {x0 x1 x2 x3:Value} (h:((w.alloc (Obj.cells #[x0,x1] 24)).alloc (Obj.cells #[x2,x3] 24))=W):Below w.heap.size w W∧Bx W (w.heap.size) x0 x1∧Bx W (w.heap.size+1) x2 x3:=by subst h;exact ⟨by exact ((Below.refl _ _).alloc (Nat.le_refl _) _).alloc (by simp) _,by exact (Bx.new w _ _).alloc _,by exact Bx.new' _ _ _ _ (by simp)⟩
theorem zcmp_unlike (s:Bool) (la lb:List Nat) (A B:Option Addr) (n c m d:Nat) (w:World) (ha:Rd .u64 w A n la) (hb:Rd .u64 w B m lb) (La:Lim B64 la) (Lb:Lim B64 lb)
 (hnc:n≤c) (hmd:m≤d) (hn:n≤maxLen) (hm:m≤maxLen) :
 Calls Tryz.prog 106 #[.agg #[.bool s,.slice A n c],.agg #[.bool (!s),.slice B m d]] w fun e w'=>e=.returned (.int .i64 (cmpZ (sgn (iv s (val B64 la))) (sgn (iv (!s) (val B64 lb)))))∧Below w.heap.size w w':=by
 have hne:(s != !s)=true:=by cases s <;> rfl
 go_enter Tryz.func106,Tryz.ntmps106
 go_wp2_with fail
 generalize hW:World.alloc _ _=W
 obtain ⟨hb0,X,Y⟩:=mkbx3_6 hW;clear hW;obtain ⟨c0,c1⟩:=X.all;obtain ⟨d0,d1⟩:=Y.all
 have hx0:Below W.heap.size W W.drew:=(Below.refl _ _).drew
 go_region_held3 (fun w'=>w'.cell? ⟨w.heap.size,0,none⟩=some (.bool s)∧w'.cell? ⟨w.heap.size,1,none⟩=some (.slice A n c)∧w'.cell? ⟨w.heap.size+1,0,none⟩=some (.bool (!s))∧w'.cell? ⟨w.heap.size+1,1,none⟩=some (.slice B m d))
  (first | exact ⟨c0,c1,d0,d1⟩ | exact ⟨X2.c0,X2.c1,Y2.c0,Y2.c1⟩ | exact ⟨X1.c0,X1.c1,Y1.c0,Y1.c1⟩)
  (first
   | (go_at_call 109;(with_reducible refine (sign_any s la _ _ _ _ (ha.below hb0).drew La hn hnc).mono ?_);rintro e w1 ⟨rfl,p4⟩
      have p5:Below W.heap.size W w1:=(Below.refl _ W).drew.trans p4
      have X1:=X.below p5;have Y1:=Y.below p5)
   | (go_at_call 109;(with_reducible refine (sign_any (!s) lb _ _ _ _ ((hb.below hb0).below p5) Lb hm hmd).mono ?_);rintro e w2 ⟨rfl,q4⟩
      have X2:=X1.below q4;have Y2:=Y1.below q4)
   | (go_at_call 159;(with_reducible refine (Tryz.cmp_Compare_int _ _ _).mono ?_);rintro e w3 ⟨rfl,rfl⟩))
 go_wp2
 go_ret
 exact ⟨ret_int (compareInt_cmpZ _ _),hb0.trans ((p5.mono hb0.size).trans (q4.mono (Nat.le_trans hb0.size p5.size)))⟩
theorem cmpZ_sgn (s:Bool) (a b:Nat):cmpZ (sgn (iv s a)) (sgn (iv (!s) b))=cmpZ (iv s a) (iv (!s) b):=by
 cases s <;> simp only [cmpZ,sgn,iv,Bool.not_true,Bool.not_false,if_true,Bool.false_eq_true,if_false] <;> (repeat' split) <;> omega
theorem cmpN_cmpZ_f (a b:Nat):cmpN a b=cmpZ (iv false a) (iv false b):=by
 unfold cmpN cmpZ iv;simp
theorem cmpN_cmpZ_t (a b:Nat):cmpN b a=cmpZ (iv true a) (iv true b):=by
 unfold cmpN cmpZ iv;simp
theorem zcmp_alike (s:Bool) (la lb:List Nat) (A B:Option Addr) (n c m d:Nat) (w:World) (ha:Rd .u64 w A n la) (hb:Rd .u64 w B m lb) (La:Lim B64 la) (Lb:Lim B64 lb)
 (hnc:n≤c) (hmd:m≤d) (hn:n≤maxLen) (hm:m≤maxLen) :
 Calls Tryz.prog 106 #[.agg #[.bool s,.slice A n c],.agg #[.bool s,.slice B m d]] w fun e w'=>e=.returned (.int .i64 (cmpZ (iv s (val B64 la)) (iv s (val B64 lb))))∧Below w.heap.size w w':=by
 have hn1:=Lib.hid hn;have hm1:=Lib.hid hm;clear hn hm
 cases s
 · go_enter Tryz.func106,Tryz.ntmps106
   go_wp2_with fail
   have hb1:Below w.heap.size w _:=((Below.refl w.heap.size w).alloc (Nat.le_refl _) (Obj.cells #[Value.bool false,Value.slice A n c] 24)).alloc (by simp) (Obj.cells #[Value.bool false,Value.slice B m d] 24)
   refine (cmp_any la lb _ _ _ _ _ _ _ (ha.below hb1) (hb.below hb1) La Lb hn1.out hm1.out hnc hmd).mono ?_
   rintro e w' ⟨rfl,q,rfl⟩
   go_wp2
   go_ret
   exact ⟨ret_int (cmpN_cmpZ_f _ _),below_drawn hb1 q⟩
 · go_enter Tryz.func106,Tryz.ntmps106
   go_wp2_with fail
   have hb1:Below w.heap.size w _:=((Below.refl w.heap.size w).alloc (Nat.le_refl _) (Obj.cells #[Value.bool true,Value.slice B m d] 24)).alloc (by simp) (Obj.cells #[Value.bool true,Value.slice A n c] 24)
   refine (cmp_any lb la _ _ _ _ _ _ _ (hb.below hb1) (ha.below hb1) Lb La hm1.out hn1.out hmd hnc).mono ?_
   rintro e w' ⟨rfl,q,rfl⟩
   go_wp2
   go_ret
   exact ⟨ret_int (cmpN_cmpZ_t _ _),below_drawn hb1 q⟩
theorem zcmp_any (s t:Bool) (la lb:List Nat) (A B:Option Addr) (n c m d:Nat) (w:World) (ha:Rd .u64 w A n la) (hb:Rd .u64 w B m lb) (La:Lim B64 la) (Lb:Lim B64 lb)
 (hnc:n≤c) (hmd:m≤d) (hn:n≤maxLen) (hm:m≤maxLen) :
 Calls Tryz.prog 106 #[.agg #[.bool s,.slice A n c],.agg #[.bool t,.slice B m d]] w fun e w'=>e=.returned (.int .i64 (cmpZ (iv s (val B64 la)) (iv t (val B64 lb))))∧Below w.heap.size w w':=by
 by_cases hst:s=t
 · subst hst
   exact zcmp_alike s la lb A B n c m d w ha hb La Lb hnc hmd hn hm
 · have ht:t=!s:=by cases s <;> cases t <;> simp_all
   have:=zcmp_unlike s la lb A B n c m d w ha hb La Lb hnc hmd hn hm
   rw [cmpZ_sgn] at this;rw [ht]
   exact this
def goodZ (s:Bool) (l:List Nat):Bool:=goodB l && !(s && decide (l.length=0))
theorem zgood_any (s:Bool) (l:List Nat) (A:Option Addr) (n c:Nat) (w:World) (h:Rd .u64 w A n l) (hn:n≤maxLen) :
 Calls Tryz.prog 74 #[.agg #[.bool s,.slice A n c]] w fun e w'=>e=.returned (.bool (goodZ s l))∧Below w.heap.size w w':=by
 have hb1:Below w.heap.size w _:=(Below.refl w.heap.size w).alloc (Nat.le_refl _) (Obj.cells #[Value.bool s,Value.slice A n c] 24)
 have hn1:=Lib.hid hn
 have hl:decide (l.length=0)=((n:Int) == 0):=by rw [h.1];by_cases h0:n=0 <;> simp [h0]
 generalize hg:goodB l=G
 have HG:Hid (goodZ s l=(G && !(s && ((n:Int) == 0)))):=by show _=_;rw [goodZ,hg,hl]
 clear hl hn
 cases G <;> cases s
 all_goals
  go_enter Tryz.func74,Tryz.ntmps74
  go_wp2_with (first
   | (go_at_call 75;(refine (good_any l _ _ _ _ (h.below hb1) hn1.out).mono ?_);rintro e w' ⟨rfl,rfl⟩;rw [hg]))
  go_ret
  exact ⟨ret_bool (by rw [HG.out];simp),hb1⟩
end
section
open Go.RowKit
def GivesQZ (w:World) (q r:Int) (e:Ending) (w':World):Prop :=
 ∃ A n c A' n' c',e=.returned (.tuple #[.agg #[.bool (decide (q < 0)),.slice A n c],.agg #[.bool (decide (r < 0)),.slice A' n' c'],.int .i64 0])∧n≤c∧c≤maxLen∧n'≤c'∧c'≤maxLen ∧
  Fr .u64 93 w' w.heap.size A n c (limbs B64 q.natAbs)∧Fr .u64 93 w' w.heap.size A' n' c' (limbs B64 r.natAbs)∧Below w.heap.size w w'
theorem Bx.other {W:World} {g k:Nat} {x y:Value} (h:Bx W g x y) (hne:g ≠ k) (u v:Value):Bx ((W.setCell ⟨k,0,none⟩ u).setCell ⟨k,1,none⟩ v) g x y:=by
 unfold Bx at h ⊢
 rw [Below.heap_setCell _ _ _ _ hne,Below.heap_setCell _ _ _ _ hne]
 exact h
theorem close_qz {w w1 w2:World} {s t:Bool} {Q R g g' B1:Nat} {A1 A2:Option Addr} {n1 k1 n2 k2:Nat} (hb0:Below w.heap.size w w1) (hg0:w.heap.size≤g) (hg1:w.heap.size≤g') (hg:g < B1) (hg':g' < B1)
 (p1:n1≤k1) (p2:k1≤maxLen) (q1:n2≤k2) (q2:k2≤maxLen) (p3:Fr .u64 93 w1 B1 A1 n1 k1 (limbs B64 Q)) (q3:Fr .u64 93 w1 B1 A2 n2 k2 (limbs B64 R)) (hB:w.heap.size≤B1)
 (q4:Below w1.heap.size w1 w2) (u x u' x':Value) :
 GivesQZ w (iv s Q) (iv t R) (.returned (.tuple #[.agg #[.bool (s && decide (0 < n1)),.slice A1 n1 k1],.agg #[.bool (t && decide (0 < n2)),.slice A2 n2 k2],.int .i64 0]))
  ((((w2.setCell ⟨g,0,none⟩ u).setCell ⟨g,1,none⟩ x).setCell ⟨g',0,none⟩ u').setCell ⟨g',1,none⟩ x'):=by
 have hbl:Below w.heap.size w w2:=hb0.trans (q4.mono hb0.size)
 have move:∀ {A:Option Addr} {n k:Nat} {l:List Nat},Fr .u64 93 w1 B1 A n k l→Fr .u64 93 ((((w2.setCell ⟨g,0,none⟩ u).setCell ⟨g,1,none⟩ x).setCell ⟨g',0,none⟩ u').setCell ⟨g',1,none⟩ x') w.heap.size A n k l:=by
  intro A n k l h
  have h1:=(h.more hB).below q4 (Nat.le_refl _)
  have h2:=Fr.only (g:=g) h1 (((Only.refl g w2).setCell 0 u).setCell 1 x) (fun ad hA=>by have:=h.base ad hA;omega)
  exact Fr.only (g:=g') h2 (((Only.refl g' _).setCell 0 u').setCell 1 x') (fun ad hA=>by have:=h.base ad hA;omega)
 refine ⟨A1,n1,k1,A2,n2,k2,?_,p1,p2,q1,q2,?_,?_,(((hbl.setCell hg0 _).setCell hg0 _).setCell hg1 _).setCell hg1 _⟩
 · rw [iv_neg,iv_neg,limbs_len_pos p3.1,limbs_len_pos q3.1]
 · rw [iv_natAbs];exact move p3
 · rw [iv_natAbs];exact move q3
theorem zdm_alike (s:Bool) (la lb:List Nat) (A B:Option Addr) (n c m d:Nat) (w:World) (ha:Rd .u64 w A n la) (hb:Rd .u64 w B m lb)
 (hdm:∀ W:World,Rd .u64 W A n la→Rd .u64 W B m lb→Calls Tryz.prog 136 #[.slice A n c,.slice B m d] W (GivesQR W (limbs B64 (val B64 la / val B64 lb)) (limbs B64 (val B64 la % val B64 lb))))  :
 Calls Tryz.prog 110 #[.agg #[.bool s,.slice A n c],.agg #[.bool s,.slice B m d]] w (GivesQZ w (iv false (val B64 la / val B64 lb)) (iv s (val B64 la % val B64 lb))):=by
 have hne:(s != s)=false:=by cases s <;> rfl
 have hne2:(s == s)=true:=by cases s <;> rfl
 go_enter Tryz.func110,Tryz.ntmps110
 go_wp2_with fail
 generalize hW:(((w.alloc (Obj.cells #[Value.bool s,Value.slice A n c] 24)).alloc (Obj.cells #[Value.bool s,Value.slice B m d] 24)).alloc (Obj.cells #[Value.bool false,Value.slice none 0 0] 24)).alloc (Obj.cells #[Value.bool false,Value.slice none 0 0] 24)=W
 have hb0:Below w.heap.size w W:=by subst hW;exact ((((Below.refl _ _).alloc (Nat.le_refl _) _).alloc (by simp) _).alloc (by simp;omega) _).alloc (by simp;omega) _
 have hz:W.heap.size=w.heap.size+4:=by subst hW;simp
 have X:Bx W w.heap.size (.bool s) (.slice A n c):=by subst hW;exact (((Bx.new w _ _).alloc _).alloc _).alloc _
 have Y:Bx W (w.heap.size+1) (.bool s) (.slice B m d):=by subst hW;exact ((Bx.new' _ _ _ _ (by simp)).alloc _).alloc _
 have Z:Bx W (w.heap.size+1+1) (.bool false) (.slice none 0 0):=by subst hW;exact (Bx.new' _ _ _ _ (by simp)).alloc _
 have Z':Bx W (w.heap.size+1+1+1) (.bool false) (.slice none 0 0):=by subst hW;exact Bx.new' _ _ _ _ (by simp)
 clear hW
 refine (hdm W (ha.below hb0) (hb.below hb0)).mono ?_
 rintro e w1 ⟨A1,n1,k1,A2,n2,k2,rfl,p1,p2,p3,p4,p5,p6,p7⟩
 have X1:=X.below p7;have Y1:=Y.below p7;have Z1:=Z.below p7
 have V1:=Z'.below p7
 have z1:=p7.size;have c0:=X1.c0;obtain ⟨d0,d1⟩:=Y1.all;have HP5:=Lib.hid p5;have HP6:=Lib.hid p6
 have hb7:Below w.heap.size w w1:=hb0.trans (p7.mono hb0.size)
 clear p5 p6 p7
 go_wp2_with fail
 go_region_held3 (fun w'=>w'.cell? ⟨w.heap.size,0,none⟩=some (.bool s)∧w'.cell? ⟨w.heap.size+1,0,none⟩=some (.bool s))
  (first | with_reducible exact ⟨X1.c0,Y1.c0⟩ | with_reducible exact ⟨X1.drew.c0,Y1.drew.c0⟩ | with_reducible exact ⟨X8.c0,Y8.c0⟩ | with_reducible exact ⟨X7.c0,Y7.c0⟩ | with_reducible exact ⟨(set2_cell _ _ _ _ _ _ (by omega)).trans X8.c0,(set2_cell _ _ _ _ _ _ (by omega)).trans Y8.c0⟩ | with_reducible exact ⟨((set2_cell _ _ _ _ _ _ (by omega)).trans (set2_cell _ _ _ _ _ _ (by omega))).trans X8.c0,((set2_cell _ _ _ _ _ _ (by omega)).trans (set2_cell _ _ _ _ _ _ (by omega))).trans Y8.c0⟩)
  (first
   | (go_at_call 77;(with_reducible refine (number_any _ _ _ _ w1.drew).mono ?_);rintro e w7 ⟨rfl,q7⟩
      replace q7:Below w1.heap.size w1 w7:=(Below.refl _ w1).drew.trans q7
      have X7:=X1.below q7;have Y7:=Y1.below q7;have Z7:=Z1.below q7;have V7:=V1.below q7)
   | (go_at_call 77;(with_reducible refine (number_any _ _ _ _ _).mono ?_);rintro e w8 ⟨rfl,q8⟩
      have X8:=X7.below q8;have Y8:=Y7.below q8;have Z8:=Z7.below q8;have V8:=V7.below q8;obtain ⟨r0,r1⟩:=Z8.all;have r2:=Z8.f0;have r3:=Z8.f1;have r4:=V8.c0;have r5:=V8.c1;have r6:=V8.f0;have r7:=V8.f1))
 go_wp2
 have G1:=(Z8.set2 (.bool (false)) (.slice A1 n1 k1)).other (k:=w.heap.size+1+1+1) (by omega) (.bool (s && decide (0 < n2))) (.slice A2 n2 k2)
 have G2:=(V8.other (k:=w.heap.size+1+1) (by omega) (.bool (false)) (.slice A1 n1 k1)).set2 (.bool (s && decide (0 < n2))) (.slice A2 n2 k2)
 obtain ⟨g0,g1⟩:=G1.all;have g2:=G2.c0;have g3:=G2.c1
 refine bodyPost_ret (v:=.tuple #[.agg #[.bool (false),.slice A1 n1 k1],.agg #[.bool (s && decide (0 < n2)),.slice A2 n2 k2],.int .i64 0]) (by simp [results,Tryz.results110,go_sem,g0,g1,g2,g3]) rfl ?_
 exact close_qz (s:=false) (t:=s) hb7 (by omega) (by omega) (g:=w.heap.size+1+1) (g':=w.heap.size+1+1+1) (B1:=W.heap.size) (by omega) (by omega) p1 p2 p3 p4 HP5.out HP6.out (by omega) (q7.trans (q8.mono q7.size)) _ _ _ _
theorem zdm_whole (s:Bool) (la lb:List Nat) (A B:Option Addr) (n c m d:Nat) (w:World) (ha:Rd .u64 w A n la) (hb:Rd .u64 w B m lb)
 (hdm:∀ W:World,Rd .u64 W A n la→Rd .u64 W B m lb→Calls Tryz.prog 136 #[.slice A n c,.slice B m d] W (GivesQR W (limbs B64 (val B64 la / val B64 lb)) (limbs B64 (val B64 la % val B64 lb)))) (hr0:val B64 la % val B64 lb=0) :
 Calls Tryz.prog 110 #[.agg #[.bool s,.slice A n c],.agg #[.bool (!s),.slice B m d]] w (GivesQZ w (iv true (val B64 la / val B64 lb)) (iv (!s) (val B64 la % val B64 lb))):=by
 have hne:(s != (!s))=true:=by cases s <;> rfl
 have hne2:(s == (!s))=false:=by cases s <;> rfl
 go_enter Tryz.func110,Tryz.ntmps110
 go_wp2_with fail
 generalize hW:(((w.alloc (Obj.cells #[Value.bool s,Value.slice A n c] 24)).alloc (Obj.cells #[Value.bool (!s),Value.slice B m d] 24)).alloc (Obj.cells #[Value.bool false,Value.slice none 0 0] 24)).alloc (Obj.cells #[Value.bool false,Value.slice none 0 0] 24)=W
 have hb0:Below w.heap.size w W:=by subst hW;exact ((((Below.refl _ _).alloc (Nat.le_refl _) _).alloc (by simp) _).alloc (by simp;omega) _).alloc (by simp;omega) _
 have hz:W.heap.size=w.heap.size+4:=by subst hW;simp
 have X:Bx W w.heap.size (.bool s) (.slice A n c):=by subst hW;exact (((Bx.new w _ _).alloc _).alloc _).alloc _
 have Y:Bx W (w.heap.size+1) (.bool (!s)) (.slice B m d):=by subst hW;exact ((Bx.new' _ _ _ _ (by simp)).alloc _).alloc _
 have Z:Bx W (w.heap.size+1+1) (.bool false) (.slice none 0 0):=by subst hW;exact (Bx.new' _ _ _ _ (by simp)).alloc _
 have Z':Bx W (w.heap.size+1+1+1) (.bool false) (.slice none 0 0):=by subst hW;exact Bx.new' _ _ _ _ (by simp)
 clear hW
 refine (hdm W (ha.below hb0) (hb.below hb0)).mono ?_
 rintro e w1 ⟨A1,n1,k1,A2,n2,k2,rfl,p1,p2,p3,p4,p5,p6,p7⟩
 have X1:=X.below p7;have Y1:=Y.below p7;have Z1:=Z.below p7
 have V1:=Z'.below p7
 have z1:=p7.size;have c0:=X1.c0;obtain ⟨d0,d1⟩:=Y1.all
 have hn2:n2=0:=by rw [← p6.1,hr0,limbs_zero];rfl
 subst hn2
 have HP5:=Lib.hid p5;have HP6:=Lib.hid p6
 have hb7:Below w.heap.size w w1:=hb0.trans (p7.mono hb0.size)
 clear p5 p6 p7
 go_wp2_with fail
 go_region_held3 (fun w'=>w'.cell? ⟨w.heap.size,0,none⟩=some (.bool s)∧w'.cell? ⟨w.heap.size+1,0,none⟩=some (.bool (!s)))
  (first | with_reducible exact ⟨X1.c0,Y1.c0⟩ | with_reducible exact ⟨X1.drew.c0,Y1.drew.c0⟩ | with_reducible exact ⟨X8.c0,Y8.c0⟩ | with_reducible exact ⟨X7.c0,Y7.c0⟩ | with_reducible exact ⟨(set2_cell _ _ _ _ _ _ (by omega)).trans X8.c0,(set2_cell _ _ _ _ _ _ (by omega)).trans Y8.c0⟩ | with_reducible exact ⟨((set2_cell _ _ _ _ _ _ (by omega)).trans (set2_cell _ _ _ _ _ _ (by omega))).trans X8.c0,((set2_cell _ _ _ _ _ _ (by omega)).trans (set2_cell _ _ _ _ _ _ (by omega))).trans Y8.c0⟩)
  (first
   | (go_at_call 77;(with_reducible refine (number_any _ _ _ _ w1.drew).mono ?_);rintro e w7 ⟨rfl,q7⟩
      replace q7:Below w1.heap.size w1 w7:=(Below.refl _ w1).drew.trans q7
      have X7:=X1.below q7;have Y7:=Y1.below q7;have Z7:=Z1.below q7;have V7:=V1.below q7)
   | (go_at_call 77;(with_reducible refine (number_any _ _ _ _ _).mono ?_);rintro e w8 ⟨rfl,q8⟩
      have X8:=X7.below q8;have Y8:=Y7.below q8;have Z8:=Z7.below q8;have V8:=V7.below q8;obtain ⟨r0,r1⟩:=Z8.all;have r2:=Z8.f0;have r3:=Z8.f1;have r4:=V8.c0;have r5:=V8.c1;have r6:=V8.f0;have r7:=V8.f1))
 go_wp2
 have G1:=(Z8.set2 (.bool (decide (0 < n1))) (.slice A1 n1 k1)).other (k:=w.heap.size+1+1+1) (by omega) (.bool (false)) (.slice A2 0 k2)
 have G2:=(V8.other (k:=w.heap.size+1+1) (by omega) (.bool (decide (0 < n1))) (.slice A1 n1 k1)).set2 (.bool (false)) (.slice A2 0 k2)
 obtain ⟨g0,g1⟩:=G1.all;have g2:=G2.c0;have g3:=G2.c1
 refine bodyPost_ret (v:=.tuple #[.agg #[.bool (decide (0 < n1)),.slice A1 n1 k1],.agg #[.bool (false),.slice A2 0 k2],.int .i64 0]) (by simp [results,Tryz.results110,go_sem,g0,g1,g2,g3]) rfl ?_
 have:=close_qz (s:=true) (t:=(!s)) hb7 (by omega) (by omega) (g:=w.heap.size+1+1) (g':=w.heap.size+1+1+1) (B1:=W.heap.size) (by omega) (by omega) p1 p2 p3 p4 HP5.out HP6.out (by omega) (q7.trans (q8.mono q7.size)) (.bool (decide (0 < n1))) (.slice A1 n1 k1) (.bool false) (.slice A2 0 k2)
 simpa using this
theorem zdm_rest (s:Bool) (la lb:List Nat) (A B:Option Addr) (n c m d:Nat) (w:World) (ha:Rd .u64 w A n la) (hb:Rd .u64 w B m lb)
 (hdm:∀ W:World,Rd .u64 W A n la→Rd .u64 W B m lb→Calls Tryz.prog 136 #[.slice A n c,.slice B m d] W (GivesQR W (limbs B64 (val B64 la / val B64 lb)) (limbs B64 (val B64 la % val B64 lb)))) (La:Lim B64 la) (Lb:Lim B64 lb)
 (hmd:m≤d) (hm0:m≤17592186044415) (hn0:n≤35184372088830) (hb1:val B64 lb ≠ 0) (hr0:val B64 la % val B64 lb ≠ 0) :
 Calls Tryz.prog 110 #[.agg #[.bool s,.slice A n c],.agg #[.bool (!s),.slice B m d]] w (GivesQZ w (iv true (val B64 la / val B64 lb+1)) (iv (!s) (val B64 lb - val B64 la % val B64 lb))):=by
 have hne:(s != (!s))=true:=by cases s <;> rfl
 have hne2:(s == (!s))=false:=by cases s <;> rfl
 go_enter Tryz.func110,Tryz.ntmps110
 go_wp2_with fail
 generalize hW:(((w.alloc (Obj.cells #[Value.bool s,Value.slice A n c] 24)).alloc (Obj.cells #[Value.bool (!s),Value.slice B m d] 24)).alloc (Obj.cells #[Value.bool false,Value.slice none 0 0] 24)).alloc (Obj.cells #[Value.bool false,Value.slice none 0 0] 24)=W
 have hb0:Below w.heap.size w W:=by subst hW;exact ((((Below.refl _ _).alloc (Nat.le_refl _) _).alloc (by simp) _).alloc (by simp;omega) _).alloc (by simp;omega) _
 have hz:W.heap.size=w.heap.size+4:=by subst hW;simp
 have X:Bx W w.heap.size (.bool s) (.slice A n c):=by subst hW;exact (((Bx.new w _ _).alloc _).alloc _).alloc _
 have Y:Bx W (w.heap.size+1) (.bool (!s)) (.slice B m d):=by subst hW;exact ((Bx.new' _ _ _ _ (by simp)).alloc _).alloc _
 have Z:Bx W (w.heap.size+1+1) (.bool false) (.slice none 0 0):=by subst hW;exact (Bx.new' _ _ _ _ (by simp)).alloc _
 have Z':Bx W (w.heap.size+1+1+1) (.bool false) (.slice none 0 0):=by subst hW;exact Bx.new' _ _ _ _ (by simp)
 clear hW
 refine (hdm W (ha.below hb0) (hb.below hb0)).mono ?_
 rintro e w1 ⟨A1,n1,k1,A2,n2,k2,rfl,p1,p2,p3,p4,p5,p6,p7⟩
 have X1:=X.below p7;have Y1:=Y.below p7;have Z1:=Z.below p7
 have V1:=Z'.below p7
 have z1:=p7.size;have c0:=X1.c0;obtain ⟨d0,d1⟩:=Y1.all
 have hn2:0 < n2:=by
  rw [← p6.1,limbs_pos B64_two hr0];simp
 have hb7:Below w.heap.size w w1:=hb0.trans (p7.mono hb0.size)
 have p5':=p5
 have p6':=p6
 clear p5 p6 p7
 go_wp2_with fail
 have hq1:n1≤n:=by
  rw [← p5'.1]
  refine Nat.le_trans (length_limbs_le B64_two (k:=n) ?_) (Nat.le_refl _)
  refine Nat.lt_of_le_of_lt (Nat.div_le_self _ _) ?_
  have:=val_lt La
  rwa [ha.1] at this
 have hrb:val B64 la % val B64 lb < val B64 lb:=Nat.mod_lt _ (by omega)
 have hn2m:n2≤m:=by
  rw [← p6'.1]
  refine length_limbs_le B64_two ?_
  have:=val_lt Lb
  rw [hb.1] at this
  omega
 refine (of_any 1 (by unfold B64;omega) w1).mono ?_
 rintro e w2 ⟨A3,n3,k3,rfl,o1,o2,o3,o4⟩
 rw [limbs_small B64_two (v:=1) (by unfold B64;omega) (by omega)] at o3
 obtain rfl:n3=1:=o3.1.symm
 have X2:=X1.below o4;have Y2:=Y1.below o4;have Z2:=Z1.below o4;have V2:=V1.below o4
 have hb8:Below w.heap.size w w2:=hb7.trans (o4.mono hb7.size)
 have z2:=o4.size;have O3:=Lib.hid o3;clear o3
 go_wp2_with fail
 have hsum:n1+1≤35184372088831:=by omega
 have hv1:val B64 [1]=1:=rfl
 refine (add_any (limbs B64 (val B64 la / val B64 lb)) [1] _ _ _ _ _ _ _ (p5'.rd.below o4) O3.out.rd (lim_limbs B64_two _) (lim1 (by unfold B64;omega)) hsum p1 o1).mono ?_
 rw [val_limbs B64_two,hv1]
 rintro e w3 ⟨A4,n4,k4,rfl,s1,s2,s3,s4⟩
 have X3:=X2.below s4;have Y3:=Y2.below s4;have Z3:=Z2.below s4;have V3:=V2.below s4
 have hb9:Below w.heap.size w w3:=hb8.trans (s4.mono hb8.size)
 have z3:=s4.size;have S3:=Lib.hid s3;clear s3;have d3:=Y3.c1
 go_wp2_with fail
 refine (sub_any lb (limbs B64 (val B64 la % val B64 lb)) _ _ _ _ _ _ _ (hb.below hb9) ((p6'.rd.below o4).below s4) Lb (lim_limbs B64_two _) (by omega) hmd p3 (by rw [val_limbs B64_two];omega)).mono ?_
 rw [val_limbs B64_two]
 rintro e w4 ⟨A5,n5,k5,rfl,u1,u2,u3,u4⟩
 have X4:=X3.below u4;have Y4:=Y3.below u4;have Z4:=Z3.below u4;have V4:=V3.below u4
 have hb10:Below w.heap.size w w4:=hb9.trans (u4.mono hb9.size)
 have z4:=u4.size;have U3:=Lib.hid u3;clear u3
 go_wp2_with fail
 go_region_held3 (fun w'=>w'.cell? ⟨w.heap.size,0,none⟩=some (.bool s)∧w'.cell? ⟨w.heap.size+1,0,none⟩=some (.bool (!s)))
  (first | with_reducible exact ⟨X4.c0,Y4.c0⟩ | with_reducible exact ⟨X4.drew.c0,Y4.drew.c0⟩ | with_reducible exact ⟨X8.c0,Y8.c0⟩ | with_reducible exact ⟨X7.c0,Y7.c0⟩ | with_reducible exact ⟨(set2_cell _ _ _ _ _ _ (by omega)).trans X8.c0,(set2_cell _ _ _ _ _ _ (by omega)).trans Y8.c0⟩ | with_reducible exact ⟨((set2_cell _ _ _ _ _ _ (by omega)).trans (set2_cell _ _ _ _ _ _ (by omega))).trans X8.c0,((set2_cell _ _ _ _ _ _ (by omega)).trans (set2_cell _ _ _ _ _ _ (by omega))).trans Y8.c0⟩)
  (first
   | (go_at_call 77;(with_reducible refine (number_any _ _ _ _ w4.drew).mono ?_);rintro e w7 ⟨rfl,q7⟩
      replace q7:Below w4.heap.size w4 w7:=(Below.refl _ w4).drew.trans q7
      have X7:=X4.below q7;have Y7:=Y4.below q7;have Z7:=Z4.below q7;have V7:=V4.below q7)
   | (go_at_call 77;(with_reducible refine (number_any _ _ _ _ _).mono ?_);rintro e w8 ⟨rfl,q8⟩
      have X8:=X7.below q8;have Y8:=Y7.below q8;have Z8:=Z7.below q8;have V8:=V7.below q8;obtain ⟨r0,r1⟩:=Z8.all;have r2:=Z8.f0;have r3:=Z8.f1;have r4:=V8.c0;have r5:=V8.c1;have r6:=V8.f0;have r7:=V8.f1))
 go_wp2
 have G1:=(Z8.set2 (.bool (decide (0 < n4))) (.slice A4 n4 k4)).other (k:=w.heap.size+1+1+1) (by omega) (.bool (!s && decide (0 < n5))) (.slice A5 n5 k5)
 have G2:=(V8.other (k:=w.heap.size+1+1) (by omega) (.bool (decide (0 < n4))) (.slice A4 n4 k4)).set2 (.bool (!s && decide (0 < n5))) (.slice A5 n5 k5)
 obtain ⟨g0,g1⟩:=G1.all;have g2:=G2.c0;have g3:=G2.c1
 refine bodyPost_ret (v:=.tuple #[.agg #[.bool (decide (0 < n4)),.slice A4 n4 k4],.agg #[.bool (!s && decide (0 < n5)),.slice A5 n5 k5],.int .i64 0]) (by simp [results,Tryz.results110,go_sem,g0,g1,g2,g3]) rfl ?_
 have:=close_qz (s:=true) (t:=(!s)) hb10 (by omega) (by omega) (g:=w.heap.size+1+1) (g':=w.heap.size+1+1+1) (B1:=W.heap.size) (by omega) (by omega) s1 s2 u1 u2 ((S3.out.more (by omega)).below u4 (Nat.le_refl _)) (U3.out.more (by omega)) (by omega) (q7.trans (q8.mono q7.size)) (.bool (decide (0 < n4))) (.slice A4 n4 k4) (.bool (!s && decide (0 < n5))) (.slice A5 n5 k5)
 simpa using this
end
section
open Go.RowKit
def ZR (w:World) (s:Bool) (A:Option Addr) (n c:Nat) (v:Int) (k:Nat):Prop :=
 ∃ l,Rd .u64 w A n l∧Lim B64 l∧iv s (val B64 l)=v∧n≤c∧n≤k∧v.natAbs < B64 ^ k
section
variable {w w':World} {s:Bool} {A:Option Addr} {n c k:Nat} {v:Int}
theorem ZR.below (h:ZR w s A n c v k) (hb:Below w.heap.size w w'):ZR w' s A n c v k:=by
 obtain ⟨l,h1,h2⟩:=h;exact ⟨l,h1.below hb,h2⟩
theorem ZR.drew (h:ZR w s A n c v k):ZR w.drew s A n c v k:=by
 obtain ⟨l,h1,h2⟩:=h;exact ⟨l,h1.drew,h2⟩
theorem ZR.drewN (h:ZR w s A n c v k) (q:Nat):ZR (w.drewN q) s A n c v k:=by
 obtain ⟨l,h1,h2⟩:=h;exact ⟨l,h1.drewN q,h2⟩
theorem ZR.of_rd {l:List Nat} (h:Rd .u64 w A n l) (hL:Lim B64 l) (hnc:n≤c) (hk:n≤k):ZR w s A n c (iv s (val B64 l)) k :=
 ⟨l,h,hL,rfl,hnc,hk,by rw [iv_natAbs];have:=val_lt hL;rw [h.1] at this;exact Nat.lt_of_lt_of_le this (Nat.pow_le_pow_right (by decide) hk)⟩
theorem ZR.of_fr {Bb:Nat} (h:Fr .u64 93 w Bb A n c (limbs B64 v.natAbs)) (hnc:n≤c) (hk:v.natAbs < B64 ^ k):ZR w (decide (v < 0)) A n c v k:=by
 refine ⟨_,h.rd,lim_limbs B64_two _,?_,hnc,?_,hk⟩
 · rw [val_limbs B64_two]
   unfold iv
   by_cases hv:v < 0
   · simp [hv];omega
   · simp [hv];omega
 · rw [← h.1];exact length_limbs_le B64_two hk
end
def GivesZ (w:World) (v:Int) (k:Nat) (e:Ending) (w':World):Prop :=
 ∃ s A n c,e=.returned (.agg #[.bool s,.slice A n c])∧ZR w' s A n c v k∧Below w.heap.size w w'
theorem GivesI.z {v:Int} {k:Nat} (hk:v.natAbs < B64 ^ k) {e:Ending} {w':World} (h:GivesI w v e w'):GivesZ w v k e w':=by
 obtain ⟨A,n,c,rfl,h1,h2,h3,h4⟩:=h
 exact ⟨_,A,n,c,rfl,ZR.of_fr h3 h1 hk,h4⟩
theorem pow_sum {k1 k2 k a b:Nat} (ha:a < B64 ^ k1) (hb:b < B64 ^ k2) (h1:k1+1≤k) (h2:k2+1≤k):a+b < B64 ^ k:=by
 have e1:=Nat.pow_le_pow_right (n:=B64) (by decide) (show k1≤k - 1 by omega)
 have e2:=Nat.pow_le_pow_right (n:=B64) (by decide) (show k2≤k - 1 by omega)
 have e3:B64 ^ k=B64 ^ (k - 1)*B64:=by rw [← Nat.pow_succ];congr 1;omega
 have e4:=Nat.mul_le_mul_left (B64 ^ (k - 1)) B64_two
 omega
section
variable {w:World} {s t:Bool} {A B:Option Addr} {n c m d k1 k2:Nat} {v u:Int}
theorem zadd_zr (k:Nat) (X:ZR w s A n c v k1) (Y:ZR w t B m d u k2) (h1:k1+1≤k) (h2:k2+1≤k) (hk:k≤1000) :
 Calls Tryz.prog 133 #[.agg #[.bool s,.slice A n c],.agg #[.bool t,.slice B m d]] w (GivesZ w (v+u) k):=by
 obtain ⟨la,a1,a2,rfl,a4,a5,a6⟩:=X
 obtain ⟨lb,b1,b2,rfl,b4,b5,b6⟩:=Y
 refine (zadd_any s t la lb A B n c m d w a1 b1 a2 b2 a4 b4 (by omega)).mono fun e w' h=>h.z ?_
 have:=pow_sum a6 b6 h1 h2
 omega
theorem zmul_zr (k:Nat) (X:ZR w s A n c v k1) (Y:ZR w t B m d u k2) (h1:k1+k2≤k) (hk:k≤1000) (_h40:k1≤2000 ∨ k2≤2000) :
 Calls Tryz.prog 26 #[.agg #[.bool s,.slice A n c],.agg #[.bool t,.slice B m d]] w (GivesZ w (v*u) k):=by
 obtain ⟨la,a1,a2,rfl,a4,a5,a6⟩:=X
 obtain ⟨lb,b1,b2,rfl,b4,b5,b6⟩:=Y
 have:=zmul_any s t la lb A B n c m d w a1 b1 a2 b2 a4 b4 (by omega)
 rw [iv_mul] at this
 refine this.mono fun e w' h=>h.z ?_
 rw [Int.natAbs_mul]
 exact Nat.lt_of_lt_of_le (Nat.mul_lt_mul'' a6 b6) (by rw [← Nat.pow_add];exact Nat.pow_le_pow_right (by decide) h1)
theorem zcmp_zr (X:ZR w s A n c v k1) (Y:ZR w t B m d u k2) (hk:k1+k2≤2000) :
 Calls Tryz.prog 106 #[.agg #[.bool s,.slice A n c],.agg #[.bool t,.slice B m d]] w fun e w'=>e=.returned (.int .i64 (cmpZ v u))∧Below w.heap.size w w':=by
 obtain ⟨la,a1,a2,rfl,a4,a5,a6⟩:=X
 obtain ⟨lb,b1,b2,rfl,b4,b5,b6⟩:=Y
 exact zcmp_any s t la lb A B n c m d w a1 b1 a2 b2 a4 b4 (by unfold maxLen;omega) (by unfold maxLen;omega)
theorem cmpZ_self (v:Int):cmpZ v v=0:=by simp [cmpZ]
theorem ztext_zr (X:ZR w s A n c v k1) (hk:k1≤78) :
 Calls Tryz.prog 48 #[.agg #[.bool s,.slice A n c]] w fun e w'=>e=.returned (.string ⟨(ztxt v).toArray⟩)∧Below w.heap.size w w':=by
 obtain ⟨la,a1,a2,rfl,a4,a5,a6⟩:=X
 exact ztext_any s la A n c w a1 a2 (by omega) a4
theorem zof_zr (v:Int) (h1:-9223372036854775808≤v) (h2:v < 9223372036854775808) (w:World):Calls Tryz.prog 27 #[.int .i64 v] w (GivesZ w v 1) :=
 (zof_any v h1 h2 w).mono fun e w' h=>h.z (by rw [Nat.pow_one];unfold B64;omega)
end
theorem fdiv_alike (s:Bool) (a b:Nat):iv false (a / b)=(iv s a).fdiv (iv s b)∧iv s (a % b)=(iv s a).fmod (iv s b):=by
 cases s
 · simp only [iv,Bool.false_eq_true,if_false]
   exact ⟨by rw [Int.fdiv_eq_ediv_of_nonneg _ (by omega)];rfl,by rw [Int.fmod_eq_emod_of_nonneg _ (by omega)];rfl⟩
 · simp only [iv,if_true,Bool.false_eq_true,if_false]
   exact ⟨by rw [Int.neg_fdiv_neg,Int.fdiv_eq_ediv_of_nonneg _ (by omega)];rfl,by rw [Int.neg_fmod_neg,Int.fmod_eq_emod_of_nonneg _ (by omega)];rfl⟩
theorem fdiv_unlike_pos {a b q r:Nat} (h:(r:Int)+b*(-(q:Int))=-(a:Int)) (hr:r < b):-(q:Int)=(-(a:Int)).fdiv b∧(r:Int)=(-(a:Int)).fmod b:=by
 have:=(Int.ediv_emod_unique (a:=-(a:Int)) (b:=b) (r:=r) (q:=-(q:Int)) (by omega)).2 ⟨h,by omega,by omega⟩
 rw [Int.fdiv_eq_ediv_of_nonneg _ (by omega),Int.fmod_eq_emod_of_nonneg _ (by omega)]
 exact ⟨this.1.symm,this.2.symm⟩
theorem fdiv_unlike {s:Bool} {a b q r:Nat} (h:(r:Int)+b*(-(q:Int))=-(a:Int)) (hr:r < b):iv true q=(iv s a).fdiv (iv (!s) b)∧iv (!s) r=(iv s a).fmod (iv (!s) b):=by
 have:=fdiv_unlike_pos h hr
 cases s
 · simp only [iv,Bool.not_false,if_true,Bool.false_eq_true,if_false]
   have e1:=Int.neg_fdiv_neg (-(a:Int)) b
   have e2:=Int.neg_fmod_neg (-(a:Int)) b
   rw [Int.neg_neg] at e1 e2
   rw [e1,e2,← this.1,← this.2]
   exact ⟨rfl,rfl⟩
 · simp only [iv,Bool.not_true,if_true,Bool.false_eq_true,if_false]
   exact this
def GivesZQ (w:World) (q r:Int) (k1 k2:Nat) (e:Ending) (w':World):Prop :=
 ∃ s A n c t B m d,e=.returned (.tuple #[.agg #[.bool s,.slice A n c],.agg #[.bool t,.slice B m d],.int .i64 0])∧ZR w' s A n c q k1∧ZR w' t B m d r k2∧Below w.heap.size w w'∧s=decide (q < 0)∧Rd .u64 w' A n (limbs B64 q.natAbs)∧n≤maxLen
theorem GivesQZ.z {q r:Int} {k1 k2:Nat} (h1:q.natAbs < B64 ^ k1) (h2:r.natAbs < B64 ^ k2) {e:Ending} {w':World} (h:GivesQZ w q r e w'):GivesZQ w q r k1 k2 e w':=by
 obtain ⟨A,n,c,A',n',c',rfl,p1,p2,p3,p4,p5,p6,p7⟩:=h
 exact ⟨_,A,n,c,_,A',n',c',rfl,ZR.of_fr p5 p1 h1,ZR.of_fr p6 p3 h2,p7,rfl,p5.rd,Nat.le_trans p1 p2⟩
theorem dm_all (la lb:List Nat) (A B:Option Addr) (n c m d:Nat) (La:Lim B64 la) (Lb:Lim B64 lb) (hn0:n≤35184372088830) (hm0:m≤35184372088830)
 (hnc:n≤c) (hmd:m≤d) (hb0:val B64 lb ≠ 0) :
 ∀ W:World,Rd .u64 W A n la→Rd .u64 W B m lb→Calls Tryz.prog 136 #[.slice A n c,.slice B m d] W (GivesQR W (limbs B64 (val B64 la / val B64 lb)) (limbs B64 (val B64 la % val B64 lb))) :=
 fun W ha hb=>divmod_any la lb A B n c m d W ha hb La Lb hn0 hm0 hnc hmd hb0
theorem rest_up {a b Q R:Nat} (h:b*Q+R=a) (hR:R≤b):((b - R:Nat):Int)+b*(-((Q+1:Nat):Int))=-(a:Int):=by
 subst h
 have e1:((b - R:Nat):Int)=(b:Int) - R:=by omega
 have e2:(b:Int)*(-((Q+1:Nat):Int))=-((b*Q:Nat):Int) - b:=by
  rw [Int.natCast_add,Int.mul_neg,Int.mul_add,Int.natCast_mul,Int.neg_add]
  simp
  rfl
 rw [e1,e2]
 omega
end
section
def den1 (q:Nat):Nat:=if q=0 then 1 else q
theorem den1_ne (q:Nat):den1 q ≠ 0:=by unfold den1;split <;> omega
theorem den1_of {q:Nat} (h:q ≠ 0):den1 q=q:=by unfold den1;rw [if_neg h]
theorem mk_num_den {p:Int} {q:Nat} (hq:q ≠ 0):∃ g:Nat,g ≠ 0∧p=(mkRat p q).num*g∧q=(mkRat p q).den*g :=
 Rat.mkRat_num_den hq rfl
theorem mk_floor {p:Int} {q:Nat} (hq:q ≠ 0):(mkRat p q).floor=p.fdiv (q:Int):=by
 obtain ⟨g,g0,h1,h2⟩:=mk_num_den (p:=p) hq
 rw [Rat.floor_def,Int.fdiv_eq_ediv_of_nonneg _ (Int.natCast_nonneg q)]
 have e:p / (q:Int)=((mkRat p q).num*(g:Int)) / (((mkRat p q).den:Int)*(g:Int)):=by
  conv=>lhs;rw [h1]
  congr 1
  conv=>lhs;rw [h2]
  simp
 rw [e,Int.mul_ediv_mul_of_pos_left _ _ (by omega)]
theorem mk_add {p r:Int} {q s:Nat} (hq:q ≠ 0) (hs:s ≠ 0):mkRat p q+mkRat r s=mkRat (p*(s:Int)+r*(q:Int)) (q*s):=Rat.mkRat_add_mkRat p r hq hs
theorem mk_add_same {p r:Int} {q:Nat} (hq:q ≠ 0):mkRat p q+mkRat r q=mkRat (p+r) q:=by
 rw [Rat.mkRat_add_mkRat p r hq hq,← Int.add_mul,Rat.mkRat_mul_right hq]
theorem mk_neg (p:Int) (q:Nat):-mkRat p q=mkRat (-p) q:=Rat.neg_mkRat p q
theorem mk_sub {p r:Int} {q s:Nat} (hq:q ≠ 0) (hs:s ≠ 0):mkRat p q - mkRat r s=mkRat (p*(s:Int) - r*(q:Int)) (q*s):=by
 rw [Rat.sub_eq_add_neg,mk_neg,mk_add hq hs,Int.neg_mul,← Int.sub_eq_add_neg]
theorem mk_div (p r:Int) (q s:Nat):mkRat p q / mkRat r s=Rat.divInt (p*(s:Int)) ((q:Int)*r):=by
 rw [Rat.div_def,← Rat.divInt_ofNat,← Rat.divInt_ofNat,Rat.inv_divInt,Rat.divInt_mul_divInt]
theorem mk_nonneg {p:Int} {q:Nat} (hq:q ≠ 0):0≤mkRat p q ↔ 0≤p:=by
 rw [← Rat.divInt_ofNat];exact Rat.divInt_nonneg_iff_of_pos_right (by omega)
theorem mk_le {p r:Int} {q s:Nat} (hq:q ≠ 0) (hs:s ≠ 0):mkRat p q≤mkRat r s ↔ p*(s:Int)≤r*(q:Int):=by
 rw [Rat.le_iff_sub_nonneg,mk_sub hs hq,mk_nonneg (Nat.mul_ne_zero hs hq)]
 omega
theorem mk_lt {p r:Int} {q s:Nat} (hq:q ≠ 0) (hs:s ≠ 0):mkRat p q < mkRat r s ↔ p*(s:Int) < r*(q:Int):=by
 rw [← Rat.not_le,mk_le hs hq];omega
theorem mk_negv {p:Int} {q:Nat} (hq:q ≠ 0):mkRat p q < 0 ↔ p < 0:=by
 rw [← Rat.not_le,mk_nonneg hq];omega
theorem mk_zero {p:Int} {q:Nat} (hq:q ≠ 0):mkRat p q=0 ↔ p=0:=Rat.mkRat_eq_zero hq
theorem num_neg_iff (v:Rat):v.num < 0 ↔ v < 0:=by
 rw [← Rat.not_le,← Rat.num_nonneg];omega
def cmpQ (v u:Rat):Int:=if v < u then -1 else if u < v then 1 else 0
theorem cmpQ_self (v:Rat):cmpQ v v=0:=by simp [cmpQ,Rat.lt_irrefl]
theorem cmpQ_eq {v u:Rat} (h:v=u):cmpQ v u=0:=by rw [h,cmpQ_self]
theorem cmpQ_mk {p r:Int} {q s:Nat} (hq:q ≠ 0) (hs:s ≠ 0):cmpQ (mkRat p q) (mkRat r s)=cmpZ (p*(s:Int)) (r*(q:Int)):=by
 unfold cmpQ cmpZ
 simp only [mk_lt hq hs,mk_lt hs hq]
theorem cmpQ_same {p r:Int} {q:Nat} (hq:q ≠ 0):cmpQ (mkRat p q) (mkRat r q)=cmpZ p r:=by
 rw [cmpQ_mk hq hq]
 have h:(0:Int) < (q:Int):=by omega
 unfold cmpZ
 simp only [Int.mul_lt_mul_right h]
theorem div_den {p q:Int} (hq:q ≠ 0):(Rat.divInt p q).den=q.natAbs / Nat.gcd p.natAbs q.natAbs:=by
 rw [Rat.den_divInt,if_neg hq,Int.gcd,Nat.gcd_comm]
theorem div_num {p q:Int} (hq:q ≠ 0):(Rat.divInt p q).num.natAbs=p.natAbs / Nat.gcd p.natAbs q.natAbs:=by
 rw [Rat.num_divInt,Int.gcd,Nat.gcd_comm q.natAbs]
 rw [Int.natAbs_ediv_of_dvd,Int.natAbs_mul,Int.natAbs_sign_of_ne_zero hq,Nat.one_mul,Int.natAbs_natCast]
 have h1:=Nat.gcd_dvd_left p.natAbs q.natAbs
 have h2:((Nat.gcd p.natAbs q.natAbs:Nat):Int) ∣ p:=Int.ofNat_dvd_left.2 h1
 exact Int.dvd_trans h2 (Int.dvd_mul_left _ _)
theorem div_mk {s t:Bool} {a b:Nat}:Rat.divInt (iv s a) (iv t b)=mkRat (iv (s != t) a) b:=by
 rw [← Rat.divInt_ofNat]
 cases s <;> cases t <;> simp [iv,Rat.neg_divInt_neg]
 · rw [Rat.divInt_neg',Rat.divInt_ofNat]
theorem div_neg {s t:Bool} {a b:Nat} (hb:b ≠ 0):decide ((Rat.divInt (iv s a) (iv t b)).num < 0)=((s != t) && decide (0 < a / Nat.gcd a b)):=by
 have hg:0 < Nat.gcd a b:=Nat.gcd_pos_of_pos_right _ (by omega)
 have h2:0 < a / Nat.gcd a b ↔ 0 < a:=by
  constructor
  · intro h;rcases Nat.eq_zero_or_pos a with h' | h'
    · subst h';simp at h
    · exact h'
  · intro h;exact Nat.div_pos (Nat.gcd_le_left _ h) hg
 rw [Bool.eq_iff_iff,decide_eq_true_iff,num_neg_iff,div_mk,mk_negv hb,Bool.and_eq_true,decide_eq_true_iff,h2]
 cases s <;> cases t <;> simp [iv]
theorem mk_cond {p:Int} {q:Nat} (hq:q ≠ 0) (h:Nat.gcd p.natAbs q=1):(mkRat p q).num=p∧(mkRat p q).den=q:=by
 have h1:=Rat.mk_eq_mkRat p q hq h
 rw [← h1];exact ⟨rfl,rfl⟩
theorem bl_is0 (V:Nat):(((bl V:Nat):Int) == 0)=decide (V=0):=by
 by_cases h:V=0
 · subst h;rw [bl_zero];rfl
 · have:=bl_pos h
   rw [decide_eq_false h];simp;omega
theorem bl_is1 (V:Nat):(((bl V:Nat):Int) == 1)=decide (V=1):=by
 by_cases h:V=1
 · subst h;rw [show bl 1=1 from bl_eq (k:=0) (by decide) (by decide)];rfl
 · rw [decide_eq_false h]
   by_cases h0:V=0
   · subst h0;rw [bl_zero];rfl
   · have h1:=bl_mono (show 2≤V by omega)
     rw [show bl 2=2 from bl_eq (k:=1) (by decide) (by decide)] at h1
     simp;omega
end
end Go.Proofs.YtmgklaklnaihpaaGreat
