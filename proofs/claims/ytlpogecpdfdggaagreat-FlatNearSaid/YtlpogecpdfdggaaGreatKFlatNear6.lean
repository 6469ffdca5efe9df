/- FlatNear: part 6. -/
import Derived.Carry
import Derived.Deep.RegionHeld3
import Derived.Deep.RegionLaw
import Derived.Handy
import Derived.Laws.AppendOwnNone
import Derived.MapKept
import Derived.Test.YtlpogecpdfdggaaGreatKFlatNear0
import Derived.Test.YtlpogecpdfdggaaGreatKFlatNear1
import Derived.Test.YtlpogecpdfdggaaGreatKFlatNear2
import Derived.Test.YtlpogecpdfdggaaGreatKFlatNear5
set_option linter.unusedVariables false
set_option maxRecDepth 100000
set_option maxHeartbeats 16000000
variable {w:Go.World}
namespace Go.Proofs.YtlpogecpdfdggaaGreat
section
open Go.RowKit
def Bx (W:World) (g:Nat) (x y:Value):Prop:=W.heap[g]?=some (.cells #[x,y] 25 (0,0))
section
variable {W W':World} {g:Nat} {x y:Value}
theorem Bx.c0 (h:Bx W g x y):W.cell? ⟨g,0,none⟩=some x:=by rw [cell_of_row W g 0 _ _ (0,0) h];rfl
theorem Bx.c1 (h:Bx W g x y):W.cell? ⟨g,1,none⟩=some y:=by rw [cell_of_row W g 1 _ _ (0,0) h];rfl
theorem Bx.all (h:Bx W g x y):W.cell? ⟨g,0,none⟩=some x∧W.cell? ⟨g,1,none⟩=some y:=⟨h.c0,h.c1⟩
theorem Bx.f0 (h:Bx W g x y):W.frozen? ⟨g,0,none⟩=false:=frozen_of_row W g 0 _ _ h
theorem Bx.f1 (h:Bx W g x y):W.frozen? ⟨g,1,none⟩=false:=frozen_of_row W g 1 _ _ h
theorem Bx.lt (h:Bx W g x y):g < W.heap.size:=World.block_lt_of_cell? W _ h.c0
theorem Bx.below (h:Bx W g x y) (hb:Below W.heap.size W W'):Bx W' g x y:=(hb.block g h.lt).trans h
theorem Bx.drew (h:Bx W g x y):Bx W.drew g x y:=h
theorem Bx.alloc (h:Bx W g x y) (o:Obj):Bx (W.alloc o) g x y:=(Below.heap_alloc W o g h.lt).trans h
theorem Bx.new (W:World) (x y:Value):Bx (W.alloc (.cells #[x,y] 25)) W.heap.size x y:=heap_alloc_new W _
theorem Bx.new' (W:World) (x y:Value) (g:Nat) (hg:g=W.heap.size):Bx (W.alloc (.cells #[x,y] 25)) g x y:=by subst hg;exact Bx.new W x y
theorem set2_cell (W:World) (g k o:Nat) (x y:Value) (h:k ≠ g):((W.setCell ⟨g,0,none⟩ x).setCell ⟨g,1,none⟩ y).cell? ⟨k,o,none⟩=W.cell? ⟨k,o,none⟩:=by
 rw [World.cell?_of_block (Below.heap_setCell _ _ _ _ h),World.cell?_of_block (Below.heap_setCell _ _ _ _ h)]
theorem Bx.set2 (h:Bx W g x y) (u v:Value):Bx ((W.setCell ⟨g,0,none⟩ u).setCell ⟨g,1,none⟩ v) g u v:=by
 unfold Bx at h ⊢
 simp [World.setCell,Array.getElem?_modify,h]
end
theorem number_any (neg:Bool) (A:Option Addr) (n c:Nat) (w:World) :
 Calls Tryz.prog 89 #[.bool neg,.slice A n c] w fun e w'=>e=.returned (.agg #[.bool (neg && decide (0 < n)),.slice A n c])∧Below w.heap.size w w':=by
 cases neg
 · go_enter Tryz.func89,Tryz.ntmps89
   go_wp2
   go_returns
   exact ⟨rfl,(Below.refl _ _).alloc (Nat.le_refl _) _⟩
 · go_enter Tryz.func89,Tryz.ntmps89
   go_wp2
   go_returns
   exact ⟨by simp,(Below.refl _ _).alloc (Nat.le_refl _) _⟩
def iv (s:Bool) (V:Nat):Int:=if s then -(V:Int) else V
theorem iv_natAbs (s:Bool) (V:Nat):(iv s V).natAbs=V:=by cases s <;> simp [iv]
theorem iv_neg (s:Bool) (V:Nat):decide (iv s V < 0)=(s && decide (0 < V)):=by
 cases s
 · simp [iv]
 · simp [iv]
def GivesI (w:World) (v:Int) (e:Ending) (w':World):Prop :=
 ∃ A n c,e=.returned (.agg #[.bool (decide (v < 0)),.slice A n c])∧n≤c∧c≤maxLen∧Fr .u64 74 w' w.heap.size A n c (limbs B64 v.natAbs)∧Below w.heap.size w w'
theorem limbs_len_pos {V n:Nat} (h:(limbs B64 V).length=n):decide (0 < n)=decide (0 < V):=by
 rcases Nat.eq_zero_or_pos V with h0 | h0
 · subst h0;rw [limbs_zero] at h;subst h;rfl
 · have h1 : 0 < n := by
     rw [limbs_pos B64_two (by omega)] at h;simp at h;omega
   simp [h0,h1]
theorem Fr.base {K:IntKind} {e:TypeId} {B n c:Nat} {A:Option Addr} {l:List Nat} (h:Fr K e w B A n c l):∀ ad,A=some ad→B≤ad.block:=by
 intro ad hA
 rcases h.2.2 with ⟨h2,_⟩ | ⟨g,cap,cur,hv,hg,r⟩
 · subst hA;cases h2
 · subst hA
   injection hv with ha
   injection ha with ha
   subst ha
   exact hg
theorem close_i {w W w1 w2:World} {s:Bool} {V g B1:Nat} {v:Int} {A1:Option Addr} {n1 k1:Nat} (hb0:Below w.heap.size w W) (hg0:w.heap.size≤g) (hg:g < B1) (hv:v=iv s V)
 (p1:n1≤k1) (p2:k1≤maxLen) (p3:Fr .u64 74 w1 B1 A1 n1 k1 (limbs B64 V)) (p4:Below W.heap.size W w1) (q4:Below w1.heap.size w1 w2) (u x:Value) :
 GivesI w v (.returned (.agg #[.bool (s && decide (0 < n1)),.slice A1 n1 k1])) ((w2.setCell ⟨g,0,none⟩ u).setCell ⟨g,1,none⟩ x):=by
 subst hv
 have h1:W.heap.size≤w1.heap.size:=p4.size
 have h2:w.heap.size≤W.heap.size:=hb0.size
 have hbl:Below w.heap.size w w2:=hb0.trans ((p4.mono h2).trans (q4.mono (by omega)))
 refine ⟨A1,n1,k1,?_,p1,p2,?_,(hbl.setCell hg0 _).setCell hg0 _⟩
 · rw [iv_neg,limbs_len_pos p3.1]
 · rw [iv_natAbs]
   refine Fr.only (g:=g) ((p3.more (by omega)).below q4 (Nat.le_refl _)) (((Only.refl g w2).setCell 0 u).setCell 1 x) ?_
   intro ad hA
   have:=p3.base ad hA
   omega
end
section
open Go.RowKit
theorem mkbx0_6 {w W:World} {x0 x1 x2 x3 x4 x5:Value} (h:(((w.alloc (Obj.cells #[x0,x1] 25)).alloc (Obj.cells #[x2,x3] 25)).alloc (Obj.cells #[x4,x5] 25))=W):Below w.heap.size w W∧W.heap.size=w.heap.size+3∧Bx W (w.heap.size) x0 x1∧Bx W (w.heap.size+1) x2 x3∧Bx W (w.heap.size+1+1) x4 x5:=by subst h;exact ⟨by exact (((Below.refl _ _).alloc (Nat.le_refl _) _).alloc (by simp) _).alloc (by simp;omega) _,by simp,by exact ((Bx.new w _ _).alloc _).alloc _,by exact (Bx.new' _ _ _ _ (by simp)).alloc _,by exact Bx.new' _ _ _ _ (by simp)⟩
theorem zadd_same (s:Bool) (la lb:List Nat) (A B:Option Addr) (n c m d:Nat) (w:World) (ha:Rd .u64 w A n la) (hb:Rd .u64 w B m lb) (La:Lim B64 la) (Lb:Lim B64 lb)
 (hnc:n≤c) (hmd:m≤d) (hnm0:n+m≤35184372088831) :
 Calls Tryz.prog 101 #[.agg #[.bool s,.slice A n c],.agg #[.bool s,.slice B m d]] w (GivesI w (iv s (val B64 la+val B64 lb))):=by
 go_enter Tryz.func101,Tryz.ntmps101
 go_wp2
 generalize hW:World.alloc _ _=W
 obtain ⟨hb0,hz,X,Y,Z⟩:=mkbx0_6 hW;clear hW;obtain ⟨c0,c1⟩:=X.all;obtain ⟨d0,d1⟩:=Y.all
 go_region_held3 (fun w'=>w'.cell? ⟨w.heap.size,0,none⟩=some (.bool s)∧w'.cell? ⟨w.heap.size,1,none⟩=some (.slice A n c)∧w'.cell? ⟨w.heap.size+1,0,none⟩=some (.bool s)∧w'.cell? ⟨w.heap.size+1,1,none⟩=some (.slice B m d))
  (first | exact ⟨X.c0,X.c1,Y.c0,Y.c1⟩ | exact ⟨X1.c0,X1.c1,Y1.c0,Y1.c1⟩ | exact ⟨X2.c0,X2.c1,Y2.c0,Y2.c1⟩ | exact ⟨(set2_cell _ _ _ _ _ _ (by omega)).trans X2.c0,(set2_cell _ _ _ _ _ _ (by omega)).trans X2.c1,(set2_cell _ _ _ _ _ _ (by omega)).trans Y2.c0,(set2_cell _ _ _ _ _ _ (by omega)).trans Y2.c1⟩)
  (first
   | (go_at_call 126;(with_reducible refine (add_any la lb _ _ _ _ _ _ _ (ha.below hb0).drew (hb.below hb0).drew La Lb hnm0 hnc hmd).mono ?_);rintro e w1 ⟨A1,n1,k1,rfl,p1,p2,p3,p4⟩
      replace p4:Below W.heap.size W w1:=(Below.refl _ W).drew.trans p4
      have z1:W.heap.size≤w1.heap.size:=p4.size
      have X1:=X.below p4;have Y1:=Y.below p4;have Z1:=Z.below p4)
   | (go_at_call 89;(with_reducible refine (number_any _ _ _ _ _).mono ?_);rintro e w2 ⟨rfl,q4⟩
      have z2:w1.heap.size≤w2.heap.size:=q4.size
      have X2:=X1.below q4;have Y2:=Y1.below q4;have Z2:=Z1.below q4;obtain ⟨r0,r1⟩:=Z2.all;have r2:=Z2.f0;have r3:=Z2.f1))
 go_wp2
 have hf0:=(Z2.set2 (.bool (s && decide (0 < n1))) (.slice A1 n1 k1)).c0
 have hf1:=(Z2.set2 (.bool (s && decide (0 < n1))) (.slice A1 n1 k1)).c1
 refine bodyPost_ret (v:=.agg #[.bool (s && decide (0 < n1)),.slice A1 n1 k1]) (by simp [results,Tryz.results101,go_sem,hf0,hf1]) rfl ?_
 exact close_i (g:=w.heap.size+1+1) hb0 (by omega) (by show _ < W.heap.size;omega) rfl p1 p2 p3 p4 q4 _ _
theorem zmul_any (s t:Bool) (la lb:List Nat) (A B:Option Addr) (n c m d:Nat) (w:World) (ha:Rd .u64 w A n la) (hb:Rd .u64 w B m lb) (La:Lim B64 la) (Lb:Lim B64 lb)
 (hnc:n≤c) (hmd:m≤d) (hnm0:n+m≤1000000) :
 Calls Tryz.prog 52 #[.agg #[.bool s,.slice A n c],.agg #[.bool t,.slice B m d]] w (GivesI w (iv (!(s == t)) (val B64 la*val B64 lb))):=by
 go_enter Tryz.func52,Tryz.ntmps52
 go_wp2
 generalize hW:World.alloc _ _=W
 obtain ⟨hb0,hz,X,Y,Z⟩:=mkbx0_6 hW;clear hW;obtain ⟨c0,c1⟩:=X.all;obtain ⟨d0,d1⟩:=Y.all
 go_region_held3 (fun w'=>w'.cell? ⟨w.heap.size,0,none⟩=some (.bool s)∧w'.cell? ⟨w.heap.size,1,none⟩=some (.slice A n c)∧w'.cell? ⟨w.heap.size+1,0,none⟩=some (.bool t)∧w'.cell? ⟨w.heap.size+1,1,none⟩=some (.slice B m d))
  (first | exact ⟨X.c0,X.c1,Y.c0,Y.c1⟩ | exact ⟨X1.c0,X1.c1,Y1.c0,Y1.c1⟩ | exact ⟨X2.c0,X2.c1,Y2.c0,Y2.c1⟩ | exact ⟨(set2_cell _ _ _ _ _ _ (by omega)).trans X2.c0,(set2_cell _ _ _ _ _ _ (by omega)).trans X2.c1,(set2_cell _ _ _ _ _ _ (by omega)).trans Y2.c0,(set2_cell _ _ _ _ _ _ (by omega)).trans Y2.c1⟩)
  (first
   | (go_at_call 96;(with_reducible refine (mul_any la lb _ _ _ _ _ _ _ (ha.below hb0).drew (hb.below hb0).drew La Lb hnm0 hnc hmd).mono ?_);rintro e w1 ⟨A1,n1,k1,rfl,p1,p2,p3,p4⟩
      replace p4:Below W.heap.size W w1:=(Below.refl _ W).drew.trans p4
      have z1:W.heap.size≤w1.heap.size:=p4.size
      have X1:=X.below p4;have Y1:=Y.below p4;have Z1:=Z.below p4)
   | (go_at_call 89;(with_reducible refine (number_any _ _ _ _ _).mono ?_);rintro e w2 ⟨rfl,q4⟩
      have z2:w1.heap.size≤w2.heap.size:=q4.size
      have X2:=X1.below q4;have Y2:=Y1.below q4;have Z2:=Z1.below q4;obtain ⟨r0,r1⟩:=Z2.all;have r2:=Z2.f0;have r3:=Z2.f1))
 go_wp2
 have hf0:=(Z2.set2 (.bool ((!(s == t)) && decide (0 < n1))) (.slice A1 n1 k1)).c0
 have hf1:=(Z2.set2 (.bool ((!(s == t)) && decide (0 < n1))) (.slice A1 n1 k1)).c1
 refine bodyPost_ret (v:=.agg #[.bool ((!(s == t)) && decide (0 < n1)),.slice A1 n1 k1]) (by simp [results,Tryz.results52,go_sem,hf0,hf1]) rfl ?_
 exact close_i (g:=w.heap.size+1+1) hb0 (by omega) (by show _ < W.heap.size;omega) rfl p1 p2 p3 p4 q4 _ _
theorem zadd_ge (s:Bool) (la lb:List Nat) (A B:Option Addr) (n c m d:Nat) (w:World) (ha:Rd .u64 w A n la) (hb:Rd .u64 w B m lb) (La:Lim B64 la) (Lb:Lim B64 lb)
 (hnc:n≤c) (hmd:m≤d) (hnm0:n+m≤35184372088831) (hle:val B64 lb≤val B64 la) :
 Calls Tryz.prog 101 #[.agg #[.bool s,.slice A n c],.agg #[.bool (!s),.slice B m d]] w (GivesI w (iv s (val B64 la - val B64 lb))):=by
 go_enter Tryz.func101,Tryz.ntmps101
 have hne:(s == !s)=false:=by cases s <;> rfl
 go_wp2_with fail
 generalize hW:World.alloc _ _=W
 obtain ⟨hb0,hz,X,Y,Z⟩:=mkbx0_6 hW;clear hW
 refine (sub_any la lb _ _ _ _ _ _ _ (ha.below hb0) (hb.below hb0) La Lb hnm0 hnc hmd hle).mono ?_
 rintro e w1 ⟨A1,n1,k1,rfl,p1,p2,p3,p4⟩
 have z1:W.heap.size≤w1.heap.size:=p4.size
 have X1:=X.below p4;have Z1:=Z.below p4;have c2:=X1.c0
 go_wp2_with (first
  | (go_at_call 89;(with_reducible refine (number_any _ _ _ _ _).mono ?_);rintro e w2 ⟨rfl,q4⟩
     have z2:w1.heap.size≤w2.heap.size:=q4.size
     have X2:=X1.below q4;have Z2:=Z1.below q4;obtain ⟨r0,r1⟩:=Z2.all;have r2:=Z2.f0;have r3:=Z2.f1))
 have hf0:=(Z2.set2 (.bool (s && decide (0 < n1))) (.slice A1 n1 k1)).c0
 have hf1:=(Z2.set2 (.bool (s && decide (0 < n1))) (.slice A1 n1 k1)).c1
 refine bodyPost_ret (v:=.agg #[.bool (s && decide (0 < n1)),.slice A1 n1 k1]) (by simp [results,Tryz.results101,go_sem,hf0,hf1]) rfl ?_
 exact close_i (g:=w.heap.size+1+1) hb0 (by omega) (by omega) rfl p1 p2 p3 p4 q4 _ _
theorem zadd_lt (s:Bool) (la lb:List Nat) (A B:Option Addr) (n c m d:Nat) (w:World) (ha:Rd .u64 w A n la) (hb:Rd .u64 w B m lb) (La:Lim B64 la) (Lb:Lim B64 lb)
 (hnc:n≤c) (hmd:m≤d) (hnm0:n+m≤35184372088831) (hlt:val B64 la < val B64 lb) :
 Calls Tryz.prog 101 #[.agg #[.bool s,.slice A n c],.agg #[.bool (!s),.slice B m d]] w (GivesI w (iv (!s) (val B64 lb - val B64 la))):=by
 go_enter Tryz.func101,Tryz.ntmps101
 have hne:(s == !s)=false:=by cases s <;> rfl
 go_wp2_with fail
 generalize hW:World.alloc _ _=W
 obtain ⟨hb0,hz,X,Y,Z⟩:=mkbx0_6 hW;clear hW
 refine (sub_below la lb _ _ _ _ _ _ _ (ha.below hb0) (hb.below hb0) La Lb hnm0 hnc hmd hlt).mono ?_
 rintro e w0 ⟨rfl,p0⟩
 have z0:W.heap.size≤w0.heap.size:=p0.size
 have X0:=X.below p0;have Y0:=Y.below p0;have Z0:=Z.below p0;have c2:=X0.c1;have d2:=Y0.c1
 go_wp2_with (first
  | (go_at_call 127;(with_reducible refine (sub_any lb la _ _ _ _ _ _ _ (hb.below (hb0.trans (p0.mono (by omega)))) (ha.below (hb0.trans (p0.mono (by omega)))) Lb La (by omega) hmd hnc (Nat.le_of_lt hlt)).mono ?_);rintro e w1 ⟨A1,n1,k1,rfl,p1,p2,p3,p4⟩
     have z1:w0.heap.size≤w1.heap.size:=p4.size
     have Y1:=Y0.below p4;have Z1:=Z0.below p4;have d3:=Y1.c0)
  | (go_at_call 89;(with_reducible refine (number_any _ _ _ _ _).mono ?_);rintro e w2 ⟨rfl,q4⟩
     have z2:w1.heap.size≤w2.heap.size:=q4.size
     have Y2:=Y1.below q4;have Z2:=Z1.below q4;obtain ⟨r0,r1⟩:=Z2.all;have r2:=Z2.f0;have r3:=Z2.f1))
 have hf0:=(Z2.set2 (.bool ((!s) && decide (0 < n1))) (.slice A1 n1 k1)).c0
 have hf1:=(Z2.set2 (.bool ((!s) && decide (0 < n1))) (.slice A1 n1 k1)).c1
 refine bodyPost_ret (v:=.agg #[.bool ((!s) && decide (0 < n1)),.slice A1 n1 k1]) (by simp [results,Tryz.results101,go_sem,hf0,hf1]) rfl ?_
 exact close_i (g:=w.heap.size+1+1) hb0 (by omega) (by omega) rfl p1 p2 p3 (p0.trans (p4.mono z0)) q4 _ _
theorem iv_add_ge {s:Bool} {a b:Nat} (h:b≤a):iv s (a - b)=iv s a+iv (!s) b:=by cases s <;> simp [iv] <;> omega
theorem iv_add_lt {s:Bool} {a b:Nat} (h:a < b):iv (!s) (b - a)=iv s a+iv (!s) b:=by cases s <;> simp [iv] <;> omega
theorem iv_add_same (s:Bool) (a b:Nat):iv s (a+b)=iv s a+iv s b:=by cases s <;> simp [iv];omega
theorem iv_mul (s t:Bool) (a b:Nat):iv (!(s == t)) (a*b)=iv s a*iv t b:=by cases s <;> cases t <;> simp [iv,Int.neg_mul,Int.mul_neg]
theorem iv_not (s:Bool) (a:Nat):iv (!s) a=- iv s a:=by cases s <;> simp [iv]
theorem zadd_any (s t:Bool) (la lb:List Nat) (A B:Option Addr) (n c m d:Nat) (w:World) (ha:Rd .u64 w A n la) (hb:Rd .u64 w B m lb) (La:Lim B64 la) (Lb:Lim B64 lb)
 (hnc:n≤c) (hmd:m≤d) (hnm0:n+m≤35184372088831) :
 Calls Tryz.prog 101 #[.agg #[.bool s,.slice A n c],.agg #[.bool t,.slice B m d]] w (GivesI w (iv s (val B64 la)+iv t (val B64 lb))):=by
 by_cases hst:s=t
 · subst hst
   rw [← iv_add_same]
   exact zadd_same s la lb A B n c m d w ha hb La Lb hnc hmd hnm0
 · have ht:t=!s:=by cases s <;> cases t <;> simp_all
   rcases Nat.lt_or_ge (val B64 la) (val B64 lb) with h | h
   · have:=zadd_lt s la lb A B n c m d w ha hb La Lb hnc hmd hnm0 h
     rw [iv_add_lt h] at this;rw [ht]
     exact this
   · have:=zadd_ge s la lb A B n c m d w ha hb La Lb hnc hmd hnm0 h
     rw [iv_add_ge h] at this;rw [ht]
     exact this
end
section
open Go.RowKit Go.MapKept
abbrev tSigns:TypeId:=143
abbrev tBool:TypeId:=4
theorem und_signs:Tryz.prog.underlying tSigns=some (.map tBool 69):=by kernel_rfl
theorem und_bool:Tryz.prog.underlying tBool=some .bool:=by kernel_rfl
def setMap (w:World) (r:Nat) (es:Array MapEntry) (clock:Nat):World:={w with heap:=w.heap.setIfInBounds r (.map es clock)}
theorem setMap_at {r:Nat} {es:Array MapEntry} {clock:Nat} (h:r < w.heap.size):(setMap w r es clock).heap[r]?=some (.map es clock):=by
 simp [setMap,h]
theorem below_setMap {B:Nat} {a w:World} (h:Below B a w) {r:Nat} (hr:B≤r) (es:Array MapEntry) (clock:Nat):Below B a (setMap w r es clock) :=
 ⟨h.os,h.tape,h.output,by simpa [setMap] using h.size,fun k hk=>by
  show (w.heap.setIfInBounds r _)[k]?=_
  rw [Array.getElem?_setIfInBounds_ne (by omega)];exact h.block k hk⟩
theorem run_upd {r:Nat} {es:Array MapEntry} {clock:Nat} (b:Bool) (v:Value) (hb:w.heap[r]?=some (.map es clock)) (h1:Instr.findNow .bool (.bool b) es.toList 0=some none) :
 (Instr.mapUpdate tSigns (.map (some r)) (.bool b) v).run Tryz.prog w=.ok () (setMap w r (es.push {key:=.bool b,val:=v,born:=clock}) (clock+1)):=by
 have hk:IsKey .bool (.bool b):=trivial
 simp [Instr.mapUpdate,run_underlying und_signs,Go.MapKept.run_getObj_map hb,run_checkKey und_bool hk,run_findKey und_bool h1,run_setObj_map _ hb,Result.andThen,setMap]
theorem run_look {r:Nat} {es:Array MapEntry} {clock:Nat} (b:Bool) (i:Nat) (v:Value) (hb:w.heap[r]?=some (.map es clock)) (h1:Instr.findNow .bool (.bool b) es.toList 0=some (some (i,v))) :
 (Instr.lookup tSigns (.map (some r)) (.bool b) false).run Tryz.prog w=.ok v w:=by
 have hk:IsKey .bool (.bool b):=trivial
 simp [Instr.lookup,run_underlying und_signs,Go.MapKept.run_getObj_map hb,run_checkKey und_bool hk,run_findKey und_bool h1,Result.andThen]
def signEs (x:Value):Array MapEntry:=#[{key:=.bool false,val:=.func (.func 128) #[x] #[],born:=0},{key:=.bool true,val:=.func (.func 129) #[x] #[],born:=1}]
theorem signs_any (A:Option Addr) (n c:Nat) (w:World) :
 Calls Tryz.prog 102 #[.slice A n c] w fun e w'=>e=.returned (.map (some w.heap.size))∧w'.heap[w.heap.size]?=some (.map (signEs (.slice A n c)) 2)∧Below w.heap.size w w':=by
 have hmm:=@run_makeMap Tryz.prog
 have h0:(w.alloc (.map #[] 0)).heap[w.heap.size]?=some (.map #[] 0):=heap_alloc_new w _
 have hi0:=run_upd false (.func (.func 128) #[.slice A n c] #[]) h0 rfl
 have h1:(setMap (w.alloc (.map #[] 0)) w.heap.size #[{key:=.bool false,val:=.func (.func 128) #[.slice A n c] #[],born:=0}] 1).heap[w.heap.size]?=_:=setMap_at (by simp)
 have hi1:=run_upd true (.func (.func 129) #[.slice A n c] #[]) h1 rfl
 go_enter Tryz.func102,Tryz.ntmps102
 go_wp2
 go_returns
 exact ⟨rfl,setMap_at (by simp [setMap]),below_setMap (below_setMap ((Below.refl _ _).alloc (Nat.le_refl _) _) (Nat.le_refl _) _ _) (Nat.le_refl _) _ _⟩
def sgn (v:Int):Int:=if v < 0 then -1 else if v=0 then 0 else 1
theorem cmpN_zero (V:Nat):cmpN V 0=sgn (iv false V):=by
 rcases Nat.eq_zero_or_pos V with h0 | h0
 · subst h0;rfl
 · have h1:¬ ((V:Int) < 0):=by omega
   have h2:¬ (V=0):=by omega
   simp [cmpN,sgn,iv,h1,h2]
theorem sgn_neg (V:Nat):wrap64 (-(sgn (iv false V)))=sgn (iv true V):=by
 rcases Nat.eq_zero_or_pos V with h0 | h0
 · subst h0;decide +kernel
 · have h1 : sgn (iv false V) = 1 := by
     have h1:¬ ((V:Int) < 0):=by omega
     have h2:¬ (V=0):=by omega
     simp [sgn,iv,h1,h2]
   have h2:sgn (iv true V)=-1:=by
    have h3:0 < V:=h0
    simp [sgn,iv,h3]
   rw [h1,h2];decide +kernel
theorem up_any (l:List Nat) (A:Option Addr) (n c:Nat) (w:World) (h:Rd .u64 w A n l) (hL:Lim B64 l) (hn:n≤maxLen) (hnc:n≤c) :
 Calls Tryz.prog 128 #[.slice A n c] w fun e w'=>e=.returned (.int .i64 (sgn (iv false (val B64 l))))∧∃ q,w'=w.drewN q:=by
 go_enter Tryz.func128,Tryz.ntmps128
 go_wp2_with (first
  | (go_at_call 95;(with_reducible refine (cmp_any l [] _ _ _ _ _ _ _ h Rd.nil hL Lim.nil hn (Nat.zero_le _) hnc (Nat.le_refl _)).mono ?_);rintro e w' ⟨rfl,q,rfl⟩))
 go_ret
 exact ⟨by rw [← cmpN_zero];rfl,q,rfl⟩
theorem down_any (l:List Nat) (A:Option Addr) (n c:Nat) (w:World) (h:Rd .u64 w A n l) (hL:Lim B64 l) (hn:n≤maxLen) (hnc:n≤c) :
 Calls Tryz.prog 129 #[.slice A n c] w fun e w'=>e=.returned (.int .i64 (sgn (iv true (val B64 l))))∧∃ q,w'=w.drewN q:=by
 go_enter Tryz.func129,Tryz.ntmps129
 go_wp2_with (first
  | (go_at_call 128;(with_reducible refine (up_any l _ _ _ _ h hL hn hnc).mono ?_);rintro e w' ⟨rfl,q,rfl⟩))
 go_ret
 exact ⟨ret_int (sgn_neg _),q,rfl⟩
theorem run_look_s {r:Nat} {x:Value} (s:Bool) (hm:w.heap[r]?=some (.map (signEs x) 2)) :
 (Instr.lookup tSigns (.map (some r)) (.bool s) false).run Tryz.prog w=.ok (.func (.func (if s then 129 else 128)) #[x] #[]) w:=by
 cases s
 · exact run_look _ 0 _ hm rfl
 · exact run_look _ 1 _ hm rfl
theorem mkbx1_6 {w W:World} {x0 x1:Value} (h:(w.alloc (Obj.cells #[x0,x1] 25))=W):Below w.heap.size w W∧Bx W (w.heap.size) x0 x1:=by subst h;exact ⟨by exact (Below.refl _ _).alloc (Nat.le_refl _) _,by exact Bx.new w _ _⟩
theorem sign_any (s:Bool) (l:List Nat) (A:Option Addr) (n c:Nat) (w:World) (h:Rd .u64 w A n l) (hL:Lim B64 l) (hn:n≤maxLen) (hnc:n≤c) :
 Calls Tryz.prog 61 #[.agg #[.bool s,.slice A n c]] w fun e w'=>e=.returned (.int .i64 (sgn (iv s (val B64 l))))∧Below w.heap.size w w':=by
 cases s
 · go_enter Tryz.func61,Tryz.ntmps61
   go_wp2_with fail
   generalize hW:World.alloc _ _=W
   obtain ⟨hb0,X⟩:=mkbx1_6 hW;clear hW;obtain ⟨c0,c1⟩:=X.all
   go_region_held3 (fun w'=>w'.cell? ⟨w.heap.size,0,none⟩=some (.bool false)∧w'.cell? ⟨w.heap.size,1,none⟩=some (.slice A n c))
    (first | exact ⟨c0,c1⟩ | exact ⟨X1.c0,X1.c1⟩ | exact ⟨X2.c0,X2.c1⟩)
    (first
     | (go_at_call 102;(with_reducible refine (signs_any _ _ _ _).mono ?_);rintro e w1 ⟨rfl,hm,p4⟩
        have p5:Below W.heap.size W w1:=(Below.refl _ W).drew.trans p4
        have X1:=X.below p5
        have hl:=run_look_s false (r:=W.heap.size) hm
        have hl2:=run_look_s (w:=w1.drew) false (r:=W.heap.size) hm)
     | (go_at_call 128;(with_reducible refine (up_any l _ _ _ _ ((h.below hb0).below p5) hL hn hnc).mono ?_);rintro e w2 ⟨rfl,q,rfl⟩)
     | (go_at_call 128;(with_reducible refine (up_any l _ _ _ _ (((h.below hb0).below p5).drew) hL hn hnc).mono ?_);rintro e w2 ⟨rfl,q,rfl⟩)
     | (go_at_call 129;(with_reducible refine (down_any l _ _ _ _ ((h.below hb0).below p5) hL hn hnc).mono ?_);rintro e w2 ⟨rfl,q,rfl⟩)
     | (go_at_call 129;(with_reducible refine (down_any l _ _ _ _ (((h.below hb0).below p5).drew) hL hn hnc).mono ?_);rintro e w2 ⟨rfl,q,rfl⟩))
   go_wp2
   go_ret
   exact ⟨rfl,below_drawn (hb0.trans (p5.mono hb0.size)) q⟩
 · go_enter Tryz.func61,Tryz.ntmps61
   go_wp2_with fail
   generalize hW:World.alloc _ _=W
   obtain ⟨hb0,X⟩:=mkbx1_6 hW;clear hW;obtain ⟨c0,c1⟩:=X.all
   go_region_held3 (fun w'=>w'.cell? ⟨w.heap.size,0,none⟩=some (.bool true)∧w'.cell? ⟨w.heap.size,1,none⟩=some (.slice A n c))
    (first | exact ⟨c0,c1⟩ | exact ⟨X1.c0,X1.c1⟩ | exact ⟨X2.c0,X2.c1⟩)
    (first
     | (go_at_call 102;(with_reducible refine (signs_any _ _ _ _).mono ?_);rintro e w1 ⟨rfl,hm,p4⟩
        have p5:Below W.heap.size W w1:=(Below.refl _ W).drew.trans p4
        have X1:=X.below p5
        have hl:=run_look_s true (r:=W.heap.size) hm
        have hl2:=run_look_s (w:=w1.drew) true (r:=W.heap.size) hm)
     | (go_at_call 128;(with_reducible refine (up_any l _ _ _ _ ((h.below hb0).below p5) hL hn hnc).mono ?_);rintro e w2 ⟨rfl,q,rfl⟩)
     | (go_at_call 128;(with_reducible refine (up_any l _ _ _ _ (((h.below hb0).below p5).drew) hL hn hnc).mono ?_);rintro e w2 ⟨rfl,q,rfl⟩)
     | (go_at_call 129;(with_reducible refine (down_any l _ _ _ _ ((h.below hb0).below p5) hL hn hnc).mono ?_);rintro e w2 ⟨rfl,q,rfl⟩)
     | (go_at_call 129;(with_reducible refine (down_any l _ _ _ _ (((h.below hb0).below p5).drew) hL hn hnc).mono ?_);rintro e w2 ⟨rfl,q,rfl⟩))
   go_wp2
   go_ret
   exact ⟨rfl,below_drawn (hb0.trans (p5.mono hb0.size)) q⟩
end
section
open Go.RowKit
theorem close_pass {w W w1:World} {g:Nat} {v:Int} {A1:Option Addr} {n1 k1:Nat} (hb0:Below w.heap.size w W) (hg0:w.heap.size≤g) (hg:g < W.heap.size)
 (p1:n1≤k1) (p2:k1≤maxLen) (p3:Fr .u64 74 w1 W.heap.size A1 n1 k1 (limbs B64 v.natAbs)) (p4:Below W.heap.size W w1) (u x:Value) :
 GivesI w v (.returned (.agg #[.bool (decide (v < 0)),.slice A1 n1 k1])) ((w1.setCell ⟨g,0,none⟩ u).setCell ⟨g,1,none⟩ x):=by
 have h2:w.heap.size≤W.heap.size:=hb0.size
 have hbl:Below w.heap.size w w1:=hb0.trans (p4.mono h2)
 refine ⟨A1,n1,k1,rfl,p1,p2,?_,(hbl.setCell hg0 _).setCell hg0 _⟩
 refine Fr.only (g:=g) (p3.more (by omega)) (((Only.refl g w1).setCell 0 u).setCell 1 x) ?_
 intro ad hA
 have:=p3.base ad hA
 omega
theorem mkbx2_6 {w W:World} {x0 x1 x2 x3 x4 x5:Value} (h:(((w.alloc (Obj.cells #[x0,x1] 25)).alloc (Obj.cells #[x2,x3] 25)).alloc (Obj.cells #[x4,x5] 25))=W):Below w.heap.size w W∧W.heap.size=w.heap.size+3∧Bx W (w.heap.size+1+1) x4 x5:=by subst h;exact ⟨by exact (((Below.refl _ _).alloc (Nat.le_refl _) _).alloc (by simp) _).alloc (by simp;omega) _,by simp,by exact Bx.new' _ _ _ _ (by simp)⟩
theorem zsub_any (s t:Bool) (la lb:List Nat) (A B:Option Addr) (n c m d:Nat) (w:World) (ha:Rd .u64 w A n la) (hb:Rd .u64 w B m lb) (La:Lim B64 la) (Lb:Lim B64 lb)
 (hnc:n≤c) (hmd:m≤d) (hnm0:n+m≤35184372088831) :
 Calls Tryz.prog 148 #[.agg #[.bool s,.slice A n c],.agg #[.bool t,.slice B m d]] w (GivesI w (iv s (val B64 la) - iv t (val B64 lb))):=by
 go_enter Tryz.func148,Tryz.ntmps148
 go_wp2_with fail
 generalize hW:World.alloc _ _=W
 obtain ⟨hb0,hz,Z⟩:=mkbx2_6 hW;clear hW
 refine (zadd_any s (!t) la lb _ _ _ _ _ _ _ (ha.below hb0) (hb.below hb0) La Lb hnc hmd hnm0).mono ?_
 rw [iv_not,← Int.sub_eq_add_neg]
 rintro e w1 ⟨A1,n1,k1,rfl,p1,p2,p3,p4⟩
 have Z1:=Z.below p4;obtain ⟨r0,r1⟩:=Z1.all;have r2:=Z1.f0;have r3:=Z1.f1
 generalize hv:iv s (val B64 la) - iv t (val B64 lb)=v
 rw [hv] at p3
 generalize hd:decide (v < 0)=dd
 go_wp2
 have hf0:=(Z1.set2 (.bool dd) (.slice A1 n1 k1)).c0
 have hf1:=(Z1.set2 (.bool dd) (.slice A1 n1 k1)).c1
 refine bodyPost_ret (v:=.agg #[.bool dd,.slice A1 n1 k1]) (by simp [results,Tryz.results148,go_sem,hf0,hf1]) rfl ?_
 rw [hv]
 subst hd
 exact close_pass (g:=w.heap.size+1+1) hb0 (by omega) (by omega) p1 p2 p3 p4 _ _
theorem mkbx3_6 {w W:World} {x0 x1:Value} (h:(w.alloc (Obj.cells #[x0,x1] 25))=W):Below w.heap.size w W∧W.heap.size=w.heap.size+1∧Bx W (w.heap.size) x0 x1:=by subst h;exact ⟨by exact (Below.refl _ _).alloc (Nat.le_refl _) _,by simp,by exact Bx.new w _ _⟩
theorem zof_any (v:Int) (h1:-9223372036854775808≤v) (h2:v < 9223372036854775808) (w:World):Calls Tryz.prog 47 #[.int .i64 v] w (GivesI w v):=by
 by_cases hs:v < 0
 · obtain ⟨V,rfl⟩:∃ V:Nat,v=-(V:Int):=⟨v.natAbs,by omega⟩
   have hw:IntKind.u64.wrap (-IntKind.u64.wrap (-(V:Int)))=(V:Int):=by rw [IntKind.wrap_u64,IntKind.wrap_u64];omega
   go_enter Tryz.func47,Tryz.ntmps47
   go_wp2_with fail
   generalize hW:World.alloc _ _=W
   obtain ⟨hb0,hz,Z⟩:=mkbx3_6 hW;clear hW
   refine (of_any V (by unfold B64;omega) _).mono ?_
   rintro e w1 ⟨A1,n1,k1,rfl,p1,p2,p3,p4⟩
   have Z1:=Z.below p4
   go_wp2_with (first
    | (go_at_call 89;(with_reducible refine (number_any _ _ _ _ _).mono ?_);rintro e w2 ⟨rfl,q4⟩
       have Z2:=Z1.below q4;obtain ⟨r0,r1⟩:=Z2.all;have r2:=Z2.f0;have r3:=Z2.f1))
   have hf0:=(Z2.set2 (.bool (true && decide (0 < n1))) (.slice A1 n1 k1)).c0
   have hf1:=(Z2.set2 (.bool (true && decide (0 < n1))) (.slice A1 n1 k1)).c1
   simp only [Bool.true_and] at hf0 hf1
   refine bodyPost_ret (v:=.agg #[.bool (true && decide (0 < n1)),.slice A1 n1 k1]) (by simp [results,Tryz.results47,go_sem,hf0,hf1]) rfl ?_
   exact close_i (s:=true) (g:=w.heap.size) hb0 (Nat.le_refl _) (by omega) (by simp [iv]) p1 p2 p3 p4 q4 _ _
 · obtain ⟨V,rfl⟩:∃ V:Nat,v=(V:Int):=⟨v.natAbs,by omega⟩
   go_enter Tryz.func47,Tryz.ntmps47
   go_wp2_with fail
   generalize hW:World.alloc _ _=W
   obtain ⟨hb0,hz,Z⟩:=mkbx3_6 hW;clear hW
   refine (of_any V (by unfold B64;omega) _).mono ?_
   rintro e w1 ⟨A1,n1,k1,rfl,p1,p2,p3,p4⟩
   have Z1:=Z.below p4
   go_wp2_with (first
    | (go_at_call 89;(with_reducible refine (number_any _ _ _ _ _).mono ?_);rintro e w2 ⟨rfl,q4⟩
       have Z2:=Z1.below q4;obtain ⟨r0,r1⟩:=Z2.all;have r2:=Z2.f0;have r3:=Z2.f1))
   have hf0:=(Z2.set2 (.bool (false && decide (0 < n1))) (.slice A1 n1 k1)).c0
   have hf1:=(Z2.set2 (.bool (false && decide (0 < n1))) (.slice A1 n1 k1)).c1
   simp only [Bool.false_and] at hf0 hf1
   refine bodyPost_ret (v:=.agg #[.bool (false && decide (0 < n1)),.slice A1 n1 k1]) (by simp [results,Tryz.results47,go_sem,hf0,hf1]) rfl ?_
   exact close_i (s:=false) (g:=w.heap.size) hb0 (Nat.le_refl _) (by omega) (by simp [iv]) p1 p2 p3 p4 q4 _ _
end
section
open Go.RowKit
def ztxt (v:Int):List UInt8:=if v < 0 then 45 :: txt v.natAbs else txt v.natAbs
theorem ztext_any (s:Bool) (l:List Nat) (A:Option Addr) (n c:Nat) (w:World) (h:Rd .u64 w A n l) (hL:Lim B64 l) (hn:n≤78) (hnc:n≤c) :
 Calls Tryz.prog 65 #[.agg #[.bool s,.slice A n c]] w fun e w'=>e=.returned (.string ⟨(ztxt (iv s (val B64 l))).toArray⟩)∧Below w.heap.size w w':=by
 go_enter Tryz.func65,Tryz.ntmps65
 go_wp2_with fail
 generalize hW:World.alloc _ _=W
 obtain ⟨hb0,X⟩:=mkbx1_6 hW;clear hW
 refine (sign_any s l _ _ _ _ (h.below hb0) hL (by unfold maxLen;omega) hnc).mono ?_
 rintro e w1 ⟨rfl,p4⟩
 have X1:=X.below p4;obtain ⟨c0,c1⟩:=X1.all
 have hb1:Below w.heap.size w w1:=hb0.trans (p4.mono hb0.size)
 generalize hV:iv s (val B64 l)=v
 have hva:v.natAbs=val B64 l:=by rw [← hV,iv_natAbs]
 have hw1:Rd .u64 w1 A n l:=h.below hb1
 have hlen:¬ (9223372036854775807 < 1+(txt (val B64 l)).length):=by
  have h1:=val_lt hL;rw [h.1] at h1
  have:=txt_len h1 (show n≤900 by omega)
  omega
 by_cases hv:v < 0
 · have hs:sgn v=-1:=by simp [sgn,hv]
   have HV:=Lib.hid hv;clear hv;rw [hs]
   go_wp2_with (first
    | (go_at_call 66;(with_reducible refine (text_any l _ _ _ _ hw1 hL hn hnc).mono ?_);rintro e w2 ⟨rfl,q4⟩))
   go_ret
   refine ⟨?_,hb1.trans (q4.mono hb1.size)⟩
   refine ret_eq ?_
   show Value.string (⟨#[45]⟩ ++ ⟨(txt (val B64 l)).toArray⟩)=_
   rw [hV,ztxt,if_pos HV.out,hva]
   congr 1
 · have hs:decide (sgn v < 0)=false:=by unfold sgn;rw [if_neg hv];split <;> simp
   have HV:Hid (¬ v < 0):=hv
   clear hv
   go_wp2_with (first
    | (go_at_call 66;(with_reducible refine (text_any l _ _ _ _ hw1 hL hn hnc).mono ?_);rintro e w2 ⟨rfl,q4⟩))
   go_ret
   refine ⟨?_,hb1.trans (q4.mono hb1.size)⟩
   refine ret_eq ?_
   show Value.string ⟨(txt (val B64 l)).toArray⟩=_
   rw [hV,ztxt,if_neg (Int.not_lt.2 HV.out),hva]
def cmpZ (a b:Int):Int:=if a < b then -1 else if b < a then 1 else 0
theorem compareInt_cmpZ (a b:Int):Lib.compareInt a b=cmpZ a b:=by
 unfold Lib.compareInt cmpZ;rfl
theorem mkbx4_6 {w W:World} {x0 x1 x2 x3:Value} (h:((w.alloc (Obj.cells #[x0,x1] 25)).alloc (Obj.cells #[x2,x3] 25))=W):Below w.heap.size w W∧Bx W (w.heap.size) x0 x1∧Bx W (w.heap.size+1) x2 x3:=by subst h;exact ⟨by exact ((Below.refl _ _).alloc (Nat.le_refl _) _).alloc (by simp) _,by exact (Bx.new w _ _).alloc _,by exact Bx.new' _ _ _ _ (by simp)⟩
theorem zcmp_unlike (s:Bool) (la lb:List Nat) (A B:Option Addr) (n c m d:Nat) (w:World) (ha:Rd .u64 w A n la) (hb:Rd .u64 w B m lb) (La:Lim B64 la) (Lb:Lim B64 lb)
 (hnc:n≤c) (hmd:m≤d) (hn:n≤maxLen) (hm:m≤maxLen) :
 Calls Tryz.prog 51 #[.agg #[.bool s,.slice A n c],.agg #[.bool (!s),.slice B m d]] w fun e w'=>e=.returned (.int .i64 (cmpZ (sgn (iv s (val B64 la))) (sgn (iv (!s) (val B64 lb)))))∧Below w.heap.size w w':=by
 have hne:(s != !s)=true:=by cases s <;> rfl
 go_enter Tryz.func51,Tryz.ntmps51
 go_wp2_with fail
 generalize hW:World.alloc _ _=W
 obtain ⟨hb0,X,Y⟩:=mkbx4_6 hW;clear hW;obtain ⟨c0,c1⟩:=X.all;obtain ⟨d0,d1⟩:=Y.all
 have hx0:Below W.heap.size W W.drew:=(Below.refl _ _).drew
 go_region_held3 (fun w'=>w'.cell? ⟨w.heap.size,0,none⟩=some (.bool s)∧w'.cell? ⟨w.heap.size,1,none⟩=some (.slice A n c)∧w'.cell? ⟨w.heap.size+1,0,none⟩=some (.bool (!s))∧w'.cell? ⟨w.heap.size+1,1,none⟩=some (.slice B m d))
  (first | exact ⟨c0,c1,d0,d1⟩ | exact ⟨X2.c0,X2.c1,Y2.c0,Y2.c1⟩ | exact ⟨X1.c0,X1.c1,Y1.c0,Y1.c1⟩)
  (first
   | (go_at_call 61;(with_reducible refine (sign_any s la _ _ _ _ (ha.below hb0).drew La hn hnc).mono ?_);rintro e w1 ⟨rfl,p4⟩
      have p5:Below W.heap.size W w1:=(Below.refl _ W).drew.trans p4
      have X1:=X.below p5;have Y1:=Y.below p5)
   | (go_at_call 61;(with_reducible refine (sign_any (!s) lb _ _ _ _ ((hb.below hb0).below p5) Lb hm hmd).mono ?_);rintro e w2 ⟨rfl,q4⟩
      have X2:=X1.below q4;have Y2:=Y1.below q4)
   | (go_at_call 94;(with_reducible refine (Tryz.cmp_Compare_int _ _ _).mono ?_);rintro e w3 ⟨rfl,rfl⟩))
 go_wp2
 go_ret
 exact ⟨ret_int (compareInt_cmpZ _ _),hb0.trans ((p5.mono hb0.size).trans (q4.mono (Nat.le_trans hb0.size p5.size)))⟩
theorem cmpZ_sgn (s:Bool) (a b:Nat):cmpZ (sgn (iv s a)) (sgn (iv (!s) b))=cmpZ (iv s a) (iv (!s) b):=by
 cases s <;> simp only [cmpZ,sgn,iv,Bool.not_true,Bool.not_false,if_true,Bool.false_eq_true,if_false] <;> (repeat' split) <;> omega
theorem cmpN_cmpZ_f (a b:Nat):cmpN a b=cmpZ (iv false a) (iv false b):=by
 unfold cmpN cmpZ iv;simp
theorem cmpN_cmpZ_t (a b:Nat):cmpN b a=cmpZ (iv true a) (iv true b):=by
 unfold cmpN cmpZ iv;simp
theorem zcmp_alike (s:Bool) (la lb:List Nat) (A B:Option Addr) (n c m d:Nat) (w:World) (ha:Rd .u64 w A n la) (hb:Rd .u64 w B m lb) (La:Lim B64 la) (Lb:Lim B64 lb)
 (hnc:n≤c) (hmd:m≤d) (hn:n≤maxLen) (hm:m≤maxLen) :
 Calls Tryz.prog 51 #[.agg #[.bool s,.slice A n c],.agg #[.bool s,.slice B m d]] w fun e w'=>e=.returned (.int .i64 (cmpZ (iv s (val B64 la)) (iv s (val B64 lb))))∧Below w.heap.size w w':=by
 have hn1:=Lib.hid hn;have hm1:=Lib.hid hm;clear hn hm
 cases s
 · go_enter Tryz.func51,Tryz.ntmps51
   go_wp2_with fail
   have hb1:Below w.heap.size w _:=((Below.refl w.heap.size w).alloc (Nat.le_refl _) (Obj.cells #[Value.bool false,Value.slice A n c] 25)).alloc (by simp) (Obj.cells #[Value.bool false,Value.slice B m d] 25)
   refine (cmp_any la lb _ _ _ _ _ _ _ (ha.below hb1) (hb.below hb1) La Lb hn1.out hm1.out hnc hmd).mono ?_
   rintro e w' ⟨rfl,q,rfl⟩
   go_wp2
   go_ret
   exact ⟨ret_int (cmpN_cmpZ_f _ _),below_drawn hb1 q⟩
 · go_enter Tryz.func51,Tryz.ntmps51
   go_wp2_with fail
   have hb1:Below w.heap.size w _:=((Below.refl w.heap.size w).alloc (Nat.le_refl _) (Obj.cells #[Value.bool true,Value.slice B m d] 25)).alloc (by simp) (Obj.cells #[Value.bool true,Value.slice A n c] 25)
   refine (cmp_any lb la _ _ _ _ _ _ _ (hb.below hb1) (ha.below hb1) Lb La hm1.out hn1.out hmd hnc).mono ?_
   rintro e w' ⟨rfl,q,rfl⟩
   go_wp2
   go_ret
   exact ⟨ret_int (cmpN_cmpZ_t _ _),below_drawn hb1 q⟩
theorem zcmp_any (s t:Bool) (la lb:List Nat) (A B:Option Addr) (n c m d:Nat) (w:World) (ha:Rd .u64 w A n la) (hb:Rd .u64 w B m lb) (La:Lim B64 la) (Lb:Lim B64 lb)
 (hnc:n≤c) (hmd:m≤d) (hn:n≤maxLen) (hm:m≤maxLen) :
 Calls Tryz.prog 51 #[.agg #[.bool s,.slice A n c],.agg #[.bool t,.slice B m d]] w fun e w'=>e=.returned (.int .i64 (cmpZ (iv s (val B64 la)) (iv t (val B64 lb))))∧Below w.heap.size w w':=by
 by_cases hst:s=t
 · subst hst
   exact zcmp_alike s la lb A B n c m d w ha hb La Lb hnc hmd hn hm
 · have ht:t=!s:=by cases s <;> cases t <;> simp_all
   have:=zcmp_unlike s la lb A B n c m d w ha hb La Lb hnc hmd hn hm
   rw [cmpZ_sgn] at this;rw [ht]
   exact this
end
section
open Go.RowKit
def GivesQZ (w:World) (q r:Int) (e:Ending) (w':World):Prop :=
 ∃ A n c A' n' c',e=.returned (.tuple #[.agg #[.bool (decide (q < 0)),.slice A n c],.agg #[.bool (decide (r < 0)),.slice A' n' c'],.int .i64 0])∧n≤c∧c≤maxLen∧n'≤c'∧c'≤maxLen ∧
  Fr .u64 74 w' w.heap.size A n c (limbs B64 q.natAbs)∧Fr .u64 74 w' w.heap.size A' n' c' (limbs B64 r.natAbs)∧Below w.heap.size w w'
theorem Bx.other {W:World} {g k:Nat} {x y:Value} (h:Bx W g x y) (hne:g ≠ k) (u v:Value):Bx ((W.setCell ⟨k,0,none⟩ u).setCell ⟨k,1,none⟩ v) g x y:=by
 unfold Bx at h ⊢
 rw [Below.heap_setCell _ _ _ _ hne,Below.heap_setCell _ _ _ _ hne]
 exact h
end
section
open Go.RowKit
def ZR (w:World) (s:Bool) (A:Option Addr) (n c:Nat) (v:Int) (k:Nat):Prop :=
 ∃ l,Rd .u64 w A n l∧Lim B64 l∧iv s (val B64 l)=v∧n≤c∧n≤k∧v.natAbs < B64 ^ k
section
variable {w w':World} {s:Bool} {A:Option Addr} {n c k:Nat} {v:Int}
theorem ZR.below (h:ZR w s A n c v k) (hb:Below w.heap.size w w'):ZR w' s A n c v k:=by
 obtain ⟨l,h1,h2⟩:=h;exact ⟨l,h1.below hb,h2⟩
theorem ZR.drew (h:ZR w s A n c v k):ZR w.drew s A n c v k:=by
 obtain ⟨l,h1,h2⟩:=h;exact ⟨l,h1.drew,h2⟩
theorem ZR.drewN (h:ZR w s A n c v k) (q:Nat):ZR (w.drewN q) s A n c v k:=by
 obtain ⟨l,h1,h2⟩:=h;exact ⟨l,h1.drewN q,h2⟩
theorem ZR.of_rd {l:List Nat} (h:Rd .u64 w A n l) (hL:Lim B64 l) (hnc:n≤c) (hk:n≤k):ZR w s A n c (iv s (val B64 l)) k :=
 ⟨l,h,hL,rfl,hnc,hk,by rw [iv_natAbs];have:=val_lt hL;rw [h.1] at this;exact Nat.lt_of_lt_of_le this (Nat.pow_le_pow_right (by decide) hk)⟩
theorem ZR.of_fr {Bb:Nat} (h:Fr .u64 74 w Bb A n c (limbs B64 v.natAbs)) (hnc:n≤c) (hk:v.natAbs < B64 ^ k):ZR w (decide (v < 0)) A n c v k:=by
 refine ⟨_,h.rd,lim_limbs B64_two _,?_,hnc,?_,hk⟩
 · rw [val_limbs B64_two]
   unfold iv
   by_cases hv:v < 0
   · simp [hv];omega
   · simp [hv];omega
 · rw [← h.1];exact length_limbs_le B64_two hk
end
def GivesZ (w:World) (v:Int) (k:Nat) (e:Ending) (w':World):Prop :=
 ∃ s A n c,e=.returned (.agg #[.bool s,.slice A n c])∧ZR w' s A n c v k∧Below w.heap.size w w'
theorem GivesI.z {v:Int} {k:Nat} (hk:v.natAbs < B64 ^ k) {e:Ending} {w':World} (h:GivesI w v e w'):GivesZ w v k e w':=by
 obtain ⟨A,n,c,rfl,h1,h2,h3,h4⟩:=h
 exact ⟨_,A,n,c,rfl,ZR.of_fr h3 h1 hk,h4⟩
theorem pow_sum {k1 k2 k a b:Nat} (ha:a < B64 ^ k1) (hb:b < B64 ^ k2) (h1:k1+1≤k) (h2:k2+1≤k):a+b < B64 ^ k:=by
 have e1:=Nat.pow_le_pow_right (n:=B64) (by decide) (show k1≤k - 1 by omega)
 have e2:=Nat.pow_le_pow_right (n:=B64) (by decide) (show k2≤k - 1 by omega)
 have e3:B64 ^ k=B64 ^ (k - 1)*B64:=by rw [← Nat.pow_succ];congr 1;omega
 have e4:=Nat.mul_le_mul_left (B64 ^ (k - 1)) B64_two
 omega
section
variable {w:World} {s t:Bool} {A B:Option Addr} {n c m d k1 k2:Nat} {v u:Int}
theorem zadd_zr (k:Nat) (X:ZR w s A n c v k1) (Y:ZR w t B m d u k2) (h1:k1+1≤k) (h2:k2+1≤k) (hk:k≤200000) :
 Calls Tryz.prog 101 #[.agg #[.bool s,.slice A n c],.agg #[.bool t,.slice B m d]] w (GivesZ w (v+u) k):=by
 obtain ⟨la,a1,a2,rfl,a4,a5,a6⟩:=X
 obtain ⟨lb,b1,b2,rfl,b4,b5,b6⟩:=Y
 refine (zadd_any s t la lb A B n c m d w a1 b1 a2 b2 a4 b4 (by omega)).mono fun e w' h=>h.z ?_
 have:=pow_sum a6 b6 h1 h2
 omega
theorem zsub_zr (k:Nat) (X:ZR w s A n c v k1) (Y:ZR w t B m d u k2) (h1:k1+1≤k) (h2:k2+1≤k) (hk:k≤200000) :
 Calls Tryz.prog 148 #[.agg #[.bool s,.slice A n c],.agg #[.bool t,.slice B m d]] w (GivesZ w (v - u) k):=by
 obtain ⟨la,a1,a2,rfl,a4,a5,a6⟩:=X
 obtain ⟨lb,b1,b2,rfl,b4,b5,b6⟩:=Y
 refine (zsub_any s t la lb A B n c m d w a1 b1 a2 b2 a4 b4 (by omega)).mono fun e w' h=>h.z ?_
 have:=pow_sum a6 b6 h1 h2
 omega
theorem zmul_zr (k:Nat) (X:ZR w s A n c v k1) (Y:ZR w t B m d u k2) (h1:k1+k2≤k) (hk:k≤200000) (_h40:k1≤400000 ∨ k2≤400000) :
 Calls Tryz.prog 52 #[.agg #[.bool s,.slice A n c],.agg #[.bool t,.slice B m d]] w (GivesZ w (v*u) k):=by
 obtain ⟨la,a1,a2,rfl,a4,a5,a6⟩:=X
 obtain ⟨lb,b1,b2,rfl,b4,b5,b6⟩:=Y
 have:=zmul_any s t la lb A B n c m d w a1 b1 a2 b2 a4 b4 (by omega)
 rw [iv_mul] at this
 refine this.mono fun e w' h=>h.z ?_
 rw [Int.natAbs_mul]
 exact Nat.lt_of_lt_of_le (Nat.mul_lt_mul'' a6 b6) (by rw [← Nat.pow_add];exact Nat.pow_le_pow_right (by decide) h1)
theorem zcmp_zr (X:ZR w s A n c v k1) (Y:ZR w t B m d u k2) (hk:k1+k2≤400000) :
 Calls Tryz.prog 51 #[.agg #[.bool s,.slice A n c],.agg #[.bool t,.slice B m d]] w fun e w'=>e=.returned (.int .i64 (cmpZ v u))∧Below w.heap.size w w':=by
 obtain ⟨la,a1,a2,rfl,a4,a5,a6⟩:=X
 obtain ⟨lb,b1,b2,rfl,b4,b5,b6⟩:=Y
 exact zcmp_any s t la lb A B n c m d w a1 b1 a2 b2 a4 b4 (by unfold maxLen;omega) (by unfold maxLen;omega)
theorem cmpZ_self (v:Int):cmpZ v v=0:=by simp [cmpZ]
theorem sign_zr (X:ZR w s A n c v k1) (hk:k1≤200000) :
 Calls Tryz.prog 61 #[.agg #[.bool s,.slice A n c]] w fun e w'=>e=.returned (.int .i64 (sgn v))∧Below w.heap.size w w':=by
 obtain ⟨la,a1,a2,rfl,a4,a5,a6⟩:=X
 exact sign_any s la A n c w a1 a2 (by unfold maxLen;omega) a4
theorem ztext_zr (X:ZR w s A n c v k1) (hk:k1≤78) :
 Calls Tryz.prog 65 #[.agg #[.bool s,.slice A n c]] w fun e w'=>e=.returned (.string ⟨(ztxt v).toArray⟩)∧Below w.heap.size w w':=by
 obtain ⟨la,a1,a2,rfl,a4,a5,a6⟩:=X
 exact ztext_any s la A n c w a1 a2 (by omega) a4
theorem zof_zr (v:Int) (h1:-9223372036854775808≤v) (h2:v < 9223372036854775808) (w:World):Calls Tryz.prog 47 #[.int .i64 v] w (GivesZ w v 1) :=
 (zof_any v h1 h2 w).mono fun e w' h=>h.z (by rw [Nat.pow_one];unfold B64;omega)
end
def GivesZQ (w:World) (q r:Int) (k1 k2:Nat) (e:Ending) (w':World):Prop :=
 ∃ s A n c t B m d,e=.returned (.tuple #[.agg #[.bool s,.slice A n c],.agg #[.bool t,.slice B m d],.int .i64 0])∧ZR w' s A n c q k1∧ZR w' t B m d r k2∧Below w.heap.size w w'∧s=decide (q < 0)∧Rd .u64 w' A n (limbs B64 q.natAbs)∧n≤maxLen
theorem GivesQZ.z {q r:Int} {k1 k2:Nat} (h1:q.natAbs < B64 ^ k1) (h2:r.natAbs < B64 ^ k2) {e:Ending} {w':World} (h:GivesQZ w q r e w'):GivesZQ w q r k1 k2 e w':=by
 obtain ⟨A,n,c,A',n',c',rfl,p1,p2,p3,p4,p5,p6,p7⟩:=h
 exact ⟨_,A,n,c,_,A',n',c',rfl,ZR.of_fr p5 p1 h1,ZR.of_fr p6 p3 h2,p7,rfl,p5.rd,Nat.le_trans p1 p2⟩
end
section
def den1 (q:Nat):Nat:=if q=0 then 1 else q
theorem den1_ne (q:Nat):den1 q ≠ 0:=by unfold den1;split <;> omega
theorem den1_of {q:Nat} (h:q ≠ 0):den1 q=q:=by unfold den1;rw [if_neg h]
theorem mk_add {p r:Int} {q s:Nat} (hq:q ≠ 0) (hs:s ≠ 0):mkRat p q+mkRat r s=mkRat (p*(s:Int)+r*(q:Int)) (q*s):=Rat.mkRat_add_mkRat p r hq hs
theorem mk_add_same {p r:Int} {q:Nat} (hq:q ≠ 0):mkRat p q+mkRat r q=mkRat (p+r) q:=by
 rw [Rat.mkRat_add_mkRat p r hq hq,← Int.add_mul,Rat.mkRat_mul_right hq]
theorem mk_neg (p:Int) (q:Nat):-mkRat p q=mkRat (-p) q:=Rat.neg_mkRat p q
theorem mk_sub {p r:Int} {q s:Nat} (hq:q ≠ 0) (hs:s ≠ 0):mkRat p q - mkRat r s=mkRat (p*(s:Int) - r*(q:Int)) (q*s):=by
 rw [Rat.sub_eq_add_neg,mk_neg,mk_add hq hs,Int.neg_mul,← Int.sub_eq_add_neg]
theorem mk_sub_same {p r:Int} {q:Nat} (hq:q ≠ 0):mkRat p q - mkRat r q=mkRat (p - r) q:=by
 rw [Rat.sub_eq_add_neg,mk_neg,mk_add_same hq,← Int.sub_eq_add_neg]
theorem mk_mul (p r:Int) (q s:Nat):mkRat p q*mkRat r s=mkRat (p*r) (q*s):=Rat.mkRat_mul_mkRat p r q s
theorem mk_div (p r:Int) (q s:Nat):mkRat p q / mkRat r s=Rat.divInt (p*(s:Int)) ((q:Int)*r):=by
 rw [Rat.div_def,← Rat.divInt_ofNat,← Rat.divInt_ofNat,Rat.inv_divInt,Rat.divInt_mul_divInt]
theorem mk_nonneg {p:Int} {q:Nat} (hq:q ≠ 0):0≤mkRat p q ↔ 0≤p:=by
 rw [← Rat.divInt_ofNat];exact Rat.divInt_nonneg_iff_of_pos_right (by omega)
theorem mk_le {p r:Int} {q s:Nat} (hq:q ≠ 0) (hs:s ≠ 0):mkRat p q≤mkRat r s ↔ p*(s:Int)≤r*(q:Int):=by
 rw [Rat.le_iff_sub_nonneg,mk_sub hs hq,mk_nonneg (Nat.mul_ne_zero hs hq)]
 omega
theorem mk_lt {p r:Int} {q s:Nat} (hq:q ≠ 0) (hs:s ≠ 0):mkRat p q < mkRat r s ↔ p*(s:Int) < r*(q:Int):=by
 rw [← Rat.not_le,mk_le hs hq];omega
theorem mk_negv {p:Int} {q:Nat} (hq:q ≠ 0):mkRat p q < 0 ↔ p < 0:=by
 rw [← Rat.not_le,mk_nonneg hq];omega
theorem mk_zero {p:Int} {q:Nat} (hq:q ≠ 0):mkRat p q=0 ↔ p=0:=Rat.mkRat_eq_zero hq
theorem num_neg_iff (v:Rat):v.num < 0 ↔ v < 0:=by
 rw [← Rat.not_le,← Rat.num_nonneg];omega
def cmpQ (v u:Rat):Int:=if v < u then -1 else if u < v then 1 else 0
def sgnQ (v:Rat):Int:=if v < 0 then -1 else if v=0 then 0 else 1
theorem cmpQ_mk {p r:Int} {q s:Nat} (hq:q ≠ 0) (hs:s ≠ 0):cmpQ (mkRat p q) (mkRat r s)=cmpZ (p*(s:Int)) (r*(q:Int)):=by
 unfold cmpQ cmpZ
 simp only [mk_lt hq hs,mk_lt hs hq]
theorem cmpQ_same {p r:Int} {q:Nat} (hq:q ≠ 0):cmpQ (mkRat p q) (mkRat r q)=cmpZ p r:=by
 rw [cmpQ_mk hq hq]
 have h:(0:Int) < (q:Int):=by omega
 unfold cmpZ
 simp only [Int.mul_lt_mul_right h]
theorem sgnQ_mk {p:Int} {q:Nat} (hq:q ≠ 0):sgnQ (mkRat p q)=sgn p:=by
 unfold sgnQ sgn
 simp only [mk_negv hq,mk_zero hq]
theorem div_den {p q:Int} (hq:q ≠ 0):(Rat.divInt p q).den=q.natAbs / Nat.gcd p.natAbs q.natAbs:=by
 rw [Rat.den_divInt,if_neg hq,Int.gcd,Nat.gcd_comm]
theorem div_num {p q:Int} (hq:q ≠ 0):(Rat.divInt p q).num.natAbs=p.natAbs / Nat.gcd p.natAbs q.natAbs:=by
 rw [Rat.num_divInt,Int.gcd,Nat.gcd_comm q.natAbs]
 rw [Int.natAbs_ediv_of_dvd,Int.natAbs_mul,Int.natAbs_sign_of_ne_zero hq,Nat.one_mul,Int.natAbs_natCast]
 have h1:=Nat.gcd_dvd_left p.natAbs q.natAbs
 have h2:((Nat.gcd p.natAbs q.natAbs:Nat):Int) ∣ p:=Int.ofNat_dvd_left.2 h1
 exact Int.dvd_trans h2 (Int.dvd_mul_left _ _)
theorem div_mk {s t:Bool} {a b:Nat}:Rat.divInt (iv s a) (iv t b)=mkRat (iv (s != t) a) b:=by
 rw [← Rat.divInt_ofNat]
 cases s <;> cases t <;> simp [iv,Rat.neg_divInt_neg]
 · rw [Rat.divInt_neg',Rat.divInt_ofNat]
theorem div_neg {s t:Bool} {a b:Nat} (hb:b ≠ 0):decide ((Rat.divInt (iv s a) (iv t b)).num < 0)=((s != t) && decide (0 < a / Nat.gcd a b)):=by
 have hg:0 < Nat.gcd a b:=Nat.gcd_pos_of_pos_right _ (by omega)
 have h2:0 < a / Nat.gcd a b ↔ 0 < a:=by
  constructor
  · intro h;rcases Nat.eq_zero_or_pos a with h' | h'
    · subst h';simp at h
    · exact h'
  · intro h;exact Nat.div_pos (Nat.gcd_le_left _ h) hg
 rw [Bool.eq_iff_iff,decide_eq_true_iff,num_neg_iff,div_mk,mk_negv hb,Bool.and_eq_true,decide_eq_true_iff,h2]
 cases s <;> cases t <;> simp [iv]
theorem bl_is0 (V:Nat):(((bl V:Nat):Int) == 0)=decide (V=0):=by
 by_cases h:V=0
 · subst h;rw [bl_zero];rfl
 · have:=bl_pos h
   rw [decide_eq_false h];simp;omega
theorem bl_is1 (V:Nat):(((bl V:Nat):Int) == 1)=decide (V=1):=by
 by_cases h:V=1
 · subst h;rw [show bl 1=1 from bl_eq (k:=0) (by decide) (by decide)];rfl
 · rw [decide_eq_false h]
   by_cases h0:V=0
   · subst h0;rw [bl_zero];rfl
   · have h1:=bl_mono (show 2≤V by omega)
     rw [show bl 2=2 from bl_eq (k:=1) (by decide) (by decide)] at h1
     simp;omega
end
section
open Go.RowKit
theorem rtrim_any (l:List Nat) (A:Option Addr) (n c:Nat) (w:World) (h:Rd .u32 w A n l) (hL:Lim B32 l) (hn:n≤maxLen) (hnc:n≤c) :
 Calls Tryz.prog 73 #[.slice A n c] w fun e w'=>(∃ k,k≤n∧e=.returned (.slice A k c)∧limbs B32 (val B32 l)=l.take k∧Rd .u32 w A k (limbs B32 (val B32 l)))∧w=w':=by
 unfold maxLen at hn
 have hlen:=h.1
 have fin:∀ k,k≤n→Above0 l k→(∀ x,0 < k→l[k - 1]?=some x→x ≠ 0)→limbs B32 (val B32 l)=l.take k∧Rd .u32 w A k (limbs B32 (val B32 l)):=by
  intro k hk h0 hx
  rw [← trimmed B32_two hL (by omega) h0 hx]
  exact ⟨rfl,h.take hk⟩
 have HL:=Lib.hid hlen;clear hlen
 go_enter Tryz.func73,Tryz.ntmps73
 go_wp2
 go_loop [3] (fun a=>∃ k:Nat,k≤n∧Above0 l k∧a=.int .i64 k) (fun a=>(intOf a).toNat)
 case atStart=>exact ⟨n,Nat.le_refl _,fun j x hj hx=>absurd (List.getElem?_eq_some_iff.1 hx).1 (by have:=HL.out;omega),rfl⟩
 case round =>
  obtain ⟨k,hk,h0,rfl⟩:=hrel
  have hkc:(k:Int)≤(c:Int):=by omega
  by_cases hk0:0 < k
  · obtain ⟨b,o,rfl,hc⟩:=h.at_ (by omega)
    obtain ⟨x,hx,hcx⟩:=hc (k - 1) (by omega)
    go_wp2
    · go_round
      case rel =>
       have hx0 : x = 0 := by have hq : ((x : Int) == 0) = true := by assumption
                              simpa using hq
       subst hx0
       exact ⟨k - 1,by omega,h0.down hk0 hx,by go_num⟩
      case measure=>simp [intOf];omega
    · have hx0 : x ≠ 0 := by have hq : ((x : Int) == 0) = false := by assumption
                             simpa using hq
      go_ret
      exact ⟨⟨k,hk,rfl,fin k hk h0 (fun y _ hy=>by rw [hx] at hy;cases hy;exact hx0)⟩,rfl⟩
  · obtain rfl:k=0:=by omega
    go_wp2
    go_ret
    exact ⟨⟨0,hk,rfl,fin 0 hk h0 (fun y hy _=>absurd hy (by omega))⟩,rfl⟩
theorem rcmp_of_length {a b:Nat} (h:(limbs B32 a).length < (limbs B32 b).length):a < b :=
 Nat.lt_of_lt_of_le (lt_pow_limbs B32_two a) (pow_le_of_length B32_two h)
theorem rcmp_any (U V:Nat) (A B:Option Addr) (k c k2 d:Nat) (w:World) (hka:Rd .u32 w A k (limbs B32 U)) (hkb:Rd .u32 w B k2 (limbs B32 V)) (hk:k≤maxLen) :
 Calls Tryz.prog 107 #[.slice A k c,.slice B k2 d] w fun e w'=>e=.returned (.int .i64 (cmpN U V))∧∃ q,w'=w.drewN q:=by
 unfold maxLen at hk
 by_cases hne:k=k2
 · subst hne
   generalize hX:limbs B32 U=xs at hka
   generalize hY:limbs B32 V=ys at hkb
   have LX:Lim B32 xs:=by rw [← hX];exact lim_limbs B32_two _
   have LY:Lim B32 ys:=by rw [← hY];exact lim_limbs B32_two _
   have vX:Hid (val B32 xs=U):=by show _=_;rw [← hX,val_limbs B32_two]
   have vY:Hid (val B32 ys=V):=by show _=_;rw [← hY,val_limbs B32_two]
   clear hX hY
   go_enter Tryz.func107,Tryz.ntmps107
   go_wp2_with fail
   go_loopw [5] (fun i wr=>∃ j:Nat,j≤k∧i=.int .i64 ((j:Int) - 1)∧(∀ t,j≤t→xs[t]?=ys[t]?)∧∃ q,wr=w.drewN q) (fun i _=>(intOf i+1).toNat)
   case atStart =>
    refine ⟨k,Nat.le_refl _,by go_num,fun t ht=>?_,0,rfl⟩
    rw [List.getElem?_eq_none (by have:=hka.1;omega),List.getElem?_eq_none (by have:=hkb.1;omega)]
   case round =>
    obtain ⟨j,hj,rfl,heq,q,rfl⟩:=hrel
    by_cases hj0:0 < j
    · obtain ⟨b,o,rfl,hc⟩:=hka.at_ (by omega)
      obtain ⟨x,hx,hcx⟩:=hc (j - 1) (by omega)
      obtain ⟨b',o',rfl,hc'⟩:=hkb.at_ (by omega)
      obtain ⟨y,hy,hcy⟩:=hc' (j - 1) (by omega)
      have HQ:=Lib.hid heq;have Hx:=Lib.hid hx;have Hy:=Lib.hid hy
      have hl:Hid (xs.length=ys.length):=by show _=_;have:=hka.1;have:=hkb.1;omega
      have heq2:Hid (∀ t,j - 1 < t→xs[t]?=ys[t]?):=fun t ht=>HQ.out t (by omega)
      clear heq hx hy hc hc'
      rcases Nat.lt_trichotomy x y with hlt | hxy | hgt
      · have hn1:((x:Int) != (y:Int))=true:=by simp;omega
        go_wp2_with fail
        go_quiet (fail)
        go_wp2_with fail
        go_quiet (fail)
        go_wp2_with fail
        go_ret
        refine ⟨ret_int ?_,drewN3 _ _ _ _⟩
        rw [← vX.out,← vY.out,cmpN_lt (val_lt_of LX hl.out Hx.out Hy.out hlt heq2.out)]
      · subst hxy
        go_wp2_with fail
        go_quiet (fail)
        go_wp2_with fail
        go_roundw
        case rel =>
         refine ⟨j - 1,by omega,by go_num,fun t ht=>?_,_,rfl⟩
         by_cases htj:t=j - 1
         · rw [htj,Hx.out,Hy.out]
         · exact HQ.out t (by omega)
        case measure=>simp [intOf];omega
      · have hn1:((x:Int) != (y:Int))=true:=by simp;omega
        go_wp2_with fail
        go_quiet (fail)
        go_wp2_with fail
        go_quiet (fail)
        go_wp2_with fail
        go_ret
        refine ⟨ret_int ?_,drewN3 _ _ _ _⟩
        rw [← vX.out,← vY.out,cmpN_gt (val_lt_of LY hl.out.symm Hy.out Hx.out hgt (fun t ht=>(heq2.out t ht).symm))]
    · go_wp2_with fail
      go_ret
      refine ⟨ret_int ?_,q,rfl⟩
      rw [← vX.out,← vY.out,cmpN_eq]
      congr 1
      apply List.ext_getElem?
      intro t
      exact heq t (by omega)
 · have hn1:((k:Int) != (k2:Int))=true:=by simp;omega
   have hl1:=hka.1;have hl2:=hkb.1
   rcases Nat.lt_or_ge k k2 with h1 | h1
   · have HC:Hid (cmpN U V=-1):=cmpN_lt (rcmp_of_length (by omega))
     clear hl1 hl2 hne
     go_enter Tryz.func107,Tryz.ntmps107
     go_wp2_with fail
     go_ret
     exact ⟨ret_int HC.out.symm,0,rfl⟩
   · have HC:Hid (cmpN U V=1):=cmpN_gt (rcmp_of_length (by omega))
     clear hl1 hl2 hne
     go_enter Tryz.func107,Tryz.ntmps107
     go_wp2_with fail
     go_ret
     exact ⟨ret_int HC.out.symm,0,rfl⟩
end
section
open Go.RowKit
theorem info_u32:(Tryz.prog.info? 113).map (fun i=>(i.zero,i.size,i.bytes))=some (some (.int .u32 0),1,4):=by kernel_rfl
theorem wpList_appendR (K:IntKind) (T E:TypeId) (bytes:Nat) (z:Value) (hz1:z.cells.size=1) (ht:Tryz.prog.underlying T=some (.slice E)) (hinfo:(Tryz.prog.info? E).map (fun i=>(i.zero,i.size,i.bytes))=some (some z,1,bytes)) (hby:bytes≤8)
 (w:World) {ops:Array Oper} {rest:List Oper} {o:Oper} {a:Act} {Q:Exit→Act→World→Prop} (hgd:o.guard=none) (s x:Operand)
 (ho:o.op=.call ⟨.builtin .append,#[s,x],#[T,T]⟩)
 (B:Nat) (A:Option Addr) (n c:Nat) (l:List Nat) (hs:a.eval s=.slice A n c) (hfr:Fr K E w B A n c l) (hnc:n≤c) (hcm:c≤maxLen) (X:Option Addr) (m d:Nat) (ys:List Nat) (hx:a.eval x=.slice X m d) (hX:X=none→d=0) (hr:Rd K w X m ys)
 (hn:n+m≤17592186044415) (hB:B≤w.heap.size)
 (h:∀ A' c' w',Fr K E w' B A' (n+m) c' (l ++ ys)→n+m≤c'→c'≤maxLen→Below B w w'→w.grownBy w' (Value.slice A n c).ownBlock→wpList Tryz.prog ops Q rest (a.put o.dst (.slice A' (n+m) c')) w') :
 wpList Tryz.prog ops Q (o :: rest) a w:=by
 obtain ⟨i0,hi,hz0,hzs,hzb⟩:=info_parts hinfo
 cases X with
 | none =>
   obtain rfl:d=0:=hX rfl
   have hm:m=0:=by
    rcases Nat.eq_zero_or_pos m with h0 | h0
    · exact h0
    · obtain ⟨b,o,e,_⟩:=hr.2 h0;cases e
   subst hm
   obtain rfl:ys=[]:=List.eq_nil_of_length_eq_zero hr.1
   refine wpList_append_own_none hgd s x T ho B E i0 1 ht hi _ n (nums K l) hs hfr.2 hx ?_
   have:=h A c w (by simpa using hfr) hnc hcm (Below.refl _ _) (World.grownBy.refl _ _)
   exact this
 | some ad =>
   refine wpList_append_own w hgd s x T ho B E i0 z 1 bytes ht hi hz0 hzs hzb hz1 (by omega) _ n (nums K l) hs hfr.2 ad m d (nums K ys) hx (by rw [length_nums,hr.1,Nat.mul_one]) ?_ (nums_one _ _) (by unfold maxLen;omega) ?_ hB ?_
   · intro j u hu
     rw [nums_get] at hu
     obtain ⟨y,hy,rfl⟩:=Option.map_eq_some_iff.1 hu
     have hj:j < m:=by have:=(List.getElem?_eq_some_iff.1 hy).1;have:=hr.1;omega
     obtain ⟨b,o,e,hc⟩:=hr.2 (by omega)
     cases e
     rw [add_at];exact hc j y hy
   · calc (n + m) * bytes ≤ (n + m) * 8 := Nat.mul_le_mul_left _ hby
       _≤_:=by omega
   · intro v' w' hown hgrow hnil
     have hown':w'.ownsRow B E 1 v' (n+m) (nums K (l ++ ys)):=by rw [nums_append];exact hown
     have hbl:Below B w w':=(Below.refl _ _).grown hgrow hB (fun k hk=>(hfr.2.lt k hk).1)
     obtain ⟨h1,h2⟩:=hown'
     rcases h2 with ⟨h2,h3⟩ | ⟨g2,cap,cur,hv,hg,hh,hc1,hc2,hs2,ht2⟩
     · obtain ⟨h4,h5⟩:=hnil.1 h2
       subst h2
       have e0:n+m=0:=h3
       have:=h none 0 w' ⟨by rw [List.length_append,hfr.1,hr.1],h1,.inl ⟨by rw [e0],e0⟩⟩ (by omega) (Nat.zero_le _) hbl hgrow
       rw [e0] at this
       exact this
     · subst hv
       exact h _ _ w' ⟨by rw [List.length_append,hfr.1,hr.1],h1,.inr ⟨g2,cap,cur,rfl,hg,hh,hc1,hc2,hs2,ht2⟩⟩ hc1 hc2 hbl hgrow
theorem step_appendS (K:IntKind) (T E:TypeId) (bytes:Nat) (z:Value) (hz1:z.cells.size=1) (ht:Tryz.prog.underlying T=some (.slice E)) (hinfo:(Tryz.prog.info? E).map (fun i=>(i.zero,i.size,i.bytes))=some (some z,1,bytes)) (hby:bytes≤8)
 (w:World) {ops:Array Oper} {o:Oper} {a:Act} {G:Act→World→Prop} {Q:Exit→Act→World→Prop} {F:Prop} (hgd:o.guard=none) (s x:Operand)
 (ho:o.op=.call ⟨.builtin .append,#[s,x],#[T,T]⟩)
 (B:Nat) (A:Option Addr) (n c:Nat) (l:List Nat) (hs:a.eval s=.slice A n c) (hfr:Fr K E w B A n c l) (ad:Addr) (m d:Nat) (ys:List Nat) (hx:a.eval x=.slice (some ad) m d) (hr:Rd K w (some ad) m ys) (hm0:0 < m)
 (hn:n+m≤17592186044415) (hB:B≤w.heap.size)
 (h:∀ A' c' w',Fr K E w' B A' (n+m) c' (l ++ ys)→n+m≤c'→c'≤maxLen→Below B w w'→G (a.put o.dst (.slice A' (n+m) c')) w') :
 if Region.wanted o (yielded ops a.tmps)=true then Oper.wp Tryz.prog o a w G Q else F:=by
 have hw:Region.wanted o (yielded ops a.tmps)=true:=by simp [Region.wanted,hgd]
 rw [if_pos hw]
 obtain ⟨i0,hi,hz0,hzs,hzb⟩:=info_parts hinfo
 refine wp_append_own w s x T ho B E i0 z 1 bytes ht hi hz0 hzs hzb hz1 (by omega) _ n (nums K l) hs hfr.2 ad m d (nums K ys) hx (by rw [length_nums,hr.1,Nat.mul_one]) ?_ (nums_one _ _) (by unfold maxLen;omega) ?_ hB ?_
 · intro j u hu
   rw [nums_get] at hu
   obtain ⟨y,hy,rfl⟩:=Option.map_eq_some_iff.1 hu
   obtain ⟨b,o,e,hc⟩:=hr.2 (by omega)
   cases e
   rw [add_at];exact hc j y hy
 · calc (n + m) * bytes ≤ (n + m) * 8 := Nat.mul_le_mul_left _ hby
     _≤_:=by omega
 · intro v' w' hown hgrow hnil
   have hown':w'.ownsRow B E 1 v' (n+m) (nums K (l ++ ys)):=by rw [nums_append];exact hown
   have hbl:Below B w w':=(Below.refl _ _).grown hgrow hB (fun k hk=>(hfr.2.lt k hk).1)
   obtain ⟨h1,h2⟩:=hown'
   rcases h2 with ⟨h2,h3⟩ | ⟨g2,cap,cur,hv,hg,hh,hc1,hc2,hs2,ht2⟩
   · omega
   · subst hv
     exact h _ _ w' ⟨by rw [List.length_append,hfr.1,hr.1],h1,.inr ⟨g2,cap,cur,rfl,hg,hh,hc1,hc2,hs2,ht2⟩⟩ hc1 hc2 hbl
theorem lit2_rd {K:IntKind} {e:TypeId} (w:World) (L:List Nat) (n:Nat) (hn:L.length=n):Rd K (w.alloc (.cells (nums K L).toArray e)) (some ⟨w.heap.size,0,none⟩) n L :=
 Own.rd (heap_alloc_new w _) hn (fun j x hx=>by rw [Nat.zero_add];exact hx)
theorem wrap32_nat (x:Nat):IntKind.u32.wrap (x:Int)=((x % B32:Nat):Int):=by
 rw [IntKind.wrap_u32,show B32=4294967296 from rfl];omega
theorem wrap32_hi {x:Nat} (hx:x < B64):IntKind.u32.wrap ((x:Int) / 4294967296)=((x / B32:Nat):Int):=by
 have h:x / B32 < B32:=by rw [Nat.div_lt_iff_lt_mul (by decide)];exact hx
 have:=wrap32_nat (x / B32)
 rw [Nat.mod_eq_of_lt h] at this
 exact this
theorem Fr.cut {K:IntKind} {e:TypeId} {B n c k:Nat} {A:Option Addr} {l:List Nat} (h:Fr K e w B A n c l) (hk:k≤n):Fr K e w B A k c (l.take k):=by
 refine ⟨by rw [List.length_take,h.1];omega,by rw [length_nums,List.length_take,h.1];omega,?_⟩
 rcases h.2.2 with ⟨h1,h2⟩ | ⟨g,cap,cur,hv,hg,hh,hc1,hc2,hs,ht⟩
 · injection h1 with ha hb hc
   exact .inl ⟨by rw [ha,hc,show k=0 by omega],by omega⟩
 · injection hv with ha _ hc
   refine .inr ⟨g,cap,cur,by rw [ha,hc],hg,hh,by omega,hc2,hs,?_⟩
   rw [nums_take,← ht,List.take_take,Nat.mul_one,Nat.mul_one,Nat.min_eq_left hk]
def cut32:List Nat→List Nat
 | []=>[]
 | x :: l=>x % B32 :: x / B32 :: cut32 l
theorem cut32_val (l:List Nat):val B32 (cut32 l)=val B64 l:=by
 induction l with
 | nil=>rfl
 | cons x l ih =>
   rw [cut32,val_cons,val_cons,val_cons,ih]
   have h1:=Nat.mod_add_div x B32
   have h2:B64=B32*B32:=rfl
   rw [h2]
   grind
theorem cut32_lim {l:List Nat} (h:Lim B64 l):Lim B32 (cut32 l):=by
 induction l with
 | nil=>exact Lim.nil
 | cons x l ih =>
   refine Lim.cons (Nat.mod_lt _ (by decide)) (Lim.cons ?_ (ih h.tail))
   rw [Nat.div_lt_iff_lt_mul (by decide)];exact h.head
theorem cut32_append (a b:List Nat):cut32 (a ++ b)=cut32 a ++ cut32 b:=by
 induction a with
 | nil=>rfl
 | cons x a ih=>simp [cut32,ih]
theorem rin_any (l:List Nat) (A:Option Addr) (n c:Nat) (w:World) (h:Rd .u64 w A n l) (hL:Lim B64 l) (hn0:n≤1000000) :
 Calls Tryz.prog 34 #[.slice A n c] w (GivesS .u32 113 w (limbs B32 (val B64 l))):=by
 have hn:n≤1000000:=hn0
 have HL:=Lib.hid h.1;clear hn0
 go_enter Tryz.func34,Tryz.ntmps34
 go_wp2_with fail
 go_loopw [3,4] (fun v i wr=>∃ (k c':Nat) (A':Option Addr),k≤n∧i=.int .i64 k∧v=.slice A' (2*k) c'∧2*k≤c'∧Hid (c'≤maxLen)∧Fr .u32 113 wr w.heap.size A' (2*k) c' (cut32 (l.take k))∧Below w.heap.size w wr) (fun _ i _=>n - (intOf i).toNat)
 case atStart=>exact ⟨0,0,none,Nat.zero_le _,rfl,rfl,Nat.le_refl _,by show 0≤maxLen;decide,Fr.nil,Below.refl _ _⟩
 case round =>
  obtain ⟨k,c',A',hk,rfl,rfl,hkc,HC,hfr,hbl⟩:=hrel
  by_cases hlt:k < n
  · have h':=h.below hbl
    obtain ⟨b,o,rfl,hc⟩:=h'.at_ (by omega)
    obtain ⟨x,hx,hcx⟩:=hc k hlt
    have HX:=Lib.hid hx
    obtain ⟨lo,hlo⟩:∃ lo,lo=x % B32:=⟨_,rfl⟩
    obtain ⟨hi,hhi⟩:∃ hi,hi=x / B32:=⟨_,rfl⟩
    have hxB:=hL.get hx
    have e1:IntKind.u32.wrap (x:Int)=(lo:Int):=by rw [hlo];exact wrap32_nat x
    have e2:IntKind.u32.wrap ((x:Int) / 4294967296)=(hi:Int):=by rw [hhi];exact wrap32_hi hxB
    have hfr2:Fr .u32 113 (wr.alloc (.cells #[.int .u32 (lo:Int),.int .u32 (hi:Int)] 113)).drew w.heap.size A' (2*k) c' (cut32 (l.take k)):=by
     have:=hfr.below (B':=wr.heap.size) ((Below.refl wr.heap.size wr).alloc (Nat.le_refl _) (.cells #[.int .u32 (lo:Int),.int .u32 (hi:Int)] 113)) (Nat.le_refl _)
     exact ⟨this.1,this.2⟩
    have hlit:Rd .u32 (wr.alloc (.cells #[.int .u32 (lo:Int),.int .u32 (hi:Int)] 113)).drew (some ⟨wr.heap.size,0,none⟩) 2 [lo,hi]:=(lit2_rd wr [lo,hi] 2 rfl).drew
    have hsz2:w.heap.size≤((wr.alloc (.cells #[.int .u32 (lo:Int),.int .u32 (hi:Int)] 113)).drew).heap.size:=by (have:=hbl.size;simp;omega)
    have HLO:=Lib.hid hlo;have HHI:=Lib.hid hhi;clear hc hx hlo hhi
    go_wp2_with fail
    go_region_law (first
     | (refine step_appendS .u32 39 113 4 (.int .u32 0) rfl Tryz.underlying39 info_u32 (by omega) _ rfl (.tmp 11) (.tmp 23) rfl w.heap.size A' (2*k) c' (cut32 (l.take k)) rfl hfr2 ⟨wr.heap.size,0,none⟩ 2 2 [lo,hi] rfl hlit (by omega) (by omega) hsz2 ?_
        intro A2 c2 w2 p1 p2 p3 p4))
    all_goals
     go_wp2_with fail
     go_roundw
     case rel =>
      have hkl:k < l.length:=by have:=HL.out;omega
      have ht:l.take (k+1)=l.take k ++ [x]:=by rw [List.take_succ_eq_append_getElem hkl,(List.getElem?_eq_some_iff.1 HX.out).2]
      have hc2:cut32 (l.take (k+1))=cut32 (l.take k) ++ [lo,hi]:=by rw [ht,cut32_append,HLO.out,HHI.out];rfl
      refine ⟨k+1,c2,A2,by omega,by go_num,rfl,p2,p3,?_,(show Below w.heap.size w (wr.alloc (.cells #[.int .u32 (lo:Int),.int .u32 (hi:Int)] 113)).drew from (hbl.alloc hbl.size _).drew).trans p4⟩
      rw [hc2];exact p1
     case measure=>simp [intOf];omega
  · obtain rfl:k=n:=by omega
    have hfr3:=hfr
    rw [List.take_of_length_le (by have:=HL.out;omega)] at hfr3
    go_wp2_with (go_at_call 73;refine (rtrim_any (cut32 l) A' (2*k) c' wr hfr3.rd (cut32_lim hL) (by unfold maxLen;omega) hkc).mono ?_;rintro e w' ⟨⟨j,hj,rfl,hj2,hj3⟩,rfl⟩)
    go_ret;have hcut:=hfr3.cut hj
    rw [← hj2,cut32_val] at hcut
    exact ⟨_,_,_,rfl,by omega,HC.out,hcut,hbl⟩
end
section
open Go.RowKit
def join32:List Nat→List Nat
 | []=>[]
 | [x]=>[x]
 | x :: y :: l=>(x+B32*y) :: join32 l
theorem join32_val:∀ l:List Nat,val B64 (join32 l)=val B32 l
 | []=>rfl
 | [x]=>rfl
 | x :: y :: l=>by
   rw [join32,val_cons,val_cons,val_cons,join32_val l]
   have h2:B64=B32*B32:=rfl
   rw [h2];grind
theorem join32_lim:∀ {l:List Nat},Lim B32 l→Lim B64 (join32 l)
 | [],_=>Lim.nil
 | [x],h=>Lim.cons (Nat.lt_trans h.head (by decide)) Lim.nil
 | x :: y :: l,h=>by
   refine Lim.cons ?_ (join32_lim h.tail.tail)
   have h1:=h.head;have h2:=h.tail.head
   have h3:=Nat.mul_le_mul_left B32 (show y+1≤B32 from h2)
   have h4:B64=B32*B32:=rfl
   rw [Nat.mul_add] at h3
   omega
theorem join32_append:∀ (a b:List Nat),a.length % 2=0→join32 (a ++ b)=join32 a ++ join32 b
 | [],_,_=>rfl
 | [x],_,h=>by simp at h
 | x :: y :: a,b,h=>by
   rw [List.cons_append,List.cons_append,join32,join32,join32_append a b (by simp at h;omega)];rfl
theorem join32_length:∀ l:List Nat,(join32 l).length=(l.length+1) / 2
 | []=>by simp [join32]
 | [x]=>by simp [join32]
 | x :: y :: l=>by rw [join32,List.length_cons,join32_length l];simp;omega
theorem join32_limbs (V:Nat):join32 (limbs B32 V)=limbs B64 V:=by
 have hL:=join32_lim (lim_limbs B32_two V)
 have hv:val B64 (join32 (limbs B32 V))=V:=by rw [join32_val,val_limbs B32_two]
 have hlen:(join32 (limbs B32 V)).length=0 ∨ B64 ^ ((join32 (limbs B32 V)).length - 1)≤val B64 (join32 (limbs B32 V)):=by
  rw [hv,join32_length]
  rcases Nat.eq_zero_or_pos (limbs B32 V).length with h | h
  · left;omega
  · right
    have h1:=pow_le_of_length B32_two (n:=V) (k:=(limbs B32 V).length - 1) (by omega)
    refine Nat.le_trans ?_ h1
    rw [show B64=B32 ^ 2 from rfl,← Nat.pow_mul]
    exact Nat.pow_le_pow_right (by decide) (by omega)
 exact (limbs_of_full hL rfl hlen).trans (by rw [hv])
theorem rout_any (l:List Nat) (A:Option Addr) (m c:Nat) (w:World) (h:Rd .u32 w A m l) (hL:Lim B32 l) (hm0:m≤2000000) :
 Calls Tryz.prog 79 #[.slice A m c] w (GivesS .u64 74 w (join32 l)):=by
 have hm:m≤2000000:=hm0
 have HL:=Lib.hid h.1;clear hm0
 go_enter Tryz.func79,Tryz.ntmps79
 go_wp2_with fail
 go_loopw [3,4] (fun v i wr=>∃ (k n' c':Nat) (A':Option Addr),2*k≤m+1∧i=.int .i64 ((2*k:Nat):Int)∧v=.slice A' n' c'∧n'≤k∧n'≤c'∧Hid (c'≤maxLen)∧Fr .u64 74 wr w.heap.size A' n' c' (join32 (l.take (2*k)))∧Below w.heap.size w wr) (fun _ i _=>m+1 - (intOf i).toNat)
 case atStart=>exact ⟨0,0,0,none,by omega,rfl,rfl,Nat.le_refl _,Nat.le_refl _,by show 0≤maxLen;decide,Fr.nil,Below.refl _ _⟩
 case round =>
  obtain ⟨k,n',c',A',hk,rfl,rfl,hnk,hnc,HC,hfr,hbl⟩:=hrel
  obtain ⟨i0,hi0⟩:∃ i0,i0=2*k:=⟨_,rfl⟩
  have hni:n'≤i0:=by omega
  rw [← hi0] at hk hfr ⊢
  by_cases hlt:i0 < m
  · have h':=h.below hbl
    obtain ⟨b,o,rfl,hc⟩:=h'.at_ (by omega)
    obtain ⟨x,hx,hcx⟩:=hc i0 hlt
    have hxB:=hL.get hx
    have hxB':x≤4294967295:=by have:B32=4294967296:=rfl;omega
    have hkl:i0 < l.length:=by have:=HL.out;omega
    have hpar:(l.take i0).length % 2=0:=by rw [List.length_take];omega
    by_cases hlt1:i0+1 < m
    · obtain ⟨y,hy,hcy⟩:=hc (i0+1) hlt1
      have hyB:=hL.get hy
      have hyB':y≤4294967295:=by have:B32=4294967296:=rfl;omega
      obtain ⟨v,hv⟩:∃ v,v=x+B32*y:=⟨_,rfl⟩
      have hve:(x:Int)+(y:Int)*4294967296=(v:Int):=by rw [hv,show B32=4294967296 from rfl];omega
      have hl2:Hid (join32 (l.take (i0+2))=join32 (l.take i0) ++ [v]):=by
       show _=_
       have hkl1:i0+1 < l.length:=by have:=HL.out;omega
       rw [List.take_succ_eq_append_getElem hkl1,List.take_succ_eq_append_getElem hkl,List.append_assoc,join32_append _ _ hpar,(List.getElem?_eq_some_iff.1 hx).2,(List.getElem?_eq_some_iff.1 hy).2,hv]
       rfl
      have hfr2:Fr .u64 74 (wr.alloc (.cells #[.int .u64 (v:Int)] 74)) w.heap.size A' n' c' (join32 (l.take i0)):=hfr.below (B':=wr.heap.size) ((Below.refl _ _).alloc (Nat.le_refl _) _) (Nat.le_refl _)
      have hcell:(wr.alloc (.cells #[.int .u64 (v:Int)] 74)).cell? ⟨wr.heap.size,0,none⟩=some (.int .u64 (v:Int)):=by rw [World.cell?_alloc_new];rfl
      have HCL:=Lib.hid hcell;have HI:=Lib.hid hi0;clear hc hx hy hxB hyB hcell hkl hpar hv hi0
      go_wp2_with (at_builtin;refine wpList_append1 .u64 23 74 8 (.int .u64 0) rfl Tryz.underlying23 info_u64 (by omega) _ rfl (.tmp 31) (.tmp 33) rfl w.heap.size A' n' c' (join32 (l.take i0)) rfl hfr2 wr.heap.size 1 v rfl HCL.out (by omega) (Nat.le_trans hbl.size (by simp)) ?_;intro A2 c2 w2 p1 p2 p3 p4 p5)
      go_roundw
      case rel =>
       have hik:=HI.out
       refine ⟨k+1,n'+1,c2,A2,by omega,by rw [hik];go_num,rfl,by omega,p2,p3,?_,(hbl.alloc hbl.size _).trans p4⟩
       rw [show 2*(k+1)=i0+2 by omega,hl2.out];exact p1
      case measure=>simp [intOf];omega
    · have hl2 : Hid (join32 (l.take (i0 + 2)) = join32 (l.take i0) ++ [x]) := by
        show _=_
        have hkl1:l.length=i0+1:=by have:=HL.out;omega
        have e:l=l.take i0 ++ [x]:=by
         have:=List.take_succ_eq_append_getElem hkl
         rw [(List.getElem?_eq_some_iff.1 hx).2,List.take_of_length_le (by omega)] at this
         exact this
        rw [List.take_of_length_le (by omega)]
        conv=>lhs;rw [e,join32_append _ _ hpar]
        rfl
      have hfr2:Fr .u64 74 (wr.alloc (.cells #[.int .u64 (x:Int)] 74)) w.heap.size A' n' c' (join32 (l.take i0)):=hfr.below (B':=wr.heap.size) ((Below.refl _ _).alloc (Nat.le_refl _) _) (Nat.le_refl _)
      have hcell:(wr.alloc (.cells #[.int .u64 (x:Int)] 74)).cell? ⟨wr.heap.size,0,none⟩=some (.int .u64 (x:Int)):=by rw [World.cell?_alloc_new];rfl
      have HCL:=Lib.hid hcell;have HI:=Lib.hid hi0;clear hc hx hxB hcell hkl hpar hi0
      go_wp2_with (at_builtin;refine wpList_append1 .u64 23 74 8 (.int .u64 0) rfl Tryz.underlying23 info_u64 (by omega) _ rfl (.tmp 31) (.tmp 33) rfl w.heap.size A' n' c' (join32 (l.take i0)) rfl hfr2 wr.heap.size 1 x rfl HCL.out (by omega) (Nat.le_trans hbl.size (by simp)) ?_;intro A2 c2 w2 p1 p2 p3 p4 p5)
      go_roundw
      case rel =>
       have hik:=HI.out
       refine ⟨k+1,n'+1,c2,A2,by omega,by rw [hik];go_num,rfl,by omega,p2,p3,?_,(hbl.alloc hbl.size _).trans p4⟩
       rw [show 2*(k+1)=i0+2 by omega,hl2.out];exact p1
      case measure=>simp [intOf];omega
  · have hle:m≤i0:=by omega
    go_wp2_with fail
    go_ret
    rw [List.take_of_length_le (by have:=HL.out;omega)] at hfr
    exact ⟨_,_,_,rfl,hnc,HC.out,hfr,hbl⟩
end
section
open Go.RowKit
theorem take_past {l:List Nat} {k:Nat} (h:l.length≤k):val B32 (l.take (k+1))=val B32 (l.take k)+B32 ^ k*0:=by
 rw [List.take_of_length_le h,List.take_of_length_le (by omega)];simp
end
section
open Go.RowKit
theorem rsub_step {la lb P:List Nat} {k x z y d t:Nat} (hP:P.length=k) (hx:la[k]?=some x) (hz:val B32 (lb.take (k+1))=val B32 (lb.take k)+B32 ^ k*z)
 (h:val B32 P+val B32 (lb.take k)=val B32 (la.take k)+B32 ^ k*y) (hd:d+(y+z)=x+B32*t) :
 val B32 (P ++ [d])+val B32 (lb.take (k+1))=val B32 (la.take (k+1))+B32 ^ (k+1)*t:=by
 rw [val_snoc,hz,val_take_succ hx,hP,Nat.pow_succ]
 grind
theorem rsub_any (la lb:List Nat) (A B:Option Addr) (n c m d:Nat) (w:World) (ha:Rd .u32 w A n la) (hb:Rd .u32 w B m lb) (La:Lim B32 la) (Lb:Lim B32 lb) (hn0:n≤1000000) (hmn:m≤n) (hle0:val B32 lb≤val B32 la) :
 Calls Tryz.prog 110 #[.slice A n c,.slice B m d] w (GivesS .u32 113 w (limbs B32 (val B32 la - val B32 lb))):=by
 have hnb:n≤1000000:=hn0
 have HLA:=Lib.hid ha.1;have HLB:=Lib.hid hb.1;have HLE:=Lib.hid hle0
 obtain ⟨i0,hi,hz0,hz1,hz2⟩:=info_parts info_u32
 clear hn0 hle0
 go_enter Tryz.func110,Tryz.ntmps110
 go_wp2_with (at_make;refine wpList_make_own _ rfl (.const (.int .i64 0)) (.tmp 11) 39 rfl w.heap.size 113 i0 (.int .u32 0) 1 Tryz.underlying39 hi hz0 hz1 .i64 .i64 _ n rfl rfl rfl (by rw [hz2];omega) (by unfold maxLen;omega) (Nat.le_refl _) ?_;intro w1 hown1 hgrow1)
 have hb1:Below w.heap.size w w1:=(Below.refl _ _).grown hgrow1 (Nat.le_refl _) (by simp)
 have hfr1:Fr .u32 113 w1 w.heap.size (some ⟨w.heap.size,0,none⟩) 0 n []:=⟨rfl,hown1⟩
 go_loopw [5,6,7] (fun v b i wr=>∃ (k y c':Nat) (A':Option Addr) (P:List Nat),k≤n∧y≤1∧i=.int .i64 k∧b=.int .u64 (y:Int)∧v=.slice A' k c'∧k≤c'∧Hid (c'≤maxLen)∧Fr .u32 113 wr w.heap.size A' k c' P∧Below w.heap.size w wr ∧
  Hid (Lim B32 P∧val B32 P+val B32 (lb.take k)=val B32 (la.take k)+B32 ^ k*y)) (fun _ _ i _=>n - (intOf i).toNat)
 case atStart=>exact ⟨0,0,n,_,[],by omega,by omega,rfl,rfl,rfl,by omega,by show n≤maxLen;unfold maxLen;omega,hfr1,hb1,Lim.nil,by simp⟩
 case round =>
  obtain ⟨k,y,c',A',P,hk,hy,rfl,rfl,rfl,hkc,HC,hfr,hbl,HV⟩:=hrel
  by_cases hlt:k < n
  · have ha':=ha.below hbl
    have hb':=hb.below hbl
    obtain ⟨b,o,hA,hc⟩:=ha'.at_ (by omega)
    obtain ⟨x,hx,hcx⟩:=hc k hlt
    obtain ⟨z,hzB,hzt,hzc⟩:∃ z,z < B32∧val B32 (lb.take (k+1))=val B32 (lb.take k)+B32 ^ k*z∧(k < m∧(∃ b o,B=some ⟨b,o,none⟩∧wr.cell? ⟨b,o+k,none⟩=some (.int .u32 (z:Int))) ∨ ¬ k < m∧z=0):=by
     by_cases hkm:k < m
     · obtain ⟨b,o,e,hc⟩:=hb'.at_ (by omega)
       obtain ⟨z,hz,hcz⟩:=hc k hkm
       exact ⟨z,Lb.get hz,val_take_succ hz,.inl ⟨hkm,b,o,e,hcz⟩⟩
     · exact ⟨0,by decide,take_past (by have:=HLB.out;omega),.inr ⟨hkm,rfl⟩⟩
    have hxB:=La.get hx
    have hxB':x≤4294967295:=by have:B32=4294967296:=rfl;omega
    have hzB':z≤4294967295:=by have:B32=4294967296:=rfl;omega
    obtain ⟨t,ht⟩:∃ t,t=if x < y+z then 1 else 0:=⟨_,rfl⟩
    obtain ⟨dd,hdd⟩:∃ dd,dd+(y+z)=x+B32*t:=⟨x+B32*t - (y+z),by rw [show B32=4294967296 from rfl];split at ht <;> omega⟩
    have hddB:dd < B32:=by rw [show B32=4294967296 from rfl] at hdd ⊢;split at ht <;> omega
    have hst:=rsub_step hfr.1 hx hzt HV.out.2 hdd
    have hlim:Lim B32 (P ++ [dd]):=HV.out.1.append (Lim.cons hddB Lim.nil)
    have hfr2:Fr .u32 113 (wr.alloc (.cells #[.int .u32 (dd:Int)] 113)) w.heap.size A' k c' P:=hfr.below (B':=wr.heap.size) ((Below.refl _ _).alloc (Nat.le_refl _) _) (Nat.le_refl _)
    have hcell:(wr.alloc (.cells #[.int .u32 (dd:Int)] 113)).cell? ⟨wr.heap.size,0,none⟩=some (.int .u32 (dd:Int)):=by rw [World.cell?_alloc_new];rfl
    have HCL:=Lib.hid hcell
    have HST:=Lib.hid (And.intro hlim hst)
    have hddI:IntKind.u32.wrap (dd:Int)=(dd:Int):=by have:=wrap32_nat dd;rwa [Nat.mod_eq_of_lt hddB] at this
    rw [show B32=4294967296 from rfl] at hdd
    clear hcell hst hlim hzt hzB hxB hx hc hddB
    rcases hzc with ⟨hkm,b2,o2,hB,hcz⟩ | ⟨hkm,hz0'⟩
    all_goals
     by_cases hlt2:(x:Int) < (y:Int)+(z:Int)
     all_goals
      first
       | (have ht1:t=1:=by (rw [ht,if_pos (by omega)])
          have e1:IntKind.u32.wrap ((x:Int)+4294967296 - ((y:Int)+(z:Int)))=(dd:Int):=by (rw [← hddI];congr 1;omega))
       | (have ht1:t=0:=by (rw [ht,if_neg (by omega)])
          have e1:IntKind.u32.wrap ((x:Int) - ((y:Int)+(z:Int)))=(dd:Int):=by (rw [← hddI];congr 1;omega))
      first
       | (subst hA;subst hB)
       | (subst hA;subst hz0')
      have HDI:=Lib.hid hddI
      subst ht1
      clear ht hdd hddI
      try simp only [Int.natCast_zero,Int.add_zero] at e1 hlt2
      go_wp2_with (at_builtin;refine wpList_append1 .u32 39 113 4 (.int .u32 0) rfl Tryz.underlying39 info_u32 (by omega) _ rfl (.tmp 41) (.tmp 46) rfl w.heap.size A' k c' P rfl hfr2 wr.heap.size 1 dd rfl HCL.out (by omega) (Nat.le_trans hbl.size (by simp)) ?_;intro A2 c2 w2 p1 p2 p3 p4 p5)
      go_roundw
      case rel =>
       first
        | exact ⟨k+1,1,c2,A2,P ++ [dd],by omega,by omega,by go_num,rfl,rfl,p2,p3,p1,(hbl.alloc hbl.size _).trans p4,HST.out.1,HST.out.2⟩
        | exact ⟨k+1,0,c2,A2,P ++ [dd],by omega,by omega,by go_num,rfl,rfl,p2,p3,p1,(hbl.alloc hbl.size _).trans p4,HST.out.1,HST.out.2⟩
      case measure=>simp [intOf];omega
  · obtain rfl:k=n:=by omega
    go_wp2_with (go_at_call 73;refine (rtrim_any P A' k c' wr hfr.rd HV.out.1 (by unfold maxLen;omega) hkc).mono ?_;rintro e w' ⟨⟨j,hj,rfl,hj2,hj3⟩,rfl⟩)
    go_ret;have hv:=HV.out.2
    rw [List.take_of_length_le (l:=lb) (by have:=HLB.out;omega),List.take_of_length_le (l:=la) (by have:=HLA.out;omega)] at hv
    have hPl:=val_lt HV.out.1;rw [hfr.1] at hPl
    have hv2:val B32 P=val B32 la - val B32 lb:=by
     have hle:=HLE.out
     rcases Nat.eq_zero_or_pos y with h0 | h0
     · subst h0;omega
     · have:=Nat.mul_le_mul_left (B32 ^ k) h0
       omega
    have hcut:=hfr.cut hj
    rw [← hj2,hv2] at hcut
    exact ⟨_,_,_,rfl,by omega,HC.out,hcut,hbl⟩
end
section
open Go.RowKit
theorem wpList_make32 (w:World) {ops:Array Oper} {rest:List Oper} {o:Oper} {a:Act} {Q:Exit→Act→World→Prop}
 (hg:o.guard=none) (l c:Operand) (hop:o.op=Op.makeSlice 39 l c) (kl kc:IntKind) (L C:Int) (n:Nat) (hl:a.eval l=.int kl L) (hc:a.eval c=.int kc C)
 (hL:L=(n:Int)) (hC:C=(n:Int)) (hn:n≤35184372088832)
 (hK:∀ w',Own .u32 113 w' w.heap.size (List.replicate n 0)→Below w.heap.size w w'→wpList Tryz.prog ops Q rest (a.put o.dst (.slice (some ⟨w.heap.size,0,none⟩) n n)) w') :
 wpList Tryz.prog ops Q (o :: rest) a w:=by
 obtain ⟨i0,hi,hz0,hz1,hz2⟩:=info_parts info_u32
 refine wpList_make_full w hg l c 39 hop w.heap.size 113 i0 (.int .u32 0) 1 Tryz.underlying39 hi hz0 hz1 kl kc L C n hl hc hL hC (by rw [hz2];omega) (by unfold maxLen;omega) (Nat.le_refl _) ?_
 intro w' hown hgrow
 refine hK w' ?_ ((Below.refl _ _).grown hgrow (Nat.le_refl _) (by simp))
 have e:(madeCells (Value.int .u32 0).cells (n*1)).toList=nums .u32 (List.replicate n 0):=by
  rw [nums_zeros,Nat.mul_one]
  exact toList_madeCells_one _ _
 rw [e] at hown
 exact (Own.of_row hown).1
theorem wrap64_small (n:Nat) (h:n < B64):IntKind.u64.wrap (n:Int)=(n:Int):=by
 have:=wrap_nat n
 rwa [Nat.mod_eq_of_lt h] at this
theorem only_drawn' {g:Nat} {w w':World} (h:Only g w w') (q:Nat):Only g w (w'.drewN q):=⟨h.os,h.tape,h.output,h.size,h.block⟩
theorem rm_expr {u x z y:Nat} (hu:u < B32) (hx:x < B32) (hz:z < B32) (hy:y < B32) :
 IntKind.u64.wrap (IntKind.u64.wrap (IntKind.u64.wrap (u:Int)+IntKind.u64.wrap (IntKind.u64.wrap (x:Int)*IntKind.u64.wrap (z:Int)))+(y:Int))=((u+x*z+y:Nat):Int):=by
 have hb:B32 < B64:=by decide
 have h1:x*z≤(B32 - 1)*(B32 - 1):=Nat.mul_le_mul (by omega) (by omega)
 have h2:(B32 - 1)*(B32 - 1)+(B32 - 1)+(B32 - 1) < B64:=by decide
 rw [wrap64_small u (by omega),wrap64_small x (by omega),wrap64_small z (by omega),← Int.natCast_mul,wrap64_small (x*z) (by omega),← Int.natCast_add,wrap64_small (u+x*z) (by omega),← Int.natCast_add,wrap64_small _ (by omega)]
theorem rm_step {seg lb S:List Nat} {k u x z y:Nat} (hS:S.length=k) (hu:seg[k]?=some u) (hz:lb[k]?=some z) (h:val B32 S+B32 ^ k*y=val B32 (seg.take k)+x*val B32 (lb.take k)) :
 val B32 (S ++ [(u+x*z+y) % B32])+B32 ^ (k+1)*((u+x*z+y) / B32)=val B32 (seg.take (k+1))+x*val B32 (lb.take (k+1)):=by
 have hp:=Nat.mod_add_div (u+x*z+y) B32
 rw [val_snoc,val_take_succ hu,val_take_succ hz,hS,Nat.pow_succ]
 generalize (u+x*z+y) % B32=lo at *
 generalize (u+x*z+y) / B32=hi at *
 grind
theorem rl_step {P S:List Nat} {i m x y:Nat} {la lb:List Nat} (hP:P.length=m+i) (hS:S.length=m) (hx:la[i]?=some x)
 (h:val B32 P=val B32 (la.take i)*val B32 lb) (hs:val B32 S+B32 ^ m*y=val B32 (P.drop i)+x*val B32 lb) :
 val B32 ((P.take i ++ S) ++ [y])=val B32 (la.take (i+1))*val B32 lb:=by
 rw [val_take_succ hx,val_snoc,val_append,List.length_append,List.length_take,Nat.min_eq_left (by omega),hS,Nat.pow_add,Nat.add_mul,← h]
 have hp:=val_take_drop (B:=B32) P i (by omega)
 rw [hp]
 generalize val B32 (P.take i)=p at *
 generalize val B32 (P.drop i)=q at *
 generalize val B32 S=s at *
 generalize val B32 lb=a at *
 generalize B32 ^ i=b at *
 generalize B32 ^ m=c at *
 grind
theorem rm_bound {u x z y:Nat} (hu:u < B32) (hx:x < B32) (hz:z < B32) (hy:y < B32):u+x*z+y < B64∧x*z < B64∧u+x*z < B64∧(u+x*z+y) / B32 < B32:=by
 have h1:x*z≤(B32 - 1)*(B32 - 1):=Nat.mul_le_mul (by omega) (by omega)
 have h2:(B32 - 1)*(B32 - 1)+(B32 - 1)+(B32 - 1) < B64:=by decide
 refine ⟨by omega,by omega,by omega,?_⟩
 rw [Nat.div_lt_iff_lt_mul (by decide),show B32*B32=B64 from rfl];omega
theorem rmul_any (la lb:List Nat) (A B:Option Addr) (n c m d:Nat) (w:World) (ha:Rd .u32 w A n la) (hb:Rd .u32 w B m lb) (La:Lim B32 la) (Lb:Lim B32 lb) (hn0:n≤1000000) (hm0:m≤1000000) :
 Calls Tryz.prog 72 #[.slice A n c,.slice B m d] w (GivesS .u32 113 w (limbs B32 (val B32 la*val B32 lb))):=by
 have hnb:n≤1000000:=hn0
 have hmb:m≤1000000:=hm0
 have HLA:=Lib.hid ha.1;have HLB:=Lib.hid hb.1;clear hn0 hm0
 go_enter Tryz.func72,Tryz.ntmps72
 go_wp2_with (at_make;refine wpList_make32 _ rfl (.tmp 14) (.tmp 14) rfl .i64 .i64 _ _ (n+m) rfl rfl (by omega) (by omega) (by omega) ?_;intro w1 hown1 hb1)
 go_loopw [6] (fun i wr=>∃ (j:Nat) (P:List Nat),j≤n∧i=.int .i64 j∧Hid (P.length=m+j)∧Own .u32 113 wr w.heap.size (P ++ List.replicate (n - j) 0)∧Only w.heap.size w1 wr ∧
  Hid (Lim B32 P∧val B32 P=val B32 (la.take j)*val B32 lb)) (fun i _=>n - (intOf i).toNat)
 case atStart=>exact ⟨0,List.replicate m 0,Nat.zero_le _,rfl,by show _=_;simp,by rw [List.replicate_append_replicate,Nat.sub_zero,Nat.add_comm];exact hown1,Only.refl _ _,Lim.zeros _ (by decide),by rw [val_zeros];simp⟩
 case round =>
  obtain ⟨j,P,hj,rfl,HP,hown,hon,HV⟩:=hrel
  by_cases hlt:j < n
  · have hb2:Below w.heap.size w wr:=Below.only hb1 (Nat.le_refl _) hb1.size hon
    have ha':=ha.below hb2
    obtain ⟨ba,oa,hA,hca⟩:=ha'.at_ (by omega)
    obtain ⟨x,hx,hcx⟩:=hca j hlt
    have hxB:=La.get hx
    have hz0:Seg .u32 113 wr w.heap.size (P.take j) [] (P.drop j) (List.replicate (n - j) 0):=Seg.start (by rw [← List.append_assoc,List.take_append_drop];exact hown)
    have hl1:Hid ((P.take j).length=j):=by show _=_;rw [List.length_take,HP.out];omega
    have hl2:Hid ((P.drop j).length=m):=by show _=_;rw [List.length_drop,HP.out];omega
    have HX:=Lib.hid hx;have HXB:=Lib.hid hxB
    subst hA
    clear hca hx hxB hown hcx
    go_wp2_with fail
    go_loopw [7,8] (fun b i w2=>∃ (k y:Nat) (S:List Nat),k≤m∧i=.int .i64 k∧b=.int .u64 (y:Int)∧Hid (S.length=k)∧Seg .u32 113 w2 w.heap.size (P.take j) S (P.drop j) (List.replicate (n - j) 0)∧Only w.heap.size w1 w2 ∧
     Hid (y < B32∧Lim B32 S∧val B32 S+B32 ^ k*y=val B32 ((P.drop j).take k)+x*val B32 (lb.take k))) (fun _ i _=>m - (intOf i).toNat)
    case atStart=>exact ⟨0,0,[],Nat.zero_le _,rfl,rfl,rfl,hz0,hon,by decide,Lim.nil,by simp⟩
    case round =>
     clear hon
     obtain ⟨k,y,S,hk,rfl,rfl,HSl,hsg,hon,HVV⟩:=hrel
     have hb3:Below w.heap.size w wr:=Below.only hb1 (Nat.le_refl _) hb1.size hon
     by_cases hlt2:k < m
     · obtain ⟨bb,ob,hB,hcb⟩:=(hb.below hb3).at_ (by omega)
       obtain ⟨z,hz,hcz⟩:=hcb k hlt2
       obtain ⟨_,_,hA2,hca⟩:=(ha.below hb3).at_ (by omega)
       cases hA2
       obtain ⟨x2,hx2,hcx⟩:=hca j hlt
       obtain rfl:x2=x:=by have:=HX.out.symm.trans hx2;injection this with this;exact this.symm
       have hks:k < (P.drop j).length:=by have:=hl2.out;omega
       obtain ⟨u,hu⟩:∃ u,(P.drop j)[k]?=some u:=⟨_,List.getElem?_eq_getElem hks⟩
       have hcu:=hsg.cell hl1.out HSl.out hks hu
       have hfz:=Own.frozen hsg (j+k)
       have huB:u < B32:=(HV.out.1.drop j).get hu
       obtain ⟨q1,q2,q3,q4⟩:=rm_bound huB HXB.out (Lb.get hz) HVV.out.1
       have HE:=Lib.hid (rm_expr huB HXB.out (Lb.get hz) HVV.out.1)
       obtain ⟨v,hvv⟩:∃ v,v=u+x2*z+y:=⟨_,rfl⟩
       have hst:=rm_step HSl.out hu hz HVV.out.2.2
       rw [← hvv] at hst q4
       have HVE:=Lib.hid hvv;have HST:=Lib.hid hst;have HHI:=Lib.hid q4;have HKS:=Lib.hid hks
       subst hB
       clear hst hu hz hks hcb hca hx2 huB q1 q2 q3 q4 hvv
       go_wp2_with fail
       go_quiet (fail)
       go_wp2_with fail
       go_roundw
       case rel =>
        have e5:(v:Int) / 4294967296=((v / B32:Nat):Int):=by rw [show B32=4294967296 from rfl];omega
        have e6:(v:Int) % 4294967296=((v % B32:Nat):Int):=by rw [show B32=4294967296 from rfl];omega
        rw [HE.out,← HVE.out,e5,e6]
        exact ⟨k+1,v / B32,S ++ [v % B32],by omega,by go_num,rfl,by show _=_;rw [List.length_append,HSl.out];rfl,Seg.store (w:=wr.drewN nq) hsg hl1.out HSl.out HKS.out _,(only_drawn' hon nq).setCell _ _,HHI.out,HVV.out.2.1.append (Lim.cons (Nat.mod_lt _ (by decide)) Lim.nil),HST.out⟩
       case measure=>simp [intOf];omega
     · obtain rfl:k=m:=by omega
       have fin:=hsg.done (by have:=HSl.out;have:=hl2.out;omega)
       rw [zeros_succ hlt,← List.append_assoc] at fin
       have hQ:(P.take j ++ S).length=j+k:=by rw [List.length_append,hl1.out,HSl.out]
       have hcz:=fin.cell_len hQ
       have hfz:=Own.frozen fin (j+k)
       have HQ:=Lib.hid hQ
       have hyI:IntKind.u32.wrap (y:Int)=(y:Int):=by have:=wrap32_nat y;rwa [Nat.mod_eq_of_lt HVV.out.1] at this
       clear hQ
       go_wp2_with fail
       go_roundw
       case rel =>
        obtain ⟨v1,v2,v3⟩:=HVV.out
        rw [List.take_of_length_le (l:=lb) (by have:=HLB.out;omega),List.take_of_length_le (l:=P.drop j) (by have:=hl2.out;omega)] at v3
        refine ⟨j+1,(P.take j ++ S) ++ [y],by omega,by go_num,?_,fin.store_len HQ.out y,hon.setCell _ _,((HV.out.1.take _).append v2).snoc v1,rl_step HP.out HSl.out HX.out HV.out.2 v3⟩
        show _=_
        rw [List.length_append,HQ.out];simp;omega
       case measure=>simp [intOf];omega
  · obtain rfl:j=n:=by omega
    have hlP:P.length=j+m:=by rw [HP.out];omega
    have hownP:Own .u32 113 wr w.heap.size P:=by simpa using hown
    have hv:=HV.out.2
    rw [List.take_of_length_le (by have:=HLA.out;omega)] at hv
    have HVF:=Lib.hid hv;have HLP:=Lib.hid hlP;clear hv hlP
    go_wp2_with (go_at_call 73;refine (rtrim_any P _ (j+m) (j+m) wr (hownP.rd HLP.out (fun i x hx=>by rw [Nat.zero_add];exact hx)) HV.out.1 (by unfold maxLen;omega) (Nat.le_refl _)).mono ?_;rintro e w' ⟨⟨q,hq,rfl,hj2,hj3⟩,rfl⟩)
    go_ret
    have hfr:=Fr.of_own hownP (B:=w.heap.size) (Nat.le_refl _) (k:=q) (by rw [HLP.out];exact hq) (by rw [HLP.out];unfold maxLen;omega)
    rw [← hj2,HVF.out,HLP.out] at hfr
    exact ⟨_,_,_,rfl,hq,by unfold maxLen;omega,hfr,Below.only hb1 (Nat.le_refl _) hb1.size hon⟩
end
end Go.Proofs.YtlpogecpdfdggaaGreat
