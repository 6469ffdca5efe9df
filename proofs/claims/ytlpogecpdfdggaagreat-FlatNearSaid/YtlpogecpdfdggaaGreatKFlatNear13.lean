/- FlatNear: part 13. -/
import Derived.Deep.WholeRow
import Derived.Test.YtlpogecpdfdggaaGreatKFlatNear9
import Derived.Test.YtlpogecpdfdggaaGreatKFlatNear10
import Derived.Test.YtlpogecpdfdggaaGreatKFlatNear11
import Derived.Test.YtlpogecpdfdggaaGreatKFlatNear12
set_option linter.unusedVariables false
set_option maxRecDepth 100000
set_option maxHeartbeats 16000000
variable {w:Go.World}
variable {s_a:Bool} {A_a B_a:Option Go.Addr} {n_a c_a m_a d_a:Nat}
variable {s_b:Bool} {A_b B_b:Option Go.Addr} {n_b c_b m_b d_b:Nat}
variable {s_q:Bool} {A_q B_q:Option Go.Addr} {n_q c_q m_q d_q:Nat}
namespace Go.Proofs.YtlpogecpdfdggaaGreat
section
open Go Go.RowKit
structure KpS (W W':World):Prop where
 size:W.heap.size≤W'.heap.size
 same:∀ (k o:Nat) (u:Value),W.cell? ⟨k,o,none⟩=some u→(∀ A n c,u ≠ .slice A n c)→W'.heap[k]?=W.heap[k]?
theorem KpS.refl (W:World):KpS W W:=⟨Nat.le_refl _,fun _ _ _ _ _=>rfl⟩
theorem KpS.trans {A B C:World} (h:KpS A B) (k:KpS B C):KpS A C:=⟨Nat.le_trans h.size k.size,fun b o u hu hn =>
 (k.same b o u ((World.cell?_of_block (a:=⟨b,o,none⟩) (h.same b o u hu hn)).trans hu) hn).trans (h.same b o u hu hn)⟩
theorem KpS.below {W W':World} (h:Below W.heap.size W W'):KpS W W':=⟨h.size,fun k o _u hu _=>h.block k (World.block_lt_of_cell? W ⟨k,o,none⟩ hu)⟩
theorem KpS.grown {W W':World} {row:Option Nat} (h:W.grownBy W' row) (hr:∀ r,row=some r→∃ o:Obj,W.heap[r]?=some o∧o.isCells=false):KpS W W':=⟨h.size,fun k o _u hu _=>by
 refine h.block k (World.block_lt_of_cell? W ⟨k,o,none⟩ hu) fun e=>?_
 obtain ⟨x,hx,hc⟩:=hr k e.symm
 unfold World.cell? at hu
 rw [show ({block:=k,off:=o,spot:=none}:Addr).block=k from rfl,hx] at hu
 cases x <;> first | (cases hc;done) | cases hu⟩
theorem KpS.turn (W:World) (l:Nat) (o o':Obj) (h:W.heap[l]?=some o) (hc:o.isCells=false):KpS W (W.putObj l o'):=KpS.grown (grownBy_putObj' W l o') fun r e=>by cases e;exact ⟨o,h,hc⟩
theorem KpS.box {W:World} {g:Nat} {t:TypeId} {A:Option Addr} {n c:Nat} (h:Boxed W g t (.slice A n c)) (u:Value):KpS W (W.setCell ⟨g,0,none⟩ u):=⟨by simp [World.setCell],fun k o x hx hn=>by
 refine Below.heap_setCell _ _ _ _ fun e=>?_
 have e2:k=g:=e
 subst e2
 rw [cell_of_row W k o _ _ (0,0) h] at hx
 match o,hx with
 | 0,hx=>cases hx;exact hn _ _ _ rfl
 | o+1,hx=>cases hx⟩
section
variable {W W':World}
theorem Rd.kp {K:IntKind} {A:Option Addr} {n:Nat} {l:List Nat} (h:Rd K W A n l) (hk:KpS W W'):Rd K W' A n l:=by
 refine h.keep fun hn ad e p hp=>World.cell?_of_block ?_
 obtain ⟨b,o,e2,hx⟩:=h.at_ hn
 obtain ⟨x,_,hc⟩:=hx 0 hn
 rw [e] at e2;cases e2
 rw [hp]
 exact hk.same _ _ _ hc (fun _ _ _ e=>by cases e)
theorem QR.kp {s:Bool} {A B:Option Addr} {n c m d k:Nat} {v:Rat} (h:QR W s A n c B m d v k) (hk:KpS W W'):QR W' s A n c B m d v k:=by
 obtain ⟨p,q,⟨l1,r1,r2⟩,⟨l2,t1,t2⟩,h3⟩:=h
 exact ⟨p,q,⟨l1,r1.kp hk,r2⟩,⟨l2,t1.kp hk,t2⟩,h3⟩
theorem HR.kp {h:HV} {v:AH} {k:Nat} (a:HR W h v k) (hk:KpS W W'):HR W' h v k:=⟨a.1.kp hk,a.2.1.kp hk,a.2.2.kp hk⟩
theorem SV.kp {A:Option Addr} {L:List HV} (h:SV W A (hvs L)) (hk:KpS W W'):SV W' A (hvs L):=fun hn=>by
 obtain ⟨g,o,e,h1,h2⟩:=h hn
 cases L with
 | nil=>exact absurd hn (by simp [hvs])
 | cons p L =>
   have e0:W.cell? ⟨g,o+0,none⟩=some (.bool p.x.s):=h2 0 _ (by rw [hvs_cons];rfl)
   have hs:=hk.same _ _ _ e0 (fun _ _ _ e=>by cases e)
   exact ⟨g,o,e,Nat.lt_of_lt_of_le h1 hk.size,fun j u hu=>(World.cell?_of_block (a:=⟨g,o+j,none⟩) hs).trans (h2 j u hu)⟩
end
structure RowX where
 A:Option Addr
 n:Nat
 c:Nat
 L:List HV
 V:List AH
 k:Nat
def RowX.encs (x:RowX):Array Value:=#[.slice x.A x.n x.c]
def RowX.In (x:RowX) (W:World):Prop:=SV W x.A (hvs x.L)∧EachH HR W x.L x.V x.k∧x.L.length=x.n
theorem RowX.In.kp {x:RowX} {W W':World} (h:x.In W) (hk:KpS W W'):x.In W':=⟨h.1.kp hk,h.2.1.imp fun _ _ hp=>hp.kp hk,h.2.2⟩
theorem RowX.In.below {x:RowX} {W W':World} (h:x.In W) (hb:Below W.heap.size W W'):x.In W':=h.kp (.below hb)
theorem row_own (B:Nat):OwnFrom B RowX.In:=fun _ _ _ _ hs hg hr=>hs.kp (.grown hg fun r e=>(hr r e).2)
def kRow (k t:Nat):Nat→Nat
 | 0=>k
 | n+1=>3*kRow k t n+t+2
theorem kRow_le {k t:Nat}:∀ {m n:Nat},m≤n→kRow k t m≤kRow k t n
 | _,0,h=>by rw [Nat.le_zero.1 h];exact Nat.le_refl _
 | m,n+1,h=>by
   rcases Nat.lt_or_ge n m with q | q
   · rw [show m=n+1 by omega];exact Nat.le_refl _
   · have:=kRow_le (k:=k) (t:=t) (m:=m) (n:=n) q
     show _≤3*kRow k t n+t+2
     omega
theorem kRow_pos {k t n:Nat} (h:1≤k):1≤kRow k t n:=Nat.le_trans h (kRow_le (m:=0) (Nat.zero_le n))
def LastRow (t:Rat) (V:List AH) (kt k:Nat) (xs:List RowX) (W:World):Prop:=∃ x:RowX,xs.getLast?=some x∧x.In W∧x.V=rowN t (V.length - 1) V∧x.k=kRow k kt (V.length - 1)
theorem last_own (t:Rat) (V:List AH) (kt k B:Nat):OwnFrom B (LastRow t V kt k):=fun _ W W' row ⟨x,h1,h2,h3⟩ hg hr=>⟨x,h1,row_own B x W W' row h2 hg hr,h3⟩
end
section
open Go Go.RowKit
def EachQ (w:World) (L:List QV) (l:List Rat) (k:Nat):Prop:=L.length=l.length∧∀ (i:Nat) (p:QV) (v:Rat),L[i]?=some p→l[i]?=some v→QG w p.s p.A p.n p.c p.B p.m p.d v k
section
variable {w w':World} {L:List QV} {l:List Rat} {k:Nat}
theorem EachQ.below (h:EachQ w L l k) (hb:Below w.heap.size w w'):EachQ w' L l k:=⟨h.1,fun i p v h1 h2=>(h.2 i p v h1 h2).below hb⟩
theorem EachQ.box {T:TypeId} {g:Nat} {cs:Array Value} (h:EachQ w L l k) (B:BoxAt T w g cs) (ho:Only g w w'):EachQ w' L l k:=⟨h.1,fun i p v h1 h2=>(h.2 i p v h1 h2).box B ho⟩
theorem EachQ.take (h:EachQ w L l k) (m:Nat):EachQ w (L.take m) (l.take m) k:=by
 refine ⟨by rw [List.length_take,List.length_take,h.1],fun i p v h1 h2=>?_⟩
 rw [List.getElem?_take] at h1 h2
 split at h1
 · rename_i q;rw [if_pos q] at h2;exact h.2 i p v h1 h2
 · cases h1
theorem EachQ.drop (h:EachQ w L l k) (m:Nat):EachQ w (L.drop m) (l.drop m) k:=by
 refine ⟨by rw [List.length_drop,List.length_drop,h.1],fun i p v h1 h2=>?_⟩
 rw [List.getElem?_drop] at h1 h2
 exact h.2 _ p v h1 h2
theorem EachQ.push {p:QV} {v:Rat} (h:EachQ w L l k) (hp:QG w p.s p.A p.n p.c p.B p.m p.d v k):EachQ w (L ++ [p]) (l ++ [v]) k:=by
 refine ⟨by rw [List.length_append,List.length_append,h.1];rfl,fun i q u h1 h2=>?_⟩
 rcases Nat.lt_or_ge i L.length with hi | hi
 · rw [List.getElem?_append_left hi] at h1
   rw [List.getElem?_append_left (by rw [← h.1];exact hi)] at h2
   exact h.2 i q u h1 h2
 · rw [List.getElem?_append_right hi] at h1
   rw [List.getElem?_append_right (by rw [← h.1];exact hi),← h.1] at h2
   obtain ⟨j,hj⟩:∃ j,i - L.length=j:=⟨_,rfl⟩
   rw [hj] at h1 h2
   match j,h1,h2 with
   | 0,h1,h2=>cases h1;cases h2;exact hp
   | j+1,h1,h2=>simp at h1
end
theorem SV.take {A:Option Addr} {L:List QV} (h:SV w A (qvs L)) (m:Nat):SV w A (qvs (L.take m)):=fun hn=>by
 have e:qvs L=qvs (L.take m) ++ qvs (L.drop m):=by rw [← qvs_append,List.take_append_drop]
 obtain ⟨g,o,e1,h1,h2⟩:=h (by rw [e,List.length_append];omega)
 refine ⟨g,o,e1,h1,fun j u hu=>h2 j u ?_⟩
 rw [e,List.getElem?_append_left (List.getElem?_eq_some_iff.1 hu).1];exact hu
theorem SV.drop {g o:Nat} {L:List QV} (h:SV w (some ⟨g,o,none⟩) (qvs L)) (m:Nat) (hm:m≤L.length):SV w (some ⟨g,o+m*3,none⟩) (qvs (L.drop m)):=fun hn=>by
 have e:qvs L=qvs (L.take m) ++ qvs (L.drop m):=by rw [← qvs_append,List.take_append_drop]
 have hl:(qvs (L.take m)).length=m*3:=by rw [show (qvs (L.take m)).length=(L.take m).length*3 from rows_length qvc_len _,List.length_take,Nat.min_eq_left hm]
 obtain ⟨g2,o2,e1,h1,h2⟩:=h (by rw [e,List.length_append];omega)
 cases e1
 refine ⟨_,_,rfl,h1,fun j u hu=>?_⟩
 rw [Nat.add_assoc]
 refine h2 (m*3+j) u ?_
 rw [e,List.getElem?_append_right (by omega),hl,Nat.add_sub_cancel_left];exact hu
end
section
open Go Go.RowKit
theorem SNr.box {T T':TypeId} {base n k:Nat} {vs:List Value} {w w':World} {A:Option Addr} {cs:Array Value} (h:SNr T base n vs w A) (hB:BoxAt T' w k cs) (hne:T ≠ T' ∨ cs.size < vs.length) (ho:Only k w w'):SNr T base n vs w' A:=fun hn=>by
 obtain ⟨g,e,h1,h2⟩:=h hn
 obtain ⟨cs2,h3,h4,_⟩:=id h2
 exact ⟨g,e,h1,h2.rest (BoxAt.ne h3 hB (hne.imp id (fun q=>by omega))) ho⟩
theorem BoxAt.q3 {T:TypeId} {g m:Nat} {M:List QV} {p:QV} (h:BoxAt T w g (qvs M).toArray) (hp:M[m]?=some p):E3x w g (m*3) p:=by
 have key:∀ j,j < 3→∀ u,p.cells[j]?=some u→w.cell? ⟨g,m*3+j,none⟩=some u:=fun j hj u hu=>by
  rw [cell_of_row w g (m*3+j) _ _ (0,0) h.at_,← hu,← rows_get qvc_len hp hj];simp [qvs]
 exact ⟨h.lt,key 0 (by decide) _ rfl,key 1 (by decide) _ rfl,key 2 (by decide) _ rfl⟩
end
section
def crs (a b c d:Rat):Rat:=a*d - b*c
def dotq (a b c d:Rat):Rat:=a*c+b*d
def LeftV (a b c d:Rat):Prop:=0 < crs a b c d ∨ (crs a b c d=0∧0 < dotq a b c d)
section
variable {n:Nat} {x y:Nat→Rat}
def dd (x:Nat→Rat) (k:Nat):Rat:=x (k+1) - x k
def LeftAt (x y:Nat→Rat) (k:Nat):Prop:=LeftV (dd x k) (dd y k) (dd x (k+1)) (dd y (k+1))
def sideQ (x y:Nat→Rat) (i k:Nat):Rat:=crs (dd x i) (dd y i) (x k - x i) (y k - y i)
theorem per_mul (hx:∀ k,x (k+n)=x k) (k m:Nat):x (k+n*m)=x k:=by
 induction m with
 | zero=>rfl
 | succ m ih=>rw [Nat.mul_succ,← Nat.add_assoc,hx,ih]
theorem per_mod (hx:∀ k,x (k+n)=x k) (k:Nat):x (k % n)=x k:=by
 rw [← per_mul hx (k % n) (k / n),Nat.mod_add_div]
theorem per_eq (hx:∀ k,x (k+n)=x k) {k l:Nat} (h:k % n=l % n):x k=x l:=by rw [← per_mod hx k,← per_mod hx l,h]
theorem along_of {a b c d:Rat} (hz:¬ (a=0∧b=0)) (h:crs a b c d=0):∃ t,c=t*a∧d=t*b:=by
 unfold crs at h
 by_cases ha:a=0
 · subst ha
   have hb:b ≠ 0:=fun e=>hz ⟨rfl,e⟩
   have e:d / b*b=d:=Rat.div_mul_cancel hb
   refine ⟨d / b,?_,e.symm⟩
   have:b*c=0:=by grind
   rcases Rat.mul_eq_zero.1 this with q | q
   · exact absurd q hb
   · grind
 · have e:c / a*a=c:=Rat.div_mul_cancel ha
   refine ⟨c / a,e.symm,?_⟩
   generalize c / a=t at e
   subst e
   have:a*(d - t*b)=0:=by grind
   rcases Rat.mul_eq_zero.1 this with q | q
   · exact absurd q ha
   · grind
theorem sq_pos {a b:Rat} (hz:¬ (a=0∧b=0)):0 < a*a+b*b:=by
 have ha:0≤a*a:=by
  rcases (Rat.le_total:0≤a ∨ a≤0) with q | q
  · exact Rat.mul_nonneg q q
  · have:=Rat.mul_nonneg (show 0≤-a by grind) (show 0≤-a by grind);grind
 have hb:0≤b*b:=by
  rcases (Rat.le_total:0≤b ∨ b≤0) with q | q
  · exact Rat.mul_nonneg q q
  · have:=Rat.mul_nonneg (show 0≤-b by grind) (show 0≤-b by grind);grind
 refine Rat.not_le.1 fun q=>hz ⟨?_,?_⟩
 · have e:a*a=0:=by grind
   rcases Rat.mul_eq_zero.1 e with e | e <;> exact e
 · have e:b*b=0:=by grind
   rcases Rat.mul_eq_zero.1 e with e | e <;> exact e
end
section
variable {n:Nat} {x y:Nat→Rat}
structure Conv (n:Nat) (x y:Nat→Rat):Prop where
 three:3≤n
 apart:∀ i k,i < n→k < n→i ≠ k→¬ (x i=x k∧y i=y k)
 left:∀ i k,i < n→k < n→0≤sideQ x y i k
 some:∃ i k,i < n∧k < n∧0 < sideQ x y i k
theorem side_per (hx:∀ k,x (k+n)=x k) (hy:∀ k,y (k+n)=y k) (i k:Nat):sideQ x y (i % n) (k % n)=sideQ x y i k:=by
 have e1:x (i % n+1)=x (i+1):=per_eq hx (by rw [Nat.add_mod,Nat.mod_mod,← Nat.add_mod])
 have e2:y (i % n+1)=y (i+1):=per_eq hy (by rw [Nat.add_mod,Nat.mod_mod,← Nat.add_mod])
 unfold sideQ dd
 rw [e1,e2,per_mod hx,per_mod hx,per_mod hy,per_mod hy]
theorem Conv.left' (h:Conv n x y) (hx:∀ k,x (k+n)=x k) (hy:∀ k,y (k+n)=y k) (i k:Nat):0≤sideQ x y i k:=by
 have hn:0 < n:=by have:=h.three;omega
 rw [← side_per hx hy]
 exact h.left _ _ (Nat.mod_lt _ hn) (Nat.mod_lt _ hn)
theorem Conv.apart' (h:Conv n x y) (hx:∀ k,x (k+n)=x k) (hy:∀ k,y (k+n)=y k) {i k:Nat} (hne:i % n ≠ k % n):¬ (x i=x k∧y i=y k):=by
 have hn:0 < n:=by have:=h.three;omega
 have:=h.apart _ _ (Nat.mod_lt i hn) (Nat.mod_lt k hn) hne
 rwa [per_mod hx,per_mod hx,per_mod hy,per_mod hy] at this
theorem succ_mod_ne (hn:2≤n) (i:Nat):i % n ≠ (i+1) % n:=by
 intro e
 have h1:=Nat.mod_lt i (show 0 < n by omega)
 rw [Nat.add_mod] at e
 rw [Nat.mod_eq_of_lt (show 1 < n by omega)] at e
 rcases Nat.lt_or_ge (i % n+1) n with q | q
 · rw [Nat.mod_eq_of_lt q] at e;omega
 · rw [show i % n+1=n by omega,Nat.mod_self] at e;omega
theorem Conv.way_nz (h:Conv n x y) (hx:∀ k,x (k+n)=x k) (hy:∀ k,y (k+n)=y k) (i:Nat):¬ (dd x i=0∧dd y i=0):=by
 have:=h.apart' hx hy (succ_mod_ne (by have:=h.three;omega) i)
 unfold dd
 rintro ⟨e1,e2⟩
 exact this ⟨by grind,by grind⟩
theorem crs_along {a b c d e f:Rat} (hz:¬ (a=0∧b=0)) (h1:crs a b c d=0) (h2:crs a b e f=0):crs c d e f=0:=by
 obtain ⟨t,rfl,rfl⟩:=along_of hz h1
 obtain ⟨s,rfl,rfl⟩:=along_of hz h2
 unfold crs;grind
theorem Conv.off (h:Conv n x y) {a b ox oy:Rat} (hz:¬ (a=0∧b=0)) (hl:∀ k,crs a b (x k - ox) (y k - oy)=0):False:=by
 obtain ⟨i,k,_,_,hs⟩:=h.some
 have e1:=hl i
 have e2:=hl (i+1)
 have e3:=hl k
 have:sideQ x y i k=0:=by
  unfold sideQ
  refine crs_along hz ?_ ?_
  · unfold dd;unfold crs at *;grind
  · unfold crs at *;grind
 rw [this] at hs
 exact absurd hs (by decide)
theorem Conv.turn (h:Conv n x y) (hx:∀ k,x (k+n)=x k) (hy:∀ k,y (k+n)=y k) (i:Nat):LeftAt x y i:=by
 have hc:crs (dd x i) (dd y i) (dd x (i+1)) (dd y (i+1))=sideQ x y i (i+2):=by unfold sideQ crs dd;grind
 have h0:=h.left' hx hy i (i+2)
 unfold LeftAt LeftV
 rw [hc]
 by_cases hz:sideQ x y i (i+2)=0
 · right
   refine ⟨hz,Rat.not_le.1 fun q=>?_⟩
   rw [hz] at hc;have nz:=h.way_nz hx hy i
   obtain ⟨t,e1,e2⟩:=along_of nz hc
   have ht:t≤0:=by
    refine Rat.not_lt.1 fun r=>?_
    have:=Rat.mul_pos r (sq_pos nz)
    rw [e1,e2] at q
    unfold dotq at q;grind
   have ht:t < 0:=by
    rcases Rat.le_iff_lt_or_eq.1 ht with r | r
    · exact r
    · have:=h.way_nz hx hy (i+1)
      rw [e1,e2,r,Rat.zero_mul,Rat.zero_mul] at this
      exact absurd ⟨rfl,rfl⟩ this
   refine h.off nz (ox:=x i) (oy:=y i) fun k=>?_
   have h1:=h.left' hx hy i k
   have h2:=h.left' hx hy (i+1) k
   have e:sideQ x y (i+1) k=t*sideQ x y i k:=by
    have q1:x (i+1)=x i+dd x i:=by unfold dd;grind
    have q2:y (i+1)=y i+dd y i:=by unfold dd;grind
    unfold sideQ
    rw [e1,e2,q1,q2]
    unfold crs;grind
   rw [e] at h2
   have h3:¬ 0 < sideQ x y i k:=fun r=>by
    have:=Rat.mul_pos (show 0 < -t by grind) r
    grind
   show sideQ x y i k=0
   grind
 · left;grind
end
end
section
open Go Go.RowKit
theorem BoxAt.p6 {T:TypeId} {g m:Nat} {M:List PV} {p:PV} (h:BoxAt T w g (pvs M).toArray) (hp:M[m]?=some p):E6x w g (m*6) p:=by
 have key:∀ j,j < 6→∀ u,p.cells[j]?=some u→w.cell? ⟨g,m*6+j,none⟩=some u:=fun j hj u hu=>by
  rw [cell_of_row w g (m*6+j) _ _ (0,0) h.at_,← hu,← rows_get pvc_len hp hj];simp [pvs]
 exact ⟨h.lt,key 0 (by decide) _ rfl,key 1 (by decide) _ rfl,key 2 (by decide) _ rfl,key 3 (by decide) _ rfl,key 4 (by decide) _ rfl,key 5 (by decide) _ rfl⟩
instance (a b c d:Rat):Decidable (LeftV a b c d):=by unfold LeftV;exact inferInstance
end
section
open Go Go.RowKit
section
variable {W W':World} {g:Nat} {v0 v1 v2 v3 v4 v5 v6 v7 v8:Value}
end
def VQEa (V:Rat) (k:Nat) (x:Value) (w:World):Prop:=∃ s A n c B m d,x=.tuple #[.agg #[.bool s,.slice A n c,.slice B m d],.int .i64 0]∧QG w s A n c B m d V k
theorem stays_qea (v:Rat) (k:Nat):Stays (VQEa v k) :=
 ⟨fun _ _ _ ⟨s,A,n,c,B,m,d,h1,h2⟩ hb=>⟨s,A,n,c,B,m,d,h1,h2.below hb⟩,fun _ _ _ _ _ _ ⟨s,A,n,c,B,m,d,h1,h2⟩ hB ho=>⟨s,A,n,c,B,m,d,h1,h2.box hB ho⟩⟩
end
section
open Go Go.RowKit
attribute [local go_sem ↓] open_LVH open_STH open_LVJ open_STJ
theorem cone_q (w:World) :
 Calls Tryz.prog 44 #[] w (GivesQ w (Rat.divInt 1 1) 1):=by
 go_enter Tryz.func44,Tryz.ntmps44
 go_upto_region 1 with (fail)
 generalize hW:World.alloc _ _=W
 obtain ⟨hb,Z,hzW⟩:=mkbx9_8 hW;clear hW
 go_wp2_with (first
  | (go_at_call 18;(with_reducible refine (rof_q 1 1 (by decide) (by decide) (by decide) (by decide) (by decide) _).mono ?_);rintro e w_r ⟨s_r,A_r,n_r,c_r,B_r,m_r,d_r,rfl,r,hh⟩
     (try replace Z:=Z.below hh);replace hb:=bend hb hh;have zf0:=Z.f0;have zf1:=Z.f1;have zf2:=Z.f2;obtain ⟨z0,z1,z2⟩:=Z.all))
 have Z2:=Z.set3 (.bool s_r) (.slice A_r n_r c_r) (.slice B_r m_r d_r)
 obtain ⟨g0,g1,g2⟩:=Z2.all
 refine bodyPost_ret (v:=.agg #[.bool s_r,.slice A_r n_r c_r,.slice B_r m_r d_r]) (by simp [results,Tryz.results44,go_sem,g0,g1,g2]) rfl ?_
 exact ⟨s_r,A_r,n_r,c_r,B_r,m_r,d_r,rfl,r.set3 Z _ _ _,below_set3 hb (by omega) _ _ _⟩
theorem mkbx30_13 {w W:World} {x0 x1 x2 x3 x4 x5 x6 x7 x8 x9 x10 x11:Value} (h:((((w.alloc (Obj.cells #[x0,x1,x2] 27)).alloc (Obj.cells #[x3,x4,x5] 27)).alloc (Obj.cells #[x6,x7,x8] 27)).alloc (Obj.cells #[x9,x10,x11] 27))=W):Below w.heap.size w W∧B3 W (w.heap.size) x0 x1 x2∧B3 W (w.heap.size+1) x3 x4 x5∧B3 W (w.heap.size+1+1) x6 x7 x8∧B3 W (w.heap.size+1+1+1) x9 x10 x11∧W.heap.size=w.heap.size+4:=by subst h;exact ⟨by exact (((((Below.refl _ _).alloc (Nat.le_refl _) _).alloc (by simp) _).alloc (by simp;omega) _).alloc (by simp;omega) _),by exact (((B3.new' _ _ _ _ _ rfl).alloc _).alloc _).alloc _,by exact ((B3.new' _ _ _ _ _ (by simp)).alloc _).alloc _,by exact (B3.new' _ _ _ _ _ (by simp)).alloc _,by exact B3.new' _ _ _ _ _ (by simp),by simp⟩
theorem cbetween_q {k kt:Nat} {va vb vt:Rat} (a:QR w s_a A_a n_a c_a B_a m_a d_a va k) (b:QR w s_b A_b n_b c_b B_b m_b d_b vb k) (q:QR w s_q A_q n_q c_q B_q m_q d_q vt kt) (hk:k≤10000) (ht:kt≤1000) (h1:1≤k) (h2:1≤kt) :
 Calls Tryz.prog 138 #[.agg #[.bool s_a,.slice A_a n_a c_a,.slice B_a m_a d_a],.agg #[.bool s_b,.slice A_b n_b c_b,.slice B_b m_b d_b],.agg #[.bool s_q,.slice A_q n_q c_q,.slice B_q m_q d_q]] w (GivesQ w (mixQ va vb vt) (k+(k+k+1+kt)+1)):=by
 go_enter Tryz.func138,Tryz.ntmps138
 go_upto_region 1 with (fail)
 generalize hW:World.alloc _ _=W
 obtain ⟨hb,XA,XB,XQ,Z,hzW⟩:=mkbx30_13 hW;clear hW;replace a:=a.below hb;replace b:=b.below hb;replace q:=q.below hb
 replace a:=a.below (Below.refl _ _).drew
 replace b:=b.below (Below.refl _ _).drew
 replace q:=q.below (Below.refl _ _).drew
 replace XA:=XA.below (Below.refl _ _).drew
 replace XB:=XB.below (Below.refl _ _).drew
 replace XQ:=XQ.below (Below.refl _ _).drew
 replace Z:=Z.below (Below.refl _ _).drew
 replace hb:=hb.drew
 go_region_held3 (fun w'=>w'.cell? ⟨w.heap.size,0,none⟩=some (.bool s_a)∧w'.cell? ⟨w.heap.size,1,none⟩=some (.slice A_a n_a c_a)∧w'.cell? ⟨w.heap.size,2,none⟩=some (.slice B_a m_a d_a)∧w'.cell? ⟨w.heap.size+1,0,none⟩=some (.bool s_b)∧w'.cell? ⟨w.heap.size+1,1,none⟩=some (.slice A_b n_b c_b)∧w'.cell? ⟨w.heap.size+1,2,none⟩=some (.slice B_b m_b d_b)∧w'.cell? ⟨w.heap.size+1+1,0,none⟩=some (.bool s_q)∧w'.cell? ⟨w.heap.size+1+1,1,none⟩=some (.slice A_q n_q c_q)∧w'.cell? ⟨w.heap.size+1+1,2,none⟩=some (.slice B_q m_q d_q))
  (first | with_reducible exact ⟨XA.c0,XA.c1,XA.c2,XB.c0,XB.c1,XB.c2,XQ.c0,XQ.c1,XQ.c2⟩ | with_reducible exact ⟨(XA.restm (by omega) (only_set3 _ _ _ _ _)).c0,(XA.restm (by omega) (only_set3 _ _ _ _ _)).c1,(XA.restm (by omega) (only_set3 _ _ _ _ _)).c2,(XB.restm (by omega) (only_set3 _ _ _ _ _)).c0,(XB.restm (by omega) (only_set3 _ _ _ _ _)).c1,(XB.restm (by omega) (only_set3 _ _ _ _ _)).c2,(XQ.restm (by omega) (only_set3 _ _ _ _ _)).c0,(XQ.restm (by omega) (only_set3 _ _ _ _ _)).c1,(XQ.restm (by omega) (only_set3 _ _ _ _ _)).c2⟩)
  (first
  | (go_at_call 98;(with_reducible refine (rsub_q b a (by omega) (by omega) (.inl (by omega)) (by omega) (by omega)).mono ?_);rintro e w_r1 ⟨s_r1,A_r1,n_r1,c_r1,B_r1,m_r1,d_r1,rfl,r1,hh⟩
     (try replace a:=a.below hh);(try replace b:=b.below hh);(try replace q:=q.below hh);(try replace XA:=XA.below hh);(try replace XB:=XB.below hh);(try replace XQ:=XQ.below hh);(try replace Z:=Z.below hh);(try replace r2:=r2.below hh);(try replace r3:=r3.below hh);replace hb:=bend hb hh)
  | (go_at_call 23;(with_reducible refine (rmul_q r1.qr q (by omega) (by omega) (.inl (by omega)) (by omega) (by omega)).mono ?_);rintro e w_r2 ⟨s_r2,A_r2,n_r2,c_r2,B_r2,m_r2,d_r2,rfl,r2,hh⟩
     (try replace a:=a.below hh);(try replace b:=b.below hh);(try replace q:=q.below hh);(try replace XA:=XA.below hh);(try replace XB:=XB.below hh);(try replace XQ:=XQ.below hh);(try replace Z:=Z.below hh);(try replace r1:=r1.below hh);(try replace r3:=r3.below hh);replace hb:=bend hb hh)
  | (go_at_call 22;(with_reducible refine (radd_q a r2.qr (by omega) (by omega) (.inl (by omega)) (by omega) (by omega)).mono ?_);rintro e w_r3 ⟨s_r3,A_r3,n_r3,c_r3,B_r3,m_r3,d_r3,rfl,r3,hh⟩
     (try replace a:=a.below hh);(try replace b:=b.below hh);(try replace q:=q.below hh);(try replace XA:=XA.below hh);(try replace XB:=XB.below hh);(try replace XQ:=XQ.below hh);(try replace Z:=Z.below hh);(try replace r1:=r1.below hh);(try replace r2:=r2.below hh);replace hb:=bend hb hh;have zf0:=Z.f0;have zf1:=Z.f1;have zf2:=Z.f2;obtain ⟨z0,z1,z2⟩:=Z.all))
 go_wp2_with fail
 have Z2:=Z.set3 (.bool s_r3) (.slice A_r3 n_r3 c_r3) (.slice B_r3 m_r3 d_r3)
 obtain ⟨g0,g1,g2⟩:=Z2.all
 refine bodyPost_ret (v:=.agg #[.bool s_r3,.slice A_r3 n_r3 c_r3,.slice B_r3 m_r3 d_r3]) (by simp [results,Tryz.results138,go_sem,g0,g1,g2]) rfl ?_
 exact ⟨s_r3,A_r3,n_r3,c_r3,B_r3,m_r3,d_r3,rfl,r3.set3 Z _ _ _,below_set3 hb (by omega) _ _ _⟩
theorem mkbx31_13 {w W:World} {x0 x1 x2 x3 x4 x5 x6 x7 x8 x9 x10 x11 x12 x13 x14 x15 x16 x17 x18 x19 x20 x21 x22 x23 x24 x25 x26 x27 x28 x29:Value} (h:((((w.alloc (Obj.cells #[x0,x1,x2,x3,x4,x5,x6,x7,x8] 55)).alloc (Obj.cells #[x9,x10,x11,x12,x13,x14,x15,x16,x17] 55)).alloc (Obj.cells #[x18,x19,x20] 27)).alloc (Obj.cells #[x21,x22,x23,x24,x25,x26,x27,x28,x29] 55))=W):Below w.heap.size w W∧BH W (w.heap.size) x0 x1 x2 x3 x4 x5 x6 x7 x8∧BH W (w.heap.size+1) x9 x10 x11 x12 x13 x14 x15 x16 x17∧B3 W (w.heap.size+1+1) x18 x19 x20∧BH W (w.heap.size+1+1+1) x21 x22 x23 x24 x25 x26 x27 x28 x29∧W.heap.size=w.heap.size+4:=by subst h;exact ⟨by exact (((((Below.refl _ _).alloc (Nat.le_refl _) _).alloc (by simp) _).alloc (by simp;omega) _).alloc (by simp;omega) _),by exact (((BH.new' _ _ _ _ _ _ _ _ _ _ _ rfl).alloc _).alloc _).alloc _,by exact ((BH.new' _ _ _ _ _ _ _ _ _ _ _ (by simp)).alloc _).alloc _,by exact (B3.new' _ _ _ _ _ (by simp)).alloc _,by exact BH.new' _ _ _ _ _ _ _ _ _ _ _ (by simp),by simp⟩
theorem cmix_h {k kt:Nat} {vp vq:AH} {vt:Rat} {p q:HV} {s:Bool} {A A':Option Addr} {n c n' c':Nat} (hp:HR w p vp k) (hq:HR w q vq k) (t:QR w s A n c A' n' c' vt kt) (hk:k≤10000) (ht:kt≤1000) (h1:1≤k) (h2:1≤kt) :
 Calls Tryz.prog 116 #[.agg #[.bool p.x.s,.slice p.x.A p.x.n p.x.c,.slice p.x.B p.x.m p.x.d,.bool p.y.s,.slice p.y.A p.y.n p.y.c,.slice p.y.B p.y.m p.y.d,.bool p.w.s,.slice p.w.A p.w.n p.w.c,.slice p.w.B p.w.m p.w.d],.agg #[.bool q.x.s,.slice q.x.A q.x.n q.x.c,.slice q.x.B q.x.m q.x.d,.bool q.y.s,.slice q.y.A q.y.n q.y.c,.slice q.y.B q.y.m q.y.d,.bool q.w.s,.slice q.w.A q.w.n q.w.c,.slice q.w.B q.w.m q.w.d],.agg #[.bool s,.slice A n c,.slice A' n' c']] w (GivesH w (vp.mix vq vt) (3*k+kt+2)):=by
 go_enter Tryz.func116,Tryz.ntmps116
 go_upto_region 1 with (fail)
 generalize hW:World.alloc _ _=W
 obtain ⟨hb,XA,XB,XT,Z,hzW⟩:=mkbx31_13 hW;clear hW;replace hp:=hp.below hb;replace hq:=hq.below hb;replace t:=t.below hb
 replace hp:=hp.below (Below.refl _ _).drew
 replace hq:=hq.below (Below.refl _ _).drew
 replace t:=t.below (Below.refl _ _).drew
 replace XA:=XA.below (Below.refl _ _).drew
 replace XB:=XB.below (Below.refl _ _).drew
 replace XT:=XT.below (Below.refl _ _).drew
 replace Z:=Z.below (Below.refl _ _).drew
 replace hb:=hb.drew
 go_region_held3 (fun w'=>w'.cell? ⟨w.heap.size,0,none⟩=some (.bool p.x.s)∧w'.cell? ⟨w.heap.size,1,none⟩=some (.slice p.x.A p.x.n p.x.c)∧w'.cell? ⟨w.heap.size,2,none⟩=some (.slice p.x.B p.x.m p.x.d)∧w'.cell? ⟨w.heap.size,3,none⟩=some (.bool p.y.s)∧w'.cell? ⟨w.heap.size,4,none⟩=some (.slice p.y.A p.y.n p.y.c)∧w'.cell? ⟨w.heap.size,5,none⟩=some (.slice p.y.B p.y.m p.y.d)∧w'.cell? ⟨w.heap.size,6,none⟩=some (.bool p.w.s)∧w'.cell? ⟨w.heap.size,7,none⟩=some (.slice p.w.A p.w.n p.w.c)∧w'.cell? ⟨w.heap.size,8,none⟩=some (.slice p.w.B p.w.m p.w.d)∧w'.cell? ⟨w.heap.size+1,0,none⟩=some (.bool q.x.s)∧w'.cell? ⟨w.heap.size+1,1,none⟩=some (.slice q.x.A q.x.n q.x.c)∧w'.cell? ⟨w.heap.size+1,2,none⟩=some (.slice q.x.B q.x.m q.x.d)∧w'.cell? ⟨w.heap.size+1,3,none⟩=some (.bool q.y.s)∧w'.cell? ⟨w.heap.size+1,4,none⟩=some (.slice q.y.A q.y.n q.y.c)∧w'.cell? ⟨w.heap.size+1,5,none⟩=some (.slice q.y.B q.y.m q.y.d)∧w'.cell? ⟨w.heap.size+1,6,none⟩=some (.bool q.w.s)∧w'.cell? ⟨w.heap.size+1,7,none⟩=some (.slice q.w.A q.w.n q.w.c)∧w'.cell? ⟨w.heap.size+1,8,none⟩=some (.slice q.w.B q.w.m q.w.d)∧w'.cell? ⟨w.heap.size+1+1,0,none⟩=some (.bool s)∧w'.cell? ⟨w.heap.size+1+1,1,none⟩=some (.slice A n c)∧w'.cell? ⟨w.heap.size+1+1,2,none⟩=some (.slice A' n' c'))
  (first | with_reducible exact ⟨XA.c0,XA.c1,XA.c2,XA.c3,XA.c4,XA.c5,XA.c6,XA.c7,XA.c8,XB.c0,XB.c1,XB.c2,XB.c3,XB.c4,XB.c5,XB.c6,XB.c7,XB.c8,XT.c0,XT.c1,XT.c2⟩ | with_reducible exact ⟨(XA.restm (by omega) (only_set9 _ _ _ _ _ _ _ _ _ _ _)).c0,(XA.restm (by omega) (only_set9 _ _ _ _ _ _ _ _ _ _ _)).c1,(XA.restm (by omega) (only_set9 _ _ _ _ _ _ _ _ _ _ _)).c2,(XA.restm (by omega) (only_set9 _ _ _ _ _ _ _ _ _ _ _)).c3,(XA.restm (by omega) (only_set9 _ _ _ _ _ _ _ _ _ _ _)).c4,(XA.restm (by omega) (only_set9 _ _ _ _ _ _ _ _ _ _ _)).c5,(XA.restm (by omega) (only_set9 _ _ _ _ _ _ _ _ _ _ _)).c6,(XA.restm (by omega) (only_set9 _ _ _ _ _ _ _ _ _ _ _)).c7,(XA.restm (by omega) (only_set9 _ _ _ _ _ _ _ _ _ _ _)).c8,(XB.restm (by omega) (only_set9 _ _ _ _ _ _ _ _ _ _ _)).c0,(XB.restm (by omega) (only_set9 _ _ _ _ _ _ _ _ _ _ _)).c1,(XB.restm (by omega) (only_set9 _ _ _ _ _ _ _ _ _ _ _)).c2,(XB.restm (by omega) (only_set9 _ _ _ _ _ _ _ _ _ _ _)).c3,(XB.restm (by omega) (only_set9 _ _ _ _ _ _ _ _ _ _ _)).c4,(XB.restm (by omega) (only_set9 _ _ _ _ _ _ _ _ _ _ _)).c5,(XB.restm (by omega) (only_set9 _ _ _ _ _ _ _ _ _ _ _)).c6,(XB.restm (by omega) (only_set9 _ _ _ _ _ _ _ _ _ _ _)).c7,(XB.restm (by omega) (only_set9 _ _ _ _ _ _ _ _ _ _ _)).c8,(XT.restm (by omega) (only_set9 _ _ _ _ _ _ _ _ _ _ _)).c0,(XT.restm (by omega) (only_set9 _ _ _ _ _ _ _ _ _ _ _)).c1,(XT.restm (by omega) (only_set9 _ _ _ _ _ _ _ _ _ _ _)).c2⟩)
  (first
  | (go_at_call 138;(with_reducible refine (cbetween_q hp.qx hq.qx t hk ht h1 h2).mono ?_);rintro e w_ru ⟨s_ru,A_ru,n_ru,c_ru,B_ru,m_ru,d_ru,rfl,ru,hh⟩
     (try replace hp:=hp.below hh);(try replace hq:=hq.below hh);(try replace t:=t.below hh);(try replace XA:=XA.below hh);(try replace XB:=XB.below hh);(try replace XT:=XT.below hh);(try replace Z:=Z.below hh);(try replace rv:=rv.below hh);(try replace rz:=rz.below hh);replace hb:=bend hb hh)
  | (go_at_call 138;(with_reducible refine (cbetween_q hp.qy hq.qy t hk ht h1 h2).mono ?_);rintro e w_rv ⟨s_rv,A_rv,n_rv,c_rv,B_rv,m_rv,d_rv,rfl,rv,hh⟩
     (try replace hp:=hp.below hh);(try replace hq:=hq.below hh);(try replace t:=t.below hh);(try replace XA:=XA.below hh);(try replace XB:=XB.below hh);(try replace XT:=XT.below hh);(try replace Z:=Z.below hh);(try replace ru:=ru.below hh);(try replace rz:=rz.below hh);replace hb:=bend hb hh)
  | (go_at_call 138;(with_reducible refine (cbetween_q hp.qw hq.qw t hk ht h1 h2).mono ?_);rintro e w_rz ⟨s_rz,A_rz,n_rz,c_rz,B_rz,m_rz,d_rz,rfl,rz,hh⟩
     (try replace hp:=hp.below hh);(try replace hq:=hq.below hh);(try replace t:=t.below hh);(try replace XA:=XA.below hh);(try replace XB:=XB.below hh);(try replace XT:=XT.below hh);(try replace Z:=Z.below hh);(try replace ru:=ru.below hh);(try replace rv:=rv.below hh);replace hb:=bend hb hh
     have zst:=Z.st (.bool s_ru) (.slice A_ru n_ru c_ru) (.slice B_ru m_ru d_ru) (.bool s_rv) (.slice A_rv n_rv c_rv) (.slice B_rv m_rv d_rv) (.bool s_rz) (.slice A_rz n_rz c_rz) (.slice B_rz m_rz d_rz) (by simp [Value.oneCell'])))
 go_wp2_with fail
 replace ru:=ru.more (show _≤3*k+kt+2 by omega)
 replace rv:=rv.more (show _≤3*k+kt+2 by omega)
 replace rz:=rz.more (show _≤3*k+kt+2 by omega)
 have Z2:=Z.set9 (.bool s_ru) (.slice A_ru n_ru c_ru) (.slice B_ru m_ru d_ru) (.bool s_rv) (.slice A_rv n_rv c_rv) (.slice B_rv m_rv d_rv) (.bool s_rz) (.slice A_rz n_rz c_rz) (.slice B_rz m_rz d_rz)
 have gl:=Z2.ld
 refine bodyPost_ret (v:=.agg #[.bool s_ru,.slice A_ru n_ru c_ru,.slice B_ru m_ru d_ru,.bool s_rv,.slice A_rv n_rv c_rv,.slice B_rv m_rv d_rv,.bool s_rz,.slice A_rz n_rz c_rz,.slice B_rz m_rz d_rz]) (res_H Tryz.results116 _ _ (by simp) gl) rfl ?_
 exact ⟨⟨⟨s_ru,A_ru,n_ru,c_ru,B_ru,m_ru,d_ru⟩,⟨s_rv,A_rv,n_rv,c_rv,B_rv,m_rv,d_rv⟩,⟨s_rz,A_rz,n_rz,c_rz,B_rz,m_rz,d_rz⟩⟩,rfl,HG.set9 (h:=⟨⟨s_ru,A_ru,n_ru,c_ru,B_ru,m_ru,d_ru⟩,⟨s_rv,A_rv,n_rv,c_rv,B_rv,m_rv,d_rv⟩,⟨s_rz,A_rz,n_rz,c_rz,B_rz,m_rz,d_rz⟩⟩) (v:=vp.mix vq vt) ⟨ru,rv,rz⟩ Z _ _ _ _ _ _ _ _ _,below_set9 hb (by omega) _ _ _ _ _ _ _ _ _⟩
theorem only_six (W:World) (g:Nat) (a b c d e f:Value):Only g W ((((((W.setCell ⟨g,0,none⟩ a).setCell ⟨g,1,none⟩ b).setCell ⟨g,2,none⟩ c).setCell ⟨g,3,none⟩ d).setCell ⟨g,4,none⟩ e).setCell ⟨g,5,none⟩ f):=((((((Only.refl g W).setCell 0 _).setCell 1 _).setCell 2 _).setCell 3 _).setCell 4 _).setCell 5 _
theorem one_q:Rat.divInt 1 1=1:=by decide +kernel
def GivesPtE (w:World) (x y:Rat) (k:Nat) (en:Ending) (w':World):Prop :=
 ∃ s A n c B m d t E i e F j f,en=.returned (.tuple #[.agg #[.bool s,.slice A n c,.slice B m d,.bool t,.slice E i e,.slice F j f],.int .i64 0])∧PG w' s A n c B m d t E i e F j f x y k∧Below w.heap.size w w'
abbrev L_cptz:List Nat:=[7,8,9,10,6,11,12,4,5]
def o0_cptz:Oper:=⟨some 7,.call ⟨.value (.func 44),#[],#[]⟩,27, "curve.go:92",#[],none⟩
def o1_cptz:Oper:=⟨some 8,.fieldAddr 55 (.tmp 1) 2,0, "curve.go:92",#[],none⟩
def o2_cptz:Oper:=⟨some 9,.load 27 (.tmp 8),27, "curve.go:92",#[⟨1,.data⟩],none⟩
def o3_cptz:Oper:=⟨some 10,.call ⟨.value (.func 48),#[.tmp 7,.tmp 9],#[27,27]⟩,34, "curve.go:92",#[⟨0,.data⟩,⟨2,.data⟩,⟨0,.chain⟩],none⟩
def o4_cptz:Oper:=⟨some 6,.move (.tmp 10),34, "curve.go:92",#[⟨3,.data⟩],none⟩
def o5_cptz:Oper:=⟨some 11,.extract (.tmp 6) 0,27, "curve.go:92",#[⟨4,.data⟩],none⟩
def o6_cptz:Oper:=⟨some 12,.extract (.tmp 6) 1,33, "curve.go:92",#[⟨4,.data⟩,⟨8,.gcOnly .lateStores⟩],none⟩
def o7_cptz:Oper:=⟨some 4,.alloc 27,0, "curve.go:92",#[],none⟩
def o8_cptz:Oper:=⟨none,.store 27 (.tmp 4) (.tmp 11),0, "curve.go:92",#[⟨7,.data⟩,⟨5,.data⟩,⟨3,.chain⟩,⟨0,.phase⟩,⟨1,.phase⟩,⟨2,.phase⟩,⟨3,.phase⟩,⟨4,.phase⟩,⟨5,.phase⟩,⟨6,.textOnly .lateStores⟩,⟨7,.phase⟩],none⟩
def o9_cptz:Oper:=⟨some 5,.assign (.tmp 12),33, "curve.go:92",#[⟨6,.data⟩,⟨8,.chain⟩,⟨0,.phase⟩,⟨1,.phase⟩,⟨2,.phase⟩,⟨3,.phase⟩,⟨4,.phase⟩,⟨5,.phase⟩,⟨6,.phase⟩,⟨7,.phase⟩,⟨8,.phase⟩],none⟩
theorem rc_gesso_curve_one {e:Operand→Value} {d:Option Tmp} {y:Nat} {pos:String} {af:Array Edge}  (hf:e (.func 44)=.func (.func 44) #[] #[]) :
 (execOp e ⟨d,.call ⟨.value (.func 44),#[],#[]⟩,y,pos,af,none⟩).run Tryz.prog w=.ok (.enter 44 #[]) w:=by
 go_simp
def F_cptp (h:HV) (v:AH) (k:Nat) (gm:Nat) (sl:Nat):Value→World→Prop :=
 match sl with
 | 7=>VQ (Rat.divInt 1 1) (1)
 | 8=>fun x _=>x=Value.pointer (some ⟨gm,6,none⟩)
 | 9=>fun x _=>x=Value.agg #[.bool h.w.s,.slice h.w.A h.w.n h.w.c,.slice h.w.B h.w.m h.w.d]
 | 10=>VQEa (Rat.divInt 1 1 / v.w) (1+k)
 | 6=>VQEa (Rat.divInt 1 1 / v.w) (1+k)
 | 11=>VQ (Rat.divInt 1 1 / v.w) (1+k)
 | 12=>fun x _=>x=Value.int .i64 0
 | 5=>fun x _=>x=Value.int .i64 0
 | _=>fun _ _=>True
def B0_cptp (v:AH) (k:Nat):BoxOp :=
 ⟨7,8,4,27,#[.bool false,.slice none 0 0,.slice none 0 0],fun cs w=>∃ s A n c B m d,cs=#[.bool s,.slice A n c,.slice B m d]∧QG w s A n c B m d (Rat.divInt 1 1 / v.w) (1+k)⟩
theorem cptp_region {id:Nat} {ac:Act} {Q:Exit→Act→World→Prop} {h:HV} {v:AH} {k gm:Nat}
 (hsz:12 < ac.tmps.size) (e1:ac.eval (.tmp 1)=Value.pointer (some ⟨gm,0,none⟩)) (XA:BH w gm (.bool h.x.s) (.slice h.x.A h.x.n h.x.c) (.slice h.x.B h.x.m h.x.d) (.bool h.y.s) (.slice h.y.A h.y.n h.y.c) (.slice h.y.B h.y.m h.y.d) (.bool h.w.s) (.slice h.w.A h.w.n h.w.c) (.slice h.w.B h.w.m h.w.d)) (M:HR w h v k) (hk:k≤30000) (h1:1≤k) (h0:v.w ≠ 0)
 (hend:∀ (V:Nat→Value) (w':World) (g0:Nat) (s0:Bool) (A0:Option Addr) (n0:Nat) (c0:Nat) (B0:Option Addr) (m0:Nat) (d0:Nat),QG w' s0 A0 n0 c0 B0 m0 d0 (Rat.divInt 1 1 / v.w) (1+k)→B3 w' g0 (.bool s0) (.slice A0 n0 c0) (.slice B0 m0 d0)→w.heap.size≤g0→V 4=.pointer (some ⟨g0,0,none⟩)→V 5=Value.int .i64 0→Below w.heap.size w w'→Q .normal (putAll ac [7,8,9,10,6,11,12,4,5] V) w') :
 (Code.region id #[o0_cptz,o1_cptz,o2_cptz,o3_cptz,o4_cptz,o5_cptz,o6_cptz,o7_cptz,o8_cptz,o9_cptz] true).wp Tryz.prog Q ac w:=by
 have hnd:L_cptz.Nodup:=by decide
 have G:∀ (sv:Nat→Value) (t:Nat),t ∈ L_cptz→t≤12→(putAll ac L_cptz sv).eval (.tmp t)=sv t:=fun sv t ht h=>eval_putAll_mem (t:=t) L_cptz ac hnd ht (Nat.lt_of_le_of_lt h hsz)
 have E1:∀ sv:Nat→Value,(putAll ac L_cptz sv).eval (.tmp 1)=Value.pointer (some ⟨gm,0,none⟩):=fun sv=>(eval_putAll_not (v:=sv) L_cptz ac (show 1 ∉ _ by decide)).trans e1
 have NE:∀ t:Nat,(t ≠ 4)→∀ p ∈ [B0_cptp v k],t ≠ p.tA:=by
  intro t ht p hp
  simp only [List.mem_cons,List.not_mem_nil,or_false] at hp
  rcases hp with rfl
  · exact ht
 refine wp_region_flowsT L_cptz [B0_cptp v k] (F_cptp h v k gm) (by kernel_rfl) (by kernel_rfl) rfl hnd ?_ ?_ ?_ ?_ ?_ ?_ ?_ ?_
 · intro p hp
   simp only [List.mem_cons,List.not_mem_nil,or_false] at hp
   rcases hp with rfl
   · refine ⟨⟨o7_cptz,rfl,rfl,rfl,fun e w'=>run_allocQ⟩,⟨o8_cptz,rfl,rfl,rfl,⟨7,.data⟩,by simp [o8_cptz],rfl,rfl⟩,free3 _ _ _ _ _ _ _,?_,?_⟩
     · rintro cs w1 w2 ⟨s_,A_,n_,c_,B_,m_,d_,rfl,h⟩ hb;exact ⟨s_,A_,n_,c_,B_,m_,d_,rfl,h.below hb⟩
     · rintro T cs w1 w2 g c0 ⟨s_,A_,n_,c_,B_,m_,d_,rfl,h⟩ hB ho;exact ⟨s_,A_,n_,c_,B_,m_,d_,rfl,h.box hB ho⟩
 · intro p hp q hq h
   simp only [List.mem_cons,List.not_mem_nil,or_false] at hp hq
   rcases hp with rfl <;> rcases hq with rfl
   · rfl
 · intro p hp q hq h
   simp only [List.mem_cons,List.not_mem_nil,or_false] at hp hq
   rcases hp with rfl <;> rcases hq with rfl
   · rfl
 · intro i o h1 h2
   match i,h1 with
   | 0,h1=>cases h1;cases h2
   | 1,h1=>cases h1;cases h2
   | 2,h1=>cases h1;cases h2
   | 3,h1=>cases h1;cases h2
   | 4,h1=>cases h1;cases h2
   | 5,h1=>cases h1;cases h2
   | 6,h1=>cases h1;cases h2
   | 7,h1=>cases h1;cases h2
   | 8,h1=>exact ⟨B0_cptp v k,List.Mem.head _,rfl⟩
   | 9,h1=>cases h1;cases h2
   | i+10,h1=>cases h1
 · intro t
   unfold F_cptp
   split <;> first | exact (stays_eq _).inn _ | exact (stays_q _ _).inn _ | exact (stays_z _ _).inn _ | exact (stays_r _ _).inn _ | exact (stays_rq _ _).inn _ | exact (stays_pg _ _ _).inn _ | exact (stays_true).inn _ | exact (stays_qea _ _).inn _
 · intro i o t sv w' ho hia hd J0 hf
   have XA:=XA.below J0;have M:=M.below J0
   match i,ho with
   | 0,ho =>
     obtain rfl:o0_cptz=o:=Option.some.inj ho
     cases hd
     refine wpOp_plain' (o:=o0_cptz) rfl rfl ?_
     unfold Oper.wp o0_cptz
     rw [rc_gesso_curve_one  rfl,Oper.upon_enter]
     refine (cone_q _).mono ?_
     rintro e w1 ⟨s_,A_,n_,c_,B_,m_,d_,rfl,hq,hh⟩
     exact ⟨_,rfl,hh,s_,A_,n_,c_,B_,m_,d_,rfl,hq⟩
   | 1,ho =>
     obtain rfl:o1_cptz=o:=Option.some.inj ho
     cases hd
     refine wpOp_plain' (o:=o1_cptz) rfl rfl ?_
     unfold Oper.wp o1_cptz
     rw [run_fH2 (E1 sv),Oper.upon_value]
     exact ⟨_,rfl,Below.refl _ _,rfl⟩
   | 2,ho =>
     obtain rfl:o2_cptz=o:=Option.some.inj ho
     cases hd
     have f8:sv 8=Value.pointer (some ⟨gm,6,none⟩):=hf ⟨1,.data⟩ (by simp [o2_cptz]) rfl _ 8 rfl rfl (NE _ (by decide))
     refine wpOp_plain' (o:=o2_cptz) rfl rfl ?_
     unfold Oper.wp o2_cptz
     rw [run_loadH2 ((G sv 8 (by decide) (by decide)).trans f8) XA,Oper.upon_value]
     exact ⟨_,rfl,Below.refl _ _,rfl⟩
   | 3,ho =>
     obtain rfl:o3_cptz=o:=Option.some.inj ho
     cases hd
     have h7:VQ (Rat.divInt 1 1) (1) (sv 7) w':=hf ⟨0,.data⟩ (by simp [o3_cptz]) rfl _ 7 rfl rfl (NE _ (by decide))
     obtain ⟨s7_,A7_,n7_,c7_,B7_,m7_,d7_,f7,q7⟩:=h7
     have f9:sv 9=Value.agg #[.bool h.w.s,.slice h.w.A h.w.n h.w.c,.slice h.w.B h.w.m h.w.d]:=hf ⟨2,.data⟩ (by simp [o3_cptz]) rfl _ 9 rfl rfl (NE _ (by decide))
     refine wpOp_plain' (o:=o3_cptz) rfl rfl ?_
     unfold Oper.wp o3_cptz
     rw [rc_gesso_rat_Div ((G sv 7 (by decide) (by decide)).trans f7) ((G sv 9 (by decide) (by decide)).trans f9) rfl,Oper.upon_enter]
     refine (rdiv_q q7.qr M.qw (by decide) (by omega) (.inl (by decide)) (by decide) (by omega) h0).mono ?_
     rintro e w1 ⟨s_,A_,n_,c_,B_,m_,d_,rfl,hq,hh⟩
     exact ⟨_,rfl,hh,s_,A_,n_,c_,B_,m_,d_,rfl,hq⟩
   | 4,ho =>
     obtain rfl:o4_cptz=o:=Option.some.inj ho
     cases hd
     have f:=hf ⟨3,.data⟩ (by simp [o4_cptz]) rfl _ 10 rfl rfl (NE _ (by decide))
     refine wpOp_plain' (o:=o4_cptz) rfl rfl ?_
     unfold Oper.wp o4_cptz
     rw [run_move (G sv 10 (by decide) (by decide)),Oper.upon_value]
     exact ⟨_,rfl,Below.refl _ _,f⟩
   | 5,ho =>
     obtain rfl:o5_cptz=o:=Option.some.inj ho
     cases hd
     have h6:VQEa (Rat.divInt 1 1 / v.w) (1+k) (sv 6) w':=hf ⟨4,.data⟩ (by simp [o5_cptz]) rfl _ 6 rfl rfl (NE _ (by decide))
     obtain ⟨s6_,A6_,n6_,c6_,B6_,m6_,d6_,f6,q6⟩:=h6
     refine wpOp_plain' (o:=o5_cptz) rfl rfl ?_
     unfold Oper.wp o5_cptz
     rw [run_ext0 ((G sv 6 (by decide) (by decide)).trans f6),Oper.upon_value]
     exact ⟨_,rfl,Below.refl _ _,s6_,A6_,n6_,c6_,B6_,m6_,d6_,rfl,q6⟩
   | 6,ho =>
     obtain rfl:o6_cptz=o:=Option.some.inj ho
     cases hd
     have h6:VQEa (Rat.divInt 1 1 / v.w) (1+k) (sv 6) w':=hf ⟨4,.data⟩ (by simp [o6_cptz]) rfl _ 6 rfl rfl (NE _ (by decide))
     obtain ⟨s6_,A6_,n6_,c6_,B6_,m6_,d6_,f6,q6⟩:=h6
     refine wpOp_plain' (o:=o6_cptz) rfl rfl ?_
     unfold Oper.wp o6_cptz
     rw [run_ext1 ((G sv 6 (by decide) (by decide)).trans f6),Oper.upon_value]
     exact ⟨_,rfl,Below.refl _ _,rfl⟩
   | 7,ho=>cases ho;cases hd;exact absurd rfl (hia (B0_cptp v k) (List.Mem.head _))
   | 8,ho=>cases ho;cases hd
   | 9,ho =>
     obtain rfl:o9_cptz=o:=Option.some.inj ho
     cases hd
     have f:=hf ⟨6,.data⟩ (by simp [o9_cptz]) rfl _ 12 rfl rfl (NE _ (by decide))
     refine wpOp_plain' (o:=o9_cptz) rfl rfl ?_
     unfold Oper.wp o9_cptz
     rw [run_assign (G sv 12 (by decide) (by decide)),Oper.upon_value]
     exact ⟨_,rfl,Below.refl _ _,f⟩
   | i+10,ho=>cases ho
 · intro p hp os sv w' g hos J0 p1 p3 hf
   simp only [List.mem_cons,List.not_mem_nil,or_false] at hp
   rcases hp with rfl
   · obtain rfl:o8_cptz=os:=Option.some.inj hos
     have h1:VQ (Rat.divInt 1 1 / v.w) (1+k) (sv 11) w':=hf ⟨5,.data⟩ (by simp [o8_cptz]) rfl _ 11 rfl rfl (NE _ (by decide))
     rw [← G sv 11 (by decide) (by decide)] at h1
     refine store_q (V:=Rat.divInt 1 1 / v.w) (k:=1+k) (ac:=putAll ac L_cptz sv) (z:=.tmp 11) ?_ ?_ ?_
     · exact (G sv 4 (by decide) (by decide)).trans p1
     · exact h1
     · exact p3
 · intro sv w' J0 hF hB hap
   obtain ⟨g0,cs0,p0,r0,b0,⟨s0,A0,n0,c0,B0,m0,d0,rfl,h0⟩⟩:=hB (B0_cptp v k) (List.Mem.head _)
   have p0':sv 4=.pointer (some ⟨g0,0,none⟩):=p0
   exact hend sv w' g0 _ _ _ _ _ _ _ h0 b0.at_ r0 p0' (hF 9 _ 5 rfl rfl (NE _ (by decide)))  J0
theorem mkbx32_13 {w W:World} {x0 x1 x2 x3 x4 x5 x6 x7 x8 x9 x10 x11 x12 x13 x14:Value} (h:((w.alloc (Obj.cells #[x0,x1,x2,x3,x4,x5,x6,x7,x8] 55)).alloc (Obj.cells #[x9,x10,x11,x12,x13,x14] 49))=W):Below w.heap.size w W∧BH W (w.heap.size) x0 x1 x2 x3 x4 x5 x6 x7 x8∧B6 W (w.heap.size+1) x9 x10 x11 x12 x13 x14∧W.heap.size=w.heap.size+2:=by subst h;exact ⟨by exact (((Below.refl _ _).alloc (Nat.le_refl _) _).alloc (by simp) _),by exact (BH.new' _ _ _ _ _ _ _ _ _ _ _ rfl).alloc _,by exact B6.new' _ _ _ _ _ _ _ _ (by simp),by simp⟩
theorem cpoint_p {k:Nat} {v:AH} {h:HV} (M:HR w h v k) (hk:k≤15000) (h1:1≤k) (h0:v.w ≠ 0) :
 Calls Tryz.prog 19 #[.agg #[.bool h.x.s,.slice h.x.A h.x.n h.x.c,.slice h.x.B h.x.m h.x.d,.bool h.y.s,.slice h.y.A h.y.n h.y.c,.slice h.y.B h.y.m h.y.d,.bool h.w.s,.slice h.w.A h.w.n h.w.c,.slice h.w.B h.w.m h.w.d]] w (GivesPtE w v.px v.py (k+(1+k))):=by
 go_enter Tryz.func19,Tryz.ntmps19
 go_upto_region 1 with (fail)
 generalize hW:World.alloc _ _=W
 obtain ⟨hb,XA,Z,hzW⟩:=mkbx32_13 hW;clear hW;replace M:=M.below hb
 refine cptp_region (by simp) rfl XA M (by omega) h1 h0 ?_
 intro V1 w_t g_t s_t A_t n_t c_t B_t m_t d_t tq XT hg_t hvt hv5 hh
 simp only [putAll,Act.put,List.setIfInBounds_toArray,List.set_cons_zero,List.set_cons_succ,hvt,hv5]
 clear hvt hv5;rw [one_q] at tq;replace M:=M.below hh;replace XA:=XA.below hh;replace Z:=Z.below hh;replace hb:=bend hb hh;obtain ⟨xa0,xa1,xa2,xa3,xa4,xa5,xa6,xa7,xa8⟩:=XA.all;obtain ⟨xt0,xt1,xt2⟩:=XT.all
 go_wp2_with (first
  | (go_at_call 49;(with_reducible refine (pscale_p M.pt tq.qr (by omega) (by omega) (.inl (by omega)) (by omega) (by omega)).mono ?_);rintro e w_r ⟨s_r,A_r,n_r,c_r,B_r,m_r,d_r,t_r,E_r,i_r,e_r,F_r,j_r,f_r,rfl,r,hh⟩
     (try replace M:=M.below hh);(try replace XA:=XA.below hh);(try replace Z:=Z.below hh);(try replace XT:=XT.below hh);(try replace tq:=tq.below hh);replace hb:=bend hb hh;have zg0:=Z.f0;have zg1:=Z.f1;have zg2:=Z.f2;have zg3:=Z.f3;have zg4:=Z.f4;have zg5:=Z.f5;obtain ⟨zc0,zc1,zc2,zc3,zc4,zc5⟩:=Z.all))
 have Z2:=Z.set6 (.bool s_r) (.slice A_r n_r c_r) (.slice B_r m_r d_r) (.bool t_r) (.slice E_r i_r e_r) (.slice F_r j_r f_r)
 obtain ⟨g0,g1,g2,g3,g4,g5⟩:=Z2.all
 refine bodyPost_ret (v:=.tuple #[.agg #[.bool s_r,.slice A_r n_r c_r,.slice B_r m_r d_r,.bool t_r,.slice E_r i_r e_r,.slice F_r j_r f_r],.int .i64 0]) (by rw [results_cell_tmp Tryz.results19];simp [go_sem,asAddr,Result.andThen,g0,g1,g2,g3,g4,g5]) rfl ?_
 exact ⟨s_r,A_r,n_r,c_r,B_r,m_r,d_r,t_r,E_r,i_r,e_r,F_r,j_r,f_r,rfl,r.set6 Z _ _ _ _ _ _,below_set6 hb (by omega) _ _ _ _ _ _⟩
theorem st_newH (w:World) (a0 a1 a2 a3 a4 a5 a6 a7 a8:Value) (h1:(#[a0,a1,a2,a3,a4,a5,a6,a7,a8]:Array Value).all (·.oneCell')=true):(STH ⟨w.heap.size,0,none⟩ (.agg #[a0,a1,a2,a3,a4,a5,a6,a7,a8])).run Tryz.prog (w.alloc (.cells #[.bool false,.slice none 0 0,.slice none 0 0,.bool false,.slice none 0 0,.slice none 0 0,.bool false,.slice none 0 0,.slice none 0 0] 55))=.ok () (w.alloc (.cells #[a0,a1,a2,a3,a4,a5,a6,a7,a8] 55)) :=
 run_storeVar_new w _ _ _ (by kernel_rfl) rfl h1
theorem sgn_p {v:Rat} (h:0 < v):sgnQ v=1:=by unfold sgnQ;rw [if_neg (by grind),if_neg (by grind)]
theorem sgn_np {v:Rat} (h:¬ 0 < v):sgnQ v≤0:=by
 unfold sgnQ
 by_cases q:v < 0
 · rw [if_pos q];decide
 · rw [if_neg q,if_pos (by grind)];decide
def GoodH (V:List AH):Prop:=(2≤V.length∧V.length≤4)∧∀ u ∈ V,0 < u.w
theorem cgood_s {A:Option Addr} {n c:Nat} (h:n < 2) :
 Calls Tryz.prog 28 #[.slice A n c] w fun e w'=>e=.returned (.bool false)∧Below w.heap.size w w':=by
 have hs:(n:Int) < 2:=by omega
 clear h
 have hb:Below w.heap.size w w:=Below.refl _ _
 go_enter Tryz.func28,Tryz.ntmps28
 go_wp2_with fail
 (try rw [Exit.noGoto_ret])
 go_ret;exact ⟨rfl,hb⟩
theorem cgood_l {A:Option Addr} {n c:Nat} (h:4 < n) :
 Calls Tryz.prog 28 #[.slice A n c] w fun e w'=>e=.returned (.bool false)∧Below w.heap.size w w':=by
 have hs:¬ (n:Int) < 2:=by omega
 have hs2:(4:Int) < (n:Int):=by omega
 clear h
 have hb:Below w.heap.size w w:=Below.refl _ _
 go_enter Tryz.func28,Tryz.ntmps28
 go_wp2_with fail
 (try rw [Exit.noGoto_ret])
 go_ret;exact ⟨rfl,hb⟩
theorem cgood_w {A:Option Addr} {n c k:Nat} {L:List HV} {V:List AH} (hL:SV w A (hvs L)) (hE:EachH HR w L V k) (hn:L.length=n) (h2:2≤n) (h4:n≤4) (hk:k≤90000) (h1:1≤k) (R:Bool) (hR0:R=true ↔ ∀ u ∈ V,0 < u.w) :
 Calls Tryz.prog 28 #[.slice A n c] w fun e w'=>e=.returned (.bool R)∧Below w.heap.size w w':=by
 have HN:=Lib.hid hn
 have HVl:Hid (V.length=n):=hE.1.symm.trans hn
 have HL9:=Lib.hid hL;have E9:=Lib.hid hE;have HR0:=Lib.hid hR0
 have ha2:¬ (n:Int) < 2:=by omega
 have ha4:¬ (4:Int) < (n:Int):=by omega
 clear hL hE hn hR0
 go_enter Tryz.func28,Tryz.ntmps28
 go_wp2_with fail
 go_loopg [15] n (fun gk ix wr=>∃ (m:Nat),Hid (gk+m=n)∧ix=.int .i64 (m:Int)∧Hid (∀ (i:Nat) (u:AH),i < m→V[i]?=some u→0 < u.w)∧Below w.heap.size w wr)
 case atStart=>exact ⟨0,Nat.add_zero _,rfl,fun i p hi=>absurd hi (by omega),Below.refl _ _⟩
 case round =>
  obtain ⟨m,HG,rfl,HS,hb⟩:=hrel
  by_cases hmn:m < n
  · have HMN:=Lib.hid hmn
    obtain ⟨P,u,hP1,hu1,p0⟩:=E9.out.at_ (i:=m) (by rw [HN.out];exact hmn)
    obtain ⟨g0,o0,hix0,EP0,_⟩:=(HL9.out.below hb).ht hP1
    have hixa:∀ w',(Instr.indexAt 22 (.slice A n c) (.int .i64 (m:Int))).run Tryz.prog w'=.ok (.pointer (some ⟨g0,o0,none⟩)) w':=fun w'=>hix0 n c w' hmn
    have hlt:(m:Int) < (n:Int):=by omega
    have hwr:IntKind.i64.wrap ((m:Int)+1)=(m:Int)+1:=IntWalk.i64_in _ (by omega)
    have HU:=Lib.hid hu1
    have pw:=(p0.below hb).qw
    have epl:=EP0.ldH
    have zs:=st_newH wr (.bool P.x.s) (.slice P.x.A P.x.n P.x.c) (.slice P.x.B P.x.m P.x.d) (.bool P.y.s) (.slice P.y.A P.y.n P.y.c) (.slice P.y.B P.y.m P.y.d) (.bool P.w.s) (.slice P.w.A P.w.n P.w.c) (.slice P.w.B P.w.m P.w.d) (by simp [Value.oneCell'])
    have XN:=BH.new' wr (.bool P.x.s) (.slice P.x.A P.x.n P.x.c) (.slice P.x.B P.x.m P.x.d) (.bool P.y.s) (.slice P.y.A P.y.n P.y.c) (.slice P.y.B P.y.m P.y.d) (.bool P.w.s) (.slice P.w.A P.w.n P.w.c) (.slice P.w.B P.w.m P.w.d) wr.heap.size rfl
    have xn6:=XN.c6;have xn7:=XN.c7;have xn8:=XN.c8
    have hbn:Below wr.heap.size wr (wr.alloc (Obj.cells #[.bool P.x.s,.slice P.x.A P.x.n P.x.c,.slice P.x.B P.x.m P.x.d,.bool P.y.s,.slice P.y.A P.y.n P.y.c,.slice P.y.B P.y.m P.y.d,.bool P.w.s,.slice P.w.A P.w.n P.w.c,.slice P.w.B P.w.m P.w.d] 55)):=(Below.refl _ _).alloc (Nat.le_refl _) _
    have pn:=pw.below hbn;have hb2:=bend hb hbn;clear hP1 hu1 hix0 hmn p0 EP0 XN pw
    by_cases hs:0 < u.w
    · have HT:Hid (sgnQ u.w=1):=by exact sgn_p hs
      have HSM:=Lib.hid hs;clear hs
      go_wp2_with (first
       | (go_at_call 24;(with_reducible refine (rsign_q pn hk h1).mono ?_);rintro e w_z ⟨rfl,hh⟩;rw [HT.out];replace hb2:=bend hb2 hh))
      go_roundg (gk - 1)
      case measure=>have:=HG.out;have:=HMN.out;omega
      case rel =>
       refine ⟨m+1,by have:=HG.out;have:=HMN.out;show _=_;omega,by go_num,fun i v hi h5=>?_,hb2⟩
       rcases Nat.lt_or_ge i m with h | h
       · exact HS.out i v h h5
       · obtain rfl:i=m:=by omega
         rw [HU.out] at h5;cases h5;exact HSM.out
    · obtain ⟨T,hT,hT0⟩:∃ T,sgnQ u.w=T∧T≤0:=⟨_,rfl,sgn_np hs⟩
      have HT:=Lib.hid hT
      have HF:Hid (false=R):=by
       show _=_
       cases R with
       | false=>rfl
       | true=>exact absurd (HR0.out.1 rfl _ (List.mem_of_getElem? HU.out)) hs
      clear hs hT
      go_wp2_with (first
       | (go_at_call 24;(with_reducible refine (rsign_q pn hk h1).mono ?_);rintro e w_z ⟨rfl,hh⟩;rw [HT.out];replace hb2:=bend hb2 hh))
      (try rw [Exit.noGoto_ret])
      go_ret
      exact ⟨by rw [← HF.out];rfl,hb2⟩
  · have hlt:¬ (m:Int) < (n:Int):=by omega
    have HT:Hid (true=R):=by
     refine (HR0.out.2 fun p hp=>?_).symm
     obtain ⟨i,hi⟩:=List.getElem?_of_mem hp
     have h7:=(List.getElem?_eq_some_iff.1 hi).1
     rw [HVl.out] at h7
     exact HS.out i p (by omega) hi
    clear hmn
    go_wp2_with fail
    (try rw [Exit.noGoto_ret])
    go_ret
    exact ⟨by rw [← HT.out];rfl,hb⟩
end
section
open Go Go.RowKit
attribute [local go_sem ↓] open_LVH open_STH open_LVJ open_STJ
theorem EH.push {w w':World} {g o:Nat} {p:HV} {row:Option Nat} (h:EH w g o p) (hg:w.grownBy w' row) (hne:∀ k,row=some k→k ≠ g):EH w' g o p :=
 ⟨Nat.lt_of_lt_of_le h.1 hg.size,fun j v e=>(World.cell?_of_block (a:=⟨g,o+j,none⟩) (hg.block g h.1 (fun e=>hne g e.symm rfl))).trans (h.2 j v e)⟩
theorem B3.pushH {w w':World} {g:Nat} {x y z:Value} {row:Option Nat} (h:B3 w g x y z) (hg:w.grownBy w' row) (hne:∀ k,row=some k→k ≠ g):B3 w' g x y z :=
 (hg.block g h.lt (fun e=>hne g e.symm rfl)).trans h
theorem LnH.own_base {T:TypeId} {base g:Nat} {v:Value} {L:List HV} (h:LnH T base w v L) (hg:v.ownBlock=some g):base≤g:=(h.own.lt g hg).1
theorem cbelow_hs {A A1 A2:Option Addr} {n c n1 c1 n2 c2 k kt:Nat} {s:Bool} {L:List HV} {V:List AH} {vt:Rat} (hL:SV w A (hvs L)) (hE:EachH HR w L V k) (hn:L.length=n) (q:QR w s A1 n1 c1 A2 n2 c2 vt kt) (hn1:1≤n) (hm:n≤1000) (hk:k≤10000) (ht:kt≤1000) (h1:1≤k) (h2:1≤kt) :
 Calls Tryz.prog 86 #[.slice A n c,.agg #[.bool s,.slice A1 n1 c1,.slice A2 n2 c2]] w (GivesHs w (rowB vt V) (3*k+kt+2)):=by
 have HN:=Lib.hid hn
 have HVl:Hid (V.length=n):=hE.1.symm.trans hn
 have HL9:=Lib.hid hL;have E9:=Lib.hid hE
 have HRl:Hid ((rowB vt V).length=n - 1):=by show _=_;rw [rowB_length,HVl.out]
 clear hL hE hn
 have hwr2:IntKind.i64.wrap ((n:Int) - 1)=(n:Int) - 1:=IntWalk.i64_in _ (by omega)
 go_enter Tryz.func86,Tryz.ntmps86
 go_upto_region 1 with (fail)
 generalize hW:World.alloc _ _=W
 obtain ⟨hb,XT,hzW⟩:=mkbx9_8 hW;clear hW;replace q:=q.below hb;have XT9:=Lib.hid XT;have Q9:=Lib.hid q;clear q XT;have HB9:=Lib.hid hb
 go_wp2_with fail
 go_loopg [5,10] (n - 1) (fun gk out ix wr=>∃ (M:List HV) (m:Nat),Hid (gk+m+1=n)∧ix=.int .i64 (m:Int)∧LnH 55 (w.heap.size+1) wr out M∧Hid (EachH HG wr M ((rowB vt V).take m) (3*k+kt+2))∧Below W.heap.size W wr)
 case atStart=>exact ⟨[],0,by show n - 1+0+1=n;omega,rfl,LnH.nil _ _ _,⟨rfl,fun i p u h=>by cases h⟩,Below.refl _ _⟩
 case round =>
  obtain ⟨M,m,HGK,rfl,LT,HQ,hB⟩:=hrel
  by_cases hmn:m+1 < n
  · obtain ⟨P,u,hP1,hu1,p0⟩:=E9.out.at_ (i:=m) (by rw [HN.out];omega)
    obtain ⟨Q,v,hP2,hu2,q0⟩:=E9.out.at_ (i:=m+1) (by rw [HN.out];exact hmn)
    obtain ⟨g0,o0,hix0,EP0,_⟩:=HL9.out.ht hP1
    obtain ⟨g1,o1,hix1,EQ0,_⟩:=HL9.out.ht hP2
    have hixa:∀ w',(Instr.indexAt 22 (.slice A n c) (.int .i64 (m:Int))).run Tryz.prog w'=.ok (.pointer (some ⟨g0,o0,none⟩)) w':=fun w'=>hix0 n c w' (by omega)
    have hixb:∀ w',(Instr.indexAt 22 (.slice A n c) (.int .i64 ((m:Int)+1))).run Tryz.prog w'=.ok (.pointer (some ⟨g1,o1,none⟩)) w':=fun w'=>by
     have:=hix1 n c w' hmn
     rwa [show ((m+1:Nat):Int)=(m:Int)+1 by omega] at this
    have hlt:(m:Int) < (n:Int) - 1:=by omega
    have hwr:IntKind.i64.wrap ((m:Int)+1)=(m:Int)+1:=IntWalk.i64_in _ (by omega)
    have HU:=Lib.hid (rowB_get vt V m u v hu1 hu2)
    have hMl:M.length≤1000000:=by have:=HQ.out.1;rw [List.length_take] at this;omega
    have HMN:=Lib.hid hmn;have hbe:=bend HB9.out hB
    have P9:=Lib.hid (p0.below hbe)
    have R9:=Lib.hid (q0.below hbe)
    have EP:=EP0.below hbe;have EQ:=EQ0.below hbe;have q:=Q9.out.below hB;have XT:=XT9.out.below hB
    have hxg:∀ b,u5.ownBlock=some b→b ≠ g0:=fun b e=>by have:=LT.own_base e;have:=EP0.lt;omega
    have hxq:∀ b,u5.ownBlock=some b→b ≠ g1:=fun b e=>by have:=LT.own_base e;have:=EQ0.lt;omega
    have hxt:∀ b,u5.ownBlock=some b→b ≠ w.heap.size:=fun b e=>by have:=LT.own_base e;omega
    have hsz:w.heap.size+1≤W.heap.size:=by omega
    clear hP1 hP2 hu1 hu2 hix0 hix1 hmn p0 q0 EP0 EQ0 hbe
    go_upto_region 5 with (fail)
    replace LT:=LT.below (Below.refl _ _).drew
    replace EP:=EP.below (Below.refl _ _).drew
    replace EQ:=EQ.below (Below.refl _ _).drew
    replace XT:=XT.below (Below.refl _ _).drew
    replace q:=q.below (Below.refl _ _).drew
    replace HQ:=Lib.hid (EachH.belowG HQ.out (Below.refl _ _).drew)
    replace hB:=hB.drew
    have p:=P9.out.below (Below.refl _ _).drew
    have r:=R9.out.below (Below.refl _ _).drew
    clear P9 R9
    go_region_held3 (fun w'=>(LVH ⟨g0,o0,none⟩).run Tryz.prog w'=.ok (.agg #[.bool P.x.s,.slice P.x.A P.x.n P.x.c,.slice P.x.B P.x.m P.x.d,.bool P.y.s,.slice P.y.A P.y.n P.y.c,.slice P.y.B P.y.m P.y.d,.bool P.w.s,.slice P.w.A P.w.n P.w.c,.slice P.w.B P.w.m P.w.d]) w'∧(LVH ⟨g1,o1,none⟩).run Tryz.prog w'=.ok (.agg #[.bool Q.x.s,.slice Q.x.A Q.x.n Q.x.c,.slice Q.x.B Q.x.m Q.x.d,.bool Q.y.s,.slice Q.y.A Q.y.n Q.y.c,.slice Q.y.B Q.y.m Q.y.d,.bool Q.w.s,.slice Q.w.A Q.w.n Q.w.c,.slice Q.w.B Q.w.m Q.w.d]) w'∧w'.cell? ⟨w.heap.size,0,none⟩=some (.bool s)∧w'.cell? ⟨w.heap.size,1,none⟩=some (.slice A1 n1 c1)∧w'.cell? ⟨w.heap.size,2,none⟩=some (.slice A2 n2 c2))
     (first | with_reducible exact ⟨EPb.ldH,EQb.ldH,XTb.c0,XTb.c1,XTb.c2⟩ | with_reducible exact ⟨EP.ldH,EQ.ldH,XT.c0,XT.c1,XT.c2⟩ | exact ⟨(EP.below ((Below.refl _ _).alloc (Nat.le_refl _) _)).ldH,(EQ.below ((Below.refl _ _).alloc (Nat.le_refl _) _)).ldH,(XT.below ((Below.refl _ _).alloc (Nat.le_refl _) _)).c0,(XT.below ((Below.refl _ _).alloc (Nat.le_refl _) _)).c1,(XT.below ((Below.refl _ _).alloc (Nat.le_refl _) _)).c2⟩)
     (first
     | (go_at_call 116;(with_reducible refine (cmix_h p r q hk ht h1 h2).mono ?_);rintro e w_y ⟨y,rfl,yh,hh⟩
        (try replace LT:=LT.below hh);(try replace EP:=EP.below hh);(try replace EQ:=EQ.below hh);(try replace XT:=XT.below hh);(try replace q:=q.below hh);(try replace p:=p.below hh);(try replace r:=r.below hh)
        replace HQ:=Lib.hid (EachH.belowG HQ.out hh)
        replace hB:=bend hB hh)
     | (have hal:Below w_y.heap.size w_y (w_y.alloc (Obj.cells #[Value.bool y.x.s,Value.slice y.x.A y.x.n y.x.c,Value.slice y.x.B y.x.m y.x.d,Value.bool y.y.s,Value.slice y.y.A y.y.n y.y.c,Value.slice y.y.B y.y.m y.y.d,Value.bool y.w.s,Value.slice y.w.A y.w.n y.w.c,Value.slice y.w.B y.w.m y.w.d] 55)):=(Below.refl _ _).alloc (Nat.le_refl _) _
        have EPa:=EP.below hal;have EQa:=EQ.below hal;have XTa:=XT.below hal
        refine step_pushH Tryz.underlying22 info_hom (by rfl) _ _ (by rfl) (p:=y) (k0:=1) (b:=w_y.heap.size) (by rfl) (by rfl) (LT.below hal) (by have h5:=hB.size;have h6:=hal.size;omega) hMl (heap_alloc_new w_y _) ?_
        intro v3 w3 hn3 hg3 ho3
        have EPb:=EPa.push hg3 hxg;have EQb:=EQa.push hg3 hxq;have XTb:=XTa.pushH hg3 hxt))
    have hE3:EachH HG (w_y.alloc (Obj.cells #[Value.bool y.x.s,Value.slice y.x.A y.x.n y.x.c,Value.slice y.x.B y.x.m y.x.d,Value.bool y.y.s,Value.slice y.y.A y.y.n y.y.c,Value.slice y.y.B y.y.m y.y.d,Value.bool y.w.s,Value.slice y.w.A y.w.n y.w.c,Value.slice y.w.B y.w.m y.w.d] 55)) M ((rowB vt V).take m) (3*k+kt+2):=EachH.belowG HQ.out hal
    have hp3:HG (w_y.alloc (Obj.cells #[Value.bool y.x.s,Value.slice y.x.A y.x.n y.x.c,Value.slice y.x.B y.x.m y.x.d,Value.bool y.y.s,Value.slice y.y.A y.y.n y.y.c,Value.slice y.y.B y.y.m y.y.d,Value.bool y.w.s,Value.slice y.w.A y.w.n y.w.c,Value.slice y.w.B y.w.m y.w.d] 55)) y (u.mix v vt) (3*k+kt+2):=yh.below hal
    have hB9:=LnH.under (T:=55) (base:=w.heap.size+1) (LT.below hal) hg3 (w0:=W) (bend hB hal) (by omega)
    have hE4:=takeH HU.out (EachH.push hE3 (fun _ _ h=>(LT.below hal).hg hg3 h) ((LT.below hal).hg hg3 hp3))
    clear hE3 hp3 EPa EQa XTa EPb EQb XTb EP EQ XT q p r yh
    go_wp2_with fail
    go_roundg (gk - 1)
    case measure=>have:=HGK.out;have:=HMN.out;omega
    case rel=>exact ⟨M ++ [y],m+1,by have:=HGK.out;have:=HMN.out;show _=_;omega,by go_num,hn3,hE4,hB9⟩
  · have hlt:¬ (m:Int) < (n:Int) - 1:=by omega
    have HQ2:Hid (EachH HG wr M (rowB vt V) (3*k+kt+2)):=by
     have h:=HQ.out
     rwa [List.take_of_length_le (by rw [HRl.out];omega)] at h
    clear hmn
    go_wp2_with fail
    (try rw [Exit.noGoto_ret])
    go_ret
    exact ⟨_,M,rfl,LT.base_le (Nat.le_succ _),HQ2.out,bend HB9.out hB⟩
end
section
open Go Go.RowKit
attribute [local go_sem] Oper.semAt_some
attribute [local go_sem ↓] open_LVH open_STH open_LVJ open_STJ
def lenS:Value→Nat
 | .slice _ n _=>n
 | _=>0
theorem B3.kp {W W':World} {g:Nat} {s:Bool} {y z:Value} (h:B3 W g (.bool s) y z) (hk:KpS W W'):B3 W' g (.bool s) y z :=
 (hk.same g 0 _ h.c0 (fun _ _ _ e=>by cases e)).trans h
theorem grown_below {W W':World} (hb:Below W.heap.size W W'):W.grownBy W' none:=⟨hb.os,hb.tape,hb.output,hb.size,fun i hi _=>hb.block i hi⟩
theorem rows1_in (d:Nat) (hd:2≤d) (l Bl Bt:Nat) {s:Bool} {A A1 A2:Option Addr} {n c n1 c1 n2 c2 k kt:Nat} {vt:Rat} {L:List HV} {V:List AH} (hn1:1≤n) (hm:n≤1000) (hk:kRow k kt (n - 1)≤10000) (ht:kt≤1000) (h1:1≤k) (h2:1≤kt) (J:List RowX→World→Prop)
 (hY:∀ pre x W,J pre W→RowX.In x W→pre.length < n→YieldAt Fence.wide (d - 1) Tryz.prog l (RowX.encs x) W fun e W'=>e=.returned (.bool true)∧J (pre ++ [x]) W'∧KpS W W')
 (W:World) (hJ:AbidesFrom W.heap.size J) (hBl:Boxed W Bl 22 (.slice A n c)) (XT:B3 W Bt (.bool s) (.slice A1 n1 c1) (.slice A2 n2 c2)) (hL:SV W A (hvs L)) (hE:EachH HR W L V k) (hn:L.length=n) (q:QR W s A1 n1 c1 A2 n2 c2 vt kt) (h0:J [] W) :
 CallsIn Fence.wide d Tryz.prog 85 #[.func (.yield l) #[] #[],.pointer (some ⟨Bl,0,none⟩),.pointer (some ⟨Bt,0,none⟩)] W fun e W'=>(∃ v,e=.returned v)∧∃ xs,J xs W'∧LastRow vt V kt k xs W':=by
 have hd1:1≤d:=by omega
 have hc0:=hBl.cell
 have hVl:V.length=n:=hE.1.symm.trans hn
 have HV9:=Lib.hid hVl;have HN:=Lib.hid hn;have X9:=Lib.hid XT;have L9:=Lib.hid hL;have E9:=Lib.hid hE;have Q9:=Lib.hid q;clear hBl hVl hn XT hL hE q
 refine callsIn_of_wp Tryz.func85 rfl trivial ?_ rfl
 simp only [Tryz.ntmps85,List.size_toArray,List.length_cons,List.length_nil,Nat.reduceAdd,Nat.reduceSub,Array.replicate_succ,Array.replicate_zero,List.push_toArray,List.append_toArray,List.nil_append,List.cons_append]
 gi_wp2
 gi_loopw [4] (fun row wr=>∃ (pre:List RowX) (j n' c':Nat) (A':Option Addr) (L':List HV),row=.slice A' n' c'∧Hid (j+n'=n)∧Hid (SV wr A' (hvs L'))∧Hid (EachH HR wr L' (rowN vt j V) (kRow k kt j))∧Hid (L'.length=n')∧Hid (pre.length=j)∧Hid (j=0 ∨ ∃ x:RowX,pre.getLast?=some x∧x.In wr∧x.V=rowN vt (j - 1) V∧x.k=kRow k kt (j - 1))∧Hid (B3 wr Bt (.bool s) (.slice A1 n1 c1) (.slice A2 n2 c2))∧Hid (QR wr s A1 n1 c1 A2 n2 c2 vt kt)∧J pre wr)
  (fun row _=>lenS row)
 case atStart=>exact ⟨[],0,n,c,A,L,rfl,Nat.zero_add _,L9.out,E9.out,HN.out,rfl,.inl rfl,X9.out,Q9.out,h0⟩
 case round =>
  obtain ⟨pre,j,n',c',A',L',rfl,HJ,HL,HE,HNL,HP,HLast,HX,HQ,hJs⟩:=hrel
  by_cases hz:0 < n'
  · have hz':(0:Int) < (n':Int):=by omega
    obtain ⟨x,hx⟩:∃ x:RowX,x=⟨A',n',c',L',rowN vt j V,kRow k kt j⟩:=⟨_,rfl⟩
    have hin:x.In wr:=by rw [hx];exact ⟨HL.out,HE.out,HNL.out⟩
    have hxe:RowX.encs x=#[.slice A' n' c']:=by rw [hx];rfl
    have hxv:x.V=rowN vt j V∧x.k=kRow k kt j:=by rw [hx];exact ⟨rfl,rfl⟩
    have hjn:j < n:=by have:=HJ.out;omega
    have hY1:=hY pre x wr hJs hin (by rw [HP.out];exact hjn)
    obtain ⟨fn,tmps,assign,body,hy,hRR⟩:=hY1
    rw [hxe] at hy;have HXV:=Lib.hid hxv;have HIN:=Lib.hid hin;have HZ:=Lib.hid hz;have HJN:=Lib.hid hjn;clear hxe hx hxv hin hz hjn
    gi_wp2
    refine hRR.mono ?_
    rintro e W3 ⟨rfl,hJ3,hk3⟩
    have XT:=HX.out.kp hk3;have q:=HQ.out.kp hk3;have hL3:=HL.out.kp hk3
    have hE3:EachH HR W3 L' (rowN vt j V) (kRow k kt j):=HE.out.imp fun _ _ hp=>hp.kp hk3
    have HI3:Hid (x.In W3):=HIN.out.kp hk3
    obtain ⟨xt0,xt1,xt2⟩:=XT.all
    have hkj:kRow k kt j≤10000:=Nat.le_trans (kRow_le (by have:=HJN.out;omega)) hk
    have hk1:1≤kRow k kt j:=kRow_pos h1
    have HXT:=Lib.hid XT;have HL3:=Lib.hid hL3;have HE3:=Lib.hid hE3
    have hn'1:1≤n':=HZ.out
    have hn'2:n'≤1000:=by have:=HJ.out;omega
    clear XT hL3 hE3 hk3 HX HQ HL HE
    gi_wp2_with (refine ⟨trivial,?_⟩;gi_at_call 86;refine (callsIn_wide.2 (cbelow_hs HL3.out HE3.out HNL.out q hn'1 hn'2 hkj ht hk1 h2)).mono ?_;rintro e W4 ⟨v,M,rfl,hlM,heM,hb⟩;obtain ⟨A'',c'',rfl,_,_⟩:=hlM.form)
    go_roundw
    case rel =>
     have hMl:M.length+1=n':=by have h5:=heM.1;rw [rowB_length,rowN_length,HV9.out] at h5;have h6:=HJ.out;omega
     refine ⟨pre ++ [x],j+1,_,_,_,M,rfl,?_,hlM.sv,?_,rfl,?_,.inr ⟨x,by simp,HI3.out.below hb,HXV.out⟩,HXT.out.below hb,q.below hb,hJ _ _ _ none hJ3 (grown_below hb) (fun r e=>by cases e)⟩
     · have h6:=HJ.out;show _=_;omega
     · show EachH HR W4 M (rowN vt (j+1) V) (kRow k kt (j+1))
       rw [rowN_succ];exact heM.hr
     · show (pre ++ [x]).length=j+1
       rw [List.length_append,HP.out];rfl
    case measure =>
     have hMl:M.length+1=n':=by have h5:=heM.1;rw [rowB_length,rowN_length,HV9.out] at h5;have h6:=HJ.out;omega
     simp only [lenS];omega
  · have hz':¬ (0:Int) < (n':Int):=by omega
    have HZ:=Lib.hid hz;clear hz
    gi_wp2
    refine ⟨fun _ h=>(by cases h),?_⟩
    gi_wp2
    go_end0
    refine ⟨⟨_,rfl⟩,pre,hJs,?_⟩
    have h6:=HJ.out;have h7:=HZ.out
    rcases HLast.out with h | ⟨x,x1,x2,x3,x4⟩
    · omega
    · have e:j=V.length:=by rw [HV9.out];omega
      rw [e] at x3 x4
      exact ⟨x,x1,x2,x3,x4⟩
theorem rows_tells (d:Nat) (hd:2≤d) (Bl Bt:Nat) {s:Bool} {A A1 A2:Option Addr} {n c n1 c1 n2 c2 k kt:Nat} {vt:Rat} {L:List HV} {V:List AH} (hn1:1≤n) (hm:n≤1000) (hk:kRow k kt (n - 1)≤10000) (ht:kt≤1000) (h1:1≤k) (h2:1≤kt) (w:World) (hBl:Boxed w Bl 22 (.slice A n c)) (XT:B3 w Bt (.bool s) (.slice A1 n1 c1) (.slice A2 n2 c2)) (hL:SV w A (hvs L)) (hE:EachH HR w L V k) (hn:L.length=n) (q:QR w s A1 n1 c1 A2 n2 c2 vt kt) :
 SeqTells d 85 #[.pointer (some ⟨Bl,0,none⟩),.pointer (some ⟨Bt,0,none⟩)] RowX.encs KpS RowX.In (LastRow vt V kt k) n w:=fun l J W hW hJ hY h0 =>
 rows1_in d hd l Bl Bt hn1 hm hk ht h1 h2 J hY W hJ ((hW.block Bl hBl.lt).trans hBl) (XT.below hW) (hL.below hW) (hE.belowR hW) hn (q.below hW) h0
theorem rows_any {s:Bool} {A A1 A2:Option Addr} {n c n1 c1 n2 c2:Nat} (w:World):Calls Tryz.prog 45 #[.slice A n c,.agg #[.bool s,.slice A1 n1 c1,.slice A2 n2 c2]] w fun e w'=>e=.returned (.func (.func 85) #[] #[.pointer (some ⟨w.heap.size,0,none⟩),.pointer (some ⟨w.heap.size+1,0,none⟩)])∧w'=(w.alloc (.cells #[.slice A n c] 22)).alloc (.cells #[.bool s,.slice A1 n1 c1,.slice A2 n2 c2] 27):=by
 go_enter Tryz.func45,Tryz.ntmps45
 go_wp2
 go_ret
 exact ⟨rfl,rfl⟩
end
section
open Go Go.RowKit
attribute [local go_sem] Oper.semAt_some
attribute [local go_sem ↓] open_LVH open_STH open_LVJ open_STJ
theorem QG.kp {W W':World} {s:Bool} {A B:Option Addr} {n c m d k:Nat} {v:Rat} (h:QG W s A n c B m d v k) (hk:KpS W W'):QG W' s A n c B m d v k:=⟨⟨h.1.1,h.1.2.1.kp hk,h.1.2.2⟩,⟨h.2.1.kp hk,h.2.2⟩⟩
theorem PG.kp {W W':World} {s t:Bool} {A B E F:Option Addr} {n c m d i e j f k:Nat} {x y:Rat} (h:PG W s A n c B m d t E i e F j f x y k) (hk:KpS W W'):PG W' s A n c B m d t E i e F j f x y k:=⟨h.1.kp hk,h.2.kp hk⟩
theorem cgood_any {A:Option Addr} {n c k:Nat} {L:List HV} {V:List AH} (hL:SV w A (hvs L)) (hE:EachH HR w L V k) (hn:L.length=n) (hk:k≤90000) (h1:1≤k) (R:Bool) (hR:R=true ↔ GoodH V) :
 Calls Tryz.prog 28 #[.slice A n c] w fun e w'=>e=.returned (.bool R)∧Below w.heap.size w w':=by
 have hv:V.length=n:=hE.1.symm.trans hn
 by_cases h2:n < 2
 · obtain rfl : R = false := by
     cases R with
     | false=>rfl
     | true=>have:=(hR.1 rfl).1;omega
   exact cgood_s h2
 · by_cases h4:4 < n
   · obtain rfl : R = false := by
       cases R with
       | false=>rfl
       | true=>have:=(hR.1 rfl).1;omega
     exact cgood_l h4
   · refine cgood_w hL hE hn (by omega) (by omega) hk h1 R (hR.trans ⟨fun h=>h.2,fun h=>⟨⟨by omega,by omega⟩,h⟩⟩)
theorem cmp_le {x y:Rat} (h:x≤y):cmpQ x y≤0:=by
 unfold cmpQ
 by_cases q:x < y
 · rw [if_pos q];decide
 · rw [if_neg q,if_neg (by grind)];decide
theorem cvsgn_nn {v:Rat} (h:0≤v):sgnQ v=0 ∨ sgnQ v=1:=by
 unfold sgnQ
 rw [if_neg (by grind)]
 by_cases q:v=0
 · rw [if_pos q];exact .inl rfl
 · rw [if_neg q];exact .inr rfl
theorem mkbx33_13 {w W:World} {x0 x1 x2 x3 x4 x5 x6 x7 x8:Value} (h:((w.alloc (Obj.cells #[x0,x1,x2] 27)).alloc (Obj.cells #[x3,x4,x5,x6,x7,x8] 49))=W):Below w.heap.size w W∧B3 W (w.heap.size) x0 x1 x2∧B6 W (w.heap.size+1) x3 x4 x5 x6 x7 x8∧W.heap.size=w.heap.size+2:=by subst h;exact ⟨by exact (((Below.refl _ _).alloc (Nat.le_refl _) _).alloc (by simp) _),by exact (B3.new' _ _ _ _ _ rfl).alloc _,by exact B6.new' _ _ _ _ _ _ _ _ (by simp),by simp⟩
theorem cat_p0 {A A1 A2:Option Addr} {n c n1 c1 n2 c2 k kt:Nat} {s:Bool} {L:List HV} {V:List AH} {vt:Rat} (hL:SV w A (hvs L)) (hE:EachH HR w L V k) (hn:L.length=n) (q:QR w s A1 n1 c1 A2 n2 c2 vt kt) (hk:kRow k kt (n - 1)≤10000) (ht:kt≤1000) (h1:1≤k) (h2:1≤kt) (hG:GoodH V) (hT0:0≤vt) (hT1:vt≤1) (hT:sgnQ vt=0) :
 Calls Tryz.prog 17 #[.slice A n c,.agg #[.bool s,.slice A1 n1 c1,.slice A2 n2 c2]] w (GivesPtE w (bez vt V).px (bez vt V).py (kRow k kt (n - 1)+(1+kRow k kt (n - 1)))):=by
 have hk0:k≤10000:=Nat.le_trans (kRow_le (Nat.zero_le _)) hk
 have HT:=Lib.hid hT
 obtain ⟨C,hC,hC0⟩:∃ C,cmpQ vt (Rat.divInt 1 1)=C∧¬ 0 < C:=⟨_,rfl,by rw [one_q];have:=cmp_le hT1;omega⟩
 have HC:=Lib.hid hC
 have HW:Hid (0 < (bez vt V).w):=bez_w (by have:=hG.1;omega) hT0 hT1 hG.2
 have HG:Hid (true=true ↔ GoodH V):=⟨fun _=>hG,fun _=>rfl⟩
 have hkG:k≤90000:=by omega
 have hn2:2≤n∧n≤4:=by rw [← hn,hE.1];exact hG.1
 have HVn:Hid (V.length=n):=hE.1.symm.trans hn
 have HN:=Lib.hid hn;clear hC hT hT0 hT1 hG hn
 refine (callsIn_wide (n:=9)).1 ?_
 refine callsIn_of_wp_marks Tryz.func17 rfl trivial ?_ rfl
 refine wpIn_wide.2 ?_
 simp only [Tryz.ntmps17,List.size_toArray,List.length_cons,List.length_nil,Nat.reduceAdd,Nat.reduceSub,Array.replicate_succ,Array.replicate_zero,List.push_toArray,List.append_toArray,List.nil_append,List.cons_append]
 go_upto_region 1 with (fail)
 generalize hW:World.alloc _ _=W
 obtain ⟨hb,XT,Z,hzW⟩:=mkbx33_13 hW;clear hW;replace hL:=hL.below hb;replace q:=q.below hb;replace hE:=EachH.belowR hE hb
 go_upto_region 3 with (first
  | (go_at_call 28;(with_reducible refine (cgood_any hL hE HN.out hkG h1 true HG.out).mono ?_);rintro e w_g ⟨rfl,hh⟩
     (try replace hL:=hL.below hh);(try replace q:=q.below hh);(try replace XT:=XT.below hh);(try replace Z:=Z.below hh);replace hb:=bend hb hh;replace hE:=EachH.belowR hE hh))
 replace hL:=hL.below (Below.refl _ _).drew
 replace q:=q.below (Below.refl _ _).drew
 replace XT:=XT.below (Below.refl _ _).drew
 replace Z:=Z.below (Below.refl _ _).drew
 replace hb:=hb.drew
 replace hE:=EachH.belowR hE (Below.refl _ _).drew
 go_region_held3 (fun w'=>w'.cell? ⟨w.heap.size,0,none⟩=some (.bool s)∧w'.cell? ⟨w.heap.size,1,none⟩=some (.slice A1 n1 c1)∧w'.cell? ⟨w.heap.size,2,none⟩=some (.slice A2 n2 c2))
  (first | with_reducible exact ⟨XT.c0,XT.c1,XT.c2⟩)
  (first
  | (go_at_call 24;(with_reducible refine (rsign_q q (by omega) h2).mono ?_);rintro e w_s ⟨rfl,hh⟩
     rw [HT.out];(try replace hL:=hL.below hh);(try replace q:=q.below hh);(try replace XT:=XT.below hh);(try replace Z:=Z.below hh);replace hb:=bend hb hh;replace hE:=EachH.belowR hE hh)
  | (go_at_call 44;(with_reducible refine (cone_q _).mono ?_);rintro e w_o ⟨s_o,A_o,n_o,c_o,B_o,m_o,d_o,rfl,o,hh⟩
     (try replace hL:=hL.below hh);(try replace q:=q.below hh);(try replace XT:=XT.below hh);(try replace Z:=Z.below hh);replace hb:=bend hb hh;replace hE:=EachH.belowR hE hh)
  | (go_at_call 20;(with_reducible refine (rcmp_q q o.qr (by omega) (by decide) (.inr (by decide)) h2 (by decide)).mono ?_);rintro e w_c ⟨rfl,hh⟩
     rw [HC.out];(try replace hL:=hL.below hh);(try replace q:=q.below hh);(try replace XT:=XT.below hh);(try replace Z:=Z.below hh);(try replace o:=o.below hh);replace hb:=bend hb hh;replace hE:=EachH.belowR hE hh;clear o))
 go_upto_region 6 with (fail)
 have bL:=Boxed.new w_c 22 (.slice none 0 0)
 have hal:Below w_c.heap.size w_c (w_c.alloc (.cells #[.slice none 0 0] 22)):=(Below.refl _ _).alloc (Nat.le_refl _) _
 replace hL:=hL.below hal;replace q:=q.below hal;have hzl:=XT.lt;have hzz:=Z.lt;replace XT:=XT.below hal;replace Z:=Z.below hal;replace hE:=EachH.belowR hE hal;have hb5:=bend hb hal
 have hsz5:(w_c.alloc (.cells #[.slice none 0 0] 22)).heap.size=w_c.heap.size+1:=World.size_alloc _ _
 clear hal hb hh
 generalize w_c.alloc (.cells #[.slice none 0 0] 22)=W5 at *
 generalize w_c.heap.size=gl at *
 obtain ⟨xt0,xt1,xt2⟩:=XT.all
 go_wp2_with (first | (go_at_call 45;(with_reducible refine (rows_any _).mono ?_);rintro e w_r ⟨rfl,rfl⟩))
 obtain ⟨W0,hW0⟩:∃ W0,((W5.alloc (.cells #[.slice A n c] 22)).alloc (.cells #[.bool s,.slice A1 n1 c1,.slice A2 n2 c2] 27))=W0:=⟨_,rfl⟩
 have bl:Boxed W0 (gl+1) 22 (.slice A n c):=by rw [← hW0,← hsz5];exact (Boxed.new W5 _ _).alloc _
 have bt:B3 W0 (gl+1+1) (.bool s) (.slice A1 n1 c1) (.slice A2 n2 c2):=by rw [← hW0];exact B3.new' _ _ _ _ _ (by simp [hsz5])
 have ha0:Below W5.heap.size W5 W0:=by rw [← hW0];exact ((Below.refl _ _).alloc (Nat.le_refl _) _).alloc (by simp) _
 have hs0:W0.heap.size=gl+3:=by rw [← hW0];simp [hsz5]
 rw [hW0];clear hW0 xt0 xt1 xt2 XT;replace hL:=hL.below ha0;replace q:=q.below ha0;replace hE:=EachH.belowR hE ha0
 have bL0:Boxed W0 gl 22 (.slice none 0 0):=(ha0.block gl bL.lt).trans bL
 have z0:=Z.below ha0;have hb0:=bend hb5 ha0;clear bL Z hb5 ha0;have HWw:=HW.out
 refine (wpIn_wide (n:=9)).1 (rangeFunc_tells (n:=9) (by omega) (gf:=85) (lb:=#[.pointer (some ⟨gl+1,0,none⟩),.pointer (some ⟨gl+1+1,0,none⟩)]) rfl (enters_of Tryz.func85 (by kernel_rfl) rfl)
  (rows_tells 8 (by omega) (gl+1) (gl+1+1) (by omega) (by omega) hk ht h1 h2 W0 bl bt hL hE HN.out q) (fun h k=>h.trans k) (fun W l o o' _ h hc=>KpS.turn W l o o' h hc) (Below.refl _ _) (fun _=>rfl)
  (fun pre W=>(∃ A' n' c',Boxed W gl 22 (.slice A' n' c')∧∀ x:RowX,pre.getLast?=some x→A'=x.A∧n'=x.n∧c'=x.c)∧B6 W (w.heap.size+1) (.bool false) (.slice none 0 0) (.slice none 0 0) (.bool false) (.slice none 0 0) (.slice none 0 0)∧Below w.heap.size w W)
  (by rintro pre X Y row ⟨⟨A',n',c',b1,b2⟩,z1,b3⟩ hg hr;exact ⟨⟨A',n',c',b1.kept hg (fun e=>by have:=(hr _ e.symm).1;omega),b2⟩,(hg.block _ z1.lt (fun e=>by have:=(hr _ e.symm).1;omega)).trans z1,ownFrom_below (w₀:=w) (B:=W0.heap.size) (Nat.le_refl _) hb0.size pre X Y row b3 hg hr⟩)
  (row_own _) (last_own _ _ _ _ _) ⟨⟨none,0,0,bL0,fun x h=>by cases h⟩,z0,hb0⟩
  (fun x=>{tmps:=#[.slice A n c,.agg #[.bool s,.slice A1 n1 c1,.slice A2 n2 c2],undef,.pointer (some ⟨w.heap.size,0,none⟩),.pointer (some ⟨w.heap.size+1,0,none⟩),.int .i64 0,.pointer (some ⟨gl,0,none⟩),.slice x.A x.n x.c,.slice A n c,.bool true,.bool false,undef,.agg #[.bool s,.slice A1 n1 c1,.slice A2 n2 c2],.int .i64 0,.bool false,.bool false,.agg #[.bool s,.slice A1 n1 c1,.slice A2 n2 c2],.agg #[.bool s_o,.slice A_o n_o c_o,.slice B_o m_o d_o],.int .i64 C,.bool (decide (0 < C)),.bool (decide (0 < C)),undef,.slice A n c,.agg #[.bool s,.slice A1 n1 c1,.slice A2 n2 c2],.func (.func 85) #[] #[.pointer (some ⟨gl+1,0,none⟩),.pointer (some ⟨gl+1+1,0,none⟩)],.slice x.A x.n x.c,undef,undef,undef,undef,undef,undef,undef],defers:=[]}) ?assign ?body ?done)
 case assign =>
  intro l x W K hK
  dsimp only [RowX.encs]
  gi_wp2
  exact hK
 case body =>
  rintro l pre x W ⟨⟨A',n',c',b1,b2⟩,z1,b3⟩ _ _
  have g0:=b1.cell;have f0:=b1.frozen
  gi_wp2
  exact ⟨(KeepsOthers.setCell _ _ _).from _,KpS.box b1 _,⟨x.A,x.n,x.c,b1.set _,fun y hy=>by rw [List.getLast?_concat] at hy;cases hy;exact ⟨rfl,rfl,rfl⟩⟩,(Below.heap_setCell _ _ _ _ (show w.heap.size+1 ≠ gl by omega)).trans z1,b3.setCell (p:=⟨gl,0,none⟩) (by show w.heap.size≤gl;omega) _⟩
 case done =>
  rintro D xs W hD ⟨x,hx,⟨hsv,hea,hxn⟩,hxv,hxk⟩ ⟨⟨A',n',c',b1,b2⟩,z1,b3⟩ hK
  obtain ⟨rfl,rfl,rfl⟩:=b2 x hx
  rw [bez_last vt V (by rw [HVn.out];omega)] at hxv
  rw [HVn.out] at hxk
  rw [hxv,hxk] at hea
  obtain ⟨P,u,hP,hu,hp⟩:=hea.at_ (i:=0) (by rw [hea.1];exact Nat.one_pos)
  obtain rfl:bez vt V=u:=by simpa using hu
  obtain ⟨g0,o0,hix0,EP,_⟩:=hsv.ht hP
  have hl1:0 < x.n:=by rw [← hxn,hea.1];exact Nat.one_pos
  have hixa:∀ w',(Instr.indexAt 22 (.slice x.A x.n x.c) (.int .i64 0)).run Tryz.prog w'=.ok (.pointer (some ⟨g0,o0,none⟩)) w':=fun w'=>hix0 x.n x.c w' hl1
  have epl:=EP.ldH;have g1:=b1.cell
  have hkk:1≤kRow k kt (n - 1):=kRow_pos h1
  have hb:=b3;have Z:=z1
  have hDs:=(Array.getElem?_eq_some_iff.1 hK).1
  have HK0:=Lib.hid hK;clear b1 b2 z1 b3 hx hxv hxk hea hP hu hix0 EP hsv hK
  go_wp2_with (first
   | (go_at_call 19;(with_reducible refine (cpoint_p hp (by omega) hkk (by have h9:=HW.out;grind)).mono ?_);rintro e w_r ⟨s_r,A_r,n_r,c_r,B_r,m_r,d_r,t_r,E_r,i_r,e_r,F_r,j_r,f_r,rfl,r,hh⟩
      (try replace Z:=Z.below hh);(try replace hp:=hp.below hh);replace hb:=bend hb hh
      have HK:=Lib.hid ((hh.block D hDs).trans HK0.out)
      have zg0:=Z.f0;have zg1:=Z.f1;have zg2:=Z.f2;have zg3:=Z.f3;have zg4:=Z.f4;have zg5:=Z.f5;obtain ⟨zc0,zc1,zc2,zc3,zc4,zc5⟩:=Z.all))
  have ho:=only_six w_r (w.heap.size+1) (.bool s_r) (.slice A_r n_r c_r) (.slice B_r m_r d_r) (.bool t_r) (.slice E_r i_r e_r) (.slice F_r j_r f_r)
  have Z2:=Z.set6 (.bool s_r) (.slice A_r n_r c_r) (.slice B_r m_r d_r) (.bool t_r) (.slice E_r i_r e_r) (.slice F_r j_r f_r)
  have r2:=r.set6 Z (.bool s_r) (.slice A_r n_r c_r) (.slice B_r m_r d_r) (.bool t_r) (.slice E_r i_r e_r) (.slice F_r j_r f_r)
  have hb2:=below_set6 hb (show w.heap.size≤w.heap.size+1 by omega) (.bool s_r) (.slice A_r n_r c_r) (.slice B_r m_r d_r) (.bool t_r) (.slice E_r i_r e_r) (.slice F_r j_r f_r)
  have hlr:D < w_r.heap.size:=Nat.lt_of_lt_of_le hDs hh.size
  have hK5:=(ho.block D hlr (by omega)).trans HK.out
  clear ho Z r hb hh HK HK0
  generalize ((((((w_r.setCell ⟨w.heap.size+1,0,none⟩ (.bool s_r)).setCell ⟨w.heap.size+1,1,none⟩ (.slice A_r n_r c_r)).setCell ⟨w.heap.size+1,2,none⟩ (.slice B_r m_r d_r)).setCell ⟨w.heap.size+1,3,none⟩ (.bool t_r)).setCell ⟨w.heap.size+1,4,none⟩ (.slice E_r i_r e_r)).setCell ⟨w.heap.size+1,5,none⟩ (.slice F_r j_r f_r))=W9 at *
  have Z3:B6 (W9.putObj D (.deferred none)) (w.heap.size+1) (.bool s_r) (.slice A_r n_r c_r) (.slice B_r m_r d_r) (.bool t_r) (.slice E_r i_r e_r) (.slice F_r j_r f_r):=(World.putObj_heap_other (by omega)).trans Z2
  obtain ⟨g0,g1,g2,g3,g4,g5⟩:=Z3.all
  refine ⟨by simp,.inl ⟨_,_,rfl,run_takeDeferred hK5,?_⟩⟩
  refine ⟨.tuple #[.agg #[.bool s_r,.slice A_r n_r c_r,.slice B_r m_r d_r,.bool t_r,.slice E_r i_r e_r,.slice F_r j_r f_r],.int .i64 0],?_,?_⟩
  · rw [results_cell_tmp Tryz.results17];simp [go_sem,asAddr,Result.andThen,g0,g1,g2,g3,g4,g5]
  · exact ⟨s_r,A_r,n_r,c_r,B_r,m_r,d_r,t_r,E_r,i_r,e_r,F_r,j_r,f_r,rfl,r2.kp (KpS.turn W9 D _ _ hK5 rfl),hb2.trans (belowK_b (w:=w) (Nat.le_refl _) W9 D _ _ (by have:=hb0.size;omega) hK5 rfl rfl)⟩
theorem cat_p1 {A A1 A2:Option Addr} {n c n1 c1 n2 c2 k kt:Nat} {s:Bool} {L:List HV} {V:List AH} {vt:Rat} (hL:SV w A (hvs L)) (hE:EachH HR w L V k) (hn:L.length=n) (q:QR w s A1 n1 c1 A2 n2 c2 vt kt) (hk:kRow k kt (n - 1)≤10000) (ht:kt≤1000) (h1:1≤k) (h2:1≤kt) (hG:GoodH V) (hT0:0≤vt) (hT1:vt≤1) (hT:sgnQ vt=1) :
 Calls Tryz.prog 17 #[.slice A n c,.agg #[.bool s,.slice A1 n1 c1,.slice A2 n2 c2]] w (GivesPtE w (bez vt V).px (bez vt V).py (kRow k kt (n - 1)+(1+kRow k kt (n - 1)))):=by
 have hk0:k≤10000:=Nat.le_trans (kRow_le (Nat.zero_le _)) hk
 have HT:=Lib.hid hT
 obtain ⟨C,hC,hC0⟩:∃ C,cmpQ vt (Rat.divInt 1 1)=C∧¬ 0 < C:=⟨_,rfl,by rw [one_q];have:=cmp_le hT1;omega⟩
 have HC:=Lib.hid hC
 have HW:Hid (0 < (bez vt V).w):=bez_w (by have:=hG.1;omega) hT0 hT1 hG.2
 have HG:Hid (true=true ↔ GoodH V):=⟨fun _=>hG,fun _=>rfl⟩
 have hkG:k≤90000:=by omega
 have hn2:2≤n∧n≤4:=by rw [← hn,hE.1];exact hG.1
 have HVn:Hid (V.length=n):=hE.1.symm.trans hn
 have HN:=Lib.hid hn;clear hC hT hT0 hT1 hG hn
 refine (callsIn_wide (n:=9)).1 ?_
 refine callsIn_of_wp_marks Tryz.func17 rfl trivial ?_ rfl
 refine wpIn_wide.2 ?_
 simp only [Tryz.ntmps17,List.size_toArray,List.length_cons,List.length_nil,Nat.reduceAdd,Nat.reduceSub,Array.replicate_succ,Array.replicate_zero,List.push_toArray,List.append_toArray,List.nil_append,List.cons_append]
 go_upto_region 1 with (fail)
 generalize hW:World.alloc _ _=W
 obtain ⟨hb,XT,Z,hzW⟩:=mkbx33_13 hW;clear hW;replace hL:=hL.below hb;replace q:=q.below hb;replace hE:=EachH.belowR hE hb
 go_upto_region 3 with (first
  | (go_at_call 28;(with_reducible refine (cgood_any hL hE HN.out hkG h1 true HG.out).mono ?_);rintro e w_g ⟨rfl,hh⟩
     (try replace hL:=hL.below hh);(try replace q:=q.below hh);(try replace XT:=XT.below hh);(try replace Z:=Z.below hh);replace hb:=bend hb hh;replace hE:=EachH.belowR hE hh))
 replace hL:=hL.below (Below.refl _ _).drew
 replace q:=q.below (Below.refl _ _).drew
 replace XT:=XT.below (Below.refl _ _).drew
 replace Z:=Z.below (Below.refl _ _).drew
 replace hb:=hb.drew
 replace hE:=EachH.belowR hE (Below.refl _ _).drew
 go_region_held3 (fun w'=>w'.cell? ⟨w.heap.size,0,none⟩=some (.bool s)∧w'.cell? ⟨w.heap.size,1,none⟩=some (.slice A1 n1 c1)∧w'.cell? ⟨w.heap.size,2,none⟩=some (.slice A2 n2 c2))
  (first | with_reducible exact ⟨XT.c0,XT.c1,XT.c2⟩)
  (first
  | (go_at_call 24;(with_reducible refine (rsign_q q (by omega) h2).mono ?_);rintro e w_s ⟨rfl,hh⟩
     rw [HT.out];(try replace hL:=hL.below hh);(try replace q:=q.below hh);(try replace XT:=XT.below hh);(try replace Z:=Z.below hh);replace hb:=bend hb hh;replace hE:=EachH.belowR hE hh)
  | (go_at_call 44;(with_reducible refine (cone_q _).mono ?_);rintro e w_o ⟨s_o,A_o,n_o,c_o,B_o,m_o,d_o,rfl,o,hh⟩
     (try replace hL:=hL.below hh);(try replace q:=q.below hh);(try replace XT:=XT.below hh);(try replace Z:=Z.below hh);replace hb:=bend hb hh;replace hE:=EachH.belowR hE hh)
  | (go_at_call 20;(with_reducible refine (rcmp_q q o.qr (by omega) (by decide) (.inr (by decide)) h2 (by decide)).mono ?_);rintro e w_c ⟨rfl,hh⟩
     rw [HC.out];(try replace hL:=hL.below hh);(try replace q:=q.below hh);(try replace XT:=XT.below hh);(try replace Z:=Z.below hh);(try replace o:=o.below hh);replace hb:=bend hb hh;replace hE:=EachH.belowR hE hh;clear o))
 go_upto_region 6 with (fail)
 have bL:=Boxed.new w_c 22 (.slice none 0 0)
 have hal:Below w_c.heap.size w_c (w_c.alloc (.cells #[.slice none 0 0] 22)):=(Below.refl _ _).alloc (Nat.le_refl _) _
 replace hL:=hL.below hal;replace q:=q.below hal;have hzl:=XT.lt;have hzz:=Z.lt;replace XT:=XT.below hal;replace Z:=Z.below hal;replace hE:=EachH.belowR hE hal;have hb5:=bend hb hal
 have hsz5:(w_c.alloc (.cells #[.slice none 0 0] 22)).heap.size=w_c.heap.size+1:=World.size_alloc _ _
 clear hal hb hh
 generalize w_c.alloc (.cells #[.slice none 0 0] 22)=W5 at *
 generalize w_c.heap.size=gl at *
 obtain ⟨xt0,xt1,xt2⟩:=XT.all
 go_wp2_with (first | (go_at_call 45;(with_reducible refine (rows_any _).mono ?_);rintro e w_r ⟨rfl,rfl⟩))
 obtain ⟨W0,hW0⟩:∃ W0,((W5.alloc (.cells #[.slice A n c] 22)).alloc (.cells #[.bool s,.slice A1 n1 c1,.slice A2 n2 c2] 27))=W0:=⟨_,rfl⟩
 have bl:Boxed W0 (gl+1) 22 (.slice A n c):=by rw [← hW0,← hsz5];exact (Boxed.new W5 _ _).alloc _
 have bt:B3 W0 (gl+1+1) (.bool s) (.slice A1 n1 c1) (.slice A2 n2 c2):=by rw [← hW0];exact B3.new' _ _ _ _ _ (by simp [hsz5])
 have ha0:Below W5.heap.size W5 W0:=by rw [← hW0];exact ((Below.refl _ _).alloc (Nat.le_refl _) _).alloc (by simp) _
 have hs0:W0.heap.size=gl+3:=by rw [← hW0];simp [hsz5]
 rw [hW0];clear hW0 xt0 xt1 xt2 XT;replace hL:=hL.below ha0;replace q:=q.below ha0;replace hE:=EachH.belowR hE ha0
 have bL0:Boxed W0 gl 22 (.slice none 0 0):=(ha0.block gl bL.lt).trans bL
 have z0:=Z.below ha0;have hb0:=bend hb5 ha0;clear bL Z hb5 ha0;have HWw:=HW.out
 refine (wpIn_wide (n:=9)).1 (rangeFunc_tells (n:=9) (by omega) (gf:=85) (lb:=#[.pointer (some ⟨gl+1,0,none⟩),.pointer (some ⟨gl+1+1,0,none⟩)]) rfl (enters_of Tryz.func85 (by kernel_rfl) rfl)
  (rows_tells 8 (by omega) (gl+1) (gl+1+1) (by omega) (by omega) hk ht h1 h2 W0 bl bt hL hE HN.out q) (fun h k=>h.trans k) (fun W l o o' _ h hc=>KpS.turn W l o o' h hc) (Below.refl _ _) (fun _=>rfl)
  (fun pre W=>(∃ A' n' c',Boxed W gl 22 (.slice A' n' c')∧∀ x:RowX,pre.getLast?=some x→A'=x.A∧n'=x.n∧c'=x.c)∧B6 W (w.heap.size+1) (.bool false) (.slice none 0 0) (.slice none 0 0) (.bool false) (.slice none 0 0) (.slice none 0 0)∧Below w.heap.size w W)
  (by rintro pre X Y row ⟨⟨A',n',c',b1,b2⟩,z1,b3⟩ hg hr;exact ⟨⟨A',n',c',b1.kept hg (fun e=>by have:=(hr _ e.symm).1;omega),b2⟩,(hg.block _ z1.lt (fun e=>by have:=(hr _ e.symm).1;omega)).trans z1,ownFrom_below (w₀:=w) (B:=W0.heap.size) (Nat.le_refl _) hb0.size pre X Y row b3 hg hr⟩)
  (row_own _) (last_own _ _ _ _ _) ⟨⟨none,0,0,bL0,fun x h=>by cases h⟩,z0,hb0⟩
  (fun x=>{tmps:=#[.slice A n c,.agg #[.bool s,.slice A1 n1 c1,.slice A2 n2 c2],undef,.pointer (some ⟨w.heap.size,0,none⟩),.pointer (some ⟨w.heap.size+1,0,none⟩),.int .i64 0,.pointer (some ⟨gl,0,none⟩),.slice x.A x.n x.c,.slice A n c,.bool true,.bool false,undef,.agg #[.bool s,.slice A1 n1 c1,.slice A2 n2 c2],.int .i64 1,.bool false,.bool false,.agg #[.bool s,.slice A1 n1 c1,.slice A2 n2 c2],.agg #[.bool s_o,.slice A_o n_o c_o,.slice B_o m_o d_o],.int .i64 C,.bool (decide (0 < C)),.bool (decide (0 < C)),undef,.slice A n c,.agg #[.bool s,.slice A1 n1 c1,.slice A2 n2 c2],.func (.func 85) #[] #[.pointer (some ⟨gl+1,0,none⟩),.pointer (some ⟨gl+1+1,0,none⟩)],.slice x.A x.n x.c,undef,undef,undef,undef,undef,undef,undef],defers:=[]}) ?assign ?body ?done)
 case assign =>
  intro l x W K hK
  dsimp only [RowX.encs]
  gi_wp2
  exact hK
 case body =>
  rintro l pre x W ⟨⟨A',n',c',b1,b2⟩,z1,b3⟩ _ _
  have g0:=b1.cell;have f0:=b1.frozen
  gi_wp2
  exact ⟨(KeepsOthers.setCell _ _ _).from _,KpS.box b1 _,⟨x.A,x.n,x.c,b1.set _,fun y hy=>by rw [List.getLast?_concat] at hy;cases hy;exact ⟨rfl,rfl,rfl⟩⟩,(Below.heap_setCell _ _ _ _ (show w.heap.size+1 ≠ gl by omega)).trans z1,b3.setCell (p:=⟨gl,0,none⟩) (by show w.heap.size≤gl;omega) _⟩
 case done =>
  rintro D xs W hD ⟨x,hx,⟨hsv,hea,hxn⟩,hxv,hxk⟩ ⟨⟨A',n',c',b1,b2⟩,z1,b3⟩ hK
  obtain ⟨rfl,rfl,rfl⟩:=b2 x hx
  rw [bez_last vt V (by rw [HVn.out];omega)] at hxv
  rw [HVn.out] at hxk
  rw [hxv,hxk] at hea
  obtain ⟨P,u,hP,hu,hp⟩:=hea.at_ (i:=0) (by rw [hea.1];exact Nat.one_pos)
  obtain rfl:bez vt V=u:=by simpa using hu
  obtain ⟨g0,o0,hix0,EP,_⟩:=hsv.ht hP
  have hl1:0 < x.n:=by rw [← hxn,hea.1];exact Nat.one_pos
  have hixa:∀ w',(Instr.indexAt 22 (.slice x.A x.n x.c) (.int .i64 0)).run Tryz.prog w'=.ok (.pointer (some ⟨g0,o0,none⟩)) w':=fun w'=>hix0 x.n x.c w' hl1
  have epl:=EP.ldH;have g1:=b1.cell
  have hkk:1≤kRow k kt (n - 1):=kRow_pos h1
  have hb:=b3;have Z:=z1
  have hDs:=(Array.getElem?_eq_some_iff.1 hK).1
  have HK0:=Lib.hid hK;clear b1 b2 z1 b3 hx hxv hxk hea hP hu hix0 EP hsv hK
  go_wp2_with (first
   | (go_at_call 19;(with_reducible refine (cpoint_p hp (by omega) hkk (by have h9:=HW.out;grind)).mono ?_);rintro e w_r ⟨s_r,A_r,n_r,c_r,B_r,m_r,d_r,t_r,E_r,i_r,e_r,F_r,j_r,f_r,rfl,r,hh⟩
      (try replace Z:=Z.below hh);(try replace hp:=hp.below hh);replace hb:=bend hb hh
      have HK:=Lib.hid ((hh.block D hDs).trans HK0.out)
      have zg0:=Z.f0;have zg1:=Z.f1;have zg2:=Z.f2;have zg3:=Z.f3;have zg4:=Z.f4;have zg5:=Z.f5;obtain ⟨zc0,zc1,zc2,zc3,zc4,zc5⟩:=Z.all))
  have ho:=only_six w_r (w.heap.size+1) (.bool s_r) (.slice A_r n_r c_r) (.slice B_r m_r d_r) (.bool t_r) (.slice E_r i_r e_r) (.slice F_r j_r f_r)
  have Z2:=Z.set6 (.bool s_r) (.slice A_r n_r c_r) (.slice B_r m_r d_r) (.bool t_r) (.slice E_r i_r e_r) (.slice F_r j_r f_r)
  have r2:=r.set6 Z (.bool s_r) (.slice A_r n_r c_r) (.slice B_r m_r d_r) (.bool t_r) (.slice E_r i_r e_r) (.slice F_r j_r f_r)
  have hb2:=below_set6 hb (show w.heap.size≤w.heap.size+1 by omega) (.bool s_r) (.slice A_r n_r c_r) (.slice B_r m_r d_r) (.bool t_r) (.slice E_r i_r e_r) (.slice F_r j_r f_r)
  have hlr:D < w_r.heap.size:=Nat.lt_of_lt_of_le hDs hh.size
  have hK5:=(ho.block D hlr (by omega)).trans HK.out
  clear ho Z r hb hh HK HK0
  generalize ((((((w_r.setCell ⟨w.heap.size+1,0,none⟩ (.bool s_r)).setCell ⟨w.heap.size+1,1,none⟩ (.slice A_r n_r c_r)).setCell ⟨w.heap.size+1,2,none⟩ (.slice B_r m_r d_r)).setCell ⟨w.heap.size+1,3,none⟩ (.bool t_r)).setCell ⟨w.heap.size+1,4,none⟩ (.slice E_r i_r e_r)).setCell ⟨w.heap.size+1,5,none⟩ (.slice F_r j_r f_r))=W9 at *
  have Z3:B6 (W9.putObj D (.deferred none)) (w.heap.size+1) (.bool s_r) (.slice A_r n_r c_r) (.slice B_r m_r d_r) (.bool t_r) (.slice E_r i_r e_r) (.slice F_r j_r f_r):=(World.putObj_heap_other (by omega)).trans Z2
  obtain ⟨g0,g1,g2,g3,g4,g5⟩:=Z3.all
  refine ⟨by simp,.inl ⟨_,_,rfl,run_takeDeferred hK5,?_⟩⟩
  refine ⟨.tuple #[.agg #[.bool s_r,.slice A_r n_r c_r,.slice B_r m_r d_r,.bool t_r,.slice E_r i_r e_r,.slice F_r j_r f_r],.int .i64 0],?_,?_⟩
  · rw [results_cell_tmp Tryz.results17];simp [go_sem,asAddr,Result.andThen,g0,g1,g2,g3,g4,g5]
  · exact ⟨s_r,A_r,n_r,c_r,B_r,m_r,d_r,t_r,E_r,i_r,e_r,F_r,j_r,f_r,rfl,r2.kp (KpS.turn W9 D _ _ hK5 rfl),hb2.trans (belowK_b (w:=w) (Nat.le_refl _) W9 D _ _ (by have:=hb0.size;omega) hK5 rfl rfl)⟩
end
section
open Go Go.RowKit
attribute [local go_sem ↓] open_LVH open_STH open_LVJ open_STJ
section
variable {W W':World} {g:Nat} {v0 v1 v2 v3 v4 v5 v6 v7:Value}
end
structure SV8 where
 k:Int
 v0:Int
 v1:Int
 v2:Int
 v3:Int
 v4:Int
 v5:Int
 w:Int
def SV8.at_ (s:SV8):Nat→Int
 | 0=>s.v0
 | 1=>s.v1
 | 2=>s.v2
 | 3=>s.v3
 | 4=>s.v4
 | _=>s.v5
def i64In (x:Int):Prop:=-9223372036854775808≤x∧x < 9223372036854775808
def SV8.In (s:SV8):Prop:=i64In s.k∧(∀ i,i64In (s.at_ i))∧i64In s.w
def C1 (w:World) (g o:Nat) (u:Value):Prop:=w.cell? ⟨g,o,none⟩=some u
theorem C1.below {w w':World} {g o:Nat} {u:Value} (h:C1 w g o u) (hb:Below w.heap.size w w'):C1 w' g o u:=(hb.cell (p:=⟨g,o,none⟩) (World.block_lt_of_cell? w ⟨g,o,none⟩ h)).trans h
theorem B6.pushX {w w':World} {g:Nat} {x y z u v t:Value} {row:Option Nat} (h:B6 w g x y z u v t) (hg:w.grownBy w' row) (hne:∀ k,row=some k→k ≠ g):B6 w' g x y z u v t:=(hg.block g h.lt (fun e=>hne g e.symm rfl)).trans h
end
section
open Go Go.RowKit
def near2 (px py ax ay bx by_:Rat):Rat:=(px - bx)*(bx - ax)+(py - by_)*(by_ - ay)
theorem near2_eq (px py ax ay bx by_:Rat):near2 px py ax ay bx by_=forthQ px py ax ay bx by_ - wholeQ ax ay bx by_:=by unfold near2 forthQ wholeQ;grind
theorem sgn_nonneg {v:Rat}:0≤sgnQ v ↔ 0≤v:=by
 unfold sgnQ
 split
 · rename_i q;exact ⟨fun e=>absurd e (by decide),fun e=>absurd q (Rat.not_lt.2 e)⟩
 · rename_i q;exact ⟨fun _=>Rat.not_lt.1 q,fun _=>by split <;> decide⟩
theorem mid_eq {px py ax ay bx by_ T:Rat} (hw:wholeQ ax ay bx by_ ≠ 0) (hT:T=forthQ px py ax ay bx by_ / wholeQ ax ay bx by_) :
 asideQ px py ax ay bx by_*asideQ px py ax ay bx by_ / wholeQ ax ay bx by_=(px - (ax+(bx - ax)*T))*(px - (ax+(bx - ax)*T))+(py - (ay+(by_ - ay)*T))*(py - (ay+(by_ - ay)*T)):=by
 have e1:T*wholeQ ax ay bx by_=forthQ px py ax ay bx by_:=by rw [hT];exact Rat.div_mul_cancel hw
 have e2:((px - (ax+(bx - ax)*T))*(px - (ax+(bx - ax)*T))+(py - (ay+(by_ - ay)*T))*(py - (ay+(by_ - ay)*T)))*wholeQ ax ay bx by_=asideQ px py ax ay bx by_*asideQ px py ax ay bx by_:=by
  unfold wholeQ forthQ at e1
  unfold wholeQ asideQ
  grind
 rw [← e2]
 exact Rat.mul_div_cancel hw
def nearQ (px py ax ay bx by_:Rat):Rat × Rat:=if ax=bx∧ay=by_ then (ax,ay) else if forthQ px py ax ay bx by_≤0 then (ax,ay) else if 0≤near2 px py ax ay bx by_ then (bx,by_) else (ax+(bx - ax)*(((px - ax)*(bx - ax)+(py - ay)*(by_ - ay)) / ((bx - ax)*(bx - ax)+(by_ - ay)*(by_ - ay))),ay+(by_ - ay)*(((px - ax)*(bx - ax)+(py - ay)*(by_ - ay)) / ((bx - ax)*(bx - ax)+(by_ - ay)*(by_ - ay))))
theorem seg_nearQ (px py ax ay bx by_:Rat):segQ px py ax ay bx by_=(px - (nearQ px py ax ay bx by_).1)*(px - (nearQ px py ax ay bx by_).1)+(py - (nearQ px py ax ay bx by_).2)*(py - (nearQ px py ax ay bx by_).2):=by
 unfold nearQ
 by_cases h:ax=bx∧ay=by_
 · rw [if_pos h]
   unfold segQ
   rw [if_pos (show forthQ px py ax ay bx by_≤0 by unfold forthQ;rw [h.1,h.2];grind)]
 · rw [if_neg h]
   by_cases h1:forthQ px py ax ay bx by_≤0
   · rw [if_pos h1]
     unfold segQ
     rw [if_pos h1]
   · rw [if_neg h1]
     by_cases h2:0≤near2 px py ax ay bx by_
     · rw [if_pos h2]
       unfold segQ
       rw [if_neg h1,if_pos (show wholeQ ax ay bx by_≤forthQ px py ax ay bx by_ by rw [near2_eq] at h2;grind)]
       unfold farQ;grind
     · rw [if_neg h2]
       unfold segQ
       rw [if_neg h1,if_neg (fun e=>h2 (by rw [near2_eq];grind))]
       exact mid_eq (fun e=>h (whole_z ax ay bx by_ e)) rfl
end
section
open Go Go.RowKit
theorem GivesLn.more {w w':World} {l:List (Rat × Rat)} {k k2:Nat} {en:Ending} (h:GivesLn w l k en w') (hk:k≤k2):GivesLn w l k2 en w':=by
 obtain ⟨v,L,h1,h2,h3,h4⟩:=h
 exact ⟨v,L,h1,h2,⟨h3.1,fun i p u hp hu=>PG.more (h3.2 i p u hp hu) hk⟩,h4⟩
end
section
open Go Go.RowKit
theorem Each.belowR {w w':World} {L:List PV} {l:List (Rat × Rat)} {k:Nat} (h:Each PV.RP w L l k) (hb:Below w.heap.size w w'):Each PV.RP w' L l k:=h.imp fun _ _ hp=>RP.below hp hb
theorem B6R.rest {w w':World} {g k:Nat} {x y z u v t:Value} (h:B6R w g x y z u v t) (hne:g ≠ k) (ho:Only k w w'):B6R w' g x y z u v t:=(ho.block g h.lt hne).trans h
end
section
open Go Go.RowKit
def PV.small (M:Nat) (p:PV):Prop:=(p.n≤M∧p.m≤M)∧p.i≤M∧p.j≤M
instance (M:Nat) (p:PV):Decidable (p.small M):=by unfold PV.small;exact inferInstance
end
end Go.Proofs.YtlpogecpdfdggaaGreat
