/- AreaHalves: part 14. -/
import Derived.Test.YtlogpjeoapeojaaGreatKAreaHalves0
import Derived.Test.YtlogpjeoapeojaaGreatKAreaHalves9
import Derived.Test.YtlogpjeoapeojaaGreatKAreaHalves12
import Derived.Test.YtlogpjeoapeojaaGreatKAreaHalves13
set_option linter.unusedVariables false
set_option maxRecDepth 100000
set_option maxHeartbeats 16000000
variable {w:Go.World}
variable {s_p t_p:Bool} {A_p B_p E_p F_p:Option Go.Addr} {n_p c_p m_p d_p i_p e_p j_p f_p:Nat}
variable {s_q t_q:Bool} {A_q B_q E_q F_q:Option Go.Addr} {n_q c_q m_q d_q i_q e_q j_q f_q:Nat}
variable {s_r t_r:Bool} {A_r B_r E_r F_r:Option Go.Addr} {n_r c_r m_r d_r i_r e_r j_r f_r:Nat}
namespace Go.Proofs.YtlogpjeoapeojaaGreat
section
open Go Go.RowKit
def EachQ (w:World) (L:List QV) (l:List Rat) (k:Nat):Prop:=L.length=l.length∧∀ (i:Nat) (p:QV) (v:Rat),L[i]?=some p→l[i]?=some v→QG w p.s p.A p.n p.c p.B p.m p.d v k
section
variable {w w':World} {L:List QV} {l:List Rat} {k:Nat}
theorem EachQ.below (h:EachQ w L l k) (hb:Below w.heap.size w w'):EachQ w' L l k:=⟨h.1,fun i p v h1 h2=>(h.2 i p v h1 h2).below hb⟩
theorem EachQ.box {T:TypeId} {g:Nat} {cs:Array Value} (h:EachQ w L l k) (B:BoxAt T w g cs) (ho:Only g w w'):EachQ w' L l k:=⟨h.1,fun i p v h1 h2=>(h.2 i p v h1 h2).box B ho⟩
theorem EachQ.take (h:EachQ w L l k) (m:Nat):EachQ w (L.take m) (l.take m) k:=by
 refine ⟨by rw [List.length_take,List.length_take,h.1],fun i p v h1 h2=>?_⟩
 rw [List.getElem?_take] at h1 h2
 split at h1
 · rename_i q;rw [if_pos q] at h2;exact h.2 i p v h1 h2
 · cases h1
theorem EachQ.drop (h:EachQ w L l k) (m:Nat):EachQ w (L.drop m) (l.drop m) k:=by
 refine ⟨by rw [List.length_drop,List.length_drop,h.1],fun i p v h1 h2=>?_⟩
 rw [List.getElem?_drop] at h1 h2
 exact h.2 _ p v h1 h2
theorem EachQ.push {p:QV} {v:Rat} (h:EachQ w L l k) (hp:QG w p.s p.A p.n p.c p.B p.m p.d v k):EachQ w (L ++ [p]) (l ++ [v]) k:=by
 refine ⟨by rw [List.length_append,List.length_append,h.1];rfl,fun i q u h1 h2=>?_⟩
 rcases Nat.lt_or_ge i L.length with hi | hi
 · rw [List.getElem?_append_left hi] at h1
   rw [List.getElem?_append_left (by rw [← h.1];exact hi)] at h2
   exact h.2 i q u h1 h2
 · rw [List.getElem?_append_right hi] at h1
   rw [List.getElem?_append_right (by rw [← h.1];exact hi),← h.1] at h2
   obtain ⟨j,hj⟩:∃ j,i - L.length=j:=⟨_,rfl⟩
   rw [hj] at h1 h2
   match j,h1,h2 with
   | 0,h1,h2=>cases h1;cases h2;exact hp
   | j+1,h1,h2=>simp at h1
end
def qsum (l:List Rat):Rat:=l.foldr (·+·) 0
theorem qsum_append (l m:List Rat):qsum (l ++ m)=qsum l+qsum m:=by
 induction l with
 | nil=>rw [List.nil_append,show qsum []=0 from rfl,Rat.zero_add]
 | cons v l ih=>rw [List.cons_append,show qsum (v :: (l ++ m))=v+qsum (l ++ m) from rfl,show qsum (v :: l)=v+qsum l from rfl,ih,Rat.add_assoc]
theorem SV.take {A:Option Addr} {L:List QV} (h:SV w A (qvs L)) (m:Nat):SV w A (qvs (L.take m)):=fun hn=>by
 have e:qvs L=qvs (L.take m) ++ qvs (L.drop m):=by rw [← qvs_append,List.take_append_drop]
 obtain ⟨g,o,e1,h1,h2⟩:=h (by rw [e,List.length_append];omega)
 refine ⟨g,o,e1,h1,fun j u hu=>h2 j u ?_⟩
 rw [e,List.getElem?_append_left (List.getElem?_eq_some_iff.1 hu).1];exact hu
theorem SV.drop {g o:Nat} {L:List QV} (h:SV w (some ⟨g,o,none⟩) (qvs L)) (m:Nat) (hm:m≤L.length):SV w (some ⟨g,o+m*3,none⟩) (qvs (L.drop m)):=fun hn=>by
 have e:qvs L=qvs (L.take m) ++ qvs (L.drop m):=by rw [← qvs_append,List.take_append_drop]
 have hl:(qvs (L.take m)).length=m*3:=by rw [show (qvs (L.take m)).length=(L.take m).length*3 from rows_length qvc_len _,List.length_take,Nat.min_eq_left hm]
 obtain ⟨g2,o2,e1,h1,h2⟩:=h (by rw [e,List.length_append];omega)
 cases e1
 refine ⟨_,_,rfl,h1,fun j u hu=>?_⟩
 rw [Nat.add_assoc]
 refine h2 (m*3+j) u ?_
 rw [e,List.getElem?_append_right (by omega),hl,Nat.add_sub_cancel_left];exact hu
theorem total_0 {A:Option Addr} {c:Nat}:Calls Tryz.prog 50 #[.slice A 0 c] w (GivesQ w 0 1):=by
 go_enter Tryz.func50,Tryz.ntmps50
 go_wp2_with fail
 generalize hW:World.alloc _ _=W
 obtain ⟨hb,Z,hzW⟩:=mkbx12_8 hW;clear hW;have zf0:=Z.f0;have zf1:=Z.f1;have zf2:=Z.f2;obtain ⟨z0,z1,z2⟩:=Z.all
 go_wp2_with (first
  | (go_at_call 51;(with_reducible refine (rof_q 0 1 (by decide) (by decide) (by decide) (by decide) (by decide) _).mono ?_);rintro e w_r ⟨s_r,A_r,n_r,c_r,B_r,m_r,d_r,rfl,r,hh⟩
     replace Z:=Z.below hh;replace hb:=bend hb hh;have zf0:=Z.f0;have zf1:=Z.f1;have zf2:=Z.f2;obtain ⟨z0,z1,z2⟩:=Z.all))
 rw [show Rat.divInt 0 1=0 from by decide +kernel] at r
 have Z2:=Z.set3 (.bool s_r) (.slice A_r n_r c_r) (.slice B_r m_r d_r)
 obtain ⟨g0,g1,g2⟩:=Z2.all
 refine bodyPost_ret (v:=.agg #[.bool s_r,.slice A_r n_r c_r,.slice B_r m_r d_r]) (by simp [results,Tryz.results50,go_sem,g0,g1,g2]) rfl ?_
 exact ⟨s_r,A_r,n_r,c_r,B_r,m_r,d_r,rfl,r.set3 Z _ _ _,below_set3 hb (Nat.le_refl _) _ _ _⟩
theorem total_1 {A:Option Addr} {c k:Nat} {p:QV} {v:Rat} (h:SV w A (qvs [p])) (r:QG w p.s p.A p.n p.c p.B p.m p.d v k):Calls Tryz.prog 50 #[.slice A 1 c] w (GivesQ w v k):=by
 obtain ⟨g,o,hix0,E,_⟩:=h.qt (i:=0) (p:=p) rfl
 obtain ⟨s_r,A_r,n_r,c_r,B_r,m_r,d_r⟩:=p
 have hix:=hix0 1 c
 simp only [Nat.lt_one_iff,forall_const] at hix
 replace hix:∀ w',(Instr.indexAt 80 (.slice A 1 c) (.int .i64 0)).run Tryz.prog w'=.ok (.pointer (some ⟨g,o,none⟩)) w':=fun w'=>hix0 1 c w' (by omega)
 clear hix0 h
 go_enter Tryz.func50,Tryz.ntmps50
 go_upto_region 1 with (fail)
 generalize hW:World.alloc _ _=W
 obtain ⟨hb,Z,hzW⟩:=mkbx12_8 hW;clear hW;replace r:=r.below hb;replace E:=E.below hb;have zf0:=Z.f0;have zf1:=Z.f1;have zf2:=Z.f2;obtain ⟨z0,z1,z2⟩:=Z.all;obtain ⟨e0,e1,e2⟩:=E.all
 simp only at e0 e1 e2
 go_wp2_with fail
 have Z2:=Z.set3 (.bool s_r) (.slice A_r n_r c_r) (.slice B_r m_r d_r)
 obtain ⟨g0,g1,g2⟩:=Z2.all
 refine bodyPost_ret (v:=.agg #[.bool s_r,.slice A_r n_r c_r,.slice B_r m_r d_r]) (by simp [results,Tryz.results50,go_sem,g0,g1,g2]) rfl ?_
 exact ⟨s_r,A_r,n_r,c_r,B_r,m_r,d_r,rfl,r.set3 Z _ _ _,below_set3 hb (Nat.le_refl _) _ _ _⟩
theorem total_q (n:Nat):∀ {w:World} {A:Option Addr} {c k:Nat} {L:List QV} {l:List Rat},SV w A (qvs L)→EachQ w L l k→L.length=n→1≤n→n≤c→n≤100000→1≤k→n*(k+2)≤400→Calls Tryz.prog 50 #[.slice A n c] w (GivesQ w (qsum l) (n*(k+2) - 1)):=by
 induction n using Nat.strongRecOn with
 | ind n ih =>
   intro w A c k L l hS hE hn h1 hc h63 hk hB
   rcases Nat.lt_or_ge 1 n with h2 | h2
   · obtain ⟨h,hh⟩:∃ h,n / 2=h:=⟨_,rfl⟩
     have b1:1≤h:=by omega
     have b2:h < n:=by omega
     have hm1:(h+(n - h))*(k+2)=h*(k+2)+(n - h)*(k+2):=Nat.add_mul _ _ _
     rw [show h+(n - h)=n by omega] at hm1
     have hp1:=Nat.mul_le_mul b1 (Nat.le_refl (k+2))
     have hp2:=Nat.mul_le_mul (show 1≤n - h by omega) (Nat.le_refl (k+2))
     obtain ⟨g,o,rfl,_,_⟩:=hS (by rw [show (qvs L).length=L.length*3 from rows_length qvc_len L];omega)
     have i1:=fun (w':World) (hb:Below w.heap.size w w')=>ih h (by omega) ((hS.below hb).take h) ((hE.below hb).take h) (by rw [List.length_take];omega) b1 (show h≤c by omega) (by omega) hk (by omega)
     have i2:=fun (w':World) (hb:Below w.heap.size w w')=>ih (n - h) (by omega) ((hS.below hb).drop h (by omega)) ((hE.below hb).drop h) (by rw [List.length_drop];omega) (by omega) (show n - h≤c - h by omega) (by omega) hk (by omega)
     obtain ⟨k1,e1⟩:∃ k1,h*(k+2) - 1=k1:=⟨_,rfl⟩
     obtain ⟨k2,e2⟩:∃ k2,(n - h)*(k+2) - 1=k2:=⟨_,rfl⟩
     rw [show n*(k+2) - 1=k1+k2+1 by omega,show qsum l=qsum (l.take h)+qsum (l.drop h) by rw [← qsum_append,List.take_append_drop]]
     rw [e1] at i1;rw [e2] at i2;have I1:=Lib.hid i1;have I2:=Lib.hid i2
     have l1:k1≤400:=by omega
     have l2:k2≤400:=by omega
     have l3:1≤k1:=by omega
     have l4:1≤k2:=by omega
     have h0:¬ n=0:=by omega
     have h3:¬ n=1:=by omega
     have h4:(h:Int)≤(c:Int):=by omega
     have h5:¬ c=h:=by omega
     have h7:(h:Int)≤(n:Int):=by omega
     have h8:(n:Int)≤(c:Int):=by omega
     have h6:((n:Int)).tdiv 2=(h:Int):=by rw [Int.tdiv_eq_ediv_of_nonneg (by omega)];omega
     clear hm1 hp1 hp2 i1 i2 e1 e2 hS hE ih hB
     go_enter Tryz.func50,Tryz.ntmps50
     go_wp2_with fail
     generalize hW:World.alloc _ _=W
     obtain ⟨hb,Z,hzW⟩:=mkbx12_8 hW;clear hW;have zf0:=Z.f0;have zf1:=Z.f1;have zf2:=Z.f2;obtain ⟨z0,z1,z2⟩:=Z.all
     go_upto_region 7 with (fail)
     replace Z:=Z.below (Below.refl _ _).drew
     replace hb:=hb.drew;have zf0:=Z.f0;have zf1:=Z.f1;have zf2:=Z.f2;obtain ⟨z0,z1,z2⟩:=Z.all
     go_region_held3 (fun _=>True)
      (first | exact trivial)
      (first
      | (go_at_call 50;(with_reducible refine (I1.out _ hb).mono ?_);rintro e w_x ⟨s_x,A_x,n_x,c_x,B_x,m_x,d_x,rfl,x,hh⟩
         (try replace Z:=Z.below hh);(try replace y:=y.below hh);replace hb:=bend hb hh;have zf0:=Z.f0;have zf1:=Z.f1;have zf2:=Z.f2;obtain ⟨z0,z1,z2⟩:=Z.all)
      | (go_at_call 50;(with_reducible refine (I2.out _ hb).mono ?_);rintro e w_y ⟨s_y,A_y,n_y,c_y,B_y,m_y,d_y,rfl,y,hh⟩
         (try replace Z:=Z.below hh);(try replace x:=x.below hh);replace hb:=bend hb hh;have zf0:=Z.f0;have zf1:=Z.f1;have zf2:=Z.f2;obtain ⟨z0,z1,z2⟩:=Z.all)
      | (go_at_call 28;(with_reducible refine (radd_q x.qr y.qr l1 l2 (.inl l1) l3 l4).mono ?_);rintro e w_r ⟨s_r,A_r,n_r,c_r,B_r,m_r,d_r,rfl,r,hh⟩
         (try replace Z:=Z.below hh);replace hb:=bend hb hh;have zf0:=Z.f0;have zf1:=Z.f1;have zf2:=Z.f2;obtain ⟨z0,z1,z2⟩:=Z.all))
     go_wp2_with fail
     have Z2:=Z.set3 (.bool s_r) (.slice A_r n_r c_r) (.slice B_r m_r d_r)
     obtain ⟨g0,g1,g2⟩:=Z2.all
     refine bodyPost_ret (v:=.agg #[.bool s_r,.slice A_r n_r c_r,.slice B_r m_r d_r]) (by simp [results,Tryz.results50,go_sem,g0,g1,g2]) rfl ?_
     exact ⟨s_r,A_r,n_r,c_r,B_r,m_r,d_r,rfl,r.set3 Z _ _ _,below_set3 hb (Nat.le_refl _) _ _ _⟩
   · obtain rfl:n=1:=by omega
     have hl:=hE.1
     match L,l,hn,hl with
     | [p],[v],_,_ =>
       have r:=hE.2 0 p v rfl rfl
       rw [show qsum [v]=v from Rat.add_zero v]
       refine (total_1 hS r).mono ?_
       rintro e w' ⟨s_r,A_r,n_r,c_r,B_r,m_r,d_r,e1,r2,hh⟩
       exact ⟨s_r,A_r,n_r,c_r,B_r,m_r,d_r,e1,r2.more (by omega),hh⟩
end
section
open Go Go.RowKit
theorem BoxAt.setq {T:TypeId} {g m:Nat} {M:List QV} (h:BoxAt T w g (qvs M).toArray) (hm:m < M.length) (q:QV) :
 BoxAt T (((w.setCell ⟨g,m*3,none⟩ (.bool q.s)).setCell ⟨g,m*3+1,none⟩ (.slice q.A q.n q.c)).setCell ⟨g,m*3+2,none⟩ (.slice q.B q.m q.d)) g (qvs (M.set m q)).toArray:=by
 refine ⟨?_,arr_free (qvs_free _)⟩
 have h0:=h.at_
 have e:((((qvs M).toArray.setIfInBounds (m*3) (.bool q.s)).setIfInBounds (m*3+1) (.slice q.A q.n q.c)).setIfInBounds (m*3+2) (.slice q.B q.m q.d))=(qvs (M.set m q)).toArray:=by
  apply Array.ext'
  simp only [List.setIfInBounds_toArray,List.toList_toArray]
  apply List.ext_getElem?
  intro j
  have hl:(qvs M).length=M.length*3:=rows_length qvc_len M
  have:=rows_set qvc_len hm q j
  rw [show (qvs (M.set m q))[j]?=_ from this]
  simp only [List.getElem?_set,List.length_set,hl]
  by_cases h0:j=m*3
  · subst h0;rw [if_neg (by omega),if_neg (by omega),if_pos rfl,if_pos (by omega),if_pos (by omega),Nat.sub_self];rfl
  · by_cases h1:j=m*3+1
    · subst h1;rw [if_neg (by omega),if_pos rfl,if_pos (by omega),if_pos (by omega),Nat.add_sub_cancel_left];rfl
    · by_cases h2:j=m*3+2
      · subst h2;rw [if_pos rfl,if_pos (by omega),if_pos (by omega),Nat.add_sub_cancel_left];rfl
      · rw [if_neg (by omega),if_neg (by omega),if_neg (by omega),if_neg (by omega)];rfl
 have e2:=congrArg Array.toList e
 simp only [List.setIfInBounds_toArray,List.toList_toArray] at e2
 simp [World.setCell,Array.getElem?_modify,h0,e2]
theorem total_any {A:Option Addr} {n c k:Nat} {L:List QV} {l:List Rat} (hS:SV w A (qvs L)) (hE:EachQ w L l k) (hn:L.length=n) (hc:n≤c) (h63:n≤100000) (hk:1≤k) (hB:n*(k+2)≤400):Calls Tryz.prog 50 #[.slice A n c] w (GivesQ w (qsum l) (n*(k+2)+1)):=by
 rcases Nat.eq_zero_or_pos n with h0 | h0
 · subst h0
   have:l=[]:=List.eq_nil_of_length_eq_zero (by rw [← hE.1,hn])
   subst this
   refine total_0.mono ?_
   rintro e w' ⟨s_r,A_r,n_r,c_r,B_r,m_r,d_r,e1,r2,hh⟩
   exact ⟨s_r,A_r,n_r,c_r,B_r,m_r,d_r,e1,r2.more (by omega),hh⟩
 · refine (total_q n hS hE hn h0 hc h63 hk hB).mono ?_
   rintro e w' ⟨s_r,A_r,n_r,c_r,B_r,m_r,d_r,e1,r2,hh⟩
   exact ⟨s_r,A_r,n_r,c_r,B_r,m_r,d_r,e1,r2.more (by omega),hh⟩
theorem onlyq (w:World) (g o:Nat) (a b c:Value):Only g w (((w.setCell ⟨g,o,none⟩ a).setCell ⟨g,o+1,none⟩ b).setCell ⟨g,o+2,none⟩ c):=(((Only.refl g w).setCell o a).setCell (o+1) b).setCell (o+2) c
theorem BoxAt.frz {T:TypeId} {g j:Nat} {cs:Array Value} (h:BoxAt T w g cs):w.frozen? ⟨g,j,none⟩=false:=frozen_of_row w g j _ _ h.at_
theorem take_set {α:Type} {M:List α} {m:Nat} (hm:m < M.length) (q:α):(M.set m q).take (m+1)=M.take m ++ [q]:=by
 rw [List.take_succ_eq_append_getElem (by rw [List.length_set];exact hm),List.getElem_set_self,List.take_set_of_le (Nat.le_refl _)]
theorem SNr.box {T T':TypeId} {base n k:Nat} {vs:List Value} {w w':World} {A:Option Addr} {cs:Array Value} (h:SNr T base n vs w A) (hB:BoxAt T' w k cs) (hne:T ≠ T' ∨ cs.size < vs.length) (ho:Only k w w'):SNr T base n vs w' A:=fun hn=>by
 obtain ⟨g,e,h1,h2⟩:=h hn
 obtain ⟨cs2,h3,h4,_⟩:=id h2
 exact ⟨g,e,h1,h2.rest (BoxAt.ne h3 hB (hne.imp id (fun q=>by omega))) ho⟩
theorem setq_cell (W:World) (g k o p:Nat) (x y z:Value) (h:k ≠ g):(((W.setCell ⟨g,o,none⟩ x).setCell ⟨g,o+1,none⟩ y).setCell ⟨g,o+2,none⟩ z).cell? ⟨k,p,none⟩=W.cell? ⟨k,p,none⟩:=by
 rw [World.cell?_of_block (Below.heap_setCell _ _ _ _ h),World.cell?_of_block (Below.heap_setCell _ _ _ _ h),World.cell?_of_block (Below.heap_setCell _ _ _ _ h)]
def ringL {α:Type} (l:List α):List α:=l ++ l.take 1
theorem ringL_len {α:Type} (l:List α) (h:0 < l.length):(ringL l).length=l.length+1:=by unfold ringL;rw [List.length_append,List.length_take];omega
theorem ringL_at {α:Type} {l:List α} {i:Nat} (h:i < l.length):(ringL l)[i]?=l[i]?:=by unfold ringL;rw [List.getElem?_append_left h]
theorem Each.ring {G:World→PV→Rat × Rat→Nat→Prop} {L:List PV} {l:List (Rat × Rat)} {k:Nat} (h:Each G w L l k):Each G w (ringL L) (ringL l) k:=by
 refine ⟨by unfold ringL;rw [List.length_append,List.length_append,List.length_take,List.length_take,h.1],fun i p u hp hu=>?_⟩
 unfold ringL at hp hu
 rcases Nat.lt_or_ge i L.length with hi | hi
 · rw [List.getElem?_append_left hi] at hp
   rw [List.getElem?_append_left (by rw [← h.1];exact hi)] at hu
   exact h.2 i p u hp hu
 · rw [List.getElem?_append_right hi] at hp
   rw [List.getElem?_append_right (by rw [← h.1];exact hi),← h.1] at hu
   rw [List.getElem?_take] at hp hu
   split at hp
   · rename_i q;rw [if_pos q] at hu;exact h.2 _ p u hp hu
   · cases hp
def crossP (u v:Rat × Rat):Rat:=u.1*v.2 - u.2*v.1
def crosses (l:List (Rat × Rat)):List Rat:=List.zipWith crossP (ringL l) (ringL l).tail
theorem crosses_at {l:List (Rat × Rat)} {i:Nat} {u v:Rat × Rat} (hu:(ringL l)[i]?=some u) (hv:(ringL l)[i+1]?=some v):(crosses l)[i]?=some (crossP u v):=by
 unfold crosses
 rw [List.getElem?_zipWith,hu,List.getElem?_tail,hv]
theorem crosses_len (l:List (Rat × Rat)):(crosses l).length=l.length:=by
 unfold crosses
 rw [List.length_zipWith,List.length_tail]
 rcases Nat.eq_zero_or_pos l.length with h | h
 · rw [List.length_eq_zero_iff] at h;subst h;rfl
 · rw [ringL_len l h];omega
theorem take_snoc {α:Type} {l:List α} {m:Nat} {u:α} (h:l[m]?=some u):l.take (m+1)=l.take m ++ [u]:=by
 obtain ⟨hm,hv⟩:=List.getElem?_eq_some_iff.1 h
 rw [List.take_succ_eq_append_getElem hm,hv]
theorem BoxAt.q3 {T:TypeId} {g m:Nat} {M:List QV} {p:QV} (h:BoxAt T w g (qvs M).toArray) (hp:M[m]?=some p):E3x w g (m*3) p:=by
 have key:∀ j,j < 3→∀ u,p.cells[j]?=some u→w.cell? ⟨g,m*3+j,none⟩=some u:=fun j hj u hu=>by
  rw [cell_of_row w g (m*3+j) _ _ (0,0) h.at_,← hu,← rows_get qvc_len hp hj];simp [qvs]
 exact ⟨h.lt,key 0 (by decide) _ rfl,key 1 (by decide) _ rfl,key 2 (by decide) _ rfl⟩
def areaQ (l:List (Rat × Rat)):Rat:=qsum (crosses l)*Rat.divInt 1 2
abbrev L_area1:List Nat:=[7,8,9,10,11,3,4]
def o0_area1:Oper:=⟨some 7,.move (.tmp 0),22, "area.go:14",#[],none⟩
def o1_area1:Oper:=⟨some 8,.call ⟨.value (.func 47),#[.tmp 7],#[22]⟩,22, "area.go:14",#[⟨0,.data⟩],none⟩
def o2_area1:Oper:=⟨some 9,.move (.tmp 0),22, "area.go:14",#[],none⟩
def o3_area1:Oper:=⟨some 10,.call ⟨.builtin Builtin.len,#[.tmp 9],#[22]⟩,3, "area.go:14",#[⟨2,.data⟩],none⟩
def o4_area1:Oper:=⟨some 11,.makeSlice 80 (.tmp 10) (.tmp 10),80, "area.go:14",#[⟨3,.data⟩,⟨3,.data⟩],none⟩
def o5_area1:Oper:=⟨some 3,.assign (.tmp 8),22, "area.go:14",#[⟨1,.data⟩,⟨1,.chain⟩,⟨0,.phase⟩,⟨1,.phase⟩,⟨2,.textOnly .lateStores⟩,⟨3,.textOnly .lateStoresUnsure⟩,⟨4,.textOnly .lateStoresUnsure⟩],none⟩
def o6_area1:Oper:=⟨some 4,.assign (.tmp 11),80, "area.go:14",#[⟨4,.data⟩,⟨5,.chain⟩,⟨0,.phase⟩,⟨1,.phase⟩,⟨2,.phase⟩,⟨3,.phase⟩,⟨4,.phase⟩,⟨5,.phase⟩],none⟩
theorem rc_gesso_area_closed_gesso_api_Pt_ {e:Operand→Value} {x0:Operand} {d:Option Tmp} {y:Nat} {pos:String} {af:Array Edge} {u0:Value} (h0:e x0=u0) (hf:e (.func 47)=.func (.func 47) #[] #[]) :
 (execOp e ⟨d,.call ⟨.value (.func 47),#[x0],#[22]⟩,y,pos,af,none⟩).run Tryz.prog w=.ok (.enter 47 #[u0]) w:=by
 go_simp
def F_area1 (A:Option Addr) (n:Nat) (c:Nat) (base:Nat) (L:List PV) (sl:Nat):Value→World→Prop :=
 match sl with
 | 7=>fun x _=>x=Value.slice A n c
 | 8=>VSB (29) (base) (n) (n+min 1 n) (pvs (L ++ L.take 1))
 | 9=>fun x _=>x=Value.slice A n c
 | 10=>fun x _=>x=Value.int .i64 (n:Int)
 | 11=>VMK (27) ((qvs (List.replicate n zqv)).toArray) (n) (base)
 | 3=>VSB (29) (base) (n) (n+min 1 n) (pvs (L ++ L.take 1))
 | 4=>VMK (27) ((qvs (List.replicate n zqv)).toArray) (n) (base)
 | _=>fun _ _=>True
theorem area1_region {id:Nat} {ac:Act} {Q:Exit→Act→World→Prop} {A:Option Addr} {n c base:Nat} {L:List PV}
 (hsz:11 < ac.tmps.size) (e0:ac.eval (.tmp 0)=Value.slice A n c) (hL:SV w A (pvs L)) (hn:L.length=n) (hm:n≤100000) (hnc:n≤c) (hbs:base≤w.heap.size)
 (hend:∀ (V:Nat→Value) (w':World),(VSB (29) (base) (n) (n+min 1 n) (pvs (L ++ L.take 1))) (V 3) w'→(VMK (27) ((qvs (List.replicate n zqv)).toArray) (n) (base)) (V 4) w'→Below w.heap.size w w'→Q .normal (putAll ac [7,8,9,10,11,3,4] V) w') :
 (Code.region id #[o0_area1,o1_area1,o2_area1,o3_area1,o4_area1,o5_area1,o6_area1] true).wp Tryz.prog Q ac w:=by
 have hnd:L_area1.Nodup:=by decide
 have G:∀ (sv:Nat→Value) (t:Nat),t ∈ L_area1→t≤11→(putAll ac L_area1 sv).eval (.tmp t)=sv t:=fun sv t ht h=>eval_putAll_mem (t:=t) L_area1 ac hnd ht (Nat.lt_of_le_of_lt h hsz)
 have E0:∀ sv:Nat→Value,(putAll ac L_area1 sv).eval (.tmp 0)=Value.slice A n c:=fun sv=>(eval_putAll_not (v:=sv) L_area1 ac (show 0 ∉ _ by decide)).trans e0
 have NE:∀ t:Nat,(True)→∀ p ∈ ([]:List BoxOp),t ≠ p.tA:=by
  intro t ht p hp
  cases hp
 refine wp_region_flowsT L_area1 ([]:List BoxOp) (F_area1 A n c base L) (by kernel_rfl) (by kernel_rfl) rfl hnd ?_ ?_ ?_ ?_ ?_ ?_ ?_ ?_
 · intro p hp
   cases hp
 · intro p hp;cases hp
 · intro p hp;cases hp
 · intro i o h1 h2
   match i,h1 with
   | 0,h1=>cases h1;cases h2
   | 1,h1=>cases h1;cases h2
   | 2,h1=>cases h1;cases h2
   | 3,h1=>cases h1;cases h2
   | 4,h1=>cases h1;cases h2
   | 5,h1=>cases h1;cases h2
   | 6,h1=>cases h1;cases h2
   | i+7,h1=>cases h1
 · intro t
   unfold F_area1
   split <;> first | exact (stays_eq _).inn _ | exact (stays_q _ _).inn _ | exact (stays_z _ _).inn _ | exact (stays_r _ _).inn _ | exact (stays_rq _ _).inn _ | exact (stays_pg _ _ _).inn _ | exact (stays_true).inn _ | exact stays_sb _ _ _ _ _ _ (fun p hp=>by cases hp) | exact stays_mk _ _ _ _ _ (fun p hp=>by cases hp)
 · intro i o t sv w' ho hia hd J0 hf
   have hL:=hL.below J0
   match i,ho with
   | 0,ho =>
     obtain rfl:o0_area1=o:=Option.some.inj ho
     cases hd
     refine wpOp_plain' (o:=o0_area1) rfl rfl ?_
     unfold Oper.wp o0_area1
     rw [run_move (E0 sv),Oper.upon_value]
     exact ⟨_,rfl,Below.refl _ _,rfl⟩
   | 1,ho =>
     obtain rfl:o1_area1=o:=Option.some.inj ho
     cases hd
     have f7:sv 7=Value.slice A n c:=hf ⟨0,.data⟩ (by simp [o1_area1]) rfl _ 7 rfl rfl (NE _ (by decide))
     refine wpOp_plain' (o:=o1_area1) rfl rfl ?_
     unfold Oper.wp o1_area1
     rw [rc_gesso_area_closed_gesso_api_Pt_ ((G sv 7 (by decide) (by decide)).trans f7) rfl,Oper.upon_enter]
     refine (closed_p hL hn hm hnc (Nat.le_trans hbs J0.size)).mono ?_
     rintro e w1 ⟨A_,c_,rfl,hq,hh⟩
     exact ⟨_,rfl,hh,A_,c_,rfl,hq⟩
   | 2,ho =>
     obtain rfl:o2_area1=o:=Option.some.inj ho
     cases hd
     refine wpOp_plain' (o:=o2_area1) rfl rfl ?_
     unfold Oper.wp o2_area1
     rw [run_move (E0 sv),Oper.upon_value]
     exact ⟨_,rfl,Below.refl _ _,rfl⟩
   | 3,ho =>
     obtain rfl:o3_area1=o:=Option.some.inj ho
     cases hd
     have f9:sv 9=Value.slice A n c:=hf ⟨2,.data⟩ (by simp [o3_area1]) rfl _ 9 rfl rfl (NE _ (by decide))
     refine wpOp_plain' (o:=o3_area1) rfl rfl ?_
     unfold Oper.wp o3_area1
     rw [run_len_p ((G sv 9 (by decide) (by decide)).trans f9) ,Oper.upon_value]
     exact ⟨_,rfl,Below.refl _ _,rfl⟩
   | 4,ho =>
     obtain rfl:o4_area1=o:=Option.some.inj ho
     cases hd
     have f10:sv 10=Value.int .i64 (n:Int):=hf ⟨3,.data⟩ (by simp [o4_area1]) rfl _ 10 rfl rfl (NE _ (by decide))
     refine wpOp_plain' (o:=o4_area1) rfl rfl ?_
     unfold Oper.wp o4_area1
     rw [run_make_q ((G sv 10 (by decide) (by decide)).trans f10) ((G sv 10 (by decide) (by decide)).trans f10) hm,Oper.upon_value]
     exact ⟨_,rfl,(Below.refl _ _).alloc (Nat.le_refl _) _,_,rfl,made_q w' n base (Nat.le_trans hbs J0.size)⟩
   | 5,ho =>
     obtain rfl:o5_area1=o:=Option.some.inj ho
     cases hd
     have f:=hf ⟨1,.data⟩ (by simp [o5_area1]) rfl _ 8 rfl rfl (NE _ (by decide))
     refine wpOp_plain' (o:=o5_area1) rfl rfl ?_
     unfold Oper.wp o5_area1
     rw [run_assign (G sv 8 (by decide) (by decide)),Oper.upon_value]
     exact ⟨_,rfl,Below.refl _ _,f⟩
   | 6,ho =>
     obtain rfl:o6_area1=o:=Option.some.inj ho
     cases hd
     have f:=hf ⟨4,.data⟩ (by simp [o6_area1]) rfl _ 11 rfl rfl (NE _ (by decide))
     refine wpOp_plain' (o:=o6_area1) rfl rfl ?_
     unfold Oper.wp o6_area1
     rw [run_assign (G sv 11 (by decide) (by decide)),Oper.upon_value]
     exact ⟨_,rfl,Below.refl _ _,f⟩
   | i+7,ho=>cases ho
 · intro p hp os sv w' g hos J0 p1 p3 hf
   cases hp
 · intro sv w' J0 hF hB hap
   exact hend sv w'   (hF 5 _ 3 rfl rfl (NE _ (by decide))) (hF 6 _ 4 rfl rfl (NE _ (by decide))) J0
theorem area_p {A:Option Addr} {n c k:Nat} {L:List PV} {l:List (Rat × Rat)} (hL:SV w A (pvs L)) (hE:Each PV.PR w L l k) (hn:L.length=n) (hm:n≤1000) (hnc:n≤c) (h1:1≤k) (hk:k+k≤200) (hB:n*(k+k+(k+k)+1+2)+2≤400) :
 Calls Tryz.prog 15 #[.slice A n c] w (GivesQ w (areaQ l) (n*(k+k+(k+k)+1+2)+1+1)):=by
 have HN:=Lib.hid hn;have HB:=Lib.hid hB;have HL00:=Lib.hid hL;have E00:=Lib.hid hE;clear hB
 go_enter Tryz.func15,Tryz.ntmps15
 go_upto_region 1 with (fail)
 generalize hW:World.alloc _ _=W
 obtain ⟨hb,Z,hzW⟩:=mkbx12_8 hW;clear hW;replace hL:=hL.below hb
 replace hE:=hE.imp (fun p u h=>PR.below h hb)
 refine area1_region (by simp) rfl hL hn (by omega) hnc (Nat.le_refl _) ?_
 intro V w1 hF3 hF4 hh
 obtain ⟨A1,c1,hv3,hR0⟩:=hF3
 obtain ⟨gP,hv4,hgP,hP0⟩:=hF4
 simp only [putAll,Act.put,List.setIfInBounds_toArray,List.set_cons_zero,List.set_cons_succ,hv3,hv4]
 clear hv3 hv4;replace hL:=hL.below hh
 replace hE:=hE.imp (fun p u h=>PR.below h hh)
 replace Z:=Z.below hh;replace hb:=bend hb hh
 have hgZ:w.heap.size < gP:=by omega
 rw [show n+min 1 n=(ringL L).length by unfold ringL;rw [List.length_append,List.length_take,hn,Nat.min_comm]]
 have HR1:Hid ((ringL L).length=n+min 1 n):=by show _=_;unfold ringL;rw [List.length_append,List.length_take,hn,Nat.min_comm]
 generalize hN1:(ringL L).length=N1 at HR1 ⊢
 have HR2:=Lib.hid hN1
 have HL0:Hid (SV w A (pvs L)):=HL00
 have E0:Hid (Each PV.PR w L l k):=E00
 clear hN1 hL hE
 go_wp2_with fail
 go_loopg [14] n (fun gk ix wr=>∃ (M:List QV) (m:Nat),Hid (gk+m=n)∧ix=.int .i64 (m:Int)∧Hid (M.length=n)∧BoxAt 27 wr gP (qvs M).toArray∧Hid (EachQ wr (M.take m) ((crosses l).take m) (k+k+(k+k)+1))∧SNr 29 W.heap.size n (pvs (ringL L)) wr A1∧B3 wr w.heap.size (.bool false) (.slice none 0 0) (.slice none 0 0)∧Below w.heap.size w wr)
 case atStart=>exact ⟨List.replicate n zqv,0,Nat.add_zero _,rfl,by show _=_;rw [List.length_replicate],hP0,⟨rfl,fun i p v h=>by cases h⟩,hR0,Z,hb⟩
 case round =>
  clear hP0 hR0
  obtain ⟨M,m,HG,rfl,HM,hP,HQ,hR,Z,hb⟩:=hrel
  by_cases hmn:m < n
  · have hmn':m < M.length:=by rw [HM.out];exact hmn
    obtain ⟨pm,hpm⟩:∃ pm,M[m]?=some pm:=⟨_,List.getElem?_eq_getElem hmn'⟩
    have HPM:=Lib.hid hpm
    have HL1:=Lib.hid hmn'
    have hixq:=idx_q (g:=gP) (n:=n) (c:=n) hmn
    obtain ⟨P,u,hP1,hu1,p⟩:=(E0.out.imp (fun p u h=>PR.below h hb)).at_ (i:=m) (by rw [HN.out];exact hmn)
    obtain ⟨Q,v,hP2,hu2,q⟩:=(E0.out.imp (fun p u h=>PR.below h hb)).ring.at_ (i:=m+1) (by have h:=HR1.out;have h2:=HR2.out;rw [h2,h];omega)
    have hv1:(ringL l)[m]?=some u:=by rw [ringL_at (by rw [← E0.out.1,HN.out];exact hmn)];exact hu1
    obtain ⟨g0,o0,hix0,E,_⟩:=(HL0.out.below hb).pt hP1
    obtain ⟨g1,o1,hix1,E',o1_,hA1⟩:=(hR.sv (by omega)).pt hP2
    have hixa:∀ w',(Instr.indexAt 22 (.slice A n c) (.int .i64 (m:Int))).run Tryz.prog w'=.ok (.pointer (some ⟨g0,o0,none⟩)) w':=fun w'=>hix0 n c w' hmn
    have hixb:∀ w',(Instr.indexAt 22 (.slice A1 N1 c1) (.int .i64 ((m:Int)+1))).run Tryz.prog w'=.ok (.pointer (some ⟨g1,o1,none⟩)) w':=fun w'=>hix1 N1 c1 w' (by have:=HR1.out;omega)
    have hwr:IntKind.i64.wrap ((m:Int)+1)=(m:Int)+1:=IntWalk.i64_in _ (by omega)
    have hlt:(m:Int) < (n:Int):=by omega
    have HU:=Lib.hid hv1;have HV:=Lib.hid hu2
    obtain ⟨ux,uy⟩:=u
    obtain ⟨vx,vy⟩:=v
    obtain ⟨s_p,A_p,n_p,c_p,B_p,m_p,d_p,t_p,E_p,i_p,e_p,F_p,j_p,f_p⟩:=P
    obtain ⟨s_q,A_q,n_q,c_q,B_q,m_q,d_q,t_q,E_q,i_q,e_q,F_q,j_q,f_q⟩:=Q
    replace p:PR wr s_p A_p n_p c_p B_p m_p d_p t_p E_p i_p e_p F_p j_p f_p ux uy k:=p
    replace q:PR wr s_q A_q n_q c_q B_q m_q d_q t_q E_q i_q e_q F_q j_q f_q vx vy k:=q
    have hgg:g1 ≠ gP:=by
     obtain ⟨g2,e2,_,cs2,h3,_⟩:=hR (by omega)
     rw [hA1] at e2
     cases e2
     exact BoxAt.ne h3 hP (.inl (by decide))
    obtain ⟨e0,e1,e2,e3,e4,e5⟩:=E.all
    simp only at e0 e1 e2 e3 e4 e5
    clear hpm hP1 hP2 hu1 hu2 hix0 hix1 hA1 hv1 hmn' hmn
    go_upto_region 5 with (fail)
    replace HQ:=HQ.out
    have hx1:wr.heap.size ≠ gP:=by have:=hP.lt;omega
    generalize hW:World.alloc _ _=W2
    obtain ⟨hh,X,hzW2⟩:=mkbx18_10 hW;clear hW;(try replace p:=p.below hh);(try replace q:=q.below hh);(try replace hP:=hP.below hh);(try replace HQ:=HQ.below hh);(try replace hR:=hR.below hh);(try replace Z:=Z.below hh)
    try replace E':=E'.below hh
    replace hb:=bend hb hh
    replace p:=p.below (Below.refl _ _).drew
    replace q:=q.below (Below.refl _ _).drew
    replace hP:=hP.below (Below.refl _ _).drew
    replace HQ:=HQ.below (Below.refl _ _).drew
    replace hR:=hR.below (Below.refl _ _).drew
    replace Z:=Z.below (Below.refl _ _).drew
    replace E':=E'.below (Below.refl _ _).drew
    replace X:=X.below (Below.refl _ _).drew
    replace hb:=hb.drew
    have hx2:g1 ≠ gP:=hgg
    go_region_held3 (fun w'=>w'.cell? ⟨wr.heap.size,0,none⟩=some (.bool s_p)∧w'.cell? ⟨wr.heap.size,1,none⟩=some (.slice A_p n_p c_p)∧w'.cell? ⟨wr.heap.size,2,none⟩=some (.slice B_p m_p d_p)∧w'.cell? ⟨wr.heap.size,3,none⟩=some (.bool t_p)∧w'.cell? ⟨wr.heap.size,4,none⟩=some (.slice E_p i_p e_p)∧w'.cell? ⟨wr.heap.size,5,none⟩=some (.slice F_p j_p f_p)∧w'.cell? ⟨g1,o1,none⟩=some (.bool s_q)∧w'.cell? ⟨g1,o1+1,none⟩=some (.slice A_q n_q c_q)∧w'.cell? ⟨g1,o1+2,none⟩=some (.slice B_q m_q d_q)∧w'.cell? ⟨g1,o1+3,none⟩=some (.bool t_q)∧w'.cell? ⟨g1,o1+4,none⟩=some (.slice E_q i_q e_q)∧w'.cell? ⟨g1,o1+5,none⟩=some (.slice F_q j_q f_q))
     (first | with_reducible exact ⟨X.c0,X.c1,X.c2,X.c3,X.c4,X.c5,E'.c0,E'.c1,E'.c2,E'.c3,E'.c4,E'.c5⟩ | with_reducible exact ⟨(setq_cell _ _ _ _ _ _ _ _ hx1).trans X.c0,(setq_cell _ _ _ _ _ _ _ _ hx1).trans X.c1,(setq_cell _ _ _ _ _ _ _ _ hx1).trans X.c2,(setq_cell _ _ _ _ _ _ _ _ hx1).trans X.c3,(setq_cell _ _ _ _ _ _ _ _ hx1).trans X.c4,(setq_cell _ _ _ _ _ _ _ _ hx1).trans X.c5,(setq_cell _ _ _ _ _ _ _ _ hx2).trans E'.c0,(setq_cell _ _ _ _ _ _ _ _ hx2).trans E'.c1,(setq_cell _ _ _ _ _ _ _ _ hx2).trans E'.c2,(setq_cell _ _ _ _ _ _ _ _ hx2).trans E'.c3,(setq_cell _ _ _ _ _ _ _ _ hx2).trans E'.c4,(setq_cell _ _ _ _ _ _ _ _ hx2).trans E'.c5⟩)
     (first
     | (go_at_call 48;(with_reducible refine (pcross_p p q hk h1 h1).mono ?_);rintro e w_r ⟨s_r,A_r,n_r,c_r,B_r,m_r,d_r,rfl,r,hh⟩
        (try replace p:=p.below hh);(try replace q:=q.below hh);(try replace hP:=hP.below hh);(try replace HQ:=HQ.below hh);(try replace hR:=hR.below hh);(try replace Z:=Z.below hh)
        try replace E':=E'.below hh
        (try replace X:=X.below hh);replace hb:=bend hb hh;have Eq:=hP.q3 HPM.out;obtain ⟨q0,q1,q2⟩:=Eq.all
        have qf0:=hP.frz (j:=m*3)
        have qf1:=hP.frz (j:=m*3+1)
        have qf2:=hP.frz (j:=m*3+2)))
    have ho:=onlyq w_r gP (m*3) (.bool s_r) (.slice A_r n_r c_r) (.slice B_r m_r d_r)
    have hP2:=hP.setq HL1.out (QV.mk s_r A_r n_r c_r B_r m_r d_r)
    replace r:=r.box hP ho
    replace HQ:=(HQ.box hP ho).push (p:=(QV.mk s_r A_r n_r c_r B_r m_r d_r)) r
    replace hR:=hR.box hP (.inl (by decide)) ho
    replace Z:B3 (((w_r.setCell ⟨gP,m*3,none⟩ (.bool s_r)).setCell ⟨gP,m*3+1,none⟩ (.slice A_r n_r c_r)).setCell ⟨gP,m*3+2,none⟩ (.slice B_r m_r d_r)) w.heap.size (.bool false) (.slice none 0 0) (.slice none 0 0):=(ho.block _ Z.lt (by omega)).trans Z
    replace hb:=Below.only hb (by omega) hb.size ho
    have hcr:(crosses l)[m]?=some (ux*vy - uy*vx):=crosses_at HU.out HV.out
    rw [← take_snoc hcr,← take_set HL1.out (QV.mk s_r A_r n_r c_r B_r m_r d_r)] at HQ
    clear hP ho Eq q0 q1 q2 qf0 qf1 qf2 E' X p q hcr
    generalize (((w_r.setCell ⟨gP,m*3,none⟩ (.bool s_r)).setCell ⟨gP,m*3+1,none⟩ (.slice A_r n_r c_r)).setCell ⟨gP,m*3+2,none⟩ (.slice B_r m_r d_r))=W3 at *
    go_wp2_with fail
    go_roundg (gk - 1)
    case measure=>have:=HG.out;omega
    case rel=>exact ⟨M.set m (QV.mk s_r A_r n_r c_r B_r m_r d_r),m+1,by have:=HG.out;show _=_;omega,by go_num,by show _=_;rw [List.length_set];exact HM.out,hP2,HQ,hR,Z,hb⟩
  · have hlt:¬ (m:Int) < (n:Int):=by omega
    obtain rfl:m=n:=by have:=HG.out;omega
    replace HQ:=HQ.out
    rw [List.take_of_length_le (by rw [HM.out];exact Nat.le_refl _),List.take_of_length_le (by rw [crosses_len,← E0.out.1,HN.out];exact Nat.le_refl _)] at HQ
    have hPS:=hP.sv;have hB2:=HB.out
    have HK:Hid (m*((k+k+(k+k)+1)+2)+1≤400):=by show _≤_;omega
    have HK2:Hid (1≤m*((k+k+(k+k)+1)+2)+1):=by show _≤_;omega
    clear hmn hR;have zf0:=Z.f0;have zf1:=Z.f1;have zf2:=Z.f2;obtain ⟨z0,z1,z2⟩:=Z.all
    go_wp2_with (first
     | (go_at_call 50;(with_reducible refine (total_any hPS HQ HM.out (Nat.le_refl _) (by omega) (by omega) (by have:=HK.out;omega)).mono ?_);rintro e w_x ⟨s_x,A_x,n_x,c_x,B_x,m_x,d_x,rfl,x,hh⟩
        (try replace Z:=Z.below hh);replace hb:=bend hb hh;have zf0:=Z.f0;have zf1:=Z.f1;have zf2:=Z.f2;obtain ⟨z0,z1,z2⟩:=Z.all)
     | (go_at_call 51;(with_reducible refine (rof_q 1 2 (by decide) (by decide) (by decide) (by decide) (by decide) _).mono ?_);rintro e w_y ⟨s_y,A_y,n_y,c_y,B_y,m_y,d_y,rfl,y,hh⟩
        (try replace Z:=Z.below hh);(try replace x:=x.below hh);replace hb:=bend hb hh;have zf0:=Z.f0;have zf1:=Z.f1;have zf2:=Z.f2;obtain ⟨z0,z1,z2⟩:=Z.all)
     | (go_at_call 49;(with_reducible refine (rmul_q x.qr y.qr HK.out (by decide) (.inl HK.out) HK2.out (by decide)).mono ?_);rintro e w_r ⟨s_r,A_r,n_r,c_r,B_r,m_r,d_r,rfl,r,hh⟩
        (try replace Z:=Z.below hh);replace hb:=bend hb hh;have zf0:=Z.f0;have zf1:=Z.f1;have zf2:=Z.f2;obtain ⟨z0,z1,z2⟩:=Z.all))
    have Z2:=Z.set3 (.bool s_r) (.slice A_r n_r c_r) (.slice B_r m_r d_r)
    obtain ⟨g0,g1,g2⟩:=Z2.all
    refine bodyPost_ret (v:=.agg #[.bool s_r,.slice A_r n_r c_r,.slice B_r m_r d_r]) (by simp [results,Tryz.results15,go_sem,g0,g1,g2]) rfl ?_
    exact ⟨s_r,A_r,n_r,c_r,B_r,m_r,d_r,rfl,r.set3 Z _ _ _,below_set3 hb (Nat.le_refl _) _ _ _⟩
end
section
def crs (a b c d:Rat):Rat:=a*d - b*c
def dotq (a b c d:Rat):Rat:=a*c+b*d
def LeftV (a b c d:Rat):Prop:=0 < crs a b c d ∨ (crs a b c d=0∧0 < dotq a b c d)
section
variable {n:Nat} {x y:Nat→Rat}
def dd (x:Nat→Rat) (k:Nat):Rat:=x (k+1) - x k
end
section
variable {n:Nat} {x y:Nat→Rat}
end
end
section
open Go Go.RowKit
theorem zqr (w:World):QR w false none 0 0 none 0 0 0 1:=by
 refine ⟨0,0,⟨[],⟨rfl,fun h=>absurd h (by decide)⟩,Lim.nil,rfl,Nat.le_refl _,by decide,by decide⟩,⟨[],⟨rfl,fun h=>absurd h (by decide)⟩,Lim.nil,rfl,Nat.le_refl _,by decide⟩,by decide +kernel⟩
theorem zpr (w:World):PR w false none 0 0 none 0 0 false none 0 0 none 0 0 0 0 1:=⟨zqr w,zqr w⟩
theorem BoxAt.setp {T:TypeId} {g m:Nat} {M:List PV} (h:BoxAt T w g (pvs M).toArray) (hm:m < M.length) (q:PV) :
 BoxAt T ((((((w.setCell ⟨g,m*6,none⟩ (.bool q.s)).setCell ⟨g,m*6+1,none⟩ (.slice q.A q.n q.c)).setCell ⟨g,m*6+2,none⟩ (.slice q.B q.m q.d)).setCell ⟨g,m*6+3,none⟩ (.bool q.t)).setCell ⟨g,m*6+4,none⟩ (.slice q.E q.i q.e)).setCell ⟨g,m*6+5,none⟩ (.slice q.F q.j q.f)) g (pvs (M.set m q)).toArray:=by
 refine ⟨?_,arr_free (pvs_free _)⟩
 have h0:=h.at_
 have e2:((((((pvs M).set (m*6) (.bool q.s)).set (m*6+1) (.slice q.A q.n q.c)).set (m*6+2) (.slice q.B q.m q.d)).set (m*6+3) (.bool q.t)).set (m*6+4) (.slice q.E q.i q.e)).set (m*6+5) (.slice q.F q.j q.f)=pvs (M.set m q):=by
  apply List.ext_getElem?
  intro j
  have hl:(pvs M).length=M.length*6:=rows_length pvc_len M
  have:=rows_set pvc_len hm q j
  rw [show (pvs (M.set m q))[j]?=_ from this]
  simp only [List.getElem?_set,List.length_set,hl]
  by_cases h0:m*6≤j∧j < m*6+6
  · rw [if_pos h0]
    obtain ⟨a,rfl,ha⟩:∃ a,j=m*6+a∧a < 6:=⟨j - m*6,by omega,by omega⟩
    rw [Nat.add_sub_cancel_left]
    match a,ha with
    | 0,_=>rw [if_neg (by omega),if_neg (by omega),if_neg (by omega),if_neg (by omega),if_neg (by omega),if_pos (by omega),if_pos (by omega)];rfl
    | 1,_=>rw [if_neg (by omega),if_neg (by omega),if_neg (by omega),if_neg (by omega),if_pos (by omega),if_pos (by omega)];rfl
    | 2,_=>rw [if_neg (by omega),if_neg (by omega),if_neg (by omega),if_pos (by omega),if_pos (by omega)];rfl
    | 3,_=>rw [if_neg (by omega),if_neg (by omega),if_pos (by omega),if_pos (by omega)];rfl
    | 4,_=>rw [if_neg (by omega),if_pos (by omega),if_pos (by omega)];rfl
    | 5,_=>rw [if_pos (by omega),if_pos (by omega)];rfl
    | a+6,ha=>omega
  · rw [if_neg h0,if_neg (by omega),if_neg (by omega),if_neg (by omega),if_neg (by omega),if_neg (by omega),if_neg (by omega)];rfl
 simp [World.setCell,Array.getElem?_modify,h0,e2]
theorem onlyp (w:World) (g o:Nat) (a b c d e f:Value):Only g w ((((((w.setCell ⟨g,o,none⟩ a).setCell ⟨g,o+1,none⟩ b).setCell ⟨g,o+2,none⟩ c).setCell ⟨g,o+3,none⟩ d).setCell ⟨g,o+4,none⟩ e).setCell ⟨g,o+5,none⟩ f):=((((((Only.refl g w).setCell o a).setCell (o+1) b).setCell (o+2) c).setCell (o+3) d).setCell (o+4) e).setCell (o+5) f
theorem setp_cell (W:World) (g k o p:Nat) (a b c d e f:Value) (h:k ≠ g):((((((W.setCell ⟨g,o,none⟩ a).setCell ⟨g,o+1,none⟩ b).setCell ⟨g,o+2,none⟩ c).setCell ⟨g,o+3,none⟩ d).setCell ⟨g,o+4,none⟩ e).setCell ⟨g,o+5,none⟩ f).cell? ⟨k,p,none⟩=W.cell? ⟨k,p,none⟩:=by
 rw [World.cell?_of_block (Below.heap_setCell _ _ _ _ h),World.cell?_of_block (Below.heap_setCell _ _ _ _ h),World.cell?_of_block (Below.heap_setCell _ _ _ _ h),World.cell?_of_block (Below.heap_setCell _ _ _ _ h),World.cell?_of_block (Below.heap_setCell _ _ _ _ h),World.cell?_of_block (Below.heap_setCell _ _ _ _ h)]
theorem BoxAt.p6 {T:TypeId} {g m:Nat} {M:List PV} {p:PV} (h:BoxAt T w g (pvs M).toArray) (hp:M[m]?=some p):E6x w g (m*6) p:=by
 have key:∀ j,j < 6→∀ u,p.cells[j]?=some u→w.cell? ⟨g,m*6+j,none⟩=some u:=fun j hj u hu=>by
  rw [cell_of_row w g (m*6+j) _ _ (0,0) h.at_,← hu,← rows_get pvc_len hp hj];simp [pvs]
 exact ⟨h.lt,key 0 (by decide) _ rfl,key 1 (by decide) _ rfl,key 2 (by decide) _ rfl,key 3 (by decide) _ rfl,key 4 (by decide) _ rfl,key 5 (by decide) _ rfl⟩
theorem afresh_p {k:Nat} {x y:Rat} (p:PR w s_p A_p n_p c_p B_p m_p d_p t_p E_p i_p e_p F_p j_p f_p x y k) (hk:k≤300) (h1:1≤k) :
 Calls Tryz.prog 40 #[.agg #[.bool s_p,.slice A_p n_p c_p,.slice B_p m_p d_p,.bool t_p,.slice E_p i_p e_p,.slice F_p j_p f_p]] w (GivesPt w x y (k+1+1)):=by
 rw [show x=x+0 by grind,show y=y+0 by grind]
 go_enter Tryz.func40,Tryz.ntmps40
 go_upto_region 1 with (fail)
 generalize hW:World.alloc _ _=W
 obtain ⟨hb,XA,Z,hzW⟩:=mkbx24_10 hW;clear hW;replace p:=p.below hb;obtain ⟨xa0,xa1,xa2,xa3,xa4,xa5⟩:=XA.all
 go_wp2_with (first
  | (go_at_call 84;(with_reducible refine (padd_p p (zpr _) hk (by omega) (.inl (by omega)) h1 (by omega)).mono ?_);rintro e w_r ⟨s_r,A_r,n_r,c_r,B_r,m_r,d_r,t_r,E_r,i_r,e_r,F_r,j_r,f_r,rfl,r,hh⟩
     (try replace Z:=Z.below hh);replace hb:=bend hb hh;have zg0:=Z.f0;have zg1:=Z.f1;have zg2:=Z.f2;have zg3:=Z.f3;have zg4:=Z.f4;have zg5:=Z.f5;obtain ⟨zc0,zc1,zc2,zc3,zc4,zc5⟩:=Z.all))
 have Z2:=Z.set6 (.bool s_r) (.slice A_r n_r c_r) (.slice B_r m_r d_r) (.bool t_r) (.slice E_r i_r e_r) (.slice F_r j_r f_r)
 obtain ⟨g0,g1,g2,g3,g4,g5⟩:=Z2.all
 refine bodyPost_ret (v:=.agg #[.bool s_r,.slice A_r n_r c_r,.slice B_r m_r d_r,.bool t_r,.slice E_r i_r e_r,.slice F_r j_r f_r]) (by simp [results,Tryz.results40,go_sem,g0,g1,g2,g3,g4,g5]) rfl ?_
 exact ⟨s_r,A_r,n_r,c_r,B_r,m_r,d_r,t_r,E_r,i_r,e_r,F_r,j_r,f_r,rfl,r.set6 Z _ _ _ _ _ _,below_set6 hb (by omega) _ _ _ _ _ _⟩
theorem down_p {k:Nat} {x y:Rat} (p:PR w s_p A_p n_p c_p B_p m_p d_p t_p E_p i_p e_p F_p j_p f_p x y k) (hk:k≤900) (h1:1≤k) (R:Bool) (hR:decide (y < 0)=R) :
 Calls Tryz.prog 58 #[.agg #[.bool s_p,.slice A_p n_p c_p,.slice B_p m_p d_p,.bool t_p,.slice E_p i_p e_p,.slice F_p j_p f_p]] w fun e w'=>e=.returned (.bool R)∧Below w.heap.size w w':=by
 obtain ⟨K,hK⟩:∃ K,sgnQ y=K:=⟨_,rfl⟩
 have HK:=Lib.hid hK
 have HR:Hid (decide (K < 0)=R):=by
  show _=_
  rw [← hR,← hK];unfold sgnQ
  split
  · rename_i h;rw [decide_eq_true h];rfl
  · rename_i h;rw [decide_eq_false h];split <;> rfl
 clear hK hR
 go_enter Tryz.func58,Tryz.ntmps58
 go_upto_region 1 with (fail)
 generalize hW:World.alloc _ _=W
 obtain ⟨hb,XA,hzW⟩:=mkbx18_10 hW;clear hW;replace p:=p.below hb;obtain ⟨xa0,xa1,xa2,xa3,xa4,xa5⟩:=XA.all
 go_wp2_with (first
  | (go_at_call 29;(with_reducible refine (rsign_q p.qy hk h1).mono ?_);rintro e w_z ⟨rfl,hh⟩
     rw [HK.out];replace hb:=bend hb hh))
 (try rw [Exit.noGoto_ret])
 go_ret
 exact ⟨by rw [← HR.out];first | rfl | simp,hb⟩
theorem sgnQ_cases (v:Rat):(sgnQ v=1∧0 < v) ∨ (sgnQ v=0∧v=0) ∨ (sgnQ v=-1∧v < 0):=by
 unfold sgnQ
 split
 · exact .inr (.inr ⟨rfl,by assumption⟩)
 · split
   · exact .inr (.inl ⟨rfl,by assumption⟩)
   · exact .inl ⟨rfl,by grind⟩
theorem left_pos {k:Nat} {ax ay bx by_:Rat} (p:PR w s_p A_p n_p c_p B_p m_p d_p t_p E_p i_p e_p F_p j_p f_p ax ay k) (q:PR w s_q A_q n_q c_q B_q m_q d_q t_q E_q i_q e_q F_q j_q f_q bx by_ k) (hk:k+k≤200) (h1:1≤k) (hc:0 < ax*by_ - ay*bx) :
 Calls Tryz.prog 57 #[.agg #[.bool s_p,.slice A_p n_p c_p,.slice B_p m_p d_p,.bool t_p,.slice E_p i_p e_p,.slice F_p j_p f_p],.agg #[.bool s_q,.slice A_q n_q c_q,.slice B_q m_q d_q,.bool t_q,.slice E_q i_q e_q,.slice F_q j_q f_q]] w fun e w'=>e=.returned (.bool (true))∧Below w.heap.size w w':=by
 have HC:Hid (sgnQ (ax*by_ - ay*bx)=1):=by
  rcases sgnQ_cases (ax*by_ - ay*bx) with h | h | h
  · exact h.1
  · exfalso;have:=h.2;grind
  · exfalso;have:=h.2;grind
 clear hc
 go_enter Tryz.func57,Tryz.ntmps57
 go_upto_region 1 with (fail)
 generalize hW:World.alloc _ _=W
 obtain ⟨hb,XA,XB,hzW⟩:=mkbx24_10 hW;clear hW;replace p:=p.below hb;replace q:=q.below hb;obtain ⟨xa0,xa1,xa2,xa3,xa4,xa5⟩:=XA.all;obtain ⟨xb0,xb1,xb2,xb3,xb4,xb5⟩:=XB.all
 go_wp2_with (first
  | (go_at_call 48;(with_reducible refine (pcross_p p q hk h1 h1).mono ?_);rintro e w_r ⟨s_r,A_r,n_r,c_r,B_r,m_r,d_r,rfl,r,hh⟩
     (try replace p:=p.below hh);(try replace q:=q.below hh);(try replace XA:=XA.below hh);(try replace XB:=XB.below hh);replace hb:=bend hb hh;obtain ⟨xa0,xa1,xa2,xa3,xa4,xa5⟩:=XA.all;obtain ⟨xb0,xb1,xb2,xb3,xb4,xb5⟩:=XB.all)
  | (go_at_call 29;(with_reducible refine (rsign_q r.qr (by omega) (by omega)).mono ?_);rintro e w_z ⟨rfl,hh⟩
     rw [HC.out];(try replace p:=p.below hh);(try replace q:=q.below hh);(try replace XA:=XA.below hh);(try replace XB:=XB.below hh);replace hb:=bend hb hh;obtain ⟨xa0,xa1,xa2,xa3,xa4,xa5⟩:=XA.all;obtain ⟨xb0,xb1,xb2,xb3,xb4,xb5⟩:=XB.all))
 (try rw [Exit.noGoto_ret])
 go_ret;exact ⟨rfl,hb⟩
theorem left_neg {k:Nat} {ax ay bx by_:Rat} (p:PR w s_p A_p n_p c_p B_p m_p d_p t_p E_p i_p e_p F_p j_p f_p ax ay k) (q:PR w s_q A_q n_q c_q B_q m_q d_q t_q E_q i_q e_q F_q j_q f_q bx by_ k) (hk:k+k≤200) (h1:1≤k) (hc:ax*by_ - ay*bx < 0) :
 Calls Tryz.prog 57 #[.agg #[.bool s_p,.slice A_p n_p c_p,.slice B_p m_p d_p,.bool t_p,.slice E_p i_p e_p,.slice F_p j_p f_p],.agg #[.bool s_q,.slice A_q n_q c_q,.slice B_q m_q d_q,.bool t_q,.slice E_q i_q e_q,.slice F_q j_q f_q]] w fun e w'=>e=.returned (.bool (false))∧Below w.heap.size w w':=by
 have HC:Hid (sgnQ (ax*by_ - ay*bx)=(-1)):=by
  rcases sgnQ_cases (ax*by_ - ay*bx) with h | h | h
  · exfalso;have:=h.2;grind
  · exfalso;have:=h.2;grind
  · exact h.1
 clear hc
 go_enter Tryz.func57,Tryz.ntmps57
 go_upto_region 1 with (fail)
 generalize hW:World.alloc _ _=W
 obtain ⟨hb,XA,XB,hzW⟩:=mkbx24_10 hW;clear hW;replace p:=p.below hb;replace q:=q.below hb;obtain ⟨xa0,xa1,xa2,xa3,xa4,xa5⟩:=XA.all;obtain ⟨xb0,xb1,xb2,xb3,xb4,xb5⟩:=XB.all
 go_wp2_with (first
  | (go_at_call 48;(with_reducible refine (pcross_p p q hk h1 h1).mono ?_);rintro e w_r ⟨s_r,A_r,n_r,c_r,B_r,m_r,d_r,rfl,r,hh⟩
     (try replace p:=p.below hh);(try replace q:=q.below hh);(try replace XA:=XA.below hh);(try replace XB:=XB.below hh);replace hb:=bend hb hh;obtain ⟨xa0,xa1,xa2,xa3,xa4,xa5⟩:=XA.all;obtain ⟨xb0,xb1,xb2,xb3,xb4,xb5⟩:=XB.all)
  | (go_at_call 29;(with_reducible refine (rsign_q r.qr (by omega) (by omega)).mono ?_);rintro e w_z ⟨rfl,hh⟩
     rw [HC.out];(try replace p:=p.below hh);(try replace q:=q.below hh);(try replace XA:=XA.below hh);(try replace XB:=XB.below hh);replace hb:=bend hb hh;obtain ⟨xa0,xa1,xa2,xa3,xa4,xa5⟩:=XA.all;obtain ⟨xb0,xb1,xb2,xb3,xb4,xb5⟩:=XB.all))
 (try rw [Exit.noGoto_ret])
 go_ret;exact ⟨rfl,hb⟩
theorem left_nul {k:Nat} {ax ay bx by_:Rat} (p:PR w s_p A_p n_p c_p B_p m_p d_p t_p E_p i_p e_p F_p j_p f_p ax ay k) (q:PR w s_q A_q n_q c_q B_q m_q d_q t_q E_q i_q e_q F_q j_q f_q bx by_ k) (hk:k+k≤200) (h1:1≤k) (hc:ax*by_ - ay*bx=0) :
 Calls Tryz.prog 57 #[.agg #[.bool s_p,.slice A_p n_p c_p,.slice B_p m_p d_p,.bool t_p,.slice E_p i_p e_p,.slice F_p j_p f_p],.agg #[.bool s_q,.slice A_q n_q c_q,.slice B_q m_q d_q,.bool t_q,.slice E_q i_q e_q,.slice F_q j_q f_q]] w fun e w'=>e=.returned (.bool (decide (0 < ax*bx+ay*by_)))∧Below w.heap.size w w':=by
 have HC:Hid (sgnQ (ax*by_ - ay*bx)=0):=by
  rcases sgnQ_cases (ax*by_ - ay*bx) with h | h | h
  · exfalso;have:=h.2;grind
  · exact h.1
  · exfalso;have:=h.2;grind
 obtain ⟨K,hK⟩:∃ K,sgnQ (ax*bx+ay*by_)=K:=⟨_,rfl⟩
 have HK:=Lib.hid hK
 have HR:Hid (decide (0 < K)=decide (0 < ax*bx+ay*by_)):=by
  show _=_
  rw [← hK]
  rcases sgnQ_cases (ax*bx+ay*by_) with h | h | h
  · have e:decide (0 < ax*bx+ay*by_)=true:=decide_eq_true h.2
    rw [h.1,e];rfl
  · have e:decide (0 < ax*bx+ay*by_)=false:=decide_eq_false (by have:=h.2;grind)
    rw [h.1,e];rfl
  · have e:decide (0 < ax*bx+ay*by_)=false:=decide_eq_false (by have:=h.2;grind)
    rw [h.1,e];rfl
 clear hK;clear hc
 go_enter Tryz.func57,Tryz.ntmps57
 go_upto_region 1 with (fail)
 generalize hW:World.alloc _ _=W
 obtain ⟨hb,XA,XB,hzW⟩:=mkbx24_10 hW;clear hW;replace p:=p.below hb;replace q:=q.below hb;obtain ⟨xa0,xa1,xa2,xa3,xa4,xa5⟩:=XA.all;obtain ⟨xb0,xb1,xb2,xb3,xb4,xb5⟩:=XB.all
 go_wp2_with (first
  | (go_at_call 48;(with_reducible refine (pcross_p p q hk h1 h1).mono ?_);rintro e w_r ⟨s_r,A_r,n_r,c_r,B_r,m_r,d_r,rfl,r,hh⟩
     (try replace p:=p.below hh);(try replace q:=q.below hh);(try replace XA:=XA.below hh);(try replace XB:=XB.below hh);replace hb:=bend hb hh;obtain ⟨xa0,xa1,xa2,xa3,xa4,xa5⟩:=XA.all;obtain ⟨xb0,xb1,xb2,xb3,xb4,xb5⟩:=XB.all)
  | (go_at_call 99;(with_reducible refine (pdot_p p q hk h1 h1).mono ?_);rintro e w_u ⟨s_u,A_u,n_u,c_u,B_u,m_u,d_u,rfl,u,hh⟩
     (try replace p:=p.below hh);(try replace q:=q.below hh);(try replace XA:=XA.below hh);(try replace XB:=XB.below hh);replace hb:=bend hb hh;obtain ⟨xa0,xa1,xa2,xa3,xa4,xa5⟩:=XA.all;obtain ⟨xb0,xb1,xb2,xb3,xb4,xb5⟩:=XB.all)
  | (go_at_call 29;(with_reducible refine (rsign_q u.qr (by omega) (by omega)).mono ?_);rintro e w_z ⟨rfl,hh⟩
     rw [HK.out];(try replace p:=p.below hh);(try replace q:=q.below hh);(try replace XA:=XA.below hh);(try replace XB:=XB.below hh);replace hb:=bend hb hh;obtain ⟨xa0,xa1,xa2,xa3,xa4,xa5⟩:=XA.all;obtain ⟨xb0,xb1,xb2,xb3,xb4,xb5⟩:=XB.all)
  | (go_at_call 29;(with_reducible refine (rsign_q r.qr (by omega) (by omega)).mono ?_);rintro e w_z ⟨rfl,hh⟩
     rw [HC.out];(try replace p:=p.below hh);(try replace q:=q.below hh);(try replace XA:=XA.below hh);(try replace XB:=XB.below hh);replace hb:=bend hb hh;obtain ⟨xa0,xa1,xa2,xa3,xa4,xa5⟩:=XA.all;obtain ⟨xb0,xb1,xb2,xb3,xb4,xb5⟩:=XB.all))
 (try rw [Exit.noGoto_ret])
 go_ret
 exact ⟨by rw [← HR.out];first | rfl | simp,hb⟩
instance (a b c d:Rat):Decidable (LeftV a b c d):=by unfold LeftV;exact inferInstance
theorem left_p {k:Nat} {ax ay bx by_:Rat} (p:PR w s_p A_p n_p c_p B_p m_p d_p t_p E_p i_p e_p F_p j_p f_p ax ay k) (q:PR w s_q A_q n_q c_q B_q m_q d_q t_q E_q i_q e_q F_q j_q f_q bx by_ k) (hk:k+k≤200) (h1:1≤k) (R:Bool) (hR:decide (LeftV ax ay bx by_)=R) :
 Calls Tryz.prog 57 #[.agg #[.bool s_p,.slice A_p n_p c_p,.slice B_p m_p d_p,.bool t_p,.slice E_p i_p e_p,.slice F_p j_p f_p],.agg #[.bool s_q,.slice A_q n_q c_q,.slice B_q m_q d_q,.bool t_q,.slice E_q i_q e_q,.slice F_q j_q f_q]] w fun e w'=>e=.returned (.bool R)∧Below w.heap.size w w':=by
 subst hR
 rcases sgnQ_cases (ax*by_ - ay*bx) with h | h | h
 · rw [decide_eq_true (show LeftV ax ay bx by_ from .inl h.2)];exact left_pos p q hk h1 h.2
 · have e : decide (LeftV ax ay bx by_) = decide (0 < ax * bx + ay * by_) := by
     have h2:=h.2
     by_cases g:0 < ax*bx+ay*by_
     · rw [decide_eq_true g,decide_eq_true];exact .inr ⟨h2,g⟩
     · rw [decide_eq_false g,decide_eq_false];rintro (q | q)
       · unfold crs at q;grind
       · exact g q.2
   rw [e];exact left_nul p q hk h1 h.2
 · rw [decide_eq_false (show ¬ LeftV ax ay bx by_ from fun e=>by rcases e with q | q <;> unfold crs at q <;> have:=h.2 <;> grind)];exact left_neg p q hk h1 h.2
def HasQ (l:List (Rat × Rat)) (px py:Rat):Prop:=3≤l.length∧∀ (i:Nat) (u v:Rat × Rat),(ringL l)[i]?=some u→(ringL l)[i+1]?=some v→0≤orientQ u.1 u.2 v.1 v.2 px py
theorem has_p {A:Option Addr} {n c k:Nat} {L:List PV} {l:List (Rat × Rat)} {px py:Rat} (hL:SV w A (pvs L)) (hE:Each PV.PR w L l k) (r:PR w s_r A_r n_r c_r B_r m_r d_r t_r E_r i_r e_r F_r j_r f_r px py k) (hn:L.length=n) (hm:n≤1000) (hnc:n≤c) (h1:1≤k) (hk:k≤40) (R:Bool) (hR0:R=true ↔ HasQ l px py) :
 Calls Tryz.prog 19 #[.slice A n c,.agg #[.bool s_r,.slice A_r n_r c_r,.slice B_r m_r d_r,.bool t_r,.slice E_r i_r e_r,.slice F_r j_r f_r]] w fun e w'=>e=.returned (.bool R)∧Below w.heap.size w w':=by
 have HN:=Lib.hid hn;have HL0:=Lib.hid hL;have E0:=Lib.hid hE;have HR0:=Lib.hid hR0;have RP0:=Lib.hid r;clear hR0
 go_enter Tryz.func19,Tryz.ntmps19
 go_upto_region 1 with (fail)
 generalize hW:World.alloc _ _=W
 obtain ⟨hb,XC,hzW⟩:=mkbx18_10 hW;clear hW;replace hL:=hL.below hb;replace r:=r.below hb
 by_cases h3:n < 3
 · have h4:(n:Int) < 3:=by omega
   have HF:Hid (false=R):=by
    show _=_
    cases R with
    | false=>rfl
    | true=>exact absurd (HR0.out.1 rfl).1 (by rw [← E0.out.1,HN.out];omega)
   clear h3
   go_wp2_with fail
   (try rw [Exit.noGoto_ret])
   go_ret
   exact ⟨by rw [← HF.out];rfl,hb⟩
 · have h4:¬ (n:Int) < 3:=by omega
   go_upto_region 4 with (first
    | (go_at_call 47;(with_reducible refine (closed_p hL hn (by omega) hnc (Nat.le_refl _)).mono ?_);rintro e w_z ⟨A1,c1,rfl,hR1_,hh⟩
       (try replace XC:=XC.below hh);(try replace r:=r.below hh);replace hb:=bend hb hh))
   have hR0:=hR1_;clear hR1_
   rw [show n+min 1 n=(ringL L).length by unfold ringL;rw [List.length_append,List.length_take,hn,Nat.min_comm]]
   have HR1:Hid ((ringL L).length=n+min 1 n):=by show _=_;unfold ringL;rw [List.length_append,List.length_take,hn,Nat.min_comm]
   generalize hN1:(ringL L).length=N1 at HR1 ⊢
   have HR2:=Lib.hid hN1;clear hN1 hL hE
   go_wp2_with fail
   go_loopg [15] n (fun gk ix wr=>∃ (m:Nat),Hid (gk+m=n)∧ix=.int .i64 (m:Int)∧Hid (∀ i,i < m→∀ u v,(ringL l)[i]?=some u→(ringL l)[i+1]?=some v→0≤orientQ u.1 u.2 v.1 v.2 px py)∧SNr 29 W.heap.size n (pvs (ringL L)) wr A1∧B6 wr w.heap.size (.bool s_r) (.slice A_r n_r c_r) (.slice B_r m_r d_r) (.bool t_r) (.slice E_r i_r e_r) (.slice F_r j_r f_r)∧Below w.heap.size w wr)
   case atStart=>exact ⟨0,Nat.add_zero _,rfl,fun i hi=>absurd hi (by omega),hR0,XC,hb⟩
   case round =>
    clear hR0 r XC
    obtain ⟨m,HG,rfl,HS,hR,XC,hb⟩:=hrel
    have r:=PR.below RP0.out hb
    by_cases hmn:m < n
    · have HMN:=Lib.hid hmn
      obtain ⟨P,u,hP1,hu1,p⟩:=(E0.out.imp (fun p u h=>PR.below h hb)).at_ (i:=m) (by rw [HN.out];exact hmn)
      obtain ⟨Q,v,hP2,hu2,q⟩:=(E0.out.imp (fun p u h=>PR.below h hb)).ring.at_ (i:=m+1) (by have h:=HR1.out;have h2:=HR2.out;rw [h2,h];omega)
      have hv1:(ringL l)[m]?=some u:=by rw [ringL_at (by rw [← E0.out.1,HN.out];exact hmn)];exact hu1
      obtain ⟨g0,o0,hix0,E,_⟩:=(HL0.out.below hb).pt hP1
      obtain ⟨g1,o1,hix1,E',o1_,hA1⟩:=(hR.sv (by omega)).pt hP2
      have hixa:∀ w',(Instr.indexAt 22 (.slice A n c) (.int .i64 (m:Int))).run Tryz.prog w'=.ok (.pointer (some ⟨g0,o0,none⟩)) w':=fun w'=>hix0 n c w' hmn
      have hixb:∀ w',(Instr.indexAt 22 (.slice A1 N1 c1) (.int .i64 ((m:Int)+1))).run Tryz.prog w'=.ok (.pointer (some ⟨g1,o1,none⟩)) w':=fun w'=>hix1 N1 c1 w' (by have:=HR1.out;omega)
      have hwr:IntKind.i64.wrap ((m:Int)+1)=(m:Int)+1:=IntWalk.i64_in _ (by omega)
      have hlt:(m:Int) < (n:Int):=by omega
      have HU:=Lib.hid hv1;have HV:=Lib.hid hu2
      obtain ⟨ux,uy⟩:=u
      obtain ⟨vx,vy⟩:=v
      obtain ⟨s_p,A_p,n_p,c_p,B_p,m_p,d_p,t_p,E_p,i_p,e_p,F_p,j_p,f_p⟩:=P
      obtain ⟨s_q,A_q,n_q,c_q,B_q,m_q,d_q,t_q,E_q,i_q,e_q,F_q,j_q,f_q⟩:=Q
      replace p:PR wr s_p A_p n_p c_p B_p m_p d_p t_p E_p i_p e_p F_p j_p f_p ux uy k:=p
      replace q:PR wr s_q A_q n_q c_q B_q m_q d_q t_q E_q i_q e_q F_q j_q f_q vx vy k:=q
      have hx1:w.heap.size < wr.heap.size:=XC.lt
      obtain ⟨e0,e1,e2,e3,e4,e5⟩:=E.all
      simp only at e0 e1 e2 e3 e4 e5
      obtain ⟨K,hK⟩:∃ K,orientQ ux uy vx vy px py=K:=⟨_,rfl⟩
      have HK:=Lib.hid hK;clear hK hP1 hP2 hu1 hu2 hix0 hix1 hA1 hv1 hmn
      go_upto_region 7 with (fail)
      generalize hW:World.alloc _ _=W2
      obtain ⟨hh,X,hzW2⟩:=mkbx18_10 hW;clear hW;(try replace p:=p.below hh);(try replace q:=q.below hh);(try replace r:=r.below hh);(try replace hR:=hR.below hh);(try replace XC:=XC.below hh)
      try replace E':=E'.below hh
      replace hb:=bend hb hh
      replace p:=p.below (Below.refl _ _).drew
      replace q:=q.below (Below.refl _ _).drew
      replace r:=r.below (Below.refl _ _).drew
      replace hR:=hR.below (Below.refl _ _).drew
      replace XC:=XC.below (Below.refl _ _).drew
      replace E':=E'.below (Below.refl _ _).drew
      replace X:=X.below (Below.refl _ _).drew
      replace hb:=hb.drew
      go_region_held3 (fun w'=>w'.cell? ⟨wr.heap.size,0,none⟩=some (.bool s_p)∧w'.cell? ⟨wr.heap.size,1,none⟩=some (.slice A_p n_p c_p)∧w'.cell? ⟨wr.heap.size,2,none⟩=some (.slice B_p m_p d_p)∧w'.cell? ⟨wr.heap.size,3,none⟩=some (.bool t_p)∧w'.cell? ⟨wr.heap.size,4,none⟩=some (.slice E_p i_p e_p)∧w'.cell? ⟨wr.heap.size,5,none⟩=some (.slice F_p j_p f_p)∧w'.cell? ⟨w.heap.size,0,none⟩=some (.bool s_r)∧w'.cell? ⟨w.heap.size,1,none⟩=some (.slice A_r n_r c_r)∧w'.cell? ⟨w.heap.size,2,none⟩=some (.slice B_r m_r d_r)∧w'.cell? ⟨w.heap.size,3,none⟩=some (.bool t_r)∧w'.cell? ⟨w.heap.size,4,none⟩=some (.slice E_r i_r e_r)∧w'.cell? ⟨w.heap.size,5,none⟩=some (.slice F_r j_r f_r)∧w'.cell? ⟨g1,o1,none⟩=some (.bool s_q)∧w'.cell? ⟨g1,o1+1,none⟩=some (.slice A_q n_q c_q)∧w'.cell? ⟨g1,o1+2,none⟩=some (.slice B_q m_q d_q)∧w'.cell? ⟨g1,o1+3,none⟩=some (.bool t_q)∧w'.cell? ⟨g1,o1+4,none⟩=some (.slice E_q i_q e_q)∧w'.cell? ⟨g1,o1+5,none⟩=some (.slice F_q j_q f_q))
       (first | with_reducible exact ⟨X.c0,X.c1,X.c2,X.c3,X.c4,X.c5,XC.c0,XC.c1,XC.c2,XC.c3,XC.c4,XC.c5,E'.c0,E'.c1,E'.c2,E'.c3,E'.c4,E'.c5⟩)
       (first
       | (go_at_call 30;(with_reducible refine (porient_p p q r hk h1).mono ?_);rintro e w_z ⟨rfl,hh⟩
          rw [HK.out];(try replace p:=p.below hh);(try replace q:=q.below hh);(try replace r:=r.below hh);(try replace hR:=hR.below hh);(try replace XC:=XC.below hh)
          try replace E':=E'.below hh
          (try replace X:=X.below hh);replace hb:=bend hb hh))
      by_cases hK2:K < 0
      · have HF : Hid (false = R) := by
          show _=_
          cases R with
          | false=>rfl
          | true =>
            have:=(HR0.out.1 rfl).2 m _ _ HU.out HV.out
            rw [show orientQ (ux,uy).1 (ux,uy).2 (vx,vy).1 (vx,vy).2 px py=K from HK.out] at this
            omega
        go_wp2_with fail
        (try rw [Exit.noGoto_ret])
        go_ret
        exact ⟨by rw [← HF.out];rfl,hb⟩
      · have HK2:=Lib.hid hK2
        go_wp2_with fail
        go_roundg (gk - 1)
        case measure=>have:=HG.out;have:=HMN.out;omega
        case rel =>
         refine ⟨m+1,by have:=HG.out;have:=HMN.out;show _=_;omega,by go_num,fun i hi u v h5 h6=>?_,hR,XC,hb⟩
         rcases Nat.lt_or_ge i m with h | h
         · exact HS.out i h u v h5 h6
         · obtain rfl:i=m:=by omega
           rw [HU.out] at h5;rw [HV.out] at h6
           cases h5;cases h6
           rw [show orientQ (ux,uy).1 (ux,uy).2 (vx,vy).1 (vx,vy).2 px py=K from HK.out]
           have:=HK2.out;omega
    · have hlt:¬ (m:Int) < (n:Int):=by omega
      have HT:Hid (true=R):=by
       refine (HR0.out.2 ⟨by rw [← E0.out.1,HN.out];omega,fun i u v h5 h6=>HS.out i ?_ u v h5 h6⟩).symm
       have h7:=(List.getElem?_eq_some_iff.1 h6).1
       rw [ringL_len l (by rw [← E0.out.1,HN.out];omega),← E0.out.1,HN.out] at h7
       omega
      clear hmn
      go_wp2_with fail
      (try rw [Exit.noGoto_ret])
      go_ret
      exact ⟨by rw [← HT.out];rfl,hb⟩
end
section
open Go Go.ChangeShapes Go.WideShapes Go.ChangeAt Go.RowKit
def PV.Raw (w:World) (p:PV):Prop:=∃ z1 z2 z3 z4,IsRow64 w p.A p.n p.c z1∧IsRow64 w p.B p.m p.d z2∧IsRow64 w p.E p.i p.e z3∧IsRow64 w p.F p.j p.f z4
theorem open_zpts {H:Type} {enc:TypeId × Value→H} {base:Nat} {held:Bool} {r:Reach} {b0:Nat} {v:Value} {d:DataW H} {p:List MemPlace}
 (hv:Value.okWide Tryz.prog w r b0 22 v) (h:DataW.Trod enc Tryz.prog w base (fun _=>true) held 22 v d p) :
 ∃ (A:Option Addr) (n c:Nat) (L:List PV),v=.slice A n c∧SV w A (pvs L)∧L.length=n∧n≤c∧n≤maxLen∧∀ q ∈ L,q.Raw w:=by
 obtain ⟨A,n,c,rfl⟩:=okWide_slice Tryz.underlying22 hv
 have e6:Tryz.prog.cellsOf 29=6:=by kernel_rfl
 obtain ⟨fuel,hf⟩:=h
 rcases DataW.trod_slice Tryz.underlying22 hf with ⟨h0,_⟩ | ⟨a,len,cap,elems,rest,m,_,h0,_,hb,hl,hm,hlen,hel,_,_⟩
 · simp [Value.cells] at h0
   obtain ⟨rfl,rfl,rfl⟩:=h0
   exact ⟨none,0,0,[],rfl,SV.nil _ _,rfl,Nat.le_refl _,Nat.zero_le _,fun q hq=>by cases hq⟩
 · simp [Value.cells] at h0
   obtain ⟨rfl,rfl,rfl⟩:=h0
   rw [e6] at hel
   have each:∀ i,i < n→∃ q:PV,(∀ j u,q.cells[j]?=some u→w.cell? ((a.add (i*6)).add j)=some u)∧q.Raw w:=by
    intro i hi
    have h1:=hel i hi
    rw [List.getElem?_eq_getElem (by rw [hlen];exact hi)] at h1
    obtain ⟨cs,hc1,hc2⟩:=Option.bind_eq_some_iff.1 h1
    unfold World.cells? at hc1
    split at hc1
    · have hcl:=mapM_some_length hc1
      have hcg:=fun k (hk:k < 6)=>mapM_some_get hc1 k k (by simp [hk])
      rw [List.length_range] at hcl
      match cs,hcl with
      | [x0,x1,x2,x3,x4,x5],_ =>
        obtain ⟨s,A',n',c',zs,B,m',d',ys,t,E,i',e,xs,F,j',f,us,rfl,rfl,rfl,rfl,rfl,rfl,r1,r2,r3,r4⟩:=open_pt6 hc2
        refine ⟨PV.mk s A' n' c' B m' d' t E i' e F j' f,fun j u hu=>?_,zs,ys,xs,us,r1,r2,r3,r4⟩
        have hj:j < 6:=(List.getElem?_eq_some_iff.1 hu).1
        have:=hcg j hj
        rw [this];exact hu
    · cases hc1
   obtain ⟨L,hL,hq⟩:∃ L:List PV,L.length=n∧∀ i q,L[i]?=some q→(∀ j u,q.cells[j]?=some u→w.cell? ((a.add (i*6)).add j)=some u)∧q.Raw w:=by
    have:∀ m,m≤n→∃ L:List PV,L.length=m∧∀ i q,L[i]?=some q→(∀ j u,q.cells[j]?=some u→w.cell? ((a.add (i*6)).add j)=some u)∧q.Raw w:=by
     intro m
     induction m with
     | zero=>intro _;exact ⟨[],rfl,fun i q h=>by cases h⟩
     | succ m ih =>
       intro hm
       obtain ⟨L,h1,h2⟩:=ih (by omega)
       obtain ⟨q,h3⟩:=each m (by omega)
       refine ⟨L ++ [q],by rw [List.length_append,h1];rfl,fun i x hx=>?_⟩
       rcases Nat.lt_or_ge i L.length with k | k
       · rw [List.getElem?_append_left k] at hx;exact h2 i x hx
       · rw [List.getElem?_append_right k] at hx
         have:i - L.length=0:=by
          have:=(List.getElem?_eq_some_iff.1 hx).1
          simp at this;omega
         rw [this] at hx
         cases hx
         rw [show i=m by omega];exact h3
    exact this n (Nat.le_refl _)
   refine ⟨some a,n,c,L,rfl,fun hn=>?_,hL,hl,by omega,fun q hq2=>?_⟩
   · have hn0:0 < n:=by rw [show (pvs L).length=L.length*6 from rows_length pvc_len L,hL] at hn;omega
     obtain ⟨b,o,spot⟩:=a
     have hx:=(hq 0 _ (List.getElem?_eq_getElem (by rw [hL];exact hn0))).1 0 _ rfl
     have hspot:spot=none:=by simpa [Addr.add] using World.cell?_spot hx
     subst hspot
     refine ⟨b,o,rfl,?_,fun j u hu=>?_⟩
     · rw [add_at,add_at] at hx
       exact World.block_lt_of_cell? w _ hx
     · have hj:=(List.getElem?_eq_some_iff.1 hu).1
       rw [show (pvs L).length=L.length*6 from rows_length pvc_len L,hL] at hj
       obtain ⟨i,k,hk,rfl⟩:∃ i k,k < 6∧j=i*6+k:=⟨j / 6,j % 6,Nat.mod_lt _ (by decide),by omega⟩
       have hi:i < L.length:=by omega
       have hg:=List.getElem?_eq_getElem hi
       have:=(hq i _ hg).1 k u (by rw [← rows_get pvc_len hg hk];exact hu)
       rw [add_at,add_at] at this
       rwa [← Nat.add_assoc]
   · obtain ⟨i,hi⟩:=List.getElem?_of_mem hq2
     exact (hq i q hi).2
end
section
open Go Go.RowKit
def GivesKI (w:World) (s:Bool) (l:List Nat) (e:Ending) (w':World):Prop :=
 ∃ A n c,e=.returned (.agg #[.bool s,.slice A n c])∧Rd .u64 w' A n l∧n≤c∧Below w.heap.size w w'
def GivesKR (w:World) (s:Bool) (l l':List Nat) (e:Ending) (w':World):Prop :=
 ∃ A n c A' n' c',e=.returned (.agg #[.bool s,.slice A n c,.slice A' n' c'])∧Rd .u64 w' A n l∧n≤c∧Rd .u64 w' A' n' l'∧n'≤c'∧Below w.heap.size w w'
theorem keepInt_any {s:Bool} {A:Option Addr} {n c:Nat} {l:List Nat} (X:Rd .u64 w A n l) (hA:A=none→c=0) (hn:n≤100000) :
 Calls Tryz.prog 125 #[.agg #[.bool s,.slice A n c]] w (GivesKI w s l):=by
 have HA:=Lib.hid hA;clear hA
 go_enter Tryz.func125,Tryz.ntmps125
 go_wp2_with fail
 generalize hW:World.alloc _ _=W
 obtain ⟨hb,XA,Z,hzW⟩:=mkbx8_8 hW;clear hW;replace X:=X.below hb
 replace X:=X.below (Below.refl _ _).drew
 replace XA:=XA.below (Below.refl _ _).drew
 replace Z:=Z.below (Below.refl _ _).drew
 replace hb:=hb.drew
 go_region_held3 (fun w'=>w'.cell? ⟨w.heap.size,0,none⟩=some (.bool s)∧w'.cell? ⟨w.heap.size,1,none⟩=some (.slice A n c))
  (first | with_reducible exact ⟨XA.c0,XA.c1⟩ | with_reducible exact ⟨(set2_cell _ _ _ _ _ _ (by omega)).trans (XA.c0),(set2_cell _ _ _ _ _ _ (by omega)).trans (XA.c1)⟩)
  (first
  | (go_at_call 126;(with_reducible refine (keepNat_any l A n c _ X HA.out (by omega)).mono ?_);rintro e w_y ⟨A_y,n_y,c_y,rfl,y1,y2,y3,hh⟩
     (try replace X:=X.below hh);(try replace XA:=XA.below hh);(try replace Z:=Z.below hh);replace hb:=bend hb hh;obtain ⟨z0,z1⟩:=Z.all;have z2:=Z.f0;have z3:=Z.f1))
 go_wp2_with fail
 have Z2:=Z.set2 (.bool s) (.slice A_y n_y c_y)
 obtain ⟨g0,g1⟩:=Z2.all
 refine bodyPost_ret (v:=.agg #[.bool s,.slice A_y n_y c_y]) (by simp [results,Tryz.results125,go_sem,g0,g1]) rfl ?_
 exact ⟨A_y,n_y,c_y,rfl,y3.rd.only (Z.offx y3.rd) (((Only.refl _ _).setCell 0 _).setCell 1 _),y1,below_set2 hb (by omega) _ _⟩
theorem keepRat_any {s:Bool} {A A':Option Addr} {n c n' c':Nat} {l l':List Nat} (X:Rd .u64 w A n l) (Y:Rd .u64 w A' n' l') (hA:A=none→c=0) (hA':A'=none→c'=0) (hn:n≤100000) (hn':n'≤100000) :
 Calls Tryz.prog 83 #[.agg #[.bool s,.slice A n c,.slice A' n' c']] w (GivesKR w s l l'):=by
 have HA:=Lib.hid hA
 have HA':=Lib.hid hA'
 clear hA hA'
 go_enter Tryz.func83,Tryz.ntmps83
 go_wp2_with fail
 generalize hW:World.alloc _ _=W
 obtain ⟨hb,XA,Z,hzW⟩:=mkbx13_8 hW;clear hW;replace X:=X.below hb;replace Y:=Y.below hb
 replace X:=X.below (Below.refl _ _).drew
 replace Y:=Y.below (Below.refl _ _).drew
 replace XA:=XA.below (Below.refl _ _).drew
 replace Z:=Z.below (Below.refl _ _).drew
 replace hb:=hb.drew
 go_region_held3 (fun w'=>w'.cell? ⟨w.heap.size,0,none⟩=some (.bool s)∧w'.cell? ⟨w.heap.size,1,none⟩=some (.slice A n c)∧w'.cell? ⟨w.heap.size,2,none⟩=some (.slice A' n' c'))
  (first | with_reducible exact ⟨XA.c0,XA.c1,XA.c2⟩ | with_reducible exact ⟨(set3_cell _ _ _ _ _ _ _ (by omega)).trans (XA.c0),(set3_cell _ _ _ _ _ _ _ (by omega)).trans (XA.c1),(set3_cell _ _ _ _ _ _ _ (by omega)).trans (XA.c2)⟩)
  (first
  | (go_at_call 125;(with_reducible refine (keepInt_any X HA.out (by omega)).mono ?_);rintro e w_p ⟨A_p,n_p,c_p,rfl,p,pc,hh⟩
     (try replace X:=X.below hh);(try replace Y:=Y.below hh);(try replace XA:=XA.below hh);(try replace Z:=Z.below hh);replace hb:=bend hb hh)
  | (go_at_call 126;(with_reducible refine (keepNat_any l' A' n' c' _ Y HA'.out (by omega)).mono ?_);rintro e w_y ⟨A_y,n_y,c_y,rfl,y1,y2,y3,hh⟩
     (try replace X:=X.below hh);(try replace Y:=Y.below hh);(try replace p:=p.below hh);(try replace XA:=XA.below hh);(try replace Z:=Z.below hh);replace hb:=bend hb hh;have zf0:=Z.f0;have zf1:=Z.f1;have zf2:=Z.f2;obtain ⟨z0,z1,z2⟩:=Z.all))
 go_wp2_with fail
 have Z2:=Z.set3 (.bool s) (.slice A_p n_p c_p) (.slice A_y n_y c_y)
 obtain ⟨g0,g1,g2⟩:=Z2.all
 refine bodyPost_ret (v:=.agg #[.bool s,.slice A_p n_p c_p,.slice A_y n_y c_y]) (by simp [results,Tryz.results83,go_sem,g0,g1,g2]) rfl ?_
 have ho:=(((Only.refl (w.heap.size+1) w_y).setCell 0 (Value.bool s)).setCell 1 (Value.slice A_p n_p c_p)).setCell 2 (Value.slice A_y n_y c_y)
 exact ⟨A_p,n_p,c_p,A_y,n_y,c_y,rfl,p.only (Z.offx p) ho,pc,y3.rd.only (Z.offx y3.rd) ho,y1,below_set3 hb (by omega) _ _ _⟩
end
end Go.Proofs.YtlogpjeoapeojaaGreat
