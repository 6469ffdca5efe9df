/- HalveCuts: part 16. -/
import Derived.Deep.AppendSrc
import Derived.Test.YtfpaeophfcoohaaGreatKHalveCuts10
import Derived.Test.YtfpaeophfcoohaaGreatKHalveCuts11
import Derived.Test.YtfpaeophfcoohaaGreatKHalveCuts12
import Derived.Test.YtfpaeophfcoohaaGreatKHalveCuts13
import Derived.Test.YtfpaeophfcoohaaGreatKHalveCuts15
set_option linter.unusedVariables false
set_option maxRecDepth 100000
set_option maxHeartbeats 16000000
variable {w:Go.World}
namespace Go.Proofs.YtfpaeophfcoohaaGreat
section
open Go Go.RowKit
attribute [local go_sem ↓] open_LVH open_STH open_LVJ open_STJ
theorem run_appH {T tS ty:TypeId} {base base2:Nat} {v v2:Value} {L M:List HV} (ht:Tryz.prog.underlying tS=some (.slice T)) (hinfo:(Tryz.prog.info? T).map (fun i=>(i.zero,i.size,i.bytes))=some (some zhv,9,168))
 (h:LnH T base w v L) (h2:LnH T base2 w v2 M) (hpos:0 < M.length) (hbase:base≤w.heap.size) (hL:L.length+M.length≤1000000) :
 ∃ v' w',(Builtin.append_ #[tS,tS] ty #[v,v2]).run Tryz.prog w=.ok v' w'∧LnH T base w' v' (L ++ M)∧w.grownBy w' v.ownBlock∧(∀ g,v'.ownBlock=some g→v.ownBlock=some g ∨ w.heap.size≤g):=by
 obtain ⟨i0,hi,hz,hs,hby⟩:=info_parts hinfo
 obtain ⟨b,k0,rfl,hnews⟩:∃ b k0,v2=.slice (some ⟨b,0,none⟩) M.length k0∧∀ j u,(hvs M)[j]?=some u→w.cell? ((⟨b,0,none⟩:Addr).add j)=some u:=by
  rcases h2.own.2 with ⟨_,e⟩ | ⟨g,cap,cur,rfl,_,hg,_⟩
  · omega
  · exact ⟨g,cap,rfl,h2.own.cells (g:=g) rfl⟩
 have hlM:(hvs M).length=M.length*9:=hvs_length M
 have hlL:(hvs L).length=L.length*9:=hvs_length L
 have h1:∀ u ∈ hvs M,u.oneCell'=true:=hvs_one M
 obtain ⟨v',w',hr,hown,hg,_⟩:=run_append_own (P:=Tryz.prog) w base tS ty T i0 zhv 9 168 ht hi hz hs hby rfl (by decide) v L.length (hvs L) h.own ⟨b,0,none⟩ M.length k0 (hvs M) hlM hnews h1 (by unfold maxLen;omega) (by omega) hbase
 have hown2:∀ g,v'.ownBlock=some g→v.ownBlock=some g ∨ w.heap.size≤g:=by
  rcases h.own.2 with ⟨rfl,hn⟩ | ⟨g0,cap,cur,rfl,_,hg0,hnc,hcm,hcs,htake⟩
  · have e:=run_append_nil (P:=Tryz.prog) w tS ty T i0 zhv ht hi hz ⟨b,0,none⟩ M.length k0 (hvs M) (by rw [hs,hlM]) hnews hpos (by omega) (by rw [hby];omega)
    rw [hr] at e
    injection e with e1 e2
    subst e1
    intro g hgv
    right
    obtain rfl:w.heap.size=g:=by simpa [Value.ownBlock] using hgv
    exact Nat.le_refl _
  · by_cases hroom:L.length+M.length≤cap
    · have e:=run_append_room (P:=Tryz.prog) w tS ty T i0 ht hi g0 L.length cap cur hg0 ⟨b,0,none⟩ M.length k0 (hvs M) (by rw [hs,hlM]) hnews h1 hroom (by rw [hs,hcs,hlM];rw [← Nat.add_mul];exact Nat.mul_le_mul_right _ hroom)
      rw [hr] at e
      injection e with e1 e2
      subst e1
      intro g hgv
      left
      simpa [Value.ownBlock] using hgv
    · have holds:∀ j u,(hvs L)[j]?=some u→w.cell? ((⟨g0,0,none⟩:Addr).add j)=some u:=h.own.cells (g:=g0) rfl
      have e:=run_append_grow (P:=Tryz.prog) w tS ty T i0 zhv ht hi hz ⟨g0,0,none⟩ L.length cap (hvs L) (by rw [hs];exact h.own.1) holds ⟨b,0,none⟩ M.length k0 (hvs M) (by rw [hs,hlM]) hnews (by omega) (by omega) (growslice_fits (by omega) (by rw [hby];omega))
      rw [hr] at e
      injection e with e1 e2
      subst e1
      intro g hgv
      right
      obtain rfl:w.heap.size=g:=by simpa [Value.ownBlock] using hgv
      exact Nat.le_refl _
 refine ⟨v',w',hr,⟨by rw [List.length_append,hvs_append];exact hown,?_⟩,hg,hown2⟩
 have fr:∀ (cs:List Value),(∀ u ∈ cs,∀ (k:IntKind) (x:Int),u ≠ .int k x)→∀ (i:Nat) (k:IntKind) (x:Int),cs.toArray[i]? ≠ some (Value.int k x):=fun cs hc=>arr_free hc
 intro g hgv
 rcases h.own.2 with ⟨rfl,hn⟩ | ⟨g0,cap,cur,rfl,_,hg0,hnc,hcm,hcs,htake⟩
 · have e:=run_append_nil (P:=Tryz.prog) w tS ty T i0 zhv ht hi hz ⟨b,0,none⟩ M.length k0 (hvs M) (by rw [hs,hlM]) hnews hpos (by omega) (by rw [hby];omega)
   rw [hr] at e
   injection e with e1 e2
   subst e1 e2
   obtain rfl:w.heap.size=g:=by simpa [Value.ownBlock] using hgv
   refine ⟨_,heap_alloc_new w.drew _,?_⟩
   have:=fr (hvs M ++ (Builtin.zeroCells zhv.cells (grownCap w M.length 0 T - M.length)).toList) (fun u hu=>by
    rcases List.mem_append.1 hu with q | q
    · exact hvs_free M u q
    · exact zeroH_free _ u q)
   intro i k x
   have:=this i k x
   rwa [show (hvs M ++ (Builtin.zeroCells zhv.cells (grownCap w M.length 0 T - M.length)).toList).toArray=(hvs M).toArray ++ Builtin.zeroCells zhv.cells (grownCap w M.length 0 T - M.length) by apply Array.ext';simp] at this
 · obtain ⟨cs,hB⟩:=h.free g0 rfl
   have hcur:∀ u ∈ cur.toList,∀ (k:IntKind) (x:Int),u ≠ .int k x:=by
    have:cs=cur:=by exact (Obj.cells.inj (Option.some.inj (hB.at_.symm.trans hg0))).1
    subst this
    intro u hu k x e
    obtain ⟨j,hj⟩:=List.getElem?_of_mem hu
    rw [Array.getElem?_toList] at hj
    exact hB.free j k x (by rw [← e];exact hj)
   by_cases hroom:L.length+M.length≤cap
   · have e:=run_append_room (P:=Tryz.prog) w tS ty T i0 ht hi g0 L.length cap cur hg0 ⟨b,0,none⟩ M.length k0 (hvs M) (by rw [hs,hlM]) hnews h1 hroom (by rw [hs,hcs,hlM];rw [← Nat.add_mul];exact Nat.mul_le_mul_right _ hroom)
     rw [hr] at e
     injection e with e1 e2
     subst e1 e2
     obtain rfl:g0=g:=by simpa [Value.ownBlock] using hgv
     refine ⟨_,setRow_heap w g0 cur _ T _ hg0,fr _ fun u hu=>?_⟩
     rcases List.mem_append.1 hu with q | q
     · rcases List.mem_append.1 q with q | q
       · exact hcur u (List.mem_of_mem_take q)
       · exact hvs_free M u q
     · exact hcur u (List.mem_of_mem_drop q)
   · have holds:∀ j u,(hvs L)[j]?=some u→w.cell? ((⟨g0,0,none⟩:Addr).add j)=some u:=h.own.cells (g:=g0) rfl
     have e:=run_append_grow (P:=Tryz.prog) w tS ty T i0 zhv ht hi hz ⟨g0,0,none⟩ L.length cap (hvs L) (by rw [hs];exact h.own.1) holds ⟨b,0,none⟩ M.length k0 (hvs M) (by rw [hs,hlM]) hnews (by omega) (by omega) (growslice_fits (by omega) (by rw [hby];omega))
     rw [hr] at e
     injection e with e1 e2
     subst e1 e2
     obtain rfl:w.heap.size=g:=by simpa [Value.ownBlock] using hgv
     refine ⟨_,heap_alloc_new w.drew _,?_⟩
     have:=fr (hvs L ++ hvs M ++ (Builtin.zeroCells zhv.cells (grownCap w (L.length+M.length) cap T - (L.length+M.length))).toList) (fun u hu=>by
      rcases List.mem_append.1 hu with q | q
      · rcases List.mem_append.1 q with q | q
        · exact hvs_free L u q
        · exact hvs_free M u q
      · exact zeroH_free _ u q)
     intro i k x
     have:=this i k x
     rwa [show (hvs L ++ hvs M ++ (Builtin.zeroCells zhv.cells (grownCap w (L.length+M.length) cap T - (L.length+M.length))).toList).toArray=(hvs L).toArray ++ (hvs M).toArray ++ Builtin.zeroCells zhv.cells (grownCap w (L.length+M.length) cap T - (L.length+M.length)) by apply Array.ext';simp] at this
theorem run_appH0 {T tS ty:TypeId} {base base2:Nat} {v v2:Value} {L M:List HV} (ht:Tryz.prog.underlying tS=some (.slice T)) (hinfo:(Tryz.prog.info? T).map (fun i=>(i.zero,i.size,i.bytes))=some (some zhv,9,168))
 (h:LnH T base w v L) (h2:LnH T base2 w v2 M) (hpos:0 < L.length) (hbase:base≤w.heap.size) (hL:L.length+M.length≤1000000) :
 ∃ v' w',(Builtin.append_ #[tS,tS] ty #[v,v2]).run Tryz.prog w=.ok v' w'∧LnH T base w' v' (L ++ M)∧w.grownBy w' v.ownBlock∧(∀ g,v'.ownBlock=some g→v.ownBlock=some g ∨ w.heap.size≤g):=by
 by_cases hM:0 < M.length
 · exact run_appH ht hinfo h h2 hM hbase hL
 · obtain rfl:M=[]:=List.length_eq_zero_iff.1 (by omega)
   obtain ⟨i0,hi,hz,hs,hby⟩:=info_parts hinfo
   obtain ⟨A,c,rfl,_,_⟩:=h2.form
   rcases h.own.2 with ⟨_,hn⟩ | ⟨g,cap,cur,rfl,hb,hg,hnc,hcm,hcs,htake⟩
   · omega
   · have hsrc : Src Tryz.prog i0.size tS (.slice A 0 c) 0 [] w := by
       cases A with
       | none=>exact Src.ofNil w ht c
       | some a=>exact Src.ofSlice w ht a 0 c [] (by simp) (fun j u hu=>by simp at hu) (fun u hu=>by cases hu)
     have hr:=run_append_room_src (P:=Tryz.prog) w tS tS ty T i0 ht hi g 0 L.length cap (.slice A 0 c) 0 [] hsrc (by omega) (fun j hj=>by simp at hj) (fun j hj=>by simp at hj)
     refine ⟨_,_,hr,?_,⟨rfl,rfl,rfl,Nat.le_refl _,fun _ _ _=>rfl⟩,fun k hk=>.inl hk⟩
     rw [List.append_nil]
     exact h
end
section
open Go Go.RowKit
attribute [local go_sem ↓] open_LVM open_STM open_LVN open_STN
attribute [local go_sem ↓] open_LVH open_STH open_LVJ open_STJ
def BT (w:World) (g:Nat) (u v:Value):Prop:=w.heap[g]?=some (.cells #[u,v] 68 (0,0))
section
variable {w w':World} {g k:Nat} {u v:Value}
theorem BT.c0 (h:BT w g u v):w.cell? ⟨g,0,none⟩=some u:=by rw [cell_of_row w g 0 _ _ (0,0) h];rfl
theorem BT.c1 (h:BT w g u v):w.cell? ⟨g,1,none⟩=some v:=by rw [cell_of_row w g 1 _ _ (0,0) h];rfl
theorem BT.all (h:BT w g u v):w.cell? ⟨g,0,none⟩=some u∧w.cell? ⟨g,1,none⟩=some v:=⟨h.c0,h.c1⟩
theorem BT.f0 (h:BT w g u v):w.frozen? ⟨g,0,none⟩=false:=frozen_of_row w g 0 _ _ h
theorem BT.f1 (h:BT w g u v):w.frozen? ⟨g,1,none⟩=false:=frozen_of_row w g 1 _ _ h
theorem BT.lt (h:BT w g u v):g < w.heap.size:=World.block_lt_of_cell? w _ h.c0
theorem BT.below (h:BT w g u v) (hb:Below w.heap.size w w'):BT w' g u v:=(hb.block g h.lt).trans h
theorem BT.rest (h:BT w g u v) (hne:g ≠ k) (ho:Only k w w'):BT w' g u v:=(ho.block g h.lt hne).trans h
theorem BT.push {row:Option Nat} (h:BT w g u v) (hg:w.grownBy w' row) (hne:∀ k,row=some k→k ≠ g):BT w' g u v:=(hg.block g h.lt (fun e=>hne g e.symm rfl)).trans h
theorem BT.set0 (h:BT w g u v) (a:Value):BT (w.setCell ⟨g,0,none⟩ a) g a v:=by
 unfold BT at h ⊢
 have h0:=heap_setCell_same _ g 0 _ _ a h
 simpa only [List.setIfInBounds_toArray,List.set_cons_zero] using h0
theorem BT.set1 (h:BT w g u v) (a:Value):BT (w.setCell ⟨g,1,none⟩ a) g u a:=by
 unfold BT at h ⊢
 have h0:=heap_setCell_same _ g 1 _ _ a h
 simpa only [List.setIfInBounds_toArray,List.set_cons_zero,List.set_cons_succ] using h0
def IsSl (u:Value):Prop:=∃ A n c,u=.slice A n c
theorem BT.box (h:BT w g u v) (hu:IsSl u) (hv:IsSl v):BoxAt 68 w g #[u,v]:=⟨h,fun i k x e=>by
 obtain ⟨A,n,c,rfl⟩:=hu
 obtain ⟨A',n',c',rfl⟩:=hv
 match i,e with
 | 0,e=>cases e
 | 1,e=>cases e
 | i+2,e=>cases e⟩
end
def rr (n:Nat) (v:Nat→AH):Nat→List AH
 | 0=>[]
 | i+1=>nd v i (n - 1 - i) :: rr n v i
theorem rr_get (n:Nat) (v:Nat→AH):∀ i j,j < i→(rr n v i)[j]?=some (nd v (i - 1 - j) (n - 1 - (i - 1 - j)))
 | 0,_,h=>absurd h (by omega)
 | i+1,0,_=>by rw [rr];simp
 | i+1,j+1,h=>by
   rw [rr,List.getElem?_cons_succ,rr_get n v i j (by omega)]
   rw [show i+1 - 1 - (j+1)=i - 1 - j by omega]
theorem rr_length (n:Nat) (v:Nat→AH):∀ i,(rr n v i).length=i
 | 0=>rfl
 | i+1=>by rw [rr,List.length_cons,rr_length n v i]
theorem rr_all (n:Nat) (v:Nat→AH):rr n v n=li n (rg n v):=by
 apply List.ext_getElem?
 intro j
 by_cases h:j < n
 · rw [rr_get n v n j h,li_get _ h]
   show _=some (nd v (n - 1 - j) j)
   rw [show n - 1 - (n - 1 - j)=j by omega]
 · rw [List.getElem?_eq_none (by rw [rr_length];omega),List.getElem?_eq_none (by rw [li_length];omega)]
theorem li_succ (n:Nat) (v:Nat→AH):li (n+1) v=li n v ++ [v n]:=by simp [li,List.range_succ]
def kr (k:Nat):Nat→Nat
 | 0=>k
 | i+1=>2*kr k i+8
theorem kr_3 {k i:Nat} (h:i≤3):kr k i≤8*k+56:=by
 rcases (show i=0 ∨ i=1 ∨ i=2 ∨ i=3 by omega) with rfl | rfl | rfl | rfl <;> simp only [kr] <;> omega
theorem kr_2 {k i:Nat} (h:i≤2):kr k i≤4*k+24:=by
 rcases (show i=0 ∨ i=1 ∨ i=2 by omega) with rfl | rfl | rfl <;> simp only [kr] <;> omega
structure CS (base gh g2 n k i il ir:Nat) (v:Nat→AH) (q:QV) (A:Option Addr) (M ML MR:List HV) (vL vR:Value) (w:World):Prop where
 sv:SV w A (hvs M)
 ea:EachH RH w M (li (n - i) (nd v i)) (kr k i)
 ln:M.length=n - i
 lL:LnH 96 base w vL ML
 eL:EachH RH w ML (li il (lf v)) (8*k+56)
 lR:LnH 96 base w vR MR
 eR:EachH RH w MR (rr n v ir) (8*k+56)
 half:B3R w gh (.bool q.s) (.slice q.A q.n q.c) (.slice q.B q.m q.d)
 hq:RQ w q.s q.A q.n q.c q.B q.m q.d (Rat.divInt 1 2) 2
 res:BT w g2 (.slice none 0 0) (.slice none 0 0)
 lt:gh < base∧g2 < base∧base≤w.heap.size
 apt:∀ g,vL.ownBlock=some g→∀ ad,A=some ad→ad.block ≠ g
 apR:∀ g,vL.ownBlock=some g→vR.ownBlock ≠ some g
section
variable {base gh g2 n k i il ir g5:Nat} {v:Nat→AH} {q:QV} {A:Option Addr} {M ML MR:List HV} {vL vR:Value} {w w':World}
theorem LnH.isSl {T:TypeId} (h:LnH T base w vL ML):IsSl vL:=by
 obtain ⟨A,c,e,_⟩:=h.form
 exact ⟨A,_,c,e⟩
theorem CS.below (h:CS base gh g2 n k i il ir v q A M ML MR vL vR w) (hb:Below w.heap.size w w'):CS base gh g2 n k i il ir v q A M ML MR vL vR w' :=
 ⟨h.sv.below hb,h.ea.belowJ hb,h.ln,h.lL.below hb,h.eL.belowJ hb,h.lR.below hb,h.eR.belowJ hb,h.half.below hb,h.hq.below hb,h.res.below hb,⟨h.lt.1,h.lt.2.1,Nat.le_trans h.lt.2.2 hb.size⟩,h.apt,h.apR⟩
theorem CS.only (h:CS base gh g2 n k i il ir v q A M ML MR vL vR w) {cs:Array Value} (Z:BoxAt 68 w g5 cs) (ho:Only g5 w w') (hne:gh ≠ g5∧g2 ≠ g5) (h5:g5 < base) (hA:∀ ad,A=some ad→ad.block ≠ g5):CS base gh g2 n k i il ir v q A M ML MR vL vR w' :=
 ⟨fun hn=>by
  obtain ⟨g,o,e,h1,h2⟩:=h.sv hn
  have hg:g ≠ g5:=hA _ e
  exact ⟨g,o,e,Nat.lt_of_lt_of_le h1 ho.size,fun j u hu=>(World.cell?_of_block (a:=⟨g,o+j,none⟩) (ho.block g h1 hg)).trans (h2 j u hu)⟩,
  h.ea.imp fun _ _ hp=>hp.box Z ho,h.ln,h.lL.kept fun g hg=>(by
   have:=(h.lL.own.lt g hg)
   exact ho.block g this.2 (by omega)),h.eL.imp fun _ _ hp=>hp.box Z ho,h.lR.kept fun g hg=>(by
   have:=(h.lR.own.lt g hg)
   exact ho.block g this.2 (by omega)),h.eR.imp fun _ _ hp=>hp.box Z ho,h.half.restm hne.1 ho,h.hq.box Z ho,h.res.rest hne.2 ho,⟨h.lt.1,h.lt.2.1,Nat.le_trans h.lt.2.2 ho.size⟩,h.apt,h.apR⟩
end
section
variable {base gh g2 n k i il ir g5:Nat} {v:Nat→AH} {q:QV} {A A2:Option Addr} {M M2 ML MR:List HV} {vL vR vL2 vR2:Value} {w w' w1 w2:World} {P:HV}
theorem LnH.rq {T:TypeId} {M:List HV} {v:Value} {s:Bool} {A B:Option Addr} {n c m d:Nat} {x:Rat} (hn:LnH T base w v M) (hg:w.grownBy w' v.ownBlock) (h:RQ w s A n c B m d x k):RQ w' s A n c B m d x k:=by
 rcases hn.stays hg with q | ⟨g,cs,hB,_,ho⟩
 · exact h.below q
 · exact h.box hB ho
theorem EH.pushX {g o:Nat} {p:HV} {row:Option Nat} (h:EH w g o p) (hg:w.grownBy w' row) (hne:∀ k,row=some k→k ≠ g):EH w' g o p :=
 ⟨Nat.lt_of_lt_of_le h.1 hg.size,fun j v e=>(World.cell?_of_block (a:=⟨g,o+j,none⟩) (hg.block g h.1 (fun e=>hne g e.symm rfl))).trans (h.2 j v e)⟩
theorem EachH.cons {G:World→HV→AH→Nat→Prop} {L:List HV} {l:List AH} {p:HV} {u:AH} (h:EachH G w L l k) (hp:G w p u k):EachH G w (p :: L) (u :: l) k :=
 ⟨by simp [h.1],fun j q x hq hx=>by
  cases j with
  | zero=>simp at hq hx;subst hq hx;exact hp
  | succ j=>exact h.2 j q x (by simpa using hq) (by simpa using hx)⟩
theorem LnH.own_baseX {T:TypeId} {base g:Nat} {v:Value} {L:List HV} (h:LnH T base w v L) (hg:v.ownBlock=some g):base≤g:=(h.own.lt g hg).1
theorem B3R.pushX {g:Nat} {x y z:Value} {row:Option Nat} (h:B3R w g x y z) (hg:w.grownBy w' row) (hne:∀ k,row=some k→k ≠ g):B3R w' g x y z :=
 (hg.block g (B3R.lt h) (fun e=>hne g e.symm rfl)).trans h
theorem CS.stepL (h:CS base gh g2 n k i il ir v q A M ML MR vL vR w1) (hM:0 < M.length) (hl:LnH 96 base w2 vL2 (ML ++ [P])) (hp:RH w1 P (lf v il) (8*k+56)) (hg:w1.grownBy w2 vL.ownBlock) (ho:∀ g,vL2.ownBlock=some g→vL.ownBlock=some g ∨ w1.heap.size≤g) :
 CS base gh g2 n k i (il+1) ir v q A M (ML ++ [P]) MR vL2 vR w2:=by
 obtain ⟨g0,o0,eA,hA1,hA2⟩:=h.sv (by rw [hvs_length];omega)
 refine ⟨fun _=>⟨g0,o0,eA,Nat.lt_of_lt_of_le hA1 hg.size,fun j u hu=>(World.cell?_of_block (a:=⟨g0,o0+j,none⟩) (hg.block g0 hA1 fun e=>h.apt g0 e.symm _ eA rfl)).trans (hA2 j u hu)⟩,h.ea.imp fun _ _ hq=>h.lL.rh hg hq,h.ln,hl,?_,h.lR.kept fun g hg2=>hg.block g (h.lR.own.lt g hg2).2 fun e=>h.apR g e.symm hg2,h.eR.imp fun _ _ hq=>h.lL.rh hg hq,?_,h.lL.rq hg h.hq,?_,⟨h.lt.1,h.lt.2.1,Nat.le_trans h.lt.2.2 hg.size⟩,fun g hg2 ad e=>?_,fun g hg2 e=>?_⟩
 · rw [li_succ]
   exact h.eL.push (fun _ _ hq=>h.lL.rh hg hq) (h.lL.rh hg hp)
 · exact (hg.block gh (B3R.lt h.half) fun e=>by have:=(h.lL.own.lt gh e.symm).1;have:=h.lt.1;omega).trans h.half
 · exact h.res.push hg fun k e e2=>by have:=(h.lL.own.lt k e).1;have:=h.lt.2.1;omega
 · rcases ho g hg2 with q1 | q1
   · exact h.apt g q1 ad e
   · rw [eA] at e;cases e
     show g0 ≠ g
     omega
 · rcases ho g hg2 with q1 | q1
   · exact h.apR g q1 e
   · have:=(h.lR.own.lt g e).2;omega
theorem CS.setR (h:CS base gh g2 n k i il ir v q A M ML MR vL vR w) (hl:LnH 96 base w vR2 M2) (he:EachH RH w M2 (rr n v (ir+1)) (8*k+56)) (hne:∀ g,vL.ownBlock=some g→vR2.ownBlock ≠ some g):CS base gh g2 n k i il (ir+1) v q A M ML M2 vL vR2 w :=
 ⟨h.sv,h.ea,h.ln,h.lL,h.eL,hl,he,h.half,h.hq,h.res,h.lt,h.apt,hne⟩
theorem CS.setRow (h:CS base gh g2 n k i il ir v q A M ML MR vL vR w) (hs:SV w A2 (hvs M2)) (he:EachH RH w M2 (li (n - (i+1)) (nd v (i+1))) (kr k (i+1))) (hl:M2.length=n - (i+1)) (hne:∀ g,vL.ownBlock=some g→∀ ad,A2=some ad→ad.block ≠ g):CS base gh g2 n k (i+1) il ir v q A2 M2 ML MR vL vR w :=
 ⟨hs,he,hl,h.lL,h.eL,h.lR,h.eR,h.half,h.hq,h.res,h.lt,hne,h.apR⟩
end
def GivesTwoH (w:World) (n:Nat) (v:Nat→AH) (K:Nat) (en:Ending) (w':World):Prop :=
 ∃ vL vR ML MR,en=.returned (.agg #[vL,vR])∧LnH 96 w.heap.size w' vL ML∧LnH 96 w.heap.size w' vR MR∧EachH RH w' ML (li n (lf v)) K∧EachH RH w' MR (li n (rg n v)) K∧Below w.heap.size w w'
theorem rcut14 {A:Option Addr} {n c k:Nat} {M:List HV} {v:Nat→AH} (hL:SV w A (hvs M)) (hE:EachH RH w M (li n v) k) (hn:M.length=n) (h2:2≤n) (h4:n≤4) (hk:k≤1300) :
 Calls Tryz.prog 23 #[.slice A n c] w (GivesTwoH w n v (8*k+56)):=by
 have HB:Hid (2≤n∧n≤4∧k≤1300):=⟨h2,h4,hk⟩
 have hL0:=Lib.hid hL;clear h2 h4 hk
 go_enter Tryz.func23,Tryz.ntmps23
 go_upto_region 1 with (fail)
 generalize hW:(w.alloc (Obj.cells #[Value.slice none 0 0,Value.slice none 0 0] 68))=W
 have hb:Below w.heap.size w W:=by subst hW;exact (Below.refl _ _).alloc (Nat.le_refl _) _
 have X2:BT W w.heap.size (Value.slice none 0 0) (Value.slice none 0 0):=by subst hW;exact heap_alloc_new w _
 clear hW;replace hL:=hL.below hb;replace hE:=EachH.belowJ hE hb
 go_upto_region 2 with (first
  | (go_at_call 42;(with_reducible refine (rof3 1 2 (by decide) (by decide) (by decide) (by decide) (by decide) _).mono ?_);rintro e w_u ⟨s_u,A_u,n_u,c_u,B_u,m_u,d_u,rfl,u,hh⟩
     replace hL:=hL.below hh;replace hE:=EachH.belowJ hE hh;replace X2:=X2.below hh;replace hb:=bend hb hh))
 have hal:Below w_u.heap.size w_u (w_u.alloc (Obj.cells #[Value.bool s_u,Value.slice A_u n_u c_u,Value.slice B_u m_u d_u] 49)):=(Below.refl _ _).alloc (Nat.le_refl _) _
 have XH:B3R (w_u.alloc (Obj.cells #[Value.bool s_u,Value.slice A_u n_u c_u,Value.slice B_u m_u d_u] 49)) w_u.heap.size (Value.bool s_u) (Value.slice A_u n_u c_u) (Value.slice B_u m_u d_u):=B3R.new' _ _ _ _ _ rfl
 have hz1:(w_u.alloc (Obj.cells #[Value.bool s_u,Value.slice A_u n_u c_u,Value.slice B_u m_u d_u] 49)).heap.size=w_u.heap.size+1:=World.size_alloc _ _
 have hl2:=X2.lt;replace hL:=hL.below hal;replace hE:=EachH.belowJ hE hal;replace X2:=X2.below hal;replace u:=u.below hal;replace hb:=bend hb hal;clear hal
 generalize (w_u.alloc (Obj.cells #[Value.bool s_u,Value.slice A_u n_u c_u,Value.slice B_u m_u d_u] 49))=W2 at *
 have HZ1:=Lib.hid hz1;have HX2:=Lib.hid hl2;clear hz1 hl2
 go_upto_region 4 with (fail)
 have hal:Below W2.heap.size W2 (W2.alloc (Obj.cells #[Value.slice none 0 0,Value.slice none 0 0] 68)):=(Below.refl _ _).alloc (Nat.le_refl _) _
 have X5:BT (W2.alloc (Obj.cells #[Value.slice none 0 0,Value.slice none 0 0] 68)) W2.heap.size (Value.slice none 0 0) (Value.slice none 0 0):=heap_alloc_new W2 _
 have hz2:(W2.alloc (Obj.cells #[Value.slice none 0 0,Value.slice none 0 0] 68)).heap.size=W2.heap.size+1:=World.size_alloc _ _
 replace hL:=hL.below hal;replace hE:=EachH.belowJ hE hal;replace X2:=X2.below hal;replace XH:=XH.below hal;replace u:=u.below hal;replace hb:=bend hb hal
 have hA:∀ ad,A=some ad→0 < n→ad.block < w.heap.size:=fun ad e h0=>by
  obtain ⟨g,o,e2,h1,_⟩:=hL0.out (by rw [hvs_length,hn];omega)
  rw [e] at e2;cases e2
  exact h1
 clear hal
 generalize (W2.alloc (Obj.cells #[Value.slice none 0 0,Value.slice none 0 0] 68))=W3 at *
 have hz1:=HZ1.out;have hl2:=HX2.out
 obtain ⟨qh,hqh⟩:∃ qh:QV,qh=⟨s_u,A_u,n_u,c_u,B_u,m_u,d_u⟩:=⟨_,rfl⟩
 obtain ⟨gh,hgh⟩:∃ gh,gh=w_u.heap.size:=⟨_,rfl⟩
 obtain ⟨g5,hg5⟩:∃ g5,g5=W2.heap.size:=⟨_,rfl⟩
 obtain ⟨g2,hg2⟩:∃ g2,g2=w.heap.size:=⟨_,rfl⟩
 obtain ⟨base,hbase⟩:∃ base,base=W3.heap.size:=⟨_,rfl⟩
 have HG:Hid (w.heap.size≤g2∧g2 < gh∧gh < g5∧g5 < base∧w.heap.size≤base):=⟨by omega,by omega,by omega,by omega,by omega⟩
 have HA:Hid (∀ ad,A=some ad→ad.block < w.heap.size):=fun ad e=>hA ad e (by have:=HB.out;omega)
 have HC:Hid (CS base gh g2 n k 0 0 0 v qh A M [] [] (Value.slice none 0 0) (Value.slice none 0 0) W3):=by
  subst hqh
  exact ⟨hL,by rw [Nat.sub_zero];exact hE,by rw [hn,Nat.sub_zero],LnH.nil _ _ _,⟨rfl,fun i p u h=>by cases h⟩,LnH.nil _ _ _,⟨rfl,fun i p u h=>by cases h⟩,by rw [hgh];exact XH,u,by rw [hg2];exact X2,⟨by omega,by omega,by omega⟩,fun g h=>(by cases h),fun g h=>(by cases h)⟩
 have XT:BT W3 g5 (Value.slice none 0 0) (Value.slice none 0 0):=by rw [hg5];exact X5
 rw [← hg5,← hgh,← hg2]
 have HB0:=Lib.hid hb;clear hL hE X2 X5 XH u hb hqh hgh hg5 hg2 hbase hz1 hz2 hl2 hA hL0
 go_wp2_with fail
 go_loopg [4] n (fun gk row wr=>∃ (i r:Nat) (A':Option Addr) (c':Nat) (M' ML MR:List HV) (vL vR:Value),Hid (gk+i=n)∧Hid (r+i=n)∧row=.slice A' r c'∧Hid (CS base gh g2 n k i i i v qh A' M' ML MR vL vR wr)∧Hid (BT wr g5 vL vR)∧Hid (Below w.heap.size w wr)∧Hid (∀ ad,A'=some ad→ad.block ≠ g5))
 case atStart=>exact ⟨0,n,A,c,M,[],[],_,_,Nat.add_zero _,Nat.add_zero _,rfl,HC,XT,HB0,fun ad e=>by have:=HA.out ad e;have:=HG.out;omega⟩
 case round =>
  clear HC XT HB0
  obtain ⟨i,r,A1,c1,M1,ML,MR,vL,vR,HGK,HRI,rfl,HC,HX,HBW,HA5⟩:=hrel
  by_cases hr0:0 < r
  · have HR0:=Lib.hid hr0
    have hgt:(0:Int) < (r:Int):=by omega
    obtain ⟨P,u0,hP,hu0,p0⟩:=HC.out.ea.at_ (i:=0) (by rw [HC.out.ln];have:=HRI.out;omega)
    obtain rfl:nd v i 0=u0:=by rw [li_get _ (by have:=HRI.out;omega)] at hu0;exact Option.some.inj hu0
    obtain ⟨g0,o0,hix0,EP,oA0,hA0⟩:=HC.out.sv.jt hP
    have hixa:∀ w',(Instr.indexAt 41 (.slice A1 r c1) (.int .i64 0)).run Tryz.prog w'=.ok (.pointer (some ⟨g0,o0,none⟩)) w':=fun w'=>hix0 r c1 w' hr0
    obtain ⟨Q,u1,hQ,hu1,q0⟩:=HC.out.ea.at_ (i:=r - 1) (by rw [HC.out.ln];have:=HRI.out;omega)
    obtain rfl:nd v i (r - 1)=u1:=by rw [li_get _ (by have:=HRI.out;omega)] at hu1;exact Option.some.inj hu1
    obtain ⟨g1,o1,hix1,EQ,oA1,hA1⟩:=HC.out.sv.jt hQ
    have hixb:∀ w',(Instr.indexAt 41 (.slice A1 r c1) (.int .i64 ((r:Int) - 1))).run Tryz.prog w'=.ok (.pointer (some ⟨g1,o1,none⟩)) w':=fun w'=>by
     have:=hix1 r c1 w' (by omega)
     rwa [show ((r - 1:Nat):Int)=(r:Int) - 1 by omega] at this
    have hwr1:IntKind.i64.wrap ((r:Int) - 1)=(r:Int) - 1:=IntWalk.i64_in _ (by have:=HRI.out;have:=HB.out;omega)
    have HIK:Hid (i≤3):=by show _≤_;have:=HRI.out;have:=HB.out;omega
    replace p0:=p0.more (show _≤8*k+56 from kr_3 HIK.out)
    replace q0:=q0.more (show _≤8*k+56 from kr_3 HIK.out)
    have XT:=HX.out;have HA0:=Lib.hid hA0;have HA1:=Lib.hid hA1;clear hP hu0 hix0 hQ hu1 hix1 hr0 HX hA0 hA1
    go_upto_region 5 with (fail)
    have XTd:=XT.below (Below.refl _ _).drew
    have EPd:=EP.below (Below.refl _ _).drew
    refine wp_region_last _ (o:=⟨none,.store 41 (.tmp 20) (.tmp 19),0, "ref.go:18",#[⟨7,.data⟩,⟨6,.data⟩,⟨6,.chain⟩,⟨0,.phase⟩,⟨1,.phase⟩,⟨2,.phase⟩,⟨3,.phase⟩,⟨4,.phase⟩,⟨5,.phase⟩,⟨6,.phase⟩],none⟩) rfl (by kernel_rfl) (by kernel_rfl) (by kernel_rfl) rfl ?_
    refine heldH_go (S:=(fun w'=>w'.cell? ⟨g5,0,none⟩=some vL∧(LVJ ⟨g0,o0,none⟩).run Tryz.prog w'=.ok (.agg #[.bool P.x.s,.slice P.x.A P.x.n P.x.c,.slice P.x.B P.x.m P.x.d,.bool P.y.s,.slice P.y.A P.y.n P.y.c,.slice P.y.B P.y.m P.y.d,.bool P.w.s,.slice P.w.A P.w.n P.w.c,.slice P.w.B P.w.m P.w.d]) w')) ⟨XTd.c0,EPd.ldJ⟩ (fun hHeld=>?_)
    refine wpAnyH_take (i:=0) (v:=?_) rfl (by kernel_rfl) (by kernel_rfl) (by kernel_rfl) (fun _ _ _ h=>h) (Or.inl ⟨by rfl,?_⟩) hHeld ?_
    rotate_left
    · (intro w hSw;(try dsimp only at hSw);go_simp;try with_reducible rfl)
    simp only [Act.put,List.setIfInBounds_toArray]
    refine wpAnyH_take (i:=1) (v:=?_) rfl (by kernel_rfl) (by kernel_rfl) (by kernel_rfl) (fun _ _ _ h=>h) (Or.inl ⟨by rfl,?_⟩) hHeld ?_
    rotate_left
    · (intro w hSw;(try dsimp only at hSw);go_simp;try with_reducible rfl)
    simp only [Act.put]
    refine wpAnyH_take (i:=2) (v:=?_) rfl (by kernel_rfl) (by kernel_rfl) (by kernel_rfl) (fun _ _ _ h=>h) (Or.inl ⟨by rfl,?_⟩) hHeld ?_
    rotate_left
    · (intro w hSw;(try dsimp only at hSw);go_simp;try with_reducible rfl)
    simp only [Act.put]
    refine wpAnyH_take (i:=3) (v:=?_) rfl (by kernel_rfl) (by kernel_rfl) (by kernel_rfl) (fun _ _ _ h=>h) (Or.inl ⟨by rfl,?_⟩) hHeld ?_
    rotate_left
    · (intro w hSw;(try dsimp only at hSw);go_simp;try with_reducible rfl)
    simp only [Act.put]
    refine wpAnyH_take (i:=4) (v:=?_) rfl (by kernel_rfl) (by kernel_rfl) (by kernel_rfl) (fun _ _ _ h=>h) (Or.inl ⟨by rfl,?_⟩) hHeld ?_
    rotate_left
    · (intro w hSw;(try dsimp only at hSw);go_simp;try with_reducible rfl)
    simp only [Act.put]
    refine wpAnyH_ready (rs:=[5]) (by kernel_rfl) (by simp) ?_
    refine AllReadyH.cons (o:=⟨some 18,.buildSlice 41 1 #[(0,.tmp 17)],41, "ref.go:18",#[⟨4,.data⟩],none⟩) rfl (fun K1 hK1=>?_) AllReadyH.nil
    go_simp
    have hlit:LnH 96 wr.heap.size (wr.alloc (Obj.cells #[Value.bool P.x.s,Value.slice P.x.A P.x.n P.x.c,Value.slice P.x.B P.x.m P.x.d,Value.bool P.y.s,Value.slice P.y.A P.y.n P.y.c,Value.slice P.y.B P.y.m P.y.d,Value.bool P.w.s,Value.slice P.w.A P.w.n P.w.c,Value.slice P.w.B P.w.m P.w.d] 96)).drew (.slice (some ⟨wr.heap.size,0,none⟩) 1 1) [P]:=LnH.below (LnH.lit wr [P] (Nat.le_refl _) (by simp)) (Below.refl _ _).drew
    have hal:Below wr.heap.size wr (wr.alloc (Obj.cells #[Value.bool P.x.s,Value.slice P.x.A P.x.n P.x.c,Value.slice P.x.B P.x.m P.x.d,Value.bool P.y.s,Value.slice P.y.A P.y.n P.y.c,Value.slice P.y.B P.y.m P.y.d,Value.bool P.w.s,Value.slice P.w.A P.w.n P.w.c,Value.slice P.w.B P.w.m P.w.d] 96)).drew:=((Below.refl _ _).alloc (Nat.le_refl _) _).drew
    replace EP:=EP.below hal;replace EQ:=EQ.below hal;replace p0:=p0.below hal;replace q0:=q0.below hal;replace XT:=XT.below hal
    replace HC:=Lib.hid (HC.out.below hal)
    replace HBW:=Lib.hid (bend HBW.out hal)
    clear hal XTd EPd
    generalize (wr.alloc (Obj.cells #[Value.bool P.x.s,Value.slice P.x.A P.x.n P.x.c,Value.slice P.x.B P.x.m P.x.d,Value.bool P.y.s,Value.slice P.y.A P.y.n P.y.c,Value.slice P.y.B P.y.m P.y.d,Value.bool P.w.s,Value.slice P.w.A P.w.n P.w.c,Value.slice P.w.B P.w.m P.w.d] 96)).drew=W1 at *
    refine hK1.out _ _ (by with_reducible exact ⟨XT.c0,EP.ldJ⟩) (fun hHeld=>?_)
    clear hK1 K1
    refine wpAnyH_ready (rs:=[6]) (by kernel_rfl) (by simp) ?_
    refine AllReadyH.cons (o:=⟨some 19,.call ⟨.builtin Builtin.append,#[.tmp 14,.tmp 18],#[41,41]⟩,41, "ref.go:18",#[⟨1,.data⟩,⟨5,.data⟩],none⟩) rfl (fun K1 hK1=>?_) AllReadyH.nil
    obtain ⟨vL2,w2,hr2,hl2,hgw,how⟩:=run_appH (tS:=41) (ty:=41) Tryz.underlying41 info_rhom HC.out.lL hlit (by simp) HC.out.lt.2.2 (by rw [HC.out.eL.1,li_length];have:=HIK.out;simp;omega)
    obtain ⟨A_2,n_2,c_2,rfl⟩:=hl2.isSl
    refine wp_append_at (.tmp 14) (.tmp 18) rfl (by simp [Act.eval]) (by simp [Act.eval]) hr2 ?_
    have XT2:=XT.push hgw (fun k e=>by have:=(HC.out.lL.own.lt k e).1;have:=HG.out;omega)
    have EP2:=EP.pushX hgw (fun k e=>by have:=HC.out.apt k e _ HA0.out;exact fun e2=>this e2.symm)
    have EQ2:=EQ.pushX hgw (fun k e=>by have:=HC.out.apt k e _ HA1.out;exact fun e2=>this e2.symm)
    have q2:=HC.out.lL.rh hgw q0
    have HC2:=Lib.hid (HC.out.stepL (by rw [HC.out.ln];have:=HRI.out;have:=HR0.out;omega) hl2 p0 hgw how)
    have HBW2:Hid (Below w.heap.size w w2):=HC.out.lL.under hgw HBW.out (by have:=HG.out;omega)
    have HS2:Hid (IsSl vL∧IsSl vR):=⟨HC.out.lL.isSl,HC.out.lR.isSl⟩
    clear HC HBW XT EP EQ q0 p0 hl2 hgw how hr2 hlit
    refine hK1.out _ _ (by with_reducible exact ⟨XT2.c0,EP2.ldJ⟩) (fun hHeld=>?_)
    clear hK1 K1
    refine wpAnyH_take (i:=7) (v:=?_) rfl (by kernel_rfl) (by kernel_rfl) (by kernel_rfl) (fun _ _ _ h=>h) (Or.inl ⟨by rfl,?_⟩) hHeld ?_
    rotate_left
    · (intro w hSw;(try dsimp only at hSw);go_simp;try with_reducible rfl)
    simp only [Act.put,List.setIfInBounds_toArray,List.set_cons_zero,List.set_cons_succ]
    refine wpAnyH_done (by kernel_rfl) ?_ _
    have xc:=XT2.c0;have xf:=XT2.f0
    change Oper.wp _ _ _ _ _ _
    go_simp
    clear xc xf hHeld EP2
    generalize hW3:(w2.setCell ⟨g5,0,none⟩ (Value.slice A_2 n_2 c_2))=Wa
    generalize (Value.slice A_2 n_2 c_2)=vL2 at *
    have ho:Only g5 w2 Wa:=by subst hW3;exact (Only.refl _ _).setCell 0 _
    have XT:BT Wa g5 vL2 vR:=by subst hW3;exact XT2.set0 _
    have HC:=Lib.hid (HC2.out.only (XT2.box HS2.out.1 HS2.out.2) ho (by have:=HG.out;omega) (by have:=HG.out;omega) HA5.out)
    have EQ:=EQ2.rest (show g1 ≠ g5 from HA5.out _ HA1.out) ho
    have q0:=q2.box (XT2.box HS2.out.1 HS2.out.2) ho
    have HBW:Hid (Below w.heap.size w Wa):=Below.only HBW2.out (by have:=HG.out;omega) HBW2.out.size ho
    clear hW3 ho XT2 HC2 EQ2 q2 HBW2
    generalize ML ++ [P]=ML2 at HC
    go_upto_region 6 with (fail)
    have XTd:=XT.below (Below.refl _ _).drew
    have EQd:=EQ.below (Below.refl _ _).drew
    have XTa:=Lib.hid XT;have EQa:=Lib.hid EQ;have q0a:=Lib.hid q0
    refine wp_region_last _ (o:=⟨none,.store 41 (.tmp 31) (.tmp 30),0, "ref.go:19",#[⟨10,.data⟩,⟨9,.data⟩,⟨9,.chain⟩,⟨0,.phase⟩,⟨1,.phase⟩,⟨2,.phase⟩,⟨3,.phase⟩,⟨4,.phase⟩,⟨5,.phase⟩,⟨6,.phase⟩,⟨7,.phase⟩,⟨8,.phase⟩,⟨9,.phase⟩],none⟩) rfl (by kernel_rfl) (by kernel_rfl) (by kernel_rfl) rfl ?_
    refine heldH_go (S:=(fun w'=>w'.cell? ⟨g5,1,none⟩=some vR∧(LVJ ⟨g1,o1,none⟩).run Tryz.prog w'=.ok (.agg #[.bool Q.x.s,.slice Q.x.A Q.x.n Q.x.c,.slice Q.x.B Q.x.m Q.x.d,.bool Q.y.s,.slice Q.y.A Q.y.n Q.y.c,.slice Q.y.B Q.y.m Q.y.d,.bool Q.w.s,.slice Q.w.A Q.w.n Q.w.c,.slice Q.w.B Q.w.m Q.w.d]) w')) ⟨XTd.c1,EQd.ldJ⟩ (fun hHeld=>?_)
    refine wpAnyH_take (i:=0) (v:=?_) rfl (by kernel_rfl) (by kernel_rfl) (by kernel_rfl) (fun _ _ _ h=>h) (Or.inl ⟨by rfl,?_⟩) hHeld ?_
    rotate_left
    · (intro w hSw;(try dsimp only at hSw);go_simp;try with_reducible rfl)
    simp only [Act.put,List.setIfInBounds_toArray]
    refine wpAnyH_take (i:=1) (v:=?_) rfl (by kernel_rfl) (by kernel_rfl) (by kernel_rfl) (fun _ _ _ h=>h) (Or.inl ⟨by rfl,?_⟩) hHeld ?_
    rotate_left
    · (intro w hSw;(try dsimp only at hSw);go_simp;try with_reducible rfl)
    simp only [Act.put]
    refine wpAnyH_take (i:=2) (v:=?_) rfl (by kernel_rfl) (by kernel_rfl) (by kernel_rfl) (fun _ _ _ h=>h) (Or.inl ⟨by rfl,?_⟩) hHeld ?_
    rotate_left
    · (intro w hSw;(try dsimp only at hSw);go_simp;try with_reducible rfl)
    simp only [Act.put]
    refine wpAnyH_take (i:=3) (v:=?_) rfl (by kernel_rfl) (by kernel_rfl) (by kernel_rfl) (fun _ _ _ h=>h) (Or.inl ⟨by rfl,?_⟩) hHeld ?_
    rotate_left
    · (intro w hSw;(try dsimp only at hSw);go_simp;try with_reducible rfl)
    simp only [Act.put]
    refine wpAnyH_take (i:=4) (v:=?_) rfl (by kernel_rfl) (by kernel_rfl) (by kernel_rfl) (fun _ _ _ h=>h) (Or.inl ⟨by rfl,?_⟩) hHeld ?_
    rotate_left
    · (intro w hSw;(try dsimp only at hSw);go_simp;try with_reducible rfl)
    simp only [Act.put]
    refine wpAnyH_take (i:=5) (v:=?_) rfl (by kernel_rfl) (by kernel_rfl) (by kernel_rfl) (fun _ _ _ h=>h) (Or.inl ⟨by rfl,?_⟩) hHeld ?_
    rotate_left
    · (intro w hSw;(try dsimp only at hSw);go_simp;try with_reducible rfl)
    simp only [Act.put]
    refine wpAnyH_take (i:=7) (v:=?_) rfl (by kernel_rfl) (by kernel_rfl) (by kernel_rfl) (fun _ _ _ h=>h) (Or.inl ⟨by rfl,?_⟩) hHeld ?_
    rotate_left
    · (intro w hSw;(try dsimp only at hSw);go_simp;try with_reducible rfl)
    simp only [Act.put]
    refine wpAnyH_take (i:=8) (v:=?_) rfl (by kernel_rfl) (by kernel_rfl) (by kernel_rfl) (fun _ _ _ h=>h) (Or.inl ⟨by rfl,?_⟩) hHeld ?_
    rotate_left
    · (intro w hSw;(try dsimp only at hSw);go_simp;try with_reducible rfl)
    simp only [Act.put]
    refine wpAnyH_ready (rs:=[6]) (by kernel_rfl) (by simp) ?_
    refine AllReadyH.cons (o:=⟨some 27,.buildSlice 41 1 #[(0,.tmp 26)],41, "ref.go:19",#[⟨5,.data⟩],none⟩) rfl (fun K1 hK1=>?_) AllReadyH.nil
    go_simp
    have hlit:LnH 96 Wa.heap.size (Wa.alloc (Obj.cells #[Value.bool Q.x.s,Value.slice Q.x.A Q.x.n Q.x.c,Value.slice Q.x.B Q.x.m Q.x.d,Value.bool Q.y.s,Value.slice Q.y.A Q.y.n Q.y.c,Value.slice Q.y.B Q.y.m Q.y.d,Value.bool Q.w.s,Value.slice Q.w.A Q.w.n Q.w.c,Value.slice Q.w.B Q.w.m Q.w.d] 96)).drew (.slice (some ⟨Wa.heap.size,0,none⟩) 1 1) [Q]:=LnH.below (LnH.lit Wa [Q] (Nat.le_refl _) (by simp)) (Below.refl _ _).drew
    have hal:Below Wa.heap.size Wa (Wa.alloc (Obj.cells #[Value.bool Q.x.s,Value.slice Q.x.A Q.x.n Q.x.c,Value.slice Q.x.B Q.x.m Q.x.d,Value.bool Q.y.s,Value.slice Q.y.A Q.y.n Q.y.c,Value.slice Q.y.B Q.y.m Q.y.d,Value.bool Q.w.s,Value.slice Q.w.A Q.w.n Q.w.c,Value.slice Q.w.B Q.w.m Q.w.d] 96)).drew:=((Below.refl _ _).alloc (Nat.le_refl _) _).drew
    replace EQ:=EQ.below hal;replace q0:=q0.below hal;replace XT:=XT.below hal
    have HC1:=Lib.hid (HC.out.below hal)
    clear XTd EQd
    generalize (Wa.alloc (Obj.cells #[Value.bool Q.x.s,Value.slice Q.x.A Q.x.n Q.x.c,Value.slice Q.x.B Q.x.m Q.x.d,Value.bool Q.y.s,Value.slice Q.y.A Q.y.n Q.y.c,Value.slice Q.y.B Q.y.m Q.y.d,Value.bool Q.w.s,Value.slice Q.w.A Q.w.n Q.w.c,Value.slice Q.w.B Q.w.m Q.w.d] 96)).drew=W1 at *
    refine hK1.out _ _ (by with_reducible exact ⟨XT.c1,EQ.ldJ⟩) (fun hHeld=>?_)
    clear hK1 K1
    refine wpAnyH_ready (rs:=[9]) (by kernel_rfl) (by simp) ?_
    refine AllReadyH.cons (o:=⟨some 30,.call ⟨.builtin Builtin.append,#[.tmp 27,.tmp 29],#[41,41]⟩,41, "ref.go:19",#[⟨6,.data⟩,⟨8,.data⟩],none⟩) rfl (fun K1 hK1=>?_) AllReadyH.nil
    obtain ⟨vR2,w3,hr2,hl2,hgw,how⟩:=run_appH0 (tS:=41) (ty:=41) Tryz.underlying41 info_rhom hlit HC1.out.lR (by simp) hal.size (by rw [HC1.out.eR.1,rr_length];have:=HIK.out;simp;omega)
    obtain ⟨A_3,n_3,c_3,rfl⟩:=hl2.isSl
    refine wp_append_at (.tmp 27) (.tmp 29) rfl (by simp [Act.eval]) (by simp [Act.eval]) hr2 ?_
    have hb6:Below Wa.heap.size Wa w3:=hal.grown hgw hal.size (fun k e=>by obtain rfl:Wa.heap.size=k:=(by simpa [Value.ownBlock] using e);exact Nat.le_refl _)
    have how2:∀ g,(Value.slice A_3 n_3 c_3).ownBlock=some g→Wa.heap.size≤g:=fun g e=>by
     rcases how g e with q1 | q1
     · obtain rfl:Wa.heap.size=g:=(by simpa [Value.ownBlock] using q1)
       exact Nat.le_refl _
     · exact Nat.le_trans hal.size q1
    have XT2:BT w3 g5 vL2 vR:=XTa.out.below hb6
    have EQ2:=EQa.out.below hb6;have q2:=q0a.out.below hb6
    have HS2:Hid (IsSl vL2∧IsSl vR):=⟨HC.out.lL.isSl,HC.out.lR.isSl⟩
    have HC2:=Lib.hid ((HC.out.below hb6).setR (hl2.base_le HC.out.lt.2.2) (show EachH RH w3 (Q :: MR) _ _ from ((HC.out.below hb6).eR.cons (by have h:=q2;rw [show r - 1=n - 1 - i by have:=HRI.out;omega] at h;exact h))) (fun g e e2=>by have:=(HC.out.lL.own.lt g e).2;have:=how2 g e2;omega))
    have HBW2:=Lib.hid (bend HBW.out hb6)
    clear HC HC1 HBW XT EQ q0 hl2 hgw how how2 hr2 hlit hal hb6 XTa EQa q0a
    refine hK1.out _ _ (by with_reducible exact ⟨XT2.c1,EQ2.ldJ⟩) (fun hHeld=>?_)
    clear hK1 K1
    refine wpAnyH_take (i:=10) (v:=?_) rfl (by kernel_rfl) (by kernel_rfl) (by kernel_rfl) (fun _ _ _ h=>h) (Or.inl ⟨by rfl,?_⟩) hHeld ?_
    rotate_left
    · (intro w hSw;(try dsimp only at hSw);go_simp;try with_reducible rfl)
    simp only [Act.put,List.setIfInBounds_toArray,List.set_cons_zero,List.set_cons_succ]
    refine wpAnyH_done (by kernel_rfl) ?_ _
    have xc:=XT2.c1;have xf:=XT2.f1
    change Oper.wp _ _ _ _ _ _
    go_simp
    clear xc xf hHeld EQ2 q2 hixa hixb
    generalize hW3:(w3.setCell ⟨g5,1,none⟩ (Value.slice A_3 n_3 c_3))=W5
    generalize (Value.slice A_3 n_3 c_3)=vR2 at *
    have ho:Only g5 w3 W5:=by subst hW3;exact (Only.refl _ _).setCell 1 _
    have XT:=Lib.hid (show BT W5 g5 vL2 vR2 by subst hW3;exact XT2.set1 _)
    have HC:=Lib.hid (HC2.out.only (XT2.box HS2.out.1 HS2.out.2) ho (by have:=HG.out;omega) (by have:=HG.out;omega) HA5.out)
    have HBW:Hid (Below w.heap.size w W5):=Below.only HBW2.out (by have:=HG.out;omega) HBW2.out.size ho
    clear hW3 ho XT2 HC2 HBW2
    generalize [Q] ++ MR=MR2 at HC
    go_wp2_with fail
    have HXT:=XT;clear XT
    go_loopg [6,7] (r - 1) (fun gk nx ix wr=>∃ (m:Nat) (MN:List HV),Hid (gk+m+1=r)∧ix=.int .i64 (m:Int)∧LnH 96 W5.heap.size wr nx MN∧Hid (EachH RH wr MN ((li (r - 1) (nd v (i+1))).take m) (kr k (i+1)))∧Below W5.heap.size W5 wr)
    case atStart=>exact ⟨0,[],by have:=HR0.out;show _=_;omega,rfl,LnH.nil _ _ _,⟨rfl,fun i p u h=>by cases h⟩,Below.refl _ _⟩
    case round =>
     obtain ⟨m,MN,HGM,rfl,LT,HQ,hB⟩:=hrel
     have hwm:IntKind.i64.wrap ((m:Int)+1)=(m:Int)+1:=IntWalk.i64_in _ (by have:=HGM.out;have:=HRI.out;have:=HB.out;omega)
     by_cases hmn:m+1 < r
     · have HMN:=Lib.hid hmn
       have hltm:(m:Int)+1 < (r:Int):=by omega
       obtain ⟨P,u1,hP,hu1,p0⟩:=HC.out.ea.at_ (i:=m) (by rw [HC.out.ln];have:=HRI.out;omega)
       obtain rfl:nd v i m=u1:=by rw [li_get _ (by have:=HRI.out;omega)] at hu1;exact Option.some.inj hu1
       obtain ⟨Q,u2,hQ,hu2,q0⟩:=HC.out.ea.at_ (i:=m+1) (by rw [HC.out.ln];have:=HRI.out;omega)
       obtain rfl:nd v i (m+1)=u2:=by rw [li_get _ (by have:=HRI.out;omega)] at hu2;exact Option.some.inj hu2
       obtain ⟨g0,o0,hix0,EP0,_⟩:=HC.out.sv.jt hP
       obtain ⟨g1,o1,hix1,EQ0,_⟩:=HC.out.sv.jt hQ
       have hixa:∀ w',(Instr.indexAt 41 (.slice A1 r c1) (.int .i64 (m:Int))).run Tryz.prog w'=.ok (.pointer (some ⟨g0,o0,none⟩)) w':=fun w'=>hix0 r c1 w' (by omega)
       have hixb:∀ w',(Instr.indexAt 41 (.slice A1 r c1) (.int .i64 ((m:Int)+1))).run Tryz.prog w'=.ok (.pointer (some ⟨g1,o1,none⟩)) w':=fun w'=>by
        have:=hix1 r c1 w' hmn
        rwa [show ((m+1:Nat):Int)=(m:Int)+1 by omega] at this
       have HI2:Hid (i≤2):=by show _≤_;have:=HRI.out;have:=HB.out;omega
       have hk9:kr k i≤9000:=by have:=kr_2 (k:=k) HI2.out;have:=HB.out;omega
       have HU:Hid ((li (r - 1) (nd v (i+1)))[m]?=some ((nd v i m).mix (nd v i (m+1)) (Rat.divInt 1 2))):=by
        show _=_
        rw [li_get _ (by omega),div_half]
        rfl
       have hMl:MN.length≤1000000:=by have:=HQ.out.1;rw [List.length_take,li_length] at this;have:=HRI.out;have:=HB.out;omega
       have EP:=EP0.below hB;have EQ:=EQ0.below hB;have p:=p0.below hB;have q:=q0.below hB;have XHh:=HC.out.half.below hB;have u:=HC.out.hq.below hB
       have hxg:∀ b,u6.ownBlock=some b→b ≠ g0:=fun b e=>by have:=LT.own_baseX e;have:=EP0.lt;omega
       have hxq:∀ b,u6.ownBlock=some b→b ≠ g1:=fun b e=>by have:=LT.own_baseX e;have:=EQ0.lt;omega
       have hxt:∀ b,u6.ownBlock=some b→b ≠ gh:=fun b e=>by have:=LT.own_baseX e;have:=HC.out.lt;omega
       clear hP hu1 hQ hu2 hix0 hix1 hmn p0 q0 EP0 EQ0
       go_upto_region 11 with (fail)
       replace LT:=LT.below (Below.refl _ _).drew
       replace EP:=EP.below (Below.refl _ _).drew
       replace EQ:=EQ.below (Below.refl _ _).drew
       replace p:=p.below (Below.refl _ _).drew
       replace q:=q.below (Below.refl _ _).drew
       replace XHh:=XHh.below (Below.refl _ _).drew
       replace u:=u.below (Below.refl _ _).drew
       replace HQ:=Lib.hid (EachH.belowJ HQ.out (Below.refl _ _).drew)
       replace hB:=hB.drew
       go_region_held3 (fun w'=>(LVJ ⟨g0,o0,none⟩).run Tryz.prog w'=.ok (.agg #[.bool P.x.s,.slice P.x.A P.x.n P.x.c,.slice P.x.B P.x.m P.x.d,.bool P.y.s,.slice P.y.A P.y.n P.y.c,.slice P.y.B P.y.m P.y.d,.bool P.w.s,.slice P.w.A P.w.n P.w.c,.slice P.w.B P.w.m P.w.d]) w'∧(LVJ ⟨g1,o1,none⟩).run Tryz.prog w'=.ok (.agg #[.bool Q.x.s,.slice Q.x.A Q.x.n Q.x.c,.slice Q.x.B Q.x.m Q.x.d,.bool Q.y.s,.slice Q.y.A Q.y.n Q.y.c,.slice Q.y.B Q.y.m Q.y.d,.bool Q.w.s,.slice Q.w.A Q.w.n Q.w.c,.slice Q.w.B Q.w.m Q.w.d]) w'∧w'.cell? ⟨gh,0,none⟩=some (.bool qh.s)∧w'.cell? ⟨gh,1,none⟩=some (.slice qh.A qh.n qh.c)∧w'.cell? ⟨gh,2,none⟩=some (.slice qh.B qh.m qh.d))
        (first | with_reducible exact ⟨EPb.ldJ,EQb.ldJ,XHhb.c0,XHhb.c1,XHhb.c2⟩ | with_reducible exact ⟨EP.ldJ,EQ.ldJ,XHh.c0,XHh.c1,XHh.c2⟩ | exact ⟨(EP.below ((Below.refl _ _).alloc (Nat.le_refl _) _)).ldJ,(EQ.below ((Below.refl _ _).alloc (Nat.le_refl _) _)).ldJ,(XHh.below ((Below.refl _ _).alloc (Nat.le_refl _) _)).c0,(XHh.below ((Below.refl _ _).alloc (Nat.le_refl _) _)).c1,(XHh.below ((Below.refl _ _).alloc (Nat.le_refl _) _)).c2⟩)
        (first
        | (go_at_call 54;(with_reducible refine (rmix13 p q u hk9).mono ?_);rintro e w_y ⟨y,rfl,yh,hh⟩
           (try replace LT:=LT.below hh);(try replace EP:=EP.below hh);(try replace EQ:=EQ.below hh);(try replace p:=p.below hh);(try replace q:=q.below hh);(try replace XHh:=XHh.below hh);(try replace u:=u.below hh)
           replace HQ:=Lib.hid (EachH.belowJ HQ.out hh)
           replace hB:=bend hB hh)
        | (have hal:Below w_y.heap.size w_y (w_y.alloc (Obj.cells #[Value.bool y.x.s,Value.slice y.x.A y.x.n y.x.c,Value.slice y.x.B y.x.m y.x.d,Value.bool y.y.s,Value.slice y.y.A y.y.n y.y.c,Value.slice y.y.B y.y.m y.y.d,Value.bool y.w.s,Value.slice y.w.A y.w.n y.w.c,Value.slice y.w.B y.w.m y.w.d] 96)):=(Below.refl _ _).alloc (Nat.le_refl _) _
           have EPa:=EP.below hal;have EQa:=EQ.below hal;have XHa:=XHh.below hal
           refine step_pushH Tryz.underlying41 info_rhom (by rfl) _ _ (by rfl) (p:=y) (k0:=1) (b:=w_y.heap.size) (by rfl) (by rfl) (LT.below hal) (by have h5:=hB.size;have h6:=hal.size;omega) hMl (heap_alloc_new w_y _) ?_
           intro v3 w3 hn3 hg3 ho3
           have EPb:=EPa.pushX hg3 hxg;have EQb:=EQa.pushX hg3 hxq;have XHhb:=B3R.pushX XHa hg3 hxt))
       have hE3:EachH RH (w_y.alloc (Obj.cells #[Value.bool y.x.s,Value.slice y.x.A y.x.n y.x.c,Value.slice y.x.B y.x.m y.x.d,Value.bool y.y.s,Value.slice y.y.A y.y.n y.y.c,Value.slice y.y.B y.y.m y.y.d,Value.bool y.w.s,Value.slice y.w.A y.w.n y.w.c,Value.slice y.w.B y.w.m y.w.d] 96)) MN ((li (r - 1) (nd v (i+1))).take m) (kr k (i+1)):=EachH.belowJ HQ.out hal
       have hp3:RH (w_y.alloc (Obj.cells #[Value.bool y.x.s,Value.slice y.x.A y.x.n y.x.c,Value.slice y.x.B y.x.m y.x.d,Value.bool y.y.s,Value.slice y.y.A y.y.n y.y.c,Value.slice y.y.B y.y.m y.y.d,Value.bool y.w.s,Value.slice y.w.A y.w.n y.w.c,Value.slice y.w.B y.w.m y.w.d] 96)) y ((nd v i m).mix (nd v i (m+1)) (Rat.divInt 1 2)) (kr k (i+1)):=yh.below hal
       have hB9:=LnH.under (T:=96) (base:=W5.heap.size) (LT.below hal) hg3 (w0:=W5) (bend hB hal) (Nat.le_refl _)
       have hE4:=takeH HU.out (EachH.push hE3 (fun _ _ h=>(LT.below hal).rh hg3 h) ((LT.below hal).rh hg3 hp3))
       clear hE3 hp3 EPa EQa XHa EPb EQb XHhb EP EQ XHh u p q yh
       go_wp2_with fail
       go_roundg (gk - 1)
       case measure=>have:=HGM.out;have:=HMN.out;omega
       case rel=>exact ⟨m+1,MN ++ [y],by have:=HGM.out;have:=HMN.out;show _=_;omega,by go_num,hn3,Lib.hid hE4,hB9⟩
     · have HEM:Hid (m+1=r):=by have:=HGM.out;show _=_;omega
       have hltm:¬ (m:Int)+1 < (r:Int):=by omega
       have hQ2:EachH RH wr MN (li (r - 1) (nd v (i+1))) (kr k (i+1)):=by
        have h:=HQ.out
        rwa [List.take_of_length_le (by rw [li_length];have:=HEM.out;omega)] at h
       have hML:MN.length=r - 1:=by rw [hQ2.1,li_length]
       obtain ⟨A3,c3,rfl,_,_⟩:=LT.form
       rw [hML] at LT
       have hrr:r - 1=n - (i+1):=by have:=HRI.out;omega
       have hA3:∀ ad,A3=some ad→W5.heap.size≤ad.block:=fun ad e=>by
        subst e
        exact LT.own_baseX rfl
       have HC2:=Lib.hid ((HC.out.below hB).setRow (A2:=A3) (M2:=MN) LT.sv (by rw [← hrr];exact hQ2) (by rw [hML,hrr]) (fun g e ad e2=>by have:=(HC.out.lL.own.lt g e).2;have:=hA3 ad e2;omega))
       have HX2:Hid (BT wr g5 vL2 vR2):=HXT.out.below hB
       have HB2:=Lib.hid (bend HBW.out hB)
       have H52:Hid (∀ ad,A3=some ad→ad.block ≠ g5):=fun ad e=>by have:=hA3 ad e;have:=HXT.out.lt;omega
       rw [hML];clear hmn HQ LT hB hQ2 hA3 HC HXT HBW hrr
       go_wp2_with fail
       go_roundg (n - i - 1)
       case measure=>have:=HGK.out;have:=HRI.out;have:=HR0.out;omega
       case rel=>exact ⟨i+1,r - 1,A3,c3,MN,ML2,MR2,vL2,vR2,by have:=HGK.out;have:=HRI.out;have:=HR0.out;show _=_;omega,by have:=HRI.out;have:=HR0.out;show _=_;omega,rfl,HC2,HX2,HB2,H52⟩
  · have hgt:¬ (0:Int) < (r:Int):=by omega
    have HEQ:Hid (i=n):=by have:=HRI.out;show _=_;omega
    have XT:=HX.out;have hsl:=HC.out.lL.isSl;have hsr:=HC.out.lR.isSl
    have HE:Hid (LnH 96 base wr vL ML∧LnH 96 base wr vR MR∧EachH RH wr ML (li n (lf v)) (8*k+56)∧EachH RH wr MR (li n (rg n v)) (8*k+56)∧BT wr g2 (.slice none 0 0) (.slice none 0 0)):=by
     have h:=HC.out;rw [HEQ.out] at h
     exact ⟨h.lL,h.lR,h.eL,by have:=h.eR;rwa [rr_all] at this,h.res⟩
    obtain ⟨AL,nL,cL,rfl⟩:=hsl
    obtain ⟨AR,nR,cR,rfl⟩:=hsr
    obtain ⟨x0,x1⟩:=XT.all;have X2:=HE.out.2.2.2.2;obtain ⟨z0,z1⟩:=X2.all;have f0:=X2.f0;have f1:=X2.f1;clear hr0 HX HC
    go_wp2_with fail
    have Z2:=(X2.set0 (.slice AL nL cL)).set1 (.slice AR nR cR)
    obtain ⟨g0,g1⟩:=Z2.all
    refine bodyPost_ret (v:=.agg #[.slice AL nL cL,.slice AR nR cR]) (by simp [results,Tryz.results23,go_sem,g0,g1]) rfl ?_
    have ho:Only g2 wr ((wr.setCell ⟨g2,0,none⟩ (.slice AL nL cL)).setCell ⟨g2,1,none⟩ (.slice AR nR cR)):=((Only.refl _ _).setCell 0 _).setCell 1 _
    have Zb:=X2.box ⟨_,_,_,rfl⟩ ⟨_,_,_,rfl⟩
    have hgg:=HG.out
    refine ⟨_,_,ML,MR,rfl,(HE.out.1.kept fun g hg=>?_).base_le (by omega),(HE.out.2.1.kept fun g hg=>?_).base_le (by omega),HE.out.2.2.1.imp fun _ _ hp=>hp.box Zb ho,HE.out.2.2.2.1.imp fun _ _ hp=>hp.box Zb ho,Below.only HBW.out (by omega) HBW.out.size ho⟩
    · have:=HE.out.1.own.lt g hg
      exact ho.block g this.2 (by omega)
    · have:=HE.out.2.1.own.lt g hg
      exact ho.block g this.2 (by omega)
end
section
open Go Go.RowKit
attribute [local go_sem ↓] open_LVH open_STH open_LVJ open_STJ
theorem info_slj:(Tryz.prog.info? 41).map (fun i=>(i.zero,i.size,i.bytes))=some (some (.slice none 0 0),1,24):=by kernel_rfl
theorem SV.slj {A:Option Addr} {L:List SLV} (h:SV w A (slvs L)) {i:Nat} {s:SLV} (hi:L[i]?=some s):∃ g o,(∀ (n c:Nat) (w':World),i < n→(Instr.indexAt 70 (.slice A n c) (.int .i64 (i:Int))).run Tryz.prog w'=.ok (.pointer (some ⟨g,o,none⟩)) w')∧g < w.heap.size∧w.cell? ⟨g,o,none⟩=some (.slice s.A s.n s.c):=by
 have hl:=(List.getElem?_eq_some_iff.1 hi).1
 obtain ⟨g,o,e,h1,h2⟩:=h (by simp [slvs];omega)
 refine ⟨g,o+i,fun n c w' hn=>?_,h1,h2 i _ (by simp [slvs,hi,SLV.val])⟩
 subst e
 have ha:∀ j,(⟨g,o,none⟩:Addr).add j=⟨g,o+j,none⟩:=fun j=>by unfold Addr.add;split <;> simp_all
 obtain ⟨i0,hi0,hz,hs,hby⟩:=info_parts info_slj
 have k1:(0:Int)≤(i:Int):=by omega
 have k2:(i:Int) < (n:Int):=by omega
 simp [Instr.indexAt,asIntOf,run_underlying Tryz.underlying70,k1,sizeOf,typeInfo,hi0,hs,ha]
 exact fun e=>absurd hn (by omega)
def crb (k:Nat):Nat→Nat
 | 0=>k
 | d+1=>8*crb k d+56
def PRS (w:World) (n k:Nat) (S:List SLV) (U:List (Nat→AH)):Prop :=
 S.length=U.length∧∀ (j:Nat) (s:SLV) (u:Nat→AH),S[j]?=some s→U[j]?=some u→s.n=n∧∃ MM,LnH 96 0 w s.val MM∧EachH RH w MM (li n u) k∧MM.length=n
section
variable {w w':World} {n k:Nat} {S:List SLV} {U:List (Nat→AH)}
theorem PRS.below (h:PRS w n k S U) (hb:Below w.heap.size w w'):PRS w' n k S U:=⟨h.1,fun j s u h1 h2=>by
 obtain ⟨e,MM,a,b,c⟩:=h.2 j s u h1 h2
 exact ⟨e,MM,a.below hb,b.belowJ hb,c⟩⟩
theorem LnH.byType {T T':TypeId} {b g:Nat} {v:Value} {L:List HV} {cs:Array Value} (h:LnH T b w v L) (Z:BoxAt T' w g cs) (hT:T' ≠ T) (ho:Only g w w'):LnH T b w' v L:=h.kept fun g2 hg=>by
 obtain ⟨c2,h2⟩:=h.free g2 hg
 refine ho.block g2 h2.lt fun e=>?_
 subst e
 have h3:=h.own
 rcases h3.2 with ⟨rfl,_⟩ | ⟨g3,cap,cur,rfl,_,hg3,_⟩
 · cases hg
 · obtain rfl:g3=g2:=by simpa [Value.ownBlock] using hg
   rw [Z.at_] at hg3
   cases hg3
   exact hT rfl
theorem PRS.box {T':TypeId} {g:Nat} {cs:Array Value} (h:PRS w n k S U) (Z:BoxAt T' w g cs) (hT:T' ≠ 96) (ho:Only g w w'):PRS w' n k S U:=⟨h.1,fun j s u h1 h2=>by
 obtain ⟨e,MM,a,b,c⟩:=h.2 j s u h1 h2
 exact ⟨e,MM,a.byType Z hT ho,b.imp fun _ _ hp=>hp.box Z ho,c⟩⟩
theorem PRS.more (h:PRS w n k S U) {s:SLV} {u:Nat→AH} {MM:List HV} (hn:s.n=n) (a:LnH 96 0 w s.val MM) (b:EachH RH w MM (li n u) k) (c:MM.length=n):PRS w n k (S ++ [s]) (U ++ [u]):=⟨by simp [h.1],fun j x y hx hy=>by
 rcases Nat.lt_or_ge j S.length with q | q
 · rw [List.getElem?_append_left q] at hx
   rw [List.getElem?_append_left (by rw [← h.1];exact q)] at hy
   exact h.2 j x y hx hy
 · rw [List.getElem?_append_right q] at hx
   rw [List.getElem?_append_right (by rw [← h.1];exact q)] at hy
   have:=(List.getElem?_eq_some_iff.1 hx).1
   simp at this
   have e:j - S.length=0:=by omega
   rw [e] at hx
   rw [show j - U.length=0 by rw [← h.1];exact e] at hy
   obtain rfl:s=x:=by simpa using hx
   obtain rfl:u=y:=by simpa using hy
   exact ⟨hn,MM,a,b,c⟩⟩
theorem LnS.staysT {T:TypeId} {base:Nat} {v:Value} {L:List SLV} (h:LnS T base w v L) (hg:w.grownBy w' v.ownBlock):Below w.heap.size w w' ∨ ∃ g cs,BoxAt T w g cs∧base≤g∧Only g w w':=by
 cases hv:v.ownBlock with
 | none =>
   rw [hv] at hg
   exact .inl ((Below.refl _ _).grown hg (Nat.le_refl _) (fun k e=>by cases e))
 | some g =>
   rw [hv] at hg
   obtain ⟨cs,hc⟩:=h.free g hv
   refine .inr ⟨g,cs,hc,(h.own.lt g hv).1,⟨hg.os,hg.tape,hg.output,hg.size,fun k hk hn=>hg.block k hk (fun e=>hn (by injection e))⟩⟩
end
theorem run_appT {T tS ty:TypeId} {base base2:Nat} {v v2:Value} {L M:List SLV} (ht:Tryz.prog.underlying tS=some (.slice T)) (hinfo:(Tryz.prog.info? T).map (fun i=>(i.zero,i.size,i.bytes))=some (some (.slice none 0 0),1,24))
 (h:LnS T base w v L) (h2:LnS T base2 w v2 M) (hpos:0 < M.length) (hbase:base≤w.heap.size) (hL:L.length+M.length≤1000000) :
 ∃ v' w',(Builtin.append_ #[tS,tS] ty #[v,v2]).run Tryz.prog w=.ok v' w'∧LnS T base w' v' (L ++ M)∧(Below w.heap.size w w' ∨ ∃ g cs,BoxAt T w g cs∧base≤g∧Only g w w'):=by
 obtain ⟨i0,hi,hz,hs,hby⟩:=info_parts hinfo
 obtain ⟨b,k0,rfl,hnews⟩:∃ b k0,v2=.slice (some ⟨b,0,none⟩) M.length k0∧∀ j u,(slvs M)[j]?=some u→w.cell? ((⟨b,0,none⟩:Addr).add j)=some u:=by
  rcases h2.own.2 with ⟨_,e⟩ | ⟨g,cap,cur,rfl,_,hg,_⟩
  · omega
  · exact ⟨g,cap,rfl,h2.own.cells (g:=g) rfl⟩
 have hlM:(slvs M).length=M.length:=by simp [slvs]
 have hlL:(slvs L).length=L.length:=by simp [slvs]
 have h1:=slvs_one M
 obtain ⟨v',w',hr,hown,hg,_⟩:=run_append_own (P:=Tryz.prog) w base tS ty T i0 (.slice none 0 0) 1 24 ht hi hz hs hby rfl (by decide) v L.length (slvs L) h.own ⟨b,0,none⟩ M.length k0 (slvs M) (by rw [hlM];omega) hnews h1 (by unfold maxLen;omega) (by omega) hbase
 refine ⟨v',w',hr,⟨by rw [List.length_append];unfold slvs;rw [List.map_append];exact hown,?_⟩,h.staysT hg⟩
 have fr:∀ (cs:List Value),(∀ u ∈ cs,∀ (k:IntKind) (x:Int),u ≠ .int k x)→∀ (i:Nat) (k:IntKind) (x:Int),cs.toArray[i]? ≠ some (Value.int k x):=fun cs hc=>arr_free hc
 intro g hgv
 rcases h.own.2 with ⟨rfl,hn⟩ | ⟨g0,cap,cur,rfl,_,hg0,hnc,hcm,hcs,htake⟩
 · have e:=run_append_nil (P:=Tryz.prog) w tS ty T i0 (.slice none 0 0) ht hi hz ⟨b,0,none⟩ M.length k0 (slvs M) (by rw [hs,hlM];omega) hnews hpos (by omega) (by rw [hby];omega)
   rw [hr] at e
   injection e with e1 e2
   subst e1 e2
   obtain rfl:w.heap.size=g:=by simpa [Value.ownBlock] using hgv
   refine ⟨_,heap_alloc_new w.drew _,?_⟩
   have:=fr (slvs M ++ (Builtin.zeroCells (Value.slice none 0 0).cells (grownCap w M.length 0 T - M.length)).toList) (fun u hu=>by
    rcases List.mem_append.1 hu with q | q
    · exact slvs_free M u q
    · exact zeroS_free _ u q)
   intro i k x
   have:=this i k x
   rwa [show (slvs M ++ (Builtin.zeroCells (Value.slice none 0 0).cells (grownCap w M.length 0 T - M.length)).toList).toArray=(slvs M).toArray ++ Builtin.zeroCells (Value.slice none 0 0).cells (grownCap w M.length 0 T - M.length) by apply Array.ext';simp] at this
 · obtain ⟨cs,hB⟩:=h.free g0 rfl
   have hcur:∀ u ∈ cur.toList,∀ (k:IntKind) (x:Int),u ≠ .int k x:=by
    have:cs=cur:=by exact (Obj.cells.inj (Option.some.inj (hB.at_.symm.trans hg0))).1
    subst this
    intro u hu k x e
    obtain ⟨j,hj⟩:=List.getElem?_of_mem hu
    rw [Array.getElem?_toList] at hj
    exact hB.free j k x (by rw [← e];exact hj)
   by_cases hroom:L.length+M.length≤cap
   · have e:=run_append_room (P:=Tryz.prog) w tS ty T i0 ht hi g0 L.length cap cur hg0 ⟨b,0,none⟩ M.length k0 (slvs M) (by rw [hs,hlM];omega) hnews h1 hroom (by rw [hs,hcs,hlM];omega)
     rw [hr] at e
     injection e with e1 e2
     subst e1 e2
     obtain rfl:g0=g:=by simpa [Value.ownBlock] using hgv
     refine ⟨_,setRow_heap w g0 cur _ T _ hg0,fr _ fun u hu=>?_⟩
     rcases List.mem_append.1 hu with q | q
     · rcases List.mem_append.1 q with q | q
       · exact hcur u (List.mem_of_mem_take q)
       · exact slvs_free M u q
     · exact hcur u (List.mem_of_mem_drop q)
   · have holds:∀ j u,(slvs L)[j]?=some u→w.cell? ((⟨g0,0,none⟩:Addr).add j)=some u:=h.own.cells (g:=g0) rfl
     have e:=run_append_grow (P:=Tryz.prog) w tS ty T i0 (.slice none 0 0) ht hi hz ⟨g0,0,none⟩ L.length cap (slvs L) (by rw [hs];exact h.own.1) holds ⟨b,0,none⟩ M.length k0 (slvs M) (by rw [hs,hlM];omega) hnews (by omega) (by omega) (growslice_fits (by omega) (by rw [hby];omega))
     rw [hr] at e
     injection e with e1 e2
     subst e1 e2
     obtain rfl:w.heap.size=g:=by simpa [Value.ownBlock] using hgv
     refine ⟨_,heap_alloc_new w.drew _,?_⟩
     have:=fr (slvs L ++ slvs M ++ (Builtin.zeroCells (Value.slice none 0 0).cells (grownCap w (L.length+M.length) cap T - (L.length+M.length))).toList) (fun u hu=>by
      rcases List.mem_append.1 hu with q | q
      · rcases List.mem_append.1 q with q | q
        · exact slvs_free L u q
        · exact slvs_free M u q
      · exact zeroS_free _ u q)
     intro i k x
     have:=this i k x
     rwa [show (slvs L ++ slvs M ++ (Builtin.zeroCells (Value.slice none 0 0).cells (grownCap w (L.length+M.length) cap T - (L.length+M.length))).toList).toArray=(slvs L).toArray ++ (slvs M).toArray ++ Builtin.zeroCells (Value.slice none 0 0).cells (grownCap w (L.length+M.length) cap T - (L.length+M.length)) by apply Array.ext';simp] at this
theorem wpList_appT {ops:Array Oper} {rest:List Oper} {o:Oper} {a:Act} {Q:Exit→Act→World→Prop} {T tS:TypeId} (ht:Tryz.prog.underlying tS=some (.slice T)) (hinfo:(Tryz.prog.info? T).map (fun i=>(i.zero,i.size,i.bytes))=some (some (.slice none 0 0),1,24))
 (hgd:o.guard=none) (s x:Operand) (ho:o.op=.call ⟨.builtin .append,#[s,x],#[tS,tS]⟩) {base base2:Nat} {v v2:Value} {L M:List SLV} (hs:a.eval s=v) (hx:a.eval x=v2)
 (h:LnS T base w v L) (h2:LnS T base2 w v2 M) (hpos:0 < M.length) (hbase:base≤w.heap.size) (hL:L.length+M.length≤1000000)
 (hK:∀ v' w',LnS T base w' v' (L ++ M)→(Below w.heap.size w w' ∨ ∃ g cs,BoxAt T w g cs∧base≤g∧Only g w w')→wpList Tryz.prog ops Q rest (a.put o.dst v') w'):wpList Tryz.prog ops Q (o :: rest) a w :=
 wpList_plain hgd fun K hK2=>by
  obtain ⟨v',w',hr,h3,h4⟩:=run_appT (ty:=o.type) ht hinfo h h2 hpos hbase hL
  exact wp_append_at s x ho hs hx hr (hK2 _ _ (hK v' w' h3 h4))
def GivesParts (w:World) (n k d:Nat) (v:Nat→AH) (en:Ending) (w':World):Prop :=
 ∃ A c S,en=.returned (.slice A (2 ^ d) c)∧LnS 41 w.heap.size w' (.slice A (2 ^ d) c) S∧PRS w' n (crb k d) S (prt n d v)∧Below w.heap.size w w'
theorem rmany14 {A:Option Addr} {n c k d:Nat} {M:List HV} {v:Nat→AH} (hL:LnH 96 0 w (.slice A n c) M) (hE:EachH RH w M (li n v) k) (hn:M.length=n) (h2:2≤n) (h4:n≤4) (hd:d≤3) (hk:k≤12) :
 Calls Tryz.prog 24 #[.slice A n c,.int .i64 (d:Int)] w (GivesParts w n k d v):=by
 have HB:Hid (2≤n∧n≤4∧k≤12∧d≤3):=⟨h2,h4,hk,hd⟩
 have HL:=Lib.hid hL;have HE:=Lib.hid hE;have HN:=Lib.hid hn;clear h2 h4 hk hd hL hE hn
 go_enter Tryz.func24,Tryz.ntmps24
 go_upto_region 3 with (fail)
 generalize hW:(w.alloc (Obj.cells #[.slice A n c] 41))=W
 have hb:Below w.heap.size w W:=by subst hW;exact (Below.refl _ _).alloc (Nat.le_refl _) _
 have hl:LnS 41 w.heap.size W (.slice (some ⟨w.heap.size,0,none⟩) 1 1) [⟨A,n,c⟩]:=by subst hW;exact LnS.lit w [⟨A,n,c⟩] (Nat.le_refl _) (by simp)
 have hP:PRS W n (crb k 0) [⟨A,n,c⟩] (prt n 0 v):=⟨rfl,fun j s u h1 h2=>by
  match j,h1,h2 with
  | 0,h1,h2 =>
    cases h1;cases h2
    exact ⟨rfl,M,HL.out.below hb,HE.out.belowJ hb,HN.out⟩
  | j+1,h1,h2=>cases h1⟩
 clear hW HL HE HN;have HP0:=Lib.hid hP;have HL0:=Lib.hid hl;have HB0:=Lib.hid hb;clear hP hl hb
 go_wp2_with fail
 go_loopg [5,6] d (fun gk ox ix wr=>∃ (i N:Nat) (A':Option Addr) (c':Nat) (S:List SLV),Hid (gk+i=d)∧ix=.int .i64 (i:Int)∧ox=.slice A' N c'∧Hid (N=2 ^ i)∧Hid (LnS 41 w.heap.size wr (.slice A' N c') S)∧Hid (S.length=N)∧Hid (PRS wr n (crb k i) S (prt n i v))∧Hid (Below w.heap.size w wr))
 case atStart=>exact ⟨0,1,_,_,_,Nat.add_zero _,rfl,rfl,rfl,HL0,rfl,HP0,HB0⟩
 case round =>
  clear HL0 HP0 HB0
  obtain ⟨i,N,A1,c1,S,HGK,rfl,rfl,HNi,HL,HSN,HP,HBW⟩:=hrel
  by_cases hid:i < d
  · have HID:=Lib.hid hid
    have hlt:(i:Int) < (d:Int):=by omega
    have hwi:IntKind.i64.wrap ((i:Int)+1)=(i:Int)+1:=IntWalk.i64_in _ (by have:=HB.out;omega)
    have HN8:Hid (N≤4):=by
     show _≤_
     rw [HNi.out]
     have h3:2 ^ i≤2 ^ 2:=Nat.pow_le_pow_right (by decide) (by have:=HB.out;omega)
     exact h3
    have hck:crb k i≤1300:=by
     have:=HB.out
     rcases (show i=0 ∨ i=1 ∨ i=2 by omega) with h | h | h <;> rw [h] <;> simp only [crb] <;> omega
    have HCK:=Lib.hid hck;clear hid hck
    go_wp2_with fail
    obtain ⟨W5,hW5⟩:∃ W5,W5=wr:=⟨_,rfl⟩
    subst hW5
    have hb5:Below W5.heap.size W5 W5:=Below.refl _ _
    go_loopg [7,8] N (fun gk nx ix wr=>∃ (m:Nat) (S2:List SLV),Hid (gk+m=N)∧ix=.int .i64 (m:Int)∧Hid (LnS 41 W5.heap.size wr nx S2)∧Hid (PRS wr n (crb k (i+1)) S2 (((prt n i v).take m).flatMap (fun x=>[lf x,rg n x])))∧Below W5.heap.size W5 wr)
    case atStart=>exact ⟨0,[],Nat.add_zero _,rfl,LnS.nil _ _ _,⟨rfl,fun j s u h=>by cases h⟩,hb5⟩
    case round =>
     clear hb5
     obtain ⟨m,S2,HGM,rfl,HT,HQ,hB⟩:=hrel
     by_cases hmn:m < N
     · have HMN:=Lib.hid hmn
       have hltm:(m:Int) < (N:Int):=by omega
       have hwm:IntKind.i64.wrap ((m:Int)+1)=(m:Int)+1:=IntWalk.i64_in _ (by have:=HN8.out;omega)
       obtain ⟨s,hs⟩:∃ s,S[m]?=some s:=⟨_,List.getElem?_eq_getElem (by rw [HSN.out];exact hmn)⟩
       obtain ⟨u,hu⟩:∃ u,(prt n i v)[m]?=some u:=⟨_,List.getElem?_eq_getElem (by rw [prt_length,← HNi.out];exact hmn)⟩
       obtain ⟨hsn,MM,a0,e0,l0⟩:=HP.out.2 m s u hs hu
       obtain ⟨g0,o0,i0,_,c0⟩:=(HL.out.sv.below hB).slj hs
       have hixa:∀ w',(Instr.indexAt 70 (.slice A1 N c1) (.int .i64 (m:Int))).run Tryz.prog w'=.ok (.pointer (some ⟨g0,o0,none⟩)) w':=fun w'=>i0 N c1 w' hmn
       obtain ⟨sA,sn,sc⟩:=s
       obtain rfl:sn=n:=hsn
       have HSV:Hid (SV wr sA (hvs MM)):=(LnH.sv (n:=sn) (c:=sc) a0).below hB
       have HEM:Hid (EachH RH wr MM (li sn u) (crb k i)):=e0.belowJ hB
       have HML:=Lib.hid l0;have HU:=Lib.hid hu
       have hcell:wr.cell? ⟨g0,o0,none⟩=some (.slice sA sn sc):=c0
       clear hs hu a0 e0 l0 i0 c0 hmn
       go_upto_region 10 with (first
        | (go_at_call 23;(with_reducible refine (rcut14 HSV.out HEM.out HML.out HB.out.1 HB.out.2.1 HCK.out).mono ?_);rintro e w_c ⟨vL,vR,ML,MR,rfl,lL,lR,eL,eR,hh⟩
           obtain ⟨AL,cL,rfl,_,_⟩:=lL.form
           obtain ⟨AR,cR,rfl,_,_⟩:=lR.form
           have hnL:ML.length=sn:=by rw [eL.1,li_length]
           have hnR:MR.length=sn:=by rw [eR.1,li_length]
           rw [hnL] at lL;rw [hnR] at lR
           rw [hnL,hnR]
           replace HT:=Lib.hid (HT.out.below hh)
           replace HQ:=Lib.hid (HQ.out.below hh)
           replace hB:=bend hB hh))
       have hal:Below w_c.heap.size w_c (w_c.alloc (Obj.cells #[.slice AL sn cL,.slice AR sn cR] 68)):=(Below.refl _ _).alloc (Nat.le_refl _) _
       have XT:BT (w_c.alloc (Obj.cells #[.slice AL sn cL,.slice AR sn cR] 68)) w_c.heap.size (.slice AL sn cL) (.slice AR sn cR):=heap_alloc_new w_c _
       replace lL:=lL.below hal;replace lR:=lR.below hal;replace eL:=eL.belowJ hal;replace eR:=eR.belowJ hal
       replace HT:=Lib.hid (HT.out.below hal)
       replace HQ:=Lib.hid (HQ.out.below hal)
       replace hB:=bend hB hal;clear hal hcell hixa HSV HEM hh
       generalize (w_c.alloc (Obj.cells #[.slice AL sn cL,.slice AR sn cR] 68))=W6 at *
       obtain ⟨x0,x1⟩:=XT.all
       have hal:Below W6.heap.size W6 (W6.alloc (Obj.cells #[.slice AL sn cL,.slice AR sn cR] 41)):=(Below.refl _ _).alloc (Nat.le_refl _) _
       have hlit:LnS 41 0 (W6.alloc (Obj.cells #[.slice AL sn cL,.slice AR sn cR] 41)) (.slice (some ⟨W6.heap.size,0,none⟩) 2 2) [⟨AL,sn,cL⟩,⟨AR,sn,cR⟩]:=(LnS.lit W6 [⟨AL,sn,cL⟩,⟨AR,sn,cR⟩] (Nat.zero_le _) (by simp))
       have HSL:Hid (S2.length≤100):=by
        have h1:=HQ.out.1
        have h5:(((prt sn i v).take m).flatMap (fun x=>[lf x,rg sn x])).length=2*((prt sn i v).take m).length:=by
         generalize (prt sn i v).take m=l
         induction l with
         | nil=>rfl
         | cons a l ih=>simp only [List.flatMap_cons,List.length_append,List.length_cons,List.length_nil,ih];omega
        have h6:((prt sn i v).take m).length≤m:=by rw [List.length_take];exact Nat.min_le_left _ _
        show _≤_
        have:=HN8.out
        have:=HMN.out
        omega
       go_wp2_with (at_builtin;refine wpList_appT Tryz.underlying70 info_slj rfl (.tmp 28) (.tmp 33) rfl (by simp [Act.eval]) (by simp [Act.eval]) (HT.out.below hal) hlit (by simp) (Nat.le_trans hB.size hal.size) (by have:=HSL.out;simp;omega) ?_;intro v3 w3 hn3 hst3)
       have hP6:PRS (W6.alloc (Obj.cells #[.slice AL sn cL,.slice AR sn cR] 41)) sn (crb k (i+1)) S2 (((prt sn i v).take m).flatMap (fun x=>[lf x,rg sn x])):=HQ.out.below hal
       have hP7:PRS w3 sn (crb k (i+1)) S2 (((prt sn i v).take m).flatMap (fun x=>[lf x,rg sn x])):=by
        rcases hst3 with q | ⟨g,cs,Z,_,ho⟩
        · exact hP6.below q
        · exact hP6.box Z (by decide) ho
       have stL:LnH 96 0 w3 (.slice AL sn cL) ML∧LnH 96 0 w3 (.slice AR sn cR) MR:=by
        rcases hst3 with q | ⟨g,cs,Z,_,ho⟩
        · exact ⟨((lL.below hal).below q).base_le (Nat.zero_le _),((lR.below hal).below q).base_le (Nat.zero_le _)⟩
        · exact ⟨((lL.below hal).byType Z (by decide) ho).base_le (Nat.zero_le _),((lR.below hal).byType Z (by decide) ho).base_le (Nat.zero_le _)⟩
       have stE:EachH RH w3 ML (li sn (lf u)) (crb k (i+1))∧EachH RH w3 MR (li sn (rg sn u)) (crb k (i+1)):=by
        rcases hst3 with q | ⟨g,cs,Z,_,ho⟩
        · exact ⟨(eL.belowJ hal).belowJ q,(eR.belowJ hal).belowJ q⟩
        · exact ⟨(eL.belowJ hal).imp fun _ _ hp=>hp.box Z ho,(eR.belowJ hal).imp fun _ _ hp=>hp.box Z ho⟩
       have hP8:=(hP7.more (s:=⟨AL,sn,cL⟩) rfl stL.1 stE.1 hnL).more (s:=⟨AR,sn,cR⟩) rfl stL.2 stE.2 hnR
       have HP8:Hid (PRS w3 sn (crb k (i+1)) (S2 ++ [⟨AL,sn,cL⟩,⟨AR,sn,cR⟩]) (((prt sn i v).take (m+1)).flatMap (fun x=>[lf x,rg sn x]))):=by
        obtain ⟨hm,hv⟩:=List.getElem?_eq_some_iff.1 HU.out
        show PRS _ _ _ _ _
        rw [List.take_succ_eq_append_getElem hm,hv,List.flatMap_append]
        have h:=hP8
        rw [List.append_assoc,List.append_assoc] at h
        exact h
       have HT8:=Lib.hid hn3
       have hB8:Below W5.heap.size W5 w3:=by
        rcases hst3 with q | ⟨g,cs,Z,hg,ho⟩
        · exact bend (bend hB hal) q
        · exact Below.only (bend hB hal) hg (bend hB hal).size ho
       clear hP6 hP7 hP8 stL stE hst3 hn3 hlit hal x0 x1 XT lL lR eL eR HT HQ hB HSL
       go_roundg (gk - 1)
       case measure=>have:=HGM.out;have:=HMN.out;omega
       case rel=>exact ⟨m+1,_,by have:=HGM.out;have:=HMN.out;show _=_;omega,by go_num,HT8,HP8,hB8⟩
     · have HEM:Hid (m=N):=by have:=HGM.out;show _=_;omega
       have hltm:¬ (m:Int) < (N:Int):=by omega
       have hP2:PRS wr n (crb k (i+1)) S2 (prt n (i+1) v):=by
        have h:=HQ.out
        rw [List.take_of_length_le (by rw [prt_length,HEM.out,HNi.out];exact Nat.le_refl _)] at h
        rw [prt_step]
        exact h
       have hS2:S2.length=2 ^ (i+1):=by rw [hP2.1,prt_length]
       obtain ⟨A3,c3,rfl,_,_⟩:=HT.out.form
       have hT2:=HT.out;rw [hS2] at hT2;rw [hS2]
       have HT3:=Lib.hid (hT2.base_le HBW.out.size)
       have HP3:=Lib.hid hP2
       have HB3:=Lib.hid (bend HBW.out hB)
       have HS3:=Lib.hid hS2
       generalize hN2:2 ^ (i+1)=N2 at *
       have HN2:Hid (N2=2 ^ (i+1)):=hN2.symm
       clear hmn HQ HT hB hP2 hT2 HL HP HBW hS2 hN2
       go_wp2_with fail
       go_roundg (d - i - 1)
       case measure=>have:=HGK.out;have:=HID.out;omega
       case rel=>exact ⟨i+1,N2,A3,c3,S2,by have:=HGK.out;have:=HID.out;show _=_;omega,by go_num,rfl,HN2,HT3,HS3,HP3,HB3⟩
  · have HEQ:Hid (i=d):=by have:=HGK.out;show _=_;omega
    have hlt:¬ (i:Int) < (d:Int):=by omega
    clear hid
    go_wp2_with fail
    (try rw [Exit.noGoto_ret])
    go_ret;have hN:=HNi.out;have hP:=HP.out;have hL:=HL.out
    rw [HEQ.out] at hN hP
    rw [hN] at hL;rw [hN]
    exact ⟨A1,c1,S,rfl,hL,hP,HBW.out⟩
end
section
open Go Go.RowKit
attribute [local go_sem ↓] open_LVH open_STH open_LVJ open_STJ
theorem homs_same {A B:Option Addr} {n c c2 k k2:Nat} {L M:List HV} {V:List AH} (hL:SV w A (hvs L)) (hE:EachH HG w L V k) (hM:SV w B (hvs M)) (hF:EachH HG w M V k2) (hn:L.length=n) (hm:n≤1000) (hk:k≤100000) :
 Calls Tryz.prog 15 #[.slice A n c,.slice B n c2] w fun e w'=>e=.returned (.bool true)∧Below w.heap.size w w':=by
 have HN:=Lib.hid hn
 have HMl:Hid (M.length=n):=hF.1.trans (hE.1.symm.trans hn)
 have HL9:=Lib.hid hL;have E9:=Lib.hid hE;have HM9:=Lib.hid hM;have F9:=Lib.hid hF;clear hL hE hM hF hn
 go_enter Tryz.func15,Tryz.ntmps15
 go_wp2_with fail
 go_loopg [5] n (fun gk ix wr=>∃ (m:Nat),Hid (gk+m=n)∧ix=.int .i64 (m:Int)∧Below w.heap.size w wr)
 case atStart=>exact ⟨0,Nat.add_zero _,rfl,Below.refl _ _⟩
 case round =>
  obtain ⟨m,HG9,rfl,hb⟩:=hrel
  by_cases hmn:m < n
  · obtain ⟨P,u,hP1,hu1,p⟩:=(EachH.belowG E9.out hb).at_ (i:=m) (by rw [HN.out];exact hmn)
    obtain ⟨P2,u2,hP2,hu2,q⟩:=(EachH.belowG F9.out hb).at_ (i:=m) (by rw [HMl.out];exact hmn)
    obtain rfl:u=u2:=by rw [hu1] at hu2;exact Option.some.inj hu2
    obtain ⟨g0,o0,hix0,EP,_⟩:=(HL9.out.below hb).ht hP1
    obtain ⟨g1,o1,hix1,EQ,_⟩:=(HM9.out.below hb).ht hP2
    have hixa:∀ w',(Instr.indexAt 37 (.slice A n c) (.int .i64 (m:Int))).run Tryz.prog w'=.ok (.pointer (some ⟨g0,o0,none⟩)) w':=fun w'=>hix0 n c w' hmn
    have hixb:∀ w',(Instr.indexAt 37 (.slice B n c2) (.int .i64 (m:Int))).run Tryz.prog w'=.ok (.pointer (some ⟨g1,o1,none⟩)) w':=fun w'=>hix1 n c2 w' hmn
    have hlt:(m:Int) < (n:Int):=by omega
    have hwr:IntKind.i64.wrap ((m:Int)+1)=(m:Int)+1:=IntWalk.i64_in _ (by omega)
    have HMN:=Lib.hid hmn;clear hP1 hP2 hu1 hu2 hix0 hix1 hmn
    go_upto_region 6 with (fail)
    replace p:=p.below (Below.refl _ _).drew
    replace q:=q.below (Below.refl _ _).drew
    replace EP:=EP.below (Below.refl _ _).drew
    replace EQ:=EQ.below (Below.refl _ _).drew
    replace hb:=hb.drew
    refine wp_region_held_drew (S:=(fun w'=>w'.cell? ⟨g0,o0,none⟩=some (.bool P.x.s)∧w'.cell? ⟨g0,o0+1,none⟩=some (.slice P.x.A P.x.n P.x.c)∧w'.cell? ⟨g0,o0+2,none⟩=some (.slice P.x.B P.x.m P.x.d)∧w'.cell? ⟨g0,o0+3,none⟩=some (.bool P.y.s)∧w'.cell? ⟨g0,o0+4,none⟩=some (.slice P.y.A P.y.n P.y.c)∧w'.cell? ⟨g0,o0+5,none⟩=some (.slice P.y.B P.y.m P.y.d)∧w'.cell? ⟨g0,o0+6,none⟩=some (.bool P.w.s)∧w'.cell? ⟨g0,o0+7,none⟩=some (.slice P.w.A P.w.n P.w.c)∧w'.cell? ⟨g0,o0+8,none⟩=some (.slice P.w.B P.w.m P.w.d)∧w'.cell? ⟨g1,o1,none⟩=some (.bool P2.x.s)∧w'.cell? ⟨g1,o1+1,none⟩=some (.slice P2.x.A P2.x.n P2.x.c)∧w'.cell? ⟨g1,o1+2,none⟩=some (.slice P2.x.B P2.x.m P2.x.d)∧w'.cell? ⟨g1,o1+3,none⟩=some (.bool P2.y.s)∧w'.cell? ⟨g1,o1+4,none⟩=some (.slice P2.y.A P2.y.n P2.y.c)∧w'.cell? ⟨g1,o1+5,none⟩=some (.slice P2.y.B P2.y.m P2.y.d)∧w'.cell? ⟨g1,o1+6,none⟩=some (.bool P2.w.s)∧w'.cell? ⟨g1,o1+7,none⟩=some (.slice P2.w.A P2.w.n P2.w.c)∧w'.cell? ⟨g1,o1+8,none⟩=some (.slice P2.w.B P2.w.m P2.w.d))) (by kernel_rfl) (by with_reducible exact ⟨EP.c0,EP.c1,EP.c2,EP.c3,EP.c4,EP.c5,EP.c6,EP.c7,EP.c8,EQ.c0,EQ.c1,EQ.c2,EQ.c3,EQ.c4,EQ.c5,EQ.c6,EQ.c7,EQ.c8⟩) (fun hHeld=>?_)
    refine wpAnyH_take (i:=0) (oi:=⟨some 17,.move (.tmp 0),37, "keep.go:43",#[],none⟩) (v:=?_) rfl (by kernel_rfl) (by kernel_rfl) (by kernel_rfl) (fun _ _ _ h=>h) (Or.inl ⟨by rfl,?_⟩) hHeld ?_
    rotate_left
    · (intro w hSw;(try dsimp only at hSw);go_simp;try with_reducible rfl)
    simp only [Act.put,List.setIfInBounds_toArray,List.set_cons_zero,List.set_cons_succ]
    refine wpAnyH_take (i:=1) (oi:=⟨some 18,.move (.tmp 5),3, "keep.go:43",#[],none⟩) (v:=?_) rfl (by kernel_rfl) (by kernel_rfl) (by kernel_rfl) (fun _ _ _ h=>h) (Or.inl ⟨by rfl,?_⟩) hHeld ?_
    rotate_left
    · (intro w hSw;(try dsimp only at hSw);go_simp;try with_reducible rfl)
    simp only [Act.put,List.setIfInBounds_toArray,List.set_cons_zero,List.set_cons_succ]
    refine wpAnyH_take (i:=2) (oi:=⟨some 19,.indexAddr 37 (.tmp 17) (.tmp 18),0, "keep.go:43",#[⟨0,.data⟩,⟨1,.data⟩],none⟩) (v:=?_) rfl (by kernel_rfl) (by kernel_rfl) (by kernel_rfl) (fun _ _ _ h=>h) (Or.inl ⟨by rfl,?_⟩) hHeld ?_
    rotate_left
    · (intro w hSw;(try dsimp only at hSw);go_simp;try with_reducible rfl)
    simp only [Act.put,List.setIfInBounds_toArray,List.set_cons_zero,List.set_cons_succ]
    refine wpAnyH_take (i:=3) (oi:=⟨some 20,.fieldAddr 79 (.tmp 19) 0,0, "keep.go:43",#[⟨2,.data⟩],none⟩) (v:=?_) rfl (by kernel_rfl) (by kernel_rfl) (by kernel_rfl) (fun _ _ _ h=>h) (Or.inl ⟨by rfl,?_⟩) hHeld ?_
    rotate_left
    · (intro w hSw;(try dsimp only at hSw);go_simp;try with_reducible rfl)
    simp only [Act.put,List.setIfInBounds_toArray,List.set_cons_zero,List.set_cons_succ]
    refine wpAnyH_take (i:=4) (oi:=⟨some 21,.load 26 (.tmp 20),26, "keep.go:43",#[⟨3,.data⟩],none⟩) (v:=?_) rfl (by kernel_rfl) (by kernel_rfl) (by kernel_rfl) (fun _ _ _ h=>h) (Or.inl ⟨by rfl,?_⟩) hHeld ?_
    rotate_left
    · (intro w hSw;(try dsimp only at hSw);go_simp;try with_reducible rfl)
    simp only [Act.put,List.setIfInBounds_toArray,List.set_cons_zero,List.set_cons_succ]
    refine wpAnyH_take (i:=5) (oi:=⟨some 22,.move (.tmp 1),37, "keep.go:43",#[],none⟩) (v:=?_) rfl (by kernel_rfl) (by kernel_rfl) (by kernel_rfl) (fun _ _ _ h=>h) (Or.inl ⟨by rfl,?_⟩) hHeld ?_
    rotate_left
    · (intro w hSw;(try dsimp only at hSw);go_simp;try with_reducible rfl)
    simp only [Act.put,List.setIfInBounds_toArray,List.set_cons_zero,List.set_cons_succ]
    refine wpAnyH_take (i:=6) (oi:=⟨some 23,.move (.tmp 5),3, "keep.go:43",#[],none⟩) (v:=?_) rfl (by kernel_rfl) (by kernel_rfl) (by kernel_rfl) (fun _ _ _ h=>h) (Or.inl ⟨by rfl,?_⟩) hHeld ?_
    rotate_left
    · (intro w hSw;(try dsimp only at hSw);go_simp;try with_reducible rfl)
    simp only [Act.put,List.setIfInBounds_toArray,List.set_cons_zero,List.set_cons_succ]
    refine wpAnyH_take (i:=7) (oi:=⟨some 24,.indexAddr 37 (.tmp 22) (.tmp 23),0, "keep.go:43",#[⟨5,.data⟩,⟨6,.data⟩],none⟩) (v:=?_) rfl (by kernel_rfl) (by kernel_rfl) (by kernel_rfl) (fun _ _ _ h=>h) (Or.inl ⟨by rfl,?_⟩) hHeld ?_
    rotate_left
    · (intro w hSw;(try dsimp only at hSw);go_simp;try with_reducible rfl)
    simp only [Act.put,List.setIfInBounds_toArray,List.set_cons_zero,List.set_cons_succ]
    refine wpAnyH_take (i:=8) (oi:=⟨some 25,.fieldAddr 79 (.tmp 24) 0,0, "keep.go:43",#[⟨7,.data⟩],none⟩) (v:=?_) rfl (by kernel_rfl) (by kernel_rfl) (by kernel_rfl) (fun _ _ _ h=>h) (Or.inl ⟨by rfl,?_⟩) hHeld ?_
    rotate_left
    · (intro w hSw;(try dsimp only at hSw);go_simp;try with_reducible rfl)
    simp only [Act.put,List.setIfInBounds_toArray,List.set_cons_zero,List.set_cons_succ]
    refine wpAnyH_take (i:=9) (oi:=⟨some 26,.load 26 (.tmp 25),26, "keep.go:43",#[⟨8,.data⟩],none⟩) (v:=?_) rfl (by kernel_rfl) (by kernel_rfl) (by kernel_rfl) (fun _ _ _ h=>h) (Or.inl ⟨by rfl,?_⟩) hHeld ?_
    rotate_left
    · (intro w hSw;(try dsimp only at hSw);go_simp;try with_reducible rfl)
    simp only [Act.put,List.setIfInBounds_toArray,List.set_cons_zero,List.set_cons_succ]
    refine wpAnyH_ready (rs:=[10]) (by kernel_rfl) (by simp) ?_
    refine AllReadyH.cons (o:=⟨some 27,.call ⟨.value (.func 47),#[.tmp 21,.tmp 26],#[26,26]⟩,4, "keep.go:43",#[⟨4,.data⟩,⟨9,.data⟩],none⟩) rfl (fun K1 hK1=>?_) AllReadyH.nil
    go_simp
    first
    | (go_at_call 47;(with_reducible refine (rats_same p.qx q.qx hk).mono ?_);rintro e w_z ⟨rfl,hh⟩
       (try replace p:=p.below hh);(try replace q:=q.below hh);(try replace EP:=EP.below hh);(try replace EQ:=EQ.below hh);replace hb:=bend hb hh)
    | (go_at_call 47;(with_reducible refine (rats_same p.qy q.qy hk).mono ?_);rintro e w_z ⟨rfl,hh⟩
       (try replace p:=p.below hh);(try replace q:=q.below hh);(try replace EP:=EP.below hh);(try replace EQ:=EQ.below hh);replace hb:=bend hb hh)
    | (go_at_call 47;(with_reducible refine (rats_same p.qw q.qw hk).mono ?_);rintro e w_z ⟨rfl,hh⟩
       (try replace p:=p.below hh);(try replace q:=q.below hh);(try replace EP:=EP.below hh);(try replace EQ:=EQ.below hh);replace hb:=bend hb hh)
    refine hK1.out _ _ (by with_reducible exact ⟨EP.c0,EP.c1,EP.c2,EP.c3,EP.c4,EP.c5,EP.c6,EP.c7,EP.c8,EQ.c0,EQ.c1,EQ.c2,EQ.c3,EQ.c4,EQ.c5,EQ.c6,EQ.c7,EQ.c8⟩) (fun hHeld=>?_)
    clear hK1 K1
    refine wpAnyH_take (i:=11) (oi:=⟨some 28,.unOp UnOp.not 4 (.tmp 27),4, "keep.go:43",#[⟨10,.data⟩],none⟩) (v:=?_) rfl (by kernel_rfl) (by kernel_rfl) (by kernel_rfl) (fun _ _ _ h=>h) (Or.inl ⟨by rfl,?_⟩) hHeld ?_
    rotate_left
    · (intro w hSw;(try dsimp only at hSw);go_simp;try with_reducible rfl)
    simp only [Act.put,List.setIfInBounds_toArray,List.set_cons_zero,List.set_cons_succ]
    refine wpAnyH_take (i:=12) (oi:=⟨some 29,.move (.tmp 28),4, "keep.go:43",#[⟨11,.data⟩,⟨10,.chain⟩],none⟩) (v:=?_) rfl (by kernel_rfl) (by kernel_rfl) (by kernel_rfl) (fun _ _ _ h=>h) (Or.inl ⟨by rfl,?_⟩) hHeld ?_
    rotate_left
    · (intro w hSw;(try dsimp only at hSw);go_simp;try with_reducible rfl)
    simp only [Act.put,List.setIfInBounds_toArray,List.set_cons_zero,List.set_cons_succ]
    refine wpAnyH_take (i:=13) (oi:=⟨some 30,.move (.tmp 0),37, "keep.go:43",#[⟨12,.guard⟩],some (12,false)⟩) (v:=?_) rfl (by kernel_rfl) (by kernel_rfl) (by kernel_rfl) (fun _ _ _ h=>h) (Or.inl ⟨by rfl,?_⟩) hHeld ?_
    rotate_left
    · (intro w hSw;(try dsimp only at hSw);go_simp;try with_reducible rfl)
    simp only [Act.put,List.setIfInBounds_toArray,List.set_cons_zero,List.set_cons_succ]
    refine wpAnyH_take (i:=14) (oi:=⟨some 31,.move (.tmp 5),3, "keep.go:43",#[⟨12,.guard⟩],some (12,false)⟩) (v:=?_) rfl (by kernel_rfl) (by kernel_rfl) (by kernel_rfl) (fun _ _ _ h=>h) (Or.inl ⟨by rfl,?_⟩) hHeld ?_
    rotate_left
    · (intro w hSw;(try dsimp only at hSw);go_simp;try with_reducible rfl)
    simp only [Act.put,List.setIfInBounds_toArray,List.set_cons_zero,List.set_cons_succ]
    refine wpAnyH_take (i:=15) (oi:=⟨some 32,.indexAddr 37 (.tmp 30) (.tmp 31),0, "keep.go:43",#[⟨13,.data⟩,⟨14,.data⟩,⟨12,.guard⟩],some (12,false)⟩) (v:=?_) rfl (by kernel_rfl) (by kernel_rfl) (by kernel_rfl) (fun _ _ _ h=>h) (Or.inl ⟨by rfl,?_⟩) hHeld ?_
    rotate_left
    · (intro w hSw;(try dsimp only at hSw);go_simp;try with_reducible rfl)
    simp only [Act.put,List.setIfInBounds_toArray,List.set_cons_zero,List.set_cons_succ]
    refine wpAnyH_take (i:=16) (oi:=⟨some 33,.fieldAddr 79 (.tmp 32) 1,0, "keep.go:43",#[⟨15,.data⟩,⟨12,.guard⟩],some (12,false)⟩) (v:=?_) rfl (by kernel_rfl) (by kernel_rfl) (by kernel_rfl) (fun _ _ _ h=>h) (Or.inl ⟨by rfl,?_⟩) hHeld ?_
    rotate_left
    · (intro w hSw;(try dsimp only at hSw);go_simp;try with_reducible rfl)
    simp only [Act.put,List.setIfInBounds_toArray,List.set_cons_zero,List.set_cons_succ]
    refine wpAnyH_take (i:=17) (oi:=⟨some 34,.load 26 (.tmp 33),26, "keep.go:43",#[⟨16,.data⟩,⟨12,.guard⟩],some (12,false)⟩) (v:=?_) rfl (by kernel_rfl) (by kernel_rfl) (by kernel_rfl) (fun _ _ _ h=>h) (Or.inl ⟨by rfl,?_⟩) hHeld ?_
    rotate_left
    · (intro w hSw;(try dsimp only at hSw);go_simp;try with_reducible rfl)
    simp only [Act.put,List.setIfInBounds_toArray,List.set_cons_zero,List.set_cons_succ]
    refine wpAnyH_take (i:=18) (oi:=⟨some 35,.move (.tmp 1),37, "keep.go:43",#[⟨12,.guard⟩],some (12,false)⟩) (v:=?_) rfl (by kernel_rfl) (by kernel_rfl) (by kernel_rfl) (fun _ _ _ h=>h) (Or.inl ⟨by rfl,?_⟩) hHeld ?_
    rotate_left
    · (intro w hSw;(try dsimp only at hSw);go_simp;try with_reducible rfl)
    simp only [Act.put,List.setIfInBounds_toArray,List.set_cons_zero,List.set_cons_succ]
    refine wpAnyH_take (i:=19) (oi:=⟨some 36,.move (.tmp 5),3, "keep.go:43",#[⟨12,.guard⟩],some (12,false)⟩) (v:=?_) rfl (by kernel_rfl) (by kernel_rfl) (by kernel_rfl) (fun _ _ _ h=>h) (Or.inl ⟨by rfl,?_⟩) hHeld ?_
    rotate_left
    · (intro w hSw;(try dsimp only at hSw);go_simp;try with_reducible rfl)
    simp only [Act.put,List.setIfInBounds_toArray,List.set_cons_zero,List.set_cons_succ]
    refine wpAnyH_take (i:=20) (oi:=⟨some 37,.indexAddr 37 (.tmp 35) (.tmp 36),0, "keep.go:43",#[⟨18,.data⟩,⟨19,.data⟩,⟨12,.guard⟩],some (12,false)⟩) (v:=?_) rfl (by kernel_rfl) (by kernel_rfl) (by kernel_rfl) (fun _ _ _ h=>h) (Or.inl ⟨by rfl,?_⟩) hHeld ?_
    rotate_left
    · (intro w hSw;(try dsimp only at hSw);go_simp;try with_reducible rfl)
    simp only [Act.put,List.setIfInBounds_toArray,List.set_cons_zero,List.set_cons_succ]
    refine wpAnyH_take (i:=21) (oi:=⟨some 38,.fieldAddr 79 (.tmp 37) 1,0, "keep.go:43",#[⟨20,.data⟩,⟨12,.guard⟩],some (12,false)⟩) (v:=?_) rfl (by kernel_rfl) (by kernel_rfl) (by kernel_rfl) (fun _ _ _ h=>h) (Or.inl ⟨by rfl,?_⟩) hHeld ?_
    rotate_left
    · (intro w hSw;(try dsimp only at hSw);go_simp;try with_reducible rfl)
    simp only [Act.put,List.setIfInBounds_toArray,List.set_cons_zero,List.set_cons_succ]
    refine wpAnyH_take (i:=22) (oi:=⟨some 39,.load 26 (.tmp 38),26, "keep.go:43",#[⟨21,.data⟩,⟨12,.guard⟩],some (12,false)⟩) (v:=?_) rfl (by kernel_rfl) (by kernel_rfl) (by kernel_rfl) (fun _ _ _ h=>h) (Or.inl ⟨by rfl,?_⟩) hHeld ?_
    rotate_left
    · (intro w hSw;(try dsimp only at hSw);go_simp;try with_reducible rfl)
    simp only [Act.put,List.setIfInBounds_toArray,List.set_cons_zero,List.set_cons_succ]
    refine wpAnyH_ready (rs:=[23]) (by kernel_rfl) (by simp) ?_
    refine AllReadyH.cons (o:=⟨some 40,.call ⟨.value (.func 47),#[.tmp 34,.tmp 39],#[26,26]⟩,4, "keep.go:43",#[⟨17,.data⟩,⟨22,.data⟩,⟨12,.chain⟩,⟨12,.guard⟩],some (12,false)⟩) rfl (fun K1 hK1=>?_) AllReadyH.nil
    go_simp
    first
    | (go_at_call 47;(with_reducible refine (rats_same p.qx q.qx hk).mono ?_);rintro e w_z ⟨rfl,hh⟩
       (try replace p:=p.below hh);(try replace q:=q.below hh);(try replace EP:=EP.below hh);(try replace EQ:=EQ.below hh);replace hb:=bend hb hh)
    | (go_at_call 47;(with_reducible refine (rats_same p.qy q.qy hk).mono ?_);rintro e w_z ⟨rfl,hh⟩
       (try replace p:=p.below hh);(try replace q:=q.below hh);(try replace EP:=EP.below hh);(try replace EQ:=EQ.below hh);replace hb:=bend hb hh)
    | (go_at_call 47;(with_reducible refine (rats_same p.qw q.qw hk).mono ?_);rintro e w_z ⟨rfl,hh⟩
       (try replace p:=p.below hh);(try replace q:=q.below hh);(try replace EP:=EP.below hh);(try replace EQ:=EQ.below hh);replace hb:=bend hb hh)
    refine hK1.out _ _ (by with_reducible exact ⟨EP.c0,EP.c1,EP.c2,EP.c3,EP.c4,EP.c5,EP.c6,EP.c7,EP.c8,EQ.c0,EQ.c1,EQ.c2,EQ.c3,EQ.c4,EQ.c5,EQ.c6,EQ.c7,EQ.c8⟩) (fun hHeld=>?_)
    clear hK1 K1
    refine wpAnyH_take (i:=24) (oi:=⟨some 41,.unOp UnOp.not 4 (.tmp 40),4, "keep.go:43",#[⟨23,.data⟩,⟨12,.guard⟩],some (12,false)⟩) (v:=?_) rfl (by kernel_rfl) (by kernel_rfl) (by kernel_rfl) (fun _ _ _ h=>h) (Or.inl ⟨by rfl,?_⟩) hHeld ?_
    rotate_left
    · (intro w hSw;(try dsimp only at hSw);go_simp;try with_reducible rfl)
    simp only [Act.put,List.setIfInBounds_toArray,List.set_cons_zero,List.set_cons_succ]
    refine wpAnyH_take (i:=25) (oi:=⟨some 42,.pick (.tmp 29) (.const (Value.bool true)) (.tmp 41),4, "keep.go:43",#[⟨12,.data⟩,⟨24,.data⟩],none⟩) (v:=?_) rfl (by kernel_rfl) (by kernel_rfl) (by kernel_rfl) (fun _ _ _ h=>h) (Or.inl ⟨by rfl,?_⟩) hHeld ?_
    rotate_left
    · (intro w hSw;(try dsimp only at hSw);go_simp;try with_reducible rfl)
    simp only [Act.put,List.setIfInBounds_toArray,List.set_cons_zero,List.set_cons_succ]
    refine wpAnyH_take (i:=26) (oi:=⟨some 43,.move (.tmp 42),4, "keep.go:43",#[⟨25,.data⟩,⟨23,.chain⟩],none⟩) (v:=?_) rfl (by kernel_rfl) (by kernel_rfl) (by kernel_rfl) (fun _ _ _ h=>h) (Or.inl ⟨by rfl,?_⟩) hHeld ?_
    rotate_left
    · (intro w hSw;(try dsimp only at hSw);go_simp;try with_reducible rfl)
    simp only [Act.put,List.setIfInBounds_toArray,List.set_cons_zero,List.set_cons_succ]
    refine wpAnyH_take (i:=27) (oi:=⟨some 44,.move (.tmp 0),37, "keep.go:43",#[⟨26,.guard⟩],some (26,false)⟩) (v:=?_) rfl (by kernel_rfl) (by kernel_rfl) (by kernel_rfl) (fun _ _ _ h=>h) (Or.inl ⟨by rfl,?_⟩) hHeld ?_
    rotate_left
    · (intro w hSw;(try dsimp only at hSw);go_simp;try with_reducible rfl)
    simp only [Act.put,List.setIfInBounds_toArray,List.set_cons_zero,List.set_cons_succ]
    refine wpAnyH_take (i:=28) (oi:=⟨some 45,.move (.tmp 5),3, "keep.go:43",#[⟨26,.guard⟩],some (26,false)⟩) (v:=?_) rfl (by kernel_rfl) (by kernel_rfl) (by kernel_rfl) (fun _ _ _ h=>h) (Or.inl ⟨by rfl,?_⟩) hHeld ?_
    rotate_left
    · (intro w hSw;(try dsimp only at hSw);go_simp;try with_reducible rfl)
    simp only [Act.put,List.setIfInBounds_toArray,List.set_cons_zero,List.set_cons_succ]
    refine wpAnyH_take (i:=29) (oi:=⟨some 46,.indexAddr 37 (.tmp 44) (.tmp 45),0, "keep.go:43",#[⟨27,.data⟩,⟨28,.data⟩,⟨26,.guard⟩],some (26,false)⟩) (v:=?_) rfl (by kernel_rfl) (by kernel_rfl) (by kernel_rfl) (fun _ _ _ h=>h) (Or.inl ⟨by rfl,?_⟩) hHeld ?_
    rotate_left
    · (intro w hSw;(try dsimp only at hSw);go_simp;try with_reducible rfl)
    simp only [Act.put,List.setIfInBounds_toArray,List.set_cons_zero,List.set_cons_succ]
    refine wpAnyH_take (i:=30) (oi:=⟨some 47,.fieldAddr 79 (.tmp 46) 2,0, "keep.go:43",#[⟨29,.data⟩,⟨26,.guard⟩],some (26,false)⟩) (v:=?_) rfl (by kernel_rfl) (by kernel_rfl) (by kernel_rfl) (fun _ _ _ h=>h) (Or.inl ⟨by rfl,?_⟩) hHeld ?_
    rotate_left
    · (intro w hSw;(try dsimp only at hSw);go_simp;try with_reducible rfl)
    simp only [Act.put,List.setIfInBounds_toArray,List.set_cons_zero,List.set_cons_succ]
    refine wpAnyH_take (i:=31) (oi:=⟨some 48,.load 26 (.tmp 47),26, "keep.go:43",#[⟨30,.data⟩,⟨26,.guard⟩],some (26,false)⟩) (v:=?_) rfl (by kernel_rfl) (by kernel_rfl) (by kernel_rfl) (fun _ _ _ h=>h) (Or.inl ⟨by rfl,?_⟩) hHeld ?_
    rotate_left
    · (intro w hSw;(try dsimp only at hSw);go_simp;try with_reducible rfl)
    simp only [Act.put,List.setIfInBounds_toArray,List.set_cons_zero,List.set_cons_succ]
    refine wpAnyH_take (i:=32) (oi:=⟨some 49,.move (.tmp 1),37, "keep.go:43",#[⟨26,.guard⟩],some (26,false)⟩) (v:=?_) rfl (by kernel_rfl) (by kernel_rfl) (by kernel_rfl) (fun _ _ _ h=>h) (Or.inl ⟨by rfl,?_⟩) hHeld ?_
    rotate_left
    · (intro w hSw;(try dsimp only at hSw);go_simp;try with_reducible rfl)
    simp only [Act.put,List.setIfInBounds_toArray,List.set_cons_zero,List.set_cons_succ]
    refine wpAnyH_take (i:=33) (oi:=⟨some 50,.move (.tmp 5),3, "keep.go:43",#[⟨26,.guard⟩],some (26,false)⟩) (v:=?_) rfl (by kernel_rfl) (by kernel_rfl) (by kernel_rfl) (fun _ _ _ h=>h) (Or.inl ⟨by rfl,?_⟩) hHeld ?_
    rotate_left
    · (intro w hSw;(try dsimp only at hSw);go_simp;try with_reducible rfl)
    simp only [Act.put,List.setIfInBounds_toArray,List.set_cons_zero,List.set_cons_succ]
    refine wpAnyH_take (i:=34) (oi:=⟨some 51,.indexAddr 37 (.tmp 49) (.tmp 50),0, "keep.go:43",#[⟨32,.data⟩,⟨33,.data⟩,⟨26,.guard⟩],some (26,false)⟩) (v:=?_) rfl (by kernel_rfl) (by kernel_rfl) (by kernel_rfl) (fun _ _ _ h=>h) (Or.inl ⟨by rfl,?_⟩) hHeld ?_
    rotate_left
    · (intro w hSw;(try dsimp only at hSw);go_simp;try with_reducible rfl)
    simp only [Act.put,List.setIfInBounds_toArray,List.set_cons_zero,List.set_cons_succ]
    refine wpAnyH_take (i:=35) (oi:=⟨some 52,.fieldAddr 79 (.tmp 51) 2,0, "keep.go:43",#[⟨34,.data⟩,⟨26,.guard⟩],some (26,false)⟩) (v:=?_) rfl (by kernel_rfl) (by kernel_rfl) (by kernel_rfl) (fun _ _ _ h=>h) (Or.inl ⟨by rfl,?_⟩) hHeld ?_
    rotate_left
    · (intro w hSw;(try dsimp only at hSw);go_simp;try with_reducible rfl)
    simp only [Act.put,List.setIfInBounds_toArray,List.set_cons_zero,List.set_cons_succ]
    refine wpAnyH_take (i:=36) (oi:=⟨some 53,.load 26 (.tmp 52),26, "keep.go:43",#[⟨35,.data⟩,⟨26,.guard⟩],some (26,false)⟩) (v:=?_) rfl (by kernel_rfl) (by kernel_rfl) (by kernel_rfl) (fun _ _ _ h=>h) (Or.inl ⟨by rfl,?_⟩) hHeld ?_
    rotate_left
    · (intro w hSw;(try dsimp only at hSw);go_simp;try with_reducible rfl)
    simp only [Act.put,List.setIfInBounds_toArray,List.set_cons_zero,List.set_cons_succ]
    refine wpAnyH_ready (rs:=[37]) (by kernel_rfl) (by simp) ?_
    refine AllReadyH.cons (o:=⟨some 54,.call ⟨.value (.func 47),#[.tmp 48,.tmp 53],#[26,26]⟩,4, "keep.go:43",#[⟨31,.data⟩,⟨36,.data⟩,⟨26,.chain⟩,⟨26,.guard⟩],some (26,false)⟩) rfl (fun K1 hK1=>?_) AllReadyH.nil
    go_simp
    first
    | (go_at_call 47;(with_reducible refine (rats_same p.qx q.qx hk).mono ?_);rintro e w_z ⟨rfl,hh⟩
       (try replace p:=p.below hh);(try replace q:=q.below hh);(try replace EP:=EP.below hh);(try replace EQ:=EQ.below hh);replace hb:=bend hb hh)
    | (go_at_call 47;(with_reducible refine (rats_same p.qy q.qy hk).mono ?_);rintro e w_z ⟨rfl,hh⟩
       (try replace p:=p.below hh);(try replace q:=q.below hh);(try replace EP:=EP.below hh);(try replace EQ:=EQ.below hh);replace hb:=bend hb hh)
    | (go_at_call 47;(with_reducible refine (rats_same p.qw q.qw hk).mono ?_);rintro e w_z ⟨rfl,hh⟩
       (try replace p:=p.below hh);(try replace q:=q.below hh);(try replace EP:=EP.below hh);(try replace EQ:=EQ.below hh);replace hb:=bend hb hh)
    refine hK1.out _ _ (by with_reducible exact ⟨EP.c0,EP.c1,EP.c2,EP.c3,EP.c4,EP.c5,EP.c6,EP.c7,EP.c8,EQ.c0,EQ.c1,EQ.c2,EQ.c3,EQ.c4,EQ.c5,EQ.c6,EQ.c7,EQ.c8⟩) (fun hHeld=>?_)
    clear hK1 K1
    refine wpAnyH_take (i:=38) (oi:=⟨some 55,.unOp UnOp.not 4 (.tmp 54),4, "keep.go:43",#[⟨37,.data⟩,⟨26,.guard⟩],some (26,false)⟩) (v:=?_) rfl (by kernel_rfl) (by kernel_rfl) (by kernel_rfl) (fun _ _ _ h=>h) (Or.inl ⟨by rfl,?_⟩) hHeld ?_
    rotate_left
    · (intro w hSw;(try dsimp only at hSw);go_simp;try with_reducible rfl)
    simp only [Act.put,List.setIfInBounds_toArray,List.set_cons_zero,List.set_cons_succ]
    refine wpAnyH_take (i:=39) (oi:=⟨some 56,.pick (.tmp 43) (.const (Value.bool true)) (.tmp 55),4, "keep.go:43",#[⟨26,.data⟩,⟨38,.data⟩],none⟩) (v:=?_) rfl (by kernel_rfl) (by kernel_rfl) (by kernel_rfl) (fun _ _ _ h=>h) (Or.inl ⟨by rfl,?_⟩) hHeld ?_
    rotate_left
    · (intro w hSw;(try dsimp only at hSw);go_simp;try with_reducible rfl)
    simp only [Act.put,List.setIfInBounds_toArray,List.set_cons_zero,List.set_cons_succ]
    refine wpAnyH_done (by kernel_rfl) ?_ _
    go_wp2_with fail
    go_roundg (gk - 1)
    case measure=>have:=HG9.out;have:=HMN.out;omega
    case rel=>exact ⟨m+1,by have:=HG9.out;have:=HMN.out;show _=_;omega,by go_num,hb⟩
  · have hlt:¬ (m:Int) < (n:Int):=by omega
    clear hmn
    go_wp2_with fail
    (try rw [Exit.noGoto_ret])
    go_ret;exact ⟨rfl,hb⟩
end
end Go.Proofs.YtfpaeophfcoohaaGreat
