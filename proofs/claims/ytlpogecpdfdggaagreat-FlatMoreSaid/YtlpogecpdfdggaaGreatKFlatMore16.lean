/- FlatMore: part 16. -/
import Derived.Lib.SmallJoins
import Derived.OpenShut
import Derived.Test.YtlpogecpdfdggaaGreatKFlatMore0
import Derived.Test.YtlpogecpdfdggaaGreatKFlatMore13
import Derived.Test.YtlpogecpdfdggaaGreatKFlatMore15
set_option linter.unusedVariables false
set_option maxRecDepth 100000
set_option maxHeartbeats 16000000
variable {w:Go.World}
namespace Go.Proofs.YtlpogecpdfdggaaGreat
section
open Go Go.ChangeShapes Go.WideShapes Go.ChangeAt Go.RowKit
def QV.Raw (w:World) (q:QV):Prop:=(∃ zs,IsRow64 w q.A q.n q.c zs)∧∃ zs,IsRow64 w q.B q.m q.d zs
def HV.Raw (w:World) (p:HV):Prop:=p.x.Raw w∧p.y.Raw w∧p.w.Raw w
theorem open_hom9 {H:Type} {enc:TypeId × Value→H} {base fuel:Nat} {held:Bool} {x0 x1 x2 x3 x4 x5 x6 x7 x8:Value} {y:DataW H × List MemPlace}
 (h:DataW.trod enc Tryz.prog w base (fun _=>true) held fuel 55 [x0,x1,x2,x3,x4,x5,x6,x7,x8]=some y) :
 ∃ p:HV,x0=.bool p.x.s∧x1=.slice p.x.A p.x.n p.x.c∧x2=.slice p.x.B p.x.m p.x.d∧x3=.bool p.y.s∧x4=.slice p.y.A p.y.n p.y.c∧x5=.slice p.y.B p.y.m p.y.d∧x6=.bool p.w.s∧x7=.slice p.w.A p.w.n p.w.c∧x8=.slice p.w.B p.w.m p.w.d∧p.Raw w:=by
 have e3:Tryz.prog.cellsOf 27=3:=by kernel_rfl
 obtain ⟨xs,n,_,_,_,hlen,hi⟩:=DataW.trod_struct Tryz.underlying55 h
 match xs,hlen with
 | [y0,y1,y2],_ =>
   have h0:=hi 0 _ rfl
   simp [e3] at h0
   have h1:=hi 1 _ rfl
   simp [e3] at h1
   have h2:=hi 2 _ rfl
   simp [e3] at h2
   obtain ⟨q0,z0,s0,rfl,rfl,rfl,r0,t0⟩:=open_rat3 h0
   obtain ⟨q1,z1,s1,rfl,rfl,rfl,r1,t1⟩:=open_rat3 h1
   obtain ⟨q2,z2,s2,rfl,rfl,rfl,r2,t2⟩:=open_rat3 h2
   exact ⟨⟨q0,q1,q2⟩,rfl,rfl,rfl,rfl,rfl,rfl,rfl,rfl,rfl,⟨⟨z0,r0⟩,⟨s0,t0⟩⟩,⟨⟨z1,r1⟩,⟨s1,t1⟩⟩,⟨z2,r2⟩,⟨s2,t2⟩⟩
theorem open_zhoms {H:Type} {enc:TypeId × Value→H} {base:Nat} {held:Bool} {r:Reach} {b0:Nat} {v:Value} {d:DataW H} {p:List MemPlace}
 (hv:Value.okWide Tryz.prog w r b0 22 v) (h:DataW.Trod enc Tryz.prog w base (fun _=>true) held 22 v d p) :
 ∃ (A:Option Addr) (n c:Nat) (L:List HV),v=.slice A n c∧SV w A (hvs L)∧L.length=n∧n≤c∧n≤maxLen∧∀ q ∈ L,q.Raw w:=by
 obtain ⟨A,n,c,rfl⟩:=okWide_slice Tryz.underlying22 hv
 have e9:Tryz.prog.cellsOf 55=9:=by kernel_rfl
 obtain ⟨fuel,hf⟩:=h
 rcases DataW.trod_slice Tryz.underlying22 hf with ⟨h0,_⟩ | ⟨a,len,cap,elems,rest,m,_,h0,_,hb,hl,hm,hlen,hel,_,_⟩
 · simp [Value.cells] at h0
   obtain ⟨rfl,rfl,rfl⟩:=h0
   exact ⟨none,0,0,[],rfl,SV.nil _ _,rfl,Nat.le_refl _,Nat.zero_le _,fun q hq=>by cases hq⟩
 · simp [Value.cells] at h0
   obtain ⟨rfl,rfl,rfl⟩:=h0
   rw [e9] at hel
   have each:∀ i,i < n→∃ q:HV,(∀ j u,q.cells[j]?=some u→w.cell? ((a.add (i*9)).add j)=some u)∧q.Raw w:=by
    intro i hi
    have h1:=hel i hi
    rw [List.getElem?_eq_getElem (by rw [hlen];exact hi)] at h1
    obtain ⟨cs,hc1,hc2⟩:=Option.bind_eq_some_iff.1 h1
    unfold World.cells? at hc1
    split at hc1
    · have hcl:=mapM_some_length hc1
      have hcg:=fun k (hk:k < 9)=>mapM_some_get hc1 k k (by simp [hk])
      rw [List.length_range] at hcl
      match cs,hcl with
      | [x0,x1,x2,x3,x4,x5,x6,x7,x8],_ =>
        obtain ⟨p,rfl,rfl,rfl,rfl,rfl,rfl,rfl,rfl,rfl,r1⟩:=open_hom9 hc2
        refine ⟨p,fun j u hu=>?_,r1⟩
        have hj:j < 9:=(List.getElem?_eq_some_iff.1 hu).1
        have:=hcg j hj
        rw [this];exact hu
    · cases hc1
   obtain ⟨L,hL,hq⟩:∃ L:List HV,L.length=n∧∀ i q,L[i]?=some q→(∀ j u,q.cells[j]?=some u→w.cell? ((a.add (i*9)).add j)=some u)∧q.Raw w:=by
    have:∀ m,m≤n→∃ L:List HV,L.length=m∧∀ i q,L[i]?=some q→(∀ j u,q.cells[j]?=some u→w.cell? ((a.add (i*9)).add j)=some u)∧q.Raw w:=by
     intro m
     induction m with
     | zero=>intro _;exact ⟨[],rfl,fun i q h=>by cases h⟩
     | succ m ih =>
       intro hm
       obtain ⟨L,h1,h2⟩:=ih (by omega)
       obtain ⟨q,h3⟩:=each m (by omega)
       refine ⟨L ++ [q],by rw [List.length_append,h1];rfl,fun i x hx=>?_⟩
       rcases Nat.lt_or_ge i L.length with k | k
       · rw [List.getElem?_append_left k] at hx;exact h2 i x hx
       · rw [List.getElem?_append_right k] at hx
         have:i - L.length=0:=by
          have:=(List.getElem?_eq_some_iff.1 hx).1
          simp at this;omega
         rw [this] at hx
         cases hx
         rw [show i=m by omega];exact h3
    exact this n (Nat.le_refl _)
   refine ⟨some a,n,c,L,rfl,fun hn=>?_,hL,hl,by omega,fun q hq2=>?_⟩
   · have hn0:0 < n:=by rw [show (hvs L).length=L.length*9 from rows_length hvc_len L,hL] at hn;omega
     obtain ⟨b,o,spot⟩:=a
     have hx:=(hq 0 _ (List.getElem?_eq_getElem (by rw [hL];exact hn0))).1 0 _ rfl
     have hspot:spot=none:=by simpa [Addr.add] using World.cell?_spot hx
     subst hspot
     refine ⟨b,o,rfl,?_,fun j u hu=>?_⟩
     · rw [add_at,add_at] at hx
       exact World.block_lt_of_cell? w _ hx
     · have hj:=(List.getElem?_eq_some_iff.1 hu).1
       rw [show (hvs L).length=L.length*9 from rows_length hvc_len L,hL] at hj
       obtain ⟨i,k,hk,rfl⟩:∃ i k,k < 9∧j=i*9+k:=⟨j / 9,j % 9,Nat.mod_lt _ (by decide),by omega⟩
       have hi:i < L.length:=by omega
       have hg:=List.getElem?_eq_getElem hi
       have:=(hq i _ hg).1 k u (by rw [← rows_get hvc_len hg hk];exact hu)
       rw [add_at,add_at] at this
       rwa [← Nat.add_assoc]
   · obtain ⟨i,hi⟩:=List.getElem?_of_mem hq2
     exact (hq i q hi).2
theorem raw_qr {q:QV} {M:Nat} (h:q.Raw w) (hs:q.small M):∃ v,QR w q.s q.A q.n q.c q.B q.m q.d v M:=by
 obtain ⟨⟨_,ra⟩,⟨_,ta⟩⟩:=h
 obtain ⟨l1,a1,b1,c1,_⟩:=ra.rd
 obtain ⟨l2,a2,b2,c2,_⟩:=ta.rd
 exact ⟨_,QR.of_rd a1 b1 c1 a2 b2 c2 hs.1 hs.2⟩
theorem raw_hr {p:HV} {M:Nat} (h:p.Raw w) (hs:p.small M):∃ u,HR w p u M:=by
 obtain ⟨x,hx⟩:=raw_qr h.1 hs.1
 obtain ⟨y,hy⟩:=raw_qr h.2.1 hs.2.1
 obtain ⟨z,hz⟩:=raw_qr h.2.2 hs.2.2
 exact ⟨⟨x,y,z⟩,hx,hy,hz⟩
theorem raw_eachH {M:Nat}:∀ {L:List HV},(∀ p ∈ L,p.Raw w)→(∀ p ∈ L,p.small M)→∃ l,EachH HR w L l M
 | [],_,_=>⟨[],EachH.nil⟩
 | p :: L,h,hs=>by
   obtain ⟨u,hu⟩:=raw_hr (h p List.mem_cons_self) (hs p List.mem_cons_self)
   obtain ⟨l,hl⟩:=raw_eachH (L:=L) (fun q hq=>h q (List.mem_cons_of_mem _ hq)) (fun q hq=>hs q (List.mem_cons_of_mem _ hq))
   refine ⟨u :: l,by rw [List.length_cons,List.length_cons,hl.1],fun i q v h1 h2=>?_⟩
   match i,h1,h2 with
   | 0,h1,h2=>cases h1;cases h2;exact hu
   | i+1,h1,h2=>exact hl.2 i q v h1 h2
end
section
open Go Go.RowKit
theorem law_fmore {A:Option Addr} {n c k8:Nat} {L:List HV} (hL:SV w A (hvs L)) (hn:L.length=n) (hnc:n≤c) (hm:n≤maxLen) (hz:∀ p ∈ L,p.Raw w) (hk8:k8≤255) :
 Calls Tryz.prog 5 #[.slice A n c,.int .u8 (k8:Int)] w fun e w'=>e=.returned (.bool true)∧Below w.heap.size w w':=by
 by_cases hs:(∀ p ∈ L,p.small 4)∧n≤6
 · obtain ⟨V,hE⟩:=raw_eachH hz hs.1
   by_cases hg:GoodH V
   · exact fmore_p hL hn hE hs hk8 hnc hg
   · exact fmore_g hL hn hE hs hg
 · exact fmore_f hL hn hm hs
end
end Go.Proofs.YtlpogecpdfdggaaGreat
