/- HalveCuts: part 13. -/
import Derived.BigQuiet
import Derived.Deep.AppendLies
import Derived.Test.YtfpaeophfcoohaaGreatKHalveCuts8
import Derived.Test.YtfpaeophfcoohaaGreatKHalveCuts11
import Derived.Test.YtfpaeophfcoohaaGreatKHalveCuts12
set_option linter.unusedVariables false
set_option maxRecDepth 100000
set_option maxHeartbeats 16000000
variable {w:Go.World}
namespace Go.Proofs.YtfpaeophfcoohaaGreat
section
open Go
theorem wp_post {P:Program} {o:Oper} {a:Act} {K K':Act→World→Prop} {N:Act→World→Prop} {Q:Exit→Act→World→Prop} (h:∀ a w,K a w→K' a w)
 (hh:o.wp P a w K (Exit.then N Q)):o.wp P a w K' Q:=by
 unfold Oper.wp at *
 generalize (execOp a.eval o).run P w=r at *
 cases r with
 | ok n w' =>
   cases n <;> simp only [Oper.upon] at hh ⊢ <;>
    first
     | exact h _ _ hh
     | exact Calls.mono hh (fun e w'' he=>by cases e <;> first | exact h _ _ he | exact he)
     | exact Rows.mono hh (fun _ _ he=>h _ _ he)
 | halt x w'=>cases x <;> simp only [Oper.upon] at hh ⊢ <;> exact hh
def lastB (ops:Array Oper):Bool :=
 (ops.all fun o=>o.guard.isNone) &&
 (List.range (ops.size - 1)).all fun i=>(List.range ops.size).any fun j=>decide (i < j) && ((ops[j]?).map fun o=>o.after.any fun e=>Region.binds .any e && decide (e.on=i)).getD false
section
variable {P:Program} {ops:Array Oper} {Q:Exit→Act→World→Prop}
theorem unguarded {i:Nat} {o:Oper} (h:lastB ops=true) (ho:ops[i]?=some o):o.guard=none:=by
 unfold lastB at h
 rw [Bool.and_eq_true] at h
 have h1:=Array.all_eq_true.1 h.1 i (Array.getElem?_eq_some_iff.1 ho).1
 rw [(Array.getElem?_eq_some_iff.1 ho).2] at h1
 simpa using h1
theorem asked {i:Nat} (h:lastB ops=true) (hi:i+1 < ops.size):∃ j o e,i < j∧ops[j]?=some o∧e ∈ o.after∧Region.binds .any e=true∧e.on=i:=by
 unfold lastB at h
 rw [Bool.and_eq_true] at h
 have h1:=List.all_eq_true.1 h.2 i (by rw [List.mem_range];omega)
 obtain ⟨j,_,h2⟩:=List.any_eq_true.1 h1
 rw [Bool.and_eq_true] at h2
 cases ho:ops[j]? with
 | none=>rw [ho] at h2;simp at h2
 | some o =>
   rw [ho] at h2
   simp only [Option.map_some,Option.getD_some] at h2
   obtain ⟨m,hm,h3⟩:=Array.any_eq_true.1 h2.2
   rw [Bool.and_eq_true] at h3
   exact ⟨j,o,_,of_decide_eq_true h2.1,ho,Array.getElem_mem hm,h3.1,of_decide_eq_true h3.2⟩
def Shut (ops:Array Oper) (listed:Array Bool):Prop :=
 ∀ (j:Nat) (o:Oper),ops[j]?=some o→listed.getD j false=true→∀ e ∈ o.after,Region.binds .any e=true→listed.getD e.on false=true
theorem shut_all {listed:Array Bool} (hl:lastB ops=true) (hs:Shut ops listed) (h:listed.getD (ops.size - 1) false=true):∀ k i,i+k+1=ops.size→listed.getD i false=true:=by
 intro k
 induction k using Nat.strongRecOn with
 | ind k ih =>
   intro i hi
   rcases Nat.eq_zero_or_pos k with h0 | h0
   · subst h0
     rw [show i=ops.size - 1 by omega];exact h
   · obtain ⟨j,o,e,hij,ho,he,hb,rfl⟩:=asked (i:=i) hl (by omega)
     have hj:=(Array.getElem?_eq_some_iff.1 ho).1
     exact hs j o ho (ih (ops.size - 1 - j) (by omega) j (by omega)) e he hb
theorem shut_set {listed:Array Bool} {i:Nat} {o:Oper} (hs:Shut ops listed) (hi:i < listed.size) (ho:ops[i]?=some o) (hall:∀ e ∈ o.after,Region.binds .any e=true→listed.getD e.on false=true) :
 Shut ops (listed.setIfInBounds i true):=by
 have up:∀ k,listed.getD k false=true→(listed.setIfInBounds i true).getD k false=true:=by
  intro k hk
  by_cases hki:k=i
  · subst hki;simp [hi]
  · simpa [Array.getD_eq_getD_getElem?,Ne.symm hki] using hk
 intro j o' ho' hj e he hb
 by_cases hji:j=i
 · subst hji
   cases Option.some.inj (ho.symm.trans ho')
   exact up _ (hall e he hb)
 · refine up _ (hs j o' ho' ?_ e he hb)
   simpa [Array.getD_eq_getD_getElem?,Ne.symm hji] using hj
theorem pop_at {i:Nat} (h:i+1 < ops.size):ops.pop[i]?=ops[i]?:=by
 rw [Array.getElem?_pop];simp;omega
theorem wpAny_last {o:Oper} (hl:lastB ops=true) (hb:backB ops=true) (ho:ops[ops.size - 1]?=some o) :
 ∀ (fuel:Nat) (listed:Array Bool) (a:Act) (w:World),listed.size=ops.size→Shut ops listed→listed.getD (ops.size - 1) false=false →
  wpAny P .any ops.pop (Exit.then (fun a w=>o.wp P a w (Q .normal) Q) Q) fuel listed.pop a w→wpAny P .any ops Q (fuel+1) listed a w:=by
 have hn:ops.size - 1 < ops.size:=(Array.getElem?_eq_some_iff.1 ho).1
 have hg:=unguarded hl ho
 have hw:∀ a:Act,Region.wanted o (yielded ops a.tmps)=true:=by intro a;unfold Region.wanted;rw [hg]
 have atn:∀ (K:Act→World→Prop) (a:Act) (w:World),(∀ a w,Q .normal a w→K a w)→o.wp P a w (Q .normal) Q→wpOp P ops Q (ops.size - 1) K a w:=by
  intro K a w h1 h2
  unfold wpOp
  rw [ho]
  simp only [hw,if_true]
  exact .inl (Oper.wp_mono h1 h2)
 have lp:∀ {listed:Array Bool},listed.size=ops.size→∀ {i:Nat} (d:Bool),i+1 < ops.size→listed.pop.getD i d=listed.getD i d:=by
  intro listed hs i d hi
  have h1:i < listed.size - 1:=by omega
  simp only [Array.getD_eq_getD_getElem?,Array.getElem?_pop]
  rw [if_pos h1]
 have setall:∀ {listed:Array Bool},listed.size=ops.size→(∀ i,i+1 < ops.size→listed.getD i false=true)→Region.ready .any ops (listed.setIfInBounds (ops.size - 1) true)=[]:=by
  intro listed hs h
  rw [List.eq_nil_iff_forall_not_mem]
  intro i hi
  obtain ⟨h1,o',ho',_⟩:=mem_ready.1 hi
  have hi1:=(Array.getElem?_eq_some_iff.1 ho').1
  by_cases hin:i=ops.size - 1
  · subst hin
    have hin':ops.size - 1 < listed.size:=by omega
    simp [hin'] at h1
  · have h2:=h i (by omega)
    have h3:i < listed.size:=by omega
    simp only [Array.getD_eq_getD_getElem?,Array.getElem?_eq_getElem h3,Option.getD_some] at h2
    simp [Array.getD_eq_getD_getElem?,Ne.symm hin,h3,h2] at h1
 have goAll:∀ (fuel:Nat) (listed:Array Bool) (a:Act) (w:World),listed.size=ops.size→(∀ i,i+1 < ops.size→listed.getD i false=true)→Q .normal a w→wpAny P .any ops Q fuel (listed.setIfInBounds (ops.size - 1) true) a w:=by
  intro fuel listed a w hs h hq
  have h0:=setall hs h
  cases fuel with
  | zero=>exact ⟨h0,hq⟩
  | succ f =>
    refine ⟨fun _=>hq,fun i hi=>?_⟩
    rw [h0] at hi
    cases hi
 have part1:∀ {listed:Array Bool},listed.size=ops.size→listed.getD (ops.size - 1) false=false→¬ Region.ready .any ops listed=[]:=by
  intro listed hs h hr
  have:=all_listed hs hb hr (ops.size - 1) hn
  rw [h] at this
  cases this
 have popnil:∀ {listed:Array Bool},listed.size=ops.size→(∀ i,i+1 < ops.size→listed.getD i false=true)→Region.ready .any ops.pop listed.pop=[]:=by
  intro listed hs h
  rw [List.eq_nil_iff_forall_not_mem]
  intro i hi
  obtain ⟨h1,o',ho',_⟩:=mem_ready.1 hi
  have hi1:=(Array.getElem?_eq_some_iff.1 ho').1
  rw [Array.size_pop] at hi1
  rw [lp hs true (by omega)] at h1
  have h2:=h i (by omega)
  have h3:i < listed.size:=by omega
  simp only [Array.getD_eq_getD_getElem?,Array.getElem?_eq_getElem h3,Option.getD_some] at h1 h2
  rw [h1] at h2
  cases h2
 intro fuel
 induction fuel with
 | zero =>
   intro listed a w hs hS hL h
   obtain ⟨hr,hq⟩:=h
   refine ⟨fun hr=>absurd hr (part1 hs hL),fun i hi=>?_⟩
   obtain ⟨h1,o',ho',hall⟩:=mem_ready.1 hi
   have hi1:=(Array.getElem?_eq_some_iff.1 ho').1
   by_cases hin:i=ops.size - 1
   · subst hin
     cases Option.some.inj (ho.symm.trans ho')
     have hall2:∀ i,i+1 < ops.size→listed.getD i false=true:=by
      have hS2:=shut_set hS (by omega) ho hall
      intro i hi
      have:=shut_all hl hS2 (by rw [Array.getD_eq_getD_getElem?];simp;omega) (ops.size - 1 - i) i (by omega)
      simpa [Array.getD_eq_getD_getElem?,show ¬ ops.size - 1=i by omega] using this
     exact atn _ _ _ (fun a w hq=>goAll 0 listed a w hs hall2 hq) hq
   · exfalso
     have:i ∈ Region.ready .any ops.pop listed.pop:=by
      refine mem_ready.2 ⟨by rw [lp hs true (by omega)];exact h1,o',by rw [pop_at (by omega)];exact ho',fun e he hbe=>?_⟩
      have h5:=hall e he hbe
      have h6:e.on+1 < ops.size:=by
       have h7:=List.all_eq_true.1 hb i (by simpa using hi1)
       rw [ho'] at h7
       simp only [Option.map_some,Option.getD_some] at h7
       obtain ⟨k,hk,rfl⟩:=Array.mem_iff_getElem.1 he
       have h8:=Array.all_eq_true.1 h7 k hk;rw [hbe] at h8
       have:(o'.after[k]).on < i:=of_decide_eq_true (by simpa using h8)
       omega
      rw [lp hs false h6];exact h5
     rw [hr] at this
     cases this
 | succ f ih =>
   intro listed a w hs hS hL h
   obtain ⟨h0,hst⟩:=h
   refine ⟨fun hr=>absurd hr (part1 hs hL),fun i hi=>?_⟩
   obtain ⟨h1,o',ho',hall⟩:=mem_ready.1 hi
   have hi1:=(Array.getElem?_eq_some_iff.1 ho').1
   by_cases hin:i=ops.size - 1
   · subst hin
     cases Option.some.inj (ho.symm.trans ho')
     have hall2:∀ i,i+1 < ops.size→listed.getD i false=true:=by
      have hS2:=shut_set hS (by omega) ho hall
      intro i hi
      have:=shut_all hl hS2 (by rw [Array.getD_eq_getD_getElem?];simp;omega) (ops.size - 1 - i) i (by omega)
      simpa [Array.getD_eq_getD_getElem?,show ¬ ops.size - 1=i by omega] using this
     exact atn _ _ _ (fun a w hq=>goAll _ listed a w hs hall2 hq) (h0 (popnil hs hall2))
   · have hm : i ∈ Region.ready .any ops.pop listed.pop := by
       refine mem_ready.2 ⟨by rw [lp hs true (by omega)];exact h1,o',by rw [pop_at (by omega)];exact ho',fun e he hbe=>?_⟩
       have h5:=hall e he hbe
       have h6:e.on+1 < ops.size:=by
        have h7:=List.all_eq_true.1 hb i (by simpa using hi1)
        rw [ho'] at h7
        simp only [Option.map_some,Option.getD_some] at h7
        obtain ⟨k,hk,rfl⟩:=Array.mem_iff_getElem.1 he
        have h8:=Array.all_eq_true.1 h7 k hk;rw [hbe] at h8
        have:(o'.after[k]).on < i:=of_decide_eq_true (by simpa using h8)
        omega
       rw [lp hs false h6];exact h5
     have h9:=hst i hm
     unfold wpOp at h9 ⊢
     rw [pop_at (by omega),ho'] at h9
     rw [ho']
     have hg':=unguarded hl ho'
     have hw1:∀ ops':Array Oper,Region.wanted o' (yielded ops' a.tmps)=true:=by intro ops';unfold Region.wanted;rw [hg']
     simp only [hw1,if_true] at h9 ⊢
     have hpop:listed.pop.setIfInBounds i true=(listed.setIfInBounds i true).pop:=by
      apply Array.ext
      · simp
      · intro j h1 h2
        have h3:j < listed.size:=by simp at h1;omega
        rw [Array.getElem_pop,Array.getElem_setIfInBounds (by simpa using h1),Array.getElem_setIfInBounds h3,Array.getElem_pop]
     refine h9.imp (fun h=>wp_post (fun a' w' hK=>ih _ a' w' (by simpa using hs) (shut_set hS (by omega) ho' hall) ?_ (by rw [← hpop];exact hK)) h) id
     simpa [Array.getD_eq_getD_getElem?,hin] using hL
theorem repF (n j:Nat):(Array.replicate n false).getD j false=false:=by
 rw [Array.getD_eq_getD_getElem?]
 cases h:(Array.replicate n false)[j]? with
 | none=>rfl
 | some b =>
   obtain ⟨h1,h2⟩:=Array.getElem?_eq_some_iff.1 h
   rw [Array.getElem_replicate] at h2
   rw [← h2];rfl
theorem wp_region_last {id:Nat} {o:Oper} {a:Act} (init:Array Oper) (hi:ops.pop=init) (hm:P.follows .mixedOrders=true) (hl:lastB ops=true) (hb:backB ops=true) (ho:ops[ops.size - 1]?=some o)
 (h:wpAny P .any init (Exit.then (fun a w=>o.wp P a w (Q .normal) Q) Q) init.size (Array.replicate init.size false) a w.drew):(Code.region id ops true).wp P Q a w:=by
 have hn:ops.size - 1 < ops.size:=(Array.getElem?_eq_some_iff.1 ho).1
 subst hi
 refine wp_region_any hm ?_
 have h1:ops.size=ops.pop.size+1:=by rw [Array.size_pop];omega
 have h2:=wpAny_last (P:=P) (Q:=Q) hl hb ho ops.pop.size (Array.replicate ops.size false) a w.drew (by simp) (fun j o' _ hj=>by rw [repF] at hj;cases hj) (repF _ _) (by
  have:(Array.replicate ops.size false).pop=Array.replicate ops.pop.size false:=by
   apply Array.ext <;> simp
  rw [this];exact h)
 rw [← h1] at h2
 exact h2
end
end
section
open Go Go.RowKit
attribute [local go_sem ↓] open_LVH open_STH open_LVJ open_STJ
theorem heldH_go {P:Program} {md:Region.Mode} {ops:Array Oper} {Q:Exit→Act→World→Prop} {S:World→Prop} {f:Nat} {d:Array Bool} {a:Act} (h:S w) (k:S w→wpAnyH P md ops Q S f d a w):wpAny P md ops Q f d a w:=wpAny_of_held _ _ _ _ (k h)
theorem hlast {b o N n:Nat} (h1:1≤n) (h:n≤N) (hN:N≤1000000) :
 Calls Tryz.prog 51 #[.slice (some ⟨b,o,none⟩) N N,.int .i64 (n:Int)] w fun e w'=>e=.returned (.slice (some ⟨b,o+(N - n)*9,none⟩) n n)∧Below w.heap.size w w':=by
 have hwr:IntKind.i64.wrap ((N:Int) - (n:Int))=((N - n:Nat):Int):=by rw [IntWalk.i64_in _ (by omega)];omega
 have h0:(0:Int)≤((N - n:Nat):Int):=by omega
 have h2:((N - n:Nat):Int)≤(N:Int):=by omega
 have hne:¬ N=N - n:=by omega
 have hcut:N - (N - n)=n:=by omega
 have ha:∀ j,(⟨b,o,none⟩:Addr).add j=⟨b,o+j,none⟩:=fun j=>by unfold Addr.add;split <;> simp_all
 obtain ⟨i0,hi0,hz,hs,hby⟩:=info_parts info_hom
 have hsz:∀ w':World,(sizeOf 79).run Tryz.prog w'=.ok 9 w':=fun w'=>by simp [sizeOf,typeInfo,hi0,hs]
 have HH:=Lib.hid (show N - n+n=N by omega)
 clear h h1 hN
 go_enter Tryz.func51,Tryz.ntmps51
 go_wp2_with fail
 go_ret
 first
 | exact ⟨rfl,Below.refl _ _⟩
 | (refine ⟨?_,Below.refl _ _⟩;simp [hne,hcut,ha])
theorem hsplit {b o N M:Nat} (h:N=M+M) (h1:1≤M) (hM:M≤100000) :
 Calls Tryz.prog 89 #[.slice (some ⟨b,o,none⟩) N N] w fun e w'=>e=.returned (.tuple #[.slice (some ⟨b,o,none⟩) M M,.slice (some ⟨b,o+M*9,none⟩) M M])∧Below w.heap.size w w':=by
 have hq:((N:Int)).tdiv 2=(M:Int):=by rw [Int.tdiv_eq_ediv_of_nonneg (by omega)];omega
 have hwr:IntKind.i64.wrap (M:Int)=(M:Int):=IntWalk.i64_in _ (by omega)
 have h0:(0:Int)≤(M:Int):=by omega
 have h2:(M:Int)≤(N:Int):=by omega
 have h3:(0:Int)≤(N:Int):=by omega
 have hm0:¬ M=0:=by omega
 have hne:¬ N=M:=by omega
 have hcut:N - M=M:=by omega
 have ha:∀ j,(⟨b,o,none⟩:Addr).add j=⟨b,o+j,none⟩:=fun j=>by unfold Addr.add;split <;> simp_all
 obtain ⟨i0,hi0,hz,hs,hby⟩:=info_parts info_hom
 have hsz:∀ w':World,(sizeOf 79).run Tryz.prog w'=.ok 9 w':=fun w'=>by simp [sizeOf,typeInfo,hi0,hs]
 clear h h1 hM
 go_enter Tryz.func89,Tryz.ntmps89
 go_upto_region 2 with (fail)
 go_quiet (fail)
 go_wp2_with fail
 refine bodyPost_ret (v:=.tuple #[.slice (some ⟨b,o,none⟩) M M,.slice (some ⟨b,o+M*9,none⟩) M M]) (by simp [results,Tryz.results89,go_sem]) rfl ⟨rfl,?_⟩
 exact (Below.refl _ _).trans ⟨rfl,rfl,rfl,Nat.le_refl _,fun _ _=>rfl⟩
def kb (k:Nat):Nat→Nat
 | 0=>k
 | i+1=>2*kb k i+2
theorem kb_up (k:Nat):∀ i,k≤kb k i
 | 0=>Nat.le_refl _
 | i+1=>by have:=kb_up k i;unfold kb;omega
theorem kb_3 {k i:Nat} (h:i≤3):kb k i≤8*k+14:=by
 rcases (show i=0 ∨ i=1 ∨ i=2 ∨ i=3 by omega) with rfl | rfl | rfl | rfl <;> simp only [kb] <;> omega
def CutTo (w:World) (b xL xW n:Nat) (R:List HV) (v:Nat→AH) (k:Nat) (w':World):Prop :=
 ∃ R',RB w' b R'∧R'.length=R.length∧(∀ i,(i < xL ∨ xL+n≤i)→(i < xW ∨ xW+n≤i)→R'[i]?=R[i]?)∧Vw w' R' xL n (lf v) (fun _=>8*k+16)∧Vw w' R' xW n (rg n v) (fun _=>8*k+16)∧Only b w w'
structure CI (w:World) (b xL xW n:Nat) (R:List HV) (v:Nat→AH) (k i:Nat) (S:List HV) (w':World):Prop where
 len:S.length=R.length
 out:∀ i,(i < xL ∨ xL+n≤i)→(i < xW ∨ xW+n≤i)→S[i]?=R[i]?
 left:Vw w' S xL i (lf v) (fun _=>8*k+16)
 whole:Vw w' S xW n (fun j=>nd v (min i (n - 1 - j)) j) (fun j=>kb k (min i (n - 1 - j)))
 only:Only b w w'
structure CJ (w:World) (b xL xW n:Nat) (R:List HV) (v:Nat→AH) (k i m:Nat) (S:List HV) (w':World):Prop where
 len:S.length=R.length
 out:∀ i,(i < xL ∨ xL+n≤i)→(i < xW ∨ xW+n≤i)→S[i]?=R[i]?
 left:Vw w' S xL (i+1) (lf v) (fun _=>8*k+16)
 whole:Vw w' S xW n (fun j=>nd v (if j < m then i+1 else min i (n - 1 - j)) j) (fun j=>kb k (if j < m then i+1 else min i (n - 1 - j)))
 only:Only b w w'
section
variable {w w' w2:World} {b xL xW n k i m:Nat} {R S:List HV} {v:Nat→AH} {p:HV}
theorem CI.start (hv:Vw w R xW n v (fun _=>k)):CI w b xL xW n R v k 0 R w :=
 ⟨rfl,fun _ _ _=>rfl,fun k hk=>absurd hk (by omega),hv.imp fun j _=>⟨by simp [nd],by simp [kb]⟩,Only.refl _ _⟩
theorem CI.below (h:CI w b xL xW n R v k i S w') (hb:Below w'.heap.size w' w2):CI w b xL xW n R v k i S w2:=⟨h.len,h.out,h.left.below hb,h.whole.below hb,h.only.trans (Below.to_only hb (Nat.le_refl _))⟩
theorem CJ.below (h:CJ w b xL xW n R v k i m S w') (hb:Below w'.heap.size w' w2):CJ w b xL xW n R v k i m S w2:=⟨h.len,h.out,h.left.below hb,h.whole.below hb,h.only.trans (Below.to_only hb (Nat.le_refl _))⟩
theorem CI.put (h:CI w b xL xW n R v k i S w') (hR:RB w' b S) (hi:i < n) (h4:n≤4) (hx:xL+n≤xW) (hl:xW+n≤R.length) (hp:HG w2 p (lf v i) (kb k i+1+1)) (ho:Only b w' w2):CJ w b xL xW n R v k i 0 (S.set (xL+i) p) w2:=by
 have hlen:=h.len
 refine ⟨by rw [List.length_set];exact hlen,fun j h1 h2=>?_,fun j hj=>?_,?_,h.only.trans ho⟩
 · rw [List.getElem?_set_ne (by omega)];exact h.out j h1 h2
 · by_cases e:j=i
   · subst e
     exact ⟨p,by rw [List.getElem?_set_self (by omega)],hp.more (show _≤8*k+16 by have:=kb_3 (k:=k) (i:=j) (by omega);omega)⟩
   · obtain ⟨q,h1,h2⟩:=h.left j (by omega)
     exact ⟨q,by rw [List.getElem?_set_ne (by omega)];exact h1,h2.box hR.box ho⟩
 · exact ((h.whole.box hR.box ho).off (by omega)).imp fun j _=>⟨by simp,by simp⟩
theorem CJ.step (h:CJ w b xL xW n R v k i m S w') (hR:RB w' b S) (hm:m < n - 1 - i) (hx:xL+n≤xW) (hp:HG w2 p ((nd v i m).mix (nd v i (m+1)) (1 / 2)) (2*kb k i+2)) (ho:Only b w' w2):CJ w b xL xW n R v k i (m+1) (S.set (xW+m) p) w2:=by
 refine ⟨by rw [List.length_set];exact h.len,fun j h1 h2=>?_,(h.left.box hR.box ho).off (by omega),?_,h.only.trans ho⟩
 · rw [List.getElem?_set_ne (by omega)];exact h.out j h1 h2
 · refine (h.whole.box hR.box ho).set (by omega) (by simp only [if_pos (Nat.lt_succ_self m)];exact hp) fun j hj hne=>?_
   by_cases e:j < m
   · simp only [if_pos e,if_pos (show j < m+1 by omega)];exact ⟨trivial,Nat.le_refl _⟩
   · simp only [if_neg e,if_neg (show ¬ j < m+1 by omega)];exact ⟨trivial,Nat.le_refl _⟩
theorem CJ.done (h:CJ w b xL xW n R v k i m S w') (hm:m=n - 1 - i) (hi:i < n):CI w b xL xW n R v k (i+1) S w':=by
 refine ⟨h.len,h.out,h.left,h.whole.imp fun j hj=>?_,h.only⟩
 have e:(if j < m then i+1 else min i (n - 1 - j))=min (i+1) (n - 1 - j):=by split <;> omega
 simp only [e]
 exact ⟨trivial,Nat.le_refl _⟩
theorem CI.at_ (h:CI w b xL xW n R v k i S w') (hi:i < n):∃ p,S[xW+0]?=some p∧HG w' p (lf v i) (kb k i):=by
 obtain ⟨p,h1,h2⟩:=h.whole 0 (by omega)
 have e:min i (n - 1 - 0)=i:=by omega
 replace h2:HG w' p (nd v (min i (n - 1 - 0)) 0) (kb k (min i (n - 1 - 0))):=h2
 rw [e] at h2
 exact ⟨p,h1,h2⟩
theorem CJ.at_ (h:CJ w b xL xW n R v k i m S w') (hm:m < n - 1 - i):∃ p q,S[xW+m]?=some p∧S[xW+(m+1)]?=some q∧HG w' p (nd v i m) (kb k i)∧HG w' q (nd v i (m+1)) (kb k i):=by
 obtain ⟨p,h1,h2⟩:=h.whole m (by omega)
 obtain ⟨q,h3,h4⟩:=h.whole (m+1) (by omega)
 simp only [Nat.lt_irrefl,if_false] at h2
 simp only [show ¬ m+1 < m by omega,if_false] at h4
 have e1:min i (n - 1 - m)=i:=by omega
 have e2:min i (n - 1 - (m+1))=i:=by omega
 rw [e1] at h2;rw [e2] at h4
 exact ⟨p,q,h1,h3,h2,h4⟩
theorem CI.done (h:CI w b xL xW n R v k n S w') (hR:RB w' b S) (h4:n≤4) (h0:0 < n):CutTo w b xL xW n R v k w' :=
 ⟨S,hR,h.len,h.out,h.left,fun j hj=>by
  obtain ⟨p,h1,h2⟩:=h.whole j hj
  have e:min n (n - 1 - j)=n - 1 - j:=by omega
  replace h2:HG w' p (nd v (min n (n - 1 - j)) j) (kb k (min n (n - 1 - j))):=h2
  rw [e] at h2
  exact ⟨p,h1,h2.more (show _≤8*k+16 by have:=kb_3 (k:=k) (i:=n - 1 - j) (by omega);omega)⟩,h.only⟩
end
theorem hcut_h {b xL xW n cL cW k:Nat} {R:List HV} {v:Nat→AH} {AL AW:Option Addr} (hAL:AL=some ⟨b,xL*9,none⟩) (hAW:AW=some ⟨b,xW*9,none⟩) (hR:RB w b R) (h2:2≤n) (h4:n≤4) (hx:xL+n≤xW) (hl:xW+n≤R.length) (hv:Vw w R xW n v (fun _=>k)) (hk:k≤1000) (h1:1≤k) :
 Calls Tryz.prog 90 #[.slice AL n cL,.slice AW n cW] w fun e w'=>e=.returned (.tuple #[])∧CutTo w b xL xW n R v k w':=by
 have HB:Hid (2≤n∧n≤4∧xL+n≤xW∧xW+n≤R.length∧1≤k∧k≤1000):=⟨h2,h4,hx,hl,h1,hk⟩
 have HST:=Lib.hid (CI.start (b:=b) (xL:=xL) (R:=R) (k:=k) hv)
 have HIW:Hid (∀ i,i < n→∀ w',(Instr.indexAt 37 (.slice AW n cW) (.int .i64 (i:Int))).run Tryz.prog w'=.ok (.pointer (some ⟨b,xW*9+i*9,none⟩)) w'):=fun i hi w'=>by rw [hAW];exact ixH hi _ _ _ _
 have HIL:Hid (∀ i,i < n→∀ w',(Instr.indexAt 37 (.slice AL n cL) (.int .i64 (i:Int))).run Tryz.prog w'=.ok (.pointer (some ⟨b,xL*9+i*9,none⟩)) w'):=fun i hi w'=>by rw [hAL];exact ixH hi _ _ _ _
 have HR9:=Lib.hid hR;clear hAL hAW hR h2 h4 hx hl hv hk h1
 go_enter Tryz.func90,Tryz.ntmps90
 go_wp2_with fail
 go_loopg [8] n (fun gk ix wr=>∃ (i:Nat) (S:List HV),Hid (gk+i=n)∧ix=.int .i64 (i:Int)∧Hid (RB wr b S)∧Hid (CI w b xL xW n R v k i S wr))
 case atStart=>exact ⟨0,R,Nat.add_zero _,rfl,HR9,HST⟩
 case round =>
  obtain ⟨i,S,HGK,rfl,HR,HC⟩:=hrel
  by_cases hin:i < n
  · have HIN:=Lib.hid hin
    obtain ⟨P,hP,hp⟩:=HC.out.at_ hin
    have hix0:∀ w',(Instr.indexAt 37 (.slice AW n cW) (.int .i64 0)).run Tryz.prog w'=.ok (.pointer (some ⟨b,xW*9+0*9,none⟩)) w':=fun w'=>HIW.out 0 (by omega) w'
    have hixl:=HIL.out i hin;have EP:=HR.out.at_ hP
    have HLn:Hid (xL+i < S.length):=by show _ < _;have:=HB.out;rw [HC.out.len];omega
    have hkb:kb k i≤40000:=by have:=HB.out;have:=kb_3 (k:=k) (i:=i) (by omega);omega
    have hk1:1≤kb k i:=by have:=HB.out;have:=kb_up k i;omega
    generalize hoa:xW*9+0*9=oa at hix0 EP
    generalize hol:xL*9+i*9=ol at hixl
    have HOL:=Lib.hid hol
    have hlt:(i:Int) < (n:Int):=by omega
    have epl:=EP.ldH;have p:=hp.hr
    have hwr2:IntKind.i64.wrap ((n:Int) - 1)=(n:Int) - 1:=IntWalk.i64_in _ (by have:=HB.out;omega)
    have hwr3:IntKind.i64.wrap ((n:Int) - 1 - (i:Int))=(n:Int) - 1 - (i:Int):=IntWalk.i64_in _ (by have:=HB.out;omega)
    clear hol hoa hP hp hin EP
    go_upto_region 4 with (first
     | (go_at_call 50;(with_reducible refine (hfresh_h p hkb hk1).mono ?_);rintro e w_r ⟨r,rfl,rh,hh⟩
        have HR2:=Lib.hid (HR.out.below hh)
        have HC2:=Lib.hid (HC.out.below hh)
        obtain ⟨w7,hst,hR7,ho7⟩:=HR2.out.st (x:=xL) (i:=i) HLn.out r
        rw [HOL.out] at hst;have HR7:=Lib.hid hR7
        have HC7:=Lib.hid (HC2.out.put HR2.out HIN.out HB.out.2.1 HB.out.2.2.1 HB.out.2.2.2.1 (rh.box HR2.out.box ho7) ho7)
        clear hR7 ho7))
    clear hst rh hh HR HC HR2 HC2 p epl hix0 hixl HST HR9
    generalize S.set (xL+i) r=T0 at HR7 HC7
    go_wp2_with fail
    go_loopg [23] (n - 1 - i) (fun gi jx wi=>∃ (m:Nat) (T:List HV),Hid (gi+m=n - 1 - i)∧jx=.int .i64 (m:Int)∧Hid (RB wi b T)∧Hid (CJ w b xL xW n R v k i m T wi))
    case atStart=>exact ⟨0,T0,Nat.add_zero _,rfl,HR7,HC7⟩
    case round =>
     clear HR7 HC7
     obtain ⟨m,T,HGI,rfl,HR,HC⟩:=hrel
     by_cases hmn:m < n - 1 - i
     · have HMN:=Lib.hid hmn
       obtain ⟨P,Q,hP,hQ,hp,hq⟩:=HC.out.at_ hmn
       have hltm:(m:Int) < (n:Int) - 1 - (i:Int):=by omega
       have hixa:=HIW.out m (by omega)
       have hixb:∀ w',(Instr.indexAt 37 (.slice AW n cW) (.int .i64 ((m:Int)+1))).run Tryz.prog w'=.ok (.pointer (some ⟨b,xW*9+(m+1)*9,none⟩)) w':=fun w'=>by
        have:=HIW.out (m+1) (by omega) w'
        rwa [show ((m+1:Nat):Int)=(m:Int)+1 by omega] at this
       have EP:=HR.out.at_ hP;have EQ:=HR.out.at_ hQ
       have HLn2:Hid (xW+m < T.length):=by show _ < _;have:=HB.out;rw [HC.out.len];omega
       have hkb2:kb k i≤15000:=by have:=HB.out;have:=HIN.out;have:=kb_3 (k:=k) (i:=i) (by omega);omega
       generalize hoa:xW*9+m*9=oa at hixa EP
       generalize hob:xW*9+(m+1)*9=ob at hixb EQ
       have HOA:=Lib.hid hoa
       have hwm:IntKind.i64.wrap ((m:Int)+1)=(m:Int)+1:=IntWalk.i64_in _ (by have:=HB.out;omega)
       have p:=hp.hr;have q:=hq.hr;clear hoa hob hP hQ hp hq hmn
       go_upto_region 7 with (fail)
       replace EP:=EP.below (Below.refl _ _).drew
       replace EQ:=EQ.below (Below.refl _ _).drew
       replace p:=p.below (Below.refl _ _).drew
       replace q:=q.below (Below.refl _ _).drew
       replace HR:=Lib.hid (HR.out.below (Below.refl _ _).drew)
       replace HC:=Lib.hid (HC.out.below (Below.refl _ _).drew)
       refine wp_region_last _ (o:=⟨none,.store 79 (.tmp 38) (.tmp 37),0, "room.go:39",#[⟨12,.data⟩,⟨11,.data⟩,⟨11,.chain⟩,⟨0,.phase⟩,⟨1,.phase⟩,⟨2,.phase⟩,⟨3,.phase⟩,⟨4,.phase⟩,⟨5,.phase⟩,⟨6,.phase⟩,⟨7,.phase⟩,⟨8,.phase⟩,⟨9,.phase⟩,⟨10,.phase⟩,⟨11,.phase⟩],none⟩) rfl (by kernel_rfl) (by kernel_rfl) (by kernel_rfl) rfl ?_
       refine heldH_go (S:=(fun w'=>(LVH ⟨b,oa,none⟩).run Tryz.prog w'=.ok (.agg #[.bool P.x.s,.slice P.x.A P.x.n P.x.c,.slice P.x.B P.x.m P.x.d,.bool P.y.s,.slice P.y.A P.y.n P.y.c,.slice P.y.B P.y.m P.y.d,.bool P.w.s,.slice P.w.A P.w.n P.w.c,.slice P.w.B P.w.m P.w.d]) w'∧(LVH ⟨b,ob,none⟩).run Tryz.prog w'=.ok (.agg #[.bool Q.x.s,.slice Q.x.A Q.x.n Q.x.c,.slice Q.x.B Q.x.m Q.x.d,.bool Q.y.s,.slice Q.y.A Q.y.n Q.y.c,.slice Q.y.B Q.y.m Q.y.d,.bool Q.w.s,.slice Q.w.A Q.w.n Q.w.c,.slice Q.w.B Q.w.m Q.w.d]) w')) ⟨EP.ldH,EQ.ldH⟩ (fun hHeld=>?_)
       refine wpAnyH_take (i:=0) (v:=?_) rfl (by kernel_rfl) (by kernel_rfl) (by kernel_rfl) (fun _ _ _ h=>h) (Or.inl ⟨by rfl,?_⟩) hHeld ?_
       rotate_left
       · (intro w hSw;(try dsimp only at hSw);go_simp;try with_reducible rfl)
       simp only [Act.put,List.setIfInBounds_toArray]
       refine wpAnyH_take (i:=1) (v:=?_) rfl (by kernel_rfl) (by kernel_rfl) (by kernel_rfl) (fun _ _ _ h=>h) (Or.inl ⟨by rfl,?_⟩) hHeld ?_
       rotate_left
       · (intro w hSw;(try dsimp only at hSw);go_simp;try with_reducible rfl)
       simp only [Act.put]
       refine wpAnyH_take (i:=2) (v:=?_) rfl (by kernel_rfl) (by kernel_rfl) (by kernel_rfl) (fun _ _ _ h=>h) (Or.inl ⟨by rfl,?_⟩) hHeld ?_
       rotate_left
       · (intro w hSw;(try dsimp only at hSw);go_simp;try with_reducible rfl)
       simp only [Act.put]
       refine wpAnyH_take (i:=3) (v:=?_) rfl (by kernel_rfl) (by kernel_rfl) (by kernel_rfl) (fun _ _ _ h=>h) (Or.inl ⟨by rfl,?_⟩) hHeld ?_
       rotate_left
       · (intro w hSw;(try dsimp only at hSw);go_simp;try with_reducible rfl)
       simp only [Act.put]
       refine wpAnyH_take (i:=4) (v:=?_) rfl (by kernel_rfl) (by kernel_rfl) (by kernel_rfl) (fun _ _ _ h=>h) (Or.inl ⟨by rfl,?_⟩) hHeld ?_
       rotate_left
       · (intro w hSw;(try dsimp only at hSw);go_simp;try with_reducible rfl)
       simp only [Act.put]
       refine wpAnyH_take (i:=5) (v:=?_) rfl (by kernel_rfl) (by kernel_rfl) (by kernel_rfl) (fun _ _ _ h=>h) (Or.inl ⟨by rfl,?_⟩) hHeld ?_
       rotate_left
       · (intro w hSw;(try dsimp only at hSw);go_simp;try with_reducible rfl)
       simp only [Act.put]
       refine wpAnyH_take (i:=6) (v:=?_) rfl (by kernel_rfl) (by kernel_rfl) (by kernel_rfl) (fun _ _ _ h=>h) (Or.inl ⟨by rfl,?_⟩) hHeld ?_
       rotate_left
       · (intro w hSw;(try dsimp only at hSw);go_simp;try with_reducible rfl)
       simp only [Act.put]
       refine wpAnyH_take (i:=7) (v:=?_) rfl (by kernel_rfl) (by kernel_rfl) (by kernel_rfl) (fun _ _ _ h=>h) (Or.inl ⟨by rfl,?_⟩) hHeld ?_
       rotate_left
       · (intro w hSw;(try dsimp only at hSw);go_simp;try with_reducible rfl)
       simp only [Act.put]
       refine wpAnyH_take (i:=8) (v:=?_) rfl (by kernel_rfl) (by kernel_rfl) (by kernel_rfl) (fun _ _ _ h=>h) (Or.inl ⟨by rfl,?_⟩) hHeld ?_
       rotate_left
       · (intro w hSw;(try dsimp only at hSw);go_simp;try with_reducible rfl)
       simp only [Act.put]
       refine wpAnyH_take (i:=9) (v:=?_) rfl (by kernel_rfl) (by kernel_rfl) (by kernel_rfl) (fun _ _ _ h=>h) (Or.inl ⟨by rfl,?_⟩) hHeld ?_
       rotate_left
       · (intro w hSw;(try dsimp only at hSw);go_simp;try with_reducible rfl)
       simp only [Act.put]
       refine wpAnyH_take (i:=10) (v:=?_) rfl (by kernel_rfl) (by kernel_rfl) (by kernel_rfl) (fun _ _ _ h=>h) (Or.inl ⟨by rfl,?_⟩) hHeld ?_
       rotate_left
       · (intro w hSw;(try dsimp only at hSw);go_simp;try with_reducible rfl)
       simp only [Act.put]
       refine wpAnyH_ready (rs:=[11]) (by kernel_rfl) (by simp) ?_
       refine AllReadyH.cons (o:=⟨some 37,.call ⟨.value (.func 122),#[.tmp 31,.tmp 36],#[79,79]⟩,79, "room.go:39",#[⟨5,.data⟩,⟨10,.data⟩],none⟩) rfl (fun K1 hK1=>?_) AllReadyH.nil
       go_simp
       first
       | (go_at_call 122;(with_reducible refine (hmiddle_h p q hkb2 hk1).mono ?_);rintro e w_y ⟨y,rfl,yh,hh⟩
          replace EP:=EP.below hh;replace EQ:=EQ.below hh
          replace HR:=Lib.hid (HR.out.below hh)
          replace HC:=Lib.hid (HC.out.below hh))
       refine hK1.out _ _ (by with_reducible exact ⟨EP.ldH,EQ.ldH⟩) (fun hHeld=>?_)
       clear hK1 K1
       refine wpAnyH_take (i:=12) (v:=?_) rfl (by kernel_rfl) (by kernel_rfl) (by kernel_rfl) (fun _ _ _ h=>h) (Or.inl ⟨by rfl,?_⟩) hHeld ?_
       rotate_left
       · (intro w hSw;(try dsimp only at hSw);go_simp;try with_reducible rfl)
       simp only [Act.put,List.setIfInBounds_toArray]
       refine wpAnyH_done (by kernel_rfl) ?_ _
       obtain ⟨w7,hst,hR7,ho7⟩:=HR.out.st (x:=xW) (i:=m) HLn2.out y
       rw [HOA.out] at hst
       change Oper.wp _ _ _ _ _ _
       go_simp
       have HR7:=Lib.hid hR7
       have HC7:=Lib.hid (HC.out.step HR.out HMN.out HB.out.2.2.1 (yh.box HR.out.box ho7) ho7)
       clear hst hixa hixb hHeld hR7 ho7 HR HC EP EQ p q yh
       go_wp2_with fail
       go_roundg (gk - 1)
       case measure=>have:=HGI.out;have:=HMN.out;omega
       case rel=>exact ⟨m+1,_,by have:=HGI.out;have:=HMN.out;show _=_;omega,by go_num,HR7,HC7⟩
     · have HEQ:Hid (m=n - 1 - i):=by have:=HGI.out;show _=_;omega
       have hltm:¬ (m:Int) < (n:Int) - 1 - (i:Int):=by have:=HIN.out;omega
       have HC2:=Lib.hid (HC.out.done HEQ.out HIN.out)
       have hwi:IntKind.i64.wrap ((i:Int)+1)=(i:Int)+1:=IntWalk.i64_in _ (by have:=HB.out;omega)
       clear hmn
       go_wp2_with fail
       go_roundg (n - i - 1)
       case measure=>have:=HGK.out;have:=HIN.out;omega
       case rel=>exact ⟨i+1,T,by have:=HGK.out;have:=HIN.out;show _=_;omega,by go_num,HR,HC2⟩
  · have HEQ:Hid (i=n):=by have:=HGK.out;show _=_;omega
    have hlt:¬ (i:Int) < (n:Int):=by omega
    have HC2:Hid (CI w b xL xW n R v k n S wr):=by have h:=HC.out;rw [HEQ.out] at h;exact h
    clear hin
    go_wp2_with fail
    (try rw [Exit.noGoto_ret])
    go_end0
    exact ⟨rfl,HC2.out.done HR.out HB.out.2.1 (by have:=HB.out;omega)⟩
end
section
open Go Go.RowKit
attribute [local go_sem ↓] open_LVH open_STH open_LVJ open_STJ
structure SLV where
 A:Option Addr
 n:Nat
 c:Nat
def SLV.val (s:SLV):Value:=.slice s.A s.n s.c
def slvs (L:List SLV):List Value:=L.map SLV.val
theorem slvs_one (L:List SLV):∀ u ∈ slvs L,u.oneCell'=true:=fun u hu=>by
 obtain ⟨s,_,rfl⟩:=List.mem_map.1 hu
 rfl
theorem slvs_free (L:List SLV):∀ u ∈ slvs L,∀ (k:IntKind) (x:Int),u ≠ .int k x:=fun u hu k x=>by
 obtain ⟨s,_,rfl⟩:=List.mem_map.1 hu
 exact fun e=>by cases e
structure LnS (T:TypeId) (base:Nat) (w:World) (v:Value) (L:List SLV):Prop where
 own:w.ownsRow base T 1 v L.length (slvs L)
 free:∀ g,v.ownBlock=some g→∃ cs,BoxAt T w g cs
def Stayz (base:Nat) (w w':World):Prop:=Below w.heap.size w w' ∨ ∃ T g cs,BoxAt T w g cs∧base≤g∧Only g w w'
section
variable {T:TypeId} {base b:Nat} {w w' w0:World} {v:Value} {L:List SLV}
theorem LnS.nil (T:TypeId) (base:Nat) (w:World):LnS T base w (.slice none 0 0) []:=⟨World.ownsRow_nil w base T 1,fun g h=>by cases h⟩
theorem LnS.kept (h:LnS T base w v L) (hb:∀ g,v.ownBlock=some g→w'.heap[g]?=w.heap[g]?):LnS T base w' v L:=by
 refine ⟨⟨h.own.1,?_⟩,fun g hg=>?_⟩
 · rcases h.own.2 with hn | ⟨g,cap,cur,rfl,h1,h2,h3⟩
   · exact .inl hn
   · exact .inr ⟨g,cap,cur,rfl,h1,(hb g rfl).trans h2,h3⟩
 · obtain ⟨cs,hc⟩:=h.free g hg
   exact ⟨cs,(hb g hg).trans hc.at_,hc.free⟩
theorem LnS.below (h:LnS T base w v L) (hb:Below w.heap.size w w'):LnS T base w' v L:=h.kept fun g hg=>by
 obtain ⟨cs,hc⟩:=h.free g hg
 exact hb.block g hc.lt
theorem LnS.only (h:LnS T base w v L) (ho:Only b w w') (hb:b < base):LnS T base w' v L:=h.kept fun g hg=>by
 obtain ⟨cs,hc⟩:=h.free g hg
 have:=(h.own.lt g hg).1
 exact ho.block g hc.lt (by omega)
theorem LnS.base_le {b:Nat} (h:LnS T base w v L) (hb:b≤base):LnS T b w v L:=by
 refine ⟨⟨h.own.1,?_⟩,h.free⟩
 rcases h.own.2 with hn | ⟨g,cap,cur,rfl,h1,h2⟩
 · exact .inl hn
 · exact .inr ⟨g,cap,cur,rfl,Nat.le_trans hb h1,h2⟩
theorem LnS.lit (w:World) (L:List SLV) (hb:base≤w.heap.size) (hL:L.length≤1000000):LnS T base (w.alloc (.cells (slvs L).toArray T)) (.slice (some ⟨w.heap.size,0,none⟩) L.length L.length) L:=by
 have hl:(slvs L).length=L.length:=by simp [slvs]
 refine ⟨⟨by rw [hl];omega,.inr ⟨w.heap.size,L.length,_,rfl,hb,heap_alloc_new w _,Nat.le_refl _,by unfold maxLen;omega,?_,?_⟩⟩,fun g hg=>?_⟩
 · simp [hl]
 · simp [← hl]
 · obtain rfl:w.heap.size=g:=by simpa [Value.ownBlock] using hg
   exact ⟨_,heap_alloc_new w _,arr_free (slvs_free L)⟩
theorem LnS.form (h:LnS T base w v L):∃ A c,v=.slice A L.length c∧L.length≤c∧(A=none→c=0):=by
 rcases h.own.2 with ⟨rfl,hn⟩ | ⟨g,cap,cur,rfl,_,_,h3,_⟩
 · exact ⟨none,0,by rw [hn],by omega,fun _=>rfl⟩
 · exact ⟨_,cap,rfl,h3,fun e=>by cases e⟩
theorem LnS.sv {A:Option Addr} {n c:Nat} (h:LnS T base w (.slice A n c) L):SV w A (slvs L):=fun hn=>by
 rcases h.own.2 with ⟨_,e⟩ | ⟨g,cap,cur,hv,_,hg,_⟩
 · simp [slvs,List.length_eq_zero_iff.1 e] at hn
 · have hc:=h.own.cells (g:=g) (by rw [hv];rfl)
   have ha:∀ j,(⟨g,0,none⟩:Addr).add j=⟨g,j,none⟩:=fun j=>by unfold Addr.add;split <;> simp_all
   simp only [Value.slice.injEq] at hv
   refine ⟨g,0,hv.1,?_,fun j u hu=>by have:=hc j u hu;rw [ha] at this;rw [Nat.zero_add];exact this⟩
   rcases Nat.lt_or_ge g w.heap.size with q | q
   · exact q
   · rw [Array.getElem?_eq_none q] at hg;cases hg
theorem Stayz.hg {p:HV} {u:AH} {k:Nat} (h:Stayz base w w') (a:HG w p u k):HG w' p u k:=by
 rcases h with q | ⟨T,g,cs,hB,_,ho⟩
 · exact a.below q
 · exact a.box hB ho
theorem Stayz.rh {p:HV} {u:AH} {k:Nat} (h:Stayz base w w') (a:RH w p u k):RH w' p u k:=by
 rcases h with q | ⟨T,g,cs,hB,_,ho⟩
 · exact a.below q
 · exact a.box hB ho
theorem Stayz.rb {R:List HV} (h:Stayz base w w') (hb:b < base) (a:RB w b R):RB w' b R:=by
 rcases h with q | ⟨T,g,cs,hB,hg,ho⟩
 · exact a.below q
 · exact a.rest (by omega) ho
theorem Stayz.vw {R:List HV} {o n:Nat} {f:Nat→AH} {K:Nat→Nat} (h:Stayz base w w') (a:Vw w R o n f K):Vw w' R o n f K:=fun k hk=>by
 obtain ⟨p,h1,h2⟩:=a k hk
 exact ⟨p,h1,h.hg h2⟩
theorem Stayz.only (h:Stayz base w w') (a:Only b w0 w) (hb:w0.heap.size≤base):Only b w0 w':=by
 rcases h with q | ⟨T,g,cs,hB,hg,ho⟩
 · exact a.trans (Below.to_only q (Nat.le_refl _))
 · exact ⟨ho.os.trans a.os,ho.tape.trans a.tape,ho.output.trans a.output,Nat.le_trans a.size ho.size,fun i hi hne=>(ho.block i (Nat.lt_of_lt_of_le hi a.size) (by omega)).trans (a.block i hi hne)⟩
theorem Stayz.under (h:Stayz base w w') (a:Below w0.heap.size w0 w) (hb:w0.heap.size≤base):Below w0.heap.size w0 w':=by
 rcases h with q | ⟨T,g,cs,hB,hg,ho⟩
 · exact bend a q
 · exact Below.only a (Nat.le_trans hb hg) a.size ho
theorem LnS.stayz (h:LnS T base w v L) (hg:w.grownBy w' v.ownBlock):Stayz base w w':=by
 cases hv:v.ownBlock with
 | none =>
   rw [hv] at hg
   exact .inl ((Below.refl _ _).grown hg (Nat.le_refl _) (fun k e=>by cases e))
 | some g =>
   rw [hv] at hg
   obtain ⟨cs,hc⟩:=h.free g hv
   refine .inr ⟨T,g,cs,hc,(h.own.lt g hv).1,⟨hg.os,hg.tape,hg.output,hg.size,fun k hk hn=>hg.block k hk (fun e=>hn (by injection e))⟩⟩
end
theorem zeroS_free (n:Nat):∀ u ∈ (Builtin.zeroCells (Value.slice none 0 0).cells n).toList,∀ (k:IntKind) (x:Int),u ≠ .int k x:=by
 intro u hu k x
 simp only [Builtin.zeroCells,Array.toList_map,List.mem_map] at hu
 obtain ⟨i,_,rfl⟩:=hu
 have h:i % (Value.slice none 0 0).cells.size < 1:=Nat.mod_lt _ (by decide)
 generalize i % (Value.slice none 0 0).cells.size=j at h
 match j,h with
 | 0,_=>exact fun e=>by cases e
 | j+1,h=>omega
theorem run_appS {T tS ty:TypeId} {base base2:Nat} {v v2:Value} {L M:List SLV} (ht:Tryz.prog.underlying tS=some (.slice T)) (hinfo:(Tryz.prog.info? T).map (fun i=>(i.zero,i.size,i.bytes))=some (some (.slice none 0 0),1,24))
 (h:LnS T base w v L) (h2:LnS T base2 w v2 M) (hpos:0 < M.length) (hbase:base≤w.heap.size) (hL:L.length+M.length≤1000000) :
 ∃ v' w',(Builtin.append_ #[tS,tS] ty #[v,v2]).run Tryz.prog w=.ok v' w'∧LnS T base w' v' (L ++ M)∧Stayz base w w':=by
 obtain ⟨i0,hi,hz,hs,hby⟩:=info_parts hinfo
 obtain ⟨b,k0,rfl,hnews⟩:∃ b k0,v2=.slice (some ⟨b,0,none⟩) M.length k0∧∀ j u,(slvs M)[j]?=some u→w.cell? ((⟨b,0,none⟩:Addr).add j)=some u:=by
  rcases h2.own.2 with ⟨_,e⟩ | ⟨g,cap,cur,rfl,_,hg,_⟩
  · omega
  · exact ⟨g,cap,rfl,h2.own.cells (g:=g) rfl⟩
 have hlM:(slvs M).length=M.length:=by simp [slvs]
 have hlL:(slvs L).length=L.length:=by simp [slvs]
 have h1:=slvs_one M
 obtain ⟨v',w',hr,hown,hg,_⟩:=run_append_own (P:=Tryz.prog) w base tS ty T i0 (.slice none 0 0) 1 24 ht hi hz hs hby rfl (by decide) v L.length (slvs L) h.own ⟨b,0,none⟩ M.length k0 (slvs M) (by rw [hlM];omega) hnews h1 (by unfold maxLen;omega) (by omega) hbase
 refine ⟨v',w',hr,⟨by rw [List.length_append];unfold slvs;rw [List.map_append];exact hown,?_⟩,h.stayz hg⟩
 have fr:∀ (cs:List Value),(∀ u ∈ cs,∀ (k:IntKind) (x:Int),u ≠ .int k x)→∀ (i:Nat) (k:IntKind) (x:Int),cs.toArray[i]? ≠ some (Value.int k x):=fun cs hc=>arr_free hc
 intro g hgv
 rcases h.own.2 with ⟨rfl,hn⟩ | ⟨g0,cap,cur,rfl,_,hg0,hnc,hcm,hcs,htake⟩
 · have e:=run_append_nil (P:=Tryz.prog) w tS ty T i0 (.slice none 0 0) ht hi hz ⟨b,0,none⟩ M.length k0 (slvs M) (by rw [hs,hlM];omega) hnews hpos (by omega) (by rw [hby];omega)
   rw [hr] at e
   injection e with e1 e2
   subst e1 e2
   obtain rfl:w.heap.size=g:=by simpa [Value.ownBlock] using hgv
   refine ⟨_,heap_alloc_new w.drew _,?_⟩
   have:=fr (slvs M ++ (Builtin.zeroCells (Value.slice none 0 0).cells (grownCap w M.length 0 T - M.length)).toList) (fun u hu=>by
    rcases List.mem_append.1 hu with q | q
    · exact slvs_free M u q
    · exact zeroS_free _ u q)
   intro i k x
   have:=this i k x
   rwa [show (slvs M ++ (Builtin.zeroCells (Value.slice none 0 0).cells (grownCap w M.length 0 T - M.length)).toList).toArray=(slvs M).toArray ++ Builtin.zeroCells (Value.slice none 0 0).cells (grownCap w M.length 0 T - M.length) by apply Array.ext';simp] at this
 · obtain ⟨cs,hB⟩:=h.free g0 rfl
   have hcur:∀ u ∈ cur.toList,∀ (k:IntKind) (x:Int),u ≠ .int k x:=by
    have:cs=cur:=by exact (Obj.cells.inj (Option.some.inj (hB.at_.symm.trans hg0))).1
    subst this
    intro u hu k x e
    obtain ⟨j,hj⟩:=List.getElem?_of_mem hu
    rw [Array.getElem?_toList] at hj
    exact hB.free j k x (by rw [← e];exact hj)
   by_cases hroom:L.length+M.length≤cap
   · have e:=run_append_room (P:=Tryz.prog) w tS ty T i0 ht hi g0 L.length cap cur hg0 ⟨b,0,none⟩ M.length k0 (slvs M) (by rw [hs,hlM];omega) hnews h1 hroom (by rw [hs,hcs,hlM];omega)
     rw [hr] at e
     injection e with e1 e2
     subst e1 e2
     obtain rfl:g0=g:=by simpa [Value.ownBlock] using hgv
     refine ⟨_,setRow_heap w g0 cur _ T _ hg0,fr _ fun u hu=>?_⟩
     rcases List.mem_append.1 hu with q | q
     · rcases List.mem_append.1 q with q | q
       · exact hcur u (List.mem_of_mem_take q)
       · exact slvs_free M u q
     · exact hcur u (List.mem_of_mem_drop q)
   · have holds:∀ j u,(slvs L)[j]?=some u→w.cell? ((⟨g0,0,none⟩:Addr).add j)=some u:=h.own.cells (g:=g0) rfl
     have e:=run_append_grow (P:=Tryz.prog) w tS ty T i0 (.slice none 0 0) ht hi hz ⟨g0,0,none⟩ L.length cap (slvs L) (by rw [hs];exact h.own.1) holds ⟨b,0,none⟩ M.length k0 (slvs M) (by rw [hs,hlM];omega) hnews (by omega) (by omega) (growslice_fits (by omega) (by rw [hby];omega))
     rw [hr] at e
     injection e with e1 e2
     subst e1 e2
     obtain rfl:w.heap.size=g:=by simpa [Value.ownBlock] using hgv
     refine ⟨_,heap_alloc_new w.drew _,?_⟩
     have:=fr (slvs L ++ slvs M ++ (Builtin.zeroCells (Value.slice none 0 0).cells (grownCap w (L.length+M.length) cap T - (L.length+M.length))).toList) (fun u hu=>by
      rcases List.mem_append.1 hu with q | q
      · rcases List.mem_append.1 q with q | q
        · exact slvs_free L u q
        · exact slvs_free M u q
      · exact zeroS_free _ u q)
     intro i k x
     have:=this i k x
     rwa [show (slvs L ++ slvs M ++ (Builtin.zeroCells (Value.slice none 0 0).cells (grownCap w (L.length+M.length) cap T - (L.length+M.length))).toList).toArray=(slvs L).toArray ++ (slvs M).toArray ++ Builtin.zeroCells (Value.slice none 0 0).cells (grownCap w (L.length+M.length) cap T - (L.length+M.length)) by apply Array.ext';simp] at this
theorem wpList_appS {ops:Array Oper} {rest:List Oper} {o:Oper} {a:Act} {Q:Exit→Act→World→Prop} {T tS:TypeId} (ht:Tryz.prog.underlying tS=some (.slice T)) (hinfo:(Tryz.prog.info? T).map (fun i=>(i.zero,i.size,i.bytes))=some (some (.slice none 0 0),1,24))
 (hgd:o.guard=none) (s x:Operand) (ho:o.op=.call ⟨.builtin .append,#[s,x],#[tS,tS]⟩) {base base2:Nat} {v v2:Value} {L M:List SLV} (hs:a.eval s=v) (hx:a.eval x=v2)
 (h:LnS T base w v L) (h2:LnS T base2 w v2 M) (hpos:0 < M.length) (hbase:base≤w.heap.size) (hL:L.length+M.length≤1000000)
 (hK:∀ v' w',LnS T base w' v' (L ++ M)→Stayz base w w'→wpList Tryz.prog ops Q rest (a.put o.dst v') w'):wpList Tryz.prog ops Q (o :: rest) a w :=
 wpList_plain hgd fun K hK2=>by
  obtain ⟨v',w',hr,h3,h4⟩:=run_appS (ty:=o.type) ht hinfo h h2 hpos hbase hL
  exact wp_append_at s x ho hs hx hr (hK2 _ _ (hK v' w' h3 h4))
theorem info_slh:(Tryz.prog.info? 37).map (fun i=>(i.zero,i.size,i.bytes))=some (some (.slice none 0 0),1,24):=by kernel_rfl
def pl (b n:Nat):Nat→Nat→List SLV
 | 0,o=>[⟨some ⟨b,o*9,none⟩,n,n⟩]
 | d+1,o=>pl b n d o ++ pl b n d (o+n*2 ^ d)
theorem pl_length (b n:Nat):∀ d o,(pl b n d o).length=2 ^ d
 | 0,_=>rfl
 | d+1,o=>by rw [pl,List.length_append,pl_length b n d,pl_length b n d,Nat.pow_succ];omega
theorem pl_get (b n:Nat):∀ d o j,j < 2 ^ d→(pl b n d o)[j]?=some ⟨some ⟨b,(o+n*j)*9,none⟩,n,n⟩
 | 0,o,j,h=>by
   obtain rfl:j=0:=by simpa using h
   rfl
 | d+1,o,j,h=>by
   rw [pl]
   by_cases hj:j < 2 ^ d
   · rw [List.getElem?_append_left (by rw [pl_length];exact hj),pl_get b n d o j hj]
   · rw [List.getElem?_append_right (by rw [pl_length];omega),pl_length,pl_get b n d _ _ (by rw [Nat.pow_succ] at h;omega)]
     congr 5
     rw [Nat.add_assoc,← Nat.mul_add]
     congr 2
     omega
def cb:Nat→Nat→Nat
 | k,0=>k
 | k,d+1=>cb (8*k+16) d
theorem cb_up:∀ k d,k≤cb k d
 | _,0=>Nat.le_refl _
 | k,d+1=>by have:=cb_up (8*k+16) d;unfold cb;omega
def PartsTo (w:World) (b o n d:Nat) (R:List HV) (v:Nat→AH) (k:Nat) (w':World):Prop :=
 ∃ R',RB w' b R'∧R'.length=R.length∧(∀ i,(i < o ∨ o+n*2 ^ d≤i)→R'[i]?=R[i]?)∧(∀ j u,(prt n d v)[j]?=some u→Vw w' R' (o+n*j) n u (fun _=>cb k d))∧Only b w w'
end
section
open Go Go.RowKit
attribute [local go_sem ↓] open_LVH open_STH open_LVJ open_STJ
theorem hparts_0 {b n:Nat} (h2:2≤n) (h4:n≤4):∀ (w:World) (o k N:Nat) (R:List HV) (v:Nat→AH),N=n*2 ^ 0→RB w b R→o+N≤R.length→Vw w R (o+N - n) n v (fun _=>k)→cb k 0≤8000→1≤k→b < w.heap.size →
 Calls Tryz.prog 52 #[.slice (some ⟨b,o*9,none⟩) N N,.int .i64 (n:Int)] w (fun e w'=>∃ v',e=.returned v'∧LnS 37 w.heap.size w' v' (pl b n 0 o)∧PartsTo w b o n 0 R v k w'):=by
 intro w o k N R v hN hR hl hv hk h1 hbw
 obtain rfl:N=n:=by simpa using hN
 have HR:=Lib.hid hR;have HV:=Lib.hid hv;clear hR hv hN hl hk h1
 go_enter Tryz.func52,Tryz.ntmps52
 go_wp2_with fail
 (try rw [Exit.noGoto_ret])
 go_ret
 have hal:Below w.heap.size w (w.alloc (Obj.cells #[.slice (some ⟨b,o*9,none⟩) N N] 37)):=(Below.refl _ _).alloc (Nat.le_refl _) _
 refine ⟨_,rfl,LnS.lit w [⟨some ⟨b,o*9,none⟩,N,N⟩] (Nat.le_refl _) (by simp),R,HR.out.below hal,rfl,fun _ _=>rfl,fun j u hu=>?_,Below.to_only hal (Nat.le_refl _)⟩
 match j,hu with
 | 0,hu =>
   obtain rfl:v=u:=by simpa [prt] using hu
   have h:=HV.out.below hal
   rw [show o+N - N=o+N*0 by omega] at h
   exact h
 | j+1,hu=>simp [prt] at hu
theorem hparts_s {b n d:Nat} (h2:2≤n) (h4:n≤4) (hd:d≤9) (ih:∀ (w:World) (o k N:Nat) (R:List HV) (v:Nat→AH),N=n*2 ^ d→RB w b R→o+N≤R.length→Vw w R (o+N - n) n v (fun _=>k)→cb k d≤8000→1≤k→b < w.heap.size →
 Calls Tryz.prog 52 #[.slice (some ⟨b,o*9,none⟩) N N,.int .i64 (n:Int)] w (fun e w'=>∃ v',e=.returned v'∧LnS 37 w.heap.size w' v' (pl b n d o)∧PartsTo w b o n d R v k w')):∀ (w:World) (o k N:Nat) (R:List HV) (v:Nat→AH),N=n*2 ^ (d+1)→RB w b R→o+N≤R.length→Vw w R (o+N - n) n v (fun _=>k)→cb k (d+1)≤8000→1≤k→b < w.heap.size →
 Calls Tryz.prog 52 #[.slice (some ⟨b,o*9,none⟩) N N,.int .i64 (n:Int)] w (fun e w'=>∃ v',e=.returned v'∧LnS 37 w.heap.size w' v' (pl b n (d+1) o)∧PartsTo w b o n (d+1) R v k w'):=by
 intro w o k N R v hN hR hl hv hk h1 hbw
 obtain ⟨M,hM⟩:∃ M,M=n*2 ^ d:=⟨_,rfl⟩
 have hp1:1≤2 ^ d:=Nat.one_le_two_pow
 have hp2:2 ^ d≤2 ^ 9:=Nat.pow_le_pow_right (by decide) hd
 have hnM:n≤M:=by rw [hM];exact Nat.le_mul_of_pos_right _ hp1
 have hM2:M≤4*2 ^ 9:=by rw [hM];exact Nat.mul_le_mul h4 hp2
 have hNM:N=M+M:=by rw [hN,hM,Nat.pow_succ,← Nat.mul_assoc];omega
 have hk2:cb (8*k+16) d≤8000:=hk
 have hk3:8*k+16≤8000:=Nat.le_trans (cb_up _ d) hk2
 have eL:(some ⟨b,o*9+(M - n)*9,none⟩:Option Addr)=some ⟨b,(o+(M - n))*9,none⟩:=by rw [Nat.add_mul]
 have eR0:(some ⟨b,o*9+M*9,none⟩:Option Addr)=some ⟨b,(o+M)*9,none⟩:=by rw [Nat.add_mul]
 have eR:(some ⟨b,(o+M)*9+(M - n)*9,none⟩:Option Addr)=some ⟨b,(o+M+(M - n))*9,none⟩:=by rw [Nat.add_mul (o+M)]
 have hv2:Vw w R (o+M+(M - n)) n v (fun _=>k):=by rw [show o+M+(M - n)=o+N - n by omega];exact hv
 have HX:Hid (N=M+M∧n≤M∧M=n*2 ^ d∧o+N≤R.length∧2 ^ d≤2 ^ 9∧1≤2 ^ d∧M≤4*2 ^ 9∧2≤n∧n≤4∧b < w.heap.size):=⟨hNM,hnM,hM,hl,hp2,hp1,hM2,h2,h4,hbw⟩
 have HEL:=Lib.hid eL;have HER0:=Lib.hid eR0;have HER:=Lib.hid eR
 have HK:Hid (1≤k∧8*k+16≤8000∧cb (8*k+16) d≤8000):=⟨h1,hk3,hk2⟩
 have HR:=Lib.hid hR;have HV:=Lib.hid hv2;have HIH:=Lib.hid ih
 have hne:((N:Int) == (n:Int))=false:=by rw [beq_eq_false_iff_ne];omega
 have hne2:¬ (N:Int)=(n:Int):=by omega
 clear hR hv hv2 hM hN hNM hl hk hk2 hk3 h1 eL eR0 eR hp1 hp2 hnM hM2 h2 h4 hd ih hbw
 go_enter Tryz.func52,Tryz.ntmps52
 go_wp2_with (first
  | (go_at_call 89;(with_reducible refine (hsplit (o:=o*9) (M:=M) HX.out.1 (by have:=HX.out;omega) (by have:=HX.out;omega)).mono ?_);rintro e w1 ⟨rfl,hh⟩
     have HR1:=Lib.hid (HR.out.below hh)
     have HV1:=Lib.hid (HV.out.below hh)
     have HO1:Hid (Only b w w1):=Below.to_only hh (Nat.le_refl _)
     clear HR HV hh;rw [HER0.out])
  | (go_at_call 51;(with_reducible refine (hlast (o:=o*9) (N:=M) (n:=n) (by have:=HX.out;omega) HX.out.2.1 (by have:=HX.out;omega)).mono ?_);rintro e w2 ⟨rfl,hh⟩
     have HR2:=Lib.hid (HR1.out.below hh)
     have HV2:=Lib.hid (HV1.out.below hh)
     have HO2:=Lib.hid (HO1.out.trans (Below.to_only hh (Nat.le_refl _)))
     clear HR1 HV1 HO1 hh)
  | (go_at_call 51;(with_reducible refine (hlast (o:=(o+M)*9) (N:=M) (n:=n) (by have:=HX.out;omega) HX.out.2.1 (by have:=HX.out;omega)).mono ?_);rintro e w3 ⟨rfl,hh⟩
     have HR3:=Lib.hid (HR2.out.below hh)
     have HV3:=Lib.hid (HV2.out.below hh)
     have HO3:=Lib.hid (HO2.out.trans (Below.to_only hh (Nat.le_refl _)))
     clear HR2 HV2 HO2 hh)
  | (go_at_call 90;(with_reducible refine (hcut_h HEL.out HER.out HR3.out HX.out.2.2.2.2.2.2.2.1 HX.out.2.2.2.2.2.2.2.2.1 (by have:=HX.out;omega) (by have:=HX.out;omega) HV3.out (by have:=HK.out;omega) HK.out.1).mono ?_);rintro e w4 ⟨rfl,R4,hr4,hl4,ho4,hf4,hq4,hon4⟩
     have HR4:=Lib.hid hr4;have HL4:=Lib.hid hl4;have HU4:=Lib.hid ho4;have HF4:=Lib.hid hf4;have HQ4:=Lib.hid hq4
     have HO4:=Lib.hid (HO3.out.trans hon4)
     have HB4:Hid (b < w4.heap.size):=hr4.lt
     clear HR3 HV3 HO3 hr4 hl4 ho4 hf4 hq4 hon4)
  | (go_at_call 52;(with_reducible refine (HIH.out w4 o (8*k+16) M R4 (lf v) HX.out.2.2.1 HR4.out (by have:=HX.out;have:=HL4.out;omega) (by have:=HX.out;rw [show o+M - n=o+(M - n) by omega];exact HF4.out) HK.out.2.2 (by omega) HB4.out).mono ?_);rintro e w5 ⟨v5,rfl,hs5,R5,hr5,hl5,ho5,hp5,hon5⟩
     have HS5:=Lib.hid (hs5.base_le HO4.out.size)
     have HR5:=Lib.hid hr5;have HL5:=Lib.hid hl5;have HU5:=Lib.hid ho5;have HP5:=Lib.hid hp5
     have HQ5:Hid (Vw w5 R5 (o+M+(M - n)) n (rg n v) (fun _=>8*k+16)):=(HQ4.out.box HR4.out.box hon5).same fun j hj=>ho5 _ (by have:=HX.out;omega)
     have HO5:=Lib.hid (HO4.out.trans hon5)
     have HB5:Hid (b < w5.heap.size):=hr5.lt
     clear HR4 HF4 HQ4 HO4 hs5 hr5 hl5 ho5 hp5 hon5)
  | (go_at_call 52;(with_reducible refine (HIH.out w5 (o+M) (8*k+16) M R5 (rg n v) HX.out.2.2.1 HR5.out (by have:=HX.out;have:=HL4.out;have:=HL5.out;omega) (by have:=HX.out;rw [show o+M+M - n=o+M+(M - n) by omega];exact HQ5.out) HK.out.2.2 (by omega) HB5.out).mono ?_);rintro e w6 ⟨v6,rfl,hs6,R6,hr6,hl6,ho6,hp6,hon6⟩
     have HS6:=Lib.hid (hs6.base_le (Nat.le_trans HO5.out.size (Nat.le_refl _)))
     have HS5b:=Lib.hid (HS5.out.only hon6 HX.out.2.2.2.2.2.2.2.2.2)
     have HR6:=Lib.hid hr6;have HL6:=Lib.hid hl6;have HU6:=Lib.hid ho6;have HP6:=Lib.hid hp6
     have HP5b:Hid (∀ j u,(prt n d (lf v))[j]?=some u→Vw w6 R6 (o+n*j) n u (fun _=>cb (8*k+16) d)):=fun j u hj=>((HP5.out j u hj).box HR5.out.box hon6).same fun i hi=>ho6 _ (by
      have h1:=(List.getElem?_eq_some_iff.1 hj).1
      rw [prt_length] at h1
      have h2:n*(j+1)≤n*2 ^ d:=Nat.mul_le_mul_left _ h1
      rw [Nat.mul_succ] at h2
      have:=HX.out
      omega)
     have HO6:=Lib.hid (HO5.out.trans hon6)
     clear HR5 HP5 HQ5 HO5 HS5 hs6 hr6 hl6 ho6 hp6 hon6)
  | (at_builtin
     refine wpList_appS Tryz.underlying63 info_slh (by rfl) _ _ (by rfl) (by simp [Act.eval]) (by simp [Act.eval]) HS5b.out HS6.out (by rw [pl_length];have:=HX.out;omega) HO6.out.size (by rw [pl_length,pl_length];have:=HX.out;omega) ?_
     intro v7 w7 hs7 st7
     have HS7:=Lib.hid hs7;have HT7:=Lib.hid st7;clear hs7 st7))
 (try rw [Exit.noGoto_ret])
 go_ret
 refine ⟨_,rfl,?_,R6,HT7.out.rb HX.out.2.2.2.2.2.2.2.2.2 HR6.out,?_,?_,?_,HT7.out.only HO6.out (Nat.le_refl _)⟩
 · have h:=HS7.out
   rw [HX.out.2.2.1] at h
   exact h
 · rw [HL6.out,HL5.out,HL4.out]
 · intro i hi
   have hX:=HX.out
   have e:n*2 ^ (d+1)=M+M:=by rw [Nat.pow_succ,← Nat.mul_assoc,← hX.2.2.1];omega
   rw [e] at hi
   rw [HU6.out i (by rw [← hX.2.2.1];omega),HU5.out i (by rw [← hX.2.2.1];omega),HU4.out i (by omega) (by omega)]
 · intro j u hj
   refine HT7.out.vw ?_
   rw [prt] at hj
   by_cases hjd:j < 2 ^ d
   · rw [List.getElem?_append_left (by rw [prt_length];exact hjd)] at hj
     exact HP5b.out j u hj
   · rw [List.getElem?_append_right (by rw [prt_length];omega),prt_length] at hj
     have h:=HP6.out _ u hj;have hX:=HX.out
     have e:o+M+n*(j - 2 ^ d)=o+n*j:=by
      rw [hX.2.2.1,Nat.add_assoc,← Nat.mul_add]
      congr 2
      omega
     rw [e] at h
     exact h
theorem hparts_h {b n:Nat} (h2:2≤n) (h4:n≤4):∀ (d:Nat),d≤10→∀ (w:World) (o k N:Nat) (R:List HV) (v:Nat→AH),N=n*2 ^ d→RB w b R→o+N≤R.length→Vw w R (o+N - n) n v (fun _=>k)→cb k d≤8000→1≤k→b < w.heap.size →
 Calls Tryz.prog 52 #[.slice (some ⟨b,o*9,none⟩) N N,.int .i64 (n:Int)] w (fun e w'=>∃ v',e=.returned v'∧LnS 37 w.heap.size w' v' (pl b n d o)∧PartsTo w b o n d R v k w')
 | 0,_=>hparts_0 h2 h4
 | d+1,h=>hparts_s h2 h4 (by omega) (hparts_h h2 h4 d (by omega))
end
section
open Go Go.RowKit
attribute [local go_sem ↓] open_LVH open_STH open_LVJ open_STJ
theorem SV.sl {A:Option Addr} {L:List SLV} (h:SV w A (slvs L)) {i:Nat} {s:SLV} (hi:L[i]?=some s):∃ g o,(∀ (n c:Nat) (w':World),i < n→(Instr.indexAt 63 (.slice A n c) (.int .i64 (i:Int))).run Tryz.prog w'=.ok (.pointer (some ⟨g,o,none⟩)) w')∧g < w.heap.size∧w.cell? ⟨g,o,none⟩=some (.slice s.A s.n s.c):=by
 have hl:=(List.getElem?_eq_some_iff.1 hi).1
 obtain ⟨g,o,e,h1,h2⟩:=h (by simp [slvs];omega)
 refine ⟨g,o+i,fun n c w' hn=>?_,h1,h2 i _ (by simp [slvs,hi,SLV.val])⟩
 subst e
 have ha:∀ j,(⟨g,o,none⟩:Addr).add j=⟨g,o+j,none⟩:=fun j=>by unfold Addr.add;split <;> simp_all
 obtain ⟨i0,hi0,hz,hs,hby⟩:=info_parts info_slh
 have k1:(0:Int)≤(i:Int):=by omega
 have k2:(i:Int) < (n:Int):=by omega
 simp [Instr.indexAt,asIntOf,run_underlying Tryz.underlying63,k1,sizeOf,typeInfo,hi0,hs,ha]
 exact fun e=>absurd hn (by omega)
theorem Vw.push {w w2:World} {S:List HV} {x i:Nat} {v:Nat→AH} {K:Nat→Nat} {p:HV} {T:TypeId} {g:Nat} {cs:Array Value} (h:Vw w S x i v K) (Z:BoxAt T w g cs) (ho:Only g w w2) (hl:x+i < S.length) (hp:HG w2 p (v i) (K i)):Vw w2 (S.set (x+i) p) x (i+1) v K:=fun k hk=>by
 by_cases e:k=i
 · subst e;exact ⟨p,by rw [List.getElem?_set_self hl],hp⟩
 · obtain ⟨q,h1,h2⟩:=h k (by omega)
   exact ⟨q,by rw [List.getElem?_set_ne (by omega)];exact h1,h2.box Z ho⟩
theorem Vw.view {b o n:Nat} {R:List HV} {v:Nat→AH} {K:Nat} (h:Vw w R o n v (fun _=>K)) (hR:RB w b R):∃ L:List HV,SV w (some ⟨b,o*9,none⟩) (hvs L)∧EachH HG w L (li n v) K∧L.length=n:=by
 have hl:((R.drop o).take n).length=n:=by
  rw [List.length_take,List.length_drop]
  by_cases h0:n=0
  · omega
  · obtain ⟨p,h1,_⟩:=h (n - 1) (by omega)
    have:=(List.getElem?_eq_some_iff.1 h1).1
    omega
 have hg:∀ i,i < n→((R.drop o).take n)[i]?=R[o+i]?:=fun i hi=>by rw [List.getElem?_take,if_pos hi,List.getElem?_drop]
 refine ⟨(R.drop o).take n,fun hn=>⟨b,o*9,rfl,hR.lt,fun j u hu=>?_⟩,⟨by rw [hl,li_length],fun i p u hp hu=>?_⟩,hl⟩
 · have hj:=(List.getElem?_eq_some_iff.1 hu).1
   rw [hvs_length,hl] at hj
   have hi:j / 9 < n:=by omega
   obtain ⟨p,h1,_⟩:=h (j / 9) hi
   have h2:=(hg _ hi).trans h1
   have e:j=j / 9*9+j % 9:=by omega
   rw [e] at hu ⊢
   have h3:=(rows_get hvc_len h2 (show j % 9 < 9 by omega)).symm.trans hu
   rw [← Nat.add_assoc,← Nat.add_mul]
   have:=hR.at_ (x:=o) (i:=j / 9) h1
   rw [← Nat.add_mul] at this
   exact this.2 _ _ h3
 · have hi:=(List.getElem?_eq_some_iff.1 hp).1
   rw [hl] at hi;rw [hg i hi] at hp;rw [li_get _ hi] at hu
   obtain ⟨q,h1,h2⟩:=h i hi
   rw [h1] at hp
   cases hp;cases hu
   exact h2
theorem hmany_n {A:Option Addr} {n c:Nat} {dd:Int} (h:dd < 0) :
 Calls Tryz.prog 21 #[.slice A n c,.int .i64 dd] w fun e w'=>e=.returned (.tuple #[.slice none 0 0,.int .i64 1])∧Below w.heap.size w w':=by
 have hs:dd < 0:=h
 clear h
 have hb:Below w.heap.size w w:=Below.refl _ _
 go_enter Tryz.func21,Tryz.ntmps21
 go_wp2_with fail
 (try rw [Exit.noGoto_ret])
 go_ret2
 exact ⟨rfl,hb⟩
theorem hmany_l {A:Option Addr} {n c:Nat} {dd:Int} (h:10 < dd) :
 Calls Tryz.prog 21 #[.slice A n c,.int .i64 dd] w fun e w'=>e=.returned (.tuple #[.slice none 0 0,.int .i64 1])∧Below w.heap.size w w':=by
 have hs:¬ dd < 0:=by omega
 have hs2:(10:Int) < dd:=h
 clear h
 have hb:Below w.heap.size w w:=Below.refl _ _
 go_enter Tryz.func21,Tryz.ntmps21
 go_wp2_with fail
 (try rw [Exit.noGoto_ret])
 go_ret2
 exact ⟨rfl,hb⟩
theorem hmany_form {A:Option Addr} {n c k:Nat} {L:List HV} {V:List AH} {dd:Int} (hL:SV w A (hvs L)) (hE:EachH HR w L V k) (hn:L.length=n) (hk:k≤90000) (h1:1≤k) (h0:0≤dd) (h10:dd≤10) (hG:¬ GoodH V) :
 Calls Tryz.prog 21 #[.slice A n c,.int .i64 dd] w fun e w'=>e=.returned (.tuple #[.slice none 0 0,.int .i64 11])∧Below w.heap.size w w':=by
 have hs:¬ dd < 0:=by omega
 have hs2:¬ (10:Int) < dd:=by omega
 have HL:=Lib.hid hL;have HE:=Lib.hid hE;have HN:=Lib.hid hn;have HG:=Lib.hid hG;clear hL hE hn hG h0 h10
 go_enter Tryz.func21,Tryz.ntmps21
 go_wp2_with (first
  | (go_at_call 29;(with_reducible refine (cgood_any HL.out HE.out HN.out hk h1 false ⟨fun e=>by (cases e),fun e=>absurd e HG.out⟩).mono ?_);rintro e w1 ⟨rfl,hh⟩))
 (try rw [Exit.noGoto_ret])
 go_ret2
 exact ⟨rfl,hh⟩
theorem hmany_ok {A:Option Addr} {n c k:Nat} {L:List HV} {V:List AH} {d:Nat} (hL:SV w A (hvs L)) (hE:EachH HR w L V k) (hn:L.length=n) (hk:k≤900) (h1:1≤k) (hd:d≤10) (hG:GoodH V) (hc:cb (k+2) d≤8000) :
 Calls Tryz.prog 21 #[.slice A n c,.int .i64 (d:Int)] w fun e w'=>∃ v' b R',e=.returned (.tuple #[v',.int .i64 0])∧w.heap.size≤b∧LnS 37 w.heap.size w' v' (pl b n d 0)∧RB w' b R'∧(∀ j u,(prt n d (vfn V))[j]?=some u→Vw w' R' (n*j) n u (fun _=>cb (k+2) d))∧Below w.heap.size w w':=by
 have hs:¬ (d:Int) < 0:=by omega
 have hs2:¬ (10:Int) < (d:Int):=by omega
 have HL:=Lib.hid hL;have HE:=Lib.hid hE;have HN:=Lib.hid hn;have HG:=Lib.hid hG
 have HK:Hid (k≤900∧1≤k∧cb (k+2) d≤8000):=⟨hk,h1,hc⟩
 have HD:=Lib.hid hd
 have HVn:Hid (V.length=n):=hE.1.symm.trans hn
 have HB:Hid (2≤n∧n≤4):=by show _∧_;have:=hG.1;rw [hE.1.symm.trans hn] at this;exact this
 obtain ⟨N,hN⟩:∃ N,N=n*2 ^ d:=⟨_,rfl⟩
 have HNN:=Lib.hid hN
 have hp1:1≤2 ^ d:=Nat.one_le_two_pow
 have hp2:2 ^ d≤2 ^ 10:=Nat.pow_le_pow_right (by decide) hd
 have HNL:Hid (n≤N∧N≤4*2 ^ 10):=⟨by rw [hN];exact Nat.le_mul_of_pos_right _ hp1,by rw [hN];exact Nat.mul_le_mul HB.out.2 hp2⟩
 have hsh:(n:Int)*2 ^ d=(N:Int):=by rw [hN];simp
 have hwN:IntKind.i64.wrap (N:Int)=(N:Int):=IntWalk.i64_in _ (by have:=HNL.out;omega)
 clear hL hE hn hG hk h1 hc hd hN hp1 hp2
 go_enter Tryz.func21,Tryz.ntmps21
 go_upto_region 6 with (first
  | (go_at_call 29;(with_reducible refine (cgood_any HL.out HE.out HN.out (by have:=HK.out;omega) HK.out.2.1 true ⟨fun _=>HG.out,fun _=>rfl⟩).mono ?_);rintro e w1 ⟨rfl,hh⟩))
 have HB1:=Lib.hid hh;clear hh
 obtain ⟨i0,hi0,hz0,hs0,hby0⟩:=info_parts info_hom
 have hmk:=run_make (P:=Tryz.prog) w1 37 79 i0 _ Tryz.underlying37 hi0 hz0 .i64 .i64 (N:Int) (N:Int) (by omega) (Int.le_refl _) (by have:=HNL.out;rw [hby0];omega) (by have:=HNL.out;omega)
 rw [Int.toNat_natCast,hs0,show madeCells zhv.cells (N*9)=(hvs (List.replicate N (⟨⟨false,none,0,0,none,0,0⟩,⟨false,none,0,0,none,0,0⟩,⟨false,none,0,0,none,0,0⟩⟩:HV))).toArray from made_rows hvc_len ⟨⟨false,none,0,0,none,0,0⟩,⟨false,none,0,0,none,0,0⟩,⟨false,none,0,0,none,0,0⟩⟩ N] at hmk
 go_upto_region 7 with (fail)
 have hal:Below w1.heap.size w1 (w1.alloc (Obj.cells (hvs (List.replicate N (⟨⟨false,none,0,0,none,0,0⟩,⟨false,none,0,0,none,0,0⟩,⟨false,none,0,0,none,0,0⟩⟩:HV))).toArray 79)):=(Below.refl _ _).alloc (Nat.le_refl _) _
 have HRT:Hid (RB (w1.alloc (Obj.cells (hvs (List.replicate N (⟨⟨false,none,0,0,none,0,0⟩,⟨false,none,0,0,none,0,0⟩,⟨false,none,0,0,none,0,0⟩⟩:HV))).toArray 79)) w1.heap.size (List.replicate N (⟨⟨false,none,0,0,none,0,0⟩,⟨false,none,0,0,none,0,0⟩,⟨false,none,0,0,none,0,0⟩⟩:HV))):=heap_alloc_new w1 _
 have HLT:Hid ((List.replicate N (⟨⟨false,none,0,0,none,0,0⟩,⟨false,none,0,0,none,0,0⟩,⟨false,none,0,0,none,0,0⟩⟩:HV)).length=N):=List.length_replicate
 have HB2:=Lib.hid (bend HB1.out hal)
 have HBB:Hid (w.heap.size≤w1.heap.size):=HB1.out.size
 clear hmk hal HB1
 generalize (List.replicate N (⟨⟨false,none,0,0,none,0,0⟩,⟨false,none,0,0,none,0,0⟩,⟨false,none,0,0,none,0,0⟩⟩:HV))=RT at *
 generalize (w1.alloc (Obj.cells (hvs RT).toArray 79))=W at *
 generalize w1.heap.size=b at *
 have hvt:Hid (Vw W RT (N - n) 0 (vfn V) (fun _=>k+2)):=fun j hj=>absurd hj (by omega)
 generalize hvf:(vfn V)=vf at hvt
 have HVF:=Lib.hid hvf;clear hvf hi0 hz0 hs0 hby0
 go_wp2_with fail
 go_loopg [27] n (fun gk ix wr=>∃ (i:Nat) (S:List HV),Hid (gk+i=n)∧ix=.int .i64 (i:Int)∧Hid (RB wr b S)∧Hid (S.length=N)∧Hid (Vw wr S (N - n) i vf (fun _=>k+2))∧Hid (Below w.heap.size w wr))
 case atStart=>exact ⟨0,RT,Nat.add_zero _,rfl,HRT,HLT,hvt,HB2⟩
 case round =>
  clear HRT HLT hvt HB2
  obtain ⟨i,S,HGK,rfl,HR,HSL,HW,HBW⟩:=hrel
  by_cases hin:i < n
  · have HIN:=Lib.hid hin
    obtain ⟨P,u,hP1,hu1,p0⟩:=HE.out.at_ (i:=i) (by rw [HN.out];exact hin)
    obtain ⟨g0,o0,hix0,EP0,_⟩:=(HL.out.below HBW.out).ht hP1
    have hixa:∀ w',(Instr.indexAt 37 (.slice A n c) (.int .i64 (i:Int))).run Tryz.prog w'=.ok (.pointer (some ⟨g0,o0,none⟩)) w':=fun w'=>hix0 n c w' hin
    have hlt:(i:Int) < (n:Int):=by omega
    have hwi:IntKind.i64.wrap ((i:Int)+1)=(i:Int)+1:=IntWalk.i64_in _ (by have:=HB.out;omega)
    have HU:Hid (vf i=u):=by
     show _=_
     rw [← HVF.out]
     show V.getD i ⟨0,0,0⟩=u
     rw [List.getD_eq_getElem?_getD,hu1];rfl
    have HP:=Lib.hid (p0.below HBW.out)
    have epl:=EP0.ldH
    have zs:=st_newH wr (.bool P.x.s) (.slice P.x.A P.x.n P.x.c) (.slice P.x.B P.x.m P.x.d) (.bool P.y.s) (.slice P.y.A P.y.n P.y.c) (.slice P.y.B P.y.m P.y.d) (.bool P.w.s) (.slice P.w.A P.w.n P.w.c) (.slice P.w.B P.w.m P.w.d) (by simp [Value.oneCell'])
    clear hP1 hu1 hix0 hin p0 EP0
    go_upto_region 10 with (fail)
    generalize hW2:(wr.alloc (Obj.cells #[Value.bool P.x.s,Value.slice P.x.A P.x.n P.x.c,Value.slice P.x.B P.x.m P.x.d,Value.bool P.y.s,Value.slice P.y.A P.y.n P.y.c,Value.slice P.y.B P.y.m P.y.d,Value.bool P.w.s,Value.slice P.w.A P.w.n P.w.c,Value.slice P.w.B P.w.m P.w.d] 79))=W2
    have hh:Below wr.heap.size wr W2:=by subst hW2;exact (Below.refl _ _).alloc (Nat.le_refl _) _
    have XN:BH W2 (wr.heap.size) (Value.bool P.x.s) (Value.slice P.x.A P.x.n P.x.c) (Value.slice P.x.B P.x.m P.x.d) (Value.bool P.y.s) (Value.slice P.y.A P.y.n P.y.c) (Value.slice P.y.B P.y.m P.y.d) (Value.bool P.w.s) (Value.slice P.w.A P.w.n P.w.c) (Value.slice P.w.B P.w.m P.w.d):=by subst hW2;exact BH.new' _ _ _ _ _ _ _ _ _ _ _ rfl
    have p:=HP.out.below hh
    replace HR:=Lib.hid (HR.out.below hh)
    replace HW:=Lib.hid (HW.out.below hh)
    replace HBW:=Lib.hid (bend HBW.out hh)
    clear hW2 hh zs epl hixa HP
    generalize wr.heap.size=g at *
    replace XN:=XN.below (Below.refl _ _).drew
    replace p:=p.below (Below.refl _ _).drew
    replace HR:=Lib.hid (HR.out.below (Below.refl _ _).drew)
    replace HW:=Lib.hid (HW.out.below (Below.refl _ _).drew)
    replace HBW:=Lib.hid (HBW.out.drew)
    have hixs:∀ w',(Instr.indexAt 37 (.slice (some ⟨b,(N - n)*9,none⟩) n n) (.int .i64 (i:Int))).run Tryz.prog w'=.ok (.pointer (some ⟨b,(N - n)*9+i*9,none⟩)) w':=fun w'=>ixH HIN.out _ _ _ _
    generalize hos:(N - n)*9+i*9=os at hixs
    have HOS:=Lib.hid hos;clear hos
    refine wp_region_last _ (o:=⟨none,.store 79 (.tmp 38) (.tmp 37),0, "halve.go:34",#[⟨6,.data⟩,⟨5,.data⟩,⟨5,.chain⟩,⟨0,.phase⟩,⟨1,.phase⟩,⟨2,.phase⟩,⟨3,.phase⟩,⟨4,.phase⟩,⟨5,.phase⟩],none⟩) rfl (by kernel_rfl) (by kernel_rfl) (by kernel_rfl) rfl ?_
    refine heldH_go (S:=(fun w'=>(LVH ⟨g,0,none⟩).run Tryz.prog w'=.ok (.agg #[.bool P.x.s,.slice P.x.A P.x.n P.x.c,.slice P.x.B P.x.m P.x.d,.bool P.y.s,.slice P.y.A P.y.n P.y.c,.slice P.y.B P.y.m P.y.d,.bool P.w.s,.slice P.w.A P.w.n P.w.c,.slice P.w.B P.w.m P.w.d]) w')) XN.ld (fun hHeld=>?_)
    refine wpAnyH_take (i:=0) (v:=?_) rfl (by kernel_rfl) (by kernel_rfl) (by kernel_rfl) (fun _ _ _ h=>h) (Or.inl ⟨by rfl,?_⟩) hHeld ?_
    rotate_left
    · (intro w hSw;(try dsimp only at hSw);go_simp;try with_reducible rfl)
    simp only [Act.put,List.setIfInBounds_toArray]
    refine wpAnyH_take (i:=1) (v:=?_) rfl (by kernel_rfl) (by kernel_rfl) (by kernel_rfl) (fun _ _ _ h=>h) (Or.inl ⟨by rfl,?_⟩) hHeld ?_
    rotate_left
    · (intro w hSw;(try dsimp only at hSw);go_simp;try with_reducible rfl)
    simp only [Act.put]
    refine wpAnyH_take (i:=3) (v:=?_) rfl (by kernel_rfl) (by kernel_rfl) (by kernel_rfl) (fun _ _ _ h=>h) (Or.inl ⟨by rfl,?_⟩) hHeld ?_
    rotate_left
    · (intro w hSw;(try dsimp only at hSw);go_simp;try with_reducible rfl)
    simp only [Act.put]
    refine wpAnyH_take (i:=4) (v:=?_) rfl (by kernel_rfl) (by kernel_rfl) (by kernel_rfl) (fun _ _ _ h=>h) (Or.inl ⟨by rfl,?_⟩) hHeld ?_
    rotate_left
    · (intro w hSw;(try dsimp only at hSw);go_simp;try with_reducible rfl)
    simp only [Act.put]
    refine wpAnyH_ready (rs:=[2]) (by kernel_rfl) (by simp) ?_
    refine AllReadyH.cons (o:=⟨some 34,.call ⟨.value (.func 51),#[.tmp 32,.tmp 33],#[37,3]⟩,37, "halve.go:34",#[⟨0,.data⟩,⟨1,.data⟩],none⟩) rfl (fun K1 hK1=>?_) AllReadyH.nil
    go_simp
    first
    | (go_at_call 51;(with_reducible refine (hlast (o:=0) (N:=N) (n:=n) (by have:=HB.out;omega) HNL.out.1 (by have:=HNL.out;omega)).mono ?_);rintro e w_a ⟨rfl,hh⟩
       rw [Nat.zero_add];replace XN:=XN.below hh;replace p:=p.below hh
       replace HR:=Lib.hid (HR.out.below hh)
       replace HW:=Lib.hid (HW.out.below hh)
       replace HBW:=Lib.hid (bend HBW.out hh))
    refine hK1.out _ _ (by with_reducible exact XN.ld) (fun hHeld=>?_)
    clear hK1 K1
    refine wpAnyH_ready (rs:=[5]) (by kernel_rfl) (by simp) ?_
    refine AllReadyH.cons (o:=⟨some 37,.call ⟨.value (.func 50),#[.tmp 36],#[79]⟩,79, "halve.go:34",#[⟨4,.data⟩,⟨2,.chain⟩],none⟩) rfl (fun K1 hK1=>?_) AllReadyH.nil
    go_simp
    first
    | (go_at_call 50;(with_reducible refine (hfresh_h p (by have:=HK.out;omega) HK.out.2.1).mono ?_);rintro e w_y ⟨y,rfl,yh,hh⟩
       replace XN:=XN.below hh;replace p:=p.below hh
       replace HR:=Lib.hid (HR.out.below hh)
       replace HW:=Lib.hid (HW.out.below hh)
       replace HBW:=Lib.hid (bend HBW.out hh))
    refine hK1.out _ _ (by with_reducible exact XN.ld) (fun hHeld=>?_)
    clear hK1 K1
    refine wpAnyH_take (i:=6) (v:=?_) rfl (by kernel_rfl) (by kernel_rfl) (by kernel_rfl) (fun _ _ _ h=>h) (Or.inl ⟨by rfl,?_⟩) hHeld ?_
    rotate_left
    · (intro w hSw;(try dsimp only at hSw);go_simp;try with_reducible rfl)
    simp only [Act.put,List.setIfInBounds_toArray]
    refine wpAnyH_done (by kernel_rfl) ?_ _
    obtain ⟨w7,hst,hR7,ho7⟩:=HR.out.st (x:=N - n) (i:=i) (by have:=HNL.out;have:=HIN.out;rw [HSL.out];omega) y
    rw [HOS.out] at hst
    change Oper.wp _ _ _ _ _ _
    go_simp
    have HR7:=Lib.hid hR7
    have HW7:Hid (Vw w7 (S.set (N - n+i) y) (N - n) (i+1) vf (fun _=>k+2)):=HW.out.push HR.out.box ho7 (by have:=HNL.out;have:=HIN.out;rw [HSL.out];omega) (by rw [HU.out];exact yh.box HR.out.box ho7)
    have HB7:Hid (Below w.heap.size w w7):=Below.only HBW.out HBB.out HBW.out.size ho7
    have HS7:Hid ((S.set (N - n+i) y).length=N):=by show _=_;rw [List.length_set];exact HSL.out
    clear hst hixs hHeld hR7 ho7 HR HW HBW XN p yh
    go_wp2_with fail
    go_roundg (gk - 1)
    case measure=>have:=HGK.out;have:=HIN.out;omega
    case rel=>exact ⟨i+1,_,by have:=HGK.out;have:=HIN.out;show _=_;omega,by go_num,HR7,HS7,HW7,HB7⟩
  · have HEQ:Hid (i=n):=by have:=HGK.out;show _=_;omega
    have hlt:¬ (i:Int) < (n:Int):=by omega
    have hip:=hparts_h (b:=b) HB.out.1 HB.out.2 d HD.out wr 0 (k+2) N S vf HNN.out HR.out (by rw [HSL.out];omega) (by have h:=HW.out;rw [HEQ.out] at h;rw [Nat.zero_add];exact h) HK.out.2.2 (by omega) HR.out.lt
    rw [Nat.zero_mul] at hip;have HIP:=Lib.hid hip;clear hin hip
    go_wp2_with (first
     | (go_at_call 52;(with_reducible refine HIP.out.mono ?_);rintro e w8 ⟨v8,rfl,hs8,R8,hr8,hl8,ho8,hp8,hon8⟩
        have HS8:=Lib.hid hs8;have HR8:=Lib.hid hr8;have HP8:=Lib.hid hp8;have HO8:=Lib.hid hon8;clear hs8 hr8 hl8 ho8 hp8 hon8))
    (try rw [Exit.noGoto_ret])
    go_ret2
    refine ⟨v8,b,R8,rfl,HBB.out,HS8.out.base_le HBW.out.size,HR8.out,fun j u hj=>?_,Below.only HBW.out HBB.out HBW.out.size HO8.out⟩
    rw [HVF.out] at hj;have h:=HP8.out j u hj;rw [Nat.zero_add] at h
    exact h
end
section
open Go Go.RowKit
attribute [local go_sem ↓] open_LVH open_STH open_LVJ open_STJ
def GivesCut (w:World) (V:List AH) (n k:Nat) (e:Ending) (w':World):Prop :=
 ∃ AL AR LL LR,e=.returned (.tuple #[.slice AL n n,.slice AR n n,.int .i64 0])∧SV w' AL (hvs LL)∧EachH HG w' LL (li n (lf (vfn V))) (8*k+32)∧LL.length=n∧SV w' AR (hvs LR)∧EachH HG w' LR (li n (rg n (vfn V))) (8*k+32)∧LR.length=n∧Below w.heap.size w w'
theorem bdN (w:World) (n:Nat):Below w.heap.size w (w.drewN n):=⟨rfl,rfl,rfl,Nat.le_refl _,fun _ _=>rfl⟩
theorem hCut_bad {A:Option Addr} {n c k:Nat} {L:List HV} {V:List AH} (hL:SV w A (hvs L)) (hE:EachH HR w L V k) (hn:L.length=n) (hk:k≤90000) (h1:1≤k) (hG:¬ GoodH V) :
 Calls Tryz.prog 20 #[.slice A n c] w fun e w'=>e=.returned (.tuple #[.slice none 0 0,.slice none 0 0,.int .i64 11])∧Below w.heap.size w w':=by
 have HM:=Lib.hid (hmany_form (c:=c) (dd:=1) hL hE hn hk h1 (by decide) (by decide) hG)
 clear hL hE hn hG hk h1
 go_enter Tryz.func20,Tryz.ntmps20
 go_wp2_with (first
  | (go_at_call 21;(with_reducible refine HM.out.mono ?_);rintro e w1 ⟨rfl,hh⟩))
 (try rw [Exit.noGoto_ret])
 refine bodyPost_ret (v:=.tuple #[.slice none 0 0,.slice none 0 0,.int .i64 11]) (by simp [results,Tryz.results20,go_sem]) rfl ⟨rfl,hh⟩
theorem hCut_ok {A:Option Addr} {n c k:Nat} {L:List HV} {V:List AH} (hL:SV w A (hvs L)) (hE:EachH HR w L V k) (hn:L.length=n) (hk:k≤900) (h1:1≤k) (hG:GoodH V) :
 Calls Tryz.prog 20 #[.slice A n c] w (GivesCut w V n k):=by
 have HM:=hmany_ok (c:=c) (d:=1) hL hE hn hk h1 (by decide) hG (show 8*(k+2)+16≤8000 by omega)
 rw [show ((1:Nat):Int)=1 from rfl] at HM
 replace HM:=Lib.hid HM;clear hL hE hn hG hk h1
 go_enter Tryz.func20,Tryz.ntmps20
 go_upto_region 4 with (first
  | (go_at_call 21;(with_reducible refine HM.out.mono ?_);rintro e w1 ⟨v1,b,R1,rfl,hb0,hs,hr,hp,hh⟩
     obtain ⟨A1,c1,rfl⟩:∃ A1 c1,v1=.slice A1 2 c1:=by
      obtain ⟨A,c,e,_⟩:=hs.form
      exact ⟨A,c,by rw [e,pl_length]⟩))
 obtain ⟨g0,o0,i0,hg0,hc0⟩:=hs.sv.sl (pl_get b n 1 0 0 (by decide))
 obtain ⟨g1,o1,i1,hg1,hc1⟩:=hs.sv.sl (pl_get b n 1 0 1 (by decide))
 have hix0:∀ w',(Instr.indexAt 63 (.slice A1 2 c1) (.int .i64 0)).run Tryz.prog w'=.ok (.pointer (some ⟨g0,o0,none⟩)) w':=fun w'=>i0 2 c1 w' (by decide)
 have hix1:∀ w',(Instr.indexAt 63 (.slice A1 2 c1) (.int .i64 1)).run Tryz.prog w'=.ok (.pointer (some ⟨g1,o1,none⟩)) w':=fun w'=>i1 2 c1 w' (by decide)
 obtain ⟨LL,hl1,hl2,hl3⟩:=(hp 0 (lf (vfn V)) rfl).view hr
 obtain ⟨LR,hr1,hr2,hr3⟩:=(hp 1 (rg n (vfn V)) rfl).view hr
 rw [show (0+n*0)*9=n*0*9 by omega] at hc0
 rw [show (0+n*1)*9=n*1*9 by omega] at hc1
 generalize (some ⟨b,n*0*9,none⟩:Option Addr)=AL at *
 generalize (some ⟨b,n*1*9,none⟩:Option Addr)=AR at *
 have HA:Hid (SV w1 AL (hvs LL)∧EachH HG w1 LL (li n (lf (vfn V))) (8*k+32)∧LL.length=n∧SV w1 AR (hvs LR)∧EachH HG w1 LR (li n (rg n (vfn V))) (8*k+32)∧LR.length=n∧Below w.heap.size w w1):=by
  have e:cb (k+2) 1=8*k+32:=by show 8*(k+2)+16=_;omega
  rw [e] at hl2 hr2
  exact ⟨hl1,hl2,hl3,hr1,hr2,hr3,hh⟩
 clear i0 i1 hs hr hp hb0 hl1 hl2 hl3 hr1 hr2 hr3 hh HM
 go_quiet (fail)
 go_wp2_with fail
 refine bodyPost_ret (v:=.tuple #[.slice AL n n,.slice AR n n,.int .i64 0]) (by simp [results,Tryz.results20,go_sem]) rfl ?_
 obtain ⟨h1,h2,h3,h4,h5,h6,h7⟩:=HA.out
 exact ⟨AL,AR,LL,LR,rfl,h1.below (bdN _ _),h2.belowG (bdN _ _),h3,h4.below (bdN _ _),h5.belowG (bdN _ _),h6,bend h7 (bdN _ _)⟩
end
end Go.Proofs.YtfpaeophfcoohaaGreat
