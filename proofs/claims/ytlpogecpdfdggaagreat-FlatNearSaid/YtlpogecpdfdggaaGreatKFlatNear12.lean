/- FlatNear: part 12. -/
import Derived.Deep.AppendLies
import Derived.Deep.LoopGhost
import Derived.Deep.MidRow
import Derived.Laws.IdiomRangeMap
import Derived.LoopIn
import Derived.LoopN
import Derived.LoopNIn
import Derived.RangeFuncBound
import Derived.RangeFuncBox
import Derived.RangeFuncCalls
import Derived.RangeFuncLeaves
import Derived.RangeFuncNested
import Derived.TacticsInMore
import Derived.Test.YtlpogecpdfdggaaGreatProg
import Derived.WalkMore
import Derived.Test.YtlpogecpdfdggaaGreatKFlatNear7
import Derived.Test.YtlpogecpdfdggaaGreatKFlatNear8
import Derived.Test.YtlpogecpdfdggaaGreatKFlatNear9
import Derived.Test.YtlpogecpdfdggaaGreatKFlatNear10
import Derived.Test.YtlpogecpdfdggaaGreatKFlatNear11
set_option linter.unusedVariables false
set_option maxRecDepth 100000
set_option maxHeartbeats 16000000
variable {w:Go.World}
namespace Go.Proofs.YtlpogecpdfdggaaGreat
section
theorem castN (a:Nat):((a:Int):Rat)=(a:Rat):=rfl
theorem natCast_mul' (a b:Nat):((a*b:Nat):Rat)=(a:Rat)*(b:Rat):=by
 rw [← castN,← castN,← castN,Int.natCast_mul,Rat.intCast_mul]
def upQ (v:Rat) (k:Nat):Rat:=v*((4 ^ k:Nat):Rat)
def inQ (R k:Nat):Rat:=Rat.divInt (R:Int) ((2 ^ k:Nat):Int)
theorem two_pos (k:Nat):(0:Rat) < ((2 ^ k:Nat):Rat):=by
 have h:(0:Int) < ((2 ^ k:Nat):Int):=by have:=Nat.two_pow_pos k;omega
 rw [← castN];exact Rat.intCast_lt_intCast.2 h
theorem two_ne (k:Nat):((2 ^ k:Nat):Rat) ≠ 0:=fun h=>by
 have:=two_pos k;rw [h] at this;exact Rat.lt_irrefl this
theorem inQ_eq (R k:Nat):inQ R k*((2 ^ k:Nat):Rat)=(R:Rat):=by
 unfold inQ
 have h:=two_ne k
 rw [← castN (2 ^ k),← castN R,← int1,← int1,Rat.divInt_mul_divInt,Int.mul_one,Rat.divInt_eq_divInt_iff (by have:=Nat.two_pow_pos k;omega) (by decide)]
 simp
theorem four_two (k:Nat):((4 ^ k:Nat):Rat)=((2 ^ k:Nat):Rat)*((2 ^ k:Nat):Rat):=by
 rw [← natCast_mul',← Nat.mul_pow]
theorem four_pos (k:Nat):(0:Rat) < ((4 ^ k:Nat):Rat):=by rw [four_two];exact Rat.mul_pos (two_pos k) (two_pos k)
theorem inQ_sq (R k:Nat):upQ (inQ R k*inQ R k) k=((R*R:Nat):Rat):=by
 unfold upQ
 rw [four_two,natCast_mul',← inQ_eq R k]
 grind
theorem upQ_le {a b:Rat} (k:Nat):upQ a k≤upQ b k ↔ a≤b:=by
 unfold upQ
 constructor
 · exact fun h=>Rat.le_of_mul_le_mul_right h (four_pos k)
 · exact fun h=>Rat.mul_le_mul_of_nonneg_right h (Rat.le_of_lt (four_pos k))
theorem upQ_nonneg {v:Rat} (hv:0≤v) (k:Nat):0≤upQ v k:=Rat.mul_nonneg hv (Rat.le_of_lt (four_pos k))
theorem floor_nn {v:Rat} (hv:0≤v):0≤v.floor:=Rat.le_floor_iff.2 (by simpa using hv)
theorem ceil_nn {v:Rat} (hv:0≤v):0≤v.ceil:=by
 have h:=Rat.le_trans hv (@Rat.le_ceil v)
 have:((0:Int):Rat)≤(v.ceil:Rat):=h
 exact Rat.intCast_le_intCast.1 this
def IsLow (v:Rat) (k R:Nat):Prop:=IsRoot (upQ v k).floor.natAbs R
def IsHigh (v:Rat) (k H:Nat):Prop:=∃ R,IsRoot (upQ v k).ceil.natAbs R∧H=if R*R=(upQ v k).ceil.natAbs then R else R+1
theorem IsLow.le {v:Rat} {k R:Nat} (hv:0≤v) (h:IsLow v k R):inQ R k*inQ R k≤v:=by
 rw [← upQ_le k,inQ_sq]
 have h1:((R*R:Nat):Int)≤(upQ v k).floor:=by have:=h.1;have:=floor_nn (upQ_nonneg hv k);omega
 rw [← castN];exact Rat.le_floor_iff.1 h1
theorem IsHigh.ge {v:Rat} {k H:Nat} (hv:0≤v) (h:IsHigh v k H):v≤inQ H k*inQ H k:=by
 rw [← upQ_le k,inQ_sq]
 obtain ⟨R,h1,h2⟩:=h
 have h0:=ceil_nn (upQ_nonneg hv k)
 have h3:(upQ v k).ceil≤((H*H:Nat):Int):=by
  split at h2
  · rename_i e;subst h2;omega
  · subst h2;have:=h1.2;omega
 rw [← castN];exact Rat.le_trans Rat.le_ceil (Rat.intCast_le_intCast.2 h3)
end
section
open Go Go.RowKit
def fromQ (v u:Int):Rat:=if u < 1 then Rat.divInt 0 1 else Rat.divInt v u
end
section
open Go Go.RowKit
section
variable {W W':World} {g:Nat} {v0 v1 v2 v3 v4 v5:Value}
end
def AM.one:AM:=⟨Rat.divInt 1 1,Rat.divInt 0 1,Rat.divInt 0 1,Rat.divInt 1 1,Rat.divInt 0 1,Rat.divInt 0 1⟩
def AM.of (x0 x1 x2 x3 x4 x5:Int):AM:=⟨fromQ x0 65536,fromQ x1 65536,fromQ x2 65536,fromQ x3 65536,fromQ x4 64,fromQ x5 64⟩
def AM.sab (v u:AM):Bool:=decide (v.a=u.a∧v.b=u.b)
def AM.scd (v u:AM):Bool:=decide (v.c=u.c∧v.d=u.d)
def AM.sef (v u:AM):Bool:=decide (v.e=u.e∧v.f=u.f)
def AM.same (v u:AM):Bool:=(v.sab u && v.scd u) && v.sef u
end
section
open Go Go.RowKit
structure PV where
 s:Bool
 A:Option Addr
 n:Nat
 c:Nat
 B:Option Addr
 m:Nat
 d:Nat
 t:Bool
 E:Option Addr
 i:Nat
 e:Nat
 F:Option Addr
 j:Nat
 f:Nat
def PV.cells (p:PV):List Value:=[.bool p.s,.slice p.A p.n p.c,.slice p.B p.m p.d,.bool p.t,.slice p.E p.i p.e,.slice p.F p.j p.f]
def PV.PG (w:World) (p:PV) (u:Rat × Rat) (k:Nat):Prop:=Go.Proofs.YtlpogecpdfdggaaGreat.PG w p.s p.A p.n p.c p.B p.m p.d p.t p.E p.i p.e p.F p.j p.f u.1 u.2 k
def PV.PR (w:World) (p:PV) (u:Rat × Rat) (k:Nat):Prop:=Go.Proofs.YtlpogecpdfdggaaGreat.PR w p.s p.A p.n p.c p.B p.m p.d p.t p.E p.i p.e p.F p.j p.f u.1 u.2 k
def PV.RP (w:World) (p:PV) (u:Rat × Rat) (k:Nat):Prop:=Go.Proofs.YtlpogecpdfdggaaGreat.RP w p.s p.A p.n p.c p.B p.m p.d p.t p.E p.i p.e p.F p.j p.f u.1 u.2 k
def pvs (L:List PV):List Value:=L.flatMap PV.cells
theorem pvs_cons (p:PV) (L:List PV):pvs (p :: L)=p.cells ++ pvs L:=List.flatMap_cons
theorem pvs_length (L:List PV):(pvs L).length=L.length*6:=by
 induction L with
 | nil=>rfl
 | cons p L ih=>rw [pvs_cons,List.length_append,ih,List.length_cons];show 6+_=_;omega
theorem pvs_get {L:List PV} {i:Nat} {p:PV} (h:L[i]?=some p) {j:Nat} (hj:j < 6):(pvs L)[i*6+j]?=p.cells[j]?:=by
 induction L generalizing i with
 | nil=>cases h
 | cons q L ih =>
   rw [pvs_cons]
   match i with
   | 0 =>
     obtain rfl:q=p:=by simpa using h
     rw [List.getElem?_append_left (show 0*6+j < q.cells.length by show _ < 6;omega)]
     congr 1;omega
   | i+1 =>
     rw [List.getElem?_append_right (show q.cells.length≤(i+1)*6+j by show 6≤_;omega)]
     rw [show (i+1)*6+j - q.cells.length=i*6+j by show (i+1)*6+j - 6=_;omega]
     exact ih h
theorem pvs_free (L:List PV):∀ u ∈ pvs L,∀ (k:IntKind) (x:Int),u ≠ .int k x:=by
 intro u hu k x
 obtain ⟨p,_,hp⟩:=List.mem_flatMap.1 hu
 simp only [PV.cells,List.mem_cons,List.not_mem_nil,or_false] at hp
 rcases hp with rfl | rfl | rfl | rfl | rfl | rfl <;> exact fun e=>by cases e
structure Ln (T:TypeId) (base:Nat) (w:World) (v:Value) (L:List PV):Prop where
 own:w.ownsRow base T 6 v L.length (pvs L)
 free:∀ g,v.ownBlock=some g→∃ cs,BoxAt T w g cs
section
variable {T:TypeId} {base:Nat} {w w':World} {v:Value} {L:List PV}
theorem Ln.nil (T:TypeId) (base:Nat) (w:World):Ln T base w (.slice none 0 0) []:=⟨World.ownsRow_nil w base T 6,fun g h=>by cases h⟩
theorem Ln.kept (h:Ln T base w v L) (hb:∀ g,v.ownBlock=some g→w'.heap[g]?=w.heap[g]?):Ln T base w' v L:=by
 refine ⟨⟨h.own.1,?_⟩,fun g hg=>?_⟩
 · rcases h.own.2 with hn | ⟨g,cap,cur,rfl,h1,h2,h3⟩
   · exact .inl hn
   · exact .inr ⟨g,cap,cur,rfl,h1,(hb g rfl).trans h2,h3⟩
 · obtain ⟨cs,hc⟩:=h.free g hg
   exact ⟨cs,(hb g hg).trans hc.at_,hc.free⟩
theorem Ln.below (h:Ln T base w v L) (hb:Below w.heap.size w w'):Ln T base w' v L:=h.kept fun g hg=>by
 obtain ⟨cs,hc⟩:=h.free g hg
 exact hb.block g hc.lt
theorem Ln.base_le {b:Nat} (h:Ln T base w v L) (hb:b≤base):Ln T b w v L:=by
 refine ⟨⟨h.own.1,?_⟩,h.free⟩
 rcases h.own.2 with hn | ⟨g,cap,cur,rfl,h1,h2⟩
 · exact .inl hn
 · exact .inr ⟨g,cap,cur,rfl,Nat.le_trans hb h1,h2⟩
theorem Ln.lit (w:World) (L:List PV) (hb:base≤w.heap.size) (hL:L.length≤1000000):Ln T base (w.alloc (.cells (pvs L).toArray T)) (.slice (some ⟨w.heap.size,0,none⟩) L.length L.length) L:=by
 refine ⟨⟨pvs_length L,.inr ⟨w.heap.size,L.length,_,rfl,hb,heap_alloc_new w _,Nat.le_refl _,by unfold maxLen;omega,?_,?_⟩⟩,fun g hg=>?_⟩
 · simp [pvs_length]
 · simp [← pvs_length]
 · obtain rfl:w.heap.size=g:=by simpa [Value.ownBlock] using hg
   refine ⟨(pvs L).toArray,heap_alloc_new w _,fun i k x e=>?_⟩
   rw [List.getElem?_toArray] at e
   exact pvs_free L _ (List.mem_of_getElem? e) k x rfl
theorem Ln.form (h:Ln T base w v L):∃ A c,v=.slice A L.length c∧L.length≤c∧(A=none→c=0):=by
 rcases h.own.2 with ⟨rfl,hn⟩ | ⟨g,cap,cur,rfl,_,_,h3,_⟩
 · exact ⟨none,0,by rw [hn],by omega,fun _=>rfl⟩
 · exact ⟨_,cap,rfl,h3,fun e=>by cases e⟩
theorem Ln.at_ (h:Ln T base w v L) {i:Nat} {p:PV} (hi:L[i]?=some p):∃ g c,v=.slice (some ⟨g,0,none⟩) L.length c∧i < L.length∧base≤g∧g < w.heap.size ∧
 w.cell? ⟨g,i*6,none⟩=some (.bool p.s)∧w.cell? ⟨g,i*6+1,none⟩=some (.slice p.A p.n p.c)∧w.cell? ⟨g,i*6+2,none⟩=some (.slice p.B p.m p.d) ∧
 w.cell? ⟨g,i*6+3,none⟩=some (.bool p.t)∧w.cell? ⟨g,i*6+4,none⟩=some (.slice p.E p.i p.e)∧w.cell? ⟨g,i*6+5,none⟩=some (.slice p.F p.j p.f):=by
 have hlt:i < L.length:=(List.getElem?_eq_some_iff.1 hi).1
 rcases h.own.2 with ⟨_,hn⟩ | ⟨g,cap,cur,hv,hb,hg,_⟩
 · omega
 · have hc:=h.own.cells (g:=g) (by rw [hv];rfl)
   have ha:∀ j,(⟨g,0,none⟩:Addr).add j=⟨g,j,none⟩:=fun j=>by unfold Addr.add;split <;> simp_all
   have key:∀ j,j < 6→∀ u,p.cells[j]?=some u→w.cell? ⟨g,i*6+j,none⟩=some u:=fun j hj u hu=>by
    have:=hc (i*6+j) u ((pvs_get hi hj).trans hu)
    rwa [ha] at this
   have hlt2:g < w.heap.size:=by
    rcases Nat.lt_or_ge g w.heap.size with q | q
    · exact q
    · rw [Array.getElem?_eq_none q] at hg;cases hg
   exact ⟨g,cap,hv,hlt,hb,hlt2,key 0 (by decide) _ rfl,key 1 (by decide) _ rfl,key 2 (by decide) _ rfl,key 3 (by decide) _ rfl,key 4 (by decide) _ rfl,key 5 (by decide) _ rfl⟩
end
theorem Ln.stays {T:TypeId} {base:Nat} {w w':World} {v:Value} {L:List PV} (h:Ln T base w v L) (hg:w.grownBy w' v.ownBlock):Below w.heap.size w w' ∨ ∃ g cs,BoxAt T w g cs∧base≤g∧Only g w w':=by
 cases hv:v.ownBlock with
 | none =>
   rw [hv] at hg
   exact .inl ((Below.refl _ _).grown hg (Nat.le_refl _) (fun k e=>by cases e))
 | some g =>
   rw [hv] at hg
   obtain ⟨cs,hc⟩:=h.free g hv
   refine .inr ⟨g,cs,hc,(h.own.lt g hv).1,⟨hg.os,hg.tape,hg.output,hg.size,fun k hk hn=>hg.block k hk (fun e=>hn (by injection e))⟩⟩
end
section
open Go Go.RowKit
section
variable {w w':World} {s t:Bool} {A B E F:Option Addr} {n c m d i e j f k:Nat} {x y:Rat}
theorem PR.box {T:TypeId} {g:Nat} {cs:Array Value} (h:PR w s A n c B m d t E i e F j f x y k) (Z:BoxAt T w g cs) (ho:Only g w w'):PR w' s A n c B m d t E i e F j f x y k:=⟨h.1.box Z ho,h.2.box Z ho⟩
theorem B6.rest {g k:Nat} {x y z u v t:Value} (h:B6 w g x y z u v t) (hne:g ≠ k) (ho:Only k w w'):B6 w' g x y z u v t:=(ho.block g h.lt hne).trans h
end
theorem Ln.of {T:TypeId} {base g n c:Nat} {L:List PV} (h:Ln T base w (.slice (some ⟨g,0,none⟩) n c) L) {i:Nat} {p:PV} (hi:L[i]?=some p):i < n∧g < w.heap.size ∧
 w.cell? ⟨g,i*6,none⟩=some (.bool p.s)∧w.cell? ⟨g,i*6+1,none⟩=some (.slice p.A p.n p.c)∧w.cell? ⟨g,i*6+2,none⟩=some (.slice p.B p.m p.d) ∧
 w.cell? ⟨g,i*6+3,none⟩=some (.bool p.t)∧w.cell? ⟨g,i*6+4,none⟩=some (.slice p.E p.i p.e)∧w.cell? ⟨g,i*6+5,none⟩=some (.slice p.F p.j p.f):=by
 obtain ⟨g',c',hv,h1,_,h2,h3⟩:=h.at_ hi
 have e:g'=g∧n=L.length:=by
  simp only [Value.slice.injEq,Option.some.injEq,Addr.mk.injEq] at hv
  exact ⟨hv.1.1.symm,hv.2.1⟩
 obtain ⟨rfl,hn⟩:=e
 exact ⟨hn ▸ h1,h2,h3⟩
theorem wp_append_at {P:Program} {o:Oper} {a:Act} {K:Act→World→Prop} {Q:Exit→Act→World→Prop} {w w':World} {t:TypeId} (s x:Operand) {v u v':Value} (ho:o.op=.call ⟨.builtin .append,#[s,x],#[t,t]⟩) (hs:a.eval s=v) (hx:a.eval x=u)
 (hr:(Builtin.append_ #[t,t] o.type #[v,u]).run P w=.ok v' w') (hK:K (a.put o.dst v') w'):o.wp P a w K Q:=by
 unfold Oper.wp execOp
 simp only [ho,resolve,invoke,builtin,Sem.run_bind,Sem.run_pure,Result.andThen_ok,List.map_toArray,List.map_cons,List.map_nil,hs,hx,hr]
 exact hK
def Each (G:World→PV→Rat × Rat→Nat→Prop) (w:World) (L:List PV) (l:List (Rat × Rat)) (k:Nat):Prop :=
 L.length=l.length∧∀ (i:Nat) (p:PV) (u:Rat × Rat),L[i]?=some p→l[i]?=some u→G w p u k
theorem Each.nil {G:World→PV→Rat × Rat→Nat→Prop} {k:Nat}:Each G w [] [] k:=⟨rfl,fun i p u h=>by cases h⟩
theorem Each.push {G:World→PV→Rat × Rat→Nat→Prop} {w w':World} {L:List PV} {l:List (Rat × Rat)} {k:Nat} {p:PV} {u:Rat × Rat} (h:Each G w L l k) (hw:∀ p u,G w p u k→G w' p u k) (hp:G w' p u k):Each G w' (L ++ [p]) (l ++ [u]) k:=by
 refine ⟨by rw [List.length_append,List.length_append,h.1];rfl,fun i q v hq hv=>?_⟩
 rcases Nat.lt_or_ge i L.length with hi | hi
 · rw [List.getElem?_append_left hi] at hq
   rw [List.getElem?_append_left (by rw [← h.1];exact hi)] at hv
   exact hw _ _ (h.2 i q v hq hv)
 · rw [List.getElem?_append_right hi] at hq
   rw [List.getElem?_append_right (by rw [← h.1];exact hi)] at hv
   have:i - L.length=0:=by
    have:=(List.getElem?_eq_some_iff.1 hq).1
    simp at this;omega
   rw [this] at hq
   rw [show i - l.length=0 by rw [← h.1];exact this] at hv
   obtain rfl:p=q:=by simpa using hq
   obtain rfl:u=v:=by simpa using hv
   exact hp
theorem Each.imp {G:World→PV→Rat × Rat→Nat→Prop} {w w':World} {L:List PV} {l:List (Rat × Rat)} {k:Nat} (h:Each G w L l k) (hw:∀ p u,G w p u k→G w' p u k):Each G w' L l k:=⟨h.1,fun i p u hp hu=>hw _ _ (h.2 i p u hp hu)⟩
theorem Each.at_ {G:World→PV→Rat × Rat→Nat→Prop} {L:List PV} {l:List (Rat × Rat)} {k:Nat} (h:Each G w L l k) {i:Nat} (hi:i < L.length):∃ p u,L[i]?=some p∧l[i]?=some u∧G w p u k :=
 ⟨_,_,List.getElem?_eq_getElem hi,List.getElem?_eq_getElem (by rw [← h.1];exact hi),h.2 i _ _ (List.getElem?_eq_getElem hi) (List.getElem?_eq_getElem (by rw [← h.1];exact hi))⟩
theorem Each.below {w w':World} {L:List PV} {l:List (Rat × Rat)} {k:Nat} (h:Each PV.PG w L l k) (hb:Below w.heap.size w w'):Each PV.PG w' L l k:=h.imp fun _ _ hp=>PG.below hp hb
theorem Each.stays {T:TypeId} {base:Nat} {w w':World} {v:Value} {M L:List PV} {l:List (Rat × Rat)} {k:Nat} (h:Each PV.PG w L l k) (hn:Ln T base w v M) (hg:w.grownBy w' v.ownBlock):∀ p u,PV.PG w p u k→PV.PG w' p u k:=fun p u hp=>by
 rcases hn.stays hg with q | ⟨g,cs,hB,_,ho⟩
 · exact PG.below hp q
 · exact PG.box hp hB ho
theorem Ln.under {T:TypeId} {base:Nat} {w0 w w':World} {v:Value} {M:List PV} (hn:Ln T base w v M) (hg:w.grownBy w' v.ownBlock) (hb:Below w0.heap.size w0 w) (hb0:w0.heap.size≤base):Below w0.heap.size w0 w':=by
 rcases hn.stays hg with q | ⟨g,cs,hB,hg2,ho⟩
 · exact bend hb q
 · exact Below.only hb (Nat.le_trans hb0 hg2) hb.size ho
def GivesLn (w:World) (l:List (Rat × Rat)) (k:Nat) (en:Ending) (w':World):Prop :=
 ∃ v L,en=.returned v∧Ln 49 w.heap.size w' v L∧Each PV.PG w' L l k∧Below w.heap.size w w'
end
section
open Go Go.RowKit
structure CV where
 p:PV
 q:QV
def CV.cells (x:CV):List Value:=x.p.cells ++ x.q.cells
theorem qvs_append (L M:List QV):qvs (L ++ M)=qvs L ++ qvs M:=List.flatMap_append
theorem rows_length {α:Type} {f:α→List Value} {m:Nat} (hf:∀ x,(f x).length=m) (L:List α):(L.flatMap f).length=L.length*m:=by
 induction L with
 | nil=>simp
 | cons p L ih=>rw [List.flatMap_cons,List.length_append,ih,hf,List.length_cons,Nat.succ_mul];omega
theorem rows_get {α:Type} {f:α→List Value} {m:Nat} (hf:∀ x,(f x).length=m) {L:List α} {i:Nat} {p:α} (h:L[i]?=some p) {j:Nat} (hj:j < m):(L.flatMap f)[i*m+j]?=(f p)[j]?:=by
 induction L generalizing i with
 | nil=>cases h
 | cons q L ih =>
   rw [List.flatMap_cons]
   match i with
   | 0 =>
     obtain rfl:q=p:=by simpa using h
     rw [Nat.zero_mul,Nat.zero_add,List.getElem?_append_left (by rw [hf];exact hj)]
   | i+1 =>
     rw [Nat.succ_mul,List.getElem?_append_right (by rw [hf];omega),hf,show i*m+m+j - m=i*m+j by omega]
     exact ih h
theorem pvc_len (p:PV):p.cells.length=6:=rfl
theorem qvc_len (p:QV):p.cells.length=3:=rfl
def SV (w:World) (A:Option Addr) (vs:List Value):Prop:=0 < vs.length→∃ g o,A=some ⟨g,o,none⟩∧g < w.heap.size∧∀ j u,vs[j]?=some u→w.cell? ⟨g,o+j,none⟩=some u
theorem SV.nil (w:World) (A:Option Addr):SV w A []:=fun h=>absurd h (by simp)
theorem SV.below {w w':World} {A:Option Addr} {vs:List Value} (h:SV w A vs) (hb:Below w.heap.size w w'):SV w' A vs:=fun hn=>by
 obtain ⟨g,o,e,h1,h2⟩:=h hn
 exact ⟨g,o,e,Nat.lt_of_lt_of_le h1 hb.size,fun j u hu=>(hb.cell (p:=⟨g,o+j,none⟩) h1).trans (h2 j u hu)⟩
theorem SV.lt {A:Option Addr} {vs:List Value} (h:SV w A vs) {g o:Nat} (e:A=some ⟨g,o,none⟩) (hn:0 < vs.length):g < w.heap.size:=by
 obtain ⟨g2,o2,e2,h1,_⟩:=h hn
 rw [e] at e2;cases e2;exact h1
def E6x (w:World) (g o:Nat) (p:PV):Prop:=g < w.heap.size∧w.cell? ⟨g,o,none⟩=some (.bool p.s)∧w.cell? ⟨g,o+1,none⟩=some (.slice p.A p.n p.c)∧w.cell? ⟨g,o+2,none⟩=some (.slice p.B p.m p.d)∧w.cell? ⟨g,o+3,none⟩=some (.bool p.t)∧w.cell? ⟨g,o+4,none⟩=some (.slice p.E p.i p.e)∧w.cell? ⟨g,o+5,none⟩=some (.slice p.F p.j p.f)
section
variable {w w':World} {g o k:Nat} {p:PV}
theorem E6x.lt (h:E6x w g o p):g < w.heap.size:=h.1
theorem E6x.c0 (h:E6x w g o p):w.cell? ⟨g,o,none⟩=some (.bool p.s):=h.2.1
theorem E6x.c1 (h:E6x w g o p):w.cell? ⟨g,o+1,none⟩=some (.slice p.A p.n p.c):=h.2.2.1
theorem E6x.c2 (h:E6x w g o p):w.cell? ⟨g,o+2,none⟩=some (.slice p.B p.m p.d):=h.2.2.2.1
theorem E6x.c3 (h:E6x w g o p):w.cell? ⟨g,o+3,none⟩=some (.bool p.t):=h.2.2.2.2.1
theorem E6x.c4 (h:E6x w g o p):w.cell? ⟨g,o+4,none⟩=some (.slice p.E p.i p.e):=h.2.2.2.2.2.1
theorem E6x.c5 (h:E6x w g o p):w.cell? ⟨g,o+5,none⟩=some (.slice p.F p.j p.f):=h.2.2.2.2.2.2
theorem E6x.all (h:E6x w g o p):w.cell? ⟨g,o,none⟩=some (.bool p.s)∧w.cell? ⟨g,o+1,none⟩=some (.slice p.A p.n p.c)∧w.cell? ⟨g,o+2,none⟩=some (.slice p.B p.m p.d)∧w.cell? ⟨g,o+3,none⟩=some (.bool p.t)∧w.cell? ⟨g,o+4,none⟩=some (.slice p.E p.i p.e)∧w.cell? ⟨g,o+5,none⟩=some (.slice p.F p.j p.f):=⟨h.c0,h.c1,h.c2,h.c3,h.c4,h.c5⟩
theorem E6x.below (h:E6x w g o p) (hb:Below w.heap.size w w'):E6x w' g o p:=⟨Nat.lt_of_lt_of_le h.1 hb.size,(hb.cell (p:=⟨g,o,none⟩) h.1).trans h.c0,(hb.cell (p:=⟨g,o+1,none⟩) h.1).trans h.c1,(hb.cell (p:=⟨g,o+2,none⟩) h.1).trans h.c2,(hb.cell (p:=⟨g,o+3,none⟩) h.1).trans h.c3,(hb.cell (p:=⟨g,o+4,none⟩) h.1).trans h.c4,(hb.cell (p:=⟨g,o+5,none⟩) h.1).trans h.c5⟩
theorem E6x.rest (h:E6x w g o p) (hne:g ≠ k) (ho:Only k w w'):E6x w' g o p:=⟨Nat.lt_of_lt_of_le h.1 ho.size,(World.cell?_of_block (a:=⟨g,o,none⟩) (ho.block g h.1 hne)).trans h.c0,(World.cell?_of_block (a:=⟨g,o+1,none⟩) (ho.block g h.1 hne)).trans h.c1,(World.cell?_of_block (a:=⟨g,o+2,none⟩) (ho.block g h.1 hne)).trans h.c2,(World.cell?_of_block (a:=⟨g,o+3,none⟩) (ho.block g h.1 hne)).trans h.c3,(World.cell?_of_block (a:=⟨g,o+4,none⟩) (ho.block g h.1 hne)).trans h.c4,(World.cell?_of_block (a:=⟨g,o+5,none⟩) (ho.block g h.1 hne)).trans h.c5⟩
end
theorem SV.pt {A:Option Addr} {L:List PV} (h:SV w A (pvs L)) {i:Nat} {p:PV} (hi:L[i]?=some p):∃ g o,(∀ (n c:Nat) (w':World),i < n→(Instr.indexAt 104 (.slice A n c) (.int .i64 (i:Int))).run Tryz.prog w'=.ok (.pointer (some ⟨g,o,none⟩)) w')∧E6x w g o p∧∃ o0,A=some ⟨g,o0,none⟩:=by
 have hl:=(List.getElem?_eq_some_iff.1 hi).1
 obtain ⟨g,o,e,h1,h2⟩:=h (by rw [show (pvs L).length=L.length*6 from rows_length pvc_len L];omega)
 have key:∀ j,j < 6→∀ u,p.cells[j]?=some u→w.cell? ⟨g,o+i*6+j,none⟩=some u:=fun j hj u hu=>by
  rw [Nat.add_assoc];exact h2 _ u ((rows_get pvc_len hi hj).trans hu)
 refine ⟨g,o+i*6,fun n c w' hn=>?_,⟨h1,key 0 (by decide) _ rfl,key 1 (by decide) _ rfl,key 2 (by decide) _ rfl,key 3 (by decide) _ rfl,key 4 (by decide) _ rfl,key 5 (by decide) _ rfl⟩,o,e⟩
 subst e
 have ha:∀ j,(⟨g,o,none⟩:Addr).add j=⟨g,o+j,none⟩:=fun j=>by unfold Addr.add;split <;> simp_all
 obtain ⟨i0,hi0,hz,hs,hby⟩:=info_parts (show (Tryz.prog.info? 49).map (fun i=>(i.zero,i.size,i.bytes))=some (some (.agg #[.bool false,.slice none 0 0,.slice none 0 0,.bool false,.slice none 0 0,.slice none 0 0]),6,112) by kernel_rfl)
 have k1:(0:Int)≤(i:Int):=by omega
 have k2:(i:Int) < (n:Int):=by omega
 simp [Instr.indexAt,asIntOf,run_underlying Tryz.underlying104,k1,sizeOf,typeInfo,hi0,hs,ha]
 exact fun e=>absurd hn (by omega)
def E3x (w:World) (g o:Nat) (p:QV):Prop:=g < w.heap.size∧w.cell? ⟨g,o,none⟩=some (.bool p.s)∧w.cell? ⟨g,o+1,none⟩=some (.slice p.A p.n p.c)∧w.cell? ⟨g,o+2,none⟩=some (.slice p.B p.m p.d)
section
variable {w w':World} {g o k:Nat} {p:QV}
theorem E3x.lt (h:E3x w g o p):g < w.heap.size:=h.1
theorem E3x.c0 (h:E3x w g o p):w.cell? ⟨g,o,none⟩=some (.bool p.s):=h.2.1
theorem E3x.c1 (h:E3x w g o p):w.cell? ⟨g,o+1,none⟩=some (.slice p.A p.n p.c):=h.2.2.1
theorem E3x.c2 (h:E3x w g o p):w.cell? ⟨g,o+2,none⟩=some (.slice p.B p.m p.d):=h.2.2.2
theorem E3x.all (h:E3x w g o p):w.cell? ⟨g,o,none⟩=some (.bool p.s)∧w.cell? ⟨g,o+1,none⟩=some (.slice p.A p.n p.c)∧w.cell? ⟨g,o+2,none⟩=some (.slice p.B p.m p.d):=⟨h.c0,h.c1,h.c2⟩
theorem E3x.below (h:E3x w g o p) (hb:Below w.heap.size w w'):E3x w' g o p:=⟨Nat.lt_of_lt_of_le h.1 hb.size,(hb.cell (p:=⟨g,o,none⟩) h.1).trans h.c0,(hb.cell (p:=⟨g,o+1,none⟩) h.1).trans h.c1,(hb.cell (p:=⟨g,o+2,none⟩) h.1).trans h.c2⟩
theorem E3x.rest (h:E3x w g o p) (hne:g ≠ k) (ho:Only k w w'):E3x w' g o p:=⟨Nat.lt_of_lt_of_le h.1 ho.size,(World.cell?_of_block (a:=⟨g,o,none⟩) (ho.block g h.1 hne)).trans h.c0,(World.cell?_of_block (a:=⟨g,o+1,none⟩) (ho.block g h.1 hne)).trans h.c1,(World.cell?_of_block (a:=⟨g,o+2,none⟩) (ho.block g h.1 hne)).trans h.c2⟩
end
theorem SV.qt {A:Option Addr} {L:List QV} (h:SV w A (qvs L)) {i:Nat} {p:QV} (hi:L[i]?=some p):∃ g o,(∀ (n c:Nat) (w':World),i < n→(Instr.indexAt 67 (.slice A n c) (.int .i64 (i:Int))).run Tryz.prog w'=.ok (.pointer (some ⟨g,o,none⟩)) w')∧E3x w g o p∧∃ o0,A=some ⟨g,o0,none⟩:=by
 have hl:=(List.getElem?_eq_some_iff.1 hi).1
 obtain ⟨g,o,e,h1,h2⟩:=h (by rw [show (qvs L).length=L.length*3 from rows_length qvc_len L];omega)
 have key:∀ j,j < 3→∀ u,p.cells[j]?=some u→w.cell? ⟨g,o+i*3+j,none⟩=some u:=fun j hj u hu=>by
  rw [Nat.add_assoc];exact h2 _ u ((rows_get qvc_len hi hj).trans hu)
 refine ⟨g,o+i*3,fun n c w' hn=>?_,⟨h1,key 0 (by decide) _ rfl,key 1 (by decide) _ rfl,key 2 (by decide) _ rfl⟩,o,e⟩
 subst e
 have ha:∀ j,(⟨g,o,none⟩:Addr).add j=⟨g,o+j,none⟩:=fun j=>by unfold Addr.add;split <;> simp_all
 obtain ⟨i0,hi0,hz,hs,hby⟩:=info_parts (show (Tryz.prog.info? 27).map (fun i=>(i.zero,i.size,i.bytes))=some (some (.agg #[.bool false,.slice none 0 0,.slice none 0 0]),3,56) by kernel_rfl)
 have k1:(0:Int)≤(i:Int):=by omega
 have k2:(i:Int) < (n:Int):=by omega
 simp [Instr.indexAt,asIntOf,run_underlying Tryz.underlying67,k1,sizeOf,typeInfo,hi0,hs,ha]
 exact fun e=>absurd hn (by omega)
def E9x (w:World) (g o:Nat) (p:CV):Prop:=g < w.heap.size∧w.cell? ⟨g,o,none⟩=some (.bool p.p.s)∧w.cell? ⟨g,o+1,none⟩=some (.slice p.p.A p.p.n p.p.c)∧w.cell? ⟨g,o+2,none⟩=some (.slice p.p.B p.p.m p.p.d)∧w.cell? ⟨g,o+3,none⟩=some (.bool p.p.t)∧w.cell? ⟨g,o+4,none⟩=some (.slice p.p.E p.p.i p.p.e)∧w.cell? ⟨g,o+5,none⟩=some (.slice p.p.F p.p.j p.p.f)∧w.cell? ⟨g,o+6,none⟩=some (.bool p.q.s)∧w.cell? ⟨g,o+7,none⟩=some (.slice p.q.A p.q.n p.q.c)∧w.cell? ⟨g,o+8,none⟩=some (.slice p.q.B p.q.m p.q.d)
section
variable {w w':World} {g o k:Nat} {p:CV}
theorem E9x.lt (h:E9x w g o p):g < w.heap.size:=h.1
theorem E9x.c0 (h:E9x w g o p):w.cell? ⟨g,o,none⟩=some (.bool p.p.s):=h.2.1
theorem E9x.c1 (h:E9x w g o p):w.cell? ⟨g,o+1,none⟩=some (.slice p.p.A p.p.n p.p.c):=h.2.2.1
theorem E9x.c2 (h:E9x w g o p):w.cell? ⟨g,o+2,none⟩=some (.slice p.p.B p.p.m p.p.d):=h.2.2.2.1
theorem E9x.c3 (h:E9x w g o p):w.cell? ⟨g,o+3,none⟩=some (.bool p.p.t):=h.2.2.2.2.1
theorem E9x.c4 (h:E9x w g o p):w.cell? ⟨g,o+4,none⟩=some (.slice p.p.E p.p.i p.p.e):=h.2.2.2.2.2.1
theorem E9x.c5 (h:E9x w g o p):w.cell? ⟨g,o+5,none⟩=some (.slice p.p.F p.p.j p.p.f):=h.2.2.2.2.2.2.1
theorem E9x.c6 (h:E9x w g o p):w.cell? ⟨g,o+6,none⟩=some (.bool p.q.s):=h.2.2.2.2.2.2.2.1
theorem E9x.c7 (h:E9x w g o p):w.cell? ⟨g,o+7,none⟩=some (.slice p.q.A p.q.n p.q.c):=h.2.2.2.2.2.2.2.2.1
theorem E9x.c8 (h:E9x w g o p):w.cell? ⟨g,o+8,none⟩=some (.slice p.q.B p.q.m p.q.d):=h.2.2.2.2.2.2.2.2.2
theorem E9x.all (h:E9x w g o p):w.cell? ⟨g,o,none⟩=some (.bool p.p.s)∧w.cell? ⟨g,o+1,none⟩=some (.slice p.p.A p.p.n p.p.c)∧w.cell? ⟨g,o+2,none⟩=some (.slice p.p.B p.p.m p.p.d)∧w.cell? ⟨g,o+3,none⟩=some (.bool p.p.t)∧w.cell? ⟨g,o+4,none⟩=some (.slice p.p.E p.p.i p.p.e)∧w.cell? ⟨g,o+5,none⟩=some (.slice p.p.F p.p.j p.p.f)∧w.cell? ⟨g,o+6,none⟩=some (.bool p.q.s)∧w.cell? ⟨g,o+7,none⟩=some (.slice p.q.A p.q.n p.q.c)∧w.cell? ⟨g,o+8,none⟩=some (.slice p.q.B p.q.m p.q.d):=⟨h.c0,h.c1,h.c2,h.c3,h.c4,h.c5,h.c6,h.c7,h.c8⟩
theorem E9x.below (h:E9x w g o p) (hb:Below w.heap.size w w'):E9x w' g o p:=⟨Nat.lt_of_lt_of_le h.1 hb.size,(hb.cell (p:=⟨g,o,none⟩) h.1).trans h.c0,(hb.cell (p:=⟨g,o+1,none⟩) h.1).trans h.c1,(hb.cell (p:=⟨g,o+2,none⟩) h.1).trans h.c2,(hb.cell (p:=⟨g,o+3,none⟩) h.1).trans h.c3,(hb.cell (p:=⟨g,o+4,none⟩) h.1).trans h.c4,(hb.cell (p:=⟨g,o+5,none⟩) h.1).trans h.c5,(hb.cell (p:=⟨g,o+6,none⟩) h.1).trans h.c6,(hb.cell (p:=⟨g,o+7,none⟩) h.1).trans h.c7,(hb.cell (p:=⟨g,o+8,none⟩) h.1).trans h.c8⟩
theorem E9x.rest (h:E9x w g o p) (hne:g ≠ k) (ho:Only k w w'):E9x w' g o p:=⟨Nat.lt_of_lt_of_le h.1 ho.size,(World.cell?_of_block (a:=⟨g,o,none⟩) (ho.block g h.1 hne)).trans h.c0,(World.cell?_of_block (a:=⟨g,o+1,none⟩) (ho.block g h.1 hne)).trans h.c1,(World.cell?_of_block (a:=⟨g,o+2,none⟩) (ho.block g h.1 hne)).trans h.c2,(World.cell?_of_block (a:=⟨g,o+3,none⟩) (ho.block g h.1 hne)).trans h.c3,(World.cell?_of_block (a:=⟨g,o+4,none⟩) (ho.block g h.1 hne)).trans h.c4,(World.cell?_of_block (a:=⟨g,o+5,none⟩) (ho.block g h.1 hne)).trans h.c5,(World.cell?_of_block (a:=⟨g,o+6,none⟩) (ho.block g h.1 hne)).trans h.c6,(World.cell?_of_block (a:=⟨g,o+7,none⟩) (ho.block g h.1 hne)).trans h.c7,(World.cell?_of_block (a:=⟨g,o+8,none⟩) (ho.block g h.1 hne)).trans h.c8⟩
end
def RowB (T:TypeId) (w:World) (g:Nat) (vs:List Value):Prop:=∃ cs,BoxAt T w g cs∧vs.length≤cs.size∧∀ (j:Nat) (u:Value),vs[j]?=some u→cs[j]?=some u
section
variable {T:TypeId} {w w':World} {g k:Nat} {vs:List Value} {cs:Array Value}
theorem RowB.below (h:RowB T w g vs) (hb:Below w.heap.size w w'):RowB T w' g vs:=by
 obtain ⟨cs,h1,h2⟩:=h;exact ⟨cs,h1.below hb,h2⟩
theorem RowB.rest (h:RowB T w g vs) (hne:g ≠ k) (ho:Only k w w'):RowB T w' g vs:=by
 obtain ⟨cs,h1,h2⟩:=h;exact ⟨cs,⟨(ho.block g h1.lt hne).trans h1.at_,h1.free⟩,h2⟩
theorem RowB.sv (h:RowB T w g vs):SV w (some ⟨g,0,none⟩) vs:=fun _=>by
 obtain ⟨cs,h1,h2,h3⟩:=h
 refine ⟨g,0,rfl,h1.lt,fun j u hu=>?_⟩
 rw [Nat.zero_add,cell_of_row w g j _ _ (0,0) h1.at_];exact h3 j u hu
theorem BoxAt.sv (h:BoxAt T w g vs.toArray):SV w (some ⟨g,0,none⟩) vs:=fun _=>⟨g,0,rfl,h.lt,fun j u hu=>by
 rw [Nat.zero_add,cell_of_row w g j _ _ (0,0) h.at_];simpa using hu⟩
theorem BoxAt.ne {T':TypeId} {cs':Array Value} (h:BoxAt T w g cs) (h':BoxAt T' w k cs') (hne:T ≠ T' ∨ cs.size ≠ cs'.size):g ≠ k:=by
 rintro rfl
 have e:=h.at_.symm.trans h'.at_
 simp only [Option.some.injEq,Obj.cells.injEq] at e
 rcases hne with q | q
 · exact q e.2.1
 · exact q (by rw [e.1])
end
def SNr (T:TypeId) (base n:Nat) (vs:List Value) (w:World) (A:Option Addr):Prop:=0 < n→∃ g,A=some ⟨g,0,none⟩∧base≤g∧RowB T w g vs
theorem SNr.below {T:TypeId} {base n:Nat} {vs:List Value} {w w':World} {A:Option Addr} (h:SNr T base n vs w A) (hb:Below w.heap.size w w'):SNr T base n vs w' A:=fun hn=>by
 obtain ⟨g,e,h1,h2⟩:=h hn;exact ⟨g,e,h1,h2.below hb⟩
theorem SNr.sv {T:TypeId} {base n:Nat} {vs:List Value} {A:Option Addr} (h:SNr T base n vs w A) (hn:0 < n):SV w A vs:=by
 obtain ⟨g,rfl,_,h2⟩:=h hn;exact h2.sv
theorem qvs_free (L:List QV):∀ u ∈ qvs L,∀ (k:IntKind) (x:Int),u ≠ .int k x:=by
 intro u hu k x
 obtain ⟨p,_,hp⟩:=List.mem_flatMap.1 hu
 simp only [QV.cells,List.mem_cons,List.not_mem_nil,or_false] at hp
 rcases hp with rfl | rfl | rfl <;> exact fun e=>by cases e
end
section
structure AH where
 x:Rat
 y:Rat
 w:Rat
def mixQ (a b t:Rat):Rat:=a+(b - a)*t
def AH.mix (p q:AH) (t:Rat):AH:=⟨mixQ p.x q.x t,mixQ p.y q.y t,mixQ p.w q.w t⟩
def rowB (t:Rat):List AH→List AH
 | p :: q :: r=>p.mix q t :: rowB t (q :: r)
 | _=>[]
theorem rowB_length (t:Rat):∀ l:List AH,(rowB t l).length=l.length - 1
 | []=>rfl
 | [_]=>rfl
 | p :: q :: r=>by rw [rowB,List.length_cons,rowB_length t (q :: r)];simp
theorem rowB_get (t:Rat):∀ (l:List AH) (i:Nat) (p q:AH),l[i]?=some p→l[i+1]?=some q→(rowB t l)[i]?=some (p.mix q t)
 | [],_,_,_,h,_=>by cases h
 | [_],i,_,_,_,h=>by cases h
 | a :: b :: r,0,p,q,h,k=>by
   obtain rfl:a=p:=by simpa using h
   obtain rfl:b=q:=by simpa using k
   rfl
 | a :: b :: r,i+1,p,q,h,k=>by
   rw [rowB,List.getElem?_cons_succ]
   exact rowB_get t (b :: r) i p q (by simpa using h) (by simpa using k)
def rowN (t:Rat):Nat→List AH→List AH
 | 0,l=>l
 | n+1,l=>rowN t n (rowB t l)
theorem rowN_succ (t:Rat):∀ (n:Nat) (l:List AH),rowN t (n+1) l=rowB t (rowN t n l)
 | 0,_=>rfl
 | n+1,l=>by rw [rowN,rowN_succ t n (rowB t l)];rfl
theorem rowN_length (t:Rat):∀ (n:Nat) (l:List AH),(rowN t n l).length=l.length - n
 | 0,_=>rfl
 | n+1,l=>by rw [rowN_succ,rowB_length,rowN_length t n l];omega
def bez (t:Rat) (l:List AH):AH:=(rowN t (l.length - 1) l).headD ⟨0,0,0⟩
theorem bez_last (t:Rat) (l:List AH) (h:0 < l.length):rowN t (l.length - 1) l=[bez t l]:=by
 have e:=rowN_length t (l.length - 1) l
 unfold bez
 match hq:rowN t (l.length - 1) l,e with
 | [],e=>simp at e;omega
 | [a],_=>rfl
 | a :: b :: r,e=>simp at e;omega
theorem mixQ_nonneg {a b t:Rat} (ha:0≤a) (hb:0≤b) (h0:0≤t) (h1:t≤1):0≤mixQ a b t:=by
 have e:mixQ a b t=a*(1 - t)+b*t:=by unfold mixQ;grind
 rw [e]
 have:=Rat.mul_nonneg ha (show 0≤1 - t by grind)
 have:=Rat.mul_nonneg hb h0
 grind
theorem mixQ_pos {a b t:Rat} (ha:0 < a) (hb:0 < b) (h0:0≤t) (h1:t≤1):0 < mixQ a b t:=by
 have e:mixQ a b t=a*(1 - t)+b*t:=by unfold mixQ;grind
 rw [e]
 by_cases q:t≤0
 · obtain rfl:t=0:=Rat.le_antisymm q h0
   grind
 · have:=Rat.mul_pos hb (show 0 < t by grind)
   have:=Rat.mul_nonneg (show 0≤a by grind) (show 0≤1 - t by grind)
   grind
def AH.lin (p:AH) (a b c:Rat):Rat:=a*p.x+b*p.y+c*p.w
theorem lin_mix (p q:AH) (t a b c:Rat):(p.mix q t).lin a b c=mixQ (p.lin a b c) (q.lin a b c) t:=by
 unfold AH.lin AH.mix mixQ;grind
theorem rowB_pos {t a b c:Rat} (h0:0≤t) (h1:t≤1):∀ l:List AH,(∀ p ∈ l,0 < p.lin a b c)→∀ p ∈ rowB t l,0 < p.lin a b c
 | [],_,p,hp=>by cases hp
 | [_],_,p,hp=>by cases hp
 | u :: v :: r,h,p,hp=>by
   rcases List.mem_cons.1 hp with rfl | hp
   · rw [lin_mix];exact mixQ_pos (h u (by simp)) (h v (by simp)) h0 h1
   · exact rowB_pos h0 h1 (v :: r) (fun p hp=>h p (List.mem_cons_of_mem _ hp)) p hp
theorem rowN_pos {t a b c:Rat} (h0:0≤t) (h1:t≤1):∀ (n:Nat) (l:List AH),(∀ p ∈ l,0 < p.lin a b c)→∀ p ∈ rowN t n l,0 < p.lin a b c
 | 0,_,h=>h
 | n+1,l,h=>rowN_pos h0 h1 n (rowB t l) (rowB_pos h0 h1 l h)
theorem bez_mem {t:Rat} {l:List AH} (h:0 < l.length):bez t l ∈ rowN t (l.length - 1) l:=by rw [bez_last t l h];simp
theorem lin_w (p:AH):p.lin 0 0 1=p.w:=by unfold AH.lin;grind
theorem bez_w {t:Rat} {l:List AH} (h:0 < l.length) (h0:0≤t) (h1:t≤1) (hw:∀ p ∈ l,0 < p.w):0 < (bez t l).w:=by
 rw [← lin_w]
 exact rowN_pos h0 h1 _ l (fun p hp=>by rw [lin_w];exact hw p hp) _ (bez_mem h)
def AH.px (p:AH):Rat:=p.x*(1 / p.w)
def AH.py (p:AH):Rat:=p.y*(1 / p.w)
theorem mul_cancel {x w:Rat} (h:w ≠ 0):x*(1 / w)*w=x:=by grind
theorem AH.eq {p q:AH} (h1:p.x=q.x) (h2:p.y=q.y) (h3:p.w=q.w):p=q:=by cases p;cases q;simp_all
end
section
open Go Go.RowKit
structure HV where
 x:QV
 y:QV
 w:QV
def HV.cells (h:HV):List Value:=[.bool h.x.s,.slice h.x.A h.x.n h.x.c,.slice h.x.B h.x.m h.x.d,.bool h.y.s,.slice h.y.A h.y.n h.y.c,.slice h.y.B h.y.m h.y.d,.bool h.w.s,.slice h.w.A h.w.n h.w.c,.slice h.w.B h.w.m h.w.d]
def hvs (L:List HV):List Value:=L.flatMap HV.cells
theorem hvs_cons (p:HV) (L:List HV):hvs (p :: L)=p.cells ++ hvs L:=List.flatMap_cons
theorem hvs_append (L M:List HV):hvs (L ++ M)=hvs L ++ hvs M:=List.flatMap_append
theorem hvc_len (p:HV):p.cells.length=9:=rfl
theorem hvs_length (L:List HV):(hvs L).length=L.length*9:=rows_length hvc_len L
theorem hv_free (p:HV):∀ u ∈ p.cells,∀ (k:IntKind) (x:Int),u ≠ .int k x:=by
 intro u hu k x
 simp only [HV.cells,List.mem_cons,List.not_mem_nil,or_false] at hu
 rcases hu with rfl | rfl | rfl | rfl | rfl | rfl | rfl | rfl | rfl <;> exact fun e=>by cases e
theorem hv_one (p:HV):∀ u ∈ p.cells,u.oneCell'=true:=by
 intro u hu
 simp only [HV.cells,List.mem_cons,List.not_mem_nil,or_false] at hu
 rcases hu with rfl | rfl | rfl | rfl | rfl | rfl | rfl | rfl | rfl <;> rfl
theorem hvs_free (L:List HV):∀ u ∈ hvs L,∀ (k:IntKind) (x:Int),u ≠ .int k x:=by
 intro u hu k x
 obtain ⟨p,_,hp⟩:=List.mem_flatMap.1 hu
 exact hv_free p u hp k x
def BH (W:World) (g:Nat) (v0 v1 v2 v3 v4 v5 v6 v7 v8:Value):Prop:=W.heap[g]?=some (.cells #[v0,v1,v2,v3,v4,v5,v6,v7,v8] 55 (0,0))
section
variable {W W':World} {g:Nat} {v0 v1 v2 v3 v4 v5 v6 v7 v8:Value}
theorem BH.c0 (h:BH W g v0 v1 v2 v3 v4 v5 v6 v7 v8):W.cell? ⟨g,0,none⟩=some v0:=by rw [cell_of_row W g 0 _ _ (0,0) h];rfl
theorem BH.c1 (h:BH W g v0 v1 v2 v3 v4 v5 v6 v7 v8):W.cell? ⟨g,1,none⟩=some v1:=by rw [cell_of_row W g 1 _ _ (0,0) h];rfl
theorem BH.c2 (h:BH W g v0 v1 v2 v3 v4 v5 v6 v7 v8):W.cell? ⟨g,2,none⟩=some v2:=by rw [cell_of_row W g 2 _ _ (0,0) h];rfl
theorem BH.c3 (h:BH W g v0 v1 v2 v3 v4 v5 v6 v7 v8):W.cell? ⟨g,3,none⟩=some v3:=by rw [cell_of_row W g 3 _ _ (0,0) h];rfl
theorem BH.c4 (h:BH W g v0 v1 v2 v3 v4 v5 v6 v7 v8):W.cell? ⟨g,4,none⟩=some v4:=by rw [cell_of_row W g 4 _ _ (0,0) h];rfl
theorem BH.c5 (h:BH W g v0 v1 v2 v3 v4 v5 v6 v7 v8):W.cell? ⟨g,5,none⟩=some v5:=by rw [cell_of_row W g 5 _ _ (0,0) h];rfl
theorem BH.c6 (h:BH W g v0 v1 v2 v3 v4 v5 v6 v7 v8):W.cell? ⟨g,6,none⟩=some v6:=by rw [cell_of_row W g 6 _ _ (0,0) h];rfl
theorem BH.c7 (h:BH W g v0 v1 v2 v3 v4 v5 v6 v7 v8):W.cell? ⟨g,7,none⟩=some v7:=by rw [cell_of_row W g 7 _ _ (0,0) h];rfl
theorem BH.c8 (h:BH W g v0 v1 v2 v3 v4 v5 v6 v7 v8):W.cell? ⟨g,8,none⟩=some v8:=by rw [cell_of_row W g 8 _ _ (0,0) h];rfl
theorem BH.all (h:BH W g v0 v1 v2 v3 v4 v5 v6 v7 v8):W.cell? ⟨g,0,none⟩=some v0∧W.cell? ⟨g,1,none⟩=some v1∧W.cell? ⟨g,2,none⟩=some v2∧W.cell? ⟨g,3,none⟩=some v3∧W.cell? ⟨g,4,none⟩=some v4∧W.cell? ⟨g,5,none⟩=some v5∧W.cell? ⟨g,6,none⟩=some v6∧W.cell? ⟨g,7,none⟩=some v7∧W.cell? ⟨g,8,none⟩=some v8:=⟨h.c0,h.c1,h.c2,h.c3,h.c4,h.c5,h.c6,h.c7,h.c8⟩
theorem BH.f0 (h:BH W g v0 v1 v2 v3 v4 v5 v6 v7 v8):W.frozen? ⟨g,0,none⟩=false:=frozen_of_row W g 0 _ _ h
theorem BH.f1 (h:BH W g v0 v1 v2 v3 v4 v5 v6 v7 v8):W.frozen? ⟨g,1,none⟩=false:=frozen_of_row W g 1 _ _ h
theorem BH.f2 (h:BH W g v0 v1 v2 v3 v4 v5 v6 v7 v8):W.frozen? ⟨g,2,none⟩=false:=frozen_of_row W g 2 _ _ h
theorem BH.f3 (h:BH W g v0 v1 v2 v3 v4 v5 v6 v7 v8):W.frozen? ⟨g,3,none⟩=false:=frozen_of_row W g 3 _ _ h
theorem BH.f4 (h:BH W g v0 v1 v2 v3 v4 v5 v6 v7 v8):W.frozen? ⟨g,4,none⟩=false:=frozen_of_row W g 4 _ _ h
theorem BH.f5 (h:BH W g v0 v1 v2 v3 v4 v5 v6 v7 v8):W.frozen? ⟨g,5,none⟩=false:=frozen_of_row W g 5 _ _ h
theorem BH.f6 (h:BH W g v0 v1 v2 v3 v4 v5 v6 v7 v8):W.frozen? ⟨g,6,none⟩=false:=frozen_of_row W g 6 _ _ h
theorem BH.f7 (h:BH W g v0 v1 v2 v3 v4 v5 v6 v7 v8):W.frozen? ⟨g,7,none⟩=false:=frozen_of_row W g 7 _ _ h
theorem BH.f8 (h:BH W g v0 v1 v2 v3 v4 v5 v6 v7 v8):W.frozen? ⟨g,8,none⟩=false:=frozen_of_row W g 8 _ _ h
theorem BH.lt (h:BH W g v0 v1 v2 v3 v4 v5 v6 v7 v8):g < W.heap.size:=World.block_lt_of_cell? W _ h.c0
theorem BH.below (h:BH W g v0 v1 v2 v3 v4 v5 v6 v7 v8) (hb:Below W.heap.size W W'):BH W' g v0 v1 v2 v3 v4 v5 v6 v7 v8:=(hb.block g h.lt).trans h
theorem BH.alloc (h:BH W g v0 v1 v2 v3 v4 v5 v6 v7 v8) (o:Obj):BH (W.alloc o) g v0 v1 v2 v3 v4 v5 v6 v7 v8:=(Below.heap_alloc W o g h.lt).trans h
theorem BH.new' (W:World) (v0 v1 v2 v3 v4 v5 v6 v7 v8:Value) (g:Nat) (hg:g=W.heap.size):BH (W.alloc (.cells #[v0,v1,v2,v3,v4,v5,v6,v7,v8] 55)) g v0 v1 v2 v3 v4 v5 v6 v7 v8:=by subst hg;exact heap_alloc_new W _
theorem BH.set9 (h:BH W g v0 v1 v2 v3 v4 v5 v6 v7 v8) (a0 a1 a2 a3 a4 a5 a6 a7 a8:Value):BH (((((((((W.setCell ⟨g,0,none⟩ a0).setCell ⟨g,1,none⟩ a1).setCell ⟨g,2,none⟩ a2).setCell ⟨g,3,none⟩ a3).setCell ⟨g,4,none⟩ a4).setCell ⟨g,5,none⟩ a5).setCell ⟨g,6,none⟩ a6).setCell ⟨g,7,none⟩ a7).setCell ⟨g,8,none⟩ a8) g a0 a1 a2 a3 a4 a5 a6 a7 a8:=by
 unfold BH at h ⊢
 have h0:=heap_setCell_same _ g 0 _ _ a0 h
 simp only [List.setIfInBounds_toArray,List.set_cons_zero] at h0
 have h1:=heap_setCell_same _ g 1 _ _ a1 h0
 simp only [List.setIfInBounds_toArray,List.set_cons_zero,List.set_cons_succ] at h1
 have h2:=heap_setCell_same _ g 2 _ _ a2 h1
 simp only [List.setIfInBounds_toArray,List.set_cons_zero,List.set_cons_succ] at h2
 have h3:=heap_setCell_same _ g 3 _ _ a3 h2
 simp only [List.setIfInBounds_toArray,List.set_cons_zero,List.set_cons_succ] at h3
 have h4:=heap_setCell_same _ g 4 _ _ a4 h3
 simp only [List.setIfInBounds_toArray,List.set_cons_zero,List.set_cons_succ] at h4
 have h5:=heap_setCell_same _ g 5 _ _ a5 h4
 simp only [List.setIfInBounds_toArray,List.set_cons_zero,List.set_cons_succ] at h5
 have h6:=heap_setCell_same _ g 6 _ _ a6 h5
 simp only [List.setIfInBounds_toArray,List.set_cons_zero,List.set_cons_succ] at h6
 have h7:=heap_setCell_same _ g 7 _ _ a7 h6
 simp only [List.setIfInBounds_toArray,List.set_cons_zero,List.set_cons_succ] at h7
 have h8:=heap_setCell_same _ g 8 _ _ a8 h7
 simp only [List.setIfInBounds_toArray,List.set_cons_zero,List.set_cons_succ] at h8
 exact h8
theorem BH.restm {k:Nat} (h:BH W g v0 v1 v2 v3 v4 v5 v6 v7 v8) (hne:g ≠ k) (ho:Only k W W'):BH W' g v0 v1 v2 v3 v4 v5 v6 v7 v8:=(ho.block g h.lt hne).trans h
def LVH (a:Addr):Sem Value:=loadVar 55 a
theorem open_LVH (a:Addr):loadVar 55 a=LVH a:=rfl
def STH (a:Addr) (v:Value):Sem Unit:=storeVar 55 a v
theorem open_STH (a:Addr) (v:Value):storeVar 55 a v=STH a v:=rfl
theorem BH.ld (h:BH W g v0 v1 v2 v3 v4 v5 v6 v7 v8):(LVH ⟨g,0,none⟩).run Tryz.prog W=.ok (.agg #[v0,v1,v2,v3,v4,v5,v6,v7,v8]) W :=
 run_loadVar_row W g _ _ _ (0,0) _ h Tryz.underlying55 rfl (by kernel_rfl)
theorem BH.st (h:BH W g v0 v1 v2 v3 v4 v5 v6 v7 v8) (a0 a1 a2 a3 a4 a5 a6 a7 a8:Value) (h1:∀ v ∈ [a0,a1,a2,a3,a4,a5,a6,a7,a8],v.oneCell'=true):(STH ⟨g,0,none⟩ (.agg #[a0,a1,a2,a3,a4,a5,a6,a7,a8])).run Tryz.prog W=.ok () (((((((((W.setCell ⟨g,0,none⟩ a0).setCell ⟨g,1,none⟩ a1).setCell ⟨g,2,none⟩ a2).setCell ⟨g,3,none⟩ a3).setCell ⟨g,4,none⟩ a4).setCell ⟨g,5,none⟩ a5).setCell ⟨g,6,none⟩ a6).setCell ⟨g,7,none⟩ a7).setCell ⟨g,8,none⟩ a8):=by
 have hc:(storeCells ⟨g,0,none⟩ [a0,a1,a2,a3,a4,a5,a6,a7,a8] 0).run Tryz.prog W=.ok () (((((((((W.setCell ⟨g,0,none⟩ a0).setCell ⟨g,1,none⟩ a1).setCell ⟨g,2,none⟩ a2).setCell ⟨g,3,none⟩ a3).setCell ⟨g,4,none⟩ a4).setCell ⟨g,5,none⟩ a5).setCell ⟨g,6,none⟩ a6).setCell ⟨g,7,none⟩ a7).setCell ⟨g,8,none⟩ a8) :=
  run_storeCells_cells g 0 [a0,a1,a2,a3,a4,a5,a6,a7,a8] 0 W (fun j hj=>by rw [cell_of_row W g _ _ _ (0,0) h];simp only [List.length_cons,List.length_nil] at hj;simp;omega) (fun j _=>frozen_of_row W g _ _ _ h) h1
 have hz:(sizeOf 55).run Tryz.prog W=.ok 9 W:=by
  have hi:(Tryz.prog.info? 55).map (·.size)=some 9:=by kernel_rfl
  cases hq:Tryz.prog.info? 55 with
  | none=>simp [hq] at hi
  | some i=>simp [hq] at hi;simp [sizeOf,typeInfo,hq,hi]
 unfold STH storeVar
 simp only [Sem.run_bind,hz,Result.andThen_ok]
 exact hc
end
def BJ (W:World) (g:Nat) (v0 v1 v2 v3 v4 v5 v6 v7 v8:Value):Prop:=W.heap[g]?=some (.cells #[v0,v1,v2,v3,v4,v5,v6,v7,v8] 65 (0,0))
section
variable {W W':World} {g:Nat} {v0 v1 v2 v3 v4 v5 v6 v7 v8:Value}
theorem BJ.c0 (h:BJ W g v0 v1 v2 v3 v4 v5 v6 v7 v8):W.cell? ⟨g,0,none⟩=some v0:=by rw [cell_of_row W g 0 _ _ (0,0) h];rfl
theorem BJ.c1 (h:BJ W g v0 v1 v2 v3 v4 v5 v6 v7 v8):W.cell? ⟨g,1,none⟩=some v1:=by rw [cell_of_row W g 1 _ _ (0,0) h];rfl
theorem BJ.c2 (h:BJ W g v0 v1 v2 v3 v4 v5 v6 v7 v8):W.cell? ⟨g,2,none⟩=some v2:=by rw [cell_of_row W g 2 _ _ (0,0) h];rfl
theorem BJ.c3 (h:BJ W g v0 v1 v2 v3 v4 v5 v6 v7 v8):W.cell? ⟨g,3,none⟩=some v3:=by rw [cell_of_row W g 3 _ _ (0,0) h];rfl
theorem BJ.c4 (h:BJ W g v0 v1 v2 v3 v4 v5 v6 v7 v8):W.cell? ⟨g,4,none⟩=some v4:=by rw [cell_of_row W g 4 _ _ (0,0) h];rfl
theorem BJ.c5 (h:BJ W g v0 v1 v2 v3 v4 v5 v6 v7 v8):W.cell? ⟨g,5,none⟩=some v5:=by rw [cell_of_row W g 5 _ _ (0,0) h];rfl
theorem BJ.c6 (h:BJ W g v0 v1 v2 v3 v4 v5 v6 v7 v8):W.cell? ⟨g,6,none⟩=some v6:=by rw [cell_of_row W g 6 _ _ (0,0) h];rfl
theorem BJ.c7 (h:BJ W g v0 v1 v2 v3 v4 v5 v6 v7 v8):W.cell? ⟨g,7,none⟩=some v7:=by rw [cell_of_row W g 7 _ _ (0,0) h];rfl
theorem BJ.c8 (h:BJ W g v0 v1 v2 v3 v4 v5 v6 v7 v8):W.cell? ⟨g,8,none⟩=some v8:=by rw [cell_of_row W g 8 _ _ (0,0) h];rfl
theorem BJ.all (h:BJ W g v0 v1 v2 v3 v4 v5 v6 v7 v8):W.cell? ⟨g,0,none⟩=some v0∧W.cell? ⟨g,1,none⟩=some v1∧W.cell? ⟨g,2,none⟩=some v2∧W.cell? ⟨g,3,none⟩=some v3∧W.cell? ⟨g,4,none⟩=some v4∧W.cell? ⟨g,5,none⟩=some v5∧W.cell? ⟨g,6,none⟩=some v6∧W.cell? ⟨g,7,none⟩=some v7∧W.cell? ⟨g,8,none⟩=some v8:=⟨h.c0,h.c1,h.c2,h.c3,h.c4,h.c5,h.c6,h.c7,h.c8⟩
theorem BJ.f0 (h:BJ W g v0 v1 v2 v3 v4 v5 v6 v7 v8):W.frozen? ⟨g,0,none⟩=false:=frozen_of_row W g 0 _ _ h
theorem BJ.f1 (h:BJ W g v0 v1 v2 v3 v4 v5 v6 v7 v8):W.frozen? ⟨g,1,none⟩=false:=frozen_of_row W g 1 _ _ h
theorem BJ.f2 (h:BJ W g v0 v1 v2 v3 v4 v5 v6 v7 v8):W.frozen? ⟨g,2,none⟩=false:=frozen_of_row W g 2 _ _ h
theorem BJ.f3 (h:BJ W g v0 v1 v2 v3 v4 v5 v6 v7 v8):W.frozen? ⟨g,3,none⟩=false:=frozen_of_row W g 3 _ _ h
theorem BJ.f4 (h:BJ W g v0 v1 v2 v3 v4 v5 v6 v7 v8):W.frozen? ⟨g,4,none⟩=false:=frozen_of_row W g 4 _ _ h
theorem BJ.f5 (h:BJ W g v0 v1 v2 v3 v4 v5 v6 v7 v8):W.frozen? ⟨g,5,none⟩=false:=frozen_of_row W g 5 _ _ h
theorem BJ.f6 (h:BJ W g v0 v1 v2 v3 v4 v5 v6 v7 v8):W.frozen? ⟨g,6,none⟩=false:=frozen_of_row W g 6 _ _ h
theorem BJ.f7 (h:BJ W g v0 v1 v2 v3 v4 v5 v6 v7 v8):W.frozen? ⟨g,7,none⟩=false:=frozen_of_row W g 7 _ _ h
theorem BJ.f8 (h:BJ W g v0 v1 v2 v3 v4 v5 v6 v7 v8):W.frozen? ⟨g,8,none⟩=false:=frozen_of_row W g 8 _ _ h
theorem BJ.lt (h:BJ W g v0 v1 v2 v3 v4 v5 v6 v7 v8):g < W.heap.size:=World.block_lt_of_cell? W _ h.c0
theorem BJ.below (h:BJ W g v0 v1 v2 v3 v4 v5 v6 v7 v8) (hb:Below W.heap.size W W'):BJ W' g v0 v1 v2 v3 v4 v5 v6 v7 v8:=(hb.block g h.lt).trans h
theorem BJ.alloc (h:BJ W g v0 v1 v2 v3 v4 v5 v6 v7 v8) (o:Obj):BJ (W.alloc o) g v0 v1 v2 v3 v4 v5 v6 v7 v8:=(Below.heap_alloc W o g h.lt).trans h
theorem BJ.new' (W:World) (v0 v1 v2 v3 v4 v5 v6 v7 v8:Value) (g:Nat) (hg:g=W.heap.size):BJ (W.alloc (.cells #[v0,v1,v2,v3,v4,v5,v6,v7,v8] 65)) g v0 v1 v2 v3 v4 v5 v6 v7 v8:=by subst hg;exact heap_alloc_new W _
theorem BJ.set9 (h:BJ W g v0 v1 v2 v3 v4 v5 v6 v7 v8) (a0 a1 a2 a3 a4 a5 a6 a7 a8:Value):BJ (((((((((W.setCell ⟨g,0,none⟩ a0).setCell ⟨g,1,none⟩ a1).setCell ⟨g,2,none⟩ a2).setCell ⟨g,3,none⟩ a3).setCell ⟨g,4,none⟩ a4).setCell ⟨g,5,none⟩ a5).setCell ⟨g,6,none⟩ a6).setCell ⟨g,7,none⟩ a7).setCell ⟨g,8,none⟩ a8) g a0 a1 a2 a3 a4 a5 a6 a7 a8:=by
 unfold BJ at h ⊢
 have h0:=heap_setCell_same _ g 0 _ _ a0 h
 simp only [List.setIfInBounds_toArray,List.set_cons_zero] at h0
 have h1:=heap_setCell_same _ g 1 _ _ a1 h0
 simp only [List.setIfInBounds_toArray,List.set_cons_zero,List.set_cons_succ] at h1
 have h2:=heap_setCell_same _ g 2 _ _ a2 h1
 simp only [List.setIfInBounds_toArray,List.set_cons_zero,List.set_cons_succ] at h2
 have h3:=heap_setCell_same _ g 3 _ _ a3 h2
 simp only [List.setIfInBounds_toArray,List.set_cons_zero,List.set_cons_succ] at h3
 have h4:=heap_setCell_same _ g 4 _ _ a4 h3
 simp only [List.setIfInBounds_toArray,List.set_cons_zero,List.set_cons_succ] at h4
 have h5:=heap_setCell_same _ g 5 _ _ a5 h4
 simp only [List.setIfInBounds_toArray,List.set_cons_zero,List.set_cons_succ] at h5
 have h6:=heap_setCell_same _ g 6 _ _ a6 h5
 simp only [List.setIfInBounds_toArray,List.set_cons_zero,List.set_cons_succ] at h6
 have h7:=heap_setCell_same _ g 7 _ _ a7 h6
 simp only [List.setIfInBounds_toArray,List.set_cons_zero,List.set_cons_succ] at h7
 have h8:=heap_setCell_same _ g 8 _ _ a8 h7
 simp only [List.setIfInBounds_toArray,List.set_cons_zero,List.set_cons_succ] at h8
 exact h8
theorem BJ.restm {k:Nat} (h:BJ W g v0 v1 v2 v3 v4 v5 v6 v7 v8) (hne:g ≠ k) (ho:Only k W W'):BJ W' g v0 v1 v2 v3 v4 v5 v6 v7 v8:=(ho.block g h.lt hne).trans h
def LVJ (a:Addr):Sem Value:=loadVar 65 a
theorem open_LVJ (a:Addr):loadVar 65 a=LVJ a:=rfl
def STJ (a:Addr) (v:Value):Sem Unit:=storeVar 65 a v
theorem open_STJ (a:Addr) (v:Value):storeVar 65 a v=STJ a v:=rfl
theorem BJ.ld (h:BJ W g v0 v1 v2 v3 v4 v5 v6 v7 v8):(LVJ ⟨g,0,none⟩).run Tryz.prog W=.ok (.agg #[v0,v1,v2,v3,v4,v5,v6,v7,v8]) W :=
 run_loadVar_row W g _ _ _ (0,0) _ h Tryz.underlying65 rfl (by kernel_rfl)
theorem BJ.st (h:BJ W g v0 v1 v2 v3 v4 v5 v6 v7 v8) (a0 a1 a2 a3 a4 a5 a6 a7 a8:Value) (h1:∀ v ∈ [a0,a1,a2,a3,a4,a5,a6,a7,a8],v.oneCell'=true):(STJ ⟨g,0,none⟩ (.agg #[a0,a1,a2,a3,a4,a5,a6,a7,a8])).run Tryz.prog W=.ok () (((((((((W.setCell ⟨g,0,none⟩ a0).setCell ⟨g,1,none⟩ a1).setCell ⟨g,2,none⟩ a2).setCell ⟨g,3,none⟩ a3).setCell ⟨g,4,none⟩ a4).setCell ⟨g,5,none⟩ a5).setCell ⟨g,6,none⟩ a6).setCell ⟨g,7,none⟩ a7).setCell ⟨g,8,none⟩ a8):=by
 have hc:(storeCells ⟨g,0,none⟩ [a0,a1,a2,a3,a4,a5,a6,a7,a8] 0).run Tryz.prog W=.ok () (((((((((W.setCell ⟨g,0,none⟩ a0).setCell ⟨g,1,none⟩ a1).setCell ⟨g,2,none⟩ a2).setCell ⟨g,3,none⟩ a3).setCell ⟨g,4,none⟩ a4).setCell ⟨g,5,none⟩ a5).setCell ⟨g,6,none⟩ a6).setCell ⟨g,7,none⟩ a7).setCell ⟨g,8,none⟩ a8) :=
  run_storeCells_cells g 0 [a0,a1,a2,a3,a4,a5,a6,a7,a8] 0 W (fun j hj=>by rw [cell_of_row W g _ _ _ (0,0) h];simp only [List.length_cons,List.length_nil] at hj;simp;omega) (fun j _=>frozen_of_row W g _ _ _ h) h1
 have hz:(sizeOf 65).run Tryz.prog W=.ok 9 W:=by
  have hi:(Tryz.prog.info? 65).map (·.size)=some 9:=by kernel_rfl
  cases hq:Tryz.prog.info? 65 with
  | none=>simp [hq] at hi
  | some i=>simp [hq] at hi;simp [sizeOf,typeInfo,hq,hi]
 unfold STJ storeVar
 simp only [Sem.run_bind,hz,Result.andThen_ok]
 exact hc
end
theorem below_set9 {B g:Nat} {w W:World} (h:Below B w W) (hg:B≤g) (a0 a1 a2 a3 a4 a5 a6 a7 a8:Value):Below B w (((((((((W.setCell ⟨g,0,none⟩ a0).setCell ⟨g,1,none⟩ a1).setCell ⟨g,2,none⟩ a2).setCell ⟨g,3,none⟩ a3).setCell ⟨g,4,none⟩ a4).setCell ⟨g,5,none⟩ a5).setCell ⟨g,6,none⟩ a6).setCell ⟨g,7,none⟩ a7).setCell ⟨g,8,none⟩ a8):=((((((((h.setCell hg _).setCell hg _).setCell hg _).setCell hg _).setCell hg _).setCell hg _).setCell hg _).setCell hg _).setCell hg _
theorem only_set9 (W:World) (g:Nat) (a0 a1 a2 a3 a4 a5 a6 a7 a8:Value):Only g W (((((((((W.setCell ⟨g,0,none⟩ a0).setCell ⟨g,1,none⟩ a1).setCell ⟨g,2,none⟩ a2).setCell ⟨g,3,none⟩ a3).setCell ⟨g,4,none⟩ a4).setCell ⟨g,5,none⟩ a5).setCell ⟨g,6,none⟩ a6).setCell ⟨g,7,none⟩ a7).setCell ⟨g,8,none⟩ a8):=(((((((((Only.refl g W).setCell 0 _).setCell 1 _).setCell 2 _).setCell 3 _).setCell 4 _).setCell 5 _).setCell 6 _).setCell 7 _).setCell 8 _
theorem Rd.offBH {K:IntKind} {W:World} {g:Nat} {s0:Bool} {s1:Bool} {s2:Bool} {A1:Option Addr} {n1 c1:Nat} {A2:Option Addr} {n2 c2:Nat} {A4:Option Addr} {n4 c4:Nat} {A5:Option Addr} {n5 c5:Nat} {A7:Option Addr} {n7 c7:Nat} {A8:Option Addr} {n8 c8:Nat} {A:Option Addr} {n:Nat} {l:List Nat} (hr:Rd K W A n l) (h:BH W g (.bool s0) (.slice A1 n1 c1) (.slice A2 n2 c2) (.bool s1) (.slice A4 n4 c4) (.slice A5 n5 c5) (.bool s2) (.slice A7 n7 c7) (.slice A8 n8 c8)):Off A n g:=by
 intro hn ad e hg
 obtain ⟨b,o,eA,hc⟩:=hr.at_ hn
 obtain ⟨x,_,hx⟩:=hc 0 hn
 rw [eA] at e
 cases e
 have hg2:b=g:=hg
 subst hg2
 rw [cell_of_row W b (o+0) _ _ (0,0) h] at hx
 match o,hx with
 | 0,hx=>cases hx
 | 1,hx=>cases hx
 | 2,hx=>cases hx
 | 3,hx=>cases hx
 | 4,hx=>cases hx
 | 5,hx=>cases hx
 | 6,hx=>cases hx
 | 7,hx=>cases hx
 | 8,hx=>cases hx
 | o+9,hx=>cases hx
theorem Rd.offBJ {K:IntKind} {W:World} {g:Nat} {s0:Bool} {s1:Bool} {s2:Bool} {A1:Option Addr} {n1 c1:Nat} {A2:Option Addr} {n2 c2:Nat} {A4:Option Addr} {n4 c4:Nat} {A5:Option Addr} {n5 c5:Nat} {A7:Option Addr} {n7 c7:Nat} {A8:Option Addr} {n8 c8:Nat} {A:Option Addr} {n:Nat} {l:List Nat} (hr:Rd K W A n l) (h:BJ W g (.bool s0) (.slice A1 n1 c1) (.slice A2 n2 c2) (.bool s1) (.slice A4 n4 c4) (.slice A5 n5 c5) (.bool s2) (.slice A7 n7 c7) (.slice A8 n8 c8)):Off A n g:=by
 intro hn ad e hg
 obtain ⟨b,o,eA,hc⟩:=hr.at_ hn
 obtain ⟨x,_,hx⟩:=hc 0 hn
 rw [eA] at e
 cases e
 have hg2:b=g:=hg
 subst hg2
 rw [cell_of_row W b (o+0) _ _ (0,0) h] at hx
 match o,hx with
 | 0,hx=>cases hx
 | 1,hx=>cases hx
 | 2,hx=>cases hx
 | 3,hx=>cases hx
 | 4,hx=>cases hx
 | 5,hx=>cases hx
 | 6,hx=>cases hx
 | 7,hx=>cases hx
 | 8,hx=>cases hx
 | o+9,hx=>cases hx
def HR (w:World) (h:HV) (v:AH) (k:Nat):Prop:=QR w h.x.s h.x.A h.x.n h.x.c h.x.B h.x.m h.x.d v.x k∧QR w h.y.s h.y.A h.y.n h.y.c h.y.B h.y.m h.y.d v.y k∧QR w h.w.s h.w.A h.w.n h.w.c h.w.B h.w.m h.w.d v.w k
def HG (w:World) (h:HV) (v:AH) (k:Nat):Prop:=QG w h.x.s h.x.A h.x.n h.x.c h.x.B h.x.m h.x.d v.x k∧QG w h.y.s h.y.A h.y.n h.y.c h.y.B h.y.m h.y.d v.y k∧QG w h.w.s h.w.A h.w.n h.w.c h.w.B h.w.m h.w.d v.w k
def RH (w:World) (h:HV) (v:AH) (k:Nat):Prop:=RQ w h.x.s h.x.A h.x.n h.x.c h.x.B h.x.m h.x.d v.x k∧RQ w h.y.s h.y.A h.y.n h.y.c h.y.B h.y.m h.y.d v.y k∧RQ w h.w.s h.w.A h.w.n h.w.c h.w.B h.w.m h.w.d v.w k
def GivesH (w:World) (v:AH) (k:Nat) (en:Ending) (w':World):Prop:=∃ h:HV,en=.returned (.agg #[.bool h.x.s,.slice h.x.A h.x.n h.x.c,.slice h.x.B h.x.m h.x.d,.bool h.y.s,.slice h.y.A h.y.n h.y.c,.slice h.y.B h.y.m h.y.d,.bool h.w.s,.slice h.w.A h.w.n h.w.c,.slice h.w.B h.w.m h.w.d])∧HG w' h v k∧Below w.heap.size w w'
section
variable {w w':World} {h:HV} {v:AH} {k k1:Nat}
theorem HR.below (a:HR w h v k) (hb:Below w.heap.size w w'):HR w' h v k:=⟨a.1.below hb,a.2.1.below hb,a.2.2.below hb⟩
theorem HR.qx (a:HR w h v k):QR w h.x.s h.x.A h.x.n h.x.c h.x.B h.x.m h.x.d v.x k:=a.1
theorem HR.qy (a:HR w h v k):QR w h.y.s h.y.A h.y.n h.y.c h.y.B h.y.m h.y.d v.y k:=a.2.1
theorem HR.qw (a:HR w h v k):QR w h.w.s h.w.A h.w.n h.w.c h.w.B h.w.m h.w.d v.w k:=a.2.2
theorem HR.more (a:HR w h v k) (hk:k≤k1):HR w h v k1:=⟨a.1.more hk,a.2.1.more hk,a.2.2.more hk⟩
theorem HG.below (a:HG w h v k) (hb:Below w.heap.size w w'):HG w' h v k:=⟨a.1.below hb,a.2.1.below hb,a.2.2.below hb⟩
theorem HG.qx (a:HG w h v k):QG w h.x.s h.x.A h.x.n h.x.c h.x.B h.x.m h.x.d v.x k:=a.1
theorem HG.qy (a:HG w h v k):QG w h.y.s h.y.A h.y.n h.y.c h.y.B h.y.m h.y.d v.y k:=a.2.1
theorem HG.qw (a:HG w h v k):QG w h.w.s h.w.A h.w.n h.w.c h.w.B h.w.m h.w.d v.w k:=a.2.2
theorem HG.more (a:HG w h v k) (hk:k≤k1):HG w h v k1:=⟨a.1.more hk,a.2.1.more hk,a.2.2.more hk⟩
theorem RH.below (a:RH w h v k) (hb:Below w.heap.size w w'):RH w' h v k:=⟨a.1.below hb,a.2.1.below hb,a.2.2.below hb⟩
theorem RH.qx (a:RH w h v k):RQ w h.x.s h.x.A h.x.n h.x.c h.x.B h.x.m h.x.d v.x k:=a.1
theorem RH.qy (a:RH w h v k):RQ w h.y.s h.y.A h.y.n h.y.c h.y.B h.y.m h.y.d v.y k:=a.2.1
theorem RH.qw (a:RH w h v k):RQ w h.w.s h.w.A h.w.n h.w.c h.w.B h.w.m h.w.d v.w k:=a.2.2
theorem RH.more (a:RH w h v k) (hk:k≤k1):RH w h v k1:=⟨a.1.more hk,a.2.1.more hk,a.2.2.more hk⟩
theorem HG.hr (a:HG w h v k):HR w h v k:=⟨a.1.qr,a.2.1.qr,a.2.2.qr⟩
theorem HR.pt (a:HR w h v k):PR w h.x.s h.x.A h.x.n h.x.c h.x.B h.x.m h.x.d h.y.s h.y.A h.y.n h.y.c h.y.B h.y.m h.y.d v.x v.y k:=⟨a.1,a.2.1⟩
theorem HG.pt (a:HG w h v k):PG w h.x.s h.x.A h.x.n h.x.c h.x.B h.x.m h.x.d h.y.s h.y.A h.y.n h.y.c h.y.B h.y.m h.y.d v.x v.y k:=⟨a.1,a.2.1⟩
theorem RH.pt (a:RH w h v k):RP w h.x.s h.x.A h.x.n h.x.c h.x.B h.x.m h.x.d h.y.s h.y.A h.y.n h.y.c h.y.B h.y.m h.y.d v.x v.y k:=⟨a.1,a.2.1⟩
theorem QG.set9 {u:Rat} {g:Nat} {s:Bool} {A B:Option Addr} {n c m d:Nat} {s0:Bool} {s1:Bool} {s2:Bool} {A1:Option Addr} {n1 c1:Nat} {A2:Option Addr} {n2 c2:Nat} {A4:Option Addr} {n4 c4:Nat} {A5:Option Addr} {n5 c5:Nat} {A7:Option Addr} {n7 c7:Nat} {A8:Option Addr} {n8 c8:Nat} (a:QG w s A n c B m d u k) (Z:BH w g (.bool s0) (.slice A1 n1 c1) (.slice A2 n2 c2) (.bool s1) (.slice A4 n4 c4) (.slice A5 n5 c5) (.bool s2) (.slice A7 n7 c7) (.slice A8 n8 c8)) (a0 a1 a2 a3 a4 a5 a6 a7 a8:Value):QG (((((((((w.setCell ⟨g,0,none⟩ a0).setCell ⟨g,1,none⟩ a1).setCell ⟨g,2,none⟩ a2).setCell ⟨g,3,none⟩ a3).setCell ⟨g,4,none⟩ a4).setCell ⟨g,5,none⟩ a5).setCell ⟨g,6,none⟩ a6).setCell ⟨g,7,none⟩ a7).setCell ⟨g,8,none⟩ a8) s A n c B m d u k:=by
 have ho:=only_set9 w g a0 a1 a2 a3 a4 a5 a6 a7 a8
 exact ⟨⟨a.1.1,a.1.2.1.only (a.1.2.1.offBH Z) ho,a.1.2.2⟩,⟨a.2.1.only (a.2.1.offBH Z) ho,a.2.2⟩⟩
theorem QR.set9 {u:Rat} {g:Nat} {s:Bool} {A B:Option Addr} {n c m d:Nat} {s0:Bool} {s1:Bool} {s2:Bool} {A1:Option Addr} {n1 c1:Nat} {A2:Option Addr} {n2 c2:Nat} {A4:Option Addr} {n4 c4:Nat} {A5:Option Addr} {n5 c5:Nat} {A7:Option Addr} {n7 c7:Nat} {A8:Option Addr} {n8 c8:Nat} (a:QR w s A n c B m d u k) (Z:BH w g (.bool s0) (.slice A1 n1 c1) (.slice A2 n2 c2) (.bool s1) (.slice A4 n4 c4) (.slice A5 n5 c5) (.bool s2) (.slice A7 n7 c7) (.slice A8 n8 c8)) (a0 a1 a2 a3 a4 a5 a6 a7 a8:Value):QR (((((((((w.setCell ⟨g,0,none⟩ a0).setCell ⟨g,1,none⟩ a1).setCell ⟨g,2,none⟩ a2).setCell ⟨g,3,none⟩ a3).setCell ⟨g,4,none⟩ a4).setCell ⟨g,5,none⟩ a5).setCell ⟨g,6,none⟩ a6).setCell ⟨g,7,none⟩ a7).setCell ⟨g,8,none⟩ a8) s A n c B m d u k:=by
 have ho:=only_set9 w g a0 a1 a2 a3 a4 a5 a6 a7 a8
 obtain ⟨p,q,⟨l1,r1,r2,r3⟩,⟨l2,t1,t2⟩,h3⟩:=a
 exact ⟨p,q,⟨l1,r1.only (r1.offBH Z) ho,r2,r3⟩,⟨l2,t1.only (t1.offBH Z) ho,t2⟩,h3⟩
theorem HG.set9 {g:Nat} {s0:Bool} {s1:Bool} {s2:Bool} {A1:Option Addr} {n1 c1:Nat} {A2:Option Addr} {n2 c2:Nat} {A4:Option Addr} {n4 c4:Nat} {A5:Option Addr} {n5 c5:Nat} {A7:Option Addr} {n7 c7:Nat} {A8:Option Addr} {n8 c8:Nat} (a:HG w h v k) (Z:BH w g (.bool s0) (.slice A1 n1 c1) (.slice A2 n2 c2) (.bool s1) (.slice A4 n4 c4) (.slice A5 n5 c5) (.bool s2) (.slice A7 n7 c7) (.slice A8 n8 c8)) (a0 a1 a2 a3 a4 a5 a6 a7 a8:Value):HG (((((((((w.setCell ⟨g,0,none⟩ a0).setCell ⟨g,1,none⟩ a1).setCell ⟨g,2,none⟩ a2).setCell ⟨g,3,none⟩ a3).setCell ⟨g,4,none⟩ a4).setCell ⟨g,5,none⟩ a5).setCell ⟨g,6,none⟩ a6).setCell ⟨g,7,none⟩ a7).setCell ⟨g,8,none⟩ a8) h v k:=⟨a.1.set9 Z a0 a1 a2 a3 a4 a5 a6 a7 a8,a.2.1.set9 Z a0 a1 a2 a3 a4 a5 a6 a7 a8,a.2.2.set9 Z a0 a1 a2 a3 a4 a5 a6 a7 a8⟩
theorem HR.set9 {g:Nat} {s0:Bool} {s1:Bool} {s2:Bool} {A1:Option Addr} {n1 c1:Nat} {A2:Option Addr} {n2 c2:Nat} {A4:Option Addr} {n4 c4:Nat} {A5:Option Addr} {n5 c5:Nat} {A7:Option Addr} {n7 c7:Nat} {A8:Option Addr} {n8 c8:Nat} (a:HR w h v k) (Z:BH w g (.bool s0) (.slice A1 n1 c1) (.slice A2 n2 c2) (.bool s1) (.slice A4 n4 c4) (.slice A5 n5 c5) (.bool s2) (.slice A7 n7 c7) (.slice A8 n8 c8)) (a0 a1 a2 a3 a4 a5 a6 a7 a8:Value):HR (((((((((w.setCell ⟨g,0,none⟩ a0).setCell ⟨g,1,none⟩ a1).setCell ⟨g,2,none⟩ a2).setCell ⟨g,3,none⟩ a3).setCell ⟨g,4,none⟩ a4).setCell ⟨g,5,none⟩ a5).setCell ⟨g,6,none⟩ a6).setCell ⟨g,7,none⟩ a7).setCell ⟨g,8,none⟩ a8) h v k:=⟨a.1.set9 Z a0 a1 a2 a3 a4 a5 a6 a7 a8,a.2.1.set9 Z a0 a1 a2 a3 a4 a5 a6 a7 a8,a.2.2.set9 Z a0 a1 a2 a3 a4 a5 a6 a7 a8⟩
theorem RQ.set9 {u:Rat} {g:Nat} {s:Bool} {A B:Option Addr} {n c m d:Nat} {s0:Bool} {s1:Bool} {s2:Bool} {A1:Option Addr} {n1 c1:Nat} {A2:Option Addr} {n2 c2:Nat} {A4:Option Addr} {n4 c4:Nat} {A5:Option Addr} {n5 c5:Nat} {A7:Option Addr} {n7 c7:Nat} {A8:Option Addr} {n8 c8:Nat} (a:RQ w s A n c B m d u k) (Z:BJ w g (.bool s0) (.slice A1 n1 c1) (.slice A2 n2 c2) (.bool s1) (.slice A4 n4 c4) (.slice A5 n5 c5) (.bool s2) (.slice A7 n7 c7) (.slice A8 n8 c8)) (a0 a1 a2 a3 a4 a5 a6 a7 a8:Value):RQ (((((((((w.setCell ⟨g,0,none⟩ a0).setCell ⟨g,1,none⟩ a1).setCell ⟨g,2,none⟩ a2).setCell ⟨g,3,none⟩ a3).setCell ⟨g,4,none⟩ a4).setCell ⟨g,5,none⟩ a5).setCell ⟨g,6,none⟩ a6).setCell ⟨g,7,none⟩ a7).setCell ⟨g,8,none⟩ a8) s A n c B m d u k :=
 a.onl (a.1.2.1.offBJ Z) (a.2.1.offBJ Z) (only_set9 w g a0 a1 a2 a3 a4 a5 a6 a7 a8)
theorem RH.set9 {g:Nat} {s0:Bool} {s1:Bool} {s2:Bool} {A1:Option Addr} {n1 c1:Nat} {A2:Option Addr} {n2 c2:Nat} {A4:Option Addr} {n4 c4:Nat} {A5:Option Addr} {n5 c5:Nat} {A7:Option Addr} {n7 c7:Nat} {A8:Option Addr} {n8 c8:Nat} (a:RH w h v k) (Z:BJ w g (.bool s0) (.slice A1 n1 c1) (.slice A2 n2 c2) (.bool s1) (.slice A4 n4 c4) (.slice A5 n5 c5) (.bool s2) (.slice A7 n7 c7) (.slice A8 n8 c8)) (a0 a1 a2 a3 a4 a5 a6 a7 a8:Value):RH (((((((((w.setCell ⟨g,0,none⟩ a0).setCell ⟨g,1,none⟩ a1).setCell ⟨g,2,none⟩ a2).setCell ⟨g,3,none⟩ a3).setCell ⟨g,4,none⟩ a4).setCell ⟨g,5,none⟩ a5).setCell ⟨g,6,none⟩ a6).setCell ⟨g,7,none⟩ a7).setCell ⟨g,8,none⟩ a8) h v k:=⟨a.1.set9 Z a0 a1 a2 a3 a4 a5 a6 a7 a8,a.2.1.set9 Z a0 a1 a2 a3 a4 a5 a6 a7 a8,a.2.2.set9 Z a0 a1 a2 a3 a4 a5 a6 a7 a8⟩
theorem HG.box {T:TypeId} {g:Nat} {cs:Array Value} (a:HG w h v k) (Z:BoxAt T w g cs) (ho:Only g w w'):HG w' h v k:=⟨a.1.box Z ho,a.2.1.box Z ho,a.2.2.box Z ho⟩
theorem HR.box {T:TypeId} {g:Nat} {cs:Array Value} (a:HR w h v k) (Z:BoxAt T w g cs) (ho:Only g w w'):HR w' h v k:=⟨a.1.box Z ho,a.2.1.box Z ho,a.2.2.box Z ho⟩
theorem RH.box {T:TypeId} {g:Nat} {cs:Array Value} (a:RH w h v k) (Z:BoxAt T w g cs) (ho:Only g w w'):RH w' h v k:=⟨a.1.box Z ho,a.2.1.box Z ho,a.2.2.box Z ho⟩
end
theorem res_H {fn:Func} {a:Tmp} (h:fn.results=#[.cell a 55]) (tmps:Array Value) (w:World) {g:Nat} {c:Array Value} (ha:tmps[a]?.getD undef=.pointer (some ⟨g,0,none⟩)) (hl:(LVH ⟨g,0,none⟩).run Tryz.prog w=.ok (.agg c) w):(results fn tmps).run Tryz.prog w=.ok (.agg c) w:=by
 unfold results
 rw [h]
 simp only [List.mapM_toArray]
 simp [asAddr,ha,open_LVH,hl]
def EH (w:World) (g o:Nat) (p:HV):Prop:=g < w.heap.size∧∀ j v,p.cells[j]?=some v→w.cell? ⟨g,o+j,none⟩=some v
section
variable {w w':World} {g o k:Nat} {p:HV}
theorem EH.lt (h:EH w g o p):g < w.heap.size:=h.1
theorem EH.below (h:EH w g o p) (hb:Below w.heap.size w w'):EH w' g o p:=⟨Nat.lt_of_lt_of_le h.1 hb.size,fun j v e=>(hb.cell (p:=⟨g,o+j,none⟩) h.1).trans (h.2 j v e)⟩
theorem EH.rest (h:EH w g o p) (hne:g ≠ k) (ho:Only k w w'):EH w' g o p:=⟨Nat.lt_of_lt_of_le h.1 ho.size,fun j v e=>(World.cell?_of_block (a:=⟨g,o+j,none⟩) (ho.block g h.1 hne)).trans (h.2 j v e)⟩
theorem EH.c0 (h:EH w g o p):w.cell? ⟨g,o,none⟩=some (.bool p.x.s):=h.2 0 _ rfl
theorem EH.c1 (h:EH w g o p):w.cell? ⟨g,o+1,none⟩=some (.slice p.x.A p.x.n p.x.c):=h.2 1 _ rfl
theorem EH.c2 (h:EH w g o p):w.cell? ⟨g,o+2,none⟩=some (.slice p.x.B p.x.m p.x.d):=h.2 2 _ rfl
theorem EH.c3 (h:EH w g o p):w.cell? ⟨g,o+3,none⟩=some (.bool p.y.s):=h.2 3 _ rfl
theorem EH.c4 (h:EH w g o p):w.cell? ⟨g,o+4,none⟩=some (.slice p.y.A p.y.n p.y.c):=h.2 4 _ rfl
theorem EH.c5 (h:EH w g o p):w.cell? ⟨g,o+5,none⟩=some (.slice p.y.B p.y.m p.y.d):=h.2 5 _ rfl
theorem EH.c6 (h:EH w g o p):w.cell? ⟨g,o+6,none⟩=some (.bool p.w.s):=h.2 6 _ rfl
theorem EH.c7 (h:EH w g o p):w.cell? ⟨g,o+7,none⟩=some (.slice p.w.A p.w.n p.w.c):=h.2 7 _ rfl
theorem EH.c8 (h:EH w g o p):w.cell? ⟨g,o+8,none⟩=some (.slice p.w.B p.w.m p.w.d):=h.2 8 _ rfl
theorem EH.all (h:EH w g o p):w.cell? ⟨g,o,none⟩=some (.bool p.x.s)∧w.cell? ⟨g,o+1,none⟩=some (.slice p.x.A p.x.n p.x.c)∧w.cell? ⟨g,o+2,none⟩=some (.slice p.x.B p.x.m p.x.d)∧w.cell? ⟨g,o+3,none⟩=some (.bool p.y.s)∧w.cell? ⟨g,o+4,none⟩=some (.slice p.y.A p.y.n p.y.c)∧w.cell? ⟨g,o+5,none⟩=some (.slice p.y.B p.y.m p.y.d)∧w.cell? ⟨g,o+6,none⟩=some (.bool p.w.s)∧w.cell? ⟨g,o+7,none⟩=some (.slice p.w.A p.w.n p.w.c)∧w.cell? ⟨g,o+8,none⟩=some (.slice p.w.B p.w.m p.w.d):=⟨h.c0,h.c1,h.c2,h.c3,h.c4,h.c5,h.c6,h.c7,h.c8⟩
theorem EH.ldH (h:EH w g o p):(LVH ⟨g,o,none⟩).run Tryz.prog w=.ok (.agg #[.bool p.x.s,.slice p.x.A p.x.n p.x.c,.slice p.x.B p.x.m p.x.d,.bool p.y.s,.slice p.y.A p.y.n p.y.c,.slice p.y.B p.y.m p.y.d,.bool p.w.s,.slice p.w.A p.w.n p.w.c,.slice p.w.B p.w.m p.w.d]) w :=
 run_loadVar_mid w g o 55 p.cells _ h.2 Tryz.underlying55 rfl (by kernel_rfl)
end
theorem SV.ht {A:Option Addr} {L:List HV} (h:SV w A (hvs L)) {i:Nat} {p:HV} (hi:L[i]?=some p):∃ g o,(∀ (n c:Nat) (w':World),i < n→(Instr.indexAt 22 (.slice A n c) (.int .i64 (i:Int))).run Tryz.prog w'=.ok (.pointer (some ⟨g,o,none⟩)) w')∧EH w g o p∧∃ o0,A=some ⟨g,o0,none⟩:=by
 have hl:=(List.getElem?_eq_some_iff.1 hi).1
 obtain ⟨g,o,e,h1,h2⟩:=h (by rw [hvs_length];omega)
 refine ⟨g,o+i*9,fun n c w' hn=>?_,⟨h1,fun j v hv=>?_⟩,o,e⟩
 · subst e
   have ha:∀ j,(⟨g,o,none⟩:Addr).add j=⟨g,o+j,none⟩:=fun j=>by unfold Addr.add;split <;> simp_all
   obtain ⟨i0,hi0,hz,hs,hby⟩:=info_parts (show (Tryz.prog.info? 55).map (fun i=>(i.zero,i.size,i.bytes))=some (some (.agg #[.bool false,.slice none 0 0,.slice none 0 0,.bool false,.slice none 0 0,.slice none 0 0,.bool false,.slice none 0 0,.slice none 0 0]),9,168) by kernel_rfl)
   have k1:(0:Int)≤(i:Int):=by omega
   have k2:(i:Int) < (n:Int):=by omega
   simp [Instr.indexAt,asIntOf,run_underlying Tryz.underlying22,k1,sizeOf,typeInfo,hi0,hs,ha]
   exact fun e=>absurd hn (by omega)
 · have hj:j < 9:=by have:=(List.getElem?_eq_some_iff.1 hv).1;rwa [hvc_len] at this
   rw [Nat.add_assoc]
   exact h2 _ v ((rows_get hvc_len hi hj).trans hv)
theorem SV.jt {A:Option Addr} {L:List HV} (h:SV w A (hvs L)) {i:Nat} {p:HV} (hi:L[i]?=some p):∃ g o,(∀ (n c:Nat) (w':World),i < n→(Instr.indexAt 31 (.slice A n c) (.int .i64 (i:Int))).run Tryz.prog w'=.ok (.pointer (some ⟨g,o,none⟩)) w')∧EH w g o p∧∃ o0,A=some ⟨g,o0,none⟩:=by
 have hl:=(List.getElem?_eq_some_iff.1 hi).1
 obtain ⟨g,o,e,h1,h2⟩:=h (by rw [hvs_length];omega)
 refine ⟨g,o+i*9,fun n c w' hn=>?_,⟨h1,fun j v hv=>?_⟩,o,e⟩
 · subst e
   have ha:∀ j,(⟨g,o,none⟩:Addr).add j=⟨g,o+j,none⟩:=fun j=>by unfold Addr.add;split <;> simp_all
   obtain ⟨i0,hi0,hz,hs,hby⟩:=info_parts (show (Tryz.prog.info? 65).map (fun i=>(i.zero,i.size,i.bytes))=some (some (.agg #[.bool false,.slice none 0 0,.slice none 0 0,.bool false,.slice none 0 0,.slice none 0 0,.bool false,.slice none 0 0,.slice none 0 0]),9,168) by kernel_rfl)
   have k1:(0:Int)≤(i:Int):=by omega
   have k2:(i:Int) < (n:Int):=by omega
   simp [Instr.indexAt,asIntOf,run_underlying Tryz.underlying31,k1,sizeOf,typeInfo,hi0,hs,ha]
   exact fun e=>absurd hn (by omega)
 · have hj:j < 9:=by have:=(List.getElem?_eq_some_iff.1 hv).1;rwa [hvc_len] at this
   rw [Nat.add_assoc]
   exact h2 _ v ((rows_get hvc_len hi hj).trans hv)
def zhv:Value:=.agg #[.bool false,.slice none 0 0,.slice none 0 0,.bool false,.slice none 0 0,.slice none 0 0,.bool false,.slice none 0 0,.slice none 0 0]
theorem info_hom:(Tryz.prog.info? 55).map (fun i=>(i.zero,i.size,i.bytes))=some (some zhv,9,168):=by kernel_rfl
theorem info_rhom:(Tryz.prog.info? 65).map (fun i=>(i.zero,i.size,i.bytes))=some (some zhv,9,168):=by kernel_rfl
attribute [local go_sem ↓] open_LVH open_STH open_LVJ open_STJ
theorem run_fH2 {e1:Operand→Value} {x1:Operand} {d1:Option Tmp} {y1 g:Nat} {pos:String} {af:Array Edge} (h:e1 x1=.pointer (some ⟨g,0,none⟩)) :
 (execOp e1 ⟨d1,.fieldAddr 55 x1 2,y1,pos,af,none⟩).run Tryz.prog w=.ok (.value (.pointer (some ⟨g,6,none⟩))) w:=by
 go_simp
theorem run_loadH2 {e1:Operand→Value} {x1:Operand} {d1:Option Tmp} {y1 g:Nat} {pos:String} {af:Array Edge} {a0 a1 a2 a3 a4 a5 a6 a7 a8:Value} (h:e1 x1=.pointer (some ⟨g,6,none⟩)) (Z:BH w g a0 a1 a2 a3 a4 a5 a6 a7 a8) :
 (execOp e1 ⟨d1,.load 27 x1,y1,pos,af,none⟩).run Tryz.prog w=.ok (.value (.agg #[a6,a7,a8])) w:=by
 have h0:=Z.c6;have h1:=Z.c7;have h2:=Z.c8
 go_simp
end
section
open Go Go.RowKit
theorem hvs_nil:hvs []=[]:=rfl
theorem hvs_one (L:List HV):∀ u ∈ hvs L,u.oneCell'=true:=by
 intro u hu
 obtain ⟨p,_,hp⟩:=List.mem_flatMap.1 hu
 exact hv_one p u hp
structure LnH (T:TypeId) (base:Nat) (w:World) (v:Value) (L:List HV):Prop where
 own:w.ownsRow base T 9 v L.length (hvs L)
 free:∀ g,v.ownBlock=some g→∃ cs,BoxAt T w g cs
section
variable {T:TypeId} {base:Nat} {w w':World} {v:Value} {L:List HV}
theorem LnH.nil (T:TypeId) (base:Nat) (w:World):LnH T base w (.slice none 0 0) []:=⟨World.ownsRow_nil w base T 9,fun g h=>by cases h⟩
theorem LnH.kept (h:LnH T base w v L) (hb:∀ g,v.ownBlock=some g→w'.heap[g]?=w.heap[g]?):LnH T base w' v L:=by
 refine ⟨⟨h.own.1,?_⟩,fun g hg=>?_⟩
 · rcases h.own.2 with hn | ⟨g,cap,cur,rfl,h1,h2,h3⟩
   · exact .inl hn
   · exact .inr ⟨g,cap,cur,rfl,h1,(hb g rfl).trans h2,h3⟩
 · obtain ⟨cs,hc⟩:=h.free g hg
   exact ⟨cs,(hb g hg).trans hc.at_,hc.free⟩
theorem LnH.below (h:LnH T base w v L) (hb:Below w.heap.size w w'):LnH T base w' v L:=h.kept fun g hg=>by
 obtain ⟨cs,hc⟩:=h.free g hg
 exact hb.block g hc.lt
theorem LnH.base_le {b:Nat} (h:LnH T base w v L) (hb:b≤base):LnH T b w v L:=by
 refine ⟨⟨h.own.1,?_⟩,h.free⟩
 rcases h.own.2 with hn | ⟨g,cap,cur,rfl,h1,h2⟩
 · exact .inl hn
 · exact .inr ⟨g,cap,cur,rfl,Nat.le_trans hb h1,h2⟩
theorem LnH.lit (w:World) (L:List HV) (hb:base≤w.heap.size) (hL:L.length≤1000000):LnH T base (w.alloc (.cells (hvs L).toArray T)) (.slice (some ⟨w.heap.size,0,none⟩) L.length L.length) L:=by
 refine ⟨⟨hvs_length L,.inr ⟨w.heap.size,L.length,_,rfl,hb,heap_alloc_new w _,Nat.le_refl _,by unfold maxLen;omega,?_,?_⟩⟩,fun g hg=>?_⟩
 · simp [hvs_length]
 · simp [← hvs_length]
 · obtain rfl:w.heap.size=g:=by simpa [Value.ownBlock] using hg
   refine ⟨(hvs L).toArray,heap_alloc_new w _,fun i k x e=>?_⟩
   rw [List.getElem?_toArray] at e
   exact hvs_free L _ (List.mem_of_getElem? e) k x rfl
theorem LnH.form (h:LnH T base w v L):∃ A c,v=.slice A L.length c∧L.length≤c∧(A=none→c=0):=by
 rcases h.own.2 with ⟨rfl,hn⟩ | ⟨g,cap,cur,rfl,_,_,h3,_⟩
 · exact ⟨none,0,by rw [hn],by omega,fun _=>rfl⟩
 · exact ⟨_,cap,rfl,h3,fun e=>by cases e⟩
end
theorem zeroH_free (n:Nat):∀ u ∈ (Builtin.zeroCells zhv.cells n).toList,∀ (k:IntKind) (x:Int),u ≠ .int k x:=by
 intro u hu k x
 simp only [Builtin.zeroCells,Array.toList_map,List.mem_map] at hu
 obtain ⟨i,_,rfl⟩:=hu
 have h:i % zhv.cells.size < 9:=Nat.mod_lt _ (by decide)
 generalize i % zhv.cells.size=j at h
 match j,h with
 | 0,_=>exact fun e=>by cases e
 | 1,_=>exact fun e=>by cases e
 | 2,_=>exact fun e=>by cases e
 | 3,_=>exact fun e=>by cases e
 | 4,_=>exact fun e=>by cases e
 | 5,_=>exact fun e=>by cases e
 | 6,_=>exact fun e=>by cases e
 | 7,_=>exact fun e=>by cases e
 | 8,_=>exact fun e=>by cases e
 | j+9,h=>omega
theorem run_push2H {T tS ty:TypeId} {base b:Nat} {v:Value} {L:List HV} {p:HV} {k0:Nat} (ht:Tryz.prog.underlying tS=some (.slice T)) (hinfo:(Tryz.prog.info? T).map (fun i=>(i.zero,i.size,i.bytes))=some (some zhv,9,168))
 (h:LnH T base w v L) (hbase:base≤w.heap.size) (hL:L.length≤1000000) (hb:w.heap[b]?=some (.cells p.cells.toArray T (0,0))) :
 ∃ v' w',(Builtin.append_ #[tS,tS] ty #[v,.slice (some ⟨b,0,none⟩) 1 k0]).run Tryz.prog w=.ok v' w'∧LnH T base w' v' (L ++ [p])∧w.grownBy w' v.ownBlock∧∀ g,v'.ownBlock=some g→v.ownBlock=some g ∨ w.heap.size≤g:=by
 obtain ⟨i0,hi,hz,hs,hby⟩:=info_parts hinfo
 have hnews:∀ j u,p.cells[j]?=some u→w.cell? ((⟨b,0,none⟩:Addr).add j)=some u:=fun j u hu=>World.news_of_block hb j u (by simpa using hu)
 have h1:∀ u ∈ p.cells,u.oneCell'=true:=fun u hu=>hvs_one [p] u (by rw [hvs_cons,hvs_nil,List.append_nil];exact hu)
 have hfree:∀ u ∈ p.cells,∀ (k:IntKind) (x:Int),u ≠ .int k x:=fun u hu=>hvs_free [p] u (by rw [hvs_cons,hvs_nil,List.append_nil];exact hu)
 obtain ⟨v',w',hr,hown,hg,_⟩:=run_append_own (P:=Tryz.prog) w base tS ty T i0 zhv 9 168 ht hi hz hs hby rfl (by decide) v L.length (hvs L) h.own ⟨b,0,none⟩ 1 k0 p.cells rfl hnews h1 (by unfold maxLen;omega) (by omega) hbase
 have hown2:∀ g,v'.ownBlock=some g→v.ownBlock=some g ∨ w.heap.size≤g:=by
  rcases h.own.2 with ⟨rfl,hn⟩ | ⟨g0,cap,cur,rfl,_,hg0,hnc,hcm,hcs,htake⟩
  · have e:=run_append_nil (P:=Tryz.prog) w tS ty T i0 zhv ht hi hz ⟨b,0,none⟩ 1 k0 p.cells (by rw [hs];rfl) hnews (by decide) (by decide) (by rw [hby];decide)
    rw [hr] at e
    injection e with e1 e2
    subst e1
    intro g hgv
    right
    obtain rfl:w.heap.size=g:=by simpa [Value.ownBlock] using hgv
    exact Nat.le_refl _
  · by_cases hroom:L.length+1≤cap
    · have e:=run_append_room (P:=Tryz.prog) w tS ty T i0 ht hi g0 L.length cap cur hg0 ⟨b,0,none⟩ 1 k0 p.cells (by rw [hs];rfl) hnews h1 hroom (by rw [hs,hcs];show L.length*9+9≤_;omega)
      rw [hr] at e
      injection e with e1 e2
      subst e1
      intro g hgv
      left
      simpa [Value.ownBlock] using hgv
    · have holds:∀ j u,(hvs L)[j]?=some u→w.cell? ((⟨g0,0,none⟩:Addr).add j)=some u:=h.own.cells (g:=g0) rfl
      have e:=run_append_grow (P:=Tryz.prog) w tS ty T i0 zhv ht hi hz ⟨g0,0,none⟩ L.length cap (hvs L) (by rw [hs];exact h.own.1) holds ⟨b,0,none⟩ 1 k0 p.cells (by rw [hs];rfl) hnews (by omega) (by omega) (growslice_fits (by omega) (by rw [hby];omega))
      rw [hr] at e
      injection e with e1 e2
      subst e1
      intro g hgv
      right
      obtain rfl:w.heap.size=g:=by simpa [Value.ownBlock] using hgv
      exact Nat.le_refl _
 refine ⟨v',w',hr,⟨by rw [hvs_append,List.length_append,hvs_cons,hvs_nil,List.append_nil];exact hown,?_⟩,hg,hown2⟩
 have fr:∀ (cs:List Value),(∀ u ∈ cs,∀ (k:IntKind) (x:Int),u ≠ .int k x)→∀ (i:Nat) (k:IntKind) (x:Int),cs.toArray[i]? ≠ some (Value.int k x):=fun cs hc i k x e=>by
  rw [List.getElem?_toArray] at e
  exact hc _ (List.mem_of_getElem? e) k x rfl
 intro g hgv
 rcases h.own.2 with ⟨rfl,hn⟩ | ⟨g0,cap,cur,rfl,_,hg0,hnc,hcm,hcs,htake⟩
 · have e:=run_append_nil (P:=Tryz.prog) w tS ty T i0 zhv ht hi hz ⟨b,0,none⟩ 1 k0 p.cells (by rw [hs];rfl) hnews (by decide) (by decide) (by rw [hby];decide)
   rw [hr] at e
   injection e with e1 e2
   subst e1 e2
   obtain rfl:w.heap.size=g:=by simpa [Value.ownBlock] using hgv
   refine ⟨_,heap_alloc_new w.drew _,?_⟩
   have:=fr (p.cells ++ (Builtin.zeroCells zhv.cells (grownCap w 1 0 T - 1)).toList) (fun u hu=>by
    rcases List.mem_append.1 hu with q | q
    · exact hfree u q
    · exact zeroH_free _ u q)
   intro i k x
   have:=this i k x
   rwa [show (p.cells ++ (Builtin.zeroCells zhv.cells (grownCap w 1 0 T - 1)).toList).toArray=p.cells.toArray ++ Builtin.zeroCells zhv.cells (grownCap w 1 0 T - 1) by apply Array.ext';simp] at this
 · obtain ⟨cs,hB⟩:=h.free g0 rfl
   have hcur:∀ u ∈ cur.toList,∀ (k:IntKind) (x:Int),u ≠ .int k x:=by
    have:cs=cur:=by exact (Obj.cells.inj (Option.some.inj (hB.at_.symm.trans hg0))).1
    subst this
    intro u hu k x e
    obtain ⟨j,hj⟩:=List.getElem?_of_mem hu
    rw [Array.getElem?_toList] at hj
    exact hB.free j k x (by rw [← e];exact hj)
   by_cases hroom:L.length+1≤cap
   · have e:=run_append_room (P:=Tryz.prog) w tS ty T i0 ht hi g0 L.length cap cur hg0 ⟨b,0,none⟩ 1 k0 p.cells (by rw [hs];rfl) hnews h1 hroom (by rw [hs,hcs];show L.length*9+9≤_;omega)
     rw [hr] at e
     injection e with e1 e2
     subst e1 e2
     obtain rfl:g0=g:=by simpa [Value.ownBlock] using hgv
     refine ⟨_,setRow_heap w g0 cur _ T _ hg0,fr _ fun u hu=>?_⟩
     rcases List.mem_append.1 hu with q | q
     · rcases List.mem_append.1 q with q | q
       · exact hcur u (List.mem_of_mem_take q)
       · exact hfree u q
     · exact hcur u (List.mem_of_mem_drop q)
   · have holds:∀ j u,(hvs L)[j]?=some u→w.cell? ((⟨g0,0,none⟩:Addr).add j)=some u:=h.own.cells (g:=g0) rfl
     have e:=run_append_grow (P:=Tryz.prog) w tS ty T i0 zhv ht hi hz ⟨g0,0,none⟩ L.length cap (hvs L) (by rw [hs];exact h.own.1) holds ⟨b,0,none⟩ 1 k0 p.cells (by rw [hs];rfl) hnews (by omega) (by omega) (growslice_fits (by omega) (by rw [hby];omega))
     rw [hr] at e
     injection e with e1 e2
     subst e1 e2
     obtain rfl:w.heap.size=g:=by simpa [Value.ownBlock] using hgv
     refine ⟨_,heap_alloc_new w.drew _,?_⟩
     have:=fr (hvs L ++ p.cells ++ (Builtin.zeroCells zhv.cells (grownCap w (L.length+1) cap T - (L.length+1))).toList) (fun u hu=>by
      rcases List.mem_append.1 hu with q | q
      · rcases List.mem_append.1 q with q | q
        · exact hvs_free L u q
        · exact hfree u q
      · exact zeroH_free _ u q)
     intro i k x
     have:=this i k x
     rwa [show (hvs L ++ p.cells ++ (Builtin.zeroCells zhv.cells (grownCap w (L.length+1) cap T - (L.length+1))).toList).toArray=(hvs L).toArray ++ p.cells.toArray ++ Builtin.zeroCells zhv.cells (grownCap w (L.length+1) cap T - (L.length+1)) by apply Array.ext';simp] at this
theorem LnH.stays {T:TypeId} {base:Nat} {w w':World} {v:Value} {L:List HV} (h:LnH T base w v L) (hg:w.grownBy w' v.ownBlock):Below w.heap.size w w' ∨ ∃ g cs,BoxAt T w g cs∧base≤g∧Only g w w':=by
 cases hv:v.ownBlock with
 | none =>
   rw [hv] at hg
   exact .inl ((Below.refl _ _).grown hg (Nat.le_refl _) (fun k e=>by cases e))
 | some g =>
   rw [hv] at hg
   obtain ⟨cs,hc⟩:=h.free g hv
   refine .inr ⟨g,cs,hc,(h.own.lt g hv).1,⟨hg.os,hg.tape,hg.output,hg.size,fun k hk hn=>hg.block k hk (fun e=>hn (by injection e))⟩⟩
theorem step_pushH {ops:Array Oper} {o:Oper} {a:Act} {K:Act→World→Prop} {Q:Exit→Act→World→Prop} {E:Prop} {T tS:TypeId} (ht:Tryz.prog.underlying tS=some (.slice T)) (hinfo:(Tryz.prog.info? T).map (fun i=>(i.zero,i.size,i.bytes))=some (some zhv,9,168))
 (hgd:o.guard=none) (s x:Operand) (ho:o.op=.call ⟨.builtin .append,#[s,x],#[tS,tS]⟩) {base b:Nat} {v:Value} {L:List HV} {p:HV} {k0:Nat} (hs:a.eval s=v) (hx:a.eval x=.slice (some ⟨b,0,none⟩) 1 k0)
 (h:LnH T base w v L) (hbase:base≤w.heap.size) (hL:L.length≤1000000) (hb:w.heap[b]?=some (.cells p.cells.toArray T (0,0)))
 (hK:∀ v' w',LnH T base w' v' (L ++ [p])→w.grownBy w' v.ownBlock→(∀ g,v'.ownBlock=some g→v.ownBlock=some g ∨ w.heap.size≤g)→K (a.put o.dst v') w'):if Region.wanted o (yielded ops a.tmps)=true then Oper.wp Tryz.prog o a w K Q else E:=by
 have hw:Region.wanted o (yielded ops a.tmps)=true:=by simp [Region.wanted,hgd]
 rw [if_pos hw]
 obtain ⟨v',w',hr,h2,h3,h4⟩:=run_push2H (ty:=o.type) (k0:=k0) ht hinfo h hbase hL hb
 exact wp_append_at s x ho hs hx hr (hK v' w' h2 h3 h4)
theorem LnH.under {T:TypeId} {base:Nat} {w0 w w':World} {v:Value} {M:List HV} (hn:LnH T base w v M) (hg:w.grownBy w' v.ownBlock) (hb:Below w0.heap.size w0 w) (hb0:w0.heap.size≤base):Below w0.heap.size w0 w':=by
 rcases hn.stays hg with q | ⟨g,cs,hB,hg2,ho⟩
 · exact bend hb q
 · exact Below.only hb (Nat.le_trans hb0 hg2) hb.size ho
def EachH (G:World→HV→AH→Nat→Prop) (w:World) (L:List HV) (l:List AH) (k:Nat):Prop :=
 L.length=l.length∧∀ (i:Nat) (p:HV) (u:AH),L[i]?=some p→l[i]?=some u→G w p u k
section
variable {G:World→HV→AH→Nat→Prop} {w w':World} {L:List HV} {l:List AH} {k k2:Nat}
theorem EachH.nil:EachH G w [] [] k:=⟨rfl,fun i p u h=>by cases h⟩
theorem EachH.push {p:HV} {u:AH} (h:EachH G w L l k) (hw:∀ p u,G w p u k→G w' p u k) (hp:G w' p u k):EachH G w' (L ++ [p]) (l ++ [u]) k:=by
 refine ⟨by rw [List.length_append,List.length_append,h.1];rfl,fun i q v hq hv=>?_⟩
 rcases Nat.lt_or_ge i L.length with hi | hi
 · rw [List.getElem?_append_left hi] at hq
   rw [List.getElem?_append_left (by rw [← h.1];exact hi)] at hv
   exact hw _ _ (h.2 i q v hq hv)
 · rw [List.getElem?_append_right hi] at hq
   rw [List.getElem?_append_right (by rw [← h.1];exact hi)] at hv
   have:=(List.getElem?_eq_some_iff.1 hq).1
   rw [List.length_singleton] at this
   have:i - L.length=0:=by omega
   rw [this] at hq
   rw [show i - l.length=0 by rw [← h.1];exact this] at hv
   obtain rfl:p=q:=by simpa using hq
   obtain rfl:u=v:=by simpa using hv
   exact hp
theorem EachH.imp {G':World→HV→AH→Nat→Prop} (h:EachH G w L l k) (hw:∀ p u,G w p u k→G' w' p u k2):EachH G' w' L l k2:=⟨h.1,fun i p u hp hu=>hw _ _ (h.2 i p u hp hu)⟩
theorem EachH.at_ (h:EachH G w L l k) {i:Nat} (hi:i < L.length):∃ p u,L[i]?=some p∧l[i]?=some u∧G w p u k :=
 ⟨_,_,List.getElem?_eq_getElem hi,List.getElem?_eq_getElem (by rw [← h.1];exact hi),h.2 i _ _ (List.getElem?_eq_getElem hi) (List.getElem?_eq_getElem (by rw [← h.1];exact hi))⟩
theorem EachH.belowG (h:EachH HG w L l k) (hb:Below w.heap.size w w'):EachH HG w' L l k:=h.imp fun _ _ hp=>hp.below hb
theorem EachH.belowR (h:EachH HR w L l k) (hb:Below w.heap.size w w'):EachH HR w' L l k:=h.imp fun _ _ hp=>hp.below hb
theorem EachH.belowJ (h:EachH RH w L l k) (hb:Below w.heap.size w w'):EachH RH w' L l k:=h.imp fun _ _ hp=>hp.below hb
theorem EachH.hr (h:EachH HG w L l k):EachH HR w L l k:=h.imp fun _ _ hp=>hp.hr
end
section
variable {T:TypeId} {base:Nat} {w w':World} {v:Value} {M:List HV} {k:Nat} {p:HV} {u:AH}
theorem LnH.hg (hn:LnH T base w v M) (hg:w.grownBy w' v.ownBlock) (h:HG w p u k):HG w' p u k:=by
 rcases hn.stays hg with q | ⟨g,cs,hB,_,ho⟩
 · exact h.below q
 · exact h.box hB ho
theorem LnH.hr (hn:LnH T base w v M) (hg:w.grownBy w' v.ownBlock) (h:HR w p u k):HR w' p u k:=by
 rcases hn.stays hg with q | ⟨g,cs,hB,_,ho⟩
 · exact h.below q
 · exact h.box hB ho
theorem LnH.rh (hn:LnH T base w v M) (hg:w.grownBy w' v.ownBlock) (h:RH w p u k):RH w' p u k:=by
 rcases hn.stays hg with q | ⟨g,cs,hB,_,ho⟩
 · exact h.below q
 · exact h.box hB ho
theorem LnH.sv {A:Option Addr} {n c:Nat} (h:LnH T base w (.slice A n c) M):SV w A (hvs M):=fun hn=>by
 rcases h.own.2 with ⟨_,e⟩ | ⟨g,cap,cur,hv,_,hg,_⟩
 · rw [hvs_length,List.length_eq_zero_iff.1 e] at hn;exact absurd hn (by simp)
 · have hc:=h.own.cells (g:=g) (by rw [hv];rfl)
   have ha:∀ j,(⟨g,0,none⟩:Addr).add j=⟨g,j,none⟩:=fun j=>by unfold Addr.add;split <;> simp_all
   simp only [Value.slice.injEq] at hv
   refine ⟨g,0,hv.1,?_,fun j u hu=>by have:=hc j u hu;rw [ha] at this;rw [Nat.zero_add];exact this⟩
   rcases Nat.lt_or_ge g w.heap.size with q | q
   · exact q
   · rw [Array.getElem?_eq_none q] at hg;cases hg
end
theorem takeH {G:World→HV→AH→Nat→Prop} {M:List HV} {l:List AH} {k m:Nat} {P:HV} {u:AH} (hu:l[m]?=some u) (h:EachH G w (M ++ [P]) (l.take m ++ [u]) k):EachH G w (M ++ [P]) (l.take (m+1)) k:=by
 obtain ⟨hm,hv⟩:=List.getElem?_eq_some_iff.1 hu
 rwa [List.take_succ_eq_append_getElem hm,hv]
def GivesHs (w:World) (l:List AH) (k:Nat) (en:Ending) (w':World):Prop :=
 ∃ v M,en=.returned v∧LnH 55 w.heap.size w' v M∧EachH HG w' M l k∧Below w.heap.size w w'
def GivesJs (w:World) (l:List AH) (k:Nat) (en:Ending) (w':World):Prop :=
 ∃ v M,en=.returned v∧LnH 65 w.heap.size w' v M∧EachH RH w' M l k∧Below w.heap.size w w'
end
section
open Go Go.RowKit
def SeqTells {α:Type} (n:Nat) (g:Nat) (lb:Array Value) (encs:α→Array Value) (Kp:World→World→Prop) (T:α→World→Prop) (E:List α→World→Prop) (N:Nat) (w:World):Prop :=
 ∀ (l:Nat) (J:List α→World→Prop) (W:World),Below w.heap.size w W→AbidesFrom W.heap.size J →
  (∀ pre x W1,J pre W1→T x W1→pre.length < N→YieldAt Fence.wide (n - 1) Tryz.prog l (encs x) W1 fun e W'=>e=.returned (.bool true)∧J (pre ++ [x]) W'∧Kp W1 W') →
  J [] W →
  CallsIn Fence.wide n Tryz.prog g (#[.func (.yield l) #[] #[]] ++ lb) W fun e W'=>(∃ v,e=.returned v)∧∃ xs,J xs W'∧E xs W'
def tellsPost {α:Type} (B:Nat) (Kp:World→World→Prop) (I:List α→World→Prop) (xs:List α) (W:World):Exit→Act→World→Prop
 | .normal,_,W'=>KeepsFrom B W W'∧Kp W W'∧I xs W'
 | _,_,_=>False
theorem rangeFunc_tells {α:Type} {n:Nat} {g:Operand} {ps:Array Tmp} {assign body:Code} {Q:Exit→Act→World→Prop} {a:Act}
 (h1:1≤n) {gf:Nat} {lb:Array Value} (hg:a.eval g=.func (.func gf) #[] lb) (eg:∀ args w,(callFunc gf args).run Tryz.prog w=.ok (.enter gf args) w)
 {encs:α→Array Value} {Kp:World→World→Prop} {T:α→World→Prop} {E:List α→World→Prop} {N:Nat} {w0:World} (hseq:SeqTells (n - 1) gf lb encs Kp T E N w0)
 (hKt:∀ {A B C:World},Kp A B→Kp B C→Kp A C) (hKb:∀ (W:World) (l:Nat) (o o':Obj),w.heap.size≤l→W.heap[l]?=some o→o.isCells=false→Kp W (W.putObj l o')) (hb0:Below w0.heap.size w0 w) (hps:∀ x,(encs x).size=ps.size)
 (I:List α→World→Prop) (hI:OwnFrom w.heap.size I) (hT:OwnFrom w.heap.size T) (hE:OwnFrom w.heap.size E) (h0:I [] w) (a₁:α→Act)
 (hassign:∀ (l:Nat) (x:α) (W:World) (K:Act→World→Prop),K (a₁ x) W →
  assign.wpIn (Fence.wide.inRound l) (n - 1 - 1) Tryz.prog (Exit.then K (fun _ _ _=>False)) {tmps:=(ps.zip (encs x)).foldl (fun t (p,v)=>t.setIfInBounds p v) a.tmps,defers:=[]} W)
 (hbody:∀ (l:Nat) (pre:List α) (x:α) (W:World),I pre W→T x W→pre.length < N→body.wpIn (Fence.wide.inRound l) (n - 1 - 1) Tryz.prog (tellsPost w.heap.size Kp I (pre ++ [x]) W) (a₁ x) W)
 (hdone:∀ (D:Nat) (xs:List α) (W:World),w.heap.size≤D→E xs W→I xs W→W.heap[D]?=some (.deferred (some []))→Q .normal {a with defers:={target:=.collected D,args:=#[]} :: a.defers} W) :
 (Code.rangeFunc g ps assign body).wpIn Fence.wide n Tryz.prog Q a w:=by
 obtain ⟨D,hD⟩:∃ D,D=w.heap.size:=⟨_,rfl⟩
 rw [← hD] at hKb hI hT hE hbody hdone
 refine wpIn_rangeFunc fun fn hfn=>?_
 have ent:=run_enterLoop_outer (P:=Tryz.prog) (w:=w) fn a.tmps ps assign body
 rw [← hD] at ent
 obtain ⟨lp,hlp⟩:∃ lp:LoopState→Loop,lp=fun st=>{state:=st,pending:=none,fn,tmps:=a.tmps,params:=ps,assign,body,defers:=D}:=⟨_,rfl⟩
 obtain ⟨V,hV⟩:∃ V,(w.alloc (.deferred (some []))).alloc (.loop (lp .ready))=V:=⟨_,rfl⟩
 rw [show ({state:=.ready,pending:=none,fn,tmps:=a.tmps,params:=ps,assign,body,defers:=D}:Loop)=lp .ready by rw [hlp],hV] at ent
 have vl:V.heap[D+1]?=some (.loop (lp .ready)):=by
  have h:=World.alloc_heap_new (w.alloc (.deferred (some []))) (.loop (lp .ready))
  rw [World.size_alloc,← hD] at h
  rw [← hV];exact h
 have vd:V.heap[D]?=some (.deferred (some [])):=by
  rw [← hV,hD]
  exact (Below.heap_alloc _ _ _ (by simp)).trans (World.alloc_heap_new w _)
 have vI:I [] V:=by rw [← hV];exact hI.alloc _ (hI.alloc _ h0)
 have vs:V.heap.size=D+2:=by rw [← hV,hD];simp
 have vb:Below w0.heap.size w0 V:=by
  rw [← hV]
  exact hb0.trans ((((Below.refl _ w).alloc (Nat.le_refl _) _).alloc (by simp) _).mono hb0.size)
 refine ⟨D+1,[{target:=.collected D,args:=#[]}],V,{target:=.fn (.func gf) lb,args:=#[.func (.yield (D+1)) #[] #[]]},V,gf,#[.func (.yield (D+1)) #[] #[]] ++ lb,V,ent,?_,?_,?_,fun _=>h1,?_⟩
 · simp only [resolve,hg];simp [go_sem]
 · intro f' hf';trivial
 · simp [invoke,go_sem,eg]
 -- the iterator's word,at the caller's invariant beside the two blocks of the statement's own
 have other:∀ {A:World} {row:Option Nat},(∀ r,row=some r→V.heap.size≤r∧∃ o:Obj,A.heap[r]?=some o∧o.isWalk=true)→(∀ r,row=some r→D≤r∧∃ o:Obj,A.heap[r]?=some o∧o.isCells=false):=fun hr r e=>by
  obtain ⟨h2,o,ho,hw⟩:=hr r e
  exact ⟨by omega,o,ho,Obj.not_cells_of_walk hw⟩
 refine (hseq (D+1) (fun pre W=>I pre W∧W.heap[D+1]?=some (.loop (lp .ready))∧W.heap[D]?=some (.deferred (some []))) V vb
  (fun s A B row hs gr hr=>⟨hI s A B row hs.1 gr (other hr),(grownBy_keeps gr (fun r e=>(hr r e).2) hs.2.1 rfl).trans hs.2.1,(grownBy_keeps gr (fun r e=>(hr r e).2) hs.2.2 rfl).trans hs.2.2⟩)
  ?_ ⟨vI,vl,vd⟩).mono ?_
 · rintro pre x W ⟨hi,hl,hd⟩ ht hlen
   have hsz:D+1 < W.heap.size:=(Array.getElem?_eq_some_iff.1 hl).1
   have hy:=run_yield (P:=Tryz.prog) (args:=encs x) hl (by rw [hlp];exact hps x)
   rw [hlp] at hy
   refine ⟨fn,_,assign,body,hy,roundIn_of_wpIn hfn (hassign _ x W _ ⟨_,run_beginRound hl (by rw [hlp]),?_⟩)⟩
   clear hy
   rw [show ({lp .ready with state:=.busy}:Loop)=lp .busy by rw [hlp]]
   have bl:(W.putObj (D+1) (.loop (lp .busy))).heap[D+1]?=some (.loop (lp .busy)):=World.putObj_heap_same hsz
   have bd:(W.putObj (D+1) (.loop (lp .busy))).heap[D]?=some (.deferred (some [])):=(World.putObj_heap_other (by omega)).trans hd
   have bk:Kp W (W.putObj (D+1) (.loop (lp .busy))):=hKb _ _ _ _ (by omega) hl rfl
   refine wpIn_mono (hbody _ pre x _ (hI.putObj _ hi (by omega) hl rfl) (hT.putObj _ ht (by omega) hl rfl) hlen) ?_
   intro e a3 W3 hp
   cases e with
   | normal =>
     obtain ⟨k3,p3,i3⟩:=hp
     have l3:=k3.same _ _ (by omega) bl rfl
     have d3:=k3.same _ _ (by omega) bd rfl
     have er:=run_endRound (P:=Tryz.prog) none l3
     refine ⟨_,_,er,rfl,⟨hI.putObj _ i3 (by omega) l3 rfl,?_,(World.putObj_heap_other (by omega)).trans d3⟩,hKt (hKt bk p3) (hKb _ _ _ _ (by omega) l3 rfl)⟩
     have:=World.putObj_heap_same (w:=W3) (r:=D+1) (o:=.loop (lp .ready)) (Array.getElem?_eq_some_iff.1 l3).1
     rw [hlp] at this ⊢;exact this
   | ret=>exact hp.elim
   | exit id=>exact hp.elim
   | goto t=>exact hp.elim
   | panic ch=>exact hp.elim
   | outgrown=>exact hp.elim
 · rintro e W2 ⟨⟨v,rfl⟩,xs,⟨hi,hl,hd⟩,he⟩
   have el:=run_endLoop (P:=Tryz.prog) hl (by rw [hlp];simp)
   refine ⟨none,_,by rw [hlp] at el;exact el,?_⟩
   have:=hdone D xs _ (Nat.le_refl _) (hE.putObj (.loop {lp .ready with state:=.exhausted}) he (by omega) hl rfl) (hI.putObj (.loop {lp .ready with state:=.exhausted}) hi (by omega) hl rfl) ((World.putObj_heap_other (by omega)).trans hd)
   rw [hlp] at this
   exact this
end
end Go.Proofs.YtlpogecpdfdggaaGreat
