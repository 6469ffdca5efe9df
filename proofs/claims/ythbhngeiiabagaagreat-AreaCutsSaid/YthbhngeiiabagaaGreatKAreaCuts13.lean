/- AreaCuts: part 13. -/
import Derived.Test.YthbhngeiiabagaaGreatKAreaCuts12
set_option linter.unusedVariables false
set_option maxRecDepth 100000
set_option maxHeartbeats 16000000
variable {w:Go.World}
namespace Go.Proofs.YthbhngeiiabagaaGreat
section
open Go Go.RowKit
structure CV where
 p:PV
 q:QV
def CV.cells (x:CV):List Value:=x.p.cells ++ x.q.cells
def cvs (L:List CV):List Value:=L.flatMap CV.cells
theorem Qfs (L M:List CV):cvs (L ++ M)=cvs L ++ cvs M:=List.flatMap_append
theorem QhM (L M:List QV):qvs (L ++ M)=qvs L ++ qvs M:=List.flatMap_append
theorem Qas {α:Type} {f:α→List Value} {m:Nat} (hf:∀ x,(f x).length=m) (L:List α):(L.flatMap f).length=L.length*m:=by
 induction L with
 | nil=>simp
 | cons p L ih=>rw [List.flatMap_cons,List.length_append,ih,hf,List.length_cons,Nat.succ_mul];omega
theorem Qci {α:Type} {f:α→List Value} {m:Nat} (hf:∀ x,(f x).length=m) {L:List α} {i:Nat} {p:α} (h:L[i]?=some p) {j:Nat} (hj:j < m):(L.flatMap f)[i*m+j]?=(f p)[j]?:=by
 induction L generalizing i with
 | nil=>cases h
 | cons q L ih =>
   rw [List.flatMap_cons]
   match i with
   | 0 =>
     obtain rfl:q=p:=by simpa using h
     rw [Nat.zero_mul,Nat.zero_add,List.getElem?_append_left (by rw [hf];exact hj)]
   | i+1 =>
     rw [Nat.succ_mul,List.getElem?_append_right (by rw [hf];omega),hf,show i*m+m+j - m=i*m+j by omega]
     exact ih h
theorem Qiv {α:Type} {f:α→List Value} {m:Nat} (hf:∀ x,(f x).length=m) {L:List α} {i:Nat} (hi:i < L.length) (p:α) (j:Nat) :
 ((L.set i p).flatMap f)[j]?=if i*m≤j∧j < i*m+m then (f p)[j - i*m]? else (L.flatMap f)[j]?:=by
 rcases Nat.eq_zero_or_pos m with hm | hm
 · have h0:∀ M:List α,(M.flatMap f)[j]?=none:=fun M=>List.getElem?_eq_none (by rw [Qas hf,hm];omega)
   rw [h0,h0,hm,if_neg (by omega)]
 by_cases hj:j < L.length*m
 · obtain ⟨a,b,hb,rfl⟩:∃ a b,b < m∧j=a*m+b:=⟨j / m,j % m,Nat.mod_lt _ hm,by rw [Nat.mul_comm];exact (Nat.div_add_mod j m).symm⟩
   have ha:a < L.length:=Nat.lt_of_mul_lt_mul_right (Nat.lt_of_le_of_lt (Nat.le_add_right _ _) hj)
   rw [Qci hf (List.getElem?_eq_getElem (show a < (L.set i p).length by rw [List.length_set];exact ha)) hb]
   by_cases e:i=a
   · subst e
     rw [if_pos ⟨by omega,by omega⟩,List.getElem_set_self,Nat.add_sub_cancel_left]
   · have h1 : ¬ (i * m ≤ a * m + b ∧ a * m + b < i * m + m) := fun ⟨q1, q2⟩ => by
       rcases Nat.lt_or_ge i a with q | q
       · have:=Nat.mul_le_mul_right m (show i+1≤a from q);rw [Nat.succ_mul] at this;omega
       · have:=Nat.mul_le_mul_right m (show a+1≤i by omega);rw [Nat.succ_mul] at this;omega
     rw [if_neg h1,Qci hf (List.getElem?_eq_getElem ha) hb,List.getElem_set_ne e]
 · have h0:∀ M:List α,M.length=L.length→(M.flatMap f)[j]?=none:=fun M hM=>List.getElem?_eq_none (by rw [Qas hf,hM];omega)
   have h1:¬ (i*m≤j∧j < i*m+m):=fun q=>by
    have:=Nat.mul_le_mul_right m (show i+1≤L.length from hi);rw [Nat.succ_mul] at this;omega
   rw [if_neg h1,h0 _ List.length_set,h0 _ rfl]
theorem Qa9 (p:PV):p.cells.length=6:=rfl
theorem QdV (p:QV):p.cells.length=3:=rfl
theorem Qdu (p:CV):p.cells.length=9:=rfl
def SV (w:World) (A:Option Addr) (vs:List Value):Prop:=0 < vs.length→∃ g o,A=some ⟨g,o,none⟩∧g < w.heap.size∧∀ j u,vs[j]?=some u→w.cell? ⟨g,o+j,none⟩=some u
theorem SV.nil (w:World) (A:Option Addr):SV w A []:=fun h=>absurd h (by simp)
theorem SV.below {w w':World} {A:Option Addr} {vs:List Value} (h:SV w A vs) (hb:Below w.heap.size w w'):SV w' A vs:=fun hn=>by
 obtain ⟨g,o,e,h1,h2⟩:=h hn
 exact ⟨g,o,e,Nat.lt_of_lt_of_le h1 hb.size,fun j u hu=>(hb.cell (p:=⟨g,o+j,none⟩) h1).trans (h2 j u hu)⟩
def E6x (w:World) (g o:Nat) (p:PV):Prop:=g < w.heap.size∧w.cell? ⟨g,o,none⟩=some (.bool p.s)∧w.cell? ⟨g,o+1,none⟩=some (.slice p.A p.n p.c)∧w.cell? ⟨g,o+2,none⟩=some (.slice p.B p.m p.d)∧w.cell? ⟨g,o+3,none⟩=some (.bool p.t)∧w.cell? ⟨g,o+4,none⟩=some (.slice p.E p.i p.e)∧w.cell? ⟨g,o+5,none⟩=some (.slice p.F p.j p.f)
section
variable {w w':World} {g o k:Nat} {p:PV}
theorem E6x.lt (h:E6x w g o p):g < w.heap.size:=h.1
theorem E6x.c0 (h:E6x w g o p):w.cell? ⟨g,o,none⟩=some (.bool p.s):=h.2.1
theorem E6x.c1 (h:E6x w g o p):w.cell? ⟨g,o+1,none⟩=some (.slice p.A p.n p.c):=h.2.2.1
theorem E6x.c2 (h:E6x w g o p):w.cell? ⟨g,o+2,none⟩=some (.slice p.B p.m p.d):=h.2.2.2.1
theorem E6x.c3 (h:E6x w g o p):w.cell? ⟨g,o+3,none⟩=some (.bool p.t):=h.2.2.2.2.1
theorem E6x.c4 (h:E6x w g o p):w.cell? ⟨g,o+4,none⟩=some (.slice p.E p.i p.e):=h.2.2.2.2.2.1
theorem E6x.c5 (h:E6x w g o p):w.cell? ⟨g,o+5,none⟩=some (.slice p.F p.j p.f):=h.2.2.2.2.2.2
theorem E6x.all (h:E6x w g o p):w.cell? ⟨g,o,none⟩=some (.bool p.s)∧w.cell? ⟨g,o+1,none⟩=some (.slice p.A p.n p.c)∧w.cell? ⟨g,o+2,none⟩=some (.slice p.B p.m p.d)∧w.cell? ⟨g,o+3,none⟩=some (.bool p.t)∧w.cell? ⟨g,o+4,none⟩=some (.slice p.E p.i p.e)∧w.cell? ⟨g,o+5,none⟩=some (.slice p.F p.j p.f):=⟨h.c0,h.c1,h.c2,h.c3,h.c4,h.c5⟩
theorem E6x.below (h:E6x w g o p) (hb:Below w.heap.size w w'):E6x w' g o p:=⟨Nat.lt_of_lt_of_le h.1 hb.size,(hb.cell (p:=⟨g,o,none⟩) h.1).trans h.c0,(hb.cell (p:=⟨g,o+1,none⟩) h.1).trans h.c1,(hb.cell (p:=⟨g,o+2,none⟩) h.1).trans h.c2,(hb.cell (p:=⟨g,o+3,none⟩) h.1).trans h.c3,(hb.cell (p:=⟨g,o+4,none⟩) h.1).trans h.c4,(hb.cell (p:=⟨g,o+5,none⟩) h.1).trans h.c5⟩
end
theorem SV.pt {A:Option Addr} {L:List PV} (h:SV w A (pvs L)) {i:Nat} {p:PV} (hi:L[i]?=some p):∃ g o,(∀ (n c:Nat) (w':World),i < n→(Instr.indexAt 22 (.slice A n c) (.int .i64 (i:Int))).run Tryz.prog w'=.ok (.pointer (some ⟨g,o,none⟩)) w')∧E6x w g o p∧∃ o0,A=some ⟨g,o0,none⟩:=by
 have hl:=(List.getElem?_eq_some_iff.1 hi).1
 obtain ⟨g,o,e,h1,h2⟩:=h (by rw [show (pvs L).length=L.length*6 from Qas Qa9 L];omega)
 have key:∀ j,j < 6→∀ u,p.cells[j]?=some u→w.cell? ⟨g,o+i*6+j,none⟩=some u:=fun j hj u hu=>by
  rw [Nat.add_assoc];exact h2 _ u ((Qci Qa9 hi hj).trans hu)
 refine ⟨g,o+i*6,fun n c w' hn=>?_,⟨h1,key 0 (by decide) _ rfl,key 1 (by decide) _ rfl,key 2 (by decide) _ rfl,key 3 (by decide) _ rfl,key 4 (by decide) _ rfl,key 5 (by decide) _ rfl⟩,o,e⟩
 subst e
 have ha:∀ j,(⟨g,o,none⟩:Addr).add j=⟨g,o+j,none⟩:=fun j=>by unfold Addr.add;split <;> simp_all
 obtain ⟨i0,hi0,hz,hs,hby⟩:=info_parts (show (Tryz.prog.info? 29).map (fun i=>(i.zero,i.size,i.bytes))=some (some (.agg #[.bool false,.slice none 0 0,.slice none 0 0,.bool false,.slice none 0 0,.slice none 0 0]),6,112) by kernel_rfl)
 have k1:(0:Int)≤(i:Int):=by omega
 have k2:(i:Int) < (n:Int):=by omega
 simp [Instr.indexAt,asIntOf,run_underlying Tryz.underlying22,k1,sizeOf,typeInfo,hi0,hs,ha]
 exact fun e=>absurd hn (by omega)
def E3x (w:World) (g o:Nat) (p:QV):Prop:=g < w.heap.size∧w.cell? ⟨g,o,none⟩=some (.bool p.s)∧w.cell? ⟨g,o+1,none⟩=some (.slice p.A p.n p.c)∧w.cell? ⟨g,o+2,none⟩=some (.slice p.B p.m p.d)
section
variable {w w':World} {g o k:Nat} {p:QV}
theorem E3x.c0 (h:E3x w g o p):w.cell? ⟨g,o,none⟩=some (.bool p.s):=h.2.1
theorem E3x.c1 (h:E3x w g o p):w.cell? ⟨g,o+1,none⟩=some (.slice p.A p.n p.c):=h.2.2.1
theorem E3x.c2 (h:E3x w g o p):w.cell? ⟨g,o+2,none⟩=some (.slice p.B p.m p.d):=h.2.2.2
theorem E3x.all (h:E3x w g o p):w.cell? ⟨g,o,none⟩=some (.bool p.s)∧w.cell? ⟨g,o+1,none⟩=some (.slice p.A p.n p.c)∧w.cell? ⟨g,o+2,none⟩=some (.slice p.B p.m p.d):=⟨h.c0,h.c1,h.c2⟩
theorem E3x.below (h:E3x w g o p) (hb:Below w.heap.size w w'):E3x w' g o p:=⟨Nat.lt_of_lt_of_le h.1 hb.size,(hb.cell (p:=⟨g,o,none⟩) h.1).trans h.c0,(hb.cell (p:=⟨g,o+1,none⟩) h.1).trans h.c1,(hb.cell (p:=⟨g,o+2,none⟩) h.1).trans h.c2⟩
end
theorem SV.qt {A:Option Addr} {L:List QV} (h:SV w A (qvs L)) {i:Nat} {p:QV} (hi:L[i]?=some p):∃ g o,(∀ (n c:Nat) (w':World),i < n→(Instr.indexAt 78 (.slice A n c) (.int .i64 (i:Int))).run Tryz.prog w'=.ok (.pointer (some ⟨g,o,none⟩)) w')∧E3x w g o p∧∃ o0,A=some ⟨g,o0,none⟩:=by
 have hl:=(List.getElem?_eq_some_iff.1 hi).1
 obtain ⟨g,o,e,h1,h2⟩:=h (by rw [show (qvs L).length=L.length*3 from Qas QdV L];omega)
 have key:∀ j,j < 3→∀ u,p.cells[j]?=some u→w.cell? ⟨g,o+i*3+j,none⟩=some u:=fun j hj u hu=>by
  rw [Nat.add_assoc];exact h2 _ u ((Qci QdV hi hj).trans hu)
 refine ⟨g,o+i*3,fun n c w' hn=>?_,⟨h1,key 0 (by decide) _ rfl,key 1 (by decide) _ rfl,key 2 (by decide) _ rfl⟩,o,e⟩
 subst e
 have ha:∀ j,(⟨g,o,none⟩:Addr).add j=⟨g,o+j,none⟩:=fun j=>by unfold Addr.add;split <;> simp_all
 obtain ⟨i0,hi0,hz,hs,hby⟩:=info_parts (show (Tryz.prog.info? 27).map (fun i=>(i.zero,i.size,i.bytes))=some (some (.agg #[.bool false,.slice none 0 0,.slice none 0 0]),3,56) by kernel_rfl)
 have k1:(0:Int)≤(i:Int):=by omega
 have k2:(i:Int) < (n:Int):=by omega
 simp [Instr.indexAt,asIntOf,run_underlying Tryz.underlying78,k1,sizeOf,typeInfo,hi0,hs,ha]
 exact fun e=>absurd hn (by omega)
def E9x (w:World) (g o:Nat) (p:CV):Prop:=g < w.heap.size∧w.cell? ⟨g,o,none⟩=some (.bool p.p.s)∧w.cell? ⟨g,o+1,none⟩=some (.slice p.p.A p.p.n p.p.c)∧w.cell? ⟨g,o+2,none⟩=some (.slice p.p.B p.p.m p.p.d)∧w.cell? ⟨g,o+3,none⟩=some (.bool p.p.t)∧w.cell? ⟨g,o+4,none⟩=some (.slice p.p.E p.p.i p.p.e)∧w.cell? ⟨g,o+5,none⟩=some (.slice p.p.F p.p.j p.p.f)∧w.cell? ⟨g,o+6,none⟩=some (.bool p.q.s)∧w.cell? ⟨g,o+7,none⟩=some (.slice p.q.A p.q.n p.q.c)∧w.cell? ⟨g,o+8,none⟩=some (.slice p.q.B p.q.m p.q.d)
section
variable {w w':World} {g o k:Nat} {p:CV}
theorem E9x.c0 (h:E9x w g o p):w.cell? ⟨g,o,none⟩=some (.bool p.p.s):=h.2.1
theorem E9x.c1 (h:E9x w g o p):w.cell? ⟨g,o+1,none⟩=some (.slice p.p.A p.p.n p.p.c):=h.2.2.1
theorem E9x.c2 (h:E9x w g o p):w.cell? ⟨g,o+2,none⟩=some (.slice p.p.B p.p.m p.p.d):=h.2.2.2.1
theorem E9x.c3 (h:E9x w g o p):w.cell? ⟨g,o+3,none⟩=some (.bool p.p.t):=h.2.2.2.2.1
theorem E9x.c4 (h:E9x w g o p):w.cell? ⟨g,o+4,none⟩=some (.slice p.p.E p.p.i p.p.e):=h.2.2.2.2.2.1
theorem E9x.c5 (h:E9x w g o p):w.cell? ⟨g,o+5,none⟩=some (.slice p.p.F p.p.j p.p.f):=h.2.2.2.2.2.2.1
theorem E9x.c6 (h:E9x w g o p):w.cell? ⟨g,o+6,none⟩=some (.bool p.q.s):=h.2.2.2.2.2.2.2.1
theorem E9x.c7 (h:E9x w g o p):w.cell? ⟨g,o+7,none⟩=some (.slice p.q.A p.q.n p.q.c):=h.2.2.2.2.2.2.2.2.1
theorem E9x.c8 (h:E9x w g o p):w.cell? ⟨g,o+8,none⟩=some (.slice p.q.B p.q.m p.q.d):=h.2.2.2.2.2.2.2.2.2
theorem E9x.all (h:E9x w g o p):w.cell? ⟨g,o,none⟩=some (.bool p.p.s)∧w.cell? ⟨g,o+1,none⟩=some (.slice p.p.A p.p.n p.p.c)∧w.cell? ⟨g,o+2,none⟩=some (.slice p.p.B p.p.m p.p.d)∧w.cell? ⟨g,o+3,none⟩=some (.bool p.p.t)∧w.cell? ⟨g,o+4,none⟩=some (.slice p.p.E p.p.i p.p.e)∧w.cell? ⟨g,o+5,none⟩=some (.slice p.p.F p.p.j p.p.f)∧w.cell? ⟨g,o+6,none⟩=some (.bool p.q.s)∧w.cell? ⟨g,o+7,none⟩=some (.slice p.q.A p.q.n p.q.c)∧w.cell? ⟨g,o+8,none⟩=some (.slice p.q.B p.q.m p.q.d):=⟨h.c0,h.c1,h.c2,h.c3,h.c4,h.c5,h.c6,h.c7,h.c8⟩
theorem E9x.below (h:E9x w g o p) (hb:Below w.heap.size w w'):E9x w' g o p:=⟨Nat.lt_of_lt_of_le h.1 hb.size,(hb.cell (p:=⟨g,o,none⟩) h.1).trans h.c0,(hb.cell (p:=⟨g,o+1,none⟩) h.1).trans h.c1,(hb.cell (p:=⟨g,o+2,none⟩) h.1).trans h.c2,(hb.cell (p:=⟨g,o+3,none⟩) h.1).trans h.c3,(hb.cell (p:=⟨g,o+4,none⟩) h.1).trans h.c4,(hb.cell (p:=⟨g,o+5,none⟩) h.1).trans h.c5,(hb.cell (p:=⟨g,o+6,none⟩) h.1).trans h.c6,(hb.cell (p:=⟨g,o+7,none⟩) h.1).trans h.c7,(hb.cell (p:=⟨g,o+8,none⟩) h.1).trans h.c8⟩
end
theorem SV.ct {A:Option Addr} {L:List CV} (h:SV w A (cvs L)) {i:Nat} {p:CV} (hi:L[i]?=some p):∃ g o,(∀ (n c:Nat) (w':World),i < n→(Instr.indexAt 64 (.slice A n c) (.int .i64 (i:Int))).run Tryz.prog w'=.ok (.pointer (some ⟨g,o,none⟩)) w')∧E9x w g o p∧∃ o0,A=some ⟨g,o0,none⟩:=by
 have hl:=(List.getElem?_eq_some_iff.1 hi).1
 obtain ⟨g,o,e,h1,h2⟩:=h (by rw [show (cvs L).length=L.length*9 from Qas Qdu L];omega)
 have key:∀ j,j < 9→∀ u,p.cells[j]?=some u→w.cell? ⟨g,o+i*9+j,none⟩=some u:=fun j hj u hu=>by
  rw [Nat.add_assoc];exact h2 _ u ((Qci Qdu hi hj).trans hu)
 refine ⟨g,o+i*9,fun n c w' hn=>?_,⟨h1,key 0 (by decide) _ rfl,key 1 (by decide) _ rfl,key 2 (by decide) _ rfl,key 3 (by decide) _ rfl,key 4 (by decide) _ rfl,key 5 (by decide) _ rfl,key 6 (by decide) _ rfl,key 7 (by decide) _ rfl,key 8 (by decide) _ rfl⟩,o,e⟩
 subst e
 have ha:∀ j,(⟨g,o,none⟩:Addr).add j=⟨g,o+j,none⟩:=fun j=>by unfold Addr.add;split <;> simp_all
 obtain ⟨i0,hi0,hz,hs,hby⟩:=info_parts (show (Tryz.prog.info? 67).map (fun i=>(i.zero,i.size,i.bytes))=some (some (.agg #[.bool false,.slice none 0 0,.slice none 0 0,.bool false,.slice none 0 0,.slice none 0 0,.bool false,.slice none 0 0,.slice none 0 0]),9,168) by kernel_rfl)
 have k1:(0:Int)≤(i:Int):=by omega
 have k2:(i:Int) < (n:Int):=by omega
 simp [Instr.indexAt,asIntOf,run_underlying Tryz.underlying64,k1,sizeOf,typeInfo,hi0,hs,ha]
 exact fun e=>absurd hn (by omega)
def RowB (T:TypeId) (w:World) (g:Nat) (vs:List Value):Prop:=∃ cs,BoxAt T w g cs∧vs.length≤cs.size∧∀ (j:Nat) (u:Value),vs[j]?=some u→cs[j]?=some u
section
variable {T:TypeId} {w w':World} {g k:Nat} {vs:List Value} {cs:Array Value}
theorem RowB.below (h:RowB T w g vs) (hb:Below w.heap.size w w'):RowB T w' g vs:=by
 obtain ⟨cs,h1,h2⟩:=h;exact ⟨cs,h1.below hb,h2⟩
theorem RowB.rest (h:RowB T w g vs) (hne:g ≠ k) (ho:Only k w w'):RowB T w' g vs:=by
 obtain ⟨cs,h1,h2⟩:=h;exact ⟨cs,⟨(ho.block g h1.lt hne).trans h1.at_,h1.free⟩,h2⟩
theorem RowB.sv (h:RowB T w g vs):SV w (some ⟨g,0,none⟩) vs:=fun _=>by
 obtain ⟨cs,h1,h2,h3⟩:=h
 refine ⟨g,0,rfl,h1.lt,fun j u hu=>?_⟩
 rw [Nat.zero_add,cell_of_row w g j _ _ (0,0) h1.at_];exact h3 j u hu
theorem BoxAt.sv (h:BoxAt T w g vs.toArray):SV w (some ⟨g,0,none⟩) vs:=fun _=>⟨g,0,rfl,h.lt,fun j u hu=>by
 rw [Nat.zero_add,cell_of_row w g j _ _ (0,0) h.at_];simpa using hu⟩
theorem BoxAt.ne {T':TypeId} {cs':Array Value} (h:BoxAt T w g cs) (h':BoxAt T' w k cs') (hne:T ≠ T' ∨ cs.size ≠ cs'.size):g ≠ k:=by
 rintro rfl
 have e:=h.at_.symm.trans h'.at_
 simp only [Option.some.injEq,Obj.cells.injEq] at e
 rcases hne with q | q
 · exact q e.2.1
 · exact q (by rw [e.1])
end
def SNr (T:TypeId) (base n:Nat) (vs:List Value) (w:World) (A:Option Addr):Prop:=0 < n→∃ g,A=some ⟨g,0,none⟩∧base≤g∧RowB T w g vs
def VSB (T:TypeId) (base n n1:Nat) (vs:List Value) (x:Value) (w:World):Prop:=∃ A c,x=.slice A n1 c∧SNr T base n vs w A
def Made (T:TypeId) (zs:Array Value) (base:Nat) (w:World) (g:Nat):Prop:=base≤g∧BoxAt T w g zs
def VMK (T:TypeId) (zs:Array Value) (n base:Nat) (x:Value) (w:World):Prop:=∃ g,x=.slice (some ⟨g,0,none⟩) n n∧Made T zs base w g
theorem SNr.below {T:TypeId} {base n:Nat} {vs:List Value} {w w':World} {A:Option Addr} (h:SNr T base n vs w A) (hb:Below w.heap.size w w'):SNr T base n vs w' A:=fun hn=>by
 obtain ⟨g,e,h1,h2⟩:=h hn;exact ⟨g,e,h1,h2.below hb⟩
theorem SNr.sv {T:TypeId} {base n:Nat} {vs:List Value} {A:Option Addr} (h:SNr T base n vs w A) (hn:0 < n):SV w A vs:=by
 obtain ⟨g,rfl,_,h2⟩:=h hn;exact h2.sv
theorem Qf2 (T:TypeId) (base n n1:Nat) (vs:List Value) (L:List QbU) (hL:∀ p ∈ L,p.T ≠ T):Qix L (VSB T base n n1 vs):=by
 refine ⟨fun x w w' ⟨A,c,e,h⟩ hb=>⟨A,c,e,h.below hb⟩,fun p hp x w w' k cs ⟨A,c,e,h⟩ hB ho=>⟨A,c,e,fun hn=>?_⟩⟩
 obtain ⟨g,e2,h1,h2⟩:=h hn
 obtain ⟨cs2,h3,_⟩:=id h2
 exact ⟨g,e2,h1,h2.rest (BoxAt.ne h3 hB (.inl (hL p hp).symm)) ho⟩
theorem Qh5 (T:TypeId) (zs:Array Value) (n base:Nat) (L:List QbU) (hL:∀ p ∈ L,p.T ≠ T):Qix L (VMK T zs n base):=by
 refine ⟨fun x w w' ⟨g,e,h1,h2⟩ hb=>⟨g,e,h1,h2.below hb⟩,fun p hp x w w' k cs ⟨g,e,h1,h2⟩ hB ho=>⟨g,e,h1,⟨(ho.block g h2.lt (BoxAt.ne h2 hB (.inl (hL p hp).symm))).trans h2.at_,h2.free⟩⟩⟩
theorem QgR {α:Type} {f:α→List Value} {m:Nat} (hf:∀ x,(f x).length=m) (z:α) (n:Nat):madeCells (f z).toArray (n*m)=((List.replicate n z).flatMap f).toArray:=by
 rcases Nat.eq_zero_or_pos m with hm | hm
 · subst hm
   apply Array.ext' ;simp only
   have h1:(List.replicate n z).flatMap f=[]:=List.eq_nil_of_length_eq_zero (by rw [Qas hf,Nat.mul_zero])
   rw [h1]
   simp [madeCells]
 apply Array.ext
 · rw [size_madeCells,List.size_toArray,Qas hf,List.length_replicate]
 · intro j h1 h2
   rw [size_madeCells] at h1
   obtain ⟨a,b,hb,rfl⟩:∃ a b,b < m∧j=a*m+b:=⟨j / m,j % m,Nat.mod_lt _ hm,by rw [Nat.mul_comm];exact (Nat.div_add_mod j m).symm⟩
   have ha:a < n:=Nat.lt_of_mul_lt_mul_right (Nat.lt_of_le_of_lt (Nat.le_add_right _ _) h1)
   have e:=Qci hf (L:=List.replicate n z) (i:=a) (p:=z) (by rw [List.getElem?_replicate,if_pos ha]) hb
   rw [List.getElem?_eq_getElem (by simpa using h2)] at e
   have hb2:b < (f z).length:=by rw [hf];exact hb
   rw [List.getElem?_eq_getElem hb2] at e
   have e2:((List.replicate n z).flatMap f).toArray[a*m+b]=(f z)[b]:=by rw [List.getElem_toArray];exact Option.some.inj e
   rw [e2]
   simp only [madeCells,Array.getElem_map,Array.getElem_range,List.size_toArray,hf]
   rw [show (a*m+b) % m=b by rw [Nat.add_comm,Nat.add_mul_mod_self_right,Nat.mod_eq_of_lt hb]]
   simp [hb2]
def zpv:PV:=PV.mk false none 0 0 none 0 0 false none 0 0 none 0 0
def zqv:QV:=QV.mk false none 0 0 none 0 0
def zcv:CV:=⟨zpv,zqv⟩
theorem QiB (L:List QV):∀ u ∈ qvs L,∀ (k:IntKind) (x:Int),u ≠ .int k x:=by
 intro u hu k x
 obtain ⟨p,_,hp⟩:=List.mem_flatMap.1 hu
 simp only [QV.cells,List.mem_cons,List.not_mem_nil,or_false] at hp
 rcases hp with rfl | rfl | rfl <;> exact fun e=>by cases e
theorem Qe2 (L:List CV):∀ u ∈ cvs L,∀ (k:IntKind) (x:Int),u ≠ .int k x:=by
 intro u hu k x
 obtain ⟨p,_,hp⟩:=List.mem_flatMap.1 hu
 rcases List.mem_append.1 hp with hp | hp
 · exact QcJ [p.p] u (by rw [QeD,QiJ,List.append_nil];exact hp) k x
 · exact QiB [p.q] u (by rw [Qqs];exact List.mem_append_left _ hp) k x
theorem Qdv {vs:List Value} (h:∀ u ∈ vs,∀ (k:IntKind) (x:Int),u ≠ .int k x) (i:Nat) (k:IntKind) (x:Int):vs.toArray[i]? ≠ some (Value.int k x):=fun e=>by
 rw [List.getElem?_toArray] at e
 exact h _ (List.mem_of_getElem? e) k x rfl
theorem QmA {e1:Operand→Value} {d1:Option Tmp} {y1:Nat} {pos:String} {af:Array Edge} {x1 x2:Operand} {n:Nat} (h:e1 x1=.int .i64 (n:Int)) (h2:e1 x2=.int .i64 (n:Int)) (hn:n≤100000) :
 (execOp e1 ⟨d1,.makeSlice 22 x1 x2,y1,pos,af,none⟩).run Tryz.prog w=.ok (.value (.slice (some ⟨w.heap.size,0,none⟩) n n)) (w.alloc (.cells (pvs (List.replicate n zpv)).toArray 29)):=by
 obtain ⟨i0,hi,hz,hs,hby⟩:=info_parts (show (Tryz.prog.info? 29).map (fun i=>(i.zero,i.size,i.bytes))=some (some (.agg #[.bool false,.slice none 0 0,.slice none 0 0,.bool false,.slice none 0 0,.slice none 0 0]),6,112) by kernel_rfl)
 have hr:=run_make (P:=Tryz.prog) w 22 29 i0 _ Tryz.underlying22 hi hz .i64 .i64 (n:Int) (n:Int) (by omega) (Int.le_refl _) (by rw [hby];omega) (by omega)
 rw [Int.toNat_natCast,hs] at hr
 have e:madeCells (Value.agg #[.bool false,.slice none 0 0,.slice none 0 0,.bool false,.slice none 0 0,.slice none 0 0]).cells (n*6)=(pvs (List.replicate n zpv)).toArray:=QgR Qa9 zpv n
 rw [e] at hr
 go_simp
theorem made_p (w:World) (n:Nat) (base:Nat) (hb:base≤w.heap.size):Made 29 (pvs (List.replicate n zpv)).toArray base (w.alloc (.cells (pvs (List.replicate n zpv)).toArray 29)) w.heap.size:=⟨hb,heap_alloc_new w _,Qdv (QcJ _)⟩
theorem Ql2 {e1:Operand→Value} {d1:Option Tmp} {y1:Nat} {pos:String} {af:Array Edge} {x1 x2:Operand} {n:Nat} (h:e1 x1=.int .i64 (n:Int)) (h2:e1 x2=.int .i64 (n:Int)) (hn:n≤100000) :
 (execOp e1 ⟨d1,.makeSlice 78 x1 x2,y1,pos,af,none⟩).run Tryz.prog w=.ok (.value (.slice (some ⟨w.heap.size,0,none⟩) n n)) (w.alloc (.cells (qvs (List.replicate n zqv)).toArray 27)):=by
 obtain ⟨i0,hi,hz,hs,hby⟩:=info_parts (show (Tryz.prog.info? 27).map (fun i=>(i.zero,i.size,i.bytes))=some (some (.agg #[.bool false,.slice none 0 0,.slice none 0 0]),3,56) by kernel_rfl)
 have hr:=run_make (P:=Tryz.prog) w 78 27 i0 _ Tryz.underlying78 hi hz .i64 .i64 (n:Int) (n:Int) (by omega) (Int.le_refl _) (by rw [hby];omega) (by omega)
 rw [Int.toNat_natCast,hs] at hr
 have e:madeCells (Value.agg #[.bool false,.slice none 0 0,.slice none 0 0]).cells (n*3)=(qvs (List.replicate n zqv)).toArray:=QgR QdV zqv n
 rw [e] at hr
 go_simp
theorem made_q (w:World) (n:Nat) (base:Nat) (hb:base≤w.heap.size):Made 27 (qvs (List.replicate n zqv)).toArray base (w.alloc (.cells (qvs (List.replicate n zqv)).toArray 27)) w.heap.size:=⟨hb,heap_alloc_new w _,Qdv (QiB _)⟩
theorem Qmd {e1:Operand→Value} {d1:Option Tmp} {y1:Nat} {pos:String} {af:Array Edge} {x1 x2:Operand} {n:Nat} (h:e1 x1=.int .i64 (n:Int)) (h2:e1 x2=.int .i64 (n:Int)) (hn:n≤100000) :
 (execOp e1 ⟨d1,.makeSlice 64 x1 x2,y1,pos,af,none⟩).run Tryz.prog w=.ok (.value (.slice (some ⟨w.heap.size,0,none⟩) n n)) (w.alloc (.cells (cvs (List.replicate n zcv)).toArray 67)):=by
 obtain ⟨i0,hi,hz,hs,hby⟩:=info_parts (show (Tryz.prog.info? 67).map (fun i=>(i.zero,i.size,i.bytes))=some (some (.agg #[.bool false,.slice none 0 0,.slice none 0 0,.bool false,.slice none 0 0,.slice none 0 0,.bool false,.slice none 0 0,.slice none 0 0]),9,168) by kernel_rfl)
 have hr:=run_make (P:=Tryz.prog) w 64 67 i0 _ Tryz.underlying64 hi hz .i64 .i64 (n:Int) (n:Int) (by omega) (Int.le_refl _) (by rw [hby];omega) (by omega)
 rw [Int.toNat_natCast,hs] at hr
 have e:madeCells (Value.agg #[.bool false,.slice none 0 0,.slice none 0 0,.bool false,.slice none 0 0,.slice none 0 0,.bool false,.slice none 0 0,.slice none 0 0]).cells (n*9)=(cvs (List.replicate n zcv)).toArray:=QgR Qdu zcv n
 rw [e] at hr
 go_simp
theorem made_c (w:World) (n:Nat) (base:Nat) (hb:base≤w.heap.size):Made 67 (cvs (List.replicate n zcv)).toArray base (w.alloc (.cells (cvs (List.replicate n zcv)).toArray 67)) w.heap.size:=⟨hb,heap_alloc_new w _,Qdv (Qe2 _)⟩
theorem Qb9 {e1:Operand→Value} {d1:Option Tmp} {y1:Nat} {pos:String} {af:Array Edge} {x1:Operand} {A:Option Addr} {n c:Nat} (h:e1 x1=.slice A n c) :
 (execOp e1 ⟨d1,.call ⟨.builtin Builtin.len,#[x1],#[22]⟩,y1,pos,af,none⟩).run Tryz.prog w=.ok (.value (.int .i64 (n:Int))) w:=by
 go_simp
theorem Qc7 {e1:Operand→Value} {d1:Option Tmp} {y1:Nat} {pos:String} {af:Array Edge} {x1:Operand} {A:Option Addr} {n c:Nat} (h:e1 x1=.slice A n c) :
 (execOp e1 ⟨d1,.call ⟨.builtin Builtin.len,#[x1],#[64]⟩,y1,pos,af,none⟩).run Tryz.prog w=.ok (.value (.int .i64 (n:Int))) w:=by
 go_simp
theorem Qlk {e1:Operand→Value} {d1:Option Tmp} {y1:Nat} {pos:String} {af:Array Edge} {x1:Operand} {n:Nat} (hn:1≤n) (h:e1 x1=.int .i64 (n:Int)) (hc:e1 (.const (Value.int IntKind.i64 1))=.int .i64 1) :
 (execOp e1 ⟨d1,.call ⟨.builtin Builtin.min,#[.const (Value.int IntKind.i64 1),x1],#[3,3]⟩,y1,pos,af,none⟩).run Tryz.prog w=.ok (.value (.int .i64 1)) w:=by
 go_simp
 omega
theorem Qlq {e1:Operand→Value} {d1:Option Tmp} {y1:Nat} {pos:String} {af:Array Edge} {x1:Operand} (h:e1 x1=.int .i64 0) (hc:e1 (.const (Value.int IntKind.i64 1))=.int .i64 1) :
 (execOp e1 ⟨d1,.call ⟨.builtin Builtin.min,#[.const (Value.int IntKind.i64 1),x1],#[3,3]⟩,y1,pos,af,none⟩).run Tryz.prog w=.ok (.value (.int .i64 0)) w:=by
 go_simp
 rfl
end
section
open Go Go.RowKit
theorem QlF (z:Array Value) (hz:0 < z.size) (hf:∀ u ∈ z,∀ (k:IntKind) (x:Int),u ≠ .int k x) (n:Nat):∀ u ∈ Builtin.zeroCells z n,∀ (k:IntKind) (x:Int),u ≠ .int k x:=by
 intro u hu k x e
 subst e
 simp only [Builtin.zeroCells,Array.mem_map,Array.mem_range] at hu
 obtain ⟨i,_,hi⟩:=hu
 have hlt:=Nat.mod_lt i hz
 rw [getElem!_pos z (i % z.size) hlt] at hi
 exact hf _ (Array.getElem_mem hlt) k x hi
theorem Qhs {e1:Operand→Value} {d1:Option Tmp} {y1:Nat} {pos:String} {af:Array Edge} {x1 x2 x3:Operand} {A:Option Addr} {n c:Nat} (h:e1 x1=.slice A n c) (h2:e1 x2=.int .i64 (n:Int)) (h3:e1 x3=.int .i64 (n:Int)) (hn:n≤c) :
 (execOp e1 ⟨d1,.slice 22 x1 none (some x2) (some x3),y1,pos,af,none⟩).run Tryz.prog w=.ok (.value (.slice A n n)) w:=by
 cases A <;> go_simp
theorem Qhx {e1:Operand→Value} {d1:Option Tmp} {y1:Nat} {pos:String} {af:Array Edge} {x1 x2:Operand} {A:Option Addr} {m n c:Nat} {M:Int} (hM:M=(m:Int)) (hm:m≤c) (h:e1 x1=.slice A n c) (h2:e1 x2=.int .i64 M) :
 (execOp e1 ⟨d1,.slice 22 x1 none (some x2) none,y1,pos,af,none⟩).run Tryz.prog w=.ok (.value (.slice A m c)) w:=by
 subst hM
 cases A <;> go_simp
theorem QlX {e1:Operand→Value} {d1:Option Tmp} {y1:Nat} {pos:String} {af:Array Edge} {x1 x2:Operand} {A B:Option Addr} {c:Nat} (h:e1 x1=.slice A 0 0) (h2:e1 x2=.slice B 0 c) :
 (execOp e1 ⟨d1,.call ⟨.builtin Builtin.append,#[x1,x2],#[22,22]⟩,y1,pos,af,none⟩).run Tryz.prog w=.ok (.value (.slice A 0 0)) w:=by
 obtain ⟨i0,hi,hz,hs,hby⟩:=info_parts (show (Tryz.prog.info? 29).map (fun i=>(i.zero,i.size,i.bytes))=some (some (.agg #[.bool false,.slice none 0 0,.slice none 0 0,.bool false,.slice none 0 0,.slice none 0 0]),6,112) by kernel_rfl)
 have hu:=Tryz.underlying22
 cases A <;> cases B <;> (simp [h,h2,Builtin.append_,run_underlying hu,sizeOf,typeInfo,hi,Builtin.lenOf,Builtin.firstCells,go_sem];try rfl)
theorem Qme {e1:Operand→Value} {x1 x2:Operand} {g o n c:Nat} {L:List PV} (h:e1 x1=.slice (some ⟨g,o,none⟩) n n) (h2:e1 x2=.slice (some ⟨g,o,none⟩) 1 c) (hL:SV w (some ⟨g,o,none⟩) (pvs L)) (hn:L.length=n) (h0:0 < n) (hm:n≤100000) :
 ∃ c' w2,(∀ (d1:Option Tmp) (y1:Nat) (pos:String) (af:Array Edge),(execOp e1 ⟨d1,.call ⟨.builtin Builtin.append,#[x1,x2],#[22,22]⟩,y1,pos,af,none⟩).run Tryz.prog w=.ok (.value (.slice (some ⟨w.heap.size,0,none⟩) (n+1) c')) w2)∧Below w.heap.size w w2∧RowB 29 w2 w.heap.size (pvs (L ++ L.take 1)):=by
 obtain ⟨i0,hi,hz,hs,hby⟩:=info_parts (show (Tryz.prog.info? 29).map (fun i=>(i.zero,i.size,i.bytes))=some (some (.agg #[.bool false,.slice none 0 0,.slice none 0 0,.bool false,.slice none 0 0,.slice none 0 0]),6,112) by kernel_rfl)
 have hu:=Tryz.underlying22
 have hl:(pvs L).length=n*6:=by rw [show (pvs L).length=L.length*6 from Qas Qa9 L,hn]
 have hl1:(pvs (L.take 1)).length=1*6:=by rw [show (pvs (L.take 1)).length=(L.take 1).length*6 from Qas Qa9 _,List.length_take,hn,Nat.min_eq_left (by omega)]
 have hc:∀ j v,(pvs L)[j]?=some v→w.cell? ((⟨g,o,none⟩:Addr).add j)=some v:=fun j v hv=>by
  obtain ⟨g2,o2,e,_,hx⟩:=hL (by rw [hl];omega)
  cases e
  rw [Qce];exact hx j v hv
 have hc1:∀ j v,(pvs (L.take 1))[j]?=some v→w.cell? ((⟨g,o,none⟩:Addr).add j)=some v:=fun j v hv=>by
  refine hc j v ?_
  rw [← List.take_append_drop 1 L,Qd5,List.getElem?_append_left (by have:=(List.getElem?_eq_some_iff.1 hv).1;exact this)]
  exact hv
 have hfit:Builtin.nextslicecap (n+1) n*i0.bytes≤281474976710656:=growslice_fits (by omega) (by rw [hby];omega)
 have hr:=fun y1=>run_append_grow (P:=Tryz.prog) w 22 y1 29 i0 _ hu hi hz ⟨g,o,none⟩ n n (pvs L) (by rw [hs];exact hl) hc ⟨g,o,none⟩ 1 c (pvs (L.take 1)) (by rw [hs];exact hl1) hc1 (by omega) (by omega) hfit
 generalize hX:((pvs L).toArray ++ (pvs (L.take 1)).toArray ++ Builtin.zeroCells (Value.agg #[.bool false,.slice none 0 0,.slice none 0 0,.bool false,.slice none 0 0,.slice none 0 0]).cells (grownCap w (n+1) n 29 - (n+1)))=X at hr
 have he:∀ (d1:Option Tmp) (y1:Nat) (pos:String) (af:Array Edge),(execOp e1 ⟨d1,.call ⟨.builtin Builtin.append,#[x1,x2],#[22,22]⟩,y1,pos,af,none⟩).run Tryz.prog w=.ok (.value (.slice (some ⟨w.heap.size,0,none⟩) (n+1) (grownCap w (n+1) n 29))) (w.drew.alloc (.cells X 29)):=by
  intro d1 y1 pos af
  unfold execOp
  simp only [resolve,invoke,builtin,Sem.run_bind,Sem.run_pure,Result.andThen_ok,List.map_toArray,List.map_cons,List.map_nil,h,h2,hr]
 refine ⟨_,_,he,(Below.refl _ _).drew.alloc (Nat.le_refl _) _,X,⟨heap_alloc_new w.drew _,?_⟩,?_,?_⟩
 · intro i k' x e
   have hm:∀ u ∈ X,∀ (k:IntKind) (x:Int),u ≠ .int k x:=fun u hu=>by
    rw [← hX] at hu
    rcases Array.mem_append.1 hu with q | q
    · rcases Array.mem_append.1 q with q | q
      · exact QcJ L u (by simpa using q)
      · exact QcJ (L.take 1) u (by simpa using q)
    · exact QlF _ (by decide) (fun u hu=>QcJ [zpv] u (Array.mem_toList_iff.2 hu)) _ u q
   exact hm _ (Array.mem_of_getElem? e) k' x rfl
 · rw [← hX,Qd5,List.length_append,Array.size_append,Array.size_append,List.size_toArray,List.size_toArray];omega
 · intro j u hu
   rw [Qd5] at hu
   rw [← hX,Array.getElem?_append_left (by have:=(List.getElem?_eq_some_iff.1 hu).1;simpa using this)]
   simpa using hu
theorem QhA {e1:Operand→Value} {d1:Option Tmp} {y1:Nat} {pos:String} {af:Array Edge} {x1 x2 x3:Operand} {A:Option Addr} {n c:Nat} (h:e1 x1=.slice A n c) (h2:e1 x2=.int .i64 (n:Int)) (h3:e1 x3=.int .i64 (n:Int)) (hn:n≤c) :
 (execOp e1 ⟨d1,.slice 64 x1 none (some x2) (some x3),y1,pos,af,none⟩).run Tryz.prog w=.ok (.value (.slice A n n)) w:=by
 cases A <;> go_simp
theorem QhC {e1:Operand→Value} {d1:Option Tmp} {y1:Nat} {pos:String} {af:Array Edge} {x1 x2:Operand} {A:Option Addr} {m n c:Nat} {M:Int} (hM:M=(m:Int)) (hm:m≤c) (h:e1 x1=.slice A n c) (h2:e1 x2=.int .i64 M) :
 (execOp e1 ⟨d1,.slice 64 x1 none (some x2) none,y1,pos,af,none⟩).run Tryz.prog w=.ok (.value (.slice A m c)) w:=by
 subst hM
 cases A <;> go_simp
theorem QmB {e1:Operand→Value} {d1:Option Tmp} {y1:Nat} {pos:String} {af:Array Edge} {x1 x2:Operand} {A B:Option Addr} {c:Nat} (h:e1 x1=.slice A 0 0) (h2:e1 x2=.slice B 0 c) :
 (execOp e1 ⟨d1,.call ⟨.builtin Builtin.append,#[x1,x2],#[64,64]⟩,y1,pos,af,none⟩).run Tryz.prog w=.ok (.value (.slice A 0 0)) w:=by
 obtain ⟨i0,hi,hz,hs,hby⟩:=info_parts (show (Tryz.prog.info? 67).map (fun i=>(i.zero,i.size,i.bytes))=some (some (.agg #[.bool false,.slice none 0 0,.slice none 0 0,.bool false,.slice none 0 0,.slice none 0 0,.bool false,.slice none 0 0,.slice none 0 0]),9,168) by kernel_rfl)
 have hu:=Tryz.underlying64
 cases A <;> cases B <;> (simp [h,h2,Builtin.append_,run_underlying hu,sizeOf,typeInfo,hi,Builtin.lenOf,Builtin.firstCells,go_sem];try rfl)
theorem Ql0 {e1:Operand→Value} {x1 x2:Operand} {g o n c:Nat} {L:List CV} (h:e1 x1=.slice (some ⟨g,o,none⟩) n n) (h2:e1 x2=.slice (some ⟨g,o,none⟩) 1 c) (hL:SV w (some ⟨g,o,none⟩) (cvs L)) (hn:L.length=n) (h0:0 < n) (hm:n≤100000) :
 ∃ c' w2,(∀ (d1:Option Tmp) (y1:Nat) (pos:String) (af:Array Edge),(execOp e1 ⟨d1,.call ⟨.builtin Builtin.append,#[x1,x2],#[64,64]⟩,y1,pos,af,none⟩).run Tryz.prog w=.ok (.value (.slice (some ⟨w.heap.size,0,none⟩) (n+1) c')) w2)∧Below w.heap.size w w2∧RowB 67 w2 w.heap.size (cvs (L ++ L.take 1)):=by
 obtain ⟨i0,hi,hz,hs,hby⟩:=info_parts (show (Tryz.prog.info? 67).map (fun i=>(i.zero,i.size,i.bytes))=some (some (.agg #[.bool false,.slice none 0 0,.slice none 0 0,.bool false,.slice none 0 0,.slice none 0 0,.bool false,.slice none 0 0,.slice none 0 0]),9,168) by kernel_rfl)
 have hu:=Tryz.underlying64
 have hl:(cvs L).length=n*9:=by rw [show (cvs L).length=L.length*9 from Qas Qdu L,hn]
 have hl1:(cvs (L.take 1)).length=1*9:=by rw [show (cvs (L.take 1)).length=(L.take 1).length*9 from Qas Qdu _,List.length_take,hn,Nat.min_eq_left (by omega)]
 have hc:∀ j v,(cvs L)[j]?=some v→w.cell? ((⟨g,o,none⟩:Addr).add j)=some v:=fun j v hv=>by
  obtain ⟨g2,o2,e,_,hx⟩:=hL (by rw [hl];omega)
  cases e
  rw [Qce];exact hx j v hv
 have hc1:∀ j v,(cvs (L.take 1))[j]?=some v→w.cell? ((⟨g,o,none⟩:Addr).add j)=some v:=fun j v hv=>by
  refine hc j v ?_
  rw [← List.take_append_drop 1 L,Qfs,List.getElem?_append_left (by have:=(List.getElem?_eq_some_iff.1 hv).1;exact this)]
  exact hv
 have hfit:Builtin.nextslicecap (n+1) n*i0.bytes≤281474976710656:=growslice_fits (by omega) (by rw [hby];omega)
 have hr:=fun y1=>run_append_grow (P:=Tryz.prog) w 64 y1 67 i0 _ hu hi hz ⟨g,o,none⟩ n n (cvs L) (by rw [hs];exact hl) hc ⟨g,o,none⟩ 1 c (cvs (L.take 1)) (by rw [hs];exact hl1) hc1 (by omega) (by omega) hfit
 generalize hX:((cvs L).toArray ++ (cvs (L.take 1)).toArray ++ Builtin.zeroCells (Value.agg #[.bool false,.slice none 0 0,.slice none 0 0,.bool false,.slice none 0 0,.slice none 0 0,.bool false,.slice none 0 0,.slice none 0 0]).cells (grownCap w (n+1) n 67 - (n+1)))=X at hr
 have he:∀ (d1:Option Tmp) (y1:Nat) (pos:String) (af:Array Edge),(execOp e1 ⟨d1,.call ⟨.builtin Builtin.append,#[x1,x2],#[64,64]⟩,y1,pos,af,none⟩).run Tryz.prog w=.ok (.value (.slice (some ⟨w.heap.size,0,none⟩) (n+1) (grownCap w (n+1) n 67))) (w.drew.alloc (.cells X 67)):=by
  intro d1 y1 pos af
  unfold execOp
  simp only [resolve,invoke,builtin,Sem.run_bind,Sem.run_pure,Result.andThen_ok,List.map_toArray,List.map_cons,List.map_nil,h,h2,hr]
 refine ⟨_,_,he,(Below.refl _ _).drew.alloc (Nat.le_refl _) _,X,⟨heap_alloc_new w.drew _,?_⟩,?_,?_⟩
 · intro i k' x e
   have hm:∀ u ∈ X,∀ (k:IntKind) (x:Int),u ≠ .int k x:=fun u hu=>by
    rw [← hX] at hu
    rcases Array.mem_append.1 hu with q | q
    · rcases Array.mem_append.1 q with q | q
      · exact Qe2 L u (by simpa using q)
      · exact Qe2 (L.take 1) u (by simpa using q)
    · exact QlF _ (by decide) (fun u hu=>Qe2 [zcv] u (Array.mem_toList_iff.2 hu)) _ u q
   exact hm _ (Array.mem_of_getElem? e) k' x rfl
 · rw [← hX,Qfs,List.length_append,Array.size_append,Array.size_append,List.size_toArray,List.size_toArray];omega
 · intro j u hu
   rw [Qfs] at hu
   rw [← hX,Array.getElem?_append_left (by have:=(List.getElem?_eq_some_iff.1 hu).1;simpa using this)]
   simpa using hu
abbrev L_closedp:List Nat:=[3,4,5,6,7,8,9,10,11,12,13,14,2]
def Qb6:Oper:=⟨some 3,.move (.tmp 0),22, "area.go:53",#[],none⟩
def Qb2:Oper:=⟨some 4,.move (.tmp 0),22, "area.go:53",#[],none⟩
def Qbu:Oper:=⟨some 5,.call ⟨.builtin Builtin.len,#[.tmp 4],#[22]⟩,3, "area.go:53",#[⟨1,.data⟩],none⟩
def QbW:Oper:=⟨some 6,.move (.tmp 0),22, "area.go:53",#[],none⟩
def Qbw:Oper:=⟨some 7,.call ⟨.builtin Builtin.len,#[.tmp 6],#[22]⟩,3, "area.go:53",#[⟨3,.data⟩],none⟩
def QaQ:Oper:=⟨some 8,.slice 22 (.tmp 3) none (some (.tmp 5)) (some (.tmp 7)),22, "area.go:53",#[⟨0,.data⟩,⟨2,.data⟩,⟨4,.data⟩],none⟩
def QbZ:Oper:=⟨some 9,.move (.tmp 0),22, "area.go:53",#[],none⟩
def Qb5:Oper:=⟨some 10,.move (.tmp 0),22, "area.go:53",#[],none⟩
def Qbr:Oper:=⟨some 11,.call ⟨.builtin Builtin.len,#[.tmp 10],#[22]⟩,3, "area.go:53",#[⟨7,.data⟩],none⟩
def Qbs:Oper:=⟨some 12,.call ⟨.builtin Builtin.min,#[.const (Value.int IntKind.i64 1),.tmp 11],#[3,3]⟩,3, "area.go:53",#[⟨8,.data⟩],none⟩
def QaW:Oper:=⟨some 13,.slice 22 (.tmp 9) none (some (.tmp 12)) none,22, "area.go:53",#[⟨6,.data⟩,⟨9,.data⟩],none⟩
def QaY:Oper:=⟨some 14,.call ⟨.builtin Builtin.append,#[.tmp 8,.tmp 13],#[22,22]⟩,22, "area.go:53",#[⟨5,.data⟩,⟨10,.data⟩],none⟩
def Qbe:Oper:=⟨some 2,.assign (.tmp 14),22, "area.go:53",#[⟨11,.data⟩,⟨11,.chain⟩,⟨0,.phase⟩,⟨1,.phase⟩,⟨2,.phase⟩,⟨3,.phase⟩,⟨4,.phase⟩,⟨5,.phase⟩,⟨6,.phase⟩,⟨7,.phase⟩,⟨8,.phase⟩,⟨9,.phase⟩,⟨10,.phase⟩,⟨11,.phase⟩],none⟩
def Qjz (g:Nat) (o:Nat) (n:Nat) (c:Nat) (base:Nat) (L:List PV) (sl:Nat):Value→World→Prop :=
 match sl with
 | 3=>fun x _=>x=Value.slice (some ⟨g,o,none⟩) n c
 | 4=>fun x _=>x=Value.slice (some ⟨g,o,none⟩) n c
 | 5=>fun x _=>x=Value.int .i64 (n:Int)
 | 6=>fun x _=>x=Value.slice (some ⟨g,o,none⟩) n c
 | 7=>fun x _=>x=Value.int .i64 (n:Int)
 | 8=>fun x _=>x=Value.slice (some ⟨g,o,none⟩) n n
 | 9=>fun x _=>x=Value.slice (some ⟨g,o,none⟩) n c
 | 10=>fun x _=>x=Value.slice (some ⟨g,o,none⟩) n c
 | 11=>fun x _=>x=Value.int .i64 (n:Int)
 | 12=>fun x _=>x=Value.int .i64 1
 | 13=>fun x _=>x=Value.slice (some ⟨g,o,none⟩) 1 c
 | 14=>VSB (29) (base) (n) (n+1) (pvs (L ++ L.take 1))
 | 2=>VSB (29) (base) (n) (n+1) (pvs (L ++ L.take 1))
 | _=>fun _ _=>True
theorem Qhj {id:Nat} {ac:Act} {Q:Exit→Act→World→Prop} {g o n c base:Nat} {L:List PV}
 (hsz:14 < ac.tmps.size) (e0:ac.eval (.tmp 0)=Value.slice (some ⟨g,o,none⟩) n c) (hL:SV w (some ⟨g,o,none⟩) (pvs L)) (hn:L.length=n) (h0:0 < n) (hm:n≤100000) (hnc:n≤c) (hbs:base≤w.heap.size)
 (hend:∀ (V:Nat→Value) (w':World),(VSB (29) (base) (n) (n+1) (pvs (L ++ L.take 1))) (V 2) w'→Below w.heap.size w w'→Q .normal (Qam ac [3,4,5,6,7,8,9,10,11,12,13,14,2] V) w') :
 (Code.region id #[Qb6,Qb2,Qbu,QbW,Qbw,QaQ,QbZ,Qb5,Qbr,Qbs,QaW,QaY,Qbe] true).wp Tryz.prog Q ac w:=by
 have hnd:L_closedp.Nodup:=by decide
 have G:∀ (sv:Nat→Value) (t:Nat),t ∈ L_closedp→t≤14→(Qam ac L_closedp sv).eval (.tmp t)=sv t:=fun sv t ht h=>Qaz (t:=t) L_closedp ac hnd ht (Nat.lt_of_le_of_lt h hsz)
 have E0:∀ sv:Nat→Value,(Qam ac L_closedp sv).eval (.tmp 0)=Value.slice (some ⟨g,o,none⟩) n c:=fun sv=>(Qap (v:=sv) L_closedp ac (show 0 ∉ _ by decide)).trans e0
 have NE:∀ t:Nat,(True)→∀ p ∈ ([]:List QbU),t ≠ p.tA:=by
  intro t ht p hp
  cases hp
 refine QaB L_closedp ([]:List QbU) (Qjz g o n c base L) (by kernel_rfl) (by kernel_rfl) rfl hnd ?_ ?_ ?_ ?_ ?_ ?_ ?_ ?_
 · intro p hp
   cases hp
 · intro p hp;cases hp
 · intro p hp;cases hp
 · intro i o h1 h2
   match i,h1 with
   | 0,h1=>cases h1;cases h2
   | 1,h1=>cases h1;cases h2
   | 2,h1=>cases h1;cases h2
   | 3,h1=>cases h1;cases h2
   | 4,h1=>cases h1;cases h2
   | 5,h1=>cases h1;cases h2
   | 6,h1=>cases h1;cases h2
   | 7,h1=>cases h1;cases h2
   | 8,h1=>cases h1;cases h2
   | 9,h1=>cases h1;cases h2
   | 10,h1=>cases h1;cases h2
   | 11,h1=>cases h1;cases h2
   | 12,h1=>cases h1;cases h2
   | i+13,h1=>cases h1
 · intro t
   unfold Qjz
   split <;> first | exact (QbF _).inn _ | exact (QbS _ _).inn _ | exact (Qct _ _).inn _ | exact (Qco _ _).inn _ | exact (QbO _ _).inn _ | exact (QbQ _ _ _).inn _ | exact (Qa4).inn _ | exact Qf2 _ _ _ _ _ _ (fun p hp=>by cases hp)
 · intro i o t sv w' ho hia hd J0 hf
   have hL:=hL.below J0
   match i,ho with
   | 0,ho =>
     obtain rfl:Qb6=o:=Option.some.inj ho
     cases hd
     refine Qaa (o:=Qb6) rfl rfl ?_
     unfold Oper.wp Qb6
     rw [Qaw (E0 sv),Oper.upon_value]
     exact ⟨_,rfl,Below.refl _ _,rfl⟩
   | 1,ho =>
     obtain rfl:Qb2=o:=Option.some.inj ho
     cases hd
     refine Qaa (o:=Qb2) rfl rfl ?_
     unfold Oper.wp Qb2
     rw [Qaw (E0 sv),Oper.upon_value]
     exact ⟨_,rfl,Below.refl _ _,rfl⟩
   | 2,ho =>
     obtain rfl:Qbu=o:=Option.some.inj ho
     cases hd
     have f4:sv 4=Value.slice (some ⟨g,o,none⟩) n c:=hf ⟨1,.data⟩ (by simp [Qbu]) rfl _ 4 rfl rfl (NE _ (by decide))
     refine Qaa (o:=Qbu) rfl rfl ?_
     unfold Oper.wp Qbu
     rw [Qb9 ((G sv 4 (by decide) (by decide)).trans f4) ,Oper.upon_value]
     exact ⟨_,rfl,Below.refl _ _,rfl⟩
   | 3,ho =>
     obtain rfl:QbW=o:=Option.some.inj ho
     cases hd
     refine Qaa (o:=QbW) rfl rfl ?_
     unfold Oper.wp QbW
     rw [Qaw (E0 sv),Oper.upon_value]
     exact ⟨_,rfl,Below.refl _ _,rfl⟩
   | 4,ho =>
     obtain rfl:Qbw=o:=Option.some.inj ho
     cases hd
     have f6:sv 6=Value.slice (some ⟨g,o,none⟩) n c:=hf ⟨3,.data⟩ (by simp [Qbw]) rfl _ 6 rfl rfl (NE _ (by decide))
     refine Qaa (o:=Qbw) rfl rfl ?_
     unfold Oper.wp Qbw
     rw [Qb9 ((G sv 6 (by decide) (by decide)).trans f6) ,Oper.upon_value]
     exact ⟨_,rfl,Below.refl _ _,rfl⟩
   | 5,ho =>
     obtain rfl:QaQ=o:=Option.some.inj ho
     cases hd
     have f3:sv 3=Value.slice (some ⟨g,o,none⟩) n c:=hf ⟨0,.data⟩ (by simp [QaQ]) rfl _ 3 rfl rfl (NE _ (by decide))
     have f5:sv 5=Value.int .i64 (n:Int):=hf ⟨2,.data⟩ (by simp [QaQ]) rfl _ 5 rfl rfl (NE _ (by decide))
     have f7:sv 7=Value.int .i64 (n:Int):=hf ⟨4,.data⟩ (by simp [QaQ]) rfl _ 7 rfl rfl (NE _ (by decide))
     refine Qaa (o:=QaQ) rfl rfl ?_
     unfold Oper.wp QaQ
     rw [Qhs ((G sv 3 (by decide) (by decide)).trans f3) ((G sv 5 (by decide) (by decide)).trans f5) ((G sv 7 (by decide) (by decide)).trans f7) hnc,Oper.upon_value]
     exact ⟨_,rfl,Below.refl _ _,rfl⟩
   | 6,ho =>
     obtain rfl:QbZ=o:=Option.some.inj ho
     cases hd
     refine Qaa (o:=QbZ) rfl rfl ?_
     unfold Oper.wp QbZ
     rw [Qaw (E0 sv),Oper.upon_value]
     exact ⟨_,rfl,Below.refl _ _,rfl⟩
   | 7,ho =>
     obtain rfl:Qb5=o:=Option.some.inj ho
     cases hd
     refine Qaa (o:=Qb5) rfl rfl ?_
     unfold Oper.wp Qb5
     rw [Qaw (E0 sv),Oper.upon_value]
     exact ⟨_,rfl,Below.refl _ _,rfl⟩
   | 8,ho =>
     obtain rfl:Qbr=o:=Option.some.inj ho
     cases hd
     have f10:sv 10=Value.slice (some ⟨g,o,none⟩) n c:=hf ⟨7,.data⟩ (by simp [Qbr]) rfl _ 10 rfl rfl (NE _ (by decide))
     refine Qaa (o:=Qbr) rfl rfl ?_
     unfold Oper.wp Qbr
     rw [Qb9 ((G sv 10 (by decide) (by decide)).trans f10) ,Oper.upon_value]
     exact ⟨_,rfl,Below.refl _ _,rfl⟩
   | 9,ho =>
     obtain rfl:Qbs=o:=Option.some.inj ho
     cases hd
     have f11:sv 11=Value.int .i64 (n:Int):=hf ⟨8,.data⟩ (by simp [Qbs]) rfl _ 11 rfl rfl (NE _ (by decide))
     refine Qaa (o:=Qbs) rfl rfl ?_
     unfold Oper.wp Qbs
     rw [Qlk h0 ((G sv 11 (by decide) (by decide)).trans f11) (show (Qam ac L_closedp sv).eval (.const (Value.int IntKind.i64 1))=(Value.int IntKind.i64 1) from rfl) ,Oper.upon_value]
     exact ⟨_,rfl,Below.refl _ _,rfl⟩
   | 10,ho =>
     obtain rfl:QaW=o:=Option.some.inj ho
     cases hd
     have f9:sv 9=Value.slice (some ⟨g,o,none⟩) n c:=hf ⟨6,.data⟩ (by simp [QaW]) rfl _ 9 rfl rfl (NE _ (by decide))
     have f12:sv 12=Value.int .i64 1:=hf ⟨9,.data⟩ (by simp [QaW]) rfl _ 12 rfl rfl (NE _ (by decide))
     refine Qaa (o:=QaW) rfl rfl ?_
     unfold Oper.wp QaW
     rw [Qhx (m:=1) rfl (by omega) ((G sv 9 (by decide) (by decide)).trans f9) ((G sv 12 (by decide) (by decide)).trans f12) ,Oper.upon_value]
     exact ⟨_,rfl,Below.refl _ _,rfl⟩
   | 11,ho =>
     obtain rfl:QaY=o:=Option.some.inj ho
     cases hd
     have f8:sv 8=Value.slice (some ⟨g,o,none⟩) n n:=hf ⟨5,.data⟩ (by simp [QaY]) rfl _ 8 rfl rfl (NE _ (by decide))
     have f13:sv 13=Value.slice (some ⟨g,o,none⟩) 1 c:=hf ⟨10,.data⟩ (by simp [QaY]) rfl _ 13 rfl rfl (NE _ (by decide))
     refine Qaa (o:=QaY) rfl rfl ?_
     unfold Oper.wp QaY
     obtain ⟨c2,w2,hr,hb2,hB⟩:=Qme (w:=w') ((G sv 8 (by decide) (by decide)).trans f8) ((G sv 13 (by decide) (by decide)).trans f13) hL hn h0 hm
     rw [hr,Oper.upon_value]
     exact ⟨_,rfl,hb2,_,_,rfl,fun _=>⟨_,rfl,Nat.le_trans hbs J0.size,hB⟩⟩
   | 12,ho =>
     obtain rfl:Qbe=o:=Option.some.inj ho
     cases hd
     have f:=hf ⟨11,.data⟩ (by simp [Qbe]) rfl _ 14 rfl rfl (NE _ (by decide))
     refine Qaa (o:=Qbe) rfl rfl ?_
     unfold Oper.wp Qbe
     rw [Qbq (G sv 14 (by decide) (by decide)),Oper.upon_value]
     exact ⟨_,rfl,Below.refl _ _,f⟩
   | i+13,ho=>cases ho
 · intro p hp os sv w' g hos J0 p1 p3 hf
   cases hp
 · intro sv w' J0 hF hB hap
   exact hend sv w'   (hF 12 _ 2 rfl rfl (NE _ (by decide))) J0
def Qov (A:Option Addr) (c:Nat) (sl:Nat):Value→World→Prop :=
 match sl with
 | 3=>fun x _=>x=Value.slice A 0 c
 | 4=>fun x _=>x=Value.slice A 0 c
 | 5=>fun x _=>x=Value.int .i64 0
 | 6=>fun x _=>x=Value.slice A 0 c
 | 7=>fun x _=>x=Value.int .i64 0
 | 8=>fun x _=>x=Value.slice A 0 0
 | 9=>fun x _=>x=Value.slice A 0 c
 | 10=>fun x _=>x=Value.slice A 0 c
 | 11=>fun x _=>x=Value.int .i64 0
 | 12=>fun x _=>x=Value.int .i64 0
 | 13=>fun x _=>x=Value.slice A 0 c
 | 14=>fun x _=>x=Value.slice A 0 0
 | 2=>fun x _=>x=Value.slice A 0 0
 | _=>fun _ _=>True
theorem QjS {id:Nat} {ac:Act} {Q:Exit→Act→World→Prop} {A:Option Addr} {c:Nat}
 (hsz:14 < ac.tmps.size) (e0:ac.eval (.tmp 0)=Value.slice A 0 c) 
 (hend:∀ (V:Nat→Value) (w':World),V 2=Value.slice A 0 0→Below w.heap.size w w'→Q .normal (Qam ac [3,4,5,6,7,8,9,10,11,12,13,14,2] V) w') :
 (Code.region id #[Qb6,Qb2,Qbu,QbW,Qbw,QaQ,QbZ,Qb5,Qbr,Qbs,QaW,QaY,Qbe] true).wp Tryz.prog Q ac w:=by
 have hnd:L_closedp.Nodup:=by decide
 have G:∀ (sv:Nat→Value) (t:Nat),t ∈ L_closedp→t≤14→(Qam ac L_closedp sv).eval (.tmp t)=sv t:=fun sv t ht h=>Qaz (t:=t) L_closedp ac hnd ht (Nat.lt_of_le_of_lt h hsz)
 have E0:∀ sv:Nat→Value,(Qam ac L_closedp sv).eval (.tmp 0)=Value.slice A 0 c:=fun sv=>(Qap (v:=sv) L_closedp ac (show 0 ∉ _ by decide)).trans e0
 have NE:∀ t:Nat,(True)→∀ p ∈ ([]:List QbU),t ≠ p.tA:=by
  intro t ht p hp
  cases hp
 refine QaB L_closedp ([]:List QbU) (Qov A c) (by kernel_rfl) (by kernel_rfl) rfl hnd ?_ ?_ ?_ ?_ ?_ ?_ ?_ ?_
 · intro p hp
   cases hp
 · intro p hp;cases hp
 · intro p hp;cases hp
 · intro i o h1 h2
   match i,h1 with
   | 0,h1=>cases h1;cases h2
   | 1,h1=>cases h1;cases h2
   | 2,h1=>cases h1;cases h2
   | 3,h1=>cases h1;cases h2
   | 4,h1=>cases h1;cases h2
   | 5,h1=>cases h1;cases h2
   | 6,h1=>cases h1;cases h2
   | 7,h1=>cases h1;cases h2
   | 8,h1=>cases h1;cases h2
   | 9,h1=>cases h1;cases h2
   | 10,h1=>cases h1;cases h2
   | 11,h1=>cases h1;cases h2
   | 12,h1=>cases h1;cases h2
   | i+13,h1=>cases h1
 · intro t
   unfold Qov
   split <;> first | exact (QbF _).inn _ | exact (QbS _ _).inn _ | exact (Qct _ _).inn _ | exact (Qco _ _).inn _ | exact (QbO _ _).inn _ | exact (QbQ _ _ _).inn _ | exact (Qa4).inn _
 · intro i o t sv w' ho hia hd J0 hf
   match i,ho with
   | 0,ho =>
     obtain rfl:Qb6=o:=Option.some.inj ho
     cases hd
     refine Qaa (o:=Qb6) rfl rfl ?_
     unfold Oper.wp Qb6
     rw [Qaw (E0 sv),Oper.upon_value]
     exact ⟨_,rfl,Below.refl _ _,rfl⟩
   | 1,ho =>
     obtain rfl:Qb2=o:=Option.some.inj ho
     cases hd
     refine Qaa (o:=Qb2) rfl rfl ?_
     unfold Oper.wp Qb2
     rw [Qaw (E0 sv),Oper.upon_value]
     exact ⟨_,rfl,Below.refl _ _,rfl⟩
   | 2,ho =>
     obtain rfl:Qbu=o:=Option.some.inj ho
     cases hd
     have f4:sv 4=Value.slice A 0 c:=hf ⟨1,.data⟩ (by simp [Qbu]) rfl _ 4 rfl rfl (NE _ (by decide))
     refine Qaa (o:=Qbu) rfl rfl ?_
     unfold Oper.wp Qbu
     rw [Qb9 (n:=0) ((G sv 4 (by decide) (by decide)).trans f4) ,Oper.upon_value]
     exact ⟨_,rfl,Below.refl _ _,rfl⟩
   | 3,ho =>
     obtain rfl:QbW=o:=Option.some.inj ho
     cases hd
     refine Qaa (o:=QbW) rfl rfl ?_
     unfold Oper.wp QbW
     rw [Qaw (E0 sv),Oper.upon_value]
     exact ⟨_,rfl,Below.refl _ _,rfl⟩
   | 4,ho =>
     obtain rfl:Qbw=o:=Option.some.inj ho
     cases hd
     have f6:sv 6=Value.slice A 0 c:=hf ⟨3,.data⟩ (by simp [Qbw]) rfl _ 6 rfl rfl (NE _ (by decide))
     refine Qaa (o:=Qbw) rfl rfl ?_
     unfold Oper.wp Qbw
     rw [Qb9 (n:=0) ((G sv 6 (by decide) (by decide)).trans f6) ,Oper.upon_value]
     exact ⟨_,rfl,Below.refl _ _,rfl⟩
   | 5,ho =>
     obtain rfl:QaQ=o:=Option.some.inj ho
     cases hd
     have f3:sv 3=Value.slice A 0 c:=hf ⟨0,.data⟩ (by simp [QaQ]) rfl _ 3 rfl rfl (NE _ (by decide))
     have f5:sv 5=Value.int .i64 0:=hf ⟨2,.data⟩ (by simp [QaQ]) rfl _ 5 rfl rfl (NE _ (by decide))
     have f7:sv 7=Value.int .i64 0:=hf ⟨4,.data⟩ (by simp [QaQ]) rfl _ 7 rfl rfl (NE _ (by decide))
     refine Qaa (o:=QaQ) rfl rfl ?_
     unfold Oper.wp QaQ
     rw [Qhs (n:=0) ((G sv 3 (by decide) (by decide)).trans f3) ((G sv 5 (by decide) (by decide)).trans f5) ((G sv 7 (by decide) (by decide)).trans f7) (Nat.zero_le _),Oper.upon_value]
     exact ⟨_,rfl,Below.refl _ _,rfl⟩
   | 6,ho =>
     obtain rfl:QbZ=o:=Option.some.inj ho
     cases hd
     refine Qaa (o:=QbZ) rfl rfl ?_
     unfold Oper.wp QbZ
     rw [Qaw (E0 sv),Oper.upon_value]
     exact ⟨_,rfl,Below.refl _ _,rfl⟩
   | 7,ho =>
     obtain rfl:Qb5=o:=Option.some.inj ho
     cases hd
     refine Qaa (o:=Qb5) rfl rfl ?_
     unfold Oper.wp Qb5
     rw [Qaw (E0 sv),Oper.upon_value]
     exact ⟨_,rfl,Below.refl _ _,rfl⟩
   | 8,ho =>
     obtain rfl:Qbr=o:=Option.some.inj ho
     cases hd
     have f10:sv 10=Value.slice A 0 c:=hf ⟨7,.data⟩ (by simp [Qbr]) rfl _ 10 rfl rfl (NE _ (by decide))
     refine Qaa (o:=Qbr) rfl rfl ?_
     unfold Oper.wp Qbr
     rw [Qb9 (n:=0) ((G sv 10 (by decide) (by decide)).trans f10) ,Oper.upon_value]
     exact ⟨_,rfl,Below.refl _ _,rfl⟩
   | 9,ho =>
     obtain rfl:Qbs=o:=Option.some.inj ho
     cases hd
     have f11:sv 11=Value.int .i64 0:=hf ⟨8,.data⟩ (by simp [Qbs]) rfl _ 11 rfl rfl (NE _ (by decide))
     refine Qaa (o:=Qbs) rfl rfl ?_
     unfold Oper.wp Qbs
     rw [Qlq ((G sv 11 (by decide) (by decide)).trans f11) (show (Qam ac L_closedp sv).eval (.const (Value.int IntKind.i64 1))=(Value.int IntKind.i64 1) from rfl) ,Oper.upon_value]
     exact ⟨_,rfl,Below.refl _ _,rfl⟩
   | 10,ho =>
     obtain rfl:QaW=o:=Option.some.inj ho
     cases hd
     have f9:sv 9=Value.slice A 0 c:=hf ⟨6,.data⟩ (by simp [QaW]) rfl _ 9 rfl rfl (NE _ (by decide))
     have f12:sv 12=Value.int .i64 0:=hf ⟨9,.data⟩ (by simp [QaW]) rfl _ 12 rfl rfl (NE _ (by decide))
     refine Qaa (o:=QaW) rfl rfl ?_
     unfold Oper.wp QaW
     rw [Qhx (m:=0) rfl (Nat.zero_le _) ((G sv 9 (by decide) (by decide)).trans f9) ((G sv 12 (by decide) (by decide)).trans f12) ,Oper.upon_value]
     exact ⟨_,rfl,Below.refl _ _,rfl⟩
   | 11,ho =>
     obtain rfl:QaY=o:=Option.some.inj ho
     cases hd
     have f8:sv 8=Value.slice A 0 0:=hf ⟨5,.data⟩ (by simp [QaY]) rfl _ 8 rfl rfl (NE _ (by decide))
     have f13:sv 13=Value.slice A 0 c:=hf ⟨10,.data⟩ (by simp [QaY]) rfl _ 13 rfl rfl (NE _ (by decide))
     refine Qaa (o:=QaY) rfl rfl ?_
     unfold Oper.wp QaY
     rw [QlX ((G sv 8 (by decide) (by decide)).trans f8) ((G sv 13 (by decide) (by decide)).trans f13) ,Oper.upon_value]
     exact ⟨_,rfl,Below.refl _ _,rfl⟩
   | 12,ho =>
     obtain rfl:Qbe=o:=Option.some.inj ho
     cases hd
     have f:=hf ⟨11,.data⟩ (by simp [Qbe]) rfl _ 14 rfl rfl (NE _ (by decide))
     refine Qaa (o:=Qbe) rfl rfl ?_
     unfold Oper.wp Qbe
     rw [Qbq (G sv 14 (by decide) (by decide)),Oper.upon_value]
     exact ⟨_,rfl,Below.refl _ _,f⟩
   | i+13,ho=>cases ho
 · intro p hp os sv w' g hos J0 p1 p3 hf
   cases hp
 · intro sv w' J0 hF hB hap
   exact hend sv w'  (hF 12 _ 2 rfl rfl (NE _ (by decide)))  J0
theorem Qe1 {A:Option Addr} {n c base:Nat} {L:List PV} (hL:SV w A (pvs L)) (hn:L.length=n) (hm:n≤100000) (hnc:n≤c) (hbs:base≤w.heap.size) :
 Calls Tryz.prog 36 #[.slice A n c] w fun e w'=>∃ A' c',e=.returned (.slice A' (n+min 1 n) c')∧SNr 29 base n (pvs (L ++ L.take 1)) w' A'∧Below w.heap.size w w':=by
 rcases Nat.eq_zero_or_pos n with h0 | h0
 · subst h0
   go_enter Tryz.func36,Tryz.ntmps36
   go_upto_region 1 with (fail)
   refine QjS (by simp) rfl ?_
   intro V w' hv hh
   simp only [Qam,Act.put,List.setIfInBounds_toArray,List.set_cons_zero,List.set_cons_succ,hv]
   go_wp2_with fail
   (try rw [Exit.noGoto_ret])
   go_ret
   exact ⟨_,_,rfl,fun h=>absurd h (by omega),hh⟩
 · obtain ⟨g,o,rfl,_,_⟩:=hL (by rw [show (pvs L).length=L.length*6 from Qas Qa9 L,hn];omega)
   go_enter Tryz.func36,Tryz.ntmps36
   go_upto_region 1 with (fail)
   refine Qhj (by simp) rfl hL hn h0 hm hnc hbs ?_
   intro V w' hF hh
   obtain ⟨A',c',hv,hS⟩:=hF
   simp only [Qam,Act.put,List.setIfInBounds_toArray,List.set_cons_zero,List.set_cons_succ,hv]
   go_wp2_with fail
   (try rw [Exit.noGoto_ret])
   go_ret
   exact ⟨A',c',by rw [show n+min 1 n=n+1 by omega];rfl,hS,hh⟩
abbrev L_closedc:List Nat:=[3,4,5,6,7,8,9,10,11,12,13,14,2]
def Qb3:Oper:=⟨some 3,.move (.tmp 0),64, "area.go:53",#[],none⟩
def Qb4:Oper:=⟨some 4,.move (.tmp 0),64, "area.go:53",#[],none⟩
def Qby:Oper:=⟨some 5,.call ⟨.builtin Builtin.len,#[.tmp 4],#[64]⟩,3, "area.go:53",#[⟨1,.data⟩],none⟩
def Qb1:Oper:=⟨some 6,.move (.tmp 0),64, "area.go:53",#[],none⟩
def Qbp:Oper:=⟨some 7,.call ⟨.builtin Builtin.len,#[.tmp 6],#[64]⟩,3, "area.go:53",#[⟨3,.data⟩],none⟩
def QaT:Oper:=⟨some 8,.slice 64 (.tmp 3) none (some (.tmp 5)) (some (.tmp 7)),64, "area.go:53",#[⟨0,.data⟩,⟨2,.data⟩,⟨4,.data⟩],none⟩
def QbY:Oper:=⟨some 9,.move (.tmp 0),64, "area.go:53",#[],none⟩
def QbX:Oper:=⟨some 10,.move (.tmp 0),64, "area.go:53",#[],none⟩
def Qbt:Oper:=⟨some 11,.call ⟨.builtin Builtin.len,#[.tmp 10],#[64]⟩,3, "area.go:53",#[⟨7,.data⟩],none⟩
def Qbx:Oper:=⟨some 12,.call ⟨.builtin Builtin.min,#[.const (Value.int IntKind.i64 1),.tmp 11],#[3,3]⟩,3, "area.go:53",#[⟨8,.data⟩],none⟩
def QaX:Oper:=⟨some 13,.slice 64 (.tmp 9) none (some (.tmp 12)) none,64, "area.go:53",#[⟨6,.data⟩,⟨9,.data⟩],none⟩
def QaV:Oper:=⟨some 14,.call ⟨.builtin Builtin.append,#[.tmp 8,.tmp 13],#[64,64]⟩,64, "area.go:53",#[⟨5,.data⟩,⟨10,.data⟩],none⟩
def Qbd:Oper:=⟨some 2,.assign (.tmp 14),64, "area.go:53",#[⟨11,.data⟩,⟨11,.chain⟩,⟨0,.phase⟩,⟨1,.phase⟩,⟨2,.phase⟩,⟨3,.phase⟩,⟨4,.phase⟩,⟨5,.phase⟩,⟨6,.phase⟩,⟨7,.phase⟩,⟨8,.phase⟩,⟨9,.phase⟩,⟨10,.phase⟩,⟨11,.phase⟩],none⟩
def Qj2 (g:Nat) (o:Nat) (n:Nat) (c:Nat) (base:Nat) (L:List CV) (sl:Nat):Value→World→Prop :=
 match sl with
 | 3=>fun x _=>x=Value.slice (some ⟨g,o,none⟩) n c
 | 4=>fun x _=>x=Value.slice (some ⟨g,o,none⟩) n c
 | 5=>fun x _=>x=Value.int .i64 (n:Int)
 | 6=>fun x _=>x=Value.slice (some ⟨g,o,none⟩) n c
 | 7=>fun x _=>x=Value.int .i64 (n:Int)
 | 8=>fun x _=>x=Value.slice (some ⟨g,o,none⟩) n n
 | 9=>fun x _=>x=Value.slice (some ⟨g,o,none⟩) n c
 | 10=>fun x _=>x=Value.slice (some ⟨g,o,none⟩) n c
 | 11=>fun x _=>x=Value.int .i64 (n:Int)
 | 12=>fun x _=>x=Value.int .i64 1
 | 13=>fun x _=>x=Value.slice (some ⟨g,o,none⟩) 1 c
 | 14=>VSB (67) (base) (n) (n+1) (cvs (L ++ L.take 1))
 | 2=>VSB (67) (base) (n) (n+1) (cvs (L ++ L.take 1))
 | _=>fun _ _=>True
theorem Qhh {id:Nat} {ac:Act} {Q:Exit→Act→World→Prop} {g o n c base:Nat} {L:List CV}
 (hsz:14 < ac.tmps.size) (e0:ac.eval (.tmp 0)=Value.slice (some ⟨g,o,none⟩) n c) (hL:SV w (some ⟨g,o,none⟩) (cvs L)) (hn:L.length=n) (h0:0 < n) (hm:n≤100000) (hnc:n≤c) (hbs:base≤w.heap.size)
 (hend:∀ (V:Nat→Value) (w':World),(VSB (67) (base) (n) (n+1) (cvs (L ++ L.take 1))) (V 2) w'→Below w.heap.size w w'→Q .normal (Qam ac [3,4,5,6,7,8,9,10,11,12,13,14,2] V) w') :
 (Code.region id #[Qb3,Qb4,Qby,Qb1,Qbp,QaT,QbY,QbX,Qbt,Qbx,QaX,QaV,Qbd] true).wp Tryz.prog Q ac w:=by
 have hnd:L_closedc.Nodup:=by decide
 have G:∀ (sv:Nat→Value) (t:Nat),t ∈ L_closedc→t≤14→(Qam ac L_closedc sv).eval (.tmp t)=sv t:=fun sv t ht h=>Qaz (t:=t) L_closedc ac hnd ht (Nat.lt_of_le_of_lt h hsz)
 have E0:∀ sv:Nat→Value,(Qam ac L_closedc sv).eval (.tmp 0)=Value.slice (some ⟨g,o,none⟩) n c:=fun sv=>(Qap (v:=sv) L_closedc ac (show 0 ∉ _ by decide)).trans e0
 have NE:∀ t:Nat,(True)→∀ p ∈ ([]:List QbU),t ≠ p.tA:=by
  intro t ht p hp
  cases hp
 refine QaB L_closedc ([]:List QbU) (Qj2 g o n c base L) (by kernel_rfl) (by kernel_rfl) rfl hnd ?_ ?_ ?_ ?_ ?_ ?_ ?_ ?_
 · intro p hp
   cases hp
 · intro p hp;cases hp
 · intro p hp;cases hp
 · intro i o h1 h2
   match i,h1 with
   | 0,h1=>cases h1;cases h2
   | 1,h1=>cases h1;cases h2
   | 2,h1=>cases h1;cases h2
   | 3,h1=>cases h1;cases h2
   | 4,h1=>cases h1;cases h2
   | 5,h1=>cases h1;cases h2
   | 6,h1=>cases h1;cases h2
   | 7,h1=>cases h1;cases h2
   | 8,h1=>cases h1;cases h2
   | 9,h1=>cases h1;cases h2
   | 10,h1=>cases h1;cases h2
   | 11,h1=>cases h1;cases h2
   | 12,h1=>cases h1;cases h2
   | i+13,h1=>cases h1
 · intro t
   unfold Qj2
   split <;> first | exact (QbF _).inn _ | exact (QbS _ _).inn _ | exact (Qct _ _).inn _ | exact (Qco _ _).inn _ | exact (QbO _ _).inn _ | exact (QbQ _ _ _).inn _ | exact (Qa4).inn _ | exact Qf2 _ _ _ _ _ _ (fun p hp=>by cases hp)
 · intro i o t sv w' ho hia hd J0 hf
   have hL:=hL.below J0
   match i,ho with
   | 0,ho =>
     obtain rfl:Qb3=o:=Option.some.inj ho
     cases hd
     refine Qaa (o:=Qb3) rfl rfl ?_
     unfold Oper.wp Qb3
     rw [Qaw (E0 sv),Oper.upon_value]
     exact ⟨_,rfl,Below.refl _ _,rfl⟩
   | 1,ho =>
     obtain rfl:Qb4=o:=Option.some.inj ho
     cases hd
     refine Qaa (o:=Qb4) rfl rfl ?_
     unfold Oper.wp Qb4
     rw [Qaw (E0 sv),Oper.upon_value]
     exact ⟨_,rfl,Below.refl _ _,rfl⟩
   | 2,ho =>
     obtain rfl:Qby=o:=Option.some.inj ho
     cases hd
     have f4:sv 4=Value.slice (some ⟨g,o,none⟩) n c:=hf ⟨1,.data⟩ (by simp [Qby]) rfl _ 4 rfl rfl (NE _ (by decide))
     refine Qaa (o:=Qby) rfl rfl ?_
     unfold Oper.wp Qby
     rw [Qc7 ((G sv 4 (by decide) (by decide)).trans f4) ,Oper.upon_value]
     exact ⟨_,rfl,Below.refl _ _,rfl⟩
   | 3,ho =>
     obtain rfl:Qb1=o:=Option.some.inj ho
     cases hd
     refine Qaa (o:=Qb1) rfl rfl ?_
     unfold Oper.wp Qb1
     rw [Qaw (E0 sv),Oper.upon_value]
     exact ⟨_,rfl,Below.refl _ _,rfl⟩
   | 4,ho =>
     obtain rfl:Qbp=o:=Option.some.inj ho
     cases hd
     have f6:sv 6=Value.slice (some ⟨g,o,none⟩) n c:=hf ⟨3,.data⟩ (by simp [Qbp]) rfl _ 6 rfl rfl (NE _ (by decide))
     refine Qaa (o:=Qbp) rfl rfl ?_
     unfold Oper.wp Qbp
     rw [Qc7 ((G sv 6 (by decide) (by decide)).trans f6) ,Oper.upon_value]
     exact ⟨_,rfl,Below.refl _ _,rfl⟩
   | 5,ho =>
     obtain rfl:QaT=o:=Option.some.inj ho
     cases hd
     have f3:sv 3=Value.slice (some ⟨g,o,none⟩) n c:=hf ⟨0,.data⟩ (by simp [QaT]) rfl _ 3 rfl rfl (NE _ (by decide))
     have f5:sv 5=Value.int .i64 (n:Int):=hf ⟨2,.data⟩ (by simp [QaT]) rfl _ 5 rfl rfl (NE _ (by decide))
     have f7:sv 7=Value.int .i64 (n:Int):=hf ⟨4,.data⟩ (by simp [QaT]) rfl _ 7 rfl rfl (NE _ (by decide))
     refine Qaa (o:=QaT) rfl rfl ?_
     unfold Oper.wp QaT
     rw [QhA ((G sv 3 (by decide) (by decide)).trans f3) ((G sv 5 (by decide) (by decide)).trans f5) ((G sv 7 (by decide) (by decide)).trans f7) hnc,Oper.upon_value]
     exact ⟨_,rfl,Below.refl _ _,rfl⟩
   | 6,ho =>
     obtain rfl:QbY=o:=Option.some.inj ho
     cases hd
     refine Qaa (o:=QbY) rfl rfl ?_
     unfold Oper.wp QbY
     rw [Qaw (E0 sv),Oper.upon_value]
     exact ⟨_,rfl,Below.refl _ _,rfl⟩
   | 7,ho =>
     obtain rfl:QbX=o:=Option.some.inj ho
     cases hd
     refine Qaa (o:=QbX) rfl rfl ?_
     unfold Oper.wp QbX
     rw [Qaw (E0 sv),Oper.upon_value]
     exact ⟨_,rfl,Below.refl _ _,rfl⟩
   | 8,ho =>
     obtain rfl:Qbt=o:=Option.some.inj ho
     cases hd
     have f10:sv 10=Value.slice (some ⟨g,o,none⟩) n c:=hf ⟨7,.data⟩ (by simp [Qbt]) rfl _ 10 rfl rfl (NE _ (by decide))
     refine Qaa (o:=Qbt) rfl rfl ?_
     unfold Oper.wp Qbt
     rw [Qc7 ((G sv 10 (by decide) (by decide)).trans f10) ,Oper.upon_value]
     exact ⟨_,rfl,Below.refl _ _,rfl⟩
   | 9,ho =>
     obtain rfl:Qbx=o:=Option.some.inj ho
     cases hd
     have f11:sv 11=Value.int .i64 (n:Int):=hf ⟨8,.data⟩ (by simp [Qbx]) rfl _ 11 rfl rfl (NE _ (by decide))
     refine Qaa (o:=Qbx) rfl rfl ?_
     unfold Oper.wp Qbx
     rw [Qlk h0 ((G sv 11 (by decide) (by decide)).trans f11) (show (Qam ac L_closedc sv).eval (.const (Value.int IntKind.i64 1))=(Value.int IntKind.i64 1) from rfl) ,Oper.upon_value]
     exact ⟨_,rfl,Below.refl _ _,rfl⟩
   | 10,ho =>
     obtain rfl:QaX=o:=Option.some.inj ho
     cases hd
     have f9:sv 9=Value.slice (some ⟨g,o,none⟩) n c:=hf ⟨6,.data⟩ (by simp [QaX]) rfl _ 9 rfl rfl (NE _ (by decide))
     have f12:sv 12=Value.int .i64 1:=hf ⟨9,.data⟩ (by simp [QaX]) rfl _ 12 rfl rfl (NE _ (by decide))
     refine Qaa (o:=QaX) rfl rfl ?_
     unfold Oper.wp QaX
     rw [QhC (m:=1) rfl (by omega) ((G sv 9 (by decide) (by decide)).trans f9) ((G sv 12 (by decide) (by decide)).trans f12) ,Oper.upon_value]
     exact ⟨_,rfl,Below.refl _ _,rfl⟩
   | 11,ho =>
     obtain rfl:QaV=o:=Option.some.inj ho
     cases hd
     have f8:sv 8=Value.slice (some ⟨g,o,none⟩) n n:=hf ⟨5,.data⟩ (by simp [QaV]) rfl _ 8 rfl rfl (NE _ (by decide))
     have f13:sv 13=Value.slice (some ⟨g,o,none⟩) 1 c:=hf ⟨10,.data⟩ (by simp [QaV]) rfl _ 13 rfl rfl (NE _ (by decide))
     refine Qaa (o:=QaV) rfl rfl ?_
     unfold Oper.wp QaV
     obtain ⟨c2,w2,hr,hb2,hB⟩:=Ql0 (w:=w') ((G sv 8 (by decide) (by decide)).trans f8) ((G sv 13 (by decide) (by decide)).trans f13) hL hn h0 hm
     rw [hr,Oper.upon_value]
     exact ⟨_,rfl,hb2,_,_,rfl,fun _=>⟨_,rfl,Nat.le_trans hbs J0.size,hB⟩⟩
   | 12,ho =>
     obtain rfl:Qbd=o:=Option.some.inj ho
     cases hd
     have f:=hf ⟨11,.data⟩ (by simp [Qbd]) rfl _ 14 rfl rfl (NE _ (by decide))
     refine Qaa (o:=Qbd) rfl rfl ?_
     unfold Oper.wp Qbd
     rw [Qbq (G sv 14 (by decide) (by decide)),Oper.upon_value]
     exact ⟨_,rfl,Below.refl _ _,f⟩
   | i+13,ho=>cases ho
 · intro p hp os sv w' g hos J0 p1 p3 hf
   cases hp
 · intro sv w' J0 hF hB hap
   exact hend sv w'   (hF 12 _ 2 rfl rfl (NE _ (by decide))) J0
def Qnr (A:Option Addr) (c:Nat) (sl:Nat):Value→World→Prop :=
 match sl with
 | 3=>fun x _=>x=Value.slice A 0 c
 | 4=>fun x _=>x=Value.slice A 0 c
 | 5=>fun x _=>x=Value.int .i64 0
 | 6=>fun x _=>x=Value.slice A 0 c
 | 7=>fun x _=>x=Value.int .i64 0
 | 8=>fun x _=>x=Value.slice A 0 0
 | 9=>fun x _=>x=Value.slice A 0 c
 | 10=>fun x _=>x=Value.slice A 0 c
 | 11=>fun x _=>x=Value.int .i64 0
 | 12=>fun x _=>x=Value.int .i64 0
 | 13=>fun x _=>x=Value.slice A 0 c
 | 14=>fun x _=>x=Value.slice A 0 0
 | 2=>fun x _=>x=Value.slice A 0 0
 | _=>fun _ _=>True
theorem Qjb {id:Nat} {ac:Act} {Q:Exit→Act→World→Prop} {A:Option Addr} {c:Nat}
 (hsz:14 < ac.tmps.size) (e0:ac.eval (.tmp 0)=Value.slice A 0 c) 
 (hend:∀ (V:Nat→Value) (w':World),V 2=Value.slice A 0 0→Below w.heap.size w w'→Q .normal (Qam ac [3,4,5,6,7,8,9,10,11,12,13,14,2] V) w') :
 (Code.region id #[Qb3,Qb4,Qby,Qb1,Qbp,QaT,QbY,QbX,Qbt,Qbx,QaX,QaV,Qbd] true).wp Tryz.prog Q ac w:=by
 have hnd:L_closedc.Nodup:=by decide
 have G:∀ (sv:Nat→Value) (t:Nat),t ∈ L_closedc→t≤14→(Qam ac L_closedc sv).eval (.tmp t)=sv t:=fun sv t ht h=>Qaz (t:=t) L_closedc ac hnd ht (Nat.lt_of_le_of_lt h hsz)
 have E0:∀ sv:Nat→Value,(Qam ac L_closedc sv).eval (.tmp 0)=Value.slice A 0 c:=fun sv=>(Qap (v:=sv) L_closedc ac (show 0 ∉ _ by decide)).trans e0
 have NE:∀ t:Nat,(True)→∀ p ∈ ([]:List QbU),t ≠ p.tA:=by
  intro t ht p hp
  cases hp
 refine QaB L_closedc ([]:List QbU) (Qnr A c) (by kernel_rfl) (by kernel_rfl) rfl hnd ?_ ?_ ?_ ?_ ?_ ?_ ?_ ?_
 · intro p hp
   cases hp
 · intro p hp;cases hp
 · intro p hp;cases hp
 · intro i o h1 h2
   match i,h1 with
   | 0,h1=>cases h1;cases h2
   | 1,h1=>cases h1;cases h2
   | 2,h1=>cases h1;cases h2
   | 3,h1=>cases h1;cases h2
   | 4,h1=>cases h1;cases h2
   | 5,h1=>cases h1;cases h2
   | 6,h1=>cases h1;cases h2
   | 7,h1=>cases h1;cases h2
   | 8,h1=>cases h1;cases h2
   | 9,h1=>cases h1;cases h2
   | 10,h1=>cases h1;cases h2
   | 11,h1=>cases h1;cases h2
   | 12,h1=>cases h1;cases h2
   | i+13,h1=>cases h1
 · intro t
   unfold Qnr
   split <;> first | exact (QbF _).inn _ | exact (QbS _ _).inn _ | exact (Qct _ _).inn _ | exact (Qco _ _).inn _ | exact (QbO _ _).inn _ | exact (QbQ _ _ _).inn _ | exact (Qa4).inn _
 · intro i o t sv w' ho hia hd J0 hf
   match i,ho with
   | 0,ho =>
     obtain rfl:Qb3=o:=Option.some.inj ho
     cases hd
     refine Qaa (o:=Qb3) rfl rfl ?_
     unfold Oper.wp Qb3
     rw [Qaw (E0 sv),Oper.upon_value]
     exact ⟨_,rfl,Below.refl _ _,rfl⟩
   | 1,ho =>
     obtain rfl:Qb4=o:=Option.some.inj ho
     cases hd
     refine Qaa (o:=Qb4) rfl rfl ?_
     unfold Oper.wp Qb4
     rw [Qaw (E0 sv),Oper.upon_value]
     exact ⟨_,rfl,Below.refl _ _,rfl⟩
   | 2,ho =>
     obtain rfl:Qby=o:=Option.some.inj ho
     cases hd
     have f4:sv 4=Value.slice A 0 c:=hf ⟨1,.data⟩ (by simp [Qby]) rfl _ 4 rfl rfl (NE _ (by decide))
     refine Qaa (o:=Qby) rfl rfl ?_
     unfold Oper.wp Qby
     rw [Qc7 (n:=0) ((G sv 4 (by decide) (by decide)).trans f4) ,Oper.upon_value]
     exact ⟨_,rfl,Below.refl _ _,rfl⟩
   | 3,ho =>
     obtain rfl:Qb1=o:=Option.some.inj ho
     cases hd
     refine Qaa (o:=Qb1) rfl rfl ?_
     unfold Oper.wp Qb1
     rw [Qaw (E0 sv),Oper.upon_value]
     exact ⟨_,rfl,Below.refl _ _,rfl⟩
   | 4,ho =>
     obtain rfl:Qbp=o:=Option.some.inj ho
     cases hd
     have f6:sv 6=Value.slice A 0 c:=hf ⟨3,.data⟩ (by simp [Qbp]) rfl _ 6 rfl rfl (NE _ (by decide))
     refine Qaa (o:=Qbp) rfl rfl ?_
     unfold Oper.wp Qbp
     rw [Qc7 (n:=0) ((G sv 6 (by decide) (by decide)).trans f6) ,Oper.upon_value]
     exact ⟨_,rfl,Below.refl _ _,rfl⟩
   | 5,ho =>
     obtain rfl:QaT=o:=Option.some.inj ho
     cases hd
     have f3:sv 3=Value.slice A 0 c:=hf ⟨0,.data⟩ (by simp [QaT]) rfl _ 3 rfl rfl (NE _ (by decide))
     have f5:sv 5=Value.int .i64 0:=hf ⟨2,.data⟩ (by simp [QaT]) rfl _ 5 rfl rfl (NE _ (by decide))
     have f7:sv 7=Value.int .i64 0:=hf ⟨4,.data⟩ (by simp [QaT]) rfl _ 7 rfl rfl (NE _ (by decide))
     refine Qaa (o:=QaT) rfl rfl ?_
     unfold Oper.wp QaT
     rw [QhA (n:=0) ((G sv 3 (by decide) (by decide)).trans f3) ((G sv 5 (by decide) (by decide)).trans f5) ((G sv 7 (by decide) (by decide)).trans f7) (Nat.zero_le _),Oper.upon_value]
     exact ⟨_,rfl,Below.refl _ _,rfl⟩
   | 6,ho =>
     obtain rfl:QbY=o:=Option.some.inj ho
     cases hd
     refine Qaa (o:=QbY) rfl rfl ?_
     unfold Oper.wp QbY
     rw [Qaw (E0 sv),Oper.upon_value]
     exact ⟨_,rfl,Below.refl _ _,rfl⟩
   | 7,ho =>
     obtain rfl:QbX=o:=Option.some.inj ho
     cases hd
     refine Qaa (o:=QbX) rfl rfl ?_
     unfold Oper.wp QbX
     rw [Qaw (E0 sv),Oper.upon_value]
     exact ⟨_,rfl,Below.refl _ _,rfl⟩
   | 8,ho =>
     obtain rfl:Qbt=o:=Option.some.inj ho
     cases hd
     have f10:sv 10=Value.slice A 0 c:=hf ⟨7,.data⟩ (by simp [Qbt]) rfl _ 10 rfl rfl (NE _ (by decide))
     refine Qaa (o:=Qbt) rfl rfl ?_
     unfold Oper.wp Qbt
     rw [Qc7 (n:=0) ((G sv 10 (by decide) (by decide)).trans f10) ,Oper.upon_value]
     exact ⟨_,rfl,Below.refl _ _,rfl⟩
   | 9,ho =>
     obtain rfl:Qbx=o:=Option.some.inj ho
     cases hd
     have f11:sv 11=Value.int .i64 0:=hf ⟨8,.data⟩ (by simp [Qbx]) rfl _ 11 rfl rfl (NE _ (by decide))
     refine Qaa (o:=Qbx) rfl rfl ?_
     unfold Oper.wp Qbx
     rw [Qlq ((G sv 11 (by decide) (by decide)).trans f11) (show (Qam ac L_closedc sv).eval (.const (Value.int IntKind.i64 1))=(Value.int IntKind.i64 1) from rfl) ,Oper.upon_value]
     exact ⟨_,rfl,Below.refl _ _,rfl⟩
   | 10,ho =>
     obtain rfl:QaX=o:=Option.some.inj ho
     cases hd
     have f9:sv 9=Value.slice A 0 c:=hf ⟨6,.data⟩ (by simp [QaX]) rfl _ 9 rfl rfl (NE _ (by decide))
     have f12:sv 12=Value.int .i64 0:=hf ⟨9,.data⟩ (by simp [QaX]) rfl _ 12 rfl rfl (NE _ (by decide))
     refine Qaa (o:=QaX) rfl rfl ?_
     unfold Oper.wp QaX
     rw [QhC (m:=0) rfl (Nat.zero_le _) ((G sv 9 (by decide) (by decide)).trans f9) ((G sv 12 (by decide) (by decide)).trans f12) ,Oper.upon_value]
     exact ⟨_,rfl,Below.refl _ _,rfl⟩
   | 11,ho =>
     obtain rfl:QaV=o:=Option.some.inj ho
     cases hd
     have f8:sv 8=Value.slice A 0 0:=hf ⟨5,.data⟩ (by simp [QaV]) rfl _ 8 rfl rfl (NE _ (by decide))
     have f13:sv 13=Value.slice A 0 c:=hf ⟨10,.data⟩ (by simp [QaV]) rfl _ 13 rfl rfl (NE _ (by decide))
     refine Qaa (o:=QaV) rfl rfl ?_
     unfold Oper.wp QaV
     rw [QmB ((G sv 8 (by decide) (by decide)).trans f8) ((G sv 13 (by decide) (by decide)).trans f13) ,Oper.upon_value]
     exact ⟨_,rfl,Below.refl _ _,rfl⟩
   | 12,ho =>
     obtain rfl:Qbd=o:=Option.some.inj ho
     cases hd
     have f:=hf ⟨11,.data⟩ (by simp [Qbd]) rfl _ 14 rfl rfl (NE _ (by decide))
     refine Qaa (o:=Qbd) rfl rfl ?_
     unfold Oper.wp Qbd
     rw [Qbq (G sv 14 (by decide) (by decide)),Oper.upon_value]
     exact ⟨_,rfl,Below.refl _ _,f⟩
   | i+13,ho=>cases ho
 · intro p hp os sv w' g hos J0 p1 p3 hf
   cases hp
 · intro sv w' J0 hF hB hap
   exact hend sv w'  (hF 12 _ 2 rfl rfl (NE _ (by decide)))  J0
theorem Qqh {A:Option Addr} {n c base:Nat} {L:List CV} (hL:SV w A (cvs L)) (hn:L.length=n) (hm:n≤100000) (hnc:n≤c) (hbs:base≤w.heap.size) :
 Calls Tryz.prog 27 #[.slice A n c] w fun e w'=>∃ A' c',e=.returned (.slice A' (n+min 1 n) c')∧SNr 67 base n (cvs (L ++ L.take 1)) w' A'∧Below w.heap.size w w':=by
 rcases Nat.eq_zero_or_pos n with h0 | h0
 · subst h0
   go_enter Tryz.func27,Tryz.ntmps27
   go_upto_region 1 with (fail)
   refine Qjb (by simp) rfl ?_
   intro V w' hv hh
   simp only [Qam,Act.put,List.setIfInBounds_toArray,List.set_cons_zero,List.set_cons_succ,hv]
   go_wp2_with fail
   (try rw [Exit.noGoto_ret])
   go_ret
   exact ⟨_,_,rfl,fun h=>absurd h (by omega),hh⟩
 · obtain ⟨g,o,rfl,_,_⟩:=hL (by rw [show (cvs L).length=L.length*9 from Qas Qdu L,hn];omega)
   go_enter Tryz.func27,Tryz.ntmps27
   go_upto_region 1 with (fail)
   refine Qhh (by simp) rfl hL hn h0 hm hnc hbs ?_
   intro V w' hF hh
   obtain ⟨A',c',hv,hS⟩:=hF
   simp only [Qam,Act.put,List.setIfInBounds_toArray,List.set_cons_zero,List.set_cons_succ,hv]
   go_wp2_with fail
   (try rw [Exit.noGoto_ret])
   go_ret
   exact ⟨A',c',by rw [show n+min 1 n=n+1 by omega];rfl,hS,hh⟩
end
section
open Go Go.RowKit
def EachQ (w:World) (L:List QV) (l:List Rat) (k:Nat):Prop:=L.length=l.length∧∀ (i:Nat) (p:QV) (v:Rat),L[i]?=some p→l[i]?=some v→QG w p.s p.A p.n p.c p.B p.m p.d v k
section
variable {w w':World} {L:List QV} {l:List Rat} {k:Nat}
theorem EachQ.below (h:EachQ w L l k) (hb:Below w.heap.size w w'):EachQ w' L l k:=⟨h.1,fun i p v h1 h2=>(h.2 i p v h1 h2).below hb⟩
theorem EachQ.box {T:TypeId} {g:Nat} {cs:Array Value} (h:EachQ w L l k) (B:BoxAt T w g cs) (ho:Only g w w'):EachQ w' L l k:=⟨h.1,fun i p v h1 h2=>(h.2 i p v h1 h2).box B ho⟩
theorem EachQ.take (h:EachQ w L l k) (m:Nat):EachQ w (L.take m) (l.take m) k:=by
 refine ⟨by rw [List.length_take,List.length_take,h.1],fun i p v h1 h2=>?_⟩
 rw [List.getElem?_take] at h1 h2
 split at h1
 · rename_i q;rw [if_pos q] at h2;exact h.2 i p v h1 h2
 · cases h1
theorem EachQ.drop (h:EachQ w L l k) (m:Nat):EachQ w (L.drop m) (l.drop m) k:=by
 refine ⟨by rw [List.length_drop,List.length_drop,h.1],fun i p v h1 h2=>?_⟩
 rw [List.getElem?_drop] at h1 h2
 exact h.2 _ p v h1 h2
theorem EachQ.push {p:QV} {v:Rat} (h:EachQ w L l k) (hp:QG w p.s p.A p.n p.c p.B p.m p.d v k):EachQ w (L ++ [p]) (l ++ [v]) k:=by
 refine ⟨by rw [List.length_append,List.length_append,h.1];rfl,fun i q u h1 h2=>?_⟩
 rcases Nat.lt_or_ge i L.length with hi | hi
 · rw [List.getElem?_append_left hi] at h1
   rw [List.getElem?_append_left (by rw [← h.1];exact hi)] at h2
   exact h.2 i q u h1 h2
 · rw [List.getElem?_append_right hi] at h1
   rw [List.getElem?_append_right (by rw [← h.1];exact hi),← h.1] at h2
   obtain ⟨j,hj⟩:∃ j,i - L.length=j:=⟨_,rfl⟩
   rw [hj] at h1 h2
   match j,h1,h2 with
   | 0,h1,h2=>cases h1;cases h2;exact hp
   | j+1,h1,h2=>simp at h1
end
def QiL (l:List Rat):Rat:=l.foldr (·+·) 0
theorem QkJ (l m:List Rat):QiL (l ++ m)=QiL l+QiL m:=by
 induction l with
 | nil=>rw [List.nil_append,show QiL []=0 from rfl,Rat.zero_add]
 | cons v l ih=>rw [List.cons_append,show QiL (v :: (l ++ m))=v+QiL (l ++ m) from rfl,show QiL (v :: l)=v+QiL l from rfl,ih,Rat.add_assoc]
theorem SV.take {A:Option Addr} {L:List QV} (h:SV w A (qvs L)) (m:Nat):SV w A (qvs (L.take m)):=fun hn=>by
 have e:qvs L=qvs (L.take m) ++ qvs (L.drop m):=by rw [← QhM,List.take_append_drop]
 obtain ⟨g,o,e1,h1,h2⟩:=h (by rw [e,List.length_append];omega)
 refine ⟨g,o,e1,h1,fun j u hu=>h2 j u ?_⟩
 rw [e,List.getElem?_append_left (List.getElem?_eq_some_iff.1 hu).1];exact hu
theorem SV.drop {g o:Nat} {L:List QV} (h:SV w (some ⟨g,o,none⟩) (qvs L)) (m:Nat) (hm:m≤L.length):SV w (some ⟨g,o+m*3,none⟩) (qvs (L.drop m)):=fun hn=>by
 have e:qvs L=qvs (L.take m) ++ qvs (L.drop m):=by rw [← QhM,List.take_append_drop]
 have hl:(qvs (L.take m)).length=m*3:=by rw [show (qvs (L.take m)).length=(L.take m).length*3 from Qas QdV _,List.length_take,Nat.min_eq_left hm]
 obtain ⟨g2,o2,e1,h1,h2⟩:=h (by rw [e,List.length_append];omega)
 cases e1
 refine ⟨_,_,rfl,h1,fun j u hu=>?_⟩
 rw [Nat.add_assoc]
 refine h2 (m*3+j) u ?_
 rw [e,List.getElem?_append_right (by omega),hl,Nat.add_sub_cancel_left];exact hu
theorem total_0 {A:Option Addr} {c:Nat}:Calls Tryz.prog 39 #[.slice A 0 c] w (QbM w 0 1):=by
 go_enter Tryz.func39,Tryz.ntmps39
 go_wp2_with fail
 generalize hW:World.alloc _ _=W
 obtain ⟨hb,Z,hzW⟩:=Qbb hW;clear hW;have zf0:=Z.f0;have zf1:=Z.f1;have zf2:=Z.f2;obtain ⟨z0,z1,z2⟩:=Z.all
 go_wp2_with (first
  | (go_at_call 40;(with_reducible refine (rof_q 0 1 (by decide) (by decide) (by decide) (by decide) (by decide) _).mono ?_);rintro e w_r ⟨s_r,A_r,n_r,c_r,B_r,m_r,d_r,rfl,r,hh⟩
     replace Z:=Z.below hh;replace hb:=Qaj hb hh;have zf0:=Z.f0;have zf1:=Z.f1;have zf2:=Z.f2;obtain ⟨z0,z1,z2⟩:=Z.all))
 rw [show Rat.divInt 0 1=0 from by decide +kernel] at r
 have Z2:=Z.set3 (.bool s_r) (.slice A_r n_r c_r) (.slice B_r m_r d_r)
 obtain ⟨g0,g1,g2⟩:=Z2.all
 refine bodyPost_ret (v:=.agg #[.bool s_r,.slice A_r n_r c_r,.slice B_r m_r d_r]) (by simp [results,Tryz.results39,go_sem,g0,g1,g2]) rfl ?_
 exact ⟨s_r,A_r,n_r,c_r,B_r,m_r,d_r,rfl,r.set3 Z _ _ _,Qao hb (Nat.le_refl _) _ _ _⟩
theorem Qr2 {A:Option Addr} {c k:Nat} {p:QV} {v:Rat} (h:SV w A (qvs [p])) (r:QG w p.s p.A p.n p.c p.B p.m p.d v k):Calls Tryz.prog 39 #[.slice A 1 c] w (QbM w v k):=by
 obtain ⟨g,o,hix0,E,_⟩:=h.qt (i:=0) (p:=p) rfl
 obtain ⟨s_r,A_r,n_r,c_r,B_r,m_r,d_r⟩:=p
 have hix:=hix0 1 c
 simp only [Nat.lt_one_iff,forall_const] at hix
 replace hix:∀ w',(Instr.indexAt 78 (.slice A 1 c) (.int .i64 0)).run Tryz.prog w'=.ok (.pointer (some ⟨g,o,none⟩)) w':=fun w'=>hix0 1 c w' (by omega)
 clear hix0 h
 go_enter Tryz.func39,Tryz.ntmps39
 go_upto_region 1 with (fail)
 generalize hW:World.alloc _ _=W
 obtain ⟨hb,Z,hzW⟩:=Qbb hW;clear hW;replace r:=r.below hb;replace E:=E.below hb;have zf0:=Z.f0;have zf1:=Z.f1;have zf2:=Z.f2;obtain ⟨z0,z1,z2⟩:=Z.all;obtain ⟨e0,e1,e2⟩:=E.all
 simp only at e0 e1 e2
 go_wp2_with fail
 have Z2:=Z.set3 (.bool s_r) (.slice A_r n_r c_r) (.slice B_r m_r d_r)
 obtain ⟨g0,g1,g2⟩:=Z2.all
 refine bodyPost_ret (v:=.agg #[.bool s_r,.slice A_r n_r c_r,.slice B_r m_r d_r]) (by simp [results,Tryz.results39,go_sem,g0,g1,g2]) rfl ?_
 exact ⟨s_r,A_r,n_r,c_r,B_r,m_r,d_r,rfl,r.set3 Z _ _ _,Qao hb (Nat.le_refl _) _ _ _⟩
theorem QsW (n:Nat):∀ {w:World} {A:Option Addr} {c k:Nat} {L:List QV} {l:List Rat},SV w A (qvs L)→EachQ w L l k→L.length=n→1≤n→n≤c→n≤100000→1≤k→n*(k+2)≤40000→Calls Tryz.prog 39 #[.slice A n c] w (QbM w (QiL l) (n*(k+2) - 1)):=by
 induction n using Nat.strongRecOn with
 | ind n ih =>
   intro w A c k L l hS hE hn h1 hc h63 hk hB
   rcases Nat.lt_or_ge 1 n with h2 | h2
   · obtain ⟨h,hh⟩:∃ h,n / 2=h:=⟨_,rfl⟩
     have b1:1≤h:=by omega
     have b2:h < n:=by omega
     have hm1:(h+(n - h))*(k+2)=h*(k+2)+(n - h)*(k+2):=Nat.add_mul _ _ _
     rw [show h+(n - h)=n by omega] at hm1
     have hp1:=Nat.mul_le_mul b1 (Nat.le_refl (k+2))
     have hp2:=Nat.mul_le_mul (show 1≤n - h by omega) (Nat.le_refl (k+2))
     obtain ⟨g,o,rfl,_,_⟩:=hS (by rw [show (qvs L).length=L.length*3 from Qas QdV L];omega)
     have i1:=fun (w':World) (hb:Below w.heap.size w w')=>ih h (by omega) ((hS.below hb).take h) ((hE.below hb).take h) (by rw [List.length_take];omega) b1 (show h≤c by omega) (by omega) hk (by omega)
     have i2:=fun (w':World) (hb:Below w.heap.size w w')=>ih (n - h) (by omega) ((hS.below hb).drop h (by omega)) ((hE.below hb).drop h) (by rw [List.length_drop];omega) (by omega) (show n - h≤c - h by omega) (by omega) hk (by omega)
     obtain ⟨k1,e1⟩:∃ k1,h*(k+2) - 1=k1:=⟨_,rfl⟩
     obtain ⟨k2,e2⟩:∃ k2,(n - h)*(k+2) - 1=k2:=⟨_,rfl⟩
     rw [show n*(k+2) - 1=k1+k2+1 by omega,show QiL l=QiL (l.take h)+QiL (l.drop h) by rw [← QkJ,List.take_append_drop]]
     rw [e1] at i1;rw [e2] at i2;have I1:=Lib.hid i1;have I2:=Lib.hid i2
     have l1:k1≤40000:=by omega
     have l2:k2≤40000:=by omega
     have l3:1≤k1:=by omega
     have l4:1≤k2:=by omega
     have h0:¬ n=0:=by omega
     have h3:¬ n=1:=by omega
     have h4:(h:Int)≤(c:Int):=by omega
     have h5:¬ c=h:=by omega
     have h7:(h:Int)≤(n:Int):=by omega
     have h8:(n:Int)≤(c:Int):=by omega
     have h6:((n:Int)).tdiv 2=(h:Int):=by rw [Int.tdiv_eq_ediv_of_nonneg (by omega)];omega
     clear hm1 hp1 hp2 i1 i2 e1 e2 hS hE ih hB
     go_enter Tryz.func39,Tryz.ntmps39
     go_wp2_with fail
     generalize hW:World.alloc _ _=W
     obtain ⟨hb,Z,hzW⟩:=Qbb hW;clear hW;have zf0:=Z.f0;have zf1:=Z.f1;have zf2:=Z.f2;obtain ⟨z0,z1,z2⟩:=Z.all
     go_upto_region 7 with (fail)
     replace Z:=Z.below (Below.refl _ _).drew
     replace hb:=hb.drew;have zf0:=Z.f0;have zf1:=Z.f1;have zf2:=Z.f2;obtain ⟨z0,z1,z2⟩:=Z.all
     go_region_held3 (fun _=>True)
      (first | exact trivial)
      (first
      | (go_at_call 39;(with_reducible refine (I1.out _ hb).mono ?_);rintro e w_x ⟨s_x,A_x,n_x,c_x,B_x,m_x,d_x,rfl,x,hh⟩
         (try replace Z:=Z.below hh);(try replace y:=y.below hh);replace hb:=Qaj hb hh;have zf0:=Z.f0;have zf1:=Z.f1;have zf2:=Z.f2;obtain ⟨z0,z1,z2⟩:=Z.all)
      | (go_at_call 39;(with_reducible refine (I2.out _ hb).mono ?_);rintro e w_y ⟨s_y,A_y,n_y,c_y,B_y,m_y,d_y,rfl,y,hh⟩
         (try replace Z:=Z.below hh);(try replace x:=x.below hh);replace hb:=Qaj hb hh;have zf0:=Z.f0;have zf1:=Z.f1;have zf2:=Z.f2;obtain ⟨z0,z1,z2⟩:=Z.all)
      | (go_at_call 13;(with_reducible refine (QiU x.qr y.qr l1 l2 (.inl l1) l3 l4).mono ?_);rintro e w_r ⟨s_r,A_r,n_r,c_r,B_r,m_r,d_r,rfl,r,hh⟩
         (try replace Z:=Z.below hh);replace hb:=Qaj hb hh;have zf0:=Z.f0;have zf1:=Z.f1;have zf2:=Z.f2;obtain ⟨z0,z1,z2⟩:=Z.all))
     go_wp2_with fail
     have Z2:=Z.set3 (.bool s_r) (.slice A_r n_r c_r) (.slice B_r m_r d_r)
     obtain ⟨g0,g1,g2⟩:=Z2.all
     refine bodyPost_ret (v:=.agg #[.bool s_r,.slice A_r n_r c_r,.slice B_r m_r d_r]) (by simp [results,Tryz.results39,go_sem,g0,g1,g2]) rfl ?_
     exact ⟨s_r,A_r,n_r,c_r,B_r,m_r,d_r,rfl,r.set3 Z _ _ _,Qao hb (Nat.le_refl _) _ _ _⟩
   · obtain rfl:n=1:=by omega
     have hl:=hE.1
     match L,l,hn,hl with
     | [p],[v],_,_ =>
       have r:=hE.2 0 p v rfl rfl
       rw [show QiL [v]=v from Rat.add_zero v]
       refine (Qr2 hS r).mono ?_
       rintro e w' ⟨s_r,A_r,n_r,c_r,B_r,m_r,d_r,e1,r2,hh⟩
       exact ⟨s_r,A_r,n_r,c_r,B_r,m_r,d_r,e1,r2.more (by omega),hh⟩
end
end Go.Proofs.YthbhngeiiabagaaGreat
