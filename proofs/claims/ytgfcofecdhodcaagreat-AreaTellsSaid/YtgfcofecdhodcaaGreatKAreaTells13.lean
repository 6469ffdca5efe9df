/- AreaTells: part 13. -/
import Derived.Test.YtgfcofecdhodcaaGreatKAreaTells12
set_option linter.unusedVariables false
set_option maxRecDepth 100000
set_option maxHeartbeats 16000000
variable {w:Go.World}
namespace Go.Proofs.YtgfcofecdhodcaaGreat
section
open Go Go.RowKit
theorem QkA (z:Array Value) (hz:0 < z.size) (hf:∀ u ∈ z,∀ (k:IntKind) (x:Int),u ≠ .int k x) (n:Nat):∀ u ∈ Builtin.zeroCells z n,∀ (k:IntKind) (x:Int),u ≠ .int k x:=by
 intro u hu k x e
 subst e
 simp only [Builtin.zeroCells,Array.mem_map,Array.mem_range] at hu
 obtain ⟨i,_,hi⟩:=hu
 have hlt:=Nat.mod_lt i hz
 rw [getElem!_pos z (i % z.size) hlt] at hi
 exact hf _ (Array.getElem_mem hlt) k x hi
theorem Qhc {e1:Operand→Value} {d1:Option Tmp} {y1:Nat} {pos:String} {af:Array Edge} {x1 x2 x3:Operand} {A:Option Addr} {n c:Nat} (h:e1 x1=.slice A n c) (h2:e1 x2=.int .i64 (n:Int)) (h3:e1 x3=.int .i64 (n:Int)) (hn:n≤c) :
 (execOp e1 ⟨d1,.slice 22 x1 none (some x2) (some x3),y1,pos,af,none⟩).run Tryz.prog w=.ok (.value (.slice A n n)) w:=by
 cases A <;> go_simp
theorem Qg4 {e1:Operand→Value} {d1:Option Tmp} {y1:Nat} {pos:String} {af:Array Edge} {x1 x2:Operand} {A:Option Addr} {m n c:Nat} {M:Int} (hM:M=(m:Int)) (hm:m≤c) (h:e1 x1=.slice A n c) (h2:e1 x2=.int .i64 M) :
 (execOp e1 ⟨d1,.slice 22 x1 none (some x2) none,y1,pos,af,none⟩).run Tryz.prog w=.ok (.value (.slice A m c)) w:=by
 subst hM
 cases A <;> go_simp
theorem QlN {e1:Operand→Value} {d1:Option Tmp} {y1:Nat} {pos:String} {af:Array Edge} {x1 x2:Operand} {A B:Option Addr} {c:Nat} (h:e1 x1=.slice A 0 0) (h2:e1 x2=.slice B 0 c) :
 (execOp e1 ⟨d1,.call ⟨.builtin Builtin.append,#[x1,x2],#[22,22]⟩,y1,pos,af,none⟩).run Tryz.prog w=.ok (.value (.slice A 0 0)) w:=by
 obtain ⟨i0,hi,hz,hs,hby⟩:=info_parts (show (Tryz.prog.info? 29).map (fun i=>(i.zero,i.size,i.bytes))=some (some (.agg #[.bool false,.slice none 0 0,.slice none 0 0,.bool false,.slice none 0 0,.slice none 0 0]),6,112) by kernel_rfl)
 have hu:=Tryz.underlying22
 cases A <;> cases B <;> (simp [h,h2,Builtin.append_,run_underlying hu,sizeOf,typeInfo,hi,Builtin.lenOf,Builtin.firstCells,go_sem];try rfl)
theorem Qlh {e1:Operand→Value} {x1 x2:Operand} {g o n c:Nat} {L:List PV} (h:e1 x1=.slice (some ⟨g,o,none⟩) n n) (h2:e1 x2=.slice (some ⟨g,o,none⟩) 1 c) (hL:SV w (some ⟨g,o,none⟩) (pvs L)) (hn:L.length=n) (h0:0 < n) (hm:n≤100000) :
 ∃ c' w2,(∀ (d1:Option Tmp) (y1:Nat) (pos:String) (af:Array Edge),(execOp e1 ⟨d1,.call ⟨.builtin Builtin.append,#[x1,x2],#[22,22]⟩,y1,pos,af,none⟩).run Tryz.prog w=.ok (.value (.slice (some ⟨w.heap.size,0,none⟩) (n+1) c')) w2)∧Below w.heap.size w w2∧RowB 29 w2 w.heap.size (pvs (L ++ L.take 1)):=by
 obtain ⟨i0,hi,hz,hs,hby⟩:=info_parts (show (Tryz.prog.info? 29).map (fun i=>(i.zero,i.size,i.bytes))=some (some (.agg #[.bool false,.slice none 0 0,.slice none 0 0,.bool false,.slice none 0 0,.slice none 0 0]),6,112) by kernel_rfl)
 have hu:=Tryz.underlying22
 have hl:(pvs L).length=n*6:=by rw [show (pvs L).length=L.length*6 from Qaq QaS L,hn]
 have hl1:(pvs (L.take 1)).length=1*6:=by rw [show (pvs (L.take 1)).length=(L.take 1).length*6 from Qaq QaS _,List.length_take,hn,Nat.min_eq_left (by omega)]
 have hc:∀ j v,(pvs L)[j]?=some v→w.cell? ((⟨g,o,none⟩:Addr).add j)=some v:=fun j v hv=>by
  obtain ⟨g2,o2,e,_,hx⟩:=hL (by rw [hl];omega)
  cases e
  rw [QbN];exact hx j v hv
 have hc1:∀ j v,(pvs (L.take 1))[j]?=some v→w.cell? ((⟨g,o,none⟩:Addr).add j)=some v:=fun j v hv=>by
  refine hc j v ?_
  rw [← List.take_append_drop 1 L,QdB,List.getElem?_append_left (by have:=(List.getElem?_eq_some_iff.1 hv).1;exact this)]
  exact hv
 have hfit:Builtin.nextslicecap (n+1) n*i0.bytes≤281474976710656:=growslice_fits (by omega) (by rw [hby];omega)
 have hr:=fun y1=>run_append_grow (P:=Tryz.prog) w 22 y1 29 i0 _ hu hi hz ⟨g,o,none⟩ n n (pvs L) (by rw [hs];exact hl) hc ⟨g,o,none⟩ 1 c (pvs (L.take 1)) (by rw [hs];exact hl1) hc1 (by omega) (by omega) hfit
 generalize hX:((pvs L).toArray ++ (pvs (L.take 1)).toArray ++ Builtin.zeroCells (Value.agg #[.bool false,.slice none 0 0,.slice none 0 0,.bool false,.slice none 0 0,.slice none 0 0]).cells (grownCap w (n+1) n 29 - (n+1)))=X at hr
 have he:∀ (d1:Option Tmp) (y1:Nat) (pos:String) (af:Array Edge),(execOp e1 ⟨d1,.call ⟨.builtin Builtin.append,#[x1,x2],#[22,22]⟩,y1,pos,af,none⟩).run Tryz.prog w=.ok (.value (.slice (some ⟨w.heap.size,0,none⟩) (n+1) (grownCap w (n+1) n 29))) (w.drew.alloc (.cells X 29)):=by
  intro d1 y1 pos af
  unfold execOp
  simp only [resolve,invoke,builtin,Sem.run_bind,Sem.run_pure,Result.andThen_ok,List.map_toArray,List.map_cons,List.map_nil,h,h2,hr]
 refine ⟨_,_,he,(Below.refl _ _).drew.alloc (Nat.le_refl _) _,X,⟨heap_alloc_new w.drew _,?_⟩,?_,?_⟩
 · intro i k' x e
   have hm:∀ u ∈ X,∀ (k:IntKind) (x:Int),u ≠ .int k x:=fun u hu=>by
    rw [← hX] at hu
    rcases Array.mem_append.1 hu with q | q
    · rcases Array.mem_append.1 q with q | q
      · exact Qcg L u (by simpa using q)
      · exact Qcg (L.take 1) u (by simpa using q)
    · exact QkA _ (by decide) (fun u hu=>Qcg [zpv] u (Array.mem_toList_iff.2 hu)) _ u q
   exact hm _ (Array.mem_of_getElem? e) k' x rfl
 · rw [← hX,QdB,List.length_append,Array.size_append,Array.size_append,List.size_toArray,List.size_toArray];omega
 · intro j u hu
   rw [QdB] at hu
   rw [← hX,Array.getElem?_append_left (by have:=(List.getElem?_eq_some_iff.1 hu).1;simpa using this)]
   simpa using hu
theorem Qg8 {e1:Operand→Value} {d1:Option Tmp} {y1:Nat} {pos:String} {af:Array Edge} {x1 x2 x3:Operand} {A:Option Addr} {n c:Nat} (h:e1 x1=.slice A n c) (h2:e1 x2=.int .i64 (n:Int)) (h3:e1 x3=.int .i64 (n:Int)) (hn:n≤c) :
 (execOp e1 ⟨d1,.slice 87 x1 none (some x2) (some x3),y1,pos,af,none⟩).run Tryz.prog w=.ok (.value (.slice A n n)) w:=by
 cases A <;> go_simp
theorem Qg7 {e1:Operand→Value} {d1:Option Tmp} {y1:Nat} {pos:String} {af:Array Edge} {x1 x2:Operand} {A:Option Addr} {m n c:Nat} {M:Int} (hM:M=(m:Int)) (hm:m≤c) (h:e1 x1=.slice A n c) (h2:e1 x2=.int .i64 M) :
 (execOp e1 ⟨d1,.slice 87 x1 none (some x2) none,y1,pos,af,none⟩).run Tryz.prog w=.ok (.value (.slice A m c)) w:=by
 subst hM
 cases A <;> go_simp
theorem Qlt {e1:Operand→Value} {d1:Option Tmp} {y1:Nat} {pos:String} {af:Array Edge} {x1 x2:Operand} {A B:Option Addr} {c:Nat} (h:e1 x1=.slice A 0 0) (h2:e1 x2=.slice B 0 c) :
 (execOp e1 ⟨d1,.call ⟨.builtin Builtin.append,#[x1,x2],#[87,87]⟩,y1,pos,af,none⟩).run Tryz.prog w=.ok (.value (.slice A 0 0)) w:=by
 obtain ⟨i0,hi,hz,hs,hby⟩:=info_parts (show (Tryz.prog.info? 90).map (fun i=>(i.zero,i.size,i.bytes))=some (some (.agg #[.bool false,.slice none 0 0,.slice none 0 0,.bool false,.slice none 0 0,.slice none 0 0,.bool false,.slice none 0 0,.slice none 0 0]),9,168) by kernel_rfl)
 have hu:=Tryz.underlying87
 cases A <;> cases B <;> (simp [h,h2,Builtin.append_,run_underlying hu,sizeOf,typeInfo,hi,Builtin.lenOf,Builtin.firstCells,go_sem];try rfl)
theorem Qlz {e1:Operand→Value} {x1 x2:Operand} {g o n c:Nat} {L:List CV} (h:e1 x1=.slice (some ⟨g,o,none⟩) n n) (h2:e1 x2=.slice (some ⟨g,o,none⟩) 1 c) (hL:SV w (some ⟨g,o,none⟩) (cvs L)) (hn:L.length=n) (h0:0 < n) (hm:n≤100000) :
 ∃ c' w2,(∀ (d1:Option Tmp) (y1:Nat) (pos:String) (af:Array Edge),(execOp e1 ⟨d1,.call ⟨.builtin Builtin.append,#[x1,x2],#[87,87]⟩,y1,pos,af,none⟩).run Tryz.prog w=.ok (.value (.slice (some ⟨w.heap.size,0,none⟩) (n+1) c')) w2)∧Below w.heap.size w w2∧RowB 90 w2 w.heap.size (cvs (L ++ L.take 1)):=by
 obtain ⟨i0,hi,hz,hs,hby⟩:=info_parts (show (Tryz.prog.info? 90).map (fun i=>(i.zero,i.size,i.bytes))=some (some (.agg #[.bool false,.slice none 0 0,.slice none 0 0,.bool false,.slice none 0 0,.slice none 0 0,.bool false,.slice none 0 0,.slice none 0 0]),9,168) by kernel_rfl)
 have hu:=Tryz.underlying87
 have hl:(cvs L).length=n*9:=by rw [show (cvs L).length=L.length*9 from Qaq QcU L,hn]
 have hl1:(cvs (L.take 1)).length=1*9:=by rw [show (cvs (L.take 1)).length=(L.take 1).length*9 from Qaq QcU _,List.length_take,hn,Nat.min_eq_left (by omega)]
 have hc:∀ j v,(cvs L)[j]?=some v→w.cell? ((⟨g,o,none⟩:Addr).add j)=some v:=fun j v hv=>by
  obtain ⟨g2,o2,e,_,hx⟩:=hL (by rw [hl];omega)
  cases e
  rw [QbN];exact hx j v hv
 have hc1:∀ j v,(cvs (L.take 1))[j]?=some v→w.cell? ((⟨g,o,none⟩:Addr).add j)=some v:=fun j v hv=>by
  refine hc j v ?_
  rw [← List.take_append_drop 1 L,QeH,List.getElem?_append_left (by have:=(List.getElem?_eq_some_iff.1 hv).1;exact this)]
  exact hv
 have hfit:Builtin.nextslicecap (n+1) n*i0.bytes≤281474976710656:=growslice_fits (by omega) (by rw [hby];omega)
 have hr:=fun y1=>run_append_grow (P:=Tryz.prog) w 87 y1 90 i0 _ hu hi hz ⟨g,o,none⟩ n n (cvs L) (by rw [hs];exact hl) hc ⟨g,o,none⟩ 1 c (cvs (L.take 1)) (by rw [hs];exact hl1) hc1 (by omega) (by omega) hfit
 generalize hX:((cvs L).toArray ++ (cvs (L.take 1)).toArray ++ Builtin.zeroCells (Value.agg #[.bool false,.slice none 0 0,.slice none 0 0,.bool false,.slice none 0 0,.slice none 0 0,.bool false,.slice none 0 0,.slice none 0 0]).cells (grownCap w (n+1) n 90 - (n+1)))=X at hr
 have he:∀ (d1:Option Tmp) (y1:Nat) (pos:String) (af:Array Edge),(execOp e1 ⟨d1,.call ⟨.builtin Builtin.append,#[x1,x2],#[87,87]⟩,y1,pos,af,none⟩).run Tryz.prog w=.ok (.value (.slice (some ⟨w.heap.size,0,none⟩) (n+1) (grownCap w (n+1) n 90))) (w.drew.alloc (.cells X 90)):=by
  intro d1 y1 pos af
  unfold execOp
  simp only [resolve,invoke,builtin,Sem.run_bind,Sem.run_pure,Result.andThen_ok,List.map_toArray,List.map_cons,List.map_nil,h,h2,hr]
 refine ⟨_,_,he,(Below.refl _ _).drew.alloc (Nat.le_refl _) _,X,⟨heap_alloc_new w.drew _,?_⟩,?_,?_⟩
 · intro i k' x e
   have hm:∀ u ∈ X,∀ (k:IntKind) (x:Int),u ≠ .int k x:=fun u hu=>by
    rw [← hX] at hu
    rcases Array.mem_append.1 hu with q | q
    · rcases Array.mem_append.1 q with q | q
      · exact Qen L u (by simpa using q)
      · exact Qen (L.take 1) u (by simpa using q)
    · exact QkA _ (by decide) (fun u hu=>Qen [zcv] u (Array.mem_toList_iff.2 hu)) _ u q
   exact hm _ (Array.mem_of_getElem? e) k' x rfl
 · rw [← hX,QeH,List.length_append,Array.size_append,Array.size_append,List.size_toArray,List.size_toArray];omega
 · intro j u hu
   rw [QeH] at hu
   rw [← hX,Array.getElem?_append_left (by have:=(List.getElem?_eq_some_iff.1 hu).1;simpa using this)]
   simpa using hu
abbrev L_closedp:List Nat:=[3,4,5,6,7,8,9,10,11,12,13,14,2]
def QbG:Oper:=⟨some 3,.move (.tmp 0),22, "area.go:53",#[],none⟩
def QbE:Oper:=⟨some 4,.move (.tmp 0),22, "area.go:53",#[],none⟩
def Qbd:Oper:=⟨some 5,.call ⟨.builtin Builtin.len,#[.tmp 4],#[22]⟩,3, "area.go:53",#[⟨1,.data⟩],none⟩
def Qbx:Oper:=⟨some 6,.move (.tmp 0),22, "area.go:53",#[],none⟩
def Qbe:Oper:=⟨some 7,.call ⟨.builtin Builtin.len,#[.tmp 6],#[22]⟩,3, "area.go:53",#[⟨3,.data⟩],none⟩
def QaJ:Oper:=⟨some 8,.slice 22 (.tmp 3) none (some (.tmp 5)) (some (.tmp 7)),22, "area.go:53",#[⟨0,.data⟩,⟨2,.data⟩,⟨4,.data⟩],none⟩
def QbD:Oper:=⟨some 9,.move (.tmp 0),22, "area.go:53",#[],none⟩
def Qbz:Oper:=⟨some 10,.move (.tmp 0),22, "area.go:53",#[],none⟩
def Qbh:Oper:=⟨some 11,.call ⟨.builtin Builtin.len,#[.tmp 10],#[22]⟩,3, "area.go:53",#[⟨7,.data⟩],none⟩
def Qa9:Oper:=⟨some 12,.call ⟨.builtin Builtin.min,#[.const (Value.int IntKind.i64 1),.tmp 11],#[3,3]⟩,3, "area.go:53",#[⟨8,.data⟩],none⟩
def QaM:Oper:=⟨some 13,.slice 22 (.tmp 9) none (some (.tmp 12)) none,22, "area.go:53",#[⟨6,.data⟩,⟨9,.data⟩],none⟩
def QaO:Oper:=⟨some 14,.call ⟨.builtin Builtin.append,#[.tmp 8,.tmp 13],#[22,22]⟩,22, "area.go:53",#[⟨5,.data⟩,⟨10,.data⟩],none⟩
def QaX:Oper:=⟨some 2,.assign (.tmp 14),22, "area.go:53",#[⟨11,.data⟩,⟨11,.chain⟩,⟨0,.phase⟩,⟨1,.phase⟩,⟨2,.phase⟩,⟨3,.phase⟩,⟨4,.phase⟩,⟨5,.phase⟩,⟨6,.phase⟩,⟨7,.phase⟩,⟨8,.phase⟩,⟨9,.phase⟩,⟨10,.phase⟩,⟨11,.phase⟩],none⟩
def Qiz (g:Nat) (o:Nat) (n:Nat) (c:Nat) (base:Nat) (L:List PV) (sl:Nat):Value→World→Prop :=
 match sl with
 | 3=>fun x _=>x=Value.slice (some ⟨g,o,none⟩) n c
 | 4=>fun x _=>x=Value.slice (some ⟨g,o,none⟩) n c
 | 5=>fun x _=>x=Value.int .i64 (n:Int)
 | 6=>fun x _=>x=Value.slice (some ⟨g,o,none⟩) n c
 | 7=>fun x _=>x=Value.int .i64 (n:Int)
 | 8=>fun x _=>x=Value.slice (some ⟨g,o,none⟩) n n
 | 9=>fun x _=>x=Value.slice (some ⟨g,o,none⟩) n c
 | 10=>fun x _=>x=Value.slice (some ⟨g,o,none⟩) n c
 | 11=>fun x _=>x=Value.int .i64 (n:Int)
 | 12=>fun x _=>x=Value.int .i64 1
 | 13=>fun x _=>x=Value.slice (some ⟨g,o,none⟩) 1 c
 | 14=>VSB (29) (base) (n) (n+1) (pvs (L ++ L.take 1))
 | 2=>VSB (29) (base) (n) (n+1) (pvs (L ++ L.take 1))
 | _=>fun _ _=>True
theorem QgB {id:Nat} {ac:Act} {Q:Exit→Act→World→Prop} {g o n c base:Nat} {L:List PV}
 (hsz:14 < ac.tmps.size) (e0:ac.eval (.tmp 0)=Value.slice (some ⟨g,o,none⟩) n c) (hL:SV w (some ⟨g,o,none⟩) (pvs L)) (hn:L.length=n) (h0:0 < n) (hm:n≤100000) (hnc:n≤c) (hbs:base≤w.heap.size)
 (hend:∀ (V:Nat→Value) (w':World),(VSB (29) (base) (n) (n+1) (pvs (L ++ L.take 1))) (V 2) w'→Below w.heap.size w w'→Q .normal (Qal ac [3,4,5,6,7,8,9,10,11,12,13,14,2] V) w') :
 (Code.region id #[QbG,QbE,Qbd,Qbx,Qbe,QaJ,QbD,Qbz,Qbh,Qa9,QaM,QaO,QaX] true).wp Tryz.prog Q ac w:=by
 have hnd:L_closedp.Nodup:=by decide
 have G:∀ (sv:Nat→Value) (t:Nat),t ∈ L_closedp→t≤14→(Qal ac L_closedp sv).eval (.tmp t)=sv t:=fun sv t ht h=>Qay (t:=t) L_closedp ac hnd ht (Nat.lt_of_le_of_lt h hsz)
 have E0:∀ sv:Nat→Value,(Qal ac L_closedp sv).eval (.tmp 0)=Value.slice (some ⟨g,o,none⟩) n c:=fun sv=>(Qap (v:=sv) L_closedp ac (show 0 ∉ _ by decide)).trans e0
 have NE:∀ t:Nat,(True)→∀ p ∈ ([]:List Qb1),t ≠ p.tA:=by
  intro t ht p hp
  cases hp
 refine QaB L_closedp ([]:List Qb1) (Qiz g o n c base L) (by kernel_rfl) (by kernel_rfl) rfl hnd ?_ ?_ ?_ ?_ ?_ ?_ ?_ ?_
 · intro p hp
   cases hp
 · intro p hp;cases hp
 · intro p hp;cases hp
 · intro i o h1 h2
   match i,h1 with
   | 0,h1=>cases h1;cases h2
   | 1,h1=>cases h1;cases h2
   | 2,h1=>cases h1;cases h2
   | 3,h1=>cases h1;cases h2
   | 4,h1=>cases h1;cases h2
   | 5,h1=>cases h1;cases h2
   | 6,h1=>cases h1;cases h2
   | 7,h1=>cases h1;cases h2
   | 8,h1=>cases h1;cases h2
   | 9,h1=>cases h1;cases h2
   | 10,h1=>cases h1;cases h2
   | 11,h1=>cases h1;cases h2
   | 12,h1=>cases h1;cases h2
   | i+13,h1=>cases h1
 · intro t
   unfold Qiz
   split <;> first | exact (Qbs _).inn _ | exact (QbL _ _).inn _ | exact (Qcb _ _).inn _ | exact (Qcc _ _).inn _ | exact (QbV _ _).inn _ | exact (QbQ _ _ _).inn _ | exact (QaV).inn _ | exact Qfi _ _ _ _ _ _ (fun p hp=>by cases hp)
 · intro i o t sv w' ho hia hd J0 hf
   have hL:=hL.below J0
   match i,ho with
   | 0,ho =>
     obtain rfl:QbG=o:=Option.some.inj ho
     cases hd
     refine Qaa (o:=QbG) rfl rfl ?_
     unfold Oper.wp QbG
     rw [Qat (E0 sv),Oper.upon_value]
     exact ⟨_,rfl,Below.refl _ _,rfl⟩
   | 1,ho =>
     obtain rfl:QbE=o:=Option.some.inj ho
     cases hd
     refine Qaa (o:=QbE) rfl rfl ?_
     unfold Oper.wp QbE
     rw [Qat (E0 sv),Oper.upon_value]
     exact ⟨_,rfl,Below.refl _ _,rfl⟩
   | 2,ho =>
     obtain rfl:Qbd=o:=Option.some.inj ho
     cases hd
     have f4:sv 4=Value.slice (some ⟨g,o,none⟩) n c:=hf ⟨1,.data⟩ (by simp [Qbd]) rfl _ 4 rfl rfl (NE _ (by decide))
     refine Qaa (o:=Qbd) rfl rfl ?_
     unfold Oper.wp Qbd
     rw [QbJ ((G sv 4 (by decide) (by decide)).trans f4) ,Oper.upon_value]
     exact ⟨_,rfl,Below.refl _ _,rfl⟩
   | 3,ho =>
     obtain rfl:Qbx=o:=Option.some.inj ho
     cases hd
     refine Qaa (o:=Qbx) rfl rfl ?_
     unfold Oper.wp Qbx
     rw [Qat (E0 sv),Oper.upon_value]
     exact ⟨_,rfl,Below.refl _ _,rfl⟩
   | 4,ho =>
     obtain rfl:Qbe=o:=Option.some.inj ho
     cases hd
     have f6:sv 6=Value.slice (some ⟨g,o,none⟩) n c:=hf ⟨3,.data⟩ (by simp [Qbe]) rfl _ 6 rfl rfl (NE _ (by decide))
     refine Qaa (o:=Qbe) rfl rfl ?_
     unfold Oper.wp Qbe
     rw [QbJ ((G sv 6 (by decide) (by decide)).trans f6) ,Oper.upon_value]
     exact ⟨_,rfl,Below.refl _ _,rfl⟩
   | 5,ho =>
     obtain rfl:QaJ=o:=Option.some.inj ho
     cases hd
     have f3:sv 3=Value.slice (some ⟨g,o,none⟩) n c:=hf ⟨0,.data⟩ (by simp [QaJ]) rfl _ 3 rfl rfl (NE _ (by decide))
     have f5:sv 5=Value.int .i64 (n:Int):=hf ⟨2,.data⟩ (by simp [QaJ]) rfl _ 5 rfl rfl (NE _ (by decide))
     have f7:sv 7=Value.int .i64 (n:Int):=hf ⟨4,.data⟩ (by simp [QaJ]) rfl _ 7 rfl rfl (NE _ (by decide))
     refine Qaa (o:=QaJ) rfl rfl ?_
     unfold Oper.wp QaJ
     rw [Qhc ((G sv 3 (by decide) (by decide)).trans f3) ((G sv 5 (by decide) (by decide)).trans f5) ((G sv 7 (by decide) (by decide)).trans f7) hnc,Oper.upon_value]
     exact ⟨_,rfl,Below.refl _ _,rfl⟩
   | 6,ho =>
     obtain rfl:QbD=o:=Option.some.inj ho
     cases hd
     refine Qaa (o:=QbD) rfl rfl ?_
     unfold Oper.wp QbD
     rw [Qat (E0 sv),Oper.upon_value]
     exact ⟨_,rfl,Below.refl _ _,rfl⟩
   | 7,ho =>
     obtain rfl:Qbz=o:=Option.some.inj ho
     cases hd
     refine Qaa (o:=Qbz) rfl rfl ?_
     unfold Oper.wp Qbz
     rw [Qat (E0 sv),Oper.upon_value]
     exact ⟨_,rfl,Below.refl _ _,rfl⟩
   | 8,ho =>
     obtain rfl:Qbh=o:=Option.some.inj ho
     cases hd
     have f10:sv 10=Value.slice (some ⟨g,o,none⟩) n c:=hf ⟨7,.data⟩ (by simp [Qbh]) rfl _ 10 rfl rfl (NE _ (by decide))
     refine Qaa (o:=Qbh) rfl rfl ?_
     unfold Oper.wp Qbh
     rw [QbJ ((G sv 10 (by decide) (by decide)).trans f10) ,Oper.upon_value]
     exact ⟨_,rfl,Below.refl _ _,rfl⟩
   | 9,ho =>
     obtain rfl:Qa9=o:=Option.some.inj ho
     cases hd
     have f11:sv 11=Value.int .i64 (n:Int):=hf ⟨8,.data⟩ (by simp [Qa9]) rfl _ 11 rfl rfl (NE _ (by decide))
     refine Qaa (o:=Qa9) rfl rfl ?_
     unfold Oper.wp Qa9
     rw [QkW h0 ((G sv 11 (by decide) (by decide)).trans f11) (show (Qal ac L_closedp sv).eval (.const (Value.int IntKind.i64 1))=(Value.int IntKind.i64 1) from rfl) ,Oper.upon_value]
     exact ⟨_,rfl,Below.refl _ _,rfl⟩
   | 10,ho =>
     obtain rfl:QaM=o:=Option.some.inj ho
     cases hd
     have f9:sv 9=Value.slice (some ⟨g,o,none⟩) n c:=hf ⟨6,.data⟩ (by simp [QaM]) rfl _ 9 rfl rfl (NE _ (by decide))
     have f12:sv 12=Value.int .i64 1:=hf ⟨9,.data⟩ (by simp [QaM]) rfl _ 12 rfl rfl (NE _ (by decide))
     refine Qaa (o:=QaM) rfl rfl ?_
     unfold Oper.wp QaM
     rw [Qg4 (m:=1) rfl (by omega) ((G sv 9 (by decide) (by decide)).trans f9) ((G sv 12 (by decide) (by decide)).trans f12) ,Oper.upon_value]
     exact ⟨_,rfl,Below.refl _ _,rfl⟩
   | 11,ho =>
     obtain rfl:QaO=o:=Option.some.inj ho
     cases hd
     have f8:sv 8=Value.slice (some ⟨g,o,none⟩) n n:=hf ⟨5,.data⟩ (by simp [QaO]) rfl _ 8 rfl rfl (NE _ (by decide))
     have f13:sv 13=Value.slice (some ⟨g,o,none⟩) 1 c:=hf ⟨10,.data⟩ (by simp [QaO]) rfl _ 13 rfl rfl (NE _ (by decide))
     refine Qaa (o:=QaO) rfl rfl ?_
     unfold Oper.wp QaO
     obtain ⟨c2,w2,hr,hb2,hB⟩:=Qlh (w:=w') ((G sv 8 (by decide) (by decide)).trans f8) ((G sv 13 (by decide) (by decide)).trans f13) hL hn h0 hm
     rw [hr,Oper.upon_value]
     exact ⟨_,rfl,hb2,_,_,rfl,fun _=>⟨_,rfl,Nat.le_trans hbs J0.size,hB⟩⟩
   | 12,ho =>
     obtain rfl:QaX=o:=Option.some.inj ho
     cases hd
     have f:=hf ⟨11,.data⟩ (by simp [QaX]) rfl _ 14 rfl rfl (NE _ (by decide))
     refine Qaa (o:=QaX) rfl rfl ?_
     unfold Oper.wp QaX
     rw [Qbb (G sv 14 (by decide) (by decide)),Oper.upon_value]
     exact ⟨_,rfl,Below.refl _ _,f⟩
   | i+13,ho=>cases ho
 · intro p hp os sv w' g hos J0 p1 p3 hf
   cases hp
 · intro sv w' J0 hF hB hap
   exact hend sv w'   (hF 12 _ 2 rfl rfl (NE _ (by decide))) J0
def QmM (A:Option Addr) (c:Nat) (sl:Nat):Value→World→Prop :=
 match sl with
 | 3=>fun x _=>x=Value.slice A 0 c
 | 4=>fun x _=>x=Value.slice A 0 c
 | 5=>fun x _=>x=Value.int .i64 0
 | 6=>fun x _=>x=Value.slice A 0 c
 | 7=>fun x _=>x=Value.int .i64 0
 | 8=>fun x _=>x=Value.slice A 0 0
 | 9=>fun x _=>x=Value.slice A 0 c
 | 10=>fun x _=>x=Value.slice A 0 c
 | 11=>fun x _=>x=Value.int .i64 0
 | 12=>fun x _=>x=Value.int .i64 0
 | 13=>fun x _=>x=Value.slice A 0 c
 | 14=>fun x _=>x=Value.slice A 0 0
 | 2=>fun x _=>x=Value.slice A 0 0
 | _=>fun _ _=>True
theorem QiQ {id:Nat} {ac:Act} {Q:Exit→Act→World→Prop} {A:Option Addr} {c:Nat}
 (hsz:14 < ac.tmps.size) (e0:ac.eval (.tmp 0)=Value.slice A 0 c) 
 (hend:∀ (V:Nat→Value) (w':World),V 2=Value.slice A 0 0→Below w.heap.size w w'→Q .normal (Qal ac [3,4,5,6,7,8,9,10,11,12,13,14,2] V) w') :
 (Code.region id #[QbG,QbE,Qbd,Qbx,Qbe,QaJ,QbD,Qbz,Qbh,Qa9,QaM,QaO,QaX] true).wp Tryz.prog Q ac w:=by
 have hnd:L_closedp.Nodup:=by decide
 have G:∀ (sv:Nat→Value) (t:Nat),t ∈ L_closedp→t≤14→(Qal ac L_closedp sv).eval (.tmp t)=sv t:=fun sv t ht h=>Qay (t:=t) L_closedp ac hnd ht (Nat.lt_of_le_of_lt h hsz)
 have E0:∀ sv:Nat→Value,(Qal ac L_closedp sv).eval (.tmp 0)=Value.slice A 0 c:=fun sv=>(Qap (v:=sv) L_closedp ac (show 0 ∉ _ by decide)).trans e0
 have NE:∀ t:Nat,(True)→∀ p ∈ ([]:List Qb1),t ≠ p.tA:=by
  intro t ht p hp
  cases hp
 refine QaB L_closedp ([]:List Qb1) (QmM A c) (by kernel_rfl) (by kernel_rfl) rfl hnd ?_ ?_ ?_ ?_ ?_ ?_ ?_ ?_
 · intro p hp
   cases hp
 · intro p hp;cases hp
 · intro p hp;cases hp
 · intro i o h1 h2
   match i,h1 with
   | 0,h1=>cases h1;cases h2
   | 1,h1=>cases h1;cases h2
   | 2,h1=>cases h1;cases h2
   | 3,h1=>cases h1;cases h2
   | 4,h1=>cases h1;cases h2
   | 5,h1=>cases h1;cases h2
   | 6,h1=>cases h1;cases h2
   | 7,h1=>cases h1;cases h2
   | 8,h1=>cases h1;cases h2
   | 9,h1=>cases h1;cases h2
   | 10,h1=>cases h1;cases h2
   | 11,h1=>cases h1;cases h2
   | 12,h1=>cases h1;cases h2
   | i+13,h1=>cases h1
 · intro t
   unfold QmM
   split <;> first | exact (Qbs _).inn _ | exact (QbL _ _).inn _ | exact (Qcb _ _).inn _ | exact (Qcc _ _).inn _ | exact (QbV _ _).inn _ | exact (QbQ _ _ _).inn _ | exact (QaV).inn _
 · intro i o t sv w' ho hia hd J0 hf
   match i,ho with
   | 0,ho =>
     obtain rfl:QbG=o:=Option.some.inj ho
     cases hd
     refine Qaa (o:=QbG) rfl rfl ?_
     unfold Oper.wp QbG
     rw [Qat (E0 sv),Oper.upon_value]
     exact ⟨_,rfl,Below.refl _ _,rfl⟩
   | 1,ho =>
     obtain rfl:QbE=o:=Option.some.inj ho
     cases hd
     refine Qaa (o:=QbE) rfl rfl ?_
     unfold Oper.wp QbE
     rw [Qat (E0 sv),Oper.upon_value]
     exact ⟨_,rfl,Below.refl _ _,rfl⟩
   | 2,ho =>
     obtain rfl:Qbd=o:=Option.some.inj ho
     cases hd
     have f4:sv 4=Value.slice A 0 c:=hf ⟨1,.data⟩ (by simp [Qbd]) rfl _ 4 rfl rfl (NE _ (by decide))
     refine Qaa (o:=Qbd) rfl rfl ?_
     unfold Oper.wp Qbd
     rw [QbJ (n:=0) ((G sv 4 (by decide) (by decide)).trans f4) ,Oper.upon_value]
     exact ⟨_,rfl,Below.refl _ _,rfl⟩
   | 3,ho =>
     obtain rfl:Qbx=o:=Option.some.inj ho
     cases hd
     refine Qaa (o:=Qbx) rfl rfl ?_
     unfold Oper.wp Qbx
     rw [Qat (E0 sv),Oper.upon_value]
     exact ⟨_,rfl,Below.refl _ _,rfl⟩
   | 4,ho =>
     obtain rfl:Qbe=o:=Option.some.inj ho
     cases hd
     have f6:sv 6=Value.slice A 0 c:=hf ⟨3,.data⟩ (by simp [Qbe]) rfl _ 6 rfl rfl (NE _ (by decide))
     refine Qaa (o:=Qbe) rfl rfl ?_
     unfold Oper.wp Qbe
     rw [QbJ (n:=0) ((G sv 6 (by decide) (by decide)).trans f6) ,Oper.upon_value]
     exact ⟨_,rfl,Below.refl _ _,rfl⟩
   | 5,ho =>
     obtain rfl:QaJ=o:=Option.some.inj ho
     cases hd
     have f3:sv 3=Value.slice A 0 c:=hf ⟨0,.data⟩ (by simp [QaJ]) rfl _ 3 rfl rfl (NE _ (by decide))
     have f5:sv 5=Value.int .i64 0:=hf ⟨2,.data⟩ (by simp [QaJ]) rfl _ 5 rfl rfl (NE _ (by decide))
     have f7:sv 7=Value.int .i64 0:=hf ⟨4,.data⟩ (by simp [QaJ]) rfl _ 7 rfl rfl (NE _ (by decide))
     refine Qaa (o:=QaJ) rfl rfl ?_
     unfold Oper.wp QaJ
     rw [Qhc (n:=0) ((G sv 3 (by decide) (by decide)).trans f3) ((G sv 5 (by decide) (by decide)).trans f5) ((G sv 7 (by decide) (by decide)).trans f7) (Nat.zero_le _),Oper.upon_value]
     exact ⟨_,rfl,Below.refl _ _,rfl⟩
   | 6,ho =>
     obtain rfl:QbD=o:=Option.some.inj ho
     cases hd
     refine Qaa (o:=QbD) rfl rfl ?_
     unfold Oper.wp QbD
     rw [Qat (E0 sv),Oper.upon_value]
     exact ⟨_,rfl,Below.refl _ _,rfl⟩
   | 7,ho =>
     obtain rfl:Qbz=o:=Option.some.inj ho
     cases hd
     refine Qaa (o:=Qbz) rfl rfl ?_
     unfold Oper.wp Qbz
     rw [Qat (E0 sv),Oper.upon_value]
     exact ⟨_,rfl,Below.refl _ _,rfl⟩
   | 8,ho =>
     obtain rfl:Qbh=o:=Option.some.inj ho
     cases hd
     have f10:sv 10=Value.slice A 0 c:=hf ⟨7,.data⟩ (by simp [Qbh]) rfl _ 10 rfl rfl (NE _ (by decide))
     refine Qaa (o:=Qbh) rfl rfl ?_
     unfold Oper.wp Qbh
     rw [QbJ (n:=0) ((G sv 10 (by decide) (by decide)).trans f10) ,Oper.upon_value]
     exact ⟨_,rfl,Below.refl _ _,rfl⟩
   | 9,ho =>
     obtain rfl:Qa9=o:=Option.some.inj ho
     cases hd
     have f11:sv 11=Value.int .i64 0:=hf ⟨8,.data⟩ (by simp [Qa9]) rfl _ 11 rfl rfl (NE _ (by decide))
     refine Qaa (o:=Qa9) rfl rfl ?_
     unfold Oper.wp Qa9
     rw [Qkd ((G sv 11 (by decide) (by decide)).trans f11) (show (Qal ac L_closedp sv).eval (.const (Value.int IntKind.i64 1))=(Value.int IntKind.i64 1) from rfl) ,Oper.upon_value]
     exact ⟨_,rfl,Below.refl _ _,rfl⟩
   | 10,ho =>
     obtain rfl:QaM=o:=Option.some.inj ho
     cases hd
     have f9:sv 9=Value.slice A 0 c:=hf ⟨6,.data⟩ (by simp [QaM]) rfl _ 9 rfl rfl (NE _ (by decide))
     have f12:sv 12=Value.int .i64 0:=hf ⟨9,.data⟩ (by simp [QaM]) rfl _ 12 rfl rfl (NE _ (by decide))
     refine Qaa (o:=QaM) rfl rfl ?_
     unfold Oper.wp QaM
     rw [Qg4 (m:=0) rfl (Nat.zero_le _) ((G sv 9 (by decide) (by decide)).trans f9) ((G sv 12 (by decide) (by decide)).trans f12) ,Oper.upon_value]
     exact ⟨_,rfl,Below.refl _ _,rfl⟩
   | 11,ho =>
     obtain rfl:QaO=o:=Option.some.inj ho
     cases hd
     have f8:sv 8=Value.slice A 0 0:=hf ⟨5,.data⟩ (by simp [QaO]) rfl _ 8 rfl rfl (NE _ (by decide))
     have f13:sv 13=Value.slice A 0 c:=hf ⟨10,.data⟩ (by simp [QaO]) rfl _ 13 rfl rfl (NE _ (by decide))
     refine Qaa (o:=QaO) rfl rfl ?_
     unfold Oper.wp QaO
     rw [QlN ((G sv 8 (by decide) (by decide)).trans f8) ((G sv 13 (by decide) (by decide)).trans f13) ,Oper.upon_value]
     exact ⟨_,rfl,Below.refl _ _,rfl⟩
   | 12,ho =>
     obtain rfl:QaX=o:=Option.some.inj ho
     cases hd
     have f:=hf ⟨11,.data⟩ (by simp [QaX]) rfl _ 14 rfl rfl (NE _ (by decide))
     refine Qaa (o:=QaX) rfl rfl ?_
     unfold Oper.wp QaX
     rw [Qbb (G sv 14 (by decide) (by decide)),Oper.upon_value]
     exact ⟨_,rfl,Below.refl _ _,f⟩
   | i+13,ho=>cases ho
 · intro p hp os sv w' g hos J0 p1 p3 hf
   cases hp
 · intro sv w' J0 hF hB hap
   exact hend sv w'  (hF 12 _ 2 rfl rfl (NE _ (by decide)))  J0
theorem Qe5 {A:Option Addr} {n c base:Nat} {L:List PV} (hL:SV w A (pvs L)) (hn:L.length=n) (hm:n≤100000) (hnc:n≤c) (hbs:base≤w.heap.size) :
 Calls Tryz.prog 44 #[.slice A n c] w fun e w'=>∃ A' c',e=.returned (.slice A' (n+min 1 n) c')∧SNr 29 base n (pvs (L ++ L.take 1)) w' A'∧Below w.heap.size w w':=by
 rcases Nat.eq_zero_or_pos n with h0 | h0
 · subst h0
   go_enter Tryz.func44,Tryz.ntmps44
   go_upto_region 1 with (fail)
   refine QiQ (by simp) rfl ?_
   intro V w' hv hh
   simp only [Qal,Act.put,List.setIfInBounds_toArray,List.set_cons_zero,List.set_cons_succ,hv]
   go_wp2_with fail
   (try rw [Exit.noGoto_ret])
   go_ret
   exact ⟨_,_,rfl,fun h=>absurd h (by omega),hh⟩
 · obtain ⟨g,o,rfl,_,_⟩:=hL (by rw [show (pvs L).length=L.length*6 from Qaq QaS L,hn];omega)
   go_enter Tryz.func44,Tryz.ntmps44
   go_upto_region 1 with (fail)
   refine QgB (by simp) rfl hL hn h0 hm hnc hbs ?_
   intro V w' hF hh
   obtain ⟨A',c',hv,hS⟩:=hF
   simp only [Qal,Act.put,List.setIfInBounds_toArray,List.set_cons_zero,List.set_cons_succ,hv]
   go_wp2_with fail
   (try rw [Exit.noGoto_ret])
   go_ret
   exact ⟨A',c',by rw [show n+min 1 n=n+1 by omega];rfl,hS,hh⟩
abbrev L_closedc:List Nat:=[3,4,5,6,7,8,9,10,11,12,13,14,2]
def QbB:Oper:=⟨some 3,.move (.tmp 0),87, "area.go:53",#[],none⟩
def QbC:Oper:=⟨some 4,.move (.tmp 0),87, "area.go:53",#[],none⟩
def Qbg:Oper:=⟨some 5,.call ⟨.builtin Builtin.len,#[.tmp 4],#[87]⟩,3, "area.go:53",#[⟨1,.data⟩],none⟩
def QbH:Oper:=⟨some 6,.move (.tmp 0),87, "area.go:53",#[],none⟩
def Qba:Oper:=⟨some 7,.call ⟨.builtin Builtin.len,#[.tmp 6],#[87]⟩,3, "area.go:53",#[⟨3,.data⟩],none⟩
def QaK:Oper:=⟨some 8,.slice 87 (.tmp 3) none (some (.tmp 5)) (some (.tmp 7)),87, "area.go:53",#[⟨0,.data⟩,⟨2,.data⟩,⟨4,.data⟩],none⟩
def QbF:Oper:=⟨some 9,.move (.tmp 0),87, "area.go:53",#[],none⟩
def Qby:Oper:=⟨some 10,.move (.tmp 0),87, "area.go:53",#[],none⟩
def Qbf:Oper:=⟨some 11,.call ⟨.builtin Builtin.len,#[.tmp 10],#[87]⟩,3, "area.go:53",#[⟨7,.data⟩],none⟩
def Qbc:Oper:=⟨some 12,.call ⟨.builtin Builtin.min,#[.const (Value.int IntKind.i64 1),.tmp 11],#[3,3]⟩,3, "area.go:53",#[⟨8,.data⟩],none⟩
def QaN:Oper:=⟨some 13,.slice 87 (.tmp 9) none (some (.tmp 12)) none,87, "area.go:53",#[⟨6,.data⟩,⟨9,.data⟩],none⟩
def QaL:Oper:=⟨some 14,.call ⟨.builtin Builtin.append,#[.tmp 8,.tmp 13],#[87,87]⟩,87, "area.go:53",#[⟨5,.data⟩,⟨10,.data⟩],none⟩
def QaZ:Oper:=⟨some 2,.assign (.tmp 14),87, "area.go:53",#[⟨11,.data⟩,⟨11,.chain⟩,⟨0,.phase⟩,⟨1,.phase⟩,⟨2,.phase⟩,⟨3,.phase⟩,⟨4,.phase⟩,⟨5,.phase⟩,⟨6,.phase⟩,⟨7,.phase⟩,⟨8,.phase⟩,⟨9,.phase⟩,⟨10,.phase⟩,⟨11,.phase⟩],none⟩
def Qiq (g:Nat) (o:Nat) (n:Nat) (c:Nat) (base:Nat) (L:List CV) (sl:Nat):Value→World→Prop :=
 match sl with
 | 3=>fun x _=>x=Value.slice (some ⟨g,o,none⟩) n c
 | 4=>fun x _=>x=Value.slice (some ⟨g,o,none⟩) n c
 | 5=>fun x _=>x=Value.int .i64 (n:Int)
 | 6=>fun x _=>x=Value.slice (some ⟨g,o,none⟩) n c
 | 7=>fun x _=>x=Value.int .i64 (n:Int)
 | 8=>fun x _=>x=Value.slice (some ⟨g,o,none⟩) n n
 | 9=>fun x _=>x=Value.slice (some ⟨g,o,none⟩) n c
 | 10=>fun x _=>x=Value.slice (some ⟨g,o,none⟩) n c
 | 11=>fun x _=>x=Value.int .i64 (n:Int)
 | 12=>fun x _=>x=Value.int .i64 1
 | 13=>fun x _=>x=Value.slice (some ⟨g,o,none⟩) 1 c
 | 14=>VSB (90) (base) (n) (n+1) (cvs (L ++ L.take 1))
 | 2=>VSB (90) (base) (n) (n+1) (cvs (L ++ L.take 1))
 | _=>fun _ _=>True
theorem Qgy {id:Nat} {ac:Act} {Q:Exit→Act→World→Prop} {g o n c base:Nat} {L:List CV}
 (hsz:14 < ac.tmps.size) (e0:ac.eval (.tmp 0)=Value.slice (some ⟨g,o,none⟩) n c) (hL:SV w (some ⟨g,o,none⟩) (cvs L)) (hn:L.length=n) (h0:0 < n) (hm:n≤100000) (hnc:n≤c) (hbs:base≤w.heap.size)
 (hend:∀ (V:Nat→Value) (w':World),(VSB (90) (base) (n) (n+1) (cvs (L ++ L.take 1))) (V 2) w'→Below w.heap.size w w'→Q .normal (Qal ac [3,4,5,6,7,8,9,10,11,12,13,14,2] V) w') :
 (Code.region id #[QbB,QbC,Qbg,QbH,Qba,QaK,QbF,Qby,Qbf,Qbc,QaN,QaL,QaZ] true).wp Tryz.prog Q ac w:=by
 have hnd:L_closedc.Nodup:=by decide
 have G:∀ (sv:Nat→Value) (t:Nat),t ∈ L_closedc→t≤14→(Qal ac L_closedc sv).eval (.tmp t)=sv t:=fun sv t ht h=>Qay (t:=t) L_closedc ac hnd ht (Nat.lt_of_le_of_lt h hsz)
 have E0:∀ sv:Nat→Value,(Qal ac L_closedc sv).eval (.tmp 0)=Value.slice (some ⟨g,o,none⟩) n c:=fun sv=>(Qap (v:=sv) L_closedc ac (show 0 ∉ _ by decide)).trans e0
 have NE:∀ t:Nat,(True)→∀ p ∈ ([]:List Qb1),t ≠ p.tA:=by
  intro t ht p hp
  cases hp
 refine QaB L_closedc ([]:List Qb1) (Qiq g o n c base L) (by kernel_rfl) (by kernel_rfl) rfl hnd ?_ ?_ ?_ ?_ ?_ ?_ ?_ ?_
 · intro p hp
   cases hp
 · intro p hp;cases hp
 · intro p hp;cases hp
 · intro i o h1 h2
   match i,h1 with
   | 0,h1=>cases h1;cases h2
   | 1,h1=>cases h1;cases h2
   | 2,h1=>cases h1;cases h2
   | 3,h1=>cases h1;cases h2
   | 4,h1=>cases h1;cases h2
   | 5,h1=>cases h1;cases h2
   | 6,h1=>cases h1;cases h2
   | 7,h1=>cases h1;cases h2
   | 8,h1=>cases h1;cases h2
   | 9,h1=>cases h1;cases h2
   | 10,h1=>cases h1;cases h2
   | 11,h1=>cases h1;cases h2
   | 12,h1=>cases h1;cases h2
   | i+13,h1=>cases h1
 · intro t
   unfold Qiq
   split <;> first | exact (Qbs _).inn _ | exact (QbL _ _).inn _ | exact (Qcb _ _).inn _ | exact (Qcc _ _).inn _ | exact (QbV _ _).inn _ | exact (QbQ _ _ _).inn _ | exact (QaV).inn _ | exact Qfi _ _ _ _ _ _ (fun p hp=>by cases hp)
 · intro i o t sv w' ho hia hd J0 hf
   have hL:=hL.below J0
   match i,ho with
   | 0,ho =>
     obtain rfl:QbB=o:=Option.some.inj ho
     cases hd
     refine Qaa (o:=QbB) rfl rfl ?_
     unfold Oper.wp QbB
     rw [Qat (E0 sv),Oper.upon_value]
     exact ⟨_,rfl,Below.refl _ _,rfl⟩
   | 1,ho =>
     obtain rfl:QbC=o:=Option.some.inj ho
     cases hd
     refine Qaa (o:=QbC) rfl rfl ?_
     unfold Oper.wp QbC
     rw [Qat (E0 sv),Oper.upon_value]
     exact ⟨_,rfl,Below.refl _ _,rfl⟩
   | 2,ho =>
     obtain rfl:Qbg=o:=Option.some.inj ho
     cases hd
     have f4:sv 4=Value.slice (some ⟨g,o,none⟩) n c:=hf ⟨1,.data⟩ (by simp [Qbg]) rfl _ 4 rfl rfl (NE _ (by decide))
     refine Qaa (o:=Qbg) rfl rfl ?_
     unfold Oper.wp Qbg
     rw [QcO ((G sv 4 (by decide) (by decide)).trans f4) ,Oper.upon_value]
     exact ⟨_,rfl,Below.refl _ _,rfl⟩
   | 3,ho =>
     obtain rfl:QbH=o:=Option.some.inj ho
     cases hd
     refine Qaa (o:=QbH) rfl rfl ?_
     unfold Oper.wp QbH
     rw [Qat (E0 sv),Oper.upon_value]
     exact ⟨_,rfl,Below.refl _ _,rfl⟩
   | 4,ho =>
     obtain rfl:Qba=o:=Option.some.inj ho
     cases hd
     have f6:sv 6=Value.slice (some ⟨g,o,none⟩) n c:=hf ⟨3,.data⟩ (by simp [Qba]) rfl _ 6 rfl rfl (NE _ (by decide))
     refine Qaa (o:=Qba) rfl rfl ?_
     unfold Oper.wp Qba
     rw [QcO ((G sv 6 (by decide) (by decide)).trans f6) ,Oper.upon_value]
     exact ⟨_,rfl,Below.refl _ _,rfl⟩
   | 5,ho =>
     obtain rfl:QaK=o:=Option.some.inj ho
     cases hd
     have f3:sv 3=Value.slice (some ⟨g,o,none⟩) n c:=hf ⟨0,.data⟩ (by simp [QaK]) rfl _ 3 rfl rfl (NE _ (by decide))
     have f5:sv 5=Value.int .i64 (n:Int):=hf ⟨2,.data⟩ (by simp [QaK]) rfl _ 5 rfl rfl (NE _ (by decide))
     have f7:sv 7=Value.int .i64 (n:Int):=hf ⟨4,.data⟩ (by simp [QaK]) rfl _ 7 rfl rfl (NE _ (by decide))
     refine Qaa (o:=QaK) rfl rfl ?_
     unfold Oper.wp QaK
     rw [Qg8 ((G sv 3 (by decide) (by decide)).trans f3) ((G sv 5 (by decide) (by decide)).trans f5) ((G sv 7 (by decide) (by decide)).trans f7) hnc,Oper.upon_value]
     exact ⟨_,rfl,Below.refl _ _,rfl⟩
   | 6,ho =>
     obtain rfl:QbF=o:=Option.some.inj ho
     cases hd
     refine Qaa (o:=QbF) rfl rfl ?_
     unfold Oper.wp QbF
     rw [Qat (E0 sv),Oper.upon_value]
     exact ⟨_,rfl,Below.refl _ _,rfl⟩
   | 7,ho =>
     obtain rfl:Qby=o:=Option.some.inj ho
     cases hd
     refine Qaa (o:=Qby) rfl rfl ?_
     unfold Oper.wp Qby
     rw [Qat (E0 sv),Oper.upon_value]
     exact ⟨_,rfl,Below.refl _ _,rfl⟩
   | 8,ho =>
     obtain rfl:Qbf=o:=Option.some.inj ho
     cases hd
     have f10:sv 10=Value.slice (some ⟨g,o,none⟩) n c:=hf ⟨7,.data⟩ (by simp [Qbf]) rfl _ 10 rfl rfl (NE _ (by decide))
     refine Qaa (o:=Qbf) rfl rfl ?_
     unfold Oper.wp Qbf
     rw [QcO ((G sv 10 (by decide) (by decide)).trans f10) ,Oper.upon_value]
     exact ⟨_,rfl,Below.refl _ _,rfl⟩
   | 9,ho =>
     obtain rfl:Qbc=o:=Option.some.inj ho
     cases hd
     have f11:sv 11=Value.int .i64 (n:Int):=hf ⟨8,.data⟩ (by simp [Qbc]) rfl _ 11 rfl rfl (NE _ (by decide))
     refine Qaa (o:=Qbc) rfl rfl ?_
     unfold Oper.wp Qbc
     rw [QkW h0 ((G sv 11 (by decide) (by decide)).trans f11) (show (Qal ac L_closedc sv).eval (.const (Value.int IntKind.i64 1))=(Value.int IntKind.i64 1) from rfl) ,Oper.upon_value]
     exact ⟨_,rfl,Below.refl _ _,rfl⟩
   | 10,ho =>
     obtain rfl:QaN=o:=Option.some.inj ho
     cases hd
     have f9:sv 9=Value.slice (some ⟨g,o,none⟩) n c:=hf ⟨6,.data⟩ (by simp [QaN]) rfl _ 9 rfl rfl (NE _ (by decide))
     have f12:sv 12=Value.int .i64 1:=hf ⟨9,.data⟩ (by simp [QaN]) rfl _ 12 rfl rfl (NE _ (by decide))
     refine Qaa (o:=QaN) rfl rfl ?_
     unfold Oper.wp QaN
     rw [Qg7 (m:=1) rfl (by omega) ((G sv 9 (by decide) (by decide)).trans f9) ((G sv 12 (by decide) (by decide)).trans f12) ,Oper.upon_value]
     exact ⟨_,rfl,Below.refl _ _,rfl⟩
   | 11,ho =>
     obtain rfl:QaL=o:=Option.some.inj ho
     cases hd
     have f8:sv 8=Value.slice (some ⟨g,o,none⟩) n n:=hf ⟨5,.data⟩ (by simp [QaL]) rfl _ 8 rfl rfl (NE _ (by decide))
     have f13:sv 13=Value.slice (some ⟨g,o,none⟩) 1 c:=hf ⟨10,.data⟩ (by simp [QaL]) rfl _ 13 rfl rfl (NE _ (by decide))
     refine Qaa (o:=QaL) rfl rfl ?_
     unfold Oper.wp QaL
     obtain ⟨c2,w2,hr,hb2,hB⟩:=Qlz (w:=w') ((G sv 8 (by decide) (by decide)).trans f8) ((G sv 13 (by decide) (by decide)).trans f13) hL hn h0 hm
     rw [hr,Oper.upon_value]
     exact ⟨_,rfl,hb2,_,_,rfl,fun _=>⟨_,rfl,Nat.le_trans hbs J0.size,hB⟩⟩
   | 12,ho =>
     obtain rfl:QaZ=o:=Option.some.inj ho
     cases hd
     have f:=hf ⟨11,.data⟩ (by simp [QaZ]) rfl _ 14 rfl rfl (NE _ (by decide))
     refine Qaa (o:=QaZ) rfl rfl ?_
     unfold Oper.wp QaZ
     rw [Qbb (G sv 14 (by decide) (by decide)),Oper.upon_value]
     exact ⟨_,rfl,Below.refl _ _,f⟩
   | i+13,ho=>cases ho
 · intro p hp os sv w' g hos J0 p1 p3 hf
   cases hp
 · intro sv w' J0 hF hB hap
   exact hend sv w'   (hF 12 _ 2 rfl rfl (NE _ (by decide))) J0
def Qmy (A:Option Addr) (c:Nat) (sl:Nat):Value→World→Prop :=
 match sl with
 | 3=>fun x _=>x=Value.slice A 0 c
 | 4=>fun x _=>x=Value.slice A 0 c
 | 5=>fun x _=>x=Value.int .i64 0
 | 6=>fun x _=>x=Value.slice A 0 c
 | 7=>fun x _=>x=Value.int .i64 0
 | 8=>fun x _=>x=Value.slice A 0 0
 | 9=>fun x _=>x=Value.slice A 0 c
 | 10=>fun x _=>x=Value.slice A 0 c
 | 11=>fun x _=>x=Value.int .i64 0
 | 12=>fun x _=>x=Value.int .i64 0
 | 13=>fun x _=>x=Value.slice A 0 c
 | 14=>fun x _=>x=Value.slice A 0 0
 | 2=>fun x _=>x=Value.slice A 0 0
 | _=>fun _ _=>True
theorem Qiw {id:Nat} {ac:Act} {Q:Exit→Act→World→Prop} {A:Option Addr} {c:Nat}
 (hsz:14 < ac.tmps.size) (e0:ac.eval (.tmp 0)=Value.slice A 0 c) 
 (hend:∀ (V:Nat→Value) (w':World),V 2=Value.slice A 0 0→Below w.heap.size w w'→Q .normal (Qal ac [3,4,5,6,7,8,9,10,11,12,13,14,2] V) w') :
 (Code.region id #[QbB,QbC,Qbg,QbH,Qba,QaK,QbF,Qby,Qbf,Qbc,QaN,QaL,QaZ] true).wp Tryz.prog Q ac w:=by
 have hnd:L_closedc.Nodup:=by decide
 have G:∀ (sv:Nat→Value) (t:Nat),t ∈ L_closedc→t≤14→(Qal ac L_closedc sv).eval (.tmp t)=sv t:=fun sv t ht h=>Qay (t:=t) L_closedc ac hnd ht (Nat.lt_of_le_of_lt h hsz)
 have E0:∀ sv:Nat→Value,(Qal ac L_closedc sv).eval (.tmp 0)=Value.slice A 0 c:=fun sv=>(Qap (v:=sv) L_closedc ac (show 0 ∉ _ by decide)).trans e0
 have NE:∀ t:Nat,(True)→∀ p ∈ ([]:List Qb1),t ≠ p.tA:=by
  intro t ht p hp
  cases hp
 refine QaB L_closedc ([]:List Qb1) (Qmy A c) (by kernel_rfl) (by kernel_rfl) rfl hnd ?_ ?_ ?_ ?_ ?_ ?_ ?_ ?_
 · intro p hp
   cases hp
 · intro p hp;cases hp
 · intro p hp;cases hp
 · intro i o h1 h2
   match i,h1 with
   | 0,h1=>cases h1;cases h2
   | 1,h1=>cases h1;cases h2
   | 2,h1=>cases h1;cases h2
   | 3,h1=>cases h1;cases h2
   | 4,h1=>cases h1;cases h2
   | 5,h1=>cases h1;cases h2
   | 6,h1=>cases h1;cases h2
   | 7,h1=>cases h1;cases h2
   | 8,h1=>cases h1;cases h2
   | 9,h1=>cases h1;cases h2
   | 10,h1=>cases h1;cases h2
   | 11,h1=>cases h1;cases h2
   | 12,h1=>cases h1;cases h2
   | i+13,h1=>cases h1
 · intro t
   unfold Qmy
   split <;> first | exact (Qbs _).inn _ | exact (QbL _ _).inn _ | exact (Qcb _ _).inn _ | exact (Qcc _ _).inn _ | exact (QbV _ _).inn _ | exact (QbQ _ _ _).inn _ | exact (QaV).inn _
 · intro i o t sv w' ho hia hd J0 hf
   match i,ho with
   | 0,ho =>
     obtain rfl:QbB=o:=Option.some.inj ho
     cases hd
     refine Qaa (o:=QbB) rfl rfl ?_
     unfold Oper.wp QbB
     rw [Qat (E0 sv),Oper.upon_value]
     exact ⟨_,rfl,Below.refl _ _,rfl⟩
   | 1,ho =>
     obtain rfl:QbC=o:=Option.some.inj ho
     cases hd
     refine Qaa (o:=QbC) rfl rfl ?_
     unfold Oper.wp QbC
     rw [Qat (E0 sv),Oper.upon_value]
     exact ⟨_,rfl,Below.refl _ _,rfl⟩
   | 2,ho =>
     obtain rfl:Qbg=o:=Option.some.inj ho
     cases hd
     have f4:sv 4=Value.slice A 0 c:=hf ⟨1,.data⟩ (by simp [Qbg]) rfl _ 4 rfl rfl (NE _ (by decide))
     refine Qaa (o:=Qbg) rfl rfl ?_
     unfold Oper.wp Qbg
     rw [QcO (n:=0) ((G sv 4 (by decide) (by decide)).trans f4) ,Oper.upon_value]
     exact ⟨_,rfl,Below.refl _ _,rfl⟩
   | 3,ho =>
     obtain rfl:QbH=o:=Option.some.inj ho
     cases hd
     refine Qaa (o:=QbH) rfl rfl ?_
     unfold Oper.wp QbH
     rw [Qat (E0 sv),Oper.upon_value]
     exact ⟨_,rfl,Below.refl _ _,rfl⟩
   | 4,ho =>
     obtain rfl:Qba=o:=Option.some.inj ho
     cases hd
     have f6:sv 6=Value.slice A 0 c:=hf ⟨3,.data⟩ (by simp [Qba]) rfl _ 6 rfl rfl (NE _ (by decide))
     refine Qaa (o:=Qba) rfl rfl ?_
     unfold Oper.wp Qba
     rw [QcO (n:=0) ((G sv 6 (by decide) (by decide)).trans f6) ,Oper.upon_value]
     exact ⟨_,rfl,Below.refl _ _,rfl⟩
   | 5,ho =>
     obtain rfl:QaK=o:=Option.some.inj ho
     cases hd
     have f3:sv 3=Value.slice A 0 c:=hf ⟨0,.data⟩ (by simp [QaK]) rfl _ 3 rfl rfl (NE _ (by decide))
     have f5:sv 5=Value.int .i64 0:=hf ⟨2,.data⟩ (by simp [QaK]) rfl _ 5 rfl rfl (NE _ (by decide))
     have f7:sv 7=Value.int .i64 0:=hf ⟨4,.data⟩ (by simp [QaK]) rfl _ 7 rfl rfl (NE _ (by decide))
     refine Qaa (o:=QaK) rfl rfl ?_
     unfold Oper.wp QaK
     rw [Qg8 (n:=0) ((G sv 3 (by decide) (by decide)).trans f3) ((G sv 5 (by decide) (by decide)).trans f5) ((G sv 7 (by decide) (by decide)).trans f7) (Nat.zero_le _),Oper.upon_value]
     exact ⟨_,rfl,Below.refl _ _,rfl⟩
   | 6,ho =>
     obtain rfl:QbF=o:=Option.some.inj ho
     cases hd
     refine Qaa (o:=QbF) rfl rfl ?_
     unfold Oper.wp QbF
     rw [Qat (E0 sv),Oper.upon_value]
     exact ⟨_,rfl,Below.refl _ _,rfl⟩
   | 7,ho =>
     obtain rfl:Qby=o:=Option.some.inj ho
     cases hd
     refine Qaa (o:=Qby) rfl rfl ?_
     unfold Oper.wp Qby
     rw [Qat (E0 sv),Oper.upon_value]
     exact ⟨_,rfl,Below.refl _ _,rfl⟩
   | 8,ho =>
     obtain rfl:Qbf=o:=Option.some.inj ho
     cases hd
     have f10:sv 10=Value.slice A 0 c:=hf ⟨7,.data⟩ (by simp [Qbf]) rfl _ 10 rfl rfl (NE _ (by decide))
     refine Qaa (o:=Qbf) rfl rfl ?_
     unfold Oper.wp Qbf
     rw [QcO (n:=0) ((G sv 10 (by decide) (by decide)).trans f10) ,Oper.upon_value]
     exact ⟨_,rfl,Below.refl _ _,rfl⟩
   | 9,ho =>
     obtain rfl:Qbc=o:=Option.some.inj ho
     cases hd
     have f11:sv 11=Value.int .i64 0:=hf ⟨8,.data⟩ (by simp [Qbc]) rfl _ 11 rfl rfl (NE _ (by decide))
     refine Qaa (o:=Qbc) rfl rfl ?_
     unfold Oper.wp Qbc
     rw [Qkd ((G sv 11 (by decide) (by decide)).trans f11) (show (Qal ac L_closedc sv).eval (.const (Value.int IntKind.i64 1))=(Value.int IntKind.i64 1) from rfl) ,Oper.upon_value]
     exact ⟨_,rfl,Below.refl _ _,rfl⟩
   | 10,ho =>
     obtain rfl:QaN=o:=Option.some.inj ho
     cases hd
     have f9:sv 9=Value.slice A 0 c:=hf ⟨6,.data⟩ (by simp [QaN]) rfl _ 9 rfl rfl (NE _ (by decide))
     have f12:sv 12=Value.int .i64 0:=hf ⟨9,.data⟩ (by simp [QaN]) rfl _ 12 rfl rfl (NE _ (by decide))
     refine Qaa (o:=QaN) rfl rfl ?_
     unfold Oper.wp QaN
     rw [Qg7 (m:=0) rfl (Nat.zero_le _) ((G sv 9 (by decide) (by decide)).trans f9) ((G sv 12 (by decide) (by decide)).trans f12) ,Oper.upon_value]
     exact ⟨_,rfl,Below.refl _ _,rfl⟩
   | 11,ho =>
     obtain rfl:QaL=o:=Option.some.inj ho
     cases hd
     have f8:sv 8=Value.slice A 0 0:=hf ⟨5,.data⟩ (by simp [QaL]) rfl _ 8 rfl rfl (NE _ (by decide))
     have f13:sv 13=Value.slice A 0 c:=hf ⟨10,.data⟩ (by simp [QaL]) rfl _ 13 rfl rfl (NE _ (by decide))
     refine Qaa (o:=QaL) rfl rfl ?_
     unfold Oper.wp QaL
     rw [Qlt ((G sv 8 (by decide) (by decide)).trans f8) ((G sv 13 (by decide) (by decide)).trans f13) ,Oper.upon_value]
     exact ⟨_,rfl,Below.refl _ _,rfl⟩
   | 12,ho =>
     obtain rfl:QaZ=o:=Option.some.inj ho
     cases hd
     have f:=hf ⟨11,.data⟩ (by simp [QaZ]) rfl _ 14 rfl rfl (NE _ (by decide))
     refine Qaa (o:=QaZ) rfl rfl ?_
     unfold Oper.wp QaZ
     rw [Qbb (G sv 14 (by decide) (by decide)),Oper.upon_value]
     exact ⟨_,rfl,Below.refl _ _,f⟩
   | i+13,ho=>cases ho
 · intro p hp os sv w' g hos J0 p1 p3 hf
   cases hp
 · intro sv w' J0 hF hB hap
   exact hend sv w'  (hF 12 _ 2 rfl rfl (NE _ (by decide)))  J0
theorem QoE {A:Option Addr} {n c base:Nat} {L:List CV} (hL:SV w A (cvs L)) (hn:L.length=n) (hm:n≤100000) (hnc:n≤c) (hbs:base≤w.heap.size) :
 Calls Tryz.prog 59 #[.slice A n c] w fun e w'=>∃ A' c',e=.returned (.slice A' (n+min 1 n) c')∧SNr 90 base n (cvs (L ++ L.take 1)) w' A'∧Below w.heap.size w w':=by
 rcases Nat.eq_zero_or_pos n with h0 | h0
 · subst h0
   go_enter Tryz.func59,Tryz.ntmps59
   go_upto_region 1 with (fail)
   refine Qiw (by simp) rfl ?_
   intro V w' hv hh
   simp only [Qal,Act.put,List.setIfInBounds_toArray,List.set_cons_zero,List.set_cons_succ,hv]
   go_wp2_with fail
   (try rw [Exit.noGoto_ret])
   go_ret
   exact ⟨_,_,rfl,fun h=>absurd h (by omega),hh⟩
 · obtain ⟨g,o,rfl,_,_⟩:=hL (by rw [show (cvs L).length=L.length*9 from Qaq QcU L,hn];omega)
   go_enter Tryz.func59,Tryz.ntmps59
   go_upto_region 1 with (fail)
   refine Qgy (by simp) rfl hL hn h0 hm hnc hbs ?_
   intro V w' hF hh
   obtain ⟨A',c',hv,hS⟩:=hF
   simp only [Qal,Act.put,List.setIfInBounds_toArray,List.set_cons_zero,List.set_cons_succ,hv]
   go_wp2_with fail
   (try rw [Exit.noGoto_ret])
   go_ret
   exact ⟨A',c',by rw [show n+min 1 n=n+1 by omega];rfl,hS,hh⟩
end
section
open Go Go.RowKit
def EachQ (w:World) (L:List QV) (l:List Rat) (k:Nat):Prop:=L.length=l.length∧∀ (i:Nat) (p:QV) (v:Rat),L[i]?=some p→l[i]?=some v→QG w p.s p.A p.n p.c p.B p.m p.d v k
section
variable {w w':World} {L:List QV} {l:List Rat} {k:Nat}
theorem EachQ.below (h:EachQ w L l k) (hb:Below w.heap.size w w'):EachQ w' L l k:=⟨h.1,fun i p v h1 h2=>(h.2 i p v h1 h2).below hb⟩
theorem EachQ.box {T:TypeId} {g:Nat} {cs:Array Value} (h:EachQ w L l k) (B:BoxAt T w g cs) (ho:Only g w w'):EachQ w' L l k:=⟨h.1,fun i p v h1 h2=>(h.2 i p v h1 h2).box B ho⟩
theorem EachQ.take (h:EachQ w L l k) (m:Nat):EachQ w (L.take m) (l.take m) k:=by
 refine ⟨by rw [List.length_take,List.length_take,h.1],fun i p v h1 h2=>?_⟩
 rw [List.getElem?_take] at h1 h2
 split at h1
 · rename_i q;rw [if_pos q] at h2;exact h.2 i p v h1 h2
 · cases h1
theorem EachQ.drop (h:EachQ w L l k) (m:Nat):EachQ w (L.drop m) (l.drop m) k:=by
 refine ⟨by rw [List.length_drop,List.length_drop,h.1],fun i p v h1 h2=>?_⟩
 rw [List.getElem?_drop] at h1 h2
 exact h.2 _ p v h1 h2
theorem EachQ.push {p:QV} {v:Rat} (h:EachQ w L l k) (hp:QG w p.s p.A p.n p.c p.B p.m p.d v k):EachQ w (L ++ [p]) (l ++ [v]) k:=by
 refine ⟨by rw [List.length_append,List.length_append,h.1];rfl,fun i q u h1 h2=>?_⟩
 rcases Nat.lt_or_ge i L.length with hi | hi
 · rw [List.getElem?_append_left hi] at h1
   rw [List.getElem?_append_left (by rw [← h.1];exact hi)] at h2
   exact h.2 i q u h1 h2
 · rw [List.getElem?_append_right hi] at h1
   rw [List.getElem?_append_right (by rw [← h.1];exact hi),← h.1] at h2
   obtain ⟨j,hj⟩:∃ j,i - L.length=j:=⟨_,rfl⟩
   rw [hj] at h1 h2
   match j,h1,h2 with
   | 0,h1,h2=>cases h1;cases h2;exact hp
   | j+1,h1,h2=>simp at h1
end
def QhL (l:List Rat):Rat:=l.foldr (·+·) 0
theorem Qf2 (l m:List Rat):QhL (l ++ m)=QhL l+QhL m:=by
 induction l with
 | nil=>rw [List.nil_append,show QhL []=0 from rfl,Rat.zero_add]
 | cons v l ih=>rw [List.cons_append,show QhL (v :: (l ++ m))=v+QhL (l ++ m) from rfl,show QhL (v :: l)=v+QhL l from rfl,ih,Rat.add_assoc]
theorem SV.take {A:Option Addr} {L:List QV} (h:SV w A (qvs L)) (m:Nat):SV w A (qvs (L.take m)):=fun hn=>by
 have e:qvs L=qvs (L.take m) ++ qvs (L.drop m):=by rw [← QgQ,List.take_append_drop]
 obtain ⟨g,o,e1,h1,h2⟩:=h (by rw [e,List.length_append];omega)
 refine ⟨g,o,e1,h1,fun j u hu=>h2 j u ?_⟩
 rw [e,List.getElem?_append_left (List.getElem?_eq_some_iff.1 hu).1];exact hu
theorem SV.drop {g o:Nat} {L:List QV} (h:SV w (some ⟨g,o,none⟩) (qvs L)) (m:Nat) (hm:m≤L.length):SV w (some ⟨g,o+m*3,none⟩) (qvs (L.drop m)):=fun hn=>by
 have e:qvs L=qvs (L.take m) ++ qvs (L.drop m):=by rw [← QgQ,List.take_append_drop]
 have hl:(qvs (L.take m)).length=m*3:=by rw [show (qvs (L.take m)).length=(L.take m).length*3 from Qaq Qdj _,List.length_take,Nat.min_eq_left hm]
 obtain ⟨g2,o2,e1,h1,h2⟩:=h (by rw [e,List.length_append];omega)
 cases e1
 refine ⟨_,_,rfl,h1,fun j u hu=>?_⟩
 rw [Nat.add_assoc]
 refine h2 (m*3+j) u ?_
 rw [e,List.getElem?_append_right (by omega),hl,Nat.add_sub_cancel_left];exact hu
theorem total_0 {A:Option Addr} {c:Nat}:Calls Tryz.prog 47 #[.slice A 0 c] w (QbI w 0 1):=by
 go_enter Tryz.func47,Tryz.ntmps47
 go_wp2_with fail
 generalize hW:World.alloc _ _=W
 obtain ⟨hb,Z,hzW⟩:=QaW hW;clear hW;have zf0:=Z.f0;have zf1:=Z.f1;have zf2:=Z.f2;obtain ⟨z0,z1,z2⟩:=Z.all
 go_wp2_with (first
  | (go_at_call 48;(with_reducible refine (rof_q 0 1 (by decide) (by decide) (by decide) (by decide) (by decide) _).mono ?_);rintro e w_r ⟨s_r,A_r,n_r,c_r,B_r,m_r,d_r,rfl,r,hh⟩
     replace Z:=Z.below hh;replace hb:=Qai hb hh;have zf0:=Z.f0;have zf1:=Z.f1;have zf2:=Z.f2;obtain ⟨z0,z1,z2⟩:=Z.all))
 rw [show Rat.divInt 0 1=0 from by decide +kernel] at r
 have Z2:=Z.set3 (.bool s_r) (.slice A_r n_r c_r) (.slice B_r m_r d_r)
 obtain ⟨g0,g1,g2⟩:=Z2.all
 refine bodyPost_ret (v:=.agg #[.bool s_r,.slice A_r n_r c_r,.slice B_r m_r d_r]) (by simp [results,Tryz.results47,go_sem,g0,g1,g2]) rfl ?_
 exact ⟨s_r,A_r,n_r,c_r,B_r,m_r,d_r,rfl,r.set3 Z _ _ _,Qak hb (Nat.le_refl _) _ _ _⟩
theorem Qq4 {A:Option Addr} {c k:Nat} {p:QV} {v:Rat} (h:SV w A (qvs [p])) (r:QG w p.s p.A p.n p.c p.B p.m p.d v k):Calls Tryz.prog 47 #[.slice A 1 c] w (QbI w v k):=by
 obtain ⟨g,o,hix0,E,_⟩:=h.qt (i:=0) (p:=p) rfl
 obtain ⟨s_r,A_r,n_r,c_r,B_r,m_r,d_r⟩:=p
 have hix:=hix0 1 c
 simp only [Nat.lt_one_iff,forall_const] at hix
 replace hix:∀ w',(Instr.indexAt 77 (.slice A 1 c) (.int .i64 0)).run Tryz.prog w'=.ok (.pointer (some ⟨g,o,none⟩)) w':=fun w'=>hix0 1 c w' (by omega)
 clear hix0 h
 go_enter Tryz.func47,Tryz.ntmps47
 go_upto_region 1 with (fail)
 generalize hW:World.alloc _ _=W
 obtain ⟨hb,Z,hzW⟩:=QaW hW;clear hW;replace r:=r.below hb;replace E:=E.below hb;have zf0:=Z.f0;have zf1:=Z.f1;have zf2:=Z.f2;obtain ⟨z0,z1,z2⟩:=Z.all;obtain ⟨e0,e1,e2⟩:=E.all
 simp only at e0 e1 e2
 go_wp2_with fail
 have Z2:=Z.set3 (.bool s_r) (.slice A_r n_r c_r) (.slice B_r m_r d_r)
 obtain ⟨g0,g1,g2⟩:=Z2.all
 refine bodyPost_ret (v:=.agg #[.bool s_r,.slice A_r n_r c_r,.slice B_r m_r d_r]) (by simp [results,Tryz.results47,go_sem,g0,g1,g2]) rfl ?_
 exact ⟨s_r,A_r,n_r,c_r,B_r,m_r,d_r,rfl,r.set3 Z _ _ _,Qak hb (Nat.le_refl _) _ _ _⟩
theorem Qrx (n:Nat):∀ {w:World} {A:Option Addr} {c k:Nat} {L:List QV} {l:List Rat},SV w A (qvs L)→EachQ w L l k→L.length=n→1≤n→n≤c→n≤100000→1≤k→n*(k+2)≤400→Calls Tryz.prog 47 #[.slice A n c] w (QbI w (QhL l) (n*(k+2) - 1)):=by
 induction n using Nat.strongRecOn with
 | ind n ih =>
   intro w A c k L l hS hE hn h1 hc h63 hk hB
   rcases Nat.lt_or_ge 1 n with h2 | h2
   · obtain ⟨h,hh⟩:∃ h,n / 2=h:=⟨_,rfl⟩
     have b1:1≤h:=by omega
     have b2:h < n:=by omega
     have hm1:(h+(n - h))*(k+2)=h*(k+2)+(n - h)*(k+2):=Nat.add_mul _ _ _
     rw [show h+(n - h)=n by omega] at hm1
     have hp1:=Nat.mul_le_mul b1 (Nat.le_refl (k+2))
     have hp2:=Nat.mul_le_mul (show 1≤n - h by omega) (Nat.le_refl (k+2))
     obtain ⟨g,o,rfl,_,_⟩:=hS (by rw [show (qvs L).length=L.length*3 from Qaq Qdj L];omega)
     have i1:=fun (w':World) (hb:Below w.heap.size w w')=>ih h (by omega) ((hS.below hb).take h) ((hE.below hb).take h) (by rw [List.length_take];omega) b1 (show h≤c by omega) (by omega) hk (by omega)
     have i2:=fun (w':World) (hb:Below w.heap.size w w')=>ih (n - h) (by omega) ((hS.below hb).drop h (by omega)) ((hE.below hb).drop h) (by rw [List.length_drop];omega) (by omega) (show n - h≤c - h by omega) (by omega) hk (by omega)
     obtain ⟨k1,e1⟩:∃ k1,h*(k+2) - 1=k1:=⟨_,rfl⟩
     obtain ⟨k2,e2⟩:∃ k2,(n - h)*(k+2) - 1=k2:=⟨_,rfl⟩
     rw [show n*(k+2) - 1=k1+k2+1 by omega,show QhL l=QhL (l.take h)+QhL (l.drop h) by rw [← Qf2,List.take_append_drop]]
     rw [e1] at i1;rw [e2] at i2;have I1:=Lib.hid i1;have I2:=Lib.hid i2
     have l1:k1≤400:=by omega
     have l2:k2≤400:=by omega
     have l3:1≤k1:=by omega
     have l4:1≤k2:=by omega
     have h0:¬ n=0:=by omega
     have h3:¬ n=1:=by omega
     have h4:(h:Int)≤(c:Int):=by omega
     have h5:¬ c=h:=by omega
     have h7:(h:Int)≤(n:Int):=by omega
     have h8:(n:Int)≤(c:Int):=by omega
     have h6:((n:Int)).tdiv 2=(h:Int):=by rw [Int.tdiv_eq_ediv_of_nonneg (by omega)];omega
     clear hm1 hp1 hp2 i1 i2 e1 e2 hS hE ih hB
     go_enter Tryz.func47,Tryz.ntmps47
     go_wp2_with fail
     generalize hW:World.alloc _ _=W
     obtain ⟨hb,Z,hzW⟩:=QaW hW;clear hW;have zf0:=Z.f0;have zf1:=Z.f1;have zf2:=Z.f2;obtain ⟨z0,z1,z2⟩:=Z.all
     go_upto_region 7 with (fail)
     replace Z:=Z.below (Below.refl _ _).drew
     replace hb:=hb.drew;have zf0:=Z.f0;have zf1:=Z.f1;have zf2:=Z.f2;obtain ⟨z0,z1,z2⟩:=Z.all
     go_region_held3 (fun _=>True)
      (first | exact trivial)
      (first
      | (go_at_call 47;(with_reducible refine (I1.out _ hb).mono ?_);rintro e w_x ⟨s_x,A_x,n_x,c_x,B_x,m_x,d_x,rfl,x,hh⟩
         (try replace Z:=Z.below hh);(try replace y:=y.below hh);replace hb:=Qai hb hh;have zf0:=Z.f0;have zf1:=Z.f1;have zf2:=Z.f2;obtain ⟨z0,z1,z2⟩:=Z.all)
      | (go_at_call 47;(with_reducible refine (I2.out _ hb).mono ?_);rintro e w_y ⟨s_y,A_y,n_y,c_y,B_y,m_y,d_y,rfl,y,hh⟩
         (try replace Z:=Z.below hh);(try replace x:=x.below hh);replace hb:=Qai hb hh;have zf0:=Z.f0;have zf1:=Z.f1;have zf2:=Z.f2;obtain ⟨z0,z1,z2⟩:=Z.all)
      | (go_at_call 25;(with_reducible refine (QkC x.qr y.qr l1 l2 (.inl l1) l3 l4).mono ?_);rintro e w_r ⟨s_r,A_r,n_r,c_r,B_r,m_r,d_r,rfl,r,hh⟩
         (try replace Z:=Z.below hh);replace hb:=Qai hb hh;have zf0:=Z.f0;have zf1:=Z.f1;have zf2:=Z.f2;obtain ⟨z0,z1,z2⟩:=Z.all))
     go_wp2_with fail
     have Z2:=Z.set3 (.bool s_r) (.slice A_r n_r c_r) (.slice B_r m_r d_r)
     obtain ⟨g0,g1,g2⟩:=Z2.all
     refine bodyPost_ret (v:=.agg #[.bool s_r,.slice A_r n_r c_r,.slice B_r m_r d_r]) (by simp [results,Tryz.results47,go_sem,g0,g1,g2]) rfl ?_
     exact ⟨s_r,A_r,n_r,c_r,B_r,m_r,d_r,rfl,r.set3 Z _ _ _,Qak hb (Nat.le_refl _) _ _ _⟩
   · obtain rfl:n=1:=by omega
     have hl:=hE.1
     match L,l,hn,hl with
     | [p],[v],_,_ =>
       have r:=hE.2 0 p v rfl rfl
       rw [show QhL [v]=v from Rat.add_zero v]
       refine (Qq4 hS r).mono ?_
       rintro e w' ⟨s_r,A_r,n_r,c_r,B_r,m_r,d_r,e1,r2,hh⟩
       exact ⟨s_r,A_r,n_r,c_r,B_r,m_r,d_r,e1,r2.more (by omega),hh⟩
end
section
open Go Go.RowKit
theorem BoxAt.setq {T:TypeId} {g m:Nat} {M:List QV} (h:BoxAt T w g (qvs M).toArray) (hm:m < M.length) (q:QV) :
 BoxAt T (((w.setCell ⟨g,m*3,none⟩ (.bool q.s)).setCell ⟨g,m*3+1,none⟩ (.slice q.A q.n q.c)).setCell ⟨g,m*3+2,none⟩ (.slice q.B q.m q.d)) g (qvs (M.set m q)).toArray:=by
 refine ⟨?_,QcT (QhI _)⟩
 have h0:=h.at_
 have e:((((qvs M).toArray.setIfInBounds (m*3) (.bool q.s)).setIfInBounds (m*3+1) (.slice q.A q.n q.c)).setIfInBounds (m*3+2) (.slice q.B q.m q.d))=(qvs (M.set m q)).toArray:=by
  apply Array.ext'
  simp only [List.setIfInBounds_toArray,List.toList_toArray]
  apply List.ext_getElem?
  intro j
  have hl:(qvs M).length=M.length*3:=Qaq Qdj M
  have:=Qhz Qdj hm q j
  rw [show (qvs (M.set m q))[j]?=_ from this]
  simp only [List.getElem?_set,List.length_set,hl]
  by_cases h0:j=m*3
  · subst h0;rw [if_neg (by omega),if_neg (by omega),if_pos rfl,if_pos (by omega),if_pos (by omega),Nat.sub_self];rfl
  · by_cases h1:j=m*3+1
    · subst h1;rw [if_neg (by omega),if_pos rfl,if_pos (by omega),if_pos (by omega),Nat.add_sub_cancel_left];rfl
    · by_cases h2:j=m*3+2
      · subst h2;rw [if_pos rfl,if_pos (by omega),if_pos (by omega),Nat.add_sub_cancel_left];rfl
      · rw [if_neg (by omega),if_neg (by omega),if_neg (by omega),if_neg (by omega)];rfl
 have e2:=congrArg Array.toList e
 simp only [List.setIfInBounds_toArray,List.toList_toArray] at e2
 simp [World.setCell,Array.getElem?_modify,h0,e2]
theorem Qmp {A:Option Addr} {n c k:Nat} {L:List QV} {l:List Rat} (hS:SV w A (qvs L)) (hE:EachQ w L l k) (hn:L.length=n) (hc:n≤c) (h63:n≤100000) (hk:1≤k) (hB:n*(k+2)≤400):Calls Tryz.prog 47 #[.slice A n c] w (QbI w (QhL l) (n*(k+2)+1)):=by
 rcases Nat.eq_zero_or_pos n with h0 | h0
 · subst h0
   have:l=[]:=List.eq_nil_of_length_eq_zero (by rw [← hE.1,hn])
   subst this
   refine total_0.mono ?_
   rintro e w' ⟨s_r,A_r,n_r,c_r,B_r,m_r,d_r,e1,r2,hh⟩
   exact ⟨s_r,A_r,n_r,c_r,B_r,m_r,d_r,e1,r2.more (by omega),hh⟩
 · refine (Qrx n hS hE hn h0 hc h63 hk hB).mono ?_
   rintro e w' ⟨s_r,A_r,n_r,c_r,B_r,m_r,d_r,e1,r2,hh⟩
   exact ⟨s_r,A_r,n_r,c_r,B_r,m_r,d_r,e1,r2.more (by omega),hh⟩
theorem onlyq (w:World) (g o:Nat) (a b c:Value):Only g w (((w.setCell ⟨g,o,none⟩ a).setCell ⟨g,o+1,none⟩ b).setCell ⟨g,o+2,none⟩ c):=(((Only.refl g w).setCell o a).setCell (o+1) b).setCell (o+2) c
theorem BoxAt.frz {T:TypeId} {g j:Nat} {cs:Array Value} (h:BoxAt T w g cs):w.frozen? ⟨g,j,none⟩=false:=frozen_of_row w g j _ _ h.at_
theorem Qhn {α:Type} {M:List α} {m:Nat} (hm:m < M.length) (q:α):(M.set m q).take (m+1)=M.take m ++ [q]:=by
 rw [List.take_succ_eq_append_getElem (by rw [List.length_set];exact hm),List.getElem_set_self,List.take_set_of_le (Nat.le_refl _)]
theorem SNr.box {T T':TypeId} {base n k:Nat} {vs:List Value} {w w':World} {A:Option Addr} {cs:Array Value} (h:SNr T base n vs w A) (hB:BoxAt T' w k cs) (hne:T ≠ T' ∨ cs.size < vs.length) (ho:Only k w w'):SNr T base n vs w' A:=fun hn=>by
 obtain ⟨g,e,h1,h2⟩:=h hn
 obtain ⟨cs2,h3,h4,_⟩:=id h2
 exact ⟨g,e,h1,h2.rest (BoxAt.ne h3 hB (hne.imp id (fun q=>by omega))) ho⟩
theorem Qa8 (W:World) (g k o p:Nat) (x y z:Value) (h:k ≠ g):(((W.setCell ⟨g,o,none⟩ x).setCell ⟨g,o+1,none⟩ y).setCell ⟨g,o+2,none⟩ z).cell? ⟨k,p,none⟩=W.cell? ⟨k,p,none⟩:=by
 rw [World.cell?_of_block (Below.heap_setCell _ _ _ _ h),World.cell?_of_block (Below.heap_setCell _ _ _ _ h),World.cell?_of_block (Below.heap_setCell _ _ _ _ h)]
def Qas {α:Type} (l:List α):List α:=l ++ l.take 1
theorem QbM {α:Type} (l:List α) (h:0 < l.length):(Qas l).length=l.length+1:=by unfold Qas;rw [List.length_append,List.length_take];omega
theorem QcE {α:Type} {l:List α} {i:Nat} (h:i < l.length):(Qas l)[i]?=l[i]?:=by unfold Qas;rw [List.getElem?_append_left h]
theorem Each.ring {G:World→PV→Rat × Rat→Nat→Prop} {L:List PV} {l:List (Rat × Rat)} {k:Nat} (h:Each G w L l k):Each G w (Qas L) (Qas l) k:=by
 refine ⟨by unfold Qas;rw [List.length_append,List.length_append,List.length_take,List.length_take,h.1],fun i p u hp hu=>?_⟩
 unfold Qas at hp hu
 rcases Nat.lt_or_ge i L.length with hi | hi
 · rw [List.getElem?_append_left hi] at hp
   rw [List.getElem?_append_left (by rw [← h.1];exact hi)] at hu
   exact h.2 i p u hp hu
 · rw [List.getElem?_append_right hi] at hp
   rw [List.getElem?_append_right (by rw [← h.1];exact hi),← h.1] at hu
   rw [List.getElem?_take] at hp hu
   split at hp
   · rename_i q;rw [if_pos q] at hu;exact h.2 _ p u hp hu
   · cases hp
def Qky (u v:Rat × Rat):Rat:=u.1*v.2 - u.2*v.1
def QcW (l:List (Rat × Rat)):List Rat:=List.zipWith Qky (Qas l) (Qas l).tail
theorem Qg1 {l:List (Rat × Rat)} {i:Nat} {u v:Rat × Rat} (hu:(Qas l)[i]?=some u) (hv:(Qas l)[i+1]?=some v):(QcW l)[i]?=some (Qky u v):=by
 unfold QcW
 rw [List.getElem?_zipWith,hu,List.getElem?_tail,hv]
theorem QdV (l:List (Rat × Rat)):(QcW l).length=l.length:=by
 unfold QcW
 rw [List.length_zipWith,List.length_tail]
 rcases Nat.eq_zero_or_pos l.length with h | h
 · rw [List.length_eq_zero_iff] at h;subst h;rfl
 · rw [QbM l h];omega
theorem QfJ {α:Type} {l:List α} {m:Nat} {u:α} (h:l[m]?=some u):l.take (m+1)=l.take m ++ [u]:=by
 obtain ⟨hm,hv⟩:=List.getElem?_eq_some_iff.1 h
 rw [List.take_succ_eq_append_getElem hm,hv]
theorem BoxAt.q3 {T:TypeId} {g m:Nat} {M:List QV} {p:QV} (h:BoxAt T w g (qvs M).toArray) (hp:M[m]?=some p):E3x w g (m*3) p:=by
 have key:∀ j,j < 3→∀ u,p.cells[j]?=some u→w.cell? ⟨g,m*3+j,none⟩=some u:=fun j hj u hu=>by
  rw [cell_of_row w g (m*3+j) _ _ (0,0) h.at_,← hu,← QbK Qdj hp hj];simp [qvs]
 exact ⟨h.lt,key 0 (by decide) _ rfl,key 1 (by decide) _ rfl,key 2 (by decide) _ rfl⟩
def Qhu (l:List (Rat × Rat)):Rat:=QhL (QcW l)*Rat.divInt 1 2
abbrev L_area1:List Nat:=[7,8,9,10,11,3,4]
def Qe1:Oper:=⟨some 7,.move (.tmp 0),22, "area.go:14",#[],none⟩
def Qez:Oper:=⟨some 8,.call ⟨.value (.func 44),#[.tmp 7],#[22]⟩,22, "area.go:14",#[⟨0,.data⟩],none⟩
def Qfn:Oper:=⟨some 9,.move (.tmp 0),22, "area.go:14",#[],none⟩
def Qd7:Oper:=⟨some 10,.call ⟨.builtin Builtin.len,#[.tmp 9],#[22]⟩,3, "area.go:14",#[⟨2,.data⟩],none⟩
def Qd2:Oper:=⟨some 11,.makeSlice 77 (.tmp 10) (.tmp 10),77, "area.go:14",#[⟨3,.data⟩,⟨3,.data⟩],none⟩
def Qeg:Oper:=⟨some 3,.assign (.tmp 8),22, "area.go:14",#[⟨1,.data⟩,⟨1,.chain⟩,⟨0,.phase⟩,⟨1,.phase⟩,⟨2,.textOnly .lateStores⟩,⟨3,.textOnly .lateStoresUnsure⟩,⟨4,.textOnly .lateStoresUnsure⟩],none⟩
def Qd1:Oper:=⟨some 4,.assign (.tmp 11),77, "area.go:14",#[⟨4,.data⟩,⟨5,.chain⟩,⟨0,.phase⟩,⟨1,.phase⟩,⟨2,.phase⟩,⟨3,.phase⟩,⟨4,.phase⟩,⟨5,.phase⟩],none⟩
theorem QaU {e:Operand→Value} {x0:Operand} {d:Option Tmp} {y:Nat} {pos:String} {af:Array Edge} {u0:Value} (h0:e x0=u0) (hf:e (.func 44)=.func (.func 44) #[] #[]) :
 (execOp e ⟨d,.call ⟨.value (.func 44),#[x0],#[22]⟩,y,pos,af,none⟩).run Tryz.prog w=.ok (.enter 44 #[u0]) w:=by
 go_simp
def Qm8 (A:Option Addr) (n:Nat) (c:Nat) (base:Nat) (L:List PV) (sl:Nat):Value→World→Prop :=
 match sl with
 | 7=>fun x _=>x=Value.slice A n c
 | 8=>VSB (29) (base) (n) (n+min 1 n) (pvs (L ++ L.take 1))
 | 9=>fun x _=>x=Value.slice A n c
 | 10=>fun x _=>x=Value.int .i64 (n:Int)
 | 11=>VMK (27) ((qvs (List.replicate n zqv)).toArray) (n) (base)
 | 3=>VSB (29) (base) (n) (n+min 1 n) (pvs (L ++ L.take 1))
 | 4=>VMK (27) ((qvs (List.replicate n zqv)).toArray) (n) (base)
 | _=>fun _ _=>True
theorem QiE {id:Nat} {ac:Act} {Q:Exit→Act→World→Prop} {A:Option Addr} {n c base:Nat} {L:List PV}
 (hsz:11 < ac.tmps.size) (e0:ac.eval (.tmp 0)=Value.slice A n c) (hL:SV w A (pvs L)) (hn:L.length=n) (hm:n≤100000) (hnc:n≤c) (hbs:base≤w.heap.size)
 (hend:∀ (V:Nat→Value) (w':World),(VSB (29) (base) (n) (n+min 1 n) (pvs (L ++ L.take 1))) (V 3) w'→(VMK (27) ((qvs (List.replicate n zqv)).toArray) (n) (base)) (V 4) w'→Below w.heap.size w w'→Q .normal (Qal ac [7,8,9,10,11,3,4] V) w') :
 (Code.region id #[Qe1,Qez,Qfn,Qd7,Qd2,Qeg,Qd1] true).wp Tryz.prog Q ac w:=by
 have hnd:L_area1.Nodup:=by decide
 have G:∀ (sv:Nat→Value) (t:Nat),t ∈ L_area1→t≤11→(Qal ac L_area1 sv).eval (.tmp t)=sv t:=fun sv t ht h=>Qay (t:=t) L_area1 ac hnd ht (Nat.lt_of_le_of_lt h hsz)
 have E0:∀ sv:Nat→Value,(Qal ac L_area1 sv).eval (.tmp 0)=Value.slice A n c:=fun sv=>(Qap (v:=sv) L_area1 ac (show 0 ∉ _ by decide)).trans e0
 have NE:∀ t:Nat,(True)→∀ p ∈ ([]:List Qb1),t ≠ p.tA:=by
  intro t ht p hp
  cases hp
 refine QaB L_area1 ([]:List Qb1) (Qm8 A n c base L) (by kernel_rfl) (by kernel_rfl) rfl hnd ?_ ?_ ?_ ?_ ?_ ?_ ?_ ?_
 · intro p hp
   cases hp
 · intro p hp;cases hp
 · intro p hp;cases hp
 · intro i o h1 h2
   match i,h1 with
   | 0,h1=>cases h1;cases h2
   | 1,h1=>cases h1;cases h2
   | 2,h1=>cases h1;cases h2
   | 3,h1=>cases h1;cases h2
   | 4,h1=>cases h1;cases h2
   | 5,h1=>cases h1;cases h2
   | 6,h1=>cases h1;cases h2
   | i+7,h1=>cases h1
 · intro t
   unfold Qm8
   split <;> first | exact (Qbs _).inn _ | exact (QbL _ _).inn _ | exact (Qcb _ _).inn _ | exact (Qcc _ _).inn _ | exact (QbV _ _).inn _ | exact (QbQ _ _ _).inn _ | exact (QaV).inn _ | exact Qfi _ _ _ _ _ _ (fun p hp=>by cases hp) | exact QhN _ _ _ _ _ (fun p hp=>by cases hp)
 · intro i o t sv w' ho hia hd J0 hf
   have hL:=hL.below J0
   match i,ho with
   | 0,ho =>
     obtain rfl:Qe1=o:=Option.some.inj ho
     cases hd
     refine Qaa (o:=Qe1) rfl rfl ?_
     unfold Oper.wp Qe1
     rw [Qat (E0 sv),Oper.upon_value]
     exact ⟨_,rfl,Below.refl _ _,rfl⟩
   | 1,ho =>
     obtain rfl:Qez=o:=Option.some.inj ho
     cases hd
     have f7:sv 7=Value.slice A n c:=hf ⟨0,.data⟩ (by simp [Qez]) rfl _ 7 rfl rfl (NE _ (by decide))
     refine Qaa (o:=Qez) rfl rfl ?_
     unfold Oper.wp Qez
     rw [QaU ((G sv 7 (by decide) (by decide)).trans f7) rfl,Oper.upon_enter]
     refine (Qe5 hL hn hm hnc (Nat.le_trans hbs J0.size)).mono ?_
     rintro e w1 ⟨A_,c_,rfl,hq,hh⟩
     exact ⟨_,rfl,hh,A_,c_,rfl,hq⟩
   | 2,ho =>
     obtain rfl:Qfn=o:=Option.some.inj ho
     cases hd
     refine Qaa (o:=Qfn) rfl rfl ?_
     unfold Oper.wp Qfn
     rw [Qat (E0 sv),Oper.upon_value]
     exact ⟨_,rfl,Below.refl _ _,rfl⟩
   | 3,ho =>
     obtain rfl:Qd7=o:=Option.some.inj ho
     cases hd
     have f9:sv 9=Value.slice A n c:=hf ⟨2,.data⟩ (by simp [Qd7]) rfl _ 9 rfl rfl (NE _ (by decide))
     refine Qaa (o:=Qd7) rfl rfl ?_
     unfold Oper.wp Qd7
     rw [QbJ ((G sv 9 (by decide) (by decide)).trans f9) ,Oper.upon_value]
     exact ⟨_,rfl,Below.refl _ _,rfl⟩
   | 4,ho =>
     obtain rfl:Qd2=o:=Option.some.inj ho
     cases hd
     have f10:sv 10=Value.int .i64 (n:Int):=hf ⟨3,.data⟩ (by simp [Qd2]) rfl _ 10 rfl rfl (NE _ (by decide))
     refine Qaa (o:=Qd2) rfl rfl ?_
     unfold Oper.wp Qd2
     rw [Qk7 ((G sv 10 (by decide) (by decide)).trans f10) ((G sv 10 (by decide) (by decide)).trans f10) hm,Oper.upon_value]
     exact ⟨_,rfl,(Below.refl _ _).alloc (Nat.le_refl _) _,_,rfl,made_q w' n base (Nat.le_trans hbs J0.size)⟩
   | 5,ho =>
     obtain rfl:Qeg=o:=Option.some.inj ho
     cases hd
     have f:=hf ⟨1,.data⟩ (by simp [Qeg]) rfl _ 8 rfl rfl (NE _ (by decide))
     refine Qaa (o:=Qeg) rfl rfl ?_
     unfold Oper.wp Qeg
     rw [Qbb (G sv 8 (by decide) (by decide)),Oper.upon_value]
     exact ⟨_,rfl,Below.refl _ _,f⟩
   | 6,ho =>
     obtain rfl:Qd1=o:=Option.some.inj ho
     cases hd
     have f:=hf ⟨4,.data⟩ (by simp [Qd1]) rfl _ 11 rfl rfl (NE _ (by decide))
     refine Qaa (o:=Qd1) rfl rfl ?_
     unfold Oper.wp Qd1
     rw [Qbb (G sv 11 (by decide) (by decide)),Oper.upon_value]
     exact ⟨_,rfl,Below.refl _ _,f⟩
   | i+7,ho=>cases ho
 · intro p hp os sv w' g hos J0 p1 p3 hf
   cases hp
 · intro sv w' J0 hF hB hap
   exact hend sv w'   (hF 5 _ 3 rfl rfl (NE _ (by decide))) (hF 6 _ 4 rfl rfl (NE _ (by decide))) J0
theorem QkJ {A:Option Addr} {n c k:Nat} {L:List PV} {l:List (Rat × Rat)} (hL:SV w A (pvs L)) (hE:Each PV.PR w L l k) (hn:L.length=n) (hm:n≤1000) (hnc:n≤c) (h1:1≤k) (hk:k+k≤200) (hB:n*(k+k+(k+k)+1+2)+2≤400) :
 Calls Tryz.prog 14 #[.slice A n c] w (QbI w (Qhu l) (n*(k+k+(k+k)+1+2)+1+1)):=by
 have HN:=Lib.hid hn;have HB:=Lib.hid hB;have HL00:=Lib.hid hL;have E00:=Lib.hid hE;clear hB
 go_enter Tryz.func14,Tryz.ntmps14
 go_upto_region 1 with (fail)
 generalize hW:World.alloc _ _=W
 obtain ⟨hb,Z,hzW⟩:=QaW hW;clear hW;replace hL:=hL.below hb
 replace hE:=hE.imp (fun p u h=>PR.below h hb)
 refine QiE (by simp) rfl hL hn (by omega) hnc (Nat.le_refl _) ?_
 intro V w1 hF3 hF4 hh
 obtain ⟨A1,c1,hv3,hR0⟩:=hF3
 obtain ⟨gP,hv4,hgP,hP0⟩:=hF4
 simp only [Qal,Act.put,List.setIfInBounds_toArray,List.set_cons_zero,List.set_cons_succ,hv3,hv4]
 clear hv3 hv4;replace hL:=hL.below hh
 replace hE:=hE.imp (fun p u h=>PR.below h hh)
 replace Z:=Z.below hh;replace hb:=Qai hb hh
 have hgZ:w.heap.size < gP:=by omega
 rw [show n+min 1 n=(Qas L).length by unfold Qas;rw [List.length_append,List.length_take,hn,Nat.min_comm]]
 have HR1:Hid ((Qas L).length=n+min 1 n):=by show _=_;unfold Qas;rw [List.length_append,List.length_take,hn,Nat.min_comm]
 generalize hN1:(Qas L).length=N1 at HR1 ⊢
 have HR2:=Lib.hid hN1
 have HL0:Hid (SV w A (pvs L)):=HL00
 have E0:Hid (Each PV.PR w L l k):=E00
 clear hN1 hL hE
 go_wp2_with fail
 go_loopg [14] n (fun gk ix wr=>∃ (M:List QV) (m:Nat),Hid (gk+m=n)∧ix=.int .i64 (m:Int)∧Hid (M.length=n)∧BoxAt 27 wr gP (qvs M).toArray∧Hid (EachQ wr (M.take m) ((QcW l).take m) (k+k+(k+k)+1))∧SNr 29 W.heap.size n (pvs (Qas L)) wr A1∧B3 wr w.heap.size (.bool false) (.slice none 0 0) (.slice none 0 0)∧Below w.heap.size w wr)
 case atStart=>exact ⟨List.replicate n zqv,0,Nat.add_zero _,rfl,by show _=_;rw [List.length_replicate],hP0,⟨rfl,fun i p v h=>by cases h⟩,hR0,Z,hb⟩
 case round =>
  clear hP0 hR0
  obtain ⟨M,m,HG,rfl,HM,hP,HQ,hR,Z,hb⟩:=hrel
  by_cases hmn:m < n
  · have hmn':m < M.length:=by rw [HM.out];exact hmn
    obtain ⟨pm,hpm⟩:∃ pm,M[m]?=some pm:=⟨_,List.getElem?_eq_getElem hmn'⟩
    have HPM:=Lib.hid hpm
    have HL1:=Lib.hid hmn'
    have hixq:=idx_q (g:=gP) (n:=n) (c:=n) hmn
    obtain ⟨P,u,hP1,hu1,p⟩:=(E0.out.imp (fun p u h=>PR.below h hb)).at_ (i:=m) (by rw [HN.out];exact hmn)
    obtain ⟨Q,v,hP2,hu2,q⟩:=(E0.out.imp (fun p u h=>PR.below h hb)).ring.at_ (i:=m+1) (by have h:=HR1.out;have h2:=HR2.out;rw [h2,h];omega)
    have hv1:(Qas l)[m]?=some u:=by rw [QcE (by rw [← E0.out.1,HN.out];exact hmn)];exact hu1
    obtain ⟨g0,o0,hix0,E,_⟩:=(HL0.out.below hb).pt hP1
    obtain ⟨g1,o1,hix1,E',o1_,hA1⟩:=(hR.sv (by omega)).pt hP2
    have hixa:∀ w',(Instr.indexAt 22 (.slice A n c) (.int .i64 (m:Int))).run Tryz.prog w'=.ok (.pointer (some ⟨g0,o0,none⟩)) w':=fun w'=>hix0 n c w' hmn
    have hixb:∀ w',(Instr.indexAt 22 (.slice A1 N1 c1) (.int .i64 ((m:Int)+1))).run Tryz.prog w'=.ok (.pointer (some ⟨g1,o1,none⟩)) w':=fun w'=>hix1 N1 c1 w' (by have:=HR1.out;omega)
    have hwr:IntKind.i64.wrap ((m:Int)+1)=(m:Int)+1:=IntWalk.i64_in _ (by omega)
    have hlt:(m:Int) < (n:Int):=by omega
    have HU:=Lib.hid hv1;have HV:=Lib.hid hu2
    obtain ⟨ux,uy⟩:=u
    obtain ⟨vx,vy⟩:=v
    obtain ⟨s_p,A_p,n_p,c_p,B_p,m_p,d_p,t_p,E_p,i_p,e_p,F_p,j_p,f_p⟩:=P
    obtain ⟨s_q,A_q,n_q,c_q,B_q,m_q,d_q,t_q,E_q,i_q,e_q,F_q,j_q,f_q⟩:=Q
    replace p:PR wr s_p A_p n_p c_p B_p m_p d_p t_p E_p i_p e_p F_p j_p f_p ux uy k:=p
    replace q:PR wr s_q A_q n_q c_q B_q m_q d_q t_q E_q i_q e_q F_q j_q f_q vx vy k:=q
    have hgg:g1 ≠ gP:=by
     obtain ⟨g2,e2,_,cs2,h3,_⟩:=hR (by omega)
     rw [hA1] at e2
     cases e2
     exact BoxAt.ne h3 hP (.inl (by decide))
    obtain ⟨e0,e1,e2,e3,e4,e5⟩:=E.all
    simp only at e0 e1 e2 e3 e4 e5
    clear hpm hP1 hP2 hu1 hu2 hix0 hix1 hA1 hv1 hmn' hmn
    go_upto_region 5 with (fail)
    replace HQ:=HQ.out
    have hx1:wr.heap.size ≠ gP:=by have:=hP.lt;omega
    generalize hW:World.alloc _ _=W2
    obtain ⟨hh,X,hzW2⟩:=Qaw hW;clear hW;(try replace p:=p.below hh);(try replace q:=q.below hh);(try replace hP:=hP.below hh);(try replace HQ:=HQ.below hh);(try replace hR:=hR.below hh);(try replace Z:=Z.below hh)
    try replace E':=E'.below hh
    replace hb:=Qai hb hh
    replace p:=p.below (Below.refl _ _).drew
    replace q:=q.below (Below.refl _ _).drew
    replace hP:=hP.below (Below.refl _ _).drew
    replace HQ:=HQ.below (Below.refl _ _).drew
    replace hR:=hR.below (Below.refl _ _).drew
    replace Z:=Z.below (Below.refl _ _).drew
    replace E':=E'.below (Below.refl _ _).drew
    replace X:=X.below (Below.refl _ _).drew
    replace hb:=hb.drew
    have hx2:g1 ≠ gP:=hgg
    go_region_held3 (fun w'=>w'.cell? ⟨wr.heap.size,0,none⟩=some (.bool s_p)∧w'.cell? ⟨wr.heap.size,1,none⟩=some (.slice A_p n_p c_p)∧w'.cell? ⟨wr.heap.size,2,none⟩=some (.slice B_p m_p d_p)∧w'.cell? ⟨wr.heap.size,3,none⟩=some (.bool t_p)∧w'.cell? ⟨wr.heap.size,4,none⟩=some (.slice E_p i_p e_p)∧w'.cell? ⟨wr.heap.size,5,none⟩=some (.slice F_p j_p f_p)∧w'.cell? ⟨g1,o1,none⟩=some (.bool s_q)∧w'.cell? ⟨g1,o1+1,none⟩=some (.slice A_q n_q c_q)∧w'.cell? ⟨g1,o1+2,none⟩=some (.slice B_q m_q d_q)∧w'.cell? ⟨g1,o1+3,none⟩=some (.bool t_q)∧w'.cell? ⟨g1,o1+4,none⟩=some (.slice E_q i_q e_q)∧w'.cell? ⟨g1,o1+5,none⟩=some (.slice F_q j_q f_q))
     (first | with_reducible exact ⟨X.c0,X.c1,X.c2,X.c3,X.c4,X.c5,E'.c0,E'.c1,E'.c2,E'.c3,E'.c4,E'.c5⟩ | with_reducible exact ⟨(Qa8 _ _ _ _ _ _ _ _ hx1).trans X.c0,(Qa8 _ _ _ _ _ _ _ _ hx1).trans X.c1,(Qa8 _ _ _ _ _ _ _ _ hx1).trans X.c2,(Qa8 _ _ _ _ _ _ _ _ hx1).trans X.c3,(Qa8 _ _ _ _ _ _ _ _ hx1).trans X.c4,(Qa8 _ _ _ _ _ _ _ _ hx1).trans X.c5,(Qa8 _ _ _ _ _ _ _ _ hx2).trans E'.c0,(Qa8 _ _ _ _ _ _ _ _ hx2).trans E'.c1,(Qa8 _ _ _ _ _ _ _ _ hx2).trans E'.c2,(Qa8 _ _ _ _ _ _ _ _ hx2).trans E'.c3,(Qa8 _ _ _ _ _ _ _ _ hx2).trans E'.c4,(Qa8 _ _ _ _ _ _ _ _ hx2).trans E'.c5⟩)
     (first
     | (go_at_call 45;(with_reducible refine (Qeb p q hk h1 h1).mono ?_);rintro e w_r ⟨s_r,A_r,n_r,c_r,B_r,m_r,d_r,rfl,r,hh⟩
        (try replace p:=p.below hh);(try replace q:=q.below hh);(try replace hP:=hP.below hh);(try replace HQ:=HQ.below hh);(try replace hR:=hR.below hh);(try replace Z:=Z.below hh)
        try replace E':=E'.below hh
        (try replace X:=X.below hh);replace hb:=Qai hb hh;have Eq:=hP.q3 HPM.out;obtain ⟨q0,q1,q2⟩:=Eq.all
        have qf0:=hP.frz (j:=m*3)
        have qf1:=hP.frz (j:=m*3+1)
        have qf2:=hP.frz (j:=m*3+2)))
    have ho:=onlyq w_r gP (m*3) (.bool s_r) (.slice A_r n_r c_r) (.slice B_r m_r d_r)
    have hP2:=hP.setq HL1.out (QV.mk s_r A_r n_r c_r B_r m_r d_r)
    replace r:=r.box hP ho
    replace HQ:=(HQ.box hP ho).push (p:=(QV.mk s_r A_r n_r c_r B_r m_r d_r)) r
    replace hR:=hR.box hP (.inl (by decide)) ho
    replace Z:B3 (((w_r.setCell ⟨gP,m*3,none⟩ (.bool s_r)).setCell ⟨gP,m*3+1,none⟩ (.slice A_r n_r c_r)).setCell ⟨gP,m*3+2,none⟩ (.slice B_r m_r d_r)) w.heap.size (.bool false) (.slice none 0 0) (.slice none 0 0):=(ho.block _ Z.lt (by omega)).trans Z
    replace hb:=Below.only hb (by omega) hb.size ho
    have hcr:(QcW l)[m]?=some (ux*vy - uy*vx):=Qg1 HU.out HV.out
    rw [← QfJ hcr,← Qhn HL1.out (QV.mk s_r A_r n_r c_r B_r m_r d_r)] at HQ
    clear hP ho Eq q0 q1 q2 qf0 qf1 qf2 E' X p q hcr
    generalize (((w_r.setCell ⟨gP,m*3,none⟩ (.bool s_r)).setCell ⟨gP,m*3+1,none⟩ (.slice A_r n_r c_r)).setCell ⟨gP,m*3+2,none⟩ (.slice B_r m_r d_r))=W3 at *
    go_wp2_with fail
    go_roundg (gk - 1)
    case measure=>have:=HG.out;omega
    case rel=>exact ⟨M.set m (QV.mk s_r A_r n_r c_r B_r m_r d_r),m+1,by have:=HG.out;show _=_;omega,by go_num,by show _=_;rw [List.length_set];exact HM.out,hP2,HQ,hR,Z,hb⟩
  · have hlt:¬ (m:Int) < (n:Int):=by omega
    obtain rfl:m=n:=by have:=HG.out;omega
    replace HQ:=HQ.out
    rw [List.take_of_length_le (by rw [HM.out];exact Nat.le_refl _),List.take_of_length_le (by rw [QdV,← E0.out.1,HN.out];exact Nat.le_refl _)] at HQ
    have hPS:=hP.sv;have hB2:=HB.out
    have HK:Hid (m*((k+k+(k+k)+1)+2)+1≤400):=by show _≤_;omega
    have HK2:Hid (1≤m*((k+k+(k+k)+1)+2)+1):=by show _≤_;omega
    clear hmn hR;have zf0:=Z.f0;have zf1:=Z.f1;have zf2:=Z.f2;obtain ⟨z0,z1,z2⟩:=Z.all
    go_wp2_with (first
     | (go_at_call 47;(with_reducible refine (Qmp hPS HQ HM.out (Nat.le_refl _) (by omega) (by omega) (by have:=HK.out;omega)).mono ?_);rintro e w_x ⟨s_x,A_x,n_x,c_x,B_x,m_x,d_x,rfl,x,hh⟩
        (try replace Z:=Z.below hh);replace hb:=Qai hb hh;have zf0:=Z.f0;have zf1:=Z.f1;have zf2:=Z.f2;obtain ⟨z0,z1,z2⟩:=Z.all)
     | (go_at_call 48;(with_reducible refine (rof_q 1 2 (by decide) (by decide) (by decide) (by decide) (by decide) _).mono ?_);rintro e w_y ⟨s_y,A_y,n_y,c_y,B_y,m_y,d_y,rfl,y,hh⟩
        (try replace Z:=Z.below hh);(try replace x:=x.below hh);replace hb:=Qai hb hh;have zf0:=Z.f0;have zf1:=Z.f1;have zf2:=Z.f2;obtain ⟨z0,z1,z2⟩:=Z.all)
     | (go_at_call 46;(with_reducible refine (QfB x.qr y.qr HK.out (by decide) (.inl HK.out) HK2.out (by decide)).mono ?_);rintro e w_r ⟨s_r,A_r,n_r,c_r,B_r,m_r,d_r,rfl,r,hh⟩
        (try replace Z:=Z.below hh);replace hb:=Qai hb hh;have zf0:=Z.f0;have zf1:=Z.f1;have zf2:=Z.f2;obtain ⟨z0,z1,z2⟩:=Z.all))
    have Z2:=Z.set3 (.bool s_r) (.slice A_r n_r c_r) (.slice B_r m_r d_r)
    obtain ⟨g0,g1,g2⟩:=Z2.all
    refine bodyPost_ret (v:=.agg #[.bool s_r,.slice A_r n_r c_r,.slice B_r m_r d_r]) (by simp [results,Tryz.results14,go_sem,g0,g1,g2]) rfl ?_
    exact ⟨s_r,A_r,n_r,c_r,B_r,m_r,d_r,rfl,r.set3 Z _ _ _,Qak hb (Nat.le_refl _) _ _ _⟩
end
end Go.Proofs.YtgfcofecdhodcaaGreat
