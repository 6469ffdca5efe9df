/- AreaMoves: part 12. -/
import Derived.Test.YtghmejlikfiegaaGreatKAreaMoves10
import Derived.Test.YtghmejlikfiegaaGreatKAreaMoves11
set_option linter.unusedVariables false
set_option maxRecDepth 100000
set_option maxHeartbeats 16000000
variable {w:Go.World}
namespace Go.Proofs.YtghmejlikfiegaaGreat
section
open Go Go.RowKit
theorem zero_mem (z:Array Value) (hz:0 < z.size) (hf:∀ u ∈ z,∀ (k:IntKind) (x:Int),u ≠ .int k x) (n:Nat):∀ u ∈ Builtin.zeroCells z n,∀ (k:IntKind) (x:Int),u ≠ .int k x:=by
 intro u hu k x e
 subst e
 simp only [Builtin.zeroCells,Array.mem_map,Array.mem_range] at hu
 obtain ⟨i,_,hi⟩:=hu
 have hlt:=Nat.mod_lt i hz
 rw [getElem!_pos z (i % z.size) hlt] at hi
 exact hf _ (Array.getElem_mem hlt) k x hi
theorem run_cut3_p {e1:Operand→Value} {d1:Option Tmp} {y1:Nat} {pos:String} {af:Array Edge} {x1 x2 x3:Operand} {A:Option Addr} {n c:Nat} (h:e1 x1=.slice A n c) (h2:e1 x2=.int .i64 (n:Int)) (h3:e1 x3=.int .i64 (n:Int)) (hn:n≤c) :
 (execOp e1 ⟨d1,.slice 22 x1 none (some x2) (some x3),y1,pos,af,none⟩).run Tryz.prog w=.ok (.value (.slice A n n)) w:=by
 cases A <;> go_simp
theorem run_cut2_p {e1:Operand→Value} {d1:Option Tmp} {y1:Nat} {pos:String} {af:Array Edge} {x1 x2:Operand} {A:Option Addr} {m n c:Nat} {M:Int} (hM:M=(m:Int)) (hm:m≤c) (h:e1 x1=.slice A n c) (h2:e1 x2=.int .i64 M) :
 (execOp e1 ⟨d1,.slice 22 x1 none (some x2) none,y1,pos,af,none⟩).run Tryz.prog w=.ok (.value (.slice A m c)) w:=by
 subst hM
 cases A <;> go_simp
theorem run_app0_p {e1:Operand→Value} {d1:Option Tmp} {y1:Nat} {pos:String} {af:Array Edge} {x1 x2:Operand} {A B:Option Addr} {c:Nat} (h:e1 x1=.slice A 0 0) (h2:e1 x2=.slice B 0 c) :
 (execOp e1 ⟨d1,.call ⟨.builtin Builtin.append,#[x1,x2],#[22,22]⟩,y1,pos,af,none⟩).run Tryz.prog w=.ok (.value (.slice A 0 0)) w:=by
 obtain ⟨i0,hi,hz,hs,hby⟩:=info_parts (show (Tryz.prog.info? 29).map (fun i=>(i.zero,i.size,i.bytes))=some (some (.agg #[.bool false,.slice none 0 0,.slice none 0 0,.bool false,.slice none 0 0,.slice none 0 0]),6,112) by kernel_rfl)
 have hu:=Tryz.underlying22
 cases A <;> cases B <;> (simp [h,h2,Builtin.append_,run_underlying hu,sizeOf,typeInfo,hi,Builtin.lenOf,Builtin.firstCells,go_sem];try rfl)
theorem run_ring_p {e1:Operand→Value} {x1 x2:Operand} {g o n c:Nat} {L:List PV} (h:e1 x1=.slice (some ⟨g,o,none⟩) n n) (h2:e1 x2=.slice (some ⟨g,o,none⟩) 1 c) (hL:SV w (some ⟨g,o,none⟩) (pvs L)) (hn:L.length=n) (h0:0 < n) (hm:n≤100000) :
 ∃ c' w2,(∀ (d1:Option Tmp) (y1:Nat) (pos:String) (af:Array Edge),(execOp e1 ⟨d1,.call ⟨.builtin Builtin.append,#[x1,x2],#[22,22]⟩,y1,pos,af,none⟩).run Tryz.prog w=.ok (.value (.slice (some ⟨w.heap.size,0,none⟩) (n+1) c')) w2)∧Below w.heap.size w w2∧RowB 29 w2 w.heap.size (pvs (L ++ L.take 1)):=by
 obtain ⟨i0,hi,hz,hs,hby⟩:=info_parts (show (Tryz.prog.info? 29).map (fun i=>(i.zero,i.size,i.bytes))=some (some (.agg #[.bool false,.slice none 0 0,.slice none 0 0,.bool false,.slice none 0 0,.slice none 0 0]),6,112) by kernel_rfl)
 have hu:=Tryz.underlying22
 have hl:(pvs L).length=n*6:=by rw [show (pvs L).length=L.length*6 from rows_length pvc_len L,hn]
 have hl1:(pvs (L.take 1)).length=1*6:=by rw [show (pvs (L.take 1)).length=(L.take 1).length*6 from rows_length pvc_len _,List.length_take,hn,Nat.min_eq_left (by omega)]
 have hc:∀ j v,(pvs L)[j]?=some v→w.cell? ((⟨g,o,none⟩:Addr).add j)=some v:=fun j v hv=>by
  obtain ⟨g2,o2,e,_,hx⟩:=hL (by rw [hl];omega)
  cases e
  rw [add_at];exact hx j v hv
 have hc1:∀ j v,(pvs (L.take 1))[j]?=some v→w.cell? ((⟨g,o,none⟩:Addr).add j)=some v:=fun j v hv=>by
  refine hc j v ?_
  rw [← List.take_append_drop 1 L,pvs_append,List.getElem?_append_left (by have:=(List.getElem?_eq_some_iff.1 hv).1;exact this)]
  exact hv
 have hfit:Builtin.nextslicecap (n+1) n*i0.bytes≤281474976710656:=growslice_fits (by omega) (by rw [hby];omega)
 have hr:=fun y1=>run_append_grow (P:=Tryz.prog) w 22 y1 29 i0 _ hu hi hz ⟨g,o,none⟩ n n (pvs L) (by rw [hs];exact hl) hc ⟨g,o,none⟩ 1 c (pvs (L.take 1)) (by rw [hs];exact hl1) hc1 (by omega) (by omega) hfit
 generalize hX:((pvs L).toArray ++ (pvs (L.take 1)).toArray ++ Builtin.zeroCells (Value.agg #[.bool false,.slice none 0 0,.slice none 0 0,.bool false,.slice none 0 0,.slice none 0 0]).cells (grownCap w (n+1) n 29 - (n+1)))=X at hr
 have he:∀ (d1:Option Tmp) (y1:Nat) (pos:String) (af:Array Edge),(execOp e1 ⟨d1,.call ⟨.builtin Builtin.append,#[x1,x2],#[22,22]⟩,y1,pos,af,none⟩).run Tryz.prog w=.ok (.value (.slice (some ⟨w.heap.size,0,none⟩) (n+1) (grownCap w (n+1) n 29))) (w.drew.alloc (.cells X 29)):=by
  intro d1 y1 pos af
  unfold execOp
  simp only [resolve,invoke,builtin,Sem.run_bind,Sem.run_pure,Result.andThen_ok,List.map_toArray,List.map_cons,List.map_nil,h,h2,hr]
 refine ⟨_,_,he,(Below.refl _ _).drew.alloc (Nat.le_refl _) _,X,⟨heap_alloc_new w.drew _,?_⟩,?_,?_⟩
 · intro i k' x e
   have hm:∀ u ∈ X,∀ (k:IntKind) (x:Int),u ≠ .int k x:=fun u hu=>by
    rw [← hX] at hu
    rcases Array.mem_append.1 hu with q | q
    · rcases Array.mem_append.1 q with q | q
      · exact pvs_free L u (by simpa using q)
      · exact pvs_free (L.take 1) u (by simpa using q)
    · exact zero_mem _ (by decide) (fun u hu=>pvs_free [zpv] u (Array.mem_toList_iff.2 hu)) _ u q
   exact hm _ (Array.mem_of_getElem? e) k' x rfl
 · rw [← hX,pvs_append,List.length_append,Array.size_append,Array.size_append,List.size_toArray,List.size_toArray];omega
 · intro j u hu
   rw [pvs_append] at hu
   rw [← hX,Array.getElem?_append_left (by have:=(List.getElem?_eq_some_iff.1 hu).1;simpa using this)]
   simpa using hu
theorem run_cut3_c {e1:Operand→Value} {d1:Option Tmp} {y1:Nat} {pos:String} {af:Array Edge} {x1 x2 x3:Operand} {A:Option Addr} {n c:Nat} (h:e1 x1=.slice A n c) (h2:e1 x2=.int .i64 (n:Int)) (h3:e1 x3=.int .i64 (n:Int)) (hn:n≤c) :
 (execOp e1 ⟨d1,.slice 93 x1 none (some x2) (some x3),y1,pos,af,none⟩).run Tryz.prog w=.ok (.value (.slice A n n)) w:=by
 cases A <;> go_simp
theorem run_cut2_c {e1:Operand→Value} {d1:Option Tmp} {y1:Nat} {pos:String} {af:Array Edge} {x1 x2:Operand} {A:Option Addr} {m n c:Nat} {M:Int} (hM:M=(m:Int)) (hm:m≤c) (h:e1 x1=.slice A n c) (h2:e1 x2=.int .i64 M) :
 (execOp e1 ⟨d1,.slice 93 x1 none (some x2) none,y1,pos,af,none⟩).run Tryz.prog w=.ok (.value (.slice A m c)) w:=by
 subst hM
 cases A <;> go_simp
theorem run_app0_c {e1:Operand→Value} {d1:Option Tmp} {y1:Nat} {pos:String} {af:Array Edge} {x1 x2:Operand} {A B:Option Addr} {c:Nat} (h:e1 x1=.slice A 0 0) (h2:e1 x2=.slice B 0 c) :
 (execOp e1 ⟨d1,.call ⟨.builtin Builtin.append,#[x1,x2],#[93,93]⟩,y1,pos,af,none⟩).run Tryz.prog w=.ok (.value (.slice A 0 0)) w:=by
 obtain ⟨i0,hi,hz,hs,hby⟩:=info_parts (show (Tryz.prog.info? 96).map (fun i=>(i.zero,i.size,i.bytes))=some (some (.agg #[.bool false,.slice none 0 0,.slice none 0 0,.bool false,.slice none 0 0,.slice none 0 0,.bool false,.slice none 0 0,.slice none 0 0]),9,168) by kernel_rfl)
 have hu:=Tryz.underlying93
 cases A <;> cases B <;> (simp [h,h2,Builtin.append_,run_underlying hu,sizeOf,typeInfo,hi,Builtin.lenOf,Builtin.firstCells,go_sem];try rfl)
theorem run_ring_c {e1:Operand→Value} {x1 x2:Operand} {g o n c:Nat} {L:List CV} (h:e1 x1=.slice (some ⟨g,o,none⟩) n n) (h2:e1 x2=.slice (some ⟨g,o,none⟩) 1 c) (hL:SV w (some ⟨g,o,none⟩) (cvs L)) (hn:L.length=n) (h0:0 < n) (hm:n≤100000) :
 ∃ c' w2,(∀ (d1:Option Tmp) (y1:Nat) (pos:String) (af:Array Edge),(execOp e1 ⟨d1,.call ⟨.builtin Builtin.append,#[x1,x2],#[93,93]⟩,y1,pos,af,none⟩).run Tryz.prog w=.ok (.value (.slice (some ⟨w.heap.size,0,none⟩) (n+1) c')) w2)∧Below w.heap.size w w2∧RowB 96 w2 w.heap.size (cvs (L ++ L.take 1)):=by
 obtain ⟨i0,hi,hz,hs,hby⟩:=info_parts (show (Tryz.prog.info? 96).map (fun i=>(i.zero,i.size,i.bytes))=some (some (.agg #[.bool false,.slice none 0 0,.slice none 0 0,.bool false,.slice none 0 0,.slice none 0 0,.bool false,.slice none 0 0,.slice none 0 0]),9,168) by kernel_rfl)
 have hu:=Tryz.underlying93
 have hl:(cvs L).length=n*9:=by rw [show (cvs L).length=L.length*9 from rows_length cvc_len L,hn]
 have hl1:(cvs (L.take 1)).length=1*9:=by rw [show (cvs (L.take 1)).length=(L.take 1).length*9 from rows_length cvc_len _,List.length_take,hn,Nat.min_eq_left (by omega)]
 have hc:∀ j v,(cvs L)[j]?=some v→w.cell? ((⟨g,o,none⟩:Addr).add j)=some v:=fun j v hv=>by
  obtain ⟨g2,o2,e,_,hx⟩:=hL (by rw [hl];omega)
  cases e
  rw [add_at];exact hx j v hv
 have hc1:∀ j v,(cvs (L.take 1))[j]?=some v→w.cell? ((⟨g,o,none⟩:Addr).add j)=some v:=fun j v hv=>by
  refine hc j v ?_
  rw [← List.take_append_drop 1 L,cvs_append,List.getElem?_append_left (by have:=(List.getElem?_eq_some_iff.1 hv).1;exact this)]
  exact hv
 have hfit:Builtin.nextslicecap (n+1) n*i0.bytes≤281474976710656:=growslice_fits (by omega) (by rw [hby];omega)
 have hr:=fun y1=>run_append_grow (P:=Tryz.prog) w 93 y1 96 i0 _ hu hi hz ⟨g,o,none⟩ n n (cvs L) (by rw [hs];exact hl) hc ⟨g,o,none⟩ 1 c (cvs (L.take 1)) (by rw [hs];exact hl1) hc1 (by omega) (by omega) hfit
 generalize hX:((cvs L).toArray ++ (cvs (L.take 1)).toArray ++ Builtin.zeroCells (Value.agg #[.bool false,.slice none 0 0,.slice none 0 0,.bool false,.slice none 0 0,.slice none 0 0,.bool false,.slice none 0 0,.slice none 0 0]).cells (grownCap w (n+1) n 96 - (n+1)))=X at hr
 have he:∀ (d1:Option Tmp) (y1:Nat) (pos:String) (af:Array Edge),(execOp e1 ⟨d1,.call ⟨.builtin Builtin.append,#[x1,x2],#[93,93]⟩,y1,pos,af,none⟩).run Tryz.prog w=.ok (.value (.slice (some ⟨w.heap.size,0,none⟩) (n+1) (grownCap w (n+1) n 96))) (w.drew.alloc (.cells X 96)):=by
  intro d1 y1 pos af
  unfold execOp
  simp only [resolve,invoke,builtin,Sem.run_bind,Sem.run_pure,Result.andThen_ok,List.map_toArray,List.map_cons,List.map_nil,h,h2,hr]
 refine ⟨_,_,he,(Below.refl _ _).drew.alloc (Nat.le_refl _) _,X,⟨heap_alloc_new w.drew _,?_⟩,?_,?_⟩
 · intro i k' x e
   have hm:∀ u ∈ X,∀ (k:IntKind) (x:Int),u ≠ .int k x:=fun u hu=>by
    rw [← hX] at hu
    rcases Array.mem_append.1 hu with q | q
    · rcases Array.mem_append.1 q with q | q
      · exact cvs_free L u (by simpa using q)
      · exact cvs_free (L.take 1) u (by simpa using q)
    · exact zero_mem _ (by decide) (fun u hu=>cvs_free [zcv] u (Array.mem_toList_iff.2 hu)) _ u q
   exact hm _ (Array.mem_of_getElem? e) k' x rfl
 · rw [← hX,cvs_append,List.length_append,Array.size_append,Array.size_append,List.size_toArray,List.size_toArray];omega
 · intro j u hu
   rw [cvs_append] at hu
   rw [← hX,Array.getElem?_append_left (by have:=(List.getElem?_eq_some_iff.1 hu).1;simpa using this)]
   simpa using hu
abbrev L_closedp:List Nat:=[3,4,5,6,7,8,9,10,11,12,13,14,2]
def o0_closedp:Oper:=⟨some 3,.move (.tmp 0),22, "area.go:53",#[],none⟩
def o1_closedp:Oper:=⟨some 4,.move (.tmp 0),22, "area.go:53",#[],none⟩
def o2_closedp:Oper:=⟨some 5,.call ⟨.builtin Builtin.len,#[.tmp 4],#[22]⟩,3, "area.go:53",#[⟨1,.data⟩],none⟩
def o3_closedp:Oper:=⟨some 6,.move (.tmp 0),22, "area.go:53",#[],none⟩
def o4_closedp:Oper:=⟨some 7,.call ⟨.builtin Builtin.len,#[.tmp 6],#[22]⟩,3, "area.go:53",#[⟨3,.data⟩],none⟩
def o5_closedp:Oper:=⟨some 8,.slice 22 (.tmp 3) none (some (.tmp 5)) (some (.tmp 7)),22, "area.go:53",#[⟨0,.data⟩,⟨2,.data⟩,⟨4,.data⟩],none⟩
def o6_closedp:Oper:=⟨some 9,.move (.tmp 0),22, "area.go:53",#[],none⟩
def o7_closedp:Oper:=⟨some 10,.move (.tmp 0),22, "area.go:53",#[],none⟩
def o8_closedp:Oper:=⟨some 11,.call ⟨.builtin Builtin.len,#[.tmp 10],#[22]⟩,3, "area.go:53",#[⟨7,.data⟩],none⟩
def o9_closedp:Oper:=⟨some 12,.call ⟨.builtin Builtin.min,#[.const (Value.int IntKind.i64 1),.tmp 11],#[3,3]⟩,3, "area.go:53",#[⟨8,.data⟩],none⟩
def o10_closedp:Oper:=⟨some 13,.slice 22 (.tmp 9) none (some (.tmp 12)) none,22, "area.go:53",#[⟨6,.data⟩,⟨9,.data⟩],none⟩
def o11_closedp:Oper:=⟨some 14,.call ⟨.builtin Builtin.append,#[.tmp 8,.tmp 13],#[22,22]⟩,22, "area.go:53",#[⟨5,.data⟩,⟨10,.data⟩],none⟩
def o12_closedp:Oper:=⟨some 2,.assign (.tmp 14),22, "area.go:53",#[⟨11,.data⟩,⟨11,.chain⟩,⟨0,.phase⟩,⟨1,.phase⟩,⟨2,.phase⟩,⟨3,.phase⟩,⟨4,.phase⟩,⟨5,.phase⟩,⟨6,.phase⟩,⟨7,.phase⟩,⟨8,.phase⟩,⟨9,.phase⟩,⟨10,.phase⟩,⟨11,.phase⟩],none⟩
def F_closedp (g:Nat) (o:Nat) (n:Nat) (c:Nat) (base:Nat) (L:List PV) (sl:Nat):Value→World→Prop :=
 match sl with
 | 3=>fun x _=>x=Value.slice (some ⟨g,o,none⟩) n c
 | 4=>fun x _=>x=Value.slice (some ⟨g,o,none⟩) n c
 | 5=>fun x _=>x=Value.int .i64 (n:Int)
 | 6=>fun x _=>x=Value.slice (some ⟨g,o,none⟩) n c
 | 7=>fun x _=>x=Value.int .i64 (n:Int)
 | 8=>fun x _=>x=Value.slice (some ⟨g,o,none⟩) n n
 | 9=>fun x _=>x=Value.slice (some ⟨g,o,none⟩) n c
 | 10=>fun x _=>x=Value.slice (some ⟨g,o,none⟩) n c
 | 11=>fun x _=>x=Value.int .i64 (n:Int)
 | 12=>fun x _=>x=Value.int .i64 1
 | 13=>fun x _=>x=Value.slice (some ⟨g,o,none⟩) 1 c
 | 14=>VSB (29) (base) (n) (n+1) (pvs (L ++ L.take 1))
 | 2=>VSB (29) (base) (n) (n+1) (pvs (L ++ L.take 1))
 | _=>fun _ _=>True
theorem closedp_region {id:Nat} {ac:Act} {Q:Exit→Act→World→Prop} {g o n c base:Nat} {L:List PV}
 (hsz:14 < ac.tmps.size) (e0:ac.eval (.tmp 0)=Value.slice (some ⟨g,o,none⟩) n c) (hL:SV w (some ⟨g,o,none⟩) (pvs L)) (hn:L.length=n) (h0:0 < n) (hm:n≤100000) (hnc:n≤c) (hbs:base≤w.heap.size)
 (hend:∀ (V:Nat→Value) (w':World),(VSB (29) (base) (n) (n+1) (pvs (L ++ L.take 1))) (V 2) w'→Below w.heap.size w w'→Q .normal (putAll ac [3,4,5,6,7,8,9,10,11,12,13,14,2] V) w') :
 (Code.region id #[o0_closedp,o1_closedp,o2_closedp,o3_closedp,o4_closedp,o5_closedp,o6_closedp,o7_closedp,o8_closedp,o9_closedp,o10_closedp,o11_closedp,o12_closedp] true).wp Tryz.prog Q ac w:=by
 have hnd:L_closedp.Nodup:=by decide
 have G:∀ (sv:Nat→Value) (t:Nat),t ∈ L_closedp→t≤14→(putAll ac L_closedp sv).eval (.tmp t)=sv t:=fun sv t ht h=>eval_putAll_mem (t:=t) L_closedp ac hnd ht (Nat.lt_of_le_of_lt h hsz)
 have E0:∀ sv:Nat→Value,(putAll ac L_closedp sv).eval (.tmp 0)=Value.slice (some ⟨g,o,none⟩) n c:=fun sv=>(eval_putAll_not (v:=sv) L_closedp ac (show 0 ∉ _ by decide)).trans e0
 have NE:∀ t:Nat,(True)→∀ p ∈ ([]:List BoxOp),t ≠ p.tA:=by
  intro t ht p hp
  cases hp
 refine wp_region_flowsT L_closedp ([]:List BoxOp) (F_closedp g o n c base L) (by kernel_rfl) (by kernel_rfl) rfl hnd ?_ ?_ ?_ ?_ ?_ ?_ ?_ ?_
 · intro p hp
   cases hp
 · intro p hp;cases hp
 · intro p hp;cases hp
 · intro i o h1 h2
   match i,h1 with
   | 0,h1=>cases h1;cases h2
   | 1,h1=>cases h1;cases h2
   | 2,h1=>cases h1;cases h2
   | 3,h1=>cases h1;cases h2
   | 4,h1=>cases h1;cases h2
   | 5,h1=>cases h1;cases h2
   | 6,h1=>cases h1;cases h2
   | 7,h1=>cases h1;cases h2
   | 8,h1=>cases h1;cases h2
   | 9,h1=>cases h1;cases h2
   | 10,h1=>cases h1;cases h2
   | 11,h1=>cases h1;cases h2
   | 12,h1=>cases h1;cases h2
   | i+13,h1=>cases h1
 · intro t
   unfold F_closedp
   split <;> first | exact (stays_eq _).inn _ | exact (stays_q _ _).inn _ | exact (stays_z _ _).inn _ | exact (stays_r _ _).inn _ | exact (stays_rq _ _).inn _ | exact (stays_pg _ _ _).inn _ | exact (stays_true).inn _ | exact stays_sb _ _ _ _ _ _ (fun p hp=>by cases hp)
 · intro i o t sv w' ho hia hd J0 hf
   have hL:=hL.below J0
   match i,ho with
   | 0,ho =>
     obtain rfl:o0_closedp=o:=Option.some.inj ho
     cases hd
     refine wpOp_plain' (o:=o0_closedp) rfl rfl ?_
     unfold Oper.wp o0_closedp
     rw [run_move (E0 sv),Oper.upon_value]
     exact ⟨_,rfl,Below.refl _ _,rfl⟩
   | 1,ho =>
     obtain rfl:o1_closedp=o:=Option.some.inj ho
     cases hd
     refine wpOp_plain' (o:=o1_closedp) rfl rfl ?_
     unfold Oper.wp o1_closedp
     rw [run_move (E0 sv),Oper.upon_value]
     exact ⟨_,rfl,Below.refl _ _,rfl⟩
   | 2,ho =>
     obtain rfl:o2_closedp=o:=Option.some.inj ho
     cases hd
     have f4:sv 4=Value.slice (some ⟨g,o,none⟩) n c:=hf ⟨1,.data⟩ (by simp [o2_closedp]) rfl _ 4 rfl rfl (NE _ (by decide))
     refine wpOp_plain' (o:=o2_closedp) rfl rfl ?_
     unfold Oper.wp o2_closedp
     rw [run_len_p ((G sv 4 (by decide) (by decide)).trans f4) ,Oper.upon_value]
     exact ⟨_,rfl,Below.refl _ _,rfl⟩
   | 3,ho =>
     obtain rfl:o3_closedp=o:=Option.some.inj ho
     cases hd
     refine wpOp_plain' (o:=o3_closedp) rfl rfl ?_
     unfold Oper.wp o3_closedp
     rw [run_move (E0 sv),Oper.upon_value]
     exact ⟨_,rfl,Below.refl _ _,rfl⟩
   | 4,ho =>
     obtain rfl:o4_closedp=o:=Option.some.inj ho
     cases hd
     have f6:sv 6=Value.slice (some ⟨g,o,none⟩) n c:=hf ⟨3,.data⟩ (by simp [o4_closedp]) rfl _ 6 rfl rfl (NE _ (by decide))
     refine wpOp_plain' (o:=o4_closedp) rfl rfl ?_
     unfold Oper.wp o4_closedp
     rw [run_len_p ((G sv 6 (by decide) (by decide)).trans f6) ,Oper.upon_value]
     exact ⟨_,rfl,Below.refl _ _,rfl⟩
   | 5,ho =>
     obtain rfl:o5_closedp=o:=Option.some.inj ho
     cases hd
     have f3:sv 3=Value.slice (some ⟨g,o,none⟩) n c:=hf ⟨0,.data⟩ (by simp [o5_closedp]) rfl _ 3 rfl rfl (NE _ (by decide))
     have f5:sv 5=Value.int .i64 (n:Int):=hf ⟨2,.data⟩ (by simp [o5_closedp]) rfl _ 5 rfl rfl (NE _ (by decide))
     have f7:sv 7=Value.int .i64 (n:Int):=hf ⟨4,.data⟩ (by simp [o5_closedp]) rfl _ 7 rfl rfl (NE _ (by decide))
     refine wpOp_plain' (o:=o5_closedp) rfl rfl ?_
     unfold Oper.wp o5_closedp
     rw [run_cut3_p ((G sv 3 (by decide) (by decide)).trans f3) ((G sv 5 (by decide) (by decide)).trans f5) ((G sv 7 (by decide) (by decide)).trans f7) hnc,Oper.upon_value]
     exact ⟨_,rfl,Below.refl _ _,rfl⟩
   | 6,ho =>
     obtain rfl:o6_closedp=o:=Option.some.inj ho
     cases hd
     refine wpOp_plain' (o:=o6_closedp) rfl rfl ?_
     unfold Oper.wp o6_closedp
     rw [run_move (E0 sv),Oper.upon_value]
     exact ⟨_,rfl,Below.refl _ _,rfl⟩
   | 7,ho =>
     obtain rfl:o7_closedp=o:=Option.some.inj ho
     cases hd
     refine wpOp_plain' (o:=o7_closedp) rfl rfl ?_
     unfold Oper.wp o7_closedp
     rw [run_move (E0 sv),Oper.upon_value]
     exact ⟨_,rfl,Below.refl _ _,rfl⟩
   | 8,ho =>
     obtain rfl:o8_closedp=o:=Option.some.inj ho
     cases hd
     have f10:sv 10=Value.slice (some ⟨g,o,none⟩) n c:=hf ⟨7,.data⟩ (by simp [o8_closedp]) rfl _ 10 rfl rfl (NE _ (by decide))
     refine wpOp_plain' (o:=o8_closedp) rfl rfl ?_
     unfold Oper.wp o8_closedp
     rw [run_len_p ((G sv 10 (by decide) (by decide)).trans f10) ,Oper.upon_value]
     exact ⟨_,rfl,Below.refl _ _,rfl⟩
   | 9,ho =>
     obtain rfl:o9_closedp=o:=Option.some.inj ho
     cases hd
     have f11:sv 11=Value.int .i64 (n:Int):=hf ⟨8,.data⟩ (by simp [o9_closedp]) rfl _ 11 rfl rfl (NE _ (by decide))
     refine wpOp_plain' (o:=o9_closedp) rfl rfl ?_
     unfold Oper.wp o9_closedp
     rw [run_min1 h0 ((G sv 11 (by decide) (by decide)).trans f11) (show (putAll ac L_closedp sv).eval (.const (Value.int IntKind.i64 1))=(Value.int IntKind.i64 1) from rfl) ,Oper.upon_value]
     exact ⟨_,rfl,Below.refl _ _,rfl⟩
   | 10,ho =>
     obtain rfl:o10_closedp=o:=Option.some.inj ho
     cases hd
     have f9:sv 9=Value.slice (some ⟨g,o,none⟩) n c:=hf ⟨6,.data⟩ (by simp [o10_closedp]) rfl _ 9 rfl rfl (NE _ (by decide))
     have f12:sv 12=Value.int .i64 1:=hf ⟨9,.data⟩ (by simp [o10_closedp]) rfl _ 12 rfl rfl (NE _ (by decide))
     refine wpOp_plain' (o:=o10_closedp) rfl rfl ?_
     unfold Oper.wp o10_closedp
     rw [run_cut2_p (m:=1) rfl (by omega) ((G sv 9 (by decide) (by decide)).trans f9) ((G sv 12 (by decide) (by decide)).trans f12) ,Oper.upon_value]
     exact ⟨_,rfl,Below.refl _ _,rfl⟩
   | 11,ho =>
     obtain rfl:o11_closedp=o:=Option.some.inj ho
     cases hd
     have f8:sv 8=Value.slice (some ⟨g,o,none⟩) n n:=hf ⟨5,.data⟩ (by simp [o11_closedp]) rfl _ 8 rfl rfl (NE _ (by decide))
     have f13:sv 13=Value.slice (some ⟨g,o,none⟩) 1 c:=hf ⟨10,.data⟩ (by simp [o11_closedp]) rfl _ 13 rfl rfl (NE _ (by decide))
     refine wpOp_plain' (o:=o11_closedp) rfl rfl ?_
     unfold Oper.wp o11_closedp
     obtain ⟨c2,w2,hr,hb2,hB⟩:=run_ring_p (w:=w') ((G sv 8 (by decide) (by decide)).trans f8) ((G sv 13 (by decide) (by decide)).trans f13) hL hn h0 hm
     rw [hr,Oper.upon_value]
     exact ⟨_,rfl,hb2,_,_,rfl,fun _=>⟨_,rfl,Nat.le_trans hbs J0.size,hB⟩⟩
   | 12,ho =>
     obtain rfl:o12_closedp=o:=Option.some.inj ho
     cases hd
     have f:=hf ⟨11,.data⟩ (by simp [o12_closedp]) rfl _ 14 rfl rfl (NE _ (by decide))
     refine wpOp_plain' (o:=o12_closedp) rfl rfl ?_
     unfold Oper.wp o12_closedp
     rw [run_assign (G sv 14 (by decide) (by decide)),Oper.upon_value]
     exact ⟨_,rfl,Below.refl _ _,f⟩
   | i+13,ho=>cases ho
 · intro p hp os sv w' g hos J0 p1 p3 hf
   cases hp
 · intro sv w' J0 hF hB hap
   exact hend sv w'   (hF 12 _ 2 rfl rfl (NE _ (by decide))) J0
def F_nonep (A:Option Addr) (c:Nat) (sl:Nat):Value→World→Prop :=
 match sl with
 | 3=>fun x _=>x=Value.slice A 0 c
 | 4=>fun x _=>x=Value.slice A 0 c
 | 5=>fun x _=>x=Value.int .i64 0
 | 6=>fun x _=>x=Value.slice A 0 c
 | 7=>fun x _=>x=Value.int .i64 0
 | 8=>fun x _=>x=Value.slice A 0 0
 | 9=>fun x _=>x=Value.slice A 0 c
 | 10=>fun x _=>x=Value.slice A 0 c
 | 11=>fun x _=>x=Value.int .i64 0
 | 12=>fun x _=>x=Value.int .i64 0
 | 13=>fun x _=>x=Value.slice A 0 c
 | 14=>fun x _=>x=Value.slice A 0 0
 | 2=>fun x _=>x=Value.slice A 0 0
 | _=>fun _ _=>True
theorem nonep_region {id:Nat} {ac:Act} {Q:Exit→Act→World→Prop} {A:Option Addr} {c:Nat}
 (hsz:14 < ac.tmps.size) (e0:ac.eval (.tmp 0)=Value.slice A 0 c) 
 (hend:∀ (V:Nat→Value) (w':World),V 2=Value.slice A 0 0→Below w.heap.size w w'→Q .normal (putAll ac [3,4,5,6,7,8,9,10,11,12,13,14,2] V) w') :
 (Code.region id #[o0_closedp,o1_closedp,o2_closedp,o3_closedp,o4_closedp,o5_closedp,o6_closedp,o7_closedp,o8_closedp,o9_closedp,o10_closedp,o11_closedp,o12_closedp] true).wp Tryz.prog Q ac w:=by
 have hnd:L_closedp.Nodup:=by decide
 have G:∀ (sv:Nat→Value) (t:Nat),t ∈ L_closedp→t≤14→(putAll ac L_closedp sv).eval (.tmp t)=sv t:=fun sv t ht h=>eval_putAll_mem (t:=t) L_closedp ac hnd ht (Nat.lt_of_le_of_lt h hsz)
 have E0:∀ sv:Nat→Value,(putAll ac L_closedp sv).eval (.tmp 0)=Value.slice A 0 c:=fun sv=>(eval_putAll_not (v:=sv) L_closedp ac (show 0 ∉ _ by decide)).trans e0
 have NE:∀ t:Nat,(True)→∀ p ∈ ([]:List BoxOp),t ≠ p.tA:=by
  intro t ht p hp
  cases hp
 refine wp_region_flowsT L_closedp ([]:List BoxOp) (F_nonep A c) (by kernel_rfl) (by kernel_rfl) rfl hnd ?_ ?_ ?_ ?_ ?_ ?_ ?_ ?_
 · intro p hp
   cases hp
 · intro p hp;cases hp
 · intro p hp;cases hp
 · intro i o h1 h2
   match i,h1 with
   | 0,h1=>cases h1;cases h2
   | 1,h1=>cases h1;cases h2
   | 2,h1=>cases h1;cases h2
   | 3,h1=>cases h1;cases h2
   | 4,h1=>cases h1;cases h2
   | 5,h1=>cases h1;cases h2
   | 6,h1=>cases h1;cases h2
   | 7,h1=>cases h1;cases h2
   | 8,h1=>cases h1;cases h2
   | 9,h1=>cases h1;cases h2
   | 10,h1=>cases h1;cases h2
   | 11,h1=>cases h1;cases h2
   | 12,h1=>cases h1;cases h2
   | i+13,h1=>cases h1
 · intro t
   unfold F_nonep
   split <;> first | exact (stays_eq _).inn _ | exact (stays_q _ _).inn _ | exact (stays_z _ _).inn _ | exact (stays_r _ _).inn _ | exact (stays_rq _ _).inn _ | exact (stays_pg _ _ _).inn _ | exact (stays_true).inn _
 · intro i o t sv w' ho hia hd J0 hf
   match i,ho with
   | 0,ho =>
     obtain rfl:o0_closedp=o:=Option.some.inj ho
     cases hd
     refine wpOp_plain' (o:=o0_closedp) rfl rfl ?_
     unfold Oper.wp o0_closedp
     rw [run_move (E0 sv),Oper.upon_value]
     exact ⟨_,rfl,Below.refl _ _,rfl⟩
   | 1,ho =>
     obtain rfl:o1_closedp=o:=Option.some.inj ho
     cases hd
     refine wpOp_plain' (o:=o1_closedp) rfl rfl ?_
     unfold Oper.wp o1_closedp
     rw [run_move (E0 sv),Oper.upon_value]
     exact ⟨_,rfl,Below.refl _ _,rfl⟩
   | 2,ho =>
     obtain rfl:o2_closedp=o:=Option.some.inj ho
     cases hd
     have f4:sv 4=Value.slice A 0 c:=hf ⟨1,.data⟩ (by simp [o2_closedp]) rfl _ 4 rfl rfl (NE _ (by decide))
     refine wpOp_plain' (o:=o2_closedp) rfl rfl ?_
     unfold Oper.wp o2_closedp
     rw [run_len_p (n:=0) ((G sv 4 (by decide) (by decide)).trans f4) ,Oper.upon_value]
     exact ⟨_,rfl,Below.refl _ _,rfl⟩
   | 3,ho =>
     obtain rfl:o3_closedp=o:=Option.some.inj ho
     cases hd
     refine wpOp_plain' (o:=o3_closedp) rfl rfl ?_
     unfold Oper.wp o3_closedp
     rw [run_move (E0 sv),Oper.upon_value]
     exact ⟨_,rfl,Below.refl _ _,rfl⟩
   | 4,ho =>
     obtain rfl:o4_closedp=o:=Option.some.inj ho
     cases hd
     have f6:sv 6=Value.slice A 0 c:=hf ⟨3,.data⟩ (by simp [o4_closedp]) rfl _ 6 rfl rfl (NE _ (by decide))
     refine wpOp_plain' (o:=o4_closedp) rfl rfl ?_
     unfold Oper.wp o4_closedp
     rw [run_len_p (n:=0) ((G sv 6 (by decide) (by decide)).trans f6) ,Oper.upon_value]
     exact ⟨_,rfl,Below.refl _ _,rfl⟩
   | 5,ho =>
     obtain rfl:o5_closedp=o:=Option.some.inj ho
     cases hd
     have f3:sv 3=Value.slice A 0 c:=hf ⟨0,.data⟩ (by simp [o5_closedp]) rfl _ 3 rfl rfl (NE _ (by decide))
     have f5:sv 5=Value.int .i64 0:=hf ⟨2,.data⟩ (by simp [o5_closedp]) rfl _ 5 rfl rfl (NE _ (by decide))
     have f7:sv 7=Value.int .i64 0:=hf ⟨4,.data⟩ (by simp [o5_closedp]) rfl _ 7 rfl rfl (NE _ (by decide))
     refine wpOp_plain' (o:=o5_closedp) rfl rfl ?_
     unfold Oper.wp o5_closedp
     rw [run_cut3_p (n:=0) ((G sv 3 (by decide) (by decide)).trans f3) ((G sv 5 (by decide) (by decide)).trans f5) ((G sv 7 (by decide) (by decide)).trans f7) (Nat.zero_le _),Oper.upon_value]
     exact ⟨_,rfl,Below.refl _ _,rfl⟩
   | 6,ho =>
     obtain rfl:o6_closedp=o:=Option.some.inj ho
     cases hd
     refine wpOp_plain' (o:=o6_closedp) rfl rfl ?_
     unfold Oper.wp o6_closedp
     rw [run_move (E0 sv),Oper.upon_value]
     exact ⟨_,rfl,Below.refl _ _,rfl⟩
   | 7,ho =>
     obtain rfl:o7_closedp=o:=Option.some.inj ho
     cases hd
     refine wpOp_plain' (o:=o7_closedp) rfl rfl ?_
     unfold Oper.wp o7_closedp
     rw [run_move (E0 sv),Oper.upon_value]
     exact ⟨_,rfl,Below.refl _ _,rfl⟩
   | 8,ho =>
     obtain rfl:o8_closedp=o:=Option.some.inj ho
     cases hd
     have f10:sv 10=Value.slice A 0 c:=hf ⟨7,.data⟩ (by simp [o8_closedp]) rfl _ 10 rfl rfl (NE _ (by decide))
     refine wpOp_plain' (o:=o8_closedp) rfl rfl ?_
     unfold Oper.wp o8_closedp
     rw [run_len_p (n:=0) ((G sv 10 (by decide) (by decide)).trans f10) ,Oper.upon_value]
     exact ⟨_,rfl,Below.refl _ _,rfl⟩
   | 9,ho =>
     obtain rfl:o9_closedp=o:=Option.some.inj ho
     cases hd
     have f11:sv 11=Value.int .i64 0:=hf ⟨8,.data⟩ (by simp [o9_closedp]) rfl _ 11 rfl rfl (NE _ (by decide))
     refine wpOp_plain' (o:=o9_closedp) rfl rfl ?_
     unfold Oper.wp o9_closedp
     rw [run_min0 ((G sv 11 (by decide) (by decide)).trans f11) (show (putAll ac L_closedp sv).eval (.const (Value.int IntKind.i64 1))=(Value.int IntKind.i64 1) from rfl) ,Oper.upon_value]
     exact ⟨_,rfl,Below.refl _ _,rfl⟩
   | 10,ho =>
     obtain rfl:o10_closedp=o:=Option.some.inj ho
     cases hd
     have f9:sv 9=Value.slice A 0 c:=hf ⟨6,.data⟩ (by simp [o10_closedp]) rfl _ 9 rfl rfl (NE _ (by decide))
     have f12:sv 12=Value.int .i64 0:=hf ⟨9,.data⟩ (by simp [o10_closedp]) rfl _ 12 rfl rfl (NE _ (by decide))
     refine wpOp_plain' (o:=o10_closedp) rfl rfl ?_
     unfold Oper.wp o10_closedp
     rw [run_cut2_p (m:=0) rfl (Nat.zero_le _) ((G sv 9 (by decide) (by decide)).trans f9) ((G sv 12 (by decide) (by decide)).trans f12) ,Oper.upon_value]
     exact ⟨_,rfl,Below.refl _ _,rfl⟩
   | 11,ho =>
     obtain rfl:o11_closedp=o:=Option.some.inj ho
     cases hd
     have f8:sv 8=Value.slice A 0 0:=hf ⟨5,.data⟩ (by simp [o11_closedp]) rfl _ 8 rfl rfl (NE _ (by decide))
     have f13:sv 13=Value.slice A 0 c:=hf ⟨10,.data⟩ (by simp [o11_closedp]) rfl _ 13 rfl rfl (NE _ (by decide))
     refine wpOp_plain' (o:=o11_closedp) rfl rfl ?_
     unfold Oper.wp o11_closedp
     rw [run_app0_p ((G sv 8 (by decide) (by decide)).trans f8) ((G sv 13 (by decide) (by decide)).trans f13) ,Oper.upon_value]
     exact ⟨_,rfl,Below.refl _ _,rfl⟩
   | 12,ho =>
     obtain rfl:o12_closedp=o:=Option.some.inj ho
     cases hd
     have f:=hf ⟨11,.data⟩ (by simp [o12_closedp]) rfl _ 14 rfl rfl (NE _ (by decide))
     refine wpOp_plain' (o:=o12_closedp) rfl rfl ?_
     unfold Oper.wp o12_closedp
     rw [run_assign (G sv 14 (by decide) (by decide)),Oper.upon_value]
     exact ⟨_,rfl,Below.refl _ _,f⟩
   | i+13,ho=>cases ho
 · intro p hp os sv w' g hos J0 p1 p3 hf
   cases hp
 · intro sv w' J0 hF hB hap
   exact hend sv w'  (hF 12 _ 2 rfl rfl (NE _ (by decide)))  J0
theorem closed_p {A:Option Addr} {n c base:Nat} {L:List PV} (hL:SV w A (pvs L)) (hn:L.length=n) (hm:n≤100000) (hnc:n≤c) (hbs:base≤w.heap.size) :
 Calls Tryz.prog 55 #[.slice A n c] w fun e w'=>∃ A' c',e=.returned (.slice A' (n+min 1 n) c')∧SNr 29 base n (pvs (L ++ L.take 1)) w' A'∧Below w.heap.size w w':=by
 rcases Nat.eq_zero_or_pos n with h0 | h0
 · subst h0
   go_enter Tryz.func55,Tryz.ntmps55
   go_upto_region 1 with (fail)
   refine nonep_region (by simp) rfl ?_
   intro V w' hv hh
   simp only [putAll,Act.put,List.setIfInBounds_toArray,List.set_cons_zero,List.set_cons_succ,hv]
   go_wp2_with fail
   (try rw [Exit.noGoto_ret])
   go_ret
   exact ⟨_,_,rfl,fun h=>absurd h (by omega),hh⟩
 · obtain ⟨g,o,rfl,_,_⟩:=hL (by rw [show (pvs L).length=L.length*6 from rows_length pvc_len L,hn];omega)
   go_enter Tryz.func55,Tryz.ntmps55
   go_upto_region 1 with (fail)
   refine closedp_region (by simp) rfl hL hn h0 hm hnc hbs ?_
   intro V w' hF hh
   obtain ⟨A',c',hv,hS⟩:=hF
   simp only [putAll,Act.put,List.setIfInBounds_toArray,List.set_cons_zero,List.set_cons_succ,hv]
   go_wp2_with fail
   (try rw [Exit.noGoto_ret])
   go_ret
   exact ⟨A',c',by rw [show n+min 1 n=n+1 by omega];rfl,hS,hh⟩
abbrev L_closedc:List Nat:=[3,4,5,6,7,8,9,10,11,12,13,14,2]
def o0_closedc:Oper:=⟨some 3,.move (.tmp 0),93, "area.go:53",#[],none⟩
def o1_closedc:Oper:=⟨some 4,.move (.tmp 0),93, "area.go:53",#[],none⟩
def o2_closedc:Oper:=⟨some 5,.call ⟨.builtin Builtin.len,#[.tmp 4],#[93]⟩,3, "area.go:53",#[⟨1,.data⟩],none⟩
def o3_closedc:Oper:=⟨some 6,.move (.tmp 0),93, "area.go:53",#[],none⟩
def o4_closedc:Oper:=⟨some 7,.call ⟨.builtin Builtin.len,#[.tmp 6],#[93]⟩,3, "area.go:53",#[⟨3,.data⟩],none⟩
def o5_closedc:Oper:=⟨some 8,.slice 93 (.tmp 3) none (some (.tmp 5)) (some (.tmp 7)),93, "area.go:53",#[⟨0,.data⟩,⟨2,.data⟩,⟨4,.data⟩],none⟩
def o6_closedc:Oper:=⟨some 9,.move (.tmp 0),93, "area.go:53",#[],none⟩
def o7_closedc:Oper:=⟨some 10,.move (.tmp 0),93, "area.go:53",#[],none⟩
def o8_closedc:Oper:=⟨some 11,.call ⟨.builtin Builtin.len,#[.tmp 10],#[93]⟩,3, "area.go:53",#[⟨7,.data⟩],none⟩
def o9_closedc:Oper:=⟨some 12,.call ⟨.builtin Builtin.min,#[.const (Value.int IntKind.i64 1),.tmp 11],#[3,3]⟩,3, "area.go:53",#[⟨8,.data⟩],none⟩
def o10_closedc:Oper:=⟨some 13,.slice 93 (.tmp 9) none (some (.tmp 12)) none,93, "area.go:53",#[⟨6,.data⟩,⟨9,.data⟩],none⟩
def o11_closedc:Oper:=⟨some 14,.call ⟨.builtin Builtin.append,#[.tmp 8,.tmp 13],#[93,93]⟩,93, "area.go:53",#[⟨5,.data⟩,⟨10,.data⟩],none⟩
def o12_closedc:Oper:=⟨some 2,.assign (.tmp 14),93, "area.go:53",#[⟨11,.data⟩,⟨11,.chain⟩,⟨0,.phase⟩,⟨1,.phase⟩,⟨2,.phase⟩,⟨3,.phase⟩,⟨4,.phase⟩,⟨5,.phase⟩,⟨6,.phase⟩,⟨7,.phase⟩,⟨8,.phase⟩,⟨9,.phase⟩,⟨10,.phase⟩,⟨11,.phase⟩],none⟩
def F_closedc (g:Nat) (o:Nat) (n:Nat) (c:Nat) (base:Nat) (L:List CV) (sl:Nat):Value→World→Prop :=
 match sl with
 | 3=>fun x _=>x=Value.slice (some ⟨g,o,none⟩) n c
 | 4=>fun x _=>x=Value.slice (some ⟨g,o,none⟩) n c
 | 5=>fun x _=>x=Value.int .i64 (n:Int)
 | 6=>fun x _=>x=Value.slice (some ⟨g,o,none⟩) n c
 | 7=>fun x _=>x=Value.int .i64 (n:Int)
 | 8=>fun x _=>x=Value.slice (some ⟨g,o,none⟩) n n
 | 9=>fun x _=>x=Value.slice (some ⟨g,o,none⟩) n c
 | 10=>fun x _=>x=Value.slice (some ⟨g,o,none⟩) n c
 | 11=>fun x _=>x=Value.int .i64 (n:Int)
 | 12=>fun x _=>x=Value.int .i64 1
 | 13=>fun x _=>x=Value.slice (some ⟨g,o,none⟩) 1 c
 | 14=>VSB (96) (base) (n) (n+1) (cvs (L ++ L.take 1))
 | 2=>VSB (96) (base) (n) (n+1) (cvs (L ++ L.take 1))
 | _=>fun _ _=>True
theorem closedc_region {id:Nat} {ac:Act} {Q:Exit→Act→World→Prop} {g o n c base:Nat} {L:List CV}
 (hsz:14 < ac.tmps.size) (e0:ac.eval (.tmp 0)=Value.slice (some ⟨g,o,none⟩) n c) (hL:SV w (some ⟨g,o,none⟩) (cvs L)) (hn:L.length=n) (h0:0 < n) (hm:n≤100000) (hnc:n≤c) (hbs:base≤w.heap.size)
 (hend:∀ (V:Nat→Value) (w':World),(VSB (96) (base) (n) (n+1) (cvs (L ++ L.take 1))) (V 2) w'→Below w.heap.size w w'→Q .normal (putAll ac [3,4,5,6,7,8,9,10,11,12,13,14,2] V) w') :
 (Code.region id #[o0_closedc,o1_closedc,o2_closedc,o3_closedc,o4_closedc,o5_closedc,o6_closedc,o7_closedc,o8_closedc,o9_closedc,o10_closedc,o11_closedc,o12_closedc] true).wp Tryz.prog Q ac w:=by
 have hnd:L_closedc.Nodup:=by decide
 have G:∀ (sv:Nat→Value) (t:Nat),t ∈ L_closedc→t≤14→(putAll ac L_closedc sv).eval (.tmp t)=sv t:=fun sv t ht h=>eval_putAll_mem (t:=t) L_closedc ac hnd ht (Nat.lt_of_le_of_lt h hsz)
 have E0:∀ sv:Nat→Value,(putAll ac L_closedc sv).eval (.tmp 0)=Value.slice (some ⟨g,o,none⟩) n c:=fun sv=>(eval_putAll_not (v:=sv) L_closedc ac (show 0 ∉ _ by decide)).trans e0
 have NE:∀ t:Nat,(True)→∀ p ∈ ([]:List BoxOp),t ≠ p.tA:=by
  intro t ht p hp
  cases hp
 refine wp_region_flowsT L_closedc ([]:List BoxOp) (F_closedc g o n c base L) (by kernel_rfl) (by kernel_rfl) rfl hnd ?_ ?_ ?_ ?_ ?_ ?_ ?_ ?_
 · intro p hp
   cases hp
 · intro p hp;cases hp
 · intro p hp;cases hp
 · intro i o h1 h2
   match i,h1 with
   | 0,h1=>cases h1;cases h2
   | 1,h1=>cases h1;cases h2
   | 2,h1=>cases h1;cases h2
   | 3,h1=>cases h1;cases h2
   | 4,h1=>cases h1;cases h2
   | 5,h1=>cases h1;cases h2
   | 6,h1=>cases h1;cases h2
   | 7,h1=>cases h1;cases h2
   | 8,h1=>cases h1;cases h2
   | 9,h1=>cases h1;cases h2
   | 10,h1=>cases h1;cases h2
   | 11,h1=>cases h1;cases h2
   | 12,h1=>cases h1;cases h2
   | i+13,h1=>cases h1
 · intro t
   unfold F_closedc
   split <;> first | exact (stays_eq _).inn _ | exact (stays_q _ _).inn _ | exact (stays_z _ _).inn _ | exact (stays_r _ _).inn _ | exact (stays_rq _ _).inn _ | exact (stays_pg _ _ _).inn _ | exact (stays_true).inn _ | exact stays_sb _ _ _ _ _ _ (fun p hp=>by cases hp)
 · intro i o t sv w' ho hia hd J0 hf
   have hL:=hL.below J0
   match i,ho with
   | 0,ho =>
     obtain rfl:o0_closedc=o:=Option.some.inj ho
     cases hd
     refine wpOp_plain' (o:=o0_closedc) rfl rfl ?_
     unfold Oper.wp o0_closedc
     rw [run_move (E0 sv),Oper.upon_value]
     exact ⟨_,rfl,Below.refl _ _,rfl⟩
   | 1,ho =>
     obtain rfl:o1_closedc=o:=Option.some.inj ho
     cases hd
     refine wpOp_plain' (o:=o1_closedc) rfl rfl ?_
     unfold Oper.wp o1_closedc
     rw [run_move (E0 sv),Oper.upon_value]
     exact ⟨_,rfl,Below.refl _ _,rfl⟩
   | 2,ho =>
     obtain rfl:o2_closedc=o:=Option.some.inj ho
     cases hd
     have f4:sv 4=Value.slice (some ⟨g,o,none⟩) n c:=hf ⟨1,.data⟩ (by simp [o2_closedc]) rfl _ 4 rfl rfl (NE _ (by decide))
     refine wpOp_plain' (o:=o2_closedc) rfl rfl ?_
     unfold Oper.wp o2_closedc
     rw [run_len_c ((G sv 4 (by decide) (by decide)).trans f4) ,Oper.upon_value]
     exact ⟨_,rfl,Below.refl _ _,rfl⟩
   | 3,ho =>
     obtain rfl:o3_closedc=o:=Option.some.inj ho
     cases hd
     refine wpOp_plain' (o:=o3_closedc) rfl rfl ?_
     unfold Oper.wp o3_closedc
     rw [run_move (E0 sv),Oper.upon_value]
     exact ⟨_,rfl,Below.refl _ _,rfl⟩
   | 4,ho =>
     obtain rfl:o4_closedc=o:=Option.some.inj ho
     cases hd
     have f6:sv 6=Value.slice (some ⟨g,o,none⟩) n c:=hf ⟨3,.data⟩ (by simp [o4_closedc]) rfl _ 6 rfl rfl (NE _ (by decide))
     refine wpOp_plain' (o:=o4_closedc) rfl rfl ?_
     unfold Oper.wp o4_closedc
     rw [run_len_c ((G sv 6 (by decide) (by decide)).trans f6) ,Oper.upon_value]
     exact ⟨_,rfl,Below.refl _ _,rfl⟩
   | 5,ho =>
     obtain rfl:o5_closedc=o:=Option.some.inj ho
     cases hd
     have f3:sv 3=Value.slice (some ⟨g,o,none⟩) n c:=hf ⟨0,.data⟩ (by simp [o5_closedc]) rfl _ 3 rfl rfl (NE _ (by decide))
     have f5:sv 5=Value.int .i64 (n:Int):=hf ⟨2,.data⟩ (by simp [o5_closedc]) rfl _ 5 rfl rfl (NE _ (by decide))
     have f7:sv 7=Value.int .i64 (n:Int):=hf ⟨4,.data⟩ (by simp [o5_closedc]) rfl _ 7 rfl rfl (NE _ (by decide))
     refine wpOp_plain' (o:=o5_closedc) rfl rfl ?_
     unfold Oper.wp o5_closedc
     rw [run_cut3_c ((G sv 3 (by decide) (by decide)).trans f3) ((G sv 5 (by decide) (by decide)).trans f5) ((G sv 7 (by decide) (by decide)).trans f7) hnc,Oper.upon_value]
     exact ⟨_,rfl,Below.refl _ _,rfl⟩
   | 6,ho =>
     obtain rfl:o6_closedc=o:=Option.some.inj ho
     cases hd
     refine wpOp_plain' (o:=o6_closedc) rfl rfl ?_
     unfold Oper.wp o6_closedc
     rw [run_move (E0 sv),Oper.upon_value]
     exact ⟨_,rfl,Below.refl _ _,rfl⟩
   | 7,ho =>
     obtain rfl:o7_closedc=o:=Option.some.inj ho
     cases hd
     refine wpOp_plain' (o:=o7_closedc) rfl rfl ?_
     unfold Oper.wp o7_closedc
     rw [run_move (E0 sv),Oper.upon_value]
     exact ⟨_,rfl,Below.refl _ _,rfl⟩
   | 8,ho =>
     obtain rfl:o8_closedc=o:=Option.some.inj ho
     cases hd
     have f10:sv 10=Value.slice (some ⟨g,o,none⟩) n c:=hf ⟨7,.data⟩ (by simp [o8_closedc]) rfl _ 10 rfl rfl (NE _ (by decide))
     refine wpOp_plain' (o:=o8_closedc) rfl rfl ?_
     unfold Oper.wp o8_closedc
     rw [run_len_c ((G sv 10 (by decide) (by decide)).trans f10) ,Oper.upon_value]
     exact ⟨_,rfl,Below.refl _ _,rfl⟩
   | 9,ho =>
     obtain rfl:o9_closedc=o:=Option.some.inj ho
     cases hd
     have f11:sv 11=Value.int .i64 (n:Int):=hf ⟨8,.data⟩ (by simp [o9_closedc]) rfl _ 11 rfl rfl (NE _ (by decide))
     refine wpOp_plain' (o:=o9_closedc) rfl rfl ?_
     unfold Oper.wp o9_closedc
     rw [run_min1 h0 ((G sv 11 (by decide) (by decide)).trans f11) (show (putAll ac L_closedc sv).eval (.const (Value.int IntKind.i64 1))=(Value.int IntKind.i64 1) from rfl) ,Oper.upon_value]
     exact ⟨_,rfl,Below.refl _ _,rfl⟩
   | 10,ho =>
     obtain rfl:o10_closedc=o:=Option.some.inj ho
     cases hd
     have f9:sv 9=Value.slice (some ⟨g,o,none⟩) n c:=hf ⟨6,.data⟩ (by simp [o10_closedc]) rfl _ 9 rfl rfl (NE _ (by decide))
     have f12:sv 12=Value.int .i64 1:=hf ⟨9,.data⟩ (by simp [o10_closedc]) rfl _ 12 rfl rfl (NE _ (by decide))
     refine wpOp_plain' (o:=o10_closedc) rfl rfl ?_
     unfold Oper.wp o10_closedc
     rw [run_cut2_c (m:=1) rfl (by omega) ((G sv 9 (by decide) (by decide)).trans f9) ((G sv 12 (by decide) (by decide)).trans f12) ,Oper.upon_value]
     exact ⟨_,rfl,Below.refl _ _,rfl⟩
   | 11,ho =>
     obtain rfl:o11_closedc=o:=Option.some.inj ho
     cases hd
     have f8:sv 8=Value.slice (some ⟨g,o,none⟩) n n:=hf ⟨5,.data⟩ (by simp [o11_closedc]) rfl _ 8 rfl rfl (NE _ (by decide))
     have f13:sv 13=Value.slice (some ⟨g,o,none⟩) 1 c:=hf ⟨10,.data⟩ (by simp [o11_closedc]) rfl _ 13 rfl rfl (NE _ (by decide))
     refine wpOp_plain' (o:=o11_closedc) rfl rfl ?_
     unfold Oper.wp o11_closedc
     obtain ⟨c2,w2,hr,hb2,hB⟩:=run_ring_c (w:=w') ((G sv 8 (by decide) (by decide)).trans f8) ((G sv 13 (by decide) (by decide)).trans f13) hL hn h0 hm
     rw [hr,Oper.upon_value]
     exact ⟨_,rfl,hb2,_,_,rfl,fun _=>⟨_,rfl,Nat.le_trans hbs J0.size,hB⟩⟩
   | 12,ho =>
     obtain rfl:o12_closedc=o:=Option.some.inj ho
     cases hd
     have f:=hf ⟨11,.data⟩ (by simp [o12_closedc]) rfl _ 14 rfl rfl (NE _ (by decide))
     refine wpOp_plain' (o:=o12_closedc) rfl rfl ?_
     unfold Oper.wp o12_closedc
     rw [run_assign (G sv 14 (by decide) (by decide)),Oper.upon_value]
     exact ⟨_,rfl,Below.refl _ _,f⟩
   | i+13,ho=>cases ho
 · intro p hp os sv w' g hos J0 p1 p3 hf
   cases hp
 · intro sv w' J0 hF hB hap
   exact hend sv w'   (hF 12 _ 2 rfl rfl (NE _ (by decide))) J0
def F_nonec (A:Option Addr) (c:Nat) (sl:Nat):Value→World→Prop :=
 match sl with
 | 3=>fun x _=>x=Value.slice A 0 c
 | 4=>fun x _=>x=Value.slice A 0 c
 | 5=>fun x _=>x=Value.int .i64 0
 | 6=>fun x _=>x=Value.slice A 0 c
 | 7=>fun x _=>x=Value.int .i64 0
 | 8=>fun x _=>x=Value.slice A 0 0
 | 9=>fun x _=>x=Value.slice A 0 c
 | 10=>fun x _=>x=Value.slice A 0 c
 | 11=>fun x _=>x=Value.int .i64 0
 | 12=>fun x _=>x=Value.int .i64 0
 | 13=>fun x _=>x=Value.slice A 0 c
 | 14=>fun x _=>x=Value.slice A 0 0
 | 2=>fun x _=>x=Value.slice A 0 0
 | _=>fun _ _=>True
theorem nonec_region {id:Nat} {ac:Act} {Q:Exit→Act→World→Prop} {A:Option Addr} {c:Nat}
 (hsz:14 < ac.tmps.size) (e0:ac.eval (.tmp 0)=Value.slice A 0 c) 
 (hend:∀ (V:Nat→Value) (w':World),V 2=Value.slice A 0 0→Below w.heap.size w w'→Q .normal (putAll ac [3,4,5,6,7,8,9,10,11,12,13,14,2] V) w') :
 (Code.region id #[o0_closedc,o1_closedc,o2_closedc,o3_closedc,o4_closedc,o5_closedc,o6_closedc,o7_closedc,o8_closedc,o9_closedc,o10_closedc,o11_closedc,o12_closedc] true).wp Tryz.prog Q ac w:=by
 have hnd:L_closedc.Nodup:=by decide
 have G:∀ (sv:Nat→Value) (t:Nat),t ∈ L_closedc→t≤14→(putAll ac L_closedc sv).eval (.tmp t)=sv t:=fun sv t ht h=>eval_putAll_mem (t:=t) L_closedc ac hnd ht (Nat.lt_of_le_of_lt h hsz)
 have E0:∀ sv:Nat→Value,(putAll ac L_closedc sv).eval (.tmp 0)=Value.slice A 0 c:=fun sv=>(eval_putAll_not (v:=sv) L_closedc ac (show 0 ∉ _ by decide)).trans e0
 have NE:∀ t:Nat,(True)→∀ p ∈ ([]:List BoxOp),t ≠ p.tA:=by
  intro t ht p hp
  cases hp
 refine wp_region_flowsT L_closedc ([]:List BoxOp) (F_nonec A c) (by kernel_rfl) (by kernel_rfl) rfl hnd ?_ ?_ ?_ ?_ ?_ ?_ ?_ ?_
 · intro p hp
   cases hp
 · intro p hp;cases hp
 · intro p hp;cases hp
 · intro i o h1 h2
   match i,h1 with
   | 0,h1=>cases h1;cases h2
   | 1,h1=>cases h1;cases h2
   | 2,h1=>cases h1;cases h2
   | 3,h1=>cases h1;cases h2
   | 4,h1=>cases h1;cases h2
   | 5,h1=>cases h1;cases h2
   | 6,h1=>cases h1;cases h2
   | 7,h1=>cases h1;cases h2
   | 8,h1=>cases h1;cases h2
   | 9,h1=>cases h1;cases h2
   | 10,h1=>cases h1;cases h2
   | 11,h1=>cases h1;cases h2
   | 12,h1=>cases h1;cases h2
   | i+13,h1=>cases h1
 · intro t
   unfold F_nonec
   split <;> first | exact (stays_eq _).inn _ | exact (stays_q _ _).inn _ | exact (stays_z _ _).inn _ | exact (stays_r _ _).inn _ | exact (stays_rq _ _).inn _ | exact (stays_pg _ _ _).inn _ | exact (stays_true).inn _
 · intro i o t sv w' ho hia hd J0 hf
   match i,ho with
   | 0,ho =>
     obtain rfl:o0_closedc=o:=Option.some.inj ho
     cases hd
     refine wpOp_plain' (o:=o0_closedc) rfl rfl ?_
     unfold Oper.wp o0_closedc
     rw [run_move (E0 sv),Oper.upon_value]
     exact ⟨_,rfl,Below.refl _ _,rfl⟩
   | 1,ho =>
     obtain rfl:o1_closedc=o:=Option.some.inj ho
     cases hd
     refine wpOp_plain' (o:=o1_closedc) rfl rfl ?_
     unfold Oper.wp o1_closedc
     rw [run_move (E0 sv),Oper.upon_value]
     exact ⟨_,rfl,Below.refl _ _,rfl⟩
   | 2,ho =>
     obtain rfl:o2_closedc=o:=Option.some.inj ho
     cases hd
     have f4:sv 4=Value.slice A 0 c:=hf ⟨1,.data⟩ (by simp [o2_closedc]) rfl _ 4 rfl rfl (NE _ (by decide))
     refine wpOp_plain' (o:=o2_closedc) rfl rfl ?_
     unfold Oper.wp o2_closedc
     rw [run_len_c (n:=0) ((G sv 4 (by decide) (by decide)).trans f4) ,Oper.upon_value]
     exact ⟨_,rfl,Below.refl _ _,rfl⟩
   | 3,ho =>
     obtain rfl:o3_closedc=o:=Option.some.inj ho
     cases hd
     refine wpOp_plain' (o:=o3_closedc) rfl rfl ?_
     unfold Oper.wp o3_closedc
     rw [run_move (E0 sv),Oper.upon_value]
     exact ⟨_,rfl,Below.refl _ _,rfl⟩
   | 4,ho =>
     obtain rfl:o4_closedc=o:=Option.some.inj ho
     cases hd
     have f6:sv 6=Value.slice A 0 c:=hf ⟨3,.data⟩ (by simp [o4_closedc]) rfl _ 6 rfl rfl (NE _ (by decide))
     refine wpOp_plain' (o:=o4_closedc) rfl rfl ?_
     unfold Oper.wp o4_closedc
     rw [run_len_c (n:=0) ((G sv 6 (by decide) (by decide)).trans f6) ,Oper.upon_value]
     exact ⟨_,rfl,Below.refl _ _,rfl⟩
   | 5,ho =>
     obtain rfl:o5_closedc=o:=Option.some.inj ho
     cases hd
     have f3:sv 3=Value.slice A 0 c:=hf ⟨0,.data⟩ (by simp [o5_closedc]) rfl _ 3 rfl rfl (NE _ (by decide))
     have f5:sv 5=Value.int .i64 0:=hf ⟨2,.data⟩ (by simp [o5_closedc]) rfl _ 5 rfl rfl (NE _ (by decide))
     have f7:sv 7=Value.int .i64 0:=hf ⟨4,.data⟩ (by simp [o5_closedc]) rfl _ 7 rfl rfl (NE _ (by decide))
     refine wpOp_plain' (o:=o5_closedc) rfl rfl ?_
     unfold Oper.wp o5_closedc
     rw [run_cut3_c (n:=0) ((G sv 3 (by decide) (by decide)).trans f3) ((G sv 5 (by decide) (by decide)).trans f5) ((G sv 7 (by decide) (by decide)).trans f7) (Nat.zero_le _),Oper.upon_value]
     exact ⟨_,rfl,Below.refl _ _,rfl⟩
   | 6,ho =>
     obtain rfl:o6_closedc=o:=Option.some.inj ho
     cases hd
     refine wpOp_plain' (o:=o6_closedc) rfl rfl ?_
     unfold Oper.wp o6_closedc
     rw [run_move (E0 sv),Oper.upon_value]
     exact ⟨_,rfl,Below.refl _ _,rfl⟩
   | 7,ho =>
     obtain rfl:o7_closedc=o:=Option.some.inj ho
     cases hd
     refine wpOp_plain' (o:=o7_closedc) rfl rfl ?_
     unfold Oper.wp o7_closedc
     rw [run_move (E0 sv),Oper.upon_value]
     exact ⟨_,rfl,Below.refl _ _,rfl⟩
   | 8,ho =>
     obtain rfl:o8_closedc=o:=Option.some.inj ho
     cases hd
     have f10:sv 10=Value.slice A 0 c:=hf ⟨7,.data⟩ (by simp [o8_closedc]) rfl _ 10 rfl rfl (NE _ (by decide))
     refine wpOp_plain' (o:=o8_closedc) rfl rfl ?_
     unfold Oper.wp o8_closedc
     rw [run_len_c (n:=0) ((G sv 10 (by decide) (by decide)).trans f10) ,Oper.upon_value]
     exact ⟨_,rfl,Below.refl _ _,rfl⟩
   | 9,ho =>
     obtain rfl:o9_closedc=o:=Option.some.inj ho
     cases hd
     have f11:sv 11=Value.int .i64 0:=hf ⟨8,.data⟩ (by simp [o9_closedc]) rfl _ 11 rfl rfl (NE _ (by decide))
     refine wpOp_plain' (o:=o9_closedc) rfl rfl ?_
     unfold Oper.wp o9_closedc
     rw [run_min0 ((G sv 11 (by decide) (by decide)).trans f11) (show (putAll ac L_closedc sv).eval (.const (Value.int IntKind.i64 1))=(Value.int IntKind.i64 1) from rfl) ,Oper.upon_value]
     exact ⟨_,rfl,Below.refl _ _,rfl⟩
   | 10,ho =>
     obtain rfl:o10_closedc=o:=Option.some.inj ho
     cases hd
     have f9:sv 9=Value.slice A 0 c:=hf ⟨6,.data⟩ (by simp [o10_closedc]) rfl _ 9 rfl rfl (NE _ (by decide))
     have f12:sv 12=Value.int .i64 0:=hf ⟨9,.data⟩ (by simp [o10_closedc]) rfl _ 12 rfl rfl (NE _ (by decide))
     refine wpOp_plain' (o:=o10_closedc) rfl rfl ?_
     unfold Oper.wp o10_closedc
     rw [run_cut2_c (m:=0) rfl (Nat.zero_le _) ((G sv 9 (by decide) (by decide)).trans f9) ((G sv 12 (by decide) (by decide)).trans f12) ,Oper.upon_value]
     exact ⟨_,rfl,Below.refl _ _,rfl⟩
   | 11,ho =>
     obtain rfl:o11_closedc=o:=Option.some.inj ho
     cases hd
     have f8:sv 8=Value.slice A 0 0:=hf ⟨5,.data⟩ (by simp [o11_closedc]) rfl _ 8 rfl rfl (NE _ (by decide))
     have f13:sv 13=Value.slice A 0 c:=hf ⟨10,.data⟩ (by simp [o11_closedc]) rfl _ 13 rfl rfl (NE _ (by decide))
     refine wpOp_plain' (o:=o11_closedc) rfl rfl ?_
     unfold Oper.wp o11_closedc
     rw [run_app0_c ((G sv 8 (by decide) (by decide)).trans f8) ((G sv 13 (by decide) (by decide)).trans f13) ,Oper.upon_value]
     exact ⟨_,rfl,Below.refl _ _,rfl⟩
   | 12,ho =>
     obtain rfl:o12_closedc=o:=Option.some.inj ho
     cases hd
     have f:=hf ⟨11,.data⟩ (by simp [o12_closedc]) rfl _ 14 rfl rfl (NE _ (by decide))
     refine wpOp_plain' (o:=o12_closedc) rfl rfl ?_
     unfold Oper.wp o12_closedc
     rw [run_assign (G sv 14 (by decide) (by decide)),Oper.upon_value]
     exact ⟨_,rfl,Below.refl _ _,f⟩
   | i+13,ho=>cases ho
 · intro p hp os sv w' g hos J0 p1 p3 hf
   cases hp
 · intro sv w' J0 hF hB hap
   exact hend sv w'  (hF 12 _ 2 rfl rfl (NE _ (by decide)))  J0
theorem closed_c {A:Option Addr} {n c base:Nat} {L:List CV} (hL:SV w A (cvs L)) (hn:L.length=n) (hm:n≤100000) (hnc:n≤c) (hbs:base≤w.heap.size) :
 Calls Tryz.prog 67 #[.slice A n c] w fun e w'=>∃ A' c',e=.returned (.slice A' (n+min 1 n) c')∧SNr 96 base n (cvs (L ++ L.take 1)) w' A'∧Below w.heap.size w w':=by
 rcases Nat.eq_zero_or_pos n with h0 | h0
 · subst h0
   go_enter Tryz.func67,Tryz.ntmps67
   go_upto_region 1 with (fail)
   refine nonec_region (by simp) rfl ?_
   intro V w' hv hh
   simp only [putAll,Act.put,List.setIfInBounds_toArray,List.set_cons_zero,List.set_cons_succ,hv]
   go_wp2_with fail
   (try rw [Exit.noGoto_ret])
   go_ret
   exact ⟨_,_,rfl,fun h=>absurd h (by omega),hh⟩
 · obtain ⟨g,o,rfl,_,_⟩:=hL (by rw [show (cvs L).length=L.length*9 from rows_length cvc_len L,hn];omega)
   go_enter Tryz.func67,Tryz.ntmps67
   go_upto_region 1 with (fail)
   refine closedc_region (by simp) rfl hL hn h0 hm hnc hbs ?_
   intro V w' hF hh
   obtain ⟨A',c',hv,hS⟩:=hF
   simp only [putAll,Act.put,List.setIfInBounds_toArray,List.set_cons_zero,List.set_cons_succ,hv]
   go_wp2_with fail
   (try rw [Exit.noGoto_ret])
   go_ret
   exact ⟨A',c',by rw [show n+min 1 n=n+1 by omega];rfl,hS,hh⟩
end
section
open Go Go.RowKit
def EachQ (w:World) (L:List QV) (l:List Rat) (k:Nat):Prop:=L.length=l.length∧∀ (i:Nat) (p:QV) (v:Rat),L[i]?=some p→l[i]?=some v→QG w p.s p.A p.n p.c p.B p.m p.d v k
section
variable {w w':World} {L:List QV} {l:List Rat} {k:Nat}
theorem EachQ.below (h:EachQ w L l k) (hb:Below w.heap.size w w'):EachQ w' L l k:=⟨h.1,fun i p v h1 h2=>(h.2 i p v h1 h2).below hb⟩
theorem EachQ.box {T:TypeId} {g:Nat} {cs:Array Value} (h:EachQ w L l k) (B:BoxAt T w g cs) (ho:Only g w w'):EachQ w' L l k:=⟨h.1,fun i p v h1 h2=>(h.2 i p v h1 h2).box B ho⟩
theorem EachQ.take (h:EachQ w L l k) (m:Nat):EachQ w (L.take m) (l.take m) k:=by
 refine ⟨by rw [List.length_take,List.length_take,h.1],fun i p v h1 h2=>?_⟩
 rw [List.getElem?_take] at h1 h2
 split at h1
 · rename_i q;rw [if_pos q] at h2;exact h.2 i p v h1 h2
 · cases h1
theorem EachQ.drop (h:EachQ w L l k) (m:Nat):EachQ w (L.drop m) (l.drop m) k:=by
 refine ⟨by rw [List.length_drop,List.length_drop,h.1],fun i p v h1 h2=>?_⟩
 rw [List.getElem?_drop] at h1 h2
 exact h.2 _ p v h1 h2
theorem EachQ.push {p:QV} {v:Rat} (h:EachQ w L l k) (hp:QG w p.s p.A p.n p.c p.B p.m p.d v k):EachQ w (L ++ [p]) (l ++ [v]) k:=by
 refine ⟨by rw [List.length_append,List.length_append,h.1];rfl,fun i q u h1 h2=>?_⟩
 rcases Nat.lt_or_ge i L.length with hi | hi
 · rw [List.getElem?_append_left hi] at h1
   rw [List.getElem?_append_left (by rw [← h.1];exact hi)] at h2
   exact h.2 i q u h1 h2
 · rw [List.getElem?_append_right hi] at h1
   rw [List.getElem?_append_right (by rw [← h.1];exact hi),← h.1] at h2
   obtain ⟨j,hj⟩:∃ j,i - L.length=j:=⟨_,rfl⟩
   rw [hj] at h1 h2
   match j,h1,h2 with
   | 0,h1,h2=>cases h1;cases h2;exact hp
   | j+1,h1,h2=>simp at h1
end
def qsum (l:List Rat):Rat:=l.foldr (·+·) 0
theorem qsum_append (l m:List Rat):qsum (l ++ m)=qsum l+qsum m:=by
 induction l with
 | nil=>rw [List.nil_append,show qsum []=0 from rfl,Rat.zero_add]
 | cons v l ih=>rw [List.cons_append,show qsum (v :: (l ++ m))=v+qsum (l ++ m) from rfl,show qsum (v :: l)=v+qsum l from rfl,ih,Rat.add_assoc]
theorem SV.take {A:Option Addr} {L:List QV} (h:SV w A (qvs L)) (m:Nat):SV w A (qvs (L.take m)):=fun hn=>by
 have e:qvs L=qvs (L.take m) ++ qvs (L.drop m):=by rw [← qvs_append,List.take_append_drop]
 obtain ⟨g,o,e1,h1,h2⟩:=h (by rw [e,List.length_append];omega)
 refine ⟨g,o,e1,h1,fun j u hu=>h2 j u ?_⟩
 rw [e,List.getElem?_append_left (List.getElem?_eq_some_iff.1 hu).1];exact hu
theorem SV.drop {g o:Nat} {L:List QV} (h:SV w (some ⟨g,o,none⟩) (qvs L)) (m:Nat) (hm:m≤L.length):SV w (some ⟨g,o+m*3,none⟩) (qvs (L.drop m)):=fun hn=>by
 have e:qvs L=qvs (L.take m) ++ qvs (L.drop m):=by rw [← qvs_append,List.take_append_drop]
 have hl:(qvs (L.take m)).length=m*3:=by rw [show (qvs (L.take m)).length=(L.take m).length*3 from rows_length qvc_len _,List.length_take,Nat.min_eq_left hm]
 obtain ⟨g2,o2,e1,h1,h2⟩:=h (by rw [e,List.length_append];omega)
 cases e1
 refine ⟨_,_,rfl,h1,fun j u hu=>?_⟩
 rw [Nat.add_assoc]
 refine h2 (m*3+j) u ?_
 rw [e,List.getElem?_append_right (by omega),hl,Nat.add_sub_cancel_left];exact hu
theorem total_0 {A:Option Addr} {c:Nat}:Calls Tryz.prog 57 #[.slice A 0 c] w (GivesQ w 0 1):=by
 go_enter Tryz.func57,Tryz.ntmps57
 go_wp2_with fail
 generalize hW:World.alloc _ _=W
 obtain ⟨hb,Z,hzW⟩:=mkbx9_8 hW;clear hW;have zf0:=Z.f0;have zf1:=Z.f1;have zf2:=Z.f2;obtain ⟨z0,z1,z2⟩:=Z.all
 go_wp2_with (first
  | (go_at_call 35;(with_reducible refine (rof_q 0 1 (by decide) (by decide) (by decide) (by decide) (by decide) _).mono ?_);rintro e w_r ⟨s_r,A_r,n_r,c_r,B_r,m_r,d_r,rfl,r,hh⟩
     replace Z:=Z.below hh;replace hb:=bend hb hh;have zf0:=Z.f0;have zf1:=Z.f1;have zf2:=Z.f2;obtain ⟨z0,z1,z2⟩:=Z.all))
 rw [show Rat.divInt 0 1=0 from by decide +kernel] at r
 have Z2:=Z.set3 (.bool s_r) (.slice A_r n_r c_r) (.slice B_r m_r d_r)
 obtain ⟨g0,g1,g2⟩:=Z2.all
 refine bodyPost_ret (v:=.agg #[.bool s_r,.slice A_r n_r c_r,.slice B_r m_r d_r]) (by simp [results,Tryz.results57,go_sem,g0,g1,g2]) rfl ?_
 exact ⟨s_r,A_r,n_r,c_r,B_r,m_r,d_r,rfl,r.set3 Z _ _ _,below_set3 hb (Nat.le_refl _) _ _ _⟩
theorem total_1 {A:Option Addr} {c k:Nat} {p:QV} {v:Rat} (h:SV w A (qvs [p])) (r:QG w p.s p.A p.n p.c p.B p.m p.d v k):Calls Tryz.prog 57 #[.slice A 1 c] w (GivesQ w v k):=by
 obtain ⟨g,o,hix0,E,_⟩:=h.qt (i:=0) (p:=p) rfl
 obtain ⟨s_r,A_r,n_r,c_r,B_r,m_r,d_r⟩:=p
 have hix:=hix0 1 c
 simp only [Nat.lt_one_iff,forall_const] at hix
 replace hix:∀ w',(Instr.indexAt 85 (.slice A 1 c) (.int .i64 0)).run Tryz.prog w'=.ok (.pointer (some ⟨g,o,none⟩)) w':=fun w'=>hix0 1 c w' (by omega)
 clear hix0 h
 go_enter Tryz.func57,Tryz.ntmps57
 go_upto_region 1 with (fail)
 generalize hW:World.alloc _ _=W
 obtain ⟨hb,Z,hzW⟩:=mkbx9_8 hW;clear hW;replace r:=r.below hb;replace E:=E.below hb;have zf0:=Z.f0;have zf1:=Z.f1;have zf2:=Z.f2;obtain ⟨z0,z1,z2⟩:=Z.all;obtain ⟨e0,e1,e2⟩:=E.all
 simp only at e0 e1 e2
 go_wp2_with fail
 have Z2:=Z.set3 (.bool s_r) (.slice A_r n_r c_r) (.slice B_r m_r d_r)
 obtain ⟨g0,g1,g2⟩:=Z2.all
 refine bodyPost_ret (v:=.agg #[.bool s_r,.slice A_r n_r c_r,.slice B_r m_r d_r]) (by simp [results,Tryz.results57,go_sem,g0,g1,g2]) rfl ?_
 exact ⟨s_r,A_r,n_r,c_r,B_r,m_r,d_r,rfl,r.set3 Z _ _ _,below_set3 hb (Nat.le_refl _) _ _ _⟩
theorem total_q (n:Nat):∀ {w:World} {A:Option Addr} {c k:Nat} {L:List QV} {l:List Rat},SV w A (qvs L)→EachQ w L l k→L.length=n→1≤n→n≤c→n≤100000→1≤k→n*(k+2)≤400→Calls Tryz.prog 57 #[.slice A n c] w (GivesQ w (qsum l) (n*(k+2) - 1)):=by
 induction n using Nat.strongRecOn with
 | ind n ih =>
   intro w A c k L l hS hE hn h1 hc h63 hk hB
   rcases Nat.lt_or_ge 1 n with h2 | h2
   · obtain ⟨h,hh⟩:∃ h,n / 2=h:=⟨_,rfl⟩
     have b1:1≤h:=by omega
     have b2:h < n:=by omega
     have hm1:(h+(n - h))*(k+2)=h*(k+2)+(n - h)*(k+2):=Nat.add_mul _ _ _
     rw [show h+(n - h)=n by omega] at hm1
     have hp1:=Nat.mul_le_mul b1 (Nat.le_refl (k+2))
     have hp2:=Nat.mul_le_mul (show 1≤n - h by omega) (Nat.le_refl (k+2))
     obtain ⟨g,o,rfl,_,_⟩:=hS (by rw [show (qvs L).length=L.length*3 from rows_length qvc_len L];omega)
     have i1:=fun (w':World) (hb:Below w.heap.size w w')=>ih h (by omega) ((hS.below hb).take h) ((hE.below hb).take h) (by rw [List.length_take];omega) b1 (show h≤c by omega) (by omega) hk (by omega)
     have i2:=fun (w':World) (hb:Below w.heap.size w w')=>ih (n - h) (by omega) ((hS.below hb).drop h (by omega)) ((hE.below hb).drop h) (by rw [List.length_drop];omega) (by omega) (show n - h≤c - h by omega) (by omega) hk (by omega)
     obtain ⟨k1,e1⟩:∃ k1,h*(k+2) - 1=k1:=⟨_,rfl⟩
     obtain ⟨k2,e2⟩:∃ k2,(n - h)*(k+2) - 1=k2:=⟨_,rfl⟩
     rw [show n*(k+2) - 1=k1+k2+1 by omega,show qsum l=qsum (l.take h)+qsum (l.drop h) by rw [← qsum_append,List.take_append_drop]]
     rw [e1] at i1;rw [e2] at i2;have I1:=Lib.hid i1;have I2:=Lib.hid i2
     have l1:k1≤400:=by omega
     have l2:k2≤400:=by omega
     have l3:1≤k1:=by omega
     have l4:1≤k2:=by omega
     have h0:¬ n=0:=by omega
     have h3:¬ n=1:=by omega
     have h4:(h:Int)≤(c:Int):=by omega
     have h5:¬ c=h:=by omega
     have h7:(h:Int)≤(n:Int):=by omega
     have h8:(n:Int)≤(c:Int):=by omega
     have h6:((n:Int)).tdiv 2=(h:Int):=by rw [Int.tdiv_eq_ediv_of_nonneg (by omega)];omega
     clear hm1 hp1 hp2 i1 i2 e1 e2 hS hE ih hB
     go_enter Tryz.func57,Tryz.ntmps57
     go_wp2_with fail
     generalize hW:World.alloc _ _=W
     obtain ⟨hb,Z,hzW⟩:=mkbx9_8 hW;clear hW;have zf0:=Z.f0;have zf1:=Z.f1;have zf2:=Z.f2;obtain ⟨z0,z1,z2⟩:=Z.all
     go_upto_region 7 with (fail)
     replace Z:=Z.below (Below.refl _ _).drew
     replace hb:=hb.drew;have zf0:=Z.f0;have zf1:=Z.f1;have zf2:=Z.f2;obtain ⟨z0,z1,z2⟩:=Z.all
     go_region_held3 (fun _=>True)
      (first | exact trivial)
      (first
      | (go_at_call 57;(with_reducible refine (I1.out _ hb).mono ?_);rintro e w_x ⟨s_x,A_x,n_x,c_x,B_x,m_x,d_x,rfl,x,hh⟩
         (try replace Z:=Z.below hh);(try replace y:=y.below hh);replace hb:=bend hb hh;have zf0:=Z.f0;have zf1:=Z.f1;have zf2:=Z.f2;obtain ⟨z0,z1,z2⟩:=Z.all)
      | (go_at_call 57;(with_reducible refine (I2.out _ hb).mono ?_);rintro e w_y ⟨s_y,A_y,n_y,c_y,B_y,m_y,d_y,rfl,y,hh⟩
         (try replace Z:=Z.below hh);(try replace x:=x.below hh);replace hb:=bend hb hh;have zf0:=Z.f0;have zf1:=Z.f1;have zf2:=Z.f2;obtain ⟨z0,z1,z2⟩:=Z.all)
      | (go_at_call 30;(with_reducible refine (radd_q x.qr y.qr l1 l2 (.inl l1) l3 l4).mono ?_);rintro e w_r ⟨s_r,A_r,n_r,c_r,B_r,m_r,d_r,rfl,r,hh⟩
         (try replace Z:=Z.below hh);replace hb:=bend hb hh;have zf0:=Z.f0;have zf1:=Z.f1;have zf2:=Z.f2;obtain ⟨z0,z1,z2⟩:=Z.all))
     go_wp2_with fail
     have Z2:=Z.set3 (.bool s_r) (.slice A_r n_r c_r) (.slice B_r m_r d_r)
     obtain ⟨g0,g1,g2⟩:=Z2.all
     refine bodyPost_ret (v:=.agg #[.bool s_r,.slice A_r n_r c_r,.slice B_r m_r d_r]) (by simp [results,Tryz.results57,go_sem,g0,g1,g2]) rfl ?_
     exact ⟨s_r,A_r,n_r,c_r,B_r,m_r,d_r,rfl,r.set3 Z _ _ _,below_set3 hb (Nat.le_refl _) _ _ _⟩
   · obtain rfl:n=1:=by omega
     have hl:=hE.1
     match L,l,hn,hl with
     | [p],[v],_,_ =>
       have r:=hE.2 0 p v rfl rfl
       rw [show qsum [v]=v from Rat.add_zero v]
       refine (total_1 hS r).mono ?_
       rintro e w' ⟨s_r,A_r,n_r,c_r,B_r,m_r,d_r,e1,r2,hh⟩
       exact ⟨s_r,A_r,n_r,c_r,B_r,m_r,d_r,e1,r2.more (by omega),hh⟩
end
section
open Go Go.RowKit
theorem BoxAt.setq {T:TypeId} {g m:Nat} {M:List QV} (h:BoxAt T w g (qvs M).toArray) (hm:m < M.length) (q:QV) :
 BoxAt T (((w.setCell ⟨g,m*3,none⟩ (.bool q.s)).setCell ⟨g,m*3+1,none⟩ (.slice q.A q.n q.c)).setCell ⟨g,m*3+2,none⟩ (.slice q.B q.m q.d)) g (qvs (M.set m q)).toArray:=by
 refine ⟨?_,arr_free (qvs_free _)⟩
 have h0:=h.at_
 have e:((((qvs M).toArray.setIfInBounds (m*3) (.bool q.s)).setIfInBounds (m*3+1) (.slice q.A q.n q.c)).setIfInBounds (m*3+2) (.slice q.B q.m q.d))=(qvs (M.set m q)).toArray:=by
  apply Array.ext'
  simp only [List.setIfInBounds_toArray,List.toList_toArray]
  apply List.ext_getElem?
  intro j
  have hl:(qvs M).length=M.length*3:=rows_length qvc_len M
  have:=rows_set qvc_len hm q j
  rw [show (qvs (M.set m q))[j]?=_ from this]
  simp only [List.getElem?_set,List.length_set,hl]
  by_cases h0:j=m*3
  · subst h0;rw [if_neg (by omega),if_neg (by omega),if_pos rfl,if_pos (by omega),if_pos (by omega),Nat.sub_self];rfl
  · by_cases h1:j=m*3+1
    · subst h1;rw [if_neg (by omega),if_pos rfl,if_pos (by omega),if_pos (by omega),Nat.add_sub_cancel_left];rfl
    · by_cases h2:j=m*3+2
      · subst h2;rw [if_pos rfl,if_pos (by omega),if_pos (by omega),Nat.add_sub_cancel_left];rfl
      · rw [if_neg (by omega),if_neg (by omega),if_neg (by omega),if_neg (by omega)];rfl
 have e2:=congrArg Array.toList e
 simp only [List.setIfInBounds_toArray,List.toList_toArray] at e2
 simp [World.setCell,Array.getElem?_modify,h0,e2]
theorem total_any {A:Option Addr} {n c k:Nat} {L:List QV} {l:List Rat} (hS:SV w A (qvs L)) (hE:EachQ w L l k) (hn:L.length=n) (hc:n≤c) (h63:n≤100000) (hk:1≤k) (hB:n*(k+2)≤400):Calls Tryz.prog 57 #[.slice A n c] w (GivesQ w (qsum l) (n*(k+2)+1)):=by
 rcases Nat.eq_zero_or_pos n with h0 | h0
 · subst h0
   have:l=[]:=List.eq_nil_of_length_eq_zero (by rw [← hE.1,hn])
   subst this
   refine total_0.mono ?_
   rintro e w' ⟨s_r,A_r,n_r,c_r,B_r,m_r,d_r,e1,r2,hh⟩
   exact ⟨s_r,A_r,n_r,c_r,B_r,m_r,d_r,e1,r2.more (by omega),hh⟩
 · refine (total_q n hS hE hn h0 hc h63 hk hB).mono ?_
   rintro e w' ⟨s_r,A_r,n_r,c_r,B_r,m_r,d_r,e1,r2,hh⟩
   exact ⟨s_r,A_r,n_r,c_r,B_r,m_r,d_r,e1,r2.more (by omega),hh⟩
theorem onlyq (w:World) (g o:Nat) (a b c:Value):Only g w (((w.setCell ⟨g,o,none⟩ a).setCell ⟨g,o+1,none⟩ b).setCell ⟨g,o+2,none⟩ c):=(((Only.refl g w).setCell o a).setCell (o+1) b).setCell (o+2) c
theorem BoxAt.frz {T:TypeId} {g j:Nat} {cs:Array Value} (h:BoxAt T w g cs):w.frozen? ⟨g,j,none⟩=false:=frozen_of_row w g j _ _ h.at_
theorem take_set {α:Type} {M:List α} {m:Nat} (hm:m < M.length) (q:α):(M.set m q).take (m+1)=M.take m ++ [q]:=by
 rw [List.take_succ_eq_append_getElem (by rw [List.length_set];exact hm),List.getElem_set_self,List.take_set_of_le (Nat.le_refl _)]
theorem SNr.box {T T':TypeId} {base n k:Nat} {vs:List Value} {w w':World} {A:Option Addr} {cs:Array Value} (h:SNr T base n vs w A) (hB:BoxAt T' w k cs) (hne:T ≠ T' ∨ cs.size < vs.length) (ho:Only k w w'):SNr T base n vs w' A:=fun hn=>by
 obtain ⟨g,e,h1,h2⟩:=h hn
 obtain ⟨cs2,h3,h4,_⟩:=id h2
 exact ⟨g,e,h1,h2.rest (BoxAt.ne h3 hB (hne.imp id (fun q=>by omega))) ho⟩
theorem setq_cell (W:World) (g k o p:Nat) (x y z:Value) (h:k ≠ g):(((W.setCell ⟨g,o,none⟩ x).setCell ⟨g,o+1,none⟩ y).setCell ⟨g,o+2,none⟩ z).cell? ⟨k,p,none⟩=W.cell? ⟨k,p,none⟩:=by
 rw [World.cell?_of_block (Below.heap_setCell _ _ _ _ h),World.cell?_of_block (Below.heap_setCell _ _ _ _ h),World.cell?_of_block (Below.heap_setCell _ _ _ _ h)]
def ringL {α:Type} (l:List α):List α:=l ++ l.take 1
theorem ringL_len {α:Type} (l:List α) (h:0 < l.length):(ringL l).length=l.length+1:=by unfold ringL;rw [List.length_append,List.length_take];omega
theorem ringL_at {α:Type} {l:List α} {i:Nat} (h:i < l.length):(ringL l)[i]?=l[i]?:=by unfold ringL;rw [List.getElem?_append_left h]
theorem Each.ring {G:World→PV→Rat × Rat→Nat→Prop} {L:List PV} {l:List (Rat × Rat)} {k:Nat} (h:Each G w L l k):Each G w (ringL L) (ringL l) k:=by
 refine ⟨by unfold ringL;rw [List.length_append,List.length_append,List.length_take,List.length_take,h.1],fun i p u hp hu=>?_⟩
 unfold ringL at hp hu
 rcases Nat.lt_or_ge i L.length with hi | hi
 · rw [List.getElem?_append_left hi] at hp
   rw [List.getElem?_append_left (by rw [← h.1];exact hi)] at hu
   exact h.2 i p u hp hu
 · rw [List.getElem?_append_right hi] at hp
   rw [List.getElem?_append_right (by rw [← h.1];exact hi),← h.1] at hu
   rw [List.getElem?_take] at hp hu
   split at hp
   · rename_i q;rw [if_pos q] at hu;exact h.2 _ p u hp hu
   · cases hp
def crossP (u v:Rat × Rat):Rat:=u.1*v.2 - u.2*v.1
def crosses (l:List (Rat × Rat)):List Rat:=List.zipWith crossP (ringL l) (ringL l).tail
theorem crosses_at {l:List (Rat × Rat)} {i:Nat} {u v:Rat × Rat} (hu:(ringL l)[i]?=some u) (hv:(ringL l)[i+1]?=some v):(crosses l)[i]?=some (crossP u v):=by
 unfold crosses
 rw [List.getElem?_zipWith,hu,List.getElem?_tail,hv]
theorem crosses_len (l:List (Rat × Rat)):(crosses l).length=l.length:=by
 unfold crosses
 rw [List.length_zipWith,List.length_tail]
 rcases Nat.eq_zero_or_pos l.length with h | h
 · rw [List.length_eq_zero_iff] at h;subst h;rfl
 · rw [ringL_len l h];omega
theorem take_snoc {α:Type} {l:List α} {m:Nat} {u:α} (h:l[m]?=some u):l.take (m+1)=l.take m ++ [u]:=by
 obtain ⟨hm,hv⟩:=List.getElem?_eq_some_iff.1 h
 rw [List.take_succ_eq_append_getElem hm,hv]
theorem BoxAt.q3 {T:TypeId} {g m:Nat} {M:List QV} {p:QV} (h:BoxAt T w g (qvs M).toArray) (hp:M[m]?=some p):E3x w g (m*3) p:=by
 have key:∀ j,j < 3→∀ u,p.cells[j]?=some u→w.cell? ⟨g,m*3+j,none⟩=some u:=fun j hj u hu=>by
  rw [cell_of_row w g (m*3+j) _ _ (0,0) h.at_,← hu,← rows_get qvc_len hp hj];simp [qvs]
 exact ⟨h.lt,key 0 (by decide) _ rfl,key 1 (by decide) _ rfl,key 2 (by decide) _ rfl⟩
def areaQ (l:List (Rat × Rat)):Rat:=qsum (crosses l)*Rat.divInt 1 2
abbrev L_area1:List Nat:=[7,8,9,10,11,3,4]
def o0_area1:Oper:=⟨some 7,.move (.tmp 0),22, "area.go:14",#[],none⟩
def o1_area1:Oper:=⟨some 8,.call ⟨.value (.func 55),#[.tmp 7],#[22]⟩,22, "area.go:14",#[⟨0,.data⟩],none⟩
def o2_area1:Oper:=⟨some 9,.move (.tmp 0),22, "area.go:14",#[],none⟩
def o3_area1:Oper:=⟨some 10,.call ⟨.builtin Builtin.len,#[.tmp 9],#[22]⟩,3, "area.go:14",#[⟨2,.data⟩],none⟩
def o4_area1:Oper:=⟨some 11,.makeSlice 85 (.tmp 10) (.tmp 10),85, "area.go:14",#[⟨3,.data⟩,⟨3,.data⟩],none⟩
def o5_area1:Oper:=⟨some 3,.assign (.tmp 8),22, "area.go:14",#[⟨1,.data⟩,⟨1,.chain⟩,⟨0,.phase⟩,⟨1,.phase⟩,⟨2,.textOnly .lateStores⟩,⟨3,.textOnly .lateStoresUnsure⟩,⟨4,.textOnly .lateStoresUnsure⟩],none⟩
def o6_area1:Oper:=⟨some 4,.assign (.tmp 11),85, "area.go:14",#[⟨4,.data⟩,⟨5,.chain⟩,⟨0,.phase⟩,⟨1,.phase⟩,⟨2,.phase⟩,⟨3,.phase⟩,⟨4,.phase⟩,⟨5,.phase⟩],none⟩
theorem rc_gesso_area_closed_gesso_api_Pt_ {e:Operand→Value} {x0:Operand} {d:Option Tmp} {y:Nat} {pos:String} {af:Array Edge} {u0:Value} (h0:e x0=u0) (hf:e (.func 55)=.func (.func 55) #[] #[]) :
 (execOp e ⟨d,.call ⟨.value (.func 55),#[x0],#[22]⟩,y,pos,af,none⟩).run Tryz.prog w=.ok (.enter 55 #[u0]) w:=by
 go_simp
def F_area1 (A:Option Addr) (n:Nat) (c:Nat) (base:Nat) (L:List PV) (sl:Nat):Value→World→Prop :=
 match sl with
 | 7=>fun x _=>x=Value.slice A n c
 | 8=>VSB (29) (base) (n) (n+min 1 n) (pvs (L ++ L.take 1))
 | 9=>fun x _=>x=Value.slice A n c
 | 10=>fun x _=>x=Value.int .i64 (n:Int)
 | 11=>VMK (27) ((qvs (List.replicate n zqv)).toArray) (n) (base)
 | 3=>VSB (29) (base) (n) (n+min 1 n) (pvs (L ++ L.take 1))
 | 4=>VMK (27) ((qvs (List.replicate n zqv)).toArray) (n) (base)
 | _=>fun _ _=>True
theorem area1_region {id:Nat} {ac:Act} {Q:Exit→Act→World→Prop} {A:Option Addr} {n c base:Nat} {L:List PV}
 (hsz:11 < ac.tmps.size) (e0:ac.eval (.tmp 0)=Value.slice A n c) (hL:SV w A (pvs L)) (hn:L.length=n) (hm:n≤100000) (hnc:n≤c) (hbs:base≤w.heap.size)
 (hend:∀ (V:Nat→Value) (w':World),(VSB (29) (base) (n) (n+min 1 n) (pvs (L ++ L.take 1))) (V 3) w'→(VMK (27) ((qvs (List.replicate n zqv)).toArray) (n) (base)) (V 4) w'→Below w.heap.size w w'→Q .normal (putAll ac [7,8,9,10,11,3,4] V) w') :
 (Code.region id #[o0_area1,o1_area1,o2_area1,o3_area1,o4_area1,o5_area1,o6_area1] true).wp Tryz.prog Q ac w:=by
 have hnd:L_area1.Nodup:=by decide
 have G:∀ (sv:Nat→Value) (t:Nat),t ∈ L_area1→t≤11→(putAll ac L_area1 sv).eval (.tmp t)=sv t:=fun sv t ht h=>eval_putAll_mem (t:=t) L_area1 ac hnd ht (Nat.lt_of_le_of_lt h hsz)
 have E0:∀ sv:Nat→Value,(putAll ac L_area1 sv).eval (.tmp 0)=Value.slice A n c:=fun sv=>(eval_putAll_not (v:=sv) L_area1 ac (show 0 ∉ _ by decide)).trans e0
 have NE:∀ t:Nat,(True)→∀ p ∈ ([]:List BoxOp),t ≠ p.tA:=by
  intro t ht p hp
  cases hp
 refine wp_region_flowsT L_area1 ([]:List BoxOp) (F_area1 A n c base L) (by kernel_rfl) (by kernel_rfl) rfl hnd ?_ ?_ ?_ ?_ ?_ ?_ ?_ ?_
 · intro p hp
   cases hp
 · intro p hp;cases hp
 · intro p hp;cases hp
 · intro i o h1 h2
   match i,h1 with
   | 0,h1=>cases h1;cases h2
   | 1,h1=>cases h1;cases h2
   | 2,h1=>cases h1;cases h2
   | 3,h1=>cases h1;cases h2
   | 4,h1=>cases h1;cases h2
   | 5,h1=>cases h1;cases h2
   | 6,h1=>cases h1;cases h2
   | i+7,h1=>cases h1
 · intro t
   unfold F_area1
   split <;> first | exact (stays_eq _).inn _ | exact (stays_q _ _).inn _ | exact (stays_z _ _).inn _ | exact (stays_r _ _).inn _ | exact (stays_rq _ _).inn _ | exact (stays_pg _ _ _).inn _ | exact (stays_true).inn _ | exact stays_sb _ _ _ _ _ _ (fun p hp=>by cases hp) | exact stays_mk _ _ _ _ _ (fun p hp=>by cases hp)
 · intro i o t sv w' ho hia hd J0 hf
   have hL:=hL.below J0
   match i,ho with
   | 0,ho =>
     obtain rfl:o0_area1=o:=Option.some.inj ho
     cases hd
     refine wpOp_plain' (o:=o0_area1) rfl rfl ?_
     unfold Oper.wp o0_area1
     rw [run_move (E0 sv),Oper.upon_value]
     exact ⟨_,rfl,Below.refl _ _,rfl⟩
   | 1,ho =>
     obtain rfl:o1_area1=o:=Option.some.inj ho
     cases hd
     have f7:sv 7=Value.slice A n c:=hf ⟨0,.data⟩ (by simp [o1_area1]) rfl _ 7 rfl rfl (NE _ (by decide))
     refine wpOp_plain' (o:=o1_area1) rfl rfl ?_
     unfold Oper.wp o1_area1
     rw [rc_gesso_area_closed_gesso_api_Pt_ ((G sv 7 (by decide) (by decide)).trans f7) rfl,Oper.upon_enter]
     refine (closed_p hL hn hm hnc (Nat.le_trans hbs J0.size)).mono ?_
     rintro e w1 ⟨A_,c_,rfl,hq,hh⟩
     exact ⟨_,rfl,hh,A_,c_,rfl,hq⟩
   | 2,ho =>
     obtain rfl:o2_area1=o:=Option.some.inj ho
     cases hd
     refine wpOp_plain' (o:=o2_area1) rfl rfl ?_
     unfold Oper.wp o2_area1
     rw [run_move (E0 sv),Oper.upon_value]
     exact ⟨_,rfl,Below.refl _ _,rfl⟩
   | 3,ho =>
     obtain rfl:o3_area1=o:=Option.some.inj ho
     cases hd
     have f9:sv 9=Value.slice A n c:=hf ⟨2,.data⟩ (by simp [o3_area1]) rfl _ 9 rfl rfl (NE _ (by decide))
     refine wpOp_plain' (o:=o3_area1) rfl rfl ?_
     unfold Oper.wp o3_area1
     rw [run_len_p ((G sv 9 (by decide) (by decide)).trans f9) ,Oper.upon_value]
     exact ⟨_,rfl,Below.refl _ _,rfl⟩
   | 4,ho =>
     obtain rfl:o4_area1=o:=Option.some.inj ho
     cases hd
     have f10:sv 10=Value.int .i64 (n:Int):=hf ⟨3,.data⟩ (by simp [o4_area1]) rfl _ 10 rfl rfl (NE _ (by decide))
     refine wpOp_plain' (o:=o4_area1) rfl rfl ?_
     unfold Oper.wp o4_area1
     rw [run_make_q ((G sv 10 (by decide) (by decide)).trans f10) ((G sv 10 (by decide) (by decide)).trans f10) hm,Oper.upon_value]
     exact ⟨_,rfl,(Below.refl _ _).alloc (Nat.le_refl _) _,_,rfl,made_q w' n base (Nat.le_trans hbs J0.size)⟩
   | 5,ho =>
     obtain rfl:o5_area1=o:=Option.some.inj ho
     cases hd
     have f:=hf ⟨1,.data⟩ (by simp [o5_area1]) rfl _ 8 rfl rfl (NE _ (by decide))
     refine wpOp_plain' (o:=o5_area1) rfl rfl ?_
     unfold Oper.wp o5_area1
     rw [run_assign (G sv 8 (by decide) (by decide)),Oper.upon_value]
     exact ⟨_,rfl,Below.refl _ _,f⟩
   | 6,ho =>
     obtain rfl:o6_area1=o:=Option.some.inj ho
     cases hd
     have f:=hf ⟨4,.data⟩ (by simp [o6_area1]) rfl _ 11 rfl rfl (NE _ (by decide))
     refine wpOp_plain' (o:=o6_area1) rfl rfl ?_
     unfold Oper.wp o6_area1
     rw [run_assign (G sv 11 (by decide) (by decide)),Oper.upon_value]
     exact ⟨_,rfl,Below.refl _ _,f⟩
   | i+7,ho=>cases ho
 · intro p hp os sv w' g hos J0 p1 p3 hf
   cases hp
 · intro sv w' J0 hF hB hap
   exact hend sv w'   (hF 5 _ 3 rfl rfl (NE _ (by decide))) (hF 6 _ 4 rfl rfl (NE _ (by decide))) J0
theorem area_p {A:Option Addr} {n c k:Nat} {L:List PV} {l:List (Rat × Rat)} (hL:SV w A (pvs L)) (hE:Each PV.PR w L l k) (hn:L.length=n) (hm:n≤1000) (hnc:n≤c) (h1:1≤k) (hk:k+k≤200) (hB:n*(k+k+(k+k)+1+2)+2≤400) :
 Calls Tryz.prog 17 #[.slice A n c] w (GivesQ w (areaQ l) (n*(k+k+(k+k)+1+2)+1+1)):=by
 have HN:=Lib.hid hn;have HB:=Lib.hid hB;have HL00:=Lib.hid hL;have E00:=Lib.hid hE;clear hB
 go_enter Tryz.func17,Tryz.ntmps17
 go_upto_region 1 with (fail)
 generalize hW:World.alloc _ _=W
 obtain ⟨hb,Z,hzW⟩:=mkbx9_8 hW;clear hW;replace hL:=hL.below hb
 replace hE:=hE.imp (fun p u h=>PR.below h hb)
 refine area1_region (by simp) rfl hL hn (by omega) hnc (Nat.le_refl _) ?_
 intro V w1 hF3 hF4 hh
 obtain ⟨A1,c1,hv3,hR0⟩:=hF3
 obtain ⟨gP,hv4,hgP,hP0⟩:=hF4
 simp only [putAll,Act.put,List.setIfInBounds_toArray,List.set_cons_zero,List.set_cons_succ,hv3,hv4]
 clear hv3 hv4;replace hL:=hL.below hh
 replace hE:=hE.imp (fun p u h=>PR.below h hh)
 replace Z:=Z.below hh;replace hb:=bend hb hh
 have hgZ:w.heap.size < gP:=by omega
 rw [show n+min 1 n=(ringL L).length by unfold ringL;rw [List.length_append,List.length_take,hn,Nat.min_comm]]
 have HR1:Hid ((ringL L).length=n+min 1 n):=by show _=_;unfold ringL;rw [List.length_append,List.length_take,hn,Nat.min_comm]
 generalize hN1:(ringL L).length=N1 at HR1 ⊢
 have HR2:=Lib.hid hN1
 have HL0:Hid (SV w A (pvs L)):=HL00
 have E0:Hid (Each PV.PR w L l k):=E00
 clear hN1 hL hE
 go_wp2_with fail
 go_loopg [14] n (fun gk ix wr=>∃ (M:List QV) (m:Nat),Hid (gk+m=n)∧ix=.int .i64 (m:Int)∧Hid (M.length=n)∧BoxAt 27 wr gP (qvs M).toArray∧Hid (EachQ wr (M.take m) ((crosses l).take m) (k+k+(k+k)+1))∧SNr 29 W.heap.size n (pvs (ringL L)) wr A1∧B3 wr w.heap.size (.bool false) (.slice none 0 0) (.slice none 0 0)∧Below w.heap.size w wr)
 case atStart=>exact ⟨List.replicate n zqv,0,Nat.add_zero _,rfl,by show _=_;rw [List.length_replicate],hP0,⟨rfl,fun i p v h=>by cases h⟩,hR0,Z,hb⟩
 case round =>
  clear hP0 hR0
  obtain ⟨M,m,HG,rfl,HM,hP,HQ,hR,Z,hb⟩:=hrel
  by_cases hmn:m < n
  · have hmn':m < M.length:=by rw [HM.out];exact hmn
    obtain ⟨pm,hpm⟩:∃ pm,M[m]?=some pm:=⟨_,List.getElem?_eq_getElem hmn'⟩
    have HPM:=Lib.hid hpm
    have HL1:=Lib.hid hmn'
    have hixq:=idx_q (g:=gP) (n:=n) (c:=n) hmn
    obtain ⟨P,u,hP1,hu1,p⟩:=(E0.out.imp (fun p u h=>PR.below h hb)).at_ (i:=m) (by rw [HN.out];exact hmn)
    obtain ⟨Q,v,hP2,hu2,q⟩:=(E0.out.imp (fun p u h=>PR.below h hb)).ring.at_ (i:=m+1) (by have h:=HR1.out;have h2:=HR2.out;rw [h2,h];omega)
    have hv1:(ringL l)[m]?=some u:=by rw [ringL_at (by rw [← E0.out.1,HN.out];exact hmn)];exact hu1
    obtain ⟨g0,o0,hix0,E,_⟩:=(HL0.out.below hb).pt hP1
    obtain ⟨g1,o1,hix1,E',o1_,hA1⟩:=(hR.sv (by omega)).pt hP2
    have hixa:∀ w',(Instr.indexAt 22 (.slice A n c) (.int .i64 (m:Int))).run Tryz.prog w'=.ok (.pointer (some ⟨g0,o0,none⟩)) w':=fun w'=>hix0 n c w' hmn
    have hixb:∀ w',(Instr.indexAt 22 (.slice A1 N1 c1) (.int .i64 ((m:Int)+1))).run Tryz.prog w'=.ok (.pointer (some ⟨g1,o1,none⟩)) w':=fun w'=>hix1 N1 c1 w' (by have:=HR1.out;omega)
    have hwr:IntKind.i64.wrap ((m:Int)+1)=(m:Int)+1:=IntWalk.i64_in _ (by omega)
    have hlt:(m:Int) < (n:Int):=by omega
    have HU:=Lib.hid hv1;have HV:=Lib.hid hu2
    obtain ⟨ux,uy⟩:=u
    obtain ⟨vx,vy⟩:=v
    obtain ⟨s_p,A_p,n_p,c_p,B_p,m_p,d_p,t_p,E_p,i_p,e_p,F_p,j_p,f_p⟩:=P
    obtain ⟨s_q,A_q,n_q,c_q,B_q,m_q,d_q,t_q,E_q,i_q,e_q,F_q,j_q,f_q⟩:=Q
    replace p:PR wr s_p A_p n_p c_p B_p m_p d_p t_p E_p i_p e_p F_p j_p f_p ux uy k:=p
    replace q:PR wr s_q A_q n_q c_q B_q m_q d_q t_q E_q i_q e_q F_q j_q f_q vx vy k:=q
    have hgg:g1 ≠ gP:=by
     obtain ⟨g2,e2,_,cs2,h3,_⟩:=hR (by omega)
     rw [hA1] at e2
     cases e2
     exact BoxAt.ne h3 hP (.inl (by decide))
    obtain ⟨e0,e1,e2,e3,e4,e5⟩:=E.all
    simp only at e0 e1 e2 e3 e4 e5
    clear hpm hP1 hP2 hu1 hu2 hix0 hix1 hA1 hv1 hmn' hmn
    go_upto_region 5 with (fail)
    replace HQ:=HQ.out
    have hx1:wr.heap.size ≠ gP:=by have:=hP.lt;omega
    generalize hW:World.alloc _ _=W2
    obtain ⟨hh,X,hzW2⟩:=mkbx16_9 hW;clear hW;(try replace p:=p.below hh);(try replace q:=q.below hh);(try replace hP:=hP.below hh);(try replace HQ:=HQ.below hh);(try replace hR:=hR.below hh);(try replace Z:=Z.below hh)
    try replace E':=E'.below hh
    replace hb:=bend hb hh
    replace p:=p.below (Below.refl _ _).drew
    replace q:=q.below (Below.refl _ _).drew
    replace hP:=hP.below (Below.refl _ _).drew
    replace HQ:=HQ.below (Below.refl _ _).drew
    replace hR:=hR.below (Below.refl _ _).drew
    replace Z:=Z.below (Below.refl _ _).drew
    replace E':=E'.below (Below.refl _ _).drew
    replace X:=X.below (Below.refl _ _).drew
    replace hb:=hb.drew
    have hx2:g1 ≠ gP:=hgg
    go_region_held3 (fun w'=>w'.cell? ⟨wr.heap.size,0,none⟩=some (.bool s_p)∧w'.cell? ⟨wr.heap.size,1,none⟩=some (.slice A_p n_p c_p)∧w'.cell? ⟨wr.heap.size,2,none⟩=some (.slice B_p m_p d_p)∧w'.cell? ⟨wr.heap.size,3,none⟩=some (.bool t_p)∧w'.cell? ⟨wr.heap.size,4,none⟩=some (.slice E_p i_p e_p)∧w'.cell? ⟨wr.heap.size,5,none⟩=some (.slice F_p j_p f_p)∧w'.cell? ⟨g1,o1,none⟩=some (.bool s_q)∧w'.cell? ⟨g1,o1+1,none⟩=some (.slice A_q n_q c_q)∧w'.cell? ⟨g1,o1+2,none⟩=some (.slice B_q m_q d_q)∧w'.cell? ⟨g1,o1+3,none⟩=some (.bool t_q)∧w'.cell? ⟨g1,o1+4,none⟩=some (.slice E_q i_q e_q)∧w'.cell? ⟨g1,o1+5,none⟩=some (.slice F_q j_q f_q))
     (first | with_reducible exact ⟨X.c0,X.c1,X.c2,X.c3,X.c4,X.c5,E'.c0,E'.c1,E'.c2,E'.c3,E'.c4,E'.c5⟩ | with_reducible exact ⟨(setq_cell _ _ _ _ _ _ _ _ hx1).trans X.c0,(setq_cell _ _ _ _ _ _ _ _ hx1).trans X.c1,(setq_cell _ _ _ _ _ _ _ _ hx1).trans X.c2,(setq_cell _ _ _ _ _ _ _ _ hx1).trans X.c3,(setq_cell _ _ _ _ _ _ _ _ hx1).trans X.c4,(setq_cell _ _ _ _ _ _ _ _ hx1).trans X.c5,(setq_cell _ _ _ _ _ _ _ _ hx2).trans E'.c0,(setq_cell _ _ _ _ _ _ _ _ hx2).trans E'.c1,(setq_cell _ _ _ _ _ _ _ _ hx2).trans E'.c2,(setq_cell _ _ _ _ _ _ _ _ hx2).trans E'.c3,(setq_cell _ _ _ _ _ _ _ _ hx2).trans E'.c4,(setq_cell _ _ _ _ _ _ _ _ hx2).trans E'.c5⟩)
     (first
     | (go_at_call 56;(with_reducible refine (pcross_p p q hk h1 h1).mono ?_);rintro e w_r ⟨s_r,A_r,n_r,c_r,B_r,m_r,d_r,rfl,r,hh⟩
        (try replace p:=p.below hh);(try replace q:=q.below hh);(try replace hP:=hP.below hh);(try replace HQ:=HQ.below hh);(try replace hR:=hR.below hh);(try replace Z:=Z.below hh)
        try replace E':=E'.below hh
        (try replace X:=X.below hh);replace hb:=bend hb hh;have Eq:=hP.q3 HPM.out;obtain ⟨q0,q1,q2⟩:=Eq.all
        have qf0:=hP.frz (j:=m*3)
        have qf1:=hP.frz (j:=m*3+1)
        have qf2:=hP.frz (j:=m*3+2)))
    have ho:=onlyq w_r gP (m*3) (.bool s_r) (.slice A_r n_r c_r) (.slice B_r m_r d_r)
    have hP2:=hP.setq HL1.out (QV.mk s_r A_r n_r c_r B_r m_r d_r)
    replace r:=r.box hP ho
    replace HQ:=(HQ.box hP ho).push (p:=(QV.mk s_r A_r n_r c_r B_r m_r d_r)) r
    replace hR:=hR.box hP (.inl (by decide)) ho
    replace Z:B3 (((w_r.setCell ⟨gP,m*3,none⟩ (.bool s_r)).setCell ⟨gP,m*3+1,none⟩ (.slice A_r n_r c_r)).setCell ⟨gP,m*3+2,none⟩ (.slice B_r m_r d_r)) w.heap.size (.bool false) (.slice none 0 0) (.slice none 0 0):=(ho.block _ Z.lt (by omega)).trans Z
    replace hb:=Below.only hb (by omega) hb.size ho
    have hcr:(crosses l)[m]?=some (ux*vy - uy*vx):=crosses_at HU.out HV.out
    rw [← take_snoc hcr,← take_set HL1.out (QV.mk s_r A_r n_r c_r B_r m_r d_r)] at HQ
    clear hP ho Eq q0 q1 q2 qf0 qf1 qf2 E' X p q hcr
    generalize (((w_r.setCell ⟨gP,m*3,none⟩ (.bool s_r)).setCell ⟨gP,m*3+1,none⟩ (.slice A_r n_r c_r)).setCell ⟨gP,m*3+2,none⟩ (.slice B_r m_r d_r))=W3 at *
    go_wp2_with fail
    go_roundg (gk - 1)
    case measure=>have:=HG.out;omega
    case rel=>exact ⟨M.set m (QV.mk s_r A_r n_r c_r B_r m_r d_r),m+1,by have:=HG.out;show _=_;omega,by go_num,by show _=_;rw [List.length_set];exact HM.out,hP2,HQ,hR,Z,hb⟩
  · have hlt:¬ (m:Int) < (n:Int):=by omega
    obtain rfl:m=n:=by have:=HG.out;omega
    replace HQ:=HQ.out
    rw [List.take_of_length_le (by rw [HM.out];exact Nat.le_refl _),List.take_of_length_le (by rw [crosses_len,← E0.out.1,HN.out];exact Nat.le_refl _)] at HQ
    have hPS:=hP.sv;have hB2:=HB.out
    have HK:Hid (m*((k+k+(k+k)+1)+2)+1≤400):=by show _≤_;omega
    have HK2:Hid (1≤m*((k+k+(k+k)+1)+2)+1):=by show _≤_;omega
    clear hmn hR;have zf0:=Z.f0;have zf1:=Z.f1;have zf2:=Z.f2;obtain ⟨z0,z1,z2⟩:=Z.all
    go_wp2_with (first
     | (go_at_call 57;(with_reducible refine (total_any hPS HQ HM.out (Nat.le_refl _) (by omega) (by omega) (by have:=HK.out;omega)).mono ?_);rintro e w_x ⟨s_x,A_x,n_x,c_x,B_x,m_x,d_x,rfl,x,hh⟩
        (try replace Z:=Z.below hh);replace hb:=bend hb hh;have zf0:=Z.f0;have zf1:=Z.f1;have zf2:=Z.f2;obtain ⟨z0,z1,z2⟩:=Z.all)
     | (go_at_call 35;(with_reducible refine (rof_q 1 2 (by decide) (by decide) (by decide) (by decide) (by decide) _).mono ?_);rintro e w_y ⟨s_y,A_y,n_y,c_y,B_y,m_y,d_y,rfl,y,hh⟩
        (try replace Z:=Z.below hh);(try replace x:=x.below hh);replace hb:=bend hb hh;have zf0:=Z.f0;have zf1:=Z.f1;have zf2:=Z.f2;obtain ⟨z0,z1,z2⟩:=Z.all)
     | (go_at_call 37;(with_reducible refine (rmul_q x.qr y.qr HK.out (by decide) (.inl HK.out) HK2.out (by decide)).mono ?_);rintro e w_r ⟨s_r,A_r,n_r,c_r,B_r,m_r,d_r,rfl,r,hh⟩
        (try replace Z:=Z.below hh);replace hb:=bend hb hh;have zf0:=Z.f0;have zf1:=Z.f1;have zf2:=Z.f2;obtain ⟨z0,z1,z2⟩:=Z.all))
    have Z2:=Z.set3 (.bool s_r) (.slice A_r n_r c_r) (.slice B_r m_r d_r)
    obtain ⟨g0,g1,g2⟩:=Z2.all
    refine bodyPost_ret (v:=.agg #[.bool s_r,.slice A_r n_r c_r,.slice B_r m_r d_r]) (by simp [results,Tryz.results17,go_sem,g0,g1,g2]) rfl ?_
    exact ⟨s_r,A_r,n_r,c_r,B_r,m_r,d_r,rfl,r.set3 Z _ _ _,below_set3 hb (Nat.le_refl _) _ _ _⟩
end
section
def crs (a b c d:Rat):Rat:=a*d - b*c
def dotq (a b c d:Rat):Rat:=a*c+b*d
def LeftV (a b c d:Rat):Prop:=0 < crs a b c d ∨ (crs a b c d=0∧0 < dotq a b c d)
section
variable {n:Nat} {x y:Nat→Rat}
def dd (x:Nat→Rat) (k:Nat):Rat:=x (k+1) - x k
def sideQ (x y:Nat→Rat) (i k:Nat):Rat:=crs (dd x i) (dd y i) (x k - x i) (y k - y i)
theorem along_of {a b c d:Rat} (hz:¬ (a=0∧b=0)) (h:crs a b c d=0):∃ t,c=t*a∧d=t*b:=by
 unfold crs at h
 by_cases ha:a=0
 · subst ha
   have hb:b ≠ 0:=fun e=>hz ⟨rfl,e⟩
   have e:d / b*b=d:=Rat.div_mul_cancel hb
   refine ⟨d / b,?_,e.symm⟩
   have:b*c=0:=by grind
   rcases Rat.mul_eq_zero.1 this with q | q
   · exact absurd q hb
   · grind
 · have e:c / a*a=c:=Rat.div_mul_cancel ha
   refine ⟨c / a,e.symm,?_⟩
   generalize c / a=t at e
   subst e
   have:a*(d - t*b)=0:=by grind
   rcases Rat.mul_eq_zero.1 this with q | q
   · exact absurd q ha
   · grind
end
section
variable {n:Nat} {x y:Nat→Rat}
structure Conv (n:Nat) (x y:Nat→Rat):Prop where
 three:3≤n
 apart:∀ i k,i < n→k < n→i ≠ k→¬ (x i=x k∧y i=y k)
 left:∀ i k,i < n→k < n→0≤sideQ x y i k
 some:∃ i k,i < n∧k < n∧0 < sideQ x y i k
theorem crs_along {a b c d e f:Rat} (hz:¬ (a=0∧b=0)) (h1:crs a b c d=0) (h2:crs a b e f=0):crs c d e f=0:=by
 obtain ⟨t,rfl,rfl⟩:=along_of hz h1
 obtain ⟨s,rfl,rfl⟩:=along_of hz h2
 unfold crs;grind
theorem Conv.off (h:Conv n x y) {a b ox oy:Rat} (hz:¬ (a=0∧b=0)) (hl:∀ k,crs a b (x k - ox) (y k - oy)=0):False:=by
 obtain ⟨i,k,_,_,hs⟩:=h.some
 have e1:=hl i
 have e2:=hl (i+1)
 have e3:=hl k
 have:sideQ x y i k=0:=by
  unfold sideQ
  refine crs_along hz ?_ ?_
  · unfold dd;unfold crs at *;grind
  · unfold crs at *;grind
 rw [this] at hs
 exact absurd hs (by decide)
end
end
end Go.Proofs.YtghmejlikfiegaaGreat
