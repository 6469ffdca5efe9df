/- MatLaws: part 11. -/
import Derived.Test.YtgneghgfpkkkdaaGreatKMatLaws9
import Derived.Test.YtgneghgfpkkkdaaGreatKMatLaws10
set_option linter.unusedVariables false
set_option maxRecDepth 100000
set_option maxHeartbeats 16000000
variable {w:Go.World}
namespace Go.Proofs.YtgneghgfpkkkdaaGreat
section
open Go Go.RowKit
theorem free6 (s:Bool) (A B:Option Addr) (n c m d:Nat) (t:Bool) (E F:Option Addr) (i e j f:Nat):∀ (x:Nat) (k:IntKind) (v:Int),(#[.bool s,.slice A n c,.slice B m d,.bool t,.slice E i e,.slice F j f]:Array Value)[x]? ≠ some (.int k v):=by
 intro x k v h
 match x,h with
 | 0,h=>cases h
 | 1,h=>cases h
 | 2,h=>cases h
 | 3,h=>cases h
 | 4,h=>cases h
 | 5,h=>cases h
 | x+6,h=>cases h
def VPG (x y:Rat) (k:Nat) (v:Value) (w:World):Prop:=∃ s A n c B m d t E i e F j f,v=.agg #[.bool s,.slice A n c,.slice B m d,.bool t,.slice E i e,.slice F j f]∧PG w s A n c B m d t E i e F j f x y k
theorem PG.box {T:TypeId} {w w':World} {g:Nat} {cs:Array Value} {s t:Bool} {A B E F:Option Addr} {n c m d i e j f:Nat} {x y:Rat} {k:Nat} (h:PG w s A n c B m d t E i e F j f x y k) (Z:BoxAt T w g cs) (ho:Only g w w'):PG w' s A n c B m d t E i e F j f x y k:=⟨h.1.box Z ho,h.2.box Z ho⟩
theorem stays_pg (x y:Rat) (k:Nat):Stays (VPG x y k) :=
 ⟨fun _ _ _ ⟨s,A,n,c,B,m,d,t,E,i,e,F,j,f,h1,h2⟩ hb=>⟨s,A,n,c,B,m,d,t,E,i,e,F,j,f,h1,h2.below hb⟩,fun _ _ _ _ _ _ ⟨s,A,n,c,B,m,d,t,E,i,e,F,j,f,h1,h2⟩ hB ho=>⟨s,A,n,c,B,m,d,t,E,i,e,F,j,f,h1,h2.box hB ho⟩⟩
theorem run_load6 {e1:Operand→Value} {x1:Operand} {d1:Option Tmp} {y1 g:Nat} {pos:String} {af:Array Edge} {a b c d e f:Value} (h:e1 x1=.pointer (some ⟨g,0,none⟩)) (h0:w.cell? ⟨g,0,none⟩=some a) (h1:w.cell? ⟨g,1,none⟩=some b) (h2:w.cell? ⟨g,2,none⟩=some c) (h3:w.cell? ⟨g,3,none⟩=some d) (h4:w.cell? ⟨g,4,none⟩=some e) (h5:w.cell? ⟨g,5,none⟩=some f) :
 (execOp e1 ⟨d1,.load 29 x1,y1,pos,af,none⟩).run Tryz.prog w=.ok (.value (.agg #[a,b,c,d,e,f])) w:=by
 go_simp
theorem run_alloc6 {e1:Operand→Value} {d1:Option Tmp} {y1:Nat} {pos:String} {af:Array Edge} :
 (execOp e1 ⟨d1,.alloc 29,y1,pos,af,none⟩).run Tryz.prog w=.ok (.value (.pointer (some ⟨w.heap.size,0,none⟩))) (w.alloc (.cells #[.bool false,.slice none 0 0,.slice none 0 0,.bool false,.slice none 0 0,.slice none 0 0] 29)):=by
 go_simp
theorem run_store6 {e1:Operand→Value} {x1 z1:Operand} {d1:Option Tmp} {y1 g:Nat} {pos:String} {af:Array Edge} {s t:Bool} {A B E F:Option Addr} {n c m d i e j f:Nat} {v0 v1 v2 v3 v4 v5:Value} (h:e1 x1=.pointer (some ⟨g,0,none⟩)) (hz:e1 z1=.agg #[.bool s,.slice A n c,.slice B m d,.bool t,.slice E i e,.slice F j f]) (Z:B6 w g v0 v1 v2 v3 v4 v5) :
 (execOp e1 ⟨d1,.store 29 x1 z1,y1,pos,af,none⟩).run Tryz.prog w=.ok .skip ((((((w.setCell ⟨g,0,none⟩ (.bool s)).setCell ⟨g,1,none⟩ (.slice A n c)).setCell ⟨g,2,none⟩ (.slice B m d)).setCell ⟨g,3,none⟩ (.bool t)).setCell ⟨g,4,none⟩ (.slice E i e)).setCell ⟨g,5,none⟩ (.slice F j f)):=by
 obtain ⟨c0,c1,c2,c3,c4,c5⟩:=Z.all;have f0:=Z.f0;have f1:=Z.f1;have f2:=Z.f2;have f3:=Z.f3;have f4:=Z.f4;have f5:=Z.f5
 go_simp
theorem store_pg {ac:Act} {x1 z:Operand} {y1 g:Nat} {pos:String} {af:Array Edge} {Q:Exit→Act→World→Prop} {x y:Rat} {k:Nat} (p1:ac.eval x1=.pointer (some ⟨g,0,none⟩)) (h:VPG x y k (ac.eval z) w) (B:BoxAt 29 w g #[.bool false,.slice none 0 0,.slice none 0 0,.bool false,.slice none 0 0,.slice none 0 0]) :
 (⟨none,.store 29 x1 z,y1,pos,af,none⟩:Oper).wp Tryz.prog ac w (fun a'' w''=>a''=ac∧Only g w w''∧∃ cs',BoxAt 29 w'' g cs'∧(fun cs w=>∃ s A n c B m d t E i e F j f,cs=#[.bool s,.slice A n c,.slice B m d,.bool t,.slice E i e,.slice F j f]∧PG w s A n c B m d t E i e F j f x y k) cs' w'') Q:=by
 obtain ⟨s,A,n,c,B1,m,d,t,E,i,e,F,j,f,h1,h2⟩:=h
 have Z:B6 w g (.bool false) (.slice none 0 0) (.slice none 0 0) (.bool false) (.slice none 0 0) (.slice none 0 0):=B.at_
 unfold Oper.wp
 rw [run_store6 p1 h1 Z,Oper.upon_skip]
 have ho:=((((((Only.refl g w).setCell 0 (.bool s)).setCell 1 (.slice A n c)).setCell 2 (.slice B1 m d)).setCell 3 (.bool t)).setCell 4 (.slice E i e)).setCell 5 (.slice F j f)
 exact ⟨put_none ac undef,ho,#[.bool s,.slice A n c,.slice B1 m d,.bool t,.slice E i e,.slice F j f],⟨Z.set6 _ _ _ _ _ _,free6 _ _ _ _ _ _ _ _ _ _ _ _ _ _⟩,s,A,n,c,B1,m,d,t,E,i,e,F,j,f,rfl,h2.box B ho⟩
theorem rc_gesso_pt_Sub {e:Operand→Value} {x0 x1:Operand} {d:Option Tmp} {y:Nat} {pos:String} {af:Array Edge} {u0 u1:Value} (h0:e x0=u0) (h1:e x1=u1) (hf:e (.func 57)=.func (.func 57) #[] #[]) :
 (execOp e ⟨d,.call ⟨.value (.func 57),#[x0,x1],#[29,29]⟩,y,pos,af,none⟩).run Tryz.prog w=.ok (.enter 57 #[u0,u1]) w:=by
 go_simp
theorem rc_gesso_rat_Div {e:Operand→Value} {x0 x1:Operand} {d:Option Tmp} {y:Nat} {pos:String} {af:Array Edge} {u0 u1:Value} (h0:e x0=u0) (h1:e x1=u1) (hf:e (.func 104)=.func (.func 104) #[] #[]) :
 (execOp e ⟨d,.call ⟨.value (.func 104),#[x0,x1],#[27,27]⟩,y,pos,af,none⟩).run Tryz.prog w=.ok (.enter 104 #[u0,u1]) w:=by
 go_simp
end
section
theorem txt_one {V d:Nat} (h:0 < d) (h2:d < 10) (hV:V=d):txt V=[UInt8.ofNat (48+d)]:=by
 subst hV
 rw [txt,if_neg (by omega),limbs_small (by omega) h2 (by omega)]
 rfl
end
section
open Go Go.RowKit
theorem qtxt_i {v:Rat} {a:Nat} {l:List UInt8} (hn:v.num=(a:Int)) (hd:v.den=1) (ha:txt a=l):qtxt v=l:=by
 unfold qtxt
 rw [if_pos hd,hn]
 unfold ztxt
 rw [if_neg (by omega),show ((a:Int)).natAbs=a by omega,ha]
end
section
open Go Go.RowKit
theorem QR.of_rd {s:Bool} {A A':Option Addr} {n c n' c' k:Nat} {l l':List Nat} (h:Rd .u64 w A n l) (hL:Lim B64 l) (hnc:n≤c) (h':Rd .u64 w A' n' l') (hL':Lim B64 l') (hnc':n'≤c') (hk:n≤k) (hk':n'≤k) :
 QR w s A n c A' n' c' (mkRat (iv s (val B64 l)) (den1 (val B64 l'))) k:=⟨_,_,ZR.of_rd h hL hnc hk,⟨l',h',hL',rfl,hnc',hk'⟩,rfl⟩
end
section
section
variable {px py ax ay bx by_ cx cy dx dy:Rat}
end
section
variable {ax ay bx by_ cx cy dx dy:Rat}
end
noncomputable def pick {α:Type} (K:α→Prop) (l:List α) (p:α):List α:=open Classical in if K p∧p ∉ l then l ++ [p] else l
section
variable {ax ay bx by_ cx cy dx dy:Rat}
end
end
section
open Go Go.RowKit
def inSQ (v a b:Rat):Prop:=0≤(v - a)*(b - v)
instance (v a b:Rat):Decidable (inSQ v a b):=inferInstanceAs (Decidable (_≤_))
end
section
open Go Go.RowKit
def BA3 (W:World) (g:Nat) (v0:Value) (v1:Value) (v2:Value) (v3:Value) (v4:Value) (v5:Value) (v6:Value) (v7:Value) (v8:Value) (v9:Value) (v10:Value) (v11:Value) (v12:Value) (v13:Value) (v14:Value) (v15:Value) (v16:Value) (v17:Value):Prop:=W.heap[g]?=some (.cells #[v0,v1,v2,v3,v4,v5,v6,v7,v8,v9,v10,v11,v12,v13,v14,v15,v16,v17] 63 (0,0))
section
variable {W W':World} {g:Nat} {v0 v1 v2 v3 v4 v5 v6 v7 v8 v9 v10 v11 v12 v13 v14 v15 v16 v17:Value}
theorem BA3.c0 (h:BA3 W g v0 v1 v2 v3 v4 v5 v6 v7 v8 v9 v10 v11 v12 v13 v14 v15 v16 v17):W.cell? ⟨g,0,none⟩=some v0:=by rw [cell_of_row W g 0 _ _ (0,0) h];rfl
theorem BA3.c1 (h:BA3 W g v0 v1 v2 v3 v4 v5 v6 v7 v8 v9 v10 v11 v12 v13 v14 v15 v16 v17):W.cell? ⟨g,1,none⟩=some v1:=by rw [cell_of_row W g 1 _ _ (0,0) h];rfl
theorem BA3.c2 (h:BA3 W g v0 v1 v2 v3 v4 v5 v6 v7 v8 v9 v10 v11 v12 v13 v14 v15 v16 v17):W.cell? ⟨g,2,none⟩=some v2:=by rw [cell_of_row W g 2 _ _ (0,0) h];rfl
theorem BA3.c3 (h:BA3 W g v0 v1 v2 v3 v4 v5 v6 v7 v8 v9 v10 v11 v12 v13 v14 v15 v16 v17):W.cell? ⟨g,3,none⟩=some v3:=by rw [cell_of_row W g 3 _ _ (0,0) h];rfl
theorem BA3.c4 (h:BA3 W g v0 v1 v2 v3 v4 v5 v6 v7 v8 v9 v10 v11 v12 v13 v14 v15 v16 v17):W.cell? ⟨g,4,none⟩=some v4:=by rw [cell_of_row W g 4 _ _ (0,0) h];rfl
theorem BA3.c5 (h:BA3 W g v0 v1 v2 v3 v4 v5 v6 v7 v8 v9 v10 v11 v12 v13 v14 v15 v16 v17):W.cell? ⟨g,5,none⟩=some v5:=by rw [cell_of_row W g 5 _ _ (0,0) h];rfl
theorem BA3.c6 (h:BA3 W g v0 v1 v2 v3 v4 v5 v6 v7 v8 v9 v10 v11 v12 v13 v14 v15 v16 v17):W.cell? ⟨g,6,none⟩=some v6:=by rw [cell_of_row W g 6 _ _ (0,0) h];rfl
theorem BA3.c7 (h:BA3 W g v0 v1 v2 v3 v4 v5 v6 v7 v8 v9 v10 v11 v12 v13 v14 v15 v16 v17):W.cell? ⟨g,7,none⟩=some v7:=by rw [cell_of_row W g 7 _ _ (0,0) h];rfl
theorem BA3.c8 (h:BA3 W g v0 v1 v2 v3 v4 v5 v6 v7 v8 v9 v10 v11 v12 v13 v14 v15 v16 v17):W.cell? ⟨g,8,none⟩=some v8:=by rw [cell_of_row W g 8 _ _ (0,0) h];rfl
theorem BA3.c9 (h:BA3 W g v0 v1 v2 v3 v4 v5 v6 v7 v8 v9 v10 v11 v12 v13 v14 v15 v16 v17):W.cell? ⟨g,9,none⟩=some v9:=by rw [cell_of_row W g 9 _ _ (0,0) h];rfl
theorem BA3.c10 (h:BA3 W g v0 v1 v2 v3 v4 v5 v6 v7 v8 v9 v10 v11 v12 v13 v14 v15 v16 v17):W.cell? ⟨g,10,none⟩=some v10:=by rw [cell_of_row W g 10 _ _ (0,0) h];rfl
theorem BA3.c11 (h:BA3 W g v0 v1 v2 v3 v4 v5 v6 v7 v8 v9 v10 v11 v12 v13 v14 v15 v16 v17):W.cell? ⟨g,11,none⟩=some v11:=by rw [cell_of_row W g 11 _ _ (0,0) h];rfl
theorem BA3.c12 (h:BA3 W g v0 v1 v2 v3 v4 v5 v6 v7 v8 v9 v10 v11 v12 v13 v14 v15 v16 v17):W.cell? ⟨g,12,none⟩=some v12:=by rw [cell_of_row W g 12 _ _ (0,0) h];rfl
theorem BA3.c13 (h:BA3 W g v0 v1 v2 v3 v4 v5 v6 v7 v8 v9 v10 v11 v12 v13 v14 v15 v16 v17):W.cell? ⟨g,13,none⟩=some v13:=by rw [cell_of_row W g 13 _ _ (0,0) h];rfl
theorem BA3.c14 (h:BA3 W g v0 v1 v2 v3 v4 v5 v6 v7 v8 v9 v10 v11 v12 v13 v14 v15 v16 v17):W.cell? ⟨g,14,none⟩=some v14:=by rw [cell_of_row W g 14 _ _ (0,0) h];rfl
theorem BA3.c15 (h:BA3 W g v0 v1 v2 v3 v4 v5 v6 v7 v8 v9 v10 v11 v12 v13 v14 v15 v16 v17):W.cell? ⟨g,15,none⟩=some v15:=by rw [cell_of_row W g 15 _ _ (0,0) h];rfl
theorem BA3.c16 (h:BA3 W g v0 v1 v2 v3 v4 v5 v6 v7 v8 v9 v10 v11 v12 v13 v14 v15 v16 v17):W.cell? ⟨g,16,none⟩=some v16:=by rw [cell_of_row W g 16 _ _ (0,0) h];rfl
theorem BA3.c17 (h:BA3 W g v0 v1 v2 v3 v4 v5 v6 v7 v8 v9 v10 v11 v12 v13 v14 v15 v16 v17):W.cell? ⟨g,17,none⟩=some v17:=by rw [cell_of_row W g 17 _ _ (0,0) h];rfl
theorem BA3.all (h:BA3 W g v0 v1 v2 v3 v4 v5 v6 v7 v8 v9 v10 v11 v12 v13 v14 v15 v16 v17):W.cell? ⟨g,0,none⟩=some v0∧W.cell? ⟨g,1,none⟩=some v1∧W.cell? ⟨g,2,none⟩=some v2∧W.cell? ⟨g,3,none⟩=some v3∧W.cell? ⟨g,4,none⟩=some v4∧W.cell? ⟨g,5,none⟩=some v5∧W.cell? ⟨g,6,none⟩=some v6∧W.cell? ⟨g,7,none⟩=some v7∧W.cell? ⟨g,8,none⟩=some v8∧W.cell? ⟨g,9,none⟩=some v9∧W.cell? ⟨g,10,none⟩=some v10∧W.cell? ⟨g,11,none⟩=some v11∧W.cell? ⟨g,12,none⟩=some v12∧W.cell? ⟨g,13,none⟩=some v13∧W.cell? ⟨g,14,none⟩=some v14∧W.cell? ⟨g,15,none⟩=some v15∧W.cell? ⟨g,16,none⟩=some v16∧W.cell? ⟨g,17,none⟩=some v17:=⟨h.c0,h.c1,h.c2,h.c3,h.c4,h.c5,h.c6,h.c7,h.c8,h.c9,h.c10,h.c11,h.c12,h.c13,h.c14,h.c15,h.c16,h.c17⟩
theorem BA3.lt (h:BA3 W g v0 v1 v2 v3 v4 v5 v6 v7 v8 v9 v10 v11 v12 v13 v14 v15 v16 v17):g < W.heap.size:=World.block_lt_of_cell? W _ h.c0
theorem BA3.below (h:BA3 W g v0 v1 v2 v3 v4 v5 v6 v7 v8 v9 v10 v11 v12 v13 v14 v15 v16 v17) (hb:Below W.heap.size W W'):BA3 W' g v0 v1 v2 v3 v4 v5 v6 v7 v8 v9 v10 v11 v12 v13 v14 v15 v16 v17:=(hb.block g h.lt).trans h
end
theorem BA3.new' (W:World) (v0 v1 v2 v3 v4 v5 v6 v7 v8 v9 v10 v11 v12 v13 v14 v15 v16 v17:Value) (g:Nat) (hg:g=W.heap.size):BA3 (W.alloc (.cells #[v0,v1,v2,v3,v4,v5,v6,v7,v8,v9,v10,v11,v12,v13,v14,v15,v16,v17] 63)) g v0 v1 v2 v3 v4 v5 v6 v7 v8 v9 v10 v11 v12 v13 v14 v15 v16 v17:=by subst hg;exact heap_alloc_new W _
theorem at_0 (g:Nat) (w:World):(Instr.indexAt 63 (Value.pointer (some ⟨g,0,none⟩)) (Value.int IntKind.i64 0)).run Tryz.prog w=.ok (.pointer (some ⟨g,0,none⟩)) w:=by kernel_rfl
theorem run_ia0 {e1:Operand→Value} {x1:Operand} {d1:Option Tmp} {y1 g:Nat} {pos:String} {af:Array Edge} (h:e1 x1=.pointer (some ⟨g,0,none⟩)) (hc:e1 (.const (Value.int IntKind.i64 0))=.int .i64 0) :
 (execOp e1 ⟨d1,.indexAddr 63 x1 (.const (Value.int IntKind.i64 0)),y1,pos,af,none⟩).run Tryz.prog w=.ok (.value (.pointer (some ⟨g,0,none⟩))) w:=by
 have h1:=at_0 g w
 go_simp
theorem run_loadA0 {e1:Operand→Value} {x1:Operand} {d1:Option Tmp} {y1 g:Nat} {pos:String} {af:Array Edge} {v0 v1 v2 v3 v4 v5 v6 v7 v8 v9 v10 v11 v12 v13 v14 v15 v16 v17:Value} (h:e1 x1=.pointer (some ⟨g,0,none⟩)) (Z:BA3 w g v0 v1 v2 v3 v4 v5 v6 v7 v8 v9 v10 v11 v12 v13 v14 v15 v16 v17) :
 (execOp e1 ⟨d1,.load 29 x1,y1,pos,af,none⟩).run Tryz.prog w=.ok (.value (.agg #[v0,v1,v2,v3,v4,v5])) w:=by
 obtain ⟨c0,c1,c2,c3,c4,c5⟩:=Z.all
 go_simp
theorem at_1 (g:Nat) (w:World):(Instr.indexAt 63 (Value.pointer (some ⟨g,0,none⟩)) (Value.int IntKind.i64 1)).run Tryz.prog w=.ok (.pointer (some ⟨g,6,none⟩)) w:=by kernel_rfl
theorem run_ia1 {e1:Operand→Value} {x1:Operand} {d1:Option Tmp} {y1 g:Nat} {pos:String} {af:Array Edge} (h:e1 x1=.pointer (some ⟨g,0,none⟩)) (hc:e1 (.const (Value.int IntKind.i64 1))=.int .i64 1) :
 (execOp e1 ⟨d1,.indexAddr 63 x1 (.const (Value.int IntKind.i64 1)),y1,pos,af,none⟩).run Tryz.prog w=.ok (.value (.pointer (some ⟨g,6,none⟩))) w:=by
 have h1:=at_1 g w
 go_simp
theorem run_loadA1 {e1:Operand→Value} {x1:Operand} {d1:Option Tmp} {y1 g:Nat} {pos:String} {af:Array Edge} {v0 v1 v2 v3 v4 v5 v6 v7 v8 v9 v10 v11 v12 v13 v14 v15 v16 v17:Value} (h:e1 x1=.pointer (some ⟨g,6,none⟩)) (Z:BA3 w g v0 v1 v2 v3 v4 v5 v6 v7 v8 v9 v10 v11 v12 v13 v14 v15 v16 v17) :
 (execOp e1 ⟨d1,.load 29 x1,y1,pos,af,none⟩).run Tryz.prog w=.ok (.value (.agg #[v6,v7,v8,v9,v10,v11])) w:=by
 have c0:=Z.c6;have c1:=Z.c7;have c2:=Z.c8;have c3:=Z.c9;have c4:=Z.c10;have c5:=Z.c11
 go_simp
theorem at_2 (g:Nat) (w:World):(Instr.indexAt 63 (Value.pointer (some ⟨g,0,none⟩)) (Value.int IntKind.i64 2)).run Tryz.prog w=.ok (.pointer (some ⟨g,12,none⟩)) w:=by kernel_rfl
theorem run_ia2 {e1:Operand→Value} {x1:Operand} {d1:Option Tmp} {y1 g:Nat} {pos:String} {af:Array Edge} (h:e1 x1=.pointer (some ⟨g,0,none⟩)) (hc:e1 (.const (Value.int IntKind.i64 2))=.int .i64 2) :
 (execOp e1 ⟨d1,.indexAddr 63 x1 (.const (Value.int IntKind.i64 2)),y1,pos,af,none⟩).run Tryz.prog w=.ok (.value (.pointer (some ⟨g,12,none⟩))) w:=by
 have h1:=at_2 g w
 go_simp
theorem run_loadA2 {e1:Operand→Value} {x1:Operand} {d1:Option Tmp} {y1 g:Nat} {pos:String} {af:Array Edge} {v0 v1 v2 v3 v4 v5 v6 v7 v8 v9 v10 v11 v12 v13 v14 v15 v16 v17:Value} (h:e1 x1=.pointer (some ⟨g,12,none⟩)) (Z:BA3 w g v0 v1 v2 v3 v4 v5 v6 v7 v8 v9 v10 v11 v12 v13 v14 v15 v16 v17) :
 (execOp e1 ⟨d1,.load 29 x1,y1,pos,af,none⟩).run Tryz.prog w=.ok (.value (.agg #[v12,v13,v14,v15,v16,v17])) w:=by
 have c0:=Z.c12;have c1:=Z.c13;have c2:=Z.c14;have c3:=Z.c15;have c4:=Z.c16;have c5:=Z.c17
 go_simp
def VK (c:Array Value) (x:Value) (_w:World):Prop:=x=.agg c
theorem stays_k (c:Array Value):Stays (VK c):=⟨fun _ _ _ h _=>h,fun _ _ _ _ _ _ h _ _=>h⟩
end
section
open Go Go.RowKit
theorem store_kq {ac:Act} {x1 z:Operand} {y1 g:Nat} {pos:String} {af:Array Edge} {Q:Exit→Act→World→Prop} {s:Bool} {A B:Option Addr} {n c m d:Nat} (p1:ac.eval x1=.pointer (some ⟨g,0,none⟩)) (h:VK #[.bool s,.slice A n c,.slice B m d] (ac.eval z) w) (Z0:BoxAt 27 w g #[.bool false,.slice none 0 0,.slice none 0 0]) :
 (⟨none,.store 27 x1 z,y1,pos,af,none⟩:Oper).wp Tryz.prog ac w (fun a'' w''=>a''=ac∧Only g w w''∧∃ cs',BoxAt 27 w'' g cs'∧(fun cs _=>cs=#[.bool s,.slice A n c,.slice B m d]) cs' w'') Q:=by
 have Z:B3 w g (.bool false) (.slice none 0 0) (.slice none 0 0):=Z0.at_
 unfold Oper.wp
 rw [run_storeQ p1 h Z.c0 Z.c1 Z.c2 Z.f0 Z.f1 Z.f2,Oper.upon_skip]
 have ho:=(((Only.refl g w).setCell 0 (.bool s)).setCell 1 (.slice A n c)).setCell 2 (.slice B m d)
 exact ⟨put_none ac undef,ho,_,⟨Z.set3 _ _ _,free3 _ _ _ _ _ _ _⟩,rfl⟩
end
section
open Go Go.RowKit
structure QV where
 s:Bool
 A:Option Addr
 n:Nat
 c:Nat
 B:Option Addr
 m:Nat
 d:Nat
def QV.cells (p:QV):List Value:=[.bool p.s,.slice p.A p.n p.c,.slice p.B p.m p.d]
def qvs (L:List QV):List Value:=L.flatMap QV.cells
theorem qvs_cons (p:QV) (L:List QV):qvs (p :: L)=p.cells ++ qvs L:=List.flatMap_cons
theorem qvs_get {L:List QV} {i:Nat} {p:QV} (h:L[i]?=some p) {j:Nat} (hj:j < 3):(qvs L)[i*3+j]?=p.cells[j]?:=by
 induction L generalizing i with
 | nil=>cases h
 | cons q L ih =>
   rw [qvs_cons]
   match i with
   | 0 =>
     obtain rfl:q=p:=by simpa using h
     rw [List.getElem?_append_left (show 0*3+j < q.cells.length by show _ < 3;omega)]
     congr 1;omega
   | i+1 =>
     rw [List.getElem?_append_right (show q.cells.length≤(i+1)*3+j by show 3≤_;omega)]
     rw [show (i+1)*3+j - q.cells.length=i*3+j by show (i+1)*3+j - 3=_;omega]
     exact ih h
def SlQ (w:World) (g:Nat) (L:List QV):Prop:=w.heap[g]?=some (.cells (qvs L).toArray 27 (0,0))
def E3 (w:World) (g o:Nat) (x y z:Value):Prop:=g < w.heap.size∧w.cell? ⟨g,o,none⟩=some x∧w.cell? ⟨g,o+1,none⟩=some y∧w.cell? ⟨g,o+2,none⟩=some z
section
variable {w w':World} {g o:Nat} {L:List QV} {x y z:Value}
theorem SlQ.lt (h:SlQ w g L):g < w.heap.size:=by
 rcases Nat.lt_or_ge g w.heap.size with q | q
 · exact q
 · unfold SlQ at h;rw [Array.getElem?_eq_none q] at h;cases h
theorem SlQ.below (h:SlQ w g L) (hb:Below w.heap.size w w'):SlQ w' g L:=(hb.block g h.lt).trans h
theorem E3.below (h:E3 w g o x y z) (hb:Below w.heap.size w w'):E3 w' g o x y z :=
 ⟨Nat.lt_of_lt_of_le h.1 hb.size,(hb.cell (p:=⟨g,o,none⟩) h.1).trans h.2.1,(hb.cell (p:=⟨g,o+1,none⟩) h.1).trans h.2.2.1,(hb.cell (p:=⟨g,o+2,none⟩) h.1).trans h.2.2.2⟩
theorem E3.c0 (h:E3 w g o x y z):w.cell? ⟨g,o,none⟩=some x:=h.2.1
theorem E3.c1 (h:E3 w g o x y z):w.cell? ⟨g,o+1,none⟩=some y:=h.2.2.1
theorem E3.c2 (h:E3 w g o x y z):w.cell? ⟨g,o+2,none⟩=some z:=h.2.2.2
theorem E3.all (h:E3 w g o x y z):w.cell? ⟨g,o,none⟩=some x∧w.cell? ⟨g,o+1,none⟩=some y∧w.cell? ⟨g,o+2,none⟩=some z:=⟨h.c0,h.c1,h.c2⟩
theorem SlQ.at_ (h:SlQ w g L) {i:Nat} {p:QV} (hi:L[i]?=some p):E3 w g (i*3) (.bool p.s) (.slice p.A p.n p.c) (.slice p.B p.m p.d):=by
 have key:∀ j,j < 3→w.cell? ⟨g,i*3+j,none⟩=p.cells[j]?:=fun j hj=>by
  rw [cell_of_row w g (i*3+j) _ _ (0,0) h,← qvs_get hi hj];simp
 exact ⟨h.lt,key 0 (by decide),key 1 (by decide),key 2 (by decide)⟩
end
end
section
open Go Go.RowKit
theorem RP.box {T:TypeId} {w w':World} {g:Nat} {cs:Array Value} {s t:Bool} {A B E F:Option Addr} {n c m d i e j f:Nat} {x y:Rat} {k:Nat} (h:RP w s A n c B m d t E i e F j f x y k) (Z:BoxAt T w g cs) (ho:Only g w w'):RP w' s A n c B m d t E i e F j f x y k:=⟨h.1.box Z ho,h.2.box Z ho⟩
end
section
open Go Go.RowKit
def StaysIn (L:List BoxOp) (F:Value→World→Prop):Prop:=(∀ x w w',F x w→Below w.heap.size w w'→F x w')∧∀ p ∈ L,∀ x w w' g cs,F x w→BoxAt p.T w g cs→Only g w w'→F x w'
theorem Stays.inn {F:Value→World→Prop} (h:Stays F) (L:List BoxOp):StaysIn L F:=⟨h.1,fun p _ x w w' g cs=>h.2 p.T x w w' g cs⟩
section
variable {P:Program} {ops:Array Oper} {Q:Exit→Act→World→Prop}
theorem wp_region_flowsT {id:Nat} {a:Act} {w0:World} (l:List Nat) (L:List BoxOp) (F:Nat→Value→World→Prop)
 (hm:P.follows .mixedOrders=true) (hb:backB ops=true) (hl:ops.toList.filterMap (·.dst)=l) (hn:l.Nodup)
 (hL:∀ p ∈ L,BoxIn P ops p) (hT:∀ p ∈ L,∀ q ∈ L,p.tA=q.tA→p=q) (hS:∀ p ∈ L,∀ q ∈ L,p.is=q.is→p=q)
 (hone:∀ (i:Nat) (o:Oper),ops[i]?=some o→o.dst=none→∃ p ∈ L,p.is=i) (hst:∀ t,StaysIn L (F t))
 (hval:∀ (i:Nat) (o:Oper) (t:Nat) (v:Nat→Value) (w':World),ops[i]?=some o→(∀ p ∈ L,t ≠ p.tA)→o.dst=some t→Below w0.heap.size w0 w' →
  (∀ e ∈ o.after,Region.binds .any e=true→∀ (oe:Oper) (te:Nat),ops[e.on]?=some oe→oe.dst=some te→(∀ p ∈ L,te ≠ p.tA)→F te (v te) w') →
  wpOp P ops Q i (fun a'' w''=>∃ x,a''=(putAll a l v).put (some t) x∧Below w'.heap.size w' w''∧F t x w'') (putAll a l v) w')
 (hstore:∀ p ∈ L,∀ (os:Oper) (v:Nat→Value) (w':World) (g:Nat),ops[p.is]?=some os→Below w0.heap.size w0 w'→v p.tA=.pointer (some ⟨g,0,none⟩)→BoxAt p.T w' g p.zs →
  (∀ e ∈ os.after,Region.binds .any e=true→∀ (oe:Oper) (te:Nat),ops[e.on]?=some oe→oe.dst=some te→(∀ p ∈ L,te ≠ p.tA)→F te (v te) w') →
  os.wp P (putAll a l v) w' (fun a'' w''=>a''=putAll a l v∧Only g w' w''∧∃ cs',BoxAt p.T w'' g cs'∧p.Fst cs' w'') Q)
 (hend:∀ (v:Nat→Value) (w':World),Below w0.heap.size w0 w'→(∀ (i:Nat) (o:Oper) (t:Nat),ops[i]?=some o→o.dst=some t→(∀ p ∈ L,t ≠ p.tA)→F t (v t) w') →
  (∀ p ∈ L,∃ g cs,v p.tA=.pointer (some ⟨g,0,none⟩)∧w0.heap.size≤g∧BoxAt p.T w' g cs∧p.Fst cs w')→(∀ p ∈ L,∀ q ∈ L,p.tA ≠ q.tA→v p.tA ≠ v q.tA)→Q .normal (putAll a l v) w') :
 (Code.region id ops true).wp P Q a w0:=by
 have lt_of:∀ {i:Nat} {o:Oper},ops[i]?=some o→i < ops.size:=fun {i o} h=>by
  rcases Nat.lt_or_ge i ops.size with k | k
  · exact k
  · rw [Array.getElem?_eq_none k] at h;cases h
 have hmem:∀ {i:Nat} {o:Oper} {t:Nat},ops[i]?=some o→o.dst=some t→t ∈ l:=fun {i o t} h d=>by
  rw [← hl];exact List.mem_filterMap.2 ⟨o,List.mem_of_getElem? (by simpa using h),d⟩
 have hinj:∀ {i j:Nat} {oi oj:Oper} {t:Nat},ops[i]?=some oi→ops[j]?=some oj→oi.dst=some t→oj.dst=some t→i=j:=fun {i j oi oj t} h1 h2 d1 d2 =>
  once_of (l:=ops.toList) (by rw [hl];exact hn) (by simpa using h1) (by simpa using h2) d1 d2
 -- a filling operation is no making one,and none that tells a value
 have his:∀ p ∈ L,∀ (i:Nat) (o:Oper) (t:Nat),ops[i]?=some o→o.dst=some t→p.is ≠ i:=by
  intro p hp i o t ho ht q
  obtain ⟨os,h1,h2,_⟩:=(hL p hp).fill
  subst q
  rw [h1] at ho
  cases ho
  rw [h2] at ht
  cases ht
 refine wp_region_inv l (JFlows ops w0 L F) hm hb ?_ ?_ ?_ ?_
 · refine ⟨(Below.refl _ _).drew,?_,?_,?_,?_⟩
   · intro i o t _ _ _ h;exact absurd (show false=true from h) (by decide)
   · intro p _ h;exact absurd (show false=true from h) (by decide)
   · intro p _ h;exact absurd (show false=true from h) (by decide)
   · intro p _ q _ _ h;exact absurd (show false=true from h) (by decide)
 · intro D D' v w hD h
   have ea:∀ p ∈ L,D p.ia=D' p.ia:=fun p hp=>by obtain ⟨oa,h1,_⟩:=(hL p hp).alloc;exact hD _ (lt_of h1)
   have es:∀ p ∈ L,D p.is=D' p.is:=fun p hp=>by obtain ⟨os,h1,_⟩:=(hL p hp).fill;exact hD _ (lt_of h1)
   refine ⟨h.below,fun i o t hi ht hne hd=>h.vals i o t hi ht hne (by rw [hD i (lt_of hi)];exact hd),?_,?_,?_⟩
   · intro p hp;rw [← ea p hp,← es p hp];exact h.box p hp
   · intro p hp;rw [← ea p hp,← es p hp];exact h.after p hp
   · intro p hp q hq;rw [← ea p hp,← ea q hq];exact h.apart p hp q hq
 · intro i o D v w' ho hDi hall J
   cases hd:o.dst with
   | none =>
     obtain ⟨p,hp,rfl⟩:=hone i o ho hd
     obtain ⟨os,h1,h2,hgs,e,he,hbd,hon⟩:=(hL p hp).fill
     rw [h1] at ho
     cases ho
     have hDa:D p.ia=true:=by rw [← hon];exact hall e he hbd
     obtain ⟨g,cs,p1,p2,p3,_,pz⟩:=J.box p hp hDa
     obtain rfl:=pz hDi
     refine wpOp_plain' h1 hgs ?_
     refine Oper.wp_mono ?_ (hstore p hp _ v w' g h1 J.below p1 p3 (fun e he hb' oe te h1 h2 h3=>J.vals e.on oe te h1 h2 h3 (hall e he hb')))
     rintro a'' w'' ⟨rfl,ho2,cs',hB,hF⟩
     have nia:∀ q ∈ L,q.ia ≠ p.is:=fun q hq k=>by
      obtain ⟨oa,k1,k2,_⟩:=(hL q hq).alloc
      exact his p hp q.ia oa q.tA k1 k2 k.symm
     refine ⟨v,rfl,Below.only J.below p2 J.below.size ho2,?_,?_,?_,?_⟩
     · intro j oj t hj ht hne hd2
       have hji:j ≠ p.is:=fun q=>his p hp j oj t hj ht q.symm
       rw [upd_ne _ _ hji] at hd2
       exact (hst t).2 p hp _ _ _ _ _ (J.vals j oj t hj ht hne hd2) p3 ho2
     · intro q hq hDq
       rw [upd_ne _ _ (nia q hq)] at hDq
       by_cases hpq:q.tA=p.tA
       · obtain rfl:=hT q hq p hp hpq
         exact ⟨g,cs',p1,p2,hB,fun _=>hF,fun k=>by rw [upd_same] at k;cases k⟩
       · obtain ⟨g2,cs2,r1,r2,r3,r4,r5⟩:=J.box q hq hDq
         have hgg:g2 ≠ g:=fun k=>J.apart q hq p hp hpq hDq hDa (by rw [r1,p1,k])
         have hss:q.is ≠ p.is:=fun k=>hpq (by rw [hS q hq p hp k])
         refine ⟨g2,cs2,r1,r2,⟨(ho2.block g2 r3.lt hgg).trans r3.at_,r3.free⟩,fun k=>?_,fun k=>?_⟩
         · rw [upd_ne _ _ hss] at k
           exact (hL q hq).stays2 _ _ _ _ _ _ (r4 k) p3 ho2
         · rw [upd_ne _ _ hss] at k
           exact r5 k
     · intro q hq k
       rw [upd_ne _ _ (nia q hq)]
       by_cases hss:q.is=p.is
       · obtain rfl:=hS q hq p hp hss
         exact hDa
       · rw [upd_ne _ _ hss] at k
         exact J.after q hq k
     · intro q hq r hr hne k1 k2
       rw [upd_ne _ _ (nia q hq)] at k1
       rw [upd_ne _ _ (nia r hr)] at k2
       exact J.apart q hq r hr hne k1 k2
   | some t =>
     have nis:∀ q ∈ L,q.is ≠ i:=fun q hq=>his q hq i o t ho hd
     by_cases hA:∃ p ∈ L,t=p.tA
     · obtain ⟨p,hp,rfl⟩:=hA
       obtain ⟨oa,h1,h2,hga,halloc⟩:=(hL p hp).alloc
       have hii:i=p.ia:=hinj ho h1 hd h2
       subst hii
       rw [h1] at ho
       cases ho
       refine wpOp_plain' h1 hga ?_
       unfold Oper.wp
       rw [halloc,Oper.upon_value,h2]
       have hbl:=(Below.refl w'.heap.size w').alloc (Nat.le_refl _) (.cells p.zs p.T)
       have hnew:∀ q ∈ L,q.tA ≠ p.tA→q.ia ≠ p.ia:=fun q hq k r=>by
        obtain ⟨ob,k1,k2,_⟩:=(hL q hq).alloc
        rw [r,h1] at k1
        cases k1
        rw [h2] at k2
        exact k (Option.some.inj k2).symm
       refine ⟨_,putAll_put _ _ _ _ _ hn (hmem h1 h2),J.below.trans (hbl.mono J.below.size),?_,?_,?_,?_⟩
       · intro j oj t hj ht hne hd2
         have htp:=hne p hp
         have hji:j ≠ p.ia:=fun q=>htp (by subst q;rw [h1] at hj;cases hj;rw [h2] at ht;cases ht;rfl)
         rw [upd_ne _ _ hji] at hd2;rw [upd_ne _ _ htp]
         exact (hst t).1 _ _ _ (J.vals j oj t hj ht hne hd2) hbl
       · intro q hq hDq
         by_cases hqp:q.tA=p.tA
         · obtain rfl:=hT q hq p hp hqp
           refine ⟨w'.heap.size,q.zs,upd_same _ _ _,J.below.size,⟨heap_alloc_new _ _,(hL q hq).free⟩,fun h=>?_,fun _=>rfl⟩
           rw [upd_ne _ _ (nis q hq)] at h
           have:=J.after q hq h
           rw [hDi] at this
           cases this
         · rw [upd_ne _ _ (hnew q hq hqp)] at hDq
           obtain ⟨g,cs,r1,r2,r3,r4,r5⟩:=J.box q hq hDq
           refine ⟨g,cs,by rw [upd_ne _ _ hqp];exact r1,r2,r3.below hbl,fun h=>?_,fun h=>?_⟩
           · rw [upd_ne _ _ (nis q hq)] at h
             exact (hL q hq).stays _ _ _ (r4 h) hbl
           · rw [upd_ne _ _ (nis q hq)] at h
             exact r5 h
       · intro q hq h
         rw [upd_ne _ _ (nis q hq)] at h
         by_cases hqp:q.tA=p.tA
         · obtain rfl:=hT q hq p hp hqp
           rw [upd_same]
         · rw [upd_ne _ _ (hnew q hq hqp)]
           exact J.after q hq h
       · intro q hq r hr hne k1 k2
         by_cases hqp:q.tA=p.tA
         · obtain rfl:=hT q hq p hp hqp
           have hrp:r.tA ≠ q.tA:=Ne.symm hne
           rw [upd_ne _ _ (hnew r hr hrp)] at k2
           obtain ⟨g,cs,r1,_,r3,_⟩:=J.box r hr k2
           rw [upd_same,upd_ne _ _ hrp,r1]
           intro k
           simp only [Value.pointer.injEq,Option.some.injEq,Addr.mk.injEq] at k
           have:=r3.lt
           omega
         · rw [upd_ne _ _ (hnew q hq hqp)] at k1
           by_cases hrp:r.tA=p.tA
           · obtain rfl:=hT r hr p hp hrp
             obtain ⟨g,cs,r1,_,r3,_⟩:=J.box q hq k1
             rw [upd_same,upd_ne _ _ hqp,r1]
             intro k
             simp only [Value.pointer.injEq,Option.some.injEq,Addr.mk.injEq] at k
             have:=r3.lt
             omega
           · rw [upd_ne _ _ (hnew r hr hrp)] at k2
             rw [upd_ne _ _ hqp,upd_ne _ _ hrp]
             exact J.apart q hq r hr hne k1 k2
     · have htA:∀ p ∈ L,t ≠ p.tA:=fun p hp k=>hA ⟨p,hp,k⟩
       have nia:∀ q ∈ L,q.ia ≠ i:=fun q hq k=>by
        obtain ⟨oa,k1,k2,_⟩:=(hL q hq).alloc
        rw [k,ho] at k1
        cases k1
        rw [hd] at k2
        cases k2
        exact htA q hq rfl
       refine wpOp_mono ?_ (hval i o t v w' ho htA hd J.below (fun e he hb' oe te h1 h2 h3=>J.vals e.on oe te h1 h2 h3 (hall e he hb')))
       rintro a'' w'' ⟨x,rfl,hbl,hF⟩
       refine ⟨_,putAll_put _ _ _ _ _ hn (hmem ho hd),J.below.trans (hbl.mono J.below.size),?_,?_,?_,?_⟩
       · intro j oj t' hj ht hne hd2
         by_cases hji:j=i
         · subst hji
           rw [ho] at hj
           cases hj
           rw [hd] at ht
           cases ht
           rw [upd_same]
           exact hF
         · rw [upd_ne _ _ hji] at hd2
           have htt:t' ≠ t:=fun q=>hji (by subst q;exact hinj hj ho ht hd)
           rw [upd_ne _ _ htt]
           exact (hst t').1 _ _ _ (J.vals j oj t' hj ht hne hd2) hbl
       · intro q hq hDq
         rw [upd_ne _ _ (nia q hq)] at hDq
         obtain ⟨g,cs,r1,r2,r3,r4,r5⟩:=J.box q hq hDq
         refine ⟨g,cs,by rw [upd_ne _ _ (Ne.symm (htA q hq))];exact r1,r2,r3.below hbl,fun h=>?_,fun h=>?_⟩
         · rw [upd_ne _ _ (nis q hq)] at h
           exact (hL q hq).stays _ _ _ (r4 h) hbl
         · rw [upd_ne _ _ (nis q hq)] at h
           exact r5 h
       · intro q hq h
         rw [upd_ne _ _ (nis q hq)] at h
         rw [upd_ne _ _ (nia q hq)]
         exact J.after q hq h
       · intro q hq r hr hne k1 k2
         rw [upd_ne _ _ (nia q hq)] at k1
         rw [upd_ne _ _ (nia r hr)] at k2
         rw [upd_ne _ _ (Ne.symm (htA q hq)),upd_ne _ _ (Ne.symm (htA r hr))]
         exact J.apart q hq r hr hne k1 k2
 · intro D v w' hall J
   refine hend v w' J.below (fun i o t hi ht hne=>J.vals i o t hi ht hne (hall i (lt_of hi))) ?_ ?_
   · intro p hp
     obtain ⟨oa,h1,_⟩:=(hL p hp).alloc
     obtain ⟨os,h2,_⟩:=(hL p hp).fill
     obtain ⟨g,cs,r1,r2,r3,r4,_⟩:=J.box p hp (hall _ (lt_of h1))
     exact ⟨g,cs,r1,r2,r3,r4 (hall _ (lt_of h2))⟩
   · intro p hp q hq hne
     obtain ⟨oa,h1,_⟩:=(hL p hp).alloc
     obtain ⟨ob,h2,_⟩:=(hL q hq).alloc
     exact J.apart p hp q hq hne (hall _ (lt_of h1)) (hall _ (lt_of h2))
end
end
section
open Go Go.RowKit
structure MV where
 a:QV
 b:QV
 c:QV
 d:QV
 e:QV
 f:QV
structure AM where
 a:Rat
 b:Rat
 c:Rat
 d:Rat
 e:Rat
 f:Rat
def AM.ax (m:AM) (x y:Rat):Rat:=m.a*x+m.c*y+m.e
def AM.ay (m:AM) (x y:Rat):Rat:=m.b*x+m.d*y+m.f
def AM.dx (m:AM) (x y:Rat):Rat:=m.a*x+m.c*y
def AM.dy (m:AM) (x y:Rat):Rat:=m.b*x+m.d*y
def AM.mul (m n:AM):AM:=⟨m.dx n.a n.b,m.dy n.a n.b,m.dx n.c n.d,m.dy n.c n.d,m.ax n.e n.f,m.ay n.e n.f⟩
def AM.det (m:AM):Rat:=m.a*m.d - m.b*m.c
def B18 (W:World) (g:Nat) (v0 v1 v2 v3 v4 v5 v6 v7 v8 v9 v10 v11 v12 v13 v14 v15 v16 v17:Value):Prop:=W.heap[g]?=some (.cells #[v0,v1,v2,v3,v4,v5,v6,v7,v8,v9,v10,v11,v12,v13,v14,v15,v16,v17] 71 (0,0))
section
variable {W W':World} {g:Nat} {v0 v1 v2 v3 v4 v5 v6 v7 v8 v9 v10 v11 v12 v13 v14 v15 v16 v17:Value}
theorem B18.c0 (h:B18 W g v0 v1 v2 v3 v4 v5 v6 v7 v8 v9 v10 v11 v12 v13 v14 v15 v16 v17):W.cell? ⟨g,0,none⟩=some v0:=by rw [cell_of_row W g 0 _ _ (0,0) h];rfl
theorem B18.c1 (h:B18 W g v0 v1 v2 v3 v4 v5 v6 v7 v8 v9 v10 v11 v12 v13 v14 v15 v16 v17):W.cell? ⟨g,1,none⟩=some v1:=by rw [cell_of_row W g 1 _ _ (0,0) h];rfl
theorem B18.c2 (h:B18 W g v0 v1 v2 v3 v4 v5 v6 v7 v8 v9 v10 v11 v12 v13 v14 v15 v16 v17):W.cell? ⟨g,2,none⟩=some v2:=by rw [cell_of_row W g 2 _ _ (0,0) h];rfl
theorem B18.c3 (h:B18 W g v0 v1 v2 v3 v4 v5 v6 v7 v8 v9 v10 v11 v12 v13 v14 v15 v16 v17):W.cell? ⟨g,3,none⟩=some v3:=by rw [cell_of_row W g 3 _ _ (0,0) h];rfl
theorem B18.c4 (h:B18 W g v0 v1 v2 v3 v4 v5 v6 v7 v8 v9 v10 v11 v12 v13 v14 v15 v16 v17):W.cell? ⟨g,4,none⟩=some v4:=by rw [cell_of_row W g 4 _ _ (0,0) h];rfl
theorem B18.c5 (h:B18 W g v0 v1 v2 v3 v4 v5 v6 v7 v8 v9 v10 v11 v12 v13 v14 v15 v16 v17):W.cell? ⟨g,5,none⟩=some v5:=by rw [cell_of_row W g 5 _ _ (0,0) h];rfl
theorem B18.c6 (h:B18 W g v0 v1 v2 v3 v4 v5 v6 v7 v8 v9 v10 v11 v12 v13 v14 v15 v16 v17):W.cell? ⟨g,6,none⟩=some v6:=by rw [cell_of_row W g 6 _ _ (0,0) h];rfl
theorem B18.c7 (h:B18 W g v0 v1 v2 v3 v4 v5 v6 v7 v8 v9 v10 v11 v12 v13 v14 v15 v16 v17):W.cell? ⟨g,7,none⟩=some v7:=by rw [cell_of_row W g 7 _ _ (0,0) h];rfl
theorem B18.c8 (h:B18 W g v0 v1 v2 v3 v4 v5 v6 v7 v8 v9 v10 v11 v12 v13 v14 v15 v16 v17):W.cell? ⟨g,8,none⟩=some v8:=by rw [cell_of_row W g 8 _ _ (0,0) h];rfl
theorem B18.c9 (h:B18 W g v0 v1 v2 v3 v4 v5 v6 v7 v8 v9 v10 v11 v12 v13 v14 v15 v16 v17):W.cell? ⟨g,9,none⟩=some v9:=by rw [cell_of_row W g 9 _ _ (0,0) h];rfl
theorem B18.c10 (h:B18 W g v0 v1 v2 v3 v4 v5 v6 v7 v8 v9 v10 v11 v12 v13 v14 v15 v16 v17):W.cell? ⟨g,10,none⟩=some v10:=by rw [cell_of_row W g 10 _ _ (0,0) h];rfl
theorem B18.c11 (h:B18 W g v0 v1 v2 v3 v4 v5 v6 v7 v8 v9 v10 v11 v12 v13 v14 v15 v16 v17):W.cell? ⟨g,11,none⟩=some v11:=by rw [cell_of_row W g 11 _ _ (0,0) h];rfl
theorem B18.c12 (h:B18 W g v0 v1 v2 v3 v4 v5 v6 v7 v8 v9 v10 v11 v12 v13 v14 v15 v16 v17):W.cell? ⟨g,12,none⟩=some v12:=by rw [cell_of_row W g 12 _ _ (0,0) h];rfl
theorem B18.c13 (h:B18 W g v0 v1 v2 v3 v4 v5 v6 v7 v8 v9 v10 v11 v12 v13 v14 v15 v16 v17):W.cell? ⟨g,13,none⟩=some v13:=by rw [cell_of_row W g 13 _ _ (0,0) h];rfl
theorem B18.c14 (h:B18 W g v0 v1 v2 v3 v4 v5 v6 v7 v8 v9 v10 v11 v12 v13 v14 v15 v16 v17):W.cell? ⟨g,14,none⟩=some v14:=by rw [cell_of_row W g 14 _ _ (0,0) h];rfl
theorem B18.c15 (h:B18 W g v0 v1 v2 v3 v4 v5 v6 v7 v8 v9 v10 v11 v12 v13 v14 v15 v16 v17):W.cell? ⟨g,15,none⟩=some v15:=by rw [cell_of_row W g 15 _ _ (0,0) h];rfl
theorem B18.c16 (h:B18 W g v0 v1 v2 v3 v4 v5 v6 v7 v8 v9 v10 v11 v12 v13 v14 v15 v16 v17):W.cell? ⟨g,16,none⟩=some v16:=by rw [cell_of_row W g 16 _ _ (0,0) h];rfl
theorem B18.c17 (h:B18 W g v0 v1 v2 v3 v4 v5 v6 v7 v8 v9 v10 v11 v12 v13 v14 v15 v16 v17):W.cell? ⟨g,17,none⟩=some v17:=by rw [cell_of_row W g 17 _ _ (0,0) h];rfl
theorem B18.all (h:B18 W g v0 v1 v2 v3 v4 v5 v6 v7 v8 v9 v10 v11 v12 v13 v14 v15 v16 v17):W.cell? ⟨g,0,none⟩=some v0∧W.cell? ⟨g,1,none⟩=some v1∧W.cell? ⟨g,2,none⟩=some v2∧W.cell? ⟨g,3,none⟩=some v3∧W.cell? ⟨g,4,none⟩=some v4∧W.cell? ⟨g,5,none⟩=some v5∧W.cell? ⟨g,6,none⟩=some v6∧W.cell? ⟨g,7,none⟩=some v7∧W.cell? ⟨g,8,none⟩=some v8∧W.cell? ⟨g,9,none⟩=some v9∧W.cell? ⟨g,10,none⟩=some v10∧W.cell? ⟨g,11,none⟩=some v11∧W.cell? ⟨g,12,none⟩=some v12∧W.cell? ⟨g,13,none⟩=some v13∧W.cell? ⟨g,14,none⟩=some v14∧W.cell? ⟨g,15,none⟩=some v15∧W.cell? ⟨g,16,none⟩=some v16∧W.cell? ⟨g,17,none⟩=some v17:=⟨h.c0,h.c1,h.c2,h.c3,h.c4,h.c5,h.c6,h.c7,h.c8,h.c9,h.c10,h.c11,h.c12,h.c13,h.c14,h.c15,h.c16,h.c17⟩
theorem B18.f0 (h:B18 W g v0 v1 v2 v3 v4 v5 v6 v7 v8 v9 v10 v11 v12 v13 v14 v15 v16 v17):W.frozen? ⟨g,0,none⟩=false:=frozen_of_row W g 0 _ _ h
theorem B18.f1 (h:B18 W g v0 v1 v2 v3 v4 v5 v6 v7 v8 v9 v10 v11 v12 v13 v14 v15 v16 v17):W.frozen? ⟨g,1,none⟩=false:=frozen_of_row W g 1 _ _ h
theorem B18.f2 (h:B18 W g v0 v1 v2 v3 v4 v5 v6 v7 v8 v9 v10 v11 v12 v13 v14 v15 v16 v17):W.frozen? ⟨g,2,none⟩=false:=frozen_of_row W g 2 _ _ h
theorem B18.f3 (h:B18 W g v0 v1 v2 v3 v4 v5 v6 v7 v8 v9 v10 v11 v12 v13 v14 v15 v16 v17):W.frozen? ⟨g,3,none⟩=false:=frozen_of_row W g 3 _ _ h
theorem B18.f4 (h:B18 W g v0 v1 v2 v3 v4 v5 v6 v7 v8 v9 v10 v11 v12 v13 v14 v15 v16 v17):W.frozen? ⟨g,4,none⟩=false:=frozen_of_row W g 4 _ _ h
theorem B18.f5 (h:B18 W g v0 v1 v2 v3 v4 v5 v6 v7 v8 v9 v10 v11 v12 v13 v14 v15 v16 v17):W.frozen? ⟨g,5,none⟩=false:=frozen_of_row W g 5 _ _ h
theorem B18.f6 (h:B18 W g v0 v1 v2 v3 v4 v5 v6 v7 v8 v9 v10 v11 v12 v13 v14 v15 v16 v17):W.frozen? ⟨g,6,none⟩=false:=frozen_of_row W g 6 _ _ h
theorem B18.f7 (h:B18 W g v0 v1 v2 v3 v4 v5 v6 v7 v8 v9 v10 v11 v12 v13 v14 v15 v16 v17):W.frozen? ⟨g,7,none⟩=false:=frozen_of_row W g 7 _ _ h
theorem B18.f8 (h:B18 W g v0 v1 v2 v3 v4 v5 v6 v7 v8 v9 v10 v11 v12 v13 v14 v15 v16 v17):W.frozen? ⟨g,8,none⟩=false:=frozen_of_row W g 8 _ _ h
theorem B18.f9 (h:B18 W g v0 v1 v2 v3 v4 v5 v6 v7 v8 v9 v10 v11 v12 v13 v14 v15 v16 v17):W.frozen? ⟨g,9,none⟩=false:=frozen_of_row W g 9 _ _ h
theorem B18.f10 (h:B18 W g v0 v1 v2 v3 v4 v5 v6 v7 v8 v9 v10 v11 v12 v13 v14 v15 v16 v17):W.frozen? ⟨g,10,none⟩=false:=frozen_of_row W g 10 _ _ h
theorem B18.f11 (h:B18 W g v0 v1 v2 v3 v4 v5 v6 v7 v8 v9 v10 v11 v12 v13 v14 v15 v16 v17):W.frozen? ⟨g,11,none⟩=false:=frozen_of_row W g 11 _ _ h
theorem B18.f12 (h:B18 W g v0 v1 v2 v3 v4 v5 v6 v7 v8 v9 v10 v11 v12 v13 v14 v15 v16 v17):W.frozen? ⟨g,12,none⟩=false:=frozen_of_row W g 12 _ _ h
theorem B18.f13 (h:B18 W g v0 v1 v2 v3 v4 v5 v6 v7 v8 v9 v10 v11 v12 v13 v14 v15 v16 v17):W.frozen? ⟨g,13,none⟩=false:=frozen_of_row W g 13 _ _ h
theorem B18.f14 (h:B18 W g v0 v1 v2 v3 v4 v5 v6 v7 v8 v9 v10 v11 v12 v13 v14 v15 v16 v17):W.frozen? ⟨g,14,none⟩=false:=frozen_of_row W g 14 _ _ h
theorem B18.f15 (h:B18 W g v0 v1 v2 v3 v4 v5 v6 v7 v8 v9 v10 v11 v12 v13 v14 v15 v16 v17):W.frozen? ⟨g,15,none⟩=false:=frozen_of_row W g 15 _ _ h
theorem B18.f16 (h:B18 W g v0 v1 v2 v3 v4 v5 v6 v7 v8 v9 v10 v11 v12 v13 v14 v15 v16 v17):W.frozen? ⟨g,16,none⟩=false:=frozen_of_row W g 16 _ _ h
theorem B18.f17 (h:B18 W g v0 v1 v2 v3 v4 v5 v6 v7 v8 v9 v10 v11 v12 v13 v14 v15 v16 v17):W.frozen? ⟨g,17,none⟩=false:=frozen_of_row W g 17 _ _ h
theorem B18.lt (h:B18 W g v0 v1 v2 v3 v4 v5 v6 v7 v8 v9 v10 v11 v12 v13 v14 v15 v16 v17):g < W.heap.size:=World.block_lt_of_cell? W _ h.c0
theorem B18.below (h:B18 W g v0 v1 v2 v3 v4 v5 v6 v7 v8 v9 v10 v11 v12 v13 v14 v15 v16 v17) (hb:Below W.heap.size W W'):B18 W' g v0 v1 v2 v3 v4 v5 v6 v7 v8 v9 v10 v11 v12 v13 v14 v15 v16 v17:=(hb.block g h.lt).trans h
theorem B18.alloc (h:B18 W g v0 v1 v2 v3 v4 v5 v6 v7 v8 v9 v10 v11 v12 v13 v14 v15 v16 v17) (o:Obj):B18 (W.alloc o) g v0 v1 v2 v3 v4 v5 v6 v7 v8 v9 v10 v11 v12 v13 v14 v15 v16 v17:=(Below.heap_alloc W o g h.lt).trans h
theorem B18.new' (W:World) (v0 v1 v2 v3 v4 v5 v6 v7 v8 v9 v10 v11 v12 v13 v14 v15 v16 v17:Value) (g:Nat) (hg:g=W.heap.size):B18 (W.alloc (.cells #[v0,v1,v2,v3,v4,v5,v6,v7,v8,v9,v10,v11,v12,v13,v14,v15,v16,v17] 71)) g v0 v1 v2 v3 v4 v5 v6 v7 v8 v9 v10 v11 v12 v13 v14 v15 v16 v17:=by subst hg;exact heap_alloc_new W _
theorem B18.set18 (h:B18 W g v0 v1 v2 v3 v4 v5 v6 v7 v8 v9 v10 v11 v12 v13 v14 v15 v16 v17) (a0 a1 a2 a3 a4 a5 a6 a7 a8 a9 a10 a11 a12 a13 a14 a15 a16 a17:Value):B18 ((((((((((((((((((W.setCell ⟨g,0,none⟩ a0).setCell ⟨g,1,none⟩ a1).setCell ⟨g,2,none⟩ a2).setCell ⟨g,3,none⟩ a3).setCell ⟨g,4,none⟩ a4).setCell ⟨g,5,none⟩ a5).setCell ⟨g,6,none⟩ a6).setCell ⟨g,7,none⟩ a7).setCell ⟨g,8,none⟩ a8).setCell ⟨g,9,none⟩ a9).setCell ⟨g,10,none⟩ a10).setCell ⟨g,11,none⟩ a11).setCell ⟨g,12,none⟩ a12).setCell ⟨g,13,none⟩ a13).setCell ⟨g,14,none⟩ a14).setCell ⟨g,15,none⟩ a15).setCell ⟨g,16,none⟩ a16).setCell ⟨g,17,none⟩ a17) g a0 a1 a2 a3 a4 a5 a6 a7 a8 a9 a10 a11 a12 a13 a14 a15 a16 a17:=by
 unfold B18 at h ⊢
 have h0:=heap_setCell_same _ g 0 _ _ a0 h
 simp only [List.setIfInBounds_toArray,List.set_cons_zero] at h0
 have h1:=heap_setCell_same _ g 1 _ _ a1 h0
 simp only [List.setIfInBounds_toArray,List.set_cons_zero,List.set_cons_succ] at h1
 have h2:=heap_setCell_same _ g 2 _ _ a2 h1
 simp only [List.setIfInBounds_toArray,List.set_cons_zero,List.set_cons_succ] at h2
 have h3:=heap_setCell_same _ g 3 _ _ a3 h2
 simp only [List.setIfInBounds_toArray,List.set_cons_zero,List.set_cons_succ] at h3
 have h4:=heap_setCell_same _ g 4 _ _ a4 h3
 simp only [List.setIfInBounds_toArray,List.set_cons_zero,List.set_cons_succ] at h4
 have h5:=heap_setCell_same _ g 5 _ _ a5 h4
 simp only [List.setIfInBounds_toArray,List.set_cons_zero,List.set_cons_succ] at h5
 have h6:=heap_setCell_same _ g 6 _ _ a6 h5
 simp only [List.setIfInBounds_toArray,List.set_cons_zero,List.set_cons_succ] at h6
 have h7:=heap_setCell_same _ g 7 _ _ a7 h6
 simp only [List.setIfInBounds_toArray,List.set_cons_zero,List.set_cons_succ] at h7
 have h8:=heap_setCell_same _ g 8 _ _ a8 h7
 simp only [List.setIfInBounds_toArray,List.set_cons_zero,List.set_cons_succ] at h8
 have h9:=heap_setCell_same _ g 9 _ _ a9 h8
 simp only [List.setIfInBounds_toArray,List.set_cons_zero,List.set_cons_succ] at h9
 have h10:=heap_setCell_same _ g 10 _ _ a10 h9
 simp only [List.setIfInBounds_toArray,List.set_cons_zero,List.set_cons_succ] at h10
 have h11:=heap_setCell_same _ g 11 _ _ a11 h10
 simp only [List.setIfInBounds_toArray,List.set_cons_zero,List.set_cons_succ] at h11
 have h12:=heap_setCell_same _ g 12 _ _ a12 h11
 simp only [List.setIfInBounds_toArray,List.set_cons_zero,List.set_cons_succ] at h12
 have h13:=heap_setCell_same _ g 13 _ _ a13 h12
 simp only [List.setIfInBounds_toArray,List.set_cons_zero,List.set_cons_succ] at h13
 have h14:=heap_setCell_same _ g 14 _ _ a14 h13
 simp only [List.setIfInBounds_toArray,List.set_cons_zero,List.set_cons_succ] at h14
 have h15:=heap_setCell_same _ g 15 _ _ a15 h14
 simp only [List.setIfInBounds_toArray,List.set_cons_zero,List.set_cons_succ] at h15
 have h16:=heap_setCell_same _ g 16 _ _ a16 h15
 simp only [List.setIfInBounds_toArray,List.set_cons_zero,List.set_cons_succ] at h16
 have h17:=heap_setCell_same _ g 17 _ _ a17 h16
 simp only [List.setIfInBounds_toArray,List.set_cons_zero,List.set_cons_succ] at h17
 exact h17
theorem B18.restm {k:Nat} (h:B18 W g v0 v1 v2 v3 v4 v5 v6 v7 v8 v9 v10 v11 v12 v13 v14 v15 v16 v17) (hne:g ≠ k) (ho:Only k W W'):B18 W' g v0 v1 v2 v3 v4 v5 v6 v7 v8 v9 v10 v11 v12 v13 v14 v15 v16 v17:=(ho.block g h.lt hne).trans h
def LVM (a:Addr):Sem Value:=loadVar 71 a
theorem open_LVM (a:Addr):loadVar 71 a=LVM a:=rfl
def STM (a:Addr) (v:Value):Sem Unit:=storeVar 71 a v
theorem open_STM (a:Addr) (v:Value):storeVar 71 a v=STM a v:=rfl
theorem B18.ld (h:B18 W g v0 v1 v2 v3 v4 v5 v6 v7 v8 v9 v10 v11 v12 v13 v14 v15 v16 v17):(LVM ⟨g,0,none⟩).run Tryz.prog W=.ok (.agg #[v0,v1,v2,v3,v4,v5,v6,v7,v8,v9,v10,v11,v12,v13,v14,v15,v16,v17]) W :=
 run_loadVar_row W g _ _ _ (0,0) _ h Tryz.underlying71 rfl (by kernel_rfl)
theorem B18.st (h:B18 W g v0 v1 v2 v3 v4 v5 v6 v7 v8 v9 v10 v11 v12 v13 v14 v15 v16 v17) (a0 a1 a2 a3 a4 a5 a6 a7 a8 a9 a10 a11 a12 a13 a14 a15 a16 a17:Value) (h1:∀ v ∈ [a0,a1,a2,a3,a4,a5,a6,a7,a8,a9,a10,a11,a12,a13,a14,a15,a16,a17],v.oneCell'=true):(STM ⟨g,0,none⟩ (.agg #[a0,a1,a2,a3,a4,a5,a6,a7,a8,a9,a10,a11,a12,a13,a14,a15,a16,a17])).run Tryz.prog W=.ok () ((((((((((((((((((W.setCell ⟨g,0,none⟩ a0).setCell ⟨g,1,none⟩ a1).setCell ⟨g,2,none⟩ a2).setCell ⟨g,3,none⟩ a3).setCell ⟨g,4,none⟩ a4).setCell ⟨g,5,none⟩ a5).setCell ⟨g,6,none⟩ a6).setCell ⟨g,7,none⟩ a7).setCell ⟨g,8,none⟩ a8).setCell ⟨g,9,none⟩ a9).setCell ⟨g,10,none⟩ a10).setCell ⟨g,11,none⟩ a11).setCell ⟨g,12,none⟩ a12).setCell ⟨g,13,none⟩ a13).setCell ⟨g,14,none⟩ a14).setCell ⟨g,15,none⟩ a15).setCell ⟨g,16,none⟩ a16).setCell ⟨g,17,none⟩ a17):=by
 have hc:(storeCells ⟨g,0,none⟩ [a0,a1,a2,a3,a4,a5,a6,a7,a8,a9,a10,a11,a12,a13,a14,a15,a16,a17] 0).run Tryz.prog W=.ok () ((((((((((((((((((W.setCell ⟨g,0,none⟩ a0).setCell ⟨g,1,none⟩ a1).setCell ⟨g,2,none⟩ a2).setCell ⟨g,3,none⟩ a3).setCell ⟨g,4,none⟩ a4).setCell ⟨g,5,none⟩ a5).setCell ⟨g,6,none⟩ a6).setCell ⟨g,7,none⟩ a7).setCell ⟨g,8,none⟩ a8).setCell ⟨g,9,none⟩ a9).setCell ⟨g,10,none⟩ a10).setCell ⟨g,11,none⟩ a11).setCell ⟨g,12,none⟩ a12).setCell ⟨g,13,none⟩ a13).setCell ⟨g,14,none⟩ a14).setCell ⟨g,15,none⟩ a15).setCell ⟨g,16,none⟩ a16).setCell ⟨g,17,none⟩ a17) :=
  run_storeCells_cells g 0 [a0,a1,a2,a3,a4,a5,a6,a7,a8,a9,a10,a11,a12,a13,a14,a15,a16,a17] 0 W (fun j hj=>by rw [cell_of_row W g _ _ _ (0,0) h];simp only [List.length_cons,List.length_nil] at hj;simp;omega) (fun j _=>frozen_of_row W g _ _ _ h) h1
 have hz:(sizeOf 71).run Tryz.prog W=.ok 18 W:=by
  have hi:(Tryz.prog.info? 71).map (·.size)=some 18:=by kernel_rfl
  cases hq:Tryz.prog.info? 71 with
  | none=>simp [hq] at hi
  | some i=>simp [hq] at hi;simp [sizeOf,typeInfo,hq,hi]
 unfold STM storeVar
 simp only [Sem.run_bind,hz,Result.andThen_ok]
 exact hc
end
def B18R (W:World) (g:Nat) (v0 v1 v2 v3 v4 v5 v6 v7 v8 v9 v10 v11 v12 v13 v14 v15 v16 v17:Value):Prop:=W.heap[g]?=some (.cells #[v0,v1,v2,v3,v4,v5,v6,v7,v8,v9,v10,v11,v12,v13,v14,v15,v16,v17] 74 (0,0))
section
variable {W W':World} {g:Nat} {v0 v1 v2 v3 v4 v5 v6 v7 v8 v9 v10 v11 v12 v13 v14 v15 v16 v17:Value}
theorem B18R.c0 (h:B18R W g v0 v1 v2 v3 v4 v5 v6 v7 v8 v9 v10 v11 v12 v13 v14 v15 v16 v17):W.cell? ⟨g,0,none⟩=some v0:=by rw [cell_of_row W g 0 _ _ (0,0) h];rfl
theorem B18R.c1 (h:B18R W g v0 v1 v2 v3 v4 v5 v6 v7 v8 v9 v10 v11 v12 v13 v14 v15 v16 v17):W.cell? ⟨g,1,none⟩=some v1:=by rw [cell_of_row W g 1 _ _ (0,0) h];rfl
theorem B18R.c2 (h:B18R W g v0 v1 v2 v3 v4 v5 v6 v7 v8 v9 v10 v11 v12 v13 v14 v15 v16 v17):W.cell? ⟨g,2,none⟩=some v2:=by rw [cell_of_row W g 2 _ _ (0,0) h];rfl
theorem B18R.c3 (h:B18R W g v0 v1 v2 v3 v4 v5 v6 v7 v8 v9 v10 v11 v12 v13 v14 v15 v16 v17):W.cell? ⟨g,3,none⟩=some v3:=by rw [cell_of_row W g 3 _ _ (0,0) h];rfl
theorem B18R.c4 (h:B18R W g v0 v1 v2 v3 v4 v5 v6 v7 v8 v9 v10 v11 v12 v13 v14 v15 v16 v17):W.cell? ⟨g,4,none⟩=some v4:=by rw [cell_of_row W g 4 _ _ (0,0) h];rfl
theorem B18R.c5 (h:B18R W g v0 v1 v2 v3 v4 v5 v6 v7 v8 v9 v10 v11 v12 v13 v14 v15 v16 v17):W.cell? ⟨g,5,none⟩=some v5:=by rw [cell_of_row W g 5 _ _ (0,0) h];rfl
theorem B18R.c6 (h:B18R W g v0 v1 v2 v3 v4 v5 v6 v7 v8 v9 v10 v11 v12 v13 v14 v15 v16 v17):W.cell? ⟨g,6,none⟩=some v6:=by rw [cell_of_row W g 6 _ _ (0,0) h];rfl
theorem B18R.c7 (h:B18R W g v0 v1 v2 v3 v4 v5 v6 v7 v8 v9 v10 v11 v12 v13 v14 v15 v16 v17):W.cell? ⟨g,7,none⟩=some v7:=by rw [cell_of_row W g 7 _ _ (0,0) h];rfl
theorem B18R.c8 (h:B18R W g v0 v1 v2 v3 v4 v5 v6 v7 v8 v9 v10 v11 v12 v13 v14 v15 v16 v17):W.cell? ⟨g,8,none⟩=some v8:=by rw [cell_of_row W g 8 _ _ (0,0) h];rfl
theorem B18R.c9 (h:B18R W g v0 v1 v2 v3 v4 v5 v6 v7 v8 v9 v10 v11 v12 v13 v14 v15 v16 v17):W.cell? ⟨g,9,none⟩=some v9:=by rw [cell_of_row W g 9 _ _ (0,0) h];rfl
theorem B18R.c10 (h:B18R W g v0 v1 v2 v3 v4 v5 v6 v7 v8 v9 v10 v11 v12 v13 v14 v15 v16 v17):W.cell? ⟨g,10,none⟩=some v10:=by rw [cell_of_row W g 10 _ _ (0,0) h];rfl
theorem B18R.c11 (h:B18R W g v0 v1 v2 v3 v4 v5 v6 v7 v8 v9 v10 v11 v12 v13 v14 v15 v16 v17):W.cell? ⟨g,11,none⟩=some v11:=by rw [cell_of_row W g 11 _ _ (0,0) h];rfl
theorem B18R.c12 (h:B18R W g v0 v1 v2 v3 v4 v5 v6 v7 v8 v9 v10 v11 v12 v13 v14 v15 v16 v17):W.cell? ⟨g,12,none⟩=some v12:=by rw [cell_of_row W g 12 _ _ (0,0) h];rfl
theorem B18R.c13 (h:B18R W g v0 v1 v2 v3 v4 v5 v6 v7 v8 v9 v10 v11 v12 v13 v14 v15 v16 v17):W.cell? ⟨g,13,none⟩=some v13:=by rw [cell_of_row W g 13 _ _ (0,0) h];rfl
theorem B18R.c14 (h:B18R W g v0 v1 v2 v3 v4 v5 v6 v7 v8 v9 v10 v11 v12 v13 v14 v15 v16 v17):W.cell? ⟨g,14,none⟩=some v14:=by rw [cell_of_row W g 14 _ _ (0,0) h];rfl
theorem B18R.c15 (h:B18R W g v0 v1 v2 v3 v4 v5 v6 v7 v8 v9 v10 v11 v12 v13 v14 v15 v16 v17):W.cell? ⟨g,15,none⟩=some v15:=by rw [cell_of_row W g 15 _ _ (0,0) h];rfl
theorem B18R.c16 (h:B18R W g v0 v1 v2 v3 v4 v5 v6 v7 v8 v9 v10 v11 v12 v13 v14 v15 v16 v17):W.cell? ⟨g,16,none⟩=some v16:=by rw [cell_of_row W g 16 _ _ (0,0) h];rfl
theorem B18R.c17 (h:B18R W g v0 v1 v2 v3 v4 v5 v6 v7 v8 v9 v10 v11 v12 v13 v14 v15 v16 v17):W.cell? ⟨g,17,none⟩=some v17:=by rw [cell_of_row W g 17 _ _ (0,0) h];rfl
theorem B18R.all (h:B18R W g v0 v1 v2 v3 v4 v5 v6 v7 v8 v9 v10 v11 v12 v13 v14 v15 v16 v17):W.cell? ⟨g,0,none⟩=some v0∧W.cell? ⟨g,1,none⟩=some v1∧W.cell? ⟨g,2,none⟩=some v2∧W.cell? ⟨g,3,none⟩=some v3∧W.cell? ⟨g,4,none⟩=some v4∧W.cell? ⟨g,5,none⟩=some v5∧W.cell? ⟨g,6,none⟩=some v6∧W.cell? ⟨g,7,none⟩=some v7∧W.cell? ⟨g,8,none⟩=some v8∧W.cell? ⟨g,9,none⟩=some v9∧W.cell? ⟨g,10,none⟩=some v10∧W.cell? ⟨g,11,none⟩=some v11∧W.cell? ⟨g,12,none⟩=some v12∧W.cell? ⟨g,13,none⟩=some v13∧W.cell? ⟨g,14,none⟩=some v14∧W.cell? ⟨g,15,none⟩=some v15∧W.cell? ⟨g,16,none⟩=some v16∧W.cell? ⟨g,17,none⟩=some v17:=⟨h.c0,h.c1,h.c2,h.c3,h.c4,h.c5,h.c6,h.c7,h.c8,h.c9,h.c10,h.c11,h.c12,h.c13,h.c14,h.c15,h.c16,h.c17⟩
theorem B18R.f0 (h:B18R W g v0 v1 v2 v3 v4 v5 v6 v7 v8 v9 v10 v11 v12 v13 v14 v15 v16 v17):W.frozen? ⟨g,0,none⟩=false:=frozen_of_row W g 0 _ _ h
theorem B18R.f1 (h:B18R W g v0 v1 v2 v3 v4 v5 v6 v7 v8 v9 v10 v11 v12 v13 v14 v15 v16 v17):W.frozen? ⟨g,1,none⟩=false:=frozen_of_row W g 1 _ _ h
theorem B18R.f2 (h:B18R W g v0 v1 v2 v3 v4 v5 v6 v7 v8 v9 v10 v11 v12 v13 v14 v15 v16 v17):W.frozen? ⟨g,2,none⟩=false:=frozen_of_row W g 2 _ _ h
theorem B18R.f3 (h:B18R W g v0 v1 v2 v3 v4 v5 v6 v7 v8 v9 v10 v11 v12 v13 v14 v15 v16 v17):W.frozen? ⟨g,3,none⟩=false:=frozen_of_row W g 3 _ _ h
theorem B18R.f4 (h:B18R W g v0 v1 v2 v3 v4 v5 v6 v7 v8 v9 v10 v11 v12 v13 v14 v15 v16 v17):W.frozen? ⟨g,4,none⟩=false:=frozen_of_row W g 4 _ _ h
theorem B18R.f5 (h:B18R W g v0 v1 v2 v3 v4 v5 v6 v7 v8 v9 v10 v11 v12 v13 v14 v15 v16 v17):W.frozen? ⟨g,5,none⟩=false:=frozen_of_row W g 5 _ _ h
theorem B18R.f6 (h:B18R W g v0 v1 v2 v3 v4 v5 v6 v7 v8 v9 v10 v11 v12 v13 v14 v15 v16 v17):W.frozen? ⟨g,6,none⟩=false:=frozen_of_row W g 6 _ _ h
theorem B18R.f7 (h:B18R W g v0 v1 v2 v3 v4 v5 v6 v7 v8 v9 v10 v11 v12 v13 v14 v15 v16 v17):W.frozen? ⟨g,7,none⟩=false:=frozen_of_row W g 7 _ _ h
theorem B18R.f8 (h:B18R W g v0 v1 v2 v3 v4 v5 v6 v7 v8 v9 v10 v11 v12 v13 v14 v15 v16 v17):W.frozen? ⟨g,8,none⟩=false:=frozen_of_row W g 8 _ _ h
theorem B18R.f9 (h:B18R W g v0 v1 v2 v3 v4 v5 v6 v7 v8 v9 v10 v11 v12 v13 v14 v15 v16 v17):W.frozen? ⟨g,9,none⟩=false:=frozen_of_row W g 9 _ _ h
theorem B18R.f10 (h:B18R W g v0 v1 v2 v3 v4 v5 v6 v7 v8 v9 v10 v11 v12 v13 v14 v15 v16 v17):W.frozen? ⟨g,10,none⟩=false:=frozen_of_row W g 10 _ _ h
theorem B18R.f11 (h:B18R W g v0 v1 v2 v3 v4 v5 v6 v7 v8 v9 v10 v11 v12 v13 v14 v15 v16 v17):W.frozen? ⟨g,11,none⟩=false:=frozen_of_row W g 11 _ _ h
theorem B18R.f12 (h:B18R W g v0 v1 v2 v3 v4 v5 v6 v7 v8 v9 v10 v11 v12 v13 v14 v15 v16 v17):W.frozen? ⟨g,12,none⟩=false:=frozen_of_row W g 12 _ _ h
theorem B18R.f13 (h:B18R W g v0 v1 v2 v3 v4 v5 v6 v7 v8 v9 v10 v11 v12 v13 v14 v15 v16 v17):W.frozen? ⟨g,13,none⟩=false:=frozen_of_row W g 13 _ _ h
theorem B18R.f14 (h:B18R W g v0 v1 v2 v3 v4 v5 v6 v7 v8 v9 v10 v11 v12 v13 v14 v15 v16 v17):W.frozen? ⟨g,14,none⟩=false:=frozen_of_row W g 14 _ _ h
theorem B18R.f15 (h:B18R W g v0 v1 v2 v3 v4 v5 v6 v7 v8 v9 v10 v11 v12 v13 v14 v15 v16 v17):W.frozen? ⟨g,15,none⟩=false:=frozen_of_row W g 15 _ _ h
theorem B18R.f16 (h:B18R W g v0 v1 v2 v3 v4 v5 v6 v7 v8 v9 v10 v11 v12 v13 v14 v15 v16 v17):W.frozen? ⟨g,16,none⟩=false:=frozen_of_row W g 16 _ _ h
theorem B18R.f17 (h:B18R W g v0 v1 v2 v3 v4 v5 v6 v7 v8 v9 v10 v11 v12 v13 v14 v15 v16 v17):W.frozen? ⟨g,17,none⟩=false:=frozen_of_row W g 17 _ _ h
theorem B18R.lt (h:B18R W g v0 v1 v2 v3 v4 v5 v6 v7 v8 v9 v10 v11 v12 v13 v14 v15 v16 v17):g < W.heap.size:=World.block_lt_of_cell? W _ h.c0
theorem B18R.below (h:B18R W g v0 v1 v2 v3 v4 v5 v6 v7 v8 v9 v10 v11 v12 v13 v14 v15 v16 v17) (hb:Below W.heap.size W W'):B18R W' g v0 v1 v2 v3 v4 v5 v6 v7 v8 v9 v10 v11 v12 v13 v14 v15 v16 v17:=(hb.block g h.lt).trans h
theorem B18R.alloc (h:B18R W g v0 v1 v2 v3 v4 v5 v6 v7 v8 v9 v10 v11 v12 v13 v14 v15 v16 v17) (o:Obj):B18R (W.alloc o) g v0 v1 v2 v3 v4 v5 v6 v7 v8 v9 v10 v11 v12 v13 v14 v15 v16 v17:=(Below.heap_alloc W o g h.lt).trans h
theorem B18R.new' (W:World) (v0 v1 v2 v3 v4 v5 v6 v7 v8 v9 v10 v11 v12 v13 v14 v15 v16 v17:Value) (g:Nat) (hg:g=W.heap.size):B18R (W.alloc (.cells #[v0,v1,v2,v3,v4,v5,v6,v7,v8,v9,v10,v11,v12,v13,v14,v15,v16,v17] 74)) g v0 v1 v2 v3 v4 v5 v6 v7 v8 v9 v10 v11 v12 v13 v14 v15 v16 v17:=by subst hg;exact heap_alloc_new W _
theorem B18R.set18 (h:B18R W g v0 v1 v2 v3 v4 v5 v6 v7 v8 v9 v10 v11 v12 v13 v14 v15 v16 v17) (a0 a1 a2 a3 a4 a5 a6 a7 a8 a9 a10 a11 a12 a13 a14 a15 a16 a17:Value):B18R ((((((((((((((((((W.setCell ⟨g,0,none⟩ a0).setCell ⟨g,1,none⟩ a1).setCell ⟨g,2,none⟩ a2).setCell ⟨g,3,none⟩ a3).setCell ⟨g,4,none⟩ a4).setCell ⟨g,5,none⟩ a5).setCell ⟨g,6,none⟩ a6).setCell ⟨g,7,none⟩ a7).setCell ⟨g,8,none⟩ a8).setCell ⟨g,9,none⟩ a9).setCell ⟨g,10,none⟩ a10).setCell ⟨g,11,none⟩ a11).setCell ⟨g,12,none⟩ a12).setCell ⟨g,13,none⟩ a13).setCell ⟨g,14,none⟩ a14).setCell ⟨g,15,none⟩ a15).setCell ⟨g,16,none⟩ a16).setCell ⟨g,17,none⟩ a17) g a0 a1 a2 a3 a4 a5 a6 a7 a8 a9 a10 a11 a12 a13 a14 a15 a16 a17:=by
 unfold B18R at h ⊢
 have h0:=heap_setCell_same _ g 0 _ _ a0 h
 simp only [List.setIfInBounds_toArray,List.set_cons_zero] at h0
 have h1:=heap_setCell_same _ g 1 _ _ a1 h0
 simp only [List.setIfInBounds_toArray,List.set_cons_zero,List.set_cons_succ] at h1
 have h2:=heap_setCell_same _ g 2 _ _ a2 h1
 simp only [List.setIfInBounds_toArray,List.set_cons_zero,List.set_cons_succ] at h2
 have h3:=heap_setCell_same _ g 3 _ _ a3 h2
 simp only [List.setIfInBounds_toArray,List.set_cons_zero,List.set_cons_succ] at h3
 have h4:=heap_setCell_same _ g 4 _ _ a4 h3
 simp only [List.setIfInBounds_toArray,List.set_cons_zero,List.set_cons_succ] at h4
 have h5:=heap_setCell_same _ g 5 _ _ a5 h4
 simp only [List.setIfInBounds_toArray,List.set_cons_zero,List.set_cons_succ] at h5
 have h6:=heap_setCell_same _ g 6 _ _ a6 h5
 simp only [List.setIfInBounds_toArray,List.set_cons_zero,List.set_cons_succ] at h6
 have h7:=heap_setCell_same _ g 7 _ _ a7 h6
 simp only [List.setIfInBounds_toArray,List.set_cons_zero,List.set_cons_succ] at h7
 have h8:=heap_setCell_same _ g 8 _ _ a8 h7
 simp only [List.setIfInBounds_toArray,List.set_cons_zero,List.set_cons_succ] at h8
 have h9:=heap_setCell_same _ g 9 _ _ a9 h8
 simp only [List.setIfInBounds_toArray,List.set_cons_zero,List.set_cons_succ] at h9
 have h10:=heap_setCell_same _ g 10 _ _ a10 h9
 simp only [List.setIfInBounds_toArray,List.set_cons_zero,List.set_cons_succ] at h10
 have h11:=heap_setCell_same _ g 11 _ _ a11 h10
 simp only [List.setIfInBounds_toArray,List.set_cons_zero,List.set_cons_succ] at h11
 have h12:=heap_setCell_same _ g 12 _ _ a12 h11
 simp only [List.setIfInBounds_toArray,List.set_cons_zero,List.set_cons_succ] at h12
 have h13:=heap_setCell_same _ g 13 _ _ a13 h12
 simp only [List.setIfInBounds_toArray,List.set_cons_zero,List.set_cons_succ] at h13
 have h14:=heap_setCell_same _ g 14 _ _ a14 h13
 simp only [List.setIfInBounds_toArray,List.set_cons_zero,List.set_cons_succ] at h14
 have h15:=heap_setCell_same _ g 15 _ _ a15 h14
 simp only [List.setIfInBounds_toArray,List.set_cons_zero,List.set_cons_succ] at h15
 have h16:=heap_setCell_same _ g 16 _ _ a16 h15
 simp only [List.setIfInBounds_toArray,List.set_cons_zero,List.set_cons_succ] at h16
 have h17:=heap_setCell_same _ g 17 _ _ a17 h16
 simp only [List.setIfInBounds_toArray,List.set_cons_zero,List.set_cons_succ] at h17
 exact h17
theorem B18R.restm {k:Nat} (h:B18R W g v0 v1 v2 v3 v4 v5 v6 v7 v8 v9 v10 v11 v12 v13 v14 v15 v16 v17) (hne:g ≠ k) (ho:Only k W W'):B18R W' g v0 v1 v2 v3 v4 v5 v6 v7 v8 v9 v10 v11 v12 v13 v14 v15 v16 v17:=(ho.block g h.lt hne).trans h
def LVN (a:Addr):Sem Value:=loadVar 74 a
theorem open_LVN (a:Addr):loadVar 74 a=LVN a:=rfl
def STN (a:Addr) (v:Value):Sem Unit:=storeVar 74 a v
theorem open_STN (a:Addr) (v:Value):storeVar 74 a v=STN a v:=rfl
theorem B18R.ld (h:B18R W g v0 v1 v2 v3 v4 v5 v6 v7 v8 v9 v10 v11 v12 v13 v14 v15 v16 v17):(LVN ⟨g,0,none⟩).run Tryz.prog W=.ok (.agg #[v0,v1,v2,v3,v4,v5,v6,v7,v8,v9,v10,v11,v12,v13,v14,v15,v16,v17]) W :=
 run_loadVar_row W g _ _ _ (0,0) _ h Tryz.underlying74 rfl (by kernel_rfl)
theorem B18R.st (h:B18R W g v0 v1 v2 v3 v4 v5 v6 v7 v8 v9 v10 v11 v12 v13 v14 v15 v16 v17) (a0 a1 a2 a3 a4 a5 a6 a7 a8 a9 a10 a11 a12 a13 a14 a15 a16 a17:Value) (h1:∀ v ∈ [a0,a1,a2,a3,a4,a5,a6,a7,a8,a9,a10,a11,a12,a13,a14,a15,a16,a17],v.oneCell'=true):(STN ⟨g,0,none⟩ (.agg #[a0,a1,a2,a3,a4,a5,a6,a7,a8,a9,a10,a11,a12,a13,a14,a15,a16,a17])).run Tryz.prog W=.ok () ((((((((((((((((((W.setCell ⟨g,0,none⟩ a0).setCell ⟨g,1,none⟩ a1).setCell ⟨g,2,none⟩ a2).setCell ⟨g,3,none⟩ a3).setCell ⟨g,4,none⟩ a4).setCell ⟨g,5,none⟩ a5).setCell ⟨g,6,none⟩ a6).setCell ⟨g,7,none⟩ a7).setCell ⟨g,8,none⟩ a8).setCell ⟨g,9,none⟩ a9).setCell ⟨g,10,none⟩ a10).setCell ⟨g,11,none⟩ a11).setCell ⟨g,12,none⟩ a12).setCell ⟨g,13,none⟩ a13).setCell ⟨g,14,none⟩ a14).setCell ⟨g,15,none⟩ a15).setCell ⟨g,16,none⟩ a16).setCell ⟨g,17,none⟩ a17):=by
 have hc:(storeCells ⟨g,0,none⟩ [a0,a1,a2,a3,a4,a5,a6,a7,a8,a9,a10,a11,a12,a13,a14,a15,a16,a17] 0).run Tryz.prog W=.ok () ((((((((((((((((((W.setCell ⟨g,0,none⟩ a0).setCell ⟨g,1,none⟩ a1).setCell ⟨g,2,none⟩ a2).setCell ⟨g,3,none⟩ a3).setCell ⟨g,4,none⟩ a4).setCell ⟨g,5,none⟩ a5).setCell ⟨g,6,none⟩ a6).setCell ⟨g,7,none⟩ a7).setCell ⟨g,8,none⟩ a8).setCell ⟨g,9,none⟩ a9).setCell ⟨g,10,none⟩ a10).setCell ⟨g,11,none⟩ a11).setCell ⟨g,12,none⟩ a12).setCell ⟨g,13,none⟩ a13).setCell ⟨g,14,none⟩ a14).setCell ⟨g,15,none⟩ a15).setCell ⟨g,16,none⟩ a16).setCell ⟨g,17,none⟩ a17) :=
  run_storeCells_cells g 0 [a0,a1,a2,a3,a4,a5,a6,a7,a8,a9,a10,a11,a12,a13,a14,a15,a16,a17] 0 W (fun j hj=>by rw [cell_of_row W g _ _ _ (0,0) h];simp only [List.length_cons,List.length_nil] at hj;simp;omega) (fun j _=>frozen_of_row W g _ _ _ h) h1
 have hz:(sizeOf 74).run Tryz.prog W=.ok 18 W:=by
  have hi:(Tryz.prog.info? 74).map (·.size)=some 18:=by kernel_rfl
  cases hq:Tryz.prog.info? 74 with
  | none=>simp [hq] at hi
  | some i=>simp [hq] at hi;simp [sizeOf,typeInfo,hq,hi]
 unfold STN storeVar
 simp only [Sem.run_bind,hz,Result.andThen_ok]
 exact hc
end
theorem below_set18 {B g:Nat} {w W:World} (h:Below B w W) (hg:B≤g) (a0 a1 a2 a3 a4 a5 a6 a7 a8 a9 a10 a11 a12 a13 a14 a15 a16 a17:Value):Below B w ((((((((((((((((((W.setCell ⟨g,0,none⟩ a0).setCell ⟨g,1,none⟩ a1).setCell ⟨g,2,none⟩ a2).setCell ⟨g,3,none⟩ a3).setCell ⟨g,4,none⟩ a4).setCell ⟨g,5,none⟩ a5).setCell ⟨g,6,none⟩ a6).setCell ⟨g,7,none⟩ a7).setCell ⟨g,8,none⟩ a8).setCell ⟨g,9,none⟩ a9).setCell ⟨g,10,none⟩ a10).setCell ⟨g,11,none⟩ a11).setCell ⟨g,12,none⟩ a12).setCell ⟨g,13,none⟩ a13).setCell ⟨g,14,none⟩ a14).setCell ⟨g,15,none⟩ a15).setCell ⟨g,16,none⟩ a16).setCell ⟨g,17,none⟩ a17):=(((((((((((((((((h.setCell hg _).setCell hg _).setCell hg _).setCell hg _).setCell hg _).setCell hg _).setCell hg _).setCell hg _).setCell hg _).setCell hg _).setCell hg _).setCell hg _).setCell hg _).setCell hg _).setCell hg _).setCell hg _).setCell hg _).setCell hg _
theorem only_set18 (W:World) (g:Nat) (a0 a1 a2 a3 a4 a5 a6 a7 a8 a9 a10 a11 a12 a13 a14 a15 a16 a17:Value):Only g W ((((((((((((((((((W.setCell ⟨g,0,none⟩ a0).setCell ⟨g,1,none⟩ a1).setCell ⟨g,2,none⟩ a2).setCell ⟨g,3,none⟩ a3).setCell ⟨g,4,none⟩ a4).setCell ⟨g,5,none⟩ a5).setCell ⟨g,6,none⟩ a6).setCell ⟨g,7,none⟩ a7).setCell ⟨g,8,none⟩ a8).setCell ⟨g,9,none⟩ a9).setCell ⟨g,10,none⟩ a10).setCell ⟨g,11,none⟩ a11).setCell ⟨g,12,none⟩ a12).setCell ⟨g,13,none⟩ a13).setCell ⟨g,14,none⟩ a14).setCell ⟨g,15,none⟩ a15).setCell ⟨g,16,none⟩ a16).setCell ⟨g,17,none⟩ a17):=((((((((((((((((((Only.refl g W).setCell 0 _).setCell 1 _).setCell 2 _).setCell 3 _).setCell 4 _).setCell 5 _).setCell 6 _).setCell 7 _).setCell 8 _).setCell 9 _).setCell 10 _).setCell 11 _).setCell 12 _).setCell 13 _).setCell 14 _).setCell 15 _).setCell 16 _).setCell 17 _
theorem Rd.offB18 {K:IntKind} {W:World} {g:Nat} {s0:Bool} {s1:Bool} {s2:Bool} {s3:Bool} {s4:Bool} {s5:Bool} {A1:Option Addr} {n1 c1:Nat} {A2:Option Addr} {n2 c2:Nat} {A4:Option Addr} {n4 c4:Nat} {A5:Option Addr} {n5 c5:Nat} {A7:Option Addr} {n7 c7:Nat} {A8:Option Addr} {n8 c8:Nat} {A10:Option Addr} {n10 c10:Nat} {A11:Option Addr} {n11 c11:Nat} {A13:Option Addr} {n13 c13:Nat} {A14:Option Addr} {n14 c14:Nat} {A16:Option Addr} {n16 c16:Nat} {A17:Option Addr} {n17 c17:Nat} {A:Option Addr} {n:Nat} {l:List Nat} (hr:Rd K W A n l) (h:B18 W g (.bool s0) (.slice A1 n1 c1) (.slice A2 n2 c2) (.bool s1) (.slice A4 n4 c4) (.slice A5 n5 c5) (.bool s2) (.slice A7 n7 c7) (.slice A8 n8 c8) (.bool s3) (.slice A10 n10 c10) (.slice A11 n11 c11) (.bool s4) (.slice A13 n13 c13) (.slice A14 n14 c14) (.bool s5) (.slice A16 n16 c16) (.slice A17 n17 c17)):Off A n g:=by
 intro hn ad e hg
 obtain ⟨b,o,eA,hc⟩:=hr.at_ hn
 obtain ⟨x,_,hx⟩:=hc 0 hn
 rw [eA] at e
 cases e
 have hg2:b=g:=hg
 subst hg2
 rw [cell_of_row W b (o+0) _ _ (0,0) h] at hx
 match o,hx with
 | 0,hx=>cases hx
 | 1,hx=>cases hx
 | 2,hx=>cases hx
 | 3,hx=>cases hx
 | 4,hx=>cases hx
 | 5,hx=>cases hx
 | 6,hx=>cases hx
 | 7,hx=>cases hx
 | 8,hx=>cases hx
 | 9,hx=>cases hx
 | 10,hx=>cases hx
 | 11,hx=>cases hx
 | 12,hx=>cases hx
 | 13,hx=>cases hx
 | 14,hx=>cases hx
 | 15,hx=>cases hx
 | 16,hx=>cases hx
 | 17,hx=>cases hx
 | o+18,hx=>cases hx
theorem Rd.offB18R {K:IntKind} {W:World} {g:Nat} {s0:Bool} {s1:Bool} {s2:Bool} {s3:Bool} {s4:Bool} {s5:Bool} {A1:Option Addr} {n1 c1:Nat} {A2:Option Addr} {n2 c2:Nat} {A4:Option Addr} {n4 c4:Nat} {A5:Option Addr} {n5 c5:Nat} {A7:Option Addr} {n7 c7:Nat} {A8:Option Addr} {n8 c8:Nat} {A10:Option Addr} {n10 c10:Nat} {A11:Option Addr} {n11 c11:Nat} {A13:Option Addr} {n13 c13:Nat} {A14:Option Addr} {n14 c14:Nat} {A16:Option Addr} {n16 c16:Nat} {A17:Option Addr} {n17 c17:Nat} {A:Option Addr} {n:Nat} {l:List Nat} (hr:Rd K W A n l) (h:B18R W g (.bool s0) (.slice A1 n1 c1) (.slice A2 n2 c2) (.bool s1) (.slice A4 n4 c4) (.slice A5 n5 c5) (.bool s2) (.slice A7 n7 c7) (.slice A8 n8 c8) (.bool s3) (.slice A10 n10 c10) (.slice A11 n11 c11) (.bool s4) (.slice A13 n13 c13) (.slice A14 n14 c14) (.bool s5) (.slice A16 n16 c16) (.slice A17 n17 c17)):Off A n g:=by
 intro hn ad e hg
 obtain ⟨b,o,eA,hc⟩:=hr.at_ hn
 obtain ⟨x,_,hx⟩:=hc 0 hn
 rw [eA] at e
 cases e
 have hg2:b=g:=hg
 subst hg2
 rw [cell_of_row W b (o+0) _ _ (0,0) h] at hx
 match o,hx with
 | 0,hx=>cases hx
 | 1,hx=>cases hx
 | 2,hx=>cases hx
 | 3,hx=>cases hx
 | 4,hx=>cases hx
 | 5,hx=>cases hx
 | 6,hx=>cases hx
 | 7,hx=>cases hx
 | 8,hx=>cases hx
 | 9,hx=>cases hx
 | 10,hx=>cases hx
 | 11,hx=>cases hx
 | 12,hx=>cases hx
 | 13,hx=>cases hx
 | 14,hx=>cases hx
 | 15,hx=>cases hx
 | 16,hx=>cases hx
 | 17,hx=>cases hx
 | o+18,hx=>cases hx
def MR (w:World) (m:MV) (v:AM) (k l:Nat):Prop:=PR w m.a.s m.a.A m.a.n m.a.c m.a.B m.a.m m.a.d m.b.s m.b.A m.b.n m.b.c m.b.B m.b.m m.b.d v.a v.b k∧PR w m.c.s m.c.A m.c.n m.c.c m.c.B m.c.m m.c.d m.d.s m.d.A m.d.n m.d.c m.d.B m.d.m m.d.d v.c v.d k∧PR w m.e.s m.e.A m.e.n m.e.c m.e.B m.e.m m.e.d m.f.s m.f.A m.f.n m.f.c m.f.B m.f.m m.f.d v.e v.f l
def MG (w:World) (m:MV) (v:AM) (k l:Nat):Prop:=PG w m.a.s m.a.A m.a.n m.a.c m.a.B m.a.m m.a.d m.b.s m.b.A m.b.n m.b.c m.b.B m.b.m m.b.d v.a v.b k∧PG w m.c.s m.c.A m.c.n m.c.c m.c.B m.c.m m.c.d m.d.s m.d.A m.d.n m.d.c m.d.B m.d.m m.d.d v.c v.d k∧PG w m.e.s m.e.A m.e.n m.e.c m.e.B m.e.m m.e.d m.f.s m.f.A m.f.n m.f.c m.f.B m.f.m m.f.d v.e v.f l
def RM (w:World) (m:MV) (v:AM) (k l:Nat):Prop:=RP w m.a.s m.a.A m.a.n m.a.c m.a.B m.a.m m.a.d m.b.s m.b.A m.b.n m.b.c m.b.B m.b.m m.b.d v.a v.b k∧RP w m.c.s m.c.A m.c.n m.c.c m.c.B m.c.m m.c.d m.d.s m.d.A m.d.n m.d.c m.d.B m.d.m m.d.d v.c v.d k∧RP w m.e.s m.e.A m.e.n m.e.c m.e.B m.e.m m.e.d m.f.s m.f.A m.f.n m.f.c m.f.B m.f.m m.f.d v.e v.f l
def GivesMt (w:World) (v:AM) (k l:Nat) (en:Ending) (w':World):Prop:=∃ m:MV,en=.returned (.agg #[.bool m.a.s,.slice m.a.A m.a.n m.a.c,.slice m.a.B m.a.m m.a.d,.bool m.b.s,.slice m.b.A m.b.n m.b.c,.slice m.b.B m.b.m m.b.d,.bool m.c.s,.slice m.c.A m.c.n m.c.c,.slice m.c.B m.c.m m.c.d,.bool m.d.s,.slice m.d.A m.d.n m.d.c,.slice m.d.B m.d.m m.d.d,.bool m.e.s,.slice m.e.A m.e.n m.e.c,.slice m.e.B m.e.m m.e.d,.bool m.f.s,.slice m.f.A m.f.n m.f.c,.slice m.f.B m.f.m m.f.d])∧MG w' m v k l∧Below w.heap.size w w'
section
variable {w w':World} {m:MV} {v:AM} {k l k1 l1:Nat}
theorem MR.below (h:MR w m v k l) (hb:Below w.heap.size w w'):MR w' m v k l:=⟨h.1.below hb,h.2.1.below hb,h.2.2.below hb⟩
theorem MR.ab (h:MR w m v k l):PR w m.a.s m.a.A m.a.n m.a.c m.a.B m.a.m m.a.d m.b.s m.b.A m.b.n m.b.c m.b.B m.b.m m.b.d v.a v.b k:=h.1
theorem MR.cd (h:MR w m v k l):PR w m.c.s m.c.A m.c.n m.c.c m.c.B m.c.m m.c.d m.d.s m.d.A m.d.n m.d.c m.d.B m.d.m m.d.d v.c v.d k:=h.2.1
theorem MR.ef (h:MR w m v k l):PR w m.e.s m.e.A m.e.n m.e.c m.e.B m.e.m m.e.d m.f.s m.f.A m.f.n m.f.c m.f.B m.f.m m.f.d v.e v.f l:=h.2.2
theorem MG.below (h:MG w m v k l) (hb:Below w.heap.size w w'):MG w' m v k l:=⟨h.1.below hb,h.2.1.below hb,h.2.2.below hb⟩
theorem MG.ab (h:MG w m v k l):PG w m.a.s m.a.A m.a.n m.a.c m.a.B m.a.m m.a.d m.b.s m.b.A m.b.n m.b.c m.b.B m.b.m m.b.d v.a v.b k:=h.1
theorem MG.cd (h:MG w m v k l):PG w m.c.s m.c.A m.c.n m.c.c m.c.B m.c.m m.c.d m.d.s m.d.A m.d.n m.d.c m.d.B m.d.m m.d.d v.c v.d k:=h.2.1
theorem MG.ef (h:MG w m v k l):PG w m.e.s m.e.A m.e.n m.e.c m.e.B m.e.m m.e.d m.f.s m.f.A m.f.n m.f.c m.f.B m.f.m m.f.d v.e v.f l:=h.2.2
theorem RM.below (h:RM w m v k l) (hb:Below w.heap.size w w'):RM w' m v k l:=⟨h.1.below hb,h.2.1.below hb,h.2.2.below hb⟩
theorem RM.ab (h:RM w m v k l):RP w m.a.s m.a.A m.a.n m.a.c m.a.B m.a.m m.a.d m.b.s m.b.A m.b.n m.b.c m.b.B m.b.m m.b.d v.a v.b k:=h.1
theorem RM.cd (h:RM w m v k l):RP w m.c.s m.c.A m.c.n m.c.c m.c.B m.c.m m.c.d m.d.s m.d.A m.d.n m.d.c m.d.B m.d.m m.d.d v.c v.d k:=h.2.1
theorem RM.ef (h:RM w m v k l):RP w m.e.s m.e.A m.e.n m.e.c m.e.B m.e.m m.e.d m.f.s m.f.A m.f.n m.f.c m.f.B m.f.m m.f.d v.e v.f l:=h.2.2
theorem MG.mr (h:MG w m v k l):MR w m v k l:=⟨h.1.pr,h.2.1.pr,h.2.2.pr⟩
theorem MG.more (h:MG w m v k l) (hk:k≤k1) (hl:l≤l1):MG w m v k1 l1:=⟨h.1.more hk,h.2.1.more hk,h.2.2.more hl⟩
theorem MR.more (h:MR w m v k l) (hk:k≤k1) (hl:l≤l1):MR w m v k1 l1:=⟨h.1.more hk,h.2.1.more hk,h.2.2.more hl⟩
theorem QG.set18 {u:Rat} {g:Nat} {s:Bool} {A B:Option Addr} {n c m d:Nat} {s0:Bool} {s1:Bool} {s2:Bool} {s3:Bool} {s4:Bool} {s5:Bool} {A1:Option Addr} {n1 c1:Nat} {A2:Option Addr} {n2 c2:Nat} {A4:Option Addr} {n4 c4:Nat} {A5:Option Addr} {n5 c5:Nat} {A7:Option Addr} {n7 c7:Nat} {A8:Option Addr} {n8 c8:Nat} {A10:Option Addr} {n10 c10:Nat} {A11:Option Addr} {n11 c11:Nat} {A13:Option Addr} {n13 c13:Nat} {A14:Option Addr} {n14 c14:Nat} {A16:Option Addr} {n16 c16:Nat} {A17:Option Addr} {n17 c17:Nat} (h:QG w s A n c B m d u k) (Z:B18 w g (.bool s0) (.slice A1 n1 c1) (.slice A2 n2 c2) (.bool s1) (.slice A4 n4 c4) (.slice A5 n5 c5) (.bool s2) (.slice A7 n7 c7) (.slice A8 n8 c8) (.bool s3) (.slice A10 n10 c10) (.slice A11 n11 c11) (.bool s4) (.slice A13 n13 c13) (.slice A14 n14 c14) (.bool s5) (.slice A16 n16 c16) (.slice A17 n17 c17)) (a0 a1 a2 a3 a4 a5 a6 a7 a8 a9 a10 a11 a12 a13 a14 a15 a16 a17:Value):QG ((((((((((((((((((w.setCell ⟨g,0,none⟩ a0).setCell ⟨g,1,none⟩ a1).setCell ⟨g,2,none⟩ a2).setCell ⟨g,3,none⟩ a3).setCell ⟨g,4,none⟩ a4).setCell ⟨g,5,none⟩ a5).setCell ⟨g,6,none⟩ a6).setCell ⟨g,7,none⟩ a7).setCell ⟨g,8,none⟩ a8).setCell ⟨g,9,none⟩ a9).setCell ⟨g,10,none⟩ a10).setCell ⟨g,11,none⟩ a11).setCell ⟨g,12,none⟩ a12).setCell ⟨g,13,none⟩ a13).setCell ⟨g,14,none⟩ a14).setCell ⟨g,15,none⟩ a15).setCell ⟨g,16,none⟩ a16).setCell ⟨g,17,none⟩ a17) s A n c B m d u k:=by
 have ho:=only_set18 w g a0 a1 a2 a3 a4 a5 a6 a7 a8 a9 a10 a11 a12 a13 a14 a15 a16 a17
 exact ⟨⟨h.1.1,h.1.2.1.only (h.1.2.1.offB18 Z) ho,h.1.2.2⟩,⟨h.2.1.only (h.2.1.offB18 Z) ho,h.2.2⟩⟩
theorem MG.set18 {g:Nat} {s0:Bool} {s1:Bool} {s2:Bool} {s3:Bool} {s4:Bool} {s5:Bool} {A1:Option Addr} {n1 c1:Nat} {A2:Option Addr} {n2 c2:Nat} {A4:Option Addr} {n4 c4:Nat} {A5:Option Addr} {n5 c5:Nat} {A7:Option Addr} {n7 c7:Nat} {A8:Option Addr} {n8 c8:Nat} {A10:Option Addr} {n10 c10:Nat} {A11:Option Addr} {n11 c11:Nat} {A13:Option Addr} {n13 c13:Nat} {A14:Option Addr} {n14 c14:Nat} {A16:Option Addr} {n16 c16:Nat} {A17:Option Addr} {n17 c17:Nat} (h:MG w m v k l) (Z:B18 w g (.bool s0) (.slice A1 n1 c1) (.slice A2 n2 c2) (.bool s1) (.slice A4 n4 c4) (.slice A5 n5 c5) (.bool s2) (.slice A7 n7 c7) (.slice A8 n8 c8) (.bool s3) (.slice A10 n10 c10) (.slice A11 n11 c11) (.bool s4) (.slice A13 n13 c13) (.slice A14 n14 c14) (.bool s5) (.slice A16 n16 c16) (.slice A17 n17 c17)) (a0 a1 a2 a3 a4 a5 a6 a7 a8 a9 a10 a11 a12 a13 a14 a15 a16 a17:Value):MG ((((((((((((((((((w.setCell ⟨g,0,none⟩ a0).setCell ⟨g,1,none⟩ a1).setCell ⟨g,2,none⟩ a2).setCell ⟨g,3,none⟩ a3).setCell ⟨g,4,none⟩ a4).setCell ⟨g,5,none⟩ a5).setCell ⟨g,6,none⟩ a6).setCell ⟨g,7,none⟩ a7).setCell ⟨g,8,none⟩ a8).setCell ⟨g,9,none⟩ a9).setCell ⟨g,10,none⟩ a10).setCell ⟨g,11,none⟩ a11).setCell ⟨g,12,none⟩ a12).setCell ⟨g,13,none⟩ a13).setCell ⟨g,14,none⟩ a14).setCell ⟨g,15,none⟩ a15).setCell ⟨g,16,none⟩ a16).setCell ⟨g,17,none⟩ a17) m v k l :=
 ⟨⟨h.1.1.set18 Z a0 a1 a2 a3 a4 a5 a6 a7 a8 a9 a10 a11 a12 a13 a14 a15 a16 a17,h.1.2.set18 Z a0 a1 a2 a3 a4 a5 a6 a7 a8 a9 a10 a11 a12 a13 a14 a15 a16 a17⟩,⟨h.2.1.1.set18 Z a0 a1 a2 a3 a4 a5 a6 a7 a8 a9 a10 a11 a12 a13 a14 a15 a16 a17,h.2.1.2.set18 Z a0 a1 a2 a3 a4 a5 a6 a7 a8 a9 a10 a11 a12 a13 a14 a15 a16 a17⟩,⟨h.2.2.1.set18 Z a0 a1 a2 a3 a4 a5 a6 a7 a8 a9 a10 a11 a12 a13 a14 a15 a16 a17,h.2.2.2.set18 Z a0 a1 a2 a3 a4 a5 a6 a7 a8 a9 a10 a11 a12 a13 a14 a15 a16 a17⟩⟩
theorem RM.set18 {g:Nat} {s0:Bool} {s1:Bool} {s2:Bool} {s3:Bool} {s4:Bool} {s5:Bool} {A1:Option Addr} {n1 c1:Nat} {A2:Option Addr} {n2 c2:Nat} {A4:Option Addr} {n4 c4:Nat} {A5:Option Addr} {n5 c5:Nat} {A7:Option Addr} {n7 c7:Nat} {A8:Option Addr} {n8 c8:Nat} {A10:Option Addr} {n10 c10:Nat} {A11:Option Addr} {n11 c11:Nat} {A13:Option Addr} {n13 c13:Nat} {A14:Option Addr} {n14 c14:Nat} {A16:Option Addr} {n16 c16:Nat} {A17:Option Addr} {n17 c17:Nat} (h:RM w m v k l) (Z:B18R w g (.bool s0) (.slice A1 n1 c1) (.slice A2 n2 c2) (.bool s1) (.slice A4 n4 c4) (.slice A5 n5 c5) (.bool s2) (.slice A7 n7 c7) (.slice A8 n8 c8) (.bool s3) (.slice A10 n10 c10) (.slice A11 n11 c11) (.bool s4) (.slice A13 n13 c13) (.slice A14 n14 c14) (.bool s5) (.slice A16 n16 c16) (.slice A17 n17 c17)) (a0 a1 a2 a3 a4 a5 a6 a7 a8 a9 a10 a11 a12 a13 a14 a15 a16 a17:Value):RM ((((((((((((((((((w.setCell ⟨g,0,none⟩ a0).setCell ⟨g,1,none⟩ a1).setCell ⟨g,2,none⟩ a2).setCell ⟨g,3,none⟩ a3).setCell ⟨g,4,none⟩ a4).setCell ⟨g,5,none⟩ a5).setCell ⟨g,6,none⟩ a6).setCell ⟨g,7,none⟩ a7).setCell ⟨g,8,none⟩ a8).setCell ⟨g,9,none⟩ a9).setCell ⟨g,10,none⟩ a10).setCell ⟨g,11,none⟩ a11).setCell ⟨g,12,none⟩ a12).setCell ⟨g,13,none⟩ a13).setCell ⟨g,14,none⟩ a14).setCell ⟨g,15,none⟩ a15).setCell ⟨g,16,none⟩ a16).setCell ⟨g,17,none⟩ a17) m v k l:=by
 have ho:=only_set18 w g a0 a1 a2 a3 a4 a5 a6 a7 a8 a9 a10 a11 a12 a13 a14 a15 a16 a17
 exact ⟨⟨h.1.1.onl (h.1.1.1.2.1.offB18R Z) (h.1.1.2.1.offB18R Z) ho,h.1.2.onl (h.1.2.1.2.1.offB18R Z) (h.1.2.2.1.offB18R Z) ho⟩,⟨h.2.1.1.onl (h.2.1.1.1.2.1.offB18R Z) (h.2.1.1.2.1.offB18R Z) ho,h.2.1.2.onl (h.2.1.2.1.2.1.offB18R Z) (h.2.1.2.2.1.offB18R Z) ho⟩,⟨h.2.2.1.onl (h.2.2.1.1.2.1.offB18R Z) (h.2.2.1.2.1.offB18R Z) ho,h.2.2.2.onl (h.2.2.2.1.2.1.offB18R Z) (h.2.2.2.2.1.offB18R Z) ho⟩⟩
end
theorem free18 (u:MV):∀ (x:Nat) (k:IntKind) (v:Int),(#[.bool u.a.s,.slice u.a.A u.a.n u.a.c,.slice u.a.B u.a.m u.a.d,.bool u.b.s,.slice u.b.A u.b.n u.b.c,.slice u.b.B u.b.m u.b.d,.bool u.c.s,.slice u.c.A u.c.n u.c.c,.slice u.c.B u.c.m u.c.d,.bool u.d.s,.slice u.d.A u.d.n u.d.c,.slice u.d.B u.d.m u.d.d,.bool u.e.s,.slice u.e.A u.e.n u.e.c,.slice u.e.B u.e.m u.e.d,.bool u.f.s,.slice u.f.A u.f.n u.f.c,.slice u.f.B u.f.m u.f.d]:Array Value)[x]? ≠ some (.int k v):=by
 intro x k v h
 match x,h with
 | 0,h=>cases h
 | 1,h=>cases h
 | 2,h=>cases h
 | 3,h=>cases h
 | 4,h=>cases h
 | 5,h=>cases h
 | 6,h=>cases h
 | 7,h=>cases h
 | 8,h=>cases h
 | 9,h=>cases h
 | 10,h=>cases h
 | 11,h=>cases h
 | 12,h=>cases h
 | 13,h=>cases h
 | 14,h=>cases h
 | 15,h=>cases h
 | 16,h=>cases h
 | 17,h=>cases h
 | x+18,h=>cases h
theorem free18z:∀ (x:Nat) (k:IntKind) (v:Int),(#[.bool false,.slice none 0 0,.slice none 0 0,.bool false,.slice none 0 0,.slice none 0 0,.bool false,.slice none 0 0,.slice none 0 0,.bool false,.slice none 0 0,.slice none 0 0,.bool false,.slice none 0 0,.slice none 0 0,.bool false,.slice none 0 0,.slice none 0 0]:Array Value)[x]? ≠ some (.int k v):=free18 ⟨⟨false,none,0,0,none,0,0⟩,⟨false,none,0,0,none,0,0⟩,⟨false,none,0,0,none,0,0⟩,⟨false,none,0,0,none,0,0⟩,⟨false,none,0,0,none,0,0⟩,⟨false,none,0,0,none,0,0⟩⟩
theorem res_M {fn:Func} {a:Tmp} (h:fn.results=#[.cell a 71]) (tmps:Array Value) (w:World) {g:Nat} {c:Array Value} (ha:tmps[a]?.getD undef=.pointer (some ⟨g,0,none⟩)) (hl:(LVM ⟨g,0,none⟩).run Tryz.prog w=.ok (.agg c) w):(results fn tmps).run Tryz.prog w=.ok (.agg c) w:=by
 unfold results
 rw [h]
 simp only [List.mapM_toArray]
 simp [asAddr,ha,open_LVM,hl]
attribute [local go_sem ↓] open_LVM open_STM open_LVN open_STN
theorem run_loadM {e1:Operand→Value} {x1:Operand} {d1:Option Tmp} {y1 g:Nat} {pos:String} {af:Array Edge} {a0 a1 a2 a3 a4 a5 a6 a7 a8 a9 a10 a11 a12 a13 a14 a15 a16 a17:Value} (h:e1 x1=.pointer (some ⟨g,0,none⟩)) (Z:B18 w g a0 a1 a2 a3 a4 a5 a6 a7 a8 a9 a10 a11 a12 a13 a14 a15 a16 a17) :
 (execOp e1 ⟨d1,.load 71 x1,y1,pos,af,none⟩).run Tryz.prog w=.ok (.value (.agg #[a0,a1,a2,a3,a4,a5,a6,a7,a8,a9,a10,a11,a12,a13,a14,a15,a16,a17])) w:=by
 have hl:=Z.ld
 go_simp
theorem run_allocM {e1:Operand→Value} {d1:Option Tmp} {y1:Nat} {pos:String} {af:Array Edge} :
 (execOp e1 ⟨d1,.alloc 71,y1,pos,af,none⟩).run Tryz.prog w=.ok (.value (.pointer (some ⟨w.heap.size,0,none⟩))) (w.alloc (.cells #[.bool false,.slice none 0 0,.slice none 0 0,.bool false,.slice none 0 0,.slice none 0 0,.bool false,.slice none 0 0,.slice none 0 0,.bool false,.slice none 0 0,.slice none 0 0,.bool false,.slice none 0 0,.slice none 0 0,.bool false,.slice none 0 0,.slice none 0 0] 71)):=by
 go_simp
theorem run_storeM {e1:Operand→Value} {x1 z1:Operand} {d1:Option Tmp} {y1 g:Nat} {pos:String} {af:Array Edge} {u:MV} {a0 a1 a2 a3 a4 a5 a6 a7 a8 a9 a10 a11 a12 a13 a14 a15 a16 a17:Value} (h:e1 x1=.pointer (some ⟨g,0,none⟩)) (hz:e1 z1=.agg #[.bool u.a.s,.slice u.a.A u.a.n u.a.c,.slice u.a.B u.a.m u.a.d,.bool u.b.s,.slice u.b.A u.b.n u.b.c,.slice u.b.B u.b.m u.b.d,.bool u.c.s,.slice u.c.A u.c.n u.c.c,.slice u.c.B u.c.m u.c.d,.bool u.d.s,.slice u.d.A u.d.n u.d.c,.slice u.d.B u.d.m u.d.d,.bool u.e.s,.slice u.e.A u.e.n u.e.c,.slice u.e.B u.e.m u.e.d,.bool u.f.s,.slice u.f.A u.f.n u.f.c,.slice u.f.B u.f.m u.f.d]) (Z:B18 w g a0 a1 a2 a3 a4 a5 a6 a7 a8 a9 a10 a11 a12 a13 a14 a15 a16 a17) :
 (execOp e1 ⟨d1,.store 71 x1 z1,y1,pos,af,none⟩).run Tryz.prog w=.ok .skip ((((((((((((((((((w.setCell ⟨g,0,none⟩ (.bool u.a.s)).setCell ⟨g,1,none⟩ (.slice u.a.A u.a.n u.a.c)).setCell ⟨g,2,none⟩ (.slice u.a.B u.a.m u.a.d)).setCell ⟨g,3,none⟩ (.bool u.b.s)).setCell ⟨g,4,none⟩ (.slice u.b.A u.b.n u.b.c)).setCell ⟨g,5,none⟩ (.slice u.b.B u.b.m u.b.d)).setCell ⟨g,6,none⟩ (.bool u.c.s)).setCell ⟨g,7,none⟩ (.slice u.c.A u.c.n u.c.c)).setCell ⟨g,8,none⟩ (.slice u.c.B u.c.m u.c.d)).setCell ⟨g,9,none⟩ (.bool u.d.s)).setCell ⟨g,10,none⟩ (.slice u.d.A u.d.n u.d.c)).setCell ⟨g,11,none⟩ (.slice u.d.B u.d.m u.d.d)).setCell ⟨g,12,none⟩ (.bool u.e.s)).setCell ⟨g,13,none⟩ (.slice u.e.A u.e.n u.e.c)).setCell ⟨g,14,none⟩ (.slice u.e.B u.e.m u.e.d)).setCell ⟨g,15,none⟩ (.bool u.f.s)).setCell ⟨g,16,none⟩ (.slice u.f.A u.f.n u.f.c)).setCell ⟨g,17,none⟩ (.slice u.f.B u.f.m u.f.d)):=by
 have hs:=Z.st (.bool u.a.s) (.slice u.a.A u.a.n u.a.c) (.slice u.a.B u.a.m u.a.d) (.bool u.b.s) (.slice u.b.A u.b.n u.b.c) (.slice u.b.B u.b.m u.b.d) (.bool u.c.s) (.slice u.c.A u.c.n u.c.c) (.slice u.c.B u.c.m u.c.d) (.bool u.d.s) (.slice u.d.A u.d.n u.d.c) (.slice u.d.B u.d.m u.d.d) (.bool u.e.s) (.slice u.e.A u.e.n u.e.c) (.slice u.e.B u.e.m u.e.d) (.bool u.f.s) (.slice u.f.A u.f.n u.f.c) (.slice u.f.B u.f.m u.f.d) (by simp [Value.oneCell'])
 go_simp
theorem MG.box {T:TypeId} {w w':World} {g:Nat} {cs:Array Value} {u:MV} {v:AM} {k l:Nat} (h:MG w u v k l) (Z:BoxAt T w g cs) (ho:Only g w w'):MG w' u v k l:=⟨⟨h.1.1.box Z ho,h.1.2.box Z ho⟩,⟨h.2.1.1.box Z ho,h.2.1.2.box Z ho⟩,⟨h.2.2.1.box Z ho,h.2.2.2.box Z ho⟩⟩
theorem run_fM0 {e1:Operand→Value} {x1:Operand} {d1:Option Tmp} {y1 g:Nat} {pos:String} {af:Array Edge} (h:e1 x1=.pointer (some ⟨g,0,none⟩)) :
 (execOp e1 ⟨d1,.fieldAddr 71 x1 0,y1,pos,af,none⟩).run Tryz.prog w=.ok (.value (.pointer (some ⟨g,0,none⟩))) w:=by
 go_simp
theorem run_loadM0 {e1:Operand→Value} {x1:Operand} {d1:Option Tmp} {y1 g:Nat} {pos:String} {af:Array Edge} {a0 a1 a2 a3 a4 a5 a6 a7 a8 a9 a10 a11 a12 a13 a14 a15 a16 a17:Value} (h:e1 x1=.pointer (some ⟨g,0,none⟩)) (Z:B18 w g a0 a1 a2 a3 a4 a5 a6 a7 a8 a9 a10 a11 a12 a13 a14 a15 a16 a17) :
 (execOp e1 ⟨d1,.load 27 x1,y1,pos,af,none⟩).run Tryz.prog w=.ok (.value (.agg #[a0,a1,a2])) w:=by
 obtain ⟨h0,h1,h2⟩:=Z.all
 go_simp
theorem run_fM1 {e1:Operand→Value} {x1:Operand} {d1:Option Tmp} {y1 g:Nat} {pos:String} {af:Array Edge} (h:e1 x1=.pointer (some ⟨g,0,none⟩)) :
 (execOp e1 ⟨d1,.fieldAddr 71 x1 1,y1,pos,af,none⟩).run Tryz.prog w=.ok (.value (.pointer (some ⟨g,3,none⟩))) w:=by
 go_simp
theorem run_loadM1 {e1:Operand→Value} {x1:Operand} {d1:Option Tmp} {y1 g:Nat} {pos:String} {af:Array Edge} {a0 a1 a2 a3 a4 a5 a6 a7 a8 a9 a10 a11 a12 a13 a14 a15 a16 a17:Value} (h:e1 x1=.pointer (some ⟨g,3,none⟩)) (Z:B18 w g a0 a1 a2 a3 a4 a5 a6 a7 a8 a9 a10 a11 a12 a13 a14 a15 a16 a17) :
 (execOp e1 ⟨d1,.load 27 x1,y1,pos,af,none⟩).run Tryz.prog w=.ok (.value (.agg #[a3,a4,a5])) w:=by
 have h0:=Z.c3;have h1:=Z.c4;have h2:=Z.c5
 go_simp
theorem run_fM2 {e1:Operand→Value} {x1:Operand} {d1:Option Tmp} {y1 g:Nat} {pos:String} {af:Array Edge} (h:e1 x1=.pointer (some ⟨g,0,none⟩)) :
 (execOp e1 ⟨d1,.fieldAddr 71 x1 2,y1,pos,af,none⟩).run Tryz.prog w=.ok (.value (.pointer (some ⟨g,6,none⟩))) w:=by
 go_simp
theorem run_loadM2 {e1:Operand→Value} {x1:Operand} {d1:Option Tmp} {y1 g:Nat} {pos:String} {af:Array Edge} {a0 a1 a2 a3 a4 a5 a6 a7 a8 a9 a10 a11 a12 a13 a14 a15 a16 a17:Value} (h:e1 x1=.pointer (some ⟨g,6,none⟩)) (Z:B18 w g a0 a1 a2 a3 a4 a5 a6 a7 a8 a9 a10 a11 a12 a13 a14 a15 a16 a17) :
 (execOp e1 ⟨d1,.load 27 x1,y1,pos,af,none⟩).run Tryz.prog w=.ok (.value (.agg #[a6,a7,a8])) w:=by
 have h0:=Z.c6;have h1:=Z.c7;have h2:=Z.c8
 go_simp
theorem run_fM3 {e1:Operand→Value} {x1:Operand} {d1:Option Tmp} {y1 g:Nat} {pos:String} {af:Array Edge} (h:e1 x1=.pointer (some ⟨g,0,none⟩)) :
 (execOp e1 ⟨d1,.fieldAddr 71 x1 3,y1,pos,af,none⟩).run Tryz.prog w=.ok (.value (.pointer (some ⟨g,9,none⟩))) w:=by
 go_simp
theorem run_loadM3 {e1:Operand→Value} {x1:Operand} {d1:Option Tmp} {y1 g:Nat} {pos:String} {af:Array Edge} {a0 a1 a2 a3 a4 a5 a6 a7 a8 a9 a10 a11 a12 a13 a14 a15 a16 a17:Value} (h:e1 x1=.pointer (some ⟨g,9,none⟩)) (Z:B18 w g a0 a1 a2 a3 a4 a5 a6 a7 a8 a9 a10 a11 a12 a13 a14 a15 a16 a17) :
 (execOp e1 ⟨d1,.load 27 x1,y1,pos,af,none⟩).run Tryz.prog w=.ok (.value (.agg #[a9,a10,a11])) w:=by
 have h0:=Z.c9;have h1:=Z.c10;have h2:=Z.c11
 go_simp
theorem RM.box {T:TypeId} {w w':World} {g:Nat} {cs:Array Value} {u:MV} {v:AM} {k l:Nat} (h:RM w u v k l) (Z:BoxAt T w g cs) (ho:Only g w w'):RM w' u v k l:=⟨⟨h.1.1.box Z ho,h.1.2.box Z ho⟩,⟨h.2.1.1.box Z ho,h.2.1.2.box Z ho⟩,⟨h.2.2.1.box Z ho,h.2.2.2.box Z ho⟩⟩
def VPR (x y:Rat) (k:Nat) (v:Value) (w:World):Prop:=∃ s A n c B m d t E i e F j f,v=.agg #[.bool s,.slice A n c,.slice B m d,.bool t,.slice E i e,.slice F j f]∧PR w s A n c B m d t E i e F j f x y k
theorem stays_pr (x y:Rat) (k:Nat):Stays (VPR x y k) :=
 ⟨fun _ _ _ ⟨s,A,n,c,B,m,d,t,E,i,e,F,j,f,h1,h2⟩ hb=>⟨s,A,n,c,B,m,d,t,E,i,e,F,j,f,h1,h2.below hb⟩,fun _ _ _ _ _ _ ⟨s,A,n,c,B,m,d,t,E,i,e,F,j,f,h1,h2⟩ hB ho=>⟨s,A,n,c,B,m,d,t,E,i,e,F,j,f,h1,⟨h2.1.box hB ho,h2.2.box hB ho⟩⟩⟩
def QV.zero:QV:=⟨false,none,0,0,none,0,0⟩
def MU (w:World) (m:MV) (v:AM) (k _l:Nat):Prop:=PG w m.a.s m.a.A m.a.n m.a.c m.a.B m.a.m m.a.d m.b.s m.b.A m.b.n m.b.c m.b.B m.b.m m.b.d v.a v.b k∧PG w m.c.s m.c.A m.c.n m.c.c m.c.B m.c.m m.c.d m.d.s m.d.A m.d.n m.d.c m.d.B m.d.m m.d.d v.c v.d k∧m.e=QV.zero∧m.f=QV.zero∧v.e=0∧v.f=0
section
variable {w w':World} {m:MV} {v:AM} {k l:Nat}
theorem MU.below (h:MU w m v k l) (hb:Below w.heap.size w w'):MU w' m v k l:=⟨h.1.below hb,h.2.1.below hb,h.2.2⟩
theorem MU.box {T:TypeId} {g:Nat} {cs:Array Value} (h:MU w m v k l) (Z:BoxAt T w g cs) (ho:Only g w w'):MU w' m v k l:=⟨⟨h.1.1.box Z ho,h.1.2.box Z ho⟩,⟨h.2.1.1.box Z ho,h.2.1.2.box Z ho⟩,h.2.2⟩
end
def VMU (v:AM) (k l:Nat) (x:Value) (w:World):Prop:=∃ u:MV,x=.agg #[.bool u.a.s,.slice u.a.A u.a.n u.a.c,.slice u.a.B u.a.m u.a.d,.bool u.b.s,.slice u.b.A u.b.n u.b.c,.slice u.b.B u.b.m u.b.d,.bool u.c.s,.slice u.c.A u.c.n u.c.c,.slice u.c.B u.c.m u.c.d,.bool u.d.s,.slice u.d.A u.d.n u.d.c,.slice u.d.B u.d.m u.d.d,.bool u.e.s,.slice u.e.A u.e.n u.e.c,.slice u.e.B u.e.m u.e.d,.bool u.f.s,.slice u.f.A u.f.n u.f.c,.slice u.f.B u.f.m u.f.d]∧MU w u v k l
theorem stays_mu (v:AM) (k l:Nat):Stays (VMU v k l) :=
 ⟨fun _ _ _ ⟨u,h1,h2⟩ hb=>⟨u,h1,h2.below hb⟩,fun _ _ _ _ _ _ ⟨u,h1,h2⟩ hB ho=>⟨u,h1,h2.box hB ho⟩⟩
theorem store_mu {ac:Act} {x1 z:Operand} {y1 g:Nat} {pos:String} {af:Array Edge} {Q:Exit→Act→World→Prop} {v:AM} {k l:Nat} (p1:ac.eval x1=.pointer (some ⟨g,0,none⟩)) (h:VMU v k l (ac.eval z) w) (B:BoxAt 71 w g #[.bool false,.slice none 0 0,.slice none 0 0,.bool false,.slice none 0 0,.slice none 0 0,.bool false,.slice none 0 0,.slice none 0 0,.bool false,.slice none 0 0,.slice none 0 0,.bool false,.slice none 0 0,.slice none 0 0,.bool false,.slice none 0 0,.slice none 0 0]) :
 (⟨none,.store 71 x1 z,y1,pos,af,none⟩:Oper).wp Tryz.prog ac w (fun a'' w''=>a''=ac∧Only g w w''∧∃ cs',BoxAt 71 w'' g cs'∧(fun cs w=>∃ u:MV,cs=#[.bool u.a.s,.slice u.a.A u.a.n u.a.c,.slice u.a.B u.a.m u.a.d,.bool u.b.s,.slice u.b.A u.b.n u.b.c,.slice u.b.B u.b.m u.b.d,.bool u.c.s,.slice u.c.A u.c.n u.c.c,.slice u.c.B u.c.m u.c.d,.bool u.d.s,.slice u.d.A u.d.n u.d.c,.slice u.d.B u.d.m u.d.d,.bool u.e.s,.slice u.e.A u.e.n u.e.c,.slice u.e.B u.e.m u.e.d,.bool u.f.s,.slice u.f.A u.f.n u.f.c,.slice u.f.B u.f.m u.f.d]∧MU w u v k l) cs' w'') Q:=by
 obtain ⟨u,h1,h2⟩:=h
 have Z:B18 w g (.bool false) (.slice none 0 0) (.slice none 0 0) (.bool false) (.slice none 0 0) (.slice none 0 0) (.bool false) (.slice none 0 0) (.slice none 0 0) (.bool false) (.slice none 0 0) (.slice none 0 0) (.bool false) (.slice none 0 0) (.slice none 0 0) (.bool false) (.slice none 0 0) (.slice none 0 0):=B.at_
 unfold Oper.wp
 rw [run_storeM p1 h1 Z,Oper.upon_skip]
 have ho:=only_set18 w g (.bool u.a.s) (.slice u.a.A u.a.n u.a.c) (.slice u.a.B u.a.m u.a.d) (.bool u.b.s) (.slice u.b.A u.b.n u.b.c) (.slice u.b.B u.b.m u.b.d) (.bool u.c.s) (.slice u.c.A u.c.n u.c.c) (.slice u.c.B u.c.m u.c.d) (.bool u.d.s) (.slice u.d.A u.d.n u.d.c) (.slice u.d.B u.d.m u.d.d) (.bool u.e.s) (.slice u.e.A u.e.n u.e.c) (.slice u.e.B u.e.m u.e.d) (.bool u.f.s) (.slice u.f.A u.f.n u.f.c) (.slice u.f.B u.f.m u.f.d)
 exact ⟨put_none ac undef,ho,#[.bool u.a.s,.slice u.a.A u.a.n u.a.c,.slice u.a.B u.a.m u.a.d,.bool u.b.s,.slice u.b.A u.b.n u.b.c,.slice u.b.B u.b.m u.b.d,.bool u.c.s,.slice u.c.A u.c.n u.c.c,.slice u.c.B u.c.m u.c.d,.bool u.d.s,.slice u.d.A u.d.n u.d.c,.slice u.d.B u.d.m u.d.d,.bool u.e.s,.slice u.e.A u.e.n u.e.c,.slice u.e.B u.e.m u.e.d,.bool u.f.s,.slice u.f.A u.f.n u.f.c,.slice u.f.B u.f.m u.f.d],⟨Z.set18 (.bool u.a.s) (.slice u.a.A u.a.n u.a.c) (.slice u.a.B u.a.m u.a.d) (.bool u.b.s) (.slice u.b.A u.b.n u.b.c) (.slice u.b.B u.b.m u.b.d) (.bool u.c.s) (.slice u.c.A u.c.n u.c.c) (.slice u.c.B u.c.m u.c.d) (.bool u.d.s) (.slice u.d.A u.d.n u.d.c) (.slice u.d.B u.d.m u.d.d) (.bool u.e.s) (.slice u.e.A u.e.n u.e.c) (.slice u.e.B u.e.m u.e.d) (.bool u.f.s) (.slice u.f.A u.f.n u.f.c) (.slice u.f.B u.f.m u.f.d),free18 u⟩,u,rfl,h2.box B ho⟩
theorem run_build6 {e1:Operand→Value} {x1 x2:Operand} {d1:Option Tmp} {y1:Nat} {pos:String} {af:Array Edge} {a b c d e f:Value} (h:e1 x1=.agg #[a,b,c]) (h2:e1 x2=.agg #[d,e,f]) :
 (execOp e1 ⟨d1,.build 29 #[(0,x1),(1,x2)],y1,pos,af,none⟩).run Tryz.prog w=.ok (.value (.agg #[a,b,c,d,e,f])) w:=by
 go_simp
theorem B6.restm {W W':World} {g k:Nat} {x y z u v t:Value} (h:B6 W g x y z u v t) (hne:g ≠ k) (ho:Only k W W'):B6 W' g x y z u v t:=(ho.block g h.lt hne).trans h
theorem B6R.restm {W W':World} {g k:Nat} {x y z u v t:Value} (h:B6R W g x y z u v t) (hne:g ≠ k) (ho:Only k W W'):B6R W' g x y z u v t:=(ho.block g h.lt hne).trans h
theorem B3.restm {W W':World} {g k:Nat} {x y z:Value} (h:B3 W g x y z) (hne:g ≠ k) (ho:Only k W W'):B3 W' g x y z:=(ho.block g h.lt hne).trans h
theorem B3R.restm {W W':World} {g k:Nat} {x y z:Value} (h:B3R W g x y z) (hne:g ≠ k) (ho:Only k W W'):B3R W' g x y z:=(ho.block g h.lt hne).trans h
theorem only_set6 (W:World) (g:Nat) (a b c d e f:Value):Only g W ((((((W.setCell ⟨g,0,none⟩ a).setCell ⟨g,1,none⟩ b).setCell ⟨g,2,none⟩ c).setCell ⟨g,3,none⟩ d).setCell ⟨g,4,none⟩ e).setCell ⟨g,5,none⟩ f):=((((((Only.refl g W).setCell 0 _).setCell 1 _).setCell 2 _).setCell 3 _).setCell 4 _).setCell 5 _
theorem only_set3 (W:World) (g:Nat) (a b c:Value):Only g W (((W.setCell ⟨g,0,none⟩ a).setCell ⟨g,1,none⟩ b).setCell ⟨g,2,none⟩ c):=(((Only.refl g W).setCell 0 _).setCell 1 _).setCell 2 _
theorem run_build0 {e1:Operand→Value} {d1:Option Tmp} {y1:Nat} {pos:String} {af:Array Edge} :
 (execOp e1 ⟨d1,.build 29 #[],y1,pos,af,none⟩).run Tryz.prog w=.ok (.value (.agg #[.bool false,.slice none 0 0,.slice none 0 0,.bool false,.slice none 0 0,.slice none 0 0])) w:=by
 go_simp
theorem B18.setef {W:World} {g:Nat} {v0 v1 v2 v3 v4 v5 v6 v7 v8 v9 v10 v11 v12 v13 v14 v15 v16 v17:Value} (h:B18 W g v0 v1 v2 v3 v4 v5 v6 v7 v8 v9 v10 v11 v12 v13 v14 v15 v16 v17) (a0 a1 a2 a3 a4 a5:Value):B18 ((((((W.setCell ⟨g,12,none⟩ a0).setCell ⟨g,13,none⟩ a1).setCell ⟨g,14,none⟩ a2).setCell ⟨g,15,none⟩ a3).setCell ⟨g,16,none⟩ a4).setCell ⟨g,17,none⟩ a5) g v0 v1 v2 v3 v4 v5 v6 v7 v8 v9 v10 v11 a0 a1 a2 a3 a4 a5:=by
 unfold B18 at h ⊢
 have h0:=heap_setCell_same _ g 12 _ _ a0 h
 simp only [List.setIfInBounds_toArray,List.set_cons_zero,List.set_cons_succ] at h0
 have h1:=heap_setCell_same _ g 13 _ _ a1 h0
 simp only [List.setIfInBounds_toArray,List.set_cons_zero,List.set_cons_succ] at h1
 have h2:=heap_setCell_same _ g 14 _ _ a2 h1
 simp only [List.setIfInBounds_toArray,List.set_cons_zero,List.set_cons_succ] at h2
 have h3:=heap_setCell_same _ g 15 _ _ a3 h2
 simp only [List.setIfInBounds_toArray,List.set_cons_zero,List.set_cons_succ] at h3
 have h4:=heap_setCell_same _ g 16 _ _ a4 h3
 simp only [List.setIfInBounds_toArray,List.set_cons_zero,List.set_cons_succ] at h4
 have h5:=heap_setCell_same _ g 17 _ _ a5 h4
 simp only [List.setIfInBounds_toArray,List.set_cons_zero,List.set_cons_succ] at h5
 exact h5
theorem B18R.setef {W:World} {g:Nat} {v0 v1 v2 v3 v4 v5 v6 v7 v8 v9 v10 v11 v12 v13 v14 v15 v16 v17:Value} (h:B18R W g v0 v1 v2 v3 v4 v5 v6 v7 v8 v9 v10 v11 v12 v13 v14 v15 v16 v17) (a0 a1 a2 a3 a4 a5:Value):B18R ((((((W.setCell ⟨g,12,none⟩ a0).setCell ⟨g,13,none⟩ a1).setCell ⟨g,14,none⟩ a2).setCell ⟨g,15,none⟩ a3).setCell ⟨g,16,none⟩ a4).setCell ⟨g,17,none⟩ a5) g v0 v1 v2 v3 v4 v5 v6 v7 v8 v9 v10 v11 a0 a1 a2 a3 a4 a5:=by
 unfold B18R at h ⊢
 have h0:=heap_setCell_same _ g 12 _ _ a0 h
 simp only [List.setIfInBounds_toArray,List.set_cons_zero,List.set_cons_succ] at h0
 have h1:=heap_setCell_same _ g 13 _ _ a1 h0
 simp only [List.setIfInBounds_toArray,List.set_cons_zero,List.set_cons_succ] at h1
 have h2:=heap_setCell_same _ g 14 _ _ a2 h1
 simp only [List.setIfInBounds_toArray,List.set_cons_zero,List.set_cons_succ] at h2
 have h3:=heap_setCell_same _ g 15 _ _ a3 h2
 simp only [List.setIfInBounds_toArray,List.set_cons_zero,List.set_cons_succ] at h3
 have h4:=heap_setCell_same _ g 16 _ _ a4 h3
 simp only [List.setIfInBounds_toArray,List.set_cons_zero,List.set_cons_succ] at h4
 have h5:=heap_setCell_same _ g 17 _ _ a5 h4
 simp only [List.setIfInBounds_toArray,List.set_cons_zero,List.set_cons_succ] at h5
 exact h5
theorem only_setef (W:World) (g:Nat) (a b c d e f:Value):Only g W ((((((W.setCell ⟨g,12,none⟩ a).setCell ⟨g,13,none⟩ b).setCell ⟨g,14,none⟩ c).setCell ⟨g,15,none⟩ d).setCell ⟨g,16,none⟩ e).setCell ⟨g,17,none⟩ f):=((((((Only.refl g W).setCell 12 _).setCell 13 _).setCell 14 _).setCell 15 _).setCell 16 _).setCell 17 _
theorem below_setef {B g:Nat} {w W:World} (h:Below B w W) (hg:B≤g) (a b c d e f:Value):Below B w ((((((W.setCell ⟨g,12,none⟩ a).setCell ⟨g,13,none⟩ b).setCell ⟨g,14,none⟩ c).setCell ⟨g,15,none⟩ d).setCell ⟨g,16,none⟩ e).setCell ⟨g,17,none⟩ f):=(((((h.setCell hg _).setCell hg _).setCell hg _).setCell hg _).setCell hg _).setCell hg _
end
end Go.Proofs.YtgneghgfpkkkdaaGreat
