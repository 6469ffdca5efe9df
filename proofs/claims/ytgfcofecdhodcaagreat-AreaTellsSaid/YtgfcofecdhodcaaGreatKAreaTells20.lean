/- AreaTells: part 20. -/
import Derived.Test.YtgfcofecdhodcaaGreatKAreaTells12
import Derived.Test.YtgfcofecdhodcaaGreatKAreaTells13
import Derived.Test.YtgfcofecdhodcaaGreatKAreaTells15
import Derived.Test.YtgfcofecdhodcaaGreatKAreaTells18
import Derived.Test.YtgfcofecdhodcaaGreatKAreaTells19
set_option linter.unusedVariables false
set_option maxRecDepth 100000
set_option maxHeartbeats 16000000
variable {w:Go.World}
variable {s_a t_a:Bool} {A_a B_a E_a F_a:Option Go.Addr} {n_a c_a m_a d_a i_a e_a j_a f_a:Nat}
variable {s_p t_p:Bool} {A_p B_p E_p F_p:Option Go.Addr} {n_p c_p m_p d_p i_p e_p j_p f_p:Nat}
variable {s_q t_q:Bool} {A_q B_q E_q F_q:Option Go.Addr} {n_q c_q m_q d_q i_q e_q j_q f_q:Nat}
namespace Go.Proofs.YtgfcofecdhodcaaGreat
section
open Go Go.RowKit
def B13 (W:World) (g:Nat) (x0 x1 x2 x3 x4 x5 x6 x7 x8 x9 x10 x11 x12:Value):Prop:=W.heap[g]?=some (.cells #[x0,x1,x2,x3,x4,x5,x6,x7,x8,x9,x10,x11,x12] 47 (0,0))
section
variable {W W':World} {g:Nat} {x0 x1 x2 x3 x4 x5 x6 x7 x8 x9 x10 x11 x12:Value}
theorem B13.c0 (h:B13 W g x0 x1 x2 x3 x4 x5 x6 x7 x8 x9 x10 x11 x12):W.cell? ⟨g,0,none⟩=some x0:=by rw [cell_of_row W g 0 _ _ (0,0) h];rfl
theorem B13.c1 (h:B13 W g x0 x1 x2 x3 x4 x5 x6 x7 x8 x9 x10 x11 x12):W.cell? ⟨g,1,none⟩=some x1:=by rw [cell_of_row W g 1 _ _ (0,0) h];rfl
theorem B13.c2 (h:B13 W g x0 x1 x2 x3 x4 x5 x6 x7 x8 x9 x10 x11 x12):W.cell? ⟨g,2,none⟩=some x2:=by rw [cell_of_row W g 2 _ _ (0,0) h];rfl
theorem B13.c3 (h:B13 W g x0 x1 x2 x3 x4 x5 x6 x7 x8 x9 x10 x11 x12):W.cell? ⟨g,3,none⟩=some x3:=by rw [cell_of_row W g 3 _ _ (0,0) h];rfl
theorem B13.c4 (h:B13 W g x0 x1 x2 x3 x4 x5 x6 x7 x8 x9 x10 x11 x12):W.cell? ⟨g,4,none⟩=some x4:=by rw [cell_of_row W g 4 _ _ (0,0) h];rfl
theorem B13.c5 (h:B13 W g x0 x1 x2 x3 x4 x5 x6 x7 x8 x9 x10 x11 x12):W.cell? ⟨g,5,none⟩=some x5:=by rw [cell_of_row W g 5 _ _ (0,0) h];rfl
theorem B13.c6 (h:B13 W g x0 x1 x2 x3 x4 x5 x6 x7 x8 x9 x10 x11 x12):W.cell? ⟨g,6,none⟩=some x6:=by rw [cell_of_row W g 6 _ _ (0,0) h];rfl
theorem B13.c7 (h:B13 W g x0 x1 x2 x3 x4 x5 x6 x7 x8 x9 x10 x11 x12):W.cell? ⟨g,7,none⟩=some x7:=by rw [cell_of_row W g 7 _ _ (0,0) h];rfl
theorem B13.c8 (h:B13 W g x0 x1 x2 x3 x4 x5 x6 x7 x8 x9 x10 x11 x12):W.cell? ⟨g,8,none⟩=some x8:=by rw [cell_of_row W g 8 _ _ (0,0) h];rfl
theorem B13.c9 (h:B13 W g x0 x1 x2 x3 x4 x5 x6 x7 x8 x9 x10 x11 x12):W.cell? ⟨g,9,none⟩=some x9:=by rw [cell_of_row W g 9 _ _ (0,0) h];rfl
theorem B13.c10 (h:B13 W g x0 x1 x2 x3 x4 x5 x6 x7 x8 x9 x10 x11 x12):W.cell? ⟨g,10,none⟩=some x10:=by rw [cell_of_row W g 10 _ _ (0,0) h];rfl
theorem B13.c11 (h:B13 W g x0 x1 x2 x3 x4 x5 x6 x7 x8 x9 x10 x11 x12):W.cell? ⟨g,11,none⟩=some x11:=by rw [cell_of_row W g 11 _ _ (0,0) h];rfl
theorem B13.c12 (h:B13 W g x0 x1 x2 x3 x4 x5 x6 x7 x8 x9 x10 x11 x12):W.cell? ⟨g,12,none⟩=some x12:=by rw [cell_of_row W g 12 _ _ (0,0) h];rfl
theorem B13.all (h:B13 W g x0 x1 x2 x3 x4 x5 x6 x7 x8 x9 x10 x11 x12):W.cell? ⟨g,0,none⟩=some x0∧W.cell? ⟨g,1,none⟩=some x1∧W.cell? ⟨g,2,none⟩=some x2∧W.cell? ⟨g,3,none⟩=some x3∧W.cell? ⟨g,4,none⟩=some x4∧W.cell? ⟨g,5,none⟩=some x5∧W.cell? ⟨g,6,none⟩=some x6∧W.cell? ⟨g,7,none⟩=some x7∧W.cell? ⟨g,8,none⟩=some x8∧W.cell? ⟨g,9,none⟩=some x9∧W.cell? ⟨g,10,none⟩=some x10∧W.cell? ⟨g,11,none⟩=some x11∧W.cell? ⟨g,12,none⟩=some x12:=⟨h.c0,h.c1,h.c2,h.c3,h.c4,h.c5,h.c6,h.c7,h.c8,h.c9,h.c10,h.c11,h.c12⟩
theorem B13.f0 (h:B13 W g x0 x1 x2 x3 x4 x5 x6 x7 x8 x9 x10 x11 x12):W.frozen? ⟨g,0,none⟩=false:=frozen_of_row W g 0 _ _ h
theorem B13.f1 (h:B13 W g x0 x1 x2 x3 x4 x5 x6 x7 x8 x9 x10 x11 x12):W.frozen? ⟨g,1,none⟩=false:=frozen_of_row W g 1 _ _ h
theorem B13.f2 (h:B13 W g x0 x1 x2 x3 x4 x5 x6 x7 x8 x9 x10 x11 x12):W.frozen? ⟨g,2,none⟩=false:=frozen_of_row W g 2 _ _ h
theorem B13.f3 (h:B13 W g x0 x1 x2 x3 x4 x5 x6 x7 x8 x9 x10 x11 x12):W.frozen? ⟨g,3,none⟩=false:=frozen_of_row W g 3 _ _ h
theorem B13.f4 (h:B13 W g x0 x1 x2 x3 x4 x5 x6 x7 x8 x9 x10 x11 x12):W.frozen? ⟨g,4,none⟩=false:=frozen_of_row W g 4 _ _ h
theorem B13.f5 (h:B13 W g x0 x1 x2 x3 x4 x5 x6 x7 x8 x9 x10 x11 x12):W.frozen? ⟨g,5,none⟩=false:=frozen_of_row W g 5 _ _ h
theorem B13.f6 (h:B13 W g x0 x1 x2 x3 x4 x5 x6 x7 x8 x9 x10 x11 x12):W.frozen? ⟨g,6,none⟩=false:=frozen_of_row W g 6 _ _ h
theorem B13.f7 (h:B13 W g x0 x1 x2 x3 x4 x5 x6 x7 x8 x9 x10 x11 x12):W.frozen? ⟨g,7,none⟩=false:=frozen_of_row W g 7 _ _ h
theorem B13.f8 (h:B13 W g x0 x1 x2 x3 x4 x5 x6 x7 x8 x9 x10 x11 x12):W.frozen? ⟨g,8,none⟩=false:=frozen_of_row W g 8 _ _ h
theorem B13.f9 (h:B13 W g x0 x1 x2 x3 x4 x5 x6 x7 x8 x9 x10 x11 x12):W.frozen? ⟨g,9,none⟩=false:=frozen_of_row W g 9 _ _ h
theorem B13.f10 (h:B13 W g x0 x1 x2 x3 x4 x5 x6 x7 x8 x9 x10 x11 x12):W.frozen? ⟨g,10,none⟩=false:=frozen_of_row W g 10 _ _ h
theorem B13.f11 (h:B13 W g x0 x1 x2 x3 x4 x5 x6 x7 x8 x9 x10 x11 x12):W.frozen? ⟨g,11,none⟩=false:=frozen_of_row W g 11 _ _ h
theorem B13.f12 (h:B13 W g x0 x1 x2 x3 x4 x5 x6 x7 x8 x9 x10 x11 x12):W.frozen? ⟨g,12,none⟩=false:=frozen_of_row W g 12 _ _ h
theorem B13.lt (h:B13 W g x0 x1 x2 x3 x4 x5 x6 x7 x8 x9 x10 x11 x12):g < W.heap.size:=World.block_lt_of_cell? W _ h.c0
theorem B13.below (h:B13 W g x0 x1 x2 x3 x4 x5 x6 x7 x8 x9 x10 x11 x12) (hb:Below W.heap.size W W'):B13 W' g x0 x1 x2 x3 x4 x5 x6 x7 x8 x9 x10 x11 x12:=(hb.block g h.lt).trans h
theorem B13.rest {k:Nat} (h:B13 W g x0 x1 x2 x3 x4 x5 x6 x7 x8 x9 x10 x11 x12) (hne:g ≠ k) (ho:Only k W W'):B13 W' g x0 x1 x2 x3 x4 x5 x6 x7 x8 x9 x10 x11 x12:=(ho.block g h.lt hne).trans h
theorem B13.new' (W:World) (x0 x1 x2 x3 x4 x5 x6 x7 x8 x9 x10 x11 x12:Value) (g:Nat) (hg:g=W.heap.size):B13 (W.alloc (.cells #[x0,x1,x2,x3,x4,x5,x6,x7,x8,x9,x10,x11,x12] 47)) g x0 x1 x2 x3 x4 x5 x6 x7 x8 x9 x10 x11 x12:=by subst hg;exact heap_alloc_new W _
theorem B13.setL (h:B13 W g x0 x1 x2 x3 x4 x5 x6 x7 x8 x9 x10 x11 x12) (a b c d e f:Value):B13 ((((((W.setCell ⟨g,0,none⟩ a).setCell ⟨g,1,none⟩ b).setCell ⟨g,2,none⟩ c).setCell ⟨g,3,none⟩ d).setCell ⟨g,4,none⟩ e).setCell ⟨g,5,none⟩ f) g a b c d e f x6 x7 x8 x9 x10 x11 x12:=by
 unfold B13 at h ⊢
 simp [World.setCell,Array.getElem?_modify,h]
theorem B13.setM (h:B13 W g x0 x1 x2 x3 x4 x5 x6 x7 x8 x9 x10 x11 x12) (a b c d e f:Value):B13 ((((((W.setCell ⟨g,6,none⟩ a).setCell ⟨g,7,none⟩ b).setCell ⟨g,8,none⟩ c).setCell ⟨g,9,none⟩ d).setCell ⟨g,10,none⟩ e).setCell ⟨g,11,none⟩ f) g x0 x1 x2 x3 x4 x5 a b c d e f x12:=by
 unfold B13 at h ⊢
 simp [World.setCell,Array.getElem?_modify,h]
end
theorem onlyM (w:World) (g:Nat) (a b c d e f:Value):Only g w ((((((w.setCell ⟨g,6,none⟩ a).setCell ⟨g,7,none⟩ b).setCell ⟨g,8,none⟩ c).setCell ⟨g,9,none⟩ d).setCell ⟨g,10,none⟩ e).setCell ⟨g,11,none⟩ f) :=
 (((((((Only.refl g w).setCell 6 a).setCell 7 b).setCell 8 c).setCell 9 d).setCell 10 e).setCell 11 f)
theorem QgY {P:Program} {md:Region.Mode} {ops:Array Oper} {Q:Exit→Act→World→Prop} {S:World→Prop} {f:Nat} {d:Array Bool} {a:Act} (h:S w) (k:S w→wpAnyH P md ops Q S f d a w):wpAny P md ops Q f d a w:=wpAny_of_held _ _ _ _ (k h)
theorem QpM (w:World) (g:Nat) (y0 y1 y2 y3 y4 y5 y6 y7 y8 y9 y10 y11 y12:Value):Only g w (((((((((((((w.setCell ⟨g,0,none⟩ y0).setCell ⟨g,1,none⟩ y1).setCell ⟨g,2,none⟩ y2).setCell ⟨g,3,none⟩ y3).setCell ⟨g,4,none⟩ y4).setCell ⟨g,5,none⟩ y5).setCell ⟨g,6,none⟩ y6).setCell ⟨g,7,none⟩ y7).setCell ⟨g,8,none⟩ y8).setCell ⟨g,9,none⟩ y9).setCell ⟨g,10,none⟩ y10).setCell ⟨g,11,none⟩ y11).setCell ⟨g,12,none⟩ y12) :=
 ((((((((((((((Only.refl g w).setCell 0 y0).setCell 1 y1).setCell 2 y2).setCell 3 y3).setCell 4 y4).setCell 5 y5).setCell 6 y6).setCell 7 y7).setCell 8 y8).setCell 9 y9).setCell 10 y10).setCell 11 y11).setCell 12 y12)
theorem B13.set13 {W:World} {g:Nat} {x0 x1 x2 x3 x4 x5 x6 x7 x8 x9 x10 x11 x12:Value} (h:B13 W g x0 x1 x2 x3 x4 x5 x6 x7 x8 x9 x10 x11 x12) (y0 y1 y2 y3 y4 y5 y6 y7 y8 y9 y10 y11 y12:Value):B13 (((((((((((((W.setCell ⟨g,0,none⟩ y0).setCell ⟨g,1,none⟩ y1).setCell ⟨g,2,none⟩ y2).setCell ⟨g,3,none⟩ y3).setCell ⟨g,4,none⟩ y4).setCell ⟨g,5,none⟩ y5).setCell ⟨g,6,none⟩ y6).setCell ⟨g,7,none⟩ y7).setCell ⟨g,8,none⟩ y8).setCell ⟨g,9,none⟩ y9).setCell ⟨g,10,none⟩ y10).setCell ⟨g,11,none⟩ y11).setCell ⟨g,12,none⟩ y12) g y0 y1 y2 y3 y4 y5 y6 y7 y8 y9 y10 y11 y12:=by
 unfold B13 at h ⊢
 simp [World.setCell,Array.getElem?_modify,h]
theorem free13 {z:Bool}:∀ (x:Nat) (k:IntKind) (v:Int),(#[.bool s_p,.slice A_p n_p c_p,.slice B_p m_p d_p,.bool t_p,.slice E_p i_p e_p,.slice F_p j_p f_p,.bool s_q,.slice A_q n_q c_q,.slice B_q m_q d_q,.bool t_q,.slice E_q i_q e_q,.slice F_q j_q f_q,.bool z]:Array Value)[x]? ≠ some (.int k v):=by
 intro x k v h
 match x,h with
 | 0,h=>cases h
 | 1,h=>cases h
 | 2,h=>cases h
 | 3,h=>cases h
 | 4,h=>cases h
 | 5,h=>cases h
 | 6,h=>cases h
 | 7,h=>cases h
 | 8,h=>cases h
 | 9,h=>cases h
 | 10,h=>cases h
 | 11,h=>cases h
 | 12,h=>cases h
 | x+13,h=>cases h
theorem Qce {g:Nat} {z:Bool} (h:B13 w g (.bool s_p) (.slice A_p n_p c_p) (.slice B_p m_p d_p) (.bool t_p) (.slice E_p i_p e_p) (.slice F_p j_p f_p) (.bool s_q) (.slice A_q n_q c_q) (.slice B_q m_q d_q) (.bool t_q) (.slice E_q i_q e_q) (.slice F_q j_q f_q) (.bool z)):BoxAt 47 w g #[.bool s_p,.slice A_p n_p c_p,.slice B_p m_p d_p,.bool t_p,.slice E_p i_p e_p,.slice F_p j_p f_p,.bool s_q,.slice A_q n_q c_q,.slice B_q m_q d_q,.bool t_q,.slice E_q i_q e_q,.slice F_q j_q f_q,.bool z]:=⟨h,free13⟩
theorem Qdm {w W:World} {x0 x1 x2 x3 x4 x5 x6 x7 x8 x9 x10 x11 x12:Value} (h:(w.alloc (Obj.cells #[x0,x1,x2,x3,x4,x5,x6,x7,x8,x9,x10,x11,x12] 47))=W):Below w.heap.size w W∧B13 W (w.heap.size) x0 x1 x2 x3 x4 x5 x6 x7 x8 x9 x10 x11 x12∧W.heap.size=w.heap.size+1:=by subst h;exact ⟨by exact ((Below.refl _ _).alloc (Nat.le_refl _) _),by exact B13.new' _ _ _ _ _ _ _ _ _ _ _ _ _ _ _ rfl,by simp⟩
theorem rbox8 {A:Option Addr} {n c k:Nat} {L:List PV} {l:List (Rat × Rat)} (hL:SV w A (pvs L)) (hE:Each PV.RP w L l k) (hn:L.length=n) (h0:0 < n) (hm:n≤1000) (hk:k≤60) :
 Calls Tryz.prog 11 #[.slice A n c] w fun e w'=>∃ (x0 y0 x1 y1:Rat) (P Q:PV),BoxTo l n x0 y0 x1 y1∧e=.returned (.agg #[.bool P.s,.slice P.A P.n P.c,.slice P.B P.m P.d,.bool P.t,.slice P.E P.i P.e,.slice P.F P.j P.f,.bool Q.s,.slice Q.A Q.n Q.c,.slice Q.B Q.m Q.d,.bool Q.t,.slice Q.E Q.i Q.e,.slice Q.F Q.j Q.f,.bool true])∧P.RP w' (x0,y0) k∧Q.RP w' (x1,y1) k∧Below w.heap.size w w':=by
 have HN:=Lib.hid hn
 have HNl:Hid (l.length=n):=hE.1.symm.trans hn
 have H0:=Lib.hid h0;have E0:=Lib.hid hE;have L0:=Lib.hid hL
 have hn0:¬ (n:Int)=0:=by omega
 clear hn
 go_enter Tryz.func11,Tryz.ntmps11
 go_upto_region 1 with (fail)
 generalize hW:World.alloc _ _=W
 obtain ⟨hb,Z,hzW⟩:=Qdm hW;clear hW;replace hL:=hL.below hb;replace hE:=hE.belowR hb
 obtain ⟨P,u,hP1,hu1,p0⟩:=hE.at_ (i:=0) (by rw [HN.out];exact h0)
 obtain ⟨g0,o0,hix0,Ep,_⟩:=hL.rpt hP1
 have hixa:∀ w',(Instr.indexAt 33 (.slice A n c) (.int .i64 0)).run Tryz.prog w'=.ok (.pointer (some ⟨g0,o0,none⟩)) w':=fun w'=>hix0 n c w' h0
 obtain ⟨s_p,A_p,n_p,c_p,B_p,m_p,d_p,t_p,E_p,i_p,e_p,F_p,j_p,f_p⟩:=P
 obtain ⟨ux,uy⟩:=u
 replace p0:RP W s_p A_p n_p c_p B_p m_p d_p t_p E_p i_p e_p F_p j_p f_p ux uy k:=p0
 have HU:=Lib.hid hu1;have hL9:=Lib.hid hL;have E9:=Lib.hid hE;clear hP1 hu1 hix0 hL hE h0
 go_upto_region 3 with (fail)
 go_region_held3 (fun w'=>w'.cell? ⟨g0,o0,none⟩=some (.bool s_p)∧w'.cell? ⟨g0,o0+1,none⟩=some (.slice A_p n_p c_p)∧w'.cell? ⟨g0,o0+2,none⟩=some (.slice B_p m_p d_p)∧w'.cell? ⟨g0,o0+3,none⟩=some (.bool t_p)∧w'.cell? ⟨g0,o0+4,none⟩=some (.slice E_p i_p e_p)∧w'.cell? ⟨g0,o0+5,none⟩=some (.slice F_p j_p f_p))
  (first | with_reducible exact ⟨(Ep.below (Below.refl _ _).drew).c0,(Ep.below (Below.refl _ _).drew).c1,(Ep.below (Below.refl _ _).drew).c2,(Ep.below (Below.refl _ _).drew).c3,(Ep.below (Below.refl _ _).drew).c4,(Ep.below (Below.refl _ _).drew).c5⟩ | with_reducible exact ⟨(Ep.below ((Below.refl _ _).alloc (Nat.le_refl _) _).drew).c0,(Ep.below ((Below.refl _ _).alloc (Nat.le_refl _) _).drew).c1,(Ep.below ((Below.refl _ _).alloc (Nat.le_refl _) _).drew).c2,(Ep.below ((Below.refl _ _).alloc (Nat.le_refl _) _).drew).c3,(Ep.below ((Below.refl _ _).alloc (Nat.le_refl _) _).drew).c4,(Ep.below ((Below.refl _ _).alloc (Nat.le_refl _) _).drew).c5⟩)
  (first | fail)
 generalize hW:World.alloc _ _=W2
 obtain ⟨hh,X,hzW2⟩:=Qdm hW;clear hW;(try replace Z:=Z.below hh);(try replace p0:=p0.below hh);replace hb:=Qai hb hh
 replace p0:=RP.below p0 (Below.refl _ _).drew
 replace X:=X.below (Below.refl _ _).drew
 replace Z:=Z.below (Below.refl _ _).drew
 replace hb:=hb.drew
 generalize W2.drew=W3 at p0 X Z hb ⊢
 rw [hzW] at X
 have hgZ:w.heap.size < w.heap.size+1:=by omega
 clear hh hixa Ep hzW hzW2
 generalize w.heap.size+1=gM at X hgZ ⊢
 go_wp2_with fail
 go_loopg [4] n (fun gk ix wr=>∃ (m:Nat) (x0 y0 x1 y1:Rat) (P Q:PV),Hid (gk+m=n)∧ix=.int .i64 (m:Int)∧Hid (BoxTo l m x0 y0 x1 y1)∧B13 wr gM (.bool P.s) (.slice P.A P.n P.c) (.slice P.B P.m P.d) (.bool P.t) (.slice P.E P.i P.e) (.slice P.F P.j P.f) (.bool Q.s) (.slice Q.A Q.n Q.c) (.slice Q.B Q.m Q.d) (.bool Q.t) (.slice Q.E Q.i Q.e) (.slice Q.F Q.j Q.f) (.bool true)∧Hid (P.RP wr (x0,y0) k)∧Hid (Q.RP wr (x1,y1) k)∧B13 wr w.heap.size (.bool false) (.slice none 0 0) (.slice none 0 0) (.bool false) (.slice none 0 0) (.slice none 0 0) (.bool false) (.slice none 0 0) (.slice none 0 0) (.bool false) (.slice none 0 0) (.slice none 0 0) (.bool false)∧Below w.heap.size w wr)
 case atStart=>exact ⟨0,ux,uy,ux,uy,PV.mk s_p A_p n_p c_p B_p m_p d_p t_p E_p i_p e_p F_p j_p f_p,PV.mk s_p A_p n_p c_p B_p m_p d_p t_p E_p i_p e_p F_p j_p f_p,Nat.add_zero _,rfl,BoxTo.start HU.out,X,p0,p0,Z,hb⟩
 case round =>
  clear X Z p0 HU hb
  obtain ⟨m,x0,y0,x1,y1,P,Q,HG,rfl,HB,X,P9,Q9,Z,hb⟩:=hrel
  obtain ⟨s_x,A_x,n_x,c_x,B_x,m_x,d_x,t_x,E_x,i_x,e_x,F_x,j_x,f_x⟩:=P
  obtain ⟨s_y,A_y,n_y,c_y,B_y,m_y,d_y,t_y,E_y,i_y,e_y,F_y,j_y,f_y⟩:=Q
  have p:RP wr s_x A_x n_x c_x B_x m_x d_x t_x E_x i_x e_x F_x j_x f_x x0 y0 k:=P9.out
  have q:RP wr s_y A_y n_y c_y B_y m_y d_y t_y E_y i_y e_y F_y j_y f_y x1 y1 k:=Q9.out
  replace X:B13 wr gM (.bool s_x) (.slice A_x n_x c_x) (.slice B_x m_x d_x) (.bool t_x) (.slice E_x i_x e_x) (.slice F_x j_x f_x) (.bool s_y) (.slice A_y n_y c_y) (.slice B_y m_y d_y) (.bool t_y) (.slice E_y i_y e_y) (.slice F_y j_y f_y) (.bool true):=X
  clear P9 Q9
  by_cases hmn:m < n
  · have HMN:=Lib.hid hmn
    obtain ⟨R,v,hP1,hu1,r⟩:=(E0.out.belowR hb).at_ (i:=m) (by rw [HN.out];exact hmn)
    obtain ⟨g1,o1,hix0,E1,_⟩:=L0.out.rpt hP1
    have hixa:∀ w',(Instr.indexAt 33 (.slice A n c) (.int .i64 (m:Int))).run Tryz.prog w'=.ok (.pointer (some ⟨g1,o1,none⟩)) w':=fun w'=>hix0 n c w' hmn
    have hlt:(m:Int) < (n:Int):=by omega
    have hwr:IntKind.i64.wrap ((m:Int)+1)=(m:Int)+1:=IntWalk.i64_in _ (by omega)
    obtain ⟨s_r,A_r,n_r,c_r,B_r,m_r,d_r,t_r,E_r,i_r,e_r,F_r,j_r,f_r⟩:=R
    obtain ⟨vx,vy⟩:=v
    replace r:RP wr s_r A_r n_r c_r B_r m_r d_r t_r E_r i_r e_r F_r j_r f_r vx vy k:=r
    have HV:=Lib.hid hu1;have E:=E1.below hb;clear hP1 hu1 hix0 hmn
    go_upto_region 7 with (fail)
    replace p:=p.below (Below.refl _ _).drew
    replace q:=q.below (Below.refl _ _).drew
    replace r:=r.below (Below.refl _ _).drew
    replace X:=X.below (Below.refl _ _).drew
    replace E:=E.below (Below.refl _ _).drew
    replace Z:=Z.below (Below.refl _ _).drew
    replace hb:=hb.drew
    refine QdN _ (o:=⟨none,.store 45 (.tmp 41) (.tmp 40),0, "ref.go:83",#[⟨19,.data⟩,⟨18,.data⟩,⟨17,.chain⟩,⟨0,.phase⟩,⟨1,.phase⟩,⟨2,.phase⟩,⟨3,.phase⟩,⟨4,.phase⟩,⟨5,.phase⟩,⟨6,.phase⟩,⟨7,.phase⟩,⟨8,.phase⟩,⟨9,.phase⟩,⟨10,.phase⟩,⟨11,.phase⟩,⟨12,.phase⟩,⟨13,.phase⟩,⟨14,.phase⟩,⟨15,.phase⟩,⟨16,.phase⟩,⟨17,.phase⟩,⟨18,.phase⟩],none⟩) rfl (by kernel_rfl) (by kernel_rfl) (by kernel_rfl) rfl ?_
    refine QgY (S:=(fun w'=>w'.cell? ⟨gM,0,none⟩=some (.bool s_x)∧w'.cell? ⟨gM,1,none⟩=some (.slice A_x n_x c_x)∧w'.cell? ⟨gM,2,none⟩=some (.slice B_x m_x d_x)∧w'.cell? ⟨gM,3,none⟩=some (.bool t_x)∧w'.cell? ⟨gM,4,none⟩=some (.slice E_x i_x e_x)∧w'.cell? ⟨gM,5,none⟩=some (.slice F_x j_x f_x)∧w'.cell? ⟨g1,o1,none⟩=some (.bool s_r)∧w'.cell? ⟨g1,o1+1,none⟩=some (.slice A_r n_r c_r)∧w'.cell? ⟨g1,o1+2,none⟩=some (.slice B_r m_r d_r)∧w'.cell? ⟨g1,o1+3,none⟩=some (.bool t_r)∧w'.cell? ⟨g1,o1+4,none⟩=some (.slice E_r i_r e_r)∧w'.cell? ⟨g1,o1+5,none⟩=some (.slice F_r j_r f_r))) ⟨X.c0,X.c1,X.c2,X.c3,X.c4,X.c5,E.c0,E.c1,E.c2,E.c3,E.c4,E.c5⟩ (fun hHeld=>?_)
    refine wpAnyH_take (i:=0) (v:=?_) rfl (by kernel_rfl) (by kernel_rfl) (by kernel_rfl) (fun _ _ _ h=>h) (Or.inl ⟨by rfl,?_⟩) hHeld ?_
    rotate_left
    · (intro w hSw;(try dsimp only at hSw);go_simp;try with_reducible rfl)
    simp only [Act.put,List.setIfInBounds_toArray]
    refine wpAnyH_take (i:=1) (v:=?_) rfl (by kernel_rfl) (by kernel_rfl) (by kernel_rfl) (fun _ _ _ h=>h) (Or.inl ⟨by rfl,?_⟩) hHeld ?_
    rotate_left
    · (intro w hSw;(try dsimp only at hSw);go_simp;try with_reducible rfl)
    simp only [Act.put]
    refine wpAnyH_take (i:=2) (v:=?_) rfl (by kernel_rfl) (by kernel_rfl) (by kernel_rfl) (fun _ _ _ h=>h) (Or.inl ⟨by rfl,?_⟩) hHeld ?_
    rotate_left
    · (intro w hSw;(try dsimp only at hSw);go_simp;try with_reducible rfl)
    simp only [Act.put]
    refine wpAnyH_take (i:=3) (v:=?_) rfl (by kernel_rfl) (by kernel_rfl) (by kernel_rfl) (fun _ _ _ h=>h) (Or.inl ⟨by rfl,?_⟩) hHeld ?_
    rotate_left
    · (intro w hSw;(try dsimp only at hSw);go_simp;try with_reducible rfl)
    simp only [Act.put]
    refine wpAnyH_take (i:=4) (v:=?_) rfl (by kernel_rfl) (by kernel_rfl) (by kernel_rfl) (fun _ _ _ h=>h) (Or.inl ⟨by rfl,?_⟩) hHeld ?_
    rotate_left
    · (intro w hSw;(try dsimp only at hSw);go_simp;try with_reducible rfl)
    simp only [Act.put]
    refine wpAnyH_take (i:=5) (v:=?_) rfl (by kernel_rfl) (by kernel_rfl) (by kernel_rfl) (fun _ _ _ h=>h) (Or.inl ⟨by rfl,?_⟩) hHeld ?_
    rotate_left
    · (intro w hSw;(try dsimp only at hSw);go_simp;try with_reducible rfl)
    simp only [Act.put]
    refine wpAnyH_take (i:=6) (v:=?_) rfl (by kernel_rfl) (by kernel_rfl) (by kernel_rfl) (fun _ _ _ h=>h) (Or.inl ⟨by rfl,?_⟩) hHeld ?_
    rotate_left
    · (intro w hSw;(try dsimp only at hSw);go_simp;try with_reducible rfl)
    simp only [Act.put]
    refine wpAnyH_take (i:=7) (v:=?_) rfl (by kernel_rfl) (by kernel_rfl) (by kernel_rfl) (fun _ _ _ h=>h) (Or.inl ⟨by rfl,?_⟩) hHeld ?_
    rotate_left
    · (intro w hSw;(try dsimp only at hSw);go_simp;try with_reducible rfl)
    simp only [Act.put]
    refine wpAnyH_take (i:=9) (v:=?_) rfl (by kernel_rfl) (by kernel_rfl) (by kernel_rfl) (fun _ _ _ h=>h) (Or.inl ⟨by rfl,?_⟩) hHeld ?_
    rotate_left
    · (intro w hSw;(try dsimp only at hSw);go_simp;try with_reducible rfl)
    simp only [Act.put]
    refine wpAnyH_take (i:=10) (v:=?_) rfl (by kernel_rfl) (by kernel_rfl) (by kernel_rfl) (fun _ _ _ h=>h) (Or.inl ⟨by rfl,?_⟩) hHeld ?_
    rotate_left
    · (intro w hSw;(try dsimp only at hSw);go_simp;try with_reducible rfl)
    simp only [Act.put]
    refine wpAnyH_take (i:=11) (v:=?_) rfl (by kernel_rfl) (by kernel_rfl) (by kernel_rfl) (fun _ _ _ h=>h) (Or.inl ⟨by rfl,?_⟩) hHeld ?_
    rotate_left
    · (intro w hSw;(try dsimp only at hSw);go_simp;try with_reducible rfl)
    simp only [Act.put]
    refine wpAnyH_take (i:=12) (v:=?_) rfl (by kernel_rfl) (by kernel_rfl) (by kernel_rfl) (fun _ _ _ h=>h) (Or.inl ⟨by rfl,?_⟩) hHeld ?_
    rotate_left
    · (intro w hSw;(try dsimp only at hSw);go_simp;try with_reducible rfl)
    simp only [Act.put]
    refine wpAnyH_take (i:=13) (v:=?_) rfl (by kernel_rfl) (by kernel_rfl) (by kernel_rfl) (fun _ _ _ h=>h) (Or.inl ⟨by rfl,?_⟩) hHeld ?_
    rotate_left
    · (intro w hSw;(try dsimp only at hSw);go_simp;try with_reducible rfl)
    simp only [Act.put]
    refine wpAnyH_take (i:=14) (v:=?_) rfl (by kernel_rfl) (by kernel_rfl) (by kernel_rfl) (fun _ _ _ h=>h) (Or.inl ⟨by rfl,?_⟩) hHeld ?_
    rotate_left
    · (intro w hSw;(try dsimp only at hSw);go_simp;try with_reducible rfl)
    simp only [Act.put]
    refine wpAnyH_take (i:=15) (v:=?_) rfl (by kernel_rfl) (by kernel_rfl) (by kernel_rfl) (fun _ _ _ h=>h) (Or.inl ⟨by rfl,?_⟩) hHeld ?_
    rotate_left
    · (intro w hSw;(try dsimp only at hSw);go_simp;try with_reducible rfl)
    simp only [Act.put]
    refine wpAnyH_take (i:=16) (v:=?_) rfl (by kernel_rfl) (by kernel_rfl) (by kernel_rfl) (fun _ _ _ h=>h) (Or.inl ⟨by rfl,?_⟩) hHeld ?_
    rotate_left
    · (intro w hSw;(try dsimp only at hSw);go_simp;try with_reducible rfl)
    simp only [Act.put]
    refine wpAnyH_ready (rs:=[8]) (by kernel_rfl) (by simp) ?_
    refine AllReadyH.cons (o:=⟨some 30,.call ⟨.value (.func 38),#[.tmp 24,.tmp 29],#[43,43]⟩,43, "ref.go:83",#[⟨2,.data⟩,⟨7,.data⟩],none⟩) rfl (fun K1 hK1=>?_) AllReadyH.nil
    go_simp
    first
     | (go_at_call 38;(with_reducible refine (rmin3 p.qx r.qx (by omega)).mono ?_);rintro e w_a ⟨s_a,A_a,n_a,c_a,B_a,m_a,d_a,rfl,a,hh⟩
        (try replace p:=p.below hh);(try replace q:=q.below hh);(try replace r:=r.below hh);(try replace X:=X.below hh);(try replace E:=E.below hh);(try replace Z:=Z.below hh);(try replace a:=a.below hh);replace hb:=Qai hb hh)
    refine hK1.out _ _ (by with_reducible exact ⟨X.c0,X.c1,X.c2,X.c3,X.c4,X.c5,E.c0,E.c1,E.c2,E.c3,E.c4,E.c5⟩) (fun hHeld=>?_)
    clear hK1 K1
    refine wpAnyH_ready (rs:=[17]) (by kernel_rfl) (by simp) ?_
    refine AllReadyH.cons (o:=⟨some 39,.call ⟨.value (.func 38),#[.tmp 33,.tmp 38],#[43,43]⟩,43, "ref.go:83",#[⟨11,.data⟩,⟨16,.data⟩,⟨8,.chain⟩],none⟩) rfl (fun K1 hK1=>?_) AllReadyH.nil
    go_simp
    first
     | (go_at_call 38;(with_reducible refine (rmin3 p.qy r.qy (by omega)).mono ?_);rintro e w_b ⟨s_b,A_b,n_b,c_b,B_b,m_b,d_b,rfl,b,hh⟩
        (try replace p:=p.below hh);(try replace q:=q.below hh);(try replace r:=r.below hh);(try replace X:=X.below hh);(try replace E:=E.below hh);(try replace Z:=Z.below hh);(try replace a:=a.below hh);replace hb:=Qai hb hh)
    refine hK1.out _ _ (by with_reducible exact ⟨X.c0,X.c1,X.c2,X.c3,X.c4,X.c5,E.c0,E.c1,E.c2,E.c3,E.c4,E.c5⟩) (fun hHeld=>?_)
    clear hK1 K1
    refine wpAnyH_take (i:=18) (v:=?_) rfl (by kernel_rfl) (by kernel_rfl) (by kernel_rfl) (fun _ _ _ h=>h) (Or.inl ⟨by rfl,?_⟩) hHeld ?_
    rotate_left
    · (intro w hSw;(try dsimp only at hSw);go_simp;try with_reducible rfl)
    simp only [Act.put,List.setIfInBounds_toArray]
    refine wpAnyH_take (i:=19) (v:=?_) rfl (by kernel_rfl) (by kernel_rfl) (by kernel_rfl) (fun _ _ _ h=>h) (Or.inl ⟨by rfl,?_⟩) hHeld ?_
    rotate_left
    · (intro w hSw;(try dsimp only at hSw);go_simp;try with_reducible rfl)
    simp only [Act.put]
    refine wpAnyH_done (by kernel_rfl) ?_ _
    change Oper.wp _ _ _ _ _ _
    have xc0:=X.c0;have xf0:=X.f0;have xc1:=X.c1;have xf1:=X.f1;have xc2:=X.c2;have xf2:=X.f2;have xc3:=X.c3;have xf3:=X.f3;have xc4:=X.c4;have xf4:=X.f4;have xc5:=X.c5;have xf5:=X.f5
    go_simp
    have ho:=QfW w_b gM (.bool s_a) (.slice A_a n_a c_a) (.slice B_a m_a d_a) (.bool s_b) (.slice A_b n_b c_b) (.slice B_b m_b d_b)
    have X2:=X.setL (.bool s_a) (.slice A_a n_a c_a) (.slice B_a m_a d_a) (.bool s_b) (.slice A_b n_b c_b) (.slice B_b m_b d_b)
    replace Z:=Z.rest (by omega) ho
    replace hb:=Below.only hb (by omega) hb.size ho
    replace a:=RQ.box a (Qce X) ho
    replace b:=RQ.box b (Qce X) ho
    replace q:=RP.box q (Qce X) ho
    replace r:=RP.box r (Qce X) ho
    clear X ho xc0 xf0 xc1 xf1 xc2 xf2 xc3 xf3 xc4 xf4 xc5 xf5 p E hHeld
    generalize ((((((w_b.setCell ⟨gM,0,none⟩ (.bool s_a)).setCell ⟨gM,1,none⟩ (.slice A_a n_a c_a)).setCell ⟨gM,2,none⟩ (.slice B_a m_a d_a)).setCell ⟨gM,3,none⟩ (.bool s_b)).setCell ⟨gM,4,none⟩ (.slice A_b n_b c_b)).setCell ⟨gM,5,none⟩ (.slice B_b m_b d_b))=W7 at *
    replace X:=X2;clear X2
    have p2:RP W7 s_a A_a n_a c_a B_a m_a d_a s_b A_b n_b c_b B_b m_b d_b (Qm2 x0 vx) (Qm2 y0 vy) k:=⟨a,b⟩
    have E:=E1.below hb;clear a b
    go_upto_region 8 with (fail)
    replace p2:=p2.below (Below.refl _ _).drew
    replace q:=q.below (Below.refl _ _).drew
    replace r:=r.below (Below.refl _ _).drew
    replace X:=X.below (Below.refl _ _).drew
    replace E:=E.below (Below.refl _ _).drew
    replace Z:=Z.below (Below.refl _ _).drew
    replace hb:=hb.drew
    refine QdN _ (o:=⟨none,.store 45 (.tmp 61) (.tmp 60),0, "ref.go:84",#[⟨19,.data⟩,⟨18,.data⟩,⟨17,.chain⟩,⟨0,.phase⟩,⟨1,.phase⟩,⟨2,.phase⟩,⟨3,.phase⟩,⟨4,.phase⟩,⟨5,.phase⟩,⟨6,.phase⟩,⟨7,.phase⟩,⟨8,.phase⟩,⟨9,.phase⟩,⟨10,.phase⟩,⟨11,.phase⟩,⟨12,.phase⟩,⟨13,.phase⟩,⟨14,.phase⟩,⟨15,.phase⟩,⟨16,.phase⟩,⟨17,.phase⟩,⟨18,.phase⟩],none⟩) rfl (by kernel_rfl) (by kernel_rfl) (by kernel_rfl) rfl ?_
    refine QgY (S:=(fun w'=>w'.cell? ⟨gM,6,none⟩=some (.bool s_y)∧w'.cell? ⟨gM,7,none⟩=some (.slice A_y n_y c_y)∧w'.cell? ⟨gM,8,none⟩=some (.slice B_y m_y d_y)∧w'.cell? ⟨gM,9,none⟩=some (.bool t_y)∧w'.cell? ⟨gM,10,none⟩=some (.slice E_y i_y e_y)∧w'.cell? ⟨gM,11,none⟩=some (.slice F_y j_y f_y)∧w'.cell? ⟨g1,o1,none⟩=some (.bool s_r)∧w'.cell? ⟨g1,o1+1,none⟩=some (.slice A_r n_r c_r)∧w'.cell? ⟨g1,o1+2,none⟩=some (.slice B_r m_r d_r)∧w'.cell? ⟨g1,o1+3,none⟩=some (.bool t_r)∧w'.cell? ⟨g1,o1+4,none⟩=some (.slice E_r i_r e_r)∧w'.cell? ⟨g1,o1+5,none⟩=some (.slice F_r j_r f_r))) ⟨X.c6,X.c7,X.c8,X.c9,X.c10,X.c11,E.c0,E.c1,E.c2,E.c3,E.c4,E.c5⟩ (fun hHeld=>?_)
    refine wpAnyH_take (i:=0) (v:=?_) rfl (by kernel_rfl) (by kernel_rfl) (by kernel_rfl) (fun _ _ _ h=>h) (Or.inl ⟨by rfl,?_⟩) hHeld ?_
    rotate_left
    · (intro w hSw;(try dsimp only at hSw);go_simp;try with_reducible rfl)
    simp only [Act.put,List.setIfInBounds_toArray]
    refine wpAnyH_take (i:=1) (v:=?_) rfl (by kernel_rfl) (by kernel_rfl) (by kernel_rfl) (fun _ _ _ h=>h) (Or.inl ⟨by rfl,?_⟩) hHeld ?_
    rotate_left
    · (intro w hSw;(try dsimp only at hSw);go_simp;try with_reducible rfl)
    simp only [Act.put]
    refine wpAnyH_take (i:=2) (v:=?_) rfl (by kernel_rfl) (by kernel_rfl) (by kernel_rfl) (fun _ _ _ h=>h) (Or.inl ⟨by rfl,?_⟩) hHeld ?_
    rotate_left
    · (intro w hSw;(try dsimp only at hSw);go_simp;try with_reducible rfl)
    simp only [Act.put]
    refine wpAnyH_take (i:=3) (v:=?_) rfl (by kernel_rfl) (by kernel_rfl) (by kernel_rfl) (fun _ _ _ h=>h) (Or.inl ⟨by rfl,?_⟩) hHeld ?_
    rotate_left
    · (intro w hSw;(try dsimp only at hSw);go_simp;try with_reducible rfl)
    simp only [Act.put]
    refine wpAnyH_take (i:=4) (v:=?_) rfl (by kernel_rfl) (by kernel_rfl) (by kernel_rfl) (fun _ _ _ h=>h) (Or.inl ⟨by rfl,?_⟩) hHeld ?_
    rotate_left
    · (intro w hSw;(try dsimp only at hSw);go_simp;try with_reducible rfl)
    simp only [Act.put]
    refine wpAnyH_take (i:=5) (v:=?_) rfl (by kernel_rfl) (by kernel_rfl) (by kernel_rfl) (fun _ _ _ h=>h) (Or.inl ⟨by rfl,?_⟩) hHeld ?_
    rotate_left
    · (intro w hSw;(try dsimp only at hSw);go_simp;try with_reducible rfl)
    simp only [Act.put]
    refine wpAnyH_take (i:=6) (v:=?_) rfl (by kernel_rfl) (by kernel_rfl) (by kernel_rfl) (fun _ _ _ h=>h) (Or.inl ⟨by rfl,?_⟩) hHeld ?_
    rotate_left
    · (intro w hSw;(try dsimp only at hSw);go_simp;try with_reducible rfl)
    simp only [Act.put]
    refine wpAnyH_take (i:=7) (v:=?_) rfl (by kernel_rfl) (by kernel_rfl) (by kernel_rfl) (fun _ _ _ h=>h) (Or.inl ⟨by rfl,?_⟩) hHeld ?_
    rotate_left
    · (intro w hSw;(try dsimp only at hSw);go_simp;try with_reducible rfl)
    simp only [Act.put]
    refine wpAnyH_take (i:=9) (v:=?_) rfl (by kernel_rfl) (by kernel_rfl) (by kernel_rfl) (fun _ _ _ h=>h) (Or.inl ⟨by rfl,?_⟩) hHeld ?_
    rotate_left
    · (intro w hSw;(try dsimp only at hSw);go_simp;try with_reducible rfl)
    simp only [Act.put]
    refine wpAnyH_take (i:=10) (v:=?_) rfl (by kernel_rfl) (by kernel_rfl) (by kernel_rfl) (fun _ _ _ h=>h) (Or.inl ⟨by rfl,?_⟩) hHeld ?_
    rotate_left
    · (intro w hSw;(try dsimp only at hSw);go_simp;try with_reducible rfl)
    simp only [Act.put]
    refine wpAnyH_take (i:=11) (v:=?_) rfl (by kernel_rfl) (by kernel_rfl) (by kernel_rfl) (fun _ _ _ h=>h) (Or.inl ⟨by rfl,?_⟩) hHeld ?_
    rotate_left
    · (intro w hSw;(try dsimp only at hSw);go_simp;try with_reducible rfl)
    simp only [Act.put]
    refine wpAnyH_take (i:=12) (v:=?_) rfl (by kernel_rfl) (by kernel_rfl) (by kernel_rfl) (fun _ _ _ h=>h) (Or.inl ⟨by rfl,?_⟩) hHeld ?_
    rotate_left
    · (intro w hSw;(try dsimp only at hSw);go_simp;try with_reducible rfl)
    simp only [Act.put]
    refine wpAnyH_take (i:=13) (v:=?_) rfl (by kernel_rfl) (by kernel_rfl) (by kernel_rfl) (fun _ _ _ h=>h) (Or.inl ⟨by rfl,?_⟩) hHeld ?_
    rotate_left
    · (intro w hSw;(try dsimp only at hSw);go_simp;try with_reducible rfl)
    simp only [Act.put]
    refine wpAnyH_take (i:=14) (v:=?_) rfl (by kernel_rfl) (by kernel_rfl) (by kernel_rfl) (fun _ _ _ h=>h) (Or.inl ⟨by rfl,?_⟩) hHeld ?_
    rotate_left
    · (intro w hSw;(try dsimp only at hSw);go_simp;try with_reducible rfl)
    simp only [Act.put]
    refine wpAnyH_take (i:=15) (v:=?_) rfl (by kernel_rfl) (by kernel_rfl) (by kernel_rfl) (fun _ _ _ h=>h) (Or.inl ⟨by rfl,?_⟩) hHeld ?_
    rotate_left
    · (intro w hSw;(try dsimp only at hSw);go_simp;try with_reducible rfl)
    simp only [Act.put]
    refine wpAnyH_take (i:=16) (v:=?_) rfl (by kernel_rfl) (by kernel_rfl) (by kernel_rfl) (fun _ _ _ h=>h) (Or.inl ⟨by rfl,?_⟩) hHeld ?_
    rotate_left
    · (intro w hSw;(try dsimp only at hSw);go_simp;try with_reducible rfl)
    simp only [Act.put]
    refine wpAnyH_ready (rs:=[8]) (by kernel_rfl) (by simp) ?_
    refine AllReadyH.cons (o:=⟨some 50,.call ⟨.value (.func 39),#[.tmp 44,.tmp 49],#[43,43]⟩,43, "ref.go:84",#[⟨2,.data⟩,⟨7,.data⟩],none⟩) rfl (fun K1 hK1=>?_) AllReadyH.nil
    go_simp
    first
     | (go_at_call 39;(with_reducible refine (rmax3 q.qx r.qx (by omega)).mono ?_);rintro e w_d ⟨s_d,A_d,n_d,c_d,B_d,m_d,d_d,rfl,d,hh⟩
        (try replace p2:=p2.below hh);(try replace q:=q.below hh);(try replace r:=r.below hh);(try replace X:=X.below hh);(try replace E:=E.below hh);(try replace Z:=Z.below hh);(try replace d:=d.below hh);replace hb:=Qai hb hh)
    refine hK1.out _ _ (by with_reducible exact ⟨X.c6,X.c7,X.c8,X.c9,X.c10,X.c11,E.c0,E.c1,E.c2,E.c3,E.c4,E.c5⟩) (fun hHeld=>?_)
    clear hK1 K1
    refine wpAnyH_ready (rs:=[17]) (by kernel_rfl) (by simp) ?_
    refine AllReadyH.cons (o:=⟨some 59,.call ⟨.value (.func 39),#[.tmp 53,.tmp 58],#[43,43]⟩,43, "ref.go:84",#[⟨11,.data⟩,⟨16,.data⟩,⟨8,.chain⟩],none⟩) rfl (fun K1 hK1=>?_) AllReadyH.nil
    go_simp
    first
     | (go_at_call 39;(with_reducible refine (rmax3 q.qy r.qy (by omega)).mono ?_);rintro e w_e ⟨s_e,A_e,n_e,c_e,B_e,m_e,d_e,rfl,e,hh⟩
        (try replace p2:=p2.below hh);(try replace q:=q.below hh);(try replace r:=r.below hh);(try replace X:=X.below hh);(try replace E:=E.below hh);(try replace Z:=Z.below hh);(try replace d:=d.below hh);replace hb:=Qai hb hh)
    refine hK1.out _ _ (by with_reducible exact ⟨X.c6,X.c7,X.c8,X.c9,X.c10,X.c11,E.c0,E.c1,E.c2,E.c3,E.c4,E.c5⟩) (fun hHeld=>?_)
    clear hK1 K1
    refine wpAnyH_take (i:=18) (v:=?_) rfl (by kernel_rfl) (by kernel_rfl) (by kernel_rfl) (fun _ _ _ h=>h) (Or.inl ⟨by rfl,?_⟩) hHeld ?_
    rotate_left
    · (intro w hSw;(try dsimp only at hSw);go_simp;try with_reducible rfl)
    simp only [Act.put,List.setIfInBounds_toArray]
    refine wpAnyH_take (i:=19) (v:=?_) rfl (by kernel_rfl) (by kernel_rfl) (by kernel_rfl) (fun _ _ _ h=>h) (Or.inl ⟨by rfl,?_⟩) hHeld ?_
    rotate_left
    · (intro w hSw;(try dsimp only at hSw);go_simp;try with_reducible rfl)
    simp only [Act.put]
    refine wpAnyH_done (by kernel_rfl) ?_ _
    change Oper.wp _ _ _ _ _ _
    have xc6:=X.c6;have xf6:=X.f6;have xc7:=X.c7;have xf7:=X.f7;have xc8:=X.c8;have xf8:=X.f8;have xc9:=X.c9;have xf9:=X.f9;have xc10:=X.c10;have xf10:=X.f10;have xc11:=X.c11;have xf11:=X.f11
    go_simp
    have ho:=onlyM w_e gM (.bool s_d) (.slice A_d n_d c_d) (.slice B_d m_d d_d) (.bool s_e) (.slice A_e n_e c_e) (.slice B_e m_e d_e)
    have X2:=X.setM (.bool s_d) (.slice A_d n_d c_d) (.slice B_d m_d d_d) (.bool s_e) (.slice A_e n_e c_e) (.slice B_e m_e d_e)
    replace Z:=Z.rest (by omega) ho
    replace hb:=Below.only hb (by omega) hb.size ho
    replace d:=RQ.box d (Qce X) ho
    replace e:=RQ.box e (Qce X) ho
    replace p2:=RP.box p2 (Qce X) ho
    clear X ho xc6 xf6 xc7 xf7 xc8 xf8 xc9 xf9 xc10 xf10 xc11 xf11 q r E hHeld hixa
    generalize ((((((w_e.setCell ⟨gM,6,none⟩ (.bool s_d)).setCell ⟨gM,7,none⟩ (.slice A_d n_d c_d)).setCell ⟨gM,8,none⟩ (.slice B_d m_d d_d)).setCell ⟨gM,9,none⟩ (.bool s_e)).setCell ⟨gM,10,none⟩ (.slice A_e n_e c_e)).setCell ⟨gM,11,none⟩ (.slice B_e m_e d_e))=W8 at *
    have q2:RP W8 s_d A_d n_d c_d B_d m_d d_d s_e A_e n_e c_e B_e m_e d_e (Ql5 x1 vx) (Ql5 y1 vy) k:=⟨d,e⟩
    clear d e
    go_wp2_with fail
    go_roundg (gk - 1)
    case measure=>have:=HG.out;have:=HMN.out;omega
    case rel =>
     exact ⟨m+1,_,_,_,_,PV.mk s_a A_a n_a c_a B_a m_a d_a s_b A_b n_b c_b B_b m_b d_b,PV.mk s_d A_d n_d c_d B_d m_d d_d s_e A_e n_e c_e B_e m_e d_e,by have:=HG.out;have:=HMN.out;show _=_;omega,by go_num,BoxTo.step HB.out HV.out,X2,p2,q2,Z,hb⟩
  · have hlt:¬ (m:Int) < (n:Int):=by omega
    obtain rfl:m=n:=by have:=HG.out;omega
    clear hmn;have xc0:=X.c0;have zc0:=Z.c0;have zf0:=Z.f0;have xc1:=X.c1;have zc1:=Z.c1;have zf1:=Z.f1;have xc2:=X.c2;have zc2:=Z.c2;have zf2:=Z.f2;have xc3:=X.c3;have zc3:=Z.c3;have zf3:=Z.f3;have xc4:=X.c4;have zc4:=Z.c4;have zf4:=Z.f4;have xc5:=X.c5;have zc5:=Z.c5;have zf5:=Z.f5;have xc6:=X.c6;have zc6:=Z.c6;have zf6:=Z.f6;have xc7:=X.c7;have zc7:=Z.c7;have zf7:=Z.f7;have xc8:=X.c8;have zc8:=Z.c8;have zf8:=Z.f8;have xc9:=X.c9;have zc9:=Z.c9;have zf9:=Z.f9;have xc10:=X.c10;have zc10:=Z.c10;have zf10:=Z.f10;have xc11:=X.c11;have zc11:=Z.c11;have zf11:=Z.f11;have xc12:=X.c12;have zc12:=Z.c12;have zf12:=Z.f12
    go_wp2_with fail
    have ho:=QpM wr w.heap.size (.bool s_x) (.slice A_x n_x c_x) (.slice B_x m_x d_x) (.bool t_x) (.slice E_x i_x e_x) (.slice F_x j_x f_x) (.bool s_y) (.slice A_y n_y c_y) (.slice B_y m_y d_y) (.bool t_y) (.slice E_y i_y e_y) (.slice F_y j_y f_y) (.bool true)
    have Z2:=Z.set13 (.bool s_x) (.slice A_x n_x c_x) (.slice B_x m_x d_x) (.bool t_x) (.slice E_x i_x e_x) (.slice F_x j_x f_x) (.bool s_y) (.slice A_y n_y c_y) (.slice B_y m_y d_y) (.bool t_y) (.slice E_y i_y e_y) (.slice F_y j_y f_y) (.bool true)
    replace p:=RP.box p (Qce Z) ho
    replace q:=RP.box q (Qce Z) ho
    replace hb:=Below.only hb (Nat.le_refl _) hb.size ho
    clear X Z ho xc0 zc0 zf0 xc1 zc1 zf1 xc2 zc2 zf2 xc3 zc3 zf3 xc4 zc4 zf4 xc5 zc5 zf5 xc6 zc6 zf6 xc7 zc7 zf7 xc8 zc8 zf8 xc9 zc9 zf9 xc10 zc10 zf10 xc11 zc11 zf11 xc12 zc12 zf12;have g0_:=Z2.c0;have g1_:=Z2.c1;have g2_:=Z2.c2;have g3_:=Z2.c3;have g4_:=Z2.c4;have g5_:=Z2.c5;have g6_:=Z2.c6;have g7_:=Z2.c7;have g8_:=Z2.c8;have g9_:=Z2.c9;have g10_:=Z2.c10;have g11_:=Z2.c11;have g12_:=Z2.c12
    refine bodyPost_ret (v:=.agg #[.bool s_x,.slice A_x n_x c_x,.slice B_x m_x d_x,.bool t_x,.slice E_x i_x e_x,.slice F_x j_x f_x,.bool s_y,.slice A_y n_y c_y,.slice B_y m_y d_y,.bool t_y,.slice E_y i_y e_y,.slice F_y j_y f_y,.bool true]) (by simp [results,Tryz.results11,go_sem,g0_,g1_,g2_,g3_,g4_,g5_,g6_,g7_,g8_,g9_,g10_,g11_,g12_]) rfl ?_
    first
    | exact ⟨x0,y0,x1,y1,HB.out,PV.mk s_x A_x n_x c_x B_x m_x d_x t_x E_x i_x e_x F_x j_x f_x,PV.mk s_y A_y n_y c_y B_y m_y d_y t_y E_y i_y e_y F_y j_y f_y,rfl,p,q,hb⟩
    | exact ⟨x0,y0,x1,y1,PV.mk s_x A_x n_x c_x B_x m_x d_x t_x E_x i_x e_x F_x j_x f_x,PV.mk s_y A_y n_y c_y B_y m_y d_y t_y E_y i_y e_y F_y j_y f_y,HB.out,rfl,p,q,hb⟩
theorem Qle {A:Option Addr} {c:Nat} :
 Calls Tryz.prog 11 #[.slice A 0 c] w fun e w'=>e=.returned (.agg #[.bool false,.slice none 0 0,.slice none 0 0,.bool false,.slice none 0 0,.slice none 0 0,.bool false,.slice none 0 0,.slice none 0 0,.bool false,.slice none 0 0,.slice none 0 0,.bool false])∧Below w.heap.size w w':=by
 go_enter Tryz.func11,Tryz.ntmps11
 go_upto_region 1 with (fail)
 generalize hW:World.alloc _ _=W
 obtain ⟨hb,Z,hzW⟩:=Qdm hW;clear hW;have zc0:=Z.c0;have zf0:=Z.f0;have zc1:=Z.c1;have zf1:=Z.f1;have zc2:=Z.c2;have zf2:=Z.f2;have zc3:=Z.c3;have zf3:=Z.f3;have zc4:=Z.c4;have zf4:=Z.f4;have zc5:=Z.c5;have zf5:=Z.f5;have zc6:=Z.c6;have zf6:=Z.f6;have zc7:=Z.c7;have zf7:=Z.f7;have zc8:=Z.c8;have zf8:=Z.f8;have zc9:=Z.c9;have zf9:=Z.f9;have zc10:=Z.c10;have zf10:=Z.f10;have zc11:=Z.c11;have zf11:=Z.f11;have zc12:=Z.c12;have zf12:=Z.f12
 go_wp2_with fail
 have Z2:=Z.set13 (Value.bool false) (Value.slice none 0 0) (Value.slice none 0 0) (Value.bool false) (Value.slice none 0 0) (Value.slice none 0 0) (Value.bool false) (Value.slice none 0 0) (Value.slice none 0 0) (Value.bool false) (Value.slice none 0 0) (Value.slice none 0 0) (Value.bool false)
 replace hb:=Below.only hb (Nat.le_refl _) hb.size (QpM W w.heap.size (Value.bool false) (Value.slice none 0 0) (Value.slice none 0 0) (Value.bool false) (Value.slice none 0 0) (Value.slice none 0 0) (Value.bool false) (Value.slice none 0 0) (Value.slice none 0 0) (Value.bool false) (Value.slice none 0 0) (Value.slice none 0 0) (Value.bool false))
 clear Z zc0 zf0 zc1 zf1 zc2 zf2 zc3 zf3 zc4 zf4 zc5 zf5 zc6 zf6 zc7 zf7 zc8 zf8 zc9 zf9 zc10 zf10 zc11 zf11 zc12 zf12;have g0_:=Z2.c0;have g1_:=Z2.c1;have g2_:=Z2.c2;have g3_:=Z2.c3;have g4_:=Z2.c4;have g5_:=Z2.c5;have g6_:=Z2.c6;have g7_:=Z2.c7;have g8_:=Z2.c8;have g9_:=Z2.c9;have g10_:=Z2.c10;have g11_:=Z2.c11;have g12_:=Z2.c12
 refine bodyPost_ret (v:=.agg #[.bool false,.slice none 0 0,.slice none 0 0,.bool false,.slice none 0 0,.slice none 0 0,.bool false,.slice none 0 0,.slice none 0 0,.bool false,.slice none 0 0,.slice none 0 0,.bool false]) (by simp [results,Tryz.results11,go_sem,g0_,g1_,g2_,g3_,g4_,g5_,g6_,g7_,g8_,g9_,g10_,g11_,g12_]) rfl ?_
 exact ⟨rfl,hb⟩
end
section
open Go Go.RowKit
def BL1 (W:World) (g:Nat) (v0:Value) (v1:Value) (v2:Value) (v3:Value) (v4:Value) (v5:Value):Prop:=W.heap[g]?=some (.cells #[v0,v1,v2,v3,v4,v5] 29 (0,0))
section
variable {W W':World} {g:Nat} {v0 v1 v2 v3 v4 v5:Value}
theorem BL1.c0 (h:BL1 W g v0 v1 v2 v3 v4 v5):W.cell? ⟨g,0,none⟩=some v0:=by rw [cell_of_row W g 0 _ _ (0,0) h];rfl
theorem BL1.c1 (h:BL1 W g v0 v1 v2 v3 v4 v5):W.cell? ⟨g,1,none⟩=some v1:=by rw [cell_of_row W g 1 _ _ (0,0) h];rfl
theorem BL1.c2 (h:BL1 W g v0 v1 v2 v3 v4 v5):W.cell? ⟨g,2,none⟩=some v2:=by rw [cell_of_row W g 2 _ _ (0,0) h];rfl
theorem BL1.c3 (h:BL1 W g v0 v1 v2 v3 v4 v5):W.cell? ⟨g,3,none⟩=some v3:=by rw [cell_of_row W g 3 _ _ (0,0) h];rfl
theorem BL1.c4 (h:BL1 W g v0 v1 v2 v3 v4 v5):W.cell? ⟨g,4,none⟩=some v4:=by rw [cell_of_row W g 4 _ _ (0,0) h];rfl
theorem BL1.c5 (h:BL1 W g v0 v1 v2 v3 v4 v5):W.cell? ⟨g,5,none⟩=some v5:=by rw [cell_of_row W g 5 _ _ (0,0) h];rfl
theorem BL1.all (h:BL1 W g v0 v1 v2 v3 v4 v5):W.cell? ⟨g,0,none⟩=some v0∧W.cell? ⟨g,1,none⟩=some v1∧W.cell? ⟨g,2,none⟩=some v2∧W.cell? ⟨g,3,none⟩=some v3∧W.cell? ⟨g,4,none⟩=some v4∧W.cell? ⟨g,5,none⟩=some v5:=⟨h.c0,h.c1,h.c2,h.c3,h.c4,h.c5⟩
theorem BL1.lt (h:BL1 W g v0 v1 v2 v3 v4 v5):g < W.heap.size:=World.block_lt_of_cell? W _ h.c0
theorem BL1.below (h:BL1 W g v0 v1 v2 v3 v4 v5) (hb:Below W.heap.size W W'):BL1 W' g v0 v1 v2 v3 v4 v5:=(hb.block g h.lt).trans h
end
theorem BL1.new' (W:World) (v0 v1 v2 v3 v4 v5:Value) (g:Nat) (hg:g=W.heap.size):BL1 (W.alloc (.cells #[v0,v1,v2,v3,v4,v5] 29)) g v0 v1 v2 v3 v4 v5:=by subst hg;exact heap_alloc_new W _
theorem QqZ {g:Nat} (L:BL1 w g (.bool s_p) (.slice A_p n_p c_p) (.slice B_p m_p d_p) (.bool t_p) (.slice E_p i_p e_p) (.slice F_p j_p f_p)) (h0:decide ((n_p≤6∧m_p≤6)∧i_p≤6∧j_p≤6)=false) :
 Calls Tryz.prog 28 #[.slice (some ⟨g,0,none⟩) 1 1,.int .i64 6] w fun e w'=>e=.returned (.bool false)∧Below w.heap.size w w':=by
 have H0:=Lib.hid h0;clear h0
 have hb:Below w.heap.size w w:=Below.refl _ _
 obtain ⟨l0,l1,l2,l3,l4,l5⟩:=L.all
 go_enter Tryz.func28,Tryz.ntmps28
 go_wp2_with fail
 refine wp_loop_rounds 2 ?_
 rw [rounds_succ]
 go_wp2_with (first
  | (go_at_call 70;(with_reducible refine (Qi6 (s_p:=s_p) (A_p:=A_p) (n_p:=n_p) (c_p:=c_p) (B_p:=B_p) (m_p:=m_p) (d_p:=d_p) (t_p:=t_p) (E_p:=E_p) (i_p:=i_p) (e_p:=e_p) (F_p:=F_p) (j_p:=j_p) (f_p:=f_p) false H0.out).mono ?_);rintro e w_z ⟨rfl,hh⟩
     (try replace L:=L.below hh);replace hb:=Qai hb hh;obtain ⟨l0,l1,l2,l3,l4,l5⟩:=L.all))
 go_ret;exact ⟨rfl,hb⟩
theorem Qqc {g:Nat} (L:BL1 w g (.bool s_p) (.slice A_p n_p c_p) (.slice B_p m_p d_p) (.bool t_p) (.slice E_p i_p e_p) (.slice F_p j_p f_p)) (h0:decide ((n_p≤6∧m_p≤6)∧i_p≤6∧j_p≤6)=true) :
 Calls Tryz.prog 28 #[.slice (some ⟨g,0,none⟩) 1 1,.int .i64 6] w fun e w'=>e=.returned (.bool true)∧Below w.heap.size w w':=by
 have H0:=Lib.hid h0;clear h0
 have hb:Below w.heap.size w w:=Below.refl _ _
 obtain ⟨l0,l1,l2,l3,l4,l5⟩:=L.all
 go_enter Tryz.func28,Tryz.ntmps28
 go_wp2_with fail
 refine wp_loop_rounds 2 ?_
 rw [rounds_succ]
 go_wp2_with (first
  | (go_at_call 70;(with_reducible refine (Qi6 (s_p:=s_p) (A_p:=A_p) (n_p:=n_p) (c_p:=c_p) (B_p:=B_p) (m_p:=m_p) (d_p:=d_p) (t_p:=t_p) (E_p:=E_p) (i_p:=i_p) (e_p:=e_p) (F_p:=F_p) (j_p:=j_p) (f_p:=f_p) true H0.out).mono ?_);rintro e w_z ⟨rfl,hh⟩
     (try replace L:=L.below hh);replace hb:=Qai hb hh;obtain ⟨l0,l1,l2,l3,l4,l5⟩:=L.all))
 rw [rounds_succ]
 go_wp2_with fail
 go_ret;exact ⟨rfl,hb⟩
theorem line1 {g:Nat} (L:BL1 w g (.bool s_p) (.slice A_p n_p c_p) (.slice B_p m_p d_p) (.bool t_p) (.slice E_p i_p e_p) (.slice F_p j_p f_p)) (R:Bool) (hR:decide (((n_p≤6∧m_p≤6)∧i_p≤6∧j_p≤6))=R) :
 Calls Tryz.prog 28 #[.slice (some ⟨g,0,none⟩) 1 1,.int .i64 6] w fun e w'=>e=.returned (.bool R)∧Below w.heap.size w w':=by
 subst hR
 by_cases h0:(n_p≤6∧m_p≤6)∧i_p≤6∧j_p≤6
 case neg=>rw [decide_eq_false (fun q=>h0 q)];exact QqZ L  (decide_eq_false h0)
 rw [decide_eq_true h0];exact Qqc L (decide_eq_true h0)
theorem Qrd {g:Nat} (L:BL1 w g (.bool s_p) (.slice A_p n_p c_p) (.slice B_p m_p d_p) (.bool t_p) (.slice E_p i_p e_p) (.slice F_p j_p f_p)) (R:Bool) (hR:decide (((n_p≤6∧m_p≤6)∧i_p≤6∧j_p≤6))=R) :
 Calls Tryz.prog 6 #[.slice (some ⟨g,0,none⟩) 1 1] w fun e w'=>e=.returned (.bool R)∧Below w.heap.size w w':=by
 have HR:=Lib.hid hR;clear hR
 have hb:Below w.heap.size w w:=Below.refl _ _
 go_enter Tryz.func6,Tryz.ntmps6
 go_wp2_with (first
  | (go_at_call 28;(with_reducible refine (line1 L R HR.out).mono ?_);rintro e w_z ⟨rfl,hh⟩
     replace hb:=Qai hb hh))
 go_ret;exact ⟨rfl,hb⟩
end
section
open Go Go.RowKit
theorem Each.more4 {L:List PV} {l:List (Rat × Rat)} {k m:Nat} (h:Each PV.PR w L l k) (hm:k≤m):Each PV.PR w L l m:=⟨h.1,fun i p u hp hu=>PR.more (h.2 i p u hp hu) hm⟩
theorem Each.more8 {L:List PV} {l:List (Rat × Rat)} {k m:Nat} (h:Each PV.RP w L l k) (hm:k≤m):Each PV.RP w L l m:=⟨h.1,fun i p u hp hu=>RP.more (h.2 i p u hp hu) hm⟩
theorem Qmw (p:Prop):∃ R:Bool,R=true ↔ p:=by
 by_cases h:p
 · exact ⟨true,⟨fun _=>h,fun _=>rfl⟩⟩
 · exact ⟨false,⟨fun e=>by (cases e),fun e=>absurd e h⟩⟩
theorem QqO {A:Option Addr} {n c:Nat} {L:List PV} (hL:SV w A (pvs L)) (hn:L.length=n) (hnc:n≤c) (h:¬ n≤12) :
 Calls Tryz.prog 3 #[.slice A n c,.agg #[.bool s_a,.slice A_a n_a c_a,.slice B_a m_a d_a,.bool t_a,.slice E_a i_a e_a,.slice F_a j_a f_a]] w fun e w'=>e=.returned (.bool true)∧Below w.heap.size w w':=by
 have H12:Hid ((12:Int)=((12:Nat):Int)):=rfl
 have HN12:=Lib.hid h;clear h
 go_enter Tryz.func3,Tryz.ntmps3
 go_upto_region 1 with (fail)
 generalize hW:World.alloc _ _=W
 obtain ⟨hb,XA,hzW⟩:=Qaw hW;clear hW;replace hL:=hL.below hb
 go_wp2_with (first
  | (go_at_call 5;(with_reducible refine (Qrr H12.out hL hn hnc HN12.out).mono ?_);rintro e w_z ⟨rfl,hh⟩
     replace hb:=Qai hb hh)
  | (go_at_call 7;(with_reducible refine (QbR _).mono ?_);rintro e w_z ⟨rfl,hh⟩
     replace hb:=Qai hb hh))
 go_ret;exact ⟨rfl,hb⟩
theorem Qrl {A:Option Addr} {n c:Nat} {L:List PV} (hL:SV w A (pvs L)) (hn:L.length=n) (hnc:n≤c) (h:n≤12) (h2:¬ ∀ q ∈ L,q.small 4) :
 Calls Tryz.prog 3 #[.slice A n c,.agg #[.bool s_a,.slice A_a n_a c_a,.slice B_a m_a d_a,.bool t_a,.slice E_a i_a e_a,.slice F_a j_a f_a]] w fun e w'=>e=.returned (.bool true)∧Below w.heap.size w w':=by
 have H12:Hid ((12:Int)=((12:Nat):Int)):=rfl
 go_enter Tryz.func3,Tryz.ntmps3
 go_upto_region 1 with (fail)
 generalize hW:World.alloc _ _=W
 obtain ⟨hb,XA,hzW⟩:=Qaw hW;clear hW;replace hL:=hL.below hb
 go_wp2_with (first
  | (go_at_call 5;(with_reducible refine (Qog H12.out hL hn (by decide) hnc h h2).mono ?_);rintro e w_z ⟨rfl,hh⟩
     replace hb:=Qai hb hh)
  | (go_at_call 7;(with_reducible refine (QbR _).mono ?_);rintro e w_z ⟨rfl,hh⟩
     replace hb:=Qai hb hh))
 go_ret;exact ⟨rfl,hb⟩
theorem QrH {A:Option Addr} {n c:Nat} {L:List PV} (hL:SV w A (pvs L)) (hn:L.length=n) (hnc:n≤c) (h:n≤12) (h2:∀ q ∈ L,q.small 4) (h3:¬ (((n_a≤6∧m_a≤6)∧i_a≤6∧j_a≤6))) :
 Calls Tryz.prog 3 #[.slice A n c,.agg #[.bool s_a,.slice A_a n_a c_a,.slice B_a m_a d_a,.bool t_a,.slice E_a i_a e_a,.slice F_a j_a f_a]] w fun e w'=>e=.returned (.bool true)∧Below w.heap.size w w':=by
 have H12:Hid ((12:Int)=((12:Nat):Int)):=rfl
 have HL:Hid (decide (((n_a≤6∧m_a≤6)∧i_a≤6∧j_a≤6))=false):=decide_eq_false h3
 clear h3
 go_enter Tryz.func3,Tryz.ntmps3
 go_upto_region 1 with (fail)
 generalize hW:World.alloc _ _=W
 obtain ⟨hb,XA,hzW⟩:=Qaw hW;clear hW;replace hL:=hL.below hb
 go_wp2_with (first
  | (go_at_call 5;(with_reducible refine (Qhq H12.out hL hn (by decide) hnc h h2).mono ?_);rintro e w_z ⟨rfl,hh⟩
     (try replace XA:=XA.below hh);replace hb:=Qai hb hh;obtain ⟨xa0,xa1,xa2,xa3,xa4,xa5⟩:=XA.all
     have ha:Below w_z.heap.size w_z (w_z.alloc (.cells #[.bool s_a,.slice A_a n_a c_a,.slice B_a m_a d_a,.bool t_a,.slice E_a i_a e_a,.slice F_a j_a f_a] 29)):=(Below.refl _ _).alloc (Nat.le_refl _) _
     have XL:=BL1.new' w_z (.bool s_a) (.slice A_a n_a c_a) (.slice B_a m_a d_a) (.bool t_a) (.slice E_a i_a e_a) (.slice F_a j_a f_a) _ rfl
     replace XA:=XA.below ha;replace hb:=Qai hb ha;clear ha)
  | (go_at_call 6;(with_reducible refine (Qrd XL false HL.out).mono ?_);rintro e w_y ⟨rfl,hh⟩
     replace hb:=Qai hb hh;clear XL)
  | (go_at_call 7;(with_reducible refine (QbR _).mono ?_);rintro e w_z ⟨rfl,hh⟩
     replace hb:=Qai hb hh))
 go_ret;exact ⟨rfl,hb⟩
theorem QlA {A:Option Addr} {n c:Nat} {L:List PV} {l:List LV} {ax ay:Rat} (hL:SV w A (pvs L)) (hn:L.length=n) (hnc:n≤c) (hE:EachL w L l) (ho:∀ q ∈ l,q.ok) (hz:∀ p ∈ L,p.Nils) (a:PR w s_a A_a n_a c_a B_a m_a d_a t_a E_a i_a e_a F_a j_a f_a ax ay 6) (h:n≤12) (h2:∀ q ∈ L,q.small 4) (h3:(((n_a≤6∧m_a≤6)∧i_a≤6∧j_a≤6))) (h0:0 < n) (RC RH:Bool) (hRC:RC=true ↔ QeP (l.map LV.val)) (hRH:RH=true ↔ Qn6 (l.map LV.val) ax ay) :
 Calls Tryz.prog 3 #[.slice A n c,.agg #[.bool s_a,.slice A_a n_a c_a,.slice B_a m_a d_a,.bool t_a,.slice E_a i_a e_a,.slice F_a j_a f_a]] w fun e w'=>e=.returned (.bool true)∧Below w.heap.size w w':=by
 have H12:Hid ((12:Int)=((12:Nat):Int)):=rfl
 have HL:Hid (decide (((n_a≤6∧m_a≤6)∧i_a≤6∧j_a≤6))=true):=decide_eq_true h3
 clear h3
 have HNl:Hid (l.length=n):=hE.1.symm.trans hn
 have HN:=Lib.hid hn;have H0:=Lib.hid h0;have H1:=Lib.hid h;have H2:=Lib.hid h2;have HO:=Lib.hid ho;have HNc:=Lib.hid hnc;have HZ:=Lib.hid hz;have S9:=Lib.hid hL;have E9:=Lib.hid hE
 have P9:Hid (Each PV.PR w L (l.map LV.val) 4):=hE.pr ho
 have A9:=Lib.hid a;have RC9:=Lib.hid hRC;have RH9:=Lib.hid hRH
 have HNv:Hid ((l.map LV.val).length=n):=by show _=_;rw [List.length_map];exact HNl.out
 have HEQ:Hid (Qhu (l.map LV.val)=Qgw (Qas (l.map LV.val)) n*Rat.divInt 1 2):=by show _=_;have:=Qhd (l.map LV.val);rw [HNv.out] at this;exact this.symm
 have HB0:Hid (n*(4+4+(4+4)+1+2)+2≤400):=by show _≤_;omega
 have HB1:Hid (n*(4+4+(4+4)+1+2)+1+1≤100000):=by show _≤_;omega
 have HB2:Hid (2+n*(2*4+2*4+(2*4+2*4)+2)≤9000):=by show _≤_;omega
 have HB3:Hid (2+n*(2*4+2*4+(2*4+2*4)+2)+2≤100000):=by show _≤_;omega
 have H1k:Hid (n≤1000):=Nat.le_trans h (by decide)
 clear hL hE ho hz a h h2 hn hnc h0 hRC hRH
 go_enter Tryz.func3,Tryz.ntmps3
 go_upto_region 1 with (fail)
 generalize hW:World.alloc _ _=W
 obtain ⟨hb,XA,hzW⟩:=Qaw hW;clear hW
 go_upto_region 3 with (first
  | (go_at_call 5;(with_reducible refine (Qhq H12.out (S9.out.below hb) HN.out (by decide) HNc.out H1.out H2.out).mono ?_);rintro e w_z ⟨rfl,hh⟩
     (try replace XA:=XA.below hh);replace hb:=Qai hb hh;obtain ⟨xa0,xa1,xa2,xa3,xa4,xa5⟩:=XA.all
     have ha:Below w_z.heap.size w_z (w_z.alloc (.cells #[.bool s_a,.slice A_a n_a c_a,.slice B_a m_a d_a,.bool t_a,.slice E_a i_a e_a,.slice F_a j_a f_a] 29)):=(Below.refl _ _).alloc (Nat.le_refl _) _
     have XL:=BL1.new' w_z (.bool s_a) (.slice A_a n_a c_a) (.slice B_a m_a d_a) (.bool t_a) (.slice E_a i_a e_a) (.slice F_a j_a f_a) _ rfl
     replace XA:=XA.below ha;replace hb:=Qai hb ha;clear ha)
  | (go_at_call 6;(with_reducible refine (Qrd XL true HL.out).mono ?_);rintro e w_y ⟨rfl,hh⟩
     (try replace XA:=XA.below hh);replace hb:=Qai hb hh;clear XL xa0 xa1 xa2 xa3 xa4 xa5))
 go_upto_region 5 with (first
  | (go_at_call 8;(with_reducible refine (rins (S9.out.below hb) (Each.belowP P9.out hb) HN.out H1k.out (by decide) (by decide)).mono ?_);rintro e w_s ⟨v_s,Ls,rfl,sL,sE,hh⟩
     obtain ⟨A_s,c_s,rfl,_,_⟩:=sL.form
     have sN:Ls.length=n:=by have:=sE.1;rw [HNv.out] at this;exact this
     rw [sN] at sL ⊢
     have HsN:=Lib.hid sN;clear sN;replace sE:=Lib.hid sE;replace XA:=XA.below hh;replace hb:=Qai hb hh)
  | (go_at_call 9;(with_reducible refine (klinL (S9.out.below hb) (E9.out.below hb) HZ.out (Qkk H2.out) HN.out H1k.out).mono ?_);rintro e w_i ⟨v_i,Li,rfl,iL,iE,hh⟩
     obtain ⟨A_i,c_i,rfl,hci,hzi⟩:=iL.form
     have hLi:Li.length=n:=iE.1.trans HNl.out
     rw [hLi] at iL hci ⊢
     have HLi:=Lib.hid hLi;have HCi:=Lib.hid hci;clear hzi hLi hci;replace iE:=Lib.hid iE;replace sL:=sL.below hh
     replace sE:=Lib.hid (Each.belowR sE.out hh)
     replace XA:=XA.below hh;replace hb:=Qai hb hh))
 go_upto_region 6 with (first
  | (go_at_call 10;(with_reducible refine (box_p (Ln.sv iL) (iE.out.pr HO.out) HLi.out H0.out H1k.out HCi.out (by decide) (by decide)).mono ?_);rintro e w_x ⟨x0,y0,x1,y1,P,Q,hBX,rfl,bp,bq,hh⟩
     replace iL:=iL.below hh;replace sL:=sL.below hh;replace XA:=XA.below hh
     replace iE:=Lib.hid (EachL.below iE.out hh)
     replace sE:=Lib.hid (Each.belowR sE.out hh)
     replace hb:=Qai hb hh))
 obtain ⟨s_p,A_p,n_p,c_p,B_p,m_p,d_p,t_p,E_p,i_p,e_p,F_p,j_p,f_p⟩:=P
 obtain ⟨s_q,A_q,n_q,c_q,B_q,m_q,d_q,t_q,E_q,i_q,e_q,F_q,j_q,f_q⟩:=Q
 replace bp:PG w_x s_p A_p n_p c_p B_p m_p d_p t_p E_p i_p e_p F_p j_p f_p x0 y0 (4+1+1):=bp
 replace bq:PG w_x s_q A_q n_q c_q B_q m_q d_q t_q E_q i_q e_q F_q j_q f_q x1 y1 (4+1+1):=bq
 have HBX:=Lib.hid hBX;clear hBX
 generalize hW:World.alloc _ _=W5
 obtain ⟨hh,XP,XQ,hzW5⟩:=QaF hW;clear hW;(try replace iL:=iL.below hh);(try replace sL:=sL.below hh);(try replace XA:=XA.below hh);(try replace bp:=bp.below hh);(try replace bq:=bq.below hh);replace hb:=Qai hb hh
 replace iE:=Lib.hid (EachL.below iE.out hh)
 replace sE:=Lib.hid (Each.belowR sE.out hh)
 clear hh
 go_upto_region 7 with (first
  | (go_at_call 11;(with_reducible refine (rbox8 (Ln.sv sL) sE.out HsN.out H0.out H1k.out (by decide)).mono ?_);rintro e w_r ⟨u0,v0,u1,v1,R,T,hBR,rfl,br,bt,hh⟩
     replace iL:=iL.below hh;replace sL:=sL.below hh;replace XA:=XA.below hh;replace XP:=XP.below hh;replace XQ:=XQ.below hh;replace bp:=bp.below hh;replace bq:=bq.below hh
     replace iE:=Lib.hid (EachL.below iE.out hh)
     replace sE:=Lib.hid (Each.belowR sE.out hh)
     replace hb:=Qai hb hh))
 obtain ⟨s_r,A_r,n_r,c_r,B_r,m_r,d_r,t_r,E_r,i_r,e_r,F_r,j_r,f_r⟩:=R
 obtain ⟨s_t,A_t,n_t,c_t,B_t,m_t,d_t,t_t,E_t,i_t,e_t,F_t,j_t,f_t⟩:=T
 replace br:RP w_r s_r A_r n_r c_r B_r m_r d_r t_r E_r i_r e_r F_r j_r f_r u0 v0 (2*4):=br
 replace bt:RP w_r s_t A_t n_t c_t B_t m_t d_t t_t E_t i_t e_t F_t j_t f_t u1 v1 (2*4):=bt
 have hUN:=Qlv HBX.out (BoxTo.all (by rw [HNv.out];exact hBR))
 have HX0:=Lib.hid hUN.1;have HX1:=Lib.hid hUN.2.1;have HX2:=Lib.hid hUN.2.2.1;have HX3:=Lib.hid hUN.2.2.2;clear hUN hBR
 generalize hW:World.alloc _ _=W6
 obtain ⟨hh,XC,hzW6⟩:=Qdm hW;clear hW;(try replace iL:=iL.below hh);(try replace sL:=sL.below hh);(try replace XA:=XA.below hh);(try replace XP:=XP.below hh);(try replace XQ:=XQ.below hh);(try replace bp:=bp.below hh);(try replace bq:=bq.below hh);(try replace br:=br.below hh);(try replace bt:=bt.below hh);replace hb:=Qai hb hh
 replace iE:=Lib.hid (EachL.below iE.out hh)
 replace sE:=Lib.hid (Each.belowR sE.out hh)
 clear hh;obtain ⟨xp0,xp1,xp2,xp3,xp4,xp5⟩:=XP.all;obtain ⟨xq0,xq1,xq2,xq3,xq4,xq5⟩:=XQ.all;obtain ⟨xc0,xc1,xc2,xc3,xc4,xc5,xc6,xc7,xc8,xc9,xc10,xc11,xc12⟩:=XC.all
 go_upto_region 9 with (first
  | (go_at_call 12;(with_reducible refine (QpX bp br HX0.out HX1.out (by decide) (by decide)).mono ?_);rintro e w_m ⟨rfl,hh⟩
     replace iL:=iL.below hh;replace sL:=sL.below hh;replace XA:=XA.below hh;replace XP:=XP.below hh;replace XQ:=XQ.below hh;replace XC:=XC.below hh;replace bq:=bq.below hh;replace bt:=bt.below hh
     replace iE:=Lib.hid (EachL.below iE.out hh)
     replace sE:=Lib.hid (Each.belowR sE.out hh)
     replace hb:=Qai hb hh;obtain ⟨xp0,xp1,xp2,xp3,xp4,xp5⟩:=XP.all;obtain ⟨xq0,xq1,xq2,xq3,xq4,xq5⟩:=XQ.all;obtain ⟨xc0,xc1,xc2,xc3,xc4,xc5,xc6,xc7,xc8,xc9,xc10,xc11,xc12⟩:=XC.all)
  | (go_at_call 12;(with_reducible refine (QpX bq bt HX2.out HX3.out (by decide) (by decide)).mono ?_);rintro e w_o ⟨rfl,hh⟩
     replace iL:=iL.below hh;replace sL:=sL.below hh;replace XA:=XA.below hh
     replace iE:=Lib.hid (EachL.below iE.out hh)
     replace sE:=Lib.hid (Each.belowR sE.out hh)
     replace hb:=Qai hb hh))
 clear XP XQ XC bp bq br bt xp0 xp1 xp2 xp3 xp4 xp5 xq0 xq1 xq2 xq3 xq4 xq5 xc0 xc1 xc2 xc3 xc4 xc5 xc6 xc7 xc8 xc9 xc10 xc11 xc12
 replace iL:=iL.below (Below.refl _ _).drew
 replace sL:=sL.below (Below.refl _ _).drew
 replace XA:=XA.below (Below.refl _ _).drew
 replace iE:=Lib.hid (EachL.below iE.out (Below.refl _ _).drew)
 replace sE:=Lib.hid (Each.belowR sE.out (Below.refl _ _).drew)
 replace hb:=hb.drew
 go_region_held3 (fun w'=>w'.cell? ⟨w.heap.size,0,none⟩=some (.bool s_a)∧w'.cell? ⟨w.heap.size,1,none⟩=some (.slice A_a n_a c_a)∧w'.cell? ⟨w.heap.size,2,none⟩=some (.slice B_a m_a d_a)∧w'.cell? ⟨w.heap.size,3,none⟩=some (.bool t_a)∧w'.cell? ⟨w.heap.size,4,none⟩=some (.slice E_a i_a e_a)∧w'.cell? ⟨w.heap.size,5,none⟩=some (.slice F_a j_a f_a))
  (first | with_reducible exact ⟨XA.c0,XA.c1,XA.c2,XA.c3,XA.c4,XA.c5⟩)
  (first
  | (go_at_call 14;(with_reducible refine (QkJ (Ln.sv iL) (iE.out.pr HO.out) HLi.out H1k.out HCi.out (by decide) (by decide) HB0.out).mono ?_);rintro e w_u ⟨s_u,A_u,n_u,c_u,B_u,m_u,d_u,rfl,u,hh⟩
     (try replace iL:=iL.below hh);(try replace sL:=sL.below hh);(try replace XA:=XA.below hh);(try replace u:=u.below hh);(try replace v:=v.below hh);(try replace g:=g.below hh)
     replace iE:=Lib.hid (EachL.below iE.out hh)
     replace sE:=Lib.hid (Each.belowR sE.out hh)
     replace hb:=Qai hb hh)
  | (go_at_call 15;(with_reducible refine (QpL (Ln.sv sL) sE.out HsN.out H1k.out (by decide) HB2.out).mono ?_);rintro e w_v ⟨s_v,A_v,n_v,c_v,B_v,m_v,d_v,rfl,v,hh⟩
     (try replace iL:=iL.below hh);(try replace sL:=sL.below hh);(try replace XA:=XA.below hh);(try replace u:=u.below hh);(try replace v:=v.below hh);(try replace g:=g.below hh)
     replace iE:=Lib.hid (EachL.below iE.out hh)
     replace sE:=Lib.hid (Each.belowR sE.out hh)
     replace hb:=Qai hb hh)
  | (go_at_call 13;(with_reducible refine (same3 u v HEQ.out HB1.out HB3.out).mono ?_);rintro e w_c ⟨rfl,hh⟩
     (try replace iL:=iL.below hh);(try replace sL:=sL.below hh);(try replace XA:=XA.below hh);(try replace u:=u.below hh);(try replace v:=v.below hh);(try replace g:=g.below hh)
     replace iE:=Lib.hid (EachL.below iE.out hh)
     replace sE:=Lib.hid (Each.belowR sE.out hh)
     replace hb:=Qai hb hh;clear u v)
  | (go_at_call 16;(with_reducible refine (Qht (Ln.sv iL) (iE.out.pr HO.out) HLi.out H1k.out HCi.out (by decide) (by decide) RC RC9.out).mono ?_);rintro e w_d ⟨rfl,hh⟩
     (try replace iL:=iL.below hh);(try replace sL:=sL.below hh);(try replace XA:=XA.below hh);(try replace u:=u.below hh);(try replace v:=v.below hh);(try replace g:=g.below hh)
     replace iE:=Lib.hid (EachL.below iE.out hh)
     replace sE:=Lib.hid (Each.belowR sE.out hh)
     replace hb:=Qai hb hh)
  | (go_at_call 17;(with_reducible refine (QpE (Ln.sv sL) sE.out HsN.out H1k.out (by decide) RC RC9.out).mono ?_);rintro e w_e ⟨rfl,hh⟩
     (try replace iL:=iL.below hh);(try replace sL:=sL.below hh);(try replace XA:=XA.below hh);(try replace u:=u.below hh);(try replace v:=v.below hh);(try replace g:=g.below hh)
     replace iE:=Lib.hid (EachL.below iE.out hh)
     replace sE:=Lib.hid (Each.belowR sE.out hh)
     replace hb:=Qai hb hh)
  | (go_at_call 18;(with_reducible refine (QoK (Ln.sv iL) (Each.more4 (iE.out.pr HO.out) (show 4≤6 by decide)) (PR.below A9.out hb) HLi.out H1k.out HCi.out (by decide) (by decide) RH RH9.out).mono ?_);rintro e w_f ⟨rfl,hh⟩
     (try replace iL:=iL.below hh);(try replace sL:=sL.below hh);(try replace XA:=XA.below hh);(try replace u:=u.below hh);(try replace v:=v.below hh);(try replace g:=g.below hh)
     replace iE:=Lib.hid (EachL.below iE.out hh)
     replace sE:=Lib.hid (Each.belowR sE.out hh)
     replace hb:=Qai hb hh)
  | (go_at_call 20;(with_reducible refine (rin6 (PR.below A9.out hb) (by decide) (by decide)).mono ?_);rintro e w_g ⟨s_g,A_g,n_g,c_g,B_g,m_g,d_g,t_g,E_g,i_g,e_g,F_g,j_g,f_g,rfl,g,hh⟩
     (try replace iL:=iL.below hh);(try replace sL:=sL.below hh);(try replace XA:=XA.below hh);(try replace u:=u.below hh);(try replace v:=v.below hh);(try replace g:=g.below hh)
     replace iE:=Lib.hid (EachL.below iE.out hh)
     replace sE:=Lib.hid (Each.belowR sE.out hh)
     replace hb:=Qai hb hh)
  | (go_at_call 19;(with_reducible refine (rhas8 (Ln.sv sL) (Each.more8 sE.out (show 2*4≤2*6 by decide)) g HsN.out H1k.out (by decide) RH RH9.out).mono ?_);rintro e w_h ⟨rfl,hh⟩
     (try replace iL:=iL.below hh);(try replace sL:=sL.below hh);(try replace XA:=XA.below hh);(try replace u:=u.below hh);(try replace v:=v.below hh);(try replace g:=g.below hh)
     replace iE:=Lib.hid (EachL.below iE.out hh)
     replace sE:=Lib.hid (Each.belowR sE.out hh)
     replace hb:=Qai hb hh;clear g)
  | (go_at_call 21;(with_reducible refine (QgZ (Ln.sv iL) (S9.out.below hb) iE.out (E9.out.below hb) (EachL.small iE.out HO.out) HLi.out H1k.out).mono ?_);rintro e w_j ⟨rfl,hh⟩
     (try replace iL:=iL.below hh);(try replace sL:=sL.below hh);(try replace XA:=XA.below hh);(try replace u:=u.below hh);(try replace v:=v.below hh);(try replace g:=g.below hh)
     replace iE:=Lib.hid (EachL.below iE.out hh)
     replace sE:=Lib.hid (Each.belowR sE.out hh)
     replace hb:=Qai hb hh)
  | (go_at_call 7;(with_reducible refine (QbR _).mono ?_);rintro e w_k ⟨rfl,hh⟩
     (try replace iL:=iL.below hh);(try replace sL:=sL.below hh);(try replace XA:=XA.below hh);(try replace u:=u.below hh);(try replace v:=v.below hh);(try replace g:=g.below hh)
     replace iE:=Lib.hid (EachL.below iE.out hh)
     replace sE:=Lib.hid (Each.belowR sE.out hh)
     replace hb:=Qai hb hh))
 go_wp2_with fail
 go_ret;exact ⟨rfl,hb⟩
theorem QlE {A:Option Addr} {n c:Nat} {L:List PV} {l:List LV} {ax ay:Rat} (hL:SV w A (pvs L)) (hn:L.length=n) (hnc:n≤c) (hE:EachL w L l) (ho:∀ q ∈ l,q.ok) (hz:∀ p ∈ L,p.Nils) (a:PR w s_a A_a n_a c_a B_a m_a d_a t_a E_a i_a e_a F_a j_a f_a ax ay 6) (h:n≤12) (h2:∀ q ∈ L,q.small 4) (h3:(((n_a≤6∧m_a≤6)∧i_a≤6∧j_a≤6))) (h0:n=0) (RC RH:Bool) (hRC:RC=true ↔ QeP (l.map LV.val)) (hRH:RH=true ↔ Qn6 (l.map LV.val) ax ay) :
 Calls Tryz.prog 3 #[.slice A n c,.agg #[.bool s_a,.slice A_a n_a c_a,.slice B_a m_a d_a,.bool t_a,.slice E_a i_a e_a,.slice F_a j_a f_a]] w fun e w'=>e=.returned (.bool true)∧Below w.heap.size w w':=by
 have H12:Hid ((12:Int)=((12:Nat):Int)):=rfl
 have HL:Hid (decide (((n_a≤6∧m_a≤6)∧i_a≤6∧j_a≤6))=true):=decide_eq_true h3
 clear h3
 subst h0
 have HNl:Hid (l.length=0):=hE.1.symm.trans hn
 have HN:=Lib.hid hn;have H1:=Lib.hid h;have H2:=Lib.hid h2;have HO:=Lib.hid ho;have HNc:=Lib.hid hnc;have HZ:=Lib.hid hz;have S9:=Lib.hid hL;have E9:=Lib.hid hE
 have P9:Hid (Each PV.PR w L (l.map LV.val) 4):=hE.pr ho
 have A9:=Lib.hid a;have RC9:=Lib.hid hRC;have RH9:=Lib.hid hRH
 have HNv:Hid ((l.map LV.val).length=0):=by show _=_;rw [List.length_map];exact HNl.out
 have HEQ:Hid (Qhu (l.map LV.val)=Qgw (Qas (l.map LV.val)) 0*Rat.divInt 1 2):=by show _=_;have:=Qhd (l.map LV.val);rw [HNv.out] at this;exact this.symm
 have HB0:Hid (0*(4+4+(4+4)+1+2)+2≤400):=by show _≤_;omega
 have HB1:Hid (0*(4+4+(4+4)+1+2)+1+1≤100000):=by show _≤_;omega
 have HB2:Hid (2+0*(2*4+2*4+(2*4+2*4)+2)≤9000):=by show _≤_;omega
 have HB3:Hid (2+0*(2*4+2*4+(2*4+2*4)+2)+2≤100000):=by show _≤_;omega
 have H1k:Hid (0≤1000):=Nat.le_trans h (by decide)
 clear hL hE ho hz a h h2 hn hnc hRC hRH
 go_enter Tryz.func3,Tryz.ntmps3
 go_upto_region 1 with (fail)
 generalize hW:World.alloc _ _=W
 obtain ⟨hb,XA,hzW⟩:=Qaw hW;clear hW
 go_upto_region 3 with (first
  | (go_at_call 5;(with_reducible refine (Qhq H12.out (S9.out.below hb) HN.out (by decide) HNc.out H1.out H2.out).mono ?_);rintro e w_z ⟨rfl,hh⟩
     (try replace XA:=XA.below hh);replace hb:=Qai hb hh;obtain ⟨xa0,xa1,xa2,xa3,xa4,xa5⟩:=XA.all
     have ha:Below w_z.heap.size w_z (w_z.alloc (.cells #[.bool s_a,.slice A_a n_a c_a,.slice B_a m_a d_a,.bool t_a,.slice E_a i_a e_a,.slice F_a j_a f_a] 29)):=(Below.refl _ _).alloc (Nat.le_refl _) _
     have XL:=BL1.new' w_z (.bool s_a) (.slice A_a n_a c_a) (.slice B_a m_a d_a) (.bool t_a) (.slice E_a i_a e_a) (.slice F_a j_a f_a) _ rfl
     replace XA:=XA.below ha;replace hb:=Qai hb ha;clear ha)
  | (go_at_call 6;(with_reducible refine (Qrd XL true HL.out).mono ?_);rintro e w_y ⟨rfl,hh⟩
     (try replace XA:=XA.below hh);replace hb:=Qai hb hh;clear XL xa0 xa1 xa2 xa3 xa4 xa5))
 go_upto_region 5 with (first
  | (go_at_call 8;(with_reducible refine (rins (S9.out.below hb) (Each.belowP P9.out hb) HN.out H1k.out (by decide) (by decide)).mono ?_);rintro e w_s ⟨v_s,Ls,rfl,sL,sE,hh⟩
     obtain ⟨A_s,c_s,rfl,_,_⟩:=sL.form
     have sN:Ls.length=0:=by have:=sE.1;rw [HNv.out] at this;exact this
     rw [sN] at sL ⊢
     have HsN:=Lib.hid sN;clear sN;replace sE:=Lib.hid sE;replace XA:=XA.below hh;replace hb:=Qai hb hh)
  | (go_at_call 9;(with_reducible refine (klinL (S9.out.below hb) (E9.out.below hb) HZ.out (Qkk H2.out) HN.out H1k.out).mono ?_);rintro e w_i ⟨v_i,Li,rfl,iL,iE,hh⟩
     obtain ⟨A_i,c_i,rfl,hci,hzi⟩:=iL.form
     have hLi:Li.length=0:=iE.1.trans HNl.out
     rw [hLi] at iL hci ⊢
     have HLi:=Lib.hid hLi;have HCi:=Lib.hid hci;clear hzi hLi hci;replace iE:=Lib.hid iE;replace sL:=sL.below hh
     replace sE:=Lib.hid (Each.belowR sE.out hh)
     replace XA:=XA.below hh;replace hb:=Qai hb hh))
 go_upto_region 6 with (first
  | (go_at_call 10;(with_reducible refine (Qn9).mono ?_);rintro e w_x ⟨rfl,hh⟩
     replace iL:=iL.below hh;replace sL:=sL.below hh;replace XA:=XA.below hh
     replace iE:=Lib.hid (EachL.below iE.out hh)
     replace sE:=Lib.hid (Each.belowR sE.out hh)
     replace hb:=Qai hb hh))
 generalize hW:World.alloc _ _=W5
 obtain ⟨hh,XP,XQ,hzW5⟩:=QaF hW;clear hW;(try replace iL:=iL.below hh);(try replace sL:=sL.below hh);(try replace XA:=XA.below hh);replace hb:=Qai hb hh
 replace iE:=Lib.hid (EachL.below iE.out hh)
 replace sE:=Lib.hid (Each.belowR sE.out hh)
 clear hh
 go_upto_region 7 with (first
  | (go_at_call 11;(with_reducible refine (Qle).mono ?_);rintro e w_r ⟨rfl,hh⟩
     replace iL:=iL.below hh;replace sL:=sL.below hh;replace XA:=XA.below hh;replace XP:=XP.below hh;replace XQ:=XQ.below hh
     replace iE:=Lib.hid (EachL.below iE.out hh)
     replace sE:=Lib.hid (Each.belowR sE.out hh)
     replace hb:=Qai hb hh))
 generalize hW:World.alloc _ _=W6
 obtain ⟨hh,XC,hzW6⟩:=Qdm hW;clear hW;(try replace iL:=iL.below hh);(try replace sL:=sL.below hh);(try replace XA:=XA.below hh);(try replace XP:=XP.below hh);(try replace XQ:=XQ.below hh);replace hb:=Qai hb hh
 replace iE:=Lib.hid (EachL.below iE.out hh)
 replace sE:=Lib.hid (Each.belowR sE.out hh)
 clear hh;obtain ⟨xp0,xp1,xp2,xp3,xp4,xp5⟩:=XP.all;obtain ⟨xq0,xq1,xq2,xq3,xq4,xq5⟩:=XQ.all;obtain ⟨xc0,xc1,xc2,xc3,xc4,xc5,xc6,xc7,xc8,xc9,xc10,xc11,xc12⟩:=XC.all
 go_upto_region 9 with (fail)
 clear XP XQ XC xp0 xp1 xp2 xp3 xp4 xp5 xq0 xq1 xq2 xq3 xq4 xq5 xc0 xc1 xc2 xc3 xc4 xc5 xc6 xc7 xc8 xc9 xc10 xc11 xc12
 replace iL:=iL.below (Below.refl _ _).drew
 replace sL:=sL.below (Below.refl _ _).drew
 replace XA:=XA.below (Below.refl _ _).drew
 replace iE:=Lib.hid (EachL.below iE.out (Below.refl _ _).drew)
 replace sE:=Lib.hid (Each.belowR sE.out (Below.refl _ _).drew)
 replace hb:=hb.drew
 go_region_held3 (fun w'=>w'.cell? ⟨w.heap.size,0,none⟩=some (.bool s_a)∧w'.cell? ⟨w.heap.size,1,none⟩=some (.slice A_a n_a c_a)∧w'.cell? ⟨w.heap.size,2,none⟩=some (.slice B_a m_a d_a)∧w'.cell? ⟨w.heap.size,3,none⟩=some (.bool t_a)∧w'.cell? ⟨w.heap.size,4,none⟩=some (.slice E_a i_a e_a)∧w'.cell? ⟨w.heap.size,5,none⟩=some (.slice F_a j_a f_a))
  (first | with_reducible exact ⟨XA.c0,XA.c1,XA.c2,XA.c3,XA.c4,XA.c5⟩)
  (first
  | (go_at_call 14;(with_reducible refine (QkJ (Ln.sv iL) (iE.out.pr HO.out) HLi.out H1k.out HCi.out (by decide) (by decide) HB0.out).mono ?_);rintro e w_u ⟨s_u,A_u,n_u,c_u,B_u,m_u,d_u,rfl,u,hh⟩
     (try replace iL:=iL.below hh);(try replace sL:=sL.below hh);(try replace XA:=XA.below hh);(try replace u:=u.below hh);(try replace v:=v.below hh);(try replace g:=g.below hh)
     replace iE:=Lib.hid (EachL.below iE.out hh)
     replace sE:=Lib.hid (Each.belowR sE.out hh)
     replace hb:=Qai hb hh)
  | (go_at_call 15;(with_reducible refine (QpL (Ln.sv sL) sE.out HsN.out H1k.out (by decide) HB2.out).mono ?_);rintro e w_v ⟨s_v,A_v,n_v,c_v,B_v,m_v,d_v,rfl,v,hh⟩
     (try replace iL:=iL.below hh);(try replace sL:=sL.below hh);(try replace XA:=XA.below hh);(try replace u:=u.below hh);(try replace v:=v.below hh);(try replace g:=g.below hh)
     replace iE:=Lib.hid (EachL.below iE.out hh)
     replace sE:=Lib.hid (Each.belowR sE.out hh)
     replace hb:=Qai hb hh)
  | (go_at_call 13;(with_reducible refine (same3 u v HEQ.out HB1.out HB3.out).mono ?_);rintro e w_c ⟨rfl,hh⟩
     (try replace iL:=iL.below hh);(try replace sL:=sL.below hh);(try replace XA:=XA.below hh);(try replace u:=u.below hh);(try replace v:=v.below hh);(try replace g:=g.below hh)
     replace iE:=Lib.hid (EachL.below iE.out hh)
     replace sE:=Lib.hid (Each.belowR sE.out hh)
     replace hb:=Qai hb hh;clear u v)
  | (go_at_call 16;(with_reducible refine (Qht (Ln.sv iL) (iE.out.pr HO.out) HLi.out H1k.out HCi.out (by decide) (by decide) RC RC9.out).mono ?_);rintro e w_d ⟨rfl,hh⟩
     (try replace iL:=iL.below hh);(try replace sL:=sL.below hh);(try replace XA:=XA.below hh);(try replace u:=u.below hh);(try replace v:=v.below hh);(try replace g:=g.below hh)
     replace iE:=Lib.hid (EachL.below iE.out hh)
     replace sE:=Lib.hid (Each.belowR sE.out hh)
     replace hb:=Qai hb hh)
  | (go_at_call 17;(with_reducible refine (QpE (Ln.sv sL) sE.out HsN.out H1k.out (by decide) RC RC9.out).mono ?_);rintro e w_e ⟨rfl,hh⟩
     (try replace iL:=iL.below hh);(try replace sL:=sL.below hh);(try replace XA:=XA.below hh);(try replace u:=u.below hh);(try replace v:=v.below hh);(try replace g:=g.below hh)
     replace iE:=Lib.hid (EachL.below iE.out hh)
     replace sE:=Lib.hid (Each.belowR sE.out hh)
     replace hb:=Qai hb hh)
  | (go_at_call 18;(with_reducible refine (QoK (Ln.sv iL) (Each.more4 (iE.out.pr HO.out) (show 4≤6 by decide)) (PR.below A9.out hb) HLi.out H1k.out HCi.out (by decide) (by decide) RH RH9.out).mono ?_);rintro e w_f ⟨rfl,hh⟩
     (try replace iL:=iL.below hh);(try replace sL:=sL.below hh);(try replace XA:=XA.below hh);(try replace u:=u.below hh);(try replace v:=v.below hh);(try replace g:=g.below hh)
     replace iE:=Lib.hid (EachL.below iE.out hh)
     replace sE:=Lib.hid (Each.belowR sE.out hh)
     replace hb:=Qai hb hh)
  | (go_at_call 20;(with_reducible refine (rin6 (PR.below A9.out hb) (by decide) (by decide)).mono ?_);rintro e w_g ⟨s_g,A_g,n_g,c_g,B_g,m_g,d_g,t_g,E_g,i_g,e_g,F_g,j_g,f_g,rfl,g,hh⟩
     (try replace iL:=iL.below hh);(try replace sL:=sL.below hh);(try replace XA:=XA.below hh);(try replace u:=u.below hh);(try replace v:=v.below hh);(try replace g:=g.below hh)
     replace iE:=Lib.hid (EachL.below iE.out hh)
     replace sE:=Lib.hid (Each.belowR sE.out hh)
     replace hb:=Qai hb hh)
  | (go_at_call 19;(with_reducible refine (rhas8 (Ln.sv sL) (Each.more8 sE.out (show 2*4≤2*6 by decide)) g HsN.out H1k.out (by decide) RH RH9.out).mono ?_);rintro e w_h ⟨rfl,hh⟩
     (try replace iL:=iL.below hh);(try replace sL:=sL.below hh);(try replace XA:=XA.below hh);(try replace u:=u.below hh);(try replace v:=v.below hh);(try replace g:=g.below hh)
     replace iE:=Lib.hid (EachL.below iE.out hh)
     replace sE:=Lib.hid (Each.belowR sE.out hh)
     replace hb:=Qai hb hh;clear g)
  | (go_at_call 21;(with_reducible refine (QgZ (Ln.sv iL) (S9.out.below hb) iE.out (E9.out.below hb) (EachL.small iE.out HO.out) HLi.out H1k.out).mono ?_);rintro e w_j ⟨rfl,hh⟩
     (try replace iL:=iL.below hh);(try replace sL:=sL.below hh);(try replace XA:=XA.below hh);(try replace u:=u.below hh);(try replace v:=v.below hh);(try replace g:=g.below hh)
     replace iE:=Lib.hid (EachL.below iE.out hh)
     replace sE:=Lib.hid (Each.belowR sE.out hh)
     replace hb:=Qai hb hh)
  | (go_at_call 7;(with_reducible refine (QbR _).mono ?_);rintro e w_k ⟨rfl,hh⟩
     (try replace iL:=iL.below hh);(try replace sL:=sL.below hh);(try replace XA:=XA.below hh);(try replace u:=u.below hh);(try replace v:=v.below hh);(try replace g:=g.below hh)
     replace iE:=Lib.hid (EachL.below iE.out hh)
     replace sE:=Lib.hid (Each.belowR sE.out hh)
     replace hb:=Qai hb hh))
 go_wp2_with fail
 go_ret;exact ⟨rfl,hb⟩
theorem Qmu {A:Option Addr} {n c:Nat} {L:List PV} {laa lba lca lda:List Nat} (hL:SV w A (pvs L)) (hn:L.length=n) (hnc:n≤c) (hR:∀ q ∈ L,q.Raw w) (aa:Rd .u64 w A_a n_a laa) (ba:Rd .u64 w B_a m_a lba) (ua:Rd .u64 w E_a i_a lca) (va:Rd .u64 w F_a j_a lda) (taa:Lim B64 laa) (tba:Lim B64 lba) (tca:Lim B64 lca) (tda:Lim B64 lda) (caa:n_a≤c_a) (cba:m_a≤d_a) (cca:i_a≤e_a) (cda:j_a≤f_a) :
 Calls Tryz.prog 3 #[.slice A n c,.agg #[.bool s_a,.slice A_a n_a c_a,.slice B_a m_a d_a,.bool t_a,.slice E_a i_a e_a,.slice F_a j_a f_a]] w fun e w'=>e=.returned (.bool true)∧Below w.heap.size w w':=by
 by_cases h:n≤12
 · by_cases h2:∀ q ∈ L,q.small 4
   · by_cases h3:(((n_a≤6∧m_a≤6)∧i_a≤6∧j_a≤6))
     · obtain ⟨l,hE,ho,hz⟩:=Qis hR h2
       have a:PR w s_a A_a n_a c_a B_a m_a d_a t_a E_a i_a e_a F_a j_a f_a (mkRat (iv s_a (val B64 laa)) (QaY (val B64 lba))) (mkRat (iv t_a (val B64 lca)) (QaY (val B64 lda))) 6:=⟨QR.of_rd aa taa caa ba tba cba h3.1.1 h3.1.2,QR.of_rd ua tca cca va tda cda h3.2.1 h3.2.2⟩
       obtain ⟨RC,hRC⟩:=Qmw (QeP (l.map LV.val))
       obtain ⟨RH,hRH⟩:=Qmw (Qn6 (l.map LV.val) (mkRat (iv s_a (val B64 laa)) (QaY (val B64 lba))) (mkRat (iv t_a (val B64 lca)) (QaY (val B64 lda))))
       rcases Nat.eq_zero_or_pos n with h0 | h0
       · exact QlE hL hn hnc hE ho hz a h h2 h3 h0 RC RH hRC hRH
       · exact QlA hL hn hnc hE ho hz a h h2 h3 h0 RC RH hRC hRH
     · exact QrH hL hn hnc h h2 h3
   · exact Qrl hL hn hnc h h2
 · exact QqO hL hn hnc h
end
end Go.Proofs.YtgfcofecdhodcaaGreat
