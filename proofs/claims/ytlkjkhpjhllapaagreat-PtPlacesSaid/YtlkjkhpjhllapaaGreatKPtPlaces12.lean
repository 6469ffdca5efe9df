/- PtPlaces: part 12. -/
import Derived.Test.YtlkjkhpjhllapaaGreatKPtPlaces11
set_option linter.unusedVariables false
namespace Go.Proofs.YtlkjkhpjhllapaaGreat
open Go Go.RowKit
def B6 (W : World) (g : Nat) (x y z u v t : Value) : Prop := W.heap[g]? = some (.cells #[x, y, z, u, v, t] 83 (0, 0))
section
variable {W W' : World} {g : Nat} {x y z u v t : Value}
theorem B6.c0 (h : B6 W g x y z u v t) : W.cell? ⟨g, 0, none⟩ = some x := by rw [cell_of_row W g 0 _ _ (0, 0) h]; rfl
theorem B6.c1 (h : B6 W g x y z u v t) : W.cell? ⟨g, 1, none⟩ = some y := by rw [cell_of_row W g 1 _ _ (0, 0) h]; rfl
theorem B6.c2 (h : B6 W g x y z u v t) : W.cell? ⟨g, 2, none⟩ = some z := by rw [cell_of_row W g 2 _ _ (0, 0) h]; rfl
theorem B6.c3 (h : B6 W g x y z u v t) : W.cell? ⟨g, 3, none⟩ = some u := by rw [cell_of_row W g 3 _ _ (0, 0) h]; rfl
theorem B6.c4 (h : B6 W g x y z u v t) : W.cell? ⟨g, 4, none⟩ = some v := by rw [cell_of_row W g 4 _ _ (0, 0) h]; rfl
theorem B6.c5 (h : B6 W g x y z u v t) : W.cell? ⟨g, 5, none⟩ = some t := by rw [cell_of_row W g 5 _ _ (0, 0) h]; rfl
theorem B6.f0 (h : B6 W g x y z u v t) : W.frozen? ⟨g, 0, none⟩ = false := frozen_of_row W g 0 _ _ h
theorem B6.f1 (h : B6 W g x y z u v t) : W.frozen? ⟨g, 1, none⟩ = false := frozen_of_row W g 1 _ _ h
theorem B6.f2 (h : B6 W g x y z u v t) : W.frozen? ⟨g, 2, none⟩ = false := frozen_of_row W g 2 _ _ h
theorem B6.f3 (h : B6 W g x y z u v t) : W.frozen? ⟨g, 3, none⟩ = false := frozen_of_row W g 3 _ _ h
theorem B6.f4 (h : B6 W g x y z u v t) : W.frozen? ⟨g, 4, none⟩ = false := frozen_of_row W g 4 _ _ h
theorem B6.f5 (h : B6 W g x y z u v t) : W.frozen? ⟨g, 5, none⟩ = false := frozen_of_row W g 5 _ _ h
theorem B6.lt (h : B6 W g x y z u v t) : g < W.heap.size := World.block_lt_of_cell? W _ h.c0
theorem B6.below (h : B6 W g x y z u v t) (hb : Below W.heap.size W W') : B6 W' g x y z u v t := (hb.block g h.lt).trans h
theorem B6.alloc (h : B6 W g x y z u v t) (o : Obj) : B6 (W.alloc o) g x y z u v t := (Below.heap_alloc W o g h.lt).trans h
theorem B6.new' (W : World) (x y z u v t : Value) (g : Nat) (hg : g = W.heap.size) : B6 (W.alloc (.cells #[x, y, z, u, v, t] 83)) g x y z u v t := by subst hg; exact heap_alloc_new W _
end
def set6 (W : World) (g : Nat) (a b c d e f : Value) : World := (((((W.setCell ⟨g, 0, none⟩ a).setCell ⟨g, 1, none⟩ b).setCell ⟨g, 2, none⟩ c).setCell ⟨g, 3, none⟩ d).setCell ⟨g, 4, none⟩ e).setCell ⟨g, 5, none⟩ f
theorem B6.set6 {W : World} {g : Nat} {x y z u v t : Value} (h : B6 W g x y z u v t) (a b c d e f : Value) : B6 ((((((W.setCell ⟨g, 0, none⟩ a).setCell ⟨g, 1, none⟩ b).setCell ⟨g, 2, none⟩ c).setCell ⟨g, 3, none⟩ d).setCell ⟨g, 4, none⟩ e).setCell ⟨g, 5, none⟩ f) g a b c d e f := by
  unfold B6 at h ⊢
  simp [World.setCell, Array.getElem?_modify, h]
theorem set6_cell (W : World) (g k o : Nat) (a b c d e f : Value) (h : k ≠ g) : ((((((W.setCell ⟨g, 0, none⟩ a).setCell ⟨g, 1, none⟩ b).setCell ⟨g, 2, none⟩ c).setCell ⟨g, 3, none⟩ d).setCell ⟨g, 4, none⟩ e).setCell ⟨g, 5, none⟩ f).cell? ⟨k, o, none⟩ = W.cell? ⟨k, o, none⟩ := by
  rw [World.cell?_of_block (Below.heap_setCell _ _ _ _ h), World.cell?_of_block (Below.heap_setCell _ _ _ _ h), World.cell?_of_block (Below.heap_setCell _ _ _ _ h), World.cell?_of_block (Below.heap_setCell _ _ _ _ h), World.cell?_of_block (Below.heap_setCell _ _ _ _ h), World.cell?_of_block (Below.heap_setCell _ _ _ _ h)]
theorem below_set6 {B g : Nat} {w W : World} (h : Below B w W) (hg : B ≤ g) (a b c d e f : Value) : Below B w ((((((W.setCell ⟨g, 0, none⟩ a).setCell ⟨g, 1, none⟩ b).setCell ⟨g, 2, none⟩ c).setCell ⟨g, 3, none⟩ d).setCell ⟨g, 4, none⟩ e).setCell ⟨g, 5, none⟩ f) := (((((h.setCell hg _).setCell hg _).setCell hg _).setCell hg _).setCell hg _).setCell hg _
theorem Rd.off6 {K : IntKind} {W : World} {g : Nat} {s t : Bool} {A A1 A2 A3 A4 : Option Addr} {n n1 c1 n2 c2 n3 c3 n4 c4 : Nat} {l : List Nat} (hr : Rd K W A n l) (h : B6 W g (.bool s) (.slice A1 n1 c1) (.slice A2 n2 c2) (.bool t) (.slice A3 n3 c3) (.slice A4 n4 c4)) : Off A n g := by
  intro hn ad e hg
  obtain ⟨b, o, eA, hc⟩ := hr.at_ hn
  obtain ⟨x, _, hx⟩ := hc 0 hn
  rw [eA] at e
  cases e
  have hg2 : b = g := hg
  subst hg2
  rw [cell_of_row W b (o + 0) _ _ (0, 0) h] at hx
  match o, hx with
  | 0, hx => cases hx
  | 1, hx => cases hx
  | 2, hx => cases hx
  | 3, hx => cases hx
  | 4, hx => cases hx
  | 5, hx => cases hx
  | o + 6, hx => cases hx
def PR (w : World) (s : Bool) (A : Option Addr) (n c : Nat) (B : Option Addr) (m d : Nat) (t : Bool) (E : Option Addr) (i e : Nat) (F : Option Addr) (j f : Nat) (x y : Rat) (k : Nat) : Prop := QR w s A n c B m d x k ∧ QR w t E i e F j f y k
def PG (w : World) (s : Bool) (A : Option Addr) (n c : Nat) (B : Option Addr) (m d : Nat) (t : Bool) (E : Option Addr) (i e : Nat) (F : Option Addr) (j f : Nat) (x y : Rat) (k : Nat) : Prop := QG w s A n c B m d x k ∧ QG w t E i e F j f y k
def GivesPt (w : World) (x y : Rat) (k : Nat) (en : Ending) (w' : World) : Prop :=
  ∃ s A n c B m d t E i e F j f, en = .returned (.agg #[.bool s, .slice A n c, .slice B m d, .bool t, .slice E i e, .slice F j f]) ∧ PG w' s A n c B m d t E i e F j f x y k ∧ Below w.heap.size w w'
section
variable {w w' : World} {s t : Bool} {A B E F : Option Addr} {n c m d i e j f k k1 : Nat} {x y : Rat}
theorem PR.below (h : PR w s A n c B m d t E i e F j f x y k) (hb : Below w.heap.size w w') : PR w' s A n c B m d t E i e F j f x y k := ⟨h.1.below hb, h.2.below hb⟩
theorem PG.below (h : PG w s A n c B m d t E i e F j f x y k) (hb : Below w.heap.size w w') : PG w' s A n c B m d t E i e F j f x y k := ⟨h.1.below hb, h.2.below hb⟩
theorem PG.pr (h : PG w s A n c B m d t E i e F j f x y k) : PR w s A n c B m d t E i e F j f x y k := ⟨h.1.qr, h.2.qr⟩
theorem PR.qx (h : PR w s A n c B m d t E i e F j f x y k) : QR w s A n c B m d x k := h.1
theorem PR.qy (h : PR w s A n c B m d t E i e F j f x y k) : QR w t E i e F j f y k := h.2
theorem PG.qx (h : PG w s A n c B m d t E i e F j f x y k) : QG w s A n c B m d x k := h.1
theorem PG.qy (h : PG w s A n c B m d t E i e F j f x y k) : QG w t E i e F j f y k := h.2
theorem QG.more (h : QG w s A n c B m d x k) (hk : k ≤ k1) : QG w s A n c B m d x k1 := ⟨⟨h.1.1, h.1.2.1, h.1.2.2.1, Nat.le_trans h.1.2.2.2 hk⟩, h.2.more hk⟩
theorem PG.more (h : PG w s A n c B m d t E i e F j f x y k) (hk : k ≤ k1) : PG w s A n c B m d t E i e F j f x y k1 := ⟨h.1.more hk, h.2.more hk⟩
theorem PR.more (h : PR w s A n c B m d t E i e F j f x y k) (hk : k ≤ k1) : PR w s A n c B m d t E i e F j f x y k1 := ⟨h.1.more hk, h.2.more hk⟩
theorem QG.set6 {v0 : Rat} {s0 t0 : Bool} {g : Nat} {A1 A2 A3 A4 : Option Addr} {n1 c1 n2 c2 n3 c3 n4 c4 : Nat} (h : QG w s A n c B m d v0 k) (Z : B6 w g (.bool s0) (.slice A1 n1 c1) (.slice A2 n2 c2) (.bool t0) (.slice A3 n3 c3) (.slice A4 n4 c4)) (a1 a2 a3 a4 a5 a6 : Value) :
    QG ((((((w.setCell ⟨g, 0, none⟩ a1).setCell ⟨g, 1, none⟩ a2).setCell ⟨g, 2, none⟩ a3).setCell ⟨g, 3, none⟩ a4).setCell ⟨g, 4, none⟩ a5).setCell ⟨g, 5, none⟩ a6) s A n c B m d v0 k := by
  have ho : Only g w ((((((w.setCell ⟨g, 0, none⟩ a1).setCell ⟨g, 1, none⟩ a2).setCell ⟨g, 2, none⟩ a3).setCell ⟨g, 3, none⟩ a4).setCell ⟨g, 4, none⟩ a5).setCell ⟨g, 5, none⟩ a6) := ((((((Only.refl g w).setCell 0 _).setCell 1 _).setCell 2 _).setCell 3 _).setCell 4 _).setCell 5 _
  exact ⟨⟨h.1.1, h.1.2.1.only (h.1.2.1.off6 Z) ho, h.1.2.2⟩, ⟨h.2.1.only (h.2.1.off6 Z) ho, h.2.2⟩⟩
theorem PG.set6 {s0 t0 : Bool} {g : Nat} {A1 A2 A3 A4 : Option Addr} {n1 c1 n2 c2 n3 c3 n4 c4 : Nat} (h : PG w s A n c B m d t E i e F j f x y k) (Z : B6 w g (.bool s0) (.slice A1 n1 c1) (.slice A2 n2 c2) (.bool t0) (.slice A3 n3 c3) (.slice A4 n4 c4)) (a1 a2 a3 a4 a5 a6 : Value) :
    PG ((((((w.setCell ⟨g, 0, none⟩ a1).setCell ⟨g, 1, none⟩ a2).setCell ⟨g, 2, none⟩ a3).setCell ⟨g, 3, none⟩ a4).setCell ⟨g, 4, none⟩ a5).setCell ⟨g, 5, none⟩ a6) s A n c B m d t E i e F j f x y k := ⟨h.1.set6 Z _ _ _ _ _ _, h.2.set6 Z _ _ _ _ _ _⟩
end
set_option maxRecDepth 100000 in
set_option maxHeartbeats 4000000 in
theorem partx_any {w : World} {s_p t_p : Bool} {A_p B_p E_p F_p : Option Addr} {n_p c_p m_p d_p i_p e_p j_p f_p : Nat} :
    Calls Tryz.prog 199 #[.agg #[.bool s_p, .slice A_p n_p c_p, .slice B_p m_p d_p, .bool t_p, .slice E_p i_p e_p, .slice F_p j_p f_p]] w fun e w' => e = .returned (.agg #[.bool s_p, .slice A_p n_p c_p, .slice B_p m_p d_p]) ∧ Below w.heap.size w w' := by
  go_enter Tryz.func199, Tryz.ntmps199
  go_upto_region 1 with (fail)
  generalize hW : ((w.alloc (Obj.cells #[Value.bool s_p, Value.slice A_p n_p c_p, Value.slice B_p m_p d_p, Value.bool t_p, Value.slice E_p i_p e_p, Value.slice F_p j_p f_p] 83)).alloc (Obj.cells #[Value.bool false, Value.slice none 0 0, Value.slice none 0 0] 26)) = W
  have hb : Below w.heap.size w W := by subst hW; exact (((Below.refl _ _).alloc (Nat.le_refl _) _).alloc (by simp) _)
  have XA : B6 W (w.heap.size) (Value.bool s_p) (Value.slice A_p n_p c_p) (Value.slice B_p m_p d_p) (Value.bool t_p) (Value.slice E_p i_p e_p) (Value.slice F_p j_p f_p) := by subst hW; exact (B6.new' _ _ _ _ _ _ _ _ rfl).alloc _
  have Z : B3 W (w.heap.size + 1) (Value.bool false) (Value.slice none 0 0) (Value.slice none 0 0) := by subst hW; exact B3.new' _ _ _ _ _ (by simp)
  have hzW : W.heap.size = w.heap.size + 2 := by subst hW; simp
  clear hW
  have xa0 := XA.c0
  have xa1 := XA.c1
  have xa2 := XA.c2
  have xa3 := XA.c3
  have xa4 := XA.c4
  have xa5 := XA.c5
  have zf0 := Z.f0
  have zf1 := Z.f1
  have zf2 := Z.f2
  have z0 := Z.c0
  have z1 := Z.c1
  have z2 := Z.c2
  go_wp2_with fail
  have Z2 := Z.set3 (.bool s_p) (.slice A_p n_p c_p) (.slice B_p m_p d_p)
  have g0 := Z2.c0
  have g1 := Z2.c1
  have g2 := Z2.c2
  refine bodyPost_ret (v := .agg #[.bool s_p, .slice A_p n_p c_p, .slice B_p m_p d_p]) (by simp [results, Tryz.results199, go_sem, g0, g1, g2]) rfl ?_
  exact ⟨rfl, below_set3 hb (by omega) _ _ _⟩
set_option maxRecDepth 100000 in
set_option maxHeartbeats 4000000 in
theorem party_any {w : World} {s_p t_p : Bool} {A_p B_p E_p F_p : Option Addr} {n_p c_p m_p d_p i_p e_p j_p f_p : Nat} :
    Calls Tryz.prog 200 #[.agg #[.bool s_p, .slice A_p n_p c_p, .slice B_p m_p d_p, .bool t_p, .slice E_p i_p e_p, .slice F_p j_p f_p]] w fun e w' => e = .returned (.agg #[.bool t_p, .slice E_p i_p e_p, .slice F_p j_p f_p]) ∧ Below w.heap.size w w' := by
  go_enter Tryz.func200, Tryz.ntmps200
  go_upto_region 1 with (fail)
  generalize hW : ((w.alloc (Obj.cells #[Value.bool s_p, Value.slice A_p n_p c_p, Value.slice B_p m_p d_p, Value.bool t_p, Value.slice E_p i_p e_p, Value.slice F_p j_p f_p] 83)).alloc (Obj.cells #[Value.bool false, Value.slice none 0 0, Value.slice none 0 0] 26)) = W
  have hb : Below w.heap.size w W := by subst hW; exact (((Below.refl _ _).alloc (Nat.le_refl _) _).alloc (by simp) _)
  have XA : B6 W (w.heap.size) (Value.bool s_p) (Value.slice A_p n_p c_p) (Value.slice B_p m_p d_p) (Value.bool t_p) (Value.slice E_p i_p e_p) (Value.slice F_p j_p f_p) := by subst hW; exact (B6.new' _ _ _ _ _ _ _ _ rfl).alloc _
  have Z : B3 W (w.heap.size + 1) (Value.bool false) (Value.slice none 0 0) (Value.slice none 0 0) := by subst hW; exact B3.new' _ _ _ _ _ (by simp)
  have hzW : W.heap.size = w.heap.size + 2 := by subst hW; simp
  clear hW
  have xa0 := XA.c0
  have xa1 := XA.c1
  have xa2 := XA.c2
  have xa3 := XA.c3
  have xa4 := XA.c4
  have xa5 := XA.c5
  have zf0 := Z.f0
  have zf1 := Z.f1
  have zf2 := Z.f2
  have z0 := Z.c0
  have z1 := Z.c1
  have z2 := Z.c2
  go_wp2_with fail
  have Z2 := Z.set3 (.bool t_p) (.slice E_p i_p e_p) (.slice F_p j_p f_p)
  have g0 := Z2.c0
  have g1 := Z2.c1
  have g2 := Z2.c2
  refine bodyPost_ret (v := .agg #[.bool t_p, .slice E_p i_p e_p, .slice F_p j_p f_p]) (by simp [results, Tryz.results200, go_sem, g0, g1, g2]) rfl ?_
  exact ⟨rfl, below_set3 hb (by omega) _ _ _⟩
set_option maxRecDepth 100000 in
set_option maxHeartbeats 4000000 in
theorem add1_x {w : World} {g1 g2 k k2 : Nat} {x y x2 y2 : Rat} {s_p t_p : Bool} {A_p B_p E_p F_p : Option Addr} {n_p c_p m_p d_p i_p e_p j_p f_p : Nat} {s_q t_q : Bool} {A_q B_q E_q F_q : Option Addr} {n_q c_q m_q d_q i_q e_q j_q f_q : Nat} (XA : B6 w g1 (.bool s_p) (.slice A_p n_p c_p) (.slice B_p m_p d_p) (.bool t_p) (.slice E_p i_p e_p) (.slice F_p j_p f_p)) (XB : B6 w g2 (.bool s_q) (.slice A_q n_q c_q) (.slice B_q m_q d_q) (.bool t_q) (.slice E_q i_q e_q) (.slice F_q j_q f_q)) (p : PR w s_p A_p n_p c_p B_p m_p d_p t_p E_p i_p e_p F_p j_p f_p x y k) (q : PR w s_q A_q n_q c_q B_q m_q d_q t_q E_q i_q e_q F_q j_q f_q x2 y2 k2) (hk : k ≤ 300) (hk2 : k2 ≤ 300) (h40 : k ≤ 400 ∨ k2 ≤ 400) (hk1 : 1 ≤ k) (hk3 : 1 ≤ k2) :
    Calls Tryz.prog 156 #[(.func (.func 199) #[] #[]), .pointer (some ⟨g1, 0, none⟩), .pointer (some ⟨g2, 0, none⟩)] w (GivesQ w (x + x2) (k + k2 + 1)) := by
  go_enter Tryz.func156, Tryz.ntmps156
  go_upto_region 1 with (fail)
  have hl1 := XA.lt
  have hl2 := XB.lt
  generalize hW : (w.alloc (Obj.cells #[Value.bool false, Value.slice none 0 0, Value.slice none 0 0] 26)) = W
  have hb : Below w.heap.size w W := by subst hW; exact ((Below.refl _ _).alloc (Nat.le_refl _) _)
  have Z : B3 W (w.heap.size) (Value.bool false) (Value.slice none 0 0) (Value.slice none 0 0) := by subst hW; exact B3.new' _ _ _ _ _ rfl
  have hzW : W.heap.size = w.heap.size + 1 := by subst hW; simp
  clear hW
  replace p := p.below hb
  replace q := q.below hb
  replace XA := XA.below hb
  replace XB := XB.below hb
  replace p := p.below (Below.refl _ _).drew
  replace q := q.below (Below.refl _ _).drew
  replace XA := XA.below (Below.refl _ _).drew
  replace XB := XB.below (Below.refl _ _).drew
  replace Z := Z.below (Below.refl _ _).drew
  replace hb := hb.drew
  go_region_held3 (fun w' => w'.cell? ⟨g1, 0, none⟩ = some (.bool s_p) ∧ w'.cell? ⟨g1, 1, none⟩ = some (.slice A_p n_p c_p) ∧ w'.cell? ⟨g1, 2, none⟩ = some (.slice B_p m_p d_p) ∧ w'.cell? ⟨g1, 3, none⟩ = some (.bool t_p) ∧ w'.cell? ⟨g1, 4, none⟩ = some (.slice E_p i_p e_p) ∧ w'.cell? ⟨g1, 5, none⟩ = some (.slice F_p j_p f_p) ∧ w'.cell? ⟨g2, 0, none⟩ = some (.bool s_q) ∧ w'.cell? ⟨g2, 1, none⟩ = some (.slice A_q n_q c_q) ∧ w'.cell? ⟨g2, 2, none⟩ = some (.slice B_q m_q d_q) ∧ w'.cell? ⟨g2, 3, none⟩ = some (.bool t_q) ∧ w'.cell? ⟨g2, 4, none⟩ = some (.slice E_q i_q e_q) ∧ w'.cell? ⟨g2, 5, none⟩ = some (.slice F_q j_q f_q))
    (first | with_reducible exact ⟨XA.c0, XA.c1, XA.c2, XA.c3, XA.c4, XA.c5, XB.c0, XB.c1, XB.c2, XB.c3, XB.c4, XB.c5⟩ | with_reducible exact ⟨(set3_cell _ _ _ _ _ _ _ (by omega)).trans (XA.c0), (set3_cell _ _ _ _ _ _ _ (by omega)).trans (XA.c1), (set3_cell _ _ _ _ _ _ _ (by omega)).trans (XA.c2), (set3_cell _ _ _ _ _ _ _ (by omega)).trans (XA.c3), (set3_cell _ _ _ _ _ _ _ (by omega)).trans (XA.c4), (set3_cell _ _ _ _ _ _ _ (by omega)).trans (XA.c5), (set3_cell _ _ _ _ _ _ _ (by omega)).trans (XB.c0), (set3_cell _ _ _ _ _ _ _ (by omega)).trans (XB.c1), (set3_cell _ _ _ _ _ _ _ (by omega)).trans (XB.c2), (set3_cell _ _ _ _ _ _ _ (by omega)).trans (XB.c3), (set3_cell _ _ _ _ _ _ _ (by omega)).trans (XB.c4), (set3_cell _ _ _ _ _ _ _ (by omega)).trans (XB.c5)⟩)
    (first
    | (go_at_call 199; (with_reducible refine (partx_any).mono ?_); rintro e w_z ⟨rfl, hh⟩
       try replace p := p.below hh
       try replace q := q.below hh
       try replace XA := XA.below hh
       try replace XB := XB.below hh
       try replace Z := Z.below hh
       replace hb := bend hb hh)
    | (go_at_call 22; (with_reducible refine (radd_q p.qx q.qx (by omega) (by omega) h40 hk1 hk3).mono ?_); rintro e w_r ⟨s_r, A_r, n_r, c_r, B_r, m_r, d_r, rfl, r, hh⟩
       try replace p := p.below hh
       try replace q := q.below hh
       try replace XA := XA.below hh
       try replace XB := XB.below hh
       try replace Z := Z.below hh
       replace hb := bend hb hh
       have zf0 := Z.f0
       have zf1 := Z.f1
       have zf2 := Z.f2
       have z0 := Z.c0
       have z1 := Z.c1
       have z2 := Z.c2))
  go_wp2_with fail
  have Z2 := Z.set3 (.bool s_r) (.slice A_r n_r c_r) (.slice B_r m_r d_r)
  have g0 := Z2.c0
  have g1 := Z2.c1
  have g2 := Z2.c2
  refine bodyPost_ret (v := .agg #[.bool s_r, .slice A_r n_r c_r, .slice B_r m_r d_r]) (by simp [results, Tryz.results156, go_sem, g0, g1, g2]) rfl ?_
  exact ⟨s_r, A_r, n_r, c_r, B_r, m_r, d_r, rfl, r.set3 Z _ _ _, below_set3 hb (by omega) _ _ _⟩
set_option maxRecDepth 100000 in
set_option maxHeartbeats 4000000 in
theorem add1_y {w : World} {g1 g2 k k2 : Nat} {x y x2 y2 : Rat} {s_p t_p : Bool} {A_p B_p E_p F_p : Option Addr} {n_p c_p m_p d_p i_p e_p j_p f_p : Nat} {s_q t_q : Bool} {A_q B_q E_q F_q : Option Addr} {n_q c_q m_q d_q i_q e_q j_q f_q : Nat} (XA : B6 w g1 (.bool s_p) (.slice A_p n_p c_p) (.slice B_p m_p d_p) (.bool t_p) (.slice E_p i_p e_p) (.slice F_p j_p f_p)) (XB : B6 w g2 (.bool s_q) (.slice A_q n_q c_q) (.slice B_q m_q d_q) (.bool t_q) (.slice E_q i_q e_q) (.slice F_q j_q f_q)) (p : PR w s_p A_p n_p c_p B_p m_p d_p t_p E_p i_p e_p F_p j_p f_p x y k) (q : PR w s_q A_q n_q c_q B_q m_q d_q t_q E_q i_q e_q F_q j_q f_q x2 y2 k2) (hk : k ≤ 300) (hk2 : k2 ≤ 300) (h40 : k ≤ 400 ∨ k2 ≤ 400) (hk1 : 1 ≤ k) (hk3 : 1 ≤ k2) :
    Calls Tryz.prog 156 #[(.func (.func 200) #[] #[]), .pointer (some ⟨g1, 0, none⟩), .pointer (some ⟨g2, 0, none⟩)] w (GivesQ w (y + y2) (k + k2 + 1)) := by
  go_enter Tryz.func156, Tryz.ntmps156
  go_upto_region 1 with (fail)
  have hl1 := XA.lt
  have hl2 := XB.lt
  generalize hW : (w.alloc (Obj.cells #[Value.bool false, Value.slice none 0 0, Value.slice none 0 0] 26)) = W
  have hb : Below w.heap.size w W := by subst hW; exact ((Below.refl _ _).alloc (Nat.le_refl _) _)
  have Z : B3 W (w.heap.size) (Value.bool false) (Value.slice none 0 0) (Value.slice none 0 0) := by subst hW; exact B3.new' _ _ _ _ _ rfl
  have hzW : W.heap.size = w.heap.size + 1 := by subst hW; simp
  clear hW
  replace p := p.below hb
  replace q := q.below hb
  replace XA := XA.below hb
  replace XB := XB.below hb
  replace p := p.below (Below.refl _ _).drew
  replace q := q.below (Below.refl _ _).drew
  replace XA := XA.below (Below.refl _ _).drew
  replace XB := XB.below (Below.refl _ _).drew
  replace Z := Z.below (Below.refl _ _).drew
  replace hb := hb.drew
  go_region_held3 (fun w' => w'.cell? ⟨g1, 0, none⟩ = some (.bool s_p) ∧ w'.cell? ⟨g1, 1, none⟩ = some (.slice A_p n_p c_p) ∧ w'.cell? ⟨g1, 2, none⟩ = some (.slice B_p m_p d_p) ∧ w'.cell? ⟨g1, 3, none⟩ = some (.bool t_p) ∧ w'.cell? ⟨g1, 4, none⟩ = some (.slice E_p i_p e_p) ∧ w'.cell? ⟨g1, 5, none⟩ = some (.slice F_p j_p f_p) ∧ w'.cell? ⟨g2, 0, none⟩ = some (.bool s_q) ∧ w'.cell? ⟨g2, 1, none⟩ = some (.slice A_q n_q c_q) ∧ w'.cell? ⟨g2, 2, none⟩ = some (.slice B_q m_q d_q) ∧ w'.cell? ⟨g2, 3, none⟩ = some (.bool t_q) ∧ w'.cell? ⟨g2, 4, none⟩ = some (.slice E_q i_q e_q) ∧ w'.cell? ⟨g2, 5, none⟩ = some (.slice F_q j_q f_q))
    (first | with_reducible exact ⟨XA.c0, XA.c1, XA.c2, XA.c3, XA.c4, XA.c5, XB.c0, XB.c1, XB.c2, XB.c3, XB.c4, XB.c5⟩ | with_reducible exact ⟨(set3_cell _ _ _ _ _ _ _ (by omega)).trans (XA.c0), (set3_cell _ _ _ _ _ _ _ (by omega)).trans (XA.c1), (set3_cell _ _ _ _ _ _ _ (by omega)).trans (XA.c2), (set3_cell _ _ _ _ _ _ _ (by omega)).trans (XA.c3), (set3_cell _ _ _ _ _ _ _ (by omega)).trans (XA.c4), (set3_cell _ _ _ _ _ _ _ (by omega)).trans (XA.c5), (set3_cell _ _ _ _ _ _ _ (by omega)).trans (XB.c0), (set3_cell _ _ _ _ _ _ _ (by omega)).trans (XB.c1), (set3_cell _ _ _ _ _ _ _ (by omega)).trans (XB.c2), (set3_cell _ _ _ _ _ _ _ (by omega)).trans (XB.c3), (set3_cell _ _ _ _ _ _ _ (by omega)).trans (XB.c4), (set3_cell _ _ _ _ _ _ _ (by omega)).trans (XB.c5)⟩)
    (first
    | (go_at_call 200; (with_reducible refine (party_any).mono ?_); rintro e w_z ⟨rfl, hh⟩
       try replace p := p.below hh
       try replace q := q.below hh
       try replace XA := XA.below hh
       try replace XB := XB.below hh
       try replace Z := Z.below hh
       replace hb := bend hb hh)
    | (go_at_call 22; (with_reducible refine (radd_q p.qy q.qy (by omega) (by omega) h40 hk1 hk3).mono ?_); rintro e w_r ⟨s_r, A_r, n_r, c_r, B_r, m_r, d_r, rfl, r, hh⟩
       try replace p := p.below hh
       try replace q := q.below hh
       try replace XA := XA.below hh
       try replace XB := XB.below hh
       try replace Z := Z.below hh
       replace hb := bend hb hh
       have zf0 := Z.f0
       have zf1 := Z.f1
       have zf2 := Z.f2
       have z0 := Z.c0
       have z1 := Z.c1
       have z2 := Z.c2))
  go_wp2_with fail
  have Z2 := Z.set3 (.bool s_r) (.slice A_r n_r c_r) (.slice B_r m_r d_r)
  have g0 := Z2.c0
  have g1 := Z2.c1
  have g2 := Z2.c2
  refine bodyPost_ret (v := .agg #[.bool s_r, .slice A_r n_r c_r, .slice B_r m_r d_r]) (by simp [results, Tryz.results156, go_sem, g0, g1, g2]) rfl ?_
  exact ⟨s_r, A_r, n_r, c_r, B_r, m_r, d_r, rfl, r.set3 Z _ _ _, below_set3 hb (by omega) _ _ _⟩
set_option maxRecDepth 100000 in
set_option maxHeartbeats 4000000 in
theorem made_add {w : World} {g1 g2 k k2 : Nat} {x y x2 y2 : Rat} {s_p t_p : Bool} {A_p B_p E_p F_p : Option Addr} {n_p c_p m_p d_p i_p e_p j_p f_p : Nat} {s_q t_q : Bool} {A_q B_q E_q F_q : Option Addr} {n_q c_q m_q d_q i_q e_q j_q f_q : Nat} (XA : B6 w g1 (.bool s_p) (.slice A_p n_p c_p) (.slice B_p m_p d_p) (.bool t_p) (.slice E_p i_p e_p) (.slice F_p j_p f_p)) (XB : B6 w g2 (.bool s_q) (.slice A_q n_q c_q) (.slice B_q m_q d_q) (.bool t_q) (.slice E_q i_q e_q) (.slice F_q j_q f_q)) (p : PR w s_p A_p n_p c_p B_p m_p d_p t_p E_p i_p e_p F_p j_p f_p x y k) (q : PR w s_q A_q n_q c_q B_q m_q d_q t_q E_q i_q e_q F_q j_q f_q x2 y2 k2) (hk : k ≤ 300) (hk2 : k2 ≤ 300) (h40 : k ≤ 400 ∨ k2 ≤ 400) (hk1 : 1 ≤ k) (hk3 : 1 ≤ k2) :
    Calls Tryz.prog 155 #[.func (.func 156) #[] #[.pointer (some ⟨g1, 0, none⟩), .pointer (some ⟨g2, 0, none⟩)]] w (GivesPt w (x + x2) (y + y2) (k + k2 + 1)) := by
  go_enter Tryz.func155, Tryz.ntmps155
  go_upto_region 1 with (fail)
  generalize hW : (w.alloc (Obj.cells #[Value.bool false, Value.slice none 0 0, Value.slice none 0 0, Value.bool false, Value.slice none 0 0, Value.slice none 0 0] 83)) = W
  have hb : Below w.heap.size w W := by subst hW; exact ((Below.refl _ _).alloc (Nat.le_refl _) _)
  have Z : B6 W (w.heap.size) (Value.bool false) (Value.slice none 0 0) (Value.slice none 0 0) (Value.bool false) (Value.slice none 0 0) (Value.slice none 0 0) := by subst hW; exact B6.new' _ _ _ _ _ _ _ _ rfl
  have hzW : W.heap.size = w.heap.size + 1 := by subst hW; simp
  clear hW
  replace p := p.below hb
  replace q := q.below hb
  replace XA := XA.below hb
  replace XB := XB.below hb
  go_wp2_with (first
      | (go_at_call 156; (with_reducible refine (add1_x XA XB p q hk hk2 h40 hk1 hk3).mono ?_); rintro e w_r ⟨s_r, A_r, n_r, c_r, B_r, m_r, d_r, rfl, r, hh⟩
         try replace p := p.below hh
         try replace q := q.below hh
         try replace XA := XA.below hh
         try replace XB := XB.below hh
         try replace Z := Z.below hh
         replace hb := bend hb hh)
      | (go_at_call 156; (with_reducible refine (add1_y XA XB p q hk hk2 h40 hk1 hk3).mono ?_); rintro e w_u ⟨s_u, A_u, n_u, c_u, B_u, m_u, d_u, rfl, u, hh⟩
         try replace p := p.below hh
         try replace q := q.below hh
         try replace r := r.below hh
         try replace XA := XA.below hh
         try replace XB := XB.below hh
         try replace Z := Z.below hh
         replace hb := bend hb hh
         have zg0 := Z.f0
         have zg1 := Z.f1
         have zg2 := Z.f2
         have zg3 := Z.f3
         have zg4 := Z.f4
         have zg5 := Z.f5
         have zc0 := Z.c0
         have zc1 := Z.c1
         have zc2 := Z.c2
         have zc3 := Z.c3
         have zc4 := Z.c4
         have zc5 := Z.c5))
  have Z2 := Z.set6 (.bool s_r) (.slice A_r n_r c_r) (.slice B_r m_r d_r) (.bool s_u) (.slice A_u n_u c_u) (.slice B_u m_u d_u)
  have g0 := Z2.c0
  have g1 := Z2.c1
  have g2 := Z2.c2
  have g3 := Z2.c3
  have g4 := Z2.c4
  have g5 := Z2.c5
  refine bodyPost_ret (v := .agg #[.bool s_r, .slice A_r n_r c_r, .slice B_r m_r d_r, .bool s_u, .slice A_u n_u c_u, .slice B_u m_u d_u]) (by simp [results, Tryz.results155, go_sem, g0, g1, g2, g3, g4, g5]) rfl ?_
  exact ⟨_, _, _, _, _, _, _, _, _, _, _, _, _, _, rfl, (show PG _ _ _ _ _ _ _ _ _ _ _ _ _ _ _ _ _ _ from ⟨r, u⟩).set6 Z _ _ _ _ _ _, below_set6 hb (by omega) _ _ _ _ _ _⟩
set_option maxRecDepth 100000 in
set_option maxHeartbeats 4000000 in
theorem padd_p {w : World} {k k2 : Nat} {x y x2 y2 : Rat} {s_p t_p : Bool} {A_p B_p E_p F_p : Option Addr} {n_p c_p m_p d_p i_p e_p j_p f_p : Nat} {s_q t_q : Bool} {A_q B_q E_q F_q : Option Addr} {n_q c_q m_q d_q i_q e_q j_q f_q : Nat} (p : PR w s_p A_p n_p c_p B_p m_p d_p t_p E_p i_p e_p F_p j_p f_p x y k) (q : PR w s_q A_q n_q c_q B_q m_q d_q t_q E_q i_q e_q F_q j_q f_q x2 y2 k2) (hk : k ≤ 300) (hk2 : k2 ≤ 300) (h40 : k ≤ 400 ∨ k2 ≤ 400) (hk1 : 1 ≤ k) (hk3 : 1 ≤ k2) :
    Calls Tryz.prog 73 #[.agg #[.bool s_p, .slice A_p n_p c_p, .slice B_p m_p d_p, .bool t_p, .slice E_p i_p e_p, .slice F_p j_p f_p], .agg #[.bool s_q, .slice A_q n_q c_q, .slice B_q m_q d_q, .bool t_q, .slice E_q i_q e_q, .slice F_q j_q f_q]] w (GivesPt w (x + x2) (y + y2) (k + k2 + 1)) := by
  have hmf : ∀ (fn : Fn) (first cap : Array Value) (w : World), (Instr.makeFunc fn first cap).run Tryz.prog w = .ok (.func fn first cap) w := fun _ _ _ _ => rfl
  go_enter Tryz.func73, Tryz.ntmps73
  go_upto_region 1 with (fail)
  generalize hW : (((w.alloc (Obj.cells #[Value.bool s_p, Value.slice A_p n_p c_p, Value.slice B_p m_p d_p, Value.bool t_p, Value.slice E_p i_p e_p, Value.slice F_p j_p f_p] 83)).alloc (Obj.cells #[Value.bool s_q, Value.slice A_q n_q c_q, Value.slice B_q m_q d_q, Value.bool t_q, Value.slice E_q i_q e_q, Value.slice F_q j_q f_q] 83)).alloc (Obj.cells #[Value.bool false, Value.slice none 0 0, Value.slice none 0 0, Value.bool false, Value.slice none 0 0, Value.slice none 0 0] 83)) = W
  have hb : Below w.heap.size w W := by subst hW; exact ((((Below.refl _ _).alloc (Nat.le_refl _) _).alloc (by simp) _).alloc (by simp; omega) _)
  have XA : B6 W (w.heap.size) (Value.bool s_p) (Value.slice A_p n_p c_p) (Value.slice B_p m_p d_p) (Value.bool t_p) (Value.slice E_p i_p e_p) (Value.slice F_p j_p f_p) := by subst hW; exact ((B6.new' _ _ _ _ _ _ _ _ rfl).alloc _).alloc _
  have XB : B6 W (w.heap.size + 1) (Value.bool s_q) (Value.slice A_q n_q c_q) (Value.slice B_q m_q d_q) (Value.bool t_q) (Value.slice E_q i_q e_q) (Value.slice F_q j_q f_q) := by subst hW; exact (B6.new' _ _ _ _ _ _ _ _ (by simp)).alloc _
  have Z : B6 W (w.heap.size + 1 + 1) (Value.bool false) (Value.slice none 0 0) (Value.slice none 0 0) (Value.bool false) (Value.slice none 0 0) (Value.slice none 0 0) := by subst hW; exact B6.new' _ _ _ _ _ _ _ _ (by simp)
  have hzW : W.heap.size = w.heap.size + 3 := by subst hW; simp
  clear hW
  replace p := p.below hb
  replace q := q.below hb
  go_wp2_with (first
      | (go_at_call 155; (with_reducible refine (made_add XA XB p q hk hk2 h40 hk1 hk3).mono ?_); rintro e w_r ⟨s_r, A_r, n_r, c_r, B_r, m_r, d_r, t_r, E_r, i_r, e_r, F_r, j_r, f_r, rfl, r, hh⟩
         try replace Z := Z.below hh
         replace hb := bend hb hh
         have zg0 := Z.f0
         have zg1 := Z.f1
         have zg2 := Z.f2
         have zg3 := Z.f3
         have zg4 := Z.f4
         have zg5 := Z.f5
         have zc0 := Z.c0
         have zc1 := Z.c1
         have zc2 := Z.c2
         have zc3 := Z.c3
         have zc4 := Z.c4
         have zc5 := Z.c5))
  have Z2 := Z.set6 (.bool s_r) (.slice A_r n_r c_r) (.slice B_r m_r d_r) (.bool t_r) (.slice E_r i_r e_r) (.slice F_r j_r f_r)
  have g0 := Z2.c0
  have g1 := Z2.c1
  have g2 := Z2.c2
  have g3 := Z2.c3
  have g4 := Z2.c4
  have g5 := Z2.c5
  refine bodyPost_ret (v := .agg #[.bool s_r, .slice A_r n_r c_r, .slice B_r m_r d_r, .bool t_r, .slice E_r i_r e_r, .slice F_r j_r f_r]) (by simp [results, Tryz.results73, go_sem, g0, g1, g2, g3, g4, g5]) rfl ?_
  exact ⟨s_r, A_r, n_r, c_r, B_r, m_r, d_r, t_r, E_r, i_r, e_r, F_r, j_r, f_r, rfl, r.set6 Z _ _ _ _ _ _, below_set6 hb (by omega) _ _ _ _ _ _⟩
set_option maxRecDepth 100000 in
set_option maxHeartbeats 4000000 in
theorem sub1_x {w : World} {g1 g2 k k2 : Nat} {x y x2 y2 : Rat} {s_p t_p : Bool} {A_p B_p E_p F_p : Option Addr} {n_p c_p m_p d_p i_p e_p j_p f_p : Nat} {s_q t_q : Bool} {A_q B_q E_q F_q : Option Addr} {n_q c_q m_q d_q i_q e_q j_q f_q : Nat} (XA : B6 w g1 (.bool s_p) (.slice A_p n_p c_p) (.slice B_p m_p d_p) (.bool t_p) (.slice E_p i_p e_p) (.slice F_p j_p f_p)) (XB : B6 w g2 (.bool s_q) (.slice A_q n_q c_q) (.slice B_q m_q d_q) (.bool t_q) (.slice E_q i_q e_q) (.slice F_q j_q f_q)) (p : PR w s_p A_p n_p c_p B_p m_p d_p t_p E_p i_p e_p F_p j_p f_p x y k) (q : PR w s_q A_q n_q c_q B_q m_q d_q t_q E_q i_q e_q F_q j_q f_q x2 y2 k2) (hk : k ≤ 300) (hk2 : k2 ≤ 300) (h40 : k ≤ 400 ∨ k2 ≤ 400) (hk1 : 1 ≤ k) (hk3 : 1 ≤ k2) :
    Calls Tryz.prog 157 #[(.func (.func 199) #[] #[]), .pointer (some ⟨g1, 0, none⟩), .pointer (some ⟨g2, 0, none⟩)] w (GivesQ w (x - x2) (k + k2 + 1)) := by
  go_enter Tryz.func157, Tryz.ntmps157
  go_upto_region 1 with (fail)
  have hl1 := XA.lt
  have hl2 := XB.lt
  generalize hW : (w.alloc (Obj.cells #[Value.bool false, Value.slice none 0 0, Value.slice none 0 0] 26)) = W
  have hb : Below w.heap.size w W := by subst hW; exact ((Below.refl _ _).alloc (Nat.le_refl _) _)
  have Z : B3 W (w.heap.size) (Value.bool false) (Value.slice none 0 0) (Value.slice none 0 0) := by subst hW; exact B3.new' _ _ _ _ _ rfl
  have hzW : W.heap.size = w.heap.size + 1 := by subst hW; simp
  clear hW
  replace p := p.below hb
  replace q := q.below hb
  replace XA := XA.below hb
  replace XB := XB.below hb
  replace p := p.below (Below.refl _ _).drew
  replace q := q.below (Below.refl _ _).drew
  replace XA := XA.below (Below.refl _ _).drew
  replace XB := XB.below (Below.refl _ _).drew
  replace Z := Z.below (Below.refl _ _).drew
  replace hb := hb.drew
  go_region_held3 (fun w' => w'.cell? ⟨g1, 0, none⟩ = some (.bool s_p) ∧ w'.cell? ⟨g1, 1, none⟩ = some (.slice A_p n_p c_p) ∧ w'.cell? ⟨g1, 2, none⟩ = some (.slice B_p m_p d_p) ∧ w'.cell? ⟨g1, 3, none⟩ = some (.bool t_p) ∧ w'.cell? ⟨g1, 4, none⟩ = some (.slice E_p i_p e_p) ∧ w'.cell? ⟨g1, 5, none⟩ = some (.slice F_p j_p f_p) ∧ w'.cell? ⟨g2, 0, none⟩ = some (.bool s_q) ∧ w'.cell? ⟨g2, 1, none⟩ = some (.slice A_q n_q c_q) ∧ w'.cell? ⟨g2, 2, none⟩ = some (.slice B_q m_q d_q) ∧ w'.cell? ⟨g2, 3, none⟩ = some (.bool t_q) ∧ w'.cell? ⟨g2, 4, none⟩ = some (.slice E_q i_q e_q) ∧ w'.cell? ⟨g2, 5, none⟩ = some (.slice F_q j_q f_q))
    (first | with_reducible exact ⟨XA.c0, XA.c1, XA.c2, XA.c3, XA.c4, XA.c5, XB.c0, XB.c1, XB.c2, XB.c3, XB.c4, XB.c5⟩ | with_reducible exact ⟨(set3_cell _ _ _ _ _ _ _ (by omega)).trans (XA.c0), (set3_cell _ _ _ _ _ _ _ (by omega)).trans (XA.c1), (set3_cell _ _ _ _ _ _ _ (by omega)).trans (XA.c2), (set3_cell _ _ _ _ _ _ _ (by omega)).trans (XA.c3), (set3_cell _ _ _ _ _ _ _ (by omega)).trans (XA.c4), (set3_cell _ _ _ _ _ _ _ (by omega)).trans (XA.c5), (set3_cell _ _ _ _ _ _ _ (by omega)).trans (XB.c0), (set3_cell _ _ _ _ _ _ _ (by omega)).trans (XB.c1), (set3_cell _ _ _ _ _ _ _ (by omega)).trans (XB.c2), (set3_cell _ _ _ _ _ _ _ (by omega)).trans (XB.c3), (set3_cell _ _ _ _ _ _ _ (by omega)).trans (XB.c4), (set3_cell _ _ _ _ _ _ _ (by omega)).trans (XB.c5)⟩)
    (first
    | (go_at_call 199; (with_reducible refine (partx_any).mono ?_); rintro e w_z ⟨rfl, hh⟩
       try replace p := p.below hh
       try replace q := q.below hh
       try replace XA := XA.below hh
       try replace XB := XB.below hh
       try replace Z := Z.below hh
       replace hb := bend hb hh)
    | (go_at_call 24; (with_reducible refine (rsub_q p.qx q.qx (by omega) (by omega) h40 hk1 hk3).mono ?_); rintro e w_r ⟨s_r, A_r, n_r, c_r, B_r, m_r, d_r, rfl, r, hh⟩
       try replace p := p.below hh
       try replace q := q.below hh
       try replace XA := XA.below hh
       try replace XB := XB.below hh
       try replace Z := Z.below hh
       replace hb := bend hb hh
       have zf0 := Z.f0
       have zf1 := Z.f1
       have zf2 := Z.f2
       have z0 := Z.c0
       have z1 := Z.c1
       have z2 := Z.c2))
  go_wp2_with fail
  have Z2 := Z.set3 (.bool s_r) (.slice A_r n_r c_r) (.slice B_r m_r d_r)
  have g0 := Z2.c0
  have g1 := Z2.c1
  have g2 := Z2.c2
  refine bodyPost_ret (v := .agg #[.bool s_r, .slice A_r n_r c_r, .slice B_r m_r d_r]) (by simp [results, Tryz.results157, go_sem, g0, g1, g2]) rfl ?_
  exact ⟨s_r, A_r, n_r, c_r, B_r, m_r, d_r, rfl, r.set3 Z _ _ _, below_set3 hb (by omega) _ _ _⟩
set_option maxRecDepth 100000 in
set_option maxHeartbeats 4000000 in
theorem sub1_y {w : World} {g1 g2 k k2 : Nat} {x y x2 y2 : Rat} {s_p t_p : Bool} {A_p B_p E_p F_p : Option Addr} {n_p c_p m_p d_p i_p e_p j_p f_p : Nat} {s_q t_q : Bool} {A_q B_q E_q F_q : Option Addr} {n_q c_q m_q d_q i_q e_q j_q f_q : Nat} (XA : B6 w g1 (.bool s_p) (.slice A_p n_p c_p) (.slice B_p m_p d_p) (.bool t_p) (.slice E_p i_p e_p) (.slice F_p j_p f_p)) (XB : B6 w g2 (.bool s_q) (.slice A_q n_q c_q) (.slice B_q m_q d_q) (.bool t_q) (.slice E_q i_q e_q) (.slice F_q j_q f_q)) (p : PR w s_p A_p n_p c_p B_p m_p d_p t_p E_p i_p e_p F_p j_p f_p x y k) (q : PR w s_q A_q n_q c_q B_q m_q d_q t_q E_q i_q e_q F_q j_q f_q x2 y2 k2) (hk : k ≤ 300) (hk2 : k2 ≤ 300) (h40 : k ≤ 400 ∨ k2 ≤ 400) (hk1 : 1 ≤ k) (hk3 : 1 ≤ k2) :
    Calls Tryz.prog 157 #[(.func (.func 200) #[] #[]), .pointer (some ⟨g1, 0, none⟩), .pointer (some ⟨g2, 0, none⟩)] w (GivesQ w (y - y2) (k + k2 + 1)) := by
  go_enter Tryz.func157, Tryz.ntmps157
  go_upto_region 1 with (fail)
  have hl1 := XA.lt
  have hl2 := XB.lt
  generalize hW : (w.alloc (Obj.cells #[Value.bool false, Value.slice none 0 0, Value.slice none 0 0] 26)) = W
  have hb : Below w.heap.size w W := by subst hW; exact ((Below.refl _ _).alloc (Nat.le_refl _) _)
  have Z : B3 W (w.heap.size) (Value.bool false) (Value.slice none 0 0) (Value.slice none 0 0) := by subst hW; exact B3.new' _ _ _ _ _ rfl
  have hzW : W.heap.size = w.heap.size + 1 := by subst hW; simp
  clear hW
  replace p := p.below hb
  replace q := q.below hb
  replace XA := XA.below hb
  replace XB := XB.below hb
  replace p := p.below (Below.refl _ _).drew
  replace q := q.below (Below.refl _ _).drew
  replace XA := XA.below (Below.refl _ _).drew
  replace XB := XB.below (Below.refl _ _).drew
  replace Z := Z.below (Below.refl _ _).drew
  replace hb := hb.drew
  go_region_held3 (fun w' => w'.cell? ⟨g1, 0, none⟩ = some (.bool s_p) ∧ w'.cell? ⟨g1, 1, none⟩ = some (.slice A_p n_p c_p) ∧ w'.cell? ⟨g1, 2, none⟩ = some (.slice B_p m_p d_p) ∧ w'.cell? ⟨g1, 3, none⟩ = some (.bool t_p) ∧ w'.cell? ⟨g1, 4, none⟩ = some (.slice E_p i_p e_p) ∧ w'.cell? ⟨g1, 5, none⟩ = some (.slice F_p j_p f_p) ∧ w'.cell? ⟨g2, 0, none⟩ = some (.bool s_q) ∧ w'.cell? ⟨g2, 1, none⟩ = some (.slice A_q n_q c_q) ∧ w'.cell? ⟨g2, 2, none⟩ = some (.slice B_q m_q d_q) ∧ w'.cell? ⟨g2, 3, none⟩ = some (.bool t_q) ∧ w'.cell? ⟨g2, 4, none⟩ = some (.slice E_q i_q e_q) ∧ w'.cell? ⟨g2, 5, none⟩ = some (.slice F_q j_q f_q))
    (first | with_reducible exact ⟨XA.c0, XA.c1, XA.c2, XA.c3, XA.c4, XA.c5, XB.c0, XB.c1, XB.c2, XB.c3, XB.c4, XB.c5⟩ | with_reducible exact ⟨(set3_cell _ _ _ _ _ _ _ (by omega)).trans (XA.c0), (set3_cell _ _ _ _ _ _ _ (by omega)).trans (XA.c1), (set3_cell _ _ _ _ _ _ _ (by omega)).trans (XA.c2), (set3_cell _ _ _ _ _ _ _ (by omega)).trans (XA.c3), (set3_cell _ _ _ _ _ _ _ (by omega)).trans (XA.c4), (set3_cell _ _ _ _ _ _ _ (by omega)).trans (XA.c5), (set3_cell _ _ _ _ _ _ _ (by omega)).trans (XB.c0), (set3_cell _ _ _ _ _ _ _ (by omega)).trans (XB.c1), (set3_cell _ _ _ _ _ _ _ (by omega)).trans (XB.c2), (set3_cell _ _ _ _ _ _ _ (by omega)).trans (XB.c3), (set3_cell _ _ _ _ _ _ _ (by omega)).trans (XB.c4), (set3_cell _ _ _ _ _ _ _ (by omega)).trans (XB.c5)⟩)
    (first
    | (go_at_call 200; (with_reducible refine (party_any).mono ?_); rintro e w_z ⟨rfl, hh⟩
       try replace p := p.below hh
       try replace q := q.below hh
       try replace XA := XA.below hh
       try replace XB := XB.below hh
       try replace Z := Z.below hh
       replace hb := bend hb hh)
    | (go_at_call 24; (with_reducible refine (rsub_q p.qy q.qy (by omega) (by omega) h40 hk1 hk3).mono ?_); rintro e w_r ⟨s_r, A_r, n_r, c_r, B_r, m_r, d_r, rfl, r, hh⟩
       try replace p := p.below hh
       try replace q := q.below hh
       try replace XA := XA.below hh
       try replace XB := XB.below hh
       try replace Z := Z.below hh
       replace hb := bend hb hh
       have zf0 := Z.f0
       have zf1 := Z.f1
       have zf2 := Z.f2
       have z0 := Z.c0
       have z1 := Z.c1
       have z2 := Z.c2))
  go_wp2_with fail
  have Z2 := Z.set3 (.bool s_r) (.slice A_r n_r c_r) (.slice B_r m_r d_r)
  have g0 := Z2.c0
  have g1 := Z2.c1
  have g2 := Z2.c2
  refine bodyPost_ret (v := .agg #[.bool s_r, .slice A_r n_r c_r, .slice B_r m_r d_r]) (by simp [results, Tryz.results157, go_sem, g0, g1, g2]) rfl ?_
  exact ⟨s_r, A_r, n_r, c_r, B_r, m_r, d_r, rfl, r.set3 Z _ _ _, below_set3 hb (by omega) _ _ _⟩
set_option maxRecDepth 100000 in
set_option maxHeartbeats 4000000 in
theorem made_sub {w : World} {g1 g2 k k2 : Nat} {x y x2 y2 : Rat} {s_p t_p : Bool} {A_p B_p E_p F_p : Option Addr} {n_p c_p m_p d_p i_p e_p j_p f_p : Nat} {s_q t_q : Bool} {A_q B_q E_q F_q : Option Addr} {n_q c_q m_q d_q i_q e_q j_q f_q : Nat} (XA : B6 w g1 (.bool s_p) (.slice A_p n_p c_p) (.slice B_p m_p d_p) (.bool t_p) (.slice E_p i_p e_p) (.slice F_p j_p f_p)) (XB : B6 w g2 (.bool s_q) (.slice A_q n_q c_q) (.slice B_q m_q d_q) (.bool t_q) (.slice E_q i_q e_q) (.slice F_q j_q f_q)) (p : PR w s_p A_p n_p c_p B_p m_p d_p t_p E_p i_p e_p F_p j_p f_p x y k) (q : PR w s_q A_q n_q c_q B_q m_q d_q t_q E_q i_q e_q F_q j_q f_q x2 y2 k2) (hk : k ≤ 300) (hk2 : k2 ≤ 300) (h40 : k ≤ 400 ∨ k2 ≤ 400) (hk1 : 1 ≤ k) (hk3 : 1 ≤ k2) :
    Calls Tryz.prog 155 #[.func (.func 157) #[] #[.pointer (some ⟨g1, 0, none⟩), .pointer (some ⟨g2, 0, none⟩)]] w (GivesPt w (x - x2) (y - y2) (k + k2 + 1)) := by
  go_enter Tryz.func155, Tryz.ntmps155
  go_upto_region 1 with (fail)
  generalize hW : (w.alloc (Obj.cells #[Value.bool false, Value.slice none 0 0, Value.slice none 0 0, Value.bool false, Value.slice none 0 0, Value.slice none 0 0] 83)) = W
  have hb : Below w.heap.size w W := by subst hW; exact ((Below.refl _ _).alloc (Nat.le_refl _) _)
  have Z : B6 W (w.heap.size) (Value.bool false) (Value.slice none 0 0) (Value.slice none 0 0) (Value.bool false) (Value.slice none 0 0) (Value.slice none 0 0) := by subst hW; exact B6.new' _ _ _ _ _ _ _ _ rfl
  have hzW : W.heap.size = w.heap.size + 1 := by subst hW; simp
  clear hW
  replace p := p.below hb
  replace q := q.below hb
  replace XA := XA.below hb
  replace XB := XB.below hb
  go_wp2_with (first
      | (go_at_call 157; (with_reducible refine (sub1_x XA XB p q hk hk2 h40 hk1 hk3).mono ?_); rintro e w_r ⟨s_r, A_r, n_r, c_r, B_r, m_r, d_r, rfl, r, hh⟩
         try replace p := p.below hh
         try replace q := q.below hh
         try replace XA := XA.below hh
         try replace XB := XB.below hh
         try replace Z := Z.below hh
         replace hb := bend hb hh)
      | (go_at_call 157; (with_reducible refine (sub1_y XA XB p q hk hk2 h40 hk1 hk3).mono ?_); rintro e w_u ⟨s_u, A_u, n_u, c_u, B_u, m_u, d_u, rfl, u, hh⟩
         try replace p := p.below hh
         try replace q := q.below hh
         try replace r := r.below hh
         try replace XA := XA.below hh
         try replace XB := XB.below hh
         try replace Z := Z.below hh
         replace hb := bend hb hh
         have zg0 := Z.f0
         have zg1 := Z.f1
         have zg2 := Z.f2
         have zg3 := Z.f3
         have zg4 := Z.f4
         have zg5 := Z.f5
         have zc0 := Z.c0
         have zc1 := Z.c1
         have zc2 := Z.c2
         have zc3 := Z.c3
         have zc4 := Z.c4
         have zc5 := Z.c5))
  have Z2 := Z.set6 (.bool s_r) (.slice A_r n_r c_r) (.slice B_r m_r d_r) (.bool s_u) (.slice A_u n_u c_u) (.slice B_u m_u d_u)
  have g0 := Z2.c0
  have g1 := Z2.c1
  have g2 := Z2.c2
  have g3 := Z2.c3
  have g4 := Z2.c4
  have g5 := Z2.c5
  refine bodyPost_ret (v := .agg #[.bool s_r, .slice A_r n_r c_r, .slice B_r m_r d_r, .bool s_u, .slice A_u n_u c_u, .slice B_u m_u d_u]) (by simp [results, Tryz.results155, go_sem, g0, g1, g2, g3, g4, g5]) rfl ?_
  exact ⟨_, _, _, _, _, _, _, _, _, _, _, _, _, _, rfl, (show PG _ _ _ _ _ _ _ _ _ _ _ _ _ _ _ _ _ _ from ⟨r, u⟩).set6 Z _ _ _ _ _ _, below_set6 hb (by omega) _ _ _ _ _ _⟩
set_option maxRecDepth 100000 in
set_option maxHeartbeats 4000000 in
theorem psub_p {w : World} {k k2 : Nat} {x y x2 y2 : Rat} {s_p t_p : Bool} {A_p B_p E_p F_p : Option Addr} {n_p c_p m_p d_p i_p e_p j_p f_p : Nat} {s_q t_q : Bool} {A_q B_q E_q F_q : Option Addr} {n_q c_q m_q d_q i_q e_q j_q f_q : Nat} (p : PR w s_p A_p n_p c_p B_p m_p d_p t_p E_p i_p e_p F_p j_p f_p x y k) (q : PR w s_q A_q n_q c_q B_q m_q d_q t_q E_q i_q e_q F_q j_q f_q x2 y2 k2) (hk : k ≤ 300) (hk2 : k2 ≤ 300) (h40 : k ≤ 400 ∨ k2 ≤ 400) (hk1 : 1 ≤ k) (hk3 : 1 ≤ k2) :
    Calls Tryz.prog 75 #[.agg #[.bool s_p, .slice A_p n_p c_p, .slice B_p m_p d_p, .bool t_p, .slice E_p i_p e_p, .slice F_p j_p f_p], .agg #[.bool s_q, .slice A_q n_q c_q, .slice B_q m_q d_q, .bool t_q, .slice E_q i_q e_q, .slice F_q j_q f_q]] w (GivesPt w (x - x2) (y - y2) (k + k2 + 1)) := by
  have hmf : ∀ (fn : Fn) (first cap : Array Value) (w : World), (Instr.makeFunc fn first cap).run Tryz.prog w = .ok (.func fn first cap) w := fun _ _ _ _ => rfl
  go_enter Tryz.func75, Tryz.ntmps75
  go_upto_region 1 with (fail)
  generalize hW : (((w.alloc (Obj.cells #[Value.bool s_p, Value.slice A_p n_p c_p, Value.slice B_p m_p d_p, Value.bool t_p, Value.slice E_p i_p e_p, Value.slice F_p j_p f_p] 83)).alloc (Obj.cells #[Value.bool s_q, Value.slice A_q n_q c_q, Value.slice B_q m_q d_q, Value.bool t_q, Value.slice E_q i_q e_q, Value.slice F_q j_q f_q] 83)).alloc (Obj.cells #[Value.bool false, Value.slice none 0 0, Value.slice none 0 0, Value.bool false, Value.slice none 0 0, Value.slice none 0 0] 83)) = W
  have hb : Below w.heap.size w W := by subst hW; exact ((((Below.refl _ _).alloc (Nat.le_refl _) _).alloc (by simp) _).alloc (by simp; omega) _)
  have XA : B6 W (w.heap.size) (Value.bool s_p) (Value.slice A_p n_p c_p) (Value.slice B_p m_p d_p) (Value.bool t_p) (Value.slice E_p i_p e_p) (Value.slice F_p j_p f_p) := by subst hW; exact ((B6.new' _ _ _ _ _ _ _ _ rfl).alloc _).alloc _
  have XB : B6 W (w.heap.size + 1) (Value.bool s_q) (Value.slice A_q n_q c_q) (Value.slice B_q m_q d_q) (Value.bool t_q) (Value.slice E_q i_q e_q) (Value.slice F_q j_q f_q) := by subst hW; exact (B6.new' _ _ _ _ _ _ _ _ (by simp)).alloc _
  have Z : B6 W (w.heap.size + 1 + 1) (Value.bool false) (Value.slice none 0 0) (Value.slice none 0 0) (Value.bool false) (Value.slice none 0 0) (Value.slice none 0 0) := by subst hW; exact B6.new' _ _ _ _ _ _ _ _ (by simp)
  have hzW : W.heap.size = w.heap.size + 3 := by subst hW; simp
  clear hW
  replace p := p.below hb
  replace q := q.below hb
  go_wp2_with (first
      | (go_at_call 155; (with_reducible refine (made_sub XA XB p q hk hk2 h40 hk1 hk3).mono ?_); rintro e w_r ⟨s_r, A_r, n_r, c_r, B_r, m_r, d_r, t_r, E_r, i_r, e_r, F_r, j_r, f_r, rfl, r, hh⟩
         try replace Z := Z.below hh
         replace hb := bend hb hh
         have zg0 := Z.f0
         have zg1 := Z.f1
         have zg2 := Z.f2
         have zg3 := Z.f3
         have zg4 := Z.f4
         have zg5 := Z.f5
         have zc0 := Z.c0
         have zc1 := Z.c1
         have zc2 := Z.c2
         have zc3 := Z.c3
         have zc4 := Z.c4
         have zc5 := Z.c5))
  have Z2 := Z.set6 (.bool s_r) (.slice A_r n_r c_r) (.slice B_r m_r d_r) (.bool t_r) (.slice E_r i_r e_r) (.slice F_r j_r f_r)
  have g0 := Z2.c0
  have g1 := Z2.c1
  have g2 := Z2.c2
  have g3 := Z2.c3
  have g4 := Z2.c4
  have g5 := Z2.c5
  refine bodyPost_ret (v := .agg #[.bool s_r, .slice A_r n_r c_r, .slice B_r m_r d_r, .bool t_r, .slice E_r i_r e_r, .slice F_r j_r f_r]) (by simp [results, Tryz.results75, go_sem, g0, g1, g2, g3, g4, g5]) rfl ?_
  exact ⟨s_r, A_r, n_r, c_r, B_r, m_r, d_r, t_r, E_r, i_r, e_r, F_r, j_r, f_r, rfl, r.set6 Z _ _ _ _ _ _, below_set6 hb (by omega) _ _ _ _ _ _⟩
end Go.Proofs.YtlkjkhpjhllapaaGreat
namespace Go.Proofs.YtlkjkhpjhllapaaGreat
open Go Go.RowKit
theorem cmpQ_nul {v u : Rat} : cmpQ v u = 0 ↔ v = u := by
  unfold cmpQ
  split
  · rename_i q; exact ⟨fun e => absurd e (by decide), fun e => by rw [e] at q; exact absurd q Rat.lt_irrefl⟩
  · split
    · rename_i q; exact ⟨fun e => absurd e (by decide), fun e => by rw [e] at q; exact absurd q Rat.lt_irrefl⟩
    · rename_i q r; exact ⟨fun _ => Rat.le_antisymm (Rat.not_lt.1 r) (Rat.not_lt.1 q), fun _ => rfl⟩
set_option maxRecDepth 100000 in
set_option maxHeartbeats 8000000 in
theorem pdot_p {w : World} {k k2 : Nat} {x y x2 y2 : Rat} {s_p t_p : Bool} {A_p B_p E_p F_p : Option Addr} {n_p c_p m_p d_p i_p e_p j_p f_p : Nat} {s_q t_q : Bool} {A_q B_q E_q F_q : Option Addr} {n_q c_q m_q d_q i_q e_q j_q f_q : Nat} (p : PR w s_p A_p n_p c_p B_p m_p d_p t_p E_p i_p e_p F_p j_p f_p x y k) (q : PR w s_q A_q n_q c_q B_q m_q d_q t_q E_q i_q e_q F_q j_q f_q x2 y2 k2) (hk : k + k2 ≤ 200) (h1 : 1 ≤ k) (h2 : 1 ≤ k2) :
    Calls Tryz.prog 81 #[.agg #[.bool s_p, .slice A_p n_p c_p, .slice B_p m_p d_p, .bool t_p, .slice E_p i_p e_p, .slice F_p j_p f_p], .agg #[.bool s_q, .slice A_q n_q c_q, .slice B_q m_q d_q, .bool t_q, .slice E_q i_q e_q, .slice F_q j_q f_q]] w (GivesQ w (x * x2 + y * y2) (k + k2 + (k + k2) + 1)) := by
  go_enter Tryz.func81, Tryz.ntmps81
  go_upto_region 1 with (fail)
  generalize hW : (((w.alloc (Obj.cells #[Value.bool s_p, Value.slice A_p n_p c_p, Value.slice B_p m_p d_p, Value.bool t_p, Value.slice E_p i_p e_p, Value.slice F_p j_p f_p] 83)).alloc (Obj.cells #[Value.bool s_q, Value.slice A_q n_q c_q, Value.slice B_q m_q d_q, Value.bool t_q, Value.slice E_q i_q e_q, Value.slice F_q j_q f_q] 83)).alloc (Obj.cells #[Value.bool false, Value.slice none 0 0, Value.slice none 0 0] 26)) = W
  have hb : Below w.heap.size w W := by subst hW; exact ((((Below.refl _ _).alloc (Nat.le_refl _) _).alloc (by simp) _).alloc (by simp; omega) _)
  have XA : B6 W (w.heap.size) (Value.bool s_p) (Value.slice A_p n_p c_p) (Value.slice B_p m_p d_p) (Value.bool t_p) (Value.slice E_p i_p e_p) (Value.slice F_p j_p f_p) := by subst hW; exact ((B6.new' _ _ _ _ _ _ _ _ rfl).alloc _).alloc _
  have XB : B6 W (w.heap.size + 1) (Value.bool s_q) (Value.slice A_q n_q c_q) (Value.slice B_q m_q d_q) (Value.bool t_q) (Value.slice E_q i_q e_q) (Value.slice F_q j_q f_q) := by subst hW; exact (B6.new' _ _ _ _ _ _ _ _ (by simp)).alloc _
  have Z : B3 W (w.heap.size + 1 + 1) (Value.bool false) (Value.slice none 0 0) (Value.slice none 0 0) := by subst hW; exact B3.new' _ _ _ _ _ (by simp)
  have hzW : W.heap.size = w.heap.size + 3 := by subst hW; simp
  clear hW
  replace p := p.below hb
  replace q := q.below hb
  replace p := p.below (Below.refl _ _).drew
  replace q := q.below (Below.refl _ _).drew
  replace XA := XA.below (Below.refl _ _).drew
  replace XB := XB.below (Below.refl _ _).drew
  replace Z := Z.below (Below.refl _ _).drew
  replace hb := hb.drew
  go_region_held3 (fun w' => w'.cell? ⟨w.heap.size, 0, none⟩ = some (.bool s_p) ∧ w'.cell? ⟨w.heap.size, 1, none⟩ = some (.slice A_p n_p c_p) ∧ w'.cell? ⟨w.heap.size, 2, none⟩ = some (.slice B_p m_p d_p) ∧ w'.cell? ⟨w.heap.size, 3, none⟩ = some (.bool t_p) ∧ w'.cell? ⟨w.heap.size, 4, none⟩ = some (.slice E_p i_p e_p) ∧ w'.cell? ⟨w.heap.size, 5, none⟩ = some (.slice F_p j_p f_p) ∧ w'.cell? ⟨w.heap.size + 1, 0, none⟩ = some (.bool s_q) ∧ w'.cell? ⟨w.heap.size + 1, 1, none⟩ = some (.slice A_q n_q c_q) ∧ w'.cell? ⟨w.heap.size + 1, 2, none⟩ = some (.slice B_q m_q d_q) ∧ w'.cell? ⟨w.heap.size + 1, 3, none⟩ = some (.bool t_q) ∧ w'.cell? ⟨w.heap.size + 1, 4, none⟩ = some (.slice E_q i_q e_q) ∧ w'.cell? ⟨w.heap.size + 1, 5, none⟩ = some (.slice F_q j_q f_q))
    (first | with_reducible exact ⟨XA.c0, XA.c1, XA.c2, XA.c3, XA.c4, XA.c5, XB.c0, XB.c1, XB.c2, XB.c3, XB.c4, XB.c5⟩ | with_reducible exact ⟨(set3_cell _ _ _ _ _ _ _ (by omega)).trans (XA.c0), (set3_cell _ _ _ _ _ _ _ (by omega)).trans (XA.c1), (set3_cell _ _ _ _ _ _ _ (by omega)).trans (XA.c2), (set3_cell _ _ _ _ _ _ _ (by omega)).trans (XA.c3), (set3_cell _ _ _ _ _ _ _ (by omega)).trans (XA.c4), (set3_cell _ _ _ _ _ _ _ (by omega)).trans (XA.c5), (set3_cell _ _ _ _ _ _ _ (by omega)).trans (XB.c0), (set3_cell _ _ _ _ _ _ _ (by omega)).trans (XB.c1), (set3_cell _ _ _ _ _ _ _ (by omega)).trans (XB.c2), (set3_cell _ _ _ _ _ _ _ (by omega)).trans (XB.c3), (set3_cell _ _ _ _ _ _ _ (by omega)).trans (XB.c4), (set3_cell _ _ _ _ _ _ _ (by omega)).trans (XB.c5)⟩)
    (first
    | (go_at_call 26; (with_reducible refine (rmul_q p.qx q.qx (by omega) (by omega) (.inl (by omega)) h1 h2).mono ?_); rintro e w_r1 ⟨s_r1, A_r1, n_r1, c_r1, B_r1, m_r1, d_r1, rfl, r1, hh⟩
       try replace p := p.below hh
       try replace q := q.below hh
       try replace r2 := r2.below hh
       try replace r3 := r3.below hh
       try replace XA := XA.below hh
       try replace XB := XB.below hh
       try replace Z := Z.below hh
       replace hb := bend hb hh)
    | (go_at_call 26; (with_reducible refine (rmul_q p.qy q.qy (by omega) (by omega) (.inl (by omega)) h1 h2).mono ?_); rintro e w_r2 ⟨s_r2, A_r2, n_r2, c_r2, B_r2, m_r2, d_r2, rfl, r2, hh⟩
       try replace p := p.below hh
       try replace q := q.below hh
       try replace r1 := r1.below hh
       try replace r3 := r3.below hh
       try replace XA := XA.below hh
       try replace XB := XB.below hh
       try replace Z := Z.below hh
       replace hb := bend hb hh)
    | (go_at_call 22; (with_reducible refine (radd_q r1.qr r2.qr (by omega) (by omega) (.inl (by omega)) (by omega) (by omega)).mono ?_); rintro e w_r3 ⟨s_r3, A_r3, n_r3, c_r3, B_r3, m_r3, d_r3, rfl, r3, hh⟩
       try replace p := p.below hh
       try replace q := q.below hh
       try replace r1 := r1.below hh
       try replace r2 := r2.below hh
       try replace XA := XA.below hh
       try replace XB := XB.below hh
       try replace Z := Z.below hh
       replace hb := bend hb hh
       have zf0 := Z.f0
       have zf1 := Z.f1
       have zf2 := Z.f2
       have z0 := Z.c0
       have z1 := Z.c1
       have z2 := Z.c2))
  go_wp2_with fail
  have Z2 := Z.set3 (.bool s_r3) (.slice A_r3 n_r3 c_r3) (.slice B_r3 m_r3 d_r3)
  have g0 := Z2.c0
  have g1 := Z2.c1
  have g2 := Z2.c2
  refine bodyPost_ret (v := .agg #[.bool s_r3, .slice A_r3 n_r3 c_r3, .slice B_r3 m_r3 d_r3]) (by simp [results, Tryz.results81, go_sem, g0, g1, g2]) rfl ?_
  exact ⟨s_r3, A_r3, n_r3, c_r3, B_r3, m_r3, d_r3, rfl, r3.set3 Z _ _ _, below_set3 hb (by omega) _ _ _⟩
def GivesQQ (w : World) (u v : Rat) (k : Nat) (en : Ending) (w' : World) : Prop :=
  ∃ s A n c A' n' c' t B m d B' m' d', en = .returned (.tuple #[.agg #[.bool s, .slice A n c, .slice A' n' c'], .agg #[.bool t, .slice B m d, .slice B' m' d']]) ∧ QG w' s A n c A' n' c' u k ∧ QG w' t B m d B' m' d' v k ∧ Below w.heap.size w w'
theorem B3.rest {W W' : World} {g k : Nat} {x y z : Value} (h : B3 W g x y z) (hne : g ≠ k) (ho : Only k W W') : B3 W' g x y z := (ho.block g h.lt hne).trans h
set_option maxRecDepth 100000 in
set_option maxHeartbeats 8000000 in
theorem pcw_p {w : World} {k k2 : Nat} {x y x2 y2 : Rat} {s_p t_p : Bool} {A_p B_p E_p F_p : Option Addr} {n_p c_p m_p d_p i_p e_p j_p f_p : Nat} {s_q t_q : Bool} {A_q B_q E_q F_q : Option Addr} {n_q c_q m_q d_q i_q e_q j_q f_q : Nat} (p : PR w s_p A_p n_p c_p B_p m_p d_p t_p E_p i_p e_p F_p j_p f_p x y k) (q : PR w s_q A_q n_q c_q B_q m_q d_q t_q E_q i_q e_q F_q j_q f_q x2 y2 k2) (hk : k + k2 ≤ 200) (h1 : 1 ≤ k) (h2 : 1 ≤ k2) :
    Calls Tryz.prog 159 #[.agg #[.bool s_p, .slice A_p n_p c_p, .slice B_p m_p d_p, .bool t_p, .slice E_p i_p e_p, .slice F_p j_p f_p], .agg #[.bool s_q, .slice A_q n_q c_q, .slice B_q m_q d_q, .bool t_q, .slice E_q i_q e_q, .slice F_q j_q f_q]] w (GivesQQ w (x * y2) (y * x2) (k + k2)) := by
  go_enter Tryz.func159, Tryz.ntmps159
  go_upto_region 1 with (fail)
  generalize hW : ((((w.alloc (Obj.cells #[Value.bool s_p, Value.slice A_p n_p c_p, Value.slice B_p m_p d_p, Value.bool t_p, Value.slice E_p i_p e_p, Value.slice F_p j_p f_p] 83)).alloc (Obj.cells #[Value.bool s_q, Value.slice A_q n_q c_q, Value.slice B_q m_q d_q, Value.bool t_q, Value.slice E_q i_q e_q, Value.slice F_q j_q f_q] 83)).alloc (Obj.cells #[Value.bool false, Value.slice none 0 0, Value.slice none 0 0] 26)).alloc (Obj.cells #[Value.bool false, Value.slice none 0 0, Value.slice none 0 0] 26)) = W
  have hb : Below w.heap.size w W := by subst hW; exact (((((Below.refl _ _).alloc (Nat.le_refl _) _).alloc (by simp) _).alloc (by simp; omega) _).alloc (by simp; omega) _)
  have XA : B6 W (w.heap.size) (Value.bool s_p) (Value.slice A_p n_p c_p) (Value.slice B_p m_p d_p) (Value.bool t_p) (Value.slice E_p i_p e_p) (Value.slice F_p j_p f_p) := by subst hW; exact (((B6.new' _ _ _ _ _ _ _ _ rfl).alloc _).alloc _).alloc _
  have XB : B6 W (w.heap.size + 1) (Value.bool s_q) (Value.slice A_q n_q c_q) (Value.slice B_q m_q d_q) (Value.bool t_q) (Value.slice E_q i_q e_q) (Value.slice F_q j_q f_q) := by subst hW; exact ((B6.new' _ _ _ _ _ _ _ _ (by simp)).alloc _).alloc _
  have Z : B3 W (w.heap.size + 1 + 1) (Value.bool false) (Value.slice none 0 0) (Value.slice none 0 0) := by subst hW; exact (B3.new' _ _ _ _ _ (by simp)).alloc _
  have Y : B3 W (w.heap.size + 1 + 1 + 1) (Value.bool false) (Value.slice none 0 0) (Value.slice none 0 0) := by subst hW; exact B3.new' _ _ _ _ _ (by simp)
  have hzW : W.heap.size = w.heap.size + 4 := by subst hW; simp
  clear hW
  replace p := p.below hb
  replace q := q.below hb
  replace p := p.below (Below.refl _ _).drew
  replace q := q.below (Below.refl _ _).drew
  replace XA := XA.below (Below.refl _ _).drew
  replace XB := XB.below (Below.refl _ _).drew
  replace Z := Z.below (Below.refl _ _).drew
  replace Y := Y.below (Below.refl _ _).drew
  replace hb := hb.drew
  go_region_held3 (fun w' => w'.cell? ⟨w.heap.size, 0, none⟩ = some (.bool s_p) ∧ w'.cell? ⟨w.heap.size, 1, none⟩ = some (.slice A_p n_p c_p) ∧ w'.cell? ⟨w.heap.size, 2, none⟩ = some (.slice B_p m_p d_p) ∧ w'.cell? ⟨w.heap.size, 3, none⟩ = some (.bool t_p) ∧ w'.cell? ⟨w.heap.size, 4, none⟩ = some (.slice E_p i_p e_p) ∧ w'.cell? ⟨w.heap.size, 5, none⟩ = some (.slice F_p j_p f_p) ∧ w'.cell? ⟨w.heap.size + 1, 0, none⟩ = some (.bool s_q) ∧ w'.cell? ⟨w.heap.size + 1, 1, none⟩ = some (.slice A_q n_q c_q) ∧ w'.cell? ⟨w.heap.size + 1, 2, none⟩ = some (.slice B_q m_q d_q) ∧ w'.cell? ⟨w.heap.size + 1, 3, none⟩ = some (.bool t_q) ∧ w'.cell? ⟨w.heap.size + 1, 4, none⟩ = some (.slice E_q i_q e_q) ∧ w'.cell? ⟨w.heap.size + 1, 5, none⟩ = some (.slice F_q j_q f_q))
    (first | with_reducible exact ⟨XA.c0, XA.c1, XA.c2, XA.c3, XA.c4, XA.c5, XB.c0, XB.c1, XB.c2, XB.c3, XB.c4, XB.c5⟩ | with_reducible exact ⟨(set3_cell _ _ _ _ _ _ _ (by omega)).trans (XA.c0), (set3_cell _ _ _ _ _ _ _ (by omega)).trans (XA.c1), (set3_cell _ _ _ _ _ _ _ (by omega)).trans (XA.c2), (set3_cell _ _ _ _ _ _ _ (by omega)).trans (XA.c3), (set3_cell _ _ _ _ _ _ _ (by omega)).trans (XA.c4), (set3_cell _ _ _ _ _ _ _ (by omega)).trans (XA.c5), (set3_cell _ _ _ _ _ _ _ (by omega)).trans (XB.c0), (set3_cell _ _ _ _ _ _ _ (by omega)).trans (XB.c1), (set3_cell _ _ _ _ _ _ _ (by omega)).trans (XB.c2), (set3_cell _ _ _ _ _ _ _ (by omega)).trans (XB.c3), (set3_cell _ _ _ _ _ _ _ (by omega)).trans (XB.c4), (set3_cell _ _ _ _ _ _ _ (by omega)).trans (XB.c5)⟩ | with_reducible exact ⟨(set3_cell _ _ _ _ _ _ _ (by omega)).trans ((set3_cell _ _ _ _ _ _ _ (by omega)).trans XA.c0), (set3_cell _ _ _ _ _ _ _ (by omega)).trans ((set3_cell _ _ _ _ _ _ _ (by omega)).trans XA.c1), (set3_cell _ _ _ _ _ _ _ (by omega)).trans ((set3_cell _ _ _ _ _ _ _ (by omega)).trans XA.c2), (set3_cell _ _ _ _ _ _ _ (by omega)).trans ((set3_cell _ _ _ _ _ _ _ (by omega)).trans XA.c3), (set3_cell _ _ _ _ _ _ _ (by omega)).trans ((set3_cell _ _ _ _ _ _ _ (by omega)).trans XA.c4), (set3_cell _ _ _ _ _ _ _ (by omega)).trans ((set3_cell _ _ _ _ _ _ _ (by omega)).trans XA.c5), (set3_cell _ _ _ _ _ _ _ (by omega)).trans ((set3_cell _ _ _ _ _ _ _ (by omega)).trans XB.c0), (set3_cell _ _ _ _ _ _ _ (by omega)).trans ((set3_cell _ _ _ _ _ _ _ (by omega)).trans XB.c1), (set3_cell _ _ _ _ _ _ _ (by omega)).trans ((set3_cell _ _ _ _ _ _ _ (by omega)).trans XB.c2), (set3_cell _ _ _ _ _ _ _ (by omega)).trans ((set3_cell _ _ _ _ _ _ _ (by omega)).trans XB.c3), (set3_cell _ _ _ _ _ _ _ (by omega)).trans ((set3_cell _ _ _ _ _ _ _ (by omega)).trans XB.c4), (set3_cell _ _ _ _ _ _ _ (by omega)).trans ((set3_cell _ _ _ _ _ _ _ (by omega)).trans XB.c5)⟩)
    (first
    | (go_at_call 26; (with_reducible refine (rmul_q p.qx q.qy (by omega) (by omega) (.inl (by omega)) h1 h2).mono ?_); rintro e w_r1 ⟨s_r1, A_r1, n_r1, c_r1, B_r1, m_r1, d_r1, rfl, r1, hh⟩
       try replace p := p.below hh
       try replace q := q.below hh
       try replace r2 := r2.below hh
       try replace XA := XA.below hh
       try replace XB := XB.below hh
       try replace Z := Z.below hh
       try replace Y := Y.below hh
       replace hb := bend hb hh
       have zaf0 := Z.f0
       have zaf1 := Z.f1
       have zaf2 := Z.f2
       have zac0 := Z.c0
       have zac1 := Z.c1
       have zac2 := Z.c2
       have yaf0 := Y.f0
       have yaf1 := Y.f1
       have yaf2 := Y.f2
       have yac0 := Y.c0
       have yac1 := Y.c1
       have yac2 := Y.c2)
    | (go_at_call 26; (with_reducible refine (rmul_q p.qy q.qx (by omega) (by omega) (.inl (by omega)) h1 h2).mono ?_); rintro e w_r2 ⟨s_r2, A_r2, n_r2, c_r2, B_r2, m_r2, d_r2, rfl, r2, hh⟩
       try replace p := p.below hh
       try replace q := q.below hh
       try replace r1 := r1.below hh
       try replace XA := XA.below hh
       try replace XB := XB.below hh
       try replace Z := Z.below hh
       try replace Y := Y.below hh
       replace hb := bend hb hh
       have zaf0 := Z.f0
       have zaf1 := Z.f1
       have zaf2 := Z.f2
       have zac0 := Z.c0
       have zac1 := Z.c1
       have zac2 := Z.c2
       have yaf0 := Y.f0
       have yaf1 := Y.f1
       have yaf2 := Y.f2
       have yac0 := Y.c0
       have yac1 := Y.c1
       have yac2 := Y.c2))
  have hgz : w.heap.size + 1 + 1 ≠ w.heap.size + 1 + 1 + 1 := by omega
  have ho1 : Only (w.heap.size + 1 + 1) w_r2 (((w_r2.setCell ⟨w.heap.size + 1 + 1, 0, none⟩ (.bool s_r1)).setCell ⟨w.heap.size + 1 + 1, 1, none⟩ (.slice A_r1 n_r1 c_r1)).setCell ⟨w.heap.size + 1 + 1, 2, none⟩ (.slice B_r1 m_r1 d_r1)) := (((Only.refl _ _).setCell 0 _).setCell 1 _).setCell 2 _
  have Z1 := Z.set3 (.bool s_r1) (.slice A_r1 n_r1 c_r1) (.slice B_r1 m_r1 d_r1)
  have Y1 := Y.rest hgz.symm ho1
  have r11 := r1.set3 Z (.bool s_r1) (.slice A_r1 n_r1 c_r1) (.slice B_r1 m_r1 d_r1)
  have r21 := r2.set3 Z (.bool s_r1) (.slice A_r1 n_r1 c_r1) (.slice B_r1 m_r1 d_r1)
  have hb1 := below_set3 hb (show w.heap.size ≤ w.heap.size + 1 + 1 by omega) (.bool s_r1) (.slice A_r1 n_r1 c_r1) (.slice B_r1 m_r1 d_r1)
  clear Z Y r1 r2 hb
  generalize hW1 : (((w_r2.setCell ⟨w.heap.size + 1 + 1, 0, none⟩ (.bool s_r1)).setCell ⟨w.heap.size + 1 + 1, 1, none⟩ (.slice A_r1 n_r1 c_r1)).setCell ⟨w.heap.size + 1 + 1, 2, none⟩ (.slice B_r1 m_r1 d_r1)) = W1 at *
  clear hW1
  have ho2 : Only (w.heap.size + 1 + 1 + 1) W1 (((W1.setCell ⟨w.heap.size + 1 + 1 + 1, 0, none⟩ (.bool s_r2)).setCell ⟨w.heap.size + 1 + 1 + 1, 1, none⟩ (.slice A_r2 n_r2 c_r2)).setCell ⟨w.heap.size + 1 + 1 + 1, 2, none⟩ (.slice B_r2 m_r2 d_r2)) := (((Only.refl _ _).setCell 0 _).setCell 1 _).setCell 2 _
  have Z2 := Z1.rest hgz ho2
  have Y2 := Y1.set3 (.bool s_r2) (.slice A_r2 n_r2 c_r2) (.slice B_r2 m_r2 d_r2)
  have r12 := r11.set3 Y1 (.bool s_r2) (.slice A_r2 n_r2 c_r2) (.slice B_r2 m_r2 d_r2)
  have r22 := r21.set3 Y1 (.bool s_r2) (.slice A_r2 n_r2 c_r2) (.slice B_r2 m_r2 d_r2)
  have hb2 := below_set3 hb1 (show w.heap.size ≤ w.heap.size + 1 + 1 + 1 by omega) (.bool s_r2) (.slice A_r2 n_r2 c_r2) (.slice B_r2 m_r2 d_r2)
  clear Z1 Y1 r11 r21 hb1 ho1 ho2
  generalize hW2 : (((W1.setCell ⟨w.heap.size + 1 + 1 + 1, 0, none⟩ (.bool s_r2)).setCell ⟨w.heap.size + 1 + 1 + 1, 1, none⟩ (.slice A_r2 n_r2 c_r2)).setCell ⟨w.heap.size + 1 + 1 + 1, 2, none⟩ (.slice B_r2 m_r2 d_r2)) = W2 at *
  clear hW2
  go_wp2_with fail
  have g0 := Z2.c0
  have g1 := Z2.c1
  have g2 := Z2.c2
  have y0 := Y2.c0
  have y1 := Y2.c1
  have yy2 := Y2.c2
  refine bodyPost_ret (v := .tuple #[.agg #[.bool s_r1, .slice A_r1 n_r1 c_r1, .slice B_r1 m_r1 d_r1], .agg #[.bool s_r2, .slice A_r2 n_r2 c_r2, .slice B_r2 m_r2 d_r2]]) (by simp [results, Tryz.results159, go_sem, g0, g1, g2, y0, y1, yy2]) rfl ?_
  exact ⟨_, _, _, _, _, _, _, _, _, _, _, _, _, _, rfl, r12, r22, hb2⟩
set_option maxRecDepth 100000 in
set_option maxHeartbeats 4000000 in
theorem pcross_p {w : World} {k k2 : Nat} {x y x2 y2 : Rat} {s_p t_p : Bool} {A_p B_p E_p F_p : Option Addr} {n_p c_p m_p d_p i_p e_p j_p f_p : Nat} {s_q t_q : Bool} {A_q B_q E_q F_q : Option Addr} {n_q c_q m_q d_q i_q e_q j_q f_q : Nat} (p : PR w s_p A_p n_p c_p B_p m_p d_p t_p E_p i_p e_p F_p j_p f_p x y k) (q : PR w s_q A_q n_q c_q B_q m_q d_q t_q E_q i_q e_q F_q j_q f_q x2 y2 k2) (hk : k + k2 ≤ 200) (h1 : 1 ≤ k) (h2 : 1 ≤ k2) :
    Calls Tryz.prog 83 #[.agg #[.bool s_p, .slice A_p n_p c_p, .slice B_p m_p d_p, .bool t_p, .slice E_p i_p e_p, .slice F_p j_p f_p], .agg #[.bool s_q, .slice A_q n_q c_q, .slice B_q m_q d_q, .bool t_q, .slice E_q i_q e_q, .slice F_q j_q f_q]] w (GivesQ w (x * y2 - y * x2) (k + k2 + (k + k2) + 1)) := by
  go_enter Tryz.func83, Tryz.ntmps83
  go_upto_region 1 with (fail)
  generalize hW : (((w.alloc (Obj.cells #[Value.bool s_p, Value.slice A_p n_p c_p, Value.slice B_p m_p d_p, Value.bool t_p, Value.slice E_p i_p e_p, Value.slice F_p j_p f_p] 83)).alloc (Obj.cells #[Value.bool s_q, Value.slice A_q n_q c_q, Value.slice B_q m_q d_q, Value.bool t_q, Value.slice E_q i_q e_q, Value.slice F_q j_q f_q] 83)).alloc (Obj.cells #[Value.bool false, Value.slice none 0 0, Value.slice none 0 0] 26)) = W
  have hb : Below w.heap.size w W := by subst hW; exact ((((Below.refl _ _).alloc (Nat.le_refl _) _).alloc (by simp) _).alloc (by simp; omega) _)
  have XA : B6 W (w.heap.size) (Value.bool s_p) (Value.slice A_p n_p c_p) (Value.slice B_p m_p d_p) (Value.bool t_p) (Value.slice E_p i_p e_p) (Value.slice F_p j_p f_p) := by subst hW; exact ((B6.new' _ _ _ _ _ _ _ _ rfl).alloc _).alloc _
  have XB : B6 W (w.heap.size + 1) (Value.bool s_q) (Value.slice A_q n_q c_q) (Value.slice B_q m_q d_q) (Value.bool t_q) (Value.slice E_q i_q e_q) (Value.slice F_q j_q f_q) := by subst hW; exact (B6.new' _ _ _ _ _ _ _ _ (by simp)).alloc _
  have Z : B3 W (w.heap.size + 1 + 1) (Value.bool false) (Value.slice none 0 0) (Value.slice none 0 0) := by subst hW; exact B3.new' _ _ _ _ _ (by simp)
  have hzW : W.heap.size = w.heap.size + 3 := by subst hW; simp
  clear hW
  replace p := p.below hb
  replace q := q.below hb
  have xa0 := XA.c0
  have xa1 := XA.c1
  have xa2 := XA.c2
  have xa3 := XA.c3
  have xa4 := XA.c4
  have xa5 := XA.c5
  have xb0 := XB.c0
  have xb1 := XB.c1
  have xb2 := XB.c2
  have xb3 := XB.c3
  have xb4 := XB.c4
  have xb5 := XB.c5
  go_wp2_with (first
      | (go_at_call 159; (with_reducible refine (pcw_p p q hk h1 h2).mono ?_); rintro e w_u ⟨s_u, A_u, n_u, c_u, B_u, m_u, d_u, s_v, A_v, n_v, c_v, B_v, m_v, d_v, rfl, u, v, hh⟩
         try replace Z := Z.below hh
         replace hb := bend hb hh)
      | (go_at_call 24; (with_reducible refine (rsub_q u.qr v.qr (by omega) (by omega) (.inl (by omega)) (by omega) (by omega)).mono ?_); rintro e w_r ⟨s_r, A_r, n_r, c_r, B_r, m_r, d_r, rfl, r, hh⟩
         try replace Z := Z.below hh
         replace hb := bend hb hh
         have zf0 := Z.f0
         have zf1 := Z.f1
         have zf2 := Z.f2
         have z0 := Z.c0
         have z1 := Z.c1
         have z2 := Z.c2))
  have Z2 := Z.set3 (.bool s_r) (.slice A_r n_r c_r) (.slice B_r m_r d_r)
  have g0 := Z2.c0
  have g1 := Z2.c1
  have g2 := Z2.c2
  refine bodyPost_ret (v := .agg #[.bool s_r, .slice A_r n_r c_r, .slice B_r m_r d_r]) (by simp [results, Tryz.results83, go_sem, g0, g1, g2]) rfl ?_
  exact ⟨s_r, A_r, n_r, c_r, B_r, m_r, d_r, rfl, r.set3 Z _ _ _, below_set3 hb (by omega) _ _ _⟩
def orientQ (ax ay bx by_ cx cy : Rat) : Int := cmpQ ((bx - ax) * (cy - ay)) ((by_ - ay) * (cx - ax))
set_option maxRecDepth 100000 in
set_option maxHeartbeats 8000000 in
theorem porient_p {w : World} {k : Nat} {ax ay bx by_ cx cy : Rat} {s_p t_p : Bool} {A_p B_p E_p F_p : Option Addr} {n_p c_p m_p d_p i_p e_p j_p f_p : Nat} {s_q t_q : Bool} {A_q B_q E_q F_q : Option Addr} {n_q c_q m_q d_q i_q e_q j_q f_q : Nat} {s_r t_r : Bool} {A_r B_r E_r F_r : Option Addr} {n_r c_r m_r d_r i_r e_r j_r f_r : Nat} (p : PR w s_p A_p n_p c_p B_p m_p d_p t_p E_p i_p e_p F_p j_p f_p ax ay k) (q : PR w s_q A_q n_q c_q B_q m_q d_q t_q E_q i_q e_q F_q j_q f_q bx by_ k) (r : PR w s_r A_r n_r c_r B_r m_r d_r t_r E_r i_r e_r F_r j_r f_r cx cy k) (hk : k ≤ 40) (h1 : 1 ≤ k) :
    Calls Tryz.prog 88 #[.agg #[.bool s_p, .slice A_p n_p c_p, .slice B_p m_p d_p, .bool t_p, .slice E_p i_p e_p, .slice F_p j_p f_p], .agg #[.bool s_q, .slice A_q n_q c_q, .slice B_q m_q d_q, .bool t_q, .slice E_q i_q e_q, .slice F_q j_q f_q], .agg #[.bool s_r, .slice A_r n_r c_r, .slice B_r m_r d_r, .bool t_r, .slice E_r i_r e_r, .slice F_r j_r f_r]] w fun e w' => e = .returned (.int .i64 (orientQ ax ay bx by_ cx cy)) ∧ Below w.heap.size w w' := by
  go_enter Tryz.func88, Tryz.ntmps88
  go_upto_region 1 with (fail)
  generalize hW : (((w.alloc (Obj.cells #[Value.bool s_p, Value.slice A_p n_p c_p, Value.slice B_p m_p d_p, Value.bool t_p, Value.slice E_p i_p e_p, Value.slice F_p j_p f_p] 83)).alloc (Obj.cells #[Value.bool s_q, Value.slice A_q n_q c_q, Value.slice B_q m_q d_q, Value.bool t_q, Value.slice E_q i_q e_q, Value.slice F_q j_q f_q] 83)).alloc (Obj.cells #[Value.bool s_r, Value.slice A_r n_r c_r, Value.slice B_r m_r d_r, Value.bool t_r, Value.slice E_r i_r e_r, Value.slice F_r j_r f_r] 83)) = W
  have hb : Below w.heap.size w W := by subst hW; exact ((((Below.refl _ _).alloc (Nat.le_refl _) _).alloc (by simp) _).alloc (by simp; omega) _)
  have XA : B6 W (w.heap.size) (Value.bool s_p) (Value.slice A_p n_p c_p) (Value.slice B_p m_p d_p) (Value.bool t_p) (Value.slice E_p i_p e_p) (Value.slice F_p j_p f_p) := by subst hW; exact ((B6.new' _ _ _ _ _ _ _ _ rfl).alloc _).alloc _
  have XB : B6 W (w.heap.size + 1) (Value.bool s_q) (Value.slice A_q n_q c_q) (Value.slice B_q m_q d_q) (Value.bool t_q) (Value.slice E_q i_q e_q) (Value.slice F_q j_q f_q) := by subst hW; exact (B6.new' _ _ _ _ _ _ _ _ (by simp)).alloc _
  have XC : B6 W (w.heap.size + 1 + 1) (Value.bool s_r) (Value.slice A_r n_r c_r) (Value.slice B_r m_r d_r) (Value.bool t_r) (Value.slice E_r i_r e_r) (Value.slice F_r j_r f_r) := by subst hW; exact B6.new' _ _ _ _ _ _ _ _ (by simp)
  have hzW : W.heap.size = w.heap.size + 3 := by subst hW; simp
  clear hW
  replace p := p.below hb
  replace q := q.below hb
  replace r := r.below hb
  replace p := p.below (Below.refl _ _).drew
  replace q := q.below (Below.refl _ _).drew
  replace r := r.below (Below.refl _ _).drew
  replace XA := XA.below (Below.refl _ _).drew
  replace XB := XB.below (Below.refl _ _).drew
  replace XC := XC.below (Below.refl _ _).drew
  replace hb := hb.drew
  go_region_held3 (fun w' => w'.cell? ⟨w.heap.size, 0, none⟩ = some (.bool s_p) ∧ w'.cell? ⟨w.heap.size, 1, none⟩ = some (.slice A_p n_p c_p) ∧ w'.cell? ⟨w.heap.size, 2, none⟩ = some (.slice B_p m_p d_p) ∧ w'.cell? ⟨w.heap.size, 3, none⟩ = some (.bool t_p) ∧ w'.cell? ⟨w.heap.size, 4, none⟩ = some (.slice E_p i_p e_p) ∧ w'.cell? ⟨w.heap.size, 5, none⟩ = some (.slice F_p j_p f_p) ∧ w'.cell? ⟨w.heap.size + 1, 0, none⟩ = some (.bool s_q) ∧ w'.cell? ⟨w.heap.size + 1, 1, none⟩ = some (.slice A_q n_q c_q) ∧ w'.cell? ⟨w.heap.size + 1, 2, none⟩ = some (.slice B_q m_q d_q) ∧ w'.cell? ⟨w.heap.size + 1, 3, none⟩ = some (.bool t_q) ∧ w'.cell? ⟨w.heap.size + 1, 4, none⟩ = some (.slice E_q i_q e_q) ∧ w'.cell? ⟨w.heap.size + 1, 5, none⟩ = some (.slice F_q j_q f_q) ∧ w'.cell? ⟨w.heap.size + 1 + 1, 0, none⟩ = some (.bool s_r) ∧ w'.cell? ⟨w.heap.size + 1 + 1, 1, none⟩ = some (.slice A_r n_r c_r) ∧ w'.cell? ⟨w.heap.size + 1 + 1, 2, none⟩ = some (.slice B_r m_r d_r) ∧ w'.cell? ⟨w.heap.size + 1 + 1, 3, none⟩ = some (.bool t_r) ∧ w'.cell? ⟨w.heap.size + 1 + 1, 4, none⟩ = some (.slice E_r i_r e_r) ∧ w'.cell? ⟨w.heap.size + 1 + 1, 5, none⟩ = some (.slice F_r j_r f_r))
    (first | with_reducible exact ⟨XA.c0, XA.c1, XA.c2, XA.c3, XA.c4, XA.c5, XB.c0, XB.c1, XB.c2, XB.c3, XB.c4, XB.c5, XC.c0, XC.c1, XC.c2, XC.c3, XC.c4, XC.c5⟩)
    (first
    | (go_at_call 75; (with_reducible refine (psub_p q p (by omega) (by omega) (.inl (by omega)) (by omega) (by omega)).mono ?_); rintro e w_a ⟨s_a, A_a, n_a, c_a, B_a, m_a, d_a, t_a, E_a, i_a, e_a, F_a, j_a, f_a, rfl, a, hh⟩
       try replace p := p.below hh
       try replace q := q.below hh
       try replace r := r.below hh
       try replace b := b.below hh
       try replace u := u.below hh
       try replace v := v.below hh
       try replace XA := XA.below hh
       try replace XB := XB.below hh
       try replace XC := XC.below hh
       replace hb := bend hb hh)
    | (go_at_call 75; (with_reducible refine (psub_p r p (by omega) (by omega) (.inl (by omega)) (by omega) (by omega)).mono ?_); rintro e w_b ⟨s_b, A_b, n_b, c_b, B_b, m_b, d_b, t_b, E_b, i_b, e_b, F_b, j_b, f_b, rfl, b, hh⟩
       try replace p := p.below hh
       try replace q := q.below hh
       try replace r := r.below hh
       try replace a := a.below hh
       try replace u := u.below hh
       try replace v := v.below hh
       try replace XA := XA.below hh
       try replace XB := XB.below hh
       try replace XC := XC.below hh
       replace hb := bend hb hh)
    | (go_at_call 159; (with_reducible refine (pcw_p a.pr b.pr (by omega) (by omega) (by omega)).mono ?_); rintro e w_u ⟨s_u, A_u, n_u, c_u, B_u, m_u, d_u, s_v, A_v, n_v, c_v, B_v, m_v, d_v, rfl, u, v, hh⟩
       try replace p := p.below hh
       try replace q := q.below hh
       try replace r := r.below hh
       try replace a := a.below hh
       try replace b := b.below hh
       try replace XA := XA.below hh
       try replace XB := XB.below hh
       try replace XC := XC.below hh
       replace hb := bend hb hh)
    | (go_at_call 28; (with_reducible refine (rcmp_q u.qr v.qr (by omega) (by omega) (.inl (by omega)) (by omega) (by omega)).mono ?_); rintro e w_z ⟨rfl, hh⟩
       try replace p := p.below hh
       try replace q := q.below hh
       try replace r := r.below hh
       try replace a := a.below hh
       try replace b := b.below hh
       try replace u := u.below hh
       try replace v := v.below hh
       try replace XA := XA.below hh
       try replace XB := XB.below hh
       try replace XC := XC.below hh
       replace hb := bend hb hh))
  go_wp2_with fail
  go_ret
  exact ⟨rfl, hb⟩
set_option maxRecDepth 100000 in
set_option maxHeartbeats 4000000 in
theorem psquare_p {w : World} {k : Nat} {x y : Rat} {s_p t_p : Bool} {A_p B_p E_p F_p : Option Addr} {n_p c_p m_p d_p i_p e_p j_p f_p : Nat} (p : PR w s_p A_p n_p c_p B_p m_p d_p t_p E_p i_p e_p F_p j_p f_p x y k) (hk : k ≤ 100) (h1 : 1 ≤ k) :
    Calls Tryz.prog 160 #[.agg #[.bool s_p, .slice A_p n_p c_p, .slice B_p m_p d_p, .bool t_p, .slice E_p i_p e_p, .slice F_p j_p f_p]] w (GivesQ w (x * x + y * y) (k + k + (k + k) + 1)) := by
  go_enter Tryz.func160, Tryz.ntmps160
  go_upto_region 1 with (fail)
  generalize hW : ((w.alloc (Obj.cells #[Value.bool s_p, Value.slice A_p n_p c_p, Value.slice B_p m_p d_p, Value.bool t_p, Value.slice E_p i_p e_p, Value.slice F_p j_p f_p] 83)).alloc (Obj.cells #[Value.bool false, Value.slice none 0 0, Value.slice none 0 0] 26)) = W
  have hb : Below w.heap.size w W := by subst hW; exact (((Below.refl _ _).alloc (Nat.le_refl _) _).alloc (by simp) _)
  have XA : B6 W (w.heap.size) (Value.bool s_p) (Value.slice A_p n_p c_p) (Value.slice B_p m_p d_p) (Value.bool t_p) (Value.slice E_p i_p e_p) (Value.slice F_p j_p f_p) := by subst hW; exact (B6.new' _ _ _ _ _ _ _ _ rfl).alloc _
  have Z : B3 W (w.heap.size + 1) (Value.bool false) (Value.slice none 0 0) (Value.slice none 0 0) := by subst hW; exact B3.new' _ _ _ _ _ (by simp)
  have hzW : W.heap.size = w.heap.size + 2 := by subst hW; simp
  clear hW
  replace p := p.below hb
  have xa0 := XA.c0
  have xa1 := XA.c1
  have xa2 := XA.c2
  have xa3 := XA.c3
  have xa4 := XA.c4
  have xa5 := XA.c5
  go_wp2_with (first
      | (go_at_call 81; (with_reducible refine (pdot_p p p (by omega) h1 h1).mono ?_); rintro e w_r ⟨s_r, A_r, n_r, c_r, B_r, m_r, d_r, rfl, r, hh⟩
         try replace Z := Z.below hh
         replace hb := bend hb hh
         have zf0 := Z.f0
         have zf1 := Z.f1
         have zf2 := Z.f2
         have z0 := Z.c0
         have z1 := Z.c1
         have z2 := Z.c2))
  have Z2 := Z.set3 (.bool s_r) (.slice A_r n_r c_r) (.slice B_r m_r d_r)
  have g0 := Z2.c0
  have g1 := Z2.c1
  have g2 := Z2.c2
  refine bodyPost_ret (v := .agg #[.bool s_r, .slice A_r n_r c_r, .slice B_r m_r d_r]) (by simp [results, Tryz.results160, go_sem, g0, g1, g2]) rfl ?_
  exact ⟨s_r, A_r, n_r, c_r, B_r, m_r, d_r, rfl, r.set3 Z _ _ _, below_set3 hb (by omega) _ _ _⟩
def farQ (x y x2 y2 : Rat) : Rat := (x2 - x) * (x2 - x) + (y2 - y) * (y2 - y)
set_option maxRecDepth 100000 in
set_option maxHeartbeats 4000000 in
theorem pfar_p {w : World} {k k2 : Nat} {x y x2 y2 : Rat} {s_p t_p : Bool} {A_p B_p E_p F_p : Option Addr} {n_p c_p m_p d_p i_p e_p j_p f_p : Nat} {s_q t_q : Bool} {A_q B_q E_q F_q : Option Addr} {n_q c_q m_q d_q i_q e_q j_q f_q : Nat} (p : PR w s_p A_p n_p c_p B_p m_p d_p t_p E_p i_p e_p F_p j_p f_p x y k) (q : PR w s_q A_q n_q c_q B_q m_q d_q t_q E_q i_q e_q F_q j_q f_q x2 y2 k2) (hk : k2 + k ≤ 98) (h1 : 1 ≤ k) (h2 : 1 ≤ k2) :
    Calls Tryz.prog 90 #[.agg #[.bool s_p, .slice A_p n_p c_p, .slice B_p m_p d_p, .bool t_p, .slice E_p i_p e_p, .slice F_p j_p f_p], .agg #[.bool s_q, .slice A_q n_q c_q, .slice B_q m_q d_q, .bool t_q, .slice E_q i_q e_q, .slice F_q j_q f_q]] w (GivesQ w (farQ x y x2 y2) (k2 + k + 1 + (k2 + k + 1) + (k2 + k + 1 + (k2 + k + 1)) + 1)) := by
  go_enter Tryz.func90, Tryz.ntmps90
  go_upto_region 1 with (fail)
  generalize hW : (((w.alloc (Obj.cells #[Value.bool s_p, Value.slice A_p n_p c_p, Value.slice B_p m_p d_p, Value.bool t_p, Value.slice E_p i_p e_p, Value.slice F_p j_p f_p] 83)).alloc (Obj.cells #[Value.bool s_q, Value.slice A_q n_q c_q, Value.slice B_q m_q d_q, Value.bool t_q, Value.slice E_q i_q e_q, Value.slice F_q j_q f_q] 83)).alloc (Obj.cells #[Value.bool false, Value.slice none 0 0, Value.slice none 0 0] 26)) = W
  have hb : Below w.heap.size w W := by subst hW; exact ((((Below.refl _ _).alloc (Nat.le_refl _) _).alloc (by simp) _).alloc (by simp; omega) _)
  have XA : B6 W (w.heap.size) (Value.bool s_p) (Value.slice A_p n_p c_p) (Value.slice B_p m_p d_p) (Value.bool t_p) (Value.slice E_p i_p e_p) (Value.slice F_p j_p f_p) := by subst hW; exact ((B6.new' _ _ _ _ _ _ _ _ rfl).alloc _).alloc _
  have XB : B6 W (w.heap.size + 1) (Value.bool s_q) (Value.slice A_q n_q c_q) (Value.slice B_q m_q d_q) (Value.bool t_q) (Value.slice E_q i_q e_q) (Value.slice F_q j_q f_q) := by subst hW; exact (B6.new' _ _ _ _ _ _ _ _ (by simp)).alloc _
  have Z : B3 W (w.heap.size + 1 + 1) (Value.bool false) (Value.slice none 0 0) (Value.slice none 0 0) := by subst hW; exact B3.new' _ _ _ _ _ (by simp)
  have hzW : W.heap.size = w.heap.size + 3 := by subst hW; simp
  clear hW
  replace p := p.below hb
  replace q := q.below hb
  have xa0 := XA.c0
  have xa1 := XA.c1
  have xa2 := XA.c2
  have xa3 := XA.c3
  have xa4 := XA.c4
  have xa5 := XA.c5
  have xb0 := XB.c0
  have xb1 := XB.c1
  have xb2 := XB.c2
  have xb3 := XB.c3
  have xb4 := XB.c4
  have xb5 := XB.c5
  go_wp2_with (first
      | (go_at_call 75; (with_reducible refine (psub_p q p (by omega) (by omega) (.inl (by omega)) (by omega) (by omega)).mono ?_); rintro e w_a ⟨s_a, A_a, n_a, c_a, B_a, m_a, d_a, t_a, E_a, i_a, e_a, F_a, j_a, f_a, rfl, a, hh⟩
         try replace Z := Z.below hh
         replace hb := bend hb hh)
      | (go_at_call 160; (with_reducible refine (psquare_p a.pr (by omega) (by omega)).mono ?_); rintro e w_r ⟨s_r, A_r, n_r, c_r, B_r, m_r, d_r, rfl, r, hh⟩
         try replace Z := Z.below hh
         replace hb := bend hb hh
         have zf0 := Z.f0
         have zf1 := Z.f1
         have zf2 := Z.f2
         have z0 := Z.c0
         have z1 := Z.c1
         have z2 := Z.c2))
  have Z2 := Z.set3 (.bool s_r) (.slice A_r n_r c_r) (.slice B_r m_r d_r)
  have g0 := Z2.c0
  have g1 := Z2.c1
  have g2 := Z2.c2
  refine bodyPost_ret (v := .agg #[.bool s_r, .slice A_r n_r c_r, .slice B_r m_r d_r]) (by simp [results, Tryz.results90, go_sem, g0, g1, g2]) rfl ?_
  exact ⟨s_r, A_r, n_r, c_r, B_r, m_r, d_r, rfl, r.set3 Z _ _ _, below_set3 hb (by omega) _ _ _⟩
set_option maxRecDepth 100000 in
set_option maxHeartbeats 4000000 in
theorem psame_ne {w : World} {k k2 : Nat} {x y x2 y2 : Rat} {s_p t_p : Bool} {A_p B_p E_p F_p : Option Addr} {n_p c_p m_p d_p i_p e_p j_p f_p : Nat} {s_q t_q : Bool} {A_q B_q E_q F_q : Option Addr} {n_q c_q m_q d_q i_q e_q j_q f_q : Nat} (p : PR w s_p A_p n_p c_p B_p m_p d_p t_p E_p i_p e_p F_p j_p f_p x y k) (q : PR w s_q A_q n_q c_q B_q m_q d_q t_q E_q i_q e_q F_q j_q f_q x2 y2 k2) (hk : k ≤ 400) (hk2 : k2 ≤ 400) (h1 : 1 ≤ k) (h2 : 1 ≤ k2) (hx : x ≠ x2) :
    Calls Tryz.prog 85 #[.agg #[.bool s_p, .slice A_p n_p c_p, .slice B_p m_p d_p, .bool t_p, .slice E_p i_p e_p, .slice F_p j_p f_p], .agg #[.bool s_q, .slice A_q n_q c_q, .slice B_q m_q d_q, .bool t_q, .slice E_q i_q e_q, .slice F_q j_q f_q]] w fun e w' => e = .returned (.bool (false)) ∧ Below w.heap.size w w' := by
  obtain ⟨K, hK, hK0⟩ : ∃ K, cmpQ x x2 = K ∧ ((K : Int) == 0) = false := ⟨_, rfl, by simpa using fun q => hx (cmpQ_nul.1 q)⟩
  have HK := Lib.hid hK
  clear hK hx
  go_enter Tryz.func85, Tryz.ntmps85
  go_wp2_with fail
  generalize hW : ((w.alloc (Obj.cells #[Value.bool s_p, Value.slice A_p n_p c_p, Value.slice B_p m_p d_p, Value.bool t_p, Value.slice E_p i_p e_p, Value.slice F_p j_p f_p] 83)).alloc (Obj.cells #[Value.bool s_q, Value.slice A_q n_q c_q, Value.slice B_q m_q d_q, Value.bool t_q, Value.slice E_q i_q e_q, Value.slice F_q j_q f_q] 83)) = W
  have hb : Below w.heap.size w W := by subst hW; exact (((Below.refl _ _).alloc (Nat.le_refl _) _).alloc (by simp) _)
  have XA : B6 W (w.heap.size) (Value.bool s_p) (Value.slice A_p n_p c_p) (Value.slice B_p m_p d_p) (Value.bool t_p) (Value.slice E_p i_p e_p) (Value.slice F_p j_p f_p) := by subst hW; exact (B6.new' _ _ _ _ _ _ _ _ rfl).alloc _
  have XB : B6 W (w.heap.size + 1) (Value.bool s_q) (Value.slice A_q n_q c_q) (Value.slice B_q m_q d_q) (Value.bool t_q) (Value.slice E_q i_q e_q) (Value.slice F_q j_q f_q) := by subst hW; exact B6.new' _ _ _ _ _ _ _ _ (by simp)
  have hzW : W.heap.size = w.heap.size + 2 := by subst hW; simp
  clear hW
  replace p := p.below hb
  replace q := q.below hb
  have xa0 := XA.c0
  have xa1 := XA.c1
  have xa2 := XA.c2
  have xa3 := XA.c3
  have xa4 := XA.c4
  have xa5 := XA.c5
  have xb0 := XB.c0
  have xb1 := XB.c1
  have xb2 := XB.c2
  have xb3 := XB.c3
  have xb4 := XB.c4
  have xb5 := XB.c5
  go_wp2_with (first
      | (go_at_call 28; (with_reducible refine (rcmp_q p.qx q.qx hk hk2 (.inl hk) h1 h2).mono ?_); rintro e w_z ⟨rfl, hh⟩
         rw [HK.out]
         try replace p := p.below hh
         try replace q := q.below hh
         try replace XA := XA.below hh
         try replace XB := XB.below hh
         replace hb := bend hb hh
         have xa0 := XA.c0
         have xa1 := XA.c1
         have xa2 := XA.c2
         have xa3 := XA.c3
         have xa4 := XA.c4
         have xa5 := XA.c5
         have xb0 := XB.c0
         have xb1 := XB.c1
         have xb2 := XB.c2
         have xb3 := XB.c3
         have xb4 := XB.c4
         have xb5 := XB.c5))
  go_ret
  exact ⟨rfl, hb⟩
set_option maxRecDepth 100000 in
set_option maxHeartbeats 4000000 in
theorem psame_eq {w : World} {k k2 : Nat} {x y x2 y2 : Rat} {s_p t_p : Bool} {A_p B_p E_p F_p : Option Addr} {n_p c_p m_p d_p i_p e_p j_p f_p : Nat} {s_q t_q : Bool} {A_q B_q E_q F_q : Option Addr} {n_q c_q m_q d_q i_q e_q j_q f_q : Nat} (p : PR w s_p A_p n_p c_p B_p m_p d_p t_p E_p i_p e_p F_p j_p f_p x y k) (q : PR w s_q A_q n_q c_q B_q m_q d_q t_q E_q i_q e_q F_q j_q f_q x2 y2 k2) (hk : k ≤ 400) (hk2 : k2 ≤ 400) (h1 : 1 ≤ k) (h2 : 1 ≤ k2) (hx : x = x2) :
    Calls Tryz.prog 85 #[.agg #[.bool s_p, .slice A_p n_p c_p, .slice B_p m_p d_p, .bool t_p, .slice E_p i_p e_p, .slice F_p j_p f_p], .agg #[.bool s_q, .slice A_q n_q c_q, .slice B_q m_q d_q, .bool t_q, .slice E_q i_q e_q, .slice F_q j_q f_q]] w fun e w' => e = .returned (.bool (cmpQ y y2 == 0)) ∧ Below w.heap.size w w' := by
  have HK : Hid (cmpQ x x2 = 0) := cmpQ_nul.2 hx
  obtain ⟨M, hM⟩ : ∃ M, cmpQ y y2 = M := ⟨_, rfl⟩
  have HM := Lib.hid hM
  clear hM hx
  go_enter Tryz.func85, Tryz.ntmps85
  go_wp2_with fail
  generalize hW : ((w.alloc (Obj.cells #[Value.bool s_p, Value.slice A_p n_p c_p, Value.slice B_p m_p d_p, Value.bool t_p, Value.slice E_p i_p e_p, Value.slice F_p j_p f_p] 83)).alloc (Obj.cells #[Value.bool s_q, Value.slice A_q n_q c_q, Value.slice B_q m_q d_q, Value.bool t_q, Value.slice E_q i_q e_q, Value.slice F_q j_q f_q] 83)) = W
  have hb : Below w.heap.size w W := by subst hW; exact (((Below.refl _ _).alloc (Nat.le_refl _) _).alloc (by simp) _)
  have XA : B6 W (w.heap.size) (Value.bool s_p) (Value.slice A_p n_p c_p) (Value.slice B_p m_p d_p) (Value.bool t_p) (Value.slice E_p i_p e_p) (Value.slice F_p j_p f_p) := by subst hW; exact (B6.new' _ _ _ _ _ _ _ _ rfl).alloc _
  have XB : B6 W (w.heap.size + 1) (Value.bool s_q) (Value.slice A_q n_q c_q) (Value.slice B_q m_q d_q) (Value.bool t_q) (Value.slice E_q i_q e_q) (Value.slice F_q j_q f_q) := by subst hW; exact B6.new' _ _ _ _ _ _ _ _ (by simp)
  have hzW : W.heap.size = w.heap.size + 2 := by subst hW; simp
  clear hW
  replace p := p.below hb
  replace q := q.below hb
  have xa0 := XA.c0
  have xa1 := XA.c1
  have xa2 := XA.c2
  have xa3 := XA.c3
  have xa4 := XA.c4
  have xa5 := XA.c5
  have xb0 := XB.c0
  have xb1 := XB.c1
  have xb2 := XB.c2
  have xb3 := XB.c3
  have xb4 := XB.c4
  have xb5 := XB.c5
  go_wp2_with (first
      | (go_at_call 28; (with_reducible refine (rcmp_q p.qx q.qx hk hk2 (.inl hk) h1 h2).mono ?_); rintro e w_z ⟨rfl, hh⟩
         rw [HK.out]
         try replace p := p.below hh
         try replace q := q.below hh
         try replace XA := XA.below hh
         try replace XB := XB.below hh
         replace hb := bend hb hh
         have xa0 := XA.c0
         have xa1 := XA.c1
         have xa2 := XA.c2
         have xa3 := XA.c3
         have xa4 := XA.c4
         have xa5 := XA.c5
         have xb0 := XB.c0
         have xb1 := XB.c1
         have xb2 := XB.c2
         have xb3 := XB.c3
         have xb4 := XB.c4
         have xb5 := XB.c5)
      | (go_at_call 28; (with_reducible refine (rcmp_q p.qy q.qy hk hk2 (.inl hk) h1 h2).mono ?_); rintro e w_z ⟨rfl, hh⟩
         rw [HM.out]
         try replace p := p.below hh
         try replace q := q.below hh
         try replace XA := XA.below hh
         try replace XB := XB.below hh
         replace hb := bend hb hh
         have xa0 := XA.c0
         have xa1 := XA.c1
         have xa2 := XA.c2
         have xa3 := XA.c3
         have xa4 := XA.c4
         have xa5 := XA.c5
         have xb0 := XB.c0
         have xb1 := XB.c1
         have xb2 := XB.c2
         have xb3 := XB.c3
         have xb4 := XB.c4
         have xb5 := XB.c5))
  go_ret
  exact ⟨by rw [HM.out]; first | rfl | simp, hb⟩
theorem psame_p {w : World} {k k2 : Nat} {x y x2 y2 : Rat} {s_p t_p : Bool} {A_p B_p E_p F_p : Option Addr} {n_p c_p m_p d_p i_p e_p j_p f_p : Nat} {s_q t_q : Bool} {A_q B_q E_q F_q : Option Addr} {n_q c_q m_q d_q i_q e_q j_q f_q : Nat} (p : PR w s_p A_p n_p c_p B_p m_p d_p t_p E_p i_p e_p F_p j_p f_p x y k) (q : PR w s_q A_q n_q c_q B_q m_q d_q t_q E_q i_q e_q F_q j_q f_q x2 y2 k2) (hk : k ≤ 400) (hk2 : k2 ≤ 400) (h1 : 1 ≤ k) (h2 : 1 ≤ k2) (R : Bool) (hR : decide (x = x2 ∧ y = y2) = R) :
    Calls Tryz.prog 85 #[.agg #[.bool s_p, .slice A_p n_p c_p, .slice B_p m_p d_p, .bool t_p, .slice E_p i_p e_p, .slice F_p j_p f_p], .agg #[.bool s_q, .slice A_q n_q c_q, .slice B_q m_q d_q, .bool t_q, .slice E_q i_q e_q, .slice F_q j_q f_q]] w fun e w' => e = .returned (.bool R) ∧ Below w.heap.size w w' := by
  subst hR
  by_cases h : x = x2
  · have := psame_eq p q hk hk2 h1 h2 h
    rwa [show (cmpQ y y2 == 0) = decide (x = x2 ∧ y = y2) from by
      by_cases h' : y = y2
      · rw [decide_eq_true ⟨h, h'⟩, cmpQ_nul.2 h']; rfl
      · rw [decide_eq_false (fun q => h' q.2)]; simpa using fun q => h' (cmpQ_nul.1 q)] at this
  · have := psame_ne p q hk hk2 h1 h2 h
    rwa [show false = decide (x = x2 ∧ y = y2) from (decide_eq_false (fun q => h q.1)).symm] at this
end Go.Proofs.YtlkjkhpjhllapaaGreat
namespace Go.Proofs.YtlkjkhpjhllapaaGreat
open Go Go.RowKit
def IsZ (w : World) (v : Value) (x : Int) (k : Nat) : Prop := ∃ s A n c, v = .agg #[.bool s, .slice A n c] ∧ ZR w s A n c x k
def IsDM (w : World) (v : Value) (x : Int) (k : Nat) : Prop := ∃ s A n c s' A' n' c', v = .tuple #[.agg #[.bool s, .slice A n c], .agg #[.bool s', .slice A' n' c'], .int .i64 0] ∧ ZG w s A n c x k
def IBox (w : World) (base : Nat) (p cont : Value) (full : Bool) : Prop := ∃ g s A n c, p = .pointer (some ⟨g, 0, none⟩) ∧ base ≤ g ∧ Bx w g (.bool s) (.slice A n c) ∧ (full = true → cont = .agg #[.bool s, .slice A n c])
theorem IsZ.below {w w' : World} {v : Value} {x : Int} {k : Nat} (h : IsZ w v x k) (hb : Below w.heap.size w w') : IsZ w' v x k := by
  obtain ⟨s, A, n, c, h1, h2⟩ := h; exact ⟨s, A, n, c, h1, h2.below hb⟩
theorem IsDM.below {w w' : World} {v : Value} {x : Int} {k : Nat} (h : IsDM w v x k) (hb : Below w.heap.size w w') : IsDM w' v x k := by
  obtain ⟨s, A, n, c, s', A', n', c', h1, h2⟩ := h; exact ⟨s, A, n, c, s', A', n', c', h1, h2.below hb⟩
theorem IBox.below {w w' : World} {base : Nat} {p cont : Value} {full : Bool} (h : IBox w base p cont full) (hb : Below w.heap.size w w') : IBox w' base p cont full := by
  obtain ⟨g, s, A, n, c, h1, h2, h3, h4⟩ := h; exact ⟨g, s, A, n, c, h1, h2, h3.below hb, h4⟩
theorem IsZ.store {w : World} {v : Value} {x : Int} {k g n0 c0 : Nat} {s0 : Bool} {A0 : Option Addr} (h : IsZ w v x k) (Z : Bx w g (.bool s0) (.slice A0 n0 c0)) (y z : Value) : IsZ ((w.setCell ⟨g, 0, none⟩ y).setCell ⟨g, 1, none⟩ z) v x k := by
  obtain ⟨s, A, n, c, h1, h2⟩ := h; exact ⟨s, A, n, c, h1, h2.set2x Z y z⟩
theorem IsDM.store {w : World} {v : Value} {x : Int} {k g n0 c0 : Nat} {s0 : Bool} {A0 : Option Addr} (h : IsDM w v x k) (Z : Bx w g (.bool s0) (.slice A0 n0 c0)) (y z : Value) : IsDM ((w.setCell ⟨g, 0, none⟩ y).setCell ⟨g, 1, none⟩ z) v x k := by
  obtain ⟨s, A, n, c, s', A', n', c', h1, h2⟩ := h; exact ⟨s, A, n, c, s', A', n', c', h1, h2.set2x Z y z⟩
theorem IBox.other {w : World} {base g : Nat} {p cont : Value} {full : Bool} (h : IBox w base p cont full) (hne : p ≠ .pointer (some ⟨g, 0, none⟩)) (y z : Value) : IBox ((w.setCell ⟨g, 0, none⟩ y).setCell ⟨g, 1, none⟩ z) base p cont full := by
  obtain ⟨g', s, A, n, c, h1, h2, h3, h4⟩ := h
  exact ⟨g', s, A, n, c, h1, h2, h3.other (fun q => hne (by rw [h1, q])) y z, h4⟩
end Go.Proofs.YtlkjkhpjhllapaaGreat
