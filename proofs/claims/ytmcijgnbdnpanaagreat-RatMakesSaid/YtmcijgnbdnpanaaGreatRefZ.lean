/- The document's own answers of layer 2: signed numbers by value. -/
import Derived.Test.YtmcijgnbdnpanaaGreatRefP
import Derived.Test.YtmcijgnbdnpanaaGreatZedFun
import Derived.Test.YtmcijgnbdnpanaaGreatRefRoot
import Derived.Deep.RegionHeld3
namespace Go.Proofs.YtmcijgnbdnpanaaGreat
open Go.RowKit

/-- Block g holds a struct of two cells, none of them frozen. -/
def By (W : World) (g : Nat) (x y : Value) : Prop := W.heap[g]? = some (.cells #[x, y] 32 (0, 0))

section
variable {W W' : World} {g : Nat} {x y : Value}
theorem By.c0 (h : By W g x y) : W.cell? ⟨g, 0, none⟩ = some x := by rw [cell_of_row W g 0 _ _ (0, 0) h]; rfl
theorem By.c1 (h : By W g x y) : W.cell? ⟨g, 1, none⟩ = some y := by rw [cell_of_row W g 1 _ _ (0, 0) h]; rfl
theorem By.f0 (h : By W g x y) : W.frozen? ⟨g, 0, none⟩ = false := frozen_of_row W g 0 _ _ h
theorem By.f1 (h : By W g x y) : W.frozen? ⟨g, 1, none⟩ = false := frozen_of_row W g 1 _ _ h
theorem By.lt (h : By W g x y) : g < W.heap.size := World.block_lt_of_cell? W _ h.c0
theorem By.below (h : By W g x y) (hb : Below W.heap.size W W') : By W' g x y := (hb.block g h.lt).trans h
theorem By.below_lt {B : Nat} (h : By W g x y) (hb : Below B W W') (hg : g < B) : By W' g x y := (hb.block g hg).trans h
theorem By.drew (h : By W g x y) : By W.drew g x y := h
theorem By.alloc (h : By W g x y) (o : Obj) : By (W.alloc o) g x y := (Below.heap_alloc W o g h.lt).trans h
theorem By.new (W : World) (x y : Value) : By (W.alloc (.cells #[x, y] 32)) W.heap.size x y := heap_alloc_new W _
theorem By.new' (W : World) (x y : Value) (g : Nat) (hg : g = W.heap.size) : By (W.alloc (.cells #[x, y] 32)) g x y := by subst hg; exact By.new W x y
theorem By.set2 (h : By W g x y) (u v : Value) : By ((W.setCell ⟨g, 0, none⟩ u).setCell ⟨g, 1, none⟩ v) g u v := by
  unfold By at h ⊢
  simp [World.setCell, Array.getElem?_modify, h]
theorem By.off {s : Bool} {A' A : Option Addr} {n' c' n : Nat} {K : IntKind} {l : List Nat} (h : By W g (.bool s) (.slice A' n' c')) (hr : Rd K W A n l) : Off A n g := by
  intro hn ad e hg
  obtain ⟨b, o, eA, hc⟩ := hr.at_ hn
  obtain ⟨x, _, hx⟩ := hc 0 hn
  rw [eA] at e
  cases e
  have hg2 : b = g := hg
  subst hg2
  rw [cell_of_row W b (o + 0) _ _ (0, 0) h] at hx
  match o, hx with
  | 0, hx => cases hx
  | 1, hx => cases hx
  | o + 2, hx => cases hx
end
/-- The struct's number, v; at most k limbs. -/
def RZ (w : World) (s : Bool) (A : Option Addr) (n c : Nat) (v : Int) (k : Nat) : Prop := ∃ U, RN w A n c U k ∧ iv s U = v
/-- .. in its good form. -/
def RG (w : World) (s : Bool) (A : Option Addr) (n c : Nat) (v : Int) (k : Nat) : Prop := s = decide (v < 0) ∧ RN w A n c v.natAbs k
def GivesRZ (w : World) (v : Int) (k : Nat) (e : Ending) (w' : World) : Prop :=
  ∃ s A n c, e = .returned (.agg #[.bool s, .slice A n c]) ∧ RG w' s A n c v k ∧ Below w.heap.size w w'
theorem iv_canon (v : Int) : iv (decide (v < 0)) v.natAbs = v := by
  unfold iv
  by_cases h : v < 0
  · simp [h]; omega
  · simp [h]; omega
theorem RG.rz {w : World} {s : Bool} {A : Option Addr} {n c k : Nat} {v : Int} (h : RG w s A n c v k) : RZ w s A n c v k := ⟨_, h.2, by rw [h.1]; exact iv_canon v⟩
theorem RG.below {w w' : World} {s : Bool} {A : Option Addr} {n c k : Nat} {v : Int} (h : RG w s A n c v k) (hb : Below w.heap.size w w') : RG w' s A n c v k := ⟨h.1, h.2.below hb⟩
theorem RZ.below {w w' : World} {s : Bool} {A : Option Addr} {n c k : Nat} {v : Int} (h : RZ w s A n c v k) (hb : Below w.heap.size w w') : RZ w' s A n c v k := by
  obtain ⟨U, h1, h2⟩ := h
  exact ⟨U, h1.below hb, h2⟩
theorem rn_pos {w : World} {A : Option Addr} {n c V k : Nat} (h : RN w A n c V k) : decide (0 < n) = decide (0 < V) := by
  have hl := h.1.1
  by_cases h0 : V = 0
  · rw [h0, limbs_zero] at hl
    rw [h0, ← hl]; rfl
  · rw [limbs_pos B32_two h0] at hl
    simp at hl
    rw [decide_eq_true (by omega : 0 < n), decide_eq_true (by omega : 0 < V)]
/-- The end of a function whose answer is laid into a cell made at its beginning. -/
theorem close_rz {w W : World} {g k : Nat} {s z : Bool} {A A' : Option Addr} {n c n' c' V : Nat} {v : Int} (hb : Below w.heap.size w W) (hg : w.heap.size ≤ g) (Z : By W g (.bool z) (.slice A' n' c')) (X : RN W A n c V k) (hv : v = iv s V) (u x : Value) :
    GivesRZ w v k (.returned (.agg #[.bool (s && decide (0 < n)), .slice A n c])) ((W.setCell ⟨g, 0, none⟩ u).setCell ⟨g, 1, none⟩ x) := by
  subst hv
  refine ⟨_, A, n, c, rfl, ⟨?_, ?_⟩, (hb.setCell hg _).setCell hg _⟩
  · rw [iv_neg, rn_pos X]
  · rw [iv_natAbs]
    exact ⟨X.1.only (Z.off X.1) (((Only.refl g W).setCell 0 u).setCell 1 x), X.2⟩
theorem close_rz2 {w W : World} {g k : Nat} {z s : Bool} {A A' : Option Addr} {n c n' c' : Nat} {v : Int} (hb : Below w.heap.size w W) (hg : w.heap.size ≤ g) (Z : By W g (.bool z) (.slice A' n' c')) (X : RG W s A n c v k) (u x : Value) :
    GivesRZ w v k (.returned (.agg #[.bool s, .slice A n c])) ((W.setCell ⟨g, 0, none⟩ u).setCell ⟨g, 1, none⟩ x) :=
  ⟨s, A, n, c, rfl, ⟨X.1, X.2.1.only (Z.off X.2.1) (((Only.refl g W).setCell 0 u).setCell 1 x), X.2.2⟩, (hb.setCell hg _).setCell hg _⟩
theorem rsub_rn {w : World} {A B : Option Addr} {n c m d U V k1 k2 : Nat} (X : RN w A n c U k1) (Y : RN w B m d V k2) (h1 : k1 ≤ 1000000) (hle : V ≤ U) :
    Calls Tryz.prog 131 #[.slice A n c, .slice B m d] w (GivesR w (U - V) k1) := by
  have hU := X.lt
  refine (rsub_any _ _ A B n c m d w X.1 Y.1 (lim_limbs B32_two _) (lim_limbs B32_two _) (Nat.le_trans X.2.2 h1) (by rw [← X.1.1, ← Y.1.1]; exact length_limbs_mono B32_two hle) (by rw [val_limbs B32_two, val_limbs B32_two]; exact hle)).mono fun _ _ g => ?_
  rw [val_limbs B32_two, val_limbs B32_two] at g
  exact g.r (by omega)

set_option maxHeartbeats 1000000 in
theorem made_any (neg : Bool) (A : Option Addr) (n c : Nat) (w : World) :
    Calls Tryz.prog 97 #[.bool neg, .slice A n c] w fun e w' => e = .returned (.agg #[.bool (neg && decide (0 < n)), .slice A n c]) ∧ Below w.heap.size w w' := by
  cases neg
  · go_enter Tryz.func97, Tryz.ntmps97
    go_wp2
    go_returns
    exact ⟨rfl, (Below.refl _ _).alloc (Nat.le_refl _) _⟩
  · go_enter Tryz.func97, Tryz.ntmps97
    go_wp2
    go_returns
    exact ⟨by simp, (Below.refl _ _).alloc (Nat.le_refl _) _⟩

set_option maxRecDepth 100000 in
set_option maxHeartbeats 2000000 in
theorem rin2 {w : World} {s : Bool} {A : Option Addr} {n c k : Nat} {v : Int} (X0 : ZR w s A n c v k) (hk : k ≤ 1000) :
    Calls Tryz.prog 35 #[.agg #[.bool s, .slice A n c]] w (GivesRZ w (v) (2 * k)) := by
  obtain ⟨V, X, hv⟩ : ∃ V, NR w A n c V k ∧ iv s V = v := by
    obtain ⟨l, h1, h2, h3, h4, h5, h6⟩ := X0
    exact ⟨_, ⟨l, h1, h2, rfl, h4, h5⟩, h3⟩
  subst hv
  clear X0
  go_enter Tryz.func35, Tryz.ntmps35
  go_wp2_with fail
  generalize hW : ((w.alloc (Obj.cells #[Value.bool s, Value.slice A n c] 24)).alloc (Obj.cells #[Value.bool false, Value.slice none 0 0] 32)) = W
  have hb : Below w.heap.size w W := by subst hW; exact (((Below.refl _ _).alloc (Nat.le_refl _) _).alloc (by simp) _)
  have XA : Bx W w.heap.size (Value.bool s) (Value.slice A n c) := by subst hW; exact (Bx.new w _ _).alloc _
  have Z : By W (w.heap.size + 1) (Value.bool false) (Value.slice none 0 0) := by subst hW; exact By.new' _ _ _ _ (by simp)
  have hz : W.heap.size = w.heap.size + 2 := by subst hW; simp
  clear hW
  replace X := X.below hb
  replace X := X.below (Below.refl _ _).drew
  replace XA := XA.below (Below.refl _ _).drew
  replace Z := Z.below (Below.refl _ _).drew
  replace hb := hb.drew
  go_region_held3 (fun w' => w'.cell? ⟨w.heap.size, 0, none⟩ = some (Value.bool s) ∧ w'.cell? ⟨w.heap.size, 1, none⟩ = some (Value.slice A n c))
    (first | with_reducible exact ⟨XA.c0, XA.c1⟩ | with_reducible exact ⟨(set2_cell _ _ _ _ _ _ (by omega)).trans XA.c0, (set2_cell _ _ _ _ _ _ (by omega)).trans XA.c1⟩)
    (first
    | (go_at_call 70; (with_reducible refine (rin_nr (2 * k) X (by omega) rfl).mono ?_); rintro e w_x ⟨A_x, n_x, c_x, rfl, x, hh⟩
       try replace X := X.below hh
       try replace Y := Y.below hh
       try replace XA := XA.below hh
       try replace XB := XB.below hh
       try replace Z := Z.below hh
       try replace T := T.below hh
       replace hb := bend hb hh)
    | (go_at_call 97; (with_reducible refine (made_any _ _ _ _ _).mono ?_); rintro e w_m ⟨rfl, hh⟩
       try replace X := X.below hh
       try replace Y := Y.below hh
       try replace x := x.below hh
       try replace XA := XA.below hh
       try replace XB := XB.below hh
       try replace Z := Z.below hh
       try replace T := T.below hh
       replace hb := bend hb hh
       have r0 := Z.c0
       have r1 := Z.c1
       have r2 := Z.f0
       have r3 := Z.f1))
  go_wp2
  have hf0 := (Z.set2 (.bool (s && decide (0 < n_x))) (.slice A_x n_x c_x)).c0
  have hf1 := (Z.set2 (.bool (s && decide (0 < n_x))) (.slice A_x n_x c_x)).c1
  refine bodyPost_ret (v := .agg #[.bool (s && decide (0 < n_x)), .slice A_x n_x c_x]) (by simp [results, Tryz.results35, go_sem, hf0, hf1]) rfl ?_
  exact close_rz (s := s) (g := w.heap.size + 1) hb (by omega) Z x rfl _ _

set_option maxRecDepth 100000 in
set_option maxHeartbeats 2000000 in
theorem rminus2 {w : World} {s : Bool} {A : Option Addr} {n c k : Nat} {v : Int} (X0 : RZ w s A n c v k) :
    Calls Tryz.prog 78 #[.agg #[.bool s, .slice A n c]] w (GivesRZ w (-v) k) := by
  obtain ⟨U, x, hv⟩ := X0
  subst hv
  go_enter Tryz.func78, Tryz.ntmps78
  go_wp2_with fail
  generalize hW : ((w.alloc (Obj.cells #[Value.bool s, Value.slice A n c] 32)).alloc (Obj.cells #[Value.bool false, Value.slice none 0 0] 32)) = W
  have hb : Below w.heap.size w W := by subst hW; exact (((Below.refl _ _).alloc (Nat.le_refl _) _).alloc (by simp) _)
  have XA : By W w.heap.size (Value.bool s) (Value.slice A n c) := by subst hW; exact (By.new w _ _).alloc _
  have Z : By W (w.heap.size + 1) (Value.bool false) (Value.slice none 0 0) := by subst hW; exact By.new' _ _ _ _ (by simp)
  have hz : W.heap.size = w.heap.size + 2 := by subst hW; simp
  clear hW
  replace x := x.below hb
  go_wp2_with (first
    | (go_at_call 97; (with_reducible refine (made_any _ _ _ _ _).mono ?_); rintro e w_m ⟨rfl, hh⟩
       try replace X := X.below hh
       try replace Y := Y.below hh
       try replace x := x.below hh
       try replace XA := XA.below hh
       try replace XB := XB.below hh
       try replace Z := Z.below hh
       try replace T := T.below hh
       replace hb := bend hb hh
       have r0 := Z.c0
       have r1 := Z.c1
       have r2 := Z.f0
       have r3 := Z.f1))
  have hf0 := (Z.set2 (.bool ((!s) && decide (0 < n))) (.slice A n c)).c0
  have hf1 := (Z.set2 (.bool ((!s) && decide (0 < n))) (.slice A n c)).c1
  refine bodyPost_ret (v := .agg #[.bool ((!s) && decide (0 < n)), .slice A n c]) (by simp [results, Tryz.results78, go_sem, hf0, hf1]) rfl ?_
  exact close_rz (s := (!s)) (g := w.heap.size + 1) hb (by omega) Z x (by rw [iv_not]) _ _

set_option maxRecDepth 100000 in
set_option maxHeartbeats 2000000 in
theorem rmul2 {w : World} {s t : Bool} {A B : Option Addr} {n c m d k1 k2 : Nat} {v u : Int} (X0 : RZ w s A n c v k1) (Y0 : RZ w t B m d u k2) (h1 : k1 ≤ 1000000) (h2 : k2 ≤ 1000000) :
    Calls Tryz.prog 76 #[.agg #[.bool s, .slice A n c], .agg #[.bool t, .slice B m d]] w (GivesRZ w (v * u) (k1 + k2)) := by
  obtain ⟨U, X, hv⟩ := X0
  obtain ⟨V, Y, hu⟩ := Y0
  subst hv
  subst hu
  have hf : U * V < B32 ^ (k1 + k2) := by rw [Nat.pow_add]; exact Nat.mul_lt_mul'' X.lt Y.lt
  go_enter Tryz.func76, Tryz.ntmps76
  go_wp2_with fail
  generalize hW : (((w.alloc (Obj.cells #[Value.bool s, Value.slice A n c] 32)).alloc (Obj.cells #[Value.bool t, Value.slice B m d] 32)).alloc (Obj.cells #[Value.bool false, Value.slice none 0 0] 32)) = W
  have hb : Below w.heap.size w W := by subst hW; exact ((((Below.refl _ _).alloc (Nat.le_refl _) _).alloc (by simp) _).alloc (by simp; omega) _)
  have XA : By W w.heap.size (Value.bool s) (Value.slice A n c) := by subst hW; exact ((By.new w _ _).alloc _).alloc _
  have XB : By W (w.heap.size + 1) (Value.bool t) (Value.slice B m d) := by subst hW; exact (By.new' _ _ _ _ (by simp)).alloc _
  have Z : By W (w.heap.size + 1 + 1) (Value.bool false) (Value.slice none 0 0) := by subst hW; exact By.new' _ _ _ _ (by simp)
  have hz : W.heap.size = w.heap.size + 3 := by subst hW; simp
  clear hW
  replace X := X.below hb
  replace Y := Y.below hb
  replace X := X.below (Below.refl _ _).drew
  replace Y := Y.below (Below.refl _ _).drew
  replace XA := XA.below (Below.refl _ _).drew
  replace XB := XB.below (Below.refl _ _).drew
  replace Z := Z.below (Below.refl _ _).drew
  replace hb := hb.drew
  go_region_held3 (fun w' => w'.cell? ⟨w.heap.size, 0, none⟩ = some (Value.bool s) ∧ w'.cell? ⟨w.heap.size, 1, none⟩ = some (Value.slice A n c) ∧ w'.cell? ⟨w.heap.size + 1, 0, none⟩ = some (Value.bool t) ∧ w'.cell? ⟨w.heap.size + 1, 1, none⟩ = some (Value.slice B m d))
    (first | with_reducible exact ⟨XA.c0, XA.c1, XB.c0, XB.c1⟩ | with_reducible exact ⟨(set2_cell _ _ _ _ _ _ (by omega)).trans XA.c0, (set2_cell _ _ _ _ _ _ (by omega)).trans XA.c1, (set2_cell _ _ _ _ _ _ (by omega)).trans XB.c0, (set2_cell _ _ _ _ _ _ (by omega)).trans XB.c1⟩)
    (first
    | (go_at_call 79; (with_reducible refine (rmul_rn (k1 + k2) X Y h1 h2 hf).mono ?_); rintro e w_x ⟨A_x, n_x, c_x, rfl, x, hh⟩
       try replace X := X.below hh
       try replace Y := Y.below hh
       try replace XA := XA.below hh
       try replace XB := XB.below hh
       try replace Z := Z.below hh
       try replace T := T.below hh
       replace hb := bend hb hh)
    | (go_at_call 97; (with_reducible refine (made_any _ _ _ _ _).mono ?_); rintro e w_m ⟨rfl, hh⟩
       try replace X := X.below hh
       try replace Y := Y.below hh
       try replace x := x.below hh
       try replace XA := XA.below hh
       try replace XB := XB.below hh
       try replace Z := Z.below hh
       try replace T := T.below hh
       replace hb := bend hb hh
       have r0 := Z.c0
       have r1 := Z.c1
       have r2 := Z.f0
       have r3 := Z.f1))
  go_wp2
  have hf0 := (Z.set2 (.bool ((!(s == t)) && decide (0 < n_x))) (.slice A_x n_x c_x)).c0
  have hf1 := (Z.set2 (.bool ((!(s == t)) && decide (0 < n_x))) (.slice A_x n_x c_x)).c1
  refine bodyPost_ret (v := .agg #[.bool ((!(s == t)) && decide (0 < n_x)), .slice A_x n_x c_x]) (by simp [results, Tryz.results76, go_sem, hf0, hf1]) rfl ?_
  exact close_rz (s := (!(s == t))) (g := w.heap.size + 1 + 1) hb (by omega) Z x (by rw [iv_mul]) _ _

theorem RN.more {w : World} {A : Option Addr} {n c V k k1 : Nat} (h : RN w A n c V k) (hk : k ≤ k1) : RN w A n c V k1 := ⟨h.1, h.2.1, Nat.le_trans h.2.2 hk⟩
theorem pow_sum32 {k1 k2 k a b : Nat} (ha : a < B32 ^ k1) (hb : b < B32 ^ k2) (h1 : k1 + 1 ≤ k) (h2 : k2 + 1 ≤ k) : a + b < B32 ^ k := by
  obtain ⟨j, rfl⟩ : ∃ j, k = j + 1 := ⟨k - 1, by omega⟩
  have e1 : B32 ^ k1 ≤ B32 ^ j := Nat.pow_le_pow_right (by decide) (by omega)
  have e2 : B32 ^ k2 ≤ B32 ^ j := Nat.pow_le_pow_right (by decide) (by omega)
  have h3 : B32 ^ j * 2 ≤ B32 ^ (j + 1) := by rw [Nat.pow_succ]; exact Nat.mul_le_mul_left _ (by decide)
  omega

set_option maxRecDepth 100000 in
set_option maxHeartbeats 2000000 in
theorem radd2_same {w : World} {s : Bool} {A B : Option Addr} {n c m d k1 k2 U V : Nat} (k : Nat) (X : RN w A n c U k1) (Y : RN w B m d V k2) (h1 : k1 + 1 ≤ k) (h2 : k2 + 1 ≤ k) (hk : k ≤ 1000000) :
    Calls Tryz.prog 82 #[.agg #[.bool s, .slice A n c], .agg #[.bool s, .slice B m d]] w (GivesRZ w (iv s U + iv (s) V) k) := by
  have hne2 : (s == s) = true := by cases s <;> rfl
  have hf := pow_sum32 X.lt Y.lt h1 h2
  go_enter Tryz.func82, Tryz.ntmps82
  go_wp2_with fail
  generalize hW : (((w.alloc (Obj.cells #[Value.bool s, Value.slice A n c] 32)).alloc (Obj.cells #[Value.bool s, Value.slice B m d] 32)).alloc (Obj.cells #[Value.bool false, Value.slice none 0 0] 32)) = W
  have hb : Below w.heap.size w W := by subst hW; exact ((((Below.refl _ _).alloc (Nat.le_refl _) _).alloc (by simp) _).alloc (by simp; omega) _)
  have XA : By W w.heap.size (Value.bool s) (Value.slice A n c) := by subst hW; exact ((By.new w _ _).alloc _).alloc _
  have XB : By W (w.heap.size + 1) (Value.bool s) (Value.slice B m d) := by subst hW; exact (By.new' _ _ _ _ (by simp)).alloc _
  have Z : By W (w.heap.size + 1 + 1) (Value.bool false) (Value.slice none 0 0) := by subst hW; exact By.new' _ _ _ _ (by simp)
  have hz : W.heap.size = w.heap.size + 3 := by subst hW; simp
  clear hW
  replace X := X.below hb
  replace Y := Y.below hb
  have xa0 := XA.c0
  have xa1 := XA.c1
  have xb0 := XB.c0
  have xb1 := XB.c1
  go_wp2_with fail
  replace X := X.below (Below.refl _ _).drew
  replace Y := Y.below (Below.refl _ _).drew
  replace XA := XA.below (Below.refl _ _).drew
  replace XB := XB.below (Below.refl _ _).drew
  replace Z := Z.below (Below.refl _ _).drew
  replace hb := hb.drew
  go_region_held3 (fun w' => w'.cell? ⟨w.heap.size, 0, none⟩ = some (Value.bool s) ∧ w'.cell? ⟨w.heap.size, 1, none⟩ = some (Value.slice A n c) ∧ w'.cell? ⟨w.heap.size + 1, 0, none⟩ = some (Value.bool s) ∧ w'.cell? ⟨w.heap.size + 1, 1, none⟩ = some (Value.slice B m d))
    (first | with_reducible exact ⟨XA.c0, XA.c1, XB.c0, XB.c1⟩ | with_reducible exact ⟨(set2_cell _ _ _ _ _ _ (by omega)).trans XA.c0, (set2_cell _ _ _ _ _ _ (by omega)).trans XA.c1, (set2_cell _ _ _ _ _ _ (by omega)).trans XB.c0, (set2_cell _ _ _ _ _ _ (by omega)).trans XB.c1⟩)
    (first
    | (go_at_call 130; (with_reducible refine (radd_rn k X Y (by omega) (by omega) hf).mono ?_); rintro e w_x ⟨A_x, n_x, c_x, rfl, x, hh⟩
       try replace X := X.below hh
       try replace Y := Y.below hh
       try replace XA := XA.below hh
       try replace XB := XB.below hh
       try replace Z := Z.below hh
       try replace T := T.below hh
       replace hb := bend hb hh)
    | (go_at_call 97; (with_reducible refine (made_any _ _ _ _ _).mono ?_); rintro e w_m ⟨rfl, hh⟩
       try replace X := X.below hh
       try replace Y := Y.below hh
       try replace x := x.below hh
       try replace XA := XA.below hh
       try replace XB := XB.below hh
       try replace Z := Z.below hh
       try replace T := T.below hh
       replace hb := bend hb hh
       have r0 := Z.c0
       have r1 := Z.c1
       have r2 := Z.f0
       have r3 := Z.f1))
  go_wp2
  have hf0 := (Z.set2 (.bool (s && decide (0 < n_x))) (.slice A_x n_x c_x)).c0
  have hf1 := (Z.set2 (.bool (s && decide (0 < n_x))) (.slice A_x n_x c_x)).c1
  refine bodyPost_ret (v := .agg #[.bool (s && decide (0 < n_x)), .slice A_x n_x c_x]) (by simp [results, Tryz.results82, go_sem, hf0, hf1]) rfl ?_
  exact close_rz (s := s) (g := w.heap.size + 1 + 1) hb (by omega) Z x (by rw [iv_add_same]) _ _

set_option maxRecDepth 100000 in
set_option maxHeartbeats 2000000 in
theorem radd2_ge {w : World} {s : Bool} {A B : Option Addr} {n c m d k1 k2 U V : Nat} (k : Nat) (X : RN w A n c U k1) (Y : RN w B m d V k2) (h1 : k1 + 1 ≤ k) (_h2 : k2 + 1 ≤ k) (hk : k ≤ 1000000) (hle : V ≤ U) :
    Calls Tryz.prog 82 #[.agg #[.bool s, .slice A n c], .agg #[.bool !s, .slice B m d]] w (GivesRZ w (iv s U + iv (!s) V) k) := by
  have hne2 : (s == !s) = false := by cases s <;> rfl
  obtain ⟨K, hK, hK0⟩ : ∃ K, cmpN U V = K ∧ 0 ≤ K := ⟨_, rfl, by unfold cmpN; rw [if_neg (by omega)]; split <;> decide⟩
  have HK := Lib.hid hK
  clear hK
  go_enter Tryz.func82, Tryz.ntmps82
  go_wp2_with fail
  generalize hW : (((w.alloc (Obj.cells #[Value.bool s, Value.slice A n c] 32)).alloc (Obj.cells #[Value.bool !s, Value.slice B m d] 32)).alloc (Obj.cells #[Value.bool false, Value.slice none 0 0] 32)) = W
  have hb : Below w.heap.size w W := by subst hW; exact ((((Below.refl _ _).alloc (Nat.le_refl _) _).alloc (by simp) _).alloc (by simp; omega) _)
  have XA : By W w.heap.size (Value.bool s) (Value.slice A n c) := by subst hW; exact ((By.new w _ _).alloc _).alloc _
  have XB : By W (w.heap.size + 1) (Value.bool !s) (Value.slice B m d) := by subst hW; exact (By.new' _ _ _ _ (by simp)).alloc _
  have Z : By W (w.heap.size + 1 + 1) (Value.bool false) (Value.slice none 0 0) := by subst hW; exact By.new' _ _ _ _ (by simp)
  have hz : W.heap.size = w.heap.size + 3 := by subst hW; simp
  clear hW
  replace X := X.below hb
  replace Y := Y.below hb
  have xa0 := XA.c0
  have xa1 := XA.c1
  have xb0 := XB.c0
  have xb1 := XB.c1
  go_wp2_with (first
    | (go_at_call 122; (with_reducible refine (rcmp_rn X Y (by omega)).mono ?_); rintro e w_c ⟨rfl, hh⟩
       rw [HK.out]
       try replace X := X.below hh
       try replace Y := Y.below hh
       try replace XA := XA.below hh
       try replace XB := XB.below hh
       try replace Z := Z.below hh
       replace hb := bend hb hh))
  replace X := X.below (Below.refl _ _).drew
  replace Y := Y.below (Below.refl _ _).drew
  replace XA := XA.below (Below.refl _ _).drew
  replace XB := XB.below (Below.refl _ _).drew
  replace Z := Z.below (Below.refl _ _).drew
  replace hb := hb.drew
  go_region_held3 (fun w' => w'.cell? ⟨w.heap.size, 0, none⟩ = some (Value.bool s) ∧ w'.cell? ⟨w.heap.size, 1, none⟩ = some (Value.slice A n c) ∧ w'.cell? ⟨w.heap.size + 1, 0, none⟩ = some (Value.bool !s) ∧ w'.cell? ⟨w.heap.size + 1, 1, none⟩ = some (Value.slice B m d))
    (first | with_reducible exact ⟨XA.c0, XA.c1, XB.c0, XB.c1⟩ | with_reducible exact ⟨(set2_cell _ _ _ _ _ _ (by omega)).trans XA.c0, (set2_cell _ _ _ _ _ _ (by omega)).trans XA.c1, (set2_cell _ _ _ _ _ _ (by omega)).trans XB.c0, (set2_cell _ _ _ _ _ _ (by omega)).trans XB.c1⟩)
    (first
    | (go_at_call 131; (with_reducible refine (rsub_rn X Y (by omega) hle).mono ?_); rintro e w_x ⟨A_x, n_x, c_x, rfl, x, hh⟩
       try replace X := X.below hh
       try replace Y := Y.below hh
       try replace XA := XA.below hh
       try replace XB := XB.below hh
       try replace Z := Z.below hh
       try replace T := T.below hh
       replace hb := bend hb hh)
    | (go_at_call 97; (with_reducible refine (made_any _ _ _ _ _).mono ?_); rintro e w_m ⟨rfl, hh⟩
       try replace X := X.below hh
       try replace Y := Y.below hh
       try replace x := x.below hh
       try replace XA := XA.below hh
       try replace XB := XB.below hh
       try replace Z := Z.below hh
       try replace T := T.below hh
       replace hb := bend hb hh
       have r0 := Z.c0
       have r1 := Z.c1
       have r2 := Z.f0
       have r3 := Z.f1))
  go_wp2
  have hf0 := (Z.set2 (.bool (s && decide (0 < n_x))) (.slice A_x n_x c_x)).c0
  have hf1 := (Z.set2 (.bool (s && decide (0 < n_x))) (.slice A_x n_x c_x)).c1
  refine bodyPost_ret (v := .agg #[.bool (s && decide (0 < n_x)), .slice A_x n_x c_x]) (by simp [results, Tryz.results82, go_sem, hf0, hf1]) rfl ?_
  exact close_rz (s := s) (g := w.heap.size + 1 + 1) hb (by omega) Z (x.more (by omega)) (iv_add_ge hle).symm _ _

set_option maxRecDepth 100000 in
set_option maxHeartbeats 2000000 in
theorem radd2_lt {w : World} {s : Bool} {A B : Option Addr} {n c m d k1 k2 U V : Nat} (k : Nat) (X : RN w A n c U k1) (Y : RN w B m d V k2) (h1 : k1 + 1 ≤ k) (h2 : k2 + 1 ≤ k) (hk : k ≤ 1000000) (hlt : U < V) :
    Calls Tryz.prog 82 #[.agg #[.bool s, .slice A n c], .agg #[.bool !s, .slice B m d]] w (GivesRZ w (iv s U + iv (!s) V) k) := by
  have hne2 : (s == !s) = false := by cases s <;> rfl
  obtain ⟨K, hK, hK0⟩ : ∃ K, cmpN U V = K ∧ ¬ 0 ≤ K := ⟨_, rfl, by unfold cmpN; rw [if_pos hlt]; decide⟩
  have HK := Lib.hid hK
  clear hK
  go_enter Tryz.func82, Tryz.ntmps82
  go_wp2_with fail
  generalize hW : (((w.alloc (Obj.cells #[Value.bool s, Value.slice A n c] 32)).alloc (Obj.cells #[Value.bool !s, Value.slice B m d] 32)).alloc (Obj.cells #[Value.bool false, Value.slice none 0 0] 32)) = W
  have hb : Below w.heap.size w W := by subst hW; exact ((((Below.refl _ _).alloc (Nat.le_refl _) _).alloc (by simp) _).alloc (by simp; omega) _)
  have XA : By W w.heap.size (Value.bool s) (Value.slice A n c) := by subst hW; exact ((By.new w _ _).alloc _).alloc _
  have XB : By W (w.heap.size + 1) (Value.bool !s) (Value.slice B m d) := by subst hW; exact (By.new' _ _ _ _ (by simp)).alloc _
  have Z : By W (w.heap.size + 1 + 1) (Value.bool false) (Value.slice none 0 0) := by subst hW; exact By.new' _ _ _ _ (by simp)
  have hz : W.heap.size = w.heap.size + 3 := by subst hW; simp
  clear hW
  replace X := X.below hb
  replace Y := Y.below hb
  have xa0 := XA.c0
  have xa1 := XA.c1
  have xb0 := XB.c0
  have xb1 := XB.c1
  go_wp2_with (first
    | (go_at_call 122; (with_reducible refine (rcmp_rn X Y (by omega)).mono ?_); rintro e w_c ⟨rfl, hh⟩
       rw [HK.out]
       try replace X := X.below hh
       try replace Y := Y.below hh
       try replace XA := XA.below hh
       try replace XB := XB.below hh
       try replace Z := Z.below hh
       replace hb := bend hb hh))
  replace X := X.below (Below.refl _ _).drew
  replace Y := Y.below (Below.refl _ _).drew
  replace XA := XA.below (Below.refl _ _).drew
  replace XB := XB.below (Below.refl _ _).drew
  replace Z := Z.below (Below.refl _ _).drew
  replace hb := hb.drew
  go_region_held3 (fun w' => w'.cell? ⟨w.heap.size, 0, none⟩ = some (Value.bool s) ∧ w'.cell? ⟨w.heap.size, 1, none⟩ = some (Value.slice A n c) ∧ w'.cell? ⟨w.heap.size + 1, 0, none⟩ = some (Value.bool !s) ∧ w'.cell? ⟨w.heap.size + 1, 1, none⟩ = some (Value.slice B m d))
    (first | with_reducible exact ⟨XA.c0, XA.c1, XB.c0, XB.c1⟩ | with_reducible exact ⟨(set2_cell _ _ _ _ _ _ (by omega)).trans XA.c0, (set2_cell _ _ _ _ _ _ (by omega)).trans XA.c1, (set2_cell _ _ _ _ _ _ (by omega)).trans XB.c0, (set2_cell _ _ _ _ _ _ (by omega)).trans XB.c1⟩)
    (first
    | (go_at_call 131; (with_reducible refine (rsub_rn Y X (by omega) (Nat.le_of_lt hlt)).mono ?_); rintro e w_x ⟨A_x, n_x, c_x, rfl, x, hh⟩
       try replace X := X.below hh
       try replace Y := Y.below hh
       try replace XA := XA.below hh
       try replace XB := XB.below hh
       try replace Z := Z.below hh
       try replace T := T.below hh
       replace hb := bend hb hh)
    | (go_at_call 97; (with_reducible refine (made_any _ _ _ _ _).mono ?_); rintro e w_m ⟨rfl, hh⟩
       try replace X := X.below hh
       try replace Y := Y.below hh
       try replace x := x.below hh
       try replace XA := XA.below hh
       try replace XB := XB.below hh
       try replace Z := Z.below hh
       try replace T := T.below hh
       replace hb := bend hb hh
       have r0 := Z.c0
       have r1 := Z.c1
       have r2 := Z.f0
       have r3 := Z.f1))
  go_wp2
  have hf0 := (Z.set2 (.bool ((!s) && decide (0 < n_x))) (.slice A_x n_x c_x)).c0
  have hf1 := (Z.set2 (.bool ((!s) && decide (0 < n_x))) (.slice A_x n_x c_x)).c1
  refine bodyPost_ret (v := .agg #[.bool ((!s) && decide (0 < n_x)), .slice A_x n_x c_x]) (by simp [results, Tryz.results82, go_sem, hf0, hf1]) rfl ?_
  exact close_rz (s := (!s)) (g := w.heap.size + 1 + 1) hb (by omega) Z (x.more (by omega)) (iv_add_lt hlt).symm _ _

theorem radd2 {w : World} {s t : Bool} {A B : Option Addr} {n c m d k1 k2 : Nat} {v u : Int} (k : Nat) (X : RZ w s A n c v k1) (Y : RZ w t B m d u k2) (h1 : k1 + 1 ≤ k) (h2 : k2 + 1 ≤ k) (hk : k ≤ 1000000) :
    Calls Tryz.prog 82 #[.agg #[.bool s, .slice A n c], .agg #[.bool t, .slice B m d]] w (GivesRZ w (v + u) k) := by
  obtain ⟨U, X, rfl⟩ := X
  obtain ⟨V, Y, rfl⟩ := Y
  by_cases h : t = s
  · subst h; exact radd2_same k X Y h1 h2 hk
  · have ht : t = !s := by cases s <;> cases t <;> simp_all
    subst ht
    rcases Nat.lt_or_ge U V with hlt | hle
    · exact radd2_lt k X Y h1 h2 hk hlt
    · exact radd2_ge k X Y h1 h2 hk hle

set_option maxRecDepth 100000 in
set_option maxHeartbeats 2000000 in
theorem rsub2 {w : World} {s t : Bool} {A B : Option Addr} {n c m d k1 k2 : Nat} {v u : Int} (k : Nat) (X : RZ w s A n c v k1) (Y : RZ w t B m d u k2) (h1 : k1 + 1 ≤ k) (h2 : k2 + 1 ≤ k) (hk : k ≤ 1000000) :
    Calls Tryz.prog 135 #[.agg #[.bool s, .slice A n c], .agg #[.bool t, .slice B m d]] w (GivesRZ w (v - u) k) := by
  have hvu := Lib.hid (show v + -u = v - u by omega)
  go_enter Tryz.func135, Tryz.ntmps135
  go_wp2_with fail
  generalize hW : (((w.alloc (Obj.cells #[Value.bool s, Value.slice A n c] 32)).alloc (Obj.cells #[Value.bool t, Value.slice B m d] 32)).alloc (Obj.cells #[Value.bool false, Value.slice none 0 0] 32)) = W
  have hb : Below w.heap.size w W := by subst hW; exact ((((Below.refl _ _).alloc (Nat.le_refl _) _).alloc (by simp) _).alloc (by simp; omega) _)
  have XA : By W w.heap.size (Value.bool s) (Value.slice A n c) := by subst hW; exact ((By.new w _ _).alloc _).alloc _
  have XB : By W (w.heap.size + 1) (Value.bool t) (Value.slice B m d) := by subst hW; exact (By.new' _ _ _ _ (by simp)).alloc _
  have Z : By W (w.heap.size + 1 + 1) (Value.bool false) (Value.slice none 0 0) := by subst hW; exact By.new' _ _ _ _ (by simp)
  have hz : W.heap.size = w.heap.size + 3 := by subst hW; simp
  clear hW
  replace X := X.below hb
  replace Y := Y.below hb
  replace X := X.below (Below.refl _ _).drew
  replace Y := Y.below (Below.refl _ _).drew
  replace XA := XA.below (Below.refl _ _).drew
  replace XB := XB.below (Below.refl _ _).drew
  replace Z := Z.below (Below.refl _ _).drew
  replace hb := hb.drew
  go_region_held3 (fun w' => w'.cell? ⟨w.heap.size, 0, none⟩ = some (Value.bool s) ∧ w'.cell? ⟨w.heap.size, 1, none⟩ = some (Value.slice A n c) ∧ w'.cell? ⟨w.heap.size + 1, 0, none⟩ = some (Value.bool t) ∧ w'.cell? ⟨w.heap.size + 1, 1, none⟩ = some (Value.slice B m d))
    (first | with_reducible exact ⟨XA.c0, XA.c1, XB.c0, XB.c1⟩ | with_reducible exact ⟨(set2_cell _ _ _ _ _ _ (by omega)).trans XA.c0, (set2_cell _ _ _ _ _ _ (by omega)).trans XA.c1, (set2_cell _ _ _ _ _ _ (by omega)).trans XB.c0, (set2_cell _ _ _ _ _ _ (by omega)).trans XB.c1⟩)
    (first
    | (go_at_call 78; (with_reducible refine (rminus2 Y).mono ?_); rintro e w_x ⟨s_y, A_y, n_y, c_y, rfl, y, hh⟩
       try replace X := X.below hh
       try replace Y := Y.below hh
       try replace x := x.below hh
       try replace XA := XA.below hh
       try replace XB := XB.below hh
       try replace Z := Z.below hh
       try replace T := T.below hh
       replace hb := bend hb hh
       have yz := y.rz)
    | (go_at_call 82; (with_reducible refine (radd2 k X yz (by omega) (by omega) hk).mono ?_); rintro e w_x ⟨s_x, A_x, n_x, c_x, rfl, x, hh⟩
       try replace X := X.below hh
       try replace Y := Y.below hh
       try replace XA := XA.below hh
       try replace XB := XB.below hh
       try replace Z := Z.below hh
       try replace T := T.below hh
       replace hb := bend hb hh
       rw [hvu.out] at x
       have r0 := Z.c0
       have r1 := Z.c1
       have r2 := Z.f0
       have r3 := Z.f1))
  go_wp2
  have hf0 := (Z.set2 (.bool s_x) (.slice A_x n_x c_x)).c0
  have hf1 := (Z.set2 (.bool s_x) (.slice A_x n_x c_x)).c1
  refine bodyPost_ret (v := .agg #[.bool s_x, .slice A_x n_x c_x]) (by simp [results, Tryz.results135, go_sem, hf0, hf1]) rfl ?_
  exact close_rz2 (g := w.heap.size + 1 + 1) hb (by omega) Z x _ _

theorem sgn_iv_t {U : Nat} (h : U ≠ 0) : sgn (iv true U) = -1 := by unfold sgn iv; rw [if_pos (by simp; omega)]
theorem sgn_iv_f {U : Nat} (h : U ≠ 0) : sgn (iv false U) = 1 := by unfold sgn iv; rw [if_neg (by simp), if_neg (by simp; omega)]

set_option maxRecDepth 100000 in
set_option maxHeartbeats 2000000 in
theorem rsign2 {w : World} {s : Bool} {A : Option Addr} {n c k : Nat} {v : Int} (X : RZ w s A n c v k) :
    Calls Tryz.prog 36 #[.agg #[.bool s, .slice A n c]] w fun e w' => e = .returned (.int .i64 (sgn v)) ∧ Below w.heap.size w w' := by
  obtain ⟨U, X, rfl⟩ := X
  by_cases h0 : U = 0
  · subst h0
    have hn : n = 0 := by have := X.1.1; rw [limbs_zero] at this; exact this.symm
    subst hn
    have HS : Hid (sgn (iv s 0) = 0) := by show _ = _; cases s <;> rfl
    go_enter Tryz.func36, Tryz.ntmps36
    go_wp2_with fail
    go_ret
    exact ⟨ret_int (by rw [HS.out]), (Below.refl _ _).alloc (Nat.le_refl _) _⟩
  · have hn : 0 < n := by
      have := X.1.1
      rw [limbs_pos B32_two h0] at this
      simp at this; omega
    have hnz : ((n : Int) == 0) = false := by simp; omega
    cases s
    · have HS := Lib.hid (sgn_iv_f h0)
      clear h0 hn
      go_enter Tryz.func36, Tryz.ntmps36
      go_wp2_with fail
      go_ret
      exact ⟨ret_int (by rw [HS.out]), (Below.refl _ _).alloc (Nat.le_refl _) _⟩
    · have HS := Lib.hid (sgn_iv_t h0)
      clear h0 hn
      go_enter Tryz.func36, Tryz.ntmps36
      go_wp2_with fail
      go_ret
      exact ⟨ret_int (by rw [HS.out]), (Below.refl _ _).alloc (Nat.le_refl _) _⟩

theorem sgn_sub (v u : Int) : sgn (v - u) = cmpZ v u := by unfold sgn cmpZ; (repeat' split) <;> omega
set_option maxRecDepth 100000 in
set_option maxHeartbeats 2000000 in
theorem rcmp2 {w : World} {s t : Bool} {A B : Option Addr} {n c m d k1 k2 : Nat} {v u : Int} (X : RZ w s A n c v k1) (Y : RZ w t B m d u k2) (h1 : k1 ≤ 100000) (h2 : k2 ≤ 100000) :
    Calls Tryz.prog 87 #[.agg #[.bool s, .slice A n c], .agg #[.bool t, .slice B m d]] w fun e w' => e = .returned (.int .i64 (cmpZ v u)) ∧ Below w.heap.size w w' := by
  go_enter Tryz.func87, Tryz.ntmps87
  go_wp2_with fail
  generalize hW : ((w.alloc (Obj.cells #[Value.bool s, Value.slice A n c] 32)).alloc (Obj.cells #[Value.bool t, Value.slice B m d] 32)) = W
  have hb : Below w.heap.size w W := by subst hW; exact (((Below.refl _ _).alloc (Nat.le_refl _) _).alloc (by simp) _)
  have XA : By W w.heap.size (Value.bool s) (Value.slice A n c) := by subst hW; exact (By.new w _ _).alloc _
  have XB : By W (w.heap.size + 1) (Value.bool t) (Value.slice B m d) := by subst hW; exact By.new' _ _ _ _ (by simp)
  have hz : W.heap.size = w.heap.size + 2 := by subst hW; simp
  clear hW
  replace X := X.below hb
  replace Y := Y.below hb
  have xa0 := XA.c0
  have xa1 := XA.c1
  have xb0 := XB.c0
  have xb1 := XB.c1
  go_wp2_with (first
    | (go_at_call 135; (with_reducible refine (rsub2 (k1 + k2 + 1) X Y (by omega) (by omega) (by omega)).mono ?_); rintro e w_x ⟨s_x, A_x, n_x, c_x, rfl, x, hh⟩
       replace hb := bend hb hh
       have xz := x.rz)
    | (go_at_call 36; (with_reducible refine (rsign2 xz).mono ?_); rintro e w_y ⟨rfl, hh⟩
       replace hb := bend hb hh
       rw [sgn_sub]))
  go_ret
  exact ⟨rfl, hb⟩
end Go.Proofs.YtmcijgnbdnpanaaGreat
