/- RootBrackets: part 10. -/
import Derived.Deep.RegionHeld3
import Derived.Test.YtlkjkhpjhllapaaGreatKRootBrackets0
import Derived.Test.YtlkjkhpjhllapaaGreatKRootBrackets6
import Derived.Test.YtlkjkhpjhllapaaGreatKRootBrackets8
import Derived.Test.YtlkjkhpjhllapaaGreatKRootBrackets9
set_option linter.unusedVariables false
namespace Go.Proofs.YtlkjkhpjhllapaaGreat
open Go.RowKit
def By (W : World) (g : Nat) (x y : Value) : Prop := W.heap[g]? = some (.cells #[x, y] 32 (0, 0))
section
variable {W W' : World} {g : Nat} {x y : Value}
theorem By.c0 (h : By W g x y) : W.cell? ⟨g, 0, none⟩ = some x := by rw [cell_of_row W g 0 _ _ (0, 0) h]; rfl
theorem By.c1 (h : By W g x y) : W.cell? ⟨g, 1, none⟩ = some y := by rw [cell_of_row W g 1 _ _ (0, 0) h]; rfl
theorem By.f0 (h : By W g x y) : W.frozen? ⟨g, 0, none⟩ = false := frozen_of_row W g 0 _ _ h
theorem By.f1 (h : By W g x y) : W.frozen? ⟨g, 1, none⟩ = false := frozen_of_row W g 1 _ _ h
theorem By.lt (h : By W g x y) : g < W.heap.size := World.block_lt_of_cell? W _ h.c0
theorem By.below (h : By W g x y) (hb : Below W.heap.size W W') : By W' g x y := (hb.block g h.lt).trans h
theorem By.drew (h : By W g x y) : By W.drew g x y := h
theorem By.alloc (h : By W g x y) (o : Obj) : By (W.alloc o) g x y := (Below.heap_alloc W o g h.lt).trans h
theorem By.new (W : World) (x y : Value) : By (W.alloc (.cells #[x, y] 32)) W.heap.size x y := heap_alloc_new W _
theorem By.new' (W : World) (x y : Value) (g : Nat) (hg : g = W.heap.size) : By (W.alloc (.cells #[x, y] 32)) g x y := by subst hg; exact By.new W x y
theorem By.set2 (h : By W g x y) (u v : Value) : By ((W.setCell ⟨g, 0, none⟩ u).setCell ⟨g, 1, none⟩ v) g u v := by
  unfold By at h ⊢
  simp [World.setCell, Array.getElem?_modify, h]
theorem By.off {s : Bool} {A' A : Option Addr} {n' c' n : Nat} {K : IntKind} {l : List Nat} (h : By W g (.bool s) (.slice A' n' c')) (hr : Rd K W A n l) : Off A n g := by
  intro hn ad e hg
  obtain ⟨b, o, eA, hc⟩ := hr.at_ hn
  obtain ⟨x, _, hx⟩ := hc 0 hn
  rw [eA] at e
  cases e
  have hg2 : b = g := hg
  subst hg2
  rw [cell_of_row W b (o + 0) _ _ (0, 0) h] at hx
  match o, hx with
  | 0, hx => cases hx
  | 1, hx => cases hx
  | o + 2, hx => cases hx
end
def RZ (w : World) (s : Bool) (A : Option Addr) (n c : Nat) (v : Int) (k : Nat) : Prop := ∃ U, RN w A n c U k ∧ iv s U = v
def RG (w : World) (s : Bool) (A : Option Addr) (n c : Nat) (v : Int) (k : Nat) : Prop := s = decide (v < 0) ∧ RN w A n c v.natAbs k
def GivesRZ (w : World) (v : Int) (k : Nat) (e : Ending) (w' : World) : Prop :=
  ∃ s A n c, e = .returned (.agg #[.bool s, .slice A n c]) ∧ RG w' s A n c v k ∧ Below w.heap.size w w'
theorem iv_canon (v : Int) : iv (decide (v < 0)) v.natAbs = v := by
  unfold iv
  by_cases h : v < 0
  · simp [h]; omega
  · simp [h]; omega
theorem RG.rz {w : World} {s : Bool} {A : Option Addr} {n c k : Nat} {v : Int} (h : RG w s A n c v k) : RZ w s A n c v k := ⟨_, h.2, by rw [h.1]; exact iv_canon v⟩
theorem RG.below {w w' : World} {s : Bool} {A : Option Addr} {n c k : Nat} {v : Int} (h : RG w s A n c v k) (hb : Below w.heap.size w w') : RG w' s A n c v k := ⟨h.1, h.2.below hb⟩
theorem RZ.below {w w' : World} {s : Bool} {A : Option Addr} {n c k : Nat} {v : Int} (h : RZ w s A n c v k) (hb : Below w.heap.size w w') : RZ w' s A n c v k := by
  obtain ⟨U, h1, h2⟩ := h
  exact ⟨U, h1.below hb, h2⟩
theorem rn_pos {w : World} {A : Option Addr} {n c V k : Nat} (h : RN w A n c V k) : decide (0 < n) = decide (0 < V) := by
  have hl := h.1.1
  by_cases h0 : V = 0
  · rw [h0, limbs_zero] at hl
    rw [h0, ← hl]; rfl
  · rw [limbs_pos B32_two h0] at hl
    simp at hl
    rw [decide_eq_true (by omega : 0 < n), decide_eq_true (by omega : 0 < V)]
theorem close_rz {w W : World} {g k : Nat} {s z : Bool} {A A' : Option Addr} {n c n' c' V : Nat} {v : Int} (hb : Below w.heap.size w W) (hg : w.heap.size ≤ g) (Z : By W g (.bool z) (.slice A' n' c')) (X : RN W A n c V k) (hv : v = iv s V) (u x : Value) :
    GivesRZ w v k (.returned (.agg #[.bool (s && decide (0 < n)), .slice A n c])) ((W.setCell ⟨g, 0, none⟩ u).setCell ⟨g, 1, none⟩ x) := by
  subst hv
  refine ⟨_, A, n, c, rfl, ⟨?_, ?_⟩, (hb.setCell hg _).setCell hg _⟩
  · rw [iv_neg, rn_pos X]
  · rw [iv_natAbs]
    exact ⟨X.1.only (Z.off X.1) (((Only.refl g W).setCell 0 u).setCell 1 x), X.2⟩
theorem close_rz2 {w W : World} {g k : Nat} {z s : Bool} {A A' : Option Addr} {n c n' c' : Nat} {v : Int} (hb : Below w.heap.size w W) (hg : w.heap.size ≤ g) (Z : By W g (.bool z) (.slice A' n' c')) (X : RG W s A n c v k) (u x : Value) :
    GivesRZ w v k (.returned (.agg #[.bool s, .slice A n c])) ((W.setCell ⟨g, 0, none⟩ u).setCell ⟨g, 1, none⟩ x) :=
  ⟨s, A, n, c, rfl, ⟨X.1, X.2.1.only (Z.off X.2.1) (((Only.refl g W).setCell 0 u).setCell 1 x), X.2.2⟩, (hb.setCell hg _).setCell hg _⟩
theorem rsub_rn {w : World} {A B : Option Addr} {n c m d U V k1 k2 : Nat} (X : RN w A n c U k1) (Y : RN w B m d V k2) (h1 : k1 ≤ 1000000) (hle : V ≤ U) :
    Calls Tryz.prog 171 #[.slice A n c, .slice B m d] w (GivesR w (U - V) k1) := by
  have hU := X.lt
  refine (rsub_any _ _ A B n c m d w X.1 Y.1 (lim_limbs B32_two _) (lim_limbs B32_two _) (Nat.le_trans X.2.2 h1) (by rw [← X.1.1, ← Y.1.1]; exact length_limbs_mono B32_two hle) (by rw [val_limbs B32_two, val_limbs B32_two]; exact hle)).mono fun _ _ g => ?_
  rw [val_limbs B32_two, val_limbs B32_two] at g
  exact g.r (by omega)
set_option maxHeartbeats 1000000 in
theorem made_any (neg : Bool) (A : Option Addr) (n c : Nat) (w : World) :
    Calls Tryz.prog 167 #[.bool neg, .slice A n c] w fun e w' => e = .returned (.agg #[.bool (neg && decide (0 < n)), .slice A n c]) ∧ Below w.heap.size w w' := by
  cases neg
  · go_enter Tryz.func167, Tryz.ntmps167
    go_wp2
    go_returns
    exact ⟨rfl, (Below.refl _ _).alloc (Nat.le_refl _) _⟩
  · go_enter Tryz.func167, Tryz.ntmps167
    go_wp2
    go_returns
    exact ⟨by simp, (Below.refl _ _).alloc (Nat.le_refl _) _⟩
set_option maxRecDepth 100000 in
set_option maxHeartbeats 2000000 in
theorem rin2 {w : World} {s : Bool} {A : Option Addr} {n c k : Nat} {v : Int} (X0 : ZR w s A n c v k) (hk : k ≤ 1000) :
    Calls Tryz.prog 100 #[.agg #[.bool s, .slice A n c]] w (GivesRZ w (v) (2 * k)) := by
  obtain ⟨V, X, hv⟩ : ∃ V, NR w A n c V k ∧ iv s V = v := by
    obtain ⟨l, h1, h2, h3, h4, h5, h6⟩ := X0
    exact ⟨_, ⟨l, h1, h2, rfl, h4, h5⟩, h3⟩
  subst hv
  clear X0
  go_enter Tryz.func100, Tryz.ntmps100
  go_wp2_with fail
  generalize hW : ((w.alloc (Obj.cells #[Value.bool s, Value.slice A n c] 24)).alloc (Obj.cells #[Value.bool false, Value.slice none 0 0] 32)) = W
  have hb : Below w.heap.size w W := by subst hW; exact (((Below.refl _ _).alloc (Nat.le_refl _) _).alloc (by simp) _)
  have XA : Bx W w.heap.size (Value.bool s) (Value.slice A n c) := by subst hW; exact (Bx.new w _ _).alloc _
  have Z : By W (w.heap.size + 1) (Value.bool false) (Value.slice none 0 0) := by subst hW; exact By.new' _ _ _ _ (by simp)
  have hz : W.heap.size = w.heap.size + 2 := by subst hW; simp
  clear hW
  replace X := X.below hb
  replace X := X.below (Below.refl _ _).drew
  replace XA := XA.below (Below.refl _ _).drew
  replace Z := Z.below (Below.refl _ _).drew
  replace hb := hb.drew
  go_region_held3 (fun w' => w'.cell? ⟨w.heap.size, 0, none⟩ = some (Value.bool s) ∧ w'.cell? ⟨w.heap.size, 1, none⟩ = some (Value.slice A n c))
    (first | with_reducible exact ⟨XA.c0, XA.c1⟩ | with_reducible exact ⟨(set2_cell _ _ _ _ _ _ (by omega)).trans XA.c0, (set2_cell _ _ _ _ _ _ (by omega)).trans XA.c1⟩)
    (first
    | (go_at_call 97; (with_reducible refine (rin_nr (2 * k) X (by omega) rfl).mono ?_); rintro e w_x ⟨A_x, n_x, c_x, rfl, x, hh⟩
       try replace X := X.below hh
       try replace Y := Y.below hh
       try replace XA := XA.below hh
       try replace XB := XB.below hh
       try replace Z := Z.below hh
       try replace T := T.below hh
       replace hb := bend hb hh)
    | (go_at_call 167; (with_reducible refine (made_any _ _ _ _ _).mono ?_); rintro e w_m ⟨rfl, hh⟩
       try replace X := X.below hh
       try replace Y := Y.below hh
       try replace x := x.below hh
       try replace XA := XA.below hh
       try replace XB := XB.below hh
       try replace Z := Z.below hh
       try replace T := T.below hh
       replace hb := bend hb hh
       have r0 := Z.c0
       have r1 := Z.c1
       have r2 := Z.f0
       have r3 := Z.f1))
  go_wp2
  have hf0 := (Z.set2 (.bool (s && decide (0 < n_x))) (.slice A_x n_x c_x)).c0
  have hf1 := (Z.set2 (.bool (s && decide (0 < n_x))) (.slice A_x n_x c_x)).c1
  refine bodyPost_ret (v := .agg #[.bool (s && decide (0 < n_x)), .slice A_x n_x c_x]) (by simp [results, Tryz.results100, go_sem, hf0, hf1]) rfl ?_
  exact close_rz (s := s) (g := w.heap.size + 1) hb (by omega) Z x rfl _ _
set_option maxRecDepth 100000 in
set_option maxHeartbeats 2000000 in
theorem rminus2 {w : World} {s : Bool} {A : Option Addr} {n c k : Nat} {v : Int} (X0 : RZ w s A n c v k) :
    Calls Tryz.prog 107 #[.agg #[.bool s, .slice A n c]] w (GivesRZ w (-v) k) := by
  obtain ⟨U, x, hv⟩ := X0
  subst hv
  go_enter Tryz.func107, Tryz.ntmps107
  go_wp2_with fail
  generalize hW : ((w.alloc (Obj.cells #[Value.bool s, Value.slice A n c] 32)).alloc (Obj.cells #[Value.bool false, Value.slice none 0 0] 32)) = W
  have hb : Below w.heap.size w W := by subst hW; exact (((Below.refl _ _).alloc (Nat.le_refl _) _).alloc (by simp) _)
  have XA : By W w.heap.size (Value.bool s) (Value.slice A n c) := by subst hW; exact (By.new w _ _).alloc _
  have Z : By W (w.heap.size + 1) (Value.bool false) (Value.slice none 0 0) := by subst hW; exact By.new' _ _ _ _ (by simp)
  have hz : W.heap.size = w.heap.size + 2 := by subst hW; simp
  clear hW
  replace x := x.below hb
  go_wp2_with (first
    | (go_at_call 167; (with_reducible refine (made_any _ _ _ _ _).mono ?_); rintro e w_m ⟨rfl, hh⟩
       try replace X := X.below hh
       try replace Y := Y.below hh
       try replace x := x.below hh
       try replace XA := XA.below hh
       try replace XB := XB.below hh
       try replace Z := Z.below hh
       try replace T := T.below hh
       replace hb := bend hb hh
       have r0 := Z.c0
       have r1 := Z.c1
       have r2 := Z.f0
       have r3 := Z.f1))
  have hf0 := (Z.set2 (.bool ((!s) && decide (0 < n))) (.slice A n c)).c0
  have hf1 := (Z.set2 (.bool ((!s) && decide (0 < n))) (.slice A n c)).c1
  refine bodyPost_ret (v := .agg #[.bool ((!s) && decide (0 < n)), .slice A n c]) (by simp [results, Tryz.results107, go_sem, hf0, hf1]) rfl ?_
  exact close_rz (s := (!s)) (g := w.heap.size + 1) hb (by omega) Z x (by rw [iv_not]) _ _
set_option maxRecDepth 100000 in
set_option maxHeartbeats 2000000 in
theorem rmul2 {w : World} {s t : Bool} {A B : Option Addr} {n c m d k1 k2 : Nat} {v u : Int} (X0 : RZ w s A n c v k1) (Y0 : RZ w t B m d u k2) (h1 : k1 ≤ 1000000) (h2 : k2 ≤ 1000000) :
    Calls Tryz.prog 105 #[.agg #[.bool s, .slice A n c], .agg #[.bool t, .slice B m d]] w (GivesRZ w (v * u) (k1 + k2)) := by
  obtain ⟨U, X, hv⟩ := X0
  obtain ⟨V, Y, hu⟩ := Y0
  subst hv
  subst hu
  have hf : U * V < B32 ^ (k1 + k2) := by rw [Nat.pow_add]; exact Nat.mul_lt_mul'' X.lt Y.lt
  go_enter Tryz.func105, Tryz.ntmps105
  go_wp2_with fail
  generalize hW : (((w.alloc (Obj.cells #[Value.bool s, Value.slice A n c] 32)).alloc (Obj.cells #[Value.bool t, Value.slice B m d] 32)).alloc (Obj.cells #[Value.bool false, Value.slice none 0 0] 32)) = W
  have hb : Below w.heap.size w W := by subst hW; exact ((((Below.refl _ _).alloc (Nat.le_refl _) _).alloc (by simp) _).alloc (by simp; omega) _)
  have XA : By W w.heap.size (Value.bool s) (Value.slice A n c) := by subst hW; exact ((By.new w _ _).alloc _).alloc _
  have XB : By W (w.heap.size + 1) (Value.bool t) (Value.slice B m d) := by subst hW; exact (By.new' _ _ _ _ (by simp)).alloc _
  have Z : By W (w.heap.size + 1 + 1) (Value.bool false) (Value.slice none 0 0) := by subst hW; exact By.new' _ _ _ _ (by simp)
  have hz : W.heap.size = w.heap.size + 3 := by subst hW; simp
  clear hW
  replace X := X.below hb
  replace Y := Y.below hb
  replace X := X.below (Below.refl _ _).drew
  replace Y := Y.below (Below.refl _ _).drew
  replace XA := XA.below (Below.refl _ _).drew
  replace XB := XB.below (Below.refl _ _).drew
  replace Z := Z.below (Below.refl _ _).drew
  replace hb := hb.drew
  go_region_held3 (fun w' => w'.cell? ⟨w.heap.size, 0, none⟩ = some (Value.bool s) ∧ w'.cell? ⟨w.heap.size, 1, none⟩ = some (Value.slice A n c) ∧ w'.cell? ⟨w.heap.size + 1, 0, none⟩ = some (Value.bool t) ∧ w'.cell? ⟨w.heap.size + 1, 1, none⟩ = some (Value.slice B m d))
    (first | with_reducible exact ⟨XA.c0, XA.c1, XB.c0, XB.c1⟩ | with_reducible exact ⟨(set2_cell _ _ _ _ _ _ (by omega)).trans XA.c0, (set2_cell _ _ _ _ _ _ (by omega)).trans XA.c1, (set2_cell _ _ _ _ _ _ (by omega)).trans XB.c0, (set2_cell _ _ _ _ _ _ (by omega)).trans XB.c1⟩)
    (first
    | (go_at_call 108; (with_reducible refine (rmul_rn (k1 + k2) X Y h1 h2 hf).mono ?_); rintro e w_x ⟨A_x, n_x, c_x, rfl, x, hh⟩
       try replace X := X.below hh
       try replace Y := Y.below hh
       try replace XA := XA.below hh
       try replace XB := XB.below hh
       try replace Z := Z.below hh
       try replace T := T.below hh
       replace hb := bend hb hh)
    | (go_at_call 167; (with_reducible refine (made_any _ _ _ _ _).mono ?_); rintro e w_m ⟨rfl, hh⟩
       try replace X := X.below hh
       try replace Y := Y.below hh
       try replace x := x.below hh
       try replace XA := XA.below hh
       try replace XB := XB.below hh
       try replace Z := Z.below hh
       try replace T := T.below hh
       replace hb := bend hb hh
       have r0 := Z.c0
       have r1 := Z.c1
       have r2 := Z.f0
       have r3 := Z.f1))
  go_wp2
  have hf0 := (Z.set2 (.bool ((!(s == t)) && decide (0 < n_x))) (.slice A_x n_x c_x)).c0
  have hf1 := (Z.set2 (.bool ((!(s == t)) && decide (0 < n_x))) (.slice A_x n_x c_x)).c1
  refine bodyPost_ret (v := .agg #[.bool ((!(s == t)) && decide (0 < n_x)), .slice A_x n_x c_x]) (by simp [results, Tryz.results105, go_sem, hf0, hf1]) rfl ?_
  exact close_rz (s := (!(s == t))) (g := w.heap.size + 1 + 1) hb (by omega) Z x (by rw [iv_mul]) _ _
theorem RN.more {w : World} {A : Option Addr} {n c V k k1 : Nat} (h : RN w A n c V k) (hk : k ≤ k1) : RN w A n c V k1 := ⟨h.1, h.2.1, Nat.le_trans h.2.2 hk⟩
theorem pow_sum32 {k1 k2 k a b : Nat} (ha : a < B32 ^ k1) (hb : b < B32 ^ k2) (h1 : k1 + 1 ≤ k) (h2 : k2 + 1 ≤ k) : a + b < B32 ^ k := by
  obtain ⟨j, rfl⟩ : ∃ j, k = j + 1 := ⟨k - 1, by omega⟩
  have e1 : B32 ^ k1 ≤ B32 ^ j := Nat.pow_le_pow_right (by decide) (by omega)
  have e2 : B32 ^ k2 ≤ B32 ^ j := Nat.pow_le_pow_right (by decide) (by omega)
  have h3 : B32 ^ j * 2 ≤ B32 ^ (j + 1) := by rw [Nat.pow_succ]; exact Nat.mul_le_mul_left _ (by decide)
  omega
set_option maxRecDepth 100000 in
set_option maxHeartbeats 2000000 in
theorem radd2_same {w : World} {s : Bool} {A B : Option Addr} {n c m d k1 k2 U V : Nat} (k : Nat) (X : RN w A n c U k1) (Y : RN w B m d V k2) (h1 : k1 + 1 ≤ k) (h2 : k2 + 1 ≤ k) (hk : k ≤ 1000000) :
    Calls Tryz.prog 111 #[.agg #[.bool s, .slice A n c], .agg #[.bool s, .slice B m d]] w (GivesRZ w (iv s U + iv (s) V) k) := by
  have hne2 : (s == s) = true := by cases s <;> rfl
  have hf := pow_sum32 X.lt Y.lt h1 h2
  go_enter Tryz.func111, Tryz.ntmps111
  go_wp2_with fail
  generalize hW : (((w.alloc (Obj.cells #[Value.bool s, Value.slice A n c] 32)).alloc (Obj.cells #[Value.bool s, Value.slice B m d] 32)).alloc (Obj.cells #[Value.bool false, Value.slice none 0 0] 32)) = W
  have hb : Below w.heap.size w W := by subst hW; exact ((((Below.refl _ _).alloc (Nat.le_refl _) _).alloc (by simp) _).alloc (by simp; omega) _)
  have XA : By W w.heap.size (Value.bool s) (Value.slice A n c) := by subst hW; exact ((By.new w _ _).alloc _).alloc _
  have XB : By W (w.heap.size + 1) (Value.bool s) (Value.slice B m d) := by subst hW; exact (By.new' _ _ _ _ (by simp)).alloc _
  have Z : By W (w.heap.size + 1 + 1) (Value.bool false) (Value.slice none 0 0) := by subst hW; exact By.new' _ _ _ _ (by simp)
  have hz : W.heap.size = w.heap.size + 3 := by subst hW; simp
  clear hW
  replace X := X.below hb
  replace Y := Y.below hb
  have xa0 := XA.c0
  have xa1 := XA.c1
  have xb0 := XB.c0
  have xb1 := XB.c1
  go_wp2_with fail
  replace X := X.below (Below.refl _ _).drew
  replace Y := Y.below (Below.refl _ _).drew
  replace XA := XA.below (Below.refl _ _).drew
  replace XB := XB.below (Below.refl _ _).drew
  replace Z := Z.below (Below.refl _ _).drew
  replace hb := hb.drew
  go_region_held3 (fun w' => w'.cell? ⟨w.heap.size, 0, none⟩ = some (Value.bool s) ∧ w'.cell? ⟨w.heap.size, 1, none⟩ = some (Value.slice A n c) ∧ w'.cell? ⟨w.heap.size + 1, 0, none⟩ = some (Value.bool s) ∧ w'.cell? ⟨w.heap.size + 1, 1, none⟩ = some (Value.slice B m d))
    (first | with_reducible exact ⟨XA.c0, XA.c1, XB.c0, XB.c1⟩ | with_reducible exact ⟨(set2_cell _ _ _ _ _ _ (by omega)).trans XA.c0, (set2_cell _ _ _ _ _ _ (by omega)).trans XA.c1, (set2_cell _ _ _ _ _ _ (by omega)).trans XB.c0, (set2_cell _ _ _ _ _ _ (by omega)).trans XB.c1⟩)
    (first
    | (go_at_call 170; (with_reducible refine (radd_rn k X Y (by omega) (by omega) hf).mono ?_); rintro e w_x ⟨A_x, n_x, c_x, rfl, x, hh⟩
       try replace X := X.below hh
       try replace Y := Y.below hh
       try replace XA := XA.below hh
       try replace XB := XB.below hh
       try replace Z := Z.below hh
       try replace T := T.below hh
       replace hb := bend hb hh)
    | (go_at_call 167; (with_reducible refine (made_any _ _ _ _ _).mono ?_); rintro e w_m ⟨rfl, hh⟩
       try replace X := X.below hh
       try replace Y := Y.below hh
       try replace x := x.below hh
       try replace XA := XA.below hh
       try replace XB := XB.below hh
       try replace Z := Z.below hh
       try replace T := T.below hh
       replace hb := bend hb hh
       have r0 := Z.c0
       have r1 := Z.c1
       have r2 := Z.f0
       have r3 := Z.f1))
  go_wp2
  have hf0 := (Z.set2 (.bool (s && decide (0 < n_x))) (.slice A_x n_x c_x)).c0
  have hf1 := (Z.set2 (.bool (s && decide (0 < n_x))) (.slice A_x n_x c_x)).c1
  refine bodyPost_ret (v := .agg #[.bool (s && decide (0 < n_x)), .slice A_x n_x c_x]) (by simp [results, Tryz.results111, go_sem, hf0, hf1]) rfl ?_
  exact close_rz (s := s) (g := w.heap.size + 1 + 1) hb (by omega) Z x (by rw [iv_add_same]) _ _
set_option maxRecDepth 100000 in
set_option maxHeartbeats 2000000 in
theorem radd2_ge {w : World} {s : Bool} {A B : Option Addr} {n c m d k1 k2 U V : Nat} (k : Nat) (X : RN w A n c U k1) (Y : RN w B m d V k2) (h1 : k1 + 1 ≤ k) (_h2 : k2 + 1 ≤ k) (hk : k ≤ 1000000) (hle : V ≤ U) :
    Calls Tryz.prog 111 #[.agg #[.bool s, .slice A n c], .agg #[.bool !s, .slice B m d]] w (GivesRZ w (iv s U + iv (!s) V) k) := by
  have hne2 : (s == !s) = false := by cases s <;> rfl
  obtain ⟨K, hK, hK0⟩ : ∃ K, cmpN U V = K ∧ 0 ≤ K := ⟨_, rfl, by unfold cmpN; rw [if_neg (by omega)]; split <;> decide⟩
  have HK := Lib.hid hK
  clear hK
  go_enter Tryz.func111, Tryz.ntmps111
  go_wp2_with fail
  generalize hW : (((w.alloc (Obj.cells #[Value.bool s, Value.slice A n c] 32)).alloc (Obj.cells #[Value.bool !s, Value.slice B m d] 32)).alloc (Obj.cells #[Value.bool false, Value.slice none 0 0] 32)) = W
  have hb : Below w.heap.size w W := by subst hW; exact ((((Below.refl _ _).alloc (Nat.le_refl _) _).alloc (by simp) _).alloc (by simp; omega) _)
  have XA : By W w.heap.size (Value.bool s) (Value.slice A n c) := by subst hW; exact ((By.new w _ _).alloc _).alloc _
  have XB : By W (w.heap.size + 1) (Value.bool !s) (Value.slice B m d) := by subst hW; exact (By.new' _ _ _ _ (by simp)).alloc _
  have Z : By W (w.heap.size + 1 + 1) (Value.bool false) (Value.slice none 0 0) := by subst hW; exact By.new' _ _ _ _ (by simp)
  have hz : W.heap.size = w.heap.size + 3 := by subst hW; simp
  clear hW
  replace X := X.below hb
  replace Y := Y.below hb
  have xa0 := XA.c0
  have xa1 := XA.c1
  have xb0 := XB.c0
  have xb1 := XB.c1
  go_wp2_with (first
    | (go_at_call 150; (with_reducible refine (rcmp_rn X Y (by omega)).mono ?_); rintro e w_c ⟨rfl, hh⟩
       rw [HK.out]
       try replace X := X.below hh
       try replace Y := Y.below hh
       try replace XA := XA.below hh
       try replace XB := XB.below hh
       try replace Z := Z.below hh
       replace hb := bend hb hh))
  replace X := X.below (Below.refl _ _).drew
  replace Y := Y.below (Below.refl _ _).drew
  replace XA := XA.below (Below.refl _ _).drew
  replace XB := XB.below (Below.refl _ _).drew
  replace Z := Z.below (Below.refl _ _).drew
  replace hb := hb.drew
  go_region_held3 (fun w' => w'.cell? ⟨w.heap.size, 0, none⟩ = some (Value.bool s) ∧ w'.cell? ⟨w.heap.size, 1, none⟩ = some (Value.slice A n c) ∧ w'.cell? ⟨w.heap.size + 1, 0, none⟩ = some (Value.bool !s) ∧ w'.cell? ⟨w.heap.size + 1, 1, none⟩ = some (Value.slice B m d))
    (first | with_reducible exact ⟨XA.c0, XA.c1, XB.c0, XB.c1⟩ | with_reducible exact ⟨(set2_cell _ _ _ _ _ _ (by omega)).trans XA.c0, (set2_cell _ _ _ _ _ _ (by omega)).trans XA.c1, (set2_cell _ _ _ _ _ _ (by omega)).trans XB.c0, (set2_cell _ _ _ _ _ _ (by omega)).trans XB.c1⟩)
    (first
    | (go_at_call 171; (with_reducible refine (rsub_rn X Y (by omega) hle).mono ?_); rintro e w_x ⟨A_x, n_x, c_x, rfl, x, hh⟩
       try replace X := X.below hh
       try replace Y := Y.below hh
       try replace XA := XA.below hh
       try replace XB := XB.below hh
       try replace Z := Z.below hh
       try replace T := T.below hh
       replace hb := bend hb hh)
    | (go_at_call 167; (with_reducible refine (made_any _ _ _ _ _).mono ?_); rintro e w_m ⟨rfl, hh⟩
       try replace X := X.below hh
       try replace Y := Y.below hh
       try replace x := x.below hh
       try replace XA := XA.below hh
       try replace XB := XB.below hh
       try replace Z := Z.below hh
       try replace T := T.below hh
       replace hb := bend hb hh
       have r0 := Z.c0
       have r1 := Z.c1
       have r2 := Z.f0
       have r3 := Z.f1))
  go_wp2
  have hf0 := (Z.set2 (.bool (s && decide (0 < n_x))) (.slice A_x n_x c_x)).c0
  have hf1 := (Z.set2 (.bool (s && decide (0 < n_x))) (.slice A_x n_x c_x)).c1
  refine bodyPost_ret (v := .agg #[.bool (s && decide (0 < n_x)), .slice A_x n_x c_x]) (by simp [results, Tryz.results111, go_sem, hf0, hf1]) rfl ?_
  exact close_rz (s := s) (g := w.heap.size + 1 + 1) hb (by omega) Z (x.more (by omega)) (iv_add_ge hle).symm _ _
set_option maxRecDepth 100000 in
set_option maxHeartbeats 2000000 in
theorem radd2_lt {w : World} {s : Bool} {A B : Option Addr} {n c m d k1 k2 U V : Nat} (k : Nat) (X : RN w A n c U k1) (Y : RN w B m d V k2) (h1 : k1 + 1 ≤ k) (h2 : k2 + 1 ≤ k) (hk : k ≤ 1000000) (hlt : U < V) :
    Calls Tryz.prog 111 #[.agg #[.bool s, .slice A n c], .agg #[.bool !s, .slice B m d]] w (GivesRZ w (iv s U + iv (!s) V) k) := by
  have hne2 : (s == !s) = false := by cases s <;> rfl
  obtain ⟨K, hK, hK0⟩ : ∃ K, cmpN U V = K ∧ ¬ 0 ≤ K := ⟨_, rfl, by unfold cmpN; rw [if_pos hlt]; decide⟩
  have HK := Lib.hid hK
  clear hK
  go_enter Tryz.func111, Tryz.ntmps111
  go_wp2_with fail
  generalize hW : (((w.alloc (Obj.cells #[Value.bool s, Value.slice A n c] 32)).alloc (Obj.cells #[Value.bool !s, Value.slice B m d] 32)).alloc (Obj.cells #[Value.bool false, Value.slice none 0 0] 32)) = W
  have hb : Below w.heap.size w W := by subst hW; exact ((((Below.refl _ _).alloc (Nat.le_refl _) _).alloc (by simp) _).alloc (by simp; omega) _)
  have XA : By W w.heap.size (Value.bool s) (Value.slice A n c) := by subst hW; exact ((By.new w _ _).alloc _).alloc _
  have XB : By W (w.heap.size + 1) (Value.bool !s) (Value.slice B m d) := by subst hW; exact (By.new' _ _ _ _ (by simp)).alloc _
  have Z : By W (w.heap.size + 1 + 1) (Value.bool false) (Value.slice none 0 0) := by subst hW; exact By.new' _ _ _ _ (by simp)
  have hz : W.heap.size = w.heap.size + 3 := by subst hW; simp
  clear hW
  replace X := X.below hb
  replace Y := Y.below hb
  have xa0 := XA.c0
  have xa1 := XA.c1
  have xb0 := XB.c0
  have xb1 := XB.c1
  go_wp2_with (first
    | (go_at_call 150; (with_reducible refine (rcmp_rn X Y (by omega)).mono ?_); rintro e w_c ⟨rfl, hh⟩
       rw [HK.out]
       try replace X := X.below hh
       try replace Y := Y.below hh
       try replace XA := XA.below hh
       try replace XB := XB.below hh
       try replace Z := Z.below hh
       replace hb := bend hb hh))
  replace X := X.below (Below.refl _ _).drew
  replace Y := Y.below (Below.refl _ _).drew
  replace XA := XA.below (Below.refl _ _).drew
  replace XB := XB.below (Below.refl _ _).drew
  replace Z := Z.below (Below.refl _ _).drew
  replace hb := hb.drew
  go_region_held3 (fun w' => w'.cell? ⟨w.heap.size, 0, none⟩ = some (Value.bool s) ∧ w'.cell? ⟨w.heap.size, 1, none⟩ = some (Value.slice A n c) ∧ w'.cell? ⟨w.heap.size + 1, 0, none⟩ = some (Value.bool !s) ∧ w'.cell? ⟨w.heap.size + 1, 1, none⟩ = some (Value.slice B m d))
    (first | with_reducible exact ⟨XA.c0, XA.c1, XB.c0, XB.c1⟩ | with_reducible exact ⟨(set2_cell _ _ _ _ _ _ (by omega)).trans XA.c0, (set2_cell _ _ _ _ _ _ (by omega)).trans XA.c1, (set2_cell _ _ _ _ _ _ (by omega)).trans XB.c0, (set2_cell _ _ _ _ _ _ (by omega)).trans XB.c1⟩)
    (first
    | (go_at_call 171; (with_reducible refine (rsub_rn Y X (by omega) (Nat.le_of_lt hlt)).mono ?_); rintro e w_x ⟨A_x, n_x, c_x, rfl, x, hh⟩
       try replace X := X.below hh
       try replace Y := Y.below hh
       try replace XA := XA.below hh
       try replace XB := XB.below hh
       try replace Z := Z.below hh
       try replace T := T.below hh
       replace hb := bend hb hh)
    | (go_at_call 167; (with_reducible refine (made_any _ _ _ _ _).mono ?_); rintro e w_m ⟨rfl, hh⟩
       try replace X := X.below hh
       try replace Y := Y.below hh
       try replace x := x.below hh
       try replace XA := XA.below hh
       try replace XB := XB.below hh
       try replace Z := Z.below hh
       try replace T := T.below hh
       replace hb := bend hb hh
       have r0 := Z.c0
       have r1 := Z.c1
       have r2 := Z.f0
       have r3 := Z.f1))
  go_wp2
  have hf0 := (Z.set2 (.bool ((!s) && decide (0 < n_x))) (.slice A_x n_x c_x)).c0
  have hf1 := (Z.set2 (.bool ((!s) && decide (0 < n_x))) (.slice A_x n_x c_x)).c1
  refine bodyPost_ret (v := .agg #[.bool ((!s) && decide (0 < n_x)), .slice A_x n_x c_x]) (by simp [results, Tryz.results111, go_sem, hf0, hf1]) rfl ?_
  exact close_rz (s := (!s)) (g := w.heap.size + 1 + 1) hb (by omega) Z (x.more (by omega)) (iv_add_lt hlt).symm _ _
theorem radd2 {w : World} {s t : Bool} {A B : Option Addr} {n c m d k1 k2 : Nat} {v u : Int} (k : Nat) (X : RZ w s A n c v k1) (Y : RZ w t B m d u k2) (h1 : k1 + 1 ≤ k) (h2 : k2 + 1 ≤ k) (hk : k ≤ 1000000) :
    Calls Tryz.prog 111 #[.agg #[.bool s, .slice A n c], .agg #[.bool t, .slice B m d]] w (GivesRZ w (v + u) k) := by
  obtain ⟨U, X, rfl⟩ := X
  obtain ⟨V, Y, rfl⟩ := Y
  by_cases h : t = s
  · subst h; exact radd2_same k X Y h1 h2 hk
  · have ht : t = !s := by cases s <;> cases t <;> simp_all
    subst ht
    rcases Nat.lt_or_ge U V with hlt | hle
    · exact radd2_lt k X Y h1 h2 hk hlt
    · exact radd2_ge k X Y h1 h2 hk hle
set_option maxRecDepth 100000 in
set_option maxHeartbeats 2000000 in
theorem rsub2 {w : World} {s t : Bool} {A B : Option Addr} {n c m d k1 k2 : Nat} {v u : Int} (k : Nat) (X : RZ w s A n c v k1) (Y : RZ w t B m d u k2) (h1 : k1 + 1 ≤ k) (h2 : k2 + 1 ≤ k) (hk : k ≤ 1000000) :
    Calls Tryz.prog 175 #[.agg #[.bool s, .slice A n c], .agg #[.bool t, .slice B m d]] w (GivesRZ w (v - u) k) := by
  have hvu := Lib.hid (show v + -u = v - u by omega)
  go_enter Tryz.func175, Tryz.ntmps175
  go_wp2_with fail
  generalize hW : (((w.alloc (Obj.cells #[Value.bool s, Value.slice A n c] 32)).alloc (Obj.cells #[Value.bool t, Value.slice B m d] 32)).alloc (Obj.cells #[Value.bool false, Value.slice none 0 0] 32)) = W
  have hb : Below w.heap.size w W := by subst hW; exact ((((Below.refl _ _).alloc (Nat.le_refl _) _).alloc (by simp) _).alloc (by simp; omega) _)
  have XA : By W w.heap.size (Value.bool s) (Value.slice A n c) := by subst hW; exact ((By.new w _ _).alloc _).alloc _
  have XB : By W (w.heap.size + 1) (Value.bool t) (Value.slice B m d) := by subst hW; exact (By.new' _ _ _ _ (by simp)).alloc _
  have Z : By W (w.heap.size + 1 + 1) (Value.bool false) (Value.slice none 0 0) := by subst hW; exact By.new' _ _ _ _ (by simp)
  have hz : W.heap.size = w.heap.size + 3 := by subst hW; simp
  clear hW
  replace X := X.below hb
  replace Y := Y.below hb
  replace X := X.below (Below.refl _ _).drew
  replace Y := Y.below (Below.refl _ _).drew
  replace XA := XA.below (Below.refl _ _).drew
  replace XB := XB.below (Below.refl _ _).drew
  replace Z := Z.below (Below.refl _ _).drew
  replace hb := hb.drew
  go_region_held3 (fun w' => w'.cell? ⟨w.heap.size, 0, none⟩ = some (Value.bool s) ∧ w'.cell? ⟨w.heap.size, 1, none⟩ = some (Value.slice A n c) ∧ w'.cell? ⟨w.heap.size + 1, 0, none⟩ = some (Value.bool t) ∧ w'.cell? ⟨w.heap.size + 1, 1, none⟩ = some (Value.slice B m d))
    (first | with_reducible exact ⟨XA.c0, XA.c1, XB.c0, XB.c1⟩ | with_reducible exact ⟨(set2_cell _ _ _ _ _ _ (by omega)).trans XA.c0, (set2_cell _ _ _ _ _ _ (by omega)).trans XA.c1, (set2_cell _ _ _ _ _ _ (by omega)).trans XB.c0, (set2_cell _ _ _ _ _ _ (by omega)).trans XB.c1⟩)
    (first
    | (go_at_call 107; (with_reducible refine (rminus2 Y).mono ?_); rintro e w_x ⟨s_y, A_y, n_y, c_y, rfl, y, hh⟩
       try replace X := X.below hh
       try replace Y := Y.below hh
       try replace x := x.below hh
       try replace XA := XA.below hh
       try replace XB := XB.below hh
       try replace Z := Z.below hh
       try replace T := T.below hh
       replace hb := bend hb hh
       have yz := y.rz)
    | (go_at_call 111; (with_reducible refine (radd2 k X yz (by omega) (by omega) hk).mono ?_); rintro e w_x ⟨s_x, A_x, n_x, c_x, rfl, x, hh⟩
       try replace X := X.below hh
       try replace Y := Y.below hh
       try replace XA := XA.below hh
       try replace XB := XB.below hh
       try replace Z := Z.below hh
       try replace T := T.below hh
       replace hb := bend hb hh
       rw [hvu.out] at x
       have r0 := Z.c0
       have r1 := Z.c1
       have r2 := Z.f0
       have r3 := Z.f1))
  go_wp2
  have hf0 := (Z.set2 (.bool s_x) (.slice A_x n_x c_x)).c0
  have hf1 := (Z.set2 (.bool s_x) (.slice A_x n_x c_x)).c1
  refine bodyPost_ret (v := .agg #[.bool s_x, .slice A_x n_x c_x]) (by simp [results, Tryz.results175, go_sem, hf0, hf1]) rfl ?_
  exact close_rz2 (g := w.heap.size + 1 + 1) hb (by omega) Z x _ _
theorem sgn_iv_t {U : Nat} (h : U ≠ 0) : sgn (iv true U) = -1 := by unfold sgn iv; rw [if_pos (by simp; omega)]
theorem sgn_iv_f {U : Nat} (h : U ≠ 0) : sgn (iv false U) = 1 := by unfold sgn iv; rw [if_neg (by simp), if_neg (by simp; omega)]
set_option maxRecDepth 100000 in
set_option maxHeartbeats 2000000 in
theorem rsign2 {w : World} {s : Bool} {A : Option Addr} {n c k : Nat} {v : Int} (X : RZ w s A n c v k) :
    Calls Tryz.prog 104 #[.agg #[.bool s, .slice A n c]] w fun e w' => e = .returned (.int .i64 (sgn v)) ∧ Below w.heap.size w w' := by
  obtain ⟨U, X, rfl⟩ := X
  by_cases h0 : U = 0
  · subst h0
    have hn : n = 0 := by have := X.1.1; rw [limbs_zero] at this; exact this.symm
    subst hn
    have HS : Hid (sgn (iv s 0) = 0) := by show _ = _; cases s <;> rfl
    go_enter Tryz.func104, Tryz.ntmps104
    go_wp2_with fail
    go_ret
    exact ⟨ret_int (by rw [HS.out]), (Below.refl _ _).alloc (Nat.le_refl _) _⟩
  · have hn : 0 < n := by
      have := X.1.1
      rw [limbs_pos B32_two h0] at this
      simp at this; omega
    have hnz : ((n : Int) == 0) = false := by simp; omega
    cases s
    · have HS := Lib.hid (sgn_iv_f h0)
      clear h0 hn
      go_enter Tryz.func104, Tryz.ntmps104
      go_wp2_with fail
      go_ret
      exact ⟨ret_int (by rw [HS.out]), (Below.refl _ _).alloc (Nat.le_refl _) _⟩
    · have HS := Lib.hid (sgn_iv_t h0)
      clear h0 hn
      go_enter Tryz.func104, Tryz.ntmps104
      go_wp2_with fail
      go_ret
      exact ⟨ret_int (by rw [HS.out]), (Below.refl _ _).alloc (Nat.le_refl _) _⟩
theorem sgn_sub (v u : Int) : sgn (v - u) = cmpZ v u := by unfold sgn cmpZ; (repeat' split) <;> omega
set_option maxRecDepth 100000 in
set_option maxHeartbeats 2000000 in
theorem rcmp2 {w : World} {s t : Bool} {A B : Option Addr} {n c m d k1 k2 : Nat} {v u : Int} (X : RZ w s A n c v k1) (Y : RZ w t B m d u k2) (h1 : k1 ≤ 100000) (h2 : k2 ≤ 100000) :
    Calls Tryz.prog 116 #[.agg #[.bool s, .slice A n c], .agg #[.bool t, .slice B m d]] w fun e w' => e = .returned (.int .i64 (cmpZ v u)) ∧ Below w.heap.size w w' := by
  go_enter Tryz.func116, Tryz.ntmps116
  go_wp2_with fail
  generalize hW : ((w.alloc (Obj.cells #[Value.bool s, Value.slice A n c] 32)).alloc (Obj.cells #[Value.bool t, Value.slice B m d] 32)) = W
  have hb : Below w.heap.size w W := by subst hW; exact (((Below.refl _ _).alloc (Nat.le_refl _) _).alloc (by simp) _)
  have XA : By W w.heap.size (Value.bool s) (Value.slice A n c) := by subst hW; exact (By.new w _ _).alloc _
  have XB : By W (w.heap.size + 1) (Value.bool t) (Value.slice B m d) := by subst hW; exact By.new' _ _ _ _ (by simp)
  have hz : W.heap.size = w.heap.size + 2 := by subst hW; simp
  clear hW
  replace X := X.below hb
  replace Y := Y.below hb
  have xa0 := XA.c0
  have xa1 := XA.c1
  have xb0 := XB.c0
  have xb1 := XB.c1
  go_wp2_with (first
    | (go_at_call 175; (with_reducible refine (rsub2 (k1 + k2 + 1) X Y (by omega) (by omega) (by omega)).mono ?_); rintro e w_x ⟨s_x, A_x, n_x, c_x, rfl, x, hh⟩
       replace hb := bend hb hh
       have xz := x.rz)
    | (go_at_call 104; (with_reducible refine (rsign2 xz).mono ?_); rintro e w_y ⟨rfl, hh⟩
       replace hb := bend hb hh
       rw [sgn_sub]))
  go_ret
  exact ⟨rfl, hb⟩
end Go.Proofs.YtlkjkhpjhllapaaGreat
namespace Go.Proofs.YtlkjkhpjhllapaaGreat
open Go.RowKit
theorem zneg_zr {w : World} {s : Bool} {A : Option Addr} {n c k : Nat} {v : Int} (X : ZR w s A n c v k) (hk : k ≤ 1000) :
    Calls Tryz.prog 118 #[.agg #[.bool s, .slice A n c]] w (GivesZ w (-v) k) := by
  obtain ⟨la, a1, a2, rfl, a4, a5, a6⟩ := X
  have h := zneg_any s la A n c w a1 a2 (by omega) a4
  rw [iv_not] at h
  exact h.mono fun _ _ g => g.z (by rw [Int.natAbs_neg]; exact a6)
end Go.Proofs.YtlkjkhpjhllapaaGreat
namespace Go.Proofs.YtlkjkhpjhllapaaGreat
open Go.RowKit
def ZG (w : World) (s : Bool) (A : Option Addr) (n c : Nat) (v : Int) (k : Nat) : Prop := s = decide (v < 0) ∧ Rd .u64 w A n (limbs B64 v.natAbs) ∧ n ≤ c ∧ n ≤ k
theorem ZG.below {w w' : World} {s : Bool} {A : Option Addr} {n c k : Nat} {v : Int} (h : ZG w s A n c v k) (hb : Below w.heap.size w w') : ZG w' s A n c v k := ⟨h.1, h.2.1.below hb, h.2.2⟩
theorem ZG.zr {w : World} {s : Bool} {A : Option Addr} {n c k : Nat} {v : Int} (h : ZG w s A n c v k) : ZR w s A n c v k := by
  obtain ⟨h1, h2, h3, h4⟩ := h
  have hl := val_lt (lim_limbs B64_two v.natAbs)
  rw [val_limbs B64_two, h2.1] at hl
  exact ⟨_, h2, lim_limbs B64_two _, by rw [val_limbs B64_two, h1, iv_canon], h3, h4, Nat.lt_of_lt_of_le hl (Nat.pow_le_pow_right (by decide) h4)⟩
def GivesZG (w : World) (v : Int) (k : Nat) (e : Ending) (w' : World) : Prop :=
  ∃ s A n c, e = .returned (.agg #[.bool s, .slice A n c]) ∧ ZG w' s A n c v k ∧ Below w.heap.size w w'
theorem GivesI.zg {w : World} {v : Int} {k : Nat} (hk : v.natAbs < B64 ^ k) {e : Ending} {w' : World} (h : GivesI w v e w') : GivesZG w v k e w' := by
  obtain ⟨A, n, c, rfl, h1, h2, h3, h4⟩ := h
  exact ⟨_, A, n, c, rfl, ⟨rfl, h3.rd, h1, by rw [← h3.1]; exact length_limbs_le B64_two hk⟩, h4⟩
theorem zneg_zg {w : World} {s : Bool} {A : Option Addr} {n c k : Nat} {v : Int} (X : ZR w s A n c v k) (hk : k ≤ 1000) :
    Calls Tryz.prog 118 #[.agg #[.bool s, .slice A n c]] w (GivesZG w (-v) k) := by
  obtain ⟨la, a1, a2, rfl, a4, a5, a6⟩ := X
  have h := zneg_any s la A n c w a1 a2 (by omega) a4
  rw [iv_not] at h
  exact h.mono fun _ _ g => g.zg (by rw [Int.natAbs_neg]; exact a6)
theorem GivesQZ.zg {w : World} {q r : Int} {k1 k2 : Nat} (h1 : q.natAbs < B64 ^ k1) (h2 : r.natAbs < B64 ^ k2) {e : Ending} {w' : World} (h : GivesQZ w q r e w') :
    ∃ s A n c t B m d, e = .returned (.tuple #[.agg #[.bool s, .slice A n c], .agg #[.bool t, .slice B m d], .int .i64 0]) ∧ ZG w' s A n c q k1 ∧ ZG w' t B m d r k2 ∧ Below w.heap.size w w' := by
  obtain ⟨A, n, c, A', n', c', rfl, p1, p2, p3, p4, p5, p6, p7⟩ := h
  exact ⟨_, A, n, c, _, A', n', c', rfl, ⟨rfl, p5.rd, p1, by rw [← p5.1]; exact length_limbs_le B64_two h1⟩, ⟨rfl, p6.rd, p3, by rw [← p6.1]; exact length_limbs_le B64_two h2⟩, p7⟩
theorem zdm_zg {w : World} {s t : Bool} {A B : Option Addr} {n c m d k1 k2 : Nat} {v u : Int} (k : Nat) (X : ZR w s A n c v k1) (Y : ZR w t B m d u k2) (hu : u ≠ 0) (hk0 : 1 ≤ k1) (hk : k1 + 1 ≤ k) (hk1 : k ≤ 1000) (hk2 : k2 ≤ 1000) :
    Calls Tryz.prog 163 #[.agg #[.bool s, .slice A n c], .agg #[.bool t, .slice B m d]] w (fun e w' => ∃ s A n c t B m d, e = .returned (.tuple #[.agg #[.bool s, .slice A n c], .agg #[.bool t, .slice B m d], .int .i64 0]) ∧ ZG w' s A n c (v.fdiv u) k ∧ ZG w' t B m d (v.fmod u) k2 ∧ Below w.heap.size w w') := by
  obtain ⟨la, a1, a2, rfl, a4, a5, a6⟩ := X
  obtain ⟨lb, b1, b2, rfl, b4, b5, b6⟩ := Y
  rw [iv_natAbs] at a6 b6
  have hb0 : val B64 lb ≠ 0 := fun h => hu (by rw [h]; cases t <;> rfl)
  have hdm := dm_all la lb A B n c m d a2 b2 (by omega) (by omega) a4 b4 hb0
  have hr := Nat.mod_lt (val B64 la) (show val B64 lb > 0 by omega)
  have hq := Nat.div_le_self (val B64 la) (val B64 lb)
  have h1 : 1 < B64 ^ k1 := Nat.lt_of_lt_of_le (show 1 < B64 ^ 1 by decide) (Nat.pow_le_pow_right (by decide) hk0)
  have hq1 := pow_sum a6 h1 hk hk
  by_cases hst : t = s
  · subst hst
    refine (zdm_alike t la lb A B n c m d w a1 b1 hdm).mono fun e w' h => ?_
    rw [(fdiv_alike t _ _).1, (fdiv_alike t _ _).2] at h
    refine h.zg ?_ ?_
    · rw [← (fdiv_alike t _ _).1, iv_natAbs]; omega
    · rw [← (fdiv_alike t _ _).2, iv_natAbs]; omega
  · have ht : t = !s := by cases s <;> cases t <;> simp_all
    subst ht
    have hdiv := Nat.div_add_mod (val B64 la) (val B64 lb)
    by_cases hr0 : val B64 la % val B64 lb = 0
    · refine (zdm_whole s la lb A B n c m d w a1 b1 hdm hr0).mono fun e w' h => ?_
      have hf := fdiv_unlike (s := s) (a := val B64 la) (b := val B64 lb) (q := val B64 la / val B64 lb) (r := val B64 la % val B64 lb) (by
        rw [hr0, Nat.add_zero] at hdiv
        rw [hr0, Int.mul_neg, ← Int.natCast_mul, hdiv]; simp) hr
      rw [hf.1, hf.2] at h
      refine h.zg ?_ ?_
      · rw [← hf.1, iv_natAbs]; omega
      · rw [← hf.2, iv_natAbs]; omega
    · refine (zdm_rest s la lb A B n c m d w a1 b1 hdm a2 b2 b4 (by omega) (by omega) hb0 hr0).mono fun e w' h => ?_
      have hf := fdiv_unlike (s := s) (a := val B64 la) (b := val B64 lb) (q := val B64 la / val B64 lb + 1) (r := val B64 lb - val B64 la % val B64 lb) (by
        exact rest_up hdiv (by omega)) (by omega)
      rw [hf.1, hf.2] at h
      refine h.zg ?_ ?_
      · rw [← hf.1, iv_natAbs]; omega
      · rw [← hf.2, iv_natAbs]; omega
theorem Bx.offx {W : World} {g : Nat} {s : Bool} {A' A : Option Addr} {n' c' n : Nat} {K : IntKind} {l : List Nat} (h : Bx W g (.bool s) (.slice A' n' c')) (hr : Rd K W A n l) : Off A n g := by
  intro hn ad e hg
  obtain ⟨b, o, eA, hc⟩ := hr.at_ hn
  obtain ⟨x, _, hx⟩ := hc 0 hn
  rw [eA] at e
  cases e
  have hg2 : b = g := hg
  subst hg2
  rw [cell_of_row W b (o + 0) _ _ (0, 0) h] at hx
  match o, hx with
  | 0, hx => cases hx
  | 1, hx => cases hx
  | o + 2, hx => cases hx
set_option maxRecDepth 100000 in
set_option maxHeartbeats 2000000 in
theorem ints_any (s t : Bool) (la lb : List Nat) (A B : Option Addr) (n c m d : Nat) (w : World) (ha : Rd .u64 w A n la) (hbb : Rd .u64 w B m lb) (hn : n ≤ maxLen) :
    Calls Tryz.prog 60 #[.agg #[.bool s, .slice A n c], .agg #[.bool t, .slice B m d]] w fun e w' => e = .returned (.bool (s == t && decide (la = lb))) ∧ Below w.heap.size w w' := by
  by_cases h : s = t
  · subst h
    have h1 : (s == s) = true := by cases s <;> rfl
    rw [h1, Bool.true_and]
    go_enter Tryz.func60, Tryz.ntmps60
    go_wp2_with fail
    generalize hW : ((w.alloc (Obj.cells #[Value.bool s, Value.slice A n c] 24)).alloc (Obj.cells #[Value.bool s, Value.slice B m d] 24)) = W
    have hb : Below w.heap.size w W := by subst hW; exact (((Below.refl _ _).alloc (Nat.le_refl _) _).alloc (by simp) _)
    have XA : Bx W w.heap.size (Value.bool s) (Value.slice A n c) := by subst hW; exact (Bx.new w _ _).alloc _
    have XB : Bx W (w.heap.size + 1) (Value.bool s) (Value.slice B m d) := by subst hW; exact Bx.new' _ _ _ _ (by simp)
    have hz : W.heap.size = w.heap.size + 2 := by subst hW; simp
    clear hW
    have ha := ha.below hb
    have hbb := hbb.below hb
    have xa0 := XA.c0
    have xa1 := XA.c1
    have xb0 := XB.c0
    have xb1 := XB.c1
    go_wp2_with (first
        | (go_at_call 122; (with_reducible refine (nats_any la lb A B n c m d _ ha hbb hn).mono ?_); rintro e' w' ⟨rfl, q, rfl⟩))
    go_ret
    exact ⟨rfl, below_drawn hb q⟩
  · have h1 : (s == t) = false := by cases s <;> cases t <;> simp_all
    rw [h1, Bool.false_and]
    go_enter Tryz.func60, Tryz.ntmps60
    go_wp2_with fail
    generalize hW : ((w.alloc (Obj.cells #[Value.bool s, Value.slice A n c] 24)).alloc (Obj.cells #[Value.bool t, Value.slice B m d] 24)) = W
    have hb : Below w.heap.size w W := by subst hW; exact (((Below.refl _ _).alloc (Nat.le_refl _) _).alloc (by simp) _)
    have XA : Bx W w.heap.size (Value.bool s) (Value.slice A n c) := by subst hW; exact (Bx.new w _ _).alloc _
    have XB : Bx W (w.heap.size + 1) (Value.bool t) (Value.slice B m d) := by subst hW; exact Bx.new' _ _ _ _ (by simp)
    have hz : W.heap.size = w.heap.size + 2 := by subst hW; simp
    clear hW
    have ha := ha.below hb
    have hbb := hbb.below hb
    have xa0 := XA.c0
    have xa1 := XA.c1
    have xb0 := XB.c0
    have xb1 := XB.c1
    go_wp2_with fail
    go_ret
    exact ⟨rfl, hb⟩
set_option maxRecDepth 100000 in
set_option maxHeartbeats 2000000 in
theorem out2 {w : World} {t : Bool} {B : Option Addr} {m d k : Nat} {v : Int} (Y : RG w t B m d v k) (hk : k ≤ 200000) :
    Calls Tryz.prog 62 #[.agg #[.bool t, .slice B m d]] w fun e w' => ∃ A n c, e = .returned (.agg #[.bool t, .slice A n c]) ∧ Rd .u64 w' A n (limbs B64 v.natAbs) ∧ Below w.heap.size w w' := by
  have hJ := join32_limbs v.natAbs
  have HJ := Lib.hid hJ
  have hm : m ≤ 2000000 := Nat.le_trans Y.2.2.2 (by omega)
  have hY := Y.2.1
  clear hJ
  go_enter Tryz.func62, Tryz.ntmps62
  go_wp2_with fail
  generalize hW : ((w.alloc (Obj.cells #[Value.bool t, Value.slice B m d] 32)).alloc (Obj.cells #[Value.bool false, Value.slice none 0 0] 24)) = W
  have hb : Below w.heap.size w W := by subst hW; exact (((Below.refl _ _).alloc (Nat.le_refl _) _).alloc (by simp) _)
  have XB : By W w.heap.size (Value.bool t) (Value.slice B m d) := by subst hW; exact (By.new w _ _).alloc _
  have Z : Bx W (w.heap.size + 1) (Value.bool false) (Value.slice none 0 0) := by subst hW; exact Bx.new' _ _ _ _ (by simp)
  have hz : W.heap.size = w.heap.size + 2 := by subst hW; simp
  clear hW
  replace hY := hY.below hb
  replace hY := hY.below (Below.refl _ _).drew
  replace XB := XB.drew
  replace Z := Z.drew
  replace hb := hb.drew
  go_region_held3 (fun w' => w'.cell? ⟨w.heap.size, 0, none⟩ = some (Value.bool t) ∧ w'.cell? ⟨w.heap.size, 1, none⟩ = some (Value.slice B m d))
    (first | with_reducible exact ⟨XB.c0, XB.c1⟩ | with_reducible exact ⟨(set2_cell _ _ _ _ _ _ (by omega)).trans XB.c0, (set2_cell _ _ _ _ _ _ (by omega)).trans XB.c1⟩)
    (first
    | (go_at_call 123; (with_reducible refine (rout_any (limbs B32 v.natAbs) B m d _ hY (lim_limbs B32_two _) hm).mono ?_); rintro e w1 ⟨A1, n1, c1, rfl, p1, p2, p3, hh⟩
       rw [HJ.out] at p3
       replace XB := XB.below hh
       replace Z := Z.below hh
       replace hb := bend hb hh
       have r0 := Z.c0
       have r1 := Z.c1
       have r2 := Z.f0
       have r3 := Z.f1))
  go_wp2
  have hf0 := (Z.set2 (.bool t) (.slice A1 n1 c1)).c0
  have hf1 := (Z.set2 (.bool t) (.slice A1 n1 c1)).c1
  refine bodyPost_ret (v := .agg #[.bool t, .slice A1 n1 c1]) (by simp [results, Tryz.results62, go_sem, hf0, hf1]) rfl ?_
  refine ⟨A1, n1, c1, rfl, ?_, (hb.setCell (by show w.heap.size ≤ _; simp) _).setCell (by show w.heap.size ≤ _; simp) _⟩
  exact p3.rd.only (Z.offx p3.rd) (((Only.refl (w.heap.size + 1) w1).setCell 0 _).setCell 1 _)
end Go.Proofs.YtlkjkhpjhllapaaGreat
namespace Go.Proofs.YtlkjkhpjhllapaaGreat
open Go.RowKit
def B4 (W : World) (g : Nat) (x y z u : Value) : Prop := W.heap[g]? = some (.cells #[x, y, z, u] 225 (0, 0))
section
variable {W W' : World} {g : Nat} {x y z u : Value}
theorem B4.c0 (h : B4 W g x y z u) : W.cell? ⟨g, 0, none⟩ = some x := by rw [cell_of_row W g 0 _ _ (0, 0) h]; rfl
theorem B4.c1 (h : B4 W g x y z u) : W.cell? ⟨g, 1, none⟩ = some y := by rw [cell_of_row W g 1 _ _ (0, 0) h]; rfl
theorem B4.c2 (h : B4 W g x y z u) : W.cell? ⟨g, 2, none⟩ = some z := by rw [cell_of_row W g 2 _ _ (0, 0) h]; rfl
theorem B4.c3 (h : B4 W g x y z u) : W.cell? ⟨g, 3, none⟩ = some u := by rw [cell_of_row W g 3 _ _ (0, 0) h]; rfl
theorem B4.f (h : B4 W g x y z u) (i : Nat) : W.frozen? ⟨g, i, none⟩ = false := frozen_of_row W g i _ _ h
theorem B4.lt (h : B4 W g x y z u) : g < W.heap.size := World.block_lt_of_cell? W _ h.c0
theorem B4.below (h : B4 W g x y z u) (hb : Below W.heap.size W W') : B4 W' g x y z u := (hb.block g h.lt).trans h
theorem B4.drew (h : B4 W g x y z u) : B4 W.drew g x y z u := h
theorem B4.alloc (h : B4 W g x y z u) (o : Obj) : B4 (W.alloc o) g x y z u := (Below.heap_alloc W o g h.lt).trans h
theorem B4.new' (W : World) (x y z u : Value) (g : Nat) (hg : g = W.heap.size) : B4 (W.alloc (.cells #[x, y, z, u] 225)) g x y z u := by subst hg; exact heap_alloc_new W _
theorem B4.set4 (h : B4 W g x y z u) (a b c d : Value) : B4 ((((W.setCell ⟨g, 0, none⟩ a).setCell ⟨g, 1, none⟩ b).setCell ⟨g, 2, none⟩ c).setCell ⟨g, 3, none⟩ d) g a b c d := by
  unfold B4 at h ⊢
  simp [World.setCell, Array.getElem?_modify, h]
theorem B4.off {s t : Bool} {A A1 A2 : Option Addr} {n n1 n2 c1 c2 : Nat} {K : IntKind} {l : List Nat} (h : B4 W g (.bool s) (.slice A1 n1 c1) (.bool t) (.slice A2 n2 c2)) (hr : Rd K W A n l) : Off A n g := by
  intro hn ad e hg
  obtain ⟨b, o, eA, hc⟩ := hr.at_ hn
  obtain ⟨x, _, hx⟩ := hc 0 hn
  rw [eA] at e
  cases e
  have hg2 : b = g := hg
  subst hg2
  rw [cell_of_row W b (o + 0) _ _ (0, 0) h] at hx
  match o, hx with
  | 0, hx => cases hx
  | 1, hx => cases hx
  | 2, hx => cases hx
  | 3, hx => cases hx
  | o + 4, hx => cases hx
end
theorem set4_cell (W : World) (g k o : Nat) (x y z u : Value) (h : k ≠ g) : ((((W.setCell ⟨g, 0, none⟩ x).setCell ⟨g, 1, none⟩ y).setCell ⟨g, 2, none⟩ z).setCell ⟨g, 3, none⟩ u).cell? ⟨k, o, none⟩ = W.cell? ⟨k, o, none⟩ := by
  rw [World.cell?_of_block (Below.heap_setCell _ _ _ _ h), World.cell?_of_block (Below.heap_setCell _ _ _ _ h), World.cell?_of_block (Below.heap_setCell _ _ _ _ h), World.cell?_of_block (Below.heap_setCell _ _ _ _ h)]
def GivesRZZ (w : World) (q r : Int) (k1 k2 : Nat) (e : Ending) (w' : World) : Prop :=
  ∃ s A n c t B m d, e = .returned (.agg #[.bool s, .slice A n c, .bool t, .slice B m d]) ∧ RG w' s A n c q k1 ∧ RG w' t B m d r k2 ∧ Below w.heap.size w w'
set_option maxRecDepth 100000 in
set_option maxHeartbeats 2000000 in
theorem rof2_pos (V : Nat) (hV : V < 9223372036854775808) (w : World) :
    Calls Tryz.prog 151 #[.int .i64 ((V : Int))] w (GivesRZ w ((V : Int)) 2) := by
  have hV64 : V < B64 := by unfold B64; omega
  go_enter Tryz.func151, Tryz.ntmps151
  go_wp2_with fail
  generalize hW : (w.alloc (Obj.cells #[Value.bool false, Value.slice none 0 0] 32)) = W
  have hb : Below w.heap.size w W := by subst hW; exact ((Below.refl _ _).alloc (Nat.le_refl _) _)
  have Z : By W w.heap.size (Value.bool false) (Value.slice none 0 0) := by subst hW; exact By.new w _ _
  have hz : W.heap.size = w.heap.size + 1 := by subst hW; simp
  clear hW
  go_wp2_with (first
    | (go_at_call 98; (with_reducible refine (rofv_rn V hV64 _).mono ?_); rintro e w_x ⟨A_x, n_x, c_x, rfl, x, hh⟩
       try replace X := X.below hh
       try replace Y := Y.below hh
       try replace XA := XA.below hh
       try replace XB := XB.below hh
       try replace Z := Z.below hh
       try replace T := T.below hh
       replace hb := bend hb hh)
    | (go_at_call 167; (with_reducible refine (made_any _ _ _ _ _).mono ?_); rintro e w_m ⟨rfl, hh⟩
       try replace X := X.below hh
       try replace Y := Y.below hh
       try replace x := x.below hh
       try replace XA := XA.below hh
       try replace XB := XB.below hh
       try replace Z := Z.below hh
       try replace T := T.below hh
       replace hb := bend hb hh
       have r0 := Z.c0
       have r1 := Z.c1
       have r2 := Z.f0
       have r3 := Z.f1))
  have hf0 := (Z.set2 (.bool (false && decide (0 < n_x))) (.slice A_x n_x c_x)).c0
  have hf1 := (Z.set2 (.bool (false && decide (0 < n_x))) (.slice A_x n_x c_x)).c1
  simp only [Bool.false_and] at hf0 hf1
  refine bodyPost_ret (v := .agg #[.bool (false && decide (0 < n_x)), .slice A_x n_x c_x]) (by simp [results, Tryz.results151, go_sem, hf0, hf1]) rfl ?_
  exact close_rz (s := false) (g := w.heap.size) hb (Nat.le_refl _) Z x (by simp [iv]) _ _
theorem RG.of_made {w : World} {s neg : Bool} {A : Option Addr} {n c V k : Nat} (h : RN w A n c V k) (hs : s = (neg && decide (0 < n))) : RG w s A n c (iv neg V) k :=
  ⟨by rw [hs, iv_neg, rn_pos h], by rw [iv_natAbs]; exact h⟩
theorem close4 {W : World} {g : Nat} {s0 t0 s : Bool} {A1 A2 A : Option Addr} {n1 n2 c1 c2 n c k : Nat} {v : Int} (T : B4 W g (.bool s0) (.slice A1 n1 c1) (.bool t0) (.slice A2 n2 c2)) (X : RG W s A n c v k) (x y z u : Value) :
    RG ((((W.setCell ⟨g, 0, none⟩ x).setCell ⟨g, 1, none⟩ y).setCell ⟨g, 2, none⟩ z).setCell ⟨g, 3, none⟩ u) s A n c v k :=
  ⟨X.1, X.2.1.only (T.off X.2.1) (((((Only.refl g W).setCell 0 x).setCell 1 y).setCell 2 z).setCell 3 u), X.2.2⟩
theorem below_set4 {B g : Nat} {w W : World} (h : Below B w W) (hg : B ≤ g) (x y z u : Value) : Below B w ((((W.setCell ⟨g, 0, none⟩ x).setCell ⟨g, 1, none⟩ y).setCell ⟨g, 2, none⟩ z).setCell ⟨g, 3, none⟩ u) :=
  (((h.setCell hg _).setCell hg _).setCell hg _).setCell hg _
theorem below_set2 {B g : Nat} {w W : World} (h : Below B w W) (hg : B ≤ g) (x y : Value) : Below B w ((W.setCell ⟨g, 0, none⟩ x).setCell ⟨g, 1, none⟩ y) := (h.setCell hg _).setCell hg _
theorem RG.set2 {W : World} {g : Nat} {s0 s : Bool} {A1 A : Option Addr} {n1 c1 n c k : Nat} {v : Int} (X : RG W s A n c v k) (Z : By W g (.bool s0) (.slice A1 n1 c1)) (x y : Value) : RG ((W.setCell ⟨g, 0, none⟩ x).setCell ⟨g, 1, none⟩ y) s A n c v k :=
  ⟨X.1, X.2.1.only (Z.off X.2.1) (((Only.refl g W).setCell 0 x).setCell 1 y), X.2.2⟩
theorem RN.set2 {W : World} {g : Nat} {s0 : Bool} {A1 A : Option Addr} {n1 c1 n c V k : Nat} (X : RN W A n c V k) (Z : By W g (.bool s0) (.slice A1 n1 c1)) (x y : Value) : RN ((W.setCell ⟨g, 0, none⟩ x).setCell ⟨g, 1, none⟩ y) A n c V k :=
  ⟨X.1.only (Z.off X.1) (((Only.refl g W).setCell 0 x).setCell 1 y), X.2⟩
theorem By.other {W : World} {g k : Nat} {x y : Value} (h : By W g x y) (hne : g ≠ k) (u v : Value) : By ((W.setCell ⟨k, 0, none⟩ u).setCell ⟨k, 1, none⟩ v) g x y := by
  unfold By at h ⊢
  rw [Below.heap_setCell _ _ _ _ hne, Below.heap_setCell _ _ _ _ hne]; exact h
theorem B4.other {W : World} {g k : Nat} {x y z w : Value} (h : B4 W g x y z w) (hne : g ≠ k) (u v : Value) : B4 ((W.setCell ⟨k, 0, none⟩ u).setCell ⟨k, 1, none⟩ v) g x y z w := by
  unfold B4 at h ⊢
  rw [Below.heap_setCell _ _ _ _ hne, Below.heap_setCell _ _ _ _ hne]; exact h
theorem dm_math_s0 (s : Bool) {U V : Nat} (_hV : V ≠ 0) (_h : U % V = 0) : iv false (U / V) = (iv s U).fdiv (iv s V) := (fdiv_alike s U V).1
theorem dm_math_s1 (s : Bool) {U V : Nat} (_hV : V ≠ 0) (_h : U % V ≠ 0) : iv false (U / V) = (iv s U).fdiv (iv s V) := (fdiv_alike s U V).1
theorem dm_math_u0 (s : Bool) {U V : Nat} (hV : V ≠ 0) (h : U % V = 0) : iv true (U / V) = (iv s U).fdiv (iv (!s) V) := by
  have hd := Nat.div_add_mod U V
  exact (fdiv_unlike (s := s) (a := U) (b := V) (q := U / V) (r := U % V) (by
    rw [h, Nat.add_zero] at hd
    rw [h, Int.mul_neg, ← Int.natCast_mul, hd]; simp) (Nat.mod_lt _ (by omega))).1
theorem dm_math_u1 (s : Bool) {U V : Nat} (hV : V ≠ 0) (h : U % V ≠ 0) : iv true (U / V) - 1 = (iv s U).fdiv (iv (!s) V) := by
  have hm := Nat.mod_lt U (show V > 0 by omega)
  have hf := (fdiv_unlike (s := s) (a := U) (b := V) (q := U / V + 1) (r := V - U % V) (rest_up (Nat.div_add_mod U V) (by omega)) (by omega)).1
  rw [← hf]
  simp [iv]; omega
theorem dm_rest (v u : Int) : v - v.fdiv u * u = v.fmod u := by
  have := Int.mul_fdiv_add_fmod v u
  rw [Int.mul_comm] at this
  omega
theorem rof2_one (w : World) : Calls Tryz.prog 151 #[.int .i64 1] w (GivesRZ w 1 2) := rof2_pos 1 (by decide) w
theorem RG.more1 {w : World} {s : Bool} {A : Option Addr} {n c k : Nat} {v : Int} (h : RG w s A n c v k) : RG w s A n c v (k + 1) := ⟨h.1, h.2.more (Nat.le_succ _)⟩
set_option maxRecDepth 100000 in
set_option maxHeartbeats 2000000 in
theorem rdm2_u1 {w : World} {s : Bool} {A B : Option Addr} {n c m d k1 k2 U V : Nat} (X : RN w A n c U k1) (Y : RN w B m d V k2) (h1 : k1 ≤ 100000) (h2 : k2 ≤ 100000) (hk2 : 2 ≤ k1) (hV : V ≠ 0) (hR : U % V ≠ 0) :
    Calls Tryz.prog 197 #[.agg #[.bool s, .slice A n c], .agg #[.bool (!s), .slice B m d]] w (GivesRZZ w ((iv s U).fdiv (iv (!s) V)) ((iv s U).fmod (iv (!s) V)) (k1 + 1) (k1 + k2 + 2)) := by
  have HV := Lib.hid hV
  have HR := Lib.hid hR
  have HQ := Lib.hid (dm_math_u1 s hV hR)
  have HF := Lib.hid (dm_rest (iv s U) (iv (!s) V))
  clear hV hR
  have hne : (s != !s) = true := by cases s <;> rfl
  go_enter Tryz.func197, Tryz.ntmps197
  go_wp2_with fail
  generalize hW : ((w.alloc (Obj.cells #[Value.bool s, Value.slice A n c] 32)).alloc (Obj.cells #[Value.bool (!s), Value.slice B m d] 32)).alloc (Obj.cells #[Value.bool false, Value.slice none 0 0, Value.bool false, Value.slice none 0 0] 225) = W
  have hb : Below w.heap.size w W := by subst hW; exact (((Below.refl _ _).alloc (Nat.le_refl _) _).alloc (by simp) _).alloc (by simp; omega) _
  have XA : By W w.heap.size (.bool s) (.slice A n c) := by subst hW; exact ((By.new w _ _).alloc _).alloc _
  have XB : By W (w.heap.size + 1) (.bool (!s)) (.slice B m d) := by subst hW; exact (By.new' _ _ _ _ (by simp)).alloc _
  have T : B4 W (w.heap.size + 1 + 1) (.bool false) (.slice none 0 0) (.bool false) (.slice none 0 0) := by subst hW; exact B4.new' _ _ _ _ _ _ (by simp)
  have hzw : w.heap.size + 3 ≤ W.heap.size := by subst hW; simp
  clear hW
  replace X := X.below hb
  replace Y := Y.below hb
  have xa0 := XA.c0
  have xa1 := XA.c1
  have xb0 := XB.c0
  have xb1 := XB.c1
  go_wp2_with (first
    | (go_at_call 166; (with_reducible refine (rdm_nr X Y (by omega) (by omega) HV.out).mono ?_); rintro e w_t ⟨A_q, n_q, c_q, A_r, n_r, c_r, rfl, q, r, h0⟩
       have hnr : 0 < n_r := by
         have := r.1.1
         rw [limbs_pos B32_two HR.out] at this
         simp at this; omega
       have hnrI : (0 : Int) < (n_r : Int) := by omega
       have h9 : Below w_t.heap.size w_t (w_t.alloc (.cells #[.slice A_q n_q c_q, .slice A_r n_r c_r] 192)) := (Below.refl _ _).alloc (Nat.le_refl _) _
       replace q := q.below h9
       replace r := r.below h9
       have hz1 : W.heap.size ≤ w_t.heap.size := h0.size
       have hh := bend h0 h9
       clear h0 h9
       try replace X := X.below hh
       try replace Y := Y.below hh
       try replace qg := qg.below hh
       try replace XA := XA.below hh
       try replace XB := XB.below hh
       try replace T := T.below hh
       try replace QB := QB.below hh
       replace hb := bend hb hh
       have VT : Vow 192 (w_t.alloc (.cells #[.slice A_q n_q c_q, .slice A_r n_r c_r] 192)) w_t.heap.size [.slice A_q n_q c_q, .slice A_r n_r c_r] := heap_alloc_new w_t _
       have v0 := VT.cell (i := 0) rfl
       have v1 := VT.cell (i := 1) rfl
       have xa0 := XA.c0
       have xa1 := XA.c1
       have xb0 := XB.c0
       have xb1 := XB.c1)
    | (go_at_call 167; (with_reducible refine (made_any true A_q n_q c_q _).mono ?_); rintro e w_m ⟨rfl, h0⟩
       have qg := RG.of_made (s := _) (neg := true) (q.below h0) rfl
       generalize (true && decide (0 < n_q)) = sq at qg ⊢
       have h9 : Below w_m.heap.size w_m (w_m.alloc (.cells #[.bool sq, .slice A_q n_q c_q] 32)) := (Below.refl _ _).alloc (Nat.le_refl _) _
       replace qg := qg.below h9
       have v1 : (w_m.alloc (.cells #[.bool sq, .slice A_q n_q c_q] 32)).cell? ⟨w_t.heap.size, 1, none⟩ = some (.slice A_r n_r c_r) := ((bend h0 h9).cell (p := ⟨w_t.heap.size, 1, none⟩) (by simp)).trans v1
       have hz2 : w_t.heap.size + 1 ≤ w_m.heap.size := by (have := h0.size; simpa using this)
       have hh := bend h0 h9
       clear h0 h9
       try replace X := X.below hh
       try replace Y := Y.below hh
       try replace q := q.below hh
       try replace r := r.below hh
       try replace XA := XA.below hh
       try replace XB := XB.below hh
       try replace T := T.below hh
       try replace QB := QB.below hh
       replace hb := bend hb hh
       have QB : By (w_m.alloc (.cells #[.bool sq, .slice A_q n_q c_q] 32)) w_m.heap.size (.bool sq) (.slice A_q n_q c_q) := By.new w_m _ _
       have xa0 := XA.c0
       have xa1 := XA.c1
       have xb0 := XB.c0
       have xb1 := XB.c1))
  have hgq : w.heap.size + 3 ≤ w_m.heap.size := by omega
  generalize hW4 : w_m.alloc (Obj.cells #[Value.bool sq, Value.slice A_q n_q c_q] 32) = W4 at X Y qg XA XB T QB hb ⊢
  clear hW4
  generalize w_m.heap.size = gq at QB hgq ⊢
  replace X := X.below (Below.refl _ _).drew
  replace Y := Y.below (Below.refl _ _).drew
  replace qg := qg.below (Below.refl _ _).drew
  replace XA := XA.below (Below.refl _ _).drew
  replace XB := XB.below (Below.refl _ _).drew
  replace T := T.below (Below.refl _ _).drew
  replace QB := QB.below (Below.refl _ _).drew
  replace hb := hb.drew
  have q0 := QB.c0
  have q1 := QB.c1
  go_region_with (first
    | (go_at_call 151; (with_reducible refine (rof2_one _).mono ?_); rintro e w_o ⟨s_o, A_o, n_o, c_o, rfl, o, hh⟩
       try replace X := X.below hh
       try replace Y := Y.below hh
       try replace qg := qg.below hh
       try replace XA := XA.below hh
       try replace XB := XB.below hh
       try replace T := T.below hh
       try replace QB := QB.below hh
       try replace p := p.below hh
       try replace mm := mm.below hh
       try replace f := f.below hh
       replace hb := bend hb hh
       have q0 := QB.c0
       have q1 := QB.c1)
    | (go_at_call 175; (with_reducible refine (rsub2 (k1 + 1) qg.rz o.rz (by omega) (by omega) (by omega)).mono ?_); rintro e w_p ⟨s_p, A_p, n_p, c_p, rfl, p, hh⟩
       try replace X := X.below hh
       try replace Y := Y.below hh
       try replace qg := qg.below hh
       try replace XA := XA.below hh
       try replace XB := XB.below hh
       try replace T := T.below hh
       try replace QB := QB.below hh
       try replace o := o.below hh
       try replace mm := mm.below hh
       try replace f := f.below hh
       replace hb := bend hb hh
       rw [HQ.out] at p
       have r0 := QB.c0
       have r1 := QB.c1
       have r2 := QB.f0
       have r3 := QB.f1))
  all_goals
    replace X := X.set2 QB (.bool s_p) (.slice A_p n_p c_p)
    replace Y := Y.set2 QB (.bool s_p) (.slice A_p n_p c_p)
    replace p := p.set2 QB (.bool s_p) (.slice A_p n_p c_p)
    replace XA := XA.other (k := gq) (by omega) (.bool s_p) (.slice A_p n_p c_p)
    replace XB := XB.other (k := gq) (by omega) (.bool s_p) (.slice A_p n_p c_p)
    replace T := T.other (k := gq) (by omega) (.bool s_p) (.slice A_p n_p c_p)
    replace hb := below_set2 hb (show w.heap.size ≤ gq by omega) (.bool s_p) (.slice A_p n_p c_p)
    replace QB := QB.set2 (.bool s_p) (.slice A_p n_p c_p)
    generalize (w_p.setCell ⟨gq, 0, none⟩ (Value.bool s_p)).setCell ⟨gq, 1, none⟩ (Value.slice A_p n_p c_p) = W5 at X Y p XA XB T QB hb ⊢
    go_wp2_with fail
    replace X := X.below (Below.refl _ _).drew
    replace Y := Y.below (Below.refl _ _).drew
    replace p := p.below (Below.refl _ _).drew
    replace XA := XA.below (Below.refl _ _).drew
    replace XB := XB.below (Below.refl _ _).drew
    replace T := T.below (Below.refl _ _).drew
    replace QB := QB.below (Below.refl _ _).drew
    replace hb := hb.drew
    have Xz : RZ _ s A n c (iv s U) k1 := ⟨U, X, rfl⟩
    have Yz : RZ _ (!s) B m d (iv (!s) V) k2 := ⟨V, Y, rfl⟩
    go_region_held3 (fun w' => w'.cell? ⟨gq, 0, none⟩ = some (Value.bool s_p) ∧ w'.cell? ⟨gq, 1, none⟩ = some (Value.slice A_p n_p c_p) ∧ w'.cell? ⟨w.heap.size, 0, none⟩ = some (Value.bool s) ∧ w'.cell? ⟨w.heap.size, 1, none⟩ = some (Value.slice A n c) ∧ w'.cell? ⟨w.heap.size + 1, 0, none⟩ = some (Value.bool (!s)) ∧ w'.cell? ⟨w.heap.size + 1, 1, none⟩ = some (Value.slice B m d))
      (first | with_reducible exact ⟨QB.c0, QB.c1, XA.c0, XA.c1, XB.c0, XB.c1⟩ | with_reducible exact ⟨(set4_cell _ _ _ _ _ _ _ _ (by omega)).trans QB.c0, (set4_cell _ _ _ _ _ _ _ _ (by omega)).trans QB.c1, (set4_cell _ _ _ _ _ _ _ _ (by omega)).trans XA.c0, (set4_cell _ _ _ _ _ _ _ _ (by omega)).trans XA.c1, (set4_cell _ _ _ _ _ _ _ _ (by omega)).trans XB.c0, (set4_cell _ _ _ _ _ _ _ _ (by omega)).trans XB.c1⟩)
      (first
      | (go_at_call 105; (with_reducible refine (rmul2 p.rz Yz (by omega) (by omega)).mono ?_); rintro e w_m ⟨s_m, A_m, n_m, c_m, rfl, mm, hh⟩
         try replace X := X.below hh
         try replace Y := Y.below hh
         try replace qg := qg.below hh
         try replace XA := XA.below hh
         try replace XB := XB.below hh
         try replace T := T.below hh
         try replace QB := QB.below hh
         try replace o := o.below hh
         try replace p := p.below hh
         try replace f := f.below hh
         replace hb := bend hb hh
         replace Xz := Xz.below hh)
      | (go_at_call 175; (with_reducible refine (rsub2 (k1 + k2 + 2) Xz mm.rz (by omega) (by omega) (by omega)).mono ?_); rintro e w_f ⟨s_f, A_f, n_f, c_f, rfl, f, hh⟩
         try replace X := X.below hh
         try replace Y := Y.below hh
         try replace qg := qg.below hh
         try replace XA := XA.below hh
         try replace XB := XB.below hh
         try replace T := T.below hh
         try replace QB := QB.below hh
         try replace o := o.below hh
         try replace p := p.below hh
         try replace mm := mm.below hh
         replace hb := bend hb hh
         rw [HF.out] at f
         have r0 := T.c0
         have s0 := T.f 0
         have r1 := T.c1
         have s1 := T.f 1
         have r2 := T.c2
         have s2 := T.f 2
         have r3 := T.c3
         have s3 := T.f 3))
    go_wp2
    have G := T.set4 (.bool s_p) (.slice A_p n_p c_p) (.bool s_f) (.slice A_f n_f c_f)
    have g0 := G.c0
    have g1 := G.c1
    have g2 := G.c2
    have g3 := G.c3
    refine bodyPost_ret (v := .agg #[.bool s_p, .slice A_p n_p c_p, .bool s_f, .slice A_f n_f c_f]) (by simp [results, Tryz.results197, go_sem, g0, g1, g2, g3]) rfl ?_
    exact ⟨_, _, _, _, _, _, _, _, rfl, close4 T p _ _ _ _, close4 T f _ _ _ _, below_set4 hb (by omega) _ _ _ _⟩
set_option maxRecDepth 100000 in
set_option maxHeartbeats 2000000 in
theorem rdm2_u0 {w : World} {s : Bool} {A B : Option Addr} {n c m d k1 k2 U V : Nat} (X : RN w A n c U k1) (Y : RN w B m d V k2) (h1 : k1 ≤ 100000) (h2 : k2 ≤ 100000) (hk2 : 2 ≤ k1) (hV : V ≠ 0) (hR : U % V = 0) :
    Calls Tryz.prog 197 #[.agg #[.bool s, .slice A n c], .agg #[.bool (!s), .slice B m d]] w (GivesRZZ w ((iv s U).fdiv (iv (!s) V)) ((iv s U).fmod (iv (!s) V)) (k1 + 1) (k1 + k2 + 2)) := by
  have HV := Lib.hid hV
  have HR := Lib.hid hR
  have HQ := Lib.hid (dm_math_u0 s hV hR)
  have HF := Lib.hid (dm_rest (iv s U) (iv (!s) V))
  clear hV hR
  have hne : (s != !s) = true := by cases s <;> rfl
  go_enter Tryz.func197, Tryz.ntmps197
  go_wp2_with fail
  generalize hW : ((w.alloc (Obj.cells #[Value.bool s, Value.slice A n c] 32)).alloc (Obj.cells #[Value.bool (!s), Value.slice B m d] 32)).alloc (Obj.cells #[Value.bool false, Value.slice none 0 0, Value.bool false, Value.slice none 0 0] 225) = W
  have hb : Below w.heap.size w W := by subst hW; exact (((Below.refl _ _).alloc (Nat.le_refl _) _).alloc (by simp) _).alloc (by simp; omega) _
  have XA : By W w.heap.size (.bool s) (.slice A n c) := by subst hW; exact ((By.new w _ _).alloc _).alloc _
  have XB : By W (w.heap.size + 1) (.bool (!s)) (.slice B m d) := by subst hW; exact (By.new' _ _ _ _ (by simp)).alloc _
  have T : B4 W (w.heap.size + 1 + 1) (.bool false) (.slice none 0 0) (.bool false) (.slice none 0 0) := by subst hW; exact B4.new' _ _ _ _ _ _ (by simp)
  have hzw : w.heap.size + 3 ≤ W.heap.size := by subst hW; simp
  clear hW
  replace X := X.below hb
  replace Y := Y.below hb
  have xa0 := XA.c0
  have xa1 := XA.c1
  have xb0 := XB.c0
  have xb1 := XB.c1
  go_wp2_with (first
    | (go_at_call 166; (with_reducible refine (rdm_nr X Y (by omega) (by omega) HV.out).mono ?_); rintro e w_t ⟨A_q, n_q, c_q, A_r, n_r, c_r, rfl, q, r, h0⟩
       obtain rfl : n_r = 0 := by (have := r.1.1; rw [HR.out, limbs_zero] at this; exact this.symm)
       have h9 : Below w_t.heap.size w_t (w_t.alloc (.cells #[.slice A_q n_q c_q, .slice A_r 0 c_r] 192)) := (Below.refl _ _).alloc (Nat.le_refl _) _
       replace q := q.below h9
       replace r := r.below h9
       have hz1 : W.heap.size ≤ w_t.heap.size := h0.size
       have hh := bend h0 h9
       clear h0 h9
       try replace X := X.below hh
       try replace Y := Y.below hh
       try replace qg := qg.below hh
       try replace XA := XA.below hh
       try replace XB := XB.below hh
       try replace T := T.below hh
       try replace QB := QB.below hh
       replace hb := bend hb hh
       have VT : Vow 192 (w_t.alloc (.cells #[.slice A_q n_q c_q, .slice A_r 0 c_r] 192)) w_t.heap.size [.slice A_q n_q c_q, .slice A_r 0 c_r] := heap_alloc_new w_t _
       have v0 := VT.cell (i := 0) rfl
       have v1 := VT.cell (i := 1) rfl
       have xa0 := XA.c0
       have xa1 := XA.c1
       have xb0 := XB.c0
       have xb1 := XB.c1)
    | (go_at_call 167; (with_reducible refine (made_any true A_q n_q c_q _).mono ?_); rintro e w_m ⟨rfl, h0⟩
       have qg := RG.of_made (s := _) (neg := true) (q.below h0) rfl
       generalize (true && decide (0 < n_q)) = sq at qg ⊢
       have h9 : Below w_m.heap.size w_m (w_m.alloc (.cells #[.bool sq, .slice A_q n_q c_q] 32)) := (Below.refl _ _).alloc (Nat.le_refl _) _
       replace qg := qg.below h9
       have v1 : (w_m.alloc (.cells #[.bool sq, .slice A_q n_q c_q] 32)).cell? ⟨w_t.heap.size, 1, none⟩ = some (.slice A_r 0 c_r) := ((bend h0 h9).cell (p := ⟨w_t.heap.size, 1, none⟩) (by simp)).trans v1
       have hz2 : w_t.heap.size + 1 ≤ w_m.heap.size := by (have := h0.size; simpa using this)
       have hh := bend h0 h9
       clear h0 h9
       try replace X := X.below hh
       try replace Y := Y.below hh
       try replace q := q.below hh
       try replace r := r.below hh
       try replace XA := XA.below hh
       try replace XB := XB.below hh
       try replace T := T.below hh
       try replace QB := QB.below hh
       replace hb := bend hb hh
       have QB : By (w_m.alloc (.cells #[.bool sq, .slice A_q n_q c_q] 32)) w_m.heap.size (.bool sq) (.slice A_q n_q c_q) := By.new w_m _ _
       have xa0 := XA.c0
       have xa1 := XA.c1
       have xb0 := XB.c0
       have xb1 := XB.c1))
  have hgq : w.heap.size + 3 ≤ w_m.heap.size := by omega
  generalize hW4 : w_m.alloc (Obj.cells #[Value.bool sq, Value.slice A_q n_q c_q] 32) = W4 at X Y qg XA XB T QB hb ⊢
  clear hW4
  generalize w_m.heap.size = gq at QB hgq ⊢
  rw [HQ.out] at qg
  have p := qg.more1
  replace X := X.below (Below.refl _ _).drew
  replace Y := Y.below (Below.refl _ _).drew
  replace p := p.below (Below.refl _ _).drew
  replace XA := XA.below (Below.refl _ _).drew
  replace XB := XB.below (Below.refl _ _).drew
  replace T := T.below (Below.refl _ _).drew
  replace QB := QB.below (Below.refl _ _).drew
  replace hb := hb.drew
  have Xz : RZ _ s A n c (iv s U) k1 := ⟨U, X, rfl⟩
  have Yz : RZ _ (!s) B m d (iv (!s) V) k2 := ⟨V, Y, rfl⟩
  go_region_held3 (fun w' => w'.cell? ⟨gq, 0, none⟩ = some (Value.bool sq) ∧ w'.cell? ⟨gq, 1, none⟩ = some (Value.slice A_q n_q c_q) ∧ w'.cell? ⟨w.heap.size, 0, none⟩ = some (Value.bool s) ∧ w'.cell? ⟨w.heap.size, 1, none⟩ = some (Value.slice A n c) ∧ w'.cell? ⟨w.heap.size + 1, 0, none⟩ = some (Value.bool (!s)) ∧ w'.cell? ⟨w.heap.size + 1, 1, none⟩ = some (Value.slice B m d))
    (first | with_reducible exact ⟨QB.c0, QB.c1, XA.c0, XA.c1, XB.c0, XB.c1⟩ | with_reducible exact ⟨(set4_cell _ _ _ _ _ _ _ _ (by omega)).trans QB.c0, (set4_cell _ _ _ _ _ _ _ _ (by omega)).trans QB.c1, (set4_cell _ _ _ _ _ _ _ _ (by omega)).trans XA.c0, (set4_cell _ _ _ _ _ _ _ _ (by omega)).trans XA.c1, (set4_cell _ _ _ _ _ _ _ _ (by omega)).trans XB.c0, (set4_cell _ _ _ _ _ _ _ _ (by omega)).trans XB.c1⟩)
    (first
    | (go_at_call 105; (with_reducible refine (rmul2 p.rz Yz (by omega) (by omega)).mono ?_); rintro e w_m ⟨s_m, A_m, n_m, c_m, rfl, mm, hh⟩
       try replace X := X.below hh
       try replace Y := Y.below hh
       try replace qg := qg.below hh
       try replace XA := XA.below hh
       try replace XB := XB.below hh
       try replace T := T.below hh
       try replace QB := QB.below hh
       try replace o := o.below hh
       try replace p := p.below hh
       try replace f := f.below hh
       replace hb := bend hb hh
       replace Xz := Xz.below hh)
    | (go_at_call 175; (with_reducible refine (rsub2 (k1 + k2 + 2) Xz mm.rz (by omega) (by omega) (by omega)).mono ?_); rintro e w_f ⟨s_f, A_f, n_f, c_f, rfl, f, hh⟩
       try replace X := X.below hh
       try replace Y := Y.below hh
       try replace qg := qg.below hh
       try replace XA := XA.below hh
       try replace XB := XB.below hh
       try replace T := T.below hh
       try replace QB := QB.below hh
       try replace o := o.below hh
       try replace p := p.below hh
       try replace mm := mm.below hh
       replace hb := bend hb hh
       rw [HF.out] at f
       have r0 := T.c0
       have s0 := T.f 0
       have r1 := T.c1
       have s1 := T.f 1
       have r2 := T.c2
       have s2 := T.f 2
       have r3 := T.c3
       have s3 := T.f 3))
  go_wp2
  have G := T.set4 (.bool sq) (.slice A_q n_q c_q) (.bool s_f) (.slice A_f n_f c_f)
  have g0 := G.c0
  have g1 := G.c1
  have g2 := G.c2
  have g3 := G.c3
  refine bodyPost_ret (v := .agg #[.bool sq, .slice A_q n_q c_q, .bool s_f, .slice A_f n_f c_f]) (by simp [results, Tryz.results197, go_sem, g0, g1, g2, g3]) rfl ?_
  exact ⟨_, _, _, _, _, _, _, _, rfl, close4 T p _ _ _ _, close4 T f _ _ _ _, below_set4 hb (by omega) _ _ _ _⟩
set_option maxRecDepth 100000 in
set_option maxHeartbeats 2000000 in
theorem rdm2_s0 {w : World} {s : Bool} {A B : Option Addr} {n c m d k1 k2 U V : Nat} (X : RN w A n c U k1) (Y : RN w B m d V k2) (h1 : k1 ≤ 100000) (h2 : k2 ≤ 100000) (hk2 : 2 ≤ k1) (hV : V ≠ 0) (hR : U % V = 0) :
    Calls Tryz.prog 197 #[.agg #[.bool s, .slice A n c], .agg #[.bool (s), .slice B m d]] w (GivesRZZ w ((iv s U).fdiv (iv (s) V)) ((iv s U).fmod (iv (s) V)) (k1 + 1) (k1 + k2 + 2)) := by
  have HV := Lib.hid hV
  have HR := Lib.hid hR
  have HQ := Lib.hid (dm_math_s0 s hV hR)
  have HF := Lib.hid (dm_rest (iv s U) (iv (s) V))
  clear hV hR
  have hne : (s != s) = false := by cases s <;> rfl
  go_enter Tryz.func197, Tryz.ntmps197
  go_wp2_with fail
  generalize hW : ((w.alloc (Obj.cells #[Value.bool s, Value.slice A n c] 32)).alloc (Obj.cells #[Value.bool (s), Value.slice B m d] 32)).alloc (Obj.cells #[Value.bool false, Value.slice none 0 0, Value.bool false, Value.slice none 0 0] 225) = W
  have hb : Below w.heap.size w W := by subst hW; exact (((Below.refl _ _).alloc (Nat.le_refl _) _).alloc (by simp) _).alloc (by simp; omega) _
  have XA : By W w.heap.size (.bool s) (.slice A n c) := by subst hW; exact ((By.new w _ _).alloc _).alloc _
  have XB : By W (w.heap.size + 1) (.bool (s)) (.slice B m d) := by subst hW; exact (By.new' _ _ _ _ (by simp)).alloc _
  have T : B4 W (w.heap.size + 1 + 1) (.bool false) (.slice none 0 0) (.bool false) (.slice none 0 0) := by subst hW; exact B4.new' _ _ _ _ _ _ (by simp)
  have hzw : w.heap.size + 3 ≤ W.heap.size := by subst hW; simp
  clear hW
  replace X := X.below hb
  replace Y := Y.below hb
  have xa0 := XA.c0
  have xa1 := XA.c1
  have xb0 := XB.c0
  have xb1 := XB.c1
  go_wp2_with (first
    | (go_at_call 166; (with_reducible refine (rdm_nr X Y (by omega) (by omega) HV.out).mono ?_); rintro e w_t ⟨A_q, n_q, c_q, A_r, n_r, c_r, rfl, q, r, h0⟩
       obtain rfl : n_r = 0 := by (have := r.1.1; rw [HR.out, limbs_zero] at this; exact this.symm)
       have h9 : Below w_t.heap.size w_t (w_t.alloc (.cells #[.slice A_q n_q c_q, .slice A_r 0 c_r] 192)) := (Below.refl _ _).alloc (Nat.le_refl _) _
       replace q := q.below h9
       replace r := r.below h9
       have hz1 : W.heap.size ≤ w_t.heap.size := h0.size
       have hh := bend h0 h9
       clear h0 h9
       try replace X := X.below hh
       try replace Y := Y.below hh
       try replace qg := qg.below hh
       try replace XA := XA.below hh
       try replace XB := XB.below hh
       try replace T := T.below hh
       try replace QB := QB.below hh
       replace hb := bend hb hh
       have VT : Vow 192 (w_t.alloc (.cells #[.slice A_q n_q c_q, .slice A_r 0 c_r] 192)) w_t.heap.size [.slice A_q n_q c_q, .slice A_r 0 c_r] := heap_alloc_new w_t _
       have v0 := VT.cell (i := 0) rfl
       have v1 := VT.cell (i := 1) rfl
       have xa0 := XA.c0
       have xa1 := XA.c1
       have xb0 := XB.c0
       have xb1 := XB.c1)
    | (go_at_call 167; (with_reducible refine (made_any false A_q n_q c_q _).mono ?_); rintro e w_m ⟨rfl, h0⟩
       have qg := RG.of_made (s := _) (neg := false) (q.below h0) rfl
       generalize (false && decide (0 < n_q)) = sq at qg ⊢
       have h9 : Below w_m.heap.size w_m (w_m.alloc (.cells #[.bool sq, .slice A_q n_q c_q] 32)) := (Below.refl _ _).alloc (Nat.le_refl _) _
       replace qg := qg.below h9
       have v1 : (w_m.alloc (.cells #[.bool sq, .slice A_q n_q c_q] 32)).cell? ⟨w_t.heap.size, 1, none⟩ = some (.slice A_r 0 c_r) := ((bend h0 h9).cell (p := ⟨w_t.heap.size, 1, none⟩) (by simp)).trans v1
       have hz2 : w_t.heap.size + 1 ≤ w_m.heap.size := by (have := h0.size; simpa using this)
       have hh := bend h0 h9
       clear h0 h9
       try replace X := X.below hh
       try replace Y := Y.below hh
       try replace q := q.below hh
       try replace r := r.below hh
       try replace XA := XA.below hh
       try replace XB := XB.below hh
       try replace T := T.below hh
       try replace QB := QB.below hh
       replace hb := bend hb hh
       have QB : By (w_m.alloc (.cells #[.bool sq, .slice A_q n_q c_q] 32)) w_m.heap.size (.bool sq) (.slice A_q n_q c_q) := By.new w_m _ _
       have xa0 := XA.c0
       have xa1 := XA.c1
       have xb0 := XB.c0
       have xb1 := XB.c1))
  have hgq : w.heap.size + 3 ≤ w_m.heap.size := by omega
  generalize hW4 : w_m.alloc (Obj.cells #[Value.bool sq, Value.slice A_q n_q c_q] 32) = W4 at X Y qg XA XB T QB hb ⊢
  clear hW4
  generalize w_m.heap.size = gq at QB hgq ⊢
  rw [HQ.out] at qg
  have p := qg.more1
  replace X := X.below (Below.refl _ _).drew
  replace Y := Y.below (Below.refl _ _).drew
  replace p := p.below (Below.refl _ _).drew
  replace XA := XA.below (Below.refl _ _).drew
  replace XB := XB.below (Below.refl _ _).drew
  replace T := T.below (Below.refl _ _).drew
  replace QB := QB.below (Below.refl _ _).drew
  replace hb := hb.drew
  have Xz : RZ _ s A n c (iv s U) k1 := ⟨U, X, rfl⟩
  have Yz : RZ _ (s) B m d (iv (s) V) k2 := ⟨V, Y, rfl⟩
  go_region_held3 (fun w' => w'.cell? ⟨gq, 0, none⟩ = some (Value.bool sq) ∧ w'.cell? ⟨gq, 1, none⟩ = some (Value.slice A_q n_q c_q) ∧ w'.cell? ⟨w.heap.size, 0, none⟩ = some (Value.bool s) ∧ w'.cell? ⟨w.heap.size, 1, none⟩ = some (Value.slice A n c) ∧ w'.cell? ⟨w.heap.size + 1, 0, none⟩ = some (Value.bool (s)) ∧ w'.cell? ⟨w.heap.size + 1, 1, none⟩ = some (Value.slice B m d))
    (first | with_reducible exact ⟨QB.c0, QB.c1, XA.c0, XA.c1, XB.c0, XB.c1⟩ | with_reducible exact ⟨(set4_cell _ _ _ _ _ _ _ _ (by omega)).trans QB.c0, (set4_cell _ _ _ _ _ _ _ _ (by omega)).trans QB.c1, (set4_cell _ _ _ _ _ _ _ _ (by omega)).trans XA.c0, (set4_cell _ _ _ _ _ _ _ _ (by omega)).trans XA.c1, (set4_cell _ _ _ _ _ _ _ _ (by omega)).trans XB.c0, (set4_cell _ _ _ _ _ _ _ _ (by omega)).trans XB.c1⟩)
    (first
    | (go_at_call 105; (with_reducible refine (rmul2 p.rz Yz (by omega) (by omega)).mono ?_); rintro e w_m ⟨s_m, A_m, n_m, c_m, rfl, mm, hh⟩
       try replace X := X.below hh
       try replace Y := Y.below hh
       try replace qg := qg.below hh
       try replace XA := XA.below hh
       try replace XB := XB.below hh
       try replace T := T.below hh
       try replace QB := QB.below hh
       try replace o := o.below hh
       try replace p := p.below hh
       try replace f := f.below hh
       replace hb := bend hb hh
       replace Xz := Xz.below hh)
    | (go_at_call 175; (with_reducible refine (rsub2 (k1 + k2 + 2) Xz mm.rz (by omega) (by omega) (by omega)).mono ?_); rintro e w_f ⟨s_f, A_f, n_f, c_f, rfl, f, hh⟩
       try replace X := X.below hh
       try replace Y := Y.below hh
       try replace qg := qg.below hh
       try replace XA := XA.below hh
       try replace XB := XB.below hh
       try replace T := T.below hh
       try replace QB := QB.below hh
       try replace o := o.below hh
       try replace p := p.below hh
       try replace mm := mm.below hh
       replace hb := bend hb hh
       rw [HF.out] at f
       have r0 := T.c0
       have s0 := T.f 0
       have r1 := T.c1
       have s1 := T.f 1
       have r2 := T.c2
       have s2 := T.f 2
       have r3 := T.c3
       have s3 := T.f 3))
  go_wp2
  have G := T.set4 (.bool sq) (.slice A_q n_q c_q) (.bool s_f) (.slice A_f n_f c_f)
  have g0 := G.c0
  have g1 := G.c1
  have g2 := G.c2
  have g3 := G.c3
  refine bodyPost_ret (v := .agg #[.bool sq, .slice A_q n_q c_q, .bool s_f, .slice A_f n_f c_f]) (by simp [results, Tryz.results197, go_sem, g0, g1, g2, g3]) rfl ?_
  exact ⟨_, _, _, _, _, _, _, _, rfl, close4 T p _ _ _ _, close4 T f _ _ _ _, below_set4 hb (by omega) _ _ _ _⟩
set_option maxRecDepth 100000 in
set_option maxHeartbeats 2000000 in
theorem rdm2_s1 {w : World} {s : Bool} {A B : Option Addr} {n c m d k1 k2 U V : Nat} (X : RN w A n c U k1) (Y : RN w B m d V k2) (h1 : k1 ≤ 100000) (h2 : k2 ≤ 100000) (hk2 : 2 ≤ k1) (hV : V ≠ 0) (hR : U % V ≠ 0) :
    Calls Tryz.prog 197 #[.agg #[.bool s, .slice A n c], .agg #[.bool (s), .slice B m d]] w (GivesRZZ w ((iv s U).fdiv (iv (s) V)) ((iv s U).fmod (iv (s) V)) (k1 + 1) (k1 + k2 + 2)) := by
  have HV := Lib.hid hV
  have HR := Lib.hid hR
  have HQ := Lib.hid (dm_math_s1 s hV hR)
  have HF := Lib.hid (dm_rest (iv s U) (iv (s) V))
  clear hV hR
  have hne : (s != s) = false := by cases s <;> rfl
  go_enter Tryz.func197, Tryz.ntmps197
  go_wp2_with fail
  generalize hW : ((w.alloc (Obj.cells #[Value.bool s, Value.slice A n c] 32)).alloc (Obj.cells #[Value.bool (s), Value.slice B m d] 32)).alloc (Obj.cells #[Value.bool false, Value.slice none 0 0, Value.bool false, Value.slice none 0 0] 225) = W
  have hb : Below w.heap.size w W := by subst hW; exact (((Below.refl _ _).alloc (Nat.le_refl _) _).alloc (by simp) _).alloc (by simp; omega) _
  have XA : By W w.heap.size (.bool s) (.slice A n c) := by subst hW; exact ((By.new w _ _).alloc _).alloc _
  have XB : By W (w.heap.size + 1) (.bool (s)) (.slice B m d) := by subst hW; exact (By.new' _ _ _ _ (by simp)).alloc _
  have T : B4 W (w.heap.size + 1 + 1) (.bool false) (.slice none 0 0) (.bool false) (.slice none 0 0) := by subst hW; exact B4.new' _ _ _ _ _ _ (by simp)
  have hzw : w.heap.size + 3 ≤ W.heap.size := by subst hW; simp
  clear hW
  replace X := X.below hb
  replace Y := Y.below hb
  have xa0 := XA.c0
  have xa1 := XA.c1
  have xb0 := XB.c0
  have xb1 := XB.c1
  go_wp2_with (first
    | (go_at_call 166; (with_reducible refine (rdm_nr X Y (by omega) (by omega) HV.out).mono ?_); rintro e w_t ⟨A_q, n_q, c_q, A_r, n_r, c_r, rfl, q, r, h0⟩
       have hnr : 0 < n_r := by
         have := r.1.1
         rw [limbs_pos B32_two HR.out] at this
         simp at this; omega
       have hnrI : (0 : Int) < (n_r : Int) := by omega
       have h9 : Below w_t.heap.size w_t (w_t.alloc (.cells #[.slice A_q n_q c_q, .slice A_r n_r c_r] 192)) := (Below.refl _ _).alloc (Nat.le_refl _) _
       replace q := q.below h9
       replace r := r.below h9
       have hz1 : W.heap.size ≤ w_t.heap.size := h0.size
       have hh := bend h0 h9
       clear h0 h9
       try replace X := X.below hh
       try replace Y := Y.below hh
       try replace qg := qg.below hh
       try replace XA := XA.below hh
       try replace XB := XB.below hh
       try replace T := T.below hh
       try replace QB := QB.below hh
       replace hb := bend hb hh
       have VT : Vow 192 (w_t.alloc (.cells #[.slice A_q n_q c_q, .slice A_r n_r c_r] 192)) w_t.heap.size [.slice A_q n_q c_q, .slice A_r n_r c_r] := heap_alloc_new w_t _
       have v0 := VT.cell (i := 0) rfl
       have v1 := VT.cell (i := 1) rfl
       have xa0 := XA.c0
       have xa1 := XA.c1
       have xb0 := XB.c0
       have xb1 := XB.c1)
    | (go_at_call 167; (with_reducible refine (made_any false A_q n_q c_q _).mono ?_); rintro e w_m ⟨rfl, h0⟩
       have qg := RG.of_made (s := _) (neg := false) (q.below h0) rfl
       generalize (false && decide (0 < n_q)) = sq at qg ⊢
       have h9 : Below w_m.heap.size w_m (w_m.alloc (.cells #[.bool sq, .slice A_q n_q c_q] 32)) := (Below.refl _ _).alloc (Nat.le_refl _) _
       replace qg := qg.below h9
       have v1 : (w_m.alloc (.cells #[.bool sq, .slice A_q n_q c_q] 32)).cell? ⟨w_t.heap.size, 1, none⟩ = some (.slice A_r n_r c_r) := ((bend h0 h9).cell (p := ⟨w_t.heap.size, 1, none⟩) (by simp)).trans v1
       have hz2 : w_t.heap.size + 1 ≤ w_m.heap.size := by (have := h0.size; simpa using this)
       have hh := bend h0 h9
       clear h0 h9
       try replace X := X.below hh
       try replace Y := Y.below hh
       try replace q := q.below hh
       try replace r := r.below hh
       try replace XA := XA.below hh
       try replace XB := XB.below hh
       try replace T := T.below hh
       try replace QB := QB.below hh
       replace hb := bend hb hh
       have QB : By (w_m.alloc (.cells #[.bool sq, .slice A_q n_q c_q] 32)) w_m.heap.size (.bool sq) (.slice A_q n_q c_q) := By.new w_m _ _
       have xa0 := XA.c0
       have xa1 := XA.c1
       have xb0 := XB.c0
       have xb1 := XB.c1))
  have hgq : w.heap.size + 3 ≤ w_m.heap.size := by omega
  generalize hW4 : w_m.alloc (Obj.cells #[Value.bool sq, Value.slice A_q n_q c_q] 32) = W4 at X Y qg XA XB T QB hb ⊢
  clear hW4
  generalize w_m.heap.size = gq at QB hgq ⊢
  rw [HQ.out] at qg
  have p := qg.more1
  replace X := X.below (Below.refl _ _).drew
  replace Y := Y.below (Below.refl _ _).drew
  replace p := p.below (Below.refl _ _).drew
  replace XA := XA.below (Below.refl _ _).drew
  replace XB := XB.below (Below.refl _ _).drew
  replace T := T.below (Below.refl _ _).drew
  replace QB := QB.below (Below.refl _ _).drew
  replace hb := hb.drew
  have Xz : RZ _ s A n c (iv s U) k1 := ⟨U, X, rfl⟩
  have Yz : RZ _ (s) B m d (iv (s) V) k2 := ⟨V, Y, rfl⟩
  go_region_held3 (fun w' => w'.cell? ⟨gq, 0, none⟩ = some (Value.bool sq) ∧ w'.cell? ⟨gq, 1, none⟩ = some (Value.slice A_q n_q c_q) ∧ w'.cell? ⟨w.heap.size, 0, none⟩ = some (Value.bool s) ∧ w'.cell? ⟨w.heap.size, 1, none⟩ = some (Value.slice A n c) ∧ w'.cell? ⟨w.heap.size + 1, 0, none⟩ = some (Value.bool (s)) ∧ w'.cell? ⟨w.heap.size + 1, 1, none⟩ = some (Value.slice B m d))
    (first | with_reducible exact ⟨QB.c0, QB.c1, XA.c0, XA.c1, XB.c0, XB.c1⟩ | with_reducible exact ⟨(set4_cell _ _ _ _ _ _ _ _ (by omega)).trans QB.c0, (set4_cell _ _ _ _ _ _ _ _ (by omega)).trans QB.c1, (set4_cell _ _ _ _ _ _ _ _ (by omega)).trans XA.c0, (set4_cell _ _ _ _ _ _ _ _ (by omega)).trans XA.c1, (set4_cell _ _ _ _ _ _ _ _ (by omega)).trans XB.c0, (set4_cell _ _ _ _ _ _ _ _ (by omega)).trans XB.c1⟩)
    (first
    | (go_at_call 105; (with_reducible refine (rmul2 p.rz Yz (by omega) (by omega)).mono ?_); rintro e w_m ⟨s_m, A_m, n_m, c_m, rfl, mm, hh⟩
       try replace X := X.below hh
       try replace Y := Y.below hh
       try replace qg := qg.below hh
       try replace XA := XA.below hh
       try replace XB := XB.below hh
       try replace T := T.below hh
       try replace QB := QB.below hh
       try replace o := o.below hh
       try replace p := p.below hh
       try replace f := f.below hh
       replace hb := bend hb hh
       replace Xz := Xz.below hh)
    | (go_at_call 175; (with_reducible refine (rsub2 (k1 + k2 + 2) Xz mm.rz (by omega) (by omega) (by omega)).mono ?_); rintro e w_f ⟨s_f, A_f, n_f, c_f, rfl, f, hh⟩
       try replace X := X.below hh
       try replace Y := Y.below hh
       try replace qg := qg.below hh
       try replace XA := XA.below hh
       try replace XB := XB.below hh
       try replace T := T.below hh
       try replace QB := QB.below hh
       try replace o := o.below hh
       try replace p := p.below hh
       try replace mm := mm.below hh
       replace hb := bend hb hh
       rw [HF.out] at f
       have r0 := T.c0
       have s0 := T.f 0
       have r1 := T.c1
       have s1 := T.f 1
       have r2 := T.c2
       have s2 := T.f 2
       have r3 := T.c3
       have s3 := T.f 3))
  go_wp2
  have G := T.set4 (.bool sq) (.slice A_q n_q c_q) (.bool s_f) (.slice A_f n_f c_f)
  have g0 := G.c0
  have g1 := G.c1
  have g2 := G.c2
  have g3 := G.c3
  refine bodyPost_ret (v := .agg #[.bool sq, .slice A_q n_q c_q, .bool s_f, .slice A_f n_f c_f]) (by simp [results, Tryz.results197, go_sem, g0, g1, g2, g3]) rfl ?_
  exact ⟨_, _, _, _, _, _, _, _, rfl, close4 T p _ _ _ _, close4 T f _ _ _ _, below_set4 hb (by omega) _ _ _ _⟩
theorem rdm2 {w : World} {s t : Bool} {A B : Option Addr} {n c m d k1 k2 : Nat} {v u : Int} (X : RZ w s A n c v k1) (Y : RZ w t B m d u k2) (hu : u ≠ 0) (h1 : k1 ≤ 100000) (h2 : k2 ≤ 100000) (hk2 : 2 ≤ k1) :
    Calls Tryz.prog 197 #[.agg #[.bool s, .slice A n c], .agg #[.bool t, .slice B m d]] w (GivesRZZ w (v.fdiv u) (v.fmod u) (k1 + 1) (k1 + k2 + 2)) := by
  obtain ⟨U, X, rfl⟩ := X
  obtain ⟨V, Y, rfl⟩ := Y
  have hV : V ≠ 0 := fun h => hu (by rw [h]; cases t <;> rfl)
  by_cases h : t = s
  · subst h
    by_cases hR : U % V = 0
    · exact rdm2_s0 X Y h1 h2 hk2 hV hR
    · exact rdm2_s1 X Y h1 h2 hk2 hV hR
  · have ht : t = !s := by cases s <;> cases t <;> simp_all
    subst ht
    by_cases hR : U % V = 0
    · exact rdm2_u0 X Y h1 h2 hk2 hV hR
    · exact rdm2_u1 X Y h1 h2 hk2 hV hR
end Go.Proofs.YtlkjkhpjhllapaaGreat
