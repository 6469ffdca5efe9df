/- The document's own answers of layer 2: Of, DivMod. -/
import Derived.Test.YtmcijgnbdnpanaaGreatRefZ2
namespace Go.Proofs.YtmcijgnbdnpanaaGreat
open Go.RowKit

/-- Block g holds a pair of two structs. -/
def B4 (W : World) (g : Nat) (x y z u : Value) : Prop := W.heap[g]? = some (.cells #[x, y, z, u] 117 (0, 0))
section
variable {W W' : World} {g : Nat} {x y z u : Value}
theorem B4.c0 (h : B4 W g x y z u) : W.cell? ⟨g, 0, none⟩ = some x := by rw [cell_of_row W g 0 _ _ (0, 0) h]; rfl
theorem B4.c1 (h : B4 W g x y z u) : W.cell? ⟨g, 1, none⟩ = some y := by rw [cell_of_row W g 1 _ _ (0, 0) h]; rfl
theorem B4.c2 (h : B4 W g x y z u) : W.cell? ⟨g, 2, none⟩ = some z := by rw [cell_of_row W g 2 _ _ (0, 0) h]; rfl
theorem B4.c3 (h : B4 W g x y z u) : W.cell? ⟨g, 3, none⟩ = some u := by rw [cell_of_row W g 3 _ _ (0, 0) h]; rfl
theorem B4.f (h : B4 W g x y z u) (i : Nat) : W.frozen? ⟨g, i, none⟩ = false := frozen_of_row W g i _ _ h
theorem B4.lt (h : B4 W g x y z u) : g < W.heap.size := World.block_lt_of_cell? W _ h.c0
theorem B4.below (h : B4 W g x y z u) (hb : Below W.heap.size W W') : B4 W' g x y z u := (hb.block g h.lt).trans h
theorem B4.drew (h : B4 W g x y z u) : B4 W.drew g x y z u := h
theorem B4.alloc (h : B4 W g x y z u) (o : Obj) : B4 (W.alloc o) g x y z u := (Below.heap_alloc W o g h.lt).trans h
theorem B4.new' (W : World) (x y z u : Value) (g : Nat) (hg : g = W.heap.size) : B4 (W.alloc (.cells #[x, y, z, u] 117)) g x y z u := by subst hg; exact heap_alloc_new W _
theorem B4.set4 (h : B4 W g x y z u) (a b c d : Value) : B4 ((((W.setCell ⟨g, 0, none⟩ a).setCell ⟨g, 1, none⟩ b).setCell ⟨g, 2, none⟩ c).setCell ⟨g, 3, none⟩ d) g a b c d := by
  unfold B4 at h ⊢
  simp [World.setCell, Array.getElem?_modify, h]
theorem B4.off {s t : Bool} {A A1 A2 : Option Addr} {n n1 n2 c1 c2 : Nat} {K : IntKind} {l : List Nat} (h : B4 W g (.bool s) (.slice A1 n1 c1) (.bool t) (.slice A2 n2 c2)) (hr : Rd K W A n l) : Off A n g := by
  intro hn ad e hg
  obtain ⟨b, o, eA, hc⟩ := hr.at_ hn
  obtain ⟨x, _, hx⟩ := hc 0 hn
  rw [eA] at e
  cases e
  have hg2 : b = g := hg
  subst hg2
  rw [cell_of_row W b (o + 0) _ _ (0, 0) h] at hx
  match o, hx with
  | 0, hx => cases hx
  | 1, hx => cases hx
  | 2, hx => cases hx
  | 3, hx => cases hx
  | o + 4, hx => cases hx
end
theorem set4_cell (W : World) (g k o : Nat) (x y z u : Value) (h : k ≠ g) : ((((W.setCell ⟨g, 0, none⟩ x).setCell ⟨g, 1, none⟩ y).setCell ⟨g, 2, none⟩ z).setCell ⟨g, 3, none⟩ u).cell? ⟨k, o, none⟩ = W.cell? ⟨k, o, none⟩ := by
  rw [World.cell?_of_block (Below.heap_setCell _ _ _ _ h), World.cell?_of_block (Below.heap_setCell _ _ _ _ h), World.cell?_of_block (Below.heap_setCell _ _ _ _ h), World.cell?_of_block (Below.heap_setCell _ _ _ _ h)]
/-- The call tells the numbers q and r. -/
def GivesRZZ (w : World) (q r : Int) (k1 k2 : Nat) (e : Ending) (w' : World) : Prop :=
  ∃ s A n c t B m d, e = .returned (.agg #[.bool s, .slice A n c, .bool t, .slice B m d]) ∧ RG w' s A n c q k1 ∧ RG w' t B m d r k2 ∧ Below w.heap.size w w'

set_option maxRecDepth 100000 in
set_option maxHeartbeats 2000000 in
theorem rof2_pos (V : Nat) (hV : V < 9223372036854775808) (w : World) :
    Calls Tryz.prog 100 #[.int .i64 ((V : Int))] w (GivesRZ w ((V : Int)) 2) := by
  have hV64 : V < B64 := by unfold B64; omega
  go_enter Tryz.func100, Tryz.ntmps100
  go_wp2_with fail
  generalize hW : (w.alloc (Obj.cells #[Value.bool false, Value.slice none 0 0] 32)) = W
  have hb : Below w.heap.size w W := by subst hW; exact ((Below.refl _ _).alloc (Nat.le_refl _) _)
  have Z : By W w.heap.size (Value.bool false) (Value.slice none 0 0) := by subst hW; exact By.new w _ _
  have hz : W.heap.size = w.heap.size + 1 := by subst hW; simp
  clear hW
  go_wp2_with (first
    | (go_at_call 71; (with_reducible refine (rofv_rn V hV64 _).mono ?_); rintro e w_x ⟨A_x, n_x, c_x, rfl, x, hh⟩
       try replace X := X.below hh
       try replace Y := Y.below hh
       try replace XA := XA.below hh
       try replace XB := XB.below hh
       try replace Z := Z.below hh
       try replace T := T.below hh
       replace hb := bend hb hh)
    | (go_at_call 97; (with_reducible refine (made_any _ _ _ _ _).mono ?_); rintro e w_m ⟨rfl, hh⟩
       try replace X := X.below hh
       try replace Y := Y.below hh
       try replace x := x.below hh
       try replace XA := XA.below hh
       try replace XB := XB.below hh
       try replace Z := Z.below hh
       try replace T := T.below hh
       replace hb := bend hb hh
       have r0 := Z.c0
       have r1 := Z.c1
       have r2 := Z.f0
       have r3 := Z.f1))
  have hf0 := (Z.set2 (.bool (false && decide (0 < n_x))) (.slice A_x n_x c_x)).c0
  have hf1 := (Z.set2 (.bool (false && decide (0 < n_x))) (.slice A_x n_x c_x)).c1
  simp only [Bool.false_and] at hf0 hf1
  refine bodyPost_ret (v := .agg #[.bool (false && decide (0 < n_x)), .slice A_x n_x c_x]) (by simp [results, Tryz.results100, go_sem, hf0, hf1]) rfl ?_
  exact close_rz (s := false) (g := w.heap.size) hb (Nat.le_refl _) Z x (by simp [iv]) _ _

set_option maxRecDepth 100000 in
set_option maxHeartbeats 2000000 in
theorem rof2_neg (V : Nat) (hV0 : 0 < V) (hV : V ≤ 9223372036854775808) (w : World) :
    Calls Tryz.prog 100 #[.int .i64 (-(V : Int))] w (GivesRZ w (-(V : Int)) 2) := by
  have hV64 : V < B64 := by unfold B64; omega
  obtain ⟨V', hV'⟩ : ∃ V', V = V' + 1 := ⟨V - 1, by omega⟩
  have e1 : -(-(V : Int) + 1) = (V' : Int) := by omega
  have e2 : (V' : Int) + 1 = (V : Int) := by omega
  have hV2 : V' < 9223372036854775808 := by omega
  clear hV'
  go_enter Tryz.func100, Tryz.ntmps100
  go_wp2_with fail
  generalize hW : (w.alloc (Obj.cells #[Value.bool false, Value.slice none 0 0] 32)) = W
  have hb : Below w.heap.size w W := by subst hW; exact ((Below.refl _ _).alloc (Nat.le_refl _) _)
  have Z : By W w.heap.size (Value.bool false) (Value.slice none 0 0) := by subst hW; exact By.new w _ _
  have hz : W.heap.size = w.heap.size + 1 := by subst hW; simp
  clear hW
  go_wp2_with (first
    | (go_at_call 71; (with_reducible refine (rofv_rn V hV64 _).mono ?_); rintro e w_x ⟨A_x, n_x, c_x, rfl, x, hh⟩
       try replace X := X.below hh
       try replace Y := Y.below hh
       try replace XA := XA.below hh
       try replace XB := XB.below hh
       try replace Z := Z.below hh
       try replace T := T.below hh
       replace hb := bend hb hh)
    | (go_at_call 97; (with_reducible refine (made_any _ _ _ _ _).mono ?_); rintro e w_m ⟨rfl, hh⟩
       try replace X := X.below hh
       try replace Y := Y.below hh
       try replace x := x.below hh
       try replace XA := XA.below hh
       try replace XB := XB.below hh
       try replace Z := Z.below hh
       try replace T := T.below hh
       replace hb := bend hb hh
       have r0 := Z.c0
       have r1 := Z.c1
       have r2 := Z.f0
       have r3 := Z.f1))
  have hf0 := (Z.set2 (.bool (true && decide (0 < n_x))) (.slice A_x n_x c_x)).c0
  have hf1 := (Z.set2 (.bool (true && decide (0 < n_x))) (.slice A_x n_x c_x)).c1
  simp only [Bool.true_and] at hf0 hf1
  refine bodyPost_ret (v := .agg #[.bool (true && decide (0 < n_x)), .slice A_x n_x c_x]) (by simp [results, Tryz.results100, go_sem, hf0, hf1]) rfl ?_
  exact close_rz (s := true) (g := w.heap.size) hb (Nat.le_refl _) Z x (by simp [iv]) _ _

theorem RG.of_made {w : World} {s neg : Bool} {A : Option Addr} {n c V k : Nat} (h : RN w A n c V k) (hs : s = (neg && decide (0 < n))) : RG w s A n c (iv neg V) k :=
  ⟨by rw [hs, iv_neg, rn_pos h], by rw [iv_natAbs]; exact h⟩
theorem close4 {W : World} {g : Nat} {s0 t0 s : Bool} {A1 A2 A : Option Addr} {n1 n2 c1 c2 n c k : Nat} {v : Int} (T : B4 W g (.bool s0) (.slice A1 n1 c1) (.bool t0) (.slice A2 n2 c2)) (X : RG W s A n c v k) (x y z u : Value) :
    RG ((((W.setCell ⟨g, 0, none⟩ x).setCell ⟨g, 1, none⟩ y).setCell ⟨g, 2, none⟩ z).setCell ⟨g, 3, none⟩ u) s A n c v k :=
  ⟨X.1, X.2.1.only (T.off X.2.1) (((((Only.refl g W).setCell 0 x).setCell 1 y).setCell 2 z).setCell 3 u), X.2.2⟩
theorem below_set4 {B g : Nat} {w W : World} (h : Below B w W) (hg : B ≤ g) (x y z u : Value) : Below B w ((((W.setCell ⟨g, 0, none⟩ x).setCell ⟨g, 1, none⟩ y).setCell ⟨g, 2, none⟩ z).setCell ⟨g, 3, none⟩ u) :=
  (((h.setCell hg _).setCell hg _).setCell hg _).setCell hg _
theorem below_set2 {B g : Nat} {w W : World} (h : Below B w W) (hg : B ≤ g) (x y : Value) : Below B w ((W.setCell ⟨g, 0, none⟩ x).setCell ⟨g, 1, none⟩ y) := (h.setCell hg _).setCell hg _
theorem RG.set2 {W : World} {g : Nat} {s0 s : Bool} {A1 A : Option Addr} {n1 c1 n c k : Nat} {v : Int} (X : RG W s A n c v k) (Z : By W g (.bool s0) (.slice A1 n1 c1)) (x y : Value) : RG ((W.setCell ⟨g, 0, none⟩ x).setCell ⟨g, 1, none⟩ y) s A n c v k :=
  ⟨X.1, X.2.1.only (Z.off X.2.1) (((Only.refl g W).setCell 0 x).setCell 1 y), X.2.2⟩
theorem RN.set2 {W : World} {g : Nat} {s0 : Bool} {A1 A : Option Addr} {n1 c1 n c V k : Nat} (X : RN W A n c V k) (Z : By W g (.bool s0) (.slice A1 n1 c1)) (x y : Value) : RN ((W.setCell ⟨g, 0, none⟩ x).setCell ⟨g, 1, none⟩ y) A n c V k :=
  ⟨X.1.only (Z.off X.1) (((Only.refl g W).setCell 0 x).setCell 1 y), X.2⟩
theorem By.other {W : World} {g k : Nat} {x y : Value} (h : By W g x y) (hne : g ≠ k) (u v : Value) : By ((W.setCell ⟨k, 0, none⟩ u).setCell ⟨k, 1, none⟩ v) g x y := by
  unfold By at h ⊢
  rw [Below.heap_setCell _ _ _ _ hne, Below.heap_setCell _ _ _ _ hne]; exact h
theorem B4.other {W : World} {g k : Nat} {x y z w : Value} (h : B4 W g x y z w) (hne : g ≠ k) (u v : Value) : B4 ((W.setCell ⟨k, 0, none⟩ u).setCell ⟨k, 1, none⟩ v) g x y z w := by
  unfold B4 at h ⊢
  rw [Below.heap_setCell _ _ _ _ hne, Below.heap_setCell _ _ _ _ hne]; exact h

theorem dm_math_s0 (s : Bool) {U V : Nat} (_hV : V ≠ 0) (_h : U % V = 0) : iv false (U / V) = (iv s U).fdiv (iv s V) := (fdiv_alike s U V).1
theorem dm_math_s1 (s : Bool) {U V : Nat} (_hV : V ≠ 0) (_h : U % V ≠ 0) : iv false (U / V) = (iv s U).fdiv (iv s V) := (fdiv_alike s U V).1
theorem dm_math_u0 (s : Bool) {U V : Nat} (hV : V ≠ 0) (h : U % V = 0) : iv true (U / V) = (iv s U).fdiv (iv (!s) V) := by
  have hd := Nat.div_add_mod U V
  exact (fdiv_unlike (s := s) (a := U) (b := V) (q := U / V) (r := U % V) (by
    rw [h, Nat.add_zero] at hd
    rw [h, Int.mul_neg, ← Int.natCast_mul, hd]; simp) (Nat.mod_lt _ (by omega))).1
theorem dm_math_u1 (s : Bool) {U V : Nat} (hV : V ≠ 0) (h : U % V ≠ 0) : iv true (U / V) - 1 = (iv s U).fdiv (iv (!s) V) := by
  have hm := Nat.mod_lt U (show V > 0 by omega)
  have hf := (fdiv_unlike (s := s) (a := U) (b := V) (q := U / V + 1) (r := V - U % V) (rest_up (Nat.div_add_mod U V) (by omega)) (by omega)).1
  rw [← hf]
  simp [iv]; omega
theorem dm_rest (v u : Int) : v - v.fdiv u * u = v.fmod u := by
  have := Int.mul_fdiv_add_fmod v u
  rw [Int.mul_comm] at this
  omega
theorem rof2_one (w : World) : Calls Tryz.prog 100 #[.int .i64 1] w (GivesRZ w 1 2) := rof2_pos 1 (by decide) w
theorem RG.more1 {w : World} {s : Bool} {A : Option Addr} {n c k : Nat} {v : Int} (h : RG w s A n c v k) : RG w s A n c v (k + 1) := ⟨h.1, h.2.more (Nat.le_succ _)⟩

set_option maxRecDepth 100000 in
set_option maxHeartbeats 2000000 in
theorem rdm2_u1 {w : World} {s : Bool} {A B : Option Addr} {n c m d k1 k2 U V : Nat} (X : RN w A n c U k1) (Y : RN w B m d V k2) (h1 : k1 ≤ 100000) (h2 : k2 ≤ 100000) (hk2 : 2 ≤ k1) (hV : V ≠ 0) (hR : U % V ≠ 0) :
    Calls Tryz.prog 99 #[.agg #[.bool s, .slice A n c], .agg #[.bool (!s), .slice B m d]] w (GivesRZZ w ((iv s U).fdiv (iv (!s) V)) ((iv s U).fmod (iv (!s) V)) (k1 + 1) (k1 + k2 + 2)) := by
  have HV := Lib.hid hV
  have HR := Lib.hid hR
  have HQ := Lib.hid (dm_math_u1 s hV hR)
  have HF := Lib.hid (dm_rest (iv s U) (iv (!s) V))
  clear hV hR
  have hne : (s != !s) = true := by cases s <;> rfl
  go_enter Tryz.func99, Tryz.ntmps99
  go_wp2_with fail
  generalize hW : ((w.alloc (Obj.cells #[Value.bool s, Value.slice A n c] 32)).alloc (Obj.cells #[Value.bool (!s), Value.slice B m d] 32)).alloc (Obj.cells #[Value.bool false, Value.slice none 0 0, Value.bool false, Value.slice none 0 0] 117) = W
  have hb : Below w.heap.size w W := by subst hW; exact (((Below.refl _ _).alloc (Nat.le_refl _) _).alloc (by simp) _).alloc (by simp; omega) _
  have XA : By W w.heap.size (.bool s) (.slice A n c) := by subst hW; exact ((By.new w _ _).alloc _).alloc _
  have XB : By W (w.heap.size + 1) (.bool (!s)) (.slice B m d) := by subst hW; exact (By.new' _ _ _ _ (by simp)).alloc _
  have T : B4 W (w.heap.size + 1 + 1) (.bool false) (.slice none 0 0) (.bool false) (.slice none 0 0) := by subst hW; exact B4.new' _ _ _ _ _ _ (by simp)
  have hzw : w.heap.size + 3 ≤ W.heap.size := by subst hW; simp
  clear hW
  replace X := X.below hb
  replace Y := Y.below hb
  have xa0 := XA.c0
  have xa1 := XA.c1
  have xb0 := XB.c0
  have xb1 := XB.c1
  go_wp2_with (first
    | (go_at_call 127; (with_reducible refine (rdm_nr X Y (by omega) (by omega) HV.out).mono ?_); rintro e w_t ⟨A_q, n_q, c_q, A_r, n_r, c_r, rfl, q, r, h0⟩
       have hnr : 0 < n_r := by
         have := r.1.1
         rw [limbs_pos B32_two HR.out] at this
         simp at this; omega
       have hnrI : (0 : Int) < (n_r : Int) := by omega
       have h9 : Below w_t.heap.size w_t (w_t.alloc (.cells #[.slice A_q n_q c_q, .slice A_r n_r c_r] 159)) := (Below.refl _ _).alloc (Nat.le_refl _) _
       replace q := q.below h9
       replace r := r.below h9
       have hz1 : W.heap.size ≤ w_t.heap.size := h0.size
       have hh := bend h0 h9
       clear h0 h9
       try replace X := X.below hh
       try replace Y := Y.below hh
       try replace qg := qg.below hh
       try replace XA := XA.below hh
       try replace XB := XB.below hh
       try replace T := T.below hh
       try replace QB := QB.below hh
       replace hb := bend hb hh
       have VT : Vow 159 (w_t.alloc (.cells #[.slice A_q n_q c_q, .slice A_r n_r c_r] 159)) w_t.heap.size [.slice A_q n_q c_q, .slice A_r n_r c_r] := heap_alloc_new w_t _
       have v0 := VT.cell (i := 0) rfl
       have v1 := VT.cell (i := 1) rfl
       have xa0 := XA.c0
       have xa1 := XA.c1
       have xb0 := XB.c0
       have xb1 := XB.c1)
    | (go_at_call 97; (with_reducible refine (made_any true A_q n_q c_q _).mono ?_); rintro e w_m ⟨rfl, h0⟩
       have qg := RG.of_made (s := _) (neg := true) (q.below h0) rfl
       generalize (true && decide (0 < n_q)) = sq at qg ⊢
       have h9 : Below w_m.heap.size w_m (w_m.alloc (.cells #[.bool sq, .slice A_q n_q c_q] 32)) := (Below.refl _ _).alloc (Nat.le_refl _) _
       replace qg := qg.below h9
       have v1 : (w_m.alloc (.cells #[.bool sq, .slice A_q n_q c_q] 32)).cell? ⟨w_t.heap.size, 1, none⟩ = some (.slice A_r n_r c_r) := ((bend h0 h9).cell (p := ⟨w_t.heap.size, 1, none⟩) (by simp)).trans v1
       have hz2 : w_t.heap.size + 1 ≤ w_m.heap.size := by (have := h0.size; simpa using this)
       have hh := bend h0 h9
       clear h0 h9
       try replace X := X.below hh
       try replace Y := Y.below hh
       try replace q := q.below hh
       try replace r := r.below hh
       try replace XA := XA.below hh
       try replace XB := XB.below hh
       try replace T := T.below hh
       try replace QB := QB.below hh
       replace hb := bend hb hh
       have QB : By (w_m.alloc (.cells #[.bool sq, .slice A_q n_q c_q] 32)) w_m.heap.size (.bool sq) (.slice A_q n_q c_q) := By.new w_m _ _
       have xa0 := XA.c0
       have xa1 := XA.c1
       have xb0 := XB.c0
       have xb1 := XB.c1))
  have hgq : w.heap.size + 3 ≤ w_m.heap.size := by omega
  generalize hW4 : w_m.alloc (Obj.cells #[Value.bool sq, Value.slice A_q n_q c_q] 32) = W4 at X Y qg XA XB T QB hb ⊢
  clear hW4
  generalize w_m.heap.size = gq at QB hgq ⊢
  replace X := X.below (Below.refl _ _).drew
  replace Y := Y.below (Below.refl _ _).drew
  replace qg := qg.below (Below.refl _ _).drew
  replace XA := XA.below (Below.refl _ _).drew
  replace XB := XB.below (Below.refl _ _).drew
  replace T := T.below (Below.refl _ _).drew
  replace QB := QB.below (Below.refl _ _).drew
  replace hb := hb.drew
  have q0 := QB.c0
  have q1 := QB.c1
  go_region_with (first
    | (go_at_call 100; (with_reducible refine (rof2_one _).mono ?_); rintro e w_o ⟨s_o, A_o, n_o, c_o, rfl, o, hh⟩
       try replace X := X.below hh
       try replace Y := Y.below hh
       try replace qg := qg.below hh
       try replace XA := XA.below hh
       try replace XB := XB.below hh
       try replace T := T.below hh
       try replace QB := QB.below hh
       try replace p := p.below hh
       try replace mm := mm.below hh
       try replace f := f.below hh
       replace hb := bend hb hh
       have q0 := QB.c0
       have q1 := QB.c1)
    | (go_at_call 135; (with_reducible refine (rsub2 (k1 + 1) qg.rz o.rz (by omega) (by omega) (by omega)).mono ?_); rintro e w_p ⟨s_p, A_p, n_p, c_p, rfl, p, hh⟩
       try replace X := X.below hh
       try replace Y := Y.below hh
       try replace qg := qg.below hh
       try replace XA := XA.below hh
       try replace XB := XB.below hh
       try replace T := T.below hh
       try replace QB := QB.below hh
       try replace o := o.below hh
       try replace mm := mm.below hh
       try replace f := f.below hh
       replace hb := bend hb hh
       rw [HQ.out] at p
       have r0 := QB.c0
       have r1 := QB.c1
       have r2 := QB.f0
       have r3 := QB.f1))
  all_goals
    replace X := X.set2 QB (.bool s_p) (.slice A_p n_p c_p)
    replace Y := Y.set2 QB (.bool s_p) (.slice A_p n_p c_p)
    replace p := p.set2 QB (.bool s_p) (.slice A_p n_p c_p)
    replace XA := XA.other (k := gq) (by omega) (.bool s_p) (.slice A_p n_p c_p)
    replace XB := XB.other (k := gq) (by omega) (.bool s_p) (.slice A_p n_p c_p)
    replace T := T.other (k := gq) (by omega) (.bool s_p) (.slice A_p n_p c_p)
    replace hb := below_set2 hb (show w.heap.size ≤ gq by omega) (.bool s_p) (.slice A_p n_p c_p)
    replace QB := QB.set2 (.bool s_p) (.slice A_p n_p c_p)
    generalize (w_p.setCell ⟨gq, 0, none⟩ (Value.bool s_p)).setCell ⟨gq, 1, none⟩ (Value.slice A_p n_p c_p) = W5 at X Y p XA XB T QB hb ⊢
    go_wp2_with fail
    replace X := X.below (Below.refl _ _).drew
    replace Y := Y.below (Below.refl _ _).drew
    replace p := p.below (Below.refl _ _).drew
    replace XA := XA.below (Below.refl _ _).drew
    replace XB := XB.below (Below.refl _ _).drew
    replace T := T.below (Below.refl _ _).drew
    replace QB := QB.below (Below.refl _ _).drew
    replace hb := hb.drew
    have Xz : RZ _ s A n c (iv s U) k1 := ⟨U, X, rfl⟩
    have Yz : RZ _ (!s) B m d (iv (!s) V) k2 := ⟨V, Y, rfl⟩
    go_region_held3 (fun w' => w'.cell? ⟨gq, 0, none⟩ = some (Value.bool s_p) ∧ w'.cell? ⟨gq, 1, none⟩ = some (Value.slice A_p n_p c_p) ∧ w'.cell? ⟨w.heap.size, 0, none⟩ = some (Value.bool s) ∧ w'.cell? ⟨w.heap.size, 1, none⟩ = some (Value.slice A n c) ∧ w'.cell? ⟨w.heap.size + 1, 0, none⟩ = some (Value.bool (!s)) ∧ w'.cell? ⟨w.heap.size + 1, 1, none⟩ = some (Value.slice B m d))
      (first | with_reducible exact ⟨QB.c0, QB.c1, XA.c0, XA.c1, XB.c0, XB.c1⟩ | with_reducible exact ⟨(set4_cell _ _ _ _ _ _ _ _ (by omega)).trans QB.c0, (set4_cell _ _ _ _ _ _ _ _ (by omega)).trans QB.c1, (set4_cell _ _ _ _ _ _ _ _ (by omega)).trans XA.c0, (set4_cell _ _ _ _ _ _ _ _ (by omega)).trans XA.c1, (set4_cell _ _ _ _ _ _ _ _ (by omega)).trans XB.c0, (set4_cell _ _ _ _ _ _ _ _ (by omega)).trans XB.c1⟩)
      (first
      | (go_at_call 76; (with_reducible refine (rmul2 p.rz Yz (by omega) (by omega)).mono ?_); rintro e w_m ⟨s_m, A_m, n_m, c_m, rfl, mm, hh⟩
         try replace X := X.below hh
         try replace Y := Y.below hh
         try replace qg := qg.below hh
         try replace XA := XA.below hh
         try replace XB := XB.below hh
         try replace T := T.below hh
         try replace QB := QB.below hh
         try replace o := o.below hh
         try replace p := p.below hh
         try replace f := f.below hh
         replace hb := bend hb hh
         replace Xz := Xz.below hh)
      | (go_at_call 135; (with_reducible refine (rsub2 (k1 + k2 + 2) Xz mm.rz (by omega) (by omega) (by omega)).mono ?_); rintro e w_f ⟨s_f, A_f, n_f, c_f, rfl, f, hh⟩
         try replace X := X.below hh
         try replace Y := Y.below hh
         try replace qg := qg.below hh
         try replace XA := XA.below hh
         try replace XB := XB.below hh
         try replace T := T.below hh
         try replace QB := QB.below hh
         try replace o := o.below hh
         try replace p := p.below hh
         try replace mm := mm.below hh
         replace hb := bend hb hh
         rw [HF.out] at f
         have r0 := T.c0
         have s0 := T.f 0
         have r1 := T.c1
         have s1 := T.f 1
         have r2 := T.c2
         have s2 := T.f 2
         have r3 := T.c3
         have s3 := T.f 3))
    go_wp2
    have G := T.set4 (.bool s_p) (.slice A_p n_p c_p) (.bool s_f) (.slice A_f n_f c_f)
    have g0 := G.c0
    have g1 := G.c1
    have g2 := G.c2
    have g3 := G.c3
    refine bodyPost_ret (v := .agg #[.bool s_p, .slice A_p n_p c_p, .bool s_f, .slice A_f n_f c_f]) (by simp [results, Tryz.results99, go_sem, g0, g1, g2, g3]) rfl ?_
    exact ⟨_, _, _, _, _, _, _, _, rfl, close4 T p _ _ _ _, close4 T f _ _ _ _, below_set4 hb (by omega) _ _ _ _⟩

set_option maxRecDepth 100000 in
set_option maxHeartbeats 2000000 in
theorem rdm2_u0 {w : World} {s : Bool} {A B : Option Addr} {n c m d k1 k2 U V : Nat} (X : RN w A n c U k1) (Y : RN w B m d V k2) (h1 : k1 ≤ 100000) (h2 : k2 ≤ 100000) (hk2 : 2 ≤ k1) (hV : V ≠ 0) (hR : U % V = 0) :
    Calls Tryz.prog 99 #[.agg #[.bool s, .slice A n c], .agg #[.bool (!s), .slice B m d]] w (GivesRZZ w ((iv s U).fdiv (iv (!s) V)) ((iv s U).fmod (iv (!s) V)) (k1 + 1) (k1 + k2 + 2)) := by
  have HV := Lib.hid hV
  have HR := Lib.hid hR
  have HQ := Lib.hid (dm_math_u0 s hV hR)
  have HF := Lib.hid (dm_rest (iv s U) (iv (!s) V))
  clear hV hR
  have hne : (s != !s) = true := by cases s <;> rfl
  go_enter Tryz.func99, Tryz.ntmps99
  go_wp2_with fail
  generalize hW : ((w.alloc (Obj.cells #[Value.bool s, Value.slice A n c] 32)).alloc (Obj.cells #[Value.bool (!s), Value.slice B m d] 32)).alloc (Obj.cells #[Value.bool false, Value.slice none 0 0, Value.bool false, Value.slice none 0 0] 117) = W
  have hb : Below w.heap.size w W := by subst hW; exact (((Below.refl _ _).alloc (Nat.le_refl _) _).alloc (by simp) _).alloc (by simp; omega) _
  have XA : By W w.heap.size (.bool s) (.slice A n c) := by subst hW; exact ((By.new w _ _).alloc _).alloc _
  have XB : By W (w.heap.size + 1) (.bool (!s)) (.slice B m d) := by subst hW; exact (By.new' _ _ _ _ (by simp)).alloc _
  have T : B4 W (w.heap.size + 1 + 1) (.bool false) (.slice none 0 0) (.bool false) (.slice none 0 0) := by subst hW; exact B4.new' _ _ _ _ _ _ (by simp)
  have hzw : w.heap.size + 3 ≤ W.heap.size := by subst hW; simp
  clear hW
  replace X := X.below hb
  replace Y := Y.below hb
  have xa0 := XA.c0
  have xa1 := XA.c1
  have xb0 := XB.c0
  have xb1 := XB.c1
  go_wp2_with (first
    | (go_at_call 127; (with_reducible refine (rdm_nr X Y (by omega) (by omega) HV.out).mono ?_); rintro e w_t ⟨A_q, n_q, c_q, A_r, n_r, c_r, rfl, q, r, h0⟩
       obtain rfl : n_r = 0 := by (have := r.1.1; rw [HR.out, limbs_zero] at this; exact this.symm)
       have h9 : Below w_t.heap.size w_t (w_t.alloc (.cells #[.slice A_q n_q c_q, .slice A_r 0 c_r] 159)) := (Below.refl _ _).alloc (Nat.le_refl _) _
       replace q := q.below h9
       replace r := r.below h9
       have hz1 : W.heap.size ≤ w_t.heap.size := h0.size
       have hh := bend h0 h9
       clear h0 h9
       try replace X := X.below hh
       try replace Y := Y.below hh
       try replace qg := qg.below hh
       try replace XA := XA.below hh
       try replace XB := XB.below hh
       try replace T := T.below hh
       try replace QB := QB.below hh
       replace hb := bend hb hh
       have VT : Vow 159 (w_t.alloc (.cells #[.slice A_q n_q c_q, .slice A_r 0 c_r] 159)) w_t.heap.size [.slice A_q n_q c_q, .slice A_r 0 c_r] := heap_alloc_new w_t _
       have v0 := VT.cell (i := 0) rfl
       have v1 := VT.cell (i := 1) rfl
       have xa0 := XA.c0
       have xa1 := XA.c1
       have xb0 := XB.c0
       have xb1 := XB.c1)
    | (go_at_call 97; (with_reducible refine (made_any true A_q n_q c_q _).mono ?_); rintro e w_m ⟨rfl, h0⟩
       have qg := RG.of_made (s := _) (neg := true) (q.below h0) rfl
       generalize (true && decide (0 < n_q)) = sq at qg ⊢
       have h9 : Below w_m.heap.size w_m (w_m.alloc (.cells #[.bool sq, .slice A_q n_q c_q] 32)) := (Below.refl _ _).alloc (Nat.le_refl _) _
       replace qg := qg.below h9
       have v1 : (w_m.alloc (.cells #[.bool sq, .slice A_q n_q c_q] 32)).cell? ⟨w_t.heap.size, 1, none⟩ = some (.slice A_r 0 c_r) := ((bend h0 h9).cell (p := ⟨w_t.heap.size, 1, none⟩) (by simp)).trans v1
       have hz2 : w_t.heap.size + 1 ≤ w_m.heap.size := by (have := h0.size; simpa using this)
       have hh := bend h0 h9
       clear h0 h9
       try replace X := X.below hh
       try replace Y := Y.below hh
       try replace q := q.below hh
       try replace r := r.below hh
       try replace XA := XA.below hh
       try replace XB := XB.below hh
       try replace T := T.below hh
       try replace QB := QB.below hh
       replace hb := bend hb hh
       have QB : By (w_m.alloc (.cells #[.bool sq, .slice A_q n_q c_q] 32)) w_m.heap.size (.bool sq) (.slice A_q n_q c_q) := By.new w_m _ _
       have xa0 := XA.c0
       have xa1 := XA.c1
       have xb0 := XB.c0
       have xb1 := XB.c1))
  have hgq : w.heap.size + 3 ≤ w_m.heap.size := by omega
  generalize hW4 : w_m.alloc (Obj.cells #[Value.bool sq, Value.slice A_q n_q c_q] 32) = W4 at X Y qg XA XB T QB hb ⊢
  clear hW4
  generalize w_m.heap.size = gq at QB hgq ⊢
  rw [HQ.out] at qg
  have p := qg.more1
  replace X := X.below (Below.refl _ _).drew
  replace Y := Y.below (Below.refl _ _).drew
  replace p := p.below (Below.refl _ _).drew
  replace XA := XA.below (Below.refl _ _).drew
  replace XB := XB.below (Below.refl _ _).drew
  replace T := T.below (Below.refl _ _).drew
  replace QB := QB.below (Below.refl _ _).drew
  replace hb := hb.drew
  have Xz : RZ _ s A n c (iv s U) k1 := ⟨U, X, rfl⟩
  have Yz : RZ _ (!s) B m d (iv (!s) V) k2 := ⟨V, Y, rfl⟩
  go_region_held3 (fun w' => w'.cell? ⟨gq, 0, none⟩ = some (Value.bool sq) ∧ w'.cell? ⟨gq, 1, none⟩ = some (Value.slice A_q n_q c_q) ∧ w'.cell? ⟨w.heap.size, 0, none⟩ = some (Value.bool s) ∧ w'.cell? ⟨w.heap.size, 1, none⟩ = some (Value.slice A n c) ∧ w'.cell? ⟨w.heap.size + 1, 0, none⟩ = some (Value.bool (!s)) ∧ w'.cell? ⟨w.heap.size + 1, 1, none⟩ = some (Value.slice B m d))
    (first | with_reducible exact ⟨QB.c0, QB.c1, XA.c0, XA.c1, XB.c0, XB.c1⟩ | with_reducible exact ⟨(set4_cell _ _ _ _ _ _ _ _ (by omega)).trans QB.c0, (set4_cell _ _ _ _ _ _ _ _ (by omega)).trans QB.c1, (set4_cell _ _ _ _ _ _ _ _ (by omega)).trans XA.c0, (set4_cell _ _ _ _ _ _ _ _ (by omega)).trans XA.c1, (set4_cell _ _ _ _ _ _ _ _ (by omega)).trans XB.c0, (set4_cell _ _ _ _ _ _ _ _ (by omega)).trans XB.c1⟩)
    (first
    | (go_at_call 76; (with_reducible refine (rmul2 p.rz Yz (by omega) (by omega)).mono ?_); rintro e w_m ⟨s_m, A_m, n_m, c_m, rfl, mm, hh⟩
       try replace X := X.below hh
       try replace Y := Y.below hh
       try replace qg := qg.below hh
       try replace XA := XA.below hh
       try replace XB := XB.below hh
       try replace T := T.below hh
       try replace QB := QB.below hh
       try replace o := o.below hh
       try replace p := p.below hh
       try replace f := f.below hh
       replace hb := bend hb hh
       replace Xz := Xz.below hh)
    | (go_at_call 135; (with_reducible refine (rsub2 (k1 + k2 + 2) Xz mm.rz (by omega) (by omega) (by omega)).mono ?_); rintro e w_f ⟨s_f, A_f, n_f, c_f, rfl, f, hh⟩
       try replace X := X.below hh
       try replace Y := Y.below hh
       try replace qg := qg.below hh
       try replace XA := XA.below hh
       try replace XB := XB.below hh
       try replace T := T.below hh
       try replace QB := QB.below hh
       try replace o := o.below hh
       try replace p := p.below hh
       try replace mm := mm.below hh
       replace hb := bend hb hh
       rw [HF.out] at f
       have r0 := T.c0
       have s0 := T.f 0
       have r1 := T.c1
       have s1 := T.f 1
       have r2 := T.c2
       have s2 := T.f 2
       have r3 := T.c3
       have s3 := T.f 3))
  go_wp2
  have G := T.set4 (.bool sq) (.slice A_q n_q c_q) (.bool s_f) (.slice A_f n_f c_f)
  have g0 := G.c0
  have g1 := G.c1
  have g2 := G.c2
  have g3 := G.c3
  refine bodyPost_ret (v := .agg #[.bool sq, .slice A_q n_q c_q, .bool s_f, .slice A_f n_f c_f]) (by simp [results, Tryz.results99, go_sem, g0, g1, g2, g3]) rfl ?_
  exact ⟨_, _, _, _, _, _, _, _, rfl, close4 T p _ _ _ _, close4 T f _ _ _ _, below_set4 hb (by omega) _ _ _ _⟩

set_option maxRecDepth 100000 in
set_option maxHeartbeats 2000000 in
theorem rdm2_s0 {w : World} {s : Bool} {A B : Option Addr} {n c m d k1 k2 U V : Nat} (X : RN w A n c U k1) (Y : RN w B m d V k2) (h1 : k1 ≤ 100000) (h2 : k2 ≤ 100000) (hk2 : 2 ≤ k1) (hV : V ≠ 0) (hR : U % V = 0) :
    Calls Tryz.prog 99 #[.agg #[.bool s, .slice A n c], .agg #[.bool (s), .slice B m d]] w (GivesRZZ w ((iv s U).fdiv (iv (s) V)) ((iv s U).fmod (iv (s) V)) (k1 + 1) (k1 + k2 + 2)) := by
  have HV := Lib.hid hV
  have HR := Lib.hid hR
  have HQ := Lib.hid (dm_math_s0 s hV hR)
  have HF := Lib.hid (dm_rest (iv s U) (iv (s) V))
  clear hV hR
  have hne : (s != s) = false := by cases s <;> rfl
  go_enter Tryz.func99, Tryz.ntmps99
  go_wp2_with fail
  generalize hW : ((w.alloc (Obj.cells #[Value.bool s, Value.slice A n c] 32)).alloc (Obj.cells #[Value.bool (s), Value.slice B m d] 32)).alloc (Obj.cells #[Value.bool false, Value.slice none 0 0, Value.bool false, Value.slice none 0 0] 117) = W
  have hb : Below w.heap.size w W := by subst hW; exact (((Below.refl _ _).alloc (Nat.le_refl _) _).alloc (by simp) _).alloc (by simp; omega) _
  have XA : By W w.heap.size (.bool s) (.slice A n c) := by subst hW; exact ((By.new w _ _).alloc _).alloc _
  have XB : By W (w.heap.size + 1) (.bool (s)) (.slice B m d) := by subst hW; exact (By.new' _ _ _ _ (by simp)).alloc _
  have T : B4 W (w.heap.size + 1 + 1) (.bool false) (.slice none 0 0) (.bool false) (.slice none 0 0) := by subst hW; exact B4.new' _ _ _ _ _ _ (by simp)
  have hzw : w.heap.size + 3 ≤ W.heap.size := by subst hW; simp
  clear hW
  replace X := X.below hb
  replace Y := Y.below hb
  have xa0 := XA.c0
  have xa1 := XA.c1
  have xb0 := XB.c0
  have xb1 := XB.c1
  go_wp2_with (first
    | (go_at_call 127; (with_reducible refine (rdm_nr X Y (by omega) (by omega) HV.out).mono ?_); rintro e w_t ⟨A_q, n_q, c_q, A_r, n_r, c_r, rfl, q, r, h0⟩
       obtain rfl : n_r = 0 := by (have := r.1.1; rw [HR.out, limbs_zero] at this; exact this.symm)
       have h9 : Below w_t.heap.size w_t (w_t.alloc (.cells #[.slice A_q n_q c_q, .slice A_r 0 c_r] 159)) := (Below.refl _ _).alloc (Nat.le_refl _) _
       replace q := q.below h9
       replace r := r.below h9
       have hz1 : W.heap.size ≤ w_t.heap.size := h0.size
       have hh := bend h0 h9
       clear h0 h9
       try replace X := X.below hh
       try replace Y := Y.below hh
       try replace qg := qg.below hh
       try replace XA := XA.below hh
       try replace XB := XB.below hh
       try replace T := T.below hh
       try replace QB := QB.below hh
       replace hb := bend hb hh
       have VT : Vow 159 (w_t.alloc (.cells #[.slice A_q n_q c_q, .slice A_r 0 c_r] 159)) w_t.heap.size [.slice A_q n_q c_q, .slice A_r 0 c_r] := heap_alloc_new w_t _
       have v0 := VT.cell (i := 0) rfl
       have v1 := VT.cell (i := 1) rfl
       have xa0 := XA.c0
       have xa1 := XA.c1
       have xb0 := XB.c0
       have xb1 := XB.c1)
    | (go_at_call 97; (with_reducible refine (made_any false A_q n_q c_q _).mono ?_); rintro e w_m ⟨rfl, h0⟩
       have qg := RG.of_made (s := _) (neg := false) (q.below h0) rfl
       generalize (false && decide (0 < n_q)) = sq at qg ⊢
       have h9 : Below w_m.heap.size w_m (w_m.alloc (.cells #[.bool sq, .slice A_q n_q c_q] 32)) := (Below.refl _ _).alloc (Nat.le_refl _) _
       replace qg := qg.below h9
       have v1 : (w_m.alloc (.cells #[.bool sq, .slice A_q n_q c_q] 32)).cell? ⟨w_t.heap.size, 1, none⟩ = some (.slice A_r 0 c_r) := ((bend h0 h9).cell (p := ⟨w_t.heap.size, 1, none⟩) (by simp)).trans v1
       have hz2 : w_t.heap.size + 1 ≤ w_m.heap.size := by (have := h0.size; simpa using this)
       have hh := bend h0 h9
       clear h0 h9
       try replace X := X.below hh
       try replace Y := Y.below hh
       try replace q := q.below hh
       try replace r := r.below hh
       try replace XA := XA.below hh
       try replace XB := XB.below hh
       try replace T := T.below hh
       try replace QB := QB.below hh
       replace hb := bend hb hh
       have QB : By (w_m.alloc (.cells #[.bool sq, .slice A_q n_q c_q] 32)) w_m.heap.size (.bool sq) (.slice A_q n_q c_q) := By.new w_m _ _
       have xa0 := XA.c0
       have xa1 := XA.c1
       have xb0 := XB.c0
       have xb1 := XB.c1))
  have hgq : w.heap.size + 3 ≤ w_m.heap.size := by omega
  generalize hW4 : w_m.alloc (Obj.cells #[Value.bool sq, Value.slice A_q n_q c_q] 32) = W4 at X Y qg XA XB T QB hb ⊢
  clear hW4
  generalize w_m.heap.size = gq at QB hgq ⊢
  rw [HQ.out] at qg
  have p := qg.more1
  replace X := X.below (Below.refl _ _).drew
  replace Y := Y.below (Below.refl _ _).drew
  replace p := p.below (Below.refl _ _).drew
  replace XA := XA.below (Below.refl _ _).drew
  replace XB := XB.below (Below.refl _ _).drew
  replace T := T.below (Below.refl _ _).drew
  replace QB := QB.below (Below.refl _ _).drew
  replace hb := hb.drew
  have Xz : RZ _ s A n c (iv s U) k1 := ⟨U, X, rfl⟩
  have Yz : RZ _ (s) B m d (iv (s) V) k2 := ⟨V, Y, rfl⟩
  go_region_held3 (fun w' => w'.cell? ⟨gq, 0, none⟩ = some (Value.bool sq) ∧ w'.cell? ⟨gq, 1, none⟩ = some (Value.slice A_q n_q c_q) ∧ w'.cell? ⟨w.heap.size, 0, none⟩ = some (Value.bool s) ∧ w'.cell? ⟨w.heap.size, 1, none⟩ = some (Value.slice A n c) ∧ w'.cell? ⟨w.heap.size + 1, 0, none⟩ = some (Value.bool (s)) ∧ w'.cell? ⟨w.heap.size + 1, 1, none⟩ = some (Value.slice B m d))
    (first | with_reducible exact ⟨QB.c0, QB.c1, XA.c0, XA.c1, XB.c0, XB.c1⟩ | with_reducible exact ⟨(set4_cell _ _ _ _ _ _ _ _ (by omega)).trans QB.c0, (set4_cell _ _ _ _ _ _ _ _ (by omega)).trans QB.c1, (set4_cell _ _ _ _ _ _ _ _ (by omega)).trans XA.c0, (set4_cell _ _ _ _ _ _ _ _ (by omega)).trans XA.c1, (set4_cell _ _ _ _ _ _ _ _ (by omega)).trans XB.c0, (set4_cell _ _ _ _ _ _ _ _ (by omega)).trans XB.c1⟩)
    (first
    | (go_at_call 76; (with_reducible refine (rmul2 p.rz Yz (by omega) (by omega)).mono ?_); rintro e w_m ⟨s_m, A_m, n_m, c_m, rfl, mm, hh⟩
       try replace X := X.below hh
       try replace Y := Y.below hh
       try replace qg := qg.below hh
       try replace XA := XA.below hh
       try replace XB := XB.below hh
       try replace T := T.below hh
       try replace QB := QB.below hh
       try replace o := o.below hh
       try replace p := p.below hh
       try replace f := f.below hh
       replace hb := bend hb hh
       replace Xz := Xz.below hh)
    | (go_at_call 135; (with_reducible refine (rsub2 (k1 + k2 + 2) Xz mm.rz (by omega) (by omega) (by omega)).mono ?_); rintro e w_f ⟨s_f, A_f, n_f, c_f, rfl, f, hh⟩
       try replace X := X.below hh
       try replace Y := Y.below hh
       try replace qg := qg.below hh
       try replace XA := XA.below hh
       try replace XB := XB.below hh
       try replace T := T.below hh
       try replace QB := QB.below hh
       try replace o := o.below hh
       try replace p := p.below hh
       try replace mm := mm.below hh
       replace hb := bend hb hh
       rw [HF.out] at f
       have r0 := T.c0
       have s0 := T.f 0
       have r1 := T.c1
       have s1 := T.f 1
       have r2 := T.c2
       have s2 := T.f 2
       have r3 := T.c3
       have s3 := T.f 3))
  go_wp2
  have G := T.set4 (.bool sq) (.slice A_q n_q c_q) (.bool s_f) (.slice A_f n_f c_f)
  have g0 := G.c0
  have g1 := G.c1
  have g2 := G.c2
  have g3 := G.c3
  refine bodyPost_ret (v := .agg #[.bool sq, .slice A_q n_q c_q, .bool s_f, .slice A_f n_f c_f]) (by simp [results, Tryz.results99, go_sem, g0, g1, g2, g3]) rfl ?_
  exact ⟨_, _, _, _, _, _, _, _, rfl, close4 T p _ _ _ _, close4 T f _ _ _ _, below_set4 hb (by omega) _ _ _ _⟩

set_option maxRecDepth 100000 in
set_option maxHeartbeats 2000000 in
theorem rdm2_s1 {w : World} {s : Bool} {A B : Option Addr} {n c m d k1 k2 U V : Nat} (X : RN w A n c U k1) (Y : RN w B m d V k2) (h1 : k1 ≤ 100000) (h2 : k2 ≤ 100000) (hk2 : 2 ≤ k1) (hV : V ≠ 0) (hR : U % V ≠ 0) :
    Calls Tryz.prog 99 #[.agg #[.bool s, .slice A n c], .agg #[.bool (s), .slice B m d]] w (GivesRZZ w ((iv s U).fdiv (iv (s) V)) ((iv s U).fmod (iv (s) V)) (k1 + 1) (k1 + k2 + 2)) := by
  have HV := Lib.hid hV
  have HR := Lib.hid hR
  have HQ := Lib.hid (dm_math_s1 s hV hR)
  have HF := Lib.hid (dm_rest (iv s U) (iv (s) V))
  clear hV hR
  have hne : (s != s) = false := by cases s <;> rfl
  go_enter Tryz.func99, Tryz.ntmps99
  go_wp2_with fail
  generalize hW : ((w.alloc (Obj.cells #[Value.bool s, Value.slice A n c] 32)).alloc (Obj.cells #[Value.bool (s), Value.slice B m d] 32)).alloc (Obj.cells #[Value.bool false, Value.slice none 0 0, Value.bool false, Value.slice none 0 0] 117) = W
  have hb : Below w.heap.size w W := by subst hW; exact (((Below.refl _ _).alloc (Nat.le_refl _) _).alloc (by simp) _).alloc (by simp; omega) _
  have XA : By W w.heap.size (.bool s) (.slice A n c) := by subst hW; exact ((By.new w _ _).alloc _).alloc _
  have XB : By W (w.heap.size + 1) (.bool (s)) (.slice B m d) := by subst hW; exact (By.new' _ _ _ _ (by simp)).alloc _
  have T : B4 W (w.heap.size + 1 + 1) (.bool false) (.slice none 0 0) (.bool false) (.slice none 0 0) := by subst hW; exact B4.new' _ _ _ _ _ _ (by simp)
  have hzw : w.heap.size + 3 ≤ W.heap.size := by subst hW; simp
  clear hW
  replace X := X.below hb
  replace Y := Y.below hb
  have xa0 := XA.c0
  have xa1 := XA.c1
  have xb0 := XB.c0
  have xb1 := XB.c1
  go_wp2_with (first
    | (go_at_call 127; (with_reducible refine (rdm_nr X Y (by omega) (by omega) HV.out).mono ?_); rintro e w_t ⟨A_q, n_q, c_q, A_r, n_r, c_r, rfl, q, r, h0⟩
       have hnr : 0 < n_r := by
         have := r.1.1
         rw [limbs_pos B32_two HR.out] at this
         simp at this; omega
       have hnrI : (0 : Int) < (n_r : Int) := by omega
       have h9 : Below w_t.heap.size w_t (w_t.alloc (.cells #[.slice A_q n_q c_q, .slice A_r n_r c_r] 159)) := (Below.refl _ _).alloc (Nat.le_refl _) _
       replace q := q.below h9
       replace r := r.below h9
       have hz1 : W.heap.size ≤ w_t.heap.size := h0.size
       have hh := bend h0 h9
       clear h0 h9
       try replace X := X.below hh
       try replace Y := Y.below hh
       try replace qg := qg.below hh
       try replace XA := XA.below hh
       try replace XB := XB.below hh
       try replace T := T.below hh
       try replace QB := QB.below hh
       replace hb := bend hb hh
       have VT : Vow 159 (w_t.alloc (.cells #[.slice A_q n_q c_q, .slice A_r n_r c_r] 159)) w_t.heap.size [.slice A_q n_q c_q, .slice A_r n_r c_r] := heap_alloc_new w_t _
       have v0 := VT.cell (i := 0) rfl
       have v1 := VT.cell (i := 1) rfl
       have xa0 := XA.c0
       have xa1 := XA.c1
       have xb0 := XB.c0
       have xb1 := XB.c1)
    | (go_at_call 97; (with_reducible refine (made_any false A_q n_q c_q _).mono ?_); rintro e w_m ⟨rfl, h0⟩
       have qg := RG.of_made (s := _) (neg := false) (q.below h0) rfl
       generalize (false && decide (0 < n_q)) = sq at qg ⊢
       have h9 : Below w_m.heap.size w_m (w_m.alloc (.cells #[.bool sq, .slice A_q n_q c_q] 32)) := (Below.refl _ _).alloc (Nat.le_refl _) _
       replace qg := qg.below h9
       have v1 : (w_m.alloc (.cells #[.bool sq, .slice A_q n_q c_q] 32)).cell? ⟨w_t.heap.size, 1, none⟩ = some (.slice A_r n_r c_r) := ((bend h0 h9).cell (p := ⟨w_t.heap.size, 1, none⟩) (by simp)).trans v1
       have hz2 : w_t.heap.size + 1 ≤ w_m.heap.size := by (have := h0.size; simpa using this)
       have hh := bend h0 h9
       clear h0 h9
       try replace X := X.below hh
       try replace Y := Y.below hh
       try replace q := q.below hh
       try replace r := r.below hh
       try replace XA := XA.below hh
       try replace XB := XB.below hh
       try replace T := T.below hh
       try replace QB := QB.below hh
       replace hb := bend hb hh
       have QB : By (w_m.alloc (.cells #[.bool sq, .slice A_q n_q c_q] 32)) w_m.heap.size (.bool sq) (.slice A_q n_q c_q) := By.new w_m _ _
       have xa0 := XA.c0
       have xa1 := XA.c1
       have xb0 := XB.c0
       have xb1 := XB.c1))
  have hgq : w.heap.size + 3 ≤ w_m.heap.size := by omega
  generalize hW4 : w_m.alloc (Obj.cells #[Value.bool sq, Value.slice A_q n_q c_q] 32) = W4 at X Y qg XA XB T QB hb ⊢
  clear hW4
  generalize w_m.heap.size = gq at QB hgq ⊢
  rw [HQ.out] at qg
  have p := qg.more1
  replace X := X.below (Below.refl _ _).drew
  replace Y := Y.below (Below.refl _ _).drew
  replace p := p.below (Below.refl _ _).drew
  replace XA := XA.below (Below.refl _ _).drew
  replace XB := XB.below (Below.refl _ _).drew
  replace T := T.below (Below.refl _ _).drew
  replace QB := QB.below (Below.refl _ _).drew
  replace hb := hb.drew
  have Xz : RZ _ s A n c (iv s U) k1 := ⟨U, X, rfl⟩
  have Yz : RZ _ (s) B m d (iv (s) V) k2 := ⟨V, Y, rfl⟩
  go_region_held3 (fun w' => w'.cell? ⟨gq, 0, none⟩ = some (Value.bool sq) ∧ w'.cell? ⟨gq, 1, none⟩ = some (Value.slice A_q n_q c_q) ∧ w'.cell? ⟨w.heap.size, 0, none⟩ = some (Value.bool s) ∧ w'.cell? ⟨w.heap.size, 1, none⟩ = some (Value.slice A n c) ∧ w'.cell? ⟨w.heap.size + 1, 0, none⟩ = some (Value.bool (s)) ∧ w'.cell? ⟨w.heap.size + 1, 1, none⟩ = some (Value.slice B m d))
    (first | with_reducible exact ⟨QB.c0, QB.c1, XA.c0, XA.c1, XB.c0, XB.c1⟩ | with_reducible exact ⟨(set4_cell _ _ _ _ _ _ _ _ (by omega)).trans QB.c0, (set4_cell _ _ _ _ _ _ _ _ (by omega)).trans QB.c1, (set4_cell _ _ _ _ _ _ _ _ (by omega)).trans XA.c0, (set4_cell _ _ _ _ _ _ _ _ (by omega)).trans XA.c1, (set4_cell _ _ _ _ _ _ _ _ (by omega)).trans XB.c0, (set4_cell _ _ _ _ _ _ _ _ (by omega)).trans XB.c1⟩)
    (first
    | (go_at_call 76; (with_reducible refine (rmul2 p.rz Yz (by omega) (by omega)).mono ?_); rintro e w_m ⟨s_m, A_m, n_m, c_m, rfl, mm, hh⟩
       try replace X := X.below hh
       try replace Y := Y.below hh
       try replace qg := qg.below hh
       try replace XA := XA.below hh
       try replace XB := XB.below hh
       try replace T := T.below hh
       try replace QB := QB.below hh
       try replace o := o.below hh
       try replace p := p.below hh
       try replace f := f.below hh
       replace hb := bend hb hh
       replace Xz := Xz.below hh)
    | (go_at_call 135; (with_reducible refine (rsub2 (k1 + k2 + 2) Xz mm.rz (by omega) (by omega) (by omega)).mono ?_); rintro e w_f ⟨s_f, A_f, n_f, c_f, rfl, f, hh⟩
       try replace X := X.below hh
       try replace Y := Y.below hh
       try replace qg := qg.below hh
       try replace XA := XA.below hh
       try replace XB := XB.below hh
       try replace T := T.below hh
       try replace QB := QB.below hh
       try replace o := o.below hh
       try replace p := p.below hh
       try replace mm := mm.below hh
       replace hb := bend hb hh
       rw [HF.out] at f
       have r0 := T.c0
       have s0 := T.f 0
       have r1 := T.c1
       have s1 := T.f 1
       have r2 := T.c2
       have s2 := T.f 2
       have r3 := T.c3
       have s3 := T.f 3))
  go_wp2
  have G := T.set4 (.bool sq) (.slice A_q n_q c_q) (.bool s_f) (.slice A_f n_f c_f)
  have g0 := G.c0
  have g1 := G.c1
  have g2 := G.c2
  have g3 := G.c3
  refine bodyPost_ret (v := .agg #[.bool sq, .slice A_q n_q c_q, .bool s_f, .slice A_f n_f c_f]) (by simp [results, Tryz.results99, go_sem, g0, g1, g2, g3]) rfl ?_
  exact ⟨_, _, _, _, _, _, _, _, rfl, close4 T p _ _ _ _, close4 T f _ _ _ _, below_set4 hb (by omega) _ _ _ _⟩

theorem rdm2 {w : World} {s t : Bool} {A B : Option Addr} {n c m d k1 k2 : Nat} {v u : Int} (X : RZ w s A n c v k1) (Y : RZ w t B m d u k2) (hu : u ≠ 0) (h1 : k1 ≤ 100000) (h2 : k2 ≤ 100000) (hk2 : 2 ≤ k1) :
    Calls Tryz.prog 99 #[.agg #[.bool s, .slice A n c], .agg #[.bool t, .slice B m d]] w (GivesRZZ w (v.fdiv u) (v.fmod u) (k1 + 1) (k1 + k2 + 2)) := by
  obtain ⟨U, X, rfl⟩ := X
  obtain ⟨V, Y, rfl⟩ := Y
  have hV : V ≠ 0 := fun h => hu (by rw [h]; cases t <;> rfl)
  by_cases h : t = s
  · subst h
    by_cases hR : U % V = 0
    · exact rdm2_s0 X Y h1 h2 hk2 hV hR
    · exact rdm2_s1 X Y h1 h2 hk2 hV hR
  · have ht : t = !s := by cases s <;> cases t <;> simp_all
    subst ht
    by_cases hR : U % V = 0
    · exact rdm2_u0 X Y h1 h2 hk2 hV hR
    · exact rdm2_u1 X Y h1 h2 hk2 hV hR
end Go.Proofs.YtmcijgnbdnpanaaGreat
