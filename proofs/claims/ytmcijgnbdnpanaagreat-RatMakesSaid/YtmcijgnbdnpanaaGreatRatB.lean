/- rat's functions by value: parts, by, Neg, Abs, Floor, Ceil, Sign, Cmp, Of. -/
import Derived.Test.YtmcijgnbdnpanaaGreatRatA
namespace Go.Proofs.YtmcijgnbdnpanaaGreat
open Go Go.RowKit

/-- The call tells the whole numbers p and q. -/
def GivesP (w : World) (p q : Int) (k : Nat) (e : Ending) (w' : World) : Prop :=
  ∃ s A n c t B m d, e = .returned (.tuple #[.agg #[.bool s, .slice A n c], .agg #[.bool t, .slice B m d]]) ∧ ZR w' s A n c p k ∧ ZR w' t B m d q k ∧ Below w.heap.size w w'
theorem two_set {w W : World} {g1 g2 n c m d k n1 c1 n2 c2 : Nat} {s t a b : Bool} {A B A1 A2 : Option Addr} {p q : Int} (hb : Below w.heap.size w W) (h1 : w.heap.size ≤ g1) (h2 : w.heap.size ≤ g2) (hne : g1 ≠ g2)
    (Z1 : Bx W g1 (.bool a) (.slice A1 n1 c1)) (Z2 : Bx W g2 (.bool b) (.slice A2 n2 c2)) (X : ZR W s A n c p k) (Y : ZR W t B m d q k) (x y z u : Value) :
    ZR ((((W.setCell ⟨g1, 0, none⟩ x).setCell ⟨g1, 1, none⟩ y).setCell ⟨g2, 0, none⟩ z).setCell ⟨g2, 1, none⟩ u) s A n c p k ∧
    ZR ((((W.setCell ⟨g1, 0, none⟩ x).setCell ⟨g1, 1, none⟩ y).setCell ⟨g2, 0, none⟩ z).setCell ⟨g2, 1, none⟩ u) t B m d q k ∧
    Below w.heap.size w ((((W.setCell ⟨g1, 0, none⟩ x).setCell ⟨g1, 1, none⟩ y).setCell ⟨g2, 0, none⟩ z).setCell ⟨g2, 1, none⟩ u) := by
  have Z3 := Z2.other (k := g1) (Ne.symm hne) x y
  exact ⟨(X.set2x Z1 x y).set2x Z3 z u, (Y.set2x Z1 x y).set2x Z3 z u, (((hb.setCell h1 _).setCell h1 _).setCell h2 _).setCell h2 _⟩

set_option maxRecDepth 100000 in
set_option maxHeartbeats 2000000 in
theorem parts_zero {w : World} {s : Bool} {A A' : Option Addr} {n c n' c' k q : Nat} {p : Int} (X : ZR w s A n c p k) (Q : NR w A' n' c' q k) (hk : k ≤ 1000) (hk1 : 1 ≤ k) (hq : q = 0) :
    Calls Tryz.prog 85 #[.agg #[.bool s, .slice A n c, .slice A' n' c']] w (GivesP w p 1 k) := by
  have HB : Hid ((((bl q : Nat) : Int) == 0) = true) := by show _ = true; rw [bl_is0, hq]; rfl
  clear hq
  go_enter Tryz.func85, Tryz.ntmps85
  go_wp2_with fail
  generalize hW : (((w.alloc (Obj.cells #[Value.bool s, Value.slice A n c, Value.slice A' n' c'] 26)).alloc (Obj.cells #[Value.bool false, Value.slice none 0 0] 24)).alloc (Obj.cells #[Value.bool false, Value.slice none 0 0] 24)) = W
  have hb : Below w.heap.size w W := by subst hW; exact ((((Below.refl _ _).alloc (Nat.le_refl _) _).alloc (by simp) _).alloc (by simp; omega) _)
  have XA : B3 W (w.heap.size) (Value.bool s) (Value.slice A n c) (Value.slice A' n' c') := by subst hW; exact ((B3.new' _ _ _ _ _ rfl).alloc _).alloc _
  have Z1 : Bx W (w.heap.size + 1) (Value.bool false) (Value.slice none 0 0) := by subst hW; exact (Bx.new' _ _ _ _ (by simp)).alloc _
  have Z2 : Bx W (w.heap.size + 1 + 1) (Value.bool false) (Value.slice none 0 0) := by subst hW; exact Bx.new' _ _ _ _ (by simp)
  have hzW : W.heap.size = w.heap.size + 3 := by subst hW; simp
  clear hW
  replace X := X.below hb
  replace Q := Q.below hb
  have xa0 := XA.c0
  have xa1 := XA.c1
  have xa2 := XA.c2
  have hbl := HB.out
  go_upto_region 2 with ((go_at_call 95; ((with_reducible refine (bits_nr Q (by omega)).mono ?_); rintro e w' ⟨rfl, rfl⟩)))
  clear hbl
  replace X := X.below (Below.refl _ _).drew
  replace XA := XA.below (Below.refl _ _).drew
  replace Z1 := Z1.below (Below.refl _ _).drew
  replace Z2 := Z2.below (Below.refl _ _).drew
  replace hb := hb.drew
  go_region_held3 (fun w' => w'.cell? ⟨w.heap.size, 0, none⟩ = some (Value.bool s) ∧ w'.cell? ⟨w.heap.size, 1, none⟩ = some (Value.slice A n c) ∧ w'.cell? ⟨w.heap.size, 2, none⟩ = some (Value.slice A' n' c'))
    (first | with_reducible exact ⟨XA.c0, XA.c1, XA.c2⟩ | with_reducible exact ⟨(set2_cell _ _ _ _ _ _ (by omega)).trans (XA.c0), (set2_cell _ _ _ _ _ _ (by omega)).trans (XA.c1), (set2_cell _ _ _ _ _ _ (by omega)).trans (XA.c2)⟩ | with_reducible exact ⟨(set2_cell _ _ _ _ _ _ (by omega)).trans ((set2_cell _ _ _ _ _ _ (by omega)).trans (XA.c0)), (set2_cell _ _ _ _ _ _ (by omega)).trans ((set2_cell _ _ _ _ _ _ (by omega)).trans (XA.c1)), (set2_cell _ _ _ _ _ _ (by omega)).trans ((set2_cell _ _ _ _ _ _ (by omega)).trans (XA.c2))⟩)
    (first
    | (go_at_call 51; (with_reducible refine (zof_zr 1 (by decide) (by decide) _).mono ?_); rintro e w_o ⟨s_o, A_o, n_o, c_o, rfl, o, hh⟩
       try replace X := X.below hh
       try replace XA := XA.below hh
       try replace Z1 := Z1.below hh
       try replace Z2 := Z2.below hh
       replace hb := bend hb hh
       have z0 := Z1.c0
       have z1 := Z1.c1
       have z2 := Z1.f0
       have z3 := Z1.f1
       have y0 := Z2.c0
       have y1 := Z2.c1
       have y2 := Z2.f0
       have y3 := Z2.f1
       have Z2o := Z2.other (k := w.heap.size + 1) (by omega) (.bool s) (.slice A n c)
       have zo0 := Z2o.c0
       have zo1 := Z2o.c1
       have zo2 := Z2o.f0
       have zo3 := Z2o.f1))
  replace o := o.more (show 1 ≤ k from hk1)
  have Y := o
  go_wp2_with fail
  have G1 := (Z1.set2 (.bool s) (.slice A n c)).other (k := w.heap.size + 1 + 1) (by omega) (.bool s_o) (.slice A_o n_o c_o)
  have G2 := (Z2.other (k := w.heap.size + 1) (by omega) (.bool s) (.slice A n c)).set2 (.bool s_o) (.slice A_o n_o c_o)
  have g0 := G1.c0
  have g1 := G1.c1
  have g2 := G2.c0
  have g3 := G2.c1
  have HT := two_set hb (by omega) (by omega) (by omega) Z1 Z2 X Y (.bool s) (.slice A n c) (.bool s_o) (.slice A_o n_o c_o)
  refine bodyPost_ret (v := .tuple #[.agg #[.bool s, .slice A n c], .agg #[.bool s_o, .slice A_o n_o c_o]]) (by simp [results, Tryz.results85, go_sem, g0, g1, g2, g3]) rfl ?_
  exact ⟨s, A, n, c, _, _, _, _, rfl, HT.1, HT.2.1, HT.2.2⟩

set_option maxRecDepth 100000 in
set_option maxHeartbeats 2000000 in
theorem parts_pos {w : World} {s : Bool} {A A' : Option Addr} {n c n' c' k q : Nat} {p : Int} (X : ZR w s A n c p k) (Q : NR w A' n' c' q k) (hk : k ≤ 1000) (hq : q ≠ 0) :
    Calls Tryz.prog 85 #[.agg #[.bool s, .slice A n c, .slice A' n' c']] w (GivesP w p (q : Int) k) := by
  have HB : Hid ((((bl q : Nat) : Int) == 0) = false) := by show _ = false; rw [bl_is0]; exact decide_eq_false hq
  clear hq
  go_enter Tryz.func85, Tryz.ntmps85
  go_wp2_with fail
  generalize hW : (((w.alloc (Obj.cells #[Value.bool s, Value.slice A n c, Value.slice A' n' c'] 26)).alloc (Obj.cells #[Value.bool false, Value.slice none 0 0] 24)).alloc (Obj.cells #[Value.bool false, Value.slice none 0 0] 24)) = W
  have hb : Below w.heap.size w W := by subst hW; exact ((((Below.refl _ _).alloc (Nat.le_refl _) _).alloc (by simp) _).alloc (by simp; omega) _)
  have XA : B3 W (w.heap.size) (Value.bool s) (Value.slice A n c) (Value.slice A' n' c') := by subst hW; exact ((B3.new' _ _ _ _ _ rfl).alloc _).alloc _
  have Z1 : Bx W (w.heap.size + 1) (Value.bool false) (Value.slice none 0 0) := by subst hW; exact (Bx.new' _ _ _ _ (by simp)).alloc _
  have Z2 : Bx W (w.heap.size + 1 + 1) (Value.bool false) (Value.slice none 0 0) := by subst hW; exact Bx.new' _ _ _ _ (by simp)
  have hzW : W.heap.size = w.heap.size + 3 := by subst hW; simp
  clear hW
  replace X := X.below hb
  replace Q := Q.below hb
  have xa0 := XA.c0
  have xa1 := XA.c1
  have xa2 := XA.c2
  have hbl := HB.out
  go_upto_region 3 with ((go_at_call 95; ((with_reducible refine (bits_nr Q (by omega)).mono ?_); rintro e w' ⟨rfl, rfl⟩)))
  clear hbl
  have z0 := Z1.c0
  have z1 := Z1.c1
  have z2 := Z1.f0
  have z3 := Z1.f1
  have y0 := Z2.c0
  have y1 := Z2.c1
  have y2 := Z2.f0
  have y3 := Z2.f1
  have Z2o := Z2.other (k := w.heap.size + 1) (by omega) (.bool s) (.slice A n c)
  have zo0 := Z2o.c0
  have zo1 := Z2o.c1
  have zo2 := Z2o.f0
  have zo3 := Z2o.f1
  go_region
  have Y := ZR.ofn (s := false) Q
  rw [show iv false q = (q : Int) from rfl] at Y
  go_wp2_with fail
  have G1 := (Z1.set2 (.bool s) (.slice A n c)).other (k := w.heap.size + 1 + 1) (by omega) (.bool false) (.slice A' n' c')
  have G2 := (Z2.other (k := w.heap.size + 1) (by omega) (.bool s) (.slice A n c)).set2 (.bool false) (.slice A' n' c')
  have g0 := G1.c0
  have g1 := G1.c1
  have g2 := G2.c0
  have g3 := G2.c1
  have HT := two_set hb (by omega) (by omega) (by omega) Z1 Z2 X Y (.bool s) (.slice A n c) (.bool false) (.slice A' n' c')
  refine bodyPost_ret (v := .tuple #[.agg #[.bool s, .slice A n c], Value.agg #[.bool false, .slice A' n' c']]) (by simp [results, Tryz.results85, go_sem, g0, g1, g2, g3]) rfl ?_
  exact ⟨s, A, n, c, _, _, _, _, rfl, HT.1.drew, HT.2.1.drew, HT.2.2.drew⟩

theorem parts_any {w : World} {s : Bool} {A A' : Option Addr} {n c n' c' k q : Nat} {p : Int} (X : ZR w s A n c p k) (Q : NR w A' n' c' q k) (hk : k ≤ 1000) (hk1 : 1 ≤ k) :
    Calls Tryz.prog 85 #[.agg #[.bool s, .slice A n c, .slice A' n' c']] w (GivesP w p (den1 q : Int) k) := by
  by_cases hq : q = 0
  · have h := parts_zero X Q hk hk1 hq
    rw [hq]; exact h
  · rw [den1_of hq]; exact parts_pos X Q hk hq

set_option maxRecDepth 100000 in
set_option maxHeartbeats 2000000 in
theorem by_zr {w : World} {s t : Bool} {A B : Option Addr} {n c m d k1 k2 : Nat} {p q : Int} (k : Nat) (X : ZR w s A n c p k1) (Y : ZR w t B m d q k2) (h1 : k1 ≤ 1000) (h2 : k2 ≤ 1000) (hq : q ≠ 0) (hk1 : k1 ≤ k) (hk2 : k2 ≤ k) :
    Calls Tryz.prog 80 #[.agg #[.bool s, .slice A n c], .agg #[.bool t, .slice B m d]] w (GivesQ w (Rat.divInt p q) k) := by
  have HQ := Lib.hid hq
  clear hq
  go_enter Tryz.func80, Tryz.ntmps80
  go_wp2_with fail
  generalize hW : (((w.alloc (Obj.cells #[Value.bool s, Value.slice A n c] 24)).alloc (Obj.cells #[Value.bool t, Value.slice B m d] 24)).alloc (Obj.cells #[Value.bool false, Value.slice none 0 0, Value.slice none 0 0] 26)) = W
  have hb : Below w.heap.size w W := by subst hW; exact ((((Below.refl _ _).alloc (Nat.le_refl _) _).alloc (by simp) _).alloc (by simp; omega) _)
  have XA : Bx W (w.heap.size) (Value.bool s) (Value.slice A n c) := by subst hW; exact ((Bx.new' _ _ _ _ rfl).alloc _).alloc _
  have XB : Bx W (w.heap.size + 1) (Value.bool t) (Value.slice B m d) := by subst hW; exact (Bx.new' _ _ _ _ (by simp)).alloc _
  have Z : B3 W (w.heap.size + 1 + 1) (Value.bool false) (Value.slice none 0 0) (Value.slice none 0 0) := by subst hW; exact B3.new' _ _ _ _ _ (by simp)
  have hzW : W.heap.size = w.heap.size + 3 := by subst hW; simp
  clear hW
  replace X := X.below hb
  replace Y := Y.below hb
  have xa0 := XA.c0
  have xa1 := XA.c1
  have xb0 := XB.c0
  have xb1 := XB.c1
  go_upto_region 2 with (first
      | (go_at_call 34; (with_reducible refine (make_zr k X Y h1 h2 HQ.out hk1 hk2).mono ?_); rintro e w_r ⟨s_r, A_r, n_r, c_r, B_r, m_r, d_r, rfl, r, hh⟩
         try replace XA := XA.below hh
         try replace XB := XB.below hh
         try replace Z := Z.below hh
         replace hb := bend hb hh))
  generalize hW : (w_r.alloc (Obj.cells #[Value.bool s_r, Value.slice A_r n_r c_r, Value.slice B_r m_r d_r] 26)) = W2
  have hh : Below w_r.heap.size w_r W2 := by subst hW; exact ((Below.refl _ _).alloc (Nat.le_refl _) _)
  have R : B3 W2 (w_r.heap.size) (Value.bool s_r) (Value.slice A_r n_r c_r) (Value.slice B_r m_r d_r) := by subst hW; exact B3.new' _ _ _ _ _ rfl
  have hzW2 : W2.heap.size = w_r.heap.size + 1 := by subst hW; simp
  clear hW
  try replace r := r.below hh
  try replace Z := Z.below hh
  replace hb := bend hb hh
  have r0 := R.c0
  have r1 := R.c1
  have r2 := R.c2
  have zf0 := Z.f0
  have zf1 := Z.f1
  have zf2 := Z.f2
  have z0 := Z.c0
  have z1 := Z.c1
  have z2 := Z.c2
  go_wp2_with fail
  have Z2 := Z.set3 (.bool s_r) (.slice A_r n_r c_r) (.slice B_r m_r d_r)
  have g0 := Z2.c0
  have g1 := Z2.c1
  have g2 := Z2.c2
  refine bodyPost_ret (v := .agg #[.bool s_r, .slice A_r n_r c_r, .slice B_r m_r d_r]) (by simp [results, Tryz.results80, go_sem, g0, g1, g2]) rfl ?_
  exact ⟨s_r, A_r, n_r, c_r, B_r, m_r, d_r, rfl, r.set3 Z _ _ _, below_set3 hb (by omega) _ _ _⟩
end Go.Proofs.YtmcijgnbdnpanaaGreat
