/- rat's functions by value: Cmp, and the four operations. -/
import Derived.Test.YtmcijgnbdnpanaaGreatRatC
namespace Go.Proofs.YtmcijgnbdnpanaaGreat
open Go Go.RowKit

set_option maxRecDepth 100000 in
set_option maxHeartbeats 4000000 in
theorem rcmp_q {w : World} {s t : Bool} {A A' B B' : Option Addr} {n c n' c' m d m' d' k k2 : Nat} {v0 u0 : Rat} (X0 : QR w s A n c A' n' c' v0 k) (Y0 : QR w t B m d B' m' d' u0 k2) (hk : k ≤ 400) (hkb : k2 ≤ 400) (h40 : k ≤ 40 ∨ k2 ≤ 40) (hk1 : 1 ≤ k) (hk3 : 1 ≤ k2) :
    Calls Tryz.prog 24 #[.agg #[.bool s, .slice A n c, .slice A' n' c'], .agg #[.bool t, .slice B m d, .slice B' m' d']] w fun e w' => e = .returned (.int .i64 (cmpQ v0 u0)) ∧ Below w.heap.size w w' := by
  obtain ⟨p, q, X, Q, rfl⟩ := X0
  obtain ⟨p2, q2, Y, R, rfl⟩ := Y0
  go_enter Tryz.func24, Tryz.ntmps24
  go_wp2_with fail
  generalize hW : ((w.alloc (Obj.cells #[Value.bool s, Value.slice A n c, Value.slice A' n' c'] 26)).alloc (Obj.cells #[Value.bool t, Value.slice B m d, Value.slice B' m' d'] 26)) = W
  have hb : Below w.heap.size w W := by subst hW; exact (((Below.refl _ _).alloc (Nat.le_refl _) _).alloc (by simp) _)
  have XA : B3 W (w.heap.size) (Value.bool s) (Value.slice A n c) (Value.slice A' n' c') := by subst hW; exact (B3.new' _ _ _ _ _ rfl).alloc _
  have XB : B3 W (w.heap.size + 1) (Value.bool t) (Value.slice B m d) (Value.slice B' m' d') := by subst hW; exact B3.new' _ _ _ _ _ (by simp)
  have hzW : W.heap.size = w.heap.size + 2 := by subst hW; simp
  clear hW
  replace X := X.below hb
  replace Q := Q.below hb
  replace Y := Y.below hb
  replace R := R.below hb
  have xa0 := XA.c0
  have xa1 := XA.c1
  have xa2 := XA.c2
  have xb0 := XB.c0
  have xb1 := XB.c1
  have xb2 := XB.c2
  go_upto_region 2 with (first
      | (go_at_call 85; (with_reducible refine (parts_any X Q (by omega) hk1).mono ?_); rintro e w_p ⟨s_x, A_x, n_x, c_x, s_y, A_y, n_y, c_y, rfl, x, y, hh⟩
         try replace X := X.below hh
         try replace Q := Q.below hh
         try replace Y := Y.below hh
         try replace R := R.below hh
         try replace u := u.below hh
         try replace v := v.below hh
         try replace m1 := m1.below hh
         try replace m2 := m2.below hh
         try replace m3 := m3.below hh
         try replace XA := XA.below hh
         try replace XB := XB.below hh
         try replace Z := Z.below hh
         try replace Z1 := Z1.below hh
         try replace Z2 := Z2.below hh
         try replace Z3 := Z3.below hh
         try replace XP := XP.below hh
         try replace XQ := XQ.below hh
         try replace XU := XU.below hh
         try replace XV := XV.below hh
         replace hb := bend hb hh))
  have hp1 := XB.lt
  generalize hW : ((w_p.alloc (Obj.cells #[Value.bool s_x, Value.slice A_x n_x c_x] 24)).alloc (Obj.cells #[Value.bool s_y, Value.slice A_y n_y c_y] 24)) = W2
  have hh : Below w_p.heap.size w_p W2 := by subst hW; exact (((Below.refl _ _).alloc (Nat.le_refl _) _).alloc (by simp) _)
  have XP : Bx W2 (w_p.heap.size) (Value.bool s_x) (Value.slice A_x n_x c_x) := by subst hW; exact (Bx.new' _ _ _ _ rfl).alloc _
  have XQ : Bx W2 (w_p.heap.size + 1) (Value.bool s_y) (Value.slice A_y n_y c_y) := by subst hW; exact Bx.new' _ _ _ _ (by simp)
  have hzW2 : W2.heap.size = w_p.heap.size + 2 := by subst hW; simp
  clear hW
  try replace X := X.below hh
  try replace Q := Q.below hh
  try replace Y := Y.below hh
  try replace R := R.below hh
  try replace x := x.below hh
  try replace y := y.below hh
  try replace XA := XA.below hh
  try replace XB := XB.below hh
  replace hb := bend hb hh
  have xb0 := XB.c0
  have xb1 := XB.c1
  have xb2 := XB.c2
  go_upto_region 3 with (first
      | (go_at_call 85; (with_reducible refine (parts_any Y R (by omega) hk3).mono ?_); rintro e w_u ⟨s_u, A_u, n_u, c_u, s_v, A_v, n_v, c_v, rfl, u, v, hh⟩
         try replace X := X.below hh
         try replace Q := Q.below hh
         try replace Y := Y.below hh
         try replace R := R.below hh
         try replace x := x.below hh
         try replace y := y.below hh
         try replace m1 := m1.below hh
         try replace m2 := m2.below hh
         try replace m3 := m3.below hh
         try replace XA := XA.below hh
         try replace XB := XB.below hh
         try replace Z := Z.below hh
         try replace Z1 := Z1.below hh
         try replace Z2 := Z2.below hh
         try replace Z3 := Z3.below hh
         try replace XP := XP.below hh
         try replace XQ := XQ.below hh
         try replace XU := XU.below hh
         try replace XV := XV.below hh
         replace hb := bend hb hh))
  have hu1 := XQ.lt
  generalize hW : ((w_u.alloc (Obj.cells #[Value.bool s_u, Value.slice A_u n_u c_u] 24)).alloc (Obj.cells #[Value.bool s_v, Value.slice A_v n_v c_v] 24)) = W3
  have hh : Below w_u.heap.size w_u W3 := by subst hW; exact (((Below.refl _ _).alloc (Nat.le_refl _) _).alloc (by simp) _)
  have XU : Bx W3 (w_u.heap.size) (Value.bool s_u) (Value.slice A_u n_u c_u) := by subst hW; exact (Bx.new' _ _ _ _ rfl).alloc _
  have XV : Bx W3 (w_u.heap.size + 1) (Value.bool s_v) (Value.slice A_v n_v c_v) := by subst hW; exact Bx.new' _ _ _ _ (by simp)
  have hzW3 : W3.heap.size = w_u.heap.size + 2 := by subst hW; simp
  clear hW
  try replace x := x.below hh
  try replace y := y.below hh
  try replace u := u.below hh
  try replace v := v.below hh
  try replace XP := XP.below hh
  try replace XQ := XQ.below hh
  replace hb := bend hb hh
  have xp0 := XP.c0
  have xp1 := XP.c1
  have xq0 := XQ.c0
  have xq1 := XQ.c1
  have xu0 := XU.c0
  have xu1 := XU.c1
  have xv0 := XV.c0
  have xv1 := XV.c1
  by_cases hst : s_u = s_x
  · have hst2 := hst.symm
    clear hst
    subst hst2
    by_cases heq : den1 q = den1 q2
    · have HE : Hid (cmpZ p p2 = cmpQ (mkRat p (den1 q)) (mkRat p2 (den1 q2))) := by show _ = _; rw [← heq]; exact (cmpQ_same (den1_ne q)).symm
      have HC : Hid (cmpZ (den1 q : Int) (den1 q2 : Int) = 0) := by show _ = _; rw [heq]; exact cmpZ_self _
      have hne : (s_x != s_x) = false := by cases s_x <;> rfl
      clear heq
      go_wp2_with (first
      | (go_at_call 86; (with_reducible refine (zcmp_zr y v (by omega)).mono ?_); rintro e w_z ⟨rfl, hh⟩
         rw [HC.out]
         try replace X := X.below hh
         try replace Q := Q.below hh
         try replace Y := Y.below hh
         try replace R := R.below hh
         try replace x := x.below hh
         try replace y := y.below hh
         try replace u := u.below hh
         try replace v := v.below hh
         try replace m1 := m1.below hh
         try replace m2 := m2.below hh
         try replace m3 := m3.below hh
         try replace XA := XA.below hh
         try replace XB := XB.below hh
         try replace Z := Z.below hh
         try replace Z1 := Z1.below hh
         try replace Z2 := Z2.below hh
         try replace Z3 := Z3.below hh
         try replace XP := XP.below hh
         try replace XQ := XQ.below hh
         try replace XU := XU.below hh
         try replace XV := XV.below hh
         replace hb := bend hb hh
         have xp0 := XP.c0
         have xp1 := XP.c1
         have xq0 := XQ.c0
         have xq1 := XQ.c1
         have xu0 := XU.c0
         have xu1 := XU.c1
         have xv0 := XV.c0
         have xv1 := XV.c1)
      | (go_at_call 86; (with_reducible refine (zcmp_zr x u (by omega)).mono ?_); rintro e w_z ⟨rfl, hh⟩
         rw [HE.out]
         try replace X := X.below hh
         try replace Q := Q.below hh
         try replace Y := Y.below hh
         try replace R := R.below hh
         try replace x := x.below hh
         try replace y := y.below hh
         try replace u := u.below hh
         try replace v := v.below hh
         try replace m1 := m1.below hh
         try replace m2 := m2.below hh
         try replace m3 := m3.below hh
         try replace XA := XA.below hh
         try replace XB := XB.below hh
         try replace Z := Z.below hh
         try replace Z1 := Z1.below hh
         try replace Z2 := Z2.below hh
         try replace Z3 := Z3.below hh
         try replace XP := XP.below hh
         try replace XQ := XQ.below hh
         try replace XU := XU.below hh
         try replace XV := XV.below hh
         replace hb := bend hb hh
         have xp0 := XP.c0
         have xp1 := XP.c1
         have xq0 := XQ.c0
         have xq1 := XQ.c1
         have xu0 := XU.c0
         have xu1 := XU.c1
         have xv0 := XV.c0
         have xv1 := XV.c1))
      go_ret
      exact ⟨rfl, hb⟩
    · have HE : Hid (cmpZ (p * (den1 q2 : Int)) (p2 * (den1 q : Int)) = cmpQ (mkRat p (den1 q)) (mkRat p2 (den1 q2))) := (cmpQ_mk (den1_ne q) (den1_ne q2)).symm
      obtain ⟨K, hK, hK0⟩ : ∃ K, cmpZ (den1 q : Int) (den1 q2 : Int) = K ∧ ((K : Int) == 0) = false := ⟨_, rfl, by
        rw [beq_eq_false_iff_ne]; intro h; exact heq (by have := cmpZ_zero h; omega)⟩
      have HC := Lib.hid hK
      have hne : (s_x != s_x) = false := by cases s_x <;> rfl
      clear heq hK
      go_upto_region 5 with (first
      | (go_at_call 86; (with_reducible refine (zcmp_zr y v (by omega)).mono ?_); rintro e w_z ⟨rfl, hh⟩
         rw [HC.out]
         try replace X := X.below hh
         try replace Q := Q.below hh
         try replace Y := Y.below hh
         try replace R := R.below hh
         try replace x := x.below hh
         try replace y := y.below hh
         try replace u := u.below hh
         try replace v := v.below hh
         try replace m1 := m1.below hh
         try replace m2 := m2.below hh
         try replace m3 := m3.below hh
         try replace XA := XA.below hh
         try replace XB := XB.below hh
         try replace Z := Z.below hh
         try replace Z1 := Z1.below hh
         try replace Z2 := Z2.below hh
         try replace Z3 := Z3.below hh
         try replace XP := XP.below hh
         try replace XQ := XQ.below hh
         try replace XU := XU.below hh
         try replace XV := XV.below hh
         replace hb := bend hb hh
         have xp0 := XP.c0
         have xp1 := XP.c1
         have xq0 := XQ.c0
         have xq1 := XQ.c1
         have xu0 := XU.c0
         have xu1 := XU.c1
         have xv0 := XV.c0
         have xv1 := XV.c1))
      replace x := x.below (Below.refl _ _).drew
      replace y := y.below (Below.refl _ _).drew
      replace u := u.below (Below.refl _ _).drew
      replace v := v.below (Below.refl _ _).drew
      replace XP := XP.below (Below.refl _ _).drew
      replace XQ := XQ.below (Below.refl _ _).drew
      replace XU := XU.below (Below.refl _ _).drew
      replace XV := XV.below (Below.refl _ _).drew
      replace hb := hb.drew
      go_region_held3 (fun w' => w'.cell? ⟨w_p.heap.size, 0, none⟩ = some (.bool s_x) ∧ w'.cell? ⟨w_p.heap.size, 1, none⟩ = some (.slice A_x n_x c_x) ∧ w'.cell? ⟨w_p.heap.size + 1, 0, none⟩ = some (.bool s_y) ∧ w'.cell? ⟨w_p.heap.size + 1, 1, none⟩ = some (.slice A_y n_y c_y) ∧ w'.cell? ⟨w_u.heap.size, 0, none⟩ = some (.bool s_x) ∧ w'.cell? ⟨w_u.heap.size, 1, none⟩ = some (.slice A_u n_u c_u) ∧ w'.cell? ⟨w_u.heap.size + 1, 0, none⟩ = some (.bool s_v) ∧ w'.cell? ⟨w_u.heap.size + 1, 1, none⟩ = some (.slice A_v n_v c_v))
        (first | with_reducible exact ⟨XP.c0, XP.c1, XQ.c0, XQ.c1, XU.c0, XU.c1, XV.c0, XV.c1⟩)
        (first
        | (go_at_call 50; (with_reducible refine (zmul_zr (k + k2) x v (by omega) (by omega) (by omega)).mono ?_); rintro e w_m1 ⟨s_m1, A_m1, n_m1, c_m1, rfl, m1, hh⟩
           try replace X := X.below hh
           try replace Q := Q.below hh
           try replace Y := Y.below hh
           try replace R := R.below hh
           try replace x := x.below hh
           try replace y := y.below hh
           try replace u := u.below hh
           try replace v := v.below hh
           try replace m2 := m2.below hh
           try replace m3 := m3.below hh
           try replace XA := XA.below hh
           try replace XB := XB.below hh
           try replace Z := Z.below hh
           try replace Z1 := Z1.below hh
           try replace Z2 := Z2.below hh
           try replace Z3 := Z3.below hh
           try replace XP := XP.below hh
           try replace XQ := XQ.below hh
           try replace XU := XU.below hh
           try replace XV := XV.below hh
           replace hb := bend hb hh)
        | (go_at_call 50; (with_reducible refine (zmul_zr (k + k2) u y (by omega) (by omega) (by omega)).mono ?_); rintro e w_m2 ⟨s_m2, A_m2, n_m2, c_m2, rfl, m2, hh⟩
           try replace X := X.below hh
           try replace Q := Q.below hh
           try replace Y := Y.below hh
           try replace R := R.below hh
           try replace x := x.below hh
           try replace y := y.below hh
           try replace u := u.below hh
           try replace v := v.below hh
           try replace m1 := m1.below hh
           try replace m3 := m3.below hh
           try replace XA := XA.below hh
           try replace XB := XB.below hh
           try replace Z := Z.below hh
           try replace Z1 := Z1.below hh
           try replace Z2 := Z2.below hh
           try replace Z3 := Z3.below hh
           try replace XP := XP.below hh
           try replace XQ := XQ.below hh
           try replace XU := XU.below hh
           try replace XV := XV.below hh
           replace hb := bend hb hh)
        | (go_at_call 86; (with_reducible refine (zcmp_zr m1 m2 (by omega)).mono ?_); rintro e w_z ⟨rfl, hh⟩
           rw [HE.out]
           try replace X := X.below hh
           try replace Q := Q.below hh
           try replace Y := Y.below hh
           try replace R := R.below hh
           try replace x := x.below hh
           try replace y := y.below hh
           try replace u := u.below hh
           try replace v := v.below hh
           try replace m1 := m1.below hh
           try replace m2 := m2.below hh
           try replace m3 := m3.below hh
           try replace XA := XA.below hh
           try replace XB := XB.below hh
           try replace Z := Z.below hh
           try replace Z1 := Z1.below hh
           try replace Z2 := Z2.below hh
           try replace Z3 := Z3.below hh
           try replace XP := XP.below hh
           try replace XQ := XQ.below hh
           try replace XU := XU.below hh
           try replace XV := XV.below hh
           replace hb := bend hb hh))
      go_wp2_with fail
      go_ret
      exact ⟨rfl, hb⟩
  · have HE : Hid (cmpZ p p2 = cmpQ (mkRat p (den1 q)) (mkRat p2 (den1 q2))) := by
      have := cmpQ_signs (a := p.natAbs) (b := p2.natAbs) (den1_ne q) (den1_ne q2) (fun h => hst h.symm)
      rw [← x.uv, ← u.uv] at this
      exact this
    have hs := bool_not hst
    clear hst
    subst hs
    have hne : (s_x != (!s_x)) = true := by cases s_x <;> rfl
    go_wp2_with (first
      | (go_at_call 86; (with_reducible refine (zcmp_zr x u (by omega)).mono ?_); rintro e w_z ⟨rfl, hh⟩
         rw [HE.out]
         try replace X := X.below hh
         try replace Q := Q.below hh
         try replace Y := Y.below hh
         try replace R := R.below hh
         try replace x := x.below hh
         try replace y := y.below hh
         try replace u := u.below hh
         try replace v := v.below hh
         try replace m1 := m1.below hh
         try replace m2 := m2.below hh
         try replace m3 := m3.below hh
         try replace XA := XA.below hh
         try replace XB := XB.below hh
         try replace Z := Z.below hh
         try replace Z1 := Z1.below hh
         try replace Z2 := Z2.below hh
         try replace Z3 := Z3.below hh
         try replace XP := XP.below hh
         try replace XQ := XQ.below hh
         try replace XU := XU.below hh
         try replace XV := XV.below hh
         replace hb := bend hb hh
         have xp0 := XP.c0
         have xp1 := XP.c1
         have xq0 := XQ.c0
         have xq1 := XQ.c1
         have xu0 := XU.c0
         have xu1 := XU.c1
         have xv0 := XV.c0
         have xv1 := XV.c1))
    go_ret
    exact ⟨rfl, hb⟩
end Go.Proofs.YtmcijgnbdnpanaaGreat
