/- PtReckons: part 10. -/
import Derived.Test.YtlkjkhpjhllapaaGreatKPtReckons9
set_option linter.unusedVariables false
namespace Go.Proofs.YtlkjkhpjhllapaaGreat
open Go Go.RowKit
set_option maxRecDepth 100000 in
set_option maxHeartbeats 4000000 in
theorem rcmp_q {w : World} {s t : Bool} {A A' B B' : Option Addr} {n c n' c' m d m' d' k k2 : Nat} {v0 u0 : Rat} (X0 : QR w s A n c A' n' c' v0 k) (Y0 : QR w t B m d B' m' d' u0 k2) (hk : k ≤ 400) (hkb : k2 ≤ 400) (h40 : k ≤ 400 ∨ k2 ≤ 400) (hk1 : 1 ≤ k) (hk3 : 1 ≤ k2) :
    Calls Tryz.prog 28 #[.agg #[.bool s, .slice A n c, .slice A' n' c'], .agg #[.bool t, .slice B m d, .slice B' m' d']] w fun e w' => e = .returned (.int .i64 (cmpQ v0 u0)) ∧ Below w.heap.size w w' := by
  obtain ⟨p, q, X, Q, rfl⟩ := X0
  obtain ⟨p2, q2, Y, R, rfl⟩ := Y0
  go_enter Tryz.func28, Tryz.ntmps28
  go_wp2_with fail
  generalize hW : ((w.alloc (Obj.cells #[Value.bool s, Value.slice A n c, Value.slice A' n' c'] 26)).alloc (Obj.cells #[Value.bool t, Value.slice B m d, Value.slice B' m' d'] 26)) = W
  have hb : Below w.heap.size w W := by subst hW; exact (((Below.refl _ _).alloc (Nat.le_refl _) _).alloc (by simp) _)
  have XA : B3 W (w.heap.size) (Value.bool s) (Value.slice A n c) (Value.slice A' n' c') := by subst hW; exact (B3.new' _ _ _ _ _ rfl).alloc _
  have XB : B3 W (w.heap.size + 1) (Value.bool t) (Value.slice B m d) (Value.slice B' m' d') := by subst hW; exact B3.new' _ _ _ _ _ (by simp)
  have hzW : W.heap.size = w.heap.size + 2 := by subst hW; simp
  clear hW
  replace X := X.below hb
  replace Q := Q.below hb
  replace Y := Y.below hb
  replace R := R.below hb
  have xa0 := XA.c0
  have xa1 := XA.c1
  have xa2 := XA.c2
  have xb0 := XB.c0
  have xb1 := XB.c1
  have xb2 := XB.c2
  go_upto_region 2 with (first
      | (go_at_call 114; (with_reducible refine (parts_any X Q (by omega) hk1).mono ?_); rintro e w_p ⟨s_x, A_x, n_x, c_x, s_y, A_y, n_y, c_y, rfl, x, y, hh⟩
         try replace X := X.below hh
         try replace Q := Q.below hh
         try replace Y := Y.below hh
         try replace R := R.below hh
         try replace u := u.below hh
         try replace v := v.below hh
         try replace m1 := m1.below hh
         try replace m2 := m2.below hh
         try replace m3 := m3.below hh
         try replace XA := XA.below hh
         try replace XB := XB.below hh
         try replace Z := Z.below hh
         try replace Z1 := Z1.below hh
         try replace Z2 := Z2.below hh
         try replace Z3 := Z3.below hh
         try replace XP := XP.below hh
         try replace XQ := XQ.below hh
         try replace XU := XU.below hh
         try replace XV := XV.below hh
         replace hb := bend hb hh))
  have hp1 := XB.lt
  generalize hW : ((w_p.alloc (Obj.cells #[Value.bool s_x, Value.slice A_x n_x c_x] 24)).alloc (Obj.cells #[Value.bool s_y, Value.slice A_y n_y c_y] 24)) = W2
  have hh : Below w_p.heap.size w_p W2 := by subst hW; exact (((Below.refl _ _).alloc (Nat.le_refl _) _).alloc (by simp) _)
  have XP : Bx W2 (w_p.heap.size) (Value.bool s_x) (Value.slice A_x n_x c_x) := by subst hW; exact (Bx.new' _ _ _ _ rfl).alloc _
  have XQ : Bx W2 (w_p.heap.size + 1) (Value.bool s_y) (Value.slice A_y n_y c_y) := by subst hW; exact Bx.new' _ _ _ _ (by simp)
  have hzW2 : W2.heap.size = w_p.heap.size + 2 := by subst hW; simp
  clear hW
  try replace X := X.below hh
  try replace Q := Q.below hh
  try replace Y := Y.below hh
  try replace R := R.below hh
  try replace x := x.below hh
  try replace y := y.below hh
  try replace XA := XA.below hh
  try replace XB := XB.below hh
  replace hb := bend hb hh
  have xb0 := XB.c0
  have xb1 := XB.c1
  have xb2 := XB.c2
  go_upto_region 3 with (first
      | (go_at_call 114; (with_reducible refine (parts_any Y R (by omega) hk3).mono ?_); rintro e w_u ⟨s_u, A_u, n_u, c_u, s_v, A_v, n_v, c_v, rfl, u, v, hh⟩
         try replace X := X.below hh
         try replace Q := Q.below hh
         try replace Y := Y.below hh
         try replace R := R.below hh
         try replace x := x.below hh
         try replace y := y.below hh
         try replace m1 := m1.below hh
         try replace m2 := m2.below hh
         try replace m3 := m3.below hh
         try replace XA := XA.below hh
         try replace XB := XB.below hh
         try replace Z := Z.below hh
         try replace Z1 := Z1.below hh
         try replace Z2 := Z2.below hh
         try replace Z3 := Z3.below hh
         try replace XP := XP.below hh
         try replace XQ := XQ.below hh
         try replace XU := XU.below hh
         try replace XV := XV.below hh
         replace hb := bend hb hh))
  have hu1 := XQ.lt
  generalize hW : ((w_u.alloc (Obj.cells #[Value.bool s_u, Value.slice A_u n_u c_u] 24)).alloc (Obj.cells #[Value.bool s_v, Value.slice A_v n_v c_v] 24)) = W3
  have hh : Below w_u.heap.size w_u W3 := by subst hW; exact (((Below.refl _ _).alloc (Nat.le_refl _) _).alloc (by simp) _)
  have XU : Bx W3 (w_u.heap.size) (Value.bool s_u) (Value.slice A_u n_u c_u) := by subst hW; exact (Bx.new' _ _ _ _ rfl).alloc _
  have XV : Bx W3 (w_u.heap.size + 1) (Value.bool s_v) (Value.slice A_v n_v c_v) := by subst hW; exact Bx.new' _ _ _ _ (by simp)
  have hzW3 : W3.heap.size = w_u.heap.size + 2 := by subst hW; simp
  clear hW
  try replace x := x.below hh
  try replace y := y.below hh
  try replace u := u.below hh
  try replace v := v.below hh
  try replace XP := XP.below hh
  try replace XQ := XQ.below hh
  replace hb := bend hb hh
  have xp0 := XP.c0
  have xp1 := XP.c1
  have xq0 := XQ.c0
  have xq1 := XQ.c1
  have xu0 := XU.c0
  have xu1 := XU.c1
  have xv0 := XV.c0
  have xv1 := XV.c1
  by_cases hst : s_u = s_x
  · have hst2 := hst.symm
    clear hst
    subst hst2
    by_cases heq : den1 q = den1 q2
    · have HE : Hid (cmpZ p p2 = cmpQ (mkRat p (den1 q)) (mkRat p2 (den1 q2))) := by show _ = _; rw [← heq]; exact (cmpQ_same (den1_ne q)).symm
      have HC : Hid (cmpZ (den1 q : Int) (den1 q2 : Int) = 0) := by show _ = _; rw [heq]; exact cmpZ_self _
      have hne : (s_x != s_x) = false := by cases s_x <;> rfl
      clear heq
      go_wp2_with (first
      | (go_at_call 115; (with_reducible refine (zcmp_zr y v (by omega)).mono ?_); rintro e w_z ⟨rfl, hh⟩
         rw [HC.out]
         try replace X := X.below hh
         try replace Q := Q.below hh
         try replace Y := Y.below hh
         try replace R := R.below hh
         try replace x := x.below hh
         try replace y := y.below hh
         try replace u := u.below hh
         try replace v := v.below hh
         try replace m1 := m1.below hh
         try replace m2 := m2.below hh
         try replace m3 := m3.below hh
         try replace XA := XA.below hh
         try replace XB := XB.below hh
         try replace Z := Z.below hh
         try replace Z1 := Z1.below hh
         try replace Z2 := Z2.below hh
         try replace Z3 := Z3.below hh
         try replace XP := XP.below hh
         try replace XQ := XQ.below hh
         try replace XU := XU.below hh
         try replace XV := XV.below hh
         replace hb := bend hb hh
         have xp0 := XP.c0
         have xp1 := XP.c1
         have xq0 := XQ.c0
         have xq1 := XQ.c1
         have xu0 := XU.c0
         have xu1 := XU.c1
         have xv0 := XV.c0
         have xv1 := XV.c1)
      | (go_at_call 115; (with_reducible refine (zcmp_zr x u (by omega)).mono ?_); rintro e w_z ⟨rfl, hh⟩
         rw [HE.out]
         try replace X := X.below hh
         try replace Q := Q.below hh
         try replace Y := Y.below hh
         try replace R := R.below hh
         try replace x := x.below hh
         try replace y := y.below hh
         try replace u := u.below hh
         try replace v := v.below hh
         try replace m1 := m1.below hh
         try replace m2 := m2.below hh
         try replace m3 := m3.below hh
         try replace XA := XA.below hh
         try replace XB := XB.below hh
         try replace Z := Z.below hh
         try replace Z1 := Z1.below hh
         try replace Z2 := Z2.below hh
         try replace Z3 := Z3.below hh
         try replace XP := XP.below hh
         try replace XQ := XQ.below hh
         try replace XU := XU.below hh
         try replace XV := XV.below hh
         replace hb := bend hb hh
         have xp0 := XP.c0
         have xp1 := XP.c1
         have xq0 := XQ.c0
         have xq1 := XQ.c1
         have xu0 := XU.c0
         have xu1 := XU.c1
         have xv0 := XV.c0
         have xv1 := XV.c1))
      go_ret
      exact ⟨rfl, hb⟩
    · have HE : Hid (cmpZ (p * (den1 q2 : Int)) (p2 * (den1 q : Int)) = cmpQ (mkRat p (den1 q)) (mkRat p2 (den1 q2))) := (cmpQ_mk (den1_ne q) (den1_ne q2)).symm
      obtain ⟨K, hK, hK0⟩ : ∃ K, cmpZ (den1 q : Int) (den1 q2 : Int) = K ∧ ((K : Int) == 0) = false := ⟨_, rfl, by
        rw [beq_eq_false_iff_ne]; intro h; exact heq (by have := cmpZ_zero h; omega)⟩
      have HC := Lib.hid hK
      have hne : (s_x != s_x) = false := by cases s_x <;> rfl
      clear heq hK
      go_upto_region 5 with (first
      | (go_at_call 115; (with_reducible refine (zcmp_zr y v (by omega)).mono ?_); rintro e w_z ⟨rfl, hh⟩
         rw [HC.out]
         try replace X := X.below hh
         try replace Q := Q.below hh
         try replace Y := Y.below hh
         try replace R := R.below hh
         try replace x := x.below hh
         try replace y := y.below hh
         try replace u := u.below hh
         try replace v := v.below hh
         try replace m1 := m1.below hh
         try replace m2 := m2.below hh
         try replace m3 := m3.below hh
         try replace XA := XA.below hh
         try replace XB := XB.below hh
         try replace Z := Z.below hh
         try replace Z1 := Z1.below hh
         try replace Z2 := Z2.below hh
         try replace Z3 := Z3.below hh
         try replace XP := XP.below hh
         try replace XQ := XQ.below hh
         try replace XU := XU.below hh
         try replace XV := XV.below hh
         replace hb := bend hb hh
         have xp0 := XP.c0
         have xp1 := XP.c1
         have xq0 := XQ.c0
         have xq1 := XQ.c1
         have xu0 := XU.c0
         have xu1 := XU.c1
         have xv0 := XV.c0
         have xv1 := XV.c1))
      replace x := x.below (Below.refl _ _).drew
      replace y := y.below (Below.refl _ _).drew
      replace u := u.below (Below.refl _ _).drew
      replace v := v.below (Below.refl _ _).drew
      replace XP := XP.below (Below.refl _ _).drew
      replace XQ := XQ.below (Below.refl _ _).drew
      replace XU := XU.below (Below.refl _ _).drew
      replace XV := XV.below (Below.refl _ _).drew
      replace hb := hb.drew
      go_region_held3 (fun w' => w'.cell? ⟨w_p.heap.size, 0, none⟩ = some (.bool s_x) ∧ w'.cell? ⟨w_p.heap.size, 1, none⟩ = some (.slice A_x n_x c_x) ∧ w'.cell? ⟨w_p.heap.size + 1, 0, none⟩ = some (.bool s_y) ∧ w'.cell? ⟨w_p.heap.size + 1, 1, none⟩ = some (.slice A_y n_y c_y) ∧ w'.cell? ⟨w_u.heap.size, 0, none⟩ = some (.bool s_x) ∧ w'.cell? ⟨w_u.heap.size, 1, none⟩ = some (.slice A_u n_u c_u) ∧ w'.cell? ⟨w_u.heap.size + 1, 0, none⟩ = some (.bool s_v) ∧ w'.cell? ⟨w_u.heap.size + 1, 1, none⟩ = some (.slice A_v n_v c_v))
        (first | with_reducible exact ⟨XP.c0, XP.c1, XQ.c0, XQ.c1, XU.c0, XU.c1, XV.c0, XV.c1⟩)
        (first
        | (go_at_call 44; (with_reducible refine (zmul_zr (k + k2) x v (by omega) (by omega) (by omega)).mono ?_); rintro e w_m1 ⟨s_m1, A_m1, n_m1, c_m1, rfl, m1, hh⟩
           try replace X := X.below hh
           try replace Q := Q.below hh
           try replace Y := Y.below hh
           try replace R := R.below hh
           try replace x := x.below hh
           try replace y := y.below hh
           try replace u := u.below hh
           try replace v := v.below hh
           try replace m2 := m2.below hh
           try replace m3 := m3.below hh
           try replace XA := XA.below hh
           try replace XB := XB.below hh
           try replace Z := Z.below hh
           try replace Z1 := Z1.below hh
           try replace Z2 := Z2.below hh
           try replace Z3 := Z3.below hh
           try replace XP := XP.below hh
           try replace XQ := XQ.below hh
           try replace XU := XU.below hh
           try replace XV := XV.below hh
           replace hb := bend hb hh)
        | (go_at_call 44; (with_reducible refine (zmul_zr (k + k2) u y (by omega) (by omega) (by omega)).mono ?_); rintro e w_m2 ⟨s_m2, A_m2, n_m2, c_m2, rfl, m2, hh⟩
           try replace X := X.below hh
           try replace Q := Q.below hh
           try replace Y := Y.below hh
           try replace R := R.below hh
           try replace x := x.below hh
           try replace y := y.below hh
           try replace u := u.below hh
           try replace v := v.below hh
           try replace m1 := m1.below hh
           try replace m3 := m3.below hh
           try replace XA := XA.below hh
           try replace XB := XB.below hh
           try replace Z := Z.below hh
           try replace Z1 := Z1.below hh
           try replace Z2 := Z2.below hh
           try replace Z3 := Z3.below hh
           try replace XP := XP.below hh
           try replace XQ := XQ.below hh
           try replace XU := XU.below hh
           try replace XV := XV.below hh
           replace hb := bend hb hh)
        | (go_at_call 115; (with_reducible refine (zcmp_zr m1 m2 (by omega)).mono ?_); rintro e w_z ⟨rfl, hh⟩
           rw [HE.out]
           try replace X := X.below hh
           try replace Q := Q.below hh
           try replace Y := Y.below hh
           try replace R := R.below hh
           try replace x := x.below hh
           try replace y := y.below hh
           try replace u := u.below hh
           try replace v := v.below hh
           try replace m1 := m1.below hh
           try replace m2 := m2.below hh
           try replace m3 := m3.below hh
           try replace XA := XA.below hh
           try replace XB := XB.below hh
           try replace Z := Z.below hh
           try replace Z1 := Z1.below hh
           try replace Z2 := Z2.below hh
           try replace Z3 := Z3.below hh
           try replace XP := XP.below hh
           try replace XQ := XQ.below hh
           try replace XU := XU.below hh
           try replace XV := XV.below hh
           replace hb := bend hb hh))
      go_wp2_with fail
      go_ret
      exact ⟨rfl, hb⟩
  · have HE : Hid (cmpZ p p2 = cmpQ (mkRat p (den1 q)) (mkRat p2 (den1 q2))) := by
      have := cmpQ_signs (a := p.natAbs) (b := p2.natAbs) (den1_ne q) (den1_ne q2) (fun h => hst h.symm)
      rw [← x.uv, ← u.uv] at this
      exact this
    have hs := bool_not hst
    clear hst
    subst hs
    have hne : (s_x != (!s_x)) = true := by cases s_x <;> rfl
    go_wp2_with (first
      | (go_at_call 115; (with_reducible refine (zcmp_zr x u (by omega)).mono ?_); rintro e w_z ⟨rfl, hh⟩
         rw [HE.out]
         try replace X := X.below hh
         try replace Q := Q.below hh
         try replace Y := Y.below hh
         try replace R := R.below hh
         try replace x := x.below hh
         try replace y := y.below hh
         try replace u := u.below hh
         try replace v := v.below hh
         try replace m1 := m1.below hh
         try replace m2 := m2.below hh
         try replace m3 := m3.below hh
         try replace XA := XA.below hh
         try replace XB := XB.below hh
         try replace Z := Z.below hh
         try replace Z1 := Z1.below hh
         try replace Z2 := Z2.below hh
         try replace Z3 := Z3.below hh
         try replace XP := XP.below hh
         try replace XQ := XQ.below hh
         try replace XU := XU.below hh
         try replace XV := XV.below hh
         replace hb := bend hb hh
         have xp0 := XP.c0
         have xp1 := XP.c1
         have xq0 := XQ.c0
         have xq1 := XQ.c1
         have xu0 := XU.c0
         have xu1 := XU.c1
         have xv0 := XV.c0
         have xv1 := XV.c1))
    go_ret
    exact ⟨rfl, hb⟩
end Go.Proofs.YtlkjkhpjhllapaaGreat
namespace Go.Proofs.YtlkjkhpjhllapaaGreat
open Go Go.RowKit
set_option maxRecDepth 100000 in
set_option maxHeartbeats 4000000 in
theorem rprod_q {w : World} {s t : Bool} {A A' B B' : Option Addr} {n c n' c' m d m' d' k k2 : Nat} {p p2 : Int} {q q2 : Nat} (X : ZR w s A n c p k) (Q : NR w A' n' c' q k) (Y : ZR w t B m d p2 k2) (R : NR w B' m' d' q2 k2) (hk : k ≤ 400) (hkb : k2 ≤ 400) (h40 : k ≤ 400 ∨ k2 ≤ 400) (hk1 : 1 ≤ k) (hk3 : 1 ≤ k2) :
    Calls Tryz.prog 113 #[.agg #[.bool s, .slice A n c, .slice A' n' c'], .agg #[.bool t, .slice B m d, .slice B' m' d']] w (GivesP w (p * p2) ((den1 q : Int) * (den1 q2 : Int)) (k + k2)) := by
  go_enter Tryz.func113, Tryz.ntmps113
  go_wp2_with fail
  generalize hW : ((((w.alloc (Obj.cells #[Value.bool s, Value.slice A n c, Value.slice A' n' c'] 26)).alloc (Obj.cells #[Value.bool t, Value.slice B m d, Value.slice B' m' d'] 26)).alloc (Obj.cells #[Value.bool false, Value.slice none 0 0] 24)).alloc (Obj.cells #[Value.bool false, Value.slice none 0 0] 24)) = W
  have hb : Below w.heap.size w W := by subst hW; exact (((((Below.refl _ _).alloc (Nat.le_refl _) _).alloc (by simp) _).alloc (by simp; omega) _).alloc (by simp; omega) _)
  have XA : B3 W (w.heap.size) (Value.bool s) (Value.slice A n c) (Value.slice A' n' c') := by subst hW; exact (((B3.new' _ _ _ _ _ rfl).alloc _).alloc _).alloc _
  have XB : B3 W (w.heap.size + 1) (Value.bool t) (Value.slice B m d) (Value.slice B' m' d') := by subst hW; exact ((B3.new' _ _ _ _ _ (by simp)).alloc _).alloc _
  have Z1 : Bx W (w.heap.size + 1 + 1) (Value.bool false) (Value.slice none 0 0) := by subst hW; exact (Bx.new' _ _ _ _ (by simp)).alloc _
  have Z2 : Bx W (w.heap.size + 1 + 1 + 1) (Value.bool false) (Value.slice none 0 0) := by subst hW; exact Bx.new' _ _ _ _ (by simp)
  have hzW : W.heap.size = w.heap.size + 4 := by subst hW; simp
  clear hW
  replace X := X.below hb
  replace Q := Q.below hb
  replace Y := Y.below hb
  replace R := R.below hb
  have xa0 := XA.c0
  have xa1 := XA.c1
  have xa2 := XA.c2
  have xb0 := XB.c0
  have xb1 := XB.c1
  have xb2 := XB.c2
  go_upto_region 2 with (first
      | (go_at_call 114; (with_reducible refine (parts_any X Q (by omega) hk1).mono ?_); rintro e w_p ⟨s_x, A_x, n_x, c_x, s_y, A_y, n_y, c_y, rfl, x, y, hh⟩
         try replace X := X.below hh
         try replace Q := Q.below hh
         try replace Y := Y.below hh
         try replace R := R.below hh
         try replace u := u.below hh
         try replace v := v.below hh
         try replace m1 := m1.below hh
         try replace m2 := m2.below hh
         try replace m3 := m3.below hh
         try replace XA := XA.below hh
         try replace XB := XB.below hh
         try replace Z := Z.below hh
         try replace Z1 := Z1.below hh
         try replace Z2 := Z2.below hh
         try replace Z3 := Z3.below hh
         try replace XP := XP.below hh
         try replace XQ := XQ.below hh
         try replace XU := XU.below hh
         try replace XV := XV.below hh
         replace hb := bend hb hh))
  have hp1 := Z2.lt
  generalize hW : ((w_p.alloc (Obj.cells #[Value.bool s_x, Value.slice A_x n_x c_x] 24)).alloc (Obj.cells #[Value.bool s_y, Value.slice A_y n_y c_y] 24)) = W2
  have hh : Below w_p.heap.size w_p W2 := by subst hW; exact (((Below.refl _ _).alloc (Nat.le_refl _) _).alloc (by simp) _)
  have XP : Bx W2 (w_p.heap.size) (Value.bool s_x) (Value.slice A_x n_x c_x) := by subst hW; exact (Bx.new' _ _ _ _ rfl).alloc _
  have XQ : Bx W2 (w_p.heap.size + 1) (Value.bool s_y) (Value.slice A_y n_y c_y) := by subst hW; exact Bx.new' _ _ _ _ (by simp)
  have hzW2 : W2.heap.size = w_p.heap.size + 2 := by subst hW; simp
  clear hW
  try replace X := X.below hh
  try replace Q := Q.below hh
  try replace Y := Y.below hh
  try replace R := R.below hh
  try replace x := x.below hh
  try replace y := y.below hh
  try replace XA := XA.below hh
  try replace XB := XB.below hh
  try replace Z1 := Z1.below hh
  try replace Z2 := Z2.below hh
  replace hb := bend hb hh
  have xb0 := XB.c0
  have xb1 := XB.c1
  have xb2 := XB.c2
  go_upto_region 3 with (first
      | (go_at_call 114; (with_reducible refine (parts_any Y R (by omega) hk3).mono ?_); rintro e w_u ⟨s_u, A_u, n_u, c_u, s_v, A_v, n_v, c_v, rfl, u, v, hh⟩
         try replace X := X.below hh
         try replace Q := Q.below hh
         try replace Y := Y.below hh
         try replace R := R.below hh
         try replace x := x.below hh
         try replace y := y.below hh
         try replace m1 := m1.below hh
         try replace m2 := m2.below hh
         try replace m3 := m3.below hh
         try replace XA := XA.below hh
         try replace XB := XB.below hh
         try replace Z := Z.below hh
         try replace Z1 := Z1.below hh
         try replace Z2 := Z2.below hh
         try replace Z3 := Z3.below hh
         try replace XP := XP.below hh
         try replace XQ := XQ.below hh
         try replace XU := XU.below hh
         try replace XV := XV.below hh
         replace hb := bend hb hh))
  have hu1 := XQ.lt
  generalize hW : ((w_u.alloc (Obj.cells #[Value.bool s_u, Value.slice A_u n_u c_u] 24)).alloc (Obj.cells #[Value.bool s_v, Value.slice A_v n_v c_v] 24)) = W3
  have hh : Below w_u.heap.size w_u W3 := by subst hW; exact (((Below.refl _ _).alloc (Nat.le_refl _) _).alloc (by simp) _)
  have XU : Bx W3 (w_u.heap.size) (Value.bool s_u) (Value.slice A_u n_u c_u) := by subst hW; exact (Bx.new' _ _ _ _ rfl).alloc _
  have XV : Bx W3 (w_u.heap.size + 1) (Value.bool s_v) (Value.slice A_v n_v c_v) := by subst hW; exact Bx.new' _ _ _ _ (by simp)
  have hzW3 : W3.heap.size = w_u.heap.size + 2 := by subst hW; simp
  clear hW
  try replace x := x.below hh
  try replace y := y.below hh
  try replace u := u.below hh
  try replace v := v.below hh
  try replace XP := XP.below hh
  try replace XQ := XQ.below hh
  try replace Z1 := Z1.below hh
  try replace Z2 := Z2.below hh
  replace hb := bend hb hh
  replace x := x.below (Below.refl _ _).drew
  replace y := y.below (Below.refl _ _).drew
  replace u := u.below (Below.refl _ _).drew
  replace v := v.below (Below.refl _ _).drew
  replace Z1 := Z1.below (Below.refl _ _).drew
  replace Z2 := Z2.below (Below.refl _ _).drew
  replace XP := XP.below (Below.refl _ _).drew
  replace XQ := XQ.below (Below.refl _ _).drew
  replace XU := XU.below (Below.refl _ _).drew
  replace XV := XV.below (Below.refl _ _).drew
  replace hb := hb.drew
  go_region_held3 (fun w' => w'.cell? ⟨w_p.heap.size, 0, none⟩ = some (.bool s_x) ∧ w'.cell? ⟨w_p.heap.size, 1, none⟩ = some (.slice A_x n_x c_x) ∧ w'.cell? ⟨w_p.heap.size + 1, 0, none⟩ = some (.bool s_y) ∧ w'.cell? ⟨w_p.heap.size + 1, 1, none⟩ = some (.slice A_y n_y c_y) ∧ w'.cell? ⟨w_u.heap.size, 0, none⟩ = some (.bool s_u) ∧ w'.cell? ⟨w_u.heap.size, 1, none⟩ = some (.slice A_u n_u c_u) ∧ w'.cell? ⟨w_u.heap.size + 1, 0, none⟩ = some (.bool s_v) ∧ w'.cell? ⟨w_u.heap.size + 1, 1, none⟩ = some (.slice A_v n_v c_v))
    (first | with_reducible exact ⟨XP.c0, XP.c1, XQ.c0, XQ.c1, XU.c0, XU.c1, XV.c0, XV.c1⟩ | with_reducible exact ⟨(set2_cell _ _ _ _ _ _ (by omega)).trans (XP.c0), (set2_cell _ _ _ _ _ _ (by omega)).trans (XP.c1), (set2_cell _ _ _ _ _ _ (by omega)).trans (XQ.c0), (set2_cell _ _ _ _ _ _ (by omega)).trans (XQ.c1), (set2_cell _ _ _ _ _ _ (by omega)).trans (XU.c0), (set2_cell _ _ _ _ _ _ (by omega)).trans (XU.c1), (set2_cell _ _ _ _ _ _ (by omega)).trans (XV.c0), (set2_cell _ _ _ _ _ _ (by omega)).trans (XV.c1)⟩ | with_reducible exact ⟨(set2_cell _ _ _ _ _ _ (by omega)).trans ((set2_cell _ _ _ _ _ _ (by omega)).trans (XP.c0)), (set2_cell _ _ _ _ _ _ (by omega)).trans ((set2_cell _ _ _ _ _ _ (by omega)).trans (XP.c1)), (set2_cell _ _ _ _ _ _ (by omega)).trans ((set2_cell _ _ _ _ _ _ (by omega)).trans (XQ.c0)), (set2_cell _ _ _ _ _ _ (by omega)).trans ((set2_cell _ _ _ _ _ _ (by omega)).trans (XQ.c1)), (set2_cell _ _ _ _ _ _ (by omega)).trans ((set2_cell _ _ _ _ _ _ (by omega)).trans (XU.c0)), (set2_cell _ _ _ _ _ _ (by omega)).trans ((set2_cell _ _ _ _ _ _ (by omega)).trans (XU.c1)), (set2_cell _ _ _ _ _ _ (by omega)).trans ((set2_cell _ _ _ _ _ _ (by omega)).trans (XV.c0)), (set2_cell _ _ _ _ _ _ (by omega)).trans ((set2_cell _ _ _ _ _ _ (by omega)).trans (XV.c1))⟩)
    (first
    | (go_at_call 44; (with_reducible refine (zmul_zr (k + k2) x u (by omega) (by omega) (by omega)).mono ?_); rintro e w_m1 ⟨s_m1, A_m1, n_m1, c_m1, rfl, m1, hh⟩
       try replace X := X.below hh
       try replace Q := Q.below hh
       try replace Y := Y.below hh
       try replace R := R.below hh
       try replace x := x.below hh
       try replace y := y.below hh
       try replace u := u.below hh
       try replace v := v.below hh
       try replace m2 := m2.below hh
       try replace m3 := m3.below hh
       try replace XA := XA.below hh
       try replace XB := XB.below hh
       try replace Z := Z.below hh
       try replace Z1 := Z1.below hh
       try replace Z2 := Z2.below hh
       try replace Z3 := Z3.below hh
       try replace XP := XP.below hh
       try replace XQ := XQ.below hh
       try replace XU := XU.below hh
       try replace XV := XV.below hh
       replace hb := bend hb hh)
    | (go_at_call 44; (with_reducible refine (zmul_zr (k + k2) y v (by omega) (by omega) (by omega)).mono ?_); rintro e w_m2 ⟨s_m2, A_m2, n_m2, c_m2, rfl, m2, hh⟩
       try replace X := X.below hh
       try replace Q := Q.below hh
       try replace Y := Y.below hh
       try replace R := R.below hh
       try replace x := x.below hh
       try replace y := y.below hh
       try replace u := u.below hh
       try replace v := v.below hh
       try replace m1 := m1.below hh
       try replace m3 := m3.below hh
       try replace XA := XA.below hh
       try replace XB := XB.below hh
       try replace Z := Z.below hh
       try replace Z1 := Z1.below hh
       try replace Z2 := Z2.below hh
       try replace Z3 := Z3.below hh
       try replace XP := XP.below hh
       try replace XQ := XQ.below hh
       try replace XU := XU.below hh
       try replace XV := XV.below hh
       replace hb := bend hb hh
       have z0 := Z1.c0
       have z1 := Z1.c1
       have z2 := Z1.f0
       have z3 := Z1.f1
       have y0 := Z2.c0
       have y1 := Z2.c1
       have y2 := Z2.f0
       have y3 := Z2.f1
       have Z2o := Z2.other (k := w.heap.size + 1 + 1) (by omega) (.bool s_m1) (.slice A_m1 n_m1 c_m1)
       have zo0 := Z2o.c0
       have zo1 := Z2o.c1
       have zo2 := Z2o.f0
       have zo3 := Z2o.f1))
  go_wp2_with fail
  have G1 := (Z1.set2 (.bool s_m1) (.slice A_m1 n_m1 c_m1)).other (k := w.heap.size + 1 + 1 + 1) (by omega) (.bool s_m2) (.slice A_m2 n_m2 c_m2)
  have G2 := (Z2.other (k := w.heap.size + 1 + 1) (by omega) (.bool s_m1) (.slice A_m1 n_m1 c_m1)).set2 (.bool s_m2) (.slice A_m2 n_m2 c_m2)
  have g0 := G1.c0
  have g1 := G1.c1
  have g2 := G2.c0
  have g3 := G2.c1
  have HT := two_set hb (by omega) (by omega) (by omega) Z1 Z2 m1 m2 (.bool s_m1) (.slice A_m1 n_m1 c_m1) (.bool s_m2) (.slice A_m2 n_m2 c_m2)
  refine bodyPost_ret (v := .tuple #[.agg #[.bool s_m1, .slice A_m1 n_m1 c_m1], .agg #[.bool s_m2, .slice A_m2 n_m2 c_m2]]) (by simp [results, Tryz.results113, go_sem, g0, g1, g2, g3]) rfl ?_
  exact ⟨_, _, _, _, _, _, _, _, rfl, HT.1, HT.2.1, HT.2.2⟩
set_option maxRecDepth 100000 in
set_option maxHeartbeats 4000000 in
theorem rquot_q {w : World} {s t : Bool} {A A' B B' : Option Addr} {n c n' c' m d m' d' k k2 : Nat} {p p2 : Int} {q q2 : Nat} (X : ZR w s A n c p k) (Q : NR w A' n' c' q k) (Y : ZR w t B m d p2 k2) (R : NR w B' m' d' q2 k2) (hk : k ≤ 400) (hkb : k2 ≤ 400) (h40 : k ≤ 400 ∨ k2 ≤ 400) (hk1 : 1 ≤ k) (hk3 : 1 ≤ k2) :
    Calls Tryz.prog 103 #[.agg #[.bool s, .slice A n c, .slice A' n' c'], .agg #[.bool t, .slice B m d, .slice B' m' d']] w (GivesP w (p * (den1 q2 : Int)) ((den1 q : Int) * p2) (k + k2)) := by
  go_enter Tryz.func103, Tryz.ntmps103
  go_wp2_with fail
  generalize hW : ((((w.alloc (Obj.cells #[Value.bool s, Value.slice A n c, Value.slice A' n' c'] 26)).alloc (Obj.cells #[Value.bool t, Value.slice B m d, Value.slice B' m' d'] 26)).alloc (Obj.cells #[Value.bool false, Value.slice none 0 0] 24)).alloc (Obj.cells #[Value.bool false, Value.slice none 0 0] 24)) = W
  have hb : Below w.heap.size w W := by subst hW; exact (((((Below.refl _ _).alloc (Nat.le_refl _) _).alloc (by simp) _).alloc (by simp; omega) _).alloc (by simp; omega) _)
  have XA : B3 W (w.heap.size) (Value.bool s) (Value.slice A n c) (Value.slice A' n' c') := by subst hW; exact (((B3.new' _ _ _ _ _ rfl).alloc _).alloc _).alloc _
  have XB : B3 W (w.heap.size + 1) (Value.bool t) (Value.slice B m d) (Value.slice B' m' d') := by subst hW; exact ((B3.new' _ _ _ _ _ (by simp)).alloc _).alloc _
  have Z1 : Bx W (w.heap.size + 1 + 1) (Value.bool false) (Value.slice none 0 0) := by subst hW; exact (Bx.new' _ _ _ _ (by simp)).alloc _
  have Z2 : Bx W (w.heap.size + 1 + 1 + 1) (Value.bool false) (Value.slice none 0 0) := by subst hW; exact Bx.new' _ _ _ _ (by simp)
  have hzW : W.heap.size = w.heap.size + 4 := by subst hW; simp
  clear hW
  replace X := X.below hb
  replace Q := Q.below hb
  replace Y := Y.below hb
  replace R := R.below hb
  have xa0 := XA.c0
  have xa1 := XA.c1
  have xa2 := XA.c2
  have xb0 := XB.c0
  have xb1 := XB.c1
  have xb2 := XB.c2
  go_upto_region 2 with (first
      | (go_at_call 114; (with_reducible refine (parts_any X Q (by omega) hk1).mono ?_); rintro e w_p ⟨s_x, A_x, n_x, c_x, s_y, A_y, n_y, c_y, rfl, x, y, hh⟩
         try replace X := X.below hh
         try replace Q := Q.below hh
         try replace Y := Y.below hh
         try replace R := R.below hh
         try replace u := u.below hh
         try replace v := v.below hh
         try replace m1 := m1.below hh
         try replace m2 := m2.below hh
         try replace m3 := m3.below hh
         try replace XA := XA.below hh
         try replace XB := XB.below hh
         try replace Z := Z.below hh
         try replace Z1 := Z1.below hh
         try replace Z2 := Z2.below hh
         try replace Z3 := Z3.below hh
         try replace XP := XP.below hh
         try replace XQ := XQ.below hh
         try replace XU := XU.below hh
         try replace XV := XV.below hh
         replace hb := bend hb hh))
  have hp1 := Z2.lt
  generalize hW : ((w_p.alloc (Obj.cells #[Value.bool s_x, Value.slice A_x n_x c_x] 24)).alloc (Obj.cells #[Value.bool s_y, Value.slice A_y n_y c_y] 24)) = W2
  have hh : Below w_p.heap.size w_p W2 := by subst hW; exact (((Below.refl _ _).alloc (Nat.le_refl _) _).alloc (by simp) _)
  have XP : Bx W2 (w_p.heap.size) (Value.bool s_x) (Value.slice A_x n_x c_x) := by subst hW; exact (Bx.new' _ _ _ _ rfl).alloc _
  have XQ : Bx W2 (w_p.heap.size + 1) (Value.bool s_y) (Value.slice A_y n_y c_y) := by subst hW; exact Bx.new' _ _ _ _ (by simp)
  have hzW2 : W2.heap.size = w_p.heap.size + 2 := by subst hW; simp
  clear hW
  try replace X := X.below hh
  try replace Q := Q.below hh
  try replace Y := Y.below hh
  try replace R := R.below hh
  try replace x := x.below hh
  try replace y := y.below hh
  try replace XA := XA.below hh
  try replace XB := XB.below hh
  try replace Z1 := Z1.below hh
  try replace Z2 := Z2.below hh
  replace hb := bend hb hh
  have xb0 := XB.c0
  have xb1 := XB.c1
  have xb2 := XB.c2
  go_upto_region 3 with (first
      | (go_at_call 114; (with_reducible refine (parts_any Y R (by omega) hk3).mono ?_); rintro e w_u ⟨s_u, A_u, n_u, c_u, s_v, A_v, n_v, c_v, rfl, u, v, hh⟩
         try replace X := X.below hh
         try replace Q := Q.below hh
         try replace Y := Y.below hh
         try replace R := R.below hh
         try replace x := x.below hh
         try replace y := y.below hh
         try replace m1 := m1.below hh
         try replace m2 := m2.below hh
         try replace m3 := m3.below hh
         try replace XA := XA.below hh
         try replace XB := XB.below hh
         try replace Z := Z.below hh
         try replace Z1 := Z1.below hh
         try replace Z2 := Z2.below hh
         try replace Z3 := Z3.below hh
         try replace XP := XP.below hh
         try replace XQ := XQ.below hh
         try replace XU := XU.below hh
         try replace XV := XV.below hh
         replace hb := bend hb hh))
  have hu1 := XQ.lt
  generalize hW : ((w_u.alloc (Obj.cells #[Value.bool s_u, Value.slice A_u n_u c_u] 24)).alloc (Obj.cells #[Value.bool s_v, Value.slice A_v n_v c_v] 24)) = W3
  have hh : Below w_u.heap.size w_u W3 := by subst hW; exact (((Below.refl _ _).alloc (Nat.le_refl _) _).alloc (by simp) _)
  have XU : Bx W3 (w_u.heap.size) (Value.bool s_u) (Value.slice A_u n_u c_u) := by subst hW; exact (Bx.new' _ _ _ _ rfl).alloc _
  have XV : Bx W3 (w_u.heap.size + 1) (Value.bool s_v) (Value.slice A_v n_v c_v) := by subst hW; exact Bx.new' _ _ _ _ (by simp)
  have hzW3 : W3.heap.size = w_u.heap.size + 2 := by subst hW; simp
  clear hW
  try replace x := x.below hh
  try replace y := y.below hh
  try replace u := u.below hh
  try replace v := v.below hh
  try replace XP := XP.below hh
  try replace XQ := XQ.below hh
  try replace Z1 := Z1.below hh
  try replace Z2 := Z2.below hh
  replace hb := bend hb hh
  replace x := x.below (Below.refl _ _).drew
  replace y := y.below (Below.refl _ _).drew
  replace u := u.below (Below.refl _ _).drew
  replace v := v.below (Below.refl _ _).drew
  replace Z1 := Z1.below (Below.refl _ _).drew
  replace Z2 := Z2.below (Below.refl _ _).drew
  replace XP := XP.below (Below.refl _ _).drew
  replace XQ := XQ.below (Below.refl _ _).drew
  replace XU := XU.below (Below.refl _ _).drew
  replace XV := XV.below (Below.refl _ _).drew
  replace hb := hb.drew
  go_region_held3 (fun w' => w'.cell? ⟨w_p.heap.size, 0, none⟩ = some (.bool s_x) ∧ w'.cell? ⟨w_p.heap.size, 1, none⟩ = some (.slice A_x n_x c_x) ∧ w'.cell? ⟨w_p.heap.size + 1, 0, none⟩ = some (.bool s_y) ∧ w'.cell? ⟨w_p.heap.size + 1, 1, none⟩ = some (.slice A_y n_y c_y) ∧ w'.cell? ⟨w_u.heap.size, 0, none⟩ = some (.bool s_u) ∧ w'.cell? ⟨w_u.heap.size, 1, none⟩ = some (.slice A_u n_u c_u) ∧ w'.cell? ⟨w_u.heap.size + 1, 0, none⟩ = some (.bool s_v) ∧ w'.cell? ⟨w_u.heap.size + 1, 1, none⟩ = some (.slice A_v n_v c_v))
    (first | with_reducible exact ⟨XP.c0, XP.c1, XQ.c0, XQ.c1, XU.c0, XU.c1, XV.c0, XV.c1⟩ | with_reducible exact ⟨(set2_cell _ _ _ _ _ _ (by omega)).trans (XP.c0), (set2_cell _ _ _ _ _ _ (by omega)).trans (XP.c1), (set2_cell _ _ _ _ _ _ (by omega)).trans (XQ.c0), (set2_cell _ _ _ _ _ _ (by omega)).trans (XQ.c1), (set2_cell _ _ _ _ _ _ (by omega)).trans (XU.c0), (set2_cell _ _ _ _ _ _ (by omega)).trans (XU.c1), (set2_cell _ _ _ _ _ _ (by omega)).trans (XV.c0), (set2_cell _ _ _ _ _ _ (by omega)).trans (XV.c1)⟩ | with_reducible exact ⟨(set2_cell _ _ _ _ _ _ (by omega)).trans ((set2_cell _ _ _ _ _ _ (by omega)).trans (XP.c0)), (set2_cell _ _ _ _ _ _ (by omega)).trans ((set2_cell _ _ _ _ _ _ (by omega)).trans (XP.c1)), (set2_cell _ _ _ _ _ _ (by omega)).trans ((set2_cell _ _ _ _ _ _ (by omega)).trans (XQ.c0)), (set2_cell _ _ _ _ _ _ (by omega)).trans ((set2_cell _ _ _ _ _ _ (by omega)).trans (XQ.c1)), (set2_cell _ _ _ _ _ _ (by omega)).trans ((set2_cell _ _ _ _ _ _ (by omega)).trans (XU.c0)), (set2_cell _ _ _ _ _ _ (by omega)).trans ((set2_cell _ _ _ _ _ _ (by omega)).trans (XU.c1)), (set2_cell _ _ _ _ _ _ (by omega)).trans ((set2_cell _ _ _ _ _ _ (by omega)).trans (XV.c0)), (set2_cell _ _ _ _ _ _ (by omega)).trans ((set2_cell _ _ _ _ _ _ (by omega)).trans (XV.c1))⟩)
    (first
    | (go_at_call 44; (with_reducible refine (zmul_zr (k + k2) x v (by omega) (by omega) (by omega)).mono ?_); rintro e w_m1 ⟨s_m1, A_m1, n_m1, c_m1, rfl, m1, hh⟩
       try replace X := X.below hh
       try replace Q := Q.below hh
       try replace Y := Y.below hh
       try replace R := R.below hh
       try replace x := x.below hh
       try replace y := y.below hh
       try replace u := u.below hh
       try replace v := v.below hh
       try replace m2 := m2.below hh
       try replace m3 := m3.below hh
       try replace XA := XA.below hh
       try replace XB := XB.below hh
       try replace Z := Z.below hh
       try replace Z1 := Z1.below hh
       try replace Z2 := Z2.below hh
       try replace Z3 := Z3.below hh
       try replace XP := XP.below hh
       try replace XQ := XQ.below hh
       try replace XU := XU.below hh
       try replace XV := XV.below hh
       replace hb := bend hb hh)
    | (go_at_call 44; (with_reducible refine (zmul_zr (k + k2) y u (by omega) (by omega) (by omega)).mono ?_); rintro e w_m2 ⟨s_m2, A_m2, n_m2, c_m2, rfl, m2, hh⟩
       try replace X := X.below hh
       try replace Q := Q.below hh
       try replace Y := Y.below hh
       try replace R := R.below hh
       try replace x := x.below hh
       try replace y := y.below hh
       try replace u := u.below hh
       try replace v := v.below hh
       try replace m1 := m1.below hh
       try replace m3 := m3.below hh
       try replace XA := XA.below hh
       try replace XB := XB.below hh
       try replace Z := Z.below hh
       try replace Z1 := Z1.below hh
       try replace Z2 := Z2.below hh
       try replace Z3 := Z3.below hh
       try replace XP := XP.below hh
       try replace XQ := XQ.below hh
       try replace XU := XU.below hh
       try replace XV := XV.below hh
       replace hb := bend hb hh
       have z0 := Z1.c0
       have z1 := Z1.c1
       have z2 := Z1.f0
       have z3 := Z1.f1
       have y0 := Z2.c0
       have y1 := Z2.c1
       have y2 := Z2.f0
       have y3 := Z2.f1
       have Z2o := Z2.other (k := w.heap.size + 1 + 1) (by omega) (.bool s_m1) (.slice A_m1 n_m1 c_m1)
       have zo0 := Z2o.c0
       have zo1 := Z2o.c1
       have zo2 := Z2o.f0
       have zo3 := Z2o.f1))
  go_wp2_with fail
  have G1 := (Z1.set2 (.bool s_m1) (.slice A_m1 n_m1 c_m1)).other (k := w.heap.size + 1 + 1 + 1) (by omega) (.bool s_m2) (.slice A_m2 n_m2 c_m2)
  have G2 := (Z2.other (k := w.heap.size + 1 + 1) (by omega) (.bool s_m1) (.slice A_m1 n_m1 c_m1)).set2 (.bool s_m2) (.slice A_m2 n_m2 c_m2)
  have g0 := G1.c0
  have g1 := G1.c1
  have g2 := G2.c0
  have g3 := G2.c1
  have HT := two_set hb (by omega) (by omega) (by omega) Z1 Z2 m1 m2 (.bool s_m1) (.slice A_m1 n_m1 c_m1) (.bool s_m2) (.slice A_m2 n_m2 c_m2)
  refine bodyPost_ret (v := .tuple #[.agg #[.bool s_m1, .slice A_m1 n_m1 c_m1], .agg #[.bool s_m2, .slice A_m2 n_m2 c_m2]]) (by simp [results, Tryz.results103, go_sem, g0, g1, g2, g3]) rfl ?_
  exact ⟨_, _, _, _, _, _, _, _, rfl, HT.1, HT.2.1, HT.2.2⟩
theorem three_set {w W : World} {g1 g2 g3 n c m d n3 d3 k n1 c1 n2 c2 n4 c4 : Nat} {s t r a b b3 : Bool} {A B C A1 A2 A4 : Option Addr} {p q l : Int} (hb : Below w.heap.size w W) (h1 : w.heap.size ≤ g1) (h2 : w.heap.size ≤ g2) (h3 : w.heap.size ≤ g3) (hne : g1 ≠ g2) (hne2 : g1 ≠ g3) (hne3 : g2 ≠ g3)
    (Z1 : Bx W g1 (.bool a) (.slice A1 n1 c1)) (Z2 : Bx W g2 (.bool b) (.slice A2 n2 c2)) (Z3 : Bx W g3 (.bool b3) (.slice A4 n4 c4)) (X : ZR W s A n c p k) (Y : ZR W t B m d q k) (L : ZR W r C n3 d3 l k) (x y z u i j : Value) :
    ZR ((((((W.setCell ⟨g1, 0, none⟩ x).setCell ⟨g1, 1, none⟩ y).setCell ⟨g2, 0, none⟩ z).setCell ⟨g2, 1, none⟩ u).setCell ⟨g3, 0, none⟩ i).setCell ⟨g3, 1, none⟩ j) s A n c p k ∧
    ZR ((((((W.setCell ⟨g1, 0, none⟩ x).setCell ⟨g1, 1, none⟩ y).setCell ⟨g2, 0, none⟩ z).setCell ⟨g2, 1, none⟩ u).setCell ⟨g3, 0, none⟩ i).setCell ⟨g3, 1, none⟩ j) t B m d q k ∧
    ZR ((((((W.setCell ⟨g1, 0, none⟩ x).setCell ⟨g1, 1, none⟩ y).setCell ⟨g2, 0, none⟩ z).setCell ⟨g2, 1, none⟩ u).setCell ⟨g3, 0, none⟩ i).setCell ⟨g3, 1, none⟩ j) r C n3 d3 l k ∧
    Below w.heap.size w ((((((W.setCell ⟨g1, 0, none⟩ x).setCell ⟨g1, 1, none⟩ y).setCell ⟨g2, 0, none⟩ z).setCell ⟨g2, 1, none⟩ u).setCell ⟨g3, 0, none⟩ i).setCell ⟨g3, 1, none⟩ j) := by
  have h := two_set hb h1 h2 hne Z1 Z2 X Y x y z u
  have h' := two_set hb h1 h2 hne Z1 Z2 L Y x y z u
  have Z4 := (Z3.other (k := g1) (Ne.symm hne2) x y).other (k := g2) (Ne.symm hne3) z u
  exact ⟨h.1.set2x Z4 i j, h.2.1.set2x Z4 i j, h'.1.set2x Z4 i j, (h.2.2.setCell h3 _).setCell h3 _⟩
def GivesA (w : World) (v u : Rat) (k : Nat) (e : Ending) (w' : World) : Prop :=
  ∃ (f g : Int) (L : Nat), L ≠ 0 ∧ v = mkRat f L ∧ u = mkRat g L ∧ ∃ s A n c t B m d r C n3 d3, e = .returned (.tuple #[.agg #[.bool s, .slice A n c], .agg #[.bool t, .slice B m d], .agg #[.bool r, .slice C n3 d3]]) ∧
    ZR w' s A n c f k ∧ ZR w' t B m d g k ∧ ZR w' r C n3 d3 (L : Int) k ∧ Below w.heap.size w w'
set_option maxRecDepth 100000 in
set_option maxHeartbeats 4000000 in
theorem ralike_q {w : World} {s t : Bool} {A A' B B' : Option Addr} {n c n' c' m d m' d' k k2 : Nat} {p p2 : Int} {q q2 : Nat} (X : ZR w s A n c p k) (Q : NR w A' n' c' q k) (Y : ZR w t B m d p2 k2) (R : NR w B' m' d' q2 k2) (hk : k ≤ 400) (hkb : k2 ≤ 400) (h40 : k ≤ 400 ∨ k2 ≤ 400) (hk1 : 1 ≤ k) (hk3 : 1 ≤ k2) :
    Calls Tryz.prog 168 #[.agg #[.bool s, .slice A n c, .slice A' n' c'], .agg #[.bool t, .slice B m d, .slice B' m' d']] w (GivesA w (mkRat p (den1 q)) (mkRat p2 (den1 q2)) (k + k2)) := by
  go_enter Tryz.func168, Tryz.ntmps168
  go_wp2_with fail
  generalize hW : (((((w.alloc (Obj.cells #[Value.bool s, Value.slice A n c, Value.slice A' n' c'] 26)).alloc (Obj.cells #[Value.bool t, Value.slice B m d, Value.slice B' m' d'] 26)).alloc (Obj.cells #[Value.bool false, Value.slice none 0 0] 24)).alloc (Obj.cells #[Value.bool false, Value.slice none 0 0] 24)).alloc (Obj.cells #[Value.bool false, Value.slice none 0 0] 24)) = W
  have hb : Below w.heap.size w W := by subst hW; exact ((((((Below.refl _ _).alloc (Nat.le_refl _) _).alloc (by simp) _).alloc (by simp; omega) _).alloc (by simp; omega) _).alloc (by simp; omega) _)
  have XA : B3 W (w.heap.size) (Value.bool s) (Value.slice A n c) (Value.slice A' n' c') := by subst hW; exact ((((B3.new' _ _ _ _ _ rfl).alloc _).alloc _).alloc _).alloc _
  have XB : B3 W (w.heap.size + 1) (Value.bool t) (Value.slice B m d) (Value.slice B' m' d') := by subst hW; exact (((B3.new' _ _ _ _ _ (by simp)).alloc _).alloc _).alloc _
  have Z1 : Bx W (w.heap.size + 1 + 1) (Value.bool false) (Value.slice none 0 0) := by subst hW; exact ((Bx.new' _ _ _ _ (by simp)).alloc _).alloc _
  have Z2 : Bx W (w.heap.size + 1 + 1 + 1) (Value.bool false) (Value.slice none 0 0) := by subst hW; exact (Bx.new' _ _ _ _ (by simp)).alloc _
  have Z3 : Bx W (w.heap.size + 1 + 1 + 1 + 1) (Value.bool false) (Value.slice none 0 0) := by subst hW; exact Bx.new' _ _ _ _ (by simp)
  have hzW : W.heap.size = w.heap.size + 5 := by subst hW; simp
  clear hW
  replace X := X.below hb
  replace Q := Q.below hb
  replace Y := Y.below hb
  replace R := R.below hb
  have xa0 := XA.c0
  have xa1 := XA.c1
  have xa2 := XA.c2
  have xb0 := XB.c0
  have xb1 := XB.c1
  have xb2 := XB.c2
  go_upto_region 2 with (first
      | (go_at_call 114; (with_reducible refine (parts_any X Q (by omega) hk1).mono ?_); rintro e w_p ⟨s_x, A_x, n_x, c_x, s_y, A_y, n_y, c_y, rfl, x, y, hh⟩
         try replace X := X.below hh
         try replace Q := Q.below hh
         try replace Y := Y.below hh
         try replace R := R.below hh
         try replace u := u.below hh
         try replace v := v.below hh
         try replace m1 := m1.below hh
         try replace m2 := m2.below hh
         try replace m3 := m3.below hh
         try replace XA := XA.below hh
         try replace XB := XB.below hh
         try replace Z := Z.below hh
         try replace Z1 := Z1.below hh
         try replace Z2 := Z2.below hh
         try replace Z3 := Z3.below hh
         try replace XP := XP.below hh
         try replace XQ := XQ.below hh
         try replace XU := XU.below hh
         try replace XV := XV.below hh
         replace hb := bend hb hh))
  have hp1 := Z3.lt
  generalize hW : ((w_p.alloc (Obj.cells #[Value.bool s_x, Value.slice A_x n_x c_x] 24)).alloc (Obj.cells #[Value.bool s_y, Value.slice A_y n_y c_y] 24)) = W2
  have hh : Below w_p.heap.size w_p W2 := by subst hW; exact (((Below.refl _ _).alloc (Nat.le_refl _) _).alloc (by simp) _)
  have XP : Bx W2 (w_p.heap.size) (Value.bool s_x) (Value.slice A_x n_x c_x) := by subst hW; exact (Bx.new' _ _ _ _ rfl).alloc _
  have XQ : Bx W2 (w_p.heap.size + 1) (Value.bool s_y) (Value.slice A_y n_y c_y) := by subst hW; exact Bx.new' _ _ _ _ (by simp)
  have hzW2 : W2.heap.size = w_p.heap.size + 2 := by subst hW; simp
  clear hW
  try replace X := X.below hh
  try replace Q := Q.below hh
  try replace Y := Y.below hh
  try replace R := R.below hh
  try replace x := x.below hh
  try replace y := y.below hh
  try replace XA := XA.below hh
  try replace XB := XB.below hh
  try replace Z1 := Z1.below hh
  try replace Z2 := Z2.below hh
  try replace Z3 := Z3.below hh
  replace hb := bend hb hh
  have xb0 := XB.c0
  have xb1 := XB.c1
  have xb2 := XB.c2
  go_upto_region 3 with (first
      | (go_at_call 114; (with_reducible refine (parts_any Y R (by omega) hk3).mono ?_); rintro e w_u ⟨s_u, A_u, n_u, c_u, s_v, A_v, n_v, c_v, rfl, u, v, hh⟩
         try replace X := X.below hh
         try replace Q := Q.below hh
         try replace Y := Y.below hh
         try replace R := R.below hh
         try replace x := x.below hh
         try replace y := y.below hh
         try replace m1 := m1.below hh
         try replace m2 := m2.below hh
         try replace m3 := m3.below hh
         try replace XA := XA.below hh
         try replace XB := XB.below hh
         try replace Z := Z.below hh
         try replace Z1 := Z1.below hh
         try replace Z2 := Z2.below hh
         try replace Z3 := Z3.below hh
         try replace XP := XP.below hh
         try replace XQ := XQ.below hh
         try replace XU := XU.below hh
         try replace XV := XV.below hh
         replace hb := bend hb hh))
  have hu1 := XQ.lt
  generalize hW : ((w_u.alloc (Obj.cells #[Value.bool s_u, Value.slice A_u n_u c_u] 24)).alloc (Obj.cells #[Value.bool s_v, Value.slice A_v n_v c_v] 24)) = W3
  have hh : Below w_u.heap.size w_u W3 := by subst hW; exact (((Below.refl _ _).alloc (Nat.le_refl _) _).alloc (by simp) _)
  have XU : Bx W3 (w_u.heap.size) (Value.bool s_u) (Value.slice A_u n_u c_u) := by subst hW; exact (Bx.new' _ _ _ _ rfl).alloc _
  have XV : Bx W3 (w_u.heap.size + 1) (Value.bool s_v) (Value.slice A_v n_v c_v) := by subst hW; exact Bx.new' _ _ _ _ (by simp)
  have hzW3 : W3.heap.size = w_u.heap.size + 2 := by subst hW; simp
  clear hW
  try replace x := x.below hh
  try replace y := y.below hh
  try replace u := u.below hh
  try replace v := v.below hh
  try replace XP := XP.below hh
  try replace XQ := XQ.below hh
  try replace Z1 := Z1.below hh
  try replace Z2 := Z2.below hh
  try replace Z3 := Z3.below hh
  replace hb := bend hb hh
  have xp0 := XP.c0
  have xp1 := XP.c1
  have xq0 := XQ.c0
  have xq1 := XQ.c1
  have xu0 := XU.c0
  have xu1 := XU.c1
  have xv0 := XV.c0
  have xv1 := XV.c1
  by_cases heq : den1 q = den1 q2
  · have HL : Hid (den1 q ≠ 0 ∧ mkRat p2 (den1 q2) = mkRat p2 (den1 q)) := ⟨den1_ne q, by rw [heq]⟩
    have HC : Hid (cmpZ (den1 q : Int) (den1 q2 : Int) = 0) := by show _ = _; rw [heq]; exact cmpZ_self _
    clear heq
    go_upto_region 4 with (first
      | (go_at_call 115; (with_reducible refine (zcmp_zr y v (by omega)).mono ?_); rintro e w_z ⟨rfl, hh⟩
         rw [HC.out]
         try replace X := X.below hh
         try replace Q := Q.below hh
         try replace Y := Y.below hh
         try replace R := R.below hh
         try replace x := x.below hh
         try replace y := y.below hh
         try replace u := u.below hh
         try replace v := v.below hh
         try replace m1 := m1.below hh
         try replace m2 := m2.below hh
         try replace m3 := m3.below hh
         try replace XA := XA.below hh
         try replace XB := XB.below hh
         try replace Z := Z.below hh
         try replace Z1 := Z1.below hh
         try replace Z2 := Z2.below hh
         try replace Z3 := Z3.below hh
         try replace XP := XP.below hh
         try replace XQ := XQ.below hh
         try replace XU := XU.below hh
         try replace XV := XV.below hh
         replace hb := bend hb hh
         have xp0 := XP.c0
         have xp1 := XP.c1
         have xq0 := XQ.c0
         have xq1 := XQ.c1
         have xu0 := XU.c0
         have xu1 := XU.c1
         have xv0 := XV.c0
         have xv1 := XV.c1))
    have z0 := Z1.c0
    have z1 := Z1.c1
    have z2 := Z1.f0
    have z3 := Z1.f1
    have y0 := Z2.c0
    have y1 := Z2.c1
    have y2 := Z2.f0
    have y3 := Z2.f1
    have t0 := Z3.c0
    have t1 := Z3.c1
    have t2 := Z3.f0
    have t3 := Z3.f1
    have Z2o := Z2.other (k := w.heap.size + 1 + 1) (by omega) (.bool s_x) (.slice A_x n_x c_x)
    have zo0 := Z2o.c0
    have zo1 := Z2o.c1
    have zo2 := Z2o.f0
    have zo3 := Z2o.f1
    have Z3o := Z3.other (k := w.heap.size + 1 + 1) (by omega) (.bool s_x) (.slice A_x n_x c_x)
    have Z3p := Z3o.other (k := w.heap.size + 1 + 1 + 1) (by omega) (.bool s_u) (.slice A_u n_u c_u)
    have zp0 := Z3p.c0
    have zp1 := Z3p.c1
    have zp2 := Z3p.f0
    have zp3 := Z3p.f1
    go_region
    go_wp2_with fail
    have G1 := ((Z1.set2 (.bool s_x) (.slice A_x n_x c_x)).other (k := w.heap.size + 1 + 1 + 1) (by omega) (.bool s_u) (.slice A_u n_u c_u)).other (k := w.heap.size + 1 + 1 + 1 + 1) (by omega) (.bool s_y) (.slice A_y n_y c_y)
    have G2 := ((Z2.other (k := w.heap.size + 1 + 1) (by omega) (.bool s_x) (.slice A_x n_x c_x)).set2 (.bool s_u) (.slice A_u n_u c_u)).other (k := w.heap.size + 1 + 1 + 1 + 1) (by omega) (.bool s_y) (.slice A_y n_y c_y)
    have G3 := ((Z3.other (k := w.heap.size + 1 + 1) (by omega) (.bool s_x) (.slice A_x n_x c_x)).other (k := w.heap.size + 1 + 1 + 1) (by omega) (.bool s_u) (.slice A_u n_u c_u)).set2 (.bool s_y) (.slice A_y n_y c_y)
    have g0 := G1.c0
    have g1 := G1.c1
    have g2 := G2.c0
    have g3 := G2.c1
    have g4 := G3.c0
    have g5 := G3.c1
    have HT := three_set hb (by omega) (by omega) (by omega) (by omega) (by omega) (by omega) Z1 Z2 Z3 (x.more (show k ≤ k + k2 by omega)) (u.more (show k2 ≤ k + k2 by omega)) (y.more (show k ≤ k + k2 by omega)) (.bool s_x) (.slice A_x n_x c_x) (.bool s_u) (.slice A_u n_u c_u) (.bool s_y) (.slice A_y n_y c_y)
    refine bodyPost_ret (v := .tuple #[.agg #[.bool s_x, .slice A_x n_x c_x], .agg #[.bool s_u, .slice A_u n_u c_u], .agg #[.bool s_y, .slice A_y n_y c_y]]) (by simp [results, Tryz.results168, go_sem, g0, g1, g2, g3, g4, g5]) rfl ?_
    exact ⟨_, _, _, HL.out.1, rfl, HL.out.2, _, _, _, _, _, _, _, _, _, _, _, _, rfl, HT.1.drew, HT.2.1.drew, HT.2.2.1.drew, HT.2.2.2.drew⟩
  · have HL : Hid (den1 q * den1 q2 ≠ 0 ∧ mkRat p (den1 q) = mkRat (p * (den1 q2 : Int)) (den1 q * den1 q2) ∧ mkRat p2 (den1 q2) = mkRat (p2 * (den1 q : Int)) (den1 q * den1 q2)) :=
      ⟨Nat.mul_ne_zero (den1_ne q) (den1_ne q2), (Rat.mkRat_mul_right (den1_ne q2)).symm, by rw [Nat.mul_comm]; exact (Rat.mkRat_mul_right (den1_ne q)).symm⟩
    obtain ⟨K, hK, hK0⟩ : ∃ K, cmpZ (den1 q : Int) (den1 q2 : Int) = K ∧ ((K : Int) == 0) = false := ⟨_, rfl, by
      rw [beq_eq_false_iff_ne]; intro h; exact heq (by have := cmpZ_zero h; omega)⟩
    have HC := Lib.hid hK
    clear heq hK
    go_upto_region 5 with (first
      | (go_at_call 115; (with_reducible refine (zcmp_zr y v (by omega)).mono ?_); rintro e w_z ⟨rfl, hh⟩
         rw [HC.out]
         try replace X := X.below hh
         try replace Q := Q.below hh
         try replace Y := Y.below hh
         try replace R := R.below hh
         try replace x := x.below hh
         try replace y := y.below hh
         try replace u := u.below hh
         try replace v := v.below hh
         try replace m1 := m1.below hh
         try replace m2 := m2.below hh
         try replace m3 := m3.below hh
         try replace XA := XA.below hh
         try replace XB := XB.below hh
         try replace Z := Z.below hh
         try replace Z1 := Z1.below hh
         try replace Z2 := Z2.below hh
         try replace Z3 := Z3.below hh
         try replace XP := XP.below hh
         try replace XQ := XQ.below hh
         try replace XU := XU.below hh
         try replace XV := XV.below hh
         replace hb := bend hb hh
         have xp0 := XP.c0
         have xp1 := XP.c1
         have xq0 := XQ.c0
         have xq1 := XQ.c1
         have xu0 := XU.c0
         have xu1 := XU.c1
         have xv0 := XV.c0
         have xv1 := XV.c1))
    replace x := x.below (Below.refl _ _).drew
    replace y := y.below (Below.refl _ _).drew
    replace u := u.below (Below.refl _ _).drew
    replace v := v.below (Below.refl _ _).drew
    replace Z1 := Z1.below (Below.refl _ _).drew
    replace Z2 := Z2.below (Below.refl _ _).drew
    replace Z3 := Z3.below (Below.refl _ _).drew
    replace XP := XP.below (Below.refl _ _).drew
    replace XQ := XQ.below (Below.refl _ _).drew
    replace XU := XU.below (Below.refl _ _).drew
    replace XV := XV.below (Below.refl _ _).drew
    replace hb := hb.drew
    go_region_held3 (fun w' => w'.cell? ⟨w_p.heap.size, 0, none⟩ = some (.bool s_x) ∧ w'.cell? ⟨w_p.heap.size, 1, none⟩ = some (.slice A_x n_x c_x) ∧ w'.cell? ⟨w_p.heap.size + 1, 0, none⟩ = some (.bool s_y) ∧ w'.cell? ⟨w_p.heap.size + 1, 1, none⟩ = some (.slice A_y n_y c_y) ∧ w'.cell? ⟨w_u.heap.size, 0, none⟩ = some (.bool s_u) ∧ w'.cell? ⟨w_u.heap.size, 1, none⟩ = some (.slice A_u n_u c_u) ∧ w'.cell? ⟨w_u.heap.size + 1, 0, none⟩ = some (.bool s_v) ∧ w'.cell? ⟨w_u.heap.size + 1, 1, none⟩ = some (.slice A_v n_v c_v))
      (first | with_reducible exact ⟨XP.c0, XP.c1, XQ.c0, XQ.c1, XU.c0, XU.c1, XV.c0, XV.c1⟩ | with_reducible exact ⟨(set2_cell _ _ _ _ _ _ (by omega)).trans (XP.c0), (set2_cell _ _ _ _ _ _ (by omega)).trans (XP.c1), (set2_cell _ _ _ _ _ _ (by omega)).trans (XQ.c0), (set2_cell _ _ _ _ _ _ (by omega)).trans (XQ.c1), (set2_cell _ _ _ _ _ _ (by omega)).trans (XU.c0), (set2_cell _ _ _ _ _ _ (by omega)).trans (XU.c1), (set2_cell _ _ _ _ _ _ (by omega)).trans (XV.c0), (set2_cell _ _ _ _ _ _ (by omega)).trans (XV.c1)⟩ | with_reducible exact ⟨(set2_cell _ _ _ _ _ _ (by omega)).trans ((set2_cell _ _ _ _ _ _ (by omega)).trans (XP.c0)), (set2_cell _ _ _ _ _ _ (by omega)).trans ((set2_cell _ _ _ _ _ _ (by omega)).trans (XP.c1)), (set2_cell _ _ _ _ _ _ (by omega)).trans ((set2_cell _ _ _ _ _ _ (by omega)).trans (XQ.c0)), (set2_cell _ _ _ _ _ _ (by omega)).trans ((set2_cell _ _ _ _ _ _ (by omega)).trans (XQ.c1)), (set2_cell _ _ _ _ _ _ (by omega)).trans ((set2_cell _ _ _ _ _ _ (by omega)).trans (XU.c0)), (set2_cell _ _ _ _ _ _ (by omega)).trans ((set2_cell _ _ _ _ _ _ (by omega)).trans (XU.c1)), (set2_cell _ _ _ _ _ _ (by omega)).trans ((set2_cell _ _ _ _ _ _ (by omega)).trans (XV.c0)), (set2_cell _ _ _ _ _ _ (by omega)).trans ((set2_cell _ _ _ _ _ _ (by omega)).trans (XV.c1))⟩ | with_reducible exact ⟨(set2_cell _ _ _ _ _ _ (by omega)).trans ((set2_cell _ _ _ _ _ _ (by omega)).trans ((set2_cell _ _ _ _ _ _ (by omega)).trans (XP.c0))), (set2_cell _ _ _ _ _ _ (by omega)).trans ((set2_cell _ _ _ _ _ _ (by omega)).trans ((set2_cell _ _ _ _ _ _ (by omega)).trans (XP.c1))), (set2_cell _ _ _ _ _ _ (by omega)).trans ((set2_cell _ _ _ _ _ _ (by omega)).trans ((set2_cell _ _ _ _ _ _ (by omega)).trans (XQ.c0))), (set2_cell _ _ _ _ _ _ (by omega)).trans ((set2_cell _ _ _ _ _ _ (by omega)).trans ((set2_cell _ _ _ _ _ _ (by omega)).trans (XQ.c1))), (set2_cell _ _ _ _ _ _ (by omega)).trans ((set2_cell _ _ _ _ _ _ (by omega)).trans ((set2_cell _ _ _ _ _ _ (by omega)).trans (XU.c0))), (set2_cell _ _ _ _ _ _ (by omega)).trans ((set2_cell _ _ _ _ _ _ (by omega)).trans ((set2_cell _ _ _ _ _ _ (by omega)).trans (XU.c1))), (set2_cell _ _ _ _ _ _ (by omega)).trans ((set2_cell _ _ _ _ _ _ (by omega)).trans ((set2_cell _ _ _ _ _ _ (by omega)).trans (XV.c0))), (set2_cell _ _ _ _ _ _ (by omega)).trans ((set2_cell _ _ _ _ _ _ (by omega)).trans ((set2_cell _ _ _ _ _ _ (by omega)).trans (XV.c1)))⟩)
      (first
      | (go_at_call 44; (with_reducible refine (zmul_zr (k + k2) x v (by omega) (by omega) (by omega)).mono ?_); rintro e w_m1 ⟨s_m1, A_m1, n_m1, c_m1, rfl, m1, hh⟩
         try replace X := X.below hh
         try replace Q := Q.below hh
         try replace Y := Y.below hh
         try replace R := R.below hh
         try replace x := x.below hh
         try replace y := y.below hh
         try replace u := u.below hh
         try replace v := v.below hh
         try replace m2 := m2.below hh
         try replace m3 := m3.below hh
         try replace XA := XA.below hh
         try replace XB := XB.below hh
         try replace Z := Z.below hh
         try replace Z1 := Z1.below hh
         try replace Z2 := Z2.below hh
         try replace Z3 := Z3.below hh
         try replace XP := XP.below hh
         try replace XQ := XQ.below hh
         try replace XU := XU.below hh
         try replace XV := XV.below hh
         replace hb := bend hb hh)
      | (go_at_call 44; (with_reducible refine (zmul_zr (k + k2) u y (by omega) (by omega) (by omega)).mono ?_); rintro e w_m2 ⟨s_m2, A_m2, n_m2, c_m2, rfl, m2, hh⟩
         try replace X := X.below hh
         try replace Q := Q.below hh
         try replace Y := Y.below hh
         try replace R := R.below hh
         try replace x := x.below hh
         try replace y := y.below hh
         try replace u := u.below hh
         try replace v := v.below hh
         try replace m1 := m1.below hh
         try replace m3 := m3.below hh
         try replace XA := XA.below hh
         try replace XB := XB.below hh
         try replace Z := Z.below hh
         try replace Z1 := Z1.below hh
         try replace Z2 := Z2.below hh
         try replace Z3 := Z3.below hh
         try replace XP := XP.below hh
         try replace XQ := XQ.below hh
         try replace XU := XU.below hh
         try replace XV := XV.below hh
         replace hb := bend hb hh)
      | (go_at_call 44; (with_reducible refine (zmul_zr (k + k2) y v (by omega) (by omega) (by omega)).mono ?_); rintro e w_m3 ⟨s_m3, A_m3, n_m3, c_m3, rfl, m3, hh⟩
         try replace X := X.below hh
         try replace Q := Q.below hh
         try replace Y := Y.below hh
         try replace R := R.below hh
         try replace x := x.below hh
         try replace y := y.below hh
         try replace u := u.below hh
         try replace v := v.below hh
         try replace m1 := m1.below hh
         try replace m2 := m2.below hh
         try replace XA := XA.below hh
         try replace XB := XB.below hh
         try replace Z := Z.below hh
         try replace Z1 := Z1.below hh
         try replace Z2 := Z2.below hh
         try replace Z3 := Z3.below hh
         try replace XP := XP.below hh
         try replace XQ := XQ.below hh
         try replace XU := XU.below hh
         try replace XV := XV.below hh
         replace hb := bend hb hh
         have z0 := Z1.c0
         have z1 := Z1.c1
         have z2 := Z1.f0
         have z3 := Z1.f1
         have y0 := Z2.c0
         have y1 := Z2.c1
         have y2 := Z2.f0
         have y3 := Z2.f1
         have t0 := Z3.c0
         have t1 := Z3.c1
         have t2 := Z3.f0
         have t3 := Z3.f1
         have Z2o := Z2.other (k := w.heap.size + 1 + 1) (by omega) (.bool s_m1) (.slice A_m1 n_m1 c_m1)
         have zo0 := Z2o.c0
         have zo1 := Z2o.c1
         have zo2 := Z2o.f0
         have zo3 := Z2o.f1
         have Z3o := Z3.other (k := w.heap.size + 1 + 1) (by omega) (.bool s_m1) (.slice A_m1 n_m1 c_m1)
         have Z3p := Z3o.other (k := w.heap.size + 1 + 1 + 1) (by omega) (.bool s_m2) (.slice A_m2 n_m2 c_m2)
         have zp0 := Z3p.c0
         have zp1 := Z3p.c1
         have zp2 := Z3p.f0
         have zp3 := Z3p.f1))
    go_wp2_with fail
    rw [← Int.natCast_mul] at m3
    have G1 := ((Z1.set2 (.bool s_m1) (.slice A_m1 n_m1 c_m1)).other (k := w.heap.size + 1 + 1 + 1) (by omega) (.bool s_m2) (.slice A_m2 n_m2 c_m2)).other (k := w.heap.size + 1 + 1 + 1 + 1) (by omega) (.bool s_m3) (.slice A_m3 n_m3 c_m3)
    have G2 := ((Z2.other (k := w.heap.size + 1 + 1) (by omega) (.bool s_m1) (.slice A_m1 n_m1 c_m1)).set2 (.bool s_m2) (.slice A_m2 n_m2 c_m2)).other (k := w.heap.size + 1 + 1 + 1 + 1) (by omega) (.bool s_m3) (.slice A_m3 n_m3 c_m3)
    have G3 := ((Z3.other (k := w.heap.size + 1 + 1) (by omega) (.bool s_m1) (.slice A_m1 n_m1 c_m1)).other (k := w.heap.size + 1 + 1 + 1) (by omega) (.bool s_m2) (.slice A_m2 n_m2 c_m2)).set2 (.bool s_m3) (.slice A_m3 n_m3 c_m3)
    have g0 := G1.c0
    have g1 := G1.c1
    have g2 := G2.c0
    have g3 := G2.c1
    have g4 := G3.c0
    have g5 := G3.c1
    have HT := three_set hb (by omega) (by omega) (by omega) (by omega) (by omega) (by omega) Z1 Z2 Z3 m1 m2 m3 (.bool s_m1) (.slice A_m1 n_m1 c_m1) (.bool s_m2) (.slice A_m2 n_m2 c_m2) (.bool s_m3) (.slice A_m3 n_m3 c_m3)
    refine bodyPost_ret (v := .tuple #[.agg #[.bool s_m1, .slice A_m1 n_m1 c_m1], .agg #[.bool s_m2, .slice A_m2 n_m2 c_m2], .agg #[.bool s_m3, .slice A_m3 n_m3 c_m3]]) (by simp [results, Tryz.results168, go_sem, g0, g1, g2, g3, g4, g5]) rfl ?_
    exact ⟨_, _, _, HL.out.1, HL.out.2.1, HL.out.2.2, _, _, _, _, _, _, _, _, _, _, _, _, rfl, HT.1, HT.2.1, HT.2.2.1, HT.2.2.2⟩
end Go.Proofs.YtlkjkhpjhllapaaGreat
