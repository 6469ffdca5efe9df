/- rat's functions by value: Neg, Abs, Floor, Sign, Cmp, Of, and the four operations. -/
import Derived.Test.YtmcijgnbdnpanaaGreatRatB
namespace Go.Proofs.YtmcijgnbdnpanaaGreat
open Go Go.RowKit

theorem absQ_mk (p : Int) {q : Nat} (hq : q ≠ 0) : mkRat (p.natAbs : Int) q = (mkRat p q).abs := by
  unfold Rat.abs
  by_cases h : 0 ≤ p
  · rw [if_pos ((mk_nonneg hq).2 h)]; congr 1; omega
  · rw [if_neg (fun q' => h ((mk_nonneg hq).1 q')), mk_neg]; congr 1; omega
theorem den1_i (q : Nat) : (den1 q : Int) ≠ 0 := by have := den1_ne q; omega
set_option maxRecDepth 100000 in
set_option maxHeartbeats 4000000 in
theorem rneg_q {w : World} {s : Bool} {A A' : Option Addr} {n c n' c' k : Nat} {v : Rat} (X0 : QR w s A n c A' n' c' v k) (hk : k ≤ 900) (hk1 : 1 ≤ k) :
    Calls Tryz.prog 27 #[.agg #[.bool s, .slice A n c, .slice A' n' c']] w (GivesQ w (-v) k) := by
  obtain ⟨p, q, X, Q, rfl⟩ := X0
  have HE : Hid (Rat.divInt (-p) (den1 q : Int) = -mkRat p (den1 q)) := by show _ = _; rw [Rat.divInt_ofNat, mk_neg]
  go_enter Tryz.func27, Tryz.ntmps27
  go_wp2_with fail
  generalize hW : ((w.alloc (Obj.cells #[Value.bool s, Value.slice A n c, Value.slice A' n' c'] 26)).alloc (Obj.cells #[Value.bool false, Value.slice none 0 0, Value.slice none 0 0] 26)) = W
  have hb : Below w.heap.size w W := by subst hW; exact (((Below.refl _ _).alloc (Nat.le_refl _) _).alloc (by simp) _)
  have XA : B3 W (w.heap.size) (Value.bool s) (Value.slice A n c) (Value.slice A' n' c') := by subst hW; exact (B3.new' _ _ _ _ _ rfl).alloc _
  have Z : B3 W (w.heap.size + 1) (Value.bool false) (Value.slice none 0 0) (Value.slice none 0 0) := by subst hW; exact B3.new' _ _ _ _ _ (by simp)
  have hzW : W.heap.size = w.heap.size + 2 := by subst hW; simp
  clear hW
  replace X := X.below hb
  replace Q := Q.below hb
  have xa0 := XA.c0
  have xa1 := XA.c1
  have xa2 := XA.c2
  go_upto_region 2 with (first
      | (go_at_call 85; (with_reducible refine (parts_any X Q (by omega) hk1).mono ?_); rintro e w_p ⟨s_x, A_x, n_x, c_x, s_y, A_y, n_y, c_y, rfl, x, y, hh⟩
         try replace X := X.below hh
         try replace Q := Q.below hh
         try replace m := m.below hh
         try replace XA := XA.below hh
         try replace Z := Z.below hh
         try replace XP := XP.below hh
         try replace XQ := XQ.below hh
         replace hb := bend hb hh))
  have hp1 := Z.lt
  generalize hW : ((w_p.alloc (Obj.cells #[Value.bool s_x, Value.slice A_x n_x c_x] 24)).alloc (Obj.cells #[Value.bool s_y, Value.slice A_y n_y c_y] 24)) = W2
  have hh : Below w_p.heap.size w_p W2 := by subst hW; exact (((Below.refl _ _).alloc (Nat.le_refl _) _).alloc (by simp) _)
  have XP : Bx W2 (w_p.heap.size) (Value.bool s_x) (Value.slice A_x n_x c_x) := by subst hW; exact (Bx.new' _ _ _ _ rfl).alloc _
  have XQ : Bx W2 (w_p.heap.size + 1) (Value.bool s_y) (Value.slice A_y n_y c_y) := by subst hW; exact Bx.new' _ _ _ _ (by simp)
  have hzW2 : W2.heap.size = w_p.heap.size + 2 := by subst hW; simp
  clear hW
  try replace x := x.below hh
  try replace y := y.below hh
  try replace Z := Z.below hh
  replace hb := bend hb hh
  replace x := x.below (Below.refl _ _).drew
  replace y := y.below (Below.refl _ _).drew
  replace Z := Z.below (Below.refl _ _).drew
  replace XP := XP.below (Below.refl _ _).drew
  replace XQ := XQ.below (Below.refl _ _).drew
  replace hb := hb.drew
  go_region_held3 (fun w' => w'.cell? ⟨w_p.heap.size, 0, none⟩ = some (.bool s_x) ∧ w'.cell? ⟨w_p.heap.size, 1, none⟩ = some (.slice A_x n_x c_x) ∧ w'.cell? ⟨w_p.heap.size + 1, 0, none⟩ = some (.bool s_y) ∧ w'.cell? ⟨w_p.heap.size + 1, 1, none⟩ = some (.slice A_y n_y c_y))
    (first | with_reducible exact ⟨XP.c0, XP.c1, XQ.c0, XQ.c1⟩ | with_reducible exact ⟨(set3_cell _ _ _ _ _ _ _ (by omega)).trans (XP.c0), (set3_cell _ _ _ _ _ _ _ (by omega)).trans (XP.c1), (set3_cell _ _ _ _ _ _ _ (by omega)).trans (XQ.c0), (set3_cell _ _ _ _ _ _ _ (by omega)).trans (XQ.c1)⟩)
    (first
    | (go_at_call 89; (with_reducible refine (zneg_zr x (by omega)).mono ?_); rintro e w_m ⟨s_m, A_m, n_m, c_m, rfl, m, hh⟩
       try replace X := X.below hh
       try replace Q := Q.below hh
       try replace x := x.below hh
       try replace y := y.below hh
       try replace XA := XA.below hh
       try replace Z := Z.below hh
       try replace XP := XP.below hh
       try replace XQ := XQ.below hh
       replace hb := bend hb hh)
    | (go_at_call 80; (with_reducible refine (by_zr k m y (by omega) (by omega) (den1_i q) (by omega) (by omega)).mono ?_); rintro e w_r ⟨s_r, A_r, n_r, c_r, B_r, m_r, d_r, rfl, r, hh⟩
       rw [HE.out] at r
       try replace X := X.below hh
       try replace Q := Q.below hh
       try replace x := x.below hh
       try replace y := y.below hh
       try replace m := m.below hh
       try replace XA := XA.below hh
       try replace Z := Z.below hh
       try replace XP := XP.below hh
       try replace XQ := XQ.below hh
       replace hb := bend hb hh
       have zf0 := Z.f0
       have zf1 := Z.f1
       have zf2 := Z.f2
       have z0 := Z.c0
       have z1 := Z.c1
       have z2 := Z.c2))
  go_wp2_with fail
  have Z2 := Z.set3 (.bool s_r) (.slice A_r n_r c_r) (.slice B_r m_r d_r)
  have g0 := Z2.c0
  have g1 := Z2.c1
  have g2 := Z2.c2
  refine bodyPost_ret (v := .agg #[.bool s_r, .slice A_r n_r c_r, .slice B_r m_r d_r]) (by simp [results, Tryz.results27, go_sem, g0, g1, g2]) rfl ?_
  exact ⟨s_r, A_r, n_r, c_r, B_r, m_r, d_r, rfl, r.set3 Z _ _ _, below_set3 hb (by omega) _ _ _⟩

set_option maxRecDepth 100000 in
set_option maxHeartbeats 4000000 in
theorem rabs_q {w : World} {s : Bool} {A A' : Option Addr} {n c n' c' k : Nat} {v : Rat} (X0 : QR w s A n c A' n' c' v k) (hk : k ≤ 900) (hk1 : 1 ≤ k) :
    Calls Tryz.prog 29 #[.agg #[.bool s, .slice A n c, .slice A' n' c']] w (GivesQ w v.abs k) := by
  obtain ⟨p, q, X, Q, rfl⟩ := X0
  have HE : Hid (Rat.divInt (iv false p.natAbs) (den1 q : Int) = (mkRat p (den1 q)).abs) := by show _ = _; rw [Rat.divInt_ofNat, ← absQ_mk p (den1_ne q)]; rfl
  go_enter Tryz.func29, Tryz.ntmps29
  go_wp2_with fail
  generalize hW : ((w.alloc (Obj.cells #[Value.bool s, Value.slice A n c, Value.slice A' n' c'] 26)).alloc (Obj.cells #[Value.bool false, Value.slice none 0 0, Value.slice none 0 0] 26)) = W
  have hb : Below w.heap.size w W := by subst hW; exact (((Below.refl _ _).alloc (Nat.le_refl _) _).alloc (by simp) _)
  have XA : B3 W (w.heap.size) (Value.bool s) (Value.slice A n c) (Value.slice A' n' c') := by subst hW; exact (B3.new' _ _ _ _ _ rfl).alloc _
  have Z : B3 W (w.heap.size + 1) (Value.bool false) (Value.slice none 0 0) (Value.slice none 0 0) := by subst hW; exact B3.new' _ _ _ _ _ (by simp)
  have hzW : W.heap.size = w.heap.size + 2 := by subst hW; simp
  clear hW
  replace X := X.below hb
  replace Q := Q.below hb
  have xa0 := XA.c0
  have xa1 := XA.c1
  have xa2 := XA.c2
  go_upto_region 2 with (first
      | (go_at_call 85; (with_reducible refine (parts_any X Q (by omega) hk1).mono ?_); rintro e w_p ⟨s_x, A_x, n_x, c_x, s_y, A_y, n_y, c_y, rfl, x, y, hh⟩
         try replace X := X.below hh
         try replace Q := Q.below hh
         try replace m := m.below hh
         try replace XA := XA.below hh
         try replace Z := Z.below hh
         try replace XP := XP.below hh
         try replace XQ := XQ.below hh
         replace hb := bend hb hh))
  have hp1 := Z.lt
  generalize hW : ((w_p.alloc (Obj.cells #[Value.bool s_x, Value.slice A_x n_x c_x] 24)).alloc (Obj.cells #[Value.bool s_y, Value.slice A_y n_y c_y] 24)) = W2
  have hh : Below w_p.heap.size w_p W2 := by subst hW; exact (((Below.refl _ _).alloc (Nat.le_refl _) _).alloc (by simp) _)
  have XP : Bx W2 (w_p.heap.size) (Value.bool s_x) (Value.slice A_x n_x c_x) := by subst hW; exact (Bx.new' _ _ _ _ rfl).alloc _
  have XQ : Bx W2 (w_p.heap.size + 1) (Value.bool s_y) (Value.slice A_y n_y c_y) := by subst hW; exact Bx.new' _ _ _ _ (by simp)
  have hzW2 : W2.heap.size = w_p.heap.size + 2 := by subst hW; simp
  clear hW
  try replace x := x.below hh
  try replace y := y.below hh
  try replace Z := Z.below hh
  replace hb := bend hb hh
  have xp0 := XP.c0
  have xp1 := XP.c1
  have xq0 := XQ.c0
  have xq1 := XQ.c1
  have m := ZR.ofn (s := false) x.nr
  go_wp2_with (first
    | (go_at_call 80; (with_reducible refine (by_zr k m y (by omega) (by omega) (den1_i q) (by omega) (by omega)).mono ?_); rintro e w_r ⟨s_r, A_r, n_r, c_r, B_r, m_r, d_r, rfl, r, hh⟩
       rw [HE.out] at r
       try replace X := X.below hh
       try replace Q := Q.below hh
       try replace x := x.below hh
       try replace y := y.below hh
       try replace m := m.below hh
       try replace XA := XA.below hh
       try replace Z := Z.below hh
       try replace XP := XP.below hh
       try replace XQ := XQ.below hh
       replace hb := bend hb hh
       have zf0 := Z.f0
       have zf1 := Z.f1
       have zf2 := Z.f2
       have z0 := Z.c0
       have z1 := Z.c1
       have z2 := Z.c2))
  have Z2 := Z.set3 (.bool s_r) (.slice A_r n_r c_r) (.slice B_r m_r d_r)
  have g0 := Z2.c0
  have g1 := Z2.c1
  have g2 := Z2.c2
  refine bodyPost_ret (v := .agg #[.bool s_r, .slice A_r n_r c_r, .slice B_r m_r d_r]) (by simp [results, Tryz.results29, go_sem, g0, g1, g2]) rfl ?_
  exact ⟨s_r, A_r, n_r, c_r, B_r, m_r, d_r, rfl, r.set3 Z _ _ _, below_set3 hb (by omega) _ _ _⟩

set_option maxRecDepth 100000 in
set_option maxHeartbeats 4000000 in
theorem rfloor_q {w : World} {s : Bool} {A A' : Option Addr} {n c n' c' k : Nat} {v : Rat} (X0 : QR w s A n c A' n' c' v k) (hk : k ≤ 900) (hk1 : 1 ≤ k) :
    Calls Tryz.prog 39 #[.agg #[.bool s, .slice A n c, .slice A' n' c']] w (GivesZG w v.floor (k + 1)) := by
  obtain ⟨p, q, X, Q, rfl⟩ := X0
  have HE : Hid (p.fdiv (den1 q : Int) = (mkRat p (den1 q)).floor) := (mk_floor (den1_ne q)).symm
  go_enter Tryz.func39, Tryz.ntmps39
  go_wp2_with fail
  generalize hW : ((w.alloc (Obj.cells #[Value.bool s, Value.slice A n c, Value.slice A' n' c'] 26)).alloc (Obj.cells #[Value.bool false, Value.slice none 0 0] 24)) = W
  have hb : Below w.heap.size w W := by subst hW; exact (((Below.refl _ _).alloc (Nat.le_refl _) _).alloc (by simp) _)
  have XA : B3 W (w.heap.size) (Value.bool s) (Value.slice A n c) (Value.slice A' n' c') := by subst hW; exact (B3.new' _ _ _ _ _ rfl).alloc _
  have Z : Bx W (w.heap.size + 1) (Value.bool false) (Value.slice none 0 0) := by subst hW; exact Bx.new' _ _ _ _ (by simp)
  have hzW : W.heap.size = w.heap.size + 2 := by subst hW; simp
  clear hW
  replace X := X.below hb
  replace Q := Q.below hb
  have xa0 := XA.c0
  have xa1 := XA.c1
  have xa2 := XA.c2
  go_upto_region 2 with (first
      | (go_at_call 85; (with_reducible refine (parts_any X Q (by omega) hk1).mono ?_); rintro e w_p ⟨s_x, A_x, n_x, c_x, s_y, A_y, n_y, c_y, rfl, x, y, hh⟩
         try replace X := X.below hh
         try replace Q := Q.below hh
         try replace q1 := q1.below hh
         try replace r1 := r1.below hh
         try replace XA := XA.below hh
         try replace Z := Z.below hh
         try replace XP := XP.below hh
         try replace XQ := XQ.below hh
         replace hb := bend hb hh))
  have hp1 := Z.lt
  generalize hW : ((w_p.alloc (Obj.cells #[Value.bool s_x, Value.slice A_x n_x c_x] 24)).alloc (Obj.cells #[Value.bool s_y, Value.slice A_y n_y c_y] 24)) = W2
  have hh : Below w_p.heap.size w_p W2 := by subst hW; exact (((Below.refl _ _).alloc (Nat.le_refl _) _).alloc (by simp) _)
  have XP : Bx W2 (w_p.heap.size) (Value.bool s_x) (Value.slice A_x n_x c_x) := by subst hW; exact (Bx.new' _ _ _ _ rfl).alloc _
  have XQ : Bx W2 (w_p.heap.size + 1) (Value.bool s_y) (Value.slice A_y n_y c_y) := by subst hW; exact Bx.new' _ _ _ _ (by simp)
  have hzW2 : W2.heap.size = w_p.heap.size + 2 := by subst hW; simp
  clear hW
  try replace x := x.below hh
  try replace y := y.below hh
  try replace Z := Z.below hh
  replace hb := bend hb hh
  have xp0 := XP.c0
  have xp1 := XP.c1
  have xq0 := XQ.c0
  have xq1 := XQ.c1
  go_upto_region 3 with (first
      | (go_at_call 98; (with_reducible refine (zdm_zg (k + 1) x y (den1_i q) hk1 (by omega) (by omega) (by omega)).mono ?_); rintro e w_q ⟨s_a, A_a, n_a, c_a, s_b, A_b, n_b, c_b, rfl, q1, r1, hh⟩
         rw [HE.out] at q1
         try replace X := X.below hh
         try replace Q := Q.below hh
         try replace x := x.below hh
         try replace y := y.below hh
         try replace XA := XA.below hh
         try replace Z := Z.below hh
         try replace XP := XP.below hh
         try replace XQ := XQ.below hh
         replace hb := bend hb hh))
  generalize hW : ((w_q.alloc (Obj.cells #[Value.bool s_a, Value.slice A_a n_a c_a] 24)).alloc (Obj.cells #[Value.bool s_b, Value.slice A_b n_b c_b] 24)) = W3
  have hh : Below w_q.heap.size w_q W3 := by subst hW; exact (((Below.refl _ _).alloc (Nat.le_refl _) _).alloc (by simp) _)
  have XC : Bx W3 (w_q.heap.size) (Value.bool s_a) (Value.slice A_a n_a c_a) := by subst hW; exact (Bx.new' _ _ _ _ rfl).alloc _
  have XD : Bx W3 (w_q.heap.size + 1) (Value.bool s_b) (Value.slice A_b n_b c_b) := by subst hW; exact Bx.new' _ _ _ _ (by simp)
  have hzW3 : W3.heap.size = w_q.heap.size + 2 := by subst hW; simp
  clear hW
  try replace q1 := q1.below hh
  try replace Z := Z.below hh
  replace hb := bend hb hh
  have xc0 := XC.c0
  have xc1 := XC.c1
  have z0 := Z.c0
  have z1 := Z.c1
  have z2 := Z.f0
  have z3 := Z.f1
  go_wp2_with fail
  have Z2 := Z.set2 (.bool s_a) (.slice A_a n_a c_a)
  have g0 := Z2.c0
  have g1 := Z2.c1
  refine bodyPost_ret (v := .agg #[.bool s_a, .slice A_a n_a c_a]) (by simp [results, Tryz.results39, go_sem, g0, g1]) rfl ?_
  exact ⟨s_a, A_a, n_a, c_a, rfl, q1.set2x Z _ _, below_set2 hb (by omega) _ _⟩

set_option maxRecDepth 100000 in
set_option maxHeartbeats 4000000 in
theorem rsign_q {w : World} {s : Bool} {A A' : Option Addr} {n c n' c' k : Nat} {v : Rat} (X0 : QR w s A n c A' n' c' v k) (hk : k ≤ 900) (hk1 : 1 ≤ k) :
    Calls Tryz.prog 26 #[.agg #[.bool s, .slice A n c, .slice A' n' c']] w fun e w' => e = .returned (.int .i64 (sgnQ v)) ∧ Below w.heap.size w w' := by
  obtain ⟨p, q, X, Q, rfl⟩ := X0
  have HE : Hid (sgn p = sgnQ (mkRat p (den1 q))) := (sgnQ_mk (den1_ne q)).symm
  go_enter Tryz.func26, Tryz.ntmps26
  go_wp2_with fail
  generalize hW : (w.alloc (Obj.cells #[Value.bool s, Value.slice A n c, Value.slice A' n' c'] 26)) = W
  have hb : Below w.heap.size w W := by subst hW; exact ((Below.refl _ _).alloc (Nat.le_refl _) _)
  have XA : B3 W (w.heap.size) (Value.bool s) (Value.slice A n c) (Value.slice A' n' c') := by subst hW; exact B3.new' _ _ _ _ _ rfl
  have hzW : W.heap.size = w.heap.size + 1 := by subst hW; simp
  clear hW
  replace X := X.below hb
  replace Q := Q.below hb
  have xa0 := XA.c0
  have xa1 := XA.c1
  have xa2 := XA.c2
  go_wp2_with (first
      | (go_at_call 88; (with_reducible refine (sign_zr X (by omega)).mono ?_); rintro e w_z ⟨rfl, hh⟩
         rw [HE.out]
         try replace X := X.below hh
         try replace Q := Q.below hh
         try replace XA := XA.below hh
         replace hb := bend hb hh))
  go_ret
  exact ⟨rfl, hb⟩

theorem cmpQ_signs {s t : Bool} {a b : Nat} {q q2 : Nat} (hq : q ≠ 0) (hq2 : q2 ≠ 0) (h : ¬ s = t) : cmpZ (iv s a) (iv t b) = cmpQ (mkRat (iv s a) q) (mkRat (iv t b) q2) := by
  rw [cmpQ_mk hq hq2]
  have h1 : (0 : Int) < q := by omega
  have h2 : (0 : Int) < q2 := by omega
  cases s <;> cases t <;> simp at h
  · have e1 : iv false a = (a : Int) := rfl
    have e2 : iv true b = -(b : Int) := rfl
    rw [e1, e2]
    have e3 : (0 : Int) ≤ a * q2 := Int.mul_nonneg (by omega) (by omega)
    have e4 : (0 : Int) ≤ b * q := Int.mul_nonneg (by omega) (by omega)
    have e5 : (a : Int) * q2 = 0 ↔ (a : Int) = 0 := by rw [Int.mul_eq_zero]; omega
    have e6 : (b : Int) * q = 0 ↔ (b : Int) = 0 := by rw [Int.mul_eq_zero]; omega
    rw [Int.neg_mul]
    unfold cmpZ
    by_cases ha : (a : Int) = 0 <;> by_cases hb : (b : Int) = 0 <;> (repeat' split) <;> omega
  · have e1 : iv true a = -(a : Int) := rfl
    have e2 : iv false b = (b : Int) := rfl
    rw [e1, e2]
    have e3 : (0 : Int) ≤ a * q2 := Int.mul_nonneg (by omega) (by omega)
    have e4 : (0 : Int) ≤ b * q := Int.mul_nonneg (by omega) (by omega)
    have e5 : (a : Int) * q2 = 0 ↔ (a : Int) = 0 := by rw [Int.mul_eq_zero]; omega
    have e6 : (b : Int) * q = 0 ↔ (b : Int) = 0 := by rw [Int.mul_eq_zero]; omega
    rw [Int.neg_mul]
    unfold cmpZ
    by_cases ha : (a : Int) = 0 <;> by_cases hb : (b : Int) = 0 <;> (repeat' split) <;> omega
theorem cmpZ_zero {a b : Int} (h : cmpZ a b = 0) : a = b := by
  unfold cmpZ at h
  (repeat' split at h) <;> omega
end Go.Proofs.YtmcijgnbdnpanaaGreat
