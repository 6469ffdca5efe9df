/- FixTurns: part 11. -/
import Derived.IntWalk
import Derived.Laws.IdiomRangeMap
import Derived.LoopN
import Derived.Orders
import Derived.Test.YtlkjkhpjhllapaaGreatProg
import Derived.WalkKit
import Derived.Test.YtlkjkhpjhllapaaGreatKFixTurns6
import Derived.Test.YtlkjkhpjhllapaaGreatKFixTurns8
import Derived.Test.YtlkjkhpjhllapaaGreatKFixTurns9
import Derived.Test.YtlkjkhpjhllapaaGreatKFixTurns10
namespace Go.Proofs.YtlkjkhpjhllapaaGreat
open Go Go.RowKit
def GivesF (w : World) (v : Rat) (k : Nat) (e : Ending) (w' : World) : Prop :=
  ∃ (f : Int) (L : Nat), L ≠ 0 ∧ v = mkRat f L ∧ ∃ s A n c t B m d, e = .returned (.tuple #[.agg #[.bool s, .slice A n c], .agg #[.bool t, .slice B m d]]) ∧ ZR w' s A n c f k ∧ ZR w' t B m d (L : Int) k ∧ Below w.heap.size w w'
set_option maxRecDepth 100000 in
set_option maxHeartbeats 4000000 in
theorem rsum_q {w : World} {s t : Bool} {A A' B B' : Option Addr} {n c n' c' m d m' d' k k2 : Nat} {v0 u0 : Rat} (X0 : QR w s A n c A' n' c' v0 k) (Y0 : QR w t B m d B' m' d' u0 k2) (hk : k ≤ 400) (hkb : k2 ≤ 400) (h40 : k ≤ 40 ∨ k2 ≤ 40) (hk1 : 1 ≤ k) (hk3 : 1 ≤ k2) :
    Calls Tryz.prog 110 #[.agg #[.bool s, .slice A n c, .slice A' n' c'], .agg #[.bool t, .slice B m d, .slice B' m' d']] w (GivesF w (v0 + u0) (k + k2 + 1)) := by
  obtain ⟨p, q, X, Q, rfl⟩ := X0
  obtain ⟨p2, q2, Y, R, rfl⟩ := Y0
  go_enter Tryz.func110, Tryz.ntmps110
  go_wp2_with fail
  generalize hW : ((((w.alloc (Obj.cells #[Value.bool s, Value.slice A n c, Value.slice A' n' c'] 26)).alloc (Obj.cells #[Value.bool t, Value.slice B m d, Value.slice B' m' d'] 26)).alloc (Obj.cells #[Value.bool false, Value.slice none 0 0] 24)).alloc (Obj.cells #[Value.bool false, Value.slice none 0 0] 24)) = W
  have hb : Below w.heap.size w W := by subst hW; exact (((((Below.refl _ _).alloc (Nat.le_refl _) _).alloc (by simp) _).alloc (by simp; omega) _).alloc (by simp; omega) _)
  have XA : B3 W (w.heap.size) (Value.bool s) (Value.slice A n c) (Value.slice A' n' c') := by subst hW; exact (((B3.new' _ _ _ _ _ rfl).alloc _).alloc _).alloc _
  have XB : B3 W (w.heap.size + 1) (Value.bool t) (Value.slice B m d) (Value.slice B' m' d') := by subst hW; exact ((B3.new' _ _ _ _ _ (by simp)).alloc _).alloc _
  have Z1 : Bx W (w.heap.size + 1 + 1) (Value.bool false) (Value.slice none 0 0) := by subst hW; exact (Bx.new' _ _ _ _ (by simp)).alloc _
  have Z2 : Bx W (w.heap.size + 1 + 1 + 1) (Value.bool false) (Value.slice none 0 0) := by subst hW; exact Bx.new' _ _ _ _ (by simp)
  have hzW : W.heap.size = w.heap.size + 4 := by subst hW; simp
  clear hW
  replace X := X.below hb
  replace Q := Q.below hb
  replace Y := Y.below hb
  replace R := R.below hb
  have xa0 := XA.c0
  have xa1 := XA.c1
  have xa2 := XA.c2
  have xb0 := XB.c0
  have xb1 := XB.c1
  have xb2 := XB.c2
  have zf0 := Z2.c0
  go_upto_region 2 with (first
      | (go_at_call 168; (with_reducible refine (ralike_q X Q Y R hk hkb h40 hk1 hk3).mono ?_); rintro e w_a ⟨f, g, L, hL0, hL1, hL2, s_x, A_x, n_x, c_x, s_y, A_y, n_y, c_y, s_l, A_l, n_l, c_l, rfl, x, y, l, hh⟩
         try replace X := X.below hh
         try replace Q := Q.below hh
         try replace Y := Y.below hh
         try replace R := R.below hh
         try replace m1 := m1.below hh
         try replace XA := XA.below hh
         try replace XB := XB.below hh
         try replace Z1 := Z1.below hh
         try replace Z2 := Z2.below hh
         try replace XP := XP.below hh
         try replace XQ := XQ.below hh
         replace hb := bend hb hh
         have HL0 := Lib.hid hL0
         have HL1 := Lib.hid hL1
         have HL2 := Lib.hid hL2
         clear hL0 hL1 hL2
         have Z2b := (Z2.alloc (Obj.cells #[Value.bool s_x, Value.slice A_x n_x c_x] 24)).alloc (Obj.cells #[Value.bool s_y, Value.slice A_y n_y c_y] 24)
         have zz0 := Z2b.c0
         have zz1 := Z2b.c1
         have zz2 := Z2b.f0
         have zz3 := Z2b.f1))
  have hp1 := Z2.lt
  generalize hW : ((w_a.alloc (Obj.cells #[Value.bool s_x, Value.slice A_x n_x c_x] 24)).alloc (Obj.cells #[Value.bool s_y, Value.slice A_y n_y c_y] 24)) = W0
  have hh : Below w_a.heap.size w_a W0 := by subst hW; exact (((Below.refl _ _).alloc (Nat.le_refl _) _).alloc (by simp) _)
  have XP0 : Bx W0 (w_a.heap.size) (Value.bool s_x) (Value.slice A_x n_x c_x) := by subst hW; exact (Bx.new' _ _ _ _ rfl).alloc _
  have XQ0 : Bx W0 (w_a.heap.size + 1) (Value.bool s_y) (Value.slice A_y n_y c_y) := by subst hW; exact Bx.new' _ _ _ _ (by simp)
  clear hW
  replace x := x.below hh
  replace y := y.below hh
  replace l := l.below hh
  replace Z1 := Z1.below hh
  replace Z2 := Z2.below hh
  replace hb := bend hb hh
  generalize hW : (W0.setCell ⟨w.heap.size + 1 + 1 + 1, 0, none⟩ (.bool s_l)).setCell ⟨w.heap.size + 1 + 1 + 1, 1, none⟩ (.slice A_l n_l c_l) = W1
  replace x : ZR W1 s_x A_x n_x c_x f (k + k2) := by subst hW; exact x.set2x Z2 _ _
  replace y : ZR W1 s_y A_y n_y c_y g (k + k2) := by subst hW; exact y.set2x Z2 _ _
  replace l : ZR W1 s_l A_l n_l c_l (L : Int) (k + k2) := by subst hW; exact l.set2x Z2 _ _
  have XP : Bx W1 (w_a.heap.size) (Value.bool s_x) (Value.slice A_x n_x c_x) := by subst hW; exact XP0.other (by omega) _ _
  have XQ : Bx W1 (w_a.heap.size + 1) (Value.bool s_y) (Value.slice A_y n_y c_y) := by subst hW; exact XQ0.other (by omega) _ _
  replace Z1 : Bx W1 (w.heap.size + 1 + 1) (Value.bool false) (Value.slice none 0 0) := by subst hW; exact Z1.other (by omega) _ _
  replace hb : Below w.heap.size w W1 := by subst hW; exact below_set2 hb (by omega) _ _
  have Z2' : Bx W1 (w.heap.size + 1 + 1 + 1) (Value.bool s_l) (Value.slice A_l n_l c_l) := by subst hW; exact Z2.set2 _ _
  clear hW XP0 XQ0 Z2
  have Z2 := Z2'
  clear Z2'
  replace x := x.below (Below.refl _ _).drew
  replace y := y.below (Below.refl _ _).drew
  replace l := l.below (Below.refl _ _).drew
  replace Z1 := Z1.below (Below.refl _ _).drew
  replace Z2 := Z2.below (Below.refl _ _).drew
  replace XP := XP.below (Below.refl _ _).drew
  replace XQ := XQ.below (Below.refl _ _).drew
  replace hb := hb.drew
  go_region_held3 (fun w' => w'.cell? ⟨w_a.heap.size, 0, none⟩ = some (.bool s_x) ∧ w'.cell? ⟨w_a.heap.size, 1, none⟩ = some (.slice A_x n_x c_x) ∧ w'.cell? ⟨w_a.heap.size + 1, 0, none⟩ = some (.bool s_y) ∧ w'.cell? ⟨w_a.heap.size + 1, 1, none⟩ = some (.slice A_y n_y c_y) ∧ w'.cell? ⟨w.heap.size + 1 + 1 + 1, 0, none⟩ = some (.bool s_l) ∧ w'.cell? ⟨w.heap.size + 1 + 1 + 1, 1, none⟩ = some (.slice A_l n_l c_l))
    (first | with_reducible exact ⟨XP.c0, XP.c1, XQ.c0, XQ.c1, Z2.c0, Z2.c1⟩ | with_reducible exact ⟨(set2_cell _ _ _ _ _ _ (by omega)).trans (XP.c0), (set2_cell _ _ _ _ _ _ (by omega)).trans (XP.c1), (set2_cell _ _ _ _ _ _ (by omega)).trans (XQ.c0), (set2_cell _ _ _ _ _ _ (by omega)).trans (XQ.c1), (set2_cell _ _ _ _ _ _ (by omega)).trans (Z2.c0), (set2_cell _ _ _ _ _ _ (by omega)).trans (Z2.c1)⟩ | with_reducible exact ⟨(set2_cell _ _ _ _ _ _ (by omega)).trans ((set2_cell _ _ _ _ _ _ (by omega)).trans (XP.c0)), (set2_cell _ _ _ _ _ _ (by omega)).trans ((set2_cell _ _ _ _ _ _ (by omega)).trans (XP.c1)), (set2_cell _ _ _ _ _ _ (by omega)).trans ((set2_cell _ _ _ _ _ _ (by omega)).trans (XQ.c0)), (set2_cell _ _ _ _ _ _ (by omega)).trans ((set2_cell _ _ _ _ _ _ (by omega)).trans (XQ.c1)), Z2q.c0, Z2q.c1⟩)
    (first
    | (go_at_call 169; (with_reducible refine (zadd_zr (k + k2 + 1) x y (by omega) (by omega) (by omega)).mono ?_); rintro e w_m1 ⟨s_m1, A_m1, n_m1, c_m1, rfl, m1, hh⟩
       try replace X := X.below hh
       try replace Q := Q.below hh
       try replace Y := Y.below hh
       try replace R := R.below hh
       try replace x := x.below hh
       try replace y := y.below hh
       try replace l := l.below hh
       try replace XA := XA.below hh
       try replace XB := XB.below hh
       try replace Z1 := Z1.below hh
       try replace Z2 := Z2.below hh
       try replace XP := XP.below hh
       try replace XQ := XQ.below hh
       replace hb := bend hb hh
       have z0 := Z1.c0
       have z1 := Z1.c1
       have z2 := Z1.f0
       have z3 := Z1.f1
       have y0 := Z2.c0
       have y1 := Z2.c1
       have y2 := Z2.f0
       have y3 := Z2.f1
       have Z2o := Z2.other (k := w.heap.size + 1 + 1) (by omega) (.bool s_m1) (.slice A_m1 n_m1 c_m1)
       have zo0 := Z2o.c0
       have zo1 := Z2o.c1
       have zo2 := Z2o.f0
       have zo3 := Z2o.f1
       have Z2q := Z2o.set2 (.bool s_l) (.slice A_l n_l c_l)))
  go_wp2_with fail
  have G1 := (Z1.set2 (.bool s_m1) (.slice A_m1 n_m1 c_m1)).other (k := w.heap.size + 1 + 1 + 1) (by omega) (.bool s_l) (.slice A_l n_l c_l)
  have G2 := (Z2.other (k := w.heap.size + 1 + 1) (by omega) (.bool s_m1) (.slice A_m1 n_m1 c_m1)).set2 (.bool s_l) (.slice A_l n_l c_l)
  have g0 := G1.c0
  have g1 := G1.c1
  have g2 := G2.c0
  have g3 := G2.c1
  have HT := two_set hb (by omega) (by omega) (by omega) Z1 Z2 m1 (l.more (show k + k2 ≤ k + k2 + 1 by omega)) (.bool s_m1) (.slice A_m1 n_m1 c_m1) (.bool s_l) (.slice A_l n_l c_l)
  refine bodyPost_ret (v := .tuple #[.agg #[.bool s_m1, .slice A_m1 n_m1 c_m1], .agg #[.bool s_l, .slice A_l n_l c_l]]) (by simp [results, Tryz.results110, go_sem, g0, g1, g2, g3]) rfl ?_
  exact ⟨_, L, HL0.out, by rw [HL1.out, HL2.out]; exact mk_add_same HL0.out, _, _, _, _, _, _, _, _, rfl, HT.1, HT.2.1, HT.2.2⟩
set_option maxRecDepth 100000 in
set_option maxHeartbeats 4000000 in
theorem radd_q {w : World} {s t : Bool} {A A' B B' : Option Addr} {n c n' c' m d m' d' k k2 : Nat} {v0 u0 : Rat} (X0 : QR w s A n c A' n' c' v0 k) (Y0 : QR w t B m d B' m' d' u0 k2) (hk : k ≤ 400) (hkb : k2 ≤ 400) (h40 : k ≤ 40 ∨ k2 ≤ 40) (hk1 : 1 ≤ k) (hk3 : 1 ≤ k2) :
    Calls Tryz.prog 22 #[.agg #[.bool s, .slice A n c, .slice A' n' c'], .agg #[.bool t, .slice B m d, .slice B' m' d']] w (GivesQ w (v0 + u0) (k + k2 + 1)) := by
  go_enter Tryz.func22, Tryz.ntmps22
  go_wp2_with fail
  generalize hW : (((w.alloc (Obj.cells #[Value.bool s, Value.slice A n c, Value.slice A' n' c'] 26)).alloc (Obj.cells #[Value.bool t, Value.slice B m d, Value.slice B' m' d'] 26)).alloc (Obj.cells #[Value.bool false, Value.slice none 0 0, Value.slice none 0 0] 26)) = W
  have hb : Below w.heap.size w W := by subst hW; exact ((((Below.refl _ _).alloc (Nat.le_refl _) _).alloc (by simp) _).alloc (by simp; omega) _)
  have XA : B3 W (w.heap.size) (Value.bool s) (Value.slice A n c) (Value.slice A' n' c') := by subst hW; exact ((B3.new' _ _ _ _ _ rfl).alloc _).alloc _
  have XB : B3 W (w.heap.size + 1) (Value.bool t) (Value.slice B m d) (Value.slice B' m' d') := by subst hW; exact (B3.new' _ _ _ _ _ (by simp)).alloc _
  have Z : B3 W (w.heap.size + 1 + 1) (Value.bool false) (Value.slice none 0 0) (Value.slice none 0 0) := by subst hW; exact B3.new' _ _ _ _ _ (by simp)
  have hzW : W.heap.size = w.heap.size + 3 := by subst hW; simp
  clear hW
  replace X0 := X0.below hb
  replace Y0 := Y0.below hb
  have xa0 := XA.c0
  have xa1 := XA.c1
  have xa2 := XA.c2
  have xb0 := XB.c0
  have xb1 := XB.c1
  have xb2 := XB.c2
  go_wp2_with (first
      | (go_at_call 110; (with_reducible refine (rsum_q X0 Y0 hk hkb h40 hk1 hk3).mono ?_); rintro e w_a ⟨f, L, hL0, hL1, s_x, A_x, n_x, c_x, s_y, A_y, n_y, c_y, rfl, x, y, hh⟩
         try replace X0 := X0.below hh
         try replace Y0 := Y0.below hh
         try replace r := r.below hh
         try replace XA := XA.below hh
         try replace XB := XB.below hh
         try replace Z := Z.below hh
         replace hb := bend hb hh
         have hL : (L : Int) ≠ 0 := by omega
         have HL0 := Lib.hid hL
         have HL1 : Hid (Rat.divInt f (L : Int) = v0 + u0) := by show _ = _; rw [hL1, Rat.divInt_ofNat]
         clear hL0 hL1 hL)
      | (go_at_call 109; (with_reducible refine (by_zr (k + k2 + 1) x y (by omega) (by omega) HL0.out (Nat.le_refl _) (Nat.le_refl _)).mono ?_); rintro e w_r ⟨s_r, A_r, n_r, c_r, B_r, m_r, d_r, rfl, r, hh⟩
         rw [HL1.out] at r
         try replace X0 := X0.below hh
         try replace Y0 := Y0.below hh
         try replace x := x.below hh
         try replace y := y.below hh
         try replace XA := XA.below hh
         try replace XB := XB.below hh
         try replace Z := Z.below hh
         replace hb := bend hb hh
         have zf0 := Z.f0
         have zf1 := Z.f1
         have zf2 := Z.f2
         have z0 := Z.c0
         have z1 := Z.c1
         have z2 := Z.c2))
  have Z2 := Z.set3 (.bool s_r) (.slice A_r n_r c_r) (.slice B_r m_r d_r)
  have g0 := Z2.c0
  have g1 := Z2.c1
  have g2 := Z2.c2
  refine bodyPost_ret (v := .agg #[.bool s_r, .slice A_r n_r c_r, .slice B_r m_r d_r]) (by simp [results, Tryz.results22, go_sem, g0, g1, g2]) rfl ?_
  exact ⟨s_r, A_r, n_r, c_r, B_r, m_r, d_r, rfl, r.set3 Z _ _ _, below_set3 hb (by omega) _ _ _⟩
set_option maxRecDepth 100000 in
set_option maxHeartbeats 4000000 in
theorem rmul_q {w : World} {s t : Bool} {A A' B B' : Option Addr} {n c n' c' m d m' d' k k2 : Nat} {v0 u0 : Rat} (X0 : QR w s A n c A' n' c' v0 k) (Y0 : QR w t B m d B' m' d' u0 k2) (hk : k ≤ 400) (hkb : k2 ≤ 400) (h40 : k ≤ 40 ∨ k2 ≤ 40) (hk1 : 1 ≤ k) (hk3 : 1 ≤ k2) :
    Calls Tryz.prog 26 #[.agg #[.bool s, .slice A n c, .slice A' n' c'], .agg #[.bool t, .slice B m d, .slice B' m' d']] w (GivesQ w (v0 * u0) (k + k2)) := by
  obtain ⟨p, q, X, Q, rfl⟩ := X0
  obtain ⟨p2, q2, Y, R, rfl⟩ := Y0
  have HE : Hid (Rat.divInt (p * p2) ((den1 q : Int) * (den1 q2 : Int)) = mkRat p (den1 q) * mkRat p2 (den1 q2)) := by show _ = _; rw [mk_mul, ← Int.natCast_mul, Rat.divInt_ofNat]
  have HL0 : Hid ((den1 q : Int) * (den1 q2 : Int) ≠ 0) := Int.mul_ne_zero (den1_i q) (den1_i q2)
  go_enter Tryz.func26, Tryz.ntmps26
  go_wp2_with fail
  generalize hW : (((w.alloc (Obj.cells #[Value.bool s, Value.slice A n c, Value.slice A' n' c'] 26)).alloc (Obj.cells #[Value.bool t, Value.slice B m d, Value.slice B' m' d'] 26)).alloc (Obj.cells #[Value.bool false, Value.slice none 0 0, Value.slice none 0 0] 26)) = W
  have hb : Below w.heap.size w W := by subst hW; exact ((((Below.refl _ _).alloc (Nat.le_refl _) _).alloc (by simp) _).alloc (by simp; omega) _)
  have XA : B3 W (w.heap.size) (Value.bool s) (Value.slice A n c) (Value.slice A' n' c') := by subst hW; exact ((B3.new' _ _ _ _ _ rfl).alloc _).alloc _
  have XB : B3 W (w.heap.size + 1) (Value.bool t) (Value.slice B m d) (Value.slice B' m' d') := by subst hW; exact (B3.new' _ _ _ _ _ (by simp)).alloc _
  have Z : B3 W (w.heap.size + 1 + 1) (Value.bool false) (Value.slice none 0 0) (Value.slice none 0 0) := by subst hW; exact B3.new' _ _ _ _ _ (by simp)
  have hzW : W.heap.size = w.heap.size + 3 := by subst hW; simp
  clear hW
  replace X := X.below hb
  replace Q := Q.below hb
  replace Y := Y.below hb
  replace R := R.below hb
  have xa0 := XA.c0
  have xa1 := XA.c1
  have xa2 := XA.c2
  have xb0 := XB.c0
  have xb1 := XB.c1
  have xb2 := XB.c2
  go_wp2_with (first
      | (go_at_call 113; (with_reducible refine (rprod_q X Q Y R hk hkb h40 hk1 hk3).mono ?_); rintro e w_a ⟨s_x, A_x, n_x, c_x, s_y, A_y, n_y, c_y, rfl, x, y, hh⟩
         try replace X := X.below hh
         try replace Q := Q.below hh
         try replace Y := Y.below hh
         try replace R := R.below hh
         try replace r := r.below hh
         try replace XA := XA.below hh
         try replace XB := XB.below hh
         try replace Z := Z.below hh
         replace hb := bend hb hh)
      | (go_at_call 109; (with_reducible refine (by_zr (k + k2) x y (by omega) (by omega) HL0.out (Nat.le_refl _) (Nat.le_refl _)).mono ?_); rintro e w_r ⟨s_r, A_r, n_r, c_r, B_r, m_r, d_r, rfl, r, hh⟩
         rw [HE.out] at r
         try replace X := X.below hh
         try replace Q := Q.below hh
         try replace Y := Y.below hh
         try replace R := R.below hh
         try replace x := x.below hh
         try replace y := y.below hh
         try replace XA := XA.below hh
         try replace XB := XB.below hh
         try replace Z := Z.below hh
         replace hb := bend hb hh
         have zf0 := Z.f0
         have zf1 := Z.f1
         have zf2 := Z.f2
         have z0 := Z.c0
         have z1 := Z.c1
         have z2 := Z.c2))
  have Z2 := Z.set3 (.bool s_r) (.slice A_r n_r c_r) (.slice B_r m_r d_r)
  have g0 := Z2.c0
  have g1 := Z2.c1
  have g2 := Z2.c2
  refine bodyPost_ret (v := .agg #[.bool s_r, .slice A_r n_r c_r, .slice B_r m_r d_r]) (by simp [results, Tryz.results26, go_sem, g0, g1, g2]) rfl ?_
  exact ⟨s_r, A_r, n_r, c_r, B_r, m_r, d_r, rfl, r.set3 Z _ _ _, below_set3 hb (by omega) _ _ _⟩
end Go.Proofs.YtlkjkhpjhllapaaGreat
namespace Go.Proofs.YtlkjkhpjhllapaaGreat
open Go.RowKit
theorem below_set2' {B g : Nat} {w W : World} (h : Below B w W) (hg : B ≤ g) (x y : Value) : Below B w ((W.setCell ⟨g, 0, none⟩ x).setCell ⟨g, 1, none⟩ y) := (h.setCell hg _).setCell hg _
end Go.Proofs.YtlkjkhpjhllapaaGreat
namespace Go.Proofs.YtlkjkhpjhllapaaGreat
open Go Go.RowKit
set_option maxRecDepth 100000 in
set_option maxHeartbeats 4000000 in
theorem rof_q (p q : Int) (hp1 : -9223372036854775808 ≤ p) (hp2 : p < 9223372036854775808) (hq1 : -9223372036854775808 ≤ q) (hq2 : q < 9223372036854775808) (hq0 : ((q : Int) == 0) = false) (w : World) :
    Calls Tryz.prog 42 #[.int .i64 p, .int .i64 q] w (GivesQ w (Rat.divInt p q) 1) := by
  have hq : q ≠ 0 := by simpa using hq0
  have HQ := Lib.hid hq
  have H1 := Lib.hid hp1
  have H2 := Lib.hid hp2
  have H3 := Lib.hid hq1
  have H4 := Lib.hid hq2
  clear hq hp1 hp2 hq1 hq2
  go_enter Tryz.func42, Tryz.ntmps42
  go_wp2_with fail
  generalize hW : (w.alloc (Obj.cells #[Value.bool false, Value.slice none 0 0, Value.slice none 0 0] 26)) = W
  have hb : Below w.heap.size w W := by subst hW; exact ((Below.refl _ _).alloc (Nat.le_refl _) _)
  have Z : B3 W (w.heap.size) (Value.bool false) (Value.slice none 0 0) (Value.slice none 0 0) := by subst hW; exact B3.new' _ _ _ _ _ rfl
  have hzW : W.heap.size = w.heap.size + 1 := by subst hW; simp
  clear hW
  go_upto_region 4 with (first
      | (go_at_call 45; (with_reducible refine (zof_zr p H1.out H2.out _).mono ?_); rintro e w_x ⟨s_x, A_x, n_x, c_x, rfl, x, hh⟩
         try replace y := y.below hh
         try replace r := r.below hh
         try replace Z := Z.below hh
         replace hb := bend hb hh)
      | (go_at_call 45; (with_reducible refine (zof_zr q H3.out H4.out _).mono ?_); rintro e w_y ⟨s_y, A_y, n_y, c_y, rfl, y, hh⟩
         try replace x := x.below hh
         try replace r := r.below hh
         try replace Z := Z.below hh
         replace hb := bend hb hh)
      | (go_at_call 43; (with_reducible refine (make_zr 1 x y (by omega) (by omega) HQ.out (Nat.le_refl _) (Nat.le_refl _)).mono ?_); rintro e w_r ⟨s_r, A_r, n_r, c_r, B_r, m_r, d_r, rfl, r, hh⟩
         try replace x := x.below hh
         try replace y := y.below hh
         try replace Z := Z.below hh
         replace hb := bend hb hh))
  generalize hW : (w_r.alloc (Obj.cells #[Value.bool s_r, Value.slice A_r n_r c_r, Value.slice B_r m_r d_r] 26)) = W2
  have hh : Below w_r.heap.size w_r W2 := by subst hW; exact ((Below.refl _ _).alloc (Nat.le_refl _) _)
  have R : B3 W2 (w_r.heap.size) (Value.bool s_r) (Value.slice A_r n_r c_r) (Value.slice B_r m_r d_r) := by subst hW; exact B3.new' _ _ _ _ _ rfl
  have hzW2 : W2.heap.size = w_r.heap.size + 1 := by subst hW; simp
  clear hW
  try replace r := r.below hh
  try replace Z := Z.below hh
  replace hb := bend hb hh
  have r0 := R.c0
  have r1 := R.c1
  have r2 := R.c2
  have zf0 := Z.f0
  have zf1 := Z.f1
  have zf2 := Z.f2
  have z0 := Z.c0
  have z1 := Z.c1
  have z2 := Z.c2
  go_wp2_with fail
  have Z2 := Z.set3 (.bool s_r) (.slice A_r n_r c_r) (.slice B_r m_r d_r)
  have g0 := Z2.c0
  have g1 := Z2.c1
  have g2 := Z2.c2
  refine bodyPost_ret (v := .agg #[.bool s_r, .slice A_r n_r c_r, .slice B_r m_r d_r]) (by simp [results, Tryz.results42, go_sem, g0, g1, g2]) rfl ?_
  exact ⟨s_r, A_r, n_r, c_r, B_r, m_r, d_r, rfl, r.set3 Z _ _ _, below_set3 hb (by omega) _ _ _⟩
theorem ba_app3 (a b : List UInt8) : ((⟨a.toArray⟩ ++ ⟨#[47]⟩) ++ ⟨b.toArray⟩ : ByteArray) = ⟨(a ++ (47 :: b)).toArray⟩ := by
  apply ByteArray.ext
  simp [ByteArray.data_append]
def qtxt (v : Rat) : List UInt8 := if v.den = 1 then ztxt v.num else ztxt v.num ++ (47 :: txt v.den)
theorem ztxt_le {v : Int} {k : Nat} (hv : v.natAbs < B64 ^ k) (hk : k ≤ 800) : (ztxt v).length ≤ 20001 := by
  have := txt_len hv (show k ≤ 900 by omega)
  unfold ztxt
  split
  · rw [List.length_cons]; omega
  · omega
theorem ZR.nab' {w : World} {s : Bool} {A : Option Addr} {n c k : Nat} {v : Int} (h : ZR w s A n c v k) : v.natAbs < B64 ^ k := by
  obtain ⟨l, h1, h2, h3, h4, h5, h6⟩ := h
  exact h6
theorem QG.num_lt {w : World} {s : Bool} {A A' : Option Addr} {n c n' c' k : Nat} {v : Rat} (h : QG w s A n c A' n' c' v k) : v.num.natAbs < B64 ^ k := h.1.zr.nab'
theorem QG.den_lt {w : World} {s : Bool} {A A' : Option Addr} {n c n' c' k : Nat} {v : Rat} (h : QG w s A n c A' n' c' v k) : v.den < B64 ^ k := h.2.nr.lt
set_option maxRecDepth 100000 in
set_option maxHeartbeats 4000000 in
theorem rtext_one {w : World} {s : Bool} {A A' : Option Addr} {n c n' c' k : Nat} {v : Rat} (X0 : QR w s A n c A' n' c' v k) (hk : k ≤ 78) (hk1 : 1 ≤ k) (hd : v.den = 1) :
    Calls Tryz.prog 40 #[.agg #[.bool s, .slice A n c, .slice A' n' c']] w fun e w' => e = .returned (.string ⟨(qtxt v).toArray⟩) ∧ Below w.heap.size w w' := by
  obtain ⟨p, q, X, Q, rfl⟩ := X0
  have HE : Hid (Rat.divInt p (den1 q : Int) = mkRat p (den1 q)) := Rat.divInt_ofNat _ _
  have HD : Hid (decide ((mkRat p (den1 q)).den = 1) = true) := decide_eq_true hd
  have HQ : Hid (qtxt (mkRat p (den1 q)) = ztxt (mkRat p (den1 q)).num) := if_pos hd
  clear hd
  go_enter Tryz.func40, Tryz.ntmps40
  go_wp2_with fail
  generalize hW : (w.alloc (Obj.cells #[Value.bool s, Value.slice A n c, Value.slice A' n' c'] 26)) = W
  have hb : Below w.heap.size w W := by subst hW; exact ((Below.refl _ _).alloc (Nat.le_refl _) _)
  have XA : B3 W (w.heap.size) (Value.bool s) (Value.slice A n c) (Value.slice A' n' c') := by subst hW; exact B3.new' _ _ _ _ _ rfl
  have hzW : W.heap.size = w.heap.size + 1 := by subst hW; simp
  clear hW
  replace X := X.below hb
  replace Q := Q.below hb
  have xa0 := XA.c0
  have xa1 := XA.c1
  have xa2 := XA.c2
  go_upto_region 2 with (first
      | (go_at_call 114; (with_reducible refine (parts_any X Q (by omega) hk1).mono ?_); rintro e w_p ⟨s_x, A_x, n_x, c_x, s_y, A_y, n_y, c_y, rfl, x, y, hh⟩
         try replace X := X.below hh
         try replace Q := Q.below hh
         try replace r := r.below hh
         try replace XA := XA.below hh
         replace hb := bend hb hh)
      | (go_at_call 109; (with_reducible refine (by_zr k x y (by omega) (by omega) (den1_i q) (Nat.le_refl _) (Nat.le_refl _)).mono ?_); rintro e w_r ⟨s_r, A_r, n_r, c_r, B_r, m_r, d_r, rfl, r, hh⟩
         rw [HE.out] at r
         try replace X := X.below hh
         try replace Q := Q.below hh
         try replace x := x.below hh
         try replace y := y.below hh
         try replace XA := XA.below hh
         replace hb := bend hb hh
         have zf0 := XA.f0
         have zf1 := XA.f1
         have zf2 := XA.f2
         have z0 := XA.c0
         have z1 := XA.c1
         have z2 := XA.c2))
  generalize hW : ((w_r.setCell ⟨w.heap.size, 0, none⟩ (.bool s_r)).setCell ⟨w.heap.size, 1, none⟩ (.slice A_r n_r c_r)).setCell ⟨w.heap.size, 2, none⟩ (.slice B_r m_r d_r) = W1
  replace r : QG W1 s_r A_r n_r c_r B_r m_r d_r (mkRat p (den1 q)) k := by subst hW; exact r.set3 XA _ _ _
  replace hb : Below w.heap.size w W1 := by subst hW; exact below_set3 hb (Nat.le_refl _) _ _ _
  have XA3 : B3 W1 w.heap.size (.bool s_r) (.slice A_r n_r c_r) (.slice B_r m_r d_r) := by subst hW; exact XA.set3 _ _ _
  clear hW XA
  have XA := XA3
  clear XA3
  have xa0 := XA.c0
  have xa1 := XA.c1
  have xa2 := XA.c2
  have HR2 := Lib.hid r.2.nr
  have r1 := r.1.zr
  go_wp2_with (first
      | (go_at_call 131; (with_reducible refine (isone_nr HR2.out (by omega)).mono ?_); rintro e w_o ⟨rfl, rfl⟩; rw [HD.out])
      | (go_at_call 95; (with_reducible refine (ztext_zr r1 (by omega)).mono ?_); rintro e w_z ⟨rfl, hh⟩
         try replace X := X.below hh
         try replace Q := Q.below hh
         try replace x := x.below hh
         try replace y := y.below hh
         try replace r := r.below hh
         try replace XA := XA.below hh
         replace hb := bend hb hh))
  go_ret
  rw [HQ.out]
  exact ⟨rfl, hb⟩
set_option maxRecDepth 100000 in
set_option maxHeartbeats 4000000 in
theorem rtext_frac {w : World} {s : Bool} {A A' : Option Addr} {n c n' c' k : Nat} {v : Rat} (X0 : QR w s A n c A' n' c' v k) (hk : k ≤ 78) (hk1 : 1 ≤ k) (hd : ¬ v.den = 1) :
    Calls Tryz.prog 40 #[.agg #[.bool s, .slice A n c, .slice A' n' c']] w fun e w' => e = .returned (.string ⟨(qtxt v).toArray⟩) ∧ Below w.heap.size w w' := by
  obtain ⟨p, q, X, Q, rfl⟩ := X0
  have HE : Hid (Rat.divInt p (den1 q : Int) = mkRat p (den1 q)) := Rat.divInt_ofNat _ _
  have HD : Hid (decide ((mkRat p (den1 q)).den = 1) = false) := decide_eq_false hd
  have HQ : Hid (qtxt (mkRat p (den1 q)) = ztxt (mkRat p (den1 q)).num ++ (47 :: txt (mkRat p (den1 q)).den)) := if_neg hd
  clear hd
  go_enter Tryz.func40, Tryz.ntmps40
  go_wp2_with fail
  generalize hW : (w.alloc (Obj.cells #[Value.bool s, Value.slice A n c, Value.slice A' n' c'] 26)) = W
  have hb : Below w.heap.size w W := by subst hW; exact ((Below.refl _ _).alloc (Nat.le_refl _) _)
  have XA : B3 W (w.heap.size) (Value.bool s) (Value.slice A n c) (Value.slice A' n' c') := by subst hW; exact B3.new' _ _ _ _ _ rfl
  have hzW : W.heap.size = w.heap.size + 1 := by subst hW; simp
  clear hW
  replace X := X.below hb
  replace Q := Q.below hb
  have xa0 := XA.c0
  have xa1 := XA.c1
  have xa2 := XA.c2
  go_upto_region 2 with (first
      | (go_at_call 114; (with_reducible refine (parts_any X Q (by omega) hk1).mono ?_); rintro e w_p ⟨s_x, A_x, n_x, c_x, s_y, A_y, n_y, c_y, rfl, x, y, hh⟩
         try replace X := X.below hh
         try replace Q := Q.below hh
         try replace r := r.below hh
         try replace XA := XA.below hh
         replace hb := bend hb hh)
      | (go_at_call 109; (with_reducible refine (by_zr k x y (by omega) (by omega) (den1_i q) (Nat.le_refl _) (Nat.le_refl _)).mono ?_); rintro e w_r ⟨s_r, A_r, n_r, c_r, B_r, m_r, d_r, rfl, r, hh⟩
         rw [HE.out] at r
         try replace X := X.below hh
         try replace Q := Q.below hh
         try replace x := x.below hh
         try replace y := y.below hh
         try replace XA := XA.below hh
         replace hb := bend hb hh
         have zf0 := XA.f0
         have zf1 := XA.f1
         have zf2 := XA.f2
         have z0 := XA.c0
         have z1 := XA.c1
         have z2 := XA.c2))
  generalize hW : ((w_r.setCell ⟨w.heap.size, 0, none⟩ (.bool s_r)).setCell ⟨w.heap.size, 1, none⟩ (.slice A_r n_r c_r)).setCell ⟨w.heap.size, 2, none⟩ (.slice B_r m_r d_r) = W1
  replace r : QG W1 s_r A_r n_r c_r B_r m_r d_r (mkRat p (den1 q)) k := by subst hW; exact r.set3 XA _ _ _
  replace hb : Below w.heap.size w W1 := by subst hW; exact below_set3 hb (Nat.le_refl _) _ _ _
  have XA3 : B3 W1 w.heap.size (.bool s_r) (.slice A_r n_r c_r) (.slice B_r m_r d_r) := by subst hW; exact XA.set3 _ _ _
  clear hW XA
  have XA := XA3
  clear XA3
  have xa0 := XA.c0
  have xa1 := XA.c1
  have xa2 := XA.c2
  have HR2 := Lib.hid r.2.nr
  have r1 := r.1.zr
  have l1 := ztxt_le r.num_lt (show k ≤ 800 by omega)
  have l2 := txt_len r.den_lt (show k ≤ 900 by omega)
  have hs1 : ¬ 9223372036854775807 < (ztxt (mkRat p (den1 q)).num).length + 1 := by omega
  have hs2 : ¬ 9223372036854775807 < (ztxt (mkRat p (den1 q)).num).length + 1 + (txt (mkRat p (den1 q)).den).length := by omega
  clear l1 l2
  go_upto_region 4 with (first
      | (go_at_call 131; (with_reducible refine (isone_nr HR2.out (by omega)).mono ?_); rintro e w_o ⟨rfl, rfl⟩; rw [HD.out]))
  replace r := r.below (Below.refl _ _).drew
  replace r1 := r1.below (Below.refl _ _).drew
  replace XA := XA.below (Below.refl _ _).drew
  have r2 := r.2.nr.more hk
  replace hb := hb.drew
  go_region_held3 (fun w' => w'.cell? ⟨w.heap.size, 0, none⟩ = some (.bool s_r) ∧ w'.cell? ⟨w.heap.size, 1, none⟩ = some (.slice A_r n_r c_r) ∧ w'.cell? ⟨w.heap.size, 2, none⟩ = some (.slice B_r m_r d_r))
    (first | with_reducible exact ⟨XA.c0, XA.c1, XA.c2⟩)
    (first
    | (go_at_call 95; (with_reducible refine (ztext_zr r1 (by omega)).mono ?_); rintro e w_z ⟨rfl, hh⟩
       try replace r := r.below hh
       try replace r2 := r2.below hh
       try replace XA := XA.below hh
       replace hb := bend hb hh)
    | (go_at_call 132; (with_reducible refine (text_nr r2).mono ?_); rintro e w_z ⟨rfl, hh⟩
       try replace r := r.below hh
       try replace XA := XA.below hh
       replace hb := bend hb hh))
  go_wp2_with fail
  go_ret
  refine ⟨?_, hb⟩
  rw [HQ.out]
  refine ret_eq ?_
  show Value.string ((⟨(ztxt (mkRat p (den1 q)).num).toArray⟩ ++ ⟨#[47]⟩) ++ ⟨(txt (mkRat p (den1 q)).den).toArray⟩) = _
  rw [ba_app3]
theorem rtext_q {w : World} {s : Bool} {A A' : Option Addr} {n c n' c' k : Nat} {v : Rat} (X0 : QR w s A n c A' n' c' v k) (hk : k ≤ 78) (hk1 : 1 ≤ k) :
    Calls Tryz.prog 40 #[.agg #[.bool s, .slice A n c, .slice A' n' c']] w fun e w' => e = .returned (.string ⟨(qtxt v).toArray⟩) ∧ Below w.heap.size w w' := by
  by_cases hd : v.den = 1
  · exact rtext_one X0 hk hk1 hd
  · exact rtext_frac X0 hk hk1 hd
end Go.Proofs.YtlkjkhpjhllapaaGreat
namespace Go.Proofs.YtlkjkhpjhllapaaGreat
theorem cmpQ_swap (v u : Rat) : cmpQ u v = -cmpQ v u := by
  unfold cmpQ
  by_cases h1 : v < u <;> by_cases h2 : u < v <;> simp [h1, h2]
  exact absurd (Rat.le_of_lt h2) (Rat.not_le.2 h1)
theorem cmpQ_le {v u : Rat} : cmpQ v u ≤ 0 ↔ v ≤ u := by
  unfold cmpQ
  rw [← Rat.not_lt]
  by_cases h1 : v < u
  · have h2 : ¬ u < v := fun h => absurd (Rat.le_of_lt h) (Rat.not_le.2 h1)
    simp [h1, h2]
  · by_cases h2 : u < v <;> simp [h1, h2]
theorem sgnQ_pos {v : Rat} : 0 < sgnQ v ↔ 0 < v := by
  unfold sgnQ
  by_cases h1 : v < 0
  · have : ¬ 0 < v := fun h => absurd (Rat.le_of_lt h) (Rat.not_le.2 h1)
    simp [h1, this]
  · by_cases h2 : v = 0
    · subst h2; simp [Rat.lt_irrefl]
    · have : 0 < v := Rat.lt_of_le_of_ne (Rat.not_lt.1 h1) (Ne.symm h2)
      simp [h1, h2, this]
theorem int1 (n : Int) : Rat.divInt n 1 = (n : Rat) := by
  have h : Rat.divInt n 1 = mkRat n 1 := Rat.divInt_ofNat n 1
  rw [h]
  apply Rat.ext
  · simp [Rat.num_mkRat]
  · simp [Rat.den_mkRat]
end Go.Proofs.YtlkjkhpjhllapaaGreat
namespace Go.Proofs.YtlkjkhpjhllapaaGreat
theorem castN (a : Nat) : ((a : Int) : Rat) = (a : Rat) := rfl
theorem natCast_mul' (a b : Nat) : ((a * b : Nat) : Rat) = (a : Rat) * (b : Rat) := by
  rw [← castN, ← castN, ← castN, Int.natCast_mul, Rat.intCast_mul]
def upQ (v : Rat) (k : Nat) : Rat := v * ((4 ^ k : Nat) : Rat)
def inQ (R k : Nat) : Rat := Rat.divInt (R : Int) ((2 ^ k : Nat) : Int)
theorem two_pos (k : Nat) : (0 : Rat) < ((2 ^ k : Nat) : Rat) := by
  have h : (0 : Int) < ((2 ^ k : Nat) : Int) := by have := Nat.two_pow_pos k; omega
  rw [← castN]; exact Rat.intCast_lt_intCast.2 h
theorem two_ne (k : Nat) : ((2 ^ k : Nat) : Rat) ≠ 0 := fun h => by
  have := two_pos k; rw [h] at this; exact Rat.lt_irrefl this
theorem inQ_eq (R k : Nat) : inQ R k * ((2 ^ k : Nat) : Rat) = (R : Rat) := by
  unfold inQ
  have h := two_ne k
  rw [← castN (2 ^ k), ← castN R, ← int1, ← int1, Rat.divInt_mul_divInt, Int.mul_one, Rat.divInt_eq_divInt_iff (by have := Nat.two_pow_pos k; omega) (by decide)]
  simp
theorem four_two (k : Nat) : ((4 ^ k : Nat) : Rat) = ((2 ^ k : Nat) : Rat) * ((2 ^ k : Nat) : Rat) := by
  rw [← natCast_mul', ← Nat.mul_pow]
theorem four_pos (k : Nat) : (0 : Rat) < ((4 ^ k : Nat) : Rat) := by rw [four_two]; exact Rat.mul_pos (two_pos k) (two_pos k)
theorem inQ_sq (R k : Nat) : upQ (inQ R k * inQ R k) k = ((R * R : Nat) : Rat) := by
  unfold upQ
  rw [four_two, natCast_mul', ← inQ_eq R k]
  grind
theorem upQ_le {a b : Rat} (k : Nat) : upQ a k ≤ upQ b k ↔ a ≤ b := by
  unfold upQ
  constructor
  · exact fun h => Rat.le_of_mul_le_mul_right h (four_pos k)
  · exact fun h => Rat.mul_le_mul_of_nonneg_right h (Rat.le_of_lt (four_pos k))
theorem upQ_nonneg {v : Rat} (hv : 0 ≤ v) (k : Nat) : 0 ≤ upQ v k := Rat.mul_nonneg hv (Rat.le_of_lt (four_pos k))
theorem floor_nn {v : Rat} (hv : 0 ≤ v) : 0 ≤ v.floor := Rat.le_floor_iff.2 (by simpa using hv)
theorem ceil_nn {v : Rat} (hv : 0 ≤ v) : 0 ≤ v.ceil := by
  have h := Rat.le_trans hv (@Rat.le_ceil v)
  have : ((0 : Int) : Rat) ≤ (v.ceil : Rat) := h
  exact Rat.intCast_le_intCast.1 this
def IsLow (v : Rat) (k R : Nat) : Prop := IsRoot (upQ v k).floor.natAbs R
def IsHigh (v : Rat) (k H : Nat) : Prop := ∃ R, IsRoot (upQ v k).ceil.natAbs R ∧ H = if R * R = (upQ v k).ceil.natAbs then R else R + 1
theorem IsLow.le {v : Rat} {k R : Nat} (hv : 0 ≤ v) (h : IsLow v k R) : inQ R k * inQ R k ≤ v := by
  rw [← upQ_le k, inQ_sq]
  have h1 : ((R * R : Nat) : Int) ≤ (upQ v k).floor := by have := h.1; have := floor_nn (upQ_nonneg hv k); omega
  rw [← castN]; exact Rat.le_floor_iff.1 h1
theorem IsHigh.ge {v : Rat} {k H : Nat} (hv : 0 ≤ v) (h : IsHigh v k H) : v ≤ inQ H k * inQ H k := by
  rw [← upQ_le k, inQ_sq]
  obtain ⟨R, h1, h2⟩ := h
  have h0 := ceil_nn (upQ_nonneg hv k)
  have h3 : (upQ v k).ceil ≤ ((H * H : Nat) : Int) := by
    split at h2
    · rename_i e; subst h2; omega
    · subst h2; have := h1.2; omega
  rw [← castN]; exact Rat.le_trans Rat.le_ceil (Rat.intCast_le_intCast.2 h3)
end Go.Proofs.YtlkjkhpjhllapaaGreat
namespace Go.Proofs.YtlkjkhpjhllapaaGreat
open Go Go.RowKit
def toQ (v : Rat) (u : Int) : Int := (v * Rat.divInt u 1 + Rat.divInt 1 2).floor
theorem QG.tight {w : World} {s : Bool} {A A' : Option Addr} {n c n' c' k k1 : Nat} {v : Rat} (h : QG w s A n c A' n' c' v k) (h1 : v.num.natAbs < B64 ^ k1) (h2 : v.den < B64 ^ k1) : QG w s A n c A' n' c' v k1 :=
  ⟨⟨h.1.1, h.1.2.1, h.1.2.2.1, by rw [← h.1.2.1.1]; exact length_limbs_le B64_two h1⟩, NG.tight h.2 h2⟩
set_option maxRecDepth 100000 in
set_option maxHeartbeats 4000000 in
theorem to_q {w : World} {s : Bool} {A A' : Option Addr} {n c n' c' k : Nat} {v : Rat} (u : Int) (X : QR w s A n c A' n' c' v k) (hk : k ≤ 300) (hk1 : 1 ≤ k) (hu1 : 1 ≤ u) (hu2 : u < 9223372036854775808) :
    Calls Tryz.prog 61 #[.agg #[.bool s, .slice A n c, .slice A' n' c'], .int .i64 u] w (GivesZG w (toQ v u) (k + 4)) := by
  have h1 : -9223372036854775808 ≤ u := by omega
  have H1 := Lib.hid h1
  have H2 := Lib.hid hu2
  have hu : ¬ u < 1 := by omega
  clear h1 hu1 hu2
  go_enter Tryz.func61, Tryz.ntmps61
  go_wp2_with fail
  generalize hW : ((w.alloc (Obj.cells #[Value.bool s, Value.slice A n c, Value.slice A' n' c'] 26)).alloc (Obj.cells #[Value.bool false, Value.slice none 0 0] 24)) = W
  have hb : Below w.heap.size w W := by subst hW; exact (((Below.refl _ _).alloc (Nat.le_refl _) _).alloc (by simp) _)
  have XA : B3 W (w.heap.size) (Value.bool s) (Value.slice A n c) (Value.slice A' n' c') := by subst hW; exact (B3.new' _ _ _ _ _ rfl).alloc _
  have Z : Bx W (w.heap.size + 1) (Value.bool false) (Value.slice none 0 0) := by subst hW; exact Bx.new' _ _ _ _ (by simp)
  have hzW : W.heap.size = w.heap.size + 2 := by subst hW; simp
  clear hW
  replace X := X.below hb
  have xa0 := XA.c0
  have xa1 := XA.c1
  have xa2 := XA.c2
  replace X := X.below (Below.refl _ _).drew
  replace XA := XA.below (Below.refl _ _).drew
  replace Z := Z.below (Below.refl _ _).drew
  replace hb := hb.drew
  go_region_held3 (fun w' => w'.cell? ⟨w.heap.size, 0, none⟩ = some (Value.bool s) ∧ w'.cell? ⟨w.heap.size, 1, none⟩ = some (Value.slice A n c) ∧ w'.cell? ⟨w.heap.size, 2, none⟩ = some (Value.slice A' n' c'))
    (first | with_reducible exact ⟨XA.c0, XA.c1, XA.c2⟩ | with_reducible exact ⟨(set2_cell _ _ _ _ _ _ (by omega)).trans (XA.c0), (set2_cell _ _ _ _ _ _ (by omega)).trans (XA.c1), (set2_cell _ _ _ _ _ _ (by omega)).trans (XA.c2)⟩)
    (first
    | (go_at_call 42; (with_reducible refine (rof_q u 1 H1.out H2.out (by decide) (by decide) (by decide) _).mono ?_); rintro e w_o ⟨s_o, A_o, n_o, c_o, B_o, m_o, d_o, rfl, o, hh⟩
       try replace X := X.below hh
       try replace m := m.below hh
       try replace h := h.below hh
       try replace t := t.below hh
       try replace f := f.below hh
       try replace XA := XA.below hh
       try replace Z := Z.below hh
       replace hb := bend hb hh)
    | (go_at_call 42; (with_reducible refine (rof_q 1 2 (by decide) (by decide) (by decide) (by decide) (by decide) _).mono ?_); rintro e w_h ⟨s_h, A_h, n_h, c_h, B_h, m_h, d_h, rfl, h, hh⟩
       try replace X := X.below hh
       try replace o := o.below hh
       try replace m := m.below hh
       try replace t := t.below hh
       try replace f := f.below hh
       try replace XA := XA.below hh
       try replace Z := Z.below hh
       replace hb := bend hb hh)
    | (go_at_call 26; (with_reducible refine (rmul_q X o.qr (by omega) (by decide) (.inr (by decide)) hk1 (by decide)).mono ?_); rintro e w_m ⟨s_m, A_m, n_m, c_m, B_m, m_m, d_m, rfl, m, hh⟩
       try replace X := X.below hh
       try replace o := o.below hh
       try replace h := h.below hh
       try replace t := t.below hh
       try replace f := f.below hh
       try replace XA := XA.below hh
       try replace Z := Z.below hh
       replace hb := bend hb hh)
    | (go_at_call 22; (with_reducible refine (radd_q m.qr h.qr (by omega) (by decide) (.inr (by decide)) (by omega) (by decide)).mono ?_); rintro e w_t ⟨s_t, A_t, n_t, c_t, B_t, m_t, d_t, rfl, t, hh⟩
       try replace X := X.below hh
       try replace o := o.below hh
       try replace m := m.below hh
       try replace h := h.below hh
       try replace f := f.below hh
       try replace XA := XA.below hh
       try replace Z := Z.below hh
       replace hb := bend hb hh)
    | (go_at_call 96; (with_reducible refine (rfloor_q t.qr (by omega) (by omega)).mono ?_); rintro e w_f ⟨s_f, A_f, n_f, c_f, rfl, f, hh⟩
       try replace X := X.below hh
       try replace o := o.below hh
       try replace m := m.below hh
       try replace h := h.below hh
       try replace t := t.below hh
       try replace XA := XA.below hh
       try replace Z := Z.below hh
       replace hb := bend hb hh
       have z0 := Z.c0
       have z1 := Z.c1
       have z2 := Z.f0
       have z3 := Z.f1))
  go_wp2_with fail
  replace f : ZG w_f s_f A_f n_f c_f (toQ v u) (k + 4) := f
  have Z2 := Z.set2 (.bool s_f) (.slice A_f n_f c_f)
  have g0 := Z2.c0
  have g1 := Z2.c1
  refine bodyPost_ret (v := .agg #[.bool s_f, .slice A_f n_f c_f]) (by simp [results, Tryz.results61, go_sem, g0, g1]) rfl ?_
  exact ⟨s_f, A_f, n_f, c_f, rfl, f.set2x Z _ _, below_set2 hb (by omega) _ _⟩
def byteQ (v : Rat) : Int := if v ≤ 0 then 0 else if 1 ≤ v then 255 else toQ v 255
theorem sgn_le {v : Rat} : sgnQ v ≤ 0 ↔ v ≤ 0 := by
  have h := @sgnQ_pos v
  rw [← Rat.not_lt, ← h]; omega
theorem cmp_ge {v u : Rat} : 0 ≤ cmpQ v u ↔ u ≤ v := by
  rw [← cmpQ_le, cmpQ_swap u v]; omega
theorem one1 : Rat.divInt 1 1 = 1 := by decide +kernel
theorem to_mid {v : Rat} (h0 : 0 ≤ v) (h1 : v ≤ 1) : 0 ≤ toQ v 255 ∧ toQ v 255 ≤ 255 := by
  unfold toQ
  rw [int1]
  have h255 : ((255 : Int) : Rat) = 255 := rfl
  have hh : Rat.divInt 1 2 = 1 / 2 := by decide +kernel
  rw [h255, hh]
  constructor
  · refine Rat.le_floor_iff.2 ?_
    have : (0 : Rat) ≤ v * 255 := Rat.mul_nonneg h0 (by decide +kernel)
    have e : (((0 : Int)) : Rat) = 0 := rfl
    rw [e]; grind
  · have h2 : v * 255 + 1 / 2 < ((256 : Int) : Rat) := by
      have h3 : v * 255 ≤ 1 * 255 := Rat.mul_le_mul_of_nonneg_right h1 (by decide +kernel)
      have e : ((256 : Int) : Rat) = 256 := rfl
      rw [e]; grind
    have := Rat.floor_lt_iff.2 h2
    omega
set_option maxRecDepth 100000 in
set_option maxHeartbeats 4000000 in
theorem byte_lo {w : World} {s : Bool} {A A' : Option Addr} {n c n' c' k : Nat} {v : Rat} (X : QR w s A n c A' n' c' v k) (hk : k ≤ 300) (hk1 : 1 ≤ k) (hv : v ≤ 0) :
    Calls Tryz.prog 64 #[.agg #[.bool s, .slice A n c, .slice A' n' c']] w fun e w' => e = .returned (.int .u8 0) ∧ Below w.heap.size w w' := by
  obtain ⟨g, hg, hg0⟩ : ∃ g, sgnQ v = g ∧ g ≤ 0 := ⟨_, rfl, sgn_le.2 hv⟩
  have HG := Lib.hid hg
  clear hg hv
  go_enter Tryz.func64, Tryz.ntmps64
  go_wp2_with fail
  generalize hW : (w.alloc (Obj.cells #[Value.bool s, Value.slice A n c, Value.slice A' n' c'] 26)) = W
  have hb : Below w.heap.size w W := by subst hW; exact ((Below.refl _ _).alloc (Nat.le_refl _) _)
  have XA : B3 W (w.heap.size) (Value.bool s) (Value.slice A n c) (Value.slice A' n' c') := by subst hW; exact B3.new' _ _ _ _ _ rfl
  have hzW : W.heap.size = w.heap.size + 1 := by subst hW; simp
  clear hW
  replace X := X.below hb
  have xa0 := XA.c0
  have xa1 := XA.c1
  have xa2 := XA.c2
  go_wp2_with (first
      | (go_at_call 30; (with_reducible refine (rsign_q X (by omega) hk1).mono ?_); rintro e w_z ⟨rfl, hh⟩
         rw [HG.out]
         try replace X := X.below hh
         try replace o := o.below hh
         try replace f := f.below hh
         try replace XA := XA.below hh
         replace hb := bend hb hh
         have xa0 := XA.c0
         have xa1 := XA.c1
         have xa2 := XA.c2))
  go_ret
  exact ⟨rfl, hb⟩
set_option maxRecDepth 100000 in
set_option maxHeartbeats 4000000 in
theorem byte_hi {w : World} {s : Bool} {A A' : Option Addr} {n c n' c' k : Nat} {v : Rat} (X : QR w s A n c A' n' c' v k) (hk : k ≤ 300) (hk1 : 1 ≤ k) (hv : 0 < v) (h1 : 1 ≤ v) :
    Calls Tryz.prog 64 #[.agg #[.bool s, .slice A n c, .slice A' n' c']] w fun e w' => e = .returned (.int .u8 255) ∧ Below w.heap.size w w' := by
  obtain ⟨g, hg, hg0⟩ : ∃ g, sgnQ v = g ∧ ¬ g ≤ 0 := ⟨_, rfl, fun h => absurd (sgn_le.1 h) (Rat.not_le.2 hv)⟩
  have HG := Lib.hid hg
  clear hg hv
  obtain ⟨g2, hg2, hg20⟩ : ∃ g, cmpQ v 1 = g ∧ 0 ≤ g := ⟨_, rfl, cmp_ge.2 h1⟩
  have HC := Lib.hid hg2
  clear hg2 h1
  go_enter Tryz.func64, Tryz.ntmps64
  go_wp2_with fail
  generalize hW : (w.alloc (Obj.cells #[Value.bool s, Value.slice A n c, Value.slice A' n' c'] 26)) = W
  have hb : Below w.heap.size w W := by subst hW; exact ((Below.refl _ _).alloc (Nat.le_refl _) _)
  have XA : B3 W (w.heap.size) (Value.bool s) (Value.slice A n c) (Value.slice A' n' c') := by subst hW; exact B3.new' _ _ _ _ _ rfl
  have hzW : W.heap.size = w.heap.size + 1 := by subst hW; simp
  clear hW
  replace X := X.below hb
  have xa0 := XA.c0
  have xa1 := XA.c1
  have xa2 := XA.c2
  go_upto_region 3 with (first
      | (go_at_call 30; (with_reducible refine (rsign_q X (by omega) hk1).mono ?_); rintro e w_z ⟨rfl, hh⟩
         rw [HG.out]
         try replace X := X.below hh
         try replace o := o.below hh
         try replace f := f.below hh
         try replace XA := XA.below hh
         replace hb := bend hb hh
         have xa0 := XA.c0
         have xa1 := XA.c1
         have xa2 := XA.c2))
  replace X := X.below (Below.refl _ _).drew
  replace XA := XA.below (Below.refl _ _).drew
  replace hb := hb.drew
  go_region_held3 (fun w' => w'.cell? ⟨w.heap.size, 0, none⟩ = some (Value.bool s) ∧ w'.cell? ⟨w.heap.size, 1, none⟩ = some (Value.slice A n c) ∧ w'.cell? ⟨w.heap.size, 2, none⟩ = some (Value.slice A' n' c'))
    (first | with_reducible exact ⟨XA.c0, XA.c1, XA.c2⟩)
    (first
    | (go_at_call 42; (with_reducible refine (rof_q 1 1 (by decide) (by decide) (by decide) (by decide) (by decide) _).mono ?_); rintro e w_o ⟨s_o, A_o, n_o, c_o, B_o, m_o, d_o, rfl, o, hh⟩
       rw [one1] at o
       try replace X := X.below hh
       try replace f := f.below hh
       try replace XA := XA.below hh
       replace hb := bend hb hh)
    | (go_at_call 28; (with_reducible refine (rcmp_q X o.qr (by omega) (by decide) (.inr (by decide)) hk1 (by decide)).mono ?_); rintro e w_z ⟨rfl, hh⟩
       rw [HC.out]
       try replace X := X.below hh
       try replace o := o.below hh
       try replace f := f.below hh
       try replace XA := XA.below hh
       replace hb := bend hb hh))
  go_wp2_with fail
  go_ret
  exact ⟨rfl, hb⟩
set_option maxRecDepth 100000 in
set_option maxHeartbeats 4000000 in
theorem byte_mid {w : World} {s : Bool} {A A' : Option Addr} {n c n' c' k : Nat} {v : Rat} (X : QR w s A n c A' n' c' v k) (hk : k ≤ 300) (hk1 : 1 ≤ k) (hv : 0 < v) (h1 : ¬ 1 ≤ v) :
    Calls Tryz.prog 64 #[.agg #[.bool s, .slice A n c, .slice A' n' c']] w fun e w' => e = .returned (.int .u8 (toQ v 255)) ∧ Below w.heap.size w w' := by
  have hm := to_mid (Rat.le_of_lt hv) (Rat.le_of_lt (Rat.not_le.1 h1))
  obtain ⟨x, hx, hx0, hx1⟩ : ∃ x, toQ v 255 = x ∧ 0 ≤ x ∧ x ≤ 255 := ⟨_, rfl, hm.1, hm.2⟩
  have hfx : fitsB x = true := by unfold fitsB; simp; omega
  have HF := Lib.hid hfx
  have HX := Lib.hid hx
  rw [hx]
  clear hm hfx hx
  obtain ⟨g, hg, hg0⟩ : ∃ g, sgnQ v = g ∧ ¬ g ≤ 0 := ⟨_, rfl, fun h => absurd (sgn_le.1 h) (Rat.not_le.2 hv)⟩
  have HG := Lib.hid hg
  clear hg hv
  obtain ⟨g2, hg2, hg20⟩ : ∃ g, cmpQ v 1 = g ∧ ¬ 0 ≤ g := ⟨_, rfl, fun h => h1 (cmp_ge.1 h)⟩
  have HC := Lib.hid hg2
  clear hg2 h1
  go_enter Tryz.func64, Tryz.ntmps64
  go_wp2_with fail
  generalize hW : (w.alloc (Obj.cells #[Value.bool s, Value.slice A n c, Value.slice A' n' c'] 26)) = W
  have hb : Below w.heap.size w W := by subst hW; exact ((Below.refl _ _).alloc (Nat.le_refl _) _)
  have XA : B3 W (w.heap.size) (Value.bool s) (Value.slice A n c) (Value.slice A' n' c') := by subst hW; exact B3.new' _ _ _ _ _ rfl
  have hzW : W.heap.size = w.heap.size + 1 := by subst hW; simp
  clear hW
  replace X := X.below hb
  have xa0 := XA.c0
  have xa1 := XA.c1
  have xa2 := XA.c2
  go_upto_region 3 with (first
      | (go_at_call 30; (with_reducible refine (rsign_q X (by omega) hk1).mono ?_); rintro e w_z ⟨rfl, hh⟩
         rw [HG.out]
         try replace X := X.below hh
         try replace o := o.below hh
         try replace f := f.below hh
         try replace XA := XA.below hh
         replace hb := bend hb hh
         have xa0 := XA.c0
         have xa1 := XA.c1
         have xa2 := XA.c2))
  replace X := X.below (Below.refl _ _).drew
  replace XA := XA.below (Below.refl _ _).drew
  replace hb := hb.drew
  go_region_held3 (fun w' => w'.cell? ⟨w.heap.size, 0, none⟩ = some (Value.bool s) ∧ w'.cell? ⟨w.heap.size, 1, none⟩ = some (Value.slice A n c) ∧ w'.cell? ⟨w.heap.size, 2, none⟩ = some (Value.slice A' n' c'))
    (first | with_reducible exact ⟨XA.c0, XA.c1, XA.c2⟩)
    (first
    | (go_at_call 42; (with_reducible refine (rof_q 1 1 (by decide) (by decide) (by decide) (by decide) (by decide) _).mono ?_); rintro e w_o ⟨s_o, A_o, n_o, c_o, B_o, m_o, d_o, rfl, o, hh⟩
       rw [one1] at o
       try replace X := X.below hh
       try replace f := f.below hh
       try replace XA := XA.below hh
       replace hb := bend hb hh)
    | (go_at_call 28; (with_reducible refine (rcmp_q X o.qr (by omega) (by decide) (.inr (by decide)) hk1 (by decide)).mono ?_); rintro e w_z ⟨rfl, hh⟩
       rw [HC.out]
       try replace X := X.below hh
       try replace o := o.below hh
       try replace f := f.below hh
       try replace XA := XA.below hh
       replace hb := bend hb hh))
  have xa0 := XA.c0
  have xa1 := XA.c1
  have xa2 := XA.c2
  go_wp2_with (first
      | (go_at_call 61; (with_reducible refine (to_q 255 X hk hk1 (by decide) (by decide)).mono ?_); rintro e w_f ⟨s_f, A_f, n_f, c_f, rfl, f, hh⟩
         rw [HX.out] at f
         try replace X := X.below hh
         try replace o := o.below hh
         try replace XA := XA.below hh
         replace hb := bend hb hh)
      | (go_at_call 153; (with_reducible refine (small_zr f.zr (by omega) HF.out).mono ?_); rintro e w_z ⟨rfl, hh⟩
         try replace X := X.below hh
         try replace o := o.below hh
         try replace f := f.below hh
         try replace XA := XA.below hh
         replace hb := bend hb hh))
  go_ret
  exact ⟨rfl, hb⟩
theorem byte_q {w : World} {s : Bool} {A A' : Option Addr} {n c n' c' k : Nat} {v : Rat} (X : QR w s A n c A' n' c' v k) (hk : k ≤ 300) (hk1 : 1 ≤ k) :
    Calls Tryz.prog 64 #[.agg #[.bool s, .slice A n c, .slice A' n' c']] w fun e w' => e = .returned (.int .u8 (byteQ v)) ∧ Below w.heap.size w w' := by
  by_cases h0 : v ≤ 0
  · rw [show byteQ v = 0 from if_pos h0]; exact byte_lo X hk hk1 h0
  · by_cases h1 : 1 ≤ v
    · rw [show byteQ v = 255 by unfold byteQ; rw [if_neg h0, if_pos h1]]; exact byte_hi X hk hk1 (Rat.not_le.1 h0) h1
    · rw [show byteQ v = toQ v 255 by unfold byteQ; rw [if_neg h0, if_neg h1]]; exact byte_mid X hk hk1 (Rat.not_le.1 h0) h1
end Go.Proofs.YtlkjkhpjhllapaaGreat
namespace Go.Proofs.YtlkjkhpjhllapaaGreat
open Go Go.RowKit
abbrev oneEs (u v : Int) : Array MapEntry := #[{ key := .int .i64 u, val := .int .i64 v, born := 0 }]
theorem setObj_it (W : World) (it : Nat) (o : Obj) {a : Option Nat} {b c : Nat} {z : Array Nat} (h : W.heap[it]? = some (.mapIter a b z c)) : (setObj it o).run Tryz.prog W = .ok () { W with heap := W.heap.setIfInBounds it o } := by
  simp only [setObj, Sem.run, h]
theorem next_one1 (W : World) (it r : Nat) (ty : TypeId) (u v : Int) (h1 : W.heap[it]? = some (.mapIter (some r) 1 #[] 1)) (h2 : W.heap[r]? = some (.map (oneEs u v) 1)) :
    (Instr.next (.pointer (some ⟨it, 0, none⟩)) false ty).run Tryz.prog W = .ok (.tuple #[.bool true, .int .i64 u, .int .i64 v]) { W with heap := W.heap.setIfInBounds it (.mapIter (some r) 1 #[0] 1) } := by
  have hset := setObj_it W it (.mapIter (some r) 1 #[0] 1) h1
  simp [Instr.next, getObj, Sem.run, h1, h2, Result.andThen, choose, Question.forced, hset]
theorem next_one2 (W : World) (it r : Nat) (ty : TypeId) (u v : Int) (h1 : W.heap[it]? = some (.mapIter (some r) 1 #[0] 1)) (h2 : W.heap[r]? = some (.map (oneEs u v) 1)) :
    (Instr.next (.pointer (some ⟨it, 0, none⟩)) false ty).run Tryz.prog W = .ok (.tuple #[.bool false]) W := by
  simp [Instr.next, getObj, Sem.run, h1, h2, Result.andThen, choose, Question.forced]
theorem entry_one (W : World) (it r : Nat) (u v : Int) (h1 : W.heap[it]? = some (.mapIter (some r) 1 #[0] 1)) (h2 : W.heap[r]? = some (.map (oneEs u v) 1)) :
    (Instr.entry (.pointer (some ⟨it, 0, none⟩))).run Tryz.prog W = .ok (.tuple #[.int .i64 u, .int .i64 v]) W := by
  simp [Instr.entry, getObj, Sem.run, h1, h2, Result.andThen]
set_option maxRecDepth 100000 in
set_option maxHeartbeats 4000000 in
theorem sum_one {w : World} {r : Nat} (u v : Int) (hm : w.heap[r]? = some (.map (oneEs u v) 1)) (hu1 : 1 ≤ u) (hu2 : u < 9223372036854775808) (hv1 : -9223372036854775808 ≤ v) (hv2 : v < 9223372036854775808) :
    Calls Tryz.prog 152 #[.map (some r)] w (GivesQ w (Rat.divInt v u) 3) := by
  have hu0 : ((u : Int) == 0) = false := by simp; omega
  have h1 : -9223372036854775808 ≤ u := by omega
  have H1 := Lib.hid h1
  have H2 := Lib.hid hu2
  have H3 := Lib.hid hv1
  have H4 := Lib.hid hv2
  have H0 := Lib.hid hu0
  have HM := Lib.hid hm
  have HS : Hid (Rat.divInt 0 1 + Rat.divInt v u = Rat.divInt v u) := by
    show _ = _
    rw [show Rat.divInt 0 1 = 0 by decide +kernel, Rat.zero_add]
  have hrlt : r < w.heap.size := by
    rcases Nat.lt_or_ge r w.heap.size with h | h
    · exact h
    · simp [Array.getElem?_eq_none h] at hm
  clear h1 hu2 hv1 hv2 hu0 hm
  go_enter Tryz.func152, Tryz.ntmps152
  go_upto_region 1 with (fail)
  generalize hW : (w.alloc (Obj.cells #[Value.bool false, Value.slice none 0 0, Value.slice none 0 0] 26)) = W
  have hb : Below w.heap.size w W := by subst hW; exact (Below.refl _ _).alloc (Nat.le_refl _) _
  have Z : B3 W (w.heap.size) (Value.bool false) (Value.slice none 0 0) (Value.slice none 0 0) := by subst hW; exact B3.new' _ _ _ _ _ rfl
  clear hW
  go_upto_region 2 with (first
      | (go_at_call 42; (with_reducible refine (rof_q 0 1 (by decide) (by decide) (by decide) (by decide) (by decide) _).mono ?_); rintro e w_o ⟨s_o, A_o, n_o, c_o, B_o, m_o, d_o, rfl, o, hh⟩
         replace Z := Z.below hh
         have HBS := Lib.hid Z.lt
         replace hb := bend hb hh))
  generalize hW : (w_o.alloc (Obj.cells #[Value.bool s_o, Value.slice A_o n_o c_o, Value.slice B_o m_o d_o] 26)) = W2
  have hh : Below w_o.heap.size w_o W2 := by subst hW; exact (Below.refl _ _).alloc (Nat.le_refl _) _
  have T : B3 W2 (w_o.heap.size) (Value.bool s_o) (Value.slice A_o n_o c_o) (Value.slice B_o m_o d_o) := by subst hW; exact B3.new' _ _ _ _ _ rfl
  clear hW
  replace o := o.below hh
  replace Z := Z.below hh
  replace hb := bend hb hh
  have hm2 : W2.heap[r]? = some (.map (oneEs u v) 1) := (hb.block r hrlt).trans HM.out
  have hrg := run_range_map (P := Tryz.prog) W2 174 2 2 r (oneEs u v) 1 (by kernel_rfl) hm2
  go_wp2_with fail
  refine wp_loop_rounds 2 ?_
  rw [rounds_succ]
  generalize hW : W2.alloc (Obj.mapIter (some r) 1 #[] 1) = W3
  obtain ⟨it, hit⟩ : ∃ it, it = W2.heap.size := ⟨_, rfl⟩
  have hi1 : W3.heap[it]? = some (.mapIter (some r) 1 #[] 1) := by subst hW hit; exact heap_alloc_new _ _
  have hh : Below W2.heap.size W2 W3 := by subst hW; exact (Below.refl _ _).alloc (Nat.le_refl _) _
  have hm3 : W3.heap[r]? = some (.map (oneEs u v) 1) := (hh.block r (Nat.lt_of_lt_of_le hrlt hb.size)).trans hm2
  have hitl : it < W3.heap.size := by subst hW hit; simp
  rw [← hit]
  have hn1 : ∀ ty, _ := fun ty => next_one1 W3 it r ty u v hi1 hm3
  have HI := Lib.hid hit
  have HW3 := Lib.hid hW
  clear hrg hit hW
  go_upto_region 4 with (fail)
  generalize hW4 : ({ heap := W3.heap.setIfInBounds it (Obj.mapIter (some r) 1 #[0] 1), tape := W3.tape, drawn := W3.drawn, os := W3.os, output := W3.output } : World) = W4
  have hit := HI.out
  have hi4 : W4.heap[it]? = some (.mapIter (some r) 1 #[0] 1) := by subst hW4; simp [hitl]
  have hh4 : Below W2.heap.size W2 W4 := by
    subst hW4
    exact ⟨hh.os, hh.tape, hh.output, by simpa using hh.size, fun k hk => by
      show (W3.heap.setIfInBounds it _)[k]? = _
      rw [Array.getElem?_setIfInBounds_ne (by omega)]; exact hh.block k hk⟩
  have hm4 : W4.heap[r]? = some (.map (oneEs u v) 1) := (hh4.block r (Nat.lt_of_lt_of_le hrlt hb.size)).trans hm2
  have hW := HW3.out
  have hT0 := T.lt
  have hTit : w_o.heap.size < it := by rw [hit]; exact hT0
  have hitw : w.heap.size ≤ w_o.heap.size := Nat.le_of_lt HBS.out
  have hi4l : it < W4.heap.size := by subst hW4; simpa using hitl
  have hw4 : W4.heap.size = it + 1 := by subst hW4; rw [hit, ← hW]; simp
  clear hn1 hW4 hi1 hW hm3 hitl hm2 hh hT0
  clear hit HW3
  replace o := o.below hh4
  replace Z := Z.below hh4
  replace T := T.below hh4
  replace hb := bend hb hh4
  clear hh4
  have hen := entry_one W4 it r u v hi4 hm4
  go_upto_region 6 with (fail)
  clear hen
  have Hi4 : Hid (W4.drew.heap[it]? = some (.mapIter (some r) 1 #[0] 1)) := hi4
  have Hm4 : Hid (W4.drew.heap[r]? = some (.map (oneEs u v) 1)) := hm4
  clear hi4 hm4
  have hw4d : W4.drew.heap.size = it + 1 := hw4
  replace o := o.below (Below.refl _ _).drew
  replace Z := Z.below (Below.refl _ _).drew
  replace T := T.below (Below.refl _ _).drew
  replace hb := hb.drew
  have t0 := T.c0
  have t1 := T.c1
  have t2 := T.c2
  have zf0 := T.f0
  have zf1 := T.f1
  have zf2 := T.f2
  have z0 := T.c0
  have z1 := T.c1
  have z2 := T.c2
  go_region_with (first
    | (go_at_call 42; (with_reducible refine (rof_q v u H3.out H4.out H1.out H2.out H0.out _).mono ?_); rintro e w_q ⟨s_q, A_q, n_q, c_q, B_q, m_q, d_q, rfl, q, hh⟩
       try replace o := o.below hh
       try replace t := t.below hh
       try replace T := T.below hh
       try replace Z := Z.below hh
       replace hb := bend hb hh
       have t0 := T.c0
       have t1 := T.c1
       have t2 := T.c2
       have hh1 := hh
       have zf0 := T.f0
       have zf1 := T.f1
       have zf2 := T.f2
       have t0 := T.c0
       have t1 := T.c1
       have t2 := T.c2)
    | (go_at_call 22; (with_reducible refine (radd_q o.qr q.qr (by decide) (by decide) (.inl (by decide)) (by decide) (by decide)).mono ?_); rintro e w_t ⟨s_t, A_t, n_t, c_t, B_t, m_t, d_t, rfl, t, hh⟩
       try replace o := o.below hh
       try replace q := q.below hh
       try replace T := T.below hh
       try replace Z := Z.below hh
       replace hb := bend hb hh
       have t0 := T.c0
       have t1 := T.c1
       have t2 := T.c2
       have zf0 := T.f0
       have zf1 := T.f1
       have zf2 := T.f2
       have z0 := T.c0
       have z1 := T.c1
       have z2 := T.c2))
  all_goals
    have hh5 := hh1.trans (hh.mono hh1.size)
    have hi5 : w_t.heap[it]? = some (.mapIter (some r) 1 #[0] 1) := (hh5.block it (by omega)).trans Hi4.out
    have hm5 : w_t.heap[r]? = some (.map (oneEs u v) 1) := (hh5.block r (by omega)).trans Hm4.out
    generalize hW5 : (((w_t.setCell ⟨w_o.heap.size, 0, none⟩ (Value.bool s_t)).setCell ⟨w_o.heap.size, 1, none⟩ (Value.slice A_t n_t c_t)).setCell ⟨w_o.heap.size, 2, none⟩ (Value.slice B_t m_t d_t)) = W5
    have hz3 : ∀ k, k ≠ w_o.heap.size → W5.heap[k]? = w_t.heap[k]? := by
      intro k hk
      subst hW5
      rw [Below.heap_setCell _ _ _ _ hk, Below.heap_setCell _ _ _ _ hk, Below.heap_setCell _ _ _ _ hk]
    have T5 : B3 W5 w_o.heap.size (Value.bool s_t) (Value.slice A_t n_t c_t) (Value.slice B_t m_t d_t) := by subst hW5; exact T.set3 _ _ _
    have t5 : QG W5 s_t A_t n_t c_t B_t m_t d_t (Rat.divInt v u) 3 := by
      subst hW5
      rw [HS.out] at t
      exact t.set3 T _ _ _
    have hb5 : Below w.heap.size w W5 := by subst hW5; exact below_set3 hb hitw _ _ _
    have hwlt : w.heap.size < w_o.heap.size := by have := HBS.out; omega
    have Z5 : B3 W5 w.heap.size (Value.bool false) (Value.slice none 0 0) (Value.slice none 0 0) := (hz3 _ (by omega)).trans Z
    have hi6 : W5.heap[it]? = _ := (hz3 it (by omega)).trans hi5
    have hm6 : W5.heap[r]? = _ := (hz3 r (by omega)).trans hm5
    clear hz3 hW5 hh5 hi5 hm5 hh hh1 o q T Z hb t
    have hn2 : ∀ ty, _ := fun ty => next_one2 W5 it r ty u v hi6 hm6
    clear hi6 hm6
    have zf0 := Z5.f0
    have zf1 := Z5.f1
    have zf2 := Z5.f2
    have z0 := Z5.c0
    have z1 := Z5.c1
    have z2 := Z5.c2
    have t0 := T5.c0
    have t1 := T5.c1
    have t2 := T5.c2
    go_wp2_with fail
    rw [rounds_succ]
    go_wp2_with fail
    have Z2 := Z5.set3 (.bool s_t) (.slice A_t n_t c_t) (.slice B_t m_t d_t)
    have g0 := Z2.c0
    have g1 := Z2.c1
    have g2 := Z2.c2
    refine bodyPost_ret (v := .agg #[.bool s_t, .slice A_t n_t c_t, .slice B_t m_t d_t]) (by simp [results, Tryz.results152, go_sem, g0, g1, g2]) rfl ?_
    exact ⟨s_t, A_t, n_t, c_t, B_t, m_t, d_t, rfl, t5.set3 Z5 _ _ _, below_set3 hb5 (Nat.le_refl _) _ _ _⟩
theorem und_parts : Tryz.prog.underlying 174 = some (.map 2 2) := by kernel_rfl
theorem und_i64 : Tryz.prog.underlying 2 = some (.int .i64) := by kernel_rfl
theorem run_updF {w : World} {r : Nat} (u v : Int) (hb : w.heap[r]? = some (.map #[] 0)) :
    (Instr.mapUpdate 174 (.map (some r)) (.int .i64 u) (.int .i64 v)).run Tryz.prog w = .ok () (setMap w r (oneEs u v) 1) := by
  have hk : Go.MapKept.IsKey (.int .i64) (.int .i64 u) := rfl
  have h1 : Instr.findNow (.int .i64) (.int .i64 u) (#[] : Array MapEntry).toList 0 = some none := rfl
  simp [Instr.mapUpdate, run_underlying und_parts, Go.MapKept.run_getObj_map hb, Go.MapKept.run_checkKey und_i64 hk, Go.MapKept.run_findKey und_i64 h1, Go.MapKept.run_setObj_map _ hb, Result.andThen, setMap]
theorem small1 {v u : Int} (hu1 : 1 ≤ u) (hu2 : u < 9223372036854775808) (hv1 : -9223372036854775808 ≤ v) (hv2 : v < 9223372036854775808) : (Rat.divInt v u).num.natAbs < B64 ^ 1 ∧ (Rat.divInt v u).den < B64 ^ 1 := by
  have h0 : u ≠ 0 := by omega
  rw [div_num h0, div_den h0, Nat.pow_one]
  have h1 := Nat.div_le_self v.natAbs (Nat.gcd v.natAbs u.natAbs)
  have h2 := Nat.div_le_self u.natAbs (Nat.gcd v.natAbs u.natAbs)
  have : B64 = 18446744073709551616 := rfl
  omega
set_option maxRecDepth 100000 in
set_option maxHeartbeats 4000000 in
theorem from_q (v u : Int) (hu1 : 1 ≤ u) (hu2 : u < 9223372036854775808) (hv1 : -9223372036854775808 ≤ v) (hv2 : v < 9223372036854775808) (w : World) :
    Calls Tryz.prog 58 #[.int .i64 v, .int .i64 u] w (GivesQ w (Rat.divInt v u) 1) := by
  have hs := small1 hu1 hu2 hv1 hv2
  have HS := Lib.hid hs
  have H1 := Lib.hid hu1
  have H2 := Lib.hid hu2
  have H3 := Lib.hid hv1
  have H4 := Lib.hid hv2
  clear hs hu1 hu2 hv1 hv2
  have hmm := @run_makeMap Tryz.prog
  go_enter Tryz.func58, Tryz.ntmps58
  go_upto_region 1 with (fail)
  generalize hW : (w.alloc (Obj.cells #[Value.bool false, Value.slice none 0 0, Value.slice none 0 0] 26)) = W
  have hb : Below w.heap.size w W := by subst hW; exact (Below.refl _ _).alloc (Nat.le_refl _) _
  have Z : B3 W (w.heap.size) (Value.bool false) (Value.slice none 0 0) (Value.slice none 0 0) := by subst hW; exact B3.new' _ _ _ _ _ rfl
  clear hW
  have h0 : (W.alloc (.map #[] 0)).heap[W.heap.size]? = some (.map #[] 0) := heap_alloc_new W _
  have hi0 := run_updF u v h0
  have h2 : Below W.heap.size W (setMap (W.alloc (.map #[] 0)) W.heap.size (oneEs u v) 1) := below_setMap ((Below.refl _ _).alloc (Nat.le_refl _) _) (Nat.le_refl _) _ _
  have hm : (setMap (W.alloc (.map #[] 0)) W.heap.size (oneEs u v) 1).heap[W.heap.size]? = some (.map (oneEs u v) 1) := setMap_at (by simp)
  have HM := Lib.hid hm
  clear h0 hm
  go_wp2_with (first
      | (go_at_call 152; (with_reducible refine (sum_one u v HM.out H1.out H2.out H3.out H4.out).mono ?_); rintro e w_t ⟨s_t, A_t, n_t, c_t, B_t, m_t, d_t, rfl, t, hh⟩
         replace Z := Z.below h2
         replace hb := bend hb h2
         try replace Z := Z.below hh
         replace hb := bend hb hh
         have zf0 := Z.f0
         have zf1 := Z.f1
         have zf2 := Z.f2
         have z0 := Z.c0
         have z1 := Z.c1
         have z2 := Z.c2))
  replace t := t.tight HS.out.1 HS.out.2
  have Z2 := Z.set3 (.bool s_t) (.slice A_t n_t c_t) (.slice B_t m_t d_t)
  have g0 := Z2.c0
  have g1 := Z2.c1
  have g2 := Z2.c2
  refine bodyPost_ret (v := .agg #[.bool s_t, .slice A_t n_t c_t, .slice B_t m_t d_t]) (by simp [results, Tryz.results58, go_sem, g0, g1, g2]) rfl ?_
  exact ⟨s_t, A_t, n_t, c_t, B_t, m_t, d_t, rfl, t.set3 Z _ _ _, below_set3 hb (by omega) _ _ _⟩
end Go.Proofs.YtlkjkhpjhllapaaGreat
namespace Go.Proofs.YtlkjkhpjhllapaaGreat
theorem txt_one {V d : Nat} (h : 0 < d) (h2 : d < 10) (hV : V = d) : txt V = [UInt8.ofNat (48 + d)] := by
  subst hV
  rw [txt, if_neg (by omega), limbs_small (by omega) h2 (by omega)]
  rfl
theorem txt_two {V a b : Nat} (ha : 0 < a) (ha2 : a < 10) (hb : b < 10) (hV : V = 10 * a + b) : txt V = [UInt8.ofNat (48 + a), UInt8.ofNat (48 + b)] := by
  rw [txt_lit (l := [b, a]) ?_ (by omega)]
  · rfl
  · rw [limbs_pos (by decide) (by omega), show V % 10 = b by omega, show V / 10 = a by omega, limbs_small (by omega) ha2 (by omega)]
theorem qtxt_f {v : Rat} {a b : Nat} {l m : List UInt8} (hn : v.num = (a : Int)) (hd : v.den = b) (hb : b ≠ 1) (ha : txt a = l) (hm : txt b = m) : qtxt v = l ++ (47 :: m) := by
  unfold qtxt
  rw [if_neg (by omega), hn, hd]
  unfold ztxt
  rw [if_neg (by omega), show ((a : Int)).natAbs = a by omega, ha, hm]
end Go.Proofs.YtlkjkhpjhllapaaGreat
namespace Go.Proofs.YtlkjkhpjhllapaaGreat
open Go Go.RowKit
theorem qt32 : (⟨(qtxt (Rat.divInt 96 64)).toArray⟩ : ByteArray) = ⟨#[51, 47, 50]⟩ := by
  rw [qtxt_f (a := 3) (b := 2) (by decide +kernel) (by decide +kernel) (by decide) (txt_one (d := 3) (by decide) (by decide) rfl) (txt_one (d := 2) (by decide) (by decide) rfl)]; rfl
theorem zt96 : (⟨(ztxt (toQ (Rat.divInt 3 2) 64)).toArray⟩ : ByteArray) = ⟨#[57, 54]⟩ := by
  rw [show toQ (Rat.divInt 3 2) 64 = 96 by decide +kernel]
  unfold ztxt
  rw [if_neg (by omega), show ((96 : Int)).natAbs = 96 from rfl, txt_two (a := 9) (b := 6) (by decide) (by decide) (by decide) rfl]; rfl
theorem byteQ_range (v : Rat) : 0 ≤ byteQ v ∧ byteQ v ≤ 255 := by
  unfold byteQ
  split
  · decide
  · rename_i h
    split
    · decide
    · rename_i h1
      exact to_mid (Rat.le_of_lt (Rat.not_le.1 h)) (Rat.le_of_lt (Rat.not_le.1 h1))
set_option maxRecDepth 100000 in
set_option maxHeartbeats 4000000 in
theorem fwakes_any (w : World) : Calls Tryz.prog 57 #[] w fun e w' => e = .returned (.bool true) ∧ Below w.heap.size w w' := by
  have hb : Below w.heap.size w w := Below.refl _ _
  go_enter Tryz.func57, Tryz.ntmps57
  go_wp2_with (first
      | (go_at_call 58; (with_reducible refine (from_q 96 64 (by decide) (by decide) (by decide) (by decide) _).mono ?_); rintro e w_f ⟨s_f, A_f, n_f, c_f, B_f, m_f, d_f, rfl, f, hh⟩
         try replace o := o.below hh
         try replace t := t.below hh
         try replace p := p.below hh
         try replace q := q.below hh
         try replace r := r.below hh
         replace hb := bend hb hh)
      | (go_at_call 40; (with_reducible refine (rtext_q f.qr (by decide) (by decide)).mono ?_); rintro e w_z ⟨rfl, hh⟩
         rw [qt32]
         try replace f := f.below hh
         try replace o := o.below hh
         try replace t := t.below hh
         try replace p := p.below hh
         try replace q := q.below hh
         try replace r := r.below hh
         replace hb := bend hb hh)
      | (go_at_call 42; (with_reducible refine (rof_q 3 2 (by decide) (by decide) (by decide) (by decide) (by decide) _).mono ?_); rintro e w_o ⟨s_o, A_o, n_o, c_o, B_o, m_o, d_o, rfl, o, hh⟩
         try replace f := f.below hh
         try replace t := t.below hh
         try replace p := p.below hh
         try replace q := q.below hh
         try replace r := r.below hh
         replace hb := bend hb hh)
      | (go_at_call 61; (with_reducible refine (to_q 64 o.qr (by decide) (by decide) (by decide) (by decide)).mono ?_); rintro e w_t ⟨s_t, A_t, n_t, c_t, rfl, t, hh⟩
         try replace f := f.below hh
         try replace o := o.below hh
         try replace p := p.below hh
         try replace q := q.below hh
         try replace r := r.below hh
         replace hb := bend hb hh)
      | (go_at_call 95; (with_reducible refine (ztext_zr t.zr (by decide)).mono ?_); rintro e w_z ⟨rfl, hh⟩
         rw [zt96]
         try replace f := f.below hh
         try replace o := o.below hh
         try replace t := t.below hh
         try replace p := p.below hh
         try replace q := q.below hh
         try replace r := r.below hh
         replace hb := bend hb hh)
      | (go_at_call 42; (with_reducible refine (rof_q 1 2 (by decide) (by decide) (by decide) (by decide) (by decide) _).mono ?_); rintro e w_p ⟨s_p, A_p, n_p, c_p, B_p, m_p, d_p, rfl, p, hh⟩
         try replace f := f.below hh
         try replace o := o.below hh
         try replace t := t.below hh
         try replace q := q.below hh
         try replace r := r.below hh
         replace hb := bend hb hh)
      | (go_at_call 64; (with_reducible refine (byte_q p.qr (by decide) (by decide)).mono ?_); rintro e w_z ⟨rfl, hh⟩
         rw [show byteQ (Rat.divInt 1 2) = 128 by decide +kernel]
         try replace f := f.below hh
         try replace o := o.below hh
         try replace t := t.below hh
         try replace p := p.below hh
         try replace q := q.below hh
         try replace r := r.below hh
         replace hb := bend hb hh)
      | (go_at_call 42; (with_reducible refine (rof_q (-1) 2 (by decide) (by decide) (by decide) (by decide) (by decide) _).mono ?_); rintro e w_q ⟨s_q, A_q, n_q, c_q, B_q, m_q, d_q, rfl, q, hh⟩
         try replace f := f.below hh
         try replace o := o.below hh
         try replace t := t.below hh
         try replace p := p.below hh
         try replace r := r.below hh
         replace hb := bend hb hh)
      | (go_at_call 64; (with_reducible refine (byte_q q.qr (by decide) (by decide)).mono ?_); rintro e w_z ⟨rfl, hh⟩
         rw [show byteQ (Rat.divInt (-1) 2) = 0 by decide +kernel]
         try replace f := f.below hh
         try replace o := o.below hh
         try replace t := t.below hh
         try replace p := p.below hh
         try replace q := q.below hh
         try replace r := r.below hh
         replace hb := bend hb hh)
      | (go_at_call 42; (with_reducible refine (rof_q 7 2 (by decide) (by decide) (by decide) (by decide) (by decide) _).mono ?_); rintro e w_r ⟨s_r, A_r, n_r, c_r, B_r, m_r, d_r, rfl, r, hh⟩
         try replace f := f.below hh
         try replace o := o.below hh
         try replace t := t.below hh
         try replace p := p.below hh
         try replace q := q.below hh
         replace hb := bend hb hh)
      | (go_at_call 64; (with_reducible refine (byte_q r.qr (by decide) (by decide)).mono ?_); rintro e w_z ⟨rfl, hh⟩
         rw [show byteQ (Rat.divInt 7 2) = 255 by decide +kernel]
         try replace f := f.below hh
         try replace o := o.below hh
         try replace t := t.below hh
         try replace p := p.below hh
         try replace q := q.below hh
         try replace r := r.below hh
         replace hb := bend hb hh))
  go_ret
  exact ⟨rfl, hb⟩
end Go.Proofs.YtlkjkhpjhllapaaGreat
namespace Go.Proofs.YtlkjkhpjhllapaaGreat
open Go
def upd {α : Type} (f : Nat → α) (d : Nat) (x : α) : Nat → α := fun k => if k = d then x else f k
theorem upd_same {α : Type} (f : Nat → α) (d : Nat) (x : α) : upd f d x d = x := by simp [upd]
theorem upd_ne {α : Type} (f : Nat → α) {d k : Nat} (x : α) (h : k ≠ d) : upd f d x k = f k := by simp [upd, h]
def putAll (a : Act) : List Nat → (Nat → Value) → Act
  | [], _ => a
  | d :: l, v => putAll (a.put (some d) (v d)) l v
theorem put_put (a : Act) (d : Nat) (x y : Value) : (a.put (some d) x).put (some d) y = a.put (some d) y := by
  simp [Act.put]
theorem putAll_comm (x : Value) (d : Nat) (v : Nat → Value) : ∀ (l : List Nat) (a : Act), d ∉ l → (putAll a l v).put (some d) x = putAll (a.put (some d) x) l v
  | [], _, _ => rfl
  | e :: l, a, h => by
    have h1 : e ≠ d := fun k => h (by simp [k])
    have h2 : d ∉ l := fun k => h (by simp [k])
    rw [putAll, putAll_comm x d v l _ h2, putAll]
    congr 1
    simp [Act.put, Array.setIfInBounds_comm _ _ h1]
theorem putAll_congr {v u : Nat → Value} : ∀ (l : List Nat) (a : Act), (∀ d ∈ l, v d = u d) → putAll a l v = putAll a l u
  | [], _, _ => rfl
  | e :: l, a, h => by
    rw [putAll, putAll, h e (by simp)]
    exact putAll_congr l _ fun d hd => h d (by simp [hd])
theorem putAll_put (x : Value) (d : Nat) (v : Nat → Value) : ∀ (l : List Nat) (a : Act), l.Nodup → d ∈ l → (putAll a l v).put (some d) x = putAll a l (upd v d x)
  | [], _, _, h => by cases h
  | e :: l, a, hn, h => by
    have hn' := List.nodup_cons.1 hn
    by_cases hd : e = d
    · subst hd
      rw [putAll, putAll_comm x e v l _ hn'.1, put_put, putAll, upd_same]
      exact putAll_congr l _ fun k hk => (upd_ne v x (fun q => by subst q; exact hn'.1 hk)).symm
    · have hm : d ∈ l := by
        cases h with
        | head => exact absurd rfl hd
        | tail _ h => exact h
      rw [putAll, putAll_put x d v l _ hn'.2 hm, putAll, upd_ne v x hd]
theorem put_self (a : Act) (d : Nat) : a.put (some d) (a.tmps.getD d undef) = a := by
  cases a with
  | mk tmps defers =>
    simp only [Act.put]
    congr 1
    apply Array.ext
    · simp
    · intro i h1 h2
      simp only [Array.getElem_setIfInBounds h2]
      split
      · rename_i h; subst h; simp [h2]
      · rfl
theorem putAll_self (a : Act) : ∀ (l : List Nat), putAll a l (fun d => a.tmps.getD d undef) = a
  | [] => rfl
  | d :: l => by rw [putAll, put_self]; exact putAll_self a l
section
variable {P : Program} {ops : Array Oper} {Q : Exit → Act → World → Prop}
def backB (ops : Array Oper) : Bool := (List.range ops.size).all fun i => ((ops[i]?).map fun o => o.after.all fun e => !Region.binds .any e || decide (e.on < i)).getD true
theorem all_listed {listed : Array Bool} (hs : listed.size = ops.size) (hb : backB ops = true) (hr : Region.ready .any ops listed = []) : ∀ i, i < ops.size → listed.getD i false = true := by
  intro i
  induction i using Nat.strongRecOn with
  | ind i ih =>
    intro hi
    cases hl : listed.getD i false with
    | true => rfl
    | false =>
      exfalso
      have hm : i ∈ Region.ready .any ops listed := by
        unfold Region.ready
        rw [List.mem_filter]
        refine ⟨by simpa using hi, ?_⟩
        have h1 : listed.getD i true = false := by
          simp only [Array.getD_eq_getD_getElem?, Array.getElem?_eq_getElem (show i < listed.size by omega), Option.getD_some] at hl ⊢; exact hl
        rw [h1, Array.getElem?_eq_getElem hi]
        simp only [Bool.not_false, Option.map_some, Option.getD_some, Bool.true_and]
        rw [Array.all_eq_true]
        intro j hj
        have h2 := List.all_eq_true.1 hb i (by simpa using hi)
        rw [Array.getElem?_eq_getElem hi] at h2
        simp only [Option.map_some, Option.getD_some] at h2
        have h3 := Array.all_eq_true.1 h2 j hj
        cases hbd : Region.binds .any (ops[i].after[j]) with
        | false => simp
        | true =>
          rw [hbd] at h3
          have h4 : (ops[i].after[j]).on < i := of_decide_eq_true (by simpa using h3)
          rw [ih _ h4 (by omega)]
          simp
      rw [hr] at hm; cases hm
theorem wpAny_inv (J : (Nat → Bool) → Act → World → Prop) (hb : backB ops = true)
    (hstep : ∀ (i : Nat) (o : Oper) (D : Nat → Bool) (a : Act) (w : World), ops[i]? = some o → D i = false → (∀ e ∈ o.after, Region.binds .any e = true → D e.on = true) → J D a w →
      wpOp P ops Q i (fun a' w' => J (upd D i true) a' w') a w)
    (hend : ∀ (D : Nat → Bool) (a : Act) (w : World), (∀ i, i < ops.size → D i = true) → J D a w → Q .normal a w)
    (hcong : ∀ D D' a w, (∀ i, i < ops.size → D i = D' i) → J D a w → J D' a w) :
    ∀ (fuel : Nat) (listed : Array Bool) (a : Act) (w : World), listed.size = ops.size → listed.toList.count false ≤ fuel → J (fun i => listed.getD i false) a w → wpAny P .any ops Q fuel listed a w
  | 0, listed, a, w, hs, hf, hJ => by
    have hall : ∀ i, i < ops.size → listed.getD i false = true := by
      intro i hi
      have h0 : listed.toList.count false = 0 := by omega
      have hi' : i < listed.size := by omega
      have := List.count_eq_zero.1 h0
      simp only [Array.getD_eq_getD_getElem?, Array.getElem?_eq_getElem hi', Option.getD_some]
      cases h : listed[i] with
      | true => rfl
      | false => exact absurd (by rw [← h]; exact Array.mem_toList_iff.2 (Array.getElem_mem hi')) this
    refine ⟨?_, hend _ _ _ hall hJ⟩
    unfold Region.ready
    rw [List.filter_eq_nil_iff]
    intro i hi
    have hi2 : i < ops.size := by simpa using hi
    have h2 : listed.getD i true = true := by
      have h := hall i hi2
      have hi' : i < listed.size := by omega
      simp only [Array.getD_eq_getD_getElem?, Array.getElem?_eq_getElem hi', Option.getD_some] at h ⊢; exact h
    simp [h2]
  | fuel + 1, listed, a, w, hs, hf, hJ => by
    refine ⟨fun hr => hend _ _ _ (all_listed hs hb hr) hJ, fun i hi => ?_⟩
    obtain ⟨hjun, o, ho, hall⟩ := mem_ready.1 hi
    have hi1 : i < ops.size := by
      rcases Nat.lt_or_ge i ops.size with h | h
      · exact h
      · rw [Array.getElem?_eq_none h] at ho; cases ho
    have hi' : i < listed.size := by omega
    have hl : listed[i] = false := by
      simp only [Array.getD_eq_getD_getElem?, Array.getElem?_eq_getElem hi', Option.getD_some] at hjun; exact hjun
    have hD : listed.getD i false = false := by
      simp only [Array.getD_eq_getD_getElem?, Array.getElem?_eq_getElem hi', Option.getD_some]; exact hl
    refine wpOp_mono (fun a' w' h => wpAny_inv J hb hstep hend hcong fuel _ a' w' (by simpa using hs) ?_ (hcong _ _ _ _ (fun j hj => ?_) h)) (hstep i o _ a w ho hD hall hJ)
    · rw [Array.toList_setIfInBounds, List.count_set (by simpa using hi')]
      have : listed.toList[i]'(by simpa using hi') = false := by simpa using hl
      rw [this]
      show listed.toList.count false - 1 + 0 ≤ fuel
      omega
    · by_cases hji : j = i
      · subst hji
        rw [upd_same]
        simp [hi']
      · rw [upd_ne _ _ hji]
        simp [Array.getD_eq_getD_getElem?, Ne.symm hji]
theorem wp_region_inv {id : Nat} {a : Act} {w : World} (l : List Nat) (J : (Nat → Bool) → (Nat → Value) → World → Prop) (hm : P.follows .mixedOrders = true) (hb : backB ops = true)
    (h0 : J (fun _ => false) (fun d => a.tmps.getD d undef) w.drew)
    (hcong : ∀ D D' v w, (∀ i, i < ops.size → D i = D' i) → J D v w → J D' v w)
    (hstep : ∀ (i : Nat) (o : Oper) (D : Nat → Bool) (v : Nat → Value) (w : World), ops[i]? = some o → D i = false → (∀ e ∈ o.after, Region.binds .any e = true → D e.on = true) → J D v w →
      wpOp P ops Q i (fun a' w' => ∃ v', a' = putAll a l v' ∧ J (upd D i true) v' w') (putAll a l v) w)
    (hend : ∀ (D : Nat → Bool) (v : Nat → Value) (w : World), (∀ i, i < ops.size → D i = true) → J D v w → Q .normal (putAll a l v) w) :
    (Code.region id ops true).wp P Q a w := by
  refine wp_region_any hm (wpAny_inv (fun D a' w' => ∃ v, a' = putAll a l v ∧ J D v w') hb ?_ ?_ ?_ _ _ _ _ (by simp) (by simp) ?_)
  · rintro i o D a' w' ho hD hall ⟨v, rfl, hJ⟩
    exact hstep i o D v w' ho hD hall hJ
  · rintro D a' w' hall ⟨v, rfl, hJ⟩
    exact hend D v w' hall hJ
  · rintro D D' a' w' h ⟨v, e, hJ⟩
    exact ⟨v, e, hcong D D' v w' h hJ⟩
  · refine ⟨_, (putAll_self a l).symm, hcong _ _ _ _ (fun i hi => ?_) h0⟩
    simp [hi]
end
end Go.Proofs.YtlkjkhpjhllapaaGreat
namespace Go.Proofs.YtlkjkhpjhllapaaGreat
open Go Go.RowKit
theorem run_storeR {e : Operand → Value} {x z : Operand} {d : Option Tmp} {y g : Nat} {pos : String} {af : Array Edge} {w : World} {s : Bool} {A : Option Addr} {n c : Nat} {u0 v0 : Value} (h : e x = .pointer (some ⟨g, 0, none⟩)) (hz : e z = .agg #[.bool s, .slice A n c]) (h0 : w.cell? ⟨g, 0, none⟩ = some u0) (h1 : w.cell? ⟨g, 1, none⟩ = some v0) (f0 : w.frozen? ⟨g, 0, none⟩ = false) (f1 : w.frozen? ⟨g, 1, none⟩ = false) :
    (execOp e { dst := d, op := Op.store 32 x z, type := y, pos := pos, after := af, guard := none }).run Tryz.prog w = .ok .skip ((w.setCell ⟨g, 0, none⟩ (.bool s)).setCell ⟨g, 1, none⟩ (.slice A n c)) := by
  go_simp
theorem run_allocR {e : Operand → Value} {d : Option Tmp} {y : Nat} {pos : String} {af : Array Edge} {w : World} :
    (execOp e { dst := d, op := Op.alloc 32, type := y, pos := pos, after := af, guard := none }).run Tryz.prog w = .ok (.value (.pointer (some ⟨w.heap.size, 0, none⟩))) (w.alloc (.cells #[.bool false, .slice none 0 0] 32)) := by
  go_simp
end Go.Proofs.YtlkjkhpjhllapaaGreat
namespace Go.Proofs.YtlkjkhpjhllapaaGreat
open Go Go.RowKit
theorem put_none (a : Act) (x : Value) : a.put none x = a := rfl
theorem eval_putAll_not {t : Nat} {v : Nat → Value} : ∀ (l : List Nat) (a : Act), t ∉ l → (putAll a l v).eval (.tmp t) = a.eval (.tmp t)
  | [], _, _ => rfl
  | d :: l, a, h => by
    rw [putAll, eval_putAll_not l _ (fun q => h (by simp [q]))]
    have hne : d ≠ t := fun q => h (by simp [q])
    simp [Act.eval, Act.put, Array.getD_eq_getD_getElem?, hne]
theorem eval_putAll_mem {t : Nat} {v : Nat → Value} : ∀ (l : List Nat) (a : Act), l.Nodup → t ∈ l → t < a.tmps.size → (putAll a l v).eval (.tmp t) = v t
  | [], _, _, h, _ => by cases h
  | d :: l, a, hn, h, hs => by
    have hn' := List.nodup_cons.1 hn
    rw [putAll]
    by_cases hd : d = t
    · subst hd
      rw [eval_putAll_not l _ hn'.1]
      simp [Act.eval, Act.put, hs]
    · have hm : t ∈ l := by
        cases h with
        | head => exact absurd rfl hd
        | tail _ h => exact h
      exact eval_putAll_mem l _ hn'.2 hm (by simpa [Act.put] using hs)
def IsG (w : World) (v : Value) (x : Int) (k : Nat) : Prop := ∃ s A n c, v = .agg #[.bool s, .slice A n c] ∧ RG w s A n c x k
def IsBox (w : World) (base : Nat) (p cont : Value) (full : Bool) : Prop := ∃ g s A n c, p = .pointer (some ⟨g, 0, none⟩) ∧ base ≤ g ∧ By w g (.bool s) (.slice A n c) ∧ (full = true → cont = .agg #[.bool s, .slice A n c])
theorem IsG.below {w w' : World} {v : Value} {x : Int} {k : Nat} (h : IsG w v x k) (hb : Below w.heap.size w w') : IsG w' v x k := by
  obtain ⟨s, A, n, c, h1, h2⟩ := h; exact ⟨s, A, n, c, h1, h2.below hb⟩
theorem IsBox.below {w w' : World} {base : Nat} {p cont : Value} {full : Bool} (h : IsBox w base p cont full) (hb : Below w.heap.size w w') : IsBox w' base p cont full := by
  obtain ⟨g, s, A, n, c, h1, h2, h3, h4⟩ := h; exact ⟨g, s, A, n, c, h1, h2, h3.below hb, h4⟩
theorem IsG.store {w : World} {v : Value} {x : Int} {k g n0 c0 : Nat} {s0 : Bool} {A0 : Option Addr} (h : IsG w v x k) (Z : By w g (.bool s0) (.slice A0 n0 c0)) (y z : Value) : IsG ((w.setCell ⟨g, 0, none⟩ y).setCell ⟨g, 1, none⟩ z) v x k := by
  obtain ⟨s, A, n, c, h1, h2⟩ := h; exact ⟨s, A, n, c, h1, h2.set2 Z y z⟩
theorem IsBox.other {w : World} {base g : Nat} {p cont : Value} {full : Bool} (h : IsBox w base p cont full) (hne : p ≠ .pointer (some ⟨g, 0, none⟩)) (y z : Value) : IsBox ((w.setCell ⟨g, 0, none⟩ y).setCell ⟨g, 1, none⟩ z) base p cont full := by
  obtain ⟨g', s, A, n, c, h1, h2, h3, h4⟩ := h
  refine ⟨g', s, A, n, c, h1, h2, h3.other (fun q => hne (by rw [h1, q])) y z, h4⟩
end Go.Proofs.YtlkjkhpjhllapaaGreat
namespace Go.Proofs.YtlkjkhpjhllapaaGreat
open Go Go.RowKit
def IsQ (w : World) (v : Value) (x : Rat) (k : Nat) : Prop := ∃ s A n c A' n' c', v = .agg #[.bool s, .slice A n c, .slice A' n' c'] ∧ QG w s A n c A' n' c' x k
theorem IsQ.below {w w' : World} {v : Value} {x : Rat} {k : Nat} (h : IsQ w v x k) (hb : Below w.heap.size w w') : IsQ w' v x k := by
  obtain ⟨s, A, n, c, A', n', c', h1, h2⟩ := h; exact ⟨s, A, n, c, A', n', c', h1, h2.below hb⟩
def HasBox (w : World) (base : Nat) (p : Value) : Prop := ∃ g s A n c A' n' c', p = .pointer (some ⟨g, 0, none⟩) ∧ base ≤ g ∧ B3 w g (.bool s) (.slice A n c) (.slice A' n' c')
theorem HasBox.below {w w' : World} {b : Nat} {p : Value} (h : HasBox w b p) (hb : Below w.heap.size w w') : HasBox w' b p := by
  obtain ⟨g, s, A, n, c, A', n', c', h1, h2, h3⟩ := h; exact ⟨g, s, A, n, c, A', n', c', h1, h2, h3.below hb⟩
end Go.Proofs.YtlkjkhpjhllapaaGreat
namespace Go.Proofs.YtlkjkhpjhllapaaGreat
open Go Go.RowKit
def IsZ (w : World) (v : Value) (x : Int) (k : Nat) : Prop := ∃ s A n c, v = .agg #[.bool s, .slice A n c] ∧ ZR w s A n c x k
def IsDM (w : World) (v : Value) (x : Int) (k : Nat) : Prop := ∃ s A n c s' A' n' c', v = .tuple #[.agg #[.bool s, .slice A n c], .agg #[.bool s', .slice A' n' c'], .int .i64 0] ∧ ZG w s A n c x k
def IBox (w : World) (base : Nat) (p cont : Value) (full : Bool) : Prop := ∃ g s A n c, p = .pointer (some ⟨g, 0, none⟩) ∧ base ≤ g ∧ Bx w g (.bool s) (.slice A n c) ∧ (full = true → cont = .agg #[.bool s, .slice A n c])
theorem IsZ.below {w w' : World} {v : Value} {x : Int} {k : Nat} (h : IsZ w v x k) (hb : Below w.heap.size w w') : IsZ w' v x k := by
  obtain ⟨s, A, n, c, h1, h2⟩ := h; exact ⟨s, A, n, c, h1, h2.below hb⟩
theorem IsDM.below {w w' : World} {v : Value} {x : Int} {k : Nat} (h : IsDM w v x k) (hb : Below w.heap.size w w') : IsDM w' v x k := by
  obtain ⟨s, A, n, c, s', A', n', c', h1, h2⟩ := h; exact ⟨s, A, n, c, s', A', n', c', h1, h2.below hb⟩
theorem IBox.below {w w' : World} {base : Nat} {p cont : Value} {full : Bool} (h : IBox w base p cont full) (hb : Below w.heap.size w w') : IBox w' base p cont full := by
  obtain ⟨g, s, A, n, c, h1, h2, h3, h4⟩ := h; exact ⟨g, s, A, n, c, h1, h2, h3.below hb, h4⟩
theorem IsZ.store {w : World} {v : Value} {x : Int} {k g n0 c0 : Nat} {s0 : Bool} {A0 : Option Addr} (h : IsZ w v x k) (Z : Bx w g (.bool s0) (.slice A0 n0 c0)) (y z : Value) : IsZ ((w.setCell ⟨g, 0, none⟩ y).setCell ⟨g, 1, none⟩ z) v x k := by
  obtain ⟨s, A, n, c, h1, h2⟩ := h; exact ⟨s, A, n, c, h1, h2.set2x Z y z⟩
theorem IsDM.store {w : World} {v : Value} {x : Int} {k g n0 c0 : Nat} {s0 : Bool} {A0 : Option Addr} (h : IsDM w v x k) (Z : Bx w g (.bool s0) (.slice A0 n0 c0)) (y z : Value) : IsDM ((w.setCell ⟨g, 0, none⟩ y).setCell ⟨g, 1, none⟩ z) v x k := by
  obtain ⟨s, A, n, c, s', A', n', c', h1, h2⟩ := h; exact ⟨s, A, n, c, s', A', n', c', h1, h2.set2x Z y z⟩
theorem IBox.other {w : World} {base g : Nat} {p cont : Value} {full : Bool} (h : IBox w base p cont full) (hne : p ≠ .pointer (some ⟨g, 0, none⟩)) (y z : Value) : IBox ((w.setCell ⟨g, 0, none⟩ y).setCell ⟨g, 1, none⟩ z) base p cont full := by
  obtain ⟨g', s, A, n, c, h1, h2, h3, h4⟩ := h
  exact ⟨g', s, A, n, c, h1, h2, h3.other (fun q => hne (by rw [h1, q])) y z, h4⟩
end Go.Proofs.YtlkjkhpjhllapaaGreat
