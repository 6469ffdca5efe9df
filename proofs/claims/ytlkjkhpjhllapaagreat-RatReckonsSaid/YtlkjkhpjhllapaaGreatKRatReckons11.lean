/- RatReckons: part 11. -/
import Derived.IntWalk
import Derived.Test.YtlkjkhpjhllapaaGreatKRatReckons0
import Derived.Test.YtlkjkhpjhllapaaGreatKRatReckons6
import Derived.Test.YtlkjkhpjhllapaaGreatKRatReckons9
import Derived.Test.YtlkjkhpjhllapaaGreatKRatReckons10
namespace Go.Proofs.YtlkjkhpjhllapaaGreat
open Go Go.RowKit
def GivesF (w : World) (v : Rat) (k : Nat) (e : Ending) (w' : World) : Prop :=
  ∃ (f : Int) (L : Nat), L ≠ 0 ∧ v = mkRat f L ∧ ∃ s A n c t B m d, e = .returned (.tuple #[.agg #[.bool s, .slice A n c], .agg #[.bool t, .slice B m d]]) ∧ ZR w' s A n c f k ∧ ZR w' t B m d (L : Int) k ∧ Below w.heap.size w w'
set_option maxRecDepth 100000 in
set_option maxHeartbeats 4000000 in
theorem rsum_q {w : World} {s t : Bool} {A A' B B' : Option Addr} {n c n' c' m d m' d' k k2 : Nat} {v0 u0 : Rat} (X0 : QR w s A n c A' n' c' v0 k) (Y0 : QR w t B m d B' m' d' u0 k2) (hk : k ≤ 400) (hkb : k2 ≤ 400) (h40 : k ≤ 40 ∨ k2 ≤ 40) (hk1 : 1 ≤ k) (hk3 : 1 ≤ k2) :
    Calls Tryz.prog 110 #[.agg #[.bool s, .slice A n c, .slice A' n' c'], .agg #[.bool t, .slice B m d, .slice B' m' d']] w (GivesF w (v0 + u0) (k + k2 + 1)) := by
  obtain ⟨p, q, X, Q, rfl⟩ := X0
  obtain ⟨p2, q2, Y, R, rfl⟩ := Y0
  go_enter Tryz.func110, Tryz.ntmps110
  go_wp2_with fail
  generalize hW : ((((w.alloc (Obj.cells #[Value.bool s, Value.slice A n c, Value.slice A' n' c'] 26)).alloc (Obj.cells #[Value.bool t, Value.slice B m d, Value.slice B' m' d'] 26)).alloc (Obj.cells #[Value.bool false, Value.slice none 0 0] 24)).alloc (Obj.cells #[Value.bool false, Value.slice none 0 0] 24)) = W
  have hb : Below w.heap.size w W := by subst hW; exact (((((Below.refl _ _).alloc (Nat.le_refl _) _).alloc (by simp) _).alloc (by simp; omega) _).alloc (by simp; omega) _)
  have XA : B3 W (w.heap.size) (Value.bool s) (Value.slice A n c) (Value.slice A' n' c') := by subst hW; exact (((B3.new' _ _ _ _ _ rfl).alloc _).alloc _).alloc _
  have XB : B3 W (w.heap.size + 1) (Value.bool t) (Value.slice B m d) (Value.slice B' m' d') := by subst hW; exact ((B3.new' _ _ _ _ _ (by simp)).alloc _).alloc _
  have Z1 : Bx W (w.heap.size + 1 + 1) (Value.bool false) (Value.slice none 0 0) := by subst hW; exact (Bx.new' _ _ _ _ (by simp)).alloc _
  have Z2 : Bx W (w.heap.size + 1 + 1 + 1) (Value.bool false) (Value.slice none 0 0) := by subst hW; exact Bx.new' _ _ _ _ (by simp)
  have hzW : W.heap.size = w.heap.size + 4 := by subst hW; simp
  clear hW
  replace X := X.below hb
  replace Q := Q.below hb
  replace Y := Y.below hb
  replace R := R.below hb
  have xa0 := XA.c0
  have xa1 := XA.c1
  have xa2 := XA.c2
  have xb0 := XB.c0
  have xb1 := XB.c1
  have xb2 := XB.c2
  have zf0 := Z2.c0
  go_upto_region 2 with (first
      | (go_at_call 168; (with_reducible refine (ralike_q X Q Y R hk hkb h40 hk1 hk3).mono ?_); rintro e w_a ⟨f, g, L, hL0, hL1, hL2, s_x, A_x, n_x, c_x, s_y, A_y, n_y, c_y, s_l, A_l, n_l, c_l, rfl, x, y, l, hh⟩
         try replace X := X.below hh
         try replace Q := Q.below hh
         try replace Y := Y.below hh
         try replace R := R.below hh
         try replace m1 := m1.below hh
         try replace XA := XA.below hh
         try replace XB := XB.below hh
         try replace Z1 := Z1.below hh
         try replace Z2 := Z2.below hh
         try replace XP := XP.below hh
         try replace XQ := XQ.below hh
         replace hb := bend hb hh
         have HL0 := Lib.hid hL0
         have HL1 := Lib.hid hL1
         have HL2 := Lib.hid hL2
         clear hL0 hL1 hL2
         have Z2b := (Z2.alloc (Obj.cells #[Value.bool s_x, Value.slice A_x n_x c_x] 24)).alloc (Obj.cells #[Value.bool s_y, Value.slice A_y n_y c_y] 24)
         have zz0 := Z2b.c0
         have zz1 := Z2b.c1
         have zz2 := Z2b.f0
         have zz3 := Z2b.f1))
  have hp1 := Z2.lt
  generalize hW : ((w_a.alloc (Obj.cells #[Value.bool s_x, Value.slice A_x n_x c_x] 24)).alloc (Obj.cells #[Value.bool s_y, Value.slice A_y n_y c_y] 24)) = W0
  have hh : Below w_a.heap.size w_a W0 := by subst hW; exact (((Below.refl _ _).alloc (Nat.le_refl _) _).alloc (by simp) _)
  have XP0 : Bx W0 (w_a.heap.size) (Value.bool s_x) (Value.slice A_x n_x c_x) := by subst hW; exact (Bx.new' _ _ _ _ rfl).alloc _
  have XQ0 : Bx W0 (w_a.heap.size + 1) (Value.bool s_y) (Value.slice A_y n_y c_y) := by subst hW; exact Bx.new' _ _ _ _ (by simp)
  clear hW
  replace x := x.below hh
  replace y := y.below hh
  replace l := l.below hh
  replace Z1 := Z1.below hh
  replace Z2 := Z2.below hh
  replace hb := bend hb hh
  generalize hW : (W0.setCell ⟨w.heap.size + 1 + 1 + 1, 0, none⟩ (.bool s_l)).setCell ⟨w.heap.size + 1 + 1 + 1, 1, none⟩ (.slice A_l n_l c_l) = W1
  replace x : ZR W1 s_x A_x n_x c_x f (k + k2) := by subst hW; exact x.set2x Z2 _ _
  replace y : ZR W1 s_y A_y n_y c_y g (k + k2) := by subst hW; exact y.set2x Z2 _ _
  replace l : ZR W1 s_l A_l n_l c_l (L : Int) (k + k2) := by subst hW; exact l.set2x Z2 _ _
  have XP : Bx W1 (w_a.heap.size) (Value.bool s_x) (Value.slice A_x n_x c_x) := by subst hW; exact XP0.other (by omega) _ _
  have XQ : Bx W1 (w_a.heap.size + 1) (Value.bool s_y) (Value.slice A_y n_y c_y) := by subst hW; exact XQ0.other (by omega) _ _
  replace Z1 : Bx W1 (w.heap.size + 1 + 1) (Value.bool false) (Value.slice none 0 0) := by subst hW; exact Z1.other (by omega) _ _
  replace hb : Below w.heap.size w W1 := by subst hW; exact below_set2 hb (by omega) _ _
  have Z2' : Bx W1 (w.heap.size + 1 + 1 + 1) (Value.bool s_l) (Value.slice A_l n_l c_l) := by subst hW; exact Z2.set2 _ _
  clear hW XP0 XQ0 Z2
  have Z2 := Z2'
  clear Z2'
  replace x := x.below (Below.refl _ _).drew
  replace y := y.below (Below.refl _ _).drew
  replace l := l.below (Below.refl _ _).drew
  replace Z1 := Z1.below (Below.refl _ _).drew
  replace Z2 := Z2.below (Below.refl _ _).drew
  replace XP := XP.below (Below.refl _ _).drew
  replace XQ := XQ.below (Below.refl _ _).drew
  replace hb := hb.drew
  go_region_held3 (fun w' => w'.cell? ⟨w_a.heap.size, 0, none⟩ = some (.bool s_x) ∧ w'.cell? ⟨w_a.heap.size, 1, none⟩ = some (.slice A_x n_x c_x) ∧ w'.cell? ⟨w_a.heap.size + 1, 0, none⟩ = some (.bool s_y) ∧ w'.cell? ⟨w_a.heap.size + 1, 1, none⟩ = some (.slice A_y n_y c_y) ∧ w'.cell? ⟨w.heap.size + 1 + 1 + 1, 0, none⟩ = some (.bool s_l) ∧ w'.cell? ⟨w.heap.size + 1 + 1 + 1, 1, none⟩ = some (.slice A_l n_l c_l))
    (first | with_reducible exact ⟨XP.c0, XP.c1, XQ.c0, XQ.c1, Z2.c0, Z2.c1⟩ | with_reducible exact ⟨(set2_cell _ _ _ _ _ _ (by omega)).trans (XP.c0), (set2_cell _ _ _ _ _ _ (by omega)).trans (XP.c1), (set2_cell _ _ _ _ _ _ (by omega)).trans (XQ.c0), (set2_cell _ _ _ _ _ _ (by omega)).trans (XQ.c1), (set2_cell _ _ _ _ _ _ (by omega)).trans (Z2.c0), (set2_cell _ _ _ _ _ _ (by omega)).trans (Z2.c1)⟩ | with_reducible exact ⟨(set2_cell _ _ _ _ _ _ (by omega)).trans ((set2_cell _ _ _ _ _ _ (by omega)).trans (XP.c0)), (set2_cell _ _ _ _ _ _ (by omega)).trans ((set2_cell _ _ _ _ _ _ (by omega)).trans (XP.c1)), (set2_cell _ _ _ _ _ _ (by omega)).trans ((set2_cell _ _ _ _ _ _ (by omega)).trans (XQ.c0)), (set2_cell _ _ _ _ _ _ (by omega)).trans ((set2_cell _ _ _ _ _ _ (by omega)).trans (XQ.c1)), Z2q.c0, Z2q.c1⟩)
    (first
    | (go_at_call 169; (with_reducible refine (zadd_zr (k + k2 + 1) x y (by omega) (by omega) (by omega)).mono ?_); rintro e w_m1 ⟨s_m1, A_m1, n_m1, c_m1, rfl, m1, hh⟩
       try replace X := X.below hh
       try replace Q := Q.below hh
       try replace Y := Y.below hh
       try replace R := R.below hh
       try replace x := x.below hh
       try replace y := y.below hh
       try replace l := l.below hh
       try replace XA := XA.below hh
       try replace XB := XB.below hh
       try replace Z1 := Z1.below hh
       try replace Z2 := Z2.below hh
       try replace XP := XP.below hh
       try replace XQ := XQ.below hh
       replace hb := bend hb hh
       have z0 := Z1.c0
       have z1 := Z1.c1
       have z2 := Z1.f0
       have z3 := Z1.f1
       have y0 := Z2.c0
       have y1 := Z2.c1
       have y2 := Z2.f0
       have y3 := Z2.f1
       have Z2o := Z2.other (k := w.heap.size + 1 + 1) (by omega) (.bool s_m1) (.slice A_m1 n_m1 c_m1)
       have zo0 := Z2o.c0
       have zo1 := Z2o.c1
       have zo2 := Z2o.f0
       have zo3 := Z2o.f1
       have Z2q := Z2o.set2 (.bool s_l) (.slice A_l n_l c_l)))
  go_wp2_with fail
  have G1 := (Z1.set2 (.bool s_m1) (.slice A_m1 n_m1 c_m1)).other (k := w.heap.size + 1 + 1 + 1) (by omega) (.bool s_l) (.slice A_l n_l c_l)
  have G2 := (Z2.other (k := w.heap.size + 1 + 1) (by omega) (.bool s_m1) (.slice A_m1 n_m1 c_m1)).set2 (.bool s_l) (.slice A_l n_l c_l)
  have g0 := G1.c0
  have g1 := G1.c1
  have g2 := G2.c0
  have g3 := G2.c1
  have HT := two_set hb (by omega) (by omega) (by omega) Z1 Z2 m1 (l.more (show k + k2 ≤ k + k2 + 1 by omega)) (.bool s_m1) (.slice A_m1 n_m1 c_m1) (.bool s_l) (.slice A_l n_l c_l)
  refine bodyPost_ret (v := .tuple #[.agg #[.bool s_m1, .slice A_m1 n_m1 c_m1], .agg #[.bool s_l, .slice A_l n_l c_l]]) (by simp [results, Tryz.results110, go_sem, g0, g1, g2, g3]) rfl ?_
  exact ⟨_, L, HL0.out, by rw [HL1.out, HL2.out]; exact mk_add_same HL0.out, _, _, _, _, _, _, _, _, rfl, HT.1, HT.2.1, HT.2.2⟩
set_option maxRecDepth 100000 in
set_option maxHeartbeats 4000000 in
theorem rdiff_q {w : World} {s t : Bool} {A A' B B' : Option Addr} {n c n' c' m d m' d' k k2 : Nat} {v0 u0 : Rat} (X0 : QR w s A n c A' n' c' v0 k) (Y0 : QR w t B m d B' m' d' u0 k2) (hk : k ≤ 400) (hkb : k2 ≤ 400) (h40 : k ≤ 40 ∨ k2 ≤ 40) (hk1 : 1 ≤ k) (hk3 : 1 ≤ k2) :
    Calls Tryz.prog 112 #[.agg #[.bool s, .slice A n c, .slice A' n' c'], .agg #[.bool t, .slice B m d, .slice B' m' d']] w (GivesF w (v0 - u0) (k + k2 + 1)) := by
  obtain ⟨p, q, X, Q, rfl⟩ := X0
  obtain ⟨p2, q2, Y, R, rfl⟩ := Y0
  go_enter Tryz.func112, Tryz.ntmps112
  go_wp2_with fail
  generalize hW : ((((w.alloc (Obj.cells #[Value.bool s, Value.slice A n c, Value.slice A' n' c'] 26)).alloc (Obj.cells #[Value.bool t, Value.slice B m d, Value.slice B' m' d'] 26)).alloc (Obj.cells #[Value.bool false, Value.slice none 0 0] 24)).alloc (Obj.cells #[Value.bool false, Value.slice none 0 0] 24)) = W
  have hb : Below w.heap.size w W := by subst hW; exact (((((Below.refl _ _).alloc (Nat.le_refl _) _).alloc (by simp) _).alloc (by simp; omega) _).alloc (by simp; omega) _)
  have XA : B3 W (w.heap.size) (Value.bool s) (Value.slice A n c) (Value.slice A' n' c') := by subst hW; exact (((B3.new' _ _ _ _ _ rfl).alloc _).alloc _).alloc _
  have XB : B3 W (w.heap.size + 1) (Value.bool t) (Value.slice B m d) (Value.slice B' m' d') := by subst hW; exact ((B3.new' _ _ _ _ _ (by simp)).alloc _).alloc _
  have Z1 : Bx W (w.heap.size + 1 + 1) (Value.bool false) (Value.slice none 0 0) := by subst hW; exact (Bx.new' _ _ _ _ (by simp)).alloc _
  have Z2 : Bx W (w.heap.size + 1 + 1 + 1) (Value.bool false) (Value.slice none 0 0) := by subst hW; exact Bx.new' _ _ _ _ (by simp)
  have hzW : W.heap.size = w.heap.size + 4 := by subst hW; simp
  clear hW
  replace X := X.below hb
  replace Q := Q.below hb
  replace Y := Y.below hb
  replace R := R.below hb
  have xa0 := XA.c0
  have xa1 := XA.c1
  have xa2 := XA.c2
  have xb0 := XB.c0
  have xb1 := XB.c1
  have xb2 := XB.c2
  have zf0 := Z2.c0
  go_upto_region 2 with (first
      | (go_at_call 168; (with_reducible refine (ralike_q X Q Y R hk hkb h40 hk1 hk3).mono ?_); rintro e w_a ⟨f, g, L, hL0, hL1, hL2, s_x, A_x, n_x, c_x, s_y, A_y, n_y, c_y, s_l, A_l, n_l, c_l, rfl, x, y, l, hh⟩
         try replace X := X.below hh
         try replace Q := Q.below hh
         try replace Y := Y.below hh
         try replace R := R.below hh
         try replace m1 := m1.below hh
         try replace XA := XA.below hh
         try replace XB := XB.below hh
         try replace Z1 := Z1.below hh
         try replace Z2 := Z2.below hh
         try replace XP := XP.below hh
         try replace XQ := XQ.below hh
         replace hb := bend hb hh
         have HL0 := Lib.hid hL0
         have HL1 := Lib.hid hL1
         have HL2 := Lib.hid hL2
         clear hL0 hL1 hL2
         have Z2b := (Z2.alloc (Obj.cells #[Value.bool s_x, Value.slice A_x n_x c_x] 24)).alloc (Obj.cells #[Value.bool s_y, Value.slice A_y n_y c_y] 24)
         have zz0 := Z2b.c0
         have zz1 := Z2b.c1
         have zz2 := Z2b.f0
         have zz3 := Z2b.f1))
  have hp1 := Z2.lt
  generalize hW : ((w_a.alloc (Obj.cells #[Value.bool s_x, Value.slice A_x n_x c_x] 24)).alloc (Obj.cells #[Value.bool s_y, Value.slice A_y n_y c_y] 24)) = W0
  have hh : Below w_a.heap.size w_a W0 := by subst hW; exact (((Below.refl _ _).alloc (Nat.le_refl _) _).alloc (by simp) _)
  have XP0 : Bx W0 (w_a.heap.size) (Value.bool s_x) (Value.slice A_x n_x c_x) := by subst hW; exact (Bx.new' _ _ _ _ rfl).alloc _
  have XQ0 : Bx W0 (w_a.heap.size + 1) (Value.bool s_y) (Value.slice A_y n_y c_y) := by subst hW; exact Bx.new' _ _ _ _ (by simp)
  clear hW
  replace x := x.below hh
  replace y := y.below hh
  replace l := l.below hh
  replace Z1 := Z1.below hh
  replace Z2 := Z2.below hh
  replace hb := bend hb hh
  generalize hW : (W0.setCell ⟨w.heap.size + 1 + 1 + 1, 0, none⟩ (.bool s_l)).setCell ⟨w.heap.size + 1 + 1 + 1, 1, none⟩ (.slice A_l n_l c_l) = W1
  replace x : ZR W1 s_x A_x n_x c_x f (k + k2) := by subst hW; exact x.set2x Z2 _ _
  replace y : ZR W1 s_y A_y n_y c_y g (k + k2) := by subst hW; exact y.set2x Z2 _ _
  replace l : ZR W1 s_l A_l n_l c_l (L : Int) (k + k2) := by subst hW; exact l.set2x Z2 _ _
  have XP : Bx W1 (w_a.heap.size) (Value.bool s_x) (Value.slice A_x n_x c_x) := by subst hW; exact XP0.other (by omega) _ _
  have XQ : Bx W1 (w_a.heap.size + 1) (Value.bool s_y) (Value.slice A_y n_y c_y) := by subst hW; exact XQ0.other (by omega) _ _
  replace Z1 : Bx W1 (w.heap.size + 1 + 1) (Value.bool false) (Value.slice none 0 0) := by subst hW; exact Z1.other (by omega) _ _
  replace hb : Below w.heap.size w W1 := by subst hW; exact below_set2 hb (by omega) _ _
  have Z2' : Bx W1 (w.heap.size + 1 + 1 + 1) (Value.bool s_l) (Value.slice A_l n_l c_l) := by subst hW; exact Z2.set2 _ _
  clear hW XP0 XQ0 Z2
  have Z2 := Z2'
  clear Z2'
  replace x := x.below (Below.refl _ _).drew
  replace y := y.below (Below.refl _ _).drew
  replace l := l.below (Below.refl _ _).drew
  replace Z1 := Z1.below (Below.refl _ _).drew
  replace Z2 := Z2.below (Below.refl _ _).drew
  replace XP := XP.below (Below.refl _ _).drew
  replace XQ := XQ.below (Below.refl _ _).drew
  replace hb := hb.drew
  go_region_held3 (fun w' => w'.cell? ⟨w_a.heap.size, 0, none⟩ = some (.bool s_x) ∧ w'.cell? ⟨w_a.heap.size, 1, none⟩ = some (.slice A_x n_x c_x) ∧ w'.cell? ⟨w_a.heap.size + 1, 0, none⟩ = some (.bool s_y) ∧ w'.cell? ⟨w_a.heap.size + 1, 1, none⟩ = some (.slice A_y n_y c_y) ∧ w'.cell? ⟨w.heap.size + 1 + 1 + 1, 0, none⟩ = some (.bool s_l) ∧ w'.cell? ⟨w.heap.size + 1 + 1 + 1, 1, none⟩ = some (.slice A_l n_l c_l))
    (first | with_reducible exact ⟨XP.c0, XP.c1, XQ.c0, XQ.c1, Z2.c0, Z2.c1⟩ | with_reducible exact ⟨(set2_cell _ _ _ _ _ _ (by omega)).trans (XP.c0), (set2_cell _ _ _ _ _ _ (by omega)).trans (XP.c1), (set2_cell _ _ _ _ _ _ (by omega)).trans (XQ.c0), (set2_cell _ _ _ _ _ _ (by omega)).trans (XQ.c1), (set2_cell _ _ _ _ _ _ (by omega)).trans (Z2.c0), (set2_cell _ _ _ _ _ _ (by omega)).trans (Z2.c1)⟩ | with_reducible exact ⟨(set2_cell _ _ _ _ _ _ (by omega)).trans ((set2_cell _ _ _ _ _ _ (by omega)).trans (XP.c0)), (set2_cell _ _ _ _ _ _ (by omega)).trans ((set2_cell _ _ _ _ _ _ (by omega)).trans (XP.c1)), (set2_cell _ _ _ _ _ _ (by omega)).trans ((set2_cell _ _ _ _ _ _ (by omega)).trans (XQ.c0)), (set2_cell _ _ _ _ _ _ (by omega)).trans ((set2_cell _ _ _ _ _ _ (by omega)).trans (XQ.c1)), Z2q.c0, Z2q.c1⟩)
    (first
    | (go_at_call 172; (with_reducible refine (zsub_zr (k + k2 + 1) x y (by omega) (by omega) (by omega)).mono ?_); rintro e w_m1 ⟨s_m1, A_m1, n_m1, c_m1, rfl, m1, hh⟩
       try replace X := X.below hh
       try replace Q := Q.below hh
       try replace Y := Y.below hh
       try replace R := R.below hh
       try replace x := x.below hh
       try replace y := y.below hh
       try replace l := l.below hh
       try replace XA := XA.below hh
       try replace XB := XB.below hh
       try replace Z1 := Z1.below hh
       try replace Z2 := Z2.below hh
       try replace XP := XP.below hh
       try replace XQ := XQ.below hh
       replace hb := bend hb hh
       have z0 := Z1.c0
       have z1 := Z1.c1
       have z2 := Z1.f0
       have z3 := Z1.f1
       have y0 := Z2.c0
       have y1 := Z2.c1
       have y2 := Z2.f0
       have y3 := Z2.f1
       have Z2o := Z2.other (k := w.heap.size + 1 + 1) (by omega) (.bool s_m1) (.slice A_m1 n_m1 c_m1)
       have zo0 := Z2o.c0
       have zo1 := Z2o.c1
       have zo2 := Z2o.f0
       have zo3 := Z2o.f1
       have Z2q := Z2o.set2 (.bool s_l) (.slice A_l n_l c_l)))
  go_wp2_with fail
  have G1 := (Z1.set2 (.bool s_m1) (.slice A_m1 n_m1 c_m1)).other (k := w.heap.size + 1 + 1 + 1) (by omega) (.bool s_l) (.slice A_l n_l c_l)
  have G2 := (Z2.other (k := w.heap.size + 1 + 1) (by omega) (.bool s_m1) (.slice A_m1 n_m1 c_m1)).set2 (.bool s_l) (.slice A_l n_l c_l)
  have g0 := G1.c0
  have g1 := G1.c1
  have g2 := G2.c0
  have g3 := G2.c1
  have HT := two_set hb (by omega) (by omega) (by omega) Z1 Z2 m1 (l.more (show k + k2 ≤ k + k2 + 1 by omega)) (.bool s_m1) (.slice A_m1 n_m1 c_m1) (.bool s_l) (.slice A_l n_l c_l)
  refine bodyPost_ret (v := .tuple #[.agg #[.bool s_m1, .slice A_m1 n_m1 c_m1], .agg #[.bool s_l, .slice A_l n_l c_l]]) (by simp [results, Tryz.results112, go_sem, g0, g1, g2, g3]) rfl ?_
  exact ⟨_, L, HL0.out, by rw [HL1.out, HL2.out]; exact mk_sub_same HL0.out, _, _, _, _, _, _, _, _, rfl, HT.1, HT.2.1, HT.2.2⟩
set_option maxRecDepth 100000 in
set_option maxHeartbeats 4000000 in
theorem radd_q {w : World} {s t : Bool} {A A' B B' : Option Addr} {n c n' c' m d m' d' k k2 : Nat} {v0 u0 : Rat} (X0 : QR w s A n c A' n' c' v0 k) (Y0 : QR w t B m d B' m' d' u0 k2) (hk : k ≤ 400) (hkb : k2 ≤ 400) (h40 : k ≤ 40 ∨ k2 ≤ 40) (hk1 : 1 ≤ k) (hk3 : 1 ≤ k2) :
    Calls Tryz.prog 22 #[.agg #[.bool s, .slice A n c, .slice A' n' c'], .agg #[.bool t, .slice B m d, .slice B' m' d']] w (GivesQ w (v0 + u0) (k + k2 + 1)) := by
  go_enter Tryz.func22, Tryz.ntmps22
  go_wp2_with fail
  generalize hW : (((w.alloc (Obj.cells #[Value.bool s, Value.slice A n c, Value.slice A' n' c'] 26)).alloc (Obj.cells #[Value.bool t, Value.slice B m d, Value.slice B' m' d'] 26)).alloc (Obj.cells #[Value.bool false, Value.slice none 0 0, Value.slice none 0 0] 26)) = W
  have hb : Below w.heap.size w W := by subst hW; exact ((((Below.refl _ _).alloc (Nat.le_refl _) _).alloc (by simp) _).alloc (by simp; omega) _)
  have XA : B3 W (w.heap.size) (Value.bool s) (Value.slice A n c) (Value.slice A' n' c') := by subst hW; exact ((B3.new' _ _ _ _ _ rfl).alloc _).alloc _
  have XB : B3 W (w.heap.size + 1) (Value.bool t) (Value.slice B m d) (Value.slice B' m' d') := by subst hW; exact (B3.new' _ _ _ _ _ (by simp)).alloc _
  have Z : B3 W (w.heap.size + 1 + 1) (Value.bool false) (Value.slice none 0 0) (Value.slice none 0 0) := by subst hW; exact B3.new' _ _ _ _ _ (by simp)
  have hzW : W.heap.size = w.heap.size + 3 := by subst hW; simp
  clear hW
  replace X0 := X0.below hb
  replace Y0 := Y0.below hb
  have xa0 := XA.c0
  have xa1 := XA.c1
  have xa2 := XA.c2
  have xb0 := XB.c0
  have xb1 := XB.c1
  have xb2 := XB.c2
  go_wp2_with (first
      | (go_at_call 110; (with_reducible refine (rsum_q X0 Y0 hk hkb h40 hk1 hk3).mono ?_); rintro e w_a ⟨f, L, hL0, hL1, s_x, A_x, n_x, c_x, s_y, A_y, n_y, c_y, rfl, x, y, hh⟩
         try replace X0 := X0.below hh
         try replace Y0 := Y0.below hh
         try replace r := r.below hh
         try replace XA := XA.below hh
         try replace XB := XB.below hh
         try replace Z := Z.below hh
         replace hb := bend hb hh
         have hL : (L : Int) ≠ 0 := by omega
         have HL0 := Lib.hid hL
         have HL1 : Hid (Rat.divInt f (L : Int) = v0 + u0) := by show _ = _; rw [hL1, Rat.divInt_ofNat]
         clear hL0 hL1 hL)
      | (go_at_call 109; (with_reducible refine (by_zr (k + k2 + 1) x y (by omega) (by omega) HL0.out (Nat.le_refl _) (Nat.le_refl _)).mono ?_); rintro e w_r ⟨s_r, A_r, n_r, c_r, B_r, m_r, d_r, rfl, r, hh⟩
         rw [HL1.out] at r
         try replace X0 := X0.below hh
         try replace Y0 := Y0.below hh
         try replace x := x.below hh
         try replace y := y.below hh
         try replace XA := XA.below hh
         try replace XB := XB.below hh
         try replace Z := Z.below hh
         replace hb := bend hb hh
         have zf0 := Z.f0
         have zf1 := Z.f1
         have zf2 := Z.f2
         have z0 := Z.c0
         have z1 := Z.c1
         have z2 := Z.c2))
  have Z2 := Z.set3 (.bool s_r) (.slice A_r n_r c_r) (.slice B_r m_r d_r)
  have g0 := Z2.c0
  have g1 := Z2.c1
  have g2 := Z2.c2
  refine bodyPost_ret (v := .agg #[.bool s_r, .slice A_r n_r c_r, .slice B_r m_r d_r]) (by simp [results, Tryz.results22, go_sem, g0, g1, g2]) rfl ?_
  exact ⟨s_r, A_r, n_r, c_r, B_r, m_r, d_r, rfl, r.set3 Z _ _ _, below_set3 hb (by omega) _ _ _⟩
set_option maxRecDepth 100000 in
set_option maxHeartbeats 4000000 in
theorem rsub_q {w : World} {s t : Bool} {A A' B B' : Option Addr} {n c n' c' m d m' d' k k2 : Nat} {v0 u0 : Rat} (X0 : QR w s A n c A' n' c' v0 k) (Y0 : QR w t B m d B' m' d' u0 k2) (hk : k ≤ 400) (hkb : k2 ≤ 400) (h40 : k ≤ 40 ∨ k2 ≤ 40) (hk1 : 1 ≤ k) (hk3 : 1 ≤ k2) :
    Calls Tryz.prog 24 #[.agg #[.bool s, .slice A n c, .slice A' n' c'], .agg #[.bool t, .slice B m d, .slice B' m' d']] w (GivesQ w (v0 - u0) (k + k2 + 1)) := by
  go_enter Tryz.func24, Tryz.ntmps24
  go_wp2_with fail
  generalize hW : (((w.alloc (Obj.cells #[Value.bool s, Value.slice A n c, Value.slice A' n' c'] 26)).alloc (Obj.cells #[Value.bool t, Value.slice B m d, Value.slice B' m' d'] 26)).alloc (Obj.cells #[Value.bool false, Value.slice none 0 0, Value.slice none 0 0] 26)) = W
  have hb : Below w.heap.size w W := by subst hW; exact ((((Below.refl _ _).alloc (Nat.le_refl _) _).alloc (by simp) _).alloc (by simp; omega) _)
  have XA : B3 W (w.heap.size) (Value.bool s) (Value.slice A n c) (Value.slice A' n' c') := by subst hW; exact ((B3.new' _ _ _ _ _ rfl).alloc _).alloc _
  have XB : B3 W (w.heap.size + 1) (Value.bool t) (Value.slice B m d) (Value.slice B' m' d') := by subst hW; exact (B3.new' _ _ _ _ _ (by simp)).alloc _
  have Z : B3 W (w.heap.size + 1 + 1) (Value.bool false) (Value.slice none 0 0) (Value.slice none 0 0) := by subst hW; exact B3.new' _ _ _ _ _ (by simp)
  have hzW : W.heap.size = w.heap.size + 3 := by subst hW; simp
  clear hW
  replace X0 := X0.below hb
  replace Y0 := Y0.below hb
  have xa0 := XA.c0
  have xa1 := XA.c1
  have xa2 := XA.c2
  have xb0 := XB.c0
  have xb1 := XB.c1
  have xb2 := XB.c2
  go_wp2_with (first
      | (go_at_call 112; (with_reducible refine (rdiff_q X0 Y0 hk hkb h40 hk1 hk3).mono ?_); rintro e w_a ⟨f, L, hL0, hL1, s_x, A_x, n_x, c_x, s_y, A_y, n_y, c_y, rfl, x, y, hh⟩
         try replace X0 := X0.below hh
         try replace Y0 := Y0.below hh
         try replace r := r.below hh
         try replace XA := XA.below hh
         try replace XB := XB.below hh
         try replace Z := Z.below hh
         replace hb := bend hb hh
         have hL : (L : Int) ≠ 0 := by omega
         have HL0 := Lib.hid hL
         have HL1 : Hid (Rat.divInt f (L : Int) = v0 - u0) := by show _ = _; rw [hL1, Rat.divInt_ofNat]
         clear hL0 hL1 hL)
      | (go_at_call 109; (with_reducible refine (by_zr (k + k2 + 1) x y (by omega) (by omega) HL0.out (Nat.le_refl _) (Nat.le_refl _)).mono ?_); rintro e w_r ⟨s_r, A_r, n_r, c_r, B_r, m_r, d_r, rfl, r, hh⟩
         rw [HL1.out] at r
         try replace X0 := X0.below hh
         try replace Y0 := Y0.below hh
         try replace x := x.below hh
         try replace y := y.below hh
         try replace XA := XA.below hh
         try replace XB := XB.below hh
         try replace Z := Z.below hh
         replace hb := bend hb hh
         have zf0 := Z.f0
         have zf1 := Z.f1
         have zf2 := Z.f2
         have z0 := Z.c0
         have z1 := Z.c1
         have z2 := Z.c2))
  have Z2 := Z.set3 (.bool s_r) (.slice A_r n_r c_r) (.slice B_r m_r d_r)
  have g0 := Z2.c0
  have g1 := Z2.c1
  have g2 := Z2.c2
  refine bodyPost_ret (v := .agg #[.bool s_r, .slice A_r n_r c_r, .slice B_r m_r d_r]) (by simp [results, Tryz.results24, go_sem, g0, g1, g2]) rfl ?_
  exact ⟨s_r, A_r, n_r, c_r, B_r, m_r, d_r, rfl, r.set3 Z _ _ _, below_set3 hb (by omega) _ _ _⟩
set_option maxRecDepth 100000 in
set_option maxHeartbeats 4000000 in
theorem rmul_q {w : World} {s t : Bool} {A A' B B' : Option Addr} {n c n' c' m d m' d' k k2 : Nat} {v0 u0 : Rat} (X0 : QR w s A n c A' n' c' v0 k) (Y0 : QR w t B m d B' m' d' u0 k2) (hk : k ≤ 400) (hkb : k2 ≤ 400) (h40 : k ≤ 40 ∨ k2 ≤ 40) (hk1 : 1 ≤ k) (hk3 : 1 ≤ k2) :
    Calls Tryz.prog 26 #[.agg #[.bool s, .slice A n c, .slice A' n' c'], .agg #[.bool t, .slice B m d, .slice B' m' d']] w (GivesQ w (v0 * u0) (k + k2)) := by
  obtain ⟨p, q, X, Q, rfl⟩ := X0
  obtain ⟨p2, q2, Y, R, rfl⟩ := Y0
  have HE : Hid (Rat.divInt (p * p2) ((den1 q : Int) * (den1 q2 : Int)) = mkRat p (den1 q) * mkRat p2 (den1 q2)) := by show _ = _; rw [mk_mul, ← Int.natCast_mul, Rat.divInt_ofNat]
  have HL0 : Hid ((den1 q : Int) * (den1 q2 : Int) ≠ 0) := Int.mul_ne_zero (den1_i q) (den1_i q2)
  go_enter Tryz.func26, Tryz.ntmps26
  go_wp2_with fail
  generalize hW : (((w.alloc (Obj.cells #[Value.bool s, Value.slice A n c, Value.slice A' n' c'] 26)).alloc (Obj.cells #[Value.bool t, Value.slice B m d, Value.slice B' m' d'] 26)).alloc (Obj.cells #[Value.bool false, Value.slice none 0 0, Value.slice none 0 0] 26)) = W
  have hb : Below w.heap.size w W := by subst hW; exact ((((Below.refl _ _).alloc (Nat.le_refl _) _).alloc (by simp) _).alloc (by simp; omega) _)
  have XA : B3 W (w.heap.size) (Value.bool s) (Value.slice A n c) (Value.slice A' n' c') := by subst hW; exact ((B3.new' _ _ _ _ _ rfl).alloc _).alloc _
  have XB : B3 W (w.heap.size + 1) (Value.bool t) (Value.slice B m d) (Value.slice B' m' d') := by subst hW; exact (B3.new' _ _ _ _ _ (by simp)).alloc _
  have Z : B3 W (w.heap.size + 1 + 1) (Value.bool false) (Value.slice none 0 0) (Value.slice none 0 0) := by subst hW; exact B3.new' _ _ _ _ _ (by simp)
  have hzW : W.heap.size = w.heap.size + 3 := by subst hW; simp
  clear hW
  replace X := X.below hb
  replace Q := Q.below hb
  replace Y := Y.below hb
  replace R := R.below hb
  have xa0 := XA.c0
  have xa1 := XA.c1
  have xa2 := XA.c2
  have xb0 := XB.c0
  have xb1 := XB.c1
  have xb2 := XB.c2
  go_wp2_with (first
      | (go_at_call 113; (with_reducible refine (rprod_q X Q Y R hk hkb h40 hk1 hk3).mono ?_); rintro e w_a ⟨s_x, A_x, n_x, c_x, s_y, A_y, n_y, c_y, rfl, x, y, hh⟩
         try replace X := X.below hh
         try replace Q := Q.below hh
         try replace Y := Y.below hh
         try replace R := R.below hh
         try replace r := r.below hh
         try replace XA := XA.below hh
         try replace XB := XB.below hh
         try replace Z := Z.below hh
         replace hb := bend hb hh)
      | (go_at_call 109; (with_reducible refine (by_zr (k + k2) x y (by omega) (by omega) HL0.out (Nat.le_refl _) (Nat.le_refl _)).mono ?_); rintro e w_r ⟨s_r, A_r, n_r, c_r, B_r, m_r, d_r, rfl, r, hh⟩
         rw [HE.out] at r
         try replace X := X.below hh
         try replace Q := Q.below hh
         try replace Y := Y.below hh
         try replace R := R.below hh
         try replace x := x.below hh
         try replace y := y.below hh
         try replace XA := XA.below hh
         try replace XB := XB.below hh
         try replace Z := Z.below hh
         replace hb := bend hb hh
         have zf0 := Z.f0
         have zf1 := Z.f1
         have zf2 := Z.f2
         have z0 := Z.c0
         have z1 := Z.c1
         have z2 := Z.c2))
  have Z2 := Z.set3 (.bool s_r) (.slice A_r n_r c_r) (.slice B_r m_r d_r)
  have g0 := Z2.c0
  have g1 := Z2.c1
  have g2 := Z2.c2
  refine bodyPost_ret (v := .agg #[.bool s_r, .slice A_r n_r c_r, .slice B_r m_r d_r]) (by simp [results, Tryz.results26, go_sem, g0, g1, g2]) rfl ?_
  exact ⟨s_r, A_r, n_r, c_r, B_r, m_r, d_r, rfl, r.set3 Z _ _ _, below_set3 hb (by omega) _ _ _⟩
set_option maxRecDepth 100000 in
set_option maxHeartbeats 4000000 in
theorem rdiv_q {w : World} {s t : Bool} {A A' B B' : Option Addr} {n c n' c' m d m' d' k k2 : Nat} {v0 u0 : Rat} (X0 : QR w s A n c A' n' c' v0 k) (Y0 : QR w t B m d B' m' d' u0 k2) (hk : k ≤ 400) (hkb : k2 ≤ 400) (h40 : k ≤ 40 ∨ k2 ≤ 40) (hk1 : 1 ≤ k) (hk3 : 1 ≤ k2) (hu : u0 ≠ 0) :
    Calls Tryz.prog 18 #[.agg #[.bool s, .slice A n c, .slice A' n' c'], .agg #[.bool t, .slice B m d, .slice B' m' d']] w (GivesQE w (v0 / u0) (k + k2)) := by
  obtain ⟨p, q, X, Q, rfl⟩ := X0
  obtain ⟨p2, q2, Y, R, rfl⟩ := Y0
  have HE : Hid (Rat.divInt (p * (den1 q2 : Int)) ((den1 q : Int) * p2) = mkRat p (den1 q) / mkRat p2 (den1 q2)) := (mk_div _ _ _ _).symm
  have HL0 : Hid ((den1 q : Int) * p2 ≠ 0) := Int.mul_ne_zero (den1_i q) (fun h => hu ((mk_zero (den1_ne q2)).2 h))
  clear hu
  go_enter Tryz.func18, Tryz.ntmps18
  go_wp2_with fail
  generalize hW : (((w.alloc (Obj.cells #[Value.bool s, Value.slice A n c, Value.slice A' n' c'] 26)).alloc (Obj.cells #[Value.bool t, Value.slice B m d, Value.slice B' m' d'] 26)).alloc (Obj.cells #[Value.bool false, Value.slice none 0 0, Value.slice none 0 0] 26)) = W
  have hb : Below w.heap.size w W := by subst hW; exact ((((Below.refl _ _).alloc (Nat.le_refl _) _).alloc (by simp) _).alloc (by simp; omega) _)
  have XA : B3 W (w.heap.size) (Value.bool s) (Value.slice A n c) (Value.slice A' n' c') := by subst hW; exact ((B3.new' _ _ _ _ _ rfl).alloc _).alloc _
  have XB : B3 W (w.heap.size + 1) (Value.bool t) (Value.slice B m d) (Value.slice B' m' d') := by subst hW; exact (B3.new' _ _ _ _ _ (by simp)).alloc _
  have Z : B3 W (w.heap.size + 1 + 1) (Value.bool false) (Value.slice none 0 0) (Value.slice none 0 0) := by subst hW; exact B3.new' _ _ _ _ _ (by simp)
  have hzW : W.heap.size = w.heap.size + 3 := by subst hW; simp
  clear hW
  replace X := X.below hb
  replace Q := Q.below hb
  replace Y := Y.below hb
  replace R := R.below hb
  have xa0 := XA.c0
  have xa1 := XA.c1
  have xa2 := XA.c2
  have xb0 := XB.c0
  have xb1 := XB.c1
  have xb2 := XB.c2
  go_wp2_with (first
      | (go_at_call 103; (with_reducible refine (rquot_q X Q Y R hk hkb h40 hk1 hk3).mono ?_); rintro e w_a ⟨s_x, A_x, n_x, c_x, s_y, A_y, n_y, c_y, rfl, x, y, hh⟩
         try replace X := X.below hh
         try replace Q := Q.below hh
         try replace Y := Y.below hh
         try replace R := R.below hh
         try replace r := r.below hh
         try replace XA := XA.below hh
         try replace XB := XB.below hh
         try replace Z := Z.below hh
         replace hb := bend hb hh)
      | (go_at_call 43; (with_reducible refine (make_zr (k + k2) x y (by omega) (by omega) HL0.out (Nat.le_refl _) (Nat.le_refl _)).mono ?_); rintro e w_r ⟨s_r, A_r, n_r, c_r, B_r, m_r, d_r, rfl, r, hh⟩
         rw [HE.out] at r
         try replace X := X.below hh
         try replace Q := Q.below hh
         try replace Y := Y.below hh
         try replace R := R.below hh
         try replace x := x.below hh
         try replace y := y.below hh
         try replace XA := XA.below hh
         try replace XB := XB.below hh
         try replace Z := Z.below hh
         replace hb := bend hb hh
         have zf0 := Z.f0
         have zf1 := Z.f1
         have zf2 := Z.f2
         have z0 := Z.c0
         have z1 := Z.c1
         have z2 := Z.c2))
  have Z2 := Z.set3 (.bool s_r) (.slice A_r n_r c_r) (.slice B_r m_r d_r)
  have g0 := Z2.c0
  have g1 := Z2.c1
  have g2 := Z2.c2
  refine bodyPost_ret (v := .tuple #[.agg #[.bool s_r, .slice A_r n_r c_r, .slice B_r m_r d_r], .int .i64 0]) (by simp [results, Tryz.results18, go_sem, g0, g1, g2]) rfl ?_
  exact ⟨s_r, A_r, n_r, c_r, B_r, m_r, d_r, rfl, r.set3 Z _ _ _, below_set3 hb (by omega) _ _ _⟩
set_option maxRecDepth 100000 in
set_option maxHeartbeats 4000000 in
theorem rdiv_zero {w : World} {s t : Bool} {A A' B B' : Option Addr} {n c n' c' m d m' d' k k2 : Nat} {v0 u0 : Rat} (X0 : QR w s A n c A' n' c' v0 k) (Y0 : QR w t B m d B' m' d' u0 k2) (hk : k ≤ 400) (hkb : k2 ≤ 400) (h40 : k ≤ 40 ∨ k2 ≤ 40) (hk1 : 1 ≤ k) (hk3 : 1 ≤ k2) (hu : u0 = 0) :
    Calls Tryz.prog 18 #[.agg #[.bool s, .slice A n c, .slice A' n' c'], .agg #[.bool t, .slice B m d, .slice B' m' d']] w fun e w' => e = .returned (.tuple #[.agg #[.bool false, .slice none 0 0, .slice none 0 0], .int .i64 12]) ∧ Below w.heap.size w w' := by
  obtain ⟨p, q, X, Q, rfl⟩ := X0
  obtain ⟨p2, q2, Y, R, rfl⟩ := Y0
  have HL0 : Hid ((den1 q : Int) * p2 = 0) := by show _ = _; rw [(mk_zero (den1_ne q2)).1 hu, Int.mul_zero]
  clear hu
  go_enter Tryz.func18, Tryz.ntmps18
  go_wp2_with fail
  generalize hW : (((w.alloc (Obj.cells #[Value.bool s, Value.slice A n c, Value.slice A' n' c'] 26)).alloc (Obj.cells #[Value.bool t, Value.slice B m d, Value.slice B' m' d'] 26)).alloc (Obj.cells #[Value.bool false, Value.slice none 0 0, Value.slice none 0 0] 26)) = W
  have hb : Below w.heap.size w W := by subst hW; exact ((((Below.refl _ _).alloc (Nat.le_refl _) _).alloc (by simp) _).alloc (by simp; omega) _)
  have XA : B3 W (w.heap.size) (Value.bool s) (Value.slice A n c) (Value.slice A' n' c') := by subst hW; exact ((B3.new' _ _ _ _ _ rfl).alloc _).alloc _
  have XB : B3 W (w.heap.size + 1) (Value.bool t) (Value.slice B m d) (Value.slice B' m' d') := by subst hW; exact (B3.new' _ _ _ _ _ (by simp)).alloc _
  have Z : B3 W (w.heap.size + 1 + 1) (Value.bool false) (Value.slice none 0 0) (Value.slice none 0 0) := by subst hW; exact B3.new' _ _ _ _ _ (by simp)
  have hzW : W.heap.size = w.heap.size + 3 := by subst hW; simp
  clear hW
  replace X := X.below hb
  replace Q := Q.below hb
  replace Y := Y.below hb
  replace R := R.below hb
  have xa0 := XA.c0
  have xa1 := XA.c1
  have xa2 := XA.c2
  have xb0 := XB.c0
  have xb1 := XB.c1
  have xb2 := XB.c2
  go_wp2_with (first
      | (go_at_call 103; (with_reducible refine (rquot_q X Q Y R hk hkb h40 hk1 hk3).mono ?_); rintro e w_a ⟨s_x, A_x, n_x, c_x, s_y, A_y, n_y, c_y, rfl, x, y, hh⟩
         try replace X := X.below hh
         try replace Q := Q.below hh
         try replace Y := Y.below hh
         try replace R := R.below hh
         try replace r := r.below hh
         try replace XA := XA.below hh
         try replace XB := XB.below hh
         try replace Z := Z.below hh
         replace hb := bend hb hh)
      | (go_at_call 43; (with_reducible refine (make_zero y (by omega) HL0.out).mono ?_); rintro e w_r ⟨rfl, hh⟩
         try replace X := X.below hh
         try replace Q := Q.below hh
         try replace Y := Y.below hh
         try replace R := R.below hh
         try replace x := x.below hh
         try replace y := y.below hh
         try replace r := r.below hh
         try replace XA := XA.below hh
         try replace XB := XB.below hh
         try replace Z := Z.below hh
         replace hb := bend hb hh
         have zf0 := Z.f0
         have zf1 := Z.f1
         have zf2 := Z.f2
         have z0 := Z.c0
         have z1 := Z.c1
         have z2 := Z.c2))
  have Z2 := Z.set3 (.bool false) (.slice none 0 0) (.slice none 0 0)
  have g0 := Z2.c0
  have g1 := Z2.c1
  have g2 := Z2.c2
  refine bodyPost_ret (v := .tuple #[.agg #[.bool false, .slice none 0 0, .slice none 0 0], .int .i64 12]) (by simp [results, Tryz.results18, go_sem, g0, g1, g2]) rfl ?_
  exact ⟨rfl, below_set3 hb (by omega) _ _ _⟩
end Go.Proofs.YtlkjkhpjhllapaaGreat
namespace Go.Proofs.YtlkjkhpjhllapaaGreat
open Go.RowKit
theorem below_set2' {B g : Nat} {w W : World} (h : Below B w W) (hg : B ≤ g) (x y : Value) : Below B w ((W.setCell ⟨g, 0, none⟩ x).setCell ⟨g, 1, none⟩ y) := (h.setCell hg _).setCell hg _
end Go.Proofs.YtlkjkhpjhllapaaGreat
namespace Go.Proofs.YtlkjkhpjhllapaaGreat
open Go Go.RowKit
set_option maxRecDepth 100000 in
set_option maxHeartbeats 4000000 in
theorem rof_q (p q : Int) (hp1 : -9223372036854775808 ≤ p) (hp2 : p < 9223372036854775808) (hq1 : -9223372036854775808 ≤ q) (hq2 : q < 9223372036854775808) (hq0 : ((q : Int) == 0) = false) (w : World) :
    Calls Tryz.prog 42 #[.int .i64 p, .int .i64 q] w (GivesQ w (Rat.divInt p q) 1) := by
  have hq : q ≠ 0 := by simpa using hq0
  have HQ := Lib.hid hq
  have H1 := Lib.hid hp1
  have H2 := Lib.hid hp2
  have H3 := Lib.hid hq1
  have H4 := Lib.hid hq2
  clear hq hp1 hp2 hq1 hq2
  go_enter Tryz.func42, Tryz.ntmps42
  go_wp2_with fail
  generalize hW : (w.alloc (Obj.cells #[Value.bool false, Value.slice none 0 0, Value.slice none 0 0] 26)) = W
  have hb : Below w.heap.size w W := by subst hW; exact ((Below.refl _ _).alloc (Nat.le_refl _) _)
  have Z : B3 W (w.heap.size) (Value.bool false) (Value.slice none 0 0) (Value.slice none 0 0) := by subst hW; exact B3.new' _ _ _ _ _ rfl
  have hzW : W.heap.size = w.heap.size + 1 := by subst hW; simp
  clear hW
  go_upto_region 4 with (first
      | (go_at_call 45; (with_reducible refine (zof_zr p H1.out H2.out _).mono ?_); rintro e w_x ⟨s_x, A_x, n_x, c_x, rfl, x, hh⟩
         try replace y := y.below hh
         try replace r := r.below hh
         try replace Z := Z.below hh
         replace hb := bend hb hh)
      | (go_at_call 45; (with_reducible refine (zof_zr q H3.out H4.out _).mono ?_); rintro e w_y ⟨s_y, A_y, n_y, c_y, rfl, y, hh⟩
         try replace x := x.below hh
         try replace r := r.below hh
         try replace Z := Z.below hh
         replace hb := bend hb hh)
      | (go_at_call 43; (with_reducible refine (make_zr 1 x y (by omega) (by omega) HQ.out (Nat.le_refl _) (Nat.le_refl _)).mono ?_); rintro e w_r ⟨s_r, A_r, n_r, c_r, B_r, m_r, d_r, rfl, r, hh⟩
         try replace x := x.below hh
         try replace y := y.below hh
         try replace Z := Z.below hh
         replace hb := bend hb hh))
  generalize hW : (w_r.alloc (Obj.cells #[Value.bool s_r, Value.slice A_r n_r c_r, Value.slice B_r m_r d_r] 26)) = W2
  have hh : Below w_r.heap.size w_r W2 := by subst hW; exact ((Below.refl _ _).alloc (Nat.le_refl _) _)
  have R : B3 W2 (w_r.heap.size) (Value.bool s_r) (Value.slice A_r n_r c_r) (Value.slice B_r m_r d_r) := by subst hW; exact B3.new' _ _ _ _ _ rfl
  have hzW2 : W2.heap.size = w_r.heap.size + 1 := by subst hW; simp
  clear hW
  try replace r := r.below hh
  try replace Z := Z.below hh
  replace hb := bend hb hh
  have r0 := R.c0
  have r1 := R.c1
  have r2 := R.c2
  have zf0 := Z.f0
  have zf1 := Z.f1
  have zf2 := Z.f2
  have z0 := Z.c0
  have z1 := Z.c1
  have z2 := Z.c2
  go_wp2_with fail
  have Z2 := Z.set3 (.bool s_r) (.slice A_r n_r c_r) (.slice B_r m_r d_r)
  have g0 := Z2.c0
  have g1 := Z2.c1
  have g2 := Z2.c2
  refine bodyPost_ret (v := .agg #[.bool s_r, .slice A_r n_r c_r, .slice B_r m_r d_r]) (by simp [results, Tryz.results42, go_sem, g0, g1, g2]) rfl ?_
  exact ⟨s_r, A_r, n_r, c_r, B_r, m_r, d_r, rfl, r.set3 Z _ _ _, below_set3 hb (by omega) _ _ _⟩
theorem ba_app3 (a b : List UInt8) : ((⟨a.toArray⟩ ++ ⟨#[47]⟩) ++ ⟨b.toArray⟩ : ByteArray) = ⟨(a ++ (47 :: b)).toArray⟩ := by
  apply ByteArray.ext
  simp [ByteArray.data_append]
def qtxt (v : Rat) : List UInt8 := if v.den = 1 then ztxt v.num else ztxt v.num ++ (47 :: txt v.den)
theorem ztxt_le {v : Int} {k : Nat} (hv : v.natAbs < B64 ^ k) (hk : k ≤ 800) : (ztxt v).length ≤ 20001 := by
  have := txt_len hv (show k ≤ 900 by omega)
  unfold ztxt
  split
  · rw [List.length_cons]; omega
  · omega
theorem ZR.nab' {w : World} {s : Bool} {A : Option Addr} {n c k : Nat} {v : Int} (h : ZR w s A n c v k) : v.natAbs < B64 ^ k := by
  obtain ⟨l, h1, h2, h3, h4, h5, h6⟩ := h
  exact h6
theorem QG.num_lt {w : World} {s : Bool} {A A' : Option Addr} {n c n' c' k : Nat} {v : Rat} (h : QG w s A n c A' n' c' v k) : v.num.natAbs < B64 ^ k := h.1.zr.nab'
theorem QG.den_lt {w : World} {s : Bool} {A A' : Option Addr} {n c n' c' k : Nat} {v : Rat} (h : QG w s A n c A' n' c' v k) : v.den < B64 ^ k := h.2.nr.lt
set_option maxRecDepth 100000 in
set_option maxHeartbeats 4000000 in
theorem rtext_one {w : World} {s : Bool} {A A' : Option Addr} {n c n' c' k : Nat} {v : Rat} (X0 : QR w s A n c A' n' c' v k) (hk : k ≤ 78) (hk1 : 1 ≤ k) (hd : v.den = 1) :
    Calls Tryz.prog 40 #[.agg #[.bool s, .slice A n c, .slice A' n' c']] w fun e w' => e = .returned (.string ⟨(qtxt v).toArray⟩) ∧ Below w.heap.size w w' := by
  obtain ⟨p, q, X, Q, rfl⟩ := X0
  have HE : Hid (Rat.divInt p (den1 q : Int) = mkRat p (den1 q)) := Rat.divInt_ofNat _ _
  have HD : Hid (decide ((mkRat p (den1 q)).den = 1) = true) := decide_eq_true hd
  have HQ : Hid (qtxt (mkRat p (den1 q)) = ztxt (mkRat p (den1 q)).num) := if_pos hd
  clear hd
  go_enter Tryz.func40, Tryz.ntmps40
  go_wp2_with fail
  generalize hW : (w.alloc (Obj.cells #[Value.bool s, Value.slice A n c, Value.slice A' n' c'] 26)) = W
  have hb : Below w.heap.size w W := by subst hW; exact ((Below.refl _ _).alloc (Nat.le_refl _) _)
  have XA : B3 W (w.heap.size) (Value.bool s) (Value.slice A n c) (Value.slice A' n' c') := by subst hW; exact B3.new' _ _ _ _ _ rfl
  have hzW : W.heap.size = w.heap.size + 1 := by subst hW; simp
  clear hW
  replace X := X.below hb
  replace Q := Q.below hb
  have xa0 := XA.c0
  have xa1 := XA.c1
  have xa2 := XA.c2
  go_upto_region 2 with (first
      | (go_at_call 114; (with_reducible refine (parts_any X Q (by omega) hk1).mono ?_); rintro e w_p ⟨s_x, A_x, n_x, c_x, s_y, A_y, n_y, c_y, rfl, x, y, hh⟩
         try replace X := X.below hh
         try replace Q := Q.below hh
         try replace r := r.below hh
         try replace XA := XA.below hh
         replace hb := bend hb hh)
      | (go_at_call 109; (with_reducible refine (by_zr k x y (by omega) (by omega) (den1_i q) (Nat.le_refl _) (Nat.le_refl _)).mono ?_); rintro e w_r ⟨s_r, A_r, n_r, c_r, B_r, m_r, d_r, rfl, r, hh⟩
         rw [HE.out] at r
         try replace X := X.below hh
         try replace Q := Q.below hh
         try replace x := x.below hh
         try replace y := y.below hh
         try replace XA := XA.below hh
         replace hb := bend hb hh
         have zf0 := XA.f0
         have zf1 := XA.f1
         have zf2 := XA.f2
         have z0 := XA.c0
         have z1 := XA.c1
         have z2 := XA.c2))
  generalize hW : ((w_r.setCell ⟨w.heap.size, 0, none⟩ (.bool s_r)).setCell ⟨w.heap.size, 1, none⟩ (.slice A_r n_r c_r)).setCell ⟨w.heap.size, 2, none⟩ (.slice B_r m_r d_r) = W1
  replace r : QG W1 s_r A_r n_r c_r B_r m_r d_r (mkRat p (den1 q)) k := by subst hW; exact r.set3 XA _ _ _
  replace hb : Below w.heap.size w W1 := by subst hW; exact below_set3 hb (Nat.le_refl _) _ _ _
  have XA3 : B3 W1 w.heap.size (.bool s_r) (.slice A_r n_r c_r) (.slice B_r m_r d_r) := by subst hW; exact XA.set3 _ _ _
  clear hW XA
  have XA := XA3
  clear XA3
  have xa0 := XA.c0
  have xa1 := XA.c1
  have xa2 := XA.c2
  have HR2 := Lib.hid r.2.nr
  have r1 := r.1.zr
  go_wp2_with (first
      | (go_at_call 131; (with_reducible refine (isone_nr HR2.out (by omega)).mono ?_); rintro e w_o ⟨rfl, rfl⟩; rw [HD.out])
      | (go_at_call 95; (with_reducible refine (ztext_zr r1 (by omega)).mono ?_); rintro e w_z ⟨rfl, hh⟩
         try replace X := X.below hh
         try replace Q := Q.below hh
         try replace x := x.below hh
         try replace y := y.below hh
         try replace r := r.below hh
         try replace XA := XA.below hh
         replace hb := bend hb hh))
  go_ret
  rw [HQ.out]
  exact ⟨rfl, hb⟩
set_option maxRecDepth 100000 in
set_option maxHeartbeats 4000000 in
theorem rtext_frac {w : World} {s : Bool} {A A' : Option Addr} {n c n' c' k : Nat} {v : Rat} (X0 : QR w s A n c A' n' c' v k) (hk : k ≤ 78) (hk1 : 1 ≤ k) (hd : ¬ v.den = 1) :
    Calls Tryz.prog 40 #[.agg #[.bool s, .slice A n c, .slice A' n' c']] w fun e w' => e = .returned (.string ⟨(qtxt v).toArray⟩) ∧ Below w.heap.size w w' := by
  obtain ⟨p, q, X, Q, rfl⟩ := X0
  have HE : Hid (Rat.divInt p (den1 q : Int) = mkRat p (den1 q)) := Rat.divInt_ofNat _ _
  have HD : Hid (decide ((mkRat p (den1 q)).den = 1) = false) := decide_eq_false hd
  have HQ : Hid (qtxt (mkRat p (den1 q)) = ztxt (mkRat p (den1 q)).num ++ (47 :: txt (mkRat p (den1 q)).den)) := if_neg hd
  clear hd
  go_enter Tryz.func40, Tryz.ntmps40
  go_wp2_with fail
  generalize hW : (w.alloc (Obj.cells #[Value.bool s, Value.slice A n c, Value.slice A' n' c'] 26)) = W
  have hb : Below w.heap.size w W := by subst hW; exact ((Below.refl _ _).alloc (Nat.le_refl _) _)
  have XA : B3 W (w.heap.size) (Value.bool s) (Value.slice A n c) (Value.slice A' n' c') := by subst hW; exact B3.new' _ _ _ _ _ rfl
  have hzW : W.heap.size = w.heap.size + 1 := by subst hW; simp
  clear hW
  replace X := X.below hb
  replace Q := Q.below hb
  have xa0 := XA.c0
  have xa1 := XA.c1
  have xa2 := XA.c2
  go_upto_region 2 with (first
      | (go_at_call 114; (with_reducible refine (parts_any X Q (by omega) hk1).mono ?_); rintro e w_p ⟨s_x, A_x, n_x, c_x, s_y, A_y, n_y, c_y, rfl, x, y, hh⟩
         try replace X := X.below hh
         try replace Q := Q.below hh
         try replace r := r.below hh
         try replace XA := XA.below hh
         replace hb := bend hb hh)
      | (go_at_call 109; (with_reducible refine (by_zr k x y (by omega) (by omega) (den1_i q) (Nat.le_refl _) (Nat.le_refl _)).mono ?_); rintro e w_r ⟨s_r, A_r, n_r, c_r, B_r, m_r, d_r, rfl, r, hh⟩
         rw [HE.out] at r
         try replace X := X.below hh
         try replace Q := Q.below hh
         try replace x := x.below hh
         try replace y := y.below hh
         try replace XA := XA.below hh
         replace hb := bend hb hh
         have zf0 := XA.f0
         have zf1 := XA.f1
         have zf2 := XA.f2
         have z0 := XA.c0
         have z1 := XA.c1
         have z2 := XA.c2))
  generalize hW : ((w_r.setCell ⟨w.heap.size, 0, none⟩ (.bool s_r)).setCell ⟨w.heap.size, 1, none⟩ (.slice A_r n_r c_r)).setCell ⟨w.heap.size, 2, none⟩ (.slice B_r m_r d_r) = W1
  replace r : QG W1 s_r A_r n_r c_r B_r m_r d_r (mkRat p (den1 q)) k := by subst hW; exact r.set3 XA _ _ _
  replace hb : Below w.heap.size w W1 := by subst hW; exact below_set3 hb (Nat.le_refl _) _ _ _
  have XA3 : B3 W1 w.heap.size (.bool s_r) (.slice A_r n_r c_r) (.slice B_r m_r d_r) := by subst hW; exact XA.set3 _ _ _
  clear hW XA
  have XA := XA3
  clear XA3
  have xa0 := XA.c0
  have xa1 := XA.c1
  have xa2 := XA.c2
  have HR2 := Lib.hid r.2.nr
  have r1 := r.1.zr
  have l1 := ztxt_le r.num_lt (show k ≤ 800 by omega)
  have l2 := txt_len r.den_lt (show k ≤ 900 by omega)
  have hs1 : ¬ 9223372036854775807 < (ztxt (mkRat p (den1 q)).num).length + 1 := by omega
  have hs2 : ¬ 9223372036854775807 < (ztxt (mkRat p (den1 q)).num).length + 1 + (txt (mkRat p (den1 q)).den).length := by omega
  clear l1 l2
  go_upto_region 4 with (first
      | (go_at_call 131; (with_reducible refine (isone_nr HR2.out (by omega)).mono ?_); rintro e w_o ⟨rfl, rfl⟩; rw [HD.out]))
  replace r := r.below (Below.refl _ _).drew
  replace r1 := r1.below (Below.refl _ _).drew
  replace XA := XA.below (Below.refl _ _).drew
  have r2 := r.2.nr.more hk
  replace hb := hb.drew
  go_region_held3 (fun w' => w'.cell? ⟨w.heap.size, 0, none⟩ = some (.bool s_r) ∧ w'.cell? ⟨w.heap.size, 1, none⟩ = some (.slice A_r n_r c_r) ∧ w'.cell? ⟨w.heap.size, 2, none⟩ = some (.slice B_r m_r d_r))
    (first | with_reducible exact ⟨XA.c0, XA.c1, XA.c2⟩)
    (first
    | (go_at_call 95; (with_reducible refine (ztext_zr r1 (by omega)).mono ?_); rintro e w_z ⟨rfl, hh⟩
       try replace r := r.below hh
       try replace r2 := r2.below hh
       try replace XA := XA.below hh
       replace hb := bend hb hh)
    | (go_at_call 132; (with_reducible refine (text_nr r2).mono ?_); rintro e w_z ⟨rfl, hh⟩
       try replace r := r.below hh
       try replace XA := XA.below hh
       replace hb := bend hb hh))
  go_wp2_with fail
  go_ret
  refine ⟨?_, hb⟩
  rw [HQ.out]
  refine ret_eq ?_
  show Value.string ((⟨(ztxt (mkRat p (den1 q)).num).toArray⟩ ++ ⟨#[47]⟩) ++ ⟨(txt (mkRat p (den1 q)).den).toArray⟩) = _
  rw [ba_app3]
theorem rtext_q {w : World} {s : Bool} {A A' : Option Addr} {n c n' c' k : Nat} {v : Rat} (X0 : QR w s A n c A' n' c' v k) (hk : k ≤ 78) (hk1 : 1 ≤ k) :
    Calls Tryz.prog 40 #[.agg #[.bool s, .slice A n c, .slice A' n' c']] w fun e w' => e = .returned (.string ⟨(qtxt v).toArray⟩) ∧ Below w.heap.size w w' := by
  by_cases hd : v.den = 1
  · exact rtext_one X0 hk hk1 hd
  · exact rtext_frac X0 hk hk1 hd
set_option maxRecDepth 100000 in
set_option maxHeartbeats 4000000 in
theorem coprime_q {w : World} {s : Bool} {A B : Option Addr} {n c m d k q : Nat} {p : Int} (X : ZR w s A n c p k) (Y : NR w B m d q k) (hk : k ≤ 1000) :
    Calls Tryz.prog 121 #[.agg #[.bool s, .slice A n c], .slice B m d] w fun e w' => e = .returned (.bool (decide (Nat.gcd p.natAbs q = 1))) ∧ Below w.heap.size w w' := by
  go_enter Tryz.func121, Tryz.ntmps121
  go_wp2_with fail
  generalize hW : (w.alloc (Obj.cells #[Value.bool s, Value.slice A n c] 24)) = W
  have hb : Below w.heap.size w W := by subst hW; exact ((Below.refl _ _).alloc (Nat.le_refl _) _)
  have XA : Bx W (w.heap.size) (Value.bool s) (Value.slice A n c) := by subst hW; exact Bx.new' _ _ _ _ rfl
  have hzW : W.heap.size = w.heap.size + 1 := by subst hW; simp
  clear hW
  replace X := X.below hb
  replace Y := Y.below hb
  have xa0 := XA.c0
  have xa1 := XA.c1
  have X1 := X.nr
  go_wp2_with (first
      | (go_at_call 177; (with_reducible refine (gcd_nr X1 Y (by omega)).mono ?_); rintro e w_g ⟨A_g, n_g, c_g, rfl, g, hh⟩
         try replace XA := XA.below hh
         replace hb := bend hb hh)
      | (go_at_call 131; (with_reducible refine (isone_nr g.nr (by omega)).mono ?_); rintro e w_o ⟨rfl, rfl⟩))
  go_ret
  exact ⟨rfl, hb⟩
theorem goodZ_good {v : Int} : goodZ (decide (v < 0)) (limbs B64 v.natAbs) = true := by
  unfold goodZ goodB
  have h1 := limbs_last B64_two v.natAbs
  have h2 : (limbs B64 v.natAbs).length = 0 → v.natAbs = 0 := fun h => by
    have := limbs_val B64_two (lim_limbs B64_two v.natAbs) h1
    by_cases h0 : v.natAbs = 0
    · exact h0
    · rw [limbs_pos B64_two h0] at h; simp at h
  have h3 : ((limbs B64 v.natAbs).getLast? != some 0) = true := by simpa using h1
  rw [h3, Bool.true_and]
  by_cases h : v < 0
  · have : ¬ (limbs B64 v.natAbs).length = 0 := fun q => by have := h2 q; omega
    simp [h, this]
  · simp [h]
set_option maxRecDepth 100000 in
set_option maxHeartbeats 4000000 in
theorem rgood_q {w : World} {s : Bool} {A A' : Option Addr} {n c n' c' k : Nat} {v : Rat} (r : QG w s A n c A' n' c' v k) (hk : k ≤ 900) :
    Calls Tryz.prog 35 #[.agg #[.bool s, .slice A n c, .slice A' n' c']] w fun e w' => e = .returned (.bool true) ∧ Below w.heap.size w w' := by
  have hs : s = decide (v.num < 0) := r.1.1
  subst hs
  have HG : Hid (goodZ (decide (v.num < 0)) (limbs B64 v.num.natAbs) = true) := goodZ_good
  have HB : Hid (goodB (limbs B64 v.den) = true) := by show _ = true; unfold goodB; simpa using limbs_last B64_two v.den
  have HC : Hid (decide (Nat.gcd v.num.natAbs v.den = 1) = true) := decide_eq_true v.reduced
  have hpos : (0 : Int) < (n' : Int) := by have := r.2.pos v.den_nz; omega
  have HN1 : Hid (n ≤ maxLen) := by have := r.1.2.2.2; show n ≤ maxLen; unfold maxLen; omega
  have HN2 : Hid (n' ≤ maxLen) := by have := r.2.le; show n' ≤ maxLen; unfold maxLen; omega
  go_enter Tryz.func35, Tryz.ntmps35
  go_wp2_with fail
  generalize hW : (w.alloc (Obj.cells #[Value.bool (decide (v.num < 0)), Value.slice A n c, Value.slice A' n' c'] 26)) = W
  have hb : Below w.heap.size w W := by subst hW; exact ((Below.refl _ _).alloc (Nat.le_refl _) _)
  have XA : B3 W (w.heap.size) (Value.bool (decide (v.num < 0))) (Value.slice A n c) (Value.slice A' n' c') := by subst hW; exact B3.new' _ _ _ _ _ rfl
  have hzW : W.heap.size = w.heap.size + 1 := by subst hW; simp
  clear hW
  replace r := r.below hb
  have xa0 := XA.c0
  have xa1 := XA.c1
  have xa2 := XA.c2
  have r1 := r.1.2.1
  have r2 := r.2.rd
  have r3 := r.1.zr
  have r4 := r.2.nr
  go_wp2_with (first
      | (go_at_call 119; (with_reducible refine (zgood_any _ _ A n c _ r1 HN1.out).mono ?_); rintro e w_z ⟨rfl, hh⟩
         rw [HG.out]
         try replace X := X.below hh
         try replace r := r.below hh
         try replace r1 := r1.below hh
         try replace r2 := r2.below hh
         try replace r3 := r3.below hh
         try replace r4 := r4.below hh
         try replace XA := XA.below hh
         replace hb := bend hb hh
         have xa0 := XA.c0
         have xa1 := XA.c1
         have xa2 := XA.c2)
      | (go_at_call 120; (with_reducible refine (good_any _ A' n' c' _ r2 HN2.out).mono ?_); rintro e w_o ⟨rfl, rfl⟩; rw [HB.out])
      | (go_at_call 121; (with_reducible refine (coprime_q r3 r4 (by omega)).mono ?_); rintro e w_z ⟨rfl, hh⟩
         rw [HC.out]
         try replace X := X.below hh
         try replace r := r.below hh
         try replace r1 := r1.below hh
         try replace r2 := r2.below hh
         try replace r3 := r3.below hh
         try replace r4 := r4.below hh
         try replace XA := XA.below hh
         replace hb := bend hb hh
         have xa0 := XA.c0
         have xa1 := XA.c1
         have xa2 := XA.c2))
  go_ret
  exact ⟨rfl, hb⟩
end Go.Proofs.YtlkjkhpjhllapaaGreat
namespace Go.Proofs.YtlkjkhpjhllapaaGreat
open Go Go.RowKit
set_option maxHeartbeats 2000000 in
theorem lcut_hit (s : ByteArray) (i : Nat) (hi : Lib.indexByte s.data.toList 47 = (i : Int)) (hlt : i < s.size) (hm : s.size ≤ maxLen) (w : World) :
    Calls Tryz.prog 178 #[.string s, .string ⟨#[47]⟩] w fun e w' => e = .returned (.tuple #[.string (s.extract 0 i), .string (s.extract (i + 1) s.size), .bool true]) ∧ ∃ n, w' = w.drewN n := by
  unfold maxLen at hm
  have c1 : (0 : Int) ≤ (i : Int) := by omega
  have c2 : (i : Int) ≤ (s.size : Int) := by omega
  have c3 : (0 : Int) ≤ (i : Int) + 1 := by omega
  have c4 : (i : Int) + 1 ≤ (s.size : Int) := by omega
  have c5 : IntKind.i64.wrap ((i : Int) + 1) = (i : Int) + 1 := IntWalk.i64_in _ (by omega)
  have c6 : ((i : Int) + 1).toNat = i + 1 := by omega
  have HI := Lib.hid hi
  clear hi
  go_enter Tryz.func178, Tryz.ntmps178
  go_wp2_with (go_at_call 212; ((with_reducible refine (Tryz.stringslite_Index_one s 47 _).mono ?_); rintro e w' ⟨rfl, rfl⟩; rw [HI.out]))
  go_region
  go_wp2_with fail
  go_ret3
  exact ⟨rfl, 1, rfl⟩
theorem scut_hit (s : ByteArray) (i : Nat) (hi : Lib.indexByte s.data.toList 47 = (i : Int)) (hlt : i < s.size) (hm : s.size ≤ maxLen) (w : World) :
    Calls Tryz.prog 124 #[.string s, .string ⟨#[47]⟩] w fun e w' => e = .returned (.tuple #[.string (s.extract 0 i), .string (s.extract (i + 1) s.size), .bool true]) ∧ ∃ n, w' = w.drewN n := by
  go_enter Tryz.func124, Tryz.ntmps124
  go_wp2_with (go_at_call 178; ((with_reducible refine (lcut_hit s i hi hlt hm _).mono ?_); rintro e w' ⟨rfl, n, rfl⟩))
  go_ret3
  exact ⟨rfl, n, rfl⟩
set_option maxRecDepth 100000 in
set_option maxHeartbeats 4000000 in
theorem rparse_hit (s : ByteArray) (i k : Nat) (w : World) (hs : s.size ≤ 20000) (hi : Lib.indexByte s.data.toList 47 = (i : Int)) (hlt : i < s.size)
    (hz : zbad (s.extract 0 i).data.toList = false) (ht : isTextB (s.extract (i + 1) s.size).data.toList = true)
    (p : Int) (hp : zval (s.extract 0 i).data.toList = p) (hpk : p.natAbs < B64 ^ k)
    (q : Nat) (hq : dec (s.extract (i + 1) s.size).data.toList = q) (hqk : q < B64 ^ k) (hq2 : 2 ≤ q) (hg : Nat.gcd p.natAbs q = 1) (hs1 : (s.extract 0 i).size ≤ 20000) (hs2 : (s.extract (i + 1) s.size).size ≤ 20000) (hk : k ≤ 900) :
    Calls Tryz.prog 38 #[.string s] w (GivesQE w (mkRat p q) k) := by
  have hle : ¬ (20000 : Int) < (s.size : Int) := by omega
  have HM : Hid (s.size ≤ maxLen) := by show s.size ≤ maxLen; unfold maxLen; omega
  have HI := Lib.hid hi
  have HLT := Lib.hid hlt
  have HZ := Lib.hid hz
  have HT := Lib.hid ht
  have HP := Lib.hid hp
  have HPK := Lib.hid hpk
  have HQ := Lib.hid hq
  have HQK := Lib.hid hqk
  have HG : Hid (decide (Nat.gcd p.natAbs q = 1) = true) := decide_eq_true hg
  have HGG := Lib.hid hg
  have hbl : ¬ ((bl q : Nat) : Int) < 2 := by
    have h1 := bl_mono hq2
    rw [show bl 2 = 2 from bl_eq (k := 1) (by decide) (by decide)] at h1
    omega
  have HB := Lib.hid hbl
  have HQ0 : Hid (q ≠ 0) := by show q ≠ 0; omega
  have HS1 := Lib.hid hs1
  have HS2 := Lib.hid hs2
  obtain ⟨u1, hu1⟩ : ∃ u, s.extract 0 i = u := ⟨_, rfl⟩
  obtain ⟨u2, hu2⟩ : ∃ u, s.extract (i + 1) s.size = u := ⟨_, rfl⟩
  rw [hu1] at HZ HP HS1
  rw [hu2] at HT HQ HS2
  have HU1 := Lib.hid hu1
  have HU2 := Lib.hid hu2
  clear hs hi hlt hz ht hp hpk hq hqk hq2 hg hbl hs1 hs2 hu1 hu2
  go_enter Tryz.func38, Tryz.ntmps38
  go_wp2_with fail
  generalize hW : (w.alloc (Obj.cells #[Value.bool false, Value.slice none 0 0, Value.slice none 0 0] 26)) = W
  have hb : Below w.heap.size w W := by subst hW; exact ((Below.refl _ _).alloc (Nat.le_refl _) _)
  have Z : B3 W (w.heap.size) (Value.bool false) (Value.slice none 0 0) (Value.slice none 0 0) := by subst hW; exact B3.new' _ _ _ _ _ rfl
  have hzW : W.heap.size = w.heap.size + 1 := by subst hW; simp
  clear hW
  go_upto_region 5 with (first
      | (go_at_call 124; (with_reducible refine (scut_hit s i HI.out HLT.out HM.out _).mono ?_); rintro e w_c ⟨rfl, nn, rfl⟩
         rw [HU1.out, HU2.out]
         replace Z := Z.below (below_drawn (Below.refl _ _) nn)
         replace hb := below_drawn hb nn)
      | (go_at_call 125; (with_reducible refine (zparse_ok u1 _ HS1.out HZ.out k (by rw [HP.out]; exact HPK.out)).mono ?_); rintro e w_n ⟨A_x, n_x, c_x, rfl, x0, hxk, xr, hh⟩
         rw [HP.out] at x0 xr
         have x : ZG w_n (decide (p < 0)) A_x n_x c_x p k := ⟨rfl, xr, by obtain ⟨l, _, _, _, p4, _⟩ := x0; exact p4, hxk⟩
         clear x0 xr hxk
         rw [HP.out]
         replace Z := Z.below hh
         replace hb := bend hb hh))
  generalize hW : (w_n.alloc (Obj.cells #[Value.bool (decide (p < 0)), Value.slice A_x n_x c_x] 24)) = W2
  have hh : Below w_n.heap.size w_n W2 := by subst hW; exact ((Below.refl _ _).alloc (Nat.le_refl _) _)
  have XN : Bx W2 (w_n.heap.size) (Value.bool (decide (p < 0))) (Value.slice A_x n_x c_x) := by subst hW; exact Bx.new' _ _ _ _ rfl
  have hzW2 : W2.heap.size = w_n.heap.size + 1 := by subst hW; simp
  clear hW
  try replace x := x.below hh
  try replace Z := Z.below hh
  replace hb := bend hb hh
  have xn0 := XN.c0
  have xn1 := XN.c1
  have hbl := HB.out
  have xz := x.zr
  go_wp2_with (first
      | (go_at_call 127; (with_reducible refine (parse_nr u2 _ HS2.out HT.out).mono ?_); rintro e w_q ⟨B_y, m_y, d_y, rfl, y0, hh⟩
         rw [HQ.out] at y0
         have y := y0.tight HQK.out
         have yr := y.nr
         clear y0
         replace x := x.below hh
         replace xz := xz.below hh
         replace XN := XN.below hh
         replace Z := Z.below hh
         replace hb := bend hb hh
         have xn0 := XN.c0
         have xn1 := XN.c1)
      | (go_at_call 128; (with_reducible refine (bits_nr yr (by omega)).mono ?_); rintro e w_b ⟨rfl, rfl⟩)
      | (go_at_call 121; (with_reducible refine (coprime_q xz yr (by omega)).mono ?_); rintro e w_z ⟨rfl, hh⟩
         rw [HG.out]
         replace x := x.below hh
         replace y := y.below hh
         replace XN := XN.below hh
         replace Z := Z.below hh
         replace hb := bend hb hh
         have xn0 := XN.c0
         have xn1 := XN.c1
         have zf0 := Z.f0
         have zf1 := Z.f1
         have zf2 := Z.f2
         have z0 := Z.c0
         have z1 := Z.c1
         have z2 := Z.c2))
  have Z2 := Z.set3 (.bool (decide (p < 0))) (.slice A_x n_x c_x) (.slice B_y m_y d_y)
  have g0 := Z2.c0
  have g1 := Z2.c1
  have g2 := Z2.c2
  refine bodyPost_ret (v := .tuple #[.agg #[.bool (decide (p < 0)), .slice A_x n_x c_x, .slice B_y m_y d_y], .int .i64 0]) (by simp [results, Tryz.results38, go_sem, g0, g1, g2]) rfl ?_
  have hmk := mk_cond HQ0.out HGG.out
  have r : QG w_z (decide (p < 0)) A_x n_x c_x B_y m_y d_y (mkRat p q) k := ⟨by rw [hmk.1]; exact x, by rw [hmk.2]; exact y⟩
  exact ⟨_, A_x, n_x, c_x, B_y, m_y, d_y, rfl, r.set3 Z _ _ _, below_set3 hb (by omega) _ _ _⟩
end Go.Proofs.YtlkjkhpjhllapaaGreat
namespace Go.Proofs.YtlkjkhpjhllapaaGreat
open Go Go.RowKit
theorem run_storeR {e : Operand → Value} {x z : Operand} {d : Option Tmp} {y g : Nat} {pos : String} {af : Array Edge} {w : World} {s : Bool} {A : Option Addr} {n c : Nat} {u0 v0 : Value} (h : e x = .pointer (some ⟨g, 0, none⟩)) (hz : e z = .agg #[.bool s, .slice A n c]) (h0 : w.cell? ⟨g, 0, none⟩ = some u0) (h1 : w.cell? ⟨g, 1, none⟩ = some v0) (f0 : w.frozen? ⟨g, 0, none⟩ = false) (f1 : w.frozen? ⟨g, 1, none⟩ = false) :
    (execOp e { dst := d, op := Op.store 32 x z, type := y, pos := pos, after := af, guard := none }).run Tryz.prog w = .ok .skip ((w.setCell ⟨g, 0, none⟩ (.bool s)).setCell ⟨g, 1, none⟩ (.slice A n c)) := by
  go_simp
theorem run_allocR {e : Operand → Value} {d : Option Tmp} {y : Nat} {pos : String} {af : Array Edge} {w : World} :
    (execOp e { dst := d, op := Op.alloc 32, type := y, pos := pos, after := af, guard := none }).run Tryz.prog w = .ok (.value (.pointer (some ⟨w.heap.size, 0, none⟩))) (w.alloc (.cells #[.bool false, .slice none 0 0] 32)) := by
  go_simp
end Go.Proofs.YtlkjkhpjhllapaaGreat
namespace Go.Proofs.YtlkjkhpjhllapaaGreat
open Go Go.RowKit
theorem wpOp_plain {P : Program} {ops : Array Oper} {Q : Exit → Act → World → Prop} {i : Nat} {o : Oper} {K : Act → World → Prop} {a : Act} {w : World} (hi : ops[i]? = some o) (hg : Region.wanted o (yielded ops a.tmps) = true) (h : o.wp P a w K Q) : wpOp P ops Q i K a w := by
  unfold wpOp
  simp only [hi, hg, if_true]
  exact .inl h
theorem put_none (a : Act) (x : Value) : a.put none x = a := rfl
theorem eval_putAll_not {t : Nat} {v : Nat → Value} : ∀ (l : List Nat) (a : Act), t ∉ l → (putAll a l v).eval (.tmp t) = a.eval (.tmp t)
  | [], _, _ => rfl
  | d :: l, a, h => by
    rw [putAll, eval_putAll_not l _ (fun q => h (by simp [q]))]
    have hne : d ≠ t := fun q => h (by simp [q])
    simp [Act.eval, Act.put, Array.getD_eq_getD_getElem?, hne]
theorem eval_putAll_mem {t : Nat} {v : Nat → Value} : ∀ (l : List Nat) (a : Act), l.Nodup → t ∈ l → t < a.tmps.size → (putAll a l v).eval (.tmp t) = v t
  | [], _, _, h, _ => by cases h
  | d :: l, a, hn, h, hs => by
    have hn' := List.nodup_cons.1 hn
    rw [putAll]
    by_cases hd : d = t
    · subst hd
      rw [eval_putAll_not l _ hn'.1]
      simp [Act.eval, Act.put, hs]
    · have hm : t ∈ l := by
        cases h with
        | head => exact absurd rfl hd
        | tail _ h => exact h
      exact eval_putAll_mem l _ hn'.2 hm (by simpa [Act.put] using hs)
def IsG (w : World) (v : Value) (x : Int) (k : Nat) : Prop := ∃ s A n c, v = .agg #[.bool s, .slice A n c] ∧ RG w s A n c x k
def IsBox (w : World) (base : Nat) (p cont : Value) (full : Bool) : Prop := ∃ g s A n c, p = .pointer (some ⟨g, 0, none⟩) ∧ base ≤ g ∧ By w g (.bool s) (.slice A n c) ∧ (full = true → cont = .agg #[.bool s, .slice A n c])
theorem IsG.below {w w' : World} {v : Value} {x : Int} {k : Nat} (h : IsG w v x k) (hb : Below w.heap.size w w') : IsG w' v x k := by
  obtain ⟨s, A, n, c, h1, h2⟩ := h; exact ⟨s, A, n, c, h1, h2.below hb⟩
theorem IsBox.below {w w' : World} {base : Nat} {p cont : Value} {full : Bool} (h : IsBox w base p cont full) (hb : Below w.heap.size w w') : IsBox w' base p cont full := by
  obtain ⟨g, s, A, n, c, h1, h2, h3, h4⟩ := h; exact ⟨g, s, A, n, c, h1, h2, h3.below hb, h4⟩
theorem IsG.store {w : World} {v : Value} {x : Int} {k g n0 c0 : Nat} {s0 : Bool} {A0 : Option Addr} (h : IsG w v x k) (Z : By w g (.bool s0) (.slice A0 n0 c0)) (y z : Value) : IsG ((w.setCell ⟨g, 0, none⟩ y).setCell ⟨g, 1, none⟩ z) v x k := by
  obtain ⟨s, A, n, c, h1, h2⟩ := h; exact ⟨s, A, n, c, h1, h2.set2 Z y z⟩
theorem IsBox.other {w : World} {base g : Nat} {p cont : Value} {full : Bool} (h : IsBox w base p cont full) (hne : p ≠ .pointer (some ⟨g, 0, none⟩)) (y z : Value) : IsBox ((w.setCell ⟨g, 0, none⟩ y).setCell ⟨g, 1, none⟩ z) base p cont full := by
  obtain ⟨g', s, A, n, c, h1, h2, h3, h4⟩ := h
  refine ⟨g', s, A, n, c, h1, h2, h3.other (fun q => hne (by rw [h1, q])) y z, h4⟩
end Go.Proofs.YtlkjkhpjhllapaaGreat
namespace Go.Proofs.YtlkjkhpjhllapaaGreat
open Go.RowKit
theorem z_lit {V d : Nat} (h : 0 < d) (h2 : d < 10) (hV : V = d) : txt V = [UInt8.ofNat (48 + d)] := by
  subst hV
  rw [txt, if_neg (by omega), limbs_small (by omega) h2 (by omega)]
  rfl
end Go.Proofs.YtlkjkhpjhllapaaGreat
namespace Go.Proofs.YtlkjkhpjhllapaaGreat
open Go Go.RowKit
theorem run_loadQ {e : Operand → Value} {x : Operand} {d : Option Tmp} {y g : Nat} {pos : String} {af : Array Edge} {w : World} {u v z : Value} (h : e x = .pointer (some ⟨g, 0, none⟩)) (h0 : w.cell? ⟨g, 0, none⟩ = some u) (h1 : w.cell? ⟨g, 1, none⟩ = some v) (h2 : w.cell? ⟨g, 2, none⟩ = some z) :
    (execOp e { dst := d, op := Op.load 26 x, type := y, pos := pos, after := af, guard := none }).run Tryz.prog w = .ok (.value (.agg #[u, v, z])) w := by
  go_simp
theorem run_storeQ {e : Operand → Value} {x z : Operand} {d : Option Tmp} {y g : Nat} {pos : String} {af : Array Edge} {w : World} {s : Bool} {A B : Option Addr} {n c m k : Nat} {u0 v0 z0 : Value} (h : e x = .pointer (some ⟨g, 0, none⟩)) (hz : e z = .agg #[.bool s, .slice A n c, .slice B m k]) (h0 : w.cell? ⟨g, 0, none⟩ = some u0) (h1 : w.cell? ⟨g, 1, none⟩ = some v0) (h2 : w.cell? ⟨g, 2, none⟩ = some z0) (f0 : w.frozen? ⟨g, 0, none⟩ = false) (f1 : w.frozen? ⟨g, 1, none⟩ = false) (f2 : w.frozen? ⟨g, 2, none⟩ = false) :
    (execOp e { dst := d, op := Op.store 26 x z, type := y, pos := pos, after := af, guard := none }).run Tryz.prog w = .ok .skip (((w.setCell ⟨g, 0, none⟩ (.bool s)).setCell ⟨g, 1, none⟩ (.slice A n c)).setCell ⟨g, 2, none⟩ (.slice B m k)) := by
  go_simp
theorem run_allocQ {e : Operand → Value} {d : Option Tmp} {y : Nat} {pos : String} {af : Array Edge} {w : World} :
    (execOp e { dst := d, op := Op.alloc 26, type := y, pos := pos, after := af, guard := none }).run Tryz.prog w = .ok (.value (.pointer (some ⟨w.heap.size, 0, none⟩))) (w.alloc (.cells #[.bool false, .slice none 0 0, .slice none 0 0] 26)) := by
  go_simp
theorem run_move {e : Operand → Value} {x : Operand} {d : Option Tmp} {y : Nat} {pos : String} {af : Array Edge} {w : World} {u : Value} (h : e x = u) :
    (execOp e { dst := d, op := Op.move x, type := y, pos := pos, after := af, guard := none }).run Tryz.prog w = .ok (.value u) w := by
  subst h; go_simp
theorem run_assign {e : Operand → Value} {x : Operand} {d : Option Tmp} {y : Nat} {pos : String} {af : Array Edge} {w : World} {u : Value} (h : e x = u) :
    (execOp e { dst := d, op := Op.assign x, type := y, pos := pos, after := af, guard := none }).run Tryz.prog w = .ok (.value u) w := by
  subst h; go_simp
theorem run_ext0 {e : Operand → Value} {x : Operand} {d : Option Tmp} {y : Nat} {pos : String} {af : Array Edge} {w : World} {u v : Value} (h : e x = .tuple #[u, v]) :
    (execOp e { dst := d, op := Op.extract x 0, type := y, pos := pos, after := af, guard := none }).run Tryz.prog w = .ok (.value u) w := by
  go_simp
theorem run_ext1 {e : Operand → Value} {x : Operand} {d : Option Tmp} {y : Nat} {pos : String} {af : Array Edge} {w : World} {u v : Value} (h : e x = .tuple #[u, v]) :
    (execOp e { dst := d, op := Op.extract x 1, type := y, pos := pos, after := af, guard := none }).run Tryz.prog w = .ok (.value v) w := by
  go_simp
theorem run_callOf {e : Operand → Value} {d : Option Tmp} {y : Nat} {pos : String} {af : Array Edge} {w : World} {i j : Int} (h1 : e (.const (.int .i64 i)) = .int .i64 i) (h2 : e (.const (.int .i64 j)) = .int .i64 j) (h3 : e (.func 42) = .func (.func 42) #[] #[]) :
    (execOp e { dst := d, op := Op.call { callee := Callee.value (Operand.func 42), args := #[.const (.int .i64 i), .const (.int .i64 j)], argTypes := #[2, 2] }, type := y, pos := pos, after := af, guard := none }).run Tryz.prog w = .ok (.enter 42 #[.int .i64 i, .int .i64 j]) w := by
  go_simp
theorem run_callDiv {e : Operand → Value} {x z : Operand} {d : Option Tmp} {y : Nat} {pos : String} {af : Array Edge} {w : World} {u v : Value} (h1 : e x = u) (h2 : e z = v) (h3 : e (.func 18) = .func (.func 18) #[] #[]) :
    (execOp e { dst := d, op := Op.call { callee := Callee.value (Operand.func 18), args := #[x, z], argTypes := #[26, 26] }, type := y, pos := pos, after := af, guard := none }).run Tryz.prog w = .ok (.enter 18 #[u, v]) w := by
  go_simp
def IsQ (w : World) (v : Value) (x : Rat) (k : Nat) : Prop := ∃ s A n c A' n' c', v = .agg #[.bool s, .slice A n c, .slice A' n' c'] ∧ QG w s A n c A' n' c' x k
theorem IsQ.below {w w' : World} {v : Value} {x : Rat} {k : Nat} (h : IsQ w v x k) (hb : Below w.heap.size w w') : IsQ w' v x k := by
  obtain ⟨s, A, n, c, A', n', c', h1, h2⟩ := h; exact ⟨s, A, n, c, A', n', c', h1, h2.below hb⟩
def HasBox (w : World) (base : Nat) (p : Value) : Prop := ∃ g s A n c A' n' c', p = .pointer (some ⟨g, 0, none⟩) ∧ base ≤ g ∧ B3 w g (.bool s) (.slice A n c) (.slice A' n' c')
theorem HasBox.below {w w' : World} {b : Nat} {p : Value} (h : HasBox w b p) (hb : Below w.heap.size w w') : HasBox w' b p := by
  obtain ⟨g, s, A, n, c, A', n', c', h1, h2, h3⟩ := h; exact ⟨g, s, A, n, c, A', n', c', h1, h2, h3.below hb⟩
def ErrT : Value := .tuple #[.agg #[.bool false, .slice none 0 0, .slice none 0 0], .int .i64 12]
def JW (w : World) (V : Value) (D : Nat → Bool) (v : Nat → Value) (w' : World) : Prop :=
  Below w.heap.size w w' ∧ (D 0 = true → v 18 = V) ∧ (D 1 = true ∧ D 2 = false → IsQ w' (v 19) (Rat.divInt 0 1) 1) ∧ (D 2 = true → v 20 = ErrT) ∧ (D 3 = true → v 17 = ErrT) ∧
  (D 4 = true → v 21 = .agg #[.bool false, .slice none 0 0, .slice none 0 0]) ∧ (D 5 = true → v 22 = .int .i64 12) ∧ (D 6 = true → HasBox w' w.heap.size (v 5)) ∧ (D 8 = true → v 6 = .int .i64 12)
set_option maxRecDepth 100000 in
set_option maxHeartbeats 4000000 in
theorem wk_region {id : Nat} {a : Act} {w : World} {Q : Exit → Act → World → Prop} {g1 : Nat} {s : Bool} {A A' : Option Addr} {n c n' c' : Nat} {va : Rat}
    (hsz : 22 < a.tmps.size) (e1 : a.eval (.tmp 1) = .pointer (some ⟨g1, 0, none⟩)) (XA : B3 w g1 (.bool s) (.slice A n c) (.slice A' n' c')) (X : QR w s A n c A' n' c' va 1)
    (hend : ∀ (v : Nat → Value) (w' : World), v 6 = .int .i64 12 → Below w.heap.size w w' → Q .normal (putAll a [18, 19, 20, 17, 21, 22, 5, 6] v) w') :
    (Code.region id #[{ dst := some 18, op := Op.load 26 (Operand.tmp 1), type := 26, pos := "law.go:19", after := #[], guard := none },
      { dst := some 19, op := Op.call { callee := Callee.value (Operand.func 42), args := #[Operand.const (Value.int IntKind.i64 0), Operand.const (Value.int IntKind.i64 1)], argTypes := #[2, 2] }, type := 26, pos := "law.go:19", after := #[], guard := none },
      { dst := some 20, op := Op.call { callee := Callee.value (Operand.func 18), args := #[Operand.tmp 18, Operand.tmp 19], argTypes := #[26, 26] }, type := 38, pos := "law.go:19", after := #[{ on := 0, ground := Ground.data }, { on := 1, ground := Ground.data }, { on := 1, ground := Ground.chain }], guard := none },
      { dst := some 17, op := Op.move (Operand.tmp 20), type := 38, pos := "law.go:19", after := #[{ on := 2, ground := Ground.data }], guard := none },
      { dst := some 21, op := Op.extract (Operand.tmp 17) 0, type := 26, pos := "law.go:19", after := #[{ on := 3, ground := Ground.data }], guard := none },
      { dst := some 22, op := Op.extract (Operand.tmp 17) 1, type := 37, pos := "law.go:19", after := #[{ on := 3, ground := Ground.data }, { on := 7, ground := Ground.gcOnly Departure.lateStores }], guard := none },
      { dst := some 5, op := Op.alloc 26, type := 0, pos := "law.go:19", after := #[], guard := none },
      { dst := none, op := Op.store 26 (Operand.tmp 5) (Operand.tmp 21), type := 0, pos := "law.go:19", after := #[{ on := 6, ground := Ground.data }, { on := 4, ground := Ground.data }, { on := 2, ground := Ground.chain }, { on := 0, ground := Ground.phase }, { on := 1, ground := Ground.phase }, { on := 2, ground := Ground.phase }, { on := 3, ground := Ground.phase }, { on := 4, ground := Ground.phase }, { on := 5, ground := Ground.textOnly Departure.lateStores }, { on := 6, ground := Ground.phase }], guard := none },
      { dst := some 6, op := Op.assign (Operand.tmp 22), type := 37, pos := "law.go:19", after := #[{ on := 5, ground := Ground.data }, { on := 7, ground := Ground.chain }, { on := 0, ground := Ground.phase }, { on := 1, ground := Ground.phase }, { on := 2, ground := Ground.phase }, { on := 3, ground := Ground.phase }, { on := 4, ground := Ground.phase }, { on := 5, ground := Ground.phase }, { on := 6, ground := Ground.phase }, { on := 7, ground := Ground.phase }], guard := none }] true).wp Tryz.prog Q a w := by
  have hnd : [18, 19, 20, 17, 21, 22, 5, 6].Nodup := by decide
  refine wp_region_inv [18, 19, 20, 17, 21, 22, 5, 6] (JW w (.agg #[.bool s, .slice A n c, .slice A' n' c'])) rfl (by kernel_rfl) ?_ ?_ ?_ ?_
  · refine ⟨(Below.refl _ _).drew, ?_, ?_, ?_, ?_, ?_, ?_, ?_, ?_⟩ <;> intro h <;> first | (exact absurd h (by decide)) | (exact absurd h.1 (by decide))
  · intro D D' v w' hD h
    unfold JW at h ⊢
    rw [← hD 0 (by show 0 < 9; omega), ← hD 1 (by show 1 < 9; omega), ← hD 2 (by show 2 < 9; omega), ← hD 3 (by show 3 < 9; omega), ← hD 4 (by show 4 < 9; omega), ← hD 5 (by show 5 < 9; omega), ← hD 6 (by show 6 < 9; omega), ← hD 8 (by show 8 < 9; omega)]
    exact h
  · intro i o D v w' ho hDi hall hJ
    obtain ⟨J0, J1, J2, J3, J4, J5, J6, J7, J8⟩ := hJ
    have E1 := (eval_putAll_not (v := v) [18, 19, 20, 17, 21, 22, 5, 6] a (show 1 ∉ _ by decide)).trans e1
    have F : ∀ t, t ∈ [18, 19, 20, 17, 21, 22, 5, 6] → t ≤ 22 → (putAll a [18, 19, 20, 17, 21, 22, 5, 6] v).eval (.tmp t) = v t := fun t ht h => eval_putAll_mem (t := t) [18, 19, 20, 17, 21, 22, 5, 6] a hnd ht (Nat.lt_of_le_of_lt h hsz)
    have X' := X.below J0
    have XA' := XA.below J0
    match i, ho with
    | 0, ho =>
      have hall' : ∀ e ∈ ({ dst := some 18, op := Op.load 26 (Operand.tmp 1), type := 26, pos := "law.go:19", after := #[], guard := none } : Oper).after, Region.binds .any e = true → D e.on = true := by cases ho; exact hall
      refine wpOp_plain (o := { dst := some 18, op := Op.load 26 (Operand.tmp 1), type := 26, pos := "law.go:19", after := #[], guard := none }) rfl rfl ?_
      unfold Oper.wp
      rw [run_loadQ E1 XA'.c0 XA'.c1 XA'.c2, Oper.upon_value]
      have J2K : upd D 0 true 1 = true ∧ upd D 0 true 2 = false → IsQ w' (v 19) (Rat.divInt 0 1) 1 := fun h => J2 ⟨h.1, h.2⟩
      refine ⟨_, putAll_put _ _ _ _ _ hnd (by decide), J0, ?_, ?_, ?_, ?_, ?_, ?_, ?_, ?_⟩
      · exact fun _ => upd_same _ _ _
      · rw [upd_ne _ _ (by decide)]; exact J2K
      · rw [upd_ne _ _ (by decide)]; exact J3
      · rw [upd_ne _ _ (by decide)]; exact J4
      · rw [upd_ne _ _ (by decide)]; exact J5
      · rw [upd_ne _ _ (by decide)]; exact J6
      · rw [upd_ne _ _ (by decide)]; exact J7
      · rw [upd_ne _ _ (by decide)]; exact J8
    | 1, ho =>
      have hall' : ∀ e ∈ ({ dst := some 19, op := Op.call { callee := Callee.value (Operand.func 42), args := #[Operand.const (Value.int IntKind.i64 0), Operand.const (Value.int IntKind.i64 1)], argTypes := #[2, 2] }, type := 26, pos := "law.go:19", after := #[], guard := none } : Oper).after, Region.binds .any e = true → D e.on = true := by cases ho; exact hall
      refine wpOp_plain (o := { dst := some 19, op := Op.call { callee := Callee.value (Operand.func 42), args := #[Operand.const (Value.int IntKind.i64 0), Operand.const (Value.int IntKind.i64 1)], argTypes := #[2, 2] }, type := 26, pos := "law.go:19", after := #[], guard := none }) rfl rfl ?_
      unfold Oper.wp
      rw [run_callOf rfl rfl rfl, Oper.upon_enter]
      refine (rof_q 0 1 (by decide) (by decide) (by decide) (by decide) (by decide) _).mono ?_
      rintro e w1 ⟨s1, A1, n1, c1, B1, m1, d1, rfl, hg, hb⟩
      refine ⟨_, putAll_put _ _ _ _ _ hnd (by decide), bend J0 hb, ?_, ?_, ?_, ?_, ?_, ?_, ?_, ?_⟩
      · rw [upd_ne _ _ (by decide)]; exact J1
      · intro _; rw [upd_same]; exact ⟨s1, A1, n1, c1, B1, m1, d1, rfl, hg⟩
      · rw [upd_ne _ _ (by decide)]; exact J3
      · rw [upd_ne _ _ (by decide)]; exact J4
      · rw [upd_ne _ _ (by decide)]; exact J5
      · rw [upd_ne _ _ (by decide)]; exact J6
      · rw [upd_ne _ _ (by decide)]; exact fun h => (J7 h).below hb
      · rw [upd_ne _ _ (by decide)]; exact J8
    | 2, ho =>
      have hall' : ∀ e ∈ ({ dst := some 20, op := Op.call { callee := Callee.value (Operand.func 18), args := #[Operand.tmp 18, Operand.tmp 19], argTypes := #[26, 26] }, type := 38, pos := "law.go:19", after := #[{ on := 0, ground := Ground.data }, { on := 1, ground := Ground.data }, { on := 1, ground := Ground.chain }], guard := none } : Oper).after, Region.binds .any e = true → D e.on = true := by cases ho; exact hall
      refine wpOp_plain (o := { dst := some 20, op := Op.call { callee := Callee.value (Operand.func 18), args := #[Operand.tmp 18, Operand.tmp 19], argTypes := #[26, 26] }, type := 38, pos := "law.go:19", after := #[{ on := 0, ground := Ground.data }, { on := 1, ground := Ground.data }, { on := 1, ground := Ground.chain }], guard := none }) rfl rfl ?_
      unfold Oper.wp
      have h0 := J1 (hall' { on := 0, ground := Ground.data } (by simp) rfl)
      obtain ⟨s1, A1, n1, c1, B1, m1, d1, u1, u2⟩ := J2 ⟨hall' { on := 1, ground := Ground.data } (by simp) rfl, hDi⟩
      rw [run_callDiv ((F 18 (by decide) (by decide)).trans h0) ((F 19 (by decide) (by decide)).trans u1) rfl, Oper.upon_enter]
      refine (rdiv_zero X' u2.qr (by decide) (by decide) (by decide) (by decide) (by decide) (by decide +kernel)).mono ?_
      rintro e w1 ⟨rfl, hb⟩
      refine ⟨_, putAll_put _ _ _ _ _ hnd (by decide), bend J0 hb, ?_, ?_, ?_, ?_, ?_, ?_, ?_, ?_⟩
      · rw [upd_ne _ _ (by decide)]; exact J1
      · exact fun h => absurd h.2 (by rw [upd_same]; decide)
      · exact fun _ => upd_same _ _ _
      · rw [upd_ne _ _ (by decide)]; exact J4
      · rw [upd_ne _ _ (by decide)]; exact J5
      · rw [upd_ne _ _ (by decide)]; exact J6
      · rw [upd_ne _ _ (by decide)]; exact fun h => (J7 h).below hb
      · rw [upd_ne _ _ (by decide)]; exact J8
    | 3, ho =>
      have hall' : ∀ e ∈ ({ dst := some 17, op := Op.move (Operand.tmp 20), type := 38, pos := "law.go:19", after := #[{ on := 2, ground := Ground.data }], guard := none } : Oper).after, Region.binds .any e = true → D e.on = true := by cases ho; exact hall
      refine wpOp_plain (o := { dst := some 17, op := Op.move (Operand.tmp 20), type := 38, pos := "law.go:19", after := #[{ on := 2, ground := Ground.data }], guard := none }) rfl rfl ?_
      unfold Oper.wp
      have h0 := J3 (hall' { on := 2, ground := Ground.data } (by simp) rfl)
      rw [run_move ((F 20 (by decide) (by decide)).trans h0), Oper.upon_value]
      have J2K : upd D 3 true 1 = true ∧ upd D 3 true 2 = false → IsQ w' (v 19) (Rat.divInt 0 1) 1 := fun h => J2 ⟨h.1, h.2⟩
      refine ⟨_, putAll_put _ _ _ _ _ hnd (by decide), J0, ?_, ?_, ?_, ?_, ?_, ?_, ?_, ?_⟩
      · rw [upd_ne _ _ (by decide)]; exact J1
      · rw [upd_ne _ _ (by decide)]; exact J2K
      · rw [upd_ne _ _ (by decide)]; exact J3
      · exact fun _ => upd_same _ _ _
      · rw [upd_ne _ _ (by decide)]; exact J5
      · rw [upd_ne _ _ (by decide)]; exact J6
      · rw [upd_ne _ _ (by decide)]; exact J7
      · rw [upd_ne _ _ (by decide)]; exact J8
    | 4, ho =>
      have hall' : ∀ e ∈ ({ dst := some 21, op := Op.extract (Operand.tmp 17) 0, type := 26, pos := "law.go:19", after := #[{ on := 3, ground := Ground.data }], guard := none } : Oper).after, Region.binds .any e = true → D e.on = true := by cases ho; exact hall
      refine wpOp_plain (o := { dst := some 21, op := Op.extract (Operand.tmp 17) 0, type := 26, pos := "law.go:19", after := #[{ on := 3, ground := Ground.data }], guard := none }) rfl rfl ?_
      unfold Oper.wp
      have h0 := J4 (hall' { on := 3, ground := Ground.data } (by simp) rfl)
      rw [run_ext0 ((F 17 (by decide) (by decide)).trans h0), Oper.upon_value]
      have J2K : upd D 4 true 1 = true ∧ upd D 4 true 2 = false → IsQ w' (v 19) (Rat.divInt 0 1) 1 := fun h => J2 ⟨h.1, h.2⟩
      refine ⟨_, putAll_put _ _ _ _ _ hnd (by decide), J0, ?_, ?_, ?_, ?_, ?_, ?_, ?_, ?_⟩
      · rw [upd_ne _ _ (by decide)]; exact J1
      · rw [upd_ne _ _ (by decide)]; exact J2K
      · rw [upd_ne _ _ (by decide)]; exact J3
      · rw [upd_ne _ _ (by decide)]; exact J4
      · exact fun _ => upd_same _ _ _
      · rw [upd_ne _ _ (by decide)]; exact J6
      · rw [upd_ne _ _ (by decide)]; exact J7
      · rw [upd_ne _ _ (by decide)]; exact J8
    | 5, ho =>
      have hall' : ∀ e ∈ ({ dst := some 22, op := Op.extract (Operand.tmp 17) 1, type := 37, pos := "law.go:19", after := #[{ on := 3, ground := Ground.data }, { on := 7, ground := Ground.gcOnly Departure.lateStores }], guard := none } : Oper).after, Region.binds .any e = true → D e.on = true := by cases ho; exact hall
      refine wpOp_plain (o := { dst := some 22, op := Op.extract (Operand.tmp 17) 1, type := 37, pos := "law.go:19", after := #[{ on := 3, ground := Ground.data }, { on := 7, ground := Ground.gcOnly Departure.lateStores }], guard := none }) rfl rfl ?_
      unfold Oper.wp
      have h0 := J4 (hall' { on := 3, ground := Ground.data } (by simp) rfl)
      rw [run_ext1 ((F 17 (by decide) (by decide)).trans h0), Oper.upon_value]
      have J2K : upd D 5 true 1 = true ∧ upd D 5 true 2 = false → IsQ w' (v 19) (Rat.divInt 0 1) 1 := fun h => J2 ⟨h.1, h.2⟩
      refine ⟨_, putAll_put _ _ _ _ _ hnd (by decide), J0, ?_, ?_, ?_, ?_, ?_, ?_, ?_, ?_⟩
      · rw [upd_ne _ _ (by decide)]; exact J1
      · rw [upd_ne _ _ (by decide)]; exact J2K
      · rw [upd_ne _ _ (by decide)]; exact J3
      · rw [upd_ne _ _ (by decide)]; exact J4
      · rw [upd_ne _ _ (by decide)]; exact J5
      · exact fun _ => upd_same _ _ _
      · rw [upd_ne _ _ (by decide)]; exact J7
      · rw [upd_ne _ _ (by decide)]; exact J8
    | 6, ho =>
      have hall' : ∀ e ∈ ({ dst := some 5, op := Op.alloc 26, type := 0, pos := "law.go:19", after := #[], guard := none } : Oper).after, Region.binds .any e = true → D e.on = true := by cases ho; exact hall
      refine wpOp_plain (o := { dst := some 5, op := Op.alloc 26, type := 0, pos := "law.go:19", after := #[], guard := none }) rfl rfl ?_
      unfold Oper.wp
      rw [run_allocQ, Oper.upon_value]
      have hb := (Below.refl w'.heap.size w').alloc (Nat.le_refl _) (.cells #[.bool false, .slice none 0 0, .slice none 0 0] 26)
      refine ⟨_, putAll_put _ _ _ _ _ hnd (by decide), bend J0 hb, ?_, ?_, ?_, ?_, ?_, ?_, ?_, ?_⟩
      · rw [upd_ne _ _ (by decide)]; exact J1
      · rw [upd_ne _ _ (by decide)]; exact fun h => (J2 ⟨h.1, h.2⟩).below hb
      · rw [upd_ne _ _ (by decide)]; exact J3
      · rw [upd_ne _ _ (by decide)]; exact J4
      · rw [upd_ne _ _ (by decide)]; exact J5
      · rw [upd_ne _ _ (by decide)]; exact J6
      · intro _; rw [upd_same]; exact ⟨_, _, _, _, _, _, _, _, rfl, J0.size, B3.new' w' _ _ _ _ rfl⟩
      · rw [upd_ne _ _ (by decide)]; exact J8
    | 7, ho =>
      have hall' : ∀ e ∈ ({ dst := none, op := Op.store 26 (Operand.tmp 5) (Operand.tmp 21), type := 0, pos := "law.go:19", after := #[{ on := 6, ground := Ground.data }, { on := 4, ground := Ground.data }, { on := 2, ground := Ground.chain }, { on := 0, ground := Ground.phase }, { on := 1, ground := Ground.phase }, { on := 2, ground := Ground.phase }, { on := 3, ground := Ground.phase }, { on := 4, ground := Ground.phase }, { on := 5, ground := Ground.textOnly Departure.lateStores }, { on := 6, ground := Ground.phase }], guard := none } : Oper).after, Region.binds .any e = true → D e.on = true := by cases ho; exact hall
      obtain ⟨g, s0, A0, n0, c0, B0, m0, d0, p1, p2, p3⟩ := J7 (hall' { on := 6, ground := Ground.data } (by simp) rfl)
      have h0 := J5 (hall' { on := 4, ground := Ground.data } (by simp) rfl)
      refine wpOp_plain (o := { dst := none, op := Op.store 26 (Operand.tmp 5) (Operand.tmp 21), type := 0, pos := "law.go:19", after := #[{ on := 6, ground := Ground.data }, { on := 4, ground := Ground.data }, { on := 2, ground := Ground.chain }, { on := 0, ground := Ground.phase }, { on := 1, ground := Ground.phase }, { on := 2, ground := Ground.phase }, { on := 3, ground := Ground.phase }, { on := 4, ground := Ground.phase }, { on := 5, ground := Ground.textOnly Departure.lateStores }, { on := 6, ground := Ground.phase }], guard := none }) rfl rfl ?_
      unfold Oper.wp
      rw [run_storeQ ((F 5 (by decide) (by decide)).trans p1) ((F 21 (by decide) (by decide)).trans h0) p3.c0 p3.c1 p3.c2 p3.f0 p3.f1 p3.f2, Oper.upon_skip]
      have D0 : upd D 7 true 0 = D 0 := rfl
      have D1 : upd D 7 true 1 = D 1 := rfl
      have D2 : upd D 7 true 2 = D 2 := rfl
      have D3 : upd D 7 true 3 = D 3 := rfl
      have D4 : upd D 7 true 4 = D 4 := rfl
      have D5 : upd D 7 true 5 = D 5 := rfl
      have D6 : upd D 7 true 6 = D 6 := rfl
      have D8 : upd D 7 true 8 = D 8 := rfl
      refine ⟨v, put_none _ _, ?_⟩
      unfold JW
      rw [D0, D1, D2, D3, D4, D5, D6, D8]
      refine ⟨below_set3 J0 p2 _ _ _, J1, ?_, J3, J4, J5, J6, ?_, J8⟩
      · intro h
        obtain ⟨s1, A1, n1, c1, B1, m1, d1, u1, u2⟩ := J2 ⟨h.1, h.2⟩
        exact ⟨s1, A1, n1, c1, B1, m1, d1, u1, u2.set3 p3 _ _ _⟩
      · intro _; exact ⟨g, _, _, _, _, _, _, _, p1, p2, p3.set3 _ _ _⟩
    | 8, ho =>
      have hall' : ∀ e ∈ ({ dst := some 6, op := Op.assign (Operand.tmp 22), type := 37, pos := "law.go:19", after := #[{ on := 5, ground := Ground.data }, { on := 7, ground := Ground.chain }, { on := 0, ground := Ground.phase }, { on := 1, ground := Ground.phase }, { on := 2, ground := Ground.phase }, { on := 3, ground := Ground.phase }, { on := 4, ground := Ground.phase }, { on := 5, ground := Ground.phase }, { on := 6, ground := Ground.phase }, { on := 7, ground := Ground.phase }], guard := none } : Oper).after, Region.binds .any e = true → D e.on = true := by cases ho; exact hall
      refine wpOp_plain (o := { dst := some 6, op := Op.assign (Operand.tmp 22), type := 37, pos := "law.go:19", after := #[{ on := 5, ground := Ground.data }, { on := 7, ground := Ground.chain }, { on := 0, ground := Ground.phase }, { on := 1, ground := Ground.phase }, { on := 2, ground := Ground.phase }, { on := 3, ground := Ground.phase }, { on := 4, ground := Ground.phase }, { on := 5, ground := Ground.phase }, { on := 6, ground := Ground.phase }, { on := 7, ground := Ground.phase }], guard := none }) rfl rfl ?_
      unfold Oper.wp
      have h0 := J6 (hall' { on := 5, ground := Ground.data } (by simp) rfl)
      rw [run_assign ((F 22 (by decide) (by decide)).trans h0), Oper.upon_value]
      have J2K : upd D 8 true 1 = true ∧ upd D 8 true 2 = false → IsQ w' (v 19) (Rat.divInt 0 1) 1 := fun h => J2 ⟨h.1, h.2⟩
      refine ⟨_, putAll_put _ _ _ _ _ hnd (by decide), J0, ?_, ?_, ?_, ?_, ?_, ?_, ?_, ?_⟩
      · rw [upd_ne _ _ (by decide)]; exact J1
      · rw [upd_ne _ _ (by decide)]; exact J2K
      · rw [upd_ne _ _ (by decide)]; exact J3
      · rw [upd_ne _ _ (by decide)]; exact J4
      · rw [upd_ne _ _ (by decide)]; exact J5
      · rw [upd_ne _ _ (by decide)]; exact J6
      · rw [upd_ne _ _ (by decide)]; exact J7
      · exact fun _ => upd_same _ _ _
    | i + 9, ho => cases ho
  · intro D v w' hall hJ
    exact hend v w' (hJ.2.2.2.2.2.2.2.2 (hall 8 (by show 8 < 9; omega))) hJ.1
end Go.Proofs.YtlkjkhpjhllapaaGreat
