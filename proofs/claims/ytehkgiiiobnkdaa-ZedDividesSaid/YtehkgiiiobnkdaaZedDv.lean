/- The law ZedDivides: the quotient, cut downward, and the rest, of any two numbers, or that there is none. -/
import Derived.Test.YtehkgiiiobnkdaaTwoIn
import Derived.Deep.CutRange
import Derived.Deep.Cut
import Derived.Test.YtehkgiiiobnkdaaZedH
namespace Go.Proofs.Ytehkgiiiobnkdaa
open Go.RowKit

set_option maxRecDepth 100000 in
set_option maxHeartbeats 4000000 in
theorem zdiv_zero (s t : Bool) (v u : Int) (A B : Option Addr) (n c' m d : Nat) (w : World) (a : ZR w s A n c' v 40) (b : ZR w t B m d u 40) (hn : n ≤ 40) (hm : m ≤ 40) (hx : u = 0) :
    Calls Try.prog 4 #[.agg #[.bool s, .slice A n c'], .agg #[.bool t, .slice B m d]] w fun e w' => e = .returned (.bool true) ∧ Below w.heap.size w w' := by
    have HL1 : Hid (decide (40 < n) = false) := decide_eq_false (by omega)
    have HL2 : Hid (decide (40 < m) = false) := decide_eq_false (by omega)
    have HX := Lib.hid hx
    have HS : Hid (sgn u = 0) := by show _ = _; rw [hx]; rfl
    clear hx
    go_enter Try.func4, Try.ntmps4
    go_wp2_with fail
    generalize hW : (w.alloc (Obj.cells #[Value.bool s, Value.slice A n c'] 24)).alloc (Obj.cells #[Value.bool t, Value.slice B m d] 24) = W
    have hb : Below w.heap.size w W := by subst hW; exact ((Below.refl _ _).alloc (Nat.le_refl _) _).alloc (by simp) _
    have XA : Bx W w.heap.size (.bool s) (.slice A n c') := by subst hW; exact (Bx.new w _ _).alloc _
    have XB : Bx W (w.heap.size + 1) (.bool t) (.slice B m d) := by subst hW; exact Bx.new' _ _ _ _ (by simp)
    clear hW
    replace a := a.below hb
    replace b := b.below hb
    have xa0 := XA.c0
    have xa1 := XA.c1
    have xb0 := XB.c0
    have xb1 := XB.c1
    go_upto_region 3 with (first
      | (go_at_call 8; (refine (large_any s A n c' _).mono ?_); rintro e w_z ⟨rfl, hh⟩
         rw [HL1.out]
         try replace a := a.below hh
         try replace b := b.below hh
         try replace x := x.below hh
         try replace y := y.below hh
         try replace q := q.below hh
         try replace r := r.below hh
         try replace qq := qq.below hh
         try replace rr := rr.below hh
         try replace XA := XA.below hh
         try replace XB := XB.below hh
         try replace XX := XX.below hh
         try replace XY := XY.below hh
         try replace XQ := XQ.below hh
         try replace XR := XR.below hh
         try replace T := T.below hh
         replace hb := bend hb hh
         have xa0 := XA.c0
         have xa1 := XA.c1
         have xb0 := XB.c0
         have xb1 := XB.c1)
      | (go_at_call 8; (refine (large_any t B m d _).mono ?_); rintro e w_0 ⟨rfl, hh⟩
         rw [HL2.out]
         try replace a := a.below hh
         try replace b := b.below hh
         try replace x := x.below hh
         try replace y := y.below hh
         try replace q := q.below hh
         try replace r := r.below hh
         try replace qq := qq.below hh
         try replace rr := rr.below hh
         try replace XA := XA.below hh
         try replace XB := XB.below hh
         try replace XX := XX.below hh
         try replace XY := XY.below hh
         try replace XQ := XQ.below hh
         try replace XR := XR.below hh
         try replace T := T.below hh
         replace hb := bend hb hh
         have xa0 := XA.c0
         have xa1 := XA.c1
         have xb0 := XB.c0
         have xb1 := XB.c1))
    refine two_in2 2 3 18 19 20 21 5 6 (by decide) (by decide) (by decide) (by simp) rfl rfl XA XB a b (by omega) (by omega) ?_
    intro V w_x ga gb s_x A_x n_x c_x s_y A_y n_y c_y hv1 hv2 XX XY x y hh
    simp only [putAll, Act.put, List.setIfInBounds_toArray, List.set_cons_zero, List.set_cons_succ, hv1, hv2]
    clear hv1 hv2
    try replace a := a.below hh
    try replace b := b.below hh
    try replace q := q.below hh
    try replace r := r.below hh
    try replace qq := qq.below hh
    try replace rr := rr.below hh
    try replace XA := XA.below hh
    try replace XB := XB.below hh
    try replace XQ := XQ.below hh
    try replace XR := XR.below hh
    try replace T := T.below hh
    replace hb := bend hb hh
    have xa0 := XA.c0
    have xa1 := XA.c1
    have xb0 := XB.c0
    have xb1 := XB.c1
    have xx0 := XX.c0
    have xx1 := XX.c1
    have xy0 := XY.c0
    have xy1 := XY.c1
    go_upto_region 5 with (first
      | (go_at_call 28; (with_reducible refine (zdm_zero a b HX.out (by omega) (by omega)).mono ?_); rintro e w_q ⟨rfl, hh⟩
         try replace a := a.below hh
         try replace b := b.below hh
         try replace x := x.below hh
         try replace y := y.below hh
         try replace q := q.below hh
         try replace r := r.below hh
         try replace qq := qq.below hh
         try replace rr := rr.below hh
         try replace XA := XA.below hh
         try replace XB := XB.below hh
         try replace XX := XX.below hh
         try replace XY := XY.below hh
         try replace XQ := XQ.below hh
         try replace XR := XR.below hh
         try replace T := T.below hh
         replace hb := bend hb hh
         have xa0 := XA.c0
         have xa1 := XA.c1
         have xb0 := XB.c0
         have xb1 := XB.c1
         have xx0 := XX.c0
         have xx1 := XX.c1
         have xy0 := XY.c0
         have xy1 := XY.c1))
    generalize hW2 : (w_q.alloc (Obj.cells #[Value.bool false, Value.slice none 0 0] 24)).alloc (Obj.cells #[Value.bool false, Value.slice none 0 0] 24) = W2
    have hh : Below w_q.heap.size w_q W2 := by subst hW2; exact ((Below.refl _ _).alloc (Nat.le_refl _) _).alloc (by simp) _
    have XQ : Bx W2 w_q.heap.size (Value.bool false) (Value.slice none 0 0) := by subst hW2; exact (Bx.new w_q _ _).alloc _
    have XR : Bx W2 (w_q.heap.size + 1) (Value.bool false) (Value.slice none 0 0) := by subst hW2; exact Bx.new' _ _ _ _ (by simp)
    clear hW2
    try replace a := a.below hh
    try replace b := b.below hh
    try replace x := x.below hh
    try replace y := y.below hh
    try replace q := q.below hh
    try replace r := r.below hh
    try replace qq := qq.below hh
    try replace rr := rr.below hh
    try replace XA := XA.below hh
    try replace XB := XB.below hh
    try replace XX := XX.below hh
    try replace XY := XY.below hh
    try replace T := T.below hh
    replace hb := bend hb hh
    have xa0 := XA.c0
    have xa1 := XA.c1
    have xb0 := XB.c0
    have xb1 := XB.c1
    have xx0 := XX.c0
    have xx1 := XX.c1
    have xy0 := XY.c0
    have xy1 := XY.c1
    have xq0 := XQ.c0
    have xq1 := XQ.c1
    have xr0 := XR.c0
    have xr1 := XR.c1
    go_wp2_with (first
      | (go_at_call 24; (with_reducible refine (rsign2 y.rz).mono ?_); rintro e w_z ⟨rfl, hh⟩
         rw [HS.out]
         try replace a := a.below hh
         try replace b := b.below hh
         try replace x := x.below hh
         try replace y := y.below hh
         try replace q := q.below hh
         try replace r := r.below hh
         try replace qq := qq.below hh
         try replace rr := rr.below hh
         try replace XA := XA.below hh
         try replace XB := XB.below hh
         try replace XX := XX.below hh
         try replace XY := XY.below hh
         try replace XQ := XQ.below hh
         try replace XR := XR.below hh
         try replace T := T.below hh
         replace hb := bend hb hh
         have xa0 := XA.c0
         have xa1 := XA.c1
         have xb0 := XB.c0
         have xb1 := XB.c1
         have xx0 := XX.c0
         have xx1 := XX.c1
         have xy0 := XY.c0
         have xy1 := XY.c1
         have xq0 := XQ.c0
         have xq1 := XQ.c1
         have xr0 := XR.c0
         have xr1 := XR.c1)
      | (go_at_call 9; (with_reducible refine (zwakes_any _).mono ?_); rintro e w_z ⟨rfl, hh⟩
         try replace a := a.below hh
         try replace b := b.below hh
         try replace x := x.below hh
         try replace y := y.below hh
         try replace q := q.below hh
         try replace r := r.below hh
         try replace qq := qq.below hh
         try replace rr := rr.below hh
         try replace XA := XA.below hh
         try replace XB := XB.below hh
         try replace XX := XX.below hh
         try replace XY := XY.below hh
         try replace XQ := XQ.below hh
         try replace XR := XR.below hh
         try replace T := T.below hh
         replace hb := bend hb hh
         have xa0 := XA.c0
         have xa1 := XA.c1
         have xb0 := XB.c0
         have xb1 := XB.c1
         have xx0 := XX.c0
         have xx1 := XX.c1
         have xy0 := XY.c0
         have xy1 := XY.c1
         have xq0 := XQ.c0
         have xq1 := XQ.c1
         have xr0 := XR.c0
         have xr1 := XR.c1))
    go_ret
    exact ⟨rfl, hb⟩

set_option maxRecDepth 100000 in
set_option maxHeartbeats 4000000 in
theorem zdiv_pos (s t : Bool) (v u : Int) (A B : Option Addr) (n c' m d : Nat) (w : World) (a : ZR w s A n c' v 40) (b : ZR w t B m d u 40) (hn : n ≤ 40) (hm : m ≤ 40) (hx : u ≠ 0) (K : Int) (hK : sgn u = K) (hK0 : ((K : Int) == 0) = false) :
    Calls Try.prog 4 #[.agg #[.bool s, .slice A n c'], .agg #[.bool t, .slice B m d]] w fun e w' => e = .returned (.bool true) ∧ Below w.heap.size w w' := by
    have HL1 : Hid (decide (40 < n) = false) := decide_eq_false (by omega)
    have HL2 : Hid (decide (40 < m) = false) := decide_eq_false (by omega)
    have HX := Lib.hid hx
    have HS := Lib.hid hK
    clear hx hK
    go_enter Try.func4, Try.ntmps4
    go_wp2_with fail
    generalize hW : (w.alloc (Obj.cells #[Value.bool s, Value.slice A n c'] 24)).alloc (Obj.cells #[Value.bool t, Value.slice B m d] 24) = W
    have hb : Below w.heap.size w W := by subst hW; exact ((Below.refl _ _).alloc (Nat.le_refl _) _).alloc (by simp) _
    have XA : Bx W w.heap.size (.bool s) (.slice A n c') := by subst hW; exact (Bx.new w _ _).alloc _
    have XB : Bx W (w.heap.size + 1) (.bool t) (.slice B m d) := by subst hW; exact Bx.new' _ _ _ _ (by simp)
    clear hW
    replace a := a.below hb
    replace b := b.below hb
    have xa0 := XA.c0
    have xa1 := XA.c1
    have xb0 := XB.c0
    have xb1 := XB.c1
    go_upto_region 3 with (first
      | (go_at_call 8; (refine (large_any s A n c' _).mono ?_); rintro e w_z ⟨rfl, hh⟩
         rw [HL1.out]
         try replace a := a.below hh
         try replace b := b.below hh
         try replace x := x.below hh
         try replace y := y.below hh
         try replace q := q.below hh
         try replace r := r.below hh
         try replace qq := qq.below hh
         try replace rr := rr.below hh
         try replace XA := XA.below hh
         try replace XB := XB.below hh
         try replace XX := XX.below hh
         try replace XY := XY.below hh
         try replace XQ := XQ.below hh
         try replace XR := XR.below hh
         try replace T := T.below hh
         replace hb := bend hb hh
         have xa0 := XA.c0
         have xa1 := XA.c1
         have xb0 := XB.c0
         have xb1 := XB.c1)
      | (go_at_call 8; (refine (large_any t B m d _).mono ?_); rintro e w_0 ⟨rfl, hh⟩
         rw [HL2.out]
         try replace a := a.below hh
         try replace b := b.below hh
         try replace x := x.below hh
         try replace y := y.below hh
         try replace q := q.below hh
         try replace r := r.below hh
         try replace qq := qq.below hh
         try replace rr := rr.below hh
         try replace XA := XA.below hh
         try replace XB := XB.below hh
         try replace XX := XX.below hh
         try replace XY := XY.below hh
         try replace XQ := XQ.below hh
         try replace XR := XR.below hh
         try replace T := T.below hh
         replace hb := bend hb hh
         have xa0 := XA.c0
         have xa1 := XA.c1
         have xb0 := XB.c0
         have xb1 := XB.c1))
    refine two_in2 2 3 18 19 20 21 5 6 (by decide) (by decide) (by decide) (by simp) rfl rfl XA XB a b (by omega) (by omega) ?_
    intro V w_x ga gb s_x A_x n_x c_x s_y A_y n_y c_y hv1 hv2 XX XY x y hh
    simp only [putAll, Act.put, List.setIfInBounds_toArray, List.set_cons_zero, List.set_cons_succ, hv1, hv2]
    clear hv1 hv2
    try replace a := a.below hh
    try replace b := b.below hh
    try replace q := q.below hh
    try replace r := r.below hh
    try replace qq := qq.below hh
    try replace rr := rr.below hh
    try replace XA := XA.below hh
    try replace XB := XB.below hh
    try replace XQ := XQ.below hh
    try replace XR := XR.below hh
    try replace T := T.below hh
    replace hb := bend hb hh
    have xa0 := XA.c0
    have xa1 := XA.c1
    have xb0 := XB.c0
    have xb1 := XB.c1
    have xx0 := XX.c0
    have xx1 := XX.c1
    have xy0 := XY.c0
    have xy1 := XY.c1
    go_upto_region 5 with (first
      | (go_at_call 28; (with_reducible refine (zdm_zg 41 a b HX.out (by omega) (by omega) (by omega) (by omega)).mono ?_); rintro e w_q ⟨s_q, A_q, n_q, c_q, s_r, A_r, n_r, c_r, rfl, q, r, hh⟩
         try replace a := a.below hh
         try replace b := b.below hh
         try replace x := x.below hh
         try replace y := y.below hh
         try replace qq := qq.below hh
         try replace rr := rr.below hh
         try replace XA := XA.below hh
         try replace XB := XB.below hh
         try replace XX := XX.below hh
         try replace XY := XY.below hh
         try replace XQ := XQ.below hh
         try replace XR := XR.below hh
         try replace T := T.below hh
         replace hb := bend hb hh
         have xa0 := XA.c0
         have xa1 := XA.c1
         have xb0 := XB.c0
         have xb1 := XB.c1
         have xx0 := XX.c0
         have xx1 := XX.c1
         have xy0 := XY.c0
         have xy1 := XY.c1))
    generalize hW2 : (w_q.alloc (Obj.cells #[Value.bool s_q, Value.slice A_q n_q c_q] 24)).alloc (Obj.cells #[Value.bool s_r, Value.slice A_r n_r c_r] 24) = W2
    have hh : Below w_q.heap.size w_q W2 := by subst hW2; exact ((Below.refl _ _).alloc (Nat.le_refl _) _).alloc (by simp) _
    have XQ : Bx W2 w_q.heap.size (.bool s_q) (.slice A_q n_q c_q) := by subst hW2; exact (Bx.new w_q _ _).alloc _
    have XR : Bx W2 (w_q.heap.size + 1) (.bool s_r) (.slice A_r n_r c_r) := by subst hW2; exact Bx.new' _ _ _ _ (by simp)
    clear hW2
    try replace a := a.below hh
    try replace b := b.below hh
    try replace x := x.below hh
    try replace y := y.below hh
    try replace q := q.below hh
    try replace r := r.below hh
    try replace qq := qq.below hh
    try replace rr := rr.below hh
    try replace XA := XA.below hh
    try replace XB := XB.below hh
    try replace XX := XX.below hh
    try replace XY := XY.below hh
    try replace T := T.below hh
    replace hb := bend hb hh
    have xa0 := XA.c0
    have xa1 := XA.c1
    have xb0 := XB.c0
    have xb1 := XB.c1
    have xx0 := XX.c0
    have xx1 := XX.c1
    have xy0 := XY.c0
    have xy1 := XY.c1
    have xq0 := XQ.c0
    have xq1 := XQ.c1
    have xr0 := XR.c0
    have xr1 := XR.c1
    go_upto_region 8 with (first
      | (go_at_call 24; (with_reducible refine (rsign2 y.rz).mono ?_); rintro e w_z ⟨rfl, hh⟩
         rw [HS.out]
         try replace a := a.below hh
         try replace b := b.below hh
         try replace x := x.below hh
         try replace y := y.below hh
         try replace q := q.below hh
         try replace r := r.below hh
         try replace qq := qq.below hh
         try replace rr := rr.below hh
         try replace XA := XA.below hh
         try replace XB := XB.below hh
         try replace XX := XX.below hh
         try replace XY := XY.below hh
         try replace XQ := XQ.below hh
         try replace XR := XR.below hh
         try replace T := T.below hh
         replace hb := bend hb hh
         have xa0 := XA.c0
         have xa1 := XA.c1
         have xb0 := XB.c0
         have xb1 := XB.c1
         have xx0 := XX.c0
         have xx1 := XX.c1
         have xy0 := XY.c0
         have xy1 := XY.c1
         have xq0 := XQ.c0
         have xq1 := XQ.c1
         have xr0 := XR.c0
         have xr1 := XR.c1)
      | (go_at_call 29; (with_reducible refine (rdm2 x.rz y.rz HX.out (by omega) (by omega) (by omega)).mono ?_); rintro e w_t ⟨s_qq, A_qq, n_qq, c_qq, s_rr, A_rr, n_rr, c_rr, rfl, qq, rr, hh⟩
         try replace a := a.below hh
         try replace b := b.below hh
         try replace x := x.below hh
         try replace y := y.below hh
         try replace q := q.below hh
         try replace r := r.below hh
         try replace XA := XA.below hh
         try replace XB := XB.below hh
         try replace XX := XX.below hh
         try replace XY := XY.below hh
         try replace XQ := XQ.below hh
         try replace XR := XR.below hh
         try replace T := T.below hh
         replace hb := bend hb hh
         have xa0 := XA.c0
         have xa1 := XA.c1
         have xb0 := XB.c0
         have xb1 := XB.c1
         have xx0 := XX.c0
         have xx1 := XX.c1
         have xy0 := XY.c0
         have xy1 := XY.c1
         have xq0 := XQ.c0
         have xq1 := XQ.c1
         have xr0 := XR.c0
         have xr1 := XR.c1))
    generalize hW3 : w_t.alloc (Obj.cells #[Value.bool s_qq, Value.slice A_qq n_qq c_qq, Value.bool s_rr, Value.slice A_rr n_rr c_rr] 47) = W3
    have hh : Below w_t.heap.size w_t W3 := by subst hW3; exact (Below.refl _ _).alloc (Nat.le_refl _) _
    have T : B4 W3 w_t.heap.size (.bool s_qq) (.slice A_qq n_qq c_qq) (.bool s_rr) (.slice A_rr n_rr c_rr) := by subst hW3; exact B4.new' _ _ _ _ _ _ rfl
    clear hW3
    try replace a := a.below hh
    try replace b := b.below hh
    try replace x := x.below hh
    try replace y := y.below hh
    try replace q := q.below hh
    try replace r := r.below hh
    try replace qq := qq.below hh
    try replace rr := rr.below hh
    try replace XA := XA.below hh
    try replace XB := XB.below hh
    try replace XX := XX.below hh
    try replace XY := XY.below hh
    try replace XQ := XQ.below hh
    try replace XR := XR.below hh
    replace hb := bend hb hh
    have xa0 := XA.c0
    have xa1 := XA.c1
    have xb0 := XB.c0
    have xb1 := XB.c1
    have xx0 := XX.c0
    have xx1 := XX.c1
    have xy0 := XY.c0
    have xy1 := XY.c1
    have xq0 := XQ.c0
    have xq1 := XQ.c1
    have xr0 := XR.c0
    have xr1 := XR.c1
    have t0 := T.c0
    have t1 := T.c1
    have t2 := T.c2
    have t3 := T.c3
    go_wp2_with (first
      | (go_at_call 14; (with_reducible refine (same2 q qq (by omega) (by omega)).mono ?_); rintro e w_z ⟨rfl, hh⟩
         try replace a := a.below hh
         try replace b := b.below hh
         try replace x := x.below hh
         try replace y := y.below hh
         try replace q := q.below hh
         try replace r := r.below hh
         try replace qq := qq.below hh
         try replace rr := rr.below hh
         try replace XA := XA.below hh
         try replace XB := XB.below hh
         try replace XX := XX.below hh
         try replace XY := XY.below hh
         try replace XQ := XQ.below hh
         try replace XR := XR.below hh
         try replace T := T.below hh
         replace hb := bend hb hh
         have xa0 := XA.c0
         have xa1 := XA.c1
         have xb0 := XB.c0
         have xb1 := XB.c1
         have xx0 := XX.c0
         have xx1 := XX.c1
         have xy0 := XY.c0
         have xy1 := XY.c1
         have xq0 := XQ.c0
         have xq1 := XQ.c1
         have xr0 := XR.c0
         have xr1 := XR.c1
         have t0 := T.c0
         have t1 := T.c1
         have t2 := T.c2
         have t3 := T.c3)
      | (go_at_call 14; (with_reducible refine (same2 r rr (by omega) (by omega)).mono ?_); rintro e w_z ⟨rfl, hh⟩
         try replace a := a.below hh
         try replace b := b.below hh
         try replace x := x.below hh
         try replace y := y.below hh
         try replace q := q.below hh
         try replace r := r.below hh
         try replace qq := qq.below hh
         try replace rr := rr.below hh
         try replace XA := XA.below hh
         try replace XB := XB.below hh
         try replace XX := XX.below hh
         try replace XY := XY.below hh
         try replace XQ := XQ.below hh
         try replace XR := XR.below hh
         try replace T := T.below hh
         replace hb := bend hb hh
         have xa0 := XA.c0
         have xa1 := XA.c1
         have xb0 := XB.c0
         have xb1 := XB.c1
         have xx0 := XX.c0
         have xx1 := XX.c1
         have xy0 := XY.c0
         have xy1 := XY.c1
         have xq0 := XQ.c0
         have xq1 := XQ.c1
         have xr0 := XR.c0
         have xr1 := XR.c1
         have t0 := T.c0
         have t1 := T.c1
         have t2 := T.c2
         have t3 := T.c3)
      | (go_at_call 9; (with_reducible refine (zwakes_any _).mono ?_); rintro e w_z ⟨rfl, hh⟩
         try replace a := a.below hh
         try replace b := b.below hh
         try replace x := x.below hh
         try replace y := y.below hh
         try replace q := q.below hh
         try replace r := r.below hh
         try replace qq := qq.below hh
         try replace rr := rr.below hh
         try replace XA := XA.below hh
         try replace XB := XB.below hh
         try replace XX := XX.below hh
         try replace XY := XY.below hh
         try replace XQ := XQ.below hh
         try replace XR := XR.below hh
         try replace T := T.below hh
         replace hb := bend hb hh
         have xa0 := XA.c0
         have xa1 := XA.c1
         have xb0 := XB.c0
         have xb1 := XB.c1
         have xx0 := XX.c0
         have xx1 := XX.c1
         have xy0 := XY.c0
         have xy1 := XY.c1
         have xq0 := XQ.c0
         have xq1 := XQ.c1
         have xr0 := XR.c0
         have xr1 := XR.c1
         have t0 := T.c0
         have t1 := T.c1
         have t2 := T.c2
         have t3 := T.c3))
    go_ret
    exact ⟨rfl, hb⟩

set_option maxRecDepth 100000 in
set_option maxHeartbeats 4000000 in
theorem zdiv_large_a (s t : Bool) (A B : Option Addr) (n c' m d : Nat) (w : World) (hm : ¬ n ≤ 40) :
    Calls Try.prog 4 #[.agg #[.bool s, .slice A n c'], .agg #[.bool t, .slice B m d]] w fun e w' => e = .returned (.bool true) ∧ Below w.heap.size w w' := by
    have HL1 : Hid (decide (40 < n) = true) := decide_eq_true (by omega)
    clear hm
    go_enter Try.func4, Try.ntmps4
    go_wp2_with fail
    generalize hW : (w.alloc (Obj.cells #[Value.bool s, Value.slice A n c'] 24)).alloc (Obj.cells #[Value.bool t, Value.slice B m d] 24) = W
    have hb : Below w.heap.size w W := by subst hW; exact ((Below.refl _ _).alloc (Nat.le_refl _) _).alloc (by simp) _
    have XA : Bx W w.heap.size (.bool s) (.slice A n c') := by subst hW; exact (Bx.new w _ _).alloc _
    have XB : Bx W (w.heap.size + 1) (.bool t) (.slice B m d) := by subst hW; exact Bx.new' _ _ _ _ (by simp)
    clear hW

    have xa0 := XA.c0
    have xa1 := XA.c1
    have xb0 := XB.c0
    have xb1 := XB.c1
    go_wp2_with (first
      | (go_at_call 8; (refine (large_any s A n c' _).mono ?_); rintro e w_z ⟨rfl, hh⟩
         rw [HL1.out]
         try replace a := a.below hh
         try replace b := b.below hh
         try replace x := x.below hh
         try replace y := y.below hh
         try replace q := q.below hh
         try replace r := r.below hh
         try replace qq := qq.below hh
         try replace rr := rr.below hh
         try replace XA := XA.below hh
         try replace XB := XB.below hh
         try replace XX := XX.below hh
         try replace XY := XY.below hh
         try replace XQ := XQ.below hh
         try replace XR := XR.below hh
         try replace T := T.below hh
         replace hb := bend hb hh
         have xa0 := XA.c0
         have xa1 := XA.c1
         have xb0 := XB.c0
         have xb1 := XB.c1)
      | (go_at_call 9; (with_reducible refine (zwakes_any _).mono ?_); rintro e w_z ⟨rfl, hh⟩
         try replace a := a.below hh
         try replace b := b.below hh
         try replace x := x.below hh
         try replace y := y.below hh
         try replace q := q.below hh
         try replace r := r.below hh
         try replace qq := qq.below hh
         try replace rr := rr.below hh
         try replace XA := XA.below hh
         try replace XB := XB.below hh
         try replace XX := XX.below hh
         try replace XY := XY.below hh
         try replace XQ := XQ.below hh
         try replace XR := XR.below hh
         try replace T := T.below hh
         replace hb := bend hb hh
         have xa0 := XA.c0
         have xa1 := XA.c1
         have xb0 := XB.c0
         have xb1 := XB.c1))
    go_ret
    exact ⟨rfl, hb⟩

set_option maxRecDepth 100000 in
set_option maxHeartbeats 4000000 in
theorem zdiv_large_b (s t : Bool) (A B : Option Addr) (n c' m d : Nat) (w : World) (hm : ¬ m ≤ 40) :
    Calls Try.prog 4 #[.agg #[.bool s, .slice A n c'], .agg #[.bool t, .slice B m d]] w fun e w' => e = .returned (.bool true) ∧ Below w.heap.size w w' := by
    obtain ⟨L, hL⟩ : ∃ L, decide (40 < n) = L := ⟨_, rfl⟩
    have HL1 := Lib.hid hL
    clear hL
    have HL2 : Hid (decide (40 < m) = true) := decide_eq_true (by omega)
    clear hm
    cases L
    all_goals
      go_enter Try.func4, Try.ntmps4
      go_wp2_with fail
      generalize hW : (w.alloc (Obj.cells #[Value.bool s, Value.slice A n c'] 24)).alloc (Obj.cells #[Value.bool t, Value.slice B m d] 24) = W
      have hb : Below w.heap.size w W := by subst hW; exact ((Below.refl _ _).alloc (Nat.le_refl _) _).alloc (by simp) _
      have XA : Bx W w.heap.size (.bool s) (.slice A n c') := by subst hW; exact (Bx.new w _ _).alloc _
      have XB : Bx W (w.heap.size + 1) (.bool t) (.slice B m d) := by subst hW; exact Bx.new' _ _ _ _ (by simp)
      clear hW
  
      have xa0 := XA.c0
      have xa1 := XA.c1
      have xb0 := XB.c0
      have xb1 := XB.c1
      go_wp2_with (first
        | (go_at_call 8; (refine (large_any s A n c' _).mono ?_); rintro e w_z ⟨rfl, hh⟩
           rw [HL1.out]
           try replace a := a.below hh
           try replace b := b.below hh
           try replace x := x.below hh
           try replace y := y.below hh
           try replace q := q.below hh
           try replace r := r.below hh
           try replace qq := qq.below hh
           try replace rr := rr.below hh
           try replace XA := XA.below hh
           try replace XB := XB.below hh
           try replace XX := XX.below hh
           try replace XY := XY.below hh
           try replace XQ := XQ.below hh
           try replace XR := XR.below hh
           try replace T := T.below hh
           replace hb := bend hb hh
           have xa0 := XA.c0
           have xa1 := XA.c1
           have xb0 := XB.c0
           have xb1 := XB.c1)
        | (go_at_call 8; (refine (large_any t B m d _).mono ?_); rintro e w_z ⟨rfl, hh⟩
           rw [HL2.out]
           try replace a := a.below hh
           try replace b := b.below hh
           try replace x := x.below hh
           try replace y := y.below hh
           try replace q := q.below hh
           try replace r := r.below hh
           try replace qq := qq.below hh
           try replace rr := rr.below hh
           try replace XA := XA.below hh
           try replace XB := XB.below hh
           try replace XX := XX.below hh
           try replace XY := XY.below hh
           try replace XQ := XQ.below hh
           try replace XR := XR.below hh
           try replace T := T.below hh
           replace hb := bend hb hh
           have xa0 := XA.c0
           have xa1 := XA.c1
           have xb0 := XB.c0
           have xb1 := XB.c1)
        | (go_at_call 9; (with_reducible refine (zwakes_any _).mono ?_); rintro e w_z ⟨rfl, hh⟩
           try replace a := a.below hh
           try replace b := b.below hh
           try replace x := x.below hh
           try replace y := y.below hh
           try replace q := q.below hh
           try replace r := r.below hh
           try replace qq := qq.below hh
           try replace rr := rr.below hh
           try replace XA := XA.below hh
           try replace XB := XB.below hh
           try replace XX := XX.below hh
           try replace XY := XY.below hh
           try replace XQ := XQ.below hh
           try replace XR := XR.below hh
           try replace T := T.below hh
           replace hb := bend hb hh
           have xa0 := XA.c0
           have xa1 := XA.c1
           have xb0 := XB.c0
           have xb1 := XB.c1))
      go_ret
      exact ⟨rfl, hb⟩

theorem law_zdiv (s t : Bool) (la lb : List Nat) (A B : Option Addr) (n c' m d : Nat) (w : World) (ha : Rd .u64 w A n la) (hb : Rd .u64 w B m lb) (La : Lim B64 la) (Lb : Lim B64 lb) (hna : n ≤ c') (hnb : m ≤ d) :
    Calls Try.prog 4 #[.agg #[.bool s, .slice A n c'], .agg #[.bool t, .slice B m d]] w fun e w' => e = .returned (.bool true) ∧ Below w.heap.size w w' := by
    by_cases h1 : n ≤ 40
    · by_cases h2 : m ≤ 40
      · have a := ZR.of_rd (s := s) ha La hna h1
        have b := ZR.of_rd (s := t) hb Lb hnb h2
        by_cases h0 : iv t (val B64 lb) = 0
        · exact zdiv_zero s t _ _ A B n c' m d w a b h1 h2 h0
        · rcases Int.lt_or_gt_of_ne h0 with h | h
          · exact zdiv_pos s t _ _ A B n c' m d w a b h1 h2 h0 (-1) (by unfold sgn; rw [if_pos h]) (by decide)
          · exact zdiv_pos s t _ _ A B n c' m d w a b h1 h2 h0 1 (by unfold sgn; rw [if_neg (by omega), if_neg h0]) (by decide)
      · exact zdiv_large_b s t A B n c' m d w h2
    · exact zdiv_large_a s t A B n c' m d w h1
end Go.Proofs.Ytehkgiiiobnkdaa
