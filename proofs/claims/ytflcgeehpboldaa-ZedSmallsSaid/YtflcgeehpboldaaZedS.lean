/- The law ZedSmalls: of small numbers all goes as the machine's own numbers go. -/
import Derived.Test.YtflcgeehpboldaaZedH
namespace Go.Proofs.Ytflcgeehpboldaa
open Go.RowKit

theorem z2 (w : World) (s t : Bool) (A B : Option Addr) (n c m d : Nat) : Below w.heap.size w ((w.alloc (Obj.cells #[Value.bool s, Value.slice A n c] 24)).alloc (Obj.cells #[Value.bool t, Value.slice B m d] 24)) :=
  ((Below.refl _ _).alloc (Nat.le_refl _) _).alloc (by simp) _
theorem w64 {v : Int} (h1 : -9223372036854775808 ≤ v) (h2 : v < 9223372036854775808) : wrap64 v = v := by
  unfold wrap64; omega
theorem prod_small {x y : Int} (x1 : -2147483648 ≤ x) (x2 : x < 2147483648) (y1 : -2147483648 ≤ y) (y2 : y < 2147483648) : -4611686018427387904 ≤ x * y ∧ x * y ≤ 4611686018427387904 := by
  have h : (x * y).natAbs ≤ 2147483648 * 2147483648 := by
    rw [Int.natAbs_mul]; exact Nat.mul_le_mul (by omega) (by omega)
  omega

set_option maxRecDepth 100000 in
set_option maxHeartbeats 4000000 in
theorem sm_zero (x : Int) (w : World) (x1 : -2147483648 ≤ x) (x2 : x < 2147483648) (c : Int) (hc : c = cmpZ x 0) (hcase : (x < 0 ∧ c = -1) ∨ (0 < x ∧ c = 1) ∨ (x = 0 ∧ c = 0)) :
    Calls Try.prog 8 #[.int .i32 x, .int .i32 0] w fun e w' => e = .returned (.bool true) ∧ Below w.heap.size w w' := by
  have hb : Below w.heap.size w w := Below.refl _ _
  obtain ⟨P, hP⟩ : ∃ P, P = x * 0 := ⟨_, rfl⟩
  obtain ⟨b1, b2⟩ := prod_small x1 x2 (show (-2147483648 : Int) ≤ 0 by omega) (show (0 : Int) < 2147483648 by omega)
  have hPw : IntKind.i64.wrap (x * 0) = x * 0 := by rw [IntKind.wrap_i64]; omega
  have F1 : Hid (fitsB (x + 0) = true) := by show _ = _; simp [fitsB]; try omega
  have F2 : Hid (fitsB (x - 0) = true) := by show _ = _; simp [fitsB]; try omega
  have F3 : Hid (fitsB (x * 0) = true) := by show _ = _; simp [fitsB]; try omega
  have HC : Hid (cmpZ x 0 = c) := hc.symm
  clear hc
  go_enter Try.func8, Try.ntmps8
  go_wp2_with (first
        | (go_at_call 37; (with_reducible refine (zof_zr x (by omega) (by omega) _).mono ?_); rintro e w1 ⟨sM, AM, nM, cM, rfl, RM, hh⟩
           replace hb := bend hb hh)
        | (go_at_call 37; (with_reducible refine (zof_zr 0 (by omega) (by omega) _).mono ?_); rintro e w2 ⟨sN, AN, nN, cN, rfl, RN, hh⟩
           replace RM := RM.below hh
           replace hb := bend hb hh)
        | (go_at_call 16; (with_reducible refine (zadd_zr 2 (RM.below (z2 w2 sM sN AM AN nM cM nN cN)) (RN.below (z2 w2 sM sN AM AN nM cM nN cN)) (by omega) (by omega) (by omega)).mono ?_); rintro e w3 ⟨sS, ASx, nS, cS, rfl, RS, hh⟩
           replace RM := (RM.below (z2 w2 sM sN AM AN nM cM nN cN)).below hh
           replace RN := (RN.below (z2 w2 sM sN AM AN nM cM nN cN)).below hh
           have XM := ((Bx.new w2 (Value.bool sM) (Value.slice AM nM cM)).alloc (Obj.cells #[Value.bool sN, Value.slice AN nN cN] 24)).below hh
           have XN := (Bx.new' (w2.alloc (Obj.cells #[Value.bool sM, Value.slice AM nM cM] 24)) (Value.bool sN) (Value.slice AN nN cN) (w2.heap.size + 1) (by simp)).below hh
           replace hb := bend (bend hb (z2 w2 sM sN AM AN nM cM nN cN)) hh)
        | (go_at_call 33; (with_reducible refine (small_zr (RS : ZR _ _ _ _ _ (x + 0) 2) (by omega) F1.out).mono ?_); rintro e w4 ⟨rfl, hh⟩
           try replace RM := RM.below hh
           try replace RN := RN.below hh
           try replace XM := XM.below hh
           try replace XN := XN.below hh
           try replace RS := RS.below hh
           try replace RQ := RQ.below hh
           try replace RR := RR.below hh
           try replace XQ := XQ.below hh
           try replace XR := XR.below hh
           replace hb := bend hb hh
           clear RS
           have xm0 := XM.c0
           have xm1 := XM.c1
           have xn0 := XN.c0
           have xn1 := XN.c1)
        | (go_at_call 33; (with_reducible refine (small_zr (RS : ZR _ _ _ _ _ (x - 0) 2) (by omega) F2.out).mono ?_); rintro e w4 ⟨rfl, hh⟩
           try replace RM := RM.below hh
           try replace RN := RN.below hh
           try replace XM := XM.below hh
           try replace XN := XN.below hh
           try replace RS := RS.below hh
           try replace RQ := RQ.below hh
           try replace RR := RR.below hh
           try replace XQ := XQ.below hh
           try replace XR := XR.below hh
           replace hb := bend hb hh
           clear RS
           have xm0 := XM.c0
           have xm1 := XM.c1
           have xn0 := XN.c0
           have xn1 := XN.c1)
        | (go_at_call 33; (with_reducible refine (small_zr (RS : ZR _ _ _ _ _ (x * 0) 2) (by omega) F3.out).mono ?_); rintro e w4 ⟨rfl, hh⟩
           try replace RM := RM.below hh
           try replace RN := RN.below hh
           try replace XM := XM.below hh
           try replace XN := XN.below hh
           try replace RS := RS.below hh
           try replace RQ := RQ.below hh
           try replace RR := RR.below hh
           try replace XQ := XQ.below hh
           try replace XR := XR.below hh
           replace hb := bend hb hh
           clear RS
           have xm0 := XM.c0
           have xm1 := XM.c1
           have xn0 := XN.c0
           have xn1 := XN.c1)
        | (go_at_call 18; (with_reducible refine (zsub_zr 2 RM RN (by omega) (by omega) (by omega)).mono ?_); rintro e w5 ⟨sS, ASx, nS, cS, rfl, RS, hh⟩
           try replace RM := RM.below hh
           try replace RN := RN.below hh
           try replace XM := XM.below hh
           try replace XN := XN.below hh
           try replace RQ := RQ.below hh
           try replace RR := RR.below hh
           try replace XQ := XQ.below hh
           try replace XR := XR.below hh
           replace hb := bend hb hh
           have xm0 := XM.c0
           have xm1 := XM.c1
           have xn0 := XN.c0
           have xn1 := XN.c1)
        | (go_at_call 20; (with_reducible refine (zmul_zr 2 RM RN (by omega) (by omega) (by omega)).mono ?_); rintro e w6 ⟨sS, ASx, nS, cS, rfl, RS, hh⟩
           try replace RM := RM.below hh
           try replace RN := RN.below hh
           try replace XM := XM.below hh
           try replace XN := XN.below hh
           try replace RQ := RQ.below hh
           try replace RR := RR.below hh
           try replace XQ := XQ.below hh
           try replace XR := XR.below hh
           replace hb := bend hb hh
           have xm0 := XM.c0
           have xm1 := XM.c1
           have xn0 := XN.c0
           have xn1 := XN.c1)
        | (go_at_call 22; (with_reducible refine (zcmp_zr RM RN (by omega)).mono ?_); rintro e w7 ⟨rfl, hh⟩
           rw [HC.out]
           try replace RM := RM.below hh
           try replace RN := RN.below hh
           try replace XM := XM.below hh
           try replace XN := XN.below hh
           try replace RS := RS.below hh
           try replace RQ := RQ.below hh
           try replace RR := RR.below hh
           try replace XQ := XQ.below hh
           try replace XR := XR.below hh
           replace hb := bend hb hh
           have xm0 := XM.c0
           have xm1 := XM.c1
           have xn0 := XN.c0
           have xn1 := XN.c1)
        | (go_at_call 10; (with_reducible refine (wakes_any _).mono ?_); rintro e w8 ⟨rfl, hh⟩
           replace hb := bend hb hh))
  all_goals
    go_ret
    exact ⟨rfl, hb⟩

set_option maxRecDepth 100000 in
set_option maxHeartbeats 4000000 in
theorem sm_a (x y : Int) (w : World) (x1 : -2147483648 ≤ x) (x2 : x < 2147483648) (y1 : -2147483648 ≤ y) (y2 : y < 2147483648) (hy0 : y ≠ 0) (c q r E : Int) (hc : c = cmpZ x y) (hcase : (x < y ∧ c = -1) ∨ (y < x ∧ c = 1) ∨ (x = y ∧ c = 0)) (hq : x.fdiv y = q) (hr : x.fmod y = r) (hqf : fitsB q = true) (hrf : fitsB r = true) (hD : x.tdiv y = q) (hDw : wrap64 q = q) (hE : wrap64 (q * y) = E) (hR : wrap64 (x - E) = r) (hmb : ((x.tmod y != 0) && (!decide (x < 0) == decide (y < 0))) = false) :
    Calls Try.prog 8 #[.int .i32 x, .int .i32 y] w fun e w' => e = .returned (.bool true) ∧ Below w.heap.size w w' := by
  have hb : Below w.heap.size w w := Below.refl _ _
  obtain ⟨P, hP⟩ : ∃ P, P = x * y := ⟨_, rfl⟩
  obtain ⟨b1, b2⟩ := prod_small x1 x2 y1 y2
  have hPw : IntKind.i64.wrap (x * y) = x * y := by rw [IntKind.wrap_i64]; omega
  have F1 : Hid (fitsB (x + y) = true) := by show _ = _; simp [fitsB]; try omega
  have F2 : Hid (fitsB (x - y) = true) := by show _ = _; simp [fitsB]; try omega
  have F3 : Hid (fitsB (x * y) = true) := by show _ = _; simp [fitsB]; try omega
  have HC : Hid (cmpZ x y = c) := hc.symm
  have F4 := Lib.hid hqf
  have F5 := Lib.hid hrf
  have HQR := Lib.hid (And.intro hq hr)
  have hyb : (y == 0) = false := by simpa using hy0
  clear hc hqf hrf hq hr
  go_enter Try.func8, Try.ntmps8
  go_wp2_with (first
        | (go_at_call 37; (with_reducible refine (zof_zr x (by omega) (by omega) _).mono ?_); rintro e w1 ⟨sM, AM, nM, cM, rfl, RM, hh⟩
           replace hb := bend hb hh)
        | (go_at_call 37; (with_reducible refine (zof_zr y (by omega) (by omega) _).mono ?_); rintro e w2 ⟨sN, AN, nN, cN, rfl, RN, hh⟩
           replace RM := RM.below hh
           replace hb := bend hb hh)
        | (go_at_call 16; (with_reducible refine (zadd_zr 2 (RM.below (z2 w2 sM sN AM AN nM cM nN cN)) (RN.below (z2 w2 sM sN AM AN nM cM nN cN)) (by omega) (by omega) (by omega)).mono ?_); rintro e w3 ⟨sS, ASx, nS, cS, rfl, RS, hh⟩
           replace RM := (RM.below (z2 w2 sM sN AM AN nM cM nN cN)).below hh
           replace RN := (RN.below (z2 w2 sM sN AM AN nM cM nN cN)).below hh
           have XM := ((Bx.new w2 (Value.bool sM) (Value.slice AM nM cM)).alloc (Obj.cells #[Value.bool sN, Value.slice AN nN cN] 24)).below hh
           have XN := (Bx.new' (w2.alloc (Obj.cells #[Value.bool sM, Value.slice AM nM cM] 24)) (Value.bool sN) (Value.slice AN nN cN) (w2.heap.size + 1) (by simp)).below hh
           replace hb := bend (bend hb (z2 w2 sM sN AM AN nM cM nN cN)) hh)
        | (go_at_call 33; (with_reducible refine (small_zr (RS : ZR _ _ _ _ _ (x + y) 2) (by omega) F1.out).mono ?_); rintro e w4 ⟨rfl, hh⟩
           try replace RM := RM.below hh
           try replace RN := RN.below hh
           try replace XM := XM.below hh
           try replace XN := XN.below hh
           try replace RS := RS.below hh
           try replace RQ := RQ.below hh
           try replace RR := RR.below hh
           try replace XQ := XQ.below hh
           try replace XR := XR.below hh
           replace hb := bend hb hh
           clear RS
           have xm0 := XM.c0
           have xm1 := XM.c1
           have xn0 := XN.c0
           have xn1 := XN.c1)
        | (go_at_call 33; (with_reducible refine (small_zr (RS : ZR _ _ _ _ _ (x - y) 2) (by omega) F2.out).mono ?_); rintro e w4 ⟨rfl, hh⟩
           try replace RM := RM.below hh
           try replace RN := RN.below hh
           try replace XM := XM.below hh
           try replace XN := XN.below hh
           try replace RS := RS.below hh
           try replace RQ := RQ.below hh
           try replace RR := RR.below hh
           try replace XQ := XQ.below hh
           try replace XR := XR.below hh
           replace hb := bend hb hh
           clear RS
           have xm0 := XM.c0
           have xm1 := XM.c1
           have xn0 := XN.c0
           have xn1 := XN.c1)
        | (go_at_call 33; (with_reducible refine (small_zr (RS : ZR _ _ _ _ _ (x * y) 2) (by omega) F3.out).mono ?_); rintro e w4 ⟨rfl, hh⟩
           try replace RM := RM.below hh
           try replace RN := RN.below hh
           try replace XM := XM.below hh
           try replace XN := XN.below hh
           try replace RS := RS.below hh
           try replace RQ := RQ.below hh
           try replace RR := RR.below hh
           try replace XQ := XQ.below hh
           try replace XR := XR.below hh
           replace hb := bend hb hh
           clear RS
           have xm0 := XM.c0
           have xm1 := XM.c1
           have xn0 := XN.c0
           have xn1 := XN.c1)
        | (go_at_call 18; (with_reducible refine (zsub_zr 2 RM RN (by omega) (by omega) (by omega)).mono ?_); rintro e w5 ⟨sS, ASx, nS, cS, rfl, RS, hh⟩
           try replace RM := RM.below hh
           try replace RN := RN.below hh
           try replace XM := XM.below hh
           try replace XN := XN.below hh
           try replace RQ := RQ.below hh
           try replace RR := RR.below hh
           try replace XQ := XQ.below hh
           try replace XR := XR.below hh
           replace hb := bend hb hh
           have xm0 := XM.c0
           have xm1 := XM.c1
           have xn0 := XN.c0
           have xn1 := XN.c1)
        | (go_at_call 20; (with_reducible refine (zmul_zr 2 RM RN (by omega) (by omega) (by omega)).mono ?_); rintro e w6 ⟨sS, ASx, nS, cS, rfl, RS, hh⟩
           try replace RM := RM.below hh
           try replace RN := RN.below hh
           try replace XM := XM.below hh
           try replace XN := XN.below hh
           try replace RQ := RQ.below hh
           try replace RR := RR.below hh
           try replace XQ := XQ.below hh
           try replace XR := XR.below hh
           replace hb := bend hb hh
           have xm0 := XM.c0
           have xm1 := XM.c1
           have xn0 := XN.c0
           have xn1 := XN.c1)
        | (go_at_call 22; (with_reducible refine (zcmp_zr RM RN (by omega)).mono ?_); rintro e w7 ⟨rfl, hh⟩
           rw [HC.out]
           try replace RM := RM.below hh
           try replace RN := RN.below hh
           try replace XM := XM.below hh
           try replace XN := XN.below hh
           try replace RS := RS.below hh
           try replace RQ := RQ.below hh
           try replace RR := RR.below hh
           try replace XQ := XQ.below hh
           try replace XR := XR.below hh
           replace hb := bend hb hh
           have xm0 := XM.c0
           have xm1 := XM.c1
           have xn0 := XN.c0
           have xn1 := XN.c1)
        | (go_at_call 10; (with_reducible refine (wakes_any _).mono ?_); rintro e w8 ⟨rfl, hh⟩
           replace hb := bend hb hh)
        | (go_at_call 29; (with_reducible refine (zdm_zr 2 RM RN hy0 (by omega) (by omega) (by omega) (by omega) (by unfold B64; omega)).mono ?_); rintro e w9 ⟨sQ, AQ, nQ, cQ, sR, AR, nR, cR, rfl, RQ, RR, hh, gz1, gz2, gz3⟩
           clear gz1 gz2 gz3
           rw [HQR.out.1] at RQ
           rw [HQR.out.2] at RR
           try replace RM := RM.below hh
           try replace RN := RN.below hh
           try replace XM := XM.below hh
           try replace XN := XN.below hh
           try replace RS := RS.below hh
           try replace XQ := XQ.below hh
           try replace XR := XR.below hh
           replace hb := bend hb hh)
        | (go_at_call 33; (with_reducible refine (small_zr (RQ.below (z2 w9 sQ sR AQ AR nQ cQ nR cR)) (by omega) F4.out).mono ?_); rintro e w10 ⟨rfl, hh⟩
           replace RR := (RR.below (z2 w9 sQ sR AQ AR nQ cQ nR cR)).below hh
           have XR := (Bx.new' (w9.alloc (Obj.cells #[Value.bool sQ, Value.slice AQ nQ cQ] 24)) (Value.bool sR) (Value.slice AR nR cR) (w9.heap.size + 1) (by simp)).below hh
           replace hb := bend (bend hb (z2 w9 sQ sR AQ AR nQ cQ nR cR)) hh
           have xr0 := XR.c0
           have xr1 := XR.c1)
        | (go_at_call 33; (with_reducible refine (small_zr RR (by omega) F5.out).mono ?_); rintro e w11 ⟨rfl, hh⟩
           replace hb := bend hb hh))
  all_goals
    go_ret
    exact ⟨rfl, hb⟩

set_option maxRecDepth 100000 in
set_option maxHeartbeats 4000000 in
theorem sm_b (x y : Int) (w : World) (x1 : -2147483648 ≤ x) (x2 : x < 2147483648) (y1 : -2147483648 ≤ y) (y2 : y < 2147483648) (hy0 : y ≠ 0) (c q r D E : Int) (hc : c = cmpZ x y) (hcase : (x < y ∧ c = -1) ∨ (y < x ∧ c = 1) ∨ (x = y ∧ c = 0)) (hq : x.fdiv y = q) (hr : x.fmod y = r) (hqf : fitsB q = true) (hrf : fitsB r = true) (hD : x.tdiv y = D) (hDw : wrap64 D = D) (hE : wrap64 (q * y) = E) (hR : wrap64 (x - E) = r) (hqD : wrap64 (D - 1) = q) (hmb : (x.tmod y != 0) = true) (hsb : (!decide (x < 0) == decide (y < 0)) = true) :
    Calls Try.prog 8 #[.int .i32 x, .int .i32 y] w fun e w' => e = .returned (.bool true) ∧ Below w.heap.size w w' := by
  have hb : Below w.heap.size w w := Below.refl _ _
  obtain ⟨P, hP⟩ : ∃ P, P = x * y := ⟨_, rfl⟩
  obtain ⟨b1, b2⟩ := prod_small x1 x2 y1 y2
  have hPw : IntKind.i64.wrap (x * y) = x * y := by rw [IntKind.wrap_i64]; omega
  have F1 : Hid (fitsB (x + y) = true) := by show _ = _; simp [fitsB]; try omega
  have F2 : Hid (fitsB (x - y) = true) := by show _ = _; simp [fitsB]; try omega
  have F3 : Hid (fitsB (x * y) = true) := by show _ = _; simp [fitsB]; try omega
  have HC : Hid (cmpZ x y = c) := hc.symm
  have F4 := Lib.hid hqf
  have F5 := Lib.hid hrf
  have HQR := Lib.hid (And.intro hq hr)
  have hyb : (y == 0) = false := by simpa using hy0
  clear hc hqf hrf hq hr
  go_enter Try.func8, Try.ntmps8
  go_wp2_with (first
        | (go_at_call 37; (with_reducible refine (zof_zr x (by omega) (by omega) _).mono ?_); rintro e w1 ⟨sM, AM, nM, cM, rfl, RM, hh⟩
           replace hb := bend hb hh)
        | (go_at_call 37; (with_reducible refine (zof_zr y (by omega) (by omega) _).mono ?_); rintro e w2 ⟨sN, AN, nN, cN, rfl, RN, hh⟩
           replace RM := RM.below hh
           replace hb := bend hb hh)
        | (go_at_call 16; (with_reducible refine (zadd_zr 2 (RM.below (z2 w2 sM sN AM AN nM cM nN cN)) (RN.below (z2 w2 sM sN AM AN nM cM nN cN)) (by omega) (by omega) (by omega)).mono ?_); rintro e w3 ⟨sS, ASx, nS, cS, rfl, RS, hh⟩
           replace RM := (RM.below (z2 w2 sM sN AM AN nM cM nN cN)).below hh
           replace RN := (RN.below (z2 w2 sM sN AM AN nM cM nN cN)).below hh
           have XM := ((Bx.new w2 (Value.bool sM) (Value.slice AM nM cM)).alloc (Obj.cells #[Value.bool sN, Value.slice AN nN cN] 24)).below hh
           have XN := (Bx.new' (w2.alloc (Obj.cells #[Value.bool sM, Value.slice AM nM cM] 24)) (Value.bool sN) (Value.slice AN nN cN) (w2.heap.size + 1) (by simp)).below hh
           replace hb := bend (bend hb (z2 w2 sM sN AM AN nM cM nN cN)) hh)
        | (go_at_call 33; (with_reducible refine (small_zr (RS : ZR _ _ _ _ _ (x + y) 2) (by omega) F1.out).mono ?_); rintro e w4 ⟨rfl, hh⟩
           try replace RM := RM.below hh
           try replace RN := RN.below hh
           try replace XM := XM.below hh
           try replace XN := XN.below hh
           try replace RS := RS.below hh
           try replace RQ := RQ.below hh
           try replace RR := RR.below hh
           try replace XQ := XQ.below hh
           try replace XR := XR.below hh
           replace hb := bend hb hh
           clear RS
           have xm0 := XM.c0
           have xm1 := XM.c1
           have xn0 := XN.c0
           have xn1 := XN.c1)
        | (go_at_call 33; (with_reducible refine (small_zr (RS : ZR _ _ _ _ _ (x - y) 2) (by omega) F2.out).mono ?_); rintro e w4 ⟨rfl, hh⟩
           try replace RM := RM.below hh
           try replace RN := RN.below hh
           try replace XM := XM.below hh
           try replace XN := XN.below hh
           try replace RS := RS.below hh
           try replace RQ := RQ.below hh
           try replace RR := RR.below hh
           try replace XQ := XQ.below hh
           try replace XR := XR.below hh
           replace hb := bend hb hh
           clear RS
           have xm0 := XM.c0
           have xm1 := XM.c1
           have xn0 := XN.c0
           have xn1 := XN.c1)
        | (go_at_call 33; (with_reducible refine (small_zr (RS : ZR _ _ _ _ _ (x * y) 2) (by omega) F3.out).mono ?_); rintro e w4 ⟨rfl, hh⟩
           try replace RM := RM.below hh
           try replace RN := RN.below hh
           try replace XM := XM.below hh
           try replace XN := XN.below hh
           try replace RS := RS.below hh
           try replace RQ := RQ.below hh
           try replace RR := RR.below hh
           try replace XQ := XQ.below hh
           try replace XR := XR.below hh
           replace hb := bend hb hh
           clear RS
           have xm0 := XM.c0
           have xm1 := XM.c1
           have xn0 := XN.c0
           have xn1 := XN.c1)
        | (go_at_call 18; (with_reducible refine (zsub_zr 2 RM RN (by omega) (by omega) (by omega)).mono ?_); rintro e w5 ⟨sS, ASx, nS, cS, rfl, RS, hh⟩
           try replace RM := RM.below hh
           try replace RN := RN.below hh
           try replace XM := XM.below hh
           try replace XN := XN.below hh
           try replace RQ := RQ.below hh
           try replace RR := RR.below hh
           try replace XQ := XQ.below hh
           try replace XR := XR.below hh
           replace hb := bend hb hh
           have xm0 := XM.c0
           have xm1 := XM.c1
           have xn0 := XN.c0
           have xn1 := XN.c1)
        | (go_at_call 20; (with_reducible refine (zmul_zr 2 RM RN (by omega) (by omega) (by omega)).mono ?_); rintro e w6 ⟨sS, ASx, nS, cS, rfl, RS, hh⟩
           try replace RM := RM.below hh
           try replace RN := RN.below hh
           try replace XM := XM.below hh
           try replace XN := XN.below hh
           try replace RQ := RQ.below hh
           try replace RR := RR.below hh
           try replace XQ := XQ.below hh
           try replace XR := XR.below hh
           replace hb := bend hb hh
           have xm0 := XM.c0
           have xm1 := XM.c1
           have xn0 := XN.c0
           have xn1 := XN.c1)
        | (go_at_call 22; (with_reducible refine (zcmp_zr RM RN (by omega)).mono ?_); rintro e w7 ⟨rfl, hh⟩
           rw [HC.out]
           try replace RM := RM.below hh
           try replace RN := RN.below hh
           try replace XM := XM.below hh
           try replace XN := XN.below hh
           try replace RS := RS.below hh
           try replace RQ := RQ.below hh
           try replace RR := RR.below hh
           try replace XQ := XQ.below hh
           try replace XR := XR.below hh
           replace hb := bend hb hh
           have xm0 := XM.c0
           have xm1 := XM.c1
           have xn0 := XN.c0
           have xn1 := XN.c1)
        | (go_at_call 10; (with_reducible refine (wakes_any _).mono ?_); rintro e w8 ⟨rfl, hh⟩
           replace hb := bend hb hh)
        | (go_at_call 29; (with_reducible refine (zdm_zr 2 RM RN hy0 (by omega) (by omega) (by omega) (by omega) (by unfold B64; omega)).mono ?_); rintro e w9 ⟨sQ, AQ, nQ, cQ, sR, AR, nR, cR, rfl, RQ, RR, hh, gz1, gz2, gz3⟩
           clear gz1 gz2 gz3
           rw [HQR.out.1] at RQ
           rw [HQR.out.2] at RR
           try replace RM := RM.below hh
           try replace RN := RN.below hh
           try replace XM := XM.below hh
           try replace XN := XN.below hh
           try replace RS := RS.below hh
           try replace XQ := XQ.below hh
           try replace XR := XR.below hh
           replace hb := bend hb hh)
        | (go_at_call 33; (with_reducible refine (small_zr (RQ.below (z2 w9 sQ sR AQ AR nQ cQ nR cR)) (by omega) F4.out).mono ?_); rintro e w10 ⟨rfl, hh⟩
           replace RR := (RR.below (z2 w9 sQ sR AQ AR nQ cQ nR cR)).below hh
           have XR := (Bx.new' (w9.alloc (Obj.cells #[Value.bool sQ, Value.slice AQ nQ cQ] 24)) (Value.bool sR) (Value.slice AR nR cR) (w9.heap.size + 1) (by simp)).below hh
           replace hb := bend (bend hb (z2 w9 sQ sR AQ AR nQ cQ nR cR)) hh
           have xr0 := XR.c0
           have xr1 := XR.c1)
        | (go_at_call 33; (with_reducible refine (small_zr RR (by omega) F5.out).mono ?_); rintro e w11 ⟨rfl, hh⟩
           replace hb := bend hb hh))
  all_goals
    go_ret
    exact ⟨rfl, hb⟩
end Go.Proofs.Ytflcgeehpboldaa
