/- The law ZedBack: the quotient times the divisor and the rest are what was divided; the rest lies between 0 and the divisor; what is added is taken away again; a text's number's text is it. -/
import Derived.Test.YtpnckmofmjefpaaZedW
import Derived.Test.YtpnckmofmjefpaaZedH
namespace Go.Proofs.Ytpnckmofmjefpaa
open Go.RowKit

theorem ZR.nab {w : World} {s : Bool} {A : Option Addr} {n c k : Nat} {v : Int} (h : ZR w s A n c v k) : v.natAbs < B64 ^ k := by
  obtain ⟨l, h1, h2, h3, h4, h5, h6⟩ := h
  exact h6
theorem cmpZ_swap (a b : Int) : IntKind.i64.wrap (-(cmpZ b a)) = cmpZ a b := by
  unfold cmpZ
  (repeat' split) <;> first | omega | decide +kernel
theorem fmod_zback_pos {v x : Int} (hx : 0 < x) : sgn x = 1 ∧ (0 ≤ sgn (v.fmod x) ∧ sgn (v.fmod x) ≤ 1) ∧ cmpZ (v.fmod x) x = -1 := by
  have h1 := Int.fmod_nonneg_of_pos v hx
  have h2 := Int.fmod_lt_of_pos v hx
  refine ⟨?_, ?_, ?_⟩
  · unfold sgn; rw [if_neg (by omega), if_neg (by omega)]
  · unfold sgn; rw [if_neg (by omega)]; split <;> omega
  · unfold cmpZ; rw [if_pos h2]
theorem fmod_zback_neg {v x : Int} (hx : x < 0) : sgn x = -1 ∧ (-1 ≤ sgn (v.fmod x) ∧ sgn (v.fmod x) ≤ 0) ∧ cmpZ (v.fmod x) x = 1 := by
  have h0 : v.fmod x = -((-v).fmod (-x)) := by rw [Int.neg_fmod_neg, Int.neg_neg]
  have h1 := Int.fmod_nonneg_of_pos (-v) (show 0 < -x by omega)
  have h2 := Int.fmod_lt_of_pos (-v) (show 0 < -x by omega)
  refine ⟨?_, ?_, ?_⟩
  · unfold sgn; rw [if_pos hx]
  · unfold sgn; split
    · omega
    · rw [if_pos (by omega)]; omega
  · unfold cmpZ; rw [if_neg (by omega), if_pos (by omega)]

set_option maxRecDepth 100000 in
set_option maxHeartbeats 4000000 in
theorem zback_zero (s t : Bool) (v x : Int) (A B : Option Addr) (n c' m d : Nat) (w : World) (a : ZR w s A n c' v 40) (b : ZR w t B m d x 40) (hn : n ≤ 40) (hm : m ≤ 40) (hx : x = 0) :
    Calls Try.prog 13 #[.agg #[.bool s, .slice A n c'], .agg #[.bool t, .slice B m d]] w fun e w' => e = .returned (.bool true) ∧ Below w.heap.size w w' := by
    have HL1 : Hid (decide (40 < n) = false) := decide_eq_false (by omega)
    have HL2 : Hid (decide (40 < m) = false) := decide_eq_false (by omega)
    have HX := Lib.hid hx
    have HVB := Lib.hid a.nab
    have H4 : Hid (cmpZ v v = 0) := cmpZ_self v
    have H5 : Hid (cmpZ (v + x - x) v = 0) := by show _ = _; rw [Int.add_sub_cancel]; exact cmpZ_self v
    have H6 : Hid (cmpZ (- -v) v = 0) := by show _ = _; rw [Int.neg_neg]; exact cmpZ_self v
    obtain ⟨K, hK⟩ : ∃ K, cmpZ v x = K := ⟨_, rfl⟩
    obtain ⟨K', hK'⟩ : ∃ K', cmpZ x v = K' := ⟨_, rfl⟩
    have hKK : IntKind.i64.wrap (-K') = K := by rw [← hK, ← hK']; exact cmpZ_swap v x
    have H7 := Lib.hid hK
    have H8 := Lib.hid hK'
    clear hK hK'
    clear hx
    go_enter Try.func13, Try.ntmps13
    go_wp2_with fail
    generalize hW : (w.alloc (Obj.cells #[Value.bool s, Value.slice A n c'] 63)).alloc (Obj.cells #[Value.bool t, Value.slice B m d] 63) = W
    have hb : Below w.heap.size w W := by subst hW; exact ((Below.refl _ _).alloc (Nat.le_refl _) _).alloc (by simp) _
    have XA : Bx W w.heap.size (.bool s) (.slice A n c') := by subst hW; exact (Bx.new w _ _).alloc _
    have XB : Bx W (w.heap.size + 1) (.bool t) (.slice B m d) := by subst hW; exact Bx.new' _ _ _ _ (by simp)
    clear hW
    replace a := a.below hb
    replace b := b.below hb
    have ca0 := XA.c0
    have ca1 := XA.c1
    have cb0 := XB.c0
    have cb1 := XB.c1
    go_wp2_with (first
      | (go_at_call 47; (refine (large_any s A n c' _).mono ?_); rintro e w_z ⟨rfl, hh⟩
         rw [HL1.out]
         try replace a := a.below hh
         try replace b := b.below hh
         try replace q := q.below hh
         try replace r := r.below hh
         try replace p := p.below hh
         try replace qb := qb.below hh
         try replace sm := sm.below hh
         try replace ab := ab.below hh
         try replace sb := sb.below hh
         try replace na := na.below hh
         try replace nn := nn.below hh
         try replace XA := XA.below hh
         try replace XB := XB.below hh
         try replace XQ := XQ.below hh
         try replace XR := XR.below hh
         try replace XP := XP.below hh
         replace hb := bend hb hh
         have ca0 := XA.c0
         have ca1 := XA.c1
         have cb0 := XB.c0
         have cb1 := XB.c1)
      | (go_at_call 47; (refine (large_any t B m d _).mono ?_); rintro e w_z ⟨rfl, hh⟩
         rw [HL2.out]
         try replace a := a.below hh
         try replace b := b.below hh
         try replace q := q.below hh
         try replace r := r.below hh
         try replace p := p.below hh
         try replace qb := qb.below hh
         try replace sm := sm.below hh
         try replace ab := ab.below hh
         try replace sb := sb.below hh
         try replace na := na.below hh
         try replace nn := nn.below hh
         try replace XA := XA.below hh
         try replace XB := XB.below hh
         try replace XQ := XQ.below hh
         try replace XR := XR.below hh
         try replace XP := XP.below hh
         replace hb := bend hb hh
         have ca0 := XA.c0
         have ca1 := XA.c1
         have cb0 := XB.c0
         have cb1 := XB.c1)
      | (go_at_call 67; (with_reducible refine (zdm_zero a b HX.out (by omega) (by omega)).mono ?_); rintro e w_q ⟨rfl, h0⟩
         have hh := (h0.alloc h0.size (.cells #[.bool false, .slice none 0 0] 63)).alloc (Nat.le_trans h0.size (by simp)) (.cells #[.bool false, .slice none 0 0] 63)
         try replace a := a.below hh
         try replace b := b.below hh
         try replace q := q.below hh
         try replace r := r.below hh
         try replace p := p.below hh
         try replace qb := qb.below hh
         try replace sm := sm.below hh
         try replace ab := ab.below hh
         try replace sb := sb.below hh
         try replace na := na.below hh
         try replace nn := nn.below hh
         try replace XA := XA.below hh
         try replace XB := XB.below hh
         try replace XQ := XQ.below hh
         try replace XR := XR.below hh
         try replace XP := XP.below hh
         replace hb := bend hb hh
         have ca0 := XA.c0
         have ca1 := XA.c1
         have cb0 := XB.c0
         have cb1 := XB.c1)
      | (go_at_call 73; (with_reducible refine (ztext_zr a (by omega)).mono ?_); rintro e w_z ⟨rfl, hh⟩
         try replace a := a.below hh
         try replace b := b.below hh
         try replace q := q.below hh
         try replace r := r.below hh
         try replace p := p.below hh
         try replace qb := qb.below hh
         try replace sm := sm.below hh
         try replace ab := ab.below hh
         try replace sb := sb.below hh
         try replace na := na.below hh
         try replace nn := nn.below hh
         try replace XA := XA.below hh
         try replace XB := XB.below hh
         try replace XQ := XQ.below hh
         try replace XR := XR.below hh
         try replace XP := XP.below hh
         replace hb := bend hb hh
         have ca0 := XA.c0
         have ca1 := XA.c1
         have cb0 := XB.c0
         have cb1 := XB.c1)
      | (go_at_call 69; (with_reducible refine (zparse_txt 40 _ HVB.out (by omega)).mono ?_); rintro e w_p ⟨A_p, n_p, c_p, rfl, p, -, -, hh⟩
         try replace a := a.below hh
         try replace b := b.below hh
         try replace q := q.below hh
         try replace r := r.below hh
         try replace qb := qb.below hh
         try replace sm := sm.below hh
         try replace ab := ab.below hh
         try replace sb := sb.below hh
         try replace na := na.below hh
         try replace nn := nn.below hh
         try replace XA := XA.below hh
         try replace XB := XB.below hh
         try replace XQ := XQ.below hh
         try replace XR := XR.below hh
         try replace XP := XP.below hh
         replace hb := bend hb hh))
    generalize hW3 : w_p.alloc (Obj.cells #[Value.bool (decide (v < 0)), Value.slice A_p n_p c_p] 63) = W3
    have hh3 : Below w_p.heap.size w_p W3 := by subst hW3; exact (Below.refl _ _).alloc (Nat.le_refl _) _
    have XP : Bx W3 w_p.heap.size (.bool (decide (v < 0))) (.slice A_p n_p c_p) := by subst hW3; exact Bx.new w_p _ _
    clear hW3
    replace a := a.below hh3
    replace b := b.below hh3
    replace p := p.below hh3
    replace XA := XA.below hh3
    replace XB := XB.below hh3
    replace hb := bend hb hh3
    replace a := a.drew
    replace b := b.drew
    replace p := p.drew
    replace XA := XA.drew
    replace XB := XB.drew
    replace XP := XP.drew
    replace hb := hb.drew
    go_region_held3 (fun w' => w'.cell? ⟨w.heap.size, 0, none⟩ = some (.bool s) ∧ w'.cell? ⟨w.heap.size, 1, none⟩ = some (.slice A n c') ∧ w'.cell? ⟨w.heap.size + 1, 0, none⟩ = some (.bool t) ∧ w'.cell? ⟨w.heap.size + 1, 1, none⟩ = some (.slice B m d) ∧ w'.cell? ⟨w_p.heap.size, 0, none⟩ = some (.bool (decide (v < 0))) ∧ w'.cell? ⟨w_p.heap.size, 1, none⟩ = some (.slice A_p n_p c_p))
      (first | with_reducible exact ⟨XA.c0, XA.c1, XB.c0, XB.c1, XP.c0, XP.c1⟩)
      (first
      | (go_at_call 60; (with_reducible refine (zcmp_zr p a (by omega)).mono ?_); rintro e w_z ⟨rfl, hh⟩
         rw [H4.out]
         try replace a := a.below hh
         try replace b := b.below hh
         try replace q := q.below hh
         try replace r := r.below hh
         try replace p := p.below hh
         try replace qb := qb.below hh
         try replace sm := sm.below hh
         try replace ab := ab.below hh
         try replace sb := sb.below hh
         try replace na := na.below hh
         try replace nn := nn.below hh
         try replace XA := XA.below hh
         try replace XB := XB.below hh
         try replace XQ := XQ.below hh
         try replace XR := XR.below hh
         try replace XP := XP.below hh
         replace hb := bend hb hh)
      | (go_at_call 54; (with_reducible refine (zadd_zr 41 a b (by omega) (by omega) (by omega)).mono ?_); rintro e w_ab ⟨s_ab, A_ab, n_ab, c_ab, rfl, ab, hh⟩
         try replace a := a.below hh
         try replace b := b.below hh
         try replace q := q.below hh
         try replace r := r.below hh
         try replace p := p.below hh
         try replace qb := qb.below hh
         try replace sm := sm.below hh
         try replace sb := sb.below hh
         try replace na := na.below hh
         try replace nn := nn.below hh
         try replace XA := XA.below hh
         try replace XB := XB.below hh
         try replace XQ := XQ.below hh
         try replace XR := XR.below hh
         try replace XP := XP.below hh
         replace hb := bend hb hh)
      | (go_at_call 56; (with_reducible refine (zsub_zr 42 ab b (by omega) (by omega) (by omega)).mono ?_); rintro e w_sb ⟨s_sb, A_sb, n_sb, c_sb, rfl, sb, hh⟩
         try replace a := a.below hh
         try replace b := b.below hh
         try replace q := q.below hh
         try replace r := r.below hh
         try replace p := p.below hh
         try replace qb := qb.below hh
         try replace sm := sm.below hh
         try replace ab := ab.below hh
         try replace na := na.below hh
         try replace nn := nn.below hh
         try replace XA := XA.below hh
         try replace XB := XB.below hh
         try replace XQ := XQ.below hh
         try replace XR := XR.below hh
         try replace XP := XP.below hh
         replace hb := bend hb hh)
      | (go_at_call 60; (with_reducible refine (zcmp_zr sb a (by omega)).mono ?_); rintro e w_z ⟨rfl, hh⟩
         rw [H5.out]
         try replace a := a.below hh
         try replace b := b.below hh
         try replace q := q.below hh
         try replace r := r.below hh
         try replace p := p.below hh
         try replace qb := qb.below hh
         try replace sm := sm.below hh
         try replace ab := ab.below hh
         try replace sb := sb.below hh
         try replace na := na.below hh
         try replace nn := nn.below hh
         try replace XA := XA.below hh
         try replace XB := XB.below hh
         try replace XQ := XQ.below hh
         try replace XR := XR.below hh
         try replace XP := XP.below hh
         replace hb := bend hb hh)
      | (go_at_call 64; (with_reducible refine (zneg_zr a (by omega)).mono ?_); rintro e w_na ⟨s_na, A_na, n_na, c_na, rfl, na, hh⟩
         try replace a := a.below hh
         try replace b := b.below hh
         try replace q := q.below hh
         try replace r := r.below hh
         try replace p := p.below hh
         try replace qb := qb.below hh
         try replace sm := sm.below hh
         try replace ab := ab.below hh
         try replace sb := sb.below hh
         try replace nn := nn.below hh
         try replace XA := XA.below hh
         try replace XB := XB.below hh
         try replace XQ := XQ.below hh
         try replace XR := XR.below hh
         try replace XP := XP.below hh
         replace hb := bend hb hh)
      | (go_at_call 64; (with_reducible refine (zneg_zr na (by omega)).mono ?_); rintro e w_nn ⟨s_nn, A_nn, n_nn, c_nn, rfl, nn, hh⟩
         try replace a := a.below hh
         try replace b := b.below hh
         try replace q := q.below hh
         try replace r := r.below hh
         try replace p := p.below hh
         try replace qb := qb.below hh
         try replace sm := sm.below hh
         try replace ab := ab.below hh
         try replace sb := sb.below hh
         try replace na := na.below hh
         try replace XA := XA.below hh
         try replace XB := XB.below hh
         try replace XQ := XQ.below hh
         try replace XR := XR.below hh
         try replace XP := XP.below hh
         replace hb := bend hb hh)
      | (go_at_call 60; (with_reducible refine (zcmp_zr nn a (by omega)).mono ?_); rintro e w_z ⟨rfl, hh⟩
         rw [H6.out]
         try replace a := a.below hh
         try replace b := b.below hh
         try replace q := q.below hh
         try replace r := r.below hh
         try replace p := p.below hh
         try replace qb := qb.below hh
         try replace sm := sm.below hh
         try replace ab := ab.below hh
         try replace sb := sb.below hh
         try replace na := na.below hh
         try replace nn := nn.below hh
         try replace XA := XA.below hh
         try replace XB := XB.below hh
         try replace XQ := XQ.below hh
         try replace XR := XR.below hh
         try replace XP := XP.below hh
         replace hb := bend hb hh)
      | (go_at_call 60; (with_reducible refine (zcmp_zr a b (by omega)).mono ?_); rintro e w_z ⟨rfl, hh⟩
         rw [H7.out]
         try replace a := a.below hh
         try replace b := b.below hh
         try replace q := q.below hh
         try replace r := r.below hh
         try replace p := p.below hh
         try replace qb := qb.below hh
         try replace sm := sm.below hh
         try replace ab := ab.below hh
         try replace sb := sb.below hh
         try replace na := na.below hh
         try replace nn := nn.below hh
         try replace XA := XA.below hh
         try replace XB := XB.below hh
         try replace XQ := XQ.below hh
         try replace XR := XR.below hh
         try replace XP := XP.below hh
         replace hb := bend hb hh)
      | (go_at_call 60; (with_reducible refine (zcmp_zr b a (by omega)).mono ?_); rintro e w_z ⟨rfl, hh⟩
         rw [H8.out]
         try replace a := a.below hh
         try replace b := b.below hh
         try replace q := q.below hh
         try replace r := r.below hh
         try replace p := p.below hh
         try replace qb := qb.below hh
         try replace sm := sm.below hh
         try replace ab := ab.below hh
         try replace sb := sb.below hh
         try replace na := na.below hh
         try replace nn := nn.below hh
         try replace XA := XA.below hh
         try replace XB := XB.below hh
         try replace XQ := XQ.below hh
         try replace XR := XR.below hh
         try replace XP := XP.below hh
         replace hb := bend hb hh)
      | (go_at_call 48; (with_reducible refine (zwakes_any _).mono ?_); rintro e w_z ⟨rfl, hh⟩
         try replace a := a.below hh
         try replace b := b.below hh
         try replace q := q.below hh
         try replace r := r.below hh
         try replace p := p.below hh
         try replace qb := qb.below hh
         try replace sm := sm.below hh
         try replace ab := ab.below hh
         try replace sb := sb.below hh
         try replace na := na.below hh
         try replace nn := nn.below hh
         try replace XA := XA.below hh
         try replace XB := XB.below hh
         try replace XQ := XQ.below hh
         try replace XR := XR.below hh
         try replace XP := XP.below hh
         replace hb := bend hb hh))
    go_wp2
    go_ret
    exact ⟨rfl, hb⟩

set_option maxRecDepth 100000 in
set_option maxHeartbeats 4000000 in
theorem zback_pos (s t : Bool) (v x : Int) (A B : Option Addr) (n c' m d : Nat) (w : World) (a : ZR w s A n c' v 40) (b : ZR w t B m d x 40) (hn : n ≤ 40) (hm : m ≤ 40) (hx0 : 0 < x) :
    Calls Try.prog 13 #[.agg #[.bool s, .slice A n c'], .agg #[.bool t, .slice B m d]] w fun e w' => e = .returned (.bool true) ∧ Below w.heap.size w w' := by
    have hx : x ≠ 0 := by omega
    have HL1 : Hid (decide (40 < n) = false) := decide_eq_false (by omega)
    have HL2 : Hid (decide (40 < m) = false) := decide_eq_false (by omega)
    have HX := Lib.hid hx
    have HVB := Lib.hid a.nab
    have H4 : Hid (cmpZ v v = 0) := cmpZ_self v
    have H5 : Hid (cmpZ (v + x - x) v = 0) := by show _ = _; rw [Int.add_sub_cancel]; exact cmpZ_self v
    have H6 : Hid (cmpZ (- -v) v = 0) := by show _ = _; rw [Int.neg_neg]; exact cmpZ_self v
    obtain ⟨K, hK⟩ : ∃ K, cmpZ v x = K := ⟨_, rfl⟩
    obtain ⟨K', hK'⟩ : ∃ K', cmpZ x v = K' := ⟨_, rfl⟩
    have hKK : IntKind.i64.wrap (-K') = K := by rw [← hK, ← hK']; exact cmpZ_swap v x
    have H7 := Lib.hid hK
    have H8 := Lib.hid hK'
    clear hK hK'
    have H1 : Hid (cmpZ (v.fdiv x * x + v.fmod x) v = 0) := by show _ = _; rw [Int.mul_comm, Int.mul_fdiv_add_fmod]; exact cmpZ_self v
    obtain ⟨P, hP⟩ : ∃ P, sgn (v.fmod x) = P := ⟨_, rfl⟩
    obtain ⟨f1, f2, f3⟩ := fmod_zback_pos (v := v) hx0
    rw [hP] at f2
    have HSR := Lib.hid hP
    have HSB := Lib.hid f1
    have HRB := Lib.hid f3
    have hPQ : ¬ IntKind.i64.wrap (P * (1)) < 0 := by rw [IntKind.wrap_i64]; omega
    have hPQ2 : ¬ IntKind.i64.wrap (P) < 0 := by rw [IntKind.wrap_i64]; omega
    clear hx hx0 hP f1 f2 f3
    go_enter Try.func13, Try.ntmps13
    go_wp2_with fail
    generalize hW : (w.alloc (Obj.cells #[Value.bool s, Value.slice A n c'] 63)).alloc (Obj.cells #[Value.bool t, Value.slice B m d] 63) = W
    have hb : Below w.heap.size w W := by subst hW; exact ((Below.refl _ _).alloc (Nat.le_refl _) _).alloc (by simp) _
    have XA : Bx W w.heap.size (.bool s) (.slice A n c') := by subst hW; exact (Bx.new w _ _).alloc _
    have XB : Bx W (w.heap.size + 1) (.bool t) (.slice B m d) := by subst hW; exact Bx.new' _ _ _ _ (by simp)
    clear hW
    replace a := a.below hb
    replace b := b.below hb
    have ca0 := XA.c0
    have ca1 := XA.c1
    have cb0 := XB.c0
    have cb1 := XB.c1
    go_wp2_with (first
      | (go_at_call 47; (refine (large_any s A n c' _).mono ?_); rintro e w_z ⟨rfl, hh⟩
         rw [HL1.out]
         try replace a := a.below hh
         try replace b := b.below hh
         try replace q := q.below hh
         try replace r := r.below hh
         try replace p := p.below hh
         try replace qb := qb.below hh
         try replace sm := sm.below hh
         try replace ab := ab.below hh
         try replace sb := sb.below hh
         try replace na := na.below hh
         try replace nn := nn.below hh
         try replace XA := XA.below hh
         try replace XB := XB.below hh
         try replace XQ := XQ.below hh
         try replace XR := XR.below hh
         try replace XP := XP.below hh
         replace hb := bend hb hh
         have ca0 := XA.c0
         have ca1 := XA.c1
         have cb0 := XB.c0
         have cb1 := XB.c1)
      | (go_at_call 47; (refine (large_any t B m d _).mono ?_); rintro e w_z ⟨rfl, hh⟩
         rw [HL2.out]
         try replace a := a.below hh
         try replace b := b.below hh
         try replace q := q.below hh
         try replace r := r.below hh
         try replace p := p.below hh
         try replace qb := qb.below hh
         try replace sm := sm.below hh
         try replace ab := ab.below hh
         try replace sb := sb.below hh
         try replace na := na.below hh
         try replace nn := nn.below hh
         try replace XA := XA.below hh
         try replace XB := XB.below hh
         try replace XQ := XQ.below hh
         try replace XR := XR.below hh
         try replace XP := XP.below hh
         replace hb := bend hb hh
         have ca0 := XA.c0
         have ca1 := XA.c1
         have cb0 := XB.c0
         have cb1 := XB.c1)
      | (go_at_call 67; (with_reducible refine (zdm_zr 41 a b HX.out (by omega) (by omega) (by omega) (by omega)).mono ?_); rintro e w_q ⟨s_q, A_q, n_q, c_q, s_r, A_r, n_r, c_r, rfl, q, r, hh, -⟩
         try replace a := a.below hh
         try replace b := b.below hh
         try replace p := p.below hh
         try replace qb := qb.below hh
         try replace sm := sm.below hh
         try replace ab := ab.below hh
         try replace sb := sb.below hh
         try replace na := na.below hh
         try replace nn := nn.below hh
         try replace XA := XA.below hh
         try replace XB := XB.below hh
         try replace XQ := XQ.below hh
         try replace XR := XR.below hh
         try replace XP := XP.below hh
         replace hb := bend hb hh))
    generalize hW2 : (w_q.alloc (Obj.cells #[Value.bool s_q, Value.slice A_q n_q c_q] 63)).alloc (Obj.cells #[Value.bool s_r, Value.slice A_r n_r c_r] 63) = W2
    have hh : Below w_q.heap.size w_q W2 := by subst hW2; exact ((Below.refl _ _).alloc (Nat.le_refl _) _).alloc (by simp) _
    have XQ : Bx W2 w_q.heap.size (.bool s_q) (.slice A_q n_q c_q) := by subst hW2; exact (Bx.new w_q _ _).alloc _
    have XR : Bx W2 (w_q.heap.size + 1) (.bool s_r) (.slice A_r n_r c_r) := by subst hW2; exact Bx.new' _ _ _ _ (by simp)
    clear hW2
    replace a := a.below hh
    replace b := b.below hh
    replace q := q.below hh
    replace r := r.below hh
    replace XA := XA.below hh
    replace XB := XB.below hh
    replace hb := bend hb hh
    replace a := a.drew
    replace b := b.drew
    replace q := q.drew
    replace r := r.drew
    replace XA := XA.drew
    replace XB := XB.drew
    replace XQ := XQ.drew
    replace XR := XR.drew
    replace hb := hb.drew
    go_region_held3 (fun w' => w'.cell? ⟨w.heap.size, 0, none⟩ = some (.bool s) ∧ w'.cell? ⟨w.heap.size, 1, none⟩ = some (.slice A n c') ∧ w'.cell? ⟨w.heap.size + 1, 0, none⟩ = some (.bool t) ∧ w'.cell? ⟨w.heap.size + 1, 1, none⟩ = some (.slice B m d) ∧ w'.cell? ⟨w_q.heap.size, 0, none⟩ = some (.bool s_q) ∧ w'.cell? ⟨w_q.heap.size, 1, none⟩ = some (.slice A_q n_q c_q) ∧ w'.cell? ⟨w_q.heap.size + 1, 0, none⟩ = some (.bool s_r) ∧ w'.cell? ⟨w_q.heap.size + 1, 1, none⟩ = some (.slice A_r n_r c_r))
      (first | with_reducible exact ⟨XA.c0, XA.c1, XB.c0, XB.c1, XQ.c0, XQ.c1, XR.c0, XR.c1⟩)
      (first
      | (go_at_call 58; (with_reducible refine (zmul_zr 81 q b (by omega) (by omega) (by omega)).mono ?_); rintro e w_qb ⟨s_qb, A_qb, n_qb, c_qb, rfl, qb, hh⟩
         try replace a := a.below hh
         try replace b := b.below hh
         try replace q := q.below hh
         try replace r := r.below hh
         try replace p := p.below hh
         try replace sm := sm.below hh
         try replace ab := ab.below hh
         try replace sb := sb.below hh
         try replace na := na.below hh
         try replace nn := nn.below hh
         try replace XA := XA.below hh
         try replace XB := XB.below hh
         try replace XQ := XQ.below hh
         try replace XR := XR.below hh
         try replace XP := XP.below hh
         replace hb := bend hb hh)
      | (go_at_call 54; (with_reducible refine (zadd_zr 82 qb r (by omega) (by omega) (by omega)).mono ?_); rintro e w_sm ⟨s_sm, A_sm, n_sm, c_sm, rfl, sm, hh⟩
         try replace a := a.below hh
         try replace b := b.below hh
         try replace q := q.below hh
         try replace r := r.below hh
         try replace p := p.below hh
         try replace qb := qb.below hh
         try replace ab := ab.below hh
         try replace sb := sb.below hh
         try replace na := na.below hh
         try replace nn := nn.below hh
         try replace XA := XA.below hh
         try replace XB := XB.below hh
         try replace XQ := XQ.below hh
         try replace XR := XR.below hh
         try replace XP := XP.below hh
         replace hb := bend hb hh)
      | (go_at_call 60; (with_reducible refine (zcmp_zr sm a (by omega)).mono ?_); rintro e w_z ⟨rfl, hh⟩
         rw [H1.out]
         try replace a := a.below hh
         try replace b := b.below hh
         try replace q := q.below hh
         try replace r := r.below hh
         try replace p := p.below hh
         try replace qb := qb.below hh
         try replace sm := sm.below hh
         try replace ab := ab.below hh
         try replace sb := sb.below hh
         try replace na := na.below hh
         try replace nn := nn.below hh
         try replace XA := XA.below hh
         try replace XB := XB.below hh
         try replace XQ := XQ.below hh
         try replace XR := XR.below hh
         try replace XP := XP.below hh
         replace hb := bend hb hh)
      | (go_at_call 62; (with_reducible refine (sign_zr r (by omega)).mono ?_); rintro e w_z ⟨rfl, hh⟩
         rw [HSR.out]
         try replace a := a.below hh
         try replace b := b.below hh
         try replace q := q.below hh
         try replace r := r.below hh
         try replace p := p.below hh
         try replace qb := qb.below hh
         try replace sm := sm.below hh
         try replace ab := ab.below hh
         try replace sb := sb.below hh
         try replace na := na.below hh
         try replace nn := nn.below hh
         try replace XA := XA.below hh
         try replace XB := XB.below hh
         try replace XQ := XQ.below hh
         try replace XR := XR.below hh
         try replace XP := XP.below hh
         replace hb := bend hb hh)
      | (go_at_call 62; (with_reducible refine (sign_zr b (by omega)).mono ?_); rintro e w_z ⟨rfl, hh⟩
         rw [HSB.out]
         try replace a := a.below hh
         try replace b := b.below hh
         try replace q := q.below hh
         try replace r := r.below hh
         try replace p := p.below hh
         try replace qb := qb.below hh
         try replace sm := sm.below hh
         try replace ab := ab.below hh
         try replace sb := sb.below hh
         try replace na := na.below hh
         try replace nn := nn.below hh
         try replace XA := XA.below hh
         try replace XB := XB.below hh
         try replace XQ := XQ.below hh
         try replace XR := XR.below hh
         try replace XP := XP.below hh
         replace hb := bend hb hh))
    have ca0 := XA.c0
    have ca1 := XA.c1
    have cb0 := XB.c0
    have cb1 := XB.c1
    have cq0 := XQ.c0
    have cq1 := XQ.c1
    have cr0 := XR.c0
    have cr1 := XR.c1
    go_wp2_with (first
      | (go_at_call 62; (with_reducible refine (sign_zr b (by omega)).mono ?_); rintro e w_z ⟨rfl, hh⟩
         rw [HSB.out]
         try replace a := a.below hh
         try replace b := b.below hh
         try replace q := q.below hh
         try replace r := r.below hh
         try replace p := p.below hh
         try replace qb := qb.below hh
         try replace sm := sm.below hh
         try replace ab := ab.below hh
         try replace sb := sb.below hh
         try replace na := na.below hh
         try replace nn := nn.below hh
         try replace XA := XA.below hh
         try replace XB := XB.below hh
         try replace XQ := XQ.below hh
         try replace XR := XR.below hh
         try replace XP := XP.below hh
         replace hb := bend hb hh
         have ca0 := XA.c0
         have ca1 := XA.c1
         have cb0 := XB.c0
         have cb1 := XB.c1
         have cq0 := XQ.c0
         have cq1 := XQ.c1
         have cr0 := XR.c0
         have cr1 := XR.c1)
      | (go_at_call 60; (with_reducible refine (zcmp_zr r b (by omega)).mono ?_); rintro e w_z ⟨rfl, hh⟩
         rw [HRB.out]
         try replace a := a.below hh
         try replace b := b.below hh
         try replace q := q.below hh
         try replace r := r.below hh
         try replace p := p.below hh
         try replace qb := qb.below hh
         try replace sm := sm.below hh
         try replace ab := ab.below hh
         try replace sb := sb.below hh
         try replace na := na.below hh
         try replace nn := nn.below hh
         try replace XA := XA.below hh
         try replace XB := XB.below hh
         try replace XQ := XQ.below hh
         try replace XR := XR.below hh
         try replace XP := XP.below hh
         replace hb := bend hb hh
         have ca0 := XA.c0
         have ca1 := XA.c1
         have cb0 := XB.c0
         have cb1 := XB.c1
         have cq0 := XQ.c0
         have cq1 := XQ.c1
         have cr0 := XR.c0
         have cr1 := XR.c1)
      | (go_at_call 73; (with_reducible refine (ztext_zr a (by omega)).mono ?_); rintro e w_z ⟨rfl, hh⟩
         try replace a := a.below hh
         try replace b := b.below hh
         try replace q := q.below hh
         try replace r := r.below hh
         try replace p := p.below hh
         try replace qb := qb.below hh
         try replace sm := sm.below hh
         try replace ab := ab.below hh
         try replace sb := sb.below hh
         try replace na := na.below hh
         try replace nn := nn.below hh
         try replace XA := XA.below hh
         try replace XB := XB.below hh
         try replace XQ := XQ.below hh
         try replace XR := XR.below hh
         try replace XP := XP.below hh
         replace hb := bend hb hh
         have ca0 := XA.c0
         have ca1 := XA.c1
         have cb0 := XB.c0
         have cb1 := XB.c1)
      | (go_at_call 69; (with_reducible refine (zparse_txt 40 _ HVB.out (by omega)).mono ?_); rintro e w_p ⟨A_p, n_p, c_p, rfl, p, -, -, hh⟩
         try replace a := a.below hh
         try replace b := b.below hh
         try replace q := q.below hh
         try replace r := r.below hh
         try replace qb := qb.below hh
         try replace sm := sm.below hh
         try replace ab := ab.below hh
         try replace sb := sb.below hh
         try replace na := na.below hh
         try replace nn := nn.below hh
         try replace XA := XA.below hh
         try replace XB := XB.below hh
         try replace XQ := XQ.below hh
         try replace XR := XR.below hh
         try replace XP := XP.below hh
         replace hb := bend hb hh))
    generalize hW3 : w_p.alloc (Obj.cells #[Value.bool (decide (v < 0)), Value.slice A_p n_p c_p] 63) = W3
    have hh3 : Below w_p.heap.size w_p W3 := by subst hW3; exact (Below.refl _ _).alloc (Nat.le_refl _) _
    have XP : Bx W3 w_p.heap.size (.bool (decide (v < 0))) (.slice A_p n_p c_p) := by subst hW3; exact Bx.new w_p _ _
    clear hW3
    replace a := a.below hh3
    replace b := b.below hh3
    replace p := p.below hh3
    replace XA := XA.below hh3
    replace XB := XB.below hh3
    replace hb := bend hb hh3
    replace a := a.drew
    replace b := b.drew
    replace p := p.drew
    replace XA := XA.drew
    replace XB := XB.drew
    replace XP := XP.drew
    replace hb := hb.drew
    go_region_held3 (fun w' => w'.cell? ⟨w.heap.size, 0, none⟩ = some (.bool s) ∧ w'.cell? ⟨w.heap.size, 1, none⟩ = some (.slice A n c') ∧ w'.cell? ⟨w.heap.size + 1, 0, none⟩ = some (.bool t) ∧ w'.cell? ⟨w.heap.size + 1, 1, none⟩ = some (.slice B m d) ∧ w'.cell? ⟨w_p.heap.size, 0, none⟩ = some (.bool (decide (v < 0))) ∧ w'.cell? ⟨w_p.heap.size, 1, none⟩ = some (.slice A_p n_p c_p))
      (first | with_reducible exact ⟨XA.c0, XA.c1, XB.c0, XB.c1, XP.c0, XP.c1⟩)
      (first
      | (go_at_call 60; (with_reducible refine (zcmp_zr p a (by omega)).mono ?_); rintro e w_z ⟨rfl, hh⟩
         rw [H4.out]
         try replace a := a.below hh
         try replace b := b.below hh
         try replace q := q.below hh
         try replace r := r.below hh
         try replace p := p.below hh
         try replace qb := qb.below hh
         try replace sm := sm.below hh
         try replace ab := ab.below hh
         try replace sb := sb.below hh
         try replace na := na.below hh
         try replace nn := nn.below hh
         try replace XA := XA.below hh
         try replace XB := XB.below hh
         try replace XQ := XQ.below hh
         try replace XR := XR.below hh
         try replace XP := XP.below hh
         replace hb := bend hb hh)
      | (go_at_call 54; (with_reducible refine (zadd_zr 41 a b (by omega) (by omega) (by omega)).mono ?_); rintro e w_ab ⟨s_ab, A_ab, n_ab, c_ab, rfl, ab, hh⟩
         try replace a := a.below hh
         try replace b := b.below hh
         try replace q := q.below hh
         try replace r := r.below hh
         try replace p := p.below hh
         try replace qb := qb.below hh
         try replace sm := sm.below hh
         try replace sb := sb.below hh
         try replace na := na.below hh
         try replace nn := nn.below hh
         try replace XA := XA.below hh
         try replace XB := XB.below hh
         try replace XQ := XQ.below hh
         try replace XR := XR.below hh
         try replace XP := XP.below hh
         replace hb := bend hb hh)
      | (go_at_call 56; (with_reducible refine (zsub_zr 42 ab b (by omega) (by omega) (by omega)).mono ?_); rintro e w_sb ⟨s_sb, A_sb, n_sb, c_sb, rfl, sb, hh⟩
         try replace a := a.below hh
         try replace b := b.below hh
         try replace q := q.below hh
         try replace r := r.below hh
         try replace p := p.below hh
         try replace qb := qb.below hh
         try replace sm := sm.below hh
         try replace ab := ab.below hh
         try replace na := na.below hh
         try replace nn := nn.below hh
         try replace XA := XA.below hh
         try replace XB := XB.below hh
         try replace XQ := XQ.below hh
         try replace XR := XR.below hh
         try replace XP := XP.below hh
         replace hb := bend hb hh)
      | (go_at_call 60; (with_reducible refine (zcmp_zr sb a (by omega)).mono ?_); rintro e w_z ⟨rfl, hh⟩
         rw [H5.out]
         try replace a := a.below hh
         try replace b := b.below hh
         try replace q := q.below hh
         try replace r := r.below hh
         try replace p := p.below hh
         try replace qb := qb.below hh
         try replace sm := sm.below hh
         try replace ab := ab.below hh
         try replace sb := sb.below hh
         try replace na := na.below hh
         try replace nn := nn.below hh
         try replace XA := XA.below hh
         try replace XB := XB.below hh
         try replace XQ := XQ.below hh
         try replace XR := XR.below hh
         try replace XP := XP.below hh
         replace hb := bend hb hh)
      | (go_at_call 64; (with_reducible refine (zneg_zr a (by omega)).mono ?_); rintro e w_na ⟨s_na, A_na, n_na, c_na, rfl, na, hh⟩
         try replace a := a.below hh
         try replace b := b.below hh
         try replace q := q.below hh
         try replace r := r.below hh
         try replace p := p.below hh
         try replace qb := qb.below hh
         try replace sm := sm.below hh
         try replace ab := ab.below hh
         try replace sb := sb.below hh
         try replace nn := nn.below hh
         try replace XA := XA.below hh
         try replace XB := XB.below hh
         try replace XQ := XQ.below hh
         try replace XR := XR.below hh
         try replace XP := XP.below hh
         replace hb := bend hb hh)
      | (go_at_call 64; (with_reducible refine (zneg_zr na (by omega)).mono ?_); rintro e w_nn ⟨s_nn, A_nn, n_nn, c_nn, rfl, nn, hh⟩
         try replace a := a.below hh
         try replace b := b.below hh
         try replace q := q.below hh
         try replace r := r.below hh
         try replace p := p.below hh
         try replace qb := qb.below hh
         try replace sm := sm.below hh
         try replace ab := ab.below hh
         try replace sb := sb.below hh
         try replace na := na.below hh
         try replace XA := XA.below hh
         try replace XB := XB.below hh
         try replace XQ := XQ.below hh
         try replace XR := XR.below hh
         try replace XP := XP.below hh
         replace hb := bend hb hh)
      | (go_at_call 60; (with_reducible refine (zcmp_zr nn a (by omega)).mono ?_); rintro e w_z ⟨rfl, hh⟩
         rw [H6.out]
         try replace a := a.below hh
         try replace b := b.below hh
         try replace q := q.below hh
         try replace r := r.below hh
         try replace p := p.below hh
         try replace qb := qb.below hh
         try replace sm := sm.below hh
         try replace ab := ab.below hh
         try replace sb := sb.below hh
         try replace na := na.below hh
         try replace nn := nn.below hh
         try replace XA := XA.below hh
         try replace XB := XB.below hh
         try replace XQ := XQ.below hh
         try replace XR := XR.below hh
         try replace XP := XP.below hh
         replace hb := bend hb hh)
      | (go_at_call 60; (with_reducible refine (zcmp_zr a b (by omega)).mono ?_); rintro e w_z ⟨rfl, hh⟩
         rw [H7.out]
         try replace a := a.below hh
         try replace b := b.below hh
         try replace q := q.below hh
         try replace r := r.below hh
         try replace p := p.below hh
         try replace qb := qb.below hh
         try replace sm := sm.below hh
         try replace ab := ab.below hh
         try replace sb := sb.below hh
         try replace na := na.below hh
         try replace nn := nn.below hh
         try replace XA := XA.below hh
         try replace XB := XB.below hh
         try replace XQ := XQ.below hh
         try replace XR := XR.below hh
         try replace XP := XP.below hh
         replace hb := bend hb hh)
      | (go_at_call 60; (with_reducible refine (zcmp_zr b a (by omega)).mono ?_); rintro e w_z ⟨rfl, hh⟩
         rw [H8.out]
         try replace a := a.below hh
         try replace b := b.below hh
         try replace q := q.below hh
         try replace r := r.below hh
         try replace p := p.below hh
         try replace qb := qb.below hh
         try replace sm := sm.below hh
         try replace ab := ab.below hh
         try replace sb := sb.below hh
         try replace na := na.below hh
         try replace nn := nn.below hh
         try replace XA := XA.below hh
         try replace XB := XB.below hh
         try replace XQ := XQ.below hh
         try replace XR := XR.below hh
         try replace XP := XP.below hh
         replace hb := bend hb hh)
      | (go_at_call 48; (with_reducible refine (zwakes_any _).mono ?_); rintro e w_z ⟨rfl, hh⟩
         try replace a := a.below hh
         try replace b := b.below hh
         try replace q := q.below hh
         try replace r := r.below hh
         try replace p := p.below hh
         try replace qb := qb.below hh
         try replace sm := sm.below hh
         try replace ab := ab.below hh
         try replace sb := sb.below hh
         try replace na := na.below hh
         try replace nn := nn.below hh
         try replace XA := XA.below hh
         try replace XB := XB.below hh
         try replace XQ := XQ.below hh
         try replace XR := XR.below hh
         try replace XP := XP.below hh
         replace hb := bend hb hh))
    go_wp2
    go_ret
    exact ⟨rfl, hb⟩

set_option maxRecDepth 100000 in
set_option maxHeartbeats 4000000 in
theorem zback_neg (s t : Bool) (v x : Int) (A B : Option Addr) (n c' m d : Nat) (w : World) (a : ZR w s A n c' v 40) (b : ZR w t B m d x 40) (hn : n ≤ 40) (hm : m ≤ 40) (hx0 : x < 0) :
    Calls Try.prog 13 #[.agg #[.bool s, .slice A n c'], .agg #[.bool t, .slice B m d]] w fun e w' => e = .returned (.bool true) ∧ Below w.heap.size w w' := by
    have hx : x ≠ 0 := by omega
    have HL1 : Hid (decide (40 < n) = false) := decide_eq_false (by omega)
    have HL2 : Hid (decide (40 < m) = false) := decide_eq_false (by omega)
    have HX := Lib.hid hx
    have HVB := Lib.hid a.nab
    have H4 : Hid (cmpZ v v = 0) := cmpZ_self v
    have H5 : Hid (cmpZ (v + x - x) v = 0) := by show _ = _; rw [Int.add_sub_cancel]; exact cmpZ_self v
    have H6 : Hid (cmpZ (- -v) v = 0) := by show _ = _; rw [Int.neg_neg]; exact cmpZ_self v
    obtain ⟨K, hK⟩ : ∃ K, cmpZ v x = K := ⟨_, rfl⟩
    obtain ⟨K', hK'⟩ : ∃ K', cmpZ x v = K' := ⟨_, rfl⟩
    have hKK : IntKind.i64.wrap (-K') = K := by rw [← hK, ← hK']; exact cmpZ_swap v x
    have H7 := Lib.hid hK
    have H8 := Lib.hid hK'
    clear hK hK'
    have H1 : Hid (cmpZ (v.fdiv x * x + v.fmod x) v = 0) := by show _ = _; rw [Int.mul_comm, Int.mul_fdiv_add_fmod]; exact cmpZ_self v
    obtain ⟨P, hP⟩ : ∃ P, sgn (v.fmod x) = P := ⟨_, rfl⟩
    obtain ⟨f1, f2, f3⟩ := fmod_zback_neg (v := v) hx0
    rw [hP] at f2
    have HSR := Lib.hid hP
    have HSB := Lib.hid f1
    have HRB := Lib.hid f3
    have hPQ : ¬ IntKind.i64.wrap (P * (-1)) < 0 := by rw [IntKind.wrap_i64]; omega
    have hPQ2 : ¬ IntKind.i64.wrap (-P) < 0 := by rw [IntKind.wrap_i64]; omega
    clear hx hx0 hP f1 f2 f3
    go_enter Try.func13, Try.ntmps13
    go_wp2_with fail
    generalize hW : (w.alloc (Obj.cells #[Value.bool s, Value.slice A n c'] 63)).alloc (Obj.cells #[Value.bool t, Value.slice B m d] 63) = W
    have hb : Below w.heap.size w W := by subst hW; exact ((Below.refl _ _).alloc (Nat.le_refl _) _).alloc (by simp) _
    have XA : Bx W w.heap.size (.bool s) (.slice A n c') := by subst hW; exact (Bx.new w _ _).alloc _
    have XB : Bx W (w.heap.size + 1) (.bool t) (.slice B m d) := by subst hW; exact Bx.new' _ _ _ _ (by simp)
    clear hW
    replace a := a.below hb
    replace b := b.below hb
    have ca0 := XA.c0
    have ca1 := XA.c1
    have cb0 := XB.c0
    have cb1 := XB.c1
    go_wp2_with (first
      | (go_at_call 47; (refine (large_any s A n c' _).mono ?_); rintro e w_z ⟨rfl, hh⟩
         rw [HL1.out]
         try replace a := a.below hh
         try replace b := b.below hh
         try replace q := q.below hh
         try replace r := r.below hh
         try replace p := p.below hh
         try replace qb := qb.below hh
         try replace sm := sm.below hh
         try replace ab := ab.below hh
         try replace sb := sb.below hh
         try replace na := na.below hh
         try replace nn := nn.below hh
         try replace XA := XA.below hh
         try replace XB := XB.below hh
         try replace XQ := XQ.below hh
         try replace XR := XR.below hh
         try replace XP := XP.below hh
         replace hb := bend hb hh
         have ca0 := XA.c0
         have ca1 := XA.c1
         have cb0 := XB.c0
         have cb1 := XB.c1)
      | (go_at_call 47; (refine (large_any t B m d _).mono ?_); rintro e w_z ⟨rfl, hh⟩
         rw [HL2.out]
         try replace a := a.below hh
         try replace b := b.below hh
         try replace q := q.below hh
         try replace r := r.below hh
         try replace p := p.below hh
         try replace qb := qb.below hh
         try replace sm := sm.below hh
         try replace ab := ab.below hh
         try replace sb := sb.below hh
         try replace na := na.below hh
         try replace nn := nn.below hh
         try replace XA := XA.below hh
         try replace XB := XB.below hh
         try replace XQ := XQ.below hh
         try replace XR := XR.below hh
         try replace XP := XP.below hh
         replace hb := bend hb hh
         have ca0 := XA.c0
         have ca1 := XA.c1
         have cb0 := XB.c0
         have cb1 := XB.c1)
      | (go_at_call 67; (with_reducible refine (zdm_zr 41 a b HX.out (by omega) (by omega) (by omega) (by omega)).mono ?_); rintro e w_q ⟨s_q, A_q, n_q, c_q, s_r, A_r, n_r, c_r, rfl, q, r, hh, -⟩
         try replace a := a.below hh
         try replace b := b.below hh
         try replace p := p.below hh
         try replace qb := qb.below hh
         try replace sm := sm.below hh
         try replace ab := ab.below hh
         try replace sb := sb.below hh
         try replace na := na.below hh
         try replace nn := nn.below hh
         try replace XA := XA.below hh
         try replace XB := XB.below hh
         try replace XQ := XQ.below hh
         try replace XR := XR.below hh
         try replace XP := XP.below hh
         replace hb := bend hb hh))
    generalize hW2 : (w_q.alloc (Obj.cells #[Value.bool s_q, Value.slice A_q n_q c_q] 63)).alloc (Obj.cells #[Value.bool s_r, Value.slice A_r n_r c_r] 63) = W2
    have hh : Below w_q.heap.size w_q W2 := by subst hW2; exact ((Below.refl _ _).alloc (Nat.le_refl _) _).alloc (by simp) _
    have XQ : Bx W2 w_q.heap.size (.bool s_q) (.slice A_q n_q c_q) := by subst hW2; exact (Bx.new w_q _ _).alloc _
    have XR : Bx W2 (w_q.heap.size + 1) (.bool s_r) (.slice A_r n_r c_r) := by subst hW2; exact Bx.new' _ _ _ _ (by simp)
    clear hW2
    replace a := a.below hh
    replace b := b.below hh
    replace q := q.below hh
    replace r := r.below hh
    replace XA := XA.below hh
    replace XB := XB.below hh
    replace hb := bend hb hh
    replace a := a.drew
    replace b := b.drew
    replace q := q.drew
    replace r := r.drew
    replace XA := XA.drew
    replace XB := XB.drew
    replace XQ := XQ.drew
    replace XR := XR.drew
    replace hb := hb.drew
    go_region_held3 (fun w' => w'.cell? ⟨w.heap.size, 0, none⟩ = some (.bool s) ∧ w'.cell? ⟨w.heap.size, 1, none⟩ = some (.slice A n c') ∧ w'.cell? ⟨w.heap.size + 1, 0, none⟩ = some (.bool t) ∧ w'.cell? ⟨w.heap.size + 1, 1, none⟩ = some (.slice B m d) ∧ w'.cell? ⟨w_q.heap.size, 0, none⟩ = some (.bool s_q) ∧ w'.cell? ⟨w_q.heap.size, 1, none⟩ = some (.slice A_q n_q c_q) ∧ w'.cell? ⟨w_q.heap.size + 1, 0, none⟩ = some (.bool s_r) ∧ w'.cell? ⟨w_q.heap.size + 1, 1, none⟩ = some (.slice A_r n_r c_r))
      (first | with_reducible exact ⟨XA.c0, XA.c1, XB.c0, XB.c1, XQ.c0, XQ.c1, XR.c0, XR.c1⟩)
      (first
      | (go_at_call 58; (with_reducible refine (zmul_zr 81 q b (by omega) (by omega) (by omega)).mono ?_); rintro e w_qb ⟨s_qb, A_qb, n_qb, c_qb, rfl, qb, hh⟩
         try replace a := a.below hh
         try replace b := b.below hh
         try replace q := q.below hh
         try replace r := r.below hh
         try replace p := p.below hh
         try replace sm := sm.below hh
         try replace ab := ab.below hh
         try replace sb := sb.below hh
         try replace na := na.below hh
         try replace nn := nn.below hh
         try replace XA := XA.below hh
         try replace XB := XB.below hh
         try replace XQ := XQ.below hh
         try replace XR := XR.below hh
         try replace XP := XP.below hh
         replace hb := bend hb hh)
      | (go_at_call 54; (with_reducible refine (zadd_zr 82 qb r (by omega) (by omega) (by omega)).mono ?_); rintro e w_sm ⟨s_sm, A_sm, n_sm, c_sm, rfl, sm, hh⟩
         try replace a := a.below hh
         try replace b := b.below hh
         try replace q := q.below hh
         try replace r := r.below hh
         try replace p := p.below hh
         try replace qb := qb.below hh
         try replace ab := ab.below hh
         try replace sb := sb.below hh
         try replace na := na.below hh
         try replace nn := nn.below hh
         try replace XA := XA.below hh
         try replace XB := XB.below hh
         try replace XQ := XQ.below hh
         try replace XR := XR.below hh
         try replace XP := XP.below hh
         replace hb := bend hb hh)
      | (go_at_call 60; (with_reducible refine (zcmp_zr sm a (by omega)).mono ?_); rintro e w_z ⟨rfl, hh⟩
         rw [H1.out]
         try replace a := a.below hh
         try replace b := b.below hh
         try replace q := q.below hh
         try replace r := r.below hh
         try replace p := p.below hh
         try replace qb := qb.below hh
         try replace sm := sm.below hh
         try replace ab := ab.below hh
         try replace sb := sb.below hh
         try replace na := na.below hh
         try replace nn := nn.below hh
         try replace XA := XA.below hh
         try replace XB := XB.below hh
         try replace XQ := XQ.below hh
         try replace XR := XR.below hh
         try replace XP := XP.below hh
         replace hb := bend hb hh)
      | (go_at_call 62; (with_reducible refine (sign_zr r (by omega)).mono ?_); rintro e w_z ⟨rfl, hh⟩
         rw [HSR.out]
         try replace a := a.below hh
         try replace b := b.below hh
         try replace q := q.below hh
         try replace r := r.below hh
         try replace p := p.below hh
         try replace qb := qb.below hh
         try replace sm := sm.below hh
         try replace ab := ab.below hh
         try replace sb := sb.below hh
         try replace na := na.below hh
         try replace nn := nn.below hh
         try replace XA := XA.below hh
         try replace XB := XB.below hh
         try replace XQ := XQ.below hh
         try replace XR := XR.below hh
         try replace XP := XP.below hh
         replace hb := bend hb hh)
      | (go_at_call 62; (with_reducible refine (sign_zr b (by omega)).mono ?_); rintro e w_z ⟨rfl, hh⟩
         rw [HSB.out]
         try replace a := a.below hh
         try replace b := b.below hh
         try replace q := q.below hh
         try replace r := r.below hh
         try replace p := p.below hh
         try replace qb := qb.below hh
         try replace sm := sm.below hh
         try replace ab := ab.below hh
         try replace sb := sb.below hh
         try replace na := na.below hh
         try replace nn := nn.below hh
         try replace XA := XA.below hh
         try replace XB := XB.below hh
         try replace XQ := XQ.below hh
         try replace XR := XR.below hh
         try replace XP := XP.below hh
         replace hb := bend hb hh))
    have ca0 := XA.c0
    have ca1 := XA.c1
    have cb0 := XB.c0
    have cb1 := XB.c1
    have cq0 := XQ.c0
    have cq1 := XQ.c1
    have cr0 := XR.c0
    have cr1 := XR.c1
    go_wp2_with (first
      | (go_at_call 62; (with_reducible refine (sign_zr b (by omega)).mono ?_); rintro e w_z ⟨rfl, hh⟩
         rw [HSB.out]
         try replace a := a.below hh
         try replace b := b.below hh
         try replace q := q.below hh
         try replace r := r.below hh
         try replace p := p.below hh
         try replace qb := qb.below hh
         try replace sm := sm.below hh
         try replace ab := ab.below hh
         try replace sb := sb.below hh
         try replace na := na.below hh
         try replace nn := nn.below hh
         try replace XA := XA.below hh
         try replace XB := XB.below hh
         try replace XQ := XQ.below hh
         try replace XR := XR.below hh
         try replace XP := XP.below hh
         replace hb := bend hb hh
         have ca0 := XA.c0
         have ca1 := XA.c1
         have cb0 := XB.c0
         have cb1 := XB.c1
         have cq0 := XQ.c0
         have cq1 := XQ.c1
         have cr0 := XR.c0
         have cr1 := XR.c1)
      | (go_at_call 60; (with_reducible refine (zcmp_zr r b (by omega)).mono ?_); rintro e w_z ⟨rfl, hh⟩
         rw [HRB.out]
         try replace a := a.below hh
         try replace b := b.below hh
         try replace q := q.below hh
         try replace r := r.below hh
         try replace p := p.below hh
         try replace qb := qb.below hh
         try replace sm := sm.below hh
         try replace ab := ab.below hh
         try replace sb := sb.below hh
         try replace na := na.below hh
         try replace nn := nn.below hh
         try replace XA := XA.below hh
         try replace XB := XB.below hh
         try replace XQ := XQ.below hh
         try replace XR := XR.below hh
         try replace XP := XP.below hh
         replace hb := bend hb hh
         have ca0 := XA.c0
         have ca1 := XA.c1
         have cb0 := XB.c0
         have cb1 := XB.c1
         have cq0 := XQ.c0
         have cq1 := XQ.c1
         have cr0 := XR.c0
         have cr1 := XR.c1)
      | (go_at_call 73; (with_reducible refine (ztext_zr a (by omega)).mono ?_); rintro e w_z ⟨rfl, hh⟩
         try replace a := a.below hh
         try replace b := b.below hh
         try replace q := q.below hh
         try replace r := r.below hh
         try replace p := p.below hh
         try replace qb := qb.below hh
         try replace sm := sm.below hh
         try replace ab := ab.below hh
         try replace sb := sb.below hh
         try replace na := na.below hh
         try replace nn := nn.below hh
         try replace XA := XA.below hh
         try replace XB := XB.below hh
         try replace XQ := XQ.below hh
         try replace XR := XR.below hh
         try replace XP := XP.below hh
         replace hb := bend hb hh
         have ca0 := XA.c0
         have ca1 := XA.c1
         have cb0 := XB.c0
         have cb1 := XB.c1)
      | (go_at_call 69; (with_reducible refine (zparse_txt 40 _ HVB.out (by omega)).mono ?_); rintro e w_p ⟨A_p, n_p, c_p, rfl, p, -, -, hh⟩
         try replace a := a.below hh
         try replace b := b.below hh
         try replace q := q.below hh
         try replace r := r.below hh
         try replace qb := qb.below hh
         try replace sm := sm.below hh
         try replace ab := ab.below hh
         try replace sb := sb.below hh
         try replace na := na.below hh
         try replace nn := nn.below hh
         try replace XA := XA.below hh
         try replace XB := XB.below hh
         try replace XQ := XQ.below hh
         try replace XR := XR.below hh
         try replace XP := XP.below hh
         replace hb := bend hb hh))
    generalize hW3 : w_p.alloc (Obj.cells #[Value.bool (decide (v < 0)), Value.slice A_p n_p c_p] 63) = W3
    have hh3 : Below w_p.heap.size w_p W3 := by subst hW3; exact (Below.refl _ _).alloc (Nat.le_refl _) _
    have XP : Bx W3 w_p.heap.size (.bool (decide (v < 0))) (.slice A_p n_p c_p) := by subst hW3; exact Bx.new w_p _ _
    clear hW3
    replace a := a.below hh3
    replace b := b.below hh3
    replace p := p.below hh3
    replace XA := XA.below hh3
    replace XB := XB.below hh3
    replace hb := bend hb hh3
    replace a := a.drew
    replace b := b.drew
    replace p := p.drew
    replace XA := XA.drew
    replace XB := XB.drew
    replace XP := XP.drew
    replace hb := hb.drew
    go_region_held3 (fun w' => w'.cell? ⟨w.heap.size, 0, none⟩ = some (.bool s) ∧ w'.cell? ⟨w.heap.size, 1, none⟩ = some (.slice A n c') ∧ w'.cell? ⟨w.heap.size + 1, 0, none⟩ = some (.bool t) ∧ w'.cell? ⟨w.heap.size + 1, 1, none⟩ = some (.slice B m d) ∧ w'.cell? ⟨w_p.heap.size, 0, none⟩ = some (.bool (decide (v < 0))) ∧ w'.cell? ⟨w_p.heap.size, 1, none⟩ = some (.slice A_p n_p c_p))
      (first | with_reducible exact ⟨XA.c0, XA.c1, XB.c0, XB.c1, XP.c0, XP.c1⟩)
      (first
      | (go_at_call 60; (with_reducible refine (zcmp_zr p a (by omega)).mono ?_); rintro e w_z ⟨rfl, hh⟩
         rw [H4.out]
         try replace a := a.below hh
         try replace b := b.below hh
         try replace q := q.below hh
         try replace r := r.below hh
         try replace p := p.below hh
         try replace qb := qb.below hh
         try replace sm := sm.below hh
         try replace ab := ab.below hh
         try replace sb := sb.below hh
         try replace na := na.below hh
         try replace nn := nn.below hh
         try replace XA := XA.below hh
         try replace XB := XB.below hh
         try replace XQ := XQ.below hh
         try replace XR := XR.below hh
         try replace XP := XP.below hh
         replace hb := bend hb hh)
      | (go_at_call 54; (with_reducible refine (zadd_zr 41 a b (by omega) (by omega) (by omega)).mono ?_); rintro e w_ab ⟨s_ab, A_ab, n_ab, c_ab, rfl, ab, hh⟩
         try replace a := a.below hh
         try replace b := b.below hh
         try replace q := q.below hh
         try replace r := r.below hh
         try replace p := p.below hh
         try replace qb := qb.below hh
         try replace sm := sm.below hh
         try replace sb := sb.below hh
         try replace na := na.below hh
         try replace nn := nn.below hh
         try replace XA := XA.below hh
         try replace XB := XB.below hh
         try replace XQ := XQ.below hh
         try replace XR := XR.below hh
         try replace XP := XP.below hh
         replace hb := bend hb hh)
      | (go_at_call 56; (with_reducible refine (zsub_zr 42 ab b (by omega) (by omega) (by omega)).mono ?_); rintro e w_sb ⟨s_sb, A_sb, n_sb, c_sb, rfl, sb, hh⟩
         try replace a := a.below hh
         try replace b := b.below hh
         try replace q := q.below hh
         try replace r := r.below hh
         try replace p := p.below hh
         try replace qb := qb.below hh
         try replace sm := sm.below hh
         try replace ab := ab.below hh
         try replace na := na.below hh
         try replace nn := nn.below hh
         try replace XA := XA.below hh
         try replace XB := XB.below hh
         try replace XQ := XQ.below hh
         try replace XR := XR.below hh
         try replace XP := XP.below hh
         replace hb := bend hb hh)
      | (go_at_call 60; (with_reducible refine (zcmp_zr sb a (by omega)).mono ?_); rintro e w_z ⟨rfl, hh⟩
         rw [H5.out]
         try replace a := a.below hh
         try replace b := b.below hh
         try replace q := q.below hh
         try replace r := r.below hh
         try replace p := p.below hh
         try replace qb := qb.below hh
         try replace sm := sm.below hh
         try replace ab := ab.below hh
         try replace sb := sb.below hh
         try replace na := na.below hh
         try replace nn := nn.below hh
         try replace XA := XA.below hh
         try replace XB := XB.below hh
         try replace XQ := XQ.below hh
         try replace XR := XR.below hh
         try replace XP := XP.below hh
         replace hb := bend hb hh)
      | (go_at_call 64; (with_reducible refine (zneg_zr a (by omega)).mono ?_); rintro e w_na ⟨s_na, A_na, n_na, c_na, rfl, na, hh⟩
         try replace a := a.below hh
         try replace b := b.below hh
         try replace q := q.below hh
         try replace r := r.below hh
         try replace p := p.below hh
         try replace qb := qb.below hh
         try replace sm := sm.below hh
         try replace ab := ab.below hh
         try replace sb := sb.below hh
         try replace nn := nn.below hh
         try replace XA := XA.below hh
         try replace XB := XB.below hh
         try replace XQ := XQ.below hh
         try replace XR := XR.below hh
         try replace XP := XP.below hh
         replace hb := bend hb hh)
      | (go_at_call 64; (with_reducible refine (zneg_zr na (by omega)).mono ?_); rintro e w_nn ⟨s_nn, A_nn, n_nn, c_nn, rfl, nn, hh⟩
         try replace a := a.below hh
         try replace b := b.below hh
         try replace q := q.below hh
         try replace r := r.below hh
         try replace p := p.below hh
         try replace qb := qb.below hh
         try replace sm := sm.below hh
         try replace ab := ab.below hh
         try replace sb := sb.below hh
         try replace na := na.below hh
         try replace XA := XA.below hh
         try replace XB := XB.below hh
         try replace XQ := XQ.below hh
         try replace XR := XR.below hh
         try replace XP := XP.below hh
         replace hb := bend hb hh)
      | (go_at_call 60; (with_reducible refine (zcmp_zr nn a (by omega)).mono ?_); rintro e w_z ⟨rfl, hh⟩
         rw [H6.out]
         try replace a := a.below hh
         try replace b := b.below hh
         try replace q := q.below hh
         try replace r := r.below hh
         try replace p := p.below hh
         try replace qb := qb.below hh
         try replace sm := sm.below hh
         try replace ab := ab.below hh
         try replace sb := sb.below hh
         try replace na := na.below hh
         try replace nn := nn.below hh
         try replace XA := XA.below hh
         try replace XB := XB.below hh
         try replace XQ := XQ.below hh
         try replace XR := XR.below hh
         try replace XP := XP.below hh
         replace hb := bend hb hh)
      | (go_at_call 60; (with_reducible refine (zcmp_zr a b (by omega)).mono ?_); rintro e w_z ⟨rfl, hh⟩
         rw [H7.out]
         try replace a := a.below hh
         try replace b := b.below hh
         try replace q := q.below hh
         try replace r := r.below hh
         try replace p := p.below hh
         try replace qb := qb.below hh
         try replace sm := sm.below hh
         try replace ab := ab.below hh
         try replace sb := sb.below hh
         try replace na := na.below hh
         try replace nn := nn.below hh
         try replace XA := XA.below hh
         try replace XB := XB.below hh
         try replace XQ := XQ.below hh
         try replace XR := XR.below hh
         try replace XP := XP.below hh
         replace hb := bend hb hh)
      | (go_at_call 60; (with_reducible refine (zcmp_zr b a (by omega)).mono ?_); rintro e w_z ⟨rfl, hh⟩
         rw [H8.out]
         try replace a := a.below hh
         try replace b := b.below hh
         try replace q := q.below hh
         try replace r := r.below hh
         try replace p := p.below hh
         try replace qb := qb.below hh
         try replace sm := sm.below hh
         try replace ab := ab.below hh
         try replace sb := sb.below hh
         try replace na := na.below hh
         try replace nn := nn.below hh
         try replace XA := XA.below hh
         try replace XB := XB.below hh
         try replace XQ := XQ.below hh
         try replace XR := XR.below hh
         try replace XP := XP.below hh
         replace hb := bend hb hh)
      | (go_at_call 48; (with_reducible refine (zwakes_any _).mono ?_); rintro e w_z ⟨rfl, hh⟩
         try replace a := a.below hh
         try replace b := b.below hh
         try replace q := q.below hh
         try replace r := r.below hh
         try replace p := p.below hh
         try replace qb := qb.below hh
         try replace sm := sm.below hh
         try replace ab := ab.below hh
         try replace sb := sb.below hh
         try replace na := na.below hh
         try replace nn := nn.below hh
         try replace XA := XA.below hh
         try replace XB := XB.below hh
         try replace XQ := XQ.below hh
         try replace XR := XR.below hh
         try replace XP := XP.below hh
         replace hb := bend hb hh))
    go_wp2
    go_ret
    exact ⟨rfl, hb⟩

set_option maxRecDepth 100000 in
theorem law_zback (s t : Bool) (la lb : List Nat) (A B : Option Addr) (n c' m d : Nat) (w : World) (ha : Rd .u64 w A n la) (hb0 : Rd .u64 w B m lb) (La : Lim B64 la) (Lb : Lim B64 lb) (hnc : n ≤ c') (hmd : m ≤ d) :
    Calls Try.prog 13 #[.agg #[.bool s, .slice A n c'], .agg #[.bool t, .slice B m d]] w fun e w' => e = .returned (.bool true) ∧ Below w.heap.size w w' := by
  by_cases h40 : n ≤ 40 ∧ m ≤ 40
  · obtain ⟨h1, h2⟩ := h40
    have a := ZR.of_rd (s := s) ha La hnc h1
    have b := ZR.of_rd (s := t) hb0 Lb hmd h2
    generalize iv s (val B64 la) = v at a
    generalize iv t (val B64 lb) = x at b
    rcases Int.lt_trichotomy x 0 with h | h | h
    · exact zback_neg s t v x A B n c' m d w a b h1 h2 h
    · exact zback_zero s t v x A B n c' m d w a b h1 h2 h
    · exact zback_pos s t v x A B n c' m d w a b h1 h2 h
  · by_cases hn : 40 < n
    · have HL1 : Hid (decide (40 < n) = true) := decide_eq_true hn
      have HL2 := HL1
      go_enter Try.func13, Try.ntmps13
      go_wp2_with fail
      generalize hW : (w.alloc (Obj.cells #[Value.bool s, Value.slice A n c'] 63)).alloc (Obj.cells #[Value.bool t, Value.slice B m d] 63) = W
      have hb : Below w.heap.size w W := by subst hW; exact ((Below.refl _ _).alloc (Nat.le_refl _) _).alloc (by simp) _
      have XA : Bx W w.heap.size (.bool s) (.slice A n c') := by subst hW; exact (Bx.new w _ _).alloc _
      have XB : Bx W (w.heap.size + 1) (.bool t) (.slice B m d) := by subst hW; exact Bx.new' _ _ _ _ (by simp)
      clear hW
      have ca0 := XA.c0
      have ca1 := XA.c1
      have cb0 := XB.c0
      have cb1 := XB.c1
      go_wp2_with (first
      | (go_at_call 47; (refine (large_any s A n c' _).mono ?_); rintro e w_z ⟨rfl, hh⟩
         rw [HL1.out]
         try try replace a := a.below hh
         try try replace b := b.below hh
         try replace q := q.below hh
         try replace r := r.below hh
         try replace p := p.below hh
         try replace qb := qb.below hh
         try replace sm := sm.below hh
         try try replace ab := ab.below hh
         try replace sb := sb.below hh
         try replace na := na.below hh
         try replace nn := nn.below hh
         try replace XA := XA.below hh
         try replace XB := XB.below hh
         try replace XQ := XQ.below hh
         try replace XR := XR.below hh
         try replace XP := XP.below hh
         replace hb := bend hb hh
         have ca0 := XA.c0
         have ca1 := XA.c1
         have cb0 := XB.c0
         have cb1 := XB.c1)
      | (go_at_call 47; (refine (large_any t B m d _).mono ?_); rintro e w_z ⟨rfl, hh⟩
         rw [HL2.out]
         try try replace a := a.below hh
         try try replace b := b.below hh
         try replace q := q.below hh
         try replace r := r.below hh
         try replace p := p.below hh
         try replace qb := qb.below hh
         try replace sm := sm.below hh
         try try replace ab := ab.below hh
         try replace sb := sb.below hh
         try replace na := na.below hh
         try replace nn := nn.below hh
         try replace XA := XA.below hh
         try replace XB := XB.below hh
         try replace XQ := XQ.below hh
         try replace XR := XR.below hh
         try replace XP := XP.below hh
         replace hb := bend hb hh
         have ca0 := XA.c0
         have ca1 := XA.c1
         have cb0 := XB.c0
         have cb1 := XB.c1)
      | (go_at_call 48; (with_reducible refine (zwakes_any _).mono ?_); rintro e w_z ⟨rfl, hh⟩
         try try replace a := a.below hh
         try try replace b := b.below hh
         try replace q := q.below hh
         try replace r := r.below hh
         try replace p := p.below hh
         try replace qb := qb.below hh
         try replace sm := sm.below hh
         try try replace ab := ab.below hh
         try replace sb := sb.below hh
         try replace na := na.below hh
         try replace nn := nn.below hh
         try replace XA := XA.below hh
         try replace XB := XB.below hh
         try replace XQ := XQ.below hh
         try replace XR := XR.below hh
         try replace XP := XP.below hh
         replace hb := bend hb hh))
      go_ret
      exact ⟨rfl, hb⟩
    · have hm : 40 < m := by omega
      have HL1 : Hid (decide (40 < n) = false) := decide_eq_false hn
      have HL2 : Hid (decide (40 < m) = true) := decide_eq_true hm
      go_enter Try.func13, Try.ntmps13
      go_wp2_with fail
      generalize hW : (w.alloc (Obj.cells #[Value.bool s, Value.slice A n c'] 63)).alloc (Obj.cells #[Value.bool t, Value.slice B m d] 63) = W
      have hb : Below w.heap.size w W := by subst hW; exact ((Below.refl _ _).alloc (Nat.le_refl _) _).alloc (by simp) _
      have XA : Bx W w.heap.size (.bool s) (.slice A n c') := by subst hW; exact (Bx.new w _ _).alloc _
      have XB : Bx W (w.heap.size + 1) (.bool t) (.slice B m d) := by subst hW; exact Bx.new' _ _ _ _ (by simp)
      clear hW
      have ca0 := XA.c0
      have ca1 := XA.c1
      have cb0 := XB.c0
      have cb1 := XB.c1
      go_wp2_with (first
      | (go_at_call 47; (refine (large_any s A n c' _).mono ?_); rintro e w_z ⟨rfl, hh⟩
         rw [HL1.out]
         try try replace a := a.below hh
         try try replace b := b.below hh
         try replace q := q.below hh
         try replace r := r.below hh
         try replace p := p.below hh
         try replace qb := qb.below hh
         try replace sm := sm.below hh
         try try replace ab := ab.below hh
         try replace sb := sb.below hh
         try replace na := na.below hh
         try replace nn := nn.below hh
         try replace XA := XA.below hh
         try replace XB := XB.below hh
         try replace XQ := XQ.below hh
         try replace XR := XR.below hh
         try replace XP := XP.below hh
         replace hb := bend hb hh
         have ca0 := XA.c0
         have ca1 := XA.c1
         have cb0 := XB.c0
         have cb1 := XB.c1)
      | (go_at_call 47; (refine (large_any t B m d _).mono ?_); rintro e w_z ⟨rfl, hh⟩
         rw [HL2.out]
         try try replace a := a.below hh
         try try replace b := b.below hh
         try replace q := q.below hh
         try replace r := r.below hh
         try replace p := p.below hh
         try replace qb := qb.below hh
         try replace sm := sm.below hh
         try try replace ab := ab.below hh
         try replace sb := sb.below hh
         try replace na := na.below hh
         try replace nn := nn.below hh
         try replace XA := XA.below hh
         try replace XB := XB.below hh
         try replace XQ := XQ.below hh
         try replace XR := XR.below hh
         try replace XP := XP.below hh
         replace hb := bend hb hh
         have ca0 := XA.c0
         have ca1 := XA.c1
         have cb0 := XB.c0
         have cb1 := XB.c1)
      | (go_at_call 48; (with_reducible refine (zwakes_any _).mono ?_); rintro e w_z ⟨rfl, hh⟩
         try try replace a := a.below hh
         try try replace b := b.below hh
         try replace q := q.below hh
         try replace r := r.below hh
         try replace p := p.below hh
         try replace qb := qb.below hh
         try replace sm := sm.below hh
         try try replace ab := ab.below hh
         try replace sb := sb.below hh
         try replace na := na.below hh
         try replace nn := nn.below hh
         try replace XA := XA.below hh
         try replace XB := XB.below hh
         try replace XQ := XQ.below hh
         try replace XR := XR.below hh
         try replace XP := XP.below hh
         replace hb := bend hb hh))
      go_ret
      exact ⟨rfl, hb⟩
end Go.Proofs.Ytpnckmofmjefpaa
