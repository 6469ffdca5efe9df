/- The law ZedLaws: sums and products go in any order, and through each other; the sign of a product is the product of signs. -/
import Derived.Test.YtflcgeehpboldaaZedH
namespace Go.Proofs.Ytflcgeehpboldaa
open Go.RowKit

theorem cmpZ_three (a b : Int) : cmpZ a b = -1 ∨ cmpZ a b = 0 ∨ cmpZ a b = 1 := by unfold cmpZ; (repeat' split) <;> simp
theorem cmpZ_add (a b c : Int) : cmpZ (a + c) (b + c) = cmpZ a b := by unfold cmpZ; (repeat' split) <;> omega
theorem sgn_cases (a : Int) : (a < 0 ∧ sgn a = -1) ∨ (a = 0 ∧ sgn a = 0) ∨ (0 < a ∧ sgn a = 1) := by
  unfold sgn
  by_cases h1 : a < 0
  · exact .inl ⟨h1, if_pos h1⟩
  · by_cases h2 : a = 0
    · exact .inr (.inl ⟨h2, by rw [if_neg h1, if_pos h2]⟩)
    · exact .inr (.inr ⟨by omega, by rw [if_neg h1, if_neg h2]⟩)
theorem wrap_sgn (a b : Int) : wrap64 (sgn a * sgn b) = sgn a * sgn b := by
  rcases sgn_cases a with ⟨_, h⟩ | ⟨_, h⟩ | ⟨_, h⟩ <;> rcases sgn_cases b with ⟨_, k⟩ | ⟨_, k⟩ | ⟨_, k⟩ <;> rw [h, k] <;> decide +kernel
theorem sgn_mul (a b : Int) : sgn (a * b) = sgn a * sgn b := by
  rcases sgn_cases a with ⟨ha, h⟩ | ⟨ha, h⟩ | ⟨ha, h⟩ <;> rcases sgn_cases b with ⟨hb, k⟩ | ⟨hb, k⟩ | ⟨hb, k⟩ <;> rw [h, k]
  · have := Int.mul_pos_of_neg_of_neg ha hb
    rcases sgn_cases (a * b) with ⟨_, j⟩ | ⟨_, j⟩ | ⟨_, j⟩ <;> omega
  · subst hb; rw [Int.mul_zero]; rfl
  · have := Int.mul_neg_of_neg_of_pos ha hb
    rcases sgn_cases (a * b) with ⟨_, j⟩ | ⟨_, j⟩ | ⟨_, j⟩ <;> omega
  · subst ha; rw [Int.zero_mul]; rfl
  · subst ha; rw [Int.zero_mul]; rfl
  · subst ha; rw [Int.zero_mul]; rfl
  · have := Int.mul_neg_of_pos_of_neg ha hb
    rcases sgn_cases (a * b) with ⟨_, j⟩ | ⟨_, j⟩ | ⟨_, j⟩ <;> omega
  · subst hb; rw [Int.mul_zero]; rfl
  · have := Int.mul_pos ha hb
    rcases sgn_cases (a * b) with ⟨_, j⟩ | ⟨_, j⟩ | ⟨_, j⟩ <;> omega

set_option maxRecDepth 100000 in
set_option maxHeartbeats 4000000 in
theorem laws_le (s t u : Bool) (v x y : Int) (A B C : Option Addr) (n c' m d p f : Nat) (w : World) (a : ZR w s A n c' v 15) (b : ZR w t B m d x 15) (c : ZR w u C p f y 15) (hn : n ≤ 15) (hm : m ≤ 15) (hp : p ≤ 15) (K : Int) (hcab : cmpZ v x = K) (hK : decide (K ≤ 0) = true) (hK2 : decide (0 < K) = false) :
    Calls Try.prog 7 #[.agg #[.bool s, .slice A n c'], .agg #[.bool t, .slice B m d], .agg #[.bool u, .slice C p f]] w fun e w' => e = .returned (.bool true) ∧ Below w.heap.size w w' := by
    have H1 : Hid (cmpZ (v + (x + y)) (v + x + y) = 0) := by show _ = _; rw [Int.add_assoc, cmpZ_self]
    have H2 : Hid (cmpZ (v * (x + y)) (v * x + v * y) = 0) := by show _ = _; rw [Int.mul_add, cmpZ_self]
    have H3 : Hid (cmpZ (v * x) (x * v) = 0) := by show _ = _; rw [Int.mul_comm, cmpZ_self]
    have H4 := Lib.hid hcab
    have H5 : Hid (cmpZ (v + y) (x + y) = K) := by show _ = _; rw [cmpZ_add, hcab]
    obtain ⟨P, hP⟩ : ∃ P, P = sgn v := ⟨_, rfl⟩
    obtain ⟨Q, hQ⟩ : ∃ Q, Q = sgn x := ⟨_, rfl⟩
    obtain ⟨R, hR⟩ : ∃ R, R = P * Q := ⟨_, rfl⟩
    have hPQ : IntKind.i64.wrap (P * Q) = R := by rw [hP, hQ] at hR; rw [hP, hQ, hR, IntKind.wrap_i64]; have := wrap_sgn v x; unfold wrap64 at this; exact this
    have HS : Hid (sgn (v * x) = R) := by show _ = _; rw [hR, hP, hQ]; exact sgn_mul v x
    have HA := Lib.hid hP.symm
    have HB := Lib.hid hQ.symm
    have HD : Hid (sgn (v - v) = 0) := by show _ = _; rw [Int.sub_self]; rfl
    clear hcab hP hQ hR
    go_enter Try.func7, Try.ntmps7
    go_wp2_with fail
    generalize hW : ((w.alloc (Obj.cells #[Value.bool s, Value.slice A n c'] 24)).alloc (Obj.cells #[Value.bool t, Value.slice B m d] 24)).alloc (Obj.cells #[Value.bool u, Value.slice C p f] 24) = W
    have hb : Below w.heap.size w W := by subst hW; exact (((Below.refl _ _).alloc (Nat.le_refl _) _).alloc (by simp) _).alloc (by simp; omega) _
    have XA : Bx W w.heap.size (.bool s) (.slice A n c') := by subst hW; exact ((Bx.new w _ _).alloc _).alloc _
    have XB : Bx W (w.heap.size + 1) (.bool t) (.slice B m d) := by subst hW; exact (Bx.new' _ _ _ _ (by simp)).alloc _
    have XC : Bx W (w.heap.size + 1 + 1) (.bool u) (.slice C p f) := by subst hW; exact Bx.new' _ _ _ _ (by simp)
    clear hW
    replace a := a.below hb
    replace b := b.below hb
    replace c := c.below hb
    replace a := a.drew
    replace b := b.drew
    replace c := c.drew
    replace XA := XA.drew
    replace XB := XB.drew
    replace XC := XC.drew
    replace hb := hb.drew
    go_region_held3 (fun w' => w'.cell? ⟨w.heap.size, 0, none⟩ = some (.bool s) ∧ w'.cell? ⟨w.heap.size, 1, none⟩ = some (.slice A n c') ∧ w'.cell? ⟨w.heap.size + 1, 0, none⟩ = some (.bool t) ∧ w'.cell? ⟨w.heap.size + 1, 1, none⟩ = some (.slice B m d) ∧ w'.cell? ⟨w.heap.size + 1 + 1, 0, none⟩ = some (.bool u) ∧ w'.cell? ⟨w.heap.size + 1 + 1, 1, none⟩ = some (.slice C p f))
      (first | with_reducible exact ⟨XA.c0, XA.c1, XB.c0, XB.c1, XC.c0, XC.c1⟩)
      (first
      | (go_at_call 16; (with_reducible refine (zadd_zr 16 b c (by omega) (by omega) (by omega)).mono ?_); rintro e w_s1 ⟨s_s1, A_s1, n_s1, c_s1, rfl, s1, hh⟩
         try replace a := a.below hh
         try replace b := b.below hh
         try replace c := c.below hh
         try replace s2 := s2.below hh
         try replace s3 := s3.below hh
         try replace s4 := s4.below hh
         try replace m1 := m1.below hh
         try replace m2 := m2.below hh
         try replace m3 := m3.below hh
         try replace m4 := m4.below hh
         try replace m5 := m5.below hh
         try replace p1 := p1.below hh
         try replace p2 := p2.below hh
         try replace d1 := d1.below hh
         try replace XA := XA.below hh
         try replace XB := XB.below hh
         try replace XC := XC.below hh
         replace hb := bend hb hh)
      | (go_at_call 16; (with_reducible refine (zadd_zr 17 a s1 (by omega) (by omega) (by omega)).mono ?_); rintro e w_s2 ⟨s_s2, A_s2, n_s2, c_s2, rfl, s2, hh⟩
         try replace a := a.below hh
         try replace b := b.below hh
         try replace c := c.below hh
         try replace s1 := s1.below hh
         try replace s3 := s3.below hh
         try replace s4 := s4.below hh
         try replace m1 := m1.below hh
         try replace m2 := m2.below hh
         try replace m3 := m3.below hh
         try replace m4 := m4.below hh
         try replace m5 := m5.below hh
         try replace p1 := p1.below hh
         try replace p2 := p2.below hh
         try replace d1 := d1.below hh
         try replace XA := XA.below hh
         try replace XB := XB.below hh
         try replace XC := XC.below hh
         replace hb := bend hb hh)
      | (go_at_call 16; (with_reducible refine (zadd_zr 16 a b (by omega) (by omega) (by omega)).mono ?_); rintro e w_s3 ⟨s_s3, A_s3, n_s3, c_s3, rfl, s3, hh⟩
         try replace a := a.below hh
         try replace b := b.below hh
         try replace c := c.below hh
         try replace s1 := s1.below hh
         try replace s2 := s2.below hh
         try replace s4 := s4.below hh
         try replace m1 := m1.below hh
         try replace m2 := m2.below hh
         try replace m3 := m3.below hh
         try replace m4 := m4.below hh
         try replace m5 := m5.below hh
         try replace p1 := p1.below hh
         try replace p2 := p2.below hh
         try replace d1 := d1.below hh
         try replace XA := XA.below hh
         try replace XB := XB.below hh
         try replace XC := XC.below hh
         replace hb := bend hb hh)
      | (go_at_call 16; (with_reducible refine (zadd_zr 17 s3 c (by omega) (by omega) (by omega)).mono ?_); rintro e w_s4 ⟨s_s4, A_s4, n_s4, c_s4, rfl, s4, hh⟩
         try replace a := a.below hh
         try replace b := b.below hh
         try replace c := c.below hh
         try replace s1 := s1.below hh
         try replace s2 := s2.below hh
         try replace s3 := s3.below hh
         try replace m1 := m1.below hh
         try replace m2 := m2.below hh
         try replace m3 := m3.below hh
         try replace m4 := m4.below hh
         try replace m5 := m5.below hh
         try replace p1 := p1.below hh
         try replace p2 := p2.below hh
         try replace d1 := d1.below hh
         try replace XA := XA.below hh
         try replace XB := XB.below hh
         try replace XC := XC.below hh
         replace hb := bend hb hh)
      | (go_at_call 22; (with_reducible refine (zcmp_zr s2 s4 (by omega)).mono ?_); rintro e w_z ⟨rfl, hh⟩
         rw [H1.out]
         try replace a := a.below hh
         try replace b := b.below hh
         try replace c := c.below hh
         try replace s1 := s1.below hh
         try replace s2 := s2.below hh
         try replace s3 := s3.below hh
         try replace s4 := s4.below hh
         try replace m1 := m1.below hh
         try replace m2 := m2.below hh
         try replace m3 := m3.below hh
         try replace m4 := m4.below hh
         try replace m5 := m5.below hh
         try replace p1 := p1.below hh
         try replace p2 := p2.below hh
         try replace d1 := d1.below hh
         try replace XA := XA.below hh
         try replace XB := XB.below hh
         try replace XC := XC.below hh
         replace hb := bend hb hh)
      | (go_at_call 20; (with_reducible refine (zmul_zr 31 a s1 (by omega) (by omega) (by omega)).mono ?_); rintro e w_m1 ⟨s_m1, A_m1, n_m1, c_m1, rfl, m1, hh⟩
         try replace a := a.below hh
         try replace b := b.below hh
         try replace c := c.below hh
         try replace s1 := s1.below hh
         try replace s2 := s2.below hh
         try replace s3 := s3.below hh
         try replace s4 := s4.below hh
         try replace m2 := m2.below hh
         try replace m3 := m3.below hh
         try replace m4 := m4.below hh
         try replace m5 := m5.below hh
         try replace p1 := p1.below hh
         try replace p2 := p2.below hh
         try replace d1 := d1.below hh
         try replace XA := XA.below hh
         try replace XB := XB.below hh
         try replace XC := XC.below hh
         replace hb := bend hb hh)
      | (go_at_call 20; (with_reducible refine (zmul_zr 30 a b (by omega) (by omega) (by omega)).mono ?_); rintro e w_m2 ⟨s_m2, A_m2, n_m2, c_m2, rfl, m2, hh⟩
         try replace a := a.below hh
         try replace b := b.below hh
         try replace c := c.below hh
         try replace s1 := s1.below hh
         try replace s2 := s2.below hh
         try replace s3 := s3.below hh
         try replace s4 := s4.below hh
         try replace m1 := m1.below hh
         try replace m3 := m3.below hh
         try replace m4 := m4.below hh
         try replace m5 := m5.below hh
         try replace p1 := p1.below hh
         try replace p2 := p2.below hh
         try replace d1 := d1.below hh
         try replace XA := XA.below hh
         try replace XB := XB.below hh
         try replace XC := XC.below hh
         replace hb := bend hb hh)
      | (go_at_call 20; (with_reducible refine (zmul_zr 30 a c (by omega) (by omega) (by omega)).mono ?_); rintro e w_m3 ⟨s_m3, A_m3, n_m3, c_m3, rfl, m3, hh⟩
         try replace a := a.below hh
         try replace b := b.below hh
         try replace c := c.below hh
         try replace s1 := s1.below hh
         try replace s2 := s2.below hh
         try replace s3 := s3.below hh
         try replace s4 := s4.below hh
         try replace m1 := m1.below hh
         try replace m2 := m2.below hh
         try replace m4 := m4.below hh
         try replace m5 := m5.below hh
         try replace p1 := p1.below hh
         try replace p2 := p2.below hh
         try replace d1 := d1.below hh
         try replace XA := XA.below hh
         try replace XB := XB.below hh
         try replace XC := XC.below hh
         replace hb := bend hb hh)
      | (go_at_call 16; (with_reducible refine (zadd_zr 31 m2 m3 (by omega) (by omega) (by omega)).mono ?_); rintro e w_m4 ⟨s_m4, A_m4, n_m4, c_m4, rfl, m4, hh⟩
         try replace a := a.below hh
         try replace b := b.below hh
         try replace c := c.below hh
         try replace s1 := s1.below hh
         try replace s2 := s2.below hh
         try replace s3 := s3.below hh
         try replace s4 := s4.below hh
         try replace m1 := m1.below hh
         try replace m2 := m2.below hh
         try replace m3 := m3.below hh
         try replace m5 := m5.below hh
         try replace p1 := p1.below hh
         try replace p2 := p2.below hh
         try replace d1 := d1.below hh
         try replace XA := XA.below hh
         try replace XB := XB.below hh
         try replace XC := XC.below hh
         replace hb := bend hb hh)
      | (go_at_call 22; (with_reducible refine (zcmp_zr m1 m4 (by omega)).mono ?_); rintro e w_z ⟨rfl, hh⟩
         rw [H2.out]
         try replace a := a.below hh
         try replace b := b.below hh
         try replace c := c.below hh
         try replace s1 := s1.below hh
         try replace s2 := s2.below hh
         try replace s3 := s3.below hh
         try replace s4 := s4.below hh
         try replace m1 := m1.below hh
         try replace m2 := m2.below hh
         try replace m3 := m3.below hh
         try replace m4 := m4.below hh
         try replace m5 := m5.below hh
         try replace p1 := p1.below hh
         try replace p2 := p2.below hh
         try replace d1 := d1.below hh
         try replace XA := XA.below hh
         try replace XB := XB.below hh
         try replace XC := XC.below hh
         replace hb := bend hb hh)
      | (go_at_call 20; (with_reducible refine (zmul_zr 30 b a (by omega) (by omega) (by omega)).mono ?_); rintro e w_m5 ⟨s_m5, A_m5, n_m5, c_m5, rfl, m5, hh⟩
         try replace a := a.below hh
         try replace b := b.below hh
         try replace c := c.below hh
         try replace s1 := s1.below hh
         try replace s2 := s2.below hh
         try replace s3 := s3.below hh
         try replace s4 := s4.below hh
         try replace m1 := m1.below hh
         try replace m2 := m2.below hh
         try replace m3 := m3.below hh
         try replace m4 := m4.below hh
         try replace p1 := p1.below hh
         try replace p2 := p2.below hh
         try replace d1 := d1.below hh
         try replace XA := XA.below hh
         try replace XB := XB.below hh
         try replace XC := XC.below hh
         replace hb := bend hb hh)
      | (go_at_call 22; (with_reducible refine (zcmp_zr m2 m5 (by omega)).mono ?_); rintro e w_z ⟨rfl, hh⟩
         rw [H3.out]
         try replace a := a.below hh
         try replace b := b.below hh
         try replace c := c.below hh
         try replace s1 := s1.below hh
         try replace s2 := s2.below hh
         try replace s3 := s3.below hh
         try replace s4 := s4.below hh
         try replace m1 := m1.below hh
         try replace m2 := m2.below hh
         try replace m3 := m3.below hh
         try replace m4 := m4.below hh
         try replace m5 := m5.below hh
         try replace p1 := p1.below hh
         try replace p2 := p2.below hh
         try replace d1 := d1.below hh
         try replace XA := XA.below hh
         try replace XB := XB.below hh
         try replace XC := XC.below hh
         replace hb := bend hb hh))
    go_wp2_with fail
    replace a := a.drew
    replace b := b.drew
    replace c := c.drew
    replace XA := XA.drew
    replace XB := XB.drew
    replace XC := XC.drew
    replace hb := hb.drew
    go_region_held3 (fun w' => w'.cell? ⟨w.heap.size, 0, none⟩ = some (.bool s) ∧ w'.cell? ⟨w.heap.size, 1, none⟩ = some (.slice A n c') ∧ w'.cell? ⟨w.heap.size + 1, 0, none⟩ = some (.bool t) ∧ w'.cell? ⟨w.heap.size + 1, 1, none⟩ = some (.slice B m d) ∧ w'.cell? ⟨w.heap.size + 1 + 1, 0, none⟩ = some (.bool u) ∧ w'.cell? ⟨w.heap.size + 1 + 1, 1, none⟩ = some (.slice C p f))
      (first | with_reducible exact ⟨XA.c0, XA.c1, XB.c0, XB.c1, XC.c0, XC.c1⟩)
      (first
      | (go_at_call 22; (with_reducible refine (zcmp_zr a b (by omega)).mono ?_); rintro e w_z ⟨rfl, hh⟩
         rw [H4.out]
         try replace a := a.below hh
         try replace b := b.below hh
         try replace c := c.below hh
         try replace s1 := s1.below hh
         try replace s2 := s2.below hh
         try replace s3 := s3.below hh
         try replace s4 := s4.below hh
         try replace m1 := m1.below hh
         try replace m2 := m2.below hh
         try replace m3 := m3.below hh
         try replace m4 := m4.below hh
         try replace m5 := m5.below hh
         try replace p1 := p1.below hh
         try replace p2 := p2.below hh
         try replace d1 := d1.below hh
         try replace XA := XA.below hh
         try replace XB := XB.below hh
         try replace XC := XC.below hh
         replace hb := bend hb hh)
      | (go_at_call 16; (with_reducible refine (zadd_zr 16 a c (by omega) (by omega) (by omega)).mono ?_); rintro e w_p1 ⟨s_p1, A_p1, n_p1, c_p1, rfl, p1, hh⟩
         try replace a := a.below hh
         try replace b := b.below hh
         try replace c := c.below hh
         try replace s1 := s1.below hh
         try replace s2 := s2.below hh
         try replace s3 := s3.below hh
         try replace s4 := s4.below hh
         try replace m1 := m1.below hh
         try replace m2 := m2.below hh
         try replace m3 := m3.below hh
         try replace m4 := m4.below hh
         try replace m5 := m5.below hh
         try replace p2 := p2.below hh
         try replace d1 := d1.below hh
         try replace XA := XA.below hh
         try replace XB := XB.below hh
         try replace XC := XC.below hh
         replace hb := bend hb hh)
      | (go_at_call 16; (with_reducible refine (zadd_zr 16 b c (by omega) (by omega) (by omega)).mono ?_); rintro e w_p2 ⟨s_p2, A_p2, n_p2, c_p2, rfl, p2, hh⟩
         try replace a := a.below hh
         try replace b := b.below hh
         try replace c := c.below hh
         try replace s1 := s1.below hh
         try replace s2 := s2.below hh
         try replace s3 := s3.below hh
         try replace s4 := s4.below hh
         try replace m1 := m1.below hh
         try replace m2 := m2.below hh
         try replace m3 := m3.below hh
         try replace m4 := m4.below hh
         try replace m5 := m5.below hh
         try replace p1 := p1.below hh
         try replace d1 := d1.below hh
         try replace XA := XA.below hh
         try replace XB := XB.below hh
         try replace XC := XC.below hh
         replace hb := bend hb hh)
      | (go_at_call 22; (with_reducible refine (zcmp_zr p1 p2 (by omega)).mono ?_); rintro e w_z ⟨rfl, hh⟩
         rw [H5.out]
         try replace a := a.below hh
         try replace b := b.below hh
         try replace c := c.below hh
         try replace s1 := s1.below hh
         try replace s2 := s2.below hh
         try replace s3 := s3.below hh
         try replace s4 := s4.below hh
         try replace m1 := m1.below hh
         try replace m2 := m2.below hh
         try replace m3 := m3.below hh
         try replace m4 := m4.below hh
         try replace m5 := m5.below hh
         try replace p1 := p1.below hh
         try replace p2 := p2.below hh
         try replace d1 := d1.below hh
         try replace XA := XA.below hh
         try replace XB := XB.below hh
         try replace XC := XC.below hh
         replace hb := bend hb hh))
    go_wp2_with fail
    replace a := a.drew
    replace b := b.drew
    replace c := c.drew
    replace XA := XA.drew
    replace XB := XB.drew
    replace XC := XC.drew
    replace hb := hb.drew
    go_region_held3 (fun w' => w'.cell? ⟨w.heap.size, 0, none⟩ = some (.bool s) ∧ w'.cell? ⟨w.heap.size, 1, none⟩ = some (.slice A n c') ∧ w'.cell? ⟨w.heap.size + 1, 0, none⟩ = some (.bool t) ∧ w'.cell? ⟨w.heap.size + 1, 1, none⟩ = some (.slice B m d) ∧ w'.cell? ⟨w.heap.size + 1 + 1, 0, none⟩ = some (.bool u) ∧ w'.cell? ⟨w.heap.size + 1 + 1, 1, none⟩ = some (.slice C p f))
      (first | with_reducible exact ⟨XA.c0, XA.c1, XB.c0, XB.c1, XC.c0, XC.c1⟩)
      (first
      | (go_at_call 20; (with_reducible refine (zmul_zr 30 a b (by omega) (by omega) (by omega)).mono ?_); rintro e w_m2 ⟨s_m2, A_m2, n_m2, c_m2, rfl, m2, hh⟩
         try replace a := a.below hh
         try replace b := b.below hh
         try replace c := c.below hh
         try replace s1 := s1.below hh
         try replace s2 := s2.below hh
         try replace s3 := s3.below hh
         try replace s4 := s4.below hh
         try replace m1 := m1.below hh
         try replace m3 := m3.below hh
         try replace m4 := m4.below hh
         try replace m5 := m5.below hh
         try replace p1 := p1.below hh
         try replace p2 := p2.below hh
         try replace d1 := d1.below hh
         try replace XA := XA.below hh
         try replace XB := XB.below hh
         try replace XC := XC.below hh
         replace hb := bend hb hh)
      | (go_at_call 24; (with_reducible refine (sign_zr m2 (by omega)).mono ?_); rintro e w_z ⟨rfl, hh⟩
         rw [HS.out]
         try replace a := a.below hh
         try replace b := b.below hh
         try replace c := c.below hh
         try replace s1 := s1.below hh
         try replace s2 := s2.below hh
         try replace s3 := s3.below hh
         try replace s4 := s4.below hh
         try replace m1 := m1.below hh
         try replace m2 := m2.below hh
         try replace m3 := m3.below hh
         try replace m4 := m4.below hh
         try replace m5 := m5.below hh
         try replace p1 := p1.below hh
         try replace p2 := p2.below hh
         try replace d1 := d1.below hh
         try replace XA := XA.below hh
         try replace XB := XB.below hh
         try replace XC := XC.below hh
         replace hb := bend hb hh)
      | (go_at_call 24; (with_reducible refine (sign_zr a (by omega)).mono ?_); rintro e w_z ⟨rfl, hh⟩
         rw [HA.out]
         try replace a := a.below hh
         try replace b := b.below hh
         try replace c := c.below hh
         try replace s1 := s1.below hh
         try replace s2 := s2.below hh
         try replace s3 := s3.below hh
         try replace s4 := s4.below hh
         try replace m1 := m1.below hh
         try replace m2 := m2.below hh
         try replace m3 := m3.below hh
         try replace m4 := m4.below hh
         try replace m5 := m5.below hh
         try replace p1 := p1.below hh
         try replace p2 := p2.below hh
         try replace d1 := d1.below hh
         try replace XA := XA.below hh
         try replace XB := XB.below hh
         try replace XC := XC.below hh
         replace hb := bend hb hh)
      | (go_at_call 24; (with_reducible refine (sign_zr b (by omega)).mono ?_); rintro e w_z ⟨rfl, hh⟩
         rw [HB.out]
         try replace a := a.below hh
         try replace b := b.below hh
         try replace c := c.below hh
         try replace s1 := s1.below hh
         try replace s2 := s2.below hh
         try replace s3 := s3.below hh
         try replace s4 := s4.below hh
         try replace m1 := m1.below hh
         try replace m2 := m2.below hh
         try replace m3 := m3.below hh
         try replace m4 := m4.below hh
         try replace m5 := m5.below hh
         try replace p1 := p1.below hh
         try replace p2 := p2.below hh
         try replace d1 := d1.below hh
         try replace XA := XA.below hh
         try replace XB := XB.below hh
         try replace XC := XC.below hh
         replace hb := bend hb hh)
      | (go_at_call 18; (with_reducible refine (zsub_zr 16 a a (by omega) (by omega) (by omega)).mono ?_); rintro e w_d1 ⟨s_d1, A_d1, n_d1, c_d1, rfl, d1, hh⟩
         try replace a := a.below hh
         try replace b := b.below hh
         try replace c := c.below hh
         try replace s1 := s1.below hh
         try replace s2 := s2.below hh
         try replace s3 := s3.below hh
         try replace s4 := s4.below hh
         try replace m1 := m1.below hh
         try replace m2 := m2.below hh
         try replace m3 := m3.below hh
         try replace m4 := m4.below hh
         try replace m5 := m5.below hh
         try replace p1 := p1.below hh
         try replace p2 := p2.below hh
         try replace XA := XA.below hh
         try replace XB := XB.below hh
         try replace XC := XC.below hh
         replace hb := bend hb hh)
      | (go_at_call 24; (with_reducible refine (sign_zr d1 (by omega)).mono ?_); rintro e w_z ⟨rfl, hh⟩
         rw [HD.out]
         try replace a := a.below hh
         try replace b := b.below hh
         try replace c := c.below hh
         try replace s1 := s1.below hh
         try replace s2 := s2.below hh
         try replace s3 := s3.below hh
         try replace s4 := s4.below hh
         try replace m1 := m1.below hh
         try replace m2 := m2.below hh
         try replace m3 := m3.below hh
         try replace m4 := m4.below hh
         try replace m5 := m5.below hh
         try replace p1 := p1.below hh
         try replace p2 := p2.below hh
         try replace d1 := d1.below hh
         try replace XA := XA.below hh
         try replace XB := XB.below hh
         try replace XC := XC.below hh
         replace hb := bend hb hh)
      | (go_at_call 10; (with_reducible refine (wakes_any _).mono ?_); rintro e w_z ⟨rfl, hh⟩
         try replace a := a.below hh
         try replace b := b.below hh
         try replace c := c.below hh
         try replace s1 := s1.below hh
         try replace s2 := s2.below hh
         try replace s3 := s3.below hh
         try replace s4 := s4.below hh
         try replace m1 := m1.below hh
         try replace m2 := m2.below hh
         try replace m3 := m3.below hh
         try replace m4 := m4.below hh
         try replace m5 := m5.below hh
         try replace p1 := p1.below hh
         try replace p2 := p2.below hh
         try replace d1 := d1.below hh
         try replace XA := XA.below hh
         try replace XB := XB.below hh
         try replace XC := XC.below hh
         replace hb := bend hb hh))
    go_wp2
    go_ret
    exact ⟨rfl, hb⟩

set_option maxRecDepth 100000 in
set_option maxHeartbeats 4000000 in
theorem laws_gt (s t u : Bool) (v x y : Int) (A B C : Option Addr) (n c' m d p f : Nat) (w : World) (a : ZR w s A n c' v 15) (b : ZR w t B m d x 15) (c : ZR w u C p f y 15) (hn : n ≤ 15) (hm : m ≤ 15) (hp : p ≤ 15) (K : Int) (hcab : cmpZ v x = K) (hK : decide (K ≤ 0) = false) (_hK2 : decide (0 < K) = true) :
    Calls Try.prog 7 #[.agg #[.bool s, .slice A n c'], .agg #[.bool t, .slice B m d], .agg #[.bool u, .slice C p f]] w fun e w' => e = .returned (.bool true) ∧ Below w.heap.size w w' := by
    have H1 : Hid (cmpZ (v + (x + y)) (v + x + y) = 0) := by show _ = _; rw [Int.add_assoc, cmpZ_self]
    have H2 : Hid (cmpZ (v * (x + y)) (v * x + v * y) = 0) := by show _ = _; rw [Int.mul_add, cmpZ_self]
    have H3 : Hid (cmpZ (v * x) (x * v) = 0) := by show _ = _; rw [Int.mul_comm, cmpZ_self]
    have H4 := Lib.hid hcab
    have H5 : Hid (cmpZ (v + y) (x + y) = K) := by show _ = _; rw [cmpZ_add, hcab]
    obtain ⟨P, hP⟩ : ∃ P, P = sgn v := ⟨_, rfl⟩
    obtain ⟨Q, hQ⟩ : ∃ Q, Q = sgn x := ⟨_, rfl⟩
    obtain ⟨R, hR⟩ : ∃ R, R = P * Q := ⟨_, rfl⟩
    have hPQ : IntKind.i64.wrap (P * Q) = R := by rw [hP, hQ] at hR; rw [hP, hQ, hR, IntKind.wrap_i64]; have := wrap_sgn v x; unfold wrap64 at this; exact this
    have HS : Hid (sgn (v * x) = R) := by show _ = _; rw [hR, hP, hQ]; exact sgn_mul v x
    have HA := Lib.hid hP.symm
    have HB := Lib.hid hQ.symm
    have HD : Hid (sgn (v - v) = 0) := by show _ = _; rw [Int.sub_self]; rfl
    clear hcab hP hQ hR
    go_enter Try.func7, Try.ntmps7
    go_wp2_with fail
    generalize hW : ((w.alloc (Obj.cells #[Value.bool s, Value.slice A n c'] 24)).alloc (Obj.cells #[Value.bool t, Value.slice B m d] 24)).alloc (Obj.cells #[Value.bool u, Value.slice C p f] 24) = W
    have hb : Below w.heap.size w W := by subst hW; exact (((Below.refl _ _).alloc (Nat.le_refl _) _).alloc (by simp) _).alloc (by simp; omega) _
    have XA : Bx W w.heap.size (.bool s) (.slice A n c') := by subst hW; exact ((Bx.new w _ _).alloc _).alloc _
    have XB : Bx W (w.heap.size + 1) (.bool t) (.slice B m d) := by subst hW; exact (Bx.new' _ _ _ _ (by simp)).alloc _
    have XC : Bx W (w.heap.size + 1 + 1) (.bool u) (.slice C p f) := by subst hW; exact Bx.new' _ _ _ _ (by simp)
    clear hW
    replace a := a.below hb
    replace b := b.below hb
    replace c := c.below hb
    replace a := a.drew
    replace b := b.drew
    replace c := c.drew
    replace XA := XA.drew
    replace XB := XB.drew
    replace XC := XC.drew
    replace hb := hb.drew
    go_region_held3 (fun w' => w'.cell? ⟨w.heap.size, 0, none⟩ = some (.bool s) ∧ w'.cell? ⟨w.heap.size, 1, none⟩ = some (.slice A n c') ∧ w'.cell? ⟨w.heap.size + 1, 0, none⟩ = some (.bool t) ∧ w'.cell? ⟨w.heap.size + 1, 1, none⟩ = some (.slice B m d) ∧ w'.cell? ⟨w.heap.size + 1 + 1, 0, none⟩ = some (.bool u) ∧ w'.cell? ⟨w.heap.size + 1 + 1, 1, none⟩ = some (.slice C p f))
      (first | with_reducible exact ⟨XA.c0, XA.c1, XB.c0, XB.c1, XC.c0, XC.c1⟩)
      (first
      | (go_at_call 16; (with_reducible refine (zadd_zr 16 b c (by omega) (by omega) (by omega)).mono ?_); rintro e w_s1 ⟨s_s1, A_s1, n_s1, c_s1, rfl, s1, hh⟩
         try replace a := a.below hh
         try replace b := b.below hh
         try replace c := c.below hh
         try replace s2 := s2.below hh
         try replace s3 := s3.below hh
         try replace s4 := s4.below hh
         try replace m1 := m1.below hh
         try replace m2 := m2.below hh
         try replace m3 := m3.below hh
         try replace m4 := m4.below hh
         try replace m5 := m5.below hh
         try replace p1 := p1.below hh
         try replace p2 := p2.below hh
         try replace d1 := d1.below hh
         try replace XA := XA.below hh
         try replace XB := XB.below hh
         try replace XC := XC.below hh
         replace hb := bend hb hh)
      | (go_at_call 16; (with_reducible refine (zadd_zr 17 a s1 (by omega) (by omega) (by omega)).mono ?_); rintro e w_s2 ⟨s_s2, A_s2, n_s2, c_s2, rfl, s2, hh⟩
         try replace a := a.below hh
         try replace b := b.below hh
         try replace c := c.below hh
         try replace s1 := s1.below hh
         try replace s3 := s3.below hh
         try replace s4 := s4.below hh
         try replace m1 := m1.below hh
         try replace m2 := m2.below hh
         try replace m3 := m3.below hh
         try replace m4 := m4.below hh
         try replace m5 := m5.below hh
         try replace p1 := p1.below hh
         try replace p2 := p2.below hh
         try replace d1 := d1.below hh
         try replace XA := XA.below hh
         try replace XB := XB.below hh
         try replace XC := XC.below hh
         replace hb := bend hb hh)
      | (go_at_call 16; (with_reducible refine (zadd_zr 16 a b (by omega) (by omega) (by omega)).mono ?_); rintro e w_s3 ⟨s_s3, A_s3, n_s3, c_s3, rfl, s3, hh⟩
         try replace a := a.below hh
         try replace b := b.below hh
         try replace c := c.below hh
         try replace s1 := s1.below hh
         try replace s2 := s2.below hh
         try replace s4 := s4.below hh
         try replace m1 := m1.below hh
         try replace m2 := m2.below hh
         try replace m3 := m3.below hh
         try replace m4 := m4.below hh
         try replace m5 := m5.below hh
         try replace p1 := p1.below hh
         try replace p2 := p2.below hh
         try replace d1 := d1.below hh
         try replace XA := XA.below hh
         try replace XB := XB.below hh
         try replace XC := XC.below hh
         replace hb := bend hb hh)
      | (go_at_call 16; (with_reducible refine (zadd_zr 17 s3 c (by omega) (by omega) (by omega)).mono ?_); rintro e w_s4 ⟨s_s4, A_s4, n_s4, c_s4, rfl, s4, hh⟩
         try replace a := a.below hh
         try replace b := b.below hh
         try replace c := c.below hh
         try replace s1 := s1.below hh
         try replace s2 := s2.below hh
         try replace s3 := s3.below hh
         try replace m1 := m1.below hh
         try replace m2 := m2.below hh
         try replace m3 := m3.below hh
         try replace m4 := m4.below hh
         try replace m5 := m5.below hh
         try replace p1 := p1.below hh
         try replace p2 := p2.below hh
         try replace d1 := d1.below hh
         try replace XA := XA.below hh
         try replace XB := XB.below hh
         try replace XC := XC.below hh
         replace hb := bend hb hh)
      | (go_at_call 22; (with_reducible refine (zcmp_zr s2 s4 (by omega)).mono ?_); rintro e w_z ⟨rfl, hh⟩
         rw [H1.out]
         try replace a := a.below hh
         try replace b := b.below hh
         try replace c := c.below hh
         try replace s1 := s1.below hh
         try replace s2 := s2.below hh
         try replace s3 := s3.below hh
         try replace s4 := s4.below hh
         try replace m1 := m1.below hh
         try replace m2 := m2.below hh
         try replace m3 := m3.below hh
         try replace m4 := m4.below hh
         try replace m5 := m5.below hh
         try replace p1 := p1.below hh
         try replace p2 := p2.below hh
         try replace d1 := d1.below hh
         try replace XA := XA.below hh
         try replace XB := XB.below hh
         try replace XC := XC.below hh
         replace hb := bend hb hh)
      | (go_at_call 20; (with_reducible refine (zmul_zr 31 a s1 (by omega) (by omega) (by omega)).mono ?_); rintro e w_m1 ⟨s_m1, A_m1, n_m1, c_m1, rfl, m1, hh⟩
         try replace a := a.below hh
         try replace b := b.below hh
         try replace c := c.below hh
         try replace s1 := s1.below hh
         try replace s2 := s2.below hh
         try replace s3 := s3.below hh
         try replace s4 := s4.below hh
         try replace m2 := m2.below hh
         try replace m3 := m3.below hh
         try replace m4 := m4.below hh
         try replace m5 := m5.below hh
         try replace p1 := p1.below hh
         try replace p2 := p2.below hh
         try replace d1 := d1.below hh
         try replace XA := XA.below hh
         try replace XB := XB.below hh
         try replace XC := XC.below hh
         replace hb := bend hb hh)
      | (go_at_call 20; (with_reducible refine (zmul_zr 30 a b (by omega) (by omega) (by omega)).mono ?_); rintro e w_m2 ⟨s_m2, A_m2, n_m2, c_m2, rfl, m2, hh⟩
         try replace a := a.below hh
         try replace b := b.below hh
         try replace c := c.below hh
         try replace s1 := s1.below hh
         try replace s2 := s2.below hh
         try replace s3 := s3.below hh
         try replace s4 := s4.below hh
         try replace m1 := m1.below hh
         try replace m3 := m3.below hh
         try replace m4 := m4.below hh
         try replace m5 := m5.below hh
         try replace p1 := p1.below hh
         try replace p2 := p2.below hh
         try replace d1 := d1.below hh
         try replace XA := XA.below hh
         try replace XB := XB.below hh
         try replace XC := XC.below hh
         replace hb := bend hb hh)
      | (go_at_call 20; (with_reducible refine (zmul_zr 30 a c (by omega) (by omega) (by omega)).mono ?_); rintro e w_m3 ⟨s_m3, A_m3, n_m3, c_m3, rfl, m3, hh⟩
         try replace a := a.below hh
         try replace b := b.below hh
         try replace c := c.below hh
         try replace s1 := s1.below hh
         try replace s2 := s2.below hh
         try replace s3 := s3.below hh
         try replace s4 := s4.below hh
         try replace m1 := m1.below hh
         try replace m2 := m2.below hh
         try replace m4 := m4.below hh
         try replace m5 := m5.below hh
         try replace p1 := p1.below hh
         try replace p2 := p2.below hh
         try replace d1 := d1.below hh
         try replace XA := XA.below hh
         try replace XB := XB.below hh
         try replace XC := XC.below hh
         replace hb := bend hb hh)
      | (go_at_call 16; (with_reducible refine (zadd_zr 31 m2 m3 (by omega) (by omega) (by omega)).mono ?_); rintro e w_m4 ⟨s_m4, A_m4, n_m4, c_m4, rfl, m4, hh⟩
         try replace a := a.below hh
         try replace b := b.below hh
         try replace c := c.below hh
         try replace s1 := s1.below hh
         try replace s2 := s2.below hh
         try replace s3 := s3.below hh
         try replace s4 := s4.below hh
         try replace m1 := m1.below hh
         try replace m2 := m2.below hh
         try replace m3 := m3.below hh
         try replace m5 := m5.below hh
         try replace p1 := p1.below hh
         try replace p2 := p2.below hh
         try replace d1 := d1.below hh
         try replace XA := XA.below hh
         try replace XB := XB.below hh
         try replace XC := XC.below hh
         replace hb := bend hb hh)
      | (go_at_call 22; (with_reducible refine (zcmp_zr m1 m4 (by omega)).mono ?_); rintro e w_z ⟨rfl, hh⟩
         rw [H2.out]
         try replace a := a.below hh
         try replace b := b.below hh
         try replace c := c.below hh
         try replace s1 := s1.below hh
         try replace s2 := s2.below hh
         try replace s3 := s3.below hh
         try replace s4 := s4.below hh
         try replace m1 := m1.below hh
         try replace m2 := m2.below hh
         try replace m3 := m3.below hh
         try replace m4 := m4.below hh
         try replace m5 := m5.below hh
         try replace p1 := p1.below hh
         try replace p2 := p2.below hh
         try replace d1 := d1.below hh
         try replace XA := XA.below hh
         try replace XB := XB.below hh
         try replace XC := XC.below hh
         replace hb := bend hb hh)
      | (go_at_call 20; (with_reducible refine (zmul_zr 30 b a (by omega) (by omega) (by omega)).mono ?_); rintro e w_m5 ⟨s_m5, A_m5, n_m5, c_m5, rfl, m5, hh⟩
         try replace a := a.below hh
         try replace b := b.below hh
         try replace c := c.below hh
         try replace s1 := s1.below hh
         try replace s2 := s2.below hh
         try replace s3 := s3.below hh
         try replace s4 := s4.below hh
         try replace m1 := m1.below hh
         try replace m2 := m2.below hh
         try replace m3 := m3.below hh
         try replace m4 := m4.below hh
         try replace p1 := p1.below hh
         try replace p2 := p2.below hh
         try replace d1 := d1.below hh
         try replace XA := XA.below hh
         try replace XB := XB.below hh
         try replace XC := XC.below hh
         replace hb := bend hb hh)
      | (go_at_call 22; (with_reducible refine (zcmp_zr m2 m5 (by omega)).mono ?_); rintro e w_z ⟨rfl, hh⟩
         rw [H3.out]
         try replace a := a.below hh
         try replace b := b.below hh
         try replace c := c.below hh
         try replace s1 := s1.below hh
         try replace s2 := s2.below hh
         try replace s3 := s3.below hh
         try replace s4 := s4.below hh
         try replace m1 := m1.below hh
         try replace m2 := m2.below hh
         try replace m3 := m3.below hh
         try replace m4 := m4.below hh
         try replace m5 := m5.below hh
         try replace p1 := p1.below hh
         try replace p2 := p2.below hh
         try replace d1 := d1.below hh
         try replace XA := XA.below hh
         try replace XB := XB.below hh
         try replace XC := XC.below hh
         replace hb := bend hb hh))
    go_wp2_with fail
    replace a := a.drew
    replace b := b.drew
    replace c := c.drew
    replace XA := XA.drew
    replace XB := XB.drew
    replace XC := XC.drew
    replace hb := hb.drew
    refine wp_region_held_drew (S := (fun w' => w'.cell? ⟨w.heap.size, 0, none⟩ = some (.bool s) ∧ w'.cell? ⟨w.heap.size, 1, none⟩ = some (.slice A n c') ∧ w'.cell? ⟨w.heap.size + 1, 0, none⟩ = some (.bool t) ∧ w'.cell? ⟨w.heap.size + 1, 1, none⟩ = some (.slice B m d) ∧ w'.cell? ⟨w.heap.size + 1 + 1, 0, none⟩ = some (.bool u) ∧ w'.cell? ⟨w.heap.size + 1 + 1, 1, none⟩ = some (.slice C p f))) (by kernel_rfl) ⟨XA.c0, XA.c1, XB.c0, XB.c1, XC.c0, XC.c1⟩ (fun hHeld => ?_)
    refine wpAnyH_take (i := 0) (oi := { dst := some 62, op := Op.load 24 (Operand.tmp 3), type := 24, pos := "law.go:88", after := #[], guard := none }) (v := .agg #[.bool s, .slice A n c']) rfl (by kernel_rfl) (by kernel_rfl) (by kernel_rfl) (fun _ _ _ h => h) (Or.inl ⟨by rfl, by (intro w hSw; (try dsimp only at hSw); go_simp)⟩) (by assumption) ?_
    simp only [Act.put, List.setIfInBounds_toArray, List.set_cons_zero, List.set_cons_succ]
    refine wpAnyH_take (i := 1) (oi := { dst := some 63, op := Op.load 24 (Operand.tmp 4), type := 24, pos := "law.go:88", after := #[], guard := none }) (v := .agg #[.bool t, .slice B m d]) rfl (by kernel_rfl) (by kernel_rfl) (by kernel_rfl) (fun _ _ _ h => h) (Or.inl ⟨by rfl, by (intro w hSw; (try dsimp only at hSw); go_simp)⟩) (by assumption) ?_
    simp only [Act.put, List.setIfInBounds_toArray, List.set_cons_zero, List.set_cons_succ]
    refine wpAnyH_ready (rs := [2]) (by kernel_rfl) (by simp) ?_
    refine AllReadyH.cons (o := { dst := some 64, op := Op.call { callee := Callee.value (Operand.func 22), args := #[Operand.tmp 62, Operand.tmp 63], argTypes := #[24, 24] }, type := 3, pos := "law.go:88", after := #[{ on := 0, ground := Ground.data }, { on := 1, ground := Ground.data }], guard := none }) rfl (fun K1 hK1 => ?_) AllReadyH.nil
    go_simp
    first
      | (go_at_call 22; (with_reducible refine (zcmp_zr a b (by omega)).mono ?_); rintro e w_z ⟨rfl, hh⟩
         rw [H4.out]
         try replace a := a.below hh
         try replace b := b.below hh
         try replace c := c.below hh
         try replace s1 := s1.below hh
         try replace s2 := s2.below hh
         try replace s3 := s3.below hh
         try replace s4 := s4.below hh
         try replace m1 := m1.below hh
         try replace m2 := m2.below hh
         try replace m3 := m3.below hh
         try replace m4 := m4.below hh
         try replace m5 := m5.below hh
         try replace p1 := p1.below hh
         try replace p2 := p2.below hh
         try replace d1 := d1.below hh
         try replace XA := XA.below hh
         try replace XB := XB.below hh
         try replace XC := XC.below hh
         replace hb := bend hb hh)
    refine hK1.out _ _ ⟨XA.c0, XA.c1, XB.c0, XB.c1, XC.c0, XC.c1⟩ (fun hHeld => ?_)
    clear hK1 K1
    refine wpAnyH_take (i := 3) (oi := { dst := some 65, op := Op.binOp BinOp.leq 3 (Operand.tmp 64) (Operand.const (Value.int IntKind.i64 0)) 3, type := 4, pos := "law.go:88", after := #[{ on := 2, ground := Ground.data }], guard := none }) (v := .bool false) rfl (by kernel_rfl) (by kernel_rfl) (by kernel_rfl) (fun _ _ _ h => h) (Or.inl ⟨by rfl, by (intro w hSw; go_simp)⟩) (by assumption) ?_
    simp only [Act.put, List.setIfInBounds_toArray, List.set_cons_zero, List.set_cons_succ]
    refine wpAnyH_take (i := 4) (oi := { dst := some 66, op := Op.move (Operand.tmp 65), type := 4, pos := "law.go:88", after := #[{ on := 3, ground := Ground.data }, { on := 2, ground := Ground.chain }], guard := none }) (v := .bool false) rfl (by kernel_rfl) (by kernel_rfl) (by kernel_rfl) (fun _ _ _ h => h) (Or.inl ⟨by rfl, by (intro w hSw; go_simp)⟩) (by assumption) ?_
    simp only [Act.put, List.setIfInBounds_toArray, List.set_cons_zero, List.set_cons_succ]
    refine wpAnyH_take (i := 5) (oi := { dst := some 67, op := Op.load 24 (Operand.tmp 3), type := 24, pos := "law.go:88", after := #[{ on := 4, ground := Ground.guard }], guard := some (4, true) }) (v := undef) rfl (by kernel_rfl) (by kernel_rfl) (by kernel_rfl) (fun _ _ _ h => h) (Or.inr ⟨by rfl, rfl⟩) (by assumption) ?_
    simp only [Act.put, List.setIfInBounds_toArray, List.set_cons_zero, List.set_cons_succ]
    refine wpAnyH_take (i := 6) (oi := { dst := some 68, op := Op.load 24 (Operand.tmp 5), type := 24, pos := "law.go:88", after := #[{ on := 4, ground := Ground.guard }], guard := some (4, true) }) (v := undef) rfl (by kernel_rfl) (by kernel_rfl) (by kernel_rfl) (fun _ _ _ h => h) (Or.inr ⟨by rfl, rfl⟩) (by assumption) ?_
    simp only [Act.put, List.setIfInBounds_toArray, List.set_cons_zero, List.set_cons_succ]
    refine wpAnyH_take (i := 7) (oi := { dst := some 69, op := Op.call { callee := Callee.value (Operand.func 16), args := #[Operand.tmp 67, Operand.tmp 68], argTypes := #[24, 24] }, type := 24, pos := "law.go:88", after := #[{ on := 5, ground := Ground.data }, { on := 6, ground := Ground.data }, { on := 4, ground := Ground.chain }, { on := 4, ground := Ground.guard }], guard := some (4, true) }) (v := undef) rfl (by kernel_rfl) (by kernel_rfl) (by kernel_rfl) (fun _ _ _ h => h) (Or.inr ⟨by rfl, rfl⟩) (by assumption) ?_
    simp only [Act.put, List.setIfInBounds_toArray, List.set_cons_zero, List.set_cons_succ]
    refine wpAnyH_take (i := 8) (oi := { dst := some 70, op := Op.load 24 (Operand.tmp 4), type := 24, pos := "law.go:88", after := #[{ on := 4, ground := Ground.guard }], guard := some (4, true) }) (v := undef) rfl (by kernel_rfl) (by kernel_rfl) (by kernel_rfl) (fun _ _ _ h => h) (Or.inr ⟨by rfl, rfl⟩) (by assumption) ?_
    simp only [Act.put, List.setIfInBounds_toArray, List.set_cons_zero, List.set_cons_succ]
    refine wpAnyH_take (i := 9) (oi := { dst := some 71, op := Op.load 24 (Operand.tmp 5), type := 24, pos := "law.go:88", after := #[{ on := 4, ground := Ground.guard }], guard := some (4, true) }) (v := undef) rfl (by kernel_rfl) (by kernel_rfl) (by kernel_rfl) (fun _ _ _ h => h) (Or.inr ⟨by rfl, rfl⟩) (by assumption) ?_
    simp only [Act.put, List.setIfInBounds_toArray, List.set_cons_zero, List.set_cons_succ]
    refine wpAnyH_take (i := 10) (oi := { dst := some 72, op := Op.call { callee := Callee.value (Operand.func 16), args := #[Operand.tmp 70, Operand.tmp 71], argTypes := #[24, 24] }, type := 24, pos := "law.go:88", after := #[{ on := 8, ground := Ground.data }, { on := 9, ground := Ground.data }, { on := 7, ground := Ground.chain }, { on := 4, ground := Ground.guard }], guard := some (4, true) }) (v := undef) rfl (by kernel_rfl) (by kernel_rfl) (by kernel_rfl) (fun _ _ _ h => h) (Or.inr ⟨by rfl, rfl⟩) (by assumption) ?_
    simp only [Act.put, List.setIfInBounds_toArray, List.set_cons_zero, List.set_cons_succ]
    refine wpAnyH_take (i := 11) (oi := { dst := some 73, op := Op.call { callee := Callee.value (Operand.func 22), args := #[Operand.tmp 69, Operand.tmp 72], argTypes := #[24, 24] }, type := 3, pos := "law.go:88", after := #[{ on := 7, ground := Ground.data }, { on := 10, ground := Ground.data }, { on := 10, ground := Ground.chain }, { on := 4, ground := Ground.guard }], guard := some (4, true) }) (v := undef) rfl (by kernel_rfl) (by kernel_rfl) (by kernel_rfl) (fun _ _ _ h => h) (Or.inr ⟨by rfl, rfl⟩) (by assumption) ?_
    simp only [Act.put, List.setIfInBounds_toArray, List.set_cons_zero, List.set_cons_succ]
    refine wpAnyH_take (i := 12) (oi := { dst := some 74, op := Op.binOp BinOp.gtr 3 (Operand.tmp 73) (Operand.const (Value.int IntKind.i64 0)) 3, type := 4, pos := "law.go:88", after := #[{ on := 11, ground := Ground.data }, { on := 4, ground := Ground.guard }], guard := some (4, true) }) (v := undef) rfl (by kernel_rfl) (by kernel_rfl) (by kernel_rfl) (fun _ _ _ h => h) (Or.inr ⟨by rfl, rfl⟩) (by assumption) ?_
    simp only [Act.put, List.setIfInBounds_toArray, List.set_cons_zero, List.set_cons_succ]
    refine wpAnyH_take (i := 13) (oi := { dst := some 75, op := Op.pick (Operand.tmp 66) (Operand.tmp 74) (Operand.const (Value.bool false)), type := 4, pos := "law.go:88", after := #[{ on := 4, ground := Ground.data }, { on := 12, ground := Ground.data }], guard := none }) (v := .bool false) rfl (by kernel_rfl) (by kernel_rfl) (by kernel_rfl) (fun _ _ _ h => h) (Or.inl ⟨by rfl, by (intro w hSw; go_simp)⟩) (by assumption) ?_
    simp only [Act.put, List.setIfInBounds_toArray, List.set_cons_zero, List.set_cons_succ]
    refine wpAnyH_done (by kernel_rfl) ?_ _
    go_wp2_with fail
    replace a := a.drew
    replace b := b.drew
    replace c := c.drew
    replace XA := XA.drew
    replace XB := XB.drew
    replace XC := XC.drew
    replace hb := hb.drew
    go_region_held3 (fun w' => w'.cell? ⟨w.heap.size, 0, none⟩ = some (.bool s) ∧ w'.cell? ⟨w.heap.size, 1, none⟩ = some (.slice A n c') ∧ w'.cell? ⟨w.heap.size + 1, 0, none⟩ = some (.bool t) ∧ w'.cell? ⟨w.heap.size + 1, 1, none⟩ = some (.slice B m d) ∧ w'.cell? ⟨w.heap.size + 1 + 1, 0, none⟩ = some (.bool u) ∧ w'.cell? ⟨w.heap.size + 1 + 1, 1, none⟩ = some (.slice C p f))
      (first | with_reducible exact ⟨XA.c0, XA.c1, XB.c0, XB.c1, XC.c0, XC.c1⟩)
      (first
      | (go_at_call 20; (with_reducible refine (zmul_zr 30 a b (by omega) (by omega) (by omega)).mono ?_); rintro e w_m2 ⟨s_m2, A_m2, n_m2, c_m2, rfl, m2, hh⟩
         try replace a := a.below hh
         try replace b := b.below hh
         try replace c := c.below hh
         try replace s1 := s1.below hh
         try replace s2 := s2.below hh
         try replace s3 := s3.below hh
         try replace s4 := s4.below hh
         try replace m1 := m1.below hh
         try replace m3 := m3.below hh
         try replace m4 := m4.below hh
         try replace m5 := m5.below hh
         try replace p1 := p1.below hh
         try replace p2 := p2.below hh
         try replace d1 := d1.below hh
         try replace XA := XA.below hh
         try replace XB := XB.below hh
         try replace XC := XC.below hh
         replace hb := bend hb hh)
      | (go_at_call 24; (with_reducible refine (sign_zr m2 (by omega)).mono ?_); rintro e w_z ⟨rfl, hh⟩
         rw [HS.out]
         try replace a := a.below hh
         try replace b := b.below hh
         try replace c := c.below hh
         try replace s1 := s1.below hh
         try replace s2 := s2.below hh
         try replace s3 := s3.below hh
         try replace s4 := s4.below hh
         try replace m1 := m1.below hh
         try replace m2 := m2.below hh
         try replace m3 := m3.below hh
         try replace m4 := m4.below hh
         try replace m5 := m5.below hh
         try replace p1 := p1.below hh
         try replace p2 := p2.below hh
         try replace d1 := d1.below hh
         try replace XA := XA.below hh
         try replace XB := XB.below hh
         try replace XC := XC.below hh
         replace hb := bend hb hh)
      | (go_at_call 24; (with_reducible refine (sign_zr a (by omega)).mono ?_); rintro e w_z ⟨rfl, hh⟩
         rw [HA.out]
         try replace a := a.below hh
         try replace b := b.below hh
         try replace c := c.below hh
         try replace s1 := s1.below hh
         try replace s2 := s2.below hh
         try replace s3 := s3.below hh
         try replace s4 := s4.below hh
         try replace m1 := m1.below hh
         try replace m2 := m2.below hh
         try replace m3 := m3.below hh
         try replace m4 := m4.below hh
         try replace m5 := m5.below hh
         try replace p1 := p1.below hh
         try replace p2 := p2.below hh
         try replace d1 := d1.below hh
         try replace XA := XA.below hh
         try replace XB := XB.below hh
         try replace XC := XC.below hh
         replace hb := bend hb hh)
      | (go_at_call 24; (with_reducible refine (sign_zr b (by omega)).mono ?_); rintro e w_z ⟨rfl, hh⟩
         rw [HB.out]
         try replace a := a.below hh
         try replace b := b.below hh
         try replace c := c.below hh
         try replace s1 := s1.below hh
         try replace s2 := s2.below hh
         try replace s3 := s3.below hh
         try replace s4 := s4.below hh
         try replace m1 := m1.below hh
         try replace m2 := m2.below hh
         try replace m3 := m3.below hh
         try replace m4 := m4.below hh
         try replace m5 := m5.below hh
         try replace p1 := p1.below hh
         try replace p2 := p2.below hh
         try replace d1 := d1.below hh
         try replace XA := XA.below hh
         try replace XB := XB.below hh
         try replace XC := XC.below hh
         replace hb := bend hb hh)
      | (go_at_call 18; (with_reducible refine (zsub_zr 16 a a (by omega) (by omega) (by omega)).mono ?_); rintro e w_d1 ⟨s_d1, A_d1, n_d1, c_d1, rfl, d1, hh⟩
         try replace a := a.below hh
         try replace b := b.below hh
         try replace c := c.below hh
         try replace s1 := s1.below hh
         try replace s2 := s2.below hh
         try replace s3 := s3.below hh
         try replace s4 := s4.below hh
         try replace m1 := m1.below hh
         try replace m2 := m2.below hh
         try replace m3 := m3.below hh
         try replace m4 := m4.below hh
         try replace m5 := m5.below hh
         try replace p1 := p1.below hh
         try replace p2 := p2.below hh
         try replace XA := XA.below hh
         try replace XB := XB.below hh
         try replace XC := XC.below hh
         replace hb := bend hb hh)
      | (go_at_call 24; (with_reducible refine (sign_zr d1 (by omega)).mono ?_); rintro e w_z ⟨rfl, hh⟩
         rw [HD.out]
         try replace a := a.below hh
         try replace b := b.below hh
         try replace c := c.below hh
         try replace s1 := s1.below hh
         try replace s2 := s2.below hh
         try replace s3 := s3.below hh
         try replace s4 := s4.below hh
         try replace m1 := m1.below hh
         try replace m2 := m2.below hh
         try replace m3 := m3.below hh
         try replace m4 := m4.below hh
         try replace m5 := m5.below hh
         try replace p1 := p1.below hh
         try replace p2 := p2.below hh
         try replace d1 := d1.below hh
         try replace XA := XA.below hh
         try replace XB := XB.below hh
         try replace XC := XC.below hh
         replace hb := bend hb hh)
      | (go_at_call 10; (with_reducible refine (wakes_any _).mono ?_); rintro e w_z ⟨rfl, hh⟩
         try replace a := a.below hh
         try replace b := b.below hh
         try replace c := c.below hh
         try replace s1 := s1.below hh
         try replace s2 := s2.below hh
         try replace s3 := s3.below hh
         try replace s4 := s4.below hh
         try replace m1 := m1.below hh
         try replace m2 := m2.below hh
         try replace m3 := m3.below hh
         try replace m4 := m4.below hh
         try replace m5 := m5.below hh
         try replace p1 := p1.below hh
         try replace p2 := p2.below hh
         try replace d1 := d1.below hh
         try replace XA := XA.below hh
         try replace XB := XB.below hh
         try replace XC := XC.below hh
         replace hb := bend hb hh))
    go_wp2
    go_ret
    exact ⟨rfl, hb⟩

set_option maxRecDepth 100000 in
theorem law_laws (s t u : Bool) (la lb lc : List Nat) (A B C : Option Addr) (n c' m d p f : Nat) (w : World) (ha : Rd .u64 w A n la) (hb : Rd .u64 w B m lb) (hc : Rd .u64 w C p lc) (La : Lim B64 la) (Lb : Lim B64 lb) (Lc : Lim B64 lc) (hnc : n ≤ c') (hmd : m ≤ d) (hpf : p ≤ f) :
    Calls Try.prog 7 #[.agg #[.bool s, .slice A n c'], .agg #[.bool t, .slice B m d], .agg #[.bool u, .slice C p f]] w fun e w' => e = .returned (.bool true) ∧ Below w.heap.size w w' := by
  by_cases h15 : n ≤ 15 ∧ m ≤ 15 ∧ p ≤ 15
  · obtain ⟨h1, h2, h3⟩ := h15
    have a := ZR.of_rd (s := s) ha La hnc h1
    have b := ZR.of_rd (s := t) hb Lb hmd h2
    have c := ZR.of_rd (s := u) hc Lc hpf h3
    generalize iv s (val B64 la) = v at a
    generalize iv t (val B64 lb) = x at b
    generalize iv u (val B64 lc) = y at c
    rcases cmpZ_three v x with h | h | h
    · exact laws_le s t u v x y A B C n c' m d p f w a b c h1 h2 h3 _ h rfl rfl
    · exact laws_le s t u v x y A B C n c' m d p f w a b c h1 h2 h3 _ h rfl rfl
    · exact laws_gt s t u v x y A B C n c' m d p f w a b c h1 h2 h3 _ h rfl rfl
  · by_cases hn : 15 < n
    · have hn1 : (15 : Int) < (n : Int) := by omega
      go_enter Try.func7, Try.ntmps7
      go_wp2_with (go_at_call 10; ((with_reducible refine (wakes_any _).mono ?_); rintro e w' ⟨rfl, h1⟩))
      go_ret
      exact ⟨rfl, bend ((((Below.refl _ _).alloc (Nat.le_refl _) _).alloc (by simp) _).alloc (by simp; omega) _) h1⟩
    · by_cases hm : 15 < m
      · have hm1 : (15 : Int) < (m : Int) := by omega
        go_enter Try.func7, Try.ntmps7
        go_wp2_with (go_at_call 10; ((with_reducible refine (wakes_any _).mono ?_); rintro e w' ⟨rfl, h1⟩))
        go_ret
        exact ⟨rfl, bend ((((Below.refl _ _).alloc (Nat.le_refl _) _).alloc (by simp) _).alloc (by simp; omega) _) h1⟩
      · have hp1 : (15 : Int) < (p : Int) := by omega
        go_enter Try.func7, Try.ntmps7
        go_wp2_with (go_at_call 10; ((with_reducible refine (wakes_any _).mono ?_); rintro e w' ⟨rfl, h1⟩))
        go_ret
        exact ⟨rfl, bend ((((Below.refl _ _).alloc (Nat.le_refl _) _).alloc (by simp) _).alloc (by simp; omega) _) h1⟩
end Go.Proofs.Ytflcgeehpboldaa
