/- gessolaw02.wakes. -/
import Derived.Test.YtehkgiiiobnkdaaZedFun
namespace Go.Proofs.Ytehkgiiiobnkdaa
open Go.RowKit

theorem z_lit {V d : Nat} (h : 0 < d) (h2 : d < 10) (hV : V = d) : txt V = [UInt8.ofNat (48 + d)] := by
  subst hV
  rw [txt, if_neg (by omega), limbs_small (by omega) h2 (by omega)]
  rfl
theorem z_m4 : (⟨(ztxt (-4)).toArray⟩ : ByteArray) = ⟨#[45, 52]⟩ := by rw [ztxt, if_pos (by omega), show ((-4 : Int).natAbs) = 4 from rfl, z_lit (d := 4) (by omega) (by omega) rfl]; rfl
theorem z_m1 : (⟨(ztxt (-1)).toArray⟩ : ByteArray) = ⟨#[45, 49]⟩ := by rw [ztxt, if_pos (by omega), show ((-1 : Int).natAbs) = 1 from rfl, z_lit (d := 1) (by omega) (by omega) rfl]; rfl
theorem z_1 : (⟨(ztxt 1).toArray⟩ : ByteArray) = ⟨#[49]⟩ := by rw [ztxt, if_neg (by omega), show ((1 : Int).natAbs) = 1 from rfl, z_lit (d := 1) (by omega) (by omega) rfl]; rfl
set_option maxRecDepth 100000 in
set_option maxHeartbeats 4000000 in
theorem zwakes_any (w : World) : Calls Try.prog 9 #[] w fun e w' => e = .returned (.bool true) ∧ Below w.heap.size w w' := by
  have hb : Below w.heap.size w w := Below.refl _ _
  have HQ : Hid ((-7 : Int).fdiv 2 = -4 ∧ (-7 : Int).fmod 2 = 1) := by show _ ∧ _; decide
  have HP : Hid ((7 : Int).fdiv (-2) = -4 ∧ (7 : Int).fmod (-2) = -1) := by show _ ∧ _; decide
  have HM : Hid ((-3 : Int) * 5 = -15) := by show _ = _; decide
  have hgd := zgood_good (-4)
  rw [show decide ((-4 : Int) < 0) = true from rfl] at hgd
  have HF : Hid (fitsB (-15) = true) := by show _ = _; decide
  go_enter Try.func9, Try.ntmps9
  go_wp2_with (first
    | (go_at_call 36; (with_reducible refine (zof_zr (-7) (by omega) (by omega) _).mono ?_); rintro e w1 ⟨s1, A1, n1, c1, rfl, R1, hh⟩
       try replace R2 := R2.below hh
       try replace R3 := R3.below hh
       try replace R4 := R4.below hh
       try replace R5 := R5.below hh
       try replace R6 := R6.below hh
       try replace R7 := R7.below hh
       try replace R8 := R8.below hh
       try replace QX := QX.below hh
       try replace RX := RX.below hh
       try replace SX := SX.below hh
       try replace TX := TX.below hh
       try replace g2 := g2.below hh
       replace hb := bend hb hh)
    | (go_at_call 36; (with_reducible refine (zof_zr (2) (by omega) (by omega) _).mono ?_); rintro e w2 ⟨s2, A2, n2, c2, rfl, R2, hh⟩
       try replace R1 := R1.below hh
       try replace R3 := R3.below hh
       try replace R4 := R4.below hh
       try replace R5 := R5.below hh
       try replace R6 := R6.below hh
       try replace R7 := R7.below hh
       try replace R8 := R8.below hh
       try replace QX := QX.below hh
       try replace RX := RX.below hh
       try replace SX := SX.below hh
       try replace TX := TX.below hh
       try replace g2 := g2.below hh
       replace hb := bend hb hh)
    | (go_at_call 28; (with_reducible refine (zdm_zr 2 R1 R2 (by omega) (by omega) (by omega) (by omega) (by omega)).mono ?_); rintro e w3 ⟨s3, A3, n3, c3, s4, A4, n4, c4, rfl, R3, R4, hh, g1, g2, g3⟩
       rw [HQ.out.1] at R3 g1 g2
       rw [HQ.out.2] at R4
       obtain rfl : s3 = true := by (rw [g1]; rfl)
       replace hb := bend hb hh
       clear R1 R2 g1)
    | (go_at_call 36; (with_reducible refine (zof_zr (7) (by omega) (by omega) _).mono ?_); rintro e w5 ⟨s5, A5, n5, c5, rfl, R5, hh⟩
       have e3 : Below w3.heap.size w3 ((w3.alloc (Obj.cells #[Value.bool true, Value.slice A3 n3 c3] 24)).alloc (Obj.cells #[Value.bool s4, Value.slice A4 n4 c4] 24)) := ((Below.refl _ _).alloc (Nat.le_refl _) _).alloc (by simp) _
       replace R3 := (R3.below e3).below hh
       replace R4 := (R4.below e3).below hh
       replace g2 := (g2.below e3).below hh
       have QX := ((Bx.new w3 (Value.bool true) (Value.slice A3 n3 c3)).alloc (Obj.cells #[Value.bool s4, Value.slice A4 n4 c4] 24)).below hh
       have RX := (Bx.new' (w3.alloc (Obj.cells #[Value.bool true, Value.slice A3 n3 c3] 24)) (Value.bool s4) (Value.slice A4 n4 c4) (w3.heap.size + 1) (by simp)).below hh
       replace hb := bend (bend hb e3) hh)
    | (go_at_call 36; (with_reducible refine (zof_zr (-2) (by omega) (by omega) _).mono ?_); rintro e w6 ⟨s6, A6, n6, c6, rfl, R6, hh⟩
       try replace R1 := R1.below hh
       try replace R2 := R2.below hh
       try replace R3 := R3.below hh
       try replace R4 := R4.below hh
       try replace R5 := R5.below hh
       try replace R7 := R7.below hh
       try replace R8 := R8.below hh
       try replace QX := QX.below hh
       try replace RX := RX.below hh
       try replace SX := SX.below hh
       try replace TX := TX.below hh
       try replace g2 := g2.below hh
       replace hb := bend hb hh)
    | (go_at_call 28; (with_reducible refine (zdm_zr 2 R5 R6 (by omega) (by omega) (by omega) (by omega) (by omega)).mono ?_); rintro e w7o ⟨s5, A5, n5, c5, s6, A6, n6, c6, rfl, R5, R6, hh, g5, _, _⟩
       rw [HP.out.1] at R5 g5
       obtain rfl : s5 = true := by (rw [g5]; rfl)
       clear g5
       rw [HP.out.2] at R6
       try replace R1 := R1.below hh
       try replace R2 := R2.below hh
       try replace R3 := R3.below hh
       try replace R4 := R4.below hh
       try replace R7 := R7.below hh
       try replace R8 := R8.below hh
       try replace QX := QX.below hh
       try replace RX := RX.below hh
       try replace SX := SX.below hh
       try replace TX := TX.below hh
       try replace g2 := g2.below hh
       replace hb := bend hb hh)
    | (go_at_call 36; (with_reducible refine (zof_zr (-3) (by omega) (by omega) _).mono ?_); rintro e w7 ⟨s7, A7, n7, c7, rfl, R7, hh⟩
       have e3 : Below w7o.heap.size w7o ((w7o.alloc (Obj.cells #[Value.bool true, Value.slice A5 n5 c5] 24)).alloc (Obj.cells #[Value.bool s6, Value.slice A6 n6 c6] 24)) := ((Below.refl _ _).alloc (Nat.le_refl _) _).alloc (by simp) _
       replace R3 := (R3.below e3).below hh
       replace R4 := (R4.below e3).below hh
       replace R5 := (R5.below e3).below hh
       replace R6 := (R6.below e3).below hh
       replace QX := (QX.below e3).below hh
       replace RX := (RX.below e3).below hh
       replace g2 := (g2.below e3).below hh
       have SX := ((Bx.new w7o (Value.bool true) (Value.slice A5 n5 c5)).alloc (Obj.cells #[Value.bool s6, Value.slice A6 n6 c6] 24)).below hh
       have TX := (Bx.new' (w7o.alloc (Obj.cells #[Value.bool true, Value.slice A5 n5 c5] 24)) (Value.bool s6) (Value.slice A6 n6 c6) (w7o.heap.size + 1) (by simp)).below hh
       replace hb := bend (bend hb e3) hh)
    | (go_at_call 36; (with_reducible refine (zof_zr (5) (by omega) (by omega) _).mono ?_); rintro e w8 ⟨s8, A8, n8, c8, rfl, R8, hh⟩
       try replace R1 := R1.below hh
       try replace R2 := R2.below hh
       try replace R3 := R3.below hh
       try replace R4 := R4.below hh
       try replace R5 := R5.below hh
       try replace R6 := R6.below hh
       try replace R7 := R7.below hh
       try replace QX := QX.below hh
       try replace RX := RX.below hh
       try replace SX := SX.below hh
       try replace TX := TX.below hh
       try replace g2 := g2.below hh
       replace hb := bend hb hh)
    | (go_at_call 19; (with_reducible refine (zmul_zr 2 R7 R8 (by omega) (by omega) (by omega)).mono ?_); rintro e w9 ⟨s9, A9, n9, c9, rfl, R9, hh⟩
       rw [HM.out] at R9
       try replace R1 := R1.below hh
       try replace R2 := R2.below hh
       try replace R3 := R3.below hh
       try replace R4 := R4.below hh
       try replace R5 := R5.below hh
       try replace R6 := R6.below hh
       try replace R7 := R7.below hh
       try replace R8 := R8.below hh
       try replace QX := QX.below hh
       try replace RX := RX.below hh
       try replace SX := SX.below hh
       try replace TX := TX.below hh
       try replace g2 := g2.below hh
       replace hb := bend hb hh)
    | (go_at_call 32; (with_reducible refine (small_zr R9 (by omega) HF.out).mono ?_); rintro e w10 ⟨rfl, hh⟩
       try replace R1 := R1.below hh
       try replace R2 := R2.below hh
       try replace R3 := R3.below hh
       try replace R4 := R4.below hh
       try replace R5 := R5.below hh
       try replace R6 := R6.below hh
       try replace R7 := R7.below hh
       try replace R8 := R8.below hh
       try replace QX := QX.below hh
       try replace RX := RX.below hh
       try replace SX := SX.below hh
       try replace TX := TX.below hh
       try replace g2 := g2.below hh
       replace hb := bend hb hh
       have qx0 := QX.c0
       have qx1 := QX.c1
       have rx0 := RX.c0
       have rx1 := RX.c1
       have sx0 := SX.c0
       have sx1 := SX.c1
       have tx0 := TX.c0
       have tx1 := TX.c1)
    | (go_at_call 34; (with_reducible refine (ztext_zr R3 (by omega)).mono ?_); rintro e w_a ⟨rfl, hh⟩; rw [z_m4]
       try replace R1 := R1.below hh
       try replace R2 := R2.below hh
       try replace R3 := R3.below hh
       try replace R4 := R4.below hh
       try replace R5 := R5.below hh
       try replace R6 := R6.below hh
       try replace R7 := R7.below hh
       try replace R8 := R8.below hh
       try replace QX := QX.below hh
       try replace RX := RX.below hh
       try replace SX := SX.below hh
       try replace TX := TX.below hh
       try replace g2 := g2.below hh
       replace hb := bend hb hh
       have qx0 := QX.c0
       have qx1 := QX.c1
       have rx0 := RX.c0
       have rx1 := RX.c1
       have sx0 := SX.c0
       have sx1 := SX.c1
       have tx0 := TX.c0
       have tx1 := TX.c1)
    | (go_at_call 34; (with_reducible refine (ztext_zr R4 (by omega)).mono ?_); rintro e w_b ⟨rfl, hh⟩; rw [z_1]
       try replace R1 := R1.below hh
       try replace R2 := R2.below hh
       try replace R3 := R3.below hh
       try replace R4 := R4.below hh
       try replace R5 := R5.below hh
       try replace R6 := R6.below hh
       try replace R7 := R7.below hh
       try replace R8 := R8.below hh
       try replace QX := QX.below hh
       try replace RX := RX.below hh
       try replace SX := SX.below hh
       try replace TX := TX.below hh
       try replace g2 := g2.below hh
       replace hb := bend hb hh
       have qx0 := QX.c0
       have qx1 := QX.c1
       have rx0 := RX.c0
       have rx1 := RX.c1
       have sx0 := SX.c0
       have sx1 := SX.c1
       have tx0 := TX.c0
       have tx1 := TX.c1)
    | (go_at_call 34; (with_reducible refine (ztext_zr R5 (by omega)).mono ?_); rintro e w_c ⟨rfl, hh⟩; rw [z_m4]
       try replace R1 := R1.below hh
       try replace R2 := R2.below hh
       try replace R3 := R3.below hh
       try replace R4 := R4.below hh
       try replace R5 := R5.below hh
       try replace R6 := R6.below hh
       try replace R7 := R7.below hh
       try replace R8 := R8.below hh
       try replace QX := QX.below hh
       try replace RX := RX.below hh
       try replace SX := SX.below hh
       try replace TX := TX.below hh
       try replace g2 := g2.below hh
       replace hb := bend hb hh
       have qx0 := QX.c0
       have qx1 := QX.c1
       have rx0 := RX.c0
       have rx1 := RX.c1
       have sx0 := SX.c0
       have sx1 := SX.c1
       have tx0 := TX.c0
       have tx1 := TX.c1)
    | (go_at_call 34; (with_reducible refine (ztext_zr R6 (by omega)).mono ?_); rintro e w_d ⟨rfl, hh⟩; rw [z_m1]
       try replace R1 := R1.below hh
       try replace R2 := R2.below hh
       try replace R3 := R3.below hh
       try replace R4 := R4.below hh
       try replace R5 := R5.below hh
       try replace R6 := R6.below hh
       try replace R7 := R7.below hh
       try replace R8 := R8.below hh
       try replace QX := QX.below hh
       try replace RX := RX.below hh
       try replace SX := SX.below hh
       try replace TX := TX.below hh
       try replace g2 := g2.below hh
       replace hb := bend hb hh
       have qx0 := QX.c0
       have qx1 := QX.c1
       have rx0 := RX.c0
       have rx1 := RX.c1
       have sx0 := SX.c0
       have sx1 := SX.c1
       have tx0 := TX.c0
       have tx1 := TX.c1)
    | (go_at_call 36; (with_reducible refine (zof_zr (-9) (by omega) (by omega) _).mono ?_); rintro e w11 ⟨s11, A11, n11, c11, rfl, R11, hh⟩
       try replace R1 := R1.below hh
       try replace R2 := R2.below hh
       try replace R3 := R3.below hh
       try replace R4 := R4.below hh
       try replace R5 := R5.below hh
       try replace R6 := R6.below hh
       try replace R7 := R7.below hh
       try replace R8 := R8.below hh
       try replace QX := QX.below hh
       try replace RX := RX.below hh
       try replace SX := SX.below hh
       try replace TX := TX.below hh
       try replace g2 := g2.below hh
       replace hb := bend hb hh
       have qx0 := QX.c0
       have qx1 := QX.c1
       have rx0 := RX.c0
       have rx1 := RX.c1
       have sx0 := SX.c0
       have sx1 := SX.c1
       have tx0 := TX.c0
       have tx1 := TX.c1)
    | (go_at_call 23; (with_reducible refine (sign_zr R11 (by omega)).mono ?_); rintro e w_s ⟨rfl, hh⟩
       try replace R1 := R1.below hh
       try replace R2 := R2.below hh
       try replace R3 := R3.below hh
       try replace R4 := R4.below hh
       try replace R5 := R5.below hh
       try replace R6 := R6.below hh
       try replace R7 := R7.below hh
       try replace R8 := R8.below hh
       try replace QX := QX.below hh
       try replace RX := RX.below hh
       try replace SX := SX.below hh
       try replace TX := TX.below hh
       try replace g2 := g2.below hh
       replace hb := bend hb hh
       have qx0 := QX.c0
       have qx1 := QX.c1
       have rx0 := RX.c0
       have rx1 := RX.c1
       have sx0 := SX.c0
       have sx1 := SX.c1
       have tx0 := TX.c0
       have tx1 := TX.c1)
    | (go_at_call 27; (with_reducible refine (hgd _ _ _ _ g2 g3).mono ?_); rintro e w_g ⟨rfl, hh⟩
       replace hb := bend hb hh))
  go_ret
  exact ⟨rfl, hb⟩
end Go.Proofs.Ytehkgiiiobnkdaa
