/- math/bits.Div64. -/
import Derived.Test.YtflcgeehpboldaaBits
import Derived.Test.YtflcgeehpboldaaMul
import Derived.Test.YtflcgeehpboldaaEst
namespace Go.Proofs.Ytflcgeehpboldaa
open Go.RowKit

theorem wrap_mul {q Y0 : Nat} (h1 : q < 4294967296) (h2 : Y0 < 4294967296) : IntKind.u64.wrap ((q : Int) * (Y0 : Int)) = (q : Int) * (Y0 : Int) := by
  have h : q * Y0 ≤ 4294967295 * 4294967295 := Nat.mul_le_mul (by omega) (by omega)
  have := wrap_nat (q * Y0)
  rw [Nat.mod_eq_of_lt (by rw [B64_eq]; omega)] at this
  exact this
theorem meas_down {q : Nat} (h : 1 ≤ q) : (intOf (.int .u64 ((q : Int) - 1))).toNat < (intOf (.int .u64 (q : Int))).toNat := by
  simp only [intOf]; omega
theorem rel_down {Y Y1 Y0 U u Q q r : Nat} (h1 : 1 ≤ q) (hq : q < 18446744073709551616) (hr : r + Y1 < 4294967296) (h : Hid (Est Y Y1 Y0 U u Q (q - 1) (r + Y1))) :
    ∃ q' r' : Nat, Value.int .u64 ((q : Int) - 1) = .int .u64 (q' : Int) ∧ Value.int .u64 ((r : Int) + (Y1 : Int)) = .int .u64 (r' : Int) ∧ Hid (Est Y Y1 Y0 U u Q q' r') ∧ q' < 18446744073709551616 ∧ r' < 4294967296 ∧ True :=
  ⟨q - 1, r + Y1, by rw [show ((q - 1 : Nat) : Int) = (q : Int) - 1 by omega], by rw [Int.natCast_add], h, Nat.lt_of_le_of_lt (Nat.sub_le _ _) hq, hr, trivial⟩
theorem fin_a {a b q : Nat} (h : a * 4294967296 + b = q ∧ q < B64) : (a : Int) * 4294967296 + (b : Int) = (q : Int) := by omega
theorem fin_b {a b q : Nat} (h : a * 4294967296 + b = q ∧ q < B64) : IntKind.u64.wrap ((a : Int) * 4294967296 + (b : Int)) = (q : Int) := by
  rw [fin_a h]
  have := wrap_nat q
  rwa [Nat.mod_eq_of_lt h.2] at this
theorem fin_c {a b q : Nat} (h : a * 4294967296 + b = q ∧ q < B64) : IntKind.u64.wrap (IntKind.u64.wrap ((a : Int) * 4294967296) + (b : Int)) = (q : Int) := by
  have h1 : (a : Int) * 4294967296 = ((a * 4294967296 : Nat) : Int) := by omega
  have := wrap_nat (a * 4294967296)
  rw [Nat.mod_eq_of_lt (by omega)] at this
  rw [h1, this, ← h1]
  exact fin_b h
theorem int_lt {q Y0 r u : Nat} (hq : q < 4294967296) (h : ¬ (q < 4294967296 ∧ q * Y0 ≤ 4294967296 * r + u)) : (4294967296 : Int) * (r : Int) + (u : Int) < (q : Int) * (Y0 : Int) := by
  have h1 : 4294967296 * r + u < q * Y0 := by
    rcases Nat.lt_or_ge (4294967296 * r + u) (q * Y0) with h1 | h1
    · exact h1
    · exact absurd ⟨hq, h1⟩ h
  have h2 := Int.ofNat_lt.2 h1
  rw [Int.natCast_add, Int.natCast_mul, Int.natCast_mul] at h2
  exact h2
theorem int_not_lt {q Y0 r u : Nat} (h : q * Y0 ≤ 4294967296 * r + u) : ¬ (4294967296 : Int) * (r : Int) + (u : Int) < (q : Int) * (Y0 : Int) := by
  have h1 := Int.ofNat_le.2 h
  rw [Int.natCast_add, Int.natCast_mul, Int.natCast_mul] at h1
  exact Int.not_lt.2 h1
theorem est_or {q Y0 r u : Nat} (h : ¬ (q < 4294967296 ∧ q * Y0 ≤ 4294967296 * r + u)) : H32 ≤ q ∨ H32 * r + u < q * Y0 := by
  rw [H32_eq]
  by_cases hq : q < 4294967296
  · right
    rcases Nat.lt_or_ge (4294967296 * r + u) (q * Y0) with h1 | h1
    · exact h1
    · exact absurd ⟨hq, h1⟩ h
  · left; omega

set_option maxRecDepth 100000 in
set_option maxHeartbeats 4000000 in
theorem div64_core (hi lo y s Y Y1 Y0 L l1 l0 U Q1 R1 Q0 R0 quo rem p1 r1 p2 r2 : Nat) (w : World) (hy : hi < y) (hyB : y < B64) (hhi : 0 < hi) (hs : 64 - bl y = s) (hs64 : s < 64)
    (E1 : Hid (EstOf Y Y1 Y0 U l1 Q1)) (E2 : Hid (EstOf Y Y1 Y0 R1 l0 Q0)) (bY1 : 1 ≤ Y1) (bY1' : Y1 < 4294967296) (bY0 : Y0 < 4294967296) (bl1 : l1 < 4294967296) (bl0 : l0 < 4294967296)
    (e1 : IntKind.u64.wrap ((y : Int) * 2 ^ s) = (Y : Int)) (e2 : (Y : Int) / 4294967296 = (Y1 : Int)) (e3 : bits .and .u64 (Y : Int) 4294967295 = (Y0 : Int))
    (e4 : bits .or .u64 (IntKind.u64.wrap ((hi : Int) * 2 ^ s)) ((lo : Int) / 2 ^ (64 - s)) = (U : Int)) (e5 : IntKind.u64.wrap ((lo : Int) * 2 ^ s) = (L : Int))
    (e6 : (L : Int) / 4294967296 = (l1 : Int)) (e7 : bits .and .u64 (L : Int) 4294967295 = (l0 : Int))
    (e8 : IntKind.u64.wrap (IntKind.u64.wrap (IntKind.u64.wrap ((U : Int) * 4294967296) + (l1 : Int)) - IntKind.u64.wrap ((Q1 : Int) * (Y : Int))) = (R1 : Int))
    (e9 : Hid (Q1 * 4294967296 + Q0 = quo ∧ quo < B64))
    (e10 : IntKind.u64.wrap (IntKind.u64.wrap (IntKind.u64.wrap ((R1 : Int) * 4294967296) + (l0 : Int)) - IntKind.u64.wrap ((Q0 : Int) * (Y : Int))) = (R0 : Int))
    (e11 : (R0 : Int) / 2 ^ s = (rem : Int))
    (e12 : IntKind.u64.wrap ((U : Int) / (Y1 : Int)) = (p1 : Int)) (e13 : IntKind.u64.wrap ((U : Int) - IntKind.u64.wrap ((p1 : Int) * (Y1 : Int))) = (r1 : Int))
    (e14 : IntKind.u64.wrap ((R1 : Int) / (Y1 : Int)) = (p2 : Int)) (e15 : IntKind.u64.wrap ((R1 : Int) - IntKind.u64.wrap ((p2 : Int) * (Y1 : Int))) = (r2 : Int))
    (S1 : Hid (Est Y Y1 Y0 U l1 Q1 p1 r1)) (S2 : Hid (Est Y Y1 Y0 R1 l0 Q0 p2 r2)) (bp1 : p1 < 18446744073709551616) (bp2 : p2 < 18446744073709551616) (br1 : r1 < 4294967296) (br2 : r2 < 4294967296) :
    Calls Try.prog 93 #[.int .u64 (hi : Int), .int .u64 (lo : Int), .int .u64 (y : Int)] w fun e w' => e = .returned (.tuple #[.int .u64 (quo : Int), .int .u64 (rem : Int)]) ∧ w = w' := by
  have HS := Lib.hid hs
  clear hs
  have h0 : ((y : Int) == 0) = false := by simp; omega
  have h1 : ((hi : Int) == 0) = false := by simp; omega
  have hy' : ¬ (y : Int) ≤ (hi : Int) := by omega
  go_enter Try.func93, Try.ntmps93
  go_wp2_with (go_at_call 94; refine (lz64_any y hyB w).mono ?_; rintro e w' ⟨rfl, rfl⟩; rw [HS.out])
  go_loopw [15, 16] (fun a b wr => ∃ q r : Nat, a = .int .u64 (q : Int) ∧ b = .int .u64 (r : Int) ∧ Hid (Est Y Y1 Y0 U l1 Q1 q r) ∧ q < 18446744073709551616 ∧ r < 4294967296 ∧ w = wr) (fun a _ _ => (intOf a).toNat)
  case atStart => exact ⟨p1, r1, rfl, rfl, S1, bp1, br1, rfl⟩
  case round =>
    obtain ⟨q, r, rfl, rfl, HE, hq, hr, rfl⟩ := hrel
    by_cases hstop : q < 4294967296 ∧ q * Y0 ≤ 4294967296 * r + l1
    · obtain ⟨c1, c2⟩ := hstop
      obtain rfl : q = Q1 := E1.out.eq HE.out c2
      have hw : IntKind.u64.wrap ((q : Int) * (Y0 : Int)) = (q : Int) * (Y0 : Int) := wrap_mul c1 bY0
      have c1' : ¬ (4294967296 : Int) ≤ (q : Int) := by omega
      have c2' : ¬ (4294967296 : Int) * (r : Int) + (l1 : Int) < (q : Int) * (Y0 : Int) := int_not_lt c2
      clear c2
      go_wp2_with fail
      clear HE hq hr S1 bp1 br1 e13 e12
      go_loopw [16, 18] (fun b a wr => ∃ q r : Nat, a = .int .u64 (q : Int) ∧ b = .int .u64 (r : Int) ∧ Hid (Est Y Y1 Y0 R1 l0 Q0 q r) ∧ q < 18446744073709551616 ∧ r < 4294967296 ∧ w = wr) (fun _ a _ => (intOf a).toNat)
      case atStart => exact ⟨p2, r2, rfl, rfl, S2, bp2, br2, rfl⟩
      case round =>
        obtain ⟨q, r, rfl, rfl, HE, hq, hr, rfl⟩ := hrel
        by_cases hstop : q < 4294967296 ∧ q * Y0 ≤ 4294967296 * r + l0
        · obtain ⟨c1, c2⟩ := hstop
          obtain rfl : q = Q0 := E2.out.eq HE.out c2
          have hw : IntKind.u64.wrap ((q : Int) * (Y0 : Int)) = (q : Int) * (Y0 : Int) := wrap_mul c1 bY0
          have c1' : ¬ (4294967296 : Int) ≤ (q : Int) := by omega
          have c2' : ¬ (4294967296 : Int) * (r : Int) + (l0 : Int) < (q : Int) * (Y0 : Int) := int_not_lt c2
          clear c2
          go_wp2_with fail
          go_ret2
          exact ⟨ret_two (by first | exact fin_a e9.out | exact fin_b e9.out | exact fin_c e9.out) rfl, rfl⟩
        · have hdn : Q0 + 1 ≤ q := E2.out.down HE.out (est_or hstop)
          have hq1 : 1 ≤ q := by omega
          by_cases c3 : r + Y1 < 4294967296
          · have HN := Lib.hid (HE.out.next hdn c3); have C3 := Lib.hid c3; have c3i : ¬ (4294967296 : Int) ≤ (r : Int) + (Y1 : Int) := (by omega); clear c3
            by_cases c1 : (4294967296 : Int) ≤ (q : Int)
            · clear hstop
              go_wp2_with fail
              go_roundw
              case rel => exact rel_down hq1 hq C3.out HN
              case measure => exact meas_down hq1
            · have hw : IntKind.u64.wrap ((q : Int) * (Y0 : Int)) = (q : Int) * (Y0 : Int) := wrap_mul (by omega) bY0
              have c2' : (4294967296 : Int) * (r : Int) + (l0 : Int) < (q : Int) * (Y0 : Int) := int_lt (by omega) hstop
              clear hstop
              go_wp2_with fail
              go_roundw
              case rel => exact rel_down hq1 hq C3.out HN
              case measure => exact meas_down hq1
          · have hQ : (q : Int) - 1 = (Q0 : Int) := by have := E2.out.stop HE.out hdn (by rw [H32_eq]; omega); omega
            have c3' : (4294967296 : Int) ≤ (r : Int) + (Y1 : Int) := by omega
            by_cases c1 : (4294967296 : Int) ≤ (q : Int)
            · clear hstop c3
              go_wp2_with fail
              go_ret2
              exact ⟨ret_two (by first | exact fin_a e9.out | exact fin_b e9.out | exact fin_c e9.out) rfl, rfl⟩
            · have hw : IntKind.u64.wrap ((q : Int) * (Y0 : Int)) = (q : Int) * (Y0 : Int) := wrap_mul (by omega) bY0
              have c2' : (4294967296 : Int) * (r : Int) + (l0 : Int) < (q : Int) * (Y0 : Int) := int_lt (by omega) hstop
              clear hstop c3
              go_wp2_with fail
              go_ret2
              exact ⟨ret_two (by first | exact fin_a e9.out | exact fin_b e9.out | exact fin_c e9.out) rfl, rfl⟩
    · have hdn : Q1 + 1 ≤ q := E1.out.down HE.out (est_or hstop)
      have hq1 : 1 ≤ q := by omega
      by_cases c3 : r + Y1 < 4294967296
      · have HN := Lib.hid (HE.out.next hdn c3); have C3 := Lib.hid c3; have c3i : ¬ (4294967296 : Int) ≤ (r : Int) + (Y1 : Int) := (by omega); clear c3
        by_cases c1 : (4294967296 : Int) ≤ (q : Int)
        · clear hstop
          go_wp2_with fail
          go_roundw
          case rel => exact rel_down hq1 hq C3.out HN
          case measure => exact meas_down hq1
        · have hw : IntKind.u64.wrap ((q : Int) * (Y0 : Int)) = (q : Int) * (Y0 : Int) := wrap_mul (by omega) bY0
          have c2' : (4294967296 : Int) * (r : Int) + (l1 : Int) < (q : Int) * (Y0 : Int) := int_lt (by omega) hstop
          clear hstop
          go_wp2_with fail
          go_roundw
          case rel => exact rel_down hq1 hq C3.out HN
          case measure => exact meas_down hq1
      · have hQ : (q : Int) - 1 = (Q1 : Int) := by have := E1.out.stop HE.out hdn (by rw [H32_eq]; omega); omega
        have c3' : (4294967296 : Int) ≤ (r : Int) + (Y1 : Int) := by omega
        by_cases c1 : (4294967296 : Int) ≤ (q : Int)
        · clear hstop c3
          go_wp2_with fail
          clear HE hq hr S1 bp1 br1 e13 e12
          go_loopw [16, 18] (fun b a wr => ∃ q r : Nat, a = .int .u64 (q : Int) ∧ b = .int .u64 (r : Int) ∧ Hid (Est Y Y1 Y0 R1 l0 Q0 q r) ∧ q < 18446744073709551616 ∧ r < 4294967296 ∧ w = wr) (fun _ a _ => (intOf a).toNat)
          case atStart => exact ⟨p2, r2, rfl, rfl, S2, bp2, br2, rfl⟩
          case round =>
            obtain ⟨q, r, rfl, rfl, HE, hq, hr, rfl⟩ := hrel
            by_cases hstop : q < 4294967296 ∧ q * Y0 ≤ 4294967296 * r + l0
            · obtain ⟨c1, c2⟩ := hstop
              obtain rfl : q = Q0 := E2.out.eq HE.out c2
              have hw : IntKind.u64.wrap ((q : Int) * (Y0 : Int)) = (q : Int) * (Y0 : Int) := wrap_mul c1 bY0
              have c1' : ¬ (4294967296 : Int) ≤ (q : Int) := by omega
              have c2' : ¬ (4294967296 : Int) * (r : Int) + (l0 : Int) < (q : Int) * (Y0 : Int) := int_not_lt c2
              clear c2
              go_wp2_with fail
              go_ret2
              exact ⟨ret_two (by first | exact fin_a e9.out | exact fin_b e9.out | exact fin_c e9.out) rfl, rfl⟩
            · have hdn : Q0 + 1 ≤ q := E2.out.down HE.out (est_or hstop)
              have hq1 : 1 ≤ q := by omega
              by_cases c3 : r + Y1 < 4294967296
              · have HN := Lib.hid (HE.out.next hdn c3); have C3 := Lib.hid c3; have c3i : ¬ (4294967296 : Int) ≤ (r : Int) + (Y1 : Int) := (by omega); clear c3
                by_cases c1 : (4294967296 : Int) ≤ (q : Int)
                · clear hstop
                  go_wp2_with fail
                  go_roundw
                  case rel => exact rel_down hq1 hq C3.out HN
                  case measure => exact meas_down hq1
                · have hw : IntKind.u64.wrap ((q : Int) * (Y0 : Int)) = (q : Int) * (Y0 : Int) := wrap_mul (by omega) bY0
                  have c2' : (4294967296 : Int) * (r : Int) + (l0 : Int) < (q : Int) * (Y0 : Int) := int_lt (by omega) hstop
                  clear hstop
                  go_wp2_with fail
                  go_roundw
                  case rel => exact rel_down hq1 hq C3.out HN
                  case measure => exact meas_down hq1
              · have hQ : (q : Int) - 1 = (Q0 : Int) := by have := E2.out.stop HE.out hdn (by rw [H32_eq]; omega); omega
                have c3' : (4294967296 : Int) ≤ (r : Int) + (Y1 : Int) := by omega
                by_cases c1 : (4294967296 : Int) ≤ (q : Int)
                · clear hstop c3
                  go_wp2_with fail
                  go_ret2
                  exact ⟨ret_two (by first | exact fin_a e9.out | exact fin_b e9.out | exact fin_c e9.out) rfl, rfl⟩
                · have hw : IntKind.u64.wrap ((q : Int) * (Y0 : Int)) = (q : Int) * (Y0 : Int) := wrap_mul (by omega) bY0
                  have c2' : (4294967296 : Int) * (r : Int) + (l0 : Int) < (q : Int) * (Y0 : Int) := int_lt (by omega) hstop
                  clear hstop c3
                  go_wp2_with fail
                  go_ret2
                  exact ⟨ret_two (by first | exact fin_a e9.out | exact fin_b e9.out | exact fin_c e9.out) rfl, rfl⟩
        · have hw : IntKind.u64.wrap ((q : Int) * (Y0 : Int)) = (q : Int) * (Y0 : Int) := wrap_mul (by omega) bY0
          have c2' : (4294967296 : Int) * (r : Int) + (l1 : Int) < (q : Int) * (Y0 : Int) := int_lt (by omega) hstop
          clear hstop c3
          go_wp2_with fail
          clear HE hq hr S1 bp1 br1 e13 e12
          go_loopw [16, 18] (fun b a wr => ∃ q r : Nat, a = .int .u64 (q : Int) ∧ b = .int .u64 (r : Int) ∧ Hid (Est Y Y1 Y0 R1 l0 Q0 q r) ∧ q < 18446744073709551616 ∧ r < 4294967296 ∧ w = wr) (fun _ a _ => (intOf a).toNat)
          case atStart => exact ⟨p2, r2, rfl, rfl, S2, bp2, br2, rfl⟩
          case round =>
            obtain ⟨q, r, rfl, rfl, HE, hq, hr, rfl⟩ := hrel
            by_cases hstop : q < 4294967296 ∧ q * Y0 ≤ 4294967296 * r + l0
            · obtain ⟨c1, c2⟩ := hstop
              obtain rfl : q = Q0 := E2.out.eq HE.out c2
              have hw : IntKind.u64.wrap ((q : Int) * (Y0 : Int)) = (q : Int) * (Y0 : Int) := wrap_mul c1 bY0
              have c1' : ¬ (4294967296 : Int) ≤ (q : Int) := by omega
              have c2' : ¬ (4294967296 : Int) * (r : Int) + (l0 : Int) < (q : Int) * (Y0 : Int) := int_not_lt c2
              clear c2
              go_wp2_with fail
              go_ret2
              exact ⟨ret_two (by first | exact fin_a e9.out | exact fin_b e9.out | exact fin_c e9.out) rfl, rfl⟩
            · have hdn : Q0 + 1 ≤ q := E2.out.down HE.out (est_or hstop)
              have hq1 : 1 ≤ q := by omega
              by_cases c3 : r + Y1 < 4294967296
              · have HN := Lib.hid (HE.out.next hdn c3); have C3 := Lib.hid c3; have c3i : ¬ (4294967296 : Int) ≤ (r : Int) + (Y1 : Int) := (by omega); clear c3
                by_cases c1 : (4294967296 : Int) ≤ (q : Int)
                · clear hstop
                  go_wp2_with fail
                  go_roundw
                  case rel => exact rel_down hq1 hq C3.out HN
                  case measure => exact meas_down hq1
                · have hw : IntKind.u64.wrap ((q : Int) * (Y0 : Int)) = (q : Int) * (Y0 : Int) := wrap_mul (by omega) bY0
                  have c2' : (4294967296 : Int) * (r : Int) + (l0 : Int) < (q : Int) * (Y0 : Int) := int_lt (by omega) hstop
                  clear hstop
                  go_wp2_with fail
                  go_roundw
                  case rel => exact rel_down hq1 hq C3.out HN
                  case measure => exact meas_down hq1
              · have hQ : (q : Int) - 1 = (Q0 : Int) := by have := E2.out.stop HE.out hdn (by rw [H32_eq]; omega); omega
                have c3' : (4294967296 : Int) ≤ (r : Int) + (Y1 : Int) := by omega
                by_cases c1 : (4294967296 : Int) ≤ (q : Int)
                · clear hstop c3
                  go_wp2_with fail
                  go_ret2
                  exact ⟨ret_two (by first | exact fin_a e9.out | exact fin_b e9.out | exact fin_c e9.out) rfl, rfl⟩
                · have hw : IntKind.u64.wrap ((q : Int) * (Y0 : Int)) = (q : Int) * (Y0 : Int) := wrap_mul (by omega) bY0
                  have c2' : (4294967296 : Int) * (r : Int) + (l0 : Int) < (q : Int) * (Y0 : Int) := int_lt (by omega) hstop
                  clear hstop c3
                  go_wp2_with fail
                  go_ret2
                  exact ⟨ret_two (by first | exact fin_a e9.out | exact fin_b e9.out | exact fin_c e9.out) rfl, rfl⟩
end Go.Proofs.Ytflcgeehpboldaa
