/- reference: guess. -/
import Derived.Test.YthdpllhpdjhogaaRefG
namespace Go.Proofs.Ythdpllhpdjhogaa
open Go.RowKit

theorem bend3 {B : Nat} {w w1 w2 : World} (h : Below B w w1) (k : Below w1.heap.size w1 w2) (hB : B ≤ w1.heap.size := by first | exact Below.size ‹_› | omega) : Below B w w2 := h.trans (k.mono hB)
theorem len_two {x n : Nat} (hx : x < B64) (h : (limbs B32 x).length = n) : n ≤ 2 := by
  rw [← h]; exact length_limbs_le B32_two (Nat.lt_of_lt_of_le hx (by decide))
theorem top_ge {U n t : Nat} (hl : (limbs B32 U).length = n) (hn : 1 ≤ n) (ht : (limbs B32 U)[n - 1]? = some t) : t * B32 ^ (n - 1) ≤ U := by
  have e : val B32 (limbs B32 U) = val B32 ((limbs B32 U).take (n - 1 + 1)) := by rw [List.take_of_length_le (by omega)]
  rw [val_limbs B32_two, val_take_succ ht] at e
  rw [Nat.mul_comm]; omega
theorem top_ge2 {U n t x : Nat} (hl : (limbs B32 U).length = n) (hn : 2 ≤ n) (ht : (limbs B32 U)[n - 1]? = some t) (hx : (limbs B32 U)[n - 2]? = some x) : (t * B32 + x) * B32 ^ (n - 2) ≤ U := by
  obtain ⟨j, rfl⟩ : ∃ j, n = j + 2 := ⟨n - 2, by omega⟩
  have e : val B32 (limbs B32 U) = val B32 ((limbs B32 U).take (j + 1 + 1)) := by rw [List.take_of_length_le (by omega)]
  rw [val_limbs B32_two, val_take_succ (by simpa using ht), val_take_succ (by simpa using hx), Nat.pow_succ] at e
  simp only [Nat.add_sub_cancel]
  have e2 : (t * B32 + x) * B32 ^ j = B32 ^ j * x + B32 ^ j * B32 * t := by
    generalize B32 ^ j = p
    generalize B32 = b
    grind
  omega
theorem top_lt {V n t : Nat} (hl : (limbs B32 V).length = n) (hn : 1 ≤ n) (ht : (limbs B32 V)[n - 1]? = some t) : V < (t + 1) * B32 ^ (n - 1) := by
  have e : val B32 (limbs B32 V) = val B32 ((limbs B32 V).take (n - 1 + 1)) := by rw [List.take_of_length_le (by omega)]
  rw [val_limbs B32_two, val_take_succ ht] at e
  have h := val_lt ((lim_limbs B32_two V).take (n - 1))
  rw [List.length_take, Nat.min_eq_left (by omega)] at h
  rw [Nat.add_mul, Nat.mul_comm t]; omega
theorem guess_top32 {U V lo : Nat} (h : U < V * B32) (hl : lo * V ≤ U) : 4294967296 ≤ 4294967296 ∧ U < 4294967296 * V ∧ lo < 4294967296 := by
  have h2 : U < 4294967296 * V := by rw [Nat.mul_comm]; exact h
  exact ⟨Nat.le_refl _, h2, Nat.lt_of_mul_lt_mul_right (a := V) (by omega)⟩
theorem guess_topH {U V lo hi H : Nat} (h : U < V * B32) (hl : lo * V ≤ U) (hH : H = min hi 4294967296) (hh : U < hi * V) : H ≤ 4294967296 ∧ U < H * V ∧ lo < H := by
  have h2 : U < 4294967296 * V := by rw [Nat.mul_comm]; exact h
  have h3 : U < H * V := by
    rcases Nat.le_total hi 4294967296 with k | k
    · rw [hH, Nat.min_eq_left k]; exact hh
    · rw [hH, Nat.min_eq_right k]; exact h2
  exact ⟨by omega, h3, Nat.lt_of_mul_lt_mul_right (a := V) (by omega)⟩
theorem guess_end {U V l : Nat} (h1 : l * V ≤ U) (h2 : U < (l + 1) * V) : U / V = l := by
  have hV : 0 < V := by
    rcases Nat.eq_zero_or_pos V with h | h
    · subst h; rw [Nat.mul_zero] at h2; omega
    · exact h
  exact Nat.div_eq_of_lt_le h1 h2
theorem guess_low {U V P T v d : Nat} (hT : T * P ≤ U) (hV : V < (v + 1) * P) (hd : d = T / (v + 1)) : d * V ≤ U := by
  subst hd
  have h1 : T / (v + 1) * (v + 1) ≤ T := Nat.div_mul_le_self _ _
  have h2 := Nat.mul_le_mul_right P h1
  have h3 : T / (v + 1) * V ≤ T / (v + 1) * ((v + 1) * P) := Nat.mul_le_mul_left _ (Nat.le_of_lt hV)
  rw [← Nat.mul_assoc] at h3
  omega

set_option maxRecDepth 100000 in
set_option maxHeartbeats 2000000 in
theorem guess_same (U V : Nat) (A B : Option Addr) (n c m e0 : Nat) (w : World) (ha : Rd .u32 w A n (limbs B32 U)) (hb : Rd .u32 w B m (limbs B32 V)) (hn0 : n ≤ 1000000) (hm0 : m ≤ 1000000) (hm : 2 ≤ m) (_hnc : n ≤ c) (_hmd : m ≤ e0) (_hle : V ≤ U) (hUV : U < V * B32) (hnm : n = m) :
    Calls Try.prog 54 #[.slice A n c, .slice B m e0] w fun e w' => e = .returned (.int .u32 ((U / V : Nat) : Int)) ∧ Below w.heap.size w w' := by
  obtain ⟨b1, o1, rfl, hc1⟩ := ha.at_ (by omega)
  obtain ⟨b2, o2, rfl, hc2⟩ := hb.at_ (by omega)
  obtain ⟨t, ht, hct⟩ := hc1 (n - 1) (by omega)
  obtain ⟨v, hv, hcv⟩ := hc2 (m - 1) (by omega)
  have htB := (lim_limbs B32_two U).get ht
  have hvB := (lim_limbs B32_two V).get hv
  have ht32 : t ≤ 4294967295 := by have : B32 = 4294967296 := rfl; omega
  have hv32 : v ≤ 4294967295 := by have : B32 = 4294967296 := rfl; omega
  obtain ⟨d, hd⟩ : ∃ d, d = t / (v + 1) := ⟨_, rfl⟩
  have hdi : (t : Int) / ((v : Int) + 1) = (d : Int) := by rw [hd]; simp
  have hDR := guess_low (P := B32 ^ (n - 1)) (T := t) (top_ge ha.1 (by omega) ht) (by have := top_lt hb.1 (by omega) hv; rwa [show m - 1 = n - 1 by omega] at this) hd
  have hdt : d ≤ t := by rw [hd]; exact Nat.div_le_self _ _
  have hdw := wrap_fit d (by have : B64 = 18446744073709551616 := rfl; omega)
  have hnmI : ¬ m < n := by omega
  have hn2 : 2 ≤ n := by omega
  have HNM := Lib.hid hnm
  clear hd hc1 hc2 ht hv htB hvB hnm
  have hbS : Below w.heap.size w w := Below.refl _ _
  go_enter Try.func54, Try.ntmps54
  go_wp2_with fail
  have hdR : d * V ≤ U := hDR
  have hdB : d < B32 := Nat.lt_of_mul_lt_mul_left (a := V) (by rw [Nat.mul_comm V d]; omega)
  have HUV := Lib.hid hUV
  have HhDR := Lib.hid hdR
  have hd32 : d ≤ 4294967295 := by have : B32 = 4294967296 := rfl; omega
  clear hdR hUV
  go_loopw [8, 9, 10] (fun tl th ts wr => ∃ lo hi st : Nat, tl = .int .u64 (lo : Int) ∧ th = .int .u64 (hi : Int) ∧ ts = .int .u64 (st : Int) ∧ 1 ≤ st ∧ hi + 1 = d + st ∧ st ≤ 8589934592 ∧ hi ≤ 8589934592 ∧ Below w.heap.size w wr ∧ Hid (lo * V ≤ U)) (fun _ th _ _ => 8589934593 - (intOf th).toNat)
  case atStart => exact ⟨d, d, 1, rfl, rfl, rfl, Nat.le_refl _, rfl, by omega, by omega, hbS, HhDR.out⟩
  case round =>
    clear hbS
    obtain ⟨lo, hi, st, rfl, rfl, rfl, hst, hhi, hst2, hhi2, hbw, HL⟩ := hrel
    have hr := ha.below hbw
    have hbb := hb.below hbw
    have hhB : hi < B64 := by have : B64 = 18446744073709551616 := rfl; omega
    by_cases hle : V * hi ≤ U
    · have HLE : Hid (hi * V ≤ U) := by show _ ≤ _; rw [Nat.mul_comm]; exact hle
      have hcm : decide (cmpN (V * hi) U ≤ 0) = true := by
        rcases Nat.lt_or_eq_of_le hle with h | h
        · rw [cmpN_lt h]; rfl
        · rw [cmpN_eq h]; rfl
      by_cases h32 : hi < 4294967296
      · have h32i : ¬ (4294967296 : Int) ≤ (hi : Int) := by omega
        have HH := Lib.hid h32
        clear h32 hle
        go_wp2_with (first
          | (go_at_call 37; (with_reducible refine (rof_any hi hhB _).mono ?_); rintro e w3 ⟨A3, n3, c3, rfl, p1, p2, p3, p4⟩
             have hn3 := len_two hhB p3.1)
          | (go_at_call 20; (refine (rmul_any (limbs B32 V) (limbs B32 hi) _ A3 m e0 n3 c3 w3 (hbb.below p4) p3.rd (lim_limbs B32_two _) (lim_limbs B32_two _) (by omega) (by omega)).mono ?_); rintro e w4 ⟨A4, n4, c4, rfl, q1, q2, q3, q4⟩
             rw [val_limbs B32_two, val_limbs B32_two] at q3)
          | (go_at_call 14; (refine (rcmp_any (V * hi) U A4 _ n4 c4 n c w4 q3.rd ((hr.below p4).below q4) (Nat.le_trans q1 q2)).mono ?_); rintro e w5 ⟨rfl, q, rfl⟩
             have bq : Below w.heap.size w (w4.drewN q) := below_drawn ((hbw.trans (p4.mono hbw.size)).trans (q4.mono (Nat.le_trans hbw.size p4.size))) q))
        go_roundw
        case rel => exact ⟨hi, hi + st, st * 2, rfl, by go_num, by go_num, by omega, by omega, by have := HH.out; omega, by have := HH.out; omega, bq, HLE.out⟩
        case measure => simp [intOf]; omega
      · have h32i : decide ((hi : Int) < 4294967296) = false := by simp; omega
        have HT : Hid (4294967296 ≤ 4294967296 ∧ U < 4294967296 * V ∧ lo < 4294967296) := guess_top32 HUV.out HL.out
        have hmin : min (hi : Int) 4294967296 = 4294967296 := by omega
        clear h32 hle
        go_wp2_with (first
          | (go_at_call 37; (with_reducible refine (rof_any hi hhB _).mono ?_); rintro e w3 ⟨A3, n3, c3, rfl, p1, p2, p3, p4⟩
             have hn3 := len_two hhB p3.1)
          | (go_at_call 20; (refine (rmul_any (limbs B32 V) (limbs B32 hi) _ A3 m e0 n3 c3 w3 (hbb.below p4) p3.rd (lim_limbs B32_two _) (lim_limbs B32_two _) (by omega) (by omega)).mono ?_); rintro e w4 ⟨A4, n4, c4, rfl, q1, q2, q3, q4⟩
             rw [val_limbs B32_two, val_limbs B32_two] at q3)
          | (go_at_call 14; (refine (rcmp_any (V * hi) U A4 _ n4 c4 n c w4 q3.rd ((hr.below p4).below q4) (Nat.le_trans q1 q2)).mono ?_); rintro e w5 ⟨rfl, q, rfl⟩
             have bq : Below w.heap.size w (w4.drewN q) := below_drawn ((hbw.trans (p4.mono hbw.size)).trans (q4.mono (Nat.le_trans hbw.size p4.size))) q))
        obtain ⟨hT1, hT2, hT3⟩ := HT.out
        have HB2 := Lib.hid bq
        have HL0 := Lib.hid HL.out
        clear HT bq p1 p2 p3 p4 q1 q2 q3 q4 hbw hr hbb
        go_loopw [8, 9] (fun tl th wr => ∃ l2 h2 : Nat, tl = .int .u64 (l2 : Int) ∧ th = .int .u64 (h2 : Int) ∧ l2 < h2 ∧ h2 ≤ 4294967296 ∧ Below w.heap.size w wr ∧ Hid (l2 * V ≤ U ∧ U < h2 * V)) (fun tl th _ => (intOf th).toNat - (intOf tl).toNat)
        case atStart => exact ⟨lo, 4294967296, rfl, rfl, by omega, by omega, HB2.out, ⟨HL0.out, hT2⟩⟩
        case round =>
          obtain ⟨l2, h2, rfl, rfl, hlh, hh2, hbw, HI⟩ := hrel
          have hr := ha.below hbw
          have hbb := hb.below hbw
          obtain ⟨D, hD⟩ : ∃ D, D + l2 = h2 := ⟨h2 - l2, by omega⟩
          have hDw := wrap_sub hD (by have : B64 = 18446744073709551616 := rfl; omega)
          obtain ⟨M, hM⟩ : ∃ M, M = D / 2 := ⟨_, rfl⟩
          have hMi : (D : Int) / 2 = (M : Int) := by omega
          obtain ⟨mid, hmid⟩ : ∃ x, x = l2 + M := ⟨_, rfl⟩
          have hmB : mid < B64 := by have : B64 = 18446744073709551616 := rfl; omega
          have hmw := wrap_sum hmid hmB
          have hmidw := wrap_fit mid hmB
          have hMw := wrap_fit M (by have : B64 = 18446744073709551616 := rfl; omega)
          have hmi : (l2 : Int) + (M : Int) = (mid : Int) := by omega
          have HM := Lib.hid (And.intro hD (And.intro hM (And.intro hmid (And.intro hlh hh2))))
          by_cases h1 : 1 < D
          · have h1i : (1 : Int) < (D : Int) := by omega
            by_cases hle2 : V * mid ≤ U
            · have HLE2 : Hid (mid * V ≤ U) := by show _ ≤ _; rw [Nat.mul_comm]; exact hle2
              have hcm2 : decide (cmpN (V * mid) U ≤ 0) = true := by
                rcases Nat.lt_or_eq_of_le hle2 with h | h
                · rw [cmpN_lt h]; rfl
                · rw [cmpN_eq h]; rfl
              clear hle2 hD hM hmid hlh hh2
              go_wp2_with (first
             | (go_at_call 37; (with_reducible refine (rof_any mid hmB _).mono ?_); rintro e w3 ⟨A3, n3, c3, rfl, p1, p2, p3, p4⟩
                have hn3 := len_two hmB p3.1)
             | (go_at_call 20; (refine (rmul_any (limbs B32 V) (limbs B32 mid) _ A3 m e0 n3 c3 w3 (hbb.below p4) p3.rd (lim_limbs B32_two _) (lim_limbs B32_two _) (by omega) (by omega)).mono ?_); rintro e w4 ⟨A4, n4, c4, rfl, q1, q2, q3, q4⟩
                rw [val_limbs B32_two, val_limbs B32_two] at q3)
             | (go_at_call 14; (refine (rcmp_any (V * mid) U A4 _ n4 c4 n c w4 q3.rd ((hr.below p4).below q4) (Nat.le_trans q1 q2)).mono ?_); rintro e w5 ⟨rfl, q, rfl⟩
                have bq : Below w.heap.size w (w4.drewN q) := below_drawn ((hbw.trans (p4.mono hbw.size)).trans (q4.mono (Nat.le_trans hbw.size p4.size))) q))
              go_roundw
              case rel =>
                have := HM.out
                exact ⟨mid, h2, rfl, rfl, by omega, by omega, bq, HLE2.out, HI.out.2⟩
              case measure => (have := HM.out; simp [intOf]; omega)
            · have HLE2 : Hid (U < mid * V) := by show _ < _; rw [Nat.mul_comm]; omega
              have hcm2 : decide (cmpN (V * mid) U ≤ 0) = false := by rw [cmpN_gt (by omega)]; rfl
              clear hle2 hD hM hmid hlh hh2
              go_wp2_with (first
             | (go_at_call 37; (with_reducible refine (rof_any mid hmB _).mono ?_); rintro e w3 ⟨A3, n3, c3, rfl, p1, p2, p3, p4⟩
                have hn3 := len_two hmB p3.1)
             | (go_at_call 20; (refine (rmul_any (limbs B32 V) (limbs B32 mid) _ A3 m e0 n3 c3 w3 (hbb.below p4) p3.rd (lim_limbs B32_two _) (lim_limbs B32_two _) (by omega) (by omega)).mono ?_); rintro e w4 ⟨A4, n4, c4, rfl, q1, q2, q3, q4⟩
                rw [val_limbs B32_two, val_limbs B32_two] at q3)
             | (go_at_call 14; (refine (rcmp_any (V * mid) U A4 _ n4 c4 n c w4 q3.rd ((hr.below p4).below q4) (Nat.le_trans q1 q2)).mono ?_); rintro e w5 ⟨rfl, q, rfl⟩
                have bq : Below w.heap.size w (w4.drewN q) := below_drawn ((hbw.trans (p4.mono hbw.size)).trans (q4.mono (Nat.le_trans hbw.size p4.size))) q))
              go_roundw
              case rel =>
                have := HM.out
                exact ⟨l2, mid, rfl, rfl, by omega, by omega, bq, HI.out.1, HLE2.out⟩
              case measure => (have := HM.out; simp [intOf]; omega)
          · have h1i : ¬ (1 : Int) < (D : Int) := by omega
            have hl32 : l2 ≤ 4294967295 := by omega
            have hlw : (l2 : Int) % 4294967296 = (l2 : Int) := by omega
            clear hM hmid hmw hmi hMi hMw hmidw
            go_wp2_with fail
            go_ret
            refine ⟨ret_int ?_, hbw⟩
            rw [← Int.natCast_ediv, guess_end HI.out.1 (by have := HI.out.2; rwa [show h2 = l2 + 1 by omega] at this)]

    · have hcm : decide (cmpN (V * hi) U ≤ 0) = false := by rw [cmpN_gt (by omega)]; rfl
      obtain ⟨H, hH⟩ : ∃ H, H = min hi 4294967296 := ⟨_, rfl⟩
      have hmin : min (hi : Int) 4294967296 = (H : Int) := by omega
      have HT : Hid (H ≤ 4294967296 ∧ U < H * V ∧ lo < H) := guess_topH HUV.out HL.out hH (by rw [Nat.mul_comm]; omega)
      clear hH hle
      go_wp2_with (first
          | (go_at_call 37; (with_reducible refine (rof_any hi hhB _).mono ?_); rintro e w3 ⟨A3, n3, c3, rfl, p1, p2, p3, p4⟩
             have hn3 := len_two hhB p3.1)
          | (go_at_call 20; (refine (rmul_any (limbs B32 V) (limbs B32 hi) _ A3 m e0 n3 c3 w3 (hbb.below p4) p3.rd (lim_limbs B32_two _) (lim_limbs B32_two _) (by omega) (by omega)).mono ?_); rintro e w4 ⟨A4, n4, c4, rfl, q1, q2, q3, q4⟩
             rw [val_limbs B32_two, val_limbs B32_two] at q3)
          | (go_at_call 14; (refine (rcmp_any (V * hi) U A4 _ n4 c4 n c w4 q3.rd ((hr.below p4).below q4) (Nat.le_trans q1 q2)).mono ?_); rintro e w5 ⟨rfl, q, rfl⟩
             have bq : Below w.heap.size w (w4.drewN q) := below_drawn ((hbw.trans (p4.mono hbw.size)).trans (q4.mono (Nat.le_trans hbw.size p4.size))) q))
      obtain ⟨hT1, hT2, hT3⟩ := HT.out
      have HB2 := Lib.hid bq
      have HL0 := Lib.hid HL.out
      clear HT bq p1 p2 p3 p4 q1 q2 q3 q4 hbw hr hbb
      go_loopw [8, 9] (fun tl th wr => ∃ l2 h2 : Nat, tl = .int .u64 (l2 : Int) ∧ th = .int .u64 (h2 : Int) ∧ l2 < h2 ∧ h2 ≤ 4294967296 ∧ Below w.heap.size w wr ∧ Hid (l2 * V ≤ U ∧ U < h2 * V)) (fun tl th _ => (intOf th).toNat - (intOf tl).toNat)
      case atStart => exact ⟨lo, H, rfl, rfl, by omega, by omega, HB2.out, ⟨HL0.out, hT2⟩⟩
      case round =>
        obtain ⟨l2, h2, rfl, rfl, hlh, hh2, hbw, HI⟩ := hrel
        have hr := ha.below hbw
        have hbb := hb.below hbw
        obtain ⟨D, hD⟩ : ∃ D, D + l2 = h2 := ⟨h2 - l2, by omega⟩
        have hDw := wrap_sub hD (by have : B64 = 18446744073709551616 := rfl; omega)
        obtain ⟨M, hM⟩ : ∃ M, M = D / 2 := ⟨_, rfl⟩
        have hMi : (D : Int) / 2 = (M : Int) := by omega
        obtain ⟨mid, hmid⟩ : ∃ x, x = l2 + M := ⟨_, rfl⟩
        have hmB : mid < B64 := by have : B64 = 18446744073709551616 := rfl; omega
        have hmw := wrap_sum hmid hmB
        have hmidw := wrap_fit mid hmB
        have hMw := wrap_fit M (by have : B64 = 18446744073709551616 := rfl; omega)
        have hmi : (l2 : Int) + (M : Int) = (mid : Int) := by omega
        have HM := Lib.hid (And.intro hD (And.intro hM (And.intro hmid (And.intro hlh hh2))))
        by_cases h1 : 1 < D
        · have h1i : (1 : Int) < (D : Int) := by omega
          by_cases hle2 : V * mid ≤ U
          · have HLE2 : Hid (mid * V ≤ U) := by show _ ≤ _; rw [Nat.mul_comm]; exact hle2
            have hcm2 : decide (cmpN (V * mid) U ≤ 0) = true := by
              rcases Nat.lt_or_eq_of_le hle2 with h | h
              · rw [cmpN_lt h]; rfl
              · rw [cmpN_eq h]; rfl
            clear hle2 hD hM hmid hlh hh2
            go_wp2_with (first
           | (go_at_call 37; (with_reducible refine (rof_any mid hmB _).mono ?_); rintro e w3 ⟨A3, n3, c3, rfl, p1, p2, p3, p4⟩
              have hn3 := len_two hmB p3.1)
           | (go_at_call 20; (refine (rmul_any (limbs B32 V) (limbs B32 mid) _ A3 m e0 n3 c3 w3 (hbb.below p4) p3.rd (lim_limbs B32_two _) (lim_limbs B32_two _) (by omega) (by omega)).mono ?_); rintro e w4 ⟨A4, n4, c4, rfl, q1, q2, q3, q4⟩
              rw [val_limbs B32_two, val_limbs B32_two] at q3)
           | (go_at_call 14; (refine (rcmp_any (V * mid) U A4 _ n4 c4 n c w4 q3.rd ((hr.below p4).below q4) (Nat.le_trans q1 q2)).mono ?_); rintro e w5 ⟨rfl, q, rfl⟩
              have bq : Below w.heap.size w (w4.drewN q) := below_drawn ((hbw.trans (p4.mono hbw.size)).trans (q4.mono (Nat.le_trans hbw.size p4.size))) q))
            go_roundw
            case rel =>
              have := HM.out
              exact ⟨mid, h2, rfl, rfl, by omega, by omega, bq, HLE2.out, HI.out.2⟩
            case measure => (have := HM.out; simp [intOf]; omega)
          · have HLE2 : Hid (U < mid * V) := by show _ < _; rw [Nat.mul_comm]; omega
            have hcm2 : decide (cmpN (V * mid) U ≤ 0) = false := by rw [cmpN_gt (by omega)]; rfl
            clear hle2 hD hM hmid hlh hh2
            go_wp2_with (first
           | (go_at_call 37; (with_reducible refine (rof_any mid hmB _).mono ?_); rintro e w3 ⟨A3, n3, c3, rfl, p1, p2, p3, p4⟩
              have hn3 := len_two hmB p3.1)
           | (go_at_call 20; (refine (rmul_any (limbs B32 V) (limbs B32 mid) _ A3 m e0 n3 c3 w3 (hbb.below p4) p3.rd (lim_limbs B32_two _) (lim_limbs B32_two _) (by omega) (by omega)).mono ?_); rintro e w4 ⟨A4, n4, c4, rfl, q1, q2, q3, q4⟩
              rw [val_limbs B32_two, val_limbs B32_two] at q3)
           | (go_at_call 14; (refine (rcmp_any (V * mid) U A4 _ n4 c4 n c w4 q3.rd ((hr.below p4).below q4) (Nat.le_trans q1 q2)).mono ?_); rintro e w5 ⟨rfl, q, rfl⟩
              have bq : Below w.heap.size w (w4.drewN q) := below_drawn ((hbw.trans (p4.mono hbw.size)).trans (q4.mono (Nat.le_trans hbw.size p4.size))) q))
            go_roundw
            case rel =>
              have := HM.out
              exact ⟨l2, mid, rfl, rfl, by omega, by omega, bq, HI.out.1, HLE2.out⟩
            case measure => (have := HM.out; simp [intOf]; omega)
        · have h1i : ¬ (1 : Int) < (D : Int) := by omega
          have hl32 : l2 ≤ 4294967295 := by omega
          have hlw : (l2 : Int) % 4294967296 = (l2 : Int) := by omega
          clear hM hmid hmw hmi hMi hMw hmidw
          go_wp2_with fail
          go_ret
          refine ⟨ret_int ?_, hbw⟩
          rw [← Int.natCast_ediv, guess_end HI.out.1 (by have := HI.out.2; rwa [show h2 = l2 + 1 by omega] at this)]


set_option maxRecDepth 100000 in
set_option maxHeartbeats 2000000 in
theorem guess_more (U V : Nat) (A B : Option Addr) (n c m e0 : Nat) (w : World) (ha : Rd .u32 w A n (limbs B32 U)) (hb : Rd .u32 w B m (limbs B32 V)) (hn0 : n ≤ 1000000) (hm0 : m ≤ 1000000) (hm : 2 ≤ m) (_hnc : n ≤ c) (_hmd : m ≤ e0) (_hle : V ≤ U) (hUV : U < V * B32) (hnm : n = m + 1) :
    Calls Try.prog 54 #[.slice A n c, .slice B m e0] w fun e w' => e = .returned (.int .u32 ((U / V : Nat) : Int)) ∧ Below w.heap.size w w' := by
  obtain ⟨b1, o1, rfl, hc1⟩ := ha.at_ (by omega)
  obtain ⟨b2, o2, rfl, hc2⟩ := hb.at_ (by omega)
  obtain ⟨t, ht, hct⟩ := hc1 (n - 1) (by omega)
  obtain ⟨x0, hx0, hcx⟩ := hc1 (n - 2) (by omega)
  obtain ⟨v, hv, hcv⟩ := hc2 (m - 1) (by omega)
  have htB := (lim_limbs B32_two U).get ht
  have hxB := (lim_limbs B32_two U).get hx0
  have hvB := (lim_limbs B32_two V).get hv
  have hv32 : v ≤ 4294967295 := by have : B32 = 4294967296 := rfl; omega
  have ht32 : t ≤ 4294967295 := by have : B32 = 4294967296 := rfl; omega
  have hor := or32' htB hxB
  obtain ⟨T, hT⟩ : ∃ T, T = t * B32 + x0 := ⟨_, rfl⟩
  rw [← hT] at hor
  obtain ⟨d, hd⟩ : ∃ d, d = T / (v + 1) := ⟨_, rfl⟩
  have hTB : T < B64 := by
    have h1 : (t + 1) * B32 ≤ B32 * B32 := Nat.mul_le_mul_right _ (by omega)
    rw [Nat.succ_mul] at h1
    have h2 : B32 * B32 = B64 := by decide
    omega
  have hdi : (T : Int) / ((v : Int) + 1) = (d : Int) := by rw [hd]; simp
  have hDR := guess_low (P := B32 ^ (m - 1)) (T := T) (by rw [hT]; have := top_ge2 ha.1 (by omega) ht hx0; rwa [show n - 2 = m - 1 by omega] at this) (top_lt hb.1 (by omega) hv) hd
  have hdt : d ≤ T := by rw [hd]; exact Nat.div_le_self _ _
  have hdw := wrap_fit d (by omega)
  have hnmI : m < n := by omega
  have hn2 : 2 ≤ n := by omega
  have HNM := Lib.hid hnm
  clear hd hc1 hc2 ht hv htB hvB hnm hx0 hxB hT hdt hTB
  have hbS : Below w.heap.size w w := Below.refl _ _
  go_enter Try.func54, Try.ntmps54
  go_wp2_with fail
  have hdR : d * V ≤ U := hDR
  have hdB : d < B32 := Nat.lt_of_mul_lt_mul_left (a := V) (by rw [Nat.mul_comm V d]; omega)
  have HUV := Lib.hid hUV
  have HhDR := Lib.hid hdR
  have hd32 : d ≤ 4294967295 := by have : B32 = 4294967296 := rfl; omega
  clear hdR hUV
  go_loopw [8, 9, 10] (fun tl th ts wr => ∃ lo hi st : Nat, tl = .int .u64 (lo : Int) ∧ th = .int .u64 (hi : Int) ∧ ts = .int .u64 (st : Int) ∧ 1 ≤ st ∧ hi + 1 = d + st ∧ st ≤ 8589934592 ∧ hi ≤ 8589934592 ∧ Below w.heap.size w wr ∧ Hid (lo * V ≤ U)) (fun _ th _ _ => 8589934593 - (intOf th).toNat)
  case atStart => exact ⟨d, d, 1, rfl, rfl, rfl, Nat.le_refl _, rfl, by omega, by omega, hbS, HhDR.out⟩
  case round =>
    clear hbS
    obtain ⟨lo, hi, st, rfl, rfl, rfl, hst, hhi, hst2, hhi2, hbw, HL⟩ := hrel
    have hr := ha.below hbw
    have hbb := hb.below hbw
    have hhB : hi < B64 := by have : B64 = 18446744073709551616 := rfl; omega
    by_cases hle : V * hi ≤ U
    · have HLE : Hid (hi * V ≤ U) := by show _ ≤ _; rw [Nat.mul_comm]; exact hle
      have hcm : decide (cmpN (V * hi) U ≤ 0) = true := by
        rcases Nat.lt_or_eq_of_le hle with h | h
        · rw [cmpN_lt h]; rfl
        · rw [cmpN_eq h]; rfl
      by_cases h32 : hi < 4294967296
      · have h32i : ¬ (4294967296 : Int) ≤ (hi : Int) := by omega
        have HH := Lib.hid h32
        clear h32 hle
        go_wp2_with (first
          | (go_at_call 37; (with_reducible refine (rof_any hi hhB _).mono ?_); rintro e w3 ⟨A3, n3, c3, rfl, p1, p2, p3, p4⟩
             have hn3 := len_two hhB p3.1)
          | (go_at_call 20; (refine (rmul_any (limbs B32 V) (limbs B32 hi) _ A3 m e0 n3 c3 w3 (hbb.below p4) p3.rd (lim_limbs B32_two _) (lim_limbs B32_two _) (by omega) (by omega)).mono ?_); rintro e w4 ⟨A4, n4, c4, rfl, q1, q2, q3, q4⟩
             rw [val_limbs B32_two, val_limbs B32_two] at q3)
          | (go_at_call 14; (refine (rcmp_any (V * hi) U A4 _ n4 c4 n c w4 q3.rd ((hr.below p4).below q4) (Nat.le_trans q1 q2)).mono ?_); rintro e w5 ⟨rfl, q, rfl⟩
             have bq : Below w.heap.size w (w4.drewN q) := below_drawn ((hbw.trans (p4.mono hbw.size)).trans (q4.mono (Nat.le_trans hbw.size p4.size))) q))
        go_roundw
        case rel => exact ⟨hi, hi + st, st * 2, rfl, by go_num, by go_num, by omega, by omega, by have := HH.out; omega, by have := HH.out; omega, bq, HLE.out⟩
        case measure => simp [intOf]; omega
      · have h32i : decide ((hi : Int) < 4294967296) = false := by simp; omega
        have HT : Hid (4294967296 ≤ 4294967296 ∧ U < 4294967296 * V ∧ lo < 4294967296) := guess_top32 HUV.out HL.out
        have hmin : min (hi : Int) 4294967296 = 4294967296 := by omega
        clear h32 hle
        go_wp2_with (first
          | (go_at_call 37; (with_reducible refine (rof_any hi hhB _).mono ?_); rintro e w3 ⟨A3, n3, c3, rfl, p1, p2, p3, p4⟩
             have hn3 := len_two hhB p3.1)
          | (go_at_call 20; (refine (rmul_any (limbs B32 V) (limbs B32 hi) _ A3 m e0 n3 c3 w3 (hbb.below p4) p3.rd (lim_limbs B32_two _) (lim_limbs B32_two _) (by omega) (by omega)).mono ?_); rintro e w4 ⟨A4, n4, c4, rfl, q1, q2, q3, q4⟩
             rw [val_limbs B32_two, val_limbs B32_two] at q3)
          | (go_at_call 14; (refine (rcmp_any (V * hi) U A4 _ n4 c4 n c w4 q3.rd ((hr.below p4).below q4) (Nat.le_trans q1 q2)).mono ?_); rintro e w5 ⟨rfl, q, rfl⟩
             have bq : Below w.heap.size w (w4.drewN q) := below_drawn ((hbw.trans (p4.mono hbw.size)).trans (q4.mono (Nat.le_trans hbw.size p4.size))) q))
        obtain ⟨hT1, hT2, hT3⟩ := HT.out
        have HB2 := Lib.hid bq
        have HL0 := Lib.hid HL.out
        clear HT bq p1 p2 p3 p4 q1 q2 q3 q4 hbw hr hbb
        go_loopw [8, 9] (fun tl th wr => ∃ l2 h2 : Nat, tl = .int .u64 (l2 : Int) ∧ th = .int .u64 (h2 : Int) ∧ l2 < h2 ∧ h2 ≤ 4294967296 ∧ Below w.heap.size w wr ∧ Hid (l2 * V ≤ U ∧ U < h2 * V)) (fun tl th _ => (intOf th).toNat - (intOf tl).toNat)
        case atStart => exact ⟨lo, 4294967296, rfl, rfl, by omega, by omega, HB2.out, ⟨HL0.out, hT2⟩⟩
        case round =>
          obtain ⟨l2, h2, rfl, rfl, hlh, hh2, hbw, HI⟩ := hrel
          have hr := ha.below hbw
          have hbb := hb.below hbw
          obtain ⟨D, hD⟩ : ∃ D, D + l2 = h2 := ⟨h2 - l2, by omega⟩
          have hDw := wrap_sub hD (by have : B64 = 18446744073709551616 := rfl; omega)
          obtain ⟨M, hM⟩ : ∃ M, M = D / 2 := ⟨_, rfl⟩
          have hMi : (D : Int) / 2 = (M : Int) := by omega
          obtain ⟨mid, hmid⟩ : ∃ x, x = l2 + M := ⟨_, rfl⟩
          have hmB : mid < B64 := by have : B64 = 18446744073709551616 := rfl; omega
          have hmw := wrap_sum hmid hmB
          have hmidw := wrap_fit mid hmB
          have hMw := wrap_fit M (by have : B64 = 18446744073709551616 := rfl; omega)
          have hmi : (l2 : Int) + (M : Int) = (mid : Int) := by omega
          have HM := Lib.hid (And.intro hD (And.intro hM (And.intro hmid (And.intro hlh hh2))))
          by_cases h1 : 1 < D
          · have h1i : (1 : Int) < (D : Int) := by omega
            by_cases hle2 : V * mid ≤ U
            · have HLE2 : Hid (mid * V ≤ U) := by show _ ≤ _; rw [Nat.mul_comm]; exact hle2
              have hcm2 : decide (cmpN (V * mid) U ≤ 0) = true := by
                rcases Nat.lt_or_eq_of_le hle2 with h | h
                · rw [cmpN_lt h]; rfl
                · rw [cmpN_eq h]; rfl
              clear hle2 hD hM hmid hlh hh2
              go_wp2_with (first
             | (go_at_call 37; (with_reducible refine (rof_any mid hmB _).mono ?_); rintro e w3 ⟨A3, n3, c3, rfl, p1, p2, p3, p4⟩
                have hn3 := len_two hmB p3.1)
             | (go_at_call 20; (refine (rmul_any (limbs B32 V) (limbs B32 mid) _ A3 m e0 n3 c3 w3 (hbb.below p4) p3.rd (lim_limbs B32_two _) (lim_limbs B32_two _) (by omega) (by omega)).mono ?_); rintro e w4 ⟨A4, n4, c4, rfl, q1, q2, q3, q4⟩
                rw [val_limbs B32_two, val_limbs B32_two] at q3)
             | (go_at_call 14; (refine (rcmp_any (V * mid) U A4 _ n4 c4 n c w4 q3.rd ((hr.below p4).below q4) (Nat.le_trans q1 q2)).mono ?_); rintro e w5 ⟨rfl, q, rfl⟩
                have bq : Below w.heap.size w (w4.drewN q) := below_drawn ((hbw.trans (p4.mono hbw.size)).trans (q4.mono (Nat.le_trans hbw.size p4.size))) q))
              go_roundw
              case rel =>
                have := HM.out
                exact ⟨mid, h2, rfl, rfl, by omega, by omega, bq, HLE2.out, HI.out.2⟩
              case measure => (have := HM.out; simp [intOf]; omega)
            · have HLE2 : Hid (U < mid * V) := by show _ < _; rw [Nat.mul_comm]; omega
              have hcm2 : decide (cmpN (V * mid) U ≤ 0) = false := by rw [cmpN_gt (by omega)]; rfl
              clear hle2 hD hM hmid hlh hh2
              go_wp2_with (first
             | (go_at_call 37; (with_reducible refine (rof_any mid hmB _).mono ?_); rintro e w3 ⟨A3, n3, c3, rfl, p1, p2, p3, p4⟩
                have hn3 := len_two hmB p3.1)
             | (go_at_call 20; (refine (rmul_any (limbs B32 V) (limbs B32 mid) _ A3 m e0 n3 c3 w3 (hbb.below p4) p3.rd (lim_limbs B32_two _) (lim_limbs B32_two _) (by omega) (by omega)).mono ?_); rintro e w4 ⟨A4, n4, c4, rfl, q1, q2, q3, q4⟩
                rw [val_limbs B32_two, val_limbs B32_two] at q3)
             | (go_at_call 14; (refine (rcmp_any (V * mid) U A4 _ n4 c4 n c w4 q3.rd ((hr.below p4).below q4) (Nat.le_trans q1 q2)).mono ?_); rintro e w5 ⟨rfl, q, rfl⟩
                have bq : Below w.heap.size w (w4.drewN q) := below_drawn ((hbw.trans (p4.mono hbw.size)).trans (q4.mono (Nat.le_trans hbw.size p4.size))) q))
              go_roundw
              case rel =>
                have := HM.out
                exact ⟨l2, mid, rfl, rfl, by omega, by omega, bq, HI.out.1, HLE2.out⟩
              case measure => (have := HM.out; simp [intOf]; omega)
          · have h1i : ¬ (1 : Int) < (D : Int) := by omega
            have hl32 : l2 ≤ 4294967295 := by omega
            have hlw : (l2 : Int) % 4294967296 = (l2 : Int) := by omega
            clear hM hmid hmw hmi hMi hMw hmidw
            go_wp2_with fail
            go_ret
            refine ⟨ret_int ?_, hbw⟩
            rw [← Int.natCast_ediv, guess_end HI.out.1 (by have := HI.out.2; rwa [show h2 = l2 + 1 by omega] at this)]

    · have hcm : decide (cmpN (V * hi) U ≤ 0) = false := by rw [cmpN_gt (by omega)]; rfl
      obtain ⟨H, hH⟩ : ∃ H, H = min hi 4294967296 := ⟨_, rfl⟩
      have hmin : min (hi : Int) 4294967296 = (H : Int) := by omega
      have HT : Hid (H ≤ 4294967296 ∧ U < H * V ∧ lo < H) := guess_topH HUV.out HL.out hH (by rw [Nat.mul_comm]; omega)
      clear hH hle
      go_wp2_with (first
          | (go_at_call 37; (with_reducible refine (rof_any hi hhB _).mono ?_); rintro e w3 ⟨A3, n3, c3, rfl, p1, p2, p3, p4⟩
             have hn3 := len_two hhB p3.1)
          | (go_at_call 20; (refine (rmul_any (limbs B32 V) (limbs B32 hi) _ A3 m e0 n3 c3 w3 (hbb.below p4) p3.rd (lim_limbs B32_two _) (lim_limbs B32_two _) (by omega) (by omega)).mono ?_); rintro e w4 ⟨A4, n4, c4, rfl, q1, q2, q3, q4⟩
             rw [val_limbs B32_two, val_limbs B32_two] at q3)
          | (go_at_call 14; (refine (rcmp_any (V * hi) U A4 _ n4 c4 n c w4 q3.rd ((hr.below p4).below q4) (Nat.le_trans q1 q2)).mono ?_); rintro e w5 ⟨rfl, q, rfl⟩
             have bq : Below w.heap.size w (w4.drewN q) := below_drawn ((hbw.trans (p4.mono hbw.size)).trans (q4.mono (Nat.le_trans hbw.size p4.size))) q))
      obtain ⟨hT1, hT2, hT3⟩ := HT.out
      have HB2 := Lib.hid bq
      have HL0 := Lib.hid HL.out
      clear HT bq p1 p2 p3 p4 q1 q2 q3 q4 hbw hr hbb
      go_loopw [8, 9] (fun tl th wr => ∃ l2 h2 : Nat, tl = .int .u64 (l2 : Int) ∧ th = .int .u64 (h2 : Int) ∧ l2 < h2 ∧ h2 ≤ 4294967296 ∧ Below w.heap.size w wr ∧ Hid (l2 * V ≤ U ∧ U < h2 * V)) (fun tl th _ => (intOf th).toNat - (intOf tl).toNat)
      case atStart => exact ⟨lo, H, rfl, rfl, by omega, by omega, HB2.out, ⟨HL0.out, hT2⟩⟩
      case round =>
        obtain ⟨l2, h2, rfl, rfl, hlh, hh2, hbw, HI⟩ := hrel
        have hr := ha.below hbw
        have hbb := hb.below hbw
        obtain ⟨D, hD⟩ : ∃ D, D + l2 = h2 := ⟨h2 - l2, by omega⟩
        have hDw := wrap_sub hD (by have : B64 = 18446744073709551616 := rfl; omega)
        obtain ⟨M, hM⟩ : ∃ M, M = D / 2 := ⟨_, rfl⟩
        have hMi : (D : Int) / 2 = (M : Int) := by omega
        obtain ⟨mid, hmid⟩ : ∃ x, x = l2 + M := ⟨_, rfl⟩
        have hmB : mid < B64 := by have : B64 = 18446744073709551616 := rfl; omega
        have hmw := wrap_sum hmid hmB
        have hmidw := wrap_fit mid hmB
        have hMw := wrap_fit M (by have : B64 = 18446744073709551616 := rfl; omega)
        have hmi : (l2 : Int) + (M : Int) = (mid : Int) := by omega
        have HM := Lib.hid (And.intro hD (And.intro hM (And.intro hmid (And.intro hlh hh2))))
        by_cases h1 : 1 < D
        · have h1i : (1 : Int) < (D : Int) := by omega
          by_cases hle2 : V * mid ≤ U
          · have HLE2 : Hid (mid * V ≤ U) := by show _ ≤ _; rw [Nat.mul_comm]; exact hle2
            have hcm2 : decide (cmpN (V * mid) U ≤ 0) = true := by
              rcases Nat.lt_or_eq_of_le hle2 with h | h
              · rw [cmpN_lt h]; rfl
              · rw [cmpN_eq h]; rfl
            clear hle2 hD hM hmid hlh hh2
            go_wp2_with (first
           | (go_at_call 37; (with_reducible refine (rof_any mid hmB _).mono ?_); rintro e w3 ⟨A3, n3, c3, rfl, p1, p2, p3, p4⟩
              have hn3 := len_two hmB p3.1)
           | (go_at_call 20; (refine (rmul_any (limbs B32 V) (limbs B32 mid) _ A3 m e0 n3 c3 w3 (hbb.below p4) p3.rd (lim_limbs B32_two _) (lim_limbs B32_two _) (by omega) (by omega)).mono ?_); rintro e w4 ⟨A4, n4, c4, rfl, q1, q2, q3, q4⟩
              rw [val_limbs B32_two, val_limbs B32_two] at q3)
           | (go_at_call 14; (refine (rcmp_any (V * mid) U A4 _ n4 c4 n c w4 q3.rd ((hr.below p4).below q4) (Nat.le_trans q1 q2)).mono ?_); rintro e w5 ⟨rfl, q, rfl⟩
              have bq : Below w.heap.size w (w4.drewN q) := below_drawn ((hbw.trans (p4.mono hbw.size)).trans (q4.mono (Nat.le_trans hbw.size p4.size))) q))
            go_roundw
            case rel =>
              have := HM.out
              exact ⟨mid, h2, rfl, rfl, by omega, by omega, bq, HLE2.out, HI.out.2⟩
            case measure => (have := HM.out; simp [intOf]; omega)
          · have HLE2 : Hid (U < mid * V) := by show _ < _; rw [Nat.mul_comm]; omega
            have hcm2 : decide (cmpN (V * mid) U ≤ 0) = false := by rw [cmpN_gt (by omega)]; rfl
            clear hle2 hD hM hmid hlh hh2
            go_wp2_with (first
           | (go_at_call 37; (with_reducible refine (rof_any mid hmB _).mono ?_); rintro e w3 ⟨A3, n3, c3, rfl, p1, p2, p3, p4⟩
              have hn3 := len_two hmB p3.1)
           | (go_at_call 20; (refine (rmul_any (limbs B32 V) (limbs B32 mid) _ A3 m e0 n3 c3 w3 (hbb.below p4) p3.rd (lim_limbs B32_two _) (lim_limbs B32_two _) (by omega) (by omega)).mono ?_); rintro e w4 ⟨A4, n4, c4, rfl, q1, q2, q3, q4⟩
              rw [val_limbs B32_two, val_limbs B32_two] at q3)
           | (go_at_call 14; (refine (rcmp_any (V * mid) U A4 _ n4 c4 n c w4 q3.rd ((hr.below p4).below q4) (Nat.le_trans q1 q2)).mono ?_); rintro e w5 ⟨rfl, q, rfl⟩
              have bq : Below w.heap.size w (w4.drewN q) := below_drawn ((hbw.trans (p4.mono hbw.size)).trans (q4.mono (Nat.le_trans hbw.size p4.size))) q))
            go_roundw
            case rel =>
              have := HM.out
              exact ⟨l2, mid, rfl, rfl, by omega, by omega, bq, HI.out.1, HLE2.out⟩
            case measure => (have := HM.out; simp [intOf]; omega)
        · have h1i : ¬ (1 : Int) < (D : Int) := by omega
          have hl32 : l2 ≤ 4294967295 := by omega
          have hlw : (l2 : Int) % 4294967296 = (l2 : Int) := by omega
          clear hM hmid hmw hmi hMi hMw hmidw
          go_wp2_with fail
          go_ret
          refine ⟨ret_int ?_, hbw⟩
          rw [← Int.natCast_ediv, guess_end HI.out.1 (by have := HI.out.2; rwa [show h2 = l2 + 1 by omega] at this)]


theorem rguess_any (U V : Nat) (A B : Option Addr) (n c m e0 : Nat) (w : World) (ha : Rd .u32 w A n (limbs B32 U)) (hb : Rd .u32 w B m (limbs B32 V)) (hn0 : n ≤ 1000000) (hm0 : m ≤ 1000000) (hm : 2 ≤ m) (hnc : n ≤ c) (hmd : m ≤ e0) (hle : V ≤ U) (hUV : U < V * B32) :
    Calls Try.prog 54 #[.slice A n c, .slice B m e0] w fun e w' => e = .returned (.int .u32 ((U / V : Nat) : Int)) ∧ Below w.heap.size w w' := by
  have h1 := length_limbs_mono B32_two hle
  have h2 : (limbs B32 U).length ≤ m + 1 := by
    refine length_limbs_le B32_two ?_
    have := lt_pow_limbs B32_two V
    rw [hb.1] at this
    have h3 := Nat.mul_le_mul_right B32 (Nat.le_of_lt this)
    rw [Nat.pow_succ]; omega
  rw [ha.1, hb.1] at h1
  rw [ha.1] at h2
  rcases (show n = m ∨ n = m + 1 by omega) with h | h
  · exact guess_same U V A B n c m e0 w ha hb hn0 hm0 hm hnc hmd hle hUV h
  · exact guess_more U V A B n c m e0 w ha hb hn0 hm0 hm hnc hmd hle hUV h
end Go.Proofs.Ythdpllhpdjhogaa
