/- nat.guess: how often two limbs go into three, or the highest limb. -/
import Derived.Test.YthdpllhpdjhogaaDivC
namespace Go.Proofs.Ythdpllhpdjhogaa
open Go.RowKit

/-- q is a limb, so often v1 v0 goes into u2 u1 u0, and once more it does not, or q is the highest limb. -/
def Often (u2 u1 u0 v1 v0 q : Nat) : Prop :=
  q < B64 ∧ q * (v1 * B64 + v0) ≤ (u2 * B64 + u1) * B64 + u0 ∧ (q + 1 = B64 ∨ (u2 * B64 + u1) * B64 + u0 < (q + 1) * (v1 * B64 + v0))
/-- What guess keeps: q v1 and r are u2 u1, and q is not too small. -/
def Guess (u2 u1 u0 v1 v0 q r c : Nat) : Prop :=
  q < B64 ∧ r < B64 ∧ c ≤ 1 ∧ q * v1 + (r + B64 * c) = u2 * B64 + u1 ∧ (q + 1 = B64 ∨ (u2 * B64 + u1) * B64 + u0 < (q + 1) * (v1 * B64 + v0))

theorem Guess.lt {u2 u1 u0 v1 v0 q r c : Nat} (h : Guess u2 u1 u0 v1 v0 q r c) : q < B64 := h.1
theorem Guess.rest {u2 u1 u0 v1 v0 q r c : Nat} (h : Guess u2 u1 u0 v1 v0 q r c) : r < B64 := h.2.1
theorem gd_math {B u2 u1 u0 v1 v0 q r : Nat} (hr : r < v1) (hu0 : u0 < B) (hp : v1 * q + r = u2 * B + u1) : (u2 * B + u1) * B + u0 < (q + 1) * (v1 * B + v0) := by
  rw [← hp]
  have e : (q + 1) * (v1 * B + v0) = (v1 * q + v1) * B + (q + 1) * v0 := by grind
  have h2 : (v1 * q + r + 1) * B ≤ (v1 * q + v1) * B := Nat.mul_le_mul_right _ (by omega)
  rw [Nat.succ_mul] at h2
  omega
theorem guess_div {u2 u1 u0 v1 v0 : Nat} (h : u2 < v1) (h1 : v1 < B64) (hu1 : u1 < B64) (hu0 : u0 < B64) : Guess u2 u1 u0 v1 v0 (dQuo u2 u1 v1) (dRem u2 u1 v1) 0 := by
  have hq := dQuo_lt h hu1
  have hr := dRem_lt (lo := u1) h
  have hp : v1 * dQuo u2 u1 v1 + dRem u2 u1 v1 = u2 * B64 + u1 := Nat.div_add_mod _ _
  refine ⟨hq, Nat.lt_trans hr h1, Nat.zero_le _, ?_, .inr (gd_math hr hu0 hp)⟩
  rw [Nat.mul_zero, Nat.add_zero, Nat.mul_comm]
  exact hp
theorem gt_math {B u2 u1 : Nat} (hB : 0 < B) : (B - 1) * u2 + (u1 + u2 + 0) = u2 * B + u1 := by
  obtain ⟨b, rfl⟩ : ∃ b, B = b + 1 := ⟨B - 1, by omega⟩
  simp only [Nat.add_sub_cancel]
  grind
theorem guess_top {u2 u1 u0 v1 v0 : Nat} (h : u2 = v1) (h1 : v1 < B64) (hu1 : u1 < B64) : Guess u2 u1 u0 v1 v0 (B64 - 1) (addLo u1 v1 0) (addHi u1 v1 0) := by
  subst h
  refine ⟨by decide, addLo_lt _ _ _, addHi_le hu1 h1 (Nat.zero_le 1), ?_, .inl (by decide)⟩
  rw [add_parts]
  exact gt_math (by decide)
theorem gc_math {B u0 v1 v0 q r W : Nat} (hq : q < B) (hv0 : v0 < B) (h : q * v1 + (r + B) = W) : q * (v1 * B + v0) ≤ W * B + u0 := by
  subst h
  have h6 : q * v0 ≤ B * B := Nat.mul_le_mul (by omega) (by omega)
  have e : q * (v1 * B + v0) = q * v1 * B + q * v0 := by grind
  have e2 : (q * v1 + (r + B)) * B = q * v1 * B + r * B + B * B := by grind
  omega
/-- Where the carry is 1 the guess is not too great. -/
theorem guess_carry {u2 u1 u0 v1 v0 q r c : Nat} (hv0 : v0 < B64) (h : Guess u2 u1 u0 v1 v0 q r c) (hc : c ≠ 0) : Often u2 u1 u0 v1 v0 q := by
  obtain ⟨h1, h2, h3, h4, h5⟩ := h
  obtain rfl : c = 1 := by omega
  rw [Nat.mul_one] at h4
  exact ⟨h1, gc_math h1 hv0 h4, h5⟩
theorem gf_math {B u0 v1 v0 q r W : Nat} (h : q * v1 + r = W) : (q * v0 ≤ r * B + u0 → q * (v1 * B + v0) ≤ W * B + u0) ∧ (r * B + u0 < q * v0 → W * B + u0 < q * (v1 * B + v0)) := by
  subst h
  have e : q * (v1 * B + v0) = q * v1 * B + q * v0 := by grind
  have e2 : (q * v1 + r) * B = q * v1 * B + r * B := by grind
  omega
/-- Where q v0 is not above the rest the guess is not too great. -/
theorem guess_fits {u2 u1 u0 v1 v0 q r : Nat} (h : Guess u2 u1 u0 v1 v0 q r 0) (hle : q * v0 ≤ r * B64 + u0) : Often u2 u1 u0 v1 v0 q := by
  obtain ⟨h1, h2, h3, h4, h5⟩ := h
  rw [Nat.mul_zero, Nat.add_zero] at h4
  exact ⟨h1, (gf_math h4).1 hle, h5⟩
theorem gl_math {v1 q r W : Nat} (h : (q + 1) * v1 + r = W) : q * v1 + (r + v1 + 0) = W := by
  rw [Nat.succ_mul] at h; omega
/-- Where it is, one fewer is looked at. -/
theorem guess_less {u2 u1 u0 v1 v0 q r : Nat} (hv1 : v1 < B64) (h : Guess u2 u1 u0 v1 v0 q r 0) (hlt : r * B64 + u0 < q * v0) : 0 < q ∧ Guess u2 u1 u0 v1 v0 (q - 1) (addLo r v1 0) (addHi r v1 0) := by
  obtain ⟨h1, h2, h3, h4, h5⟩ := h
  rw [Nat.mul_zero, Nat.add_zero] at h4
  have hq : 0 < q := by
    rcases Nat.eq_zero_or_pos q with h0 | h0
    · subst h0; rw [Nat.zero_mul] at hlt; exact absurd hlt (Nat.not_lt_zero _)
    · exact h0
  have hW := (gf_math h4).2 hlt
  refine ⟨hq, by omega, addLo_lt _ _ _, addHi_le h2 hv1 (Nat.zero_le 1), ?_, .inr ?_⟩
  · rw [add_parts]
    obtain ⟨p, rfl⟩ : ∃ p, q = p + 1 := ⟨q - 1, by omega⟩
    exact gl_math h4
  · rw [show q - 1 + 1 = q by omega]; exact hW
theorem pl_math {B hi lo r u0 : Nat} (hlo : lo < B) (hu0 : u0 < B) : (hi < r ∨ hi = r ∧ lo ≤ u0 → lo + B * hi ≤ r * B + u0) ∧ (¬ (hi < r ∨ hi = r ∧ lo ≤ u0) → r * B + u0 < lo + B * hi) := by
  rw [Nat.mul_comm B hi]
  constructor
  · rintro (h | ⟨h, h2⟩)
    · have := Nat.mul_le_mul_right B h
      rw [Nat.succ_mul] at this
      omega
    · subst h; omega
  · intro h
    by_cases h1 : hi = r
    · subst h1; omega
    · have h2 : r + 1 ≤ hi := by omega
      have := Nat.mul_le_mul_right B h2
      rw [Nat.succ_mul] at this
      omega
theorem pair_le {q v0 r u0 : Nat} (hu0 : u0 < B64) (h : mulHi q v0 < r ∨ mulHi q v0 = r ∧ mulLo q v0 ≤ u0) : q * v0 ≤ r * B64 + u0 := by
  rw [← mul_parts q v0]; exact (pl_math (mulLo_lt q v0) hu0).1 h
theorem pair_lt {q v0 r u0 : Nat} (hu0 : u0 < B64) (h : ¬ (mulHi q v0 < r ∨ mulHi q v0 = r ∧ mulLo q v0 ≤ u0)) : r * B64 + u0 < q * v0 := by
  rw [← mul_parts q v0]; exact (pl_math (mulLo_lt q v0) hu0).2 h
/-- Of a whole division: the guess by three and two limbs is the quotient, or one more. -/
theorem near_math {B U V L v1 v0 q P W Y : Nat} (hU : U = L + P * W) (hL : L < P) {M : Nat} (hV : V = M + P * Y) (hM : M < P) (hv1 : 0 < v1) (hY : v1 * B + v0 = Y) (hB : 0 < B) (hfit : U < B * V)
    (h1 : q < B) (h2 : q * Y ≤ W) (h3 : q + 1 = B ∨ W < (q + 1) * Y) : q = U / V ∨ q = U / V + 1 := by
  have hYB : B ≤ Y := by
    have : 1 * B ≤ v1 * B := Nat.mul_le_mul_right _ hv1
    omega
  have hP : 0 < P := by omega
  have hPY : P * B ≤ P * Y := Nat.mul_le_mul_left _ hYB
  have hPB : 0 < P * B := Nat.mul_pos hP hB
  have hV0 : 0 < V := by omega
  have hd := Nat.div_add_mod U V
  have hm := Nat.mod_lt U hV0
  have hlow : U / V ≤ q := by
    rcases Nat.lt_or_ge q (U / V) with hlt | hge
    · exfalso
      have hs : q + 1 ≤ U / V := hlt
      rcases h3 with h3 | h3
      · have : B ≤ U / V := by omega
        have := Nat.mul_le_mul_left V this
        rw [Nat.mul_comm V B] at this
        omega
      · have a1 : V * (q + 1) ≤ V * (U / V) := Nat.mul_le_mul_left V hs
        have a2 : P * Y * (q + 1) ≤ V * (q + 1) := Nat.mul_le_mul_right _ (by omega)
        have a3 : P * (W + 1) ≤ P * ((q + 1) * Y) := Nat.mul_le_mul_left P h3
        have a4 : P * ((q + 1) * Y) = P * Y * (q + 1) := by rw [Nat.mul_comm (q + 1), Nat.mul_assoc]
        rw [Nat.mul_add] at a3
        omega
    · exact hge
  have hup : q ≤ U / V + 1 := by
    rcases Nat.lt_or_ge (U / V + 1) q with hlt | hge
    · exfalso
      have a1 : V * (U / V + 1 + 1) ≤ V * q := Nat.mul_le_mul_left V hlt
      have a2 : V * q ≤ P * Y * q + P * q := by
        rw [← Nat.add_mul]; exact Nat.mul_le_mul_right _ (by omega)
      have a3 : P * (q * Y) ≤ P * W := Nat.mul_le_mul_left P h2
      have a4 : P * (q * Y) = P * Y * q := by rw [Nat.mul_comm q, Nat.mul_assoc]
      have a5 : P * q ≤ P * Y := Nat.mul_le_mul_left P (by omega)
      rw [Nat.mul_add, Nat.mul_add] at a1
      omega
    · exact hge
  omega

theorem often_near {U V L u2 u1 u0 v1 v0 q P : Nat} (hU : U = L + P * ((u2 * B64 + u1) * B64 + u0)) (hL : L < P) {M : Nat} (hV : V = M + P * (v1 * B64 + v0)) (hM : M < P) (hv1 : 0 < v1) (hfit : U < B64 * V) (h : Often u2 u1 u0 v1 v0 q) :
    q = U / V ∨ q = U / V + 1 := near_math hU hL hV hM hv1 rfl (by decide) hfit h.1 h.2.1 h.2.2

set_option maxRecDepth 100000 in
set_option maxHeartbeats 1000000 in
theorem guess_lo (u2 u1 u0 v1 v0 : Nat) (w : World) (h2 : u2 < v1) (hu1 : u1 < B64) (hu0 : u0 < B64) (hv1 : v1 < B64) (hv0 : v0 < B64) :
    Calls Try.prog 87 #[.int .u64 (u2 : Int), .int .u64 (u1 : Int), .int .u64 (u0 : Int), .int .u64 (v1 : Int), .int .u64 (v0 : Int)] w fun e w' =>
      (∃ q, e = .returned (.int .u64 (q : Nat)) ∧ Often u2 u1 u0 v1 v0 q) ∧ ∃ k, w' = w.drewN k := by
  have hadd := add64_run0
  go_enter Try.func87, Try.ntmps87
  go_wp2_with (go_at_call 75; (with_reducible refine (div64_any u2 u1 v1 _ h2 hv1 hu1).mono ?_); rintro e w' ⟨rfl, q0, rfl⟩)
  go_loopw [11, 12, 13] (fun a b d wr => ∃ q r c : Nat, a = .int .u64 (q : Int) ∧ b = .int .u64 (r : Int) ∧ d = .int .u64 (c : Int) ∧ Hid (Guess u2 u1 u0 v1 v0 q r c) ∧ ∃ k, wr = w.drewN k) (fun a _ _ _ => (intOf a).toNat)
  case atStart => exact ⟨_, _, 0, rfl, rfl, rfl, guess_div h2 hv1 hu1 hu0, _, rfl⟩
  case round =>
    obtain ⟨q, r, c, rfl, rfl, rfl, HG, k, rfl⟩ := hrel
    by_cases hc0 : c = 0
    · subst hc0
      have hqB := HG.out.lt
      by_cases hd : mulHi q v0 < r ∨ mulHi q v0 = r ∧ mulLo q v0 ≤ u0
      · have hO := guess_fits HG.out (pair_le hu0 hd)
        go_wp2_with (go_at_call 90; (with_reducible refine (mul64_any q v0 hqB hv0 _).mono ?_); rintro e w' ⟨rfl, rfl⟩)
        all_goals
          go_ret
          exact ⟨⟨q, rfl, hO⟩, k, rfl⟩
      · obtain ⟨hq0, hL⟩ := guess_less hv1 HG.out (pair_lt hu0 hd)
        have hL2 := Lib.hid hL
        have hw : IntKind.u64.wrap ((q : Int) - 1) = ((q - 1 : Nat) : Int) := by
          have := B64_eq
          rw [IntKind.wrap_u64]; omega
        have HW := Lib.hid hw
        clear hL hw
        go_wp2_with (go_at_call 90; (with_reducible refine (mul64_any q v0 hqB hv0 _).mono ?_); rintro e w' ⟨rfl, rfl⟩)
        · go_roundw
          case rel => exact ⟨q - 1, _, _, by rw [HW.out], rfl, rfl, hL2, _, rfl⟩
          case measure => simp only [intOf]; rw [HW.out]; omega
        · go_roundw
          case rel => exact ⟨q - 1, _, _, by rw [HW.out], rfl, rfl, hL2, _, rfl⟩
          case measure => simp only [intOf]; rw [HW.out]; omega
    · have hne : ((c : Int) == 0) = false := by simp; omega
      have hO := guess_carry hv0 HG.out hc0
      go_wp2_with fail
      go_ret
      exact ⟨⟨q, rfl, hO⟩, k, rfl⟩
set_option maxRecDepth 100000 in
set_option maxHeartbeats 1000000 in
theorem guess_hi (u2 u1 u0 v1 v0 : Nat) (w : World) (h2 : u2 = v1) (hu1 : u1 < B64) (hu0 : u0 < B64) (hv1 : v1 < B64) (hv0 : v0 < B64) :
    Calls Try.prog 87 #[.int .u64 (u2 : Int), .int .u64 (u1 : Int), .int .u64 (u0 : Int), .int .u64 (v1 : Int), .int .u64 (v0 : Int)] w fun e w' =>
      (∃ q, e = .returned (.int .u64 (q : Nat)) ∧ Often u2 u1 u0 v1 v0 q) ∧ ∃ k, w' = w.drewN k := by
  have hadd := add64_run0
  subst h2
  have hnl : ¬ u2 < u2 := by omega
  go_enter Try.func87, Try.ntmps87
  go_wp2_with fail
  go_loopw [11, 12, 13] (fun a b d wr => ∃ q r c : Nat, a = .int .u64 (q : Int) ∧ b = .int .u64 (r : Int) ∧ d = .int .u64 (c : Int) ∧ Hid (Guess u2 u1 u0 u2 v0 q r c) ∧ ∃ k, wr = w.drewN k) (fun a _ _ _ => (intOf a).toNat)
  case atStart => exact ⟨B64 - 1, _, _, rfl, rfl, rfl, guess_top rfl hv1 hu1, 0, rfl⟩
  case round =>
    obtain ⟨q, r, c, rfl, rfl, rfl, HG, k, rfl⟩ := hrel
    by_cases hc0 : c = 0
    · subst hc0
      have hqB := HG.out.lt
      by_cases hd : mulHi q v0 < r ∨ mulHi q v0 = r ∧ mulLo q v0 ≤ u0
      · have hO := guess_fits HG.out (pair_le hu0 hd)
        go_wp2_with (go_at_call 90; (with_reducible refine (mul64_any q v0 hqB hv0 _).mono ?_); rintro e w' ⟨rfl, rfl⟩)
        all_goals
          go_ret
          exact ⟨⟨q, rfl, hO⟩, k, rfl⟩
      · obtain ⟨hq0, hL⟩ := guess_less hv1 HG.out (pair_lt hu0 hd)
        have hL2 := Lib.hid hL
        have hw : IntKind.u64.wrap ((q : Int) - 1) = ((q - 1 : Nat) : Int) := by
          have := B64_eq
          rw [IntKind.wrap_u64]; omega
        have HW := Lib.hid hw
        clear hL hw
        go_wp2_with (go_at_call 90; (with_reducible refine (mul64_any q v0 hqB hv0 _).mono ?_); rintro e w' ⟨rfl, rfl⟩)
        · go_roundw
          case rel => exact ⟨q - 1, _, _, by rw [HW.out], rfl, rfl, hL2, _, rfl⟩
          case measure => simp only [intOf]; rw [HW.out]; omega
        · go_roundw
          case rel => exact ⟨q - 1, _, _, by rw [HW.out], rfl, rfl, hL2, _, rfl⟩
          case measure => simp only [intOf]; rw [HW.out]; omega
    · have hne : ((c : Int) == 0) = false := by simp; omega
      have hO := guess_carry hv0 HG.out hc0
      go_wp2_with fail
      go_ret
      exact ⟨⟨q, rfl, hO⟩, k, rfl⟩
theorem guess_any (u2 u1 u0 v1 v0 : Nat) (w : World) (h2 : u2 ≤ v1) (hu1 : u1 < B64) (hu0 : u0 < B64) (hv1 : v1 < B64) (hv0 : v0 < B64) :
    Calls Try.prog 87 #[.int .u64 (u2 : Int), .int .u64 (u1 : Int), .int .u64 (u0 : Int), .int .u64 (v1 : Int), .int .u64 (v0 : Int)] w fun e w' =>
      (∃ q, e = .returned (.int .u64 (q : Nat)) ∧ Often u2 u1 u0 v1 v0 q) ∧ ∃ k, w' = w.drewN k := by
  rcases Nat.lt_or_eq_of_le h2 with h | h
  · exact guess_lo u2 u1 u0 v1 v0 w h hu1 hu0 hv1 hv0
  · exact guess_hi u2 u1 u0 v1 v0 w h hu1 hu0 hv1 hv0
/-- The one limb that Often tells. -/
def often (u2 u1 u0 v1 v0 : Nat) : Nat := min (B64 - 1) (((u2 * B64 + u1) * B64 + u0) / (v1 * B64 + v0))
theorem min_math {B W Y q : Nat} (hY : 0 < Y) (h1 : q < B) (h2 : q * Y ≤ W) (h3 : q + 1 = B ∨ W < (q + 1) * Y) : q = min (B - 1) (W / Y) := by
  have a1 : q ≤ W / Y := (Nat.le_div_iff_mul_le hY).2 h2
  rcases h3 with h3 | h3
  · omega
  · have : W / Y < q + 1 := (Nat.div_lt_iff_lt_mul hY).2 h3
    omega
theorem Often.eq {u2 u1 u0 v1 v0 q : Nat} (hv : 0 < v1) (h : Often u2 u1 u0 v1 v0 q) : q = often u2 u1 u0 v1 v0 :=
  min_math (Nat.lt_of_lt_of_le (Nat.mul_pos hv (by decide)) (Nat.le_add_right _ _)) h.1 h.2.1 h.2.2
theorem guess_at (u2 u1 u0 v1 v0 : Nat) (w : World) (h2 : u2 ≤ v1) (hv : 0 < v1) (hu1 : u1 < B64) (hu0 : u0 < B64) (hv1 : v1 < B64) (hv0 : v0 < B64) :
    Calls Try.prog 87 #[.int .u64 (u2 : Int), .int .u64 (u1 : Int), .int .u64 (u0 : Int), .int .u64 (v1 : Int), .int .u64 (v0 : Int)] w fun e w' =>
      e = .returned (.int .u64 (often u2 u1 u0 v1 v0 : Nat)) ∧ ∃ k, w' = w.drewN k := by
  refine (guess_any u2 u1 u0 v1 v0 w h2 hu1 hu0 hv1 hv0).mono ?_
  rintro e w' ⟨⟨q, rfl, hq⟩, hw⟩
  exact ⟨by rw [hq.eq hv], hw⟩
theorem often_div {U V L u2 u1 u0 v1 v0 P : Nat} (hU : U = L + P * ((u2 * B64 + u1) * B64 + u0)) (hL : L < P) {M : Nat} (hV : V = M + P * (v1 * B64 + v0)) (hM : M < P) (hv1 : 0 < v1) (hfit : U < B64 * V) :
    often u2 u1 u0 v1 v0 = U / V ∨ often u2 u1 u0 v1 v0 = U / V + 1 := by
  have hY : 0 < v1 * B64 + v0 := Nat.lt_of_lt_of_le (Nat.mul_pos hv1 (by decide)) (Nat.le_add_right _ _)
  refine often_near hU hL hV hM hv1 hfit ⟨?_, ?_, ?_⟩
  · exact Nat.lt_of_le_of_lt (Nat.min_le_left _ _) (by decide)
  · refine Nat.le_trans (Nat.mul_le_mul_right _ (Nat.min_le_right _ _)) (Nat.div_mul_le_self _ _)
  · unfold often
    rcases Nat.le_total (B64 - 1) (((u2 * B64 + u1) * B64 + u0) / (v1 * B64 + v0)) with h | h
    · rw [Nat.min_eq_left h]; exact .inl (by decide)
    · rw [Nat.min_eq_right h]; exact .inr (Nat.lt_mul_of_div_lt (Nat.lt_succ_self _) hY)
theorem often_lt (u2 u1 u0 v1 v0 : Nat) : often u2 u1 u0 v1 v0 < B64 := Nat.lt_of_le_of_lt (Nat.min_le_left _ _) (by decide)
end Go.Proofs.Ythdpllhpdjhogaa
