/- nat.limbGcd, nat.highest. And: Several of Euclid's steps at once, seen by the highest 64 bits alone (Collins' condition): plain mathematics. -/
import Derived.Test.YthdpllhpdjhogaaMem
import Derived.Test.YthdpllhpdjhogaaDivC
namespace Go.Proofs.Ythdpllhpdjhogaa

/-- What the steps with the highest bits keep: a0, b0 are the highest bits, a, b what is left of them. -/
structure Sim (a0 b0 a b u0 v0 u1 v1 u2 v2 : Nat) (ev : Bool) : Prop where
  ha : a0 = v2 * a + v1 * b
  hb : b0 = u2 * a + u1 * b
  le : b ≤ a
  top : a ≤ a0
  uv : u2 ≤ v2
  v2p : 1 ≤ v2
  det : if ev then v1 * u2 = u1 * v2 + 1 else u1 * v2 = v1 * u2 + 1
  alt : (u0 = 0 ∧ v0 = 0 ∧ u1 = 1 ∧ v1 = 0 ∧ u2 = 0 ∧ v2 = 1 ∧ ev = false) ∨
    (∃ p, a0 = v1 * p + v0 * a ∧ b0 = u1 * p + u0 * a ∧ a + (v0 + v1) ≤ p ∧ v1 ≤ a ∧ u1 ≤ v1 ∧ 1 ≤ v1 ∧ 1 ≤ u2 ∧ (v0 = 0 ∨ 1 ≤ u1 ∧ u0 ≤ v0) ∧ (if ev then u0 * v1 = v0 * u1 + 1 else v0 * u1 = u0 * v1 + 1))

theorem Sim.start {a0 b0 : Nat} (h : b0 ≤ a0) : Sim a0 b0 a0 b0 0 0 1 0 0 1 false :=
  ⟨by simp, by simp, h, Nat.le_refl _, by omega, by omega, by simp, .inl ⟨rfl, rfl, rfl, rfl, rfl, rfl, rfl⟩⟩

theorem Sim.step {a0 b0 a b u0 v0 u1 v1 u2 v2 : Nat} {ev : Bool} (h : Sim a0 b0 a b u0 v0 u1 v1 u2 v2 ev) (h1 : v2 ≤ b) (h2 : b + (v1 + v2) ≤ a) :
    Sim a0 b0 b (a % b) u1 v1 u2 v2 (u1 + a / b * u2) (v1 + a / b * v2) (!ev) := by
  have hv2 := h.v2p
  have hb0 : 0 < b := by omega
  have hd := Nat.div_add_mod a b
  have hm := Nat.mod_lt a hb0
  have hq : 1 ≤ a / b := Nat.div_pos (by omega) hb0
  generalize a / b = q at *
  generalize a % b = r at *
  have huv := h.uv
  have hdet := h.det
  refine ⟨?_, ?_, by omega, by have := h.top; omega, ?_, ?_, ?_, .inr ⟨a, h.ha, h.hb, h2, h1, huv, hv2, ?_, ?_, ?_⟩⟩
  · have := h.ha
    rw [← hd] at this
    rw [this]; grind
  · have := h.hb
    rw [← hd] at this
    rw [this]; grind
  · rcases h.alt with ⟨_, _, rfl, rfl, rfl, rfl, _⟩ | ⟨p, _, _, _, _, h5, _⟩
    · omega
    · exact Nat.add_le_add h5 (Nat.mul_le_mul_left _ huv)
  · have := Nat.mul_le_mul hq hv2; omega
  · cases ev
    · simp only [Bool.not_false, if_true, Bool.false_eq_true, if_false] at hdet ⊢
      grind
    · simp only [Bool.not_true, if_true, Bool.false_eq_true, if_false] at hdet ⊢
      grind
  · rcases h.alt with ⟨_, _, rfl, rfl, rfl, rfl, _⟩ | ⟨p, _, _, _, _, _, _, h7, _⟩
    · omega
    · have := Nat.mul_le_mul hq h7; omega
  · rcases h.alt with ⟨_, _, rfl, rfl, rfl, rfl, _⟩ | ⟨p, _, _, _, _, h5, _, h7, _⟩
    · exact .inl rfl
    · exact .inr ⟨h7, h5⟩
  · cases ev
    · simpa using hdet
    · simpa using hdet

/-- The sizes that the steps reckon with stay below the highest bits' one. -/
theorem Sim.small {a0 b0 a b u0 v0 u1 v1 u2 v2 : Nat} {ev : Bool} (h : Sim a0 b0 a b u0 v0 u1 v1 u2 v2 ev) (h1 : v2 ≤ b) : v1 + v2 ≤ a0 := by
  have hv2 := h.v2p
  have hle := h.le
  have e1 := Nat.mul_le_mul_left v2 (show 1 ≤ a by omega)
  have e2 := Nat.mul_le_mul_left v1 (show 1 ≤ b by omega)
  have := h.ha
  omega
theorem Sim.next {a0 b0 a b u0 v0 u1 v1 u2 v2 : Nat} {ev : Bool} (h : Sim a0 b0 a b u0 v0 u1 v1 u2 v2 ev) (h1 : v2 ≤ b) : a / b * b ≤ a ∧ v1 + a / b * v2 ≤ a0 ∧ u1 + a / b * u2 ≤ b0 := by
  have hv2 := h.v2p
  have hd := Nat.div_add_mod a b
  have hb0 : 1 ≤ b := by omega
  have e1 := Nat.mul_le_mul_left (v1 + a / b * v2) hb0
  have e2 := Nat.mul_le_mul_left (u1 + a / b * u2) hb0
  have e3 : (v1 + a / b * v2) * b ≤ a0 := by
    rw [h.ha]
    conv => rhs; rw [← hd]
    have : v2 * (b * (a / b) + a % b) + v1 * b = (v1 + a / b * v2) * b + v2 * (a % b) := by grind
    omega
  have e4 : (u1 + a / b * u2) * b ≤ b0 := by
    rw [h.hb]
    conv => rhs; rw [← hd]
    have : u2 * (b * (a / b) + a % b) + u1 * b = (u1 + a / b * u2) * b + u2 * (a % b) := by grind
    omega
  exact ⟨Nat.div_mul_le_self a b, by omega, by omega⟩

/-- What x and y become: not above y, the second one less, and with the same common divisors. -/
def Steps (x y u0 v0 u1 v1 : Nat) (ev : Bool) (X Y : Nat) : Prop :=
  (if ev then u0 * x = v0 * y + X ∧ v1 * y = u1 * x + Y else v0 * y = u0 * x + X ∧ u1 * x = v1 * y + Y) ∧ Y < X ∧ X ≤ y ∧ Nat.gcd X Y = Nat.gcd x y

theorem gcd_of {x y X Y u0 v0 u1 v1 : Nat} (hx : x = v1 * X + v0 * Y) (hy : y = u1 * X + u0 * Y) (h1 : u0 * x = v0 * y + X) (h2 : v1 * y = u1 * x + Y) : Nat.gcd X Y = Nat.gcd x y := by
  apply Nat.dvd_antisymm
  · have d1 := Nat.gcd_dvd_left X Y
    have d2 := Nat.gcd_dvd_right X Y
    refine Nat.dvd_gcd ?_ ?_
    · rw [hx]; exact Nat.dvd_add (Nat.dvd_mul_left_of_dvd d1 _) (Nat.dvd_mul_left_of_dvd d2 _)
    · rw [hy]; exact Nat.dvd_add (Nat.dvd_mul_left_of_dvd d1 _) (Nat.dvd_mul_left_of_dvd d2 _)
  · have d1 := Nat.gcd_dvd_left x y
    have d2 := Nat.gcd_dvd_right x y
    refine Nat.dvd_gcd ?_ ?_
    · exact (Nat.dvd_add_right (Nat.dvd_mul_left_of_dvd d2 v0)).1 (by rw [← h1]; exact Nat.dvd_mul_left_of_dvd d1 _)
    · exact (Nat.dvd_add_right (Nat.dvd_mul_left_of_dvd d1 u1)).1 (by rw [← h2]; exact Nat.dvd_mul_left_of_dvd d2 _)

theorem leh_even {T x y a0 b0 x' y' p a u0 v0 u1 v1 : Nat} (hx : x = T * a0 + x') (hy : y = T * b0 + y') (hx' : x' < T) (hy' : y' < T) (ha0 : a0 = v1 * p + v0 * a) (hb0 : b0 = u1 * p + u0 * a)
    (hp : a + (v0 + v1) ≤ p) (hva : v1 ≤ a) (huv : u1 ≤ v1) (hv1 : 1 ≤ v1) (hu1 : 1 ≤ u1) (det : u0 * v1 = v0 * u1 + 1) : ∃ X Y, Steps x y u0 v0 u1 v1 true X Y := by
  have k1 : v0 * y' ≤ T * p := by rw [Nat.mul_comm T]; exact Nat.mul_le_mul (by omega) (by omega)
  have k2 : u1 * x' ≤ T * a := by rw [Nat.mul_comm T]; exact Nat.mul_le_mul (by omega) (by omega)
  obtain ⟨X, hX⟩ : ∃ X, X + v0 * y' = T * p + u0 * x' := ⟨T * p + u0 * x' - v0 * y', by omega⟩
  obtain ⟨Y, hY⟩ : ∃ Y, Y + u1 * x' = T * a + v1 * y' := ⟨T * a + v1 * y' - u1 * x', by omega⟩
  have e1 : u0 * x = v0 * y + X := by subst hx hy ha0 hb0; grind
  have e2 : v1 * y = u1 * x + Y := by subst hx hy ha0 hb0; grind
  have e3 : x = v1 * X + v0 * Y := by grind
  have e4 : y = u1 * X + u0 * Y := by grind
  refine ⟨X, Y, ⟨e1, e2⟩, ?_, ?_, gcd_of e3 e4 e1 e2⟩
  · have k3 : T * (a + (v0 + v1)) ≤ T * p := Nat.mul_le_mul_left _ hp
    have k4 : (v0 + v1) * (y' + 1) ≤ (v0 + v1) * T := Nat.mul_le_mul_left _ hy'
    have k5 : T * (a + (v0 + v1)) = T * a + (v0 + v1) * T := by grind
    have k6 : (v0 + v1) * (y' + 1) = v0 * y' + v1 * y' + (v0 + v1) := by grind
    omega
  · rw [e4]
    have := Nat.mul_le_mul_right X hu1
    omega
theorem leh_odd {T x y a0 b0 x' y' p a u0 v0 u1 v1 : Nat} (hx : x = T * a0 + x') (hy : y = T * b0 + y') (hx' : x' < T) (hy' : y' < T) (ha0 : a0 = v1 * p + v0 * a) (hb0 : b0 = u1 * p + u0 * a)
    (hp : a + (v0 + v1) ≤ p) (hva : v1 ≤ a) (huv : u1 ≤ v1) (hv1 : 1 ≤ v1) (hu1 : 1 ≤ u1) (huv0 : u0 ≤ v0) (det : v0 * u1 = u0 * v1 + 1) : ∃ X Y, Steps x y u0 v0 u1 v1 false X Y := by
  have k1 : u0 * x' ≤ T * p := by rw [Nat.mul_comm T]; exact Nat.mul_le_mul (by omega) (by omega)
  have k2 : v1 * y' ≤ T * a := by rw [Nat.mul_comm T]; exact Nat.mul_le_mul (by omega) (by omega)
  obtain ⟨X, hX⟩ : ∃ X, X + u0 * x' = T * p + v0 * y' := ⟨T * p + v0 * y' - u0 * x', by omega⟩
  obtain ⟨Y, hY⟩ : ∃ Y, Y + v1 * y' = T * a + u1 * x' := ⟨T * a + u1 * x' - v1 * y', by omega⟩
  have e1 : v0 * y = u0 * x + X := by subst hx hy ha0 hb0; grind
  have e2 : u1 * x = v1 * y + Y := by subst hx hy ha0 hb0; grind
  have e3 : x = v1 * X + v0 * Y := by grind
  have e4 : y = u1 * X + u0 * Y := by grind
  refine ⟨X, Y, ⟨e1, e2⟩, ?_, ?_, ?_⟩
  · have k3 : T * (a + (v0 + v1)) ≤ T * p := Nat.mul_le_mul_left _ hp
    have k4 : (u0 + u1) * (x' + 1) ≤ (v0 + v1) * T := Nat.mul_le_mul (by omega) hx'
    have k5 : T * (a + (v0 + v1)) = T * a + (v0 + v1) * T := by grind
    have k6 : (u0 + u1) * (x' + 1) = u0 * x' + u1 * x' + (u0 + u1) := by grind
    omega
  · rw [e4]
    have := Nat.mul_le_mul_right X hu1
    omega
  · rw [Nat.gcd_comm x y]
    exact gcd_of (x := y) (y := x) (u0 := v0) (v0 := u0) (u1 := v1) (v1 := u1) e4 e3 e1 e2
/-- Behind the steps. -/
theorem Sim.steps {T x y a0 b0 x' y' a b u0 v0 u1 v1 u2 v2 : Nat} {ev : Bool} (h : Sim a0 b0 a b u0 v0 u1 v1 u2 v2 ev) (hx : x = T * a0 + x') (hy : y = T * b0 + y') (hx' : x' < T) (hy' : y' < T) (hv : v0 ≠ 0) :
    ∃ X Y, Steps x y u0 v0 u1 v1 ev X Y := by
  rcases h.alt with ⟨_, h0, _⟩ | ⟨p, h1, h2, h3, h4, h5, h6, h7, h8, h9⟩
  · exact absurd h0 hv
  · obtain ⟨h10, h11⟩ : 1 ≤ u1 ∧ u0 ≤ v0 := by
      rcases h8 with h8 | h8
      · exact absurd h8 hv
      · exact h8
    cases ev
    · exact leh_odd hx hy hx' hy' h1 h2 h3 h4 h5 h6 h10 h11 (by simpa using h9)
    · exact leh_even hx hy hx' hy' h1 h2 h3 h4 h5 h6 h10 (by simpa using h9)
end Go.Proofs.Ythdpllhpdjhogaa
namespace Go.Proofs.Ythdpllhpdjhogaa
open Go.RowKit

theorem e_mod (x y : Nat) : ((x : Int) % (y : Int)) = ((x % y : Nat) : Int) := by rw [Int.natCast_emod]
set_option maxRecDepth 100000 in
set_option maxHeartbeats 1000000 in
theorem limbGcd_any (x y : Nat) (w : World) (hx : x < B64) (hy : y < B64) :
    Calls Try.prog 57 #[.int .u64 (x : Int), .int .u64 (y : Int)] w fun e w' => e = .returned (.int .u64 ((Nat.gcd x y : Nat) : Int)) ∧ ∃ q, w' = w.drewN q := by
  go_enter Try.func57, Try.ntmps57
  go_wp2_with fail
  go_loopw [0, 1] (fun a b wr => ∃ u v : Nat, a = .int .u64 (u : Int) ∧ b = .int .u64 (v : Int) ∧ u < B64 ∧ v < B64 ∧ Hid (Nat.gcd u v = Nat.gcd x y) ∧ ∃ q, wr = w.drewN q) (fun _ b _ => (intOf b).toNat)
  case atStart => exact ⟨x, y, rfl, rfl, hx, hy, rfl, 0, rfl⟩
  case round =>
    obtain ⟨u, v, rfl, rfl, hu, hv, HG, q, rfl⟩ := hrel
    by_cases hv0 : v = 0
    · subst hv0
      go_wp2_with fail
      go_ret
      exact ⟨ret_int (by rw [← HG.out, Nat.gcd_zero_right]), q, rfl⟩
    · have hne : ((v : Int) != 0) = true := by simp; omega
      have hne2 : ((v : Int) == 0) = false := by simp; omega
      have hlt : u % v < v := Nat.mod_lt _ (by omega)
      go_wp2_with fail
      go_quiet (fail)
      go_wp2_with fail
      go_roundw
      case rel =>
        refine ⟨v, u % v, rfl, ?_, hv, by omega, ?_, _, World.drewN_drewN _ _ _⟩
        · simp
        · show _ = _
          rw [← HG.out, Nat.gcd_comm v, ← Nat.gcd_rec, Nat.gcd_comm]
      case measure => simp [intOf]; omega
end Go.Proofs.Ythdpllhpdjhogaa
