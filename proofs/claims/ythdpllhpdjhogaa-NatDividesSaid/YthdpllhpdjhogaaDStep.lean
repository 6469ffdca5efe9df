/- nat.divideStep: one limb of a quotient; what is left in place. And: The mathematics of a long division's step. -/
import Derived.Test.YthdpllhpdjhogaaTakeP
namespace Go.Proofs.Ythdpllhpdjhogaa
open Go.RowKit

/-- The three highest limbs of n + 1. -/
theorem split3 {l : List Nat} {n u2 u1 u0 : Nat} (hl : l.length = n + 2 + 1) (h2 : l[n + 2]? = some u2) (h1 : l[n + 1]? = some u1) (h0 : l[n]? = some u0) :
    val B64 l = val B64 (l.take n) + B64 ^ n * ((u2 * B64 + u1) * B64 + u0) := by
  have e : val B64 l = val B64 (l.take (n + 2 + 1)) := by rw [List.take_of_length_le (by omega)]
  rw [e, val_take_succ h2, show n + 2 = n + 1 + 1 from rfl, val_take_succ h1, val_take_succ h0, Nat.pow_succ, Nat.pow_succ]
  grind
theorem split2 {l : List Nat} {n v1 v0 : Nat} (hl : l.length = n + 2) (h1 : l[n + 1]? = some v1) (h0 : l[n]? = some v0) :
    val B64 l = val B64 (l.take n) + B64 ^ n * (v1 * B64 + v0) := by
  have e : val B64 l = val B64 (l.take (n + 1 + 1)) := by rw [List.take_of_length_le (by omega)]
  rw [e, val_take_succ h1, val_take_succ h0, Nat.pow_succ]
  grind
theorem take_lt {l : List Nat} (h : Lim B64 l) {n : Nat} (hn : n ≤ l.length) : val B64 (l.take n) < B64 ^ n := by
  have := val_lt (h.take n)
  rwa [List.length_take, Nat.min_eq_left hn] at this
/-- The highest limb of what is below B times V is not above V's. -/
theorem top_le {L M P W Y u2 v1 u v : Nat} (hM : M < P) (h : L + P * W < B64 * (M + P * Y)) (hW : W = (u2 * B64 + u) * B64 + v) (hY : ∃ y, y < B64 ∧ Y = v1 * B64 + y) : u2 ≤ v1 := by
  obtain ⟨y, hy, rfl⟩ := hY
  rcases Nat.lt_or_ge v1 u2 with hlt | hge
  · exfalso
    subst hW
    have a1 : (v1 + 1) * B64 ≤ u2 * B64 := Nat.mul_le_mul_right _ hlt
    have a2 : v1 * B64 + y + 1 ≤ u2 * B64 := by rw [Nat.succ_mul] at a1; omega
    have a3 : P * ((v1 * B64 + y + 1) * B64) ≤ P * ((u2 * B64) * B64) := Nat.mul_le_mul_left _ (Nat.mul_le_mul_right _ a2)
    have a4 : P * ((u2 * B64) * B64) ≤ P * ((u2 * B64 + u) * B64 + v) := Nat.mul_le_mul_left _ (by rw [Nat.add_mul (u2 * B64)]; omega)
    have a5 : B64 * (M + P * (v1 * B64 + y)) = B64 * M + P * ((v1 * B64 + y) * B64) := by grind
    have a6 : P * ((v1 * B64 + y + 1) * B64) = P * ((v1 * B64 + y) * B64) + B64 * P := by grind
    have a7 : B64 * M ≤ B64 * P := Nat.mul_le_mul_left _ (by omega)
    omega
  · exact hge
/-- What divideStep leaves: the guess was right, or one too great. -/
theorem step_right {U V q p T y : Nat} (hq : q = U / V ∨ q = U / V + 1) (hV : 0 < V) (h : p + V * q = U + T * y) (hy : y = 0) : q = U / V ∧ p = U % V := by
  subst hy
  have hd := Nat.div_add_mod U V
  have hm := Nat.mod_lt U hV
  rcases hq with rfl | rfl
  · exact ⟨rfl, by omega⟩
  · rw [Nat.mul_add] at h; omega
theorem step_great {U V q p T y : Nat} (hq : q = U / V ∨ q = U / V + 1) (hV : 0 < V) (hVT : V ≤ T) (hpT : p < T) (h : p + V * q = U + T * y) (hy1 : y ≤ 1) (hy : y ≠ 0) : 0 < q ∧ q - 1 = U / V ∧ (p + V) % T = U % V := by
  obtain rfl : y = 1 := by omega
  have hd := Nat.div_add_mod U V
  have hm := Nat.mod_lt U hV
  rcases hq with rfl | rfl
  · omega
  · refine ⟨Nat.succ_pos _, Nat.add_sub_cancel _ _, ?_⟩
    rw [Nat.mul_add] at h
    have e : p + V = U % V + T := by omega
    rw [e, Nat.add_mod_right, Nat.mod_eq_of_lt (by omega)]
/-- One round of the long division. -/
theorem long_step {A V vQ vR lo U p P B : Nat} (hA : A = vQ * (P * B) * V + vR) (hR : vR = lo + P * U) (hlo : lo < P) (hp : p = U % V) (hV : 0 < V) :
    A = (U / V + B * vQ) * P * V + (lo + P * p) ∧ lo + P * p < P * V := by
  have hd := Nat.div_add_mod U V
  have hm := Nat.mod_lt U hV
  subst hp
  constructor
  · rw [hA, hR]
    conv => lhs; rw [← hd]
    generalize U / V = q
    generalize U % V = r
    grind
  · have : P * (U % V + 1) ≤ P * V := Nat.mul_le_mul_left _ hm
    rw [Nat.mul_add] at this
    omega
end Go.Proofs.Ythdpllhpdjhogaa
namespace Go.Proofs.Ythdpllhpdjhogaa
open Go.RowKit

set_option maxRecDepth 100000 in
set_option maxHeartbeats 1000000 in
theorem divideStep_any (N1 : Nat) (lx pre seg post : List Nat) (g o N cz c : Nat) (X : Option Addr) (w : World) (hN : N1 = N + 1) (hN2 : 2 ≤ N) (hz : Own .u64 34 w g (pre ++ (seg ++ post))) (ho : pre.length = o) (hn : seg.length = N + 1)
    (hx : Rd .u64 w X N lx) (hoff : Off X N g) (Lx : Lim B64 lx) (Lz : Lim B64 seg) (hm : N + 1 ≤ maxLen) (htop : ∀ x, lx[N - 1]? = some x → 0 < x) (hfit : val B64 seg < B64 * val B64 lx) :
    Calls Try.prog 78 #[.slice (some ⟨g, o, none⟩) N1 cz, .slice X N c] w fun e w' =>
      e = .returned (.int .u64 ((val B64 seg / val B64 lx : Nat) : Int)) ∧ (∃ P, P.length = N + 1 ∧ Lim B64 P ∧ val B64 P = val B64 seg % val B64 lx ∧ Own .u64 34 w' g (pre ++ (P ++ post))) ∧ Only g w w' := by
  subst hN
  obtain ⟨n, hNn⟩ : ∃ n, N = n + 2 := ⟨N - 2, by omega⟩
  obtain ⟨u2, hu2⟩ : ∃ x, seg[N]? = some x := ⟨_, List.getElem?_eq_getElem (by omega)⟩
  obtain ⟨u1, hu1⟩ : ∃ x, seg[N - 1]? = some x := ⟨_, List.getElem?_eq_getElem (by omega)⟩
  obtain ⟨u0, hu0⟩ : ∃ x, seg[N - 2]? = some x := ⟨_, List.getElem?_eq_getElem (by omega)⟩
  obtain ⟨b, o', rfl, hc⟩ := hx.at_ (by omega)
  obtain ⟨v1, hv1, hcv1⟩ := hc (N - 1) (by omega)
  obtain ⟨v0, hv0, hcv0⟩ := hc (N - 2) (by omega)
  have e3 := split3 (l := seg) (n := n) (by omega) (by rw [← hNn]; exact hu2) (by rw [show n + 1 = N - 1 by omega]; exact hu1) (by rw [show n = N - 2 by omega]; exact hu0)
  have e2 := split2 (l := lx) (n := n) (by have := hx.1; omega) (by rw [show n + 1 = N - 1 by omega]; exact hv1) (by rw [show n = N - 2 by omega]; exact hv0)
  have l3 := take_lt Lz (n := n) (by omega)
  have l2 := take_lt Lx (n := n) (by have := hx.1; omega)
  have hV : 0 < val B64 lx := by
    rcases Nat.eq_zero_or_pos (val B64 lx) with h | h
    · rw [h, Nat.mul_zero] at hfit; exact absurd hfit (Nat.not_lt_zero _)
    · exact h
  have huv : u2 ≤ v1 := top_le l2 (by rw [← e3, ← e2]; exact hfit) rfl ⟨v0, Lx.get hv0, rfl⟩
  have hVT : val B64 lx ≤ B64 ^ (N + 1) := by
    have := val_lt Lx
    rw [hx.1] at this
    exact Nat.le_trans (Nat.le_of_lt this) (Nat.pow_le_pow_right (by decide) (by omega))
  have hv1p := htop v1 hv1
  have HF : Hid (often u2 u1 u0 v1 v0 = val B64 seg / val B64 lx ∨ often u2 u1 u0 v1 v0 = val B64 seg / val B64 lx + 1) := often_div e3 l3 e2 l2 hv1p hfit
  have hqB := often_lt u2 u1 u0 v1 v0
  have cell : ∀ j x : Nat, seg[j]? = some x → w.cell? ⟨g, o + j, none⟩ = some (.int .u64 (x : Int)) := fun j x hj => hz.cell_at (by
    have := (List.getElem?_eq_some_iff.1 hj).1
    rw [List.getElem?_append_right (by omega), List.getElem?_append_left (by omega), ho, Nat.add_sub_cancel_left]
    exact hj)
  have cu2 := cell _ _ hu2
  have cu1 := cell _ _ hu1
  have cu0 := cell _ _ hu0
  have L2 := Lz.get hu2
  have L1 := Lz.get hu1
  have L0 := Lz.get hu0
  have M1 := Lx.get hv1
  have M0 := Lx.get hv0
  have HS := Lib.hid hn
  have HO := Lib.hid ho
  have HV := Lib.hid hV
  have HVT := Lib.hid hVT
  clear hn ho hfit hV hVT e3 e2 l3 l2 hu2 hu1 hu0 hv1 hv0 cell hc htop hNn
  unfold maxLen at hm
  go_enter Try.func78, Try.ntmps78
  go_wp2_with fail
  go_quiet ((go_at_call 87; exact Calls.quiet_of (guess_at u2 u1 u0 v1 v0 _ huv hv1p L1 L0 M1 M0)))
  generalize often u2 u1 u0 v1 v0 = q at *
  have od : Only g w (w.drewN nq) := ⟨rfl, rfl, rfl, Nat.le_refl _, fun _ _ _ => rfl⟩
  go_wp2_with (first
    | (go_at_call 88; (refine (takeProduct_any lx pre seg post q g o N cz c _ (w.drewN nq) (show Own .u64 34 (w.drewN nq) g (pre ++ (seg ++ post)) from hz) HO.out HS.out (hx.drewN _) hoff Lx Lz hqB (by unfold maxLen; omega)).mono ?_); rintro e w2 ⟨⟨P, y, rfl, hy, hP1, hP2, hP3, hP4⟩, ho2⟩
       have HP1 := Lib.hid hP1
       have HP3 := Lib.hid hP3
       clear hP1 hP3)
    | (go_at_call 47
       refine (addTo_any lx pre P post g o (N + 1) cz N c _ w2 hP4 HO.out HP1.out ((hx.drewN _).only hoff ho2) hoff Lx hP2 (by omega) (by unfold maxLen; omega)).mono ?_
       rintro e w3 ⟨rfl, ⟨P', hP1', hP2', hP3', hP4'⟩, ho3⟩))
  · have hy0 : y ≠ 0 := by have hq : ((y : Int) != 0) = true := by assumption
                           simpa using hq
    go_ret
    have hlt := val_lt hP2
    rw [HP1.out] at hlt
    obtain ⟨s1, s2, s3⟩ := step_great HF.out HV.out HVT.out hlt HP3.out hy hy0
    rw [s3] at hP3'
    refine ⟨ret_int ?_, ⟨P', hP1', hP2', hP3', hP4'⟩, (od.trans ho2).trans ho3⟩
    rw [← s2]
    have := B64_eq
    rw [IntKind.wrap_u64]; omega
  · have hy0 : y = 0 := by have hq : ((y : Int) != 0) = false := by assumption
                           simp at hq; omega
    go_ret
    obtain ⟨s1, s2⟩ := step_right HF.out HV.out HP3.out hy0
    exact ⟨ret_int (by rw [s1]), ⟨P, HP1.out, hP2, s2, hP4⟩, od.trans ho2⟩
end Go.Proofs.Ythdpllhpdjhogaa
