/- nat.divideStep: one limb of a quotient; what is left in place. -/
import Derived.Test.YthdpllhpdjhogaaDStepM
namespace Go.Proofs.Ythdpllhpdjhogaa
open Go.RowKit

set_option maxRecDepth 100000 in
set_option maxHeartbeats 1000000 in
theorem divideStep_any (N1 : Nat) (lx pre seg post : List Nat) (g o N cz c : Nat) (X : Option Addr) (w : World) (hN : N1 = N + 1) (hN2 : 2 ≤ N) (hz : Own .u64 34 w g (pre ++ (seg ++ post))) (ho : pre.length = o) (hn : seg.length = N + 1)
    (hx : Rd .u64 w X N lx) (hoff : Off X N g) (Lx : Lim B64 lx) (Lz : Lim B64 seg) (hm : N + 1 ≤ maxLen) (htop : ∀ x, lx[N - 1]? = some x → 0 < x) (hfit : val B64 seg < B64 * val B64 lx) :
    Calls Try.prog 78 #[.slice (some ⟨g, o, none⟩) N1 cz, .slice X N c] w fun e w' =>
      e = .returned (.int .u64 ((val B64 seg / val B64 lx : Nat) : Int)) ∧ (∃ P, P.length = N + 1 ∧ Lim B64 P ∧ val B64 P = val B64 seg % val B64 lx ∧ Own .u64 34 w' g (pre ++ (P ++ post))) ∧ Only g w w' := by
  subst hN
  obtain ⟨n, hNn⟩ : ∃ n, N = n + 2 := ⟨N - 2, by omega⟩
  obtain ⟨u2, hu2⟩ : ∃ x, seg[N]? = some x := ⟨_, List.getElem?_eq_getElem (by omega)⟩
  obtain ⟨u1, hu1⟩ : ∃ x, seg[N - 1]? = some x := ⟨_, List.getElem?_eq_getElem (by omega)⟩
  obtain ⟨u0, hu0⟩ : ∃ x, seg[N - 2]? = some x := ⟨_, List.getElem?_eq_getElem (by omega)⟩
  obtain ⟨b, o', rfl, hc⟩ := hx.at_ (by omega)
  obtain ⟨v1, hv1, hcv1⟩ := hc (N - 1) (by omega)
  obtain ⟨v0, hv0, hcv0⟩ := hc (N - 2) (by omega)
  have e3 := split3 (l := seg) (n := n) (by omega) (by rw [← hNn]; exact hu2) (by rw [show n + 1 = N - 1 by omega]; exact hu1) (by rw [show n = N - 2 by omega]; exact hu0)
  have e2 := split2 (l := lx) (n := n) (by have := hx.1; omega) (by rw [show n + 1 = N - 1 by omega]; exact hv1) (by rw [show n = N - 2 by omega]; exact hv0)
  have l3 := take_lt Lz (n := n) (by omega)
  have l2 := take_lt Lx (n := n) (by have := hx.1; omega)
  have hV : 0 < val B64 lx := by
    rcases Nat.eq_zero_or_pos (val B64 lx) with h | h
    · rw [h, Nat.mul_zero] at hfit; exact absurd hfit (Nat.not_lt_zero _)
    · exact h
  have huv : u2 ≤ v1 := top_le l2 (by rw [← e3, ← e2]; exact hfit) rfl ⟨v0, Lx.get hv0, rfl⟩
  have hVT : val B64 lx ≤ B64 ^ (N + 1) := by
    have := val_lt Lx
    rw [hx.1] at this
    exact Nat.le_trans (Nat.le_of_lt this) (Nat.pow_le_pow_right (by decide) (by omega))
  have hv1p := htop v1 hv1
  have HF : Hid (often u2 u1 u0 v1 v0 = val B64 seg / val B64 lx ∨ often u2 u1 u0 v1 v0 = val B64 seg / val B64 lx + 1) := often_div e3 l3 e2 l2 hv1p hfit
  have hqB := often_lt u2 u1 u0 v1 v0
  have cell : ∀ j x : Nat, seg[j]? = some x → w.cell? ⟨g, o + j, none⟩ = some (.int .u64 (x : Int)) := fun j x hj => hz.cell_at (by
    have := (List.getElem?_eq_some_iff.1 hj).1
    rw [List.getElem?_append_right (by omega), List.getElem?_append_left (by omega), ho, Nat.add_sub_cancel_left]
    exact hj)
  have cu2 := cell _ _ hu2
  have cu1 := cell _ _ hu1
  have cu0 := cell _ _ hu0
  have L2 := Lz.get hu2
  have L1 := Lz.get hu1
  have L0 := Lz.get hu0
  have M1 := Lx.get hv1
  have M0 := Lx.get hv0
  have HS := Lib.hid hn
  have HO := Lib.hid ho
  have HV := Lib.hid hV
  have HVT := Lib.hid hVT
  clear hn ho hfit hV hVT e3 e2 l3 l2 hu2 hu1 hu0 hv1 hv0 cell hc htop hNn
  unfold maxLen at hm
  go_enter Try.func78, Try.ntmps78
  go_wp2_with fail
  go_quiet ((go_at_call 87; exact Calls.quiet_of (guess_at u2 u1 u0 v1 v0 _ huv hv1p L1 L0 M1 M0)))
  generalize often u2 u1 u0 v1 v0 = q at *
  have od : Only g w (w.drewN nq) := ⟨rfl, rfl, rfl, Nat.le_refl _, fun _ _ _ => rfl⟩
  go_wp2_with (first
    | (go_at_call 88; (refine (takeProduct_any lx pre seg post q g o N cz c _ (w.drewN nq) (show Own .u64 34 (w.drewN nq) g (pre ++ (seg ++ post)) from hz) HO.out HS.out (hx.drewN _) hoff Lx Lz hqB (by unfold maxLen; omega)).mono ?_); rintro e w2 ⟨⟨P, y, rfl, hy, hP1, hP2, hP3, hP4⟩, ho2⟩
       have HP1 := Lib.hid hP1
       have HP3 := Lib.hid hP3
       clear hP1 hP3)
    | (go_at_call 47
       refine (addTo_any lx pre P post g o (N + 1) cz N c _ w2 hP4 HO.out HP1.out ((hx.drewN _).only hoff ho2) hoff Lx hP2 (by omega) (by unfold maxLen; omega)).mono ?_
       rintro e w3 ⟨rfl, ⟨P', hP1', hP2', hP3', hP4'⟩, ho3⟩))
  · have hy0 : y ≠ 0 := by have hq : ((y : Int) != 0) = true := by assumption
                           simpa using hq
    go_ret
    have hlt := val_lt hP2
    rw [HP1.out] at hlt
    obtain ⟨s1, s2, s3⟩ := step_great HF.out HV.out HVT.out hlt HP3.out hy hy0
    rw [s3] at hP3'
    refine ⟨ret_int ?_, ⟨P', hP1', hP2', hP3', hP4'⟩, (od.trans ho2).trans ho3⟩
    rw [← s2]
    have := B64_eq
    rw [IntKind.wrap_u64]; omega
  · have hy0 : y = 0 := by have hq : ((y : Int) != 0) = false := by assumption
                           simp at hq; omega
    go_ret
    obtain ⟨s1, s2⟩ := step_right HF.out HV.out HP3.out hy0
    exact ⟨ret_int (by rw [s1]), ⟨P, HP1.out, hP2, s2, hP4⟩, od.trans ho2⟩
end Go.Proofs.Ythdpllhpdjhogaa
