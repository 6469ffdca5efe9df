/- The document's own answers, first part: gessoref01.trim, Cmp. -/
import Derived.Test.YthdpllhpdjhogaaGrow
namespace Go.Proofs.Ythdpllhpdjhogaa
open Go.RowKit

set_option maxHeartbeats 400000 in
theorem rtrim_any (l : List Nat) (A : Option Addr) (n c : Nat) (w : World) (h : Rd .u32 w A n l) (hL : Lim B32 l) (hn : n ≤ maxLen) (hnc : n ≤ c) :
    Calls Try.prog 42 #[.slice A n c] w fun e w' => (∃ k, k ≤ n ∧ e = .returned (.slice A k c) ∧ limbs B32 (val B32 l) = l.take k ∧ Rd .u32 w A k (limbs B32 (val B32 l))) ∧ w = w' := by
  unfold maxLen at hn
  have hlen := h.1
  have fin : ∀ k, k ≤ n → Above0 l k → (∀ x, 0 < k → l[k - 1]? = some x → x ≠ 0) → limbs B32 (val B32 l) = l.take k ∧ Rd .u32 w A k (limbs B32 (val B32 l)) := by
    intro k hk h0 hx
    rw [← trimmed B32_two hL (by omega) h0 hx]
    exact ⟨rfl, h.take hk⟩
  have HL := Lib.hid hlen
  clear hlen
  go_enter Try.func42, Try.ntmps42
  go_wp2
  go_loop [3] (fun a => ∃ k : Nat, k ≤ n ∧ Above0 l k ∧ a = .int .i64 k) (fun a => (intOf a).toNat)
  case atStart => exact ⟨n, Nat.le_refl _, fun j x hj hx => absurd (List.getElem?_eq_some_iff.1 hx).1 (by have := HL.out; omega), rfl⟩
  case round =>
    obtain ⟨k, hk, h0, rfl⟩ := hrel
    have hkc : (k : Int) ≤ (c : Int) := by omega
    by_cases hk0 : 0 < k
    · obtain ⟨b, o, rfl, hc⟩ := h.at_ (by omega)
      obtain ⟨x, hx, hcx⟩ := hc (k - 1) (by omega)
      go_wp2
      · go_round
        case rel =>
          have hx0 : x = 0 := by have hq : ((x : Int) == 0) = true := by assumption
                                 simpa using hq
          subst hx0
          exact ⟨k - 1, by omega, h0.down hk0 hx, by go_num⟩
        case measure => simp [intOf]; omega
      · have hx0 : x ≠ 0 := by have hq : ((x : Int) == 0) = false := by assumption
                               simpa using hq
        go_ret
        exact ⟨⟨k, hk, rfl, fin k hk h0 (fun y _ hy => by rw [hx] at hy; cases hy; exact hx0)⟩, rfl⟩
    · obtain rfl : k = 0 := by omega
      go_wp2
      go_ret
      exact ⟨⟨0, hk, rfl, fin 0 hk h0 (fun y hy _ => absurd hy (by omega))⟩, rfl⟩

theorem rcmp_of_length {a b : Nat} (h : (limbs B32 a).length < (limbs B32 b).length) : a < b :=
  Nat.lt_of_lt_of_le (lt_pow_limbs B32_two a) (pow_le_of_length B32_two h)

set_option maxHeartbeats 1000000 in
theorem rcmp_any (U V : Nat) (A B : Option Addr) (k c k2 d : Nat) (w : World) (hka : Rd .u32 w A k (limbs B32 U)) (hkb : Rd .u32 w B k2 (limbs B32 V)) (hk : k ≤ maxLen) :
    Calls Try.prog 14 #[.slice A k c, .slice B k2 d] w fun e w' => e = .returned (.int .i64 (cmpN U V)) ∧ ∃ q, w' = w.drewN q := by
  unfold maxLen at hk
  by_cases hne : k = k2
  · subst hne
    generalize hX : limbs B32 U = xs at hka
    generalize hY : limbs B32 V = ys at hkb
    have LX : Lim B32 xs := by rw [← hX]; exact lim_limbs B32_two _
    have LY : Lim B32 ys := by rw [← hY]; exact lim_limbs B32_two _
    have vX : Hid (val B32 xs = U) := by show _ = _; rw [← hX, val_limbs B32_two]
    have vY : Hid (val B32 ys = V) := by show _ = _; rw [← hY, val_limbs B32_two]
    clear hX hY
    go_enter Try.func14, Try.ntmps14
    go_wp2_with fail
    go_loopw [5] (fun i wr => ∃ j : Nat, j ≤ k ∧ i = .int .i64 ((j : Int) - 1) ∧ (∀ t, j ≤ t → xs[t]? = ys[t]?) ∧ ∃ q, wr = w.drewN q) (fun i _ => (intOf i + 1).toNat)
    case atStart =>
      refine ⟨k, Nat.le_refl _, by go_num, fun t ht => ?_, 0, rfl⟩
      rw [List.getElem?_eq_none (by have := hka.1; omega), List.getElem?_eq_none (by have := hkb.1; omega)]
    case round =>
      obtain ⟨j, hj, rfl, heq, q, rfl⟩ := hrel
      by_cases hj0 : 0 < j
      · obtain ⟨b, o, rfl, hc⟩ := hka.at_ (by omega)
        obtain ⟨x, hx, hcx⟩ := hc (j - 1) (by omega)
        obtain ⟨b', o', rfl, hc'⟩ := hkb.at_ (by omega)
        obtain ⟨y, hy, hcy⟩ := hc' (j - 1) (by omega)
        have HQ := Lib.hid heq
        have Hx := Lib.hid hx
        have Hy := Lib.hid hy
        have hl : Hid (xs.length = ys.length) := by show _ = _; have := hka.1; have := hkb.1; omega
        have heq2 : Hid (∀ t, j - 1 < t → xs[t]? = ys[t]?) := fun t ht => HQ.out t (by omega)
        clear heq hx hy hc hc'
        rcases Nat.lt_trichotomy x y with hlt | hxy | hgt
        · have hn1 : ((x : Int) != (y : Int)) = true := by simp; omega
          go_wp2_with fail
          go_quiet (fail)
          go_wp2_with fail
          go_quiet (fail)
          go_wp2_with fail
          go_ret
          refine ⟨ret_int ?_, drewN3 _ _ _ _⟩
          rw [← vX.out, ← vY.out, cmpN_lt (val_lt_of LX hl.out Hx.out Hy.out hlt heq2.out)]
        · subst hxy
          go_wp2_with fail
          go_quiet (fail)
          go_wp2_with fail
          go_roundw
          case rel =>
            refine ⟨j - 1, by omega, by go_num, fun t ht => ?_, _, rfl⟩
            by_cases htj : t = j - 1
            · rw [htj, Hx.out, Hy.out]
            · exact HQ.out t (by omega)
          case measure => simp [intOf]; omega
        · have hn1 : ((x : Int) != (y : Int)) = true := by simp; omega
          go_wp2_with fail
          go_quiet (fail)
          go_wp2_with fail
          go_quiet (fail)
          go_wp2_with fail
          go_ret
          refine ⟨ret_int ?_, drewN3 _ _ _ _⟩
          rw [← vX.out, ← vY.out, cmpN_gt (val_lt_of LY hl.out.symm Hy.out Hx.out hgt (fun t ht => (heq2.out t ht).symm))]
      · go_wp2_with fail
        go_ret
        refine ⟨ret_int ?_, q, rfl⟩
        rw [← vX.out, ← vY.out, cmpN_eq]
        congr 1
        apply List.ext_getElem?
        intro t
        exact heq t (by omega)
  · have hn1 : ((k : Int) != (k2 : Int)) = true := by simp; omega
    have hl1 := hka.1
    have hl2 := hkb.1
    rcases Nat.lt_or_ge k k2 with h1 | h1
    · have HC : Hid (cmpN U V = -1) := cmpN_lt (rcmp_of_length (by omega))
      clear hl1 hl2 hne
      go_enter Try.func14, Try.ntmps14
      go_wp2_with fail
      go_ret
      exact ⟨ret_int HC.out.symm, 0, rfl⟩
    · have HC : Hid (cmpN U V = 1) := cmpN_gt (rcmp_of_length (by omega))
      clear hl1 hl2 hne
      go_enter Try.func14, Try.ntmps14
      go_wp2_with fail
      go_ret
      exact ⟨ret_int HC.out.symm, 0, rfl⟩
end Go.Proofs.Ythdpllhpdjhogaa
