/- The law NatBits: its walk. -/
import Derived.Test.YthdpllhpdjhogaaWakes
namespace Go.Proofs.Ythdpllhpdjhogaa
open Go.RowKit

theorem bl_pow (m : Nat) : bl (2 ^ m) = m + 1 := bl_eq (Nat.le_refl _) (Nat.pow_lt_pow_right (by omega) (by omega))
theorem bl_limbs {l : List Nat} {n : Nat} (hL : Lim B64 l) (hn : l.length = n) : bl (val B64 l) ≤ 64 * n := by
  refine bl_le ?_
  have h1 := val_lt hL
  rwa [hn, pow64] at h1
theorem shr_at (S : Int) (l : List Nat) (A : Option Addr) (n c sh : Nat) (w : World) (h : Rd .u64 w A n l) (hL : Lim B64 l) (hn0 : n ≤ 35184372072432) (hnc : n ≤ c) (hs : sh ≤ 1048576) (hS : S = (sh : Int)) :
    Calls Try.prog 29 #[.slice A n c, .int .i64 S] w (GivesE .u64 34 w (limbs B64 (val B64 l / 2 ^ sh)) 0) := by
  subst hS; exact shr_any l A n c sh w h hL hn0 hnc hs
theorem shr_all (V : Nat) : limbs B64 (V / 2 ^ bl V) = [] := by rw [Nat.div_eq_of_lt (lt_bl V), limbs_zero]
theorem shr_one {V b : Nat} (hV : V ≠ 0) (hb : b = bl V) : limbs B64 (V / 2 ^ (b - 1)) = [1] := by
  have h0 := bl_pos hV
  have h1 := lt_bl V
  have h2 := le_of_bl (n := V) (k := bl V - 1) (by omega)
  subst hb
  have : V / 2 ^ (bl V - 1) = 1 := by
    have hp := Nat.two_pow_pos (bl V - 1)
    have h3 : 2 ^ bl V = 2 ^ (bl V - 1) * 2 := by rw [← Nat.pow_succ, show (bl V - 1).succ = bl V by omega]
    apply Nat.div_eq_of_lt_le
    · omega
    · omega
  rw [this]
  exact limbs_small B64_two (by decide) (by omega)

set_option maxRecDepth 100000 in
set_option maxHeartbeats 2000000 in
theorem law_bits (l : List Nat) (A : Option Addr) (n c : Nat) (k : Nat) (w : World) (h : Rd .u64 w A n l) (hL : Lim B64 l) (hnc : n ≤ c) (hc : c ≤ maxLen) (hk : k ≤ 65535) :
    Calls Try.prog 9 #[.slice A n c, .int .u16 (k : Int)] w fun e w' => e = .returned (.bool true) ∧ Below w.heap.size w w' := by
  by_cases hn : 40 < n
  · have hn1 : (40 : Int) < (n : Int) := by omega
    go_enter Try.func9, Try.ntmps9
    go_wp2_with (go_at_call 10; ((with_reducible refine (wakes_any _).mono ?_); rintro e w' ⟨rfl, h1⟩))
    go_ret
    exact ⟨rfl, h1⟩
  · have hn40 : n ≤ 40 := by omega
    have HML : Hid (n ≤ maxLen) := Nat.le_trans hnc hc
    have HM1 : Hid (1 ≤ maxLen) := (by decide : 1 ≤ maxLen)
    obtain ⟨V, hV⟩ : ∃ V, V = val B64 l := ⟨_, rfl⟩
    obtain ⟨b, hb⟩ : ∃ b, b = bl V := ⟨_, rfl⟩
    have hb2560 : b ≤ 2560 := by
      have h1 := bl_limbs hL h.1
      rw [← hV, ← hb] at h1
      omega
    have hs := shr_all V
    rw [← hb] at hs
    have HS := Lib.hid hs
    have HV := Lib.hid hV
    have HB := Lib.hid hb
    have hm : ((k : Int) % 2000 = ((k % 2000 : Nat) : Int)) := by omega
    obtain ⟨m, hmm⟩ : ∃ m, m = k % 2000 := ⟨_, rfl⟩
    rw [← hmm] at hm
    have hm2 : m < 2000 := by omega
    clear hs hV hb hn hc hmm
    by_cases hV0 : V = 0
    · have hb0 : b = 0 := by rw [HB.out, hV0, bl_zero]
      subst hb0
      have HC : Hid (cmpN V 0 = 0) := cmpN_eq hV0
      clear hV0
      have HBM : Hid (bl (val B64 (limbs B64 (val B64 [1] * 2 ^ m))) = m + 1) := by show _ = _; rw [val_limbs B64_two, show val B64 [1] = 1 from rfl, Nat.one_mul, bl_pow]
      have HBL : Hid (∀ (w : World) (B n2 c2 : Nat) (A2 : Option Addr), Fr .u64 34 w B A2 n2 c2 (limbs B64 (val B64 [1] * 2 ^ m)) → n2 ≤ 35184372088832) := by
        show ∀ (w : World) (B n2 c2 : Nat) (A2 : Option Addr), Fr .u64 34 w B A2 n2 c2 (limbs B64 (val B64 [1] * 2 ^ m)) → n2 ≤ 35184372088832
        intro w B n2 c2 A2 hf
        rw [← hf.1]
        have : (limbs B64 (val B64 [1] * 2 ^ m)).length ≤ m + 1 := by
          refine length_limbs_le B64_two ?_
          rw [show val B64 [1] = 1 from rfl, Nat.one_mul, pow64]
          exact Nat.pow_lt_pow_right (by omega) (by omega)
        omega
      go_enter Try.func9, Try.ntmps9
      go_wp2_with (first
        | (go_at_call 32; ((with_reducible refine (bits_any l A n c w h hL (by omega) hnc).mono ?_); rintro e w' ⟨rfl, rfl⟩; rw [← HV.out, ← HB.out]))
        | (go_at_call 29; (refine (shr_any l A n c 0 w h hL (by omega) hnc (by omega)).mono ?_); rintro e w1 ⟨A1, n1, c1, rfl, p1, p2, p3, p4⟩
           rw [← HV.out, HS.out] at p3
           obtain rfl : n1 = 0 := p3.1.symm)
        | (go_at_call 28; ((with_reducible refine (shl_any [1] _ 1 1 m _ (rd_1' _ _ (by simp)) (lim1 (by decide)) (by omega) (by omega) (by omega)).mono ?_); rintro e w2 ⟨A2, n2, c2, rfl, q1, q2, q3, q4⟩)
           have b2 : Below w.heap.size w w2 := (p4.alloc p4.size _).trans (q4.mono (Nat.le_trans p4.size (by simp))))
        | (go_at_call 21; ((with_reducible refine (cmp_any l [] A none n c 0 0 w2 (h.below b2) Rd.nil hL Lim.nil HML.out (by omega) hnc (by omega)).mono ?_); rintro e w' ⟨rfl, qq, rfl⟩)
           rw [← HV.out, val_nil]; rw [HC.out])
        | (go_at_call 32; ((with_reducible refine (bits_any _ A2 n2 c2 _ (q3.rd.drewN qq) (lim_limbs B64_two _) (HBL.out _ _ _ _ _ q3) q1).mono ?_); rintro e w' ⟨rfl, rfl⟩)
           rw [HBM.out])
        | (go_at_call 10; (with_reducible refine (wakes_any _).mono ?_); rintro e w4 ⟨rfl, h4⟩
           have e4 : Below w2.heap.size (w2.drewN qq) w4 := h4
           have b4 : Below w.heap.size w w4 := (below_drawn b2 qq).trans (e4.mono b2.size)
           clear e4 h4))
      go_ret
      exact ⟨rfl, b4⟩
    · obtain hbp := bl_pos hV0
      rw [← HB.out] at hbp
      have HC : Hid (cmpN V 0 = 1) := cmpN_gt (by omega)
      have h1 := shr_one hV0 HB.out
      obtain ⟨bp, hbb⟩ : ∃ bp, bp = b - 1 := ⟨_, rfl⟩
      rw [← hbb] at h1
      have H1 := Lib.hid h1
      have hb1 : (b : Int) - 1 = (bp : Int) := by omega
      have hbp2 : bp ≤ 2560 := by omega
      have hb00 : ¬ (b : Int) < 0 := by omega
      have hb25 : ¬ (2560 : Int) < (b : Int) := by omega
      have hbpos : (0 : Int) < (b : Int) := by omega
      clear hV0 hbb h1
      have HBM : Hid (bl (val B64 (limbs B64 (val B64 [1] * 2 ^ m))) = m + 1) := by show _ = _; rw [val_limbs B64_two, show val B64 [1] = 1 from rfl, Nat.one_mul, bl_pow]
      have HBL : Hid (∀ (w : World) (B n2 c2 : Nat) (A2 : Option Addr), Fr .u64 34 w B A2 n2 c2 (limbs B64 (val B64 [1] * 2 ^ m)) → n2 ≤ 35184372088832) := by
        show ∀ (w : World) (B n2 c2 : Nat) (A2 : Option Addr), Fr .u64 34 w B A2 n2 c2 (limbs B64 (val B64 [1] * 2 ^ m)) → n2 ≤ 35184372088832
        intro w B n2 c2 A2 hf
        rw [← hf.1]
        have : (limbs B64 (val B64 [1] * 2 ^ m)).length ≤ m + 1 := by
          refine length_limbs_le B64_two ?_
          rw [show val B64 [1] = 1 from rfl, Nat.one_mul, pow64]
          exact Nat.pow_lt_pow_right (by omega) (by omega)
        omega
      go_enter Try.func9, Try.ntmps9
      go_wp2_with (first
        | (go_at_call 32; ((with_reducible refine (bits_any l A n c w h hL (by omega) hnc).mono ?_); rintro e w' ⟨rfl, rfl⟩; rw [← HV.out, ← HB.out]))
        | (go_at_call 29; (with_reducible refine (shr_at (b : Int) l A n c b w h hL (by omega) hnc (by omega) rfl).mono ?_); rintro e w1 ⟨A1, n1, c1, rfl, p1, p2, p3, p4⟩
           rw [← HV.out, HS.out] at p3
           obtain rfl : n1 = 0 := p3.1.symm)
        | (go_at_call 29; (with_reducible refine (shr_at (bp : Int) l A n c bp w1 (h.below p4) hL (by omega) hnc (by omega) rfl).mono ?_); rintro e w3 ⟨A3, n3, c3, rfl, s1, s2, s3, s4⟩
           rw [← HV.out, H1.out] at s3
           obtain rfl : n3 = 1 := s3.1.symm
           have b3' : Below w.heap.size w w3 := p4.trans (s4.mono p4.size))
        | (go_at_call 23; ((with_reducible refine (k_nats0 w3 w3 b1 [1] _ _ _ _ _ _ s3.rd (Below.refl _ _) (rd_1 w3) HM1.out).mono ?_); rintro e w' ⟨rfl, q0, rfl⟩)
           have b5' : Below w.heap.size w ((w3.alloc b1).drewN q0) := below_drawn (b3'.alloc b3'.size b1) q0)
        | (go_at_call 28; ((with_reducible refine (shl_any [1] _ 1 1 m _ (rd_1' _ _ (by simp)) (lim1 (by decide)) (by omega) (by omega) (by omega)).mono ?_); rintro e w2 ⟨A2, n2, c2, rfl, q1, q2, q3, q4⟩)
           have b2 : Below w.heap.size w w2 := (b5'.alloc b5'.size _).trans (q4.mono (Nat.le_trans b5'.size (by simp))))
        | (go_at_call 21; ((with_reducible refine (cmp_any l [] A none n c 0 0 w2 (h.below b2) Rd.nil hL Lim.nil HML.out (by omega) hnc (by omega)).mono ?_); rintro e w' ⟨rfl, qq, rfl⟩)
           rw [← HV.out, val_nil]; rw [HC.out])
        | (go_at_call 32; ((with_reducible refine (bits_any _ A2 n2 c2 _ (q3.rd.drewN qq) (lim_limbs B64_two _) (HBL.out _ _ _ _ _ q3) q1).mono ?_); rintro e w' ⟨rfl, rfl⟩)
           rw [HBM.out])
        | (go_at_call 10; (with_reducible refine (wakes_any _).mono ?_); rintro e w4 ⟨rfl, h4⟩
           have e4 : Below w2.heap.size (w2.drewN qq) w4 := h4
           have b4 : Below w.heap.size w w4 := (below_drawn b2 qq).trans (e4.mono b2.size)
           clear e4 h4))
      go_ret
      exact ⟨rfl, b4⟩
end Go.Proofs.Ythdpllhpdjhogaa
