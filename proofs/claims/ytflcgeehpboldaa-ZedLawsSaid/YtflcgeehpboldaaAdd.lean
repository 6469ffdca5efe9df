/- nat.Add, nat.Sub. -/
import Derived.Test.YtflcgeehpboldaaTake
import Derived.Test.YtflcgeehpboldaaLower
namespace Go.Proofs.Ytflcgeehpboldaa
open Go.RowKit

theorem sum_fits {a b k n : Nat} (ha : a < B64 ^ k) (hb : b < B64 ^ n) (hnk : n ≤ k) : a + b < B64 ^ (k + 1) := by
  have h1 : B64 ^ n ≤ B64 ^ k := Nat.pow_le_pow_right (by decide) hnk
  have h2 : B64 ^ k * 2 ≤ B64 ^ (k + 1) := by rw [Nat.pow_succ]; exact Nat.mul_le_mul_left _ (by decide)
  omega

theorem sum_end {xs ys P : List Nat} {a b k n : Nat} (hx : limbs B64 a = xs) (hy : limbs B64 b = ys) (hk : ys.length = k) (hn : xs.length = n) (hnk : n ≤ k) (hP : val B64 P = (val B64 (ys ++ [0]) + val B64 xs) % B64 ^ (k + 1)) :
    val B64 P = b + a := by
  have h1 := lt_pow_limbs B64_two a
  have h2 := lt_pow_limbs B64_two b
  rw [hx, hn] at h1
  rw [hy, hk] at h2
  rw [hP, val_snoc, Nat.mul_zero, Nat.add_zero, ← hx, ← hy, val_limbs B64_two, val_limbs B64_two, Nat.mod_eq_of_lt (sum_fits h2 h1 hnk)]

set_option maxRecDepth 100000 in
set_option maxHeartbeats 1000000 in
theorem add_any (la lb : List Nat) (A B : Option Addr) (n c m d : Nat) (w : World) (ha : Rd .u64 w A n la) (hb : Rd .u64 w B m lb) (La : Lim B64 la) (Lb : Lim B64 lb) (hnm0 : n + m ≤ 35184372088831)
    (hnc : n ≤ c) (hmd : m ≤ d) :
    Calls Try.prog 44 #[.slice A n c, .slice B m d] w (GivesS .u64 82 w (limbs B64 (val B64 la + val B64 lb))) := by
  have HN : Hid (n ≤ maxLen ∧ m ≤ maxLen) := ⟨by unfold maxLen; omega, by unfold maxLen; omega⟩
  have hnm : n + m ≤ 2 ^ 45 := by omega
  have HNM := Lib.hid hnm0
  clear hnm0
  generalize hX : limbs B64 (val B64 la) = xs
  have LX : Lim B64 xs := by rw [← hX]; exact lim_limbs B64_two _
  generalize hY : limbs B64 (val B64 lb) = ys
  have LY : Lim B64 ys := by rw [← hY]; exact lim_limbs B64_two _
  have HX := Lib.hid hX
  have HY := Lib.hid hY
  clear hX hY
  by_cases hlt : xs.length < ys.length
  all_goals
    have HLT := Lib.hid hlt
    clear hlt
    go_enter Try.func44, Try.ntmps44
  · go_wp2_with (first
      | (go_at_call 66; (with_reducible refine (trim_any la A n c w ha La HN.out.1 hnc).mono ?_); rintro e w' ⟨⟨k, hk, rfl, hka⟩, rfl⟩; rw [HX.out] at hka)
      | (go_at_call 66; (with_reducible refine (trim_any lb B m d w hb Lb HN.out.2 hmd).mono ?_); rintro e w' ⟨⟨k2, hk2, rfl, hkb⟩, rfl⟩; rw [HY.out] at hkb
         have hkk : k < k2 := by (have h1 := hka.1; have h2 := hkb.1; have h3 := HLT.out; omega))
      | (at_make; refine wpList_make64 _ rfl (.tmp 19) (.tmp 19) rfl .i64 .i64 _ _ (k2 + 1) rfl rfl (by omega) (by omega) (by have := HNM.out; omega) ?_; intro w1 hown1 hb1)
      | (refine wpList_copy64 _ rfl (.tmp 21) (.tmp 22) rfl w.heap.size 0 _ _ k2 d B rfl rfl [] (List.replicate k2 0) [0] ys (by rw [List.nil_append, ← List.replicate_succ']; exact hown1) rfl (by simp) (by omega) (hkb.below hb1) ?_; intro w2 hown2 ho2)
      | (go_at_call 67
         refine (addTo_any xs [] (ys ++ [0]) [] w.heap.size 0 (k2 + 1) _ k c A w2 (by simpa using hown2) rfl (by rw [List.length_append, hkb.1]; rfl) ((hka.below hb1).only (Off.of_lt hka (Nat.le_refl _)) ho2) (Off.of_lt hka (Nat.le_refl _)) LX (LY.snoc (by decide)) (by omega) (by have := HN.out.2; have := HNM.out; unfold maxLen; omega)).mono ?_
         rintro e w3 ⟨rfl, ⟨P, hP1, hP2, hP3, hP4⟩, ho3⟩
         have HP1 := Lib.hid hP1
         have HP3 := Lib.hid hP3
         clear hP1 hP3)
      | (go_at_call 66; refine (trim_own P w.heap.size (k2 + 1) w.heap.size w3 (by simpa using hP4) (Nat.le_refl _) HP1.out hP2 (by have := HNM.out; unfold maxLen; omega)).mono ?_; rintro e w' ⟨⟨k3, hk3, rfl, hfr⟩, rfl⟩))
    go_ret
    rw [sum_end HX.out HY.out hkb.1 hka.1 (by omega) HP3.out, Nat.add_comm (val B64 lb)] at hfr
    exact ⟨_, _, _, rfl, hk3, by have := HNM.out; unfold maxLen; omega, hfr, Below.only hb1 (Nat.le_refl _) hb1.size (ho2.trans ho3)⟩
  · go_wp2_with (first
      | (go_at_call 66; (with_reducible refine (trim_any la A n c w ha La HN.out.1 hnc).mono ?_); rintro e w' ⟨⟨k, hk, rfl, hka⟩, rfl⟩; rw [HX.out] at hka)
      | (go_at_call 66; (with_reducible refine (trim_any lb B m d w hb Lb HN.out.2 hmd).mono ?_); rintro e w' ⟨⟨k2, hk2, rfl, hkb⟩, rfl⟩; rw [HY.out] at hkb
         have hkk : k2 ≤ k := by (have h1 := hka.1; have h2 := hkb.1; have h3 := HLT.out; omega))
      | (at_make; refine wpList_make64 _ rfl (.tmp 19) (.tmp 19) rfl .i64 .i64 _ _ (k + 1) rfl rfl (by omega) (by omega) (by have := HNM.out; omega) ?_; intro w1 hown1 hb1)
      | (refine wpList_copy64 _ rfl (.tmp 21) (.tmp 22) rfl w.heap.size 0 _ _ k c A rfl rfl [] (List.replicate k 0) [0] xs (by rw [List.nil_append, ← List.replicate_succ']; exact hown1) rfl (by simp) (by omega) (hka.below hb1) ?_; intro w2 hown2 ho2)
      | (go_at_call 67
         refine (addTo_any ys [] (xs ++ [0]) [] w.heap.size 0 (k + 1) _ k2 d B w2 (by simpa using hown2) rfl (by rw [List.length_append, hka.1]; rfl) ((hkb.below hb1).only (Off.of_lt hkb (Nat.le_refl _)) ho2) (Off.of_lt hkb (Nat.le_refl _)) LY (LX.snoc (by decide)) (by omega) (by have := HN.out.1; have := HNM.out; unfold maxLen; omega)).mono ?_
         rintro e w3 ⟨rfl, ⟨P, hP1, hP2, hP3, hP4⟩, ho3⟩
         have HP1 := Lib.hid hP1
         have HP3 := Lib.hid hP3
         clear hP1 hP3)
      | (go_at_call 66; refine (trim_own P w.heap.size (k + 1) w.heap.size w3 (by simpa using hP4) (Nat.le_refl _) HP1.out hP2 (by have := HNM.out; unfold maxLen; omega)).mono ?_; rintro e w' ⟨⟨k3, hk3, rfl, hfr⟩, rfl⟩))
    go_ret
    rw [sum_end HY.out HX.out hka.1 hkb.1 (by omega) HP3.out] at hfr
    exact ⟨_, _, _, rfl, hk3, by have := HNM.out; unfold maxLen; omega, hfr, Below.only hb1 (Nat.le_refl _) hb1.size (ho2.trans ho3)⟩

theorem below_drawn {B : Nat} {a w : World} (h : Below B a w) (q : Nat) : Below B a (w.drewN q) := ⟨h.os, h.tape, h.output, h.size, h.block⟩

theorem cmp_neg {a b : Nat} (h : cmpN a b < 0) : a < b := by
  unfold cmpN at h
  split at h
  · assumption
  · split at h <;> omega
theorem cmp_pos {a b : Nat} (h : 0 ≤ cmpN a b) : b ≤ a := by
  unfold cmpN at h
  split at h
  · omega
  · omega

set_option maxRecDepth 100000 in
set_option maxHeartbeats 1000000 in
theorem sub_below (la lb : List Nat) (A B : Option Addr) (n c m d : Nat) (w : World) (ha : Rd .u64 w A n la) (hb : Rd .u64 w B m lb) (La : Lim B64 la) (Lb : Lim B64 lb) (hnm0 : n + m ≤ 35184372088831)
    (hnc : n ≤ c) (hmd : m ≤ d) (hlt : val B64 la < val B64 lb) :
    Calls Try.prog 45 #[.slice A n c, .slice B m d] w fun e w' => e = .returned (.tuple #[.slice none 0 0, .int .i64 13]) ∧ Below w.heap.size w w' := by
  have HN : Hid (n ≤ maxLen ∧ m ≤ maxLen) := ⟨by unfold maxLen; omega, by unfold maxLen; omega⟩
  clear hnm0
  have HC : cmpN (val B64 la) (val B64 lb) = -1 := cmpN_lt hlt
  generalize hX : limbs B64 (val B64 la) = xs
  have LX : Lim B64 xs := by rw [← hX]; exact lim_limbs B64_two _
  generalize hY : limbs B64 (val B64 lb) = ys
  have LY : Lim B64 ys := by rw [← hY]; exact lim_limbs B64_two _
  have hvx : val B64 xs = val B64 la := by rw [← hX, val_limbs B64_two]
  have hvy : val B64 ys = val B64 lb := by rw [← hY, val_limbs B64_two]
  rw [← hvx, ← hvy] at HC
  have HX := Lib.hid hX
  have HY := Lib.hid hY
  have HCC := Lib.hid HC
  clear hX hY hvx hvy hlt HC
  go_enter Try.func45, Try.ntmps45
  go_wp2_with (first
    | (go_at_call 66; (with_reducible refine (trim_any la A n c w ha La HN.out.1 hnc).mono ?_); rintro e w' ⟨⟨k, hk, rfl, hka⟩, rfl⟩; rw [HX.out] at hka)
    | (go_at_call 66; (with_reducible refine (trim_any lb B m d w hb Lb HN.out.2 hmd).mono ?_); rintro e w' ⟨⟨k2, hk2, rfl, hkb⟩, rfl⟩; rw [HY.out] at hkb)
    | (go_at_call 52; refine (cmp_any xs ys A B k c k2 d w hka hkb LX LY (by have := HN.out.1; omega) (by have := HN.out.2; omega) (by omega) (by omega)).mono ?_; rintro e w' ⟨rfl, q, rfl⟩; rw [HCC.out]))
  go_ret2
  exact ⟨rfl, below_drawn (Below.refl _ _) q⟩

set_option maxRecDepth 100000 in
set_option maxHeartbeats 1000000 in
theorem sub_any (la lb : List Nat) (A B : Option Addr) (n c m d : Nat) (w : World) (ha : Rd .u64 w A n la) (hb : Rd .u64 w B m lb) (La : Lim B64 la) (Lb : Lim B64 lb) (hnm0 : n + m ≤ 35184372088831)
    (hnc : n ≤ c) (hmd : m ≤ d) (hle : val B64 lb ≤ val B64 la) :
    Calls Try.prog 45 #[.slice A n c, .slice B m d] w (GivesE .u64 82 w (limbs B64 (val B64 la - val B64 lb)) 0) := by
  have HN : Hid (n ≤ maxLen ∧ m ≤ maxLen) := ⟨by unfold maxLen; omega, by unfold maxLen; omega⟩
  have hnm : n + m ≤ 2 ^ 45 := by omega
  have HNM := Lib.hid hnm0
  clear hnm0
  have HC : 0 ≤ cmpN (val B64 la) (val B64 lb) := by
    rcases Nat.lt_or_eq_of_le hle with h | h
    · rw [cmpN_gt h]; omega
    · rw [cmpN_eq h.symm]; omega
  generalize hX : limbs B64 (val B64 la) = xs
  have LX : Lim B64 xs := by rw [← hX]; exact lim_limbs B64_two _
  generalize hY : limbs B64 (val B64 lb) = ys
  have LY : Lim B64 ys := by rw [← hY]; exact lim_limbs B64_two _
  have hvx : val B64 xs = val B64 la := by rw [← hX, val_limbs B64_two]
  have hvy : val B64 ys = val B64 lb := by rw [← hY, val_limbs B64_two]
  have hle2 : val B64 ys ≤ val B64 xs := by omega
  have hlen : ys.length ≤ xs.length := by rw [← hX, ← hY]; exact length_limbs_mono B64_two hle
  rw [← hvx, ← hvy] at HC
  have HX := Lib.hid hX
  have HY := Lib.hid hY
  have HVX := Lib.hid hvx
  have HVY := Lib.hid hvy
  have HLE := Lib.hid hle2
  have HLN := Lib.hid hlen
  clear hX hY hvx hvy hle hle2 hlen
  go_enter Try.func45, Try.ntmps45
  go_wp2_with (first
    | (go_at_call 66; (with_reducible refine (trim_any la A n c w ha La HN.out.1 hnc).mono ?_); rintro e w' ⟨⟨k, hk, rfl, hka⟩, rfl⟩; rw [HX.out] at hka)
    | (go_at_call 66; (with_reducible refine (trim_any lb B m d w hb Lb HN.out.2 hmd).mono ?_); rintro e w' ⟨⟨k2, hk2, rfl, hkb⟩, rfl⟩; rw [HY.out] at hkb
       have hkk : k2 ≤ k := by (have h1 := hka.1; have h2 := hkb.1; have h3 := HLN.out; omega))
    | (go_at_call 52; refine (cmp_any xs ys A B k c k2 d w hka hkb LX LY (by have := HN.out.1; omega) (by have := HN.out.2; omega) (by omega) (by omega)).mono ?_; rintro e w' ⟨rfl, q, rfl⟩)
    | (go_at_call 68; refine (fresh_any xs A k c _ (hka.drewN q) (by have := HNM.out; omega)).mono ?_; rintro e w1 ⟨rfl, hown1, hb1⟩)
    | (go_at_call 69
       refine (takeFrom_any ys [] xs [] w.heap.size 0 k k k2 d B w1 (by simpa using hown1) rfl hka.1 ((hkb.drewN q).below hb1) (Off.of_lt hkb (Nat.le_refl _)) LY LX hkk (by have := HN.out.1; omega) HLE.out).mono ?_
       rintro e w3 ⟨rfl, ⟨P, hP1, hP2, hP3, hP4⟩, ho3⟩
       have HP1 := Lib.hid hP1
       have HP3 := Lib.hid hP3
       clear hP1 hP3)
    | (go_at_call 66; refine (trim_own P w.heap.size k w.heap.size w3 (by simpa using hP4) (Nat.le_refl _) HP1.out hP2 (by have := HN.out.1; omega)).mono ?_; rintro e w' ⟨⟨k3, hk3, rfl, hfr⟩, rfl⟩))
  go_ret2
  rw [HP3.out, HVX.out, HVY.out] at hfr
  have hb2 : Below w.heap.size w w1 := (below_drawn (Below.refl _ _) q).trans hb1
  exact ⟨_, _, _, rfl, hk3, by have := HN.out.1; omega, hfr, Below.only hb2 (Nat.le_refl _) hb2.size ho3⟩
end Go.Proofs.Ytflcgeehpboldaa
