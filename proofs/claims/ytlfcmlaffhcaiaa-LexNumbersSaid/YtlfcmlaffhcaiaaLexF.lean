/- gessoref10's small functions by value; runs, step by step. -/
import Derived.Test.YtlfcmlaffhcaiaaLexE
namespace Go.Proofs.Ytlfcmlaffhcaiaa
open Go Go.RowKit

theorem lrun_step {q : UInt8 → Bool} : ∀ {l : List UInt8} {m : Nat} {x : UInt8}, m ≤ lrun q l → l[m]? = some x → (q x = true → m + 1 ≤ lrun q l) ∧ (q x = false → lrun q l = m)
  | [], m, x, _, h => by simp at h
  | c :: r, 0, x, _, h => by
    have : c = x := by simpa using h
    subst this
    unfold lrun
    constructor
    · intro hq; rw [if_pos hq]; omega
    · intro hq; rw [if_neg (by simp [hq])]
  | c :: r, m + 1, x, hm, h => by
    unfold lrun at hm ⊢
    split at hm
    · rename_i hc
      rw [if_pos hc]
      have := lrun_step (q := q) (l := r) (m := m) (x := x) (by omega) (by simpa using h)
      exact ⟨fun hq => by have := this.1 hq; omega, fun hq => by have := this.2 hq; omega⟩
    · omega
theorem lrun_end {q : UInt8 → Bool} {l : List UInt8} {m : Nat} (h : m ≤ lrun q l) (hl : l.length ≤ m) : lrun q l = m := by
  have := lrun_le q l
  omega

set_option maxRecDepth 100000 in
set_option maxHeartbeats 1000000 in
theorem letter_any (c : UInt8) (w : World) : Calls Try.prog 14 #[.int .u8 (c.toNat : Int)] w fun e w' => e = .returned (.bool (isL c)) ∧ w = w' := by
  go_enter Try.func14, Try.ntmps14
  by_cases h1 : (97 : Int) ≤ (c.toNat : Int) <;> by_cases h2 : (c.toNat : Int) ≤ 122 <;> by_cases h3 : (65 : Int) ≤ (c.toNat : Int) <;> by_cases h4 : (c.toNat : Int) ≤ 90
  all_goals (try omega)
  all_goals
    go_wp2
    go_ret
    refine ⟨ret_b ?_, rfl⟩
    first
      | (refine Eq.symm (isL_iff.2 ?_); omega)
      | (refine Eq.symm (isL_no.2 ?_); omega)
set_option maxRecDepth 100000 in
set_option maxHeartbeats 1000000 in
theorem digit_any (c : UInt8) (w : World) : Calls Try.prog 15 #[.int .u8 (c.toNat : Int)] w fun e w' => e = .returned (.bool (isD c)) ∧ w = w' := by
  go_enter Try.func15, Try.ntmps15
  by_cases h1 : (48 : Int) ≤ (c.toNat : Int) <;> by_cases h2 : (c.toNat : Int) ≤ 57
  all_goals (try omega)
  all_goals
    go_wp2
    go_ret
    refine ⟨ret_b ?_, rfl⟩
    first
      | (refine Eq.symm (isD_iff.2 ?_); omega)
      | (refine Eq.symm (isD_no.2 ?_); omega)

/-- What the digits among bytes come to. -/
def nval (l : List UInt8) : Nat := lval (l.filter fun c => decide (c.toNat ≠ 45))
theorem nval_snoc_m {l : List UInt8} {c : UInt8} (h : c.toNat = 45) : nval (l ++ [c]) = nval l := by unfold nval; rw [List.filter_append]; simp [h]
theorem nval_snoc_d {l : List UInt8} {c : UInt8} (h : ¬ c.toNat = 45) : nval (l ++ [c]) = 10 * nval l + (c.toNat - 48) := by
  unfold nval; rw [List.filter_append, List.filter_cons_of_pos (by simp [h]), List.filter_nil, lval_snoc]
theorem nval_take (l : List UInt8) (k : Nat) : nval (l.take k) ≤ nval l := by
  conv => rhs; rw [← List.take_append_drop k l]
  unfold nval
  rw [List.filter_append]
  unfold lval
  rw [List.foldl_append]
  exact foldl_ge _ _
theorem nval_digits {l : List UInt8} (h : ∀ x ∈ l, isD x = true) : nval l = lval l := by
  unfold nval
  rw [List.filter_eq_self.2 (fun x hx => by have := isD_iff.1 (h x hx); simp; omega)]
theorem nval_minus {c : UInt8} {r : List UInt8} (hc : c.toNat = 45) (h : ∀ x ∈ r, isD x = true) : nval (c :: r) = lval r := by
  have := nval_digits h
  unfold nval at this ⊢
  rw [List.filter_cons_of_neg (by simp [hc])]
  exact this

theorem nval_big {s : ByteArray} {k : Nat} {x : UInt8} {N : Nat} (hn : nval (s.data.toList.take (k + 1)) = 10 * N + (x.toNat - 48)) (h1 : 48 ≤ x.toNat) (h2 : x.toNat ≤ 57) (h : (4611686018427387904 - ((x.toNat : Int) - 48)) / 10 < (N : Int)) : cap62 (nval s.data.toList) = 4611686018427387904 := by
  have := nval_take s.data.toList (k + 1)
  refine cap62_big ?_
  unfold mst
  omega

set_option maxRecDepth 100000 in
set_option maxHeartbeats 4000000 in
theorem rnumber_neg (s : ByteArray) (h0 : 0 < s.size) (w : World) (hl : s.size ≤ 1048576) (hc : (s[0]'h0).toNat = 45) (hd : ∀ x ∈ s.data.toList, isD x = true ∨ x.toNat = 45) :
    Calls Try.prog 16 #[.string s] w fun e w' => e = .returned (.int .i64 (-(cap62 (nval s.data.toList) : Int))) ∧ w = w' := by
  have e0 : (((s[0]'h0).toNat : Int) == 45) = true := by simp; omega
  have HD := Lib.hid hd
  clear hd hc
  have hcap := cap62_le (nval s.data.toList)
  unfold mst at hcap
  obtain ⟨M, hM⟩ : ∃ M, M = cap62 (nval s.data.toList) := ⟨_, rfl⟩
  rw [← hM] at hcap ⊢
  have HM := Lib.hid hM
  clear hM
  have E0 := Lib.hid e0
  clear e0
  go_enter Try.func16, Try.ntmps16
  go_wp2
  go_loop [3, 4] (fun n i => ∃ k : Nat, k ≤ s.size ∧ i = .int .i64 (k : Int) ∧ n = .int .i64 (nval (s.data.toList.take k) : Int) ∧ nval (s.data.toList.take k) ≤ 4611686018427387904) (fun _ i => s.size - (intOf i).toNat)
  case atStart => exact ⟨0, Nat.zero_le _, rfl, rfl, by show nval [] ≤ _; decide⟩
  case round =>
    obtain ⟨k, hk, rfl, rfl, hN⟩ := hrel
    obtain ⟨N, hNe⟩ : ∃ N, N = nval (s.data.toList.take k) := ⟨_, rfl⟩
    rw [← hNe] at hN ⊢
    have HN := Lib.hid hNe
    clear hNe
    by_cases hp : k < s.size
    · have hdx := HD.out _ (get_mem s k hp)
      have hx8 := (s[k]'hp).toNat_lt
      have HX : Hid (nval (s.data.toList.take (k + 1)) = nval (s.data.toList.take k ++ [s[k]'hp])) := by show _ = _; rw [get_take s k hp]
      by_cases h45 : (s[k]'hp).toNat = 45
      · have e45 : (((s[k]'hp).toNat : Int) == 45) = true := by rw [h45]; rfl
        have HNM := Lib.hid (nval_snoc_m (l := s.data.toList.take k) h45)
        clear h45 hdx
        go_wp2
        go_round
        case rel => exact ⟨k + 1, hp, by go_num, by rw [HX.out, HNM.out, ← HN.out], by rw [HX.out, HNM.out, ← HN.out]; exact hN⟩
        case measure => simp [intOf]; omega
      · have hdx : isD (s[k]'hp) = true := by rcases hdx with h | h; exact h; exact absurd h h45
        have hdd := isD_iff.1 hdx
        have e45 : (((s[k]'hp).toNat : Int) == 45) = false := by simp; omega
        have hb1 : 48 ≤ (s[k]'hp).toNat := by omega
        have hb2 : (s[k]'hp).toNat ≤ 57 := by omega
        have HNM : Hid (nval (s.data.toList.take (k + 1)) = 10 * N + ((s[k]'hp).toNat - 48)) := by show _ = _; rw [HX.out, nval_snoc_d h45, ← HN.out]
        clear h45 hdx hdd
        by_cases hg : (4611686018427387904 - (((s[k]'hp).toNat : Int) - 48)) / 10 < (N : Int)
        · have HBIG := Lib.hid (nval_big HNM.out hb1 hb2 hg)
          have e0 := E0.out
          clear E0
          go_wp2
          go_ret
          refine ⟨ret_i ?_, rfl⟩
          rw [HM.out, HBIG.out]; rfl
        · have hs1 : 10 * (N : Int) + (((s[k]'hp).toNat : Int) - 48) ≤ 4611686018427387904 := by omega
          go_wp2
          go_round
          case rel => exact ⟨k + 1, hp, by go_num, by rw [HNM.out]; apply congrArg; omega, by rw [HNM.out]; omega⟩
          case measure => simp [intOf]; omega
    · have hks : k = s.size := by omega
      have HV : Hid (N = M) := by
        show N = M
        rw [HM.out, HN.out, hks, take_all]
        rw [HN.out, hks, take_all] at hN
        exact (cap62_small hN).symm
      clear hks
      have e0 := E0.out
      clear E0
      go_wp2
      go_ret
      refine ⟨ret_i ?_, rfl⟩
      rw [HV.out]

set_option maxRecDepth 100000 in
set_option maxHeartbeats 4000000 in
theorem rnumber_pos (s : ByteArray) (h0 : 0 < s.size) (w : World) (hl : s.size ≤ 1048576) (hc : ¬ (s[0]'h0).toNat = 45) (hd : ∀ x ∈ s.data.toList, isD x = true ∨ x.toNat = 45) :
    Calls Try.prog 16 #[.string s] w fun e w' => e = .returned (.int .i64 ((cap62 (nval s.data.toList) : Int))) ∧ w = w' := by
  have e0 : (((s[0]'h0).toNat : Int) == 45) = false := by simp; omega
  have HD := Lib.hid hd
  clear hd hc
  have hcap := cap62_le (nval s.data.toList)
  unfold mst at hcap
  obtain ⟨M, hM⟩ : ∃ M, M = cap62 (nval s.data.toList) := ⟨_, rfl⟩
  rw [← hM] at hcap ⊢
  have HM := Lib.hid hM
  clear hM
  have E0 := Lib.hid e0
  clear e0
  go_enter Try.func16, Try.ntmps16
  go_wp2
  go_loop [3, 4] (fun n i => ∃ k : Nat, k ≤ s.size ∧ i = .int .i64 (k : Int) ∧ n = .int .i64 (nval (s.data.toList.take k) : Int) ∧ nval (s.data.toList.take k) ≤ 4611686018427387904) (fun _ i => s.size - (intOf i).toNat)
  case atStart => exact ⟨0, Nat.zero_le _, rfl, rfl, by show nval [] ≤ _; decide⟩
  case round =>
    obtain ⟨k, hk, rfl, rfl, hN⟩ := hrel
    obtain ⟨N, hNe⟩ : ∃ N, N = nval (s.data.toList.take k) := ⟨_, rfl⟩
    rw [← hNe] at hN ⊢
    have HN := Lib.hid hNe
    clear hNe
    by_cases hp : k < s.size
    · have hdx := HD.out _ (get_mem s k hp)
      have hx8 := (s[k]'hp).toNat_lt
      have HX : Hid (nval (s.data.toList.take (k + 1)) = nval (s.data.toList.take k ++ [s[k]'hp])) := by show _ = _; rw [get_take s k hp]
      by_cases h45 : (s[k]'hp).toNat = 45
      · have e45 : (((s[k]'hp).toNat : Int) == 45) = true := by rw [h45]; rfl
        have HNM := Lib.hid (nval_snoc_m (l := s.data.toList.take k) h45)
        clear h45 hdx
        go_wp2
        go_round
        case rel => exact ⟨k + 1, hp, by go_num, by rw [HX.out, HNM.out, ← HN.out], by rw [HX.out, HNM.out, ← HN.out]; exact hN⟩
        case measure => simp [intOf]; omega
      · have hdx : isD (s[k]'hp) = true := by rcases hdx with h | h; exact h; exact absurd h h45
        have hdd := isD_iff.1 hdx
        have e45 : (((s[k]'hp).toNat : Int) == 45) = false := by simp; omega
        have hb1 : 48 ≤ (s[k]'hp).toNat := by omega
        have hb2 : (s[k]'hp).toNat ≤ 57 := by omega
        have HNM : Hid (nval (s.data.toList.take (k + 1)) = 10 * N + ((s[k]'hp).toNat - 48)) := by show _ = _; rw [HX.out, nval_snoc_d h45, ← HN.out]
        clear h45 hdx hdd
        by_cases hg : (4611686018427387904 - (((s[k]'hp).toNat : Int) - 48)) / 10 < (N : Int)
        · have HBIG := Lib.hid (nval_big HNM.out hb1 hb2 hg)
          have e0 := E0.out
          clear E0
          go_wp2
          go_ret
          refine ⟨ret_i ?_, rfl⟩
          rw [HM.out, HBIG.out]; rfl
        · have hs1 : 10 * (N : Int) + (((s[k]'hp).toNat : Int) - 48) ≤ 4611686018427387904 := by omega
          go_wp2
          go_round
          case rel => exact ⟨k + 1, hp, by go_num, by rw [HNM.out]; apply congrArg; omega, by rw [HNM.out]; omega⟩
          case measure => simp [intOf]; omega
    · have hks : k = s.size := by omega
      have HV : Hid (N = M) := by
        show N = M
        rw [HM.out, HN.out, hks, take_all]
        rw [HN.out, hks, take_all] at hN
        exact (cap62_small hN).symm
      clear hks
      have e0 := E0.out
      clear E0
      go_wp2
      go_ret
      refine ⟨ret_i ?_, rfl⟩
      rw [HV.out]
end Go.Proofs.Ytlfcmlaffhcaiaa
