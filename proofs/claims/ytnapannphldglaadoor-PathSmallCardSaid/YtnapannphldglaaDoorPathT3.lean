/- gessoref11.Good by value. -/
import Derived.Test.YtnapannphldglaaDoorPathT1
import Derived.Test.YtnapannphldglaaDoorPathV
namespace Go.Proofs.YtnapannphldglaaDoor
open Go Go.RowKit

theorem used_tab : ∀ x ∈ ltT, x.f = 0 → used x.k = 2 * x.p := by decide
theorem used_letter {k : Int} {x : Lt} (h : letterK k = some x) : used k = 2 * x.p := by
  have hm := letterK_mem h
  unfold letterK at h
  have := List.find?_some h
  simp at this
  rw [← this.1]
  exact used_tab x hm this.2
theorem used_none {k : Int} (h : letterK k = none) : used k = -1 := by
  have : ∀ z : Int, (letterK z).isSome = true → ¬ k = z := fun z hz e => by subst e; rw [h] at hz; cases hz
  have h1 := this 1 (by decide)
  have h2 := this 2 (by decide)
  have h3 := this 3 (by decide)
  have h4 := this 4 (by decide)
  have h5 := this 5 (by decide)
  have h6 := this 6 (by decide)
  simp [used, h1, h2, h3, h4, h5, h6]
def farB (v : Int) : Bool := decide (2147483648 ≤ v) || decide (v ≤ -2147483648)
/-- What the reference finds wrong at a part's number j. -/
def refJ (s : Sg) (j : Nat) : Bool := farB (s.get j) || (decide (used s.k ≤ (j : Int)) && !decide (s.get j = 0))
theorem goodS_bad {s : Sg} {j : Nat} (hj : j < 6) (h : refJ s j = true) : goodS s = false := by
  cases hk : letterK s.k with
  | none => unfold goodS; rw [hk]
  | some x =>
    have hu := used_letter hk
    cases hg : goodS s with
    | false => rfl
    | true =>
      exfalso
      obtain ⟨h1, _⟩ := goodS_v hk hg
      have h2 := h1 j hj
      have h3 := isC_iff.1 h2.1
      unfold refJ farB at h
      simp at h
      rcases h with (h | h) | h
      · omega
      · omega
      · rcases h2.2 with q | q
        · exact h.2 q
        · omega
theorem goodS_used {s : Sg} (h : used s.k < 0) : goodS s = false := by
  cases hk : letterK s.k with
  | none => unfold goodS; rw [hk]
  | some x =>
    have := used_letter hk
    have := lt_pts x (letterK_mem hk)
    omega
theorem goodS_ok {s : Sg} (hu : ¬ used s.k < 0) (h : ∀ j, j < 6 → refJ s j = false) (hw : if s.k = 5 then isW s.w = true else s.w = 0) : goodS s = true := by
  cases hk : letterK s.k with
  | none => exact absurd (by rw [used_none hk]; decide) hu
  | some x =>
    have hul := used_letter hk
    unfold goodS
    rw [hk]
    simp only
    rw [Bool.and_eq_true]
    refine ⟨List.all_eq_true.2 fun j hj => ?_, ?_⟩
    · have h1 := h j (List.mem_range.1 hj)
      unfold refJ farB at h1
      simp at h1
      refine decide_eq_true ⟨isC_iff.2 (by omega), ?_⟩
      by_cases q : s.get j = 0
      · exact .inl q
      · right
        have := h1.2
        omega
    · by_cases h5 : s.k = 5
      · rw [if_pos h5] at hw ⊢; exact hw
      · rw [if_neg h5] at hw ⊢; exact decide_eq_true hw
theorem goodS_w {s : Sg} (hw : ¬ (if s.k = 5 then isW s.w = true else s.w = 0)) : goodS s = false := by
  cases hk : letterK s.k with
  | none => unfold goodS; rw [hk]
  | some x =>
    cases hg : goodS s with
    | false => rfl
    | true => exact absurd (goodS_v hk hg).2 hw
theorem sg_cell (s : Sg) {j : Nat} (hj : j < 6) : s.v[1 + j]? = some (.int .i64 (s.get j)) := by
  match j, hj with
  | 0, _ => rfl
  | 1, _ => rfl
  | 2, _ => rfl
  | 3, _ => rfl
  | 4, _ => rfl
  | 5, _ => rfl
set_option maxRecDepth 100000 in
set_option maxHeartbeats 4000000 in
theorem rgood_0 {w : World} {A : Option Addr} {c : Nat} : Calls Tryd.prog 9 #[.slice A 0 c] w fun e w' => e = .returned (.bool false) ∧ w = w' := by
  go_enter Tryd.func9, Tryd.ntmps9
  go_wp2
  go_ret
  exact ⟨rfl, rfl⟩
set_option maxRecDepth 100000 in
set_option maxHeartbeats 4000000 in
theorem rgood_far {w : World} {A : Option Addr} {n c : Nat} (hn : 4096 < n) : Calls Tryd.prog 9 #[.slice A n c] w fun e w' => e = .returned (.bool false) ∧ w = w' := by
  have h1 : ¬ (n : Int) = 0 := by omega
  have h2 : (4096 : Int) < (n : Int) := by omega
  go_enter Tryd.func9, Tryd.ntmps9
  go_wp2
  go_ret
  exact ⟨rfl, rfl⟩
set_option maxRecDepth 100000 in
set_option maxHeartbeats 4000000 in
theorem rgood_kind {w : World} {A : Option Addr} {n c : Nat} {l : List Sg} {s : Sg} (hv : SGV w A l) (hn : l.length = n) (hm : n ≤ 4096) (hs : l[0]? = some s) (hk : ¬ s.k = 1) : Calls Tryd.prog 9 #[.slice A n c] w fun e w' => e = .returned (.bool false) ∧ w = w' := by
  have hpos : 0 < n := by have := (List.getElem?_eq_some_iff.1 hs).1; omega
  have h1 : ¬ (n : Int) = 0 := by omega
  have h2 : ¬ (4096 : Int) < (n : Int) := by omega
  have h3 : (0 : Int) < (n : Int) := by omega
  obtain ⟨g, o, rfl, hg, c0, -⟩ := hv.at_ hs
  rw [Nat.zero_mul, Nat.add_zero] at c0
  have hk2 : (s.k != 1) = true := by simpa using hk
  clear hv hs hn hk
  go_enter Tryd.func9, Tryd.ntmps9
  go_wp2
  go_ret
  exact ⟨rfl, rfl⟩
set_option maxRecDepth 100000 in
set_option maxHeartbeats 8000000 in
theorem rgood_go {w : World} {A : Option Addr} {n c : Nat} {l : List Sg} {s : Sg} (hv : SGV w A l) (hn : l.length = n) (hm : n ≤ 4096) (hs : l[0]? = some s) (hk : s.k = 1) : Calls Tryd.prog 9 #[.slice A n c] w fun e w' => e = .returned (.bool (goodF 0 l)) ∧ w = w' := by
  have hpos : 0 < n := by have := (List.getElem?_eq_some_iff.1 hs).1; omega
  have h1 : ¬ (n : Int) = 0 := by omega
  have h2 : ¬ (4096 : Int) < (n : Int) := by omega
  have h3 : (0 : Int) < (n : Int) := by omega
  obtain ⟨g, o, rfl, hg, c0, -⟩ := hv.at_ hs
  rw [Nat.zero_mul, Nat.add_zero, hk] at c0
  have HCL : Hid (∀ i t f u, l[i]? = some t → t.v[f]? = some u → w.cell? ⟨g, o + i * 8 + f, none⟩ = some u) := by
    rcases hv with rfl | ⟨g', o', e, _, h⟩
    · cases hs
    · cases e; exact h
  have HV := Lib.hid hv
  have HN := Lib.hid hn
  have H0 : Hid (∀ t, l[0]? = some t → t.k = 1) := fun t ht => by rw [hs] at ht; cases ht; exact hk
  generalize hR : goodF 0 l = R
  have HR := Lib.hid hR
  clear hv hs hn hk hR
  go_enter Tryd.func9, Tryd.ntmps9
  go_wp2
  go_loopw [3] (fun i wr => ∃ k : Nat, k ≤ n ∧ i = .int .i64 (k : Int) ∧ goodF 0 (l.take k) = true ∧ w = wr) (fun i _ => n - (intOf i).toNat)
  case atStart => exact ⟨0, Nat.zero_le _, rfl, rfl, rfl⟩
  case round =>
    obtain ⟨k, hk, rfl, hf, rfl⟩ := hrel
    have HF := Lib.hid hf
    clear hf
    by_cases hlt : k < n
    · obtain ⟨t, ht⟩ : ∃ t, l[k]? = some t := ⟨_, List.getElem?_eq_getElem (by rw [HN.out]; exact hlt)⟩
      obtain ⟨g', o', ha, hg', d0, d1, d2, d3, d4, d5, d6, d7⟩ := HV.out.at_ ht
      cases ha
      have HT := Lib.hid ht
      clear ht d1 d2 d3 d4 d5 d6
      obtain ⟨u, hu⟩ : ∃ u, used t.k = u := ⟨_, rfl⟩
      have HU := Lib.hid hu
      by_cases hu0 : u < 0
      · have hRf : Hid (R = false) := by show _ = _; rw [← HR.out]; exact goodF_miss HT.out (by rw [goodS_used (by rw [hu]; exact hu0)]; rfl)
        clear hu
        go_wp2_with (go_at_call 12; (with_reducible refine (used11 _).mono ?_); rintro e w1 ⟨rfl, rfl⟩; rw [HU.out])
        go_ret
        exact ⟨by rw [hRf.out]; rfl, rfl⟩
      · clear hu
        by_cases h6 : t.k = 6
        · obtain ⟨j, rfl⟩ : ∃ j, k = j + 1 := ⟨k - 1, by
            rcases Nat.eq_zero_or_pos k with q | q
            · subst q
              have := H0.out t HT.out
              omega
            · omega⟩
          obtain ⟨p, hp⟩ : ∃ p, l[j]? = some p := ⟨_, List.getElem?_eq_getElem (by rw [HN.out]; omega)⟩
          have e0 := HCL.out j p 0 _ hp rfl
          rw [Nat.add_zero] at e0
          have HZ : Hid (lastKd (l.take (j + 1)) = p.k) := by
            obtain ⟨hl, he⟩ := List.getElem?_eq_some_iff.1 hp
            show lastKd _ = _
            rw [List.take_succ_eq_append_getElem hl, he]
            simp [lastKd]
          have hjn : j < n := by omega
          have hjs : ((j + 1 : Nat) : Int) - 1 = (j : Int) := by omega
          have H6 := Lib.hid h6
          clear hp
          by_cases hz6 : p.k = 6
          · have hRf : Hid (R = false) := by show _ = _; rw [← HR.out]; exact goodF_miss HT.out (by rw [HZ.out, h6, hz6]; simp)
            rw [hz6] at e0
            have HU6 := HU
            rw [h6] at d0 HU6
            clear h6 hz6
            go_wp2_with (go_at_call 12; (with_reducible refine (used11 _).mono ?_); rintro e w1 ⟨rfl, rfl⟩; rw [HU6.out])
            go_ret
            exact ⟨by rw [hRf.out]; rfl, rfl⟩
          · have HU6 := HU
            rw [h6] at d0 HU6
            have hzb : (p.k == 6) = false := by simpa using hz6
            clear h6
            go_wp2_with (go_at_call 12; (with_reducible refine (used11 _).mono ?_); rintro e w1 ⟨rfl, rfl⟩; rw [HU6.out])
            go_loopw [5] (fun jj wr => ∃ m : Nat, m ≤ 6 ∧ jj = .int .i64 (m : Int) ∧ Hid (∀ j, j < m → refJ t j = false) ∧ w = wr) (fun jj _ => 6 - (intOf jj).toNat)
            case atStart => exact ⟨0, Nat.zero_le _, rfl, fun j hj => absurd hj (Nat.not_lt_zero j), rfl⟩
            case round =>
              obtain ⟨m, hm6, rfl, HJ, rfl⟩ := hrel
              by_cases hlm : m < 6
              · have hlm' : (m : Int) < 6 := by omega
                have hcm : w.cell? ⟨g, o + (j + 1) * 8 + 1 + m, none⟩ = some (.int .i64 (t.get m)) := by
                  rw [Nat.add_assoc _ 1 m]; exact HCL.out (j + 1) t (1 + m) _ HT.out (sg_cell t hlm)
                cases hj : refJ t m with
                | true =>
                  have hRf : Hid (R = false) := by show _ = _; rw [← HR.out]; exact goodF_miss HT.out (by rw [goodS_bad hlm hj]; rfl)
                  have HJ1 := Lib.hid hj
                  have hj1 := hj
                  unfold refJ farB at hj1
                  clear hj
                  cases hfa : (decide (2147483648 ≤ t.get m) || decide (t.get m ≤ -2147483648)) with
                  | true =>
                    go_wp2_with (go_at_call 22; (with_reducible refine (far11 _).mono ?_); rintro e w1 ⟨rfl, rfl⟩; rw [hfa])
                    go_ret
                    exact ⟨by rw [hRf.out]; rfl, rfl⟩
                  | false =>
                    rw [hfa, Bool.false_or, Bool.and_eq_true] at hj1
                    have hu1 : u ≤ (m : Int) := by rw [← HU.out]; exact of_decide_eq_true hj1.1
                    have hz1 : ¬ t.get m = 0 := by simpa using hj1.2
                    clear hj1
                    go_wp2_with (go_at_call 22; (with_reducible refine (far11 _).mono ?_); rintro e w1 ⟨rfl, rfl⟩; rw [hfa])
                    go_ret
                    exact ⟨by rw [hRf.out]; rfl, rfl⟩
                | false =>
                  have HJ2 : Hid (∀ j, j < m + 1 → refJ t j = false) := fun j hj2 => by
                    rcases Nat.lt_or_ge j m with q | q
                    · exact HJ.out j q
                    · rw [show j = m by omega]; exact hj
                  have hj1 := hj
                  unfold refJ farB at hj1
                  rw [Bool.or_eq_false_iff] at hj1
                  obtain ⟨hfa, hj2⟩ := hj1
                  clear hj
                  by_cases hu1 : u ≤ (m : Int)
                  · have hz1 : t.get m = 0 := by
                      rw [HU.out, decide_eq_true hu1] at hj2
                      simpa using hj2
                    rw [hz1] at hcm
                    clear hj2
                    go_wp2_with (go_at_call 22; (with_reducible refine (far11 _).mono ?_); rintro e w1 ⟨rfl, rfl⟩; first | rw [hfa] | skip)
                    exact ⟨⟨m + 1, hlm, by go_num, HJ2, by trivial⟩, by simp [intOf]; omega⟩
                  · clear hj2
                    go_wp2_with (go_at_call 22; (with_reducible refine (far11 _).mono ?_); rintro e w1 ⟨rfl, rfl⟩; rw [hfa])
                    exact ⟨⟨m + 1, hlm, by go_num, HJ2, by trivial⟩, by simp [intOf]; omega⟩
              · have hlm' : ¬ (m : Int) < 6 := by omega
                have HA : Hid (∀ j, j < 6 → refJ t j = false) := fun j hj => HJ.out j (by omega)
                by_cases hw : (if t.k = 5 then isW t.w = true else t.w = 0)
                · have HIT := Lib.hid (goodF_hit HF.out HT.out (by rw [goodS_ok (by rw [HU.out]; omega) HA.out hw]; rw [HZ.out, decide_eq_false hz6, Bool.and_false]; rfl))
                  have h5 : ¬ t.k = 5 := by rw [H6.out]; decide
                  rw [if_neg h5] at hw
                  rw [hw] at d7
                  clear hw
                  go_wp2
                  exact ⟨⟨j + 1 + 1, hlt, by go_num, HIT.out.1, by trivial⟩, by simp [intOf]; omega⟩
                · have hRf : Hid (R = false) := by show _ = _; rw [← HR.out]; exact goodF_miss HT.out (by rw [goodS_w hw]; rfl)
                  have h5 : ¬ t.k = 5 := by rw [H6.out]; decide
                  rw [if_neg h5] at hw
                  have hwb : (t.w == 0) = false := by simpa using hw
                  have hwc : (t.w != 0) = true := by simpa using hw
                  go_wp2
                  go_ret
                  exact ⟨by rw [hRf.out]; rfl, rfl⟩
        · go_wp2_with (go_at_call 12; (with_reducible refine (used11 _).mono ?_); rintro e w1 ⟨rfl, rfl⟩; rw [HU.out])
          go_loopw [5] (fun j wr => ∃ m : Nat, m ≤ 6 ∧ j = .int .i64 (m : Int) ∧ Hid (∀ j, j < m → refJ t j = false) ∧ w = wr) (fun j _ => 6 - (intOf j).toNat)
          case atStart => exact ⟨0, Nat.zero_le _, rfl, fun j hj => absurd hj (Nat.not_lt_zero j), rfl⟩
          case round =>
            obtain ⟨m, hm6, rfl, HJ, rfl⟩ := hrel
            by_cases hlm : m < 6
            · have hlm' : (m : Int) < 6 := by omega
              have hcm : w.cell? ⟨g, o + k * 8 + 1 + m, none⟩ = some (.int .i64 (t.get m)) := by
                rw [Nat.add_assoc _ 1 m]; exact HCL.out k t (1 + m) _ HT.out (sg_cell t hlm)
              cases hj : refJ t m with
              | true =>
                have hRf : Hid (R = false) := by show _ = _; rw [← HR.out]; exact goodF_miss HT.out (by rw [goodS_bad hlm hj]; rfl)
                have HJ1 := Lib.hid hj
                have hj1 := hj
                unfold refJ farB at hj1
                clear hj
                cases hfa : (decide (2147483648 ≤ t.get m) || decide (t.get m ≤ -2147483648)) with
                | true =>
                  go_wp2_with (go_at_call 22; (with_reducible refine (far11 _).mono ?_); rintro e w1 ⟨rfl, rfl⟩; rw [hfa])
                  go_ret
                  exact ⟨by rw [hRf.out]; rfl, rfl⟩
                | false =>
                  rw [hfa, Bool.false_or, Bool.and_eq_true] at hj1
                  have hu1 : u ≤ (m : Int) := by rw [← HU.out]; exact of_decide_eq_true hj1.1
                  have hz1 : ¬ t.get m = 0 := by simpa using hj1.2
                  clear hj1
                  go_wp2_with (go_at_call 22; (with_reducible refine (far11 _).mono ?_); rintro e w1 ⟨rfl, rfl⟩; rw [hfa])
                  go_ret
                  exact ⟨by rw [hRf.out]; rfl, rfl⟩
              | false =>
                have HJ2 : Hid (∀ j, j < m + 1 → refJ t j = false) := fun j hj2 => by
                  rcases Nat.lt_or_ge j m with q | q
                  · exact HJ.out j q
                  · rw [show j = m by omega]; exact hj
                have hj1 := hj
                unfold refJ farB at hj1
                rw [Bool.or_eq_false_iff] at hj1
                obtain ⟨hfa, hj2⟩ := hj1
                clear hj
                by_cases hu1 : u ≤ (m : Int)
                · have hz1 : t.get m = 0 := by
                    rw [HU.out, decide_eq_true hu1] at hj2
                    simpa using hj2
                  rw [hz1] at hcm
                  clear hj2
                  go_wp2_with (go_at_call 22; (with_reducible refine (far11 _).mono ?_); rintro e w1 ⟨rfl, rfl⟩; first | rw [hfa] | skip)
                  exact ⟨⟨m + 1, hlm, by go_num, HJ2, by trivial⟩, by simp [intOf]; omega⟩
                · clear hj2
                  go_wp2_with (go_at_call 22; (with_reducible refine (far11 _).mono ?_); rintro e w1 ⟨rfl, rfl⟩; rw [hfa])
                  exact ⟨⟨m + 1, hlm, by go_num, HJ2, by trivial⟩, by simp [intOf]; omega⟩
            · have hlm' : ¬ (m : Int) < 6 := by omega
              have HA : Hid (∀ j, j < 6 → refJ t j = false) := fun j hj => HJ.out j (by omega)
              by_cases hw : (if t.k = 5 then isW t.w = true else t.w = 0)
              · have HIT := Lib.hid (goodF_hit HF.out HT.out (by rw [goodS_ok (by rw [HU.out]; omega) HA.out hw]; rw [decide_eq_false h6]; rfl))
                by_cases h5 : t.k = 5
                · rw [if_pos h5] at hw
                  have hw' := isW_iff.1 hw
                  rw [h5] at d0
                  clear hw h5
                  go_wp2
                  exact ⟨⟨k + 1, hlt, by go_num, HIT.out.1, by trivial⟩, by simp [intOf]; omega⟩
                · rw [if_neg h5] at hw
                  rw [hw] at d7
                  clear hw
                  go_wp2
                  exact ⟨⟨k + 1, hlt, by go_num, HIT.out.1, by trivial⟩, by simp [intOf]; omega⟩
              · have hRf : Hid (R = false) := by show _ = _; rw [← HR.out]; exact goodF_miss HT.out (by rw [goodS_w hw]; rfl)
                by_cases h5 : t.k = 5
                · rw [if_pos h5] at hw
                  have hw' : ¬ (1 ≤ t.w ∧ t.w ≤ 4096) := fun q => hw (isW_iff.2 q)
                  rw [h5] at d0
                  clear hw h5
                  by_cases hw1 : t.w < 1
                  · clear hw'
                    go_wp2
                    go_ret
                    exact ⟨by rw [hRf.out]; rfl, rfl⟩
                  · have hw2 : 4096 < t.w := by omega
                    clear hw'
                    go_wp2
                    go_ret
                    exact ⟨by rw [hRf.out]; rfl, rfl⟩
                · rw [if_neg h5] at hw
                  have hwb : (t.w == 0) = false := by simpa using hw
                  have hwc : (t.w != 0) = true := by simpa using hw
                  go_wp2
                  go_ret
                  exact ⟨by rw [hRf.out]; rfl, rfl⟩
    · have : k = n := by omega
      subst this
      have hR := HF.out
      rw [List.take_of_length_le (by rw [HN.out]; exact Nat.le_refl _)] at hR
      go_wp2
      go_ret
      exact ⟨by rw [← HR.out, hR]; rfl, rfl⟩
end Go.Proofs.YtnapannphldglaaDoor
