/- The document's own answers: Parse. -/
import Derived.Test.YtmcijgnbdnpanaaGreatRefT
namespace Go.Proofs.YtmcijgnbdnpanaaGreat
open Go.RowKit

theorem rof32_rn (v : Nat) (hv : v < B32) (w : World) : Calls Tryz.prog 71 #[.int .u64 (v : Int)] w (GivesR w v 1) :=
  (rof_any v (Nat.lt_trans hv (by decide)) w).mono fun _ _ g => g.r (by rw [Nat.pow_one]; exact hv)
theorem b32_pos (k : Nat) : 0 < B32 ^ k := Nat.pow_pos (by decide)
theorem lt_mul32 {x : Nat} (h : 0 < x) : x < x * B32 := by
  have := Nat.mul_le_mul_left x (show 2 ≤ B32 by decide)
  omega
theorem RN.zero (w : World) (k : Nat) : RN w none 0 0 0 k := RN.of (by rw [limbs_zero]; exact Rd.nil) (Nat.le_refl _) (b32_pos _)
theorem lt_succ32 {x j k : Nat} (h : x < B32 ^ k) (hj : j = k + 1) : x < B32 ^ j := by
  rw [hj, Nat.pow_succ]
  exact Nat.lt_trans h (lt_mul32 (b32_pos k))
theorem prod_fit32 {a p v j k : Nat} (h : a * p + v < B32 ^ k) (hj : j = k + 1) : a * p < B32 ^ j := Nat.lt_of_le_of_lt (Nat.le_add_right _ _) (lt_succ32 h hj)
theorem lt_64of32 {x j k : Nat} (h : x < B32 ^ j) (hj : j = 2 * k) : x < B64 ^ k := by rw [hj, b32_pow] at h; exact h
theorem dec_fit {l : List UInt8} (h : Digits l) (hl : l.length ≤ 20000) : dec l < B32 ^ 2500 := by
  refine Nat.lt_of_lt_of_le (dec_lt h) ?_
  have h0 : ∀ q, l.length ≤ 8 * q → 10 ^ l.length ≤ B32 ^ q := fun q hq => by
    rw [b32_two]
    refine Nat.le_trans (Nat.pow_le_pow_left (show 10 ≤ 2 ^ 4 by decide) _) ?_
    rw [← Nat.pow_mul]
    exact Nat.pow_le_pow_right (by decide) (by omega)
  exact h0 2500 (by omega)
theorem rparse_long (s : ByteArray) (w : World) (h : 20000 < s.size) (hm : s.size ≤ maxLen) :
    Calls Tryz.prog 106 #[.string s] w fun e w' => e = .returned (.tuple #[.slice none 0 0, .int .i64 2]) ∧ w = w' := by
  unfold maxLen at hm
  go_enter Tryz.func106, Tryz.ntmps106
  go_wp2_with fail
  go_ret2
  exact ⟨rfl, rfl⟩

/-- What Parse tells. -/
def RParsed (s : ByteArray) (w : World) (e : Ending) (w' : World) : Prop :=
  (isTextB s.data.toList = false ∧ e = .returned (.tuple #[.slice none 0 0, .int .i64 11]) ∧ w = w') ∨
  (isTextB s.data.toList = true ∧ ∃ A n c, e = .returned (.tuple #[.slice A n c, .int .i64 0]) ∧ RN w' A n c (dec s.data.toList) 2500 ∧ Below w.heap.size w w')

set_option maxRecDepth 100000 in
set_option maxHeartbeats 2000000 in
theorem rparse_any (s : ByteArray) (w : World) (hs : s.size ≤ 20000) : Calls Tryz.prog 106 #[.string s] w (RParsed s w) := by
  have hd := Lib.toList_data s
  have hz := Lib.size_eq s
  by_cases h0 : s.size = 0
  · have hl : s.data.toList = [] := List.eq_nil_of_length_eq_zero (by omega)
    have e1 : s.toList = [] := by rw [hd, hl]
    have e2 : s.toList.isEmpty = true := by rw [e1]; rfl
    have HF : Hid (isTextB s.data.toList = false) := by show _ = _; rw [hl]; rfl
    clear hd hz hl
    go_enter Tryz.func106, Tryz.ntmps106
    go_wp2_with fail
    go_ret2
    exact .inl ⟨HF.out, rfl, rfl⟩
  · have hp : 0 < s.size := by omega
    have hne : s.data.toList ≠ [] := by intro e; rw [e, List.length_nil] at hz; exact h0 hz
    have e1 : s.toList.isEmpty = false := by rw [hd]; simpa using hne
    have e1' : ¬ s.toList = [] := by rw [hd]; exact hne
    have hhead : s.data.toList.head? = some s[0] := by
      rw [List.head?_eq_getElem?, List.getElem?_eq_getElem (by rw [← hz]; exact hp)]; rfl
    by_cases hb : s[0].toNat = 48 ∧ 1 < s.size
    · have e2 : (s[0].toNat : Int) = 48 := by omega
      have e4 : ((s[0].toNat : Int) == 48) = true := by simpa using e2
      have e5 : (1 : Int) < (s.size : Int) := by omega
      have HF : Hid (isTextB s.data.toList = false) := by
        show _ = _
        have h48 : s[0] = 48 := UInt8.toNat_inj.1 (by simpa using hb.1)
        have hn48 : s.data.toList ≠ [48] := fun e => by rw [e] at hz; simp at hz; omega
        unfold isTextB
        rw [hhead, h48]
        simp [hn48]
      clear hd hz hb hhead hne
      go_enter Tryz.func106, Tryz.ntmps106
      go_wp2_with fail
      go_ret2
      exact .inl ⟨HF.out, rfl, rfl⟩
    · have HH : Hid (s.data.toList ≠ [] ∧ (s.data.toList.head? ≠ some 48 ∨ s.data.toList = [48])) := by
        refine ⟨hne, ?_⟩
        by_cases hc : s[0].toNat = 48
        · right
          have h1 : s.data.toList.length = 1 := by omega
          obtain ⟨x, hx⟩ := List.length_eq_one_iff.1 h1
          rw [hx] at hhead ⊢
          have : x = s[0] := by simpa using hhead
          rw [this, UInt8.toNat_inj.1 (show s[0].toNat = (48 : UInt8).toNat from hc)]
        · left
          rw [hhead]
          intro e; injection e with e; rw [e] at hc; exact hc rfl
      have HZ := Lib.hid hz
      have e3 : ((s[0].toNat : Int) == 48) = false ∨ ((s[0].toNat : Int) == 48) = true ∧ ¬ (1 : Int) < (s.size : Int) := by
        by_cases hc : s[0].toNat = 48
        · right; exact ⟨by simp; omega, by omega⟩
        · left; simp; omega
      clear hd hz hb hhead hne
      rcases e3 with e3 | ⟨e3, e4⟩
      all_goals
        go_enter Tryz.func106, Tryz.ntmps106
        go_wp2_with fail
      all_goals
        clear e1 e1'
        go_loop [5] (fun i => ∃ j : Nat, j ≤ s.size ∧ i = .int .i64 j ∧ Hid (Digits (s.data.toList.take j))) (fun i => s.size - (intOf i).toNat)
        case atStart => exact ⟨0, Nat.zero_le _, rfl, fun c hc => by simp at hc⟩
        case round =>
          obtain ⟨j, hj, rfl, HD⟩ := hrel
          by_cases hlt : j < s.size
          · have hmem : Hid (s[j] ∈ s.data.toList) := by
              show _ ∈ _
              exact List.mem_of_getElem? (i := j) (by rw [List.getElem?_eq_getElem (by rw [← HZ.out]; exact hlt)]; rfl)
            by_cases h1 : (s[j].toNat : Int) < 48
            · go_wp2_with fail
              go_ret2
              exact .inl ⟨isTextB_false hmem.out (by unfold Digit; omega), rfl, rfl⟩
            · by_cases h2 : (57 : Int) < (s[j].toNat : Int)
              · go_wp2_with fail
                go_ret2
                exact .inl ⟨isTextB_false hmem.out (by unfold Digit; omega), rfl, rfl⟩
              · go_wp2_with fail
                go_round
                case rel =>
                  refine ⟨j + 1, by omega, by go_num, ?_⟩
                  show Digits _
                  rw [take_snoc8 s j hlt]
                  intro c hc
                  rcases List.mem_append.1 hc with hc | hc
                  · exact HD.out c hc
                  · rw [List.mem_singleton] at hc; subst hc; unfold Digit; omega
                case measure => simp [intOf]; omega
          · obtain rfl : j = s.size := by omega
            have hD := HD.out
            rw [List.take_of_length_le (by rw [← HZ.out]; exact Nat.le_refl _)] at hD
            have HDD := Lib.hid hD
            have HT : Hid (isTextB s.data.toList = true) := isTextB_true HH.out.1 HH.out.2 hD
            clear hD
            go_wp2_with fail
            go_loopw [4, 6] (fun ta ti wr => ∃ (i : Nat) (A : Option Addr) (n c : Nat), ti = .int .i64 (i : Int) ∧ ta = .slice A n c ∧ RN wr A n c (dec (s.data.toList.take i)) 2500 ∧ Below w.heap.size w wr ∧ i ≤ 20020) (fun _ ti _ => 20020 - (intOf ti).toNat)
            case atStart => exact ⟨0, none, 0, 0, rfl, rfl, RN.zero w 2500, Below.refl _ _, by omega⟩
            case round =>
              obtain ⟨i, A, n, c, rfl, rfl, X, hbw, hi⟩ := hrel
              by_cases hil : i < s.size
              · obtain ⟨E, hE⟩ : ∃ E, E = min (i + 9) s.size := ⟨_, rfl⟩
                have hEI : min ((i : Int) + 9) (s.size : Int) = (E : Int) := by omega
                have hE1 : E ≤ s.size := by omega
                have hE2 : E ≤ i + 9 := by omega
                have hE3 : i ≤ E := by omega
                have HE : Hid (s.data.toList.take (i + 9) = s.data.toList.take E) := by
                  show _ = _
                  rcases Nat.le_total (i + 9) s.size with h | h
                  · rw [show E = i + 9 by omega]
                  · rw [show E = s.size by omega, HZ.out, List.take_of_length_le (by have := HZ.out; omega), List.take_of_length_le (Nat.le_refl _)]
                have HJ : Hid (∀ L, i + L ≤ s.size → dec (s.data.toList.take (i + L)) = dec (s.data.toList.take i) * 10 ^ L + dec ((s.data.toList.drop i).take L) ∧ dec ((s.data.toList.drop i).take L) < 10 ^ L) := fun L hL => by
                  have hz := HZ.out
                  have hl : ((s.data.toList.drop i).take L).length = L := by rw [List.length_take, List.length_drop]; omega
                  refine ⟨?_, ?_⟩
                  · rw [List.take_add, dec_append, hl]
                  · have := dec_lt (l := (s.data.toList.drop i).take L) (fun c hc => HDD.out c (List.mem_of_mem_drop (List.mem_of_mem_take hc)))
                    rw [hl] at this; exact this
                clear hE
                go_wp2_with fail
                go_loop [7, 8, 9] (fun tp tv tk => ∃ k P v : Nat, i ≤ k ∧ k ≤ E ∧ tk = .int .i64 (k : Int) ∧ tp = .int .u64 (P : Int) ∧ tv = .int .u64 (v : Int) ∧ P ≤ 1000000000 ∧ v < 1000000000 ∧ Hid (P = 10 ^ (k - i) ∧ v = dec ((s.data.toList.drop i).take (k - i)))) (fun _ _ tk => 20020 - (intOf tk).toNat)
                case atStart => exact ⟨i, 1, 0, Nat.le_refl _, hE3, rfl, rfl, rfl, by omega, by omega, by rw [Nat.sub_self], by rw [Nat.sub_self]; rfl⟩
                case round =>
                  obtain ⟨k, P, v, hk1, hk2, rfl, rfl, rfl, hP, hv, HI⟩ := hrel
                  by_cases hkE : k < E
                  · have hks : k < s.size := by omega
                    have hdg := HDD.out s[k] (List.mem_of_getElem? (i := k) (by rw [List.getElem?_eq_getElem (by rw [← HZ.out]; exact hks)]; rfl))
                    unfold Digit at hdg
                    obtain ⟨x, hx⟩ : ∃ x, x = s[k].toNat - 48 := ⟨_, rfl⟩
                    have hxI : (s[k].toNat : Int) - 48 = (x : Int) := by omega
                    have hx9 : x ≤ 9 := by omega
                    have HX : Hid (dec ((s.data.toList.drop i).take (k + 1 - i)) = v * 10 + x) := by
                      show _ = _
                      have hz := HZ.out
                      have hl : k - i < (s.data.toList.drop i).length := by rw [List.length_drop]; omega
                      rw [show k + 1 - i = (k - i) + 1 by omega, List.take_succ_eq_append_getElem hl, dec_snoc, ← HI.out.2, List.getElem_drop, hx]
                      have e : s.data.toList[i + (k - i)]'(by omega) = s[k] := by
                        have : i + (k - i) = k := by omega
                        simp only [this]; rfl
                      rw [e]; omega
                    have HL9 : Hid (10 ^ (k + 1 - i) = P * 10 ∧ P * 10 ≤ 1000000000 ∧ v * 10 + x < 1000000000) := by
                      have h1 := (HJ.out (k + 1 - i) (by omega)).2
                      rw [HX.out] at h1
                      have h2 : 10 ^ (k + 1 - i) ≤ 10 ^ 9 := Nat.pow_le_pow_right (by decide) (by omega)
                      have h3 : 10 ^ (k + 1 - i) = P * 10 := by rw [show k + 1 - i = (k - i) + 1 by omega, Nat.pow_succ, ← HI.out.1]
                      exact ⟨h3, by omega, by omega⟩
                    clear hx hdg
                    go_wp2_with fail
                    go_round
                    case rel => exact ⟨k + 1, P * 10, v * 10 + x, by omega, by omega, by go_num, by go_num, by go_num, HL9.out.2.1, HL9.out.2.2, HL9.out.1.symm, HX.out.symm⟩
                    case measure => simp [intOf]; omega
                  · obtain rfl : k = E := by omega
                    have hj := HJ.out (k - i) (by omega)
                    rw [show i + (k - i) = k by omega, ← HI.out.1, ← HI.out.2] at hj
                    have HS := Lib.hid hj.1
                    have hf := dec_fit (l := s.data.toList.take k) (fun c hc => HDD.out c (List.mem_of_mem_take hc)) (by rw [List.length_take]; omega)
                    rw [hj.1] at hf
                    have HF := Lib.hid hf
                    have hf2 := prod_fit32 (j := 2501) hf rfl
                    have HF2 := Lib.hid hf2
                    have hP32 : P < B32 := by unfold B32; omega
                    have hv32 : v < B32 := by unfold B32; omega
                    clear hj hf hf2
                    go_wp2_with (first
                      | (go_at_call 71; (with_reducible refine (rof32_rn P hP32 _).mono ?_); rintro e w2 ⟨A2, n2, c2, rfl, x2, b2⟩
                         replace X := X.below b2
                         replace hbw := bend hbw b2)
                      | (go_at_call 79; (with_reducible refine (rmul_rn 2501 X x2 (by omega) (by omega) HF2.out).mono ?_); rintro e w3 ⟨A3, n3, c3, rfl, x3, b3⟩
                         replace hbw := bend hbw b3)
                      | (go_at_call 71; (with_reducible refine (rof32_rn v hv32 _).mono ?_); rintro e w4 ⟨A4, n4, c4, rfl, x4, b4⟩
                         replace x3 := x3.below b4
                         replace hbw := bend hbw b4)
                      | (go_at_call 130; (with_reducible refine (radd_rn 2500 x3 x4 (by omega) (by omega) HF.out).mono ?_); rintro e w5 ⟨A5, n5, c5, rfl, x5, b5⟩
                         replace hbw := bend hbw b5))
                    go_roundw
                    case rel => exact ⟨i + 9, A5, n5, c5, by go_num, rfl, by rw [HE.out, HS.out]; exact x5, hbw, by omega⟩
                    case measure => simp [intOf]; omega
              · go_wp2_with fail
                go_ret2
                rw [List.take_of_length_le (by have := HZ.out; omega)] at X
                exact .inr ⟨HT.out, A, n, c, rfl, X, hbw⟩
theorem rparse_no (s : ByteArray) (w : World) (hs : s.size ≤ 20000) (ht : isTextB s.data.toList = false) :
    Calls Tryz.prog 106 #[.string s] w fun e w' => e = .returned (.tuple #[.slice none 0 0, .int .i64 11]) ∧ w = w' := by
  refine (rparse_any s w hs).mono ?_
  rintro e w' (⟨_, h⟩ | ⟨h, _⟩)
  · exact h
  · rw [ht] at h; cases h
theorem rparse_yes (s : ByteArray) (w : World) (hs : s.size ≤ 20000) (ht : isTextB s.data.toList = true) :
    Calls Tryz.prog 106 #[.string s] w fun e w' => ∃ A n c, e = .returned (.tuple #[.slice A n c, .int .i64 0]) ∧ RN w' A n c (dec s.data.toList) 2500 ∧ Below w.heap.size w w' := by
  refine (rparse_any s w hs).mono ?_
  rintro e w' (⟨h, _⟩ | ⟨_, h⟩)
  · rw [ht] at h; cases h
  · exact h
theorem parse_nr (s : ByteArray) (w : World) (hs : s.size ≤ 20000) (ht : isTextB s.data.toList = true) :
    Calls Tryz.prog 104 #[.string s] w fun e w' => ∃ A n c, e = .returned (.tuple #[.slice A n c, .int .i64 0]) ∧ NG w' A n c (dec s.data.toList) 1250 ∧ Below w.heap.size w w' := by
  have h := dec_fit (isTextB_digits ht) (by rw [← Lib.size_eq s]; exact hs)
  have h9 := lt_64of32 (k := 1250) h rfl
  exact (parse_ok s w hs ht).mono fun e w' g => g.ng h9

end Go.Proofs.YtmcijgnbdnpanaaGreat
