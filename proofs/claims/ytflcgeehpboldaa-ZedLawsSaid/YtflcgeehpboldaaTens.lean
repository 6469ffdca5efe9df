/- nat.powerOfTen, limbOf, isText. -/
import Derived.Test.YtflcgeehpboldaaCmp
import Derived.Test.YtflcgeehpboldaaWord
import Derived.WalkLawsBesides
import Derived.Lib.Strings
namespace Go.Proofs.Ytflcgeehpboldaa
open Go.RowKit

/-- 10 to the k. -/
def tenTo (k : Nat) : Nat := 10 ^ k
theorem tenTo_lt {k : Nat} (h : k ≤ 19) : tenTo k < B64 := Nat.lt_of_le_of_lt (Nat.pow_le_pow_right (by omega) h) (show 10 ^ 19 < B64 by decide)
theorem ten_le {k : Nat} (h : k ≤ 19) : 10 ^ k ≤ 10000000000000000000 := Nat.pow_le_pow_right (by omega) h

set_option maxRecDepth 100000 in
theorem powerOfTen_any (k : Nat) (w : World) (hk : k ≤ 19) :
    Calls Try.prog 82 #[.int .i64 (k : Int)] w fun e w' => e = .returned (.int .u64 (tenTo k : Nat)) ∧ w' = w := by
  go_enter Try.func82, Try.ntmps82
  go_wp2_with fail
  go_loop [3, 5] (fun p i => ∃ j t : Nat, j ≤ k ∧ Hid (t = 10 ^ j) ∧ i = .int .i64 j ∧ p = .int .u64 (t : Int)) (fun _ i => k - (intOf i).toNat)
  case atStart => exact ⟨0, 1, Nat.zero_le _, rfl, rfl, rfl⟩
  case round =>
    obtain ⟨j, t, hj, HT, rfl, rfl⟩ := hrel
    by_cases hlt : j < k
    · go_wp2_with fail
      go_round
      case rel =>
        refine ⟨j + 1, t * 10, by omega, ?_, by go_num, ?_⟩
        · show _ = _; rw [HT.out, Nat.pow_succ]
        · have h1 := ten_le (k := j + 1) (by omega)
          rw [Nat.pow_succ, ← HT.out] at h1
          have h2 := wrap_nat (t * 10)
          rw [Nat.mod_eq_of_lt (by rw [B64_eq]; omega)] at h2
          rw [← h2]
          rfl
      case measure => simp [intOf]; omega
    · obtain rfl : j = k := by omega
      go_wp2_with fail
      go_ret
      exact ⟨ret_int (by rw [HT.out]; rfl), rfl⟩

/-- The number that decimal digits come to. -/
def dec (l : List UInt8) : Nat := l.foldl (fun v c => 10 * v + (c.toNat - 48)) 0
theorem dec_snoc (l : List UInt8) (c : UInt8) : dec (l ++ [c]) = 10 * dec l + (c.toNat - 48) := by unfold dec; rw [List.foldl_append]; rfl
def Digit (c : UInt8) : Prop := 48 ≤ c.toNat ∧ c.toNat ≤ 57
def Digits (l : List UInt8) : Prop := ∀ c, c ∈ l → Digit c
theorem dec_lt {l : List UInt8} (h : Digits l) : dec l < 10 ^ l.length := by
  suffices ∀ (m : Nat) (l : List UInt8), l.length = m → Digits l → dec l < 10 ^ m from this _ l rfl h
  intro m
  induction m with
  | zero => intro l hl _; obtain rfl := List.eq_nil_of_length_eq_zero hl; decide
  | succ m ih =>
    intro l hl h
    have hne : l ≠ [] := by intro e; subst e; cases hl
    obtain ⟨a, c, rfl⟩ : ∃ a c, l = a ++ [c] := ⟨l.dropLast, l.getLast hne, (List.dropLast_concat_getLast hne).symm⟩
    have h1 := ih a (by simpa using hl) (fun x hx => h x (by simp [hx]))
    have h2 := h c (by simp)
    rw [dec_snoc, Nat.pow_succ]
    unfold Digit at h2
    omega
theorem dec_append (a b : List UInt8) : dec (a ++ b) = dec a * 10 ^ b.length + dec b := by
  suffices ∀ (m : Nat) (b : List UInt8), b.length = m → dec (a ++ b) = dec a * 10 ^ m + dec b from this _ b rfl
  intro m
  induction m with
  | zero => intro b hb; obtain rfl := List.eq_nil_of_length_eq_zero hb; simp [dec]
  | succ m ih =>
    intro b hb
    have hne : b ≠ [] := by intro e; subst e; cases hb
    obtain ⟨d, c, rfl⟩ : ∃ a c, b = a ++ [c] := ⟨b.dropLast, b.getLast hne, (List.dropLast_concat_getLast hne).symm⟩
    rw [← List.append_assoc, dec_snoc, dec_snoc, ih d (by simpa using hb), Nat.pow_succ]
    grind
theorem take_snoc8 (s : ByteArray) (k : Nat) (h : k < s.size) : s.data.toList.take (k + 1) = s.data.toList.take k ++ [s[k]] := by
  rw [List.take_succ_eq_append_getElem (by simpa using h)]; rfl

theorem digit_step {t c : Nat} (h : 10 * t + (c - 48) < 10000000000000000000) (h1 : 48 ≤ c) (h2 : c ≤ 57) :
    IntKind.u64.wrap (IntKind.u64.wrap (10 * (t : Int)) + ((c : Int) - 48) % 256) = ((10 * t + (c - 48) : Nat) : Int) := by
  simp only [IntKind.wrap_u64]
  omega

set_option maxRecDepth 100000 in
set_option maxHeartbeats 1000000 in
theorem limbOf_any (s : ByteArray) (w : World) (hs : s.size ≤ 19) (hd : Digits s.data.toList) :
    Calls Try.prog 83 #[.string s] w fun e w' => e = .returned (.int .u64 (dec s.data.toList : Nat)) ∧ w' = w := by
  have HD := Lib.hid hd
  clear hd
  go_enter Try.func83, Try.ntmps83
  go_wp2_with fail
  go_loop [3, 7] (fun p i => ∃ j t : Nat, j ≤ s.size ∧ Hid (t = dec (s.data.toList.take j)) ∧ i = .int .i64 j ∧ p = .int .u64 (t : Int)) (fun _ i => s.size - (intOf i).toNat)
  case atStart => exact ⟨0, 0, Nat.zero_le _, rfl, rfl, rfl⟩
  case round =>
    obtain ⟨j, t, hj, HT, rfl, rfl⟩ := hrel
    by_cases hlt : j < s.size
    · go_wp2_with fail
      go_round
      case rel =>
        have hts := take_snoc8 s j hlt
        have hdg : Digits (s.data.toList.take (j + 1)) := fun c hc => HD.out c (List.mem_of_mem_take hc)
        have hc : Digit s[j] := by rw [hts] at hdg; exact hdg _ (by simp)
        have hlen : (s.data.toList.take (j + 1)).length = j + 1 := by rw [List.length_take]; simp; omega
        have hlt2 := dec_lt hdg
        rw [hlen] at hlt2
        have h1 := ten_le (k := j + 1) (by omega)
        unfold Digit at hc
        rw [hts, dec_snoc, ← HT.out] at hlt2
        refine ⟨j + 1, 10 * t + (s[j].toNat - 48), by omega, ?_, by go_num, ?_⟩
        · show _ = _; rw [hts, dec_snoc, HT.out]
        · exact congrArg _ (digit_step (by omega) hc.1 hc.2)
      case measure => simp [intOf]; omega
    · obtain rfl : j = s.size := by omega
      go_wp2_with fail
      go_ret
      exact ⟨ret_int (by rw [HT.out, List.take_of_length_le (by simp)]), rfl⟩

/-- Is it a number's text? -/
def isTextB (l : List UInt8) : Bool := !(l.isEmpty) && !(l.head? == some 48 && l != [48]) && l.all fun c => 48 ≤ c && c ≤ 57
theorem isTextB_digits {l : List UInt8} (h : isTextB l = true) : Digits l := by
  unfold isTextB at h
  intro c hc
  simp only [Bool.and_eq_true, List.all_eq_true] at h
  have := h.2 c hc
  simp only [decide_eq_true_eq, UInt8.le_iff_toNat_le] at this
  exact this

theorem isTextB_false {l : List UInt8} {c : UInt8} (h : c ∈ l) (hc : ¬ Digit c) : isTextB l = false := by
  cases e : isTextB l with
  | false => rfl
  | true => exact absurd (isTextB_digits e c h) hc
theorem isTextB_true {l : List UInt8} (h0 : l ≠ []) (h1 : l.head? ≠ some 48 ∨ l = [48]) (h : Digits l) : isTextB l = true := by
  unfold isTextB
  simp only [Bool.and_eq_true, Bool.not_eq_true', List.all_eq_true, decide_eq_true_eq, UInt8.le_iff_toNat_le]
  refine ⟨⟨by simpa using h0, ?_⟩, fun c hc => h c hc⟩
  rcases h1 with h1 | h1
  · simp [h1]
  · subst h1; rfl

set_option maxRecDepth 100000 in
set_option maxHeartbeats 1000000 in
theorem isText_any (s : ByteArray) (w : World) (hs : s.size ≤ 20000) :
    Calls Try.prog 80 #[.string s] w fun e w' => e = .returned (.bool (isTextB s.data.toList)) ∧ w' = w := by
  have hd := Lib.toList_data s
  have hz := Lib.size_eq s
  by_cases h0 : s.size = 0
  · have hl : s.data.toList = [] := List.eq_nil_of_length_eq_zero (by omega)
    have e1 : s.toList = [] := by rw [hd, hl]
    have e2 : s.toList.isEmpty = true := by rw [e1]; rfl
    rw [hl]
    clear hd hz hl
    go_enter Try.func80, Try.ntmps80
    go_wp2_with fail
    go_ret
    exact ⟨rfl, rfl⟩
  · have hp : 0 < s.size := by omega
    have hne : s.data.toList ≠ [] := by intro e; rw [e, List.length_nil] at hz; exact h0 hz
    have e1 : s.toList.isEmpty = false := by rw [hd]; simpa using hne
    have e1' : ¬ s.toList = [] := by rw [hd]; exact hne
    have hhead : s.data.toList.head? = some s[0] := by
      rw [List.head?_eq_getElem?, List.getElem?_eq_getElem (by rw [← hz]; exact hp)]; rfl
    by_cases hb : s[0].toNat = 48 ∧ s.data.toList ≠ [48]
    · have e2 : (s[0].toNat : Int) = 48 := by omega
      have e3 : (s.toList == [48]) = false := by rw [hd]; simpa using hb.2
      have e4 : ((s[0].toNat : Int) == 48) = true := by simpa using e2
      have HF : Hid (isTextB s.data.toList = false) := by
        show _ = _
        have h48 : s[0] = 48 := UInt8.toNat_inj.1 (by simpa using hb.1)
        unfold isTextB
        rw [hhead, h48]
        simp [hb.2]
      clear hd hz hb hhead hne
      go_enter Try.func80, Try.ntmps80
      go_wp2_with fail
      go_ret
      exact ⟨ret_bool (by rw [HF.out]), rfl⟩
    · have HH : Hid (s.data.toList ≠ [] ∧ (s.data.toList.head? ≠ some 48 ∨ s.data.toList = [48])) := by
        refine ⟨hne, ?_⟩
        by_cases hc : s[0].toNat = 48
        · right
          rcases Classical.em (s.data.toList = [48]) with h | h
          · exact h
          · exact absurd ⟨hc, h⟩ hb
        · left
          rw [hhead]
          intro e; injection e with e; rw [e] at hc; exact hc rfl
      have HZ := Lib.hid hz
      by_cases hc : s[0].toNat = 48
      all_goals
        have e3 : ((s[0].toNat : Int) == 48) = true ∧ (s.toList == [48]) = true ∨ ((s[0].toNat : Int) == 48) = false := by
          first
            | (right; simp; omega)
            | (left; refine ⟨by simp; omega, ?_⟩
               rcases Classical.em (s.data.toList = [48]) with h | h
               · rw [hd, h]; rfl
               · exact absurd ⟨hc, h⟩ hb)
        have e5 : (s[0].toNat : Int) = 48 ∨ ¬ (s[0].toNat : Int) = 48 := Classical.em _
        clear hd hz hb hhead hne hc
        rcases e3 with ⟨e3, e4⟩ | e3
        all_goals
          go_enter Try.func80, Try.ntmps80
          go_wp2_with fail
      all_goals
        clear e1 e1' e5
        go_loop [3, 17] (fun u i => ∃ j : Nat, j ≤ s.size ∧ i = .int .i64 j ∧ Hid (Digits (s.data.toList.take j))) (fun _ i => s.size - (intOf i).toNat)
        case atStart => exact ⟨0, Nat.zero_le _, rfl, fun c hc => by simp at hc⟩
        case round =>
          obtain ⟨j, hj, rfl, HD⟩ := hrel
          by_cases hlt : j < s.size
          · have hmem : Hid (s[j] ∈ s.data.toList) := by
              show _ ∈ _
              exact List.mem_of_getElem? (i := j) (by rw [List.getElem?_eq_getElem (by rw [← HZ.out]; exact hlt)]; rfl)
            by_cases h1 : (s[j].toNat : Int) < 48
            · go_wp2_with fail
              go_ret
              exact ⟨ret_bool (isTextB_false hmem.out (by unfold Digit; omega)).symm, rfl⟩
            · by_cases h2 : (57 : Int) < (s[j].toNat : Int)
              · go_wp2_with fail
                go_ret
                exact ⟨ret_bool (isTextB_false hmem.out (by unfold Digit; omega)).symm, rfl⟩
              · go_wp2_with fail
                go_round
                case rel =>
                  refine ⟨j + 1, by omega, by go_num, ?_⟩
                  show Digits _
                  rw [take_snoc8 s j hlt]
                  intro c hc
                  rcases List.mem_append.1 hc with hc | hc
                  · exact HD.out c hc
                  · rw [List.mem_singleton] at hc; subst hc; unfold Digit; omega
                case measure => simp [intOf]; omega
          · obtain rfl : j = s.size := by omega
            go_wp2_with fail
            go_ret
            have hD := HD.out
            rw [List.take_of_length_le (by rw [← HZ.out]; exact Nat.le_refl _)] at hD
            exact ⟨ret_bool (isTextB_true HH.out.1 HH.out.2 hD).symm, rfl⟩
end Go.Proofs.Ytflcgeehpboldaa
