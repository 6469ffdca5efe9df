/- nat.timesAnd: a number times a limb and a limb, written over it. nat.powerOfTen, limbOf, isText. nat.Parse. -/
import Derived.Test.YtmcijgnbdnpanaaSums
import Derived.Test.YtmcijgnbdnpanaaBase
import Derived.WalkLawsBesides
import Derived.Lib.Strings
import Derived.Deep.RegionWith
namespace Go.Proofs.Ytmcijgnbdnpanaa
open Go.RowKit

theorem ta_step {l P : List Nat} {k x v y cc : Nat} (hP : P.length = k) (hx : l[k]? = some x) (h : val B64 P + B64 ^ k * y = val B64 (l.take k) * v + cc) :
    val B64 (P ++ [maLo x v y]) + B64 ^ (k + 1) * maHi x v y = val B64 (l.take (k + 1)) * v + cc := by
  have hp := ma_parts x v y
  rw [val_snoc, val_take_succ hx, hP, Nat.pow_succ]
  generalize maLo x v y = lo at *
  generalize maHi x v y = hi at *
  grind

end Go.Proofs.Ytmcijgnbdnpanaa
namespace Go.Proofs.Ytmcijgnbdnpanaa
open Go.RowKit

/-- 10 to the k. -/
def tenTo (k : Nat) : Nat := 10 ^ k
theorem tenTo_lt {k : Nat} (h : k ≤ 19) : tenTo k < B64 := Nat.lt_of_le_of_lt (Nat.pow_le_pow_right (by omega) h) (show 10 ^ 19 < B64 by decide)
theorem ten_le {k : Nat} (h : k ≤ 19) : 10 ^ k ≤ 10000000000000000000 := Nat.pow_le_pow_right (by omega) h

set_option maxRecDepth 100000 in
theorem powerOfTen_any (k : Nat) (w : World) (hk : k ≤ 19) :
    Calls Try.prog 91 #[.int .i64 (k : Int)] w fun e w' => e = .returned (.int .u64 (tenTo k : Nat)) ∧ w' = w := by
  go_enter Try.func91, Try.ntmps91
  go_wp2_with fail
  go_loop [3, 5] (fun p i => ∃ j t : Nat, j ≤ k ∧ Hid (t = 10 ^ j) ∧ i = .int .i64 j ∧ p = .int .u64 (t : Int)) (fun _ i => k - (intOf i).toNat)
  case atStart => exact ⟨0, 1, Nat.zero_le _, rfl, rfl, rfl⟩
  case round =>
    obtain ⟨j, t, hj, HT, rfl, rfl⟩ := hrel
    by_cases hlt : j < k
    · go_wp2_with fail
      go_round
      case rel =>
        refine ⟨j + 1, t * 10, by omega, ?_, by go_num, ?_⟩
        · show _ = _; rw [HT.out, Nat.pow_succ]
        · have h1 := ten_le (k := j + 1) (by omega)
          rw [Nat.pow_succ, ← HT.out] at h1
          have h2 := wrap_nat (t * 10)
          rw [Nat.mod_eq_of_lt (by rw [B64_eq]; omega)] at h2
          rw [← h2]
          rfl
      case measure => simp [intOf]; omega
    · obtain rfl : j = k := by omega
      go_wp2_with fail
      go_ret
      exact ⟨ret_int (by rw [HT.out]; rfl), rfl⟩

/-- The number that decimal digits come to. -/
def dec (l : List UInt8) : Nat := l.foldl (fun v c => 10 * v + (c.toNat - 48)) 0
theorem dec_snoc (l : List UInt8) (c : UInt8) : dec (l ++ [c]) = 10 * dec l + (c.toNat - 48) := by unfold dec; rw [List.foldl_append]; rfl
def Digit (c : UInt8) : Prop := 48 ≤ c.toNat ∧ c.toNat ≤ 57
def Digits (l : List UInt8) : Prop := ∀ c, c ∈ l → Digit c
theorem dec_lt {l : List UInt8} (h : Digits l) : dec l < 10 ^ l.length := by
  suffices ∀ (m : Nat) (l : List UInt8), l.length = m → Digits l → dec l < 10 ^ m from this _ l rfl h
  intro m
  induction m with
  | zero => intro l hl _; obtain rfl := List.eq_nil_of_length_eq_zero hl; decide
  | succ m ih =>
    intro l hl h
    have hne : l ≠ [] := by intro e; subst e; cases hl
    obtain ⟨a, c, rfl⟩ : ∃ a c, l = a ++ [c] := ⟨l.dropLast, l.getLast hne, (List.dropLast_concat_getLast hne).symm⟩
    have h1 := ih a (by simpa using hl) (fun x hx => h x (by simp [hx]))
    have h2 := h c (by simp)
    rw [dec_snoc, Nat.pow_succ]
    unfold Digit at h2
    omega
theorem dec_append (a b : List UInt8) : dec (a ++ b) = dec a * 10 ^ b.length + dec b := by
  suffices ∀ (m : Nat) (b : List UInt8), b.length = m → dec (a ++ b) = dec a * 10 ^ m + dec b from this _ b rfl
  intro m
  induction m with
  | zero => intro b hb; obtain rfl := List.eq_nil_of_length_eq_zero hb; simp [dec]
  | succ m ih =>
    intro b hb
    have hne : b ≠ [] := by intro e; subst e; cases hb
    obtain ⟨d, c, rfl⟩ : ∃ a c, b = a ++ [c] := ⟨b.dropLast, b.getLast hne, (List.dropLast_concat_getLast hne).symm⟩
    rw [← List.append_assoc, dec_snoc, dec_snoc, ih d (by simpa using hb), Nat.pow_succ]
    grind
theorem take_snoc8 (s : ByteArray) (k : Nat) (h : k < s.size) : s.data.toList.take (k + 1) = s.data.toList.take k ++ [s[k]] := by
  rw [List.take_succ_eq_append_getElem (by simpa using h)]; rfl

theorem digit_step {t c : Nat} (h : 10 * t + (c - 48) < 10000000000000000000) (h1 : 48 ≤ c) (h2 : c ≤ 57) :
    IntKind.u64.wrap (IntKind.u64.wrap (10 * (t : Int)) + ((c : Int) - 48) % 256) = ((10 * t + (c - 48) : Nat) : Int) := by
  simp only [IntKind.wrap_u64]
  omega

/-- Is it a number's text? -/
def isTextB (l : List UInt8) : Bool := !(l.isEmpty) && !(l.head? == some 48 && l != [48]) && l.all fun c => 48 ≤ c && c ≤ 57
theorem isTextB_digits {l : List UInt8} (h : isTextB l = true) : Digits l := by
  unfold isTextB at h
  intro c hc
  simp only [Bool.and_eq_true, List.all_eq_true] at h
  have := h.2 c hc
  simp only [decide_eq_true_eq, UInt8.le_iff_toNat_le] at this
  exact this

theorem isTextB_false {l : List UInt8} {c : UInt8} (h : c ∈ l) (hc : ¬ Digit c) : isTextB l = false := by
  cases e : isTextB l with
  | false => rfl
  | true => exact absurd (isTextB_digits e c h) hc
theorem isTextB_true {l : List UInt8} (h0 : l ≠ []) (h1 : l.head? ≠ some 48 ∨ l = [48]) (h : Digits l) : isTextB l = true := by
  unfold isTextB
  simp only [Bool.and_eq_true, Bool.not_eq_true', List.all_eq_true, decide_eq_true_eq, UInt8.le_iff_toNat_le]
  refine ⟨⟨by simpa using h0, ?_⟩, fun c hc => h c hc⟩
  rcases h1 with h1 | h1
  · simp [h1]
  · subst h1; rfl

end Go.Proofs.Ytmcijgnbdnpanaa
namespace Go.Proofs.Ytmcijgnbdnpanaa
open Go.RowKit

theorem limbs_of_full {l : List Nat} {n : Nat} (hL : Lim B64 l) (hl : l.length = n) (h : n = 0 ∨ B64 ^ (n - 1) ≤ val B64 l) : l = limbs B64 (val B64 l) := by
  obtain ⟨h1, h2⟩ := limbs_prefix B64_two hL
  have h3 : n ≤ (limbs B64 (val B64 l)).length := by
    rcases h with h | h
    · omega
    · rcases Nat.lt_or_ge (limbs B64 (val B64 l)).length n with h4 | h4
      · have := lt_pow_limbs B64_two (val B64 l)
        have h5 := Nat.pow_le_pow_right (n := B64) (by decide) (show (limbs B64 (val B64 l)).length ≤ n - 1 by omega)
        omega
      · exact h4
  have h4 : l.length - (limbs B64 (val B64 l)).length = 0 := by omega
  rw [h4, List.replicate_zero, List.append_nil] at h1
  exact h1

/-- The length of a string's value. -/
def sSize : Value → Nat
  | .string s => s.size
  | _ => 0

end Go.Proofs.Ytmcijgnbdnpanaa
