/- cmp.Compare at uint64, nat.Cmp: which of two numbers is less. -/
import Derived.Test.YtflcgeehpboldaaSmall
import Derived.Test.YtflcgeehpboldaaShelf
namespace Go.Proofs.Ytflcgeehpboldaa
open Go.RowKit

/-- -1, 0, 1: a is below b, is b, is above it. -/
def cmpN (a b : Nat) : Int := if a < b then -1 else if b < a then 1 else 0
theorem cmpN_lt {a b : Nat} (h : a < b) : cmpN a b = -1 := by rw [cmpN, if_pos h]
theorem cmpN_gt {a b : Nat} (h : b < a) : cmpN a b = 1 := by rw [cmpN, if_neg (by omega), if_pos h]
theorem cmpN_eq {a b : Nat} (h : a = b) : cmpN a b = 0 := by rw [cmpN, if_neg (by omega), if_neg (by omega)]
theorem compareInt_cmpN (a b : Nat) : Lib.compareInt (a : Int) (b : Int) = cmpN a b := by
  unfold Lib.compareInt cmpN
  by_cases h : a < b
  · rw [if_pos (by omega), if_pos h]
  · rw [if_neg (by omega), if_neg h]
    by_cases h2 : b < a
    · rw [if_pos (by omega), if_pos h2]
    · rw [if_neg (by omega), if_neg h2]

/-- The limb at which two numbers of one length differ first, from the highest one down, tells which is less. -/
theorem val_lt_of {B : Nat} {a b : List Nat} (ha : Lim B a) (hl : a.length = b.length) {i x y : Nat} (hx : a[i]? = some x) (hy : b[i]? = some y) (hxy : x < y)
    (he : ∀ j, i < j → a[j]? = b[j]?) : val B a < val B b := by
  have hia : i < a.length := (List.getElem?_eq_some_iff.1 hx).1
  have hib : i < b.length := by omega
  have ea := val_take_drop (B := B) a i (by omega)
  have eb := val_take_drop (B := B) b i (by omega)
  have da : a.drop i = x :: a.drop (i + 1) := by
    rw [List.drop_eq_getElem_cons hia]; congr 1
    exact (List.getElem?_eq_some_iff.1 hx).2
  have db : b.drop i = y :: b.drop (i + 1) := by
    rw [List.drop_eq_getElem_cons hib]; congr 1
    exact (List.getElem?_eq_some_iff.1 hy).2
  have e1 : a.drop (i + 1) = b.drop (i + 1) := by
    apply List.ext_getElem?
    intro j
    rw [List.getElem?_drop, List.getElem?_drop]
    exact he _ (by omega)
  rw [da, val_cons] at ea
  rw [db, val_cons, ← e1] at eb
  have ht := val_lt (ha.take i)
  rw [List.length_take, Nat.min_eq_left (by omega)] at ht
  rw [ea, eb]
  have : B ^ i * (x + B * val B (a.drop (i + 1))) + B ^ i ≤ B ^ i * (y + B * val B (a.drop (i + 1))) := by
    rw [show B ^ i * (x + B * val B (a.drop (i + 1))) + B ^ i = B ^ i * (x + B * val B (a.drop (i + 1)) + 1) by rw [Nat.mul_add (B ^ i) _ 1]; omega]
    exact Nat.mul_le_mul_left _ (by omega)
  omega

set_option maxHeartbeats 400000 in
theorem cmp64_any (x y : Nat) (w : World) :
    Calls Try.prog 72 #[.int .u64 (x : Int), .int .u64 (y : Int)] w fun e w' => e = .returned (.int .i64 (cmpN x y)) ∧ w' = w := by
  by_cases h1 : x < y
  · rw [cmpN_lt h1]
    go_enter Try.func72, Try.ntmps72
    go_wp2
    go_ret
    exact ⟨rfl, rfl⟩
  · by_cases h2 : y < x
    · rw [cmpN_gt h2]
      go_enter Try.func72, Try.ntmps72
      go_wp2
      go_ret
      exact ⟨rfl, rfl⟩
    · obtain rfl : x = y := by omega
      rw [cmpN_eq rfl]
      clear h1 h2
      go_enter Try.func72, Try.ntmps72
      go_wp2
      go_ret
      exact ⟨rfl, rfl⟩

theorem cmpint_any (x y : Nat) (w : World) :
    Calls Try.prog 51 #[.int .i64 (x : Int), .int .i64 (y : Int)] w fun e w' => e = .returned (.int .i64 (cmpN x y)) ∧ w = w' :=
  (Try.cmp_Compare_int (x : Int) (y : Int) w).mono fun _ _ ⟨he, hw⟩ => ⟨by rw [he, compareInt_cmpN], hw.symm⟩

theorem cmp_of_length {a b : Nat} (h : (limbs B64 a).length < (limbs B64 b).length) : a < b :=
  Nat.lt_of_lt_of_le (lt_pow_limbs B64_two a) (pow_le_of_length B64_two h)
theorem cmpN_length {a b : Nat} {k m : Nat} (ha : (limbs B64 a).length = k) (hb : (limbs B64 b).length = m) (h : ((k : Int) != (m : Int)) = true) : cmpN k m = cmpN a b := by
  have hne : k ≠ m := by simp at h; omega
  rcases Nat.lt_or_ge k m with h1 | h1
  · rw [cmpN_lt h1, cmpN_lt (cmp_of_length (by omega))]
  · rw [cmpN_gt (by omega), cmpN_gt (cmp_of_length (by omega))]

set_option maxHeartbeats 1000000 in
theorem cmp_any (la lb : List Nat) (A B : Option Addr) (n c m d : Nat) (w : World) (ha : Rd .u64 w A n la) (hb : Rd .u64 w B m lb) (La : Lim B64 la) (Lb : Lim B64 lb)
    (hn : n ≤ maxLen) (hm : m ≤ maxLen) (hnc : n ≤ c) (hmd : m ≤ d) :
    Calls Try.prog 52 #[.slice A n c, .slice B m d] w fun e w' => e = .returned (.int .i64 (cmpN (val B64 la) (val B64 lb))) ∧ ∃ q, w' = w.drewN q := by
  have HN := Lib.hid hn
  have HM := Lib.hid hm
  unfold maxLen at hn hm
  go_enter Try.func52, Try.ntmps52
  go_wp2_with (first | (go_at_call 66; ((with_reducible refine (trim_any la A n c _ ha La HN.out hnc).mono ?_); rintro e w' ⟨⟨k, hk, rfl, hka⟩, rfl⟩)) | (go_at_call 66; ((with_reducible refine (trim_any lb B m d _ hb Lb HM.out hmd).mono ?_); rintro e w' ⟨⟨k2, hk2, rfl, hkb⟩, rfl⟩)) | (go_at_call 51; ((with_reducible refine (cmpint_any _ _ _).mono ?_); rintro e w' ⟨rfl, rfl⟩)))
  · go_ret
    exact ⟨ret_int (cmpN_length hka.1 hkb.1 (by assumption)), 0, rfl⟩
  · have hkk : k = k2 := by
      have hq : ((k : Int) != (k2 : Int)) = false := by assumption
      simp at hq; omega
    generalize hX : limbs B64 (val B64 la) = xs at hka
    generalize hY : limbs B64 (val B64 lb) = ys at hkb
    have HX := Lib.hid hX
    have HY := Lib.hid hY
    have LX : Lim B64 xs := by rw [← hX]; exact lim_limbs B64_two _
    have LY : Lim B64 ys := by rw [← hY]; exact lim_limbs B64_two _
    have vX : Hid (val B64 xs = val B64 la) := by show _ = _; rw [← hX, val_limbs B64_two]
    have vY : Hid (val B64 ys = val B64 lb) := by show _ = _; rw [← hY, val_limbs B64_two]
    clear hX hY
    go_loopw [5] (fun i wr => ∃ j : Nat, j ≤ k ∧ i = .int .i64 ((j : Int) - 1) ∧ (∀ t, j ≤ t → xs[t]? = ys[t]?) ∧ ∃ q, wr = w.drewN q) (fun i _ => (intOf i + 1).toNat)
    case atStart =>
      refine ⟨k, Nat.le_refl _, by go_num, fun t ht => ?_, 0, rfl⟩
      rw [List.getElem?_eq_none (by have := hka.1; omega), List.getElem?_eq_none (by have := hkb.1; omega)]
    case round =>
      obtain ⟨j, hj, rfl, heq, q, rfl⟩ := hrel
      by_cases hj0 : 0 < j
      · obtain ⟨b, o, rfl, hc⟩ := hka.at_ (by omega)
        obtain ⟨x, hx, hcx⟩ := hc (j - 1) (by omega)
        obtain ⟨b', o', rfl, hc'⟩ := hkb.at_ (by omega)
        obtain ⟨y, hy, hcy⟩ := hc' (j - 1) (by omega)
        have HQ := Lib.hid heq
        have Hx := Lib.hid hx
        have Hy := Lib.hid hy
        clear heq hx hy hc hc'
        go_wp2
        go_quiet (fail)
        go_wp2
        · have hq : ((x : Int) != (y : Int)) = true := by assumption
          go_quiet ((go_at_call 72; exact quiet_add_same (cmp64_any _ _ _)))
          go_wp2
          go_ret
          refine ⟨ret_int ?_, drewN3 _ _ _ _⟩
          have hne : x ≠ y := by simp at hq; omega
          have hl : xs.length = ys.length := by have := hka.1; have := hkb.1; omega
          have heq2 : ∀ t, j - 1 < t → xs[t]? = ys[t]? := fun t ht => HQ.out t (by omega)
          rw [← vX.out, ← vY.out]
          rcases Nat.lt_or_ge x y with h1 | h1
          · rw [cmpN_lt h1, cmpN_lt (val_lt_of LX hl Hx.out Hy.out h1 heq2)]
          · rw [cmpN_gt (by omega), cmpN_gt (val_lt_of LY hl.symm Hy.out Hx.out (by omega) (fun t ht => (heq2 t ht).symm))]
        · have hq : ((x : Int) != (y : Int)) = false := by assumption
          have hxy : x = y := by simp at hq; omega
          go_roundw
          case rel =>
            refine ⟨j - 1, by omega, by go_num, fun t ht => ?_, _, rfl⟩
            by_cases htj : t = j - 1
            · rw [htj, Hx.out, Hy.out, hxy]
            · exact HQ.out t (by omega)
          case measure => simp [intOf]; omega
      · go_wp2
        go_ret
        refine ⟨ret_int ?_, q, rfl⟩
        rw [cmpN_eq]
        rw [← vX.out, ← vY.out]
        congr 1
        apply List.ext_getElem?
        intro t
        exact heq t (by omega)
end Go.Proofs.Ytflcgeehpboldaa
