/- nat.highest: the 64 bits of x from its highest one on, and those of y at the same height. -/
import Derived.Test.YthdpllhpdjhogaaGcdA
import Derived.Test.YthdpllhpdjhogaaDivAny
namespace Go.Proofs.Ythdpllhpdjhogaa
open Go.RowKit

/-- What stands above the 64 bits from x's highest one on. -/
def hiT (V : Nat) : Nat := 2 ^ (bl V - 64)
theorem hi_math {l : List Nat} {j hi lo s : Nat} (hL : Lim B64 l) (hl : l.length = j + 2) (h1 : l[j + 1]? = some hi) (h0 : l[j]? = some lo) (hs : s ≤ 64) :
    val B64 l / (B64 ^ j * 2 ^ (64 - s)) = hi * 2 ^ s + lo / 2 ^ (64 - s) := by
  have e := split2 hl h1 h0
  have ht := take_lt hL (n := j) (by omega)
  rw [← Nat.div_div_eq_div_mul, e, Nat.add_mul_div_left _ _ (Nat.pow_pos (by decide)), Nat.div_eq_of_lt ht, Nat.zero_add]
  have : hi * B64 + lo = lo + 2 ^ (64 - s) * (hi * 2 ^ s) := by rw [split64 hs]; grind
  rw [this, Nat.add_mul_div_left _ _ (Nat.two_pow_pos _), Nat.add_comm]
theorem hiT_eq {l : List Nat} {j t s : Nat} (hlim : limbs B64 (val B64 l) = l) (hl : l.length = j + 2) (ht : l[j + 1]? = some t) (hs : s = 64 - bl t) (ht0 : 0 < t) (htB : t < B64) : hiT (val B64 l) = B64 ^ j * 2 ^ (64 - s) := by
  have hb := bl_top (V := val B64 l) (k := j + 1) (x := t) (by rw [hlim]; omega) (by rw [hlim]; exact ht)
  have hb2 : bl t ≤ 64 := bl_le htB
  have hb3 := bl_pos (show t ≠ 0 by omega)
  unfold hiT
  rw [hb, pow64, ← Nat.pow_add]
  congr 1; omega
theorem hi_fit {t s : Nat} (htB : t < B64) (hs : s = 64 - bl t) : t * 2 ^ s < B64 := by
  have h := lt_bl t
  have hb : bl t ≤ 64 := bl_le htB
  have := Nat.mul_lt_mul_of_pos_right h (Nat.two_pow_pos s)
  rw [← Nat.pow_add, show bl t + s = 64 by omega] at this
  exact this

theorem hi_word {hi lo s : Nat} (hs : s < 64) (hlo : lo < B64) (hf : hi * 2 ^ s < B64) : bits .or .u64 (IntKind.u64.wrap ((hi : Int) * 2 ^ s)) ((lo : Int) / 2 ^ (64 - s)) = ((hi * 2 ^ s + lo / 2 ^ (64 - s) : Nat) : Int) := by
  rw [shr_nat, or_up (by omega) hi (shr_lt (by omega) hlo), Nat.mod_eq_of_lt hf]
theorem hi_le {lx ly : List Nat} {n t y : Nat} (Lx : Lim B64 lx) (hx : lx.length = n + 1) (hy : ly.length = n + 1) (ht : lx[n]? = some t) (hy1 : ly[n]? = some y) (h : val B64 ly ≤ val B64 lx) : y ≤ t := by
  have e1 : val B64 lx = val B64 (lx.take (n + 1)) := by rw [List.take_of_length_le (by omega)]
  have e2 : val B64 ly = val B64 (ly.take (n + 1)) := by rw [List.take_of_length_le (by omega)]
  rw [e1, e2, val_take_succ ht, val_take_succ hy1] at h
  have h1 := take_lt Lx (n := n) (by omega)
  rcases Nat.lt_or_ge t y with hlt | hge
  · have := Nat.mul_le_mul_left (B64 ^ n) hlt
    rw [Nat.mul_succ] at this
    omega
  · exact hge

set_option maxRecDepth 100000 in
set_option maxHeartbeats 1000000 in
theorem highest_same (lx ly : List Nat) (A B : Option Addr) (n c m d : Nat) (w : World) (ha : Rd .u64 w A n lx) (hb : Rd .u64 w B m ly) (Lx : Lim B64 lx) (Ly : Lim B64 ly) (hx : limbs B64 (val B64 lx) = lx)
    (hn2 : 2 ≤ n) (hm : n = m) (hn : n ≤ 35184372088830) (hle : val B64 ly ≤ val B64 lx) :
    Calls Try.prog 80 #[.slice A n c, .slice B m d] w fun e w' =>
      e = .returned (.tuple #[.int .u64 ((val B64 lx / hiT (val B64 lx) : Nat) : Int), .int .u64 ((val B64 ly / hiT (val B64 lx) : Nat) : Int)]) ∧ ∃ q, w' = w.drewN q := by
  obtain rfl := hm
  obtain ⟨b, o, rfl, hc⟩ := ha.at_ (by omega)
  obtain ⟨t, ht, hct⟩ := hc (n - 1) (by omega)
  obtain ⟨x0, hx0, hcx0⟩ := hc (n - 2) (by omega)
  obtain ⟨b', o', rfl, hc'⟩ := hb.at_ (by omega)
  obtain ⟨y1, hy1, hcy1⟩ := hc' (n - 1) (by omega)
  obtain ⟨y0, hy0, hcy0⟩ := hc' (n - 2) (by omega)
  have htB := Lx.get ht
  have ht0 : 0 < t := by
    have := limbs_last B64_two (val B64 lx)
    rw [hx, List.getLast?_eq_getElem?, ha.1, ht] at this
    rcases Nat.eq_zero_or_pos t with h | h
    · subst h; exact absurd rfl this
    · exact h
  obtain ⟨s, hs⟩ : ∃ s, s = 64 - bl t := ⟨_, rfl⟩
  have hs64 : s < 64 := by have := bl_pos (show t ≠ 0 by omega); omega
  have hwrap : IntKind.u64.wrap ((64 - bl t : Nat) : Int) = (s : Int) := by rw [← hs, IntKind.wrap_u64]; omega
  have hT := hiT_eq (j := n - 2) hx (by have := ha.1; omega) (by rw [show n - 2 + 1 = n - 1 by omega]; exact ht) hs ht0 htB
  have hft := hi_fit htB hs
  have HA : Hid (bits .or .u64 (IntKind.u64.wrap ((t : Int) * 2 ^ s)) ((x0 : Int) / 2 ^ (64 - s)) = ((val B64 lx / hiT (val B64 lx) : Nat) : Int)) := by
    show _ = _
    rw [hT, hi_math (j := n - 2) (s := s) Lx (by have := ha.1; omega) (by rw [show n - 2 + 1 = n - 1 by omega]; exact ht) hx0 (by omega)]
    exact hi_word hs64 (Lx.get hx0) hft
  have hyt := hi_le (n := n - 1) Lx (by have := ha.1; omega) (by have := hb.1; omega) ht hy1 hle
  have HB : Hid (bits .or .u64 (IntKind.u64.wrap ((y1 : Int) * 2 ^ s)) ((y0 : Int) / 2 ^ (64 - s)) = ((val B64 ly / hiT (val B64 lx) : Nat) : Int)) := by
    show _ = _
    rw [hT, hi_math (j := n - 2) (s := s) Ly (by have := hb.1; omega) (by rw [show n - 2 + 1 = n - 1 by omega]; exact hy1) hy0 (by omega)]
    exact hi_word hs64 (Ly.get hy0) (Nat.lt_of_le_of_lt (Nat.mul_le_mul_right _ hyt) hft)
  clear hc' hy1 hy0
  clear hx hc ht hx0 hT hft hs
  go_enter Try.func80, Try.ntmps80
  go_wp2_with (first
    | (go_at_call 76; (with_reducible refine (lz64_any t htB _).mono ?_); rintro e w' ⟨rfl, rfl⟩))
  go_quiet (fail)
  go_wp2_with fail
  go_quiet (fail)
  go_wp2_with fail
  go_ret2
  exact ⟨ret_two HA.out HB.out, _, World.drewN_drewN _ _ _⟩

set_option maxRecDepth 100000 in
set_option maxHeartbeats 1000000 in
theorem highest_one (lx ly : List Nat) (A B : Option Addr) (n c m d : Nat) (w : World) (ha : Rd .u64 w A n lx) (hb : Rd .u64 w B m ly) (Lx : Lim B64 lx) (Ly : Lim B64 ly) (hx : limbs B64 (val B64 lx) = lx)
    (hn2 : 2 ≤ n) (hm : m + 1 = n) (hn : n ≤ 35184372088830) (_hle : val B64 ly ≤ val B64 lx) :
    Calls Try.prog 80 #[.slice A n c, .slice B m d] w fun e w' =>
      e = .returned (.tuple #[.int .u64 ((val B64 lx / hiT (val B64 lx) : Nat) : Int), .int .u64 ((val B64 ly / hiT (val B64 lx) : Nat) : Int)]) ∧ ∃ q, w' = w.drewN q := by
  obtain ⟨b, o, rfl, hc⟩ := ha.at_ (by omega)
  obtain ⟨t, ht, hct⟩ := hc (n - 1) (by omega)
  obtain ⟨x0, hx0, hcx0⟩ := hc (n - 2) (by omega)
  obtain ⟨b', o', rfl, hc'⟩ := hb.at_ (by omega)
  obtain ⟨y0, hy0, hcy0⟩ := hc' (n - 2) (by omega)
  have htB := Lx.get ht
  have ht0 : 0 < t := by
    have := limbs_last B64_two (val B64 lx)
    rw [hx, List.getLast?_eq_getElem?, ha.1, ht] at this
    rcases Nat.eq_zero_or_pos t with h | h
    · subst h; exact absurd rfl this
    · exact h
  obtain ⟨s, hs⟩ : ∃ s, s = 64 - bl t := ⟨_, rfl⟩
  have hs64 : s < 64 := by have := bl_pos (show t ≠ 0 by omega); omega
  have hwrap : IntKind.u64.wrap ((64 - bl t : Nat) : Int) = (s : Int) := by rw [← hs, IntKind.wrap_u64]; omega
  have hT := hiT_eq (j := n - 2) hx (by have := ha.1; omega) (by rw [show n - 2 + 1 = n - 1 by omega]; exact ht) hs ht0 htB
  have hft := hi_fit htB hs
  have HA : Hid (bits .or .u64 (IntKind.u64.wrap ((t : Int) * 2 ^ s)) ((x0 : Int) / 2 ^ (64 - s)) = ((val B64 lx / hiT (val B64 lx) : Nat) : Int)) := by
    show _ = _
    rw [hT, hi_math (j := n - 2) (s := s) Lx (by have := ha.1; omega) (by rw [show n - 2 + 1 = n - 1 by omega]; exact ht) hx0 (by omega)]
    exact hi_word hs64 (Lx.get hx0) hft
  have HB : Hid (((y0 : Int) / 2 ^ (64 - s)) = ((val B64 ly / hiT (val B64 lx) : Nat) : Int)) := by
    show _ = _
    have e : val B64 ly = val B64 (ly ++ [0]) := by rw [val_snoc]; simp
    have hl := hb.1
    rw [hT, e, hi_math (l := ly ++ [0]) (j := n - 2) (hi := 0) (lo := y0) (s := s) (Ly.snoc (by decide)) (by simp; omega) (by rw [List.getElem?_append_right (by omega), show n - 2 + 1 - ly.length = 0 by omega]; rfl) (by rw [List.getElem?_append_left (by omega)]; exact hy0) (by omega), shr_nat]
    simp
  have hne : ((m : Int) == (n : Int)) = false := by simp; omega
  have heq : ((m : Int) == (n : Int) - 1) = true := by simp; omega
  clear hc' hy0
  clear hx hc ht hx0 hT hft hs
  go_enter Try.func80, Try.ntmps80
  go_wp2_with (first
    | (go_at_call 76; (with_reducible refine (lz64_any t htB _).mono ?_); rintro e w' ⟨rfl, rfl⟩))
  go_quiet (fail)
  go_wp2_with fail
  go_ret2
  exact ⟨ret_two HA.out HB.out, _, rfl⟩

set_option maxRecDepth 100000 in
set_option maxHeartbeats 1000000 in
theorem highest_low (lx ly : List Nat) (A B : Option Addr) (n c m d : Nat) (w : World) (ha : Rd .u64 w A n lx) (hb : Rd .u64 w B m ly) (Lx : Lim B64 lx) (Ly : Lim B64 ly) (hx : limbs B64 (val B64 lx) = lx)
    (hn2 : 2 ≤ n) (hm : m + 2 ≤ n) (hn : n ≤ 35184372088830) (_hle : val B64 ly ≤ val B64 lx) :
    Calls Try.prog 80 #[.slice A n c, .slice B m d] w fun e w' =>
      e = .returned (.tuple #[.int .u64 ((val B64 lx / hiT (val B64 lx) : Nat) : Int), .int .u64 ((val B64 ly / hiT (val B64 lx) : Nat) : Int)]) ∧ ∃ q, w' = w.drewN q := by
  obtain ⟨b, o, rfl, hc⟩ := ha.at_ (by omega)
  obtain ⟨t, ht, hct⟩ := hc (n - 1) (by omega)
  obtain ⟨x0, hx0, hcx0⟩ := hc (n - 2) (by omega)
  have htB := Lx.get ht
  have ht0 : 0 < t := by
    have := limbs_last B64_two (val B64 lx)
    rw [hx, List.getLast?_eq_getElem?, ha.1, ht] at this
    rcases Nat.eq_zero_or_pos t with h | h
    · subst h; exact absurd rfl this
    · exact h
  obtain ⟨s, hs⟩ : ∃ s, s = 64 - bl t := ⟨_, rfl⟩
  have hs64 : s < 64 := by have := bl_pos (show t ≠ 0 by omega); omega
  have hwrap : IntKind.u64.wrap ((64 - bl t : Nat) : Int) = (s : Int) := by rw [← hs, IntKind.wrap_u64]; omega
  have hT := hiT_eq (j := n - 2) hx (by have := ha.1; omega) (by rw [show n - 2 + 1 = n - 1 by omega]; exact ht) hs ht0 htB
  have hft := hi_fit htB hs
  have HA : Hid (bits .or .u64 (IntKind.u64.wrap ((t : Int) * 2 ^ s)) ((x0 : Int) / 2 ^ (64 - s)) = ((val B64 lx / hiT (val B64 lx) : Nat) : Int)) := by
    show _ = _
    rw [hT, hi_math (j := n - 2) (s := s) Lx (by have := ha.1; omega) (by rw [show n - 2 + 1 = n - 1 by omega]; exact ht) hx0 (by omega)]
    exact hi_word hs64 (Lx.get hx0) hft
  have HB : Hid ((0 : Int) = ((val B64 ly / hiT (val B64 lx) : Nat) : Int)) := by
    show _ = _
    have h1 := val_lt Ly
    rw [hb.1] at h1
    have h2 : B64 ^ m ≤ B64 ^ (n - 2) := Nat.pow_le_pow_right (by decide) (by omega)
    have h3 : B64 ^ (n - 2) ≤ hiT (val B64 lx) := by rw [hT]; exact Nat.le_mul_of_pos_right _ (Nat.two_pow_pos _)
    rw [Nat.div_eq_of_lt (by omega)]; rfl
  have hne : ((m : Int) == (n : Int)) = false := by simp; omega
  have heq : ((m : Int) == (n : Int) - 1) = false := by simp; omega
  clear hx hc ht hx0 hT hft hs
  go_enter Try.func80, Try.ntmps80
  go_wp2_with (first
    | (go_at_call 76; (with_reducible refine (lz64_any t htB _).mono ?_); rintro e w' ⟨rfl, rfl⟩))
  go_quiet (fail)
  go_wp2_with fail
  go_ret2
  exact ⟨ret_two HA.out HB.out, _, rfl⟩

theorem highest_any (lx ly : List Nat) (A B : Option Addr) (n c m d : Nat) (w : World) (ha : Rd .u64 w A n lx) (hb : Rd .u64 w B m ly) (Lx : Lim B64 lx) (Ly : Lim B64 ly) (hx : limbs B64 (val B64 lx) = lx)
    (hn2 : 2 ≤ n) (hm : m ≤ n) (hn : n ≤ 35184372088830) (hle : val B64 ly ≤ val B64 lx) :
    Calls Try.prog 80 #[.slice A n c, .slice B m d] w fun e w' =>
      e = .returned (.tuple #[.int .u64 ((val B64 lx / hiT (val B64 lx) : Nat) : Int), .int .u64 ((val B64 ly / hiT (val B64 lx) : Nat) : Int)]) ∧ ∃ q, w' = w.drewN q := by
  rcases Nat.lt_trichotomy (m + 1) n with h | h | h
  · exact highest_low lx ly A B n c m d w ha hb Lx Ly hx hn2 (by omega) hn hle
  · exact highest_one lx ly A B n c m d w ha hb Lx Ly hx hn2 h hn hle
  · exact highest_same lx ly A B n c m d w ha hb Lx Ly hx hn2 (by omega) hn hle
end Go.Proofs.Ythdpllhpdjhogaa
