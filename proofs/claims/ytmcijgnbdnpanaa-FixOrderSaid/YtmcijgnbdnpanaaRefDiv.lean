/- reference: short. reference: guess. reference: DivMod, the divisor not 0. -/
import Derived.Test.YtmcijgnbdnpanaaRefF
import Derived.Test.YtmcijgnbdnpanaaGcdAll
namespace Go.Proofs.Ytmcijgnbdnpanaa
open Go.RowKit

/-- The call tells a quotient and a rest, as limbs of 32 bits. -/
def GivesTwo (w : World) (Q R : Nat) (e : Ending) (w' : World) : Prop :=
  ∃ A n c A' n' c', e = .returned (.agg #[.slice A n c, .slice A' n' c']) ∧ n ≤ c ∧ n' ≤ c' ∧ Rd .u32 w' A n (limbs B32 Q) ∧ Rd .u32 w' A' n' (limbs B32 R) ∧ Below w.heap.size w w'

/-- .. both in memory of the call's own. -/
def GivesTwoF (w : World) (Q R : Nat) (e : Ending) (w' : World) : Prop :=
  ∃ A n c A' n' c', e = .returned (.agg #[.slice A n c, .slice A' n' c']) ∧ n ≤ c ∧ n' ≤ c' ∧ Rd .u32 w' A n (limbs B32 Q) ∧ Rd .u32 w' A' n' (limbs B32 R) ∧ Below w.heap.size w w' ∧ (∀ ad, A = some ad → w.heap.size ≤ ad.block) ∧ (∀ ad, A' = some ad → w.heap.size ≤ ad.block)
theorem or32 {r x : Nat} (hr : r < B32) (hx : x < B32) : bits .or .u64 (IntKind.u64.wrap ((r : Int) * 4294967296)) (x : Int) = ((r * B32 + x : Nat) : Int) := by
  have h := or_up (s := 32) (by omega) r (y := x) hx
  have e : r * 2 ^ 32 % B64 = r * B32 := Nat.mod_eq_of_lt (by
    have : r * 4294967296 < 4294967296 * 4294967296 := Nat.mul_lt_mul_of_pos_right hr (by omega)
    exact this)
  rw [e] at h
  exact h
theorem or32' {r x : Nat} (hr : r < B32) (hx : x < B32) : bits .or .u64 ((r : Int) * 4294967296) (IntKind.u64.wrap (x : Int)) = ((r * B32 + x : Nat) : Int) := by
  have h := or32 hr hx
  have e : r * 4294967296 < 4294967296 * 4294967296 := Nat.mul_lt_mul_of_pos_right hr (by omega)
  have e2 : x < 4294967296 := hx
  rw [show IntKind.u64.wrap ((r : Int) * 4294967296) = (r : Int) * 4294967296 by rw [IntKind.wrap_u64]; omega] at h
  rw [show IntKind.u64.wrap (x : Int) = (x : Int) by rw [IntKind.wrap_u64]; omega]
  exact h
theorem e_div32 {v b : Nat} (h : v / b < B32) : IntKind.u64.wrap ((v : Int) / (b : Int)) % 4294967296 = ((v / b : Nat) : Int) := by
  have h2 : v / b < 4294967296 := h
  rw [← Int.natCast_ediv, IntKind.wrap_u64]
  generalize v / b = q at *
  omega
theorem short_step {D q r x b : Nat} (h1 : q = D / b) (h2 : r = D % b) (hb : 0 < b) : (r * B32 + x) / b + B32 * q = (x + B32 * D) / b ∧ (r * B32 + x) % b = (x + B32 * D) % b := by
  have e : x + B32 * D = b * (B32 * q) + (r * B32 + x) := by
    have := Nat.div_add_mod D b
    rw [← h1, ← h2] at this
    rw [← this]
    generalize B32 = B
    grind
  rw [e, Nat.mul_add_div hb, Nat.mul_add_mod]
  exact ⟨Nat.add_comm _ _, rfl⟩
theorem short_fit {r x b : Nat} (hr : r < b) (hx : x < B32) : (r * B32 + x) / b < B32 := by
  refine Nat.div_lt_of_lt_mul ?_
  have := Nat.mul_le_mul_right B32 (show r + 1 ≤ b from hr)
  rw [Nat.succ_mul] at this
  omega

theorem Fr.base9 {K : IntKind} {e : TypeId} {w : World} {B n c : Nat} {A : Option Addr} {l : List Nat} (h : Fr K e w B A n c l) : ∀ ad, A = some ad → B ≤ ad.block := by
  intro ad hA
  rcases h.2.2 with ⟨h2, _⟩ | ⟨g, cap, cur, hv, hg, r⟩
  · subst hA; cases h2
  · subst hA
    injection hv with ha
    injection ha with ha
    subst ha
    exact hg
end Go.Proofs.Ytmcijgnbdnpanaa
namespace Go.Proofs.Ytmcijgnbdnpanaa
open Go.RowKit

theorem bend3 {B : Nat} {w w1 w2 : World} (h : Below B w w1) (k : Below w1.heap.size w1 w2) (hB : B ≤ w1.heap.size := by first | exact Below.size ‹_› | omega) : Below B w w2 := h.trans (k.mono hB)
theorem len_two {x n : Nat} (hx : x < B64) (h : (limbs B32 x).length = n) : n ≤ 2 := by
  rw [← h]; exact length_limbs_le B32_two (Nat.lt_of_lt_of_le hx (by decide))
theorem top_ge {U n t : Nat} (hl : (limbs B32 U).length = n) (hn : 1 ≤ n) (ht : (limbs B32 U)[n - 1]? = some t) : t * B32 ^ (n - 1) ≤ U := by
  have e : val B32 (limbs B32 U) = val B32 ((limbs B32 U).take (n - 1 + 1)) := by rw [List.take_of_length_le (by omega)]
  rw [val_limbs B32_two, val_take_succ ht] at e
  rw [Nat.mul_comm]; omega
theorem top_ge2 {U n t x : Nat} (hl : (limbs B32 U).length = n) (hn : 2 ≤ n) (ht : (limbs B32 U)[n - 1]? = some t) (hx : (limbs B32 U)[n - 2]? = some x) : (t * B32 + x) * B32 ^ (n - 2) ≤ U := by
  obtain ⟨j, rfl⟩ : ∃ j, n = j + 2 := ⟨n - 2, by omega⟩
  have e : val B32 (limbs B32 U) = val B32 ((limbs B32 U).take (j + 1 + 1)) := by rw [List.take_of_length_le (by omega)]
  rw [val_limbs B32_two, val_take_succ (by simpa using ht), val_take_succ (by simpa using hx), Nat.pow_succ] at e
  simp only [Nat.add_sub_cancel]
  have e2 : (t * B32 + x) * B32 ^ j = B32 ^ j * x + B32 ^ j * B32 * t := by
    generalize B32 ^ j = p
    generalize B32 = b
    grind
  omega
theorem top_lt {V n t : Nat} (hl : (limbs B32 V).length = n) (hn : 1 ≤ n) (ht : (limbs B32 V)[n - 1]? = some t) : V < (t + 1) * B32 ^ (n - 1) := by
  have e : val B32 (limbs B32 V) = val B32 ((limbs B32 V).take (n - 1 + 1)) := by rw [List.take_of_length_le (by omega)]
  rw [val_limbs B32_two, val_take_succ ht] at e
  have h := val_lt ((lim_limbs B32_two V).take (n - 1))
  rw [List.length_take, Nat.min_eq_left (by omega)] at h
  rw [Nat.add_mul, Nat.mul_comm t]; omega
theorem guess_top32 {U V lo : Nat} (h : U < V * B32) (hl : lo * V ≤ U) : 4294967296 ≤ 4294967296 ∧ U < 4294967296 * V ∧ lo < 4294967296 := by
  have h2 : U < 4294967296 * V := by rw [Nat.mul_comm]; exact h
  exact ⟨Nat.le_refl _, h2, Nat.lt_of_mul_lt_mul_right (a := V) (by omega)⟩
theorem guess_topH {U V lo hi H : Nat} (h : U < V * B32) (hl : lo * V ≤ U) (hH : H = min hi 4294967296) (hh : U < hi * V) : H ≤ 4294967296 ∧ U < H * V ∧ lo < H := by
  have h2 : U < 4294967296 * V := by rw [Nat.mul_comm]; exact h
  have h3 : U < H * V := by
    rcases Nat.le_total hi 4294967296 with k | k
    · rw [hH, Nat.min_eq_left k]; exact hh
    · rw [hH, Nat.min_eq_right k]; exact h2
  exact ⟨by omega, h3, Nat.lt_of_mul_lt_mul_right (a := V) (by omega)⟩
theorem guess_end {U V l : Nat} (h1 : l * V ≤ U) (h2 : U < (l + 1) * V) : U / V = l := by
  have hV : 0 < V := by
    rcases Nat.eq_zero_or_pos V with h | h
    · subst h; rw [Nat.mul_zero] at h2; omega
    · exact h
  exact Nat.div_eq_of_lt_le h1 h2
theorem guess_low {U V P T v d : Nat} (hT : T * P ≤ U) (hV : V < (v + 1) * P) (hd : d = T / (v + 1)) : d * V ≤ U := by
  subst hd
  have h1 : T / (v + 1) * (v + 1) ≤ T := Nat.div_mul_le_self _ _
  have h2 := Nat.mul_le_mul_right P h1
  have h3 : T / (v + 1) * V ≤ T / (v + 1) * ((v + 1) * P) := Nat.mul_le_mul_left _ (Nat.le_of_lt hV)
  rw [← Nat.mul_assoc] at h3
  omega

end Go.Proofs.Ytmcijgnbdnpanaa
namespace Go.Proofs.Ytmcijgnbdnpanaa
open Go.RowKit

theorem Fr.nilcap {K : IntKind} {e : TypeId} {w : World} {B n c : Nat} {A : Option Addr} {l : List Nat} (h : Fr K e w B A n c l) : A = none → c = 0 := by
  intro hA
  rcases h.2.2 with ⟨h2, _⟩ | ⟨g, cap, cur, hv, hg, r⟩
  · injection h2
  · subst hA; cases hv
theorem rdm_step {D V x q r : Nat} (h1 : q = D / V) (h2 : r = D % V) (hV : 0 < V) : (x + B32 * r) / V + B32 * q = (x + B32 * D) / V ∧ (x + B32 * r) % V = (x + B32 * D) % V ∧ (x < B32 → x + B32 * r < V * B32) := by
  have e : x + B32 * D = V * (B32 * q) + (x + B32 * r) := by
    have := Nat.div_add_mod D V
    rw [← h1, ← h2] at this
    rw [← this]
    generalize B32 = B
    grind
  rw [e, Nat.mul_add_div hV, Nat.mul_add_mod]
  refine ⟨Nat.add_comm _ _, rfl, fun hx => ?_⟩
  have hr : r + 1 ≤ V := by rw [h2]; exact Nat.mod_lt _ hV
  have := Nat.mul_le_mul_left B32 hr
  rw [Nat.mul_succ] at this
  rw [Nat.mul_comm V]; omega

/-- What a struct of two slices tells, when it is stored into the result's block. -/
theorem two_close {w W w3 : World} {Q R n n' c c' : Nat} {A A' : Option Addr} (hlt : w.heap.size < W.heap.size) (hb : Below w.heap.size w W) (p1 : n ≤ c) (p2 : n' ≤ c') (p3 : Rd .u32 w3 A n (limbs B32 Q)) (p4 : Rd .u32 w3 A' n' (limbs B32 R)) (p5 : Below W.heap.size W w3)
    (o1 : 0 < n → ∀ ad, A = some ad → ad.block ≠ w.heap.size) (o2 : 0 < n' → ∀ ad, A' = some ad → ad.block ≠ w.heap.size) :
    GivesTwo w Q R (.returned (.agg #[.slice A n c, .slice A' n' c'])) ((w3.setCell ⟨w.heap.size, 0, none⟩ (.slice A n c)).setCell ⟨w.heap.size, 1, none⟩ (.slice A' n' c')) := by
  have keep : ∀ {B : Option Addr} {m : Nat} {l : List Nat}, Rd .u32 w3 B m l → (0 < m → ∀ ad, B = some ad → ad.block ≠ w.heap.size) → Rd .u32 ((w3.setCell ⟨w.heap.size, 0, none⟩ (.slice A n c)).setCell ⟨w.heap.size, 1, none⟩ (.slice A' n' c')) B m l :=
    fun h ho => h.only (g := w.heap.size) (fun hm ad e => ho hm ad e) (((Only.refl w.heap.size w3).setCell 0 _).setCell 1 _)
  have hbz : Below w.heap.size w w3 := hb.trans (p5.mono (Nat.le_of_lt hlt))
  exact ⟨_, _, _, _, _, _, rfl, p1, p2, keep p3 o1, keep p4 o2, (hbz.setCell (Nat.le_refl _) _).setCell (Nat.le_refl _) _⟩

end Go.Proofs.Ytmcijgnbdnpanaa
