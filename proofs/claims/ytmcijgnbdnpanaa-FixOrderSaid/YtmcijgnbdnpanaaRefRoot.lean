/- reference: Bits, Shl, Shr. reference: Sqrt. -/
import Derived.Test.YtmcijgnbdnpanaaRefJ
import Derived.Test.YtmcijgnbdnpanaaSums
namespace Go.Proofs.Ytmcijgnbdnpanaa
open Go.RowKit

theorem bl_half {v : Nat} (h : v ≠ 0) : bl v = bl (v / 2) + 1 := by
  rw [bl, limbs_pos (Nat.le_refl 2) h, List.length_cons]; rfl
/-- The bits of a number by those of its highest limb, of 32 bits. -/
theorem bl_top32 {V k x : Nat} (hl : (limbs B32 V).length = k + 1) (hx : (limbs B32 V)[k]? = some x) : bl V = 32 * k + bl x := by
  have hL := lim_limbs B32_two V
  have hxB := hL.get hx
  have hx0 : x ≠ 0 := by
    intro e
    apply limbs_last B32_two V
    rw [List.getLast?_eq_getElem?, hl, show k + 1 - 1 = k by omega, hx, e]
  have e1 := val_take_drop (B := B32) (limbs B32 V) k (by omega)
  have hk : k < (limbs B32 V).length := by omega
  rw [List.drop_eq_getElem_cons hk, List.drop_of_length_le (by omega), (List.getElem?_eq_some_iff.1 hx).2, val_limbs B32_two] at e1
  have e2 := val_lt (hL.take k)
  rw [List.length_take, Nat.min_eq_left (by omega)] at e2
  simp only [val_cons, val_nil, Nat.mul_zero, Nat.add_zero] at e1
  have h1 := lt_bl x
  have h2 := le_of_bl (n := x) (k := bl x - 1) (by have := bl_pos hx0; omega)
  have hb := bl_pos hx0
  have hp : B32 ^ k = 2 ^ (32 * k) := by rw [Nat.pow_mul]; rfl
  have := bl_eq (n := V) (k := 32 * k + bl x - 1) ?_ ?_
  · rw [this]; omega
  · rw [e1, show 32 * k + bl x - 1 = 32 * k + (bl x - 1) by omega, Nat.pow_add, hp]
    exact Nat.le_trans (Nat.mul_le_mul_left _ h2) (Nat.le_add_left _ _)
  · rw [show 32 * k + bl x - 1 + 1 = 32 * k + bl x by omega, Nat.pow_add, e1, ← hp]
    have h3 := Nat.mul_le_mul_left (B32 ^ k) h1
    rw [Nat.mul_succ] at h3
    omega
theorem div2_u32 {v : Nat} (h : v < B32) : IntKind.u32.wrap ((v : Int) / 2) = ((v / 2 : Nat) : Int) := by
  have h2 : v < 4294967296 := h
  rw [show ((v : Int) / 2) = ((v / 2 : Nat) : Int) by simp]
  rw [show IntKind.u32.wrap ((v / 2 : Nat) : Int) = ((v / 2 : Nat) : Int) % 4294967296 by rfl]
  omega

theorem rshl_step {q j x cc v lo hi e s : Nat} {S L : List Nat} (hS : S.length = q + j) (hx : L[j]? = some x) (hv : v = x * 2 ^ s) (hlo : lo = v % B32) (hhi : hi = v / B32) (he : e = cc + lo)
    (h : val B32 S + B32 ^ (q + j) * cc = B32 ^ q * (val B32 (L.take j) * 2 ^ s)) : val B32 (S ++ [e]) + B32 ^ (q + (j + 1)) * hi = B32 ^ q * (val B32 (L.take (j + 1)) * 2 ^ s) := by
  have hvv : lo + B32 * hi = x * 2 ^ s := by rw [hlo, hhi, ← hv]; exact Nat.mod_add_div v B32
  rw [val_take_succ hx, val_append, hS, val_cons, val_nil, Nat.mul_zero, Nat.add_zero, he]
  generalize B32 = B at *
  have e1 : B ^ (q + (j + 1)) = B ^ (q + j) * B := by rw [← Nat.add_assoc, Nat.pow_succ]
  rw [e1, Nat.add_mul, Nat.mul_add, Nat.mul_add, ← h, Nat.mul_assoc (B ^ j), ← hvv]
  have e2 : B ^ (q + j) = B ^ q * B ^ j := Nat.pow_add _ _ _
  rw [e2]
  grind

theorem rshl_facts {s x cc v lo hi e : Nat} (hs : s < 32) (hx : x < B32) (hc : cc < 2 ^ s) (hv : v = x * 2 ^ s) (hlo : lo = v % B32) (hhi : hi = v / B32) (he : e = cc + lo) :
    IntKind.u64.wrap (x : Int) = (x : Int) ∧ IntKind.u64.wrap ((x : Int) * 2 ^ s) = (v : Int) ∧ (v : Int) % 4294967296 = (lo : Int) ∧ bits .or .u32 (cc : Int) (lo : Int) = (e : Int) ∧ (v : Int) / 4294967296 = (hi : Int) ∧ (hi : Int) % 4294967296 = (hi : Int) ∧ bits .or .u32 0 (hi : Int) = (hi : Int) ∧ hi < 2 ^ s ∧ e < B32 := by
  have p1 : 2 ^ s * 2 ^ (32 - s) = B32 := by rw [← Nat.pow_add, show s + (32 - s) = 32 by omega]; rfl
  have ps : 2 ^ s ≤ 2147483648 := Nat.pow_le_pow_right (n := 2) (by omega) (show s ≤ 31 by omega)
  have pp : 0 < 2 ^ s := Nat.two_pow_pos _
  have hx2 : x < 4294967296 := hx
  have e32 : B32 = 4294967296 := rfl
  have e64 : B64 = 18446744073709551616 := rfl
  have hvB : v < B32 * 2 ^ s := by rw [hv]; exact Nat.mul_lt_mul_of_pos_right hx pp
  have hv64 : v < 18446744073709551616 := by
    have := Nat.mul_le_mul_left B32 ps
    omega
  have hlo2 : lo = 2 ^ s * (x % 2 ^ (32 - s)) := by
    rw [hlo, hv, ← p1, Nat.mul_comm x, Nat.mul_mod_mul_left]
  have hy : x % 2 ^ (32 - s) + 1 ≤ 2 ^ (32 - s) := Nat.mod_lt _ (Nat.two_pow_pos _)
  have hlt : lo + 2 ^ s ≤ B32 := by
    rw [hlo2, ← p1, ← Nat.mul_succ]
    exact Nat.mul_le_mul_left _ hy
  have hhi2 : hi < 2 ^ s := by rw [hhi]; exact Nat.div_lt_of_lt_mul hvB
  have hhi3 : hi = v / 4294967296 := hhi
  have hlo3 : lo = v % 4294967296 := hlo
  have hcast : (x : Int) * 2 ^ s = (v : Int) := by rw [hv]; simp
  refine ⟨?_, ?_, ?_, ?_, ?_, ?_, ?_, hhi2, ?_⟩
  · rw [IntKind.wrap_u64]; omega
  · rw [hcast, IntKind.wrap_u64]; omega
  · omega
  · rw [u32_or_nat _ _ (by omega) (by omega), Nat.or_comm, hlo2, or_low _ _ hc, he, hlo2, Nat.add_comm]
  · omega
  · omega
  · have := u32_or_nat 0 hi (by omega) (by omega)
    rw [Nat.zero_or] at this
    exact this
  · omega

theorem rshr_limb {s x y T2 B : Nat} (hs : s < 32) (hB : B = 2 ^ 32) : (x + B * (y + B * T2)) / 2 ^ s % B = (x + B * y) / 2 ^ s % B := by
  have hp : B = 2 ^ s * 2 ^ (32 - s) := by rw [hB, ← Nat.pow_add, show s + (32 - s) = 32 by omega]
  have e : x + B * (y + B * T2) = (x + B * y) + 2 ^ s * (2 ^ (32 - s) * T2 * B) := by
    have : B * (B * T2) = 2 ^ s * (2 ^ (32 - s) * T2 * B) := by
      rw [Nat.mul_comm B (B * T2), Nat.mul_assoc B T2, Nat.mul_comm T2 B]
      conv => lhs; arg 1; rw [hp]
      rw [Nat.mul_assoc, Nat.mul_comm B T2, Nat.mul_assoc]
    rw [Nat.mul_add, this, Nat.add_assoc]
  rw [e, Nat.add_mul_div_left _ _ (Nat.two_pow_pos s), Nat.add_mul_mod_self_right]
theorem rshr_next {X B j e : Nat} (he : e = X / B ^ j % B) : X % B ^ j + B ^ j * e = X % B ^ (j + 1) := by
  rw [he, Nat.mod_pow_succ]
theorem rshr_facts {s x y t e : Nat} (_hs : s < 32) (hx : x < B32) (hy : y < B32) (ht : t = x + B32 * y) (he : e = t / 2 ^ s % B32) :
    IntKind.u64.wrap (x : Int) = (x : Int) ∧ IntKind.u64.wrap (y : Int) = (y : Int) ∧ IntKind.u64.wrap ((y : Int) * 4294967296) = (y : Int) * 4294967296 ∧ bits .or .u64 (x : Int) ((y : Int) * 4294967296) = (t : Int) ∧ ((t : Int) / 2 ^ s) % 4294967296 = (e : Int) ∧ e < B32 := by
  have hx2 : x < 4294967296 := hx
  have hy2 : y < 4294967296 := hy
  have ht2 : t = x + 4294967296 * y := ht
  have he2 : e = t / 2 ^ s % 4294967296 := he
  refine ⟨?_, ?_, ?_, ?_, ?_, ?_⟩
  · rw [IntKind.wrap_u64]; omega
  · rw [IntKind.wrap_u64]; omega
  · rw [IntKind.wrap_u64]; omega
  · have h := u64_or_nat x (y * 4294967296) (by omega) (by omega)
    have h2 := or_low (s := 32) y x hx2
    rw [Nat.or_comm] at h2
    rw [show (y : Int) * 4294967296 = ((y * 4294967296 : Nat) : Int) by omega, h, Nat.mul_comm y, h2]
    omega
  · rw [shr_nat, he2]; omega
  · rw [he]; exact Nat.mod_lt _ (by decide)

end Go.Proofs.Ytmcijgnbdnpanaa
namespace Go.Proofs.Ytmcijgnbdnpanaa
open Go.RowKit

/-- R is the root of V, rounded down. -/
def IsRoot (V R : Nat) : Prop := R * R ≤ V ∧ V < (R + 1) * (R + 1)
theorem IsRoot.one {V R S : Nat} (h : IsRoot V R) (k : IsRoot V S) : R = S := by
  rcases Nat.lt_trichotomy R S with c | c | c
  · have := Nat.mul_le_mul (show R + 1 ≤ S from c) (show R + 1 ≤ S from c)
    have h1 := h.2; have h2 := k.1; omega
  · exact c
  · have := Nat.mul_le_mul (show S + 1 ≤ R from c) (show S + 1 ≤ R from c)
    have h1 := h.1; have h2 := k.2; omega
theorem b32_two (k : Nat) : B32 ^ k = 2 ^ (32 * k) := by rw [Nat.pow_mul]; rfl
theorem root_half {h : Nat} (X : Nat) : X + 2 ^ (h + 1) = X + 1 * 2 ^ h + 2 ^ h := by rw [Nat.pow_succ]; omega
theorem root_fit {X h k : Nat} (hX : X < B32 ^ k) (hh : h ≤ 16 * k + 1) : 1 * 2 ^ h < B32 ^ (k + 1) ∧ X + 1 * 2 ^ h < B32 ^ (k + 2) ∧ (X + 1 * 2 ^ h) * (X + 1 * 2 ^ h) < B32 ^ (2 * k + 4) := by
  have h1 : 1 * 2 ^ h < B32 ^ (k + 1) := by rw [b32_two, Nat.one_mul]; exact Nat.pow_lt_pow_right (by decide) (by omega)
  have h2 : X + 1 * 2 ^ h < B32 ^ (k + 2) := by
    have e : B32 ^ (k + 2) = B32 ^ (k + 1) * B32 := Nat.pow_succ ..
    have e2 : B32 ^ k ≤ B32 ^ (k + 1) := Nat.pow_le_pow_right (by decide) (by omega)
    have e3 : B32 ^ (k + 1) * 2 ≤ B32 ^ (k + 1) * B32 := Nat.mul_le_mul_left _ (by decide)
    omega
  refine ⟨h1, h2, ?_⟩
  have e : B32 ^ (2 * k + 4) = B32 ^ (k + 2) * B32 ^ (k + 2) := by rw [← Nat.pow_add]; congr 1; omega
  rw [e]
  exact Nat.mul_lt_mul'' h2 h2

end Go.Proofs.Ytmcijgnbdnpanaa
