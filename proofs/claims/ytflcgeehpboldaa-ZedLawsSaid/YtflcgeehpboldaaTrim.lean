/- nat.trim: a without its highest limbs that are 0. -/
import Derived.Test.YtflcgeehpboldaaMem
import Derived.LoopTactic
import Derived.Test.YtflcgeehpboldaaProg
namespace Go.Proofs.Ytflcgeehpboldaa
open Go.RowKit

/-- All of l from k on is 0. -/
def Above0 (l : List Nat) (k : Nat) : Prop := ∀ j x : Nat, k ≤ j → l[j]? = some x → x = 0
theorem Above0.down {l : List Nat} {k : Nat} (h : Above0 l k) (hk : 0 < k) (h0 : l[k - 1]? = some 0) : Above0 l (k - 1) := by
  intro j x hj hx
  by_cases e : j = k - 1
  · subst e; rw [h0] at hx; cases hx; rfl
  · exact h j x (by omega) hx
theorem Above0.eq {l : List Nat} {k : Nat} (h : Above0 l k) : l = l.take k ++ List.replicate (l.length - k) 0 := by
  have : l.drop k = List.replicate (l.length - k) 0 := by
    apply List.ext_getElem (by simp)
    intro i h1 h2
    rw [List.getElem_replicate]
    refine h (k + i) _ (by omega) ?_
    rw [← List.getElem?_drop]
    exact List.getElem?_eq_getElem h1
  conv => lhs; rw [← List.take_append_drop k l, this]
theorem trimmed {B : Nat} (hB : 2 ≤ B) {l : List Nat} {k : Nat} (hL : Lim B l) (hk : k ≤ l.length) (h : Above0 l k) (hx : ∀ x, 0 < k → l[k - 1]? = some x → x ≠ 0) : l.take k = limbs B (val B l) := by
  have e : val B l = val B (l.take k) := by
    conv => lhs; rw [h.eq]
    exact val_snoc_zeros _ _
  rw [e]
  refine (limbs_val hB (hL.take k) ?_).symm
  intro hc
  rw [List.getLast?_eq_getElem?, List.length_take, Nat.min_eq_left hk] at hc
  by_cases h0 : k = 0
  · subst h0; simp at hc
  · rw [List.getElem?_take, if_pos (by omega)] at hc
    exact hx 0 (by omega) hc rfl

set_option maxHeartbeats 400000 in
theorem trim_any (l : List Nat) (A : Option Addr) (n c : Nat) (w : World) (h : Rd .u64 w A n l) (hL : Lim B64 l) (hn : n ≤ maxLen) (hnc : n ≤ c) :
    Calls Try.prog 66 #[.slice A n c] w fun e w' => (∃ k, k ≤ n ∧ e = .returned (.slice A k c) ∧ Rd .u64 w A k (limbs B64 (val B64 l))) ∧ w = w' := by
  unfold maxLen at hn
  have hlen := h.1
  have fin : ∀ k, k ≤ n → Above0 l k → (∀ x, 0 < k → l[k - 1]? = some x → x ≠ 0) → Rd .u64 w A k (limbs B64 (val B64 l)) := by
    intro k hk h0 hx
    rw [← trimmed B64_two hL (by omega) h0 hx]
    exact h.take hk
  have HL := Lib.hid hlen
  clear hlen
  go_enter Try.func66, Try.ntmps66
  go_wp2
  go_loop [0] (fun a => ∃ k, k ≤ n ∧ Above0 l k ∧ a = .slice A k c) (fun a => sLen a)
  case atStart => exact ⟨n, Nat.le_refl _, fun j x hj hx => absurd (List.getElem?_eq_some_iff.1 hx).1 (by have := HL.out; omega), rfl⟩
  case round =>
    obtain ⟨k, hk, h0, rfl⟩ := hrel
    by_cases hk0 : 0 < k
    · obtain ⟨b, o, rfl, hc⟩ := h.at_ (by omega)
      obtain ⟨x, hx, hcx⟩ := hc (k - 1) (by omega)
      have hkc : (k : Int) - 1 ≤ (c : Int) := by omega
      go_wp2
      · go_round
        case rel =>
          have hx0 : x = 0 := by have hq : ((x : Int) == 0) = true := by assumption
                                 simpa using hq
          subst hx0
          exact ⟨k - 1, by omega, h0.down hk0 hx, rfl⟩
        case measure => simp [sLen]; omega
      · have hx0 : x ≠ 0 := by have hq : ((x : Int) == 0) = false := by assumption
                               simpa using hq
        go_ret
        exact ⟨⟨k, hk, rfl, fin k hk h0 (fun y _ hy => by rw [hx] at hy; cases hy; exact hx0)⟩, rfl⟩
    · obtain rfl : k = 0 := by omega
      go_wp2
      go_ret
      exact ⟨⟨0, hk, rfl, fin 0 hk h0 (fun y hy _ => absurd hy (by omega))⟩, rfl⟩
end Go.Proofs.Ytflcgeehpboldaa
