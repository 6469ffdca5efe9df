/- Small functions over numbers by limbs: nat.Good, nat.Of, gessokeep.Nats, cmp.Compare at uint64. -/
import Derived.Test.YtflcgeehpboldaaTrim
import Derived.RegionTactic
import Derived.Deep.QuietTactic
import Derived.BigQuiet
namespace Go.Proofs.Ytflcgeehpboldaa
open Go.RowKit

/-- The call returns a slice of its own with the numbers l; nothing that was there has changed. -/
def GivesS (K : IntKind) (t : TypeId) (w : World) (l : List Nat) (e : Ending) (w' : World) : Prop :=
  ∃ A n c, e = .returned (.slice A n c) ∧ n ≤ c ∧ c ≤ maxLen ∧ Fr K t w' w.heap.size A n c l ∧ Below w.heap.size w w'

/-- Is the highest limb not 0? -/
def goodB (l : List Nat) : Bool := l.getLast? != some 0

set_option maxHeartbeats 400000 in
theorem good_any (l : List Nat) (A : Option Addr) (n c : Nat) (w : World) (h : Rd .u64 w A n l) (hn : n ≤ maxLen) :
    Calls Try.prog 54 #[.slice A n c] w fun e w' => e = .returned (.bool (goodB l)) ∧ w = w' := by
  unfold maxLen at hn
  have hlen := h.1
  by_cases hk0 : 0 < n
  · obtain ⟨b, o, rfl, hc⟩ := h.at_ (by omega)
    obtain ⟨x, hx, hcx⟩ := hc (n - 1) (by omega)
    have HG : Hid (goodB l = ((x : Int) != 0)) := by
      show goodB l = _
      unfold goodB
      rw [List.getLast?_eq_getElem?, hlen, hx]
      by_cases hx0 : x = 0
      · subst hx0; rfl
      · have : ((x : Int) != 0) = true := by simp; omega
        rw [this]; simp [hx0]
    have HL := Lib.hid hlen
    clear hlen
    have hne : ((n : Int) == 0) = false := by simp; omega
    go_enter Try.func54, Try.ntmps54
    go_wp2
    go_ret
    exact ⟨ret_bool HG.out.symm, rfl⟩
  · obtain rfl : n = 0 := by omega
    obtain rfl : l = [] := List.eq_nil_of_length_eq_zero hlen
    go_enter Try.func54, Try.ntmps54
    go_wp2
    go_ret
    exact ⟨rfl, rfl⟩

theorem limbs_small {B v : Nat} (hB : 2 ≤ B) (hv : v < B) (h0 : v ≠ 0) : limbs B v = [v] := by
  rw [limbs_pos hB h0, Nat.mod_eq_of_lt hv, Nat.div_eq_of_lt hv, limbs_zero]

set_option maxHeartbeats 400000 in
theorem of_any (v : Nat) (hv : v < B64) (w : World) :
    Calls Try.prog 56 #[.int .u64 (v : Int)] w (GivesS .u64 82 w (limbs B64 v)) := by
  by_cases h0 : v = 0
  · subst h0
    go_enter Try.func56, Try.ntmps56
    go_wp2
    go_ret
    exact ⟨_, _, _, rfl, Nat.le_refl _, by decide, by rw [limbs_zero]; exact Fr.nil, Below.refl _ _⟩
  · have hne : ((v : Int) == 0) = false := by simp; omega
    go_enter Try.func56, Try.ntmps56
    go_wp2
    go_ret
    refine ⟨_, _, _, rfl, Nat.le_refl _, by decide, ?_, (Below.refl _ _).alloc (Nat.le_refl _) _⟩
    rw [limbs_small B64_two hv h0]
    exact Fr.of_own (L := [v]) (k := 1) (heap_alloc_new w _) (Nat.le_refl _) (by simp) (show 1 ≤ maxLen by decide)

set_option maxHeartbeats 400000 in
theorem nats_any (la lb : List Nat) (A B : Option Addr) (n c m d : Nat) (w : World) (ha : Rd .u64 w A n la) (hb : Rd .u64 w B m lb) (hn : n ≤ maxLen) :
    Calls Try.prog 41 #[.slice A n c, .slice B m d] w fun e w' => e = .returned (.bool (decide (la = lb))) ∧ ∃ k, w' = w.drewN k := by
  unfold maxLen at hn
  have hla := ha.1
  have hlb := hb.1
  by_cases hnm : n = m
  · subst hnm
    have HA := Lib.hid hla
    have HB := Lib.hid hlb
    clear hla hlb
    go_enter Try.func41, Try.ntmps41
    go_wp2
    go_loopw [5] (fun i wr => ∃ k : Nat, k ≤ n ∧ i = .int .i64 k ∧ (∀ j, j < k → la[j]? = lb[j]?) ∧ ∃ q, wr = w.drewN q) (fun i _ => n - (intOf i).toNat)
    case atStart => exact ⟨0, Nat.zero_le _, rfl, fun j hj => absurd hj (by omega), 0, rfl⟩
    case round =>
      obtain ⟨k, hk, rfl, heq, q, rfl⟩ := hrel
      by_cases hlt : k < n
      · obtain ⟨b, o, rfl, hc⟩ := ha.at_ (by omega)
        obtain ⟨x, hx, hcx⟩ := hc k hlt
        obtain ⟨b', o', rfl, hc'⟩ := hb.at_ (by omega)
        obtain ⟨y, hy, hcy⟩ := hc' k hlt
        have HQ := Lib.hid heq
        have HX := Lib.hid hx
        have HY := Lib.hid hy
        clear heq hx hy hc hc'
        go_wp2
        go_quiet (fail)
        go_wp2
        · have hq : ((x : Int) != (y : Int)) = true := by assumption
          go_ret
          refine ⟨ret_bool ?_, q + nq, World.drewN_drewN _ _ _⟩
          symm
          rw [decide_eq_false_iff_not]
          rintro rfl
          have e := HX.out.symm.trans HY.out
          cases e
          simp at hq
        · have hq : ((x : Int) != (y : Int)) = false := by assumption
          go_roundw
          case rel =>
            refine ⟨k + 1, by omega, by go_num, fun j hj => ?_, q + nq, by simp⟩
            by_cases hjk : j = k
            · subst hjk
              rw [HX.out, HY.out]
              have : x = y := by simp at hq; omega
              rw [this]
            · exact HQ.out j (by omega)
          case measure => simp [intOf]; omega
      · go_wp2
        go_ret
        refine ⟨ret_bool ?_, _, rfl⟩
        symm
        rw [decide_eq_true_iff]
        apply List.ext_getElem?
        intro j
        by_cases hj : j < k
        · exact heq j hj
        · rw [List.getElem?_eq_none (by have := HA.out; omega), List.getElem?_eq_none (by have := HB.out; omega)]
  · have hne : ((n : Int) != (m : Int)) = true := by simp; omega
    go_enter Try.func41, Try.ntmps41
    go_wp2
    go_ret
    exact ⟨ret_bool (by symm; rw [decide_eq_false_iff_not]; intro e; subst e; omega), 0, rfl⟩
end Go.Proofs.Ytflcgeehpboldaa
