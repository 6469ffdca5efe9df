/- math/bits.Div64 at every divisor above the high word; nat.divideByLimb. -/
import Derived.Test.YtflcgeehpboldaaDivB
import Derived.Test.YtflcgeehpboldaaLower
import Derived.Test.YtflcgeehpboldaaProd
namespace Go.Proofs.Ytflcgeehpboldaa
open Go.RowKit

theorem div64_zero (lo y : Nat) (w : World) (hy : 0 < y) (hlo : lo < B64) :
    Calls Try.prog 93 #[.int .u64 0, .int .u64 (lo : Int), .int .u64 (y : Int)] w fun e w' => e = .returned (.tuple #[.int .u64 ((lo / y : Nat) : Int), .int .u64 ((lo % y : Nat) : Int)]) ∧ ∃ q, w' = w.drewN q := by
  have h0 : ((y : Int) == 0) = false := by simp; omega
  have hy' : ¬ (y : Int) ≤ 0 := by omega
  go_enter Try.func93, Try.ntmps93
  go_wp2_with fail
  go_quiet (fail)
  go_wp2_with fail
  go_ret2
  exact ⟨ret_two (e_quo hlo) (by rw [Int.natCast_emod]), nq, rfl⟩

/-- (hi, lo) by y. -/
def dQuo (hi lo y : Nat) : Nat := (hi * B64 + lo) / y
def dRem (hi lo y : Nat) : Nat := (hi * B64 + lo) % y
theorem div64_any (hi lo y : Nat) (w : World) (hy : hi < y) (hyB : y < B64) (hlo : lo < B64) :
    Calls Try.prog 93 #[.int .u64 (hi : Int), .int .u64 (lo : Int), .int .u64 (y : Int)] w fun e w' => e = .returned (.tuple #[.int .u64 (dQuo hi lo y : Nat), .int .u64 (dRem hi lo y : Nat)]) ∧ ∃ q, w' = w.drewN q := by
  unfold dQuo dRem
  by_cases h : 0 < hi
  · exact (div64_big hi lo y w hy hyB hlo h).mono fun e w' ⟨he, hw⟩ => ⟨he, 0, hw.symm⟩
  · obtain rfl : hi = 0 := by omega
    rw [Nat.zero_mul, Nat.zero_add]
    exact div64_zero lo y w (by omega) hlo
theorem dQuo_lt {hi lo y : Nat} (hy : hi < y) (hlo : lo < B64) : dQuo hi lo y < B64 := by
  unfold dQuo
  rw [Nat.div_lt_iff_lt_mul (by omega)]
  have : (hi + 1) * B64 ≤ y * B64 := Nat.mul_le_mul_right _ hy
  rw [Nat.succ_mul] at this
  rw [Nat.mul_comm B64 y]; omega
theorem dRem_lt {hi lo y : Nat} (hy : hi < y) : dRem hi lo y < y := Nat.mod_lt _ (by omega)
/-- One limb more of a division by a limb. -/
theorem byLimb_step {D q r x y : Nat} (h1 : q = D / y) (h2 : r = D % y) (hy : 0 < y) : dQuo r x y + B64 * q = (x + B64 * D) / y ∧ dRem r x y = (x + B64 * D) % y := by
  have e : x + B64 * D = y * (B64 * q) + (r * B64 + x) := by
    have := Nat.div_add_mod D y
    rw [← h1, ← h2] at this
    rw [← this]
    grind
  unfold dQuo dRem
  rw [e, Nat.mul_add_div hy, Nat.mul_add_mod]
  exact ⟨Nat.add_comm _ _, rfl⟩

set_option maxRecDepth 100000 in
set_option maxHeartbeats 1000000 in
theorem byLimb_any (seg post : List Nat) (v g n c : Nat) (w : World) (hz : Own .u64 82 w g (seg ++ post)) (hn : seg.length = n) (Lz : Lim B64 seg) (hv : 0 < v) (hvB : v < B64) (hm : n ≤ maxLen) :
    Calls Try.prog 75 #[.slice (some ⟨g, 0, none⟩) n c, .int .u64 (v : Int)] w fun e w' =>
      e = .returned (.int .u64 ((val B64 seg % v : Nat) : Int)) ∧ (∃ Q, Q.length = n ∧ Lim B64 Q ∧ val B64 Q = val B64 seg / v ∧ Own .u64 82 w' g (Q ++ post)) ∧ Only g w w' := by
  have HS := Lib.hid hn
  clear hn
  unfold maxLen at hm
  go_enter Try.func75, Try.ntmps75
  go_wp2_with fail
  go_loopw [4, 5] (fun b i wr => ∃ (j : Nat) (Q : List Nat) (r : Nat), j ≤ n ∧ r < v ∧ i = .int .i64 ((j : Int) - 1) ∧ b = .int .u64 (r : Int) ∧ Own .u64 82 wr g (seg.take j ++ (Q ++ post)) ∧ Only g w wr ∧
      Hid (Q.length + j = n ∧ Lim B64 Q ∧ val B64 Q = val B64 (seg.drop j) / v ∧ r = val B64 (seg.drop j) % v)) (fun _ i _ => (intOf i + 1).toNat)
  case atStart =>
    refine ⟨n, [], 0, Nat.le_refl _, hv, by go_num, rfl, ?_, Only.refl _ _, by simp, Lim.nil, ?_, ?_⟩
    · rw [List.take_of_length_le (by have := HS.out; omega)]; exact hz
    · rw [List.drop_of_length_le (by have := HS.out; omega)]; simp
    · rw [List.drop_of_length_le (by have := HS.out; omega)]; simp
  case round =>
    obtain ⟨j, Q, r, hj, hr, rfl, rfl, hown, hon, HV⟩ := hrel
    by_cases hj0 : 0 < j
    · have hks : j - 1 < seg.length := by have := HS.out; omega
      obtain ⟨x, hx⟩ : ∃ x, seg[j - 1]? = some x := ⟨_, List.getElem?_eq_getElem hks⟩
      have ht : seg.take j = seg.take (j - 1) ++ [x] := by
        have := List.take_succ_eq_append_getElem hks
        rw [show j - 1 + 1 = j by omega] at this
        rw [this, (List.getElem?_eq_some_iff.1 hx).2]
      have hl : (seg.take (j - 1)).length = j - 1 := by rw [List.length_take]; omega
      have hown2 : Own .u64 82 wr g (seg.take (j - 1) ++ (x :: (Q ++ post))) := by
        rw [ht, List.append_assoc] at hown; exact hown
      have hcz := hown2.cell_len hl
      have hfz := Own.frozen hown2 (j - 1)
      have HX := Lib.hid hx
      have HL := Lib.hid hl
      clear hown hks hx ht hl
      go_wp2_with (go_at_call 93; (with_reducible refine (div64_any r x v _ hr hvB (Lz.get HX.out)).mono ?_); rintro e w' ⟨rfl, q, rfl⟩)
      go_roundw
      case rel =>
        obtain ⟨h1, h2, h3, h4⟩ := HV.out
        obtain ⟨s1, s2⟩ := byLimb_step (x := x) h3 h4 hv
        have hd : val B64 (seg.drop (j - 1)) = x + B64 * val B64 (seg.drop j) := by
          have hks : j - 1 < seg.length := (List.getElem?_eq_some_iff.1 HX.out).1
          rw [List.drop_eq_getElem_cons hks, (List.getElem?_eq_some_iff.1 HX.out).2, val_cons, show j - 1 + 1 = j by omega]
        refine ⟨j - 1, dQuo r x v :: Q, dRem r x v, by omega, dRem_lt hr, by go_num, rfl, ?_, ?_, ?_, ?_, ?_, ?_⟩
        · have := hown2.store_len HL.out (dQuo r x v)
          rw [List.append_assoc] at this
          exact this
        · exact (show Only g w (wr.drewN q) from ⟨hon.os, hon.tape, hon.output, hon.size, hon.block⟩).setCell _ _
        · simp; omega
        · exact Lim.cons (dQuo_lt hr (Lz.get HX.out)) h2
        · rw [val_cons, hd]; exact s1
        · rw [hd]; exact s2
      case measure => simp [intOf]; omega
    · obtain rfl : j = 0 := by omega
      go_wp2_with fail
      go_ret
      obtain ⟨h1, h2, h3, h4⟩ := HV.out
      rw [List.drop_zero] at h3 h4
      exact ⟨ret_int (by rw [h4]), ⟨Q, by omega, h2, h3, by simpa using hown⟩, hon⟩
end Go.Proofs.Ytflcgeehpboldaa
