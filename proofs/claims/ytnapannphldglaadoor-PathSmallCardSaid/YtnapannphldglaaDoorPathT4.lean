/- gessoref11.Text by value. -/
import Derived.Test.YtnapannphldglaaDoorPathT2
import Derived.Test.YtnapannphldglaaDoorPathT3
import Derived.Test.YtnapannphldglaaDoorPathY
import Derived.Test.YtnapannphldglaaDoorPathR2
namespace Go.Proofs.YtnapannphldglaaDoor
open Go Go.RowKit

theorem rgood_any {w : World} {A : Option Addr} {n c : Nat} {l : List Sg} (hv : SGV w A l) (hn : l.length = n) : Calls Tryd.prog 9 #[.slice A n c] w fun e w' => e = .returned (.bool (goodL l)) ∧ w = w' := by
  cases l with
  | nil => cases hn; exact rgood_0
  | cons s r =>
    have eg : goodL (s :: r) = (decide ((s :: r).length ≤ 4096) && decide (s.k = 1) && goodF 0 (s :: r)) := rfl
    rw [eg]
    by_cases hm : (s :: r).length ≤ 4096
    · by_cases hk : s.k = 1
      · rw [decide_eq_true hm, decide_eq_true hk]
        exact rgood_go hv hn (by rw [← hn]; exact hm) rfl hk
      · rw [decide_eq_true hm, decide_eq_false hk]
        exact rgood_kind hv hn (by rw [← hn]; exact hm) rfl hk
    · rw [decide_eq_false hm]
      exact rgood_far (by rw [← hn]; omega)
/-- A part's text, as the reference writes it. -/
def numsR (s : Sg) (m : Nat) : List UInt8 := (List.range m).flatMap fun j => 32 :: Lib.itoa (s.get j)
def headR (s : Sg) : List UInt8 := UInt8.ofNat ((⟨#[63, 77, 76, 81, 67, 75, 90]⟩ : ByteArray).data.toList.getD s.k.toNat 0).toNat :: (if s.k = 5 then 32 :: Lib.itoa s.w else [])
theorem part_ref {s : Sg} {x : Lt} (hx : letterK s.k = some x) : partX x s = headR s ++ numsR s (used s.k).toNat := by
  have hu := used_letter hx
  obtain ⟨hk, hf⟩ := k_kind hx
  have hm := letterK_mem hx
  have ht : ∀ y ∈ ltT, y.f = 0 → y.nb = UInt8.ofNat ((⟨#[63, 77, 76, 81, 67, 75, 90]⟩ : ByteArray).data.toList.getD y.k.toNat 0).toNat := by decide
  unfold partX headR numsR
  rw [ht x hm hf, hk, hu]
  rcases f0_letters x hm hf with ⟨hp, hh, h5⟩ | ⟨hp, hh, h5⟩ | ⟨hp, hh, h5⟩ | ⟨hp, hh, h5⟩ | ⟨hp, hh, h5⟩ <;> rw [hk] at h5 <;> rw [hp, hh] <;> simp [numX, numT, h5, List.range, List.range.loop]
theorem numsR_s (s : Sg) (m : Nat) : numsR s (m + 1) = numsR s m ++ 32 :: Lib.itoa (s.get m) := by
  simp [numsR, List.range_succ]
theorem part_kind {k : Int} {x : Lt} (h : letterK k = some x) : 1 ≤ k ∧ k ≤ 6 := by
  have hk := (k_kind h).1
  have : ∀ y ∈ ltT, 1 ≤ y.k ∧ y.k ≤ 6 := by decide
  rw [← hk]
  exact this x (letterK_mem h)
theorem used_nat {k : Int} {x : Lt} (h : letterK k = some x) : ∃ U : Nat, used k = (U : Int) ∧ U ≤ 6 := by
  have h1 := used_letter h
  have h2 := lt_pts x (letterK_mem h)
  exact ⟨(used k).toNat, by omega, by omega⟩
theorem good_get {s : Sg} (h : goodS s = true) {j : Nat} (hj : j < 6) : -4611686018427387904 ≤ s.get j ∧ s.get j ≤ 4611686018427387904 := by
  obtain ⟨x, hx⟩ := goodS_letter h
  have := isC_iff.1 ((goodS_v hx h).1 j hj).1
  omega
theorem good_w5 {s : Sg} (h : goodS s = true) (h5 : s.k = 5) : -4611686018427387904 ≤ s.w ∧ s.w ≤ 4611686018427387904 := by
  obtain ⟨x, hx⟩ := goodS_letter h
  have h1 := (goodS_v hx h).2
  rw [if_pos h5] at h1
  have := isW_iff.1 h1
  omega
theorem numsR_len (s : Sg) (m : Nat) (h : goodS s = true) (hm : m ≤ 6) : (numsR s m).length ≤ 21 * m := by
  induction m with
  | zero => simp [numsR]
  | succ m ih =>
    have h1 := ih (by omega)
    have h2 := good_get h (show m < 6 by omega)
    have h3 := itoa_len (s.get m) (by omega)
    rw [numsR_s, List.length_append, List.length_cons]
    omega
theorem headR_len (s : Sg) (h : goodS s = true) : (headR s).length ≤ 22 := by
  unfold headR
  by_cases h5 : s.k = 5
  · have h2 := good_w5 h h5
    have h3 := itoa_len s.w (by omega)
    rw [if_pos h5]
    simp only [List.length_cons]
    omega
  · rw [if_neg h5]; simp
theorem letter_cut {k : Int} (h1 : 1 ≤ k) (h6 : k ≤ 6) (W : World) : (Instr.slice 9 (.string ⟨#[63, 77, 76, 81, 67, 75, 90]⟩) (some (.int .i64 k)) (some (.int .i64 (k + 1))) none).run Tryd.prog W = .ok (.string ⟨#[UInt8.ofNat ((⟨#[63, 77, 76, 81, 67, 75, 90]⟩ : ByteArray).data.toList.getD k.toNat 0).toNat]⟩) W := by
  have h : k = 1 ∨ k = 2 ∨ k = 3 ∨ k = 4 ∨ k = 5 ∨ k = 6 := by omega
  rcases h with rfl | rfl | rfl | rfl | rfl | rfl <;> rw [run_slice_string (P := Tryd.prog) W 9 _ .i64 .i64 _ _ Tryd.underlying9 (by decide) (by decide) (by decide)] <;> rfl
end Go.Proofs.YtnapannphldglaaDoor
