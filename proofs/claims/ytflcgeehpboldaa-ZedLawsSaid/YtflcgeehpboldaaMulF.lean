/- nat.product and nat.Mul, where one of the numbers has 40 limbs at most. -/
import Derived.Test.YtflcgeehpboldaaProd
namespace Go.Proofs.Ytflcgeehpboldaa
open Go.RowKit

/-- What product leaves: a block of its own with the product, as many limbs as both have together. -/
def ProductOf (la lb : List Nat) (n m : Nat) (w : World) (e : Ending) (w' : World) : Prop :=
  ∃ N, N = n + m ∧ e = .returned (.slice (some ⟨w.heap.size, 0, none⟩) N N) ∧ (∃ L, L.length = n + m ∧ Lim B64 L ∧ val B64 L = val B64 la * val B64 lb ∧ Own .u64 82 w' w.heap.size L) ∧ Below w.heap.size w w'

set_option maxRecDepth 100000 in
theorem product_few (la lb : List Nat) (A B : Option Addr) (n c m d : Nat) (w : World) (ha : Rd .u64 w A n la) (hb : Rd .u64 w B m lb) (La : Lim B64 la) (Lb : Lim B64 lb) (hnm0 : n + m ≤ 35184372088832)
    (hfew : n ≤ 40 ∨ m ≤ 40) :
    Calls Try.prog 70 #[.slice A n c, .slice B m d] w (ProductOf la lb n m w) := by
  have hnm : n + m ≤ 2 ^ 45 := by omega
  have HNM := Lib.hid hnm0
  clear hnm0
  by_cases hlt : n < m
  · have hn : n ≤ 40 := by omega
    have hd : decide ((n : Int) ≤ 40) = true := by simp; omega
    go_enter Try.func70, Try.ntmps70
    go_wp2_with (go_at_call 89; refine (limbProduct_any lb la B A m d n c _ hb ha Lb La (by have := HNM.out; omega)).mono ?_; rintro e w' ⟨rfl, ⟨L, h1, h2, h3, h4⟩, h5⟩)
    go_ret
    exact ⟨m + n, by omega, rfl, ⟨L, by omega, h2, by rw [h3, Nat.mul_comm], h4⟩, h5⟩
  · have hn : m ≤ 40 := by omega
    have hd : decide ((m : Int) ≤ 40) = true := by simp; omega
    go_enter Try.func70, Try.ntmps70
    go_wp2_with (go_at_call 89; refine (limbProduct_any la lb A B n c m d _ ha hb La Lb HNM.out).mono ?_; rintro e w' ⟨rfl, ⟨L, h1, h2, h3, h4⟩, h5⟩)
    go_ret
    exact ⟨n + m, rfl, rfl, ⟨L, h1, h2, h3, h4⟩, h5⟩

set_option maxRecDepth 100000 in
theorem mul_few (la lb : List Nat) (A B : Option Addr) (n c m d : Nat) (w : World) (ha : Rd .u64 w A n la) (hb : Rd .u64 w B m lb) (La : Lim B64 la) (Lb : Lim B64 lb) (hnm0 : n + m ≤ 35184372088832)
    (hnc : n ≤ c) (hmd : m ≤ d) (hfew : n ≤ 40 ∨ m ≤ 40) :
    Calls Try.prog 49 #[.slice A n c, .slice B m d] w (GivesS .u64 82 w (limbs B64 (val B64 la * val B64 lb))) := by
  have HN : Hid (n ≤ maxLen ∧ m ≤ maxLen) := ⟨by unfold maxLen; omega, by unfold maxLen; omega⟩
  have HNM := Lib.hid hnm0
  clear hnm0
  generalize hX : limbs B64 (val B64 la) = xs
  have LX : Lim B64 xs := by rw [← hX]; exact lim_limbs B64_two _
  generalize hY : limbs B64 (val B64 lb) = ys
  have LY : Lim B64 ys := by rw [← hY]; exact lim_limbs B64_two _
  have HX := Lib.hid hX
  have HY := Lib.hid hY
  clear hX hY
  go_enter Try.func49, Try.ntmps49
  go_wp2_with (first
    | (go_at_call 66; (with_reducible refine (trim_any la A n c w ha La HN.out.1 hnc).mono ?_); rintro e w' ⟨⟨k, hk, rfl, hka⟩, rfl⟩; rw [HX.out] at hka)
    | (go_at_call 66; (with_reducible refine (trim_any lb B m d w hb Lb HN.out.2 hmd).mono ?_); rintro e w' ⟨⟨k2, hk2, rfl, hkb⟩, rfl⟩; rw [HY.out] at hkb)
    | (go_at_call 70; refine (product_few xs ys A B k c k2 d w hka hkb LX LY (by have := HNM.out; omega) (by omega)).mono ?_; rintro e w1 ⟨N, hN, rfl, ⟨L, h1, h2, h3, h4⟩, h5⟩
       have HN' := Lib.hid (h1.trans hN.symm)
       have H3 := Lib.hid h3
       have HNN : Hid (N ≤ maxLen) := by (show N ≤ maxLen; have := HNM.out; unfold maxLen; omega)
       clear hN h1 h3)
    | (go_at_call 66; refine (trim_own L w.heap.size N w.heap.size w1 h4 (Nat.le_refl _) HN'.out h2 HNN.out).mono ?_; rintro e w' ⟨⟨k3, hk3, rfl, hfr⟩, rfl⟩))
  go_ret
  rw [H3.out, ← HX.out, ← HY.out, val_limbs B64_two, val_limbs B64_two] at hfr
  exact ⟨_, _, _, rfl, hk3, HNN.out, hfr, h5⟩
end Go.Proofs.Ytflcgeehpboldaa
