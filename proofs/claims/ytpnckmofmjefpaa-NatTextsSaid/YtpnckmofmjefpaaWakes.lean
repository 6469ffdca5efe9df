/- gessolaw01.wakes. -/
import Derived.Test.YtpnckmofmjefpaaDivF
import Derived.Test.YtpnckmofmjefpaaSums
import Derived.Test.YtpnckmofmjefpaaParseF
import Derived.Test.YtpnckmofmjefpaaTextF
namespace Go.Proofs.Ytpnckmofmjefpaa
open Go.RowKit

theorem w_mul : limbs B64 (val B64 [topN] * val B64 [topN]) = [1, topM] := limbs_lit B64_two (lim2 (by decide) (by decide)) (by decide) (by decide +kernel)
theorem w_rem : limbs B64 (val B64 [0, 0, 1] % val B64 [3]) = [1] := limbs_lit B64_two (lim1 (by decide)) (by decide) (by decide +kernel)
theorem w_quo : (limbs B64 (val B64 [0, 0, 1] / val B64 [3])).length = 2 := by
  have h1 := length_limbs_le B64_two (n := val B64 [0, 0, 1] / val B64 [3]) (k := 2) (by decide +kernel)
  have h2 : 2 ≤ (limbs B64 (val B64 [0, 0, 1] / val B64 [3])).length := by
    rcases Nat.lt_or_ge (limbs B64 (val B64 [0, 0, 1] / val B64 [3])).length 2 with h | h
    · have h3 := lt_pow_limbs B64_two (val B64 [0, 0, 1] / val B64 [3])
      have h4 := Nat.pow_le_pow_right (n := B64) (by decide) (show (limbs B64 (val B64 [0, 0, 1] / val B64 [3])).length ≤ 1 by omega)
      have h5 : B64 ^ 1 ≤ val B64 [0, 0, 1] / val B64 [3] := by decide +kernel
      omega
    · exact h
  omega
abbrev wStr : ByteArray := ⟨#[49, 56, 52, 52, 54, 55, 52, 52, 48, 55, 51, 55, 48, 57, 53, 53, 49, 54, 49, 54]⟩
theorem w_dec : limbs B64 (dec wStr.data.toList) = [0, 1] := limbs_lit B64_two (lim2 (by decide) (by decide)) (by decide) (by decide +kernel)
theorem w_txt : (⟨(txt (val B64 [0, 1])).toArray⟩ : ByteArray) = wStr := by
  rw [txt_lit (l := [6, 1, 6, 1, 5, 5, 9, 0, 7, 3, 7, 0, 4, 4, 7, 6, 4, 4, 8, 1]) (limbs_lit (by omega) (by intro x hx; revert x; decide) (by decide) (by decide +kernel)) (by decide +kernel)]
  rfl
abbrev bTop : Obj := .cells #[.int .u64 18446744073709551615] 34
abbrev b001 : Obj := .cells #[.int .u64 0, .int .u64 0, .int .u64 1] 34
abbrev b3 : Obj := .cells #[.int .u64 3] 34
abbrev b5 : Obj := .cells #[.int .u64 5] 34
abbrev b1M : Obj := .cells #[.int .u64 1, .int .u64 18446744073709551614] 34
abbrev b1 : Obj := .cells #[.int .u64 1] 34
abbrev b01 : Obj := .cells #[.int .u64 0, .int .u64 1] 34
theorem rd_top (W : World) : Rd .u64 (W.alloc bTop) (some ⟨W.heap.size, 0, none⟩) 1 [topN] := by
  have h := lit_rd (K := .u64) (e := 34) W [topN] 1 rfl
  have e : (nums .u64 [topN]).toArray = #[.int .u64 18446744073709551615] := by simp [nums, topN]
  rwa [e] at h
theorem rd_001 (W : World) : Rd .u64 (W.alloc b001) (some ⟨W.heap.size, 0, none⟩) 3 [0, 0, 1] := lit_rd (K := .u64) (e := 34) W [0, 0, 1] 3 rfl
theorem rd_3 (W : World) : Rd .u64 (W.alloc b3) (some ⟨W.heap.size, 0, none⟩) 1 [3] := lit_rd (K := .u64) (e := 34) W [3] 1 rfl
theorem rd_5 (W : World) : Rd .u64 (W.alloc b5) (some ⟨W.heap.size, 0, none⟩) 1 [5] := lit_rd (K := .u64) (e := 34) W [5] 1 rfl
theorem rd_1 (W : World) : Rd .u64 (W.alloc b1) (some ⟨W.heap.size, 0, none⟩) 1 [1] := lit_rd (K := .u64) (e := 34) W [1] 1 rfl
theorem rd_01 (W : World) : Rd .u64 (W.alloc b01) (some ⟨W.heap.size, 0, none⟩) 2 [0, 1] := lit_rd (K := .u64) (e := 34) W [0, 1] 2 rfl
theorem rd_1M (W : World) : Rd .u64 (W.alloc b1M) (some ⟨W.heap.size, 0, none⟩) 2 [1, topM] := by
  have h := lit_rd (K := .u64) (e := 34) W [1, topM] 2 rfl
  have e : (nums .u64 [1, topM]).toArray = #[.int .u64 1, .int .u64 18446744073709551614] := by simp [nums, topM]
  rwa [e] at h

/-- The calls of wakes, each at the blocks that are laid just ahead of it. -/
theorem k_mul (W : World) : Calls Try.prog 24 #[.slice (some ⟨W.heap.size, 0, none⟩) 1 1, .slice (some ⟨W.heap.size + 1, 0, none⟩) 1 1] ((W.alloc bTop).alloc bTop) fun e w' =>
    ∃ A c, e = .returned (.slice A 2 c) ∧ Rd .u64 w' A 2 [1, topM] ∧ Below W.heap.size W w' := by
  have h2 := rd_top (W.alloc bTop)
  rw [World.size_alloc] at h2
  refine (mul_few [topN] [topN] _ _ 1 1 1 1 _ ((rd_top W).alloc _) h2 (lim1 (by decide)) (lim1 (by decide)) (by omega) (by omega) (by omega) (by omega)).mono ?_
  rintro e w1 ⟨A1, n1, c1, rfl, p1, p2, p3, p4⟩
  rw [w_mul] at p3
  obtain rfl : n1 = 2 := p3.1.symm
  exact ⟨A1, c1, rfl, p3.rd, (((Below.refl _ _).alloc (Nat.le_refl _) _).alloc (by simp) _).trans (p4.mono (by simp; omega))⟩
theorem k_div (W : World) : Calls Try.prog 29 #[.slice (some ⟨W.heap.size, 0, none⟩) 3 3, .slice (some ⟨W.heap.size + 1, 0, none⟩) 1 1] ((W.alloc b001).alloc b3) fun e w' =>
    ∃ A c A' c', e = .returned (.tuple #[.slice A 2 c, .slice A' 1 c', .int .i64 0]) ∧ Rd .u64 w' A' 1 [1] ∧ Below W.heap.size W w' := by
  have h2 := rd_3 (W.alloc b001)
  rw [World.size_alloc] at h2
  refine (divmod_limb [0, 0, 1] [3] _ _ 3 3 1 1 _ ((rd_001 W).alloc _) h2 (lim3 (by decide) (by decide) (by decide)) (lim1 (by decide)) (by omega) (by omega) (by omega) (by omega) (by decide +kernel) (by decide) (by decide)).mono ?_
  rintro e w1 ⟨A1, n1, c1, A2, n2, c2, rfl, p1, p2, p3, p4, p5, p6, p7⟩
  rw [w_rem] at p6
  obtain rfl : n2 = 1 := p6.1.symm
  obtain rfl : n1 = 2 := p5.1.symm.trans w_quo
  exact ⟨A1, c1, A2, c2, rfl, p6.rd, (((Below.refl _ _).alloc (Nat.le_refl _) _).alloc (by simp) _).trans (p7.mono (by simp; omega))⟩
theorem k_zero (W : World) : Calls Try.prog 29 #[.slice (some ⟨W.heap.size, 0, none⟩) 1 1, .slice none 0 0] (W.alloc b5) fun e w' => e = .returned (.tuple #[.slice none 0 0, .slice none 0 0, .int .i64 12]) ∧ W.alloc b5 = w' :=
  divmod_zero [5] [] _ none 1 1 0 0 _ (rd_5 W) Rd.nil (lim1 (by decide)) Lim.nil (by omega) (by omega) (by omega) (by omega) rfl
theorem k_parse (W : World) : Calls Try.prog 43 #[.string wStr] W fun e w' =>
    ∃ A c, e = .returned (.tuple #[.slice A 2 c, .int .i64 0]) ∧ Rd .u64 w' A 2 [0, 1] ∧ Below W.heap.size W w' := by
  refine (parse_ok wStr W (by decide) (by decide)).mono ?_
  rintro e w1 ⟨A1, n1, c1, rfl, p1, p2, p3, p4⟩
  rw [w_dec] at p3
  obtain rfl : n1 = 2 := p3.1.symm
  exact ⟨A1, c1, rfl, p3.rd, p4⟩
theorem k_text (W : World) (q : Nat) : Calls Try.prog 45 #[.slice (some ⟨W.heap.size, 0, none⟩) 2 2] ((W.alloc b01).drewN q) fun e w' => e = .returned (.string wStr) ∧ Below W.heap.size W w' := by
  refine (text_small [0, 1] _ 2 2 _ ((rd_01 W).drewN q) (lim2 (by decide) (by decide)) (by omega) (by omega)).mono ?_
  rintro e w1 ⟨rfl, p4⟩
  exact ⟨by rw [w_txt], (below_drawn ((Below.refl _ _).alloc (Nat.le_refl _) _) q).trans (p4.mono (by show W.heap.size ≤ (W.alloc _).heap.size; simp))⟩

theorem k_nats (W0 W : World) (b : Obj) (L : List Nat) (A B : Option Addr) (n c m d : Nat) (q : Nat) (hr : Rd .u64 W0 A n L) (hb : Below W0.heap.size W0 W) (hl : Rd .u64 (W.alloc b) B m L) (hn : n ≤ maxLen) :
    Calls Try.prog 28 #[.slice A n c, .slice B m d] ((W.alloc b).drewN q) fun e w' => e = .returned (.bool true) ∧ ∃ k, w' = ((W.alloc b).drewN q).drewN k :=
  nats_true L L A B n c m d _ ((hr.below (hb.alloc hb.size b)).drewN q) (hl.drewN q) hn rfl
theorem k_nats0 (W0 W : World) (b : Obj) (L : List Nat) (A B : Option Addr) (n c m d : Nat) (hr : Rd .u64 W0 A n L) (hb : Below W0.heap.size W0 W) (hl : Rd .u64 (W.alloc b) B m L) (hn : n ≤ maxLen) :
    Calls Try.prog 28 #[.slice A n c, .slice B m d] (W.alloc b) fun e w' => e = .returned (.bool true) ∧ ∃ k, w' = (W.alloc b).drewN k :=
  nats_true L L A B n c m d _ (hr.below (hb.alloc hb.size b)) hl hn rfl
theorem k_text' (W : World) (g q : Nat) (hg : g = W.heap.size) : Calls Try.prog 45 #[.slice (some ⟨g, 0, none⟩) 2 2] ((W.alloc b01).drewN q) fun e w' => e = .returned (.string wStr) ∧ Below W.heap.size W w' := by
  subst hg; exact k_text W q
theorem k_text0 (W : World) (g : Nat) (hg : g = W.heap.size) : Calls Try.prog 45 #[.slice (some ⟨g, 0, none⟩) 2 2] (W.alloc b01) fun e w' => e = .returned (.string wStr) ∧ Below W.heap.size W w' := by
  subst hg; exact k_text W 0
theorem rd_1' (W : World) (g : Nat) (hg : g = W.heap.size) : Rd .u64 (W.alloc b1) (some ⟨g, 0, none⟩) 1 [1] := by subst hg; exact rd_1 W
theorem rd_01' (W : World) (g : Nat) (hg : g = W.heap.size) : Rd .u64 (W.alloc b01) (some ⟨g, 0, none⟩) 2 [0, 1] := by subst hg; exact rd_01 W

set_option maxRecDepth 100000 in
set_option maxHeartbeats 1000000 in
theorem wakes_any (w : World) : Calls Try.prog 15 #[] w fun e w' => e = .returned (.bool true) ∧ Below w.heap.size w w' := by
  have hg2 : (2 : Nat) ≤ maxLen := by decide
  have hg1 : (1 : Nat) ≤ maxLen := by decide
  have HG := Lib.hid (And.intro hg1 hg2)
  clear hg1 hg2
  go_enter Try.func15, Try.ntmps15
  go_wp2_with (first
    | (go_at_call 24; ((with_reducible refine (k_mul _).mono ?_); rintro e w1 ⟨A1, c1, rfl, r1, h1⟩))
    | (go_at_call 29; ((with_reducible refine (k_div _).mono ?_); rintro e w2 ⟨A2, c2, A3, c3, rfl, r2, h2⟩))
    | (go_at_call 29; ((with_reducible refine (k_zero _).mono ?_); rintro e w' ⟨rfl, rfl⟩))
    | (go_at_call 43; (with_reducible refine (k_parse _).mono ?_); rintro e w3 ⟨A4, c4, rfl, r3, h3⟩
       have c23 : Below w2.heap.size w2 w3 := ((Below.refl _ _).alloc (Nat.le_refl _) _).trans (h3.mono (by simp))
       have c13 : Below w1.heap.size w1 w3 := h2.trans (c23.mono h2.size)
       have c03 : Below w.heap.size w w3 := h1.trans (c13.mono h1.size)
       have d23 := c23.alloc c23.size b1M
       have d3 := (Below.refl w3.heap.size w3).alloc (Nat.le_refl _) b1M)
    | (go_at_call 28; ((with_reducible refine (k_nats0 w1 w3 b1M [1, topM] _ _ _ _ _ _ r1 c13 (rd_1M w3) HG.out.2).mono ?_); rintro e w' ⟨rfl, q1, rfl⟩))
    | (go_at_call 28; ((with_reducible refine (k_nats0 w2 ((w3.alloc b1M).drewN q1) b1 [1] _ _ _ _ _ _ r2 (below_drawn d23 q1) (rd_1' _ _ (by simp)) HG.out.1).mono ?_); rintro e w' ⟨rfl, q2, rfl⟩))
    | (go_at_call 28; ((with_reducible refine (k_nats0 w3 ((((w3.alloc b1M).drewN q1).alloc b1).drewN q2) b01 [0, 1] _ _ _ _ _ _ r3 (below_drawn ((below_drawn d3 q1).alloc (by simp) b1) q2) (rd_01' _ _ (by simp)) HG.out.2).mono ?_); rintro e w' ⟨rfl, q3, rfl⟩))
    | (go_at_call 45; (with_reducible refine (k_text0 ((((((w3.alloc b1M).drewN q1).alloc b1).drewN q2).alloc b01).drewN q3) _ (by simp)).mono ?_); rintro e w4 ⟨rfl, h4⟩
       have h4' : Below w3.heap.size ((((((w3.alloc b1M).drewN q1).alloc b1).drewN q2).alloc b01).drewN q3) w4 := h4.mono (by simp; omega)
       have c34 : Below w3.heap.size w3 w4 := (below_drawn ((below_drawn ((below_drawn d3 q1).alloc (by simp) b1) q2).alloc (by simp; omega) b01) q3).trans h4'
       have r4 := r3.below c34)
    | (go_at_call 27; ((with_reducible refine (good_any [0, 1] _ _ _ _ r4 HG.out.2).mono ?_); rintro e w' ⟨rfl, rfl⟩)))
  go_ret
  exact ⟨rfl, c03.trans (c34.mono c03.size)⟩
end Go.Proofs.Ytpnckmofmjefpaa
