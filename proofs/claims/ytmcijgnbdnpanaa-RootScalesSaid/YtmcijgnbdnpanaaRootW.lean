/- gessolaw04.wakes; Exact of a square. -/
import Derived.Test.YtmcijgnbdnpanaaRootB
import Derived.Test.YtmcijgnbdnpanaaTxtQ
namespace Go.Proofs.Ytmcijgnbdnpanaa
open Go Go.RowKit

theorem sq_parts (u : Rat) : (u * u).num = u.num * u.num ∧ (u * u).den = u.den * u.den := by
  have h : u * u = mkRat (u.num * u.num) (u.den * u.den) := by
    conv => lhs; rw [← Rat.mkRat_self u]
    rw [mk_mul]
  rw [h]
  refine mk_cond (Nat.mul_ne_zero u.den_nz u.den_nz) ?_
  rw [Int.natAbs_mul]
  have h0 : Nat.Coprime u.num.natAbs u.den := u.reduced
  exact Nat.Coprime.mul_left (Nat.Coprime.mul_right h0 h0) (Nat.Coprime.mul_right h0 h0)
theorem sq_nn (u : Rat) : 0 ≤ u * u := by
  rcases Rat.le_total (a := 0) (b := u) with h | h
  · exact Rat.mul_nonneg h h
  · have h1 : 0 ≤ -u := by grind
    have := Rat.mul_nonneg h1 h1
    grind
theorem abs_nn {v : Rat} (h : 0 ≤ v) : v.abs = v := by unfold Rat.abs; rw [if_pos h]
theorem abs_ge (v : Rat) : 0 ≤ v.abs := by
  unfold Rat.abs
  split
  · assumption
  · rename_i h
    have := Rat.le_of_lt (Rat.not_le.1 h)
    grind
theorem abs_sq (v : Rat) : v.abs * v.abs = v * v := by
  unfold Rat.abs; split <;> grind
theorem exact_sq {w : World} {s : Bool} {A A' : Option Addr} {n c n' c' k : Nat} {v u : Rat} (X : QR w s A n c A' n' c' v k) (hu : 0 ≤ u) (hv : v = u * u) (hk : k ≤ 78) (hk1 : 1 ≤ k) :
    Calls Try.prog 9 #[.agg #[.bool s, .slice A n c, .slice A' n' c']] w fun e w' => ∃ s A n c B m d, e = .returned (.tuple #[.agg #[.bool s, .slice A n c, .slice B m d], .bool true]) ∧ QG w' s A n c B m d u 40 ∧ Below w.heap.size w w' := by
  have h0 : 0 ≤ v := by rw [hv]; exact Rat.mul_nonneg hu hu
  have hp := sq_parts u
  refine (exact_yy (a := u.num.natAbs) (b := u.den) X h0 hk hk1 ?_ ?_).mono ?_
  · rw [abs_nn h0, hv, hp.1, Int.natAbs_mul]
  · rw [abs_nn h0, hv, hp.2]
  rintro e w' ⟨s1, A1, n1, c1, B1, m1, d1, rfl, hs, p, q, hb⟩
  refine ⟨s1, A1, n1, c1, B1, m1, d1, rfl, ⟨⟨?_, p⟩, q⟩, hb⟩
  rw [hs]
  have : ¬ u.num < 0 := by rw [num_neg_iff]; exact Rat.not_lt.2 hu
  rw [decide_eq_false this]
theorem exact_not {w : World} {s : Bool} {A A' : Option Addr} {n c n' c' k : Nat} {v : Rat} (X : QR w s A n c A' n' c' v k) (hv : 0 ≤ v) (h : ¬ (IsSq v.num.natAbs ∧ IsSq v.den)) (hk : k ≤ 78) (hk1 : 1 ≤ k) :
    Calls Try.prog 9 #[.agg #[.bool s, .slice A n c, .slice A' n' c']] w fun e w' => e = .returned (.tuple #[.agg #[.bool false, .slice none 0 0, .slice none 0 0], .bool false]) ∧ Below w.heap.size w w' := by
  rw [← abs_nn hv] at h
  by_cases h1 : IsSq v.abs.num.natAbs
  · obtain ⟨a, ha⟩ := h1
    exact exact_yn X hv hk hk1 ha (fun q => h ⟨⟨a, ha⟩, q⟩)
  · by_cases h2 : IsSq v.abs.den
    · obtain ⟨b, hb⟩ := h2
      exact exact_ny X hv hk hk1 h1 hb
    · exact exact_nn X hv hk hk1 h1 h2
theorem IsLow.one {v : Rat} {k R S : Nat} (h : IsLow v k R) (g : IsLow v k S) : R = S := IsRoot.one h g
theorem IsHigh.one {v : Rat} {k R S : Nat} (h : IsHigh v k R) (g : IsHigh v k S) : R = S := by
  obtain ⟨a, h1, h2⟩ := h
  obtain ⟨b, g1, g2⟩ := g
  obtain rfl := h1.one g1
  rw [h2, g2]
theorem low_2 : IsLow (Rat.divInt 2 1) 3 11 := by unfold IsLow IsRoot; decide +kernel
theorem high_2 : IsHigh (Rat.divInt 2 1) 3 12 := ⟨11, by unfold IsRoot; decide +kernel, by decide +kernel⟩
theorem qt118 : (⟨(qtxt (inQ 11 3)).toArray⟩ : ByteArray) = ⟨#[49, 49, 47, 56]⟩ := by
  rw [qtxt_f (a := 11) (b := 8) (by decide +kernel) (by decide +kernel) (by decide) (txt_two (a := 1) (b := 1) (by decide) (by decide) (by decide) rfl) (txt_one (d := 8) (by decide) (by decide) rfl)]; rfl
theorem qt32h : (⟨(qtxt (inQ 12 3)).toArray⟩ : ByteArray) = ⟨#[51, 47, 50]⟩ := by
  rw [qtxt_f (a := 3) (b := 2) (by decide +kernel) (by decide +kernel) (by decide) (txt_one (d := 3) (by decide) (by decide) rfl) (txt_one (d := 2) (by decide) (by decide) rfl)]; rfl
theorem qt32e : (⟨(qtxt (Rat.divInt 3 2)).toArray⟩ : ByteArray) = ⟨#[51, 47, 50]⟩ := by
  rw [qtxt_f (a := 3) (b := 2) (by decide +kernel) (by decide +kernel) (by decide) (txt_one (d := 3) (by decide) (by decide) rfl) (txt_one (d := 2) (by decide) (by decide) rfl)]; rfl
theorem not_sq2 : ¬ (IsSq (Rat.divInt 2 1).num.natAbs ∧ IsSq (Rat.divInt 2 1).den) := by
  rintro ⟨⟨a, ha⟩, _⟩
  have h2 : (Rat.divInt 2 1).num.natAbs = 2 := by decide +kernel
  rw [h2] at ha
  rcases Nat.lt_or_ge a 2 with h | h
  · have : a = 0 ∨ a = 1 := by omega
    rcases this with rfl | rfl <;> simp at ha
  · have := Nat.mul_le_mul h h; omega
theorem pow3 : 2 ^ (2 * 3) ≤ B64 ^ 1 := by rw [Nat.pow_one]; decide
theorem pow_lt_B {h j : Nat} (hh : h < 64 * j) : 2 ^ h < B64 ^ j := by
  have e : B64 = 2 ^ 64 := rfl
  rw [e, ← Nat.pow_mul]
  exact Nat.pow_lt_pow_right (by decide) hh
theorem lt40 {h : Nat} (hh : h ≤ 400) : 2 ^ h < B64 ^ 40 := pow_lt_B (j := 40) (by omega)
theorem up_le {h j : Nat} (hh : h ≤ 32 * j) : 2 ^ (2 * h) ≤ B64 ^ j := by
  have e : B64 = 2 ^ 64 := rfl
  rw [e, ← Nat.pow_mul]
  exact Nat.pow_le_pow_right (by decide) (by omega)
/-- low_q, high_q for a number of parts up to 400. -/
theorem low_s {w : World} {s : Bool} {A A' : Option Addr} {n c n' c' k : Nat} {v : Rat} (h : Nat) (X : QR w s A n c A' n' c' v k) (hv : 0 ≤ v) (hk : k ≤ 60) (hk1 : 1 ≤ k) (hh : h ≤ 400) :
    Calls Try.prog 13 #[.agg #[.bool s, .slice A n c, .slice A' n' c'], .int .i64 (h : Int)] w (GivesPart w (IsLow v h) h) := low_q h 13 X hv (up_le (by omega)) (by omega) (lt40 hh) hk1 (by omega)
theorem high_s {w : World} {s : Bool} {A A' : Option Addr} {n c n' c' k : Nat} {v : Rat} (h : Nat) (X : QR w s A n c A' n' c' v k) (hv : 0 ≤ v) (hk : k ≤ 60) (hk1 : 1 ≤ k) (hh : h ≤ 400) :
    Calls Try.prog 14 #[.agg #[.bool s, .slice A n c, .slice A' n' c'], .int .i64 (h : Int)] w (GivesPart w (IsHigh v h) h) := high_q h 13 X hv (up_le (by omega)) (by omega) (lt40 hh) hk1 (by omega)
theorem low_23 {w : World} {s : Bool} {A A' : Option Addr} {n c n' c' k : Nat} (X : QR w s A n c A' n' c' (Rat.divInt 2 1) k) (hk : k ≤ 60) (hk1 : 1 ≤ k) :
    Calls Try.prog 13 #[.agg #[.bool s, .slice A n c, .slice A' n' c'], .int .i64 3] w (GivesQE w (inQ 11 3) 40) :=
  (low_s 3 X (by decide +kernel) hk hk1 (by decide)).mono fun e w' h => by
    obtain ⟨R, h1, h2⟩ := h
    rw [h1.one low_2] at h2
    exact h2
theorem high_23 {w : World} {s : Bool} {A A' : Option Addr} {n c n' c' k : Nat} (X : QR w s A n c A' n' c' (Rat.divInt 2 1) k) (hk : k ≤ 60) (hk1 : 1 ≤ k) :
    Calls Try.prog 14 #[.agg #[.bool s, .slice A n c, .slice A' n' c'], .int .i64 3] w (GivesQE w (inQ 12 3) 40) :=
  (high_s 3 X (by decide +kernel) hk hk1 (by decide)).mono fun e w' h => by
    obtain ⟨R, h1, h2⟩ := h
    rw [h1.one high_2] at h2
    exact h2
theorem sq94 : Rat.divInt 9 4 = Rat.divInt 3 2 * Rat.divInt 3 2 := by decide +kernel
set_option maxRecDepth 100000 in
set_option maxHeartbeats 8000000 in
theorem rwakes_any (w : World) : Calls Try.prog 8 #[] w fun e w' => e = .returned (.bool true) ∧ Below w.heap.size w w' := by
  have hb : Below w.heap.size w w := Below.refl _ _
  go_enter Try.func8, Try.ntmps8
  go_upto_region 2 with (first
      | (go_at_call 16; (with_reducible refine (rof_q 2 1 (by decide) (by decide) (by decide) (by decide) (by decide) _).mono ?_); rintro e w_o ⟨s_o, A_o, n_o, c_o, B_o, m_o, d_o, rfl, o, hh⟩
         try replace l := l.below hh
         try replace h := h.below hh
         try replace x := x.below hh
         try replace XL := XL.below hh
         try replace XH := XH.below hh
         try replace XC := XC.below hh
         try replace XE := XE.below hh
         replace hb := bend hb hh)
      | (go_at_call 13; (with_reducible refine (low_23 o.qr (by decide) (by decide)).mono ?_); rintro e w_l ⟨s_l, A_l, n_l, c_l, B_l, m_l, d_l, rfl, l, hh⟩
         try replace o := o.below hh
         try replace h := h.below hh
         try replace x := x.below hh
         try replace XL := XL.below hh
         try replace XH := XH.below hh
         try replace XC := XC.below hh
         try replace XE := XE.below hh
         replace hb := bend hb hh))
  clear o
  generalize hW : (w_l.alloc (Obj.cells #[Value.bool s_l, Value.slice A_l n_l c_l, Value.slice B_l m_l d_l] 26)) = W1
  have hh : Below w_l.heap.size w_l W1 := by subst hW; exact ((Below.refl _ _).alloc (Nat.le_refl _) _)
  have XL : B3 W1 (w_l.heap.size) (Value.bool s_l) (Value.slice A_l n_l c_l) (Value.slice B_l m_l d_l) := by subst hW; exact B3.new' _ _ _ _ _ rfl
  have hzW1 : W1.heap.size = w_l.heap.size + 1 := by subst hW; simp
  clear hW
  try replace l := l.below hh
  replace hb := bend hb hh
  go_upto_region 3 with (first
      | (go_at_call 16; (with_reducible refine (rof_q 2 1 (by decide) (by decide) (by decide) (by decide) (by decide) _).mono ?_); rintro e w_o ⟨s_o, A_o, n_o, c_o, B_o, m_o, d_o, rfl, o, hh⟩
         try replace l := l.below hh
         try replace h := h.below hh
         try replace x := x.below hh
         try replace XL := XL.below hh
         try replace XH := XH.below hh
         try replace XC := XC.below hh
         try replace XE := XE.below hh
         replace hb := bend hb hh)
      | (go_at_call 14; (with_reducible refine (high_23 o.qr (by decide) (by decide)).mono ?_); rintro e w_h ⟨s_h, A_h, n_h, c_h, B_h, m_h, d_h, rfl, h, hh⟩
         try replace o := o.below hh
         try replace l := l.below hh
         try replace x := x.below hh
         try replace XL := XL.below hh
         try replace XH := XH.below hh
         try replace XC := XC.below hh
         try replace XE := XE.below hh
         replace hb := bend hb hh))
  clear o
  generalize hW : (w_h.alloc (Obj.cells #[Value.bool s_h, Value.slice A_h n_h c_h, Value.slice B_h m_h d_h] 26)) = W2
  have hh : Below w_h.heap.size w_h W2 := by subst hW; exact ((Below.refl _ _).alloc (Nat.le_refl _) _)
  have XH : B3 W2 (w_h.heap.size) (Value.bool s_h) (Value.slice A_h n_h c_h) (Value.slice B_h m_h d_h) := by subst hW; exact B3.new' _ _ _ _ _ rfl
  have hzW2 : W2.heap.size = w_h.heap.size + 1 := by subst hW; simp
  clear hW
  try replace l := l.below hh
  try replace h := h.below hh
  try replace XL := XL.below hh
  replace hb := bend hb hh
  go_upto_region 4 with (first
      | (go_at_call 16; (with_reducible refine (rof_q 9 4 (by decide) (by decide) (by decide) (by decide) (by decide) _).mono ?_); rintro e w_o ⟨s_o, A_o, n_o, c_o, B_o, m_o, d_o, rfl, o, hh⟩
         try replace l := l.below hh
         try replace h := h.below hh
         try replace x := x.below hh
         try replace XL := XL.below hh
         try replace XH := XH.below hh
         try replace XC := XC.below hh
         try replace XE := XE.below hh
         replace hb := bend hb hh)
      | (go_at_call 9; (with_reducible refine (exact_sq o.qr (by decide +kernel) sq94 (by decide) (by decide)).mono ?_); rintro e w_x ⟨s_x, A_x, n_x, c_x, B_x, m_x, d_x, rfl, x, hh⟩
         try replace o := o.below hh
         try replace l := l.below hh
         try replace h := h.below hh
         try replace XL := XL.below hh
         try replace XH := XH.below hh
         try replace XC := XC.below hh
         try replace XE := XE.below hh
         replace hb := bend hb hh))
  clear o
  generalize hW : (w_x.alloc (Obj.cells #[Value.bool s_x, Value.slice A_x n_x c_x, Value.slice B_x m_x d_x] 26)) = W3
  have hh : Below w_x.heap.size w_x W3 := by subst hW; exact ((Below.refl _ _).alloc (Nat.le_refl _) _)
  have XC : B3 W3 (w_x.heap.size) (Value.bool s_x) (Value.slice A_x n_x c_x) (Value.slice B_x m_x d_x) := by subst hW; exact B3.new' _ _ _ _ _ rfl
  have hzW3 : W3.heap.size = w_x.heap.size + 1 := by subst hW; simp
  clear hW
  try replace l := l.below hh
  try replace h := h.below hh
  try replace x := x.below hh
  try replace XL := XL.below hh
  try replace XH := XH.below hh
  replace hb := bend hb hh
  go_upto_region 5 with (first
      | (go_at_call 16; (with_reducible refine (rof_q 2 1 (by decide) (by decide) (by decide) (by decide) (by decide) _).mono ?_); rintro e w_o ⟨s_o, A_o, n_o, c_o, B_o, m_o, d_o, rfl, o, hh⟩
         try replace l := l.below hh
         try replace h := h.below hh
         try replace x := x.below hh
         try replace XL := XL.below hh
         try replace XH := XH.below hh
         try replace XC := XC.below hh
         try replace XE := XE.below hh
         replace hb := bend hb hh)
      | (go_at_call 9; (with_reducible refine (exact_not o.qr (by decide +kernel) not_sq2 (by decide) (by decide)).mono ?_); rintro e w_e ⟨rfl, hh⟩
         try replace o := o.below hh
         try replace l := l.below hh
         try replace h := h.below hh
         try replace x := x.below hh
         try replace XL := XL.below hh
         try replace XH := XH.below hh
         try replace XC := XC.below hh
         try replace XE := XE.below hh
         replace hb := bend hb hh))
  clear o
  generalize hW : (w_e.alloc (Obj.cells #[Value.bool false, Value.slice none 0 0, Value.slice none 0 0] 26)) = W4
  have hh : Below w_e.heap.size w_e W4 := by subst hW; exact ((Below.refl _ _).alloc (Nat.le_refl _) _)
  have XE : B3 W4 (w_e.heap.size) (Value.bool false) (Value.slice none 0 0) (Value.slice none 0 0) := by subst hW; exact B3.new' _ _ _ _ _ rfl
  have hzW4 : W4.heap.size = w_e.heap.size + 1 := by subst hW; simp
  clear hW
  try replace l := l.below hh
  try replace h := h.below hh
  try replace x := x.below hh
  try replace XL := XL.below hh
  try replace XH := XH.below hh
  try replace XC := XC.below hh
  replace hb := bend hb hh
  have xl0 := XL.c0
  have xl1 := XL.c1
  have xl2 := XL.c2
  have xh0 := XH.c0
  have xh1 := XH.c1
  have xh2 := XH.c2
  have xc0 := XC.c0
  have xc1 := XC.c1
  have xc2 := XC.c2
  go_wp2_with (first
      | (go_at_call 28; (with_reducible refine (rtext_q l.qr (by decide) (by decide)).mono ?_); rintro e w_z ⟨rfl, hh⟩
         rw [qt118]
         try replace o := o.below hh
         try replace l := l.below hh
         try replace h := h.below hh
         try replace x := x.below hh
         try replace XL := XL.below hh
         try replace XH := XH.below hh
         try replace XC := XC.below hh
         try replace XE := XE.below hh
         replace hb := bend hb hh
         have xl0 := XL.c0
         have xl1 := XL.c1
         have xl2 := XL.c2
         have xh0 := XH.c0
         have xh1 := XH.c1
         have xh2 := XH.c2
         have xc0 := XC.c0
         have xc1 := XC.c1
         have xc2 := XC.c2)
      | (go_at_call 28; (with_reducible refine (rtext_q h.qr (by decide) (by decide)).mono ?_); rintro e w_z ⟨rfl, hh⟩
         rw [qt32h]
         try replace o := o.below hh
         try replace l := l.below hh
         try replace h := h.below hh
         try replace x := x.below hh
         try replace XL := XL.below hh
         try replace XH := XH.below hh
         try replace XC := XC.below hh
         try replace XE := XE.below hh
         replace hb := bend hb hh
         have xl0 := XL.c0
         have xl1 := XL.c1
         have xl2 := XL.c2
         have xh0 := XH.c0
         have xh1 := XH.c1
         have xh2 := XH.c2
         have xc0 := XC.c0
         have xc1 := XC.c1
         have xc2 := XC.c2)
      | (go_at_call 28; (with_reducible refine (rtext_q x.qr (by decide) (by decide)).mono ?_); rintro e w_z ⟨rfl, hh⟩
         rw [qt32e]
         try replace o := o.below hh
         try replace l := l.below hh
         try replace h := h.below hh
         try replace x := x.below hh
         try replace XL := XL.below hh
         try replace XH := XH.below hh
         try replace XC := XC.below hh
         try replace XE := XE.below hh
         replace hb := bend hb hh
         have xl0 := XL.c0
         have xl1 := XL.c1
         have xl2 := XL.c2
         have xh0 := XH.c0
         have xh1 := XH.c1
         have xh2 := XH.c2
         have xc0 := XC.c0
         have xc1 := XC.c1
         have xc2 := XC.c2))
  go_ret
  exact ⟨rfl, hb⟩
end Go.Proofs.Ytmcijgnbdnpanaa
