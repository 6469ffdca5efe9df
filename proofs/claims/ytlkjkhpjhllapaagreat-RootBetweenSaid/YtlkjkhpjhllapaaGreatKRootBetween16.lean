/- RootBetween: part 16. -/
import Derived.Test.YtlkjkhpjhllapaaGreatKRootBetween12
import Derived.Test.YtlkjkhpjhllapaaGreatKRootBetween14
import Derived.Test.YtlkjkhpjhllapaaGreatKRootBetween15
set_option linter.unusedVariables false
namespace Go.Proofs.YtlkjkhpjhllapaaGreat
open Go Go.RowKit
theorem cmpQ_zero {v u : Rat} : cmpQ v u = 0 ↔ v = u := by
  unfold cmpQ
  split
  · rename_i q; exact ⟨fun e => absurd e (by decide), fun e => by rw [e] at q; exact absurd q Rat.lt_irrefl⟩
  · split
    · rename_i q; exact ⟨fun e => absurd e (by decide), fun e => by rw [e] at q; exact absurd q Rat.lt_irrefl⟩
    · rename_i q r; exact ⟨fun _ => Rat.le_antisymm (Rat.not_lt.1 r) (Rat.not_lt.1 q), fun _ => rfl⟩
theorem inQ_mk (V h : Nat) : mkRat (iv false V) (2 ^ h) = inQ V h := by
  unfold inQ
  rw [Rat.divInt_ofNat]; rfl
theorem four_up (v : Rat) (h : Nat) : v * Rat.divInt (iv false (1 * 2 ^ (2 * h))) 1 = upQ v h := by
  unfold upQ
  rw [int1, Nat.one_mul, Nat.pow_mul]; rfl
theorem inQ_mono {a b : Nat} (h : Nat) (hab : a ≤ b) : inQ a h ≤ inQ b h := by
  have e : inQ a h * ((2 ^ h : Nat) : Rat) ≤ inQ b h * ((2 ^ h : Nat) : Rat) := by
    rw [inQ_eq, inQ_eq, ← castN, ← castN]; exact Rat.intCast_le_intCast.2 (by omega)
  exact Rat.le_of_mul_le_mul_right e (two_pos h)
theorem inQ_succ (R h : Nat) : inQ R h + inQ 1 h = inQ (R + 1) h := by
  have e1 := inQ_eq R h
  have e2 := inQ_eq 1 h
  have e3 := inQ_eq (R + 1) h
  have e4 : ((R + 1 : Nat) : Rat) = (R : Rat) + ((1 : Nat) : Rat) := by rw [← castN, ← castN, ← castN, ← Rat.intCast_add]; rfl
  have e5 : (inQ R h + inQ 1 h) * ((2 ^ h : Nat) : Rat) = inQ (R + 1) h * ((2 ^ h : Nat) : Rat) := by rw [e3, e4, ← e1, ← e2]; grind
  have h0 := two_ne h
  have e6 : ∀ x y z : Rat, z ≠ 0 → x * z = y * z → x = y := by
    intro x y z hz q
    have : x * z * z⁻¹ = y * z * z⁻¹ := by rw [q]
    rwa [Rat.mul_assoc, Rat.mul_assoc, Rat.mul_inv_cancel _ hz, Rat.mul_one, Rat.mul_one] at this
  exact e6 _ _ _ h0 e5
theorem high_of_eq {v : Rat} {h R : Nat} (e : inQ R h * inQ R h = v) : IsHigh v h R := by
  have h1 : (upQ v h).ceil.natAbs = R * R := by rw [← e, inQ_sq, ← castN, Rat.ceil_intCast]; omega
  refine ⟨R, ?_, ?_⟩
  · rw [h1]; exact ⟨Nat.le_refl _, Nat.mul_self_lt_mul_self (Nat.lt_succ_self R)⟩
  · rw [h1, if_pos rfl]
theorem high_of_ne {v : Rat} {h R : Nat} (hv : 0 ≤ v) (hl : IsLow v h R) (e : inQ R h * inQ R h ≠ v) : IsHigh v h (R + 1) := by
  have h1 := hl.le hv
  have hlt : inQ R h * inQ R h < v := by
    rcases Rat.le_iff_lt_or_eq.1 h1 with q | q
    · exact q
    · exact absurd q e
  have h0 := ceil_nn (upQ_nonneg hv h)
  have h2 : ((R * R : Nat) : Rat) < upQ v h := by
    rw [← inQ_sq R h]
    exact Rat.not_le.1 fun q => absurd ((upQ_le h).1 q) (Rat.not_le.2 hlt)
  have h3 : ((R * R : Nat) : Int) < (upQ v h).ceil := by
    rw [← castN] at h2
    exact Rat.intCast_lt_intCast.1 (lt_le h2 Rat.le_ceil)
  have h4 : (upQ v h).ceil ≤ (((R + 1) * (R + 1) : Nat) : Int) := by
    have h5 : (upQ v h).floor < (((R + 1) * (R + 1) : Nat) : Int) := by have := hl.2; have := floor_nn (upQ_nonneg hv h); omega
    rw [Rat.ceil_le_iff]
    exact Rat.le_of_lt (Rat.floor_lt_iff.1 h5)
  by_cases hc : (upQ v h).ceil.natAbs = (R + 1) * (R + 1)
  · refine ⟨R + 1, ?_, ?_⟩
    · rw [hc]; exact ⟨Nat.le_refl _, Nat.mul_self_lt_mul_self (Nat.lt_succ_self (R + 1))⟩
    · rw [if_pos hc.symm]
  · refine ⟨R, ⟨by omega, by omega⟩, ?_⟩
    rw [if_neg (by omega)]
theorem IsHigh.least {v : Rat} {h H X : Nat} (hv : 0 ≤ v) (hh : IsHigh v h H) (hX : v ≤ inQ X h * inQ X h) : H ≤ X := by
  obtain ⟨R, h1, h2⟩ := hh
  have h0 := ceil_nn (upQ_nonneg hv h)
  have h3 : (upQ v h).ceil ≤ ((X * X : Nat) : Int) := by
    rw [Rat.ceil_le_iff, castN, ← inQ_sq X h]; exact (upQ_le h).2 hX
  have h4 : (upQ v h).ceil.natAbs ≤ X * X := by omega
  split at h2
  · rename_i e
    subst h2
    rw [← e] at h4
    exact Nat.mul_self_le_mul_self_iff.1 h4
  · rename_i e
    subst h2
    have h5 : R * R < X * X := by have := h1.1; omega
    exact Nat.mul_self_lt_mul_self_iff.1 h5
theorem IsLow.most {v : Rat} {h R X : Nat} (hv : 0 ≤ v) (hl : IsLow v h R) (hX : inQ X h * inQ X h ≤ v) : X ≤ R := by
  have h0 := floor_nn (upQ_nonneg hv h)
  have h3 : ((X * X : Nat) : Int) ≤ (upQ v h).floor := by
    rw [Rat.le_floor_iff, castN, ← inQ_sq X h]; exact (upQ_le h).2 hX
  have h4 : X * X < (R + 1) * (R + 1) := by have := hl.2; omega
  have := Nat.mul_self_lt_mul_self_iff.1 h4
  omega
theorem inQ_twice (R h : Nat) : inQ R h = inQ (2 * R) (h + 1) := by
  unfold inQ
  rw [Rat.divInt_eq_divInt_iff (by have := Nat.two_pow_pos h; omega) (by have := Nat.two_pow_pos (h + 1); omega), Nat.pow_succ]
  push_cast
  grind
theorem low_finer {v : Rat} {h R R2 : Nat} (hv : 0 ≤ v) (h1 : IsLow v h R) (h2 : IsLow v (h + 1) R2) : inQ R h ≤ inQ R2 (h + 1) := by
  have h3 := h1.le hv
  rw [inQ_twice R h] at h3 ⊢
  exact inQ_mono _ (h2.most hv h3)
theorem high_finer {v : Rat} {h H H2 : Nat} (hv : 0 ≤ v) (h1 : IsHigh v h H) (h2 : IsHigh v (h + 1) H2) : inQ H2 (h + 1) ≤ inQ H h := by
  have h3 := h1.ge hv
  rw [inQ_twice H h] at h3 ⊢
  exact inQ_mono _ (h2.least hv h3)
theorem pow_lt_C {h j : Nat} (hh : h < 32 * j) : 2 ^ h < B32 ^ j := by
  have e : B32 = 2 ^ 32 := rfl
  rw [e, ← Nat.pow_mul]
  exact Nat.pow_lt_pow_right (by decide) hh
theorem pow_lt_C1 {h j : Nat} (hh : h < 32 * j) : 1 * 2 ^ h < B32 ^ j := by rw [Nat.one_mul]; exact pow_lt_C hh
set_option maxRecDepth 100000 in
set_option maxHeartbeats 4000000 in
theorem rpart4 {w : World} {A : Option Addr} {n c V k : Nat} (h : Nat) (X : RN w A n c V k) (hk : k ≤ 1000) (hk1 : 14 ≤ k) (hh : h ≤ 400) :
    Calls Tryz.prog 147 #[.slice A n c, .int .i64 (h : Int)] w (GivesRQ w (inQ V h) k) := by
  have HE := Lib.hid (inQ_mk V h)
  have HP : Hid (1 * 2 ^ h ≠ 0) := by show _ ≠ _; have := Nat.two_pow_pos h; omega
  have HO : Hid (1 * 2 ^ h = 2 ^ h) := Nat.one_mul _
  have HJ : Hid (1 * 2 ^ h < B32 ^ 14) := Lib.hid (pow_lt_C1 (j := 14) (by omega))
  have g := RG.of_f X
  go_enter Tryz.func147, Tryz.ntmps147
  go_wp2_with fail
  generalize hW : (w.alloc (Obj.cells #[Value.bool false, Value.slice none 0 0, Value.slice none 0 0] 34)) = W
  have hb : Below w.heap.size w W := by subst hW; exact ((Below.refl _ _).alloc (Nat.le_refl _) _)
  have Z : B3R W (w.heap.size) (Value.bool false) (Value.slice none 0 0) (Value.slice none 0 0) := by subst hW; exact B3R.new' _ _ _ _ _ rfl
  have hzW : W.heap.size = w.heap.size + 1 := by subst hW; simp
  clear hW
  replace X := X.below hb
  replace g := g.below hb
  go_wp2_with (first
      | (go_at_call 98; (with_reducible refine (rof_rn _).mono ?_); rintro e w_o ⟨A_o, n_o, c_o, rfl, o, hh⟩
         try replace X := X.below hh
         try replace g := g.below hh
         try replace t := t.below hh
         try replace r := r.below hh
         try replace Z := Z.below hh
         replace hb := bend hb hh)
      | (go_at_call 146; (with_reducible refine (rshl_rn h 14 o (by decide) (by omega) HJ.out).mono ?_); rintro e w_t ⟨A_t, n_t, c_t, rfl, t, hh⟩
         try replace X := X.below hh
         try replace g := g.below hh
         try replace o := o.below hh
         try replace r := r.below hh
         try replace Z := Z.below hh
         replace hb := bend hb hh)
      | (go_at_call 99; (with_reducible refine (made_rq g (t.more (by omega)) (by omega) HP.out).mono ?_); rintro e w_r ⟨s_r, A_r, n_r, c_r, B_r, m_r, d_r, rfl, r, hh⟩
         rw [HO.out, HE.out] at r
         try replace X := X.below hh
         try replace g := g.below hh
         try replace o := o.below hh
         try replace t := t.below hh
         try replace Z := Z.below hh
         replace hb := bend hb hh
         have zf0 := Z.f0
         have zf1 := Z.f1
         have zf2 := Z.f2
         have z0 := Z.c0
         have z1 := Z.c1
         have z2 := Z.c2))
  have Z2 := Z.set3 (.bool s_r) (.slice A_r n_r c_r) (.slice B_r m_r d_r)
  have g0 := Z2.c0
  have g1 := Z2.c1
  have g2 := Z2.c2
  refine bodyPost_ret (v := .agg #[.bool s_r, .slice A_r n_r c_r, .slice B_r m_r d_r]) (by simp [results, Tryz.results147, go_sem, g0, g1, g2]) rfl ?_
  exact ⟨s_r, A_r, n_r, c_r, B_r, m_r, d_r, rfl, r.set3 Z _ _ _, below_set3 hb (by omega) _ _ _⟩
def GivesPart3 (w : World) (P : Nat → Prop) (h K : Nat) (e : Ending) (w' : World) : Prop := ∃ R, P R ∧ GivesRQ w (inQ R h) K e w'
set_option maxRecDepth 100000 in
set_option maxHeartbeats 8000000 in
theorem rlow4 {w : World} {s : Bool} {A A' : Option Addr} {n c n' c' k : Nat} {v : Rat} (h : Nat) (X : RQ w s A n c A' n' c' v k) (hv : 0 ≤ v) (hk : k ≤ 500) (hh : h ≤ 400) :
    Calls Tryz.prog 51 #[.agg #[.bool s, .slice A n c, .slice A' n' c'], .int .i64 (h : Int)] w (GivesPart3 w (IsLow v h) h (k + 27)) := by
  have HE := Lib.hid (four_up v h)
  have HV := Lib.hid hv
  have hfd := fld02
  have HJ : Hid (1 * 2 ^ (2 * h) < B32 ^ 26) := Lib.hid (pow_lt_C1 (j := 26) (by omega))
  have hhi : (h : Int) ≤ 400 := by omega
  have h2i : (2 : Int) * (h : Int) = ((2 * h : Nat) : Int) := by omega
  obtain ⟨H2, hH2⟩ : ∃ H2, 2 * h = H2 := ⟨_, rfl⟩
  have hHI : (2 : Int) * (h : Int) = (H2 : Int) := by omega
  have hH8 : H2 ≤ 800 := by omega
  rw [hH2] at HE HJ
  clear h2i hv
  go_enter Tryz.func51, Tryz.ntmps51
  go_wp2_with fail
  generalize hW : ((w.alloc (Obj.cells #[Value.bool s, Value.slice A n c, Value.slice A' n' c'] 34)).alloc (Obj.cells #[Value.bool false, Value.slice none 0 0, Value.slice none 0 0] 34)) = W
  have hb : Below w.heap.size w W := by subst hW; exact (((Below.refl _ _).alloc (Nat.le_refl _) _).alloc (by simp) _)
  have XA : B3R W (w.heap.size) (Value.bool s) (Value.slice A n c) (Value.slice A' n' c') := by subst hW; exact (B3R.new' _ _ _ _ _ rfl).alloc _
  have Z : B3R W (w.heap.size + 1) (Value.bool false) (Value.slice none 0 0) (Value.slice none 0 0) := by subst hW; exact B3R.new' _ _ _ _ _ (by simp)
  have hzW : W.heap.size = w.heap.size + 2 := by subst hW; simp
  clear hW
  replace X := X.below hb
  have xa0 := XA.c0
  have xa1 := XA.c1
  have xa2 := XA.c2
  go_upto_region 2 with (first
      | (go_at_call 98; (with_reducible refine (rof_rn _).mono ?_); rintro e w_o ⟨A_o, n_o, c_o, rfl, o, hh⟩
         try replace X := X.below hh
         try replace f := f.below hh
         try replace wh := wh.below hh
         try replace m := m.below hh
         try replace fl := fl.below hh
         try replace q := q.below hh
         try replace r := r.below hh
         try replace XA := XA.below hh
         try replace XF := XF.below hh
         try replace Z := Z.below hh
         replace hb := bend hb hh
         have xa0 := XA.c0
         have xa1 := XA.c1
         have xa2 := XA.c2)
      | (go_at_call 146; (with_reducible refine (rshl_rn H2 26 o (by decide) (by omega) HJ.out).mono ?_); rintro e w_f ⟨A_f, n_f, c_f, rfl, f, hh⟩
         try replace X := X.below hh
         try replace o := o.below hh
         try replace wh := wh.below hh
         try replace m := m.below hh
         try replace fl := fl.below hh
         try replace q := q.below hh
         try replace r := r.below hh
         try replace XA := XA.below hh
         try replace XF := XF.below hh
         try replace Z := Z.below hh
         replace hb := bend hb hh
         have xa0 := XA.c0
         have xa1 := XA.c1
         have xa2 := XA.c2)
      | (go_at_call 145; (with_reducible refine (rwhole3 (RG.of_f f) (by decide)).mono ?_); rintro e w_wh ⟨s_wh, A_wh, n_wh, c_wh, B_wh, m_wh, d_wh, rfl, wh, hh⟩
         try replace X := X.below hh
         try replace o := o.below hh
         try replace f := f.below hh
         try replace m := m.below hh
         try replace fl := fl.below hh
         try replace q := q.below hh
         try replace r := r.below hh
         try replace XA := XA.below hh
         try replace XF := XF.below hh
         try replace Z := Z.below hh
         replace hb := bend hb hh
         have xa0 := XA.c0
         have xa1 := XA.c1
         have xa2 := XA.c2))
  generalize hW : (w_wh.alloc (Obj.cells #[Value.bool s_wh, Value.slice A_wh n_wh c_wh, Value.slice B_wh m_wh d_wh] 34)) = W2
  have hh : Below w_wh.heap.size w_wh W2 := by subst hW; exact ((Below.refl _ _).alloc (Nat.le_refl _) _)
  have XF : B3R W2 (w_wh.heap.size) (Value.bool s_wh) (Value.slice A_wh n_wh c_wh) (Value.slice B_wh m_wh d_wh) := by subst hW; exact B3R.new' _ _ _ _ _ rfl
  have hzW2 : W2.heap.size = w_wh.heap.size + 1 := by subst hW; simp
  clear hW
  try replace X := X.below hh
  try replace wh := wh.below hh
  try replace XA := XA.below hh
  try replace Z := Z.below hh
  replace hb := bend hb hh
  have xa0 := XA.c0
  have xa1 := XA.c1
  have xa2 := XA.c2
  have xf0 := XF.c0
  have xf1 := XF.c1
  have xf2 := XF.c2
  go_wp2_with (first
      | (go_at_call 27; (with_reducible refine (rmul3 X wh (by omega) (by omega)).mono ?_); rintro e w_m ⟨s_m, A_m, n_m, c_m, B_m, m_m, d_m, rfl, m, hh⟩
         rw [HE.out] at m
         try replace X := X.below hh
         try replace o := o.below hh
         try replace f := f.below hh
         try replace wh := wh.below hh
         try replace fl := fl.below hh
         try replace q := q.below hh
         try replace r := r.below hh
         try replace XA := XA.below hh
         try replace XF := XF.below hh
         try replace Z := Z.below hh
         replace hb := bend hb hh
         have xa0 := XA.c0
         have xa1 := XA.c1
         have xa2 := XA.c2)
      | (go_at_call 149; (with_reducible refine (rfloor3 m (by omega) (by omega)).mono ?_); rintro e w_fl ⟨s_fl, A_fl, n_fl, c_fl, rfl, fl, hh⟩
         try replace X := X.below hh
         try replace o := o.below hh
         try replace f := f.below hh
         try replace wh := wh.below hh
         try replace m := m.below hh
         try replace q := q.below hh
         try replace r := r.below hh
         try replace XA := XA.below hh
         try replace XF := XF.below hh
         try replace Z := Z.below hh
         replace hb := bend hb hh
         have xa0 := XA.c0
         have xa1 := XA.c1
         have xa2 := XA.c2)
      | (go_at_call 148; (with_reducible refine (rsqrt_rn fl.rn (by omega)).mono ?_); rintro e w_q ⟨R, hR, A_q, n_q, c_q, rfl, q, hh⟩
         try replace X := X.below hh
         try replace o := o.below hh
         try replace f := f.below hh
         try replace wh := wh.below hh
         try replace m := m.below hh
         try replace fl := fl.below hh
         try replace r := r.below hh
         try replace XA := XA.below hh
         try replace XF := XF.below hh
         try replace Z := Z.below hh
         replace hb := bend hb hh
         have xa0 := XA.c0
         have xa1 := XA.c1
         have xa2 := XA.c2)
      | (go_at_call 147; (with_reducible refine (rpart4 h q (by omega) (by omega) (by omega)).mono ?_); rintro e w_r ⟨s_r, A_r, n_r, c_r, B_r, m_r, d_r, rfl, r, hh⟩
         try replace X := X.below hh
         try replace o := o.below hh
         try replace f := f.below hh
         try replace wh := wh.below hh
         try replace m := m.below hh
         try replace fl := fl.below hh
         try replace q := q.below hh
         try replace XA := XA.below hh
         try replace XF := XF.below hh
         try replace Z := Z.below hh
         replace hb := bend hb hh
         have xa0 := XA.c0
         have xa1 := XA.c1
         have xa2 := XA.c2
         have zf0 := Z.f0
         have zf1 := Z.f1
         have zf2 := Z.f2
         have z0 := Z.c0
         have z1 := Z.c1
         have z2 := Z.c2))
  have Z2 := Z.set3 (.bool s_r) (.slice A_r n_r c_r) (.slice B_r m_r d_r)
  have g0 := Z2.c0
  have g1 := Z2.c1
  have g2 := Z2.c2
  refine bodyPost_ret (v := .agg #[.bool s_r, .slice A_r n_r c_r, .slice B_r m_r d_r]) (by simp [results, Tryz.results51, go_sem, g0, g1, g2]) rfl ?_
  exact ⟨R, hR, s_r, A_r, n_r, c_r, B_r, m_r, d_r, rfl, r.set3 Z _ _ _, below_set3 hb (by omega) _ _ _⟩
set_option maxRecDepth 100000 in
set_option maxHeartbeats 8000000 in
theorem rhigh4_eq {w : World} {s : Bool} {A A' : Option Addr} {n c n' c' k : Nat} {v : Rat} (h : Nat) (X : RQ w s A n c A' n' c' v k) (hv : 0 ≤ v) (hk : k ≤ 400) (hh : h ≤ 400) (he : ∃ R, IsLow v h R ∧ inQ R h * inQ R h = v) :
    Calls Tryz.prog 52 #[.agg #[.bool s, .slice A n c, .slice A' n' c'], .int .i64 (h : Int)] w (GivesPart3 w (IsHigh v h) h (k + 42)) := by
  have HV := Lib.hid hv
  have HX := Lib.hid he
  clear hv he
  go_enter Tryz.func52, Tryz.ntmps52
  go_wp2_with fail
  generalize hW : ((w.alloc (Obj.cells #[Value.bool s, Value.slice A n c, Value.slice A' n' c'] 34)).alloc (Obj.cells #[Value.bool false, Value.slice none 0 0, Value.slice none 0 0] 34)) = W
  have hb : Below w.heap.size w W := by subst hW; exact (((Below.refl _ _).alloc (Nat.le_refl _) _).alloc (by simp) _)
  have XA : B3R W (w.heap.size) (Value.bool s) (Value.slice A n c) (Value.slice A' n' c') := by subst hW; exact (B3R.new' _ _ _ _ _ rfl).alloc _
  have Z : B3R W (w.heap.size + 1) (Value.bool false) (Value.slice none 0 0) (Value.slice none 0 0) := by subst hW; exact B3R.new' _ _ _ _ _ (by simp)
  have hzW : W.heap.size = w.heap.size + 2 := by subst hW; simp
  clear hW
  replace X := X.below hb
  have xa0 := XA.c0
  have xa1 := XA.c1
  have xa2 := XA.c2
  go_upto_region 2 with (first
      | (go_at_call 51; (with_reducible refine (rlow4 h X HV.out (by omega) (by omega)).mono ?_); rintro e w_l ⟨R, hR, s_l, A_l, n_l, c_l, B_l, m_l, d_l, rfl, l, hh⟩
         try replace X := X.below hh
         try replace m := m.below hh
         try replace o := o.below hh
         try replace p := p.below hh
         try replace r := r.below hh
         try replace XA := XA.below hh
         try replace XL := XL.below hh
         try replace Z := Z.below hh
         replace hb := bend hb hh
         have xa0 := XA.c0
         have xa1 := XA.c1
         have xa2 := XA.c2))
  have he : inQ R h * inQ R h = v := by
    obtain ⟨S, h1, h2⟩ := HX.out
    rw [hR.one h1]; exact h2
  have HC : Hid (cmpQ (inQ R h * inQ R h) v = 0) := by show _ = _; rw [he]; exact cmpQ_zero.2 rfl
  have HHI : Hid (IsHigh v h R) := high_of_eq he
  clear he
  have hzl : w.heap.size + 1 < w_l.heap.size := Z.lt
  generalize hW : (w_l.alloc (Obj.cells #[Value.bool s_l, Value.slice A_l n_l c_l, Value.slice B_l m_l d_l] 34)) = W2
  have hh : Below w_l.heap.size w_l W2 := by subst hW; exact ((Below.refl _ _).alloc (Nat.le_refl _) _)
  have XL : B3R W2 (w_l.heap.size) (Value.bool s_l) (Value.slice A_l n_l c_l) (Value.slice B_l m_l d_l) := by subst hW; exact B3R.new' _ _ _ _ _ rfl
  have hzW2 : W2.heap.size = w_l.heap.size + 1 := by subst hW; simp
  clear hW
  try replace X := X.below hh
  try replace l := l.below hh
  try replace XA := XA.below hh
  try replace Z := Z.below hh
  replace hb := bend hb hh
  replace X := X.below (Below.refl _ _).drew
  replace l := l.below (Below.refl _ _).drew
  replace XA := XA.below (Below.refl _ _).drew
  replace XL := XL.below (Below.refl _ _).drew
  replace Z := Z.below (Below.refl _ _).drew
  replace hb := hb.drew
  go_region_held3 (fun w' => w'.cell? ⟨w.heap.size, 0, none⟩ = some (.bool s) ∧ w'.cell? ⟨w.heap.size, 1, none⟩ = some (.slice A n c) ∧ w'.cell? ⟨w.heap.size, 2, none⟩ = some (.slice A' n' c') ∧ w'.cell? ⟨w_l.heap.size, 0, none⟩ = some (.bool s_l) ∧ w'.cell? ⟨w_l.heap.size, 1, none⟩ = some (.slice A_l n_l c_l) ∧ w'.cell? ⟨w_l.heap.size, 2, none⟩ = some (.slice B_l m_l d_l))
    (first | with_reducible exact ⟨XA.c0, XA.c1, XA.c2, XL.c0, XL.c1, XL.c2⟩)
    (first
    | (go_at_call 27; (with_reducible refine (rmul3 l l (by omega) (by omega)).mono ?_); rintro e w_m ⟨s_m, A_m, n_m, c_m, B_m, m_m, d_m, rfl, m, hh⟩
       try replace X := X.below hh
       try replace l := l.below hh
       try replace o := o.below hh
       try replace p := p.below hh
       try replace r := r.below hh
       try replace XA := XA.below hh
       try replace XL := XL.below hh
       try replace Z := Z.below hh
       replace hb := bend hb hh)
    | (go_at_call 29; (with_reducible refine (rcmp3 m X (by omega) (by omega)).mono ?_); rintro e w_z ⟨rfl, hh⟩
       rw [HC.out]
       try replace X := X.below hh
       try replace l := l.below hh
       try replace m := m.below hh
       try replace o := o.below hh
       try replace p := p.below hh
       try replace r := r.below hh
       try replace XA := XA.below hh
       try replace XL := XL.below hh
       try replace Z := Z.below hh
       replace hb := bend hb hh))
  try clear m
  have xl0 := XL.c0
  have xl1 := XL.c1
  have xl2 := XL.c2
  have zf0 := Z.f0
  have zf1 := Z.f1
  have zf2 := Z.f2
  have z0 := Z.c0
  have z1 := Z.c1
  have z2 := Z.c2
  go_wp2_with fail
  have Z2 := Z.set3 (.bool s_l) (.slice A_l n_l c_l) (.slice B_l m_l d_l)
  have g0 := Z2.c0
  have g1 := Z2.c1
  have g2 := Z2.c2
  refine bodyPost_ret (v := .agg #[.bool s_l, .slice A_l n_l c_l, .slice B_l m_l d_l]) (by simp [results, Tryz.results52, go_sem, g0, g1, g2]) rfl ?_
  exact ⟨R, HHI.out, s_l, A_l, n_l, c_l, B_l, m_l, d_l, rfl, (l.more (by omega)).set3 Z _ _ _, below_set3 hb (by omega) _ _ _⟩
set_option maxRecDepth 100000 in
set_option maxHeartbeats 8000000 in
theorem rhigh4_ne {w : World} {s : Bool} {A A' : Option Addr} {n c n' c' k : Nat} {v : Rat} (h : Nat) (X : RQ w s A n c A' n' c' v k) (hv : 0 ≤ v) (hk : k ≤ 400) (hh : h ≤ 400) (he : ¬ ∃ R, IsLow v h R ∧ inQ R h * inQ R h = v) :
    Calls Tryz.prog 52 #[.agg #[.bool s, .slice A n c, .slice A' n' c'], .int .i64 (h : Int)] w (GivesPart3 w (IsHigh v h) h (k + 42)) := by
  have HV := Lib.hid hv
  have HX := Lib.hid he
  clear hv he
  go_enter Tryz.func52, Tryz.ntmps52
  go_wp2_with fail
  generalize hW : ((w.alloc (Obj.cells #[Value.bool s, Value.slice A n c, Value.slice A' n' c'] 34)).alloc (Obj.cells #[Value.bool false, Value.slice none 0 0, Value.slice none 0 0] 34)) = W
  have hb : Below w.heap.size w W := by subst hW; exact (((Below.refl _ _).alloc (Nat.le_refl _) _).alloc (by simp) _)
  have XA : B3R W (w.heap.size) (Value.bool s) (Value.slice A n c) (Value.slice A' n' c') := by subst hW; exact (B3R.new' _ _ _ _ _ rfl).alloc _
  have Z : B3R W (w.heap.size + 1) (Value.bool false) (Value.slice none 0 0) (Value.slice none 0 0) := by subst hW; exact B3R.new' _ _ _ _ _ (by simp)
  have hzW : W.heap.size = w.heap.size + 2 := by subst hW; simp
  clear hW
  replace X := X.below hb
  have xa0 := XA.c0
  have xa1 := XA.c1
  have xa2 := XA.c2
  go_upto_region 2 with (first
      | (go_at_call 51; (with_reducible refine (rlow4 h X HV.out (by omega) (by omega)).mono ?_); rintro e w_l ⟨R, hR, s_l, A_l, n_l, c_l, B_l, m_l, d_l, rfl, l, hh⟩
         try replace X := X.below hh
         try replace m := m.below hh
         try replace o := o.below hh
         try replace p := p.below hh
         try replace r := r.below hh
         try replace XA := XA.below hh
         try replace XL := XL.below hh
         try replace Z := Z.below hh
         replace hb := bend hb hh
         have xa0 := XA.c0
         have xa1 := XA.c1
         have xa2 := XA.c2))
  have he : inQ R h * inQ R h ≠ v := fun q => HX.out ⟨R, hR, q⟩
  obtain ⟨K, hK, hK0⟩ : ∃ K, cmpQ (inQ R h * inQ R h) v = K ∧ ((K : Int) == 0) = false := ⟨_, rfl, by simpa using fun q => he (cmpQ_zero.1 q)⟩
  have HC := Lib.hid hK
  have HHI : Hid (IsHigh v h (R + 1)) := high_of_ne HV.out hR he
  have HSU := Lib.hid (inQ_succ R h)
  clear hK
  clear he
  have hzl : w.heap.size + 1 < w_l.heap.size := Z.lt
  generalize hW : (w_l.alloc (Obj.cells #[Value.bool s_l, Value.slice A_l n_l c_l, Value.slice B_l m_l d_l] 34)) = W2
  have hh : Below w_l.heap.size w_l W2 := by subst hW; exact ((Below.refl _ _).alloc (Nat.le_refl _) _)
  have XL : B3R W2 (w_l.heap.size) (Value.bool s_l) (Value.slice A_l n_l c_l) (Value.slice B_l m_l d_l) := by subst hW; exact B3R.new' _ _ _ _ _ rfl
  have hzW2 : W2.heap.size = w_l.heap.size + 1 := by subst hW; simp
  clear hW
  try replace X := X.below hh
  try replace l := l.below hh
  try replace XA := XA.below hh
  try replace Z := Z.below hh
  replace hb := bend hb hh
  replace X := X.below (Below.refl _ _).drew
  replace l := l.below (Below.refl _ _).drew
  replace XA := XA.below (Below.refl _ _).drew
  replace XL := XL.below (Below.refl _ _).drew
  replace Z := Z.below (Below.refl _ _).drew
  replace hb := hb.drew
  go_region_held3 (fun w' => w'.cell? ⟨w.heap.size, 0, none⟩ = some (.bool s) ∧ w'.cell? ⟨w.heap.size, 1, none⟩ = some (.slice A n c) ∧ w'.cell? ⟨w.heap.size, 2, none⟩ = some (.slice A' n' c') ∧ w'.cell? ⟨w_l.heap.size, 0, none⟩ = some (.bool s_l) ∧ w'.cell? ⟨w_l.heap.size, 1, none⟩ = some (.slice A_l n_l c_l) ∧ w'.cell? ⟨w_l.heap.size, 2, none⟩ = some (.slice B_l m_l d_l))
    (first | with_reducible exact ⟨XA.c0, XA.c1, XA.c2, XL.c0, XL.c1, XL.c2⟩)
    (first
    | (go_at_call 27; (with_reducible refine (rmul3 l l (by omega) (by omega)).mono ?_); rintro e w_m ⟨s_m, A_m, n_m, c_m, B_m, m_m, d_m, rfl, m, hh⟩
       try replace X := X.below hh
       try replace l := l.below hh
       try replace o := o.below hh
       try replace p := p.below hh
       try replace r := r.below hh
       try replace XA := XA.below hh
       try replace XL := XL.below hh
       try replace Z := Z.below hh
       replace hb := bend hb hh)
    | (go_at_call 29; (with_reducible refine (rcmp3 m X (by omega) (by omega)).mono ?_); rintro e w_z ⟨rfl, hh⟩
       rw [HC.out]
       try replace X := X.below hh
       try replace l := l.below hh
       try replace m := m.below hh
       try replace o := o.below hh
       try replace p := p.below hh
       try replace r := r.below hh
       try replace XA := XA.below hh
       try replace XL := XL.below hh
       try replace Z := Z.below hh
       replace hb := bend hb hh))
  try clear m
  go_upto_region 4 with (fail)
  replace X := X.below (Below.refl _ _).drew
  replace l := l.below (Below.refl _ _).drew
  replace XA := XA.below (Below.refl _ _).drew
  replace XL := XL.below (Below.refl _ _).drew
  replace Z := Z.below (Below.refl _ _).drew
  replace hb := hb.drew
  go_region_held3 (fun w' => w'.cell? ⟨w_l.heap.size, 0, none⟩ = some (.bool s_l) ∧ w'.cell? ⟨w_l.heap.size, 1, none⟩ = some (.slice A_l n_l c_l) ∧ w'.cell? ⟨w_l.heap.size, 2, none⟩ = some (.slice B_l m_l d_l))
    (first | with_reducible exact ⟨XL.c0, XL.c1, XL.c2⟩ | with_reducible exact ⟨(set3_cell _ _ _ _ _ _ _ (by omega)).trans XL.c0, (set3_cell _ _ _ _ _ _ _ (by omega)).trans XL.c1, (set3_cell _ _ _ _ _ _ _ (by omega)).trans XL.c2⟩)
    (first
    | (go_at_call 98; (with_reducible refine (rof_rn _).mono ?_); rintro e w_o ⟨A_o, n_o, c_o, rfl, o, hh⟩
       try replace X := X.below hh
       try replace l := l.below hh
       try replace m := m.below hh
       try replace p := p.below hh
       try replace r := r.below hh
       try replace XA := XA.below hh
       try replace XL := XL.below hh
       try replace Z := Z.below hh
       replace hb := bend hb hh)
    | (go_at_call 147; (with_reducible refine (rpart4 h (o.more (show 1 ≤ 14 by decide)) (by decide) (by decide) (by omega)).mono ?_); rintro e w_p ⟨s_p, A_p, n_p, c_p, B_p, m_p, d_p, rfl, p, hh⟩
       try replace X := X.below hh
       try replace l := l.below hh
       try replace m := m.below hh
       try replace o := o.below hh
       try replace r := r.below hh
       try replace XA := XA.below hh
       try replace XL := XL.below hh
       try replace Z := Z.below hh
       replace hb := bend hb hh)
    | (go_at_call 23; (with_reducible refine (radd3 l p (by omega) (by decide)).mono ?_); rintro e w_r ⟨s_r, A_r, n_r, c_r, B_r, m_r, d_r, rfl, r, hh⟩
       rw [HSU.out] at r
       try replace X := X.below hh
       try replace l := l.below hh
       try replace m := m.below hh
       try replace o := o.below hh
       try replace p := p.below hh
       try replace XA := XA.below hh
       try replace XL := XL.below hh
       try replace Z := Z.below hh
       replace hb := bend hb hh
       have zf0 := Z.f0
       have zf1 := Z.f1
       have zf2 := Z.f2
       have z0 := Z.c0
       have z1 := Z.c1
       have z2 := Z.c2))
  go_wp2_with fail
  have Z2 := Z.set3 (.bool s_r) (.slice A_r n_r c_r) (.slice B_r m_r d_r)
  have g0 := Z2.c0
  have g1 := Z2.c1
  have g2 := Z2.c2
  refine bodyPost_ret (v := .agg #[.bool s_r, .slice A_r n_r c_r, .slice B_r m_r d_r]) (by simp [results, Tryz.results52, go_sem, g0, g1, g2]) rfl ?_
  exact ⟨R + 1, HHI.out, s_r, A_r, n_r, c_r, B_r, m_r, d_r, rfl, (r.more (by omega)).set3 Z _ _ _, below_set3 hb (by omega) _ _ _⟩
theorem rhigh4 {w : World} {s : Bool} {A A' : Option Addr} {n c n' c' k : Nat} {v : Rat} (h : Nat) (X : RQ w s A n c A' n' c' v k) (hv : 0 ≤ v) (hk : k ≤ 400) (hh : h ≤ 400) :
    Calls Tryz.prog 52 #[.agg #[.bool s, .slice A n c, .slice A' n' c'], .int .i64 (h : Int)] w (GivesPart3 w (IsHigh v h) h (k + 42)) := by
  by_cases he : ∃ R, IsLow v h R ∧ inQ R h * inQ R h = v
  · exact rhigh4_eq h X hv hk hh he
  · exact rhigh4_ne h X hv hk hh he
set_option maxRecDepth 100000 in
set_option maxHeartbeats 4000000 in
theorem fault_neg {w : World} {s : Bool} {A A' : Option Addr} {n c n' c' k : Nat} {v : Rat} (h : Nat) (X : QR w s A n c A' n' c' v k) (hv : v < 0) (hk : k ≤ 400) (hk1 : 1 ≤ k) (hh : h ≤ 4096) :
    Calls Tryz.prog 138 #[.agg #[.bool s, .slice A n c, .slice A' n' c'], .int .i64 (h : Int)] w fun e w' => e = .returned (.int .i64 13) ∧ Below w.heap.size w w' := by
  have HG : Hid (sgnQ v = -1) := by show _ = _; unfold sgnQ; rw [if_pos hv]
  have hh1 : ¬ (h : Int) < 0 := by omega
  have hh2 : ¬ 4096 < (h : Int) := by omega
  clear hv
  go_enter Tryz.func138, Tryz.ntmps138
  go_wp2_with fail
  generalize hW : (w.alloc (Obj.cells #[Value.bool s, Value.slice A n c, Value.slice A' n' c'] 26)) = W
  have hb : Below w.heap.size w W := by subst hW; exact ((Below.refl _ _).alloc (Nat.le_refl _) _)
  have XA : B3 W (w.heap.size) (Value.bool s) (Value.slice A n c) (Value.slice A' n' c') := by subst hW; exact B3.new' _ _ _ _ _ rfl
  have hzW : W.heap.size = w.heap.size + 1 := by subst hW; simp
  clear hW
  replace X := X.below hb
  have xa0 := XA.c0
  have xa1 := XA.c1
  have xa2 := XA.c2
  go_wp2_with (first
      | (go_at_call 30; (with_reducible refine (rsign_q X (by omega) hk1).mono ?_); rintro e w_z ⟨rfl, hh⟩
         rw [HG.out]
         try replace X := X.below hh
         try replace XA := XA.below hh
         replace hb := bend hb hh
         have xa0 := XA.c0
         have xa1 := XA.c1
         have xa2 := XA.c2))
  go_ret
  exact ⟨rfl, hb⟩
set_option maxRecDepth 100000 in
set_option maxHeartbeats 4000000 in
theorem low_neg {w : World} {s : Bool} {A A' : Option Addr} {n c n' c' k : Nat} {v : Rat} (h : Nat) (X : QR w s A n c A' n' c' v k) (hv : v < 0) (hk : k ≤ 400) (hk1 : 1 ≤ k) (hh : h ≤ 4096) :
    Calls Tryz.prog 48 #[.agg #[.bool s, .slice A n c, .slice A' n' c'], .int .i64 (h : Int)] w fun e w' => e = .returned (.tuple #[.agg #[.bool false, .slice none 0 0, .slice none 0 0], .int .i64 13]) ∧ Below w.heap.size w w' := by
  have HV := Lib.hid hv
  clear hv
  go_enter Tryz.func48, Tryz.ntmps48
  go_wp2_with fail
  generalize hW : ((w.alloc (Obj.cells #[Value.bool s, Value.slice A n c, Value.slice A' n' c'] 26)).alloc (Obj.cells #[Value.bool false, Value.slice none 0 0, Value.slice none 0 0] 26)) = W
  have hb : Below w.heap.size w W := by subst hW; exact (((Below.refl _ _).alloc (Nat.le_refl _) _).alloc (by simp) _)
  have XA : B3 W (w.heap.size) (Value.bool s) (Value.slice A n c) (Value.slice A' n' c') := by subst hW; exact (B3.new' _ _ _ _ _ rfl).alloc _
  have Z : B3 W (w.heap.size + 1) (Value.bool false) (Value.slice none 0 0) (Value.slice none 0 0) := by subst hW; exact B3.new' _ _ _ _ _ (by simp)
  have hzW : W.heap.size = w.heap.size + 2 := by subst hW; simp
  clear hW
  replace X := X.below hb
  have xa0 := XA.c0
  have xa1 := XA.c1
  have xa2 := XA.c2
  have zf0 := Z.f0
  have zf1 := Z.f1
  have zf2 := Z.f2
  have z0 := Z.c0
  have z1 := Z.c1
  have z2 := Z.c2
  go_wp2_with (first
      | (go_at_call 138; (with_reducible refine (fault_neg h X HV.out hk hk1 hh).mono ?_); rintro e w_z ⟨rfl, hh⟩
         try replace X := X.below hh
         try replace XA := XA.below hh
         try replace Z := Z.below hh
         replace hb := bend hb hh
         have xa0 := XA.c0
         have xa1 := XA.c1
         have xa2 := XA.c2
         have zf0 := Z.f0
         have zf1 := Z.f1
         have zf2 := Z.f2
         have z0 := Z.c0
         have z1 := Z.c1
         have z2 := Z.c2))
  have Z2 := Z.set3 (.bool false) (.slice none 0 0) (.slice none 0 0)
  have g0 := Z2.c0
  have g1 := Z2.c1
  have g2 := Z2.c2
  refine bodyPost_ret (v := .tuple #[.agg #[.bool false, .slice none 0 0, .slice none 0 0], .int .i64 13]) (by simp [results, Tryz.results48, go_sem, g0, g1, g2]) rfl ?_
  exact ⟨rfl, below_set3 hb (by omega) _ _ _⟩
set_option maxRecDepth 100000 in
set_option maxHeartbeats 4000000 in
theorem high_neg {w : World} {s : Bool} {A A' : Option Addr} {n c n' c' k : Nat} {v : Rat} (h : Nat) (X : QR w s A n c A' n' c' v k) (hv : v < 0) (hk : k ≤ 400) (hk1 : 1 ≤ k) (hh : h ≤ 4096) :
    Calls Tryz.prog 49 #[.agg #[.bool s, .slice A n c, .slice A' n' c'], .int .i64 (h : Int)] w fun e w' => e = .returned (.tuple #[.agg #[.bool false, .slice none 0 0, .slice none 0 0], .int .i64 13]) ∧ Below w.heap.size w w' := by
  have HV := Lib.hid hv
  clear hv
  go_enter Tryz.func49, Tryz.ntmps49
  go_wp2_with fail
  generalize hW : ((w.alloc (Obj.cells #[Value.bool s, Value.slice A n c, Value.slice A' n' c'] 26)).alloc (Obj.cells #[Value.bool false, Value.slice none 0 0, Value.slice none 0 0] 26)) = W
  have hb : Below w.heap.size w W := by subst hW; exact (((Below.refl _ _).alloc (Nat.le_refl _) _).alloc (by simp) _)
  have XA : B3 W (w.heap.size) (Value.bool s) (Value.slice A n c) (Value.slice A' n' c') := by subst hW; exact (B3.new' _ _ _ _ _ rfl).alloc _
  have Z : B3 W (w.heap.size + 1) (Value.bool false) (Value.slice none 0 0) (Value.slice none 0 0) := by subst hW; exact B3.new' _ _ _ _ _ (by simp)
  have hzW : W.heap.size = w.heap.size + 2 := by subst hW; simp
  clear hW
  replace X := X.below hb
  have xa0 := XA.c0
  have xa1 := XA.c1
  have xa2 := XA.c2
  have zf0 := Z.f0
  have zf1 := Z.f1
  have zf2 := Z.f2
  have z0 := Z.c0
  have z1 := Z.c1
  have z2 := Z.c2
  go_wp2_with (first
      | (go_at_call 138; (with_reducible refine (fault_neg h X HV.out hk hk1 hh).mono ?_); rintro e w_z ⟨rfl, hh⟩
         try replace X := X.below hh
         try replace XA := XA.below hh
         try replace Z := Z.below hh
         replace hb := bend hb hh
         have xa0 := XA.c0
         have xa1 := XA.c1
         have xa2 := XA.c2
         have zf0 := Z.f0
         have zf1 := Z.f1
         have zf2 := Z.f2
         have z0 := Z.c0
         have z1 := Z.c1
         have z2 := Z.c2))
  have Z2 := Z.set3 (.bool false) (.slice none 0 0) (.slice none 0 0)
  have g0 := Z2.c0
  have g1 := Z2.c1
  have g2 := Z2.c2
  refine bodyPost_ret (v := .tuple #[.agg #[.bool false, .slice none 0 0, .slice none 0 0], .int .i64 13]) (by simp [results, Tryz.results49, go_sem, g0, g1, g2]) rfl ?_
  exact ⟨rfl, below_set3 hb (by omega) _ _ _⟩
end Go.Proofs.YtlkjkhpjhllapaaGreat
namespace Go.Proofs.YtlkjkhpjhllapaaGreat
open Go Go.RowKit
set_option maxRecDepth 100000 in
set_option maxHeartbeats 2000000 in
theorem out2c {w : World} {t : Bool} {B : Option Addr} {m d k : Nat} {v : Int} (Y : RG w t B m d v k) (hk : k ≤ 200000) :
    Calls Tryz.prog 62 #[.agg #[.bool t, .slice B m d]] w fun e w' => ∃ A n c, e = .returned (.agg #[.bool t, .slice A n c]) ∧ Rd .u64 w' A n (limbs B64 v.natAbs) ∧ n ≤ c ∧ Below w.heap.size w w' := by
  have hJ := join32_limbs v.natAbs
  have HJ := Lib.hid hJ
  have hm : m ≤ 2000000 := Nat.le_trans Y.2.2.2 (by omega)
  have hY := Y.2.1
  clear hJ
  go_enter Tryz.func62, Tryz.ntmps62
  go_wp2_with fail
  generalize hW : ((w.alloc (Obj.cells #[Value.bool t, Value.slice B m d] 32)).alloc (Obj.cells #[Value.bool false, Value.slice none 0 0] 24)) = W
  have hb : Below w.heap.size w W := by subst hW; exact (((Below.refl _ _).alloc (Nat.le_refl _) _).alloc (by simp) _)
  have XB : By W w.heap.size (Value.bool t) (Value.slice B m d) := by subst hW; exact (By.new w _ _).alloc _
  have Z : Bx W (w.heap.size + 1) (Value.bool false) (Value.slice none 0 0) := by subst hW; exact Bx.new' _ _ _ _ (by simp)
  have hz : W.heap.size = w.heap.size + 2 := by subst hW; simp
  clear hW
  replace hY := hY.below hb
  replace hY := hY.below (Below.refl _ _).drew
  replace XB := XB.drew
  replace Z := Z.drew
  replace hb := hb.drew
  go_region_held3 (fun w' => w'.cell? ⟨w.heap.size, 0, none⟩ = some (Value.bool t) ∧ w'.cell? ⟨w.heap.size, 1, none⟩ = some (Value.slice B m d))
    (first | with_reducible exact ⟨XB.c0, XB.c1⟩ | with_reducible exact ⟨(set2_cell _ _ _ _ _ _ (by omega)).trans XB.c0, (set2_cell _ _ _ _ _ _ (by omega)).trans XB.c1⟩)
    (first
    | (go_at_call 123; (with_reducible refine (rout_any (limbs B32 v.natAbs) B m d _ hY (lim_limbs B32_two _) hm).mono ?_); rintro e w1 ⟨A1, n1, c1, rfl, p1, p2, p3, hh⟩
       rw [HJ.out] at p3
       replace XB := XB.below hh
       replace Z := Z.below hh
       replace hb := bend hb hh
       have r0 := Z.c0
       have r1 := Z.c1
       have r2 := Z.f0
       have r3 := Z.f1))
  go_wp2
  have hf0 := (Z.set2 (.bool t) (.slice A1 n1 c1)).c0
  have hf1 := (Z.set2 (.bool t) (.slice A1 n1 c1)).c1
  refine bodyPost_ret (v := .agg #[.bool t, .slice A1 n1 c1]) (by simp [results, Tryz.results62, go_sem, hf0, hf1]) rfl ?_
  refine ⟨A1, n1, c1, rfl, ?_, p1, (hb.setCell (by show w.heap.size ≤ _; simp) _).setCell (by show w.heap.size ≤ _; simp) _⟩
  exact p3.rd.only (Z.offx p3.rd) (((Only.refl (w.heap.size + 1) w1).setCell 0 _).setCell 1 _)
theorem rout_vc {w : World} {A : Option Addr} {n c V k : Nat} (Y : RN w A n c V k) (hk : k ≤ 200000) :
    Calls Tryz.prog 123 #[.slice A n c] w fun e w' => ∃ A n c, e = .returned (.slice A n c) ∧ Rd .u64 w' A n (limbs B64 V) ∧ n ≤ c ∧ Below w.heap.size w w' := by
  refine (rout_any (limbs B32 V) A n c w Y.1 (lim_limbs B32_two _) (Nat.le_trans Y.2.2 (by omega))).mono ?_
  rintro e w' ⟨A1, n1, c1, rfl, p1, p2, p3, p4⟩
  rw [join32_limbs] at p3
  exact ⟨A1, n1, c1, rfl, p3.rd, p1, p4⟩
set_option maxRecDepth 100000 in
set_option maxHeartbeats 8000000 in
theorem rout3g {w : World} {s : Bool} {A A' : Option Addr} {n c n' c' k : Nat} {v : Rat} (X : RQ w s A n c A' n' c' v k) (hk : k ≤ 100000) (K : Nat) (h1 : v.num.natAbs < B64 ^ K) (h2 : v.den < B64 ^ K) :
    Calls Tryz.prog 37 #[.agg #[.bool s, .slice A n c, .slice A' n' c']] w (GivesQ w v K) := by
  have hs : s = decide (v.num < 0) := X.pg.1
  have HS := Lib.hid hs
  have HK : Hid ((limbs B64 v.num.natAbs).length ≤ K ∧ (limbs B64 v.den).length ≤ K) := ⟨length_limbs_le B64_two h1, length_limbs_le B64_two h2⟩
  clear h1 h2
  clear hs
  go_enter Tryz.func37, Tryz.ntmps37
  go_wp2_with fail
  generalize hW : ((w.alloc (Obj.cells #[Value.bool s, Value.slice A n c, Value.slice A' n' c'] 34)).alloc (Obj.cells #[Value.bool false, Value.slice none 0 0, Value.slice none 0 0] 26)) = W
  have hb : Below w.heap.size w W := by subst hW; exact (((Below.refl _ _).alloc (Nat.le_refl _) _).alloc (by simp) _)
  have XA : B3R W (w.heap.size) (Value.bool s) (Value.slice A n c) (Value.slice A' n' c') := by subst hW; exact (B3R.new' _ _ _ _ _ rfl).alloc _
  have Z : B3 W (w.heap.size + 1) (Value.bool false) (Value.slice none 0 0) (Value.slice none 0 0) := by subst hW; exact B3.new' _ _ _ _ _ (by simp)
  have hzW : W.heap.size = w.heap.size + 2 := by subst hW; simp
  clear hW
  replace X := X.below hb
  have xa0 := XA.c0
  have xa1 := XA.c1
  have xa2 := XA.c2
  go_upto_region 2 with (first
      | (go_at_call 123; (with_reducible refine (rout_vc X.qn (by omega)).mono ?_); rintro e w_q ⟨A_q, n_q, c_q, rfl, q, qc, hh⟩
         try replace X := X.below hh
         try replace p := p.below hh
         try replace XA := XA.below hh
         try replace Z := Z.below hh
         replace hb := bend hb hh
         have xa0 := XA.c0
         have xa1 := XA.c1
         have xa2 := XA.c2))
  have hq0 : ((n_q : Int) == 0) = false := by
    have h1 := q.1
    rw [limbs_pos B64_two v.den_nz] at h1
    simp at h1 ⊢
    omega
  have zf0 := Z.f0
  have zf1 := Z.f1
  have zf2 := Z.f2
  have z0 := Z.c0
  have z1 := Z.c1
  have z2 := Z.c2
  go_wp2_with (first
      | (go_at_call 62; (with_reducible refine (out2c X.pg (by omega)).mono ?_); rintro e w_p ⟨A_p, n_p, c_p, rfl, p, pc, hh⟩
         try replace X := X.below hh
         try replace q := q.below hh
         try replace XA := XA.below hh
         try replace Z := Z.below hh
         replace hb := bend hb hh
         have xa0 := XA.c0
         have xa1 := XA.c1
         have xa2 := XA.c2
         have zf0 := Z.f0
         have zf1 := Z.f1
         have zf2 := Z.f2
         have z0 := Z.c0
         have z1 := Z.c1
         have z2 := Z.c2))
  have Z2 := Z.set3 (.bool s) (.slice A_p n_p c_p) (.slice A_q n_q c_q)
  have g0 := Z2.c0
  have g1 := Z2.c1
  have g2 := Z2.c2
  refine bodyPost_ret (v := .agg #[.bool s, .slice A_p n_p c_p, .slice A_q n_q c_q]) (by simp [results, Tryz.results37, go_sem, g0, g1, g2]) rfl ?_
  have ho := (((Only.refl (w.heap.size + 1) w_p).setCell 0 (Value.bool s)).setCell 1 (Value.slice A_p n_p c_p)).setCell 2 (Value.slice A_q n_q c_q)
  exact ⟨s, A_p, n_p, c_p, A_q, n_q, c_q, rfl, ⟨⟨HS.out, p.only (Z.offx p) ho, pc, by rw [← p.1]; exact HK.out.1⟩, q.only (Z.offx q) ho, qc, by rw [← q.1]; exact HK.out.2⟩, below_set3 hb (by omega) _ _ _⟩
end Go.Proofs.YtlkjkhpjhllapaaGreat
namespace Go.Proofs.YtlkjkhpjhllapaaGreat
open Go Go.RowKit
theorem QR.of_rd {w : World} {s : Bool} {A A' : Option Addr} {n c n' c' k : Nat} {l l' : List Nat} (h : Rd .u64 w A n l) (hL : Lim B64 l) (hnc : n ≤ c) (h' : Rd .u64 w A' n' l') (hL' : Lim B64 l') (hnc' : n' ≤ c') (hk : n ≤ k) (hk' : n' ≤ k) :
    QR w s A n c A' n' c' (mkRat (iv s (val B64 l)) (den1 (val B64 l'))) k := ⟨_, _, ZR.of_rd h hL hnc hk, ⟨l', h', hL', rfl, hnc', hk'⟩, rfl⟩
end Go.Proofs.YtlkjkhpjhllapaaGreat
namespace Go.Proofs.YtlkjkhpjhllapaaGreat
open Go Go.RowKit
set_option maxRecDepth 100000 in
set_option maxHeartbeats 4000000 in
theorem small_m (M : Nat) {s : Bool} {A A' : Option Addr} {n c n' c' : Nat} (w : World) (L : Bool) (hL : decide (n ≤ M ∧ n' ≤ M) = L) :
    Calls Tryz.prog 46 #[.agg #[.bool s, .slice A n c, .slice A' n' c'], .int .i64 (M : Int)] w fun e w' => e = .returned (.bool L) ∧ Below w.heap.size w w' := by
  have HL := Lib.hid hL
  clear hL
  go_enter Tryz.func46, Tryz.ntmps46
  go_wp2_with fail
  generalize hW : (w.alloc (Obj.cells #[Value.bool s, Value.slice A n c, Value.slice A' n' c'] 26)) = W
  have hb : Below w.heap.size w W := by subst hW; exact ((Below.refl _ _).alloc (Nat.le_refl _) _)
  have XA : B3 W (w.heap.size) (Value.bool s) (Value.slice A n c) (Value.slice A' n' c') := by subst hW; exact B3.new' _ _ _ _ _ rfl
  have hzW : W.heap.size = w.heap.size + 1 := by subst hW; simp
  clear hW
  have xa0 := XA.c0
  have xa1 := XA.c1
  have xa2 := XA.c2
  go_wp2_with fail
  · have h : n ≤ M := by assumption
    go_ret
    refine ⟨?_, by first | assumption | exact (Below.refl _ _).alloc (Nat.le_refl _) _⟩
    show Ending.returned (.bool (decide (n' ≤ M))) = _
    rw [← HL.out]
    by_cases h2 : n' ≤ M
    · rw [decide_eq_true (show n' ≤ M by omega), decide_eq_true (show n ≤ M ∧ n' ≤ M by omega)]
    · rw [decide_eq_false (show ¬ n' ≤ M by omega), decide_eq_false (show ¬ (n ≤ M ∧ n' ≤ M) by omega)]
  · have h : M < n := by omega
    go_ret
    refine ⟨?_, by first | assumption | exact (Below.refl _ _).alloc (Nat.le_refl _) _⟩
    show Ending.returned (.bool false) = _
    rw [← HL.out, decide_eq_false (show ¬ (n ≤ M ∧ n' ≤ M) by omega)]
theorem small_8 {s : Bool} {A A' : Option Addr} {n c n' c' : Nat} (w : World) (L : Bool) (hL : decide (n ≤ 8 ∧ n' ≤ 8) = L) :
    Calls Tryz.prog 46 #[.agg #[.bool s, .slice A n c, .slice A' n' c'], .int .i64 8] w fun e w' => e = .returned (.bool L) ∧ Below w.heap.size w w' := small_m 8 w L hL
end Go.Proofs.YtlkjkhpjhllapaaGreat
