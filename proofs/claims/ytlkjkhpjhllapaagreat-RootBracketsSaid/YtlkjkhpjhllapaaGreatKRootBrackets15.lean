/- RootBrackets: part 15. -/
import Derived.Test.YtlkjkhpjhllapaaGreatKRootBrackets9
import Derived.Test.YtlkjkhpjhllapaaGreatKRootBrackets11
import Derived.Test.YtlkjkhpjhllapaaGreatKRootBrackets13
import Derived.Test.YtlkjkhpjhllapaaGreatKRootBrackets14
set_option linter.unusedVariables false
namespace Go.Proofs.YtlkjkhpjhllapaaGreat
open Go Go.RowKit
theorem cmpQ_zero {v u : Rat} : cmpQ v u = 0 ↔ v = u := by
  unfold cmpQ
  split
  · rename_i q; exact ⟨fun e => absurd e (by decide), fun e => by rw [e] at q; exact absurd q Rat.lt_irrefl⟩
  · split
    · rename_i q; exact ⟨fun e => absurd e (by decide), fun e => by rw [e] at q; exact absurd q Rat.lt_irrefl⟩
    · rename_i q r; exact ⟨fun _ => Rat.le_antisymm (Rat.not_lt.1 r) (Rat.not_lt.1 q), fun _ => rfl⟩
theorem inQ_mk (V h : Nat) : mkRat (iv false V) (2 ^ h) = inQ V h := by
  unfold inQ
  rw [Rat.divInt_ofNat]; rfl
theorem four_up (v : Rat) (h : Nat) : v * Rat.divInt (iv false (1 * 2 ^ (2 * h))) 1 = upQ v h := by
  unfold upQ
  rw [int1, Nat.one_mul, Nat.pow_mul]; rfl
theorem inQ_succ (R h : Nat) : inQ R h + inQ 1 h = inQ (R + 1) h := by
  have e1 := inQ_eq R h
  have e2 := inQ_eq 1 h
  have e3 := inQ_eq (R + 1) h
  have e4 : ((R + 1 : Nat) : Rat) = (R : Rat) + ((1 : Nat) : Rat) := by rw [← castN, ← castN, ← castN, ← Rat.intCast_add]; rfl
  have e5 : (inQ R h + inQ 1 h) * ((2 ^ h : Nat) : Rat) = inQ (R + 1) h * ((2 ^ h : Nat) : Rat) := by rw [e3, e4, ← e1, ← e2]; grind
  have h0 := two_ne h
  have e6 : ∀ x y z : Rat, z ≠ 0 → x * z = y * z → x = y := by
    intro x y z hz q
    have : x * z * z⁻¹ = y * z * z⁻¹ := by rw [q]
    rwa [Rat.mul_assoc, Rat.mul_assoc, Rat.mul_inv_cancel _ hz, Rat.mul_one, Rat.mul_one] at this
  exact e6 _ _ _ h0 e5
theorem high_of_eq {v : Rat} {h R : Nat} (e : inQ R h * inQ R h = v) : IsHigh v h R := by
  have h1 : (upQ v h).ceil.natAbs = R * R := by rw [← e, inQ_sq, ← castN, Rat.ceil_intCast]; omega
  refine ⟨R, ?_, ?_⟩
  · rw [h1]; exact ⟨Nat.le_refl _, Nat.mul_self_lt_mul_self (Nat.lt_succ_self R)⟩
  · rw [h1, if_pos rfl]
theorem high_of_ne {v : Rat} {h R : Nat} (hv : 0 ≤ v) (hl : IsLow v h R) (e : inQ R h * inQ R h ≠ v) : IsHigh v h (R + 1) := by
  have h1 := hl.le hv
  have hlt : inQ R h * inQ R h < v := by
    rcases Rat.le_iff_lt_or_eq.1 h1 with q | q
    · exact q
    · exact absurd q e
  have h0 := ceil_nn (upQ_nonneg hv h)
  have h2 : ((R * R : Nat) : Rat) < upQ v h := by
    rw [← inQ_sq R h]
    exact Rat.not_le.1 fun q => absurd ((upQ_le h).1 q) (Rat.not_le.2 hlt)
  have h3 : ((R * R : Nat) : Int) < (upQ v h).ceil := by
    rw [← castN] at h2
    exact Rat.intCast_lt_intCast.1 (lt_le h2 Rat.le_ceil)
  have h4 : (upQ v h).ceil ≤ (((R + 1) * (R + 1) : Nat) : Int) := by
    have h5 : (upQ v h).floor < (((R + 1) * (R + 1) : Nat) : Int) := by have := hl.2; have := floor_nn (upQ_nonneg hv h); omega
    rw [Rat.ceil_le_iff]
    exact Rat.le_of_lt (Rat.floor_lt_iff.1 h5)
  by_cases hc : (upQ v h).ceil.natAbs = (R + 1) * (R + 1)
  · refine ⟨R + 1, ?_, ?_⟩
    · rw [hc]; exact ⟨Nat.le_refl _, Nat.mul_self_lt_mul_self (Nat.lt_succ_self (R + 1))⟩
    · rw [if_pos hc.symm]
  · refine ⟨R, ⟨by omega, by omega⟩, ?_⟩
    rw [if_neg (by omega)]
theorem pow_lt_C {h j : Nat} (hh : h < 32 * j) : 2 ^ h < B32 ^ j := by
  have e : B32 = 2 ^ 32 := rfl
  rw [e, ← Nat.pow_mul]
  exact Nat.pow_lt_pow_right (by decide) hh
theorem pow_lt_C1 {h j : Nat} (hh : h < 32 * j) : 1 * 2 ^ h < B32 ^ j := by rw [Nat.one_mul]; exact pow_lt_C hh
set_option maxRecDepth 100000 in
set_option maxHeartbeats 4000000 in
theorem rpart4 {w : World} {A : Option Addr} {n c V k : Nat} (h : Nat) (X : RN w A n c V k) (hk : k ≤ 1000) (hk1 : 14 ≤ k) (hh : h ≤ 400) :
    Calls Tryz.prog 147 #[.slice A n c, .int .i64 (h : Int)] w (GivesRQ w (inQ V h) k) := by
  have HE := Lib.hid (inQ_mk V h)
  have HP : Hid (1 * 2 ^ h ≠ 0) := by show _ ≠ _; have := Nat.two_pow_pos h; omega
  have HO : Hid (1 * 2 ^ h = 2 ^ h) := Nat.one_mul _
  have HJ : Hid (1 * 2 ^ h < B32 ^ 14) := Lib.hid (pow_lt_C1 (j := 14) (by omega))
  have g := RG.of_f X
  go_enter Tryz.func147, Tryz.ntmps147
  go_wp2_with fail
  generalize hW : (w.alloc (Obj.cells #[Value.bool false, Value.slice none 0 0, Value.slice none 0 0] 34)) = W
  have hb : Below w.heap.size w W := by subst hW; exact ((Below.refl _ _).alloc (Nat.le_refl _) _)
  have Z : B3R W (w.heap.size) (Value.bool false) (Value.slice none 0 0) (Value.slice none 0 0) := by subst hW; exact B3R.new' _ _ _ _ _ rfl
  have hzW : W.heap.size = w.heap.size + 1 := by subst hW; simp
  clear hW
  replace X := X.below hb
  replace g := g.below hb
  go_wp2_with (first
      | (go_at_call 98; (with_reducible refine (rof_rn _).mono ?_); rintro e w_o ⟨A_o, n_o, c_o, rfl, o, hh⟩
         try replace X := X.below hh
         try replace g := g.below hh
         try replace t := t.below hh
         try replace r := r.below hh
         try replace Z := Z.below hh
         replace hb := bend hb hh)
      | (go_at_call 146; (with_reducible refine (rshl_rn h 14 o (by decide) (by omega) HJ.out).mono ?_); rintro e w_t ⟨A_t, n_t, c_t, rfl, t, hh⟩
         try replace X := X.below hh
         try replace g := g.below hh
         try replace o := o.below hh
         try replace r := r.below hh
         try replace Z := Z.below hh
         replace hb := bend hb hh)
      | (go_at_call 99; (with_reducible refine (made_rq g (t.more (by omega)) (by omega) HP.out).mono ?_); rintro e w_r ⟨s_r, A_r, n_r, c_r, B_r, m_r, d_r, rfl, r, hh⟩
         rw [HO.out, HE.out] at r
         try replace X := X.below hh
         try replace g := g.below hh
         try replace o := o.below hh
         try replace t := t.below hh
         try replace Z := Z.below hh
         replace hb := bend hb hh
         have zf0 := Z.f0
         have zf1 := Z.f1
         have zf2 := Z.f2
         have z0 := Z.c0
         have z1 := Z.c1
         have z2 := Z.c2))
  have Z2 := Z.set3 (.bool s_r) (.slice A_r n_r c_r) (.slice B_r m_r d_r)
  have g0 := Z2.c0
  have g1 := Z2.c1
  have g2 := Z2.c2
  refine bodyPost_ret (v := .agg #[.bool s_r, .slice A_r n_r c_r, .slice B_r m_r d_r]) (by simp [results, Tryz.results147, go_sem, g0, g1, g2]) rfl ?_
  exact ⟨s_r, A_r, n_r, c_r, B_r, m_r, d_r, rfl, r.set3 Z _ _ _, below_set3 hb (by omega) _ _ _⟩
def GivesPart3 (w : World) (P : Nat → Prop) (h K : Nat) (e : Ending) (w' : World) : Prop := ∃ R, P R ∧ GivesRQ w (inQ R h) K e w'
set_option maxRecDepth 100000 in
set_option maxHeartbeats 8000000 in
theorem rlow4 {w : World} {s : Bool} {A A' : Option Addr} {n c n' c' k : Nat} {v : Rat} (h : Nat) (X : RQ w s A n c A' n' c' v k) (hv : 0 ≤ v) (hk : k ≤ 500) (hh : h ≤ 400) :
    Calls Tryz.prog 51 #[.agg #[.bool s, .slice A n c, .slice A' n' c'], .int .i64 (h : Int)] w (GivesPart3 w (IsLow v h) h (k + 27)) := by
  have HE := Lib.hid (four_up v h)
  have HV := Lib.hid hv
  have hfd := fld02
  have HJ : Hid (1 * 2 ^ (2 * h) < B32 ^ 26) := Lib.hid (pow_lt_C1 (j := 26) (by omega))
  have hhi : (h : Int) ≤ 400 := by omega
  have h2i : (2 : Int) * (h : Int) = ((2 * h : Nat) : Int) := by omega
  obtain ⟨H2, hH2⟩ : ∃ H2, 2 * h = H2 := ⟨_, rfl⟩
  have hHI : (2 : Int) * (h : Int) = (H2 : Int) := by omega
  have hH8 : H2 ≤ 800 := by omega
  rw [hH2] at HE HJ
  clear h2i hv
  go_enter Tryz.func51, Tryz.ntmps51
  go_wp2_with fail
  generalize hW : ((w.alloc (Obj.cells #[Value.bool s, Value.slice A n c, Value.slice A' n' c'] 34)).alloc (Obj.cells #[Value.bool false, Value.slice none 0 0, Value.slice none 0 0] 34)) = W
  have hb : Below w.heap.size w W := by subst hW; exact (((Below.refl _ _).alloc (Nat.le_refl _) _).alloc (by simp) _)
  have XA : B3R W (w.heap.size) (Value.bool s) (Value.slice A n c) (Value.slice A' n' c') := by subst hW; exact (B3R.new' _ _ _ _ _ rfl).alloc _
  have Z : B3R W (w.heap.size + 1) (Value.bool false) (Value.slice none 0 0) (Value.slice none 0 0) := by subst hW; exact B3R.new' _ _ _ _ _ (by simp)
  have hzW : W.heap.size = w.heap.size + 2 := by subst hW; simp
  clear hW
  replace X := X.below hb
  have xa0 := XA.c0
  have xa1 := XA.c1
  have xa2 := XA.c2
  go_upto_region 2 with (first
      | (go_at_call 98; (with_reducible refine (rof_rn _).mono ?_); rintro e w_o ⟨A_o, n_o, c_o, rfl, o, hh⟩
         try replace X := X.below hh
         try replace f := f.below hh
         try replace wh := wh.below hh
         try replace m := m.below hh
         try replace fl := fl.below hh
         try replace q := q.below hh
         try replace r := r.below hh
         try replace XA := XA.below hh
         try replace XF := XF.below hh
         try replace Z := Z.below hh
         replace hb := bend hb hh
         have xa0 := XA.c0
         have xa1 := XA.c1
         have xa2 := XA.c2)
      | (go_at_call 146; (with_reducible refine (rshl_rn H2 26 o (by decide) (by omega) HJ.out).mono ?_); rintro e w_f ⟨A_f, n_f, c_f, rfl, f, hh⟩
         try replace X := X.below hh
         try replace o := o.below hh
         try replace wh := wh.below hh
         try replace m := m.below hh
         try replace fl := fl.below hh
         try replace q := q.below hh
         try replace r := r.below hh
         try replace XA := XA.below hh
         try replace XF := XF.below hh
         try replace Z := Z.below hh
         replace hb := bend hb hh
         have xa0 := XA.c0
         have xa1 := XA.c1
         have xa2 := XA.c2)
      | (go_at_call 145; (with_reducible refine (rwhole3 (RG.of_f f) (by decide)).mono ?_); rintro e w_wh ⟨s_wh, A_wh, n_wh, c_wh, B_wh, m_wh, d_wh, rfl, wh, hh⟩
         try replace X := X.below hh
         try replace o := o.below hh
         try replace f := f.below hh
         try replace m := m.below hh
         try replace fl := fl.below hh
         try replace q := q.below hh
         try replace r := r.below hh
         try replace XA := XA.below hh
         try replace XF := XF.below hh
         try replace Z := Z.below hh
         replace hb := bend hb hh
         have xa0 := XA.c0
         have xa1 := XA.c1
         have xa2 := XA.c2))
  generalize hW : (w_wh.alloc (Obj.cells #[Value.bool s_wh, Value.slice A_wh n_wh c_wh, Value.slice B_wh m_wh d_wh] 34)) = W2
  have hh : Below w_wh.heap.size w_wh W2 := by subst hW; exact ((Below.refl _ _).alloc (Nat.le_refl _) _)
  have XF : B3R W2 (w_wh.heap.size) (Value.bool s_wh) (Value.slice A_wh n_wh c_wh) (Value.slice B_wh m_wh d_wh) := by subst hW; exact B3R.new' _ _ _ _ _ rfl
  have hzW2 : W2.heap.size = w_wh.heap.size + 1 := by subst hW; simp
  clear hW
  try replace X := X.below hh
  try replace wh := wh.below hh
  try replace XA := XA.below hh
  try replace Z := Z.below hh
  replace hb := bend hb hh
  have xa0 := XA.c0
  have xa1 := XA.c1
  have xa2 := XA.c2
  have xf0 := XF.c0
  have xf1 := XF.c1
  have xf2 := XF.c2
  go_wp2_with (first
      | (go_at_call 27; (with_reducible refine (rmul3 X wh (by omega) (by omega)).mono ?_); rintro e w_m ⟨s_m, A_m, n_m, c_m, B_m, m_m, d_m, rfl, m, hh⟩
         rw [HE.out] at m
         try replace X := X.below hh
         try replace o := o.below hh
         try replace f := f.below hh
         try replace wh := wh.below hh
         try replace fl := fl.below hh
         try replace q := q.below hh
         try replace r := r.below hh
         try replace XA := XA.below hh
         try replace XF := XF.below hh
         try replace Z := Z.below hh
         replace hb := bend hb hh
         have xa0 := XA.c0
         have xa1 := XA.c1
         have xa2 := XA.c2)
      | (go_at_call 149; (with_reducible refine (rfloor3 m (by omega) (by omega)).mono ?_); rintro e w_fl ⟨s_fl, A_fl, n_fl, c_fl, rfl, fl, hh⟩
         try replace X := X.below hh
         try replace o := o.below hh
         try replace f := f.below hh
         try replace wh := wh.below hh
         try replace m := m.below hh
         try replace q := q.below hh
         try replace r := r.below hh
         try replace XA := XA.below hh
         try replace XF := XF.below hh
         try replace Z := Z.below hh
         replace hb := bend hb hh
         have xa0 := XA.c0
         have xa1 := XA.c1
         have xa2 := XA.c2)
      | (go_at_call 148; (with_reducible refine (rsqrt_rn fl.rn (by omega)).mono ?_); rintro e w_q ⟨R, hR, A_q, n_q, c_q, rfl, q, hh⟩
         try replace X := X.below hh
         try replace o := o.below hh
         try replace f := f.below hh
         try replace wh := wh.below hh
         try replace m := m.below hh
         try replace fl := fl.below hh
         try replace r := r.below hh
         try replace XA := XA.below hh
         try replace XF := XF.below hh
         try replace Z := Z.below hh
         replace hb := bend hb hh
         have xa0 := XA.c0
         have xa1 := XA.c1
         have xa2 := XA.c2)
      | (go_at_call 147; (with_reducible refine (rpart4 h q (by omega) (by omega) (by omega)).mono ?_); rintro e w_r ⟨s_r, A_r, n_r, c_r, B_r, m_r, d_r, rfl, r, hh⟩
         try replace X := X.below hh
         try replace o := o.below hh
         try replace f := f.below hh
         try replace wh := wh.below hh
         try replace m := m.below hh
         try replace fl := fl.below hh
         try replace q := q.below hh
         try replace XA := XA.below hh
         try replace XF := XF.below hh
         try replace Z := Z.below hh
         replace hb := bend hb hh
         have xa0 := XA.c0
         have xa1 := XA.c1
         have xa2 := XA.c2
         have zf0 := Z.f0
         have zf1 := Z.f1
         have zf2 := Z.f2
         have z0 := Z.c0
         have z1 := Z.c1
         have z2 := Z.c2))
  have Z2 := Z.set3 (.bool s_r) (.slice A_r n_r c_r) (.slice B_r m_r d_r)
  have g0 := Z2.c0
  have g1 := Z2.c1
  have g2 := Z2.c2
  refine bodyPost_ret (v := .agg #[.bool s_r, .slice A_r n_r c_r, .slice B_r m_r d_r]) (by simp [results, Tryz.results51, go_sem, g0, g1, g2]) rfl ?_
  exact ⟨R, hR, s_r, A_r, n_r, c_r, B_r, m_r, d_r, rfl, r.set3 Z _ _ _, below_set3 hb (by omega) _ _ _⟩
set_option maxRecDepth 100000 in
set_option maxHeartbeats 8000000 in
theorem rhigh4_eq {w : World} {s : Bool} {A A' : Option Addr} {n c n' c' k : Nat} {v : Rat} (h : Nat) (X : RQ w s A n c A' n' c' v k) (hv : 0 ≤ v) (hk : k ≤ 400) (hh : h ≤ 400) (he : ∃ R, IsLow v h R ∧ inQ R h * inQ R h = v) :
    Calls Tryz.prog 52 #[.agg #[.bool s, .slice A n c, .slice A' n' c'], .int .i64 (h : Int)] w (GivesPart3 w (IsHigh v h) h (k + 42)) := by
  have HV := Lib.hid hv
  have HX := Lib.hid he
  clear hv he
  go_enter Tryz.func52, Tryz.ntmps52
  go_wp2_with fail
  generalize hW : ((w.alloc (Obj.cells #[Value.bool s, Value.slice A n c, Value.slice A' n' c'] 34)).alloc (Obj.cells #[Value.bool false, Value.slice none 0 0, Value.slice none 0 0] 34)) = W
  have hb : Below w.heap.size w W := by subst hW; exact (((Below.refl _ _).alloc (Nat.le_refl _) _).alloc (by simp) _)
  have XA : B3R W (w.heap.size) (Value.bool s) (Value.slice A n c) (Value.slice A' n' c') := by subst hW; exact (B3R.new' _ _ _ _ _ rfl).alloc _
  have Z : B3R W (w.heap.size + 1) (Value.bool false) (Value.slice none 0 0) (Value.slice none 0 0) := by subst hW; exact B3R.new' _ _ _ _ _ (by simp)
  have hzW : W.heap.size = w.heap.size + 2 := by subst hW; simp
  clear hW
  replace X := X.below hb
  have xa0 := XA.c0
  have xa1 := XA.c1
  have xa2 := XA.c2
  go_upto_region 2 with (first
      | (go_at_call 51; (with_reducible refine (rlow4 h X HV.out (by omega) (by omega)).mono ?_); rintro e w_l ⟨R, hR, s_l, A_l, n_l, c_l, B_l, m_l, d_l, rfl, l, hh⟩
         try replace X := X.below hh
         try replace m := m.below hh
         try replace o := o.below hh
         try replace p := p.below hh
         try replace r := r.below hh
         try replace XA := XA.below hh
         try replace XL := XL.below hh
         try replace Z := Z.below hh
         replace hb := bend hb hh
         have xa0 := XA.c0
         have xa1 := XA.c1
         have xa2 := XA.c2))
  have he : inQ R h * inQ R h = v := by
    obtain ⟨S, h1, h2⟩ := HX.out
    rw [hR.one h1]; exact h2
  have HC : Hid (cmpQ (inQ R h * inQ R h) v = 0) := by show _ = _; rw [he]; exact cmpQ_zero.2 rfl
  have HHI : Hid (IsHigh v h R) := high_of_eq he
  clear he
  have hzl : w.heap.size + 1 < w_l.heap.size := Z.lt
  generalize hW : (w_l.alloc (Obj.cells #[Value.bool s_l, Value.slice A_l n_l c_l, Value.slice B_l m_l d_l] 34)) = W2
  have hh : Below w_l.heap.size w_l W2 := by subst hW; exact ((Below.refl _ _).alloc (Nat.le_refl _) _)
  have XL : B3R W2 (w_l.heap.size) (Value.bool s_l) (Value.slice A_l n_l c_l) (Value.slice B_l m_l d_l) := by subst hW; exact B3R.new' _ _ _ _ _ rfl
  have hzW2 : W2.heap.size = w_l.heap.size + 1 := by subst hW; simp
  clear hW
  try replace X := X.below hh
  try replace l := l.below hh
  try replace XA := XA.below hh
  try replace Z := Z.below hh
  replace hb := bend hb hh
  replace X := X.below (Below.refl _ _).drew
  replace l := l.below (Below.refl _ _).drew
  replace XA := XA.below (Below.refl _ _).drew
  replace XL := XL.below (Below.refl _ _).drew
  replace Z := Z.below (Below.refl _ _).drew
  replace hb := hb.drew
  go_region_held3 (fun w' => w'.cell? ⟨w.heap.size, 0, none⟩ = some (.bool s) ∧ w'.cell? ⟨w.heap.size, 1, none⟩ = some (.slice A n c) ∧ w'.cell? ⟨w.heap.size, 2, none⟩ = some (.slice A' n' c') ∧ w'.cell? ⟨w_l.heap.size, 0, none⟩ = some (.bool s_l) ∧ w'.cell? ⟨w_l.heap.size, 1, none⟩ = some (.slice A_l n_l c_l) ∧ w'.cell? ⟨w_l.heap.size, 2, none⟩ = some (.slice B_l m_l d_l))
    (first | with_reducible exact ⟨XA.c0, XA.c1, XA.c2, XL.c0, XL.c1, XL.c2⟩)
    (first
    | (go_at_call 27; (with_reducible refine (rmul3 l l (by omega) (by omega)).mono ?_); rintro e w_m ⟨s_m, A_m, n_m, c_m, B_m, m_m, d_m, rfl, m, hh⟩
       try replace X := X.below hh
       try replace l := l.below hh
       try replace o := o.below hh
       try replace p := p.below hh
       try replace r := r.below hh
       try replace XA := XA.below hh
       try replace XL := XL.below hh
       try replace Z := Z.below hh
       replace hb := bend hb hh)
    | (go_at_call 29; (with_reducible refine (rcmp3 m X (by omega) (by omega)).mono ?_); rintro e w_z ⟨rfl, hh⟩
       rw [HC.out]
       try replace X := X.below hh
       try replace l := l.below hh
       try replace m := m.below hh
       try replace o := o.below hh
       try replace p := p.below hh
       try replace r := r.below hh
       try replace XA := XA.below hh
       try replace XL := XL.below hh
       try replace Z := Z.below hh
       replace hb := bend hb hh))
  try clear m
  have xl0 := XL.c0
  have xl1 := XL.c1
  have xl2 := XL.c2
  have zf0 := Z.f0
  have zf1 := Z.f1
  have zf2 := Z.f2
  have z0 := Z.c0
  have z1 := Z.c1
  have z2 := Z.c2
  go_wp2_with fail
  have Z2 := Z.set3 (.bool s_l) (.slice A_l n_l c_l) (.slice B_l m_l d_l)
  have g0 := Z2.c0
  have g1 := Z2.c1
  have g2 := Z2.c2
  refine bodyPost_ret (v := .agg #[.bool s_l, .slice A_l n_l c_l, .slice B_l m_l d_l]) (by simp [results, Tryz.results52, go_sem, g0, g1, g2]) rfl ?_
  exact ⟨R, HHI.out, s_l, A_l, n_l, c_l, B_l, m_l, d_l, rfl, (l.more (by omega)).set3 Z _ _ _, below_set3 hb (by omega) _ _ _⟩
set_option maxRecDepth 100000 in
set_option maxHeartbeats 8000000 in
theorem rhigh4_ne {w : World} {s : Bool} {A A' : Option Addr} {n c n' c' k : Nat} {v : Rat} (h : Nat) (X : RQ w s A n c A' n' c' v k) (hv : 0 ≤ v) (hk : k ≤ 400) (hh : h ≤ 400) (he : ¬ ∃ R, IsLow v h R ∧ inQ R h * inQ R h = v) :
    Calls Tryz.prog 52 #[.agg #[.bool s, .slice A n c, .slice A' n' c'], .int .i64 (h : Int)] w (GivesPart3 w (IsHigh v h) h (k + 42)) := by
  have HV := Lib.hid hv
  have HX := Lib.hid he
  clear hv he
  go_enter Tryz.func52, Tryz.ntmps52
  go_wp2_with fail
  generalize hW : ((w.alloc (Obj.cells #[Value.bool s, Value.slice A n c, Value.slice A' n' c'] 34)).alloc (Obj.cells #[Value.bool false, Value.slice none 0 0, Value.slice none 0 0] 34)) = W
  have hb : Below w.heap.size w W := by subst hW; exact (((Below.refl _ _).alloc (Nat.le_refl _) _).alloc (by simp) _)
  have XA : B3R W (w.heap.size) (Value.bool s) (Value.slice A n c) (Value.slice A' n' c') := by subst hW; exact (B3R.new' _ _ _ _ _ rfl).alloc _
  have Z : B3R W (w.heap.size + 1) (Value.bool false) (Value.slice none 0 0) (Value.slice none 0 0) := by subst hW; exact B3R.new' _ _ _ _ _ (by simp)
  have hzW : W.heap.size = w.heap.size + 2 := by subst hW; simp
  clear hW
  replace X := X.below hb
  have xa0 := XA.c0
  have xa1 := XA.c1
  have xa2 := XA.c2
  go_upto_region 2 with (first
      | (go_at_call 51; (with_reducible refine (rlow4 h X HV.out (by omega) (by omega)).mono ?_); rintro e w_l ⟨R, hR, s_l, A_l, n_l, c_l, B_l, m_l, d_l, rfl, l, hh⟩
         try replace X := X.below hh
         try replace m := m.below hh
         try replace o := o.below hh
         try replace p := p.below hh
         try replace r := r.below hh
         try replace XA := XA.below hh
         try replace XL := XL.below hh
         try replace Z := Z.below hh
         replace hb := bend hb hh
         have xa0 := XA.c0
         have xa1 := XA.c1
         have xa2 := XA.c2))
  have he : inQ R h * inQ R h ≠ v := fun q => HX.out ⟨R, hR, q⟩
  obtain ⟨K, hK, hK0⟩ : ∃ K, cmpQ (inQ R h * inQ R h) v = K ∧ ((K : Int) == 0) = false := ⟨_, rfl, by simpa using fun q => he (cmpQ_zero.1 q)⟩
  have HC := Lib.hid hK
  have HHI : Hid (IsHigh v h (R + 1)) := high_of_ne HV.out hR he
  have HSU := Lib.hid (inQ_succ R h)
  clear hK
  clear he
  have hzl : w.heap.size + 1 < w_l.heap.size := Z.lt
  generalize hW : (w_l.alloc (Obj.cells #[Value.bool s_l, Value.slice A_l n_l c_l, Value.slice B_l m_l d_l] 34)) = W2
  have hh : Below w_l.heap.size w_l W2 := by subst hW; exact ((Below.refl _ _).alloc (Nat.le_refl _) _)
  have XL : B3R W2 (w_l.heap.size) (Value.bool s_l) (Value.slice A_l n_l c_l) (Value.slice B_l m_l d_l) := by subst hW; exact B3R.new' _ _ _ _ _ rfl
  have hzW2 : W2.heap.size = w_l.heap.size + 1 := by subst hW; simp
  clear hW
  try replace X := X.below hh
  try replace l := l.below hh
  try replace XA := XA.below hh
  try replace Z := Z.below hh
  replace hb := bend hb hh
  replace X := X.below (Below.refl _ _).drew
  replace l := l.below (Below.refl _ _).drew
  replace XA := XA.below (Below.refl _ _).drew
  replace XL := XL.below (Below.refl _ _).drew
  replace Z := Z.below (Below.refl _ _).drew
  replace hb := hb.drew
  go_region_held3 (fun w' => w'.cell? ⟨w.heap.size, 0, none⟩ = some (.bool s) ∧ w'.cell? ⟨w.heap.size, 1, none⟩ = some (.slice A n c) ∧ w'.cell? ⟨w.heap.size, 2, none⟩ = some (.slice A' n' c') ∧ w'.cell? ⟨w_l.heap.size, 0, none⟩ = some (.bool s_l) ∧ w'.cell? ⟨w_l.heap.size, 1, none⟩ = some (.slice A_l n_l c_l) ∧ w'.cell? ⟨w_l.heap.size, 2, none⟩ = some (.slice B_l m_l d_l))
    (first | with_reducible exact ⟨XA.c0, XA.c1, XA.c2, XL.c0, XL.c1, XL.c2⟩)
    (first
    | (go_at_call 27; (with_reducible refine (rmul3 l l (by omega) (by omega)).mono ?_); rintro e w_m ⟨s_m, A_m, n_m, c_m, B_m, m_m, d_m, rfl, m, hh⟩
       try replace X := X.below hh
       try replace l := l.below hh
       try replace o := o.below hh
       try replace p := p.below hh
       try replace r := r.below hh
       try replace XA := XA.below hh
       try replace XL := XL.below hh
       try replace Z := Z.below hh
       replace hb := bend hb hh)
    | (go_at_call 29; (with_reducible refine (rcmp3 m X (by omega) (by omega)).mono ?_); rintro e w_z ⟨rfl, hh⟩
       rw [HC.out]
       try replace X := X.below hh
       try replace l := l.below hh
       try replace m := m.below hh
       try replace o := o.below hh
       try replace p := p.below hh
       try replace r := r.below hh
       try replace XA := XA.below hh
       try replace XL := XL.below hh
       try replace Z := Z.below hh
       replace hb := bend hb hh))
  try clear m
  go_upto_region 4 with (fail)
  replace X := X.below (Below.refl _ _).drew
  replace l := l.below (Below.refl _ _).drew
  replace XA := XA.below (Below.refl _ _).drew
  replace XL := XL.below (Below.refl _ _).drew
  replace Z := Z.below (Below.refl _ _).drew
  replace hb := hb.drew
  go_region_held3 (fun w' => w'.cell? ⟨w_l.heap.size, 0, none⟩ = some (.bool s_l) ∧ w'.cell? ⟨w_l.heap.size, 1, none⟩ = some (.slice A_l n_l c_l) ∧ w'.cell? ⟨w_l.heap.size, 2, none⟩ = some (.slice B_l m_l d_l))
    (first | with_reducible exact ⟨XL.c0, XL.c1, XL.c2⟩ | with_reducible exact ⟨(set3_cell _ _ _ _ _ _ _ (by omega)).trans XL.c0, (set3_cell _ _ _ _ _ _ _ (by omega)).trans XL.c1, (set3_cell _ _ _ _ _ _ _ (by omega)).trans XL.c2⟩)
    (first
    | (go_at_call 98; (with_reducible refine (rof_rn _).mono ?_); rintro e w_o ⟨A_o, n_o, c_o, rfl, o, hh⟩
       try replace X := X.below hh
       try replace l := l.below hh
       try replace m := m.below hh
       try replace p := p.below hh
       try replace r := r.below hh
       try replace XA := XA.below hh
       try replace XL := XL.below hh
       try replace Z := Z.below hh
       replace hb := bend hb hh)
    | (go_at_call 147; (with_reducible refine (rpart4 h (o.more (show 1 ≤ 14 by decide)) (by decide) (by decide) (by omega)).mono ?_); rintro e w_p ⟨s_p, A_p, n_p, c_p, B_p, m_p, d_p, rfl, p, hh⟩
       try replace X := X.below hh
       try replace l := l.below hh
       try replace m := m.below hh
       try replace o := o.below hh
       try replace r := r.below hh
       try replace XA := XA.below hh
       try replace XL := XL.below hh
       try replace Z := Z.below hh
       replace hb := bend hb hh)
    | (go_at_call 23; (with_reducible refine (radd3 l p (by omega) (by decide)).mono ?_); rintro e w_r ⟨s_r, A_r, n_r, c_r, B_r, m_r, d_r, rfl, r, hh⟩
       rw [HSU.out] at r
       try replace X := X.below hh
       try replace l := l.below hh
       try replace m := m.below hh
       try replace o := o.below hh
       try replace p := p.below hh
       try replace XA := XA.below hh
       try replace XL := XL.below hh
       try replace Z := Z.below hh
       replace hb := bend hb hh
       have zf0 := Z.f0
       have zf1 := Z.f1
       have zf2 := Z.f2
       have z0 := Z.c0
       have z1 := Z.c1
       have z2 := Z.c2))
  go_wp2_with fail
  have Z2 := Z.set3 (.bool s_r) (.slice A_r n_r c_r) (.slice B_r m_r d_r)
  have g0 := Z2.c0
  have g1 := Z2.c1
  have g2 := Z2.c2
  refine bodyPost_ret (v := .agg #[.bool s_r, .slice A_r n_r c_r, .slice B_r m_r d_r]) (by simp [results, Tryz.results52, go_sem, g0, g1, g2]) rfl ?_
  exact ⟨R + 1, HHI.out, s_r, A_r, n_r, c_r, B_r, m_r, d_r, rfl, (r.more (by omega)).set3 Z _ _ _, below_set3 hb (by omega) _ _ _⟩
theorem rhigh4 {w : World} {s : Bool} {A A' : Option Addr} {n c n' c' k : Nat} {v : Rat} (h : Nat) (X : RQ w s A n c A' n' c' v k) (hv : 0 ≤ v) (hk : k ≤ 400) (hh : h ≤ 400) :
    Calls Tryz.prog 52 #[.agg #[.bool s, .slice A n c, .slice A' n' c'], .int .i64 (h : Int)] w (GivesPart3 w (IsHigh v h) h (k + 42)) := by
  by_cases he : ∃ R, IsLow v h R ∧ inQ R h * inQ R h = v
  · exact rhigh4_eq h X hv hk hh he
  · exact rhigh4_ne h X hv hk hh he
set_option maxRecDepth 100000 in
set_option maxHeartbeats 4000000 in
theorem fault_neg {w : World} {s : Bool} {A A' : Option Addr} {n c n' c' k : Nat} {v : Rat} (h : Nat) (X : QR w s A n c A' n' c' v k) (hv : v < 0) (hk : k ≤ 400) (hk1 : 1 ≤ k) (hh : h ≤ 4096) :
    Calls Tryz.prog 138 #[.agg #[.bool s, .slice A n c, .slice A' n' c'], .int .i64 (h : Int)] w fun e w' => e = .returned (.int .i64 13) ∧ Below w.heap.size w w' := by
  have HG : Hid (sgnQ v = -1) := by show _ = _; unfold sgnQ; rw [if_pos hv]
  have hh1 : ¬ (h : Int) < 0 := by omega
  have hh2 : ¬ 4096 < (h : Int) := by omega
  clear hv
  go_enter Tryz.func138, Tryz.ntmps138
  go_wp2_with fail
  generalize hW : (w.alloc (Obj.cells #[Value.bool s, Value.slice A n c, Value.slice A' n' c'] 26)) = W
  have hb : Below w.heap.size w W := by subst hW; exact ((Below.refl _ _).alloc (Nat.le_refl _) _)
  have XA : B3 W (w.heap.size) (Value.bool s) (Value.slice A n c) (Value.slice A' n' c') := by subst hW; exact B3.new' _ _ _ _ _ rfl
  have hzW : W.heap.size = w.heap.size + 1 := by subst hW; simp
  clear hW
  replace X := X.below hb
  have xa0 := XA.c0
  have xa1 := XA.c1
  have xa2 := XA.c2
  go_wp2_with (first
      | (go_at_call 30; (with_reducible refine (rsign_q X (by omega) hk1).mono ?_); rintro e w_z ⟨rfl, hh⟩
         rw [HG.out]
         try replace X := X.below hh
         try replace XA := XA.below hh
         replace hb := bend hb hh
         have xa0 := XA.c0
         have xa1 := XA.c1
         have xa2 := XA.c2))
  go_ret
  exact ⟨rfl, hb⟩
set_option maxRecDepth 100000 in
set_option maxHeartbeats 4000000 in
theorem low_neg {w : World} {s : Bool} {A A' : Option Addr} {n c n' c' k : Nat} {v : Rat} (h : Nat) (X : QR w s A n c A' n' c' v k) (hv : v < 0) (hk : k ≤ 400) (hk1 : 1 ≤ k) (hh : h ≤ 4096) :
    Calls Tryz.prog 48 #[.agg #[.bool s, .slice A n c, .slice A' n' c'], .int .i64 (h : Int)] w fun e w' => e = .returned (.tuple #[.agg #[.bool false, .slice none 0 0, .slice none 0 0], .int .i64 13]) ∧ Below w.heap.size w w' := by
  have HV := Lib.hid hv
  clear hv
  go_enter Tryz.func48, Tryz.ntmps48
  go_wp2_with fail
  generalize hW : ((w.alloc (Obj.cells #[Value.bool s, Value.slice A n c, Value.slice A' n' c'] 26)).alloc (Obj.cells #[Value.bool false, Value.slice none 0 0, Value.slice none 0 0] 26)) = W
  have hb : Below w.heap.size w W := by subst hW; exact (((Below.refl _ _).alloc (Nat.le_refl _) _).alloc (by simp) _)
  have XA : B3 W (w.heap.size) (Value.bool s) (Value.slice A n c) (Value.slice A' n' c') := by subst hW; exact (B3.new' _ _ _ _ _ rfl).alloc _
  have Z : B3 W (w.heap.size + 1) (Value.bool false) (Value.slice none 0 0) (Value.slice none 0 0) := by subst hW; exact B3.new' _ _ _ _ _ (by simp)
  have hzW : W.heap.size = w.heap.size + 2 := by subst hW; simp
  clear hW
  replace X := X.below hb
  have xa0 := XA.c0
  have xa1 := XA.c1
  have xa2 := XA.c2
  have zf0 := Z.f0
  have zf1 := Z.f1
  have zf2 := Z.f2
  have z0 := Z.c0
  have z1 := Z.c1
  have z2 := Z.c2
  go_wp2_with (first
      | (go_at_call 138; (with_reducible refine (fault_neg h X HV.out hk hk1 hh).mono ?_); rintro e w_z ⟨rfl, hh⟩
         try replace X := X.below hh
         try replace XA := XA.below hh
         try replace Z := Z.below hh
         replace hb := bend hb hh
         have xa0 := XA.c0
         have xa1 := XA.c1
         have xa2 := XA.c2
         have zf0 := Z.f0
         have zf1 := Z.f1
         have zf2 := Z.f2
         have z0 := Z.c0
         have z1 := Z.c1
         have z2 := Z.c2))
  have Z2 := Z.set3 (.bool false) (.slice none 0 0) (.slice none 0 0)
  have g0 := Z2.c0
  have g1 := Z2.c1
  have g2 := Z2.c2
  refine bodyPost_ret (v := .tuple #[.agg #[.bool false, .slice none 0 0, .slice none 0 0], .int .i64 13]) (by simp [results, Tryz.results48, go_sem, g0, g1, g2]) rfl ?_
  exact ⟨rfl, below_set3 hb (by omega) _ _ _⟩
set_option maxRecDepth 100000 in
set_option maxHeartbeats 4000000 in
theorem high_neg {w : World} {s : Bool} {A A' : Option Addr} {n c n' c' k : Nat} {v : Rat} (h : Nat) (X : QR w s A n c A' n' c' v k) (hv : v < 0) (hk : k ≤ 400) (hk1 : 1 ≤ k) (hh : h ≤ 4096) :
    Calls Tryz.prog 49 #[.agg #[.bool s, .slice A n c, .slice A' n' c'], .int .i64 (h : Int)] w fun e w' => e = .returned (.tuple #[.agg #[.bool false, .slice none 0 0, .slice none 0 0], .int .i64 13]) ∧ Below w.heap.size w w' := by
  have HV := Lib.hid hv
  clear hv
  go_enter Tryz.func49, Tryz.ntmps49
  go_wp2_with fail
  generalize hW : ((w.alloc (Obj.cells #[Value.bool s, Value.slice A n c, Value.slice A' n' c'] 26)).alloc (Obj.cells #[Value.bool false, Value.slice none 0 0, Value.slice none 0 0] 26)) = W
  have hb : Below w.heap.size w W := by subst hW; exact (((Below.refl _ _).alloc (Nat.le_refl _) _).alloc (by simp) _)
  have XA : B3 W (w.heap.size) (Value.bool s) (Value.slice A n c) (Value.slice A' n' c') := by subst hW; exact (B3.new' _ _ _ _ _ rfl).alloc _
  have Z : B3 W (w.heap.size + 1) (Value.bool false) (Value.slice none 0 0) (Value.slice none 0 0) := by subst hW; exact B3.new' _ _ _ _ _ (by simp)
  have hzW : W.heap.size = w.heap.size + 2 := by subst hW; simp
  clear hW
  replace X := X.below hb
  have xa0 := XA.c0
  have xa1 := XA.c1
  have xa2 := XA.c2
  have zf0 := Z.f0
  have zf1 := Z.f1
  have zf2 := Z.f2
  have z0 := Z.c0
  have z1 := Z.c1
  have z2 := Z.c2
  go_wp2_with (first
      | (go_at_call 138; (with_reducible refine (fault_neg h X HV.out hk hk1 hh).mono ?_); rintro e w_z ⟨rfl, hh⟩
         try replace X := X.below hh
         try replace XA := XA.below hh
         try replace Z := Z.below hh
         replace hb := bend hb hh
         have xa0 := XA.c0
         have xa1 := XA.c1
         have xa2 := XA.c2
         have zf0 := Z.f0
         have zf1 := Z.f1
         have zf2 := Z.f2
         have z0 := Z.c0
         have z1 := Z.c1
         have z2 := Z.c2))
  have Z2 := Z.set3 (.bool false) (.slice none 0 0) (.slice none 0 0)
  have g0 := Z2.c0
  have g1 := Z2.c1
  have g2 := Z2.c2
  refine bodyPost_ret (v := .tuple #[.agg #[.bool false, .slice none 0 0, .slice none 0 0], .int .i64 13]) (by simp [results, Tryz.results49, go_sem, g0, g1, g2]) rfl ?_
  exact ⟨rfl, below_set3 hb (by omega) _ _ _⟩
end Go.Proofs.YtlkjkhpjhllapaaGreat
namespace Go.Proofs.YtlkjkhpjhllapaaGreat
open Go Go.RowKit
set_option maxRecDepth 100000 in
set_option maxHeartbeats 4000000 in
theorem fault_lo {w : World} {s : Bool} {A A' : Option Addr} {n c n' c' : Nat} (j : Int) (hj : j < 0) :
    Calls Tryz.prog 138 #[.agg #[.bool s, .slice A n c, .slice A' n' c'], .int .i64 j] w fun e w' => e = .returned (.int .i64 1) ∧ Below w.heap.size w w' := by
  have hh1 : j < 0 := hj
  clear hj
  go_enter Tryz.func138, Tryz.ntmps138
  go_wp2_with fail
  go_ret
  exact ⟨rfl, (Below.refl _ _).alloc (Nat.le_refl _) _⟩
set_option maxRecDepth 100000 in
set_option maxHeartbeats 4000000 in
theorem may_lo {w : World} {s : Bool} {A A' : Option Addr} {n c n' c' : Nat} (j : Int) (hj : j < 0) :
    Calls Tryz.prog 50 #[.agg #[.bool s, .slice A n c, .slice A' n' c'], .int .i64 j] w fun e w' => e = .returned (.int .i64 1) ∧ Below w.heap.size w w' := by
  have hh1 : j < 0 := hj
  clear hj
  go_enter Tryz.func50, Tryz.ntmps50
  go_wp2_with fail
  go_ret
  exact ⟨rfl, (Below.refl _ _).alloc (Nat.le_refl _) _⟩
set_option maxRecDepth 100000 in
set_option maxHeartbeats 4000000 in
theorem fault_hi {w : World} {s : Bool} {A A' : Option Addr} {n c n' c' : Nat} (j : Int) (hj : 4096 < j) :
    Calls Tryz.prog 138 #[.agg #[.bool s, .slice A n c, .slice A' n' c'], .int .i64 j] w fun e w' => e = .returned (.int .i64 1) ∧ Below w.heap.size w w' := by
  have hh1 : ¬ j < 0 := by omega
  have hh2 : 4096 < j := hj
  clear hj
  go_enter Tryz.func138, Tryz.ntmps138
  go_wp2_with fail
  go_ret
  exact ⟨rfl, (Below.refl _ _).alloc (Nat.le_refl _) _⟩
set_option maxRecDepth 100000 in
set_option maxHeartbeats 4000000 in
theorem may_hi {w : World} {s : Bool} {A A' : Option Addr} {n c n' c' : Nat} (j : Int) (hj : 4096 < j) :
    Calls Tryz.prog 50 #[.agg #[.bool s, .slice A n c, .slice A' n' c'], .int .i64 j] w fun e w' => e = .returned (.int .i64 1) ∧ Below w.heap.size w w' := by
  have hh1 : ¬ j < 0 := by omega
  have hh2 : 4096 < j := hj
  clear hj
  go_enter Tryz.func50, Tryz.ntmps50
  go_wp2_with fail
  go_ret
  exact ⟨rfl, (Below.refl _ _).alloc (Nat.le_refl _) _⟩
theorem fault_arg {w : World} {s : Bool} {A A' : Option Addr} {n c n' c' : Nat} (j : Int) (hj : j < 0 ∨ 4096 < j) :
    Calls Tryz.prog 138 #[.agg #[.bool s, .slice A n c, .slice A' n' c'], .int .i64 j] w fun e w' => e = .returned (.int .i64 1) ∧ Below w.heap.size w w' := hj.elim (fault_lo j) (fault_hi j)
theorem may_arg {w : World} {s : Bool} {A A' : Option Addr} {n c n' c' : Nat} (j : Int) (hj : j < 0 ∨ 4096 < j) :
    Calls Tryz.prog 50 #[.agg #[.bool s, .slice A n c, .slice A' n' c'], .int .i64 j] w fun e w' => e = .returned (.int .i64 1) ∧ Below w.heap.size w w' := hj.elim (may_lo j) (may_hi j)
set_option maxRecDepth 100000 in
set_option maxHeartbeats 4000000 in
theorem may_neg {w : World} {s : Bool} {A A' : Option Addr} {n c n' c' : Nat} {k : Nat} {v : Rat} (h : Nat) (X : RQ w s A n c A' n' c' v k) (hv : v < 0) (hh : h ≤ 4096) :
    Calls Tryz.prog 50 #[.agg #[.bool s, .slice A n c, .slice A' n' c'], .int .i64 (h : Int)] w fun e w' => e = .returned (.int .i64 13) ∧ Below w.heap.size w w' := by
  have HG : Hid (sgnQ v = -1) := by show _ = _; unfold sgnQ; rw [if_pos hv]
  have hh1 : ¬ (h : Int) < 0 := by omega
  have hh2 : ¬ 4096 < (h : Int) := by omega
  clear hv
  go_enter Tryz.func50, Tryz.ntmps50
  go_wp2_with fail
  generalize hW : (w.alloc (Obj.cells #[Value.bool s, Value.slice A n c, Value.slice A' n' c'] 34)) = W
  have hb : Below w.heap.size w W := by subst hW; exact ((Below.refl _ _).alloc (Nat.le_refl _) _)
  have XA : B3R W (w.heap.size) (Value.bool s) (Value.slice A n c) (Value.slice A' n' c') := by subst hW; exact B3R.new' _ _ _ _ _ rfl
  have hzW : W.heap.size = w.heap.size + 1 := by subst hW; simp
  clear hW
  replace X := X.below hb
  have xa0 := XA.c0
  have xa1 := XA.c1
  have xa2 := XA.c2
  go_wp2_with (first
      | (go_at_call 19; (with_reducible refine (rsign3 X).mono ?_); rintro e w_z ⟨rfl, hh⟩
         rw [HG.out]
         try replace X := X.below hh
         try replace XA := XA.below hh
         replace hb := bend hb hh
         have xa0 := XA.c0
         have xa1 := XA.c1
         have xa2 := XA.c2))
  go_ret
  exact ⟨rfl, hb⟩
set_option maxRecDepth 100000 in
set_option maxHeartbeats 4000000 in
theorem may_ok {w : World} {s : Bool} {A A' : Option Addr} {n c n' c' : Nat} {k : Nat} {v : Rat} (h : Nat) (X : RQ w s A n c A' n' c' v k) (hv : 0 ≤ v) (hh : h ≤ 4096) :
    Calls Tryz.prog 50 #[.agg #[.bool s, .slice A n c, .slice A' n' c'], .int .i64 (h : Int)] w fun e w' => e = .returned (.int .i64 0) ∧ Below w.heap.size w w' := by
  obtain ⟨K, hK, hK0⟩ : ∃ K, sgnQ v = K ∧ decide (K < 0) = false := ⟨_, rfl, by unfold sgnQ; rw [if_neg (Rat.not_lt.2 hv)]; split <;> rfl⟩
  have HG := Lib.hid hK
  clear hK
  have hh1 : ¬ (h : Int) < 0 := by omega
  have hh2 : ¬ 4096 < (h : Int) := by omega
  clear hv
  go_enter Tryz.func50, Tryz.ntmps50
  go_wp2_with fail
  generalize hW : (w.alloc (Obj.cells #[Value.bool s, Value.slice A n c, Value.slice A' n' c'] 34)) = W
  have hb : Below w.heap.size w W := by subst hW; exact ((Below.refl _ _).alloc (Nat.le_refl _) _)
  have XA : B3R W (w.heap.size) (Value.bool s) (Value.slice A n c) (Value.slice A' n' c') := by subst hW; exact B3R.new' _ _ _ _ _ rfl
  have hzW : W.heap.size = w.heap.size + 1 := by subst hW; simp
  clear hW
  replace X := X.below hb
  have xa0 := XA.c0
  have xa1 := XA.c1
  have xa2 := XA.c2
  go_wp2_with (first
      | (go_at_call 19; (with_reducible refine (rsign3 X).mono ?_); rintro e w_z ⟨rfl, hh⟩
         rw [HG.out]
         try replace X := X.below hh
         try replace XA := XA.below hh
         replace hb := bend hb hh
         have xa0 := XA.c0
         have xa1 := XA.c1
         have xa2 := XA.c2))
  go_ret
  exact ⟨rfl, hb⟩
set_option maxRecDepth 100000 in
set_option maxHeartbeats 4000000 in
theorem low_arg {w : World} {s : Bool} {A A' : Option Addr} {n c n' c' : Nat} (j : Int) (hj : j < 0 ∨ 4096 < j) :
    Calls Tryz.prog 48 #[.agg #[.bool s, .slice A n c, .slice A' n' c'], .int .i64 j] w fun e w' => e = .returned (.tuple #[.agg #[.bool false, .slice none 0 0, .slice none 0 0], .int .i64 1]) ∧ Below w.heap.size w w' := by
  have HV := Lib.hid hj
  clear hj
  go_enter Tryz.func48, Tryz.ntmps48
  go_wp2_with fail
  generalize hW : ((w.alloc (Obj.cells #[Value.bool s, Value.slice A n c, Value.slice A' n' c'] 26)).alloc (Obj.cells #[Value.bool false, Value.slice none 0 0, Value.slice none 0 0] 26)) = W
  have hb : Below w.heap.size w W := by subst hW; exact (((Below.refl _ _).alloc (Nat.le_refl _) _).alloc (by simp) _)
  have XA : B3 W (w.heap.size) (Value.bool s) (Value.slice A n c) (Value.slice A' n' c') := by subst hW; exact (B3.new' _ _ _ _ _ rfl).alloc _
  have Z : B3 W (w.heap.size + 1) (Value.bool false) (Value.slice none 0 0) (Value.slice none 0 0) := by subst hW; exact B3.new' _ _ _ _ _ (by simp)
  have hzW : W.heap.size = w.heap.size + 2 := by subst hW; simp
  clear hW
  have xa0 := XA.c0
  have xa1 := XA.c1
  have xa2 := XA.c2
  have zf0 := Z.f0
  have zf1 := Z.f1
  have zf2 := Z.f2
  have z0 := Z.c0
  have z1 := Z.c1
  have z2 := Z.c2
  go_wp2_with (first
      | (go_at_call 138; (with_reducible refine (fault_arg j HV.out).mono ?_); rintro e w_z ⟨rfl, hh⟩
         try replace XA := XA.below hh
         try replace Z := Z.below hh
         replace hb := bend hb hh
         have xa0 := XA.c0
         have xa1 := XA.c1
         have xa2 := XA.c2
         have zf0 := Z.f0
         have zf1 := Z.f1
         have zf2 := Z.f2
         have z0 := Z.c0
         have z1 := Z.c1
         have z2 := Z.c2))
  have Z2 := Z.set3 (.bool false) (.slice none 0 0) (.slice none 0 0)
  have g0 := Z2.c0
  have g1 := Z2.c1
  have g2 := Z2.c2
  refine bodyPost_ret (v := .tuple #[.agg #[.bool false, .slice none 0 0, .slice none 0 0], .int .i64 1]) (by simp [results, Tryz.results48, go_sem, g0, g1, g2]) rfl ?_
  exact ⟨rfl, below_set3 hb (by omega) _ _ _⟩
set_option maxRecDepth 100000 in
set_option maxHeartbeats 4000000 in
theorem high_arg {w : World} {s : Bool} {A A' : Option Addr} {n c n' c' : Nat} (j : Int) (hj : j < 0 ∨ 4096 < j) :
    Calls Tryz.prog 49 #[.agg #[.bool s, .slice A n c, .slice A' n' c'], .int .i64 j] w fun e w' => e = .returned (.tuple #[.agg #[.bool false, .slice none 0 0, .slice none 0 0], .int .i64 1]) ∧ Below w.heap.size w w' := by
  have HV := Lib.hid hj
  clear hj
  go_enter Tryz.func49, Tryz.ntmps49
  go_wp2_with fail
  generalize hW : ((w.alloc (Obj.cells #[Value.bool s, Value.slice A n c, Value.slice A' n' c'] 26)).alloc (Obj.cells #[Value.bool false, Value.slice none 0 0, Value.slice none 0 0] 26)) = W
  have hb : Below w.heap.size w W := by subst hW; exact (((Below.refl _ _).alloc (Nat.le_refl _) _).alloc (by simp) _)
  have XA : B3 W (w.heap.size) (Value.bool s) (Value.slice A n c) (Value.slice A' n' c') := by subst hW; exact (B3.new' _ _ _ _ _ rfl).alloc _
  have Z : B3 W (w.heap.size + 1) (Value.bool false) (Value.slice none 0 0) (Value.slice none 0 0) := by subst hW; exact B3.new' _ _ _ _ _ (by simp)
  have hzW : W.heap.size = w.heap.size + 2 := by subst hW; simp
  clear hW
  have xa0 := XA.c0
  have xa1 := XA.c1
  have xa2 := XA.c2
  have zf0 := Z.f0
  have zf1 := Z.f1
  have zf2 := Z.f2
  have z0 := Z.c0
  have z1 := Z.c1
  have z2 := Z.c2
  go_wp2_with (first
      | (go_at_call 138; (with_reducible refine (fault_arg j HV.out).mono ?_); rintro e w_z ⟨rfl, hh⟩
         try replace XA := XA.below hh
         try replace Z := Z.below hh
         replace hb := bend hb hh
         have xa0 := XA.c0
         have xa1 := XA.c1
         have xa2 := XA.c2
         have zf0 := Z.f0
         have zf1 := Z.f1
         have zf2 := Z.f2
         have z0 := Z.c0
         have z1 := Z.c1
         have z2 := Z.c2))
  have Z2 := Z.set3 (.bool false) (.slice none 0 0) (.slice none 0 0)
  have g0 := Z2.c0
  have g1 := Z2.c1
  have g2 := Z2.c2
  refine bodyPost_ret (v := .tuple #[.agg #[.bool false, .slice none 0 0, .slice none 0 0], .int .i64 1]) (by simp [results, Tryz.results49, go_sem, g0, g1, g2]) rfl ?_
  exact ⟨rfl, below_set3 hb (by omega) _ _ _⟩
set_option maxRecDepth 100000 in
set_option maxHeartbeats 4000000 in
theorem exact_neg {w : World} {s : Bool} {A A' : Option Addr} {n c n' c' : Nat} {k : Nat} {v : Rat} (X : QR w s A n c A' n' c' v k) (hv : v < 0) (hk : k ≤ 400) (hk1 : 1 ≤ k) :
    Calls Tryz.prog 53 #[.agg #[.bool s, .slice A n c, .slice A' n' c']] w fun e w' => e = .returned (.tuple #[.agg #[.bool false, .slice none 0 0, .slice none 0 0], .bool false]) ∧ Below w.heap.size w w' := by
  have HG : Hid (sgnQ v = -1) := by show _ = _; unfold sgnQ; rw [if_pos hv]
  clear hv
  go_enter Tryz.func53, Tryz.ntmps53
  go_wp2_with fail
  generalize hW : ((w.alloc (Obj.cells #[Value.bool s, Value.slice A n c, Value.slice A' n' c'] 26)).alloc (Obj.cells #[Value.bool false, Value.slice none 0 0, Value.slice none 0 0] 26)) = W
  have hb : Below w.heap.size w W := by subst hW; exact (((Below.refl _ _).alloc (Nat.le_refl _) _).alloc (by simp) _)
  have XA : B3 W (w.heap.size) (Value.bool s) (Value.slice A n c) (Value.slice A' n' c') := by subst hW; exact (B3.new' _ _ _ _ _ rfl).alloc _
  have Z : B3 W (w.heap.size + 1) (Value.bool false) (Value.slice none 0 0) (Value.slice none 0 0) := by subst hW; exact B3.new' _ _ _ _ _ (by simp)
  have hzW : W.heap.size = w.heap.size + 2 := by subst hW; simp
  clear hW
  replace X := X.below hb
  have xa0 := XA.c0
  have xa1 := XA.c1
  have xa2 := XA.c2
  have zf0 := Z.f0
  have zf1 := Z.f1
  have zf2 := Z.f2
  have z0 := Z.c0
  have z1 := Z.c1
  have z2 := Z.c2
  go_wp2_with (first
      | (go_at_call 30; (with_reducible refine (rsign_q X (by omega) hk1).mono ?_); rintro e w_z ⟨rfl, hh⟩
         rw [HG.out]
         try replace X := X.below hh
         try replace XA := XA.below hh
         try replace Z := Z.below hh
         replace hb := bend hb hh
         have xa0 := XA.c0
         have xa1 := XA.c1
         have xa2 := XA.c2
         have zf0 := Z.f0
         have zf1 := Z.f1
         have zf2 := Z.f2
         have z0 := Z.c0
         have z1 := Z.c1
         have z2 := Z.c2))
  have Z2 := Z.set3 (.bool false) (.slice none 0 0) (.slice none 0 0)
  have g0 := Z2.c0
  have g1 := Z2.c1
  have g2 := Z2.c2
  refine bodyPost_ret (v := .tuple #[.agg #[.bool false, .slice none 0 0, .slice none 0 0], .bool false]) (by simp [results, Tryz.results53, go_sem, g0, g1, g2]) rfl ?_
  exact ⟨rfl, below_set3 hb (by omega) _ _ _⟩
def B4E (W : World) (g : Nat) (x y z u : Value) : Prop := W.heap[g]? = some (.cells #[x, y, z, u] 70 (0, 0))
section
variable {W W' : World} {g : Nat} {x y z u : Value}
theorem B4E.c0 (h : B4E W g x y z u) : W.cell? ⟨g, 0, none⟩ = some x := by rw [cell_of_row W g 0 _ _ (0, 0) h]; rfl
theorem B4E.f0 (h : B4E W g x y z u) : W.frozen? ⟨g, 0, none⟩ = false := frozen_of_row W g 0 _ _ h
theorem B4E.c1 (h : B4E W g x y z u) : W.cell? ⟨g, 1, none⟩ = some y := by rw [cell_of_row W g 1 _ _ (0, 0) h]; rfl
theorem B4E.f1 (h : B4E W g x y z u) : W.frozen? ⟨g, 1, none⟩ = false := frozen_of_row W g 1 _ _ h
theorem B4E.c2 (h : B4E W g x y z u) : W.cell? ⟨g, 2, none⟩ = some z := by rw [cell_of_row W g 2 _ _ (0, 0) h]; rfl
theorem B4E.f2 (h : B4E W g x y z u) : W.frozen? ⟨g, 2, none⟩ = false := frozen_of_row W g 2 _ _ h
theorem B4E.c3 (h : B4E W g x y z u) : W.cell? ⟨g, 3, none⟩ = some u := by rw [cell_of_row W g 3 _ _ (0, 0) h]; rfl
theorem B4E.f3 (h : B4E W g x y z u) : W.frozen? ⟨g, 3, none⟩ = false := frozen_of_row W g 3 _ _ h
theorem B4E.lt (h : B4E W g x y z u) : g < W.heap.size := World.block_lt_of_cell? W _ h.c0
theorem B4E.below (h : B4E W g x y z u) (hb : Below W.heap.size W W') : B4E W' g x y z u := (hb.block g h.lt).trans h
theorem B4E.alloc (h : B4E W g x y z u) (o : Obj) : B4E (W.alloc o) g x y z u := (Below.heap_alloc W o g h.lt).trans h
theorem B4E.new' (W : World) (x y z u : Value) (g : Nat) (hg : g = W.heap.size) : B4E (W.alloc (.cells #[x, y, z, u] 70)) g x y z u := by subst hg; exact heap_alloc_new W _
end
theorem B4E.set4 {W : World} {g : Nat} {x y z u : Value} (h : B4E W g x y z u) (a b c d : Value) : B4E ((((W.setCell ⟨g, 0, none⟩ a).setCell ⟨g, 1, none⟩ b).setCell ⟨g, 2, none⟩ c).setCell ⟨g, 3, none⟩ d) g a b c d := by
  unfold B4E at h ⊢
  simp [World.setCell, Array.getElem?_modify, h]
theorem Rd.off4E {K : IntKind} {W : World} {g : Nat} {s t : Bool} {A A1 A2 : Option Addr} {n n1 c1 n2 c2 : Nat} {l : List Nat} (hr : Rd K W A n l) (h : B4E W g (.bool s) (.slice A1 n1 c1) (.slice A2 n2 c2) (.bool t)) : Off A n g := by
  intro hn ad e hg
  obtain ⟨b, o, eA, hc⟩ := hr.at_ hn
  obtain ⟨x, _, hx⟩ := hc 0 hn
  rw [eA] at e
  cases e
  have hg2 : b = g := hg
  subst hg2
  rw [cell_of_row W b (o + 0) _ _ (0, 0) h] at hx
  match o, hx with
  | 0, hx => cases hx
  | 1, hx => cases hx
  | 2, hx => cases hx
  | 3, hx => cases hx
  | o + 4, hx => cases hx
theorem IsRoot.le {V R : Nat} (h : IsRoot V R) : R * R ≤ V := h.1
def NoEx (w : World) (en : Ending) (w' : World) : Prop := en = .returned (.agg #[.bool false, .slice none 0 0, .slice none 0 0, .bool false]) ∧ Below w.heap.size w w'
def GivesEx (w : World) (v : Rat) (k : Nat) (en : Ending) (w' : World) : Prop := ∃ s A n c A' n' c', en = .returned (.agg #[.bool s, .slice A n c, .slice A' n' c', .bool true]) ∧ RQ w' s A n c A' n' c' v k ∧ Below w.heap.size w w'
set_option maxRecDepth 100000 in
set_option maxHeartbeats 4000000 in
theorem of_neg {w : World} {s : Bool} {A A' : Option Addr} {n c n' c' k : Nat} {v : Rat} (X : RQ w s A n c A' n' c' v k) (hv : v < 0) :
    Calls Tryz.prog 54 #[.agg #[.bool s, .slice A n c, .slice A' n' c']] w (NoEx w) := by
  have HG : Hid (sgnQ v = -1) := by show _ = _; unfold sgnQ; rw [if_pos hv]
  clear hv
  go_enter Tryz.func54, Tryz.ntmps54
  go_wp2_with fail
  generalize hW : ((w.alloc (Obj.cells #[Value.bool s, Value.slice A n c, Value.slice A' n' c'] 34)).alloc (Obj.cells #[Value.bool false, Value.slice none 0 0, Value.slice none 0 0, Value.bool false] 70)) = W
  have hb : Below w.heap.size w W := by subst hW; exact (((Below.refl _ _).alloc (Nat.le_refl _) _).alloc (by simp) _)
  have XA : B3R W (w.heap.size) (Value.bool s) (Value.slice A n c) (Value.slice A' n' c') := by subst hW; exact (B3R.new' _ _ _ _ _ rfl).alloc _
  have Z : B4E W (w.heap.size + 1) (Value.bool false) (Value.slice none 0 0) (Value.slice none 0 0) (Value.bool false) := by subst hW; exact B4E.new' _ _ _ _ _ _ (by simp)
  have hzW : W.heap.size = w.heap.size + 2 := by subst hW; simp
  clear hW
  replace X := X.below hb
  have xa0 := XA.c0
  have xa1 := XA.c1
  have xa2 := XA.c2
  go_wp2_with (first
      | (go_at_call 19; (with_reducible refine (rsign3 X).mono ?_); rintro e w_z ⟨rfl, hh⟩
         rw [HG.out]
         try replace X := X.below hh
         try replace XA := XA.below hh
         try replace Z := Z.below hh
         replace hb := bend hb hh
         have xa0 := XA.c0
         have xa1 := XA.c1
         have xa2 := XA.c2
         have zg0 := Z.f0
         have zg1 := Z.f1
         have zg2 := Z.f2
         have zg3 := Z.f3
         have zc0 := Z.c0
         have zc1 := Z.c1
         have zc2 := Z.c2
         have zc3 := Z.c3))
  have Z2 := Z.set4 (.bool false) (.slice none 0 0) (.slice none 0 0) (.bool false)
  have g0 := Z2.c0
  have g1 := Z2.c1
  have g2 := Z2.c2
  have g3 := Z2.c3
  refine bodyPost_ret (v := .agg #[.bool false, .slice none 0 0, .slice none 0 0, .bool false]) (by simp [results, Tryz.results54, go_sem, g0, g1, g2, g3]) rfl ?_
  exact ⟨rfl, below_set4 hb (by omega) _ _ _ _⟩
set_option maxRecDepth 100000 in
set_option maxHeartbeats 8000000 in
theorem of_no1 {w : World} {s : Bool} {A A' : Option Addr} {n c n' c' k : Nat} {v : Rat} (X : RQ w s A n c A' n' c' v k) (hv : 0 ≤ v) (hk : k ≤ 1000) (h1 : ¬ IsSq v.num.natAbs) :
    Calls Tryz.prog 54 #[.agg #[.bool s, .slice A n c, .slice A' n' c']] w (NoEx w) := by
  obtain ⟨K, hK, hK0⟩ : ∃ K, sgnQ v = K ∧ decide (K < 0) = false := ⟨_, rfl, by unfold sgnQ; rw [if_neg (Rat.not_lt.2 hv)]; split <;> rfl⟩
  have HG := Lib.hid hK
  clear hK
  have H1 := Lib.hid h1
  clear h1
  clear hv
  go_enter Tryz.func54, Tryz.ntmps54
  go_wp2_with fail
  generalize hW : ((w.alloc (Obj.cells #[Value.bool s, Value.slice A n c, Value.slice A' n' c'] 34)).alloc (Obj.cells #[Value.bool false, Value.slice none 0 0, Value.slice none 0 0, Value.bool false] 70)) = W
  have hb : Below w.heap.size w W := by subst hW; exact (((Below.refl _ _).alloc (Nat.le_refl _) _).alloc (by simp) _)
  have XA : B3R W (w.heap.size) (Value.bool s) (Value.slice A n c) (Value.slice A' n' c') := by subst hW; exact (B3R.new' _ _ _ _ _ rfl).alloc _
  have Z : B4E W (w.heap.size + 1) (Value.bool false) (Value.slice none 0 0) (Value.slice none 0 0) (Value.bool false) := by subst hW; exact B4E.new' _ _ _ _ _ _ (by simp)
  have hzW : W.heap.size = w.heap.size + 2 := by subst hW; simp
  clear hW
  replace X := X.below hb
  have xa0 := XA.c0
  have xa1 := XA.c1
  have xa2 := XA.c2
  go_upto_region 3 with (first
      | (go_at_call 19; (with_reducible refine (rsign3 X).mono ?_); rintro e w_z ⟨rfl, hh⟩
         rw [HG.out]
         try replace X := X.below hh
         try replace XA := XA.below hh
         try replace Z := Z.below hh
         replace hb := bend hb hh
         have xa0 := XA.c0
         have xa1 := XA.c1
         have xa2 := XA.c2))
  replace X := X.below (Below.refl _ _).drew
  replace XA := XA.below (Below.refl _ _).drew
  replace Z := Z.below (Below.refl _ _).drew
  replace hb := hb.drew
  go_region_held3 (fun w' => w'.cell? ⟨w.heap.size, 0, none⟩ = some (.bool s) ∧ w'.cell? ⟨w.heap.size, 1, none⟩ = some (.slice A n c) ∧ w'.cell? ⟨w.heap.size, 2, none⟩ = some (.slice A' n' c'))
    (first | with_reducible exact ⟨XA.c0, XA.c1, XA.c2⟩)
    (first
    | (go_at_call 148; (with_reducible refine (rsqrt_rn X.pg.rn (by omega)).mono ?_); rintro e w_p ⟨R, hR, A_p, n_p, c_p, rfl, p, hh⟩
       try replace X := X.below hh
       try replace XA := XA.below hh
       try replace Z := Z.below hh
       replace hb := bend hb hh
       have HR := Lib.hid hR
       clear hR)
    | (go_at_call 148; (with_reducible refine (rsqrt_rn X.qn (by omega)).mono ?_); rintro e w_q ⟨T, hT, A_q, n_q, c_q, rfl, q, hh⟩
       try replace X := X.below hh
       try replace XA := XA.below hh
       try replace Z := Z.below hh
       try replace p := p.below hh
       replace hb := bend hb hh
       have HT := Lib.hid hT
       clear hT))
  go_upto_region 4 with (fail)
  have HC : Hid (cmpN (R * R) v.num.natAbs = -1) := cmpN_lt (Nat.lt_of_le_of_ne HR.out.le fun e => H1.out ⟨R, e⟩)
  replace X := X.below (Below.refl _ _).drew
  replace XA := XA.below (Below.refl _ _).drew
  replace Z := Z.below (Below.refl _ _).drew
  replace p := p.below (Below.refl _ _).drew
  replace q := q.below (Below.refl _ _).drew
  replace hb := hb.drew
  refine wp_region_held_drew (S := (fun w' => w'.cell? ⟨w.heap.size, 0, none⟩ = some (.bool s) ∧ w'.cell? ⟨w.heap.size, 1, none⟩ = some (.slice A n c) ∧ w'.cell? ⟨w.heap.size, 2, none⟩ = some (.slice A' n' c'))) (by kernel_rfl) ⟨XA.c0, XA.c1, XA.c2⟩ (fun hHeld => ?_)
  refine wpAnyH_take (i := 0) (oi := { dst := some 16, op := Op.move (Operand.tmp 3), type := 30, pos := "ref.go:60", after := #[], guard := none }) (v := ?_) rfl (by kernel_rfl) (by kernel_rfl) (by kernel_rfl) (fun _ _ _ h => h) (Or.inl ⟨by rfl, ?_⟩) hHeld ?_
  rotate_left
  · (intro w hSw; (try dsimp only at hSw); go_simp; try with_reducible rfl)
  simp only [Act.put, List.setIfInBounds_toArray, List.set_cons_zero, List.set_cons_succ]
  refine wpAnyH_take (i := 1) (oi := { dst := some 17, op := Op.move (Operand.tmp 3), type := 30, pos := "ref.go:60", after := #[], guard := none }) (v := ?_) rfl (by kernel_rfl) (by kernel_rfl) (by kernel_rfl) (fun _ _ _ h => h) (Or.inl ⟨by rfl, ?_⟩) hHeld ?_
  rotate_left
  · (intro w hSw; (try dsimp only at hSw); go_simp; try with_reducible rfl)
  simp only [Act.put, List.setIfInBounds_toArray, List.set_cons_zero, List.set_cons_succ]
  refine wpAnyH_take (i := 3) (oi := { dst := some 19, op := Op.fieldAddr 34 (Operand.tmp 1) 0, type := 0, pos := "ref.go:60", after := #[], guard := none }) (v := ?_) rfl (by kernel_rfl) (by kernel_rfl) (by kernel_rfl) (fun _ _ _ h => h) (Or.inl ⟨by rfl, ?_⟩) hHeld ?_
  rotate_left
  · (intro w hSw; (try dsimp only at hSw); go_simp; try with_reducible rfl)
  simp only [Act.put, List.setIfInBounds_toArray, List.set_cons_zero, List.set_cons_succ]
  refine wpAnyH_take (i := 4) (oi := { dst := some 20, op := Op.fieldAddr 32 (Operand.tmp 19) 1, type := 0, pos := "ref.go:60", after := #[{ on := 3, ground := Ground.data }], guard := none }) (v := ?_) rfl (by kernel_rfl) (by kernel_rfl) (by kernel_rfl) (fun _ _ _ h => h) (Or.inl ⟨by rfl, ?_⟩) hHeld ?_
  rotate_left
  · (intro w hSw; (try dsimp only at hSw); go_simp; try with_reducible rfl)
  simp only [Act.put, List.setIfInBounds_toArray, List.set_cons_zero, List.set_cons_succ]
  refine wpAnyH_take (i := 5) (oi := { dst := some 21, op := Op.load 30 (Operand.tmp 20), type := 30, pos := "ref.go:60", after := #[{ on := 4, ground := Ground.data }], guard := none }) (v := ?_) rfl (by kernel_rfl) (by kernel_rfl) (by kernel_rfl) (fun _ _ _ h => h) (Or.inl ⟨by rfl, ?_⟩) hHeld ?_
  rotate_left
  · (intro w hSw; (try dsimp only at hSw); go_simp; try with_reducible rfl)
  simp only [Act.put, List.setIfInBounds_toArray, List.set_cons_zero, List.set_cons_succ]
  refine wpAnyH_ready (rs := [2]) (by kernel_rfl) (by simp) ?_
  refine AllReadyH.cons (o := { dst := some 18, op := Op.call { callee := Callee.value (Operand.func 108), args := #[Operand.tmp 16, Operand.tmp 17], argTypes := #[30, 30] }, type := 30, pos := "ref.go:60", after := #[{ on := 0, ground := Ground.data }, { on := 1, ground := Ground.data }], guard := none }) rfl (fun K1 hK1 => ?_) AllReadyH.nil
  go_simp
  first
    | (go_at_call 108; (with_reducible refine (rmul_rn k p p (by omega) (by omega) (Nat.lt_of_le_of_lt HR.out.le X.pg.rn.lt)).mono ?_); rintro e w_m ⟨A_m, n_m, c_m, rfl, m, hh⟩
       try replace X := X.below hh
       try replace XA := XA.below hh
       try replace Z := Z.below hh
       try replace p := p.below hh
       try replace q := q.below hh
       replace hb := bend hb hh)
  refine hK1.out _ _ ⟨XA.c0, XA.c1, XA.c2⟩ (fun hHeld => ?_)
  clear hK1 K1
  refine wpAnyH_ready (rs := [6]) (by kernel_rfl) (by simp) ?_
  refine AllReadyH.cons (o := { dst := some 22, op := Op.call { callee := Callee.value (Operand.func 150), args := #[Operand.tmp 18, Operand.tmp 21], argTypes := #[30, 30] }, type := 3, pos := "ref.go:60", after := #[{ on := 2, ground := Ground.data }, { on := 5, ground := Ground.data }, { on := 2, ground := Ground.chain }], guard := none }) rfl (fun K1 hK1 => ?_) AllReadyH.nil
  go_simp
  first
    | (go_at_call 150; (with_reducible refine (rcmp_rn m X.pg.rn (by omega)).mono ?_); rintro e w_z ⟨rfl, hh⟩
       rw [HC.out]; clear m
       try replace X := X.below hh
       try replace XA := XA.below hh
       try replace Z := Z.below hh
       try replace p := p.below hh
       try replace q := q.below hh
       replace hb := bend hb hh
       have zg0 := Z.f0
       have zg1 := Z.f1
       have zg2 := Z.f2
       have zg3 := Z.f3
       have zc0 := Z.c0
       have zc1 := Z.c1
       have zc2 := Z.c2
       have zc3 := Z.c3)
  refine hK1.out _ _ ⟨XA.c0, XA.c1, XA.c2⟩ (fun hHeld => ?_)
  clear hK1 K1
  refine wpAnyH_take (i := 7) (oi := { dst := some 23, op := Op.binOp BinOp.neq 3 (Operand.tmp 22) (Operand.const (Value.int IntKind.i64 0)) 3, type := 4, pos := "ref.go:60", after := #[{ on := 6, ground := Ground.data }], guard := none }) (v := ?_) rfl (by kernel_rfl) (by kernel_rfl) (by kernel_rfl) (fun _ _ _ h => h) (Or.inl ⟨by rfl, ?_⟩) hHeld ?_
  rotate_left
  · (intro w hSw; (try dsimp only at hSw); go_simp; try with_reducible rfl)
  simp only [Act.put, List.setIfInBounds_toArray, List.set_cons_zero, List.set_cons_succ]
  refine wpAnyH_take (i := 8) (oi := { dst := some 24, op := Op.move (Operand.tmp 23), type := 4, pos := "ref.go:60", after := #[{ on := 7, ground := Ground.data }, { on := 6, ground := Ground.chain }], guard := none }) (v := ?_) rfl (by kernel_rfl) (by kernel_rfl) (by kernel_rfl) (fun _ _ _ h => h) (Or.inl ⟨by rfl, ?_⟩) hHeld ?_
  rotate_left
  · (intro w hSw; (try dsimp only at hSw); go_simp; try with_reducible rfl)
  simp only [Act.put, List.setIfInBounds_toArray, List.set_cons_zero, List.set_cons_succ]
  refine wpAnyH_take (i := 9) (oi := { dst := some 25, op := Op.move (Operand.tmp 4), type := 30, pos := "ref.go:60", after := #[{ on := 8, ground := Ground.guard }], guard := some (8, false) }) (v := undef) rfl (by kernel_rfl) (by kernel_rfl) (by kernel_rfl) (fun _ _ _ h => h) (Or.inr ⟨by rfl, rfl⟩) hHeld ?_
  simp only [Act.put, List.setIfInBounds_toArray, List.set_cons_zero, List.set_cons_succ]
  refine wpAnyH_take (i := 10) (oi := { dst := some 26, op := Op.move (Operand.tmp 4), type := 30, pos := "ref.go:60", after := #[{ on := 8, ground := Ground.guard }], guard := some (8, false) }) (v := undef) rfl (by kernel_rfl) (by kernel_rfl) (by kernel_rfl) (fun _ _ _ h => h) (Or.inr ⟨by rfl, rfl⟩) hHeld ?_
  simp only [Act.put, List.setIfInBounds_toArray, List.set_cons_zero, List.set_cons_succ]
  refine wpAnyH_take (i := 11) (oi := { dst := some 27, op := Op.call { callee := Callee.value (Operand.func 108), args := #[Operand.tmp 25, Operand.tmp 26], argTypes := #[30, 30] }, type := 30, pos := "ref.go:60", after := #[{ on := 9, ground := Ground.data }, { on := 10, ground := Ground.data }, { on := 8, ground := Ground.chain }, { on := 8, ground := Ground.guard }], guard := some (8, false) }) (v := undef) rfl (by kernel_rfl) (by kernel_rfl) (by kernel_rfl) (fun _ _ _ h => h) (Or.inr ⟨by rfl, rfl⟩) hHeld ?_
  simp only [Act.put, List.setIfInBounds_toArray, List.set_cons_zero, List.set_cons_succ]
  refine wpAnyH_take (i := 12) (oi := { dst := some 28, op := Op.fieldAddr 34 (Operand.tmp 1) 1, type := 0, pos := "ref.go:60", after := #[{ on := 8, ground := Ground.guard }], guard := some (8, false) }) (v := undef) rfl (by kernel_rfl) (by kernel_rfl) (by kernel_rfl) (fun _ _ _ h => h) (Or.inr ⟨by rfl, rfl⟩) hHeld ?_
  simp only [Act.put, List.setIfInBounds_toArray, List.set_cons_zero, List.set_cons_succ]
  refine wpAnyH_take (i := 13) (oi := { dst := some 29, op := Op.load 30 (Operand.tmp 28), type := 30, pos := "ref.go:60", after := #[{ on := 12, ground := Ground.data }, { on := 8, ground := Ground.guard }], guard := some (8, false) }) (v := undef) rfl (by kernel_rfl) (by kernel_rfl) (by kernel_rfl) (fun _ _ _ h => h) (Or.inr ⟨by rfl, rfl⟩) hHeld ?_
  simp only [Act.put, List.setIfInBounds_toArray, List.set_cons_zero, List.set_cons_succ]
  refine wpAnyH_take (i := 14) (oi := { dst := some 30, op := Op.call { callee := Callee.value (Operand.func 150), args := #[Operand.tmp 27, Operand.tmp 29], argTypes := #[30, 30] }, type := 3, pos := "ref.go:60", after := #[{ on := 11, ground := Ground.data }, { on := 13, ground := Ground.data }, { on := 11, ground := Ground.chain }, { on := 8, ground := Ground.guard }], guard := some (8, false) }) (v := undef) rfl (by kernel_rfl) (by kernel_rfl) (by kernel_rfl) (fun _ _ _ h => h) (Or.inr ⟨by rfl, rfl⟩) hHeld ?_
  simp only [Act.put, List.setIfInBounds_toArray, List.set_cons_zero, List.set_cons_succ]
  refine wpAnyH_take (i := 15) (oi := { dst := some 31, op := Op.binOp BinOp.neq 3 (Operand.tmp 30) (Operand.const (Value.int IntKind.i64 0)) 3, type := 4, pos := "ref.go:60", after := #[{ on := 14, ground := Ground.data }, { on := 8, ground := Ground.guard }], guard := some (8, false) }) (v := undef) rfl (by kernel_rfl) (by kernel_rfl) (by kernel_rfl) (fun _ _ _ h => h) (Or.inr ⟨by rfl, rfl⟩) hHeld ?_
  simp only [Act.put, List.setIfInBounds_toArray, List.set_cons_zero, List.set_cons_succ]
  refine wpAnyH_take (i := 16) (oi := { dst := some 32, op := Op.pick (Operand.tmp 24) (Operand.const (Value.bool true)) (Operand.tmp 31), type := 4, pos := "ref.go:60", after := #[{ on := 8, ground := Ground.data }, { on := 15, ground := Ground.data }], guard := none }) (v := ?_) rfl (by kernel_rfl) (by kernel_rfl) (by kernel_rfl) (fun _ _ _ h => h) (Or.inl ⟨by rfl, ?_⟩) hHeld ?_
  rotate_left
  · (intro w hSw; (try dsimp only at hSw); go_simp; try with_reducible rfl)
  simp only [Act.put, List.setIfInBounds_toArray, List.set_cons_zero, List.set_cons_succ]
  refine wpAnyH_done (by kernel_rfl) ?_ _
  clear hHeld
  go_wp2_with fail
  have Z2 := Z.set4 (.bool false) (.slice none 0 0) (.slice none 0 0) (.bool false)
  have g0 := Z2.c0
  have g1 := Z2.c1
  have g2 := Z2.c2
  have g3 := Z2.c3
  refine bodyPost_ret (v := .agg #[.bool false, .slice none 0 0, .slice none 0 0, .bool false]) (by simp [results, Tryz.results54, go_sem, g0, g1, g2, g3]) rfl ?_
  exact ⟨rfl, below_set4 hb (by omega) _ _ _ _⟩
set_option maxRecDepth 100000 in
set_option maxHeartbeats 8000000 in
theorem of_no2 {w : World} {s : Bool} {A A' : Option Addr} {n c n' c' k : Nat} {v : Rat} (X : RQ w s A n c A' n' c' v k) (hv : 0 ≤ v) (hk : k ≤ 1000) (h1 : IsSq v.num.natAbs) (h2 : ¬ IsSq v.den) :
    Calls Tryz.prog 54 #[.agg #[.bool s, .slice A n c, .slice A' n' c']] w (NoEx w) := by
  obtain ⟨K, hK, hK0⟩ : ∃ K, sgnQ v = K ∧ decide (K < 0) = false := ⟨_, rfl, by unfold sgnQ; rw [if_neg (Rat.not_lt.2 hv)]; split <;> rfl⟩
  have HG := Lib.hid hK
  clear hK
  have H1 := Lib.hid h1
  clear h1
  have H2 := Lib.hid h2
  clear h2
  clear hv
  go_enter Tryz.func54, Tryz.ntmps54
  go_wp2_with fail
  generalize hW : ((w.alloc (Obj.cells #[Value.bool s, Value.slice A n c, Value.slice A' n' c'] 34)).alloc (Obj.cells #[Value.bool false, Value.slice none 0 0, Value.slice none 0 0, Value.bool false] 70)) = W
  have hb : Below w.heap.size w W := by subst hW; exact (((Below.refl _ _).alloc (Nat.le_refl _) _).alloc (by simp) _)
  have XA : B3R W (w.heap.size) (Value.bool s) (Value.slice A n c) (Value.slice A' n' c') := by subst hW; exact (B3R.new' _ _ _ _ _ rfl).alloc _
  have Z : B4E W (w.heap.size + 1) (Value.bool false) (Value.slice none 0 0) (Value.slice none 0 0) (Value.bool false) := by subst hW; exact B4E.new' _ _ _ _ _ _ (by simp)
  have hzW : W.heap.size = w.heap.size + 2 := by subst hW; simp
  clear hW
  replace X := X.below hb
  have xa0 := XA.c0
  have xa1 := XA.c1
  have xa2 := XA.c2
  go_upto_region 3 with (first
      | (go_at_call 19; (with_reducible refine (rsign3 X).mono ?_); rintro e w_z ⟨rfl, hh⟩
         rw [HG.out]
         try replace X := X.below hh
         try replace XA := XA.below hh
         try replace Z := Z.below hh
         replace hb := bend hb hh
         have xa0 := XA.c0
         have xa1 := XA.c1
         have xa2 := XA.c2))
  replace X := X.below (Below.refl _ _).drew
  replace XA := XA.below (Below.refl _ _).drew
  replace Z := Z.below (Below.refl _ _).drew
  replace hb := hb.drew
  go_region_held3 (fun w' => w'.cell? ⟨w.heap.size, 0, none⟩ = some (.bool s) ∧ w'.cell? ⟨w.heap.size, 1, none⟩ = some (.slice A n c) ∧ w'.cell? ⟨w.heap.size, 2, none⟩ = some (.slice A' n' c'))
    (first | with_reducible exact ⟨XA.c0, XA.c1, XA.c2⟩)
    (first
    | (go_at_call 148; (with_reducible refine (rsqrt_rn X.pg.rn (by omega)).mono ?_); rintro e w_p ⟨R, hR, A_p, n_p, c_p, rfl, p, hh⟩
       try replace X := X.below hh
       try replace XA := XA.below hh
       try replace Z := Z.below hh
       replace hb := bend hb hh
       have HR := Lib.hid hR
       clear hR)
    | (go_at_call 148; (with_reducible refine (rsqrt_rn X.qn (by omega)).mono ?_); rintro e w_q ⟨T, hT, A_q, n_q, c_q, rfl, q, hh⟩
       try replace X := X.below hh
       try replace XA := XA.below hh
       try replace Z := Z.below hh
       try replace p := p.below hh
       replace hb := bend hb hh
       have HT := Lib.hid hT
       clear hT))
  go_upto_region 4 with (fail)
  have HC : Hid (cmpN (R * R) v.num.natAbs = 0) := by
    obtain ⟨a, ha⟩ := H1.out
    have : R = a := HR.out.one ⟨Nat.le_of_eq ha, by rw [← ha]; exact Nat.mul_lt_mul_of_lt_of_lt (Nat.lt_succ_self a) (Nat.lt_succ_self a)⟩
    subst this
    exact cmpN_eq ha
  have HD : Hid (cmpN (T * T) v.den = -1) := cmpN_lt (Nat.lt_of_le_of_ne HT.out.le fun e => H2.out ⟨T, e⟩)
  replace X := X.below (Below.refl _ _).drew
  replace XA := XA.below (Below.refl _ _).drew
  replace Z := Z.below (Below.refl _ _).drew
  replace p := p.below (Below.refl _ _).drew
  replace q := q.below (Below.refl _ _).drew
  replace hb := hb.drew
  go_region_held3 (fun w' => w'.cell? ⟨w.heap.size, 0, none⟩ = some (.bool s) ∧ w'.cell? ⟨w.heap.size, 1, none⟩ = some (.slice A n c) ∧ w'.cell? ⟨w.heap.size, 2, none⟩ = some (.slice A' n' c'))
    (first | with_reducible exact ⟨XA.c0, XA.c1, XA.c2⟩)
    (first
    | (go_at_call 108; (with_reducible refine (rmul_rn k p p (by omega) (by omega) (Nat.lt_of_le_of_lt HR.out.le X.pg.rn.lt)).mono ?_); rintro e w_m ⟨A_m, n_m, c_m, rfl, m, hh⟩
       try replace X := X.below hh
       try replace XA := XA.below hh
       try replace Z := Z.below hh
       try replace p := p.below hh
       try replace q := q.below hh
       replace hb := bend hb hh)
    | (go_at_call 150; (with_reducible refine (rcmp_rn m X.pg.rn (by omega)).mono ?_); rintro e w_z ⟨rfl, hh⟩
       rw [HC.out]; clear m
       try replace X := X.below hh
       try replace XA := XA.below hh
       try replace Z := Z.below hh
       try replace p := p.below hh
       try replace q := q.below hh
       replace hb := bend hb hh)
    | (go_at_call 108; (with_reducible refine (rmul_rn k q q (by omega) (by omega) (Nat.lt_of_le_of_lt HT.out.le X.qn.lt)).mono ?_); rintro e w_o ⟨A_o, n_o, c_o, rfl, o, hh⟩
       try replace X := X.below hh
       try replace XA := XA.below hh
       try replace Z := Z.below hh
       try replace p := p.below hh
       try replace q := q.below hh
       replace hb := bend hb hh)
    | (go_at_call 150; (with_reducible refine (rcmp_rn o X.qn (by omega)).mono ?_); rintro e w_z ⟨rfl, hh⟩
       rw [HD.out]; clear o
       try replace X := X.below hh
       try replace XA := XA.below hh
       try replace Z := Z.below hh
       try replace p := p.below hh
       try replace q := q.below hh
       replace hb := bend hb hh
       have zg0 := Z.f0
       have zg1 := Z.f1
       have zg2 := Z.f2
       have zg3 := Z.f3
       have zc0 := Z.c0
       have zc1 := Z.c1
       have zc2 := Z.c2
       have zc3 := Z.c3))
  go_wp2_with fail
  have Z2 := Z.set4 (.bool false) (.slice none 0 0) (.slice none 0 0) (.bool false)
  have g0 := Z2.c0
  have g1 := Z2.c1
  have g2 := Z2.c2
  have g3 := Z2.c3
  refine bodyPost_ret (v := .agg #[.bool false, .slice none 0 0, .slice none 0 0, .bool false]) (by simp [results, Tryz.results54, go_sem, g0, g1, g2, g3]) rfl ?_
  exact ⟨rfl, below_set4 hb (by omega) _ _ _ _⟩
set_option maxRecDepth 100000 in
set_option maxHeartbeats 8000000 in
theorem of_yes {w : World} {s : Bool} {A A' : Option Addr} {n c n' c' k : Nat} {v : Rat} (X : RQ w s A n c A' n' c' v k) (hv : 0 ≤ v) (hk : k ≤ 1000) {a b : Nat} (h1 : a * a = v.num.natAbs) (h2 : b * b = v.den) :
    Calls Tryz.prog 54 #[.agg #[.bool s, .slice A n c, .slice A' n' c']] w (GivesEx w (mkRat (iv false a) b) k) := by
  obtain ⟨K, hK, hK0⟩ : ∃ K, sgnQ v = K ∧ decide (K < 0) = false := ⟨_, rfl, by unfold sgnQ; rw [if_neg (Rat.not_lt.2 hv)]; split <;> rfl⟩
  have HG := Lib.hid hK
  clear hK
  have H1 := Lib.hid h1
  clear h1
  have H2 := Lib.hid h2
  clear h2
  have HB0 : Hid (b ≠ 0) := fun e => v.den_nz (by rw [← H2.out, e])
  clear hv
  go_enter Tryz.func54, Tryz.ntmps54
  go_wp2_with fail
  generalize hW : ((w.alloc (Obj.cells #[Value.bool s, Value.slice A n c, Value.slice A' n' c'] 34)).alloc (Obj.cells #[Value.bool false, Value.slice none 0 0, Value.slice none 0 0, Value.bool false] 70)) = W
  have hb : Below w.heap.size w W := by subst hW; exact (((Below.refl _ _).alloc (Nat.le_refl _) _).alloc (by simp) _)
  have XA : B3R W (w.heap.size) (Value.bool s) (Value.slice A n c) (Value.slice A' n' c') := by subst hW; exact (B3R.new' _ _ _ _ _ rfl).alloc _
  have Z : B4E W (w.heap.size + 1) (Value.bool false) (Value.slice none 0 0) (Value.slice none 0 0) (Value.bool false) := by subst hW; exact B4E.new' _ _ _ _ _ _ (by simp)
  have hzW : W.heap.size = w.heap.size + 2 := by subst hW; simp
  clear hW
  replace X := X.below hb
  have xa0 := XA.c0
  have xa1 := XA.c1
  have xa2 := XA.c2
  go_upto_region 3 with (first
      | (go_at_call 19; (with_reducible refine (rsign3 X).mono ?_); rintro e w_z ⟨rfl, hh⟩
         rw [HG.out]
         try replace X := X.below hh
         try replace XA := XA.below hh
         try replace Z := Z.below hh
         replace hb := bend hb hh
         have xa0 := XA.c0
         have xa1 := XA.c1
         have xa2 := XA.c2))
  replace X := X.below (Below.refl _ _).drew
  replace XA := XA.below (Below.refl _ _).drew
  replace Z := Z.below (Below.refl _ _).drew
  replace hb := hb.drew
  go_region_held3 (fun w' => w'.cell? ⟨w.heap.size, 0, none⟩ = some (.bool s) ∧ w'.cell? ⟨w.heap.size, 1, none⟩ = some (.slice A n c) ∧ w'.cell? ⟨w.heap.size, 2, none⟩ = some (.slice A' n' c'))
    (first | with_reducible exact ⟨XA.c0, XA.c1, XA.c2⟩)
    (first
    | (go_at_call 148; (with_reducible refine (rsqrt_rn X.pg.rn (by omega)).mono ?_); rintro e w_p ⟨R, hR, A_p, n_p, c_p, rfl, p, hh⟩
       try replace X := X.below hh
       try replace XA := XA.below hh
       try replace Z := Z.below hh
       replace hb := bend hb hh
       have HR := Lib.hid hR
       clear hR)
    | (go_at_call 148; (with_reducible refine (rsqrt_rn X.qn (by omega)).mono ?_); rintro e w_q ⟨T, hT, A_q, n_q, c_q, rfl, q, hh⟩
       try replace X := X.below hh
       try replace XA := XA.below hh
       try replace Z := Z.below hh
       try replace p := p.below hh
       replace hb := bend hb hh
       have HT := Lib.hid hT
       clear hT))
  go_upto_region 4 with (fail)
  obtain rfl : R = a := HR.out.one ⟨Nat.le_of_eq H1.out, by rw [← H1.out]; exact Nat.mul_lt_mul_of_lt_of_lt (Nat.lt_succ_self a) (Nat.lt_succ_self a)⟩
  obtain rfl : T = b := HT.out.one ⟨Nat.le_of_eq H2.out, by rw [← H2.out]; exact Nat.mul_lt_mul_of_lt_of_lt (Nat.lt_succ_self b) (Nat.lt_succ_self b)⟩
  have HC : Hid (cmpN (R * R) v.num.natAbs = 0) := cmpN_eq H1.out
  have HD : Hid (cmpN (T * T) v.den = 0) := cmpN_eq H2.out
  replace X := X.below (Below.refl _ _).drew
  replace XA := XA.below (Below.refl _ _).drew
  replace Z := Z.below (Below.refl _ _).drew
  replace p := p.below (Below.refl _ _).drew
  replace q := q.below (Below.refl _ _).drew
  replace hb := hb.drew
  go_region_held3 (fun w' => w'.cell? ⟨w.heap.size, 0, none⟩ = some (.bool s) ∧ w'.cell? ⟨w.heap.size, 1, none⟩ = some (.slice A n c) ∧ w'.cell? ⟨w.heap.size, 2, none⟩ = some (.slice A' n' c'))
    (first | with_reducible exact ⟨XA.c0, XA.c1, XA.c2⟩)
    (first
    | (go_at_call 108; (with_reducible refine (rmul_rn k p p (by omega) (by omega) (Nat.lt_of_le_of_lt HR.out.le X.pg.rn.lt)).mono ?_); rintro e w_m ⟨A_m, n_m, c_m, rfl, m, hh⟩
       try replace X := X.below hh
       try replace XA := XA.below hh
       try replace Z := Z.below hh
       try replace p := p.below hh
       try replace q := q.below hh
       replace hb := bend hb hh)
    | (go_at_call 150; (with_reducible refine (rcmp_rn m X.pg.rn (by omega)).mono ?_); rintro e w_z ⟨rfl, hh⟩
       rw [HC.out]; clear m
       try replace X := X.below hh
       try replace XA := XA.below hh
       try replace Z := Z.below hh
       try replace p := p.below hh
       try replace q := q.below hh
       replace hb := bend hb hh)
    | (go_at_call 108; (with_reducible refine (rmul_rn k q q (by omega) (by omega) (Nat.lt_of_le_of_lt HT.out.le X.qn.lt)).mono ?_); rintro e w_o ⟨A_o, n_o, c_o, rfl, o, hh⟩
       try replace X := X.below hh
       try replace XA := XA.below hh
       try replace Z := Z.below hh
       try replace p := p.below hh
       try replace q := q.below hh
       replace hb := bend hb hh)
    | (go_at_call 150; (with_reducible refine (rcmp_rn o X.qn (by omega)).mono ?_); rintro e w_z ⟨rfl, hh⟩
       rw [HD.out]; clear o
       try replace X := X.below hh
       try replace XA := XA.below hh
       try replace Z := Z.below hh
       try replace p := p.below hh
       try replace q := q.below hh
       replace hb := bend hb hh
       have zg0 := Z.f0
       have zg1 := Z.f1
       have zg2 := Z.f2
       have zg3 := Z.f3
       have zc0 := Z.c0
       have zc1 := Z.c1
       have zc2 := Z.c2
       have zc3 := Z.c3))
  have g := RG.of_f p
  go_wp2_with (first
      | (go_at_call 99; (with_reducible refine (made_rq g q (by omega) HB0.out).mono ?_); rintro e w_r ⟨s_r, A_r, n_r, c_r, B_r, m_r, d_r, rfl, r, hh⟩
         try replace X := X.below hh
         try replace XA := XA.below hh
         try replace Z := Z.below hh
         try replace p := p.below hh
         try replace q := q.below hh
         replace hb := bend hb hh
         have zg0 := Z.f0
         have zg1 := Z.f1
         have zg2 := Z.f2
         have zg3 := Z.f3
         have zc0 := Z.c0
         have zc1 := Z.c1
         have zc2 := Z.c2
         have zc3 := Z.c3))
  have Z2 := Z.set4 (.bool s_r) (.slice A_r n_r c_r) (.slice B_r m_r d_r) (.bool true)
  have g0 := Z2.c0
  have g1 := Z2.c1
  have g2 := Z2.c2
  have g3 := Z2.c3
  refine bodyPost_ret (v := .agg #[.bool s_r, .slice A_r n_r c_r, .slice B_r m_r d_r, .bool true]) (by simp [results, Tryz.results54, go_sem, g0, g1, g2, g3]) rfl ?_
  have ho := ((((Only.refl (w.heap.size + 1) w_r).setCell 0 (Value.bool s_r)).setCell 1 (Value.slice A_r n_r c_r)).setCell 2 (Value.slice B_r m_r d_r)).setCell 3 (Value.bool true)
  exact ⟨_, _, _, _, _, _, _, rfl, ⟨r.1.only (r.1.2.1.off4E Z) ho, r.2.only (r.2.1.off4E Z) ho⟩, below_set4 hb (by omega) _ _ _ _⟩
end Go.Proofs.YtlkjkhpjhllapaaGreat
namespace Go.Proofs.YtlkjkhpjhllapaaGreat
open Go Go.RowKit
theorem QR.of_rd {w : World} {s : Bool} {A A' : Option Addr} {n c n' c' k : Nat} {l l' : List Nat} (h : Rd .u64 w A n l) (hL : Lim B64 l) (hnc : n ≤ c) (h' : Rd .u64 w A' n' l') (hL' : Lim B64 l') (hnc' : n' ≤ c') (hk : n ≤ k) (hk' : n' ≤ k) :
    QR w s A n c A' n' c' (mkRat (iv s (val B64 l)) (den1 (val B64 l'))) k := ⟨_, _, ZR.of_rd h hL hnc hk, ⟨l', h', hL', rfl, hnc', hk'⟩, rfl⟩
end Go.Proofs.YtlkjkhpjhllapaaGreat
namespace Go.Proofs.YtlkjkhpjhllapaaGreat
open Go Go.RowKit
set_option maxRecDepth 100000 in
set_option maxHeartbeats 4000000 in
theorem small_m (M : Nat) {s : Bool} {A A' : Option Addr} {n c n' c' : Nat} (w : World) (L : Bool) (hL : decide (n ≤ M ∧ n' ≤ M) = L) :
    Calls Tryz.prog 46 #[.agg #[.bool s, .slice A n c, .slice A' n' c'], .int .i64 (M : Int)] w fun e w' => e = .returned (.bool L) ∧ Below w.heap.size w w' := by
  have HL := Lib.hid hL
  clear hL
  go_enter Tryz.func46, Tryz.ntmps46
  go_wp2_with fail
  generalize hW : (w.alloc (Obj.cells #[Value.bool s, Value.slice A n c, Value.slice A' n' c'] 26)) = W
  have hb : Below w.heap.size w W := by subst hW; exact ((Below.refl _ _).alloc (Nat.le_refl _) _)
  have XA : B3 W (w.heap.size) (Value.bool s) (Value.slice A n c) (Value.slice A' n' c') := by subst hW; exact B3.new' _ _ _ _ _ rfl
  have hzW : W.heap.size = w.heap.size + 1 := by subst hW; simp
  clear hW
  have xa0 := XA.c0
  have xa1 := XA.c1
  have xa2 := XA.c2
  go_wp2_with fail
  · have h : n ≤ M := by assumption
    go_ret
    refine ⟨?_, by first | assumption | exact (Below.refl _ _).alloc (Nat.le_refl _) _⟩
    show Ending.returned (.bool (decide (n' ≤ M))) = _
    rw [← HL.out]
    by_cases h2 : n' ≤ M
    · rw [decide_eq_true (show n' ≤ M by omega), decide_eq_true (show n ≤ M ∧ n' ≤ M by omega)]
    · rw [decide_eq_false (show ¬ n' ≤ M by omega), decide_eq_false (show ¬ (n ≤ M ∧ n' ≤ M) by omega)]
  · have h : M < n := by omega
    go_ret
    refine ⟨?_, by first | assumption | exact (Below.refl _ _).alloc (Nat.le_refl _) _⟩
    show Ending.returned (.bool false) = _
    rw [← HL.out, decide_eq_false (show ¬ (n ≤ M ∧ n' ≤ M) by omega)]
theorem small_8 {s : Bool} {A A' : Option Addr} {n c n' c' : Nat} (w : World) (L : Bool) (hL : decide (n ≤ 8 ∧ n' ≤ 8) = L) :
    Calls Tryz.prog 46 #[.agg #[.bool s, .slice A n c, .slice A' n' c'], .int .i64 8] w fun e w' => e = .returned (.bool L) ∧ Below w.heap.size w w' := small_m 8 w L hL
end Go.Proofs.YtlkjkhpjhllapaaGreat
namespace Go.Proofs.YtlkjkhpjhllapaaGreat
open Go Go.RowKit
theorem B3R.rest {W W' : World} {g k : Nat} {x y z : Value} (h : B3R W g x y z) (hne : g ≠ k) (ho : Only k W W') : B3R W' g x y z := (ho.block g h.lt hne).trans h
end Go.Proofs.YtlkjkhpjhllapaaGreat
