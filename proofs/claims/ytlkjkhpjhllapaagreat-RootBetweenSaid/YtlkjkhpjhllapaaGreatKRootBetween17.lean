/- RootBetween: part 17. -/
import Derived.Test.YtlkjkhpjhllapaaGreatKRootBetween16
set_option linter.unusedVariables false
namespace Go.Proofs.YtlkjkhpjhllapaaGreat
open Go Go.RowKit
def pw (m : Nat) : Rat := ((2 ^ m : Nat) : Rat)
theorem pw_zero : Rat.divInt 1 1 = pw 0 := by unfold pw; decide +kernel
theorem pw_succ (m : Nat) : pw m + pw m = pw (m + 1) := by
  unfold pw
  rw [Nat.pow_succ, natCast_mul']
  have : ((2 : Nat) : Rat) = 2 := rfl
  rw [this]; grind
theorem pw_int (m : Nat) : pw m = (((2 ^ m : Nat) : Int) : Rat) := rfl
theorem RN.tightr {w : World} {A : Option Addr} {n c V k k1 : Nat} (h : RN w A n c V k) (hV : V < B32 ^ k1) : RN w A n c V k1 := ⟨h.1, h.2.1, by rw [← h.1.1]; exact length_limbs_le B32_two hV⟩
theorem RQ.pwt {w : World} {s : Bool} {A A' : Option Addr} {n c n' c' k m : Nat} (h : RQ w s A n c A' n' c' (pw m) k) (hm : m ≤ 512) : RQ w s A n c A' n' c' (pw m) 17 := by
  have e1 : (pw m).num.natAbs = 2 ^ m := by rw [pw_int]; simp
  have e2 : (pw m).den = 1 := by rw [pw_int]; simp
  refine ⟨⟨h.1.1, RN.tightr h.1.2 ?_⟩, RN.tightr h.2 ?_⟩
  · rw [e1]; exact pow_lt_C (j := 17) (by omega)
  · rw [e2]; exact Nat.one_lt_pow (by decide) (by decide)
theorem pw_ne (m : Nat) : pw m ≠ 0 := two_ne m
theorem inv_four (h : Nat) : inQ 1 h * inQ 1 h = Rat.divInt 1 1 / pw (2 * h) := by
  have e := inQ_eq 1 h
  have e1 : pw (2 * h) = ((2 ^ h : Nat) : Rat) * ((2 ^ h : Nat) : Rat) := by unfold pw; rw [← natCast_mul', ← Nat.pow_add]; congr 2; omega
  have h0 := two_ne h
  have e2 : inQ 1 h = ((2 ^ h : Nat) : Rat)⁻¹ := by
    have : inQ 1 h * ((2 ^ h : Nat) : Rat) * ((2 ^ h : Nat) : Rat)⁻¹ = ((1 : Nat) : Rat) * ((2 ^ h : Nat) : Rat)⁻¹ := by rw [e]
    rw [Rat.mul_assoc, Rat.mul_inv_cancel _ h0, Rat.mul_one] at this
    rw [this]; exact Rat.one_mul _
  rw [e2, e1, Rat.div_def, Rat.inv_mul_rev, show Rat.divInt 1 1 = 1 by decide +kernel, Rat.one_mul]
theorem inv_nn (h : Nat) : 0 ≤ Rat.divInt 1 1 / pw (2 * h) := by rw [← inv_four]; exact Rat.mul_nonneg (inQ_nonneg 1 h) (inQ_nonneg 1 h)
theorem inQ_small (V h : Nat) : (inQ V h).num.natAbs ≤ V ∧ (inQ V h).den ≤ 2 ^ h := by
  have h0 : ((2 ^ h : Nat) : Int) ≠ 0 := by have := Nat.two_pow_pos h; omega
  unfold inQ
  rw [div_num h0, div_den h0]
  exact ⟨Nat.le_trans (Nat.div_le_self _ _) (by simp), Nat.le_trans (Nat.div_le_self _ _) (by simp)⟩
theorem inQ_sub (R h : Nat) : inQ (R + 1) h - inQ R h = inQ 1 h := by rw [← inQ_succ]; grind
theorem inQ_self (R h : Nat) : inQ R h - inQ R h = inQ 0 h := by
  have : inQ 0 h = 0 := by unfold inQ; simp
  rw [this]; grind
theorem inQ_pos (h : Nat) : 0 < inQ 1 h := by
  rcases Rat.le_iff_lt_or_eq.1 (inQ_nonneg 1 h) with q | q
  · exact q
  · exfalso
    have e := inQ_eq 1 h
    rw [← q, Rat.zero_mul] at e
    exact absurd e (by decide)
theorem cmp_lt {a b : Rat} (h : a < b) : cmpQ a b = -1 := by unfold cmpQ; rw [if_pos h]
theorem cmp_gt {a b : Rat} (h : b < a) : cmpQ a b = 1 := by unfold cmpQ; rw [if_neg (fun q => absurd (Rat.le_of_lt h) (Rat.not_le.2 q)), if_pos h]
theorem sgn_one {a : Rat} (h : 0 < a) : sgnQ a = 1 := by
  unfold sgnQ
  rw [if_neg (fun q => absurd (Rat.le_of_lt h) (Rat.not_le.2 q)), if_neg (fun q => by rw [q] at h; exact Rat.lt_irrefl h)]
theorem low_eq {v : Rat} {h R H : Nat} (hl : IsLow v h R) (hh : IsHigh v h H) (e : inQ R h * inQ R h = v) : H = R := hh.one (high_of_eq e)
theorem low_ne {v : Rat} {h R H : Nat} (hv : 0 ≤ v) (hl : IsLow v h R) (hh : IsHigh v h H) (e : inQ R h * inQ R h ≠ v) : H = R + 1 := hh.one (high_of_ne hv hl e)
theorem high_sq {v : Rat} {h R : Nat} (hv : 0 ≤ v) (hl : IsLow v h R) (hh : IsHigh v h (R + 1)) : v < inQ (R + 1) h * inQ (R + 1) h := by
  rcases Rat.le_iff_lt_or_eq.1 (hh.ge hv) with q | q
  · exact q
  · have := hl.most hv (by rw [← q]; exact Rat.le_refl)
    omega
theorem B3R.rest {W W' : World} {g k : Nat} {x y z : Value} (h : B3R W g x y z) (hne : g ≠ k) (ho : Only k W W') : B3R W' g x y z := (ho.block g h.lt hne).trans h
set_option maxRecDepth 100000 in
set_option maxHeartbeats 8000000 in
theorem rpow4 (m : Nat) (hm : m ≤ 512) (w : World) :
    Calls Tryz.prog 56 #[.int .i64 (m : Int)] w (GivesRQ w (pw m) 17) := by
  go_enter Tryz.func56, Tryz.ntmps56
  go_upto_region 1 with (fail)
  generalize hW : (w.alloc (Obj.cells #[Value.bool false, Value.slice none 0 0, Value.slice none 0 0] 34)) = W
  have hb : Below w.heap.size w W := by subst hW; exact ((Below.refl _ _).alloc (Nat.le_refl _) _)
  have Z : B3R W (w.heap.size) (Value.bool false) (Value.slice none 0 0) (Value.slice none 0 0) := by subst hW; exact B3R.new' _ _ _ _ _ rfl
  have hzW : W.heap.size = w.heap.size + 1 := by subst hW; simp
  clear hW
  go_upto_region 2 with (first
      | (go_at_call 55; (with_reducible refine (rof3 1 1 (by decide) (by decide) (by decide) (by decide) (by decide) _).mono ?_); rintro e w_o ⟨s_o, A_o, n_o, c_o, B_o, m_o, d_o, rfl, o, hh⟩
         rw [pw_zero] at o; replace o := o.more (show 2 ≤ 17 by decide)
         try replace Z := Z.below hh
         replace hb := bend hb hh))
  have HZO := Lib.hid Z.lt
  generalize hW : (w_o.alloc (Obj.cells #[Value.bool s_o, Value.slice A_o n_o c_o, Value.slice B_o m_o d_o] 34)) = W2
  have hh : Below w_o.heap.size w_o W2 := by subst hW; exact ((Below.refl _ _).alloc (Nat.le_refl _) _)
  have XU : B3R W2 (w_o.heap.size) (Value.bool s_o) (Value.slice A_o n_o c_o) (Value.slice B_o m_o d_o) := by subst hW; exact B3R.new' _ _ _ _ _ rfl
  have hzW2 : W2.heap.size = w_o.heap.size + 1 := by subst hW; simp
  clear hW
  try replace o := o.below hh
  try replace Z := Z.below hh
  replace hb := bend hb hh
  go_wp2_with fail
  go_loopw [4] (fun t wr => ∃ (i : Nat) (s1 : Bool) (A1 : Option Addr) (n1 c1 : Nat) (B1 : Option Addr) (m1 d1 : Nat), i ≤ m ∧ t = .int .i64 (i : Int) ∧ B3R wr w_o.heap.size (.bool s1) (.slice A1 n1 c1) (.slice B1 m1 d1) ∧ RQ wr s1 A1 n1 c1 B1 m1 d1 (pw i) 17 ∧ B3R wr w.heap.size (.bool false) (.slice none 0 0) (.slice none 0 0) ∧ Below w.heap.size w wr) (fun t _ => m - (intOf t).toNat)
  case atStart => exact ⟨0, s_o, A_o, n_o, c_o, B_o, m_o, d_o, Nat.zero_le _, rfl, XU, o, Z, hb⟩
  case round =>
    clear XU o Z hb hzW2 hzW
    obtain ⟨i, s1, A1, n1, c1, B1, m1, d1, hi, rfl, XU, u, Z, hb⟩ := hrel
    by_cases hlt : i < m
    · have xu0 := XU.c0
      have xu1 := XU.c1
      have xu2 := XU.c2
      have zf0 := XU.f0
      have zf1 := XU.f1
      have zf2 := XU.f2
      have z0 := XU.c0
      have z1 := XU.c1
      have z2 := XU.c2
      go_upto_region 4 with (first
        | (go_at_call 23; (with_reducible refine (radd3 u u (by decide) (by decide)).mono ?_); rintro e w_t ⟨s_t, A_t, n_t, c_t, B_t, m_t, d_t, rfl, t, hh⟩
           try replace u := u.below hh
           try replace XU := XU.below hh
           try replace Z := Z.below hh
           replace hb := bend hb hh
           have xu0 := XU.c0
           have xu1 := XU.c1
           have xu2 := XU.c2
           have zf0 := XU.f0
           have zf1 := XU.f1
           have zf2 := XU.f2
           have z0 := XU.c0
           have z1 := XU.c1
           have z2 := XU.c2))
      have HLT := Lib.hid hlt
      clear hlt
      rw [pw_succ] at t
      replace t := t.pwt (by have := HLT.out; omega)
      generalize hW5 : (((w_t.setCell ⟨w_o.heap.size, 0, none⟩ (Value.bool s_t)).setCell ⟨w_o.heap.size, 1, none⟩ (Value.slice A_t n_t c_t)).setCell ⟨w_o.heap.size, 2, none⟩ (Value.slice B_t m_t d_t)) = W5
      have ho : Only w_o.heap.size w_t W5 := by subst hW5; exact (((Only.refl _ _).setCell 0 _).setCell 1 _).setCell 2 _
      have X5 : B3R W5 w_o.heap.size (Value.bool s_t) (Value.slice A_t n_t c_t) (Value.slice B_t m_t d_t) := by subst hW5; exact XU.set3 _ _ _
      have t5 : RQ W5 s_t A_t n_t c_t B_t m_t d_t (pw (i + 1)) 17 := by subst hW5; exact t.set3 XU _ _ _
      have Z5 := Z.rest (by have := HZO.out; omega) ho
      have hb5 : Below w.heap.size w W5 := by subst hW5; exact below_set3 hb (Nat.le_of_lt HZO.out) _ _ _
      clear hW5 ho
      go_wp2_with fail
      go_roundw
      case rel => exact ⟨i + 1, s_t, A_t, n_t, c_t, B_t, m_t, d_t, HLT.out, by go_num, X5, t5, Z5, hb5⟩
      case measure => have := HLT.out; simp [intOf]; omega
    · obtain rfl : m = i := by omega
      clear hi hlt
      have xu0 := XU.c0
      have xu1 := XU.c1
      have xu2 := XU.c2
      have zf0 := Z.f0
      have zf1 := Z.f1
      have zf2 := Z.f2
      have z0 := Z.c0
      have z1 := Z.c1
      have z2 := Z.c2
      go_wp2_with fail
      have Z2 := Z.set3 (.bool s1) (.slice A1 n1 c1) (.slice B1 m1 d1)
      have g0 := Z2.c0
      have g1 := Z2.c1
      have g2 := Z2.c2
      refine bodyPost_ret (v := .agg #[.bool s1, .slice A1 n1 c1, .slice B1 m1 d1]) (by simp [results, Tryz.results56, go_sem, g0, g1, g2]) rfl ?_
      exact ⟨s1, A1, n1, c1, B1, m1, d1, rfl, u.set3 Z _ _ _, below_set3 hb (Nat.le_refl _) _ _ _⟩
set_option maxRecDepth 100000 in
set_option maxHeartbeats 4000000 in
theorem betw_large {w : World} {s : Bool} {A A' : Option Addr} {n c n' c' : Nat} (k : Nat) (hl : decide (n ≤ 8 ∧ n' ≤ 8) = false) :
    Calls Tryz.prog 7 #[.agg #[.bool s, .slice A n c, .slice A' n' c'], .int .u8 (k : Int)] w fun e w' => e = .returned (.bool true) ∧ Below w.heap.size w w' := by
  have HL := Lib.hid hl
  clear hl
  go_enter Tryz.func7, Tryz.ntmps7
  go_wp2_with fail
  generalize hW : (w.alloc (Obj.cells #[Value.bool s, Value.slice A n c, Value.slice A' n' c'] 26)) = W
  have hb : Below w.heap.size w W := by subst hW; exact ((Below.refl _ _).alloc (Nat.le_refl _) _)
  have XA : B3 W (w.heap.size) (Value.bool s) (Value.slice A n c) (Value.slice A' n' c') := by subst hW; exact B3.new' _ _ _ _ _ rfl
  have hzW : W.heap.size = w.heap.size + 1 := by subst hW; simp
  clear hW
  have xa0 := XA.c0
  have xa1 := XA.c1
  have xa2 := XA.c2
  go_wp2_with (first
      | (go_at_call 46; (with_reducible refine (small_8 _ false HL.out).mono ?_); rintro e w_z ⟨rfl, hh⟩
         try replace XA := XA.below hh
         replace hb := bend hb hh
         have xa0 := XA.c0
         have xa1 := XA.c1
         have xa2 := XA.c2)
      | (go_at_call 47; (with_reducible refine (rwakes_any _).mono ?_); rintro e w_z ⟨rfl, hh⟩
         try replace XA := XA.below hh
         replace hb := bend hb hh))
  go_ret
  exact ⟨rfl, hb⟩
set_option maxRecDepth 100000 in
set_option maxHeartbeats 4000000 in
theorem betw_neg {w : World} {s : Bool} {A A' : Option Addr} {n c n' c' : Nat} (k : Nat) {va : Rat} (a : QR w s A n c A' n' c' va 8) (hk : k ≤ 255) (hl : decide (n ≤ 8 ∧ n' ≤ 8) = true) (hv : va < 0) :
    Calls Tryz.prog 7 #[.agg #[.bool s, .slice A n c, .slice A' n' c'], .int .u8 (k : Int)] w fun e w' => e = .returned (.bool true) ∧ Below w.heap.size w w' := by
  have HL := Lib.hid hl
  have HV := Lib.hid hv
  have HS : Hid (sgnQ va = -1) := by show _ = _; unfold sgnQ; rw [if_pos hv]
  have HK : Hid (k ≤ 4096) := by show _ ≤ _; omega
  clear hl hv
  go_enter Tryz.func7, Tryz.ntmps7
  go_wp2_with fail
  generalize hW : (w.alloc (Obj.cells #[Value.bool s, Value.slice A n c, Value.slice A' n' c'] 26)) = W
  have hb : Below w.heap.size w W := by subst hW; exact ((Below.refl _ _).alloc (Nat.le_refl _) _)
  have XA : B3 W (w.heap.size) (Value.bool s) (Value.slice A n c) (Value.slice A' n' c') := by subst hW; exact B3.new' _ _ _ _ _ rfl
  have hzW : W.heap.size = w.heap.size + 1 := by subst hW; simp
  clear hW
  replace a := a.below hb
  have xa0 := XA.c0
  have xa1 := XA.c1
  have xa2 := XA.c2
  go_upto_region 4 with (first
      | (go_at_call 46; (with_reducible refine (small_8 _ true HL.out).mono ?_); rintro e w_z ⟨rfl, hh⟩
         try replace a := a.below hh
         try replace XA := XA.below hh
         replace hb := bend hb hh
         have xa0 := XA.c0
         have xa1 := XA.c1
         have xa2 := XA.c2)
      | (go_at_call 48; (with_reducible refine (low_neg k a HV.out (by decide) (by decide) HK.out).mono ?_); rintro e w_l ⟨rfl, hh⟩
         try replace a := a.below hh
         try replace XA := XA.below hh
         replace hb := bend hb hh
         have xa0 := XA.c0
         have xa1 := XA.c1
         have xa2 := XA.c2))
  generalize hW : (w_l.alloc (Obj.cells #[Value.bool false, Value.slice none 0 0, Value.slice none 0 0] 26)) = W2
  have hh : Below w_l.heap.size w_l W2 := by subst hW; exact ((Below.refl _ _).alloc (Nat.le_refl _) _)
  have XL : B3 W2 (w_l.heap.size) (Value.bool false) (Value.slice none 0 0) (Value.slice none 0 0) := by subst hW; exact B3.new' _ _ _ _ _ rfl
  have hzW2 : W2.heap.size = w_l.heap.size + 1 := by subst hW; simp
  clear hW
  try replace a := a.below hh
  try replace XA := XA.below hh
  replace hb := bend hb hh
  have xa0 := XA.c0
  have xa1 := XA.c1
  have xa2 := XA.c2
  go_upto_region 5 with (first
      | (go_at_call 49; (with_reducible refine (high_neg k a HV.out (by decide) (by decide) HK.out).mono ?_); rintro e w_h ⟨rfl, hh⟩
         try replace a := a.below hh
         try replace XA := XA.below hh
         replace hb := bend hb hh
         have xa0 := XA.c0
         have xa1 := XA.c1
         have xa2 := XA.c2))
  generalize hW : (w_h.alloc (Obj.cells #[Value.bool false, Value.slice none 0 0, Value.slice none 0 0] 26)) = W3
  have hh : Below w_h.heap.size w_h W3 := by subst hW; exact ((Below.refl _ _).alloc (Nat.le_refl _) _)
  have XH : B3 W3 (w_h.heap.size) (Value.bool false) (Value.slice none 0 0) (Value.slice none 0 0) := by subst hW; exact B3.new' _ _ _ _ _ rfl
  have hzW3 : W3.heap.size = w_h.heap.size + 1 := by subst hW; simp
  clear hW
  try replace a := a.below hh
  try replace XA := XA.below hh
  replace hb := bend hb hh
  have xa0 := XA.c0
  have xa1 := XA.c1
  have xa2 := XA.c2
  go_wp2_with (first
      | (go_at_call 30; (with_reducible refine (rsign_q a (by decide) (by decide)).mono ?_); rintro e w_z ⟨rfl, hh⟩
         rw [HS.out]
         try replace a := a.below hh
         try replace XA := XA.below hh
         replace hb := bend hb hh
         have xa0 := XA.c0
         have xa1 := XA.c1
         have xa2 := XA.c2)
      | (go_at_call 47; (with_reducible refine (rwakes_any _).mono ?_); rintro e w_z ⟨rfl, hh⟩
         try replace a := a.below hh
         try replace XA := XA.below hh
         replace hb := bend hb hh))
  go_ret
  exact ⟨rfl, hb⟩
set_option maxRecDepth 100000 in
set_option maxHeartbeats 16000000 in
theorem betw_eq {w : World} {s : Bool} {A A' : Option Addr} {n c n' c' : Nat} (k : Nat) {va : Rat} (a : QR w s A n c A' n' c' va 8) (hk : k ≤ 255) (hl : decide (n ≤ 8 ∧ n' ≤ 8) = true) (hv : 0 ≤ va) (he : ∃ R, IsLow va k R ∧ inQ R k * inQ R k = va) :
    Calls Tryz.prog 7 #[.agg #[.bool s, .slice A n c, .slice A' n' c'], .int .u8 (k : Int)] w fun e w' => e = .returned (.bool true) ∧ Below w.heap.size w w' := by
  obtain ⟨g, hg, hg0⟩ : ∃ g, sgnQ va = g ∧ ¬ g < 0 := ⟨_, rfl, by unfold sgnQ; rw [if_neg (Rat.not_lt.2 hv)]; split <;> decide⟩
  have HS := Lib.hid hg
  have HL := Lib.hid hl
  have HV := Lib.hid hv
  have HX := Lib.hid he
  obtain ⟨K1, hK1⟩ : ∃ K1, k + 1 = K1 := ⟨_, rfl⟩
  have hKI : (k : Int) + 1 = (K1 : Int) := by omega
  obtain ⟨K2, hK2⟩ : ∃ K2, 2 * k = K2 := ⟨_, rfl⟩
  have hKJ : (2 : Int) * (k : Int) = (K2 : Int) := by omega
  have HK : Hid (k ≤ 400 ∧ K1 ≤ 400 ∧ K2 ≤ 512) := by show _ ∧ _ ∧ _; omega
  have HK1 := Lib.hid hK1
  have HK2 := Lib.hid hK2
  clear hg hl hv he hK1 hK2
  go_enter Tryz.func7, Tryz.ntmps7
  go_wp2_with fail
  generalize hW : (w.alloc (Obj.cells #[Value.bool s, Value.slice A n c, Value.slice A' n' c'] 26)) = W
  have hb : Below w.heap.size w W := by subst hW; exact ((Below.refl _ _).alloc (Nat.le_refl _) _)
  have XA : B3 W (w.heap.size) (Value.bool s) (Value.slice A n c) (Value.slice A' n' c') := by subst hW; exact B3.new' _ _ _ _ _ rfl
  have hzW : W.heap.size = w.heap.size + 1 := by subst hW; simp
  clear hW
  replace a := a.below hb
  have xa0 := XA.c0
  have xa1 := XA.c1
  have xa2 := XA.c2
  go_upto_region 4 with (first
      | (go_at_call 46; (with_reducible refine (small_8 _ true HL.out).mono ?_); rintro e w_z ⟨rfl, hh⟩
         try replace a := a.below hh
         try replace XA := XA.below hh
         replace hb := bend hb hh
         have xa0 := XA.c0
         have xa1 := XA.c1
         have xa2 := XA.c2)
      | (go_at_call 48; (with_reducible refine (low_s k a HV.out (by decide) (by decide) HK.out.1).mono ?_); rintro e w_l ⟨R_l, hR_l, s_l, A_l, n_l, c_l, B_l, m_l, d_l, rfl, l, hh⟩
         try replace a := a.below hh
         try replace XA := XA.below hh
         replace hb := bend hb hh
         have xa0 := XA.c0
         have xa1 := XA.c1
         have xa2 := XA.c2))
  generalize hW : (w_l.alloc (Obj.cells #[Value.bool s_l, Value.slice A_l n_l c_l, Value.slice B_l m_l d_l] 26)) = W2
  have hh : Below w_l.heap.size w_l W2 := by subst hW; exact ((Below.refl _ _).alloc (Nat.le_refl _) _)
  have XL : B3 W2 (w_l.heap.size) (Value.bool s_l) (Value.slice A_l n_l c_l) (Value.slice B_l m_l d_l) := by subst hW; exact B3.new' _ _ _ _ _ rfl
  have hzW2 : W2.heap.size = w_l.heap.size + 1 := by subst hW; simp
  clear hW
  try replace a := a.below hh
  try replace XA := XA.below hh
  try replace l := l.below hh
  replace hb := bend hb hh
  have xa0 := XA.c0
  have xa1 := XA.c1
  have xa2 := XA.c2
  have xl0 := XL.c0
  have xl1 := XL.c1
  have xl2 := XL.c2
  go_upto_region 5 with (first
      | (go_at_call 49; (with_reducible refine (high_s k a HV.out (by decide) (by decide) HK.out.1).mono ?_); rintro e w_h ⟨R_h, hR_h, s_h, A_h, n_h, c_h, B_h, m_h, d_h, rfl, h, hh⟩
         try replace a := a.below hh
         try replace XA := XA.below hh
         try replace l := l.below hh
         try replace XL := XL.below hh
         replace hb := bend hb hh
         have xa0 := XA.c0
         have xa1 := XA.c1
         have xa2 := XA.c2
         have xl0 := XL.c0
         have xl1 := XL.c1
         have xl2 := XL.c2))
  generalize hW : (w_h.alloc (Obj.cells #[Value.bool s_h, Value.slice A_h n_h c_h, Value.slice B_h m_h d_h] 26)) = W3
  have hh : Below w_h.heap.size w_h W3 := by subst hW; exact ((Below.refl _ _).alloc (Nat.le_refl _) _)
  have XH : B3 W3 (w_h.heap.size) (Value.bool s_h) (Value.slice A_h n_h c_h) (Value.slice B_h m_h d_h) := by subst hW; exact B3.new' _ _ _ _ _ rfl
  have hzW3 : W3.heap.size = w_h.heap.size + 1 := by subst hW; simp
  clear hW
  try replace a := a.below hh
  try replace XA := XA.below hh
  try replace l := l.below hh
  try replace XL := XL.below hh
  try replace h := h.below hh
  replace hb := bend hb hh
  have xa0 := XA.c0
  have xa1 := XA.c1
  have xa2 := XA.c2
  have xl0 := XL.c0
  have xl1 := XL.c1
  have xl2 := XL.c2
  have xh0 := XH.c0
  have xh1 := XH.c1
  have xh2 := XH.c2
  go_upto_region 8 with (first
      | (go_at_call 30; (with_reducible refine (rsign_q a (by decide) (by decide)).mono ?_); rintro e w_z ⟨rfl, hh⟩
         rw [HS.out]
         try replace a := a.below hh
         try replace XA := XA.below hh
         try replace l := l.below hh
         try replace XL := XL.below hh
         try replace h := h.below hh
         try replace XH := XH.below hh
         replace hb := bend hb hh
         have xa0 := XA.c0
         have xa1 := XA.c1
         have xa2 := XA.c2
         have xl0 := XL.c0
         have xl1 := XL.c1
         have xl2 := XL.c2
         have xh0 := XH.c0
         have xh1 := XH.c1
         have xh2 := XH.c2)
      | (go_at_call 48; (with_reducible refine (low_s K1 a HV.out (by decide) (by decide) HK.out.2.1).mono ?_); rintro e w_m ⟨R_m, hR_m, s_m, A_m, n_m, c_m, B_m, m_m, d_m, rfl, m, hh⟩
         try replace a := a.below hh
         try replace XA := XA.below hh
         try replace l := l.below hh
         try replace XL := XL.below hh
         try replace h := h.below hh
         try replace XH := XH.below hh
         replace hb := bend hb hh
         have xa0 := XA.c0
         have xa1 := XA.c1
         have xa2 := XA.c2
         have xl0 := XL.c0
         have xl1 := XL.c1
         have xl2 := XL.c2
         have xh0 := XH.c0
         have xh1 := XH.c1
         have xh2 := XH.c2))
  generalize hW : (w_m.alloc (Obj.cells #[Value.bool s_m, Value.slice A_m n_m c_m, Value.slice B_m m_m d_m] 26)) = W4
  have hh : Below w_m.heap.size w_m W4 := by subst hW; exact ((Below.refl _ _).alloc (Nat.le_refl _) _)
  have XM : B3 W4 (w_m.heap.size) (Value.bool s_m) (Value.slice A_m n_m c_m) (Value.slice B_m m_m d_m) := by subst hW; exact B3.new' _ _ _ _ _ rfl
  have hzW4 : W4.heap.size = w_m.heap.size + 1 := by subst hW; simp
  clear hW
  try replace a := a.below hh
  try replace XA := XA.below hh
  try replace l := l.below hh
  try replace XL := XL.below hh
  try replace h := h.below hh
  try replace XH := XH.below hh
  try replace m := m.below hh
  replace hb := bend hb hh
  have xa0 := XA.c0
  have xa1 := XA.c1
  have xa2 := XA.c2
  have xl0 := XL.c0
  have xl1 := XL.c1
  have xl2 := XL.c2
  have xh0 := XH.c0
  have xh1 := XH.c1
  have xh2 := XH.c2
  have xm0 := XM.c0
  have xm1 := XM.c1
  have xm2 := XM.c2
  go_upto_region 9 with (first
      | (go_at_call 49; (with_reducible refine (high_s K1 a HV.out (by decide) (by decide) HK.out.2.1).mono ?_); rintro e w_nn ⟨R_nn, hR_nn, s_nn, A_nn, n_nn, c_nn, B_nn, m_nn, d_nn, rfl, nn, hh⟩
         try replace a := a.below hh
         try replace XA := XA.below hh
         try replace l := l.below hh
         try replace XL := XL.below hh
         try replace h := h.below hh
         try replace XH := XH.below hh
         try replace m := m.below hh
         try replace XM := XM.below hh
         replace hb := bend hb hh
         have xa0 := XA.c0
         have xa1 := XA.c1
         have xa2 := XA.c2
         have xl0 := XL.c0
         have xl1 := XL.c1
         have xl2 := XL.c2
         have xh0 := XH.c0
         have xh1 := XH.c1
         have xh2 := XH.c2
         have xm0 := XM.c0
         have xm1 := XM.c1
         have xm2 := XM.c2))
  generalize hW : (w_nn.alloc (Obj.cells #[Value.bool s_nn, Value.slice A_nn n_nn c_nn, Value.slice B_nn m_nn d_nn] 26)) = W5
  have hh : Below w_nn.heap.size w_nn W5 := by subst hW; exact ((Below.refl _ _).alloc (Nat.le_refl _) _)
  have XN : B3 W5 (w_nn.heap.size) (Value.bool s_nn) (Value.slice A_nn n_nn c_nn) (Value.slice B_nn m_nn d_nn) := by subst hW; exact B3.new' _ _ _ _ _ rfl
  have hzW5 : W5.heap.size = w_nn.heap.size + 1 := by subst hW; simp
  clear hW
  try replace a := a.below hh
  try replace XA := XA.below hh
  try replace l := l.below hh
  try replace XL := XL.below hh
  try replace h := h.below hh
  try replace XH := XH.below hh
  try replace m := m.below hh
  try replace XM := XM.below hh
  try replace nn := nn.below hh
  replace hb := bend hb hh
  have he : inQ R_l k * inQ R_l k = va := by
    obtain ⟨S, h1, h2⟩ := HX.out
    rw [hR_l.one h1]; exact h2
  have hh2 := low_eq hR_l hR_h he
  have HLA : Hid (cmpQ (inQ R_l k * inQ R_l k) va = 0) := cmpQ_zero.2 he
  have HHA : Hid (cmpQ (inQ R_h k * inQ R_h k) va = 0) := by show _ = _; rw [hh2]; exact cmpQ_zero.2 he
  have HD : Hid (inQ R_h k - inQ R_l k = inQ 0 k) := by show _ = _; rw [hh2]; exact inQ_self _ _
  have HDS : Hid (sgnQ (inQ 0 k) = 0) := by show _ = _; unfold inQ; simp [sgnQ]
  obtain ⟨T, hT, hT0⟩ : ∃ T, sgnQ (inQ R_l k) = T ∧ decide (T < 0) = false := ⟨_, rfl, by unfold sgnQ; rw [if_neg (Rat.not_lt.2 (inQ_nonneg _ _))]; split <;> decide⟩
  have HT := Lib.hid hT
  obtain ⟨LM, hLM, hLM0⟩ : ∃ LM, cmpQ (inQ R_l k) (inQ R_m K1) = LM ∧ decide (LM ≤ 0) = true := ⟨_, rfl, decide_eq_true (cmpQ_le.2 (by have q := hR_m; rw [← HK1.out] at q ⊢; exact low_finer HV.out hR_l q))⟩
  have HLM := Lib.hid hLM
  obtain ⟨NH, hNH, hNH0⟩ : ∃ NH, cmpQ (inQ R_nn K1) (inQ R_h k) = NH ∧ decide (NH ≤ 0) = true := ⟨_, rfl, decide_eq_true (cmpQ_le.2 (by have q := hR_nn; rw [← HK1.out] at q ⊢; exact high_finer HV.out hR_h q))⟩
  have HNH := Lib.hid hNH
  have HQ1 : Hid (0 ≤ Rat.divInt 1 1 / pw K2) := by show _ ≤ _; rw [← HK2.out]; exact inv_nn k
  have HQ2 : Hid (∀ P, IsHigh (Rat.divInt 1 1 / pw K2) k P → P = 1) := by
    show ∀ P, _
    intro P q
    rw [← HK2.out] at q
    exact q.one (high_of_eq (inv_four k))
  have HO1 : Hid ((inQ 1 k).num.natAbs < B64 ^ 5 ∧ (inQ 1 k).den < B64 ^ 5) := by
    show _ ∧ _
    have e := inQ_small 1 k
    have e2 : 2 ^ k < B64 ^ 5 := pow_lt_B (j := 5) (by omega)
    exact ⟨Nat.lt_of_le_of_lt e.1 (Nat.one_lt_pow (by decide) (by decide)), Nat.lt_of_le_of_lt e.2 e2⟩
  clear hT hLM hNH he hh2 HX
  have xa0 := XA.c0
  have xa1 := XA.c1
  have xa2 := XA.c2
  have xl0 := XL.c0
  have xl1 := XL.c1
  have xl2 := XL.c2
  have xh0 := XH.c0
  have xh1 := XH.c1
  have xh2 := XH.c2
  have xm0 := XM.c0
  have xm1 := XM.c1
  have xm2 := XM.c2
  have xn0 := XN.c0
  have xn1 := XN.c1
  have xn2 := XN.c2
  go_upto_region 12 with (first
      | (go_at_call 24; (with_reducible refine (rsub_q h.qr l.qr (by decide) (by decide) (by decide) (by decide) (by decide)).mono ?_); rintro e w_d ⟨s_d, A_d, n_d, c_d, B_d, m_d, d_d, rfl, d, hh⟩
         rw [HD.out] at d
         try replace a := a.below hh
         try replace XA := XA.below hh
         try replace l := l.below hh
         try replace XL := XL.below hh
         try replace h := h.below hh
         try replace XH := XH.below hh
         try replace m := m.below hh
         try replace XM := XM.below hh
         try replace nn := nn.below hh
         try replace XN := XN.below hh
         replace hb := bend hb hh
         have xa0 := XA.c0
         have xa1 := XA.c1
         have xa2 := XA.c2
         have xl0 := XL.c0
         have xl1 := XL.c1
         have xl2 := XL.c2
         have xh0 := XH.c0
         have xh1 := XH.c1
         have xh2 := XH.c2
         have xm0 := XM.c0
         have xm1 := XM.c1
         have xm2 := XM.c2
         have xn0 := XN.c0
         have xn1 := XN.c1
         have xn2 := XN.c2))
  generalize hW : (w_d.alloc (Obj.cells #[Value.bool s_d, Value.slice A_d n_d c_d, Value.slice B_d m_d d_d] 26)) = W6
  have hh : Below w_d.heap.size w_d W6 := by subst hW; exact ((Below.refl _ _).alloc (Nat.le_refl _) _)
  have XD : B3 W6 (w_d.heap.size) (Value.bool s_d) (Value.slice A_d n_d c_d) (Value.slice B_d m_d d_d) := by subst hW; exact B3.new' _ _ _ _ _ rfl
  have hzW6 : W6.heap.size = w_d.heap.size + 1 := by subst hW; simp
  clear hW
  try replace a := a.below hh
  try replace XA := XA.below hh
  try replace l := l.below hh
  try replace XL := XL.below hh
  try replace h := h.below hh
  try replace XH := XH.below hh
  try replace m := m.below hh
  try replace XM := XM.below hh
  try replace nn := nn.below hh
  try replace XN := XN.below hh
  try replace d := d.below hh
  replace hb := bend hb hh
  have xa0 := XA.c0
  have xa1 := XA.c1
  have xa2 := XA.c2
  have xl0 := XL.c0
  have xl1 := XL.c1
  have xl2 := XL.c2
  have xh0 := XH.c0
  have xh1 := XH.c1
  have xh2 := XH.c2
  have xm0 := XM.c0
  have xm1 := XM.c1
  have xm2 := XM.c2
  have xn0 := XN.c0
  have xn1 := XN.c1
  have xn2 := XN.c2
  have xd0 := XD.c0
  have xd1 := XD.c1
  have xd2 := XD.c2
  go_upto_region 13 with (first
      | (go_at_call 55; (with_reducible refine (rof3 1 1 (by decide) (by decide) (by decide) (by decide) (by decide) _).mono ?_); rintro e w_o ⟨s_o, A_o, n_o, c_o, B_o, m_o, d_o, rfl, o, hh⟩
         try replace a := a.below hh
         try replace XA := XA.below hh
         try replace l := l.below hh
         try replace XL := XL.below hh
         try replace h := h.below hh
         try replace XH := XH.below hh
         try replace m := m.below hh
         try replace XM := XM.below hh
         try replace nn := nn.below hh
         try replace XN := XN.below hh
         try replace d := d.below hh
         try replace XD := XD.below hh
         replace hb := bend hb hh
         have xa0 := XA.c0
         have xa1 := XA.c1
         have xa2 := XA.c2
         have xl0 := XL.c0
         have xl1 := XL.c1
         have xl2 := XL.c2
         have xh0 := XH.c0
         have xh1 := XH.c1
         have xh2 := XH.c2
         have xm0 := XM.c0
         have xm1 := XM.c1
         have xm2 := XM.c2
         have xn0 := XN.c0
         have xn1 := XN.c1
         have xn2 := XN.c2
         have xd0 := XD.c0
         have xd1 := XD.c1
         have xd2 := XD.c2)
      | (go_at_call 56; (with_reducible refine (rpow4 K2 HK.out.2.2 _).mono ?_); rintro e w_p ⟨s_p, A_p, n_p, c_p, B_p, m_p, d_p, rfl, p, hh⟩
         try replace a := a.below hh
         try replace XA := XA.below hh
         try replace l := l.below hh
         try replace XL := XL.below hh
         try replace h := h.below hh
         try replace XH := XH.below hh
         try replace m := m.below hh
         try replace XM := XM.below hh
         try replace nn := nn.below hh
         try replace XN := XN.below hh
         try replace d := d.below hh
         try replace XD := XD.below hh
         try replace o := o.below hh
         replace hb := bend hb hh
         have xa0 := XA.c0
         have xa1 := XA.c1
         have xa2 := XA.c2
         have xl0 := XL.c0
         have xl1 := XL.c1
         have xl2 := XL.c2
         have xh0 := XH.c0
         have xh1 := XH.c1
         have xh2 := XH.c2
         have xm0 := XM.c0
         have xm1 := XM.c1
         have xm2 := XM.c2
         have xn0 := XN.c0
         have xn1 := XN.c1
         have xn2 := XN.c2
         have xd0 := XD.c0
         have xd1 := XD.c1
         have xd2 := XD.c2)
      | (go_at_call 21; (with_reducible refine (rdiv3 o p (by decide) (by decide) (pw_ne _)).mono ?_); rintro e w_q ⟨s_q, A_q, n_q, c_q, B_q, m_q, d_q, rfl, q, hh⟩
         try replace a := a.below hh
         try replace XA := XA.below hh
         try replace l := l.below hh
         try replace XL := XL.below hh
         try replace h := h.below hh
         try replace XH := XH.below hh
         try replace m := m.below hh
         try replace XM := XM.below hh
         try replace nn := nn.below hh
         try replace XN := XN.below hh
         try replace d := d.below hh
         try replace XD := XD.below hh
         replace hb := bend hb hh
         have xa0 := XA.c0
         have xa1 := XA.c1
         have xa2 := XA.c2
         have xl0 := XL.c0
         have xl1 := XL.c1
         have xl2 := XL.c2
         have xh0 := XH.c0
         have xh1 := XH.c1
         have xh2 := XH.c2
         have xm0 := XM.c0
         have xm1 := XM.c1
         have xm2 := XM.c2
         have xn0 := XN.c0
         have xn1 := XN.c1
         have xn2 := XN.c2
         have xd0 := XD.c0
         have xd1 := XD.c1
         have xd2 := XD.c2)
      | (go_at_call 52; (with_reducible refine (rhigh4 k q HQ1.out (by decide) HK.out.1).mono ?_); rintro e w_f ⟨R_f, hR_f, s_f, A_f, n_f, c_f, B_f, m_f, d_f, rfl, f, hh⟩
         obtain rfl := HQ2.out _ hR_f
         try replace a := a.below hh
         try replace XA := XA.below hh
         try replace l := l.below hh
         try replace XL := XL.below hh
         try replace h := h.below hh
         try replace XH := XH.below hh
         try replace m := m.below hh
         try replace XM := XM.below hh
         try replace nn := nn.below hh
         try replace XN := XN.below hh
         try replace d := d.below hh
         try replace XD := XD.below hh
         replace hb := bend hb hh
         have xa0 := XA.c0
         have xa1 := XA.c1
         have xa2 := XA.c2
         have xl0 := XL.c0
         have xl1 := XL.c1
         have xl2 := XL.c2
         have xh0 := XH.c0
         have xh1 := XH.c1
         have xh2 := XH.c2
         have xm0 := XM.c0
         have xm1 := XM.c1
         have xm2 := XM.c2
         have xn0 := XN.c0
         have xn1 := XN.c1
         have xn2 := XN.c2
         have xd0 := XD.c0
         have xd1 := XD.c1
         have xd2 := XD.c2)
      | (go_at_call 37; (with_reducible refine (rout3g f (by decide) 5 HO1.out.1 HO1.out.2).mono ?_); rintro e w_r ⟨s_r, A_r, n_r, c_r, B_r, m_r, d_r, rfl, r, hh⟩
         try replace a := a.below hh
         try replace XA := XA.below hh
         try replace l := l.below hh
         try replace XL := XL.below hh
         try replace h := h.below hh
         try replace XH := XH.below hh
         try replace m := m.below hh
         try replace XM := XM.below hh
         try replace nn := nn.below hh
         try replace XN := XN.below hh
         try replace d := d.below hh
         try replace XD := XD.below hh
         replace hb := bend hb hh
         have xa0 := XA.c0
         have xa1 := XA.c1
         have xa2 := XA.c2
         have xl0 := XL.c0
         have xl1 := XL.c1
         have xl2 := XL.c2
         have xh0 := XH.c0
         have xh1 := XH.c1
         have xh2 := XH.c2
         have xm0 := XM.c0
         have xm1 := XM.c1
         have xm2 := XM.c2
         have xn0 := XN.c0
         have xn1 := XN.c1
         have xn2 := XN.c2
         have xd0 := XD.c0
         have xd1 := XD.c1
         have xd2 := XD.c2))
  try clear o p q f
  generalize hW : (w_r.alloc (Obj.cells #[Value.bool s_r, Value.slice A_r n_r c_r, Value.slice B_r m_r d_r] 26)) = W7
  have hh : Below w_r.heap.size w_r W7 := by subst hW; exact ((Below.refl _ _).alloc (Nat.le_refl _) _)
  have XR : B3 W7 (w_r.heap.size) (Value.bool s_r) (Value.slice A_r n_r c_r) (Value.slice B_r m_r d_r) := by subst hW; exact B3.new' _ _ _ _ _ rfl
  have hzW7 : W7.heap.size = w_r.heap.size + 1 := by subst hW; simp
  clear hW
  try replace a := a.below hh
  try replace XA := XA.below hh
  try replace l := l.below hh
  try replace XL := XL.below hh
  try replace h := h.below hh
  try replace XH := XH.below hh
  try replace m := m.below hh
  try replace XM := XM.below hh
  try replace nn := nn.below hh
  try replace XN := XN.below hh
  try replace d := d.below hh
  try replace XD := XD.below hh
  try replace r := r.below hh
  replace hb := bend hb hh
  replace a := a.below (Below.refl _ _).drew
  replace XA := XA.below (Below.refl _ _).drew
  replace l := l.below (Below.refl _ _).drew
  replace XL := XL.below (Below.refl _ _).drew
  replace h := h.below (Below.refl _ _).drew
  replace XH := XH.below (Below.refl _ _).drew
  replace m := m.below (Below.refl _ _).drew
  replace XM := XM.below (Below.refl _ _).drew
  replace nn := nn.below (Below.refl _ _).drew
  replace XN := XN.below (Below.refl _ _).drew
  replace d := d.below (Below.refl _ _).drew
  replace XD := XD.below (Below.refl _ _).drew
  replace r := r.below (Below.refl _ _).drew
  replace XR := XR.below (Below.refl _ _).drew
  replace hb := hb.drew
  go_region_held3 (fun w' => w'.cell? ⟨w.heap.size, 0, none⟩ = some (.bool s) ∧ w'.cell? ⟨w.heap.size, 1, none⟩ = some (.slice A n c) ∧ w'.cell? ⟨w.heap.size, 2, none⟩ = some (.slice A' n' c') ∧ w'.cell? ⟨w_l.heap.size, 0, none⟩ = some (.bool s_l) ∧ w'.cell? ⟨w_l.heap.size, 1, none⟩ = some (.slice A_l n_l c_l) ∧ w'.cell? ⟨w_l.heap.size, 2, none⟩ = some (.slice B_l m_l d_l) ∧ w'.cell? ⟨w_h.heap.size, 0, none⟩ = some (.bool s_h) ∧ w'.cell? ⟨w_h.heap.size, 1, none⟩ = some (.slice A_h n_h c_h) ∧ w'.cell? ⟨w_h.heap.size, 2, none⟩ = some (.slice B_h m_h d_h))
    (first | with_reducible exact ⟨XA.c0, XA.c1, XA.c2, XL.c0, XL.c1, XL.c2, XH.c0, XH.c1, XH.c2⟩)
    (first
    | (go_at_call 26; (with_reducible refine (rmul_q l.qr l.qr (by decide) (by decide) (by decide) (by decide) (by decide)).mono ?_); rintro e w_x ⟨s_x, A_x, n_x, c_x, B_x, m_x, d_x, rfl, x, hh⟩
       try replace a := a.below hh
       try replace XA := XA.below hh
       try replace l := l.below hh
       try replace XL := XL.below hh
       try replace h := h.below hh
       try replace XH := XH.below hh
       try replace m := m.below hh
       try replace XM := XM.below hh
       try replace nn := nn.below hh
       try replace XN := XN.below hh
       try replace d := d.below hh
       try replace XD := XD.below hh
       try replace r := r.below hh
       try replace XR := XR.below hh
       replace hb := bend hb hh)
    | (go_at_call 28; (with_reducible refine (rcmp_q x.qr a (by decide) (by decide) (by decide) (by decide) (by decide)).mono ?_); rintro e w_z ⟨rfl, hh⟩
       rw [HLA.out]; clear x
       try replace a := a.below hh
       try replace XA := XA.below hh
       try replace l := l.below hh
       try replace XL := XL.below hh
       try replace h := h.below hh
       try replace XH := XH.below hh
       try replace m := m.below hh
       try replace XM := XM.below hh
       try replace nn := nn.below hh
       try replace XN := XN.below hh
       try replace d := d.below hh
       try replace XD := XD.below hh
       try replace r := r.below hh
       try replace XR := XR.below hh
       replace hb := bend hb hh)
    | (go_at_call 26; (with_reducible refine (rmul_q h.qr h.qr (by decide) (by decide) (by decide) (by decide) (by decide)).mono ?_); rintro e w_y ⟨s_y, A_y, n_y, c_y, B_y, m_y, d_y, rfl, y, hh⟩
       try replace a := a.below hh
       try replace XA := XA.below hh
       try replace l := l.below hh
       try replace XL := XL.below hh
       try replace h := h.below hh
       try replace XH := XH.below hh
       try replace m := m.below hh
       try replace XM := XM.below hh
       try replace nn := nn.below hh
       try replace XN := XN.below hh
       try replace d := d.below hh
       try replace XD := XD.below hh
       try replace r := r.below hh
       try replace XR := XR.below hh
       replace hb := bend hb hh)
    | (go_at_call 28; (with_reducible refine (rcmp_q y.qr a (by decide) (by decide) (by decide) (by decide) (by decide)).mono ?_); rintro e w_z ⟨rfl, hh⟩
       rw [HHA.out]; clear y
       try replace a := a.below hh
       try replace XA := XA.below hh
       try replace l := l.below hh
       try replace XL := XL.below hh
       try replace h := h.below hh
       try replace XH := XH.below hh
       try replace m := m.below hh
       try replace XM := XM.below hh
       try replace nn := nn.below hh
       try replace XN := XN.below hh
       try replace d := d.below hh
       try replace XD := XD.below hh
       try replace r := r.below hh
       try replace XR := XR.below hh
       replace hb := bend hb hh)
    | (go_at_call 30; (with_reducible refine (rsign_q l.qr (by decide) (by decide)).mono ?_); rintro e w_z ⟨rfl, hh⟩
       rw [HT.out]
       try replace a := a.below hh
       try replace XA := XA.below hh
       try replace l := l.below hh
       try replace XL := XL.below hh
       try replace h := h.below hh
       try replace XH := XH.below hh
       try replace m := m.below hh
       try replace XM := XM.below hh
       try replace nn := nn.below hh
       try replace XN := XN.below hh
       try replace d := d.below hh
       try replace XD := XD.below hh
       try replace r := r.below hh
       try replace XR := XR.below hh
       replace hb := bend hb hh))
  go_upto_region 15 with (fail)
  replace a := a.below (Below.refl _ _).drew
  replace XA := XA.below (Below.refl _ _).drew
  replace l := l.below (Below.refl _ _).drew
  replace XL := XL.below (Below.refl _ _).drew
  replace h := h.below (Below.refl _ _).drew
  replace XH := XH.below (Below.refl _ _).drew
  replace m := m.below (Below.refl _ _).drew
  replace XM := XM.below (Below.refl _ _).drew
  replace nn := nn.below (Below.refl _ _).drew
  replace XN := XN.below (Below.refl _ _).drew
  replace d := d.below (Below.refl _ _).drew
  replace XD := XD.below (Below.refl _ _).drew
  replace r := r.below (Below.refl _ _).drew
  replace XR := XR.below (Below.refl _ _).drew
  replace hb := hb.drew
  go_region_held3 (fun w' => w'.cell? ⟨w.heap.size, 0, none⟩ = some (.bool s) ∧ w'.cell? ⟨w.heap.size, 1, none⟩ = some (.slice A n c) ∧ w'.cell? ⟨w.heap.size, 2, none⟩ = some (.slice A' n' c') ∧ w'.cell? ⟨w_l.heap.size, 0, none⟩ = some (.bool s_l) ∧ w'.cell? ⟨w_l.heap.size, 1, none⟩ = some (.slice A_l n_l c_l) ∧ w'.cell? ⟨w_l.heap.size, 2, none⟩ = some (.slice B_l m_l d_l))
    (first | with_reducible exact ⟨XA.c0, XA.c1, XA.c2, XL.c0, XL.c1, XL.c2⟩)
    (first
    | (go_at_call 26; (with_reducible refine (rmul_q l.qr l.qr (by decide) (by decide) (by decide) (by decide) (by decide)).mono ?_); rintro e w_x ⟨s_x, A_x, n_x, c_x, B_x, m_x, d_x, rfl, x, hh⟩
       try replace a := a.below hh
       try replace XA := XA.below hh
       try replace l := l.below hh
       try replace XL := XL.below hh
       try replace h := h.below hh
       try replace XH := XH.below hh
       try replace m := m.below hh
       try replace XM := XM.below hh
       try replace nn := nn.below hh
       try replace XN := XN.below hh
       try replace d := d.below hh
       try replace XD := XD.below hh
       try replace r := r.below hh
       try replace XR := XR.below hh
       replace hb := bend hb hh)
    | (go_at_call 28; (with_reducible refine (rcmp_q x.qr a (by decide) (by decide) (by decide) (by decide) (by decide)).mono ?_); rintro e w_z ⟨rfl, hh⟩
       rw [HLA.out]; clear x
       try replace a := a.below hh
       try replace XA := XA.below hh
       try replace l := l.below hh
       try replace XL := XL.below hh
       try replace h := h.below hh
       try replace XH := XH.below hh
       try replace m := m.below hh
       try replace XM := XM.below hh
       try replace nn := nn.below hh
       try replace XN := XN.below hh
       try replace d := d.below hh
       try replace XD := XD.below hh
       try replace r := r.below hh
       try replace XR := XR.below hh
       replace hb := bend hb hh))
  have xa0 := XA.c0
  have xa1 := XA.c1
  have xa2 := XA.c2
  have xl0 := XL.c0
  have xl1 := XL.c1
  have xl2 := XL.c2
  have xh0 := XH.c0
  have xh1 := XH.c1
  have xh2 := XH.c2
  have xm0 := XM.c0
  have xm1 := XM.c1
  have xm2 := XM.c2
  have xn0 := XN.c0
  have xn1 := XN.c1
  have xn2 := XN.c2
  have xd0 := XD.c0
  have xd1 := XD.c1
  have xd2 := XD.c2
  have xr0 := XR.c0
  have xr1 := XR.c1
  have xr2 := XR.c2
  go_wp2_with (first
      | (go_at_call 30; (with_reducible refine (rsign_q d.qr (by decide) (by decide)).mono ?_); rintro e w_z ⟨rfl, hh⟩
         rw [HDS.out]
         try replace a := a.below hh
         try replace XA := XA.below hh
         try replace l := l.below hh
         try replace XL := XL.below hh
         try replace h := h.below hh
         try replace XH := XH.below hh
         try replace m := m.below hh
         try replace XM := XM.below hh
         try replace nn := nn.below hh
         try replace XN := XN.below hh
         try replace d := d.below hh
         try replace XD := XD.below hh
         try replace r := r.below hh
         try replace XR := XR.below hh
         replace hb := bend hb hh
         have xa0 := XA.c0
         have xa1 := XA.c1
         have xa2 := XA.c2
         have xl0 := XL.c0
         have xl1 := XL.c1
         have xl2 := XL.c2
         have xh0 := XH.c0
         have xh1 := XH.c1
         have xh2 := XH.c2
         have xm0 := XM.c0
         have xm1 := XM.c1
         have xm2 := XM.c2
         have xn0 := XN.c0
         have xn1 := XN.c1
         have xn2 := XN.c2
         have xd0 := XD.c0
         have xd1 := XD.c1
         have xd2 := XD.c2
         have xr0 := XR.c0
         have xr1 := XR.c1
         have xr2 := XR.c2)
      | (go_at_call 28; (with_reducible refine (rcmp_q l.qr m.qr (by decide) (by decide) (by decide) (by decide) (by decide)).mono ?_); rintro e w_z ⟨rfl, hh⟩
         rw [HLM.out]
         try replace a := a.below hh
         try replace XA := XA.below hh
         try replace l := l.below hh
         try replace XL := XL.below hh
         try replace h := h.below hh
         try replace XH := XH.below hh
         try replace m := m.below hh
         try replace XM := XM.below hh
         try replace nn := nn.below hh
         try replace XN := XN.below hh
         try replace d := d.below hh
         try replace XD := XD.below hh
         try replace r := r.below hh
         try replace XR := XR.below hh
         replace hb := bend hb hh
         have xa0 := XA.c0
         have xa1 := XA.c1
         have xa2 := XA.c2
         have xl0 := XL.c0
         have xl1 := XL.c1
         have xl2 := XL.c2
         have xh0 := XH.c0
         have xh1 := XH.c1
         have xh2 := XH.c2
         have xm0 := XM.c0
         have xm1 := XM.c1
         have xm2 := XM.c2
         have xn0 := XN.c0
         have xn1 := XN.c1
         have xn2 := XN.c2
         have xd0 := XD.c0
         have xd1 := XD.c1
         have xd2 := XD.c2
         have xr0 := XR.c0
         have xr1 := XR.c1
         have xr2 := XR.c2)
      | (go_at_call 28; (with_reducible refine (rcmp_q nn.qr h.qr (by decide) (by decide) (by decide) (by decide) (by decide)).mono ?_); rintro e w_z ⟨rfl, hh⟩
         rw [HNH.out]
         try replace a := a.below hh
         try replace XA := XA.below hh
         try replace l := l.below hh
         try replace XL := XL.below hh
         try replace h := h.below hh
         try replace XH := XH.below hh
         try replace m := m.below hh
         try replace XM := XM.below hh
         try replace nn := nn.below hh
         try replace XN := XN.below hh
         try replace d := d.below hh
         try replace XD := XD.below hh
         try replace r := r.below hh
         try replace XR := XR.below hh
         replace hb := bend hb hh
         have xa0 := XA.c0
         have xa1 := XA.c1
         have xa2 := XA.c2
         have xl0 := XL.c0
         have xl1 := XL.c1
         have xl2 := XL.c2
         have xh0 := XH.c0
         have xh1 := XH.c1
         have xh2 := XH.c2
         have xm0 := XM.c0
         have xm1 := XM.c1
         have xm2 := XM.c2
         have xn0 := XN.c0
         have xn1 := XN.c1
         have xn2 := XN.c2
         have xd0 := XD.c0
         have xd1 := XD.c1
         have xd2 := XD.c2
         have xr0 := XR.c0
         have xr1 := XR.c1
         have xr2 := XR.c2)
      | (go_at_call 47; (with_reducible refine (rwakes_any _).mono ?_); rintro e w_z ⟨rfl, hh⟩
         try replace XA := XA.below hh
         replace hb := bend hb hh))
  go_ret
  exact ⟨rfl, hb⟩
set_option maxRecDepth 100000 in
set_option maxHeartbeats 16000000 in
theorem betw_ne {w : World} {s : Bool} {A A' : Option Addr} {n c n' c' : Nat} (k : Nat) {va : Rat} (a : QR w s A n c A' n' c' va 8) (hk : k ≤ 255) (hl : decide (n ≤ 8 ∧ n' ≤ 8) = true) (hv : 0 ≤ va) (he : ¬ ∃ R, IsLow va k R ∧ inQ R k * inQ R k = va) :
    Calls Tryz.prog 7 #[.agg #[.bool s, .slice A n c, .slice A' n' c'], .int .u8 (k : Int)] w fun e w' => e = .returned (.bool true) ∧ Below w.heap.size w w' := by
  obtain ⟨g, hg, hg0⟩ : ∃ g, sgnQ va = g ∧ ¬ g < 0 := ⟨_, rfl, by unfold sgnQ; rw [if_neg (Rat.not_lt.2 hv)]; split <;> decide⟩
  have HS := Lib.hid hg
  have HL := Lib.hid hl
  have HV := Lib.hid hv
  have HX := Lib.hid he
  obtain ⟨K1, hK1⟩ : ∃ K1, k + 1 = K1 := ⟨_, rfl⟩
  have hKI : (k : Int) + 1 = (K1 : Int) := by omega
  obtain ⟨K2, hK2⟩ : ∃ K2, 2 * k = K2 := ⟨_, rfl⟩
  have hKJ : (2 : Int) * (k : Int) = (K2 : Int) := by omega
  have HK : Hid (k ≤ 400 ∧ K1 ≤ 400 ∧ K2 ≤ 512) := by show _ ∧ _ ∧ _; omega
  have HK1 := Lib.hid hK1
  have HK2 := Lib.hid hK2
  clear hg hl hv he hK1 hK2
  go_enter Tryz.func7, Tryz.ntmps7
  go_wp2_with fail
  generalize hW : (w.alloc (Obj.cells #[Value.bool s, Value.slice A n c, Value.slice A' n' c'] 26)) = W
  have hb : Below w.heap.size w W := by subst hW; exact ((Below.refl _ _).alloc (Nat.le_refl _) _)
  have XA : B3 W (w.heap.size) (Value.bool s) (Value.slice A n c) (Value.slice A' n' c') := by subst hW; exact B3.new' _ _ _ _ _ rfl
  have hzW : W.heap.size = w.heap.size + 1 := by subst hW; simp
  clear hW
  replace a := a.below hb
  have xa0 := XA.c0
  have xa1 := XA.c1
  have xa2 := XA.c2
  go_upto_region 4 with (first
      | (go_at_call 46; (with_reducible refine (small_8 _ true HL.out).mono ?_); rintro e w_z ⟨rfl, hh⟩
         try replace a := a.below hh
         try replace XA := XA.below hh
         replace hb := bend hb hh
         have xa0 := XA.c0
         have xa1 := XA.c1
         have xa2 := XA.c2)
      | (go_at_call 48; (with_reducible refine (low_s k a HV.out (by decide) (by decide) HK.out.1).mono ?_); rintro e w_l ⟨R_l, hR_l, s_l, A_l, n_l, c_l, B_l, m_l, d_l, rfl, l, hh⟩
         try replace a := a.below hh
         try replace XA := XA.below hh
         replace hb := bend hb hh
         have xa0 := XA.c0
         have xa1 := XA.c1
         have xa2 := XA.c2))
  generalize hW : (w_l.alloc (Obj.cells #[Value.bool s_l, Value.slice A_l n_l c_l, Value.slice B_l m_l d_l] 26)) = W2
  have hh : Below w_l.heap.size w_l W2 := by subst hW; exact ((Below.refl _ _).alloc (Nat.le_refl _) _)
  have XL : B3 W2 (w_l.heap.size) (Value.bool s_l) (Value.slice A_l n_l c_l) (Value.slice B_l m_l d_l) := by subst hW; exact B3.new' _ _ _ _ _ rfl
  have hzW2 : W2.heap.size = w_l.heap.size + 1 := by subst hW; simp
  clear hW
  try replace a := a.below hh
  try replace XA := XA.below hh
  try replace l := l.below hh
  replace hb := bend hb hh
  have xa0 := XA.c0
  have xa1 := XA.c1
  have xa2 := XA.c2
  have xl0 := XL.c0
  have xl1 := XL.c1
  have xl2 := XL.c2
  go_upto_region 5 with (first
      | (go_at_call 49; (with_reducible refine (high_s k a HV.out (by decide) (by decide) HK.out.1).mono ?_); rintro e w_h ⟨R_h, hR_h, s_h, A_h, n_h, c_h, B_h, m_h, d_h, rfl, h, hh⟩
         try replace a := a.below hh
         try replace XA := XA.below hh
         try replace l := l.below hh
         try replace XL := XL.below hh
         replace hb := bend hb hh
         have xa0 := XA.c0
         have xa1 := XA.c1
         have xa2 := XA.c2
         have xl0 := XL.c0
         have xl1 := XL.c1
         have xl2 := XL.c2))
  generalize hW : (w_h.alloc (Obj.cells #[Value.bool s_h, Value.slice A_h n_h c_h, Value.slice B_h m_h d_h] 26)) = W3
  have hh : Below w_h.heap.size w_h W3 := by subst hW; exact ((Below.refl _ _).alloc (Nat.le_refl _) _)
  have XH : B3 W3 (w_h.heap.size) (Value.bool s_h) (Value.slice A_h n_h c_h) (Value.slice B_h m_h d_h) := by subst hW; exact B3.new' _ _ _ _ _ rfl
  have hzW3 : W3.heap.size = w_h.heap.size + 1 := by subst hW; simp
  clear hW
  try replace a := a.below hh
  try replace XA := XA.below hh
  try replace l := l.below hh
  try replace XL := XL.below hh
  try replace h := h.below hh
  replace hb := bend hb hh
  have xa0 := XA.c0
  have xa1 := XA.c1
  have xa2 := XA.c2
  have xl0 := XL.c0
  have xl1 := XL.c1
  have xl2 := XL.c2
  have xh0 := XH.c0
  have xh1 := XH.c1
  have xh2 := XH.c2
  go_upto_region 8 with (first
      | (go_at_call 30; (with_reducible refine (rsign_q a (by decide) (by decide)).mono ?_); rintro e w_z ⟨rfl, hh⟩
         rw [HS.out]
         try replace a := a.below hh
         try replace XA := XA.below hh
         try replace l := l.below hh
         try replace XL := XL.below hh
         try replace h := h.below hh
         try replace XH := XH.below hh
         replace hb := bend hb hh
         have xa0 := XA.c0
         have xa1 := XA.c1
         have xa2 := XA.c2
         have xl0 := XL.c0
         have xl1 := XL.c1
         have xl2 := XL.c2
         have xh0 := XH.c0
         have xh1 := XH.c1
         have xh2 := XH.c2)
      | (go_at_call 48; (with_reducible refine (low_s K1 a HV.out (by decide) (by decide) HK.out.2.1).mono ?_); rintro e w_m ⟨R_m, hR_m, s_m, A_m, n_m, c_m, B_m, m_m, d_m, rfl, m, hh⟩
         try replace a := a.below hh
         try replace XA := XA.below hh
         try replace l := l.below hh
         try replace XL := XL.below hh
         try replace h := h.below hh
         try replace XH := XH.below hh
         replace hb := bend hb hh
         have xa0 := XA.c0
         have xa1 := XA.c1
         have xa2 := XA.c2
         have xl0 := XL.c0
         have xl1 := XL.c1
         have xl2 := XL.c2
         have xh0 := XH.c0
         have xh1 := XH.c1
         have xh2 := XH.c2))
  generalize hW : (w_m.alloc (Obj.cells #[Value.bool s_m, Value.slice A_m n_m c_m, Value.slice B_m m_m d_m] 26)) = W4
  have hh : Below w_m.heap.size w_m W4 := by subst hW; exact ((Below.refl _ _).alloc (Nat.le_refl _) _)
  have XM : B3 W4 (w_m.heap.size) (Value.bool s_m) (Value.slice A_m n_m c_m) (Value.slice B_m m_m d_m) := by subst hW; exact B3.new' _ _ _ _ _ rfl
  have hzW4 : W4.heap.size = w_m.heap.size + 1 := by subst hW; simp
  clear hW
  try replace a := a.below hh
  try replace XA := XA.below hh
  try replace l := l.below hh
  try replace XL := XL.below hh
  try replace h := h.below hh
  try replace XH := XH.below hh
  try replace m := m.below hh
  replace hb := bend hb hh
  have xa0 := XA.c0
  have xa1 := XA.c1
  have xa2 := XA.c2
  have xl0 := XL.c0
  have xl1 := XL.c1
  have xl2 := XL.c2
  have xh0 := XH.c0
  have xh1 := XH.c1
  have xh2 := XH.c2
  have xm0 := XM.c0
  have xm1 := XM.c1
  have xm2 := XM.c2
  go_upto_region 9 with (first
      | (go_at_call 49; (with_reducible refine (high_s K1 a HV.out (by decide) (by decide) HK.out.2.1).mono ?_); rintro e w_nn ⟨R_nn, hR_nn, s_nn, A_nn, n_nn, c_nn, B_nn, m_nn, d_nn, rfl, nn, hh⟩
         try replace a := a.below hh
         try replace XA := XA.below hh
         try replace l := l.below hh
         try replace XL := XL.below hh
         try replace h := h.below hh
         try replace XH := XH.below hh
         try replace m := m.below hh
         try replace XM := XM.below hh
         replace hb := bend hb hh
         have xa0 := XA.c0
         have xa1 := XA.c1
         have xa2 := XA.c2
         have xl0 := XL.c0
         have xl1 := XL.c1
         have xl2 := XL.c2
         have xh0 := XH.c0
         have xh1 := XH.c1
         have xh2 := XH.c2
         have xm0 := XM.c0
         have xm1 := XM.c1
         have xm2 := XM.c2))
  generalize hW : (w_nn.alloc (Obj.cells #[Value.bool s_nn, Value.slice A_nn n_nn c_nn, Value.slice B_nn m_nn d_nn] 26)) = W5
  have hh : Below w_nn.heap.size w_nn W5 := by subst hW; exact ((Below.refl _ _).alloc (Nat.le_refl _) _)
  have XN : B3 W5 (w_nn.heap.size) (Value.bool s_nn) (Value.slice A_nn n_nn c_nn) (Value.slice B_nn m_nn d_nn) := by subst hW; exact B3.new' _ _ _ _ _ rfl
  have hzW5 : W5.heap.size = w_nn.heap.size + 1 := by subst hW; simp
  clear hW
  try replace a := a.below hh
  try replace XA := XA.below hh
  try replace l := l.below hh
  try replace XL := XL.below hh
  try replace h := h.below hh
  try replace XH := XH.below hh
  try replace m := m.below hh
  try replace XM := XM.below hh
  try replace nn := nn.below hh
  replace hb := bend hb hh
  have he : inQ R_l k * inQ R_l k ≠ va := fun q => HX.out ⟨R_l, hR_l, q⟩
  have hh2 := low_ne HV.out hR_l hR_h he
  have HLA : Hid (cmpQ (inQ R_l k * inQ R_l k) va = -1) := cmp_lt (by
    rcases Rat.le_iff_lt_or_eq.1 (hR_l.le HV.out) with q | q
    · exact q
    · exact absurd q he)
  have HHA : Hid (cmpQ (inQ R_h k * inQ R_h k) va = 1) := by show _ = _; have q := hR_h; rw [hh2] at q ⊢; exact cmp_gt (high_sq HV.out hR_l q)
  have HD : Hid (inQ R_h k - inQ R_l k = inQ 1 k) := by show _ = _; rw [hh2]; exact inQ_sub _ _
  have HDS : Hid (sgnQ (inQ 1 k) = 1) := sgn_one (inQ_pos k)
  have HDC : Hid (cmpQ (inQ 1 k) (inQ 1 k) = 0) := cmpQ_zero.2 rfl
  obtain ⟨T, hT, hT0⟩ : ∃ T, sgnQ (inQ R_l k) = T ∧ decide (T < 0) = false := ⟨_, rfl, by unfold sgnQ; rw [if_neg (Rat.not_lt.2 (inQ_nonneg _ _))]; split <;> decide⟩
  have HT := Lib.hid hT
  obtain ⟨LM, hLM, hLM0⟩ : ∃ LM, cmpQ (inQ R_l k) (inQ R_m K1) = LM ∧ decide (LM ≤ 0) = true := ⟨_, rfl, decide_eq_true (cmpQ_le.2 (by have q := hR_m; rw [← HK1.out] at q ⊢; exact low_finer HV.out hR_l q))⟩
  have HLM := Lib.hid hLM
  obtain ⟨NH, hNH, hNH0⟩ : ∃ NH, cmpQ (inQ R_nn K1) (inQ R_h k) = NH ∧ decide (NH ≤ 0) = true := ⟨_, rfl, decide_eq_true (cmpQ_le.2 (by have q := hR_nn; rw [← HK1.out] at q ⊢; exact high_finer HV.out hR_h q))⟩
  have HNH := Lib.hid hNH
  have HQ1 : Hid (0 ≤ Rat.divInt 1 1 / pw K2) := by show _ ≤ _; rw [← HK2.out]; exact inv_nn k
  have HQ2 : Hid (∀ P, IsHigh (Rat.divInt 1 1 / pw K2) k P → P = 1) := by
    show ∀ P, _
    intro P q
    rw [← HK2.out] at q
    exact q.one (high_of_eq (inv_four k))
  have HO1 : Hid ((inQ 1 k).num.natAbs < B64 ^ 5 ∧ (inQ 1 k).den < B64 ^ 5) := by
    show _ ∧ _
    have e := inQ_small 1 k
    have e2 : 2 ^ k < B64 ^ 5 := pow_lt_B (j := 5) (by omega)
    exact ⟨Nat.lt_of_le_of_lt e.1 (Nat.one_lt_pow (by decide) (by decide)), Nat.lt_of_le_of_lt e.2 e2⟩
  clear hT hLM hNH he hh2 HX
  have xa0 := XA.c0
  have xa1 := XA.c1
  have xa2 := XA.c2
  have xl0 := XL.c0
  have xl1 := XL.c1
  have xl2 := XL.c2
  have xh0 := XH.c0
  have xh1 := XH.c1
  have xh2 := XH.c2
  have xm0 := XM.c0
  have xm1 := XM.c1
  have xm2 := XM.c2
  have xn0 := XN.c0
  have xn1 := XN.c1
  have xn2 := XN.c2
  go_upto_region 12 with (first
      | (go_at_call 24; (with_reducible refine (rsub_q h.qr l.qr (by decide) (by decide) (by decide) (by decide) (by decide)).mono ?_); rintro e w_d ⟨s_d, A_d, n_d, c_d, B_d, m_d, d_d, rfl, d, hh⟩
         rw [HD.out] at d
         try replace a := a.below hh
         try replace XA := XA.below hh
         try replace l := l.below hh
         try replace XL := XL.below hh
         try replace h := h.below hh
         try replace XH := XH.below hh
         try replace m := m.below hh
         try replace XM := XM.below hh
         try replace nn := nn.below hh
         try replace XN := XN.below hh
         replace hb := bend hb hh
         have xa0 := XA.c0
         have xa1 := XA.c1
         have xa2 := XA.c2
         have xl0 := XL.c0
         have xl1 := XL.c1
         have xl2 := XL.c2
         have xh0 := XH.c0
         have xh1 := XH.c1
         have xh2 := XH.c2
         have xm0 := XM.c0
         have xm1 := XM.c1
         have xm2 := XM.c2
         have xn0 := XN.c0
         have xn1 := XN.c1
         have xn2 := XN.c2))
  generalize hW : (w_d.alloc (Obj.cells #[Value.bool s_d, Value.slice A_d n_d c_d, Value.slice B_d m_d d_d] 26)) = W6
  have hh : Below w_d.heap.size w_d W6 := by subst hW; exact ((Below.refl _ _).alloc (Nat.le_refl _) _)
  have XD : B3 W6 (w_d.heap.size) (Value.bool s_d) (Value.slice A_d n_d c_d) (Value.slice B_d m_d d_d) := by subst hW; exact B3.new' _ _ _ _ _ rfl
  have hzW6 : W6.heap.size = w_d.heap.size + 1 := by subst hW; simp
  clear hW
  try replace a := a.below hh
  try replace XA := XA.below hh
  try replace l := l.below hh
  try replace XL := XL.below hh
  try replace h := h.below hh
  try replace XH := XH.below hh
  try replace m := m.below hh
  try replace XM := XM.below hh
  try replace nn := nn.below hh
  try replace XN := XN.below hh
  try replace d := d.below hh
  replace hb := bend hb hh
  have xa0 := XA.c0
  have xa1 := XA.c1
  have xa2 := XA.c2
  have xl0 := XL.c0
  have xl1 := XL.c1
  have xl2 := XL.c2
  have xh0 := XH.c0
  have xh1 := XH.c1
  have xh2 := XH.c2
  have xm0 := XM.c0
  have xm1 := XM.c1
  have xm2 := XM.c2
  have xn0 := XN.c0
  have xn1 := XN.c1
  have xn2 := XN.c2
  have xd0 := XD.c0
  have xd1 := XD.c1
  have xd2 := XD.c2
  go_upto_region 13 with (first
      | (go_at_call 55; (with_reducible refine (rof3 1 1 (by decide) (by decide) (by decide) (by decide) (by decide) _).mono ?_); rintro e w_o ⟨s_o, A_o, n_o, c_o, B_o, m_o, d_o, rfl, o, hh⟩
         try replace a := a.below hh
         try replace XA := XA.below hh
         try replace l := l.below hh
         try replace XL := XL.below hh
         try replace h := h.below hh
         try replace XH := XH.below hh
         try replace m := m.below hh
         try replace XM := XM.below hh
         try replace nn := nn.below hh
         try replace XN := XN.below hh
         try replace d := d.below hh
         try replace XD := XD.below hh
         replace hb := bend hb hh
         have xa0 := XA.c0
         have xa1 := XA.c1
         have xa2 := XA.c2
         have xl0 := XL.c0
         have xl1 := XL.c1
         have xl2 := XL.c2
         have xh0 := XH.c0
         have xh1 := XH.c1
         have xh2 := XH.c2
         have xm0 := XM.c0
         have xm1 := XM.c1
         have xm2 := XM.c2
         have xn0 := XN.c0
         have xn1 := XN.c1
         have xn2 := XN.c2
         have xd0 := XD.c0
         have xd1 := XD.c1
         have xd2 := XD.c2)
      | (go_at_call 56; (with_reducible refine (rpow4 K2 HK.out.2.2 _).mono ?_); rintro e w_p ⟨s_p, A_p, n_p, c_p, B_p, m_p, d_p, rfl, p, hh⟩
         try replace a := a.below hh
         try replace XA := XA.below hh
         try replace l := l.below hh
         try replace XL := XL.below hh
         try replace h := h.below hh
         try replace XH := XH.below hh
         try replace m := m.below hh
         try replace XM := XM.below hh
         try replace nn := nn.below hh
         try replace XN := XN.below hh
         try replace d := d.below hh
         try replace XD := XD.below hh
         try replace o := o.below hh
         replace hb := bend hb hh
         have xa0 := XA.c0
         have xa1 := XA.c1
         have xa2 := XA.c2
         have xl0 := XL.c0
         have xl1 := XL.c1
         have xl2 := XL.c2
         have xh0 := XH.c0
         have xh1 := XH.c1
         have xh2 := XH.c2
         have xm0 := XM.c0
         have xm1 := XM.c1
         have xm2 := XM.c2
         have xn0 := XN.c0
         have xn1 := XN.c1
         have xn2 := XN.c2
         have xd0 := XD.c0
         have xd1 := XD.c1
         have xd2 := XD.c2)
      | (go_at_call 21; (with_reducible refine (rdiv3 o p (by decide) (by decide) (pw_ne _)).mono ?_); rintro e w_q ⟨s_q, A_q, n_q, c_q, B_q, m_q, d_q, rfl, q, hh⟩
         try replace a := a.below hh
         try replace XA := XA.below hh
         try replace l := l.below hh
         try replace XL := XL.below hh
         try replace h := h.below hh
         try replace XH := XH.below hh
         try replace m := m.below hh
         try replace XM := XM.below hh
         try replace nn := nn.below hh
         try replace XN := XN.below hh
         try replace d := d.below hh
         try replace XD := XD.below hh
         replace hb := bend hb hh
         have xa0 := XA.c0
         have xa1 := XA.c1
         have xa2 := XA.c2
         have xl0 := XL.c0
         have xl1 := XL.c1
         have xl2 := XL.c2
         have xh0 := XH.c0
         have xh1 := XH.c1
         have xh2 := XH.c2
         have xm0 := XM.c0
         have xm1 := XM.c1
         have xm2 := XM.c2
         have xn0 := XN.c0
         have xn1 := XN.c1
         have xn2 := XN.c2
         have xd0 := XD.c0
         have xd1 := XD.c1
         have xd2 := XD.c2)
      | (go_at_call 52; (with_reducible refine (rhigh4 k q HQ1.out (by decide) HK.out.1).mono ?_); rintro e w_f ⟨R_f, hR_f, s_f, A_f, n_f, c_f, B_f, m_f, d_f, rfl, f, hh⟩
         obtain rfl := HQ2.out _ hR_f
         try replace a := a.below hh
         try replace XA := XA.below hh
         try replace l := l.below hh
         try replace XL := XL.below hh
         try replace h := h.below hh
         try replace XH := XH.below hh
         try replace m := m.below hh
         try replace XM := XM.below hh
         try replace nn := nn.below hh
         try replace XN := XN.below hh
         try replace d := d.below hh
         try replace XD := XD.below hh
         replace hb := bend hb hh
         have xa0 := XA.c0
         have xa1 := XA.c1
         have xa2 := XA.c2
         have xl0 := XL.c0
         have xl1 := XL.c1
         have xl2 := XL.c2
         have xh0 := XH.c0
         have xh1 := XH.c1
         have xh2 := XH.c2
         have xm0 := XM.c0
         have xm1 := XM.c1
         have xm2 := XM.c2
         have xn0 := XN.c0
         have xn1 := XN.c1
         have xn2 := XN.c2
         have xd0 := XD.c0
         have xd1 := XD.c1
         have xd2 := XD.c2)
      | (go_at_call 37; (with_reducible refine (rout3g f (by decide) 5 HO1.out.1 HO1.out.2).mono ?_); rintro e w_r ⟨s_r, A_r, n_r, c_r, B_r, m_r, d_r, rfl, r, hh⟩
         try replace a := a.below hh
         try replace XA := XA.below hh
         try replace l := l.below hh
         try replace XL := XL.below hh
         try replace h := h.below hh
         try replace XH := XH.below hh
         try replace m := m.below hh
         try replace XM := XM.below hh
         try replace nn := nn.below hh
         try replace XN := XN.below hh
         try replace d := d.below hh
         try replace XD := XD.below hh
         replace hb := bend hb hh
         have xa0 := XA.c0
         have xa1 := XA.c1
         have xa2 := XA.c2
         have xl0 := XL.c0
         have xl1 := XL.c1
         have xl2 := XL.c2
         have xh0 := XH.c0
         have xh1 := XH.c1
         have xh2 := XH.c2
         have xm0 := XM.c0
         have xm1 := XM.c1
         have xm2 := XM.c2
         have xn0 := XN.c0
         have xn1 := XN.c1
         have xn2 := XN.c2
         have xd0 := XD.c0
         have xd1 := XD.c1
         have xd2 := XD.c2))
  try clear o p q f
  generalize hW : (w_r.alloc (Obj.cells #[Value.bool s_r, Value.slice A_r n_r c_r, Value.slice B_r m_r d_r] 26)) = W7
  have hh : Below w_r.heap.size w_r W7 := by subst hW; exact ((Below.refl _ _).alloc (Nat.le_refl _) _)
  have XR : B3 W7 (w_r.heap.size) (Value.bool s_r) (Value.slice A_r n_r c_r) (Value.slice B_r m_r d_r) := by subst hW; exact B3.new' _ _ _ _ _ rfl
  have hzW7 : W7.heap.size = w_r.heap.size + 1 := by subst hW; simp
  clear hW
  try replace a := a.below hh
  try replace XA := XA.below hh
  try replace l := l.below hh
  try replace XL := XL.below hh
  try replace h := h.below hh
  try replace XH := XH.below hh
  try replace m := m.below hh
  try replace XM := XM.below hh
  try replace nn := nn.below hh
  try replace XN := XN.below hh
  try replace d := d.below hh
  try replace XD := XD.below hh
  try replace r := r.below hh
  replace hb := bend hb hh
  replace a := a.below (Below.refl _ _).drew
  replace XA := XA.below (Below.refl _ _).drew
  replace l := l.below (Below.refl _ _).drew
  replace XL := XL.below (Below.refl _ _).drew
  replace h := h.below (Below.refl _ _).drew
  replace XH := XH.below (Below.refl _ _).drew
  replace m := m.below (Below.refl _ _).drew
  replace XM := XM.below (Below.refl _ _).drew
  replace nn := nn.below (Below.refl _ _).drew
  replace XN := XN.below (Below.refl _ _).drew
  replace d := d.below (Below.refl _ _).drew
  replace XD := XD.below (Below.refl _ _).drew
  replace r := r.below (Below.refl _ _).drew
  replace XR := XR.below (Below.refl _ _).drew
  replace hb := hb.drew
  go_region_held3 (fun w' => w'.cell? ⟨w.heap.size, 0, none⟩ = some (.bool s) ∧ w'.cell? ⟨w.heap.size, 1, none⟩ = some (.slice A n c) ∧ w'.cell? ⟨w.heap.size, 2, none⟩ = some (.slice A' n' c') ∧ w'.cell? ⟨w_l.heap.size, 0, none⟩ = some (.bool s_l) ∧ w'.cell? ⟨w_l.heap.size, 1, none⟩ = some (.slice A_l n_l c_l) ∧ w'.cell? ⟨w_l.heap.size, 2, none⟩ = some (.slice B_l m_l d_l) ∧ w'.cell? ⟨w_h.heap.size, 0, none⟩ = some (.bool s_h) ∧ w'.cell? ⟨w_h.heap.size, 1, none⟩ = some (.slice A_h n_h c_h) ∧ w'.cell? ⟨w_h.heap.size, 2, none⟩ = some (.slice B_h m_h d_h))
    (first | with_reducible exact ⟨XA.c0, XA.c1, XA.c2, XL.c0, XL.c1, XL.c2, XH.c0, XH.c1, XH.c2⟩)
    (first
    | (go_at_call 26; (with_reducible refine (rmul_q l.qr l.qr (by decide) (by decide) (by decide) (by decide) (by decide)).mono ?_); rintro e w_x ⟨s_x, A_x, n_x, c_x, B_x, m_x, d_x, rfl, x, hh⟩
       try replace a := a.below hh
       try replace XA := XA.below hh
       try replace l := l.below hh
       try replace XL := XL.below hh
       try replace h := h.below hh
       try replace XH := XH.below hh
       try replace m := m.below hh
       try replace XM := XM.below hh
       try replace nn := nn.below hh
       try replace XN := XN.below hh
       try replace d := d.below hh
       try replace XD := XD.below hh
       try replace r := r.below hh
       try replace XR := XR.below hh
       replace hb := bend hb hh)
    | (go_at_call 28; (with_reducible refine (rcmp_q x.qr a (by decide) (by decide) (by decide) (by decide) (by decide)).mono ?_); rintro e w_z ⟨rfl, hh⟩
       rw [HLA.out]; clear x
       try replace a := a.below hh
       try replace XA := XA.below hh
       try replace l := l.below hh
       try replace XL := XL.below hh
       try replace h := h.below hh
       try replace XH := XH.below hh
       try replace m := m.below hh
       try replace XM := XM.below hh
       try replace nn := nn.below hh
       try replace XN := XN.below hh
       try replace d := d.below hh
       try replace XD := XD.below hh
       try replace r := r.below hh
       try replace XR := XR.below hh
       replace hb := bend hb hh)
    | (go_at_call 26; (with_reducible refine (rmul_q h.qr h.qr (by decide) (by decide) (by decide) (by decide) (by decide)).mono ?_); rintro e w_y ⟨s_y, A_y, n_y, c_y, B_y, m_y, d_y, rfl, y, hh⟩
       try replace a := a.below hh
       try replace XA := XA.below hh
       try replace l := l.below hh
       try replace XL := XL.below hh
       try replace h := h.below hh
       try replace XH := XH.below hh
       try replace m := m.below hh
       try replace XM := XM.below hh
       try replace nn := nn.below hh
       try replace XN := XN.below hh
       try replace d := d.below hh
       try replace XD := XD.below hh
       try replace r := r.below hh
       try replace XR := XR.below hh
       replace hb := bend hb hh)
    | (go_at_call 28; (with_reducible refine (rcmp_q y.qr a (by decide) (by decide) (by decide) (by decide) (by decide)).mono ?_); rintro e w_z ⟨rfl, hh⟩
       rw [HHA.out]; clear y
       try replace a := a.below hh
       try replace XA := XA.below hh
       try replace l := l.below hh
       try replace XL := XL.below hh
       try replace h := h.below hh
       try replace XH := XH.below hh
       try replace m := m.below hh
       try replace XM := XM.below hh
       try replace nn := nn.below hh
       try replace XN := XN.below hh
       try replace d := d.below hh
       try replace XD := XD.below hh
       try replace r := r.below hh
       try replace XR := XR.below hh
       replace hb := bend hb hh)
    | (go_at_call 30; (with_reducible refine (rsign_q l.qr (by decide) (by decide)).mono ?_); rintro e w_z ⟨rfl, hh⟩
       rw [HT.out]
       try replace a := a.below hh
       try replace XA := XA.below hh
       try replace l := l.below hh
       try replace XL := XL.below hh
       try replace h := h.below hh
       try replace XH := XH.below hh
       try replace m := m.below hh
       try replace XM := XM.below hh
       try replace nn := nn.below hh
       try replace XN := XN.below hh
       try replace d := d.below hh
       try replace XD := XD.below hh
       try replace r := r.below hh
       try replace XR := XR.below hh
       replace hb := bend hb hh))
  go_upto_region 15 with (fail)
  replace a := a.below (Below.refl _ _).drew
  replace XA := XA.below (Below.refl _ _).drew
  replace l := l.below (Below.refl _ _).drew
  replace XL := XL.below (Below.refl _ _).drew
  replace h := h.below (Below.refl _ _).drew
  replace XH := XH.below (Below.refl _ _).drew
  replace m := m.below (Below.refl _ _).drew
  replace XM := XM.below (Below.refl _ _).drew
  replace nn := nn.below (Below.refl _ _).drew
  replace XN := XN.below (Below.refl _ _).drew
  replace d := d.below (Below.refl _ _).drew
  replace XD := XD.below (Below.refl _ _).drew
  replace r := r.below (Below.refl _ _).drew
  replace XR := XR.below (Below.refl _ _).drew
  replace hb := hb.drew
  go_region_held3 (fun w' => w'.cell? ⟨w.heap.size, 0, none⟩ = some (.bool s) ∧ w'.cell? ⟨w.heap.size, 1, none⟩ = some (.slice A n c) ∧ w'.cell? ⟨w.heap.size, 2, none⟩ = some (.slice A' n' c') ∧ w'.cell? ⟨w_l.heap.size, 0, none⟩ = some (.bool s_l) ∧ w'.cell? ⟨w_l.heap.size, 1, none⟩ = some (.slice A_l n_l c_l) ∧ w'.cell? ⟨w_l.heap.size, 2, none⟩ = some (.slice B_l m_l d_l))
    (first | with_reducible exact ⟨XA.c0, XA.c1, XA.c2, XL.c0, XL.c1, XL.c2⟩)
    (first
    | (go_at_call 26; (with_reducible refine (rmul_q l.qr l.qr (by decide) (by decide) (by decide) (by decide) (by decide)).mono ?_); rintro e w_x ⟨s_x, A_x, n_x, c_x, B_x, m_x, d_x, rfl, x, hh⟩
       try replace a := a.below hh
       try replace XA := XA.below hh
       try replace l := l.below hh
       try replace XL := XL.below hh
       try replace h := h.below hh
       try replace XH := XH.below hh
       try replace m := m.below hh
       try replace XM := XM.below hh
       try replace nn := nn.below hh
       try replace XN := XN.below hh
       try replace d := d.below hh
       try replace XD := XD.below hh
       try replace r := r.below hh
       try replace XR := XR.below hh
       replace hb := bend hb hh)
    | (go_at_call 28; (with_reducible refine (rcmp_q x.qr a (by decide) (by decide) (by decide) (by decide) (by decide)).mono ?_); rintro e w_z ⟨rfl, hh⟩
       rw [HLA.out]; clear x
       try replace a := a.below hh
       try replace XA := XA.below hh
       try replace l := l.below hh
       try replace XL := XL.below hh
       try replace h := h.below hh
       try replace XH := XH.below hh
       try replace m := m.below hh
       try replace XM := XM.below hh
       try replace nn := nn.below hh
       try replace XN := XN.below hh
       try replace d := d.below hh
       try replace XD := XD.below hh
       try replace r := r.below hh
       try replace XR := XR.below hh
       replace hb := bend hb hh))
  have xa0 := XA.c0
  have xa1 := XA.c1
  have xa2 := XA.c2
  have xl0 := XL.c0
  have xl1 := XL.c1
  have xl2 := XL.c2
  have xh0 := XH.c0
  have xh1 := XH.c1
  have xh2 := XH.c2
  have xm0 := XM.c0
  have xm1 := XM.c1
  have xm2 := XM.c2
  have xn0 := XN.c0
  have xn1 := XN.c1
  have xn2 := XN.c2
  have xd0 := XD.c0
  have xd1 := XD.c1
  have xd2 := XD.c2
  have xr0 := XR.c0
  have xr1 := XR.c1
  have xr2 := XR.c2
  go_wp2_with (first
      | (go_at_call 30; (with_reducible refine (rsign_q d.qr (by decide) (by decide)).mono ?_); rintro e w_z ⟨rfl, hh⟩
         rw [HDS.out]
         try replace a := a.below hh
         try replace XA := XA.below hh
         try replace l := l.below hh
         try replace XL := XL.below hh
         try replace h := h.below hh
         try replace XH := XH.below hh
         try replace m := m.below hh
         try replace XM := XM.below hh
         try replace nn := nn.below hh
         try replace XN := XN.below hh
         try replace d := d.below hh
         try replace XD := XD.below hh
         try replace r := r.below hh
         try replace XR := XR.below hh
         replace hb := bend hb hh
         have xa0 := XA.c0
         have xa1 := XA.c1
         have xa2 := XA.c2
         have xl0 := XL.c0
         have xl1 := XL.c1
         have xl2 := XL.c2
         have xh0 := XH.c0
         have xh1 := XH.c1
         have xh2 := XH.c2
         have xm0 := XM.c0
         have xm1 := XM.c1
         have xm2 := XM.c2
         have xn0 := XN.c0
         have xn1 := XN.c1
         have xn2 := XN.c2
         have xd0 := XD.c0
         have xd1 := XD.c1
         have xd2 := XD.c2
         have xr0 := XR.c0
         have xr1 := XR.c1
         have xr2 := XR.c2)
      | (go_at_call 28; (with_reducible refine (rcmp_q d.qr r.qr (by decide) (by decide) (by decide) (by decide) (by decide)).mono ?_); rintro e w_z ⟨rfl, hh⟩
         rw [HDC.out]
         try replace a := a.below hh
         try replace XA := XA.below hh
         try replace l := l.below hh
         try replace XL := XL.below hh
         try replace h := h.below hh
         try replace XH := XH.below hh
         try replace m := m.below hh
         try replace XM := XM.below hh
         try replace nn := nn.below hh
         try replace XN := XN.below hh
         try replace d := d.below hh
         try replace XD := XD.below hh
         try replace r := r.below hh
         try replace XR := XR.below hh
         replace hb := bend hb hh
         have xa0 := XA.c0
         have xa1 := XA.c1
         have xa2 := XA.c2
         have xl0 := XL.c0
         have xl1 := XL.c1
         have xl2 := XL.c2
         have xh0 := XH.c0
         have xh1 := XH.c1
         have xh2 := XH.c2
         have xm0 := XM.c0
         have xm1 := XM.c1
         have xm2 := XM.c2
         have xn0 := XN.c0
         have xn1 := XN.c1
         have xn2 := XN.c2
         have xd0 := XD.c0
         have xd1 := XD.c1
         have xd2 := XD.c2
         have xr0 := XR.c0
         have xr1 := XR.c1
         have xr2 := XR.c2)
      | (go_at_call 28; (with_reducible refine (rcmp_q l.qr m.qr (by decide) (by decide) (by decide) (by decide) (by decide)).mono ?_); rintro e w_z ⟨rfl, hh⟩
         rw [HLM.out]
         try replace a := a.below hh
         try replace XA := XA.below hh
         try replace l := l.below hh
         try replace XL := XL.below hh
         try replace h := h.below hh
         try replace XH := XH.below hh
         try replace m := m.below hh
         try replace XM := XM.below hh
         try replace nn := nn.below hh
         try replace XN := XN.below hh
         try replace d := d.below hh
         try replace XD := XD.below hh
         try replace r := r.below hh
         try replace XR := XR.below hh
         replace hb := bend hb hh
         have xa0 := XA.c0
         have xa1 := XA.c1
         have xa2 := XA.c2
         have xl0 := XL.c0
         have xl1 := XL.c1
         have xl2 := XL.c2
         have xh0 := XH.c0
         have xh1 := XH.c1
         have xh2 := XH.c2
         have xm0 := XM.c0
         have xm1 := XM.c1
         have xm2 := XM.c2
         have xn0 := XN.c0
         have xn1 := XN.c1
         have xn2 := XN.c2
         have xd0 := XD.c0
         have xd1 := XD.c1
         have xd2 := XD.c2
         have xr0 := XR.c0
         have xr1 := XR.c1
         have xr2 := XR.c2)
      | (go_at_call 28; (with_reducible refine (rcmp_q nn.qr h.qr (by decide) (by decide) (by decide) (by decide) (by decide)).mono ?_); rintro e w_z ⟨rfl, hh⟩
         rw [HNH.out]
         try replace a := a.below hh
         try replace XA := XA.below hh
         try replace l := l.below hh
         try replace XL := XL.below hh
         try replace h := h.below hh
         try replace XH := XH.below hh
         try replace m := m.below hh
         try replace XM := XM.below hh
         try replace nn := nn.below hh
         try replace XN := XN.below hh
         try replace d := d.below hh
         try replace XD := XD.below hh
         try replace r := r.below hh
         try replace XR := XR.below hh
         replace hb := bend hb hh
         have xa0 := XA.c0
         have xa1 := XA.c1
         have xa2 := XA.c2
         have xl0 := XL.c0
         have xl1 := XL.c1
         have xl2 := XL.c2
         have xh0 := XH.c0
         have xh1 := XH.c1
         have xh2 := XH.c2
         have xm0 := XM.c0
         have xm1 := XM.c1
         have xm2 := XM.c2
         have xn0 := XN.c0
         have xn1 := XN.c1
         have xn2 := XN.c2
         have xd0 := XD.c0
         have xd1 := XD.c1
         have xd2 := XD.c2
         have xr0 := XR.c0
         have xr1 := XR.c1
         have xr2 := XR.c2)
      | (go_at_call 47; (with_reducible refine (rwakes_any _).mono ?_); rintro e w_z ⟨rfl, hh⟩
         try replace XA := XA.below hh
         replace hb := bend hb hh))
  go_ret
  exact ⟨rfl, hb⟩
theorem law_between {w : World} (s : Bool) (A A' : Option Addr) (n c n' c' k : Nat) (l l' : List Nat) (r1 : Rd .u64 w A n l) (r2 : Rd .u64 w A' n' l') (t1 : Lim B64 l) (t2 : Lim B64 l') (e1 : n ≤ c) (e2 : n' ≤ c') (hk : k ≤ 255) :
    Calls Tryz.prog 7 #[.agg #[.bool s, .slice A n c, .slice A' n' c'], .int .u8 (k : Int)] w fun e w' => e = .returned (.bool true) ∧ Below w.heap.size w w' := by
  by_cases h : n ≤ 8 ∧ n' ≤ 8
  · have a : QR w s A n c A' n' c' (mkRat (iv s (val B64 l)) (den1 (val B64 l'))) 8 := QR.of_rd (s := s) r1 t1 e1 r2 t2 e2 h.1 h.2
    have hl : decide (n ≤ 8 ∧ n' ≤ 8) = true := decide_eq_true h
    by_cases hv : mkRat (iv s (val B64 l)) (den1 (val B64 l')) < 0
    · exact betw_neg k a hk hl hv
    · by_cases he : ∃ R, IsLow (mkRat (iv s (val B64 l)) (den1 (val B64 l'))) k R ∧ inQ R k * inQ R k = mkRat (iv s (val B64 l)) (den1 (val B64 l'))
      · exact betw_eq k a hk hl (Rat.not_lt.1 hv) he
      · exact betw_ne k a hk hl (Rat.not_lt.1 hv) he
  · exact betw_large k (decide_eq_false h)
end Go.Proofs.YtlkjkhpjhllapaaGreat
