/- fix's functions by value: To, From, Byte. -/
import Derived.Test.YtmcijgnbdnpanaaRatG
import Derived.Test.YtmcijgnbdnpanaaRatC
import Derived.Test.YtmcijgnbdnpanaaRootM
namespace Go.Proofs.Ytmcijgnbdnpanaa
open Go Go.RowKit

/-- The nearest whole number of parts. -/
def toQ (v : Rat) (u : Int) : Int := (v * Rat.divInt u 1 + Rat.divInt 1 2).floor
theorem QG.tight {w : World} {s : Bool} {A A' : Option Addr} {n c n' c' k k1 : Nat} {v : Rat} (h : QG w s A n c A' n' c' v k) (h1 : v.num.natAbs < B64 ^ k1) (h2 : v.den < B64 ^ k1) : QG w s A n c A' n' c' v k1 :=
  ⟨⟨h.1.1, h.1.2.1, h.1.2.2.1, by rw [← h.1.2.1.1]; exact length_limbs_le B64_two h1⟩, NG.tight h.2 h2⟩

set_option maxRecDepth 100000 in
set_option maxHeartbeats 4000000 in
theorem to_q {w : World} {s : Bool} {A A' : Option Addr} {n c n' c' k : Nat} {v : Rat} (u : Int) (X : QR w s A n c A' n' c' v k) (hk : k ≤ 300) (hk1 : 1 ≤ k) (hu1 : 1 ≤ u) (hu2 : u < 9223372036854775808) :
    Calls Try.prog 19 #[.agg #[.bool s, .slice A n c, .slice A' n' c'], .int .i64 u] w (GivesZG w (toQ v u) (k + 4)) := by
  have h1 : -9223372036854775808 ≤ u := by omega
  have H1 := Lib.hid h1
  have H2 := Lib.hid hu2
  have hu : ¬ u < 1 := by omega
  clear h1 hu1 hu2
  go_enter Try.func19, Try.ntmps19
  go_wp2_with fail
  generalize hW : ((w.alloc (Obj.cells #[Value.bool s, Value.slice A n c, Value.slice A' n' c'] 26)).alloc (Obj.cells #[Value.bool false, Value.slice none 0 0] 24)) = W
  have hb : Below w.heap.size w W := by subst hW; exact (((Below.refl _ _).alloc (Nat.le_refl _) _).alloc (by simp) _)
  have XA : B3 W (w.heap.size) (Value.bool s) (Value.slice A n c) (Value.slice A' n' c') := by subst hW; exact (B3.new' _ _ _ _ _ rfl).alloc _
  have Z : Bx W (w.heap.size + 1) (Value.bool false) (Value.slice none 0 0) := by subst hW; exact Bx.new' _ _ _ _ (by simp)
  have hzW : W.heap.size = w.heap.size + 2 := by subst hW; simp
  clear hW
  replace X := X.below hb
  have xa0 := XA.c0
  have xa1 := XA.c1
  have xa2 := XA.c2
  replace X := X.below (Below.refl _ _).drew
  replace XA := XA.below (Below.refl _ _).drew
  replace Z := Z.below (Below.refl _ _).drew
  replace hb := hb.drew
  go_region_held3 (fun w' => w'.cell? ⟨w.heap.size, 0, none⟩ = some (Value.bool s) ∧ w'.cell? ⟨w.heap.size, 1, none⟩ = some (Value.slice A n c) ∧ w'.cell? ⟨w.heap.size, 2, none⟩ = some (Value.slice A' n' c'))
    (first | with_reducible exact ⟨XA.c0, XA.c1, XA.c2⟩ | with_reducible exact ⟨(set2_cell _ _ _ _ _ _ (by omega)).trans (XA.c0), (set2_cell _ _ _ _ _ _ (by omega)).trans (XA.c1), (set2_cell _ _ _ _ _ _ (by omega)).trans (XA.c2)⟩)
    (first
    | (go_at_call 16; (with_reducible refine (rof_q u 1 H1.out H2.out (by decide) (by decide) (by decide) _).mono ?_); rintro e w_o ⟨s_o, A_o, n_o, c_o, B_o, m_o, d_o, rfl, o, hh⟩
       try replace X := X.below hh
       try replace m := m.below hh
       try replace h := h.below hh
       try replace t := t.below hh
       try replace f := f.below hh
       try replace XA := XA.below hh
       try replace Z := Z.below hh
       replace hb := bend hb hh)
    | (go_at_call 16; (with_reducible refine (rof_q 1 2 (by decide) (by decide) (by decide) (by decide) (by decide) _).mono ?_); rintro e w_h ⟨s_h, A_h, n_h, c_h, B_h, m_h, d_h, rfl, h, hh⟩
       try replace X := X.below hh
       try replace o := o.below hh
       try replace m := m.below hh
       try replace t := t.below hh
       try replace f := f.below hh
       try replace XA := XA.below hh
       try replace Z := Z.below hh
       replace hb := bend hb hh)
    | (go_at_call 10; (with_reducible refine (rmul_q X o.qr (by omega) (by decide) (.inr (by decide)) hk1 (by decide)).mono ?_); rintro e w_m ⟨s_m, A_m, n_m, c_m, B_m, m_m, d_m, rfl, m, hh⟩
       try replace X := X.below hh
       try replace o := o.below hh
       try replace h := h.below hh
       try replace t := t.below hh
       try replace f := f.below hh
       try replace XA := XA.below hh
       try replace Z := Z.below hh
       replace hb := bend hb hh)
    | (go_at_call 26; (with_reducible refine (radd_q m.qr h.qr (by omega) (by decide) (.inr (by decide)) (by omega) (by decide)).mono ?_); rintro e w_t ⟨s_t, A_t, n_t, c_t, B_t, m_t, d_t, rfl, t, hh⟩
       try replace X := X.below hh
       try replace o := o.below hh
       try replace m := m.below hh
       try replace h := h.below hh
       try replace f := f.below hh
       try replace XA := XA.below hh
       try replace Z := Z.below hh
       replace hb := bend hb hh)
    | (go_at_call 37; (with_reducible refine (rfloor_q t.qr (by omega) (by omega)).mono ?_); rintro e w_f ⟨s_f, A_f, n_f, c_f, rfl, f, hh⟩
       try replace X := X.below hh
       try replace o := o.below hh
       try replace m := m.below hh
       try replace h := h.below hh
       try replace t := t.below hh
       try replace XA := XA.below hh
       try replace Z := Z.below hh
       replace hb := bend hb hh
       have z0 := Z.c0
       have z1 := Z.c1
       have z2 := Z.f0
       have z3 := Z.f1))
  go_wp2_with fail
  replace f : ZG w_f s_f A_f n_f c_f (toQ v u) (k + 4) := f
  have Z2 := Z.set2 (.bool s_f) (.slice A_f n_f c_f)
  have g0 := Z2.c0
  have g1 := Z2.c1
  refine bodyPost_ret (v := .agg #[.bool s_f, .slice A_f n_f c_f]) (by simp [results, Try.results19, go_sem, g0, g1]) rfl ?_
  exact ⟨s_f, A_f, n_f, c_f, rfl, f.set2x Z _ _, below_set2 hb (by omega) _ _⟩

def byteQ (v : Rat) : Int := if v ≤ 0 then 0 else if 1 ≤ v then 255 else toQ v 255
theorem sgn_le {v : Rat} : sgnQ v ≤ 0 ↔ v ≤ 0 := by
  have h := @sgnQ_pos v
  rw [← Rat.not_lt, ← h]; omega
theorem cmp_ge {v u : Rat} : 0 ≤ cmpQ v u ↔ u ≤ v := by
  rw [← cmpQ_le, cmpQ_swap u v]; omega
theorem one1 : Rat.divInt 1 1 = 1 := by decide +kernel
theorem to_mid {v : Rat} (h0 : 0 ≤ v) (h1 : v ≤ 1) : 0 ≤ toQ v 255 ∧ toQ v 255 ≤ 255 := by
  unfold toQ
  rw [int1]
  have h255 : ((255 : Int) : Rat) = 255 := rfl
  have hh : Rat.divInt 1 2 = 1 / 2 := by decide +kernel
  rw [h255, hh]
  constructor
  · refine Rat.le_floor_iff.2 ?_
    have : (0 : Rat) ≤ v * 255 := Rat.mul_nonneg h0 (by decide +kernel)
    have e : (((0 : Int)) : Rat) = 0 := rfl
    rw [e]; grind
  · have h2 : v * 255 + 1 / 2 < ((256 : Int) : Rat) := by
      have h3 : v * 255 ≤ 1 * 255 := Rat.mul_le_mul_of_nonneg_right h1 (by decide +kernel)
      have e : ((256 : Int) : Rat) = 256 := rfl
      rw [e]; grind
    have := Rat.floor_lt_iff.2 h2
    omega
set_option maxRecDepth 100000 in
set_option maxHeartbeats 4000000 in
theorem byte_lo {w : World} {s : Bool} {A A' : Option Addr} {n c n' c' k : Nat} {v : Rat} (X : QR w s A n c A' n' c' v k) (hk : k ≤ 300) (hk1 : 1 ≤ k) (hv : v ≤ 0) :
    Calls Try.prog 24 #[.agg #[.bool s, .slice A n c, .slice A' n' c']] w fun e w' => e = .returned (.int .u8 0) ∧ Below w.heap.size w w' := by
  obtain ⟨g, hg, hg0⟩ : ∃ g, sgnQ v = g ∧ g ≤ 0 := ⟨_, rfl, sgn_le.2 hv⟩
  have HG := Lib.hid hg
  clear hg hv
  go_enter Try.func24, Try.ntmps24
  go_wp2_with fail
  generalize hW : (w.alloc (Obj.cells #[Value.bool s, Value.slice A n c, Value.slice A' n' c'] 26)) = W
  have hb : Below w.heap.size w W := by subst hW; exact ((Below.refl _ _).alloc (Nat.le_refl _) _)
  have XA : B3 W (w.heap.size) (Value.bool s) (Value.slice A n c) (Value.slice A' n' c') := by subst hW; exact B3.new' _ _ _ _ _ rfl
  have hzW : W.heap.size = w.heap.size + 1 := by subst hW; simp
  clear hW
  replace X := X.below hb
  have xa0 := XA.c0
  have xa1 := XA.c1
  have xa2 := XA.c2
  go_wp2_with (first
      | (go_at_call 15; (with_reducible refine (rsign_q X (by omega) hk1).mono ?_); rintro e w_z ⟨rfl, hh⟩
         rw [HG.out]
         try replace X := X.below hh
         try replace o := o.below hh
         try replace f := f.below hh
         try replace XA := XA.below hh
         replace hb := bend hb hh
         have xa0 := XA.c0
         have xa1 := XA.c1
         have xa2 := XA.c2))
  go_ret
  exact ⟨rfl, hb⟩
set_option maxRecDepth 100000 in
set_option maxHeartbeats 4000000 in
theorem byte_hi {w : World} {s : Bool} {A A' : Option Addr} {n c n' c' k : Nat} {v : Rat} (X : QR w s A n c A' n' c' v k) (hk : k ≤ 300) (hk1 : 1 ≤ k) (hv : 0 < v) (h1 : 1 ≤ v) :
    Calls Try.prog 24 #[.agg #[.bool s, .slice A n c, .slice A' n' c']] w fun e w' => e = .returned (.int .u8 255) ∧ Below w.heap.size w w' := by
  obtain ⟨g, hg, hg0⟩ : ∃ g, sgnQ v = g ∧ ¬ g ≤ 0 := ⟨_, rfl, fun h => absurd (sgn_le.1 h) (Rat.not_le.2 hv)⟩
  have HG := Lib.hid hg
  clear hg hv
  obtain ⟨g2, hg2, hg20⟩ : ∃ g, cmpQ v 1 = g ∧ 0 ≤ g := ⟨_, rfl, cmp_ge.2 h1⟩
  have HC := Lib.hid hg2
  clear hg2 h1
  go_enter Try.func24, Try.ntmps24
  go_wp2_with fail
  generalize hW : (w.alloc (Obj.cells #[Value.bool s, Value.slice A n c, Value.slice A' n' c'] 26)) = W
  have hb : Below w.heap.size w W := by subst hW; exact ((Below.refl _ _).alloc (Nat.le_refl _) _)
  have XA : B3 W (w.heap.size) (Value.bool s) (Value.slice A n c) (Value.slice A' n' c') := by subst hW; exact B3.new' _ _ _ _ _ rfl
  have hzW : W.heap.size = w.heap.size + 1 := by subst hW; simp
  clear hW
  replace X := X.below hb
  have xa0 := XA.c0
  have xa1 := XA.c1
  have xa2 := XA.c2
  go_upto_region 3 with (first
      | (go_at_call 15; (with_reducible refine (rsign_q X (by omega) hk1).mono ?_); rintro e w_z ⟨rfl, hh⟩
         rw [HG.out]
         try replace X := X.below hh
         try replace o := o.below hh
         try replace f := f.below hh
         try replace XA := XA.below hh
         replace hb := bend hb hh
         have xa0 := XA.c0
         have xa1 := XA.c1
         have xa2 := XA.c2))
  replace X := X.below (Below.refl _ _).drew
  replace XA := XA.below (Below.refl _ _).drew
  replace hb := hb.drew
  go_region_held3 (fun w' => w'.cell? ⟨w.heap.size, 0, none⟩ = some (Value.bool s) ∧ w'.cell? ⟨w.heap.size, 1, none⟩ = some (Value.slice A n c) ∧ w'.cell? ⟨w.heap.size, 2, none⟩ = some (Value.slice A' n' c'))
    (first | with_reducible exact ⟨XA.c0, XA.c1, XA.c2⟩)
    (first
    | (go_at_call 16; (with_reducible refine (rof_q 1 1 (by decide) (by decide) (by decide) (by decide) (by decide) _).mono ?_); rintro e w_o ⟨s_o, A_o, n_o, c_o, B_o, m_o, d_o, rfl, o, hh⟩
       rw [one1] at o
       try replace X := X.below hh
       try replace f := f.below hh
       try replace XA := XA.below hh
       replace hb := bend hb hh)
    | (go_at_call 11; (with_reducible refine (rcmp_q X o.qr (by omega) (by decide) (.inr (by decide)) hk1 (by decide)).mono ?_); rintro e w_z ⟨rfl, hh⟩
       rw [HC.out]
       try replace X := X.below hh
       try replace o := o.below hh
       try replace f := f.below hh
       try replace XA := XA.below hh
       replace hb := bend hb hh))
  go_wp2_with fail
  go_ret
  exact ⟨rfl, hb⟩
set_option maxRecDepth 100000 in
set_option maxHeartbeats 4000000 in
theorem byte_mid {w : World} {s : Bool} {A A' : Option Addr} {n c n' c' k : Nat} {v : Rat} (X : QR w s A n c A' n' c' v k) (hk : k ≤ 300) (hk1 : 1 ≤ k) (hv : 0 < v) (h1 : ¬ 1 ≤ v) :
    Calls Try.prog 24 #[.agg #[.bool s, .slice A n c, .slice A' n' c']] w fun e w' => e = .returned (.int .u8 (toQ v 255)) ∧ Below w.heap.size w w' := by
  have hm := to_mid (Rat.le_of_lt hv) (Rat.le_of_lt (Rat.not_le.1 h1))
  obtain ⟨x, hx, hx0, hx1⟩ : ∃ x, toQ v 255 = x ∧ 0 ≤ x ∧ x ≤ 255 := ⟨_, rfl, hm.1, hm.2⟩
  have hfx : fitsB x = true := by unfold fitsB; simp; omega
  have HF := Lib.hid hfx
  have HX := Lib.hid hx
  rw [hx]
  clear hm hfx hx
  obtain ⟨g, hg, hg0⟩ : ∃ g, sgnQ v = g ∧ ¬ g ≤ 0 := ⟨_, rfl, fun h => absurd (sgn_le.1 h) (Rat.not_le.2 hv)⟩
  have HG := Lib.hid hg
  clear hg hv
  obtain ⟨g2, hg2, hg20⟩ : ∃ g, cmpQ v 1 = g ∧ ¬ 0 ≤ g := ⟨_, rfl, fun h => h1 (cmp_ge.1 h)⟩
  have HC := Lib.hid hg2
  clear hg2 h1
  go_enter Try.func24, Try.ntmps24
  go_wp2_with fail
  generalize hW : (w.alloc (Obj.cells #[Value.bool s, Value.slice A n c, Value.slice A' n' c'] 26)) = W
  have hb : Below w.heap.size w W := by subst hW; exact ((Below.refl _ _).alloc (Nat.le_refl _) _)
  have XA : B3 W (w.heap.size) (Value.bool s) (Value.slice A n c) (Value.slice A' n' c') := by subst hW; exact B3.new' _ _ _ _ _ rfl
  have hzW : W.heap.size = w.heap.size + 1 := by subst hW; simp
  clear hW
  replace X := X.below hb
  have xa0 := XA.c0
  have xa1 := XA.c1
  have xa2 := XA.c2
  go_upto_region 3 with (first
      | (go_at_call 15; (with_reducible refine (rsign_q X (by omega) hk1).mono ?_); rintro e w_z ⟨rfl, hh⟩
         rw [HG.out]
         try replace X := X.below hh
         try replace o := o.below hh
         try replace f := f.below hh
         try replace XA := XA.below hh
         replace hb := bend hb hh
         have xa0 := XA.c0
         have xa1 := XA.c1
         have xa2 := XA.c2))
  replace X := X.below (Below.refl _ _).drew
  replace XA := XA.below (Below.refl _ _).drew
  replace hb := hb.drew
  go_region_held3 (fun w' => w'.cell? ⟨w.heap.size, 0, none⟩ = some (Value.bool s) ∧ w'.cell? ⟨w.heap.size, 1, none⟩ = some (Value.slice A n c) ∧ w'.cell? ⟨w.heap.size, 2, none⟩ = some (Value.slice A' n' c'))
    (first | with_reducible exact ⟨XA.c0, XA.c1, XA.c2⟩)
    (first
    | (go_at_call 16; (with_reducible refine (rof_q 1 1 (by decide) (by decide) (by decide) (by decide) (by decide) _).mono ?_); rintro e w_o ⟨s_o, A_o, n_o, c_o, B_o, m_o, d_o, rfl, o, hh⟩
       rw [one1] at o
       try replace X := X.below hh
       try replace f := f.below hh
       try replace XA := XA.below hh
       replace hb := bend hb hh)
    | (go_at_call 11; (with_reducible refine (rcmp_q X o.qr (by omega) (by decide) (.inr (by decide)) hk1 (by decide)).mono ?_); rintro e w_z ⟨rfl, hh⟩
       rw [HC.out]
       try replace X := X.below hh
       try replace o := o.below hh
       try replace f := f.below hh
       try replace XA := XA.below hh
       replace hb := bend hb hh))
  have xa0 := XA.c0
  have xa1 := XA.c1
  have xa2 := XA.c2
  go_wp2_with (first
      | (go_at_call 19; (with_reducible refine (to_q 255 X hk hk1 (by decide) (by decide)).mono ?_); rintro e w_f ⟨s_f, A_f, n_f, c_f, rfl, f, hh⟩
         rw [HX.out] at f
         try replace X := X.below hh
         try replace o := o.below hh
         try replace XA := XA.below hh
         replace hb := bend hb hh)
      | (go_at_call 18; (with_reducible refine (small_zr f.zr (by omega) HF.out).mono ?_); rintro e w_z ⟨rfl, hh⟩
         try replace X := X.below hh
         try replace o := o.below hh
         try replace f := f.below hh
         try replace XA := XA.below hh
         replace hb := bend hb hh))
  go_ret
  exact ⟨rfl, hb⟩
theorem byte_q {w : World} {s : Bool} {A A' : Option Addr} {n c n' c' k : Nat} {v : Rat} (X : QR w s A n c A' n' c' v k) (hk : k ≤ 300) (hk1 : 1 ≤ k) :
    Calls Try.prog 24 #[.agg #[.bool s, .slice A n c, .slice A' n' c']] w fun e w' => e = .returned (.int .u8 (byteQ v)) ∧ Below w.heap.size w w' := by
  by_cases h0 : v ≤ 0
  · rw [show byteQ v = 0 from if_pos h0]; exact byte_lo X hk hk1 h0
  · by_cases h1 : 1 ≤ v
    · rw [show byteQ v = 255 by unfold byteQ; rw [if_neg h0, if_pos h1]]; exact byte_hi X hk hk1 (Rat.not_le.1 h0) h1
    · rw [show byteQ v = toQ v 255 by unfold byteQ; rw [if_neg h0, if_neg h1]]; exact byte_mid X hk hk1 (Rat.not_le.1 h0) h1
end Go.Proofs.Ytmcijgnbdnpanaa
