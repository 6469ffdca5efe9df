/- gessolaw05.wakes; the mathematics of numbers of parts. -/
import Derived.Test.YtmcijgnbdnpanaaFixB
import Derived.Test.YtmcijgnbdnpanaaTxtQ
namespace Go.Proofs.Ytmcijgnbdnpanaa
open Go Go.RowKit

theorem qt32 : (⟨(qtxt (Rat.divInt 96 64)).toArray⟩ : ByteArray) = ⟨#[51, 47, 50]⟩ := by
  rw [qtxt_f (a := 3) (b := 2) (by decide +kernel) (by decide +kernel) (by decide) (txt_one (d := 3) (by decide) (by decide) rfl) (txt_one (d := 2) (by decide) (by decide) rfl)]; rfl
theorem zt96 : (⟨(ztxt (toQ (Rat.divInt 3 2) 64)).toArray⟩ : ByteArray) = ⟨#[57, 54]⟩ := by
  rw [show toQ (Rat.divInt 3 2) 64 = 96 by decide +kernel]
  unfold ztxt
  rw [if_neg (by omega), show ((96 : Int)).natAbs = 96 from rfl, txt_two (a := 9) (b := 6) (by decide) (by decide) (by decide) rfl]; rfl
theorem toQ_eq (v : Rat) (u : Int) : toQ v u = (v * (u : Rat) + 1 / 2).floor := by
  unfold toQ
  rw [int1, show Rat.divInt 1 2 = 1 / 2 by decide +kernel]
theorem half_floor (n : Int) : ((n : Rat) + 1 / 2).floor = n := by
  have h1 : n ≤ ((n : Rat) + 1 / 2).floor := Rat.le_floor_iff.2 (by grind)
  have h2 : ((n : Rat) + 1 / 2).floor < n + 1 := Rat.floor_lt_iff.2 (by rw [Rat.intCast_add]; have : ((1 : Int) : Rat) = 1 := rfl; rw [this]; grind)
  omega
theorem div_mul {v u : Int} (hu : 1 ≤ u) : Rat.divInt v u * (u : Rat) = (v : Rat) := by
  have h : u ≠ 0 := by omega
  rw [← int1 u, ← int1 v, Rat.divInt_mul_divInt, Int.mul_one, Rat.divInt_eq_divInt_iff h (by decide)]
  simp
theorem to_from {v u : Int} (hu : 1 ≤ u) : toQ (Rat.divInt v u) u = v := by rw [toQ_eq, div_mul hu, half_floor]
/-- So many parts more are so many more. -/
theorem to_more (a : Rat) {n u : Int} (hu : 1 ≤ u) : toQ (a + Rat.divInt n u) u = toQ a u + n := by
  rw [toQ_eq, toQ_eq, Rat.add_mul, div_mul hu, show a * (u : Rat) + (n : Rat) + 1 / 2 = (a * (u : Rat) + 1 / 2) + (n : Rat) by grind]
  exact Rat.floor_add_intCast
theorem to_mono {a b : Rat} {u : Int} (hu : 1 ≤ u) (h : a ≤ b) : toQ a u ≤ toQ b u := by
  rw [toQ_eq, toQ_eq]
  refine Rat.floor_monotone ?_
  have h0 : (0 : Rat) ≤ (u : Rat) := by have : ((0 : Int) : Rat) ≤ (u : Rat) := Rat.intCast_le_intCast.2 (by omega); exact this
  have := Rat.mul_le_mul_of_nonneg_right h h0
  exact Rat.add_le_add_right.2 this
/-- No more than half a part away. -/
theorem to_near (a : Rat) {u : Int} (hu : 1 ≤ u) : (Rat.divInt (toQ a u) u - a) * Rat.divInt (2 * u) 1 ≤ 1 ∧ -1 ≤ (Rat.divInt (toQ a u) u - a) * Rat.divInt (2 * u) 1 := by
  have e : (Rat.divInt (toQ a u) u - a) * Rat.divInt (2 * u) 1 = 2 * ((toQ a u : Int) : Rat) - 2 * (a * (u : Rat)) := by
    have h := div_mul (v := toQ a u) hu
    rw [int1, Rat.intCast_mul, ← h, show ((2 : Int) : Rat) = 2 from rfl]
    grind
  rw [e, toQ_eq]
  have h1 := Rat.floor_le (a * (u : Rat) + 1 / 2)
  have h2 := Rat.lt_floor_add_one (a * (u : Rat) + 1 / 2)
  rw [Rat.intCast_add, show ((1 : Int) : Rat) = 1 from rfl] at h2
  generalize (((a * (u : Rat) + 1 / 2).floor : Int) : Rat) = g at *
  generalize a * (u : Rat) = x at *
  constructor <;> grind
theorem byte_back {b : Int} (h0 : 0 ≤ b) (h1 : b ≤ 255) : byteQ (Rat.divInt b 255) = b := by
  have e : Rat.divInt b 255 * ((255 : Int) : Rat) = (b : Rat) := div_mul (by decide)
  have e255 : ((255 : Int) : Rat) = 255 := rfl
  rw [e255] at e
  have hb0 : (0 : Rat) ≤ (b : Rat) := by have : ((0 : Int) : Rat) ≤ (b : Rat) := Rat.intCast_le_intCast.2 h0; exact this
  have hb1 : (b : Rat) ≤ 255 := by have : (b : Rat) ≤ ((255 : Int) : Rat) := Rat.intCast_le_intCast.2 h1; exact this
  unfold byteQ
  split
  · rename_i h
    have h2 : Rat.divInt b 255 * 255 ≤ 0 * 255 := Rat.mul_le_mul_of_nonneg_right h (by decide +kernel)
    rw [e] at h2
    have h3 : (b : Rat) ≤ ((0 : Int) : Rat) := by have e0 : ((0 : Int) : Rat) = 0 := rfl; rw [e0]; grind
    have := Rat.intCast_le_intCast.1 h3
    omega
  · split
    · rename_i h
      have h2 : 1 * 255 ≤ Rat.divInt b 255 * 255 := Rat.mul_le_mul_of_nonneg_right h (by decide +kernel)
      rw [e] at h2
      have h3 : ((255 : Int) : Rat) ≤ (b : Rat) := by rw [e255]; grind
      have := Rat.intCast_le_intCast.1 h3
      omega
    · exact to_from (by decide)
theorem byte_mono {a b : Rat} (h : a ≤ b) : byteQ a ≤ byteQ b := by
  unfold byteQ
  by_cases ha : a ≤ 0
  · rw [if_pos ha]
    split
    · exact Int.le_refl _
    · rename_i hb
      split
      · decide
      · rename_i hb1
        exact (to_mid (Rat.le_of_lt (Rat.not_le.1 hb)) (Rat.le_of_lt (Rat.not_le.1 hb1))).1
  · have hb : ¬ b ≤ 0 := fun q => ha (Rat.le_trans h q)
    rw [if_neg ha, if_neg hb]
    by_cases hb1 : 1 ≤ b
    · rw [if_pos hb1]
      split
      · exact Int.le_refl _
      · rename_i ha1
        exact (to_mid (Rat.le_of_lt (Rat.not_le.1 ha)) (Rat.le_of_lt (Rat.not_le.1 ha1))).2
    · have ha1 : ¬ 1 ≤ a := fun q => hb1 (Rat.le_trans q h)
      rw [if_neg ha1, if_neg hb1]
      exact to_mono (by decide) h
theorem byteQ_range (v : Rat) : 0 ≤ byteQ v ∧ byteQ v ≤ 255 := by
  unfold byteQ
  split
  · decide
  · rename_i h
    split
    · decide
    · rename_i h1
      exact to_mid (Rat.le_of_lt (Rat.not_le.1 h)) (Rat.le_of_lt (Rat.not_le.1 h1))
set_option maxRecDepth 100000 in
set_option maxHeartbeats 4000000 in
theorem fwakes_any (w : World) : Calls Try.prog 17 #[] w fun e w' => e = .returned (.bool true) ∧ Below w.heap.size w w' := by
  have hb : Below w.heap.size w w := Below.refl _ _
  go_enter Try.func17, Try.ntmps17
  go_wp2_with (first
      | (go_at_call 20; (with_reducible refine (from_q 96 64 (by decide) (by decide) (by decide) (by decide) _).mono ?_); rintro e w_f ⟨s_f, A_f, n_f, c_f, B_f, m_f, d_f, rfl, f, hh⟩
         try replace o := o.below hh
         try replace t := t.below hh
         try replace p := p.below hh
         try replace q := q.below hh
         try replace r := r.below hh
         replace hb := bend hb hh)
      | (go_at_call 28; (with_reducible refine (rtext_q f.qr (by decide) (by decide)).mono ?_); rintro e w_z ⟨rfl, hh⟩
         rw [qt32]
         try replace f := f.below hh
         try replace o := o.below hh
         try replace t := t.below hh
         try replace p := p.below hh
         try replace q := q.below hh
         try replace r := r.below hh
         replace hb := bend hb hh)
      | (go_at_call 16; (with_reducible refine (rof_q 3 2 (by decide) (by decide) (by decide) (by decide) (by decide) _).mono ?_); rintro e w_o ⟨s_o, A_o, n_o, c_o, B_o, m_o, d_o, rfl, o, hh⟩
         try replace f := f.below hh
         try replace t := t.below hh
         try replace p := p.below hh
         try replace q := q.below hh
         try replace r := r.below hh
         replace hb := bend hb hh)
      | (go_at_call 19; (with_reducible refine (to_q 64 o.qr (by decide) (by decide) (by decide) (by decide)).mono ?_); rintro e w_t ⟨s_t, A_t, n_t, c_t, rfl, t, hh⟩
         try replace f := f.below hh
         try replace o := o.below hh
         try replace p := p.below hh
         try replace q := q.below hh
         try replace r := r.below hh
         replace hb := bend hb hh)
      | (go_at_call 43; (with_reducible refine (ztext_zr t.zr (by decide)).mono ?_); rintro e w_z ⟨rfl, hh⟩
         rw [zt96]
         try replace f := f.below hh
         try replace o := o.below hh
         try replace t := t.below hh
         try replace p := p.below hh
         try replace q := q.below hh
         try replace r := r.below hh
         replace hb := bend hb hh)
      | (go_at_call 16; (with_reducible refine (rof_q 1 2 (by decide) (by decide) (by decide) (by decide) (by decide) _).mono ?_); rintro e w_p ⟨s_p, A_p, n_p, c_p, B_p, m_p, d_p, rfl, p, hh⟩
         try replace f := f.below hh
         try replace o := o.below hh
         try replace t := t.below hh
         try replace q := q.below hh
         try replace r := r.below hh
         replace hb := bend hb hh)
      | (go_at_call 24; (with_reducible refine (byte_q p.qr (by decide) (by decide)).mono ?_); rintro e w_z ⟨rfl, hh⟩
         rw [show byteQ (Rat.divInt 1 2) = 128 by decide +kernel]
         try replace f := f.below hh
         try replace o := o.below hh
         try replace t := t.below hh
         try replace p := p.below hh
         try replace q := q.below hh
         try replace r := r.below hh
         replace hb := bend hb hh)
      | (go_at_call 16; (with_reducible refine (rof_q (-1) 2 (by decide) (by decide) (by decide) (by decide) (by decide) _).mono ?_); rintro e w_q ⟨s_q, A_q, n_q, c_q, B_q, m_q, d_q, rfl, q, hh⟩
         try replace f := f.below hh
         try replace o := o.below hh
         try replace t := t.below hh
         try replace p := p.below hh
         try replace r := r.below hh
         replace hb := bend hb hh)
      | (go_at_call 24; (with_reducible refine (byte_q q.qr (by decide) (by decide)).mono ?_); rintro e w_z ⟨rfl, hh⟩
         rw [show byteQ (Rat.divInt (-1) 2) = 0 by decide +kernel]
         try replace f := f.below hh
         try replace o := o.below hh
         try replace t := t.below hh
         try replace p := p.below hh
         try replace q := q.below hh
         try replace r := r.below hh
         replace hb := bend hb hh)
      | (go_at_call 16; (with_reducible refine (rof_q 7 2 (by decide) (by decide) (by decide) (by decide) (by decide) _).mono ?_); rintro e w_r ⟨s_r, A_r, n_r, c_r, B_r, m_r, d_r, rfl, r, hh⟩
         try replace f := f.below hh
         try replace o := o.below hh
         try replace t := t.below hh
         try replace p := p.below hh
         try replace q := q.below hh
         replace hb := bend hb hh)
      | (go_at_call 24; (with_reducible refine (byte_q r.qr (by decide) (by decide)).mono ?_); rintro e w_z ⟨rfl, hh⟩
         rw [show byteQ (Rat.divInt 7 2) = 255 by decide +kernel]
         try replace f := f.below hh
         try replace o := o.below hh
         try replace t := t.below hh
         try replace p := p.below hh
         try replace q := q.below hh
         try replace r := r.below hh
         replace hb := bend hb hh))
  go_ret
  exact ⟨rfl, hb⟩
end Go.Proofs.Ytmcijgnbdnpanaa
