/- gessolaw03.wakes. -/
import Derived.Test.YtmcijgnbdnpanaaGreatRatW
namespace Go.Proofs.YtmcijgnbdnpanaaGreat
open Go Go.RowKit

theorem QR.more {w : World} {s : Bool} {A A' : Option Addr} {n c n' c' k k1 : Nat} {v : Rat} (h : QR w s A n c A' n' c' v k) (hk : k ≤ k1) : QR w s A n c A' n' c' v k1 := by
  obtain ⟨p, q, h1, h2, h3⟩ := h
  exact ⟨p, q, h1.more hk, h2.more hk, h3⟩
theorem lit_txt {V d : Nat} (h : 0 < d) (h2 : d < 10) (hV : V = d) : txt V = [UInt8.ofNat (48 + d)] := z_lit h h2 hV
theorem q_txt {v : Rat} {a b : Nat} (hn : v.num = -(a : Int)) (hd : v.den = b) (ha : 0 < a) (ha2 : a < 10) (hb : 1 < b) (hb2 : b < 10) : qtxt v = [45, UInt8.ofNat (48 + a), 47, UInt8.ofNat (48 + b)] := by
  unfold qtxt
  rw [if_neg (by omega), hn, hd]
  unfold ztxt
  rw [if_pos (by omega), show (-(a : Int)).natAbs = a by omega, lit_txt ha ha2 rfl, lit_txt (by omega) hb2 rfl]
  rfl
theorem q_a : (⟨(qtxt (Rat.divInt 6 (-4))).toArray⟩ : ByteArray) = ⟨#[45, 51, 47, 50]⟩ := by
  rw [q_txt (a := 3) (b := 2) (by decide +kernel) (by decide +kernel) (by decide) (by decide) (by decide) (by decide)]; rfl
theorem q_d : (⟨(qtxt ((Rat.divInt 6 (-4)) / (Rat.divInt 1 3))).toArray⟩ : ByteArray) = ⟨#[45, 57, 47, 50]⟩ := by
  rw [q_txt (a := 9) (b := 2) (by decide +kernel) (by decide +kernel) (by decide) (by decide) (by decide) (by decide)]; rfl
theorem q_f : (⟨(ztxt (Rat.divInt 6 (-4)).floor).toArray⟩ : ByteArray) = ⟨#[45, 50]⟩ := by
  rw [show (Rat.divInt 6 (-4)).floor = -2 by decide +kernel, ztxt, if_pos (by omega), show ((-2 : Int).natAbs) = 2 from rfl, z_lit (d := 2) (by omega) (by omega) rfl]; rfl
theorem q_s : cmpQ ((Rat.divInt 6 (-4)) + (Rat.divInt 1 3)) (mkRat (-7) 6) = 0 := cmpQ_eq (by decide +kernel)
theorem lit_dec : dec [54] = 6 := by
  have h := (txt_dec 6).1
  rw [lit_txt (d := 6) (by omega) (by omega) rfl] at h
  exact h
theorem parse_lit (w : World) : Calls Tryz.prog 46 #[.string ⟨#[45, 55, 47, 54]⟩] w (GivesQE w (mkRat (-7) 6) 1) := by
  have e1 : (⟨#[45, 55, 47, 54]⟩ : ByteArray).extract 0 2 = ⟨(ztxt (-7)).toArray⟩ := by
    rw [ztxt, if_pos (by omega), show ((-7 : Int).natAbs) = 7 from rfl, z_lit (d := 7) (by omega) (by omega) rfl]; rfl
  have e2 : (⟨#[45, 55, 47, 54]⟩ : ByteArray).extract (2 + 1) (⟨#[45, 55, 47, 54]⟩ : ByteArray).size = ⟨(txt 6).toArray⟩ := by
    rw [lit_txt (d := 6) (by omega) (by omega) rfl]; rfl
  have e3 := ztxt_num (-7)
  have e4 : txt 6 = [54] := lit_txt (by omega) (by omega) rfl
  have e5 : ztxt (-7) = [45, 55] := by rw [ztxt, if_pos (by omega), show ((-7 : Int).natAbs) = 7 from rfl, z_lit (d := 7) (by omega) (by omega) rfl]; rfl
  refine rparse_hit _ 2 1 w (by decide) (by decide +kernel) (by decide) ?_ ?_ (-7) ?_ ?_ 6 ?_ ?_ (by decide) (by decide) ?_ ?_ (by decide)
  · rw [e1]; simpa using e3.1
  · rw [e2, e4]; decide +kernel
  · rw [e1]; simpa using e3.2
  · rw [Nat.pow_one]; unfold B64; decide
  · rw [e2, e4]; exact lit_dec
  · rw [Nat.pow_one]; unfold B64; decide
  · rw [e1, e5]; decide
  · rw [e2, e4]; decide

set_option maxRecDepth 100000 in
set_option maxHeartbeats 4000000 in
theorem qwakes_any (w : World) : Calls Tryz.prog 11 #[] w fun e w' => e = .returned (.bool true) ∧ Below w.heap.size w w' := by
  have hb : Below w.heap.size w w := Below.refl _ _
  go_enter Tryz.func11, Tryz.ntmps11
  go_upto_region 2 with (first
      | (go_at_call 44; (with_reducible refine (rof_q 6 (-4) (by decide) (by decide) (by decide) (by decide) (by decide) _).mono ?_); rintro e w_a ⟨s_a, A_a, n_a, c_a, B_a, m_a, d_a, rfl, a, hh⟩
         try replace b := b.below hh
         try replace dd := dd.below hh
         try replace pp := pp.below hh
         try replace sm := sm.below hh
         try replace fl := fl.below hh
         try replace XA := XA.below hh
         try replace XB := XB.below hh
         try replace XD := XD.below hh
         try replace XP := XP.below hh
         replace hb := bend hb hh)
      | (go_at_call 44; (with_reducible refine (rof_q 1 3 (by decide) (by decide) (by decide) (by decide) (by decide) _).mono ?_); rintro e w_b ⟨s_b, A_b, n_b, c_b, B_b, m_b, d_b, rfl, b, hh⟩
         try replace a := a.below hh
         try replace dd := dd.below hh
         try replace pp := pp.below hh
         try replace sm := sm.below hh
         try replace fl := fl.below hh
         try replace XA := XA.below hh
         try replace XB := XB.below hh
         try replace XD := XD.below hh
         try replace XP := XP.below hh
         replace hb := bend hb hh))
  generalize hW : ((w_b.alloc (Obj.cells #[Value.bool s_a, Value.slice A_a n_a c_a, Value.slice B_a m_a d_a] 26)).alloc (Obj.cells #[Value.bool s_b, Value.slice A_b n_b c_b, Value.slice B_b m_b d_b] 26)) = W1
  have hh : Below w_b.heap.size w_b W1 := by subst hW; exact (((Below.refl _ _).alloc (Nat.le_refl _) _).alloc (by simp) _)
  have XA : B3 W1 (w_b.heap.size) (Value.bool s_a) (Value.slice A_a n_a c_a) (Value.slice B_a m_a d_a) := by subst hW; exact (B3.new' _ _ _ _ _ rfl).alloc _
  have XB : B3 W1 (w_b.heap.size + 1) (Value.bool s_b) (Value.slice A_b n_b c_b) (Value.slice B_b m_b d_b) := by subst hW; exact B3.new' _ _ _ _ _ (by simp)
  have hzW1 : W1.heap.size = w_b.heap.size + 2 := by subst hW; simp
  clear hW
  try replace a := a.below hh
  try replace b := b.below hh
  replace hb := bend hb hh
  have xa0 := XA.c0
  have xa1 := XA.c1
  have xa2 := XA.c2
  have xb0 := XB.c0
  have xb1 := XB.c1
  have xb2 := XB.c2
  go_upto_region 3 with (first
      | (go_at_call 14; (with_reducible refine (rdiv_q a.qr b.qr (by decide) (by decide) (by decide) (by decide) (by decide) (by decide +kernel)).mono ?_); rintro e w_dd ⟨s_dd, A_dd, n_dd, c_dd, B_dd, m_dd, d_dd, rfl, dd, hh⟩
         try replace a := a.below hh
         try replace b := b.below hh
         try replace pp := pp.below hh
         try replace sm := sm.below hh
         try replace fl := fl.below hh
         try replace XA := XA.below hh
         try replace XB := XB.below hh
         try replace XD := XD.below hh
         try replace XP := XP.below hh
         replace hb := bend hb hh))
  generalize hW : (w_dd.alloc (Obj.cells #[Value.bool s_dd, Value.slice A_dd n_dd c_dd, Value.slice B_dd m_dd d_dd] 26)) = W2
  have hh : Below w_dd.heap.size w_dd W2 := by subst hW; exact ((Below.refl _ _).alloc (Nat.le_refl _) _)
  have XD : B3 W2 (w_dd.heap.size) (Value.bool s_dd) (Value.slice A_dd n_dd c_dd) (Value.slice B_dd m_dd d_dd) := by subst hW; exact B3.new' _ _ _ _ _ rfl
  have hzW2 : W2.heap.size = w_dd.heap.size + 1 := by subst hW; simp
  clear hW
  try replace a := a.below hh
  try replace b := b.below hh
  try replace dd := dd.below hh
  try replace XA := XA.below hh
  try replace XB := XB.below hh
  replace hb := bend hb hh
  refine wk_region (by simp) rfl XA a.qr ?_
  intro V w_x hv1 hh
  simp only [putAll, Act.put, List.setIfInBounds_toArray, List.set_cons_zero, List.set_cons_succ, hv1]
  clear hv1
  replace a := a.below hh
  replace b := b.below hh
  replace dd := dd.below hh
  replace XA := XA.below hh
  replace XB := XB.below hh
  replace XD := XD.below hh
  replace hb := bend hb hh
  go_upto_region 5 with (first
      | (go_at_call 46; (with_reducible refine (parse_lit _).mono ?_); rintro e w_pp ⟨s_pp, A_pp, n_pp, c_pp, B_pp, m_pp, d_pp, rfl, pp, hh⟩
         try replace a := a.below hh
         try replace b := b.below hh
         try replace dd := dd.below hh
         try replace sm := sm.below hh
         try replace fl := fl.below hh
         try replace XA := XA.below hh
         try replace XB := XB.below hh
         try replace XD := XD.below hh
         try replace XP := XP.below hh
         replace hb := bend hb hh))
  generalize hW : (w_pp.alloc (Obj.cells #[Value.bool s_pp, Value.slice A_pp n_pp c_pp, Value.slice B_pp m_pp d_pp] 26)) = W3
  have hh : Below w_pp.heap.size w_pp W3 := by subst hW; exact ((Below.refl _ _).alloc (Nat.le_refl _) _)
  have XP : B3 W3 (w_pp.heap.size) (Value.bool s_pp) (Value.slice A_pp n_pp c_pp) (Value.slice B_pp m_pp d_pp) := by subst hW; exact B3.new' _ _ _ _ _ rfl
  have hzW3 : W3.heap.size = w_pp.heap.size + 1 := by subst hW; simp
  clear hW
  try replace a := a.below hh
  try replace b := b.below hh
  try replace dd := dd.below hh
  try replace pp := pp.below hh
  try replace XA := XA.below hh
  try replace XB := XB.below hh
  try replace XD := XD.below hh
  replace hb := bend hb hh
  replace a := a.below (Below.refl _ _).drew
  replace b := b.below (Below.refl _ _).drew
  replace dd := dd.below (Below.refl _ _).drew
  replace pp := pp.below (Below.refl _ _).drew
  replace XA := XA.below (Below.refl _ _).drew
  replace XB := XB.below (Below.refl _ _).drew
  replace XD := XD.below (Below.refl _ _).drew
  replace XP := XP.below (Below.refl _ _).drew
  have aq := a.qr
  have bq := b.qr
  have dq := dd.qr
  have pq := pp.qr
  replace hb := hb.drew
  go_region_held3 (fun w' => w'.cell? ⟨w_b.heap.size, 0, none⟩ = some (.bool s_a) ∧ w'.cell? ⟨w_b.heap.size, 1, none⟩ = some (.slice A_a n_a c_a) ∧ w'.cell? ⟨w_b.heap.size, 2, none⟩ = some (.slice B_a m_a d_a) ∧ w'.cell? ⟨w_b.heap.size + 1, 0, none⟩ = some (.bool s_b) ∧ w'.cell? ⟨w_b.heap.size + 1, 1, none⟩ = some (.slice A_b n_b c_b) ∧ w'.cell? ⟨w_b.heap.size + 1, 2, none⟩ = some (.slice B_b m_b d_b) ∧ w'.cell? ⟨w_dd.heap.size, 0, none⟩ = some (.bool s_dd) ∧ w'.cell? ⟨w_dd.heap.size, 1, none⟩ = some (.slice A_dd n_dd c_dd) ∧ w'.cell? ⟨w_dd.heap.size, 2, none⟩ = some (.slice B_dd m_dd d_dd) ∧ w'.cell? ⟨w_pp.heap.size, 0, none⟩ = some (.bool s_pp) ∧ w'.cell? ⟨w_pp.heap.size, 1, none⟩ = some (.slice A_pp n_pp c_pp) ∧ w'.cell? ⟨w_pp.heap.size, 2, none⟩ = some (.slice B_pp m_pp d_pp))
    (first | with_reducible exact ⟨XA.c0, XA.c1, XA.c2, XB.c0, XB.c1, XB.c2, XD.c0, XD.c1, XD.c2, XP.c0, XP.c1, XP.c2⟩)
    (first
    | (go_at_call 48; (with_reducible refine (rtext_q aq (by decide) (by decide)).mono ?_); rintro e w_z ⟨rfl, hh⟩
       rw [q_a]
       try replace a := a.below hh
       try replace aq := aq.below hh
       try replace bq := bq.below hh
       try replace dq := dq.below hh
       try replace pq := pq.below hh
       try replace sm := sm.below hh
       try replace fl := fl.below hh
       try replace XA := XA.below hh
       try replace XB := XB.below hh
       try replace XD := XD.below hh
       try replace XP := XP.below hh
       replace hb := bend hb hh)
    | (go_at_call 48; (with_reducible refine (rtext_q dq (by decide) (by decide)).mono ?_); rintro e w_z ⟨rfl, hh⟩
       rw [q_d]
       try replace a := a.below hh
       try replace aq := aq.below hh
       try replace bq := bq.below hh
       try replace dq := dq.below hh
       try replace pq := pq.below hh
       try replace sm := sm.below hh
       try replace fl := fl.below hh
       try replace XA := XA.below hh
       try replace XB := XB.below hh
       try replace XD := XD.below hh
       try replace XP := XP.below hh
       replace hb := bend hb hh)
    | (go_at_call 18; (with_reducible refine (radd_q aq bq (by decide) (by decide) (by decide) (by decide) (by decide)).mono ?_); rintro e w_sm ⟨s_sm, A_sm, n_sm, c_sm, B_sm, m_sm, d_sm, rfl, sm, hh⟩
       try replace a := a.below hh
       try replace aq := aq.below hh
       try replace bq := bq.below hh
       try replace dq := dq.below hh
       try replace pq := pq.below hh
       try replace fl := fl.below hh
       try replace XA := XA.below hh
       try replace XB := XB.below hh
       try replace XD := XD.below hh
       try replace XP := XP.below hh
       replace hb := bend hb hh)
    | (go_at_call 24; (with_reducible refine (rcmp_q sm.qr pq (by decide) (by decide) (by decide) (by decide) (by decide)).mono ?_); rintro e w_z ⟨rfl, hh⟩
       rw [q_s]
       try replace a := a.below hh
       try replace aq := aq.below hh
       try replace bq := bq.below hh
       try replace dq := dq.below hh
       try replace pq := pq.below hh
       try replace sm := sm.below hh
       try replace fl := fl.below hh
       try replace XA := XA.below hh
       try replace XB := XB.below hh
       try replace XD := XD.below hh
       try replace XP := XP.below hh
       replace hb := bend hb hh)
    | (go_at_call 39; (with_reducible refine (rfloor_q aq (by decide) (by decide)).mono ?_); rintro e w_fl ⟨s_fl, A_fl, n_fl, c_fl, rfl, fl, hh⟩
       try replace a := a.below hh
       try replace aq := aq.below hh
       try replace bq := bq.below hh
       try replace dq := dq.below hh
       try replace pq := pq.below hh
       try replace sm := sm.below hh
       try replace XA := XA.below hh
       try replace XB := XB.below hh
       try replace XD := XD.below hh
       try replace XP := XP.below hh
       replace hb := bend hb hh)
    | (go_at_call 69; (with_reducible refine (ztext_zr fl.zr (by decide)).mono ?_); rintro e w_z ⟨rfl, hh⟩
       rw [q_f]
       try replace a := a.below hh
       try replace aq := aq.below hh
       try replace bq := bq.below hh
       try replace dq := dq.below hh
       try replace pq := pq.below hh
       try replace sm := sm.below hh
       try replace fl := fl.below hh
       try replace XA := XA.below hh
       try replace XB := XB.below hh
       try replace XD := XD.below hh
       try replace XP := XP.below hh
       replace hb := bend hb hh)
    | (go_at_call 31; (with_reducible refine (rgood_q a (by decide)).mono ?_); rintro e w_z ⟨rfl, hh⟩
       try replace a := a.below hh
       try replace aq := aq.below hh
       try replace bq := bq.below hh
       try replace dq := dq.below hh
       try replace pq := pq.below hh
       try replace sm := sm.below hh
       try replace fl := fl.below hh
       try replace XA := XA.below hh
       try replace XB := XB.below hh
       try replace XD := XD.below hh
       try replace XP := XP.below hh
       replace hb := bend hb hh))
  go_wp2_with fail
  go_ret
  exact ⟨rfl, hb⟩
end Go.Proofs.YtmcijgnbdnpanaaGreat
