/- The law RatOrder: the order is total, goes with sums, and with products by what is above 0; a fraction lies between the whole numbers next to it, which differ by one at most. -/
import Derived.Test.YtehkgiiiobnkdaaGreatRatY
import Derived.Test.YtehkgiiiobnkdaaGreatRatN
import Derived.Test.YtehkgiiiobnkdaaGreatRatI
namespace Go.Proofs.YtehkgiiiobnkdaaGreat
open Go Go.RowKit

set_option maxRecDepth 100000 in
set_option maxHeartbeats 8000000 in
theorem order_small {w : World} {s1 s2 s3 : Bool} {A1 B1 A2 B2 A3 E3 : Option Addr} {n1 c1 m1 d1 n2 c2 m2 d2 n3 c3 m3 d3 : Nat} {va vb vc : Rat} (a : QR w s1 A1 n1 c1 B1 m1 d1 va 12) (b : QR w s2 A2 n2 c2 B2 m2 d2 vb 12) (cc : QR w s3 A3 n3 c3 E3 m3 d3 vc 12) (h1 : n1 ≤ 12 ∧ m1 ≤ 12) (h2 : n2 ≤ 12 ∧ m2 ≤ 12) (h3 : n3 ≤ 12 ∧ m3 ≤ 12) :
    Calls Tryz.prog 7 #[.agg #[.bool s1, .slice A1 n1 c1, .slice B1 m1 d1], .agg #[.bool s2, .slice A2 n2 c2, .slice B2 m2 d2], .agg #[.bool s3, .slice A3 n3 c3, .slice E3 m3 d3]] w fun e w' => e = .returned (.bool true) ∧ Below w.heap.size w w' := by
  have H1 : Hid (n1 ≤ 12 ∧ m1 ≤ 12) := h1
  have H2 : Hid (n2 ≤ 12 ∧ m2 ≤ 12) := h2
  have H3 : Hid (n3 ≤ 12 ∧ m3 ≤ 12) := h3
  clear h1 h2 h3
  obtain ⟨K, hK⟩ : ∃ K, cmpQ va vb = K := ⟨_, rfl⟩
  obtain ⟨K2, hK2⟩ : ∃ K2, cmpQ vb va = K2 := ⟨_, rfl⟩
  obtain ⟨M, hM⟩ : ∃ M, cmpQ vb vc = M := ⟨_, rfl⟩
  obtain ⟨P, hP⟩ : ∃ P, cmpQ va vc = P := ⟨_, rfl⟩
  have hKb := cmpQ_abs va vb
  rw [hK] at hKb
  have hKK : IntKind.i64.wrap (-K2) = K := by rw [← hK2, cmpQ_swap va vb, hK]; exact wrap_neg hKb.1 hKb.2
  have htr : 0 < K ∨ (K ≤ 0 ∧ 0 < M) ∨ (K ≤ 0 ∧ M ≤ 0 ∧ P ≤ 0) := by
    by_cases h1 : K ≤ 0
    · by_cases h2 : M ≤ 0
      · refine .inr (.inr ⟨h1, h2, ?_⟩)
        rw [← hK, cmpQ_le] at h1
        rw [← hM, cmpQ_le] at h2
        rw [← hP, cmpQ_le]
        exact Rat.le_trans h1 h2
      · exact .inr (.inl ⟨h1, by omega⟩)
    · exact .inl (by omega)
  have HTR := Lib.hid htr
  have HKA : Hid (cmpQ (va + vc) (vb + vc) = K) := by show _ = _; rw [cmpQ_add, hK]
  have HKM0 : Hid (0 < vc → cmpQ (va * vc) (vb * vc) = K) := by show _ → _; intro h; rw [cmpQ_mul _ _ h, hK]
  have HK := Lib.hid hK
  have HK2 := Lib.hid hK2
  have HM := Lib.hid hM
  have HP := Lib.hid hP
  have HKK := Lib.hid hKK
  clear hK hK2 hM hP hKb hKK htr
  go_enter Tryz.func7, Tryz.ntmps7
  go_wp2_with fail
  generalize hW : (((w.alloc (Obj.cells #[Value.bool s1, Value.slice A1 n1 c1, Value.slice B1 m1 d1] 26)).alloc (Obj.cells #[Value.bool s2, Value.slice A2 n2 c2, Value.slice B2 m2 d2] 26)).alloc (Obj.cells #[Value.bool s3, Value.slice A3 n3 c3, Value.slice E3 m3 d3] 26)) = W
  have hb : Below w.heap.size w W := by subst hW; exact ((((Below.refl _ _).alloc (Nat.le_refl _) _).alloc (by simp) _).alloc (by simp; omega) _)
  have XA : B3 W (w.heap.size) (Value.bool s1) (Value.slice A1 n1 c1) (Value.slice B1 m1 d1) := by subst hW; exact ((B3.new' _ _ _ _ _ rfl).alloc _).alloc _
  have XB : B3 W (w.heap.size + 1) (Value.bool s2) (Value.slice A2 n2 c2) (Value.slice B2 m2 d2) := by subst hW; exact (B3.new' _ _ _ _ _ (by simp)).alloc _
  have XC : B3 W (w.heap.size + 1 + 1) (Value.bool s3) (Value.slice A3 n3 c3) (Value.slice E3 m3 d3) := by subst hW; exact B3.new' _ _ _ _ _ (by simp)
  have hzW : W.heap.size = w.heap.size + 3 := by subst hW; simp
  clear hW
  replace a := a.below hb
  replace b := b.below hb
  replace cc := cc.below hb
  have xa0 := XA.c0
  have xa1 := XA.c1
  have xa2 := XA.c2
  have xb0 := XB.c0
  have xb1 := XB.c1
  have xb2 := XB.c2
  have xc0 := XC.c0
  have xc1 := XC.c1
  have xc2 := XC.c2
  go_upto_region 4 with (first
      | (go_at_call 11; (with_reducible refine (qlarge_no s1 A1 B1 n1 c1 m1 d1 _ H1.out).mono ?_); rintro e w_z ⟨rfl, hh⟩
         try replace a := a.below hh
         try replace b := b.below hh
         try replace cc := cc.below hh
         try replace f0 := f0.below hh
         try replace o := o.below hh
         try replace f := f.below hh
         try replace g0 := g0.below hh
         try replace g := g.below hh
         try replace dv := dv.below hh
         try replace x1 := x1.below hh
         try replace x2 := x2.below hh
         try replace x3 := x3.below hh
         try replace x4 := x4.below hh
         try replace XA := XA.below hh
         try replace XB := XB.below hh
         try replace XC := XC.below hh
         try replace XF := XF.below hh
         try replace XG := XG.below hh
         try replace XD := XD.below hh
         replace hb := bend hb hh
         have xa0 := XA.c0
         have xa1 := XA.c1
         have xa2 := XA.c2
         have xb0 := XB.c0
         have xb1 := XB.c1
         have xb2 := XB.c2
         have xc0 := XC.c0
         have xc1 := XC.c1
         have xc2 := XC.c2)
      | (go_at_call 11; (with_reducible refine (qlarge_no s2 A2 B2 n2 c2 m2 d2 _ H2.out).mono ?_); rintro e w_z ⟨rfl, hh⟩
         try replace a := a.below hh
         try replace b := b.below hh
         try replace cc := cc.below hh
         try replace f0 := f0.below hh
         try replace o := o.below hh
         try replace f := f.below hh
         try replace g0 := g0.below hh
         try replace g := g.below hh
         try replace dv := dv.below hh
         try replace x1 := x1.below hh
         try replace x2 := x2.below hh
         try replace x3 := x3.below hh
         try replace x4 := x4.below hh
         try replace XA := XA.below hh
         try replace XB := XB.below hh
         try replace XC := XC.below hh
         try replace XF := XF.below hh
         try replace XG := XG.below hh
         try replace XD := XD.below hh
         replace hb := bend hb hh
         have xa0 := XA.c0
         have xa1 := XA.c1
         have xa2 := XA.c2
         have xb0 := XB.c0
         have xb1 := XB.c1
         have xb2 := XB.c2
         have xc0 := XC.c0
         have xc1 := XC.c1
         have xc2 := XC.c2)
      | (go_at_call 11; (with_reducible refine (qlarge_no s3 A3 E3 n3 c3 m3 d3 _ H3.out).mono ?_); rintro e w_z ⟨rfl, hh⟩
         try replace a := a.below hh
         try replace b := b.below hh
         try replace cc := cc.below hh
         try replace f0 := f0.below hh
         try replace o := o.below hh
         try replace f := f.below hh
         try replace g0 := g0.below hh
         try replace g := g.below hh
         try replace dv := dv.below hh
         try replace x1 := x1.below hh
         try replace x2 := x2.below hh
         try replace x3 := x3.below hh
         try replace x4 := x4.below hh
         try replace XA := XA.below hh
         try replace XB := XB.below hh
         try replace XC := XC.below hh
         try replace XF := XF.below hh
         try replace XG := XG.below hh
         try replace XD := XD.below hh
         replace hb := bend hb hh
         have xa0 := XA.c0
         have xa1 := XA.c1
         have xa2 := XA.c2
         have xb0 := XB.c0
         have xb1 := XB.c1
         have xb2 := XB.c2
         have xc0 := XC.c0
         have xc1 := XC.c1
         have xc2 := XC.c2)
      | (go_at_call 25; (with_reducible refine (rcmp_q a b (by decide) (by decide) (by decide) (by decide) (by decide)).mono ?_); rintro e w_z ⟨rfl, hh⟩
         rw [HK.out]
         try replace a := a.below hh
         try replace b := b.below hh
         try replace cc := cc.below hh
         try replace f0 := f0.below hh
         try replace o := o.below hh
         try replace f := f.below hh
         try replace g0 := g0.below hh
         try replace g := g.below hh
         try replace dv := dv.below hh
         try replace x1 := x1.below hh
         try replace x2 := x2.below hh
         try replace x3 := x3.below hh
         try replace x4 := x4.below hh
         try replace XA := XA.below hh
         try replace XB := XB.below hh
         try replace XC := XC.below hh
         try replace XF := XF.below hh
         try replace XG := XG.below hh
         try replace XD := XD.below hh
         replace hb := bend hb hh
         have xa0 := XA.c0
         have xa1 := XA.c1
         have xa2 := XA.c2
         have xb0 := XB.c0
         have xb1 := XB.c1
         have xb2 := XB.c2
         have xc0 := XC.c0
         have xc1 := XC.c1
         have xc2 := XC.c2))
  go_cut [59] from 27 to 58 (fun t59 wx => t59 = .bool false ∧ Below w_z.heap.size w_z wx)
  case first =>
    replace hb : Below w_z.heap.size w_z w_z := Below.refl _ _
    have hKK := HKK.out
    by_cases hc : 0 < vc
    · have HSg : Hid (sgnQ vc = 1) := by show _ = _; unfold sgnQ; rw [if_neg (fun h => absurd (Rat.le_of_lt hc) (Rat.not_le.2 h)), if_neg (fun h => by rw [h] at hc; exact Rat.lt_irrefl hc)]
      have HKM := Lib.hid (HKM0.out hc)
      clear hc
      replace a := a.below (Below.refl _ _).drew
      replace b := b.below (Below.refl _ _).drew
      replace cc := cc.below (Below.refl _ _).drew
      replace XA := XA.below (Below.refl _ _).drew
      replace XB := XB.below (Below.refl _ _).drew
      replace XC := XC.below (Below.refl _ _).drew
      replace hb := hb.drew
      go_region_held3 (fun w' => w'.cell? ⟨w.heap.size, 0, none⟩ = some (.bool s1) ∧ w'.cell? ⟨w.heap.size, 1, none⟩ = some (.slice A1 n1 c1) ∧ w'.cell? ⟨w.heap.size, 2, none⟩ = some (.slice B1 m1 d1) ∧ w'.cell? ⟨w.heap.size + 1, 0, none⟩ = some (.bool s2) ∧ w'.cell? ⟨w.heap.size + 1, 1, none⟩ = some (.slice A2 n2 c2) ∧ w'.cell? ⟨w.heap.size + 1, 2, none⟩ = some (.slice B2 m2 d2) ∧ w'.cell? ⟨w.heap.size + 1 + 1, 0, none⟩ = some (.bool s3) ∧ w'.cell? ⟨w.heap.size + 1 + 1, 1, none⟩ = some (.slice A3 n3 c3) ∧ w'.cell? ⟨w.heap.size + 1 + 1, 2, none⟩ = some (.slice E3 m3 d3))
        (first | with_reducible exact ⟨XA.c0, XA.c1, XA.c2, XB.c0, XB.c1, XB.c2, XC.c0, XC.c1, XC.c2⟩)
        (first
        | (go_at_call 25; (with_reducible refine (rcmp_q b a (by decide) (by decide) (by decide) (by decide) (by decide)).mono ?_); rintro e w_z ⟨rfl, hh⟩
           rw [HK2.out]
           try replace a := a.below hh
           try replace b := b.below hh
           try replace cc := cc.below hh
           try replace f0 := f0.below hh
           try replace o := o.below hh
           try replace f := f.below hh
           try replace g0 := g0.below hh
           try replace g := g.below hh
           try replace dv := dv.below hh
           try replace x1 := x1.below hh
           try replace x2 := x2.below hh
           try replace x3 := x3.below hh
           try replace x4 := x4.below hh
           try replace XA := XA.below hh
           try replace XB := XB.below hh
           try replace XC := XC.below hh
           try replace XF := XF.below hh
           try replace XG := XG.below hh
           try replace XD := XD.below hh
           replace hb := bend hb hh)
        | (go_at_call 19; (with_reducible refine (radd_q a cc (by decide) (by decide) (by decide) (by decide) (by decide)).mono ?_); rintro e w_x1 ⟨s_x1, A_x1, n_x1, c_x1, B_x1, m_x1, d_x1, rfl, x1, hh⟩
           try replace a := a.below hh
           try replace b := b.below hh
           try replace cc := cc.below hh
           try replace f0 := f0.below hh
           try replace o := o.below hh
           try replace f := f.below hh
           try replace g0 := g0.below hh
           try replace g := g.below hh
           try replace dv := dv.below hh
           try replace x2 := x2.below hh
           try replace x3 := x3.below hh
           try replace x4 := x4.below hh
           try replace XA := XA.below hh
           try replace XB := XB.below hh
           try replace XC := XC.below hh
           try replace XF := XF.below hh
           try replace XG := XG.below hh
           try replace XD := XD.below hh
           replace hb := bend hb hh)
        | (go_at_call 19; (with_reducible refine (radd_q b cc (by decide) (by decide) (by decide) (by decide) (by decide)).mono ?_); rintro e w_x2 ⟨s_x2, A_x2, n_x2, c_x2, B_x2, m_x2, d_x2, rfl, x2, hh⟩
           try replace a := a.below hh
           try replace b := b.below hh
           try replace cc := cc.below hh
           try replace f0 := f0.below hh
           try replace o := o.below hh
           try replace f := f.below hh
           try replace g0 := g0.below hh
           try replace g := g.below hh
           try replace dv := dv.below hh
           try replace x1 := x1.below hh
           try replace x3 := x3.below hh
           try replace x4 := x4.below hh
           try replace XA := XA.below hh
           try replace XB := XB.below hh
           try replace XC := XC.below hh
           try replace XF := XF.below hh
           try replace XG := XG.below hh
           try replace XD := XD.below hh
           replace hb := bend hb hh)
        | (go_at_call 25; (with_reducible refine (rcmp_q x1.qr x2.qr (by decide) (by decide) (by decide) (by decide) (by decide)).mono ?_); rintro e w_z ⟨rfl, hh⟩
           rw [HKA.out]
           try replace a := a.below hh
           try replace b := b.below hh
           try replace cc := cc.below hh
           try replace f0 := f0.below hh
           try replace o := o.below hh
           try replace f := f.below hh
           try replace g0 := g0.below hh
           try replace g := g.below hh
           try replace dv := dv.below hh
           try replace x1 := x1.below hh
           try replace x2 := x2.below hh
           try replace x3 := x3.below hh
           try replace x4 := x4.below hh
           try replace XA := XA.below hh
           try replace XB := XB.below hh
           try replace XC := XC.below hh
           try replace XF := XF.below hh
           try replace XG := XG.below hh
           try replace XD := XD.below hh
           replace hb := bend hb hh)
        | (go_at_call 27; (with_reducible refine (rsign_q cc (by decide) (by decide)).mono ?_); rintro e w_z ⟨rfl, hh⟩
           rw [HSg.out]
           try replace a := a.below hh
           try replace b := b.below hh
           try replace cc := cc.below hh
           try replace f0 := f0.below hh
           try replace o := o.below hh
           try replace f := f.below hh
           try replace g0 := g0.below hh
           try replace g := g.below hh
           try replace dv := dv.below hh
           try replace x1 := x1.below hh
           try replace x2 := x2.below hh
           try replace x3 := x3.below hh
           try replace x4 := x4.below hh
           try replace XA := XA.below hh
           try replace XB := XB.below hh
           try replace XC := XC.below hh
           try replace XF := XF.below hh
           try replace XG := XG.below hh
           try replace XD := XD.below hh
           replace hb := bend hb hh)
        | (go_at_call 23; (with_reducible refine (rmul_q a cc (by decide) (by decide) (by decide) (by decide) (by decide)).mono ?_); rintro e w_x3 ⟨s_x3, A_x3, n_x3, c_x3, B_x3, m_x3, d_x3, rfl, x3, hh⟩
           try replace a := a.below hh
           try replace b := b.below hh
           try replace cc := cc.below hh
           try replace f0 := f0.below hh
           try replace o := o.below hh
           try replace f := f.below hh
           try replace g0 := g0.below hh
           try replace g := g.below hh
           try replace dv := dv.below hh
           try replace x1 := x1.below hh
           try replace x2 := x2.below hh
           try replace x4 := x4.below hh
           try replace XA := XA.below hh
           try replace XB := XB.below hh
           try replace XC := XC.below hh
           try replace XF := XF.below hh
           try replace XG := XG.below hh
           try replace XD := XD.below hh
           replace hb := bend hb hh)
        | (go_at_call 23; (with_reducible refine (rmul_q b cc (by decide) (by decide) (by decide) (by decide) (by decide)).mono ?_); rintro e w_x4 ⟨s_x4, A_x4, n_x4, c_x4, B_x4, m_x4, d_x4, rfl, x4, hh⟩
           try replace a := a.below hh
           try replace b := b.below hh
           try replace cc := cc.below hh
           try replace f0 := f0.below hh
           try replace o := o.below hh
           try replace f := f.below hh
           try replace g0 := g0.below hh
           try replace g := g.below hh
           try replace dv := dv.below hh
           try replace x1 := x1.below hh
           try replace x2 := x2.below hh
           try replace x3 := x3.below hh
           try replace XA := XA.below hh
           try replace XB := XB.below hh
           try replace XC := XC.below hh
           try replace XF := XF.below hh
           try replace XG := XG.below hh
           try replace XD := XD.below hh
           replace hb := bend hb hh)
        | (go_at_call 25; (with_reducible refine (rcmp_q x3.qr x4.qr (by decide) (by decide) (by decide) (by decide) (by decide)).mono ?_); rintro e w_z ⟨rfl, hh⟩
           rw [HKM.out]
           try replace a := a.below hh
           try replace b := b.below hh
           try replace cc := cc.below hh
           try replace f0 := f0.below hh
           try replace o := o.below hh
           try replace f := f.below hh
           try replace g0 := g0.below hh
           try replace g := g.below hh
           try replace dv := dv.below hh
           try replace x1 := x1.below hh
           try replace x2 := x2.below hh
           try replace x3 := x3.below hh
           try replace x4 := x4.below hh
           try replace XA := XA.below hh
           try replace XB := XB.below hh
           try replace XC := XC.below hh
           try replace XF := XF.below hh
           try replace XG := XG.below hh
           try replace XD := XD.below hh
           replace hb := bend hb hh))
      go_wp2_with fail
      go_meet
      exact ⟨rfl, hb⟩
    · obtain ⟨Sv, hS, hSv⟩ : ∃ Sv, sgnQ vc = Sv ∧ (Sv = 0 ∨ Sv = -1) := ⟨_, rfl, by
        unfold sgnQ
        split
        · exact .inr rfl
        · rename_i h1
          split
          · exact .inl rfl
          · rename_i h2
            exact absurd (Rat.lt_of_le_of_ne (Rat.not_lt.1 h1) (Ne.symm h2)) hc⟩
      have HSg := Lib.hid hS
      clear hc hS
      rcases hSv with rfl | rfl
      all_goals
        replace a := a.below (Below.refl _ _).drew
        replace b := b.below (Below.refl _ _).drew
        replace cc := cc.below (Below.refl _ _).drew
        replace XA := XA.below (Below.refl _ _).drew
        replace XB := XB.below (Below.refl _ _).drew
        replace XC := XC.below (Below.refl _ _).drew
        replace hb := hb.drew
        refine wp_region_held_drew (S := (fun w' => w'.cell? ⟨w.heap.size, 0, none⟩ = some (.bool s1) ∧ w'.cell? ⟨w.heap.size, 1, none⟩ = some (.slice A1 n1 c1) ∧ w'.cell? ⟨w.heap.size, 2, none⟩ = some (.slice B1 m1 d1) ∧ w'.cell? ⟨w.heap.size + 1, 0, none⟩ = some (.bool s2) ∧ w'.cell? ⟨w.heap.size + 1, 1, none⟩ = some (.slice A2 n2 c2) ∧ w'.cell? ⟨w.heap.size + 1, 2, none⟩ = some (.slice B2 m2 d2) ∧ w'.cell? ⟨w.heap.size + 1 + 1, 0, none⟩ = some (.bool s3) ∧ w'.cell? ⟨w.heap.size + 1 + 1, 1, none⟩ = some (.slice A3 n3 c3) ∧ w'.cell? ⟨w.heap.size + 1 + 1, 2, none⟩ = some (.slice E3 m3 d3))) (by kernel_rfl) ⟨XA.c0, XA.c1, XA.c2, XB.c0, XB.c1, XB.c2, XC.c0, XC.c1, XC.c2⟩ (fun hHeld => ?_)
        refine wpAnyH_take (i := 0) (oi := { dst := some 27, op := Op.move (Operand.tmp 7), type := 3, pos := "law.go:104", after := #[], guard := none }) (v := ?_) rfl (by kernel_rfl) (by kernel_rfl) (by kernel_rfl) (fun _ _ _ h => h) (Or.inl ⟨by rfl, ?_⟩) hHeld ?_
        rotate_left
        · (intro w hSw; (try dsimp only at hSw); go_simp; try with_reducible rfl)
        simp only [Act.put, List.setIfInBounds_toArray, List.set_cons_zero, List.set_cons_succ]
        refine wpAnyH_take (i := 1) (oi := { dst := some 28, op := Op.load 26 (Operand.tmp 4), type := 26, pos := "law.go:104", after := #[], guard := none }) (v := ?_) rfl (by kernel_rfl) (by kernel_rfl) (by kernel_rfl) (fun _ _ _ h => h) (Or.inl ⟨by rfl, ?_⟩) hHeld ?_
        rotate_left
        · (intro w hSw; (try dsimp only at hSw); go_simp; try with_reducible rfl)
        simp only [Act.put, List.setIfInBounds_toArray, List.set_cons_zero, List.set_cons_succ]
        refine wpAnyH_take (i := 2) (oi := { dst := some 29, op := Op.load 26 (Operand.tmp 3), type := 26, pos := "law.go:104", after := #[], guard := none }) (v := ?_) rfl (by kernel_rfl) (by kernel_rfl) (by kernel_rfl) (fun _ _ _ h => h) (Or.inl ⟨by rfl, ?_⟩) hHeld ?_
        rotate_left
        · (intro w hSw; (try dsimp only at hSw); go_simp; try with_reducible rfl)
        simp only [Act.put, List.setIfInBounds_toArray, List.set_cons_zero, List.set_cons_succ]
        refine wpAnyH_ready (rs := [3]) (by kernel_rfl) (by simp) ?_
        refine AllReadyH.cons (o := { dst := some 30, op := Op.call { callee := Callee.value (Operand.func 25), args := #[Operand.tmp 28, Operand.tmp 29], argTypes := #[26, 26] }, type := 3, pos := "law.go:104", after := #[{ on := 1, ground := Ground.data }, { on := 2, ground := Ground.data }], guard := none }) rfl (fun K1 hK1 => ?_) AllReadyH.nil
        go_simp
        first
          | (go_at_call 25; (with_reducible refine (rcmp_q b a (by decide) (by decide) (by decide) (by decide) (by decide)).mono ?_); rintro e w_z ⟨rfl, hh⟩
             rw [HK2.out]
             try replace a := a.below hh
             try replace b := b.below hh
             try replace cc := cc.below hh
             try replace f0 := f0.below hh
             try replace o := o.below hh
             try replace f := f.below hh
             try replace g0 := g0.below hh
             try replace g := g.below hh
             try replace dv := dv.below hh
             try replace x1 := x1.below hh
             try replace x2 := x2.below hh
             try replace x3 := x3.below hh
             try replace x4 := x4.below hh
             try replace XA := XA.below hh
             try replace XB := XB.below hh
             try replace XC := XC.below hh
             try replace XF := XF.below hh
             try replace XG := XG.below hh
             try replace XD := XD.below hh
             replace hb := bend hb hh)
          | (go_at_call 25; (with_reducible refine (rcmp_q x1.qr x2.qr (by decide) (by decide) (by decide) (by decide) (by decide)).mono ?_); rintro e w_z ⟨rfl, hh⟩
             rw [HKA.out]
             try replace a := a.below hh
             try replace b := b.below hh
             try replace cc := cc.below hh
             try replace f0 := f0.below hh
             try replace o := o.below hh
             try replace f := f.below hh
             try replace g0 := g0.below hh
             try replace g := g.below hh
             try replace dv := dv.below hh
             try replace x1 := x1.below hh
             try replace x2 := x2.below hh
             try replace x3 := x3.below hh
             try replace x4 := x4.below hh
             try replace XA := XA.below hh
             try replace XB := XB.below hh
             try replace XC := XC.below hh
             try replace XF := XF.below hh
             try replace XG := XG.below hh
             try replace XD := XD.below hh
             replace hb := bend hb hh)
        refine hK1.out _ _ ⟨XA.c0, XA.c1, XA.c2, XB.c0, XB.c1, XB.c2, XC.c0, XC.c1, XC.c2⟩ (fun hHeld => ?_)
        clear hK1 K1
        refine wpAnyH_take (i := 4) (oi := { dst := some 31, op := Op.unOp UnOp.neg 3 (Operand.tmp 30), type := 3, pos := "law.go:104", after := #[{ on := 3, ground := Ground.data }], guard := none }) (v := ?_) rfl (by kernel_rfl) (by kernel_rfl) (by kernel_rfl) (fun _ _ _ h => h) (Or.inl ⟨by rfl, ?_⟩) hHeld ?_
        rotate_left
        · (intro w hSw; (try dsimp only at hSw); go_simp; try with_reducible rfl)
        simp only [Act.put, List.setIfInBounds_toArray, List.set_cons_zero, List.set_cons_succ]
        refine wpAnyH_take (i := 5) (oi := { dst := some 32, op := Op.binOp BinOp.neq 3 (Operand.tmp 27) (Operand.tmp 31) 3, type := 4, pos := "law.go:104", after := #[{ on := 0, ground := Ground.data }, { on := 4, ground := Ground.data }], guard := none }) (v := ?_) rfl (by kernel_rfl) (by kernel_rfl) (by kernel_rfl) (fun _ _ _ h => h) (Or.inl ⟨by rfl, ?_⟩) hHeld ?_
        rotate_left
        · (intro w hSw; (try dsimp only at hSw); go_simp; try with_reducible rfl)
        simp only [Act.put, List.setIfInBounds_toArray, List.set_cons_zero, List.set_cons_succ]
        refine wpAnyH_take (i := 6) (oi := { dst := some 33, op := Op.move (Operand.tmp 32), type := 4, pos := "law.go:104", after := #[{ on := 5, ground := Ground.data }, { on := 3, ground := Ground.chain }], guard := none }) (v := ?_) rfl (by kernel_rfl) (by kernel_rfl) (by kernel_rfl) (fun _ _ _ h => h) (Or.inl ⟨by rfl, ?_⟩) hHeld ?_
        rotate_left
        · (intro w hSw; (try dsimp only at hSw); go_simp; try with_reducible rfl)
        simp only [Act.put, List.setIfInBounds_toArray, List.set_cons_zero, List.set_cons_succ]
        refine wpAnyH_take (i := 7) (oi := { dst := some 34, op := Op.move (Operand.tmp 7), type := 3, pos := "law.go:104", after := #[{ on := 6, ground := Ground.guard }], guard := some (6, false) }) (v := ?_) rfl (by kernel_rfl) (by kernel_rfl) (by kernel_rfl) (fun _ _ _ h => h) (Or.inl ⟨by rfl, ?_⟩) hHeld ?_
        rotate_left
        · (intro w hSw; (try dsimp only at hSw); go_simp; try with_reducible rfl)
        simp only [Act.put, List.setIfInBounds_toArray, List.set_cons_zero, List.set_cons_succ]
        refine wpAnyH_take (i := 8) (oi := { dst := some 35, op := Op.load 26 (Operand.tmp 3), type := 26, pos := "law.go:104", after := #[{ on := 6, ground := Ground.guard }], guard := some (6, false) }) (v := ?_) rfl (by kernel_rfl) (by kernel_rfl) (by kernel_rfl) (fun _ _ _ h => h) (Or.inl ⟨by rfl, ?_⟩) hHeld ?_
        rotate_left
        · (intro w hSw; (try dsimp only at hSw); go_simp; try with_reducible rfl)
        simp only [Act.put, List.setIfInBounds_toArray, List.set_cons_zero, List.set_cons_succ]
        refine wpAnyH_take (i := 9) (oi := { dst := some 36, op := Op.load 26 (Operand.tmp 5), type := 26, pos := "law.go:104", after := #[{ on := 6, ground := Ground.guard }], guard := some (6, false) }) (v := ?_) rfl (by kernel_rfl) (by kernel_rfl) (by kernel_rfl) (fun _ _ _ h => h) (Or.inl ⟨by rfl, ?_⟩) hHeld ?_
        rotate_left
        · (intro w hSw; (try dsimp only at hSw); go_simp; try with_reducible rfl)
        simp only [Act.put, List.setIfInBounds_toArray, List.set_cons_zero, List.set_cons_succ]
        refine wpAnyH_take (i := 11) (oi := { dst := some 38, op := Op.load 26 (Operand.tmp 4), type := 26, pos := "law.go:104", after := #[{ on := 6, ground := Ground.guard }], guard := some (6, false) }) (v := ?_) rfl (by kernel_rfl) (by kernel_rfl) (by kernel_rfl) (fun _ _ _ h => h) (Or.inl ⟨by rfl, ?_⟩) hHeld ?_
        rotate_left
        · (intro w hSw; (try dsimp only at hSw); go_simp; try with_reducible rfl)
        simp only [Act.put, List.setIfInBounds_toArray, List.set_cons_zero, List.set_cons_succ]
        refine wpAnyH_take (i := 12) (oi := { dst := some 39, op := Op.load 26 (Operand.tmp 5), type := 26, pos := "law.go:104", after := #[{ on := 6, ground := Ground.guard }], guard := some (6, false) }) (v := ?_) rfl (by kernel_rfl) (by kernel_rfl) (by kernel_rfl) (fun _ _ _ h => h) (Or.inl ⟨by rfl, ?_⟩) hHeld ?_
        rotate_left
        · (intro w hSw; (try dsimp only at hSw); go_simp; try with_reducible rfl)
        simp only [Act.put, List.setIfInBounds_toArray, List.set_cons_zero, List.set_cons_succ]
        refine wpAnyH_ready (rs := [10]) (by kernel_rfl) (by simp) ?_
        refine AllReadyH.cons (o := { dst := some 37, op := Op.call { callee := Callee.value (Operand.func 19), args := #[Operand.tmp 35, Operand.tmp 36], argTypes := #[26, 26] }, type := 26, pos := "law.go:104", after := #[{ on := 8, ground := Ground.data }, { on := 9, ground := Ground.data }, { on := 6, ground := Ground.chain }, { on := 6, ground := Ground.guard }], guard := some (6, false) }) rfl (fun K1 hK1 => ?_) AllReadyH.nil
        go_simp
        first
          | (go_at_call 19; (with_reducible refine (radd_q a cc (by decide) (by decide) (by decide) (by decide) (by decide)).mono ?_); rintro e w_x1 ⟨s_x1, A_x1, n_x1, c_x1, B_x1, m_x1, d_x1, rfl, x1, hh⟩
             try replace a := a.below hh
             try replace b := b.below hh
             try replace cc := cc.below hh
             try replace f0 := f0.below hh
             try replace o := o.below hh
             try replace f := f.below hh
             try replace g0 := g0.below hh
             try replace g := g.below hh
             try replace dv := dv.below hh
             try replace x2 := x2.below hh
             try replace x3 := x3.below hh
             try replace x4 := x4.below hh
             try replace XA := XA.below hh
             try replace XB := XB.below hh
             try replace XC := XC.below hh
             try replace XF := XF.below hh
             try replace XG := XG.below hh
             try replace XD := XD.below hh
             replace hb := bend hb hh)
          | (go_at_call 19; (with_reducible refine (radd_q b cc (by decide) (by decide) (by decide) (by decide) (by decide)).mono ?_); rintro e w_x2 ⟨s_x2, A_x2, n_x2, c_x2, B_x2, m_x2, d_x2, rfl, x2, hh⟩
             try replace a := a.below hh
             try replace b := b.below hh
             try replace cc := cc.below hh
             try replace f0 := f0.below hh
             try replace o := o.below hh
             try replace f := f.below hh
             try replace g0 := g0.below hh
             try replace g := g.below hh
             try replace dv := dv.below hh
             try replace x1 := x1.below hh
             try replace x3 := x3.below hh
             try replace x4 := x4.below hh
             try replace XA := XA.below hh
             try replace XB := XB.below hh
             try replace XC := XC.below hh
             try replace XF := XF.below hh
             try replace XG := XG.below hh
             try replace XD := XD.below hh
             replace hb := bend hb hh)
        refine hK1.out _ _ ⟨XA.c0, XA.c1, XA.c2, XB.c0, XB.c1, XB.c2, XC.c0, XC.c1, XC.c2⟩ (fun hHeld => ?_)
        clear hK1 K1
        refine wpAnyH_ready (rs := [13]) (by kernel_rfl) (by simp) ?_
        refine AllReadyH.cons (o := { dst := some 40, op := Op.call { callee := Callee.value (Operand.func 19), args := #[Operand.tmp 38, Operand.tmp 39], argTypes := #[26, 26] }, type := 26, pos := "law.go:104", after := #[{ on := 11, ground := Ground.data }, { on := 12, ground := Ground.data }, { on := 10, ground := Ground.chain }, { on := 6, ground := Ground.guard }], guard := some (6, false) }) rfl (fun K1 hK1 => ?_) AllReadyH.nil
        go_simp
        first
          | (go_at_call 19; (with_reducible refine (radd_q a cc (by decide) (by decide) (by decide) (by decide) (by decide)).mono ?_); rintro e w_x1 ⟨s_x1, A_x1, n_x1, c_x1, B_x1, m_x1, d_x1, rfl, x1, hh⟩
             try replace a := a.below hh
             try replace b := b.below hh
             try replace cc := cc.below hh
             try replace f0 := f0.below hh
             try replace o := o.below hh
             try replace f := f.below hh
             try replace g0 := g0.below hh
             try replace g := g.below hh
             try replace dv := dv.below hh
             try replace x2 := x2.below hh
             try replace x3 := x3.below hh
             try replace x4 := x4.below hh
             try replace XA := XA.below hh
             try replace XB := XB.below hh
             try replace XC := XC.below hh
             try replace XF := XF.below hh
             try replace XG := XG.below hh
             try replace XD := XD.below hh
             replace hb := bend hb hh)
          | (go_at_call 19; (with_reducible refine (radd_q b cc (by decide) (by decide) (by decide) (by decide) (by decide)).mono ?_); rintro e w_x2 ⟨s_x2, A_x2, n_x2, c_x2, B_x2, m_x2, d_x2, rfl, x2, hh⟩
             try replace a := a.below hh
             try replace b := b.below hh
             try replace cc := cc.below hh
             try replace f0 := f0.below hh
             try replace o := o.below hh
             try replace f := f.below hh
             try replace g0 := g0.below hh
             try replace g := g.below hh
             try replace dv := dv.below hh
             try replace x1 := x1.below hh
             try replace x3 := x3.below hh
             try replace x4 := x4.below hh
             try replace XA := XA.below hh
             try replace XB := XB.below hh
             try replace XC := XC.below hh
             try replace XF := XF.below hh
             try replace XG := XG.below hh
             try replace XD := XD.below hh
             replace hb := bend hb hh)
        refine hK1.out _ _ ⟨XA.c0, XA.c1, XA.c2, XB.c0, XB.c1, XB.c2, XC.c0, XC.c1, XC.c2⟩ (fun hHeld => ?_)
        clear hK1 K1
        refine wpAnyH_ready (rs := [14]) (by kernel_rfl) (by simp) ?_
        refine AllReadyH.cons (o := { dst := some 41, op := Op.call { callee := Callee.value (Operand.func 25), args := #[Operand.tmp 37, Operand.tmp 40], argTypes := #[26, 26] }, type := 3, pos := "law.go:104", after := #[{ on := 10, ground := Ground.data }, { on := 13, ground := Ground.data }, { on := 13, ground := Ground.chain }, { on := 6, ground := Ground.guard }], guard := some (6, false) }) rfl (fun K1 hK1 => ?_) AllReadyH.nil
        go_simp
        first
          | (go_at_call 25; (with_reducible refine (rcmp_q b a (by decide) (by decide) (by decide) (by decide) (by decide)).mono ?_); rintro e w_z ⟨rfl, hh⟩
             rw [HK2.out]
             try replace a := a.below hh
             try replace b := b.below hh
             try replace cc := cc.below hh
             try replace f0 := f0.below hh
             try replace o := o.below hh
             try replace f := f.below hh
             try replace g0 := g0.below hh
             try replace g := g.below hh
             try replace dv := dv.below hh
             try replace x1 := x1.below hh
             try replace x2 := x2.below hh
             try replace x3 := x3.below hh
             try replace x4 := x4.below hh
             try replace XA := XA.below hh
             try replace XB := XB.below hh
             try replace XC := XC.below hh
             try replace XF := XF.below hh
             try replace XG := XG.below hh
             try replace XD := XD.below hh
             replace hb := bend hb hh)
          | (go_at_call 25; (with_reducible refine (rcmp_q x1.qr x2.qr (by decide) (by decide) (by decide) (by decide) (by decide)).mono ?_); rintro e w_z ⟨rfl, hh⟩
             rw [HKA.out]
             try replace a := a.below hh
             try replace b := b.below hh
             try replace cc := cc.below hh
             try replace f0 := f0.below hh
             try replace o := o.below hh
             try replace f := f.below hh
             try replace g0 := g0.below hh
             try replace g := g.below hh
             try replace dv := dv.below hh
             try replace x1 := x1.below hh
             try replace x2 := x2.below hh
             try replace x3 := x3.below hh
             try replace x4 := x4.below hh
             try replace XA := XA.below hh
             try replace XB := XB.below hh
             try replace XC := XC.below hh
             try replace XF := XF.below hh
             try replace XG := XG.below hh
             try replace XD := XD.below hh
             replace hb := bend hb hh)
        refine hK1.out _ _ ⟨XA.c0, XA.c1, XA.c2, XB.c0, XB.c1, XB.c2, XC.c0, XC.c1, XC.c2⟩ (fun hHeld => ?_)
        clear hK1 K1
        refine wpAnyH_take (i := 15) (oi := { dst := some 42, op := Op.binOp BinOp.neq 3 (Operand.tmp 34) (Operand.tmp 41) 3, type := 4, pos := "law.go:104", after := #[{ on := 7, ground := Ground.data }, { on := 14, ground := Ground.data }, { on := 6, ground := Ground.guard }], guard := some (6, false) }) (v := ?_) rfl (by kernel_rfl) (by kernel_rfl) (by kernel_rfl) (fun _ _ _ h => h) (Or.inl ⟨by rfl, ?_⟩) hHeld ?_
        rotate_left
        · (intro w hSw; (try dsimp only at hSw); go_simp; try with_reducible rfl)
        simp only [Act.put, List.setIfInBounds_toArray, List.set_cons_zero, List.set_cons_succ]
        refine wpAnyH_take (i := 16) (oi := { dst := some 43, op := Op.pick (Operand.tmp 33) (Operand.const (Value.bool true)) (Operand.tmp 42), type := 4, pos := "law.go:104", after := #[{ on := 6, ground := Ground.data }, { on := 15, ground := Ground.data }], guard := none }) (v := ?_) rfl (by kernel_rfl) (by kernel_rfl) (by kernel_rfl) (fun _ _ _ h => h) (Or.inl ⟨by rfl, ?_⟩) hHeld ?_
        rotate_left
        · (intro w hSw; (try dsimp only at hSw); go_simp; try with_reducible rfl)
        simp only [Act.put, List.setIfInBounds_toArray, List.set_cons_zero, List.set_cons_succ]
        refine wpAnyH_take (i := 17) (oi := { dst := some 44, op := Op.move (Operand.tmp 43), type := 4, pos := "law.go:104", after := #[{ on := 16, ground := Ground.data }, { on := 14, ground := Ground.chain }], guard := none }) (v := ?_) rfl (by kernel_rfl) (by kernel_rfl) (by kernel_rfl) (fun _ _ _ h => h) (Or.inl ⟨by rfl, ?_⟩) hHeld ?_
        rotate_left
        · (intro w hSw; (try dsimp only at hSw); go_simp; try with_reducible rfl)
        simp only [Act.put, List.setIfInBounds_toArray, List.set_cons_zero, List.set_cons_succ]
        refine wpAnyH_take (i := 18) (oi := { dst := some 45, op := Op.load 26 (Operand.tmp 5), type := 26, pos := "law.go:104", after := #[{ on := 17, ground := Ground.guard }], guard := some (17, false) }) (v := ?_) rfl (by kernel_rfl) (by kernel_rfl) (by kernel_rfl) (fun _ _ _ h => h) (Or.inl ⟨by rfl, ?_⟩) hHeld ?_
        rotate_left
        · (intro w hSw; (try dsimp only at hSw); go_simp; try with_reducible rfl)
        simp only [Act.put, List.setIfInBounds_toArray, List.set_cons_zero, List.set_cons_succ]
        refine wpAnyH_ready (rs := [19]) (by kernel_rfl) (by simp) ?_
        refine AllReadyH.cons (o := { dst := some 46, op := Op.call { callee := Callee.value (Operand.func 27), args := #[Operand.tmp 45], argTypes := #[26] }, type := 3, pos := "law.go:104", after := #[{ on := 18, ground := Ground.data }, { on := 17, ground := Ground.chain }, { on := 17, ground := Ground.guard }], guard := some (17, false) }) rfl (fun K1 hK1 => ?_) AllReadyH.nil
        go_simp
        first
          | (go_at_call 27; (with_reducible refine (rsign_q cc (by decide) (by decide)).mono ?_); rintro e w_z ⟨rfl, hh⟩
             rw [HSg.out]
             try replace a := a.below hh
             try replace b := b.below hh
             try replace cc := cc.below hh
             try replace f0 := f0.below hh
             try replace o := o.below hh
             try replace f := f.below hh
             try replace g0 := g0.below hh
             try replace g := g.below hh
             try replace dv := dv.below hh
             try replace x1 := x1.below hh
             try replace x2 := x2.below hh
             try replace x3 := x3.below hh
             try replace x4 := x4.below hh
             try replace XA := XA.below hh
             try replace XB := XB.below hh
             try replace XC := XC.below hh
             try replace XF := XF.below hh
             try replace XG := XG.below hh
             try replace XD := XD.below hh
             replace hb := bend hb hh)
        refine hK1.out _ _ ⟨XA.c0, XA.c1, XA.c2, XB.c0, XB.c1, XB.c2, XC.c0, XC.c1, XC.c2⟩ (fun hHeld => ?_)
        clear hK1 K1
        refine wpAnyH_take (i := 20) (oi := { dst := some 47, op := Op.binOp BinOp.gtr 3 (Operand.tmp 46) (Operand.const (Value.int IntKind.i64 0)) 3, type := 4, pos := "law.go:104", after := #[{ on := 19, ground := Ground.data }, { on := 17, ground := Ground.guard }], guard := some (17, false) }) (v := ?_) rfl (by kernel_rfl) (by kernel_rfl) (by kernel_rfl) (fun _ _ _ h => h) (Or.inl ⟨by rfl, ?_⟩) hHeld ?_
        rotate_left
        · (intro w hSw; (try dsimp only at hSw); go_simp; try with_reducible rfl)
        simp only [Act.put, List.setIfInBounds_toArray, List.set_cons_zero, List.set_cons_succ]
        refine wpAnyH_take (i := 21) (oi := { dst := some 48, op := Op.move (Operand.tmp 47), type := 4, pos := "law.go:104", after := #[{ on := 20, ground := Ground.data }, { on := 19, ground := Ground.chain }, { on := 17, ground := Ground.guard }], guard := some (17, false) }) (v := ?_) rfl (by kernel_rfl) (by kernel_rfl) (by kernel_rfl) (fun _ _ _ h => h) (Or.inl ⟨by rfl, ?_⟩) hHeld ?_
        rotate_left
        · (intro w hSw; (try dsimp only at hSw); go_simp; try with_reducible rfl)
        simp only [Act.put, List.setIfInBounds_toArray, List.set_cons_zero, List.set_cons_succ]
        refine wpAnyH_take (i := 22) (oi := { dst := some 49, op := Op.move (Operand.tmp 7), type := 3, pos := "law.go:104", after := #[{ on := 21, ground := Ground.guard }], guard := some (21, true) }) (v := undef) rfl (by kernel_rfl) (by kernel_rfl) (by kernel_rfl) (fun _ _ _ h => h) (Or.inr ⟨by rfl, rfl⟩) hHeld ?_
        simp only [Act.put, List.setIfInBounds_toArray, List.set_cons_zero, List.set_cons_succ]
        refine wpAnyH_take (i := 23) (oi := { dst := some 50, op := Op.load 26 (Operand.tmp 3), type := 26, pos := "law.go:104", after := #[{ on := 21, ground := Ground.guard }], guard := some (21, true) }) (v := undef) rfl (by kernel_rfl) (by kernel_rfl) (by kernel_rfl) (fun _ _ _ h => h) (Or.inr ⟨by rfl, rfl⟩) hHeld ?_
        simp only [Act.put, List.setIfInBounds_toArray, List.set_cons_zero, List.set_cons_succ]
        refine wpAnyH_take (i := 24) (oi := { dst := some 51, op := Op.load 26 (Operand.tmp 5), type := 26, pos := "law.go:104", after := #[{ on := 21, ground := Ground.guard }], guard := some (21, true) }) (v := undef) rfl (by kernel_rfl) (by kernel_rfl) (by kernel_rfl) (fun _ _ _ h => h) (Or.inr ⟨by rfl, rfl⟩) hHeld ?_
        simp only [Act.put, List.setIfInBounds_toArray, List.set_cons_zero, List.set_cons_succ]
        refine wpAnyH_take (i := 25) (oi := { dst := some 52, op := Op.call { callee := Callee.value (Operand.func 23), args := #[Operand.tmp 50, Operand.tmp 51], argTypes := #[26, 26] }, type := 26, pos := "law.go:104", after := #[{ on := 23, ground := Ground.data }, { on := 24, ground := Ground.data }, { on := 21, ground := Ground.chain }, { on := 21, ground := Ground.guard }], guard := some (21, true) }) (v := undef) rfl (by kernel_rfl) (by kernel_rfl) (by kernel_rfl) (fun _ _ _ h => h) (Or.inr ⟨by rfl, rfl⟩) hHeld ?_
        simp only [Act.put, List.setIfInBounds_toArray, List.set_cons_zero, List.set_cons_succ]
        refine wpAnyH_take (i := 26) (oi := { dst := some 53, op := Op.load 26 (Operand.tmp 4), type := 26, pos := "law.go:104", after := #[{ on := 21, ground := Ground.guard }], guard := some (21, true) }) (v := undef) rfl (by kernel_rfl) (by kernel_rfl) (by kernel_rfl) (fun _ _ _ h => h) (Or.inr ⟨by rfl, rfl⟩) hHeld ?_
        simp only [Act.put, List.setIfInBounds_toArray, List.set_cons_zero, List.set_cons_succ]
        refine wpAnyH_take (i := 27) (oi := { dst := some 54, op := Op.load 26 (Operand.tmp 5), type := 26, pos := "law.go:104", after := #[{ on := 21, ground := Ground.guard }], guard := some (21, true) }) (v := undef) rfl (by kernel_rfl) (by kernel_rfl) (by kernel_rfl) (fun _ _ _ h => h) (Or.inr ⟨by rfl, rfl⟩) hHeld ?_
        simp only [Act.put, List.setIfInBounds_toArray, List.set_cons_zero, List.set_cons_succ]
        refine wpAnyH_take (i := 28) (oi := { dst := some 55, op := Op.call { callee := Callee.value (Operand.func 23), args := #[Operand.tmp 53, Operand.tmp 54], argTypes := #[26, 26] }, type := 26, pos := "law.go:104", after := #[{ on := 26, ground := Ground.data }, { on := 27, ground := Ground.data }, { on := 25, ground := Ground.chain }, { on := 21, ground := Ground.guard }], guard := some (21, true) }) (v := undef) rfl (by kernel_rfl) (by kernel_rfl) (by kernel_rfl) (fun _ _ _ h => h) (Or.inr ⟨by rfl, rfl⟩) hHeld ?_
        simp only [Act.put, List.setIfInBounds_toArray, List.set_cons_zero, List.set_cons_succ]
        refine wpAnyH_take (i := 29) (oi := { dst := some 56, op := Op.call { callee := Callee.value (Operand.func 25), args := #[Operand.tmp 52, Operand.tmp 55], argTypes := #[26, 26] }, type := 3, pos := "law.go:104", after := #[{ on := 25, ground := Ground.data }, { on := 28, ground := Ground.data }, { on := 28, ground := Ground.chain }, { on := 21, ground := Ground.guard }], guard := some (21, true) }) (v := undef) rfl (by kernel_rfl) (by kernel_rfl) (by kernel_rfl) (fun _ _ _ h => h) (Or.inr ⟨by rfl, rfl⟩) hHeld ?_
        simp only [Act.put, List.setIfInBounds_toArray, List.set_cons_zero, List.set_cons_succ]
        refine wpAnyH_take (i := 30) (oi := { dst := some 57, op := Op.binOp BinOp.neq 3 (Operand.tmp 49) (Operand.tmp 56) 3, type := 4, pos := "law.go:104", after := #[{ on := 22, ground := Ground.data }, { on := 29, ground := Ground.data }, { on := 21, ground := Ground.guard }], guard := some (21, true) }) (v := undef) rfl (by kernel_rfl) (by kernel_rfl) (by kernel_rfl) (fun _ _ _ h => h) (Or.inr ⟨by rfl, rfl⟩) hHeld ?_
        simp only [Act.put, List.setIfInBounds_toArray, List.set_cons_zero, List.set_cons_succ]
        refine wpAnyH_take (i := 31) (oi := { dst := some 58, op := Op.pick (Operand.tmp 48) (Operand.tmp 57) (Operand.const (Value.bool false)), type := 4, pos := "law.go:104", after := #[{ on := 21, ground := Ground.data }, { on := 30, ground := Ground.data }, { on := 17, ground := Ground.guard }], guard := some (17, false) }) (v := ?_) rfl (by kernel_rfl) (by kernel_rfl) (by kernel_rfl) (fun _ _ _ h => h) (Or.inl ⟨by rfl, ?_⟩) hHeld ?_
        rotate_left
        · (intro w hSw; (try dsimp only at hSw); go_simp; try with_reducible rfl)
        simp only [Act.put, List.setIfInBounds_toArray, List.set_cons_zero, List.set_cons_succ]
        refine wpAnyH_take (i := 32) (oi := { dst := some 59, op := Op.pick (Operand.tmp 44) (Operand.const (Value.bool true)) (Operand.tmp 58), type := 4, pos := "law.go:104", after := #[{ on := 17, ground := Ground.data }, { on := 31, ground := Ground.data }], guard := none }) (v := ?_) rfl (by kernel_rfl) (by kernel_rfl) (by kernel_rfl) (fun _ _ _ h => h) (Or.inl ⟨by rfl, ?_⟩) hHeld ?_
        rotate_left
        · (intro w hSw; (try dsimp only at hSw); go_simp; try with_reducible rfl)
        simp only [Act.put, List.setIfInBounds_toArray, List.set_cons_zero, List.set_cons_succ]
        refine wpAnyH_done (by kernel_rfl) ?_ _
        go_wp2_with fail
        go_meet
        exact ⟨rfl, hb⟩
  case rest =>
    obtain ⟨rfl, hh⟩ := hcut
    replace a := a.below hh
    replace b := b.below hh
    replace cc := cc.below hh
    replace XA := XA.below hh
    replace XB := XB.below hh
    replace XC := XC.below hh
    replace hb := bend hb hh
    clear hh
    have xa0 := XA.c0
    have xa1 := XA.c1
    have xa2 := XA.c2
    have xb0 := XB.c0
    have xb1 := XB.c1
    have xb2 := XB.c2
    have xc0 := XC.c0
    have xc1 := XC.c1
    have xc2 := XC.c2
    go_upto_region 6 with (fail)
    go_cut [73] from 60 to 72 (fun t73 wx => t73 = .bool false ∧ Below wc.heap.size wc wx)
    case first =>
      replace hb : Below wc.heap.size wc wc := Below.refl _ _
      rcases HTR.out with h | ⟨h, h'⟩ | ⟨h, h', h''⟩
      all_goals
        go_wp2_with (first
          | (go_at_call 25; (with_reducible refine (rcmp_q b cc (by decide) (by decide) (by decide) (by decide) (by decide)).mono ?_); rintro e w_z ⟨rfl, hh⟩
             rw [HM.out]
             try replace a := a.below hh
             try replace b := b.below hh
             try replace cc := cc.below hh
             try replace f0 := f0.below hh
             try replace o := o.below hh
             try replace f := f.below hh
             try replace g0 := g0.below hh
             try replace g := g.below hh
             try replace dv := dv.below hh
             try replace x1 := x1.below hh
             try replace x2 := x2.below hh
             try replace x3 := x3.below hh
             try replace x4 := x4.below hh
             try replace XA := XA.below hh
             try replace XB := XB.below hh
             try replace XC := XC.below hh
             try replace XF := XF.below hh
             try replace XG := XG.below hh
             try replace XD := XD.below hh
             replace hb := bend hb hh
             have xa0 := XA.c0
             have xa1 := XA.c1
             have xa2 := XA.c2
             have xb0 := XB.c0
             have xb1 := XB.c1
             have xb2 := XB.c2
             have xc0 := XC.c0
             have xc1 := XC.c1
             have xc2 := XC.c2)
          | (go_at_call 25; (with_reducible refine (rcmp_q a cc (by decide) (by decide) (by decide) (by decide) (by decide)).mono ?_); rintro e w_z ⟨rfl, hh⟩
             rw [HP.out]
             try replace a := a.below hh
             try replace b := b.below hh
             try replace cc := cc.below hh
             try replace f0 := f0.below hh
             try replace o := o.below hh
             try replace f := f.below hh
             try replace g0 := g0.below hh
             try replace g := g.below hh
             try replace dv := dv.below hh
             try replace x1 := x1.below hh
             try replace x2 := x2.below hh
             try replace x3 := x3.below hh
             try replace x4 := x4.below hh
             try replace XA := XA.below hh
             try replace XB := XB.below hh
             try replace XC := XC.below hh
             try replace XF := XF.below hh
             try replace XG := XG.below hh
             try replace XD := XD.below hh
             replace hb := bend hb hh
             have xa0 := XA.c0
             have xa1 := XA.c1
             have xa2 := XA.c2
             have xb0 := XB.c0
             have xb1 := XB.c1
             have xb2 := XB.c2
             have xc0 := XC.c0
             have xc1 := XC.c1
             have xc2 := XC.c2))
        go_meet
        exact ⟨by first | rfl | (show Value.bool (decide (0 < P)) = _; rw [decide_eq_false (by omega)]), hb⟩
    case rest =>
      obtain ⟨rfl, hh⟩ := hcut
      replace a := a.below hh
      replace b := b.below hh
      replace cc := cc.below hh
      replace XA := XA.below hh
      replace XB := XB.below hh
      replace XC := XC.below hh
      replace hb := bend hb hh
      clear hh
      have xa0 := XA.c0
      have xa1 := XA.c1
      have xa2 := XA.c2
      have xb0 := XB.c0
      have xb1 := XB.c1
      have xb2 := XB.c2
      have xc0 := XC.c0
      have xc1 := XC.c1
      have xc2 := XC.c2
      have h10 : (1 : Int) ≠ 0 := by decide
      have H10 := Lib.hid h10
      clear h10
      go_upto_region 9 with (first
        | (go_at_call 40; (with_reducible refine (rfloor_q a (by decide) (by decide)).mono ?_); rintro e w_f0 ⟨s_f0, A_f0, n_f0, c_f0, rfl, f0, hh⟩
           try replace a := a.below hh
           try replace b := b.below hh
           try replace cc := cc.below hh
           try replace o := o.below hh
           try replace f := f.below hh
           try replace g0 := g0.below hh
           try replace g := g.below hh
           try replace dv := dv.below hh
           try replace x1 := x1.below hh
           try replace x2 := x2.below hh
           try replace x3 := x3.below hh
           try replace x4 := x4.below hh
           try replace XA := XA.below hh
           try replace XB := XB.below hh
           try replace XC := XC.below hh
           try replace XF := XF.below hh
           try replace XG := XG.below hh
           try replace XD := XD.below hh
           replace hb := bend hb hh
           have xa0 := XA.c0
           have xa1 := XA.c1
           have xa2 := XA.c2
           have xb0 := XB.c0
           have xb1 := XB.c1
           have xb2 := XB.c2
           have xc0 := XC.c0
           have xc1 := XC.c1
           have xc2 := XC.c2)
        | (go_at_call 51; (with_reducible refine (zof_zr 1 (by decide) (by decide) _).mono ?_); rintro e w_o ⟨s_o, A_o, n_o, c_o, rfl, o, hh⟩
           try replace a := a.below hh
           try replace b := b.below hh
           try replace cc := cc.below hh
           try replace f0 := f0.below hh
           try replace f := f.below hh
           try replace g0 := g0.below hh
           try replace g := g.below hh
           try replace dv := dv.below hh
           try replace x1 := x1.below hh
           try replace x2 := x2.below hh
           try replace x3 := x3.below hh
           try replace x4 := x4.below hh
           try replace XA := XA.below hh
           try replace XB := XB.below hh
           try replace XC := XC.below hh
           try replace XF := XF.below hh
           try replace XG := XG.below hh
           try replace XD := XD.below hh
           replace hb := bend hb hh
           have xa0 := XA.c0
           have xa1 := XA.c1
           have xa2 := XA.c2
           have xb0 := XB.c0
           have xb1 := XB.c1
           have xb2 := XB.c2
           have xc0 := XC.c0
           have xc1 := XC.c1
           have xc2 := XC.c2)
        | (go_at_call 35; (with_reducible refine (make_zr 13 f0.zr o (by decide) (by decide) H10.out (by decide) (by decide)).mono ?_); rintro e w_f ⟨s_f, A_f, n_f, c_f, B_f, m_f, d_f, rfl, f, hh⟩
           try replace a := a.below hh
           try replace b := b.below hh
           try replace cc := cc.below hh
           try replace f0 := f0.below hh
           try replace o := o.below hh
           try replace g0 := g0.below hh
           try replace g := g.below hh
           try replace dv := dv.below hh
           try replace x1 := x1.below hh
           try replace x2 := x2.below hh
           try replace x3 := x3.below hh
           try replace x4 := x4.below hh
           try replace XA := XA.below hh
           try replace XB := XB.below hh
           try replace XC := XC.below hh
           try replace XF := XF.below hh
           try replace XG := XG.below hh
           try replace XD := XD.below hh
           replace hb := bend hb hh
           have xa0 := XA.c0
           have xa1 := XA.c1
           have xa2 := XA.c2
           have xb0 := XB.c0
           have xb1 := XB.c1
           have xb2 := XB.c2
           have xc0 := XC.c0
           have xc1 := XC.c1
           have xc2 := XC.c2))
      generalize hW : (w_f.alloc (Obj.cells #[Value.bool s_f, Value.slice A_f n_f c_f, Value.slice B_f m_f d_f] 26)) = W8
      have hh : Below w_f.heap.size w_f W8 := by subst hW; exact ((Below.refl _ _).alloc (Nat.le_refl _) _)
      have XF : B3 W8 (w_f.heap.size) (Value.bool s_f) (Value.slice A_f n_f c_f) (Value.slice B_f m_f d_f) := by subst hW; exact B3.new' _ _ _ _ _ rfl
      have hzW8 : W8.heap.size = w_f.heap.size + 1 := by subst hW; simp
      clear hW
      try replace a := a.below hh
      try replace b := b.below hh
      try replace cc := cc.below hh
      try replace XA := XA.below hh
      try replace XB := XB.below hh
      try replace XC := XC.below hh
      try replace f := f.below hh
      replace hb := bend hb hh
      clear o
      have xa0 := XA.c0
      have xa1 := XA.c1
      have xa2 := XA.c2
      have xb0 := XB.c0
      have xb1 := XB.c1
      have xb2 := XB.c2
      have xc0 := XC.c0
      have xc1 := XC.c1
      have xc2 := XC.c2
      have xf0 := XF.c0
      have xf1 := XF.c1
      have xf2 := XF.c2
      go_upto_region 10 with (first
        | (go_at_call 43; (with_reducible refine (rceil_q a (by decide) (by decide)).mono ?_); rintro e w_g0 ⟨s_g0, A_g0, n_g0, c_g0, rfl, g0, hh⟩
           try replace a := a.below hh
           try replace b := b.below hh
           try replace cc := cc.below hh
           try replace f0 := f0.below hh
           try replace o := o.below hh
           try replace f := f.below hh
           try replace g := g.below hh
           try replace dv := dv.below hh
           try replace x1 := x1.below hh
           try replace x2 := x2.below hh
           try replace x3 := x3.below hh
           try replace x4 := x4.below hh
           try replace XA := XA.below hh
           try replace XB := XB.below hh
           try replace XC := XC.below hh
           try replace XF := XF.below hh
           try replace XG := XG.below hh
           try replace XD := XD.below hh
           replace hb := bend hb hh
           have xa0 := XA.c0
           have xa1 := XA.c1
           have xa2 := XA.c2
           have xb0 := XB.c0
           have xb1 := XB.c1
           have xb2 := XB.c2
           have xc0 := XC.c0
           have xc1 := XC.c1
           have xc2 := XC.c2
           have xf0 := XF.c0
           have xf1 := XF.c1
           have xf2 := XF.c2)
        | (go_at_call 51; (with_reducible refine (zof_zr 1 (by decide) (by decide) _).mono ?_); rintro e w_o ⟨s_o, A_o, n_o, c_o, rfl, o, hh⟩
           try replace a := a.below hh
           try replace b := b.below hh
           try replace cc := cc.below hh
           try replace f0 := f0.below hh
           try replace f := f.below hh
           try replace g0 := g0.below hh
           try replace g := g.below hh
           try replace dv := dv.below hh
           try replace x1 := x1.below hh
           try replace x2 := x2.below hh
           try replace x3 := x3.below hh
           try replace x4 := x4.below hh
           try replace XA := XA.below hh
           try replace XB := XB.below hh
           try replace XC := XC.below hh
           try replace XF := XF.below hh
           try replace XG := XG.below hh
           try replace XD := XD.below hh
           replace hb := bend hb hh
           have xa0 := XA.c0
           have xa1 := XA.c1
           have xa2 := XA.c2
           have xb0 := XB.c0
           have xb1 := XB.c1
           have xb2 := XB.c2
           have xc0 := XC.c0
           have xc1 := XC.c1
           have xc2 := XC.c2
           have xf0 := XF.c0
           have xf1 := XF.c1
           have xf2 := XF.c2)
        | (go_at_call 35; (with_reducible refine (make_zr 13 g0.zr o (by decide) (by decide) H10.out (by decide) (by decide)).mono ?_); rintro e w_g ⟨s_g, A_g, n_g, c_g, B_g, m_g, d_g, rfl, g, hh⟩
           try replace a := a.below hh
           try replace b := b.below hh
           try replace cc := cc.below hh
           try replace f0 := f0.below hh
           try replace o := o.below hh
           try replace f := f.below hh
           try replace g0 := g0.below hh
           try replace dv := dv.below hh
           try replace x1 := x1.below hh
           try replace x2 := x2.below hh
           try replace x3 := x3.below hh
           try replace x4 := x4.below hh
           try replace XA := XA.below hh
           try replace XB := XB.below hh
           try replace XC := XC.below hh
           try replace XF := XF.below hh
           try replace XG := XG.below hh
           try replace XD := XD.below hh
           replace hb := bend hb hh
           have xa0 := XA.c0
           have xa1 := XA.c1
           have xa2 := XA.c2
           have xb0 := XB.c0
           have xb1 := XB.c1
           have xb2 := XB.c2
           have xc0 := XC.c0
           have xc1 := XC.c1
           have xc2 := XC.c2
           have xf0 := XF.c0
           have xf1 := XF.c1
           have xf2 := XF.c2))
      generalize hW : (w_g.alloc (Obj.cells #[Value.bool s_g, Value.slice A_g n_g c_g, Value.slice B_g m_g d_g] 26)) = W9
      have hh : Below w_g.heap.size w_g W9 := by subst hW; exact ((Below.refl _ _).alloc (Nat.le_refl _) _)
      have XG : B3 W9 (w_g.heap.size) (Value.bool s_g) (Value.slice A_g n_g c_g) (Value.slice B_g m_g d_g) := by subst hW; exact B3.new' _ _ _ _ _ rfl
      have hzW9 : W9.heap.size = w_g.heap.size + 1 := by subst hW; simp
      clear hW
      try replace a := a.below hh
      try replace b := b.below hh
      try replace cc := cc.below hh
      try replace XA := XA.below hh
      try replace XB := XB.below hh
      try replace XC := XC.below hh
      try replace f := f.below hh
      try replace g := g.below hh
      try replace XF := XF.below hh
      replace hb := bend hb hh
      have xa0 := XA.c0
      have xa1 := XA.c1
      have xa2 := XA.c2
      have xb0 := XB.c0
      have xb1 := XB.c1
      have xb2 := XB.c2
      have xc0 := XC.c0
      have xc1 := XC.c1
      have xc2 := XC.c2
      have xf0 := XF.c0
      have xf1 := XF.c1
      have xf2 := XF.c2
      have xg0 := XG.c0
      have xg1 := XG.c1
      have xg2 := XG.c2
      go_upto_region 11 with (first
        | (go_at_call 21; (with_reducible refine (rsub_q g.qr f.qr (by decide) (by decide) (by decide) (by decide) (by decide)).mono ?_); rintro e w_dv ⟨s_dv, A_dv, n_dv, c_dv, B_dv, m_dv, d_dv, rfl, dv, hh⟩
           try replace a := a.below hh
           try replace b := b.below hh
           try replace cc := cc.below hh
           try replace f0 := f0.below hh
           try replace o := o.below hh
           try replace f := f.below hh
           try replace g0 := g0.below hh
           try replace g := g.below hh
           try replace x1 := x1.below hh
           try replace x2 := x2.below hh
           try replace x3 := x3.below hh
           try replace x4 := x4.below hh
           try replace XA := XA.below hh
           try replace XB := XB.below hh
           try replace XC := XC.below hh
           try replace XF := XF.below hh
           try replace XG := XG.below hh
           try replace XD := XD.below hh
           replace hb := bend hb hh))
      generalize hW : (w_dv.alloc (Obj.cells #[Value.bool s_dv, Value.slice A_dv n_dv c_dv, Value.slice B_dv m_dv d_dv] 26)) = W10
      have hh : Below w_dv.heap.size w_dv W10 := by subst hW; exact ((Below.refl _ _).alloc (Nat.le_refl _) _)
      have XD : B3 W10 (w_dv.heap.size) (Value.bool s_dv) (Value.slice A_dv n_dv c_dv) (Value.slice B_dv m_dv d_dv) := by subst hW; exact B3.new' _ _ _ _ _ rfl
      have hzW10 : W10.heap.size = w_dv.heap.size + 1 := by subst hW; simp
      clear hW
      try replace a := a.below hh
      try replace b := b.below hh
      try replace cc := cc.below hh
      try replace XA := XA.below hh
      try replace XB := XB.below hh
      try replace XC := XC.below hh
      try replace f := f.below hh
      try replace g := g.below hh
      try replace dv := dv.below hh
      try replace XF := XF.below hh
      try replace XG := XG.below hh
      replace hb := bend hb hh
      obtain ⟨KF, hKF, hKF0⟩ : ∃ KF, cmpQ (Rat.divInt va.floor 1) va = KF ∧ KF ≤ 0 := ⟨_, rfl, floor_le' va⟩
      obtain ⟨KG, hKG, hKG0⟩ : ∃ KG, cmpQ va (Rat.divInt va.ceil 1) = KG ∧ KG ≤ 0 := ⟨_, rfl, le_ceil' va⟩
      have HF := Lib.hid hKF
      have HG := Lib.hid hKG
      have hgp := gap_q va
      have HGP := Lib.hid hgp
      clear hKF hKG hgp
      rcases HGP.out with hd | hd
      · have HSd : Hid (sgnQ (Rat.divInt va.ceil 1 - Rat.divInt va.floor 1) = 0) := by show _ = _; rw [hd]; rfl
        clear hd
        replace a := a.below (Below.refl _ _).drew
        replace f := f.below (Below.refl _ _).drew
        replace g := g.below (Below.refl _ _).drew
        replace dv := dv.below (Below.refl _ _).drew
        replace XA := XA.below (Below.refl _ _).drew
        replace XF := XF.below (Below.refl _ _).drew
        replace XG := XG.below (Below.refl _ _).drew
        replace XD := XD.below (Below.refl _ _).drew
        replace hb := hb.drew
        refine wp_region_held_drew (S := (fun w' => w'.cell? ⟨w.heap.size, 0, none⟩ = some (.bool s1) ∧ w'.cell? ⟨w.heap.size, 1, none⟩ = some (.slice A1 n1 c1) ∧ w'.cell? ⟨w.heap.size, 2, none⟩ = some (.slice B1 m1 d1) ∧ w'.cell? ⟨w_f.heap.size, 0, none⟩ = some (.bool s_f) ∧ w'.cell? ⟨w_f.heap.size, 1, none⟩ = some (.slice A_f n_f c_f) ∧ w'.cell? ⟨w_f.heap.size, 2, none⟩ = some (.slice B_f m_f d_f) ∧ w'.cell? ⟨w_g.heap.size, 0, none⟩ = some (.bool s_g) ∧ w'.cell? ⟨w_g.heap.size, 1, none⟩ = some (.slice A_g n_g c_g) ∧ w'.cell? ⟨w_g.heap.size, 2, none⟩ = some (.slice B_g m_g d_g) ∧ w'.cell? ⟨w_dv.heap.size, 0, none⟩ = some (.bool s_dv) ∧ w'.cell? ⟨w_dv.heap.size, 1, none⟩ = some (.slice A_dv n_dv c_dv) ∧ w'.cell? ⟨w_dv.heap.size, 2, none⟩ = some (.slice B_dv m_dv d_dv))) (by kernel_rfl) ⟨XA.c0, XA.c1, XA.c2, XF.c0, XF.c1, XF.c2, XG.c0, XG.c1, XG.c2, XD.c0, XD.c1, XD.c2⟩ (fun hHeld => ?_)
        refine wpAnyH_take (i := 0) (oi := { dst := some 91, op := Op.move (Operand.tmp 9), type := 37, pos := "law.go:113", after := #[], guard := none }) (v := ?_) rfl (by kernel_rfl) (by kernel_rfl) (by kernel_rfl) (fun _ _ _ h => h) (Or.inl ⟨by rfl, ?_⟩) hHeld ?_
        rotate_left
        · (intro w hSw; (try dsimp only at hSw); go_simp; try with_reducible rfl)
        simp only [Act.put, List.setIfInBounds_toArray, List.set_cons_zero, List.set_cons_succ]
        refine wpAnyH_take (i := 1) (oi := { dst := some 92, op := Op.binOp BinOp.eql 37 (Operand.tmp 91) (Operand.const (Value.int IntKind.i64 0)) 37, type := 4, pos := "law.go:113", after := #[{ on := 0, ground := Ground.data }], guard := none }) (v := ?_) rfl (by kernel_rfl) (by kernel_rfl) (by kernel_rfl) (fun _ _ _ h => h) (Or.inl ⟨by rfl, ?_⟩) hHeld ?_
        rotate_left
        · (intro w hSw; (try dsimp only at hSw); go_simp; try with_reducible rfl)
        simp only [Act.put, List.setIfInBounds_toArray, List.set_cons_zero, List.set_cons_succ]
        refine wpAnyH_take (i := 2) (oi := { dst := some 93, op := Op.move (Operand.tmp 92), type := 4, pos := "law.go:113", after := #[{ on := 1, ground := Ground.data }], guard := none }) (v := ?_) rfl (by kernel_rfl) (by kernel_rfl) (by kernel_rfl) (fun _ _ _ h => h) (Or.inl ⟨by rfl, ?_⟩) hHeld ?_
        rotate_left
        · (intro w hSw; (try dsimp only at hSw); go_simp; try with_reducible rfl)
        simp only [Act.put, List.setIfInBounds_toArray, List.set_cons_zero, List.set_cons_succ]
        refine wpAnyH_take (i := 3) (oi := { dst := some 94, op := Op.move (Operand.tmp 11), type := 37, pos := "law.go:113", after := #[{ on := 2, ground := Ground.guard }], guard := some (2, true) }) (v := ?_) rfl (by kernel_rfl) (by kernel_rfl) (by kernel_rfl) (fun _ _ _ h => h) (Or.inl ⟨by rfl, ?_⟩) hHeld ?_
        rotate_left
        · (intro w hSw; (try dsimp only at hSw); go_simp; try with_reducible rfl)
        simp only [Act.put, List.setIfInBounds_toArray, List.set_cons_zero, List.set_cons_succ]
        refine wpAnyH_take (i := 4) (oi := { dst := some 95, op := Op.binOp BinOp.eql 37 (Operand.tmp 94) (Operand.const (Value.int IntKind.i64 0)) 37, type := 4, pos := "law.go:113", after := #[{ on := 3, ground := Ground.data }, { on := 2, ground := Ground.guard }], guard := some (2, true) }) (v := ?_) rfl (by kernel_rfl) (by kernel_rfl) (by kernel_rfl) (fun _ _ _ h => h) (Or.inl ⟨by rfl, ?_⟩) hHeld ?_
        rotate_left
        · (intro w hSw; (try dsimp only at hSw); go_simp; try with_reducible rfl)
        simp only [Act.put, List.setIfInBounds_toArray, List.set_cons_zero, List.set_cons_succ]
        refine wpAnyH_take (i := 5) (oi := { dst := some 96, op := Op.pick (Operand.tmp 93) (Operand.tmp 95) (Operand.const (Value.bool false)), type := 4, pos := "law.go:113", after := #[{ on := 2, ground := Ground.data }, { on := 4, ground := Ground.data }], guard := none }) (v := ?_) rfl (by kernel_rfl) (by kernel_rfl) (by kernel_rfl) (fun _ _ _ h => h) (Or.inl ⟨by rfl, ?_⟩) hHeld ?_
        rotate_left
        · (intro w hSw; (try dsimp only at hSw); go_simp; try with_reducible rfl)
        simp only [Act.put, List.setIfInBounds_toArray, List.set_cons_zero, List.set_cons_succ]
        refine wpAnyH_take (i := 6) (oi := { dst := some 97, op := Op.move (Operand.tmp 96), type := 4, pos := "law.go:113", after := #[{ on := 5, ground := Ground.data }, { on := 2, ground := Ground.chain }], guard := none }) (v := ?_) rfl (by kernel_rfl) (by kernel_rfl) (by kernel_rfl) (fun _ _ _ h => h) (Or.inl ⟨by rfl, ?_⟩) hHeld ?_
        rotate_left
        · (intro w hSw; (try dsimp only at hSw); go_simp; try with_reducible rfl)
        simp only [Act.put, List.setIfInBounds_toArray, List.set_cons_zero, List.set_cons_succ]
        refine wpAnyH_take (i := 7) (oi := { dst := some 98, op := Op.load 26 (Operand.tmp 8), type := 26, pos := "law.go:113", after := #[{ on := 6, ground := Ground.guard }], guard := some (6, true) }) (v := ?_) rfl (by kernel_rfl) (by kernel_rfl) (by kernel_rfl) (fun _ _ _ h => h) (Or.inl ⟨by rfl, ?_⟩) hHeld ?_
        rotate_left
        · (intro w hSw; (try dsimp only at hSw); go_simp; try with_reducible rfl)
        simp only [Act.put, List.setIfInBounds_toArray, List.set_cons_zero, List.set_cons_succ]
        refine wpAnyH_take (i := 8) (oi := { dst := some 99, op := Op.load 26 (Operand.tmp 3), type := 26, pos := "law.go:113", after := #[{ on := 6, ground := Ground.guard }], guard := some (6, true) }) (v := ?_) rfl (by kernel_rfl) (by kernel_rfl) (by kernel_rfl) (fun _ _ _ h => h) (Or.inl ⟨by rfl, ?_⟩) hHeld ?_
        rotate_left
        · (intro w hSw; (try dsimp only at hSw); go_simp; try with_reducible rfl)
        simp only [Act.put, List.setIfInBounds_toArray, List.set_cons_zero, List.set_cons_succ]
        refine wpAnyH_ready (rs := [9]) (by kernel_rfl) (by simp) ?_
        refine AllReadyH.cons (o := { dst := some 100, op := Op.call { callee := Callee.value (Operand.func 25), args := #[Operand.tmp 98, Operand.tmp 99], argTypes := #[26, 26] }, type := 3, pos := "law.go:113", after := #[{ on := 7, ground := Ground.data }, { on := 8, ground := Ground.data }, { on := 6, ground := Ground.chain }, { on := 6, ground := Ground.guard }], guard := some (6, true) }) rfl (fun K1 hK1 => ?_) AllReadyH.nil
        go_simp
        first
          | (go_at_call 25; (with_reducible refine (rcmp_q f.qr a (by decide) (by decide) (by decide) (by decide) (by decide)).mono ?_); rintro e w_z ⟨rfl, hh⟩
             rw [HF.out]
             try replace a := a.below hh
             try replace b := b.below hh
             try replace cc := cc.below hh
             try replace f0 := f0.below hh
             try replace o := o.below hh
             try replace f := f.below hh
             try replace g0 := g0.below hh
             try replace g := g.below hh
             try replace dv := dv.below hh
             try replace x1 := x1.below hh
             try replace x2 := x2.below hh
             try replace x3 := x3.below hh
             try replace x4 := x4.below hh
             try replace XA := XA.below hh
             try replace XB := XB.below hh
             try replace XC := XC.below hh
             try replace XF := XF.below hh
             try replace XG := XG.below hh
             try replace XD := XD.below hh
             replace hb := bend hb hh)
          | (go_at_call 25; (with_reducible refine (rcmp_q a g.qr (by decide) (by decide) (by decide) (by decide) (by decide)).mono ?_); rintro e w_z ⟨rfl, hh⟩
             rw [HG.out]
             try replace a := a.below hh
             try replace b := b.below hh
             try replace cc := cc.below hh
             try replace f0 := f0.below hh
             try replace o := o.below hh
             try replace f := f.below hh
             try replace g0 := g0.below hh
             try replace g := g.below hh
             try replace dv := dv.below hh
             try replace x1 := x1.below hh
             try replace x2 := x2.below hh
             try replace x3 := x3.below hh
             try replace x4 := x4.below hh
             try replace XA := XA.below hh
             try replace XB := XB.below hh
             try replace XC := XC.below hh
             try replace XF := XF.below hh
             try replace XG := XG.below hh
             try replace XD := XD.below hh
             replace hb := bend hb hh)
        refine hK1.out _ _ ⟨XA.c0, XA.c1, XA.c2, XF.c0, XF.c1, XF.c2, XG.c0, XG.c1, XG.c2, XD.c0, XD.c1, XD.c2⟩ (fun hHeld => ?_)
        clear hK1 K1
        refine wpAnyH_take (i := 10) (oi := { dst := some 101, op := Op.binOp BinOp.leq 3 (Operand.tmp 100) (Operand.const (Value.int IntKind.i64 0)) 3, type := 4, pos := "law.go:113", after := #[{ on := 9, ground := Ground.data }, { on := 6, ground := Ground.guard }], guard := some (6, true) }) (v := ?_) rfl (by kernel_rfl) (by kernel_rfl) (by kernel_rfl) (fun _ _ _ h => h) (Or.inl ⟨by rfl, ?_⟩) hHeld ?_
        rotate_left
        · (intro w hSw; (try dsimp only at hSw); go_simp; try with_reducible rfl)
        simp only [Act.put, List.setIfInBounds_toArray, List.set_cons_zero, List.set_cons_succ]
        refine wpAnyH_take (i := 11) (oi := { dst := some 102, op := Op.pick (Operand.tmp 97) (Operand.tmp 101) (Operand.const (Value.bool false)), type := 4, pos := "law.go:113", after := #[{ on := 6, ground := Ground.data }, { on := 10, ground := Ground.data }], guard := none }) (v := ?_) rfl (by kernel_rfl) (by kernel_rfl) (by kernel_rfl) (fun _ _ _ h => h) (Or.inl ⟨by rfl, ?_⟩) hHeld ?_
        rotate_left
        · (intro w hSw; (try dsimp only at hSw); go_simp; try with_reducible rfl)
        simp only [Act.put, List.setIfInBounds_toArray, List.set_cons_zero, List.set_cons_succ]
        refine wpAnyH_take (i := 12) (oi := { dst := some 103, op := Op.move (Operand.tmp 102), type := 4, pos := "law.go:113", after := #[{ on := 11, ground := Ground.data }, { on := 9, ground := Ground.chain }], guard := none }) (v := ?_) rfl (by kernel_rfl) (by kernel_rfl) (by kernel_rfl) (fun _ _ _ h => h) (Or.inl ⟨by rfl, ?_⟩) hHeld ?_
        rotate_left
        · (intro w hSw; (try dsimp only at hSw); go_simp; try with_reducible rfl)
        simp only [Act.put, List.setIfInBounds_toArray, List.set_cons_zero, List.set_cons_succ]
        refine wpAnyH_take (i := 13) (oi := { dst := some 104, op := Op.load 26 (Operand.tmp 3), type := 26, pos := "law.go:113", after := #[{ on := 12, ground := Ground.guard }], guard := some (12, true) }) (v := ?_) rfl (by kernel_rfl) (by kernel_rfl) (by kernel_rfl) (fun _ _ _ h => h) (Or.inl ⟨by rfl, ?_⟩) hHeld ?_
        rotate_left
        · (intro w hSw; (try dsimp only at hSw); go_simp; try with_reducible rfl)
        simp only [Act.put, List.setIfInBounds_toArray, List.set_cons_zero, List.set_cons_succ]
        refine wpAnyH_take (i := 14) (oi := { dst := some 105, op := Op.load 26 (Operand.tmp 10), type := 26, pos := "law.go:113", after := #[{ on := 12, ground := Ground.guard }], guard := some (12, true) }) (v := ?_) rfl (by kernel_rfl) (by kernel_rfl) (by kernel_rfl) (fun _ _ _ h => h) (Or.inl ⟨by rfl, ?_⟩) hHeld ?_
        rotate_left
        · (intro w hSw; (try dsimp only at hSw); go_simp; try with_reducible rfl)
        simp only [Act.put, List.setIfInBounds_toArray, List.set_cons_zero, List.set_cons_succ]
        refine wpAnyH_ready (rs := [15]) (by kernel_rfl) (by simp) ?_
        refine AllReadyH.cons (o := { dst := some 106, op := Op.call { callee := Callee.value (Operand.func 25), args := #[Operand.tmp 104, Operand.tmp 105], argTypes := #[26, 26] }, type := 3, pos := "law.go:113", after := #[{ on := 13, ground := Ground.data }, { on := 14, ground := Ground.data }, { on := 12, ground := Ground.chain }, { on := 12, ground := Ground.guard }], guard := some (12, true) }) rfl (fun K1 hK1 => ?_) AllReadyH.nil
        go_simp
        first
          | (go_at_call 25; (with_reducible refine (rcmp_q f.qr a (by decide) (by decide) (by decide) (by decide) (by decide)).mono ?_); rintro e w_z ⟨rfl, hh⟩
             rw [HF.out]
             try replace a := a.below hh
             try replace b := b.below hh
             try replace cc := cc.below hh
             try replace f0 := f0.below hh
             try replace o := o.below hh
             try replace f := f.below hh
             try replace g0 := g0.below hh
             try replace g := g.below hh
             try replace dv := dv.below hh
             try replace x1 := x1.below hh
             try replace x2 := x2.below hh
             try replace x3 := x3.below hh
             try replace x4 := x4.below hh
             try replace XA := XA.below hh
             try replace XB := XB.below hh
             try replace XC := XC.below hh
             try replace XF := XF.below hh
             try replace XG := XG.below hh
             try replace XD := XD.below hh
             replace hb := bend hb hh)
          | (go_at_call 25; (with_reducible refine (rcmp_q a g.qr (by decide) (by decide) (by decide) (by decide) (by decide)).mono ?_); rintro e w_z ⟨rfl, hh⟩
             rw [HG.out]
             try replace a := a.below hh
             try replace b := b.below hh
             try replace cc := cc.below hh
             try replace f0 := f0.below hh
             try replace o := o.below hh
             try replace f := f.below hh
             try replace g0 := g0.below hh
             try replace g := g.below hh
             try replace dv := dv.below hh
             try replace x1 := x1.below hh
             try replace x2 := x2.below hh
             try replace x3 := x3.below hh
             try replace x4 := x4.below hh
             try replace XA := XA.below hh
             try replace XB := XB.below hh
             try replace XC := XC.below hh
             try replace XF := XF.below hh
             try replace XG := XG.below hh
             try replace XD := XD.below hh
             replace hb := bend hb hh)
        refine hK1.out _ _ ⟨XA.c0, XA.c1, XA.c2, XF.c0, XF.c1, XF.c2, XG.c0, XG.c1, XG.c2, XD.c0, XD.c1, XD.c2⟩ (fun hHeld => ?_)
        clear hK1 K1
        refine wpAnyH_take (i := 16) (oi := { dst := some 107, op := Op.binOp BinOp.leq 3 (Operand.tmp 106) (Operand.const (Value.int IntKind.i64 0)) 3, type := 4, pos := "law.go:113", after := #[{ on := 15, ground := Ground.data }, { on := 12, ground := Ground.guard }], guard := some (12, true) }) (v := ?_) rfl (by kernel_rfl) (by kernel_rfl) (by kernel_rfl) (fun _ _ _ h => h) (Or.inl ⟨by rfl, ?_⟩) hHeld ?_
        rotate_left
        · (intro w hSw; (try dsimp only at hSw); go_simp; try with_reducible rfl)
        simp only [Act.put, List.setIfInBounds_toArray, List.set_cons_zero, List.set_cons_succ]
        refine wpAnyH_take (i := 17) (oi := { dst := some 108, op := Op.pick (Operand.tmp 103) (Operand.tmp 107) (Operand.const (Value.bool false)), type := 4, pos := "law.go:113", after := #[{ on := 12, ground := Ground.data }, { on := 16, ground := Ground.data }], guard := none }) (v := ?_) rfl (by kernel_rfl) (by kernel_rfl) (by kernel_rfl) (fun _ _ _ h => h) (Or.inl ⟨by rfl, ?_⟩) hHeld ?_
        rotate_left
        · (intro w hSw; (try dsimp only at hSw); go_simp; try with_reducible rfl)
        simp only [Act.put, List.setIfInBounds_toArray, List.set_cons_zero, List.set_cons_succ]
        refine wpAnyH_take (i := 18) (oi := { dst := some 109, op := Op.move (Operand.tmp 108), type := 4, pos := "law.go:113", after := #[{ on := 17, ground := Ground.data }, { on := 15, ground := Ground.chain }], guard := none }) (v := ?_) rfl (by kernel_rfl) (by kernel_rfl) (by kernel_rfl) (fun _ _ _ h => h) (Or.inl ⟨by rfl, ?_⟩) hHeld ?_
        rotate_left
        · (intro w hSw; (try dsimp only at hSw); go_simp; try with_reducible rfl)
        simp only [Act.put, List.setIfInBounds_toArray, List.set_cons_zero, List.set_cons_succ]
        refine wpAnyH_take (i := 19) (oi := { dst := some 110, op := Op.load 26 (Operand.tmp 12), type := 26, pos := "law.go:113", after := #[{ on := 18, ground := Ground.guard }], guard := some (18, true) }) (v := ?_) rfl (by kernel_rfl) (by kernel_rfl) (by kernel_rfl) (fun _ _ _ h => h) (Or.inl ⟨by rfl, ?_⟩) hHeld ?_
        rotate_left
        · (intro w hSw; (try dsimp only at hSw); go_simp; try with_reducible rfl)
        simp only [Act.put, List.setIfInBounds_toArray, List.set_cons_zero, List.set_cons_succ]
        refine wpAnyH_ready (rs := [20]) (by kernel_rfl) (by simp) ?_
        refine AllReadyH.cons (o := { dst := some 111, op := Op.call { callee := Callee.value (Operand.func 27), args := #[Operand.tmp 110], argTypes := #[26] }, type := 3, pos := "law.go:113", after := #[{ on := 19, ground := Ground.data }, { on := 18, ground := Ground.chain }, { on := 18, ground := Ground.guard }], guard := some (18, true) }) rfl (fun K1 hK1 => ?_) AllReadyH.nil
        go_simp
        first
          | (go_at_call 27; (with_reducible refine (rsign_q dv.qr (by decide) (by decide)).mono ?_); rintro e w_z ⟨rfl, hh⟩
             rw [HSd.out]
             try replace a := a.below hh
             try replace b := b.below hh
             try replace cc := cc.below hh
             try replace f0 := f0.below hh
             try replace o := o.below hh
             try replace f := f.below hh
             try replace g0 := g0.below hh
             try replace g := g.below hh
             try replace dv := dv.below hh
             try replace x1 := x1.below hh
             try replace x2 := x2.below hh
             try replace x3 := x3.below hh
             try replace x4 := x4.below hh
             try replace XA := XA.below hh
             try replace XB := XB.below hh
             try replace XC := XC.below hh
             try replace XF := XF.below hh
             try replace XG := XG.below hh
             try replace XD := XD.below hh
             replace hb := bend hb hh)
        refine hK1.out _ _ ⟨XA.c0, XA.c1, XA.c2, XF.c0, XF.c1, XF.c2, XG.c0, XG.c1, XG.c2, XD.c0, XD.c1, XD.c2⟩ (fun hHeld => ?_)
        clear hK1 K1
        refine wpAnyH_take (i := 21) (oi := { dst := some 112, op := Op.binOp BinOp.eql 3 (Operand.tmp 111) (Operand.const (Value.int IntKind.i64 0)) 3, type := 4, pos := "law.go:113", after := #[{ on := 20, ground := Ground.data }, { on := 18, ground := Ground.guard }], guard := some (18, true) }) (v := ?_) rfl (by kernel_rfl) (by kernel_rfl) (by kernel_rfl) (fun _ _ _ h => h) (Or.inl ⟨by rfl, ?_⟩) hHeld ?_
        rotate_left
        · (intro w hSw; (try dsimp only at hSw); go_simp; try with_reducible rfl)
        simp only [Act.put, List.setIfInBounds_toArray, List.set_cons_zero, List.set_cons_succ]
        refine wpAnyH_take (i := 22) (oi := { dst := some 113, op := Op.move (Operand.tmp 112), type := 4, pos := "law.go:113", after := #[{ on := 21, ground := Ground.data }, { on := 20, ground := Ground.chain }, { on := 18, ground := Ground.guard }], guard := some (18, true) }) (v := ?_) rfl (by kernel_rfl) (by kernel_rfl) (by kernel_rfl) (fun _ _ _ h => h) (Or.inl ⟨by rfl, ?_⟩) hHeld ?_
        rotate_left
        · (intro w hSw; (try dsimp only at hSw); go_simp; try with_reducible rfl)
        simp only [Act.put, List.setIfInBounds_toArray, List.set_cons_zero, List.set_cons_succ]
        refine wpAnyH_take (i := 23) (oi := { dst := some 114, op := Op.load 26 (Operand.tmp 12), type := 26, pos := "law.go:113", after := #[{ on := 22, ground := Ground.guard }], guard := some (22, false) }) (v := undef) rfl (by kernel_rfl) (by kernel_rfl) (by kernel_rfl) (fun _ _ _ h => h) (Or.inr ⟨by rfl, rfl⟩) hHeld ?_
        simp only [Act.put, List.setIfInBounds_toArray, List.set_cons_zero, List.set_cons_succ]
        refine wpAnyH_take (i := 24) (oi := { dst := some 115, op := Op.call { callee := Callee.value (Operand.func 45), args := #[Operand.const (Value.int IntKind.i64 1), Operand.const (Value.int IntKind.i64 1)], argTypes := #[2, 2] }, type := 26, pos := "law.go:113", after := #[{ on := 22, ground := Ground.chain }, { on := 22, ground := Ground.guard }], guard := some (22, false) }) (v := undef) rfl (by kernel_rfl) (by kernel_rfl) (by kernel_rfl) (fun _ _ _ h => h) (Or.inr ⟨by rfl, rfl⟩) hHeld ?_
        simp only [Act.put, List.setIfInBounds_toArray, List.set_cons_zero, List.set_cons_succ]
        refine wpAnyH_take (i := 25) (oi := { dst := some 116, op := Op.call { callee := Callee.value (Operand.func 25), args := #[Operand.tmp 114, Operand.tmp 115], argTypes := #[26, 26] }, type := 3, pos := "law.go:113", after := #[{ on := 23, ground := Ground.data }, { on := 24, ground := Ground.data }, { on := 24, ground := Ground.chain }, { on := 22, ground := Ground.guard }], guard := some (22, false) }) (v := undef) rfl (by kernel_rfl) (by kernel_rfl) (by kernel_rfl) (fun _ _ _ h => h) (Or.inr ⟨by rfl, rfl⟩) hHeld ?_
        simp only [Act.put, List.setIfInBounds_toArray, List.set_cons_zero, List.set_cons_succ]
        refine wpAnyH_take (i := 26) (oi := { dst := some 117, op := Op.binOp BinOp.eql 3 (Operand.tmp 116) (Operand.const (Value.int IntKind.i64 0)) 3, type := 4, pos := "law.go:113", after := #[{ on := 25, ground := Ground.data }, { on := 22, ground := Ground.guard }], guard := some (22, false) }) (v := undef) rfl (by kernel_rfl) (by kernel_rfl) (by kernel_rfl) (fun _ _ _ h => h) (Or.inr ⟨by rfl, rfl⟩) hHeld ?_
        simp only [Act.put, List.setIfInBounds_toArray, List.set_cons_zero, List.set_cons_succ]
        refine wpAnyH_take (i := 27) (oi := { dst := some 118, op := Op.pick (Operand.tmp 113) (Operand.const (Value.bool true)) (Operand.tmp 117), type := 4, pos := "law.go:113", after := #[{ on := 22, ground := Ground.data }, { on := 26, ground := Ground.data }, { on := 18, ground := Ground.guard }], guard := some (18, true) }) (v := ?_) rfl (by kernel_rfl) (by kernel_rfl) (by kernel_rfl) (fun _ _ _ h => h) (Or.inl ⟨by rfl, ?_⟩) hHeld ?_
        rotate_left
        · (intro w hSw; (try dsimp only at hSw); go_simp; try with_reducible rfl)
        simp only [Act.put, List.setIfInBounds_toArray, List.set_cons_zero, List.set_cons_succ]
        refine wpAnyH_take (i := 28) (oi := { dst := some 119, op := Op.pick (Operand.tmp 109) (Operand.tmp 118) (Operand.const (Value.bool false)), type := 4, pos := "law.go:113", after := #[{ on := 18, ground := Ground.data }, { on := 27, ground := Ground.data }], guard := none }) (v := ?_) rfl (by kernel_rfl) (by kernel_rfl) (by kernel_rfl) (fun _ _ _ h => h) (Or.inl ⟨by rfl, ?_⟩) hHeld ?_
        rotate_left
        · (intro w hSw; (try dsimp only at hSw); go_simp; try with_reducible rfl)
        simp only [Act.put, List.setIfInBounds_toArray, List.set_cons_zero, List.set_cons_succ]
        refine wpAnyH_take (i := 29) (oi := { dst := some 120, op := Op.move (Operand.tmp 119), type := 4, pos := "law.go:113", after := #[{ on := 28, ground := Ground.data }, { on := 25, ground := Ground.chain }], guard := none }) (v := ?_) rfl (by kernel_rfl) (by kernel_rfl) (by kernel_rfl) (fun _ _ _ h => h) (Or.inl ⟨by rfl, ?_⟩) hHeld ?_
        rotate_left
        · (intro w hSw; (try dsimp only at hSw); go_simp; try with_reducible rfl)
        simp only [Act.put, List.setIfInBounds_toArray, List.set_cons_zero, List.set_cons_succ]
        refine wpAnyH_ready (rs := [30]) (by kernel_rfl) (by simp) ?_
        refine AllReadyH.cons (o := { dst := some 121, op := Op.call { callee := Callee.value (Operand.func 12), args := #[], argTypes := #[] }, type := 4, pos := "law.go:113", after := #[{ on := 29, ground := Ground.chain }, { on := 29, ground := Ground.guard }], guard := some (29, true) }) rfl (fun K1 hK1 => ?_) AllReadyH.nil
        go_simp
        first
          | (go_at_call 12; (with_reducible refine (qwakes_any _).mono ?_); rintro e w_z ⟨rfl, hh⟩
             try replace a := a.below hh
             try replace b := b.below hh
             try replace cc := cc.below hh
             try replace f0 := f0.below hh
             try replace o := o.below hh
             try replace f := f.below hh
             try replace g0 := g0.below hh
             try replace g := g.below hh
             try replace dv := dv.below hh
             try replace x1 := x1.below hh
             try replace x2 := x2.below hh
             try replace x3 := x3.below hh
             try replace x4 := x4.below hh
             try replace XA := XA.below hh
             try replace XB := XB.below hh
             try replace XC := XC.below hh
             try replace XF := XF.below hh
             try replace XG := XG.below hh
             try replace XD := XD.below hh
             replace hb := bend hb hh)
        refine hK1.out _ _ ⟨XA.c0, XA.c1, XA.c2, XF.c0, XF.c1, XF.c2, XG.c0, XG.c1, XG.c2, XD.c0, XD.c1, XD.c2⟩ (fun hHeld => ?_)
        clear hK1 K1
        refine wpAnyH_take (i := 31) (oi := { dst := some 122, op := Op.pick (Operand.tmp 120) (Operand.tmp 121) (Operand.const (Value.bool false)), type := 4, pos := "law.go:113", after := #[{ on := 29, ground := Ground.data }, { on := 30, ground := Ground.data }], guard := none }) (v := ?_) rfl (by kernel_rfl) (by kernel_rfl) (by kernel_rfl) (fun _ _ _ h => h) (Or.inl ⟨by rfl, ?_⟩) hHeld ?_
        rotate_left
        · (intro w hSw; (try dsimp only at hSw); go_simp; try with_reducible rfl)
        simp only [Act.put, List.setIfInBounds_toArray, List.set_cons_zero, List.set_cons_succ]
        refine wpAnyH_take (i := 32) (oi := { dst := some 6, op := Op.assign (Operand.tmp 122), type := 4, pos := "law.go:113", after := #[{ on := 31, ground := Ground.data }, { on := 30, ground := Ground.chain }, { on := 0, ground := Ground.phase }, { on := 1, ground := Ground.phase }, { on := 2, ground := Ground.phase }, { on := 3, ground := Ground.phase }, { on := 4, ground := Ground.phase }, { on := 5, ground := Ground.phase }, { on := 6, ground := Ground.phase }, { on := 7, ground := Ground.phase }, { on := 8, ground := Ground.phase }, { on := 9, ground := Ground.phase }, { on := 10, ground := Ground.phase }, { on := 11, ground := Ground.phase }, { on := 12, ground := Ground.phase }, { on := 13, ground := Ground.phase }, { on := 14, ground := Ground.phase }, { on := 15, ground := Ground.phase }, { on := 16, ground := Ground.phase }, { on := 17, ground := Ground.phase }, { on := 18, ground := Ground.phase }, { on := 19, ground := Ground.phase }, { on := 20, ground := Ground.phase }, { on := 21, ground := Ground.phase }, { on := 22, ground := Ground.phase }, { on := 23, ground := Ground.phase }, { on := 24, ground := Ground.phase }, { on := 25, ground := Ground.phase }, { on := 26, ground := Ground.phase }, { on := 27, ground := Ground.phase }, { on := 28, ground := Ground.phase }, { on := 29, ground := Ground.phase }, { on := 30, ground := Ground.phase }, { on := 31, ground := Ground.phase }], guard := none }) (v := ?_) rfl (by kernel_rfl) (by kernel_rfl) (by kernel_rfl) (fun _ _ _ h => h) (Or.inl ⟨by rfl, ?_⟩) hHeld ?_
        rotate_left
        · (intro w hSw; (try dsimp only at hSw); go_simp; try with_reducible rfl)
        simp only [Act.put, List.setIfInBounds_toArray, List.set_cons_zero, List.set_cons_succ]
        refine wpAnyH_done (by kernel_rfl) ?_ _
        go_wp2_with fail
        go_ret
        exact ⟨rfl, hb⟩
      · have HSd : Hid (sgnQ (Rat.divInt va.ceil 1 - Rat.divInt va.floor 1) = 1) := by show _ = _; rw [hd]; decide +kernel
        have HD1 : Hid (cmpQ (Rat.divInt va.ceil 1 - Rat.divInt va.floor 1) (Rat.divInt 1 1) = 0) := by show _ = _; rw [hd]; decide +kernel
        clear hd
        replace a := a.below (Below.refl _ _).drew
        replace f := f.below (Below.refl _ _).drew
        replace g := g.below (Below.refl _ _).drew
        replace dv := dv.below (Below.refl _ _).drew
        replace XA := XA.below (Below.refl _ _).drew
        replace XF := XF.below (Below.refl _ _).drew
        replace XG := XG.below (Below.refl _ _).drew
        replace XD := XD.below (Below.refl _ _).drew
        replace hb := hb.drew
        go_region_held3 (fun w' => w'.cell? ⟨w.heap.size, 0, none⟩ = some (.bool s1) ∧ w'.cell? ⟨w.heap.size, 1, none⟩ = some (.slice A1 n1 c1) ∧ w'.cell? ⟨w.heap.size, 2, none⟩ = some (.slice B1 m1 d1) ∧ w'.cell? ⟨w_f.heap.size, 0, none⟩ = some (.bool s_f) ∧ w'.cell? ⟨w_f.heap.size, 1, none⟩ = some (.slice A_f n_f c_f) ∧ w'.cell? ⟨w_f.heap.size, 2, none⟩ = some (.slice B_f m_f d_f) ∧ w'.cell? ⟨w_g.heap.size, 0, none⟩ = some (.bool s_g) ∧ w'.cell? ⟨w_g.heap.size, 1, none⟩ = some (.slice A_g n_g c_g) ∧ w'.cell? ⟨w_g.heap.size, 2, none⟩ = some (.slice B_g m_g d_g) ∧ w'.cell? ⟨w_dv.heap.size, 0, none⟩ = some (.bool s_dv) ∧ w'.cell? ⟨w_dv.heap.size, 1, none⟩ = some (.slice A_dv n_dv c_dv) ∧ w'.cell? ⟨w_dv.heap.size, 2, none⟩ = some (.slice B_dv m_dv d_dv))
          (first | with_reducible exact ⟨XA.c0, XA.c1, XA.c2, XF.c0, XF.c1, XF.c2, XG.c0, XG.c1, XG.c2, XD.c0, XD.c1, XD.c2⟩)
          (first
          | (go_at_call 25; (with_reducible refine (rcmp_q f.qr a (by decide) (by decide) (by decide) (by decide) (by decide)).mono ?_); rintro e w_z ⟨rfl, hh⟩
             rw [HF.out]
             try replace a := a.below hh
             try replace b := b.below hh
             try replace cc := cc.below hh
             try replace f0 := f0.below hh
             try replace o := o.below hh
             try replace f := f.below hh
             try replace g0 := g0.below hh
             try replace g := g.below hh
             try replace dv := dv.below hh
             try replace x1 := x1.below hh
             try replace x2 := x2.below hh
             try replace x3 := x3.below hh
             try replace x4 := x4.below hh
             try replace XA := XA.below hh
             try replace XB := XB.below hh
             try replace XC := XC.below hh
             try replace XF := XF.below hh
             try replace XG := XG.below hh
             try replace XD := XD.below hh
             replace hb := bend hb hh)
          | (go_at_call 25; (with_reducible refine (rcmp_q a g.qr (by decide) (by decide) (by decide) (by decide) (by decide)).mono ?_); rintro e w_z ⟨rfl, hh⟩
             rw [HG.out]
             try replace a := a.below hh
             try replace b := b.below hh
             try replace cc := cc.below hh
             try replace f0 := f0.below hh
             try replace o := o.below hh
             try replace f := f.below hh
             try replace g0 := g0.below hh
             try replace g := g.below hh
             try replace dv := dv.below hh
             try replace x1 := x1.below hh
             try replace x2 := x2.below hh
             try replace x3 := x3.below hh
             try replace x4 := x4.below hh
             try replace XA := XA.below hh
             try replace XB := XB.below hh
             try replace XC := XC.below hh
             try replace XF := XF.below hh
             try replace XG := XG.below hh
             try replace XD := XD.below hh
             replace hb := bend hb hh)
          | (go_at_call 27; (with_reducible refine (rsign_q dv.qr (by decide) (by decide)).mono ?_); rintro e w_z ⟨rfl, hh⟩
             rw [HSd.out]
             try replace a := a.below hh
             try replace b := b.below hh
             try replace cc := cc.below hh
             try replace f0 := f0.below hh
             try replace o := o.below hh
             try replace f := f.below hh
             try replace g0 := g0.below hh
             try replace g := g.below hh
             try replace dv := dv.below hh
             try replace x1 := x1.below hh
             try replace x2 := x2.below hh
             try replace x3 := x3.below hh
             try replace x4 := x4.below hh
             try replace XA := XA.below hh
             try replace XB := XB.below hh
             try replace XC := XC.below hh
             try replace XF := XF.below hh
             try replace XG := XG.below hh
             try replace XD := XD.below hh
             replace hb := bend hb hh)
          | (go_at_call 45; (with_reducible refine (rof_q 1 1 (by decide) (by decide) (by decide) (by decide) (by decide) _).mono ?_); rintro e w_x1 ⟨s_x1, A_x1, n_x1, c_x1, B_x1, m_x1, d_x1, rfl, x1, hh⟩
             try replace a := a.below hh
             try replace b := b.below hh
             try replace cc := cc.below hh
             try replace f0 := f0.below hh
             try replace o := o.below hh
             try replace f := f.below hh
             try replace g0 := g0.below hh
             try replace g := g.below hh
             try replace dv := dv.below hh
             try replace x2 := x2.below hh
             try replace x3 := x3.below hh
             try replace x4 := x4.below hh
             try replace XA := XA.below hh
             try replace XB := XB.below hh
             try replace XC := XC.below hh
             try replace XF := XF.below hh
             try replace XG := XG.below hh
             try replace XD := XD.below hh
             replace hb := bend hb hh)
          | (go_at_call 25; (with_reducible refine (rcmp_q dv.qr x1.qr (by decide) (by decide) (by decide) (by decide) (by decide)).mono ?_); rintro e w_z ⟨rfl, hh⟩
             rw [HD1.out]
             try replace a := a.below hh
             try replace b := b.below hh
             try replace cc := cc.below hh
             try replace f0 := f0.below hh
             try replace o := o.below hh
             try replace f := f.below hh
             try replace g0 := g0.below hh
             try replace g := g.below hh
             try replace dv := dv.below hh
             try replace x1 := x1.below hh
             try replace x2 := x2.below hh
             try replace x3 := x3.below hh
             try replace x4 := x4.below hh
             try replace XA := XA.below hh
             try replace XB := XB.below hh
             try replace XC := XC.below hh
             try replace XF := XF.below hh
             try replace XG := XG.below hh
             try replace XD := XD.below hh
             replace hb := bend hb hh)
          | (go_at_call 12; (with_reducible refine (qwakes_any _).mono ?_); rintro e w_z ⟨rfl, hh⟩
             try replace a := a.below hh
             try replace b := b.below hh
             try replace cc := cc.below hh
             try replace f0 := f0.below hh
             try replace o := o.below hh
             try replace f := f.below hh
             try replace g0 := g0.below hh
             try replace g := g.below hh
             try replace dv := dv.below hh
             try replace x1 := x1.below hh
             try replace x2 := x2.below hh
             try replace x3 := x3.below hh
             try replace x4 := x4.below hh
             try replace XA := XA.below hh
             try replace XB := XB.below hh
             try replace XC := XC.below hh
             try replace XF := XF.below hh
             try replace XG := XG.below hh
             try replace XD := XD.below hh
             replace hb := bend hb hh))
        go_wp2_with fail
        go_ret
        exact ⟨rfl, hb⟩

set_option maxRecDepth 100000 in
set_option maxHeartbeats 8000000 in
theorem order_large1 {w : World} {s1 s2 s3 : Bool} {A1 B1 A2 B2 A3 E3 : Option Addr} {n1 c1 m1 d1 n2 c2 m2 d2 n3 c3 m3 d3 : Nat} (hl : ¬ (n1 ≤ 12 ∧ m1 ≤ 12)) :
    Calls Tryz.prog 7 #[.agg #[.bool s1, .slice A1 n1 c1, .slice B1 m1 d1], .agg #[.bool s2, .slice A2 n2 c2, .slice B2 m2 d2], .agg #[.bool s3, .slice A3 n3 c3, .slice E3 m3 d3]] w fun e w' => e = .returned (.bool true) ∧ Below w.heap.size w w' := by
  have HL := Lib.hid hl
  clear hl
  go_enter Tryz.func7, Tryz.ntmps7
  go_wp2_with fail
  generalize hW : (((w.alloc (Obj.cells #[Value.bool s1, Value.slice A1 n1 c1, Value.slice B1 m1 d1] 26)).alloc (Obj.cells #[Value.bool s2, Value.slice A2 n2 c2, Value.slice B2 m2 d2] 26)).alloc (Obj.cells #[Value.bool s3, Value.slice A3 n3 c3, Value.slice E3 m3 d3] 26)) = W
  have hb : Below w.heap.size w W := by subst hW; exact ((((Below.refl _ _).alloc (Nat.le_refl _) _).alloc (by simp) _).alloc (by simp; omega) _)
  have XA : B3 W (w.heap.size) (Value.bool s1) (Value.slice A1 n1 c1) (Value.slice B1 m1 d1) := by subst hW; exact ((B3.new' _ _ _ _ _ rfl).alloc _).alloc _
  have XB : B3 W (w.heap.size + 1) (Value.bool s2) (Value.slice A2 n2 c2) (Value.slice B2 m2 d2) := by subst hW; exact (B3.new' _ _ _ _ _ (by simp)).alloc _
  have XC : B3 W (w.heap.size + 1 + 1) (Value.bool s3) (Value.slice A3 n3 c3) (Value.slice E3 m3 d3) := by subst hW; exact B3.new' _ _ _ _ _ (by simp)
  have hzW : W.heap.size = w.heap.size + 3 := by subst hW; simp
  clear hW
  have xa0 := XA.c0
  have xa1 := XA.c1
  have xa2 := XA.c2
  have xb0 := XB.c0
  have xb1 := XB.c1
  have xb2 := XB.c2
  have xc0 := XC.c0
  have xc1 := XC.c1
  have xc2 := XC.c2
  go_wp2_with (first
      | (go_at_call 11; (with_reducible refine (qlarge_yes s1 A1 B1 n1 c1 m1 d1 _ HL.out).mono ?_); rintro e w_z ⟨rfl, hh⟩
         try replace a := a.below hh
         try replace b := b.below hh
         try replace cc := cc.below hh
         try replace f0 := f0.below hh
         try replace o := o.below hh
         try replace f := f.below hh
         try replace g0 := g0.below hh
         try replace g := g.below hh
         try replace dv := dv.below hh
         try replace x1 := x1.below hh
         try replace x2 := x2.below hh
         try replace x3 := x3.below hh
         try replace x4 := x4.below hh
         try replace XA := XA.below hh
         try replace XB := XB.below hh
         try replace XC := XC.below hh
         try replace XF := XF.below hh
         try replace XG := XG.below hh
         try replace XD := XD.below hh
         replace hb := bend hb hh
         have xa0 := XA.c0
         have xa1 := XA.c1
         have xa2 := XA.c2
         have xb0 := XB.c0
         have xb1 := XB.c1
         have xb2 := XB.c2
         have xc0 := XC.c0
         have xc1 := XC.c1
         have xc2 := XC.c2)
      | (go_at_call 12; (with_reducible refine (qwakes_any _).mono ?_); rintro e w_z ⟨rfl, hh⟩
         try replace a := a.below hh
         try replace b := b.below hh
         try replace cc := cc.below hh
         try replace f0 := f0.below hh
         try replace o := o.below hh
         try replace f := f.below hh
         try replace g0 := g0.below hh
         try replace g := g.below hh
         try replace dv := dv.below hh
         try replace x1 := x1.below hh
         try replace x2 := x2.below hh
         try replace x3 := x3.below hh
         try replace x4 := x4.below hh
         try replace XA := XA.below hh
         try replace XB := XB.below hh
         try replace XC := XC.below hh
         try replace XF := XF.below hh
         try replace XG := XG.below hh
         try replace XD := XD.below hh
         replace hb := bend hb hh))
  go_ret
  exact ⟨rfl, hb⟩

set_option maxRecDepth 100000 in
set_option maxHeartbeats 8000000 in
theorem order_large2 {w : World} {s1 s2 s3 : Bool} {A1 B1 A2 B2 A3 E3 : Option Addr} {n1 c1 m1 d1 n2 c2 m2 d2 n3 c3 m3 d3 : Nat} (h1 : n1 ≤ 12 ∧ m1 ≤ 12) (hl : ¬ (n2 ≤ 12 ∧ m2 ≤ 12)) :
    Calls Tryz.prog 7 #[.agg #[.bool s1, .slice A1 n1 c1, .slice B1 m1 d1], .agg #[.bool s2, .slice A2 n2 c2, .slice B2 m2 d2], .agg #[.bool s3, .slice A3 n3 c3, .slice E3 m3 d3]] w fun e w' => e = .returned (.bool true) ∧ Below w.heap.size w w' := by
  have H1 : Hid (n1 ≤ 12 ∧ m1 ≤ 12) := h1
  clear h1
  have HL := Lib.hid hl
  clear hl
  go_enter Tryz.func7, Tryz.ntmps7
  go_wp2_with fail
  generalize hW : (((w.alloc (Obj.cells #[Value.bool s1, Value.slice A1 n1 c1, Value.slice B1 m1 d1] 26)).alloc (Obj.cells #[Value.bool s2, Value.slice A2 n2 c2, Value.slice B2 m2 d2] 26)).alloc (Obj.cells #[Value.bool s3, Value.slice A3 n3 c3, Value.slice E3 m3 d3] 26)) = W
  have hb : Below w.heap.size w W := by subst hW; exact ((((Below.refl _ _).alloc (Nat.le_refl _) _).alloc (by simp) _).alloc (by simp; omega) _)
  have XA : B3 W (w.heap.size) (Value.bool s1) (Value.slice A1 n1 c1) (Value.slice B1 m1 d1) := by subst hW; exact ((B3.new' _ _ _ _ _ rfl).alloc _).alloc _
  have XB : B3 W (w.heap.size + 1) (Value.bool s2) (Value.slice A2 n2 c2) (Value.slice B2 m2 d2) := by subst hW; exact (B3.new' _ _ _ _ _ (by simp)).alloc _
  have XC : B3 W (w.heap.size + 1 + 1) (Value.bool s3) (Value.slice A3 n3 c3) (Value.slice E3 m3 d3) := by subst hW; exact B3.new' _ _ _ _ _ (by simp)
  have hzW : W.heap.size = w.heap.size + 3 := by subst hW; simp
  clear hW
  have xa0 := XA.c0
  have xa1 := XA.c1
  have xa2 := XA.c2
  have xb0 := XB.c0
  have xb1 := XB.c1
  have xb2 := XB.c2
  have xc0 := XC.c0
  have xc1 := XC.c1
  have xc2 := XC.c2
  go_wp2_with (first
      | (go_at_call 11; (with_reducible refine (qlarge_no s1 A1 B1 n1 c1 m1 d1 _ H1.out).mono ?_); rintro e w_z ⟨rfl, hh⟩
         try replace a := a.below hh
         try replace b := b.below hh
         try replace cc := cc.below hh
         try replace f0 := f0.below hh
         try replace o := o.below hh
         try replace f := f.below hh
         try replace g0 := g0.below hh
         try replace g := g.below hh
         try replace dv := dv.below hh
         try replace x1 := x1.below hh
         try replace x2 := x2.below hh
         try replace x3 := x3.below hh
         try replace x4 := x4.below hh
         try replace XA := XA.below hh
         try replace XB := XB.below hh
         try replace XC := XC.below hh
         try replace XF := XF.below hh
         try replace XG := XG.below hh
         try replace XD := XD.below hh
         replace hb := bend hb hh
         have xa0 := XA.c0
         have xa1 := XA.c1
         have xa2 := XA.c2
         have xb0 := XB.c0
         have xb1 := XB.c1
         have xb2 := XB.c2
         have xc0 := XC.c0
         have xc1 := XC.c1
         have xc2 := XC.c2)
      | (go_at_call 11; (with_reducible refine (qlarge_yes s2 A2 B2 n2 c2 m2 d2 _ HL.out).mono ?_); rintro e w_z ⟨rfl, hh⟩
         try replace a := a.below hh
         try replace b := b.below hh
         try replace cc := cc.below hh
         try replace f0 := f0.below hh
         try replace o := o.below hh
         try replace f := f.below hh
         try replace g0 := g0.below hh
         try replace g := g.below hh
         try replace dv := dv.below hh
         try replace x1 := x1.below hh
         try replace x2 := x2.below hh
         try replace x3 := x3.below hh
         try replace x4 := x4.below hh
         try replace XA := XA.below hh
         try replace XB := XB.below hh
         try replace XC := XC.below hh
         try replace XF := XF.below hh
         try replace XG := XG.below hh
         try replace XD := XD.below hh
         replace hb := bend hb hh
         have xa0 := XA.c0
         have xa1 := XA.c1
         have xa2 := XA.c2
         have xb0 := XB.c0
         have xb1 := XB.c1
         have xb2 := XB.c2
         have xc0 := XC.c0
         have xc1 := XC.c1
         have xc2 := XC.c2)
      | (go_at_call 12; (with_reducible refine (qwakes_any _).mono ?_); rintro e w_z ⟨rfl, hh⟩
         try replace a := a.below hh
         try replace b := b.below hh
         try replace cc := cc.below hh
         try replace f0 := f0.below hh
         try replace o := o.below hh
         try replace f := f.below hh
         try replace g0 := g0.below hh
         try replace g := g.below hh
         try replace dv := dv.below hh
         try replace x1 := x1.below hh
         try replace x2 := x2.below hh
         try replace x3 := x3.below hh
         try replace x4 := x4.below hh
         try replace XA := XA.below hh
         try replace XB := XB.below hh
         try replace XC := XC.below hh
         try replace XF := XF.below hh
         try replace XG := XG.below hh
         try replace XD := XD.below hh
         replace hb := bend hb hh))
  go_ret
  exact ⟨rfl, hb⟩

set_option maxRecDepth 100000 in
set_option maxHeartbeats 8000000 in
theorem order_large3 {w : World} {s1 s2 s3 : Bool} {A1 B1 A2 B2 A3 E3 : Option Addr} {n1 c1 m1 d1 n2 c2 m2 d2 n3 c3 m3 d3 : Nat} (h1 : n1 ≤ 12 ∧ m1 ≤ 12) (h2 : n2 ≤ 12 ∧ m2 ≤ 12) (hl : ¬ (n3 ≤ 12 ∧ m3 ≤ 12)) :
    Calls Tryz.prog 7 #[.agg #[.bool s1, .slice A1 n1 c1, .slice B1 m1 d1], .agg #[.bool s2, .slice A2 n2 c2, .slice B2 m2 d2], .agg #[.bool s3, .slice A3 n3 c3, .slice E3 m3 d3]] w fun e w' => e = .returned (.bool true) ∧ Below w.heap.size w w' := by
  have H1 : Hid (n1 ≤ 12 ∧ m1 ≤ 12) := h1
  clear h1
  have H2 : Hid (n2 ≤ 12 ∧ m2 ≤ 12) := h2
  clear h2
  have HL := Lib.hid hl
  clear hl
  go_enter Tryz.func7, Tryz.ntmps7
  go_wp2_with fail
  generalize hW : (((w.alloc (Obj.cells #[Value.bool s1, Value.slice A1 n1 c1, Value.slice B1 m1 d1] 26)).alloc (Obj.cells #[Value.bool s2, Value.slice A2 n2 c2, Value.slice B2 m2 d2] 26)).alloc (Obj.cells #[Value.bool s3, Value.slice A3 n3 c3, Value.slice E3 m3 d3] 26)) = W
  have hb : Below w.heap.size w W := by subst hW; exact ((((Below.refl _ _).alloc (Nat.le_refl _) _).alloc (by simp) _).alloc (by simp; omega) _)
  have XA : B3 W (w.heap.size) (Value.bool s1) (Value.slice A1 n1 c1) (Value.slice B1 m1 d1) := by subst hW; exact ((B3.new' _ _ _ _ _ rfl).alloc _).alloc _
  have XB : B3 W (w.heap.size + 1) (Value.bool s2) (Value.slice A2 n2 c2) (Value.slice B2 m2 d2) := by subst hW; exact (B3.new' _ _ _ _ _ (by simp)).alloc _
  have XC : B3 W (w.heap.size + 1 + 1) (Value.bool s3) (Value.slice A3 n3 c3) (Value.slice E3 m3 d3) := by subst hW; exact B3.new' _ _ _ _ _ (by simp)
  have hzW : W.heap.size = w.heap.size + 3 := by subst hW; simp
  clear hW
  have xa0 := XA.c0
  have xa1 := XA.c1
  have xa2 := XA.c2
  have xb0 := XB.c0
  have xb1 := XB.c1
  have xb2 := XB.c2
  have xc0 := XC.c0
  have xc1 := XC.c1
  have xc2 := XC.c2
  go_wp2_with (first
      | (go_at_call 11; (with_reducible refine (qlarge_no s1 A1 B1 n1 c1 m1 d1 _ H1.out).mono ?_); rintro e w_z ⟨rfl, hh⟩
         try replace a := a.below hh
         try replace b := b.below hh
         try replace cc := cc.below hh
         try replace f0 := f0.below hh
         try replace o := o.below hh
         try replace f := f.below hh
         try replace g0 := g0.below hh
         try replace g := g.below hh
         try replace dv := dv.below hh
         try replace x1 := x1.below hh
         try replace x2 := x2.below hh
         try replace x3 := x3.below hh
         try replace x4 := x4.below hh
         try replace XA := XA.below hh
         try replace XB := XB.below hh
         try replace XC := XC.below hh
         try replace XF := XF.below hh
         try replace XG := XG.below hh
         try replace XD := XD.below hh
         replace hb := bend hb hh
         have xa0 := XA.c0
         have xa1 := XA.c1
         have xa2 := XA.c2
         have xb0 := XB.c0
         have xb1 := XB.c1
         have xb2 := XB.c2
         have xc0 := XC.c0
         have xc1 := XC.c1
         have xc2 := XC.c2)
      | (go_at_call 11; (with_reducible refine (qlarge_no s2 A2 B2 n2 c2 m2 d2 _ H2.out).mono ?_); rintro e w_z ⟨rfl, hh⟩
         try replace a := a.below hh
         try replace b := b.below hh
         try replace cc := cc.below hh
         try replace f0 := f0.below hh
         try replace o := o.below hh
         try replace f := f.below hh
         try replace g0 := g0.below hh
         try replace g := g.below hh
         try replace dv := dv.below hh
         try replace x1 := x1.below hh
         try replace x2 := x2.below hh
         try replace x3 := x3.below hh
         try replace x4 := x4.below hh
         try replace XA := XA.below hh
         try replace XB := XB.below hh
         try replace XC := XC.below hh
         try replace XF := XF.below hh
         try replace XG := XG.below hh
         try replace XD := XD.below hh
         replace hb := bend hb hh
         have xa0 := XA.c0
         have xa1 := XA.c1
         have xa2 := XA.c2
         have xb0 := XB.c0
         have xb1 := XB.c1
         have xb2 := XB.c2
         have xc0 := XC.c0
         have xc1 := XC.c1
         have xc2 := XC.c2)
      | (go_at_call 11; (with_reducible refine (qlarge_yes s3 A3 E3 n3 c3 m3 d3 _ HL.out).mono ?_); rintro e w_z ⟨rfl, hh⟩
         try replace a := a.below hh
         try replace b := b.below hh
         try replace cc := cc.below hh
         try replace f0 := f0.below hh
         try replace o := o.below hh
         try replace f := f.below hh
         try replace g0 := g0.below hh
         try replace g := g.below hh
         try replace dv := dv.below hh
         try replace x1 := x1.below hh
         try replace x2 := x2.below hh
         try replace x3 := x3.below hh
         try replace x4 := x4.below hh
         try replace XA := XA.below hh
         try replace XB := XB.below hh
         try replace XC := XC.below hh
         try replace XF := XF.below hh
         try replace XG := XG.below hh
         try replace XD := XD.below hh
         replace hb := bend hb hh
         have xa0 := XA.c0
         have xa1 := XA.c1
         have xa2 := XA.c2
         have xb0 := XB.c0
         have xb1 := XB.c1
         have xb2 := XB.c2
         have xc0 := XC.c0
         have xc1 := XC.c1
         have xc2 := XC.c2)
      | (go_at_call 12; (with_reducible refine (qwakes_any _).mono ?_); rintro e w_z ⟨rfl, hh⟩
         try replace a := a.below hh
         try replace b := b.below hh
         try replace cc := cc.below hh
         try replace f0 := f0.below hh
         try replace o := o.below hh
         try replace f := f.below hh
         try replace g0 := g0.below hh
         try replace g := g.below hh
         try replace dv := dv.below hh
         try replace x1 := x1.below hh
         try replace x2 := x2.below hh
         try replace x3 := x3.below hh
         try replace x4 := x4.below hh
         try replace XA := XA.below hh
         try replace XB := XB.below hh
         try replace XC := XC.below hh
         try replace XF := XF.below hh
         try replace XG := XG.below hh
         try replace XD := XD.below hh
         replace hb := bend hb hh))
  go_ret
  exact ⟨rfl, hb⟩

theorem law_order {w : World} (s1 s2 s3 : Bool) (A1 B1 A2 B2 A3 E3 : Option Addr) (n1 c1 m1 d1 n2 c2 m2 d2 n3 c3 m3 d3 : Nat) (l1 k1 l2 k2 l3 k3 : List Nat) (p1 : Rd .u64 w A1 n1 l1) (q1 : Rd .u64 w B1 m1 k1) (p2 : Rd .u64 w A2 n2 l2) (q2 : Rd .u64 w B2 m2 k2) (p3 : Rd .u64 w A3 n3 l3) (q3 : Rd .u64 w E3 m3 k3)
    (t1 : Lim B64 l1) (u1 : Lim B64 k1) (t2 : Lim B64 l2) (u2 : Lim B64 k2) (t3 : Lim B64 l3) (u3 : Lim B64 k3) (e1 : n1 ≤ c1) (f1 : m1 ≤ d1) (e2 : n2 ≤ c2) (f2 : m2 ≤ d2) (e3 : n3 ≤ c3) (f3 : m3 ≤ d3) :
    Calls Tryz.prog 7 #[.agg #[.bool s1, .slice A1 n1 c1, .slice B1 m1 d1], .agg #[.bool s2, .slice A2 n2 c2, .slice B2 m2 d2], .agg #[.bool s3, .slice A3 n3 c3, .slice E3 m3 d3]] w fun e w' => e = .returned (.bool true) ∧ Below w.heap.size w w' := by
  by_cases h1 : n1 ≤ 12 ∧ m1 ≤ 12
  · by_cases h2 : n2 ≤ 12 ∧ m2 ≤ 12
    · by_cases h3 : n3 ≤ 12 ∧ m3 ≤ 12
      · exact order_small (QR.of_rd (s := s1) p1 t1 e1 q1 u1 f1 h1.1 h1.2) (QR.of_rd (s := s2) p2 t2 e2 q2 u2 f2 h2.1 h2.2) (QR.of_rd (s := s3) p3 t3 e3 q3 u3 f3 h3.1 h3.2) h1 h2 h3
      · exact order_large3 h1 h2 h3
    · exact order_large2 h1 h2
  · exact order_large1 h1
end Go.Proofs.YtehkgiiiobnkdaaGreat
