/- The law RatField: they are a field. -/
import Derived.Test.YtehkgiiiobnkdaaGreatRatX
import Derived.Test.YtehkgiiiobnkdaaGreatRatL
namespace Go.Proofs.YtehkgiiiobnkdaaGreat
open Go Go.RowKit

theorem qlarge_no (s : Bool) (A A' : Option Addr) (n c n' c' : Nat) (w : World) (h : n ≤ 12 ∧ n' ≤ 12) :
    Calls Tryz.prog 11 #[.agg #[.bool s, .slice A n c, .slice A' n' c']] w fun e w' => e = .returned (.bool false) ∧ Below w.heap.size w w' :=
  qlarge_any s A A' n c n' c' w true (decide_eq_true h)
theorem qlarge_yes (s : Bool) (A A' : Option Addr) (n c n' c' : Nat) (w : World) (h : ¬ (n ≤ 12 ∧ n' ≤ 12)) :
    Calls Tryz.prog 11 #[.agg #[.bool s, .slice A n c, .slice A' n' c']] w fun e w' => e = .returned (.bool true) ∧ Below w.heap.size w w' :=
  qlarge_any s A A' n c n' c' w false (decide_eq_false h)

set_option maxRecDepth 100000 in
set_option maxHeartbeats 8000000 in
theorem field_ok {w : World} {s1 s2 s3 : Bool} {A1 B1 A2 B2 A3 E3 : Option Addr} {n1 c1 m1 d1 n2 c2 m2 d2 n3 c3 m3 d3 : Nat} {va vb vc : Rat} (a : QR w s1 A1 n1 c1 B1 m1 d1 va 12) (b : QR w s2 A2 n2 c2 B2 m2 d2 vb 12) (cc : QR w s3 A3 n3 c3 E3 m3 d3 vc 12) (h1 : n1 ≤ 12 ∧ m1 ≤ 12) (h2 : n2 ≤ 12 ∧ m2 ≤ 12) (h3 : n3 ≤ 12 ∧ m3 ≤ 12) (hz : vb ≠ 0) :
    Calls Tryz.prog 6 #[.agg #[.bool s1, .slice A1 n1 c1, .slice B1 m1 d1], .agg #[.bool s2, .slice A2 n2 c2, .slice B2 m2 d2], .agg #[.bool s3, .slice A3 n3 c3, .slice E3 m3 d3]] w fun e w' => e = .returned (.bool true) ∧ Below w.heap.size w w' := by
  have H1 : Hid (n1 ≤ 12 ∧ m1 ≤ 12) := h1
  have H2 : Hid (n2 ≤ 12 ∧ m2 ≤ 12) := h2
  have H3 : Hid (n3 ≤ 12 ∧ m3 ≤ 12) := h3
  clear h1 h2 h3
  have HC1 : Hid (cmpQ (va + (vb + vc)) (va + vb + vc) = 0) := cmpQ_eq (by grind)
  have HC2 : Hid (cmpQ (va * (vb + vc)) (va * vb + va * vc) = 0) := cmpQ_eq (by grind)
  have HC3 : Hid (cmpQ (va * (vb * vc)) (va * vb * vc) = 0) := cmpQ_eq (by grind)
  have HC5 : Hid (cmpQ (va + vb) (vb + va) = 0) := cmpQ_eq (by grind)
  have HC6 : Hid (cmpQ (- -va) (va) = 0) := cmpQ_eq (by grind)
  have HS : Hid (sgnQ (va - va) = 0) := by show _ = _; rw [Rat.sub_self]; rfl
  have HC4 : Hid (cmpQ (va / vb * vb) (va) = 0) := cmpQ_eq (by grind)
  have HZ := Lib.hid hz
  clear hz
  go_enter Tryz.func6, Tryz.ntmps6
  go_wp2_with fail
  generalize hW : (((w.alloc (Obj.cells #[Value.bool s1, Value.slice A1 n1 c1, Value.slice B1 m1 d1] 26)).alloc (Obj.cells #[Value.bool s2, Value.slice A2 n2 c2, Value.slice B2 m2 d2] 26)).alloc (Obj.cells #[Value.bool s3, Value.slice A3 n3 c3, Value.slice E3 m3 d3] 26)) = W
  have hb : Below w.heap.size w W := by subst hW; exact ((((Below.refl _ _).alloc (Nat.le_refl _) _).alloc (by simp) _).alloc (by simp; omega) _)
  have XA : B3 W (w.heap.size) (Value.bool s1) (Value.slice A1 n1 c1) (Value.slice B1 m1 d1) := by subst hW; exact ((B3.new' _ _ _ _ _ rfl).alloc _).alloc _
  have XB : B3 W (w.heap.size + 1) (Value.bool s2) (Value.slice A2 n2 c2) (Value.slice B2 m2 d2) := by subst hW; exact (B3.new' _ _ _ _ _ (by simp)).alloc _
  have XC : B3 W (w.heap.size + 1 + 1) (Value.bool s3) (Value.slice A3 n3 c3) (Value.slice E3 m3 d3) := by subst hW; exact B3.new' _ _ _ _ _ (by simp)
  have hzW : W.heap.size = w.heap.size + 3 := by subst hW; simp
  clear hW
  replace a := a.below hb
  replace b := b.below hb
  replace cc := cc.below hb
  have xa0 := XA.c0
  have xa1 := XA.c1
  have xa2 := XA.c2
  have xb0 := XB.c0
  have xb1 := XB.c1
  have xb2 := XB.c2
  have xc0 := XC.c0
  have xc1 := XC.c1
  have xc2 := XC.c2
  go_upto_region 3 with (first
      | (go_at_call 11; (with_reducible refine (qlarge_no s1 A1 B1 n1 c1 m1 d1 _ H1.out).mono ?_); rintro e w_z ⟨rfl, hh⟩
         try replace a := a.below hh
         try replace b := b.below hh
         try replace cc := cc.below hh
         try replace bc := bc.below hh
         try replace abc := abc.below hh
         try replace ab := ab.below hh
         try replace abd := abd.below hh
         try replace mab := mab.below hh
         try replace mac := mac.below hh
         try replace x1 := x1.below hh
         try replace x2 := x2.below hh
         try replace dv := dv.below hh
         try replace na := na.below hh
         try replace nn := nn.below hh
         try replace sb := sb.below hh
         try replace XA := XA.below hh
         try replace XB := XB.below hh
         try replace XC := XC.below hh
         try replace XD := XD.below hh
         replace hb := bend hb hh
         have xa0 := XA.c0
         have xa1 := XA.c1
         have xa2 := XA.c2
         have xb0 := XB.c0
         have xb1 := XB.c1
         have xb2 := XB.c2
         have xc0 := XC.c0
         have xc1 := XC.c1
         have xc2 := XC.c2)
      | (go_at_call 11; (with_reducible refine (qlarge_no s2 A2 B2 n2 c2 m2 d2 _ H2.out).mono ?_); rintro e w_z ⟨rfl, hh⟩
         try replace a := a.below hh
         try replace b := b.below hh
         try replace cc := cc.below hh
         try replace bc := bc.below hh
         try replace abc := abc.below hh
         try replace ab := ab.below hh
         try replace abd := abd.below hh
         try replace mab := mab.below hh
         try replace mac := mac.below hh
         try replace x1 := x1.below hh
         try replace x2 := x2.below hh
         try replace dv := dv.below hh
         try replace na := na.below hh
         try replace nn := nn.below hh
         try replace sb := sb.below hh
         try replace XA := XA.below hh
         try replace XB := XB.below hh
         try replace XC := XC.below hh
         try replace XD := XD.below hh
         replace hb := bend hb hh
         have xa0 := XA.c0
         have xa1 := XA.c1
         have xa2 := XA.c2
         have xb0 := XB.c0
         have xb1 := XB.c1
         have xb2 := XB.c2
         have xc0 := XC.c0
         have xc1 := XC.c1
         have xc2 := XC.c2)
      | (go_at_call 11; (with_reducible refine (qlarge_no s3 A3 E3 n3 c3 m3 d3 _ H3.out).mono ?_); rintro e w_z ⟨rfl, hh⟩
         try replace a := a.below hh
         try replace b := b.below hh
         try replace cc := cc.below hh
         try replace bc := bc.below hh
         try replace abc := abc.below hh
         try replace ab := ab.below hh
         try replace abd := abd.below hh
         try replace mab := mab.below hh
         try replace mac := mac.below hh
         try replace x1 := x1.below hh
         try replace x2 := x2.below hh
         try replace dv := dv.below hh
         try replace na := na.below hh
         try replace nn := nn.below hh
         try replace sb := sb.below hh
         try replace XA := XA.below hh
         try replace XB := XB.below hh
         try replace XC := XC.below hh
         try replace XD := XD.below hh
         replace hb := bend hb hh
         have xa0 := XA.c0
         have xa1 := XA.c1
         have xa2 := XA.c2
         have xb0 := XB.c0
         have xb1 := XB.c1
         have xb2 := XB.c2
         have xc0 := XC.c0
         have xc1 := XC.c1
         have xc2 := XC.c2))
  replace a := a.below (Below.refl _ _).drew
  replace b := b.below (Below.refl _ _).drew
  replace cc := cc.below (Below.refl _ _).drew
  replace XA := XA.below (Below.refl _ _).drew
  replace XB := XB.below (Below.refl _ _).drew
  replace XC := XC.below (Below.refl _ _).drew
  replace hb := hb.drew
  go_region_held3 (fun w' => w'.cell? ⟨w.heap.size, 0, none⟩ = some (.bool s1) ∧ w'.cell? ⟨w.heap.size, 1, none⟩ = some (.slice A1 n1 c1) ∧ w'.cell? ⟨w.heap.size, 2, none⟩ = some (.slice B1 m1 d1) ∧ w'.cell? ⟨w.heap.size + 1, 0, none⟩ = some (.bool s2) ∧ w'.cell? ⟨w.heap.size + 1, 1, none⟩ = some (.slice A2 n2 c2) ∧ w'.cell? ⟨w.heap.size + 1, 2, none⟩ = some (.slice B2 m2 d2) ∧ w'.cell? ⟨w.heap.size + 1 + 1, 0, none⟩ = some (.bool s3) ∧ w'.cell? ⟨w.heap.size + 1 + 1, 1, none⟩ = some (.slice A3 n3 c3) ∧ w'.cell? ⟨w.heap.size + 1 + 1, 2, none⟩ = some (.slice E3 m3 d3))
    (first | with_reducible exact ⟨XA.c0, XA.c1, XA.c2, XB.c0, XB.c1, XB.c2, XC.c0, XC.c1, XC.c2⟩)
    (first
    | (go_at_call 19; (with_reducible refine (radd_q b cc (by decide) (by decide) (by decide) (by decide) (by decide)).mono ?_); rintro e w_bc ⟨s_bc, A_bc, n_bc, c_bc, B_bc, m_bc, d_bc, rfl, bc, hh⟩
       try replace a := a.below hh
       try replace b := b.below hh
       try replace cc := cc.below hh
       try replace abc := abc.below hh
       try replace ab := ab.below hh
       try replace abd := abd.below hh
       try replace mab := mab.below hh
       try replace mac := mac.below hh
       try replace x1 := x1.below hh
       try replace x2 := x2.below hh
       try replace dv := dv.below hh
       try replace na := na.below hh
       try replace nn := nn.below hh
       try replace sb := sb.below hh
       try replace XA := XA.below hh
       try replace XB := XB.below hh
       try replace XC := XC.below hh
       try replace XD := XD.below hh
       replace hb := bend hb hh)
    | (go_at_call 19; (with_reducible refine (radd_q a bc.qr (by decide) (by decide) (by decide) (by decide) (by decide)).mono ?_); rintro e w_abc ⟨s_abc, A_abc, n_abc, c_abc, B_abc, m_abc, d_abc, rfl, abc, hh⟩
       try replace a := a.below hh
       try replace b := b.below hh
       try replace cc := cc.below hh
       try replace bc := bc.below hh
       try replace ab := ab.below hh
       try replace abd := abd.below hh
       try replace mab := mab.below hh
       try replace mac := mac.below hh
       try replace x1 := x1.below hh
       try replace x2 := x2.below hh
       try replace dv := dv.below hh
       try replace na := na.below hh
       try replace nn := nn.below hh
       try replace sb := sb.below hh
       try replace XA := XA.below hh
       try replace XB := XB.below hh
       try replace XC := XC.below hh
       try replace XD := XD.below hh
       replace hb := bend hb hh)
    | (go_at_call 19; (with_reducible refine (radd_q a b (by decide) (by decide) (by decide) (by decide) (by decide)).mono ?_); rintro e w_ab ⟨s_ab, A_ab, n_ab, c_ab, B_ab, m_ab, d_ab, rfl, ab, hh⟩
       try replace a := a.below hh
       try replace b := b.below hh
       try replace cc := cc.below hh
       try replace bc := bc.below hh
       try replace abc := abc.below hh
       try replace abd := abd.below hh
       try replace mab := mab.below hh
       try replace mac := mac.below hh
       try replace x1 := x1.below hh
       try replace x2 := x2.below hh
       try replace dv := dv.below hh
       try replace na := na.below hh
       try replace nn := nn.below hh
       try replace sb := sb.below hh
       try replace XA := XA.below hh
       try replace XB := XB.below hh
       try replace XC := XC.below hh
       try replace XD := XD.below hh
       replace hb := bend hb hh)
    | (go_at_call 19; (with_reducible refine (radd_q ab.qr cc (by decide) (by decide) (by decide) (by decide) (by decide)).mono ?_); rintro e w_abd ⟨s_abd, A_abd, n_abd, c_abd, B_abd, m_abd, d_abd, rfl, abd, hh⟩
       try replace a := a.below hh
       try replace b := b.below hh
       try replace cc := cc.below hh
       try replace bc := bc.below hh
       try replace abc := abc.below hh
       try replace ab := ab.below hh
       try replace mab := mab.below hh
       try replace mac := mac.below hh
       try replace x1 := x1.below hh
       try replace x2 := x2.below hh
       try replace dv := dv.below hh
       try replace na := na.below hh
       try replace nn := nn.below hh
       try replace sb := sb.below hh
       try replace XA := XA.below hh
       try replace XB := XB.below hh
       try replace XC := XC.below hh
       try replace XD := XD.below hh
       replace hb := bend hb hh)
    | (go_at_call 25; (with_reducible refine (rcmp_q abc.qr abd.qr (by decide) (by decide) (by decide) (by decide) (by decide)).mono ?_); rintro e w_z ⟨rfl, hh⟩
       rw [HC1.out]
       try replace a := a.below hh
       try replace b := b.below hh
       try replace cc := cc.below hh
       try replace bc := bc.below hh
       try replace abc := abc.below hh
       try replace ab := ab.below hh
       try replace abd := abd.below hh
       try replace mab := mab.below hh
       try replace mac := mac.below hh
       try replace x1 := x1.below hh
       try replace x2 := x2.below hh
       try replace dv := dv.below hh
       try replace na := na.below hh
       try replace nn := nn.below hh
       try replace sb := sb.below hh
       try replace XA := XA.below hh
       try replace XB := XB.below hh
       try replace XC := XC.below hh
       try replace XD := XD.below hh
       replace hb := bend hb hh)
    | (go_at_call 23; (with_reducible refine (rmul_q a bc.qr (by decide) (by decide) (by decide) (by decide) (by decide)).mono ?_); rintro e w_x1 ⟨s_x1, A_x1, n_x1, c_x1, B_x1, m_x1, d_x1, rfl, x1, hh⟩
       try replace a := a.below hh
       try replace b := b.below hh
       try replace cc := cc.below hh
       try replace bc := bc.below hh
       try replace abc := abc.below hh
       try replace ab := ab.below hh
       try replace abd := abd.below hh
       try replace mab := mab.below hh
       try replace mac := mac.below hh
       try replace x2 := x2.below hh
       try replace dv := dv.below hh
       try replace na := na.below hh
       try replace nn := nn.below hh
       try replace sb := sb.below hh
       try replace XA := XA.below hh
       try replace XB := XB.below hh
       try replace XC := XC.below hh
       try replace XD := XD.below hh
       replace hb := bend hb hh)
    | (go_at_call 23; (with_reducible refine (rmul_q a b (by decide) (by decide) (by decide) (by decide) (by decide)).mono ?_); rintro e w_mab ⟨s_mab, A_mab, n_mab, c_mab, B_mab, m_mab, d_mab, rfl, mab, hh⟩
       try replace a := a.below hh
       try replace b := b.below hh
       try replace cc := cc.below hh
       try replace bc := bc.below hh
       try replace abc := abc.below hh
       try replace ab := ab.below hh
       try replace abd := abd.below hh
       try replace mac := mac.below hh
       try replace x1 := x1.below hh
       try replace x2 := x2.below hh
       try replace dv := dv.below hh
       try replace na := na.below hh
       try replace nn := nn.below hh
       try replace sb := sb.below hh
       try replace XA := XA.below hh
       try replace XB := XB.below hh
       try replace XC := XC.below hh
       try replace XD := XD.below hh
       replace hb := bend hb hh)
    | (go_at_call 23; (with_reducible refine (rmul_q a cc (by decide) (by decide) (by decide) (by decide) (by decide)).mono ?_); rintro e w_mac ⟨s_mac, A_mac, n_mac, c_mac, B_mac, m_mac, d_mac, rfl, mac, hh⟩
       try replace a := a.below hh
       try replace b := b.below hh
       try replace cc := cc.below hh
       try replace bc := bc.below hh
       try replace abc := abc.below hh
       try replace ab := ab.below hh
       try replace abd := abd.below hh
       try replace mab := mab.below hh
       try replace x1 := x1.below hh
       try replace x2 := x2.below hh
       try replace dv := dv.below hh
       try replace na := na.below hh
       try replace nn := nn.below hh
       try replace sb := sb.below hh
       try replace XA := XA.below hh
       try replace XB := XB.below hh
       try replace XC := XC.below hh
       try replace XD := XD.below hh
       replace hb := bend hb hh)
    | (go_at_call 19; (with_reducible refine (radd_q mab.qr mac.qr (by decide) (by decide) (by decide) (by decide) (by decide)).mono ?_); rintro e w_x2 ⟨s_x2, A_x2, n_x2, c_x2, B_x2, m_x2, d_x2, rfl, x2, hh⟩
       try replace a := a.below hh
       try replace b := b.below hh
       try replace cc := cc.below hh
       try replace bc := bc.below hh
       try replace abc := abc.below hh
       try replace ab := ab.below hh
       try replace abd := abd.below hh
       try replace mab := mab.below hh
       try replace mac := mac.below hh
       try replace x1 := x1.below hh
       try replace dv := dv.below hh
       try replace na := na.below hh
       try replace nn := nn.below hh
       try replace sb := sb.below hh
       try replace XA := XA.below hh
       try replace XB := XB.below hh
       try replace XC := XC.below hh
       try replace XD := XD.below hh
       replace hb := bend hb hh)
    | (go_at_call 25; (with_reducible refine (rcmp_q x1.qr x2.qr (by decide) (by decide) (by decide) (by decide) (by decide)).mono ?_); rintro e w_z ⟨rfl, hh⟩
       rw [HC2.out]
       try replace a := a.below hh
       try replace b := b.below hh
       try replace cc := cc.below hh
       try replace bc := bc.below hh
       try replace abc := abc.below hh
       try replace ab := ab.below hh
       try replace abd := abd.below hh
       try replace mab := mab.below hh
       try replace mac := mac.below hh
       try replace x1 := x1.below hh
       try replace x2 := x2.below hh
       try replace dv := dv.below hh
       try replace na := na.below hh
       try replace nn := nn.below hh
       try replace sb := sb.below hh
       try replace XA := XA.below hh
       try replace XB := XB.below hh
       try replace XC := XC.below hh
       try replace XD := XD.below hh
       replace hb := bend hb hh)
    | (go_at_call 23; (with_reducible refine (rmul_q b cc (by decide) (by decide) (by decide) (by decide) (by decide)).mono ?_); rintro e w_mac ⟨s_mac, A_mac, n_mac, c_mac, B_mac, m_mac, d_mac, rfl, mac, hh⟩
       try replace a := a.below hh
       try replace b := b.below hh
       try replace cc := cc.below hh
       try replace bc := bc.below hh
       try replace abc := abc.below hh
       try replace ab := ab.below hh
       try replace abd := abd.below hh
       try replace mab := mab.below hh
       try replace x1 := x1.below hh
       try replace x2 := x2.below hh
       try replace dv := dv.below hh
       try replace na := na.below hh
       try replace nn := nn.below hh
       try replace sb := sb.below hh
       try replace XA := XA.below hh
       try replace XB := XB.below hh
       try replace XC := XC.below hh
       try replace XD := XD.below hh
       replace hb := bend hb hh)
    | (go_at_call 23; (with_reducible refine (rmul_q a mac.qr (by decide) (by decide) (by decide) (by decide) (by decide)).mono ?_); rintro e w_x1 ⟨s_x1, A_x1, n_x1, c_x1, B_x1, m_x1, d_x1, rfl, x1, hh⟩
       try replace a := a.below hh
       try replace b := b.below hh
       try replace cc := cc.below hh
       try replace bc := bc.below hh
       try replace abc := abc.below hh
       try replace ab := ab.below hh
       try replace abd := abd.below hh
       try replace mab := mab.below hh
       try replace mac := mac.below hh
       try replace x2 := x2.below hh
       try replace dv := dv.below hh
       try replace na := na.below hh
       try replace nn := nn.below hh
       try replace sb := sb.below hh
       try replace XA := XA.below hh
       try replace XB := XB.below hh
       try replace XC := XC.below hh
       try replace XD := XD.below hh
       replace hb := bend hb hh)
    | (go_at_call 23; (with_reducible refine (rmul_q mab.qr cc (by decide) (by decide) (by decide) (by decide) (by decide)).mono ?_); rintro e w_x2 ⟨s_x2, A_x2, n_x2, c_x2, B_x2, m_x2, d_x2, rfl, x2, hh⟩
       try replace a := a.below hh
       try replace b := b.below hh
       try replace cc := cc.below hh
       try replace bc := bc.below hh
       try replace abc := abc.below hh
       try replace ab := ab.below hh
       try replace abd := abd.below hh
       try replace mab := mab.below hh
       try replace mac := mac.below hh
       try replace x1 := x1.below hh
       try replace dv := dv.below hh
       try replace na := na.below hh
       try replace nn := nn.below hh
       try replace sb := sb.below hh
       try replace XA := XA.below hh
       try replace XB := XB.below hh
       try replace XC := XC.below hh
       try replace XD := XD.below hh
       replace hb := bend hb hh)
    | (go_at_call 25; (with_reducible refine (rcmp_q x1.qr x2.qr (by decide) (by decide) (by decide) (by decide) (by decide)).mono ?_); rintro e w_z ⟨rfl, hh⟩
       rw [HC3.out]
       try replace a := a.below hh
       try replace b := b.below hh
       try replace cc := cc.below hh
       try replace bc := bc.below hh
       try replace abc := abc.below hh
       try replace ab := ab.below hh
       try replace abd := abd.below hh
       try replace mab := mab.below hh
       try replace mac := mac.below hh
       try replace x1 := x1.below hh
       try replace x2 := x2.below hh
       try replace dv := dv.below hh
       try replace na := na.below hh
       try replace nn := nn.below hh
       try replace sb := sb.below hh
       try replace XA := XA.below hh
       try replace XB := XB.below hh
       try replace XC := XC.below hh
       try replace XD := XD.below hh
       replace hb := bend hb hh))
  try clear bc
  try clear abc
  try clear ab
  try clear abd
  try clear mab
  try clear mac
  try clear x1
  try clear x2
  have xa0 := XA.c0
  have xa1 := XA.c1
  have xa2 := XA.c2
  have xb0 := XB.c0
  have xb1 := XB.c1
  have xb2 := XB.c2
  have xc0 := XC.c0
  have xc1 := XC.c1
  have xc2 := XC.c2
  go_upto_region 6 with (first
      | (go_at_call 15; (with_reducible refine (rdiv_q a b (by decide) (by decide) (by decide) (by decide) (by decide) HZ.out).mono ?_); rintro e w_dv ⟨s_dv, A_dv, n_dv, c_dv, B_dv, m_dv, d_dv, rfl, dv, hh⟩
         try replace a := a.below hh
         try replace b := b.below hh
         try replace cc := cc.below hh
         try replace bc := bc.below hh
         try replace abc := abc.below hh
         try replace ab := ab.below hh
         try replace abd := abd.below hh
         try replace mab := mab.below hh
         try replace mac := mac.below hh
         try replace x1 := x1.below hh
         try replace x2 := x2.below hh
         try replace na := na.below hh
         try replace nn := nn.below hh
         try replace sb := sb.below hh
         try replace XA := XA.below hh
         try replace XB := XB.below hh
         try replace XC := XC.below hh
         try replace XD := XD.below hh
         replace hb := bend hb hh
         have xa0 := XA.c0
         have xa1 := XA.c1
         have xa2 := XA.c2
         have xb0 := XB.c0
         have xb1 := XB.c1
         have xb2 := XB.c2
         have xc0 := XC.c0
         have xc1 := XC.c1
         have xc2 := XC.c2))
  generalize hW : (w_dv.alloc (Obj.cells #[Value.bool s_dv, Value.slice A_dv n_dv c_dv, Value.slice B_dv m_dv d_dv] 26)) = W2
  have hh : Below w_dv.heap.size w_dv W2 := by subst hW; exact ((Below.refl _ _).alloc (Nat.le_refl _) _)
  have XD : B3 W2 (w_dv.heap.size) (Value.bool s_dv) (Value.slice A_dv n_dv c_dv) (Value.slice B_dv m_dv d_dv) := by subst hW; exact B3.new' _ _ _ _ _ rfl
  have hzW2 : W2.heap.size = w_dv.heap.size + 1 := by subst hW; simp
  clear hW
  try replace a := a.below hh
  try replace b := b.below hh
  try replace cc := cc.below hh
  try replace dv := dv.below hh
  try replace XA := XA.below hh
  try replace XB := XB.below hh
  try replace XC := XC.below hh
  replace hb := bend hb hh
  replace a := a.below (Below.refl _ _).drew
  replace b := b.below (Below.refl _ _).drew
  replace cc := cc.below (Below.refl _ _).drew
  replace dv := dv.below (Below.refl _ _).drew
  replace XA := XA.below (Below.refl _ _).drew
  replace XB := XB.below (Below.refl _ _).drew
  replace XC := XC.below (Below.refl _ _).drew
  replace XD := XD.below (Below.refl _ _).drew
  replace hb := hb.drew
  go_region_held3 (fun w' => w'.cell? ⟨w.heap.size, 0, none⟩ = some (.bool s1) ∧ w'.cell? ⟨w.heap.size, 1, none⟩ = some (.slice A1 n1 c1) ∧ w'.cell? ⟨w.heap.size, 2, none⟩ = some (.slice B1 m1 d1) ∧ w'.cell? ⟨w.heap.size + 1, 0, none⟩ = some (.bool s2) ∧ w'.cell? ⟨w.heap.size + 1, 1, none⟩ = some (.slice A2 n2 c2) ∧ w'.cell? ⟨w.heap.size + 1, 2, none⟩ = some (.slice B2 m2 d2) ∧ w'.cell? ⟨w.heap.size + 1 + 1, 0, none⟩ = some (.bool s3) ∧ w'.cell? ⟨w.heap.size + 1 + 1, 1, none⟩ = some (.slice A3 n3 c3) ∧ w'.cell? ⟨w.heap.size + 1 + 1, 2, none⟩ = some (.slice E3 m3 d3) ∧ w'.cell? ⟨w_dv.heap.size, 0, none⟩ = some (.bool s_dv) ∧ w'.cell? ⟨w_dv.heap.size, 1, none⟩ = some (.slice A_dv n_dv c_dv) ∧ w'.cell? ⟨w_dv.heap.size, 2, none⟩ = some (.slice B_dv m_dv d_dv))
    (first | with_reducible exact ⟨XA.c0, XA.c1, XA.c2, XB.c0, XB.c1, XB.c2, XC.c0, XC.c1, XC.c2, XD.c0, XD.c1, XD.c2⟩)
    (first
    | (go_at_call 23; (with_reducible refine (rmul_q dv.qr b (by decide) (by decide) (by decide) (by decide) (by decide)).mono ?_); rintro e w_x1 ⟨s_x1, A_x1, n_x1, c_x1, B_x1, m_x1, d_x1, rfl, x1, hh⟩
       try replace a := a.below hh
       try replace b := b.below hh
       try replace cc := cc.below hh
       try replace bc := bc.below hh
       try replace abc := abc.below hh
       try replace ab := ab.below hh
       try replace abd := abd.below hh
       try replace mab := mab.below hh
       try replace mac := mac.below hh
       try replace x2 := x2.below hh
       try replace dv := dv.below hh
       try replace na := na.below hh
       try replace nn := nn.below hh
       try replace sb := sb.below hh
       try replace XA := XA.below hh
       try replace XB := XB.below hh
       try replace XC := XC.below hh
       try replace XD := XD.below hh
       replace hb := bend hb hh)
    | (go_at_call 25; (with_reducible refine (rcmp_q x1.qr a (by decide) (by decide) (by decide) (by decide) (by decide)).mono ?_); rintro e w_z ⟨rfl, hh⟩
       rw [HC4.out]
       try replace a := a.below hh
       try replace b := b.below hh
       try replace cc := cc.below hh
       try replace bc := bc.below hh
       try replace abc := abc.below hh
       try replace ab := ab.below hh
       try replace abd := abd.below hh
       try replace mab := mab.below hh
       try replace mac := mac.below hh
       try replace x1 := x1.below hh
       try replace x2 := x2.below hh
       try replace dv := dv.below hh
       try replace na := na.below hh
       try replace nn := nn.below hh
       try replace sb := sb.below hh
       try replace XA := XA.below hh
       try replace XB := XB.below hh
       try replace XC := XC.below hh
       try replace XD := XD.below hh
       replace hb := bend hb hh))
  try clear x1
  go_wp2_with fail
  replace a := a.below (Below.refl _ _).drew
  replace b := b.below (Below.refl _ _).drew
  replace cc := cc.below (Below.refl _ _).drew
  replace XA := XA.below (Below.refl _ _).drew
  replace XB := XB.below (Below.refl _ _).drew
  replace XC := XC.below (Below.refl _ _).drew
  replace hb := hb.drew
  go_region_held3 (fun w' => w'.cell? ⟨w.heap.size, 0, none⟩ = some (.bool s1) ∧ w'.cell? ⟨w.heap.size, 1, none⟩ = some (.slice A1 n1 c1) ∧ w'.cell? ⟨w.heap.size, 2, none⟩ = some (.slice B1 m1 d1) ∧ w'.cell? ⟨w.heap.size + 1, 0, none⟩ = some (.bool s2) ∧ w'.cell? ⟨w.heap.size + 1, 1, none⟩ = some (.slice A2 n2 c2) ∧ w'.cell? ⟨w.heap.size + 1, 2, none⟩ = some (.slice B2 m2 d2) ∧ w'.cell? ⟨w.heap.size + 1 + 1, 0, none⟩ = some (.bool s3) ∧ w'.cell? ⟨w.heap.size + 1 + 1, 1, none⟩ = some (.slice A3 n3 c3) ∧ w'.cell? ⟨w.heap.size + 1 + 1, 2, none⟩ = some (.slice E3 m3 d3))
    (first | with_reducible exact ⟨XA.c0, XA.c1, XA.c2, XB.c0, XB.c1, XB.c2, XC.c0, XC.c1, XC.c2⟩)
    (first
    | (go_at_call 21; (with_reducible refine (rsub_q a a (by decide) (by decide) (by decide) (by decide) (by decide)).mono ?_); rintro e w_sb ⟨s_sb, A_sb, n_sb, c_sb, B_sb, m_sb, d_sb, rfl, sb, hh⟩
       try replace a := a.below hh
       try replace b := b.below hh
       try replace cc := cc.below hh
       try replace bc := bc.below hh
       try replace abc := abc.below hh
       try replace ab := ab.below hh
       try replace abd := abd.below hh
       try replace mab := mab.below hh
       try replace mac := mac.below hh
       try replace x1 := x1.below hh
       try replace x2 := x2.below hh
       try replace dv := dv.below hh
       try replace na := na.below hh
       try replace nn := nn.below hh
       try replace XA := XA.below hh
       try replace XB := XB.below hh
       try replace XC := XC.below hh
       try replace XD := XD.below hh
       replace hb := bend hb hh)
    | (go_at_call 27; (with_reducible refine (rsign_q sb.qr (by decide) (by decide)).mono ?_); rintro e w_z ⟨rfl, hh⟩
       rw [HS.out]
       try replace a := a.below hh
       try replace b := b.below hh
       try replace cc := cc.below hh
       try replace bc := bc.below hh
       try replace abc := abc.below hh
       try replace ab := ab.below hh
       try replace abd := abd.below hh
       try replace mab := mab.below hh
       try replace mac := mac.below hh
       try replace x1 := x1.below hh
       try replace x2 := x2.below hh
       try replace dv := dv.below hh
       try replace na := na.below hh
       try replace nn := nn.below hh
       try replace sb := sb.below hh
       try replace XA := XA.below hh
       try replace XB := XB.below hh
       try replace XC := XC.below hh
       try replace XD := XD.below hh
       replace hb := bend hb hh)
    | (go_at_call 19; (with_reducible refine (radd_q a b (by decide) (by decide) (by decide) (by decide) (by decide)).mono ?_); rintro e w_x1 ⟨s_x1, A_x1, n_x1, c_x1, B_x1, m_x1, d_x1, rfl, x1, hh⟩
       try replace a := a.below hh
       try replace b := b.below hh
       try replace cc := cc.below hh
       try replace bc := bc.below hh
       try replace abc := abc.below hh
       try replace ab := ab.below hh
       try replace abd := abd.below hh
       try replace mab := mab.below hh
       try replace mac := mac.below hh
       try replace x2 := x2.below hh
       try replace dv := dv.below hh
       try replace na := na.below hh
       try replace nn := nn.below hh
       try replace sb := sb.below hh
       try replace XA := XA.below hh
       try replace XB := XB.below hh
       try replace XC := XC.below hh
       try replace XD := XD.below hh
       replace hb := bend hb hh)
    | (go_at_call 19; (with_reducible refine (radd_q b a (by decide) (by decide) (by decide) (by decide) (by decide)).mono ?_); rintro e w_x2 ⟨s_x2, A_x2, n_x2, c_x2, B_x2, m_x2, d_x2, rfl, x2, hh⟩
       try replace a := a.below hh
       try replace b := b.below hh
       try replace cc := cc.below hh
       try replace bc := bc.below hh
       try replace abc := abc.below hh
       try replace ab := ab.below hh
       try replace abd := abd.below hh
       try replace mab := mab.below hh
       try replace mac := mac.below hh
       try replace x1 := x1.below hh
       try replace dv := dv.below hh
       try replace na := na.below hh
       try replace nn := nn.below hh
       try replace sb := sb.below hh
       try replace XA := XA.below hh
       try replace XB := XB.below hh
       try replace XC := XC.below hh
       try replace XD := XD.below hh
       replace hb := bend hb hh)
    | (go_at_call 25; (with_reducible refine (rcmp_q x1.qr x2.qr (by decide) (by decide) (by decide) (by decide) (by decide)).mono ?_); rintro e w_z ⟨rfl, hh⟩
       rw [HC5.out]
       try replace a := a.below hh
       try replace b := b.below hh
       try replace cc := cc.below hh
       try replace bc := bc.below hh
       try replace abc := abc.below hh
       try replace ab := ab.below hh
       try replace abd := abd.below hh
       try replace mab := mab.below hh
       try replace mac := mac.below hh
       try replace x1 := x1.below hh
       try replace x2 := x2.below hh
       try replace dv := dv.below hh
       try replace na := na.below hh
       try replace nn := nn.below hh
       try replace sb := sb.below hh
       try replace XA := XA.below hh
       try replace XB := XB.below hh
       try replace XC := XC.below hh
       try replace XD := XD.below hh
       replace hb := bend hb hh)
    | (go_at_call 28; (with_reducible refine (rneg_q a (by decide) (by decide)).mono ?_); rintro e w_na ⟨s_na, A_na, n_na, c_na, B_na, m_na, d_na, rfl, na, hh⟩
       try replace a := a.below hh
       try replace b := b.below hh
       try replace cc := cc.below hh
       try replace bc := bc.below hh
       try replace abc := abc.below hh
       try replace ab := ab.below hh
       try replace abd := abd.below hh
       try replace mab := mab.below hh
       try replace mac := mac.below hh
       try replace x1 := x1.below hh
       try replace x2 := x2.below hh
       try replace dv := dv.below hh
       try replace nn := nn.below hh
       try replace sb := sb.below hh
       try replace XA := XA.below hh
       try replace XB := XB.below hh
       try replace XC := XC.below hh
       try replace XD := XD.below hh
       replace hb := bend hb hh)
    | (go_at_call 28; (with_reducible refine (rneg_q na.qr (by decide) (by decide)).mono ?_); rintro e w_nn ⟨s_nn, A_nn, n_nn, c_nn, B_nn, m_nn, d_nn, rfl, nn, hh⟩
       try replace a := a.below hh
       try replace b := b.below hh
       try replace cc := cc.below hh
       try replace bc := bc.below hh
       try replace abc := abc.below hh
       try replace ab := ab.below hh
       try replace abd := abd.below hh
       try replace mab := mab.below hh
       try replace mac := mac.below hh
       try replace x1 := x1.below hh
       try replace x2 := x2.below hh
       try replace dv := dv.below hh
       try replace na := na.below hh
       try replace sb := sb.below hh
       try replace XA := XA.below hh
       try replace XB := XB.below hh
       try replace XC := XC.below hh
       try replace XD := XD.below hh
       replace hb := bend hb hh)
    | (go_at_call 25; (with_reducible refine (rcmp_q nn.qr a (by decide) (by decide) (by decide) (by decide) (by decide)).mono ?_); rintro e w_z ⟨rfl, hh⟩
       rw [HC6.out]
       try replace a := a.below hh
       try replace b := b.below hh
       try replace cc := cc.below hh
       try replace bc := bc.below hh
       try replace abc := abc.below hh
       try replace ab := ab.below hh
       try replace abd := abd.below hh
       try replace mab := mab.below hh
       try replace mac := mac.below hh
       try replace x1 := x1.below hh
       try replace x2 := x2.below hh
       try replace dv := dv.below hh
       try replace na := na.below hh
       try replace nn := nn.below hh
       try replace sb := sb.below hh
       try replace XA := XA.below hh
       try replace XB := XB.below hh
       try replace XC := XC.below hh
       try replace XD := XD.below hh
       replace hb := bend hb hh)
    | (go_at_call 12; (with_reducible refine (qwakes_any _).mono ?_); rintro e w_z ⟨rfl, hh⟩
       try replace a := a.below hh
       try replace b := b.below hh
       try replace cc := cc.below hh
       try replace bc := bc.below hh
       try replace abc := abc.below hh
       try replace ab := ab.below hh
       try replace abd := abd.below hh
       try replace mab := mab.below hh
       try replace mac := mac.below hh
       try replace x1 := x1.below hh
       try replace x2 := x2.below hh
       try replace dv := dv.below hh
       try replace na := na.below hh
       try replace nn := nn.below hh
       try replace sb := sb.below hh
       try replace XA := XA.below hh
       try replace XB := XB.below hh
       try replace XC := XC.below hh
       try replace XD := XD.below hh
       replace hb := bend hb hh))
  go_wp2_with fail
  go_ret
  exact ⟨rfl, hb⟩

set_option maxRecDepth 100000 in
set_option maxHeartbeats 8000000 in
theorem field_zero {w : World} {s1 s2 s3 : Bool} {A1 B1 A2 B2 A3 E3 : Option Addr} {n1 c1 m1 d1 n2 c2 m2 d2 n3 c3 m3 d3 : Nat} {va vb vc : Rat} (a : QR w s1 A1 n1 c1 B1 m1 d1 va 12) (b : QR w s2 A2 n2 c2 B2 m2 d2 vb 12) (cc : QR w s3 A3 n3 c3 E3 m3 d3 vc 12) (h1 : n1 ≤ 12 ∧ m1 ≤ 12) (h2 : n2 ≤ 12 ∧ m2 ≤ 12) (h3 : n3 ≤ 12 ∧ m3 ≤ 12) (hz : vb = 0) :
    Calls Tryz.prog 6 #[.agg #[.bool s1, .slice A1 n1 c1, .slice B1 m1 d1], .agg #[.bool s2, .slice A2 n2 c2, .slice B2 m2 d2], .agg #[.bool s3, .slice A3 n3 c3, .slice E3 m3 d3]] w fun e w' => e = .returned (.bool true) ∧ Below w.heap.size w w' := by
  have H1 : Hid (n1 ≤ 12 ∧ m1 ≤ 12) := h1
  have H2 : Hid (n2 ≤ 12 ∧ m2 ≤ 12) := h2
  have H3 : Hid (n3 ≤ 12 ∧ m3 ≤ 12) := h3
  clear h1 h2 h3
  have HC1 : Hid (cmpQ (va + (vb + vc)) (va + vb + vc) = 0) := cmpQ_eq (by grind)
  have HC2 : Hid (cmpQ (va * (vb + vc)) (va * vb + va * vc) = 0) := cmpQ_eq (by grind)
  have HC3 : Hid (cmpQ (va * (vb * vc)) (va * vb * vc) = 0) := cmpQ_eq (by grind)
  have HC5 : Hid (cmpQ (va + vb) (vb + va) = 0) := cmpQ_eq (by grind)
  have HC6 : Hid (cmpQ (- -va) (va) = 0) := cmpQ_eq (by grind)
  have HS : Hid (sgnQ (va - va) = 0) := by show _ = _; rw [Rat.sub_self]; rfl
  have HZ := Lib.hid hz
  clear hz
  go_enter Tryz.func6, Tryz.ntmps6
  go_wp2_with fail
  generalize hW : (((w.alloc (Obj.cells #[Value.bool s1, Value.slice A1 n1 c1, Value.slice B1 m1 d1] 26)).alloc (Obj.cells #[Value.bool s2, Value.slice A2 n2 c2, Value.slice B2 m2 d2] 26)).alloc (Obj.cells #[Value.bool s3, Value.slice A3 n3 c3, Value.slice E3 m3 d3] 26)) = W
  have hb : Below w.heap.size w W := by subst hW; exact ((((Below.refl _ _).alloc (Nat.le_refl _) _).alloc (by simp) _).alloc (by simp; omega) _)
  have XA : B3 W (w.heap.size) (Value.bool s1) (Value.slice A1 n1 c1) (Value.slice B1 m1 d1) := by subst hW; exact ((B3.new' _ _ _ _ _ rfl).alloc _).alloc _
  have XB : B3 W (w.heap.size + 1) (Value.bool s2) (Value.slice A2 n2 c2) (Value.slice B2 m2 d2) := by subst hW; exact (B3.new' _ _ _ _ _ (by simp)).alloc _
  have XC : B3 W (w.heap.size + 1 + 1) (Value.bool s3) (Value.slice A3 n3 c3) (Value.slice E3 m3 d3) := by subst hW; exact B3.new' _ _ _ _ _ (by simp)
  have hzW : W.heap.size = w.heap.size + 3 := by subst hW; simp
  clear hW
  replace a := a.below hb
  replace b := b.below hb
  replace cc := cc.below hb
  have xa0 := XA.c0
  have xa1 := XA.c1
  have xa2 := XA.c2
  have xb0 := XB.c0
  have xb1 := XB.c1
  have xb2 := XB.c2
  have xc0 := XC.c0
  have xc1 := XC.c1
  have xc2 := XC.c2
  go_upto_region 3 with (first
      | (go_at_call 11; (with_reducible refine (qlarge_no s1 A1 B1 n1 c1 m1 d1 _ H1.out).mono ?_); rintro e w_z ⟨rfl, hh⟩
         try replace a := a.below hh
         try replace b := b.below hh
         try replace cc := cc.below hh
         try replace bc := bc.below hh
         try replace abc := abc.below hh
         try replace ab := ab.below hh
         try replace abd := abd.below hh
         try replace mab := mab.below hh
         try replace mac := mac.below hh
         try replace x1 := x1.below hh
         try replace x2 := x2.below hh
         try replace dv := dv.below hh
         try replace na := na.below hh
         try replace nn := nn.below hh
         try replace sb := sb.below hh
         try replace XA := XA.below hh
         try replace XB := XB.below hh
         try replace XC := XC.below hh
         try replace XD := XD.below hh
         replace hb := bend hb hh
         have xa0 := XA.c0
         have xa1 := XA.c1
         have xa2 := XA.c2
         have xb0 := XB.c0
         have xb1 := XB.c1
         have xb2 := XB.c2
         have xc0 := XC.c0
         have xc1 := XC.c1
         have xc2 := XC.c2)
      | (go_at_call 11; (with_reducible refine (qlarge_no s2 A2 B2 n2 c2 m2 d2 _ H2.out).mono ?_); rintro e w_z ⟨rfl, hh⟩
         try replace a := a.below hh
         try replace b := b.below hh
         try replace cc := cc.below hh
         try replace bc := bc.below hh
         try replace abc := abc.below hh
         try replace ab := ab.below hh
         try replace abd := abd.below hh
         try replace mab := mab.below hh
         try replace mac := mac.below hh
         try replace x1 := x1.below hh
         try replace x2 := x2.below hh
         try replace dv := dv.below hh
         try replace na := na.below hh
         try replace nn := nn.below hh
         try replace sb := sb.below hh
         try replace XA := XA.below hh
         try replace XB := XB.below hh
         try replace XC := XC.below hh
         try replace XD := XD.below hh
         replace hb := bend hb hh
         have xa0 := XA.c0
         have xa1 := XA.c1
         have xa2 := XA.c2
         have xb0 := XB.c0
         have xb1 := XB.c1
         have xb2 := XB.c2
         have xc0 := XC.c0
         have xc1 := XC.c1
         have xc2 := XC.c2)
      | (go_at_call 11; (with_reducible refine (qlarge_no s3 A3 E3 n3 c3 m3 d3 _ H3.out).mono ?_); rintro e w_z ⟨rfl, hh⟩
         try replace a := a.below hh
         try replace b := b.below hh
         try replace cc := cc.below hh
         try replace bc := bc.below hh
         try replace abc := abc.below hh
         try replace ab := ab.below hh
         try replace abd := abd.below hh
         try replace mab := mab.below hh
         try replace mac := mac.below hh
         try replace x1 := x1.below hh
         try replace x2 := x2.below hh
         try replace dv := dv.below hh
         try replace na := na.below hh
         try replace nn := nn.below hh
         try replace sb := sb.below hh
         try replace XA := XA.below hh
         try replace XB := XB.below hh
         try replace XC := XC.below hh
         try replace XD := XD.below hh
         replace hb := bend hb hh
         have xa0 := XA.c0
         have xa1 := XA.c1
         have xa2 := XA.c2
         have xb0 := XB.c0
         have xb1 := XB.c1
         have xb2 := XB.c2
         have xc0 := XC.c0
         have xc1 := XC.c1
         have xc2 := XC.c2))
  replace a := a.below (Below.refl _ _).drew
  replace b := b.below (Below.refl _ _).drew
  replace cc := cc.below (Below.refl _ _).drew
  replace XA := XA.below (Below.refl _ _).drew
  replace XB := XB.below (Below.refl _ _).drew
  replace XC := XC.below (Below.refl _ _).drew
  replace hb := hb.drew
  go_region_held3 (fun w' => w'.cell? ⟨w.heap.size, 0, none⟩ = some (.bool s1) ∧ w'.cell? ⟨w.heap.size, 1, none⟩ = some (.slice A1 n1 c1) ∧ w'.cell? ⟨w.heap.size, 2, none⟩ = some (.slice B1 m1 d1) ∧ w'.cell? ⟨w.heap.size + 1, 0, none⟩ = some (.bool s2) ∧ w'.cell? ⟨w.heap.size + 1, 1, none⟩ = some (.slice A2 n2 c2) ∧ w'.cell? ⟨w.heap.size + 1, 2, none⟩ = some (.slice B2 m2 d2) ∧ w'.cell? ⟨w.heap.size + 1 + 1, 0, none⟩ = some (.bool s3) ∧ w'.cell? ⟨w.heap.size + 1 + 1, 1, none⟩ = some (.slice A3 n3 c3) ∧ w'.cell? ⟨w.heap.size + 1 + 1, 2, none⟩ = some (.slice E3 m3 d3))
    (first | with_reducible exact ⟨XA.c0, XA.c1, XA.c2, XB.c0, XB.c1, XB.c2, XC.c0, XC.c1, XC.c2⟩)
    (first
    | (go_at_call 19; (with_reducible refine (radd_q b cc (by decide) (by decide) (by decide) (by decide) (by decide)).mono ?_); rintro e w_bc ⟨s_bc, A_bc, n_bc, c_bc, B_bc, m_bc, d_bc, rfl, bc, hh⟩
       try replace a := a.below hh
       try replace b := b.below hh
       try replace cc := cc.below hh
       try replace abc := abc.below hh
       try replace ab := ab.below hh
       try replace abd := abd.below hh
       try replace mab := mab.below hh
       try replace mac := mac.below hh
       try replace x1 := x1.below hh
       try replace x2 := x2.below hh
       try replace dv := dv.below hh
       try replace na := na.below hh
       try replace nn := nn.below hh
       try replace sb := sb.below hh
       try replace XA := XA.below hh
       try replace XB := XB.below hh
       try replace XC := XC.below hh
       try replace XD := XD.below hh
       replace hb := bend hb hh)
    | (go_at_call 19; (with_reducible refine (radd_q a bc.qr (by decide) (by decide) (by decide) (by decide) (by decide)).mono ?_); rintro e w_abc ⟨s_abc, A_abc, n_abc, c_abc, B_abc, m_abc, d_abc, rfl, abc, hh⟩
       try replace a := a.below hh
       try replace b := b.below hh
       try replace cc := cc.below hh
       try replace bc := bc.below hh
       try replace ab := ab.below hh
       try replace abd := abd.below hh
       try replace mab := mab.below hh
       try replace mac := mac.below hh
       try replace x1 := x1.below hh
       try replace x2 := x2.below hh
       try replace dv := dv.below hh
       try replace na := na.below hh
       try replace nn := nn.below hh
       try replace sb := sb.below hh
       try replace XA := XA.below hh
       try replace XB := XB.below hh
       try replace XC := XC.below hh
       try replace XD := XD.below hh
       replace hb := bend hb hh)
    | (go_at_call 19; (with_reducible refine (radd_q a b (by decide) (by decide) (by decide) (by decide) (by decide)).mono ?_); rintro e w_ab ⟨s_ab, A_ab, n_ab, c_ab, B_ab, m_ab, d_ab, rfl, ab, hh⟩
       try replace a := a.below hh
       try replace b := b.below hh
       try replace cc := cc.below hh
       try replace bc := bc.below hh
       try replace abc := abc.below hh
       try replace abd := abd.below hh
       try replace mab := mab.below hh
       try replace mac := mac.below hh
       try replace x1 := x1.below hh
       try replace x2 := x2.below hh
       try replace dv := dv.below hh
       try replace na := na.below hh
       try replace nn := nn.below hh
       try replace sb := sb.below hh
       try replace XA := XA.below hh
       try replace XB := XB.below hh
       try replace XC := XC.below hh
       try replace XD := XD.below hh
       replace hb := bend hb hh)
    | (go_at_call 19; (with_reducible refine (radd_q ab.qr cc (by decide) (by decide) (by decide) (by decide) (by decide)).mono ?_); rintro e w_abd ⟨s_abd, A_abd, n_abd, c_abd, B_abd, m_abd, d_abd, rfl, abd, hh⟩
       try replace a := a.below hh
       try replace b := b.below hh
       try replace cc := cc.below hh
       try replace bc := bc.below hh
       try replace abc := abc.below hh
       try replace ab := ab.below hh
       try replace mab := mab.below hh
       try replace mac := mac.below hh
       try replace x1 := x1.below hh
       try replace x2 := x2.below hh
       try replace dv := dv.below hh
       try replace na := na.below hh
       try replace nn := nn.below hh
       try replace sb := sb.below hh
       try replace XA := XA.below hh
       try replace XB := XB.below hh
       try replace XC := XC.below hh
       try replace XD := XD.below hh
       replace hb := bend hb hh)
    | (go_at_call 25; (with_reducible refine (rcmp_q abc.qr abd.qr (by decide) (by decide) (by decide) (by decide) (by decide)).mono ?_); rintro e w_z ⟨rfl, hh⟩
       rw [HC1.out]
       try replace a := a.below hh
       try replace b := b.below hh
       try replace cc := cc.below hh
       try replace bc := bc.below hh
       try replace abc := abc.below hh
       try replace ab := ab.below hh
       try replace abd := abd.below hh
       try replace mab := mab.below hh
       try replace mac := mac.below hh
       try replace x1 := x1.below hh
       try replace x2 := x2.below hh
       try replace dv := dv.below hh
       try replace na := na.below hh
       try replace nn := nn.below hh
       try replace sb := sb.below hh
       try replace XA := XA.below hh
       try replace XB := XB.below hh
       try replace XC := XC.below hh
       try replace XD := XD.below hh
       replace hb := bend hb hh)
    | (go_at_call 23; (with_reducible refine (rmul_q a bc.qr (by decide) (by decide) (by decide) (by decide) (by decide)).mono ?_); rintro e w_x1 ⟨s_x1, A_x1, n_x1, c_x1, B_x1, m_x1, d_x1, rfl, x1, hh⟩
       try replace a := a.below hh
       try replace b := b.below hh
       try replace cc := cc.below hh
       try replace bc := bc.below hh
       try replace abc := abc.below hh
       try replace ab := ab.below hh
       try replace abd := abd.below hh
       try replace mab := mab.below hh
       try replace mac := mac.below hh
       try replace x2 := x2.below hh
       try replace dv := dv.below hh
       try replace na := na.below hh
       try replace nn := nn.below hh
       try replace sb := sb.below hh
       try replace XA := XA.below hh
       try replace XB := XB.below hh
       try replace XC := XC.below hh
       try replace XD := XD.below hh
       replace hb := bend hb hh)
    | (go_at_call 23; (with_reducible refine (rmul_q a b (by decide) (by decide) (by decide) (by decide) (by decide)).mono ?_); rintro e w_mab ⟨s_mab, A_mab, n_mab, c_mab, B_mab, m_mab, d_mab, rfl, mab, hh⟩
       try replace a := a.below hh
       try replace b := b.below hh
       try replace cc := cc.below hh
       try replace bc := bc.below hh
       try replace abc := abc.below hh
       try replace ab := ab.below hh
       try replace abd := abd.below hh
       try replace mac := mac.below hh
       try replace x1 := x1.below hh
       try replace x2 := x2.below hh
       try replace dv := dv.below hh
       try replace na := na.below hh
       try replace nn := nn.below hh
       try replace sb := sb.below hh
       try replace XA := XA.below hh
       try replace XB := XB.below hh
       try replace XC := XC.below hh
       try replace XD := XD.below hh
       replace hb := bend hb hh)
    | (go_at_call 23; (with_reducible refine (rmul_q a cc (by decide) (by decide) (by decide) (by decide) (by decide)).mono ?_); rintro e w_mac ⟨s_mac, A_mac, n_mac, c_mac, B_mac, m_mac, d_mac, rfl, mac, hh⟩
       try replace a := a.below hh
       try replace b := b.below hh
       try replace cc := cc.below hh
       try replace bc := bc.below hh
       try replace abc := abc.below hh
       try replace ab := ab.below hh
       try replace abd := abd.below hh
       try replace mab := mab.below hh
       try replace x1 := x1.below hh
       try replace x2 := x2.below hh
       try replace dv := dv.below hh
       try replace na := na.below hh
       try replace nn := nn.below hh
       try replace sb := sb.below hh
       try replace XA := XA.below hh
       try replace XB := XB.below hh
       try replace XC := XC.below hh
       try replace XD := XD.below hh
       replace hb := bend hb hh)
    | (go_at_call 19; (with_reducible refine (radd_q mab.qr mac.qr (by decide) (by decide) (by decide) (by decide) (by decide)).mono ?_); rintro e w_x2 ⟨s_x2, A_x2, n_x2, c_x2, B_x2, m_x2, d_x2, rfl, x2, hh⟩
       try replace a := a.below hh
       try replace b := b.below hh
       try replace cc := cc.below hh
       try replace bc := bc.below hh
       try replace abc := abc.below hh
       try replace ab := ab.below hh
       try replace abd := abd.below hh
       try replace mab := mab.below hh
       try replace mac := mac.below hh
       try replace x1 := x1.below hh
       try replace dv := dv.below hh
       try replace na := na.below hh
       try replace nn := nn.below hh
       try replace sb := sb.below hh
       try replace XA := XA.below hh
       try replace XB := XB.below hh
       try replace XC := XC.below hh
       try replace XD := XD.below hh
       replace hb := bend hb hh)
    | (go_at_call 25; (with_reducible refine (rcmp_q x1.qr x2.qr (by decide) (by decide) (by decide) (by decide) (by decide)).mono ?_); rintro e w_z ⟨rfl, hh⟩
       rw [HC2.out]
       try replace a := a.below hh
       try replace b := b.below hh
       try replace cc := cc.below hh
       try replace bc := bc.below hh
       try replace abc := abc.below hh
       try replace ab := ab.below hh
       try replace abd := abd.below hh
       try replace mab := mab.below hh
       try replace mac := mac.below hh
       try replace x1 := x1.below hh
       try replace x2 := x2.below hh
       try replace dv := dv.below hh
       try replace na := na.below hh
       try replace nn := nn.below hh
       try replace sb := sb.below hh
       try replace XA := XA.below hh
       try replace XB := XB.below hh
       try replace XC := XC.below hh
       try replace XD := XD.below hh
       replace hb := bend hb hh)
    | (go_at_call 23; (with_reducible refine (rmul_q b cc (by decide) (by decide) (by decide) (by decide) (by decide)).mono ?_); rintro e w_mac ⟨s_mac, A_mac, n_mac, c_mac, B_mac, m_mac, d_mac, rfl, mac, hh⟩
       try replace a := a.below hh
       try replace b := b.below hh
       try replace cc := cc.below hh
       try replace bc := bc.below hh
       try replace abc := abc.below hh
       try replace ab := ab.below hh
       try replace abd := abd.below hh
       try replace mab := mab.below hh
       try replace x1 := x1.below hh
       try replace x2 := x2.below hh
       try replace dv := dv.below hh
       try replace na := na.below hh
       try replace nn := nn.below hh
       try replace sb := sb.below hh
       try replace XA := XA.below hh
       try replace XB := XB.below hh
       try replace XC := XC.below hh
       try replace XD := XD.below hh
       replace hb := bend hb hh)
    | (go_at_call 23; (with_reducible refine (rmul_q a mac.qr (by decide) (by decide) (by decide) (by decide) (by decide)).mono ?_); rintro e w_x1 ⟨s_x1, A_x1, n_x1, c_x1, B_x1, m_x1, d_x1, rfl, x1, hh⟩
       try replace a := a.below hh
       try replace b := b.below hh
       try replace cc := cc.below hh
       try replace bc := bc.below hh
       try replace abc := abc.below hh
       try replace ab := ab.below hh
       try replace abd := abd.below hh
       try replace mab := mab.below hh
       try replace mac := mac.below hh
       try replace x2 := x2.below hh
       try replace dv := dv.below hh
       try replace na := na.below hh
       try replace nn := nn.below hh
       try replace sb := sb.below hh
       try replace XA := XA.below hh
       try replace XB := XB.below hh
       try replace XC := XC.below hh
       try replace XD := XD.below hh
       replace hb := bend hb hh)
    | (go_at_call 23; (with_reducible refine (rmul_q mab.qr cc (by decide) (by decide) (by decide) (by decide) (by decide)).mono ?_); rintro e w_x2 ⟨s_x2, A_x2, n_x2, c_x2, B_x2, m_x2, d_x2, rfl, x2, hh⟩
       try replace a := a.below hh
       try replace b := b.below hh
       try replace cc := cc.below hh
       try replace bc := bc.below hh
       try replace abc := abc.below hh
       try replace ab := ab.below hh
       try replace abd := abd.below hh
       try replace mab := mab.below hh
       try replace mac := mac.below hh
       try replace x1 := x1.below hh
       try replace dv := dv.below hh
       try replace na := na.below hh
       try replace nn := nn.below hh
       try replace sb := sb.below hh
       try replace XA := XA.below hh
       try replace XB := XB.below hh
       try replace XC := XC.below hh
       try replace XD := XD.below hh
       replace hb := bend hb hh)
    | (go_at_call 25; (with_reducible refine (rcmp_q x1.qr x2.qr (by decide) (by decide) (by decide) (by decide) (by decide)).mono ?_); rintro e w_z ⟨rfl, hh⟩
       rw [HC3.out]
       try replace a := a.below hh
       try replace b := b.below hh
       try replace cc := cc.below hh
       try replace bc := bc.below hh
       try replace abc := abc.below hh
       try replace ab := ab.below hh
       try replace abd := abd.below hh
       try replace mab := mab.below hh
       try replace mac := mac.below hh
       try replace x1 := x1.below hh
       try replace x2 := x2.below hh
       try replace dv := dv.below hh
       try replace na := na.below hh
       try replace nn := nn.below hh
       try replace sb := sb.below hh
       try replace XA := XA.below hh
       try replace XB := XB.below hh
       try replace XC := XC.below hh
       try replace XD := XD.below hh
       replace hb := bend hb hh))
  try clear bc
  try clear abc
  try clear ab
  try clear abd
  try clear mab
  try clear mac
  try clear x1
  try clear x2
  have xa0 := XA.c0
  have xa1 := XA.c1
  have xa2 := XA.c2
  have xb0 := XB.c0
  have xb1 := XB.c1
  have xb2 := XB.c2
  have xc0 := XC.c0
  have xc1 := XC.c1
  have xc2 := XC.c2
  go_upto_region 6 with (first
      | (go_at_call 15; (with_reducible refine (rdiv_zero a b (by decide) (by decide) (by decide) (by decide) (by decide) HZ.out).mono ?_); rintro e w_dv ⟨rfl, hh⟩
         try replace a := a.below hh
         try replace b := b.below hh
         try replace cc := cc.below hh
         try replace bc := bc.below hh
         try replace abc := abc.below hh
         try replace ab := ab.below hh
         try replace abd := abd.below hh
         try replace mab := mab.below hh
         try replace mac := mac.below hh
         try replace x1 := x1.below hh
         try replace x2 := x2.below hh
         try replace dv := dv.below hh
         try replace na := na.below hh
         try replace nn := nn.below hh
         try replace sb := sb.below hh
         try replace XA := XA.below hh
         try replace XB := XB.below hh
         try replace XC := XC.below hh
         try replace XD := XD.below hh
         replace hb := bend hb hh
         have xa0 := XA.c0
         have xa1 := XA.c1
         have xa2 := XA.c2
         have xb0 := XB.c0
         have xb1 := XB.c1
         have xb2 := XB.c2
         have xc0 := XC.c0
         have xc1 := XC.c1
         have xc2 := XC.c2))
  generalize hW : (w_dv.alloc (Obj.cells #[Value.bool false, Value.slice none 0 0, Value.slice none 0 0] 26)) = W2
  have hh : Below w_dv.heap.size w_dv W2 := by subst hW; exact ((Below.refl _ _).alloc (Nat.le_refl _) _)
  have XD : B3 W2 (w_dv.heap.size) (Value.bool false) (Value.slice none 0 0) (Value.slice none 0 0) := by subst hW; exact B3.new' _ _ _ _ _ rfl
  have hzW2 : W2.heap.size = w_dv.heap.size + 1 := by subst hW; simp
  clear hW
  try replace a := a.below hh
  try replace b := b.below hh
  try replace cc := cc.below hh
  try replace XA := XA.below hh
  try replace XB := XB.below hh
  try replace XC := XC.below hh
  replace hb := bend hb hh
  replace a := a.below (Below.refl _ _).drew
  replace b := b.below (Below.refl _ _).drew
  replace cc := cc.below (Below.refl _ _).drew
  replace XA := XA.below (Below.refl _ _).drew
  replace XB := XB.below (Below.refl _ _).drew
  replace XC := XC.below (Below.refl _ _).drew
  replace XD := XD.below (Below.refl _ _).drew
  replace hb := hb.drew
  refine wp_region_held_drew (S := (fun w' => w'.cell? ⟨w.heap.size, 0, none⟩ = some (.bool s1) ∧ w'.cell? ⟨w.heap.size, 1, none⟩ = some (.slice A1 n1 c1) ∧ w'.cell? ⟨w.heap.size, 2, none⟩ = some (.slice B1 m1 d1) ∧ w'.cell? ⟨w.heap.size + 1, 0, none⟩ = some (.bool s2) ∧ w'.cell? ⟨w.heap.size + 1, 1, none⟩ = some (.slice A2 n2 c2) ∧ w'.cell? ⟨w.heap.size + 1, 2, none⟩ = some (.slice B2 m2 d2) ∧ w'.cell? ⟨w.heap.size + 1 + 1, 0, none⟩ = some (.bool s3) ∧ w'.cell? ⟨w.heap.size + 1 + 1, 1, none⟩ = some (.slice A3 n3 c3) ∧ w'.cell? ⟨w.heap.size + 1 + 1, 2, none⟩ = some (.slice E3 m3 d3))) (by kernel_rfl) ⟨XA.c0, XA.c1, XA.c2, XB.c0, XB.c1, XB.c2, XC.c0, XC.c1, XC.c2⟩ (fun hHeld => ?_)
  refine wpAnyH_take (i := 0) (oi := { dst := some 68, op := Op.move (Operand.tmp 8), type := 37, pos := "law.go:92", after := #[], guard := none }) (v := ?_) rfl (by kernel_rfl) (by kernel_rfl) (by kernel_rfl) (fun _ _ _ h => h) (Or.inl ⟨by rfl, ?_⟩) hHeld ?_
  rotate_left
  · (intro w hSw; (try dsimp only at hSw); go_simp; try with_reducible rfl)
  simp only [Act.put, List.setIfInBounds_toArray, List.set_cons_zero, List.set_cons_succ]
  refine wpAnyH_take (i := 1) (oi := { dst := some 69, op := Op.binOp BinOp.eql 37 (Operand.tmp 68) (Operand.const (Value.int IntKind.i64 0)) 37, type := 4, pos := "law.go:92", after := #[{ on := 0, ground := Ground.data }], guard := none }) (v := ?_) rfl (by kernel_rfl) (by kernel_rfl) (by kernel_rfl) (fun _ _ _ h => h) (Or.inl ⟨by rfl, ?_⟩) hHeld ?_
  rotate_left
  · (intro w hSw; (try dsimp only at hSw); go_simp; try with_reducible rfl)
  simp only [Act.put, List.setIfInBounds_toArray, List.set_cons_zero, List.set_cons_succ]
  refine wpAnyH_take (i := 2) (oi := { dst := some 70, op := Op.move (Operand.tmp 69), type := 4, pos := "law.go:92", after := #[{ on := 1, ground := Ground.data }], guard := none }) (v := ?_) rfl (by kernel_rfl) (by kernel_rfl) (by kernel_rfl) (fun _ _ _ h => h) (Or.inl ⟨by rfl, ?_⟩) hHeld ?_
  rotate_left
  · (intro w hSw; (try dsimp only at hSw); go_simp; try with_reducible rfl)
  simp only [Act.put, List.setIfInBounds_toArray, List.set_cons_zero, List.set_cons_succ]
  refine wpAnyH_take (i := 3) (oi := { dst := some 71, op := Op.load 26 (Operand.tmp 7), type := 26, pos := "law.go:92", after := #[{ on := 2, ground := Ground.guard }], guard := some (2, true) }) (v := undef) rfl (by kernel_rfl) (by kernel_rfl) (by kernel_rfl) (fun _ _ _ h => h) (Or.inr ⟨by rfl, rfl⟩) hHeld ?_
  simp only [Act.put, List.setIfInBounds_toArray, List.set_cons_zero, List.set_cons_succ]
  refine wpAnyH_take (i := 4) (oi := { dst := some 72, op := Op.load 26 (Operand.tmp 4), type := 26, pos := "law.go:92", after := #[{ on := 2, ground := Ground.guard }], guard := some (2, true) }) (v := undef) rfl (by kernel_rfl) (by kernel_rfl) (by kernel_rfl) (fun _ _ _ h => h) (Or.inr ⟨by rfl, rfl⟩) hHeld ?_
  simp only [Act.put, List.setIfInBounds_toArray, List.set_cons_zero, List.set_cons_succ]
  refine wpAnyH_take (i := 5) (oi := { dst := some 73, op := Op.call { callee := Callee.value (Operand.func 23), args := #[Operand.tmp 71, Operand.tmp 72], argTypes := #[26, 26] }, type := 26, pos := "law.go:92", after := #[{ on := 3, ground := Ground.data }, { on := 4, ground := Ground.data }, { on := 2, ground := Ground.chain }, { on := 2, ground := Ground.guard }], guard := some (2, true) }) (v := undef) rfl (by kernel_rfl) (by kernel_rfl) (by kernel_rfl) (fun _ _ _ h => h) (Or.inr ⟨by rfl, rfl⟩) hHeld ?_
  simp only [Act.put, List.setIfInBounds_toArray, List.set_cons_zero, List.set_cons_succ]
  refine wpAnyH_take (i := 6) (oi := { dst := some 74, op := Op.load 26 (Operand.tmp 3), type := 26, pos := "law.go:92", after := #[{ on := 2, ground := Ground.guard }], guard := some (2, true) }) (v := undef) rfl (by kernel_rfl) (by kernel_rfl) (by kernel_rfl) (fun _ _ _ h => h) (Or.inr ⟨by rfl, rfl⟩) hHeld ?_
  simp only [Act.put, List.setIfInBounds_toArray, List.set_cons_zero, List.set_cons_succ]
  refine wpAnyH_take (i := 7) (oi := { dst := some 75, op := Op.call { callee := Callee.value (Operand.func 25), args := #[Operand.tmp 73, Operand.tmp 74], argTypes := #[26, 26] }, type := 3, pos := "law.go:92", after := #[{ on := 5, ground := Ground.data }, { on := 6, ground := Ground.data }, { on := 5, ground := Ground.chain }, { on := 2, ground := Ground.guard }], guard := some (2, true) }) (v := undef) rfl (by kernel_rfl) (by kernel_rfl) (by kernel_rfl) (fun _ _ _ h => h) (Or.inr ⟨by rfl, rfl⟩) hHeld ?_
  simp only [Act.put, List.setIfInBounds_toArray, List.set_cons_zero, List.set_cons_succ]
  refine wpAnyH_take (i := 8) (oi := { dst := some 76, op := Op.binOp BinOp.neq 3 (Operand.tmp 75) (Operand.const (Value.int IntKind.i64 0)) 3, type := 4, pos := "law.go:92", after := #[{ on := 7, ground := Ground.data }, { on := 2, ground := Ground.guard }], guard := some (2, true) }) (v := undef) rfl (by kernel_rfl) (by kernel_rfl) (by kernel_rfl) (fun _ _ _ h => h) (Or.inr ⟨by rfl, rfl⟩) hHeld ?_
  simp only [Act.put, List.setIfInBounds_toArray, List.set_cons_zero, List.set_cons_succ]
  refine wpAnyH_take (i := 9) (oi := { dst := some 77, op := Op.pick (Operand.tmp 70) (Operand.tmp 76) (Operand.const (Value.bool false)), type := 4, pos := "law.go:92", after := #[{ on := 2, ground := Ground.data }, { on := 8, ground := Ground.data }], guard := none }) (v := ?_) rfl (by kernel_rfl) (by kernel_rfl) (by kernel_rfl) (fun _ _ _ h => h) (Or.inl ⟨by rfl, ?_⟩) hHeld ?_
  rotate_left
  · (intro w hSw; (try dsimp only at hSw); go_simp; try with_reducible rfl)
  simp only [Act.put, List.setIfInBounds_toArray, List.set_cons_zero, List.set_cons_succ]
  refine wpAnyH_done (by kernel_rfl) ?_ _
  clear hHeld
  go_wp2_with fail
  replace a := a.below (Below.refl _ _).drew
  replace b := b.below (Below.refl _ _).drew
  replace cc := cc.below (Below.refl _ _).drew
  replace XA := XA.below (Below.refl _ _).drew
  replace XB := XB.below (Below.refl _ _).drew
  replace XC := XC.below (Below.refl _ _).drew
  replace hb := hb.drew
  go_region_held3 (fun w' => w'.cell? ⟨w.heap.size, 0, none⟩ = some (.bool s1) ∧ w'.cell? ⟨w.heap.size, 1, none⟩ = some (.slice A1 n1 c1) ∧ w'.cell? ⟨w.heap.size, 2, none⟩ = some (.slice B1 m1 d1) ∧ w'.cell? ⟨w.heap.size + 1, 0, none⟩ = some (.bool s2) ∧ w'.cell? ⟨w.heap.size + 1, 1, none⟩ = some (.slice A2 n2 c2) ∧ w'.cell? ⟨w.heap.size + 1, 2, none⟩ = some (.slice B2 m2 d2) ∧ w'.cell? ⟨w.heap.size + 1 + 1, 0, none⟩ = some (.bool s3) ∧ w'.cell? ⟨w.heap.size + 1 + 1, 1, none⟩ = some (.slice A3 n3 c3) ∧ w'.cell? ⟨w.heap.size + 1 + 1, 2, none⟩ = some (.slice E3 m3 d3))
    (first | with_reducible exact ⟨XA.c0, XA.c1, XA.c2, XB.c0, XB.c1, XB.c2, XC.c0, XC.c1, XC.c2⟩)
    (first
    | (go_at_call 21; (with_reducible refine (rsub_q a a (by decide) (by decide) (by decide) (by decide) (by decide)).mono ?_); rintro e w_sb ⟨s_sb, A_sb, n_sb, c_sb, B_sb, m_sb, d_sb, rfl, sb, hh⟩
       try replace a := a.below hh
       try replace b := b.below hh
       try replace cc := cc.below hh
       try replace bc := bc.below hh
       try replace abc := abc.below hh
       try replace ab := ab.below hh
       try replace abd := abd.below hh
       try replace mab := mab.below hh
       try replace mac := mac.below hh
       try replace x1 := x1.below hh
       try replace x2 := x2.below hh
       try replace dv := dv.below hh
       try replace na := na.below hh
       try replace nn := nn.below hh
       try replace XA := XA.below hh
       try replace XB := XB.below hh
       try replace XC := XC.below hh
       try replace XD := XD.below hh
       replace hb := bend hb hh)
    | (go_at_call 27; (with_reducible refine (rsign_q sb.qr (by decide) (by decide)).mono ?_); rintro e w_z ⟨rfl, hh⟩
       rw [HS.out]
       try replace a := a.below hh
       try replace b := b.below hh
       try replace cc := cc.below hh
       try replace bc := bc.below hh
       try replace abc := abc.below hh
       try replace ab := ab.below hh
       try replace abd := abd.below hh
       try replace mab := mab.below hh
       try replace mac := mac.below hh
       try replace x1 := x1.below hh
       try replace x2 := x2.below hh
       try replace dv := dv.below hh
       try replace na := na.below hh
       try replace nn := nn.below hh
       try replace sb := sb.below hh
       try replace XA := XA.below hh
       try replace XB := XB.below hh
       try replace XC := XC.below hh
       try replace XD := XD.below hh
       replace hb := bend hb hh)
    | (go_at_call 19; (with_reducible refine (radd_q a b (by decide) (by decide) (by decide) (by decide) (by decide)).mono ?_); rintro e w_x1 ⟨s_x1, A_x1, n_x1, c_x1, B_x1, m_x1, d_x1, rfl, x1, hh⟩
       try replace a := a.below hh
       try replace b := b.below hh
       try replace cc := cc.below hh
       try replace bc := bc.below hh
       try replace abc := abc.below hh
       try replace ab := ab.below hh
       try replace abd := abd.below hh
       try replace mab := mab.below hh
       try replace mac := mac.below hh
       try replace x2 := x2.below hh
       try replace dv := dv.below hh
       try replace na := na.below hh
       try replace nn := nn.below hh
       try replace sb := sb.below hh
       try replace XA := XA.below hh
       try replace XB := XB.below hh
       try replace XC := XC.below hh
       try replace XD := XD.below hh
       replace hb := bend hb hh)
    | (go_at_call 19; (with_reducible refine (radd_q b a (by decide) (by decide) (by decide) (by decide) (by decide)).mono ?_); rintro e w_x2 ⟨s_x2, A_x2, n_x2, c_x2, B_x2, m_x2, d_x2, rfl, x2, hh⟩
       try replace a := a.below hh
       try replace b := b.below hh
       try replace cc := cc.below hh
       try replace bc := bc.below hh
       try replace abc := abc.below hh
       try replace ab := ab.below hh
       try replace abd := abd.below hh
       try replace mab := mab.below hh
       try replace mac := mac.below hh
       try replace x1 := x1.below hh
       try replace dv := dv.below hh
       try replace na := na.below hh
       try replace nn := nn.below hh
       try replace sb := sb.below hh
       try replace XA := XA.below hh
       try replace XB := XB.below hh
       try replace XC := XC.below hh
       try replace XD := XD.below hh
       replace hb := bend hb hh)
    | (go_at_call 25; (with_reducible refine (rcmp_q x1.qr x2.qr (by decide) (by decide) (by decide) (by decide) (by decide)).mono ?_); rintro e w_z ⟨rfl, hh⟩
       rw [HC5.out]
       try replace a := a.below hh
       try replace b := b.below hh
       try replace cc := cc.below hh
       try replace bc := bc.below hh
       try replace abc := abc.below hh
       try replace ab := ab.below hh
       try replace abd := abd.below hh
       try replace mab := mab.below hh
       try replace mac := mac.below hh
       try replace x1 := x1.below hh
       try replace x2 := x2.below hh
       try replace dv := dv.below hh
       try replace na := na.below hh
       try replace nn := nn.below hh
       try replace sb := sb.below hh
       try replace XA := XA.below hh
       try replace XB := XB.below hh
       try replace XC := XC.below hh
       try replace XD := XD.below hh
       replace hb := bend hb hh)
    | (go_at_call 28; (with_reducible refine (rneg_q a (by decide) (by decide)).mono ?_); rintro e w_na ⟨s_na, A_na, n_na, c_na, B_na, m_na, d_na, rfl, na, hh⟩
       try replace a := a.below hh
       try replace b := b.below hh
       try replace cc := cc.below hh
       try replace bc := bc.below hh
       try replace abc := abc.below hh
       try replace ab := ab.below hh
       try replace abd := abd.below hh
       try replace mab := mab.below hh
       try replace mac := mac.below hh
       try replace x1 := x1.below hh
       try replace x2 := x2.below hh
       try replace dv := dv.below hh
       try replace nn := nn.below hh
       try replace sb := sb.below hh
       try replace XA := XA.below hh
       try replace XB := XB.below hh
       try replace XC := XC.below hh
       try replace XD := XD.below hh
       replace hb := bend hb hh)
    | (go_at_call 28; (with_reducible refine (rneg_q na.qr (by decide) (by decide)).mono ?_); rintro e w_nn ⟨s_nn, A_nn, n_nn, c_nn, B_nn, m_nn, d_nn, rfl, nn, hh⟩
       try replace a := a.below hh
       try replace b := b.below hh
       try replace cc := cc.below hh
       try replace bc := bc.below hh
       try replace abc := abc.below hh
       try replace ab := ab.below hh
       try replace abd := abd.below hh
       try replace mab := mab.below hh
       try replace mac := mac.below hh
       try replace x1 := x1.below hh
       try replace x2 := x2.below hh
       try replace dv := dv.below hh
       try replace na := na.below hh
       try replace sb := sb.below hh
       try replace XA := XA.below hh
       try replace XB := XB.below hh
       try replace XC := XC.below hh
       try replace XD := XD.below hh
       replace hb := bend hb hh)
    | (go_at_call 25; (with_reducible refine (rcmp_q nn.qr a (by decide) (by decide) (by decide) (by decide) (by decide)).mono ?_); rintro e w_z ⟨rfl, hh⟩
       rw [HC6.out]
       try replace a := a.below hh
       try replace b := b.below hh
       try replace cc := cc.below hh
       try replace bc := bc.below hh
       try replace abc := abc.below hh
       try replace ab := ab.below hh
       try replace abd := abd.below hh
       try replace mab := mab.below hh
       try replace mac := mac.below hh
       try replace x1 := x1.below hh
       try replace x2 := x2.below hh
       try replace dv := dv.below hh
       try replace na := na.below hh
       try replace nn := nn.below hh
       try replace sb := sb.below hh
       try replace XA := XA.below hh
       try replace XB := XB.below hh
       try replace XC := XC.below hh
       try replace XD := XD.below hh
       replace hb := bend hb hh)
    | (go_at_call 12; (with_reducible refine (qwakes_any _).mono ?_); rintro e w_z ⟨rfl, hh⟩
       try replace a := a.below hh
       try replace b := b.below hh
       try replace cc := cc.below hh
       try replace bc := bc.below hh
       try replace abc := abc.below hh
       try replace ab := ab.below hh
       try replace abd := abd.below hh
       try replace mab := mab.below hh
       try replace mac := mac.below hh
       try replace x1 := x1.below hh
       try replace x2 := x2.below hh
       try replace dv := dv.below hh
       try replace na := na.below hh
       try replace nn := nn.below hh
       try replace sb := sb.below hh
       try replace XA := XA.below hh
       try replace XB := XB.below hh
       try replace XC := XC.below hh
       try replace XD := XD.below hh
       replace hb := bend hb hh))
  go_wp2_with fail
  go_ret
  exact ⟨rfl, hb⟩

set_option maxRecDepth 100000 in
set_option maxHeartbeats 8000000 in
theorem field_large1 {w : World} {s1 s2 s3 : Bool} {A1 B1 A2 B2 A3 E3 : Option Addr} {n1 c1 m1 d1 n2 c2 m2 d2 n3 c3 m3 d3 : Nat} (hl : ¬ (n1 ≤ 12 ∧ m1 ≤ 12)) :
    Calls Tryz.prog 6 #[.agg #[.bool s1, .slice A1 n1 c1, .slice B1 m1 d1], .agg #[.bool s2, .slice A2 n2 c2, .slice B2 m2 d2], .agg #[.bool s3, .slice A3 n3 c3, .slice E3 m3 d3]] w fun e w' => e = .returned (.bool true) ∧ Below w.heap.size w w' := by
  have HL := Lib.hid hl
  clear hl
  go_enter Tryz.func6, Tryz.ntmps6
  go_wp2_with fail
  generalize hW : (((w.alloc (Obj.cells #[Value.bool s1, Value.slice A1 n1 c1, Value.slice B1 m1 d1] 26)).alloc (Obj.cells #[Value.bool s2, Value.slice A2 n2 c2, Value.slice B2 m2 d2] 26)).alloc (Obj.cells #[Value.bool s3, Value.slice A3 n3 c3, Value.slice E3 m3 d3] 26)) = W
  have hb : Below w.heap.size w W := by subst hW; exact ((((Below.refl _ _).alloc (Nat.le_refl _) _).alloc (by simp) _).alloc (by simp; omega) _)
  have XA : B3 W (w.heap.size) (Value.bool s1) (Value.slice A1 n1 c1) (Value.slice B1 m1 d1) := by subst hW; exact ((B3.new' _ _ _ _ _ rfl).alloc _).alloc _
  have XB : B3 W (w.heap.size + 1) (Value.bool s2) (Value.slice A2 n2 c2) (Value.slice B2 m2 d2) := by subst hW; exact (B3.new' _ _ _ _ _ (by simp)).alloc _
  have XC : B3 W (w.heap.size + 1 + 1) (Value.bool s3) (Value.slice A3 n3 c3) (Value.slice E3 m3 d3) := by subst hW; exact B3.new' _ _ _ _ _ (by simp)
  have hzW : W.heap.size = w.heap.size + 3 := by subst hW; simp
  clear hW
  have xa0 := XA.c0
  have xa1 := XA.c1
  have xa2 := XA.c2
  have xb0 := XB.c0
  have xb1 := XB.c1
  have xb2 := XB.c2
  have xc0 := XC.c0
  have xc1 := XC.c1
  have xc2 := XC.c2
  go_wp2_with (first
      | (go_at_call 11; (with_reducible refine (qlarge_yes s1 A1 B1 n1 c1 m1 d1 _ HL.out).mono ?_); rintro e w_z ⟨rfl, hh⟩
         try replace a := a.below hh
         try replace b := b.below hh
         try replace cc := cc.below hh
         try replace bc := bc.below hh
         try replace abc := abc.below hh
         try replace ab := ab.below hh
         try replace abd := abd.below hh
         try replace mab := mab.below hh
         try replace mac := mac.below hh
         try replace x1 := x1.below hh
         try replace x2 := x2.below hh
         try replace dv := dv.below hh
         try replace na := na.below hh
         try replace nn := nn.below hh
         try replace sb := sb.below hh
         try replace XA := XA.below hh
         try replace XB := XB.below hh
         try replace XC := XC.below hh
         try replace XD := XD.below hh
         replace hb := bend hb hh
         have xa0 := XA.c0
         have xa1 := XA.c1
         have xa2 := XA.c2
         have xb0 := XB.c0
         have xb1 := XB.c1
         have xb2 := XB.c2
         have xc0 := XC.c0
         have xc1 := XC.c1
         have xc2 := XC.c2)
      | (go_at_call 12; (with_reducible refine (qwakes_any _).mono ?_); rintro e w_z ⟨rfl, hh⟩
         try replace a := a.below hh
         try replace b := b.below hh
         try replace cc := cc.below hh
         try replace bc := bc.below hh
         try replace abc := abc.below hh
         try replace ab := ab.below hh
         try replace abd := abd.below hh
         try replace mab := mab.below hh
         try replace mac := mac.below hh
         try replace x1 := x1.below hh
         try replace x2 := x2.below hh
         try replace dv := dv.below hh
         try replace na := na.below hh
         try replace nn := nn.below hh
         try replace sb := sb.below hh
         try replace XA := XA.below hh
         try replace XB := XB.below hh
         try replace XC := XC.below hh
         try replace XD := XD.below hh
         replace hb := bend hb hh))
  go_ret
  exact ⟨rfl, hb⟩

set_option maxRecDepth 100000 in
set_option maxHeartbeats 8000000 in
theorem field_large2 {w : World} {s1 s2 s3 : Bool} {A1 B1 A2 B2 A3 E3 : Option Addr} {n1 c1 m1 d1 n2 c2 m2 d2 n3 c3 m3 d3 : Nat} (h1 : n1 ≤ 12 ∧ m1 ≤ 12) (hl : ¬ (n2 ≤ 12 ∧ m2 ≤ 12)) :
    Calls Tryz.prog 6 #[.agg #[.bool s1, .slice A1 n1 c1, .slice B1 m1 d1], .agg #[.bool s2, .slice A2 n2 c2, .slice B2 m2 d2], .agg #[.bool s3, .slice A3 n3 c3, .slice E3 m3 d3]] w fun e w' => e = .returned (.bool true) ∧ Below w.heap.size w w' := by
  have H1 : Hid (n1 ≤ 12 ∧ m1 ≤ 12) := h1
  clear h1
  have HL := Lib.hid hl
  clear hl
  go_enter Tryz.func6, Tryz.ntmps6
  go_wp2_with fail
  generalize hW : (((w.alloc (Obj.cells #[Value.bool s1, Value.slice A1 n1 c1, Value.slice B1 m1 d1] 26)).alloc (Obj.cells #[Value.bool s2, Value.slice A2 n2 c2, Value.slice B2 m2 d2] 26)).alloc (Obj.cells #[Value.bool s3, Value.slice A3 n3 c3, Value.slice E3 m3 d3] 26)) = W
  have hb : Below w.heap.size w W := by subst hW; exact ((((Below.refl _ _).alloc (Nat.le_refl _) _).alloc (by simp) _).alloc (by simp; omega) _)
  have XA : B3 W (w.heap.size) (Value.bool s1) (Value.slice A1 n1 c1) (Value.slice B1 m1 d1) := by subst hW; exact ((B3.new' _ _ _ _ _ rfl).alloc _).alloc _
  have XB : B3 W (w.heap.size + 1) (Value.bool s2) (Value.slice A2 n2 c2) (Value.slice B2 m2 d2) := by subst hW; exact (B3.new' _ _ _ _ _ (by simp)).alloc _
  have XC : B3 W (w.heap.size + 1 + 1) (Value.bool s3) (Value.slice A3 n3 c3) (Value.slice E3 m3 d3) := by subst hW; exact B3.new' _ _ _ _ _ (by simp)
  have hzW : W.heap.size = w.heap.size + 3 := by subst hW; simp
  clear hW
  have xa0 := XA.c0
  have xa1 := XA.c1
  have xa2 := XA.c2
  have xb0 := XB.c0
  have xb1 := XB.c1
  have xb2 := XB.c2
  have xc0 := XC.c0
  have xc1 := XC.c1
  have xc2 := XC.c2
  go_wp2_with (first
      | (go_at_call 11; (with_reducible refine (qlarge_no s1 A1 B1 n1 c1 m1 d1 _ H1.out).mono ?_); rintro e w_z ⟨rfl, hh⟩
         try replace a := a.below hh
         try replace b := b.below hh
         try replace cc := cc.below hh
         try replace bc := bc.below hh
         try replace abc := abc.below hh
         try replace ab := ab.below hh
         try replace abd := abd.below hh
         try replace mab := mab.below hh
         try replace mac := mac.below hh
         try replace x1 := x1.below hh
         try replace x2 := x2.below hh
         try replace dv := dv.below hh
         try replace na := na.below hh
         try replace nn := nn.below hh
         try replace sb := sb.below hh
         try replace XA := XA.below hh
         try replace XB := XB.below hh
         try replace XC := XC.below hh
         try replace XD := XD.below hh
         replace hb := bend hb hh
         have xa0 := XA.c0
         have xa1 := XA.c1
         have xa2 := XA.c2
         have xb0 := XB.c0
         have xb1 := XB.c1
         have xb2 := XB.c2
         have xc0 := XC.c0
         have xc1 := XC.c1
         have xc2 := XC.c2)
      | (go_at_call 11; (with_reducible refine (qlarge_yes s2 A2 B2 n2 c2 m2 d2 _ HL.out).mono ?_); rintro e w_z ⟨rfl, hh⟩
         try replace a := a.below hh
         try replace b := b.below hh
         try replace cc := cc.below hh
         try replace bc := bc.below hh
         try replace abc := abc.below hh
         try replace ab := ab.below hh
         try replace abd := abd.below hh
         try replace mab := mab.below hh
         try replace mac := mac.below hh
         try replace x1 := x1.below hh
         try replace x2 := x2.below hh
         try replace dv := dv.below hh
         try replace na := na.below hh
         try replace nn := nn.below hh
         try replace sb := sb.below hh
         try replace XA := XA.below hh
         try replace XB := XB.below hh
         try replace XC := XC.below hh
         try replace XD := XD.below hh
         replace hb := bend hb hh
         have xa0 := XA.c0
         have xa1 := XA.c1
         have xa2 := XA.c2
         have xb0 := XB.c0
         have xb1 := XB.c1
         have xb2 := XB.c2
         have xc0 := XC.c0
         have xc1 := XC.c1
         have xc2 := XC.c2)
      | (go_at_call 12; (with_reducible refine (qwakes_any _).mono ?_); rintro e w_z ⟨rfl, hh⟩
         try replace a := a.below hh
         try replace b := b.below hh
         try replace cc := cc.below hh
         try replace bc := bc.below hh
         try replace abc := abc.below hh
         try replace ab := ab.below hh
         try replace abd := abd.below hh
         try replace mab := mab.below hh
         try replace mac := mac.below hh
         try replace x1 := x1.below hh
         try replace x2 := x2.below hh
         try replace dv := dv.below hh
         try replace na := na.below hh
         try replace nn := nn.below hh
         try replace sb := sb.below hh
         try replace XA := XA.below hh
         try replace XB := XB.below hh
         try replace XC := XC.below hh
         try replace XD := XD.below hh
         replace hb := bend hb hh))
  go_ret
  exact ⟨rfl, hb⟩

set_option maxRecDepth 100000 in
set_option maxHeartbeats 8000000 in
theorem field_large3 {w : World} {s1 s2 s3 : Bool} {A1 B1 A2 B2 A3 E3 : Option Addr} {n1 c1 m1 d1 n2 c2 m2 d2 n3 c3 m3 d3 : Nat} (h1 : n1 ≤ 12 ∧ m1 ≤ 12) (h2 : n2 ≤ 12 ∧ m2 ≤ 12) (hl : ¬ (n3 ≤ 12 ∧ m3 ≤ 12)) :
    Calls Tryz.prog 6 #[.agg #[.bool s1, .slice A1 n1 c1, .slice B1 m1 d1], .agg #[.bool s2, .slice A2 n2 c2, .slice B2 m2 d2], .agg #[.bool s3, .slice A3 n3 c3, .slice E3 m3 d3]] w fun e w' => e = .returned (.bool true) ∧ Below w.heap.size w w' := by
  have H1 : Hid (n1 ≤ 12 ∧ m1 ≤ 12) := h1
  clear h1
  have H2 : Hid (n2 ≤ 12 ∧ m2 ≤ 12) := h2
  clear h2
  have HL := Lib.hid hl
  clear hl
  go_enter Tryz.func6, Tryz.ntmps6
  go_wp2_with fail
  generalize hW : (((w.alloc (Obj.cells #[Value.bool s1, Value.slice A1 n1 c1, Value.slice B1 m1 d1] 26)).alloc (Obj.cells #[Value.bool s2, Value.slice A2 n2 c2, Value.slice B2 m2 d2] 26)).alloc (Obj.cells #[Value.bool s3, Value.slice A3 n3 c3, Value.slice E3 m3 d3] 26)) = W
  have hb : Below w.heap.size w W := by subst hW; exact ((((Below.refl _ _).alloc (Nat.le_refl _) _).alloc (by simp) _).alloc (by simp; omega) _)
  have XA : B3 W (w.heap.size) (Value.bool s1) (Value.slice A1 n1 c1) (Value.slice B1 m1 d1) := by subst hW; exact ((B3.new' _ _ _ _ _ rfl).alloc _).alloc _
  have XB : B3 W (w.heap.size + 1) (Value.bool s2) (Value.slice A2 n2 c2) (Value.slice B2 m2 d2) := by subst hW; exact (B3.new' _ _ _ _ _ (by simp)).alloc _
  have XC : B3 W (w.heap.size + 1 + 1) (Value.bool s3) (Value.slice A3 n3 c3) (Value.slice E3 m3 d3) := by subst hW; exact B3.new' _ _ _ _ _ (by simp)
  have hzW : W.heap.size = w.heap.size + 3 := by subst hW; simp
  clear hW
  have xa0 := XA.c0
  have xa1 := XA.c1
  have xa2 := XA.c2
  have xb0 := XB.c0
  have xb1 := XB.c1
  have xb2 := XB.c2
  have xc0 := XC.c0
  have xc1 := XC.c1
  have xc2 := XC.c2
  go_wp2_with (first
      | (go_at_call 11; (with_reducible refine (qlarge_no s1 A1 B1 n1 c1 m1 d1 _ H1.out).mono ?_); rintro e w_z ⟨rfl, hh⟩
         try replace a := a.below hh
         try replace b := b.below hh
         try replace cc := cc.below hh
         try replace bc := bc.below hh
         try replace abc := abc.below hh
         try replace ab := ab.below hh
         try replace abd := abd.below hh
         try replace mab := mab.below hh
         try replace mac := mac.below hh
         try replace x1 := x1.below hh
         try replace x2 := x2.below hh
         try replace dv := dv.below hh
         try replace na := na.below hh
         try replace nn := nn.below hh
         try replace sb := sb.below hh
         try replace XA := XA.below hh
         try replace XB := XB.below hh
         try replace XC := XC.below hh
         try replace XD := XD.below hh
         replace hb := bend hb hh
         have xa0 := XA.c0
         have xa1 := XA.c1
         have xa2 := XA.c2
         have xb0 := XB.c0
         have xb1 := XB.c1
         have xb2 := XB.c2
         have xc0 := XC.c0
         have xc1 := XC.c1
         have xc2 := XC.c2)
      | (go_at_call 11; (with_reducible refine (qlarge_no s2 A2 B2 n2 c2 m2 d2 _ H2.out).mono ?_); rintro e w_z ⟨rfl, hh⟩
         try replace a := a.below hh
         try replace b := b.below hh
         try replace cc := cc.below hh
         try replace bc := bc.below hh
         try replace abc := abc.below hh
         try replace ab := ab.below hh
         try replace abd := abd.below hh
         try replace mab := mab.below hh
         try replace mac := mac.below hh
         try replace x1 := x1.below hh
         try replace x2 := x2.below hh
         try replace dv := dv.below hh
         try replace na := na.below hh
         try replace nn := nn.below hh
         try replace sb := sb.below hh
         try replace XA := XA.below hh
         try replace XB := XB.below hh
         try replace XC := XC.below hh
         try replace XD := XD.below hh
         replace hb := bend hb hh
         have xa0 := XA.c0
         have xa1 := XA.c1
         have xa2 := XA.c2
         have xb0 := XB.c0
         have xb1 := XB.c1
         have xb2 := XB.c2
         have xc0 := XC.c0
         have xc1 := XC.c1
         have xc2 := XC.c2)
      | (go_at_call 11; (with_reducible refine (qlarge_yes s3 A3 E3 n3 c3 m3 d3 _ HL.out).mono ?_); rintro e w_z ⟨rfl, hh⟩
         try replace a := a.below hh
         try replace b := b.below hh
         try replace cc := cc.below hh
         try replace bc := bc.below hh
         try replace abc := abc.below hh
         try replace ab := ab.below hh
         try replace abd := abd.below hh
         try replace mab := mab.below hh
         try replace mac := mac.below hh
         try replace x1 := x1.below hh
         try replace x2 := x2.below hh
         try replace dv := dv.below hh
         try replace na := na.below hh
         try replace nn := nn.below hh
         try replace sb := sb.below hh
         try replace XA := XA.below hh
         try replace XB := XB.below hh
         try replace XC := XC.below hh
         try replace XD := XD.below hh
         replace hb := bend hb hh
         have xa0 := XA.c0
         have xa1 := XA.c1
         have xa2 := XA.c2
         have xb0 := XB.c0
         have xb1 := XB.c1
         have xb2 := XB.c2
         have xc0 := XC.c0
         have xc1 := XC.c1
         have xc2 := XC.c2)
      | (go_at_call 12; (with_reducible refine (qwakes_any _).mono ?_); rintro e w_z ⟨rfl, hh⟩
         try replace a := a.below hh
         try replace b := b.below hh
         try replace cc := cc.below hh
         try replace bc := bc.below hh
         try replace abc := abc.below hh
         try replace ab := ab.below hh
         try replace abd := abd.below hh
         try replace mab := mab.below hh
         try replace mac := mac.below hh
         try replace x1 := x1.below hh
         try replace x2 := x2.below hh
         try replace dv := dv.below hh
         try replace na := na.below hh
         try replace nn := nn.below hh
         try replace sb := sb.below hh
         try replace XA := XA.below hh
         try replace XB := XB.below hh
         try replace XC := XC.below hh
         try replace XD := XD.below hh
         replace hb := bend hb hh))
  go_ret
  exact ⟨rfl, hb⟩

/-- A row of limbs read: a fraction in any form. -/
theorem QR.of_rd {w : World} {s : Bool} {A A' : Option Addr} {n c n' c' k : Nat} {l l' : List Nat} (h : Rd .u64 w A n l) (hL : Lim B64 l) (hnc : n ≤ c) (h' : Rd .u64 w A' n' l') (hL' : Lim B64 l') (hnc' : n' ≤ c') (hk : n ≤ k) (hk' : n' ≤ k) :
    QR w s A n c A' n' c' (mkRat (iv s (val B64 l)) (den1 (val B64 l'))) k := ⟨_, _, ZR.of_rd h hL hnc hk, ⟨l', h', hL', rfl, hnc', hk'⟩, rfl⟩
theorem law_field {w : World} (s1 s2 s3 : Bool) (A1 B1 A2 B2 A3 E3 : Option Addr) (n1 c1 m1 d1 n2 c2 m2 d2 n3 c3 m3 d3 : Nat) (l1 k1 l2 k2 l3 k3 : List Nat) (p1 : Rd .u64 w A1 n1 l1) (q1 : Rd .u64 w B1 m1 k1) (p2 : Rd .u64 w A2 n2 l2) (q2 : Rd .u64 w B2 m2 k2) (p3 : Rd .u64 w A3 n3 l3) (q3 : Rd .u64 w E3 m3 k3)
    (t1 : Lim B64 l1) (u1 : Lim B64 k1) (t2 : Lim B64 l2) (u2 : Lim B64 k2) (t3 : Lim B64 l3) (u3 : Lim B64 k3) (e1 : n1 ≤ c1) (f1 : m1 ≤ d1) (e2 : n2 ≤ c2) (f2 : m2 ≤ d2) (e3 : n3 ≤ c3) (f3 : m3 ≤ d3) :
    Calls Tryz.prog 6 #[.agg #[.bool s1, .slice A1 n1 c1, .slice B1 m1 d1], .agg #[.bool s2, .slice A2 n2 c2, .slice B2 m2 d2], .agg #[.bool s3, .slice A3 n3 c3, .slice E3 m3 d3]] w fun e w' => e = .returned (.bool true) ∧ Below w.heap.size w w' := by
  by_cases h1 : n1 ≤ 12 ∧ m1 ≤ 12
  · by_cases h2 : n2 ≤ 12 ∧ m2 ≤ 12
    · by_cases h3 : n3 ≤ 12 ∧ m3 ≤ 12
      · have a := QR.of_rd (s := s1) p1 t1 e1 q1 u1 f1 h1.1 h1.2
        have b := QR.of_rd (s := s2) p2 t2 e2 q2 u2 f2 h2.1 h2.2
        have cc := QR.of_rd (s := s3) p3 t3 e3 q3 u3 f3 h3.1 h3.2
        by_cases hz : mkRat (iv s2 (val B64 l2)) (den1 (val B64 k2)) = 0
        · exact field_zero a b cc h1 h2 h3 hz
        · exact field_ok a b cc h1 h2 h3 hz
      · exact field_large3 h1 h2 h3
    · exact field_large2 h1 h2
  · exact field_large1 h1
end Go.Proofs.YtehkgiiiobnkdaaGreat
