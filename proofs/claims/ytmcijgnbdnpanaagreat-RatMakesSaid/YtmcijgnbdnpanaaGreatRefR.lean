/- gessoref03 by value: In, Out, Same, den, Sign, Minus, Abs, Mul, Cmp. -/
import Derived.Test.YtmcijgnbdnpanaaGreatRefQ
import Derived.Test.YtmcijgnbdnpanaaGreatRatN
namespace Go.Proofs.YtmcijgnbdnpanaaGreat
open Go Go.RowKit

theorem RN.pos_ne {w : World} {A : Option Addr} {n c V k : Nat} (h : RN w A n c V k) (hV : V ≠ 0) : ((n : Int) == 0) = false := by
  have h1 := rn_pos h
  rw [decide_eq_true (show 0 < V by omega)] at h1
  have := of_decide_eq_true h1
  simp; omega
theorem RN.zero_n {w : World} {A : Option Addr} {n c V k : Nat} (h : RN w A n c V k) (hV : V = 0) : n = 0 := by
  have h1 := h.1.1
  rw [hV, limbs_zero] at h1
  exact h1.symm
theorem fld02 (s : Bool) (A : Option Addr) (n c : Nat) (w : World) : (Instr.field 32 (.agg #[.bool s, .slice A n c]) 1).run Tryz.prog w = .ok (.slice A n c) w := by kernel_rfl
section
variable {w : World} {s : Bool} {A A' : Option Addr} {n c n' c' k k1 : Nat} {v : Rat}
theorem RQ.pz (h : RQ w s A n c A' n' c' v k) : RZ w s A n c v.num k := h.1.rz
theorem RQ.pg (h : RQ w s A n c A' n' c' v k) : RG w s A n c v.num k := h.1
theorem RQ.qn (h : RQ w s A n c A' n' c' v k) : RN w A' n' c' v.den k := h.2
theorem RQ.qz (h : RQ w s A n c A' n' c' v k) : RZ w false A' n' c' (v.den : Int) k := ⟨v.den, h.2, rfl⟩
theorem RQ.more (h : RQ w s A n c A' n' c' v k) (hk : k ≤ k1) : RQ w s A n c A' n' c' v k1 := ⟨h.1.more hk, h.2.more hk⟩
end
theorem parts_eq (v : Rat) : v = mkRat v.num v.den := (Rat.mkRat_self v).symm
set_option maxRecDepth 100000 in
set_option maxHeartbeats 4000000 in
theorem rin3_zero {w : World} {s : Bool} {A A' : Option Addr} {n c n' c' k qq : Nat} {pp : Int} (p : ZR w s A n c pp k) (q : NR w A' n' c' qq k) (hk : k ≤ 1000) (hk1 : 1 ≤ k) (hq : qq = 0) :
    Calls Tryz.prog 12 #[.agg #[.bool s, .slice A n c, .slice A' n' c']] w (GivesRQ w (mkRat pp (den1 qq)) (2 * k)) := by
  have HQ := Lib.hid hq
  have HD : Hid (mkRat pp 1 = mkRat pp (den1 qq)) := by show _ = _; rw [hq]; rfl
  clear hq
  go_enter Tryz.func12, Tryz.ntmps12
  go_wp2_with fail
  generalize hW : ((w.alloc (Obj.cells #[Value.bool s, Value.slice A n c, Value.slice A' n' c'] 26)).alloc (Obj.cells #[Value.bool false, Value.slice none 0 0, Value.slice none 0 0] 34)) = W
  have hb : Below w.heap.size w W := by subst hW; exact (((Below.refl _ _).alloc (Nat.le_refl _) _).alloc (by simp) _)
  have XA : B3 W (w.heap.size) (Value.bool s) (Value.slice A n c) (Value.slice A' n' c') := by subst hW; exact (B3.new' _ _ _ _ _ rfl).alloc _
  have Z : B3R W (w.heap.size + 1) (Value.bool false) (Value.slice none 0 0) (Value.slice none 0 0) := by subst hW; exact B3R.new' _ _ _ _ _ (by simp)
  have hzW : W.heap.size = w.heap.size + 2 := by subst hW; simp
  clear hW
  replace p := p.below hb
  replace q := q.below hb
  have xa0 := XA.c0
  have xa1 := XA.c1
  have xa2 := XA.c2
  go_upto_region 2 with (first
      | (go_at_call 70; (with_reducible refine (rin_nr (2 * k) q (by omega) rfl).mono ?_); rintro e w_x ⟨A_x, n_x, c_x, rfl, x, hh⟩
         try replace p := p.below hh
         try replace q := q.below hh
         try replace y := y.below hh
         try replace o := o.below hh
         try replace r := r.below hh
         try replace XA := XA.below hh
         try replace Z := Z.below hh
         replace hb := bend hb hh
         have xa0 := XA.c0
         have xa1 := XA.c1
         have xa2 := XA.c2))
  have hx0 := x.zero_n HQ.out
  subst hx0
  go_wp2_with (first
      | (go_at_call 71; (with_reducible refine (rof_rn _).mono ?_); rintro e w_o ⟨A_o, n_o, c_o, rfl, o, hh⟩
         try replace p := p.below hh
         try replace q := q.below hh
         try replace x := x.below hh
         try replace y := y.below hh
         try replace r := r.below hh
         try replace XA := XA.below hh
         try replace Z := Z.below hh
         replace hb := bend hb hh
         have xa0 := XA.c0
         have xa1 := XA.c1
         have xa2 := XA.c2)
      | (go_at_call 35; (with_reducible refine (rin2 p hk).mono ?_); rintro e w_y ⟨s_y, A_y, n_y, c_y, rfl, y, hh⟩
         try replace p := p.below hh
         try replace q := q.below hh
         try replace x := x.below hh
         try replace o := o.below hh
         try replace r := r.below hh
         try replace XA := XA.below hh
         try replace Z := Z.below hh
         replace hb := bend hb hh
         have xa0 := XA.c0
         have xa1 := XA.c1
         have xa2 := XA.c2)
      | (go_at_call 72; (with_reducible refine (made_rq y (o.more (by omega)) (by omega) (by decide)).mono ?_); rintro e w_r ⟨s_r, A_r, n_r, c_r, B_r, m_r, d_r, rfl, r, hh⟩
         rw [HD.out] at r
         try replace p := p.below hh
         try replace q := q.below hh
         try replace x := x.below hh
         try replace y := y.below hh
         try replace o := o.below hh
         try replace XA := XA.below hh
         try replace Z := Z.below hh
         replace hb := bend hb hh
         have xa0 := XA.c0
         have xa1 := XA.c1
         have xa2 := XA.c2
         have zf0 := Z.f0
         have zf1 := Z.f1
         have zf2 := Z.f2
         have z0 := Z.c0
         have z1 := Z.c1
         have z2 := Z.c2))
  have Z2 := Z.set3 (.bool s_r) (.slice A_r n_r c_r) (.slice B_r m_r d_r)
  have g0 := Z2.c0
  have g1 := Z2.c1
  have g2 := Z2.c2
  refine bodyPost_ret (v := .agg #[.bool s_r, .slice A_r n_r c_r, .slice B_r m_r d_r]) (by simp [results, Tryz.results12, go_sem, g0, g1, g2]) rfl ?_
  exact ⟨s_r, A_r, n_r, c_r, B_r, m_r, d_r, rfl, r.set3 Z _ _ _, below_set3 hb (by omega) _ _ _⟩

set_option maxRecDepth 100000 in
set_option maxHeartbeats 4000000 in
theorem rin3_pos {w : World} {s : Bool} {A A' : Option Addr} {n c n' c' k qq : Nat} {pp : Int} (p : ZR w s A n c pp k) (q : NR w A' n' c' qq k) (hk : k ≤ 1000) (hk1 : 1 ≤ k) (hq : qq ≠ 0) :
    Calls Tryz.prog 12 #[.agg #[.bool s, .slice A n c, .slice A' n' c']] w (GivesRQ w (mkRat pp (den1 qq)) (2 * k)) := by
  have HQ := Lib.hid hq
  have HD : Hid (mkRat pp qq = mkRat pp (den1 qq)) := by show _ = _; rw [den1_of hq]
  clear hq
  go_enter Tryz.func12, Tryz.ntmps12
  go_wp2_with fail
  generalize hW : ((w.alloc (Obj.cells #[Value.bool s, Value.slice A n c, Value.slice A' n' c'] 26)).alloc (Obj.cells #[Value.bool false, Value.slice none 0 0, Value.slice none 0 0] 34)) = W
  have hb : Below w.heap.size w W := by subst hW; exact (((Below.refl _ _).alloc (Nat.le_refl _) _).alloc (by simp) _)
  have XA : B3 W (w.heap.size) (Value.bool s) (Value.slice A n c) (Value.slice A' n' c') := by subst hW; exact (B3.new' _ _ _ _ _ rfl).alloc _
  have Z : B3R W (w.heap.size + 1) (Value.bool false) (Value.slice none 0 0) (Value.slice none 0 0) := by subst hW; exact B3R.new' _ _ _ _ _ (by simp)
  have hzW : W.heap.size = w.heap.size + 2 := by subst hW; simp
  clear hW
  replace p := p.below hb
  replace q := q.below hb
  have xa0 := XA.c0
  have xa1 := XA.c1
  have xa2 := XA.c2
  go_upto_region 2 with (first
      | (go_at_call 70; (with_reducible refine (rin_nr (2 * k) q (by omega) rfl).mono ?_); rintro e w_x ⟨A_x, n_x, c_x, rfl, x, hh⟩
         try replace p := p.below hh
         try replace q := q.below hh
         try replace y := y.below hh
         try replace o := o.below hh
         try replace r := r.below hh
         try replace XA := XA.below hh
         try replace Z := Z.below hh
         replace hb := bend hb hh
         have xa0 := XA.c0
         have xa1 := XA.c1
         have xa2 := XA.c2))
  have hx0 := x.pos_ne HQ.out
  go_wp2_with (first
      | (go_at_call 35; (with_reducible refine (rin2 p hk).mono ?_); rintro e w_y ⟨s_y, A_y, n_y, c_y, rfl, y, hh⟩
         try replace p := p.below hh
         try replace q := q.below hh
         try replace x := x.below hh
         try replace o := o.below hh
         try replace r := r.below hh
         try replace XA := XA.below hh
         try replace Z := Z.below hh
         replace hb := bend hb hh
         have xa0 := XA.c0
         have xa1 := XA.c1
         have xa2 := XA.c2)
      | (go_at_call 72; (with_reducible refine (made_rq y x (by omega) HQ.out).mono ?_); rintro e w_r ⟨s_r, A_r, n_r, c_r, B_r, m_r, d_r, rfl, r, hh⟩
         rw [HD.out] at r
         try replace p := p.below hh
         try replace q := q.below hh
         try replace x := x.below hh
         try replace y := y.below hh
         try replace o := o.below hh
         try replace XA := XA.below hh
         try replace Z := Z.below hh
         replace hb := bend hb hh
         have xa0 := XA.c0
         have xa1 := XA.c1
         have xa2 := XA.c2
         have zf0 := Z.f0
         have zf1 := Z.f1
         have zf2 := Z.f2
         have z0 := Z.c0
         have z1 := Z.c1
         have z2 := Z.c2))
  have Z2 := Z.set3 (.bool s_r) (.slice A_r n_r c_r) (.slice B_r m_r d_r)
  have g0 := Z2.c0
  have g1 := Z2.c1
  have g2 := Z2.c2
  refine bodyPost_ret (v := .agg #[.bool s_r, .slice A_r n_r c_r, .slice B_r m_r d_r]) (by simp [results, Tryz.results12, go_sem, g0, g1, g2]) rfl ?_
  exact ⟨s_r, A_r, n_r, c_r, B_r, m_r, d_r, rfl, r.set3 Z _ _ _, below_set3 hb (by omega) _ _ _⟩

theorem rin3 {w : World} {s : Bool} {A A' : Option Addr} {n c n' c' k : Nat} {v : Rat} (X0 : QR w s A n c A' n' c' v k) (hk : k ≤ 1000) (hk1 : 1 ≤ k) :
    Calls Tryz.prog 12 #[.agg #[.bool s, .slice A n c, .slice A' n' c']] w (GivesRQ w v (2 * k)) := by
  obtain ⟨pp, qq, p, q, rfl⟩ := X0
  by_cases h : qq = 0
  · exact rin3_zero p q hk hk1 h
  · exact rin3_pos p q hk hk1 h

set_option maxRecDepth 100000 in
set_option maxHeartbeats 4000000 in
theorem rden3 {w : World} {s : Bool} {A A' : Option Addr} {n c n' c' k : Nat} {v : Rat} (X : RQ w s A n c A' n' c' v k) :
    Calls Tryz.prog 77 #[.agg #[.bool s, .slice A n c, .slice A' n' c']] w fun e w' => e = .returned (.agg #[.bool false, .slice A' n' c']) ∧ Below w.heap.size w w' := by
  have hn := X.qn.pos_ne v.den_nz
  clear X
  go_enter Tryz.func77, Tryz.ntmps77
  go_upto_region 1 with (fail)
  generalize hW : ((w.alloc (Obj.cells #[Value.bool s, Value.slice A n c, Value.slice A' n' c'] 34)).alloc (Obj.cells #[Value.bool false, Value.slice none 0 0] 32)) = W
  have hb : Below w.heap.size w W := by subst hW; exact (((Below.refl _ _).alloc (Nat.le_refl _) _).alloc (by simp) _)
  have XA : B3R W (w.heap.size) (Value.bool s) (Value.slice A n c) (Value.slice A' n' c') := by subst hW; exact (B3R.new' _ _ _ _ _ rfl).alloc _
  have Z : By W (w.heap.size + 1) (Value.bool false) (Value.slice none 0 0) := by subst hW; exact By.new' _ _ _ _ (by simp)
  have hzW : W.heap.size = w.heap.size + 2 := by subst hW; simp
  clear hW
  have xa0 := XA.c0
  have xa1 := XA.c1
  have xa2 := XA.c2
  have z0 := Z.c0
  have z1 := Z.c1
  have zf0 := Z.f0
  have zf1 := Z.f1
  go_wp2_with fail
  have Z2 := Z.set2 (.bool false) (.slice A' n' c')
  have g0 := Z2.c0
  have g1 := Z2.c1
  refine bodyPost_ret (v := .agg #[.bool false, .slice A' n' c']) (by simp [results, Tryz.results77, go_sem, g0, g1]) rfl ?_
  exact ⟨rfl, below_set2' hb (by omega) _ _⟩

set_option maxRecDepth 100000 in
set_option maxHeartbeats 4000000 in
theorem rsign3 {w : World} {s : Bool} {A A' : Option Addr} {n c n' c' k : Nat} {v : Rat} (X : RQ w s A n c A' n' c' v k) :
    Calls Tryz.prog 15 #[.agg #[.bool s, .slice A n c, .slice A' n' c']] w fun e w' => e = .returned (.int .i64 (sgnQ v)) ∧ Below w.heap.size w w' := by
  have HS : Hid (sgn v.num = sgnQ v) := by
    show _ = _
    conv => rhs; rw [parts_eq v]
    exact (sgnQ_mk v.den_nz).symm
  go_enter Tryz.func15, Tryz.ntmps15
  go_wp2_with fail
  generalize hW : (w.alloc (Obj.cells #[Value.bool s, Value.slice A n c, Value.slice A' n' c'] 34)) = W
  have hb : Below w.heap.size w W := by subst hW; exact ((Below.refl _ _).alloc (Nat.le_refl _) _)
  have XA : B3R W (w.heap.size) (Value.bool s) (Value.slice A n c) (Value.slice A' n' c') := by subst hW; exact B3R.new' _ _ _ _ _ rfl
  have hzW : W.heap.size = w.heap.size + 1 := by subst hW; simp
  clear hW
  replace X := X.below hb
  have xa0 := XA.c0
  have xa1 := XA.c1
  have xa2 := XA.c2
  go_wp2_with (first
      | (go_at_call 36; (with_reducible refine (rsign2 X.pz).mono ?_); rintro e w_z ⟨rfl, hh⟩
         rw [HS.out]
         try replace X := X.below hh
         try replace XA := XA.below hh
         replace hb := bend hb hh
         have xa0 := XA.c0
         have xa1 := XA.c1
         have xa2 := XA.c2))
  go_ret
  exact ⟨rfl, hb⟩

set_option maxRecDepth 100000 in
set_option maxHeartbeats 4000000 in
theorem rminus3 {w : World} {s : Bool} {A A' : Option Addr} {n c n' c' k : Nat} {v : Rat} (X : RQ w s A n c A' n' c' v k) :
    Calls Tryz.prog 28 #[.agg #[.bool s, .slice A n c, .slice A' n' c']] w (GivesRQ w (-v) k) := by
  go_enter Tryz.func28, Tryz.ntmps28
  go_wp2_with fail
  generalize hW : ((w.alloc (Obj.cells #[Value.bool s, Value.slice A n c, Value.slice A' n' c'] 34)).alloc (Obj.cells #[Value.bool false, Value.slice none 0 0, Value.slice none 0 0] 34)) = W
  have hb : Below w.heap.size w W := by subst hW; exact (((Below.refl _ _).alloc (Nat.le_refl _) _).alloc (by simp) _)
  have XA : B3R W (w.heap.size) (Value.bool s) (Value.slice A n c) (Value.slice A' n' c') := by subst hW; exact (B3R.new' _ _ _ _ _ rfl).alloc _
  have Z : B3R W (w.heap.size + 1) (Value.bool false) (Value.slice none 0 0) (Value.slice none 0 0) := by subst hW; exact B3R.new' _ _ _ _ _ (by simp)
  have hzW : W.heap.size = w.heap.size + 2 := by subst hW; simp
  clear hW
  replace X := X.below hb
  replace X := X.below (Below.refl _ _).drew
  replace XA := XA.below (Below.refl _ _).drew
  replace Z := Z.below (Below.refl _ _).drew
  replace hb := hb.drew
  go_region_held3 (fun w' => w'.cell? ⟨w.heap.size, 0, none⟩ = some (.bool s) ∧ w'.cell? ⟨w.heap.size, 1, none⟩ = some (.slice A n c) ∧ w'.cell? ⟨w.heap.size, 2, none⟩ = some (.slice A' n' c'))
    (first | with_reducible exact ⟨XA.c0, XA.c1, XA.c2⟩ | with_reducible exact ⟨(set3_cell _ _ _ _ _ _ _ (by omega)).trans XA.c0, (set3_cell _ _ _ _ _ _ _ (by omega)).trans XA.c1, (set3_cell _ _ _ _ _ _ _ (by omega)).trans XA.c2⟩)
    (first
    | (go_at_call 78; (with_reducible refine (rminus2 X.pz).mono ?_); rintro e w_y ⟨s_y, A_y, n_y, c_y, rfl, y, hh⟩
       try replace X := X.below hh
       try replace XA := XA.below hh
       try replace Z := Z.below hh
       replace hb := bend hb hh
       have zf0 := Z.f0
       have zf1 := Z.f1
       have zf2 := Z.f2
       have z0 := Z.c0
       have z1 := Z.c1
       have z2 := Z.c2))
  go_wp2_with fail
  have Z2 := Z.set3 (.bool s_y) (.slice A_y n_y c_y) (.slice A' n' c')
  have g0 := Z2.c0
  have g1 := Z2.c1
  have g2 := Z2.c2
  refine bodyPost_ret (v := .agg #[.bool s_y, .slice A_y n_y c_y, .slice A' n' c']) (by simp [results, Tryz.results28, go_sem, g0, g1, g2]) rfl ?_
  have hr : RQ w_y s_y A_y n_y c_y A' n' c' (-v) k := ⟨by rw [Rat.neg_num]; exact y, by rw [Rat.neg_den]; exact X.qn⟩
  exact ⟨s_y, _, _, _, _, _, _, rfl, hr.set3 Z _ _ _, below_set3 hb (by omega) _ _ _⟩

set_option maxRecDepth 100000 in
set_option maxHeartbeats 4000000 in
theorem rabs3 {w : World} {s : Bool} {A A' : Option Addr} {n c n' c' k : Nat} {v : Rat} (X : RQ w s A n c A' n' c' v k) :
    Calls Tryz.prog 30 #[.agg #[.bool s, .slice A n c, .slice A' n' c']] w (GivesRQ w v.abs k) := by
  go_enter Tryz.func30, Tryz.ntmps30
  go_upto_region 1 with (fail)
  generalize hW : ((w.alloc (Obj.cells #[Value.bool s, Value.slice A n c, Value.slice A' n' c'] 34)).alloc (Obj.cells #[Value.bool false, Value.slice none 0 0, Value.slice none 0 0] 34)) = W
  have hb : Below w.heap.size w W := by subst hW; exact (((Below.refl _ _).alloc (Nat.le_refl _) _).alloc (by simp) _)
  have XA : B3R W (w.heap.size) (Value.bool s) (Value.slice A n c) (Value.slice A' n' c') := by subst hW; exact (B3R.new' _ _ _ _ _ rfl).alloc _
  have Z : B3R W (w.heap.size + 1) (Value.bool false) (Value.slice none 0 0) (Value.slice none 0 0) := by subst hW; exact B3R.new' _ _ _ _ _ (by simp)
  have hzW : W.heap.size = w.heap.size + 2 := by subst hW; simp
  clear hW
  replace X := X.below hb
  have xa0 := XA.c0
  have xa1 := XA.c1
  have xa2 := XA.c2
  have zf0 := Z.f0
  have zf1 := Z.f1
  have zf2 := Z.f2
  have z0 := Z.c0
  have z1 := Z.c1
  have z2 := Z.c2
  go_wp2_with fail
  have Z2 := Z.set3 (.bool false) (.slice A n c) (.slice A' n' c')
  have g0 := Z2.c0
  have g1 := Z2.c1
  have g2 := Z2.c2
  refine bodyPost_ret (v := .agg #[.bool false, .slice A n c, .slice A' n' c']) (by simp [results, Tryz.results30, go_sem, g0, g1, g2]) rfl ?_
  have hp : v.abs.num = (v.num.natAbs : Int) ∧ v.abs.den = v.den := by
    unfold Rat.abs
    split
    · rename_i h
      have := Rat.num_nonneg.2 h
      exact ⟨by omega, rfl⟩
    · rename_i h
      have := (num_neg_iff v).2 (Rat.not_le.1 h)
      exact ⟨by rw [Rat.neg_num]; omega, Rat.neg_den v⟩
  have hr : RQ W false A n c A' n' c' v.abs k := ⟨⟨(decide_eq_false (by rw [hp.1]; omega)).symm, by rw [hp.1]; exact X.pg.rn⟩, by rw [hp.2]; exact X.qn⟩
  exact ⟨false, _, _, _, _, _, _, rfl, hr.set3 Z _ _ _, below_set3 hb (by omega) _ _ _⟩

set_option maxRecDepth 100000 in
set_option maxHeartbeats 4000000 in
theorem rmul3 {w : World} {s t : Bool} {A A' B B' : Option Addr} {n c n' c' m d m' d' k k2 : Nat} {v u : Rat} (X : RQ w s A n c A' n' c' v k) (Y : RQ w t B m d B' m' d' u k2) (hk : k ≤ 10000) (hk2 : k2 ≤ 10000) :
    Calls Tryz.prog 23 #[.agg #[.bool s, .slice A n c, .slice A' n' c'], .agg #[.bool t, .slice B m d, .slice B' m' d']] w (GivesRQ w (v * u) (k + k2)) := by
  have HE : Hid (mkRat (v.num * u.num) (v.den * u.den) = v * u) := by
    show _ = _
    conv => rhs; rw [parts_eq v, parts_eq u, mk_mul]
  have H0 : Hid (v.den * u.den ≠ 0) := Nat.mul_ne_zero v.den_nz u.den_nz
  have HJ : Hid (v.den * u.den < B32 ^ (k + k2)) := by
    show _ < _
    rw [Nat.pow_add]
    exact Nat.mul_lt_mul'' X.qn.lt Y.qn.lt
  have hfd := fld02
  go_enter Tryz.func23, Tryz.ntmps23
  go_wp2_with fail
  generalize hW : (((w.alloc (Obj.cells #[Value.bool s, Value.slice A n c, Value.slice A' n' c'] 34)).alloc (Obj.cells #[Value.bool t, Value.slice B m d, Value.slice B' m' d'] 34)).alloc (Obj.cells #[Value.bool false, Value.slice none 0 0, Value.slice none 0 0] 34)) = W
  have hb : Below w.heap.size w W := by subst hW; exact ((((Below.refl _ _).alloc (Nat.le_refl _) _).alloc (by simp) _).alloc (by simp; omega) _)
  have XA : B3R W (w.heap.size) (Value.bool s) (Value.slice A n c) (Value.slice A' n' c') := by subst hW; exact ((B3R.new' _ _ _ _ _ rfl).alloc _).alloc _
  have XB : B3R W (w.heap.size + 1) (Value.bool t) (Value.slice B m d) (Value.slice B' m' d') := by subst hW; exact (B3R.new' _ _ _ _ _ (by simp)).alloc _
  have Z : B3R W (w.heap.size + 1 + 1) (Value.bool false) (Value.slice none 0 0) (Value.slice none 0 0) := by subst hW; exact B3R.new' _ _ _ _ _ (by simp)
  have hzW : W.heap.size = w.heap.size + 3 := by subst hW; simp
  clear hW
  replace X := X.below hb
  replace Y := Y.below hb
  replace X := X.below (Below.refl _ _).drew
  replace Y := Y.below (Below.refl _ _).drew
  replace XA := XA.below (Below.refl _ _).drew
  replace XB := XB.below (Below.refl _ _).drew
  replace Z := Z.below (Below.refl _ _).drew
  replace hb := hb.drew
  go_region_held3 (fun w' => w'.cell? ⟨w.heap.size, 0, none⟩ = some (.bool s) ∧ w'.cell? ⟨w.heap.size, 1, none⟩ = some (.slice A n c) ∧ w'.cell? ⟨w.heap.size, 2, none⟩ = some (.slice A' n' c') ∧ w'.cell? ⟨w.heap.size + 1, 0, none⟩ = some (.bool t) ∧ w'.cell? ⟨w.heap.size + 1, 1, none⟩ = some (.slice B m d) ∧ w'.cell? ⟨w.heap.size + 1, 2, none⟩ = some (.slice B' m' d'))
    (first | with_reducible exact ⟨XA.c0, XA.c1, XA.c2, XB.c0, XB.c1, XB.c2⟩ | with_reducible exact ⟨(set3_cell _ _ _ _ _ _ _ (by omega)).trans XA.c0, (set3_cell _ _ _ _ _ _ _ (by omega)).trans XA.c1, (set3_cell _ _ _ _ _ _ _ (by omega)).trans XA.c2, (set3_cell _ _ _ _ _ _ _ (by omega)).trans XB.c0, (set3_cell _ _ _ _ _ _ _ (by omega)).trans XB.c1, (set3_cell _ _ _ _ _ _ _ (by omega)).trans XB.c2⟩)
    (first
    | (go_at_call 76; (with_reducible refine (rmul2 X.pz Y.pz (by omega) (by omega)).mono ?_); rintro e w_x ⟨s_x, A_x, n_x, c_x, rfl, x, hh⟩
       try replace X := X.below hh
       try replace Y := Y.below hh
       try replace y := y.below hh
       try replace r := r.below hh
       try replace XA := XA.below hh
       try replace XB := XB.below hh
       try replace Z := Z.below hh
       replace hb := bend hb hh)
    | (go_at_call 77; (with_reducible refine (rden3 X).mono ?_); rintro e w_z ⟨rfl, hh⟩
       try replace X := X.below hh
       try replace Y := Y.below hh
       try replace x := x.below hh
       try replace y := y.below hh
       try replace r := r.below hh
       try replace XA := XA.below hh
       try replace XB := XB.below hh
       try replace Z := Z.below hh
       replace hb := bend hb hh)
    | (go_at_call 77; (with_reducible refine (rden3 Y).mono ?_); rintro e w_z ⟨rfl, hh⟩
       try replace X := X.below hh
       try replace Y := Y.below hh
       try replace x := x.below hh
       try replace y := y.below hh
       try replace r := r.below hh
       try replace XA := XA.below hh
       try replace XB := XB.below hh
       try replace Z := Z.below hh
       replace hb := bend hb hh)
    | (go_at_call 79; (with_reducible refine (rmul_rn (k + k2) X.qn Y.qn (by omega) (by omega) HJ.out).mono ?_); rintro e w_y ⟨A_y, n_y, c_y, rfl, y, hh⟩
       try replace X := X.below hh
       try replace Y := Y.below hh
       try replace x := x.below hh
       try replace r := r.below hh
       try replace XA := XA.below hh
       try replace XB := XB.below hh
       try replace Z := Z.below hh
       replace hb := bend hb hh)
    | (go_at_call 72; (with_reducible refine (made_rq x y (by omega) H0.out).mono ?_); rintro e w_r ⟨s_r, A_r, n_r, c_r, B_r, m_r, d_r, rfl, r, hh⟩
       rw [HE.out] at r
       try replace X := X.below hh
       try replace Y := Y.below hh
       try replace x := x.below hh
       try replace y := y.below hh
       try replace XA := XA.below hh
       try replace XB := XB.below hh
       try replace Z := Z.below hh
       replace hb := bend hb hh
       have zf0 := Z.f0
       have zf1 := Z.f1
       have zf2 := Z.f2
       have z0 := Z.c0
       have z1 := Z.c1
       have z2 := Z.c2))
  go_wp2_with fail
  have Z2 := Z.set3 (.bool s_r) (.slice A_r n_r c_r) (.slice B_r m_r d_r)
  have g0 := Z2.c0
  have g1 := Z2.c1
  have g2 := Z2.c2
  refine bodyPost_ret (v := .agg #[.bool s_r, .slice A_r n_r c_r, .slice B_r m_r d_r]) (by simp [results, Tryz.results23, go_sem, g0, g1, g2]) rfl ?_
  exact ⟨s_r, A_r, n_r, c_r, B_r, m_r, d_r, rfl, r.set3 Z _ _ _, below_set3 hb (by omega) _ _ _⟩

set_option maxRecDepth 100000 in
set_option maxHeartbeats 4000000 in
theorem rcmp3 {w : World} {s t : Bool} {A A' B B' : Option Addr} {n c n' c' m d m' d' k k2 : Nat} {v u : Rat} (X : RQ w s A n c A' n' c' v k) (Y : RQ w t B m d B' m' d' u k2) (hk : k ≤ 10000) (hk2 : k2 ≤ 10000) :
    Calls Tryz.prog 25 #[.agg #[.bool s, .slice A n c, .slice A' n' c'], .agg #[.bool t, .slice B m d, .slice B' m' d']] w fun e w' => e = .returned (.int .i64 (cmpQ v u)) ∧ Below w.heap.size w w' := by
  have HE : Hid (cmpZ (v.num * (u.den : Int)) (u.num * (v.den : Int)) = cmpQ v u) := by
    show _ = _
    conv => rhs; rw [parts_eq v, parts_eq u]
    exact (cmpQ_mk v.den_nz u.den_nz).symm
  go_enter Tryz.func25, Tryz.ntmps25
  go_wp2_with fail
  generalize hW : ((w.alloc (Obj.cells #[Value.bool s, Value.slice A n c, Value.slice A' n' c'] 34)).alloc (Obj.cells #[Value.bool t, Value.slice B m d, Value.slice B' m' d'] 34)) = W
  have hb : Below w.heap.size w W := by subst hW; exact (((Below.refl _ _).alloc (Nat.le_refl _) _).alloc (by simp) _)
  have XA : B3R W (w.heap.size) (Value.bool s) (Value.slice A n c) (Value.slice A' n' c') := by subst hW; exact (B3R.new' _ _ _ _ _ rfl).alloc _
  have XB : B3R W (w.heap.size + 1) (Value.bool t) (Value.slice B m d) (Value.slice B' m' d') := by subst hW; exact B3R.new' _ _ _ _ _ (by simp)
  have hzW : W.heap.size = w.heap.size + 2 := by subst hW; simp
  clear hW
  replace X := X.below hb
  replace Y := Y.below hb
  replace X := X.below (Below.refl _ _).drew
  replace Y := Y.below (Below.refl _ _).drew
  replace XA := XA.below (Below.refl _ _).drew
  replace XB := XB.below (Below.refl _ _).drew
  replace hb := hb.drew
  go_region_held3 (fun w' => w'.cell? ⟨w.heap.size, 0, none⟩ = some (.bool s) ∧ w'.cell? ⟨w.heap.size, 1, none⟩ = some (.slice A n c) ∧ w'.cell? ⟨w.heap.size, 2, none⟩ = some (.slice A' n' c') ∧ w'.cell? ⟨w.heap.size + 1, 0, none⟩ = some (.bool t) ∧ w'.cell? ⟨w.heap.size + 1, 1, none⟩ = some (.slice B m d) ∧ w'.cell? ⟨w.heap.size + 1, 2, none⟩ = some (.slice B' m' d'))
    (first | with_reducible exact ⟨XA.c0, XA.c1, XA.c2, XB.c0, XB.c1, XB.c2⟩)
    (first
    | (go_at_call 77; (with_reducible refine (rden3 Y).mono ?_); rintro e w_z ⟨rfl, hh⟩
       try replace X := X.below hh
       try replace Y := Y.below hh
       try replace x := x.below hh
       try replace y := y.below hh
       try replace XA := XA.below hh
       try replace XB := XB.below hh
       replace hb := bend hb hh)
    | (go_at_call 76; (with_reducible refine (rmul2 X.pz Y.qz (by omega) (by omega)).mono ?_); rintro e w_x ⟨s_x, A_x, n_x, c_x, rfl, x, hh⟩
       try replace X := X.below hh
       try replace Y := Y.below hh
       try replace y := y.below hh
       try replace XA := XA.below hh
       try replace XB := XB.below hh
       replace hb := bend hb hh)
    | (go_at_call 77; (with_reducible refine (rden3 X).mono ?_); rintro e w_z ⟨rfl, hh⟩
       try replace X := X.below hh
       try replace Y := Y.below hh
       try replace x := x.below hh
       try replace y := y.below hh
       try replace XA := XA.below hh
       try replace XB := XB.below hh
       replace hb := bend hb hh)
    | (go_at_call 76; (with_reducible refine (rmul2 Y.pz X.qz (by omega) (by omega)).mono ?_); rintro e w_y ⟨s_y, A_y, n_y, c_y, rfl, y, hh⟩
       try replace X := X.below hh
       try replace Y := Y.below hh
       try replace x := x.below hh
       try replace XA := XA.below hh
       try replace XB := XB.below hh
       replace hb := bend hb hh)
    | (go_at_call 87; (with_reducible refine (rcmp2 x.rz y.rz (by omega) (by omega)).mono ?_); rintro e w_z ⟨rfl, hh⟩
       rw [HE.out]
       try replace X := X.below hh
       try replace Y := Y.below hh
       try replace x := x.below hh
       try replace y := y.below hh
       try replace XA := XA.below hh
       try replace XB := XB.below hh
       replace hb := bend hb hh))
  go_wp2_with fail
  go_ret
  exact ⟨rfl, hb⟩
end Go.Proofs.YtmcijgnbdnpanaaGreat
