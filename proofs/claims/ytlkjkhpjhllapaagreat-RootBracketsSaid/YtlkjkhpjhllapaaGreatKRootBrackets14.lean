/- RootBrackets: part 14. -/
import Derived.Deep.Cut
import Derived.Deep.CutRange
import Derived.Test.YtlkjkhpjhllapaaGreatKRootBrackets6
import Derived.Test.YtlkjkhpjhllapaaGreatKRootBrackets10
import Derived.Test.YtlkjkhpjhllapaaGreatKRootBrackets11
import Derived.Test.YtlkjkhpjhllapaaGreatKRootBrackets12
import Derived.Test.YtlkjkhpjhllapaaGreatKRootBrackets13
set_option linter.unusedVariables false
namespace Go.Proofs.YtlkjkhpjhllapaaGreat
open Go Go.RowKit
theorem RN.pos_ne {w : World} {A : Option Addr} {n c V k : Nat} (h : RN w A n c V k) (hV : V ≠ 0) : ((n : Int) == 0) = false := by
  have h1 := rn_pos h
  rw [decide_eq_true (show 0 < V by omega)] at h1
  have := of_decide_eq_true h1
  simp; omega
theorem RN.zero_n {w : World} {A : Option Addr} {n c V k : Nat} (h : RN w A n c V k) (hV : V = 0) : n = 0 := by
  have h1 := h.1.1
  rw [hV, limbs_zero] at h1
  exact h1.symm
theorem fld02 (s : Bool) (A : Option Addr) (n c : Nat) (w : World) : (Instr.field 32 (.agg #[.bool s, .slice A n c]) 1).run Tryz.prog w = .ok (.slice A n c) w := by kernel_rfl
section
variable {w : World} {s : Bool} {A A' : Option Addr} {n c n' c' k k1 : Nat} {v : Rat}
theorem RQ.pz (h : RQ w s A n c A' n' c' v k) : RZ w s A n c v.num k := h.1.rz
theorem RQ.pg (h : RQ w s A n c A' n' c' v k) : RG w s A n c v.num k := h.1
theorem RQ.qn (h : RQ w s A n c A' n' c' v k) : RN w A' n' c' v.den k := h.2
theorem RQ.qz (h : RQ w s A n c A' n' c' v k) : RZ w false A' n' c' (v.den : Int) k := ⟨v.den, h.2, rfl⟩
theorem RQ.more (h : RQ w s A n c A' n' c' v k) (hk : k ≤ k1) : RQ w s A n c A' n' c' v k1 := ⟨h.1.more hk, h.2.more hk⟩
end
theorem parts_eq (v : Rat) : v = mkRat v.num v.den := (Rat.mkRat_self v).symm
set_option maxRecDepth 100000 in
set_option maxHeartbeats 4000000 in
theorem rin3_zero {w : World} {s : Bool} {A A' : Option Addr} {n c n' c' k qq : Nat} {pp : Int} (p : ZR w s A n c pp k) (q : NR w A' n' c' qq k) (hk : k ≤ 1000) (hk1 : 1 ≤ k) (hq : qq = 0) :
    Calls Tryz.prog 16 #[.agg #[.bool s, .slice A n c, .slice A' n' c']] w (GivesRQ w (mkRat pp (den1 qq)) (2 * k)) := by
  have HQ := Lib.hid hq
  have HD : Hid (mkRat pp 1 = mkRat pp (den1 qq)) := by show _ = _; rw [hq]; rfl
  clear hq
  go_enter Tryz.func16, Tryz.ntmps16
  go_wp2_with fail
  generalize hW : ((w.alloc (Obj.cells #[Value.bool s, Value.slice A n c, Value.slice A' n' c'] 26)).alloc (Obj.cells #[Value.bool false, Value.slice none 0 0, Value.slice none 0 0] 34)) = W
  have hb : Below w.heap.size w W := by subst hW; exact (((Below.refl _ _).alloc (Nat.le_refl _) _).alloc (by simp) _)
  have XA : B3 W (w.heap.size) (Value.bool s) (Value.slice A n c) (Value.slice A' n' c') := by subst hW; exact (B3.new' _ _ _ _ _ rfl).alloc _
  have Z : B3R W (w.heap.size + 1) (Value.bool false) (Value.slice none 0 0) (Value.slice none 0 0) := by subst hW; exact B3R.new' _ _ _ _ _ (by simp)
  have hzW : W.heap.size = w.heap.size + 2 := by subst hW; simp
  clear hW
  replace p := p.below hb
  replace q := q.below hb
  have xa0 := XA.c0
  have xa1 := XA.c1
  have xa2 := XA.c2
  go_upto_region 2 with (first
      | (go_at_call 97; (with_reducible refine (rin_nr (2 * k) q (by omega) rfl).mono ?_); rintro e w_x ⟨A_x, n_x, c_x, rfl, x, hh⟩
         try replace p := p.below hh
         try replace q := q.below hh
         try replace y := y.below hh
         try replace o := o.below hh
         try replace r := r.below hh
         try replace XA := XA.below hh
         try replace Z := Z.below hh
         replace hb := bend hb hh
         have xa0 := XA.c0
         have xa1 := XA.c1
         have xa2 := XA.c2))
  have hx0 := x.zero_n HQ.out
  subst hx0
  go_wp2_with (first
      | (go_at_call 98; (with_reducible refine (rof_rn _).mono ?_); rintro e w_o ⟨A_o, n_o, c_o, rfl, o, hh⟩
         try replace p := p.below hh
         try replace q := q.below hh
         try replace x := x.below hh
         try replace y := y.below hh
         try replace r := r.below hh
         try replace XA := XA.below hh
         try replace Z := Z.below hh
         replace hb := bend hb hh
         have xa0 := XA.c0
         have xa1 := XA.c1
         have xa2 := XA.c2)
      | (go_at_call 100; (with_reducible refine (rin2 p hk).mono ?_); rintro e w_y ⟨s_y, A_y, n_y, c_y, rfl, y, hh⟩
         try replace p := p.below hh
         try replace q := q.below hh
         try replace x := x.below hh
         try replace o := o.below hh
         try replace r := r.below hh
         try replace XA := XA.below hh
         try replace Z := Z.below hh
         replace hb := bend hb hh
         have xa0 := XA.c0
         have xa1 := XA.c1
         have xa2 := XA.c2)
      | (go_at_call 99; (with_reducible refine (made_rq y (o.more (by omega)) (by omega) (by decide)).mono ?_); rintro e w_r ⟨s_r, A_r, n_r, c_r, B_r, m_r, d_r, rfl, r, hh⟩
         rw [HD.out] at r
         try replace p := p.below hh
         try replace q := q.below hh
         try replace x := x.below hh
         try replace y := y.below hh
         try replace o := o.below hh
         try replace XA := XA.below hh
         try replace Z := Z.below hh
         replace hb := bend hb hh
         have xa0 := XA.c0
         have xa1 := XA.c1
         have xa2 := XA.c2
         have zf0 := Z.f0
         have zf1 := Z.f1
         have zf2 := Z.f2
         have z0 := Z.c0
         have z1 := Z.c1
         have z2 := Z.c2))
  have Z2 := Z.set3 (.bool s_r) (.slice A_r n_r c_r) (.slice B_r m_r d_r)
  have g0 := Z2.c0
  have g1 := Z2.c1
  have g2 := Z2.c2
  refine bodyPost_ret (v := .agg #[.bool s_r, .slice A_r n_r c_r, .slice B_r m_r d_r]) (by simp [results, Tryz.results16, go_sem, g0, g1, g2]) rfl ?_
  exact ⟨s_r, A_r, n_r, c_r, B_r, m_r, d_r, rfl, r.set3 Z _ _ _, below_set3 hb (by omega) _ _ _⟩
set_option maxRecDepth 100000 in
set_option maxHeartbeats 4000000 in
theorem rin3_pos {w : World} {s : Bool} {A A' : Option Addr} {n c n' c' k qq : Nat} {pp : Int} (p : ZR w s A n c pp k) (q : NR w A' n' c' qq k) (hk : k ≤ 1000) (hk1 : 1 ≤ k) (hq : qq ≠ 0) :
    Calls Tryz.prog 16 #[.agg #[.bool s, .slice A n c, .slice A' n' c']] w (GivesRQ w (mkRat pp (den1 qq)) (2 * k)) := by
  have HQ := Lib.hid hq
  have HD : Hid (mkRat pp qq = mkRat pp (den1 qq)) := by show _ = _; rw [den1_of hq]
  clear hq
  go_enter Tryz.func16, Tryz.ntmps16
  go_wp2_with fail
  generalize hW : ((w.alloc (Obj.cells #[Value.bool s, Value.slice A n c, Value.slice A' n' c'] 26)).alloc (Obj.cells #[Value.bool false, Value.slice none 0 0, Value.slice none 0 0] 34)) = W
  have hb : Below w.heap.size w W := by subst hW; exact (((Below.refl _ _).alloc (Nat.le_refl _) _).alloc (by simp) _)
  have XA : B3 W (w.heap.size) (Value.bool s) (Value.slice A n c) (Value.slice A' n' c') := by subst hW; exact (B3.new' _ _ _ _ _ rfl).alloc _
  have Z : B3R W (w.heap.size + 1) (Value.bool false) (Value.slice none 0 0) (Value.slice none 0 0) := by subst hW; exact B3R.new' _ _ _ _ _ (by simp)
  have hzW : W.heap.size = w.heap.size + 2 := by subst hW; simp
  clear hW
  replace p := p.below hb
  replace q := q.below hb
  have xa0 := XA.c0
  have xa1 := XA.c1
  have xa2 := XA.c2
  go_upto_region 2 with (first
      | (go_at_call 97; (with_reducible refine (rin_nr (2 * k) q (by omega) rfl).mono ?_); rintro e w_x ⟨A_x, n_x, c_x, rfl, x, hh⟩
         try replace p := p.below hh
         try replace q := q.below hh
         try replace y := y.below hh
         try replace o := o.below hh
         try replace r := r.below hh
         try replace XA := XA.below hh
         try replace Z := Z.below hh
         replace hb := bend hb hh
         have xa0 := XA.c0
         have xa1 := XA.c1
         have xa2 := XA.c2))
  have hx0 := x.pos_ne HQ.out
  go_wp2_with (first
      | (go_at_call 100; (with_reducible refine (rin2 p hk).mono ?_); rintro e w_y ⟨s_y, A_y, n_y, c_y, rfl, y, hh⟩
         try replace p := p.below hh
         try replace q := q.below hh
         try replace x := x.below hh
         try replace o := o.below hh
         try replace r := r.below hh
         try replace XA := XA.below hh
         try replace Z := Z.below hh
         replace hb := bend hb hh
         have xa0 := XA.c0
         have xa1 := XA.c1
         have xa2 := XA.c2)
      | (go_at_call 99; (with_reducible refine (made_rq y x (by omega) HQ.out).mono ?_); rintro e w_r ⟨s_r, A_r, n_r, c_r, B_r, m_r, d_r, rfl, r, hh⟩
         rw [HD.out] at r
         try replace p := p.below hh
         try replace q := q.below hh
         try replace x := x.below hh
         try replace y := y.below hh
         try replace o := o.below hh
         try replace XA := XA.below hh
         try replace Z := Z.below hh
         replace hb := bend hb hh
         have xa0 := XA.c0
         have xa1 := XA.c1
         have xa2 := XA.c2
         have zf0 := Z.f0
         have zf1 := Z.f1
         have zf2 := Z.f2
         have z0 := Z.c0
         have z1 := Z.c1
         have z2 := Z.c2))
  have Z2 := Z.set3 (.bool s_r) (.slice A_r n_r c_r) (.slice B_r m_r d_r)
  have g0 := Z2.c0
  have g1 := Z2.c1
  have g2 := Z2.c2
  refine bodyPost_ret (v := .agg #[.bool s_r, .slice A_r n_r c_r, .slice B_r m_r d_r]) (by simp [results, Tryz.results16, go_sem, g0, g1, g2]) rfl ?_
  exact ⟨s_r, A_r, n_r, c_r, B_r, m_r, d_r, rfl, r.set3 Z _ _ _, below_set3 hb (by omega) _ _ _⟩
theorem rin3 {w : World} {s : Bool} {A A' : Option Addr} {n c n' c' k : Nat} {v : Rat} (X0 : QR w s A n c A' n' c' v k) (hk : k ≤ 1000) (hk1 : 1 ≤ k) :
    Calls Tryz.prog 16 #[.agg #[.bool s, .slice A n c, .slice A' n' c']] w (GivesRQ w v (2 * k)) := by
  obtain ⟨pp, qq, p, q, rfl⟩ := X0
  by_cases h : qq = 0
  · exact rin3_zero p q hk hk1 h
  · exact rin3_pos p q hk hk1 h
set_option maxRecDepth 100000 in
set_option maxHeartbeats 4000000 in
theorem rden3 {w : World} {s : Bool} {A A' : Option Addr} {n c n' c' k : Nat} {v : Rat} (X : RQ w s A n c A' n' c' v k) :
    Calls Tryz.prog 106 #[.agg #[.bool s, .slice A n c, .slice A' n' c']] w fun e w' => e = .returned (.agg #[.bool false, .slice A' n' c']) ∧ Below w.heap.size w w' := by
  have hn := X.qn.pos_ne v.den_nz
  clear X
  go_enter Tryz.func106, Tryz.ntmps106
  go_upto_region 1 with (fail)
  generalize hW : ((w.alloc (Obj.cells #[Value.bool s, Value.slice A n c, Value.slice A' n' c'] 34)).alloc (Obj.cells #[Value.bool false, Value.slice none 0 0] 32)) = W
  have hb : Below w.heap.size w W := by subst hW; exact (((Below.refl _ _).alloc (Nat.le_refl _) _).alloc (by simp) _)
  have XA : B3R W (w.heap.size) (Value.bool s) (Value.slice A n c) (Value.slice A' n' c') := by subst hW; exact (B3R.new' _ _ _ _ _ rfl).alloc _
  have Z : By W (w.heap.size + 1) (Value.bool false) (Value.slice none 0 0) := by subst hW; exact By.new' _ _ _ _ (by simp)
  have hzW : W.heap.size = w.heap.size + 2 := by subst hW; simp
  clear hW
  have xa0 := XA.c0
  have xa1 := XA.c1
  have xa2 := XA.c2
  have z0 := Z.c0
  have z1 := Z.c1
  have zf0 := Z.f0
  have zf1 := Z.f1
  go_wp2_with fail
  have Z2 := Z.set2 (.bool false) (.slice A' n' c')
  have g0 := Z2.c0
  have g1 := Z2.c1
  refine bodyPost_ret (v := .agg #[.bool false, .slice A' n' c']) (by simp [results, Tryz.results106, go_sem, g0, g1]) rfl ?_
  exact ⟨rfl, below_set2' hb (by omega) _ _⟩
set_option maxRecDepth 100000 in
set_option maxHeartbeats 4000000 in
theorem rsign3 {w : World} {s : Bool} {A A' : Option Addr} {n c n' c' k : Nat} {v : Rat} (X : RQ w s A n c A' n' c' v k) :
    Calls Tryz.prog 19 #[.agg #[.bool s, .slice A n c, .slice A' n' c']] w fun e w' => e = .returned (.int .i64 (sgnQ v)) ∧ Below w.heap.size w w' := by
  have HS : Hid (sgn v.num = sgnQ v) := by
    show _ = _
    conv => rhs; rw [parts_eq v]
    exact (sgnQ_mk v.den_nz).symm
  go_enter Tryz.func19, Tryz.ntmps19
  go_wp2_with fail
  generalize hW : (w.alloc (Obj.cells #[Value.bool s, Value.slice A n c, Value.slice A' n' c'] 34)) = W
  have hb : Below w.heap.size w W := by subst hW; exact ((Below.refl _ _).alloc (Nat.le_refl _) _)
  have XA : B3R W (w.heap.size) (Value.bool s) (Value.slice A n c) (Value.slice A' n' c') := by subst hW; exact B3R.new' _ _ _ _ _ rfl
  have hzW : W.heap.size = w.heap.size + 1 := by subst hW; simp
  clear hW
  replace X := X.below hb
  have xa0 := XA.c0
  have xa1 := XA.c1
  have xa2 := XA.c2
  go_wp2_with (first
      | (go_at_call 104; (with_reducible refine (rsign2 X.pz).mono ?_); rintro e w_z ⟨rfl, hh⟩
         rw [HS.out]
         try replace X := X.below hh
         try replace XA := XA.below hh
         replace hb := bend hb hh
         have xa0 := XA.c0
         have xa1 := XA.c1
         have xa2 := XA.c2))
  go_ret
  exact ⟨rfl, hb⟩
set_option maxRecDepth 100000 in
set_option maxHeartbeats 4000000 in
theorem rmul3 {w : World} {s t : Bool} {A A' B B' : Option Addr} {n c n' c' m d m' d' k k2 : Nat} {v u : Rat} (X : RQ w s A n c A' n' c' v k) (Y : RQ w t B m d B' m' d' u k2) (hk : k ≤ 10000) (hk2 : k2 ≤ 10000) :
    Calls Tryz.prog 27 #[.agg #[.bool s, .slice A n c, .slice A' n' c'], .agg #[.bool t, .slice B m d, .slice B' m' d']] w (GivesRQ w (v * u) (k + k2)) := by
  have HE : Hid (mkRat (v.num * u.num) (v.den * u.den) = v * u) := by
    show _ = _
    conv => rhs; rw [parts_eq v, parts_eq u, mk_mul]
  have H0 : Hid (v.den * u.den ≠ 0) := Nat.mul_ne_zero v.den_nz u.den_nz
  have HJ : Hid (v.den * u.den < B32 ^ (k + k2)) := by
    show _ < _
    rw [Nat.pow_add]
    exact Nat.mul_lt_mul'' X.qn.lt Y.qn.lt
  have hfd := fld02
  go_enter Tryz.func27, Tryz.ntmps27
  go_wp2_with fail
  generalize hW : (((w.alloc (Obj.cells #[Value.bool s, Value.slice A n c, Value.slice A' n' c'] 34)).alloc (Obj.cells #[Value.bool t, Value.slice B m d, Value.slice B' m' d'] 34)).alloc (Obj.cells #[Value.bool false, Value.slice none 0 0, Value.slice none 0 0] 34)) = W
  have hb : Below w.heap.size w W := by subst hW; exact ((((Below.refl _ _).alloc (Nat.le_refl _) _).alloc (by simp) _).alloc (by simp; omega) _)
  have XA : B3R W (w.heap.size) (Value.bool s) (Value.slice A n c) (Value.slice A' n' c') := by subst hW; exact ((B3R.new' _ _ _ _ _ rfl).alloc _).alloc _
  have XB : B3R W (w.heap.size + 1) (Value.bool t) (Value.slice B m d) (Value.slice B' m' d') := by subst hW; exact (B3R.new' _ _ _ _ _ (by simp)).alloc _
  have Z : B3R W (w.heap.size + 1 + 1) (Value.bool false) (Value.slice none 0 0) (Value.slice none 0 0) := by subst hW; exact B3R.new' _ _ _ _ _ (by simp)
  have hzW : W.heap.size = w.heap.size + 3 := by subst hW; simp
  clear hW
  replace X := X.below hb
  replace Y := Y.below hb
  replace X := X.below (Below.refl _ _).drew
  replace Y := Y.below (Below.refl _ _).drew
  replace XA := XA.below (Below.refl _ _).drew
  replace XB := XB.below (Below.refl _ _).drew
  replace Z := Z.below (Below.refl _ _).drew
  replace hb := hb.drew
  go_region_held3 (fun w' => w'.cell? ⟨w.heap.size, 0, none⟩ = some (.bool s) ∧ w'.cell? ⟨w.heap.size, 1, none⟩ = some (.slice A n c) ∧ w'.cell? ⟨w.heap.size, 2, none⟩ = some (.slice A' n' c') ∧ w'.cell? ⟨w.heap.size + 1, 0, none⟩ = some (.bool t) ∧ w'.cell? ⟨w.heap.size + 1, 1, none⟩ = some (.slice B m d) ∧ w'.cell? ⟨w.heap.size + 1, 2, none⟩ = some (.slice B' m' d'))
    (first | with_reducible exact ⟨XA.c0, XA.c1, XA.c2, XB.c0, XB.c1, XB.c2⟩ | with_reducible exact ⟨(set3_cell _ _ _ _ _ _ _ (by omega)).trans XA.c0, (set3_cell _ _ _ _ _ _ _ (by omega)).trans XA.c1, (set3_cell _ _ _ _ _ _ _ (by omega)).trans XA.c2, (set3_cell _ _ _ _ _ _ _ (by omega)).trans XB.c0, (set3_cell _ _ _ _ _ _ _ (by omega)).trans XB.c1, (set3_cell _ _ _ _ _ _ _ (by omega)).trans XB.c2⟩)
    (first
    | (go_at_call 105; (with_reducible refine (rmul2 X.pz Y.pz (by omega) (by omega)).mono ?_); rintro e w_x ⟨s_x, A_x, n_x, c_x, rfl, x, hh⟩
       try replace X := X.below hh
       try replace Y := Y.below hh
       try replace y := y.below hh
       try replace r := r.below hh
       try replace XA := XA.below hh
       try replace XB := XB.below hh
       try replace Z := Z.below hh
       replace hb := bend hb hh)
    | (go_at_call 106; (with_reducible refine (rden3 X).mono ?_); rintro e w_z ⟨rfl, hh⟩
       try replace X := X.below hh
       try replace Y := Y.below hh
       try replace x := x.below hh
       try replace y := y.below hh
       try replace r := r.below hh
       try replace XA := XA.below hh
       try replace XB := XB.below hh
       try replace Z := Z.below hh
       replace hb := bend hb hh)
    | (go_at_call 106; (with_reducible refine (rden3 Y).mono ?_); rintro e w_z ⟨rfl, hh⟩
       try replace X := X.below hh
       try replace Y := Y.below hh
       try replace x := x.below hh
       try replace y := y.below hh
       try replace r := r.below hh
       try replace XA := XA.below hh
       try replace XB := XB.below hh
       try replace Z := Z.below hh
       replace hb := bend hb hh)
    | (go_at_call 108; (with_reducible refine (rmul_rn (k + k2) X.qn Y.qn (by omega) (by omega) HJ.out).mono ?_); rintro e w_y ⟨A_y, n_y, c_y, rfl, y, hh⟩
       try replace X := X.below hh
       try replace Y := Y.below hh
       try replace x := x.below hh
       try replace r := r.below hh
       try replace XA := XA.below hh
       try replace XB := XB.below hh
       try replace Z := Z.below hh
       replace hb := bend hb hh)
    | (go_at_call 99; (with_reducible refine (made_rq x y (by omega) H0.out).mono ?_); rintro e w_r ⟨s_r, A_r, n_r, c_r, B_r, m_r, d_r, rfl, r, hh⟩
       rw [HE.out] at r
       try replace X := X.below hh
       try replace Y := Y.below hh
       try replace x := x.below hh
       try replace y := y.below hh
       try replace XA := XA.below hh
       try replace XB := XB.below hh
       try replace Z := Z.below hh
       replace hb := bend hb hh
       have zf0 := Z.f0
       have zf1 := Z.f1
       have zf2 := Z.f2
       have z0 := Z.c0
       have z1 := Z.c1
       have z2 := Z.c2))
  go_wp2_with fail
  have Z2 := Z.set3 (.bool s_r) (.slice A_r n_r c_r) (.slice B_r m_r d_r)
  have g0 := Z2.c0
  have g1 := Z2.c1
  have g2 := Z2.c2
  refine bodyPost_ret (v := .agg #[.bool s_r, .slice A_r n_r c_r, .slice B_r m_r d_r]) (by simp [results, Tryz.results27, go_sem, g0, g1, g2]) rfl ?_
  exact ⟨s_r, A_r, n_r, c_r, B_r, m_r, d_r, rfl, r.set3 Z _ _ _, below_set3 hb (by omega) _ _ _⟩
set_option maxRecDepth 100000 in
set_option maxHeartbeats 4000000 in
theorem rcmp3 {w : World} {s t : Bool} {A A' B B' : Option Addr} {n c n' c' m d m' d' k k2 : Nat} {v u : Rat} (X : RQ w s A n c A' n' c' v k) (Y : RQ w t B m d B' m' d' u k2) (hk : k ≤ 10000) (hk2 : k2 ≤ 10000) :
    Calls Tryz.prog 29 #[.agg #[.bool s, .slice A n c, .slice A' n' c'], .agg #[.bool t, .slice B m d, .slice B' m' d']] w fun e w' => e = .returned (.int .i64 (cmpQ v u)) ∧ Below w.heap.size w w' := by
  have HE : Hid (cmpZ (v.num * (u.den : Int)) (u.num * (v.den : Int)) = cmpQ v u) := by
    show _ = _
    conv => rhs; rw [parts_eq v, parts_eq u]
    exact (cmpQ_mk v.den_nz u.den_nz).symm
  go_enter Tryz.func29, Tryz.ntmps29
  go_wp2_with fail
  generalize hW : ((w.alloc (Obj.cells #[Value.bool s, Value.slice A n c, Value.slice A' n' c'] 34)).alloc (Obj.cells #[Value.bool t, Value.slice B m d, Value.slice B' m' d'] 34)) = W
  have hb : Below w.heap.size w W := by subst hW; exact (((Below.refl _ _).alloc (Nat.le_refl _) _).alloc (by simp) _)
  have XA : B3R W (w.heap.size) (Value.bool s) (Value.slice A n c) (Value.slice A' n' c') := by subst hW; exact (B3R.new' _ _ _ _ _ rfl).alloc _
  have XB : B3R W (w.heap.size + 1) (Value.bool t) (Value.slice B m d) (Value.slice B' m' d') := by subst hW; exact B3R.new' _ _ _ _ _ (by simp)
  have hzW : W.heap.size = w.heap.size + 2 := by subst hW; simp
  clear hW
  replace X := X.below hb
  replace Y := Y.below hb
  replace X := X.below (Below.refl _ _).drew
  replace Y := Y.below (Below.refl _ _).drew
  replace XA := XA.below (Below.refl _ _).drew
  replace XB := XB.below (Below.refl _ _).drew
  replace hb := hb.drew
  go_region_held3 (fun w' => w'.cell? ⟨w.heap.size, 0, none⟩ = some (.bool s) ∧ w'.cell? ⟨w.heap.size, 1, none⟩ = some (.slice A n c) ∧ w'.cell? ⟨w.heap.size, 2, none⟩ = some (.slice A' n' c') ∧ w'.cell? ⟨w.heap.size + 1, 0, none⟩ = some (.bool t) ∧ w'.cell? ⟨w.heap.size + 1, 1, none⟩ = some (.slice B m d) ∧ w'.cell? ⟨w.heap.size + 1, 2, none⟩ = some (.slice B' m' d'))
    (first | with_reducible exact ⟨XA.c0, XA.c1, XA.c2, XB.c0, XB.c1, XB.c2⟩)
    (first
    | (go_at_call 106; (with_reducible refine (rden3 Y).mono ?_); rintro e w_z ⟨rfl, hh⟩
       try replace X := X.below hh
       try replace Y := Y.below hh
       try replace x := x.below hh
       try replace y := y.below hh
       try replace XA := XA.below hh
       try replace XB := XB.below hh
       replace hb := bend hb hh)
    | (go_at_call 105; (with_reducible refine (rmul2 X.pz Y.qz (by omega) (by omega)).mono ?_); rintro e w_x ⟨s_x, A_x, n_x, c_x, rfl, x, hh⟩
       try replace X := X.below hh
       try replace Y := Y.below hh
       try replace y := y.below hh
       try replace XA := XA.below hh
       try replace XB := XB.below hh
       replace hb := bend hb hh)
    | (go_at_call 106; (with_reducible refine (rden3 X).mono ?_); rintro e w_z ⟨rfl, hh⟩
       try replace X := X.below hh
       try replace Y := Y.below hh
       try replace x := x.below hh
       try replace y := y.below hh
       try replace XA := XA.below hh
       try replace XB := XB.below hh
       replace hb := bend hb hh)
    | (go_at_call 105; (with_reducible refine (rmul2 Y.pz X.qz (by omega) (by omega)).mono ?_); rintro e w_y ⟨s_y, A_y, n_y, c_y, rfl, y, hh⟩
       try replace X := X.below hh
       try replace Y := Y.below hh
       try replace x := x.below hh
       try replace XA := XA.below hh
       try replace XB := XB.below hh
       replace hb := bend hb hh)
    | (go_at_call 116; (with_reducible refine (rcmp2 x.rz y.rz (by omega) (by omega)).mono ?_); rintro e w_z ⟨rfl, hh⟩
       rw [HE.out]
       try replace X := X.below hh
       try replace Y := Y.below hh
       try replace x := x.below hh
       try replace y := y.below hh
       try replace XA := XA.below hh
       try replace XB := XB.below hh
       replace hb := bend hb hh))
  go_wp2_with fail
  go_ret
  exact ⟨rfl, hb⟩
end Go.Proofs.YtlkjkhpjhllapaaGreat
namespace Go.Proofs.YtlkjkhpjhllapaaGreat
open Go Go.RowKit
def VRG (v : Int) (k : Nat) (x : Value) (w : World) : Prop := ∃ s A n c, x = .agg #[.bool s, .slice A n c] ∧ RG w s A n c v k
theorem RG.box {T : TypeId} {w w' : World} {g : Nat} {cs : Array Value} {s : Bool} {A : Option Addr} {n c k : Nat} {v : Int} (h : RG w s A n c v k) (B : BoxAt T w g cs) (ho : Only g w w') : RG w' s A n c v k := h.only (B.offx h.2.1) ho
theorem stays_r (v : Int) (k : Nat) : Stays (VRG v k) :=
  ⟨fun _ _ _ ⟨s, A, n, c, h1, h2⟩ hb => ⟨s, A, n, c, h1, h2.below hb⟩, fun _ _ _ _ _ _ ⟨s, A, n, c, h1, h2⟩ hB ho => ⟨s, A, n, c, h1, h2.box hB ho⟩⟩
theorem run_load3 {e : Operand → Value} {x : Operand} {d : Option Tmp} {y g : Nat} {pos : String} {af : Array Edge} {w : World} {u v z : Value} (h : e x = .pointer (some ⟨g, 0, none⟩)) (h0 : w.cell? ⟨g, 0, none⟩ = some u) (h1 : w.cell? ⟨g, 1, none⟩ = some v) (h2 : w.cell? ⟨g, 2, none⟩ = some z) :
    (execOp e { dst := d, op := Op.load 34 x, type := y, pos := pos, after := af, guard := none }).run Tryz.prog w = .ok (.value (.agg #[u, v, z])) w := by
  go_simp
theorem run_load32 {e : Operand → Value} {x : Operand} {d : Option Tmp} {y g : Nat} {pos : String} {af : Array Edge} {w : World} {u v : Value} (h : e x = .pointer (some ⟨g, 0, none⟩)) (h0 : w.cell? ⟨g, 0, none⟩ = some u) (h1 : w.cell? ⟨g, 1, none⟩ = some v) :
    (execOp e { dst := d, op := Op.load 32 x, type := y, pos := pos, after := af, guard := none }).run Tryz.prog w = .ok (.value (.agg #[u, v])) w := by
  go_simp
theorem run_fa0 {e : Operand → Value} {x : Operand} {d : Option Tmp} {y g : Nat} {pos : String} {af : Array Edge} {w : World} (h : e x = .pointer (some ⟨g, 0, none⟩)) :
    (execOp e { dst := d, op := Op.fieldAddr 34 x 0, type := y, pos := pos, after := af, guard := none }).run Tryz.prog w = .ok (.value (.pointer (some ⟨g, 0, none⟩))) w := by
  go_simp
theorem store_r {ac : Act} {x z : Operand} {y g : Nat} {pos : String} {af : Array Edge} {w : World} {Q : Exit → Act → World → Prop} {V : Int} {k : Nat} (p1 : ac.eval x = .pointer (some ⟨g, 0, none⟩)) (h : VRG V k (ac.eval z) w) (B : BoxAt 32 w g #[.bool false, .slice none 0 0]) :
    ({ dst := none, op := Op.store 32 x z, type := y, pos := pos, after := af, guard := none } : Oper).wp Tryz.prog ac w (fun a'' w'' => a'' = ac ∧ Only g w w'' ∧ ∃ cs', BoxAt 32 w'' g cs' ∧ (fun cs w => ∃ s A n c, cs = #[.bool s, .slice A n c] ∧ RG w s A n c V k) cs' w'') Q := by
  obtain ⟨s1, A1, n1, c1, h1, h2⟩ := h
  have Z : By w g (Value.bool false) (Value.slice none 0 0) := B.at_
  unfold Oper.wp
  rw [run_storeR p1 h1 Z.c0 Z.c1 Z.f0 Z.f1, Oper.upon_skip]
  refine ⟨put_none ac undef, (((Only.refl g w).setCell 0 _).setCell 1 _), #[.bool s1, .slice A1 n1 c1], ⟨Z.set2 (Value.bool s1) (Value.slice A1 n1 c1), free2 _ _ _ _⟩, s1, A1, n1, c1, rfl, h2.box B (((Only.refl g w).setCell 0 _).setCell 1 _)⟩
theorem RQ.box {T : TypeId} {w w' : World} {g : Nat} {cs : Array Value} {s : Bool} {A A' : Option Addr} {n c n' c' k : Nat} {v : Rat} (h : RQ w s A n c A' n' c' v k) (B : BoxAt T w g cs) (ho : Only g w w') : RQ w' s A n c A' n' c' v k := ⟨h.1.box B ho, h.2.only (B.offx h.2.1) ho⟩
end Go.Proofs.YtlkjkhpjhllapaaGreat
namespace Go.Proofs.YtlkjkhpjhllapaaGreat
open Go Go.RowKit
theorem rc_gesso_gessoref03_den {e : Operand → Value} {x0 : Operand} {d : Option Tmp} {y : Nat} {pos : String} {af : Array Edge} {w : World} {u0 : Value} (h0 : e x0 = u0) (hf : e (.func 106) = .func (.func 106) #[] #[]) :
    (execOp e { dst := d, op := Op.call { callee := Callee.value (Operand.func 106), args := #[x0], argTypes := #[34] }, type := y, pos := pos, after := af, guard := none }).run Tryz.prog w = .ok (.enter 106 #[u0]) w := by
  go_simp
theorem rc_gesso_gessoref02_Mul {e : Operand → Value} {x0 x1 : Operand} {d : Option Tmp} {y : Nat} {pos : String} {af : Array Edge} {w : World} {u0 u1 : Value} (h0 : e x0 = u0) (h1 : e x1 = u1) (hf : e (.func 105) = .func (.func 105) #[] #[]) :
    (execOp e { dst := d, op := Op.call { callee := Callee.value (Operand.func 105), args := #[x0, x1], argTypes := #[32, 32] }, type := y, pos := pos, after := af, guard := none }).run Tryz.prog w = .ok (.enter 105 #[u0, u1]) w := by
  go_simp
theorem rc_gesso_gessoref02_Add {e : Operand → Value} {x0 x1 : Operand} {d : Option Tmp} {y : Nat} {pos : String} {af : Array Edge} {w : World} {u0 u1 : Value} (h0 : e x0 = u0) (h1 : e x1 = u1) (hf : e (.func 111) = .func (.func 111) #[] #[]) :
    (execOp e { dst := d, op := Op.call { callee := Callee.value (Operand.func 111), args := #[x0, x1], argTypes := #[32, 32] }, type := y, pos := pos, after := af, guard := none }).run Tryz.prog w = .ok (.enter 111 #[u0, u1]) w := by
  go_simp
def F_radd (s : Bool) (t : Bool) (A : Option Addr) (A' : Option Addr) (B : Option Addr) (B' : Option Addr) (n : Nat) (c : Nat) (n' : Nat) (c' : Nat) (m : Nat) (d : Nat) (m' : Nat) (d' : Nat) (k : Nat) (k2 : Nat) (g1 : Nat) (g2 : Nat) (v : Rat) (u : Rat) (sl : Nat) : Value → World → Prop :=
  match sl with
  | 6 => fun x _ => x = Value.pointer (some ⟨g1, 0, none⟩)
  | 7 => fun x _ => x = Value.agg #[.bool s, .slice A n c]
  | 8 => fun x _ => x = Value.agg #[.bool t, .slice B m d, .slice B' m' d']
  | 9 => fun x _ => x = Value.agg #[.bool false, .slice B' m' d']
  | 10 => VRG (v.num * (u.den : Int)) (k + k2)
  | 11 => fun x _ => x = Value.pointer (some ⟨g2, 0, none⟩)
  | 12 => fun x _ => x = Value.agg #[.bool t, .slice B m d]
  | 13 => fun x _ => x = Value.agg #[.bool s, .slice A n c, .slice A' n' c']
  | 14 => fun x _ => x = Value.agg #[.bool false, .slice A' n' c']
  | 15 => VRG (u.num * (v.den : Int)) (k2 + k)
  | 16 => VRG (v.num * (u.den : Int) + u.num * (v.den : Int)) (k + k2 + 1)
  | _ => fun _ _ => True
set_option maxRecDepth 100000 in
set_option maxHeartbeats 4000000 in
theorem radd_region {id : Nat} {ac : Act} {w : World} {Q : Exit → Act → World → Prop} {s t : Bool} {A A' B B' : Option Addr} {n c n' c' m d m' d' k k2 g1 g2 : Nat} {v u : Rat}
    (hsz : 16 < ac.tmps.size) (e2 : ac.eval (.tmp 2) = Value.pointer (some ⟨g1, 0, none⟩)) (e3 : ac.eval (.tmp 3) = Value.pointer (some ⟨g2, 0, none⟩)) (XA : B3R w g1 (.bool s) (.slice A n c) (.slice A' n' c')) (XB : B3R w g2 (.bool t) (.slice B m d) (.slice B' m' d')) (X : RQ w s A n c A' n' c' v k) (Y : RQ w t B m d B' m' d' u k2) (hk : k ≤ 10000) (hk2 : k2 ≤ 10000)
    (hend : ∀ (V : Nat → Value) (w' : World) (g : Nat) (s : Bool) (A : Option Addr) (n c : Nat), RG w' s A n c (v.num * (u.den : Int) + u.num * (v.den : Int)) (k + k2 + 1) → By w' g (.bool s) (.slice A n c) → Below w.heap.size w w' → w.heap.size ≤ g → V 5 = .pointer (some ⟨g, 0, none⟩) → Q .normal (putAll ac [6, 7, 8, 9, 10, 11, 12, 13, 14, 15, 16, 5] V) w') :
    (Code.region id #[{ dst := some 6, op := Op.fieldAddr 34 (Operand.tmp 2) 0, type := 0, pos := "ref.go:81", after := #[], guard := none },
      { dst := some 7, op := Op.load 32 (Operand.tmp 6), type := 32, pos := "ref.go:81", after := #[{ on := 0, ground := Ground.data }], guard := none },
      { dst := some 8, op := Op.load 34 (Operand.tmp 3), type := 34, pos := "ref.go:81", after := #[], guard := none },
      { dst := some 9, op := Op.call { callee := Callee.value (Operand.func 106), args := #[Operand.tmp 8], argTypes := #[34] }, type := 32, pos := "ref.go:81", after := #[{ on := 2, ground := Ground.data }], guard := none },
      { dst := some 10, op := Op.call { callee := Callee.value (Operand.func 105), args := #[Operand.tmp 7, Operand.tmp 9], argTypes := #[32, 32] }, type := 32, pos := "ref.go:81", after := #[{ on := 1, ground := Ground.data }, { on := 3, ground := Ground.data }, { on := 3, ground := Ground.chain }], guard := none },
      { dst := some 11, op := Op.fieldAddr 34 (Operand.tmp 3) 0, type := 0, pos := "ref.go:81", after := #[], guard := none },
      { dst := some 12, op := Op.load 32 (Operand.tmp 11), type := 32, pos := "ref.go:81", after := #[{ on := 5, ground := Ground.data }], guard := none },
      { dst := some 13, op := Op.load 34 (Operand.tmp 2), type := 34, pos := "ref.go:81", after := #[], guard := none },
      { dst := some 14, op := Op.call { callee := Callee.value (Operand.func 106), args := #[Operand.tmp 13], argTypes := #[34] }, type := 32, pos := "ref.go:81", after := #[{ on := 7, ground := Ground.data }, { on := 4, ground := Ground.chain }], guard := none },
      { dst := some 15, op := Op.call { callee := Callee.value (Operand.func 105), args := #[Operand.tmp 12, Operand.tmp 14], argTypes := #[32, 32] }, type := 32, pos := "ref.go:81", after := #[{ on := 6, ground := Ground.data }, { on := 8, ground := Ground.data }, { on := 8, ground := Ground.chain }], guard := none },
      { dst := some 16, op := Op.call { callee := Callee.value (Operand.func 111), args := #[Operand.tmp 10, Operand.tmp 15], argTypes := #[32, 32] }, type := 32, pos := "ref.go:81", after := #[{ on := 4, ground := Ground.data }, { on := 9, ground := Ground.data }, { on := 9, ground := Ground.chain }], guard := none },
      { dst := some 5, op := Op.alloc 32, type := 0, pos := "ref.go:81", after := #[], guard := none },
      { dst := none, op := Op.store 32 (Operand.tmp 5) (Operand.tmp 16), type := 0, pos := "ref.go:81", after := #[{ on := 11, ground := Ground.data }, { on := 10, ground := Ground.data }, { on := 10, ground := Ground.chain }, { on := 0, ground := Ground.phase }, { on := 1, ground := Ground.phase }, { on := 2, ground := Ground.phase }, { on := 3, ground := Ground.phase }, { on := 4, ground := Ground.phase }, { on := 5, ground := Ground.phase }, { on := 6, ground := Ground.phase }, { on := 7, ground := Ground.phase }, { on := 8, ground := Ground.phase }, { on := 9, ground := Ground.phase }, { on := 10, ground := Ground.phase }, { on := 11, ground := Ground.phase }], guard := none }] true).wp Tryz.prog Q ac w := by
  have hnd : ([6, 7, 8, 9, 10, 11, 12, 13, 14, 15, 16, 5] : List Nat).Nodup := by decide
  have G : ∀ (sv : Nat → Value) (t : Nat), t ∈ ([6, 7, 8, 9, 10, 11, 12, 13, 14, 15, 16, 5] : List Nat) → t ≤ 16 → (putAll ac [6, 7, 8, 9, 10, 11, 12, 13, 14, 15, 16, 5] sv).eval (.tmp t) = sv t := fun sv t ht h => eval_putAll_mem (t := t) [6, 7, 8, 9, 10, 11, 12, 13, 14, 15, 16, 5] ac hnd ht (Nat.lt_of_le_of_lt h hsz)
  have E2 : ∀ sv : Nat → Value, (putAll ac [6, 7, 8, 9, 10, 11, 12, 13, 14, 15, 16, 5] sv).eval (.tmp 2) = Value.pointer (some ⟨g1, 0, none⟩) := fun sv => (eval_putAll_not (v := sv) [6, 7, 8, 9, 10, 11, 12, 13, 14, 15, 16, 5] ac (show 2 ∉ _ by decide)).trans e2
  have E3 : ∀ sv : Nat → Value, (putAll ac [6, 7, 8, 9, 10, 11, 12, 13, 14, 15, 16, 5] sv).eval (.tmp 3) = Value.pointer (some ⟨g2, 0, none⟩) := fun sv => (eval_putAll_not (v := sv) [6, 7, 8, 9, 10, 11, 12, 13, 14, 15, 16, 5] ac (show 3 ∉ _ by decide)).trans e3
  refine wp_region_flow 32 #[.bool false, .slice none 0 0] [6, 7, 8, 9, 10, 11, 12, 13, 14, 15, 16, 5] 11 12 5 ({ dst := some 5, op := Op.alloc 32, type := 0, pos := "ref.go:81", after := #[], guard := none }) ({ dst := none, op := Op.store 32 (Operand.tmp 5) (Operand.tmp 16), type := 0, pos := "ref.go:81", after := #[{ on := 11, ground := Ground.data }, { on := 10, ground := Ground.data }, { on := 10, ground := Ground.chain }, { on := 0, ground := Ground.phase }, { on := 1, ground := Ground.phase }, { on := 2, ground := Ground.phase }, { on := 3, ground := Ground.phase }, { on := 4, ground := Ground.phase }, { on := 5, ground := Ground.phase }, { on := 6, ground := Ground.phase }, { on := 7, ground := Ground.phase }, { on := 8, ground := Ground.phase }, { on := 9, ground := Ground.phase }, { on := 10, ground := Ground.phase }, { on := 11, ground := Ground.phase }], guard := none }) (F_radd s t A A' B B' n c n' c' m d m' d' k k2 g1 g2 v u) (fun cs w => ∃ s A n c, cs = #[.bool s, .slice A n c] ∧ RG w s A n c (v.num * (u.den : Int) + u.num * (v.den : Int)) (k + k2 + 1)) (by kernel_rfl) (by kernel_rfl) rfl hnd rfl rfl rfl rfl ?_ rfl rfl ⟨{ on := 11, ground := Ground.data }, by simp, rfl, rfl⟩ ?_ (free2 _ _ _ _) (fun e w' => run_allocR) ?_ ?_ ?_ ?_
  · intro i o h1 h2
    match i, h1 with
    | 0, h1 => cases h1; cases h2
    | 1, h1 => cases h1; cases h2
    | 2, h1 => cases h1; cases h2
    | 3, h1 => cases h1; cases h2
    | 4, h1 => cases h1; cases h2
    | 5, h1 => cases h1; cases h2
    | 6, h1 => cases h1; cases h2
    | 7, h1 => cases h1; cases h2
    | 8, h1 => cases h1; cases h2
    | 9, h1 => cases h1; cases h2
    | 10, h1 => cases h1; cases h2
    | 11, h1 => cases h1; cases h2
    | 12, h1 => cases h1; rfl
    | i + 13, h1 => cases h1
  · intro t
    unfold F_radd
    split <;> first | exact stays_eq _ | exact stays_q _ _ | exact stays_z _ _ | exact stays_r _ _ | exact stays_qe _ _ | exact stays_qs _ _ | exact stays_true
  · intro i o t sv w' ho hia hd J0 hf
    have X := X.below J0
    have Y := Y.below J0
    have XA := XA.below J0
    have XB := XB.below J0
    match i, ho with
    | 0, ho =>
      obtain rfl : { dst := some 6, op := Op.fieldAddr 34 (Operand.tmp 2) 0, type := 0, pos := "ref.go:81", after := #[], guard := none } = o := Option.some.inj ho
      cases hd
      refine wpOp_plain' (o := { dst := some 6, op := Op.fieldAddr 34 (Operand.tmp 2) 0, type := 0, pos := "ref.go:81", after := #[], guard := none }) rfl rfl ?_
      unfold Oper.wp
      rw [run_fa0 (E2 sv), Oper.upon_value]
      exact ⟨_, rfl, Below.refl _ _, rfl⟩
    | 1, ho =>
      obtain rfl : { dst := some 7, op := Op.load 32 (Operand.tmp 6), type := 32, pos := "ref.go:81", after := #[{ on := 0, ground := Ground.data }], guard := none } = o := Option.some.inj ho
      cases hd
      have f6 : sv 6 = Value.pointer (some ⟨g1, 0, none⟩) := hf { on := 0, ground := Ground.data } (by simp) rfl _ 6 rfl rfl (by decide)
      refine wpOp_plain' (o := { dst := some 7, op := Op.load 32 (Operand.tmp 6), type := 32, pos := "ref.go:81", after := #[{ on := 0, ground := Ground.data }], guard := none }) rfl rfl ?_
      unfold Oper.wp
      rw [run_load32 ((G sv 6 (by decide) (by decide)).trans f6) XA.c0 XA.c1, Oper.upon_value]
      exact ⟨_, rfl, Below.refl _ _, rfl⟩
    | 2, ho =>
      obtain rfl : { dst := some 8, op := Op.load 34 (Operand.tmp 3), type := 34, pos := "ref.go:81", after := #[], guard := none } = o := Option.some.inj ho
      cases hd
      refine wpOp_plain' (o := { dst := some 8, op := Op.load 34 (Operand.tmp 3), type := 34, pos := "ref.go:81", after := #[], guard := none }) rfl rfl ?_
      unfold Oper.wp
      rw [run_load3 (E3 sv) XB.c0 XB.c1 XB.c2, Oper.upon_value]
      exact ⟨_, rfl, Below.refl _ _, rfl⟩
    | 3, ho =>
      obtain rfl : { dst := some 9, op := Op.call { callee := Callee.value (Operand.func 106), args := #[Operand.tmp 8], argTypes := #[34] }, type := 32, pos := "ref.go:81", after := #[{ on := 2, ground := Ground.data }], guard := none } = o := Option.some.inj ho
      cases hd
      have f8 : sv 8 = Value.agg #[.bool t, .slice B m d, .slice B' m' d'] := hf { on := 2, ground := Ground.data } (by simp) rfl _ 8 rfl rfl (by decide)
      refine wpOp_plain' (o := { dst := some 9, op := Op.call { callee := Callee.value (Operand.func 106), args := #[Operand.tmp 8], argTypes := #[34] }, type := 32, pos := "ref.go:81", after := #[{ on := 2, ground := Ground.data }], guard := none }) rfl rfl ?_
      unfold Oper.wp
      rw [rc_gesso_gessoref03_den ((G sv 8 (by decide) (by decide)).trans f8) rfl, Oper.upon_enter]
      refine (rden3 Y).mono ?_
      rintro e w1 ⟨rfl, hh⟩
      exact ⟨_, rfl, hh, rfl⟩
    | 4, ho =>
      obtain rfl : { dst := some 10, op := Op.call { callee := Callee.value (Operand.func 105), args := #[Operand.tmp 7, Operand.tmp 9], argTypes := #[32, 32] }, type := 32, pos := "ref.go:81", after := #[{ on := 1, ground := Ground.data }, { on := 3, ground := Ground.data }, { on := 3, ground := Ground.chain }], guard := none } = o := Option.some.inj ho
      cases hd
      have f7 : sv 7 = Value.agg #[.bool s, .slice A n c] := hf { on := 1, ground := Ground.data } (by simp) rfl _ 7 rfl rfl (by decide)
      have f9 : sv 9 = Value.agg #[.bool false, .slice B' m' d'] := hf { on := 3, ground := Ground.data } (by simp) rfl _ 9 rfl rfl (by decide)
      refine wpOp_plain' (o := { dst := some 10, op := Op.call { callee := Callee.value (Operand.func 105), args := #[Operand.tmp 7, Operand.tmp 9], argTypes := #[32, 32] }, type := 32, pos := "ref.go:81", after := #[{ on := 1, ground := Ground.data }, { on := 3, ground := Ground.data }, { on := 3, ground := Ground.chain }], guard := none }) rfl rfl ?_
      unfold Oper.wp
      rw [rc_gesso_gessoref02_Mul ((G sv 7 (by decide) (by decide)).trans f7) ((G sv 9 (by decide) (by decide)).trans f9) rfl, Oper.upon_enter]
      refine (rmul2 X.pz Y.qz (by omega) (by omega)).mono ?_
      rintro e w1 ⟨s1, A1, n1, c1, rfl, hq, hh⟩
      exact ⟨_, rfl, hh, s1, A1, n1, c1, rfl, hq⟩
    | 5, ho =>
      obtain rfl : { dst := some 11, op := Op.fieldAddr 34 (Operand.tmp 3) 0, type := 0, pos := "ref.go:81", after := #[], guard := none } = o := Option.some.inj ho
      cases hd
      refine wpOp_plain' (o := { dst := some 11, op := Op.fieldAddr 34 (Operand.tmp 3) 0, type := 0, pos := "ref.go:81", after := #[], guard := none }) rfl rfl ?_
      unfold Oper.wp
      rw [run_fa0 (E3 sv), Oper.upon_value]
      exact ⟨_, rfl, Below.refl _ _, rfl⟩
    | 6, ho =>
      obtain rfl : { dst := some 12, op := Op.load 32 (Operand.tmp 11), type := 32, pos := "ref.go:81", after := #[{ on := 5, ground := Ground.data }], guard := none } = o := Option.some.inj ho
      cases hd
      have f11 : sv 11 = Value.pointer (some ⟨g2, 0, none⟩) := hf { on := 5, ground := Ground.data } (by simp) rfl _ 11 rfl rfl (by decide)
      refine wpOp_plain' (o := { dst := some 12, op := Op.load 32 (Operand.tmp 11), type := 32, pos := "ref.go:81", after := #[{ on := 5, ground := Ground.data }], guard := none }) rfl rfl ?_
      unfold Oper.wp
      rw [run_load32 ((G sv 11 (by decide) (by decide)).trans f11) XB.c0 XB.c1, Oper.upon_value]
      exact ⟨_, rfl, Below.refl _ _, rfl⟩
    | 7, ho =>
      obtain rfl : { dst := some 13, op := Op.load 34 (Operand.tmp 2), type := 34, pos := "ref.go:81", after := #[], guard := none } = o := Option.some.inj ho
      cases hd
      refine wpOp_plain' (o := { dst := some 13, op := Op.load 34 (Operand.tmp 2), type := 34, pos := "ref.go:81", after := #[], guard := none }) rfl rfl ?_
      unfold Oper.wp
      rw [run_load3 (E2 sv) XA.c0 XA.c1 XA.c2, Oper.upon_value]
      exact ⟨_, rfl, Below.refl _ _, rfl⟩
    | 8, ho =>
      obtain rfl : { dst := some 14, op := Op.call { callee := Callee.value (Operand.func 106), args := #[Operand.tmp 13], argTypes := #[34] }, type := 32, pos := "ref.go:81", after := #[{ on := 7, ground := Ground.data }, { on := 4, ground := Ground.chain }], guard := none } = o := Option.some.inj ho
      cases hd
      have f13 : sv 13 = Value.agg #[.bool s, .slice A n c, .slice A' n' c'] := hf { on := 7, ground := Ground.data } (by simp) rfl _ 13 rfl rfl (by decide)
      refine wpOp_plain' (o := { dst := some 14, op := Op.call { callee := Callee.value (Operand.func 106), args := #[Operand.tmp 13], argTypes := #[34] }, type := 32, pos := "ref.go:81", after := #[{ on := 7, ground := Ground.data }, { on := 4, ground := Ground.chain }], guard := none }) rfl rfl ?_
      unfold Oper.wp
      rw [rc_gesso_gessoref03_den ((G sv 13 (by decide) (by decide)).trans f13) rfl, Oper.upon_enter]
      refine (rden3 X).mono ?_
      rintro e w1 ⟨rfl, hh⟩
      exact ⟨_, rfl, hh, rfl⟩
    | 9, ho =>
      obtain rfl : { dst := some 15, op := Op.call { callee := Callee.value (Operand.func 105), args := #[Operand.tmp 12, Operand.tmp 14], argTypes := #[32, 32] }, type := 32, pos := "ref.go:81", after := #[{ on := 6, ground := Ground.data }, { on := 8, ground := Ground.data }, { on := 8, ground := Ground.chain }], guard := none } = o := Option.some.inj ho
      cases hd
      have f12 : sv 12 = Value.agg #[.bool t, .slice B m d] := hf { on := 6, ground := Ground.data } (by simp) rfl _ 12 rfl rfl (by decide)
      have f14 : sv 14 = Value.agg #[.bool false, .slice A' n' c'] := hf { on := 8, ground := Ground.data } (by simp) rfl _ 14 rfl rfl (by decide)
      refine wpOp_plain' (o := { dst := some 15, op := Op.call { callee := Callee.value (Operand.func 105), args := #[Operand.tmp 12, Operand.tmp 14], argTypes := #[32, 32] }, type := 32, pos := "ref.go:81", after := #[{ on := 6, ground := Ground.data }, { on := 8, ground := Ground.data }, { on := 8, ground := Ground.chain }], guard := none }) rfl rfl ?_
      unfold Oper.wp
      rw [rc_gesso_gessoref02_Mul ((G sv 12 (by decide) (by decide)).trans f12) ((G sv 14 (by decide) (by decide)).trans f14) rfl, Oper.upon_enter]
      refine (rmul2 Y.pz X.qz (by omega) (by omega)).mono ?_
      rintro e w1 ⟨s1, A1, n1, c1, rfl, hq, hh⟩
      exact ⟨_, rfl, hh, s1, A1, n1, c1, rfl, hq⟩
    | 10, ho =>
      obtain rfl : { dst := some 16, op := Op.call { callee := Callee.value (Operand.func 111), args := #[Operand.tmp 10, Operand.tmp 15], argTypes := #[32, 32] }, type := 32, pos := "ref.go:81", after := #[{ on := 4, ground := Ground.data }, { on := 9, ground := Ground.data }, { on := 9, ground := Ground.chain }], guard := none } = o := Option.some.inj ho
      cases hd
      have h10 : VRG (v.num * (u.den : Int)) (k + k2) (sv 10) w' := hf { on := 4, ground := Ground.data } (by simp) rfl _ 10 rfl rfl (by decide)
      obtain ⟨s10, A10, n10, c10, f10, q10⟩ := h10
      have h15 : VRG (u.num * (v.den : Int)) (k2 + k) (sv 15) w' := hf { on := 9, ground := Ground.data } (by simp) rfl _ 15 rfl rfl (by decide)
      obtain ⟨s15, A15, n15, c15, f15, q15⟩ := h15
      refine wpOp_plain' (o := { dst := some 16, op := Op.call { callee := Callee.value (Operand.func 111), args := #[Operand.tmp 10, Operand.tmp 15], argTypes := #[32, 32] }, type := 32, pos := "ref.go:81", after := #[{ on := 4, ground := Ground.data }, { on := 9, ground := Ground.data }, { on := 9, ground := Ground.chain }], guard := none }) rfl rfl ?_
      unfold Oper.wp
      rw [rc_gesso_gessoref02_Add ((G sv 10 (by decide) (by decide)).trans f10) ((G sv 15 (by decide) (by decide)).trans f15) rfl, Oper.upon_enter]
      refine (radd2 (k + k2 + 1) q10.rz q15.rz (by omega) (by omega) (by omega)).mono ?_
      rintro e w1 ⟨s1, A1, n1, c1, rfl, hq, hh⟩
      exact ⟨_, rfl, hh, s1, A1, n1, c1, rfl, hq⟩
    | 11, ho => exact absurd rfl hia
    | 12, ho => cases ho; cases hd
    | i + 13, ho => cases ho
  · intro sv w' g J0 p1 p3 hf
    have h1 : VRG (v.num * (u.den : Int) + u.num * (v.den : Int)) (k + k2 + 1) (sv 16) w' := hf { on := 10, ground := Ground.data } (by simp) rfl _ 16 rfl rfl (by decide)
    rw [← G sv 16 (by decide) (by decide)] at h1
    refine store_r (V := v.num * (u.den : Int) + u.num * (v.den : Int)) (k := k + k2 + 1) (ac := putAll ac [6, 7, 8, 9, 10, 11, 12, 13, 14, 15, 16, 5] sv) (z := Operand.tmp 16) ?_ ?_ ?_
    · exact (G sv 5 (by decide) (by decide)).trans p1
    · exact h1
    · exact p3
  · rintro cs w1 w2 ⟨s1, A1, n1, c1, h1, h2⟩ hb
    exact ⟨s1, A1, n1, c1, h1, h2.below hb⟩
  · rintro sv w' g cs J0 hF p1 p2 p3 ⟨s1, A1, n1, c1, h1, h2⟩
    subst h1
    exact hend sv w' g _ _ _ _ h2 p3.at_ J0 p2 p1 
set_option maxRecDepth 100000 in
set_option maxHeartbeats 8000000 in
theorem radd3 {w : World} {s t : Bool} {A A' B B' : Option Addr} {n c n' c' m d m' d' k k2 : Nat} {v u : Rat} (X : RQ w s A n c A' n' c' v k) (Y : RQ w t B m d B' m' d' u k2) (hk : k ≤ 10000) (hk2 : k2 ≤ 10000) :
    Calls Tryz.prog 23 #[.agg #[.bool s, .slice A n c, .slice A' n' c'], .agg #[.bool t, .slice B m d, .slice B' m' d']] w (GivesRQ w (v + u) (k + k2 + 1)) := by
  have HE : Hid (mkRat (v.num * (u.den : Int) + u.num * (v.den : Int)) (v.den * u.den) = v + u) := by
    show _ = _
    conv => rhs; rw [parts_eq v, parts_eq u, mk_add v.den_nz u.den_nz]
  have H0 : Hid (v.den * u.den ≠ 0) := Nat.mul_ne_zero v.den_nz u.den_nz
  have HJ : Hid (v.den * u.den < B32 ^ (k + k2 + 1)) := by
    show _ < _
    have h1 := Nat.mul_lt_mul'' X.qn.lt Y.qn.lt
    rw [← Nat.pow_add] at h1
    exact Nat.lt_of_lt_of_le h1 (Nat.pow_le_pow_right (by decide) (by omega))
  have hfd := fld02
  go_enter Tryz.func23, Tryz.ntmps23
  go_wp2_with fail
  generalize hW : (((w.alloc (Obj.cells #[Value.bool s, Value.slice A n c, Value.slice A' n' c'] 34)).alloc (Obj.cells #[Value.bool t, Value.slice B m d, Value.slice B' m' d'] 34)).alloc (Obj.cells #[Value.bool false, Value.slice none 0 0, Value.slice none 0 0] 34)) = W
  have hb : Below w.heap.size w W := by subst hW; exact ((((Below.refl _ _).alloc (Nat.le_refl _) _).alloc (by simp) _).alloc (by simp; omega) _)
  have XA : B3R W (w.heap.size) (Value.bool s) (Value.slice A n c) (Value.slice A' n' c') := by subst hW; exact ((B3R.new' _ _ _ _ _ rfl).alloc _).alloc _
  have XB : B3R W (w.heap.size + 1) (Value.bool t) (Value.slice B m d) (Value.slice B' m' d') := by subst hW; exact (B3R.new' _ _ _ _ _ (by simp)).alloc _
  have Z : B3R W (w.heap.size + 1 + 1) (Value.bool false) (Value.slice none 0 0) (Value.slice none 0 0) := by subst hW; exact B3R.new' _ _ _ _ _ (by simp)
  have hzW : W.heap.size = w.heap.size + 3 := by subst hW; simp
  clear hW
  replace X := X.below hb
  replace Y := Y.below hb
  refine radd_region (by simp) rfl rfl XA XB X Y hk hk2 ?_
  intro V w_x g_x s_x A_x n_x c_x x XP hh hg_x hv5
  simp only [putAll, Act.put, List.setIfInBounds_toArray, List.set_cons_zero, List.set_cons_succ, hv5]
  clear hv5
  replace X := X.below hh
  replace Y := Y.below hh
  replace XA := XA.below hh
  replace XB := XB.below hh
  replace Z := Z.below hh
  replace hb := bend hb hh
  go_upto_region 2 with (fail)
  replace X := X.below (Below.refl _ _).drew
  replace Y := Y.below (Below.refl _ _).drew
  replace x := x.below (Below.refl _ _).drew
  replace XA := XA.below (Below.refl _ _).drew
  replace XB := XB.below (Below.refl _ _).drew
  replace XP := XP.below (Below.refl _ _).drew
  replace Z := Z.below (Below.refl _ _).drew
  replace hb := hb.drew
  go_region_held3 (fun w' => w'.cell? ⟨w.heap.size, 0, none⟩ = some (.bool s) ∧ w'.cell? ⟨w.heap.size, 1, none⟩ = some (.slice A n c) ∧ w'.cell? ⟨w.heap.size, 2, none⟩ = some (.slice A' n' c') ∧ w'.cell? ⟨w.heap.size + 1, 0, none⟩ = some (.bool t) ∧ w'.cell? ⟨w.heap.size + 1, 1, none⟩ = some (.slice B m d) ∧ w'.cell? ⟨w.heap.size + 1, 2, none⟩ = some (.slice B' m' d') ∧ w'.cell? ⟨g_x, 0, none⟩ = some (.bool s_x) ∧ w'.cell? ⟨g_x, 1, none⟩ = some (.slice A_x n_x c_x))
    (first | with_reducible exact ⟨XA.c0, XA.c1, XA.c2, XB.c0, XB.c1, XB.c2, XP.c0, XP.c1⟩ | with_reducible exact ⟨(set3_cell _ _ _ _ _ _ _ (by omega)).trans XA.c0, (set3_cell _ _ _ _ _ _ _ (by omega)).trans XA.c1, (set3_cell _ _ _ _ _ _ _ (by omega)).trans XA.c2, (set3_cell _ _ _ _ _ _ _ (by omega)).trans XB.c0, (set3_cell _ _ _ _ _ _ _ (by omega)).trans XB.c1, (set3_cell _ _ _ _ _ _ _ (by omega)).trans XB.c2, (set3_cell _ _ _ _ _ _ _ (by omega)).trans XP.c0, (set3_cell _ _ _ _ _ _ _ (by omega)).trans XP.c1⟩)
    (first
    | (go_at_call 106; (with_reducible refine (rden3 X).mono ?_); rintro e w_z ⟨rfl, hh⟩
       try replace X := X.below hh
       try replace Y := Y.below hh
       try replace x := x.below hh
       try replace y := y.below hh
       try replace r := r.below hh
       try replace XA := XA.below hh
       try replace XB := XB.below hh
       try replace XP := XP.below hh
       try replace Z := Z.below hh
       replace hb := bend hb hh)
    | (go_at_call 106; (with_reducible refine (rden3 Y).mono ?_); rintro e w_z ⟨rfl, hh⟩
       try replace X := X.below hh
       try replace Y := Y.below hh
       try replace x := x.below hh
       try replace y := y.below hh
       try replace r := r.below hh
       try replace XA := XA.below hh
       try replace XB := XB.below hh
       try replace XP := XP.below hh
       try replace Z := Z.below hh
       replace hb := bend hb hh)
    | (go_at_call 108; (with_reducible refine (rmul_rn (k + k2 + 1) X.qn Y.qn (by omega) (by omega) HJ.out).mono ?_); rintro e w_y ⟨A_y, n_y, c_y, rfl, y, hh⟩
       try replace X := X.below hh
       try replace Y := Y.below hh
       try replace x := x.below hh
       try replace r := r.below hh
       try replace XA := XA.below hh
       try replace XB := XB.below hh
       try replace XP := XP.below hh
       try replace Z := Z.below hh
       replace hb := bend hb hh)
    | (go_at_call 99; (with_reducible refine (made_rq x y (by omega) H0.out).mono ?_); rintro e w_r ⟨s_r, A_r, n_r, c_r, B_r, m_r, d_r, rfl, r, hh⟩
       rw [HE.out] at r
       try replace X := X.below hh
       try replace Y := Y.below hh
       try replace x := x.below hh
       try replace y := y.below hh
       try replace XA := XA.below hh
       try replace XB := XB.below hh
       try replace XP := XP.below hh
       try replace Z := Z.below hh
       replace hb := bend hb hh
       have zf0 := Z.f0
       have zf1 := Z.f1
       have zf2 := Z.f2
       have z0 := Z.c0
       have z1 := Z.c1
       have z2 := Z.c2))
  go_wp2_with fail
  have Z2 := Z.set3 (.bool s_r) (.slice A_r n_r c_r) (.slice B_r m_r d_r)
  have g0 := Z2.c0
  have g1 := Z2.c1
  have g2 := Z2.c2
  refine bodyPost_ret (v := .agg #[.bool s_r, .slice A_r n_r c_r, .slice B_r m_r d_r]) (by simp [results, Tryz.results23, go_sem, g0, g1, g2]) rfl ?_
  exact ⟨s_r, A_r, n_r, c_r, B_r, m_r, d_r, rfl, r.set3 Z _ _ _, below_set3 hb (by omega) _ _ _⟩
end Go.Proofs.YtlkjkhpjhllapaaGreat
namespace Go.Proofs.YtlkjkhpjhllapaaGreat
open Go Go.RowKit
theorem rout_v {w : World} {A : Option Addr} {n c V k : Nat} (Y : RN w A n c V k) (hk : k ≤ 200000) :
    Calls Tryz.prog 123 #[.slice A n c] w fun e w' => ∃ A n c, e = .returned (.slice A n c) ∧ Rd .u64 w' A n (limbs B64 V) ∧ Below w.heap.size w w' := by
  refine (rout_any (limbs B32 V) A n c w Y.1 (lim_limbs B32_two _) (Nat.le_trans Y.2.2 (by omega))).mono ?_
  rintro e w' ⟨A1, n1, c1, rfl, p1, p2, p3, p4⟩
  rw [join32_limbs] at p3
  exact ⟨A1, n1, c1, rfl, p3.rd, p4⟩
def GivesOut3 (w : World) (v : Rat) (e : Ending) (w' : World) : Prop :=
  ∃ A n c B m d, e = .returned (.agg #[.bool (decide (v.num < 0)), .slice A n c, .slice B m d]) ∧ Rd .u64 w' A n (limbs B64 v.num.natAbs) ∧ Rd .u64 w' B m (limbs B64 v.den) ∧ Below w.heap.size w w'
set_option maxRecDepth 100000 in
set_option maxHeartbeats 8000000 in
theorem rout3 {w : World} {s : Bool} {A A' : Option Addr} {n c n' c' k : Nat} {v : Rat} (X : RQ w s A n c A' n' c' v k) (hk : k ≤ 100000) :
    Calls Tryz.prog 37 #[.agg #[.bool s, .slice A n c, .slice A' n' c']] w (GivesOut3 w v) := by
  have hs : s = decide (v.num < 0) := X.pg.1
  have HS := Lib.hid hs
  clear hs
  go_enter Tryz.func37, Tryz.ntmps37
  go_wp2_with fail
  generalize hW : ((w.alloc (Obj.cells #[Value.bool s, Value.slice A n c, Value.slice A' n' c'] 34)).alloc (Obj.cells #[Value.bool false, Value.slice none 0 0, Value.slice none 0 0] 26)) = W
  have hb : Below w.heap.size w W := by subst hW; exact (((Below.refl _ _).alloc (Nat.le_refl _) _).alloc (by simp) _)
  have XA : B3R W (w.heap.size) (Value.bool s) (Value.slice A n c) (Value.slice A' n' c') := by subst hW; exact (B3R.new' _ _ _ _ _ rfl).alloc _
  have Z : B3 W (w.heap.size + 1) (Value.bool false) (Value.slice none 0 0) (Value.slice none 0 0) := by subst hW; exact B3.new' _ _ _ _ _ (by simp)
  have hzW : W.heap.size = w.heap.size + 2 := by subst hW; simp
  clear hW
  replace X := X.below hb
  have xa0 := XA.c0
  have xa1 := XA.c1
  have xa2 := XA.c2
  go_upto_region 2 with (first
      | (go_at_call 123; (with_reducible refine (rout_v X.qn (by omega)).mono ?_); rintro e w_q ⟨A_q, n_q, c_q, rfl, q, hh⟩
         try replace X := X.below hh
         try replace p := p.below hh
         try replace XA := XA.below hh
         try replace Z := Z.below hh
         replace hb := bend hb hh
         have xa0 := XA.c0
         have xa1 := XA.c1
         have xa2 := XA.c2))
  have hq0 : ((n_q : Int) == 0) = false := by
    have h1 := q.1
    rw [limbs_pos B64_two v.den_nz] at h1
    simp at h1 ⊢
    omega
  have zf0 := Z.f0
  have zf1 := Z.f1
  have zf2 := Z.f2
  have z0 := Z.c0
  have z1 := Z.c1
  have z2 := Z.c2
  go_wp2_with (first
      | (go_at_call 62; (with_reducible refine (out2 X.pg (by omega)).mono ?_); rintro e w_p ⟨A_p, n_p, c_p, rfl, p, hh⟩
         try replace X := X.below hh
         try replace q := q.below hh
         try replace XA := XA.below hh
         try replace Z := Z.below hh
         replace hb := bend hb hh
         have xa0 := XA.c0
         have xa1 := XA.c1
         have xa2 := XA.c2
         have zf0 := Z.f0
         have zf1 := Z.f1
         have zf2 := Z.f2
         have z0 := Z.c0
         have z1 := Z.c1
         have z2 := Z.c2))
  have Z2 := Z.set3 (.bool s) (.slice A_p n_p c_p) (.slice A_q n_q c_q)
  have g0 := Z2.c0
  have g1 := Z2.c1
  have g2 := Z2.c2
  refine bodyPost_ret (v := .agg #[.bool s, .slice A_p n_p c_p, .slice A_q n_q c_q]) (by simp [results, Tryz.results37, go_sem, g0, g1, g2]) rfl ?_
  have ho := (((Only.refl (w.heap.size + 1) w_p).setCell 0 (Value.bool s)).setCell 1 (Value.slice A_p n_p c_p)).setCell 2 (Value.slice A_q n_q c_q)
  exact ⟨A_p, n_p, c_p, A_q, n_q, c_q, by rw [← HS.out], p.only (Z.offx p) ho, q.only (Z.offx q) ho, below_set3 hb (by omega) _ _ _⟩
set_option maxRecDepth 100000 in
set_option maxHeartbeats 4000000 in
theorem rats_no {w : World} {s t : Bool} {A A' B B' : Option Addr} {n c n' c' m d m' d' : Nat} {la lb lc ld : List Nat} (p : Rd .u64 w A n la) (q : Rd .u64 w A' n' lc) (p2 : Rd .u64 w B m lb) (q2 : Rd .u64 w B' m' ld) (hn : n ≤ maxLen) (hi : (s == t && decide (la = lb)) = false) :
    Calls Tryz.prog 36 #[.agg #[.bool s, .slice A n c, .slice A' n' c'], .agg #[.bool t, .slice B m d, .slice B' m' d']] w fun e w' => e = .returned (.bool false) ∧ Below w.heap.size w w' := by
  have HI := Lib.hid hi
  clear hi
  go_enter Tryz.func36, Tryz.ntmps36
  go_wp2_with fail
  generalize hW : ((w.alloc (Obj.cells #[Value.bool s, Value.slice A n c, Value.slice A' n' c'] 26)).alloc (Obj.cells #[Value.bool t, Value.slice B m d, Value.slice B' m' d'] 26)) = W
  have hb : Below w.heap.size w W := by subst hW; exact (((Below.refl _ _).alloc (Nat.le_refl _) _).alloc (by simp) _)
  have XA : B3 W (w.heap.size) (Value.bool s) (Value.slice A n c) (Value.slice A' n' c') := by subst hW; exact (B3.new' _ _ _ _ _ rfl).alloc _
  have XB : B3 W (w.heap.size + 1) (Value.bool t) (Value.slice B m d) (Value.slice B' m' d') := by subst hW; exact B3.new' _ _ _ _ _ (by simp)
  have hzW : W.heap.size = w.heap.size + 2 := by subst hW; simp
  clear hW
  replace p := p.below hb
  replace q := q.below hb
  replace p2 := p2.below hb
  replace q2 := q2.below hb
  have xa0 := XA.c0
  have xa1 := XA.c1
  have xa2 := XA.c2
  have xb0 := XB.c0
  have xb1 := XB.c1
  have xb2 := XB.c2
  go_wp2_with (first
      | (go_at_call 60; (with_reducible refine (ints_any s t la lb A B n c m d _ p p2 hn).mono ?_); rintro e w_z ⟨rfl, hh⟩
         rw [HI.out]
         try replace p := p.below hh
         try replace q := q.below hh
         try replace p2 := p2.below hh
         try replace q2 := q2.below hh
         try replace XA := XA.below hh
         try replace XB := XB.below hh
         replace hb := bend hb hh
         have xa0 := XA.c0
         have xa1 := XA.c1
         have xa2 := XA.c2
         have xb0 := XB.c0
         have xb1 := XB.c1
         have xb2 := XB.c2))
  go_ret
  exact ⟨rfl, hb⟩
set_option maxRecDepth 100000 in
set_option maxHeartbeats 4000000 in
theorem rats_yes {w : World} {s t : Bool} {A A' B B' : Option Addr} {n c n' c' m d m' d' : Nat} {la lb lc ld : List Nat} (p : Rd .u64 w A n la) (q : Rd .u64 w A' n' lc) (p2 : Rd .u64 w B m lb) (q2 : Rd .u64 w B' m' ld) (hn : n ≤ maxLen) (hn' : n' ≤ maxLen) (hi : (s == t && decide (la = lb)) = true) :
    Calls Tryz.prog 36 #[.agg #[.bool s, .slice A n c, .slice A' n' c'], .agg #[.bool t, .slice B m d, .slice B' m' d']] w fun e w' => e = .returned (.bool (decide (lc = ld))) ∧ Below w.heap.size w w' := by
  have HI := Lib.hid hi
  clear hi
  go_enter Tryz.func36, Tryz.ntmps36
  go_wp2_with fail
  generalize hW : ((w.alloc (Obj.cells #[Value.bool s, Value.slice A n c, Value.slice A' n' c'] 26)).alloc (Obj.cells #[Value.bool t, Value.slice B m d, Value.slice B' m' d'] 26)) = W
  have hb : Below w.heap.size w W := by subst hW; exact (((Below.refl _ _).alloc (Nat.le_refl _) _).alloc (by simp) _)
  have XA : B3 W (w.heap.size) (Value.bool s) (Value.slice A n c) (Value.slice A' n' c') := by subst hW; exact (B3.new' _ _ _ _ _ rfl).alloc _
  have XB : B3 W (w.heap.size + 1) (Value.bool t) (Value.slice B m d) (Value.slice B' m' d') := by subst hW; exact B3.new' _ _ _ _ _ (by simp)
  have hzW : W.heap.size = w.heap.size + 2 := by subst hW; simp
  clear hW
  replace p := p.below hb
  replace q := q.below hb
  replace p2 := p2.below hb
  replace q2 := q2.below hb
  have xa0 := XA.c0
  have xa1 := XA.c1
  have xa2 := XA.c2
  have xb0 := XB.c0
  have xb1 := XB.c1
  have xb2 := XB.c2
  go_wp2_with (first
      | (go_at_call 60; (with_reducible refine (ints_any s t la lb A B n c m d _ p p2 hn).mono ?_); rintro e w_z ⟨rfl, hh⟩
         rw [HI.out]
         try replace p := p.below hh
         try replace q := q.below hh
         try replace p2 := p2.below hh
         try replace q2 := q2.below hh
         try replace XA := XA.below hh
         try replace XB := XB.below hh
         replace hb := bend hb hh
         have xa0 := XA.c0
         have xa1 := XA.c1
         have xa2 := XA.c2
         have xb0 := XB.c0
         have xb1 := XB.c1
         have xb2 := XB.c2)
      | (go_at_call 122; (with_reducible refine (nats_any lc ld A' B' n' c' m' d' _ q q2 hn').mono ?_); rintro e w_z ⟨rfl, jj, rfl⟩
         replace hb := below_drawn hb jj))
  go_ret
  exact ⟨rfl, hb⟩
theorem rats_any {w : World} {s t : Bool} {A A' B B' : Option Addr} {n c n' c' m d m' d' : Nat} {la lb lc ld : List Nat} (p : Rd .u64 w A n la) (q : Rd .u64 w A' n' lc) (p2 : Rd .u64 w B m lb) (q2 : Rd .u64 w B' m' ld) (hn : n ≤ maxLen) (hn' : n' ≤ maxLen) (r : Bool) (hr : ((s == t && decide (la = lb)) && decide (lc = ld)) = r) :
    Calls Tryz.prog 36 #[.agg #[.bool s, .slice A n c, .slice A' n' c'], .agg #[.bool t, .slice B m d, .slice B' m' d']] w fun e w' => e = .returned (.bool r) ∧ Below w.heap.size w w' := by
  cases h : (s == t && decide (la = lb)) with
  | false =>
    rw [h, Bool.false_and] at hr
    subst hr
    exact rats_no p q p2 q2 hn h
  | true =>
    rw [h, Bool.true_and] at hr
    subst hr
    exact rats_yes p q p2 q2 hn hn' h
theorem same_eq (a : Bool) (l m : List Nat) : ((a == a && decide (l = l)) && decide (m = m)) = true := by simp
set_option maxRecDepth 100000 in
set_option maxHeartbeats 8000000 in
theorem same3 {w : World} {s t : Bool} {A A' B B' : Option Addr} {n c n' c' m d m' d' k k2 : Nat} {v u : Rat} (X : QG w s A n c A' n' c' v k) (Y : RQ w t B m d B' m' d' u k2) (he : v = u) (hk : k ≤ 100000) (hk2 : k2 ≤ 100000) :
    Calls Tryz.prog 20 #[.agg #[.bool s, .slice A n c, .slice A' n' c'], .agg #[.bool t, .slice B m d, .slice B' m' d']] w fun e w' => e = .returned (.bool true) ∧ Below w.heap.size w w' := by
  subst he
  have hs : s = decide (v.num < 0) := X.1.1
  subst hs
  have hn : n ≤ maxLen := by have := X.1.2.2.2; unfold maxLen; omega
  have hn' : n' ≤ maxLen := by have := X.2.2.2; unfold maxLen; omega
  have xp : Rd .u64 w A n (limbs B64 v.num.natAbs) := X.1.2.1
  have xq : Rd .u64 w A' n' (limbs B64 v.den) := X.2.1
  have HN := Lib.hid hn
  have HN' := Lib.hid hn'
  clear X hn hn'
  go_enter Tryz.func20, Tryz.ntmps20
  go_wp2_with fail
  generalize hW : ((w.alloc (Obj.cells #[Value.bool (decide (v.num < 0)), Value.slice A n c, Value.slice A' n' c'] 26)).alloc (Obj.cells #[Value.bool t, Value.slice B m d, Value.slice B' m' d'] 34)) = W
  have hb : Below w.heap.size w W := by subst hW; exact (((Below.refl _ _).alloc (Nat.le_refl _) _).alloc (by simp) _)
  have XA : B3 W (w.heap.size) (Value.bool (decide (v.num < 0))) (Value.slice A n c) (Value.slice A' n' c') := by subst hW; exact (B3.new' _ _ _ _ _ rfl).alloc _
  have XB : B3R W (w.heap.size + 1) (Value.bool t) (Value.slice B m d) (Value.slice B' m' d') := by subst hW; exact B3R.new' _ _ _ _ _ (by simp)
  have hzW : W.heap.size = w.heap.size + 2 := by subst hW; simp
  clear hW
  replace xp := xp.below hb
  replace xq := xq.below hb
  replace Y := Y.below hb
  replace xp := xp.below (Below.refl _ _).drew
  replace xq := xq.below (Below.refl _ _).drew
  replace Y := Y.below (Below.refl _ _).drew
  replace XA := XA.below (Below.refl _ _).drew
  replace XB := XB.below (Below.refl _ _).drew
  replace hb := hb.drew
  go_region_held3 (fun w' => w'.cell? ⟨w.heap.size, 0, none⟩ = some (.bool (decide (v.num < 0))) ∧ w'.cell? ⟨w.heap.size, 1, none⟩ = some (.slice A n c) ∧ w'.cell? ⟨w.heap.size, 2, none⟩ = some (.slice A' n' c') ∧ w'.cell? ⟨w.heap.size + 1, 0, none⟩ = some (.bool t) ∧ w'.cell? ⟨w.heap.size + 1, 1, none⟩ = some (.slice B m d) ∧ w'.cell? ⟨w.heap.size + 1, 2, none⟩ = some (.slice B' m' d'))
    (first | with_reducible exact ⟨XA.c0, XA.c1, XA.c2, XB.c0, XB.c1, XB.c2⟩)
    (first
    | (go_at_call 37; (with_reducible refine (rout3 Y hk2).mono ?_); rintro e w_y ⟨A_p, n_p, c_p, A_q, n_q, c_q, rfl, yp, yq, hh⟩
       try replace xp := xp.below hh
       try replace xq := xq.below hh
       try replace Y := Y.below hh
       try replace XA := XA.below hh
       try replace XB := XB.below hh
       replace hb := bend hb hh)
    | (go_at_call 36; (with_reducible refine (rats_any xp xq yp yq HN.out HN'.out true (same_eq _ _ _)).mono ?_); rintro e w_z ⟨rfl, hh⟩
       try replace xp := xp.below hh
       try replace xq := xq.below hh
       try replace Y := Y.below hh
       try replace yp := yp.below hh
       try replace yq := yq.below hh
       try replace XA := XA.below hh
       try replace XB := XB.below hh
       replace hb := bend hb hh))
  go_wp2_with fail
  go_ret
  exact ⟨rfl, hb⟩
end Go.Proofs.YtlkjkhpjhllapaaGreat
namespace Go.Proofs.YtlkjkhpjhllapaaGreat
open Go Go.RowKit
theorem ZG.nil {w : World} (k : Nat) : ZG w false none 0 0 0 k := ⟨rfl, by rw [show ((0 : Int).natAbs) = 0 from rfl, limbs_zero]; exact Rd.nil, Nat.le_refl _, Nat.zero_le _⟩
theorem RG.nil {w : World} (k : Nat) : RG w false none 0 0 0 k := ⟨rfl, RN.zero w k⟩
end Go.Proofs.YtlkjkhpjhllapaaGreat
namespace Go.Proofs.YtlkjkhpjhllapaaGreat
open Go Go.RowKit
theorem RG.of_f {w : World} {A : Option Addr} {n c V k : Nat} (h : RN w A n c V k) : RG w false A n c (iv false V) k := RG.of_made (neg := false) h rfl
theorem int_parts (p : Int) : (Rat.divInt p 1).num = p ∧ (Rat.divInt p 1).den = 1 := by rw [int1]; exact ⟨rfl, rfl⟩
theorem fldTwo (s t : Bool) (A B : Option Addr) (n c m d : Nat) (w : World) : (Instr.field 225 (.agg #[.bool s, .slice A n c, .bool t, .slice B m d]) 0).run Tryz.prog w = .ok (.agg #[.bool s, .slice A n c]) w := by kernel_rfl
set_option maxRecDepth 100000 in
set_option maxHeartbeats 4000000 in
theorem rwhole3 {w : World} {s : Bool} {A : Option Addr} {n c k : Nat} {p : Int} (X : RG w s A n c p k) (hk : 1 ≤ k) :
    Calls Tryz.prog 145 #[.agg #[.bool s, .slice A n c]] w (GivesRQ w (Rat.divInt p 1) k) := by
  go_enter Tryz.func145, Tryz.ntmps145
  go_wp2_with fail
  generalize hW : ((w.alloc (Obj.cells #[Value.bool s, Value.slice A n c] 32)).alloc (Obj.cells #[Value.bool false, Value.slice none 0 0, Value.slice none 0 0] 34)) = W
  have hb : Below w.heap.size w W := by subst hW; exact (((Below.refl _ _).alloc (Nat.le_refl _) _).alloc (by simp) _)
  have XA : By W (w.heap.size) (Value.bool s) (Value.slice A n c) := by subst hW; exact (By.new' _ _ _ _ rfl).alloc _
  have Z : B3R W (w.heap.size + 1) (Value.bool false) (Value.slice none 0 0) (Value.slice none 0 0) := by subst hW; exact B3R.new' _ _ _ _ _ (by simp)
  have hzW : W.heap.size = w.heap.size + 2 := by subst hW; simp
  clear hW
  replace X := X.below hb
  replace X := X.below (Below.refl _ _).drew
  replace XA := XA.below (Below.refl _ _).drew
  replace Z := Z.below (Below.refl _ _).drew
  replace hb := hb.drew
  go_region_held3 (fun w' => w'.cell? ⟨w.heap.size, 0, none⟩ = some (.bool s) ∧ w'.cell? ⟨w.heap.size, 1, none⟩ = some (.slice A n c))
    (first | with_reducible exact ⟨XA.c0, XA.c1⟩ | with_reducible exact ⟨(set3_cell _ _ _ _ _ _ _ (by omega)).trans XA.c0, (set3_cell _ _ _ _ _ _ _ (by omega)).trans XA.c1⟩)
    (first
    | (go_at_call 98; (with_reducible refine (rof_rn _).mono ?_); rintro e w_o ⟨A_o, n_o, c_o, rfl, o, hh⟩
       try replace X := X.below hh
       try replace XA := XA.below hh
       try replace Z := Z.below hh
       replace hb := bend hb hh
       have zf0 := Z.f0
       have zf1 := Z.f1
       have zf2 := Z.f2
       have z0 := Z.c0
       have z1 := Z.c1
       have z2 := Z.c2))
  go_wp2_with fail
  have Z2 := Z.set3 (.bool s) (.slice A n c) (.slice A_o n_o c_o)
  have g0 := Z2.c0
  have g1 := Z2.c1
  have g2 := Z2.c2
  refine bodyPost_ret (v := .agg #[.bool s, .slice A n c, .slice A_o n_o c_o]) (by simp [results, Tryz.results145, go_sem, g0, g1, g2]) rfl ?_
  have hr : RQ w_o s A n c A_o n_o c_o (Rat.divInt p 1) k := ⟨by rw [(int_parts p).1]; exact X, by rw [(int_parts p).2]; exact o.more hk⟩
  exact ⟨s, _, _, _, _, _, _, rfl, hr.set3 Z _ _ _, below_set3 hb (by omega) _ _ _⟩
set_option maxRecDepth 100000 in
set_option maxHeartbeats 4000000 in
theorem rfloor3 {w : World} {s : Bool} {A A' : Option Addr} {n c n' c' k : Nat} {v : Rat} (X : RQ w s A n c A' n' c' v k) (hk : k ≤ 10000) (hk2 : 2 ≤ k) :
    Calls Tryz.prog 149 #[.agg #[.bool s, .slice A n c, .slice A' n' c']] w (GivesRZ w v.floor (k + 1)) := by
  have HE : Hid (v.num.fdiv (v.den : Int) = v.floor) := by
    show _ = _
    conv => rhs; rw [parts_eq v]
    exact (mk_floor v.den_nz).symm
  have H0 : Hid ((v.den : Int) ≠ 0) := by show (v.den : Int) ≠ 0; have := v.den_nz; omega
  have hfd := fldTwo
  go_enter Tryz.func149, Tryz.ntmps149
  go_wp2_with fail
  generalize hW : ((w.alloc (Obj.cells #[Value.bool s, Value.slice A n c, Value.slice A' n' c'] 34)).alloc (Obj.cells #[Value.bool false, Value.slice none 0 0] 32)) = W
  have hb : Below w.heap.size w W := by subst hW; exact (((Below.refl _ _).alloc (Nat.le_refl _) _).alloc (by simp) _)
  have XA : B3R W (w.heap.size) (Value.bool s) (Value.slice A n c) (Value.slice A' n' c') := by subst hW; exact (B3R.new' _ _ _ _ _ rfl).alloc _
  have Z : By W (w.heap.size + 1) (Value.bool false) (Value.slice none 0 0) := by subst hW; exact By.new' _ _ _ _ (by simp)
  have hzW : W.heap.size = w.heap.size + 2 := by subst hW; simp
  clear hW
  replace X := X.below hb
  replace X := X.below (Below.refl _ _).drew
  replace XA := XA.below (Below.refl _ _).drew
  replace Z := Z.below (Below.refl _ _).drew
  replace hb := hb.drew
  go_region_held3 (fun w' => w'.cell? ⟨w.heap.size, 0, none⟩ = some (.bool s) ∧ w'.cell? ⟨w.heap.size, 1, none⟩ = some (.slice A n c) ∧ w'.cell? ⟨w.heap.size, 2, none⟩ = some (.slice A' n' c'))
    (first | with_reducible exact ⟨XA.c0, XA.c1, XA.c2⟩ | with_reducible exact ⟨(set2_cell _ _ _ _ _ _ (by omega)).trans XA.c0, (set2_cell _ _ _ _ _ _ (by omega)).trans XA.c1, (set2_cell _ _ _ _ _ _ (by omega)).trans XA.c2⟩)
    (first
    | (go_at_call 106; (with_reducible refine (rden3 X).mono ?_); rintro e w_z ⟨rfl, hh⟩
       try replace X := X.below hh
       try replace q := q.below hh
       try replace r := r.below hh
       try replace XA := XA.below hh
       try replace Z := Z.below hh
       replace hb := bend hb hh)
    | (go_at_call 197; (with_reducible refine (rdm2 X.pz X.qz H0.out (by omega) (by omega) hk2).mono ?_); rintro e w_q ⟨s_q, A_q, n_q, c_q, s_r, A_r, n_r, c_r, rfl, q, r, hh⟩
       rw [HE.out] at q
       try replace X := X.below hh
       try replace XA := XA.below hh
       try replace Z := Z.below hh
       replace hb := bend hb hh
       have z0 := Z.c0
       have z1 := Z.c1
       have zf0 := Z.f0
       have zf1 := Z.f1))
  go_wp2_with fail
  have Z2 := Z.set2 (.bool s_q) (.slice A_q n_q c_q)
  have g0 := Z2.c0
  have g1 := Z2.c1
  refine bodyPost_ret (v := .agg #[.bool s_q, .slice A_q n_q c_q]) (by simp [results, Tryz.results149, go_sem, g0, g1]) rfl ?_
  exact ⟨s_q, A_q, n_q, c_q, rfl, q.set2 Z _ _, below_set2' hb (by omega) _ _⟩
end Go.Proofs.YtlkjkhpjhllapaaGreat
