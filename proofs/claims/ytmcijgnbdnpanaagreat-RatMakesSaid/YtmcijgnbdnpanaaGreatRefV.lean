/- gessoref03 by value: Whole, Floor, Ceil, Of. -/
import Derived.Test.YtmcijgnbdnpanaaGreatRefU
import Derived.Test.YtmcijgnbdnpanaaGreatZedTx
namespace Go.Proofs.YtmcijgnbdnpanaaGreat
open Go Go.RowKit

theorem RG.of_f {w : World} {A : Option Addr} {n c V k : Nat} (h : RN w A n c V k) : RG w false A n c (iv false V) k := RG.of_made (neg := false) h rfl
theorem RG.of_t {w : World} {A : Option Addr} {n c V k : Nat} (h : RN w A n c V k) : RG w (decide (0 < n)) A n c (iv true V) k := RG.of_made (neg := true) h rfl
theorem int_parts (p : Int) : (Rat.divInt p 1).num = p ∧ (Rat.divInt p 1).den = 1 := by rw [int1]; exact ⟨rfl, rfl⟩
theorem fldTwo (s t : Bool) (A B : Option Addr) (n c m d : Nat) (w : World) : (Instr.field 117 (.agg #[.bool s, .slice A n c, .bool t, .slice B m d]) 0).run Tryz.prog w = .ok (.agg #[.bool s, .slice A n c]) w := by kernel_rfl

set_option maxRecDepth 100000 in
set_option maxHeartbeats 4000000 in
theorem rwhole3 {w : World} {s : Bool} {A : Option Addr} {n c k : Nat} {p : Int} (X : RG w s A n c p k) (hk : 1 ≤ k) :
    Calls Tryz.prog 37 #[.agg #[.bool s, .slice A n c]] w (GivesRQ w (Rat.divInt p 1) k) := by
  go_enter Tryz.func37, Tryz.ntmps37
  go_wp2_with fail
  generalize hW : ((w.alloc (Obj.cells #[Value.bool s, Value.slice A n c] 32)).alloc (Obj.cells #[Value.bool false, Value.slice none 0 0, Value.slice none 0 0] 34)) = W
  have hb : Below w.heap.size w W := by subst hW; exact (((Below.refl _ _).alloc (Nat.le_refl _) _).alloc (by simp) _)
  have XA : By W (w.heap.size) (Value.bool s) (Value.slice A n c) := by subst hW; exact (By.new' _ _ _ _ rfl).alloc _
  have Z : B3R W (w.heap.size + 1) (Value.bool false) (Value.slice none 0 0) (Value.slice none 0 0) := by subst hW; exact B3R.new' _ _ _ _ _ (by simp)
  have hzW : W.heap.size = w.heap.size + 2 := by subst hW; simp
  clear hW
  replace X := X.below hb
  replace X := X.below (Below.refl _ _).drew
  replace XA := XA.below (Below.refl _ _).drew
  replace Z := Z.below (Below.refl _ _).drew
  replace hb := hb.drew
  go_region_held3 (fun w' => w'.cell? ⟨w.heap.size, 0, none⟩ = some (.bool s) ∧ w'.cell? ⟨w.heap.size, 1, none⟩ = some (.slice A n c))
    (first | with_reducible exact ⟨XA.c0, XA.c1⟩ | with_reducible exact ⟨(set3_cell _ _ _ _ _ _ _ (by omega)).trans XA.c0, (set3_cell _ _ _ _ _ _ _ (by omega)).trans XA.c1⟩)
    (first
    | (go_at_call 71; (with_reducible refine (rof_rn _).mono ?_); rintro e w_o ⟨A_o, n_o, c_o, rfl, o, hh⟩
       try replace X := X.below hh
       try replace XA := XA.below hh
       try replace Z := Z.below hh
       replace hb := bend hb hh
       have zf0 := Z.f0
       have zf1 := Z.f1
       have zf2 := Z.f2
       have z0 := Z.c0
       have z1 := Z.c1
       have z2 := Z.c2))
  go_wp2_with fail
  have Z2 := Z.set3 (.bool s) (.slice A n c) (.slice A_o n_o c_o)
  have g0 := Z2.c0
  have g1 := Z2.c1
  have g2 := Z2.c2
  refine bodyPost_ret (v := .agg #[.bool s, .slice A n c, .slice A_o n_o c_o]) (by simp [results, Tryz.results37, go_sem, g0, g1, g2]) rfl ?_
  have hr : RQ w_o s A n c A_o n_o c_o (Rat.divInt p 1) k := ⟨by rw [(int_parts p).1]; exact X, by rw [(int_parts p).2]; exact o.more hk⟩
  exact ⟨s, _, _, _, _, _, _, rfl, hr.set3 Z _ _ _, below_set3 hb (by omega) _ _ _⟩

set_option maxRecDepth 100000 in
set_option maxHeartbeats 4000000 in
theorem rfloor3 {w : World} {s : Bool} {A A' : Option Addr} {n c n' c' k : Nat} {v : Rat} (X : RQ w s A n c A' n' c' v k) (hk : k ≤ 10000) (hk2 : 2 ≤ k) :
    Calls Tryz.prog 41 #[.agg #[.bool s, .slice A n c, .slice A' n' c']] w (GivesRZ w v.floor (k + 1)) := by
  have HE : Hid (v.num.fdiv (v.den : Int) = v.floor) := by
    show _ = _
    conv => rhs; rw [parts_eq v]
    exact (mk_floor v.den_nz).symm
  have H0 : Hid ((v.den : Int) ≠ 0) := by show (v.den : Int) ≠ 0; have := v.den_nz; omega
  have hfd := fldTwo
  go_enter Tryz.func41, Tryz.ntmps41
  go_wp2_with fail
  generalize hW : ((w.alloc (Obj.cells #[Value.bool s, Value.slice A n c, Value.slice A' n' c'] 34)).alloc (Obj.cells #[Value.bool false, Value.slice none 0 0] 32)) = W
  have hb : Below w.heap.size w W := by subst hW; exact (((Below.refl _ _).alloc (Nat.le_refl _) _).alloc (by simp) _)
  have XA : B3R W (w.heap.size) (Value.bool s) (Value.slice A n c) (Value.slice A' n' c') := by subst hW; exact (B3R.new' _ _ _ _ _ rfl).alloc _
  have Z : By W (w.heap.size + 1) (Value.bool false) (Value.slice none 0 0) := by subst hW; exact By.new' _ _ _ _ (by simp)
  have hzW : W.heap.size = w.heap.size + 2 := by subst hW; simp
  clear hW
  replace X := X.below hb
  replace X := X.below (Below.refl _ _).drew
  replace XA := XA.below (Below.refl _ _).drew
  replace Z := Z.below (Below.refl _ _).drew
  replace hb := hb.drew
  go_region_held3 (fun w' => w'.cell? ⟨w.heap.size, 0, none⟩ = some (.bool s) ∧ w'.cell? ⟨w.heap.size, 1, none⟩ = some (.slice A n c) ∧ w'.cell? ⟨w.heap.size, 2, none⟩ = some (.slice A' n' c'))
    (first | with_reducible exact ⟨XA.c0, XA.c1, XA.c2⟩ | with_reducible exact ⟨(set2_cell _ _ _ _ _ _ (by omega)).trans XA.c0, (set2_cell _ _ _ _ _ _ (by omega)).trans XA.c1, (set2_cell _ _ _ _ _ _ (by omega)).trans XA.c2⟩)
    (first
    | (go_at_call 77; (with_reducible refine (rden3 X).mono ?_); rintro e w_z ⟨rfl, hh⟩
       try replace X := X.below hh
       try replace q := q.below hh
       try replace r := r.below hh
       try replace XA := XA.below hh
       try replace Z := Z.below hh
       replace hb := bend hb hh)
    | (go_at_call 99; (with_reducible refine (rdm2 X.pz X.qz H0.out (by omega) (by omega) hk2).mono ?_); rintro e w_q ⟨s_q, A_q, n_q, c_q, s_r, A_r, n_r, c_r, rfl, q, r, hh⟩
       rw [HE.out] at q
       try replace X := X.below hh
       try replace XA := XA.below hh
       try replace Z := Z.below hh
       replace hb := bend hb hh
       have z0 := Z.c0
       have z1 := Z.c1
       have zf0 := Z.f0
       have zf1 := Z.f1))
  go_wp2_with fail
  have Z2 := Z.set2 (.bool s_q) (.slice A_q n_q c_q)
  have g0 := Z2.c0
  have g1 := Z2.c1
  refine bodyPost_ret (v := .agg #[.bool s_q, .slice A_q n_q c_q]) (by simp [results, Tryz.results41, go_sem, g0, g1]) rfl ?_
  exact ⟨s_q, A_q, n_q, c_q, rfl, q.set2 Z _ _, below_set2' hb (by omega) _ _⟩

set_option maxRecDepth 100000 in
set_option maxHeartbeats 4000000 in
theorem rceil3 {w : World} {s : Bool} {A A' : Option Addr} {n c n' c' k : Nat} {v : Rat} (X : RQ w s A n c A' n' c' v k) (hk : k ≤ 10000) (hk2 : 2 ≤ k) :
    Calls Tryz.prog 43 #[.agg #[.bool s, .slice A n c, .slice A' n' c']] w (GivesRZ w v.ceil (k + 1)) := by
  have HE : Hid (-((-v).floor) = v.ceil) := (Rat.ceil_eq_neg_floor_neg v).symm
  go_enter Tryz.func43, Tryz.ntmps43
  go_wp2_with fail
  generalize hW : ((w.alloc (Obj.cells #[Value.bool s, Value.slice A n c, Value.slice A' n' c'] 34)).alloc (Obj.cells #[Value.bool false, Value.slice none 0 0] 32)) = W
  have hb : Below w.heap.size w W := by subst hW; exact (((Below.refl _ _).alloc (Nat.le_refl _) _).alloc (by simp) _)
  have XA : B3R W (w.heap.size) (Value.bool s) (Value.slice A n c) (Value.slice A' n' c') := by subst hW; exact (B3R.new' _ _ _ _ _ rfl).alloc _
  have Z : By W (w.heap.size + 1) (Value.bool false) (Value.slice none 0 0) := by subst hW; exact By.new' _ _ _ _ (by simp)
  have hzW : W.heap.size = w.heap.size + 2 := by subst hW; simp
  clear hW
  replace X := X.below hb
  have xa0 := XA.c0
  have xa1 := XA.c1
  have xa2 := XA.c2
  go_wp2_with (first
      | (go_at_call 28; (with_reducible refine (rminus3 X).mono ?_); rintro e w_x ⟨s_x, A_x, n_x, c_x, B_x, m_x, d_x, rfl, x, hh⟩
         try replace X := X.below hh
         try replace y := y.below hh
         try replace q := q.below hh
         try replace XA := XA.below hh
         try replace Z := Z.below hh
         replace hb := bend hb hh)
      | (go_at_call 41; (with_reducible refine (rfloor3 x hk hk2).mono ?_); rintro e w_y ⟨s_y, A_y, n_y, c_y, rfl, y, hh⟩
         try replace X := X.below hh
         try replace x := x.below hh
         try replace q := q.below hh
         try replace XA := XA.below hh
         try replace Z := Z.below hh
         replace hb := bend hb hh)
      | (go_at_call 78; (with_reducible refine (rminus2 y.rz).mono ?_); rintro e w_q ⟨s_q, A_q, n_q, c_q, rfl, q, hh⟩
         rw [HE.out] at q
         try replace X := X.below hh
         try replace x := x.below hh
         try replace y := y.below hh
         try replace XA := XA.below hh
         try replace Z := Z.below hh
         replace hb := bend hb hh
         have z0 := Z.c0
         have z1 := Z.c1
         have zf0 := Z.f0
         have zf1 := Z.f1))
  have Z2 := Z.set2 (.bool s_q) (.slice A_q n_q c_q)
  have g0 := Z2.c0
  have g1 := Z2.c1
  refine bodyPost_ret (v := .agg #[.bool s_q, .slice A_q n_q c_q]) (by simp [results, Tryz.results43, go_sem, g0, g1]) rfl ?_
  exact ⟨s_q, A_q, n_q, c_q, rfl, q.set2 Z _ _, below_set2' hb (by omega) _ _⟩

set_option maxRecDepth 100000 in
set_option maxHeartbeats 8000000 in
theorem rof3 (p q : Int) (hp1 : -9223372036854775808 ≤ p) (hp2 : p < 9223372036854775808) (hq1 : -9223372036854775808 ≤ q) (hq2 : q < 9223372036854775808) (h0 : ((q : Int) == 0) = false) (w : World) :
    Calls Tryz.prog 45 #[.int .i64 p, .int .i64 q] w (GivesRQ w (Rat.divInt p q) 2) := by
  have hq0 : q ≠ 0 := by simpa using h0
  have HQ0 : Hid ((q : Int).natAbs ≠ 0) := by show (q : Int).natAbs ≠ 0; omega
  have H1 := Lib.hid hp1
  have H2 := Lib.hid hp2
  have H3 := Lib.hid hq1
  have H4 := Lib.hid hq2
  clear hq0
  clear hp1 hp2 hq1 hq2
  go_enter Tryz.func45, Tryz.ntmps45
  go_upto_region 1 with (fail)
  generalize hW : (w.alloc (Obj.cells #[Value.bool false, Value.slice none 0 0, Value.slice none 0 0] 34)) = W
  have hb : Below w.heap.size w W := by subst hW; exact ((Below.refl _ _).alloc (Nat.le_refl _) _)
  have Z : B3R W (w.heap.size) (Value.bool false) (Value.slice none 0 0) (Value.slice none 0 0) := by subst hW; exact B3R.new' _ _ _ _ _ rfl
  have hzW : W.heap.size = w.heap.size + 1 := by subst hW; simp
  clear hW
  go_upto_region 4 with (first
      | (go_at_call 100; (with_reducible refine (rof2_any p H1.out H2.out _).mono ?_); rintro e w_x ⟨s_x, A_x, n_x, c_x, rfl, x, hh⟩
         try replace y := y.below hh
         try replace r := r.below hh
         try replace XP := XP.below hh
         try replace XQ := XQ.below hh
         try replace Z := Z.below hh
         replace hb := bend hb hh)
      | (go_at_call 100; (with_reducible refine (rof2_any q H3.out H4.out _).mono ?_); rintro e w_y ⟨s_y, A_y, n_y, c_y, rfl, y, hh⟩
         try replace x := x.below hh
         try replace r := r.below hh
         try replace XP := XP.below hh
         try replace XQ := XQ.below hh
         try replace Z := Z.below hh
         replace hb := bend hb hh))
  generalize hW : ((w_y.alloc (Obj.cells #[Value.bool s_x, Value.slice A_x n_x c_x] 32)).alloc (Obj.cells #[Value.bool s_y, Value.slice A_y n_y c_y] 32)) = W2
  have hh : Below w_y.heap.size w_y W2 := by subst hW; exact (((Below.refl _ _).alloc (Nat.le_refl _) _).alloc (by simp) _)
  have XP : By W2 (w_y.heap.size) (Value.bool s_x) (Value.slice A_x n_x c_x) := by subst hW; exact (By.new' _ _ _ _ rfl).alloc _
  have XQ : By W2 (w_y.heap.size + 1) (Value.bool s_y) (Value.slice A_y n_y c_y) := by subst hW; exact By.new' _ _ _ _ (by simp)
  have hzW2 : W2.heap.size = w_y.heap.size + 2 := by subst hW; simp
  clear hW
  try replace x := x.below hh
  try replace y := y.below hh
  try replace Z := Z.below hh
  replace hb := bend hb hh
  have hsx : s_x = decide (p < 0) := x.1
  have hsy : s_y = decide (q < 0) := y.1
  have HE : Hid (mkRat (iv (s_x != s_y) p.natAbs) (q : Int).natAbs = Rat.divInt p q) := by
    show _ = _
    rw [← div_mk, hsx, hsy, iv_canon]
    first | rfl | rw [iv_canon]
  have hnx := rn_pos x.rn
  have HNX := Lib.hid hnx
  have xr := x.rn
  have yr := y.rn
  clear hsx hsy hnx x y
  cases s_x <;> cases s_y
  · have xp0 := XP.c0
    have xp1 := XP.c1
    have xq0 := XQ.c0
    have xq1 := XQ.c1
    have zf0 := Z.f0
    have zf1 := Z.f1
    have zf2 := Z.f2
    have z0 := Z.c0
    have z1 := Z.c1
    have z2 := Z.c2
    have HE2 : Hid (mkRat (iv false p.natAbs) (q : Int).natAbs = Rat.divInt p q) := HE
    go_wp2_with (first
      | (go_at_call 72; (with_reducible refine (made_rq (RG.of_f xr) yr (by decide) HQ0.out).mono ?_); rintro e w_r ⟨s_r, A_r, n_r, c_r, B_r, m_r, d_r, rfl, r, hh⟩
         rw [HE2.out] at r
         try replace Z := Z.below hh
         replace hb := bend hb hh
         have zf0 := Z.f0
         have zf1 := Z.f1
         have zf2 := Z.f2
         have z0 := Z.c0
         have z1 := Z.c1
         have z2 := Z.c2))
    have Z2 := Z.set3 (.bool s_r) (.slice A_r n_r c_r) (.slice B_r m_r d_r)
    have g0 := Z2.c0
    have g1 := Z2.c1
    have g2 := Z2.c2
    refine bodyPost_ret (v := .agg #[.bool s_r, .slice A_r n_r c_r, .slice B_r m_r d_r]) (by simp [results, Tryz.results45, go_sem, g0, g1, g2]) rfl ?_
    exact ⟨s_r, A_r, n_r, c_r, B_r, m_r, d_r, rfl, r.set3 Z _ _ _, below_set3 hb (by omega) _ _ _⟩
  · have xp0 := XP.c0
    have xp1 := XP.c1
    have xq0 := XQ.c0
    have xq1 := XQ.c1
    have zf0 := Z.f0
    have zf1 := Z.f1
    have zf2 := Z.f2
    have z0 := Z.c0
    have z1 := Z.c1
    have z2 := Z.c2
    have HE2 : Hid (mkRat (iv true p.natAbs) (q : Int).natAbs = Rat.divInt p q) := HE
    go_wp2_with (first
      | (go_at_call 72; (with_reducible refine (made_rq (RG.of_t xr) yr (by decide) HQ0.out).mono ?_); rintro e w_r ⟨s_r, A_r, n_r, c_r, B_r, m_r, d_r, rfl, r, hh⟩
         rw [HE2.out] at r
         try replace Z := Z.below hh
         replace hb := bend hb hh
         have zf0 := Z.f0
         have zf1 := Z.f1
         have zf2 := Z.f2
         have z0 := Z.c0
         have z1 := Z.c1
         have z2 := Z.c2))
    have Z2 := Z.set3 (.bool s_r) (.slice A_r n_r c_r) (.slice B_r m_r d_r)
    have g0 := Z2.c0
    have g1 := Z2.c1
    have g2 := Z2.c2
    refine bodyPost_ret (v := .agg #[.bool s_r, .slice A_r n_r c_r, .slice B_r m_r d_r]) (by simp [results, Tryz.results45, go_sem, g0, g1, g2]) rfl ?_
    exact ⟨s_r, A_r, n_r, c_r, B_r, m_r, d_r, rfl, r.set3 Z _ _ _, below_set3 hb (by omega) _ _ _⟩
  · have xp0 := XP.c0
    have xp1 := XP.c1
    have xq0 := XQ.c0
    have xq1 := XQ.c1
    have zf0 := Z.f0
    have zf1 := Z.f1
    have zf2 := Z.f2
    have z0 := Z.c0
    have z1 := Z.c1
    have z2 := Z.c2
    have HE2 : Hid (mkRat (iv true p.natAbs) (q : Int).natAbs = Rat.divInt p q) := HE
    go_wp2_with (first
      | (go_at_call 72; (with_reducible refine (made_rq (RG.of_t xr) yr (by decide) HQ0.out).mono ?_); rintro e w_r ⟨s_r, A_r, n_r, c_r, B_r, m_r, d_r, rfl, r, hh⟩
         rw [HE2.out] at r
         try replace Z := Z.below hh
         replace hb := bend hb hh
         have zf0 := Z.f0
         have zf1 := Z.f1
         have zf2 := Z.f2
         have z0 := Z.c0
         have z1 := Z.c1
         have z2 := Z.c2))
    have Z2 := Z.set3 (.bool s_r) (.slice A_r n_r c_r) (.slice B_r m_r d_r)
    have g0 := Z2.c0
    have g1 := Z2.c1
    have g2 := Z2.c2
    refine bodyPost_ret (v := .agg #[.bool s_r, .slice A_r n_r c_r, .slice B_r m_r d_r]) (by simp [results, Tryz.results45, go_sem, g0, g1, g2]) rfl ?_
    exact ⟨s_r, A_r, n_r, c_r, B_r, m_r, d_r, rfl, r.set3 Z _ _ _, below_set3 hb (by omega) _ _ _⟩
  · have xp0 := XP.c0
    have xp1 := XP.c1
    have xq0 := XQ.c0
    have xq1 := XQ.c1
    have zf0 := Z.f0
    have zf1 := Z.f1
    have zf2 := Z.f2
    have z0 := Z.c0
    have z1 := Z.c1
    have z2 := Z.c2
    have HE2 : Hid (mkRat (iv false p.natAbs) (q : Int).natAbs = Rat.divInt p q) := HE
    go_wp2_with (first
      | (go_at_call 72; (with_reducible refine (made_rq (RG.of_f xr) yr (by decide) HQ0.out).mono ?_); rintro e w_r ⟨s_r, A_r, n_r, c_r, B_r, m_r, d_r, rfl, r, hh⟩
         rw [HE2.out] at r
         try replace Z := Z.below hh
         replace hb := bend hb hh
         have zf0 := Z.f0
         have zf1 := Z.f1
         have zf2 := Z.f2
         have z0 := Z.c0
         have z1 := Z.c1
         have z2 := Z.c2))
    have Z2 := Z.set3 (.bool s_r) (.slice A_r n_r c_r) (.slice B_r m_r d_r)
    have g0 := Z2.c0
    have g1 := Z2.c1
    have g2 := Z2.c2
    refine bodyPost_ret (v := .agg #[.bool s_r, .slice A_r n_r c_r, .slice B_r m_r d_r]) (by simp [results, Tryz.results45, go_sem, g0, g1, g2]) rfl ?_
    exact ⟨s_r, A_r, n_r, c_r, B_r, m_r, d_r, rfl, r.set3 Z _ _ _, below_set3 hb (by omega) _ _ _⟩

set_option maxRecDepth 100000 in
set_option maxHeartbeats 8000000 in
theorem rof3z (p q : Int) (hp1 : -9223372036854775808 ≤ p) (hp2 : p < 9223372036854775808) (hq1 : -9223372036854775808 ≤ q) (hq2 : q < 9223372036854775808) (h0 : q = 0) (w : World) :
    Calls Tryz.prog 45 #[.int .i64 p, .int .i64 q] w (GivesRQ w (Rat.divInt p 1) 2) := by
  subst h0
  have HQ0 : Hid ((1 : Int).natAbs ≠ 0) := by show (1 : Int).natAbs ≠ 0; omega
  have H1 := Lib.hid hp1
  have H2 := Lib.hid hp2
  have H3 := Lib.hid hq1
  have H4 := Lib.hid hq2
  clear hp1 hp2 hq1 hq2
  go_enter Tryz.func45, Tryz.ntmps45
  go_upto_region 1 with (fail)
  generalize hW : (w.alloc (Obj.cells #[Value.bool false, Value.slice none 0 0, Value.slice none 0 0] 34)) = W
  have hb : Below w.heap.size w W := by subst hW; exact ((Below.refl _ _).alloc (Nat.le_refl _) _)
  have Z : B3R W (w.heap.size) (Value.bool false) (Value.slice none 0 0) (Value.slice none 0 0) := by subst hW; exact B3R.new' _ _ _ _ _ rfl
  have hzW : W.heap.size = w.heap.size + 1 := by subst hW; simp
  clear hW
  go_upto_region 4 with (first
      | (go_at_call 100; (with_reducible refine (rof2_any p H1.out H2.out _).mono ?_); rintro e w_x ⟨s_x, A_x, n_x, c_x, rfl, x, hh⟩
         try replace y := y.below hh
         try replace r := r.below hh
         try replace XP := XP.below hh
         try replace XQ := XQ.below hh
         try replace Z := Z.below hh
         replace hb := bend hb hh)
      | (go_at_call 100; (with_reducible refine (rof2_any 1 (by decide) (by decide) _).mono ?_); rintro e w_y ⟨s_y, A_y, n_y, c_y, rfl, y, hh⟩
         try replace x := x.below hh
         try replace r := r.below hh
         try replace XP := XP.below hh
         try replace XQ := XQ.below hh
         try replace Z := Z.below hh
         replace hb := bend hb hh))
  generalize hW : ((w_y.alloc (Obj.cells #[Value.bool s_x, Value.slice A_x n_x c_x] 32)).alloc (Obj.cells #[Value.bool s_y, Value.slice A_y n_y c_y] 32)) = W2
  have hh : Below w_y.heap.size w_y W2 := by subst hW; exact (((Below.refl _ _).alloc (Nat.le_refl _) _).alloc (by simp) _)
  have XP : By W2 (w_y.heap.size) (Value.bool s_x) (Value.slice A_x n_x c_x) := by subst hW; exact (By.new' _ _ _ _ rfl).alloc _
  have XQ : By W2 (w_y.heap.size + 1) (Value.bool s_y) (Value.slice A_y n_y c_y) := by subst hW; exact By.new' _ _ _ _ (by simp)
  have hzW2 : W2.heap.size = w_y.heap.size + 2 := by subst hW; simp
  clear hW
  try replace x := x.below hh
  try replace y := y.below hh
  try replace Z := Z.below hh
  replace hb := bend hb hh
  have hsx : s_x = decide (p < 0) := x.1
  have hsy : s_y = decide (1 < 0) := y.1
  have HE : Hid (mkRat (iv (s_x != s_y) p.natAbs) (1 : Int).natAbs = Rat.divInt p 1) := by
    show _ = _
    rw [← div_mk, hsx, hsy, iv_canon]
    first | rfl | rw [iv_canon]
  have hnx := rn_pos x.rn
  have HNX := Lib.hid hnx
  have xr := x.rn
  have yr := y.rn
  clear hsx hsy hnx x y
  cases s_x <;> cases s_y
  · have xp0 := XP.c0
    have xp1 := XP.c1
    have xq0 := XQ.c0
    have xq1 := XQ.c1
    have zf0 := Z.f0
    have zf1 := Z.f1
    have zf2 := Z.f2
    have z0 := Z.c0
    have z1 := Z.c1
    have z2 := Z.c2
    have HE2 : Hid (mkRat (iv false p.natAbs) (1 : Int).natAbs = Rat.divInt p 1) := HE
    go_wp2_with (first
      | (go_at_call 72; (with_reducible refine (made_rq (RG.of_f xr) yr (by decide) HQ0.out).mono ?_); rintro e w_r ⟨s_r, A_r, n_r, c_r, B_r, m_r, d_r, rfl, r, hh⟩
         rw [HE2.out] at r
         try replace Z := Z.below hh
         replace hb := bend hb hh
         have zf0 := Z.f0
         have zf1 := Z.f1
         have zf2 := Z.f2
         have z0 := Z.c0
         have z1 := Z.c1
         have z2 := Z.c2))
    have Z2 := Z.set3 (.bool s_r) (.slice A_r n_r c_r) (.slice B_r m_r d_r)
    have g0 := Z2.c0
    have g1 := Z2.c1
    have g2 := Z2.c2
    refine bodyPost_ret (v := .agg #[.bool s_r, .slice A_r n_r c_r, .slice B_r m_r d_r]) (by simp [results, Tryz.results45, go_sem, g0, g1, g2]) rfl ?_
    exact ⟨s_r, A_r, n_r, c_r, B_r, m_r, d_r, rfl, r.set3 Z _ _ _, below_set3 hb (by omega) _ _ _⟩
  · have xp0 := XP.c0
    have xp1 := XP.c1
    have xq0 := XQ.c0
    have xq1 := XQ.c1
    have zf0 := Z.f0
    have zf1 := Z.f1
    have zf2 := Z.f2
    have z0 := Z.c0
    have z1 := Z.c1
    have z2 := Z.c2
    have HE2 : Hid (mkRat (iv true p.natAbs) (1 : Int).natAbs = Rat.divInt p 1) := HE
    go_wp2_with (first
      | (go_at_call 72; (with_reducible refine (made_rq (RG.of_t xr) yr (by decide) HQ0.out).mono ?_); rintro e w_r ⟨s_r, A_r, n_r, c_r, B_r, m_r, d_r, rfl, r, hh⟩
         rw [HE2.out] at r
         try replace Z := Z.below hh
         replace hb := bend hb hh
         have zf0 := Z.f0
         have zf1 := Z.f1
         have zf2 := Z.f2
         have z0 := Z.c0
         have z1 := Z.c1
         have z2 := Z.c2))
    have Z2 := Z.set3 (.bool s_r) (.slice A_r n_r c_r) (.slice B_r m_r d_r)
    have g0 := Z2.c0
    have g1 := Z2.c1
    have g2 := Z2.c2
    refine bodyPost_ret (v := .agg #[.bool s_r, .slice A_r n_r c_r, .slice B_r m_r d_r]) (by simp [results, Tryz.results45, go_sem, g0, g1, g2]) rfl ?_
    exact ⟨s_r, A_r, n_r, c_r, B_r, m_r, d_r, rfl, r.set3 Z _ _ _, below_set3 hb (by omega) _ _ _⟩
  · have xp0 := XP.c0
    have xp1 := XP.c1
    have xq0 := XQ.c0
    have xq1 := XQ.c1
    have zf0 := Z.f0
    have zf1 := Z.f1
    have zf2 := Z.f2
    have z0 := Z.c0
    have z1 := Z.c1
    have z2 := Z.c2
    have HE2 : Hid (mkRat (iv true p.natAbs) (1 : Int).natAbs = Rat.divInt p 1) := HE
    go_wp2_with (first
      | (go_at_call 72; (with_reducible refine (made_rq (RG.of_t xr) yr (by decide) HQ0.out).mono ?_); rintro e w_r ⟨s_r, A_r, n_r, c_r, B_r, m_r, d_r, rfl, r, hh⟩
         rw [HE2.out] at r
         try replace Z := Z.below hh
         replace hb := bend hb hh
         have zf0 := Z.f0
         have zf1 := Z.f1
         have zf2 := Z.f2
         have z0 := Z.c0
         have z1 := Z.c1
         have z2 := Z.c2))
    have Z2 := Z.set3 (.bool s_r) (.slice A_r n_r c_r) (.slice B_r m_r d_r)
    have g0 := Z2.c0
    have g1 := Z2.c1
    have g2 := Z2.c2
    refine bodyPost_ret (v := .agg #[.bool s_r, .slice A_r n_r c_r, .slice B_r m_r d_r]) (by simp [results, Tryz.results45, go_sem, g0, g1, g2]) rfl ?_
    exact ⟨s_r, A_r, n_r, c_r, B_r, m_r, d_r, rfl, r.set3 Z _ _ _, below_set3 hb (by omega) _ _ _⟩
  · have xp0 := XP.c0
    have xp1 := XP.c1
    have xq0 := XQ.c0
    have xq1 := XQ.c1
    have zf0 := Z.f0
    have zf1 := Z.f1
    have zf2 := Z.f2
    have z0 := Z.c0
    have z1 := Z.c1
    have z2 := Z.c2
    have HE2 : Hid (mkRat (iv false p.natAbs) (1 : Int).natAbs = Rat.divInt p 1) := HE
    go_wp2_with (first
      | (go_at_call 72; (with_reducible refine (made_rq (RG.of_f xr) yr (by decide) HQ0.out).mono ?_); rintro e w_r ⟨s_r, A_r, n_r, c_r, B_r, m_r, d_r, rfl, r, hh⟩
         rw [HE2.out] at r
         try replace Z := Z.below hh
         replace hb := bend hb hh
         have zf0 := Z.f0
         have zf1 := Z.f1
         have zf2 := Z.f2
         have z0 := Z.c0
         have z1 := Z.c1
         have z2 := Z.c2))
    have Z2 := Z.set3 (.bool s_r) (.slice A_r n_r c_r) (.slice B_r m_r d_r)
    have g0 := Z2.c0
    have g1 := Z2.c1
    have g2 := Z2.c2
    refine bodyPost_ret (v := .agg #[.bool s_r, .slice A_r n_r c_r, .slice B_r m_r d_r]) (by simp [results, Tryz.results45, go_sem, g0, g1, g2]) rfl ?_
    exact ⟨s_r, A_r, n_r, c_r, B_r, m_r, d_r, rfl, r.set3 Z _ _ _, below_set3 hb (by omega) _ _ _⟩
end Go.Proofs.YtmcijgnbdnpanaaGreat
