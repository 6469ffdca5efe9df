/- PtReckons: part 15. -/
import Derived.Deep.Cut
import Derived.Deep.CutRange
import Derived.Test.YtlkjkhpjhllapaaGreatKPtReckons6
import Derived.Test.YtlkjkhpjhllapaaGreatKPtReckons9
import Derived.Test.YtlkjkhpjhllapaaGreatKPtReckons11
import Derived.Test.YtlkjkhpjhllapaaGreatKPtReckons13
import Derived.Test.YtlkjkhpjhllapaaGreatKPtReckons14
set_option linter.unusedVariables false
namespace Go.Proofs.YtlkjkhpjhllapaaGreat
open Go Go.RowKit
set_option maxRecDepth 100000 in
set_option maxHeartbeats 2000000 in
theorem out2c {w : World} {t : Bool} {B : Option Addr} {m d k : Nat} {v : Int} (Y : RG w t B m d v k) (hk : k ≤ 200000) :
    Calls Tryz.prog 62 #[.agg #[.bool t, .slice B m d]] w fun e w' => ∃ A n c, e = .returned (.agg #[.bool t, .slice A n c]) ∧ Rd .u64 w' A n (limbs B64 v.natAbs) ∧ n ≤ c ∧ Below w.heap.size w w' := by
  have hJ := join32_limbs v.natAbs
  have HJ := Lib.hid hJ
  have hm : m ≤ 2000000 := Nat.le_trans Y.2.2.2 (by omega)
  have hY := Y.2.1
  clear hJ
  go_enter Tryz.func62, Tryz.ntmps62
  go_wp2_with fail
  generalize hW : ((w.alloc (Obj.cells #[Value.bool t, Value.slice B m d] 32)).alloc (Obj.cells #[Value.bool false, Value.slice none 0 0] 24)) = W
  have hb : Below w.heap.size w W := by subst hW; exact (((Below.refl _ _).alloc (Nat.le_refl _) _).alloc (by simp) _)
  have XB : By W w.heap.size (Value.bool t) (Value.slice B m d) := by subst hW; exact (By.new w _ _).alloc _
  have Z : Bx W (w.heap.size + 1) (Value.bool false) (Value.slice none 0 0) := by subst hW; exact Bx.new' _ _ _ _ (by simp)
  have hz : W.heap.size = w.heap.size + 2 := by subst hW; simp
  clear hW
  replace hY := hY.below hb
  replace hY := hY.below (Below.refl _ _).drew
  replace XB := XB.drew
  replace Z := Z.drew
  replace hb := hb.drew
  go_region_held3 (fun w' => w'.cell? ⟨w.heap.size, 0, none⟩ = some (Value.bool t) ∧ w'.cell? ⟨w.heap.size, 1, none⟩ = some (Value.slice B m d))
    (first | with_reducible exact ⟨XB.c0, XB.c1⟩ | with_reducible exact ⟨(set2_cell _ _ _ _ _ _ (by omega)).trans XB.c0, (set2_cell _ _ _ _ _ _ (by omega)).trans XB.c1⟩)
    (first
    | (go_at_call 123; (with_reducible refine (rout_any (limbs B32 v.natAbs) B m d _ hY (lim_limbs B32_two _) hm).mono ?_); rintro e w1 ⟨A1, n1, c1, rfl, p1, p2, p3, hh⟩
       rw [HJ.out] at p3
       replace XB := XB.below hh
       replace Z := Z.below hh
       replace hb := bend hb hh
       have r0 := Z.c0
       have r1 := Z.c1
       have r2 := Z.f0
       have r3 := Z.f1))
  go_wp2
  have hf0 := (Z.set2 (.bool t) (.slice A1 n1 c1)).c0
  have hf1 := (Z.set2 (.bool t) (.slice A1 n1 c1)).c1
  refine bodyPost_ret (v := .agg #[.bool t, .slice A1 n1 c1]) (by simp [results, Tryz.results62, go_sem, hf0, hf1]) rfl ?_
  refine ⟨A1, n1, c1, rfl, ?_, p1, (hb.setCell (by show w.heap.size ≤ _; simp) _).setCell (by show w.heap.size ≤ _; simp) _⟩
  exact p3.rd.only (Z.offx p3.rd) (((Only.refl (w.heap.size + 1) w1).setCell 0 _).setCell 1 _)
theorem rout_vc {w : World} {A : Option Addr} {n c V k : Nat} (Y : RN w A n c V k) (hk : k ≤ 200000) :
    Calls Tryz.prog 123 #[.slice A n c] w fun e w' => ∃ A n c, e = .returned (.slice A n c) ∧ Rd .u64 w' A n (limbs B64 V) ∧ n ≤ c ∧ Below w.heap.size w w' := by
  refine (rout_any (limbs B32 V) A n c w Y.1 (lim_limbs B32_two _) (Nat.le_trans Y.2.2 (by omega))).mono ?_
  rintro e w' ⟨A1, n1, c1, rfl, p1, p2, p3, p4⟩
  rw [join32_limbs] at p3
  exact ⟨A1, n1, c1, rfl, p3.rd, p1, p4⟩
set_option maxRecDepth 100000 in
set_option maxHeartbeats 8000000 in
theorem rout3g {w : World} {s : Bool} {A A' : Option Addr} {n c n' c' k : Nat} {v : Rat} (X : RQ w s A n c A' n' c' v k) (hk : k ≤ 100000) (K : Nat) (h1 : v.num.natAbs < B64 ^ K) (h2 : v.den < B64 ^ K) :
    Calls Tryz.prog 37 #[.agg #[.bool s, .slice A n c, .slice A' n' c']] w (GivesQ w v K) := by
  have hs : s = decide (v.num < 0) := X.pg.1
  have HS := Lib.hid hs
  have HK : Hid ((limbs B64 v.num.natAbs).length ≤ K ∧ (limbs B64 v.den).length ≤ K) := ⟨length_limbs_le B64_two h1, length_limbs_le B64_two h2⟩
  clear h1 h2
  clear hs
  go_enter Tryz.func37, Tryz.ntmps37
  go_wp2_with fail
  generalize hW : ((w.alloc (Obj.cells #[Value.bool s, Value.slice A n c, Value.slice A' n' c'] 34)).alloc (Obj.cells #[Value.bool false, Value.slice none 0 0, Value.slice none 0 0] 26)) = W
  have hb : Below w.heap.size w W := by subst hW; exact (((Below.refl _ _).alloc (Nat.le_refl _) _).alloc (by simp) _)
  have XA : B3R W (w.heap.size) (Value.bool s) (Value.slice A n c) (Value.slice A' n' c') := by subst hW; exact (B3R.new' _ _ _ _ _ rfl).alloc _
  have Z : B3 W (w.heap.size + 1) (Value.bool false) (Value.slice none 0 0) (Value.slice none 0 0) := by subst hW; exact B3.new' _ _ _ _ _ (by simp)
  have hzW : W.heap.size = w.heap.size + 2 := by subst hW; simp
  clear hW
  replace X := X.below hb
  have xa0 := XA.c0
  have xa1 := XA.c1
  have xa2 := XA.c2
  go_upto_region 2 with (first
      | (go_at_call 123; (with_reducible refine (rout_vc X.qn (by omega)).mono ?_); rintro e w_q ⟨A_q, n_q, c_q, rfl, q, qc, hh⟩
         try replace X := X.below hh
         try replace p := p.below hh
         try replace XA := XA.below hh
         try replace Z := Z.below hh
         replace hb := bend hb hh
         have xa0 := XA.c0
         have xa1 := XA.c1
         have xa2 := XA.c2))
  have hq0 : ((n_q : Int) == 0) = false := by
    have h1 := q.1
    rw [limbs_pos B64_two v.den_nz] at h1
    simp at h1 ⊢
    omega
  have zf0 := Z.f0
  have zf1 := Z.f1
  have zf2 := Z.f2
  have z0 := Z.c0
  have z1 := Z.c1
  have z2 := Z.c2
  go_wp2_with (first
      | (go_at_call 62; (with_reducible refine (out2c X.pg (by omega)).mono ?_); rintro e w_p ⟨A_p, n_p, c_p, rfl, p, pc, hh⟩
         try replace X := X.below hh
         try replace q := q.below hh
         try replace XA := XA.below hh
         try replace Z := Z.below hh
         replace hb := bend hb hh
         have xa0 := XA.c0
         have xa1 := XA.c1
         have xa2 := XA.c2
         have zf0 := Z.f0
         have zf1 := Z.f1
         have zf2 := Z.f2
         have z0 := Z.c0
         have z1 := Z.c1
         have z2 := Z.c2))
  have Z2 := Z.set3 (.bool s) (.slice A_p n_p c_p) (.slice A_q n_q c_q)
  have g0 := Z2.c0
  have g1 := Z2.c1
  have g2 := Z2.c2
  refine bodyPost_ret (v := .agg #[.bool s, .slice A_p n_p c_p, .slice A_q n_q c_q]) (by simp [results, Tryz.results37, go_sem, g0, g1, g2]) rfl ?_
  have ho := (((Only.refl (w.heap.size + 1) w_p).setCell 0 (Value.bool s)).setCell 1 (Value.slice A_p n_p c_p)).setCell 2 (Value.slice A_q n_q c_q)
  exact ⟨s, A_p, n_p, c_p, A_q, n_q, c_q, rfl, ⟨⟨HS.out, p.only (Z.offx p) ho, pc, by rw [← p.1]; exact HK.out.1⟩, q.only (Z.offx q) ho, qc, by rw [← q.1]; exact HK.out.2⟩, below_set3 hb (by omega) _ _ _⟩
end Go.Proofs.YtlkjkhpjhllapaaGreat
namespace Go.Proofs.YtlkjkhpjhllapaaGreat
open Go Go.RowKit
theorem ZG.nil {w : World} (k : Nat) : ZG w false none 0 0 0 k := ⟨rfl, by rw [show ((0 : Int).natAbs) = 0 from rfl, limbs_zero]; exact Rd.nil, Nat.le_refl _, Nat.zero_le _⟩
theorem RG.nil {w : World} (k : Nat) : RG w false none 0 0 0 k := ⟨rfl, RN.zero w k⟩
theorem rof2_any (v : Int) (h1 : -9223372036854775808 ≤ v) (h2 : v < 9223372036854775808) (w : World) : Calls Tryz.prog 151 #[.int .i64 v] w (GivesRZ w v 2) := by
  by_cases h : v < 0
  · obtain ⟨V, rfl⟩ : ∃ V : Nat, v = -(V : Int) := ⟨v.natAbs, by omega⟩
    exact rof2_neg V (by omega) (by omega) w
  · obtain ⟨V, rfl⟩ : ∃ V : Nat, v = (V : Int) := ⟨v.natAbs, by omega⟩
    exact rof2_pos V (by omega) w
end Go.Proofs.YtlkjkhpjhllapaaGreat
namespace Go.Proofs.YtlkjkhpjhllapaaGreat
open Go Go.RowKit
theorem RG.of_f {w : World} {A : Option Addr} {n c V k : Nat} (h : RN w A n c V k) : RG w false A n c (iv false V) k := RG.of_made (neg := false) h rfl
theorem RG.of_t {w : World} {A : Option Addr} {n c V k : Nat} (h : RN w A n c V k) : RG w (decide (0 < n)) A n c (iv true V) k := RG.of_made (neg := true) h rfl
theorem int_parts (p : Int) : (Rat.divInt p 1).num = p ∧ (Rat.divInt p 1).den = 1 := by rw [int1]; exact ⟨rfl, rfl⟩
set_option maxRecDepth 100000 in
set_option maxHeartbeats 8000000 in
theorem rof3 (p q : Int) (hp1 : -9223372036854775808 ≤ p) (hp2 : p < 9223372036854775808) (hq1 : -9223372036854775808 ≤ q) (hq2 : q < 9223372036854775808) (h0 : ((q : Int) == 0) = false) (w : World) :
    Calls Tryz.prog 55 #[.int .i64 p, .int .i64 q] w (GivesRQ w (Rat.divInt p q) 2) := by
  have hq0 : q ≠ 0 := by simpa using h0
  have HQ0 : Hid ((q : Int).natAbs ≠ 0) := by show (q : Int).natAbs ≠ 0; omega
  have H1 := Lib.hid hp1
  have H2 := Lib.hid hp2
  have H3 := Lib.hid hq1
  have H4 := Lib.hid hq2
  clear hq0
  clear hp1 hp2 hq1 hq2
  go_enter Tryz.func55, Tryz.ntmps55
  go_upto_region 1 with (fail)
  generalize hW : (w.alloc (Obj.cells #[Value.bool false, Value.slice none 0 0, Value.slice none 0 0] 34)) = W
  have hb : Below w.heap.size w W := by subst hW; exact ((Below.refl _ _).alloc (Nat.le_refl _) _)
  have Z : B3R W (w.heap.size) (Value.bool false) (Value.slice none 0 0) (Value.slice none 0 0) := by subst hW; exact B3R.new' _ _ _ _ _ rfl
  have hzW : W.heap.size = w.heap.size + 1 := by subst hW; simp
  clear hW
  go_upto_region 4 with (first
      | (go_at_call 151; (with_reducible refine (rof2_any p H1.out H2.out _).mono ?_); rintro e w_x ⟨s_x, A_x, n_x, c_x, rfl, x, hh⟩
         try replace y := y.below hh
         try replace r := r.below hh
         try replace XP := XP.below hh
         try replace XQ := XQ.below hh
         try replace Z := Z.below hh
         replace hb := bend hb hh)
      | (go_at_call 151; (with_reducible refine (rof2_any q H3.out H4.out _).mono ?_); rintro e w_y ⟨s_y, A_y, n_y, c_y, rfl, y, hh⟩
         try replace x := x.below hh
         try replace r := r.below hh
         try replace XP := XP.below hh
         try replace XQ := XQ.below hh
         try replace Z := Z.below hh
         replace hb := bend hb hh))
  generalize hW : ((w_y.alloc (Obj.cells #[Value.bool s_x, Value.slice A_x n_x c_x] 32)).alloc (Obj.cells #[Value.bool s_y, Value.slice A_y n_y c_y] 32)) = W2
  have hh : Below w_y.heap.size w_y W2 := by subst hW; exact (((Below.refl _ _).alloc (Nat.le_refl _) _).alloc (by simp) _)
  have XP : By W2 (w_y.heap.size) (Value.bool s_x) (Value.slice A_x n_x c_x) := by subst hW; exact (By.new' _ _ _ _ rfl).alloc _
  have XQ : By W2 (w_y.heap.size + 1) (Value.bool s_y) (Value.slice A_y n_y c_y) := by subst hW; exact By.new' _ _ _ _ (by simp)
  have hzW2 : W2.heap.size = w_y.heap.size + 2 := by subst hW; simp
  clear hW
  try replace x := x.below hh
  try replace y := y.below hh
  try replace Z := Z.below hh
  replace hb := bend hb hh
  have hsx : s_x = decide (p < 0) := x.1
  have hsy : s_y = decide (q < 0) := y.1
  have HE : Hid (mkRat (iv (s_x != s_y) p.natAbs) (q : Int).natAbs = Rat.divInt p q) := by
    show _ = _
    rw [← div_mk, hsx, hsy, iv_canon]
    first | rfl | rw [iv_canon]
  have hnx := rn_pos x.rn
  have HNX := Lib.hid hnx
  have xr := x.rn
  have yr := y.rn
  clear hsx hsy hnx x y
  cases s_x <;> cases s_y
  · have xp0 := XP.c0
    have xp1 := XP.c1
    have xq0 := XQ.c0
    have xq1 := XQ.c1
    have zf0 := Z.f0
    have zf1 := Z.f1
    have zf2 := Z.f2
    have z0 := Z.c0
    have z1 := Z.c1
    have z2 := Z.c2
    have HE2 : Hid (mkRat (iv false p.natAbs) (q : Int).natAbs = Rat.divInt p q) := HE
    go_wp2_with (first
      | (go_at_call 99; (with_reducible refine (made_rq (RG.of_f xr) yr (by decide) HQ0.out).mono ?_); rintro e w_r ⟨s_r, A_r, n_r, c_r, B_r, m_r, d_r, rfl, r, hh⟩
         rw [HE2.out] at r
         try replace Z := Z.below hh
         replace hb := bend hb hh
         have zf0 := Z.f0
         have zf1 := Z.f1
         have zf2 := Z.f2
         have z0 := Z.c0
         have z1 := Z.c1
         have z2 := Z.c2))
    have Z2 := Z.set3 (.bool s_r) (.slice A_r n_r c_r) (.slice B_r m_r d_r)
    have g0 := Z2.c0
    have g1 := Z2.c1
    have g2 := Z2.c2
    refine bodyPost_ret (v := .agg #[.bool s_r, .slice A_r n_r c_r, .slice B_r m_r d_r]) (by simp [results, Tryz.results55, go_sem, g0, g1, g2]) rfl ?_
    exact ⟨s_r, A_r, n_r, c_r, B_r, m_r, d_r, rfl, r.set3 Z _ _ _, below_set3 hb (by omega) _ _ _⟩
  · have xp0 := XP.c0
    have xp1 := XP.c1
    have xq0 := XQ.c0
    have xq1 := XQ.c1
    have zf0 := Z.f0
    have zf1 := Z.f1
    have zf2 := Z.f2
    have z0 := Z.c0
    have z1 := Z.c1
    have z2 := Z.c2
    have HE2 : Hid (mkRat (iv true p.natAbs) (q : Int).natAbs = Rat.divInt p q) := HE
    go_wp2_with (first
      | (go_at_call 99; (with_reducible refine (made_rq (RG.of_t xr) yr (by decide) HQ0.out).mono ?_); rintro e w_r ⟨s_r, A_r, n_r, c_r, B_r, m_r, d_r, rfl, r, hh⟩
         rw [HE2.out] at r
         try replace Z := Z.below hh
         replace hb := bend hb hh
         have zf0 := Z.f0
         have zf1 := Z.f1
         have zf2 := Z.f2
         have z0 := Z.c0
         have z1 := Z.c1
         have z2 := Z.c2))
    have Z2 := Z.set3 (.bool s_r) (.slice A_r n_r c_r) (.slice B_r m_r d_r)
    have g0 := Z2.c0
    have g1 := Z2.c1
    have g2 := Z2.c2
    refine bodyPost_ret (v := .agg #[.bool s_r, .slice A_r n_r c_r, .slice B_r m_r d_r]) (by simp [results, Tryz.results55, go_sem, g0, g1, g2]) rfl ?_
    exact ⟨s_r, A_r, n_r, c_r, B_r, m_r, d_r, rfl, r.set3 Z _ _ _, below_set3 hb (by omega) _ _ _⟩
  · have xp0 := XP.c0
    have xp1 := XP.c1
    have xq0 := XQ.c0
    have xq1 := XQ.c1
    have zf0 := Z.f0
    have zf1 := Z.f1
    have zf2 := Z.f2
    have z0 := Z.c0
    have z1 := Z.c1
    have z2 := Z.c2
    have HE2 : Hid (mkRat (iv true p.natAbs) (q : Int).natAbs = Rat.divInt p q) := HE
    go_wp2_with (first
      | (go_at_call 99; (with_reducible refine (made_rq (RG.of_t xr) yr (by decide) HQ0.out).mono ?_); rintro e w_r ⟨s_r, A_r, n_r, c_r, B_r, m_r, d_r, rfl, r, hh⟩
         rw [HE2.out] at r
         try replace Z := Z.below hh
         replace hb := bend hb hh
         have zf0 := Z.f0
         have zf1 := Z.f1
         have zf2 := Z.f2
         have z0 := Z.c0
         have z1 := Z.c1
         have z2 := Z.c2))
    have Z2 := Z.set3 (.bool s_r) (.slice A_r n_r c_r) (.slice B_r m_r d_r)
    have g0 := Z2.c0
    have g1 := Z2.c1
    have g2 := Z2.c2
    refine bodyPost_ret (v := .agg #[.bool s_r, .slice A_r n_r c_r, .slice B_r m_r d_r]) (by simp [results, Tryz.results55, go_sem, g0, g1, g2]) rfl ?_
    exact ⟨s_r, A_r, n_r, c_r, B_r, m_r, d_r, rfl, r.set3 Z _ _ _, below_set3 hb (by omega) _ _ _⟩
  · have xp0 := XP.c0
    have xp1 := XP.c1
    have xq0 := XQ.c0
    have xq1 := XQ.c1
    have zf0 := Z.f0
    have zf1 := Z.f1
    have zf2 := Z.f2
    have z0 := Z.c0
    have z1 := Z.c1
    have z2 := Z.c2
    have HE2 : Hid (mkRat (iv false p.natAbs) (q : Int).natAbs = Rat.divInt p q) := HE
    go_wp2_with (first
      | (go_at_call 99; (with_reducible refine (made_rq (RG.of_f xr) yr (by decide) HQ0.out).mono ?_); rintro e w_r ⟨s_r, A_r, n_r, c_r, B_r, m_r, d_r, rfl, r, hh⟩
         rw [HE2.out] at r
         try replace Z := Z.below hh
         replace hb := bend hb hh
         have zf0 := Z.f0
         have zf1 := Z.f1
         have zf2 := Z.f2
         have z0 := Z.c0
         have z1 := Z.c1
         have z2 := Z.c2))
    have Z2 := Z.set3 (.bool s_r) (.slice A_r n_r c_r) (.slice B_r m_r d_r)
    have g0 := Z2.c0
    have g1 := Z2.c1
    have g2 := Z2.c2
    refine bodyPost_ret (v := .agg #[.bool s_r, .slice A_r n_r c_r, .slice B_r m_r d_r]) (by simp [results, Tryz.results55, go_sem, g0, g1, g2]) rfl ?_
    exact ⟨s_r, A_r, n_r, c_r, B_r, m_r, d_r, rfl, r.set3 Z _ _ _, below_set3 hb (by omega) _ _ _⟩
end Go.Proofs.YtlkjkhpjhllapaaGreat
namespace Go.Proofs.YtlkjkhpjhllapaaGreat
open Go Go.RowKit
set_option maxRecDepth 100000 in
set_option maxHeartbeats 4000000 in
theorem small_m (M : Nat) {s : Bool} {A A' : Option Addr} {n c n' c' : Nat} (w : World) (L : Bool) (hL : decide (n ≤ M ∧ n' ≤ M) = L) :
    Calls Tryz.prog 46 #[.agg #[.bool s, .slice A n c, .slice A' n' c'], .int .i64 (M : Int)] w fun e w' => e = .returned (.bool L) ∧ Below w.heap.size w w' := by
  have HL := Lib.hid hL
  clear hL
  go_enter Tryz.func46, Tryz.ntmps46
  go_wp2_with fail
  generalize hW : (w.alloc (Obj.cells #[Value.bool s, Value.slice A n c, Value.slice A' n' c'] 26)) = W
  have hb : Below w.heap.size w W := by subst hW; exact ((Below.refl _ _).alloc (Nat.le_refl _) _)
  have XA : B3 W (w.heap.size) (Value.bool s) (Value.slice A n c) (Value.slice A' n' c') := by subst hW; exact B3.new' _ _ _ _ _ rfl
  have hzW : W.heap.size = w.heap.size + 1 := by subst hW; simp
  clear hW
  have xa0 := XA.c0
  have xa1 := XA.c1
  have xa2 := XA.c2
  go_wp2_with fail
  · have h : n ≤ M := by assumption
    go_ret
    refine ⟨?_, by first | assumption | exact (Below.refl _ _).alloc (Nat.le_refl _) _⟩
    show Ending.returned (.bool (decide (n' ≤ M))) = _
    rw [← HL.out]
    by_cases h2 : n' ≤ M
    · rw [decide_eq_true (show n' ≤ M by omega), decide_eq_true (show n ≤ M ∧ n' ≤ M by omega)]
    · rw [decide_eq_false (show ¬ n' ≤ M by omega), decide_eq_false (show ¬ (n ≤ M ∧ n' ≤ M) by omega)]
  · have h : M < n := by omega
    go_ret
    refine ⟨?_, by first | assumption | exact (Below.refl _ _).alloc (Nat.le_refl _) _⟩
    show Ending.returned (.bool false) = _
    rw [← HL.out, decide_eq_false (show ¬ (n ≤ M ∧ n' ≤ M) by omega)]
theorem small_6 {s : Bool} {A A' : Option Addr} {n c n' c' : Nat} (w : World) (L : Bool) (hL : decide (n ≤ 6 ∧ n' ≤ 6) = L) :
    Calls Tryz.prog 46 #[.agg #[.bool s, .slice A n c, .slice A' n' c'], .int .i64 6] w fun e w' => e = .returned (.bool L) ∧ Below w.heap.size w w' := small_m 6 w L hL
end Go.Proofs.YtlkjkhpjhllapaaGreat
namespace Go.Proofs.YtlkjkhpjhllapaaGreat
open Go Go.RowKit
def B6R (W : World) (g : Nat) (x y z u v t : Value) : Prop := W.heap[g]? = some (.cells #[x, y, z, u, v, t] 86 (0, 0))
section
variable {W W' : World} {g : Nat} {x y z u v t : Value}
theorem B6R.c0 (h : B6R W g x y z u v t) : W.cell? ⟨g, 0, none⟩ = some x := by rw [cell_of_row W g 0 _ _ (0, 0) h]; rfl
theorem B6R.c1 (h : B6R W g x y z u v t) : W.cell? ⟨g, 1, none⟩ = some y := by rw [cell_of_row W g 1 _ _ (0, 0) h]; rfl
theorem B6R.c2 (h : B6R W g x y z u v t) : W.cell? ⟨g, 2, none⟩ = some z := by rw [cell_of_row W g 2 _ _ (0, 0) h]; rfl
theorem B6R.c3 (h : B6R W g x y z u v t) : W.cell? ⟨g, 3, none⟩ = some u := by rw [cell_of_row W g 3 _ _ (0, 0) h]; rfl
theorem B6R.c4 (h : B6R W g x y z u v t) : W.cell? ⟨g, 4, none⟩ = some v := by rw [cell_of_row W g 4 _ _ (0, 0) h]; rfl
theorem B6R.c5 (h : B6R W g x y z u v t) : W.cell? ⟨g, 5, none⟩ = some t := by rw [cell_of_row W g 5 _ _ (0, 0) h]; rfl
theorem B6R.f0 (h : B6R W g x y z u v t) : W.frozen? ⟨g, 0, none⟩ = false := frozen_of_row W g 0 _ _ h
theorem B6R.f1 (h : B6R W g x y z u v t) : W.frozen? ⟨g, 1, none⟩ = false := frozen_of_row W g 1 _ _ h
theorem B6R.f2 (h : B6R W g x y z u v t) : W.frozen? ⟨g, 2, none⟩ = false := frozen_of_row W g 2 _ _ h
theorem B6R.f3 (h : B6R W g x y z u v t) : W.frozen? ⟨g, 3, none⟩ = false := frozen_of_row W g 3 _ _ h
theorem B6R.f4 (h : B6R W g x y z u v t) : W.frozen? ⟨g, 4, none⟩ = false := frozen_of_row W g 4 _ _ h
theorem B6R.f5 (h : B6R W g x y z u v t) : W.frozen? ⟨g, 5, none⟩ = false := frozen_of_row W g 5 _ _ h
theorem B6R.lt (h : B6R W g x y z u v t) : g < W.heap.size := World.block_lt_of_cell? W _ h.c0
theorem B6R.below (h : B6R W g x y z u v t) (hb : Below W.heap.size W W') : B6R W' g x y z u v t := (hb.block g h.lt).trans h
theorem B6R.alloc (h : B6R W g x y z u v t) (o : Obj) : B6R (W.alloc o) g x y z u v t := (Below.heap_alloc W o g h.lt).trans h
theorem B6R.new' (W : World) (x y z u v t : Value) (g : Nat) (hg : g = W.heap.size) : B6R (W.alloc (.cells #[x, y, z, u, v, t] 86)) g x y z u v t := by subst hg; exact heap_alloc_new W _
end
theorem B6R.set6 {W : World} {g : Nat} {x y z u v t : Value} (h : B6R W g x y z u v t) (a b c d e f : Value) : B6R ((((((W.setCell ⟨g, 0, none⟩ a).setCell ⟨g, 1, none⟩ b).setCell ⟨g, 2, none⟩ c).setCell ⟨g, 3, none⟩ d).setCell ⟨g, 4, none⟩ e).setCell ⟨g, 5, none⟩ f) g a b c d e f := by
  unfold B6R at h ⊢
  simp [World.setCell, Array.getElem?_modify, h]
theorem Rd.off6R {K : IntKind} {W : World} {g : Nat} {s t : Bool} {A A1 A2 A3 A4 : Option Addr} {n n1 c1 n2 c2 n3 c3 n4 c4 : Nat} {l : List Nat} (hr : Rd K W A n l) (h : B6R W g (.bool s) (.slice A1 n1 c1) (.slice A2 n2 c2) (.bool t) (.slice A3 n3 c3) (.slice A4 n4 c4)) : Off A n g := by
  intro hn ad e hg
  obtain ⟨b, o, eA, hc⟩ := hr.at_ hn
  obtain ⟨x, _, hx⟩ := hc 0 hn
  rw [eA] at e
  cases e
  have hg2 : b = g := hg
  subst hg2
  rw [cell_of_row W b (o + 0) _ _ (0, 0) h] at hx
  match o, hx with
  | 0, hx => cases hx
  | 1, hx => cases hx
  | 2, hx => cases hx
  | 3, hx => cases hx
  | 4, hx => cases hx
  | 5, hx => cases hx
  | o + 6, hx => cases hx
def RP (w : World) (s : Bool) (A : Option Addr) (n c : Nat) (B : Option Addr) (m d : Nat) (t : Bool) (E : Option Addr) (i e : Nat) (F : Option Addr) (j f : Nat) (x y : Rat) (k : Nat) : Prop := RQ w s A n c B m d x k ∧ RQ w t E i e F j f y k
def GivesRP (w : World) (x y : Rat) (k : Nat) (en : Ending) (w' : World) : Prop :=
  ∃ s A n c B m d t E i e F j f, en = .returned (.agg #[.bool s, .slice A n c, .slice B m d, .bool t, .slice E i e, .slice F j f]) ∧ RP w' s A n c B m d t E i e F j f x y k ∧ Below w.heap.size w w'
section
variable {w w' : World} {s t : Bool} {A B E F : Option Addr} {n c m d i e j f k k1 : Nat} {x y : Rat}
theorem RP.below (h : RP w s A n c B m d t E i e F j f x y k) (hb : Below w.heap.size w w') : RP w' s A n c B m d t E i e F j f x y k := ⟨h.1.below hb, h.2.below hb⟩
theorem RP.qx (h : RP w s A n c B m d t E i e F j f x y k) : RQ w s A n c B m d x k := h.1
theorem RP.qy (h : RP w s A n c B m d t E i e F j f x y k) : RQ w t E i e F j f y k := h.2
theorem RP.more (h : RP w s A n c B m d t E i e F j f x y k) (hk : k ≤ k1) : RP w s A n c B m d t E i e F j f x y k1 := ⟨h.1.more hk, h.2.more hk⟩
theorem RQ.onl {v : Rat} {g : Nat} (h : RQ w s A n c B m d v k) (h1 : Off A n g) (h2 : Off B m g) (ho : Only g w w') : RQ w' s A n c B m d v k := ⟨h.1.only h1 ho, h.2.only h2 ho⟩
theorem RP.set6 {s0 t0 : Bool} {g : Nat} {A1 A2 A3 A4 : Option Addr} {n1 c1 n2 c2 n3 c3 n4 c4 : Nat} (h : RP w s A n c B m d t E i e F j f x y k) (Z : B6R w g (.bool s0) (.slice A1 n1 c1) (.slice A2 n2 c2) (.bool t0) (.slice A3 n3 c3) (.slice A4 n4 c4)) (a1 a2 a3 a4 a5 a6 : Value) :
    RP ((((((w.setCell ⟨g, 0, none⟩ a1).setCell ⟨g, 1, none⟩ a2).setCell ⟨g, 2, none⟩ a3).setCell ⟨g, 3, none⟩ a4).setCell ⟨g, 4, none⟩ a5).setCell ⟨g, 5, none⟩ a6) s A n c B m d t E i e F j f x y k := by
  have ho : Only g w ((((((w.setCell ⟨g, 0, none⟩ a1).setCell ⟨g, 1, none⟩ a2).setCell ⟨g, 2, none⟩ a3).setCell ⟨g, 3, none⟩ a4).setCell ⟨g, 4, none⟩ a5).setCell ⟨g, 5, none⟩ a6) := ((((((Only.refl g w).setCell 0 _).setCell 1 _).setCell 2 _).setCell 3 _).setCell 4 _).setCell 5 _
  exact ⟨h.1.onl (h.1.1.2.1.off6R Z) (h.1.2.1.off6R Z) ho, h.2.onl (h.2.1.2.1.off6R Z) (h.2.2.1.off6R Z) ho⟩
end
set_option maxRecDepth 100000 in
set_option maxHeartbeats 4000000 in
theorem rof6 (x y : Int) (hx1 : -9223372036854775808 ≤ x) (hx2 : x < 9223372036854775808) (hy1 : -9223372036854775808 ≤ y) (hy2 : y < 9223372036854775808) (w : World) :
    Calls Tryz.prog 162 #[.int .i64 x, .int .i64 y] w (GivesRP w (Rat.divInt x 1) (Rat.divInt y 1) 2) := by
  have H1 := Lib.hid hx1
  have H2 := Lib.hid hx2
  have H3 := Lib.hid hy1
  have H4 := Lib.hid hy2
  clear hx1 hx2 hy1 hy2
  go_enter Tryz.func162, Tryz.ntmps162
  go_upto_region 1 with (fail)
  generalize hW : (w.alloc (Obj.cells #[Value.bool false, Value.slice none 0 0, Value.slice none 0 0, Value.bool false, Value.slice none 0 0, Value.slice none 0 0] 86)) = W
  have hb : Below w.heap.size w W := by subst hW; exact ((Below.refl _ _).alloc (Nat.le_refl _) _)
  have Z : B6R W (w.heap.size) (Value.bool false) (Value.slice none 0 0) (Value.slice none 0 0) (Value.bool false) (Value.slice none 0 0) (Value.slice none 0 0) := by subst hW; exact B6R.new' _ _ _ _ _ _ _ _ rfl
  have hzW : W.heap.size = w.heap.size + 1 := by subst hW; simp
  clear hW
  go_wp2_with (first
      | (go_at_call 55; (with_reducible refine (rof3 x 1 H1.out H2.out (by decide) (by decide) (by decide) _).mono ?_); rintro e w_r ⟨s_r, A_r, n_r, c_r, B_r, m_r, d_r, rfl, r, hh⟩
         try replace Z := Z.below hh
         replace hb := bend hb hh)
      | (go_at_call 55; (with_reducible refine (rof3 y 1 H3.out H4.out (by decide) (by decide) (by decide) _).mono ?_); rintro e w_u ⟨s_u, A_u, n_u, c_u, B_u, m_u, d_u, rfl, u, hh⟩
         try replace Z := Z.below hh
         try replace r := r.below hh
         replace hb := bend hb hh
         have zg0 := Z.f0
         have zg1 := Z.f1
         have zg2 := Z.f2
         have zg3 := Z.f3
         have zg4 := Z.f4
         have zg5 := Z.f5
         have zc0 := Z.c0
         have zc1 := Z.c1
         have zc2 := Z.c2
         have zc3 := Z.c3
         have zc4 := Z.c4
         have zc5 := Z.c5))
  have Z2 := Z.set6 (.bool s_r) (.slice A_r n_r c_r) (.slice B_r m_r d_r) (.bool s_u) (.slice A_u n_u c_u) (.slice B_u m_u d_u)
  have g0 := Z2.c0
  have g1 := Z2.c1
  have g2 := Z2.c2
  have g3 := Z2.c3
  have g4 := Z2.c4
  have g5 := Z2.c5
  refine bodyPost_ret (v := .agg #[.bool s_r, .slice A_r n_r c_r, .slice B_r m_r d_r, .bool s_u, .slice A_u n_u c_u, .slice B_u m_u d_u]) (by simp [results, Tryz.results162, go_sem, g0, g1, g2, g3, g4, g5]) rfl ?_
  exact ⟨_, _, _, _, _, _, _, _, _, _, _, _, _, _, rfl, (show RP _ _ _ _ _ _ _ _ _ _ _ _ _ _ _ _ _ _ from ⟨r, u⟩).set6 Z _ _ _ _ _ _, below_set6 hb (by omega) _ _ _ _ _ _⟩
set_option maxRecDepth 100000 in
set_option maxHeartbeats 4000000 in
theorem rout6 {w : World} {k : Nat} {x y : Rat} {s_p t_p : Bool} {A_p B_p E_p F_p : Option Addr} {n_p c_p m_p d_p i_p e_p j_p f_p : Nat} (p : RP w s_p A_p n_p c_p B_p m_p d_p t_p E_p i_p e_p F_p j_p f_p x y k) (hk : k ≤ 100000) (K : Nat) (h1 : x.num.natAbs < B64 ^ K) (h2 : x.den < B64 ^ K) (h3 : y.num.natAbs < B64 ^ K) (h4 : y.den < B64 ^ K) :
    Calls Tryz.prog 71 #[.agg #[.bool s_p, .slice A_p n_p c_p, .slice B_p m_p d_p, .bool t_p, .slice E_p i_p e_p, .slice F_p j_p f_p]] w (GivesPt w x y K) := by
  have H1 := Lib.hid h1
  have H2 := Lib.hid h2
  have H3 := Lib.hid h3
  have H4 := Lib.hid h4
  clear h1 h2 h3 h4
  go_enter Tryz.func71, Tryz.ntmps71
  go_upto_region 1 with (fail)
  generalize hW : ((w.alloc (Obj.cells #[Value.bool s_p, Value.slice A_p n_p c_p, Value.slice B_p m_p d_p, Value.bool t_p, Value.slice E_p i_p e_p, Value.slice F_p j_p f_p] 86)).alloc (Obj.cells #[Value.bool false, Value.slice none 0 0, Value.slice none 0 0, Value.bool false, Value.slice none 0 0, Value.slice none 0 0] 83)) = W
  have hb : Below w.heap.size w W := by subst hW; exact (((Below.refl _ _).alloc (Nat.le_refl _) _).alloc (by simp) _)
  have XA : B6R W (w.heap.size) (Value.bool s_p) (Value.slice A_p n_p c_p) (Value.slice B_p m_p d_p) (Value.bool t_p) (Value.slice E_p i_p e_p) (Value.slice F_p j_p f_p) := by subst hW; exact (B6R.new' _ _ _ _ _ _ _ _ rfl).alloc _
  have Z : B6 W (w.heap.size + 1) (Value.bool false) (Value.slice none 0 0) (Value.slice none 0 0) (Value.bool false) (Value.slice none 0 0) (Value.slice none 0 0) := by subst hW; exact B6.new' _ _ _ _ _ _ _ _ (by simp)
  have hzW : W.heap.size = w.heap.size + 2 := by subst hW; simp
  clear hW
  replace p := p.below hb
  replace p := p.below (Below.refl _ _).drew
  replace XA := XA.below (Below.refl _ _).drew
  replace Z := Z.below (Below.refl _ _).drew
  replace hb := hb.drew
  go_region_held3 (fun w' => w'.cell? ⟨w.heap.size, 0, none⟩ = some (.bool s_p) ∧ w'.cell? ⟨w.heap.size, 1, none⟩ = some (.slice A_p n_p c_p) ∧ w'.cell? ⟨w.heap.size, 2, none⟩ = some (.slice B_p m_p d_p) ∧ w'.cell? ⟨w.heap.size, 3, none⟩ = some (.bool t_p) ∧ w'.cell? ⟨w.heap.size, 4, none⟩ = some (.slice E_p i_p e_p) ∧ w'.cell? ⟨w.heap.size, 5, none⟩ = some (.slice F_p j_p f_p))
    (first | with_reducible exact ⟨XA.c0, XA.c1, XA.c2, XA.c3, XA.c4, XA.c5⟩ | with_reducible exact ⟨(set6_cell _ _ _ _ _ _ _ _ _ _ (by omega)).trans XA.c0, (set6_cell _ _ _ _ _ _ _ _ _ _ (by omega)).trans XA.c1, (set6_cell _ _ _ _ _ _ _ _ _ _ (by omega)).trans XA.c2, (set6_cell _ _ _ _ _ _ _ _ _ _ (by omega)).trans XA.c3, (set6_cell _ _ _ _ _ _ _ _ _ _ (by omega)).trans XA.c4, (set6_cell _ _ _ _ _ _ _ _ _ _ (by omega)).trans XA.c5⟩)
    (first
    | (go_at_call 37; (with_reducible refine (rout3g p.qx hk K H1.out H2.out).mono ?_); rintro e w_r ⟨s_r, A_r, n_r, c_r, B_r, m_r, d_r, rfl, r, hh⟩
       try replace p := p.below hh
       try replace XA := XA.below hh
       try replace Z := Z.below hh
       replace hb := bend hb hh)
    | (go_at_call 37; (with_reducible refine (rout3g p.qy hk K H3.out H4.out).mono ?_); rintro e w_u ⟨s_u, A_u, n_u, c_u, B_u, m_u, d_u, rfl, u, hh⟩
       try replace p := p.below hh
       try replace r := r.below hh
       try replace XA := XA.below hh
       try replace Z := Z.below hh
       replace hb := bend hb hh
       have zg0 := Z.f0
       have zg1 := Z.f1
       have zg2 := Z.f2
       have zg3 := Z.f3
       have zg4 := Z.f4
       have zg5 := Z.f5
       have zc0 := Z.c0
       have zc1 := Z.c1
       have zc2 := Z.c2
       have zc3 := Z.c3
       have zc4 := Z.c4
       have zc5 := Z.c5))
  go_wp2_with fail
  have Z2 := Z.set6 (.bool s_r) (.slice A_r n_r c_r) (.slice B_r m_r d_r) (.bool s_u) (.slice A_u n_u c_u) (.slice B_u m_u d_u)
  have g0 := Z2.c0
  have g1 := Z2.c1
  have g2 := Z2.c2
  have g3 := Z2.c3
  have g4 := Z2.c4
  have g5 := Z2.c5
  refine bodyPost_ret (v := .agg #[.bool s_r, .slice A_r n_r c_r, .slice B_r m_r d_r, .bool s_u, .slice A_u n_u c_u, .slice B_u m_u d_u]) (by simp [results, Tryz.results71, go_sem, g0, g1, g2, g3, g4, g5]) rfl ?_
  exact ⟨_, _, _, _, _, _, _, _, _, _, _, _, _, _, rfl, (show PG _ _ _ _ _ _ _ _ _ _ _ _ _ _ _ _ _ _ from ⟨r, u⟩).set6 Z _ _ _ _ _ _, below_set6 hb (by omega) _ _ _ _ _ _⟩
theorem int_fits {x : Int} (h1 : -9223372036854775808 ≤ x) (h2 : x < 9223372036854775808) : (Rat.divInt x 1).num.natAbs < B64 ^ 1 ∧ (Rat.divInt x 1).den < B64 ^ 1 := by
  rw [(int_parts x).1, (int_parts x).2, Nat.pow_one]
  have : B64 = 18446744073709551616 := rfl
  omega
set_option maxRecDepth 100000 in
set_option maxHeartbeats 4000000 in
theorem lawP (x y : Int) (hx1 : -9223372036854775808 ≤ x) (hx2 : x < 9223372036854775808) (hy1 : -9223372036854775808 ≤ y) (hy2 : y < 9223372036854775808) (w : World) :
    Calls Tryz.prog 94 #[.int .i64 x, .int .i64 y] w (GivesPt w (Rat.divInt x 1) (Rat.divInt y 1) 1) := by
  have HX := Lib.hid (int_fits hx1 hx2)
  have HY := Lib.hid (int_fits hy1 hy2)
  have H1 := Lib.hid hx1
  have H2 := Lib.hid hx2
  have H3 := Lib.hid hy1
  have H4 := Lib.hid hy2
  clear hx1 hx2 hy1 hy2
  go_enter Tryz.func94, Tryz.ntmps94
  go_upto_region 1 with (fail)
  generalize hW : (w.alloc (Obj.cells #[Value.bool false, Value.slice none 0 0, Value.slice none 0 0, Value.bool false, Value.slice none 0 0, Value.slice none 0 0] 83)) = W
  have hb : Below w.heap.size w W := by subst hW; exact ((Below.refl _ _).alloc (Nat.le_refl _) _)
  have Z : B6 W (w.heap.size) (Value.bool false) (Value.slice none 0 0) (Value.slice none 0 0) (Value.bool false) (Value.slice none 0 0) (Value.slice none 0 0) := by subst hW; exact B6.new' _ _ _ _ _ _ _ _ rfl
  have hzW : W.heap.size = w.heap.size + 1 := by subst hW; simp
  clear hW
  go_wp2_with (first
      | (go_at_call 162; (with_reducible refine (rof6 x y H1.out H2.out H3.out H4.out _).mono ?_); rintro e w_r ⟨s_r, A_r, n_r, c_r, B_r, m_r, d_r, t_r, E_r, i_r, e_r, F_r, j_r, f_r, rfl, r, hh⟩
         try replace Z := Z.below hh
         replace hb := bend hb hh)
      | (go_at_call 71; (with_reducible refine (rout6 r (by decide) 1 HX.out.1 HX.out.2 HY.out.1 HY.out.2).mono ?_); rintro e w_u ⟨s_u, A_u, n_u, c_u, B_u, m_u, d_u, t_u, E_u, i_u, e_u, F_u, j_u, f_u, rfl, u, hh⟩
         try replace Z := Z.below hh
         replace hb := bend hb hh
         have zg0 := Z.f0
         have zg1 := Z.f1
         have zg2 := Z.f2
         have zg3 := Z.f3
         have zg4 := Z.f4
         have zg5 := Z.f5
         have zc0 := Z.c0
         have zc1 := Z.c1
         have zc2 := Z.c2
         have zc3 := Z.c3
         have zc4 := Z.c4
         have zc5 := Z.c5))
  have Z2 := Z.set6 (.bool s_u) (.slice A_u n_u c_u) (.slice B_u m_u d_u) (.bool t_u) (.slice E_u i_u e_u) (.slice F_u j_u f_u)
  have g0 := Z2.c0
  have g1 := Z2.c1
  have g2 := Z2.c2
  have g3 := Z2.c3
  have g4 := Z2.c4
  have g5 := Z2.c5
  refine bodyPost_ret (v := .agg #[.bool s_u, .slice A_u n_u c_u, .slice B_u m_u d_u, .bool t_u, .slice E_u i_u e_u, .slice F_u j_u f_u]) (by simp [results, Tryz.results94, go_sem, g0, g1, g2, g3, g4, g5]) rfl ?_
  exact ⟨s_u, A_u, n_u, c_u, B_u, m_u, d_u, t_u, E_u, i_u, e_u, F_u, j_u, f_u, rfl, u.set6 Z _ _ _ _ _ _, below_set6 hb (by omega) _ _ _ _ _ _⟩
set_option maxRecDepth 100000 in
set_option maxHeartbeats 4000000 in
theorem smallpt_f {w : World} {s_p t_p : Bool} {A_p B_p E_p F_p : Option Addr} {n_p c_p m_p d_p i_p e_p j_p f_p : Nat} (h : ¬ (n_p ≤ 6 ∧ m_p ≤ 6)) :
    Calls Tryz.prog 198 #[.agg #[.bool s_p, .slice A_p n_p c_p, .slice B_p m_p d_p, .bool t_p, .slice E_p i_p e_p, .slice F_p j_p f_p], .int .i64 6] w fun e w' => e = .returned (.bool false) ∧ Below w.heap.size w w' := by
  have HL : Hid (decide (n_p ≤ 6 ∧ m_p ≤ 6) = false) := decide_eq_false h
  clear h
  go_enter Tryz.func198, Tryz.ntmps198
  go_wp2_with fail
  generalize hW : (w.alloc (Obj.cells #[Value.bool s_p, Value.slice A_p n_p c_p, Value.slice B_p m_p d_p, Value.bool t_p, Value.slice E_p i_p e_p, Value.slice F_p j_p f_p] 83)) = W
  have hb : Below w.heap.size w W := by subst hW; exact ((Below.refl _ _).alloc (Nat.le_refl _) _)
  have XA : B6 W (w.heap.size) (Value.bool s_p) (Value.slice A_p n_p c_p) (Value.slice B_p m_p d_p) (Value.bool t_p) (Value.slice E_p i_p e_p) (Value.slice F_p j_p f_p) := by subst hW; exact B6.new' _ _ _ _ _ _ _ _ rfl
  have hzW : W.heap.size = w.heap.size + 1 := by subst hW; simp
  clear hW
  have xa0 := XA.c0
  have xa1 := XA.c1
  have xa2 := XA.c2
  have xa3 := XA.c3
  have xa4 := XA.c4
  have xa5 := XA.c5
  go_wp2_with (first
      | (go_at_call 46; (with_reducible refine (small_6 (s := s_p) (A := A_p) (n := n_p) (c := c_p) (A' := B_p) (n' := m_p) (c' := d_p) _ false HL.out).mono ?_); rintro e w_z ⟨rfl, hh⟩
         try replace XA := XA.below hh
         replace hb := bend hb hh
         have xa0 := XA.c0
         have xa1 := XA.c1
         have xa2 := XA.c2
         have xa3 := XA.c3
         have xa4 := XA.c4
         have xa5 := XA.c5))
  go_ret
  exact ⟨rfl, hb⟩
set_option maxRecDepth 100000 in
set_option maxHeartbeats 4000000 in
theorem smallpt_t {w : World} {s_p t_p : Bool} {A_p B_p E_p F_p : Option Addr} {n_p c_p m_p d_p i_p e_p j_p f_p : Nat} (h : n_p ≤ 6 ∧ m_p ≤ 6) :
    Calls Tryz.prog 198 #[.agg #[.bool s_p, .slice A_p n_p c_p, .slice B_p m_p d_p, .bool t_p, .slice E_p i_p e_p, .slice F_p j_p f_p], .int .i64 6] w fun e w' => e = .returned (.bool (decide (i_p ≤ 6 ∧ j_p ≤ 6))) ∧ Below w.heap.size w w' := by
  have HL : Hid (decide (n_p ≤ 6 ∧ m_p ≤ 6) = true) := decide_eq_true h
  obtain ⟨M, hM⟩ : ∃ M, decide (i_p ≤ 6 ∧ j_p ≤ 6) = M := ⟨_, rfl⟩
  have HM := Lib.hid hM
  rw [hM]
  clear hM
  clear h
  go_enter Tryz.func198, Tryz.ntmps198
  go_wp2_with fail
  generalize hW : (w.alloc (Obj.cells #[Value.bool s_p, Value.slice A_p n_p c_p, Value.slice B_p m_p d_p, Value.bool t_p, Value.slice E_p i_p e_p, Value.slice F_p j_p f_p] 83)) = W
  have hb : Below w.heap.size w W := by subst hW; exact ((Below.refl _ _).alloc (Nat.le_refl _) _)
  have XA : B6 W (w.heap.size) (Value.bool s_p) (Value.slice A_p n_p c_p) (Value.slice B_p m_p d_p) (Value.bool t_p) (Value.slice E_p i_p e_p) (Value.slice F_p j_p f_p) := by subst hW; exact B6.new' _ _ _ _ _ _ _ _ rfl
  have hzW : W.heap.size = w.heap.size + 1 := by subst hW; simp
  clear hW
  have xa0 := XA.c0
  have xa1 := XA.c1
  have xa2 := XA.c2
  have xa3 := XA.c3
  have xa4 := XA.c4
  have xa5 := XA.c5
  go_wp2_with (first
      | (go_at_call 46; (with_reducible refine (small_6 (s := s_p) (A := A_p) (n := n_p) (c := c_p) (A' := B_p) (n' := m_p) (c' := d_p) _ true HL.out).mono ?_); rintro e w_z ⟨rfl, hh⟩
         try replace XA := XA.below hh
         replace hb := bend hb hh
         have xa0 := XA.c0
         have xa1 := XA.c1
         have xa2 := XA.c2
         have xa3 := XA.c3
         have xa4 := XA.c4
         have xa5 := XA.c5)
      | (go_at_call 46; (with_reducible refine (small_6 (s := t_p) (A := E_p) (n := i_p) (c := e_p) (A' := F_p) (n' := j_p) (c' := f_p) _ M HM.out).mono ?_); rintro e w_z ⟨rfl, hh⟩
         try replace XA := XA.below hh
         replace hb := bend hb hh
         have xa0 := XA.c0
         have xa1 := XA.c1
         have xa2 := XA.c2
         have xa3 := XA.c3
         have xa4 := XA.c4
         have xa5 := XA.c5))
  go_ret
  exact ⟨rfl, hb⟩
theorem smallpt_6 {w : World} {s_p t_p : Bool} {A_p B_p E_p F_p : Option Addr} {n_p c_p m_p d_p i_p e_p j_p f_p : Nat} (L : Bool) (hL : decide ((n_p ≤ 6 ∧ m_p ≤ 6) ∧ i_p ≤ 6 ∧ j_p ≤ 6) = L) :
    Calls Tryz.prog 198 #[.agg #[.bool s_p, .slice A_p n_p c_p, .slice B_p m_p d_p, .bool t_p, .slice E_p i_p e_p, .slice F_p j_p f_p], .int .i64 6] w fun e w' => e = .returned (.bool L) ∧ Below w.heap.size w w' := by
  subst hL
  by_cases h : n_p ≤ 6 ∧ m_p ≤ 6
  · have e : decide (i_p ≤ 6 ∧ j_p ≤ 6) = decide ((n_p ≤ 6 ∧ m_p ≤ 6) ∧ i_p ≤ 6 ∧ j_p ≤ 6) := by simp [h]
    rw [← e]; exact smallpt_t h
  · have e : false = decide ((n_p ≤ 6 ∧ m_p ≤ 6) ∧ i_p ≤ 6 ∧ j_p ≤ 6) := by simp [h]
    rw [← e]; exact smallpt_f h
def BL2 (W : World) (g : Nat) (v0 : Value) (v1 : Value) (v2 : Value) (v3 : Value) (v4 : Value) (v5 : Value) (v6 : Value) (v7 : Value) (v8 : Value) (v9 : Value) (v10 : Value) (v11 : Value) : Prop := W.heap[g]? = some (.cells #[v0, v1, v2, v3, v4, v5, v6, v7, v8, v9, v10, v11] 83 (0, 0))
section
variable {W W' : World} {g : Nat} {v0 v1 v2 v3 v4 v5 v6 v7 v8 v9 v10 v11 : Value}
theorem BL2.c0 (h : BL2 W g v0 v1 v2 v3 v4 v5 v6 v7 v8 v9 v10 v11) : W.cell? ⟨g, 0, none⟩ = some v0 := by rw [cell_of_row W g 0 _ _ (0, 0) h]; rfl
theorem BL2.c1 (h : BL2 W g v0 v1 v2 v3 v4 v5 v6 v7 v8 v9 v10 v11) : W.cell? ⟨g, 1, none⟩ = some v1 := by rw [cell_of_row W g 1 _ _ (0, 0) h]; rfl
theorem BL2.c2 (h : BL2 W g v0 v1 v2 v3 v4 v5 v6 v7 v8 v9 v10 v11) : W.cell? ⟨g, 2, none⟩ = some v2 := by rw [cell_of_row W g 2 _ _ (0, 0) h]; rfl
theorem BL2.c3 (h : BL2 W g v0 v1 v2 v3 v4 v5 v6 v7 v8 v9 v10 v11) : W.cell? ⟨g, 3, none⟩ = some v3 := by rw [cell_of_row W g 3 _ _ (0, 0) h]; rfl
theorem BL2.c4 (h : BL2 W g v0 v1 v2 v3 v4 v5 v6 v7 v8 v9 v10 v11) : W.cell? ⟨g, 4, none⟩ = some v4 := by rw [cell_of_row W g 4 _ _ (0, 0) h]; rfl
theorem BL2.c5 (h : BL2 W g v0 v1 v2 v3 v4 v5 v6 v7 v8 v9 v10 v11) : W.cell? ⟨g, 5, none⟩ = some v5 := by rw [cell_of_row W g 5 _ _ (0, 0) h]; rfl
theorem BL2.c6 (h : BL2 W g v0 v1 v2 v3 v4 v5 v6 v7 v8 v9 v10 v11) : W.cell? ⟨g, 6, none⟩ = some v6 := by rw [cell_of_row W g 6 _ _ (0, 0) h]; rfl
theorem BL2.c7 (h : BL2 W g v0 v1 v2 v3 v4 v5 v6 v7 v8 v9 v10 v11) : W.cell? ⟨g, 7, none⟩ = some v7 := by rw [cell_of_row W g 7 _ _ (0, 0) h]; rfl
theorem BL2.c8 (h : BL2 W g v0 v1 v2 v3 v4 v5 v6 v7 v8 v9 v10 v11) : W.cell? ⟨g, 8, none⟩ = some v8 := by rw [cell_of_row W g 8 _ _ (0, 0) h]; rfl
theorem BL2.c9 (h : BL2 W g v0 v1 v2 v3 v4 v5 v6 v7 v8 v9 v10 v11) : W.cell? ⟨g, 9, none⟩ = some v9 := by rw [cell_of_row W g 9 _ _ (0, 0) h]; rfl
theorem BL2.c10 (h : BL2 W g v0 v1 v2 v3 v4 v5 v6 v7 v8 v9 v10 v11) : W.cell? ⟨g, 10, none⟩ = some v10 := by rw [cell_of_row W g 10 _ _ (0, 0) h]; rfl
theorem BL2.c11 (h : BL2 W g v0 v1 v2 v3 v4 v5 v6 v7 v8 v9 v10 v11) : W.cell? ⟨g, 11, none⟩ = some v11 := by rw [cell_of_row W g 11 _ _ (0, 0) h]; rfl
theorem BL2.lt (h : BL2 W g v0 v1 v2 v3 v4 v5 v6 v7 v8 v9 v10 v11) : g < W.heap.size := World.block_lt_of_cell? W _ h.c0
theorem BL2.below (h : BL2 W g v0 v1 v2 v3 v4 v5 v6 v7 v8 v9 v10 v11) (hb : Below W.heap.size W W') : BL2 W' g v0 v1 v2 v3 v4 v5 v6 v7 v8 v9 v10 v11 := (hb.block g h.lt).trans h
theorem BL2.alloc (h : BL2 W g v0 v1 v2 v3 v4 v5 v6 v7 v8 v9 v10 v11) (o : Obj) : BL2 (W.alloc o) g v0 v1 v2 v3 v4 v5 v6 v7 v8 v9 v10 v11 := (Below.heap_alloc W o g h.lt).trans h
end
theorem BL2.new' (W : World) (v0 v1 v2 v3 v4 v5 v6 v7 v8 v9 v10 v11 : Value) (g : Nat) (hg : g = W.heap.size) : BL2 (W.alloc (.cells #[v0, v1, v2, v3, v4, v5, v6, v7, v8, v9, v10, v11] 83)) g v0 v1 v2 v3 v4 v5 v6 v7 v8 v9 v10 v11 := by subst hg; exact heap_alloc_new W _
set_option maxRecDepth 100000 in
set_option maxHeartbeats 4000000 in
theorem line2_0 {w : World} {g : Nat} {s_p t_p : Bool} {A_p B_p E_p F_p : Option Addr} {n_p c_p m_p d_p i_p e_p j_p f_p : Nat} {s_q t_q : Bool} {A_q B_q E_q F_q : Option Addr} {n_q c_q m_q d_q i_q e_q j_q f_q : Nat} (L : BL2 w g (.bool s_p) (.slice A_p n_p c_p) (.slice B_p m_p d_p) (.bool t_p) (.slice E_p i_p e_p) (.slice F_p j_p f_p) (.bool s_q) (.slice A_q n_q c_q) (.slice B_q m_q d_q) (.bool t_q) (.slice E_q i_q e_q) (.slice F_q j_q f_q)) (h0 : decide ((n_p ≤ 6 ∧ m_p ≤ 6) ∧ i_p ≤ 6 ∧ j_p ≤ 6) = false) :
    Calls Tryz.prog 154 #[.slice (some ⟨g, 0, none⟩) 2 2, .int .i64 6] w fun e w' => e = .returned (.bool false) ∧ Below w.heap.size w w' := by
  have H0 := Lib.hid h0
  clear h0
  have hb : Below w.heap.size w w := Below.refl _ _
  have l0 := L.c0
  have l1 := L.c1
  have l2 := L.c2
  have l3 := L.c3
  have l4 := L.c4
  have l5 := L.c5
  have l6 := L.c6
  have l7 := L.c7
  have l8 := L.c8
  have l9 := L.c9
  have l10 := L.c10
  have l11 := L.c11
  go_enter Tryz.func154, Tryz.ntmps154
  go_wp2_with fail
  refine wp_loop_rounds 3 ?_
  rw [rounds_succ]
  go_wp2_with (first
      | (go_at_call 198; (with_reducible refine (smallpt_6 (s_p := s_p) (A_p := A_p) (n_p := n_p) (c_p := c_p) (B_p := B_p) (m_p := m_p) (d_p := d_p) (t_p := t_p) (E_p := E_p) (i_p := i_p) (e_p := e_p) (F_p := F_p) (j_p := j_p) (f_p := f_p) false H0.out).mono ?_); rintro e w_z ⟨rfl, hh⟩
         try replace L := L.below hh
         replace hb := bend hb hh
         have l0 := L.c0
         have l1 := L.c1
         have l2 := L.c2
         have l3 := L.c3
         have l4 := L.c4
         have l5 := L.c5
         have l6 := L.c6
         have l7 := L.c7
         have l8 := L.c8
         have l9 := L.c9
         have l10 := L.c10
         have l11 := L.c11))
  go_ret
  exact ⟨rfl, hb⟩
set_option maxRecDepth 100000 in
set_option maxHeartbeats 4000000 in
theorem line2_1 {w : World} {g : Nat} {s_p t_p : Bool} {A_p B_p E_p F_p : Option Addr} {n_p c_p m_p d_p i_p e_p j_p f_p : Nat} {s_q t_q : Bool} {A_q B_q E_q F_q : Option Addr} {n_q c_q m_q d_q i_q e_q j_q f_q : Nat} (L : BL2 w g (.bool s_p) (.slice A_p n_p c_p) (.slice B_p m_p d_p) (.bool t_p) (.slice E_p i_p e_p) (.slice F_p j_p f_p) (.bool s_q) (.slice A_q n_q c_q) (.slice B_q m_q d_q) (.bool t_q) (.slice E_q i_q e_q) (.slice F_q j_q f_q)) (h0 : decide ((n_p ≤ 6 ∧ m_p ≤ 6) ∧ i_p ≤ 6 ∧ j_p ≤ 6) = true) (h1 : decide ((n_q ≤ 6 ∧ m_q ≤ 6) ∧ i_q ≤ 6 ∧ j_q ≤ 6) = false) :
    Calls Tryz.prog 154 #[.slice (some ⟨g, 0, none⟩) 2 2, .int .i64 6] w fun e w' => e = .returned (.bool false) ∧ Below w.heap.size w w' := by
  have H0 := Lib.hid h0
  clear h0
  have H1 := Lib.hid h1
  clear h1
  have hb : Below w.heap.size w w := Below.refl _ _
  have l0 := L.c0
  have l1 := L.c1
  have l2 := L.c2
  have l3 := L.c3
  have l4 := L.c4
  have l5 := L.c5
  have l6 := L.c6
  have l7 := L.c7
  have l8 := L.c8
  have l9 := L.c9
  have l10 := L.c10
  have l11 := L.c11
  go_enter Tryz.func154, Tryz.ntmps154
  go_wp2_with fail
  refine wp_loop_rounds 3 ?_
  rw [rounds_succ]
  go_wp2_with (first
      | (go_at_call 198; (with_reducible refine (smallpt_6 (s_p := s_p) (A_p := A_p) (n_p := n_p) (c_p := c_p) (B_p := B_p) (m_p := m_p) (d_p := d_p) (t_p := t_p) (E_p := E_p) (i_p := i_p) (e_p := e_p) (F_p := F_p) (j_p := j_p) (f_p := f_p) true H0.out).mono ?_); rintro e w_z ⟨rfl, hh⟩
         try replace L := L.below hh
         replace hb := bend hb hh
         have l0 := L.c0
         have l1 := L.c1
         have l2 := L.c2
         have l3 := L.c3
         have l4 := L.c4
         have l5 := L.c5
         have l6 := L.c6
         have l7 := L.c7
         have l8 := L.c8
         have l9 := L.c9
         have l10 := L.c10
         have l11 := L.c11))
  rw [rounds_succ]
  go_wp2_with (first
      | (go_at_call 198; (with_reducible refine (smallpt_6 (s_p := s_q) (A_p := A_q) (n_p := n_q) (c_p := c_q) (B_p := B_q) (m_p := m_q) (d_p := d_q) (t_p := t_q) (E_p := E_q) (i_p := i_q) (e_p := e_q) (F_p := F_q) (j_p := j_q) (f_p := f_q) false H1.out).mono ?_); rintro e w_z ⟨rfl, hh⟩
         try replace L := L.below hh
         replace hb := bend hb hh
         have l0 := L.c0
         have l1 := L.c1
         have l2 := L.c2
         have l3 := L.c3
         have l4 := L.c4
         have l5 := L.c5
         have l6 := L.c6
         have l7 := L.c7
         have l8 := L.c8
         have l9 := L.c9
         have l10 := L.c10
         have l11 := L.c11))
  go_ret
  exact ⟨rfl, hb⟩
set_option maxRecDepth 100000 in
set_option maxHeartbeats 4000000 in
theorem line2_2 {w : World} {g : Nat} {s_p t_p : Bool} {A_p B_p E_p F_p : Option Addr} {n_p c_p m_p d_p i_p e_p j_p f_p : Nat} {s_q t_q : Bool} {A_q B_q E_q F_q : Option Addr} {n_q c_q m_q d_q i_q e_q j_q f_q : Nat} (L : BL2 w g (.bool s_p) (.slice A_p n_p c_p) (.slice B_p m_p d_p) (.bool t_p) (.slice E_p i_p e_p) (.slice F_p j_p f_p) (.bool s_q) (.slice A_q n_q c_q) (.slice B_q m_q d_q) (.bool t_q) (.slice E_q i_q e_q) (.slice F_q j_q f_q)) (h0 : decide ((n_p ≤ 6 ∧ m_p ≤ 6) ∧ i_p ≤ 6 ∧ j_p ≤ 6) = true) (h1 : decide ((n_q ≤ 6 ∧ m_q ≤ 6) ∧ i_q ≤ 6 ∧ j_q ≤ 6) = true) :
    Calls Tryz.prog 154 #[.slice (some ⟨g, 0, none⟩) 2 2, .int .i64 6] w fun e w' => e = .returned (.bool true) ∧ Below w.heap.size w w' := by
  have H0 := Lib.hid h0
  clear h0
  have H1 := Lib.hid h1
  clear h1
  have hb : Below w.heap.size w w := Below.refl _ _
  have l0 := L.c0
  have l1 := L.c1
  have l2 := L.c2
  have l3 := L.c3
  have l4 := L.c4
  have l5 := L.c5
  have l6 := L.c6
  have l7 := L.c7
  have l8 := L.c8
  have l9 := L.c9
  have l10 := L.c10
  have l11 := L.c11
  go_enter Tryz.func154, Tryz.ntmps154
  go_wp2_with fail
  refine wp_loop_rounds 3 ?_
  rw [rounds_succ]
  go_wp2_with (first
      | (go_at_call 198; (with_reducible refine (smallpt_6 (s_p := s_p) (A_p := A_p) (n_p := n_p) (c_p := c_p) (B_p := B_p) (m_p := m_p) (d_p := d_p) (t_p := t_p) (E_p := E_p) (i_p := i_p) (e_p := e_p) (F_p := F_p) (j_p := j_p) (f_p := f_p) true H0.out).mono ?_); rintro e w_z ⟨rfl, hh⟩
         try replace L := L.below hh
         replace hb := bend hb hh
         have l0 := L.c0
         have l1 := L.c1
         have l2 := L.c2
         have l3 := L.c3
         have l4 := L.c4
         have l5 := L.c5
         have l6 := L.c6
         have l7 := L.c7
         have l8 := L.c8
         have l9 := L.c9
         have l10 := L.c10
         have l11 := L.c11))
  rw [rounds_succ]
  go_wp2_with (first
      | (go_at_call 198; (with_reducible refine (smallpt_6 (s_p := s_q) (A_p := A_q) (n_p := n_q) (c_p := c_q) (B_p := B_q) (m_p := m_q) (d_p := d_q) (t_p := t_q) (E_p := E_q) (i_p := i_q) (e_p := e_q) (F_p := F_q) (j_p := j_q) (f_p := f_q) true H1.out).mono ?_); rintro e w_z ⟨rfl, hh⟩
         try replace L := L.below hh
         replace hb := bend hb hh
         have l0 := L.c0
         have l1 := L.c1
         have l2 := L.c2
         have l3 := L.c3
         have l4 := L.c4
         have l5 := L.c5
         have l6 := L.c6
         have l7 := L.c7
         have l8 := L.c8
         have l9 := L.c9
         have l10 := L.c10
         have l11 := L.c11))
  rw [rounds_succ]
  go_wp2_with fail
  go_ret
  exact ⟨rfl, hb⟩
theorem line2 {w : World} {g : Nat} {s_p t_p : Bool} {A_p B_p E_p F_p : Option Addr} {n_p c_p m_p d_p i_p e_p j_p f_p : Nat} {s_q t_q : Bool} {A_q B_q E_q F_q : Option Addr} {n_q c_q m_q d_q i_q e_q j_q f_q : Nat} (L : BL2 w g (.bool s_p) (.slice A_p n_p c_p) (.slice B_p m_p d_p) (.bool t_p) (.slice E_p i_p e_p) (.slice F_p j_p f_p) (.bool s_q) (.slice A_q n_q c_q) (.slice B_q m_q d_q) (.bool t_q) (.slice E_q i_q e_q) (.slice F_q j_q f_q)) (R : Bool) (hR : decide (((n_p ≤ 6 ∧ m_p ≤ 6) ∧ i_p ≤ 6 ∧ j_p ≤ 6) ∧ ((n_q ≤ 6 ∧ m_q ≤ 6) ∧ i_q ≤ 6 ∧ j_q ≤ 6)) = R) :
    Calls Tryz.prog 154 #[.slice (some ⟨g, 0, none⟩) 2 2, .int .i64 6] w fun e w' => e = .returned (.bool R) ∧ Below w.heap.size w w' := by
  subst hR
  by_cases h0 : (n_p ≤ 6 ∧ m_p ≤ 6) ∧ i_p ≤ 6 ∧ j_p ≤ 6
  case neg => rw [decide_eq_false (fun q => h0 q.1)]; exact line2_0 L  (decide_eq_false h0)
  by_cases h1 : (n_q ≤ 6 ∧ m_q ≤ 6) ∧ i_q ≤ 6 ∧ j_q ≤ 6
  case neg => rw [decide_eq_false (fun q => h1 q.2)]; exact line2_1 L (decide_eq_true h0) (decide_eq_false h1)
  rw [decide_eq_true ⟨h0, h1⟩]; exact line2_2 L (decide_eq_true h0) (decide_eq_true h1)
set_option maxRecDepth 100000 in
set_option maxHeartbeats 4000000 in
theorem fair2 {w : World} {g : Nat} {s_p t_p : Bool} {A_p B_p E_p F_p : Option Addr} {n_p c_p m_p d_p i_p e_p j_p f_p : Nat} {s_q t_q : Bool} {A_q B_q E_q F_q : Option Addr} {n_q c_q m_q d_q i_q e_q j_q f_q : Nat} (L : BL2 w g (.bool s_p) (.slice A_p n_p c_p) (.slice B_p m_p d_p) (.bool t_p) (.slice E_p i_p e_p) (.slice F_p j_p f_p) (.bool s_q) (.slice A_q n_q c_q) (.slice B_q m_q d_q) (.bool t_q) (.slice E_q i_q e_q) (.slice F_q j_q f_q)) (R : Bool) (hR : decide (((n_p ≤ 6 ∧ m_p ≤ 6) ∧ i_p ≤ 6 ∧ j_p ≤ 6) ∧ ((n_q ≤ 6 ∧ m_q ≤ 6) ∧ i_q ≤ 6 ∧ j_q ≤ 6)) = R) :
    Calls Tryz.prog 66 #[.slice (some ⟨g, 0, none⟩) 2 2] w fun e w' => e = .returned (.bool R) ∧ Below w.heap.size w w' := by
  have HR := Lib.hid hR
  clear hR
  have hb : Below w.heap.size w w := Below.refl _ _
  go_enter Tryz.func66, Tryz.ntmps66
  go_wp2_with (first
      | (go_at_call 154; (with_reducible refine (line2 L R HR.out).mono ?_); rintro e w_z ⟨rfl, hh⟩
         replace hb := bend hb hh))
  go_ret
  exact ⟨rfl, hb⟩
def BL3 (W : World) (g : Nat) (v0 : Value) (v1 : Value) (v2 : Value) (v3 : Value) (v4 : Value) (v5 : Value) (v6 : Value) (v7 : Value) (v8 : Value) (v9 : Value) (v10 : Value) (v11 : Value) (v12 : Value) (v13 : Value) (v14 : Value) (v15 : Value) (v16 : Value) (v17 : Value) : Prop := W.heap[g]? = some (.cells #[v0, v1, v2, v3, v4, v5, v6, v7, v8, v9, v10, v11, v12, v13, v14, v15, v16, v17] 83 (0, 0))
section
variable {W W' : World} {g : Nat} {v0 v1 v2 v3 v4 v5 v6 v7 v8 v9 v10 v11 v12 v13 v14 v15 v16 v17 : Value}
theorem BL3.c0 (h : BL3 W g v0 v1 v2 v3 v4 v5 v6 v7 v8 v9 v10 v11 v12 v13 v14 v15 v16 v17) : W.cell? ⟨g, 0, none⟩ = some v0 := by rw [cell_of_row W g 0 _ _ (0, 0) h]; rfl
theorem BL3.c1 (h : BL3 W g v0 v1 v2 v3 v4 v5 v6 v7 v8 v9 v10 v11 v12 v13 v14 v15 v16 v17) : W.cell? ⟨g, 1, none⟩ = some v1 := by rw [cell_of_row W g 1 _ _ (0, 0) h]; rfl
theorem BL3.c2 (h : BL3 W g v0 v1 v2 v3 v4 v5 v6 v7 v8 v9 v10 v11 v12 v13 v14 v15 v16 v17) : W.cell? ⟨g, 2, none⟩ = some v2 := by rw [cell_of_row W g 2 _ _ (0, 0) h]; rfl
theorem BL3.c3 (h : BL3 W g v0 v1 v2 v3 v4 v5 v6 v7 v8 v9 v10 v11 v12 v13 v14 v15 v16 v17) : W.cell? ⟨g, 3, none⟩ = some v3 := by rw [cell_of_row W g 3 _ _ (0, 0) h]; rfl
theorem BL3.c4 (h : BL3 W g v0 v1 v2 v3 v4 v5 v6 v7 v8 v9 v10 v11 v12 v13 v14 v15 v16 v17) : W.cell? ⟨g, 4, none⟩ = some v4 := by rw [cell_of_row W g 4 _ _ (0, 0) h]; rfl
theorem BL3.c5 (h : BL3 W g v0 v1 v2 v3 v4 v5 v6 v7 v8 v9 v10 v11 v12 v13 v14 v15 v16 v17) : W.cell? ⟨g, 5, none⟩ = some v5 := by rw [cell_of_row W g 5 _ _ (0, 0) h]; rfl
theorem BL3.c6 (h : BL3 W g v0 v1 v2 v3 v4 v5 v6 v7 v8 v9 v10 v11 v12 v13 v14 v15 v16 v17) : W.cell? ⟨g, 6, none⟩ = some v6 := by rw [cell_of_row W g 6 _ _ (0, 0) h]; rfl
theorem BL3.c7 (h : BL3 W g v0 v1 v2 v3 v4 v5 v6 v7 v8 v9 v10 v11 v12 v13 v14 v15 v16 v17) : W.cell? ⟨g, 7, none⟩ = some v7 := by rw [cell_of_row W g 7 _ _ (0, 0) h]; rfl
theorem BL3.c8 (h : BL3 W g v0 v1 v2 v3 v4 v5 v6 v7 v8 v9 v10 v11 v12 v13 v14 v15 v16 v17) : W.cell? ⟨g, 8, none⟩ = some v8 := by rw [cell_of_row W g 8 _ _ (0, 0) h]; rfl
theorem BL3.c9 (h : BL3 W g v0 v1 v2 v3 v4 v5 v6 v7 v8 v9 v10 v11 v12 v13 v14 v15 v16 v17) : W.cell? ⟨g, 9, none⟩ = some v9 := by rw [cell_of_row W g 9 _ _ (0, 0) h]; rfl
theorem BL3.c10 (h : BL3 W g v0 v1 v2 v3 v4 v5 v6 v7 v8 v9 v10 v11 v12 v13 v14 v15 v16 v17) : W.cell? ⟨g, 10, none⟩ = some v10 := by rw [cell_of_row W g 10 _ _ (0, 0) h]; rfl
theorem BL3.c11 (h : BL3 W g v0 v1 v2 v3 v4 v5 v6 v7 v8 v9 v10 v11 v12 v13 v14 v15 v16 v17) : W.cell? ⟨g, 11, none⟩ = some v11 := by rw [cell_of_row W g 11 _ _ (0, 0) h]; rfl
theorem BL3.c15 (h : BL3 W g v0 v1 v2 v3 v4 v5 v6 v7 v8 v9 v10 v11 v12 v13 v14 v15 v16 v17) : W.cell? ⟨g, 15, none⟩ = some v15 := by rw [cell_of_row W g 15 _ _ (0, 0) h]; rfl
theorem BL3.lt (h : BL3 W g v0 v1 v2 v3 v4 v5 v6 v7 v8 v9 v10 v11 v12 v13 v14 v15 v16 v17) : g < W.heap.size := World.block_lt_of_cell? W _ h.c0
theorem BL3.below (h : BL3 W g v0 v1 v2 v3 v4 v5 v6 v7 v8 v9 v10 v11 v12 v13 v14 v15 v16 v17) (hb : Below W.heap.size W W') : BL3 W' g v0 v1 v2 v3 v4 v5 v6 v7 v8 v9 v10 v11 v12 v13 v14 v15 v16 v17 := (hb.block g h.lt).trans h
theorem BL3.alloc (h : BL3 W g v0 v1 v2 v3 v4 v5 v6 v7 v8 v9 v10 v11 v12 v13 v14 v15 v16 v17) (o : Obj) : BL3 (W.alloc o) g v0 v1 v2 v3 v4 v5 v6 v7 v8 v9 v10 v11 v12 v13 v14 v15 v16 v17 := (Below.heap_alloc W o g h.lt).trans h
end
theorem BL3.new' (W : World) (v0 v1 v2 v3 v4 v5 v6 v7 v8 v9 v10 v11 v12 v13 v14 v15 v16 v17 : Value) (g : Nat) (hg : g = W.heap.size) : BL3 (W.alloc (.cells #[v0, v1, v2, v3, v4, v5, v6, v7, v8, v9, v10, v11, v12, v13, v14, v15, v16, v17] 83)) g v0 v1 v2 v3 v4 v5 v6 v7 v8 v9 v10 v11 v12 v13 v14 v15 v16 v17 := by subst hg; exact heap_alloc_new W _
end Go.Proofs.YtlkjkhpjhllapaaGreat
namespace Go.Proofs.YtlkjkhpjhllapaaGreat
open Go Go.RowKit
def GivesKI (w : World) (s : Bool) (l : List Nat) (e : Ending) (w' : World) : Prop :=
  ∃ A n c, e = .returned (.agg #[.bool s, .slice A n c]) ∧ Rd .u64 w' A n l ∧ n ≤ c ∧ Below w.heap.size w w'
def GivesKR (w : World) (s : Bool) (l l' : List Nat) (e : Ending) (w' : World) : Prop :=
  ∃ A n c A' n' c', e = .returned (.agg #[.bool s, .slice A n c, .slice A' n' c']) ∧ Rd .u64 w' A n l ∧ n ≤ c ∧ Rd .u64 w' A' n' l' ∧ n' ≤ c' ∧ Below w.heap.size w w'
set_option maxRecDepth 100000 in
set_option maxHeartbeats 4000000 in
theorem keepInt_any {w : World} {s : Bool} {A : Option Addr} {n c : Nat} {l : List Nat} (X : Rd .u64 w A n l) (hA : A = none → c = 0) (hn : n ≤ 100000) :
    Calls Tryz.prog 101 #[.agg #[.bool s, .slice A n c]] w (GivesKI w s l) := by
  have HA := Lib.hid hA
  clear hA
  go_enter Tryz.func101, Tryz.ntmps101
  go_wp2_with fail
  generalize hW : ((w.alloc (Obj.cells #[Value.bool s, Value.slice A n c] 24)).alloc (Obj.cells #[Value.bool false, Value.slice none 0 0] 24)) = W
  have hb : Below w.heap.size w W := by subst hW; exact (((Below.refl _ _).alloc (Nat.le_refl _) _).alloc (by simp) _)
  have XA : Bx W (w.heap.size) (Value.bool s) (Value.slice A n c) := by subst hW; exact (Bx.new' _ _ _ _ rfl).alloc _
  have Z : Bx W (w.heap.size + 1) (Value.bool false) (Value.slice none 0 0) := by subst hW; exact Bx.new' _ _ _ _ (by simp)
  have hzW : W.heap.size = w.heap.size + 2 := by subst hW; simp
  clear hW
  replace X := X.below hb
  replace X := X.below (Below.refl _ _).drew
  replace XA := XA.below (Below.refl _ _).drew
  replace Z := Z.below (Below.refl _ _).drew
  replace hb := hb.drew
  go_region_held3 (fun w' => w'.cell? ⟨w.heap.size, 0, none⟩ = some (.bool s) ∧ w'.cell? ⟨w.heap.size, 1, none⟩ = some (.slice A n c))
    (first | with_reducible exact ⟨XA.c0, XA.c1⟩ | with_reducible exact ⟨(set2_cell _ _ _ _ _ _ (by omega)).trans (XA.c0), (set2_cell _ _ _ _ _ _ (by omega)).trans (XA.c1)⟩)
    (first
    | (go_at_call 102; (with_reducible refine (keepNat_any l A n c _ X HA.out (by omega)).mono ?_); rintro e w_y ⟨A_y, n_y, c_y, rfl, y1, y2, y3, hh⟩
       try replace X := X.below hh
       try replace XA := XA.below hh
       try replace Z := Z.below hh
       replace hb := bend hb hh
       have z0 := Z.c0
       have z1 := Z.c1
       have z2 := Z.f0
       have z3 := Z.f1))
  go_wp2_with fail
  have Z2 := Z.set2 (.bool s) (.slice A_y n_y c_y)
  have g0 := Z2.c0
  have g1 := Z2.c1
  refine bodyPost_ret (v := .agg #[.bool s, .slice A_y n_y c_y]) (by simp [results, Tryz.results101, go_sem, g0, g1]) rfl ?_
  exact ⟨A_y, n_y, c_y, rfl, y3.rd.only (Z.offx y3.rd) (((Only.refl _ _).setCell 0 _).setCell 1 _), y1, below_set2 hb (by omega) _ _⟩
set_option maxRecDepth 100000 in
set_option maxHeartbeats 4000000 in
theorem keepRat_any {w : World} {s : Bool} {A A' : Option Addr} {n c n' c' : Nat} {l l' : List Nat} (X : Rd .u64 w A n l) (Y : Rd .u64 w A' n' l') (hA : A = none → c = 0) (hA' : A' = none → c' = 0) (hn : n ≤ 100000) (hn' : n' ≤ 100000) :
    Calls Tryz.prog 17 #[.agg #[.bool s, .slice A n c, .slice A' n' c']] w (GivesKR w s l l') := by
  have HA := Lib.hid hA
  have HA' := Lib.hid hA'
  clear hA hA'
  go_enter Tryz.func17, Tryz.ntmps17
  go_wp2_with fail
  generalize hW : ((w.alloc (Obj.cells #[Value.bool s, Value.slice A n c, Value.slice A' n' c'] 26)).alloc (Obj.cells #[Value.bool false, Value.slice none 0 0, Value.slice none 0 0] 26)) = W
  have hb : Below w.heap.size w W := by subst hW; exact (((Below.refl _ _).alloc (Nat.le_refl _) _).alloc (by simp) _)
  have XA : B3 W (w.heap.size) (Value.bool s) (Value.slice A n c) (Value.slice A' n' c') := by subst hW; exact (B3.new' _ _ _ _ _ rfl).alloc _
  have Z : B3 W (w.heap.size + 1) (Value.bool false) (Value.slice none 0 0) (Value.slice none 0 0) := by subst hW; exact B3.new' _ _ _ _ _ (by simp)
  have hzW : W.heap.size = w.heap.size + 2 := by subst hW; simp
  clear hW
  replace X := X.below hb
  replace Y := Y.below hb
  replace X := X.below (Below.refl _ _).drew
  replace Y := Y.below (Below.refl _ _).drew
  replace XA := XA.below (Below.refl _ _).drew
  replace Z := Z.below (Below.refl _ _).drew
  replace hb := hb.drew
  go_region_held3 (fun w' => w'.cell? ⟨w.heap.size, 0, none⟩ = some (.bool s) ∧ w'.cell? ⟨w.heap.size, 1, none⟩ = some (.slice A n c) ∧ w'.cell? ⟨w.heap.size, 2, none⟩ = some (.slice A' n' c'))
    (first | with_reducible exact ⟨XA.c0, XA.c1, XA.c2⟩ | with_reducible exact ⟨(set3_cell _ _ _ _ _ _ _ (by omega)).trans (XA.c0), (set3_cell _ _ _ _ _ _ _ (by omega)).trans (XA.c1), (set3_cell _ _ _ _ _ _ _ (by omega)).trans (XA.c2)⟩)
    (first
    | (go_at_call 101; (with_reducible refine (keepInt_any X HA.out (by omega)).mono ?_); rintro e w_p ⟨A_p, n_p, c_p, rfl, p, pc, hh⟩
       try replace X := X.below hh
       try replace Y := Y.below hh
       try replace XA := XA.below hh
       try replace Z := Z.below hh
       replace hb := bend hb hh)
    | (go_at_call 102; (with_reducible refine (keepNat_any l' A' n' c' _ Y HA'.out (by omega)).mono ?_); rintro e w_y ⟨A_y, n_y, c_y, rfl, y1, y2, y3, hh⟩
       try replace X := X.below hh
       try replace Y := Y.below hh
       try replace p := p.below hh
       try replace XA := XA.below hh
       try replace Z := Z.below hh
       replace hb := bend hb hh
       have zf0 := Z.f0
       have zf1 := Z.f1
       have zf2 := Z.f2
       have z0 := Z.c0
       have z1 := Z.c1
       have z2 := Z.c2))
  go_wp2_with fail
  have Z2 := Z.set3 (.bool s) (.slice A_p n_p c_p) (.slice A_y n_y c_y)
  have g0 := Z2.c0
  have g1 := Z2.c1
  have g2 := Z2.c2
  refine bodyPost_ret (v := .agg #[.bool s, .slice A_p n_p c_p, .slice A_y n_y c_y]) (by simp [results, Tryz.results17, go_sem, g0, g1, g2]) rfl ?_
  have ho := (((Only.refl (w.heap.size + 1) w_y).setCell 0 (Value.bool s)).setCell 1 (Value.slice A_p n_p c_p)).setCell 2 (Value.slice A_y n_y c_y)
  exact ⟨A_p, n_p, c_p, A_y, n_y, c_y, rfl, p.only (Z.offx p) ho, pc, y3.rd.only (Z.offx y3.rd) ho, y1, below_set3 hb (by omega) _ _ _⟩
theorem goodZ_is {s : Bool} {la : List Nat} (L : Lim B64 la) : (s == decide (iv s (val B64 la) < 0) && decide (la = limbs B64 (iv s (val B64 la)).natAbs)) = goodZ s la := by
  rw [iv_natAbs]
  unfold goodZ goodB
  by_cases hg : la.getLast? = some 0
  · have hne : la ≠ limbs B64 (val B64 la) := by
      intro h
      have := limbs_last B64_two (val B64 la)
      rw [← h] at this
      exact this hg
    simp [hg, hne]
  · have he := limbs_val B64_two L hg
    have h1 : (la.getLast? != some 0) = true := by simpa using hg
    rw [h1, decide_eq_true he.symm, Bool.and_true, Bool.true_and]
    have hz : la.length = 0 ↔ val B64 la = 0 := by
      constructor
      · intro h; rw [List.length_eq_zero_iff.1 h]; rfl
      · intro h; rw [← he, h, limbs_zero]; rfl
    cases s
    · have : ¬ iv false (val B64 la) < 0 := by simp [iv]
      simp [this]
    · by_cases h0 : val B64 la = 0
      · have h2 := hz.2 h0
        have : ¬ iv true (val B64 la) < 0 := by simp [iv, h0]
        simp [this, h2]
      · have h2 : ¬ la.length = 0 := fun q => h0 (hz.1 q)
        have : iv true (val B64 la) < 0 := by simp [iv]; omega
        simp [this, h2]
def canon (s : Bool) (l l' : List Nat) : Bool := ((goodZ s l && goodB l') && decide (0 < l'.length)) && decide (Nat.gcd (val B64 l) (val B64 l') = 1)
theorem goodB_eq {l : List Nat} (L : Lim B64 l) : goodB l = decide (l = limbs B64 (val B64 l)) := by
  unfold goodB
  by_cases h : l.getLast? = some 0
  · rw [h]
    have : l ≠ limbs B64 (val B64 l) := fun q => by rw [q] at h; exact limbs_last B64_two _ h
    simp [this]
  · have e := limbs_val B64_two L h
    have : l = limbs B64 (val B64 l) := e.symm
    rw [decide_eq_true this]
    simpa using h
theorem good_pos {l : List Nat} (_L : Lim B64 l) (h : l = limbs B64 (val B64 l)) (h0 : 0 < l.length) : val B64 l ≠ 0 := by
  intro q
  rw [q, limbs_zero] at h
  rw [h] at h0
  exact absurd h0 (by decide)
theorem canon_eq {s : Bool} {l l' : List Nat} (L : Lim B64 l) (L' : Lim B64 l') {v : Rat} (hv : v = mkRat (iv s (val B64 l)) (den1 (val B64 l'))) :
    ((s == decide (v.num < 0) && decide (l = limbs B64 v.num.natAbs)) && decide (l' = limbs B64 v.den)) = canon s l l' := by
  rw [Bool.eq_iff_iff]
  constructor
  · intro h
    rw [Bool.and_eq_true, Bool.and_eq_true] at h
    obtain ⟨⟨h1, h2⟩, h3⟩ := h
    have h1 : s = decide (v.num < 0) := by simpa using h1
    have h2 := of_decide_eq_true h2
    have h3 := of_decide_eq_true h3
    have e1 : val B64 l = v.num.natAbs := by rw [h2, val_limbs B64_two]
    have e2 : val B64 l' = v.den := by rw [h3, val_limbs B64_two]
    unfold canon
    rw [e1, e2, decide_eq_true (show Nat.gcd v.num.natAbs v.den = 1 from v.reduced), h1, h2, goodZ_good, goodB_eq L', e2, decide_eq_true h3]
    have : 0 < l'.length := by rw [h3, limbs_pos B64_two v.den_nz]; simp
    rw [decide_eq_true this]; rfl
  · intro h
    unfold canon at h
    rw [Bool.and_eq_true, Bool.and_eq_true, Bool.and_eq_true] at h
    obtain ⟨⟨⟨h1, h2⟩, h3⟩, h4⟩ := h
    rw [goodB_eq L'] at h2
    have h2 := of_decide_eq_true h2
    have h3 := of_decide_eq_true h3
    have h4 := of_decide_eq_true h4
    have hq := good_pos L' h2 h3
    rw [den1_of hq] at hv
    have e1 : v.num = iv s (val B64 l) ∧ v.den = val B64 l' := by
      have hc : Nat.gcd (iv s (val B64 l)).natAbs (val B64 l') = 1 := by rw [iv_natAbs]; exact h4
      have := Rat.mk_eq_mkRat (iv s (val B64 l)) (val B64 l') hq hc
      rw [hv, ← this]; exact ⟨rfl, rfl⟩
    rw [← goodZ_is L] at h1
    rw [e1.1, e1.2, h1, decide_eq_true h2]; rfl
set_option maxRecDepth 100000 in
set_option maxHeartbeats 4000000 in
theorem good_l0 {w : World} {s : Bool} {A A' : Option Addr} {n c n' c' : Nat} {l l' : List Nat} (X : Rd .u64 w A n l) (Y : Rd .u64 w A' n' l') (L : Lim B64 l) (L' : Lim B64 l') (hc : n ≤ c) (hc' : n' ≤ c') (hn : n ≤ 900) (hn' : n' ≤ 900) (hg : goodZ s l = false) :
    Calls Tryz.prog 35 #[.agg #[.bool s, .slice A n c, .slice A' n' c']] w fun e w' => e = .returned (.bool false) ∧ Below w.heap.size w w' := by
  have HG := Lib.hid hg
  have x : ZR w s A n c (iv s (val B64 l)) 900 := ZR.of_rd X L hc hn
  have y : NR w A' n' c' (val B64 l') 900 := ⟨l', Y, L', rfl, hc', hn'⟩
  have HN1 : Hid (n ≤ maxLen) := by show n ≤ maxLen; unfold maxLen; omega
  have HN2 : Hid (n' ≤ maxLen) := by show n' ≤ maxLen; unfold maxLen; omega
  clear hg L L' hc hc' hn hn'
  go_enter Tryz.func35, Tryz.ntmps35
  go_wp2_with fail
  generalize hW : (w.alloc (Obj.cells #[Value.bool s, Value.slice A n c, Value.slice A' n' c'] 26)) = W
  have hb : Below w.heap.size w W := by subst hW; exact ((Below.refl _ _).alloc (Nat.le_refl _) _)
  have XA : B3 W (w.heap.size) (Value.bool s) (Value.slice A n c) (Value.slice A' n' c') := by subst hW; exact B3.new' _ _ _ _ _ rfl
  have hzW : W.heap.size = w.heap.size + 1 := by subst hW; simp
  clear hW
  replace X := X.below hb
  replace Y := Y.below hb
  replace x := x.below hb
  replace y := y.below hb
  have xa0 := XA.c0
  have xa1 := XA.c1
  have xa2 := XA.c2
  go_wp2_with (first
      | (go_at_call 119; (with_reducible refine (zgood_any _ _ A n c _ X HN1.out).mono ?_); rintro e w_z ⟨rfl, hh⟩
         rw [HG.out]
         try replace X := X.below hh
         try replace Y := Y.below hh
         try replace x := x.below hh
         try replace y := y.below hh
         try replace XA := XA.below hh
         replace hb := bend hb hh
         have xa0 := XA.c0
         have xa1 := XA.c1
         have xa2 := XA.c2))
  go_ret
  exact ⟨rfl, hb⟩
set_option maxRecDepth 100000 in
set_option maxHeartbeats 4000000 in
theorem good_l1 {w : World} {s : Bool} {A A' : Option Addr} {n c n' c' : Nat} {l l' : List Nat} (X : Rd .u64 w A n l) (Y : Rd .u64 w A' n' l') (L : Lim B64 l) (L' : Lim B64 l') (hc : n ≤ c) (hc' : n' ≤ c') (hn : n ≤ 900) (hn' : n' ≤ 900) (hg : goodZ s l = true) (hbb : goodB l' = false) :
    Calls Tryz.prog 35 #[.agg #[.bool s, .slice A n c, .slice A' n' c']] w fun e w' => e = .returned (.bool false) ∧ Below w.heap.size w w' := by
  have HG := Lib.hid hg
  have HB := Lib.hid hbb
  have x : ZR w s A n c (iv s (val B64 l)) 900 := ZR.of_rd X L hc hn
  have y : NR w A' n' c' (val B64 l') 900 := ⟨l', Y, L', rfl, hc', hn'⟩
  have HN1 : Hid (n ≤ maxLen) := by show n ≤ maxLen; unfold maxLen; omega
  have HN2 : Hid (n' ≤ maxLen) := by show n' ≤ maxLen; unfold maxLen; omega
  clear hg L L' hc hc' hn hn' hbb
  go_enter Tryz.func35, Tryz.ntmps35
  go_wp2_with fail
  generalize hW : (w.alloc (Obj.cells #[Value.bool s, Value.slice A n c, Value.slice A' n' c'] 26)) = W
  have hb : Below w.heap.size w W := by subst hW; exact ((Below.refl _ _).alloc (Nat.le_refl _) _)
  have XA : B3 W (w.heap.size) (Value.bool s) (Value.slice A n c) (Value.slice A' n' c') := by subst hW; exact B3.new' _ _ _ _ _ rfl
  have hzW : W.heap.size = w.heap.size + 1 := by subst hW; simp
  clear hW
  replace X := X.below hb
  replace Y := Y.below hb
  replace x := x.below hb
  replace y := y.below hb
  have xa0 := XA.c0
  have xa1 := XA.c1
  have xa2 := XA.c2
  go_wp2_with (first
      | (go_at_call 119; (with_reducible refine (zgood_any _ _ A n c _ X HN1.out).mono ?_); rintro e w_z ⟨rfl, hh⟩
         rw [HG.out]
         try replace X := X.below hh
         try replace Y := Y.below hh
         try replace x := x.below hh
         try replace y := y.below hh
         try replace XA := XA.below hh
         replace hb := bend hb hh
         have xa0 := XA.c0
         have xa1 := XA.c1
         have xa2 := XA.c2)
      | (go_at_call 120; (with_reducible refine (good_any _ A' n' c' _ Y HN2.out).mono ?_); rintro e w_o ⟨rfl, rfl⟩; rw [HB.out]))
  go_ret
  exact ⟨rfl, hb⟩
set_option maxRecDepth 100000 in
set_option maxHeartbeats 4000000 in
theorem good_l2 {w : World} {s : Bool} {A A' : Option Addr} {n c n' c' : Nat} {l l' : List Nat} (X : Rd .u64 w A n l) (Y : Rd .u64 w A' n' l') (L : Lim B64 l) (L' : Lim B64 l') (hc : n ≤ c) (hc' : n' ≤ c') (hn : n ≤ 900) (hn' : n' ≤ 900) (hg : goodZ s l = true) (hbb : goodB l' = true) (hpos : ¬ (0 : Int) < (n' : Int)) :
    Calls Tryz.prog 35 #[.agg #[.bool s, .slice A n c, .slice A' n' c']] w fun e w' => e = .returned (.bool false) ∧ Below w.heap.size w w' := by
  have HG := Lib.hid hg
  have HB := Lib.hid hbb
  have x : ZR w s A n c (iv s (val B64 l)) 900 := ZR.of_rd X L hc hn
  have y : NR w A' n' c' (val B64 l') 900 := ⟨l', Y, L', rfl, hc', hn'⟩
  have HN1 : Hid (n ≤ maxLen) := by show n ≤ maxLen; unfold maxLen; omega
  have HN2 : Hid (n' ≤ maxLen) := by show n' ≤ maxLen; unfold maxLen; omega
  clear hg L L' hc hc' hn hn' hbb
  go_enter Tryz.func35, Tryz.ntmps35
  go_wp2_with fail
  generalize hW : (w.alloc (Obj.cells #[Value.bool s, Value.slice A n c, Value.slice A' n' c'] 26)) = W
  have hb : Below w.heap.size w W := by subst hW; exact ((Below.refl _ _).alloc (Nat.le_refl _) _)
  have XA : B3 W (w.heap.size) (Value.bool s) (Value.slice A n c) (Value.slice A' n' c') := by subst hW; exact B3.new' _ _ _ _ _ rfl
  have hzW : W.heap.size = w.heap.size + 1 := by subst hW; simp
  clear hW
  replace X := X.below hb
  replace Y := Y.below hb
  replace x := x.below hb
  replace y := y.below hb
  have xa0 := XA.c0
  have xa1 := XA.c1
  have xa2 := XA.c2
  go_wp2_with (first
      | (go_at_call 119; (with_reducible refine (zgood_any _ _ A n c _ X HN1.out).mono ?_); rintro e w_z ⟨rfl, hh⟩
         rw [HG.out]
         try replace X := X.below hh
         try replace Y := Y.below hh
         try replace x := x.below hh
         try replace y := y.below hh
         try replace XA := XA.below hh
         replace hb := bend hb hh
         have xa0 := XA.c0
         have xa1 := XA.c1
         have xa2 := XA.c2)
      | (go_at_call 120; (with_reducible refine (good_any _ A' n' c' _ Y HN2.out).mono ?_); rintro e w_o ⟨rfl, rfl⟩; rw [HB.out]))
  go_ret
  exact ⟨rfl, hb⟩
set_option maxRecDepth 100000 in
set_option maxHeartbeats 4000000 in
theorem good_l3 {w : World} {s : Bool} {A A' : Option Addr} {n c n' c' : Nat} {l l' : List Nat} (X : Rd .u64 w A n l) (Y : Rd .u64 w A' n' l') (L : Lim B64 l) (L' : Lim B64 l') (hc : n ≤ c) (hc' : n' ≤ c') (hn : n ≤ 900) (hn' : n' ≤ 900) (hg : goodZ s l = true) (hbb : goodB l' = true) (hpos : (0 : Int) < (n' : Int)) :
    Calls Tryz.prog 35 #[.agg #[.bool s, .slice A n c, .slice A' n' c']] w fun e w' => e = .returned (.bool (decide (Nat.gcd (val B64 l) (val B64 l') = 1))) ∧ Below w.heap.size w w' := by
  have HG := Lib.hid hg
  have HB := Lib.hid hbb
  have x : ZR w s A n c (iv s (val B64 l)) 900 := ZR.of_rd X L hc hn
  have y : NR w A' n' c' (val B64 l') 900 := ⟨l', Y, L', rfl, hc', hn'⟩
  have HN1 : Hid (n ≤ maxLen) := by show n ≤ maxLen; unfold maxLen; omega
  have HN2 : Hid (n' ≤ maxLen) := by show n' ≤ maxLen; unfold maxLen; omega
  have HC : Hid (decide (Nat.gcd (iv s (val B64 l)).natAbs (val B64 l') = 1) = decide (Nat.gcd (val B64 l) (val B64 l') = 1)) := by show _ = _; rw [iv_natAbs]
  clear hg L L' hc hc' hn hn' hbb
  go_enter Tryz.func35, Tryz.ntmps35
  go_wp2_with fail
  generalize hW : (w.alloc (Obj.cells #[Value.bool s, Value.slice A n c, Value.slice A' n' c'] 26)) = W
  have hb : Below w.heap.size w W := by subst hW; exact ((Below.refl _ _).alloc (Nat.le_refl _) _)
  have XA : B3 W (w.heap.size) (Value.bool s) (Value.slice A n c) (Value.slice A' n' c') := by subst hW; exact B3.new' _ _ _ _ _ rfl
  have hzW : W.heap.size = w.heap.size + 1 := by subst hW; simp
  clear hW
  replace X := X.below hb
  replace Y := Y.below hb
  replace x := x.below hb
  replace y := y.below hb
  have xa0 := XA.c0
  have xa1 := XA.c1
  have xa2 := XA.c2
  go_wp2_with (first
      | (go_at_call 119; (with_reducible refine (zgood_any _ _ A n c _ X HN1.out).mono ?_); rintro e w_z ⟨rfl, hh⟩
         rw [HG.out]
         try replace X := X.below hh
         try replace Y := Y.below hh
         try replace x := x.below hh
         try replace y := y.below hh
         try replace XA := XA.below hh
         replace hb := bend hb hh
         have xa0 := XA.c0
         have xa1 := XA.c1
         have xa2 := XA.c2)
      | (go_at_call 120; (with_reducible refine (good_any _ A' n' c' _ Y HN2.out).mono ?_); rintro e w_o ⟨rfl, rfl⟩; rw [HB.out])
      | (go_at_call 121; (with_reducible refine (coprime_q x y (by omega)).mono ?_); rintro e w_z2 ⟨rfl, hh⟩
         rw [HC.out]
         try replace X := X.below hh
         try replace Y := Y.below hh
         try replace x := x.below hh
         try replace y := y.below hh
         try replace XA := XA.below hh
         replace hb := bend hb hh
         have xa0 := XA.c0
         have xa1 := XA.c1
         have xa2 := XA.c2))
  go_ret
  exact ⟨rfl, hb⟩
theorem good_l {w : World} {s : Bool} {A A' : Option Addr} {n c n' c' : Nat} {l l' : List Nat} (X : Rd .u64 w A n l) (Y : Rd .u64 w A' n' l') (L : Lim B64 l) (L' : Lim B64 l') (hc : n ≤ c) (hc' : n' ≤ c') (hn : n ≤ 900) (hn' : n' ≤ 900) (R : Bool) (hR : canon s l l' = R) :
    Calls Tryz.prog 35 #[.agg #[.bool s, .slice A n c, .slice A' n' c']] w fun e w' => e = .returned (.bool R) ∧ Below w.heap.size w w' := by
  have hlen := Y.1
  cases h1 : goodZ s l with
  | false =>
    obtain rfl : R = false := by rw [← hR]; unfold canon; rw [h1]; rfl
    exact good_l0 X Y L L' hc hc' hn hn' h1
  | true =>
    cases h2 : goodB l' with
    | false =>
      obtain rfl : R = false := by rw [← hR]; unfold canon; rw [h1, h2]; rfl
      exact good_l1 X Y L L' hc hc' hn hn' h1 h2
    | true =>
      by_cases h3 : (0 : Int) < (n' : Int)
      · obtain rfl : R = decide (Nat.gcd (val B64 l) (val B64 l') = 1) := by
          rw [← hR]; unfold canon; rw [h1, h2, decide_eq_true (show 0 < l'.length by omega)]; rfl
        exact good_l3 X Y L L' hc hc' hn hn' h1 h2 h3
      · obtain rfl : R = false := by
          rw [← hR]; unfold canon; rw [h1, h2, decide_eq_false (show ¬ 0 < l'.length by omega)]; rfl
        exact good_l2 X Y L L' hc hc' hn hn' h1 h2 h3
end Go.Proofs.YtlkjkhpjhllapaaGreat
