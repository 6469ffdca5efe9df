/- PtReckons: part 16. -/
import Derived.Test.YtlkjkhpjhllapaaGreatKPtReckons15
set_option linter.unusedVariables false
namespace Go.Proofs.YtlkjkhpjhllapaaGreat
open Go Go.RowKit
set_option maxRecDepth 100000 in
set_option maxHeartbeats 4000000 in
theorem rin6 {w : World} {k : Nat} {x y : Rat} {s_p t_p : Bool} {A_p B_p E_p F_p : Option Addr} {n_p c_p m_p d_p i_p e_p j_p f_p : Nat} (p : PR w s_p A_p n_p c_p B_p m_p d_p t_p E_p i_p e_p F_p j_p f_p x y k) (hk : k ≤ 1000) (h1 : 1 ≤ k) :
    Calls Tryz.prog 68 #[.agg #[.bool s_p, .slice A_p n_p c_p, .slice B_p m_p d_p, .bool t_p, .slice E_p i_p e_p, .slice F_p j_p f_p]] w (GivesRP w x y (2 * k)) := by
  go_enter Tryz.func68, Tryz.ntmps68
  go_upto_region 1 with (fail)
  generalize hW : ((w.alloc (Obj.cells #[Value.bool s_p, Value.slice A_p n_p c_p, Value.slice B_p m_p d_p, Value.bool t_p, Value.slice E_p i_p e_p, Value.slice F_p j_p f_p] 83)).alloc (Obj.cells #[Value.bool false, Value.slice none 0 0, Value.slice none 0 0, Value.bool false, Value.slice none 0 0, Value.slice none 0 0] 86)) = W
  have hb : Below w.heap.size w W := by subst hW; exact (((Below.refl _ _).alloc (Nat.le_refl _) _).alloc (by simp) _)
  have XA : B6 W (w.heap.size) (Value.bool s_p) (Value.slice A_p n_p c_p) (Value.slice B_p m_p d_p) (Value.bool t_p) (Value.slice E_p i_p e_p) (Value.slice F_p j_p f_p) := by subst hW; exact (B6.new' _ _ _ _ _ _ _ _ rfl).alloc _
  have Z : B6R W (w.heap.size + 1) (Value.bool false) (Value.slice none 0 0) (Value.slice none 0 0) (Value.bool false) (Value.slice none 0 0) (Value.slice none 0 0) := by subst hW; exact B6R.new' _ _ _ _ _ _ _ _ (by simp)
  have hzW : W.heap.size = w.heap.size + 2 := by subst hW; simp
  clear hW
  replace p := p.below hb
  replace p := p.below (Below.refl _ _).drew
  replace XA := XA.below (Below.refl _ _).drew
  replace Z := Z.below (Below.refl _ _).drew
  replace hb := hb.drew
  go_region_held3 (fun w' => w'.cell? ⟨w.heap.size, 0, none⟩ = some (.bool s_p) ∧ w'.cell? ⟨w.heap.size, 1, none⟩ = some (.slice A_p n_p c_p) ∧ w'.cell? ⟨w.heap.size, 2, none⟩ = some (.slice B_p m_p d_p) ∧ w'.cell? ⟨w.heap.size, 3, none⟩ = some (.bool t_p) ∧ w'.cell? ⟨w.heap.size, 4, none⟩ = some (.slice E_p i_p e_p) ∧ w'.cell? ⟨w.heap.size, 5, none⟩ = some (.slice F_p j_p f_p))
    (first | with_reducible exact ⟨XA.c0, XA.c1, XA.c2, XA.c3, XA.c4, XA.c5⟩ | with_reducible exact ⟨(set6_cell _ _ _ _ _ _ _ _ _ _ (by omega)).trans XA.c0, (set6_cell _ _ _ _ _ _ _ _ _ _ (by omega)).trans XA.c1, (set6_cell _ _ _ _ _ _ _ _ _ _ (by omega)).trans XA.c2, (set6_cell _ _ _ _ _ _ _ _ _ _ (by omega)).trans XA.c3, (set6_cell _ _ _ _ _ _ _ _ _ _ (by omega)).trans XA.c4, (set6_cell _ _ _ _ _ _ _ _ _ _ (by omega)).trans XA.c5⟩)
    (first
    | (go_at_call 16; (with_reducible refine (rin3 p.qx hk h1).mono ?_); rintro e w_r ⟨s_r, A_r, n_r, c_r, B_r, m_r, d_r, rfl, r, hh⟩
       try replace p := p.below hh
       try replace XA := XA.below hh
       try replace Z := Z.below hh
       replace hb := bend hb hh)
    | (go_at_call 16; (with_reducible refine (rin3 p.qy hk h1).mono ?_); rintro e w_u ⟨s_u, A_u, n_u, c_u, B_u, m_u, d_u, rfl, u, hh⟩
       try replace p := p.below hh
       try replace r := r.below hh
       try replace XA := XA.below hh
       try replace Z := Z.below hh
       replace hb := bend hb hh
       have zg0 := Z.f0
       have zg1 := Z.f1
       have zg2 := Z.f2
       have zg3 := Z.f3
       have zg4 := Z.f4
       have zg5 := Z.f5
       have zc0 := Z.c0
       have zc1 := Z.c1
       have zc2 := Z.c2
       have zc3 := Z.c3
       have zc4 := Z.c4
       have zc5 := Z.c5))
  go_wp2_with fail
  have Z2 := Z.set6 (.bool s_r) (.slice A_r n_r c_r) (.slice B_r m_r d_r) (.bool s_u) (.slice A_u n_u c_u) (.slice B_u m_u d_u)
  have g0 := Z2.c0
  have g1 := Z2.c1
  have g2 := Z2.c2
  have g3 := Z2.c3
  have g4 := Z2.c4
  have g5 := Z2.c5
  refine bodyPost_ret (v := .agg #[.bool s_r, .slice A_r n_r c_r, .slice B_r m_r d_r, .bool s_u, .slice A_u n_u c_u, .slice B_u m_u d_u]) (by simp [results, Tryz.results68, go_sem, g0, g1, g2, g3, g4, g5]) rfl ?_
  exact ⟨_, _, _, _, _, _, _, _, _, _, _, _, _, _, rfl, (show RP _ _ _ _ _ _ _ _ _ _ _ _ _ _ _ _ _ _ from ⟨r, u⟩).set6 Z _ _ _ _ _ _, below_set6 hb (by omega) _ _ _ _ _ _⟩
set_option maxRecDepth 100000 in
set_option maxHeartbeats 4000000 in
theorem radd6 {w : World} {k k2 : Nat} {x y x2 y2 : Rat} {s_p t_p : Bool} {A_p B_p E_p F_p : Option Addr} {n_p c_p m_p d_p i_p e_p j_p f_p : Nat} {s_q t_q : Bool} {A_q B_q E_q F_q : Option Addr} {n_q c_q m_q d_q i_q e_q j_q f_q : Nat} (p : RP w s_p A_p n_p c_p B_p m_p d_p t_p E_p i_p e_p F_p j_p f_p x y k) (q : RP w s_q A_q n_q c_q B_q m_q d_q t_q E_q i_q e_q F_q j_q f_q x2 y2 k2) (hk : k ≤ 1000) (hk2 : k2 ≤ 1000) :
    Calls Tryz.prog 74 #[.agg #[.bool s_p, .slice A_p n_p c_p, .slice B_p m_p d_p, .bool t_p, .slice E_p i_p e_p, .slice F_p j_p f_p], .agg #[.bool s_q, .slice A_q n_q c_q, .slice B_q m_q d_q, .bool t_q, .slice E_q i_q e_q, .slice F_q j_q f_q]] w (GivesRP w (x + x2) (y + y2) (k + k2 + 1)) := by
  go_enter Tryz.func74, Tryz.ntmps74
  go_upto_region 1 with (fail)
  generalize hW : (((w.alloc (Obj.cells #[Value.bool s_p, Value.slice A_p n_p c_p, Value.slice B_p m_p d_p, Value.bool t_p, Value.slice E_p i_p e_p, Value.slice F_p j_p f_p] 86)).alloc (Obj.cells #[Value.bool s_q, Value.slice A_q n_q c_q, Value.slice B_q m_q d_q, Value.bool t_q, Value.slice E_q i_q e_q, Value.slice F_q j_q f_q] 86)).alloc (Obj.cells #[Value.bool false, Value.slice none 0 0, Value.slice none 0 0, Value.bool false, Value.slice none 0 0, Value.slice none 0 0] 86)) = W
  have hb : Below w.heap.size w W := by subst hW; exact ((((Below.refl _ _).alloc (Nat.le_refl _) _).alloc (by simp) _).alloc (by simp; omega) _)
  have XA : B6R W (w.heap.size) (Value.bool s_p) (Value.slice A_p n_p c_p) (Value.slice B_p m_p d_p) (Value.bool t_p) (Value.slice E_p i_p e_p) (Value.slice F_p j_p f_p) := by subst hW; exact ((B6R.new' _ _ _ _ _ _ _ _ rfl).alloc _).alloc _
  have XB : B6R W (w.heap.size + 1) (Value.bool s_q) (Value.slice A_q n_q c_q) (Value.slice B_q m_q d_q) (Value.bool t_q) (Value.slice E_q i_q e_q) (Value.slice F_q j_q f_q) := by subst hW; exact (B6R.new' _ _ _ _ _ _ _ _ (by simp)).alloc _
  have Z : B6R W (w.heap.size + 1 + 1) (Value.bool false) (Value.slice none 0 0) (Value.slice none 0 0) (Value.bool false) (Value.slice none 0 0) (Value.slice none 0 0) := by subst hW; exact B6R.new' _ _ _ _ _ _ _ _ (by simp)
  have hzW : W.heap.size = w.heap.size + 3 := by subst hW; simp
  clear hW
  replace p := p.below hb
  replace q := q.below hb
  replace p := p.below (Below.refl _ _).drew
  replace q := q.below (Below.refl _ _).drew
  replace XA := XA.below (Below.refl _ _).drew
  replace XB := XB.below (Below.refl _ _).drew
  replace Z := Z.below (Below.refl _ _).drew
  replace hb := hb.drew
  go_region_held3 (fun w' => w'.cell? ⟨w.heap.size, 0, none⟩ = some (.bool s_p) ∧ w'.cell? ⟨w.heap.size, 1, none⟩ = some (.slice A_p n_p c_p) ∧ w'.cell? ⟨w.heap.size, 2, none⟩ = some (.slice B_p m_p d_p) ∧ w'.cell? ⟨w.heap.size, 3, none⟩ = some (.bool t_p) ∧ w'.cell? ⟨w.heap.size, 4, none⟩ = some (.slice E_p i_p e_p) ∧ w'.cell? ⟨w.heap.size, 5, none⟩ = some (.slice F_p j_p f_p) ∧ w'.cell? ⟨w.heap.size + 1, 0, none⟩ = some (.bool s_q) ∧ w'.cell? ⟨w.heap.size + 1, 1, none⟩ = some (.slice A_q n_q c_q) ∧ w'.cell? ⟨w.heap.size + 1, 2, none⟩ = some (.slice B_q m_q d_q) ∧ w'.cell? ⟨w.heap.size + 1, 3, none⟩ = some (.bool t_q) ∧ w'.cell? ⟨w.heap.size + 1, 4, none⟩ = some (.slice E_q i_q e_q) ∧ w'.cell? ⟨w.heap.size + 1, 5, none⟩ = some (.slice F_q j_q f_q))
    (first | with_reducible exact ⟨XA.c0, XA.c1, XA.c2, XA.c3, XA.c4, XA.c5, XB.c0, XB.c1, XB.c2, XB.c3, XB.c4, XB.c5⟩ | with_reducible exact ⟨(set6_cell _ _ _ _ _ _ _ _ _ _ (by omega)).trans XA.c0, (set6_cell _ _ _ _ _ _ _ _ _ _ (by omega)).trans XA.c1, (set6_cell _ _ _ _ _ _ _ _ _ _ (by omega)).trans XA.c2, (set6_cell _ _ _ _ _ _ _ _ _ _ (by omega)).trans XA.c3, (set6_cell _ _ _ _ _ _ _ _ _ _ (by omega)).trans XA.c4, (set6_cell _ _ _ _ _ _ _ _ _ _ (by omega)).trans XA.c5, (set6_cell _ _ _ _ _ _ _ _ _ _ (by omega)).trans XB.c0, (set6_cell _ _ _ _ _ _ _ _ _ _ (by omega)).trans XB.c1, (set6_cell _ _ _ _ _ _ _ _ _ _ (by omega)).trans XB.c2, (set6_cell _ _ _ _ _ _ _ _ _ _ (by omega)).trans XB.c3, (set6_cell _ _ _ _ _ _ _ _ _ _ (by omega)).trans XB.c4, (set6_cell _ _ _ _ _ _ _ _ _ _ (by omega)).trans XB.c5⟩)
    (first
    | (go_at_call 23; (with_reducible refine (radd3 p.qx q.qx (by omega) (by omega)).mono ?_); rintro e w_r ⟨s_r, A_r, n_r, c_r, B_r, m_r, d_r, rfl, r, hh⟩
       try replace p := p.below hh
       try replace q := q.below hh
       try replace XA := XA.below hh
       try replace XB := XB.below hh
       try replace Z := Z.below hh
       replace hb := bend hb hh)
    | (go_at_call 23; (with_reducible refine (radd3 p.qy q.qy (by omega) (by omega)).mono ?_); rintro e w_u ⟨s_u, A_u, n_u, c_u, B_u, m_u, d_u, rfl, u, hh⟩
       try replace p := p.below hh
       try replace q := q.below hh
       try replace r := r.below hh
       try replace XA := XA.below hh
       try replace XB := XB.below hh
       try replace Z := Z.below hh
       replace hb := bend hb hh
       have zg0 := Z.f0
       have zg1 := Z.f1
       have zg2 := Z.f2
       have zg3 := Z.f3
       have zg4 := Z.f4
       have zg5 := Z.f5
       have zc0 := Z.c0
       have zc1 := Z.c1
       have zc2 := Z.c2
       have zc3 := Z.c3
       have zc4 := Z.c4
       have zc5 := Z.c5))
  go_wp2_with fail
  have Z2 := Z.set6 (.bool s_r) (.slice A_r n_r c_r) (.slice B_r m_r d_r) (.bool s_u) (.slice A_u n_u c_u) (.slice B_u m_u d_u)
  have g0 := Z2.c0
  have g1 := Z2.c1
  have g2 := Z2.c2
  have g3 := Z2.c3
  have g4 := Z2.c4
  have g5 := Z2.c5
  refine bodyPost_ret (v := .agg #[.bool s_r, .slice A_r n_r c_r, .slice B_r m_r d_r, .bool s_u, .slice A_u n_u c_u, .slice B_u m_u d_u]) (by simp [results, Tryz.results74, go_sem, g0, g1, g2, g3, g4, g5]) rfl ?_
  exact ⟨_, _, _, _, _, _, _, _, _, _, _, _, _, _, rfl, (show RP _ _ _ _ _ _ _ _ _ _ _ _ _ _ _ _ _ _ from ⟨r, u⟩).set6 Z _ _ _ _ _ _, below_set6 hb (by omega) _ _ _ _ _ _⟩
set_option maxRecDepth 100000 in
set_option maxHeartbeats 4000000 in
theorem rsub6 {w : World} {k k2 : Nat} {x y x2 y2 : Rat} {s_p t_p : Bool} {A_p B_p E_p F_p : Option Addr} {n_p c_p m_p d_p i_p e_p j_p f_p : Nat} {s_q t_q : Bool} {A_q B_q E_q F_q : Option Addr} {n_q c_q m_q d_q i_q e_q j_q f_q : Nat} (p : RP w s_p A_p n_p c_p B_p m_p d_p t_p E_p i_p e_p F_p j_p f_p x y k) (q : RP w s_q A_q n_q c_q B_q m_q d_q t_q E_q i_q e_q F_q j_q f_q x2 y2 k2) (hk : k ≤ 1000) (hk2 : k2 ≤ 1000) :
    Calls Tryz.prog 76 #[.agg #[.bool s_p, .slice A_p n_p c_p, .slice B_p m_p d_p, .bool t_p, .slice E_p i_p e_p, .slice F_p j_p f_p], .agg #[.bool s_q, .slice A_q n_q c_q, .slice B_q m_q d_q, .bool t_q, .slice E_q i_q e_q, .slice F_q j_q f_q]] w (GivesRP w (x - x2) (y - y2) (k + k2 + 1)) := by
  go_enter Tryz.func76, Tryz.ntmps76
  go_upto_region 1 with (fail)
  generalize hW : (((w.alloc (Obj.cells #[Value.bool s_p, Value.slice A_p n_p c_p, Value.slice B_p m_p d_p, Value.bool t_p, Value.slice E_p i_p e_p, Value.slice F_p j_p f_p] 86)).alloc (Obj.cells #[Value.bool s_q, Value.slice A_q n_q c_q, Value.slice B_q m_q d_q, Value.bool t_q, Value.slice E_q i_q e_q, Value.slice F_q j_q f_q] 86)).alloc (Obj.cells #[Value.bool false, Value.slice none 0 0, Value.slice none 0 0, Value.bool false, Value.slice none 0 0, Value.slice none 0 0] 86)) = W
  have hb : Below w.heap.size w W := by subst hW; exact ((((Below.refl _ _).alloc (Nat.le_refl _) _).alloc (by simp) _).alloc (by simp; omega) _)
  have XA : B6R W (w.heap.size) (Value.bool s_p) (Value.slice A_p n_p c_p) (Value.slice B_p m_p d_p) (Value.bool t_p) (Value.slice E_p i_p e_p) (Value.slice F_p j_p f_p) := by subst hW; exact ((B6R.new' _ _ _ _ _ _ _ _ rfl).alloc _).alloc _
  have XB : B6R W (w.heap.size + 1) (Value.bool s_q) (Value.slice A_q n_q c_q) (Value.slice B_q m_q d_q) (Value.bool t_q) (Value.slice E_q i_q e_q) (Value.slice F_q j_q f_q) := by subst hW; exact (B6R.new' _ _ _ _ _ _ _ _ (by simp)).alloc _
  have Z : B6R W (w.heap.size + 1 + 1) (Value.bool false) (Value.slice none 0 0) (Value.slice none 0 0) (Value.bool false) (Value.slice none 0 0) (Value.slice none 0 0) := by subst hW; exact B6R.new' _ _ _ _ _ _ _ _ (by simp)
  have hzW : W.heap.size = w.heap.size + 3 := by subst hW; simp
  clear hW
  replace p := p.below hb
  replace q := q.below hb
  replace p := p.below (Below.refl _ _).drew
  replace q := q.below (Below.refl _ _).drew
  replace XA := XA.below (Below.refl _ _).drew
  replace XB := XB.below (Below.refl _ _).drew
  replace Z := Z.below (Below.refl _ _).drew
  replace hb := hb.drew
  go_region_held3 (fun w' => w'.cell? ⟨w.heap.size, 0, none⟩ = some (.bool s_p) ∧ w'.cell? ⟨w.heap.size, 1, none⟩ = some (.slice A_p n_p c_p) ∧ w'.cell? ⟨w.heap.size, 2, none⟩ = some (.slice B_p m_p d_p) ∧ w'.cell? ⟨w.heap.size, 3, none⟩ = some (.bool t_p) ∧ w'.cell? ⟨w.heap.size, 4, none⟩ = some (.slice E_p i_p e_p) ∧ w'.cell? ⟨w.heap.size, 5, none⟩ = some (.slice F_p j_p f_p) ∧ w'.cell? ⟨w.heap.size + 1, 0, none⟩ = some (.bool s_q) ∧ w'.cell? ⟨w.heap.size + 1, 1, none⟩ = some (.slice A_q n_q c_q) ∧ w'.cell? ⟨w.heap.size + 1, 2, none⟩ = some (.slice B_q m_q d_q) ∧ w'.cell? ⟨w.heap.size + 1, 3, none⟩ = some (.bool t_q) ∧ w'.cell? ⟨w.heap.size + 1, 4, none⟩ = some (.slice E_q i_q e_q) ∧ w'.cell? ⟨w.heap.size + 1, 5, none⟩ = some (.slice F_q j_q f_q))
    (first | with_reducible exact ⟨XA.c0, XA.c1, XA.c2, XA.c3, XA.c4, XA.c5, XB.c0, XB.c1, XB.c2, XB.c3, XB.c4, XB.c5⟩ | with_reducible exact ⟨(set6_cell _ _ _ _ _ _ _ _ _ _ (by omega)).trans XA.c0, (set6_cell _ _ _ _ _ _ _ _ _ _ (by omega)).trans XA.c1, (set6_cell _ _ _ _ _ _ _ _ _ _ (by omega)).trans XA.c2, (set6_cell _ _ _ _ _ _ _ _ _ _ (by omega)).trans XA.c3, (set6_cell _ _ _ _ _ _ _ _ _ _ (by omega)).trans XA.c4, (set6_cell _ _ _ _ _ _ _ _ _ _ (by omega)).trans XA.c5, (set6_cell _ _ _ _ _ _ _ _ _ _ (by omega)).trans XB.c0, (set6_cell _ _ _ _ _ _ _ _ _ _ (by omega)).trans XB.c1, (set6_cell _ _ _ _ _ _ _ _ _ _ (by omega)).trans XB.c2, (set6_cell _ _ _ _ _ _ _ _ _ _ (by omega)).trans XB.c3, (set6_cell _ _ _ _ _ _ _ _ _ _ (by omega)).trans XB.c4, (set6_cell _ _ _ _ _ _ _ _ _ _ (by omega)).trans XB.c5⟩)
    (first
    | (go_at_call 25; (with_reducible refine (rsub3 p.qx q.qx (by omega) (by omega)).mono ?_); rintro e w_r ⟨s_r, A_r, n_r, c_r, B_r, m_r, d_r, rfl, r, hh⟩
       try replace p := p.below hh
       try replace q := q.below hh
       try replace XA := XA.below hh
       try replace XB := XB.below hh
       try replace Z := Z.below hh
       replace hb := bend hb hh)
    | (go_at_call 25; (with_reducible refine (rsub3 p.qy q.qy (by omega) (by omega)).mono ?_); rintro e w_u ⟨s_u, A_u, n_u, c_u, B_u, m_u, d_u, rfl, u, hh⟩
       try replace p := p.below hh
       try replace q := q.below hh
       try replace r := r.below hh
       try replace XA := XA.below hh
       try replace XB := XB.below hh
       try replace Z := Z.below hh
       replace hb := bend hb hh
       have zg0 := Z.f0
       have zg1 := Z.f1
       have zg2 := Z.f2
       have zg3 := Z.f3
       have zg4 := Z.f4
       have zg5 := Z.f5
       have zc0 := Z.c0
       have zc1 := Z.c1
       have zc2 := Z.c2
       have zc3 := Z.c3
       have zc4 := Z.c4
       have zc5 := Z.c5))
  go_wp2_with fail
  have Z2 := Z.set6 (.bool s_r) (.slice A_r n_r c_r) (.slice B_r m_r d_r) (.bool s_u) (.slice A_u n_u c_u) (.slice B_u m_u d_u)
  have g0 := Z2.c0
  have g1 := Z2.c1
  have g2 := Z2.c2
  have g3 := Z2.c3
  have g4 := Z2.c4
  have g5 := Z2.c5
  refine bodyPost_ret (v := .agg #[.bool s_r, .slice A_r n_r c_r, .slice B_r m_r d_r, .bool s_u, .slice A_u n_u c_u, .slice B_u m_u d_u]) (by simp [results, Tryz.results76, go_sem, g0, g1, g2, g3, g4, g5]) rfl ?_
  exact ⟨_, _, _, _, _, _, _, _, _, _, _, _, _, _, rfl, (show RP _ _ _ _ _ _ _ _ _ _ _ _ _ _ _ _ _ _ from ⟨r, u⟩).set6 Z _ _ _ _ _ _, below_set6 hb (by omega) _ _ _ _ _ _⟩
set_option maxRecDepth 100000 in
set_option maxHeartbeats 4000000 in
theorem rscale6 {w : World} {k k2 : Nat} {x y t : Rat} {s_p t_p : Bool} {A_p B_p E_p F_p : Option Addr} {n_p c_p m_p d_p i_p e_p j_p f_p : Nat} {s : Bool} {A A' : Option Addr} {n c n' c' : Nat} (p : RP w s_p A_p n_p c_p B_p m_p d_p t_p E_p i_p e_p F_p j_p f_p x y k) (v : RQ w s A n c A' n' c' t k2) (hk : k ≤ 1000) (hk2 : k2 ≤ 1000) :
    Calls Tryz.prog 78 #[.agg #[.bool s_p, .slice A_p n_p c_p, .slice B_p m_p d_p, .bool t_p, .slice E_p i_p e_p, .slice F_p j_p f_p], .agg #[.bool s, .slice A n c, .slice A' n' c']] w (GivesRP w (x * t) (y * t) (k + k2)) := by
  go_enter Tryz.func78, Tryz.ntmps78
  go_upto_region 1 with (fail)
  generalize hW : (((w.alloc (Obj.cells #[Value.bool s_p, Value.slice A_p n_p c_p, Value.slice B_p m_p d_p, Value.bool t_p, Value.slice E_p i_p e_p, Value.slice F_p j_p f_p] 86)).alloc (Obj.cells #[Value.bool s, Value.slice A n c, Value.slice A' n' c'] 34)).alloc (Obj.cells #[Value.bool false, Value.slice none 0 0, Value.slice none 0 0, Value.bool false, Value.slice none 0 0, Value.slice none 0 0] 86)) = W
  have hb : Below w.heap.size w W := by subst hW; exact ((((Below.refl _ _).alloc (Nat.le_refl _) _).alloc (by simp) _).alloc (by simp; omega) _)
  have XA : B6R W (w.heap.size) (Value.bool s_p) (Value.slice A_p n_p c_p) (Value.slice B_p m_p d_p) (Value.bool t_p) (Value.slice E_p i_p e_p) (Value.slice F_p j_p f_p) := by subst hW; exact ((B6R.new' _ _ _ _ _ _ _ _ rfl).alloc _).alloc _
  have XB : B3R W (w.heap.size + 1) (Value.bool s) (Value.slice A n c) (Value.slice A' n' c') := by subst hW; exact (B3R.new' _ _ _ _ _ (by simp)).alloc _
  have Z : B6R W (w.heap.size + 1 + 1) (Value.bool false) (Value.slice none 0 0) (Value.slice none 0 0) (Value.bool false) (Value.slice none 0 0) (Value.slice none 0 0) := by subst hW; exact B6R.new' _ _ _ _ _ _ _ _ (by simp)
  have hzW : W.heap.size = w.heap.size + 3 := by subst hW; simp
  clear hW
  replace p := p.below hb
  replace v := v.below hb
  replace p := p.below (Below.refl _ _).drew
  replace v := v.below (Below.refl _ _).drew
  replace XA := XA.below (Below.refl _ _).drew
  replace XB := XB.below (Below.refl _ _).drew
  replace Z := Z.below (Below.refl _ _).drew
  replace hb := hb.drew
  go_region_held3 (fun w' => w'.cell? ⟨w.heap.size, 0, none⟩ = some (.bool s_p) ∧ w'.cell? ⟨w.heap.size, 1, none⟩ = some (.slice A_p n_p c_p) ∧ w'.cell? ⟨w.heap.size, 2, none⟩ = some (.slice B_p m_p d_p) ∧ w'.cell? ⟨w.heap.size, 3, none⟩ = some (.bool t_p) ∧ w'.cell? ⟨w.heap.size, 4, none⟩ = some (.slice E_p i_p e_p) ∧ w'.cell? ⟨w.heap.size, 5, none⟩ = some (.slice F_p j_p f_p) ∧ w'.cell? ⟨w.heap.size + 1, 0, none⟩ = some (.bool s) ∧ w'.cell? ⟨w.heap.size + 1, 1, none⟩ = some (.slice A n c) ∧ w'.cell? ⟨w.heap.size + 1, 2, none⟩ = some (.slice A' n' c'))
    (first | with_reducible exact ⟨XA.c0, XA.c1, XA.c2, XA.c3, XA.c4, XA.c5, XB.c0, XB.c1, XB.c2⟩ | with_reducible exact ⟨(set6_cell _ _ _ _ _ _ _ _ _ _ (by omega)).trans XA.c0, (set6_cell _ _ _ _ _ _ _ _ _ _ (by omega)).trans XA.c1, (set6_cell _ _ _ _ _ _ _ _ _ _ (by omega)).trans XA.c2, (set6_cell _ _ _ _ _ _ _ _ _ _ (by omega)).trans XA.c3, (set6_cell _ _ _ _ _ _ _ _ _ _ (by omega)).trans XA.c4, (set6_cell _ _ _ _ _ _ _ _ _ _ (by omega)).trans XA.c5, (set6_cell _ _ _ _ _ _ _ _ _ _ (by omega)).trans XB.c0, (set6_cell _ _ _ _ _ _ _ _ _ _ (by omega)).trans XB.c1, (set6_cell _ _ _ _ _ _ _ _ _ _ (by omega)).trans XB.c2⟩)
    (first
    | (go_at_call 27; (with_reducible refine (rmul3 p.qx v (by omega) (by omega)).mono ?_); rintro e w_r ⟨s_r, A_r, n_r, c_r, B_r, m_r, d_r, rfl, r, hh⟩
       try replace p := p.below hh
       try replace v := v.below hh
       try replace XA := XA.below hh
       try replace XB := XB.below hh
       try replace Z := Z.below hh
       replace hb := bend hb hh)
    | (go_at_call 27; (with_reducible refine (rmul3 p.qy v (by omega) (by omega)).mono ?_); rintro e w_u ⟨s_u, A_u, n_u, c_u, B_u, m_u, d_u, rfl, u, hh⟩
       try replace p := p.below hh
       try replace v := v.below hh
       try replace r := r.below hh
       try replace XA := XA.below hh
       try replace XB := XB.below hh
       try replace Z := Z.below hh
       replace hb := bend hb hh
       have zg0 := Z.f0
       have zg1 := Z.f1
       have zg2 := Z.f2
       have zg3 := Z.f3
       have zg4 := Z.f4
       have zg5 := Z.f5
       have zc0 := Z.c0
       have zc1 := Z.c1
       have zc2 := Z.c2
       have zc3 := Z.c3
       have zc4 := Z.c4
       have zc5 := Z.c5))
  go_wp2_with fail
  have Z2 := Z.set6 (.bool s_r) (.slice A_r n_r c_r) (.slice B_r m_r d_r) (.bool s_u) (.slice A_u n_u c_u) (.slice B_u m_u d_u)
  have g0 := Z2.c0
  have g1 := Z2.c1
  have g2 := Z2.c2
  have g3 := Z2.c3
  have g4 := Z2.c4
  have g5 := Z2.c5
  refine bodyPost_ret (v := .agg #[.bool s_r, .slice A_r n_r c_r, .slice B_r m_r d_r, .bool s_u, .slice A_u n_u c_u, .slice B_u m_u d_u]) (by simp [results, Tryz.results78, go_sem, g0, g1, g2, g3, g4, g5]) rfl ?_
  exact ⟨_, _, _, _, _, _, _, _, _, _, _, _, _, _, rfl, (show RP _ _ _ _ _ _ _ _ _ _ _ _ _ _ _ _ _ _ from ⟨r, u⟩).set6 Z _ _ _ _ _ _, below_set6 hb (by omega) _ _ _ _ _ _⟩
set_option maxRecDepth 100000 in
set_option maxHeartbeats 4000000 in
theorem rmix6 {w : World} {k k2 k3 : Nat} {x y x2 y2 t : Rat} {s_p t_p : Bool} {A_p B_p E_p F_p : Option Addr} {n_p c_p m_p d_p i_p e_p j_p f_p : Nat} {s_q t_q : Bool} {A_q B_q E_q F_q : Option Addr} {n_q c_q m_q d_q i_q e_q j_q f_q : Nat} {s : Bool} {A A' : Option Addr} {n c n' c' : Nat} (p : RP w s_p A_p n_p c_p B_p m_p d_p t_p E_p i_p e_p F_p j_p f_p x y k) (q : RP w s_q A_q n_q c_q B_q m_q d_q t_q E_q i_q e_q F_q j_q f_q x2 y2 k2) (v : RQ w s A n c A' n' c' t k3) (hk : k ≤ 300) (hk2 : k2 ≤ 300) (hk3 : k3 ≤ 300) :
    Calls Tryz.prog 80 #[.agg #[.bool s_p, .slice A_p n_p c_p, .slice B_p m_p d_p, .bool t_p, .slice E_p i_p e_p, .slice F_p j_p f_p], .agg #[.bool s_q, .slice A_q n_q c_q, .slice B_q m_q d_q, .bool t_q, .slice E_q i_q e_q, .slice F_q j_q f_q], .agg #[.bool s, .slice A n c, .slice A' n' c']] w (GivesRP w (x + (x2 - x) * t) (y + (y2 - y) * t) (k + (k2 + k + 1 + k3) + 1)) := by
  go_enter Tryz.func80, Tryz.ntmps80
  go_upto_region 1 with (fail)
  generalize hW : ((((w.alloc (Obj.cells #[Value.bool s_p, Value.slice A_p n_p c_p, Value.slice B_p m_p d_p, Value.bool t_p, Value.slice E_p i_p e_p, Value.slice F_p j_p f_p] 86)).alloc (Obj.cells #[Value.bool s_q, Value.slice A_q n_q c_q, Value.slice B_q m_q d_q, Value.bool t_q, Value.slice E_q i_q e_q, Value.slice F_q j_q f_q] 86)).alloc (Obj.cells #[Value.bool s, Value.slice A n c, Value.slice A' n' c'] 34)).alloc (Obj.cells #[Value.bool false, Value.slice none 0 0, Value.slice none 0 0, Value.bool false, Value.slice none 0 0, Value.slice none 0 0] 86)) = W
  have hb : Below w.heap.size w W := by subst hW; exact (((((Below.refl _ _).alloc (Nat.le_refl _) _).alloc (by simp) _).alloc (by simp; omega) _).alloc (by simp; omega) _)
  have XA : B6R W (w.heap.size) (Value.bool s_p) (Value.slice A_p n_p c_p) (Value.slice B_p m_p d_p) (Value.bool t_p) (Value.slice E_p i_p e_p) (Value.slice F_p j_p f_p) := by subst hW; exact (((B6R.new' _ _ _ _ _ _ _ _ rfl).alloc _).alloc _).alloc _
  have XB : B6R W (w.heap.size + 1) (Value.bool s_q) (Value.slice A_q n_q c_q) (Value.slice B_q m_q d_q) (Value.bool t_q) (Value.slice E_q i_q e_q) (Value.slice F_q j_q f_q) := by subst hW; exact ((B6R.new' _ _ _ _ _ _ _ _ (by simp)).alloc _).alloc _
  have XC : B3R W (w.heap.size + 1 + 1) (Value.bool s) (Value.slice A n c) (Value.slice A' n' c') := by subst hW; exact (B3R.new' _ _ _ _ _ (by simp)).alloc _
  have Z : B6R W (w.heap.size + 1 + 1 + 1) (Value.bool false) (Value.slice none 0 0) (Value.slice none 0 0) (Value.bool false) (Value.slice none 0 0) (Value.slice none 0 0) := by subst hW; exact B6R.new' _ _ _ _ _ _ _ _ (by simp)
  have hzW : W.heap.size = w.heap.size + 4 := by subst hW; simp
  clear hW
  replace p := p.below hb
  replace q := q.below hb
  replace v := v.below hb
  replace p := p.below (Below.refl _ _).drew
  replace q := q.below (Below.refl _ _).drew
  replace v := v.below (Below.refl _ _).drew
  replace XA := XA.below (Below.refl _ _).drew
  replace XB := XB.below (Below.refl _ _).drew
  replace XC := XC.below (Below.refl _ _).drew
  replace Z := Z.below (Below.refl _ _).drew
  replace hb := hb.drew
  go_region_held3 (fun w' => w'.cell? ⟨w.heap.size, 0, none⟩ = some (.bool s_p) ∧ w'.cell? ⟨w.heap.size, 1, none⟩ = some (.slice A_p n_p c_p) ∧ w'.cell? ⟨w.heap.size, 2, none⟩ = some (.slice B_p m_p d_p) ∧ w'.cell? ⟨w.heap.size, 3, none⟩ = some (.bool t_p) ∧ w'.cell? ⟨w.heap.size, 4, none⟩ = some (.slice E_p i_p e_p) ∧ w'.cell? ⟨w.heap.size, 5, none⟩ = some (.slice F_p j_p f_p) ∧ w'.cell? ⟨w.heap.size + 1, 0, none⟩ = some (.bool s_q) ∧ w'.cell? ⟨w.heap.size + 1, 1, none⟩ = some (.slice A_q n_q c_q) ∧ w'.cell? ⟨w.heap.size + 1, 2, none⟩ = some (.slice B_q m_q d_q) ∧ w'.cell? ⟨w.heap.size + 1, 3, none⟩ = some (.bool t_q) ∧ w'.cell? ⟨w.heap.size + 1, 4, none⟩ = some (.slice E_q i_q e_q) ∧ w'.cell? ⟨w.heap.size + 1, 5, none⟩ = some (.slice F_q j_q f_q) ∧ w'.cell? ⟨w.heap.size + 1 + 1, 0, none⟩ = some (.bool s) ∧ w'.cell? ⟨w.heap.size + 1 + 1, 1, none⟩ = some (.slice A n c) ∧ w'.cell? ⟨w.heap.size + 1 + 1, 2, none⟩ = some (.slice A' n' c'))
    (first | with_reducible exact ⟨XA.c0, XA.c1, XA.c2, XA.c3, XA.c4, XA.c5, XB.c0, XB.c1, XB.c2, XB.c3, XB.c4, XB.c5, XC.c0, XC.c1, XC.c2⟩ | with_reducible exact ⟨(set6_cell _ _ _ _ _ _ _ _ _ _ (by omega)).trans XA.c0, (set6_cell _ _ _ _ _ _ _ _ _ _ (by omega)).trans XA.c1, (set6_cell _ _ _ _ _ _ _ _ _ _ (by omega)).trans XA.c2, (set6_cell _ _ _ _ _ _ _ _ _ _ (by omega)).trans XA.c3, (set6_cell _ _ _ _ _ _ _ _ _ _ (by omega)).trans XA.c4, (set6_cell _ _ _ _ _ _ _ _ _ _ (by omega)).trans XA.c5, (set6_cell _ _ _ _ _ _ _ _ _ _ (by omega)).trans XB.c0, (set6_cell _ _ _ _ _ _ _ _ _ _ (by omega)).trans XB.c1, (set6_cell _ _ _ _ _ _ _ _ _ _ (by omega)).trans XB.c2, (set6_cell _ _ _ _ _ _ _ _ _ _ (by omega)).trans XB.c3, (set6_cell _ _ _ _ _ _ _ _ _ _ (by omega)).trans XB.c4, (set6_cell _ _ _ _ _ _ _ _ _ _ (by omega)).trans XB.c5, (set6_cell _ _ _ _ _ _ _ _ _ _ (by omega)).trans XC.c0, (set6_cell _ _ _ _ _ _ _ _ _ _ (by omega)).trans XC.c1, (set6_cell _ _ _ _ _ _ _ _ _ _ (by omega)).trans XC.c2⟩)
    (first
    | (go_at_call 76; (with_reducible refine (rsub6 q p (by omega) (by omega)).mono ?_); rintro e w_a ⟨s_a, A_a, n_a, c_a, B_a, m_a, d_a, t_a, E_a, i_a, e_a, F_a, j_a, f_a, rfl, a, hh⟩
       try replace p := p.below hh
       try replace q := q.below hh
       try replace v := v.below hh
       try replace XA := XA.below hh
       try replace XB := XB.below hh
       try replace XC := XC.below hh
       try replace Z := Z.below hh
       replace hb := bend hb hh)
    | (go_at_call 78; (with_reducible refine (rscale6 a v (by omega) (by omega)).mono ?_); rintro e w_b ⟨s_b, A_b, n_b, c_b, B_b, m_b, d_b, t_b, E_b, i_b, e_b, F_b, j_b, f_b, rfl, b, hh⟩
       try replace p := p.below hh
       try replace q := q.below hh
       try replace v := v.below hh
       try replace XA := XA.below hh
       try replace XB := XB.below hh
       try replace XC := XC.below hh
       try replace Z := Z.below hh
       replace hb := bend hb hh)
    | (go_at_call 74; (with_reducible refine (radd6 p b (by omega) (by omega)).mono ?_); rintro e w_r ⟨s_r, A_r, n_r, c_r, B_r, m_r, d_r, t_r, E_r, i_r, e_r, F_r, j_r, f_r, rfl, r, hh⟩
       try replace XA := XA.below hh
       try replace XB := XB.below hh
       try replace XC := XC.below hh
       try replace Z := Z.below hh
       replace hb := bend hb hh
       have zg0 := Z.f0
       have zg1 := Z.f1
       have zg2 := Z.f2
       have zg3 := Z.f3
       have zg4 := Z.f4
       have zg5 := Z.f5
       have zc0 := Z.c0
       have zc1 := Z.c1
       have zc2 := Z.c2
       have zc3 := Z.c3
       have zc4 := Z.c4
       have zc5 := Z.c5))
  go_wp2_with fail
  have Z2 := Z.set6 (.bool s_r) (.slice A_r n_r c_r) (.slice B_r m_r d_r) (.bool t_r) (.slice E_r i_r e_r) (.slice F_r j_r f_r)
  have g0 := Z2.c0
  have g1 := Z2.c1
  have g2 := Z2.c2
  have g3 := Z2.c3
  have g4 := Z2.c4
  have g5 := Z2.c5
  refine bodyPost_ret (v := .agg #[.bool s_r, .slice A_r n_r c_r, .slice B_r m_r d_r, .bool t_r, .slice E_r i_r e_r, .slice F_r j_r f_r]) (by simp [results, Tryz.results80, go_sem, g0, g1, g2, g3, g4, g5]) rfl ?_
  exact ⟨s_r, A_r, n_r, c_r, B_r, m_r, d_r, t_r, E_r, i_r, e_r, F_r, j_r, f_r, rfl, r.set6 Z _ _ _ _ _ _, below_set6 hb (by omega) _ _ _ _ _ _⟩
set_option maxRecDepth 100000 in
set_option maxHeartbeats 4000000 in
theorem rdot6 {w : World} {k k2 : Nat} {x y x2 y2 : Rat} {s_p t_p : Bool} {A_p B_p E_p F_p : Option Addr} {n_p c_p m_p d_p i_p e_p j_p f_p : Nat} {s_q t_q : Bool} {A_q B_q E_q F_q : Option Addr} {n_q c_q m_q d_q i_q e_q j_q f_q : Nat} (p : RP w s_p A_p n_p c_p B_p m_p d_p t_p E_p i_p e_p F_p j_p f_p x y k) (q : RP w s_q A_q n_q c_q B_q m_q d_q t_q E_q i_q e_q F_q j_q f_q x2 y2 k2) (hk : k ≤ 1000) (hk2 : k2 ≤ 1000) :
    Calls Tryz.prog 82 #[.agg #[.bool s_p, .slice A_p n_p c_p, .slice B_p m_p d_p, .bool t_p, .slice E_p i_p e_p, .slice F_p j_p f_p], .agg #[.bool s_q, .slice A_q n_q c_q, .slice B_q m_q d_q, .bool t_q, .slice E_q i_q e_q, .slice F_q j_q f_q]] w (GivesRQ w (x * x2 + y * y2) (k + k2 + (k + k2) + 1)) := by
  go_enter Tryz.func82, Tryz.ntmps82
  go_upto_region 1 with (fail)
  generalize hW : (((w.alloc (Obj.cells #[Value.bool s_p, Value.slice A_p n_p c_p, Value.slice B_p m_p d_p, Value.bool t_p, Value.slice E_p i_p e_p, Value.slice F_p j_p f_p] 86)).alloc (Obj.cells #[Value.bool s_q, Value.slice A_q n_q c_q, Value.slice B_q m_q d_q, Value.bool t_q, Value.slice E_q i_q e_q, Value.slice F_q j_q f_q] 86)).alloc (Obj.cells #[Value.bool false, Value.slice none 0 0, Value.slice none 0 0] 34)) = W
  have hb : Below w.heap.size w W := by subst hW; exact ((((Below.refl _ _).alloc (Nat.le_refl _) _).alloc (by simp) _).alloc (by simp; omega) _)
  have XA : B6R W (w.heap.size) (Value.bool s_p) (Value.slice A_p n_p c_p) (Value.slice B_p m_p d_p) (Value.bool t_p) (Value.slice E_p i_p e_p) (Value.slice F_p j_p f_p) := by subst hW; exact ((B6R.new' _ _ _ _ _ _ _ _ rfl).alloc _).alloc _
  have XB : B6R W (w.heap.size + 1) (Value.bool s_q) (Value.slice A_q n_q c_q) (Value.slice B_q m_q d_q) (Value.bool t_q) (Value.slice E_q i_q e_q) (Value.slice F_q j_q f_q) := by subst hW; exact (B6R.new' _ _ _ _ _ _ _ _ (by simp)).alloc _
  have Z : B3R W (w.heap.size + 1 + 1) (Value.bool false) (Value.slice none 0 0) (Value.slice none 0 0) := by subst hW; exact B3R.new' _ _ _ _ _ (by simp)
  have hzW : W.heap.size = w.heap.size + 3 := by subst hW; simp
  clear hW
  replace p := p.below hb
  replace q := q.below hb
  replace p := p.below (Below.refl _ _).drew
  replace q := q.below (Below.refl _ _).drew
  replace XA := XA.below (Below.refl _ _).drew
  replace XB := XB.below (Below.refl _ _).drew
  replace Z := Z.below (Below.refl _ _).drew
  replace hb := hb.drew
  go_region_held3 (fun w' => w'.cell? ⟨w.heap.size, 0, none⟩ = some (.bool s_p) ∧ w'.cell? ⟨w.heap.size, 1, none⟩ = some (.slice A_p n_p c_p) ∧ w'.cell? ⟨w.heap.size, 2, none⟩ = some (.slice B_p m_p d_p) ∧ w'.cell? ⟨w.heap.size, 3, none⟩ = some (.bool t_p) ∧ w'.cell? ⟨w.heap.size, 4, none⟩ = some (.slice E_p i_p e_p) ∧ w'.cell? ⟨w.heap.size, 5, none⟩ = some (.slice F_p j_p f_p) ∧ w'.cell? ⟨w.heap.size + 1, 0, none⟩ = some (.bool s_q) ∧ w'.cell? ⟨w.heap.size + 1, 1, none⟩ = some (.slice A_q n_q c_q) ∧ w'.cell? ⟨w.heap.size + 1, 2, none⟩ = some (.slice B_q m_q d_q) ∧ w'.cell? ⟨w.heap.size + 1, 3, none⟩ = some (.bool t_q) ∧ w'.cell? ⟨w.heap.size + 1, 4, none⟩ = some (.slice E_q i_q e_q) ∧ w'.cell? ⟨w.heap.size + 1, 5, none⟩ = some (.slice F_q j_q f_q))
    (first | with_reducible exact ⟨XA.c0, XA.c1, XA.c2, XA.c3, XA.c4, XA.c5, XB.c0, XB.c1, XB.c2, XB.c3, XB.c4, XB.c5⟩ | with_reducible exact ⟨(set3_cell _ _ _ _ _ _ _ (by omega)).trans XA.c0, (set3_cell _ _ _ _ _ _ _ (by omega)).trans XA.c1, (set3_cell _ _ _ _ _ _ _ (by omega)).trans XA.c2, (set3_cell _ _ _ _ _ _ _ (by omega)).trans XA.c3, (set3_cell _ _ _ _ _ _ _ (by omega)).trans XA.c4, (set3_cell _ _ _ _ _ _ _ (by omega)).trans XA.c5, (set3_cell _ _ _ _ _ _ _ (by omega)).trans XB.c0, (set3_cell _ _ _ _ _ _ _ (by omega)).trans XB.c1, (set3_cell _ _ _ _ _ _ _ (by omega)).trans XB.c2, (set3_cell _ _ _ _ _ _ _ (by omega)).trans XB.c3, (set3_cell _ _ _ _ _ _ _ (by omega)).trans XB.c4, (set3_cell _ _ _ _ _ _ _ (by omega)).trans XB.c5⟩)
    (first
    | (go_at_call 27; (with_reducible refine (rmul3 p.qx q.qx (by omega) (by omega)).mono ?_); rintro e w_r ⟨s_r, A_r, n_r, c_r, B_r, m_r, d_r, rfl, r, hh⟩
       try replace p := p.below hh
       try replace q := q.below hh
       try replace XA := XA.below hh
       try replace XB := XB.below hh
       try replace Z := Z.below hh
       replace hb := bend hb hh)
    | (go_at_call 27; (with_reducible refine (rmul3 p.qy q.qy (by omega) (by omega)).mono ?_); rintro e w_u ⟨s_u, A_u, n_u, c_u, B_u, m_u, d_u, rfl, u, hh⟩
       try replace p := p.below hh
       try replace q := q.below hh
       try replace r := r.below hh
       try replace XA := XA.below hh
       try replace XB := XB.below hh
       try replace Z := Z.below hh
       replace hb := bend hb hh)
    | (go_at_call 23; (with_reducible refine (radd3 r u (by omega) (by omega)).mono ?_); rintro e w_v ⟨s_v, A_v, n_v, c_v, B_v, m_v, d_v, rfl, v, hh⟩
       try replace XA := XA.below hh
       try replace XB := XB.below hh
       try replace Z := Z.below hh
       replace hb := bend hb hh
       have zf0 := Z.f0
       have zf1 := Z.f1
       have zf2 := Z.f2
       have z0 := Z.c0
       have z1 := Z.c1
       have z2 := Z.c2))
  go_wp2_with fail
  have Z2 := Z.set3 (.bool s_v) (.slice A_v n_v c_v) (.slice B_v m_v d_v)
  have g0 := Z2.c0
  have g1 := Z2.c1
  have g2 := Z2.c2
  refine bodyPost_ret (v := .agg #[.bool s_v, .slice A_v n_v c_v, .slice B_v m_v d_v]) (by simp [results, Tryz.results82, go_sem, g0, g1, g2]) rfl ?_
  exact ⟨s_v, A_v, n_v, c_v, B_v, m_v, d_v, rfl, v.set3 Z _ _ _, below_set3 hb (by omega) _ _ _⟩
set_option maxRecDepth 100000 in
set_option maxHeartbeats 4000000 in
theorem rcross6 {w : World} {k k2 : Nat} {x y x2 y2 : Rat} {s_p t_p : Bool} {A_p B_p E_p F_p : Option Addr} {n_p c_p m_p d_p i_p e_p j_p f_p : Nat} {s_q t_q : Bool} {A_q B_q E_q F_q : Option Addr} {n_q c_q m_q d_q i_q e_q j_q f_q : Nat} (p : RP w s_p A_p n_p c_p B_p m_p d_p t_p E_p i_p e_p F_p j_p f_p x y k) (q : RP w s_q A_q n_q c_q B_q m_q d_q t_q E_q i_q e_q F_q j_q f_q x2 y2 k2) (hk : k ≤ 1000) (hk2 : k2 ≤ 1000) :
    Calls Tryz.prog 84 #[.agg #[.bool s_p, .slice A_p n_p c_p, .slice B_p m_p d_p, .bool t_p, .slice E_p i_p e_p, .slice F_p j_p f_p], .agg #[.bool s_q, .slice A_q n_q c_q, .slice B_q m_q d_q, .bool t_q, .slice E_q i_q e_q, .slice F_q j_q f_q]] w (GivesRQ w (x * y2 - y * x2) (k + k2 + (k + k2) + 1)) := by
  go_enter Tryz.func84, Tryz.ntmps84
  go_upto_region 1 with (fail)
  generalize hW : (((w.alloc (Obj.cells #[Value.bool s_p, Value.slice A_p n_p c_p, Value.slice B_p m_p d_p, Value.bool t_p, Value.slice E_p i_p e_p, Value.slice F_p j_p f_p] 86)).alloc (Obj.cells #[Value.bool s_q, Value.slice A_q n_q c_q, Value.slice B_q m_q d_q, Value.bool t_q, Value.slice E_q i_q e_q, Value.slice F_q j_q f_q] 86)).alloc (Obj.cells #[Value.bool false, Value.slice none 0 0, Value.slice none 0 0] 34)) = W
  have hb : Below w.heap.size w W := by subst hW; exact ((((Below.refl _ _).alloc (Nat.le_refl _) _).alloc (by simp) _).alloc (by simp; omega) _)
  have XA : B6R W (w.heap.size) (Value.bool s_p) (Value.slice A_p n_p c_p) (Value.slice B_p m_p d_p) (Value.bool t_p) (Value.slice E_p i_p e_p) (Value.slice F_p j_p f_p) := by subst hW; exact ((B6R.new' _ _ _ _ _ _ _ _ rfl).alloc _).alloc _
  have XB : B6R W (w.heap.size + 1) (Value.bool s_q) (Value.slice A_q n_q c_q) (Value.slice B_q m_q d_q) (Value.bool t_q) (Value.slice E_q i_q e_q) (Value.slice F_q j_q f_q) := by subst hW; exact (B6R.new' _ _ _ _ _ _ _ _ (by simp)).alloc _
  have Z : B3R W (w.heap.size + 1 + 1) (Value.bool false) (Value.slice none 0 0) (Value.slice none 0 0) := by subst hW; exact B3R.new' _ _ _ _ _ (by simp)
  have hzW : W.heap.size = w.heap.size + 3 := by subst hW; simp
  clear hW
  replace p := p.below hb
  replace q := q.below hb
  replace p := p.below (Below.refl _ _).drew
  replace q := q.below (Below.refl _ _).drew
  replace XA := XA.below (Below.refl _ _).drew
  replace XB := XB.below (Below.refl _ _).drew
  replace Z := Z.below (Below.refl _ _).drew
  replace hb := hb.drew
  go_region_held3 (fun w' => w'.cell? ⟨w.heap.size, 0, none⟩ = some (.bool s_p) ∧ w'.cell? ⟨w.heap.size, 1, none⟩ = some (.slice A_p n_p c_p) ∧ w'.cell? ⟨w.heap.size, 2, none⟩ = some (.slice B_p m_p d_p) ∧ w'.cell? ⟨w.heap.size, 3, none⟩ = some (.bool t_p) ∧ w'.cell? ⟨w.heap.size, 4, none⟩ = some (.slice E_p i_p e_p) ∧ w'.cell? ⟨w.heap.size, 5, none⟩ = some (.slice F_p j_p f_p) ∧ w'.cell? ⟨w.heap.size + 1, 0, none⟩ = some (.bool s_q) ∧ w'.cell? ⟨w.heap.size + 1, 1, none⟩ = some (.slice A_q n_q c_q) ∧ w'.cell? ⟨w.heap.size + 1, 2, none⟩ = some (.slice B_q m_q d_q) ∧ w'.cell? ⟨w.heap.size + 1, 3, none⟩ = some (.bool t_q) ∧ w'.cell? ⟨w.heap.size + 1, 4, none⟩ = some (.slice E_q i_q e_q) ∧ w'.cell? ⟨w.heap.size + 1, 5, none⟩ = some (.slice F_q j_q f_q))
    (first | with_reducible exact ⟨XA.c0, XA.c1, XA.c2, XA.c3, XA.c4, XA.c5, XB.c0, XB.c1, XB.c2, XB.c3, XB.c4, XB.c5⟩ | with_reducible exact ⟨(set3_cell _ _ _ _ _ _ _ (by omega)).trans XA.c0, (set3_cell _ _ _ _ _ _ _ (by omega)).trans XA.c1, (set3_cell _ _ _ _ _ _ _ (by omega)).trans XA.c2, (set3_cell _ _ _ _ _ _ _ (by omega)).trans XA.c3, (set3_cell _ _ _ _ _ _ _ (by omega)).trans XA.c4, (set3_cell _ _ _ _ _ _ _ (by omega)).trans XA.c5, (set3_cell _ _ _ _ _ _ _ (by omega)).trans XB.c0, (set3_cell _ _ _ _ _ _ _ (by omega)).trans XB.c1, (set3_cell _ _ _ _ _ _ _ (by omega)).trans XB.c2, (set3_cell _ _ _ _ _ _ _ (by omega)).trans XB.c3, (set3_cell _ _ _ _ _ _ _ (by omega)).trans XB.c4, (set3_cell _ _ _ _ _ _ _ (by omega)).trans XB.c5⟩)
    (first
    | (go_at_call 27; (with_reducible refine (rmul3 p.qx q.qy (by omega) (by omega)).mono ?_); rintro e w_r ⟨s_r, A_r, n_r, c_r, B_r, m_r, d_r, rfl, r, hh⟩
       try replace p := p.below hh
       try replace q := q.below hh
       try replace XA := XA.below hh
       try replace XB := XB.below hh
       try replace Z := Z.below hh
       replace hb := bend hb hh)
    | (go_at_call 27; (with_reducible refine (rmul3 p.qy q.qx (by omega) (by omega)).mono ?_); rintro e w_u ⟨s_u, A_u, n_u, c_u, B_u, m_u, d_u, rfl, u, hh⟩
       try replace p := p.below hh
       try replace q := q.below hh
       try replace r := r.below hh
       try replace XA := XA.below hh
       try replace XB := XB.below hh
       try replace Z := Z.below hh
       replace hb := bend hb hh)
    | (go_at_call 25; (with_reducible refine (rsub3 r u (by omega) (by omega)).mono ?_); rintro e w_v ⟨s_v, A_v, n_v, c_v, B_v, m_v, d_v, rfl, v, hh⟩
       try replace XA := XA.below hh
       try replace XB := XB.below hh
       try replace Z := Z.below hh
       replace hb := bend hb hh
       have zf0 := Z.f0
       have zf1 := Z.f1
       have zf2 := Z.f2
       have z0 := Z.c0
       have z1 := Z.c1
       have z2 := Z.c2))
  go_wp2_with fail
  have Z2 := Z.set3 (.bool s_v) (.slice A_v n_v c_v) (.slice B_v m_v d_v)
  have g0 := Z2.c0
  have g1 := Z2.c1
  have g2 := Z2.c2
  refine bodyPost_ret (v := .agg #[.bool s_v, .slice A_v n_v c_v, .slice B_v m_v d_v]) (by simp [results, Tryz.results84, go_sem, g0, g1, g2]) rfl ?_
  exact ⟨s_v, A_v, n_v, c_v, B_v, m_v, d_v, rfl, v.set3 Z _ _ _, below_set3 hb (by omega) _ _ _⟩
set_option maxRecDepth 100000 in
set_option maxHeartbeats 4000000 in
theorem rsame6_ne {w : World} {k k2 : Nat} {x y x2 y2 : Rat} {s_p t_p : Bool} {A_p B_p E_p F_p : Option Addr} {n_p c_p m_p d_p i_p e_p j_p f_p : Nat} {s_q t_q : Bool} {A_q B_q E_q F_q : Option Addr} {n_q c_q m_q d_q i_q e_q j_q f_q : Nat} (p : RP w s_p A_p n_p c_p B_p m_p d_p t_p E_p i_p e_p F_p j_p f_p x y k) (q : RP w s_q A_q n_q c_q B_q m_q d_q t_q E_q i_q e_q F_q j_q f_q x2 y2 k2) (hk : k ≤ 1000) (hk2 : k2 ≤ 1000) (hx : x ≠ x2) :
    Calls Tryz.prog 86 #[.agg #[.bool s_p, .slice A_p n_p c_p, .slice B_p m_p d_p, .bool t_p, .slice E_p i_p e_p, .slice F_p j_p f_p], .agg #[.bool s_q, .slice A_q n_q c_q, .slice B_q m_q d_q, .bool t_q, .slice E_q i_q e_q, .slice F_q j_q f_q]] w fun e w' => e = .returned (.bool (false)) ∧ Below w.heap.size w w' := by
  obtain ⟨K, hK, hK0⟩ : ∃ K, cmpQ x x2 = K ∧ ((K : Int) == 0) = false := ⟨_, rfl, by simpa using fun q => hx (cmpQ_nul.1 q)⟩
  have HK := Lib.hid hK
  clear hK hx
  go_enter Tryz.func86, Tryz.ntmps86
  go_wp2_with fail
  generalize hW : ((w.alloc (Obj.cells #[Value.bool s_p, Value.slice A_p n_p c_p, Value.slice B_p m_p d_p, Value.bool t_p, Value.slice E_p i_p e_p, Value.slice F_p j_p f_p] 86)).alloc (Obj.cells #[Value.bool s_q, Value.slice A_q n_q c_q, Value.slice B_q m_q d_q, Value.bool t_q, Value.slice E_q i_q e_q, Value.slice F_q j_q f_q] 86)) = W
  have hb : Below w.heap.size w W := by subst hW; exact (((Below.refl _ _).alloc (Nat.le_refl _) _).alloc (by simp) _)
  have XA : B6R W (w.heap.size) (Value.bool s_p) (Value.slice A_p n_p c_p) (Value.slice B_p m_p d_p) (Value.bool t_p) (Value.slice E_p i_p e_p) (Value.slice F_p j_p f_p) := by subst hW; exact (B6R.new' _ _ _ _ _ _ _ _ rfl).alloc _
  have XB : B6R W (w.heap.size + 1) (Value.bool s_q) (Value.slice A_q n_q c_q) (Value.slice B_q m_q d_q) (Value.bool t_q) (Value.slice E_q i_q e_q) (Value.slice F_q j_q f_q) := by subst hW; exact B6R.new' _ _ _ _ _ _ _ _ (by simp)
  have hzW : W.heap.size = w.heap.size + 2 := by subst hW; simp
  clear hW
  replace p := p.below hb
  replace q := q.below hb
  have xa0 := XA.c0
  have xa1 := XA.c1
  have xa2 := XA.c2
  have xa3 := XA.c3
  have xa4 := XA.c4
  have xa5 := XA.c5
  have xb0 := XB.c0
  have xb1 := XB.c1
  have xb2 := XB.c2
  have xb3 := XB.c3
  have xb4 := XB.c4
  have xb5 := XB.c5
  go_wp2_with (first
      | (go_at_call 29; (with_reducible refine (rcmp3 p.qx q.qx (by omega) (by omega)).mono ?_); rintro e w_z ⟨rfl, hh⟩
         rw [HK.out]
         try replace p := p.below hh
         try replace q := q.below hh
         try replace XA := XA.below hh
         try replace XB := XB.below hh
         replace hb := bend hb hh
         have xa0 := XA.c0
         have xa1 := XA.c1
         have xa2 := XA.c2
         have xa3 := XA.c3
         have xa4 := XA.c4
         have xa5 := XA.c5
         have xb0 := XB.c0
         have xb1 := XB.c1
         have xb2 := XB.c2
         have xb3 := XB.c3
         have xb4 := XB.c4
         have xb5 := XB.c5))
  go_ret
  exact ⟨rfl, hb⟩
set_option maxRecDepth 100000 in
set_option maxHeartbeats 4000000 in
theorem rsame6_eq {w : World} {k k2 : Nat} {x y x2 y2 : Rat} {s_p t_p : Bool} {A_p B_p E_p F_p : Option Addr} {n_p c_p m_p d_p i_p e_p j_p f_p : Nat} {s_q t_q : Bool} {A_q B_q E_q F_q : Option Addr} {n_q c_q m_q d_q i_q e_q j_q f_q : Nat} (p : RP w s_p A_p n_p c_p B_p m_p d_p t_p E_p i_p e_p F_p j_p f_p x y k) (q : RP w s_q A_q n_q c_q B_q m_q d_q t_q E_q i_q e_q F_q j_q f_q x2 y2 k2) (hk : k ≤ 1000) (hk2 : k2 ≤ 1000) (hx : x = x2) :
    Calls Tryz.prog 86 #[.agg #[.bool s_p, .slice A_p n_p c_p, .slice B_p m_p d_p, .bool t_p, .slice E_p i_p e_p, .slice F_p j_p f_p], .agg #[.bool s_q, .slice A_q n_q c_q, .slice B_q m_q d_q, .bool t_q, .slice E_q i_q e_q, .slice F_q j_q f_q]] w fun e w' => e = .returned (.bool (cmpQ y y2 == 0)) ∧ Below w.heap.size w w' := by
  have HK : Hid (cmpQ x x2 = 0) := cmpQ_nul.2 hx
  obtain ⟨M, hM⟩ : ∃ M, cmpQ y y2 = M := ⟨_, rfl⟩
  have HM := Lib.hid hM
  clear hM hx
  go_enter Tryz.func86, Tryz.ntmps86
  go_wp2_with fail
  generalize hW : ((w.alloc (Obj.cells #[Value.bool s_p, Value.slice A_p n_p c_p, Value.slice B_p m_p d_p, Value.bool t_p, Value.slice E_p i_p e_p, Value.slice F_p j_p f_p] 86)).alloc (Obj.cells #[Value.bool s_q, Value.slice A_q n_q c_q, Value.slice B_q m_q d_q, Value.bool t_q, Value.slice E_q i_q e_q, Value.slice F_q j_q f_q] 86)) = W
  have hb : Below w.heap.size w W := by subst hW; exact (((Below.refl _ _).alloc (Nat.le_refl _) _).alloc (by simp) _)
  have XA : B6R W (w.heap.size) (Value.bool s_p) (Value.slice A_p n_p c_p) (Value.slice B_p m_p d_p) (Value.bool t_p) (Value.slice E_p i_p e_p) (Value.slice F_p j_p f_p) := by subst hW; exact (B6R.new' _ _ _ _ _ _ _ _ rfl).alloc _
  have XB : B6R W (w.heap.size + 1) (Value.bool s_q) (Value.slice A_q n_q c_q) (Value.slice B_q m_q d_q) (Value.bool t_q) (Value.slice E_q i_q e_q) (Value.slice F_q j_q f_q) := by subst hW; exact B6R.new' _ _ _ _ _ _ _ _ (by simp)
  have hzW : W.heap.size = w.heap.size + 2 := by subst hW; simp
  clear hW
  replace p := p.below hb
  replace q := q.below hb
  have xa0 := XA.c0
  have xa1 := XA.c1
  have xa2 := XA.c2
  have xa3 := XA.c3
  have xa4 := XA.c4
  have xa5 := XA.c5
  have xb0 := XB.c0
  have xb1 := XB.c1
  have xb2 := XB.c2
  have xb3 := XB.c3
  have xb4 := XB.c4
  have xb5 := XB.c5
  go_wp2_with (first
      | (go_at_call 29; (with_reducible refine (rcmp3 p.qx q.qx (by omega) (by omega)).mono ?_); rintro e w_z ⟨rfl, hh⟩
         rw [HK.out]
         try replace p := p.below hh
         try replace q := q.below hh
         try replace XA := XA.below hh
         try replace XB := XB.below hh
         replace hb := bend hb hh
         have xa0 := XA.c0
         have xa1 := XA.c1
         have xa2 := XA.c2
         have xa3 := XA.c3
         have xa4 := XA.c4
         have xa5 := XA.c5
         have xb0 := XB.c0
         have xb1 := XB.c1
         have xb2 := XB.c2
         have xb3 := XB.c3
         have xb4 := XB.c4
         have xb5 := XB.c5)
      | (go_at_call 29; (with_reducible refine (rcmp3 p.qy q.qy (by omega) (by omega)).mono ?_); rintro e w_z ⟨rfl, hh⟩
         rw [HM.out]
         try replace p := p.below hh
         try replace q := q.below hh
         try replace XA := XA.below hh
         try replace XB := XB.below hh
         replace hb := bend hb hh
         have xa0 := XA.c0
         have xa1 := XA.c1
         have xa2 := XA.c2
         have xa3 := XA.c3
         have xa4 := XA.c4
         have xa5 := XA.c5
         have xb0 := XB.c0
         have xb1 := XB.c1
         have xb2 := XB.c2
         have xb3 := XB.c3
         have xb4 := XB.c4
         have xb5 := XB.c5))
  go_ret
  exact ⟨by rw [HM.out]; first | rfl | simp, hb⟩
theorem rsame6 {w : World} {k k2 : Nat} {x y x2 y2 : Rat} {s_p t_p : Bool} {A_p B_p E_p F_p : Option Addr} {n_p c_p m_p d_p i_p e_p j_p f_p : Nat} {s_q t_q : Bool} {A_q B_q E_q F_q : Option Addr} {n_q c_q m_q d_q i_q e_q j_q f_q : Nat} (p : RP w s_p A_p n_p c_p B_p m_p d_p t_p E_p i_p e_p F_p j_p f_p x y k) (q : RP w s_q A_q n_q c_q B_q m_q d_q t_q E_q i_q e_q F_q j_q f_q x2 y2 k2) (hk : k ≤ 1000) (hk2 : k2 ≤ 1000) (R : Bool) (hR : decide (x = x2 ∧ y = y2) = R) :
    Calls Tryz.prog 86 #[.agg #[.bool s_p, .slice A_p n_p c_p, .slice B_p m_p d_p, .bool t_p, .slice E_p i_p e_p, .slice F_p j_p f_p], .agg #[.bool s_q, .slice A_q n_q c_q, .slice B_q m_q d_q, .bool t_q, .slice E_q i_q e_q, .slice F_q j_q f_q]] w fun e w' => e = .returned (.bool R) ∧ Below w.heap.size w w' := by
  subst hR
  by_cases h : x = x2
  · have := rsame6_eq p q hk hk2 h
    rwa [show (cmpQ y y2 == 0) = decide (x = x2 ∧ y = y2) from by
      by_cases h' : y = y2
      · rw [decide_eq_true ⟨h, h'⟩, cmpQ_nul.2 h']; rfl
      · rw [decide_eq_false (fun q => h' q.2)]; simpa using fun q => h' (cmpQ_nul.1 q)] at this
  · have := rsame6_ne p q hk hk2 h
    rwa [show false = decide (x = x2 ∧ y = y2) from (decide_eq_false (fun q => h q.1)).symm] at this
def GivesKP (w : World) (s t : Bool) (l1 l2 l3 l4 : List Nat) (en : Ending) (w' : World) : Prop :=
  ∃ A n c B m d E i e F j f, en = .returned (.agg #[.bool s, .slice A n c, .slice B m d, .bool t, .slice E i e, .slice F j f]) ∧ (Rd .u64 w' A n l1 ∧ n ≤ c) ∧ (Rd .u64 w' B m l2 ∧ m ≤ d) ∧ (Rd .u64 w' E i l3 ∧ i ≤ e) ∧ (Rd .u64 w' F j l4 ∧ j ≤ f) ∧ Below w.heap.size w w'
set_option maxRecDepth 100000 in
set_option maxHeartbeats 4000000 in
theorem keepPt_any {w : World} {s_p t_p : Bool} {A_p B_p E_p F_p : Option Addr} {n_p c_p m_p d_p i_p e_p j_p f_p : Nat} {l1 l2 l3 l4 : List Nat} (ap : Rd .u64 w A_p n_p l1) (bp : Rd .u64 w B_p m_p l2) (up : Rd .u64 w E_p i_p l3) (vp : Rd .u64 w F_p j_p l4) (z1 : A_p = none → c_p = 0) (z2 : B_p = none → d_p = 0) (z3 : E_p = none → e_p = 0) (z4 : F_p = none → f_p = 0) (hn : n_p ≤ 100000 ∧ m_p ≤ 100000 ∧ i_p ≤ 100000 ∧ j_p ≤ 100000) :
    Calls Tryz.prog 69 #[.agg #[.bool s_p, .slice A_p n_p c_p, .slice B_p m_p d_p, .bool t_p, .slice E_p i_p e_p, .slice F_p j_p f_p]] w (GivesKP w s_p t_p l1 l2 l3 l4) := by
  have HZ : Hid ((A_p = none → c_p = 0) ∧ (B_p = none → d_p = 0) ∧ (E_p = none → e_p = 0) ∧ (F_p = none → f_p = 0)) := ⟨z1, z2, z3, z4⟩
  have HN := Lib.hid hn
  clear z1 z2 z3 z4 hn
  go_enter Tryz.func69, Tryz.ntmps69
  go_upto_region 1 with (fail)
  generalize hW : ((w.alloc (Obj.cells #[Value.bool s_p, Value.slice A_p n_p c_p, Value.slice B_p m_p d_p, Value.bool t_p, Value.slice E_p i_p e_p, Value.slice F_p j_p f_p] 83)).alloc (Obj.cells #[Value.bool false, Value.slice none 0 0, Value.slice none 0 0, Value.bool false, Value.slice none 0 0, Value.slice none 0 0] 83)) = W
  have hb : Below w.heap.size w W := by subst hW; exact (((Below.refl _ _).alloc (Nat.le_refl _) _).alloc (by simp) _)
  have XA : B6 W (w.heap.size) (Value.bool s_p) (Value.slice A_p n_p c_p) (Value.slice B_p m_p d_p) (Value.bool t_p) (Value.slice E_p i_p e_p) (Value.slice F_p j_p f_p) := by subst hW; exact (B6.new' _ _ _ _ _ _ _ _ rfl).alloc _
  have Z : B6 W (w.heap.size + 1) (Value.bool false) (Value.slice none 0 0) (Value.slice none 0 0) (Value.bool false) (Value.slice none 0 0) (Value.slice none 0 0) := by subst hW; exact B6.new' _ _ _ _ _ _ _ _ (by simp)
  have hzW : W.heap.size = w.heap.size + 2 := by subst hW; simp
  clear hW
  replace ap := ap.below hb
  replace bp := bp.below hb
  replace up := up.below hb
  replace vp := vp.below hb
  replace ap := ap.below (Below.refl _ _).drew
  replace bp := bp.below (Below.refl _ _).drew
  replace up := up.below (Below.refl _ _).drew
  replace vp := vp.below (Below.refl _ _).drew
  replace XA := XA.below (Below.refl _ _).drew
  replace Z := Z.below (Below.refl _ _).drew
  replace hb := hb.drew
  go_region_held3 (fun w' => w'.cell? ⟨w.heap.size, 0, none⟩ = some (.bool s_p) ∧ w'.cell? ⟨w.heap.size, 1, none⟩ = some (.slice A_p n_p c_p) ∧ w'.cell? ⟨w.heap.size, 2, none⟩ = some (.slice B_p m_p d_p) ∧ w'.cell? ⟨w.heap.size, 3, none⟩ = some (.bool t_p) ∧ w'.cell? ⟨w.heap.size, 4, none⟩ = some (.slice E_p i_p e_p) ∧ w'.cell? ⟨w.heap.size, 5, none⟩ = some (.slice F_p j_p f_p))
    (first | with_reducible exact ⟨XA.c0, XA.c1, XA.c2, XA.c3, XA.c4, XA.c5⟩ | with_reducible exact ⟨(set6_cell _ _ _ _ _ _ _ _ _ _ (by omega)).trans XA.c0, (set6_cell _ _ _ _ _ _ _ _ _ _ (by omega)).trans XA.c1, (set6_cell _ _ _ _ _ _ _ _ _ _ (by omega)).trans XA.c2, (set6_cell _ _ _ _ _ _ _ _ _ _ (by omega)).trans XA.c3, (set6_cell _ _ _ _ _ _ _ _ _ _ (by omega)).trans XA.c4, (set6_cell _ _ _ _ _ _ _ _ _ _ (by omega)).trans XA.c5⟩)
    (first
    | (go_at_call 17; (with_reducible refine (keepRat_any ap bp HZ.out.1 HZ.out.2.1 HN.out.1 HN.out.2.1).mono ?_); rintro e w_r ⟨A_r, n_r, c_r, B_r, m_r, d_r, rfl, r1, rc, r2, rd, hh⟩
       try replace up := up.below hh
       try replace vp := vp.below hh
       try replace XA := XA.below hh
       try replace Z := Z.below hh
       replace hb := bend hb hh)
    | (go_at_call 17; (with_reducible refine (keepRat_any up vp HZ.out.2.2.1 HZ.out.2.2.2 HN.out.2.2.1 HN.out.2.2.2).mono ?_); rintro e w_u ⟨A_u, n_u, c_u, B_u, m_u, d_u, rfl, u1, uc, u2, ud, hh⟩
       try replace r1 := r1.below hh
       try replace r2 := r2.below hh
       try replace XA := XA.below hh
       try replace Z := Z.below hh
       replace hb := bend hb hh
       have zg0 := Z.f0
       have zg1 := Z.f1
       have zg2 := Z.f2
       have zg3 := Z.f3
       have zg4 := Z.f4
       have zg5 := Z.f5
       have zc0 := Z.c0
       have zc1 := Z.c1
       have zc2 := Z.c2
       have zc3 := Z.c3
       have zc4 := Z.c4
       have zc5 := Z.c5))
  go_wp2_with fail
  have Z2 := Z.set6 (.bool s_p) (.slice A_r n_r c_r) (.slice B_r m_r d_r) (.bool t_p) (.slice A_u n_u c_u) (.slice B_u m_u d_u)
  have g0 := Z2.c0
  have g1 := Z2.c1
  have g2 := Z2.c2
  have g3 := Z2.c3
  have g4 := Z2.c4
  have g5 := Z2.c5
  refine bodyPost_ret (v := .agg #[.bool s_p, .slice A_r n_r c_r, .slice B_r m_r d_r, .bool t_p, .slice A_u n_u c_u, .slice B_u m_u d_u]) (by simp [results, Tryz.results69, go_sem, g0, g1, g2, g3, g4, g5]) rfl ?_
  have ho := ((((((Only.refl (w.heap.size + 1) w_u).setCell 0 (Value.bool s_p)).setCell 1 (Value.slice A_r n_r c_r)).setCell 2 (Value.slice B_r m_r d_r)).setCell 3 (Value.bool t_p)).setCell 4 (Value.slice A_u n_u c_u)).setCell 5 (Value.slice B_u m_u d_u)
  exact ⟨_, _, _, _, _, _, _, _, _, _, _, _, rfl, ⟨r1.only (r1.off6 Z) ho, rc⟩, ⟨r2.only (r2.off6 Z) ho, rd⟩, ⟨u1.only (u1.off6 Z) ho, uc⟩, ⟨u2.only (u2.off6 Z) ho, ud⟩, below_set6 hb (by omega) _ _ _ _ _ _⟩
set_option maxRecDepth 100000 in
set_option maxHeartbeats 4000000 in
theorem pts_f {w : World} {s_p t_p : Bool} {A_p B_p E_p F_p : Option Addr} {n_p c_p m_p d_p i_p e_p j_p f_p : Nat} {s_q t_q : Bool} {A_q B_q E_q F_q : Option Addr} {n_q c_q m_q d_q i_q e_q j_q f_q : Nat} {la1 la2 la3 la4 lb1 lb2 lb3 lb4 : List Nat} (p1 : Rd .u64 w A_p n_p la1) (p2 : Rd .u64 w B_p m_p la2) (p3 : Rd .u64 w E_p i_p la3) (p4 : Rd .u64 w F_p j_p la4) (q1 : Rd .u64 w A_q n_q lb1) (q2 : Rd .u64 w B_q m_q lb2) (q3 : Rd .u64 w E_q i_q lb3) (q4 : Rd .u64 w F_q j_q lb4) (hn : n_p ≤ maxLen ∧ m_p ≤ maxLen ∧ i_p ≤ maxLen ∧ j_p ≤ maxLen) (hr : ((s_p == s_q && decide (la1 = lb1)) && decide (la2 = lb2)) = false) :
    Calls Tryz.prog 70 #[.agg #[.bool s_p, .slice A_p n_p c_p, .slice B_p m_p d_p, .bool t_p, .slice E_p i_p e_p, .slice F_p j_p f_p], .agg #[.bool s_q, .slice A_q n_q c_q, .slice B_q m_q d_q, .bool t_q, .slice E_q i_q e_q, .slice F_q j_q f_q]] w fun e w' => e = .returned (.bool false) ∧ Below w.heap.size w w' := by
  have HN := Lib.hid hn
  have HR := Lib.hid hr
  clear hn
  go_enter Tryz.func70, Tryz.ntmps70
  go_wp2_with fail
  generalize hW : ((w.alloc (Obj.cells #[Value.bool s_p, Value.slice A_p n_p c_p, Value.slice B_p m_p d_p, Value.bool t_p, Value.slice E_p i_p e_p, Value.slice F_p j_p f_p] 83)).alloc (Obj.cells #[Value.bool s_q, Value.slice A_q n_q c_q, Value.slice B_q m_q d_q, Value.bool t_q, Value.slice E_q i_q e_q, Value.slice F_q j_q f_q] 83)) = W
  have hb : Below w.heap.size w W := by subst hW; exact (((Below.refl _ _).alloc (Nat.le_refl _) _).alloc (by simp) _)
  have XA : B6 W (w.heap.size) (Value.bool s_p) (Value.slice A_p n_p c_p) (Value.slice B_p m_p d_p) (Value.bool t_p) (Value.slice E_p i_p e_p) (Value.slice F_p j_p f_p) := by subst hW; exact (B6.new' _ _ _ _ _ _ _ _ rfl).alloc _
  have XB : B6 W (w.heap.size + 1) (Value.bool s_q) (Value.slice A_q n_q c_q) (Value.slice B_q m_q d_q) (Value.bool t_q) (Value.slice E_q i_q e_q) (Value.slice F_q j_q f_q) := by subst hW; exact B6.new' _ _ _ _ _ _ _ _ (by simp)
  have hzW : W.heap.size = w.heap.size + 2 := by subst hW; simp
  clear hW
  replace p1 := p1.below hb
  replace p2 := p2.below hb
  replace p3 := p3.below hb
  replace p4 := p4.below hb
  replace q1 := q1.below hb
  replace q2 := q2.below hb
  replace q3 := q3.below hb
  replace q4 := q4.below hb
  have xa0 := XA.c0
  have xa1 := XA.c1
  have xa2 := XA.c2
  have xa3 := XA.c3
  have xa4 := XA.c4
  have xa5 := XA.c5
  have xb0 := XB.c0
  have xb1 := XB.c1
  have xb2 := XB.c2
  have xb3 := XB.c3
  have xb4 := XB.c4
  have xb5 := XB.c5
  go_wp2_with (first
      | (go_at_call 36; (with_reducible refine (rats_any p1 p2 q1 q2 HN.out.1 HN.out.2.1 false hr).mono ?_); rintro e w_z ⟨rfl, hh⟩
         try replace p1 := p1.below hh
         try replace p2 := p2.below hh
         try replace p3 := p3.below hh
         try replace p4 := p4.below hh
         try replace q1 := q1.below hh
         try replace q2 := q2.below hh
         try replace q3 := q3.below hh
         try replace q4 := q4.below hh
         try replace XA := XA.below hh
         try replace XB := XB.below hh
         replace hb := bend hb hh
         have xa0 := XA.c0
         have xa1 := XA.c1
         have xa2 := XA.c2
         have xa3 := XA.c3
         have xa4 := XA.c4
         have xa5 := XA.c5
         have xb0 := XB.c0
         have xb1 := XB.c1
         have xb2 := XB.c2
         have xb3 := XB.c3
         have xb4 := XB.c4
         have xb5 := XB.c5))
  go_ret
  exact ⟨rfl, hb⟩
set_option maxRecDepth 100000 in
set_option maxHeartbeats 4000000 in
theorem pts_t {w : World} {s_p t_p : Bool} {A_p B_p E_p F_p : Option Addr} {n_p c_p m_p d_p i_p e_p j_p f_p : Nat} {s_q t_q : Bool} {A_q B_q E_q F_q : Option Addr} {n_q c_q m_q d_q i_q e_q j_q f_q : Nat} {la1 la2 la3 la4 lb1 lb2 lb3 lb4 : List Nat} (p1 : Rd .u64 w A_p n_p la1) (p2 : Rd .u64 w B_p m_p la2) (p3 : Rd .u64 w E_p i_p la3) (p4 : Rd .u64 w F_p j_p la4) (q1 : Rd .u64 w A_q n_q lb1) (q2 : Rd .u64 w B_q m_q lb2) (q3 : Rd .u64 w E_q i_q lb3) (q4 : Rd .u64 w F_q j_q lb4) (hn : n_p ≤ maxLen ∧ m_p ≤ maxLen ∧ i_p ≤ maxLen ∧ j_p ≤ maxLen) (hr : ((s_p == s_q && decide (la1 = lb1)) && decide (la2 = lb2)) = true) :
    Calls Tryz.prog 70 #[.agg #[.bool s_p, .slice A_p n_p c_p, .slice B_p m_p d_p, .bool t_p, .slice E_p i_p e_p, .slice F_p j_p f_p], .agg #[.bool s_q, .slice A_q n_q c_q, .slice B_q m_q d_q, .bool t_q, .slice E_q i_q e_q, .slice F_q j_q f_q]] w fun e w' => e = .returned (.bool ((t_p == t_q && decide (la3 = lb3)) && decide (la4 = lb4))) ∧ Below w.heap.size w w' := by
  have HN := Lib.hid hn
  have HR := Lib.hid hr
  obtain ⟨M, hM⟩ : ∃ M, ((t_p == t_q && decide (la3 = lb3)) && decide (la4 = lb4)) = M := ⟨_, rfl⟩
  rw [hM]
  clear hn
  go_enter Tryz.func70, Tryz.ntmps70
  go_wp2_with fail
  generalize hW : ((w.alloc (Obj.cells #[Value.bool s_p, Value.slice A_p n_p c_p, Value.slice B_p m_p d_p, Value.bool t_p, Value.slice E_p i_p e_p, Value.slice F_p j_p f_p] 83)).alloc (Obj.cells #[Value.bool s_q, Value.slice A_q n_q c_q, Value.slice B_q m_q d_q, Value.bool t_q, Value.slice E_q i_q e_q, Value.slice F_q j_q f_q] 83)) = W
  have hb : Below w.heap.size w W := by subst hW; exact (((Below.refl _ _).alloc (Nat.le_refl _) _).alloc (by simp) _)
  have XA : B6 W (w.heap.size) (Value.bool s_p) (Value.slice A_p n_p c_p) (Value.slice B_p m_p d_p) (Value.bool t_p) (Value.slice E_p i_p e_p) (Value.slice F_p j_p f_p) := by subst hW; exact (B6.new' _ _ _ _ _ _ _ _ rfl).alloc _
  have XB : B6 W (w.heap.size + 1) (Value.bool s_q) (Value.slice A_q n_q c_q) (Value.slice B_q m_q d_q) (Value.bool t_q) (Value.slice E_q i_q e_q) (Value.slice F_q j_q f_q) := by subst hW; exact B6.new' _ _ _ _ _ _ _ _ (by simp)
  have hzW : W.heap.size = w.heap.size + 2 := by subst hW; simp
  clear hW
  replace p1 := p1.below hb
  replace p2 := p2.below hb
  replace p3 := p3.below hb
  replace p4 := p4.below hb
  replace q1 := q1.below hb
  replace q2 := q2.below hb
  replace q3 := q3.below hb
  replace q4 := q4.below hb
  have xa0 := XA.c0
  have xa1 := XA.c1
  have xa2 := XA.c2
  have xa3 := XA.c3
  have xa4 := XA.c4
  have xa5 := XA.c5
  have xb0 := XB.c0
  have xb1 := XB.c1
  have xb2 := XB.c2
  have xb3 := XB.c3
  have xb4 := XB.c4
  have xb5 := XB.c5
  go_wp2_with (first
      | (go_at_call 36; (with_reducible refine (rats_any p1 p2 q1 q2 HN.out.1 HN.out.2.1 true hr).mono ?_); rintro e w_z ⟨rfl, hh⟩
         try replace p1 := p1.below hh
         try replace p2 := p2.below hh
         try replace p3 := p3.below hh
         try replace p4 := p4.below hh
         try replace q1 := q1.below hh
         try replace q2 := q2.below hh
         try replace q3 := q3.below hh
         try replace q4 := q4.below hh
         try replace XA := XA.below hh
         try replace XB := XB.below hh
         replace hb := bend hb hh
         have xa0 := XA.c0
         have xa1 := XA.c1
         have xa2 := XA.c2
         have xa3 := XA.c3
         have xa4 := XA.c4
         have xa5 := XA.c5
         have xb0 := XB.c0
         have xb1 := XB.c1
         have xb2 := XB.c2
         have xb3 := XB.c3
         have xb4 := XB.c4
         have xb5 := XB.c5)
      | (go_at_call 36; (with_reducible refine (rats_any p3 p4 q3 q4 HN.out.2.2.1 HN.out.2.2.2 M hM).mono ?_); rintro e w_z ⟨rfl, hh⟩
         try replace p1 := p1.below hh
         try replace p2 := p2.below hh
         try replace p3 := p3.below hh
         try replace p4 := p4.below hh
         try replace q1 := q1.below hh
         try replace q2 := q2.below hh
         try replace q3 := q3.below hh
         try replace q4 := q4.below hh
         try replace XA := XA.below hh
         try replace XB := XB.below hh
         replace hb := bend hb hh
         have xa0 := XA.c0
         have xa1 := XA.c1
         have xa2 := XA.c2
         have xa3 := XA.c3
         have xa4 := XA.c4
         have xa5 := XA.c5
         have xb0 := XB.c0
         have xb1 := XB.c1
         have xb2 := XB.c2
         have xb3 := XB.c3
         have xb4 := XB.c4
         have xb5 := XB.c5))
  go_ret
  exact ⟨rfl, hb⟩
theorem pts_any {w : World} {s_p t_p : Bool} {A_p B_p E_p F_p : Option Addr} {n_p c_p m_p d_p i_p e_p j_p f_p : Nat} {s_q t_q : Bool} {A_q B_q E_q F_q : Option Addr} {n_q c_q m_q d_q i_q e_q j_q f_q : Nat} {la1 la2 la3 la4 lb1 lb2 lb3 lb4 : List Nat} (p1 : Rd .u64 w A_p n_p la1) (p2 : Rd .u64 w B_p m_p la2) (p3 : Rd .u64 w E_p i_p la3) (p4 : Rd .u64 w F_p j_p la4) (q1 : Rd .u64 w A_q n_q lb1) (q2 : Rd .u64 w B_q m_q lb2) (q3 : Rd .u64 w E_q i_q lb3) (q4 : Rd .u64 w F_q j_q lb4) (hn : n_p ≤ maxLen ∧ m_p ≤ maxLen ∧ i_p ≤ maxLen ∧ j_p ≤ maxLen) (R : Bool) (hR : (((s_p == s_q && decide (la1 = lb1)) && decide (la2 = lb2)) && ((t_p == t_q && decide (la3 = lb3)) && decide (la4 = lb4))) = R) :
    Calls Tryz.prog 70 #[.agg #[.bool s_p, .slice A_p n_p c_p, .slice B_p m_p d_p, .bool t_p, .slice E_p i_p e_p, .slice F_p j_p f_p], .agg #[.bool s_q, .slice A_q n_q c_q, .slice B_q m_q d_q, .bool t_q, .slice E_q i_q e_q, .slice F_q j_q f_q]] w fun e w' => e = .returned (.bool R) ∧ Below w.heap.size w w' := by
  cases h : ((s_p == s_q && decide (la1 = lb1)) && decide (la2 = lb2)) with
  | false => rw [h, Bool.false_and] at hR; subst hR; exact pts_f p1 p2 p3 p4 q1 q2 q3 q4 hn h
  | true => rw [h, Bool.true_and] at hR; subst hR; exact pts_t p1 p2 p3 p4 q1 q2 q3 q4 hn h
theorem pts_same {w : World} {k k2 : Nat} {x y : Rat} {s_p t_p : Bool} {A_p B_p E_p F_p : Option Addr} {n_p c_p m_p d_p i_p e_p j_p f_p : Nat} {s_q t_q : Bool} {A_q B_q E_q F_q : Option Addr} {n_q c_q m_q d_q i_q e_q j_q f_q : Nat} (p : PG w s_p A_p n_p c_p B_p m_p d_p t_p E_p i_p e_p F_p j_p f_p x y k) (q : PG w s_q A_q n_q c_q B_q m_q d_q t_q E_q i_q e_q F_q j_q f_q x y k2) (hk : k ≤ 100000) :
    Calls Tryz.prog 70 #[.agg #[.bool s_p, .slice A_p n_p c_p, .slice B_p m_p d_p, .bool t_p, .slice E_p i_p e_p, .slice F_p j_p f_p], .agg #[.bool s_q, .slice A_q n_q c_q, .slice B_q m_q d_q, .bool t_q, .slice E_q i_q e_q, .slice F_q j_q f_q]] w fun e w' => e = .returned (.bool true) ∧ Below w.heap.size w w' := by
  have e1 : s_p = s_q := p.1.1.1.trans q.1.1.1.symm
  have e2 : t_p = t_q := p.2.1.1.trans q.2.1.1.symm
  subst e1 e2
  have h1 := p.1.1.2.2.2
  have h2 := p.1.2.2.2
  have h3 := p.2.1.2.2.2
  have h4 := p.2.2.2.2
  refine pts_any p.1.1.2.1 p.1.2.1 p.2.1.2.1 p.2.2.1 q.1.1.2.1 q.1.2.1 q.2.1.2.1 q.2.2.1 (by unfold maxLen; omega) true ?_
  rw [same_eq, same_eq]; rfl
set_option maxRecDepth 100000 in
set_option maxHeartbeats 4000000 in
theorem lsame6 {w : World} {k k2 : Nat} {x y x2 y2 : Rat} {s_p t_p : Bool} {A_p B_p E_p F_p : Option Addr} {n_p c_p m_p d_p i_p e_p j_p f_p : Nat} {s_q t_q : Bool} {A_q B_q E_q F_q : Option Addr} {n_q c_q m_q d_q i_q e_q j_q f_q : Nat} (p : PG w s_p A_p n_p c_p B_p m_p d_p t_p E_p i_p e_p F_p j_p f_p x y k) (q : RP w s_q A_q n_q c_q B_q m_q d_q t_q E_q i_q e_q F_q j_q f_q x2 y2 k2) (hx : x = x2) (hy : y = y2) (hk : k ≤ 1000) (hk2 : k2 ≤ 100000) :
    Calls Tryz.prog 72 #[.agg #[.bool s_p, .slice A_p n_p c_p, .slice B_p m_p d_p, .bool t_p, .slice E_p i_p e_p, .slice F_p j_p f_p], .agg #[.bool s_q, .slice A_q n_q c_q, .slice B_q m_q d_q, .bool t_q, .slice E_q i_q e_q, .slice F_q j_q f_q]] w fun e w' => e = .returned (.bool true) ∧ Below w.heap.size w w' := by
  subst hx hy
  have H1 := Lib.hid p.1.num_lt
  have H2 := Lib.hid p.1.den_lt
  have H3 := Lib.hid p.2.num_lt
  have H4 := Lib.hid p.2.den_lt
  go_enter Tryz.func72, Tryz.ntmps72
  go_upto_region 1 with (fail)
  generalize hW : ((w.alloc (Obj.cells #[Value.bool s_p, Value.slice A_p n_p c_p, Value.slice B_p m_p d_p, Value.bool t_p, Value.slice E_p i_p e_p, Value.slice F_p j_p f_p] 83)).alloc (Obj.cells #[Value.bool s_q, Value.slice A_q n_q c_q, Value.slice B_q m_q d_q, Value.bool t_q, Value.slice E_q i_q e_q, Value.slice F_q j_q f_q] 86)) = W
  have hb : Below w.heap.size w W := by subst hW; exact (((Below.refl _ _).alloc (Nat.le_refl _) _).alloc (by simp) _)
  have XA : B6 W (w.heap.size) (Value.bool s_p) (Value.slice A_p n_p c_p) (Value.slice B_p m_p d_p) (Value.bool t_p) (Value.slice E_p i_p e_p) (Value.slice F_p j_p f_p) := by subst hW; exact (B6.new' _ _ _ _ _ _ _ _ rfl).alloc _
  have XB : B6R W (w.heap.size + 1) (Value.bool s_q) (Value.slice A_q n_q c_q) (Value.slice B_q m_q d_q) (Value.bool t_q) (Value.slice E_q i_q e_q) (Value.slice F_q j_q f_q) := by subst hW; exact B6R.new' _ _ _ _ _ _ _ _ (by simp)
  have hzW : W.heap.size = w.heap.size + 2 := by subst hW; simp
  clear hW
  replace p := p.below hb
  replace q := q.below hb
  replace p := p.below (Below.refl _ _).drew
  replace q := q.below (Below.refl _ _).drew
  replace XA := XA.below (Below.refl _ _).drew
  replace XB := XB.below (Below.refl _ _).drew
  replace hb := hb.drew
  go_region_held3 (fun w' => w'.cell? ⟨w.heap.size, 0, none⟩ = some (.bool s_p) ∧ w'.cell? ⟨w.heap.size, 1, none⟩ = some (.slice A_p n_p c_p) ∧ w'.cell? ⟨w.heap.size, 2, none⟩ = some (.slice B_p m_p d_p) ∧ w'.cell? ⟨w.heap.size, 3, none⟩ = some (.bool t_p) ∧ w'.cell? ⟨w.heap.size, 4, none⟩ = some (.slice E_p i_p e_p) ∧ w'.cell? ⟨w.heap.size, 5, none⟩ = some (.slice F_p j_p f_p) ∧ w'.cell? ⟨w.heap.size + 1, 0, none⟩ = some (.bool s_q) ∧ w'.cell? ⟨w.heap.size + 1, 1, none⟩ = some (.slice A_q n_q c_q) ∧ w'.cell? ⟨w.heap.size + 1, 2, none⟩ = some (.slice B_q m_q d_q) ∧ w'.cell? ⟨w.heap.size + 1, 3, none⟩ = some (.bool t_q) ∧ w'.cell? ⟨w.heap.size + 1, 4, none⟩ = some (.slice E_q i_q e_q) ∧ w'.cell? ⟨w.heap.size + 1, 5, none⟩ = some (.slice F_q j_q f_q))
    (first | with_reducible exact ⟨XA.c0, XA.c1, XA.c2, XA.c3, XA.c4, XA.c5, XB.c0, XB.c1, XB.c2, XB.c3, XB.c4, XB.c5⟩)
    (first
    | (go_at_call 71; (with_reducible refine (rout6 q hk2 k H1.out H2.out H3.out H4.out).mono ?_); rintro e w_o ⟨s_o, A_o, n_o, c_o, B_o, m_o, d_o, t_o, E_o, i_o, e_o, F_o, j_o, f_o, rfl, o, hh⟩
       try replace p := p.below hh
       try replace q := q.below hh
       try replace XA := XA.below hh
       try replace XB := XB.below hh
       replace hb := bend hb hh)
    | (go_at_call 70; (with_reducible refine (pts_same p o (by omega)).mono ?_); rintro e w_z ⟨rfl, hh⟩
       try replace p := p.below hh
       try replace q := q.below hh
       try replace XA := XA.below hh
       try replace XB := XB.below hh
       replace hb := bend hb hh))
  go_wp2_with fail
  go_ret
  exact ⟨rfl, hb⟩
set_option maxRecDepth 100000 in
set_option maxHeartbeats 4000000 in
theorem pgood_f {w : World} {s_p t_p : Bool} {A_p B_p E_p F_p : Option Addr} {n_p c_p m_p d_p i_p e_p j_p f_p : Nat} {l1 l2 l3 l4 : List Nat} (ap : Rd .u64 w A_p n_p l1) (bp : Rd .u64 w B_p m_p l2) (up : Rd .u64 w E_p i_p l3) (vp : Rd .u64 w F_p j_p l4) (t1 : Lim B64 l1) (t2 : Lim B64 l2) (t3 : Lim B64 l3) (t4 : Lim B64 l4) (hc : n_p ≤ c_p ∧ m_p ≤ d_p ∧ i_p ≤ e_p ∧ j_p ≤ f_p) (hn : n_p ≤ 900 ∧ m_p ≤ 900 ∧ i_p ≤ 900 ∧ j_p ≤ 900) (hr : canon s_p l1 l2 = false) :
    Calls Tryz.prog 87 #[.agg #[.bool s_p, .slice A_p n_p c_p, .slice B_p m_p d_p, .bool t_p, .slice E_p i_p e_p, .slice F_p j_p f_p]] w fun e w' => e = .returned (.bool false) ∧ Below w.heap.size w w' := by
  have HC := Lib.hid hc
  have HN := Lib.hid hn
  have HR := Lib.hid hr
  clear hc hn hr
  go_enter Tryz.func87, Tryz.ntmps87
  go_wp2_with fail
  generalize hW : (w.alloc (Obj.cells #[Value.bool s_p, Value.slice A_p n_p c_p, Value.slice B_p m_p d_p, Value.bool t_p, Value.slice E_p i_p e_p, Value.slice F_p j_p f_p] 83)) = W
  have hb : Below w.heap.size w W := by subst hW; exact ((Below.refl _ _).alloc (Nat.le_refl _) _)
  have XA : B6 W (w.heap.size) (Value.bool s_p) (Value.slice A_p n_p c_p) (Value.slice B_p m_p d_p) (Value.bool t_p) (Value.slice E_p i_p e_p) (Value.slice F_p j_p f_p) := by subst hW; exact B6.new' _ _ _ _ _ _ _ _ rfl
  have hzW : W.heap.size = w.heap.size + 1 := by subst hW; simp
  clear hW
  replace ap := ap.below hb
  replace bp := bp.below hb
  replace up := up.below hb
  replace vp := vp.below hb
  have xa0 := XA.c0
  have xa1 := XA.c1
  have xa2 := XA.c2
  have xa3 := XA.c3
  have xa4 := XA.c4
  have xa5 := XA.c5
  go_wp2_with (first
      | (go_at_call 35; (with_reducible refine (good_l ap bp t1 t2 HC.out.1 HC.out.2.1 HN.out.1 HN.out.2.1 false HR.out).mono ?_); rintro e w_z ⟨rfl, hh⟩
         try replace ap := ap.below hh
         try replace bp := bp.below hh
         try replace up := up.below hh
         try replace vp := vp.below hh
         try replace XA := XA.below hh
         replace hb := bend hb hh
         have xa0 := XA.c0
         have xa1 := XA.c1
         have xa2 := XA.c2
         have xa3 := XA.c3
         have xa4 := XA.c4
         have xa5 := XA.c5))
  go_ret
  exact ⟨rfl, hb⟩
set_option maxRecDepth 100000 in
set_option maxHeartbeats 4000000 in
theorem pgood_t {w : World} {s_p t_p : Bool} {A_p B_p E_p F_p : Option Addr} {n_p c_p m_p d_p i_p e_p j_p f_p : Nat} {l1 l2 l3 l4 : List Nat} (ap : Rd .u64 w A_p n_p l1) (bp : Rd .u64 w B_p m_p l2) (up : Rd .u64 w E_p i_p l3) (vp : Rd .u64 w F_p j_p l4) (t1 : Lim B64 l1) (t2 : Lim B64 l2) (t3 : Lim B64 l3) (t4 : Lim B64 l4) (hc : n_p ≤ c_p ∧ m_p ≤ d_p ∧ i_p ≤ e_p ∧ j_p ≤ f_p) (hn : n_p ≤ 900 ∧ m_p ≤ 900 ∧ i_p ≤ 900 ∧ j_p ≤ 900) (hr : canon s_p l1 l2 = true) :
    Calls Tryz.prog 87 #[.agg #[.bool s_p, .slice A_p n_p c_p, .slice B_p m_p d_p, .bool t_p, .slice E_p i_p e_p, .slice F_p j_p f_p]] w fun e w' => e = .returned (.bool (canon t_p l3 l4)) ∧ Below w.heap.size w w' := by
  have HC := Lib.hid hc
  have HN := Lib.hid hn
  have HR := Lib.hid hr
  obtain ⟨M, hM⟩ : ∃ M, canon t_p l3 l4 = M := ⟨_, rfl⟩
  have HM := Lib.hid hM
  rw [hM]
  clear hM
  clear hc hn hr
  go_enter Tryz.func87, Tryz.ntmps87
  go_wp2_with fail
  generalize hW : (w.alloc (Obj.cells #[Value.bool s_p, Value.slice A_p n_p c_p, Value.slice B_p m_p d_p, Value.bool t_p, Value.slice E_p i_p e_p, Value.slice F_p j_p f_p] 83)) = W
  have hb : Below w.heap.size w W := by subst hW; exact ((Below.refl _ _).alloc (Nat.le_refl _) _)
  have XA : B6 W (w.heap.size) (Value.bool s_p) (Value.slice A_p n_p c_p) (Value.slice B_p m_p d_p) (Value.bool t_p) (Value.slice E_p i_p e_p) (Value.slice F_p j_p f_p) := by subst hW; exact B6.new' _ _ _ _ _ _ _ _ rfl
  have hzW : W.heap.size = w.heap.size + 1 := by subst hW; simp
  clear hW
  replace ap := ap.below hb
  replace bp := bp.below hb
  replace up := up.below hb
  replace vp := vp.below hb
  have xa0 := XA.c0
  have xa1 := XA.c1
  have xa2 := XA.c2
  have xa3 := XA.c3
  have xa4 := XA.c4
  have xa5 := XA.c5
  go_wp2_with (first
      | (go_at_call 35; (with_reducible refine (good_l ap bp t1 t2 HC.out.1 HC.out.2.1 HN.out.1 HN.out.2.1 true HR.out).mono ?_); rintro e w_z ⟨rfl, hh⟩
         try replace ap := ap.below hh
         try replace bp := bp.below hh
         try replace up := up.below hh
         try replace vp := vp.below hh
         try replace XA := XA.below hh
         replace hb := bend hb hh
         have xa0 := XA.c0
         have xa1 := XA.c1
         have xa2 := XA.c2
         have xa3 := XA.c3
         have xa4 := XA.c4
         have xa5 := XA.c5)
      | (go_at_call 35; (with_reducible refine (good_l up vp t3 t4 HC.out.2.2.1 HC.out.2.2.2 HN.out.2.2.1 HN.out.2.2.2 M HM.out).mono ?_); rintro e w_z ⟨rfl, hh⟩
         try replace ap := ap.below hh
         try replace bp := bp.below hh
         try replace up := up.below hh
         try replace vp := vp.below hh
         try replace XA := XA.below hh
         replace hb := bend hb hh
         have xa0 := XA.c0
         have xa1 := XA.c1
         have xa2 := XA.c2
         have xa3 := XA.c3
         have xa4 := XA.c4
         have xa5 := XA.c5))
  go_ret
  exact ⟨rfl, hb⟩
theorem pgood_l {w : World} {s_p t_p : Bool} {A_p B_p E_p F_p : Option Addr} {n_p c_p m_p d_p i_p e_p j_p f_p : Nat} {l1 l2 l3 l4 : List Nat} (ap : Rd .u64 w A_p n_p l1) (bp : Rd .u64 w B_p m_p l2) (up : Rd .u64 w E_p i_p l3) (vp : Rd .u64 w F_p j_p l4) (t1 : Lim B64 l1) (t2 : Lim B64 l2) (t3 : Lim B64 l3) (t4 : Lim B64 l4) (hc : n_p ≤ c_p ∧ m_p ≤ d_p ∧ i_p ≤ e_p ∧ j_p ≤ f_p) (hn : n_p ≤ 900 ∧ m_p ≤ 900 ∧ i_p ≤ 900 ∧ j_p ≤ 900) (R : Bool) (hR : (canon s_p l1 l2 && canon t_p l3 l4) = R) :
    Calls Tryz.prog 87 #[.agg #[.bool s_p, .slice A_p n_p c_p, .slice B_p m_p d_p, .bool t_p, .slice E_p i_p e_p, .slice F_p j_p f_p]] w fun e w' => e = .returned (.bool R) ∧ Below w.heap.size w w' := by
  cases h : canon s_p l1 l2 with
  | false => rw [h, Bool.false_and] at hR; subst hR; exact pgood_f ap bp up vp t1 t2 t3 t4 hc hn h
  | true => rw [h, Bool.true_and] at hR; subst hR; exact pgood_t ap bp up vp t1 t2 t3 t4 hc hn h
end Go.Proofs.YtlkjkhpjhllapaaGreat
