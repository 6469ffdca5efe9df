/- PtPlaces: part 19. -/
import Derived.Test.YtlkjkhpjhllapaaGreatKPtPlaces18
set_option linter.unusedVariables false
namespace Go.Proofs.YtlkjkhpjhllapaaGreat
open Go Go.RowKit
def near2 (px py ax ay bx by_ : Rat) : Rat := (px - bx) * (bx - ax) + (py - by_) * (by_ - ay)
theorem near2_eq (px py ax ay bx by_ : Rat) : near2 px py ax ay bx by_ = forthQ px py ax ay bx by_ - wholeQ ax ay bx by_ := by unfold near2 forthQ wholeQ; grind
theorem sgn_nonneg {v : Rat} : 0 ≤ sgnQ v ↔ 0 ≤ v := by
  unfold sgnQ
  split
  · rename_i q; exact ⟨fun e => absurd e (by decide), fun e => absurd q (Rat.not_lt.2 e)⟩
  · rename_i q; exact ⟨fun _ => Rat.not_lt.1 q, fun _ => by split <;> decide⟩
theorem mid_eq {px py ax ay bx by_ T : Rat} (hw : wholeQ ax ay bx by_ ≠ 0) (hT : T = forthQ px py ax ay bx by_ / wholeQ ax ay bx by_) :
    asideQ px py ax ay bx by_ * asideQ px py ax ay bx by_ / wholeQ ax ay bx by_ = (px - (ax + (bx - ax) * T)) * (px - (ax + (bx - ax) * T)) + (py - (ay + (by_ - ay) * T)) * (py - (ay + (by_ - ay) * T)) := by
  have e1 : T * wholeQ ax ay bx by_ = forthQ px py ax ay bx by_ := by rw [hT]; exact Rat.div_mul_cancel hw
  have e2 : ((px - (ax + (bx - ax) * T)) * (px - (ax + (bx - ax) * T)) + (py - (ay + (by_ - ay) * T)) * (py - (ay + (by_ - ay) * T))) * wholeQ ax ay bx by_ = asideQ px py ax ay bx by_ * asideQ px py ax ay bx by_ := by
    unfold wholeQ forthQ at e1
    unfold wholeQ asideQ
    grind
  rw [← e2]
  exact Rat.mul_div_cancel hw
set_option maxRecDepth 100000 in
set_option maxHeartbeats 4000000 in
theorem rfar6 {w : World} {k k2 : Nat} {x y x2 y2 : Rat} {s_p t_p : Bool} {A_p B_p E_p F_p : Option Addr} {n_p c_p m_p d_p i_p e_p j_p f_p : Nat} {s_q t_q : Bool} {A_q B_q E_q F_q : Option Addr} {n_q c_q m_q d_q i_q e_q j_q f_q : Nat} (p : RP w s_p A_p n_p c_p B_p m_p d_p t_p E_p i_p e_p F_p j_p f_p x y k) (q : RP w s_q A_q n_q c_q B_q m_q d_q t_q E_q i_q e_q F_q j_q f_q x2 y2 k2) (hk : k ≤ 400) (hk2 : k2 ≤ 400) :
    Calls Tryz.prog 91 #[.agg #[.bool s_p, .slice A_p n_p c_p, .slice B_p m_p d_p, .bool t_p, .slice E_p i_p e_p, .slice F_p j_p f_p], .agg #[.bool s_q, .slice A_q n_q c_q, .slice B_q m_q d_q, .bool t_q, .slice E_q i_q e_q, .slice F_q j_q f_q]] w (GivesRQ w ((x - x2) * (x - x2) + (y - y2) * (y - y2)) (k + k2 + 1 + (k + k2 + 1) + (k + k2 + 1 + (k + k2 + 1)) + 1)) := by
  go_enter Tryz.func91, Tryz.ntmps91
  go_upto_region 1 with (fail)
  generalize hW : (((w.alloc (Obj.cells #[Value.bool s_p, Value.slice A_p n_p c_p, Value.slice B_p m_p d_p, Value.bool t_p, Value.slice E_p i_p e_p, Value.slice F_p j_p f_p] 86)).alloc (Obj.cells #[Value.bool s_q, Value.slice A_q n_q c_q, Value.slice B_q m_q d_q, Value.bool t_q, Value.slice E_q i_q e_q, Value.slice F_q j_q f_q] 86)).alloc (Obj.cells #[Value.bool false, Value.slice none 0 0, Value.slice none 0 0] 34)) = W
  have hb : Below w.heap.size w W := by subst hW; exact ((((Below.refl _ _).alloc (Nat.le_refl _) _).alloc (by simp) _).alloc (by simp; omega) _)
  have XA : B6R W (w.heap.size) (Value.bool s_p) (Value.slice A_p n_p c_p) (Value.slice B_p m_p d_p) (Value.bool t_p) (Value.slice E_p i_p e_p) (Value.slice F_p j_p f_p) := by subst hW; exact ((B6R.new' _ _ _ _ _ _ _ _ rfl).alloc _).alloc _
  have XB : B6R W (w.heap.size + 1) (Value.bool s_q) (Value.slice A_q n_q c_q) (Value.slice B_q m_q d_q) (Value.bool t_q) (Value.slice E_q i_q e_q) (Value.slice F_q j_q f_q) := by subst hW; exact (B6R.new' _ _ _ _ _ _ _ _ (by simp)).alloc _
  have Z : B3R W (w.heap.size + 1 + 1) (Value.bool false) (Value.slice none 0 0) (Value.slice none 0 0) := by subst hW; exact B3R.new' _ _ _ _ _ (by simp)
  have hzW : W.heap.size = w.heap.size + 3 := by subst hW; simp
  clear hW
  replace p := p.below hb
  replace q := q.below hb
  replace p := p.below (Below.refl _ _).drew
  replace q := q.below (Below.refl _ _).drew
  replace XA := XA.below (Below.refl _ _).drew
  replace XB := XB.below (Below.refl _ _).drew
  replace Z := Z.below (Below.refl _ _).drew
  replace hb := hb.drew
  go_region_held3 (fun w' => w'.cell? ⟨w.heap.size, 0, none⟩ = some (.bool s_p) ∧ w'.cell? ⟨w.heap.size, 1, none⟩ = some (.slice A_p n_p c_p) ∧ w'.cell? ⟨w.heap.size, 2, none⟩ = some (.slice B_p m_p d_p) ∧ w'.cell? ⟨w.heap.size, 3, none⟩ = some (.bool t_p) ∧ w'.cell? ⟨w.heap.size, 4, none⟩ = some (.slice E_p i_p e_p) ∧ w'.cell? ⟨w.heap.size, 5, none⟩ = some (.slice F_p j_p f_p) ∧ w'.cell? ⟨w.heap.size + 1, 0, none⟩ = some (.bool s_q) ∧ w'.cell? ⟨w.heap.size + 1, 1, none⟩ = some (.slice A_q n_q c_q) ∧ w'.cell? ⟨w.heap.size + 1, 2, none⟩ = some (.slice B_q m_q d_q) ∧ w'.cell? ⟨w.heap.size + 1, 3, none⟩ = some (.bool t_q) ∧ w'.cell? ⟨w.heap.size + 1, 4, none⟩ = some (.slice E_q i_q e_q) ∧ w'.cell? ⟨w.heap.size + 1, 5, none⟩ = some (.slice F_q j_q f_q))
    (first | with_reducible exact ⟨XA.c0, XA.c1, XA.c2, XA.c3, XA.c4, XA.c5, XB.c0, XB.c1, XB.c2, XB.c3, XB.c4, XB.c5⟩ | with_reducible exact ⟨(set3_cell _ _ _ _ _ _ _ (by omega)).trans XA.c0, (set3_cell _ _ _ _ _ _ _ (by omega)).trans XA.c1, (set3_cell _ _ _ _ _ _ _ (by omega)).trans XA.c2, (set3_cell _ _ _ _ _ _ _ (by omega)).trans XA.c3, (set3_cell _ _ _ _ _ _ _ (by omega)).trans XA.c4, (set3_cell _ _ _ _ _ _ _ (by omega)).trans XA.c5, (set3_cell _ _ _ _ _ _ _ (by omega)).trans XB.c0, (set3_cell _ _ _ _ _ _ _ (by omega)).trans XB.c1, (set3_cell _ _ _ _ _ _ _ (by omega)).trans XB.c2, (set3_cell _ _ _ _ _ _ _ (by omega)).trans XB.c3, (set3_cell _ _ _ _ _ _ _ (by omega)).trans XB.c4, (set3_cell _ _ _ _ _ _ _ (by omega)).trans XB.c5⟩)
    (first
    | (go_at_call 76; (have h0 := a); (with_reducible refine (rsub6 p q (by omega) (by omega)).mono ?_); rintro e w_b ⟨s_b, A_b, n_b, c_b, B_b, m_b, d_b, t_b, E_b, i_b, e_b, F_b, j_b, f_b, rfl, b, hh⟩
       try replace p := p.below hh
       try replace q := q.below hh
       try replace a := a.below hh
       try replace XA := XA.below hh
       try replace XB := XB.below hh
       try replace Z := Z.below hh
       clear h0
       replace hb := bend hb hh)
    | (go_at_call 76; (with_reducible refine (rsub6 p q (by omega) (by omega)).mono ?_); rintro e w_a ⟨s_a, A_a, n_a, c_a, B_a, m_a, d_a, t_a, E_a, i_a, e_a, F_a, j_a, f_a, rfl, a, hh⟩
       try replace p := p.below hh
       try replace q := q.below hh
       try replace XA := XA.below hh
       try replace XB := XB.below hh
       try replace Z := Z.below hh
       replace hb := bend hb hh)
    | (go_at_call 82; (with_reducible refine (rdot6 a b (by omega) (by omega)).mono ?_); rintro e w_v ⟨s_v, A_v, n_v, c_v, B_v, m_v, d_v, rfl, v, hh⟩
       try replace XA := XA.below hh
       try replace XB := XB.below hh
       try replace Z := Z.below hh
       replace hb := bend hb hh
       have zf0 := Z.f0
       have zf1 := Z.f1
       have zf2 := Z.f2
       have z0 := Z.c0
       have z1 := Z.c1
       have z2 := Z.c2))
  go_wp2_with fail
  have Z2 := Z.set3 (.bool s_v) (.slice A_v n_v c_v) (.slice B_v m_v d_v)
  have g0 := Z2.c0
  have g1 := Z2.c1
  have g2 := Z2.c2
  refine bodyPost_ret (v := .agg #[.bool s_v, .slice A_v n_v c_v, .slice B_v m_v d_v]) (by simp [results, Tryz.results91, go_sem, g0, g1, g2]) rfl ?_
  exact ⟨s_v, A_v, n_v, c_v, B_v, m_v, d_v, rfl, v.set3 Z _ _ _, below_set3 hb (by omega) _ _ _⟩
set_option maxRecDepth 100000 in
set_option maxHeartbeats 4000000 in
theorem rorient6 {w : World} {k : Nat} {ax ay bx by_ cx cy : Rat} {s_p t_p : Bool} {A_p B_p E_p F_p : Option Addr} {n_p c_p m_p d_p i_p e_p j_p f_p : Nat} {s_q t_q : Bool} {A_q B_q E_q F_q : Option Addr} {n_q c_q m_q d_q i_q e_q j_q f_q : Nat} {s_r t_r : Bool} {A_r B_r E_r F_r : Option Addr} {n_r c_r m_r d_r i_r e_r j_r f_r : Nat} (p : RP w s_p A_p n_p c_p B_p m_p d_p t_p E_p i_p e_p F_p j_p f_p ax ay k) (q : RP w s_q A_q n_q c_q B_q m_q d_q t_q E_q i_q e_q F_q j_q f_q bx by_ k) (r : RP w s_r A_r n_r c_r B_r m_r d_r t_r E_r i_r e_r F_r j_r f_r cx cy k) (hk : k ≤ 300) (K : Int) (hK : sgnQ ((bx - ax) * (cy - ay) - (by_ - ay) * (cx - ax)) = K) :
    Calls Tryz.prog 89 #[.agg #[.bool s_p, .slice A_p n_p c_p, .slice B_p m_p d_p, .bool t_p, .slice E_p i_p e_p, .slice F_p j_p f_p], .agg #[.bool s_q, .slice A_q n_q c_q, .slice B_q m_q d_q, .bool t_q, .slice E_q i_q e_q, .slice F_q j_q f_q], .agg #[.bool s_r, .slice A_r n_r c_r, .slice B_r m_r d_r, .bool t_r, .slice E_r i_r e_r, .slice F_r j_r f_r]] w fun e w' => e = .returned (.int .i64 K) ∧ Below w.heap.size w w' := by
  have HK := Lib.hid hK
  clear hK
  go_enter Tryz.func89, Tryz.ntmps89
  go_upto_region 1 with (fail)
  generalize hW : (((w.alloc (Obj.cells #[Value.bool s_p, Value.slice A_p n_p c_p, Value.slice B_p m_p d_p, Value.bool t_p, Value.slice E_p i_p e_p, Value.slice F_p j_p f_p] 86)).alloc (Obj.cells #[Value.bool s_q, Value.slice A_q n_q c_q, Value.slice B_q m_q d_q, Value.bool t_q, Value.slice E_q i_q e_q, Value.slice F_q j_q f_q] 86)).alloc (Obj.cells #[Value.bool s_r, Value.slice A_r n_r c_r, Value.slice B_r m_r d_r, Value.bool t_r, Value.slice E_r i_r e_r, Value.slice F_r j_r f_r] 86)) = W
  have hb : Below w.heap.size w W := by subst hW; exact ((((Below.refl _ _).alloc (Nat.le_refl _) _).alloc (by simp) _).alloc (by simp; omega) _)
  have XA : B6R W (w.heap.size) (Value.bool s_p) (Value.slice A_p n_p c_p) (Value.slice B_p m_p d_p) (Value.bool t_p) (Value.slice E_p i_p e_p) (Value.slice F_p j_p f_p) := by subst hW; exact ((B6R.new' _ _ _ _ _ _ _ _ rfl).alloc _).alloc _
  have XB : B6R W (w.heap.size + 1) (Value.bool s_q) (Value.slice A_q n_q c_q) (Value.slice B_q m_q d_q) (Value.bool t_q) (Value.slice E_q i_q e_q) (Value.slice F_q j_q f_q) := by subst hW; exact (B6R.new' _ _ _ _ _ _ _ _ (by simp)).alloc _
  have XC : B6R W (w.heap.size + 1 + 1) (Value.bool s_r) (Value.slice A_r n_r c_r) (Value.slice B_r m_r d_r) (Value.bool t_r) (Value.slice E_r i_r e_r) (Value.slice F_r j_r f_r) := by subst hW; exact B6R.new' _ _ _ _ _ _ _ _ (by simp)
  have hzW : W.heap.size = w.heap.size + 3 := by subst hW; simp
  clear hW
  replace p := p.below hb
  replace q := q.below hb
  replace r := r.below hb
  replace p := p.below (Below.refl _ _).drew
  replace q := q.below (Below.refl _ _).drew
  replace r := r.below (Below.refl _ _).drew
  replace XA := XA.below (Below.refl _ _).drew
  replace XB := XB.below (Below.refl _ _).drew
  replace XC := XC.below (Below.refl _ _).drew
  replace hb := hb.drew
  go_region_held3 (fun w' => w'.cell? ⟨w.heap.size, 0, none⟩ = some (.bool s_p) ∧ w'.cell? ⟨w.heap.size, 1, none⟩ = some (.slice A_p n_p c_p) ∧ w'.cell? ⟨w.heap.size, 2, none⟩ = some (.slice B_p m_p d_p) ∧ w'.cell? ⟨w.heap.size, 3, none⟩ = some (.bool t_p) ∧ w'.cell? ⟨w.heap.size, 4, none⟩ = some (.slice E_p i_p e_p) ∧ w'.cell? ⟨w.heap.size, 5, none⟩ = some (.slice F_p j_p f_p) ∧ w'.cell? ⟨w.heap.size + 1, 0, none⟩ = some (.bool s_q) ∧ w'.cell? ⟨w.heap.size + 1, 1, none⟩ = some (.slice A_q n_q c_q) ∧ w'.cell? ⟨w.heap.size + 1, 2, none⟩ = some (.slice B_q m_q d_q) ∧ w'.cell? ⟨w.heap.size + 1, 3, none⟩ = some (.bool t_q) ∧ w'.cell? ⟨w.heap.size + 1, 4, none⟩ = some (.slice E_q i_q e_q) ∧ w'.cell? ⟨w.heap.size + 1, 5, none⟩ = some (.slice F_q j_q f_q) ∧ w'.cell? ⟨w.heap.size + 1 + 1, 0, none⟩ = some (.bool s_r) ∧ w'.cell? ⟨w.heap.size + 1 + 1, 1, none⟩ = some (.slice A_r n_r c_r) ∧ w'.cell? ⟨w.heap.size + 1 + 1, 2, none⟩ = some (.slice B_r m_r d_r) ∧ w'.cell? ⟨w.heap.size + 1 + 1, 3, none⟩ = some (.bool t_r) ∧ w'.cell? ⟨w.heap.size + 1 + 1, 4, none⟩ = some (.slice E_r i_r e_r) ∧ w'.cell? ⟨w.heap.size + 1 + 1, 5, none⟩ = some (.slice F_r j_r f_r))
    (first | with_reducible exact ⟨XA.c0, XA.c1, XA.c2, XA.c3, XA.c4, XA.c5, XB.c0, XB.c1, XB.c2, XB.c3, XB.c4, XB.c5, XC.c0, XC.c1, XC.c2, XC.c3, XC.c4, XC.c5⟩)
    (first
    | (go_at_call 76; (with_reducible refine (rsub6 q p (by omega) (by omega)).mono ?_); rintro e w_a ⟨s_a, A_a, n_a, c_a, B_a, m_a, d_a, t_a, E_a, i_a, e_a, F_a, j_a, f_a, rfl, a, hh⟩
       try replace p := p.below hh
       try replace q := q.below hh
       try replace r := r.below hh
       try replace XA := XA.below hh
       try replace XB := XB.below hh
       try replace XC := XC.below hh
       replace hb := bend hb hh)
    | (go_at_call 76; (with_reducible refine (rsub6 r p (by omega) (by omega)).mono ?_); rintro e w_b ⟨s_b, A_b, n_b, c_b, B_b, m_b, d_b, t_b, E_b, i_b, e_b, F_b, j_b, f_b, rfl, b, hh⟩
       try replace p := p.below hh
       try replace q := q.below hh
       try replace r := r.below hh
       try replace XA := XA.below hh
       try replace XB := XB.below hh
       try replace XC := XC.below hh
       try replace a := a.below hh
       replace hb := bend hb hh)
    | (go_at_call 84; (with_reducible refine (rcross6 a b (by omega) (by omega)).mono ?_); rintro e w_v ⟨s_v, A_v, n_v, c_v, B_v, m_v, d_v, rfl, v, hh⟩
       try replace XA := XA.below hh
       try replace XB := XB.below hh
       try replace XC := XC.below hh
       replace hb := bend hb hh)
    | (go_at_call 19; (with_reducible refine (rsign3 v).mono ?_); rintro e w_z ⟨rfl, hh⟩
       rw [HK.out]
       try replace XA := XA.below hh
       try replace XB := XB.below hh
       try replace XC := XC.below hh
       replace hb := bend hb hh))
  go_wp2_with fail
  go_ret
  exact ⟨rfl, hb⟩
set_option maxRecDepth 100000 in
set_option maxHeartbeats 8000000 in
theorem rnear_same {w : World} {k : Nat} {px py ax ay bx by_ : Rat} {s_p t_p : Bool} {A_p B_p E_p F_p : Option Addr} {n_p c_p m_p d_p i_p e_p j_p f_p : Nat} {s_q t_q : Bool} {A_q B_q E_q F_q : Option Addr} {n_q c_q m_q d_q i_q e_q j_q f_q : Nat} {s_r t_r : Bool} {A_r B_r E_r F_r : Option Addr} {n_r c_r m_r d_r i_r e_r j_r f_r : Nat} (p : RP w s_p A_p n_p c_p B_p m_p d_p t_p E_p i_p e_p F_p j_p f_p px py k) (q : RP w s_q A_q n_q c_q B_q m_q d_q t_q E_q i_q e_q F_q j_q f_q ax ay k) (r : RP w s_r A_r n_r c_r B_r m_r d_r t_r E_r i_r e_r F_r j_r f_r bx by_ k) (hk : k ≤ 12) (hs : ax = bx ∧ ay = by_) :
    Calls Tryz.prog 161 #[.agg #[.bool s_p, .slice A_p n_p c_p, .slice B_p m_p d_p, .bool t_p, .slice E_p i_p e_p, .slice F_p j_p f_p], .agg #[.bool s_q, .slice A_q n_q c_q, .slice B_q m_q d_q, .bool t_q, .slice E_q i_q e_q, .slice F_q j_q f_q], .agg #[.bool s_r, .slice A_r n_r c_r, .slice B_r m_r d_r, .bool t_r, .slice E_r i_r e_r, .slice F_r j_r f_r]] w (GivesRP w ax ay (19 * k + 12)) := by
  have HS : Hid (decide (ax = bx ∧ ay = by_) = true) := decide_eq_true hs
  clear hs
  go_enter Tryz.func161, Tryz.ntmps161
  go_wp2_with fail
  generalize hW : ((((w.alloc (Obj.cells #[Value.bool s_p, Value.slice A_p n_p c_p, Value.slice B_p m_p d_p, Value.bool t_p, Value.slice E_p i_p e_p, Value.slice F_p j_p f_p] 86)).alloc (Obj.cells #[Value.bool s_q, Value.slice A_q n_q c_q, Value.slice B_q m_q d_q, Value.bool t_q, Value.slice E_q i_q e_q, Value.slice F_q j_q f_q] 86)).alloc (Obj.cells #[Value.bool s_r, Value.slice A_r n_r c_r, Value.slice B_r m_r d_r, Value.bool t_r, Value.slice E_r i_r e_r, Value.slice F_r j_r f_r] 86)).alloc (Obj.cells #[Value.bool false, Value.slice none 0 0, Value.slice none 0 0, Value.bool false, Value.slice none 0 0, Value.slice none 0 0] 86)) = W
  have hb : Below w.heap.size w W := by subst hW; exact (((((Below.refl _ _).alloc (Nat.le_refl _) _).alloc (by simp) _).alloc (by simp; omega) _).alloc (by simp; omega) _)
  have XA : B6R W (w.heap.size) (Value.bool s_p) (Value.slice A_p n_p c_p) (Value.slice B_p m_p d_p) (Value.bool t_p) (Value.slice E_p i_p e_p) (Value.slice F_p j_p f_p) := by subst hW; exact (((B6R.new' _ _ _ _ _ _ _ _ rfl).alloc _).alloc _).alloc _
  have XB : B6R W (w.heap.size + 1) (Value.bool s_q) (Value.slice A_q n_q c_q) (Value.slice B_q m_q d_q) (Value.bool t_q) (Value.slice E_q i_q e_q) (Value.slice F_q j_q f_q) := by subst hW; exact ((B6R.new' _ _ _ _ _ _ _ _ (by simp)).alloc _).alloc _
  have XC : B6R W (w.heap.size + 1 + 1) (Value.bool s_r) (Value.slice A_r n_r c_r) (Value.slice B_r m_r d_r) (Value.bool t_r) (Value.slice E_r i_r e_r) (Value.slice F_r j_r f_r) := by subst hW; exact (B6R.new' _ _ _ _ _ _ _ _ (by simp)).alloc _
  have Z : B6R W (w.heap.size + 1 + 1 + 1) (Value.bool false) (Value.slice none 0 0) (Value.slice none 0 0) (Value.bool false) (Value.slice none 0 0) (Value.slice none 0 0) := by subst hW; exact B6R.new' _ _ _ _ _ _ _ _ (by simp)
  have hzW : W.heap.size = w.heap.size + 4 := by subst hW; simp
  clear hW
  replace p := p.below hb
  replace q := q.below hb
  replace r := r.below hb
  have xa0 := XA.c0
  have xa1 := XA.c1
  have xa2 := XA.c2
  have xa3 := XA.c3
  have xa4 := XA.c4
  have xa5 := XA.c5
  have xb0 := XB.c0
  have xb1 := XB.c1
  have xb2 := XB.c2
  have xb3 := XB.c3
  have xb4 := XB.c4
  have xb5 := XB.c5
  have xc0 := XC.c0
  have xc1 := XC.c1
  have xc2 := XC.c2
  have xc3 := XC.c3
  have xc4 := XC.c4
  have xc5 := XC.c5
  go_upto_region 2 with (first
      | (go_at_call 76; (with_reducible refine (rsub6 r q (by omega) (by omega)).mono ?_); rintro e w_d ⟨s_d, A_d, n_d, c_d, B_d, m_d, d_d, t_d, E_d, i_d, e_d, F_d, j_d, f_d, rfl, d, hh⟩
         have hgd : w.heap.size + 4 ≤ w_d.heap.size := by have := hh.size; omega
         try replace p := p.below hh
         try replace q := q.below hh
         try replace r := r.below hh
         try replace XA := XA.below hh
         try replace XB := XB.below hh
         try replace XC := XC.below hh
         try replace Z := Z.below hh
         replace hb := bend hb hh
         have xa0 := XA.c0
         have xa1 := XA.c1
         have xa2 := XA.c2
         have xa3 := XA.c3
         have xa4 := XA.c4
         have xa5 := XA.c5
         have xb0 := XB.c0
         have xb1 := XB.c1
         have xb2 := XB.c2
         have xb3 := XB.c3
         have xb4 := XB.c4
         have xb5 := XB.c5
         have xc0 := XC.c0
         have xc1 := XC.c1
         have xc2 := XC.c2
         have xc3 := XC.c3
         have xc4 := XC.c4
         have xc5 := XC.c5))
  generalize hW : (w_d.alloc (Obj.cells #[Value.bool s_d, Value.slice A_d n_d c_d, Value.slice B_d m_d d_d, Value.bool t_d, Value.slice E_d i_d e_d, Value.slice F_d j_d f_d] 86)) = W2
  have hh : Below w_d.heap.size w_d W2 := by subst hW; exact ((Below.refl _ _).alloc (Nat.le_refl _) _)
  have XD : B6R W2 (w_d.heap.size) (Value.bool s_d) (Value.slice A_d n_d c_d) (Value.slice B_d m_d d_d) (Value.bool t_d) (Value.slice E_d i_d e_d) (Value.slice F_d j_d f_d) := by subst hW; exact B6R.new' _ _ _ _ _ _ _ _ rfl
  have hzW2 : W2.heap.size = w_d.heap.size + 1 := by subst hW; simp
  clear hW
  try replace p := p.below hh
  try replace q := q.below hh
  try replace r := r.below hh
  try replace XA := XA.below hh
  try replace XB := XB.below hh
  try replace XC := XC.below hh
  try replace Z := Z.below hh
  try replace d := d.below hh
  replace hb := bend hb hh
  replace p := p.below (Below.refl _ _).drew
  replace q := q.below (Below.refl _ _).drew
  replace r := r.below (Below.refl _ _).drew
  replace d := d.below (Below.refl _ _).drew
  replace XA := XA.below (Below.refl _ _).drew
  replace XB := XB.below (Below.refl _ _).drew
  replace XC := XC.below (Below.refl _ _).drew
  replace XD := XD.below (Below.refl _ _).drew
  replace Z := Z.below (Below.refl _ _).drew
  replace hb := hb.drew
  refine wp_region_held_drew (S := (fun w' => w'.cell? ⟨w.heap.size, 0, none⟩ = some (.bool s_p) ∧ w'.cell? ⟨w.heap.size, 1, none⟩ = some (.slice A_p n_p c_p) ∧ w'.cell? ⟨w.heap.size, 2, none⟩ = some (.slice B_p m_p d_p) ∧ w'.cell? ⟨w.heap.size, 3, none⟩ = some (.bool t_p) ∧ w'.cell? ⟨w.heap.size, 4, none⟩ = some (.slice E_p i_p e_p) ∧ w'.cell? ⟨w.heap.size, 5, none⟩ = some (.slice F_p j_p f_p) ∧ w'.cell? ⟨w.heap.size + 1, 0, none⟩ = some (.bool s_q) ∧ w'.cell? ⟨w.heap.size + 1, 1, none⟩ = some (.slice A_q n_q c_q) ∧ w'.cell? ⟨w.heap.size + 1, 2, none⟩ = some (.slice B_q m_q d_q) ∧ w'.cell? ⟨w.heap.size + 1, 3, none⟩ = some (.bool t_q) ∧ w'.cell? ⟨w.heap.size + 1, 4, none⟩ = some (.slice E_q i_q e_q) ∧ w'.cell? ⟨w.heap.size + 1, 5, none⟩ = some (.slice F_q j_q f_q) ∧ w'.cell? ⟨w.heap.size + 1 + 1, 0, none⟩ = some (.bool s_r) ∧ w'.cell? ⟨w.heap.size + 1 + 1, 1, none⟩ = some (.slice A_r n_r c_r) ∧ w'.cell? ⟨w.heap.size + 1 + 1, 2, none⟩ = some (.slice B_r m_r d_r) ∧ w'.cell? ⟨w.heap.size + 1 + 1, 3, none⟩ = some (.bool t_r) ∧ w'.cell? ⟨w.heap.size + 1 + 1, 4, none⟩ = some (.slice E_r i_r e_r) ∧ w'.cell? ⟨w.heap.size + 1 + 1, 5, none⟩ = some (.slice F_r j_r f_r) ∧ w'.cell? ⟨w_d.heap.size, 0, none⟩ = some (.bool s_d) ∧ w'.cell? ⟨w_d.heap.size, 1, none⟩ = some (.slice A_d n_d c_d) ∧ w'.cell? ⟨w_d.heap.size, 2, none⟩ = some (.slice B_d m_d d_d) ∧ w'.cell? ⟨w_d.heap.size, 3, none⟩ = some (.bool t_d) ∧ w'.cell? ⟨w_d.heap.size, 4, none⟩ = some (.slice E_d i_d e_d) ∧ w'.cell? ⟨w_d.heap.size, 5, none⟩ = some (.slice F_d j_d f_d))) (by kernel_rfl) ⟨XA.c0, XA.c1, XA.c2, XA.c3, XA.c4, XA.c5, XB.c0, XB.c1, XB.c2, XB.c3, XB.c4, XB.c5, XC.c0, XC.c1, XC.c2, XC.c3, XC.c4, XC.c5, XD.c0, XD.c1, XD.c2, XD.c3, XD.c4, XD.c5⟩ (fun hHeld => ?_)
  refine wpAnyH_take (i := 0) (oi := { dst := some 11, op := Op.load 86 (Operand.tmp 4), type := 86, pos := "ref.go:62", after := #[], guard := none }) (v := ?_) rfl (by kernel_rfl) (by kernel_rfl) (by kernel_rfl) (fun _ _ _ h => h) (Or.inl ⟨by rfl, ?_⟩) hHeld ?_
  rotate_left
  · (intro w hSw; (try dsimp only at hSw); go_simp; try with_reducible rfl)
  simp only [Act.put, List.setIfInBounds_toArray, List.set_cons_zero, List.set_cons_succ]
  refine wpAnyH_take (i := 1) (oi := { dst := some 12, op := Op.load 86 (Operand.tmp 5), type := 86, pos := "ref.go:62", after := #[], guard := none }) (v := ?_) rfl (by kernel_rfl) (by kernel_rfl) (by kernel_rfl) (fun _ _ _ h => h) (Or.inl ⟨by rfl, ?_⟩) hHeld ?_
  rotate_left
  · (intro w hSw; (try dsimp only at hSw); go_simp; try with_reducible rfl)
  simp only [Act.put, List.setIfInBounds_toArray, List.set_cons_zero, List.set_cons_succ]
  refine wpAnyH_ready (rs := [2]) (by kernel_rfl) (by simp) ?_
  refine AllReadyH.cons (o := { dst := some 13, op := Op.call { callee := Callee.value (Operand.func 86), args := #[Operand.tmp 11, Operand.tmp 12], argTypes := #[86, 86] }, type := 4, pos := "ref.go:62", after := #[{ on := 0, ground := Ground.data }, { on := 1, ground := Ground.data }], guard := none }) rfl (fun K1 hK1 => ?_) AllReadyH.nil
  go_simp
  first
    | (go_at_call 86; (with_reducible refine (rsame6 q r (by omega) (by omega) true HS.out).mono ?_); rintro e w_z ⟨rfl, hh⟩
       try replace p := p.below hh
       try replace q := q.below hh
       try replace r := r.below hh
       try replace d := d.below hh
       try replace XA := XA.below hh
       try replace XB := XB.below hh
       try replace XC := XC.below hh
       try replace XD := XD.below hh
       try replace Z := Z.below hh
       replace hb := bend hb hh)
  refine hK1.out _ _ ⟨XA.c0, XA.c1, XA.c2, XA.c3, XA.c4, XA.c5, XB.c0, XB.c1, XB.c2, XB.c3, XB.c4, XB.c5, XC.c0, XC.c1, XC.c2, XC.c3, XC.c4, XC.c5, XD.c0, XD.c1, XD.c2, XD.c3, XD.c4, XD.c5⟩ (fun hHeld => ?_)
  clear hK1 K1
  refine wpAnyH_take (i := 3) (oi := { dst := some 14, op := Op.move (Operand.tmp 13), type := 4, pos := "ref.go:62", after := #[{ on := 2, ground := Ground.data }, { on := 2, ground := Ground.chain }], guard := none }) (v := ?_) rfl (by kernel_rfl) (by kernel_rfl) (by kernel_rfl) (fun _ _ _ h => h) (Or.inl ⟨by rfl, ?_⟩) hHeld ?_
  rotate_left
  · (intro w hSw; (try dsimp only at hSw); go_simp; try with_reducible rfl)
  simp only [Act.put, List.setIfInBounds_toArray, List.set_cons_zero, List.set_cons_succ]
  refine wpAnyH_take (i := 4) (oi := { dst := some 15, op := Op.load 86 (Operand.tmp 3), type := 86, pos := "ref.go:62", after := #[{ on := 3, ground := Ground.guard }], guard := some (3, false) }) (v := undef) rfl (by kernel_rfl) (by kernel_rfl) (by kernel_rfl) (fun _ _ _ h => h) (Or.inr ⟨by rfl, rfl⟩) hHeld ?_
  simp only [Act.put, List.setIfInBounds_toArray, List.set_cons_zero, List.set_cons_succ]
  refine wpAnyH_take (i := 5) (oi := { dst := some 16, op := Op.load 86 (Operand.tmp 4), type := 86, pos := "ref.go:62", after := #[{ on := 3, ground := Ground.guard }], guard := some (3, false) }) (v := undef) rfl (by kernel_rfl) (by kernel_rfl) (by kernel_rfl) (fun _ _ _ h => h) (Or.inr ⟨by rfl, rfl⟩) hHeld ?_
  simp only [Act.put, List.setIfInBounds_toArray, List.set_cons_zero, List.set_cons_succ]
  refine wpAnyH_take (i := 6) (oi := { dst := some 17, op := Op.call { callee := Callee.value (Operand.func 76), args := #[Operand.tmp 15, Operand.tmp 16], argTypes := #[86, 86] }, type := 86, pos := "ref.go:62", after := #[{ on := 4, ground := Ground.data }, { on := 5, ground := Ground.data }, { on := 3, ground := Ground.chain }, { on := 3, ground := Ground.guard }], guard := some (3, false) }) (v := undef) rfl (by kernel_rfl) (by kernel_rfl) (by kernel_rfl) (fun _ _ _ h => h) (Or.inr ⟨by rfl, rfl⟩) hHeld ?_
  simp only [Act.put, List.setIfInBounds_toArray, List.set_cons_zero, List.set_cons_succ]
  refine wpAnyH_take (i := 7) (oi := { dst := some 18, op := Op.load 86 (Operand.tmp 7), type := 86, pos := "ref.go:62", after := #[{ on := 3, ground := Ground.guard }], guard := some (3, false) }) (v := undef) rfl (by kernel_rfl) (by kernel_rfl) (by kernel_rfl) (fun _ _ _ h => h) (Or.inr ⟨by rfl, rfl⟩) hHeld ?_
  simp only [Act.put, List.setIfInBounds_toArray, List.set_cons_zero, List.set_cons_succ]
  refine wpAnyH_take (i := 8) (oi := { dst := some 19, op := Op.call { callee := Callee.value (Operand.func 82), args := #[Operand.tmp 17, Operand.tmp 18], argTypes := #[86, 86] }, type := 34, pos := "ref.go:62", after := #[{ on := 6, ground := Ground.data }, { on := 7, ground := Ground.data }, { on := 6, ground := Ground.chain }, { on := 3, ground := Ground.guard }], guard := some (3, false) }) (v := undef) rfl (by kernel_rfl) (by kernel_rfl) (by kernel_rfl) (fun _ _ _ h => h) (Or.inr ⟨by rfl, rfl⟩) hHeld ?_
  simp only [Act.put, List.setIfInBounds_toArray, List.set_cons_zero, List.set_cons_succ]
  refine wpAnyH_take (i := 9) (oi := { dst := some 20, op := Op.call { callee := Callee.value (Operand.func 19), args := #[Operand.tmp 19], argTypes := #[34] }, type := 3, pos := "ref.go:62", after := #[{ on := 8, ground := Ground.data }, { on := 8, ground := Ground.chain }, { on := 3, ground := Ground.guard }], guard := some (3, false) }) (v := undef) rfl (by kernel_rfl) (by kernel_rfl) (by kernel_rfl) (fun _ _ _ h => h) (Or.inr ⟨by rfl, rfl⟩) hHeld ?_
  simp only [Act.put, List.setIfInBounds_toArray, List.set_cons_zero, List.set_cons_succ]
  refine wpAnyH_take (i := 10) (oi := { dst := some 21, op := Op.binOp BinOp.leq 3 (Operand.tmp 20) (Operand.const (Value.int IntKind.i64 0)) 3, type := 4, pos := "ref.go:62", after := #[{ on := 9, ground := Ground.data }, { on := 3, ground := Ground.guard }], guard := some (3, false) }) (v := undef) rfl (by kernel_rfl) (by kernel_rfl) (by kernel_rfl) (fun _ _ _ h => h) (Or.inr ⟨by rfl, rfl⟩) hHeld ?_
  simp only [Act.put, List.setIfInBounds_toArray, List.set_cons_zero, List.set_cons_succ]
  refine wpAnyH_take (i := 11) (oi := { dst := some 22, op := Op.pick (Operand.tmp 14) (Operand.const (Value.bool true)) (Operand.tmp 21), type := 4, pos := "ref.go:62", after := #[{ on := 3, ground := Ground.data }, { on := 10, ground := Ground.data }], guard := none }) (v := ?_) rfl (by kernel_rfl) (by kernel_rfl) (by kernel_rfl) (fun _ _ _ h => h) (Or.inl ⟨by rfl, ?_⟩) hHeld ?_
  rotate_left
  · (intro w hSw; (try dsimp only at hSw); go_simp; try with_reducible rfl)
  simp only [Act.put, List.setIfInBounds_toArray, List.set_cons_zero, List.set_cons_succ]
  refine wpAnyH_done (by kernel_rfl) ?_ _
  clear hHeld
  have zg0 := Z.f0
  have zg1 := Z.f1
  have zg2 := Z.f2
  have zg3 := Z.f3
  have zg4 := Z.f4
  have zg5 := Z.f5
  have zc0 := Z.c0
  have zc1 := Z.c1
  have zc2 := Z.c2
  have zc3 := Z.c3
  have zc4 := Z.c4
  have zc5 := Z.c5
  have xb0 := XB.c0
  have xb1 := XB.c1
  have xb2 := XB.c2
  have xb3 := XB.c3
  have xb4 := XB.c4
  have xb5 := XB.c5
  go_wp2_with fail
  have Z2 := Z.set6 (.bool s_q) (.slice A_q n_q c_q) (.slice B_q m_q d_q) (.bool t_q) (.slice E_q i_q e_q) (.slice F_q j_q f_q)
  have g0 := Z2.c0
  have g1 := Z2.c1
  have g2 := Z2.c2
  have g3 := Z2.c3
  have g4 := Z2.c4
  have g5 := Z2.c5
  refine bodyPost_ret (v := .agg #[.bool s_q, .slice A_q n_q c_q, .slice B_q m_q d_q, .bool t_q, .slice E_q i_q e_q, .slice F_q j_q f_q]) (by simp [results, Tryz.results161, go_sem, g0, g1, g2, g3, g4, g5]) rfl ?_
  exact ⟨s_q, A_q, n_q, c_q, B_q, m_q, d_q, t_q, E_q, i_q, e_q, F_q, j_q, f_q, rfl, (q.more (by omega)).set6 Z _ _ _ _ _ _, below_set6 hb (by omega) _ _ _ _ _ _⟩
set_option maxRecDepth 100000 in
set_option maxHeartbeats 8000000 in
theorem rnear_lo {w : World} {k : Nat} {px py ax ay bx by_ : Rat} {s_p t_p : Bool} {A_p B_p E_p F_p : Option Addr} {n_p c_p m_p d_p i_p e_p j_p f_p : Nat} {s_q t_q : Bool} {A_q B_q E_q F_q : Option Addr} {n_q c_q m_q d_q i_q e_q j_q f_q : Nat} {s_r t_r : Bool} {A_r B_r E_r F_r : Option Addr} {n_r c_r m_r d_r i_r e_r j_r f_r : Nat} (p : RP w s_p A_p n_p c_p B_p m_p d_p t_p E_p i_p e_p F_p j_p f_p px py k) (q : RP w s_q A_q n_q c_q B_q m_q d_q t_q E_q i_q e_q F_q j_q f_q ax ay k) (r : RP w s_r A_r n_r c_r B_r m_r d_r t_r E_r i_r e_r F_r j_r f_r bx by_ k) (hk : k ≤ 12) (hs : ¬ (ax = bx ∧ ay = by_)) (hf : forthQ px py ax ay bx by_ ≤ 0) :
    Calls Tryz.prog 161 #[.agg #[.bool s_p, .slice A_p n_p c_p, .slice B_p m_p d_p, .bool t_p, .slice E_p i_p e_p, .slice F_p j_p f_p], .agg #[.bool s_q, .slice A_q n_q c_q, .slice B_q m_q d_q, .bool t_q, .slice E_q i_q e_q, .slice F_q j_q f_q], .agg #[.bool s_r, .slice A_r n_r c_r, .slice B_r m_r d_r, .bool t_r, .slice E_r i_r e_r, .slice F_r j_r f_r]] w (GivesRP w ax ay (19 * k + 12)) := by
  have HS : Hid (decide (ax = bx ∧ ay = by_) = false) := decide_eq_false hs
  obtain ⟨U, hU, hU0⟩ : ∃ U, sgnQ ((px - ax) * (bx - ax) + (py - ay) * (by_ - ay)) = U ∧ decide (U ≤ 0) = true := ⟨_, rfl, decide_eq_true (sgn_nonpos.2 hf)⟩
  have HU := Lib.hid hU
  clear hU
  clear hs hf
  go_enter Tryz.func161, Tryz.ntmps161
  go_wp2_with fail
  generalize hW : ((((w.alloc (Obj.cells #[Value.bool s_p, Value.slice A_p n_p c_p, Value.slice B_p m_p d_p, Value.bool t_p, Value.slice E_p i_p e_p, Value.slice F_p j_p f_p] 86)).alloc (Obj.cells #[Value.bool s_q, Value.slice A_q n_q c_q, Value.slice B_q m_q d_q, Value.bool t_q, Value.slice E_q i_q e_q, Value.slice F_q j_q f_q] 86)).alloc (Obj.cells #[Value.bool s_r, Value.slice A_r n_r c_r, Value.slice B_r m_r d_r, Value.bool t_r, Value.slice E_r i_r e_r, Value.slice F_r j_r f_r] 86)).alloc (Obj.cells #[Value.bool false, Value.slice none 0 0, Value.slice none 0 0, Value.bool false, Value.slice none 0 0, Value.slice none 0 0] 86)) = W
  have hb : Below w.heap.size w W := by subst hW; exact (((((Below.refl _ _).alloc (Nat.le_refl _) _).alloc (by simp) _).alloc (by simp; omega) _).alloc (by simp; omega) _)
  have XA : B6R W (w.heap.size) (Value.bool s_p) (Value.slice A_p n_p c_p) (Value.slice B_p m_p d_p) (Value.bool t_p) (Value.slice E_p i_p e_p) (Value.slice F_p j_p f_p) := by subst hW; exact (((B6R.new' _ _ _ _ _ _ _ _ rfl).alloc _).alloc _).alloc _
  have XB : B6R W (w.heap.size + 1) (Value.bool s_q) (Value.slice A_q n_q c_q) (Value.slice B_q m_q d_q) (Value.bool t_q) (Value.slice E_q i_q e_q) (Value.slice F_q j_q f_q) := by subst hW; exact ((B6R.new' _ _ _ _ _ _ _ _ (by simp)).alloc _).alloc _
  have XC : B6R W (w.heap.size + 1 + 1) (Value.bool s_r) (Value.slice A_r n_r c_r) (Value.slice B_r m_r d_r) (Value.bool t_r) (Value.slice E_r i_r e_r) (Value.slice F_r j_r f_r) := by subst hW; exact (B6R.new' _ _ _ _ _ _ _ _ (by simp)).alloc _
  have Z : B6R W (w.heap.size + 1 + 1 + 1) (Value.bool false) (Value.slice none 0 0) (Value.slice none 0 0) (Value.bool false) (Value.slice none 0 0) (Value.slice none 0 0) := by subst hW; exact B6R.new' _ _ _ _ _ _ _ _ (by simp)
  have hzW : W.heap.size = w.heap.size + 4 := by subst hW; simp
  clear hW
  replace p := p.below hb
  replace q := q.below hb
  replace r := r.below hb
  have xa0 := XA.c0
  have xa1 := XA.c1
  have xa2 := XA.c2
  have xa3 := XA.c3
  have xa4 := XA.c4
  have xa5 := XA.c5
  have xb0 := XB.c0
  have xb1 := XB.c1
  have xb2 := XB.c2
  have xb3 := XB.c3
  have xb4 := XB.c4
  have xb5 := XB.c5
  have xc0 := XC.c0
  have xc1 := XC.c1
  have xc2 := XC.c2
  have xc3 := XC.c3
  have xc4 := XC.c4
  have xc5 := XC.c5
  go_upto_region 2 with (first
      | (go_at_call 76; (with_reducible refine (rsub6 r q (by omega) (by omega)).mono ?_); rintro e w_d ⟨s_d, A_d, n_d, c_d, B_d, m_d, d_d, t_d, E_d, i_d, e_d, F_d, j_d, f_d, rfl, d, hh⟩
         have hgd : w.heap.size + 4 ≤ w_d.heap.size := by have := hh.size; omega
         try replace p := p.below hh
         try replace q := q.below hh
         try replace r := r.below hh
         try replace XA := XA.below hh
         try replace XB := XB.below hh
         try replace XC := XC.below hh
         try replace Z := Z.below hh
         replace hb := bend hb hh
         have xa0 := XA.c0
         have xa1 := XA.c1
         have xa2 := XA.c2
         have xa3 := XA.c3
         have xa4 := XA.c4
         have xa5 := XA.c5
         have xb0 := XB.c0
         have xb1 := XB.c1
         have xb2 := XB.c2
         have xb3 := XB.c3
         have xb4 := XB.c4
         have xb5 := XB.c5
         have xc0 := XC.c0
         have xc1 := XC.c1
         have xc2 := XC.c2
         have xc3 := XC.c3
         have xc4 := XC.c4
         have xc5 := XC.c5))
  generalize hW : (w_d.alloc (Obj.cells #[Value.bool s_d, Value.slice A_d n_d c_d, Value.slice B_d m_d d_d, Value.bool t_d, Value.slice E_d i_d e_d, Value.slice F_d j_d f_d] 86)) = W2
  have hh : Below w_d.heap.size w_d W2 := by subst hW; exact ((Below.refl _ _).alloc (Nat.le_refl _) _)
  have XD : B6R W2 (w_d.heap.size) (Value.bool s_d) (Value.slice A_d n_d c_d) (Value.slice B_d m_d d_d) (Value.bool t_d) (Value.slice E_d i_d e_d) (Value.slice F_d j_d f_d) := by subst hW; exact B6R.new' _ _ _ _ _ _ _ _ rfl
  have hzW2 : W2.heap.size = w_d.heap.size + 1 := by subst hW; simp
  clear hW
  try replace p := p.below hh
  try replace q := q.below hh
  try replace r := r.below hh
  try replace XA := XA.below hh
  try replace XB := XB.below hh
  try replace XC := XC.below hh
  try replace Z := Z.below hh
  try replace d := d.below hh
  replace hb := bend hb hh
  replace p := p.below (Below.refl _ _).drew
  replace q := q.below (Below.refl _ _).drew
  replace r := r.below (Below.refl _ _).drew
  replace d := d.below (Below.refl _ _).drew
  replace XA := XA.below (Below.refl _ _).drew
  replace XB := XB.below (Below.refl _ _).drew
  replace XC := XC.below (Below.refl _ _).drew
  replace XD := XD.below (Below.refl _ _).drew
  replace Z := Z.below (Below.refl _ _).drew
  replace hb := hb.drew
  go_region_held3 (fun w' => w'.cell? ⟨w.heap.size, 0, none⟩ = some (.bool s_p) ∧ w'.cell? ⟨w.heap.size, 1, none⟩ = some (.slice A_p n_p c_p) ∧ w'.cell? ⟨w.heap.size, 2, none⟩ = some (.slice B_p m_p d_p) ∧ w'.cell? ⟨w.heap.size, 3, none⟩ = some (.bool t_p) ∧ w'.cell? ⟨w.heap.size, 4, none⟩ = some (.slice E_p i_p e_p) ∧ w'.cell? ⟨w.heap.size, 5, none⟩ = some (.slice F_p j_p f_p) ∧ w'.cell? ⟨w.heap.size + 1, 0, none⟩ = some (.bool s_q) ∧ w'.cell? ⟨w.heap.size + 1, 1, none⟩ = some (.slice A_q n_q c_q) ∧ w'.cell? ⟨w.heap.size + 1, 2, none⟩ = some (.slice B_q m_q d_q) ∧ w'.cell? ⟨w.heap.size + 1, 3, none⟩ = some (.bool t_q) ∧ w'.cell? ⟨w.heap.size + 1, 4, none⟩ = some (.slice E_q i_q e_q) ∧ w'.cell? ⟨w.heap.size + 1, 5, none⟩ = some (.slice F_q j_q f_q) ∧ w'.cell? ⟨w.heap.size + 1 + 1, 0, none⟩ = some (.bool s_r) ∧ w'.cell? ⟨w.heap.size + 1 + 1, 1, none⟩ = some (.slice A_r n_r c_r) ∧ w'.cell? ⟨w.heap.size + 1 + 1, 2, none⟩ = some (.slice B_r m_r d_r) ∧ w'.cell? ⟨w.heap.size + 1 + 1, 3, none⟩ = some (.bool t_r) ∧ w'.cell? ⟨w.heap.size + 1 + 1, 4, none⟩ = some (.slice E_r i_r e_r) ∧ w'.cell? ⟨w.heap.size + 1 + 1, 5, none⟩ = some (.slice F_r j_r f_r) ∧ w'.cell? ⟨w_d.heap.size, 0, none⟩ = some (.bool s_d) ∧ w'.cell? ⟨w_d.heap.size, 1, none⟩ = some (.slice A_d n_d c_d) ∧ w'.cell? ⟨w_d.heap.size, 2, none⟩ = some (.slice B_d m_d d_d) ∧ w'.cell? ⟨w_d.heap.size, 3, none⟩ = some (.bool t_d) ∧ w'.cell? ⟨w_d.heap.size, 4, none⟩ = some (.slice E_d i_d e_d) ∧ w'.cell? ⟨w_d.heap.size, 5, none⟩ = some (.slice F_d j_d f_d))
    (first | with_reducible exact ⟨XA.c0, XA.c1, XA.c2, XA.c3, XA.c4, XA.c5, XB.c0, XB.c1, XB.c2, XB.c3, XB.c4, XB.c5, XC.c0, XC.c1, XC.c2, XC.c3, XC.c4, XC.c5, XD.c0, XD.c1, XD.c2, XD.c3, XD.c4, XD.c5⟩)
    (first
    | (go_at_call 86; (with_reducible refine (rsame6 q r (by omega) (by omega) false HS.out).mono ?_); rintro e w_z ⟨rfl, hh⟩
       try replace p := p.below hh
       try replace q := q.below hh
       try replace r := r.below hh
       try replace d := d.below hh
       try replace XA := XA.below hh
       try replace XB := XB.below hh
       try replace XC := XC.below hh
       try replace XD := XD.below hh
       try replace Z := Z.below hh
       replace hb := bend hb hh)
    | (go_at_call 76; (with_reducible refine (rsub6 p q (by omega) (by omega)).mono ?_); rintro e w_a ⟨s_a, A_a, n_a, c_a, B_a, m_a, d_a, t_a, E_a, i_a, e_a, F_a, j_a, f_a, rfl, a, hh⟩
       try replace p := p.below hh
       try replace q := q.below hh
       try replace r := r.below hh
       try replace d := d.below hh
       try replace XA := XA.below hh
       try replace XB := XB.below hh
       try replace XC := XC.below hh
       try replace XD := XD.below hh
       try replace Z := Z.below hh
       replace hb := bend hb hh)
    | (go_at_call 82; (with_reducible refine (rdot6 a d (by omega) (by omega)).mono ?_); rintro e w_f ⟨s_f, A_f, n_f, c_f, B_f, m_f, d_f, rfl, f, hh⟩
       try replace p := p.below hh
       try replace q := q.below hh
       try replace r := r.below hh
       try replace d := d.below hh
       try replace XA := XA.below hh
       try replace XB := XB.below hh
       try replace XC := XC.below hh
       try replace XD := XD.below hh
       try replace Z := Z.below hh
       replace hb := bend hb hh
       clear a)
    | (go_at_call 19; (with_reducible refine (rsign3 f).mono ?_); rintro e w_z ⟨rfl, hh⟩
       rw [HU.out]; clear f
       try replace p := p.below hh
       try replace q := q.below hh
       try replace r := r.below hh
       try replace d := d.below hh
       try replace XA := XA.below hh
       try replace XB := XB.below hh
       try replace XC := XC.below hh
       try replace XD := XD.below hh
       try replace Z := Z.below hh
       replace hb := bend hb hh))
  have zg0 := Z.f0
  have zg1 := Z.f1
  have zg2 := Z.f2
  have zg3 := Z.f3
  have zg4 := Z.f4
  have zg5 := Z.f5
  have zc0 := Z.c0
  have zc1 := Z.c1
  have zc2 := Z.c2
  have zc3 := Z.c3
  have zc4 := Z.c4
  have zc5 := Z.c5
  have xb0 := XB.c0
  have xb1 := XB.c1
  have xb2 := XB.c2
  have xb3 := XB.c3
  have xb4 := XB.c4
  have xb5 := XB.c5
  go_wp2_with fail
  have Z2 := Z.set6 (.bool s_q) (.slice A_q n_q c_q) (.slice B_q m_q d_q) (.bool t_q) (.slice E_q i_q e_q) (.slice F_q j_q f_q)
  have g0 := Z2.c0
  have g1 := Z2.c1
  have g2 := Z2.c2
  have g3 := Z2.c3
  have g4 := Z2.c4
  have g5 := Z2.c5
  refine bodyPost_ret (v := .agg #[.bool s_q, .slice A_q n_q c_q, .slice B_q m_q d_q, .bool t_q, .slice E_q i_q e_q, .slice F_q j_q f_q]) (by simp [results, Tryz.results161, go_sem, g0, g1, g2, g3, g4, g5]) rfl ?_
  exact ⟨s_q, A_q, n_q, c_q, B_q, m_q, d_q, t_q, E_q, i_q, e_q, F_q, j_q, f_q, rfl, (q.more (by omega)).set6 Z _ _ _ _ _ _, below_set6 hb (by omega) _ _ _ _ _ _⟩
set_option maxRecDepth 100000 in
set_option maxHeartbeats 8000000 in
theorem rnear_hi {w : World} {k : Nat} {px py ax ay bx by_ : Rat} {s_p t_p : Bool} {A_p B_p E_p F_p : Option Addr} {n_p c_p m_p d_p i_p e_p j_p f_p : Nat} {s_q t_q : Bool} {A_q B_q E_q F_q : Option Addr} {n_q c_q m_q d_q i_q e_q j_q f_q : Nat} {s_r t_r : Bool} {A_r B_r E_r F_r : Option Addr} {n_r c_r m_r d_r i_r e_r j_r f_r : Nat} (p : RP w s_p A_p n_p c_p B_p m_p d_p t_p E_p i_p e_p F_p j_p f_p px py k) (q : RP w s_q A_q n_q c_q B_q m_q d_q t_q E_q i_q e_q F_q j_q f_q ax ay k) (r : RP w s_r A_r n_r c_r B_r m_r d_r t_r E_r i_r e_r F_r j_r f_r bx by_ k) (hk : k ≤ 12) (hs : ¬ (ax = bx ∧ ay = by_)) (hf : ¬ forthQ px py ax ay bx by_ ≤ 0) (hv : 0 ≤ near2 px py ax ay bx by_) :
    Calls Tryz.prog 161 #[.agg #[.bool s_p, .slice A_p n_p c_p, .slice B_p m_p d_p, .bool t_p, .slice E_p i_p e_p, .slice F_p j_p f_p], .agg #[.bool s_q, .slice A_q n_q c_q, .slice B_q m_q d_q, .bool t_q, .slice E_q i_q e_q, .slice F_q j_q f_q], .agg #[.bool s_r, .slice A_r n_r c_r, .slice B_r m_r d_r, .bool t_r, .slice E_r i_r e_r, .slice F_r j_r f_r]] w (GivesRP w bx by_ (19 * k + 12)) := by
  have HS : Hid (decide (ax = bx ∧ ay = by_) = false) := decide_eq_false hs
  obtain ⟨U, hU, hU0⟩ : ∃ U, sgnQ ((px - ax) * (bx - ax) + (py - ay) * (by_ - ay)) = U ∧ decide (U ≤ 0) = false := ⟨_, rfl, decide_eq_false (fun e => hf (sgn_nonpos.1 e))⟩
  have HU := Lib.hid hU
  clear hU
  obtain ⟨T, hT, hT0⟩ : ∃ T, sgnQ ((px - bx) * (bx - ax) + (py - by_) * (by_ - ay)) = T ∧ decide (0 ≤ T) = true := ⟨_, rfl, decide_eq_true (sgn_nonneg.2 hv)⟩
  have HT := Lib.hid hT
  clear hT
  clear hs hf hv
  go_enter Tryz.func161, Tryz.ntmps161
  go_wp2_with fail
  generalize hW : ((((w.alloc (Obj.cells #[Value.bool s_p, Value.slice A_p n_p c_p, Value.slice B_p m_p d_p, Value.bool t_p, Value.slice E_p i_p e_p, Value.slice F_p j_p f_p] 86)).alloc (Obj.cells #[Value.bool s_q, Value.slice A_q n_q c_q, Value.slice B_q m_q d_q, Value.bool t_q, Value.slice E_q i_q e_q, Value.slice F_q j_q f_q] 86)).alloc (Obj.cells #[Value.bool s_r, Value.slice A_r n_r c_r, Value.slice B_r m_r d_r, Value.bool t_r, Value.slice E_r i_r e_r, Value.slice F_r j_r f_r] 86)).alloc (Obj.cells #[Value.bool false, Value.slice none 0 0, Value.slice none 0 0, Value.bool false, Value.slice none 0 0, Value.slice none 0 0] 86)) = W
  have hb : Below w.heap.size w W := by subst hW; exact (((((Below.refl _ _).alloc (Nat.le_refl _) _).alloc (by simp) _).alloc (by simp; omega) _).alloc (by simp; omega) _)
  have XA : B6R W (w.heap.size) (Value.bool s_p) (Value.slice A_p n_p c_p) (Value.slice B_p m_p d_p) (Value.bool t_p) (Value.slice E_p i_p e_p) (Value.slice F_p j_p f_p) := by subst hW; exact (((B6R.new' _ _ _ _ _ _ _ _ rfl).alloc _).alloc _).alloc _
  have XB : B6R W (w.heap.size + 1) (Value.bool s_q) (Value.slice A_q n_q c_q) (Value.slice B_q m_q d_q) (Value.bool t_q) (Value.slice E_q i_q e_q) (Value.slice F_q j_q f_q) := by subst hW; exact ((B6R.new' _ _ _ _ _ _ _ _ (by simp)).alloc _).alloc _
  have XC : B6R W (w.heap.size + 1 + 1) (Value.bool s_r) (Value.slice A_r n_r c_r) (Value.slice B_r m_r d_r) (Value.bool t_r) (Value.slice E_r i_r e_r) (Value.slice F_r j_r f_r) := by subst hW; exact (B6R.new' _ _ _ _ _ _ _ _ (by simp)).alloc _
  have Z : B6R W (w.heap.size + 1 + 1 + 1) (Value.bool false) (Value.slice none 0 0) (Value.slice none 0 0) (Value.bool false) (Value.slice none 0 0) (Value.slice none 0 0) := by subst hW; exact B6R.new' _ _ _ _ _ _ _ _ (by simp)
  have hzW : W.heap.size = w.heap.size + 4 := by subst hW; simp
  clear hW
  replace p := p.below hb
  replace q := q.below hb
  replace r := r.below hb
  have xa0 := XA.c0
  have xa1 := XA.c1
  have xa2 := XA.c2
  have xa3 := XA.c3
  have xa4 := XA.c4
  have xa5 := XA.c5
  have xb0 := XB.c0
  have xb1 := XB.c1
  have xb2 := XB.c2
  have xb3 := XB.c3
  have xb4 := XB.c4
  have xb5 := XB.c5
  have xc0 := XC.c0
  have xc1 := XC.c1
  have xc2 := XC.c2
  have xc3 := XC.c3
  have xc4 := XC.c4
  have xc5 := XC.c5
  go_upto_region 2 with (first
      | (go_at_call 76; (with_reducible refine (rsub6 r q (by omega) (by omega)).mono ?_); rintro e w_d ⟨s_d, A_d, n_d, c_d, B_d, m_d, d_d, t_d, E_d, i_d, e_d, F_d, j_d, f_d, rfl, d, hh⟩
         have hgd : w.heap.size + 4 ≤ w_d.heap.size := by have := hh.size; omega
         try replace p := p.below hh
         try replace q := q.below hh
         try replace r := r.below hh
         try replace XA := XA.below hh
         try replace XB := XB.below hh
         try replace XC := XC.below hh
         try replace Z := Z.below hh
         replace hb := bend hb hh
         have xa0 := XA.c0
         have xa1 := XA.c1
         have xa2 := XA.c2
         have xa3 := XA.c3
         have xa4 := XA.c4
         have xa5 := XA.c5
         have xb0 := XB.c0
         have xb1 := XB.c1
         have xb2 := XB.c2
         have xb3 := XB.c3
         have xb4 := XB.c4
         have xb5 := XB.c5
         have xc0 := XC.c0
         have xc1 := XC.c1
         have xc2 := XC.c2
         have xc3 := XC.c3
         have xc4 := XC.c4
         have xc5 := XC.c5))
  generalize hW : (w_d.alloc (Obj.cells #[Value.bool s_d, Value.slice A_d n_d c_d, Value.slice B_d m_d d_d, Value.bool t_d, Value.slice E_d i_d e_d, Value.slice F_d j_d f_d] 86)) = W2
  have hh : Below w_d.heap.size w_d W2 := by subst hW; exact ((Below.refl _ _).alloc (Nat.le_refl _) _)
  have XD : B6R W2 (w_d.heap.size) (Value.bool s_d) (Value.slice A_d n_d c_d) (Value.slice B_d m_d d_d) (Value.bool t_d) (Value.slice E_d i_d e_d) (Value.slice F_d j_d f_d) := by subst hW; exact B6R.new' _ _ _ _ _ _ _ _ rfl
  have hzW2 : W2.heap.size = w_d.heap.size + 1 := by subst hW; simp
  clear hW
  try replace p := p.below hh
  try replace q := q.below hh
  try replace r := r.below hh
  try replace XA := XA.below hh
  try replace XB := XB.below hh
  try replace XC := XC.below hh
  try replace Z := Z.below hh
  try replace d := d.below hh
  replace hb := bend hb hh
  replace p := p.below (Below.refl _ _).drew
  replace q := q.below (Below.refl _ _).drew
  replace r := r.below (Below.refl _ _).drew
  replace d := d.below (Below.refl _ _).drew
  replace XA := XA.below (Below.refl _ _).drew
  replace XB := XB.below (Below.refl _ _).drew
  replace XC := XC.below (Below.refl _ _).drew
  replace XD := XD.below (Below.refl _ _).drew
  replace Z := Z.below (Below.refl _ _).drew
  replace hb := hb.drew
  go_region_held3 (fun w' => w'.cell? ⟨w.heap.size, 0, none⟩ = some (.bool s_p) ∧ w'.cell? ⟨w.heap.size, 1, none⟩ = some (.slice A_p n_p c_p) ∧ w'.cell? ⟨w.heap.size, 2, none⟩ = some (.slice B_p m_p d_p) ∧ w'.cell? ⟨w.heap.size, 3, none⟩ = some (.bool t_p) ∧ w'.cell? ⟨w.heap.size, 4, none⟩ = some (.slice E_p i_p e_p) ∧ w'.cell? ⟨w.heap.size, 5, none⟩ = some (.slice F_p j_p f_p) ∧ w'.cell? ⟨w.heap.size + 1, 0, none⟩ = some (.bool s_q) ∧ w'.cell? ⟨w.heap.size + 1, 1, none⟩ = some (.slice A_q n_q c_q) ∧ w'.cell? ⟨w.heap.size + 1, 2, none⟩ = some (.slice B_q m_q d_q) ∧ w'.cell? ⟨w.heap.size + 1, 3, none⟩ = some (.bool t_q) ∧ w'.cell? ⟨w.heap.size + 1, 4, none⟩ = some (.slice E_q i_q e_q) ∧ w'.cell? ⟨w.heap.size + 1, 5, none⟩ = some (.slice F_q j_q f_q) ∧ w'.cell? ⟨w.heap.size + 1 + 1, 0, none⟩ = some (.bool s_r) ∧ w'.cell? ⟨w.heap.size + 1 + 1, 1, none⟩ = some (.slice A_r n_r c_r) ∧ w'.cell? ⟨w.heap.size + 1 + 1, 2, none⟩ = some (.slice B_r m_r d_r) ∧ w'.cell? ⟨w.heap.size + 1 + 1, 3, none⟩ = some (.bool t_r) ∧ w'.cell? ⟨w.heap.size + 1 + 1, 4, none⟩ = some (.slice E_r i_r e_r) ∧ w'.cell? ⟨w.heap.size + 1 + 1, 5, none⟩ = some (.slice F_r j_r f_r) ∧ w'.cell? ⟨w_d.heap.size, 0, none⟩ = some (.bool s_d) ∧ w'.cell? ⟨w_d.heap.size, 1, none⟩ = some (.slice A_d n_d c_d) ∧ w'.cell? ⟨w_d.heap.size, 2, none⟩ = some (.slice B_d m_d d_d) ∧ w'.cell? ⟨w_d.heap.size, 3, none⟩ = some (.bool t_d) ∧ w'.cell? ⟨w_d.heap.size, 4, none⟩ = some (.slice E_d i_d e_d) ∧ w'.cell? ⟨w_d.heap.size, 5, none⟩ = some (.slice F_d j_d f_d))
    (first | with_reducible exact ⟨XA.c0, XA.c1, XA.c2, XA.c3, XA.c4, XA.c5, XB.c0, XB.c1, XB.c2, XB.c3, XB.c4, XB.c5, XC.c0, XC.c1, XC.c2, XC.c3, XC.c4, XC.c5, XD.c0, XD.c1, XD.c2, XD.c3, XD.c4, XD.c5⟩)
    (first
    | (go_at_call 86; (with_reducible refine (rsame6 q r (by omega) (by omega) false HS.out).mono ?_); rintro e w_z ⟨rfl, hh⟩
       try replace p := p.below hh
       try replace q := q.below hh
       try replace r := r.below hh
       try replace d := d.below hh
       try replace XA := XA.below hh
       try replace XB := XB.below hh
       try replace XC := XC.below hh
       try replace XD := XD.below hh
       try replace Z := Z.below hh
       replace hb := bend hb hh)
    | (go_at_call 76; (with_reducible refine (rsub6 p q (by omega) (by omega)).mono ?_); rintro e w_a ⟨s_a, A_a, n_a, c_a, B_a, m_a, d_a, t_a, E_a, i_a, e_a, F_a, j_a, f_a, rfl, a, hh⟩
       try replace p := p.below hh
       try replace q := q.below hh
       try replace r := r.below hh
       try replace d := d.below hh
       try replace XA := XA.below hh
       try replace XB := XB.below hh
       try replace XC := XC.below hh
       try replace XD := XD.below hh
       try replace Z := Z.below hh
       replace hb := bend hb hh)
    | (go_at_call 82; (with_reducible refine (rdot6 a d (by omega) (by omega)).mono ?_); rintro e w_f ⟨s_f, A_f, n_f, c_f, B_f, m_f, d_f, rfl, f, hh⟩
       try replace p := p.below hh
       try replace q := q.below hh
       try replace r := r.below hh
       try replace d := d.below hh
       try replace XA := XA.below hh
       try replace XB := XB.below hh
       try replace XC := XC.below hh
       try replace XD := XD.below hh
       try replace Z := Z.below hh
       replace hb := bend hb hh
       clear a)
    | (go_at_call 19; (with_reducible refine (rsign3 f).mono ?_); rintro e w_z ⟨rfl, hh⟩
       rw [HU.out]; clear f
       try replace p := p.below hh
       try replace q := q.below hh
       try replace r := r.below hh
       try replace d := d.below hh
       try replace XA := XA.below hh
       try replace XB := XB.below hh
       try replace XC := XC.below hh
       try replace XD := XD.below hh
       try replace Z := Z.below hh
       replace hb := bend hb hh))
  go_upto_region 4 with (fail)
  replace p := p.below (Below.refl _ _).drew
  replace q := q.below (Below.refl _ _).drew
  replace r := r.below (Below.refl _ _).drew
  replace d := d.below (Below.refl _ _).drew
  replace XA := XA.below (Below.refl _ _).drew
  replace XB := XB.below (Below.refl _ _).drew
  replace XC := XC.below (Below.refl _ _).drew
  replace XD := XD.below (Below.refl _ _).drew
  replace Z := Z.below (Below.refl _ _).drew
  replace hb := hb.drew
  go_region_held3 (fun w' => w'.cell? ⟨w.heap.size, 0, none⟩ = some (.bool s_p) ∧ w'.cell? ⟨w.heap.size, 1, none⟩ = some (.slice A_p n_p c_p) ∧ w'.cell? ⟨w.heap.size, 2, none⟩ = some (.slice B_p m_p d_p) ∧ w'.cell? ⟨w.heap.size, 3, none⟩ = some (.bool t_p) ∧ w'.cell? ⟨w.heap.size, 4, none⟩ = some (.slice E_p i_p e_p) ∧ w'.cell? ⟨w.heap.size, 5, none⟩ = some (.slice F_p j_p f_p) ∧ w'.cell? ⟨w.heap.size + 1, 0, none⟩ = some (.bool s_q) ∧ w'.cell? ⟨w.heap.size + 1, 1, none⟩ = some (.slice A_q n_q c_q) ∧ w'.cell? ⟨w.heap.size + 1, 2, none⟩ = some (.slice B_q m_q d_q) ∧ w'.cell? ⟨w.heap.size + 1, 3, none⟩ = some (.bool t_q) ∧ w'.cell? ⟨w.heap.size + 1, 4, none⟩ = some (.slice E_q i_q e_q) ∧ w'.cell? ⟨w.heap.size + 1, 5, none⟩ = some (.slice F_q j_q f_q) ∧ w'.cell? ⟨w.heap.size + 1 + 1, 0, none⟩ = some (.bool s_r) ∧ w'.cell? ⟨w.heap.size + 1 + 1, 1, none⟩ = some (.slice A_r n_r c_r) ∧ w'.cell? ⟨w.heap.size + 1 + 1, 2, none⟩ = some (.slice B_r m_r d_r) ∧ w'.cell? ⟨w.heap.size + 1 + 1, 3, none⟩ = some (.bool t_r) ∧ w'.cell? ⟨w.heap.size + 1 + 1, 4, none⟩ = some (.slice E_r i_r e_r) ∧ w'.cell? ⟨w.heap.size + 1 + 1, 5, none⟩ = some (.slice F_r j_r f_r) ∧ w'.cell? ⟨w_d.heap.size, 0, none⟩ = some (.bool s_d) ∧ w'.cell? ⟨w_d.heap.size, 1, none⟩ = some (.slice A_d n_d c_d) ∧ w'.cell? ⟨w_d.heap.size, 2, none⟩ = some (.slice B_d m_d d_d) ∧ w'.cell? ⟨w_d.heap.size, 3, none⟩ = some (.bool t_d) ∧ w'.cell? ⟨w_d.heap.size, 4, none⟩ = some (.slice E_d i_d e_d) ∧ w'.cell? ⟨w_d.heap.size, 5, none⟩ = some (.slice F_d j_d f_d))
    (first | with_reducible exact ⟨XA.c0, XA.c1, XA.c2, XA.c3, XA.c4, XA.c5, XB.c0, XB.c1, XB.c2, XB.c3, XB.c4, XB.c5, XC.c0, XC.c1, XC.c2, XC.c3, XC.c4, XC.c5, XD.c0, XD.c1, XD.c2, XD.c3, XD.c4, XD.c5⟩)
    (first
    | (go_at_call 76; (with_reducible refine (rsub6 p r (by omega) (by omega)).mono ?_); rintro e w_b ⟨s_b, A_b, n_b, c_b, B_b, m_b, d_b, t_b, E_b, i_b, e_b, F_b, j_b, f_b, rfl, b, hh⟩
       try replace p := p.below hh
       try replace q := q.below hh
       try replace r := r.below hh
       try replace d := d.below hh
       try replace XA := XA.below hh
       try replace XB := XB.below hh
       try replace XC := XC.below hh
       try replace XD := XD.below hh
       try replace Z := Z.below hh
       replace hb := bend hb hh)
    | (go_at_call 82; (with_reducible refine (rdot6 b d (by omega) (by omega)).mono ?_); rintro e w_g ⟨s_g, A_g, n_g, c_g, B_g, m_g, d_g, rfl, g, hh⟩
       try replace p := p.below hh
       try replace q := q.below hh
       try replace r := r.below hh
       try replace d := d.below hh
       try replace XA := XA.below hh
       try replace XB := XB.below hh
       try replace XC := XC.below hh
       try replace XD := XD.below hh
       try replace Z := Z.below hh
       replace hb := bend hb hh
       clear b)
    | (go_at_call 19; (with_reducible refine (rsign3 g).mono ?_); rintro e w_z ⟨rfl, hh⟩
       rw [HT.out]; clear g
       try replace p := p.below hh
       try replace q := q.below hh
       try replace r := r.below hh
       try replace d := d.below hh
       try replace XA := XA.below hh
       try replace XB := XB.below hh
       try replace XC := XC.below hh
       try replace XD := XD.below hh
       try replace Z := Z.below hh
       replace hb := bend hb hh))
  have zg0 := Z.f0
  have zg1 := Z.f1
  have zg2 := Z.f2
  have zg3 := Z.f3
  have zg4 := Z.f4
  have zg5 := Z.f5
  have zc0 := Z.c0
  have zc1 := Z.c1
  have zc2 := Z.c2
  have zc3 := Z.c3
  have zc4 := Z.c4
  have zc5 := Z.c5
  have xc0 := XC.c0
  have xc1 := XC.c1
  have xc2 := XC.c2
  have xc3 := XC.c3
  have xc4 := XC.c4
  have xc5 := XC.c5
  go_wp2_with fail
  have Z2 := Z.set6 (.bool s_r) (.slice A_r n_r c_r) (.slice B_r m_r d_r) (.bool t_r) (.slice E_r i_r e_r) (.slice F_r j_r f_r)
  have g0 := Z2.c0
  have g1 := Z2.c1
  have g2 := Z2.c2
  have g3 := Z2.c3
  have g4 := Z2.c4
  have g5 := Z2.c5
  refine bodyPost_ret (v := .agg #[.bool s_r, .slice A_r n_r c_r, .slice B_r m_r d_r, .bool t_r, .slice E_r i_r e_r, .slice F_r j_r f_r]) (by simp [results, Tryz.results161, go_sem, g0, g1, g2, g3, g4, g5]) rfl ?_
  exact ⟨s_r, A_r, n_r, c_r, B_r, m_r, d_r, t_r, E_r, i_r, e_r, F_r, j_r, f_r, rfl, (r.more (by omega)).set6 Z _ _ _ _ _ _, below_set6 hb (by omega) _ _ _ _ _ _⟩
set_option maxRecDepth 100000 in
set_option maxHeartbeats 8000000 in
theorem rnear_mid {w : World} {k : Nat} {px py ax ay bx by_ : Rat} {s_p t_p : Bool} {A_p B_p E_p F_p : Option Addr} {n_p c_p m_p d_p i_p e_p j_p f_p : Nat} {s_q t_q : Bool} {A_q B_q E_q F_q : Option Addr} {n_q c_q m_q d_q i_q e_q j_q f_q : Nat} {s_r t_r : Bool} {A_r B_r E_r F_r : Option Addr} {n_r c_r m_r d_r i_r e_r j_r f_r : Nat} (p : RP w s_p A_p n_p c_p B_p m_p d_p t_p E_p i_p e_p F_p j_p f_p px py k) (q : RP w s_q A_q n_q c_q B_q m_q d_q t_q E_q i_q e_q F_q j_q f_q ax ay k) (r : RP w s_r A_r n_r c_r B_r m_r d_r t_r E_r i_r e_r F_r j_r f_r bx by_ k) (hk : k ≤ 12) (hs : ¬ (ax = bx ∧ ay = by_)) (hf : ¬ forthQ px py ax ay bx by_ ≤ 0) (hv : ¬ 0 ≤ near2 px py ax ay bx by_) :
    Calls Tryz.prog 161 #[.agg #[.bool s_p, .slice A_p n_p c_p, .slice B_p m_p d_p, .bool t_p, .slice E_p i_p e_p, .slice F_p j_p f_p], .agg #[.bool s_q, .slice A_q n_q c_q, .slice B_q m_q d_q, .bool t_q, .slice E_q i_q e_q, .slice F_q j_q f_q], .agg #[.bool s_r, .slice A_r n_r c_r, .slice B_r m_r d_r, .bool t_r, .slice E_r i_r e_r, .slice F_r j_r f_r]] w (GivesRP w (ax + (bx - ax) * (((px - ax) * (bx - ax) + (py - ay) * (by_ - ay)) / ((bx - ax) * (bx - ax) + (by_ - ay) * (by_ - ay)))) (ay + (by_ - ay) * (((px - ax) * (bx - ax) + (py - ay) * (by_ - ay)) / ((bx - ax) * (bx - ax) + (by_ - ay) * (by_ - ay)))) (19 * k + 12)) := by
  have HS : Hid (decide (ax = bx ∧ ay = by_) = false) := decide_eq_false hs
  obtain ⟨U, hU, hU0⟩ : ∃ U, sgnQ ((px - ax) * (bx - ax) + (py - ay) * (by_ - ay)) = U ∧ decide (U ≤ 0) = false := ⟨_, rfl, decide_eq_false (fun e => hf (sgn_nonpos.1 e))⟩
  have HU := Lib.hid hU
  clear hU
  obtain ⟨T, hT, hT0⟩ : ∃ T, sgnQ ((px - bx) * (bx - ax) + (py - by_) * (by_ - ay)) = T ∧ decide (0 ≤ T) = false := ⟨_, rfl, decide_eq_false (fun e => hv (sgn_nonneg.1 e))⟩
  have HT := Lib.hid hT
  clear hT
  have HG : Hid (((bx - ax) * (bx - ax) + (by_ - ay) * (by_ - ay)) ≠ 0) := fun e => hs (whole_z ax ay bx by_ e)
  clear hs hf hv
  go_enter Tryz.func161, Tryz.ntmps161
  go_wp2_with fail
  generalize hW : ((((w.alloc (Obj.cells #[Value.bool s_p, Value.slice A_p n_p c_p, Value.slice B_p m_p d_p, Value.bool t_p, Value.slice E_p i_p e_p, Value.slice F_p j_p f_p] 86)).alloc (Obj.cells #[Value.bool s_q, Value.slice A_q n_q c_q, Value.slice B_q m_q d_q, Value.bool t_q, Value.slice E_q i_q e_q, Value.slice F_q j_q f_q] 86)).alloc (Obj.cells #[Value.bool s_r, Value.slice A_r n_r c_r, Value.slice B_r m_r d_r, Value.bool t_r, Value.slice E_r i_r e_r, Value.slice F_r j_r f_r] 86)).alloc (Obj.cells #[Value.bool false, Value.slice none 0 0, Value.slice none 0 0, Value.bool false, Value.slice none 0 0, Value.slice none 0 0] 86)) = W
  have hb : Below w.heap.size w W := by subst hW; exact (((((Below.refl _ _).alloc (Nat.le_refl _) _).alloc (by simp) _).alloc (by simp; omega) _).alloc (by simp; omega) _)
  have XA : B6R W (w.heap.size) (Value.bool s_p) (Value.slice A_p n_p c_p) (Value.slice B_p m_p d_p) (Value.bool t_p) (Value.slice E_p i_p e_p) (Value.slice F_p j_p f_p) := by subst hW; exact (((B6R.new' _ _ _ _ _ _ _ _ rfl).alloc _).alloc _).alloc _
  have XB : B6R W (w.heap.size + 1) (Value.bool s_q) (Value.slice A_q n_q c_q) (Value.slice B_q m_q d_q) (Value.bool t_q) (Value.slice E_q i_q e_q) (Value.slice F_q j_q f_q) := by subst hW; exact ((B6R.new' _ _ _ _ _ _ _ _ (by simp)).alloc _).alloc _
  have XC : B6R W (w.heap.size + 1 + 1) (Value.bool s_r) (Value.slice A_r n_r c_r) (Value.slice B_r m_r d_r) (Value.bool t_r) (Value.slice E_r i_r e_r) (Value.slice F_r j_r f_r) := by subst hW; exact (B6R.new' _ _ _ _ _ _ _ _ (by simp)).alloc _
  have Z : B6R W (w.heap.size + 1 + 1 + 1) (Value.bool false) (Value.slice none 0 0) (Value.slice none 0 0) (Value.bool false) (Value.slice none 0 0) (Value.slice none 0 0) := by subst hW; exact B6R.new' _ _ _ _ _ _ _ _ (by simp)
  have hzW : W.heap.size = w.heap.size + 4 := by subst hW; simp
  clear hW
  replace p := p.below hb
  replace q := q.below hb
  replace r := r.below hb
  have xa0 := XA.c0
  have xa1 := XA.c1
  have xa2 := XA.c2
  have xa3 := XA.c3
  have xa4 := XA.c4
  have xa5 := XA.c5
  have xb0 := XB.c0
  have xb1 := XB.c1
  have xb2 := XB.c2
  have xb3 := XB.c3
  have xb4 := XB.c4
  have xb5 := XB.c5
  have xc0 := XC.c0
  have xc1 := XC.c1
  have xc2 := XC.c2
  have xc3 := XC.c3
  have xc4 := XC.c4
  have xc5 := XC.c5
  go_upto_region 2 with (first
      | (go_at_call 76; (with_reducible refine (rsub6 r q (by omega) (by omega)).mono ?_); rintro e w_d ⟨s_d, A_d, n_d, c_d, B_d, m_d, d_d, t_d, E_d, i_d, e_d, F_d, j_d, f_d, rfl, d, hh⟩
         have hgd : w.heap.size + 4 ≤ w_d.heap.size := by have := hh.size; omega
         try replace p := p.below hh
         try replace q := q.below hh
         try replace r := r.below hh
         try replace XA := XA.below hh
         try replace XB := XB.below hh
         try replace XC := XC.below hh
         try replace Z := Z.below hh
         replace hb := bend hb hh
         have xa0 := XA.c0
         have xa1 := XA.c1
         have xa2 := XA.c2
         have xa3 := XA.c3
         have xa4 := XA.c4
         have xa5 := XA.c5
         have xb0 := XB.c0
         have xb1 := XB.c1
         have xb2 := XB.c2
         have xb3 := XB.c3
         have xb4 := XB.c4
         have xb5 := XB.c5
         have xc0 := XC.c0
         have xc1 := XC.c1
         have xc2 := XC.c2
         have xc3 := XC.c3
         have xc4 := XC.c4
         have xc5 := XC.c5))
  generalize hW : (w_d.alloc (Obj.cells #[Value.bool s_d, Value.slice A_d n_d c_d, Value.slice B_d m_d d_d, Value.bool t_d, Value.slice E_d i_d e_d, Value.slice F_d j_d f_d] 86)) = W2
  have hh : Below w_d.heap.size w_d W2 := by subst hW; exact ((Below.refl _ _).alloc (Nat.le_refl _) _)
  have XD : B6R W2 (w_d.heap.size) (Value.bool s_d) (Value.slice A_d n_d c_d) (Value.slice B_d m_d d_d) (Value.bool t_d) (Value.slice E_d i_d e_d) (Value.slice F_d j_d f_d) := by subst hW; exact B6R.new' _ _ _ _ _ _ _ _ rfl
  have hzW2 : W2.heap.size = w_d.heap.size + 1 := by subst hW; simp
  clear hW
  try replace p := p.below hh
  try replace q := q.below hh
  try replace r := r.below hh
  try replace XA := XA.below hh
  try replace XB := XB.below hh
  try replace XC := XC.below hh
  try replace Z := Z.below hh
  try replace d := d.below hh
  replace hb := bend hb hh
  replace p := p.below (Below.refl _ _).drew
  replace q := q.below (Below.refl _ _).drew
  replace r := r.below (Below.refl _ _).drew
  replace d := d.below (Below.refl _ _).drew
  replace XA := XA.below (Below.refl _ _).drew
  replace XB := XB.below (Below.refl _ _).drew
  replace XC := XC.below (Below.refl _ _).drew
  replace XD := XD.below (Below.refl _ _).drew
  replace Z := Z.below (Below.refl _ _).drew
  replace hb := hb.drew
  go_region_held3 (fun w' => w'.cell? ⟨w.heap.size, 0, none⟩ = some (.bool s_p) ∧ w'.cell? ⟨w.heap.size, 1, none⟩ = some (.slice A_p n_p c_p) ∧ w'.cell? ⟨w.heap.size, 2, none⟩ = some (.slice B_p m_p d_p) ∧ w'.cell? ⟨w.heap.size, 3, none⟩ = some (.bool t_p) ∧ w'.cell? ⟨w.heap.size, 4, none⟩ = some (.slice E_p i_p e_p) ∧ w'.cell? ⟨w.heap.size, 5, none⟩ = some (.slice F_p j_p f_p) ∧ w'.cell? ⟨w.heap.size + 1, 0, none⟩ = some (.bool s_q) ∧ w'.cell? ⟨w.heap.size + 1, 1, none⟩ = some (.slice A_q n_q c_q) ∧ w'.cell? ⟨w.heap.size + 1, 2, none⟩ = some (.slice B_q m_q d_q) ∧ w'.cell? ⟨w.heap.size + 1, 3, none⟩ = some (.bool t_q) ∧ w'.cell? ⟨w.heap.size + 1, 4, none⟩ = some (.slice E_q i_q e_q) ∧ w'.cell? ⟨w.heap.size + 1, 5, none⟩ = some (.slice F_q j_q f_q) ∧ w'.cell? ⟨w.heap.size + 1 + 1, 0, none⟩ = some (.bool s_r) ∧ w'.cell? ⟨w.heap.size + 1 + 1, 1, none⟩ = some (.slice A_r n_r c_r) ∧ w'.cell? ⟨w.heap.size + 1 + 1, 2, none⟩ = some (.slice B_r m_r d_r) ∧ w'.cell? ⟨w.heap.size + 1 + 1, 3, none⟩ = some (.bool t_r) ∧ w'.cell? ⟨w.heap.size + 1 + 1, 4, none⟩ = some (.slice E_r i_r e_r) ∧ w'.cell? ⟨w.heap.size + 1 + 1, 5, none⟩ = some (.slice F_r j_r f_r) ∧ w'.cell? ⟨w_d.heap.size, 0, none⟩ = some (.bool s_d) ∧ w'.cell? ⟨w_d.heap.size, 1, none⟩ = some (.slice A_d n_d c_d) ∧ w'.cell? ⟨w_d.heap.size, 2, none⟩ = some (.slice B_d m_d d_d) ∧ w'.cell? ⟨w_d.heap.size, 3, none⟩ = some (.bool t_d) ∧ w'.cell? ⟨w_d.heap.size, 4, none⟩ = some (.slice E_d i_d e_d) ∧ w'.cell? ⟨w_d.heap.size, 5, none⟩ = some (.slice F_d j_d f_d))
    (first | with_reducible exact ⟨XA.c0, XA.c1, XA.c2, XA.c3, XA.c4, XA.c5, XB.c0, XB.c1, XB.c2, XB.c3, XB.c4, XB.c5, XC.c0, XC.c1, XC.c2, XC.c3, XC.c4, XC.c5, XD.c0, XD.c1, XD.c2, XD.c3, XD.c4, XD.c5⟩)
    (first
    | (go_at_call 86; (with_reducible refine (rsame6 q r (by omega) (by omega) false HS.out).mono ?_); rintro e w_z ⟨rfl, hh⟩
       try replace p := p.below hh
       try replace q := q.below hh
       try replace r := r.below hh
       try replace d := d.below hh
       try replace XA := XA.below hh
       try replace XB := XB.below hh
       try replace XC := XC.below hh
       try replace XD := XD.below hh
       try replace Z := Z.below hh
       replace hb := bend hb hh)
    | (go_at_call 76; (with_reducible refine (rsub6 p q (by omega) (by omega)).mono ?_); rintro e w_a ⟨s_a, A_a, n_a, c_a, B_a, m_a, d_a, t_a, E_a, i_a, e_a, F_a, j_a, f_a, rfl, a, hh⟩
       try replace p := p.below hh
       try replace q := q.below hh
       try replace r := r.below hh
       try replace d := d.below hh
       try replace XA := XA.below hh
       try replace XB := XB.below hh
       try replace XC := XC.below hh
       try replace XD := XD.below hh
       try replace Z := Z.below hh
       replace hb := bend hb hh)
    | (go_at_call 82; (with_reducible refine (rdot6 a d (by omega) (by omega)).mono ?_); rintro e w_f ⟨s_f, A_f, n_f, c_f, B_f, m_f, d_f, rfl, f, hh⟩
       try replace p := p.below hh
       try replace q := q.below hh
       try replace r := r.below hh
       try replace d := d.below hh
       try replace XA := XA.below hh
       try replace XB := XB.below hh
       try replace XC := XC.below hh
       try replace XD := XD.below hh
       try replace Z := Z.below hh
       replace hb := bend hb hh
       clear a)
    | (go_at_call 19; (with_reducible refine (rsign3 f).mono ?_); rintro e w_z ⟨rfl, hh⟩
       rw [HU.out]; clear f
       try replace p := p.below hh
       try replace q := q.below hh
       try replace r := r.below hh
       try replace d := d.below hh
       try replace XA := XA.below hh
       try replace XB := XB.below hh
       try replace XC := XC.below hh
       try replace XD := XD.below hh
       try replace Z := Z.below hh
       replace hb := bend hb hh))
  go_upto_region 4 with (fail)
  replace p := p.below (Below.refl _ _).drew
  replace q := q.below (Below.refl _ _).drew
  replace r := r.below (Below.refl _ _).drew
  replace d := d.below (Below.refl _ _).drew
  replace XA := XA.below (Below.refl _ _).drew
  replace XB := XB.below (Below.refl _ _).drew
  replace XC := XC.below (Below.refl _ _).drew
  replace XD := XD.below (Below.refl _ _).drew
  replace Z := Z.below (Below.refl _ _).drew
  replace hb := hb.drew
  go_region_held3 (fun w' => w'.cell? ⟨w.heap.size, 0, none⟩ = some (.bool s_p) ∧ w'.cell? ⟨w.heap.size, 1, none⟩ = some (.slice A_p n_p c_p) ∧ w'.cell? ⟨w.heap.size, 2, none⟩ = some (.slice B_p m_p d_p) ∧ w'.cell? ⟨w.heap.size, 3, none⟩ = some (.bool t_p) ∧ w'.cell? ⟨w.heap.size, 4, none⟩ = some (.slice E_p i_p e_p) ∧ w'.cell? ⟨w.heap.size, 5, none⟩ = some (.slice F_p j_p f_p) ∧ w'.cell? ⟨w.heap.size + 1, 0, none⟩ = some (.bool s_q) ∧ w'.cell? ⟨w.heap.size + 1, 1, none⟩ = some (.slice A_q n_q c_q) ∧ w'.cell? ⟨w.heap.size + 1, 2, none⟩ = some (.slice B_q m_q d_q) ∧ w'.cell? ⟨w.heap.size + 1, 3, none⟩ = some (.bool t_q) ∧ w'.cell? ⟨w.heap.size + 1, 4, none⟩ = some (.slice E_q i_q e_q) ∧ w'.cell? ⟨w.heap.size + 1, 5, none⟩ = some (.slice F_q j_q f_q) ∧ w'.cell? ⟨w.heap.size + 1 + 1, 0, none⟩ = some (.bool s_r) ∧ w'.cell? ⟨w.heap.size + 1 + 1, 1, none⟩ = some (.slice A_r n_r c_r) ∧ w'.cell? ⟨w.heap.size + 1 + 1, 2, none⟩ = some (.slice B_r m_r d_r) ∧ w'.cell? ⟨w.heap.size + 1 + 1, 3, none⟩ = some (.bool t_r) ∧ w'.cell? ⟨w.heap.size + 1 + 1, 4, none⟩ = some (.slice E_r i_r e_r) ∧ w'.cell? ⟨w.heap.size + 1 + 1, 5, none⟩ = some (.slice F_r j_r f_r) ∧ w'.cell? ⟨w_d.heap.size, 0, none⟩ = some (.bool s_d) ∧ w'.cell? ⟨w_d.heap.size, 1, none⟩ = some (.slice A_d n_d c_d) ∧ w'.cell? ⟨w_d.heap.size, 2, none⟩ = some (.slice B_d m_d d_d) ∧ w'.cell? ⟨w_d.heap.size, 3, none⟩ = some (.bool t_d) ∧ w'.cell? ⟨w_d.heap.size, 4, none⟩ = some (.slice E_d i_d e_d) ∧ w'.cell? ⟨w_d.heap.size, 5, none⟩ = some (.slice F_d j_d f_d))
    (first | with_reducible exact ⟨XA.c0, XA.c1, XA.c2, XA.c3, XA.c4, XA.c5, XB.c0, XB.c1, XB.c2, XB.c3, XB.c4, XB.c5, XC.c0, XC.c1, XC.c2, XC.c3, XC.c4, XC.c5, XD.c0, XD.c1, XD.c2, XD.c3, XD.c4, XD.c5⟩)
    (first
    | (go_at_call 76; (with_reducible refine (rsub6 p r (by omega) (by omega)).mono ?_); rintro e w_b ⟨s_b, A_b, n_b, c_b, B_b, m_b, d_b, t_b, E_b, i_b, e_b, F_b, j_b, f_b, rfl, b, hh⟩
       try replace p := p.below hh
       try replace q := q.below hh
       try replace r := r.below hh
       try replace d := d.below hh
       try replace XA := XA.below hh
       try replace XB := XB.below hh
       try replace XC := XC.below hh
       try replace XD := XD.below hh
       try replace Z := Z.below hh
       replace hb := bend hb hh)
    | (go_at_call 82; (with_reducible refine (rdot6 b d (by omega) (by omega)).mono ?_); rintro e w_g ⟨s_g, A_g, n_g, c_g, B_g, m_g, d_g, rfl, g, hh⟩
       try replace p := p.below hh
       try replace q := q.below hh
       try replace r := r.below hh
       try replace d := d.below hh
       try replace XA := XA.below hh
       try replace XB := XB.below hh
       try replace XC := XC.below hh
       try replace XD := XD.below hh
       try replace Z := Z.below hh
       replace hb := bend hb hh
       clear b)
    | (go_at_call 19; (with_reducible refine (rsign3 g).mono ?_); rintro e w_z ⟨rfl, hh⟩
       rw [HT.out]; clear g
       try replace p := p.below hh
       try replace q := q.below hh
       try replace r := r.below hh
       try replace d := d.below hh
       try replace XA := XA.below hh
       try replace XB := XB.below hh
       try replace XC := XC.below hh
       try replace XD := XD.below hh
       try replace Z := Z.below hh
       replace hb := bend hb hh))
  go_upto_region 6 with (fail)
  replace p := p.below (Below.refl _ _).drew
  replace q := q.below (Below.refl _ _).drew
  replace r := r.below (Below.refl _ _).drew
  replace d := d.below (Below.refl _ _).drew
  replace XA := XA.below (Below.refl _ _).drew
  replace XB := XB.below (Below.refl _ _).drew
  replace XC := XC.below (Below.refl _ _).drew
  replace XD := XD.below (Below.refl _ _).drew
  replace Z := Z.below (Below.refl _ _).drew
  replace hb := hb.drew
  go_region_held3 (fun w' => w'.cell? ⟨w.heap.size, 0, none⟩ = some (.bool s_p) ∧ w'.cell? ⟨w.heap.size, 1, none⟩ = some (.slice A_p n_p c_p) ∧ w'.cell? ⟨w.heap.size, 2, none⟩ = some (.slice B_p m_p d_p) ∧ w'.cell? ⟨w.heap.size, 3, none⟩ = some (.bool t_p) ∧ w'.cell? ⟨w.heap.size, 4, none⟩ = some (.slice E_p i_p e_p) ∧ w'.cell? ⟨w.heap.size, 5, none⟩ = some (.slice F_p j_p f_p) ∧ w'.cell? ⟨w.heap.size + 1, 0, none⟩ = some (.bool s_q) ∧ w'.cell? ⟨w.heap.size + 1, 1, none⟩ = some (.slice A_q n_q c_q) ∧ w'.cell? ⟨w.heap.size + 1, 2, none⟩ = some (.slice B_q m_q d_q) ∧ w'.cell? ⟨w.heap.size + 1, 3, none⟩ = some (.bool t_q) ∧ w'.cell? ⟨w.heap.size + 1, 4, none⟩ = some (.slice E_q i_q e_q) ∧ w'.cell? ⟨w.heap.size + 1, 5, none⟩ = some (.slice F_q j_q f_q) ∧ w'.cell? ⟨w.heap.size + 1 + 1, 0, none⟩ = some (.bool s_r) ∧ w'.cell? ⟨w.heap.size + 1 + 1, 1, none⟩ = some (.slice A_r n_r c_r) ∧ w'.cell? ⟨w.heap.size + 1 + 1, 2, none⟩ = some (.slice B_r m_r d_r) ∧ w'.cell? ⟨w.heap.size + 1 + 1, 3, none⟩ = some (.bool t_r) ∧ w'.cell? ⟨w.heap.size + 1 + 1, 4, none⟩ = some (.slice E_r i_r e_r) ∧ w'.cell? ⟨w.heap.size + 1 + 1, 5, none⟩ = some (.slice F_r j_r f_r) ∧ w'.cell? ⟨w_d.heap.size, 0, none⟩ = some (.bool s_d) ∧ w'.cell? ⟨w_d.heap.size, 1, none⟩ = some (.slice A_d n_d c_d) ∧ w'.cell? ⟨w_d.heap.size, 2, none⟩ = some (.slice B_d m_d d_d) ∧ w'.cell? ⟨w_d.heap.size, 3, none⟩ = some (.bool t_d) ∧ w'.cell? ⟨w_d.heap.size, 4, none⟩ = some (.slice E_d i_d e_d) ∧ w'.cell? ⟨w_d.heap.size, 5, none⟩ = some (.slice F_d j_d f_d))
    (first | with_reducible exact ⟨XA.c0, XA.c1, XA.c2, XA.c3, XA.c4, XA.c5, XB.c0, XB.c1, XB.c2, XB.c3, XB.c4, XB.c5, XC.c0, XC.c1, XC.c2, XC.c3, XC.c4, XC.c5, XD.c0, XD.c1, XD.c2, XD.c3, XD.c4, XD.c5⟩ | with_reducible exact ⟨(set6_cell _ _ _ _ _ _ _ _ _ _ (by omega)).trans XA.c0, (set6_cell _ _ _ _ _ _ _ _ _ _ (by omega)).trans XA.c1, (set6_cell _ _ _ _ _ _ _ _ _ _ (by omega)).trans XA.c2, (set6_cell _ _ _ _ _ _ _ _ _ _ (by omega)).trans XA.c3, (set6_cell _ _ _ _ _ _ _ _ _ _ (by omega)).trans XA.c4, (set6_cell _ _ _ _ _ _ _ _ _ _ (by omega)).trans XA.c5, (set6_cell _ _ _ _ _ _ _ _ _ _ (by omega)).trans XB.c0, (set6_cell _ _ _ _ _ _ _ _ _ _ (by omega)).trans XB.c1, (set6_cell _ _ _ _ _ _ _ _ _ _ (by omega)).trans XB.c2, (set6_cell _ _ _ _ _ _ _ _ _ _ (by omega)).trans XB.c3, (set6_cell _ _ _ _ _ _ _ _ _ _ (by omega)).trans XB.c4, (set6_cell _ _ _ _ _ _ _ _ _ _ (by omega)).trans XB.c5, (set6_cell _ _ _ _ _ _ _ _ _ _ (by omega)).trans XC.c0, (set6_cell _ _ _ _ _ _ _ _ _ _ (by omega)).trans XC.c1, (set6_cell _ _ _ _ _ _ _ _ _ _ (by omega)).trans XC.c2, (set6_cell _ _ _ _ _ _ _ _ _ _ (by omega)).trans XC.c3, (set6_cell _ _ _ _ _ _ _ _ _ _ (by omega)).trans XC.c4, (set6_cell _ _ _ _ _ _ _ _ _ _ (by omega)).trans XC.c5, (set6_cell _ _ _ _ _ _ _ _ _ _ (by omega)).trans XD.c0, (set6_cell _ _ _ _ _ _ _ _ _ _ (by omega)).trans XD.c1, (set6_cell _ _ _ _ _ _ _ _ _ _ (by omega)).trans XD.c2, (set6_cell _ _ _ _ _ _ _ _ _ _ (by omega)).trans XD.c3, (set6_cell _ _ _ _ _ _ _ _ _ _ (by omega)).trans XD.c4, (set6_cell _ _ _ _ _ _ _ _ _ _ (by omega)).trans XD.c5⟩)
    (first
    | (go_at_call 76; (with_reducible refine (rsub6 p q (by omega) (by omega)).mono ?_); rintro e w_a ⟨s_a, A_a, n_a, c_a, B_a, m_a, d_a, t_a, E_a, i_a, e_a, F_a, j_a, f_a, rfl, a, hh⟩
       try replace p := p.below hh
       try replace q := q.below hh
       try replace r := r.below hh
       try replace d := d.below hh
       try replace XA := XA.below hh
       try replace XB := XB.below hh
       try replace XC := XC.below hh
       try replace XD := XD.below hh
       try replace Z := Z.below hh
       replace hb := bend hb hh)
    | (go_at_call 82; (with_reducible refine (rdot6 a d (by omega) (by omega)).mono ?_); rintro e w_f ⟨s_f, A_f, n_f, c_f, B_f, m_f, d_f, rfl, f, hh⟩
       try replace p := p.below hh
       try replace q := q.below hh
       try replace r := r.below hh
       try replace d := d.below hh
       try replace XA := XA.below hh
       try replace XB := XB.below hh
       try replace XC := XC.below hh
       try replace XD := XD.below hh
       try replace Z := Z.below hh
       try replace g := g.below hh
       replace hb := bend hb hh
       clear a)
    | (go_at_call 82; (with_reducible refine (rdot6 d d (by omega) (by omega)).mono ?_); rintro e w_g ⟨s_g, A_g, n_g, c_g, B_g, m_g, d_g, rfl, g, hh⟩
       try replace p := p.below hh
       try replace q := q.below hh
       try replace r := r.below hh
       try replace d := d.below hh
       try replace XA := XA.below hh
       try replace XB := XB.below hh
       try replace XC := XC.below hh
       try replace XD := XD.below hh
       try replace Z := Z.below hh
       try replace f := f.below hh
       replace hb := bend hb hh)
    | (go_at_call 21; (with_reducible refine (rdiv3 f g (by omega) (by omega) HG.out).mono ?_); rintro e w_h ⟨s_h, A_h, n_h, c_h, B_h, m_h, d_h, rfl, h, hh⟩
       try replace p := p.below hh
       try replace q := q.below hh
       try replace r := r.below hh
       try replace d := d.below hh
       try replace XA := XA.below hh
       try replace XB := XB.below hh
       try replace XC := XC.below hh
       try replace XD := XD.below hh
       try replace Z := Z.below hh
       replace hb := bend hb hh
       clear f g)
    | (go_at_call 80; (with_reducible refine (rmix6 q r h (by omega) (by omega) (by omega)).mono ?_); rintro e w_m ⟨s_m, A_m, n_m, c_m, B_m, m_m, d_m, t_m, E_m, i_m, e_m, F_m, j_m, f_m, rfl, m, hh⟩
       try replace p := p.below hh
       try replace q := q.below hh
       try replace r := r.below hh
       try replace d := d.below hh
       try replace XA := XA.below hh
       try replace XB := XB.below hh
       try replace XC := XC.below hh
       try replace XD := XD.below hh
       try replace Z := Z.below hh
       replace hb := bend hb hh
       clear h
       have zg0 := Z.f0
       have zg1 := Z.f1
       have zg2 := Z.f2
       have zg3 := Z.f3
       have zg4 := Z.f4
       have zg5 := Z.f5
       have zc0 := Z.c0
       have zc1 := Z.c1
       have zc2 := Z.c2
       have zc3 := Z.c3
       have zc4 := Z.c4
       have zc5 := Z.c5))
  go_wp2_with fail
  have Z2 := Z.set6 (.bool s_m) (.slice A_m n_m c_m) (.slice B_m m_m d_m) (.bool t_m) (.slice E_m i_m e_m) (.slice F_m j_m f_m)
  have g0 := Z2.c0
  have g1 := Z2.c1
  have g2 := Z2.c2
  have g3 := Z2.c3
  have g4 := Z2.c4
  have g5 := Z2.c5
  refine bodyPost_ret (v := .agg #[.bool s_m, .slice A_m n_m c_m, .slice B_m m_m d_m, .bool t_m, .slice E_m i_m e_m, .slice F_m j_m f_m]) (by simp [results, Tryz.results161, go_sem, g0, g1, g2, g3, g4, g5]) rfl ?_
  exact ⟨s_m, A_m, n_m, c_m, B_m, m_m, d_m, t_m, E_m, i_m, e_m, F_m, j_m, f_m, rfl, (m.more (by omega)).set6 Z _ _ _ _ _ _, below_set6 hb (by omega) _ _ _ _ _ _⟩
def nearQ (px py ax ay bx by_ : Rat) : Rat × Rat := if ax = bx ∧ ay = by_ then (ax, ay) else if forthQ px py ax ay bx by_ ≤ 0 then (ax, ay) else if 0 ≤ near2 px py ax ay bx by_ then (bx, by_) else (ax + (bx - ax) * (((px - ax) * (bx - ax) + (py - ay) * (by_ - ay)) / ((bx - ax) * (bx - ax) + (by_ - ay) * (by_ - ay))), ay + (by_ - ay) * (((px - ax) * (bx - ax) + (py - ay) * (by_ - ay)) / ((bx - ax) * (bx - ax) + (by_ - ay) * (by_ - ay))))
theorem rnear6 {w : World} {k : Nat} {px py ax ay bx by_ : Rat} {s_p t_p : Bool} {A_p B_p E_p F_p : Option Addr} {n_p c_p m_p d_p i_p e_p j_p f_p : Nat} {s_q t_q : Bool} {A_q B_q E_q F_q : Option Addr} {n_q c_q m_q d_q i_q e_q j_q f_q : Nat} {s_r t_r : Bool} {A_r B_r E_r F_r : Option Addr} {n_r c_r m_r d_r i_r e_r j_r f_r : Nat} (p : RP w s_p A_p n_p c_p B_p m_p d_p t_p E_p i_p e_p F_p j_p f_p px py k) (q : RP w s_q A_q n_q c_q B_q m_q d_q t_q E_q i_q e_q F_q j_q f_q ax ay k) (r : RP w s_r A_r n_r c_r B_r m_r d_r t_r E_r i_r e_r F_r j_r f_r bx by_ k) (hk : k ≤ 12) : Calls Tryz.prog 161 #[.agg #[.bool s_p, .slice A_p n_p c_p, .slice B_p m_p d_p, .bool t_p, .slice E_p i_p e_p, .slice F_p j_p f_p], .agg #[.bool s_q, .slice A_q n_q c_q, .slice B_q m_q d_q, .bool t_q, .slice E_q i_q e_q, .slice F_q j_q f_q], .agg #[.bool s_r, .slice A_r n_r c_r, .slice B_r m_r d_r, .bool t_r, .slice E_r i_r e_r, .slice F_r j_r f_r]] w (GivesRP w (nearQ px py ax ay bx by_).1 (nearQ px py ax ay bx by_).2 (19 * k + 12)) := by
  unfold nearQ
  split
  · rename_i h; exact rnear_same p q r hk h
  · rename_i h
    split
    · rename_i h1; exact rnear_lo p q r hk h h1
    · rename_i h1
      split
      · rename_i h2; exact rnear_hi p q r hk h h1 h2
      · rename_i h2; exact rnear_mid p q r hk h h1 h2
theorem seg_nearQ (px py ax ay bx by_ : Rat) : segQ px py ax ay bx by_ = (px - (nearQ px py ax ay bx by_).1) * (px - (nearQ px py ax ay bx by_).1) + (py - (nearQ px py ax ay bx by_).2) * (py - (nearQ px py ax ay bx by_).2) := by
  unfold nearQ
  by_cases h : ax = bx ∧ ay = by_
  · rw [if_pos h]
    unfold segQ
    rw [if_pos (show forthQ px py ax ay bx by_ ≤ 0 by unfold forthQ; rw [h.1, h.2]; grind)]
  · rw [if_neg h]
    by_cases h1 : forthQ px py ax ay bx by_ ≤ 0
    · rw [if_pos h1]
      unfold segQ
      rw [if_pos h1]
    · rw [if_neg h1]
      by_cases h2 : 0 ≤ near2 px py ax ay bx by_
      · rw [if_pos h2]
        unfold segQ
        rw [if_neg h1, if_pos (show wholeQ ax ay bx by_ ≤ forthQ px py ax ay bx by_ by rw [near2_eq] at h2; grind)]
        unfold farQ; grind
      · rw [if_neg h2]
        unfold segQ
        rw [if_neg h1, if_neg (fun e => h2 (by rw [near2_eq]; grind))]
        exact mid_eq (fun e => h (whole_z ax ay bx by_ e)) rfl
set_option maxRecDepth 100000 in
set_option maxHeartbeats 4000000 in
theorem rtoseg6 {w : World} {k : Nat} {px py ax ay bx by_ : Rat} {s_p t_p : Bool} {A_p B_p E_p F_p : Option Addr} {n_p c_p m_p d_p i_p e_p j_p f_p : Nat} {s_q t_q : Bool} {A_q B_q E_q F_q : Option Addr} {n_q c_q m_q d_q i_q e_q j_q f_q : Nat} {s_r t_r : Bool} {A_r B_r E_r F_r : Option Addr} {n_r c_r m_r d_r i_r e_r j_r f_r : Nat} (p : RP w s_p A_p n_p c_p B_p m_p d_p t_p E_p i_p e_p F_p j_p f_p px py k) (q : RP w s_q A_q n_q c_q B_q m_q d_q t_q E_q i_q e_q F_q j_q f_q ax ay k) (r : RP w s_r A_r n_r c_r B_r m_r d_r t_r E_r i_r e_r F_r j_r f_r bx by_ k) (hk : k ≤ 12) :
    Calls Tryz.prog 93 #[.agg #[.bool s_p, .slice A_p n_p c_p, .slice B_p m_p d_p, .bool t_p, .slice E_p i_p e_p, .slice F_p j_p f_p], .agg #[.bool s_q, .slice A_q n_q c_q, .slice B_q m_q d_q, .bool t_q, .slice E_q i_q e_q, .slice F_q j_q f_q], .agg #[.bool s_r, .slice A_r n_r c_r, .slice B_r m_r d_r, .bool t_r, .slice E_r i_r e_r, .slice F_r j_r f_r]] w (GivesRQ w (segQ px py ax ay bx by_) (4 * (k + (19 * k + 12) + 1) + 1)) := by
  rw [seg_nearQ]
  obtain ⟨nx, hx⟩ : ∃ nx, (nearQ px py ax ay bx by_).1 = nx := ⟨_, rfl⟩
  obtain ⟨ny, hy⟩ : ∃ ny, (nearQ px py ax ay bx by_).2 = ny := ⟨_, rfl⟩
  rw [hx, hy]
  have HN := Lib.hid hx
  have HM := Lib.hid hy
  clear hx hy
  go_enter Tryz.func93, Tryz.ntmps93
  go_upto_region 1 with (fail)
  generalize hW : ((((w.alloc (Obj.cells #[Value.bool s_p, Value.slice A_p n_p c_p, Value.slice B_p m_p d_p, Value.bool t_p, Value.slice E_p i_p e_p, Value.slice F_p j_p f_p] 86)).alloc (Obj.cells #[Value.bool s_q, Value.slice A_q n_q c_q, Value.slice B_q m_q d_q, Value.bool t_q, Value.slice E_q i_q e_q, Value.slice F_q j_q f_q] 86)).alloc (Obj.cells #[Value.bool s_r, Value.slice A_r n_r c_r, Value.slice B_r m_r d_r, Value.bool t_r, Value.slice E_r i_r e_r, Value.slice F_r j_r f_r] 86)).alloc (Obj.cells #[Value.bool false, Value.slice none 0 0, Value.slice none 0 0] 34)) = W
  have hb : Below w.heap.size w W := by subst hW; exact (((((Below.refl _ _).alloc (Nat.le_refl _) _).alloc (by simp) _).alloc (by simp; omega) _).alloc (by simp; omega) _)
  have XA : B6R W (w.heap.size) (Value.bool s_p) (Value.slice A_p n_p c_p) (Value.slice B_p m_p d_p) (Value.bool t_p) (Value.slice E_p i_p e_p) (Value.slice F_p j_p f_p) := by subst hW; exact (((B6R.new' _ _ _ _ _ _ _ _ rfl).alloc _).alloc _).alloc _
  have XB : B6R W (w.heap.size + 1) (Value.bool s_q) (Value.slice A_q n_q c_q) (Value.slice B_q m_q d_q) (Value.bool t_q) (Value.slice E_q i_q e_q) (Value.slice F_q j_q f_q) := by subst hW; exact ((B6R.new' _ _ _ _ _ _ _ _ (by simp)).alloc _).alloc _
  have XC : B6R W (w.heap.size + 1 + 1) (Value.bool s_r) (Value.slice A_r n_r c_r) (Value.slice B_r m_r d_r) (Value.bool t_r) (Value.slice E_r i_r e_r) (Value.slice F_r j_r f_r) := by subst hW; exact (B6R.new' _ _ _ _ _ _ _ _ (by simp)).alloc _
  have Z : B3R W (w.heap.size + 1 + 1 + 1) (Value.bool false) (Value.slice none 0 0) (Value.slice none 0 0) := by subst hW; exact B3R.new' _ _ _ _ _ (by simp)
  have hzW : W.heap.size = w.heap.size + 4 := by subst hW; simp
  clear hW
  replace p := p.below hb
  replace q := q.below hb
  replace r := r.below hb
  replace p := p.below (Below.refl _ _).drew
  replace q := q.below (Below.refl _ _).drew
  replace r := r.below (Below.refl _ _).drew
  replace XA := XA.below (Below.refl _ _).drew
  replace XB := XB.below (Below.refl _ _).drew
  replace XC := XC.below (Below.refl _ _).drew
  replace Z := Z.below (Below.refl _ _).drew
  replace hb := hb.drew
  go_region_held3 (fun w' => w'.cell? ⟨w.heap.size, 0, none⟩ = some (.bool s_p) ∧ w'.cell? ⟨w.heap.size, 1, none⟩ = some (.slice A_p n_p c_p) ∧ w'.cell? ⟨w.heap.size, 2, none⟩ = some (.slice B_p m_p d_p) ∧ w'.cell? ⟨w.heap.size, 3, none⟩ = some (.bool t_p) ∧ w'.cell? ⟨w.heap.size, 4, none⟩ = some (.slice E_p i_p e_p) ∧ w'.cell? ⟨w.heap.size, 5, none⟩ = some (.slice F_p j_p f_p) ∧ w'.cell? ⟨w.heap.size + 1, 0, none⟩ = some (.bool s_q) ∧ w'.cell? ⟨w.heap.size + 1, 1, none⟩ = some (.slice A_q n_q c_q) ∧ w'.cell? ⟨w.heap.size + 1, 2, none⟩ = some (.slice B_q m_q d_q) ∧ w'.cell? ⟨w.heap.size + 1, 3, none⟩ = some (.bool t_q) ∧ w'.cell? ⟨w.heap.size + 1, 4, none⟩ = some (.slice E_q i_q e_q) ∧ w'.cell? ⟨w.heap.size + 1, 5, none⟩ = some (.slice F_q j_q f_q) ∧ w'.cell? ⟨w.heap.size + 1 + 1, 0, none⟩ = some (.bool s_r) ∧ w'.cell? ⟨w.heap.size + 1 + 1, 1, none⟩ = some (.slice A_r n_r c_r) ∧ w'.cell? ⟨w.heap.size + 1 + 1, 2, none⟩ = some (.slice B_r m_r d_r) ∧ w'.cell? ⟨w.heap.size + 1 + 1, 3, none⟩ = some (.bool t_r) ∧ w'.cell? ⟨w.heap.size + 1 + 1, 4, none⟩ = some (.slice E_r i_r e_r) ∧ w'.cell? ⟨w.heap.size + 1 + 1, 5, none⟩ = some (.slice F_r j_r f_r))
    (first | with_reducible exact ⟨XA.c0, XA.c1, XA.c2, XA.c3, XA.c4, XA.c5, XB.c0, XB.c1, XB.c2, XB.c3, XB.c4, XB.c5, XC.c0, XC.c1, XC.c2, XC.c3, XC.c4, XC.c5⟩ | with_reducible exact ⟨(set3_cell _ _ _ _ _ _ _ (by omega)).trans XA.c0, (set3_cell _ _ _ _ _ _ _ (by omega)).trans XA.c1, (set3_cell _ _ _ _ _ _ _ (by omega)).trans XA.c2, (set3_cell _ _ _ _ _ _ _ (by omega)).trans XA.c3, (set3_cell _ _ _ _ _ _ _ (by omega)).trans XA.c4, (set3_cell _ _ _ _ _ _ _ (by omega)).trans XA.c5, (set3_cell _ _ _ _ _ _ _ (by omega)).trans XB.c0, (set3_cell _ _ _ _ _ _ _ (by omega)).trans XB.c1, (set3_cell _ _ _ _ _ _ _ (by omega)).trans XB.c2, (set3_cell _ _ _ _ _ _ _ (by omega)).trans XB.c3, (set3_cell _ _ _ _ _ _ _ (by omega)).trans XB.c4, (set3_cell _ _ _ _ _ _ _ (by omega)).trans XB.c5, (set3_cell _ _ _ _ _ _ _ (by omega)).trans XC.c0, (set3_cell _ _ _ _ _ _ _ (by omega)).trans XC.c1, (set3_cell _ _ _ _ _ _ _ (by omega)).trans XC.c2, (set3_cell _ _ _ _ _ _ _ (by omega)).trans XC.c3, (set3_cell _ _ _ _ _ _ _ (by omega)).trans XC.c4, (set3_cell _ _ _ _ _ _ _ (by omega)).trans XC.c5⟩)
    (first
    | (go_at_call 161; (with_reducible refine (rnear6 p q r hk).mono ?_); rintro e w_n ⟨s_n, A_n, n_n, c_n, B_n, m_n, d_n, t_n, E_n, i_n, e_n, F_n, j_n, f_n, rfl, n, hh⟩
       try replace p := p.below hh
       try replace q := q.below hh
       try replace r := r.below hh
       try replace XA := XA.below hh
       try replace XB := XB.below hh
       try replace XC := XC.below hh
       try replace Z := Z.below hh
       replace hb := bend hb hh
       rw [HN.out, HM.out] at n)
    | (go_at_call 91; (with_reducible refine (rfar6 p n (by omega) (by omega)).mono ?_); rintro e w_v ⟨s_v, A_v, n_v, c_v, B_v, m_v, d_v, rfl, v, hh⟩
       try replace XA := XA.below hh
       try replace XB := XB.below hh
       try replace XC := XC.below hh
       try replace Z := Z.below hh
       replace hb := bend hb hh
       replace v := v.more (k1 := 4 * (k + (19 * k + 12) + 1) + 1) (by omega)
       have zf0 := Z.f0
       have zf1 := Z.f1
       have zf2 := Z.f2
       have z0 := Z.c0
       have z1 := Z.c1
       have z2 := Z.c2))
  go_wp2_with fail
  have Z2 := Z.set3 (.bool s_v) (.slice A_v n_v c_v) (.slice B_v m_v d_v)
  have g0 := Z2.c0
  have g1 := Z2.c1
  have g2 := Z2.c2
  refine bodyPost_ret (v := .agg #[.bool s_v, .slice A_v n_v c_v, .slice B_v m_v d_v]) (by simp [results, Tryz.results93, go_sem, g0, g1, g2]) rfl ?_
  exact ⟨s_v, A_v, n_v, c_v, B_v, m_v, d_v, rfl, v.set3 Z _ _ _, below_set3 hb (by omega) _ _ _⟩
def F_plins (s_p : Bool) (t_p : Bool) (A_p : Option Addr) (B_p : Option Addr) (E_p : Option Addr) (F_p : Option Addr) (n_p : Nat) (c_p : Nat) (m_p : Nat) (d_p : Nat) (i_p : Nat) (e_p : Nat) (j_p : Nat) (f_p : Nat) (s_q : Bool) (t_q : Bool) (A_q : Option Addr) (B_q : Option Addr) (E_q : Option Addr) (F_q : Option Addr) (n_q : Nat) (c_q : Nat) (m_q : Nat) (d_q : Nat) (i_q : Nat) (e_q : Nat) (j_q : Nat) (f_q : Nat) (s_r : Bool) (t_r : Bool) (A_r : Option Addr) (B_r : Option Addr) (E_r : Option Addr) (F_r : Option Addr) (n_r : Nat) (c_r : Nat) (m_r : Nat) (d_r : Nat) (i_r : Nat) (e_r : Nat) (j_r : Nat) (f_r : Nat) (ax : Rat) (ay : Rat) (bx : Rat) (by_ : Rat) (cx : Rat) (cy : Rat) (sl : Nat) : Value → World → Prop :=
  match sl with
  | 17 => fun x _ => x = Value.agg #[.bool s_p, .slice A_p n_p c_p, .slice B_p m_p d_p, .bool t_p, .slice E_p i_p e_p, .slice F_p j_p f_p]
  | 18 => VRP (ax) (ay) (2 * 6)
  | 19 => fun x _ => x = Value.agg #[.bool s_q, .slice A_q n_q c_q, .slice B_q m_q d_q, .bool t_q, .slice E_q i_q e_q, .slice F_q j_q f_q]
  | 20 => VRP (bx) (by_) (2 * 6)
  | 21 => fun x _ => x = Value.agg #[.bool s_r, .slice A_r n_r c_r, .slice B_r m_r d_r, .bool t_r, .slice E_r i_r e_r, .slice F_r j_r f_r]
  | 22 => VRP (cx) (cy) (2 * 6)
  | _ => fun _ _ => True
def B0_plins (ax : Rat) (ay : Rat) : BoxOp :=
  ⟨6, 9, 7, 86, #[.bool false, .slice none 0 0, .slice none 0 0, .bool false, .slice none 0 0, .slice none 0 0], fun cs w => ∃ s A n c B m d t E i e F j f, cs = #[.bool s, .slice A n c, .slice B m d, .bool t, .slice E i e, .slice F j f] ∧ RP w s A n c B m d t E i e F j f (ax) (ay) (2 * 6)⟩
def B1_plins (bx : Rat) (by_ : Rat) : BoxOp :=
  ⟨7, 10, 8, 86, #[.bool false, .slice none 0 0, .slice none 0 0, .bool false, .slice none 0 0, .slice none 0 0], fun cs w => ∃ s A n c B m d t E i e F j f, cs = #[.bool s, .slice A n c, .slice B m d, .bool t, .slice E i e, .slice F j f] ∧ RP w s A n c B m d t E i e F j f (bx) (by_) (2 * 6)⟩
def B2_plins (cx : Rat) (cy : Rat) : BoxOp :=
  ⟨8, 11, 9, 86, #[.bool false, .slice none 0 0, .slice none 0 0, .bool false, .slice none 0 0, .slice none 0 0], fun cs w => ∃ s A n c B m d t E i e F j f, cs = #[.bool s, .slice A n c, .slice B m d, .bool t, .slice E i e, .slice F j f] ∧ RP w s A n c B m d t E i e F j f (cx) (cy) (2 * 6)⟩
set_option maxRecDepth 100000 in
set_option maxHeartbeats 4000000 in
theorem plins_region {id : Nat} {ac : Act} {w : World} {Q : Exit → Act → World → Prop} {s_p t_p : Bool} {A_p B_p E_p F_p : Option Addr} {n_p c_p m_p d_p i_p e_p j_p f_p : Nat} {s_q t_q : Bool} {A_q B_q E_q F_q : Option Addr} {n_q c_q m_q d_q i_q e_q j_q f_q : Nat} {s_r t_r : Bool} {A_r B_r E_r F_r : Option Addr} {n_r c_r m_r d_r i_r e_r j_r f_r : Nat} {ax ay bx by_ cx cy : Rat} {gp gq gr : Nat}
    (hsz : 22 < ac.tmps.size) (e3 : ac.eval (.tmp 3) = Value.pointer (some ⟨gp, 0, none⟩)) (e4 : ac.eval (.tmp 4) = Value.pointer (some ⟨gq, 0, none⟩)) (e5 : ac.eval (.tmp 5) = Value.pointer (some ⟨gr, 0, none⟩)) (XA : B6 w gp (.bool s_p) (.slice A_p n_p c_p) (.slice B_p m_p d_p) (.bool t_p) (.slice E_p i_p e_p) (.slice F_p j_p f_p)) (XB : B6 w gq (.bool s_q) (.slice A_q n_q c_q) (.slice B_q m_q d_q) (.bool t_q) (.slice E_q i_q e_q) (.slice F_q j_q f_q)) (XC : B6 w gr (.bool s_r) (.slice A_r n_r c_r) (.slice B_r m_r d_r) (.bool t_r) (.slice E_r i_r e_r) (.slice F_r j_r f_r)) (p : PR w s_p A_p n_p c_p B_p m_p d_p t_p E_p i_p e_p F_p j_p f_p ax ay 6) (q : PR w s_q A_q n_q c_q B_q m_q d_q t_q E_q i_q e_q F_q j_q f_q bx by_ 6) (r : PR w s_r A_r n_r c_r B_r m_r d_r t_r E_r i_r e_r F_r j_r f_r cx cy 6)
    (hend : ∀ (V : Nat → Value) (w' : World) (g0 : Nat) (s0 : Bool) (A0 : Option Addr) (n0 : Nat) (c0 : Nat) (B0 : Option Addr) (m0 : Nat) (d0 : Nat) (t0 : Bool) (E0 : Option Addr) (i0 : Nat) (e0 : Nat) (F0 : Option Addr) (j0 : Nat) (f0 : Nat) (g1 : Nat) (s1 : Bool) (A1 : Option Addr) (n1 : Nat) (c1 : Nat) (B1 : Option Addr) (m1 : Nat) (d1 : Nat) (t1 : Bool) (E1 : Option Addr) (i1 : Nat) (e1 : Nat) (F1 : Option Addr) (j1 : Nat) (f1 : Nat) (g2 : Nat) (s2 : Bool) (A2 : Option Addr) (n2 : Nat) (c2 : Nat) (B2 : Option Addr) (m2 : Nat) (d2 : Nat) (t2 : Bool) (E2 : Option Addr) (i2 : Nat) (e2 : Nat) (F2 : Option Addr) (j2 : Nat) (f2 : Nat), RP w' s0 A0 n0 c0 B0 m0 d0 t0 E0 i0 e0 F0 j0 f0 (ax) (ay) (2 * 6) → B6R w' g0 (.bool s0) (.slice A0 n0 c0) (.slice B0 m0 d0) (.bool t0) (.slice E0 i0 e0) (.slice F0 j0 f0) → w.heap.size ≤ g0 → V 7 = .pointer (some ⟨g0, 0, none⟩) → RP w' s1 A1 n1 c1 B1 m1 d1 t1 E1 i1 e1 F1 j1 f1 (bx) (by_) (2 * 6) → B6R w' g1 (.bool s1) (.slice A1 n1 c1) (.slice B1 m1 d1) (.bool t1) (.slice E1 i1 e1) (.slice F1 j1 f1) → w.heap.size ≤ g1 → V 8 = .pointer (some ⟨g1, 0, none⟩) → RP w' s2 A2 n2 c2 B2 m2 d2 t2 E2 i2 e2 F2 j2 f2 (cx) (cy) (2 * 6) → B6R w' g2 (.bool s2) (.slice A2 n2 c2) (.slice B2 m2 d2) (.bool t2) (.slice E2 i2 e2) (.slice F2 j2 f2) → w.heap.size ≤ g2 → V 9 = .pointer (some ⟨g2, 0, none⟩) → g1 ≠ g0 → g2 ≠ g0 → g2 ≠ g1 → Below w.heap.size w w' → Q .normal (putAll ac [17, 18, 19, 20, 21, 22, 7, 8, 9] V) w') :
    (Code.region id #[{ dst := some 17, op := Op.load 83 (Operand.tmp 3), type := 83, pos := "law.go:46", after := #[], guard := none },
      { dst := some 18, op := Op.call { callee := Callee.value (Operand.func 68), args := #[Operand.tmp 17], argTypes := #[83] }, type := 86, pos := "law.go:46", after := #[{ on := 0, ground := Ground.data }], guard := none },
      { dst := some 19, op := Op.load 83 (Operand.tmp 4), type := 83, pos := "law.go:46", after := #[], guard := none },
      { dst := some 20, op := Op.call { callee := Callee.value (Operand.func 68), args := #[Operand.tmp 19], argTypes := #[83] }, type := 86, pos := "law.go:46", after := #[{ on := 2, ground := Ground.data }, { on := 1, ground := Ground.chain }], guard := none },
      { dst := some 21, op := Op.load 83 (Operand.tmp 5), type := 83, pos := "law.go:46", after := #[], guard := none },
      { dst := some 22, op := Op.call { callee := Callee.value (Operand.func 68), args := #[Operand.tmp 21], argTypes := #[83] }, type := 86, pos := "law.go:46", after := #[{ on := 4, ground := Ground.data }, { on := 3, ground := Ground.chain }], guard := none },
      { dst := some 7, op := Op.alloc 86, type := 0, pos := "law.go:46", after := #[], guard := none },
      { dst := some 8, op := Op.alloc 86, type := 0, pos := "law.go:46", after := #[], guard := none },
      { dst := some 9, op := Op.alloc 86, type := 0, pos := "law.go:46", after := #[], guard := none },
      { dst := none, op := Op.store 86 (Operand.tmp 7) (Operand.tmp 18), type := 0, pos := "law.go:46", after := #[{ on := 6, ground := Ground.data }, { on := 1, ground := Ground.data }, { on := 5, ground := Ground.chain }, { on := 0, ground := Ground.phase }, { on := 1, ground := Ground.phase }, { on := 2, ground := Ground.textOnly Departure.lateStores }, { on := 3, ground := Ground.textOnly Departure.lateStoresUnsure }, { on := 4, ground := Ground.textOnly Departure.lateStores }, { on := 5, ground := Ground.textOnly Departure.lateStoresUnsure }, { on := 6, ground := Ground.phase }, { on := 7, ground := Ground.phase }, { on := 8, ground := Ground.phase }], guard := none },
      { dst := none, op := Op.store 86 (Operand.tmp 8) (Operand.tmp 20), type := 0, pos := "law.go:46", after := #[{ on := 7, ground := Ground.data }, { on := 3, ground := Ground.data }, { on := 9, ground := Ground.chain }, { on := 0, ground := Ground.phase }, { on := 1, ground := Ground.phase }, { on := 2, ground := Ground.phase }, { on := 3, ground := Ground.phase }, { on := 4, ground := Ground.textOnly Departure.lateStores }, { on := 5, ground := Ground.textOnly Departure.lateStoresUnsure }, { on := 6, ground := Ground.phase }, { on := 7, ground := Ground.phase }, { on := 8, ground := Ground.phase }, { on := 9, ground := Ground.phase }], guard := none },
      { dst := none, op := Op.store 86 (Operand.tmp 9) (Operand.tmp 22), type := 0, pos := "law.go:46", after := #[{ on := 8, ground := Ground.data }, { on := 5, ground := Ground.data }, { on := 10, ground := Ground.chain }, { on := 0, ground := Ground.phase }, { on := 1, ground := Ground.phase }, { on := 2, ground := Ground.phase }, { on := 3, ground := Ground.phase }, { on := 4, ground := Ground.phase }, { on := 5, ground := Ground.phase }, { on := 6, ground := Ground.phase }, { on := 7, ground := Ground.phase }, { on := 8, ground := Ground.phase }, { on := 9, ground := Ground.phase }, { on := 10, ground := Ground.phase }], guard := none }] true).wp Tryz.prog Q ac w := by
  have hnd : ([17, 18, 19, 20, 21, 22, 7, 8, 9] : List Nat).Nodup := by decide
  have G : ∀ (sv : Nat → Value) (t : Nat), t ∈ ([17, 18, 19, 20, 21, 22, 7, 8, 9] : List Nat) → t ≤ 22 → (putAll ac [17, 18, 19, 20, 21, 22, 7, 8, 9] sv).eval (.tmp t) = sv t := fun sv t ht h => eval_putAll_mem (t := t) [17, 18, 19, 20, 21, 22, 7, 8, 9] ac hnd ht (Nat.lt_of_le_of_lt h hsz)
  have E3 : ∀ sv : Nat → Value, (putAll ac [17, 18, 19, 20, 21, 22, 7, 8, 9] sv).eval (.tmp 3) = Value.pointer (some ⟨gp, 0, none⟩) := fun sv => (eval_putAll_not (v := sv) [17, 18, 19, 20, 21, 22, 7, 8, 9] ac (show 3 ∉ _ by decide)).trans e3
  have E4 : ∀ sv : Nat → Value, (putAll ac [17, 18, 19, 20, 21, 22, 7, 8, 9] sv).eval (.tmp 4) = Value.pointer (some ⟨gq, 0, none⟩) := fun sv => (eval_putAll_not (v := sv) [17, 18, 19, 20, 21, 22, 7, 8, 9] ac (show 4 ∉ _ by decide)).trans e4
  have E5 : ∀ sv : Nat → Value, (putAll ac [17, 18, 19, 20, 21, 22, 7, 8, 9] sv).eval (.tmp 5) = Value.pointer (some ⟨gr, 0, none⟩) := fun sv => (eval_putAll_not (v := sv) [17, 18, 19, 20, 21, 22, 7, 8, 9] ac (show 5 ∉ _ by decide)).trans e5
  have NE : ∀ t : Nat, (t ≠ 7 ∧ t ≠ 8 ∧ t ≠ 9) → ∀ p ∈ [B0_plins ax ay, B1_plins bx by_, B2_plins cx cy], t ≠ p.tA := by
    intro t ht p hp
    simp only [List.mem_cons, List.not_mem_nil, or_false] at hp
    rcases hp with rfl | rfl | rfl
    · exact ht.1
    · exact ht.2.1
    · exact ht.2.2
  refine wp_region_flows [17, 18, 19, 20, 21, 22, 7, 8, 9] [B0_plins ax ay, B1_plins bx by_, B2_plins cx cy] (F_plins s_p t_p A_p B_p E_p F_p n_p c_p m_p d_p i_p e_p j_p f_p s_q t_q A_q B_q E_q F_q n_q c_q m_q d_q i_q e_q j_q f_q s_r t_r A_r B_r E_r F_r n_r c_r m_r d_r i_r e_r j_r f_r ax ay bx by_ cx cy) (by kernel_rfl) (by kernel_rfl) rfl hnd ?_ ?_ ?_ ?_ ?_ ?_ ?_ ?_
  · intro p hp
    simp only [List.mem_cons, List.not_mem_nil, or_false] at hp
    rcases hp with rfl | rfl | rfl
    · refine ⟨⟨{ dst := some 7, op := Op.alloc 86, type := 0, pos := "law.go:46", after := #[], guard := none }, rfl, rfl, rfl, fun e w' => run_alloc7⟩, ⟨{ dst := none, op := Op.store 86 (Operand.tmp 7) (Operand.tmp 18), type := 0, pos := "law.go:46", after := #[{ on := 6, ground := Ground.data }, { on := 1, ground := Ground.data }, { on := 5, ground := Ground.chain }, { on := 0, ground := Ground.phase }, { on := 1, ground := Ground.phase }, { on := 2, ground := Ground.textOnly Departure.lateStores }, { on := 3, ground := Ground.textOnly Departure.lateStoresUnsure }, { on := 4, ground := Ground.textOnly Departure.lateStores }, { on := 5, ground := Ground.textOnly Departure.lateStoresUnsure }, { on := 6, ground := Ground.phase }, { on := 7, ground := Ground.phase }, { on := 8, ground := Ground.phase }], guard := none }, rfl, rfl, rfl, { on := 6, ground := Ground.data }, by simp, rfl, rfl⟩, free6 _ _ _ _ _ _ _ _ _ _ _ _ _ _, ?_, ?_⟩
      · rintro cs w1 w2 ⟨s_, A_, n_, c_, B_, m_, d_, t_, E_, i_, e_, F_, j_, f_, rfl, h⟩ hb; exact ⟨s_, A_, n_, c_, B_, m_, d_, t_, E_, i_, e_, F_, j_, f_, rfl, h.below hb⟩
      · rintro T cs w1 w2 g c0 ⟨s_, A_, n_, c_, B_, m_, d_, t_, E_, i_, e_, F_, j_, f_, rfl, h⟩ hB ho; exact ⟨s_, A_, n_, c_, B_, m_, d_, t_, E_, i_, e_, F_, j_, f_, rfl, h.box hB ho⟩
    · refine ⟨⟨{ dst := some 8, op := Op.alloc 86, type := 0, pos := "law.go:46", after := #[], guard := none }, rfl, rfl, rfl, fun e w' => run_alloc7⟩, ⟨{ dst := none, op := Op.store 86 (Operand.tmp 8) (Operand.tmp 20), type := 0, pos := "law.go:46", after := #[{ on := 7, ground := Ground.data }, { on := 3, ground := Ground.data }, { on := 9, ground := Ground.chain }, { on := 0, ground := Ground.phase }, { on := 1, ground := Ground.phase }, { on := 2, ground := Ground.phase }, { on := 3, ground := Ground.phase }, { on := 4, ground := Ground.textOnly Departure.lateStores }, { on := 5, ground := Ground.textOnly Departure.lateStoresUnsure }, { on := 6, ground := Ground.phase }, { on := 7, ground := Ground.phase }, { on := 8, ground := Ground.phase }, { on := 9, ground := Ground.phase }], guard := none }, rfl, rfl, rfl, { on := 7, ground := Ground.data }, by simp, rfl, rfl⟩, free6 _ _ _ _ _ _ _ _ _ _ _ _ _ _, ?_, ?_⟩
      · rintro cs w1 w2 ⟨s_, A_, n_, c_, B_, m_, d_, t_, E_, i_, e_, F_, j_, f_, rfl, h⟩ hb; exact ⟨s_, A_, n_, c_, B_, m_, d_, t_, E_, i_, e_, F_, j_, f_, rfl, h.below hb⟩
      · rintro T cs w1 w2 g c0 ⟨s_, A_, n_, c_, B_, m_, d_, t_, E_, i_, e_, F_, j_, f_, rfl, h⟩ hB ho; exact ⟨s_, A_, n_, c_, B_, m_, d_, t_, E_, i_, e_, F_, j_, f_, rfl, h.box hB ho⟩
    · refine ⟨⟨{ dst := some 9, op := Op.alloc 86, type := 0, pos := "law.go:46", after := #[], guard := none }, rfl, rfl, rfl, fun e w' => run_alloc7⟩, ⟨{ dst := none, op := Op.store 86 (Operand.tmp 9) (Operand.tmp 22), type := 0, pos := "law.go:46", after := #[{ on := 8, ground := Ground.data }, { on := 5, ground := Ground.data }, { on := 10, ground := Ground.chain }, { on := 0, ground := Ground.phase }, { on := 1, ground := Ground.phase }, { on := 2, ground := Ground.phase }, { on := 3, ground := Ground.phase }, { on := 4, ground := Ground.phase }, { on := 5, ground := Ground.phase }, { on := 6, ground := Ground.phase }, { on := 7, ground := Ground.phase }, { on := 8, ground := Ground.phase }, { on := 9, ground := Ground.phase }, { on := 10, ground := Ground.phase }], guard := none }, rfl, rfl, rfl, { on := 8, ground := Ground.data }, by simp, rfl, rfl⟩, free6 _ _ _ _ _ _ _ _ _ _ _ _ _ _, ?_, ?_⟩
      · rintro cs w1 w2 ⟨s_, A_, n_, c_, B_, m_, d_, t_, E_, i_, e_, F_, j_, f_, rfl, h⟩ hb; exact ⟨s_, A_, n_, c_, B_, m_, d_, t_, E_, i_, e_, F_, j_, f_, rfl, h.below hb⟩
      · rintro T cs w1 w2 g c0 ⟨s_, A_, n_, c_, B_, m_, d_, t_, E_, i_, e_, F_, j_, f_, rfl, h⟩ hB ho; exact ⟨s_, A_, n_, c_, B_, m_, d_, t_, E_, i_, e_, F_, j_, f_, rfl, h.box hB ho⟩
  · intro p hp q hq h
    simp only [List.mem_cons, List.not_mem_nil, or_false] at hp hq
    rcases hp with rfl | rfl | rfl <;> rcases hq with rfl | rfl | rfl
    · rfl
    · exact absurd (show (7 : Nat) = 8 from h) (by decide)
    · exact absurd (show (7 : Nat) = 9 from h) (by decide)
    · exact absurd (show (8 : Nat) = 7 from h) (by decide)
    · rfl
    · exact absurd (show (8 : Nat) = 9 from h) (by decide)
    · exact absurd (show (9 : Nat) = 7 from h) (by decide)
    · exact absurd (show (9 : Nat) = 8 from h) (by decide)
    · rfl
  · intro p hp q hq h
    simp only [List.mem_cons, List.not_mem_nil, or_false] at hp hq
    rcases hp with rfl | rfl | rfl <;> rcases hq with rfl | rfl | rfl
    · rfl
    · exact absurd (show (9 : Nat) = 10 from h) (by decide)
    · exact absurd (show (9 : Nat) = 11 from h) (by decide)
    · exact absurd (show (10 : Nat) = 9 from h) (by decide)
    · rfl
    · exact absurd (show (10 : Nat) = 11 from h) (by decide)
    · exact absurd (show (11 : Nat) = 9 from h) (by decide)
    · exact absurd (show (11 : Nat) = 10 from h) (by decide)
    · rfl
  · intro i o h1 h2
    match i, h1 with
    | 0, h1 => cases h1; cases h2
    | 1, h1 => cases h1; cases h2
    | 2, h1 => cases h1; cases h2
    | 3, h1 => cases h1; cases h2
    | 4, h1 => cases h1; cases h2
    | 5, h1 => cases h1; cases h2
    | 6, h1 => cases h1; cases h2
    | 7, h1 => cases h1; cases h2
    | 8, h1 => cases h1; cases h2
    | 9, h1 => exact ⟨B0_plins ax ay, List.Mem.head _, rfl⟩
    | 10, h1 => exact ⟨B1_plins bx by_, List.Mem.tail _ (List.Mem.head _), rfl⟩
    | 11, h1 => exact ⟨B2_plins cx cy, List.Mem.tail _ (List.Mem.tail _ (List.Mem.head _)), rfl⟩
    | i + 12, h1 => cases h1
  · intro t
    unfold F_plins
    split <;> first | exact stays_eq _ | exact stays_q _ _ | exact stays_z _ _ | exact stays_r _ _ | exact stays_rq _ _ | exact stays_pg _ _ _ | exact stays_rp _ _ _ | exact stays_true
  · intro i o t sv w' ho hia hd J0 hf
    have p := p.below J0
    have q := q.below J0
    have r := r.below J0
    have XA := XA.below J0
    have XB := XB.below J0
    have XC := XC.below J0
    match i, ho with
    | 0, ho =>
      obtain rfl : { dst := some 17, op := Op.load 83 (Operand.tmp 3), type := 83, pos := "law.go:46", after := #[], guard := none } = o := Option.some.inj ho
      cases hd
      refine wpOp_plain' (o := { dst := some 17, op := Op.load 83 (Operand.tmp 3), type := 83, pos := "law.go:46", after := #[], guard := none }) rfl rfl ?_
      unfold Oper.wp
      rw [run_load6 (E3 sv) XA.c0 XA.c1 XA.c2 XA.c3 XA.c4 XA.c5, Oper.upon_value]
      exact ⟨_, rfl, Below.refl _ _, rfl⟩
    | 1, ho =>
      obtain rfl : { dst := some 18, op := Op.call { callee := Callee.value (Operand.func 68), args := #[Operand.tmp 17], argTypes := #[83] }, type := 86, pos := "law.go:46", after := #[{ on := 0, ground := Ground.data }], guard := none } = o := Option.some.inj ho
      cases hd
      have f17 : sv 17 = Value.agg #[.bool s_p, .slice A_p n_p c_p, .slice B_p m_p d_p, .bool t_p, .slice E_p i_p e_p, .slice F_p j_p f_p] := hf { on := 0, ground := Ground.data } (by simp) rfl _ 17 rfl rfl (NE _ (by decide))
      refine wpOp_plain' (o := { dst := some 18, op := Op.call { callee := Callee.value (Operand.func 68), args := #[Operand.tmp 17], argTypes := #[83] }, type := 86, pos := "law.go:46", after := #[{ on := 0, ground := Ground.data }], guard := none }) rfl rfl ?_
      unfold Oper.wp
      rw [rc_gesso_gessoref06_In ((G sv 17 (by decide) (by decide)).trans f17) rfl, Oper.upon_enter]
      refine (rin6 p (by decide) (by decide)).mono ?_
      rintro e w1 ⟨s_, A_, n_, c_, B_, m_, d_, t_, E_, i_, e_, F_, j_, f_, rfl, hq, hh⟩
      exact ⟨_, rfl, hh, s_, A_, n_, c_, B_, m_, d_, t_, E_, i_, e_, F_, j_, f_, rfl, hq⟩
    | 2, ho =>
      obtain rfl : { dst := some 19, op := Op.load 83 (Operand.tmp 4), type := 83, pos := "law.go:46", after := #[], guard := none } = o := Option.some.inj ho
      cases hd
      refine wpOp_plain' (o := { dst := some 19, op := Op.load 83 (Operand.tmp 4), type := 83, pos := "law.go:46", after := #[], guard := none }) rfl rfl ?_
      unfold Oper.wp
      rw [run_load6 (E4 sv) XB.c0 XB.c1 XB.c2 XB.c3 XB.c4 XB.c5, Oper.upon_value]
      exact ⟨_, rfl, Below.refl _ _, rfl⟩
    | 3, ho =>
      obtain rfl : { dst := some 20, op := Op.call { callee := Callee.value (Operand.func 68), args := #[Operand.tmp 19], argTypes := #[83] }, type := 86, pos := "law.go:46", after := #[{ on := 2, ground := Ground.data }, { on := 1, ground := Ground.chain }], guard := none } = o := Option.some.inj ho
      cases hd
      have f19 : sv 19 = Value.agg #[.bool s_q, .slice A_q n_q c_q, .slice B_q m_q d_q, .bool t_q, .slice E_q i_q e_q, .slice F_q j_q f_q] := hf { on := 2, ground := Ground.data } (by simp) rfl _ 19 rfl rfl (NE _ (by decide))
      refine wpOp_plain' (o := { dst := some 20, op := Op.call { callee := Callee.value (Operand.func 68), args := #[Operand.tmp 19], argTypes := #[83] }, type := 86, pos := "law.go:46", after := #[{ on := 2, ground := Ground.data }, { on := 1, ground := Ground.chain }], guard := none }) rfl rfl ?_
      unfold Oper.wp
      rw [rc_gesso_gessoref06_In ((G sv 19 (by decide) (by decide)).trans f19) rfl, Oper.upon_enter]
      refine (rin6 q (by decide) (by decide)).mono ?_
      rintro e w1 ⟨s_, A_, n_, c_, B_, m_, d_, t_, E_, i_, e_, F_, j_, f_, rfl, hq, hh⟩
      exact ⟨_, rfl, hh, s_, A_, n_, c_, B_, m_, d_, t_, E_, i_, e_, F_, j_, f_, rfl, hq⟩
    | 4, ho =>
      obtain rfl : { dst := some 21, op := Op.load 83 (Operand.tmp 5), type := 83, pos := "law.go:46", after := #[], guard := none } = o := Option.some.inj ho
      cases hd
      refine wpOp_plain' (o := { dst := some 21, op := Op.load 83 (Operand.tmp 5), type := 83, pos := "law.go:46", after := #[], guard := none }) rfl rfl ?_
      unfold Oper.wp
      rw [run_load6 (E5 sv) XC.c0 XC.c1 XC.c2 XC.c3 XC.c4 XC.c5, Oper.upon_value]
      exact ⟨_, rfl, Below.refl _ _, rfl⟩
    | 5, ho =>
      obtain rfl : { dst := some 22, op := Op.call { callee := Callee.value (Operand.func 68), args := #[Operand.tmp 21], argTypes := #[83] }, type := 86, pos := "law.go:46", after := #[{ on := 4, ground := Ground.data }, { on := 3, ground := Ground.chain }], guard := none } = o := Option.some.inj ho
      cases hd
      have f21 : sv 21 = Value.agg #[.bool s_r, .slice A_r n_r c_r, .slice B_r m_r d_r, .bool t_r, .slice E_r i_r e_r, .slice F_r j_r f_r] := hf { on := 4, ground := Ground.data } (by simp) rfl _ 21 rfl rfl (NE _ (by decide))
      refine wpOp_plain' (o := { dst := some 22, op := Op.call { callee := Callee.value (Operand.func 68), args := #[Operand.tmp 21], argTypes := #[83] }, type := 86, pos := "law.go:46", after := #[{ on := 4, ground := Ground.data }, { on := 3, ground := Ground.chain }], guard := none }) rfl rfl ?_
      unfold Oper.wp
      rw [rc_gesso_gessoref06_In ((G sv 21 (by decide) (by decide)).trans f21) rfl, Oper.upon_enter]
      refine (rin6 r (by decide) (by decide)).mono ?_
      rintro e w1 ⟨s_, A_, n_, c_, B_, m_, d_, t_, E_, i_, e_, F_, j_, f_, rfl, hq, hh⟩
      exact ⟨_, rfl, hh, s_, A_, n_, c_, B_, m_, d_, t_, E_, i_, e_, F_, j_, f_, rfl, hq⟩
    | 6, ho => cases ho; cases hd; exact absurd rfl (hia (B0_plins ax ay) (List.Mem.head _))
    | 7, ho => cases ho; cases hd; exact absurd rfl (hia (B1_plins bx by_) (List.Mem.tail _ (List.Mem.head _)))
    | 8, ho => cases ho; cases hd; exact absurd rfl (hia (B2_plins cx cy) (List.Mem.tail _ (List.Mem.tail _ (List.Mem.head _))))
    | 9, ho => cases ho; cases hd
    | 10, ho => cases ho; cases hd
    | 11, ho => cases ho; cases hd
    | i + 12, ho => cases ho
  · intro p hp os sv w' g hos J0 p1 p3 hf
    simp only [List.mem_cons, List.not_mem_nil, or_false] at hp
    rcases hp with rfl | rfl | rfl
    · obtain rfl : { dst := none, op := Op.store 86 (Operand.tmp 7) (Operand.tmp 18), type := 0, pos := "law.go:46", after := #[{ on := 6, ground := Ground.data }, { on := 1, ground := Ground.data }, { on := 5, ground := Ground.chain }, { on := 0, ground := Ground.phase }, { on := 1, ground := Ground.phase }, { on := 2, ground := Ground.textOnly Departure.lateStores }, { on := 3, ground := Ground.textOnly Departure.lateStoresUnsure }, { on := 4, ground := Ground.textOnly Departure.lateStores }, { on := 5, ground := Ground.textOnly Departure.lateStoresUnsure }, { on := 6, ground := Ground.phase }, { on := 7, ground := Ground.phase }, { on := 8, ground := Ground.phase }], guard := none } = os := Option.some.inj hos
      have h1 : VRP (ax) (ay) (2 * 6) (sv 18) w' := hf { on := 1, ground := Ground.data } (by simp) rfl _ 18 rfl rfl (NE _ (by decide))
      rw [← G sv 18 (by decide) (by decide)] at h1
      refine store_rp (x := ax) (y := ay) (k := 2 * 6) (ac := putAll ac [17, 18, 19, 20, 21, 22, 7, 8, 9] sv) (z := Operand.tmp 18) ?_ ?_ ?_
      · exact (G sv 7 (by decide) (by decide)).trans p1
      · exact h1
      · exact p3
    · obtain rfl : { dst := none, op := Op.store 86 (Operand.tmp 8) (Operand.tmp 20), type := 0, pos := "law.go:46", after := #[{ on := 7, ground := Ground.data }, { on := 3, ground := Ground.data }, { on := 9, ground := Ground.chain }, { on := 0, ground := Ground.phase }, { on := 1, ground := Ground.phase }, { on := 2, ground := Ground.phase }, { on := 3, ground := Ground.phase }, { on := 4, ground := Ground.textOnly Departure.lateStores }, { on := 5, ground := Ground.textOnly Departure.lateStoresUnsure }, { on := 6, ground := Ground.phase }, { on := 7, ground := Ground.phase }, { on := 8, ground := Ground.phase }, { on := 9, ground := Ground.phase }], guard := none } = os := Option.some.inj hos
      have h1 : VRP (bx) (by_) (2 * 6) (sv 20) w' := hf { on := 3, ground := Ground.data } (by simp) rfl _ 20 rfl rfl (NE _ (by decide))
      rw [← G sv 20 (by decide) (by decide)] at h1
      refine store_rp (x := bx) (y := by_) (k := 2 * 6) (ac := putAll ac [17, 18, 19, 20, 21, 22, 7, 8, 9] sv) (z := Operand.tmp 20) ?_ ?_ ?_
      · exact (G sv 8 (by decide) (by decide)).trans p1
      · exact h1
      · exact p3
    · obtain rfl : { dst := none, op := Op.store 86 (Operand.tmp 9) (Operand.tmp 22), type := 0, pos := "law.go:46", after := #[{ on := 8, ground := Ground.data }, { on := 5, ground := Ground.data }, { on := 10, ground := Ground.chain }, { on := 0, ground := Ground.phase }, { on := 1, ground := Ground.phase }, { on := 2, ground := Ground.phase }, { on := 3, ground := Ground.phase }, { on := 4, ground := Ground.phase }, { on := 5, ground := Ground.phase }, { on := 6, ground := Ground.phase }, { on := 7, ground := Ground.phase }, { on := 8, ground := Ground.phase }, { on := 9, ground := Ground.phase }, { on := 10, ground := Ground.phase }], guard := none } = os := Option.some.inj hos
      have h1 : VRP (cx) (cy) (2 * 6) (sv 22) w' := hf { on := 5, ground := Ground.data } (by simp) rfl _ 22 rfl rfl (NE _ (by decide))
      rw [← G sv 22 (by decide) (by decide)] at h1
      refine store_rp (x := cx) (y := cy) (k := 2 * 6) (ac := putAll ac [17, 18, 19, 20, 21, 22, 7, 8, 9] sv) (z := Operand.tmp 22) ?_ ?_ ?_
      · exact (G sv 9 (by decide) (by decide)).trans p1
      · exact h1
      · exact p3
  · intro sv w' J0 hF hB hap
    obtain ⟨g0, cs0, p0, r0, b0, ⟨s0, A0, n0, c0, B0, m0, d0, t0, E0, i0, e0, F0, j0, f0, rfl, h0⟩⟩ := hB (B0_plins ax ay) (List.Mem.head _)
    obtain ⟨g1, cs1, p1, r1, b1, ⟨s1, A1, n1, c1, B1, m1, d1, t1, E1, i1, e1, F1, j1, f1, rfl, h1⟩⟩ := hB (B1_plins bx by_) (List.Mem.tail _ (List.Mem.head _))
    obtain ⟨g2, cs2, p2, r2, b2, ⟨s2, A2, n2, c2, B2, m2, d2, t2, E2, i2, e2, F2, j2, f2, rfl, h2⟩⟩ := hB (B2_plins cx cy) (List.Mem.tail _ (List.Mem.tail _ (List.Mem.head _)))
    have p0' : sv 7 = .pointer (some ⟨g0, 0, none⟩) := p0
    have p1' : sv 8 = .pointer (some ⟨g1, 0, none⟩) := p1
    have p2' : sv 9 = .pointer (some ⟨g2, 0, none⟩) := p2
    exact hend sv w' g0 _ _ _ _ _ _ _ _ _ _ _ _ _ _ g1 _ _ _ _ _ _ _ _ _ _ _ _ _ _ g2 _ _ _ _ _ _ _ _ _ _ _ _ _ _ h0 b0.at_ r0 p0' h1 b1.at_ r1 p1' h2 b2.at_ r2 p2' (fun q => hap (B1_plins bx by_) (List.Mem.tail _ (List.Mem.head _)) (B0_plins ax ay) (List.Mem.head _) (show (8 : Nat) ≠ 7 by decide) (by rw [show (B1_plins bx by_).tA = 8 from rfl, show (B0_plins ax ay).tA = 7 from rfl, p1', p0', q])) (fun q => hap (B2_plins cx cy) (List.Mem.tail _ (List.Mem.tail _ (List.Mem.head _))) (B0_plins ax ay) (List.Mem.head _) (show (9 : Nat) ≠ 7 by decide) (by rw [show (B2_plins cx cy).tA = 9 from rfl, show (B0_plins ax ay).tA = 7 from rfl, p2', p0', q])) (fun q => hap (B2_plins cx cy) (List.Mem.tail _ (List.Mem.tail _ (List.Mem.head _))) (B1_plins bx by_) (List.Mem.tail _ (List.Mem.head _)) (show (9 : Nat) ≠ 8 by decide) (by rw [show (B2_plins cx cy).tA = 9 from rfl, show (B1_plins bx by_).tA = 8 from rfl, p2', p1', q]))  J0
set_option maxRecDepth 100000 in
set_option maxHeartbeats 4000000 in
theorem places_l {w : World} {s_p t_p : Bool} {A_p B_p E_p F_p : Option Addr} {n_p c_p m_p d_p i_p e_p j_p f_p : Nat} {s_q t_q : Bool} {A_q B_q E_q F_q : Option Addr} {n_q c_q m_q d_q i_q e_q j_q f_q : Nat} {s_r t_r : Bool} {A_r B_r E_r F_r : Option Addr} {n_r c_r m_r d_r i_r e_r j_r f_r : Nat} (h : ¬ (((n_p ≤ 6 ∧ m_p ≤ 6) ∧ i_p ≤ 6 ∧ j_p ≤ 6) ∧ ((n_q ≤ 6 ∧ m_q ≤ 6) ∧ i_q ≤ 6 ∧ j_q ≤ 6) ∧ ((n_r ≤ 6 ∧ m_r ≤ 6) ∧ i_r ≤ 6 ∧ j_r ≤ 6))) :
    Calls Tryz.prog 10 #[.agg #[.bool s_p, .slice A_p n_p c_p, .slice B_p m_p d_p, .bool t_p, .slice E_p i_p e_p, .slice F_p j_p f_p], .agg #[.bool s_q, .slice A_q n_q c_q, .slice B_q m_q d_q, .bool t_q, .slice E_q i_q e_q, .slice F_q j_q f_q], .agg #[.bool s_r, .slice A_r n_r c_r, .slice B_r m_r d_r, .bool t_r, .slice E_r i_r e_r, .slice F_r j_r f_r]] w fun e w' => e = .returned (.bool true) ∧ Below w.heap.size w w' := by
  have HL : Hid (decide (((n_p ≤ 6 ∧ m_p ≤ 6) ∧ i_p ≤ 6 ∧ j_p ≤ 6) ∧ ((n_q ≤ 6 ∧ m_q ≤ 6) ∧ i_q ≤ 6 ∧ j_q ≤ 6) ∧ ((n_r ≤ 6 ∧ m_r ≤ 6) ∧ i_r ≤ 6 ∧ j_r ≤ 6)) = false) := decide_eq_false h
  clear h
  go_enter Tryz.func10, Tryz.ntmps10
  go_wp2_with fail
  generalize hW : ((((w.alloc (Obj.cells #[Value.bool s_p, Value.slice A_p n_p c_p, Value.slice B_p m_p d_p, Value.bool t_p, Value.slice E_p i_p e_p, Value.slice F_p j_p f_p] 83)).alloc (Obj.cells #[Value.bool s_q, Value.slice A_q n_q c_q, Value.slice B_q m_q d_q, Value.bool t_q, Value.slice E_q i_q e_q, Value.slice F_q j_q f_q] 83)).alloc (Obj.cells #[Value.bool s_r, Value.slice A_r n_r c_r, Value.slice B_r m_r d_r, Value.bool t_r, Value.slice E_r i_r e_r, Value.slice F_r j_r f_r] 83)).alloc (Obj.cells #[Value.bool s_p, Value.slice A_p n_p c_p, Value.slice B_p m_p d_p, Value.bool t_p, Value.slice E_p i_p e_p, Value.slice F_p j_p f_p, Value.bool s_q, Value.slice A_q n_q c_q, Value.slice B_q m_q d_q, Value.bool t_q, Value.slice E_q i_q e_q, Value.slice F_q j_q f_q, Value.bool s_r, Value.slice A_r n_r c_r, Value.slice B_r m_r d_r, Value.bool t_r, Value.slice E_r i_r e_r, Value.slice F_r j_r f_r] 83)) = W
  have hb : Below w.heap.size w W := by subst hW; exact (((((Below.refl _ _).alloc (Nat.le_refl _) _).alloc (by simp) _).alloc (by simp; omega) _).alloc (by simp; omega) _)
  have XA : B6 W (w.heap.size) (Value.bool s_p) (Value.slice A_p n_p c_p) (Value.slice B_p m_p d_p) (Value.bool t_p) (Value.slice E_p i_p e_p) (Value.slice F_p j_p f_p) := by subst hW; exact (((B6.new' _ _ _ _ _ _ _ _ rfl).alloc _).alloc _).alloc _
  have XB : B6 W (w.heap.size + 1) (Value.bool s_q) (Value.slice A_q n_q c_q) (Value.slice B_q m_q d_q) (Value.bool t_q) (Value.slice E_q i_q e_q) (Value.slice F_q j_q f_q) := by subst hW; exact ((B6.new' _ _ _ _ _ _ _ _ (by simp)).alloc _).alloc _
  have XC : B6 W (w.heap.size + 1 + 1) (Value.bool s_r) (Value.slice A_r n_r c_r) (Value.slice B_r m_r d_r) (Value.bool t_r) (Value.slice E_r i_r e_r) (Value.slice F_r j_r f_r) := by subst hW; exact (B6.new' _ _ _ _ _ _ _ _ (by simp)).alloc _
  have XL : BL3 W (w.heap.size + 1 + 1 + 1) (Value.bool s_p) (Value.slice A_p n_p c_p) (Value.slice B_p m_p d_p) (Value.bool t_p) (Value.slice E_p i_p e_p) (Value.slice F_p j_p f_p) (Value.bool s_q) (Value.slice A_q n_q c_q) (Value.slice B_q m_q d_q) (Value.bool t_q) (Value.slice E_q i_q e_q) (Value.slice F_q j_q f_q) (Value.bool s_r) (Value.slice A_r n_r c_r) (Value.slice B_r m_r d_r) (Value.bool t_r) (Value.slice E_r i_r e_r) (Value.slice F_r j_r f_r) := by subst hW; exact BL3.new' _ _ _ _ _ _ _ _ _ _ _ _ _ _ _ _ _ _ _ _ (by simp)
  have hzW : W.heap.size = w.heap.size + 4 := by subst hW; simp
  clear hW
  go_wp2_with (first
      | (go_at_call 66; (with_reducible refine (fair3 XL false HL.out).mono ?_); rintro e w_z ⟨rfl, hh⟩
         replace hb := bend hb hh)
      | (go_at_call 67; (with_reducible refine (pwakes_any _).mono ?_); rintro e w_z ⟨rfl, hh⟩
         replace hb := bend hb hh))
  go_ret
  exact ⟨rfl, hb⟩
set_option maxRecDepth 100000 in
set_option maxHeartbeats 16000000 in
theorem places_s {w : World} {s_p t_p : Bool} {A_p B_p E_p F_p : Option Addr} {n_p c_p m_p d_p i_p e_p j_p f_p : Nat} {s_q t_q : Bool} {A_q B_q E_q F_q : Option Addr} {n_q c_q m_q d_q i_q e_q j_q f_q : Nat} {s_r t_r : Bool} {A_r B_r E_r F_r : Option Addr} {n_r c_r m_r d_r i_r e_r j_r f_r : Nat} {ax ay bx by_ cx cy : Rat} (p : PR w s_p A_p n_p c_p B_p m_p d_p t_p E_p i_p e_p F_p j_p f_p ax ay 6) (q : PR w s_q A_q n_q c_q B_q m_q d_q t_q E_q i_q e_q F_q j_q f_q bx by_ 6) (r : PR w s_r A_r n_r c_r B_r m_r d_r t_r E_r i_r e_r F_r j_r f_r cx cy 6) (h : (((n_p ≤ 6 ∧ m_p ≤ 6) ∧ i_p ≤ 6 ∧ j_p ≤ 6) ∧ ((n_q ≤ 6 ∧ m_q ≤ 6) ∧ i_q ≤ 6 ∧ j_q ≤ 6) ∧ ((n_r ≤ 6 ∧ m_r ≤ 6) ∧ i_r ≤ 6 ∧ j_r ≤ 6))) :
    Calls Tryz.prog 10 #[.agg #[.bool s_p, .slice A_p n_p c_p, .slice B_p m_p d_p, .bool t_p, .slice E_p i_p e_p, .slice F_p j_p f_p], .agg #[.bool s_q, .slice A_q n_q c_q, .slice B_q m_q d_q, .bool t_q, .slice E_q i_q e_q, .slice F_q j_q f_q], .agg #[.bool s_r, .slice A_r n_r c_r, .slice B_r m_r d_r, .bool t_r, .slice E_r i_r e_r, .slice F_r j_r f_r]] w fun e w' => e = .returned (.bool true) ∧ Below w.heap.size w w' := by
  have HL : Hid (decide (((n_p ≤ 6 ∧ m_p ≤ 6) ∧ i_p ≤ 6 ∧ j_p ≤ 6) ∧ ((n_q ≤ 6 ∧ m_q ≤ 6) ∧ i_q ≤ 6 ∧ j_q ≤ 6) ∧ ((n_r ≤ 6 ∧ m_r ≤ 6) ∧ i_r ≤ 6 ∧ j_r ≤ 6)) = true) := decide_eq_true h
  obtain ⟨K, hK⟩ : ∃ K, orientQ ax ay bx by_ cx cy = K := ⟨_, rfl⟩
  have H1 := Lib.hid hK
  have H2 : Hid (sgnQ ((bx - ax) * (cy - ay) - (by_ - ay) * (cx - ax)) = K) := by show _ = _; rw [← hK]; unfold orientQ; rw [cmp_sub]
  have H3 : Hid (farQ ax ay bx by_ = (ax - bx) * (ax - bx) + (ay - by_) * (ay - by_)) := by show _ = _; unfold farQ; grind
  clear h hK
  go_enter Tryz.func10, Tryz.ntmps10
  go_wp2_with fail
  generalize hW : ((((w.alloc (Obj.cells #[Value.bool s_p, Value.slice A_p n_p c_p, Value.slice B_p m_p d_p, Value.bool t_p, Value.slice E_p i_p e_p, Value.slice F_p j_p f_p] 83)).alloc (Obj.cells #[Value.bool s_q, Value.slice A_q n_q c_q, Value.slice B_q m_q d_q, Value.bool t_q, Value.slice E_q i_q e_q, Value.slice F_q j_q f_q] 83)).alloc (Obj.cells #[Value.bool s_r, Value.slice A_r n_r c_r, Value.slice B_r m_r d_r, Value.bool t_r, Value.slice E_r i_r e_r, Value.slice F_r j_r f_r] 83)).alloc (Obj.cells #[Value.bool s_p, Value.slice A_p n_p c_p, Value.slice B_p m_p d_p, Value.bool t_p, Value.slice E_p i_p e_p, Value.slice F_p j_p f_p, Value.bool s_q, Value.slice A_q n_q c_q, Value.slice B_q m_q d_q, Value.bool t_q, Value.slice E_q i_q e_q, Value.slice F_q j_q f_q, Value.bool s_r, Value.slice A_r n_r c_r, Value.slice B_r m_r d_r, Value.bool t_r, Value.slice E_r i_r e_r, Value.slice F_r j_r f_r] 83)) = W
  have hb : Below w.heap.size w W := by subst hW; exact (((((Below.refl _ _).alloc (Nat.le_refl _) _).alloc (by simp) _).alloc (by simp; omega) _).alloc (by simp; omega) _)
  have XA : B6 W (w.heap.size) (Value.bool s_p) (Value.slice A_p n_p c_p) (Value.slice B_p m_p d_p) (Value.bool t_p) (Value.slice E_p i_p e_p) (Value.slice F_p j_p f_p) := by subst hW; exact (((B6.new' _ _ _ _ _ _ _ _ rfl).alloc _).alloc _).alloc _
  have XB : B6 W (w.heap.size + 1) (Value.bool s_q) (Value.slice A_q n_q c_q) (Value.slice B_q m_q d_q) (Value.bool t_q) (Value.slice E_q i_q e_q) (Value.slice F_q j_q f_q) := by subst hW; exact ((B6.new' _ _ _ _ _ _ _ _ (by simp)).alloc _).alloc _
  have XC : B6 W (w.heap.size + 1 + 1) (Value.bool s_r) (Value.slice A_r n_r c_r) (Value.slice B_r m_r d_r) (Value.bool t_r) (Value.slice E_r i_r e_r) (Value.slice F_r j_r f_r) := by subst hW; exact (B6.new' _ _ _ _ _ _ _ _ (by simp)).alloc _
  have XL : BL3 W (w.heap.size + 1 + 1 + 1) (Value.bool s_p) (Value.slice A_p n_p c_p) (Value.slice B_p m_p d_p) (Value.bool t_p) (Value.slice E_p i_p e_p) (Value.slice F_p j_p f_p) (Value.bool s_q) (Value.slice A_q n_q c_q) (Value.slice B_q m_q d_q) (Value.bool t_q) (Value.slice E_q i_q e_q) (Value.slice F_q j_q f_q) (Value.bool s_r) (Value.slice A_r n_r c_r) (Value.slice B_r m_r d_r) (Value.bool t_r) (Value.slice E_r i_r e_r) (Value.slice F_r j_r f_r) := by subst hW; exact BL3.new' _ _ _ _ _ _ _ _ _ _ _ _ _ _ _ _ _ _ _ _ (by simp)
  have hzW : W.heap.size = w.heap.size + 4 := by subst hW; simp
  clear hW
  replace p := p.below hb
  replace q := q.below hb
  replace r := r.below hb
  have xa0 := XA.c0
  have xa1 := XA.c1
  have xa2 := XA.c2
  have xa3 := XA.c3
  have xa4 := XA.c4
  have xa5 := XA.c5
  have xb0 := XB.c0
  have xb1 := XB.c1
  have xb2 := XB.c2
  have xb3 := XB.c3
  have xb4 := XB.c4
  have xb5 := XB.c5
  have xc0 := XC.c0
  have xc1 := XC.c1
  have xc2 := XC.c2
  have xc3 := XC.c3
  have xc4 := XC.c4
  have xc5 := XC.c5
  go_upto_region 3 with (first
      | (go_at_call 66; (with_reducible refine (fair3 XL true HL.out).mono ?_); rintro e w_z ⟨rfl, hh⟩
         clear XL
         try replace p := p.below hh
         try replace q := q.below hh
         try replace r := r.below hh
         try replace XA := XA.below hh
         try replace XB := XB.below hh
         try replace XC := XC.below hh
         replace hb := bend hb hh
         have xa0 := XA.c0
         have xa1 := XA.c1
         have xa2 := XA.c2
         have xa3 := XA.c3
         have xa4 := XA.c4
         have xa5 := XA.c5
         have xb0 := XB.c0
         have xb1 := XB.c1
         have xb2 := XB.c2
         have xb3 := XB.c3
         have xb4 := XB.c4
         have xb5 := XB.c5
         have xc0 := XC.c0
         have xc1 := XC.c1
         have xc2 := XC.c2
         have xc3 := XC.c3
         have xc4 := XC.c4
         have xc5 := XC.c5))
  refine plins_region (by simp) rfl rfl rfl XA XB XC p q r ?_
  intro V1 w_b g_x s_x A_x n_x c_x B_x m_x d_x t_x E_x i_x e_x F_x j_x f_x g_y s_y A_y n_y c_y B_y m_y d_y t_y E_y i_y e_y F_y j_y f_y g_u s_u A_u n_u c_u B_u m_u d_u t_u E_u i_u e_u F_u j_u f_u x X7 hg_x hvx y Y7 hg_y hvy u U7 hg_u hvu hne hne2 hne3 hh
  simp only [putAll, Act.put, List.setIfInBounds_toArray, List.set_cons_zero, List.set_cons_succ, hvx, hvy, hvu]
  clear hvx hvy hvu
  replace p := p.below hh
  replace q := q.below hh
  replace r := r.below hh
  replace XA := XA.below hh
  replace XB := XB.below hh
  replace XC := XC.below hh
  replace hb := bend hb hh
  go_upto_region 4 with (fail)
  replace p := p.below (Below.refl _ _).drew
  replace q := q.below (Below.refl _ _).drew
  replace r := r.below (Below.refl _ _).drew
  replace x := x.below (Below.refl _ _).drew
  replace y := y.below (Below.refl _ _).drew
  replace u := u.below (Below.refl _ _).drew
  replace XA := XA.below (Below.refl _ _).drew
  replace XB := XB.below (Below.refl _ _).drew
  replace XC := XC.below (Below.refl _ _).drew
  replace X7 := X7.below (Below.refl _ _).drew
  replace Y7 := Y7.below (Below.refl _ _).drew
  replace U7 := U7.below (Below.refl _ _).drew
  replace hb := hb.drew
  go_region_held3 (fun w' => w'.cell? ⟨w.heap.size, 0, none⟩ = some (.bool s_p) ∧ w'.cell? ⟨w.heap.size, 1, none⟩ = some (.slice A_p n_p c_p) ∧ w'.cell? ⟨w.heap.size, 2, none⟩ = some (.slice B_p m_p d_p) ∧ w'.cell? ⟨w.heap.size, 3, none⟩ = some (.bool t_p) ∧ w'.cell? ⟨w.heap.size, 4, none⟩ = some (.slice E_p i_p e_p) ∧ w'.cell? ⟨w.heap.size, 5, none⟩ = some (.slice F_p j_p f_p) ∧ w'.cell? ⟨w.heap.size + 1, 0, none⟩ = some (.bool s_q) ∧ w'.cell? ⟨w.heap.size + 1, 1, none⟩ = some (.slice A_q n_q c_q) ∧ w'.cell? ⟨w.heap.size + 1, 2, none⟩ = some (.slice B_q m_q d_q) ∧ w'.cell? ⟨w.heap.size + 1, 3, none⟩ = some (.bool t_q) ∧ w'.cell? ⟨w.heap.size + 1, 4, none⟩ = some (.slice E_q i_q e_q) ∧ w'.cell? ⟨w.heap.size + 1, 5, none⟩ = some (.slice F_q j_q f_q) ∧ w'.cell? ⟨w.heap.size + 1 + 1, 0, none⟩ = some (.bool s_r) ∧ w'.cell? ⟨w.heap.size + 1 + 1, 1, none⟩ = some (.slice A_r n_r c_r) ∧ w'.cell? ⟨w.heap.size + 1 + 1, 2, none⟩ = some (.slice B_r m_r d_r) ∧ w'.cell? ⟨w.heap.size + 1 + 1, 3, none⟩ = some (.bool t_r) ∧ w'.cell? ⟨w.heap.size + 1 + 1, 4, none⟩ = some (.slice E_r i_r e_r) ∧ w'.cell? ⟨w.heap.size + 1 + 1, 5, none⟩ = some (.slice F_r j_r f_r) ∧ w'.cell? ⟨g_x, 0, none⟩ = some (.bool s_x) ∧ w'.cell? ⟨g_x, 1, none⟩ = some (.slice A_x n_x c_x) ∧ w'.cell? ⟨g_x, 2, none⟩ = some (.slice B_x m_x d_x) ∧ w'.cell? ⟨g_x, 3, none⟩ = some (.bool t_x) ∧ w'.cell? ⟨g_x, 4, none⟩ = some (.slice E_x i_x e_x) ∧ w'.cell? ⟨g_x, 5, none⟩ = some (.slice F_x j_x f_x) ∧ w'.cell? ⟨g_y, 0, none⟩ = some (.bool s_y) ∧ w'.cell? ⟨g_y, 1, none⟩ = some (.slice A_y n_y c_y) ∧ w'.cell? ⟨g_y, 2, none⟩ = some (.slice B_y m_y d_y) ∧ w'.cell? ⟨g_y, 3, none⟩ = some (.bool t_y) ∧ w'.cell? ⟨g_y, 4, none⟩ = some (.slice E_y i_y e_y) ∧ w'.cell? ⟨g_y, 5, none⟩ = some (.slice F_y j_y f_y) ∧ w'.cell? ⟨g_u, 0, none⟩ = some (.bool s_u) ∧ w'.cell? ⟨g_u, 1, none⟩ = some (.slice A_u n_u c_u) ∧ w'.cell? ⟨g_u, 2, none⟩ = some (.slice B_u m_u d_u) ∧ w'.cell? ⟨g_u, 3, none⟩ = some (.bool t_u) ∧ w'.cell? ⟨g_u, 4, none⟩ = some (.slice E_u i_u e_u) ∧ w'.cell? ⟨g_u, 5, none⟩ = some (.slice F_u j_u f_u))
    (first | with_reducible exact ⟨XA.c0, XA.c1, XA.c2, XA.c3, XA.c4, XA.c5, XB.c0, XB.c1, XB.c2, XB.c3, XB.c4, XB.c5, XC.c0, XC.c1, XC.c2, XC.c3, XC.c4, XC.c5, X7.c0, X7.c1, X7.c2, X7.c3, X7.c4, X7.c5, Y7.c0, Y7.c1, Y7.c2, Y7.c3, Y7.c4, Y7.c5, U7.c0, U7.c1, U7.c2, U7.c3, U7.c4, U7.c5⟩)
    (first
    | (go_at_call 88; (with_reducible refine (porient_p p q r (by decide) (by decide)).mono ?_); rintro e w_z ⟨rfl, hh⟩
       rw [H1.out]
       try replace p := p.below hh
       try replace q := q.below hh
       try replace r := r.below hh
       try replace x := x.below hh
       try replace y := y.below hh
       try replace u := u.below hh
       try replace XA := XA.below hh
       try replace XB := XB.below hh
       try replace XC := XC.below hh
       try replace X7 := X7.below hh
       try replace Y7 := Y7.below hh
       try replace U7 := U7.below hh
       replace hb := bend hb hh)
    | (go_at_call 89; (with_reducible refine (rorient6 x y u (by decide) K H2.out).mono ?_); rintro e w_z ⟨rfl, hh⟩
       try replace p := p.below hh
       try replace q := q.below hh
       try replace r := r.below hh
       try replace x := x.below hh
       try replace y := y.below hh
       try replace u := u.below hh
       try replace XA := XA.below hh
       try replace XB := XB.below hh
       try replace XC := XC.below hh
       try replace X7 := X7.below hh
       try replace Y7 := Y7.below hh
       try replace U7 := U7.below hh
       replace hb := bend hb hh)
    | (go_at_call 90; (with_reducible refine (pfar_p p q (by decide) (by decide) (by decide)).mono ?_); rintro e w_f ⟨s_f, A_f, n_f, c_f, B_f, m_f, d_f, rfl, f, hh⟩
       try replace p := p.below hh
       try replace q := q.below hh
       try replace r := r.below hh
       try replace x := x.below hh
       try replace y := y.below hh
       try replace u := u.below hh
       try replace XA := XA.below hh
       try replace XB := XB.below hh
       try replace XC := XC.below hh
       try replace X7 := X7.below hh
       try replace Y7 := Y7.below hh
       try replace U7 := U7.below hh
       replace hb := bend hb hh)
    | (go_at_call 91; (with_reducible refine (rfar6 x y (by decide) (by decide)).mono ?_); rintro e w_g ⟨s_g, A_g, n_g, c_g, B_g, m_g, d_g, rfl, g, hh⟩
       try replace p := p.below hh
       try replace q := q.below hh
       try replace r := r.below hh
       try replace x := x.below hh
       try replace y := y.below hh
       try replace u := u.below hh
       try replace XA := XA.below hh
       try replace XB := XB.below hh
       try replace XC := XC.below hh
       try replace X7 := X7.below hh
       try replace Y7 := Y7.below hh
       try replace U7 := U7.below hh
       try replace f := f.below hh
       replace hb := bend hb hh)
    | (go_at_call 20; (with_reducible refine (same3 f g H3.out (by decide) (by decide)).mono ?_); rintro e w_z ⟨rfl, hh⟩
       try replace p := p.below hh
       try replace q := q.below hh
       try replace r := r.below hh
       try replace x := x.below hh
       try replace y := y.below hh
       try replace u := u.below hh
       try replace XA := XA.below hh
       try replace XB := XB.below hh
       try replace XC := XC.below hh
       try replace X7 := X7.below hh
       try replace Y7 := Y7.below hh
       try replace U7 := U7.below hh
       replace hb := bend hb hh
       clear f g)
    | (go_at_call 92; (with_reducible refine (ptoseg_p p q r (by decide) (by decide) (by decide) (by decide)).mono ?_); rintro e w_h ⟨s_h, A_h, n_h, c_h, B_h, m_h, d_h, rfl, h, hh⟩
       try replace p := p.below hh
       try replace q := q.below hh
       try replace r := r.below hh
       try replace x := x.below hh
       try replace y := y.below hh
       try replace u := u.below hh
       try replace XA := XA.below hh
       try replace XB := XB.below hh
       try replace XC := XC.below hh
       try replace X7 := X7.below hh
       try replace Y7 := Y7.below hh
       try replace U7 := U7.below hh
       replace hb := bend hb hh)
    | (go_at_call 93; (with_reducible refine (rtoseg6 x y u (by decide)).mono ?_); rintro e w_k ⟨s_k, A_k, n_k, c_k, B_k, m_k, d_k, rfl, k, hh⟩
       try replace p := p.below hh
       try replace q := q.below hh
       try replace r := r.below hh
       try replace x := x.below hh
       try replace y := y.below hh
       try replace u := u.below hh
       try replace XA := XA.below hh
       try replace XB := XB.below hh
       try replace XC := XC.below hh
       try replace X7 := X7.below hh
       try replace Y7 := Y7.below hh
       try replace U7 := U7.below hh
       try replace h := h.below hh
       replace hb := bend hb hh)
    | (go_at_call 20; (with_reducible refine (same3 h k rfl (by decide) (by decide)).mono ?_); rintro e w_z ⟨rfl, hh⟩
       try replace p := p.below hh
       try replace q := q.below hh
       try replace r := r.below hh
       try replace x := x.below hh
       try replace y := y.below hh
       try replace u := u.below hh
       try replace XA := XA.below hh
       try replace XB := XB.below hh
       try replace XC := XC.below hh
       try replace X7 := X7.below hh
       try replace Y7 := Y7.below hh
       try replace U7 := U7.below hh
       replace hb := bend hb hh
       clear h k)
    | (go_at_call 67; (with_reducible refine (pwakes_any _).mono ?_); rintro e w_z ⟨rfl, hh⟩
       try replace XA := XA.below hh
       try replace XB := XB.below hh
       try replace XC := XC.below hh
       try replace X7 := X7.below hh
       try replace Y7 := Y7.below hh
       try replace U7 := U7.below hh
       replace hb := bend hb hh))
  go_wp2_with fail
  go_ret
  exact ⟨rfl, hb⟩
theorem law_places {w : World} {s_p t_p : Bool} {A_p B_p E_p F_p : Option Addr} {n_p c_p m_p d_p i_p e_p j_p f_p : Nat} {s_q t_q : Bool} {A_q B_q E_q F_q : Option Addr} {n_q c_q m_q d_q i_q e_q j_q f_q : Nat} {s_r t_r : Bool} {A_r B_r E_r F_r : Option Addr} {n_r c_r m_r d_r i_r e_r j_r f_r : Nat} {lap lbp lcp ldp : List Nat} {laq lbq lcq ldq : List Nat} {lar lbr lcr ldr : List Nat} (ap : Rd .u64 w A_p n_p lap) (bp : Rd .u64 w B_p m_p lbp) (up : Rd .u64 w E_p i_p lcp) (vp : Rd .u64 w F_p j_p ldp) (tap : Lim B64 lap) (tbp : Lim B64 lbp) (tcp : Lim B64 lcp) (tdp : Lim B64 ldp) (cap : n_p ≤ c_p) (cbp : m_p ≤ d_p) (ccp : i_p ≤ e_p) (cdp : j_p ≤ f_p) (aq : Rd .u64 w A_q n_q laq) (bq : Rd .u64 w B_q m_q lbq) (uq : Rd .u64 w E_q i_q lcq) (vq : Rd .u64 w F_q j_q ldq) (taq : Lim B64 laq) (tbq : Lim B64 lbq) (tcq : Lim B64 lcq) (tdq : Lim B64 ldq) (caq : n_q ≤ c_q) (cbq : m_q ≤ d_q) (ccq : i_q ≤ e_q) (cdq : j_q ≤ f_q) (ar : Rd .u64 w A_r n_r lar) (br : Rd .u64 w B_r m_r lbr) (ur : Rd .u64 w E_r i_r lcr) (vr : Rd .u64 w F_r j_r ldr) (tar : Lim B64 lar) (tbr : Lim B64 lbr) (tcr : Lim B64 lcr) (tdr : Lim B64 ldr) (car : n_r ≤ c_r) (cbr : m_r ≤ d_r) (ccr : i_r ≤ e_r) (cdr : j_r ≤ f_r) :
    Calls Tryz.prog 10 #[.agg #[.bool s_p, .slice A_p n_p c_p, .slice B_p m_p d_p, .bool t_p, .slice E_p i_p e_p, .slice F_p j_p f_p], .agg #[.bool s_q, .slice A_q n_q c_q, .slice B_q m_q d_q, .bool t_q, .slice E_q i_q e_q, .slice F_q j_q f_q], .agg #[.bool s_r, .slice A_r n_r c_r, .slice B_r m_r d_r, .bool t_r, .slice E_r i_r e_r, .slice F_r j_r f_r]] w fun e w' => e = .returned (.bool true) ∧ Below w.heap.size w w' := by
  by_cases h : (((n_p ≤ 6 ∧ m_p ≤ 6) ∧ i_p ≤ 6 ∧ j_p ≤ 6) ∧ ((n_q ≤ 6 ∧ m_q ≤ 6) ∧ i_q ≤ 6 ∧ j_q ≤ 6) ∧ ((n_r ≤ 6 ∧ m_r ≤ 6) ∧ i_r ≤ 6 ∧ j_r ≤ 6))
  · have p : PR w s_p A_p n_p c_p B_p m_p d_p t_p E_p i_p e_p F_p j_p f_p (mkRat (iv s_p (val B64 lap)) (den1 (val B64 lbp))) (mkRat (iv t_p (val B64 lcp)) (den1 (val B64 ldp))) 6 := ⟨QR.of_rd ap tap cap bp tbp cbp h.1.1.1 h.1.1.2, QR.of_rd up tcp ccp vp tdp cdp h.1.2.1 h.1.2.2⟩
    have q : PR w s_q A_q n_q c_q B_q m_q d_q t_q E_q i_q e_q F_q j_q f_q (mkRat (iv s_q (val B64 laq)) (den1 (val B64 lbq))) (mkRat (iv t_q (val B64 lcq)) (den1 (val B64 ldq))) 6 := ⟨QR.of_rd aq taq caq bq tbq cbq h.2.1.1.1 h.2.1.1.2, QR.of_rd uq tcq ccq vq tdq cdq h.2.1.2.1 h.2.1.2.2⟩
    have r : PR w s_r A_r n_r c_r B_r m_r d_r t_r E_r i_r e_r F_r j_r f_r (mkRat (iv s_r (val B64 lar)) (den1 (val B64 lbr))) (mkRat (iv t_r (val B64 lcr)) (den1 (val B64 ldr))) 6 := ⟨QR.of_rd ar tar car br tbr cbr h.2.2.1.1 h.2.2.1.2, QR.of_rd ur tcr ccr vr tdr cdr h.2.2.2.1 h.2.2.2.2⟩
    exact places_s p q r h
  · exact places_l h
end Go.Proofs.YtlkjkhpjhllapaaGreat
