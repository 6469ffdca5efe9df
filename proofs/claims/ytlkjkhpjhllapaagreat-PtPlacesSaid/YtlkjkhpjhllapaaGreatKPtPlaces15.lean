/- PtPlaces: part 15. -/
import Derived.Test.YtlkjkhpjhllapaaGreatKPtPlaces12
import Derived.Test.YtlkjkhpjhllapaaGreatKPtPlaces14
set_option linter.unusedVariables false
namespace Go.Proofs.YtlkjkhpjhllapaaGreat
open Go Go.RowKit
def B6R (W : World) (g : Nat) (x y z u v t : Value) : Prop := W.heap[g]? = some (.cells #[x, y, z, u, v, t] 86 (0, 0))
section
variable {W W' : World} {g : Nat} {x y z u v t : Value}
theorem B6R.c0 (h : B6R W g x y z u v t) : W.cell? ⟨g, 0, none⟩ = some x := by rw [cell_of_row W g 0 _ _ (0, 0) h]; rfl
theorem B6R.c1 (h : B6R W g x y z u v t) : W.cell? ⟨g, 1, none⟩ = some y := by rw [cell_of_row W g 1 _ _ (0, 0) h]; rfl
theorem B6R.c2 (h : B6R W g x y z u v t) : W.cell? ⟨g, 2, none⟩ = some z := by rw [cell_of_row W g 2 _ _ (0, 0) h]; rfl
theorem B6R.c3 (h : B6R W g x y z u v t) : W.cell? ⟨g, 3, none⟩ = some u := by rw [cell_of_row W g 3 _ _ (0, 0) h]; rfl
theorem B6R.c4 (h : B6R W g x y z u v t) : W.cell? ⟨g, 4, none⟩ = some v := by rw [cell_of_row W g 4 _ _ (0, 0) h]; rfl
theorem B6R.c5 (h : B6R W g x y z u v t) : W.cell? ⟨g, 5, none⟩ = some t := by rw [cell_of_row W g 5 _ _ (0, 0) h]; rfl
theorem B6R.f0 (h : B6R W g x y z u v t) : W.frozen? ⟨g, 0, none⟩ = false := frozen_of_row W g 0 _ _ h
theorem B6R.f1 (h : B6R W g x y z u v t) : W.frozen? ⟨g, 1, none⟩ = false := frozen_of_row W g 1 _ _ h
theorem B6R.f2 (h : B6R W g x y z u v t) : W.frozen? ⟨g, 2, none⟩ = false := frozen_of_row W g 2 _ _ h
theorem B6R.f3 (h : B6R W g x y z u v t) : W.frozen? ⟨g, 3, none⟩ = false := frozen_of_row W g 3 _ _ h
theorem B6R.f4 (h : B6R W g x y z u v t) : W.frozen? ⟨g, 4, none⟩ = false := frozen_of_row W g 4 _ _ h
theorem B6R.f5 (h : B6R W g x y z u v t) : W.frozen? ⟨g, 5, none⟩ = false := frozen_of_row W g 5 _ _ h
theorem B6R.lt (h : B6R W g x y z u v t) : g < W.heap.size := World.block_lt_of_cell? W _ h.c0
theorem B6R.below (h : B6R W g x y z u v t) (hb : Below W.heap.size W W') : B6R W' g x y z u v t := (hb.block g h.lt).trans h
theorem B6R.alloc (h : B6R W g x y z u v t) (o : Obj) : B6R (W.alloc o) g x y z u v t := (Below.heap_alloc W o g h.lt).trans h
theorem B6R.new' (W : World) (x y z u v t : Value) (g : Nat) (hg : g = W.heap.size) : B6R (W.alloc (.cells #[x, y, z, u, v, t] 86)) g x y z u v t := by subst hg; exact heap_alloc_new W _
end
theorem B6R.set6 {W : World} {g : Nat} {x y z u v t : Value} (h : B6R W g x y z u v t) (a b c d e f : Value) : B6R ((((((W.setCell ⟨g, 0, none⟩ a).setCell ⟨g, 1, none⟩ b).setCell ⟨g, 2, none⟩ c).setCell ⟨g, 3, none⟩ d).setCell ⟨g, 4, none⟩ e).setCell ⟨g, 5, none⟩ f) g a b c d e f := by
  unfold B6R at h ⊢
  simp [World.setCell, Array.getElem?_modify, h]
theorem Rd.off6R {K : IntKind} {W : World} {g : Nat} {s t : Bool} {A A1 A2 A3 A4 : Option Addr} {n n1 c1 n2 c2 n3 c3 n4 c4 : Nat} {l : List Nat} (hr : Rd K W A n l) (h : B6R W g (.bool s) (.slice A1 n1 c1) (.slice A2 n2 c2) (.bool t) (.slice A3 n3 c3) (.slice A4 n4 c4)) : Off A n g := by
  intro hn ad e hg
  obtain ⟨b, o, eA, hc⟩ := hr.at_ hn
  obtain ⟨x, _, hx⟩ := hc 0 hn
  rw [eA] at e
  cases e
  have hg2 : b = g := hg
  subst hg2
  rw [cell_of_row W b (o + 0) _ _ (0, 0) h] at hx
  match o, hx with
  | 0, hx => cases hx
  | 1, hx => cases hx
  | 2, hx => cases hx
  | 3, hx => cases hx
  | 4, hx => cases hx
  | 5, hx => cases hx
  | o + 6, hx => cases hx
def RP (w : World) (s : Bool) (A : Option Addr) (n c : Nat) (B : Option Addr) (m d : Nat) (t : Bool) (E : Option Addr) (i e : Nat) (F : Option Addr) (j f : Nat) (x y : Rat) (k : Nat) : Prop := RQ w s A n c B m d x k ∧ RQ w t E i e F j f y k
def GivesRP (w : World) (x y : Rat) (k : Nat) (en : Ending) (w' : World) : Prop :=
  ∃ s A n c B m d t E i e F j f, en = .returned (.agg #[.bool s, .slice A n c, .slice B m d, .bool t, .slice E i e, .slice F j f]) ∧ RP w' s A n c B m d t E i e F j f x y k ∧ Below w.heap.size w w'
section
variable {w w' : World} {s t : Bool} {A B E F : Option Addr} {n c m d i e j f k k1 : Nat} {x y : Rat}
theorem RP.below (h : RP w s A n c B m d t E i e F j f x y k) (hb : Below w.heap.size w w') : RP w' s A n c B m d t E i e F j f x y k := ⟨h.1.below hb, h.2.below hb⟩
theorem RP.qx (h : RP w s A n c B m d t E i e F j f x y k) : RQ w s A n c B m d x k := h.1
theorem RP.qy (h : RP w s A n c B m d t E i e F j f x y k) : RQ w t E i e F j f y k := h.2
theorem RP.more (h : RP w s A n c B m d t E i e F j f x y k) (hk : k ≤ k1) : RP w s A n c B m d t E i e F j f x y k1 := ⟨h.1.more hk, h.2.more hk⟩
theorem RQ.onl {v : Rat} {g : Nat} (h : RQ w s A n c B m d v k) (h1 : Off A n g) (h2 : Off B m g) (ho : Only g w w') : RQ w' s A n c B m d v k := ⟨h.1.only h1 ho, h.2.only h2 ho⟩
theorem RP.set6 {s0 t0 : Bool} {g : Nat} {A1 A2 A3 A4 : Option Addr} {n1 c1 n2 c2 n3 c3 n4 c4 : Nat} (h : RP w s A n c B m d t E i e F j f x y k) (Z : B6R w g (.bool s0) (.slice A1 n1 c1) (.slice A2 n2 c2) (.bool t0) (.slice A3 n3 c3) (.slice A4 n4 c4)) (a1 a2 a3 a4 a5 a6 : Value) :
    RP ((((((w.setCell ⟨g, 0, none⟩ a1).setCell ⟨g, 1, none⟩ a2).setCell ⟨g, 2, none⟩ a3).setCell ⟨g, 3, none⟩ a4).setCell ⟨g, 4, none⟩ a5).setCell ⟨g, 5, none⟩ a6) s A n c B m d t E i e F j f x y k := by
  have ho : Only g w ((((((w.setCell ⟨g, 0, none⟩ a1).setCell ⟨g, 1, none⟩ a2).setCell ⟨g, 2, none⟩ a3).setCell ⟨g, 3, none⟩ a4).setCell ⟨g, 4, none⟩ a5).setCell ⟨g, 5, none⟩ a6) := ((((((Only.refl g w).setCell 0 _).setCell 1 _).setCell 2 _).setCell 3 _).setCell 4 _).setCell 5 _
  exact ⟨h.1.onl (h.1.1.2.1.off6R Z) (h.1.2.1.off6R Z) ho, h.2.onl (h.2.1.2.1.off6R Z) (h.2.2.1.off6R Z) ho⟩
end
set_option maxRecDepth 100000 in
set_option maxHeartbeats 4000000 in
theorem rof6 (x y : Int) (hx1 : -9223372036854775808 ≤ x) (hx2 : x < 9223372036854775808) (hy1 : -9223372036854775808 ≤ y) (hy2 : y < 9223372036854775808) (w : World) :
    Calls Tryz.prog 162 #[.int .i64 x, .int .i64 y] w (GivesRP w (Rat.divInt x 1) (Rat.divInt y 1) 2) := by
  have H1 := Lib.hid hx1
  have H2 := Lib.hid hx2
  have H3 := Lib.hid hy1
  have H4 := Lib.hid hy2
  clear hx1 hx2 hy1 hy2
  go_enter Tryz.func162, Tryz.ntmps162
  go_upto_region 1 with (fail)
  generalize hW : (w.alloc (Obj.cells #[Value.bool false, Value.slice none 0 0, Value.slice none 0 0, Value.bool false, Value.slice none 0 0, Value.slice none 0 0] 86)) = W
  have hb : Below w.heap.size w W := by subst hW; exact ((Below.refl _ _).alloc (Nat.le_refl _) _)
  have Z : B6R W (w.heap.size) (Value.bool false) (Value.slice none 0 0) (Value.slice none 0 0) (Value.bool false) (Value.slice none 0 0) (Value.slice none 0 0) := by subst hW; exact B6R.new' _ _ _ _ _ _ _ _ rfl
  have hzW : W.heap.size = w.heap.size + 1 := by subst hW; simp
  clear hW
  go_wp2_with (first
      | (go_at_call 55; (with_reducible refine (rof3 x 1 H1.out H2.out (by decide) (by decide) (by decide) _).mono ?_); rintro e w_r ⟨s_r, A_r, n_r, c_r, B_r, m_r, d_r, rfl, r, hh⟩
         try replace Z := Z.below hh
         replace hb := bend hb hh)
      | (go_at_call 55; (with_reducible refine (rof3 y 1 H3.out H4.out (by decide) (by decide) (by decide) _).mono ?_); rintro e w_u ⟨s_u, A_u, n_u, c_u, B_u, m_u, d_u, rfl, u, hh⟩
         try replace Z := Z.below hh
         try replace r := r.below hh
         replace hb := bend hb hh
         have zg0 := Z.f0
         have zg1 := Z.f1
         have zg2 := Z.f2
         have zg3 := Z.f3
         have zg4 := Z.f4
         have zg5 := Z.f5
         have zc0 := Z.c0
         have zc1 := Z.c1
         have zc2 := Z.c2
         have zc3 := Z.c3
         have zc4 := Z.c4
         have zc5 := Z.c5))
  have Z2 := Z.set6 (.bool s_r) (.slice A_r n_r c_r) (.slice B_r m_r d_r) (.bool s_u) (.slice A_u n_u c_u) (.slice B_u m_u d_u)
  have g0 := Z2.c0
  have g1 := Z2.c1
  have g2 := Z2.c2
  have g3 := Z2.c3
  have g4 := Z2.c4
  have g5 := Z2.c5
  refine bodyPost_ret (v := .agg #[.bool s_r, .slice A_r n_r c_r, .slice B_r m_r d_r, .bool s_u, .slice A_u n_u c_u, .slice B_u m_u d_u]) (by simp [results, Tryz.results162, go_sem, g0, g1, g2, g3, g4, g5]) rfl ?_
  exact ⟨_, _, _, _, _, _, _, _, _, _, _, _, _, _, rfl, (show RP _ _ _ _ _ _ _ _ _ _ _ _ _ _ _ _ _ _ from ⟨r, u⟩).set6 Z _ _ _ _ _ _, below_set6 hb (by omega) _ _ _ _ _ _⟩
set_option maxRecDepth 100000 in
set_option maxHeartbeats 4000000 in
theorem rout6 {w : World} {k : Nat} {x y : Rat} {s_p t_p : Bool} {A_p B_p E_p F_p : Option Addr} {n_p c_p m_p d_p i_p e_p j_p f_p : Nat} (p : RP w s_p A_p n_p c_p B_p m_p d_p t_p E_p i_p e_p F_p j_p f_p x y k) (hk : k ≤ 100000) (K : Nat) (h1 : x.num.natAbs < B64 ^ K) (h2 : x.den < B64 ^ K) (h3 : y.num.natAbs < B64 ^ K) (h4 : y.den < B64 ^ K) :
    Calls Tryz.prog 71 #[.agg #[.bool s_p, .slice A_p n_p c_p, .slice B_p m_p d_p, .bool t_p, .slice E_p i_p e_p, .slice F_p j_p f_p]] w (GivesPt w x y K) := by
  have H1 := Lib.hid h1
  have H2 := Lib.hid h2
  have H3 := Lib.hid h3
  have H4 := Lib.hid h4
  clear h1 h2 h3 h4
  go_enter Tryz.func71, Tryz.ntmps71
  go_upto_region 1 with (fail)
  generalize hW : ((w.alloc (Obj.cells #[Value.bool s_p, Value.slice A_p n_p c_p, Value.slice B_p m_p d_p, Value.bool t_p, Value.slice E_p i_p e_p, Value.slice F_p j_p f_p] 86)).alloc (Obj.cells #[Value.bool false, Value.slice none 0 0, Value.slice none 0 0, Value.bool false, Value.slice none 0 0, Value.slice none 0 0] 83)) = W
  have hb : Below w.heap.size w W := by subst hW; exact (((Below.refl _ _).alloc (Nat.le_refl _) _).alloc (by simp) _)
  have XA : B6R W (w.heap.size) (Value.bool s_p) (Value.slice A_p n_p c_p) (Value.slice B_p m_p d_p) (Value.bool t_p) (Value.slice E_p i_p e_p) (Value.slice F_p j_p f_p) := by subst hW; exact (B6R.new' _ _ _ _ _ _ _ _ rfl).alloc _
  have Z : B6 W (w.heap.size + 1) (Value.bool false) (Value.slice none 0 0) (Value.slice none 0 0) (Value.bool false) (Value.slice none 0 0) (Value.slice none 0 0) := by subst hW; exact B6.new' _ _ _ _ _ _ _ _ (by simp)
  have hzW : W.heap.size = w.heap.size + 2 := by subst hW; simp
  clear hW
  replace p := p.below hb
  replace p := p.below (Below.refl _ _).drew
  replace XA := XA.below (Below.refl _ _).drew
  replace Z := Z.below (Below.refl _ _).drew
  replace hb := hb.drew
  go_region_held3 (fun w' => w'.cell? ⟨w.heap.size, 0, none⟩ = some (.bool s_p) ∧ w'.cell? ⟨w.heap.size, 1, none⟩ = some (.slice A_p n_p c_p) ∧ w'.cell? ⟨w.heap.size, 2, none⟩ = some (.slice B_p m_p d_p) ∧ w'.cell? ⟨w.heap.size, 3, none⟩ = some (.bool t_p) ∧ w'.cell? ⟨w.heap.size, 4, none⟩ = some (.slice E_p i_p e_p) ∧ w'.cell? ⟨w.heap.size, 5, none⟩ = some (.slice F_p j_p f_p))
    (first | with_reducible exact ⟨XA.c0, XA.c1, XA.c2, XA.c3, XA.c4, XA.c5⟩ | with_reducible exact ⟨(set6_cell _ _ _ _ _ _ _ _ _ _ (by omega)).trans XA.c0, (set6_cell _ _ _ _ _ _ _ _ _ _ (by omega)).trans XA.c1, (set6_cell _ _ _ _ _ _ _ _ _ _ (by omega)).trans XA.c2, (set6_cell _ _ _ _ _ _ _ _ _ _ (by omega)).trans XA.c3, (set6_cell _ _ _ _ _ _ _ _ _ _ (by omega)).trans XA.c4, (set6_cell _ _ _ _ _ _ _ _ _ _ (by omega)).trans XA.c5⟩)
    (first
    | (go_at_call 37; (with_reducible refine (rout3g p.qx hk K H1.out H2.out).mono ?_); rintro e w_r ⟨s_r, A_r, n_r, c_r, B_r, m_r, d_r, rfl, r, hh⟩
       try replace p := p.below hh
       try replace XA := XA.below hh
       try replace Z := Z.below hh
       replace hb := bend hb hh)
    | (go_at_call 37; (with_reducible refine (rout3g p.qy hk K H3.out H4.out).mono ?_); rintro e w_u ⟨s_u, A_u, n_u, c_u, B_u, m_u, d_u, rfl, u, hh⟩
       try replace p := p.below hh
       try replace r := r.below hh
       try replace XA := XA.below hh
       try replace Z := Z.below hh
       replace hb := bend hb hh
       have zg0 := Z.f0
       have zg1 := Z.f1
       have zg2 := Z.f2
       have zg3 := Z.f3
       have zg4 := Z.f4
       have zg5 := Z.f5
       have zc0 := Z.c0
       have zc1 := Z.c1
       have zc2 := Z.c2
       have zc3 := Z.c3
       have zc4 := Z.c4
       have zc5 := Z.c5))
  go_wp2_with fail
  have Z2 := Z.set6 (.bool s_r) (.slice A_r n_r c_r) (.slice B_r m_r d_r) (.bool s_u) (.slice A_u n_u c_u) (.slice B_u m_u d_u)
  have g0 := Z2.c0
  have g1 := Z2.c1
  have g2 := Z2.c2
  have g3 := Z2.c3
  have g4 := Z2.c4
  have g5 := Z2.c5
  refine bodyPost_ret (v := .agg #[.bool s_r, .slice A_r n_r c_r, .slice B_r m_r d_r, .bool s_u, .slice A_u n_u c_u, .slice B_u m_u d_u]) (by simp [results, Tryz.results71, go_sem, g0, g1, g2, g3, g4, g5]) rfl ?_
  exact ⟨_, _, _, _, _, _, _, _, _, _, _, _, _, _, rfl, (show PG _ _ _ _ _ _ _ _ _ _ _ _ _ _ _ _ _ _ from ⟨r, u⟩).set6 Z _ _ _ _ _ _, below_set6 hb (by omega) _ _ _ _ _ _⟩
theorem int_fits {x : Int} (h1 : -9223372036854775808 ≤ x) (h2 : x < 9223372036854775808) : (Rat.divInt x 1).num.natAbs < B64 ^ 1 ∧ (Rat.divInt x 1).den < B64 ^ 1 := by
  rw [(int_parts x).1, (int_parts x).2, Nat.pow_one]
  have : B64 = 18446744073709551616 := rfl
  omega
set_option maxRecDepth 100000 in
set_option maxHeartbeats 4000000 in
theorem lawP (x y : Int) (hx1 : -9223372036854775808 ≤ x) (hx2 : x < 9223372036854775808) (hy1 : -9223372036854775808 ≤ y) (hy2 : y < 9223372036854775808) (w : World) :
    Calls Tryz.prog 94 #[.int .i64 x, .int .i64 y] w (GivesPt w (Rat.divInt x 1) (Rat.divInt y 1) 1) := by
  have HX := Lib.hid (int_fits hx1 hx2)
  have HY := Lib.hid (int_fits hy1 hy2)
  have H1 := Lib.hid hx1
  have H2 := Lib.hid hx2
  have H3 := Lib.hid hy1
  have H4 := Lib.hid hy2
  clear hx1 hx2 hy1 hy2
  go_enter Tryz.func94, Tryz.ntmps94
  go_upto_region 1 with (fail)
  generalize hW : (w.alloc (Obj.cells #[Value.bool false, Value.slice none 0 0, Value.slice none 0 0, Value.bool false, Value.slice none 0 0, Value.slice none 0 0] 83)) = W
  have hb : Below w.heap.size w W := by subst hW; exact ((Below.refl _ _).alloc (Nat.le_refl _) _)
  have Z : B6 W (w.heap.size) (Value.bool false) (Value.slice none 0 0) (Value.slice none 0 0) (Value.bool false) (Value.slice none 0 0) (Value.slice none 0 0) := by subst hW; exact B6.new' _ _ _ _ _ _ _ _ rfl
  have hzW : W.heap.size = w.heap.size + 1 := by subst hW; simp
  clear hW
  go_wp2_with (first
      | (go_at_call 162; (with_reducible refine (rof6 x y H1.out H2.out H3.out H4.out _).mono ?_); rintro e w_r ⟨s_r, A_r, n_r, c_r, B_r, m_r, d_r, t_r, E_r, i_r, e_r, F_r, j_r, f_r, rfl, r, hh⟩
         try replace Z := Z.below hh
         replace hb := bend hb hh)
      | (go_at_call 71; (with_reducible refine (rout6 r (by decide) 1 HX.out.1 HX.out.2 HY.out.1 HY.out.2).mono ?_); rintro e w_u ⟨s_u, A_u, n_u, c_u, B_u, m_u, d_u, t_u, E_u, i_u, e_u, F_u, j_u, f_u, rfl, u, hh⟩
         try replace Z := Z.below hh
         replace hb := bend hb hh
         have zg0 := Z.f0
         have zg1 := Z.f1
         have zg2 := Z.f2
         have zg3 := Z.f3
         have zg4 := Z.f4
         have zg5 := Z.f5
         have zc0 := Z.c0
         have zc1 := Z.c1
         have zc2 := Z.c2
         have zc3 := Z.c3
         have zc4 := Z.c4
         have zc5 := Z.c5))
  have Z2 := Z.set6 (.bool s_u) (.slice A_u n_u c_u) (.slice B_u m_u d_u) (.bool t_u) (.slice E_u i_u e_u) (.slice F_u j_u f_u)
  have g0 := Z2.c0
  have g1 := Z2.c1
  have g2 := Z2.c2
  have g3 := Z2.c3
  have g4 := Z2.c4
  have g5 := Z2.c5
  refine bodyPost_ret (v := .agg #[.bool s_u, .slice A_u n_u c_u, .slice B_u m_u d_u, .bool t_u, .slice E_u i_u e_u, .slice F_u j_u f_u]) (by simp [results, Tryz.results94, go_sem, g0, g1, g2, g3, g4, g5]) rfl ?_
  exact ⟨s_u, A_u, n_u, c_u, B_u, m_u, d_u, t_u, E_u, i_u, e_u, F_u, j_u, f_u, rfl, u.set6 Z _ _ _ _ _ _, below_set6 hb (by omega) _ _ _ _ _ _⟩
set_option maxRecDepth 100000 in
set_option maxHeartbeats 4000000 in
theorem smallpt_f {w : World} {s_p t_p : Bool} {A_p B_p E_p F_p : Option Addr} {n_p c_p m_p d_p i_p e_p j_p f_p : Nat} (h : ¬ (n_p ≤ 6 ∧ m_p ≤ 6)) :
    Calls Tryz.prog 198 #[.agg #[.bool s_p, .slice A_p n_p c_p, .slice B_p m_p d_p, .bool t_p, .slice E_p i_p e_p, .slice F_p j_p f_p], .int .i64 6] w fun e w' => e = .returned (.bool false) ∧ Below w.heap.size w w' := by
  have HL : Hid (decide (n_p ≤ 6 ∧ m_p ≤ 6) = false) := decide_eq_false h
  clear h
  go_enter Tryz.func198, Tryz.ntmps198
  go_wp2_with fail
  generalize hW : (w.alloc (Obj.cells #[Value.bool s_p, Value.slice A_p n_p c_p, Value.slice B_p m_p d_p, Value.bool t_p, Value.slice E_p i_p e_p, Value.slice F_p j_p f_p] 83)) = W
  have hb : Below w.heap.size w W := by subst hW; exact ((Below.refl _ _).alloc (Nat.le_refl _) _)
  have XA : B6 W (w.heap.size) (Value.bool s_p) (Value.slice A_p n_p c_p) (Value.slice B_p m_p d_p) (Value.bool t_p) (Value.slice E_p i_p e_p) (Value.slice F_p j_p f_p) := by subst hW; exact B6.new' _ _ _ _ _ _ _ _ rfl
  have hzW : W.heap.size = w.heap.size + 1 := by subst hW; simp
  clear hW
  have xa0 := XA.c0
  have xa1 := XA.c1
  have xa2 := XA.c2
  have xa3 := XA.c3
  have xa4 := XA.c4
  have xa5 := XA.c5
  go_wp2_with (first
      | (go_at_call 46; (with_reducible refine (small_6 (s := s_p) (A := A_p) (n := n_p) (c := c_p) (A' := B_p) (n' := m_p) (c' := d_p) _ false HL.out).mono ?_); rintro e w_z ⟨rfl, hh⟩
         try replace XA := XA.below hh
         replace hb := bend hb hh
         have xa0 := XA.c0
         have xa1 := XA.c1
         have xa2 := XA.c2
         have xa3 := XA.c3
         have xa4 := XA.c4
         have xa5 := XA.c5))
  go_ret
  exact ⟨rfl, hb⟩
set_option maxRecDepth 100000 in
set_option maxHeartbeats 4000000 in
theorem smallpt_t {w : World} {s_p t_p : Bool} {A_p B_p E_p F_p : Option Addr} {n_p c_p m_p d_p i_p e_p j_p f_p : Nat} (h : n_p ≤ 6 ∧ m_p ≤ 6) :
    Calls Tryz.prog 198 #[.agg #[.bool s_p, .slice A_p n_p c_p, .slice B_p m_p d_p, .bool t_p, .slice E_p i_p e_p, .slice F_p j_p f_p], .int .i64 6] w fun e w' => e = .returned (.bool (decide (i_p ≤ 6 ∧ j_p ≤ 6))) ∧ Below w.heap.size w w' := by
  have HL : Hid (decide (n_p ≤ 6 ∧ m_p ≤ 6) = true) := decide_eq_true h
  obtain ⟨M, hM⟩ : ∃ M, decide (i_p ≤ 6 ∧ j_p ≤ 6) = M := ⟨_, rfl⟩
  have HM := Lib.hid hM
  rw [hM]
  clear hM
  clear h
  go_enter Tryz.func198, Tryz.ntmps198
  go_wp2_with fail
  generalize hW : (w.alloc (Obj.cells #[Value.bool s_p, Value.slice A_p n_p c_p, Value.slice B_p m_p d_p, Value.bool t_p, Value.slice E_p i_p e_p, Value.slice F_p j_p f_p] 83)) = W
  have hb : Below w.heap.size w W := by subst hW; exact ((Below.refl _ _).alloc (Nat.le_refl _) _)
  have XA : B6 W (w.heap.size) (Value.bool s_p) (Value.slice A_p n_p c_p) (Value.slice B_p m_p d_p) (Value.bool t_p) (Value.slice E_p i_p e_p) (Value.slice F_p j_p f_p) := by subst hW; exact B6.new' _ _ _ _ _ _ _ _ rfl
  have hzW : W.heap.size = w.heap.size + 1 := by subst hW; simp
  clear hW
  have xa0 := XA.c0
  have xa1 := XA.c1
  have xa2 := XA.c2
  have xa3 := XA.c3
  have xa4 := XA.c4
  have xa5 := XA.c5
  go_wp2_with (first
      | (go_at_call 46; (with_reducible refine (small_6 (s := s_p) (A := A_p) (n := n_p) (c := c_p) (A' := B_p) (n' := m_p) (c' := d_p) _ true HL.out).mono ?_); rintro e w_z ⟨rfl, hh⟩
         try replace XA := XA.below hh
         replace hb := bend hb hh
         have xa0 := XA.c0
         have xa1 := XA.c1
         have xa2 := XA.c2
         have xa3 := XA.c3
         have xa4 := XA.c4
         have xa5 := XA.c5)
      | (go_at_call 46; (with_reducible refine (small_6 (s := t_p) (A := E_p) (n := i_p) (c := e_p) (A' := F_p) (n' := j_p) (c' := f_p) _ M HM.out).mono ?_); rintro e w_z ⟨rfl, hh⟩
         try replace XA := XA.below hh
         replace hb := bend hb hh
         have xa0 := XA.c0
         have xa1 := XA.c1
         have xa2 := XA.c2
         have xa3 := XA.c3
         have xa4 := XA.c4
         have xa5 := XA.c5))
  go_ret
  exact ⟨rfl, hb⟩
theorem smallpt_6 {w : World} {s_p t_p : Bool} {A_p B_p E_p F_p : Option Addr} {n_p c_p m_p d_p i_p e_p j_p f_p : Nat} (L : Bool) (hL : decide ((n_p ≤ 6 ∧ m_p ≤ 6) ∧ i_p ≤ 6 ∧ j_p ≤ 6) = L) :
    Calls Tryz.prog 198 #[.agg #[.bool s_p, .slice A_p n_p c_p, .slice B_p m_p d_p, .bool t_p, .slice E_p i_p e_p, .slice F_p j_p f_p], .int .i64 6] w fun e w' => e = .returned (.bool L) ∧ Below w.heap.size w w' := by
  subst hL
  by_cases h : n_p ≤ 6 ∧ m_p ≤ 6
  · have e : decide (i_p ≤ 6 ∧ j_p ≤ 6) = decide ((n_p ≤ 6 ∧ m_p ≤ 6) ∧ i_p ≤ 6 ∧ j_p ≤ 6) := by simp [h]
    rw [← e]; exact smallpt_t h
  · have e : false = decide ((n_p ≤ 6 ∧ m_p ≤ 6) ∧ i_p ≤ 6 ∧ j_p ≤ 6) := by simp [h]
    rw [← e]; exact smallpt_f h
def BL2 (W : World) (g : Nat) (v0 : Value) (v1 : Value) (v2 : Value) (v3 : Value) (v4 : Value) (v5 : Value) (v6 : Value) (v7 : Value) (v8 : Value) (v9 : Value) (v10 : Value) (v11 : Value) : Prop := W.heap[g]? = some (.cells #[v0, v1, v2, v3, v4, v5, v6, v7, v8, v9, v10, v11] 83 (0, 0))
section
variable {W W' : World} {g : Nat} {v0 v1 v2 v3 v4 v5 v6 v7 v8 v9 v10 v11 : Value}
theorem BL2.c0 (h : BL2 W g v0 v1 v2 v3 v4 v5 v6 v7 v8 v9 v10 v11) : W.cell? ⟨g, 0, none⟩ = some v0 := by rw [cell_of_row W g 0 _ _ (0, 0) h]; rfl
theorem BL2.c1 (h : BL2 W g v0 v1 v2 v3 v4 v5 v6 v7 v8 v9 v10 v11) : W.cell? ⟨g, 1, none⟩ = some v1 := by rw [cell_of_row W g 1 _ _ (0, 0) h]; rfl
theorem BL2.c2 (h : BL2 W g v0 v1 v2 v3 v4 v5 v6 v7 v8 v9 v10 v11) : W.cell? ⟨g, 2, none⟩ = some v2 := by rw [cell_of_row W g 2 _ _ (0, 0) h]; rfl
theorem BL2.c3 (h : BL2 W g v0 v1 v2 v3 v4 v5 v6 v7 v8 v9 v10 v11) : W.cell? ⟨g, 3, none⟩ = some v3 := by rw [cell_of_row W g 3 _ _ (0, 0) h]; rfl
theorem BL2.c4 (h : BL2 W g v0 v1 v2 v3 v4 v5 v6 v7 v8 v9 v10 v11) : W.cell? ⟨g, 4, none⟩ = some v4 := by rw [cell_of_row W g 4 _ _ (0, 0) h]; rfl
theorem BL2.c5 (h : BL2 W g v0 v1 v2 v3 v4 v5 v6 v7 v8 v9 v10 v11) : W.cell? ⟨g, 5, none⟩ = some v5 := by rw [cell_of_row W g 5 _ _ (0, 0) h]; rfl
theorem BL2.c6 (h : BL2 W g v0 v1 v2 v3 v4 v5 v6 v7 v8 v9 v10 v11) : W.cell? ⟨g, 6, none⟩ = some v6 := by rw [cell_of_row W g 6 _ _ (0, 0) h]; rfl
theorem BL2.c7 (h : BL2 W g v0 v1 v2 v3 v4 v5 v6 v7 v8 v9 v10 v11) : W.cell? ⟨g, 7, none⟩ = some v7 := by rw [cell_of_row W g 7 _ _ (0, 0) h]; rfl
theorem BL2.c8 (h : BL2 W g v0 v1 v2 v3 v4 v5 v6 v7 v8 v9 v10 v11) : W.cell? ⟨g, 8, none⟩ = some v8 := by rw [cell_of_row W g 8 _ _ (0, 0) h]; rfl
theorem BL2.c9 (h : BL2 W g v0 v1 v2 v3 v4 v5 v6 v7 v8 v9 v10 v11) : W.cell? ⟨g, 9, none⟩ = some v9 := by rw [cell_of_row W g 9 _ _ (0, 0) h]; rfl
theorem BL2.c10 (h : BL2 W g v0 v1 v2 v3 v4 v5 v6 v7 v8 v9 v10 v11) : W.cell? ⟨g, 10, none⟩ = some v10 := by rw [cell_of_row W g 10 _ _ (0, 0) h]; rfl
theorem BL2.c11 (h : BL2 W g v0 v1 v2 v3 v4 v5 v6 v7 v8 v9 v10 v11) : W.cell? ⟨g, 11, none⟩ = some v11 := by rw [cell_of_row W g 11 _ _ (0, 0) h]; rfl
theorem BL2.lt (h : BL2 W g v0 v1 v2 v3 v4 v5 v6 v7 v8 v9 v10 v11) : g < W.heap.size := World.block_lt_of_cell? W _ h.c0
theorem BL2.below (h : BL2 W g v0 v1 v2 v3 v4 v5 v6 v7 v8 v9 v10 v11) (hb : Below W.heap.size W W') : BL2 W' g v0 v1 v2 v3 v4 v5 v6 v7 v8 v9 v10 v11 := (hb.block g h.lt).trans h
theorem BL2.alloc (h : BL2 W g v0 v1 v2 v3 v4 v5 v6 v7 v8 v9 v10 v11) (o : Obj) : BL2 (W.alloc o) g v0 v1 v2 v3 v4 v5 v6 v7 v8 v9 v10 v11 := (Below.heap_alloc W o g h.lt).trans h
end
theorem BL2.new' (W : World) (v0 v1 v2 v3 v4 v5 v6 v7 v8 v9 v10 v11 : Value) (g : Nat) (hg : g = W.heap.size) : BL2 (W.alloc (.cells #[v0, v1, v2, v3, v4, v5, v6, v7, v8, v9, v10, v11] 83)) g v0 v1 v2 v3 v4 v5 v6 v7 v8 v9 v10 v11 := by subst hg; exact heap_alloc_new W _
def BL3 (W : World) (g : Nat) (v0 : Value) (v1 : Value) (v2 : Value) (v3 : Value) (v4 : Value) (v5 : Value) (v6 : Value) (v7 : Value) (v8 : Value) (v9 : Value) (v10 : Value) (v11 : Value) (v12 : Value) (v13 : Value) (v14 : Value) (v15 : Value) (v16 : Value) (v17 : Value) : Prop := W.heap[g]? = some (.cells #[v0, v1, v2, v3, v4, v5, v6, v7, v8, v9, v10, v11, v12, v13, v14, v15, v16, v17] 83 (0, 0))
section
variable {W W' : World} {g : Nat} {v0 v1 v2 v3 v4 v5 v6 v7 v8 v9 v10 v11 v12 v13 v14 v15 v16 v17 : Value}
theorem BL3.c0 (h : BL3 W g v0 v1 v2 v3 v4 v5 v6 v7 v8 v9 v10 v11 v12 v13 v14 v15 v16 v17) : W.cell? ⟨g, 0, none⟩ = some v0 := by rw [cell_of_row W g 0 _ _ (0, 0) h]; rfl
theorem BL3.c1 (h : BL3 W g v0 v1 v2 v3 v4 v5 v6 v7 v8 v9 v10 v11 v12 v13 v14 v15 v16 v17) : W.cell? ⟨g, 1, none⟩ = some v1 := by rw [cell_of_row W g 1 _ _ (0, 0) h]; rfl
theorem BL3.c2 (h : BL3 W g v0 v1 v2 v3 v4 v5 v6 v7 v8 v9 v10 v11 v12 v13 v14 v15 v16 v17) : W.cell? ⟨g, 2, none⟩ = some v2 := by rw [cell_of_row W g 2 _ _ (0, 0) h]; rfl
theorem BL3.c3 (h : BL3 W g v0 v1 v2 v3 v4 v5 v6 v7 v8 v9 v10 v11 v12 v13 v14 v15 v16 v17) : W.cell? ⟨g, 3, none⟩ = some v3 := by rw [cell_of_row W g 3 _ _ (0, 0) h]; rfl
theorem BL3.c4 (h : BL3 W g v0 v1 v2 v3 v4 v5 v6 v7 v8 v9 v10 v11 v12 v13 v14 v15 v16 v17) : W.cell? ⟨g, 4, none⟩ = some v4 := by rw [cell_of_row W g 4 _ _ (0, 0) h]; rfl
theorem BL3.c5 (h : BL3 W g v0 v1 v2 v3 v4 v5 v6 v7 v8 v9 v10 v11 v12 v13 v14 v15 v16 v17) : W.cell? ⟨g, 5, none⟩ = some v5 := by rw [cell_of_row W g 5 _ _ (0, 0) h]; rfl
theorem BL3.c6 (h : BL3 W g v0 v1 v2 v3 v4 v5 v6 v7 v8 v9 v10 v11 v12 v13 v14 v15 v16 v17) : W.cell? ⟨g, 6, none⟩ = some v6 := by rw [cell_of_row W g 6 _ _ (0, 0) h]; rfl
theorem BL3.c7 (h : BL3 W g v0 v1 v2 v3 v4 v5 v6 v7 v8 v9 v10 v11 v12 v13 v14 v15 v16 v17) : W.cell? ⟨g, 7, none⟩ = some v7 := by rw [cell_of_row W g 7 _ _ (0, 0) h]; rfl
theorem BL3.c8 (h : BL3 W g v0 v1 v2 v3 v4 v5 v6 v7 v8 v9 v10 v11 v12 v13 v14 v15 v16 v17) : W.cell? ⟨g, 8, none⟩ = some v8 := by rw [cell_of_row W g 8 _ _ (0, 0) h]; rfl
theorem BL3.c9 (h : BL3 W g v0 v1 v2 v3 v4 v5 v6 v7 v8 v9 v10 v11 v12 v13 v14 v15 v16 v17) : W.cell? ⟨g, 9, none⟩ = some v9 := by rw [cell_of_row W g 9 _ _ (0, 0) h]; rfl
theorem BL3.c10 (h : BL3 W g v0 v1 v2 v3 v4 v5 v6 v7 v8 v9 v10 v11 v12 v13 v14 v15 v16 v17) : W.cell? ⟨g, 10, none⟩ = some v10 := by rw [cell_of_row W g 10 _ _ (0, 0) h]; rfl
theorem BL3.c11 (h : BL3 W g v0 v1 v2 v3 v4 v5 v6 v7 v8 v9 v10 v11 v12 v13 v14 v15 v16 v17) : W.cell? ⟨g, 11, none⟩ = some v11 := by rw [cell_of_row W g 11 _ _ (0, 0) h]; rfl
theorem BL3.c12 (h : BL3 W g v0 v1 v2 v3 v4 v5 v6 v7 v8 v9 v10 v11 v12 v13 v14 v15 v16 v17) : W.cell? ⟨g, 12, none⟩ = some v12 := by rw [cell_of_row W g 12 _ _ (0, 0) h]; rfl
theorem BL3.c13 (h : BL3 W g v0 v1 v2 v3 v4 v5 v6 v7 v8 v9 v10 v11 v12 v13 v14 v15 v16 v17) : W.cell? ⟨g, 13, none⟩ = some v13 := by rw [cell_of_row W g 13 _ _ (0, 0) h]; rfl
theorem BL3.c14 (h : BL3 W g v0 v1 v2 v3 v4 v5 v6 v7 v8 v9 v10 v11 v12 v13 v14 v15 v16 v17) : W.cell? ⟨g, 14, none⟩ = some v14 := by rw [cell_of_row W g 14 _ _ (0, 0) h]; rfl
theorem BL3.c15 (h : BL3 W g v0 v1 v2 v3 v4 v5 v6 v7 v8 v9 v10 v11 v12 v13 v14 v15 v16 v17) : W.cell? ⟨g, 15, none⟩ = some v15 := by rw [cell_of_row W g 15 _ _ (0, 0) h]; rfl
theorem BL3.c16 (h : BL3 W g v0 v1 v2 v3 v4 v5 v6 v7 v8 v9 v10 v11 v12 v13 v14 v15 v16 v17) : W.cell? ⟨g, 16, none⟩ = some v16 := by rw [cell_of_row W g 16 _ _ (0, 0) h]; rfl
theorem BL3.c17 (h : BL3 W g v0 v1 v2 v3 v4 v5 v6 v7 v8 v9 v10 v11 v12 v13 v14 v15 v16 v17) : W.cell? ⟨g, 17, none⟩ = some v17 := by rw [cell_of_row W g 17 _ _ (0, 0) h]; rfl
theorem BL3.lt (h : BL3 W g v0 v1 v2 v3 v4 v5 v6 v7 v8 v9 v10 v11 v12 v13 v14 v15 v16 v17) : g < W.heap.size := World.block_lt_of_cell? W _ h.c0
theorem BL3.below (h : BL3 W g v0 v1 v2 v3 v4 v5 v6 v7 v8 v9 v10 v11 v12 v13 v14 v15 v16 v17) (hb : Below W.heap.size W W') : BL3 W' g v0 v1 v2 v3 v4 v5 v6 v7 v8 v9 v10 v11 v12 v13 v14 v15 v16 v17 := (hb.block g h.lt).trans h
theorem BL3.alloc (h : BL3 W g v0 v1 v2 v3 v4 v5 v6 v7 v8 v9 v10 v11 v12 v13 v14 v15 v16 v17) (o : Obj) : BL3 (W.alloc o) g v0 v1 v2 v3 v4 v5 v6 v7 v8 v9 v10 v11 v12 v13 v14 v15 v16 v17 := (Below.heap_alloc W o g h.lt).trans h
end
theorem BL3.new' (W : World) (v0 v1 v2 v3 v4 v5 v6 v7 v8 v9 v10 v11 v12 v13 v14 v15 v16 v17 : Value) (g : Nat) (hg : g = W.heap.size) : BL3 (W.alloc (.cells #[v0, v1, v2, v3, v4, v5, v6, v7, v8, v9, v10, v11, v12, v13, v14, v15, v16, v17] 83)) g v0 v1 v2 v3 v4 v5 v6 v7 v8 v9 v10 v11 v12 v13 v14 v15 v16 v17 := by subst hg; exact heap_alloc_new W _
set_option maxRecDepth 100000 in
set_option maxHeartbeats 4000000 in
theorem line3_0 {w : World} {g : Nat} {s_p t_p : Bool} {A_p B_p E_p F_p : Option Addr} {n_p c_p m_p d_p i_p e_p j_p f_p : Nat} {s_q t_q : Bool} {A_q B_q E_q F_q : Option Addr} {n_q c_q m_q d_q i_q e_q j_q f_q : Nat} {s_r t_r : Bool} {A_r B_r E_r F_r : Option Addr} {n_r c_r m_r d_r i_r e_r j_r f_r : Nat} (L : BL3 w g (.bool s_p) (.slice A_p n_p c_p) (.slice B_p m_p d_p) (.bool t_p) (.slice E_p i_p e_p) (.slice F_p j_p f_p) (.bool s_q) (.slice A_q n_q c_q) (.slice B_q m_q d_q) (.bool t_q) (.slice E_q i_q e_q) (.slice F_q j_q f_q) (.bool s_r) (.slice A_r n_r c_r) (.slice B_r m_r d_r) (.bool t_r) (.slice E_r i_r e_r) (.slice F_r j_r f_r)) (h0 : decide ((n_p ≤ 6 ∧ m_p ≤ 6) ∧ i_p ≤ 6 ∧ j_p ≤ 6) = false) :
    Calls Tryz.prog 154 #[.slice (some ⟨g, 0, none⟩) 3 3, .int .i64 6] w fun e w' => e = .returned (.bool false) ∧ Below w.heap.size w w' := by
  have H0 := Lib.hid h0
  clear h0
  have hb : Below w.heap.size w w := Below.refl _ _
  have l0 := L.c0
  have l1 := L.c1
  have l2 := L.c2
  have l3 := L.c3
  have l4 := L.c4
  have l5 := L.c5
  have l6 := L.c6
  have l7 := L.c7
  have l8 := L.c8
  have l9 := L.c9
  have l10 := L.c10
  have l11 := L.c11
  have l12 := L.c12
  have l13 := L.c13
  have l14 := L.c14
  have l15 := L.c15
  have l16 := L.c16
  have l17 := L.c17
  go_enter Tryz.func154, Tryz.ntmps154
  go_wp2_with fail
  refine wp_loop_rounds 4 ?_
  rw [rounds_succ]
  go_wp2_with (first
      | (go_at_call 198; (with_reducible refine (smallpt_6 (s_p := s_p) (A_p := A_p) (n_p := n_p) (c_p := c_p) (B_p := B_p) (m_p := m_p) (d_p := d_p) (t_p := t_p) (E_p := E_p) (i_p := i_p) (e_p := e_p) (F_p := F_p) (j_p := j_p) (f_p := f_p) false H0.out).mono ?_); rintro e w_z ⟨rfl, hh⟩
         try replace L := L.below hh
         replace hb := bend hb hh
         have l0 := L.c0
         have l1 := L.c1
         have l2 := L.c2
         have l3 := L.c3
         have l4 := L.c4
         have l5 := L.c5
         have l6 := L.c6
         have l7 := L.c7
         have l8 := L.c8
         have l9 := L.c9
         have l10 := L.c10
         have l11 := L.c11
         have l12 := L.c12
         have l13 := L.c13
         have l14 := L.c14
         have l15 := L.c15
         have l16 := L.c16
         have l17 := L.c17))
  go_ret
  exact ⟨rfl, hb⟩
set_option maxRecDepth 100000 in
set_option maxHeartbeats 4000000 in
theorem line3_1 {w : World} {g : Nat} {s_p t_p : Bool} {A_p B_p E_p F_p : Option Addr} {n_p c_p m_p d_p i_p e_p j_p f_p : Nat} {s_q t_q : Bool} {A_q B_q E_q F_q : Option Addr} {n_q c_q m_q d_q i_q e_q j_q f_q : Nat} {s_r t_r : Bool} {A_r B_r E_r F_r : Option Addr} {n_r c_r m_r d_r i_r e_r j_r f_r : Nat} (L : BL3 w g (.bool s_p) (.slice A_p n_p c_p) (.slice B_p m_p d_p) (.bool t_p) (.slice E_p i_p e_p) (.slice F_p j_p f_p) (.bool s_q) (.slice A_q n_q c_q) (.slice B_q m_q d_q) (.bool t_q) (.slice E_q i_q e_q) (.slice F_q j_q f_q) (.bool s_r) (.slice A_r n_r c_r) (.slice B_r m_r d_r) (.bool t_r) (.slice E_r i_r e_r) (.slice F_r j_r f_r)) (h0 : decide ((n_p ≤ 6 ∧ m_p ≤ 6) ∧ i_p ≤ 6 ∧ j_p ≤ 6) = true) (h1 : decide ((n_q ≤ 6 ∧ m_q ≤ 6) ∧ i_q ≤ 6 ∧ j_q ≤ 6) = false) :
    Calls Tryz.prog 154 #[.slice (some ⟨g, 0, none⟩) 3 3, .int .i64 6] w fun e w' => e = .returned (.bool false) ∧ Below w.heap.size w w' := by
  have H0 := Lib.hid h0
  clear h0
  have H1 := Lib.hid h1
  clear h1
  have hb : Below w.heap.size w w := Below.refl _ _
  have l0 := L.c0
  have l1 := L.c1
  have l2 := L.c2
  have l3 := L.c3
  have l4 := L.c4
  have l5 := L.c5
  have l6 := L.c6
  have l7 := L.c7
  have l8 := L.c8
  have l9 := L.c9
  have l10 := L.c10
  have l11 := L.c11
  have l12 := L.c12
  have l13 := L.c13
  have l14 := L.c14
  have l15 := L.c15
  have l16 := L.c16
  have l17 := L.c17
  go_enter Tryz.func154, Tryz.ntmps154
  go_wp2_with fail
  refine wp_loop_rounds 4 ?_
  rw [rounds_succ]
  go_wp2_with (first
      | (go_at_call 198; (with_reducible refine (smallpt_6 (s_p := s_p) (A_p := A_p) (n_p := n_p) (c_p := c_p) (B_p := B_p) (m_p := m_p) (d_p := d_p) (t_p := t_p) (E_p := E_p) (i_p := i_p) (e_p := e_p) (F_p := F_p) (j_p := j_p) (f_p := f_p) true H0.out).mono ?_); rintro e w_z ⟨rfl, hh⟩
         try replace L := L.below hh
         replace hb := bend hb hh
         have l0 := L.c0
         have l1 := L.c1
         have l2 := L.c2
         have l3 := L.c3
         have l4 := L.c4
         have l5 := L.c5
         have l6 := L.c6
         have l7 := L.c7
         have l8 := L.c8
         have l9 := L.c9
         have l10 := L.c10
         have l11 := L.c11
         have l12 := L.c12
         have l13 := L.c13
         have l14 := L.c14
         have l15 := L.c15
         have l16 := L.c16
         have l17 := L.c17))
  rw [rounds_succ]
  go_wp2_with (first
      | (go_at_call 198; (with_reducible refine (smallpt_6 (s_p := s_q) (A_p := A_q) (n_p := n_q) (c_p := c_q) (B_p := B_q) (m_p := m_q) (d_p := d_q) (t_p := t_q) (E_p := E_q) (i_p := i_q) (e_p := e_q) (F_p := F_q) (j_p := j_q) (f_p := f_q) false H1.out).mono ?_); rintro e w_z ⟨rfl, hh⟩
         try replace L := L.below hh
         replace hb := bend hb hh
         have l0 := L.c0
         have l1 := L.c1
         have l2 := L.c2
         have l3 := L.c3
         have l4 := L.c4
         have l5 := L.c5
         have l6 := L.c6
         have l7 := L.c7
         have l8 := L.c8
         have l9 := L.c9
         have l10 := L.c10
         have l11 := L.c11
         have l12 := L.c12
         have l13 := L.c13
         have l14 := L.c14
         have l15 := L.c15
         have l16 := L.c16
         have l17 := L.c17))
  go_ret
  exact ⟨rfl, hb⟩
set_option maxRecDepth 100000 in
set_option maxHeartbeats 4000000 in
theorem line3_2 {w : World} {g : Nat} {s_p t_p : Bool} {A_p B_p E_p F_p : Option Addr} {n_p c_p m_p d_p i_p e_p j_p f_p : Nat} {s_q t_q : Bool} {A_q B_q E_q F_q : Option Addr} {n_q c_q m_q d_q i_q e_q j_q f_q : Nat} {s_r t_r : Bool} {A_r B_r E_r F_r : Option Addr} {n_r c_r m_r d_r i_r e_r j_r f_r : Nat} (L : BL3 w g (.bool s_p) (.slice A_p n_p c_p) (.slice B_p m_p d_p) (.bool t_p) (.slice E_p i_p e_p) (.slice F_p j_p f_p) (.bool s_q) (.slice A_q n_q c_q) (.slice B_q m_q d_q) (.bool t_q) (.slice E_q i_q e_q) (.slice F_q j_q f_q) (.bool s_r) (.slice A_r n_r c_r) (.slice B_r m_r d_r) (.bool t_r) (.slice E_r i_r e_r) (.slice F_r j_r f_r)) (h0 : decide ((n_p ≤ 6 ∧ m_p ≤ 6) ∧ i_p ≤ 6 ∧ j_p ≤ 6) = true) (h1 : decide ((n_q ≤ 6 ∧ m_q ≤ 6) ∧ i_q ≤ 6 ∧ j_q ≤ 6) = true) (h2 : decide ((n_r ≤ 6 ∧ m_r ≤ 6) ∧ i_r ≤ 6 ∧ j_r ≤ 6) = false) :
    Calls Tryz.prog 154 #[.slice (some ⟨g, 0, none⟩) 3 3, .int .i64 6] w fun e w' => e = .returned (.bool false) ∧ Below w.heap.size w w' := by
  have H0 := Lib.hid h0
  clear h0
  have H1 := Lib.hid h1
  clear h1
  have H2 := Lib.hid h2
  clear h2
  have hb : Below w.heap.size w w := Below.refl _ _
  have l0 := L.c0
  have l1 := L.c1
  have l2 := L.c2
  have l3 := L.c3
  have l4 := L.c4
  have l5 := L.c5
  have l6 := L.c6
  have l7 := L.c7
  have l8 := L.c8
  have l9 := L.c9
  have l10 := L.c10
  have l11 := L.c11
  have l12 := L.c12
  have l13 := L.c13
  have l14 := L.c14
  have l15 := L.c15
  have l16 := L.c16
  have l17 := L.c17
  go_enter Tryz.func154, Tryz.ntmps154
  go_wp2_with fail
  refine wp_loop_rounds 4 ?_
  rw [rounds_succ]
  go_wp2_with (first
      | (go_at_call 198; (with_reducible refine (smallpt_6 (s_p := s_p) (A_p := A_p) (n_p := n_p) (c_p := c_p) (B_p := B_p) (m_p := m_p) (d_p := d_p) (t_p := t_p) (E_p := E_p) (i_p := i_p) (e_p := e_p) (F_p := F_p) (j_p := j_p) (f_p := f_p) true H0.out).mono ?_); rintro e w_z ⟨rfl, hh⟩
         try replace L := L.below hh
         replace hb := bend hb hh
         have l0 := L.c0
         have l1 := L.c1
         have l2 := L.c2
         have l3 := L.c3
         have l4 := L.c4
         have l5 := L.c5
         have l6 := L.c6
         have l7 := L.c7
         have l8 := L.c8
         have l9 := L.c9
         have l10 := L.c10
         have l11 := L.c11
         have l12 := L.c12
         have l13 := L.c13
         have l14 := L.c14
         have l15 := L.c15
         have l16 := L.c16
         have l17 := L.c17))
  rw [rounds_succ]
  go_wp2_with (first
      | (go_at_call 198; (with_reducible refine (smallpt_6 (s_p := s_q) (A_p := A_q) (n_p := n_q) (c_p := c_q) (B_p := B_q) (m_p := m_q) (d_p := d_q) (t_p := t_q) (E_p := E_q) (i_p := i_q) (e_p := e_q) (F_p := F_q) (j_p := j_q) (f_p := f_q) true H1.out).mono ?_); rintro e w_z ⟨rfl, hh⟩
         try replace L := L.below hh
         replace hb := bend hb hh
         have l0 := L.c0
         have l1 := L.c1
         have l2 := L.c2
         have l3 := L.c3
         have l4 := L.c4
         have l5 := L.c5
         have l6 := L.c6
         have l7 := L.c7
         have l8 := L.c8
         have l9 := L.c9
         have l10 := L.c10
         have l11 := L.c11
         have l12 := L.c12
         have l13 := L.c13
         have l14 := L.c14
         have l15 := L.c15
         have l16 := L.c16
         have l17 := L.c17))
  rw [rounds_succ]
  go_wp2_with (first
      | (go_at_call 198; (with_reducible refine (smallpt_6 (s_p := s_r) (A_p := A_r) (n_p := n_r) (c_p := c_r) (B_p := B_r) (m_p := m_r) (d_p := d_r) (t_p := t_r) (E_p := E_r) (i_p := i_r) (e_p := e_r) (F_p := F_r) (j_p := j_r) (f_p := f_r) false H2.out).mono ?_); rintro e w_z ⟨rfl, hh⟩
         try replace L := L.below hh
         replace hb := bend hb hh
         have l0 := L.c0
         have l1 := L.c1
         have l2 := L.c2
         have l3 := L.c3
         have l4 := L.c4
         have l5 := L.c5
         have l6 := L.c6
         have l7 := L.c7
         have l8 := L.c8
         have l9 := L.c9
         have l10 := L.c10
         have l11 := L.c11
         have l12 := L.c12
         have l13 := L.c13
         have l14 := L.c14
         have l15 := L.c15
         have l16 := L.c16
         have l17 := L.c17))
  go_ret
  exact ⟨rfl, hb⟩
set_option maxRecDepth 100000 in
set_option maxHeartbeats 4000000 in
theorem line3_3 {w : World} {g : Nat} {s_p t_p : Bool} {A_p B_p E_p F_p : Option Addr} {n_p c_p m_p d_p i_p e_p j_p f_p : Nat} {s_q t_q : Bool} {A_q B_q E_q F_q : Option Addr} {n_q c_q m_q d_q i_q e_q j_q f_q : Nat} {s_r t_r : Bool} {A_r B_r E_r F_r : Option Addr} {n_r c_r m_r d_r i_r e_r j_r f_r : Nat} (L : BL3 w g (.bool s_p) (.slice A_p n_p c_p) (.slice B_p m_p d_p) (.bool t_p) (.slice E_p i_p e_p) (.slice F_p j_p f_p) (.bool s_q) (.slice A_q n_q c_q) (.slice B_q m_q d_q) (.bool t_q) (.slice E_q i_q e_q) (.slice F_q j_q f_q) (.bool s_r) (.slice A_r n_r c_r) (.slice B_r m_r d_r) (.bool t_r) (.slice E_r i_r e_r) (.slice F_r j_r f_r)) (h0 : decide ((n_p ≤ 6 ∧ m_p ≤ 6) ∧ i_p ≤ 6 ∧ j_p ≤ 6) = true) (h1 : decide ((n_q ≤ 6 ∧ m_q ≤ 6) ∧ i_q ≤ 6 ∧ j_q ≤ 6) = true) (h2 : decide ((n_r ≤ 6 ∧ m_r ≤ 6) ∧ i_r ≤ 6 ∧ j_r ≤ 6) = true) :
    Calls Tryz.prog 154 #[.slice (some ⟨g, 0, none⟩) 3 3, .int .i64 6] w fun e w' => e = .returned (.bool true) ∧ Below w.heap.size w w' := by
  have H0 := Lib.hid h0
  clear h0
  have H1 := Lib.hid h1
  clear h1
  have H2 := Lib.hid h2
  clear h2
  have hb : Below w.heap.size w w := Below.refl _ _
  have l0 := L.c0
  have l1 := L.c1
  have l2 := L.c2
  have l3 := L.c3
  have l4 := L.c4
  have l5 := L.c5
  have l6 := L.c6
  have l7 := L.c7
  have l8 := L.c8
  have l9 := L.c9
  have l10 := L.c10
  have l11 := L.c11
  have l12 := L.c12
  have l13 := L.c13
  have l14 := L.c14
  have l15 := L.c15
  have l16 := L.c16
  have l17 := L.c17
  go_enter Tryz.func154, Tryz.ntmps154
  go_wp2_with fail
  refine wp_loop_rounds 4 ?_
  rw [rounds_succ]
  go_wp2_with (first
      | (go_at_call 198; (with_reducible refine (smallpt_6 (s_p := s_p) (A_p := A_p) (n_p := n_p) (c_p := c_p) (B_p := B_p) (m_p := m_p) (d_p := d_p) (t_p := t_p) (E_p := E_p) (i_p := i_p) (e_p := e_p) (F_p := F_p) (j_p := j_p) (f_p := f_p) true H0.out).mono ?_); rintro e w_z ⟨rfl, hh⟩
         try replace L := L.below hh
         replace hb := bend hb hh
         have l0 := L.c0
         have l1 := L.c1
         have l2 := L.c2
         have l3 := L.c3
         have l4 := L.c4
         have l5 := L.c5
         have l6 := L.c6
         have l7 := L.c7
         have l8 := L.c8
         have l9 := L.c9
         have l10 := L.c10
         have l11 := L.c11
         have l12 := L.c12
         have l13 := L.c13
         have l14 := L.c14
         have l15 := L.c15
         have l16 := L.c16
         have l17 := L.c17))
  rw [rounds_succ]
  go_wp2_with (first
      | (go_at_call 198; (with_reducible refine (smallpt_6 (s_p := s_q) (A_p := A_q) (n_p := n_q) (c_p := c_q) (B_p := B_q) (m_p := m_q) (d_p := d_q) (t_p := t_q) (E_p := E_q) (i_p := i_q) (e_p := e_q) (F_p := F_q) (j_p := j_q) (f_p := f_q) true H1.out).mono ?_); rintro e w_z ⟨rfl, hh⟩
         try replace L := L.below hh
         replace hb := bend hb hh
         have l0 := L.c0
         have l1 := L.c1
         have l2 := L.c2
         have l3 := L.c3
         have l4 := L.c4
         have l5 := L.c5
         have l6 := L.c6
         have l7 := L.c7
         have l8 := L.c8
         have l9 := L.c9
         have l10 := L.c10
         have l11 := L.c11
         have l12 := L.c12
         have l13 := L.c13
         have l14 := L.c14
         have l15 := L.c15
         have l16 := L.c16
         have l17 := L.c17))
  rw [rounds_succ]
  go_wp2_with (first
      | (go_at_call 198; (with_reducible refine (smallpt_6 (s_p := s_r) (A_p := A_r) (n_p := n_r) (c_p := c_r) (B_p := B_r) (m_p := m_r) (d_p := d_r) (t_p := t_r) (E_p := E_r) (i_p := i_r) (e_p := e_r) (F_p := F_r) (j_p := j_r) (f_p := f_r) true H2.out).mono ?_); rintro e w_z ⟨rfl, hh⟩
         try replace L := L.below hh
         replace hb := bend hb hh
         have l0 := L.c0
         have l1 := L.c1
         have l2 := L.c2
         have l3 := L.c3
         have l4 := L.c4
         have l5 := L.c5
         have l6 := L.c6
         have l7 := L.c7
         have l8 := L.c8
         have l9 := L.c9
         have l10 := L.c10
         have l11 := L.c11
         have l12 := L.c12
         have l13 := L.c13
         have l14 := L.c14
         have l15 := L.c15
         have l16 := L.c16
         have l17 := L.c17))
  rw [rounds_succ]
  go_wp2_with fail
  go_ret
  exact ⟨rfl, hb⟩
theorem line3 {w : World} {g : Nat} {s_p t_p : Bool} {A_p B_p E_p F_p : Option Addr} {n_p c_p m_p d_p i_p e_p j_p f_p : Nat} {s_q t_q : Bool} {A_q B_q E_q F_q : Option Addr} {n_q c_q m_q d_q i_q e_q j_q f_q : Nat} {s_r t_r : Bool} {A_r B_r E_r F_r : Option Addr} {n_r c_r m_r d_r i_r e_r j_r f_r : Nat} (L : BL3 w g (.bool s_p) (.slice A_p n_p c_p) (.slice B_p m_p d_p) (.bool t_p) (.slice E_p i_p e_p) (.slice F_p j_p f_p) (.bool s_q) (.slice A_q n_q c_q) (.slice B_q m_q d_q) (.bool t_q) (.slice E_q i_q e_q) (.slice F_q j_q f_q) (.bool s_r) (.slice A_r n_r c_r) (.slice B_r m_r d_r) (.bool t_r) (.slice E_r i_r e_r) (.slice F_r j_r f_r)) (R : Bool) (hR : decide (((n_p ≤ 6 ∧ m_p ≤ 6) ∧ i_p ≤ 6 ∧ j_p ≤ 6) ∧ ((n_q ≤ 6 ∧ m_q ≤ 6) ∧ i_q ≤ 6 ∧ j_q ≤ 6) ∧ ((n_r ≤ 6 ∧ m_r ≤ 6) ∧ i_r ≤ 6 ∧ j_r ≤ 6)) = R) :
    Calls Tryz.prog 154 #[.slice (some ⟨g, 0, none⟩) 3 3, .int .i64 6] w fun e w' => e = .returned (.bool R) ∧ Below w.heap.size w w' := by
  subst hR
  by_cases h0 : (n_p ≤ 6 ∧ m_p ≤ 6) ∧ i_p ≤ 6 ∧ j_p ≤ 6
  case neg => rw [decide_eq_false (fun q => h0 q.1)]; exact line3_0 L  (decide_eq_false h0)
  by_cases h1 : (n_q ≤ 6 ∧ m_q ≤ 6) ∧ i_q ≤ 6 ∧ j_q ≤ 6
  case neg => rw [decide_eq_false (fun q => h1 q.2.1)]; exact line3_1 L (decide_eq_true h0) (decide_eq_false h1)
  by_cases h2 : (n_r ≤ 6 ∧ m_r ≤ 6) ∧ i_r ≤ 6 ∧ j_r ≤ 6
  case neg => rw [decide_eq_false (fun q => h2 q.2.2)]; exact line3_2 L (decide_eq_true h0) (decide_eq_true h1) (decide_eq_false h2)
  rw [decide_eq_true ⟨h0, h1, h2⟩]; exact line3_3 L (decide_eq_true h0) (decide_eq_true h1) (decide_eq_true h2)
set_option maxRecDepth 100000 in
set_option maxHeartbeats 4000000 in
theorem fair3 {w : World} {g : Nat} {s_p t_p : Bool} {A_p B_p E_p F_p : Option Addr} {n_p c_p m_p d_p i_p e_p j_p f_p : Nat} {s_q t_q : Bool} {A_q B_q E_q F_q : Option Addr} {n_q c_q m_q d_q i_q e_q j_q f_q : Nat} {s_r t_r : Bool} {A_r B_r E_r F_r : Option Addr} {n_r c_r m_r d_r i_r e_r j_r f_r : Nat} (L : BL3 w g (.bool s_p) (.slice A_p n_p c_p) (.slice B_p m_p d_p) (.bool t_p) (.slice E_p i_p e_p) (.slice F_p j_p f_p) (.bool s_q) (.slice A_q n_q c_q) (.slice B_q m_q d_q) (.bool t_q) (.slice E_q i_q e_q) (.slice F_q j_q f_q) (.bool s_r) (.slice A_r n_r c_r) (.slice B_r m_r d_r) (.bool t_r) (.slice E_r i_r e_r) (.slice F_r j_r f_r)) (R : Bool) (hR : decide (((n_p ≤ 6 ∧ m_p ≤ 6) ∧ i_p ≤ 6 ∧ j_p ≤ 6) ∧ ((n_q ≤ 6 ∧ m_q ≤ 6) ∧ i_q ≤ 6 ∧ j_q ≤ 6) ∧ ((n_r ≤ 6 ∧ m_r ≤ 6) ∧ i_r ≤ 6 ∧ j_r ≤ 6)) = R) :
    Calls Tryz.prog 66 #[.slice (some ⟨g, 0, none⟩) 3 3] w fun e w' => e = .returned (.bool R) ∧ Below w.heap.size w w' := by
  have HR := Lib.hid hR
  clear hR
  have hb : Below w.heap.size w w := Below.refl _ _
  go_enter Tryz.func66, Tryz.ntmps66
  go_wp2_with (first
      | (go_at_call 154; (with_reducible refine (line3 L R HR.out).mono ?_); rintro e w_z ⟨rfl, hh⟩
         replace hb := bend hb hh))
  go_ret
  exact ⟨rfl, hb⟩
end Go.Proofs.YtlkjkhpjhllapaaGreat
