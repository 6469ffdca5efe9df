/- The law ZedAdds: the sum, the difference, the product of any two numbers, their order and signs, whether each is good. -/
import Derived.Test.YtehkgiiiobnkdaaTwoIn
import Derived.Deep.CutRange
import Derived.Deep.Cut
import Derived.Test.YtehkgiiiobnkdaaZedH
namespace Go.Proofs.Ytehkgiiiobnkdaa
open Go.RowKit

set_option maxRecDepth 100000 in
set_option maxHeartbeats 2000000 in
/-- A copy in new memory. -/
theorem keepI_any (s : Bool) (l : List Nat) (A : Option Addr) (n c : Nat) (w : World) (hY : Rd .u64 w A n l) (hA : A = none → c = 0) (hn : n ≤ 100000) :
    Calls Try.prog 11 #[.agg #[.bool s, .slice A n c]] w fun e w' => ∃ A' n' c', e = .returned (.agg #[.bool s, .slice A' n' c']) ∧ Rd .u64 w' A' n' l ∧ n' ≤ c' ∧ Below w.heap.size w w' := by
  have HA := Lib.hid hA
  clear hA
  go_enter Try.func11, Try.ntmps11
  go_wp2_with fail
  generalize hW : ((w.alloc (Obj.cells #[Value.bool s, Value.slice A n c] 24)).alloc (Obj.cells #[Value.bool false, Value.slice none 0 0] 24)) = W
  have hb : Below w.heap.size w W := by subst hW; exact (((Below.refl _ _).alloc (Nat.le_refl _) _).alloc (by simp) _)
  have XB : Bx W w.heap.size (Value.bool s) (Value.slice A n c) := by subst hW; exact (Bx.new w _ _).alloc _
  have Z : Bx W (w.heap.size + 1) (Value.bool false) (Value.slice none 0 0) := by subst hW; exact Bx.new' _ _ _ _ (by simp)
  clear hW
  replace hY := hY.below hb
  replace hY := hY.below (Below.refl _ _).drew
  replace XB := XB.drew
  replace Z := Z.drew
  replace hb := hb.drew
  go_region_held3 (fun w' => w'.cell? ⟨w.heap.size, 0, none⟩ = some (Value.bool s) ∧ w'.cell? ⟨w.heap.size, 1, none⟩ = some (Value.slice A n c))
    (first | with_reducible exact ⟨XB.c0, XB.c1⟩ | with_reducible exact ⟨(set2_cell _ _ _ _ _ _ (by omega)).trans XB.c0, (set2_cell _ _ _ _ _ _ (by omega)).trans XB.c1⟩)
    (first
    | (go_at_call 49; (with_reducible refine (keepNat_any l A n c _ hY HA.out (by omega)).mono ?_); rintro e w1 ⟨A1, n1, c1, rfl, p1, p2, p3, hh⟩
       replace XB := XB.below hh
       replace Z := Z.below hh
       replace hb := bend hb hh
       have r0 := Z.c0
       have r1 := Z.c1
       have r2 := Z.f0
       have r3 := Z.f1))
  go_wp2
  have hf0 := (Z.set2 (.bool s) (.slice A1 n1 c1)).c0
  have hf1 := (Z.set2 (.bool s) (.slice A1 n1 c1)).c1
  refine bodyPost_ret (v := .agg #[.bool s, .slice A1 n1 c1]) (by simp [results, Try.results11, go_sem, hf0, hf1]) rfl ?_
  refine ⟨A1, n1, c1, rfl, ?_, p1, (hb.setCell (by show w.heap.size ≤ _; simp) _).setCell (by show w.heap.size ≤ _; simp) _⟩
  exact p3.rd.only (Z.offx p3.rd) (((Only.refl (w.heap.size + 1) w1).setCell 0 _).setCell 1 _)

theorem goodZ_eq {s : Bool} {la : List Nat} (L : Lim B64 la) : (s == decide (iv s (val B64 la) < 0) && decide (la = limbs B64 (iv s (val B64 la)).natAbs)) = goodZ s la := by
  rw [iv_natAbs]
  unfold goodZ goodB
  by_cases hg : la.getLast? = some 0
  · have hne : la ≠ limbs B64 (val B64 la) := by
      intro h
      have := limbs_last B64_two (val B64 la)
      rw [← h] at this
      exact this hg
    simp [hg, hne]
  · have he := limbs_val B64_two L hg
    have h1 : (la.getLast? != some 0) = true := by simpa using hg
    rw [h1, decide_eq_true he.symm, Bool.and_true, Bool.true_and]
    have hz : la.length = 0 ↔ val B64 la = 0 := by
      constructor
      · intro h; rw [List.length_eq_zero_iff.1 h]; rfl
      · intro h; rw [← he, h, limbs_zero]; rfl
    cases s
    · have : ¬ iv false (val B64 la) < 0 := by simp [iv]
      simp [this]
    · by_cases h0 : val B64 la = 0
      · have h2 := hz.2 h0
        have : ¬ iv true (val B64 la) < 0 := by simp [iv, h0]
        simp [this, h2]
      · have h2 : ¬ la.length = 0 := fun q => h0 (hz.1 q)
        have : iv true (val B64 la) < 0 := by simp [iv]; omega
        simp [this, h2]

set_option maxRecDepth 100000 in
set_option maxHeartbeats 8000000 in
theorem zadds_small (s t : Bool) (la : List Nat) (v u : Int) (A B : Option Addr) (n c' m d : Nat) (w : World) (a : ZR w s A n c' v 40) (b : ZR w t B m d u 40) (ra : Rd .u64 w A n la) (La : Lim B64 la) (hv : v = iv s (val B64 la)) (hA : A = none → c' = 0) (hn : n ≤ 40) (hm : m ≤ 40) (G : Bool) (hG : goodZ s la = G) (KC KS : Int) (hKC : cmpZ v u = KC) (hKS : sgn v = KS) :
    Calls Try.prog 3 #[.agg #[.bool s, .slice A n c'], .agg #[.bool t, .slice B m d]] w fun e w' => e = .returned (.bool true) ∧ Below w.heap.size w w' := by
    have HL1 : Hid (decide (40 < n) = false) := decide_eq_false (by omega)
    have HL2 : Hid (decide (40 < m) = false) := decide_eq_false (by omega)
    have HA := Lib.hid hA
    have HV := Lib.hid hv
    have HG1 : Hid ((s == decide (v < 0) && decide (la = limbs B64 v.natAbs)) = G) := by show _ = _; rw [hv, goodZ_eq La, hG]
    have HG2 := Lib.hid hG
    have HKC := Lib.hid hKC
    have HKS := Lib.hid hKS
    have HLa := Lib.hid La
    have hmx : n ≤ maxLen := by unfold maxLen; omega
    have HMX := Lib.hid hmx
    clear hA hv hG hKC hKS La hmx
    go_enter Try.func3, Try.ntmps3
    go_wp2_with fail
    generalize hW : (w.alloc (Obj.cells #[Value.bool s, Value.slice A n c'] 24)).alloc (Obj.cells #[Value.bool t, Value.slice B m d] 24) = W
    have hb : Below w.heap.size w W := by subst hW; exact ((Below.refl _ _).alloc (Nat.le_refl _) _).alloc (by simp) _
    have XA : Bx W w.heap.size (.bool s) (.slice A n c') := by subst hW; exact (Bx.new w _ _).alloc _
    have XB : Bx W (w.heap.size + 1) (.bool t) (.slice B m d) := by subst hW; exact Bx.new' _ _ _ _ (by simp)
    clear hW
    replace a := a.below hb
    replace b := b.below hb
    replace ra := ra.below hb
    have xa0 := XA.c0
    have xa1 := XA.c1
    have xb0 := XB.c0
    have xb1 := XB.c1
    go_upto_region 3 with (first
      | (go_at_call 8; (refine (large_any s A n c' _).mono ?_); rintro e w_z ⟨rfl, hh⟩
         rw [HL1.out]
         try replace a := a.below hh
         try replace b := b.below hh
         try replace ra := ra.below hh
         try replace ri := ri.below hh
         try replace ai := ai.below hh
         try replace x := x.below hh
         try replace y := y.below hh
         try replace p := p.below hh
         try replace p2 := p2.below hh
         try replace m := m.below hh
         try replace m2 := m2.below hh
         try replace g := g.below hh
         try replace g2 := g2.below hh
         try replace h := h.below hh
         try replace h2 := h2.below hh
         try replace XA := XA.below hh
         try replace XB := XB.below hh
         try replace XX := XX.below hh
         try replace XY := XY.below hh
         try replace XI := XI.below hh
         replace hb := bend hb hh
         have xa0 := XA.c0
         have xa1 := XA.c1
         have xb0 := XB.c0
         have xb1 := XB.c1)
      | (go_at_call 8; (refine (large_any t B m d _).mono ?_); rintro e w_0 ⟨rfl, hh⟩
         rw [HL2.out]
         try replace a := a.below hh
         try replace b := b.below hh
         try replace ra := ra.below hh
         try replace ri := ri.below hh
         try replace ai := ai.below hh
         try replace x := x.below hh
         try replace y := y.below hh
         try replace p := p.below hh
         try replace p2 := p2.below hh
         try replace m := m.below hh
         try replace m2 := m2.below hh
         try replace g := g.below hh
         try replace g2 := g2.below hh
         try replace h := h.below hh
         try replace h2 := h2.below hh
         try replace XA := XA.below hh
         try replace XB := XB.below hh
         try replace XX := XX.below hh
         try replace XY := XY.below hh
         try replace XI := XI.below hh
         replace hb := bend hb hh
         have xa0 := XA.c0
         have xa1 := XA.c1
         have xb0 := XB.c0
         have xb1 := XB.c1))
    refine two_in2 2 3 16 17 18 19 5 6 (by decide) (by decide) (by decide) (by simp) rfl rfl XA XB a b (by omega) (by omega) ?_
    intro V w_x ga gb s_x A_x n_x c_x s_y A_y n_y c_y hv1 hv2 XX XY x y hh
    simp only [putAll, Act.put, List.setIfInBounds_toArray, List.set_cons_zero, List.set_cons_succ, hv1, hv2]
    clear hv1 hv2
    try replace a := a.below hh
    try replace b := b.below hh
    try replace ra := ra.below hh
    try replace ri := ri.below hh
    try replace ai := ai.below hh
    try replace p := p.below hh
    try replace p2 := p2.below hh
    try replace m := m.below hh
    try replace m2 := m2.below hh
    try replace g := g.below hh
    try replace g2 := g2.below hh
    try replace h := h.below hh
    try replace h2 := h2.below hh
    try replace XA := XA.below hh
    try replace XB := XB.below hh
    try replace XI := XI.below hh
    replace hb := bend hb hh
    have xa0 := XA.c0
    have xa1 := XA.c1
    have xb0 := XB.c0
    have xb1 := XB.c1
    have xx0 := XX.c0
    have xx1 := XX.c1
    have xy0 := XY.c0
    have xy1 := XY.c1
    go_upto_region 5 with (first
      | (go_at_call 11; (with_reducible refine (keepI_any s la A n c' _ ra HA.out (by omega)).mono ?_); rintro e w_i ⟨A_i, n_i, c_i, rfl, ri, hnc, hh⟩
         try replace a := a.below hh
         try replace b := b.below hh
         try replace ra := ra.below hh
         try replace ai := ai.below hh
         try replace x := x.below hh
         try replace y := y.below hh
         try replace p := p.below hh
         try replace p2 := p2.below hh
         try replace m := m.below hh
         try replace m2 := m2.below hh
         try replace g := g.below hh
         try replace g2 := g2.below hh
         try replace h := h.below hh
         try replace h2 := h2.below hh
         try replace XA := XA.below hh
         try replace XB := XB.below hh
         try replace XX := XX.below hh
         try replace XY := XY.below hh
         try replace XI := XI.below hh
         replace hb := bend hb hh
         have xa0 := XA.c0
         have xa1 := XA.c1
         have xb0 := XB.c0
         have xb1 := XB.c1
         have xx0 := XX.c0
         have xx1 := XX.c1
         have xy0 := XY.c0
         have xy1 := XY.c1))
    generalize hW2 : w_i.alloc (Obj.cells #[Value.bool s, Value.slice A_i n_i c_i] 24) = W2
    have hh : Below w_i.heap.size w_i W2 := by subst hW2; exact (Below.refl _ _).alloc (Nat.le_refl _) _
    have XI : Bx W2 w_i.heap.size (.bool s) (.slice A_i n_i c_i) := by subst hW2; exact Bx.new w_i _ _
    clear hW2
    try replace a := a.below hh
    try replace b := b.below hh
    try replace ra := ra.below hh
    try replace ri := ri.below hh
    try replace ai := ai.below hh
    try replace x := x.below hh
    try replace y := y.below hh
    try replace p := p.below hh
    try replace p2 := p2.below hh
    try replace m := m.below hh
    try replace m2 := m2.below hh
    try replace g := g.below hh
    try replace g2 := g2.below hh
    try replace h := h.below hh
    try replace h2 := h2.below hh
    try replace XA := XA.below hh
    try replace XB := XB.below hh
    try replace XX := XX.below hh
    try replace XY := XY.below hh
    replace hb := bend hb hh
    have ai : ZR W2 s A_i n_i c_i v 40 := by
      have := ZR.of_rd (s := s) (k := 40) ri HLa.out hnc (by have := ri.1; have := ra.1; omega)
      rwa [← HV.out] at this
    have HMI : Hid (n_i ≤ maxLen) := by have h1 := ri.1; have h2 := ra.1; have h3 := HMX.out; show n_i ≤ maxLen; omega
    clear hnc
    replace a := a.below (Below.refl _ _).drew
    replace b := b.below (Below.refl _ _).drew
    replace ra := ra.below (Below.refl _ _).drew
    replace ri := ri.below (Below.refl _ _).drew
    replace ai := ai.below (Below.refl _ _).drew
    replace x := x.below (Below.refl _ _).drew
    replace y := y.below (Below.refl _ _).drew
    replace XA := XA.below (Below.refl _ _).drew
    replace XB := XB.below (Below.refl _ _).drew
    replace XX := XX.below (Below.refl _ _).drew
    replace XY := XY.below (Below.refl _ _).drew
    replace XI := XI.below (Below.refl _ _).drew
    replace hb := hb.drew
    go_region_held3 (fun w' => w'.cell? ⟨w.heap.size, 0, none⟩ = some (.bool s) ∧ w'.cell? ⟨w.heap.size, 1, none⟩ = some (.slice A n c') ∧ w'.cell? ⟨w.heap.size + 1, 0, none⟩ = some (.bool t) ∧ w'.cell? ⟨w.heap.size + 1, 1, none⟩ = some (.slice B m d) ∧ w'.cell? ⟨ga, 0, none⟩ = some (.bool s_x) ∧ w'.cell? ⟨ga, 1, none⟩ = some (.slice A_x n_x c_x) ∧ w'.cell? ⟨gb, 0, none⟩ = some (.bool s_y) ∧ w'.cell? ⟨gb, 1, none⟩ = some (.slice A_y n_y c_y) ∧ w'.cell? ⟨w_i.heap.size, 0, none⟩ = some (.bool s) ∧ w'.cell? ⟨w_i.heap.size, 1, none⟩ = some (.slice A_i n_i c_i))
      (first | with_reducible exact ⟨XA.c0, XA.c1, XB.c0, XB.c1, XX.c0, XX.c1, XY.c0, XY.c1, XI.c0, XI.c1⟩)
      (first
      | (go_at_call 13; (with_reducible refine (out2 x (by omega)).mono ?_); rintro e w_o ⟨A_o, n_o, c_o, rfl, h, hh⟩
         try replace a := a.below hh
         try replace b := b.below hh
         try replace ra := ra.below hh
         try replace ri := ri.below hh
         try replace ai := ai.below hh
         try replace x := x.below hh
         try replace y := y.below hh
         try replace p := p.below hh
         try replace p2 := p2.below hh
         try replace m := m.below hh
         try replace m2 := m2.below hh
         try replace g := g.below hh
         try replace g2 := g2.below hh
         try replace h2 := h2.below hh
         try replace XA := XA.below hh
         try replace XB := XB.below hh
         try replace XX := XX.below hh
         try replace XY := XY.below hh
         try replace XI := XI.below hh
         replace hb := bend hb hh)
      | (go_at_call 12; (with_reducible refine (ints_any s s_x la _ A A_o n c' n_o c_o _ ra h HMX.out).mono ?_); rintro e w_z ⟨rfl, hh⟩
         rw [show s_x = decide (v < 0) from x.1, HG1.out]
         try replace a := a.below hh
         try replace b := b.below hh
         try replace ra := ra.below hh
         try replace ri := ri.below hh
         try replace ai := ai.below hh
         try replace x := x.below hh
         try replace y := y.below hh
         try replace p := p.below hh
         try replace p2 := p2.below hh
         try replace m := m.below hh
         try replace m2 := m2.below hh
         try replace g := g.below hh
         try replace g2 := g2.below hh
         try replace h := h.below hh
         try replace h2 := h2.below hh
         try replace XA := XA.below hh
         try replace XB := XB.below hh
         try replace XX := XX.below hh
         try replace XY := XY.below hh
         try replace XI := XI.below hh
         replace hb := bend hb hh))
    go_wp2_with fail
    replace a := a.below (Below.refl _ _).drew
    replace b := b.below (Below.refl _ _).drew
    replace ra := ra.below (Below.refl _ _).drew
    replace ri := ri.below (Below.refl _ _).drew
    replace ai := ai.below (Below.refl _ _).drew
    replace x := x.below (Below.refl _ _).drew
    replace y := y.below (Below.refl _ _).drew
    replace XA := XA.below (Below.refl _ _).drew
    replace XB := XB.below (Below.refl _ _).drew
    replace XX := XX.below (Below.refl _ _).drew
    replace XY := XY.below (Below.refl _ _).drew
    replace XI := XI.below (Below.refl _ _).drew
    replace hb := hb.drew
    go_region_held3 (fun w' => w'.cell? ⟨w.heap.size, 0, none⟩ = some (.bool s) ∧ w'.cell? ⟨w.heap.size, 1, none⟩ = some (.slice A n c') ∧ w'.cell? ⟨w.heap.size + 1, 0, none⟩ = some (.bool t) ∧ w'.cell? ⟨w.heap.size + 1, 1, none⟩ = some (.slice B m d) ∧ w'.cell? ⟨ga, 0, none⟩ = some (.bool s_x) ∧ w'.cell? ⟨ga, 1, none⟩ = some (.slice A_x n_x c_x) ∧ w'.cell? ⟨gb, 0, none⟩ = some (.bool s_y) ∧ w'.cell? ⟨gb, 1, none⟩ = some (.slice A_y n_y c_y) ∧ w'.cell? ⟨w_i.heap.size, 0, none⟩ = some (.bool s) ∧ w'.cell? ⟨w_i.heap.size, 1, none⟩ = some (.slice A_i n_i c_i))
      (first | with_reducible exact ⟨XA.c0, XA.c1, XB.c0, XB.c1, XX.c0, XX.c1, XY.c0, XY.c1, XI.c0, XI.c1⟩)
      (first
      | (go_at_call 15; (with_reducible refine (zadd_zg 41 ai b (by omega) (by omega) (by omega)).mono ?_); rintro e w_p ⟨s_p, A_p, n_p, c_p, rfl, p, hh⟩
         try replace a := a.below hh
         try replace b := b.below hh
         try replace ra := ra.below hh
         try replace ri := ri.below hh
         try replace ai := ai.below hh
         try replace x := x.below hh
         try replace y := y.below hh
         try replace p2 := p2.below hh
         try replace m := m.below hh
         try replace m2 := m2.below hh
         try replace g := g.below hh
         try replace g2 := g2.below hh
         try replace h := h.below hh
         try replace h2 := h2.below hh
         try replace XA := XA.below hh
         try replace XB := XB.below hh
         try replace XX := XX.below hh
         try replace XY := XY.below hh
         try replace XI := XI.below hh
         replace hb := bend hb hh)
      | (go_at_call 16; (with_reducible refine (radd2 81 x.rz y.rz (by omega) (by omega) (by omega)).mono ?_); rintro e w_p2 ⟨s_p2, A_p2, n_p2, c_p2, rfl, p2, hh⟩
         try replace a := a.below hh
         try replace b := b.below hh
         try replace ra := ra.below hh
         try replace ri := ri.below hh
         try replace ai := ai.below hh
         try replace x := x.below hh
         try replace y := y.below hh
         try replace p := p.below hh
         try replace m := m.below hh
         try replace m2 := m2.below hh
         try replace g := g.below hh
         try replace g2 := g2.below hh
         try replace h := h.below hh
         try replace h2 := h2.below hh
         try replace XA := XA.below hh
         try replace XB := XB.below hh
         try replace XX := XX.below hh
         try replace XY := XY.below hh
         try replace XI := XI.below hh
         replace hb := bend hb hh)
      | (go_at_call 14; (with_reducible refine (same2 p p2 (by omega) (by omega)).mono ?_); rintro e w_z ⟨rfl, hh⟩
         try replace a := a.below hh
         try replace b := b.below hh
         try replace ra := ra.below hh
         try replace ri := ri.below hh
         try replace ai := ai.below hh
         try replace x := x.below hh
         try replace y := y.below hh
         try replace p := p.below hh
         try replace p2 := p2.below hh
         try replace m := m.below hh
         try replace m2 := m2.below hh
         try replace g := g.below hh
         try replace g2 := g2.below hh
         try replace h := h.below hh
         try replace h2 := h2.below hh
         try replace XA := XA.below hh
         try replace XB := XB.below hh
         try replace XX := XX.below hh
         try replace XY := XY.below hh
         try replace XI := XI.below hh
         replace hb := bend hb hh)
      | (go_at_call 17; (with_reducible refine (zsub_zg 41 ai b (by omega) (by omega) (by omega)).mono ?_); rintro e w_m ⟨s_m, A_m, n_m, c_m, rfl, m, hh⟩
         try replace a := a.below hh
         try replace b := b.below hh
         try replace ra := ra.below hh
         try replace ri := ri.below hh
         try replace ai := ai.below hh
         try replace x := x.below hh
         try replace y := y.below hh
         try replace p := p.below hh
         try replace p2 := p2.below hh
         try replace m2 := m2.below hh
         try replace g := g.below hh
         try replace g2 := g2.below hh
         try replace h := h.below hh
         try replace h2 := h2.below hh
         try replace XA := XA.below hh
         try replace XB := XB.below hh
         try replace XX := XX.below hh
         try replace XY := XY.below hh
         try replace XI := XI.below hh
         replace hb := bend hb hh)
      | (go_at_call 18; (with_reducible refine (rsub2 81 x.rz y.rz (by omega) (by omega) (by omega)).mono ?_); rintro e w_m2 ⟨s_m2, A_m2, n_m2, c_m2, rfl, m2, hh⟩
         try replace a := a.below hh
         try replace b := b.below hh
         try replace ra := ra.below hh
         try replace ri := ri.below hh
         try replace ai := ai.below hh
         try replace x := x.below hh
         try replace y := y.below hh
         try replace p := p.below hh
         try replace p2 := p2.below hh
         try replace m := m.below hh
         try replace g := g.below hh
         try replace g2 := g2.below hh
         try replace h := h.below hh
         try replace h2 := h2.below hh
         try replace XA := XA.below hh
         try replace XB := XB.below hh
         try replace XX := XX.below hh
         try replace XY := XY.below hh
         try replace XI := XI.below hh
         replace hb := bend hb hh)
      | (go_at_call 14; (with_reducible refine (same2 m m2 (by omega) (by omega)).mono ?_); rintro e w_z ⟨rfl, hh⟩
         try replace a := a.below hh
         try replace b := b.below hh
         try replace ra := ra.below hh
         try replace ri := ri.below hh
         try replace ai := ai.below hh
         try replace x := x.below hh
         try replace y := y.below hh
         try replace p := p.below hh
         try replace p2 := p2.below hh
         try replace m := m.below hh
         try replace m2 := m2.below hh
         try replace g := g.below hh
         try replace g2 := g2.below hh
         try replace h := h.below hh
         try replace h2 := h2.below hh
         try replace XA := XA.below hh
         try replace XB := XB.below hh
         try replace XX := XX.below hh
         try replace XY := XY.below hh
         try replace XI := XI.below hh
         replace hb := bend hb hh)
      | (go_at_call 19; (with_reducible refine (zmul_zg 80 ai b (by omega) (by omega) (by omega)).mono ?_); rintro e w_g ⟨s_g, A_g, n_g, c_g, rfl, g, hh⟩
         try replace a := a.below hh
         try replace b := b.below hh
         try replace ra := ra.below hh
         try replace ri := ri.below hh
         try replace ai := ai.below hh
         try replace x := x.below hh
         try replace y := y.below hh
         try replace p := p.below hh
         try replace p2 := p2.below hh
         try replace m := m.below hh
         try replace m2 := m2.below hh
         try replace g2 := g2.below hh
         try replace h := h.below hh
         try replace h2 := h2.below hh
         try replace XA := XA.below hh
         try replace XB := XB.below hh
         try replace XX := XX.below hh
         try replace XY := XY.below hh
         try replace XI := XI.below hh
         replace hb := bend hb hh)
      | (go_at_call 20; (with_reducible refine (rmul2 x.rz y.rz (by omega) (by omega)).mono ?_); rintro e w_g2 ⟨s_g2, A_g2, n_g2, c_g2, rfl, g2, hh⟩
         try replace a := a.below hh
         try replace b := b.below hh
         try replace ra := ra.below hh
         try replace ri := ri.below hh
         try replace ai := ai.below hh
         try replace x := x.below hh
         try replace y := y.below hh
         try replace p := p.below hh
         try replace p2 := p2.below hh
         try replace m := m.below hh
         try replace m2 := m2.below hh
         try replace g := g.below hh
         try replace h := h.below hh
         try replace h2 := h2.below hh
         try replace XA := XA.below hh
         try replace XB := XB.below hh
         try replace XX := XX.below hh
         try replace XY := XY.below hh
         try replace XI := XI.below hh
         replace hb := bend hb hh)
      | (go_at_call 14; (with_reducible refine (same2 g g2 (by omega) (by omega)).mono ?_); rintro e w_z ⟨rfl, hh⟩
         try replace a := a.below hh
         try replace b := b.below hh
         try replace ra := ra.below hh
         try replace ri := ri.below hh
         try replace ai := ai.below hh
         try replace x := x.below hh
         try replace y := y.below hh
         try replace p := p.below hh
         try replace p2 := p2.below hh
         try replace m := m.below hh
         try replace m2 := m2.below hh
         try replace g := g.below hh
         try replace g2 := g2.below hh
         try replace h := h.below hh
         try replace h2 := h2.below hh
         try replace XA := XA.below hh
         try replace XB := XB.below hh
         try replace XX := XX.below hh
         try replace XY := XY.below hh
         try replace XI := XI.below hh
         replace hb := bend hb hh)
      | (go_at_call 21; (with_reducible refine (zcmp_zr ai b (by omega)).mono ?_); rintro e w_z ⟨rfl, hh⟩
         rw [HKC.out]
         try replace a := a.below hh
         try replace b := b.below hh
         try replace ra := ra.below hh
         try replace ri := ri.below hh
         try replace ai := ai.below hh
         try replace x := x.below hh
         try replace y := y.below hh
         try replace p := p.below hh
         try replace p2 := p2.below hh
         try replace m := m.below hh
         try replace m2 := m2.below hh
         try replace g := g.below hh
         try replace g2 := g2.below hh
         try replace h := h.below hh
         try replace h2 := h2.below hh
         try replace XA := XA.below hh
         try replace XB := XB.below hh
         try replace XX := XX.below hh
         try replace XY := XY.below hh
         try replace XI := XI.below hh
         replace hb := bend hb hh)
      | (go_at_call 22; (with_reducible refine (rcmp2 x.rz y.rz (by omega) (by omega)).mono ?_); rintro e w_z ⟨rfl, hh⟩
         rw [HKC.out]
         try replace a := a.below hh
         try replace b := b.below hh
         try replace ra := ra.below hh
         try replace ri := ri.below hh
         try replace ai := ai.below hh
         try replace x := x.below hh
         try replace y := y.below hh
         try replace p := p.below hh
         try replace p2 := p2.below hh
         try replace m := m.below hh
         try replace m2 := m2.below hh
         try replace g := g.below hh
         try replace g2 := g2.below hh
         try replace h := h.below hh
         try replace h2 := h2.below hh
         try replace XA := XA.below hh
         try replace XB := XB.below hh
         try replace XX := XX.below hh
         try replace XY := XY.below hh
         try replace XI := XI.below hh
         replace hb := bend hb hh)
      | (go_at_call 23; (with_reducible refine (sign_zr ai (by omega)).mono ?_); rintro e w_z ⟨rfl, hh⟩
         rw [HKS.out]
         try replace a := a.below hh
         try replace b := b.below hh
         try replace ra := ra.below hh
         try replace ri := ri.below hh
         try replace ai := ai.below hh
         try replace x := x.below hh
         try replace y := y.below hh
         try replace p := p.below hh
         try replace p2 := p2.below hh
         try replace m := m.below hh
         try replace m2 := m2.below hh
         try replace g := g.below hh
         try replace g2 := g2.below hh
         try replace h := h.below hh
         try replace h2 := h2.below hh
         try replace XA := XA.below hh
         try replace XB := XB.below hh
         try replace XX := XX.below hh
         try replace XY := XY.below hh
         try replace XI := XI.below hh
         replace hb := bend hb hh)
      | (go_at_call 24; (with_reducible refine (rsign2 x.rz).mono ?_); rintro e w_z ⟨rfl, hh⟩
         rw [HKS.out]
         try replace a := a.below hh
         try replace b := b.below hh
         try replace ra := ra.below hh
         try replace ri := ri.below hh
         try replace ai := ai.below hh
         try replace x := x.below hh
         try replace y := y.below hh
         try replace p := p.below hh
         try replace p2 := p2.below hh
         try replace m := m.below hh
         try replace m2 := m2.below hh
         try replace g := g.below hh
         try replace g2 := g2.below hh
         try replace h := h.below hh
         try replace h2 := h2.below hh
         try replace XA := XA.below hh
         try replace XB := XB.below hh
         try replace XX := XX.below hh
         try replace XY := XY.below hh
         try replace XI := XI.below hh
         replace hb := bend hb hh)
      | (go_at_call 25; (with_reducible refine (zneg_zg ai (by omega)).mono ?_); rintro e w_h ⟨s_h, A_h, n_h, c_h, rfl, h, hh⟩
         try replace a := a.below hh
         try replace b := b.below hh
         try replace ra := ra.below hh
         try replace ri := ri.below hh
         try replace ai := ai.below hh
         try replace x := x.below hh
         try replace y := y.below hh
         try replace p := p.below hh
         try replace p2 := p2.below hh
         try replace m := m.below hh
         try replace m2 := m2.below hh
         try replace g := g.below hh
         try replace g2 := g2.below hh
         try replace h2 := h2.below hh
         try replace XA := XA.below hh
         try replace XB := XB.below hh
         try replace XX := XX.below hh
         try replace XY := XY.below hh
         try replace XI := XI.below hh
         replace hb := bend hb hh)
      | (go_at_call 26; (with_reducible refine (rminus2 x.rz).mono ?_); rintro e w_h2 ⟨s_h2, A_h2, n_h2, c_h2, rfl, h2, hh⟩
         try replace a := a.below hh
         try replace b := b.below hh
         try replace ra := ra.below hh
         try replace ri := ri.below hh
         try replace ai := ai.below hh
         try replace x := x.below hh
         try replace y := y.below hh
         try replace p := p.below hh
         try replace p2 := p2.below hh
         try replace m := m.below hh
         try replace m2 := m2.below hh
         try replace g := g.below hh
         try replace g2 := g2.below hh
         try replace h := h.below hh
         try replace XA := XA.below hh
         try replace XB := XB.below hh
         try replace XX := XX.below hh
         try replace XY := XY.below hh
         try replace XI := XI.below hh
         replace hb := bend hb hh)
      | (go_at_call 14; (with_reducible refine (same2 h h2 (by omega) (by omega)).mono ?_); rintro e w_z ⟨rfl, hh⟩
         try replace a := a.below hh
         try replace b := b.below hh
         try replace ra := ra.below hh
         try replace ri := ri.below hh
         try replace ai := ai.below hh
         try replace x := x.below hh
         try replace y := y.below hh
         try replace p := p.below hh
         try replace p2 := p2.below hh
         try replace m := m.below hh
         try replace m2 := m2.below hh
         try replace g := g.below hh
         try replace g2 := g2.below hh
         try replace h := h.below hh
         try replace h2 := h2.below hh
         try replace XA := XA.below hh
         try replace XB := XB.below hh
         try replace XX := XX.below hh
         try replace XY := XY.below hh
         try replace XI := XI.below hh
         replace hb := bend hb hh)
      | (go_at_call 27; (with_reducible refine (zgood_any s la _ _ _ _ ri HMI.out).mono ?_); rintro e w_z ⟨rfl, hh⟩
         rw [HG2.out]
         try replace a := a.below hh
         try replace b := b.below hh
         try replace ra := ra.below hh
         try replace ri := ri.below hh
         try replace ai := ai.below hh
         try replace x := x.below hh
         try replace y := y.below hh
         try replace p := p.below hh
         try replace p2 := p2.below hh
         try replace m := m.below hh
         try replace m2 := m2.below hh
         try replace g := g.below hh
         try replace g2 := g2.below hh
         try replace h := h.below hh
         try replace h2 := h2.below hh
         try replace XA := XA.below hh
         try replace XB := XB.below hh
         try replace XX := XX.below hh
         try replace XY := XY.below hh
         try replace XI := XI.below hh
         replace hb := bend hb hh)
      | (go_at_call 12; (with_reducible refine (ints_true s la A_i A n_i c_i n c' _ ri ra HMI.out).mono ?_); rintro e w_z ⟨rfl, hh⟩
         try replace a := a.below hh
         try replace b := b.below hh
         try replace ra := ra.below hh
         try replace ri := ri.below hh
         try replace ai := ai.below hh
         try replace x := x.below hh
         try replace y := y.below hh
         try replace p := p.below hh
         try replace p2 := p2.below hh
         try replace m := m.below hh
         try replace m2 := m2.below hh
         try replace g := g.below hh
         try replace g2 := g2.below hh
         try replace h := h.below hh
         try replace h2 := h2.below hh
         try replace XA := XA.below hh
         try replace XB := XB.below hh
         try replace XX := XX.below hh
         try replace XY := XY.below hh
         try replace XI := XI.below hh
         replace hb := bend hb hh)
      | (go_at_call 9; (with_reducible refine (zwakes_any _).mono ?_); rintro e w_z ⟨rfl, hh⟩
         try replace a := a.below hh
         try replace b := b.below hh
         try replace ra := ra.below hh
         try replace ri := ri.below hh
         try replace ai := ai.below hh
         try replace x := x.below hh
         try replace y := y.below hh
         try replace p := p.below hh
         try replace p2 := p2.below hh
         try replace m := m.below hh
         try replace m2 := m2.below hh
         try replace g := g.below hh
         try replace g2 := g2.below hh
         try replace h := h.below hh
         try replace h2 := h2.below hh
         try replace XA := XA.below hh
         try replace XB := XB.below hh
         try replace XX := XX.below hh
         try replace XY := XY.below hh
         try replace XI := XI.below hh
         replace hb := bend hb hh))
    go_wp2_with fail
    go_ret
    exact ⟨rfl, hb⟩

set_option maxRecDepth 100000 in
set_option maxHeartbeats 8000000 in
theorem zadds_large_a (s t : Bool) (A B : Option Addr) (n c' m d : Nat) (w : World) (hm : ¬ n ≤ 40) :
    Calls Try.prog 3 #[.agg #[.bool s, .slice A n c'], .agg #[.bool t, .slice B m d]] w fun e w' => e = .returned (.bool true) ∧ Below w.heap.size w w' := by
    have HL1 : Hid (decide (40 < n) = true) := decide_eq_true (by omega)
    clear hm
    go_enter Try.func3, Try.ntmps3
    go_wp2_with fail
    generalize hW : (w.alloc (Obj.cells #[Value.bool s, Value.slice A n c'] 24)).alloc (Obj.cells #[Value.bool t, Value.slice B m d] 24) = W
    have hb : Below w.heap.size w W := by subst hW; exact ((Below.refl _ _).alloc (Nat.le_refl _) _).alloc (by simp) _
    have XA : Bx W w.heap.size (.bool s) (.slice A n c') := by subst hW; exact (Bx.new w _ _).alloc _
    have XB : Bx W (w.heap.size + 1) (.bool t) (.slice B m d) := by subst hW; exact Bx.new' _ _ _ _ (by simp)
    clear hW

    have xa0 := XA.c0
    have xa1 := XA.c1
    have xb0 := XB.c0
    have xb1 := XB.c1
    go_wp2_with (first
      | (go_at_call 8; (refine (large_any s A n c' _).mono ?_); rintro e w_z ⟨rfl, hh⟩
         rw [HL1.out]
         try replace a := a.below hh
         try replace b := b.below hh
         try replace ra := ra.below hh
         try replace ri := ri.below hh
         try replace ai := ai.below hh
         try replace x := x.below hh
         try replace y := y.below hh
         try replace p := p.below hh
         try replace p2 := p2.below hh
         try replace m := m.below hh
         try replace m2 := m2.below hh
         try replace g := g.below hh
         try replace g2 := g2.below hh
         try replace h := h.below hh
         try replace h2 := h2.below hh
         try replace XA := XA.below hh
         try replace XB := XB.below hh
         try replace XX := XX.below hh
         try replace XY := XY.below hh
         try replace XI := XI.below hh
         replace hb := bend hb hh
         have xa0 := XA.c0
         have xa1 := XA.c1
         have xb0 := XB.c0
         have xb1 := XB.c1)
      | (go_at_call 9; (with_reducible refine (zwakes_any _).mono ?_); rintro e w_z ⟨rfl, hh⟩
         try replace a := a.below hh
         try replace b := b.below hh
         try replace ra := ra.below hh
         try replace ri := ri.below hh
         try replace ai := ai.below hh
         try replace x := x.below hh
         try replace y := y.below hh
         try replace p := p.below hh
         try replace p2 := p2.below hh
         try replace m := m.below hh
         try replace m2 := m2.below hh
         try replace g := g.below hh
         try replace g2 := g2.below hh
         try replace h := h.below hh
         try replace h2 := h2.below hh
         try replace XA := XA.below hh
         try replace XB := XB.below hh
         try replace XX := XX.below hh
         try replace XY := XY.below hh
         try replace XI := XI.below hh
         replace hb := bend hb hh
         have xa0 := XA.c0
         have xa1 := XA.c1
         have xb0 := XB.c0
         have xb1 := XB.c1))
    go_ret
    exact ⟨rfl, hb⟩

set_option maxRecDepth 100000 in
set_option maxHeartbeats 8000000 in
theorem zadds_large_b (s t : Bool) (A B : Option Addr) (n c' m d : Nat) (w : World) (hm : ¬ m ≤ 40) :
    Calls Try.prog 3 #[.agg #[.bool s, .slice A n c'], .agg #[.bool t, .slice B m d]] w fun e w' => e = .returned (.bool true) ∧ Below w.heap.size w w' := by
    obtain ⟨L, hL⟩ : ∃ L, decide (40 < n) = L := ⟨_, rfl⟩
    have HL1 := Lib.hid hL
    clear hL
    have HL2 : Hid (decide (40 < m) = true) := decide_eq_true (by omega)
    clear hm
    cases L
    all_goals
      go_enter Try.func3, Try.ntmps3
      go_wp2_with fail
      generalize hW : (w.alloc (Obj.cells #[Value.bool s, Value.slice A n c'] 24)).alloc (Obj.cells #[Value.bool t, Value.slice B m d] 24) = W
      have hb : Below w.heap.size w W := by subst hW; exact ((Below.refl _ _).alloc (Nat.le_refl _) _).alloc (by simp) _
      have XA : Bx W w.heap.size (.bool s) (.slice A n c') := by subst hW; exact (Bx.new w _ _).alloc _
      have XB : Bx W (w.heap.size + 1) (.bool t) (.slice B m d) := by subst hW; exact Bx.new' _ _ _ _ (by simp)
      clear hW
  
      have xa0 := XA.c0
      have xa1 := XA.c1
      have xb0 := XB.c0
      have xb1 := XB.c1
      go_wp2_with (first
        | (go_at_call 8; (refine (large_any s A n c' _).mono ?_); rintro e w_z ⟨rfl, hh⟩
           rw [HL1.out]
           try replace a := a.below hh
           try replace b := b.below hh
           try replace ra := ra.below hh
           try replace ri := ri.below hh
           try replace ai := ai.below hh
           try replace x := x.below hh
           try replace y := y.below hh
           try replace p := p.below hh
           try replace p2 := p2.below hh
           try replace m := m.below hh
           try replace m2 := m2.below hh
           try replace g := g.below hh
           try replace g2 := g2.below hh
           try replace h := h.below hh
           try replace h2 := h2.below hh
           try replace XA := XA.below hh
           try replace XB := XB.below hh
           try replace XX := XX.below hh
           try replace XY := XY.below hh
           try replace XI := XI.below hh
           replace hb := bend hb hh
           have xa0 := XA.c0
           have xa1 := XA.c1
           have xb0 := XB.c0
           have xb1 := XB.c1)
        | (go_at_call 8; (refine (large_any t B m d _).mono ?_); rintro e w_z ⟨rfl, hh⟩
           rw [HL2.out]
           try replace a := a.below hh
           try replace b := b.below hh
           try replace ra := ra.below hh
           try replace ri := ri.below hh
           try replace ai := ai.below hh
           try replace x := x.below hh
           try replace y := y.below hh
           try replace p := p.below hh
           try replace p2 := p2.below hh
           try replace m := m.below hh
           try replace m2 := m2.below hh
           try replace g := g.below hh
           try replace g2 := g2.below hh
           try replace h := h.below hh
           try replace h2 := h2.below hh
           try replace XA := XA.below hh
           try replace XB := XB.below hh
           try replace XX := XX.below hh
           try replace XY := XY.below hh
           try replace XI := XI.below hh
           replace hb := bend hb hh
           have xa0 := XA.c0
           have xa1 := XA.c1
           have xb0 := XB.c0
           have xb1 := XB.c1)
        | (go_at_call 9; (with_reducible refine (zwakes_any _).mono ?_); rintro e w_z ⟨rfl, hh⟩
           try replace a := a.below hh
           try replace b := b.below hh
           try replace ra := ra.below hh
           try replace ri := ri.below hh
           try replace ai := ai.below hh
           try replace x := x.below hh
           try replace y := y.below hh
           try replace p := p.below hh
           try replace p2 := p2.below hh
           try replace m := m.below hh
           try replace m2 := m2.below hh
           try replace g := g.below hh
           try replace g2 := g2.below hh
           try replace h := h.below hh
           try replace h2 := h2.below hh
           try replace XA := XA.below hh
           try replace XB := XB.below hh
           try replace XX := XX.below hh
           try replace XY := XY.below hh
           try replace XI := XI.below hh
           replace hb := bend hb hh
           have xa0 := XA.c0
           have xa1 := XA.c1
           have xb0 := XB.c0
           have xb1 := XB.c1))
      go_ret
      exact ⟨rfl, hb⟩

theorem law_zadds (s t : Bool) (la lb : List Nat) (A B : Option Addr) (n c' m d : Nat) (w : World) (ha : Rd .u64 w A n la) (hb : Rd .u64 w B m lb) (La : Lim B64 la) (Lb : Lim B64 lb) (hna : n ≤ c') (hnb : m ≤ d) (hA : A = none → c' = 0) :
    Calls Try.prog 3 #[.agg #[.bool s, .slice A n c'], .agg #[.bool t, .slice B m d]] w fun e w' => e = .returned (.bool true) ∧ Below w.heap.size w w' := by
    by_cases h1 : n ≤ 40
    · by_cases h2 : m ≤ 40
      · exact zadds_small s t la _ _ A B n c' m d w (ZR.of_rd (s := s) ha La hna h1) (ZR.of_rd (s := t) hb Lb hnb h2) ha La rfl hA h1 h2 _ rfl _ _ rfl rfl
      · exact zadds_large_b s t A B n c' m d w h2
    · exact zadds_large_a s t A B n c' m d w h1
end Go.Proofs.Ytehkgiiiobnkdaa
