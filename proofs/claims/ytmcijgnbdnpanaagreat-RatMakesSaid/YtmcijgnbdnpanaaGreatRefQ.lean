/- gessoref03 by value: fractions in the document's own form. -/
import Derived.Test.YtmcijgnbdnpanaaGreatRatA
import Derived.Test.YtmcijgnbdnpanaaGreatRefZ4
import Derived.Test.YtmcijgnbdnpanaaGreatRefP
namespace Go.Proofs.YtmcijgnbdnpanaaGreat
open Go Go.RowKit

/-- Block g holds a fraction of the document's. -/
def B3R (W : World) (g : Nat) (x y z : Value) : Prop := W.heap[g]? = some (.cells #[x, y, z] 34 (0, 0))
section
variable {W W' : World} {g : Nat} {x y z : Value}
theorem B3R.c0 (h : B3R W g x y z) : W.cell? ⟨g, 0, none⟩ = some x := by rw [cell_of_row W g 0 _ _ (0, 0) h]; rfl
theorem B3R.c1 (h : B3R W g x y z) : W.cell? ⟨g, 1, none⟩ = some y := by rw [cell_of_row W g 1 _ _ (0, 0) h]; rfl
theorem B3R.c2 (h : B3R W g x y z) : W.cell? ⟨g, 2, none⟩ = some z := by rw [cell_of_row W g 2 _ _ (0, 0) h]; rfl
theorem B3R.f0 (h : B3R W g x y z) : W.frozen? ⟨g, 0, none⟩ = false := frozen_of_row W g 0 _ _ h
theorem B3R.f1 (h : B3R W g x y z) : W.frozen? ⟨g, 1, none⟩ = false := frozen_of_row W g 1 _ _ h
theorem B3R.f2 (h : B3R W g x y z) : W.frozen? ⟨g, 2, none⟩ = false := frozen_of_row W g 2 _ _ h
theorem B3R.lt (h : B3R W g x y z) : g < W.heap.size := World.block_lt_of_cell? W _ h.c0
theorem B3R.below (h : B3R W g x y z) (hb : Below W.heap.size W W') : B3R W' g x y z := (hb.block g h.lt).trans h
theorem B3R.alloc (h : B3R W g x y z) (o : Obj) : B3R (W.alloc o) g x y z := (Below.heap_alloc W o g h.lt).trans h
theorem B3R.new' (W : World) (x y z : Value) (g : Nat) (hg : g = W.heap.size) : B3R (W.alloc (.cells #[x, y, z] 34)) g x y z := by subst hg; exact heap_alloc_new W _
theorem B3R.set3 (h : B3R W g x y z) (a b c : Value) : B3R (((W.setCell ⟨g, 0, none⟩ a).setCell ⟨g, 1, none⟩ b).setCell ⟨g, 2, none⟩ c) g a b c := by
  unfold B3R at h ⊢
  simp [World.setCell, Array.getElem?_modify, h]
theorem B3R.offx {s : Bool} {A A1 A2 : Option Addr} {n n1 n2 c1 c2 : Nat} {K : IntKind} {l : List Nat} (h : B3R W g (.bool s) (.slice A1 n1 c1) (.slice A2 n2 c2)) (hr : Rd K W A n l) : Off A n g := by
  intro hn ad e hg
  obtain ⟨b, o, eA, hc⟩ := hr.at_ hn
  obtain ⟨x, _, hx⟩ := hc 0 hn
  rw [eA] at e
  cases e
  have hg2 : b = g := hg
  subst hg2
  rw [cell_of_row W b (o + 0) _ _ (0, 0) h] at hx
  match o, hx with
  | 0, hx => cases hx
  | 1, hx => cases hx
  | 2, hx => cases hx
  | o + 3, hx => cases hx
end
/-- The struct is the document's form of v; at most k limbs each. -/
def RQ (w : World) (s : Bool) (A : Option Addr) (n c : Nat) (A' : Option Addr) (n' c' : Nat) (v : Rat) (k : Nat) : Prop := RG w s A n c v.num k ∧ RN w A' n' c' v.den k
def GivesRQ (w : World) (v : Rat) (k : Nat) (e : Ending) (w' : World) : Prop :=
  ∃ s A n c A' n' c', e = .returned (.agg #[.bool s, .slice A n c, .slice A' n' c']) ∧ RQ w' s A n c A' n' c' v k ∧ Below w.heap.size w w'
section
variable {w w' : World} {s : Bool} {A A' : Option Addr} {n c n' c' k g : Nat} {v : Rat}
theorem RQ.below (h : RQ w s A n c A' n' c' v k) (hb : Below w.heap.size w w') : RQ w' s A n c A' n' c' v k := ⟨h.1.below hb, h.2.below hb⟩
theorem RN.only {V : Nat} (h : RN w A n c V k) (ho : Off A n g) (hb : Only g w w') : RN w' A n c V k := ⟨h.1.only ho hb, h.2⟩
theorem RG.only {V : Int} (h : RG w s A n c V k) (ho : Off A n g) (hb : Only g w w') : RG w' s A n c V k := ⟨h.1, h.2.only ho hb⟩
theorem RG.rn {V : Int} (h : RG w s A n c V k) : RN w A n c V.natAbs k := h.2
theorem RG.more {V : Int} {k1 : Nat} (h : RG w s A n c V k) (hk : k ≤ k1) : RG w s A n c V k1 := ⟨h.1, h.2.more hk⟩
theorem RQ.set3 {t : Bool} {A1 A2 : Option Addr} {n1 c1 n2 c2 : Nat} (h : RQ w s A n c A' n' c' v k) (Z : B3R w g (.bool t) (.slice A1 n1 c1) (.slice A2 n2 c2)) (x y z : Value) :
    RQ (((w.setCell ⟨g, 0, none⟩ x).setCell ⟨g, 1, none⟩ y).setCell ⟨g, 2, none⟩ z) s A n c A' n' c' v k := by
  have ho : Only g w (((w.setCell ⟨g, 0, none⟩ x).setCell ⟨g, 1, none⟩ y).setCell ⟨g, 2, none⟩ z) := (((Only.refl g w).setCell 0 _).setCell 1 _).setCell 2 _
  exact ⟨h.1.only (Z.offx h.1.2.1) ho, h.2.only (Z.offx h.2.1) ho⟩
end
theorem mkRat_num {p : Int} {q : Nat} (hq : q ≠ 0) : (mkRat p q).num.natAbs = p.natAbs / Nat.gcd p.natAbs q ∧ (mkRat p q).den = q / Nat.gcd p.natAbs q ∧ ((mkRat p q).num < 0 ↔ p < 0) := by
  have h0 : (q : Int) ≠ 0 := by omega
  have h1 := div_num (p := p) h0
  have h2 := div_den (p := p) h0
  rw [Rat.divInt_ofNat] at h1 h2
  simp only [Int.natAbs_natCast] at h1 h2
  exact ⟨h1, h2, by rw [num_neg_iff, mk_negv hq]⟩
set_option maxRecDepth 100000 in
set_option maxHeartbeats 4000000 in
theorem made_one {w : World} {s : Bool} {A B : Option Addr} {n c m d k q : Nat} {p : Int} (X : RG w s A n c p k) (Y : RN w B m d q k) (hk : k ≤ 100000) (hq : q ≠ 0) (hg : Nat.gcd p.natAbs q = 1) :
    Calls Tryz.prog 72 #[.agg #[.bool s, .slice A n c], .slice B m d] w (GivesRQ w (mkRat p q) k) := by
  have HG := Lib.hid hg
  have hm := mkRat_num (p := p) hq
  rw [hg, Nat.div_one, Nat.div_one] at hm
  have HM := Lib.hid hm
  clear hg hm
  go_enter Tryz.func72, Tryz.ntmps72
  go_wp2_with fail
  generalize hW : ((w.alloc (Obj.cells #[Value.bool s, Value.slice A n c] 32)).alloc (Obj.cells #[Value.bool false, Value.slice none 0 0, Value.slice none 0 0] 34)) = W
  have hb : Below w.heap.size w W := by subst hW; exact (((Below.refl _ _).alloc (Nat.le_refl _) _).alloc (by simp) _)
  have XP : By W (w.heap.size) (Value.bool s) (Value.slice A n c) := by subst hW; exact (By.new' _ _ _ _ rfl).alloc _
  have Z : B3R W (w.heap.size + 1) (Value.bool false) (Value.slice none 0 0) (Value.slice none 0 0) := by subst hW; exact B3R.new' _ _ _ _ _ (by simp)
  have hzW : W.heap.size = w.heap.size + 2 := by subst hW; simp
  clear hW
  replace X := X.below hb
  replace Y := Y.below hb
  have xp0 := XP.c0
  have xp1 := XP.c1
  go_upto_region 2 with (first
      | (go_at_call 126; (with_reducible refine (rgcd_nr X.rn Y (by omega)).mono ?_); rintro e w_g ⟨A_g, n_g, c_g, rfl, g, hh⟩
         rw [HG.out] at g
         try replace X := X.below hh
         try replace Y := Y.below hh
         try replace x := x.below hh
         try replace y := y.below hh
         try replace XP := XP.below hh
         try replace Z := Z.below hh
         replace hb := bend hb hh
         have xp0 := XP.c0
         have xp1 := XP.c1))
  have hl : limbs B32 1 = [1] := limbs_small B32_two (by decide) (by decide)
  have hg1 := g.1
  rw [hl] at hg1
  have hn : 1 = n_g := hg1.1
  subst hn
  obtain ⟨gb, go, rfl, hgc⟩ := hg1.at_ (by decide)
  obtain ⟨gx, hgx, hgc0⟩ := hgc 0 (by decide)
  have hgx1 : 1 = gx := by simpa using hgx
  subst hgx1
  have hc1 : w_g.cell? ⟨gb, go, none⟩ = some (.int .u32 1) := by simpa using hgc0
  clear hgc hgx hgc0 hg1 hl g
  have zf0 := Z.f0
  have zf1 := Z.f1
  have zf2 := Z.f2
  have z0 := Z.c0
  have z1 := Z.c1
  have z2 := Z.c2
  go_wp2_with fail
  have Z2 := Z.set3 (.bool s) (.slice A n c) (.slice B m d)
  have g0 := Z2.c0
  have g1 := Z2.c1
  have g2 := Z2.c2
  refine bodyPost_ret (v := .agg #[.bool s, .slice A n c, .slice B m d]) (by simp [results, Tryz.results72, go_sem, g0, g1, g2]) rfl ?_
  have hm := HM.out
  have hr : RQ w_g s A n c B m d (mkRat p q) k := ⟨⟨X.1.trans (by rw [decide_eq_decide]; exact hm.2.2.symm), by rw [hm.1]; exact X.rn⟩, by rw [hm.2.1]; exact Y⟩
  exact ⟨s, _, _, _, _, _, _, rfl, hr.set3 Z _ _ _, below_set3 hb (by omega) _ _ _⟩

set_option maxRecDepth 100000 in
set_option maxHeartbeats 4000000 in
theorem made_big {w : World} {s : Bool} {A B : Option Addr} {n c m d k q G : Nat} {p : Int} (X : RG w s A n c p k) (Y : RN w B m d q k) (hk : k ≤ 100000) (hq : q ≠ 0) (hg : Nat.gcd p.natAbs q = G) (hG : B32 ≤ G) :
    Calls Tryz.prog 72 #[.agg #[.bool s, .slice A n c], .slice B m d] w (GivesRQ w (mkRat p q) k) := by
  have HG := Lib.hid hg
  have HG0 : Hid (G ≠ 0) := by
    show G ≠ 0
    have := Nat.gcd_pos_of_pos_right p.natAbs (Nat.pos_of_ne_zero hq)
    omega
  have hm := mkRat_num (p := p) hq
  rw [hg] at hm
  have HM := Lib.hid hm
  clear hg hm
  go_enter Tryz.func72, Tryz.ntmps72
  go_wp2_with fail
  generalize hW : ((w.alloc (Obj.cells #[Value.bool s, Value.slice A n c] 32)).alloc (Obj.cells #[Value.bool false, Value.slice none 0 0, Value.slice none 0 0] 34)) = W
  have hb : Below w.heap.size w W := by subst hW; exact (((Below.refl _ _).alloc (Nat.le_refl _) _).alloc (by simp) _)
  have XP : By W (w.heap.size) (Value.bool s) (Value.slice A n c) := by subst hW; exact (By.new' _ _ _ _ rfl).alloc _
  have Z : B3R W (w.heap.size + 1) (Value.bool false) (Value.slice none 0 0) (Value.slice none 0 0) := by subst hW; exact B3R.new' _ _ _ _ _ (by simp)
  have hzW : W.heap.size = w.heap.size + 2 := by subst hW; simp
  clear hW
  replace X := X.below hb
  replace Y := Y.below hb
  have xp0 := XP.c0
  have xp1 := XP.c1
  go_upto_region 2 with (first
      | (go_at_call 126; (with_reducible refine (rgcd_nr X.rn Y (by omega)).mono ?_); rintro e w_g ⟨A_g, n_g, c_g, rfl, g, hh⟩
         rw [HG.out] at g
         try replace X := X.below hh
         try replace Y := Y.below hh
         try replace x := x.below hh
         try replace y := y.below hh
         try replace XP := XP.below hh
         try replace Z := Z.below hh
         replace hb := bend hb hh
         have xp0 := XP.c0
         have xp1 := XP.c1))
  have hng : 2 ≤ n_g := by
    rcases Nat.lt_or_ge n_g 2 with h | h
    · have h1 := val_lt (lim_limbs B32_two G)
      rw [val_limbs B32_two, g.1.1] at h1
      have h2 : B32 ^ n_g ≤ B32 ^ 1 := Nat.pow_le_pow_right (by decide) (by omega)
      rw [Nat.pow_one] at h2
      omega
    · exact h
  have hn0 : ((n_g : Int) == 0) = false := by simp; omega
  have hn1 : ((n_g : Int) == 1) = false := by simp; omega
  clear hng hG
  have hfd : ∀ (A : Option Addr) (n c : Nat) (A' : Option Addr) (n' c' : Nat) (w : World), (Instr.field 159 (.agg #[.slice A n c, .slice A' n' c']) 0).run Tryz.prog w = .ok (.slice A n c) w := fun _ _ _ _ _ _ _ => by kernel_rfl
  go_upto_region 4 with (fail)
  replace X := X.below (Below.refl _ _).drew
  replace Y := Y.below (Below.refl _ _).drew
  replace g := g.below (Below.refl _ _).drew
  replace XP := XP.below (Below.refl _ _).drew
  replace Z := Z.below (Below.refl _ _).drew
  replace hb := hb.drew
  go_region_held3 (fun w' => w'.cell? ⟨w.heap.size, 0, none⟩ = some (.bool s) ∧ w'.cell? ⟨w.heap.size, 1, none⟩ = some (.slice A n c))
    (first | with_reducible exact ⟨XP.c0, XP.c1⟩ | with_reducible exact ⟨(set3_cell _ _ _ _ _ _ _ (by omega)).trans XP.c0, (set3_cell _ _ _ _ _ _ _ (by omega)).trans XP.c1⟩)
    (first
    | (go_at_call 127; (with_reducible refine (rdm_nr X.rn g (by omega) (by omega) HG0.out).mono ?_); rintro e w_x ⟨A_x, n_x, c_x, A_r, n_r, c_r, rfl, x, xr, hh⟩
       try replace X := X.below hh
       try replace Y := Y.below hh
       try replace g := g.below hh
       try replace y := y.below hh
       try replace XP := XP.below hh
       try replace Z := Z.below hh
       replace hb := bend hb hh
       have zf0 := Z.f0
       have zf1 := Z.f1
       have zf2 := Z.f2
       have z0 := Z.c0
       have z1 := Z.c1
       have z2 := Z.c2)
    | (go_at_call 127; (with_reducible refine (rdm_nr Y g (by omega) (by omega) HG0.out).mono ?_); rintro e w_y ⟨A_y, n_y, c_y, A_t, n_t, c_t, rfl, y, yr, hh⟩
       try replace X := X.below hh
       try replace Y := Y.below hh
       try replace g := g.below hh
       try replace x := x.below hh
       try replace XP := XP.below hh
       try replace Z := Z.below hh
       replace hb := bend hb hh
       have zf0 := Z.f0
       have zf1 := Z.f1
       have zf2 := Z.f2
       have z0 := Z.c0
       have z1 := Z.c1
       have z2 := Z.c2))
  go_wp2_with fail
  have Z2 := Z.set3 (.bool s) (.slice A_x n_x c_x) (.slice A_y n_y c_y)
  have g0 := Z2.c0
  have g1 := Z2.c1
  have g2 := Z2.c2
  refine bodyPost_ret (v := .agg #[.bool s, .slice A_x n_x c_x, .slice A_y n_y c_y]) (by simp [results, Tryz.results72, go_sem, g0, g1, g2]) rfl ?_
  have hm := HM.out
  have hr : RQ w_y s A_x n_x c_x A_y n_y c_y (mkRat p q) k := ⟨⟨X.1.trans (by rw [decide_eq_decide]; exact hm.2.2.symm), by rw [hm.1]; exact x⟩, by rw [hm.2.1]; exact y⟩
  exact ⟨s, _, _, _, _, _, _, rfl, hr.set3 Z _ _ _, below_set3 hb (by omega) _ _ _⟩

set_option maxRecDepth 100000 in
set_option maxHeartbeats 4000000 in
theorem made_small {w : World} {s : Bool} {A B : Option Addr} {n c m d k q G : Nat} {p : Int} (X : RG w s A n c p k) (Y : RN w B m d q k) (hk : k ≤ 100000) (hq : q ≠ 0) (hg : Nat.gcd p.natAbs q = G) (hG : G < B32) (hG1 : G ≠ 1) :
    Calls Tryz.prog 72 #[.agg #[.bool s, .slice A n c], .slice B m d] w (GivesRQ w (mkRat p q) k) := by
  have HG := Lib.hid hg
  have HG0 : Hid (G ≠ 0) := by
    show G ≠ 0
    have := Nat.gcd_pos_of_pos_right p.natAbs (Nat.pos_of_ne_zero hq)
    omega
  have hm := mkRat_num (p := p) hq
  rw [hg] at hm
  have HM := Lib.hid hm
  clear hg hm
  go_enter Tryz.func72, Tryz.ntmps72
  go_wp2_with fail
  generalize hW : ((w.alloc (Obj.cells #[Value.bool s, Value.slice A n c] 32)).alloc (Obj.cells #[Value.bool false, Value.slice none 0 0, Value.slice none 0 0] 34)) = W
  have hb : Below w.heap.size w W := by subst hW; exact (((Below.refl _ _).alloc (Nat.le_refl _) _).alloc (by simp) _)
  have XP : By W (w.heap.size) (Value.bool s) (Value.slice A n c) := by subst hW; exact (By.new' _ _ _ _ rfl).alloc _
  have Z : B3R W (w.heap.size + 1) (Value.bool false) (Value.slice none 0 0) (Value.slice none 0 0) := by subst hW; exact B3R.new' _ _ _ _ _ (by simp)
  have hzW : W.heap.size = w.heap.size + 2 := by subst hW; simp
  clear hW
  replace X := X.below hb
  replace Y := Y.below hb
  have xp0 := XP.c0
  have xp1 := XP.c1
  go_upto_region 2 with (first
      | (go_at_call 126; (with_reducible refine (rgcd_nr X.rn Y (by omega)).mono ?_); rintro e w_g ⟨A_g, n_g, c_g, rfl, g, hh⟩
         rw [HG.out] at g
         try replace X := X.below hh
         try replace Y := Y.below hh
         try replace x := x.below hh
         try replace y := y.below hh
         try replace XP := XP.below hh
         try replace Z := Z.below hh
         replace hb := bend hb hh
         have xp0 := XP.c0
         have xp1 := XP.c1))
  have hl : limbs B32 G = [G] := limbs_small B32_two hG HG0.out
  have hg1 := g.1
  rw [hl] at hg1
  have hn : 1 = n_g := hg1.1
  subst hn
  obtain ⟨gb, go, eA, hgc⟩ := hg1.at_ (by decide)
  subst eA
  obtain ⟨gx, hgx, hgc0⟩ := hgc 0 (by decide)
  have hgx1 : G = gx := by simpa using hgx
  subst hgx1
  have hc1 : w_g.cell? ⟨gb, go, none⟩ = some (.int .u32 (G : Int)) := by simpa using hgc0
  have hG2 : ((G : Int) == 1) = false := by simp; omega
  clear hgc hgx hgc0 hg1 hl hG hG1
  have hfd : ∀ (A : Option Addr) (n c : Nat) (A' : Option Addr) (n' c' : Nat) (w : World), (Instr.field 159 (.agg #[.slice A n c, .slice A' n' c']) 0).run Tryz.prog w = .ok (.slice A n c) w := fun _ _ _ _ _ _ _ => by kernel_rfl
  go_upto_region 4 with (fail)
  replace X := X.below (Below.refl _ _).drew
  replace Y := Y.below (Below.refl _ _).drew
  replace g := g.below (Below.refl _ _).drew
  replace XP := XP.below (Below.refl _ _).drew
  replace Z := Z.below (Below.refl _ _).drew
  replace hb := hb.drew
  go_region_held3 (fun w' => w'.cell? ⟨w.heap.size, 0, none⟩ = some (.bool s) ∧ w'.cell? ⟨w.heap.size, 1, none⟩ = some (.slice A n c))
    (first | with_reducible exact ⟨XP.c0, XP.c1⟩ | with_reducible exact ⟨(set3_cell _ _ _ _ _ _ _ (by omega)).trans XP.c0, (set3_cell _ _ _ _ _ _ _ (by omega)).trans XP.c1⟩)
    (first
    | (go_at_call 127; (with_reducible refine (rdm_nr X.rn g (by omega) (by omega) HG0.out).mono ?_); rintro e w_x ⟨A_x, n_x, c_x, A_r, n_r, c_r, rfl, x, xr, hh⟩
       try replace X := X.below hh
       try replace Y := Y.below hh
       try replace g := g.below hh
       try replace y := y.below hh
       try replace XP := XP.below hh
       try replace Z := Z.below hh
       replace hb := bend hb hh
       have zf0 := Z.f0
       have zf1 := Z.f1
       have zf2 := Z.f2
       have z0 := Z.c0
       have z1 := Z.c1
       have z2 := Z.c2)
    | (go_at_call 127; (with_reducible refine (rdm_nr Y g (by omega) (by omega) HG0.out).mono ?_); rintro e w_y ⟨A_y, n_y, c_y, A_t, n_t, c_t, rfl, y, yr, hh⟩
       try replace X := X.below hh
       try replace Y := Y.below hh
       try replace g := g.below hh
       try replace x := x.below hh
       try replace XP := XP.below hh
       try replace Z := Z.below hh
       replace hb := bend hb hh
       have zf0 := Z.f0
       have zf1 := Z.f1
       have zf2 := Z.f2
       have z0 := Z.c0
       have z1 := Z.c1
       have z2 := Z.c2))
  go_wp2_with fail
  have Z2 := Z.set3 (.bool s) (.slice A_x n_x c_x) (.slice A_y n_y c_y)
  have g0 := Z2.c0
  have g1 := Z2.c1
  have g2 := Z2.c2
  refine bodyPost_ret (v := .agg #[.bool s, .slice A_x n_x c_x, .slice A_y n_y c_y]) (by simp [results, Tryz.results72, go_sem, g0, g1, g2]) rfl ?_
  have hm := HM.out
  have hr : RQ w_y s A_x n_x c_x A_y n_y c_y (mkRat p q) k := ⟨⟨X.1.trans (by rw [decide_eq_decide]; exact hm.2.2.symm), by rw [hm.1]; exact x⟩, by rw [hm.2.1]; exact y⟩
  exact ⟨s, _, _, _, _, _, _, rfl, hr.set3 Z _ _ _, below_set3 hb (by omega) _ _ _⟩

theorem made_rq {w : World} {s : Bool} {A B : Option Addr} {n c m d k q : Nat} {p : Int} (X : RG w s A n c p k) (Y : RN w B m d q k) (hk : k ≤ 100000) (hq : q ≠ 0) :
    Calls Tryz.prog 72 #[.agg #[.bool s, .slice A n c], .slice B m d] w (GivesRQ w (mkRat p q) k) := by
  by_cases h1 : Nat.gcd p.natAbs q = 1
  · exact made_one X Y hk hq h1
  · rcases Nat.lt_or_ge (Nat.gcd p.natAbs q) B32 with h | h
    · exact made_small X Y hk hq rfl h h1
    · exact made_big X Y hk hq rfl h
end Go.Proofs.YtmcijgnbdnpanaaGreat
