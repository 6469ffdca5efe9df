/- Fractions in memory, by value: rat's functions. -/
import Derived.Test.YtmcijgnbdnpanaaGreatRatM
import Derived.Test.YtmcijgnbdnpanaaGreatRoot
import Derived.Test.YtmcijgnbdnpanaaGreatRefZ3
import Derived.Deep.CutRange
import Derived.Deep.Cut
import Derived.BigRegion
namespace Go.Proofs.YtmcijgnbdnpanaaGreat
open Go Go.RowKit

/-- Block g holds a struct of three cells. -/
def B3 (W : World) (g : Nat) (x y z : Value) : Prop := W.heap[g]? = some (.cells #[x, y, z] 26 (0, 0))
section
variable {W W' : World} {g : Nat} {x y z : Value}
theorem B3.c0 (h : B3 W g x y z) : W.cell? ⟨g, 0, none⟩ = some x := by rw [cell_of_row W g 0 _ _ (0, 0) h]; rfl
theorem B3.c1 (h : B3 W g x y z) : W.cell? ⟨g, 1, none⟩ = some y := by rw [cell_of_row W g 1 _ _ (0, 0) h]; rfl
theorem B3.c2 (h : B3 W g x y z) : W.cell? ⟨g, 2, none⟩ = some z := by rw [cell_of_row W g 2 _ _ (0, 0) h]; rfl
theorem B3.f0 (h : B3 W g x y z) : W.frozen? ⟨g, 0, none⟩ = false := frozen_of_row W g 0 _ _ h
theorem B3.f1 (h : B3 W g x y z) : W.frozen? ⟨g, 1, none⟩ = false := frozen_of_row W g 1 _ _ h
theorem B3.f2 (h : B3 W g x y z) : W.frozen? ⟨g, 2, none⟩ = false := frozen_of_row W g 2 _ _ h
theorem B3.lt (h : B3 W g x y z) : g < W.heap.size := World.block_lt_of_cell? W _ h.c0
theorem B3.below (h : B3 W g x y z) (hb : Below W.heap.size W W') : B3 W' g x y z := (hb.block g h.lt).trans h
theorem B3.drew (h : B3 W g x y z) : B3 W.drew g x y z := h
theorem B3.alloc (h : B3 W g x y z) (o : Obj) : B3 (W.alloc o) g x y z := (Below.heap_alloc W o g h.lt).trans h
theorem B3.new' (W : World) (x y z : Value) (g : Nat) (hg : g = W.heap.size) : B3 (W.alloc (.cells #[x, y, z] 26)) g x y z := by subst hg; exact heap_alloc_new W _
theorem B3.set3 (h : B3 W g x y z) (a b c : Value) : B3 (((W.setCell ⟨g, 0, none⟩ a).setCell ⟨g, 1, none⟩ b).setCell ⟨g, 2, none⟩ c) g a b c := by
  unfold B3 at h ⊢
  simp [World.setCell, Array.getElem?_modify, h]
theorem B3.offx {s : Bool} {A A1 A2 : Option Addr} {n n1 n2 c1 c2 : Nat} {K : IntKind} {l : List Nat} (h : B3 W g (.bool s) (.slice A1 n1 c1) (.slice A2 n2 c2)) (hr : Rd K W A n l) : Off A n g := by
  intro hn ad e hg
  obtain ⟨b, o, eA, hc⟩ := hr.at_ hn
  obtain ⟨x, _, hx⟩ := hc 0 hn
  rw [eA] at e
  cases e
  have hg2 : b = g := hg
  subst hg2
  rw [cell_of_row W b (o + 0) _ _ (0, 0) h] at hx
  match o, hx with
  | 0, hx => cases hx
  | 1, hx => cases hx
  | 2, hx => cases hx
  | o + 3, hx => cases hx
end
theorem set3_cell (W : World) (g k o : Nat) (x y z : Value) (h : k ≠ g) : (((W.setCell ⟨g, 0, none⟩ x).setCell ⟨g, 1, none⟩ y).setCell ⟨g, 2, none⟩ z).cell? ⟨k, o, none⟩ = W.cell? ⟨k, o, none⟩ := by
  rw [World.cell?_of_block (Below.heap_setCell _ _ _ _ h), World.cell?_of_block (Below.heap_setCell _ _ _ _ h), World.cell?_of_block (Below.heap_setCell _ _ _ _ h)]
theorem below_set3 {B g : Nat} {w W : World} (h : Below B w W) (hg : B ≤ g) (x y z : Value) : Below B w (((W.setCell ⟨g, 0, none⟩ x).setCell ⟨g, 1, none⟩ y).setCell ⟨g, 2, none⟩ z) := ((h.setCell hg _).setCell hg _).setCell hg _

/-- The struct reads as a fraction v, its numbers of at most k limbs each; it may be in any form. -/
def QR (w : World) (s : Bool) (A : Option Addr) (n c : Nat) (A' : Option Addr) (n' c' : Nat) (v : Rat) (k : Nat) : Prop :=
  ∃ p q, ZR w s A n c p k ∧ NR w A' n' c' q k ∧ v = mkRat p (den1 q)
/-- .. the good form of v. -/
def QG (w : World) (s : Bool) (A : Option Addr) (n c : Nat) (A' : Option Addr) (n' c' : Nat) (v : Rat) (k : Nat) : Prop :=
  ZG w s A n c v.num k ∧ NG w A' n' c' v.den k
section
variable {w w' : World} {s : Bool} {A A' : Option Addr} {n c n' c' k k1 : Nat} {v : Rat}
theorem QR.below (h : QR w s A n c A' n' c' v k) (hb : Below w.heap.size w w') : QR w' s A n c A' n' c' v k := by
  obtain ⟨p, q, h1, h2, h3⟩ := h; exact ⟨p, q, h1.below hb, h2.below hb, h3⟩
theorem QG.below (h : QG w s A n c A' n' c' v k) (hb : Below w.heap.size w w') : QG w' s A n c A' n' c' v k := ⟨h.1.below hb, h.2.below hb⟩
theorem QG.qr (h : QG w s A n c A' n' c' v k) : QR w s A n c A' n' c' v k :=
  ⟨v.num, v.den, h.1.zr, h.2.nr, by rw [den1_of v.den_nz, Rat.mkRat_self]⟩
theorem NR.only' {g V : Nat} (h : NR w A n c V k) (ho : Off A n g) (hb : Only g w w') : NR w' A n c V k := by
  obtain ⟨l, h1, h2⟩ := h; exact ⟨l, h1.only ho hb, h2⟩
theorem NR.off3 {g V : Nat} {t : Bool} {A1 A2 : Option Addr} {n1 c1 n2 c2 : Nat} (h : NR w A n c V k) (Z : B3 w g (.bool t) (.slice A1 n1 c1) (.slice A2 n2 c2)) : Off A n g := by
  obtain ⟨l, h1, h2⟩ := h; exact Z.offx h1
theorem NR.off2 {g V : Nat} {t : Bool} {A1 : Option Addr} {n1 c1 : Nat} (h : NR w A n c V k) (Z : Bx w g (.bool t) (.slice A1 n1 c1)) : Off A n g := by
  obtain ⟨l, h1, h2⟩ := h; exact Z.offx h1
theorem QG.set3 {g : Nat} {t : Bool} {A1 A2 : Option Addr} {n1 c1 n2 c2 : Nat} (h : QG w s A n c A' n' c' v k) (Z : B3 w g (.bool t) (.slice A1 n1 c1) (.slice A2 n2 c2)) (x y z : Value) :
    QG (((w.setCell ⟨g, 0, none⟩ x).setCell ⟨g, 1, none⟩ y).setCell ⟨g, 2, none⟩ z) s A n c A' n' c' v k := by
  have ho : Only g w (((w.setCell ⟨g, 0, none⟩ x).setCell ⟨g, 1, none⟩ y).setCell ⟨g, 2, none⟩ z) := (((Only.refl g w).setCell 0 _).setCell 1 _).setCell 2 _
  exact ⟨⟨h.1.1, h.1.2.1.only (Z.offx h.1.2.1) ho, h.1.2.2⟩, ⟨h.2.1.only (Z.offx h.2.1) ho, h.2.2⟩⟩
theorem ZR.set2x {g : Nat} {t : Bool} {A1 : Option Addr} {n1 c1 : Nat} {p : Int} (h : ZR w s A n c p k) (Z : Bx w g (.bool t) (.slice A1 n1 c1)) (x y : Value) :
    ZR ((w.setCell ⟨g, 0, none⟩ x).setCell ⟨g, 1, none⟩ y) s A n c p k := by
  obtain ⟨l, h1, h2⟩ := h
  exact ⟨l, h1.only (Z.offx h1) (((Only.refl g w).setCell 0 _).setCell 1 _), h2⟩
theorem ZG.set2x {g : Nat} {t : Bool} {A1 : Option Addr} {n1 c1 : Nat} {p : Int} (h : ZG w s A n c p k) (Z : Bx w g (.bool t) (.slice A1 n1 c1)) (x y : Value) :
    ZG ((w.setCell ⟨g, 0, none⟩ x).setCell ⟨g, 1, none⟩ y) s A n c p k :=
  ⟨h.1, h.2.1.only (Z.offx h.2.1) (((Only.refl g w).setCell 0 _).setCell 1 _), h.2.2⟩
end
def GivesQ (w : World) (v : Rat) (k : Nat) (e : Ending) (w' : World) : Prop :=
  ∃ s A n c A' n' c', e = .returned (.agg #[.bool s, .slice A n c, .slice A' n' c']) ∧ QG w' s A n c A' n' c' v k ∧ Below w.heap.size w w'

set_option maxRecDepth 100000 in
set_option maxHeartbeats 2000000 in
theorem isone_nr {w : World} {A : Option Addr} {n c V k : Nat} (X : NR w A n c V k) (hk : k ≤ 100000) :
    Calls Tryz.prog 107 #[.slice A n c] w fun e w' => e = .returned (.bool (decide (V = 1))) ∧ w = w' := by
  have HB := Lib.hid (bl_is1 V)
  go_enter Tryz.func107, Tryz.ntmps107
  go_wp2_with (go_at_call 95; ((with_reducible refine (bits_nr X (by omega)).mono ?_); rintro e w' ⟨rfl, rfl⟩))
  go_ret
  rw [HB.out]
  exact ⟨rfl, rfl⟩

/-- Both numbers by what divides both. -/
def GivesL (w : World) (U V k1 k2 : Nat) (e : Ending) (w' : World) : Prop :=
  ∃ A n c A' n' c', e = .returned (.tuple #[.slice A n c, .slice A' n' c']) ∧ NG w' A n c U k1 ∧ NG w' A' n' c' V k2 ∧ Below w.heap.size w w'
set_option maxRecDepth 100000 in
set_option maxHeartbeats 2000000 in
theorem lowest_nr {w : World} {A B : Option Addr} {n c m d U V k1 k2 : Nat} (X : NR w A n c U k1) (Y : NR w B m d V k2) (h1 : k1 ≤ 1000) (h2 : k2 ≤ 1000) (hV : V ≠ 0) :
    Calls Tryz.prog 96 #[.slice A n c, .slice B m d] w (GivesL w (U / Nat.gcd U V) (V / Nat.gcd U V) k1 k2) := by
  have hb : Below w.heap.size w w := Below.refl _ _
  have hg : Nat.gcd U V ≠ 0 := by have := Nat.gcd_pos_of_pos_right U (show 0 < V by omega); omega
  have HG := Lib.hid hg
  clear hg hV
  go_enter Tryz.func96, Tryz.ntmps96
  go_wp2_with (first
      | (go_at_call 137; (with_reducible refine (gcd_nr (k := k1 + k2) (X.more (by omega)) (Y.more (by omega)) (by omega)).mono ?_); rintro e w_g ⟨A_g, n_g, c_g, rfl, g, hh⟩
         try replace X := X.below hh
         try replace Y := Y.below hh
         replace hb := bend hb hh)
      | (go_at_call 140; (with_reducible refine (dm_nr X g.nr (by omega) (by omega) HG.out).mono ?_); rintro e w_x ⟨A_x, n_x, c_x, A_r, n_r, c_r, rfl, x, r, hh⟩
         try replace X := X.below hh
         try replace Y := Y.below hh
         try replace g := g.below hh
         replace hb := bend hb hh)
      | (go_at_call 140; (with_reducible refine (dm_nr Y g.nr (by omega) (by omega) HG.out).mono ?_); rintro e w_y ⟨A_y, n_y, c_y, A_t, n_t, c_t, rfl, y, t, hh⟩
         try replace X := X.below hh
         try replace Y := Y.below hh
         try replace g := g.below hh
         try replace x := x.below hh
         try replace r := r.below hh
         replace hb := bend hb hh))
  go_ret2
  exact ⟨A_x, n_x, c_x, A_y, n_y, c_y, rfl, x, y, hb⟩

theorem ZR.nr {w : World} {s : Bool} {A : Option Addr} {n c k : Nat} {v : Int} (h : ZR w s A n c v k) : NR w A n c v.natAbs k := by
  obtain ⟨l, h1, h2, rfl, h4, h5, h6⟩ := h
  exact ⟨l, h1, h2, (iv_natAbs _ _).symm, h4, h5⟩
theorem ZR.uv {w : World} {s : Bool} {A : Option Addr} {n c k : Nat} {v : Int} (h : ZR w s A n c v k) : v = iv s v.natAbs := by
  obtain ⟨l, h1, h2, rfl, h4, h5, h6⟩ := h
  rw [iv_natAbs]
theorem ZR.ofn {w : World} {s : Bool} {A : Option Addr} {n c k V : Nat} (h : NR w A n c V k) : ZR w s A n c (iv s V) k := by
  have := h.lt
  obtain ⟨l, h1, h2, rfl, h4, h5⟩ := h
  exact ⟨l, h1, h2, rfl, h4, h5, by rw [iv_natAbs]; exact this⟩
set_option maxRecDepth 100000 in
set_option maxHeartbeats 2000000 in
theorem make_zero {w : World} {s t : Bool} {A B : Option Addr} {n c m d k : Nat} {q : Int} (Y : ZR w t B m d q k) (hk : k ≤ 1000) (hq : q = 0) :
    Calls Tryz.prog 34 #[.agg #[.bool s, .slice A n c], .agg #[.bool t, .slice B m d]] w fun e w' => e = .returned (.tuple #[.agg #[.bool false, .slice none 0 0, .slice none 0 0], .int .i64 12]) ∧ Below w.heap.size w w' := by
  have HB : Hid ((((bl q.natAbs : Nat) : Int) == 0) = true) := by show _ = true; rw [bl_is0, hq]; rfl
  clear hq
  go_enter Tryz.func34, Tryz.ntmps34
  go_wp2_with fail
  generalize hW : (((w.alloc (Obj.cells #[Value.bool s, Value.slice A n c] 24)).alloc (Obj.cells #[Value.bool t, Value.slice B m d] 24)).alloc (Obj.cells #[Value.bool false, Value.slice none 0 0, Value.slice none 0 0] 26)) = W
  have hb : Below w.heap.size w W := by subst hW; exact ((((Below.refl _ _).alloc (Nat.le_refl _) _).alloc (by simp) _).alloc (by simp; omega) _)
  have XA : Bx W (w.heap.size) (Value.bool s) (Value.slice A n c) := by subst hW; exact ((Bx.new' _ _ _ _ rfl).alloc _).alloc _
  have XB : Bx W (w.heap.size + 1) (Value.bool t) (Value.slice B m d) := by subst hW; exact (Bx.new' _ _ _ _ (by simp)).alloc _
  have Z : B3 W (w.heap.size + 1 + 1) (Value.bool false) (Value.slice none 0 0) (Value.slice none 0 0) := by subst hW; exact B3.new' _ _ _ _ _ (by simp)
  have hzW : W.heap.size = w.heap.size + 3 := by subst hW; simp
  clear hW
  replace Y := Y.below hb
  have xa0 := XA.c0
  have xa1 := XA.c1
  have xb0 := XB.c0
  have xb1 := XB.c1
  have z0 := Z.c0
  have z1 := Z.c1
  have z2 := Z.c2
  have zf0 := Z.f0
  have zf1 := Z.f1
  have zf2 := Z.f2
  go_wp2_with (go_at_call 95; ((with_reducible refine (bits_nr Y.nr (by omega)).mono ?_); rintro e w' ⟨rfl, rfl⟩; rw [show (((bl q.natAbs : Nat) : Int)) = 0 from by simpa using HB.out]))
  have Z2 := Z.set3 (.bool false) (.slice none 0 0) (.slice none 0 0)
  have g0 := Z2.c0
  have g1 := Z2.c1
  have g2 := Z2.c2
  refine bodyPost_ret (v := .tuple #[.agg #[.bool false, .slice none 0 0, .slice none 0 0], .int .i64 12]) (by simp [results, Tryz.results34, go_sem, g0, g1, g2]) rfl ?_
  exact ⟨rfl, below_set3 hb (by omega) _ _ _⟩

/-- The call tells the fraction v, and no error. -/
def GivesQE (w : World) (v : Rat) (k : Nat) (e : Ending) (w' : World) : Prop :=
  ∃ s A n c A' n' c', e = .returned (.tuple #[.agg #[.bool s, .slice A n c, .slice A' n' c'], .int .i64 0]) ∧ QG w' s A n c A' n' c' v k ∧ Below w.heap.size w w'
theorem close_q {w : World} {s t : Bool} {A B : Option Addr} {n c m d U V k1 k2 k : Nat} (hV : V ≠ 0) (x : NG w A n c (U / Nat.gcd U V) k1) (y : NG w B m d (V / Nat.gcd U V) k2) (h1 : k1 ≤ k) (h2 : k2 ≤ k) :
    QG w ((s != t) && decide (0 < n)) A n c B m d (Rat.divInt (iv s U) (iv t V)) k := by
  have hq : iv t V ≠ 0 := by cases t <;> simp [iv] <;> omega
  have e1 := div_num (p := iv s U) hq
  have e2 := div_den (p := iv s U) hq
  rw [iv_natAbs, iv_natAbs] at e1 e2
  have h3 : decide (0 < n) = decide (0 < U / Nat.gcd U V) := by
    have h5 := limbs_len_pos (V := U / Nat.gcd U V) (n := n) (x.rd.1)
    exact h5
  have hxn := x.more h1
  have hyn := y.more h2
  rw [← e1] at hxn
  rw [← e2] at hyn
  exact ⟨⟨by rw [div_neg hV, h3], hxn.1, hxn.2⟩, hyn⟩

set_option maxRecDepth 100000 in
set_option maxHeartbeats 2000000 in
theorem make_same {w : World} {s : Bool} {A B : Option Addr} {n c m d U V k1 k2 : Nat} (X : NR w A n c U k1) (Y : NR w B m d V k2) (h1 : k1 ≤ 1000) (h2 : k2 ≤ 1000) (hV : V ≠ 0) (k : Nat) (hk1 : k1 ≤ k) (hk2 : k2 ≤ k) :
    Calls Tryz.prog 34 #[.agg #[.bool s, .slice A n c], .agg #[.bool s, .slice B m d]] w (GivesQE w (Rat.divInt (iv s U) (iv s V)) k) := by
  have hne : (s != s) = false := by cases s <;> rfl
  have HB : Hid ((((bl V : Nat) : Int) == 0) = false) := by show _ = false; rw [bl_is0]; exact decide_eq_false hV
  have HV := Lib.hid hV
  clear hV
  go_enter Tryz.func34, Tryz.ntmps34
  go_wp2_with fail
  generalize hW : (((w.alloc (Obj.cells #[Value.bool s, Value.slice A n c] 24)).alloc (Obj.cells #[Value.bool s, Value.slice B m d] 24)).alloc (Obj.cells #[Value.bool false, Value.slice none 0 0, Value.slice none 0 0] 26)) = W
  have hb : Below w.heap.size w W := by subst hW; exact ((((Below.refl _ _).alloc (Nat.le_refl _) _).alloc (by simp) _).alloc (by simp; omega) _)
  have XA : Bx W (w.heap.size) (Value.bool s) (Value.slice A n c) := by subst hW; exact ((Bx.new' _ _ _ _ rfl).alloc _).alloc _
  have XB : Bx W (w.heap.size + 1) (Value.bool s) (Value.slice B m d) := by subst hW; exact (Bx.new' _ _ _ _ (by simp)).alloc _
  have Z : B3 W (w.heap.size + 1 + 1) (Value.bool false) (Value.slice none 0 0) (Value.slice none 0 0) := by subst hW; exact B3.new' _ _ _ _ _ (by simp)
  have hzW : W.heap.size = w.heap.size + 3 := by subst hW; simp
  clear hW
  replace X := X.below hb
  replace Y := Y.below hb
  have xa0 := XA.c0
  have xa1 := XA.c1
  have xb0 := XB.c0
  have xb1 := XB.c1
  have hbl := HB.out
  go_upto_region 4 with (first
      | (go_at_call 95; (with_reducible refine (bits_nr Y (by omega)).mono ?_); rintro e w_b ⟨rfl, rfl⟩)
      | (go_at_call 96; (with_reducible refine (lowest_nr X Y h1 h2 HV.out).mono ?_); rintro e w_l ⟨A_x, n_x, c_x, A_y, n_y, c_y, rfl, x, y, hh⟩
         clear hbl
         try replace X := X.below hh
         try replace Y := Y.below hh
         try replace XA := XA.below hh
         try replace XB := XB.below hh
         try replace Z := Z.below hh
         replace hb := bend hb hh
         have xa0 := XA.c0
         have xa1 := XA.c1
         have xb0 := XB.c0
         have xb1 := XB.c1
         have z0 := Z.c0
         have z1 := Z.c1
         have z2 := Z.c2))
  have zf0 := Z.f0
  have zf1 := Z.f1
  have zf2 := Z.f2
  go_wp2_with fail
  have Z2 := Z.set3 (.bool (false)) (.slice A_x n_x c_x) (.slice A_y n_y c_y)
  have g0 := Z2.c0
  have g1 := Z2.c1
  have g2 := Z2.c2
  refine bodyPost_ret (v := .tuple #[.agg #[.bool (false), .slice A_x n_x c_x, .slice A_y n_y c_y], .int .i64 0]) (by simp [results, Tryz.results34, go_sem, g0, g1, g2]) rfl ?_
  have hc := close_q (s := s) (t := s) HV.out x y hk1 hk2
  rw [hne] at hc
  refine ⟨_, A_x, n_x, c_x, A_y, n_y, c_y, rfl, ?_, below_set3 hb (by omega) _ _ _⟩
  have := hc.set3 Z (.bool (false)) (.slice A_x n_x c_x) (.slice A_y n_y c_y)
  simpa using this

set_option maxRecDepth 100000 in
set_option maxHeartbeats 2000000 in
theorem make_diff {w : World} {s : Bool} {A B : Option Addr} {n c m d U V k1 k2 : Nat} (X : NR w A n c U k1) (Y : NR w B m d V k2) (h1 : k1 ≤ 1000) (h2 : k2 ≤ 1000) (hV : V ≠ 0) (k : Nat) (hk1 : k1 ≤ k) (hk2 : k2 ≤ k) :
    Calls Tryz.prog 34 #[.agg #[.bool s, .slice A n c], .agg #[.bool (!s), .slice B m d]] w (GivesQE w (Rat.divInt (iv s U) (iv (!s) V)) k) := by
  have hne : (s != (!s)) = true := by cases s <;> rfl
  have HB : Hid ((((bl V : Nat) : Int) == 0) = false) := by show _ = false; rw [bl_is0]; exact decide_eq_false hV
  have HV := Lib.hid hV
  clear hV
  go_enter Tryz.func34, Tryz.ntmps34
  go_wp2_with fail
  generalize hW : (((w.alloc (Obj.cells #[Value.bool s, Value.slice A n c] 24)).alloc (Obj.cells #[Value.bool (!s), Value.slice B m d] 24)).alloc (Obj.cells #[Value.bool false, Value.slice none 0 0, Value.slice none 0 0] 26)) = W
  have hb : Below w.heap.size w W := by subst hW; exact ((((Below.refl _ _).alloc (Nat.le_refl _) _).alloc (by simp) _).alloc (by simp; omega) _)
  have XA : Bx W (w.heap.size) (Value.bool s) (Value.slice A n c) := by subst hW; exact ((Bx.new' _ _ _ _ rfl).alloc _).alloc _
  have XB : Bx W (w.heap.size + 1) (Value.bool (!s)) (Value.slice B m d) := by subst hW; exact (Bx.new' _ _ _ _ (by simp)).alloc _
  have Z : B3 W (w.heap.size + 1 + 1) (Value.bool false) (Value.slice none 0 0) (Value.slice none 0 0) := by subst hW; exact B3.new' _ _ _ _ _ (by simp)
  have hzW : W.heap.size = w.heap.size + 3 := by subst hW; simp
  clear hW
  replace X := X.below hb
  replace Y := Y.below hb
  have xa0 := XA.c0
  have xa1 := XA.c1
  have xb0 := XB.c0
  have xb1 := XB.c1
  have hbl := HB.out
  go_upto_region 4 with (first
      | (go_at_call 95; (with_reducible refine (bits_nr Y (by omega)).mono ?_); rintro e w_b ⟨rfl, rfl⟩)
      | (go_at_call 96; (with_reducible refine (lowest_nr X Y h1 h2 HV.out).mono ?_); rintro e w_l ⟨A_x, n_x, c_x, A_y, n_y, c_y, rfl, x, y, hh⟩
         clear hbl
         try replace X := X.below hh
         try replace Y := Y.below hh
         try replace XA := XA.below hh
         try replace XB := XB.below hh
         try replace Z := Z.below hh
         replace hb := bend hb hh
         have xa0 := XA.c0
         have xa1 := XA.c1
         have xb0 := XB.c0
         have xb1 := XB.c1
         have z0 := Z.c0
         have z1 := Z.c1
         have z2 := Z.c2))
  have zf0 := Z.f0
  have zf1 := Z.f1
  have zf2 := Z.f2
  go_wp2_with fail
  have Z2 := Z.set3 (.bool (decide (0 < n_x))) (.slice A_x n_x c_x) (.slice A_y n_y c_y)
  have g0 := Z2.c0
  have g1 := Z2.c1
  have g2 := Z2.c2
  refine bodyPost_ret (v := .tuple #[.agg #[.bool (decide (0 < n_x)), .slice A_x n_x c_x, .slice A_y n_y c_y], .int .i64 0]) (by simp [results, Tryz.results34, go_sem, g0, g1, g2]) rfl ?_
  have hc := close_q (s := s) (t := (!s)) HV.out x y hk1 hk2
  rw [hne] at hc
  refine ⟨_, A_x, n_x, c_x, A_y, n_y, c_y, rfl, ?_, below_set3 hb (by omega) _ _ _⟩
  have := hc.set3 Z (.bool (decide (0 < n_x))) (.slice A_x n_x c_x) (.slice A_y n_y c_y)
  simpa using this

theorem bool_not {s t : Bool} (h : ¬ t = s) : t = !s := by cases s <;> cases t <;> simp_all
theorem ZR.more {w : World} {s : Bool} {A : Option Addr} {n c k k1 : Nat} {v : Int} (h : ZR w s A n c v k) (hk : k ≤ k1) : ZR w s A n c v k1 := by
  obtain ⟨l, a1, a2, a3, a4, a5, a6⟩ := h
  exact ⟨l, a1, a2, a3, a4, by omega, Nat.lt_of_lt_of_le a6 (Nat.pow_le_pow_right (by decide) hk)⟩
theorem make_zr {w : World} {s t : Bool} {A B : Option Addr} {n c m d k1 k2 : Nat} {p q : Int} (k : Nat) (X : ZR w s A n c p k1) (Y : ZR w t B m d q k2) (h1 : k1 ≤ 1000) (h2 : k2 ≤ 1000) (hq : q ≠ 0) (hk1 : k1 ≤ k) (hk2 : k2 ≤ k) :
    Calls Tryz.prog 34 #[.agg #[.bool s, .slice A n c], .agg #[.bool t, .slice B m d]] w (GivesQE w (Rat.divInt p q) k) := by
  have hp := X.uv
  have hqq := Y.uv
  by_cases ht : t = s
  · subst ht
    have := make_same (s := t) X.nr Y.nr h1 h2 (by omega) k hk1 hk2
    rwa [← hp, ← hqq] at this
  · have ht' : t = !s := bool_not ht
    subst ht'
    have := make_diff (s := s) X.nr Y.nr h1 h2 (by omega) k hk1 hk2
    rwa [← hp, ← hqq] at this
end Go.Proofs.YtmcijgnbdnpanaaGreat
