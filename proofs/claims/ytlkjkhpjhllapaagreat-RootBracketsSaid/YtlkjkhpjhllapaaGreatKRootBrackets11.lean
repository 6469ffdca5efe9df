/- RootBrackets: part 11. -/
import Derived.BigRegion
import Derived.Deep.Cut
import Derived.Deep.CutRange
import Derived.IntWalk
import Derived.Orders
import Derived.Test.YtlkjkhpjhllapaaGreatProg
import Derived.WalkKit
import Derived.Test.YtlkjkhpjhllapaaGreatKRootBrackets6
import Derived.Test.YtlkjkhpjhllapaaGreatKRootBrackets9
import Derived.Test.YtlkjkhpjhllapaaGreatKRootBrackets10
set_option linter.unusedVariables false
namespace Go.Proofs.YtlkjkhpjhllapaaGreat
open Go Go.RowKit
def B3 (W : World) (g : Nat) (x y z : Value) : Prop := W.heap[g]? = some (.cells #[x, y, z] 26 (0, 0))
section
variable {W W' : World} {g : Nat} {x y z : Value}
theorem B3.c0 (h : B3 W g x y z) : W.cell? ⟨g, 0, none⟩ = some x := by rw [cell_of_row W g 0 _ _ (0, 0) h]; rfl
theorem B3.c1 (h : B3 W g x y z) : W.cell? ⟨g, 1, none⟩ = some y := by rw [cell_of_row W g 1 _ _ (0, 0) h]; rfl
theorem B3.c2 (h : B3 W g x y z) : W.cell? ⟨g, 2, none⟩ = some z := by rw [cell_of_row W g 2 _ _ (0, 0) h]; rfl
theorem B3.f0 (h : B3 W g x y z) : W.frozen? ⟨g, 0, none⟩ = false := frozen_of_row W g 0 _ _ h
theorem B3.f1 (h : B3 W g x y z) : W.frozen? ⟨g, 1, none⟩ = false := frozen_of_row W g 1 _ _ h
theorem B3.f2 (h : B3 W g x y z) : W.frozen? ⟨g, 2, none⟩ = false := frozen_of_row W g 2 _ _ h
theorem B3.lt (h : B3 W g x y z) : g < W.heap.size := World.block_lt_of_cell? W _ h.c0
theorem B3.below (h : B3 W g x y z) (hb : Below W.heap.size W W') : B3 W' g x y z := (hb.block g h.lt).trans h
theorem B3.drew (h : B3 W g x y z) : B3 W.drew g x y z := h
theorem B3.alloc (h : B3 W g x y z) (o : Obj) : B3 (W.alloc o) g x y z := (Below.heap_alloc W o g h.lt).trans h
theorem B3.new' (W : World) (x y z : Value) (g : Nat) (hg : g = W.heap.size) : B3 (W.alloc (.cells #[x, y, z] 26)) g x y z := by subst hg; exact heap_alloc_new W _
theorem B3.set3 (h : B3 W g x y z) (a b c : Value) : B3 (((W.setCell ⟨g, 0, none⟩ a).setCell ⟨g, 1, none⟩ b).setCell ⟨g, 2, none⟩ c) g a b c := by
  unfold B3 at h ⊢
  simp [World.setCell, Array.getElem?_modify, h]
theorem B3.offx {s : Bool} {A A1 A2 : Option Addr} {n n1 n2 c1 c2 : Nat} {K : IntKind} {l : List Nat} (h : B3 W g (.bool s) (.slice A1 n1 c1) (.slice A2 n2 c2)) (hr : Rd K W A n l) : Off A n g := by
  intro hn ad e hg
  obtain ⟨b, o, eA, hc⟩ := hr.at_ hn
  obtain ⟨x, _, hx⟩ := hc 0 hn
  rw [eA] at e
  cases e
  have hg2 : b = g := hg
  subst hg2
  rw [cell_of_row W b (o + 0) _ _ (0, 0) h] at hx
  match o, hx with
  | 0, hx => cases hx
  | 1, hx => cases hx
  | 2, hx => cases hx
  | o + 3, hx => cases hx
end
theorem set3_cell (W : World) (g k o : Nat) (x y z : Value) (h : k ≠ g) : (((W.setCell ⟨g, 0, none⟩ x).setCell ⟨g, 1, none⟩ y).setCell ⟨g, 2, none⟩ z).cell? ⟨k, o, none⟩ = W.cell? ⟨k, o, none⟩ := by
  rw [World.cell?_of_block (Below.heap_setCell _ _ _ _ h), World.cell?_of_block (Below.heap_setCell _ _ _ _ h), World.cell?_of_block (Below.heap_setCell _ _ _ _ h)]
theorem below_set3 {B g : Nat} {w W : World} (h : Below B w W) (hg : B ≤ g) (x y z : Value) : Below B w (((W.setCell ⟨g, 0, none⟩ x).setCell ⟨g, 1, none⟩ y).setCell ⟨g, 2, none⟩ z) := ((h.setCell hg _).setCell hg _).setCell hg _
def QR (w : World) (s : Bool) (A : Option Addr) (n c : Nat) (A' : Option Addr) (n' c' : Nat) (v : Rat) (k : Nat) : Prop :=
  ∃ p q, ZR w s A n c p k ∧ NR w A' n' c' q k ∧ v = mkRat p (den1 q)
def QG (w : World) (s : Bool) (A : Option Addr) (n c : Nat) (A' : Option Addr) (n' c' : Nat) (v : Rat) (k : Nat) : Prop :=
  ZG w s A n c v.num k ∧ NG w A' n' c' v.den k
section
variable {w w' : World} {s : Bool} {A A' : Option Addr} {n c n' c' k k1 : Nat} {v : Rat}
theorem QR.below (h : QR w s A n c A' n' c' v k) (hb : Below w.heap.size w w') : QR w' s A n c A' n' c' v k := by
  obtain ⟨p, q, h1, h2, h3⟩ := h; exact ⟨p, q, h1.below hb, h2.below hb, h3⟩
theorem QG.below (h : QG w s A n c A' n' c' v k) (hb : Below w.heap.size w w') : QG w' s A n c A' n' c' v k := ⟨h.1.below hb, h.2.below hb⟩
theorem QG.qr (h : QG w s A n c A' n' c' v k) : QR w s A n c A' n' c' v k :=
  ⟨v.num, v.den, h.1.zr, h.2.nr, by rw [den1_of v.den_nz, Rat.mkRat_self]⟩
theorem NR.only' {g V : Nat} (h : NR w A n c V k) (ho : Off A n g) (hb : Only g w w') : NR w' A n c V k := by
  obtain ⟨l, h1, h2⟩ := h; exact ⟨l, h1.only ho hb, h2⟩
theorem NR.off3 {g V : Nat} {t : Bool} {A1 A2 : Option Addr} {n1 c1 n2 c2 : Nat} (h : NR w A n c V k) (Z : B3 w g (.bool t) (.slice A1 n1 c1) (.slice A2 n2 c2)) : Off A n g := by
  obtain ⟨l, h1, h2⟩ := h; exact Z.offx h1
theorem QG.set3 {g : Nat} {t : Bool} {A1 A2 : Option Addr} {n1 c1 n2 c2 : Nat} (h : QG w s A n c A' n' c' v k) (Z : B3 w g (.bool t) (.slice A1 n1 c1) (.slice A2 n2 c2)) (x y z : Value) :
    QG (((w.setCell ⟨g, 0, none⟩ x).setCell ⟨g, 1, none⟩ y).setCell ⟨g, 2, none⟩ z) s A n c A' n' c' v k := by
  have ho : Only g w (((w.setCell ⟨g, 0, none⟩ x).setCell ⟨g, 1, none⟩ y).setCell ⟨g, 2, none⟩ z) := (((Only.refl g w).setCell 0 _).setCell 1 _).setCell 2 _
  exact ⟨⟨h.1.1, h.1.2.1.only (Z.offx h.1.2.1) ho, h.1.2.2⟩, ⟨h.2.1.only (Z.offx h.2.1) ho, h.2.2⟩⟩
theorem ZR.set2x {g : Nat} {t : Bool} {A1 : Option Addr} {n1 c1 : Nat} {p : Int} (h : ZR w s A n c p k) (Z : Bx w g (.bool t) (.slice A1 n1 c1)) (x y : Value) :
    ZR ((w.setCell ⟨g, 0, none⟩ x).setCell ⟨g, 1, none⟩ y) s A n c p k := by
  obtain ⟨l, h1, h2⟩ := h
  exact ⟨l, h1.only (Z.offx h1) (((Only.refl g w).setCell 0 _).setCell 1 _), h2⟩
theorem ZG.set2x {g : Nat} {t : Bool} {A1 : Option Addr} {n1 c1 : Nat} {p : Int} (h : ZG w s A n c p k) (Z : Bx w g (.bool t) (.slice A1 n1 c1)) (x y : Value) :
    ZG ((w.setCell ⟨g, 0, none⟩ x).setCell ⟨g, 1, none⟩ y) s A n c p k :=
  ⟨h.1, h.2.1.only (Z.offx h.2.1) (((Only.refl g w).setCell 0 _).setCell 1 _), h.2.2⟩
end
def GivesQ (w : World) (v : Rat) (k : Nat) (e : Ending) (w' : World) : Prop :=
  ∃ s A n c A' n' c', e = .returned (.agg #[.bool s, .slice A n c, .slice A' n' c']) ∧ QG w' s A n c A' n' c' v k ∧ Below w.heap.size w w'
set_option maxRecDepth 100000 in
set_option maxHeartbeats 2000000 in
theorem isone_nr {w : World} {A : Option Addr} {n c V k : Nat} (X : NR w A n c V k) (hk : k ≤ 100000) :
    Calls Tryz.prog 131 #[.slice A n c] w fun e w' => e = .returned (.bool (decide (V = 1))) ∧ w = w' := by
  have HB := Lib.hid (bl_is1 V)
  go_enter Tryz.func131, Tryz.ntmps131
  go_wp2_with (go_at_call 128; ((with_reducible refine (bits_nr X (by omega)).mono ?_); rintro e w' ⟨rfl, rfl⟩))
  go_ret
  rw [HB.out]
  exact ⟨rfl, rfl⟩
def GivesL (w : World) (U V k1 k2 : Nat) (e : Ending) (w' : World) : Prop :=
  ∃ A n c A' n' c', e = .returned (.tuple #[.slice A n c, .slice A' n' c']) ∧ NG w' A n c U k1 ∧ NG w' A' n' c' V k2 ∧ Below w.heap.size w w'
set_option maxRecDepth 100000 in
set_option maxHeartbeats 2000000 in
theorem lowest_nr {w : World} {A B : Option Addr} {n c m d U V k1 k2 : Nat} (X : NR w A n c U k1) (Y : NR w B m d V k2) (h1 : k1 ≤ 1000) (h2 : k2 ≤ 1000) (hV : V ≠ 0) :
    Calls Tryz.prog 135 #[.slice A n c, .slice B m d] w (GivesL w (U / Nat.gcd U V) (V / Nat.gcd U V) k1 k2) := by
  have hb : Below w.heap.size w w := Below.refl _ _
  have hg : Nat.gcd U V ≠ 0 := by have := Nat.gcd_pos_of_pos_right U (show 0 < V by omega); omega
  have HG := Lib.hid hg
  clear hg hV
  go_enter Tryz.func135, Tryz.ntmps135
  go_wp2_with (first
      | (go_at_call 177; (with_reducible refine (gcd_nr (k := k1 + k2) (X.more (by omega)) (Y.more (by omega)) (by omega)).mono ?_); rintro e w_g ⟨A_g, n_g, c_g, rfl, g, hh⟩
         try replace X := X.below hh
         try replace Y := Y.below hh
         replace hb := bend hb hh)
      | (go_at_call 189; (with_reducible refine (dm_nr X g.nr (by omega) (by omega) HG.out).mono ?_); rintro e w_x ⟨A_x, n_x, c_x, A_r, n_r, c_r, rfl, x, r, hh⟩
         try replace X := X.below hh
         try replace Y := Y.below hh
         try replace g := g.below hh
         replace hb := bend hb hh)
      | (go_at_call 189; (with_reducible refine (dm_nr Y g.nr (by omega) (by omega) HG.out).mono ?_); rintro e w_y ⟨A_y, n_y, c_y, A_t, n_t, c_t, rfl, y, t, hh⟩
         try replace X := X.below hh
         try replace Y := Y.below hh
         try replace g := g.below hh
         try replace x := x.below hh
         try replace r := r.below hh
         replace hb := bend hb hh))
  go_ret2
  exact ⟨A_x, n_x, c_x, A_y, n_y, c_y, rfl, x, y, hb⟩
theorem ZR.nr {w : World} {s : Bool} {A : Option Addr} {n c k : Nat} {v : Int} (h : ZR w s A n c v k) : NR w A n c v.natAbs k := by
  obtain ⟨l, h1, h2, rfl, h4, h5, h6⟩ := h
  exact ⟨l, h1, h2, (iv_natAbs _ _).symm, h4, h5⟩
theorem ZR.uv {w : World} {s : Bool} {A : Option Addr} {n c k : Nat} {v : Int} (h : ZR w s A n c v k) : v = iv s v.natAbs := by
  obtain ⟨l, h1, h2, rfl, h4, h5, h6⟩ := h
  rw [iv_natAbs]
theorem ZR.ofn {w : World} {s : Bool} {A : Option Addr} {n c k V : Nat} (h : NR w A n c V k) : ZR w s A n c (iv s V) k := by
  have := h.lt
  obtain ⟨l, h1, h2, rfl, h4, h5⟩ := h
  exact ⟨l, h1, h2, rfl, h4, h5, by rw [iv_natAbs]; exact this⟩
def GivesQE (w : World) (v : Rat) (k : Nat) (e : Ending) (w' : World) : Prop :=
  ∃ s A n c A' n' c', e = .returned (.tuple #[.agg #[.bool s, .slice A n c, .slice A' n' c'], .int .i64 0]) ∧ QG w' s A n c A' n' c' v k ∧ Below w.heap.size w w'
theorem close_q {w : World} {s t : Bool} {A B : Option Addr} {n c m d U V k1 k2 k : Nat} (hV : V ≠ 0) (x : NG w A n c (U / Nat.gcd U V) k1) (y : NG w B m d (V / Nat.gcd U V) k2) (h1 : k1 ≤ k) (h2 : k2 ≤ k) :
    QG w ((s != t) && decide (0 < n)) A n c B m d (Rat.divInt (iv s U) (iv t V)) k := by
  have hq : iv t V ≠ 0 := by cases t <;> simp [iv] <;> omega
  have e1 := div_num (p := iv s U) hq
  have e2 := div_den (p := iv s U) hq
  rw [iv_natAbs, iv_natAbs] at e1 e2
  have h3 : decide (0 < n) = decide (0 < U / Nat.gcd U V) := by
    have h5 := limbs_len_pos (V := U / Nat.gcd U V) (n := n) (x.rd.1)
    exact h5
  have hxn := x.more h1
  have hyn := y.more h2
  rw [← e1] at hxn
  rw [← e2] at hyn
  exact ⟨⟨by rw [div_neg hV, h3], hxn.1, hxn.2⟩, hyn⟩
set_option maxRecDepth 100000 in
set_option maxHeartbeats 2000000 in
theorem make_same {w : World} {s : Bool} {A B : Option Addr} {n c m d U V k1 k2 : Nat} (X : NR w A n c U k1) (Y : NR w B m d V k2) (h1 : k1 ≤ 1000) (h2 : k2 ≤ 1000) (hV : V ≠ 0) (k : Nat) (hk1 : k1 ≤ k) (hk2 : k2 ≤ k) :
    Calls Tryz.prog 43 #[.agg #[.bool s, .slice A n c], .agg #[.bool s, .slice B m d]] w (GivesQE w (Rat.divInt (iv s U) (iv s V)) k) := by
  have hne : (s != s) = false := by cases s <;> rfl
  have HB : Hid ((((bl V : Nat) : Int) == 0) = false) := by show _ = false; rw [bl_is0]; exact decide_eq_false hV
  have HV := Lib.hid hV
  clear hV
  go_enter Tryz.func43, Tryz.ntmps43
  go_wp2_with fail
  generalize hW : (((w.alloc (Obj.cells #[Value.bool s, Value.slice A n c] 24)).alloc (Obj.cells #[Value.bool s, Value.slice B m d] 24)).alloc (Obj.cells #[Value.bool false, Value.slice none 0 0, Value.slice none 0 0] 26)) = W
  have hb : Below w.heap.size w W := by subst hW; exact ((((Below.refl _ _).alloc (Nat.le_refl _) _).alloc (by simp) _).alloc (by simp; omega) _)
  have XA : Bx W (w.heap.size) (Value.bool s) (Value.slice A n c) := by subst hW; exact ((Bx.new' _ _ _ _ rfl).alloc _).alloc _
  have XB : Bx W (w.heap.size + 1) (Value.bool s) (Value.slice B m d) := by subst hW; exact (Bx.new' _ _ _ _ (by simp)).alloc _
  have Z : B3 W (w.heap.size + 1 + 1) (Value.bool false) (Value.slice none 0 0) (Value.slice none 0 0) := by subst hW; exact B3.new' _ _ _ _ _ (by simp)
  have hzW : W.heap.size = w.heap.size + 3 := by subst hW; simp
  clear hW
  replace X := X.below hb
  replace Y := Y.below hb
  have xa0 := XA.c0
  have xa1 := XA.c1
  have xb0 := XB.c0
  have xb1 := XB.c1
  have hbl := HB.out
  go_upto_region 4 with (first
      | (go_at_call 128; (with_reducible refine (bits_nr Y (by omega)).mono ?_); rintro e w_b ⟨rfl, rfl⟩)
      | (go_at_call 135; (with_reducible refine (lowest_nr X Y h1 h2 HV.out).mono ?_); rintro e w_l ⟨A_x, n_x, c_x, A_y, n_y, c_y, rfl, x, y, hh⟩
         clear hbl
         try replace X := X.below hh
         try replace Y := Y.below hh
         try replace XA := XA.below hh
         try replace XB := XB.below hh
         try replace Z := Z.below hh
         replace hb := bend hb hh
         have xa0 := XA.c0
         have xa1 := XA.c1
         have xb0 := XB.c0
         have xb1 := XB.c1
         have z0 := Z.c0
         have z1 := Z.c1
         have z2 := Z.c2))
  have zf0 := Z.f0
  have zf1 := Z.f1
  have zf2 := Z.f2
  go_wp2_with fail
  have Z2 := Z.set3 (.bool (false)) (.slice A_x n_x c_x) (.slice A_y n_y c_y)
  have g0 := Z2.c0
  have g1 := Z2.c1
  have g2 := Z2.c2
  refine bodyPost_ret (v := .tuple #[.agg #[.bool (false), .slice A_x n_x c_x, .slice A_y n_y c_y], .int .i64 0]) (by simp [results, Tryz.results43, go_sem, g0, g1, g2]) rfl ?_
  have hc := close_q (s := s) (t := s) HV.out x y hk1 hk2
  rw [hne] at hc
  refine ⟨_, A_x, n_x, c_x, A_y, n_y, c_y, rfl, ?_, below_set3 hb (by omega) _ _ _⟩
  have := hc.set3 Z (.bool (false)) (.slice A_x n_x c_x) (.slice A_y n_y c_y)
  simpa using this
set_option maxRecDepth 100000 in
set_option maxHeartbeats 2000000 in
theorem make_diff {w : World} {s : Bool} {A B : Option Addr} {n c m d U V k1 k2 : Nat} (X : NR w A n c U k1) (Y : NR w B m d V k2) (h1 : k1 ≤ 1000) (h2 : k2 ≤ 1000) (hV : V ≠ 0) (k : Nat) (hk1 : k1 ≤ k) (hk2 : k2 ≤ k) :
    Calls Tryz.prog 43 #[.agg #[.bool s, .slice A n c], .agg #[.bool (!s), .slice B m d]] w (GivesQE w (Rat.divInt (iv s U) (iv (!s) V)) k) := by
  have hne : (s != (!s)) = true := by cases s <;> rfl
  have HB : Hid ((((bl V : Nat) : Int) == 0) = false) := by show _ = false; rw [bl_is0]; exact decide_eq_false hV
  have HV := Lib.hid hV
  clear hV
  go_enter Tryz.func43, Tryz.ntmps43
  go_wp2_with fail
  generalize hW : (((w.alloc (Obj.cells #[Value.bool s, Value.slice A n c] 24)).alloc (Obj.cells #[Value.bool (!s), Value.slice B m d] 24)).alloc (Obj.cells #[Value.bool false, Value.slice none 0 0, Value.slice none 0 0] 26)) = W
  have hb : Below w.heap.size w W := by subst hW; exact ((((Below.refl _ _).alloc (Nat.le_refl _) _).alloc (by simp) _).alloc (by simp; omega) _)
  have XA : Bx W (w.heap.size) (Value.bool s) (Value.slice A n c) := by subst hW; exact ((Bx.new' _ _ _ _ rfl).alloc _).alloc _
  have XB : Bx W (w.heap.size + 1) (Value.bool (!s)) (Value.slice B m d) := by subst hW; exact (Bx.new' _ _ _ _ (by simp)).alloc _
  have Z : B3 W (w.heap.size + 1 + 1) (Value.bool false) (Value.slice none 0 0) (Value.slice none 0 0) := by subst hW; exact B3.new' _ _ _ _ _ (by simp)
  have hzW : W.heap.size = w.heap.size + 3 := by subst hW; simp
  clear hW
  replace X := X.below hb
  replace Y := Y.below hb
  have xa0 := XA.c0
  have xa1 := XA.c1
  have xb0 := XB.c0
  have xb1 := XB.c1
  have hbl := HB.out
  go_upto_region 4 with (first
      | (go_at_call 128; (with_reducible refine (bits_nr Y (by omega)).mono ?_); rintro e w_b ⟨rfl, rfl⟩)
      | (go_at_call 135; (with_reducible refine (lowest_nr X Y h1 h2 HV.out).mono ?_); rintro e w_l ⟨A_x, n_x, c_x, A_y, n_y, c_y, rfl, x, y, hh⟩
         clear hbl
         try replace X := X.below hh
         try replace Y := Y.below hh
         try replace XA := XA.below hh
         try replace XB := XB.below hh
         try replace Z := Z.below hh
         replace hb := bend hb hh
         have xa0 := XA.c0
         have xa1 := XA.c1
         have xb0 := XB.c0
         have xb1 := XB.c1
         have z0 := Z.c0
         have z1 := Z.c1
         have z2 := Z.c2))
  have zf0 := Z.f0
  have zf1 := Z.f1
  have zf2 := Z.f2
  go_wp2_with fail
  have Z2 := Z.set3 (.bool (decide (0 < n_x))) (.slice A_x n_x c_x) (.slice A_y n_y c_y)
  have g0 := Z2.c0
  have g1 := Z2.c1
  have g2 := Z2.c2
  refine bodyPost_ret (v := .tuple #[.agg #[.bool (decide (0 < n_x)), .slice A_x n_x c_x, .slice A_y n_y c_y], .int .i64 0]) (by simp [results, Tryz.results43, go_sem, g0, g1, g2]) rfl ?_
  have hc := close_q (s := s) (t := (!s)) HV.out x y hk1 hk2
  rw [hne] at hc
  refine ⟨_, A_x, n_x, c_x, A_y, n_y, c_y, rfl, ?_, below_set3 hb (by omega) _ _ _⟩
  have := hc.set3 Z (.bool (decide (0 < n_x))) (.slice A_x n_x c_x) (.slice A_y n_y c_y)
  simpa using this
theorem bool_not {s t : Bool} (h : ¬ t = s) : t = !s := by cases s <;> cases t <;> simp_all
theorem ZR.more {w : World} {s : Bool} {A : Option Addr} {n c k k1 : Nat} {v : Int} (h : ZR w s A n c v k) (hk : k ≤ k1) : ZR w s A n c v k1 := by
  obtain ⟨l, a1, a2, a3, a4, a5, a6⟩ := h
  exact ⟨l, a1, a2, a3, a4, by omega, Nat.lt_of_lt_of_le a6 (Nat.pow_le_pow_right (by decide) hk)⟩
theorem make_zr {w : World} {s t : Bool} {A B : Option Addr} {n c m d k1 k2 : Nat} {p q : Int} (k : Nat) (X : ZR w s A n c p k1) (Y : ZR w t B m d q k2) (h1 : k1 ≤ 1000) (h2 : k2 ≤ 1000) (hq : q ≠ 0) (hk1 : k1 ≤ k) (hk2 : k2 ≤ k) :
    Calls Tryz.prog 43 #[.agg #[.bool s, .slice A n c], .agg #[.bool t, .slice B m d]] w (GivesQE w (Rat.divInt p q) k) := by
  have hp := X.uv
  have hqq := Y.uv
  by_cases ht : t = s
  · subst ht
    have := make_same (s := t) X.nr Y.nr h1 h2 (by omega) k hk1 hk2
    rwa [← hp, ← hqq] at this
  · have ht' : t = !s := bool_not ht
    subst ht'
    have := make_diff (s := s) X.nr Y.nr h1 h2 (by omega) k hk1 hk2
    rwa [← hp, ← hqq] at this
end Go.Proofs.YtlkjkhpjhllapaaGreat
namespace Go.Proofs.YtlkjkhpjhllapaaGreat
open Go Go.RowKit
def GivesP (w : World) (p q : Int) (k : Nat) (e : Ending) (w' : World) : Prop :=
  ∃ s A n c t B m d, e = .returned (.tuple #[.agg #[.bool s, .slice A n c], .agg #[.bool t, .slice B m d]]) ∧ ZR w' s A n c p k ∧ ZR w' t B m d q k ∧ Below w.heap.size w w'
theorem two_set {w W : World} {g1 g2 n c m d k n1 c1 n2 c2 : Nat} {s t a b : Bool} {A B A1 A2 : Option Addr} {p q : Int} (hb : Below w.heap.size w W) (h1 : w.heap.size ≤ g1) (h2 : w.heap.size ≤ g2) (hne : g1 ≠ g2)
    (Z1 : Bx W g1 (.bool a) (.slice A1 n1 c1)) (Z2 : Bx W g2 (.bool b) (.slice A2 n2 c2)) (X : ZR W s A n c p k) (Y : ZR W t B m d q k) (x y z u : Value) :
    ZR ((((W.setCell ⟨g1, 0, none⟩ x).setCell ⟨g1, 1, none⟩ y).setCell ⟨g2, 0, none⟩ z).setCell ⟨g2, 1, none⟩ u) s A n c p k ∧
    ZR ((((W.setCell ⟨g1, 0, none⟩ x).setCell ⟨g1, 1, none⟩ y).setCell ⟨g2, 0, none⟩ z).setCell ⟨g2, 1, none⟩ u) t B m d q k ∧
    Below w.heap.size w ((((W.setCell ⟨g1, 0, none⟩ x).setCell ⟨g1, 1, none⟩ y).setCell ⟨g2, 0, none⟩ z).setCell ⟨g2, 1, none⟩ u) := by
  have Z3 := Z2.other (k := g1) (Ne.symm hne) x y
  exact ⟨(X.set2x Z1 x y).set2x Z3 z u, (Y.set2x Z1 x y).set2x Z3 z u, (((hb.setCell h1 _).setCell h1 _).setCell h2 _).setCell h2 _⟩
set_option maxRecDepth 100000 in
set_option maxHeartbeats 2000000 in
theorem parts_zero {w : World} {s : Bool} {A A' : Option Addr} {n c n' c' k q : Nat} {p : Int} (X : ZR w s A n c p k) (Q : NR w A' n' c' q k) (hk : k ≤ 1000) (hk1 : 1 ≤ k) (hq : q = 0) :
    Calls Tryz.prog 114 #[.agg #[.bool s, .slice A n c, .slice A' n' c']] w (GivesP w p 1 k) := by
  have HB : Hid ((((bl q : Nat) : Int) == 0) = true) := by show _ = true; rw [bl_is0, hq]; rfl
  clear hq
  go_enter Tryz.func114, Tryz.ntmps114
  go_wp2_with fail
  generalize hW : (((w.alloc (Obj.cells #[Value.bool s, Value.slice A n c, Value.slice A' n' c'] 26)).alloc (Obj.cells #[Value.bool false, Value.slice none 0 0] 24)).alloc (Obj.cells #[Value.bool false, Value.slice none 0 0] 24)) = W
  have hb : Below w.heap.size w W := by subst hW; exact ((((Below.refl _ _).alloc (Nat.le_refl _) _).alloc (by simp) _).alloc (by simp; omega) _)
  have XA : B3 W (w.heap.size) (Value.bool s) (Value.slice A n c) (Value.slice A' n' c') := by subst hW; exact ((B3.new' _ _ _ _ _ rfl).alloc _).alloc _
  have Z1 : Bx W (w.heap.size + 1) (Value.bool false) (Value.slice none 0 0) := by subst hW; exact (Bx.new' _ _ _ _ (by simp)).alloc _
  have Z2 : Bx W (w.heap.size + 1 + 1) (Value.bool false) (Value.slice none 0 0) := by subst hW; exact Bx.new' _ _ _ _ (by simp)
  have hzW : W.heap.size = w.heap.size + 3 := by subst hW; simp
  clear hW
  replace X := X.below hb
  replace Q := Q.below hb
  have xa0 := XA.c0
  have xa1 := XA.c1
  have xa2 := XA.c2
  have hbl := HB.out
  go_upto_region 2 with ((go_at_call 128; ((with_reducible refine (bits_nr Q (by omega)).mono ?_); rintro e w' ⟨rfl, rfl⟩)))
  clear hbl
  replace X := X.below (Below.refl _ _).drew
  replace XA := XA.below (Below.refl _ _).drew
  replace Z1 := Z1.below (Below.refl _ _).drew
  replace Z2 := Z2.below (Below.refl _ _).drew
  replace hb := hb.drew
  go_region_held3 (fun w' => w'.cell? ⟨w.heap.size, 0, none⟩ = some (Value.bool s) ∧ w'.cell? ⟨w.heap.size, 1, none⟩ = some (Value.slice A n c) ∧ w'.cell? ⟨w.heap.size, 2, none⟩ = some (Value.slice A' n' c'))
    (first | with_reducible exact ⟨XA.c0, XA.c1, XA.c2⟩ | with_reducible exact ⟨(set2_cell _ _ _ _ _ _ (by omega)).trans (XA.c0), (set2_cell _ _ _ _ _ _ (by omega)).trans (XA.c1), (set2_cell _ _ _ _ _ _ (by omega)).trans (XA.c2)⟩ | with_reducible exact ⟨(set2_cell _ _ _ _ _ _ (by omega)).trans ((set2_cell _ _ _ _ _ _ (by omega)).trans (XA.c0)), (set2_cell _ _ _ _ _ _ (by omega)).trans ((set2_cell _ _ _ _ _ _ (by omega)).trans (XA.c1)), (set2_cell _ _ _ _ _ _ (by omega)).trans ((set2_cell _ _ _ _ _ _ (by omega)).trans (XA.c2))⟩)
    (first
    | (go_at_call 45; (with_reducible refine (zof_zr 1 (by decide) (by decide) _).mono ?_); rintro e w_o ⟨s_o, A_o, n_o, c_o, rfl, o, hh⟩
       try replace X := X.below hh
       try replace XA := XA.below hh
       try replace Z1 := Z1.below hh
       try replace Z2 := Z2.below hh
       replace hb := bend hb hh
       have z0 := Z1.c0
       have z1 := Z1.c1
       have z2 := Z1.f0
       have z3 := Z1.f1
       have y0 := Z2.c0
       have y1 := Z2.c1
       have y2 := Z2.f0
       have y3 := Z2.f1
       have Z2o := Z2.other (k := w.heap.size + 1) (by omega) (.bool s) (.slice A n c)
       have zo0 := Z2o.c0
       have zo1 := Z2o.c1
       have zo2 := Z2o.f0
       have zo3 := Z2o.f1))
  replace o := o.more (show 1 ≤ k from hk1)
  have Y := o
  go_wp2_with fail
  have G1 := (Z1.set2 (.bool s) (.slice A n c)).other (k := w.heap.size + 1 + 1) (by omega) (.bool s_o) (.slice A_o n_o c_o)
  have G2 := (Z2.other (k := w.heap.size + 1) (by omega) (.bool s) (.slice A n c)).set2 (.bool s_o) (.slice A_o n_o c_o)
  have g0 := G1.c0
  have g1 := G1.c1
  have g2 := G2.c0
  have g3 := G2.c1
  have HT := two_set hb (by omega) (by omega) (by omega) Z1 Z2 X Y (.bool s) (.slice A n c) (.bool s_o) (.slice A_o n_o c_o)
  refine bodyPost_ret (v := .tuple #[.agg #[.bool s, .slice A n c], .agg #[.bool s_o, .slice A_o n_o c_o]]) (by simp [results, Tryz.results114, go_sem, g0, g1, g2, g3]) rfl ?_
  exact ⟨s, A, n, c, _, _, _, _, rfl, HT.1, HT.2.1, HT.2.2⟩
set_option maxRecDepth 100000 in
set_option maxHeartbeats 2000000 in
theorem parts_pos {w : World} {s : Bool} {A A' : Option Addr} {n c n' c' k q : Nat} {p : Int} (X : ZR w s A n c p k) (Q : NR w A' n' c' q k) (hk : k ≤ 1000) (hq : q ≠ 0) :
    Calls Tryz.prog 114 #[.agg #[.bool s, .slice A n c, .slice A' n' c']] w (GivesP w p (q : Int) k) := by
  have HB : Hid ((((bl q : Nat) : Int) == 0) = false) := by show _ = false; rw [bl_is0]; exact decide_eq_false hq
  clear hq
  go_enter Tryz.func114, Tryz.ntmps114
  go_wp2_with fail
  generalize hW : (((w.alloc (Obj.cells #[Value.bool s, Value.slice A n c, Value.slice A' n' c'] 26)).alloc (Obj.cells #[Value.bool false, Value.slice none 0 0] 24)).alloc (Obj.cells #[Value.bool false, Value.slice none 0 0] 24)) = W
  have hb : Below w.heap.size w W := by subst hW; exact ((((Below.refl _ _).alloc (Nat.le_refl _) _).alloc (by simp) _).alloc (by simp; omega) _)
  have XA : B3 W (w.heap.size) (Value.bool s) (Value.slice A n c) (Value.slice A' n' c') := by subst hW; exact ((B3.new' _ _ _ _ _ rfl).alloc _).alloc _
  have Z1 : Bx W (w.heap.size + 1) (Value.bool false) (Value.slice none 0 0) := by subst hW; exact (Bx.new' _ _ _ _ (by simp)).alloc _
  have Z2 : Bx W (w.heap.size + 1 + 1) (Value.bool false) (Value.slice none 0 0) := by subst hW; exact Bx.new' _ _ _ _ (by simp)
  have hzW : W.heap.size = w.heap.size + 3 := by subst hW; simp
  clear hW
  replace X := X.below hb
  replace Q := Q.below hb
  have xa0 := XA.c0
  have xa1 := XA.c1
  have xa2 := XA.c2
  have hbl := HB.out
  go_upto_region 3 with ((go_at_call 128; ((with_reducible refine (bits_nr Q (by omega)).mono ?_); rintro e w' ⟨rfl, rfl⟩)))
  clear hbl
  have z0 := Z1.c0
  have z1 := Z1.c1
  have z2 := Z1.f0
  have z3 := Z1.f1
  have y0 := Z2.c0
  have y1 := Z2.c1
  have y2 := Z2.f0
  have y3 := Z2.f1
  have Z2o := Z2.other (k := w.heap.size + 1) (by omega) (.bool s) (.slice A n c)
  have zo0 := Z2o.c0
  have zo1 := Z2o.c1
  have zo2 := Z2o.f0
  have zo3 := Z2o.f1
  go_region
  have Y := ZR.ofn (s := false) Q
  rw [show iv false q = (q : Int) from rfl] at Y
  go_wp2_with fail
  have G1 := (Z1.set2 (.bool s) (.slice A n c)).other (k := w.heap.size + 1 + 1) (by omega) (.bool false) (.slice A' n' c')
  have G2 := (Z2.other (k := w.heap.size + 1) (by omega) (.bool s) (.slice A n c)).set2 (.bool false) (.slice A' n' c')
  have g0 := G1.c0
  have g1 := G1.c1
  have g2 := G2.c0
  have g3 := G2.c1
  have HT := two_set hb (by omega) (by omega) (by omega) Z1 Z2 X Y (.bool s) (.slice A n c) (.bool false) (.slice A' n' c')
  refine bodyPost_ret (v := .tuple #[.agg #[.bool s, .slice A n c], Value.agg #[.bool false, .slice A' n' c']]) (by simp [results, Tryz.results114, go_sem, g0, g1, g2, g3]) rfl ?_
  exact ⟨s, A, n, c, _, _, _, _, rfl, HT.1.drew, HT.2.1.drew, HT.2.2.drew⟩
theorem parts_any {w : World} {s : Bool} {A A' : Option Addr} {n c n' c' k q : Nat} {p : Int} (X : ZR w s A n c p k) (Q : NR w A' n' c' q k) (hk : k ≤ 1000) (hk1 : 1 ≤ k) :
    Calls Tryz.prog 114 #[.agg #[.bool s, .slice A n c, .slice A' n' c']] w (GivesP w p (den1 q : Int) k) := by
  by_cases hq : q = 0
  · have h := parts_zero X Q hk hk1 hq
    rw [hq]; exact h
  · rw [den1_of hq]; exact parts_pos X Q hk hq
set_option maxRecDepth 100000 in
set_option maxHeartbeats 2000000 in
theorem by_zr {w : World} {s t : Bool} {A B : Option Addr} {n c m d k1 k2 : Nat} {p q : Int} (k : Nat) (X : ZR w s A n c p k1) (Y : ZR w t B m d q k2) (h1 : k1 ≤ 1000) (h2 : k2 ≤ 1000) (hq : q ≠ 0) (hk1 : k1 ≤ k) (hk2 : k2 ≤ k) :
    Calls Tryz.prog 109 #[.agg #[.bool s, .slice A n c], .agg #[.bool t, .slice B m d]] w (GivesQ w (Rat.divInt p q) k) := by
  have HQ := Lib.hid hq
  clear hq
  go_enter Tryz.func109, Tryz.ntmps109
  go_wp2_with fail
  generalize hW : (((w.alloc (Obj.cells #[Value.bool s, Value.slice A n c] 24)).alloc (Obj.cells #[Value.bool t, Value.slice B m d] 24)).alloc (Obj.cells #[Value.bool false, Value.slice none 0 0, Value.slice none 0 0] 26)) = W
  have hb : Below w.heap.size w W := by subst hW; exact ((((Below.refl _ _).alloc (Nat.le_refl _) _).alloc (by simp) _).alloc (by simp; omega) _)
  have XA : Bx W (w.heap.size) (Value.bool s) (Value.slice A n c) := by subst hW; exact ((Bx.new' _ _ _ _ rfl).alloc _).alloc _
  have XB : Bx W (w.heap.size + 1) (Value.bool t) (Value.slice B m d) := by subst hW; exact (Bx.new' _ _ _ _ (by simp)).alloc _
  have Z : B3 W (w.heap.size + 1 + 1) (Value.bool false) (Value.slice none 0 0) (Value.slice none 0 0) := by subst hW; exact B3.new' _ _ _ _ _ (by simp)
  have hzW : W.heap.size = w.heap.size + 3 := by subst hW; simp
  clear hW
  replace X := X.below hb
  replace Y := Y.below hb
  have xa0 := XA.c0
  have xa1 := XA.c1
  have xb0 := XB.c0
  have xb1 := XB.c1
  go_upto_region 2 with (first
      | (go_at_call 43; (with_reducible refine (make_zr k X Y h1 h2 HQ.out hk1 hk2).mono ?_); rintro e w_r ⟨s_r, A_r, n_r, c_r, B_r, m_r, d_r, rfl, r, hh⟩
         try replace XA := XA.below hh
         try replace XB := XB.below hh
         try replace Z := Z.below hh
         replace hb := bend hb hh))
  generalize hW : (w_r.alloc (Obj.cells #[Value.bool s_r, Value.slice A_r n_r c_r, Value.slice B_r m_r d_r] 26)) = W2
  have hh : Below w_r.heap.size w_r W2 := by subst hW; exact ((Below.refl _ _).alloc (Nat.le_refl _) _)
  have R : B3 W2 (w_r.heap.size) (Value.bool s_r) (Value.slice A_r n_r c_r) (Value.slice B_r m_r d_r) := by subst hW; exact B3.new' _ _ _ _ _ rfl
  have hzW2 : W2.heap.size = w_r.heap.size + 1 := by subst hW; simp
  clear hW
  try replace r := r.below hh
  try replace Z := Z.below hh
  replace hb := bend hb hh
  have r0 := R.c0
  have r1 := R.c1
  have r2 := R.c2
  have zf0 := Z.f0
  have zf1 := Z.f1
  have zf2 := Z.f2
  have z0 := Z.c0
  have z1 := Z.c1
  have z2 := Z.c2
  go_wp2_with fail
  have Z2 := Z.set3 (.bool s_r) (.slice A_r n_r c_r) (.slice B_r m_r d_r)
  have g0 := Z2.c0
  have g1 := Z2.c1
  have g2 := Z2.c2
  refine bodyPost_ret (v := .agg #[.bool s_r, .slice A_r n_r c_r, .slice B_r m_r d_r]) (by simp [results, Tryz.results109, go_sem, g0, g1, g2]) rfl ?_
  exact ⟨s_r, A_r, n_r, c_r, B_r, m_r, d_r, rfl, r.set3 Z _ _ _, below_set3 hb (by omega) _ _ _⟩
end Go.Proofs.YtlkjkhpjhllapaaGreat
namespace Go.Proofs.YtlkjkhpjhllapaaGreat
open Go Go.RowKit
theorem absQ_mk (p : Int) {q : Nat} (hq : q ≠ 0) : mkRat (p.natAbs : Int) q = (mkRat p q).abs := by
  unfold Rat.abs
  by_cases h : 0 ≤ p
  · rw [if_pos ((mk_nonneg hq).2 h)]; congr 1; omega
  · rw [if_neg (fun q' => h ((mk_nonneg hq).1 q')), mk_neg]; congr 1; omega
theorem den1_i (q : Nat) : (den1 q : Int) ≠ 0 := by have := den1_ne q; omega
set_option maxRecDepth 100000 in
set_option maxHeartbeats 4000000 in
theorem rabs_q {w : World} {s : Bool} {A A' : Option Addr} {n c n' c' k : Nat} {v : Rat} (X0 : QR w s A n c A' n' c' v k) (hk : k ≤ 900) (hk1 : 1 ≤ k) :
    Calls Tryz.prog 33 #[.agg #[.bool s, .slice A n c, .slice A' n' c']] w (GivesQ w v.abs k) := by
  obtain ⟨p, q, X, Q, rfl⟩ := X0
  have HE : Hid (Rat.divInt (iv false p.natAbs) (den1 q : Int) = (mkRat p (den1 q)).abs) := by show _ = _; rw [Rat.divInt_ofNat, ← absQ_mk p (den1_ne q)]; rfl
  go_enter Tryz.func33, Tryz.ntmps33
  go_wp2_with fail
  generalize hW : ((w.alloc (Obj.cells #[Value.bool s, Value.slice A n c, Value.slice A' n' c'] 26)).alloc (Obj.cells #[Value.bool false, Value.slice none 0 0, Value.slice none 0 0] 26)) = W
  have hb : Below w.heap.size w W := by subst hW; exact (((Below.refl _ _).alloc (Nat.le_refl _) _).alloc (by simp) _)
  have XA : B3 W (w.heap.size) (Value.bool s) (Value.slice A n c) (Value.slice A' n' c') := by subst hW; exact (B3.new' _ _ _ _ _ rfl).alloc _
  have Z : B3 W (w.heap.size + 1) (Value.bool false) (Value.slice none 0 0) (Value.slice none 0 0) := by subst hW; exact B3.new' _ _ _ _ _ (by simp)
  have hzW : W.heap.size = w.heap.size + 2 := by subst hW; simp
  clear hW
  replace X := X.below hb
  replace Q := Q.below hb
  have xa0 := XA.c0
  have xa1 := XA.c1
  have xa2 := XA.c2
  go_upto_region 2 with (first
      | (go_at_call 114; (with_reducible refine (parts_any X Q (by omega) hk1).mono ?_); rintro e w_p ⟨s_x, A_x, n_x, c_x, s_y, A_y, n_y, c_y, rfl, x, y, hh⟩
         try replace X := X.below hh
         try replace Q := Q.below hh
         try replace m := m.below hh
         try replace XA := XA.below hh
         try replace Z := Z.below hh
         try replace XP := XP.below hh
         try replace XQ := XQ.below hh
         replace hb := bend hb hh))
  have hp1 := Z.lt
  generalize hW : ((w_p.alloc (Obj.cells #[Value.bool s_x, Value.slice A_x n_x c_x] 24)).alloc (Obj.cells #[Value.bool s_y, Value.slice A_y n_y c_y] 24)) = W2
  have hh : Below w_p.heap.size w_p W2 := by subst hW; exact (((Below.refl _ _).alloc (Nat.le_refl _) _).alloc (by simp) _)
  have XP : Bx W2 (w_p.heap.size) (Value.bool s_x) (Value.slice A_x n_x c_x) := by subst hW; exact (Bx.new' _ _ _ _ rfl).alloc _
  have XQ : Bx W2 (w_p.heap.size + 1) (Value.bool s_y) (Value.slice A_y n_y c_y) := by subst hW; exact Bx.new' _ _ _ _ (by simp)
  have hzW2 : W2.heap.size = w_p.heap.size + 2 := by subst hW; simp
  clear hW
  try replace x := x.below hh
  try replace y := y.below hh
  try replace Z := Z.below hh
  replace hb := bend hb hh
  have xp0 := XP.c0
  have xp1 := XP.c1
  have xq0 := XQ.c0
  have xq1 := XQ.c1
  have m := ZR.ofn (s := false) x.nr
  go_wp2_with (first
    | (go_at_call 109; (with_reducible refine (by_zr k m y (by omega) (by omega) (den1_i q) (by omega) (by omega)).mono ?_); rintro e w_r ⟨s_r, A_r, n_r, c_r, B_r, m_r, d_r, rfl, r, hh⟩
       rw [HE.out] at r
       try replace X := X.below hh
       try replace Q := Q.below hh
       try replace x := x.below hh
       try replace y := y.below hh
       try replace m := m.below hh
       try replace XA := XA.below hh
       try replace Z := Z.below hh
       try replace XP := XP.below hh
       try replace XQ := XQ.below hh
       replace hb := bend hb hh
       have zf0 := Z.f0
       have zf1 := Z.f1
       have zf2 := Z.f2
       have z0 := Z.c0
       have z1 := Z.c1
       have z2 := Z.c2))
  have Z2 := Z.set3 (.bool s_r) (.slice A_r n_r c_r) (.slice B_r m_r d_r)
  have g0 := Z2.c0
  have g1 := Z2.c1
  have g2 := Z2.c2
  refine bodyPost_ret (v := .agg #[.bool s_r, .slice A_r n_r c_r, .slice B_r m_r d_r]) (by simp [results, Tryz.results33, go_sem, g0, g1, g2]) rfl ?_
  exact ⟨s_r, A_r, n_r, c_r, B_r, m_r, d_r, rfl, r.set3 Z _ _ _, below_set3 hb (by omega) _ _ _⟩
set_option maxRecDepth 100000 in
set_option maxHeartbeats 4000000 in
theorem rfloor_q {w : World} {s : Bool} {A A' : Option Addr} {n c n' c' k : Nat} {v : Rat} (X0 : QR w s A n c A' n' c' v k) (hk : k ≤ 900) (hk1 : 1 ≤ k) :
    Calls Tryz.prog 96 #[.agg #[.bool s, .slice A n c, .slice A' n' c']] w (GivesZG w v.floor (k + 1)) := by
  obtain ⟨p, q, X, Q, rfl⟩ := X0
  have HE : Hid (p.fdiv (den1 q : Int) = (mkRat p (den1 q)).floor) := (mk_floor (den1_ne q)).symm
  go_enter Tryz.func96, Tryz.ntmps96
  go_wp2_with fail
  generalize hW : ((w.alloc (Obj.cells #[Value.bool s, Value.slice A n c, Value.slice A' n' c'] 26)).alloc (Obj.cells #[Value.bool false, Value.slice none 0 0] 24)) = W
  have hb : Below w.heap.size w W := by subst hW; exact (((Below.refl _ _).alloc (Nat.le_refl _) _).alloc (by simp) _)
  have XA : B3 W (w.heap.size) (Value.bool s) (Value.slice A n c) (Value.slice A' n' c') := by subst hW; exact (B3.new' _ _ _ _ _ rfl).alloc _
  have Z : Bx W (w.heap.size + 1) (Value.bool false) (Value.slice none 0 0) := by subst hW; exact Bx.new' _ _ _ _ (by simp)
  have hzW : W.heap.size = w.heap.size + 2 := by subst hW; simp
  clear hW
  replace X := X.below hb
  replace Q := Q.below hb
  have xa0 := XA.c0
  have xa1 := XA.c1
  have xa2 := XA.c2
  go_upto_region 2 with (first
      | (go_at_call 114; (with_reducible refine (parts_any X Q (by omega) hk1).mono ?_); rintro e w_p ⟨s_x, A_x, n_x, c_x, s_y, A_y, n_y, c_y, rfl, x, y, hh⟩
         try replace X := X.below hh
         try replace Q := Q.below hh
         try replace q1 := q1.below hh
         try replace r1 := r1.below hh
         try replace XA := XA.below hh
         try replace Z := Z.below hh
         try replace XP := XP.below hh
         try replace XQ := XQ.below hh
         replace hb := bend hb hh))
  have hp1 := Z.lt
  generalize hW : ((w_p.alloc (Obj.cells #[Value.bool s_x, Value.slice A_x n_x c_x] 24)).alloc (Obj.cells #[Value.bool s_y, Value.slice A_y n_y c_y] 24)) = W2
  have hh : Below w_p.heap.size w_p W2 := by subst hW; exact (((Below.refl _ _).alloc (Nat.le_refl _) _).alloc (by simp) _)
  have XP : Bx W2 (w_p.heap.size) (Value.bool s_x) (Value.slice A_x n_x c_x) := by subst hW; exact (Bx.new' _ _ _ _ rfl).alloc _
  have XQ : Bx W2 (w_p.heap.size + 1) (Value.bool s_y) (Value.slice A_y n_y c_y) := by subst hW; exact Bx.new' _ _ _ _ (by simp)
  have hzW2 : W2.heap.size = w_p.heap.size + 2 := by subst hW; simp
  clear hW
  try replace x := x.below hh
  try replace y := y.below hh
  try replace Z := Z.below hh
  replace hb := bend hb hh
  have xp0 := XP.c0
  have xp1 := XP.c1
  have xq0 := XQ.c0
  have xq1 := XQ.c1
  go_upto_region 3 with (first
      | (go_at_call 163; (with_reducible refine (zdm_zg (k + 1) x y (den1_i q) hk1 (by omega) (by omega) (by omega)).mono ?_); rintro e w_q ⟨s_a, A_a, n_a, c_a, s_b, A_b, n_b, c_b, rfl, q1, r1, hh⟩
         rw [HE.out] at q1
         try replace X := X.below hh
         try replace Q := Q.below hh
         try replace x := x.below hh
         try replace y := y.below hh
         try replace XA := XA.below hh
         try replace Z := Z.below hh
         try replace XP := XP.below hh
         try replace XQ := XQ.below hh
         replace hb := bend hb hh))
  generalize hW : ((w_q.alloc (Obj.cells #[Value.bool s_a, Value.slice A_a n_a c_a] 24)).alloc (Obj.cells #[Value.bool s_b, Value.slice A_b n_b c_b] 24)) = W3
  have hh : Below w_q.heap.size w_q W3 := by subst hW; exact (((Below.refl _ _).alloc (Nat.le_refl _) _).alloc (by simp) _)
  have XC : Bx W3 (w_q.heap.size) (Value.bool s_a) (Value.slice A_a n_a c_a) := by subst hW; exact (Bx.new' _ _ _ _ rfl).alloc _
  have XD : Bx W3 (w_q.heap.size + 1) (Value.bool s_b) (Value.slice A_b n_b c_b) := by subst hW; exact Bx.new' _ _ _ _ (by simp)
  have hzW3 : W3.heap.size = w_q.heap.size + 2 := by subst hW; simp
  clear hW
  try replace q1 := q1.below hh
  try replace Z := Z.below hh
  replace hb := bend hb hh
  have xc0 := XC.c0
  have xc1 := XC.c1
  have z0 := Z.c0
  have z1 := Z.c1
  have z2 := Z.f0
  have z3 := Z.f1
  go_wp2_with fail
  have Z2 := Z.set2 (.bool s_a) (.slice A_a n_a c_a)
  have g0 := Z2.c0
  have g1 := Z2.c1
  refine bodyPost_ret (v := .agg #[.bool s_a, .slice A_a n_a c_a]) (by simp [results, Tryz.results96, go_sem, g0, g1]) rfl ?_
  exact ⟨s_a, A_a, n_a, c_a, rfl, q1.set2x Z _ _, below_set2 hb (by omega) _ _⟩
set_option maxRecDepth 100000 in
set_option maxHeartbeats 4000000 in
theorem rsign_q {w : World} {s : Bool} {A A' : Option Addr} {n c n' c' k : Nat} {v : Rat} (X0 : QR w s A n c A' n' c' v k) (hk : k ≤ 900) (hk1 : 1 ≤ k) :
    Calls Tryz.prog 30 #[.agg #[.bool s, .slice A n c, .slice A' n' c']] w fun e w' => e = .returned (.int .i64 (sgnQ v)) ∧ Below w.heap.size w w' := by
  obtain ⟨p, q, X, Q, rfl⟩ := X0
  have HE : Hid (sgn p = sgnQ (mkRat p (den1 q))) := (sgnQ_mk (den1_ne q)).symm
  go_enter Tryz.func30, Tryz.ntmps30
  go_wp2_with fail
  generalize hW : (w.alloc (Obj.cells #[Value.bool s, Value.slice A n c, Value.slice A' n' c'] 26)) = W
  have hb : Below w.heap.size w W := by subst hW; exact ((Below.refl _ _).alloc (Nat.le_refl _) _)
  have XA : B3 W (w.heap.size) (Value.bool s) (Value.slice A n c) (Value.slice A' n' c') := by subst hW; exact B3.new' _ _ _ _ _ rfl
  have hzW : W.heap.size = w.heap.size + 1 := by subst hW; simp
  clear hW
  replace X := X.below hb
  replace Q := Q.below hb
  have xa0 := XA.c0
  have xa1 := XA.c1
  have xa2 := XA.c2
  go_wp2_with (first
      | (go_at_call 117; (with_reducible refine (sign_zr X (by omega)).mono ?_); rintro e w_z ⟨rfl, hh⟩
         rw [HE.out]
         try replace X := X.below hh
         try replace Q := Q.below hh
         try replace XA := XA.below hh
         replace hb := bend hb hh))
  go_ret
  exact ⟨rfl, hb⟩
end Go.Proofs.YtlkjkhpjhllapaaGreat
namespace Go.Proofs.YtlkjkhpjhllapaaGreat
open Go.RowKit
theorem below_set2' {B g : Nat} {w W : World} (h : Below B w W) (hg : B ≤ g) (x y : Value) : Below B w ((W.setCell ⟨g, 0, none⟩ x).setCell ⟨g, 1, none⟩ y) := (h.setCell hg _).setCell hg _
end Go.Proofs.YtlkjkhpjhllapaaGreat
namespace Go.Proofs.YtlkjkhpjhllapaaGreat
open Go Go.RowKit
set_option maxRecDepth 100000 in
set_option maxHeartbeats 4000000 in
theorem rof_q (p q : Int) (hp1 : -9223372036854775808 ≤ p) (hp2 : p < 9223372036854775808) (hq1 : -9223372036854775808 ≤ q) (hq2 : q < 9223372036854775808) (hq0 : ((q : Int) == 0) = false) (w : World) :
    Calls Tryz.prog 42 #[.int .i64 p, .int .i64 q] w (GivesQ w (Rat.divInt p q) 1) := by
  have hq : q ≠ 0 := by simpa using hq0
  have HQ := Lib.hid hq
  have H1 := Lib.hid hp1
  have H2 := Lib.hid hp2
  have H3 := Lib.hid hq1
  have H4 := Lib.hid hq2
  clear hq hp1 hp2 hq1 hq2
  go_enter Tryz.func42, Tryz.ntmps42
  go_wp2_with fail
  generalize hW : (w.alloc (Obj.cells #[Value.bool false, Value.slice none 0 0, Value.slice none 0 0] 26)) = W
  have hb : Below w.heap.size w W := by subst hW; exact ((Below.refl _ _).alloc (Nat.le_refl _) _)
  have Z : B3 W (w.heap.size) (Value.bool false) (Value.slice none 0 0) (Value.slice none 0 0) := by subst hW; exact B3.new' _ _ _ _ _ rfl
  have hzW : W.heap.size = w.heap.size + 1 := by subst hW; simp
  clear hW
  go_upto_region 4 with (first
      | (go_at_call 45; (with_reducible refine (zof_zr p H1.out H2.out _).mono ?_); rintro e w_x ⟨s_x, A_x, n_x, c_x, rfl, x, hh⟩
         try replace y := y.below hh
         try replace r := r.below hh
         try replace Z := Z.below hh
         replace hb := bend hb hh)
      | (go_at_call 45; (with_reducible refine (zof_zr q H3.out H4.out _).mono ?_); rintro e w_y ⟨s_y, A_y, n_y, c_y, rfl, y, hh⟩
         try replace x := x.below hh
         try replace r := r.below hh
         try replace Z := Z.below hh
         replace hb := bend hb hh)
      | (go_at_call 43; (with_reducible refine (make_zr 1 x y (by omega) (by omega) HQ.out (Nat.le_refl _) (Nat.le_refl _)).mono ?_); rintro e w_r ⟨s_r, A_r, n_r, c_r, B_r, m_r, d_r, rfl, r, hh⟩
         try replace x := x.below hh
         try replace y := y.below hh
         try replace Z := Z.below hh
         replace hb := bend hb hh))
  generalize hW : (w_r.alloc (Obj.cells #[Value.bool s_r, Value.slice A_r n_r c_r, Value.slice B_r m_r d_r] 26)) = W2
  have hh : Below w_r.heap.size w_r W2 := by subst hW; exact ((Below.refl _ _).alloc (Nat.le_refl _) _)
  have R : B3 W2 (w_r.heap.size) (Value.bool s_r) (Value.slice A_r n_r c_r) (Value.slice B_r m_r d_r) := by subst hW; exact B3.new' _ _ _ _ _ rfl
  have hzW2 : W2.heap.size = w_r.heap.size + 1 := by subst hW; simp
  clear hW
  try replace r := r.below hh
  try replace Z := Z.below hh
  replace hb := bend hb hh
  have r0 := R.c0
  have r1 := R.c1
  have r2 := R.c2
  have zf0 := Z.f0
  have zf1 := Z.f1
  have zf2 := Z.f2
  have z0 := Z.c0
  have z1 := Z.c1
  have z2 := Z.c2
  go_wp2_with fail
  have Z2 := Z.set3 (.bool s_r) (.slice A_r n_r c_r) (.slice B_r m_r d_r)
  have g0 := Z2.c0
  have g1 := Z2.c1
  have g2 := Z2.c2
  refine bodyPost_ret (v := .agg #[.bool s_r, .slice A_r n_r c_r, .slice B_r m_r d_r]) (by simp [results, Tryz.results42, go_sem, g0, g1, g2]) rfl ?_
  exact ⟨s_r, A_r, n_r, c_r, B_r, m_r, d_r, rfl, r.set3 Z _ _ _, below_set3 hb (by omega) _ _ _⟩
theorem ba_app3 (a b : List UInt8) : ((⟨a.toArray⟩ ++ ⟨#[47]⟩) ++ ⟨b.toArray⟩ : ByteArray) = ⟨(a ++ (47 :: b)).toArray⟩ := by
  apply ByteArray.ext
  simp [ByteArray.data_append]
def qtxt (v : Rat) : List UInt8 := if v.den = 1 then ztxt v.num else ztxt v.num ++ (47 :: txt v.den)
theorem ztxt_le {v : Int} {k : Nat} (hv : v.natAbs < B64 ^ k) (hk : k ≤ 800) : (ztxt v).length ≤ 20001 := by
  have := txt_len hv (show k ≤ 900 by omega)
  unfold ztxt
  split
  · rw [List.length_cons]; omega
  · omega
theorem ZR.nab' {w : World} {s : Bool} {A : Option Addr} {n c k : Nat} {v : Int} (h : ZR w s A n c v k) : v.natAbs < B64 ^ k := by
  obtain ⟨l, h1, h2, h3, h4, h5, h6⟩ := h
  exact h6
theorem QG.num_lt {w : World} {s : Bool} {A A' : Option Addr} {n c n' c' k : Nat} {v : Rat} (h : QG w s A n c A' n' c' v k) : v.num.natAbs < B64 ^ k := h.1.zr.nab'
theorem QG.den_lt {w : World} {s : Bool} {A A' : Option Addr} {n c n' c' k : Nat} {v : Rat} (h : QG w s A n c A' n' c' v k) : v.den < B64 ^ k := h.2.nr.lt
set_option maxRecDepth 100000 in
set_option maxHeartbeats 4000000 in
theorem rtext_one {w : World} {s : Bool} {A A' : Option Addr} {n c n' c' k : Nat} {v : Rat} (X0 : QR w s A n c A' n' c' v k) (hk : k ≤ 78) (hk1 : 1 ≤ k) (hd : v.den = 1) :
    Calls Tryz.prog 40 #[.agg #[.bool s, .slice A n c, .slice A' n' c']] w fun e w' => e = .returned (.string ⟨(qtxt v).toArray⟩) ∧ Below w.heap.size w w' := by
  obtain ⟨p, q, X, Q, rfl⟩ := X0
  have HE : Hid (Rat.divInt p (den1 q : Int) = mkRat p (den1 q)) := Rat.divInt_ofNat _ _
  have HD : Hid (decide ((mkRat p (den1 q)).den = 1) = true) := decide_eq_true hd
  have HQ : Hid (qtxt (mkRat p (den1 q)) = ztxt (mkRat p (den1 q)).num) := if_pos hd
  clear hd
  go_enter Tryz.func40, Tryz.ntmps40
  go_wp2_with fail
  generalize hW : (w.alloc (Obj.cells #[Value.bool s, Value.slice A n c, Value.slice A' n' c'] 26)) = W
  have hb : Below w.heap.size w W := by subst hW; exact ((Below.refl _ _).alloc (Nat.le_refl _) _)
  have XA : B3 W (w.heap.size) (Value.bool s) (Value.slice A n c) (Value.slice A' n' c') := by subst hW; exact B3.new' _ _ _ _ _ rfl
  have hzW : W.heap.size = w.heap.size + 1 := by subst hW; simp
  clear hW
  replace X := X.below hb
  replace Q := Q.below hb
  have xa0 := XA.c0
  have xa1 := XA.c1
  have xa2 := XA.c2
  go_upto_region 2 with (first
      | (go_at_call 114; (with_reducible refine (parts_any X Q (by omega) hk1).mono ?_); rintro e w_p ⟨s_x, A_x, n_x, c_x, s_y, A_y, n_y, c_y, rfl, x, y, hh⟩
         try replace X := X.below hh
         try replace Q := Q.below hh
         try replace r := r.below hh
         try replace XA := XA.below hh
         replace hb := bend hb hh)
      | (go_at_call 109; (with_reducible refine (by_zr k x y (by omega) (by omega) (den1_i q) (Nat.le_refl _) (Nat.le_refl _)).mono ?_); rintro e w_r ⟨s_r, A_r, n_r, c_r, B_r, m_r, d_r, rfl, r, hh⟩
         rw [HE.out] at r
         try replace X := X.below hh
         try replace Q := Q.below hh
         try replace x := x.below hh
         try replace y := y.below hh
         try replace XA := XA.below hh
         replace hb := bend hb hh
         have zf0 := XA.f0
         have zf1 := XA.f1
         have zf2 := XA.f2
         have z0 := XA.c0
         have z1 := XA.c1
         have z2 := XA.c2))
  generalize hW : ((w_r.setCell ⟨w.heap.size, 0, none⟩ (.bool s_r)).setCell ⟨w.heap.size, 1, none⟩ (.slice A_r n_r c_r)).setCell ⟨w.heap.size, 2, none⟩ (.slice B_r m_r d_r) = W1
  replace r : QG W1 s_r A_r n_r c_r B_r m_r d_r (mkRat p (den1 q)) k := by subst hW; exact r.set3 XA _ _ _
  replace hb : Below w.heap.size w W1 := by subst hW; exact below_set3 hb (Nat.le_refl _) _ _ _
  have XA3 : B3 W1 w.heap.size (.bool s_r) (.slice A_r n_r c_r) (.slice B_r m_r d_r) := by subst hW; exact XA.set3 _ _ _
  clear hW XA
  have XA := XA3
  clear XA3
  have xa0 := XA.c0
  have xa1 := XA.c1
  have xa2 := XA.c2
  have HR2 := Lib.hid r.2.nr
  have r1 := r.1.zr
  go_wp2_with (first
      | (go_at_call 131; (with_reducible refine (isone_nr HR2.out (by omega)).mono ?_); rintro e w_o ⟨rfl, rfl⟩; rw [HD.out])
      | (go_at_call 95; (with_reducible refine (ztext_zr r1 (by omega)).mono ?_); rintro e w_z ⟨rfl, hh⟩
         try replace X := X.below hh
         try replace Q := Q.below hh
         try replace x := x.below hh
         try replace y := y.below hh
         try replace r := r.below hh
         try replace XA := XA.below hh
         replace hb := bend hb hh))
  go_ret
  rw [HQ.out]
  exact ⟨rfl, hb⟩
set_option maxRecDepth 100000 in
set_option maxHeartbeats 4000000 in
theorem rtext_frac {w : World} {s : Bool} {A A' : Option Addr} {n c n' c' k : Nat} {v : Rat} (X0 : QR w s A n c A' n' c' v k) (hk : k ≤ 78) (hk1 : 1 ≤ k) (hd : ¬ v.den = 1) :
    Calls Tryz.prog 40 #[.agg #[.bool s, .slice A n c, .slice A' n' c']] w fun e w' => e = .returned (.string ⟨(qtxt v).toArray⟩) ∧ Below w.heap.size w w' := by
  obtain ⟨p, q, X, Q, rfl⟩ := X0
  have HE : Hid (Rat.divInt p (den1 q : Int) = mkRat p (den1 q)) := Rat.divInt_ofNat _ _
  have HD : Hid (decide ((mkRat p (den1 q)).den = 1) = false) := decide_eq_false hd
  have HQ : Hid (qtxt (mkRat p (den1 q)) = ztxt (mkRat p (den1 q)).num ++ (47 :: txt (mkRat p (den1 q)).den)) := if_neg hd
  clear hd
  go_enter Tryz.func40, Tryz.ntmps40
  go_wp2_with fail
  generalize hW : (w.alloc (Obj.cells #[Value.bool s, Value.slice A n c, Value.slice A' n' c'] 26)) = W
  have hb : Below w.heap.size w W := by subst hW; exact ((Below.refl _ _).alloc (Nat.le_refl _) _)
  have XA : B3 W (w.heap.size) (Value.bool s) (Value.slice A n c) (Value.slice A' n' c') := by subst hW; exact B3.new' _ _ _ _ _ rfl
  have hzW : W.heap.size = w.heap.size + 1 := by subst hW; simp
  clear hW
  replace X := X.below hb
  replace Q := Q.below hb
  have xa0 := XA.c0
  have xa1 := XA.c1
  have xa2 := XA.c2
  go_upto_region 2 with (first
      | (go_at_call 114; (with_reducible refine (parts_any X Q (by omega) hk1).mono ?_); rintro e w_p ⟨s_x, A_x, n_x, c_x, s_y, A_y, n_y, c_y, rfl, x, y, hh⟩
         try replace X := X.below hh
         try replace Q := Q.below hh
         try replace r := r.below hh
         try replace XA := XA.below hh
         replace hb := bend hb hh)
      | (go_at_call 109; (with_reducible refine (by_zr k x y (by omega) (by omega) (den1_i q) (Nat.le_refl _) (Nat.le_refl _)).mono ?_); rintro e w_r ⟨s_r, A_r, n_r, c_r, B_r, m_r, d_r, rfl, r, hh⟩
         rw [HE.out] at r
         try replace X := X.below hh
         try replace Q := Q.below hh
         try replace x := x.below hh
         try replace y := y.below hh
         try replace XA := XA.below hh
         replace hb := bend hb hh
         have zf0 := XA.f0
         have zf1 := XA.f1
         have zf2 := XA.f2
         have z0 := XA.c0
         have z1 := XA.c1
         have z2 := XA.c2))
  generalize hW : ((w_r.setCell ⟨w.heap.size, 0, none⟩ (.bool s_r)).setCell ⟨w.heap.size, 1, none⟩ (.slice A_r n_r c_r)).setCell ⟨w.heap.size, 2, none⟩ (.slice B_r m_r d_r) = W1
  replace r : QG W1 s_r A_r n_r c_r B_r m_r d_r (mkRat p (den1 q)) k := by subst hW; exact r.set3 XA _ _ _
  replace hb : Below w.heap.size w W1 := by subst hW; exact below_set3 hb (Nat.le_refl _) _ _ _
  have XA3 : B3 W1 w.heap.size (.bool s_r) (.slice A_r n_r c_r) (.slice B_r m_r d_r) := by subst hW; exact XA.set3 _ _ _
  clear hW XA
  have XA := XA3
  clear XA3
  have xa0 := XA.c0
  have xa1 := XA.c1
  have xa2 := XA.c2
  have HR2 := Lib.hid r.2.nr
  have r1 := r.1.zr
  have l1 := ztxt_le r.num_lt (show k ≤ 800 by omega)
  have l2 := txt_len r.den_lt (show k ≤ 900 by omega)
  have hs1 : ¬ 9223372036854775807 < (ztxt (mkRat p (den1 q)).num).length + 1 := by omega
  have hs2 : ¬ 9223372036854775807 < (ztxt (mkRat p (den1 q)).num).length + 1 + (txt (mkRat p (den1 q)).den).length := by omega
  clear l1 l2
  go_upto_region 4 with (first
      | (go_at_call 131; (with_reducible refine (isone_nr HR2.out (by omega)).mono ?_); rintro e w_o ⟨rfl, rfl⟩; rw [HD.out]))
  replace r := r.below (Below.refl _ _).drew
  replace r1 := r1.below (Below.refl _ _).drew
  replace XA := XA.below (Below.refl _ _).drew
  have r2 := r.2.nr.more hk
  replace hb := hb.drew
  go_region_held3 (fun w' => w'.cell? ⟨w.heap.size, 0, none⟩ = some (.bool s_r) ∧ w'.cell? ⟨w.heap.size, 1, none⟩ = some (.slice A_r n_r c_r) ∧ w'.cell? ⟨w.heap.size, 2, none⟩ = some (.slice B_r m_r d_r))
    (first | with_reducible exact ⟨XA.c0, XA.c1, XA.c2⟩)
    (first
    | (go_at_call 95; (with_reducible refine (ztext_zr r1 (by omega)).mono ?_); rintro e w_z ⟨rfl, hh⟩
       try replace r := r.below hh
       try replace r2 := r2.below hh
       try replace XA := XA.below hh
       replace hb := bend hb hh)
    | (go_at_call 132; (with_reducible refine (text_nr r2).mono ?_); rintro e w_z ⟨rfl, hh⟩
       try replace r := r.below hh
       try replace XA := XA.below hh
       replace hb := bend hb hh))
  go_wp2_with fail
  go_ret
  refine ⟨?_, hb⟩
  rw [HQ.out]
  refine ret_eq ?_
  show Value.string ((⟨(ztxt (mkRat p (den1 q)).num).toArray⟩ ++ ⟨#[47]⟩) ++ ⟨(txt (mkRat p (den1 q)).den).toArray⟩) = _
  rw [ba_app3]
theorem rtext_q {w : World} {s : Bool} {A A' : Option Addr} {n c n' c' k : Nat} {v : Rat} (X0 : QR w s A n c A' n' c' v k) (hk : k ≤ 78) (hk1 : 1 ≤ k) :
    Calls Tryz.prog 40 #[.agg #[.bool s, .slice A n c, .slice A' n' c']] w fun e w' => e = .returned (.string ⟨(qtxt v).toArray⟩) ∧ Below w.heap.size w w' := by
  by_cases hd : v.den = 1
  · exact rtext_one X0 hk hk1 hd
  · exact rtext_frac X0 hk hk1 hd
end Go.Proofs.YtlkjkhpjhllapaaGreat
namespace Go.Proofs.YtlkjkhpjhllapaaGreat
open Go
def upd {α : Type} (f : Nat → α) (d : Nat) (x : α) : Nat → α := fun k => if k = d then x else f k
theorem upd_same {α : Type} (f : Nat → α) (d : Nat) (x : α) : upd f d x d = x := by simp [upd]
theorem upd_ne {α : Type} (f : Nat → α) {d k : Nat} (x : α) (h : k ≠ d) : upd f d x k = f k := by simp [upd, h]
def putAll (a : Act) : List Nat → (Nat → Value) → Act
  | [], _ => a
  | d :: l, v => putAll (a.put (some d) (v d)) l v
theorem put_put (a : Act) (d : Nat) (x y : Value) : (a.put (some d) x).put (some d) y = a.put (some d) y := by
  simp [Act.put]
theorem putAll_comm (x : Value) (d : Nat) (v : Nat → Value) : ∀ (l : List Nat) (a : Act), d ∉ l → (putAll a l v).put (some d) x = putAll (a.put (some d) x) l v
  | [], _, _ => rfl
  | e :: l, a, h => by
    have h1 : e ≠ d := fun k => h (by simp [k])
    have h2 : d ∉ l := fun k => h (by simp [k])
    rw [putAll, putAll_comm x d v l _ h2, putAll]
    congr 1
    simp [Act.put, Array.setIfInBounds_comm _ _ h1]
theorem putAll_congr {v u : Nat → Value} : ∀ (l : List Nat) (a : Act), (∀ d ∈ l, v d = u d) → putAll a l v = putAll a l u
  | [], _, _ => rfl
  | e :: l, a, h => by
    rw [putAll, putAll, h e (by simp)]
    exact putAll_congr l _ fun d hd => h d (by simp [hd])
theorem putAll_put (x : Value) (d : Nat) (v : Nat → Value) : ∀ (l : List Nat) (a : Act), l.Nodup → d ∈ l → (putAll a l v).put (some d) x = putAll a l (upd v d x)
  | [], _, _, h => by cases h
  | e :: l, a, hn, h => by
    have hn' := List.nodup_cons.1 hn
    by_cases hd : e = d
    · subst hd
      rw [putAll, putAll_comm x e v l _ hn'.1, put_put, putAll, upd_same]
      exact putAll_congr l _ fun k hk => (upd_ne v x (fun q => by subst q; exact hn'.1 hk)).symm
    · have hm : d ∈ l := by
        cases h with
        | head => exact absurd rfl hd
        | tail _ h => exact h
      rw [putAll, putAll_put x d v l _ hn'.2 hm, putAll, upd_ne v x hd]
theorem put_self (a : Act) (d : Nat) : a.put (some d) (a.tmps.getD d undef) = a := by
  cases a with
  | mk tmps defers =>
    simp only [Act.put]
    congr 1
    apply Array.ext
    · simp
    · intro i h1 h2
      simp only [Array.getElem_setIfInBounds h2]
      split
      · rename_i h; subst h; simp [h2]
      · rfl
theorem putAll_self (a : Act) : ∀ (l : List Nat), putAll a l (fun d => a.tmps.getD d undef) = a
  | [] => rfl
  | d :: l => by rw [putAll, put_self]; exact putAll_self a l
section
variable {P : Program} {ops : Array Oper} {Q : Exit → Act → World → Prop}
def backB (ops : Array Oper) : Bool := (List.range ops.size).all fun i => ((ops[i]?).map fun o => o.after.all fun e => !Region.binds .any e || decide (e.on < i)).getD true
theorem all_listed {listed : Array Bool} (hs : listed.size = ops.size) (hb : backB ops = true) (hr : Region.ready .any ops listed = []) : ∀ i, i < ops.size → listed.getD i false = true := by
  intro i
  induction i using Nat.strongRecOn with
  | ind i ih =>
    intro hi
    cases hl : listed.getD i false with
    | true => rfl
    | false =>
      exfalso
      have hm : i ∈ Region.ready .any ops listed := by
        unfold Region.ready
        rw [List.mem_filter]
        refine ⟨by simpa using hi, ?_⟩
        have h1 : listed.getD i true = false := by
          simp only [Array.getD_eq_getD_getElem?, Array.getElem?_eq_getElem (show i < listed.size by omega), Option.getD_some] at hl ⊢; exact hl
        rw [h1, Array.getElem?_eq_getElem hi]
        simp only [Bool.not_false, Option.map_some, Option.getD_some, Bool.true_and]
        rw [Array.all_eq_true]
        intro j hj
        have h2 := List.all_eq_true.1 hb i (by simpa using hi)
        rw [Array.getElem?_eq_getElem hi] at h2
        simp only [Option.map_some, Option.getD_some] at h2
        have h3 := Array.all_eq_true.1 h2 j hj
        cases hbd : Region.binds .any (ops[i].after[j]) with
        | false => simp
        | true =>
          rw [hbd] at h3
          have h4 : (ops[i].after[j]).on < i := of_decide_eq_true (by simpa using h3)
          rw [ih _ h4 (by omega)]
          simp
      rw [hr] at hm; cases hm
theorem wpAny_inv (J : (Nat → Bool) → Act → World → Prop) (hb : backB ops = true)
    (hstep : ∀ (i : Nat) (o : Oper) (D : Nat → Bool) (a : Act) (w : World), ops[i]? = some o → D i = false → (∀ e ∈ o.after, Region.binds .any e = true → D e.on = true) → J D a w →
      wpOp P ops Q i (fun a' w' => J (upd D i true) a' w') a w)
    (hend : ∀ (D : Nat → Bool) (a : Act) (w : World), (∀ i, i < ops.size → D i = true) → J D a w → Q .normal a w)
    (hcong : ∀ D D' a w, (∀ i, i < ops.size → D i = D' i) → J D a w → J D' a w) :
    ∀ (fuel : Nat) (listed : Array Bool) (a : Act) (w : World), listed.size = ops.size → listed.toList.count false ≤ fuel → J (fun i => listed.getD i false) a w → wpAny P .any ops Q fuel listed a w
  | 0, listed, a, w, hs, hf, hJ => by
    have hall : ∀ i, i < ops.size → listed.getD i false = true := by
      intro i hi
      have h0 : listed.toList.count false = 0 := by omega
      have hi' : i < listed.size := by omega
      have := List.count_eq_zero.1 h0
      simp only [Array.getD_eq_getD_getElem?, Array.getElem?_eq_getElem hi', Option.getD_some]
      cases h : listed[i] with
      | true => rfl
      | false => exact absurd (by rw [← h]; exact Array.mem_toList_iff.2 (Array.getElem_mem hi')) this
    refine ⟨?_, hend _ _ _ hall hJ⟩
    unfold Region.ready
    rw [List.filter_eq_nil_iff]
    intro i hi
    have hi2 : i < ops.size := by simpa using hi
    have h2 : listed.getD i true = true := by
      have h := hall i hi2
      have hi' : i < listed.size := by omega
      simp only [Array.getD_eq_getD_getElem?, Array.getElem?_eq_getElem hi', Option.getD_some] at h ⊢; exact h
    simp [h2]
  | fuel + 1, listed, a, w, hs, hf, hJ => by
    refine ⟨fun hr => hend _ _ _ (all_listed hs hb hr) hJ, fun i hi => ?_⟩
    obtain ⟨hjun, o, ho, hall⟩ := mem_ready.1 hi
    have hi1 : i < ops.size := by
      rcases Nat.lt_or_ge i ops.size with h | h
      · exact h
      · rw [Array.getElem?_eq_none h] at ho; cases ho
    have hi' : i < listed.size := by omega
    have hl : listed[i] = false := by
      simp only [Array.getD_eq_getD_getElem?, Array.getElem?_eq_getElem hi', Option.getD_some] at hjun; exact hjun
    have hD : listed.getD i false = false := by
      simp only [Array.getD_eq_getD_getElem?, Array.getElem?_eq_getElem hi', Option.getD_some]; exact hl
    refine wpOp_mono (fun a' w' h => wpAny_inv J hb hstep hend hcong fuel _ a' w' (by simpa using hs) ?_ (hcong _ _ _ _ (fun j hj => ?_) h)) (hstep i o _ a w ho hD hall hJ)
    · rw [Array.toList_setIfInBounds, List.count_set (by simpa using hi')]
      have : listed.toList[i]'(by simpa using hi') = false := by simpa using hl
      rw [this]
      show listed.toList.count false - 1 + 0 ≤ fuel
      omega
    · by_cases hji : j = i
      · subst hji
        rw [upd_same]
        simp [hi']
      · rw [upd_ne _ _ hji]
        simp [Array.getD_eq_getD_getElem?, Ne.symm hji]
theorem wp_region_inv {id : Nat} {a : Act} {w : World} (l : List Nat) (J : (Nat → Bool) → (Nat → Value) → World → Prop) (hm : P.follows .mixedOrders = true) (hb : backB ops = true)
    (h0 : J (fun _ => false) (fun d => a.tmps.getD d undef) w.drew)
    (hcong : ∀ D D' v w, (∀ i, i < ops.size → D i = D' i) → J D v w → J D' v w)
    (hstep : ∀ (i : Nat) (o : Oper) (D : Nat → Bool) (v : Nat → Value) (w : World), ops[i]? = some o → D i = false → (∀ e ∈ o.after, Region.binds .any e = true → D e.on = true) → J D v w →
      wpOp P ops Q i (fun a' w' => ∃ v', a' = putAll a l v' ∧ J (upd D i true) v' w') (putAll a l v) w)
    (hend : ∀ (D : Nat → Bool) (v : Nat → Value) (w : World), (∀ i, i < ops.size → D i = true) → J D v w → Q .normal (putAll a l v) w) :
    (Code.region id ops true).wp P Q a w := by
  refine wp_region_any hm (wpAny_inv (fun D a' w' => ∃ v, a' = putAll a l v ∧ J D v w') hb ?_ ?_ ?_ _ _ _ _ (by simp) (by simp) ?_)
  · rintro i o D a' w' ho hD hall ⟨v, rfl, hJ⟩
    exact hstep i o D v w' ho hD hall hJ
  · rintro D a' w' hall ⟨v, rfl, hJ⟩
    exact hend D v w' hall hJ
  · rintro D D' a' w' h ⟨v, e, hJ⟩
    exact ⟨v, e, hcong D D' v w' h hJ⟩
  · refine ⟨_, (putAll_self a l).symm, hcong _ _ _ _ (fun i hi => ?_) h0⟩
    simp [hi]
end
end Go.Proofs.YtlkjkhpjhllapaaGreat
namespace Go.Proofs.YtlkjkhpjhllapaaGreat
open Go Go.RowKit
theorem run_loadI {e : Operand → Value} {x : Operand} {d : Option Tmp} {y g : Nat} {pos : String} {af : Array Edge} {w : World} {u v : Value} (h : e x = .pointer (some ⟨g, 0, none⟩)) (h0 : w.cell? ⟨g, 0, none⟩ = some u) (h1 : w.cell? ⟨g, 1, none⟩ = some v) :
    (execOp e { dst := d, op := Op.load 24 x, type := y, pos := pos, after := af, guard := none }).run Tryz.prog w = .ok (.value (.agg #[u, v])) w := by
  go_simp
theorem run_storeR {e : Operand → Value} {x z : Operand} {d : Option Tmp} {y g : Nat} {pos : String} {af : Array Edge} {w : World} {s : Bool} {A : Option Addr} {n c : Nat} {u0 v0 : Value} (h : e x = .pointer (some ⟨g, 0, none⟩)) (hz : e z = .agg #[.bool s, .slice A n c]) (h0 : w.cell? ⟨g, 0, none⟩ = some u0) (h1 : w.cell? ⟨g, 1, none⟩ = some v0) (f0 : w.frozen? ⟨g, 0, none⟩ = false) (f1 : w.frozen? ⟨g, 1, none⟩ = false) :
    (execOp e { dst := d, op := Op.store 32 x z, type := y, pos := pos, after := af, guard := none }).run Tryz.prog w = .ok .skip ((w.setCell ⟨g, 0, none⟩ (.bool s)).setCell ⟨g, 1, none⟩ (.slice A n c)) := by
  go_simp
theorem run_allocR {e : Operand → Value} {d : Option Tmp} {y : Nat} {pos : String} {af : Array Edge} {w : World} :
    (execOp e { dst := d, op := Op.alloc 32, type := y, pos := pos, after := af, guard := none }).run Tryz.prog w = .ok (.value (.pointer (some ⟨w.heap.size, 0, none⟩))) (w.alloc (.cells #[.bool false, .slice none 0 0] 32)) := by
  go_simp
end Go.Proofs.YtlkjkhpjhllapaaGreat
namespace Go.Proofs.YtlkjkhpjhllapaaGreat
open Go Go.RowKit
theorem wpOp_plain {P : Program} {ops : Array Oper} {Q : Exit → Act → World → Prop} {i : Nat} {o : Oper} {K : Act → World → Prop} {a : Act} {w : World} (hi : ops[i]? = some o) (hg : Region.wanted o (yielded ops a.tmps) = true) (h : o.wp P a w K Q) : wpOp P ops Q i K a w := by
  unfold wpOp
  simp only [hi, hg, if_true]
  exact .inl h
theorem put_none (a : Act) (x : Value) : a.put none x = a := rfl
theorem eval_putAll_not {t : Nat} {v : Nat → Value} : ∀ (l : List Nat) (a : Act), t ∉ l → (putAll a l v).eval (.tmp t) = a.eval (.tmp t)
  | [], _, _ => rfl
  | d :: l, a, h => by
    rw [putAll, eval_putAll_not l _ (fun q => h (by simp [q]))]
    have hne : d ≠ t := fun q => h (by simp [q])
    simp [Act.eval, Act.put, Array.getD_eq_getD_getElem?, hne]
theorem eval_putAll_mem {t : Nat} {v : Nat → Value} : ∀ (l : List Nat) (a : Act), l.Nodup → t ∈ l → t < a.tmps.size → (putAll a l v).eval (.tmp t) = v t
  | [], _, _, h, _ => by cases h
  | d :: l, a, hn, h, hs => by
    have hn' := List.nodup_cons.1 hn
    rw [putAll]
    by_cases hd : d = t
    · subst hd
      rw [eval_putAll_not l _ hn'.1]
      simp [Act.eval, Act.put, hs]
    · have hm : t ∈ l := by
        cases h with
        | head => exact absurd rfl hd
        | tail _ h => exact h
      exact eval_putAll_mem l _ hn'.2 hm (by simpa [Act.put] using hs)
def IsG (w : World) (v : Value) (x : Int) (k : Nat) : Prop := ∃ s A n c, v = .agg #[.bool s, .slice A n c] ∧ RG w s A n c x k
def IsBox (w : World) (base : Nat) (p cont : Value) (full : Bool) : Prop := ∃ g s A n c, p = .pointer (some ⟨g, 0, none⟩) ∧ base ≤ g ∧ By w g (.bool s) (.slice A n c) ∧ (full = true → cont = .agg #[.bool s, .slice A n c])
theorem IsG.below {w w' : World} {v : Value} {x : Int} {k : Nat} (h : IsG w v x k) (hb : Below w.heap.size w w') : IsG w' v x k := by
  obtain ⟨s, A, n, c, h1, h2⟩ := h; exact ⟨s, A, n, c, h1, h2.below hb⟩
theorem IsBox.below {w w' : World} {base : Nat} {p cont : Value} {full : Bool} (h : IsBox w base p cont full) (hb : Below w.heap.size w w') : IsBox w' base p cont full := by
  obtain ⟨g, s, A, n, c, h1, h2, h3, h4⟩ := h; exact ⟨g, s, A, n, c, h1, h2, h3.below hb, h4⟩
theorem IsG.store {w : World} {v : Value} {x : Int} {k g n0 c0 : Nat} {s0 : Bool} {A0 : Option Addr} (h : IsG w v x k) (Z : By w g (.bool s0) (.slice A0 n0 c0)) (y z : Value) : IsG ((w.setCell ⟨g, 0, none⟩ y).setCell ⟨g, 1, none⟩ z) v x k := by
  obtain ⟨s, A, n, c, h1, h2⟩ := h; exact ⟨s, A, n, c, h1, h2.set2 Z y z⟩
theorem IsBox.other {w : World} {base g : Nat} {p cont : Value} {full : Bool} (h : IsBox w base p cont full) (hne : p ≠ .pointer (some ⟨g, 0, none⟩)) (y z : Value) : IsBox ((w.setCell ⟨g, 0, none⟩ y).setCell ⟨g, 1, none⟩ z) base p cont full := by
  obtain ⟨g', s, A, n, c, h1, h2, h3, h4⟩ := h
  refine ⟨g', s, A, n, c, h1, h2, h3.other (fun q => hne (by rw [h1, q])) y z, h4⟩
end Go.Proofs.YtlkjkhpjhllapaaGreat
namespace Go.Proofs.YtlkjkhpjhllapaaGreat
open Go Go.RowKit
theorem run_move {e : Operand → Value} {x : Operand} {d : Option Tmp} {y : Nat} {pos : String} {af : Array Edge} {w : World} {u : Value} (h : e x = u) :
    (execOp e { dst := d, op := Op.move x, type := y, pos := pos, after := af, guard := none }).run Tryz.prog w = .ok (.value u) w := by
  subst h; go_simp
theorem run_assign {e : Operand → Value} {x : Operand} {d : Option Tmp} {y : Nat} {pos : String} {af : Array Edge} {w : World} {u : Value} (h : e x = u) :
    (execOp e { dst := d, op := Op.assign x, type := y, pos := pos, after := af, guard := none }).run Tryz.prog w = .ok (.value u) w := by
  subst h; go_simp
def IsQ (w : World) (v : Value) (x : Rat) (k : Nat) : Prop := ∃ s A n c A' n' c', v = .agg #[.bool s, .slice A n c, .slice A' n' c'] ∧ QG w s A n c A' n' c' x k
theorem IsQ.below {w w' : World} {v : Value} {x : Rat} {k : Nat} (h : IsQ w v x k) (hb : Below w.heap.size w w') : IsQ w' v x k := by
  obtain ⟨s, A, n, c, A', n', c', h1, h2⟩ := h; exact ⟨s, A, n, c, A', n', c', h1, h2.below hb⟩
def HasBox (w : World) (base : Nat) (p : Value) : Prop := ∃ g s A n c A' n' c', p = .pointer (some ⟨g, 0, none⟩) ∧ base ≤ g ∧ B3 w g (.bool s) (.slice A n c) (.slice A' n' c')
theorem HasBox.below {w w' : World} {b : Nat} {p : Value} (h : HasBox w b p) (hb : Below w.heap.size w w') : HasBox w' b p := by
  obtain ⟨g, s, A, n, c, A', n', c', h1, h2, h3⟩ := h; exact ⟨g, s, A, n, c, A', n', c', h1, h2, h3.below hb⟩
end Go.Proofs.YtlkjkhpjhllapaaGreat
