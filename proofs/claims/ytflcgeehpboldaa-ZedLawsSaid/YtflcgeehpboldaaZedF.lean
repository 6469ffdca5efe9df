/- zed.DivMod, out of nat.DivMod at the limbs. -/
import Derived.Test.YtflcgeehpboldaaZedE
import Derived.Test.YtflcgeehpboldaaDivM
namespace Go.Proofs.Ytflcgeehpboldaa
open Go.RowKit

/-- The call returns two structs whose limbs are its own, the good forms of q and r, and no error. -/
def GivesQZ (w : World) (q r : Int) (e : Ending) (w' : World) : Prop :=
  ∃ A n c A' n' c', e = .returned (.tuple #[.agg #[.bool (decide (q < 0)), .slice A n c], .agg #[.bool (decide (r < 0)), .slice A' n' c'], .int .i64 0]) ∧ n ≤ c ∧ c ≤ maxLen ∧ n' ≤ c' ∧ c' ≤ maxLen ∧
    Fr .u64 82 w' w.heap.size A n c (limbs B64 q.natAbs) ∧ Fr .u64 82 w' w.heap.size A' n' c' (limbs B64 r.natAbs) ∧ Below w.heap.size w w'

theorem Bx.other {W : World} {g k : Nat} {x y : Value} (h : Bx W g x y) (hne : g ≠ k) (u v : Value) : Bx ((W.setCell ⟨k, 0, none⟩ u).setCell ⟨k, 1, none⟩ v) g x y := by
  unfold Bx at h ⊢
  rw [Below.heap_setCell _ _ _ _ hne, Below.heap_setCell _ _ _ _ hne]
  exact h
/-- What DivMod leaves behind both stores. -/
theorem close_qz {w w1 w2 : World} {s t : Bool} {Q R g g' B1 : Nat} {A1 A2 : Option Addr} {n1 k1 n2 k2 : Nat} (hb0 : Below w.heap.size w w1) (hg0 : w.heap.size ≤ g) (hg1 : w.heap.size ≤ g') (hg : g < B1) (hg' : g' < B1)
    (p1 : n1 ≤ k1) (p2 : k1 ≤ maxLen) (q1 : n2 ≤ k2) (q2 : k2 ≤ maxLen) (p3 : Fr .u64 82 w1 B1 A1 n1 k1 (limbs B64 Q)) (q3 : Fr .u64 82 w1 B1 A2 n2 k2 (limbs B64 R)) (hB : w.heap.size ≤ B1)
    (q4 : Below w1.heap.size w1 w2) (u x u' x' : Value) :
    GivesQZ w (iv s Q) (iv t R) (.returned (.tuple #[.agg #[.bool (s && decide (0 < n1)), .slice A1 n1 k1], .agg #[.bool (t && decide (0 < n2)), .slice A2 n2 k2], .int .i64 0]))
      ((((w2.setCell ⟨g, 0, none⟩ u).setCell ⟨g, 1, none⟩ x).setCell ⟨g', 0, none⟩ u').setCell ⟨g', 1, none⟩ x') := by
  have hbl : Below w.heap.size w w2 := hb0.trans (q4.mono hb0.size)
  have move : ∀ {A : Option Addr} {n k : Nat} {l : List Nat}, Fr .u64 82 w1 B1 A n k l → Fr .u64 82 ((((w2.setCell ⟨g, 0, none⟩ u).setCell ⟨g, 1, none⟩ x).setCell ⟨g', 0, none⟩ u').setCell ⟨g', 1, none⟩ x') w.heap.size A n k l := by
    intro A n k l h
    have h1 := (h.more hB).below q4 (Nat.le_refl _)
    have h2 := Fr.only (g := g) h1 (((Only.refl g w2).setCell 0 u).setCell 1 x) (fun ad hA => by have := h.base ad hA; omega)
    exact Fr.only (g := g') h2 (((Only.refl g' _).setCell 0 u').setCell 1 x') (fun ad hA => by have := h.base ad hA; omega)
  refine ⟨A1, n1, k1, A2, n2, k2, ?_, p1, p2, q1, q2, ?_, ?_, (((hbl.setCell hg0 _).setCell hg0 _).setCell hg1 _).setCell hg1 _⟩
  · rw [iv_neg, iv_neg, limbs_len_pos p3.1, limbs_len_pos q3.1]
  · rw [iv_natAbs]; exact move p3
  · rw [iv_natAbs]; exact move q3

set_option maxHeartbeats 4000000 in
theorem zdm_alike (s : Bool) (la lb : List Nat) (A B : Option Addr) (n c m d : Nat) (w : World) (ha : Rd .u64 w A n la) (hb : Rd .u64 w B m lb)
    (hdm : ∀ W : World, Rd .u64 W A n la → Rd .u64 W B m lb → Calls Try.prog 55 #[.slice A n c, .slice B m d] W (GivesQR W (limbs B64 (val B64 la / val B64 lb)) (limbs B64 (val B64 la % val B64 lb))))  :
    Calls Try.prog 29 #[.agg #[.bool s, .slice A n c], .agg #[.bool s, .slice B m d]] w (GivesQZ w (iv false (val B64 la / val B64 lb)) (iv s (val B64 la % val B64 lb))) := by
  have hne : (s != s) = false := by cases s <;> rfl
  have hne2 : (s == s) = true := by cases s <;> rfl
  go_enter Try.func29, Try.ntmps29
  go_wp2_with fail
  generalize hW : (((w.alloc (Obj.cells #[Value.bool s, Value.slice A n c] 24)).alloc (Obj.cells #[Value.bool s, Value.slice B m d] 24)).alloc (Obj.cells #[Value.bool false, Value.slice none 0 0] 24)).alloc (Obj.cells #[Value.bool false, Value.slice none 0 0] 24) = W
  have hb0 : Below w.heap.size w W := by subst hW; exact ((((Below.refl _ _).alloc (Nat.le_refl _) _).alloc (by simp) _).alloc (by simp; omega) _).alloc (by simp; omega) _
  have hz : W.heap.size = w.heap.size + 4 := by subst hW; simp
  have X : Bx W w.heap.size (.bool s) (.slice A n c) := by subst hW; exact (((Bx.new w _ _).alloc _).alloc _).alloc _
  have Y : Bx W (w.heap.size + 1) (.bool s) (.slice B m d) := by subst hW; exact ((Bx.new' _ _ _ _ (by simp)).alloc _).alloc _
  have Z : Bx W (w.heap.size + 1 + 1) (.bool false) (.slice none 0 0) := by subst hW; exact (Bx.new' _ _ _ _ (by simp)).alloc _
  have Z' : Bx W (w.heap.size + 1 + 1 + 1) (.bool false) (.slice none 0 0) := by subst hW; exact Bx.new' _ _ _ _ (by simp)
  clear hW
  refine (hdm W (ha.below hb0) (hb.below hb0)).mono ?_
  rintro e w1 ⟨A1, n1, k1, A2, n2, k2, rfl, p1, p2, p3, p4, p5, p6, p7⟩
  have X1 := X.below p7
  have Y1 := Y.below p7
  have Z1 := Z.below p7
  have V1 := Z'.below p7
  have z1 := p7.size
  have c0 := X1.c0
  have d0 := Y1.c0
  have d1 := Y1.c1
  have HP5 := Lib.hid p5
  have HP6 := Lib.hid p6
  have hb7 : Below w.heap.size w w1 := hb0.trans (p7.mono hb0.size)
  clear p5 p6 p7
  go_wp2_with fail
  go_region_held3 (fun w' => w'.cell? ⟨w.heap.size, 0, none⟩ = some (.bool s) ∧ w'.cell? ⟨w.heap.size + 1, 0, none⟩ = some (.bool s))
    (first | with_reducible exact ⟨X1.c0, Y1.c0⟩ | with_reducible exact ⟨X1.drew.c0, Y1.drew.c0⟩ | with_reducible exact ⟨X8.c0, Y8.c0⟩ | with_reducible exact ⟨X7.c0, Y7.c0⟩ | with_reducible exact ⟨(set2_cell _ _ _ _ _ _ (by omega)).trans X8.c0, (set2_cell _ _ _ _ _ _ (by omega)).trans Y8.c0⟩ | with_reducible exact ⟨((set2_cell _ _ _ _ _ _ (by omega)).trans (set2_cell _ _ _ _ _ _ (by omega))).trans X8.c0, ((set2_cell _ _ _ _ _ _ (by omega)).trans (set2_cell _ _ _ _ _ _ (by omega))).trans Y8.c0⟩)
    (first
      | (go_at_call 43; (with_reducible refine (number_any _ _ _ _ w1.drew).mono ?_); rintro e w7 ⟨rfl, q7⟩
         replace q7 : Below w1.heap.size w1 w7 := (Below.refl _ w1).drew.trans q7
         have X7 := X1.below q7
         have Y7 := Y1.below q7
         have Z7 := Z1.below q7
         have V7 := V1.below q7)
      | (go_at_call 43; (with_reducible refine (number_any _ _ _ _ _).mono ?_); rintro e w8 ⟨rfl, q8⟩
         have X8 := X7.below q8
         have Y8 := Y7.below q8
         have Z8 := Z7.below q8
         have V8 := V7.below q8
         have r0 := Z8.c0
         have r1 := Z8.c1
         have r2 := Z8.f0
         have r3 := Z8.f1
         have r4 := V8.c0
         have r5 := V8.c1
         have r6 := V8.f0
         have r7 := V8.f1))
  go_wp2
  have G1 := (Z8.set2 (.bool (false)) (.slice A1 n1 k1)).other (k := w.heap.size + 1 + 1 + 1) (by omega) (.bool (s && decide (0 < n2))) (.slice A2 n2 k2)
  have G2 := (V8.other (k := w.heap.size + 1 + 1) (by omega) (.bool (false)) (.slice A1 n1 k1)).set2 (.bool (s && decide (0 < n2))) (.slice A2 n2 k2)
  have g0 := G1.c0
  have g1 := G1.c1
  have g2 := G2.c0
  have g3 := G2.c1
  refine bodyPost_ret (v := .tuple #[.agg #[.bool (false), .slice A1 n1 k1], .agg #[.bool (s && decide (0 < n2)), .slice A2 n2 k2], .int .i64 0]) (by simp [results, Try.results29, go_sem, g0, g1, g2, g3]) rfl ?_
  exact close_qz (s := false) (t := s) hb7 (by omega) (by omega) (g := w.heap.size + 1 + 1) (g' := w.heap.size + 1 + 1 + 1) (B1 := W.heap.size) (by omega) (by omega) p1 p2 p3 p4 HP5.out HP6.out (by omega) (q7.trans (q8.mono q7.size)) _ _ _ _

set_option maxHeartbeats 4000000 in
theorem zdm_whole (s : Bool) (la lb : List Nat) (A B : Option Addr) (n c m d : Nat) (w : World) (ha : Rd .u64 w A n la) (hb : Rd .u64 w B m lb)
    (hdm : ∀ W : World, Rd .u64 W A n la → Rd .u64 W B m lb → Calls Try.prog 55 #[.slice A n c, .slice B m d] W (GivesQR W (limbs B64 (val B64 la / val B64 lb)) (limbs B64 (val B64 la % val B64 lb)))) (hr0 : val B64 la % val B64 lb = 0) :
    Calls Try.prog 29 #[.agg #[.bool s, .slice A n c], .agg #[.bool (!s), .slice B m d]] w (GivesQZ w (iv true (val B64 la / val B64 lb)) (iv (!s) (val B64 la % val B64 lb))) := by
  have hne : (s != (!s)) = true := by cases s <;> rfl
  have hne2 : (s == (!s)) = false := by cases s <;> rfl
  go_enter Try.func29, Try.ntmps29
  go_wp2_with fail
  generalize hW : (((w.alloc (Obj.cells #[Value.bool s, Value.slice A n c] 24)).alloc (Obj.cells #[Value.bool (!s), Value.slice B m d] 24)).alloc (Obj.cells #[Value.bool false, Value.slice none 0 0] 24)).alloc (Obj.cells #[Value.bool false, Value.slice none 0 0] 24) = W
  have hb0 : Below w.heap.size w W := by subst hW; exact ((((Below.refl _ _).alloc (Nat.le_refl _) _).alloc (by simp) _).alloc (by simp; omega) _).alloc (by simp; omega) _
  have hz : W.heap.size = w.heap.size + 4 := by subst hW; simp
  have X : Bx W w.heap.size (.bool s) (.slice A n c) := by subst hW; exact (((Bx.new w _ _).alloc _).alloc _).alloc _
  have Y : Bx W (w.heap.size + 1) (.bool (!s)) (.slice B m d) := by subst hW; exact ((Bx.new' _ _ _ _ (by simp)).alloc _).alloc _
  have Z : Bx W (w.heap.size + 1 + 1) (.bool false) (.slice none 0 0) := by subst hW; exact (Bx.new' _ _ _ _ (by simp)).alloc _
  have Z' : Bx W (w.heap.size + 1 + 1 + 1) (.bool false) (.slice none 0 0) := by subst hW; exact Bx.new' _ _ _ _ (by simp)
  clear hW
  refine (hdm W (ha.below hb0) (hb.below hb0)).mono ?_
  rintro e w1 ⟨A1, n1, k1, A2, n2, k2, rfl, p1, p2, p3, p4, p5, p6, p7⟩
  have X1 := X.below p7
  have Y1 := Y.below p7
  have Z1 := Z.below p7
  have V1 := Z'.below p7
  have z1 := p7.size
  have c0 := X1.c0
  have d0 := Y1.c0
  have d1 := Y1.c1
  have hn2 : n2 = 0 := by rw [← p6.1, hr0, limbs_zero]; rfl
  subst hn2
  have HP5 := Lib.hid p5
  have HP6 := Lib.hid p6
  have hb7 : Below w.heap.size w w1 := hb0.trans (p7.mono hb0.size)
  clear p5 p6 p7
  go_wp2_with fail
  go_region_held3 (fun w' => w'.cell? ⟨w.heap.size, 0, none⟩ = some (.bool s) ∧ w'.cell? ⟨w.heap.size + 1, 0, none⟩ = some (.bool (!s)))
    (first | with_reducible exact ⟨X1.c0, Y1.c0⟩ | with_reducible exact ⟨X1.drew.c0, Y1.drew.c0⟩ | with_reducible exact ⟨X8.c0, Y8.c0⟩ | with_reducible exact ⟨X7.c0, Y7.c0⟩ | with_reducible exact ⟨(set2_cell _ _ _ _ _ _ (by omega)).trans X8.c0, (set2_cell _ _ _ _ _ _ (by omega)).trans Y8.c0⟩ | with_reducible exact ⟨((set2_cell _ _ _ _ _ _ (by omega)).trans (set2_cell _ _ _ _ _ _ (by omega))).trans X8.c0, ((set2_cell _ _ _ _ _ _ (by omega)).trans (set2_cell _ _ _ _ _ _ (by omega))).trans Y8.c0⟩)
    (first
      | (go_at_call 43; (with_reducible refine (number_any _ _ _ _ w1.drew).mono ?_); rintro e w7 ⟨rfl, q7⟩
         replace q7 : Below w1.heap.size w1 w7 := (Below.refl _ w1).drew.trans q7
         have X7 := X1.below q7
         have Y7 := Y1.below q7
         have Z7 := Z1.below q7
         have V7 := V1.below q7)
      | (go_at_call 43; (with_reducible refine (number_any _ _ _ _ _).mono ?_); rintro e w8 ⟨rfl, q8⟩
         have X8 := X7.below q8
         have Y8 := Y7.below q8
         have Z8 := Z7.below q8
         have V8 := V7.below q8
         have r0 := Z8.c0
         have r1 := Z8.c1
         have r2 := Z8.f0
         have r3 := Z8.f1
         have r4 := V8.c0
         have r5 := V8.c1
         have r6 := V8.f0
         have r7 := V8.f1))
  go_wp2
  have G1 := (Z8.set2 (.bool (decide (0 < n1))) (.slice A1 n1 k1)).other (k := w.heap.size + 1 + 1 + 1) (by omega) (.bool (false)) (.slice A2 0 k2)
  have G2 := (V8.other (k := w.heap.size + 1 + 1) (by omega) (.bool (decide (0 < n1))) (.slice A1 n1 k1)).set2 (.bool (false)) (.slice A2 0 k2)
  have g0 := G1.c0
  have g1 := G1.c1
  have g2 := G2.c0
  have g3 := G2.c1
  refine bodyPost_ret (v := .tuple #[.agg #[.bool (decide (0 < n1)), .slice A1 n1 k1], .agg #[.bool (false), .slice A2 0 k2], .int .i64 0]) (by simp [results, Try.results29, go_sem, g0, g1, g2, g3]) rfl ?_
  have := close_qz (s := true) (t := (!s)) hb7 (by omega) (by omega) (g := w.heap.size + 1 + 1) (g' := w.heap.size + 1 + 1 + 1) (B1 := W.heap.size) (by omega) (by omega) p1 p2 p3 p4 HP5.out HP6.out (by omega) (q7.trans (q8.mono q7.size)) (.bool (decide (0 < n1))) (.slice A1 n1 k1) (.bool false) (.slice A2 0 k2)
  simpa using this

set_option maxHeartbeats 4000000 in
theorem zdm_rest (s : Bool) (la lb : List Nat) (A B : Option Addr) (n c m d : Nat) (w : World) (ha : Rd .u64 w A n la) (hb : Rd .u64 w B m lb)
    (hdm : ∀ W : World, Rd .u64 W A n la → Rd .u64 W B m lb → Calls Try.prog 55 #[.slice A n c, .slice B m d] W (GivesQR W (limbs B64 (val B64 la / val B64 lb)) (limbs B64 (val B64 la % val B64 lb)))) (La : Lim B64 la) (Lb : Lim B64 lb)
    (hmd : m ≤ d) (hm0 : m ≤ 17592186044415) (hn0 : n ≤ 35184372088830) (hb1 : val B64 lb ≠ 0) (hr0 : val B64 la % val B64 lb ≠ 0) :
    Calls Try.prog 29 #[.agg #[.bool s, .slice A n c], .agg #[.bool (!s), .slice B m d]] w (GivesQZ w (iv true (val B64 la / val B64 lb + 1)) (iv (!s) (val B64 lb - val B64 la % val B64 lb))) := by
  have hne : (s != (!s)) = true := by cases s <;> rfl
  have hne2 : (s == (!s)) = false := by cases s <;> rfl
  go_enter Try.func29, Try.ntmps29
  go_wp2_with fail
  generalize hW : (((w.alloc (Obj.cells #[Value.bool s, Value.slice A n c] 24)).alloc (Obj.cells #[Value.bool (!s), Value.slice B m d] 24)).alloc (Obj.cells #[Value.bool false, Value.slice none 0 0] 24)).alloc (Obj.cells #[Value.bool false, Value.slice none 0 0] 24) = W
  have hb0 : Below w.heap.size w W := by subst hW; exact ((((Below.refl _ _).alloc (Nat.le_refl _) _).alloc (by simp) _).alloc (by simp; omega) _).alloc (by simp; omega) _
  have hz : W.heap.size = w.heap.size + 4 := by subst hW; simp
  have X : Bx W w.heap.size (.bool s) (.slice A n c) := by subst hW; exact (((Bx.new w _ _).alloc _).alloc _).alloc _
  have Y : Bx W (w.heap.size + 1) (.bool (!s)) (.slice B m d) := by subst hW; exact ((Bx.new' _ _ _ _ (by simp)).alloc _).alloc _
  have Z : Bx W (w.heap.size + 1 + 1) (.bool false) (.slice none 0 0) := by subst hW; exact (Bx.new' _ _ _ _ (by simp)).alloc _
  have Z' : Bx W (w.heap.size + 1 + 1 + 1) (.bool false) (.slice none 0 0) := by subst hW; exact Bx.new' _ _ _ _ (by simp)
  clear hW
  refine (hdm W (ha.below hb0) (hb.below hb0)).mono ?_
  rintro e w1 ⟨A1, n1, k1, A2, n2, k2, rfl, p1, p2, p3, p4, p5, p6, p7⟩
  have X1 := X.below p7
  have Y1 := Y.below p7
  have Z1 := Z.below p7
  have V1 := Z'.below p7
  have z1 := p7.size
  have c0 := X1.c0
  have d0 := Y1.c0
  have d1 := Y1.c1
  have hn2 : 0 < n2 := by
    rw [← p6.1, limbs_pos B64_two hr0]; simp
  have hb7 : Below w.heap.size w w1 := hb0.trans (p7.mono hb0.size)
  have p5' := p5
  have p6' := p6
  clear p5 p6 p7
  go_wp2_with fail
  have hq1 : n1 ≤ n := by
    rw [← p5'.1]
    refine Nat.le_trans (length_limbs_le B64_two (k := n) ?_) (Nat.le_refl _)
    refine Nat.lt_of_le_of_lt (Nat.div_le_self _ _) ?_
    have := val_lt La
    rwa [ha.1] at this
  have hrb : val B64 la % val B64 lb < val B64 lb := Nat.mod_lt _ (by omega)
  have hn2m : n2 ≤ m := by
    rw [← p6'.1]
    refine length_limbs_le B64_two ?_
    have := val_lt Lb
    rw [hb.1] at this
    omega
  refine (of_any 1 (by unfold B64; omega) w1).mono ?_
  rintro e w2 ⟨A3, n3, k3, rfl, o1, o2, o3, o4⟩
  rw [limbs_small B64_two (v := 1) (by unfold B64; omega) (by omega)] at o3
  obtain rfl : n3 = 1 := o3.1.symm
  have X2 := X1.below o4
  have Y2 := Y1.below o4
  have Z2 := Z1.below o4
  have V2 := V1.below o4
  have hb8 : Below w.heap.size w w2 := hb7.trans (o4.mono hb7.size)
  have z2 := o4.size
  have O3 := Lib.hid o3
  clear o3
  go_wp2_with fail
  have hsum : n1 + 1 ≤ 35184372088831 := by omega
  have hv1 : val B64 [1] = 1 := rfl
  refine (add_any (limbs B64 (val B64 la / val B64 lb)) [1] _ _ _ _ _ _ _ (p5'.rd.below o4) O3.out.rd (lim_limbs B64_two _) (lim1 (by unfold B64; omega)) hsum p1 o1).mono ?_
  rw [val_limbs B64_two, hv1]
  rintro e w3 ⟨A4, n4, k4, rfl, s1, s2, s3, s4⟩
  have X3 := X2.below s4
  have Y3 := Y2.below s4
  have Z3 := Z2.below s4
  have V3 := V2.below s4
  have hb9 : Below w.heap.size w w3 := hb8.trans (s4.mono hb8.size)
  have z3 := s4.size
  have S3 := Lib.hid s3
  clear s3
  have d3 := Y3.c1
  go_wp2_with fail
  refine (sub_any lb (limbs B64 (val B64 la % val B64 lb)) _ _ _ _ _ _ _ (hb.below hb9) ((p6'.rd.below o4).below s4) Lb (lim_limbs B64_two _) (by omega) hmd p3 (by rw [val_limbs B64_two]; omega)).mono ?_
  rw [val_limbs B64_two]
  rintro e w4 ⟨A5, n5, k5, rfl, u1, u2, u3, u4⟩
  have X4 := X3.below u4
  have Y4 := Y3.below u4
  have Z4 := Z3.below u4
  have V4 := V3.below u4
  have hb10 : Below w.heap.size w w4 := hb9.trans (u4.mono hb9.size)
  have z4 := u4.size
  have U3 := Lib.hid u3
  clear u3
  go_wp2_with fail
  go_region_held3 (fun w' => w'.cell? ⟨w.heap.size, 0, none⟩ = some (.bool s) ∧ w'.cell? ⟨w.heap.size + 1, 0, none⟩ = some (.bool (!s)))
    (first | with_reducible exact ⟨X4.c0, Y4.c0⟩ | with_reducible exact ⟨X4.drew.c0, Y4.drew.c0⟩ | with_reducible exact ⟨X8.c0, Y8.c0⟩ | with_reducible exact ⟨X7.c0, Y7.c0⟩ | with_reducible exact ⟨(set2_cell _ _ _ _ _ _ (by omega)).trans X8.c0, (set2_cell _ _ _ _ _ _ (by omega)).trans Y8.c0⟩ | with_reducible exact ⟨((set2_cell _ _ _ _ _ _ (by omega)).trans (set2_cell _ _ _ _ _ _ (by omega))).trans X8.c0, ((set2_cell _ _ _ _ _ _ (by omega)).trans (set2_cell _ _ _ _ _ _ (by omega))).trans Y8.c0⟩)
    (first
      | (go_at_call 43; (with_reducible refine (number_any _ _ _ _ w4.drew).mono ?_); rintro e w7 ⟨rfl, q7⟩
         replace q7 : Below w4.heap.size w4 w7 := (Below.refl _ w4).drew.trans q7
         have X7 := X4.below q7
         have Y7 := Y4.below q7
         have Z7 := Z4.below q7
         have V7 := V4.below q7)
      | (go_at_call 43; (with_reducible refine (number_any _ _ _ _ _).mono ?_); rintro e w8 ⟨rfl, q8⟩
         have X8 := X7.below q8
         have Y8 := Y7.below q8
         have Z8 := Z7.below q8
         have V8 := V7.below q8
         have r0 := Z8.c0
         have r1 := Z8.c1
         have r2 := Z8.f0
         have r3 := Z8.f1
         have r4 := V8.c0
         have r5 := V8.c1
         have r6 := V8.f0
         have r7 := V8.f1))
  go_wp2
  have G1 := (Z8.set2 (.bool (decide (0 < n4))) (.slice A4 n4 k4)).other (k := w.heap.size + 1 + 1 + 1) (by omega) (.bool (!s && decide (0 < n5))) (.slice A5 n5 k5)
  have G2 := (V8.other (k := w.heap.size + 1 + 1) (by omega) (.bool (decide (0 < n4))) (.slice A4 n4 k4)).set2 (.bool (!s && decide (0 < n5))) (.slice A5 n5 k5)
  have g0 := G1.c0
  have g1 := G1.c1
  have g2 := G2.c0
  have g3 := G2.c1
  refine bodyPost_ret (v := .tuple #[.agg #[.bool (decide (0 < n4)), .slice A4 n4 k4], .agg #[.bool (!s && decide (0 < n5)), .slice A5 n5 k5], .int .i64 0]) (by simp [results, Try.results29, go_sem, g0, g1, g2, g3]) rfl ?_
  have := close_qz (s := true) (t := (!s)) hb10 (by omega) (by omega) (g := w.heap.size + 1 + 1) (g' := w.heap.size + 1 + 1 + 1) (B1 := W.heap.size) (by omega) (by omega) s1 s2 u1 u2 ((S3.out.more (by omega)).below u4 (Nat.le_refl _)) (U3.out.more (by omega)) (by omega) (q7.trans (q8.mono q7.size)) (.bool (decide (0 < n4))) (.slice A4 n4 k4) (.bool (!s && decide (0 < n5))) (.slice A5 n5 k5)
  simpa using this
end Go.Proofs.Ytflcgeehpboldaa
