/- zed.Add, zed.Sub, zed.Mul, zed.Neg. -/
import Derived.Test.YtflcgeehpboldaaZedA
namespace Go.Proofs.Ytflcgeehpboldaa
open Go.RowKit

set_option maxHeartbeats 1000000 in
theorem zadd_same (s : Bool) (la lb : List Nat) (A B : Option Addr) (n c m d : Nat) (w : World) (ha : Rd .u64 w A n la) (hb : Rd .u64 w B m lb) (La : Lim B64 la) (Lb : Lim B64 lb)
    (hnc : n ≤ c) (hmd : m ≤ d) (hnm0 : n + m ≤ 35184372088831) :
    Calls Try.prog 16 #[.agg #[.bool s, .slice A n c], .agg #[.bool s, .slice B m d]] w (GivesI w (iv s (val B64 la + val B64 lb))) := by
  go_enter Try.func16, Try.ntmps16
  go_wp2
  generalize hW : ((w.alloc (Obj.cells #[Value.bool s, Value.slice A n c] 24)).alloc (Obj.cells #[Value.bool s, Value.slice B m d] 24)).alloc (Obj.cells #[Value.bool false, Value.slice none 0 0] 24) = W
  have hb0 : Below w.heap.size w W := by subst hW; exact (((Below.refl _ _).alloc (Nat.le_refl _) _).alloc (by simp) _).alloc (by simp; omega) _
  have hz : W.heap.size = w.heap.size + 3 := by subst hW; simp
  have X : Bx W w.heap.size (.bool s) (.slice A n c) := by subst hW; exact ((Bx.new w _ _).alloc _).alloc _
  have Y : Bx W (w.heap.size + 1) (.bool s) (.slice B m d) := by subst hW; exact (Bx.new' _ _ _ _ (by simp)).alloc _
  have Z : Bx W (w.heap.size + 1 + 1) (.bool false) (.slice none 0 0) := by subst hW; exact Bx.new' _ _ _ _ (by simp)
  clear hW
  have c0 := X.c0
  have c1 := X.c1
  have d0 := Y.c0
  have d1 := Y.c1
  go_region_held3 (fun w' => w'.cell? ⟨w.heap.size, 0, none⟩ = some (.bool s) ∧ w'.cell? ⟨w.heap.size, 1, none⟩ = some (.slice A n c) ∧ w'.cell? ⟨w.heap.size + 1, 0, none⟩ = some (.bool s) ∧ w'.cell? ⟨w.heap.size + 1, 1, none⟩ = some (.slice B m d))
    (first | exact ⟨X.c0, X.c1, Y.c0, Y.c1⟩ | exact ⟨X1.c0, X1.c1, Y1.c0, Y1.c1⟩ | exact ⟨X2.c0, X2.c1, Y2.c0, Y2.c1⟩ | exact ⟨(set2_cell _ _ _ _ _ _ (by omega)).trans X2.c0, (set2_cell _ _ _ _ _ _ (by omega)).trans X2.c1, (set2_cell _ _ _ _ _ _ (by omega)).trans Y2.c0, (set2_cell _ _ _ _ _ _ (by omega)).trans Y2.c1⟩)
    (first
      | (go_at_call 44; (with_reducible refine (add_any la lb _ _ _ _ _ _ _ (ha.below hb0).drew (hb.below hb0).drew La Lb hnm0 hnc hmd).mono ?_); rintro e w1 ⟨A1, n1, k1, rfl, p1, p2, p3, p4⟩
         replace p4 : Below W.heap.size W w1 := (Below.refl _ W).drew.trans p4
         have z1 : W.heap.size ≤ w1.heap.size := p4.size
         have X1 := X.below p4
         have Y1 := Y.below p4
         have Z1 := Z.below p4)
      | (go_at_call 43; (with_reducible refine (number_any _ _ _ _ _).mono ?_); rintro e w2 ⟨rfl, q4⟩
         have z2 : w1.heap.size ≤ w2.heap.size := q4.size
         have X2 := X1.below q4
         have Y2 := Y1.below q4
         have Z2 := Z1.below q4
         have r0 := Z2.c0
         have r1 := Z2.c1
         have r2 := Z2.f0
         have r3 := Z2.f1))
  go_wp2
  have hf0 := (Z2.set2 (.bool (s && decide (0 < n1))) (.slice A1 n1 k1)).c0
  have hf1 := (Z2.set2 (.bool (s && decide (0 < n1))) (.slice A1 n1 k1)).c1
  refine bodyPost_ret (v := .agg #[.bool (s && decide (0 < n1)), .slice A1 n1 k1]) (by simp [results, Try.results16, go_sem, hf0, hf1]) rfl ?_
  exact close_i (g := w.heap.size + 1 + 1) hb0 (by omega) (by show _ < W.heap.size; omega) rfl p1 p2 p3 p4 q4 _ _

set_option maxHeartbeats 1000000 in
theorem zmul_any (s t : Bool) (la lb : List Nat) (A B : Option Addr) (n c m d : Nat) (w : World) (ha : Rd .u64 w A n la) (hb : Rd .u64 w B m lb) (La : Lim B64 la) (Lb : Lim B64 lb)
    (hnc : n ≤ c) (hmd : m ≤ d) (hnm0 : n + m ≤ 35184372088832) (hfew : n ≤ 40 ∨ m ≤ 40) :
    Calls Try.prog 20 #[.agg #[.bool s, .slice A n c], .agg #[.bool t, .slice B m d]] w (GivesI w (iv (!(s == t)) (val B64 la * val B64 lb))) := by
  go_enter Try.func20, Try.ntmps20
  go_wp2
  generalize hW : ((w.alloc (Obj.cells #[Value.bool s, Value.slice A n c] 24)).alloc (Obj.cells #[Value.bool t, Value.slice B m d] 24)).alloc (Obj.cells #[Value.bool false, Value.slice none 0 0] 24) = W
  have hb0 : Below w.heap.size w W := by subst hW; exact (((Below.refl _ _).alloc (Nat.le_refl _) _).alloc (by simp) _).alloc (by simp; omega) _
  have hz : W.heap.size = w.heap.size + 3 := by subst hW; simp
  have X : Bx W w.heap.size (.bool s) (.slice A n c) := by subst hW; exact ((Bx.new w _ _).alloc _).alloc _
  have Y : Bx W (w.heap.size + 1) (.bool t) (.slice B m d) := by subst hW; exact (Bx.new' _ _ _ _ (by simp)).alloc _
  have Z : Bx W (w.heap.size + 1 + 1) (.bool false) (.slice none 0 0) := by subst hW; exact Bx.new' _ _ _ _ (by simp)
  clear hW
  have c0 := X.c0
  have c1 := X.c1
  have d0 := Y.c0
  have d1 := Y.c1
  go_region_held3 (fun w' => w'.cell? ⟨w.heap.size, 0, none⟩ = some (.bool s) ∧ w'.cell? ⟨w.heap.size, 1, none⟩ = some (.slice A n c) ∧ w'.cell? ⟨w.heap.size + 1, 0, none⟩ = some (.bool t) ∧ w'.cell? ⟨w.heap.size + 1, 1, none⟩ = some (.slice B m d))
    (first | exact ⟨X.c0, X.c1, Y.c0, Y.c1⟩ | exact ⟨X1.c0, X1.c1, Y1.c0, Y1.c1⟩ | exact ⟨X2.c0, X2.c1, Y2.c0, Y2.c1⟩ | exact ⟨(set2_cell _ _ _ _ _ _ (by omega)).trans X2.c0, (set2_cell _ _ _ _ _ _ (by omega)).trans X2.c1, (set2_cell _ _ _ _ _ _ (by omega)).trans Y2.c0, (set2_cell _ _ _ _ _ _ (by omega)).trans Y2.c1⟩)
    (first
      | (go_at_call 49; (with_reducible refine (mul_few la lb _ _ _ _ _ _ _ (ha.below hb0).drew (hb.below hb0).drew La Lb hnm0 hnc hmd hfew).mono ?_); rintro e w1 ⟨A1, n1, k1, rfl, p1, p2, p3, p4⟩
         replace p4 : Below W.heap.size W w1 := (Below.refl _ W).drew.trans p4
         have z1 : W.heap.size ≤ w1.heap.size := p4.size
         have X1 := X.below p4
         have Y1 := Y.below p4
         have Z1 := Z.below p4)
      | (go_at_call 43; (with_reducible refine (number_any _ _ _ _ _).mono ?_); rintro e w2 ⟨rfl, q4⟩
         have z2 : w1.heap.size ≤ w2.heap.size := q4.size
         have X2 := X1.below q4
         have Y2 := Y1.below q4
         have Z2 := Z1.below q4
         have r0 := Z2.c0
         have r1 := Z2.c1
         have r2 := Z2.f0
         have r3 := Z2.f1))
  go_wp2
  have hf0 := (Z2.set2 (.bool ((!(s == t)) && decide (0 < n1))) (.slice A1 n1 k1)).c0
  have hf1 := (Z2.set2 (.bool ((!(s == t)) && decide (0 < n1))) (.slice A1 n1 k1)).c1
  refine bodyPost_ret (v := .agg #[.bool ((!(s == t)) && decide (0 < n1)), .slice A1 n1 k1]) (by simp [results, Try.results20, go_sem, hf0, hf1]) rfl ?_
  exact close_i (g := w.heap.size + 1 + 1) hb0 (by omega) (by show _ < W.heap.size; omega) rfl p1 p2 p3 p4 q4 _ _

set_option maxHeartbeats 1000000 in
theorem zneg_any (s : Bool) (la : List Nat) (A : Option Addr) (n c : Nat) (w : World) (ha : Rd .u64 w A n la) (La : Lim B64 la) (hnm0 : n ≤ 35184372088831) (hnc : n ≤ c) :
    Calls Try.prog 26 #[.agg #[.bool s, .slice A n c]] w (GivesI w (iv (!s) (val B64 la))) := by
  go_enter Try.func26, Try.ntmps26
  go_wp2
  generalize hW : (w.alloc (Obj.cells #[Value.bool s, Value.slice A n c] 24)).alloc (Obj.cells #[Value.bool false, Value.slice none 0 0] 24) = W
  have hb0 : Below w.heap.size w W := by subst hW; exact ((Below.refl _ _).alloc (Nat.le_refl _) _).alloc (by simp) _
  have hz : W.heap.size = w.heap.size + 2 := by subst hW; simp
  have X : Bx W w.heap.size (.bool s) (.slice A n c) := by subst hW; exact (Bx.new w _ _).alloc _
  have Z : Bx W (w.heap.size + 1) (.bool false) (.slice none 0 0) := by subst hW; exact Bx.new' _ _ _ _ (by simp)
  clear hW
  have c0 := X.c0
  have c1 := X.c1
  go_region_held3 (fun w' => w'.cell? ⟨w.heap.size, 0, none⟩ = some (.bool s) ∧ w'.cell? ⟨w.heap.size, 1, none⟩ = some (.slice A n c))
    (first | exact ⟨X.c0, X.c1⟩ | exact ⟨X1.c0, X1.c1⟩ | exact ⟨X2.c0, X2.c1⟩ | exact ⟨(set2_cell _ _ _ _ _ _ (by omega)).trans X2.c0, (set2_cell _ _ _ _ _ _ (by omega)).trans X2.c1⟩)
    (first
      | (go_at_call 44; (with_reducible refine (add_any la [] _ _ _ _ _ _ _ (ha.below hb0).drew Rd.nil La Lim.nil (show n + 0 ≤ 35184372088831 by omega) hnc (Nat.le_refl _)).mono ?_); rintro e w1 ⟨A1, n1, k1, rfl, p1, p2, p3, p4⟩
         replace p4 : Below W.heap.size W w1 := (Below.refl _ W).drew.trans p4
         have z1 : W.heap.size ≤ w1.heap.size := p4.size
         have X1 := X.below p4
         have Z1 := Z.below p4)
      | (go_at_call 43; (with_reducible refine (number_any _ _ _ _ _).mono ?_); rintro e w2 ⟨rfl, q4⟩
         have z2 : w1.heap.size ≤ w2.heap.size := q4.size
         have X2 := X1.below q4
         have Z2 := Z1.below q4
         have r0 := Z2.c0
         have r1 := Z2.c1
         have r2 := Z2.f0
         have r3 := Z2.f1))
  go_wp2
  have hf0 := (Z2.set2 (.bool ((!s) && decide (0 < n1))) (.slice A1 n1 k1)).c0
  have hf1 := (Z2.set2 (.bool ((!s) && decide (0 < n1))) (.slice A1 n1 k1)).c1
  refine bodyPost_ret (v := .agg #[.bool ((!s) && decide (0 < n1)), .slice A1 n1 k1]) (by simp [results, Try.results26, go_sem, hf0, hf1]) rfl ?_
  exact close_i (g := w.heap.size + 1) hb0 (by omega) (by show _ < W.heap.size; omega) rfl p1 p2 p3 p4 q4 _ _

set_option maxHeartbeats 1000000 in
theorem zadd_ge (s : Bool) (la lb : List Nat) (A B : Option Addr) (n c m d : Nat) (w : World) (ha : Rd .u64 w A n la) (hb : Rd .u64 w B m lb) (La : Lim B64 la) (Lb : Lim B64 lb)
    (hnc : n ≤ c) (hmd : m ≤ d) (hnm0 : n + m ≤ 35184372088831) (hle : val B64 lb ≤ val B64 la) :
    Calls Try.prog 16 #[.agg #[.bool s, .slice A n c], .agg #[.bool (!s), .slice B m d]] w (GivesI w (iv s (val B64 la - val B64 lb))) := by
  go_enter Try.func16, Try.ntmps16
  have hne : (s == !s) = false := by cases s <;> rfl
  go_wp2_with fail
  generalize hW : ((w.alloc (Obj.cells #[Value.bool s, Value.slice A n c] 24)).alloc (Obj.cells #[Value.bool (!s), Value.slice B m d] 24)).alloc (Obj.cells #[Value.bool false, Value.slice none 0 0] 24) = W
  have hb0 : Below w.heap.size w W := by subst hW; exact (((Below.refl _ _).alloc (Nat.le_refl _) _).alloc (by simp) _).alloc (by simp; omega) _
  have hz : W.heap.size = w.heap.size + 3 := by subst hW; simp
  have X : Bx W w.heap.size (.bool s) (.slice A n c) := by subst hW; exact ((Bx.new w _ _).alloc _).alloc _
  have Y : Bx W (w.heap.size + 1) (.bool (!s)) (.slice B m d) := by subst hW; exact (Bx.new' _ _ _ _ (by simp)).alloc _
  have Z : Bx W (w.heap.size + 1 + 1) (.bool false) (.slice none 0 0) := by subst hW; exact Bx.new' _ _ _ _ (by simp)
  clear hW
  refine (sub_any la lb _ _ _ _ _ _ _ (ha.below hb0) (hb.below hb0) La Lb hnm0 hnc hmd hle).mono ?_
  rintro e w1 ⟨A1, n1, k1, rfl, p1, p2, p3, p4⟩
  have z1 : W.heap.size ≤ w1.heap.size := p4.size
  have X1 := X.below p4
  have Z1 := Z.below p4
  have c2 := X1.c0
  go_wp2_with (first
      | (go_at_call 43; (with_reducible refine (number_any _ _ _ _ _).mono ?_); rintro e w2 ⟨rfl, q4⟩
         have z2 : w1.heap.size ≤ w2.heap.size := q4.size
         have X2 := X1.below q4
         have Z2 := Z1.below q4
         have r0 := Z2.c0
         have r1 := Z2.c1
         have r2 := Z2.f0
         have r3 := Z2.f1))
  have hf0 := (Z2.set2 (.bool (s && decide (0 < n1))) (.slice A1 n1 k1)).c0
  have hf1 := (Z2.set2 (.bool (s && decide (0 < n1))) (.slice A1 n1 k1)).c1
  refine bodyPost_ret (v := .agg #[.bool (s && decide (0 < n1)), .slice A1 n1 k1]) (by simp [results, Try.results16, go_sem, hf0, hf1]) rfl ?_
  exact close_i (g := w.heap.size + 1 + 1) hb0 (by omega) (by omega) rfl p1 p2 p3 p4 q4 _ _

set_option maxHeartbeats 1000000 in
theorem zadd_lt (s : Bool) (la lb : List Nat) (A B : Option Addr) (n c m d : Nat) (w : World) (ha : Rd .u64 w A n la) (hb : Rd .u64 w B m lb) (La : Lim B64 la) (Lb : Lim B64 lb)
    (hnc : n ≤ c) (hmd : m ≤ d) (hnm0 : n + m ≤ 35184372088831) (hlt : val B64 la < val B64 lb) :
    Calls Try.prog 16 #[.agg #[.bool s, .slice A n c], .agg #[.bool (!s), .slice B m d]] w (GivesI w (iv (!s) (val B64 lb - val B64 la))) := by
  go_enter Try.func16, Try.ntmps16
  have hne : (s == !s) = false := by cases s <;> rfl
  go_wp2_with fail
  generalize hW : ((w.alloc (Obj.cells #[Value.bool s, Value.slice A n c] 24)).alloc (Obj.cells #[Value.bool (!s), Value.slice B m d] 24)).alloc (Obj.cells #[Value.bool false, Value.slice none 0 0] 24) = W
  have hb0 : Below w.heap.size w W := by subst hW; exact (((Below.refl _ _).alloc (Nat.le_refl _) _).alloc (by simp) _).alloc (by simp; omega) _
  have hz : W.heap.size = w.heap.size + 3 := by subst hW; simp
  have X : Bx W w.heap.size (.bool s) (.slice A n c) := by subst hW; exact ((Bx.new w _ _).alloc _).alloc _
  have Y : Bx W (w.heap.size + 1) (.bool (!s)) (.slice B m d) := by subst hW; exact (Bx.new' _ _ _ _ (by simp)).alloc _
  have Z : Bx W (w.heap.size + 1 + 1) (.bool false) (.slice none 0 0) := by subst hW; exact Bx.new' _ _ _ _ (by simp)
  clear hW
  refine (sub_below la lb _ _ _ _ _ _ _ (ha.below hb0) (hb.below hb0) La Lb hnm0 hnc hmd hlt).mono ?_
  rintro e w0 ⟨rfl, p0⟩
  have z0 : W.heap.size ≤ w0.heap.size := p0.size
  have X0 := X.below p0
  have Y0 := Y.below p0
  have Z0 := Z.below p0
  have c2 := X0.c1
  have d2 := Y0.c1
  go_wp2_with (first
      | (go_at_call 45; (with_reducible refine (sub_any lb la _ _ _ _ _ _ _ (hb.below (hb0.trans (p0.mono (by omega)))) (ha.below (hb0.trans (p0.mono (by omega)))) Lb La (by omega) hmd hnc (Nat.le_of_lt hlt)).mono ?_); rintro e w1 ⟨A1, n1, k1, rfl, p1, p2, p3, p4⟩
         have z1 : w0.heap.size ≤ w1.heap.size := p4.size
         have Y1 := Y0.below p4
         have Z1 := Z0.below p4
         have d3 := Y1.c0)
      | (go_at_call 43; (with_reducible refine (number_any _ _ _ _ _).mono ?_); rintro e w2 ⟨rfl, q4⟩
         have z2 : w1.heap.size ≤ w2.heap.size := q4.size
         have Y2 := Y1.below q4
         have Z2 := Z1.below q4
         have r0 := Z2.c0
         have r1 := Z2.c1
         have r2 := Z2.f0
         have r3 := Z2.f1))
  have hf0 := (Z2.set2 (.bool ((!s) && decide (0 < n1))) (.slice A1 n1 k1)).c0
  have hf1 := (Z2.set2 (.bool ((!s) && decide (0 < n1))) (.slice A1 n1 k1)).c1
  refine bodyPost_ret (v := .agg #[.bool ((!s) && decide (0 < n1)), .slice A1 n1 k1]) (by simp [results, Try.results16, go_sem, hf0, hf1]) rfl ?_
  exact close_i (g := w.heap.size + 1 + 1) hb0 (by omega) (by omega) rfl p1 p2 p3 (p0.trans (p4.mono z0)) q4 _ _

theorem iv_add_ge {s : Bool} {a b : Nat} (h : b ≤ a) : iv s (a - b) = iv s a + iv (!s) b := by cases s <;> simp [iv] <;> omega
theorem iv_add_lt {s : Bool} {a b : Nat} (h : a < b) : iv (!s) (b - a) = iv s a + iv (!s) b := by cases s <;> simp [iv] <;> omega
theorem iv_add_same (s : Bool) (a b : Nat) : iv s (a + b) = iv s a + iv s b := by cases s <;> simp [iv]; omega
theorem iv_mul (s t : Bool) (a b : Nat) : iv (!(s == t)) (a * b) = iv s a * iv t b := by cases s <;> cases t <;> simp [iv, Int.neg_mul, Int.mul_neg]
theorem iv_not (s : Bool) (a : Nat) : iv (!s) a = - iv s a := by cases s <;> simp [iv]

theorem zadd_any (s t : Bool) (la lb : List Nat) (A B : Option Addr) (n c m d : Nat) (w : World) (ha : Rd .u64 w A n la) (hb : Rd .u64 w B m lb) (La : Lim B64 la) (Lb : Lim B64 lb)
    (hnc : n ≤ c) (hmd : m ≤ d) (hnm0 : n + m ≤ 35184372088831) :
    Calls Try.prog 16 #[.agg #[.bool s, .slice A n c], .agg #[.bool t, .slice B m d]] w (GivesI w (iv s (val B64 la) + iv t (val B64 lb))) := by
  by_cases hst : s = t
  · subst hst
    rw [← iv_add_same]
    exact zadd_same s la lb A B n c m d w ha hb La Lb hnc hmd hnm0
  · have ht : t = !s := by cases s <;> cases t <;> simp_all
    rcases Nat.lt_or_ge (val B64 la) (val B64 lb) with h | h
    · have := zadd_lt s la lb A B n c m d w ha hb La Lb hnc hmd hnm0 h
      rw [iv_add_lt h] at this
      rw [ht]
      exact this
    · have := zadd_ge s la lb A B n c m d w ha hb La Lb hnc hmd hnm0 h
      rw [iv_add_ge h] at this
      rw [ht]
      exact this
end Go.Proofs.Ytflcgeehpboldaa
