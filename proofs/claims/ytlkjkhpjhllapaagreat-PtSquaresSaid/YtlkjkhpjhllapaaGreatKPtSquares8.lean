/- PtSquares: part 8. -/
import Derived.BigQuiet
import Derived.BigRegion
import Derived.Deep.Cut
import Derived.Deep.CutRange
import Derived.Deep.RegionHeld3
import Derived.Test.YtlkjkhpjhllapaaGreatKPtSquares0
import Derived.Test.YtlkjkhpjhllapaaGreatKPtSquares3
import Derived.Test.YtlkjkhpjhllapaaGreatKPtSquares6
import Derived.Test.YtlkjkhpjhllapaaGreatKPtSquares7
set_option linter.unusedVariables false
namespace Go.Proofs.YtlkjkhpjhllapaaGreat
open Go.RowKit
end Go.Proofs.YtlkjkhpjhllapaaGreat
namespace Go.Proofs.YtlkjkhpjhllapaaGreat
theorem root_up {x y M : Nat} (h : M < 4 * (x * y)) : M < (x + y) * (x + y) := by
  have e : (x + y) * (x + y) = x * x + 2 * (x * y) + y * y := by grind
  have k : 2 * (x * y) ≤ x * x + y * y := by
    rcases Nat.le_total x y with c | c
    · obtain ⟨d, rfl⟩ := Nat.exists_eq_add_of_le c
      have : (x + d) * (x + d) = x * x + 2 * (x * d) + d * d := by grind
      have : x * (x + d) = x * x + x * d := by grind
      omega
    · obtain ⟨d, rfl⟩ := Nat.exists_eq_add_of_le c
      have : (y + d) * (y + d) = y * y + 2 * (y * d) + d * d := by grind
      have : (y + d) * y = y * y + y * d := by grind
      omega
  omega
theorem root_dn {A P M t : Int} (hP : 0 < P) (hA : 2 * (P * P) ≤ A) (hAP : 2 * P ≤ A) (h1 : (A - 2 * P) * (A - 2 * P) < M) (h2 : M < (A + 2 * P) * (A + 2 * P)) (h3 : 2 * (A * (t + 1)) ≤ M + A * A) (ht : 0 ≤ t) : t * t < M := by
  have e1 : (A - 2 * P) * (A - 2 * P) = A * A - 4 * (A * P) + 4 * (P * P) := by grind
  have e2 : (A + 2 * P) * (A + 2 * P) = A * A + 4 * (A * P) + 4 * (P * P) := by grind
  have e3 : A * (t + 1) = A * t + A := by grind
  refine Int.not_le.1 fun hM => ?_
  rcases Int.lt_or_le t (A + 2 * P) with c | c
  · rcases Int.lt_or_le (A - 2 * P) t with d | d
    · have k : (t - A) * (t - A) < 4 * (P * P) := by
        have f : 0 < (2 * P - (t - A)) * (2 * P + (t - A)) := Int.mul_pos (by omega) (by omega)
        have g : (2 * P - (t - A)) * (2 * P + (t - A)) = 4 * (P * P) - (t - A) * (t - A) := by grind
        omega
      have k2 : (t - A) * (t - A) = t * t - 2 * (A * t) + A * A := by grind
      omega
    · have f : t * t ≤ (A - 2 * P) * (A - 2 * P) := Int.mul_le_mul d d ht (by omega)
      omega
  · have f : A * (A + 2 * P) ≤ A * t := Int.mul_le_mul_of_nonneg_left c (by omega)
    have g : A * (A + 2 * P) = A * A + 2 * (A * P) := by grind
    omega
theorem root_step {a P m M : Nat} (hP : 0 < P) (ha : P ≤ a) (hm : m = M / (4 * (P * P))) (h1 : (a - 1) * (a - 1) < m) (h2 : m < (a + 1) * (a + 1)) :
    (P * a + M / (4 * P) / a - 1) * (P * a + M / (4 * P) / a - 1) < M ∧ M < (P * a + M / (4 * P) / a + 1) * (P * a + M / (4 * P) / a + 1) := by
  have ha0 : 0 < a := by omega
  have hPa : 0 < P * a := Nat.mul_pos hP ha0
  obtain ⟨q, hq⟩ : ∃ q, q = M / (4 * P) / a := ⟨_, rfl⟩
  rw [← hq]
  rw [Nat.div_div_eq_div_mul] at hq
  have hpos : 0 < 4 * P * a := Nat.mul_pos (by omega) ha0
  have q1 : 4 * P * a * q ≤ M := by rw [hq]; exact Nat.mul_div_le M _
  have q2 : M < 4 * P * a * (q + 1) := by rw [hq]; exact Nat.lt_mul_div_succ M hpos
  have hPP : 0 < P * P := Nat.mul_pos hP hP
  have m1 : 4 * (P * P) * m ≤ M := by rw [hm]; exact Nat.mul_div_le M _
  have m2 : M < 4 * (P * P) * (m + 1) := by rw [hm]; exact Nat.lt_mul_div_succ M (by omega)
  constructor
  · obtain ⟨b, rfl⟩ : ∃ b, a = b + 1 := ⟨a - 1, by omega⟩
    rw [Nat.add_sub_cancel] at h1
    obtain ⟨t, ht⟩ : ∃ t, P * (b + 1) + q = t + 1 := ⟨P * (b + 1) + q - 1, by omega⟩
    have m3 : 4 * (P * P) * (b * b + 1) ≤ 4 * (P * P) * m := Nat.mul_le_mul_left _ h1
    have m4 : 4 * (P * P) * (m + 1) ≤ 4 * (P * P) * ((b + 1 + 1) * (b + 1 + 1)) := Nat.mul_le_mul_left _ h2
    have k1 : P * P ≤ P * (b + 1) := Nat.mul_le_mul_left _ ha
    have k2 : P * 1 ≤ P * (b + 1) := Nat.mul_le_mul_left _ (by omega)
    have c1 : (2 * ((P : Int) * ((b : Int) + 1)) - 2 * (P : Int)) * (2 * ((P : Int) * ((b : Int) + 1)) - 2 * (P : Int)) < (M : Int) := by
      have e : (2 * ((P : Int) * ((b : Int) + 1)) - 2 * (P : Int)) * (2 * ((P : Int) * ((b : Int) + 1)) - 2 * (P : Int)) = ((4 * (P * P) * (b * b) : Nat) : Int) := by push_cast; grind
      have f : 4 * (P * P) * (b * b + 1) = 4 * (P * P) * (b * b) + 4 * (P * P) := by grind
      rw [e]; omega
    have c2 : (M : Int) < (2 * ((P : Int) * ((b : Int) + 1)) + 2 * (P : Int)) * (2 * ((P : Int) * ((b : Int) + 1)) + 2 * (P : Int)) := by
      have e : (2 * ((P : Int) * ((b : Int) + 1)) + 2 * (P : Int)) * (2 * ((P : Int) * ((b : Int) + 1)) + 2 * (P : Int)) = ((4 * (P * P) * ((b + 1 + 1) * (b + 1 + 1)) : Nat) : Int) := by push_cast; grind
      rw [e]; omega
    have c3 : 2 * ((2 * ((P : Int) * ((b : Int) + 1))) * ((t : Int) + 1)) ≤ (M : Int) + (2 * ((P : Int) * ((b : Int) + 1))) * (2 * ((P : Int) * ((b : Int) + 1))) := by
      have et : (t : Int) + 1 = (P : Int) * ((b : Int) + 1) + (q : Int) := by
        have : ((P * (b + 1) + q : Nat) : Int) = ((t + 1 : Nat) : Int) := by rw [ht]
        push_cast at this; omega
      rw [et]
      have e : 2 * ((2 * ((P : Int) * ((b : Int) + 1))) * ((P : Int) * ((b : Int) + 1) + (q : Int))) = ((4 * P * (b + 1) * q : Nat) : Int) + (2 * ((P : Int) * ((b : Int) + 1))) * (2 * ((P : Int) * ((b : Int) + 1))) := by push_cast; grind
      rw [e]; omega
    have z1 : ((P * P : Nat) : Int) ≤ ((P * (b + 1) : Nat) : Int) := by omega
    have z2 : ((P * 1 : Nat) : Int) ≤ ((P * (b + 1) : Nat) : Int) := by omega
    push_cast at z1 z2
    have r := root_dn (A := 2 * ((P : Int) * ((b : Int) + 1))) (P := (P : Int)) (M := (M : Int)) (t := (t : Int)) (by omega) (by omega) (by omega) c1 c2 c3 (by omega)
    rw [ht, Nat.add_sub_cancel]
    have r2 : ((t * t : Nat) : Int) < (M : Int) := by push_cast; exact r
    omega
  · have := root_up (x := P * a) (y := q + 1) (M := M) (by
      have e : 4 * (P * a * (q + 1)) = 4 * P * a * (q + 1) := by grind
      omega)
    rw [show P * a + q + 1 = P * a + (q + 1) by omega]
    exact this
theorem root_low {a D M : Nat} (h : M < (a + 1) * (a + 1)) (hM : D * D ≤ M) : D ≤ a := by
  refine Nat.not_lt.1 fun c => ?_
  have := Nat.mul_le_mul (show a + 1 ≤ D from c) (show a + 1 ≤ D from c)
  omega
theorem root_high {a D M : Nat} (h : (a - 1) * (a - 1) < M) (hM : M ≤ D * D) : a ≤ D := by
  refine Nat.not_lt.1 fun c => ?_
  have := Nat.mul_le_mul (show D ≤ a - 1 by omega) (show D ≤ a - 1 by omega)
  omega
def RootOk (V c e a : Nat) : Prop := (a - 1) * (a - 1) < V / 2 ^ (2 * (c - e)) ∧ V / 2 ^ (2 * (c - e)) < (a + 1) * (a + 1) ∧ 2 ^ e ≤ a ∧ a ≤ 2 ^ (e + 1)
theorem RootOk.start {V c : Nat} (h1 : 2 ^ (2 * c) ≤ V) (h2 : V < 2 ^ (2 * c + 2)) : RootOk V c 0 1 := by
  have e1 : 1 ≤ V / 2 ^ (2 * c) := (Nat.le_div_iff_mul_le (Nat.two_pow_pos _)).2 (by omega)
  have e2 : V / 2 ^ (2 * c) < 4 := Nat.div_lt_of_lt_mul (by rw [Nat.pow_add] at h2; omega)
  unfold RootOk
  rw [Nat.sub_zero]
  exact ⟨by omega, by omega, by simp, by simp⟩
theorem RootOk.next {V c e d a : Nat} (h1 : 2 ^ (2 * c) ≤ V) (h2 : V < 2 ^ (2 * c + 2)) (h : RootOk V c e a) (hed : e < d) (hd : d ≤ 2 * e + 1) (hdc : d ≤ c) :
    RootOk V c d (a * 2 ^ (d - e - 1) + V / 2 ^ (2 * c - e - d + 1) / a) := by
  obtain ⟨k1, k2, k3, k4⟩ := h
  obtain ⟨P, hP⟩ : ∃ P, P = 2 ^ (d - e - 1) := ⟨_, rfl⟩
  obtain ⟨M, hM⟩ : ∃ M, M = V / 2 ^ (2 * (c - d)) := ⟨_, rfl⟩
  have hP0 : 0 < P := by rw [hP]; exact Nat.two_pow_pos _
  have hPa : P ≤ a := Nat.le_trans (by rw [hP]; exact Nat.pow_le_pow_right (by decide) (by omega)) k3
  have e1 : V / 2 ^ (2 * (c - e)) = M / (4 * (P * P)) := by
    rw [hM, hP, Nat.div_div_eq_div_mul, show (4 : Nat) = 2 ^ 2 from rfl, ← Nat.pow_add, ← Nat.pow_add, ← Nat.pow_add]
    congr 2; omega
  have e2 : V / 2 ^ (2 * c - e - d + 1) = M / (4 * P) := by
    rw [hM, hP, Nat.div_div_eq_div_mul, show (4 : Nat) = 2 ^ 2 from rfl, ← Nat.pow_add, ← Nat.pow_add]
    congr 2; omega
  rw [e1] at k1 k2
  have r := root_step hP0 hPa rfl k1 k2
  rw [← hP, e2, Nat.mul_comm a P]
  generalize P * a + M / (4 * P) / a = b at r ⊢
  have l1 : 2 ^ d * 2 ^ d ≤ M := by
    rw [hM, ← Nat.pow_add, Nat.le_div_iff_mul_le (Nat.two_pow_pos _), ← Nat.pow_add]
    exact Nat.le_trans (Nat.pow_le_pow_right (by decide) (by omega)) h1
  have l2 : M ≤ 2 ^ (d + 1) * 2 ^ (d + 1) := by
    rw [hM, ← Nat.pow_add]
    refine Nat.le_of_lt (Nat.div_lt_of_lt_mul ?_)
    rw [← Nat.pow_add]
    exact Nat.lt_of_lt_of_le h2 (Nat.pow_le_pow_right (by decide) (by omega))
  rw [hM] at r l1 l2
  exact ⟨r.1, r.2, root_low r.2 l1, root_high r.1 l2⟩
theorem RootOk.top {V c e d : Nat} (h2 : V < 2 ^ (2 * c + 2)) (hed : e + d ≤ 2 * c) : V / 2 ^ (2 * c - e - d + 1) < 2 ^ (e + d + 1) := by
  refine Nat.div_lt_of_lt_mul ?_
  rw [← Nat.pow_add]
  exact Nat.lt_of_lt_of_le h2 (Nat.pow_le_pow_right (by decide) (by omega))
end Go.Proofs.YtlkjkhpjhllapaaGreat
namespace Go.Proofs.YtlkjkhpjhllapaaGreat
open Go.RowKit
end Go.Proofs.YtlkjkhpjhllapaaGreat
namespace Go.Proofs.YtlkjkhpjhllapaaGreat
open Go.RowKit
def OwnN (w : World) (B g n c V : Nat) : Prop :=
  ∃ L, Own .u64 115 w g L ∧ L.length = c ∧ n ≤ c ∧ c ≤ 35184372088832 ∧ Lim B64 L ∧ L.take n = limbs B64 V ∧ B ≤ g
def GivesO (w : World) (V : Nat) (e : Ending) (w' : World) : Prop :=
  ∃ g n c, e = .returned (.slice (some ⟨g, 0, none⟩) n c) ∧ OwnN w' w.heap.size g n c V ∧ Below w.heap.size w w'
theorem OwnN.below {w w' : World} {B g n c V : Nat} (h : OwnN w B g n c V) (hb : Below w.heap.size w w') : OwnN w' B g n c V := by
  obtain ⟨L, h1, h2⟩ := h
  exact ⟨L, h1.below hb h1.lt, h2⟩
theorem OwnN.more {w : World} {B B' g n c V : Nat} (h : OwnN w B g n c V) (hB : B' ≤ B) : OwnN w B' g n c V := by
  obtain ⟨L, h1, h2, h3, h4, h5, h6, h7⟩ := h
  exact ⟨L, h1, h2, h3, h4, h5, h6, Nat.le_trans hB h7⟩
theorem of_own (v : Nat) (hv : v < B64) (h0 : v ≠ 0) (w : World) :
    Calls Tryz.prog 126 #[.int .u64 (v : Int)] w (GivesO w v) := by
  have hne : ((v : Int) == 0) = false := by simp; omega
  go_enter Tryz.func126, Tryz.ntmps126
  go_wp2
  go_ret
  refine ⟨_, _, _, rfl, ⟨[v], heap_alloc_new w _, rfl, Nat.le_refl _, by decide, lim1 hv, ?_, Nat.le_refl _⟩, (Below.refl _ _).alloc (Nat.le_refl _) _⟩
  rw [limbs_small B64_two hv h0]; rfl
section
variable {w : World} {A B : Option Addr} {n c m d U V k k1 k2 : Nat}
theorem bits_nr (X : NR w A n c V k) (hk : k ≤ 1000000) :
    Calls Tryz.prog 128 #[.slice A n c] w fun e w' => e = .returned (.int .i64 (bl V : Nat)) ∧ w = w' := by
  obtain ⟨la, a1, a2, rfl, a4, a5⟩ := X
  exact bits_any la A n c w a1 a2 (by omega) a4
end
end Go.Proofs.YtlkjkhpjhllapaaGreat
namespace Go.Proofs.YtlkjkhpjhllapaaGreat
open Go.RowKit
theorem OwnN.lt {w : World} {B g n c V : Nat} (h : OwnN w B g n c V) : g < w.heap.size := by
  obtain ⟨L, h1, _⟩ := h
  exact h1.lt
theorem OwnN.le {w : World} {B g n c V : Nat} (h : OwnN w B g n c V) : B ≤ g := by
  obtain ⟨L, _, _, _, _, _, _, h⟩ := h
  exact h
end Go.Proofs.YtlkjkhpjhllapaaGreat
namespace Go.Proofs.YtlkjkhpjhllapaaGreat
open Go.RowKit
theorem b32_pos (k : Nat) : 0 < B32 ^ k := Nat.pow_pos (by decide)
theorem RN.zero (w : World) (k : Nat) : RN w none 0 0 0 k := RN.of (by rw [limbs_zero]; exact Rd.nil) (Nat.le_refl _) (b32_pos _)
end Go.Proofs.YtlkjkhpjhllapaaGreat
namespace Go.Proofs.YtlkjkhpjhllapaaGreat
open Go.RowKit
def By (W : World) (g : Nat) (x y : Value) : Prop := W.heap[g]? = some (.cells #[x, y] 32 (0, 0))
section
variable {W W' : World} {g : Nat} {x y : Value}
theorem By.c0 (h : By W g x y) : W.cell? ⟨g, 0, none⟩ = some x := by rw [cell_of_row W g 0 _ _ (0, 0) h]; rfl
theorem By.c1 (h : By W g x y) : W.cell? ⟨g, 1, none⟩ = some y := by rw [cell_of_row W g 1 _ _ (0, 0) h]; rfl
theorem By.f0 (h : By W g x y) : W.frozen? ⟨g, 0, none⟩ = false := frozen_of_row W g 0 _ _ h
theorem By.f1 (h : By W g x y) : W.frozen? ⟨g, 1, none⟩ = false := frozen_of_row W g 1 _ _ h
theorem By.lt (h : By W g x y) : g < W.heap.size := World.block_lt_of_cell? W _ h.c0
theorem By.below (h : By W g x y) (hb : Below W.heap.size W W') : By W' g x y := (hb.block g h.lt).trans h
theorem By.drew (h : By W g x y) : By W.drew g x y := h
theorem By.alloc (h : By W g x y) (o : Obj) : By (W.alloc o) g x y := (Below.heap_alloc W o g h.lt).trans h
theorem By.new (W : World) (x y : Value) : By (W.alloc (.cells #[x, y] 32)) W.heap.size x y := heap_alloc_new W _
theorem By.new' (W : World) (x y : Value) (g : Nat) (hg : g = W.heap.size) : By (W.alloc (.cells #[x, y] 32)) g x y := by subst hg; exact By.new W x y
theorem By.set2 (h : By W g x y) (u v : Value) : By ((W.setCell ⟨g, 0, none⟩ u).setCell ⟨g, 1, none⟩ v) g u v := by
  unfold By at h ⊢
  simp [World.setCell, Array.getElem?_modify, h]
theorem By.off {s : Bool} {A' A : Option Addr} {n' c' n : Nat} {K : IntKind} {l : List Nat} (h : By W g (.bool s) (.slice A' n' c')) (hr : Rd K W A n l) : Off A n g := by
  intro hn ad e hg
  obtain ⟨b, o, eA, hc⟩ := hr.at_ hn
  obtain ⟨x, _, hx⟩ := hc 0 hn
  rw [eA] at e
  cases e
  have hg2 : b = g := hg
  subst hg2
  rw [cell_of_row W b (o + 0) _ _ (0, 0) h] at hx
  match o, hx with
  | 0, hx => cases hx
  | 1, hx => cases hx
  | o + 2, hx => cases hx
end
def RZ (w : World) (s : Bool) (A : Option Addr) (n c : Nat) (v : Int) (k : Nat) : Prop := ∃ U, RN w A n c U k ∧ iv s U = v
def RG (w : World) (s : Bool) (A : Option Addr) (n c : Nat) (v : Int) (k : Nat) : Prop := s = decide (v < 0) ∧ RN w A n c v.natAbs k
def GivesRZ (w : World) (v : Int) (k : Nat) (e : Ending) (w' : World) : Prop :=
  ∃ s A n c, e = .returned (.agg #[.bool s, .slice A n c]) ∧ RG w' s A n c v k ∧ Below w.heap.size w w'
theorem iv_canon (v : Int) : iv (decide (v < 0)) v.natAbs = v := by
  unfold iv
  by_cases h : v < 0
  · simp [h]; omega
  · simp [h]; omega
theorem RG.rz {w : World} {s : Bool} {A : Option Addr} {n c k : Nat} {v : Int} (h : RG w s A n c v k) : RZ w s A n c v k := ⟨_, h.2, by rw [h.1]; exact iv_canon v⟩
theorem RG.below {w w' : World} {s : Bool} {A : Option Addr} {n c k : Nat} {v : Int} (h : RG w s A n c v k) (hb : Below w.heap.size w w') : RG w' s A n c v k := ⟨h.1, h.2.below hb⟩
theorem RZ.below {w w' : World} {s : Bool} {A : Option Addr} {n c k : Nat} {v : Int} (h : RZ w s A n c v k) (hb : Below w.heap.size w w') : RZ w' s A n c v k := by
  obtain ⟨U, h1, h2⟩ := h
  exact ⟨U, h1.below hb, h2⟩
theorem rn_pos {w : World} {A : Option Addr} {n c V k : Nat} (h : RN w A n c V k) : decide (0 < n) = decide (0 < V) := by
  have hl := h.1.1
  by_cases h0 : V = 0
  · rw [h0, limbs_zero] at hl
    rw [h0, ← hl]; rfl
  · rw [limbs_pos B32_two h0] at hl
    simp at hl
    rw [decide_eq_true (by omega : 0 < n), decide_eq_true (by omega : 0 < V)]
theorem close_rz {w W : World} {g k : Nat} {s z : Bool} {A A' : Option Addr} {n c n' c' V : Nat} {v : Int} (hb : Below w.heap.size w W) (hg : w.heap.size ≤ g) (Z : By W g (.bool z) (.slice A' n' c')) (X : RN W A n c V k) (hv : v = iv s V) (u x : Value) :
    GivesRZ w v k (.returned (.agg #[.bool (s && decide (0 < n)), .slice A n c])) ((W.setCell ⟨g, 0, none⟩ u).setCell ⟨g, 1, none⟩ x) := by
  subst hv
  refine ⟨_, A, n, c, rfl, ⟨?_, ?_⟩, (hb.setCell hg _).setCell hg _⟩
  · rw [iv_neg, rn_pos X]
  · rw [iv_natAbs]
    exact ⟨X.1.only (Z.off X.1) (((Only.refl g W).setCell 0 u).setCell 1 x), X.2⟩
set_option maxHeartbeats 1000000 in
theorem made_any (neg : Bool) (A : Option Addr) (n c : Nat) (w : World) :
    Calls Tryz.prog 167 #[.bool neg, .slice A n c] w fun e w' => e = .returned (.agg #[.bool (neg && decide (0 < n)), .slice A n c]) ∧ Below w.heap.size w w' := by
  cases neg
  · go_enter Tryz.func167, Tryz.ntmps167
    go_wp2
    go_returns
    exact ⟨rfl, (Below.refl _ _).alloc (Nat.le_refl _) _⟩
  · go_enter Tryz.func167, Tryz.ntmps167
    go_wp2
    go_returns
    exact ⟨by simp, (Below.refl _ _).alloc (Nat.le_refl _) _⟩
theorem RN.more {w : World} {A : Option Addr} {n c V k k1 : Nat} (h : RN w A n c V k) (hk : k ≤ k1) : RN w A n c V k1 := ⟨h.1, h.2.1, Nat.le_trans h.2.2 hk⟩
end Go.Proofs.YtlkjkhpjhllapaaGreat
namespace Go.Proofs.YtlkjkhpjhllapaaGreat
open Go.RowKit
theorem zneg_zr {w : World} {s : Bool} {A : Option Addr} {n c k : Nat} {v : Int} (X : ZR w s A n c v k) (hk : k ≤ 1000) :
    Calls Tryz.prog 118 #[.agg #[.bool s, .slice A n c]] w (GivesZ w (-v) k) := by
  obtain ⟨la, a1, a2, rfl, a4, a5, a6⟩ := X
  have h := zneg_any s la A n c w a1 a2 (by omega) a4
  rw [iv_not] at h
  exact h.mono fun _ _ g => g.z (by rw [Int.natAbs_neg]; exact a6)
end Go.Proofs.YtlkjkhpjhllapaaGreat
namespace Go.Proofs.YtlkjkhpjhllapaaGreat
open Go.RowKit
def ZG (w : World) (s : Bool) (A : Option Addr) (n c : Nat) (v : Int) (k : Nat) : Prop := s = decide (v < 0) ∧ Rd .u64 w A n (limbs B64 v.natAbs) ∧ n ≤ c ∧ n ≤ k
theorem ZG.below {w w' : World} {s : Bool} {A : Option Addr} {n c k : Nat} {v : Int} (h : ZG w s A n c v k) (hb : Below w.heap.size w w') : ZG w' s A n c v k := ⟨h.1, h.2.1.below hb, h.2.2⟩
theorem ZG.zr {w : World} {s : Bool} {A : Option Addr} {n c k : Nat} {v : Int} (h : ZG w s A n c v k) : ZR w s A n c v k := by
  obtain ⟨h1, h2, h3, h4⟩ := h
  have hl := val_lt (lim_limbs B64_two v.natAbs)
  rw [val_limbs B64_two, h2.1] at hl
  exact ⟨_, h2, lim_limbs B64_two _, by rw [val_limbs B64_two, h1, iv_canon], h3, h4, Nat.lt_of_lt_of_le hl (Nat.pow_le_pow_right (by decide) h4)⟩
theorem Bx.offx {W : World} {g : Nat} {s : Bool} {A' A : Option Addr} {n' c' n : Nat} {K : IntKind} {l : List Nat} (h : Bx W g (.bool s) (.slice A' n' c')) (hr : Rd K W A n l) : Off A n g := by
  intro hn ad e hg
  obtain ⟨b, o, eA, hc⟩ := hr.at_ hn
  obtain ⟨x, _, hx⟩ := hc 0 hn
  rw [eA] at e
  cases e
  have hg2 : b = g := hg
  subst hg2
  rw [cell_of_row W b (o + 0) _ _ (0, 0) h] at hx
  match o, hx with
  | 0, hx => cases hx
  | 1, hx => cases hx
  | o + 2, hx => cases hx
end Go.Proofs.YtlkjkhpjhllapaaGreat
namespace Go.Proofs.YtlkjkhpjhllapaaGreat
open Go.RowKit
def B4 (W : World) (g : Nat) (x y z u : Value) : Prop := W.heap[g]? = some (.cells #[x, y, z, u] 225 (0, 0))
section
variable {W W' : World} {g : Nat} {x y z u : Value}
theorem B4.c0 (h : B4 W g x y z u) : W.cell? ⟨g, 0, none⟩ = some x := by rw [cell_of_row W g 0 _ _ (0, 0) h]; rfl
theorem B4.c1 (h : B4 W g x y z u) : W.cell? ⟨g, 1, none⟩ = some y := by rw [cell_of_row W g 1 _ _ (0, 0) h]; rfl
theorem B4.c2 (h : B4 W g x y z u) : W.cell? ⟨g, 2, none⟩ = some z := by rw [cell_of_row W g 2 _ _ (0, 0) h]; rfl
theorem B4.c3 (h : B4 W g x y z u) : W.cell? ⟨g, 3, none⟩ = some u := by rw [cell_of_row W g 3 _ _ (0, 0) h]; rfl
theorem B4.f (h : B4 W g x y z u) (i : Nat) : W.frozen? ⟨g, i, none⟩ = false := frozen_of_row W g i _ _ h
theorem B4.lt (h : B4 W g x y z u) : g < W.heap.size := World.block_lt_of_cell? W _ h.c0
theorem B4.below (h : B4 W g x y z u) (hb : Below W.heap.size W W') : B4 W' g x y z u := (hb.block g h.lt).trans h
theorem B4.drew (h : B4 W g x y z u) : B4 W.drew g x y z u := h
theorem B4.alloc (h : B4 W g x y z u) (o : Obj) : B4 (W.alloc o) g x y z u := (Below.heap_alloc W o g h.lt).trans h
theorem B4.new' (W : World) (x y z u : Value) (g : Nat) (hg : g = W.heap.size) : B4 (W.alloc (.cells #[x, y, z, u] 225)) g x y z u := by subst hg; exact heap_alloc_new W _
theorem B4.off {s t : Bool} {A A1 A2 : Option Addr} {n n1 n2 c1 c2 : Nat} {K : IntKind} {l : List Nat} (h : B4 W g (.bool s) (.slice A1 n1 c1) (.bool t) (.slice A2 n2 c2)) (hr : Rd K W A n l) : Off A n g := by
  intro hn ad e hg
  obtain ⟨b, o, eA, hc⟩ := hr.at_ hn
  obtain ⟨x, _, hx⟩ := hc 0 hn
  rw [eA] at e
  cases e
  have hg2 : b = g := hg
  subst hg2
  rw [cell_of_row W b (o + 0) _ _ (0, 0) h] at hx
  match o, hx with
  | 0, hx => cases hx
  | 1, hx => cases hx
  | 2, hx => cases hx
  | 3, hx => cases hx
  | o + 4, hx => cases hx
end
set_option maxRecDepth 100000 in
set_option maxHeartbeats 2000000 in
theorem rof2_pos (V : Nat) (hV : V < 9223372036854775808) (w : World) :
    Calls Tryz.prog 151 #[.int .i64 ((V : Int))] w (GivesRZ w ((V : Int)) 2) := by
  have hV64 : V < B64 := by unfold B64; omega
  go_enter Tryz.func151, Tryz.ntmps151
  go_wp2_with fail
  generalize hW : (w.alloc (Obj.cells #[Value.bool false, Value.slice none 0 0] 32)) = W
  have hb : Below w.heap.size w W := by subst hW; exact ((Below.refl _ _).alloc (Nat.le_refl _) _)
  have Z : By W w.heap.size (Value.bool false) (Value.slice none 0 0) := by subst hW; exact By.new w _ _
  have hz : W.heap.size = w.heap.size + 1 := by subst hW; simp
  clear hW
  go_wp2_with (first
    | (go_at_call 98; (with_reducible refine (rofv_rn V hV64 _).mono ?_); rintro e w_x ⟨A_x, n_x, c_x, rfl, x, hh⟩
       try replace X := X.below hh
       try replace Y := Y.below hh
       try replace XA := XA.below hh
       try replace XB := XB.below hh
       try replace Z := Z.below hh
       try replace T := T.below hh
       replace hb := bend hb hh)
    | (go_at_call 167; (with_reducible refine (made_any _ _ _ _ _).mono ?_); rintro e w_m ⟨rfl, hh⟩
       try replace X := X.below hh
       try replace Y := Y.below hh
       try replace x := x.below hh
       try replace XA := XA.below hh
       try replace XB := XB.below hh
       try replace Z := Z.below hh
       try replace T := T.below hh
       replace hb := bend hb hh
       have r0 := Z.c0
       have r1 := Z.c1
       have r2 := Z.f0
       have r3 := Z.f1))
  have hf0 := (Z.set2 (.bool (false && decide (0 < n_x))) (.slice A_x n_x c_x)).c0
  have hf1 := (Z.set2 (.bool (false && decide (0 < n_x))) (.slice A_x n_x c_x)).c1
  simp only [Bool.false_and] at hf0 hf1
  refine bodyPost_ret (v := .agg #[.bool (false && decide (0 < n_x)), .slice A_x n_x c_x]) (by simp [results, Tryz.results151, go_sem, hf0, hf1]) rfl ?_
  exact close_rz (s := false) (g := w.heap.size) hb (Nat.le_refl _) Z x (by simp [iv]) _ _
set_option maxRecDepth 100000 in
set_option maxHeartbeats 2000000 in
theorem rof2_neg (V : Nat) (hV0 : 0 < V) (hV : V ≤ 9223372036854775808) (w : World) :
    Calls Tryz.prog 151 #[.int .i64 (-(V : Int))] w (GivesRZ w (-(V : Int)) 2) := by
  have hV64 : V < B64 := by unfold B64; omega
  obtain ⟨V', hV'⟩ : ∃ V', V = V' + 1 := ⟨V - 1, by omega⟩
  have e1 : -(-(V : Int) + 1) = (V' : Int) := by omega
  have e2 : (V' : Int) + 1 = (V : Int) := by omega
  have hV2 : V' < 9223372036854775808 := by omega
  clear hV'
  go_enter Tryz.func151, Tryz.ntmps151
  go_wp2_with fail
  generalize hW : (w.alloc (Obj.cells #[Value.bool false, Value.slice none 0 0] 32)) = W
  have hb : Below w.heap.size w W := by subst hW; exact ((Below.refl _ _).alloc (Nat.le_refl _) _)
  have Z : By W w.heap.size (Value.bool false) (Value.slice none 0 0) := by subst hW; exact By.new w _ _
  have hz : W.heap.size = w.heap.size + 1 := by subst hW; simp
  clear hW
  go_wp2_with (first
    | (go_at_call 98; (with_reducible refine (rofv_rn V hV64 _).mono ?_); rintro e w_x ⟨A_x, n_x, c_x, rfl, x, hh⟩
       try replace X := X.below hh
       try replace Y := Y.below hh
       try replace XA := XA.below hh
       try replace XB := XB.below hh
       try replace Z := Z.below hh
       try replace T := T.below hh
       replace hb := bend hb hh)
    | (go_at_call 167; (with_reducible refine (made_any _ _ _ _ _).mono ?_); rintro e w_m ⟨rfl, hh⟩
       try replace X := X.below hh
       try replace Y := Y.below hh
       try replace x := x.below hh
       try replace XA := XA.below hh
       try replace XB := XB.below hh
       try replace Z := Z.below hh
       try replace T := T.below hh
       replace hb := bend hb hh
       have r0 := Z.c0
       have r1 := Z.c1
       have r2 := Z.f0
       have r3 := Z.f1))
  have hf0 := (Z.set2 (.bool (true && decide (0 < n_x))) (.slice A_x n_x c_x)).c0
  have hf1 := (Z.set2 (.bool (true && decide (0 < n_x))) (.slice A_x n_x c_x)).c1
  simp only [Bool.true_and] at hf0 hf1
  refine bodyPost_ret (v := .agg #[.bool (true && decide (0 < n_x)), .slice A_x n_x c_x]) (by simp [results, Tryz.results151, go_sem, hf0, hf1]) rfl ?_
  exact close_rz (s := true) (g := w.heap.size) hb (Nat.le_refl _) Z x (by simp [iv]) _ _
theorem RG.of_made {w : World} {s neg : Bool} {A : Option Addr} {n c V k : Nat} (h : RN w A n c V k) (hs : s = (neg && decide (0 < n))) : RG w s A n c (iv neg V) k :=
  ⟨by rw [hs, iv_neg, rn_pos h], by rw [iv_natAbs]; exact h⟩
theorem below_set2 {B g : Nat} {w W : World} (h : Below B w W) (hg : B ≤ g) (x y : Value) : Below B w ((W.setCell ⟨g, 0, none⟩ x).setCell ⟨g, 1, none⟩ y) := (h.setCell hg _).setCell hg _
theorem RG.set2 {W : World} {g : Nat} {s0 s : Bool} {A1 A : Option Addr} {n1 c1 n c k : Nat} {v : Int} (X : RG W s A n c v k) (Z : By W g (.bool s0) (.slice A1 n1 c1)) (x y : Value) : RG ((W.setCell ⟨g, 0, none⟩ x).setCell ⟨g, 1, none⟩ y) s A n c v k :=
  ⟨X.1, X.2.1.only (Z.off X.2.1) (((Only.refl g W).setCell 0 x).setCell 1 y), X.2.2⟩
theorem RN.set2 {W : World} {g : Nat} {s0 : Bool} {A1 A : Option Addr} {n1 c1 n c V k : Nat} (X : RN W A n c V k) (Z : By W g (.bool s0) (.slice A1 n1 c1)) (x y : Value) : RN ((W.setCell ⟨g, 0, none⟩ x).setCell ⟨g, 1, none⟩ y) A n c V k :=
  ⟨X.1.only (Z.off X.1) (((Only.refl g W).setCell 0 x).setCell 1 y), X.2⟩
theorem By.other {W : World} {g k : Nat} {x y : Value} (h : By W g x y) (hne : g ≠ k) (u v : Value) : By ((W.setCell ⟨k, 0, none⟩ u).setCell ⟨k, 1, none⟩ v) g x y := by
  unfold By at h ⊢
  rw [Below.heap_setCell _ _ _ _ hne, Below.heap_setCell _ _ _ _ hne]; exact h
theorem B4.other {W : World} {g k : Nat} {x y z w : Value} (h : B4 W g x y z w) (hne : g ≠ k) (u v : Value) : B4 ((W.setCell ⟨k, 0, none⟩ u).setCell ⟨k, 1, none⟩ v) g x y z w := by
  unfold B4 at h ⊢
  rw [Below.heap_setCell _ _ _ _ hne, Below.heap_setCell _ _ _ _ hne]; exact h
end Go.Proofs.YtlkjkhpjhllapaaGreat
namespace Go.Proofs.YtlkjkhpjhllapaaGreat
open Go Go.RowKit
def B3 (W : World) (g : Nat) (x y z : Value) : Prop := W.heap[g]? = some (.cells #[x, y, z] 26 (0, 0))
section
variable {W W' : World} {g : Nat} {x y z : Value}
theorem B3.c0 (h : B3 W g x y z) : W.cell? ⟨g, 0, none⟩ = some x := by rw [cell_of_row W g 0 _ _ (0, 0) h]; rfl
theorem B3.c1 (h : B3 W g x y z) : W.cell? ⟨g, 1, none⟩ = some y := by rw [cell_of_row W g 1 _ _ (0, 0) h]; rfl
theorem B3.c2 (h : B3 W g x y z) : W.cell? ⟨g, 2, none⟩ = some z := by rw [cell_of_row W g 2 _ _ (0, 0) h]; rfl
theorem B3.f0 (h : B3 W g x y z) : W.frozen? ⟨g, 0, none⟩ = false := frozen_of_row W g 0 _ _ h
theorem B3.f1 (h : B3 W g x y z) : W.frozen? ⟨g, 1, none⟩ = false := frozen_of_row W g 1 _ _ h
theorem B3.f2 (h : B3 W g x y z) : W.frozen? ⟨g, 2, none⟩ = false := frozen_of_row W g 2 _ _ h
theorem B3.lt (h : B3 W g x y z) : g < W.heap.size := World.block_lt_of_cell? W _ h.c0
theorem B3.below (h : B3 W g x y z) (hb : Below W.heap.size W W') : B3 W' g x y z := (hb.block g h.lt).trans h
theorem B3.drew (h : B3 W g x y z) : B3 W.drew g x y z := h
theorem B3.alloc (h : B3 W g x y z) (o : Obj) : B3 (W.alloc o) g x y z := (Below.heap_alloc W o g h.lt).trans h
theorem B3.new' (W : World) (x y z : Value) (g : Nat) (hg : g = W.heap.size) : B3 (W.alloc (.cells #[x, y, z] 26)) g x y z := by subst hg; exact heap_alloc_new W _
theorem B3.set3 (h : B3 W g x y z) (a b c : Value) : B3 (((W.setCell ⟨g, 0, none⟩ a).setCell ⟨g, 1, none⟩ b).setCell ⟨g, 2, none⟩ c) g a b c := by
  unfold B3 at h ⊢
  simp [World.setCell, Array.getElem?_modify, h]
theorem B3.offx {s : Bool} {A A1 A2 : Option Addr} {n n1 n2 c1 c2 : Nat} {K : IntKind} {l : List Nat} (h : B3 W g (.bool s) (.slice A1 n1 c1) (.slice A2 n2 c2)) (hr : Rd K W A n l) : Off A n g := by
  intro hn ad e hg
  obtain ⟨b, o, eA, hc⟩ := hr.at_ hn
  obtain ⟨x, _, hx⟩ := hc 0 hn
  rw [eA] at e
  cases e
  have hg2 : b = g := hg
  subst hg2
  rw [cell_of_row W b (o + 0) _ _ (0, 0) h] at hx
  match o, hx with
  | 0, hx => cases hx
  | 1, hx => cases hx
  | 2, hx => cases hx
  | o + 3, hx => cases hx
end
theorem set3_cell (W : World) (g k o : Nat) (x y z : Value) (h : k ≠ g) : (((W.setCell ⟨g, 0, none⟩ x).setCell ⟨g, 1, none⟩ y).setCell ⟨g, 2, none⟩ z).cell? ⟨k, o, none⟩ = W.cell? ⟨k, o, none⟩ := by
  rw [World.cell?_of_block (Below.heap_setCell _ _ _ _ h), World.cell?_of_block (Below.heap_setCell _ _ _ _ h), World.cell?_of_block (Below.heap_setCell _ _ _ _ h)]
theorem below_set3 {B g : Nat} {w W : World} (h : Below B w W) (hg : B ≤ g) (x y z : Value) : Below B w (((W.setCell ⟨g, 0, none⟩ x).setCell ⟨g, 1, none⟩ y).setCell ⟨g, 2, none⟩ z) := ((h.setCell hg _).setCell hg _).setCell hg _
def QR (w : World) (s : Bool) (A : Option Addr) (n c : Nat) (A' : Option Addr) (n' c' : Nat) (v : Rat) (k : Nat) : Prop :=
  ∃ p q, ZR w s A n c p k ∧ NR w A' n' c' q k ∧ v = mkRat p (den1 q)
def QG (w : World) (s : Bool) (A : Option Addr) (n c : Nat) (A' : Option Addr) (n' c' : Nat) (v : Rat) (k : Nat) : Prop :=
  ZG w s A n c v.num k ∧ NG w A' n' c' v.den k
section
variable {w w' : World} {s : Bool} {A A' : Option Addr} {n c n' c' k k1 : Nat} {v : Rat}
theorem QR.below (h : QR w s A n c A' n' c' v k) (hb : Below w.heap.size w w') : QR w' s A n c A' n' c' v k := by
  obtain ⟨p, q, h1, h2, h3⟩ := h; exact ⟨p, q, h1.below hb, h2.below hb, h3⟩
theorem QG.below (h : QG w s A n c A' n' c' v k) (hb : Below w.heap.size w w') : QG w' s A n c A' n' c' v k := ⟨h.1.below hb, h.2.below hb⟩
theorem QG.qr (h : QG w s A n c A' n' c' v k) : QR w s A n c A' n' c' v k :=
  ⟨v.num, v.den, h.1.zr, h.2.nr, by rw [den1_of v.den_nz, Rat.mkRat_self]⟩
theorem QG.set3 {g : Nat} {t : Bool} {A1 A2 : Option Addr} {n1 c1 n2 c2 : Nat} (h : QG w s A n c A' n' c' v k) (Z : B3 w g (.bool t) (.slice A1 n1 c1) (.slice A2 n2 c2)) (x y z : Value) :
    QG (((w.setCell ⟨g, 0, none⟩ x).setCell ⟨g, 1, none⟩ y).setCell ⟨g, 2, none⟩ z) s A n c A' n' c' v k := by
  have ho : Only g w (((w.setCell ⟨g, 0, none⟩ x).setCell ⟨g, 1, none⟩ y).setCell ⟨g, 2, none⟩ z) := (((Only.refl g w).setCell 0 _).setCell 1 _).setCell 2 _
  exact ⟨⟨h.1.1, h.1.2.1.only (Z.offx h.1.2.1) ho, h.1.2.2⟩, ⟨h.2.1.only (Z.offx h.2.1) ho, h.2.2⟩⟩
theorem ZR.set2x {g : Nat} {t : Bool} {A1 : Option Addr} {n1 c1 : Nat} {p : Int} (h : ZR w s A n c p k) (Z : Bx w g (.bool t) (.slice A1 n1 c1)) (x y : Value) :
    ZR ((w.setCell ⟨g, 0, none⟩ x).setCell ⟨g, 1, none⟩ y) s A n c p k := by
  obtain ⟨l, h1, h2⟩ := h
  exact ⟨l, h1.only (Z.offx h1) (((Only.refl g w).setCell 0 _).setCell 1 _), h2⟩
theorem ZG.set2x {g : Nat} {t : Bool} {A1 : Option Addr} {n1 c1 : Nat} {p : Int} (h : ZG w s A n c p k) (Z : Bx w g (.bool t) (.slice A1 n1 c1)) (x y : Value) :
    ZG ((w.setCell ⟨g, 0, none⟩ x).setCell ⟨g, 1, none⟩ y) s A n c p k :=
  ⟨h.1, h.2.1.only (Z.offx h.2.1) (((Only.refl g w).setCell 0 _).setCell 1 _), h.2.2⟩
end
def GivesQ (w : World) (v : Rat) (k : Nat) (e : Ending) (w' : World) : Prop :=
  ∃ s A n c A' n' c', e = .returned (.agg #[.bool s, .slice A n c, .slice A' n' c']) ∧ QG w' s A n c A' n' c' v k ∧ Below w.heap.size w w'
set_option maxRecDepth 100000 in
set_option maxHeartbeats 2000000 in
theorem isone_nr {w : World} {A : Option Addr} {n c V k : Nat} (X : NR w A n c V k) (hk : k ≤ 100000) :
    Calls Tryz.prog 131 #[.slice A n c] w fun e w' => e = .returned (.bool (decide (V = 1))) ∧ w = w' := by
  have HB := Lib.hid (bl_is1 V)
  go_enter Tryz.func131, Tryz.ntmps131
  go_wp2_with (go_at_call 128; ((with_reducible refine (bits_nr X (by omega)).mono ?_); rintro e w' ⟨rfl, rfl⟩))
  go_ret
  rw [HB.out]
  exact ⟨rfl, rfl⟩
def GivesL (w : World) (U V k1 k2 : Nat) (e : Ending) (w' : World) : Prop :=
  ∃ A n c A' n' c', e = .returned (.tuple #[.slice A n c, .slice A' n' c']) ∧ NG w' A n c U k1 ∧ NG w' A' n' c' V k2 ∧ Below w.heap.size w w'
set_option maxRecDepth 100000 in
set_option maxHeartbeats 2000000 in
theorem lowest_nr {w : World} {A B : Option Addr} {n c m d U V k1 k2 : Nat} (X : NR w A n c U k1) (Y : NR w B m d V k2) (h1 : k1 ≤ 1000) (h2 : k2 ≤ 1000) (hV : V ≠ 0) :
    Calls Tryz.prog 135 #[.slice A n c, .slice B m d] w (GivesL w (U / Nat.gcd U V) (V / Nat.gcd U V) k1 k2) := by
  have hb : Below w.heap.size w w := Below.refl _ _
  have hg : Nat.gcd U V ≠ 0 := by have := Nat.gcd_pos_of_pos_right U (show 0 < V by omega); omega
  have HG := Lib.hid hg
  clear hg hV
  go_enter Tryz.func135, Tryz.ntmps135
  go_wp2_with (first
      | (go_at_call 177; (with_reducible refine (gcd_nr (k := k1 + k2) (X.more (by omega)) (Y.more (by omega)) (by omega)).mono ?_); rintro e w_g ⟨A_g, n_g, c_g, rfl, g, hh⟩
         try replace X := X.below hh
         try replace Y := Y.below hh
         replace hb := bend hb hh)
      | (go_at_call 189; (with_reducible refine (dm_nr X g.nr (by omega) (by omega) HG.out).mono ?_); rintro e w_x ⟨A_x, n_x, c_x, A_r, n_r, c_r, rfl, x, r, hh⟩
         try replace X := X.below hh
         try replace Y := Y.below hh
         try replace g := g.below hh
         replace hb := bend hb hh)
      | (go_at_call 189; (with_reducible refine (dm_nr Y g.nr (by omega) (by omega) HG.out).mono ?_); rintro e w_y ⟨A_y, n_y, c_y, A_t, n_t, c_t, rfl, y, t, hh⟩
         try replace X := X.below hh
         try replace Y := Y.below hh
         try replace g := g.below hh
         try replace x := x.below hh
         try replace r := r.below hh
         replace hb := bend hb hh))
  go_ret2
  exact ⟨A_x, n_x, c_x, A_y, n_y, c_y, rfl, x, y, hb⟩
theorem ZR.nr {w : World} {s : Bool} {A : Option Addr} {n c k : Nat} {v : Int} (h : ZR w s A n c v k) : NR w A n c v.natAbs k := by
  obtain ⟨l, h1, h2, rfl, h4, h5, h6⟩ := h
  exact ⟨l, h1, h2, (iv_natAbs _ _).symm, h4, h5⟩
theorem ZR.uv {w : World} {s : Bool} {A : Option Addr} {n c k : Nat} {v : Int} (h : ZR w s A n c v k) : v = iv s v.natAbs := by
  obtain ⟨l, h1, h2, rfl, h4, h5, h6⟩ := h
  rw [iv_natAbs]
theorem ZR.ofn {w : World} {s : Bool} {A : Option Addr} {n c k V : Nat} (h : NR w A n c V k) : ZR w s A n c (iv s V) k := by
  have := h.lt
  obtain ⟨l, h1, h2, rfl, h4, h5⟩ := h
  exact ⟨l, h1, h2, rfl, h4, h5, by rw [iv_natAbs]; exact this⟩
def GivesQE (w : World) (v : Rat) (k : Nat) (e : Ending) (w' : World) : Prop :=
  ∃ s A n c A' n' c', e = .returned (.tuple #[.agg #[.bool s, .slice A n c, .slice A' n' c'], .int .i64 0]) ∧ QG w' s A n c A' n' c' v k ∧ Below w.heap.size w w'
theorem close_q {w : World} {s t : Bool} {A B : Option Addr} {n c m d U V k1 k2 k : Nat} (hV : V ≠ 0) (x : NG w A n c (U / Nat.gcd U V) k1) (y : NG w B m d (V / Nat.gcd U V) k2) (h1 : k1 ≤ k) (h2 : k2 ≤ k) :
    QG w ((s != t) && decide (0 < n)) A n c B m d (Rat.divInt (iv s U) (iv t V)) k := by
  have hq : iv t V ≠ 0 := by cases t <;> simp [iv] <;> omega
  have e1 := div_num (p := iv s U) hq
  have e2 := div_den (p := iv s U) hq
  rw [iv_natAbs, iv_natAbs] at e1 e2
  have h3 : decide (0 < n) = decide (0 < U / Nat.gcd U V) := by
    have h5 := limbs_len_pos (V := U / Nat.gcd U V) (n := n) (x.rd.1)
    exact h5
  have hxn := x.more h1
  have hyn := y.more h2
  rw [← e1] at hxn
  rw [← e2] at hyn
  exact ⟨⟨by rw [div_neg hV, h3], hxn.1, hxn.2⟩, hyn⟩
set_option maxRecDepth 100000 in
set_option maxHeartbeats 2000000 in
theorem make_same {w : World} {s : Bool} {A B : Option Addr} {n c m d U V k1 k2 : Nat} (X : NR w A n c U k1) (Y : NR w B m d V k2) (h1 : k1 ≤ 1000) (h2 : k2 ≤ 1000) (hV : V ≠ 0) (k : Nat) (hk1 : k1 ≤ k) (hk2 : k2 ≤ k) :
    Calls Tryz.prog 43 #[.agg #[.bool s, .slice A n c], .agg #[.bool s, .slice B m d]] w (GivesQE w (Rat.divInt (iv s U) (iv s V)) k) := by
  have hne : (s != s) = false := by cases s <;> rfl
  have HB : Hid ((((bl V : Nat) : Int) == 0) = false) := by show _ = false; rw [bl_is0]; exact decide_eq_false hV
  have HV := Lib.hid hV
  clear hV
  go_enter Tryz.func43, Tryz.ntmps43
  go_wp2_with fail
  generalize hW : (((w.alloc (Obj.cells #[Value.bool s, Value.slice A n c] 24)).alloc (Obj.cells #[Value.bool s, Value.slice B m d] 24)).alloc (Obj.cells #[Value.bool false, Value.slice none 0 0, Value.slice none 0 0] 26)) = W
  have hb : Below w.heap.size w W := by subst hW; exact ((((Below.refl _ _).alloc (Nat.le_refl _) _).alloc (by simp) _).alloc (by simp; omega) _)
  have XA : Bx W (w.heap.size) (Value.bool s) (Value.slice A n c) := by subst hW; exact ((Bx.new' _ _ _ _ rfl).alloc _).alloc _
  have XB : Bx W (w.heap.size + 1) (Value.bool s) (Value.slice B m d) := by subst hW; exact (Bx.new' _ _ _ _ (by simp)).alloc _
  have Z : B3 W (w.heap.size + 1 + 1) (Value.bool false) (Value.slice none 0 0) (Value.slice none 0 0) := by subst hW; exact B3.new' _ _ _ _ _ (by simp)
  have hzW : W.heap.size = w.heap.size + 3 := by subst hW; simp
  clear hW
  replace X := X.below hb
  replace Y := Y.below hb
  have xa0 := XA.c0
  have xa1 := XA.c1
  have xb0 := XB.c0
  have xb1 := XB.c1
  have hbl := HB.out
  go_upto_region 4 with (first
      | (go_at_call 128; (with_reducible refine (bits_nr Y (by omega)).mono ?_); rintro e w_b ⟨rfl, rfl⟩)
      | (go_at_call 135; (with_reducible refine (lowest_nr X Y h1 h2 HV.out).mono ?_); rintro e w_l ⟨A_x, n_x, c_x, A_y, n_y, c_y, rfl, x, y, hh⟩
         clear hbl
         try replace X := X.below hh
         try replace Y := Y.below hh
         try replace XA := XA.below hh
         try replace XB := XB.below hh
         try replace Z := Z.below hh
         replace hb := bend hb hh
         have xa0 := XA.c0
         have xa1 := XA.c1
         have xb0 := XB.c0
         have xb1 := XB.c1
         have z0 := Z.c0
         have z1 := Z.c1
         have z2 := Z.c2))
  have zf0 := Z.f0
  have zf1 := Z.f1
  have zf2 := Z.f2
  go_wp2_with fail
  have Z2 := Z.set3 (.bool (false)) (.slice A_x n_x c_x) (.slice A_y n_y c_y)
  have g0 := Z2.c0
  have g1 := Z2.c1
  have g2 := Z2.c2
  refine bodyPost_ret (v := .tuple #[.agg #[.bool (false), .slice A_x n_x c_x, .slice A_y n_y c_y], .int .i64 0]) (by simp [results, Tryz.results43, go_sem, g0, g1, g2]) rfl ?_
  have hc := close_q (s := s) (t := s) HV.out x y hk1 hk2
  rw [hne] at hc
  refine ⟨_, A_x, n_x, c_x, A_y, n_y, c_y, rfl, ?_, below_set3 hb (by omega) _ _ _⟩
  have := hc.set3 Z (.bool (false)) (.slice A_x n_x c_x) (.slice A_y n_y c_y)
  simpa using this
set_option maxRecDepth 100000 in
set_option maxHeartbeats 2000000 in
theorem make_diff {w : World} {s : Bool} {A B : Option Addr} {n c m d U V k1 k2 : Nat} (X : NR w A n c U k1) (Y : NR w B m d V k2) (h1 : k1 ≤ 1000) (h2 : k2 ≤ 1000) (hV : V ≠ 0) (k : Nat) (hk1 : k1 ≤ k) (hk2 : k2 ≤ k) :
    Calls Tryz.prog 43 #[.agg #[.bool s, .slice A n c], .agg #[.bool (!s), .slice B m d]] w (GivesQE w (Rat.divInt (iv s U) (iv (!s) V)) k) := by
  have hne : (s != (!s)) = true := by cases s <;> rfl
  have HB : Hid ((((bl V : Nat) : Int) == 0) = false) := by show _ = false; rw [bl_is0]; exact decide_eq_false hV
  have HV := Lib.hid hV
  clear hV
  go_enter Tryz.func43, Tryz.ntmps43
  go_wp2_with fail
  generalize hW : (((w.alloc (Obj.cells #[Value.bool s, Value.slice A n c] 24)).alloc (Obj.cells #[Value.bool (!s), Value.slice B m d] 24)).alloc (Obj.cells #[Value.bool false, Value.slice none 0 0, Value.slice none 0 0] 26)) = W
  have hb : Below w.heap.size w W := by subst hW; exact ((((Below.refl _ _).alloc (Nat.le_refl _) _).alloc (by simp) _).alloc (by simp; omega) _)
  have XA : Bx W (w.heap.size) (Value.bool s) (Value.slice A n c) := by subst hW; exact ((Bx.new' _ _ _ _ rfl).alloc _).alloc _
  have XB : Bx W (w.heap.size + 1) (Value.bool (!s)) (Value.slice B m d) := by subst hW; exact (Bx.new' _ _ _ _ (by simp)).alloc _
  have Z : B3 W (w.heap.size + 1 + 1) (Value.bool false) (Value.slice none 0 0) (Value.slice none 0 0) := by subst hW; exact B3.new' _ _ _ _ _ (by simp)
  have hzW : W.heap.size = w.heap.size + 3 := by subst hW; simp
  clear hW
  replace X := X.below hb
  replace Y := Y.below hb
  have xa0 := XA.c0
  have xa1 := XA.c1
  have xb0 := XB.c0
  have xb1 := XB.c1
  have hbl := HB.out
  go_upto_region 4 with (first
      | (go_at_call 128; (with_reducible refine (bits_nr Y (by omega)).mono ?_); rintro e w_b ⟨rfl, rfl⟩)
      | (go_at_call 135; (with_reducible refine (lowest_nr X Y h1 h2 HV.out).mono ?_); rintro e w_l ⟨A_x, n_x, c_x, A_y, n_y, c_y, rfl, x, y, hh⟩
         clear hbl
         try replace X := X.below hh
         try replace Y := Y.below hh
         try replace XA := XA.below hh
         try replace XB := XB.below hh
         try replace Z := Z.below hh
         replace hb := bend hb hh
         have xa0 := XA.c0
         have xa1 := XA.c1
         have xb0 := XB.c0
         have xb1 := XB.c1
         have z0 := Z.c0
         have z1 := Z.c1
         have z2 := Z.c2))
  have zf0 := Z.f0
  have zf1 := Z.f1
  have zf2 := Z.f2
  go_wp2_with fail
  have Z2 := Z.set3 (.bool (decide (0 < n_x))) (.slice A_x n_x c_x) (.slice A_y n_y c_y)
  have g0 := Z2.c0
  have g1 := Z2.c1
  have g2 := Z2.c2
  refine bodyPost_ret (v := .tuple #[.agg #[.bool (decide (0 < n_x)), .slice A_x n_x c_x, .slice A_y n_y c_y], .int .i64 0]) (by simp [results, Tryz.results43, go_sem, g0, g1, g2]) rfl ?_
  have hc := close_q (s := s) (t := (!s)) HV.out x y hk1 hk2
  rw [hne] at hc
  refine ⟨_, A_x, n_x, c_x, A_y, n_y, c_y, rfl, ?_, below_set3 hb (by omega) _ _ _⟩
  have := hc.set3 Z (.bool (decide (0 < n_x))) (.slice A_x n_x c_x) (.slice A_y n_y c_y)
  simpa using this
theorem bool_not {s t : Bool} (h : ¬ t = s) : t = !s := by cases s <;> cases t <;> simp_all
theorem ZR.more {w : World} {s : Bool} {A : Option Addr} {n c k k1 : Nat} {v : Int} (h : ZR w s A n c v k) (hk : k ≤ k1) : ZR w s A n c v k1 := by
  obtain ⟨l, a1, a2, a3, a4, a5, a6⟩ := h
  exact ⟨l, a1, a2, a3, a4, by omega, Nat.lt_of_lt_of_le a6 (Nat.pow_le_pow_right (by decide) hk)⟩
theorem make_zr {w : World} {s t : Bool} {A B : Option Addr} {n c m d k1 k2 : Nat} {p q : Int} (k : Nat) (X : ZR w s A n c p k1) (Y : ZR w t B m d q k2) (h1 : k1 ≤ 1000) (h2 : k2 ≤ 1000) (hq : q ≠ 0) (hk1 : k1 ≤ k) (hk2 : k2 ≤ k) :
    Calls Tryz.prog 43 #[.agg #[.bool s, .slice A n c], .agg #[.bool t, .slice B m d]] w (GivesQE w (Rat.divInt p q) k) := by
  have hp := X.uv
  have hqq := Y.uv
  by_cases ht : t = s
  · subst ht
    have := make_same (s := t) X.nr Y.nr h1 h2 (by omega) k hk1 hk2
    rwa [← hp, ← hqq] at this
  · have ht' : t = !s := bool_not ht
    subst ht'
    have := make_diff (s := s) X.nr Y.nr h1 h2 (by omega) k hk1 hk2
    rwa [← hp, ← hqq] at this
end Go.Proofs.YtlkjkhpjhllapaaGreat
namespace Go.Proofs.YtlkjkhpjhllapaaGreat
open Go Go.RowKit
def GivesP (w : World) (p q : Int) (k : Nat) (e : Ending) (w' : World) : Prop :=
  ∃ s A n c t B m d, e = .returned (.tuple #[.agg #[.bool s, .slice A n c], .agg #[.bool t, .slice B m d]]) ∧ ZR w' s A n c p k ∧ ZR w' t B m d q k ∧ Below w.heap.size w w'
theorem two_set {w W : World} {g1 g2 n c m d k n1 c1 n2 c2 : Nat} {s t a b : Bool} {A B A1 A2 : Option Addr} {p q : Int} (hb : Below w.heap.size w W) (h1 : w.heap.size ≤ g1) (h2 : w.heap.size ≤ g2) (hne : g1 ≠ g2)
    (Z1 : Bx W g1 (.bool a) (.slice A1 n1 c1)) (Z2 : Bx W g2 (.bool b) (.slice A2 n2 c2)) (X : ZR W s A n c p k) (Y : ZR W t B m d q k) (x y z u : Value) :
    ZR ((((W.setCell ⟨g1, 0, none⟩ x).setCell ⟨g1, 1, none⟩ y).setCell ⟨g2, 0, none⟩ z).setCell ⟨g2, 1, none⟩ u) s A n c p k ∧
    ZR ((((W.setCell ⟨g1, 0, none⟩ x).setCell ⟨g1, 1, none⟩ y).setCell ⟨g2, 0, none⟩ z).setCell ⟨g2, 1, none⟩ u) t B m d q k ∧
    Below w.heap.size w ((((W.setCell ⟨g1, 0, none⟩ x).setCell ⟨g1, 1, none⟩ y).setCell ⟨g2, 0, none⟩ z).setCell ⟨g2, 1, none⟩ u) := by
  have Z3 := Z2.other (k := g1) (Ne.symm hne) x y
  exact ⟨(X.set2x Z1 x y).set2x Z3 z u, (Y.set2x Z1 x y).set2x Z3 z u, (((hb.setCell h1 _).setCell h1 _).setCell h2 _).setCell h2 _⟩
set_option maxRecDepth 100000 in
set_option maxHeartbeats 2000000 in
theorem parts_zero {w : World} {s : Bool} {A A' : Option Addr} {n c n' c' k q : Nat} {p : Int} (X : ZR w s A n c p k) (Q : NR w A' n' c' q k) (hk : k ≤ 1000) (hk1 : 1 ≤ k) (hq : q = 0) :
    Calls Tryz.prog 114 #[.agg #[.bool s, .slice A n c, .slice A' n' c']] w (GivesP w p 1 k) := by
  have HB : Hid ((((bl q : Nat) : Int) == 0) = true) := by show _ = true; rw [bl_is0, hq]; rfl
  clear hq
  go_enter Tryz.func114, Tryz.ntmps114
  go_wp2_with fail
  generalize hW : (((w.alloc (Obj.cells #[Value.bool s, Value.slice A n c, Value.slice A' n' c'] 26)).alloc (Obj.cells #[Value.bool false, Value.slice none 0 0] 24)).alloc (Obj.cells #[Value.bool false, Value.slice none 0 0] 24)) = W
  have hb : Below w.heap.size w W := by subst hW; exact ((((Below.refl _ _).alloc (Nat.le_refl _) _).alloc (by simp) _).alloc (by simp; omega) _)
  have XA : B3 W (w.heap.size) (Value.bool s) (Value.slice A n c) (Value.slice A' n' c') := by subst hW; exact ((B3.new' _ _ _ _ _ rfl).alloc _).alloc _
  have Z1 : Bx W (w.heap.size + 1) (Value.bool false) (Value.slice none 0 0) := by subst hW; exact (Bx.new' _ _ _ _ (by simp)).alloc _
  have Z2 : Bx W (w.heap.size + 1 + 1) (Value.bool false) (Value.slice none 0 0) := by subst hW; exact Bx.new' _ _ _ _ (by simp)
  have hzW : W.heap.size = w.heap.size + 3 := by subst hW; simp
  clear hW
  replace X := X.below hb
  replace Q := Q.below hb
  have xa0 := XA.c0
  have xa1 := XA.c1
  have xa2 := XA.c2
  have hbl := HB.out
  go_upto_region 2 with ((go_at_call 128; ((with_reducible refine (bits_nr Q (by omega)).mono ?_); rintro e w' ⟨rfl, rfl⟩)))
  clear hbl
  replace X := X.below (Below.refl _ _).drew
  replace XA := XA.below (Below.refl _ _).drew
  replace Z1 := Z1.below (Below.refl _ _).drew
  replace Z2 := Z2.below (Below.refl _ _).drew
  replace hb := hb.drew
  go_region_held3 (fun w' => w'.cell? ⟨w.heap.size, 0, none⟩ = some (Value.bool s) ∧ w'.cell? ⟨w.heap.size, 1, none⟩ = some (Value.slice A n c) ∧ w'.cell? ⟨w.heap.size, 2, none⟩ = some (Value.slice A' n' c'))
    (first | with_reducible exact ⟨XA.c0, XA.c1, XA.c2⟩ | with_reducible exact ⟨(set2_cell _ _ _ _ _ _ (by omega)).trans (XA.c0), (set2_cell _ _ _ _ _ _ (by omega)).trans (XA.c1), (set2_cell _ _ _ _ _ _ (by omega)).trans (XA.c2)⟩ | with_reducible exact ⟨(set2_cell _ _ _ _ _ _ (by omega)).trans ((set2_cell _ _ _ _ _ _ (by omega)).trans (XA.c0)), (set2_cell _ _ _ _ _ _ (by omega)).trans ((set2_cell _ _ _ _ _ _ (by omega)).trans (XA.c1)), (set2_cell _ _ _ _ _ _ (by omega)).trans ((set2_cell _ _ _ _ _ _ (by omega)).trans (XA.c2))⟩)
    (first
    | (go_at_call 45; (with_reducible refine (zof_zr 1 (by decide) (by decide) _).mono ?_); rintro e w_o ⟨s_o, A_o, n_o, c_o, rfl, o, hh⟩
       try replace X := X.below hh
       try replace XA := XA.below hh
       try replace Z1 := Z1.below hh
       try replace Z2 := Z2.below hh
       replace hb := bend hb hh
       have z0 := Z1.c0
       have z1 := Z1.c1
       have z2 := Z1.f0
       have z3 := Z1.f1
       have y0 := Z2.c0
       have y1 := Z2.c1
       have y2 := Z2.f0
       have y3 := Z2.f1
       have Z2o := Z2.other (k := w.heap.size + 1) (by omega) (.bool s) (.slice A n c)
       have zo0 := Z2o.c0
       have zo1 := Z2o.c1
       have zo2 := Z2o.f0
       have zo3 := Z2o.f1))
  replace o := o.more (show 1 ≤ k from hk1)
  have Y := o
  go_wp2_with fail
  have G1 := (Z1.set2 (.bool s) (.slice A n c)).other (k := w.heap.size + 1 + 1) (by omega) (.bool s_o) (.slice A_o n_o c_o)
  have G2 := (Z2.other (k := w.heap.size + 1) (by omega) (.bool s) (.slice A n c)).set2 (.bool s_o) (.slice A_o n_o c_o)
  have g0 := G1.c0
  have g1 := G1.c1
  have g2 := G2.c0
  have g3 := G2.c1
  have HT := two_set hb (by omega) (by omega) (by omega) Z1 Z2 X Y (.bool s) (.slice A n c) (.bool s_o) (.slice A_o n_o c_o)
  refine bodyPost_ret (v := .tuple #[.agg #[.bool s, .slice A n c], .agg #[.bool s_o, .slice A_o n_o c_o]]) (by simp [results, Tryz.results114, go_sem, g0, g1, g2, g3]) rfl ?_
  exact ⟨s, A, n, c, _, _, _, _, rfl, HT.1, HT.2.1, HT.2.2⟩
set_option maxRecDepth 100000 in
set_option maxHeartbeats 2000000 in
theorem parts_pos {w : World} {s : Bool} {A A' : Option Addr} {n c n' c' k q : Nat} {p : Int} (X : ZR w s A n c p k) (Q : NR w A' n' c' q k) (hk : k ≤ 1000) (hq : q ≠ 0) :
    Calls Tryz.prog 114 #[.agg #[.bool s, .slice A n c, .slice A' n' c']] w (GivesP w p (q : Int) k) := by
  have HB : Hid ((((bl q : Nat) : Int) == 0) = false) := by show _ = false; rw [bl_is0]; exact decide_eq_false hq
  clear hq
  go_enter Tryz.func114, Tryz.ntmps114
  go_wp2_with fail
  generalize hW : (((w.alloc (Obj.cells #[Value.bool s, Value.slice A n c, Value.slice A' n' c'] 26)).alloc (Obj.cells #[Value.bool false, Value.slice none 0 0] 24)).alloc (Obj.cells #[Value.bool false, Value.slice none 0 0] 24)) = W
  have hb : Below w.heap.size w W := by subst hW; exact ((((Below.refl _ _).alloc (Nat.le_refl _) _).alloc (by simp) _).alloc (by simp; omega) _)
  have XA : B3 W (w.heap.size) (Value.bool s) (Value.slice A n c) (Value.slice A' n' c') := by subst hW; exact ((B3.new' _ _ _ _ _ rfl).alloc _).alloc _
  have Z1 : Bx W (w.heap.size + 1) (Value.bool false) (Value.slice none 0 0) := by subst hW; exact (Bx.new' _ _ _ _ (by simp)).alloc _
  have Z2 : Bx W (w.heap.size + 1 + 1) (Value.bool false) (Value.slice none 0 0) := by subst hW; exact Bx.new' _ _ _ _ (by simp)
  have hzW : W.heap.size = w.heap.size + 3 := by subst hW; simp
  clear hW
  replace X := X.below hb
  replace Q := Q.below hb
  have xa0 := XA.c0
  have xa1 := XA.c1
  have xa2 := XA.c2
  have hbl := HB.out
  go_upto_region 3 with ((go_at_call 128; ((with_reducible refine (bits_nr Q (by omega)).mono ?_); rintro e w' ⟨rfl, rfl⟩)))
  clear hbl
  have z0 := Z1.c0
  have z1 := Z1.c1
  have z2 := Z1.f0
  have z3 := Z1.f1
  have y0 := Z2.c0
  have y1 := Z2.c1
  have y2 := Z2.f0
  have y3 := Z2.f1
  have Z2o := Z2.other (k := w.heap.size + 1) (by omega) (.bool s) (.slice A n c)
  have zo0 := Z2o.c0
  have zo1 := Z2o.c1
  have zo2 := Z2o.f0
  have zo3 := Z2o.f1
  go_region
  have Y := ZR.ofn (s := false) Q
  rw [show iv false q = (q : Int) from rfl] at Y
  go_wp2_with fail
  have G1 := (Z1.set2 (.bool s) (.slice A n c)).other (k := w.heap.size + 1 + 1) (by omega) (.bool false) (.slice A' n' c')
  have G2 := (Z2.other (k := w.heap.size + 1) (by omega) (.bool s) (.slice A n c)).set2 (.bool false) (.slice A' n' c')
  have g0 := G1.c0
  have g1 := G1.c1
  have g2 := G2.c0
  have g3 := G2.c1
  have HT := two_set hb (by omega) (by omega) (by omega) Z1 Z2 X Y (.bool s) (.slice A n c) (.bool false) (.slice A' n' c')
  refine bodyPost_ret (v := .tuple #[.agg #[.bool s, .slice A n c], Value.agg #[.bool false, .slice A' n' c']]) (by simp [results, Tryz.results114, go_sem, g0, g1, g2, g3]) rfl ?_
  exact ⟨s, A, n, c, _, _, _, _, rfl, HT.1.drew, HT.2.1.drew, HT.2.2.drew⟩
theorem parts_any {w : World} {s : Bool} {A A' : Option Addr} {n c n' c' k q : Nat} {p : Int} (X : ZR w s A n c p k) (Q : NR w A' n' c' q k) (hk : k ≤ 1000) (hk1 : 1 ≤ k) :
    Calls Tryz.prog 114 #[.agg #[.bool s, .slice A n c, .slice A' n' c']] w (GivesP w p (den1 q : Int) k) := by
  by_cases hq : q = 0
  · have h := parts_zero X Q hk hk1 hq
    rw [hq]; exact h
  · rw [den1_of hq]; exact parts_pos X Q hk hq
set_option maxRecDepth 100000 in
set_option maxHeartbeats 2000000 in
theorem by_zr {w : World} {s t : Bool} {A B : Option Addr} {n c m d k1 k2 : Nat} {p q : Int} (k : Nat) (X : ZR w s A n c p k1) (Y : ZR w t B m d q k2) (h1 : k1 ≤ 1000) (h2 : k2 ≤ 1000) (hq : q ≠ 0) (hk1 : k1 ≤ k) (hk2 : k2 ≤ k) :
    Calls Tryz.prog 109 #[.agg #[.bool s, .slice A n c], .agg #[.bool t, .slice B m d]] w (GivesQ w (Rat.divInt p q) k) := by
  have HQ := Lib.hid hq
  clear hq
  go_enter Tryz.func109, Tryz.ntmps109
  go_wp2_with fail
  generalize hW : (((w.alloc (Obj.cells #[Value.bool s, Value.slice A n c] 24)).alloc (Obj.cells #[Value.bool t, Value.slice B m d] 24)).alloc (Obj.cells #[Value.bool false, Value.slice none 0 0, Value.slice none 0 0] 26)) = W
  have hb : Below w.heap.size w W := by subst hW; exact ((((Below.refl _ _).alloc (Nat.le_refl _) _).alloc (by simp) _).alloc (by simp; omega) _)
  have XA : Bx W (w.heap.size) (Value.bool s) (Value.slice A n c) := by subst hW; exact ((Bx.new' _ _ _ _ rfl).alloc _).alloc _
  have XB : Bx W (w.heap.size + 1) (Value.bool t) (Value.slice B m d) := by subst hW; exact (Bx.new' _ _ _ _ (by simp)).alloc _
  have Z : B3 W (w.heap.size + 1 + 1) (Value.bool false) (Value.slice none 0 0) (Value.slice none 0 0) := by subst hW; exact B3.new' _ _ _ _ _ (by simp)
  have hzW : W.heap.size = w.heap.size + 3 := by subst hW; simp
  clear hW
  replace X := X.below hb
  replace Y := Y.below hb
  have xa0 := XA.c0
  have xa1 := XA.c1
  have xb0 := XB.c0
  have xb1 := XB.c1
  go_upto_region 2 with (first
      | (go_at_call 43; (with_reducible refine (make_zr k X Y h1 h2 HQ.out hk1 hk2).mono ?_); rintro e w_r ⟨s_r, A_r, n_r, c_r, B_r, m_r, d_r, rfl, r, hh⟩
         try replace XA := XA.below hh
         try replace XB := XB.below hh
         try replace Z := Z.below hh
         replace hb := bend hb hh))
  generalize hW : (w_r.alloc (Obj.cells #[Value.bool s_r, Value.slice A_r n_r c_r, Value.slice B_r m_r d_r] 26)) = W2
  have hh : Below w_r.heap.size w_r W2 := by subst hW; exact ((Below.refl _ _).alloc (Nat.le_refl _) _)
  have R : B3 W2 (w_r.heap.size) (Value.bool s_r) (Value.slice A_r n_r c_r) (Value.slice B_r m_r d_r) := by subst hW; exact B3.new' _ _ _ _ _ rfl
  have hzW2 : W2.heap.size = w_r.heap.size + 1 := by subst hW; simp
  clear hW
  try replace r := r.below hh
  try replace Z := Z.below hh
  replace hb := bend hb hh
  have r0 := R.c0
  have r1 := R.c1
  have r2 := R.c2
  have zf0 := Z.f0
  have zf1 := Z.f1
  have zf2 := Z.f2
  have z0 := Z.c0
  have z1 := Z.c1
  have z2 := Z.c2
  go_wp2_with fail
  have Z2 := Z.set3 (.bool s_r) (.slice A_r n_r c_r) (.slice B_r m_r d_r)
  have g0 := Z2.c0
  have g1 := Z2.c1
  have g2 := Z2.c2
  refine bodyPost_ret (v := .agg #[.bool s_r, .slice A_r n_r c_r, .slice B_r m_r d_r]) (by simp [results, Tryz.results109, go_sem, g0, g1, g2]) rfl ?_
  exact ⟨s_r, A_r, n_r, c_r, B_r, m_r, d_r, rfl, r.set3 Z _ _ _, below_set3 hb (by omega) _ _ _⟩
end Go.Proofs.YtlkjkhpjhllapaaGreat
namespace Go.Proofs.YtlkjkhpjhllapaaGreat
open Go Go.RowKit
theorem den1_i (q : Nat) : (den1 q : Int) ≠ 0 := by have := den1_ne q; omega
set_option maxRecDepth 100000 in
set_option maxHeartbeats 4000000 in
theorem rneg_q {w : World} {s : Bool} {A A' : Option Addr} {n c n' c' k : Nat} {v : Rat} (X0 : QR w s A n c A' n' c' v k) (hk : k ≤ 900) (hk1 : 1 ≤ k) :
    Calls Tryz.prog 31 #[.agg #[.bool s, .slice A n c, .slice A' n' c']] w (GivesQ w (-v) k) := by
  obtain ⟨p, q, X, Q, rfl⟩ := X0
  have HE : Hid (Rat.divInt (-p) (den1 q : Int) = -mkRat p (den1 q)) := by show _ = _; rw [Rat.divInt_ofNat, mk_neg]
  go_enter Tryz.func31, Tryz.ntmps31
  go_wp2_with fail
  generalize hW : ((w.alloc (Obj.cells #[Value.bool s, Value.slice A n c, Value.slice A' n' c'] 26)).alloc (Obj.cells #[Value.bool false, Value.slice none 0 0, Value.slice none 0 0] 26)) = W
  have hb : Below w.heap.size w W := by subst hW; exact (((Below.refl _ _).alloc (Nat.le_refl _) _).alloc (by simp) _)
  have XA : B3 W (w.heap.size) (Value.bool s) (Value.slice A n c) (Value.slice A' n' c') := by subst hW; exact (B3.new' _ _ _ _ _ rfl).alloc _
  have Z : B3 W (w.heap.size + 1) (Value.bool false) (Value.slice none 0 0) (Value.slice none 0 0) := by subst hW; exact B3.new' _ _ _ _ _ (by simp)
  have hzW : W.heap.size = w.heap.size + 2 := by subst hW; simp
  clear hW
  replace X := X.below hb
  replace Q := Q.below hb
  have xa0 := XA.c0
  have xa1 := XA.c1
  have xa2 := XA.c2
  go_upto_region 2 with (first
      | (go_at_call 114; (with_reducible refine (parts_any X Q (by omega) hk1).mono ?_); rintro e w_p ⟨s_x, A_x, n_x, c_x, s_y, A_y, n_y, c_y, rfl, x, y, hh⟩
         try replace X := X.below hh
         try replace Q := Q.below hh
         try replace m := m.below hh
         try replace XA := XA.below hh
         try replace Z := Z.below hh
         try replace XP := XP.below hh
         try replace XQ := XQ.below hh
         replace hb := bend hb hh))
  have hp1 := Z.lt
  generalize hW : ((w_p.alloc (Obj.cells #[Value.bool s_x, Value.slice A_x n_x c_x] 24)).alloc (Obj.cells #[Value.bool s_y, Value.slice A_y n_y c_y] 24)) = W2
  have hh : Below w_p.heap.size w_p W2 := by subst hW; exact (((Below.refl _ _).alloc (Nat.le_refl _) _).alloc (by simp) _)
  have XP : Bx W2 (w_p.heap.size) (Value.bool s_x) (Value.slice A_x n_x c_x) := by subst hW; exact (Bx.new' _ _ _ _ rfl).alloc _
  have XQ : Bx W2 (w_p.heap.size + 1) (Value.bool s_y) (Value.slice A_y n_y c_y) := by subst hW; exact Bx.new' _ _ _ _ (by simp)
  have hzW2 : W2.heap.size = w_p.heap.size + 2 := by subst hW; simp
  clear hW
  try replace x := x.below hh
  try replace y := y.below hh
  try replace Z := Z.below hh
  replace hb := bend hb hh
  replace x := x.below (Below.refl _ _).drew
  replace y := y.below (Below.refl _ _).drew
  replace Z := Z.below (Below.refl _ _).drew
  replace XP := XP.below (Below.refl _ _).drew
  replace XQ := XQ.below (Below.refl _ _).drew
  replace hb := hb.drew
  go_region_held3 (fun w' => w'.cell? ⟨w_p.heap.size, 0, none⟩ = some (.bool s_x) ∧ w'.cell? ⟨w_p.heap.size, 1, none⟩ = some (.slice A_x n_x c_x) ∧ w'.cell? ⟨w_p.heap.size + 1, 0, none⟩ = some (.bool s_y) ∧ w'.cell? ⟨w_p.heap.size + 1, 1, none⟩ = some (.slice A_y n_y c_y))
    (first | with_reducible exact ⟨XP.c0, XP.c1, XQ.c0, XQ.c1⟩ | with_reducible exact ⟨(set3_cell _ _ _ _ _ _ _ (by omega)).trans (XP.c0), (set3_cell _ _ _ _ _ _ _ (by omega)).trans (XP.c1), (set3_cell _ _ _ _ _ _ _ (by omega)).trans (XQ.c0), (set3_cell _ _ _ _ _ _ _ (by omega)).trans (XQ.c1)⟩)
    (first
    | (go_at_call 118; (with_reducible refine (zneg_zr x (by omega)).mono ?_); rintro e w_m ⟨s_m, A_m, n_m, c_m, rfl, m, hh⟩
       try replace X := X.below hh
       try replace Q := Q.below hh
       try replace x := x.below hh
       try replace y := y.below hh
       try replace XA := XA.below hh
       try replace Z := Z.below hh
       try replace XP := XP.below hh
       try replace XQ := XQ.below hh
       replace hb := bend hb hh)
    | (go_at_call 109; (with_reducible refine (by_zr k m y (by omega) (by omega) (den1_i q) (by omega) (by omega)).mono ?_); rintro e w_r ⟨s_r, A_r, n_r, c_r, B_r, m_r, d_r, rfl, r, hh⟩
       rw [HE.out] at r
       try replace X := X.below hh
       try replace Q := Q.below hh
       try replace x := x.below hh
       try replace y := y.below hh
       try replace m := m.below hh
       try replace XA := XA.below hh
       try replace Z := Z.below hh
       try replace XP := XP.below hh
       try replace XQ := XQ.below hh
       replace hb := bend hb hh
       have zf0 := Z.f0
       have zf1 := Z.f1
       have zf2 := Z.f2
       have z0 := Z.c0
       have z1 := Z.c1
       have z2 := Z.c2))
  go_wp2_with fail
  have Z2 := Z.set3 (.bool s_r) (.slice A_r n_r c_r) (.slice B_r m_r d_r)
  have g0 := Z2.c0
  have g1 := Z2.c1
  have g2 := Z2.c2
  refine bodyPost_ret (v := .agg #[.bool s_r, .slice A_r n_r c_r, .slice B_r m_r d_r]) (by simp [results, Tryz.results31, go_sem, g0, g1, g2]) rfl ?_
  exact ⟨s_r, A_r, n_r, c_r, B_r, m_r, d_r, rfl, r.set3 Z _ _ _, below_set3 hb (by omega) _ _ _⟩
set_option maxRecDepth 100000 in
set_option maxHeartbeats 4000000 in
theorem rsign_q {w : World} {s : Bool} {A A' : Option Addr} {n c n' c' k : Nat} {v : Rat} (X0 : QR w s A n c A' n' c' v k) (hk : k ≤ 900) (hk1 : 1 ≤ k) :
    Calls Tryz.prog 30 #[.agg #[.bool s, .slice A n c, .slice A' n' c']] w fun e w' => e = .returned (.int .i64 (sgnQ v)) ∧ Below w.heap.size w w' := by
  obtain ⟨p, q, X, Q, rfl⟩ := X0
  have HE : Hid (sgn p = sgnQ (mkRat p (den1 q))) := (sgnQ_mk (den1_ne q)).symm
  go_enter Tryz.func30, Tryz.ntmps30
  go_wp2_with fail
  generalize hW : (w.alloc (Obj.cells #[Value.bool s, Value.slice A n c, Value.slice A' n' c'] 26)) = W
  have hb : Below w.heap.size w W := by subst hW; exact ((Below.refl _ _).alloc (Nat.le_refl _) _)
  have XA : B3 W (w.heap.size) (Value.bool s) (Value.slice A n c) (Value.slice A' n' c') := by subst hW; exact B3.new' _ _ _ _ _ rfl
  have hzW : W.heap.size = w.heap.size + 1 := by subst hW; simp
  clear hW
  replace X := X.below hb
  replace Q := Q.below hb
  have xa0 := XA.c0
  have xa1 := XA.c1
  have xa2 := XA.c2
  go_wp2_with (first
      | (go_at_call 117; (with_reducible refine (sign_zr X (by omega)).mono ?_); rintro e w_z ⟨rfl, hh⟩
         rw [HE.out]
         try replace X := X.below hh
         try replace Q := Q.below hh
         try replace XA := XA.below hh
         replace hb := bend hb hh))
  go_ret
  exact ⟨rfl, hb⟩
theorem cmpQ_signs {s t : Bool} {a b : Nat} {q q2 : Nat} (hq : q ≠ 0) (hq2 : q2 ≠ 0) (h : ¬ s = t) : cmpZ (iv s a) (iv t b) = cmpQ (mkRat (iv s a) q) (mkRat (iv t b) q2) := by
  rw [cmpQ_mk hq hq2]
  have h1 : (0 : Int) < q := by omega
  have h2 : (0 : Int) < q2 := by omega
  cases s <;> cases t <;> simp at h
  · have e1 : iv false a = (a : Int) := rfl
    have e2 : iv true b = -(b : Int) := rfl
    rw [e1, e2]
    have e3 : (0 : Int) ≤ a * q2 := Int.mul_nonneg (by omega) (by omega)
    have e4 : (0 : Int) ≤ b * q := Int.mul_nonneg (by omega) (by omega)
    have e5 : (a : Int) * q2 = 0 ↔ (a : Int) = 0 := by rw [Int.mul_eq_zero]; omega
    have e6 : (b : Int) * q = 0 ↔ (b : Int) = 0 := by rw [Int.mul_eq_zero]; omega
    rw [Int.neg_mul]
    unfold cmpZ
    by_cases ha : (a : Int) = 0 <;> by_cases hb : (b : Int) = 0 <;> (repeat' split) <;> omega
  · have e1 : iv true a = -(a : Int) := rfl
    have e2 : iv false b = (b : Int) := rfl
    rw [e1, e2]
    have e3 : (0 : Int) ≤ a * q2 := Int.mul_nonneg (by omega) (by omega)
    have e4 : (0 : Int) ≤ b * q := Int.mul_nonneg (by omega) (by omega)
    have e5 : (a : Int) * q2 = 0 ↔ (a : Int) = 0 := by rw [Int.mul_eq_zero]; omega
    have e6 : (b : Int) * q = 0 ↔ (b : Int) = 0 := by rw [Int.mul_eq_zero]; omega
    rw [Int.neg_mul]
    unfold cmpZ
    by_cases ha : (a : Int) = 0 <;> by_cases hb : (b : Int) = 0 <;> (repeat' split) <;> omega
theorem cmpZ_zero {a b : Int} (h : cmpZ a b = 0) : a = b := by
  unfold cmpZ at h
  (repeat' split at h) <;> omega
end Go.Proofs.YtlkjkhpjhllapaaGreat
namespace Go.Proofs.YtlkjkhpjhllapaaGreat
open Go Go.RowKit
set_option maxRecDepth 100000 in
set_option maxHeartbeats 4000000 in
theorem rcmp_q {w : World} {s t : Bool} {A A' B B' : Option Addr} {n c n' c' m d m' d' k k2 : Nat} {v0 u0 : Rat} (X0 : QR w s A n c A' n' c' v0 k) (Y0 : QR w t B m d B' m' d' u0 k2) (hk : k ≤ 400) (hkb : k2 ≤ 400) (h40 : k ≤ 400 ∨ k2 ≤ 400) (hk1 : 1 ≤ k) (hk3 : 1 ≤ k2) :
    Calls Tryz.prog 28 #[.agg #[.bool s, .slice A n c, .slice A' n' c'], .agg #[.bool t, .slice B m d, .slice B' m' d']] w fun e w' => e = .returned (.int .i64 (cmpQ v0 u0)) ∧ Below w.heap.size w w' := by
  obtain ⟨p, q, X, Q, rfl⟩ := X0
  obtain ⟨p2, q2, Y, R, rfl⟩ := Y0
  go_enter Tryz.func28, Tryz.ntmps28
  go_wp2_with fail
  generalize hW : ((w.alloc (Obj.cells #[Value.bool s, Value.slice A n c, Value.slice A' n' c'] 26)).alloc (Obj.cells #[Value.bool t, Value.slice B m d, Value.slice B' m' d'] 26)) = W
  have hb : Below w.heap.size w W := by subst hW; exact (((Below.refl _ _).alloc (Nat.le_refl _) _).alloc (by simp) _)
  have XA : B3 W (w.heap.size) (Value.bool s) (Value.slice A n c) (Value.slice A' n' c') := by subst hW; exact (B3.new' _ _ _ _ _ rfl).alloc _
  have XB : B3 W (w.heap.size + 1) (Value.bool t) (Value.slice B m d) (Value.slice B' m' d') := by subst hW; exact B3.new' _ _ _ _ _ (by simp)
  have hzW : W.heap.size = w.heap.size + 2 := by subst hW; simp
  clear hW
  replace X := X.below hb
  replace Q := Q.below hb
  replace Y := Y.below hb
  replace R := R.below hb
  have xa0 := XA.c0
  have xa1 := XA.c1
  have xa2 := XA.c2
  have xb0 := XB.c0
  have xb1 := XB.c1
  have xb2 := XB.c2
  go_upto_region 2 with (first
      | (go_at_call 114; (with_reducible refine (parts_any X Q (by omega) hk1).mono ?_); rintro e w_p ⟨s_x, A_x, n_x, c_x, s_y, A_y, n_y, c_y, rfl, x, y, hh⟩
         try replace X := X.below hh
         try replace Q := Q.below hh
         try replace Y := Y.below hh
         try replace R := R.below hh
         try replace u := u.below hh
         try replace v := v.below hh
         try replace m1 := m1.below hh
         try replace m2 := m2.below hh
         try replace m3 := m3.below hh
         try replace XA := XA.below hh
         try replace XB := XB.below hh
         try replace Z := Z.below hh
         try replace Z1 := Z1.below hh
         try replace Z2 := Z2.below hh
         try replace Z3 := Z3.below hh
         try replace XP := XP.below hh
         try replace XQ := XQ.below hh
         try replace XU := XU.below hh
         try replace XV := XV.below hh
         replace hb := bend hb hh))
  have hp1 := XB.lt
  generalize hW : ((w_p.alloc (Obj.cells #[Value.bool s_x, Value.slice A_x n_x c_x] 24)).alloc (Obj.cells #[Value.bool s_y, Value.slice A_y n_y c_y] 24)) = W2
  have hh : Below w_p.heap.size w_p W2 := by subst hW; exact (((Below.refl _ _).alloc (Nat.le_refl _) _).alloc (by simp) _)
  have XP : Bx W2 (w_p.heap.size) (Value.bool s_x) (Value.slice A_x n_x c_x) := by subst hW; exact (Bx.new' _ _ _ _ rfl).alloc _
  have XQ : Bx W2 (w_p.heap.size + 1) (Value.bool s_y) (Value.slice A_y n_y c_y) := by subst hW; exact Bx.new' _ _ _ _ (by simp)
  have hzW2 : W2.heap.size = w_p.heap.size + 2 := by subst hW; simp
  clear hW
  try replace X := X.below hh
  try replace Q := Q.below hh
  try replace Y := Y.below hh
  try replace R := R.below hh
  try replace x := x.below hh
  try replace y := y.below hh
  try replace XA := XA.below hh
  try replace XB := XB.below hh
  replace hb := bend hb hh
  have xb0 := XB.c0
  have xb1 := XB.c1
  have xb2 := XB.c2
  go_upto_region 3 with (first
      | (go_at_call 114; (with_reducible refine (parts_any Y R (by omega) hk3).mono ?_); rintro e w_u ⟨s_u, A_u, n_u, c_u, s_v, A_v, n_v, c_v, rfl, u, v, hh⟩
         try replace X := X.below hh
         try replace Q := Q.below hh
         try replace Y := Y.below hh
         try replace R := R.below hh
         try replace x := x.below hh
         try replace y := y.below hh
         try replace m1 := m1.below hh
         try replace m2 := m2.below hh
         try replace m3 := m3.below hh
         try replace XA := XA.below hh
         try replace XB := XB.below hh
         try replace Z := Z.below hh
         try replace Z1 := Z1.below hh
         try replace Z2 := Z2.below hh
         try replace Z3 := Z3.below hh
         try replace XP := XP.below hh
         try replace XQ := XQ.below hh
         try replace XU := XU.below hh
         try replace XV := XV.below hh
         replace hb := bend hb hh))
  have hu1 := XQ.lt
  generalize hW : ((w_u.alloc (Obj.cells #[Value.bool s_u, Value.slice A_u n_u c_u] 24)).alloc (Obj.cells #[Value.bool s_v, Value.slice A_v n_v c_v] 24)) = W3
  have hh : Below w_u.heap.size w_u W3 := by subst hW; exact (((Below.refl _ _).alloc (Nat.le_refl _) _).alloc (by simp) _)
  have XU : Bx W3 (w_u.heap.size) (Value.bool s_u) (Value.slice A_u n_u c_u) := by subst hW; exact (Bx.new' _ _ _ _ rfl).alloc _
  have XV : Bx W3 (w_u.heap.size + 1) (Value.bool s_v) (Value.slice A_v n_v c_v) := by subst hW; exact Bx.new' _ _ _ _ (by simp)
  have hzW3 : W3.heap.size = w_u.heap.size + 2 := by subst hW; simp
  clear hW
  try replace x := x.below hh
  try replace y := y.below hh
  try replace u := u.below hh
  try replace v := v.below hh
  try replace XP := XP.below hh
  try replace XQ := XQ.below hh
  replace hb := bend hb hh
  have xp0 := XP.c0
  have xp1 := XP.c1
  have xq0 := XQ.c0
  have xq1 := XQ.c1
  have xu0 := XU.c0
  have xu1 := XU.c1
  have xv0 := XV.c0
  have xv1 := XV.c1
  by_cases hst : s_u = s_x
  · have hst2 := hst.symm
    clear hst
    subst hst2
    by_cases heq : den1 q = den1 q2
    · have HE : Hid (cmpZ p p2 = cmpQ (mkRat p (den1 q)) (mkRat p2 (den1 q2))) := by show _ = _; rw [← heq]; exact (cmpQ_same (den1_ne q)).symm
      have HC : Hid (cmpZ (den1 q : Int) (den1 q2 : Int) = 0) := by show _ = _; rw [heq]; exact cmpZ_self _
      have hne : (s_x != s_x) = false := by cases s_x <;> rfl
      clear heq
      go_wp2_with (first
      | (go_at_call 115; (with_reducible refine (zcmp_zr y v (by omega)).mono ?_); rintro e w_z ⟨rfl, hh⟩
         rw [HC.out]
         try replace X := X.below hh
         try replace Q := Q.below hh
         try replace Y := Y.below hh
         try replace R := R.below hh
         try replace x := x.below hh
         try replace y := y.below hh
         try replace u := u.below hh
         try replace v := v.below hh
         try replace m1 := m1.below hh
         try replace m2 := m2.below hh
         try replace m3 := m3.below hh
         try replace XA := XA.below hh
         try replace XB := XB.below hh
         try replace Z := Z.below hh
         try replace Z1 := Z1.below hh
         try replace Z2 := Z2.below hh
         try replace Z3 := Z3.below hh
         try replace XP := XP.below hh
         try replace XQ := XQ.below hh
         try replace XU := XU.below hh
         try replace XV := XV.below hh
         replace hb := bend hb hh
         have xp0 := XP.c0
         have xp1 := XP.c1
         have xq0 := XQ.c0
         have xq1 := XQ.c1
         have xu0 := XU.c0
         have xu1 := XU.c1
         have xv0 := XV.c0
         have xv1 := XV.c1)
      | (go_at_call 115; (with_reducible refine (zcmp_zr x u (by omega)).mono ?_); rintro e w_z ⟨rfl, hh⟩
         rw [HE.out]
         try replace X := X.below hh
         try replace Q := Q.below hh
         try replace Y := Y.below hh
         try replace R := R.below hh
         try replace x := x.below hh
         try replace y := y.below hh
         try replace u := u.below hh
         try replace v := v.below hh
         try replace m1 := m1.below hh
         try replace m2 := m2.below hh
         try replace m3 := m3.below hh
         try replace XA := XA.below hh
         try replace XB := XB.below hh
         try replace Z := Z.below hh
         try replace Z1 := Z1.below hh
         try replace Z2 := Z2.below hh
         try replace Z3 := Z3.below hh
         try replace XP := XP.below hh
         try replace XQ := XQ.below hh
         try replace XU := XU.below hh
         try replace XV := XV.below hh
         replace hb := bend hb hh
         have xp0 := XP.c0
         have xp1 := XP.c1
         have xq0 := XQ.c0
         have xq1 := XQ.c1
         have xu0 := XU.c0
         have xu1 := XU.c1
         have xv0 := XV.c0
         have xv1 := XV.c1))
      go_ret
      exact ⟨rfl, hb⟩
    · have HE : Hid (cmpZ (p * (den1 q2 : Int)) (p2 * (den1 q : Int)) = cmpQ (mkRat p (den1 q)) (mkRat p2 (den1 q2))) := (cmpQ_mk (den1_ne q) (den1_ne q2)).symm
      obtain ⟨K, hK, hK0⟩ : ∃ K, cmpZ (den1 q : Int) (den1 q2 : Int) = K ∧ ((K : Int) == 0) = false := ⟨_, rfl, by
        rw [beq_eq_false_iff_ne]; intro h; exact heq (by have := cmpZ_zero h; omega)⟩
      have HC := Lib.hid hK
      have hne : (s_x != s_x) = false := by cases s_x <;> rfl
      clear heq hK
      go_upto_region 5 with (first
      | (go_at_call 115; (with_reducible refine (zcmp_zr y v (by omega)).mono ?_); rintro e w_z ⟨rfl, hh⟩
         rw [HC.out]
         try replace X := X.below hh
         try replace Q := Q.below hh
         try replace Y := Y.below hh
         try replace R := R.below hh
         try replace x := x.below hh
         try replace y := y.below hh
         try replace u := u.below hh
         try replace v := v.below hh
         try replace m1 := m1.below hh
         try replace m2 := m2.below hh
         try replace m3 := m3.below hh
         try replace XA := XA.below hh
         try replace XB := XB.below hh
         try replace Z := Z.below hh
         try replace Z1 := Z1.below hh
         try replace Z2 := Z2.below hh
         try replace Z3 := Z3.below hh
         try replace XP := XP.below hh
         try replace XQ := XQ.below hh
         try replace XU := XU.below hh
         try replace XV := XV.below hh
         replace hb := bend hb hh
         have xp0 := XP.c0
         have xp1 := XP.c1
         have xq0 := XQ.c0
         have xq1 := XQ.c1
         have xu0 := XU.c0
         have xu1 := XU.c1
         have xv0 := XV.c0
         have xv1 := XV.c1))
      replace x := x.below (Below.refl _ _).drew
      replace y := y.below (Below.refl _ _).drew
      replace u := u.below (Below.refl _ _).drew
      replace v := v.below (Below.refl _ _).drew
      replace XP := XP.below (Below.refl _ _).drew
      replace XQ := XQ.below (Below.refl _ _).drew
      replace XU := XU.below (Below.refl _ _).drew
      replace XV := XV.below (Below.refl _ _).drew
      replace hb := hb.drew
      go_region_held3 (fun w' => w'.cell? ⟨w_p.heap.size, 0, none⟩ = some (.bool s_x) ∧ w'.cell? ⟨w_p.heap.size, 1, none⟩ = some (.slice A_x n_x c_x) ∧ w'.cell? ⟨w_p.heap.size + 1, 0, none⟩ = some (.bool s_y) ∧ w'.cell? ⟨w_p.heap.size + 1, 1, none⟩ = some (.slice A_y n_y c_y) ∧ w'.cell? ⟨w_u.heap.size, 0, none⟩ = some (.bool s_x) ∧ w'.cell? ⟨w_u.heap.size, 1, none⟩ = some (.slice A_u n_u c_u) ∧ w'.cell? ⟨w_u.heap.size + 1, 0, none⟩ = some (.bool s_v) ∧ w'.cell? ⟨w_u.heap.size + 1, 1, none⟩ = some (.slice A_v n_v c_v))
        (first | with_reducible exact ⟨XP.c0, XP.c1, XQ.c0, XQ.c1, XU.c0, XU.c1, XV.c0, XV.c1⟩)
        (first
        | (go_at_call 44; (with_reducible refine (zmul_zr (k + k2) x v (by omega) (by omega) (by omega)).mono ?_); rintro e w_m1 ⟨s_m1, A_m1, n_m1, c_m1, rfl, m1, hh⟩
           try replace X := X.below hh
           try replace Q := Q.below hh
           try replace Y := Y.below hh
           try replace R := R.below hh
           try replace x := x.below hh
           try replace y := y.below hh
           try replace u := u.below hh
           try replace v := v.below hh
           try replace m2 := m2.below hh
           try replace m3 := m3.below hh
           try replace XA := XA.below hh
           try replace XB := XB.below hh
           try replace Z := Z.below hh
           try replace Z1 := Z1.below hh
           try replace Z2 := Z2.below hh
           try replace Z3 := Z3.below hh
           try replace XP := XP.below hh
           try replace XQ := XQ.below hh
           try replace XU := XU.below hh
           try replace XV := XV.below hh
           replace hb := bend hb hh)
        | (go_at_call 44; (with_reducible refine (zmul_zr (k + k2) u y (by omega) (by omega) (by omega)).mono ?_); rintro e w_m2 ⟨s_m2, A_m2, n_m2, c_m2, rfl, m2, hh⟩
           try replace X := X.below hh
           try replace Q := Q.below hh
           try replace Y := Y.below hh
           try replace R := R.below hh
           try replace x := x.below hh
           try replace y := y.below hh
           try replace u := u.below hh
           try replace v := v.below hh
           try replace m1 := m1.below hh
           try replace m3 := m3.below hh
           try replace XA := XA.below hh
           try replace XB := XB.below hh
           try replace Z := Z.below hh
           try replace Z1 := Z1.below hh
           try replace Z2 := Z2.below hh
           try replace Z3 := Z3.below hh
           try replace XP := XP.below hh
           try replace XQ := XQ.below hh
           try replace XU := XU.below hh
           try replace XV := XV.below hh
           replace hb := bend hb hh)
        | (go_at_call 115; (with_reducible refine (zcmp_zr m1 m2 (by omega)).mono ?_); rintro e w_z ⟨rfl, hh⟩
           rw [HE.out]
           try replace X := X.below hh
           try replace Q := Q.below hh
           try replace Y := Y.below hh
           try replace R := R.below hh
           try replace x := x.below hh
           try replace y := y.below hh
           try replace u := u.below hh
           try replace v := v.below hh
           try replace m1 := m1.below hh
           try replace m2 := m2.below hh
           try replace m3 := m3.below hh
           try replace XA := XA.below hh
           try replace XB := XB.below hh
           try replace Z := Z.below hh
           try replace Z1 := Z1.below hh
           try replace Z2 := Z2.below hh
           try replace Z3 := Z3.below hh
           try replace XP := XP.below hh
           try replace XQ := XQ.below hh
           try replace XU := XU.below hh
           try replace XV := XV.below hh
           replace hb := bend hb hh))
      go_wp2_with fail
      go_ret
      exact ⟨rfl, hb⟩
  · have HE : Hid (cmpZ p p2 = cmpQ (mkRat p (den1 q)) (mkRat p2 (den1 q2))) := by
      have := cmpQ_signs (a := p.natAbs) (b := p2.natAbs) (den1_ne q) (den1_ne q2) (fun h => hst h.symm)
      rw [← x.uv, ← u.uv] at this
      exact this
    have hs := bool_not hst
    clear hst
    subst hs
    have hne : (s_x != (!s_x)) = true := by cases s_x <;> rfl
    go_wp2_with (first
      | (go_at_call 115; (with_reducible refine (zcmp_zr x u (by omega)).mono ?_); rintro e w_z ⟨rfl, hh⟩
         rw [HE.out]
         try replace X := X.below hh
         try replace Q := Q.below hh
         try replace Y := Y.below hh
         try replace R := R.below hh
         try replace x := x.below hh
         try replace y := y.below hh
         try replace u := u.below hh
         try replace v := v.below hh
         try replace m1 := m1.below hh
         try replace m2 := m2.below hh
         try replace m3 := m3.below hh
         try replace XA := XA.below hh
         try replace XB := XB.below hh
         try replace Z := Z.below hh
         try replace Z1 := Z1.below hh
         try replace Z2 := Z2.below hh
         try replace Z3 := Z3.below hh
         try replace XP := XP.below hh
         try replace XQ := XQ.below hh
         try replace XU := XU.below hh
         try replace XV := XV.below hh
         replace hb := bend hb hh
         have xp0 := XP.c0
         have xp1 := XP.c1
         have xq0 := XQ.c0
         have xq1 := XQ.c1
         have xu0 := XU.c0
         have xu1 := XU.c1
         have xv0 := XV.c0
         have xv1 := XV.c1))
    go_ret
    exact ⟨rfl, hb⟩
end Go.Proofs.YtlkjkhpjhllapaaGreat
