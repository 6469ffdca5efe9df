/- Contracts of layer 2 by value, good forms: what the statements hold against each other. -/
import Derived.Test.YtmcijgnbdnpanaaGreatRefZ
import Derived.Test.YtmcijgnbdnpanaaGreatZedW
import Derived.Test.YtmcijgnbdnpanaaGreatRefJ
namespace Go.Proofs.YtmcijgnbdnpanaaGreat
open Go.RowKit

/-- The struct is the good form of v; at most k limbs. -/
def ZG (w : World) (s : Bool) (A : Option Addr) (n c : Nat) (v : Int) (k : Nat) : Prop := s = decide (v < 0) ∧ Rd .u64 w A n (limbs B64 v.natAbs) ∧ n ≤ c ∧ n ≤ k
theorem ZG.below {w w' : World} {s : Bool} {A : Option Addr} {n c k : Nat} {v : Int} (h : ZG w s A n c v k) (hb : Below w.heap.size w w') : ZG w' s A n c v k := ⟨h.1, h.2.1.below hb, h.2.2⟩
theorem ZG.zr {w : World} {s : Bool} {A : Option Addr} {n c k : Nat} {v : Int} (h : ZG w s A n c v k) : ZR w s A n c v k := by
  obtain ⟨h1, h2, h3, h4⟩ := h
  have hl := val_lt (lim_limbs B64_two v.natAbs)
  rw [val_limbs B64_two, h2.1] at hl
  exact ⟨_, h2, lim_limbs B64_two _, by rw [val_limbs B64_two, h1, iv_canon], h3, h4, Nat.lt_of_lt_of_le hl (Nat.pow_le_pow_right (by decide) h4)⟩
def GivesZG (w : World) (v : Int) (k : Nat) (e : Ending) (w' : World) : Prop :=
  ∃ s A n c, e = .returned (.agg #[.bool s, .slice A n c]) ∧ ZG w' s A n c v k ∧ Below w.heap.size w w'
theorem GivesI.zg {w : World} {v : Int} {k : Nat} (hk : v.natAbs < B64 ^ k) {e : Ending} {w' : World} (h : GivesI w v e w') : GivesZG w v k e w' := by
  obtain ⟨A, n, c, rfl, h1, h2, h3, h4⟩ := h
  exact ⟨_, A, n, c, rfl, ⟨rfl, h3.rd, h1, by rw [← h3.1]; exact length_limbs_le B64_two hk⟩, h4⟩
theorem zadd_zg {w : World} {s t : Bool} {A B : Option Addr} {n c m d k1 k2 : Nat} {v u : Int} (k : Nat) (X : ZR w s A n c v k1) (Y : ZR w t B m d u k2) (h1 : k1 + 1 ≤ k) (h2 : k2 + 1 ≤ k) (hk : k ≤ 1000) :
    Calls Tryz.prog 129 #[.agg #[.bool s, .slice A n c], .agg #[.bool t, .slice B m d]] w (GivesZG w (v + u) k) := by
  obtain ⟨la, a1, a2, rfl, a4, a5, a6⟩ := X
  obtain ⟨lb, b1, b2, rfl, b4, b5, b6⟩ := Y
  refine (zadd_any s t la lb A B n c m d w a1 b1 a2 b2 a4 b4 (by omega)).mono fun e w' h => h.zg ?_
  have := pow_sum a6 b6 h1 h2
  omega
theorem zsub_zg {w : World} {s t : Bool} {A B : Option Addr} {n c m d k1 k2 : Nat} {v u : Int} (k : Nat) (X : ZR w s A n c v k1) (Y : ZR w t B m d u k2) (h1 : k1 + 1 ≤ k) (h2 : k2 + 1 ≤ k) (hk : k ≤ 1000) :
    Calls Tryz.prog 132 #[.agg #[.bool s, .slice A n c], .agg #[.bool t, .slice B m d]] w (GivesZG w (v - u) k) := by
  obtain ⟨la, a1, a2, rfl, a4, a5, a6⟩ := X
  obtain ⟨lb, b1, b2, rfl, b4, b5, b6⟩ := Y
  refine (zsub_any s t la lb A B n c m d w a1 b1 a2 b2 a4 b4 (by omega)).mono fun e w' h => h.zg ?_
  have := pow_sum a6 b6 h1 h2
  omega
theorem zmul_zg {w : World} {s t : Bool} {A B : Option Addr} {n c m d k1 k2 : Nat} {v u : Int} (k : Nat) (X : ZR w s A n c v k1) (Y : ZR w t B m d u k2) (h1 : k1 + k2 ≤ k) (hk : k ≤ 1000) (h40 : k1 ≤ 40 ∨ k2 ≤ 40) :
    Calls Tryz.prog 50 #[.agg #[.bool s, .slice A n c], .agg #[.bool t, .slice B m d]] w (GivesZG w (v * u) k) := by
  obtain ⟨la, a1, a2, rfl, a4, a5, a6⟩ := X
  obtain ⟨lb, b1, b2, rfl, b4, b5, b6⟩ := Y
  have := zmul_any s t la lb A B n c m d w a1 b1 a2 b2 a4 b4 (by omega) (by omega)
  rw [iv_mul] at this
  refine this.mono fun e w' h => h.zg ?_
  rw [Int.natAbs_mul]
  exact Nat.lt_of_lt_of_le (Nat.mul_lt_mul'' a6 b6) (by rw [← Nat.pow_add]; exact Nat.pow_le_pow_right (by decide) h1)
theorem zneg_zg {w : World} {s : Bool} {A : Option Addr} {n c k : Nat} {v : Int} (X : ZR w s A n c v k) (hk : k ≤ 1000) :
    Calls Tryz.prog 89 #[.agg #[.bool s, .slice A n c]] w (GivesZG w (-v) k) := by
  obtain ⟨la, a1, a2, rfl, a4, a5, a6⟩ := X
  have h := zneg_any s la A n c w a1 a2 (by omega) a4
  rw [iv_not] at h
  exact h.mono fun _ _ g => g.zg (by rw [Int.natAbs_neg]; exact a6)
theorem GivesQZ.zg {w : World} {q r : Int} {k1 k2 : Nat} (h1 : q.natAbs < B64 ^ k1) (h2 : r.natAbs < B64 ^ k2) {e : Ending} {w' : World} (h : GivesQZ w q r e w') :
    ∃ s A n c t B m d, e = .returned (.tuple #[.agg #[.bool s, .slice A n c], .agg #[.bool t, .slice B m d], .int .i64 0]) ∧ ZG w' s A n c q k1 ∧ ZG w' t B m d r k2 ∧ Below w.heap.size w w' := by
  obtain ⟨A, n, c, A', n', c', rfl, p1, p2, p3, p4, p5, p6, p7⟩ := h
  exact ⟨_, A, n, c, _, A', n', c', rfl, ⟨rfl, p5.rd, p1, by rw [← p5.1]; exact length_limbs_le B64_two h1⟩, ⟨rfl, p6.rd, p3, by rw [← p6.1]; exact length_limbs_le B64_two h2⟩, p7⟩
theorem zdm_zg {w : World} {s t : Bool} {A B : Option Addr} {n c m d k1 k2 : Nat} {v u : Int} (k : Nat) (X : ZR w s A n c v k1) (Y : ZR w t B m d u k2) (hu : u ≠ 0) (hk0 : 1 ≤ k1) (hk : k1 + 1 ≤ k) (hk1 : k ≤ 1000) (hk2 : k2 ≤ 1000) :
    Calls Tryz.prog 98 #[.agg #[.bool s, .slice A n c], .agg #[.bool t, .slice B m d]] w (fun e w' => ∃ s A n c t B m d, e = .returned (.tuple #[.agg #[.bool s, .slice A n c], .agg #[.bool t, .slice B m d], .int .i64 0]) ∧ ZG w' s A n c (v.fdiv u) k ∧ ZG w' t B m d (v.fmod u) k2 ∧ Below w.heap.size w w') := by
  obtain ⟨la, a1, a2, rfl, a4, a5, a6⟩ := X
  obtain ⟨lb, b1, b2, rfl, b4, b5, b6⟩ := Y
  rw [iv_natAbs] at a6 b6
  have hb0 : val B64 lb ≠ 0 := fun h => hu (by rw [h]; cases t <;> rfl)
  have hdm := dm_all la lb A B n c m d a2 b2 (by omega) (by omega) a4 b4 hb0
  have hr := Nat.mod_lt (val B64 la) (show val B64 lb > 0 by omega)
  have hq := Nat.div_le_self (val B64 la) (val B64 lb)
  have h1 : 1 < B64 ^ k1 := Nat.lt_of_lt_of_le (show 1 < B64 ^ 1 by decide) (Nat.pow_le_pow_right (by decide) hk0)
  have hq1 := pow_sum a6 h1 hk hk
  by_cases hst : t = s
  · subst hst
    refine (zdm_alike t la lb A B n c m d w a1 b1 hdm).mono fun e w' h => ?_
    rw [(fdiv_alike t _ _).1, (fdiv_alike t _ _).2] at h
    refine h.zg ?_ ?_
    · rw [← (fdiv_alike t _ _).1, iv_natAbs]; omega
    · rw [← (fdiv_alike t _ _).2, iv_natAbs]; omega
  · have ht : t = !s := by cases s <;> cases t <;> simp_all
    subst ht
    have hdiv := Nat.div_add_mod (val B64 la) (val B64 lb)
    by_cases hr0 : val B64 la % val B64 lb = 0
    · refine (zdm_whole s la lb A B n c m d w a1 b1 hdm hr0).mono fun e w' h => ?_
      have hf := fdiv_unlike (s := s) (a := val B64 la) (b := val B64 lb) (q := val B64 la / val B64 lb) (r := val B64 la % val B64 lb) (by
        rw [hr0, Nat.add_zero] at hdiv
        rw [hr0, Int.mul_neg, ← Int.natCast_mul, hdiv]; simp) hr
      rw [hf.1, hf.2] at h
      refine h.zg ?_ ?_
      · rw [← hf.1, iv_natAbs]; omega
      · rw [← hf.2, iv_natAbs]; omega
    · refine (zdm_rest s la lb A B n c m d w a1 b1 hdm a2 b2 b4 (by omega) (by omega) hb0 hr0).mono fun e w' h => ?_
      have hf := fdiv_unlike (s := s) (a := val B64 la) (b := val B64 lb) (q := val B64 la / val B64 lb + 1) (r := val B64 lb - val B64 la % val B64 lb) (by
        exact rest_up hdiv (by omega)) (by omega)
      rw [hf.1, hf.2] at h
      refine h.zg ?_ ?_
      · rw [← hf.1, iv_natAbs]; omega
      · rw [← hf.2, iv_natAbs]; omega
theorem Bx.offx {W : World} {g : Nat} {s : Bool} {A' A : Option Addr} {n' c' n : Nat} {K : IntKind} {l : List Nat} (h : Bx W g (.bool s) (.slice A' n' c')) (hr : Rd K W A n l) : Off A n g := by
  intro hn ad e hg
  obtain ⟨b, o, eA, hc⟩ := hr.at_ hn
  obtain ⟨x, _, hx⟩ := hc 0 hn
  rw [eA] at e
  cases e
  have hg2 : b = g := hg
  subst hg2
  rw [cell_of_row W b (o + 0) _ _ (0, 0) h] at hx
  match o, hx with
  | 0, hx => cases hx
  | 1, hx => cases hx
  | o + 2, hx => cases hx

set_option maxRecDepth 100000 in
set_option maxHeartbeats 2000000 in
theorem ints_any (s t : Bool) (la lb : List Nat) (A B : Option Addr) (n c m d : Nat) (w : World) (ha : Rd .u64 w A n la) (hbb : Rd .u64 w B m lb) (hn : n ≤ maxLen) :
    Calls Tryz.prog 38 #[.agg #[.bool s, .slice A n c], .agg #[.bool t, .slice B m d]] w fun e w' => e = .returned (.bool (s == t && decide (la = lb))) ∧ Below w.heap.size w w' := by
  by_cases h : s = t
  · subst h
    have h1 : (s == s) = true := by cases s <;> rfl
    rw [h1, Bool.true_and]
    go_enter Tryz.func38, Tryz.ntmps38
    go_wp2_with fail
    generalize hW : ((w.alloc (Obj.cells #[Value.bool s, Value.slice A n c] 24)).alloc (Obj.cells #[Value.bool s, Value.slice B m d] 24)) = W
    have hb : Below w.heap.size w W := by subst hW; exact (((Below.refl _ _).alloc (Nat.le_refl _) _).alloc (by simp) _)
    have XA : Bx W w.heap.size (Value.bool s) (Value.slice A n c) := by subst hW; exact (Bx.new w _ _).alloc _
    have XB : Bx W (w.heap.size + 1) (Value.bool s) (Value.slice B m d) := by subst hW; exact Bx.new' _ _ _ _ (by simp)
    have hz : W.heap.size = w.heap.size + 2 := by subst hW; simp
    clear hW
    have ha := ha.below hb
    have hbb := hbb.below hb
    have xa0 := XA.c0
    have xa1 := XA.c1
    have xb0 := XB.c0
    have xb1 := XB.c1
    go_wp2_with (first
        | (go_at_call 93; (with_reducible refine (nats_any la lb A B n c m d _ ha hbb hn).mono ?_); rintro e' w' ⟨rfl, q, rfl⟩))
    go_ret
    exact ⟨rfl, below_drawn hb q⟩
  · have h1 : (s == t) = false := by cases s <;> cases t <;> simp_all
    rw [h1, Bool.false_and]
    go_enter Tryz.func38, Tryz.ntmps38
    go_wp2_with fail
    generalize hW : ((w.alloc (Obj.cells #[Value.bool s, Value.slice A n c] 24)).alloc (Obj.cells #[Value.bool t, Value.slice B m d] 24)) = W
    have hb : Below w.heap.size w W := by subst hW; exact (((Below.refl _ _).alloc (Nat.le_refl _) _).alloc (by simp) _)
    have XA : Bx W w.heap.size (Value.bool s) (Value.slice A n c) := by subst hW; exact (Bx.new w _ _).alloc _
    have XB : Bx W (w.heap.size + 1) (Value.bool t) (Value.slice B m d) := by subst hW; exact Bx.new' _ _ _ _ (by simp)
    have hz : W.heap.size = w.heap.size + 2 := by subst hW; simp
    clear hW
    have ha := ha.below hb
    have hbb := hbb.below hb
    have xa0 := XA.c0
    have xa1 := XA.c1
    have xb0 := XB.c0
    have xb1 := XB.c1
    go_wp2_with fail
    go_ret
    exact ⟨rfl, hb⟩
theorem ints_true (s : Bool) (la : List Nat) (A B : Option Addr) (n c m d : Nat) (w : World) (ha : Rd .u64 w A n la) (hbb : Rd .u64 w B m la) (hn : n ≤ maxLen) :
    Calls Tryz.prog 38 #[.agg #[.bool s, .slice A n c], .agg #[.bool s, .slice B m d]] w fun e w' => e = .returned (.bool true) ∧ Below w.heap.size w w' := by
  refine (ints_any s s la la A B n c m d w ha hbb hn).mono ?_
  rintro e w' ⟨rfl, h⟩
  exact ⟨by rw [decide_eq_true rfl]; cases s <;> rfl, h⟩

set_option maxRecDepth 100000 in
set_option maxHeartbeats 2000000 in
theorem out2 {w : World} {t : Bool} {B : Option Addr} {m d k : Nat} {v : Int} (Y : RG w t B m d v k) (hk : k ≤ 200000) :
    Calls Tryz.prog 40 #[.agg #[.bool t, .slice B m d]] w fun e w' => ∃ A n c, e = .returned (.agg #[.bool t, .slice A n c]) ∧ Rd .u64 w' A n (limbs B64 v.natAbs) ∧ Below w.heap.size w w' := by
  have hJ := join32_limbs v.natAbs
  have HJ := Lib.hid hJ
  have hm : m ≤ 2000000 := Nat.le_trans Y.2.2.2 (by omega)
  have hY := Y.2.1
  clear hJ
  go_enter Tryz.func40, Tryz.ntmps40
  go_wp2_with fail
  generalize hW : ((w.alloc (Obj.cells #[Value.bool t, Value.slice B m d] 32)).alloc (Obj.cells #[Value.bool false, Value.slice none 0 0] 24)) = W
  have hb : Below w.heap.size w W := by subst hW; exact (((Below.refl _ _).alloc (Nat.le_refl _) _).alloc (by simp) _)
  have XB : By W w.heap.size (Value.bool t) (Value.slice B m d) := by subst hW; exact (By.new w _ _).alloc _
  have Z : Bx W (w.heap.size + 1) (Value.bool false) (Value.slice none 0 0) := by subst hW; exact Bx.new' _ _ _ _ (by simp)
  have hz : W.heap.size = w.heap.size + 2 := by subst hW; simp
  clear hW
  replace hY := hY.below hb
  replace hY := hY.below (Below.refl _ _).drew
  replace XB := XB.drew
  replace Z := Z.drew
  replace hb := hb.drew
  go_region_held3 (fun w' => w'.cell? ⟨w.heap.size, 0, none⟩ = some (Value.bool t) ∧ w'.cell? ⟨w.heap.size, 1, none⟩ = some (Value.slice B m d))
    (first | with_reducible exact ⟨XB.c0, XB.c1⟩ | with_reducible exact ⟨(set2_cell _ _ _ _ _ _ (by omega)).trans XB.c0, (set2_cell _ _ _ _ _ _ (by omega)).trans XB.c1⟩)
    (first
    | (go_at_call 94; (with_reducible refine (rout_any (limbs B32 v.natAbs) B m d _ hY (lim_limbs B32_two _) hm).mono ?_); rintro e w1 ⟨A1, n1, c1, rfl, p1, p2, p3, hh⟩
       rw [HJ.out] at p3
       replace XB := XB.below hh
       replace Z := Z.below hh
       replace hb := bend hb hh
       have r0 := Z.c0
       have r1 := Z.c1
       have r2 := Z.f0
       have r3 := Z.f1))
  go_wp2
  have hf0 := (Z.set2 (.bool t) (.slice A1 n1 c1)).c0
  have hf1 := (Z.set2 (.bool t) (.slice A1 n1 c1)).c1
  refine bodyPost_ret (v := .agg #[.bool t, .slice A1 n1 c1]) (by simp [results, Tryz.results40, go_sem, hf0, hf1]) rfl ?_
  refine ⟨A1, n1, c1, rfl, ?_, (hb.setCell (by show w.heap.size ≤ _; simp) _).setCell (by show w.heap.size ≤ _; simp) _⟩
  exact p3.rd.only (Z.offx p3.rd) (((Only.refl (w.heap.size + 1) w1).setCell 0 _).setCell 1 _)

end Go.Proofs.YtmcijgnbdnpanaaGreat
