/- zed.Sub, zed.Of, zed.Small, zed.Text (16 limbs at most), zed.Cmp, zed.Good. -/
import Derived.Test.YtflcgeehpboldaaZedC
import Derived.Test.YtflcgeehpboldaaTextS
import Derived.Test.YtflcgeehpboldaaLits
namespace Go.Proofs.Ytflcgeehpboldaa
open Go.RowKit

theorem close_pass {w W w1 : World} {g : Nat} {v : Int} {A1 : Option Addr} {n1 k1 : Nat} (hb0 : Below w.heap.size w W) (hg0 : w.heap.size ≤ g) (hg : g < W.heap.size)
    (p1 : n1 ≤ k1) (p2 : k1 ≤ maxLen) (p3 : Fr .u64 82 w1 W.heap.size A1 n1 k1 (limbs B64 v.natAbs)) (p4 : Below W.heap.size W w1) (u x : Value) :
    GivesI w v (.returned (.agg #[.bool (decide (v < 0)), .slice A1 n1 k1])) ((w1.setCell ⟨g, 0, none⟩ u).setCell ⟨g, 1, none⟩ x) := by
  have h2 : w.heap.size ≤ W.heap.size := hb0.size
  have hbl : Below w.heap.size w w1 := hb0.trans (p4.mono h2)
  refine ⟨A1, n1, k1, rfl, p1, p2, ?_, (hbl.setCell hg0 _).setCell hg0 _⟩
  refine Fr.only (g := g) (p3.more (by omega)) (((Only.refl g w1).setCell 0 u).setCell 1 x) ?_
  intro ad hA
  have := p3.base ad hA
  omega

set_option maxHeartbeats 1000000 in
theorem zsub_any (s t : Bool) (la lb : List Nat) (A B : Option Addr) (n c m d : Nat) (w : World) (ha : Rd .u64 w A n la) (hb : Rd .u64 w B m lb) (La : Lim B64 la) (Lb : Lim B64 lb)
    (hnc : n ≤ c) (hmd : m ≤ d) (hnm0 : n + m ≤ 35184372088831) :
    Calls Try.prog 18 #[.agg #[.bool s, .slice A n c], .agg #[.bool t, .slice B m d]] w (GivesI w (iv s (val B64 la) - iv t (val B64 lb))) := by
  go_enter Try.func18, Try.ntmps18
  go_wp2_with fail
  generalize hW : ((w.alloc (Obj.cells #[Value.bool s, Value.slice A n c] 24)).alloc (Obj.cells #[Value.bool t, Value.slice B m d] 24)).alloc (Obj.cells #[Value.bool false, Value.slice none 0 0] 24) = W
  have hb0 : Below w.heap.size w W := by subst hW; exact (((Below.refl _ _).alloc (Nat.le_refl _) _).alloc (by simp) _).alloc (by simp; omega) _
  have hz : W.heap.size = w.heap.size + 3 := by subst hW; simp
  have Z : Bx W (w.heap.size + 1 + 1) (.bool false) (.slice none 0 0) := by subst hW; exact Bx.new' _ _ _ _ (by simp)
  clear hW
  refine (zadd_any s (!t) la lb _ _ _ _ _ _ _ (ha.below hb0) (hb.below hb0) La Lb hnc hmd hnm0).mono ?_
  rw [iv_not, ← Int.sub_eq_add_neg]
  rintro e w1 ⟨A1, n1, k1, rfl, p1, p2, p3, p4⟩
  have Z1 := Z.below p4
  have r0 := Z1.c0
  have r1 := Z1.c1
  have r2 := Z1.f0
  have r3 := Z1.f1
  generalize hv : iv s (val B64 la) - iv t (val B64 lb) = v
  rw [hv] at p3
  generalize hd : decide (v < 0) = dd
  go_wp2
  have hf0 := (Z1.set2 (.bool dd) (.slice A1 n1 k1)).c0
  have hf1 := (Z1.set2 (.bool dd) (.slice A1 n1 k1)).c1
  refine bodyPost_ret (v := .agg #[.bool dd, .slice A1 n1 k1]) (by simp [results, Try.results18, go_sem, hf0, hf1]) rfl ?_
  rw [hv]
  subst hd
  exact close_pass (g := w.heap.size + 1 + 1) hb0 (by omega) (by omega) p1 p2 p3 p4 _ _

set_option maxHeartbeats 1000000 in
theorem zof_any (v : Int) (h1 : -9223372036854775808 ≤ v) (h2 : v < 9223372036854775808) (w : World) : Calls Try.prog 37 #[.int .i64 v] w (GivesI w v) := by
  by_cases hs : v < 0
  · obtain ⟨V, rfl⟩ : ∃ V : Nat, v = -(V : Int) := ⟨v.natAbs, by omega⟩
    have hw : IntKind.u64.wrap (-IntKind.u64.wrap (-(V : Int))) = (V : Int) := by rw [IntKind.wrap_u64, IntKind.wrap_u64]; omega
    go_enter Try.func37, Try.ntmps37
    go_wp2_with fail
    generalize hW : w.alloc (Obj.cells #[Value.bool false, Value.slice none 0 0] 24) = W
    have hb0 : Below w.heap.size w W := by subst hW; exact (Below.refl _ _).alloc (Nat.le_refl _) _
    have hz : W.heap.size = w.heap.size + 1 := by subst hW; simp
    have Z : Bx W w.heap.size (.bool false) (.slice none 0 0) := by subst hW; exact Bx.new w _ _
    clear hW
    refine (of_any V (by unfold B64; omega) _).mono ?_
    rintro e w1 ⟨A1, n1, k1, rfl, p1, p2, p3, p4⟩
    have Z1 := Z.below p4
    go_wp2_with (first
      | (go_at_call 43; (with_reducible refine (number_any _ _ _ _ _).mono ?_); rintro e w2 ⟨rfl, q4⟩
         have Z2 := Z1.below q4
         have r0 := Z2.c0
         have r1 := Z2.c1
         have r2 := Z2.f0
         have r3 := Z2.f1))
    have hf0 := (Z2.set2 (.bool (true && decide (0 < n1))) (.slice A1 n1 k1)).c0
    have hf1 := (Z2.set2 (.bool (true && decide (0 < n1))) (.slice A1 n1 k1)).c1
    simp only [Bool.true_and] at hf0 hf1
    refine bodyPost_ret (v := .agg #[.bool (true && decide (0 < n1)), .slice A1 n1 k1]) (by simp [results, Try.results37, go_sem, hf0, hf1]) rfl ?_
    exact close_i (s := true) (g := w.heap.size) hb0 (Nat.le_refl _) (by omega) (by simp [iv]) p1 p2 p3 p4 q4 _ _
  · obtain ⟨V, rfl⟩ : ∃ V : Nat, v = (V : Int) := ⟨v.natAbs, by omega⟩
    go_enter Try.func37, Try.ntmps37
    go_wp2_with fail
    generalize hW : w.alloc (Obj.cells #[Value.bool false, Value.slice none 0 0] 24) = W
    have hb0 : Below w.heap.size w W := by subst hW; exact (Below.refl _ _).alloc (Nat.le_refl _) _
    have hz : W.heap.size = w.heap.size + 1 := by subst hW; simp
    have Z : Bx W w.heap.size (.bool false) (.slice none 0 0) := by subst hW; exact Bx.new w _ _
    clear hW
    refine (of_any V (by unfold B64; omega) _).mono ?_
    rintro e w1 ⟨A1, n1, k1, rfl, p1, p2, p3, p4⟩
    have Z1 := Z.below p4
    go_wp2_with (first
      | (go_at_call 43; (with_reducible refine (number_any _ _ _ _ _).mono ?_); rintro e w2 ⟨rfl, q4⟩
         have Z2 := Z1.below q4
         have r0 := Z2.c0
         have r1 := Z2.c1
         have r2 := Z2.f0
         have r3 := Z2.f1))
    have hf0 := (Z2.set2 (.bool (false && decide (0 < n1))) (.slice A1 n1 k1)).c0
    have hf1 := (Z2.set2 (.bool (false && decide (0 < n1))) (.slice A1 n1 k1)).c1
    simp only [Bool.false_and] at hf0 hf1
    refine bodyPost_ret (v := .agg #[.bool (false && decide (0 < n1)), .slice A1 n1 k1]) (by simp [results, Try.results37, go_sem, hf0, hf1]) rfl ?_
    exact close_i (s := false) (g := w.heap.size) hb0 (Nat.le_refl _) (by omega) (by simp [iv]) p1 p2 p3 p4 q4 _ _

/-- Is v an int64? -/
def fitsB (v : Int) : Bool := decide (-9223372036854775808 ≤ v ∧ v < 9223372036854775808)

def smallV (v : Int) : Int := if fitsB v then v else 0
theorem smallV_t {v : Int} (h : fitsB v = true) : smallV v = v := by simp [smallV, h]
theorem smallV_f {v : Int} (h : fitsB v = false) : smallV v = 0 := by simp [smallV, h]

theorem first_limb {l : List Nat} (hL : Lim B64 l) (h : val B64 l < B64) (h0 : val B64 l ≠ 0) : ∃ r, l = val B64 l :: r := by
  cases l with
  | nil => exact absurd rfl h0
  | cons x r =>
    have hx := hL x (List.mem_cons_self ..)
    rw [val_cons] at h ⊢
    have : val B64 r = 0 := by
      rcases Nat.eq_zero_or_pos (val B64 r) with h1 | h1
      · exact h1
      · have := Nat.mul_le_mul_left B64 h1; omega
    exact ⟨r, by rw [this]; simp⟩

set_option maxRecDepth 100000 in
set_option maxHeartbeats 1000000 in
theorem small_any (s : Bool) (l : List Nat) (A : Option Addr) (n c : Nat) (w : World) (h : Rd .u64 w A n l) (hL : Lim B64 l) (hn : n ≤ 35184372088832) (hnc : n ≤ c) :
    Calls Try.prog 33 #[.agg #[.bool s, .slice A n c]] w fun e w' => e = .returned (.tuple #[.int .i64 (smallV (iv s (val B64 l))), .bool (fitsB (iv s (val B64 l)))]) ∧ Below w.heap.size w w' := by
  generalize hV : val B64 l = V
  have HV := Lib.hid hV
  go_enter Try.func33, Try.ntmps33
  go_wp2_with fail
  generalize hW : w.alloc (Obj.cells #[Value.bool s, Value.slice A n c] 24) = W
  have hb0 : Below w.heap.size w W := by subst hW; exact (Below.refl _ _).alloc (Nat.le_refl _) _
  have X : Bx W w.heap.size (.bool s) (.slice A n c) := by subst hW; exact Bx.new w _ _
  clear hW
  have c0 := X.c0
  have c1 := X.c1
  refine (bits_any l _ _ _ _ (h.below hb0) hL hn hnc).mono ?_
  rintro e w' ⟨rfl, rfl⟩
  rw [hV]
  clear hV
  have hlt := lt_bl V
  have hle : ∀ k, k < bl V → 2 ^ k ≤ V := fun k hk => le_of_bl hk
  have hbl : ∀ k, V < 2 ^ k → bl V ≤ k := fun k hk => bl_le hk
  rcases Nat.eq_zero_or_pos V with h0 | h0
  · subst h0
    rw [bl_zero]
    go_wp2
    go_ret2
    exact ⟨by cases s <;> rfl, hb0⟩
  · rcases Nat.lt_or_ge V B64 with hB | hB
    · have hq1 : bl V ≤ 64 := hbl 64 hB
      have hq0 : 0 < bl V := bl_pos (by omega)
      generalize bl V = q at hq0 hq1 ⊢
      have h64 : decide ((64 : Int) < (q : Int)) = false := by simp; omega
      have hq3 : ((q : Int) == 0) = false := by simp; omega
      clear hlt hle hbl
      obtain ⟨r, hr⟩ := first_limb hL (by rw [HV.out]; exact hB) (by rw [HV.out]; omega)
      rw [HV.out] at hr
      have hnpos : 0 < n := by rw [← h.1, hr]; simp
      obtain ⟨b, o, rfl, hc⟩ := (h.below hb0).at_ hnpos
      obtain ⟨x, hx, hcx⟩ := hc 0 hnpos
      obtain rfl : x = V := by rw [hr] at hx; simpa using hx.symm
      clear hc hx
      have hn2 : n ≤ 2 ^ 45 := by omega
      unfold B64 at hB
      simp only [Nat.add_zero] at hcx
      cases s
      · by_cases hx : x ≤ 9223372036854775807
        · have hf : fitsB (iv false x) = true := by simp [fitsB, iv]; omega
          have hw : IntKind.i64.wrap (x : Int) = (x : Int) := by rw [IntKind.wrap_i64]; omega
          have hxD : decide ((9223372036854775807 : Int) < (x : Int)) = false := by simp; omega
          have HF := Lib.hid hf
          clear hx hB hf
          go_wp2
          go_ret2
          exact ⟨by rw [smallV_t HF.out, HF.out]; simp [iv], hb0⟩
        · have hf : fitsB (iv false x) = false := by simp [fitsB, iv]; omega
          have hxD : decide ((9223372036854775807 : Int) < (x : Int)) = true := by simp; omega
          have HF := Lib.hid hf
          clear hx hB hf
          go_wp2
          go_ret2
          exact ⟨by rw [smallV_f HF.out, HF.out]; rfl, hb0⟩
      · by_cases hx : x ≤ 9223372036854775808
        · have hf : fitsB (iv true x) = true := by simp [fitsB, iv]; omega
          have hw : IntKind.i64.wrap (IntKind.u64.wrap (-(x : Int))) = -(x : Int) := by rw [IntKind.wrap_u64, IntKind.wrap_i64]; omega
          go_wp2
          go_ret2
          exact ⟨by rw [smallV_t hf, hf]; simp [iv], hb0⟩
        · have hf : fitsB (iv true x) = false := by simp [fitsB, iv]; omega
          go_wp2
          go_ret2
          exact ⟨by rw [smallV_f hf, hf]; rfl, hb0⟩
    · have hq : 64 < bl V := by
        rcases Nat.lt_or_ge 64 (bl V) with h1 | h1
        · exact h1
        · have h2 : 2 ^ bl V ≤ 2 ^ 64 := Nat.pow_le_pow_right (by omega) h1
          unfold B64 at hB; omega
      generalize bl V = q at hq ⊢
      have hq3 : ((q : Int) == 0) = false := by simp; omega
      clear hlt hle hbl
      have hf : fitsB (iv s V) = false := by unfold B64 at hB; cases s <;> simp [fitsB, iv] <;> omega
      clear hB
      go_wp2
      go_ret2
      exact ⟨by rw [smallV_f hf, hf]; rfl, hb0⟩
end Go.Proofs.Ytflcgeehpboldaa
