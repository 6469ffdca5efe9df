/- nat.divideByLimb at a slice of the call's own; nat.trim of such a slice; (nat.steps).apply. -/
import Derived.Test.YthdpllhpdjhogaaGcdD
namespace Go.Proofs.Ythdpllhpdjhogaa
open Go.RowKit

theorem Fr.cutk {K : IntKind} {e : TypeId} {w : World} {B n c k : Nat} {A : Option Addr} {l : List Nat} (h : Fr K e w B A n c l) (hk : k ≤ n) : Fr K e w B A k c (l.take k) := by
  refine ⟨by rw [List.length_take, h.1]; omega, by rw [length_nums, List.length_take, h.1]; omega, ?_⟩
  rcases h.2.2 with ⟨h1, h2⟩ | ⟨g, cap, cur, hv, hg, hh, hc1, hc2, hs, ht⟩
  · injection h1 with ha hb hc
    exact .inl ⟨by rw [ha, hc, show k = 0 by omega], by omega⟩
  · injection hv with ha _ hc
    refine .inr ⟨g, cap, cur, by rw [ha, hc], hg, hh, by omega, hc2, hs, ?_⟩
    rw [nums_take, ← ht, List.take_take, Nat.mul_one, Nat.mul_one, Nat.min_eq_left hk]


theorem Fr.set_ {w : World} {B n c k x : Nat} {A : Option Addr} {l : List Nat} (h : Fr .u64 34 w B A n c l) (hx : l[k]? = some x) :
    ∃ g, A = some ⟨g, 0, none⟩ ∧ B ≤ g ∧ w.cell? ⟨g, k, none⟩ = some (.int .u64 (x : Int)) ∧ w.frozen? ⟨g, k, none⟩ = false ∧
      ∀ v : Nat, Fr .u64 34 (w.setCell ⟨g, k, none⟩ (.int .u64 (v : Int))) B A n c (l.set k v) := by
  have hk := (List.getElem?_eq_some_iff.1 hx).1
  have hl := h.1
  obtain ⟨g, R, hA, hg, hvw, hc1, hc2, hR⟩ := h.opened (by omega)
  refine ⟨g, hA, hg, ?_, hvw.frozen k, fun v => ?_⟩
  · refine hvw.cell ?_
    rw [List.getElem?_append_left (by rw [length_nums]; omega), nums_get, hx]; rfl
  · subst hA
    have hst := hvw.set_ k (.int .u64 (v : Int))
    refine Fr.shut (R := R) ?_ hg (by rw [List.length_set]; exact hl) hR hc2
    refine cast (congrArg (Vow _ _ g) ?_) hst
    rw [List.set_append_left _ _ (by rw [length_nums]; omega), ← nums_set]

set_option maxRecDepth 100000 in
set_option maxHeartbeats 1000000 in
theorem byLimb_fr (l : List Nat) (v n c B : Nat) (A : Option Addr) (w : World) (h : Fr .u64 34 w B A n c l) (L : Lim B64 l) (hv : 0 < v) (hvB : v < B64) (hm : n ≤ maxLen) :
    Calls Try.prog 51 #[.slice A n c, .int .u64 (v : Int)] w fun e w' =>
      e = .returned (.int .u64 ((val B64 l % v : Nat) : Int)) ∧ (∃ Q, Q.length = n ∧ Lim B64 Q ∧ val B64 Q = val B64 l / v ∧ Fr .u64 34 w' B A n c Q) ∧ Below B w w' ∧ ∀ k, (∀ a, A = some a → a.block ≠ k) → w'.heap[k]? = w.heap[k]? := by
  have HS := Lib.hid h.1
  unfold maxLen at hm
  go_enter Try.func51, Try.ntmps51
  go_wp2_with fail
  go_loopw [4, 5] (fun b i wr => ∃ (j : Nat) (Q : List Nat) (r : Nat), j ≤ n ∧ r < v ∧ i = .int .i64 ((j : Int) - 1) ∧ b = .int .u64 (r : Int) ∧ Fr .u64 34 wr B A n c (l.take j ++ Q) ∧ Below B w wr ∧ (∀ k, (∀ a, A = some a → a.block ≠ k) → wr.heap[k]? = w.heap[k]?) ∧
      Hid (Q.length + j = n ∧ Lim B64 Q ∧ val B64 Q = val B64 (l.drop j) / v ∧ r = val B64 (l.drop j) % v)) (fun _ i _ => (intOf i + 1).toNat)
  case atStart =>
    refine ⟨n, [], 0, Nat.le_refl _, hv, by go_num, rfl, ?_, Below.refl _ _, fun _ _ => rfl, by simp, Lim.nil, ?_, ?_⟩
    · rw [List.take_of_length_le (by have := HS.out; omega), List.append_nil]; exact h
    · rw [List.drop_of_length_le (by have := HS.out; omega)]; simp
    · rw [List.drop_of_length_le (by have := HS.out; omega)]; simp
  case round =>
    obtain ⟨j, Q, r, hj, hr, rfl, rfl, hfr, hbl, hoth, HV⟩ := hrel
    have HOT := Lib.hid hoth
    clear hoth
    by_cases hj0 : 0 < j
    · have hks : j - 1 < l.length := by have := HS.out; omega
      obtain ⟨x, hx⟩ : ∃ x, l[j - 1]? = some x := ⟨_, List.getElem?_eq_getElem hks⟩
      have ht : l.take j = l.take (j - 1) ++ [x] := by
        have := List.take_succ_eq_append_getElem hks
        rw [show j - 1 + 1 = j by omega] at this
        rw [this, (List.getElem?_eq_some_iff.1 hx).2]
      have hl : (l.take (j - 1)).length = j - 1 := by rw [List.length_take]; omega
      rw [ht, List.append_assoc] at hfr
      have hxk : (l.take (j - 1) ++ ([x] ++ Q))[j - 1]? = some x := by rw [List.getElem?_append_right (by omega), hl, Nat.sub_self]; rfl
      obtain ⟨g, hA, hg, hcz, hfz, hset⟩ := hfr.set_ hxk
      subst hA
      have hset2 := hset (dQuo r x v)
      rw [List.set_append_right _ _ (by omega), hl, Nat.sub_self] at hset2
      have HX := Lib.hid hx
      have HSET := Lib.hid hset2
      clear hset hset2 hfr hks hx ht hl hxk
      go_wp2_with (go_at_call 75; (with_reducible refine (div64_any r x v _ hr hvB (L.get HX.out)).mono ?_); rintro e w' ⟨rfl, q, rfl⟩)
      go_roundw
      case rel =>
        obtain ⟨h1, h2, h3, h4⟩ := HV.out
        obtain ⟨s1, s2⟩ := byLimb_step (x := x) h3 h4 hv
        have hd : val B64 (l.drop (j - 1)) = x + B64 * val B64 (l.drop j) := by
          have hks : j - 1 < l.length := (List.getElem?_eq_some_iff.1 HX.out).1
          rw [List.drop_eq_getElem_cons hks, (List.getElem?_eq_some_iff.1 HX.out).2, val_cons, show j - 1 + 1 = j by omega]
        refine ⟨j - 1, dQuo r x v :: Q, dRem r x v, by omega, dRem_lt hr, by go_num, rfl, HSET.out, ?_, ?_, ?_, ?_, ?_, ?_⟩
        · exact (below_drawn hbl q).setCell (p := ⟨g, j - 1, none⟩) hg _
        · exact fun k hk => (Below.heap_setCell (wr.drewN q) ⟨g, j - 1, none⟩ _ k (Ne.symm (hk ⟨g, 0, none⟩ rfl))).trans (HOT.out k hk)
        · simp; omega
        · exact Lim.cons (dQuo_lt hr (L.get HX.out)) h2
        · rw [val_cons, hd]; exact s1
        · rw [hd]; exact s2
      case measure => simp [intOf]; omega
    · obtain rfl : j = 0 := by omega
      go_wp2_with fail
      go_ret
      obtain ⟨h1, h2, h3, h4⟩ := HV.out
      rw [List.drop_zero] at h3 h4
      exact ⟨ret_int (by rw [h4]), ⟨Q, by omega, h2, h3, by simpa using hfr⟩, hbl, HOT.out⟩

theorem trim_fr (l : List Nat) (A : Option Addr) (n c B : Nat) (w : World) (h : Fr .u64 34 w B A n c l) (hL : Lim B64 l) (hn : n ≤ maxLen) (hnc : n ≤ c) :
    Calls Try.prog 43 #[.slice A n c] w fun e w' => (∃ k, k ≤ n ∧ e = .returned (.slice A k c) ∧ Fr .u64 34 w' B A k c (limbs B64 (val B64 l))) ∧ w = w' := by
  refine (trim_any l A n c w h.rd hL hn hnc).mono ?_
  rintro e w' ⟨⟨k, hk, rfl, hr⟩, rfl⟩
  refine ⟨⟨k, hk, rfl, ?_⟩, rfl⟩
  have := h.cutk hk
  rwa [← hr.1, limbs_take B64_two hL, hr.1] at this

theorem mix_end2 {N r s x y vQ c3 c T : Nat} (h : vQ + r * (x % N) + N * c3 = s * y + N * c) (ht : s * y = r * x + T) (hQ : vQ < N) (hT : T < N) : vQ = T := by
  have hd := Nat.div_add_mod x N
  have e : r * x = r * (x % N) + N * (r * (x / N)) := by
    conv => lhs; rw [← hd]
    grind
  refine mod_same (c := c3) (d := c + r * (x / N)) hQ hT ?_
  rw [Nat.mul_add]
  omega

/-- What apply tells: two slices of the call's own in different blocks. -/
def GivesAB (w : World) (B U V : Nat) (e : Ending) (w' : World) : Prop :=
  ∃ g k c g' k' c', e = .returned (.tuple #[.slice (some ⟨g, 0, none⟩) k c, .slice (some ⟨g', 0, none⟩) k' c']) ∧ g ≠ g' ∧ k ≤ c ∧ c ≤ maxLen ∧ k' ≤ c' ∧ c' ≤ maxLen ∧
    Fr .u64 34 w' B (some ⟨g, 0, none⟩) k c (limbs B64 U) ∧ Fr .u64 34 w' B (some ⟨g', 0, none⟩) k' c' (limbs B64 V) ∧ Below B w w'

set_option maxRecDepth 100000 in
set_option maxHeartbeats 2000000 in
theorem apply_even (lx ly : List Nat) (gx gy n m c d u0 v0 u1 v1 B X Y : Nat) (w : World) (hx : Fr .u64 34 w B (some ⟨gx, 0, none⟩) n c lx) (hy : Fr .u64 34 w B (some ⟨gy, 0, none⟩) m d ly) (hne : gx ≠ gy) (hgx : B ≤ gx) (hgy : B ≤ gy) (hB : B ≤ w.heap.size)
    (Lx : Lim B64 lx) (Ly : Lim B64 ly) (hu0 : u0 < B64) (hv0 : v0 < B64) (hu1 : u1 < B64) (hv1 : v1 < B64) (hm : m ≤ n) (hn : n ≤ 35184372088830) (hnc : n ≤ c) (hmd : m ≤ d) (hc : c ≤ maxLen) (hd : d ≤ maxLen)
    (hst : Steps (val B64 lx) (val B64 ly) u0 v0 u1 v1 true X Y) :
    Calls Try.prog 56 #[.agg #[.int .u64 (u0 : Int), .int .u64 (v0 : Int), .int .u64 (u1 : Int), .int .u64 (v1 : Int), .bool true], .slice (some ⟨gx, 0, none⟩) n c, .slice (some ⟨gy, 0, none⟩) m d] w (GivesAB w B X Y) := by
  have hlx := hx.1
  have hx1 := (hx.cutk hm).below (B' := w.heap.size) ((Below.refl _ _).alloc (Nat.le_refl _) (.cells #[.int .u64 (u0 : Int), .int .u64 (v0 : Int), .int .u64 (u1 : Int), .int .u64 (v1 : Int), .bool true] tSteps)) (Nat.le_refl _)
  have hy1 := hy.below (B' := w.heap.size) ((Below.refl _ _).alloc (Nat.le_refl _) (.cells #[.int .u64 (u0 : Int), .int .u64 (v0 : Int), .int .u64 (u1 : Int), .int .u64 (v1 : Int), .bool true] tSteps)) (Nat.le_refl _)
  have hb1 : Below B w (w.alloc (.cells #[.int .u64 (u0 : Int), .int .u64 (v0 : Int), .int .u64 (u1 : Int), .int .u64 (v1 : Int), .bool true] tSteps)) := (Below.refl _ _).alloc hB _
  have hV : Hid (Vow tSteps (w.alloc (.cells #[.int .u64 (u0 : Int), .int .u64 (v0 : Int), .int .u64 (u1 : Int), .int .u64 (v1 : Int), .bool true] tSteps)) w.heap.size (stepV u0 v0 u1 v1 true)) := heap_alloc_new w _
  have hm1 : m ≤ 2 ^ 45 := by omega
  have hmc : m ≤ c := by omega
  have hcm : c ≤ 2 ^ 63 - 1 := hc
  obtain ⟨⟨s1, s2⟩, s3, s4, s5⟩ := hst
  have hXB : X < B64 ^ m := by
    have := val_lt Ly
    rw [hy.1] at this
    omega
  have HST := Lib.hid (And.intro s1 (And.intro s2 (And.intro hXB (show Y < B64 ^ m by omega))))
  have HXM : Hid (val B64 (lx.take m) = val B64 lx % B64 ^ m) := val_take Lx m (by omega)
  clear s1 s2 s3 s4 s5 hXB hx hy
  go_enter Try.func56, Try.ntmps56
  go_wp2_with (first
    | (go_at_call 81
       refine (mix_any (lx.take m) ly gx gy m c d u0 v0 u1 v1 B _ hx1 hy1 hne hgx hgy (Lx.take _) Ly hu0 hv0 hu1 hv1 (by omega)).mono ?_
       rintro e w2 ⟨rfl, ⟨P, Q, c1, c2, c3, c4, hP1, hQ1, hP2, hQ2, hP3, hQ3, hP4, hQ4⟩, hb2⟩
       have HPQ := Lib.hid (And.intro hP1 (And.intro hQ1 (And.intro hP3 hQ3)))
       clear hP1 hQ1 hP3 hQ3)
    | (go_at_call 43; (with_reducible refine (trim_fr P _ m _ B _ hP4 hP2 (by unfold maxLen; omega) hmc).mono ?_); rintro e w' ⟨⟨k1, hk1, rfl, hf1⟩, rfl⟩)
    | (go_at_call 43; (with_reducible refine (trim_fr Q _ m _ B _ hQ4 hQ2 (by unfold maxLen; omega) hmd).mono ?_); rintro e w' ⟨⟨k2, hk2, rfl, hf2⟩, rfl⟩))
  go_ret2
  obtain ⟨q1, q2, q3, q4⟩ := HPQ.out
  obtain ⟨t1, t2, t3, t4⟩ := HST.out
  rw [HXM.out] at q3 q4
  have hPB := val_lt hP2
  have hQB := val_lt hQ2
  rw [q1] at hPB
  rw [q2] at hQB
  rw [mix_end q3 t1 hPB t3] at hf1
  rw [mix_end2 q4 t2 hQB t4] at hf2
  exact ⟨_, _, _, _, _, _, rfl, hne, by omega, hc, by omega, hd, hf1, hf2, hb1.trans hb2⟩

set_option maxRecDepth 100000 in
set_option maxHeartbeats 2000000 in
theorem apply_odd (lx ly : List Nat) (gx gy n m c d u0 v0 u1 v1 B X Y : Nat) (w : World) (hx : Fr .u64 34 w B (some ⟨gx, 0, none⟩) n c lx) (hy : Fr .u64 34 w B (some ⟨gy, 0, none⟩) m d ly) (hne : gx ≠ gy) (hgx : B ≤ gx) (hgy : B ≤ gy) (hB : B ≤ w.heap.size)
    (Lx : Lim B64 lx) (Ly : Lim B64 ly) (hu0 : u0 < B64) (hv0 : v0 < B64) (hu1 : u1 < B64) (hv1 : v1 < B64) (hm : m ≤ n) (hn : n ≤ 35184372088830) (hnc : n ≤ c) (hmd : m ≤ d) (hc : c ≤ maxLen) (hd : d ≤ maxLen)
    (hst : Steps (val B64 lx) (val B64 ly) u0 v0 u1 v1 false X Y) :
    Calls Try.prog 56 #[.agg #[.int .u64 (u0 : Int), .int .u64 (v0 : Int), .int .u64 (u1 : Int), .int .u64 (v1 : Int), .bool false], .slice (some ⟨gx, 0, none⟩) n c, .slice (some ⟨gy, 0, none⟩) m d] w (GivesAB w B X Y) := by
  have hlx := hx.1
  have hx1 := (hx.cutk hm).below (B' := w.heap.size) ((Below.refl _ _).alloc (Nat.le_refl _) (.cells #[.int .u64 (u0 : Int), .int .u64 (v0 : Int), .int .u64 (u1 : Int), .int .u64 (v1 : Int), .bool false] tSteps)) (Nat.le_refl _)
  have hy1 := hy.below (B' := w.heap.size) ((Below.refl _ _).alloc (Nat.le_refl _) (.cells #[.int .u64 (u0 : Int), .int .u64 (v0 : Int), .int .u64 (u1 : Int), .int .u64 (v1 : Int), .bool false] tSteps)) (Nat.le_refl _)
  have hb1 : Below B w (w.alloc (.cells #[.int .u64 (u0 : Int), .int .u64 (v0 : Int), .int .u64 (u1 : Int), .int .u64 (v1 : Int), .bool false] tSteps)) := (Below.refl _ _).alloc hB _
  have hV : Hid (Vow tSteps (w.alloc (.cells #[.int .u64 (u0 : Int), .int .u64 (v0 : Int), .int .u64 (u1 : Int), .int .u64 (v1 : Int), .bool false] tSteps)) w.heap.size (stepV u0 v0 u1 v1 false)) := heap_alloc_new w _
  have hm1 : m ≤ 2 ^ 45 := by omega
  have hmc : m ≤ c := by omega
  have hcm : c ≤ 2 ^ 63 - 1 := hc
  obtain ⟨⟨s1, s2⟩, s3, s4, s5⟩ := hst
  have hXB : X < B64 ^ m := by
    have := val_lt Ly
    rw [hy.1] at this
    omega
  have HST := Lib.hid (And.intro s1 (And.intro s2 (And.intro hXB (show Y < B64 ^ m by omega))))
  have HXM : Hid (val B64 (lx.take m) = val B64 lx % B64 ^ m) := val_take Lx m (by omega)
  clear s1 s2 s3 s4 s5 hXB hx hy
  go_enter Try.func56, Try.ntmps56
  go_wp2_with (first
    | (go_at_call 81
       refine (mix_any ly (lx.take m) gy gx m d c v0 u0 v1 u1 B _ hy1 hx1 (Ne.symm hne) hgy hgx Ly (Lx.take _) hv0 hu0 hv1 hu1 (by omega)).mono ?_
       rintro e w2 ⟨rfl, ⟨P, Q, c1, c2, c3, c4, hP1, hQ1, hP2, hQ2, hP3, hQ3, hP4, hQ4⟩, hb2⟩
       have HPQ := Lib.hid (And.intro hP1 (And.intro hQ1 (And.intro hP3 hQ3)))
       clear hP1 hQ1 hP3 hQ3)
    | (go_at_call 43; (with_reducible refine (trim_fr P _ m _ B _ hP4 hP2 (by unfold maxLen; omega) hmd).mono ?_); rintro e w' ⟨⟨k1, hk1, rfl, hf1⟩, rfl⟩)
    | (go_at_call 43; (with_reducible refine (trim_fr Q _ m _ B _ hQ4 hQ2 (by unfold maxLen; omega) hmc).mono ?_); rintro e w' ⟨⟨k2, hk2, rfl, hf2⟩, rfl⟩))
  go_ret2
  obtain ⟨q1, q2, q3, q4⟩ := HPQ.out
  obtain ⟨t1, t2, t3, t4⟩ := HST.out
  rw [HXM.out] at q3 q4
  have hPB := val_lt hP2
  have hQB := val_lt hQ2
  rw [q1] at hPB
  rw [q2] at hQB
  rw [mix_end2 q3 t1 hPB t3] at hf1
  rw [mix_end q4 t2 hQB t4] at hf2
  exact ⟨_, _, _, _, _, _, rfl, (Ne.symm hne), by omega, hd, by omega, hc, hf1, hf2, hb1.trans hb2⟩
end Go.Proofs.Ythdpllhpdjhogaa
