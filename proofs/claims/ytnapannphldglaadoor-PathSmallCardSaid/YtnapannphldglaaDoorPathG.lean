/- The reader takes a token. -/
import Derived.Test.YtnapannphldglaaDoorPathF
namespace Go.Proofs.YtnapannphldglaaDoor
open Go Go.RowKit

theorem number_no {w : World} {r B : Nat} {S : RSt} (n : Nm) (h : RS w r B S) (hl : LtIn w) (hn : numberR S n = none) :
    Calls Tryd.prog 70 #[.pointer (some ⟨r, 0, none⟩), .agg #[.int .i64 n.n, .int .i64 n.p]] w fun e w' => e = .returned (.bool false) ∧ Below B w w' ∧ Kt ktN w w' := by
  obtain ⟨ps, lv, A, c, hps, h⟩ := h
  unfold numberR at hn
  cases hk : lacks S.2 with
  | true => rw [hk, if_pos rfl] at hn; cases hn
  | false =>
    rw [hk, if_neg (by decide)] at hn
    cases hy : letterOf S.2.L.a with
    | some y => rw [hy] at hn; cases hn
    | none => exact number_n n h hk hl hy
theorem number_ok {w : World} {r B : Nat} {S S' : RSt} (n : Nm) (h : RS w r B S) (hl : LtIn w) (hn : numberR S n = some S') :
    Calls Tryd.prog 70 #[.pointer (some ⟨r, 0, none⟩), .agg #[.int .i64 n.n, .int .i64 n.p]] w fun e w' => e = .returned (.bool true) ∧ RS w' r B S' ∧ Below B w w' ∧ Kt ktN w w' := by
  obtain ⟨ps, lv, A, c, hps, h⟩ := h
  unfold numberR at hn
  cases hk : lacks S.2 with
  | true =>
    rw [hk, if_pos rfl] at hn; cases hn
    have := number_a n h hk
    rwa [← hps] at this
  | false =>
    rw [hk, if_neg (by decide)] at hn
    cases hy : letterOf S.2.L.a with
    | none => rw [hy] at hn; cases hn
    | some y =>
      rw [hy] at hn; cases hn
      have := number_b n h hk hl hy
      rwa [← hps] at this
theorem wordR_app (m : List UInt8) : ∀ (l : List UInt8) (S : RSt) (p : Int), wordR S p (l ++ m) = match wordR S p l with
    | .error q => .error q
    | .ok S' => wordR S' (p + l.length) m
  | [], S, p => by simp [wordR]
  | c :: l, S, p => by
    rw [List.cons_append, wordR, wordR]
    cases letterR S c.toNat p with
    | none => rfl
    | some S' =>
      simp only
      rw [wordR_app m l S' (p + 1), List.length_cons]
      rw [show p + 1 + (l.length : Int) = p + ((l.length + 1 : Nat) : Int) by omega]
theorem wordR_hit {S S1 S2 : RSt} {p : Int} {s : List UInt8} {k : Nat} {c : UInt8} (h : wordR S p (s.take k) = .ok S1) (hc : s[k]? = some c) (hn : letterR S1 c.toNat (p + k) = some S2) : wordR S p (s.take (k + 1)) = .ok S2 := by
  obtain ⟨hl, he⟩ := List.getElem?_eq_some_iff.1 hc
  rw [List.take_succ_eq_append_getElem hl, he, wordR_app, h]
  simp only [List.length_take, Nat.min_eq_left (Nat.le_of_lt hl)]
  simp [wordR, hn]
theorem wordR_miss {S S1 : RSt} {p : Int} {s : List UInt8} {k : Nat} {c : UInt8} (h : wordR S p (s.take k) = .ok S1) (hc : s[k]? = some c) (hn : letterR S1 c.toNat (p + k) = none) : wordR S p s = .error (p + k) := by
  obtain ⟨hl, he⟩ := List.getElem?_eq_some_iff.1 hc
  conv => lhs; rw [← List.take_append_drop k s]
  rw [wordR_app, h, List.drop_eq_getElem_cons hl, he]
  simp only [List.length_take, Nat.min_eq_left (Nat.le_of_lt hl)]
  simp [wordR, hn]
/-- Block g holds a token. -/
def TB (W : World) (g : Nat) (t : Tk) : Prop := W.heap[g]? = some (.cells #[.int .i64 t.k, .string ⟨t.s.toArray⟩, .int .i64 t.n, .int .i64 (t.p : Int)] 91 (0, 0))
theorem TB.new (w : World) (t : Tk) : TB (w.alloc (.cells #[.int .i64 t.k, .string ⟨t.s.toArray⟩, .int .i64 t.n, .int .i64 (t.p : Int)] 91)) w.heap.size t := heap_alloc_new w _
section
variable {W : World} {g : Nat} {t : Tk}
theorem TB.c0 (h : TB W g t) : W.cell? ⟨g, 0, none⟩ = some (.int .i64 t.k) := by rw [cell_of_row W g 0 _ _ (0, 0) h]; rfl
theorem TB.c1 (h : TB W g t) : W.cell? ⟨g, 1, none⟩ = some (.string ⟨t.s.toArray⟩) := by rw [cell_of_row W g 1 _ _ (0, 0) h]; rfl
theorem TB.c2 (h : TB W g t) : W.cell? ⟨g, 2, none⟩ = some (.int .i64 t.n) := by rw [cell_of_row W g 2 _ _ (0, 0) h]; rfl
theorem TB.c3 (h : TB W g t) : W.cell? ⟨g, 3, none⟩ = some (.int .i64 (t.p : Int)) := by rw [cell_of_row W g 3 _ _ (0, 0) h]; rfl
theorem TB.kt {W' : World} {ts : List TypeId} (h : TB W g t) (hk : Kt ts W W') (ht : 91 ∉ ts) : TB W' g t := hk _ _ _ _ h ht
end
set_option maxRecDepth 100000 in
set_option maxHeartbeats 4000000 in
theorem token_nn {w : World} {r B : Nat} {S : RSt} (t : Tk) (h : RS w r B S) (hB : 1 < B) (hBr : B ≤ r) (hrw : r < w.heap.size) (hl : LtIn w) (hk : t.k = 2) (hn : numberR S ⟨t.n, t.p⟩ = none) :
    Calls Tryd.prog 57 #[.pointer (some ⟨r, 0, none⟩), .agg #[.int .i64 t.k, .string ⟨t.s.toArray⟩, .int .i64 t.n, .int .i64 (t.p : Int)]] w fun e w' => e = .returned (.tuple #[.int .i64 (t.p : Int), .bool false]) ∧ Below B w w' ∧ Kt ktN w w' := by
  have HKK := Lib.hid hk
  have HN := Lib.hid hn
  clear hk hn
  go_enter Tryd.func57, Tryd.ntmps57
  go_upto_region 1 with (fail)
  have hx := TB.new w t
  have hbl : Below B w (w.alloc (.cells #[.int .i64 t.k, .string ⟨t.s.toArray⟩, .int .i64 t.n, .int .i64 (t.p : Int)] 91)) := (Below.refl _ w).alloc (by omega) _
  replace h := h.below ((Below.refl _ w).alloc (Nat.le_refl _) (.cells #[.int .i64 t.k, .string ⟨t.s.toArray⟩, .int .i64 t.n, .int .i64 (t.p : Int)] 91))
  have hkt : Kt ktN w (w.alloc (.cells #[.int .i64 t.k, .string ⟨t.s.toArray⟩, .int .i64 t.n, .int .i64 (t.p : Int)] 91)) := Kt.of_below ((Below.refl _ w).alloc (Nat.le_refl _) _)
  replace hl := hl.below hbl hB
  generalize w.alloc (.cells #[.int .i64 t.k, .string ⟨t.s.toArray⟩, .int .i64 t.n, .int .i64 (t.p : Int)] 91) = W at *
  have H := Lib.hid h
  have HB := Lib.hid hbl
  have HL := Lib.hid hl
  have HX := Lib.hid hx
  have HK := Lib.hid hkt
  have t0 := hx.c0
  have t1 := hx.c1
  have t2 := hx.c2
  have t3 := hx.c3
  clear h hbl hl hx hkt
  rw [HKK.out] at t0
  go_wp2
  go_region_with (go_at_call 70; refine (number_no ⟨t.n, t.p⟩ (H.out.heap (w' := W.drew) rfl) (show LtIn W.drew from HL.out) HN.out).mono ?_; rintro e w2 ⟨rfl, hb2, hk2⟩; have u3 := (HX.out.kt (W' := w2) ((Kt.of_heap (b := W.drew) rfl).trans hk2) (by decide)).c3)
  all_goals
    go_wp2
    go_ret2
    exact ⟨rfl, (HB.out.trans (show Below B W W.drew from ⟨rfl, rfl, rfl, Nat.le_refl _, fun _ _ => rfl⟩)).trans hb2, (HK.out.trans (Kt.of_heap (b := W.drew) rfl)).trans hk2⟩
set_option maxRecDepth 100000 in
set_option maxHeartbeats 4000000 in
theorem token_ny {w : World} {r B : Nat} {S S' : RSt} (t : Tk) (h : RS w r B S) (hB : 1 < B) (hBr : B ≤ r) (hrw : r < w.heap.size) (hl : LtIn w) (hk : t.k = 2) (hn : numberR S ⟨t.n, t.p⟩ = some S') :
    Calls Tryd.prog 57 #[.pointer (some ⟨r, 0, none⟩), .agg #[.int .i64 t.k, .string ⟨t.s.toArray⟩, .int .i64 t.n, .int .i64 (t.p : Int)]] w fun e w' => e = .returned (.tuple #[.int .i64 (t.p : Int), .bool true]) ∧ RS w' r B S' ∧ Below B w w' ∧ Kt ktN w w' := by
  have HKK := Lib.hid hk
  have HN := Lib.hid hn
  clear hk hn
  go_enter Tryd.func57, Tryd.ntmps57
  go_upto_region 1 with (fail)
  have hx := TB.new w t
  have hbl : Below B w (w.alloc (.cells #[.int .i64 t.k, .string ⟨t.s.toArray⟩, .int .i64 t.n, .int .i64 (t.p : Int)] 91)) := (Below.refl _ w).alloc (by omega) _
  replace h := h.below ((Below.refl _ w).alloc (Nat.le_refl _) (.cells #[.int .i64 t.k, .string ⟨t.s.toArray⟩, .int .i64 t.n, .int .i64 (t.p : Int)] 91))
  have hkt : Kt ktN w (w.alloc (.cells #[.int .i64 t.k, .string ⟨t.s.toArray⟩, .int .i64 t.n, .int .i64 (t.p : Int)] 91)) := Kt.of_below ((Below.refl _ w).alloc (Nat.le_refl _) _)
  replace hl := hl.below hbl hB
  generalize w.alloc (.cells #[.int .i64 t.k, .string ⟨t.s.toArray⟩, .int .i64 t.n, .int .i64 (t.p : Int)] 91) = W at *
  have H := Lib.hid h
  have HB := Lib.hid hbl
  have HL := Lib.hid hl
  have HX := Lib.hid hx
  have HK := Lib.hid hkt
  have t0 := hx.c0
  have t1 := hx.c1
  have t2 := hx.c2
  have t3 := hx.c3
  clear h hbl hl hx hkt
  rw [HKK.out] at t0
  go_wp2
  go_region_with (go_at_call 70; refine (number_ok ⟨t.n, t.p⟩ (H.out.heap (w' := W.drew) rfl) (show LtIn W.drew from HL.out) HN.out).mono ?_; rintro e w2 ⟨rfl, hrs, hb2, hk2⟩; have u3 := (HX.out.kt (W' := w2) ((Kt.of_heap (b := W.drew) rfl).trans hk2) (by decide)).c3)
  all_goals
    go_wp2
    go_ret2
    exact ⟨rfl, hrs, (HB.out.trans (show Below B W W.drew from ⟨rfl, rfl, rfl, Nat.le_refl _, fun _ _ => rfl⟩)).trans hb2, (HK.out.trans (Kt.of_heap (b := W.drew) rfl)).trans hk2⟩
end Go.Proofs.YtnapannphldglaaDoor
