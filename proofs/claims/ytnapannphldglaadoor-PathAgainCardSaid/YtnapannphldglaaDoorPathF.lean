/- The reader takes a letter. -/
import Derived.Test.YtnapannphldglaaDoorPathE
namespace Go.Proofs.YtnapannphldglaaDoor
open Go Go.RowKit

theorem nat_int {c : Nat} : (c : Int) = Int.ofNat c := rfl
theorem drewN_bel {B : Nat} {a w : World} (h : Below B a w) {n : Nat} : Below B a (w.drewN n) := ⟨h.os, h.tape, h.output, h.size, h.block⟩
set_option maxRecDepth 100000 in
set_option maxHeartbeats 4000000 in
theorem letter_n {w : World} {r B : Nat} {ps : List Pq} {x : Pa} {lv : Value} {A : Option Addr} {c : Nat} (b : Nat) (hc : b < 256) (p : Int) (h : RSF w r B ps x lv A c) (hl : LtIn w) (hy : letterOf (greatB (b : Int)) = none) :
    Calls Tryd.prog 71 #[.pointer (some ⟨r, 0, none⟩), .int .u8 (b : Int), .int .i64 p] w fun e w' => e = .returned (.bool false) ∧ Below B w w' ∧ Kt ktA w w' := by
  have H := Lib.hid h
  have HL := Lib.hid hl
  have HY := Lib.hid hy
  have hB := h.hB
  have hlt := h.lt
  clear h hl hy
  go_enter Tryd.func71, Tryd.ntmps71
  go_wp2_with (first
    | (go_at_call 76; refine (great_any b hc _).mono ?_; rintro e w0 ⟨rfl, rfl⟩)
    | (go_at_call 73; refine (letterOf_no HY.out HL.out).mono ?_; rintro e w1 ⟨rfl, hb1⟩))
  go_ret
  refine ⟨rfl, (hb1.mono (by omega)).alloc (by have := hb1.size; omega) _, (Kt.of_below hb1).trans (Kt.of_below ((Below.refl _ w1).alloc (Nat.le_refl _) _))⟩
set_option maxRecDepth 100000 in
set_option maxHeartbeats 4000000 in
theorem letter_l {w : World} {r B : Nat} {ps : List Pq} {x : Pa} {lv : Value} {A : Option Addr} {c : Nat} (b : Nat) (hc : b < 256) (p : Int) (h : RSF w r B ps x lv A c) (hl : LtIn w) {y : Lt} (hy : letterOf (greatB (b : Int)) = some y) (hq : lacks x = true) :
    Calls Tryd.prog 71 #[.pointer (some ⟨r, 0, none⟩), .int .u8 (b : Int), .int .i64 p] w fun e w' => e = .returned (.bool false) ∧ Below B w w' ∧ Kt ktA w w' := by
  have H := Lib.hid h
  have HL := Lib.hid hl
  have HY := Lib.hid hy
  have hB := h.hB
  have hlt := h.lt
  have HQ := Lib.hid hq
  clear h hl hy hq
  go_enter Tryd.func71, Tryd.ntmps71
  go_wp2_with (first
    | (go_at_call 76; refine (great_any b hc _).mono ?_; rintro e w0 ⟨rfl, rfl⟩)
    | (go_at_call 73; refine (letterOf_yes HY.out HL.out).mono ?_; rintro e w1 ⟨rfl, hb1⟩
       have H1 := Lib.hid (H.out.below hb1)
       have hz1 := Lib.hid hb1.size)
    | (go_at_call 58; refine (lacks_any (H1.out.below ((Below.refl _ w1).alloc (Nat.le_refl _) (.cells #[.int .u8 y.n, .int .i64 y.k, .int .i64 y.p, .string y.h, .int .i64 y.f, .int .u8 y.a] 101)))).mono ?_; rw [HQ.out]; rintro e w2 ⟨rfl, q, rfl⟩
       have H2 := Lib.hid ((H1.out.below ((Below.refl _ w1).alloc (Nat.le_refl _) (.cells #[.int .u8 y.n, .int .i64 y.k, .int .i64 y.p, .string y.h, .int .i64 y.f, .int .u8 y.a] 101))).heap (w' := (w1.alloc (.cells #[.int .u8 y.n, .int .i64 y.k, .int .i64 y.p, .string y.h, .int .i64 y.f, .int .u8 y.a] 101)).drewN q) rfl)
       have HB2 : Hid (Below B w ((w1.alloc (.cells #[.int .u8 y.n, .int .i64 y.k, .int .i64 y.p, .string y.h, .int .i64 y.f, .int .u8 y.a] 101)).drewN q)) := drewN_bel ((hb1.mono (by omega)).alloc (by have := hb1.size; omega) _)
       have HK2 : Hid (Kt ktA w ((w1.alloc (.cells #[.int .u8 y.n, .int .i64 y.k, .int .i64 y.p, .string y.h, .int .i64 y.f, .int .u8 y.a] 101)).drewN q)) := ((Kt.of_below hb1).trans (Kt.of_below ((Below.refl _ w1).alloc (Nat.le_refl _) _))).trans (Kt.of_heap rfl)
       have hlb : LB ((w1.alloc (.cells #[.int .u8 y.n, .int .i64 y.k, .int .i64 y.p, .string y.h, .int .i64 y.f, .int .u8 y.a] 101)).drewN q) w1.heap.size y := LB.new w1 y
       generalize (w1.alloc (.cells #[.int .u8 y.n, .int .i64 y.k, .int .i64 y.p, .string y.h, .int .i64 y.f, .int .u8 y.a] 101)).drewN q = W2 at *
       have y0 := hlb.c0
       have y1 := hlb.c1
       have y2 := hlb.c2
       have y3 := hlb.c3
       have y4 := hlb.c4
       have y5 := hlb.c5))
  go_ret
  exact ⟨rfl, HB2.out, HK2.out⟩
set_option maxRecDepth 100000 in
set_option maxHeartbeats 4000000 in
theorem letter_f {w : World} {r B : Nat} {ps : List Pq} {x : Pa} {lv : Value} {A : Option Addr} {c : Nat} (b : Nat) (hc : b < 256) (p : Int) (h : RSF w r B ps x lv A c) (hl : LtIn w) {y : Lt} (hy : letterOf (greatB (b : Int)) = some y) (hq : lacks x = false) (hf : followsK x y.k = false) :
    Calls Tryd.prog 71 #[.pointer (some ⟨r, 0, none⟩), .int .u8 (b : Int), .int .i64 p] w fun e w' => e = .returned (.bool false) ∧ Below B w w' ∧ Kt ktA w w' := by
  have H := Lib.hid h
  have HL := Lib.hid hl
  have HY := Lib.hid hy
  have hB := h.hB
  have hlt := h.lt
  have HQ := Lib.hid hq
  have HF := Lib.hid hf
  clear h hl hy hq hf
  go_enter Tryd.func71, Tryd.ntmps71
  go_wp2_with (first
    | (go_at_call 76; refine (great_any b hc _).mono ?_; rintro e w0 ⟨rfl, rfl⟩)
    | (go_at_call 73; refine (letterOf_yes HY.out HL.out).mono ?_; rintro e w1 ⟨rfl, hb1⟩
       have H1 := Lib.hid (H.out.below hb1)
       have hz1 := Lib.hid hb1.size)
    | (go_at_call 58; refine (lacks_any (H1.out.below ((Below.refl _ w1).alloc (Nat.le_refl _) (.cells #[.int .u8 y.n, .int .i64 y.k, .int .i64 y.p, .string y.h, .int .i64 y.f, .int .u8 y.a] 101)))).mono ?_; rw [HQ.out]; rintro e w2 ⟨rfl, q, rfl⟩
       have H2 := Lib.hid ((H1.out.below ((Below.refl _ w1).alloc (Nat.le_refl _) (.cells #[.int .u8 y.n, .int .i64 y.k, .int .i64 y.p, .string y.h, .int .i64 y.f, .int .u8 y.a] 101))).heap (w' := (w1.alloc (.cells #[.int .u8 y.n, .int .i64 y.k, .int .i64 y.p, .string y.h, .int .i64 y.f, .int .u8 y.a] 101)).drewN q) rfl)
       have HB2 : Hid (Below B w ((w1.alloc (.cells #[.int .u8 y.n, .int .i64 y.k, .int .i64 y.p, .string y.h, .int .i64 y.f, .int .u8 y.a] 101)).drewN q)) := drewN_bel ((hb1.mono (by omega)).alloc (by have := hb1.size; omega) _)
       have HK2 : Hid (Kt ktA w ((w1.alloc (.cells #[.int .u8 y.n, .int .i64 y.k, .int .i64 y.p, .string y.h, .int .i64 y.f, .int .u8 y.a] 101)).drewN q)) := ((Kt.of_below hb1).trans (Kt.of_below ((Below.refl _ w1).alloc (Nat.le_refl _) _))).trans (Kt.of_heap rfl)
       have hlb : LB ((w1.alloc (.cells #[.int .u8 y.n, .int .i64 y.k, .int .i64 y.p, .string y.h, .int .i64 y.f, .int .u8 y.a] 101)).drewN q) w1.heap.size y := LB.new w1 y
       generalize (w1.alloc (.cells #[.int .u8 y.n, .int .i64 y.k, .int .i64 y.p, .string y.h, .int .i64 y.f, .int .u8 y.a] 101)).drewN q = W2 at *
       have y0 := hlb.c0
       have y1 := hlb.c1
       have y2 := hlb.c2
       have y3 := hlb.c3
       have y4 := hlb.c4
       have y5 := hlb.c5)
    | (go_at_call 77; refine (follows_any y.k H2.out).mono ?_; rw [HF.out]; rintro e w3 ⟨rfl, rfl⟩))
  go_ret
  exact ⟨rfl, HB2.out, HK2.out⟩
set_option maxRecDepth 100000 in
set_option maxHeartbeats 4000000 in
theorem letter_y {w : World} {r B : Nat} {ps : List Pq} {x : Pa} {lv : Value} {A : Option Addr} {c : Nat} (b : Nat) (hc : b < 256) (p : Int) (h : RSF w r B ps x lv A c) (hl : LtIn w) {y : Lt} (hy : letterOf (greatB (b : Int)) = some y) (hq : lacks x = false) (hf : followsK x y.k = true) :
    Calls Tryd.prog 71 #[.pointer (some ⟨r, 0, none⟩), .int .u8 (b : Int), .int .i64 p] w fun e w' => e = .returned (.bool true) ∧ RS w' r B (beginR (ps.map (·.x), x) ⟨y, isSm (b : Int), p, []⟩) ∧ Below B w w' ∧ Kt ktA w w' := by
  have H := Lib.hid h
  have HL := Lib.hid hl
  have HY := Lib.hid hy
  have hB := h.hB
  have hlt := h.lt
  have HQ := Lib.hid hq
  have HF := Lib.hid hf
  clear h hl hy hq hf
  go_enter Tryd.func71, Tryd.ntmps71
  go_wp2_with (first
    | (go_at_call 76; refine (great_any b hc _).mono ?_; rintro e w0 ⟨rfl, rfl⟩)
    | (go_at_call 73; refine (letterOf_yes HY.out HL.out).mono ?_; rintro e w1 ⟨rfl, hb1⟩
       have H1 := Lib.hid (H.out.below hb1)
       have hz1 := Lib.hid hb1.size)
    | (go_at_call 58; refine (lacks_any (H1.out.below ((Below.refl _ w1).alloc (Nat.le_refl _) (.cells #[.int .u8 y.n, .int .i64 y.k, .int .i64 y.p, .string y.h, .int .i64 y.f, .int .u8 y.a] 101)))).mono ?_; rw [HQ.out]; rintro e w2 ⟨rfl, q, rfl⟩
       have H2 := Lib.hid ((H1.out.below ((Below.refl _ w1).alloc (Nat.le_refl _) (.cells #[.int .u8 y.n, .int .i64 y.k, .int .i64 y.p, .string y.h, .int .i64 y.f, .int .u8 y.a] 101))).heap (w' := (w1.alloc (.cells #[.int .u8 y.n, .int .i64 y.k, .int .i64 y.p, .string y.h, .int .i64 y.f, .int .u8 y.a] 101)).drewN q) rfl)
       have HB2 : Hid (Below B w ((w1.alloc (.cells #[.int .u8 y.n, .int .i64 y.k, .int .i64 y.p, .string y.h, .int .i64 y.f, .int .u8 y.a] 101)).drewN q)) := drewN_bel ((hb1.mono (by omega)).alloc (by have := hb1.size; omega) _)
       have HK2 : Hid (Kt ktA w ((w1.alloc (.cells #[.int .u8 y.n, .int .i64 y.k, .int .i64 y.p, .string y.h, .int .i64 y.f, .int .u8 y.a] 101)).drewN q)) := ((Kt.of_below hb1).trans (Kt.of_below ((Below.refl _ w1).alloc (Nat.le_refl _) _))).trans (Kt.of_heap rfl)
       have hlb : LB ((w1.alloc (.cells #[.int .u8 y.n, .int .i64 y.k, .int .i64 y.p, .string y.h, .int .i64 y.f, .int .u8 y.a] 101)).drewN q) w1.heap.size y := LB.new w1 y
       generalize (w1.alloc (.cells #[.int .u8 y.n, .int .i64 y.k, .int .i64 y.p, .string y.h, .int .i64 y.f, .int .u8 y.a] 101)).drewN q = W2 at *
       have y0 := hlb.c0
       have y1 := hlb.c1
       have y2 := hlb.c2
       have y3 := hlb.c3
       have y4 := hlb.c4
       have y5 := hlb.c5)
    | (go_at_call 77; refine (follows_any y.k H2.out).mono ?_; rw [HF.out]; rintro e w3 ⟨rfl, rfl⟩)
    | (go_at_call 74; refine (begin_any ⟨y, isSm (b : Int), p, []⟩ H2.out rfl (List.mem_cons_of_mem _ (letterOf_mem HY.out))).mono ?_; rintro e w4 ⟨rfl, hrs, hb4, hk4⟩))
  go_ret
  exact ⟨rfl, hrs, HB2.out.trans hb4, HK2.out.trans hk4⟩
theorem letter_no {w : World} {r B : Nat} {S : RSt} (b : Nat) (hc : b < 256) (p : Int) (h : RS w r B S) (hl : LtIn w) (hn : letterR S (b : Int) p = none) :
    Calls Tryd.prog 71 #[.pointer (some ⟨r, 0, none⟩), .int .u8 (b : Int), .int .i64 p] w fun e w' => e = .returned (.bool false) ∧ Below B w w' ∧ Kt ktA w w' := by
  obtain ⟨ps, lv, A, c, hps, h⟩ := h
  unfold letterR at hn
  cases hy : letterOf (greatB (b : Int)) with
  | none => exact letter_n b hc p h hl hy
  | some y =>
    rw [hy] at hn
    simp only at hn
    split at hn
    · rename_i hc2
      cases hq : lacks S.2 with
      | true => exact letter_l b hc p h hl hy hq
      | false =>
        rw [hq] at hc2
        exact letter_f b hc p h hl hy hq (by simpa using hc2)
    · cases hn
theorem letter_ok {w : World} {r B : Nat} {S S' : RSt} (b : Nat) (hc : b < 256) (p : Int) (h : RS w r B S) (hl : LtIn w) (hn : letterR S (b : Int) p = some S') :
    Calls Tryd.prog 71 #[.pointer (some ⟨r, 0, none⟩), .int .u8 (b : Int), .int .i64 p] w fun e w' => e = .returned (.bool true) ∧ RS w' r B S' ∧ Below B w w' ∧ Kt ktA w w' := by
  obtain ⟨ps, lv, A, c, hps, h⟩ := h
  unfold letterR at hn
  cases hy : letterOf (greatB (b : Int)) with
  | none => rw [hy] at hn; cases hn
  | some y =>
    rw [hy] at hn
    simp only at hn
    split at hn
    · cases hn
    · rename_i hc2
      simp only [Bool.or_eq_true, not_or, Bool.not_eq_true, Bool.not_eq_true', Bool.not_eq_false] at hc2
      cases hn
      have := letter_y b hc p h hl hy hc2.1 hc2.2
      rw [← hps] at this
      exact this
end Go.Proofs.YtnapannphldglaaDoor
