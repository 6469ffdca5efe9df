/- The pen: a coordinate, where it stands behind a part, a part more. -/
import Derived.Test.YtnapannphldglaaDoorPathJ
namespace Go.Proofs.YtnapannphldglaaDoor
open Go Go.RowKit

def coordP (P : Pn) (n ax : Int) (small : Bool) : Int := if small then (if ax = 0 then P.a else P.b) + n else n
set_option maxRecDepth 100000 in
theorem coord_any {w : World} {g B : Nat} {P : Pn} {A : Option Addr} {c : Nat} (n ax : Int) (small : Bool) (h : PSF w g B P A c) (hx : ax = 0 ∨ ax = 1) (ha : inC P.a) (hb : inC P.b) (hn : -4611686018427387904 ≤ n ∧ n ≤ 4611686018427387904) :
    Calls Tryd.prog 60 #[.pointer (some ⟨g, 0, none⟩), .int .i64 n, .int .i64 ax, .bool small] w fun e w' => e = .returned (.int .i64 (coordP P n ax small)) ∧ w' = w := by
  have p1 := h.c1
  have p2 := h.c2
  unfold coordP
  obtain ⟨ha1, ha2⟩ := ha
  obtain ⟨hb1, hb2⟩ := hb
  obtain ⟨hn1, hn2⟩ := hn
  clear h
  cases small with
  | false =>
    go_enter Tryd.func60, Tryd.ntmps60
    go_wp2
    go_ret
    exact ⟨rfl, rfl⟩
  | true =>
    rcases hx with rfl | rfl
    · go_enter Tryd.func60, Tryd.ntmps60
      go_wp2
      go_ret
      exact ⟨rfl, rfl⟩
    · go_enter Tryd.func60, Tryd.ntmps60
      go_wp2
      go_ret
      exact ⟨rfl, rfl⟩
def moveP (P : Pn) (s : Sg) (p : Int) : Pn := if s.k = 6 then { P with a := P.c, b := P.d } else if s.k = 1 then ⟨P.l, s.get (2 * p - 2).toNat, s.get (2 * p - 1).toNat, s.get (2 * p - 2).toNat, s.get (2 * p - 1).toNat⟩ else { P with a := s.get (2 * p - 2).toNat, b := s.get (2 * p - 1).toNat }
theorem PSF.set {w : World} {g B : Nat} {P : Pn} {A : Option Addr} {c : Nat} (h : PSF w g B P A c) (x y : Int) : PSF ((w.setCell ⟨g, 1, none⟩ (.int .i64 x)).setCell ⟨g, 2, none⟩ (.int .i64 y)) g B { P with a := x, b := y } A c := by
  have h1 := heap_setCell_same w g 1 _ _ (.int .i64 x) h.box
  have h2 := heap_setCell_same _ g 2 _ _ (.int .i64 y) h1
  refine ⟨h2, h.hB, row_kept h.own fun b hb _ ⟨cs, hc⟩ => ?_, h.most⟩
  have : b ≠ g := by rintro rfl; rw [h.box] at hc; cases hc
  rw [Below.heap_setCell _ _ _ _ this, Below.heap_setCell _ _ _ _ this]
theorem PSF.setm {w : World} {g B : Nat} {P : Pn} {A : Option Addr} {c : Nat} (h : PSF w g B P A c) (x y : Int) : PSF ((w.setCell ⟨g, 3, none⟩ (.int .i64 x)).setCell ⟨g, 4, none⟩ (.int .i64 y)) g B { P with c := x, d := y } A c := by
  have h1 := heap_setCell_same w g 3 _ _ (.int .i64 x) h.box
  have h2 := heap_setCell_same _ g 4 _ _ (.int .i64 y) h1
  refine ⟨h2, h.hB, row_kept h.own fun b hb _ ⟨cs, hc⟩ => ?_, h.most⟩
  have : b ≠ g := by rintro rfl; rw [h.box] at hc; cases hc
  rw [Below.heap_setCell _ _ _ _ this, Below.heap_setCell _ _ _ _ this]
/-- What move may write. -/
abbrev ktP : List TypeId := [99, 27]
set_option maxRecDepth 100000 in
set_option maxHeartbeats 4000000 in
theorem move_6 {w : World} {g B : Nat} {P : Pn} {A : Option Addr} {c : Nat} {s : Sg} (p : Int) (h : PSF w g B P A c) (hk : s.k = 6) :
    Calls Tryd.prog 61 #[.pointer (some ⟨g, 0, none⟩), .agg #[.int .i64 s.k, .int .i64 s.v0, .int .i64 s.v1, .int .i64 s.v2, .int .i64 s.v3, .int .i64 s.v4, .int .i64 s.v5, .int .i64 s.w], .int .i64 p] w fun e w' => e = .returned (.tuple #[]) ∧ PSF w' g B (moveP P s p) A c ∧ Below B w w' := by
  have p1 := h.c1
  have p2 := h.c2
  have p3 := h.c3
  have p4 := h.c4
  have f1 := h.fz 1
  have f2 := h.fz 2
  have hlt := h.lt
  have hB := h.hB
  have H := Lib.hid h
  have HK := Lib.hid hk
  clear h
  go_enter Tryd.func61, Tryd.ntmps61
  go_wp2
  refine bodyPost_ret (results_none rfl _ _ _) rfl ⟨rfl, ?_, ?_⟩
  · have e : moveP P s p = { P with a := P.c, b := P.d } := by unfold moveP; rw [if_pos HK.out]
    rw [e]
    refine ((H.out.set P.c P.d).below ?_)
    exact (Below.refl _ _).alloc (Nat.le_refl _) _
  · exact (((Below.refl B w).setCell hB _).setCell hB _).alloc (by simp [World.setCell]; omega) _
set_option maxRecDepth 100000 in
set_option maxHeartbeats 4000000 in
theorem move_o {w : World} {g B : Nat} {P : Pn} {A : Option Addr} {c : Nat} {s : Sg} (p : Int) (j : Nat) (h : PSF w g B P A c) (hk : ¬ s.k = 6) (hj : 2 * p - 2 = (j : Int)) (hj5 : j < 5) (h1 : ¬ s.k = 1) :
    Calls Tryd.prog 61 #[.pointer (some ⟨g, 0, none⟩), .agg #[.int .i64 s.k, .int .i64 s.v0, .int .i64 s.v1, .int .i64 s.v2, .int .i64 s.v3, .int .i64 s.v4, .int .i64 s.v5, .int .i64 s.w], .int .i64 p] w fun e w' => e = .returned (.tuple #[]) ∧ PSF w' g B (moveP P s p) A c ∧ Below B w w' := by
  go_enter Tryd.func61, Tryd.ntmps61
  go_upto_region 1 with (fail)
  have hs := SB.new w s
  have hbl : Below w.heap.size w (w.alloc (.cells #[.int .i64 s.k, .int .i64 s.v0, .int .i64 s.v1, .int .i64 s.v2, .int .i64 s.v3, .int .i64 s.v4, .int .i64 s.v5, .int .i64 s.w] 27)) := (Below.refl _ w).alloc (Nat.le_refl _) _
  have hlt := h.lt
  replace h := h.below hbl
  have hz : w.heap.size < (w.alloc (.cells #[.int .i64 s.k, .int .i64 s.v0, .int .i64 s.v1, .int .i64 s.v2, .int .i64 s.v3, .int .i64 s.v4, .int .i64 s.v5, .int .i64 s.w] 27)).heap.size := by simp
  generalize w.alloc (.cells #[.int .i64 s.k, .int .i64 s.v0, .int .i64 s.v1, .int .i64 s.v2, .int .i64 s.v3, .int .i64 s.v4, .int .i64 s.v5, .int .i64 s.w] 27) = W at *
  have s0 := hs.c0
  have hsj := hs.get (i := j) (by omega)
  have hsj1 := hs.get (i := j + 1) (by omega)
  have p1 := h.c1
  have p2 := h.c2
  have p3 := h.c3
  have p4 := h.c4
  have f1 := h.fz 1
  have f2 := h.fz 2
  have hB := h.hB
  have H := Lib.hid h
  have HB := Lib.hid hbl
  have hj1 : 2 * p - 1 = (j : Int) + 1 := by omega
  have hne : ¬ w.heap.size = g := by omega
  clear h hs hbl
  go_wp2
  go_region
  go_wp2
  go_end0
  refine ⟨rfl, ?_, ?_⟩
  · have e : moveP P s p = { P with a := s.get j, b := s.get (j + 1) } := by
      unfold moveP
      rw [if_neg hk, if_neg h1, hj, hj1]
      rfl
    rw [e]
    exact (H.out.set (s.get j) (s.get (j + 1))).heap rfl
  · exact drewN_bel (n := 1) ((((HB.out.mono (by omega)).setCell hB _).setCell hB _))
set_option maxRecDepth 100000 in
set_option maxHeartbeats 4000000 in
theorem move_1 {w : World} {g B : Nat} {P : Pn} {A : Option Addr} {c : Nat} {s : Sg} (p : Int) (j : Nat) (h : PSF w g B P A c) (hj : 2 * p - 2 = (j : Int)) (hj5 : j < 5) (h1 : s.k = 1) :
    Calls Tryd.prog 61 #[.pointer (some ⟨g, 0, none⟩), .agg #[.int .i64 s.k, .int .i64 s.v0, .int .i64 s.v1, .int .i64 s.v2, .int .i64 s.v3, .int .i64 s.v4, .int .i64 s.v5, .int .i64 s.w], .int .i64 p] w fun e w' => e = .returned (.tuple #[]) ∧ PSF w' g B (moveP P s p) A c ∧ Below B w w' := by
  have H1 := Lib.hid h1
  clear h1
  go_enter Tryd.func61, Tryd.ntmps61
  go_upto_region 1 with (fail)
  have hs := SB.new w s
  have hbl : Below w.heap.size w (w.alloc (.cells #[.int .i64 s.k, .int .i64 s.v0, .int .i64 s.v1, .int .i64 s.v2, .int .i64 s.v3, .int .i64 s.v4, .int .i64 s.v5, .int .i64 s.w] 27)) := (Below.refl _ w).alloc (Nat.le_refl _) _
  have hlt := h.lt
  replace h := h.below hbl
  have hz : w.heap.size < (w.alloc (.cells #[.int .i64 s.k, .int .i64 s.v0, .int .i64 s.v1, .int .i64 s.v2, .int .i64 s.v3, .int .i64 s.v4, .int .i64 s.v5, .int .i64 s.w] 27)).heap.size := by simp
  generalize w.alloc (.cells #[.int .i64 s.k, .int .i64 s.v0, .int .i64 s.v1, .int .i64 s.v2, .int .i64 s.v3, .int .i64 s.v4, .int .i64 s.v5, .int .i64 s.w] 27) = W at *
  have s0 := hs.c0
  rw [H1.out] at s0
  have hsj := hs.get (i := j) (by omega)
  have hsj1 := hs.get (i := j + 1) (by omega)
  have p1 := h.c1
  have p2 := h.c2
  have p3 := h.c3
  have p4 := h.c4
  have f1 := h.fz 1
  have f2 := h.fz 2
  have f3 := h.fz 3
  have f4 := h.fz 4
  have hB := h.hB
  have H := Lib.hid h
  have HB := Lib.hid hbl
  have hj1 : 2 * p - 1 = (j : Int) + 1 := by omega
  have hne : ¬ w.heap.size = g := by omega
  clear h hs hbl
  go_wp2
  go_region
  go_wp2
  go_end0
  have hnk : ¬ s.k = 6 := by rw [H1.out]; decide
  refine ⟨rfl, ?_, ?_⟩
  · have e : moveP P s p = ⟨P.l, s.get j, s.get (j + 1), s.get j, s.get (j + 1)⟩ := by
      unfold moveP
      rw [if_neg hnk, if_pos H1.out, hj, hj1]
      rfl
    rw [e]
    exact ((H.out.set (s.get j) (s.get (j + 1))).setm (s.get j) (s.get (j + 1))).heap rfl
  · exact drewN_bel (n := 1) ((((((HB.out.mono (by omega)).setCell hB _).setCell hB _).setCell hB _).setCell hB _))
end Go.Proofs.YtnapannphldglaaDoor
