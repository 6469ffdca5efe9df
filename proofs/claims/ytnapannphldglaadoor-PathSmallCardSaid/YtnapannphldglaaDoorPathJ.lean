/- The pen: what it holds; where a part begins. -/
import Derived.Test.YtnapannphldglaaDoorPathI
namespace Go.Proofs.YtnapannphldglaaDoor
open Go Go.RowKit

/-- A drawn part. -/
structure Sg where
  k : Int
  v0 : Int
  v1 : Int
  v2 : Int
  v3 : Int
  v4 : Int
  v5 : Int
  w : Int
deriving DecidableEq
def Sg.get (s : Sg) : Nat → Int
  | 0 => s.v0
  | 1 => s.v1
  | 2 => s.v2
  | 3 => s.v3
  | 4 => s.v4
  | _ => s.v5
def Sg.set (s : Sg) (i : Nat) (n : Int) : Sg := match i with
  | 0 => { s with v0 := n }
  | 1 => { s with v1 := n }
  | 2 => { s with v2 := n }
  | 3 => { s with v3 := n }
  | 4 => { s with v4 := n }
  | _ => { s with v5 := n }
def Sg.v (s : Sg) : List Value := [.int .i64 s.k, .int .i64 s.v0, .int .i64 s.v1, .int .i64 s.v2, .int .i64 s.v3, .int .i64 s.v4, .int .i64 s.v5, .int .i64 s.w]
def sgCells (l : List Sg) : List Value := l.flatMap Sg.v
structure Pn where
  l : List Sg
  a : Int
  b : Int
  c : Int
  d : Int
theorem sgCells_len (l : List Sg) : (sgCells l).length = l.length * 8 := by
  induction l with
  | nil => rfl
  | cons x l ih => show (x.v ++ sgCells l).length = _; rw [List.length_append, ih]; simp [Sg.v]; omega
theorem sgCells_snoc (l : List Sg) (s : Sg) : sgCells (l ++ [s]) = sgCells l ++ s.v := by simp [sgCells]
theorem sgCells_get : ∀ (l : List Sg) (i : Nat) (s : Sg), l[i]? = some s → ∀ f, f < 8 → (sgCells l)[i * 8 + f]? = s.v[f]?
  | [], i, s, h, _, _ => by simp at h
  | x :: l, 0, s, h, f, hf => by
    have : x = s := by simpa using h
    subst this
    show (x.v ++ sgCells l)[0 * 8 + f]? = _
    rw [List.getElem?_append_left (by simp [Sg.v]; omega)]
    simp
  | x :: l, i + 1, s, h, f, hf => by
    have := sgCells_get l i s (by simpa using h) f hf
    show (x.v ++ sgCells l)[(i + 1) * 8 + f]? = _
    rw [List.getElem?_append_right (by simp [Sg.v]; omega), ← this]
    congr 1
    simp [Sg.v]
    omega
/-- Block g holds a part. -/
def SB (W : World) (g : Nat) (s : Sg) : Prop := W.heap[g]? = some (.cells #[.int .i64 s.k, .int .i64 s.v0, .int .i64 s.v1, .int .i64 s.v2, .int .i64 s.v3, .int .i64 s.v4, .int .i64 s.v5, .int .i64 s.w] 27 (0, 0))
section
variable {W W' : World} {g : Nat} {s : Sg}
theorem SB.lt (h : SB W g s) : g < W.heap.size := heap_none h
theorem SB.new (w : World) (s : Sg) : SB (w.alloc (.cells #[.int .i64 s.k, .int .i64 s.v0, .int .i64 s.v1, .int .i64 s.v2, .int .i64 s.v3, .int .i64 s.v4, .int .i64 s.v5, .int .i64 s.w] 27)) w.heap.size s := heap_alloc_new w _
theorem SB.fz (h : SB W g s) (i : Nat) : W.frozen? ⟨g, i, none⟩ = false := frozen_of_row W g i _ _ h
theorem SB.c0 (h : SB W g s) : W.cell? ⟨g, 0, none⟩ = some (.int .i64 s.k) := by rw [cell_of_row W g 0 _ _ (0, 0) h]; rfl
theorem SB.c1 (h : SB W g s) : W.cell? ⟨g, 1, none⟩ = some (.int .i64 s.v0) := by rw [cell_of_row W g 1 _ _ (0, 0) h]; rfl
theorem SB.c2 (h : SB W g s) : W.cell? ⟨g, 2, none⟩ = some (.int .i64 s.v1) := by rw [cell_of_row W g 2 _ _ (0, 0) h]; rfl
theorem SB.c3 (h : SB W g s) : W.cell? ⟨g, 3, none⟩ = some (.int .i64 s.v2) := by rw [cell_of_row W g 3 _ _ (0, 0) h]; rfl
theorem SB.c4 (h : SB W g s) : W.cell? ⟨g, 4, none⟩ = some (.int .i64 s.v3) := by rw [cell_of_row W g 4 _ _ (0, 0) h]; rfl
theorem SB.c5 (h : SB W g s) : W.cell? ⟨g, 5, none⟩ = some (.int .i64 s.v4) := by rw [cell_of_row W g 5 _ _ (0, 0) h]; rfl
theorem SB.c6 (h : SB W g s) : W.cell? ⟨g, 6, none⟩ = some (.int .i64 s.v5) := by rw [cell_of_row W g 6 _ _ (0, 0) h]; rfl
theorem SB.c7 (h : SB W g s) : W.cell? ⟨g, 7, none⟩ = some (.int .i64 s.w) := by rw [cell_of_row W g 7 _ _ (0, 0) h]; rfl
theorem SB.get (h : SB W g s) {i : Nat} (hi : i < 6) : W.cell? ⟨g, 1 + i, none⟩ = some (.int .i64 (s.get i)) := by
  match i, hi with
  | 0, _ => exact h.c1
  | 1, _ => exact h.c2
  | 2, _ => exact h.c3
  | 3, _ => exact h.c4
  | 4, _ => exact h.c5
  | 5, _ => exact h.c6
theorem SB.put (h : SB W g s) {i : Nat} (hi : i < 6) (n : Int) : SB (W.setCell ⟨g, 1 + i, none⟩ (.int .i64 n)) g (s.set i n) := by
  have := heap_setCell_same W g (1 + i) _ _ (.int .i64 n) h
  match i, hi with
  | 0, _ => exact this
  | 1, _ => exact this
  | 2, _ => exact this
  | 3, _ => exact this
  | 4, _ => exact this
  | 5, _ => exact this
theorem SB.putw (h : SB W g s) (n : Int) : SB (W.setCell ⟨g, 7, none⟩ (.int .i64 n)) g { s with w := n } := heap_setCell_same W g 7 _ _ (.int .i64 n) h
theorem SB.kt {ts : List TypeId} (h : SB W g s) (hk : Kt ts W W') (ht : 27 ∉ ts) : SB W' g s := hk _ _ _ _ h ht
theorem SB.below (h : SB W g s) {B : Nat} (hb : Below B W W') (hg : g < B) : SB W' g s := (hb.block g hg).trans h
end

/-- The pen, as it lies in block g. -/
structure PSF (w : World) (g B : Nat) (P : Pn) (A : Option Addr) (c : Nat) : Prop where
  box : w.heap[g]? = some (.cells #[.slice A P.l.length c, .int .i64 P.a, .int .i64 P.b, .int .i64 P.c, .int .i64 P.d] 99 (0, 0))
  hB : B ≤ g
  own : w.ownsRow B 27 8 (.slice A P.l.length c) P.l.length (sgCells P.l)
  most : P.l.length ≤ 4096
section
variable {w w' : World} {g B : Nat} {P : Pn} {A : Option Addr} {c : Nat}
theorem PSF.lt (h : PSF w g B P A c) : g < w.heap.size := heap_none h.box
theorem PSF.kt {ts : List TypeId} (h : PSF w g B P A c) (hk : Kt ts w w') (ht : 99 ∉ ts ∧ 27 ∉ ts) : PSF w' g B P A c :=
  ⟨hk _ _ _ _ h.box ht.1, h.hB, row_kept h.own fun _ _ _ ⟨_, hc⟩ => (hk _ _ _ _ hc ht.2).trans hc.symm, h.most⟩
theorem PSF.below (h : PSF w g B P A c) (hb : Below w.heap.size w w') : PSF w' g B P A c := h.kt (ts := []) (Kt.of_below hb) ⟨by decide, by decide⟩
theorem PSF.heap (h : PSF w g B P A c) (hh : w'.heap = w.heap) : PSF w' g B P A c := h.kt (ts := []) (Kt.of_heap hh) ⟨by decide, by decide⟩
theorem PSF.c0 (h : PSF w g B P A c) : w.cell? ⟨g, 0, none⟩ = some (.slice A P.l.length c) := by rw [cell_of_row w g 0 _ _ (0, 0) h.box]; rfl
theorem PSF.c1 (h : PSF w g B P A c) : w.cell? ⟨g, 1, none⟩ = some (.int .i64 P.a) := by rw [cell_of_row w g 1 _ _ (0, 0) h.box]; rfl
theorem PSF.c2 (h : PSF w g B P A c) : w.cell? ⟨g, 2, none⟩ = some (.int .i64 P.b) := by rw [cell_of_row w g 2 _ _ (0, 0) h.box]; rfl
theorem PSF.c3 (h : PSF w g B P A c) : w.cell? ⟨g, 3, none⟩ = some (.int .i64 P.c) := by rw [cell_of_row w g 3 _ _ (0, 0) h.box]; rfl
theorem PSF.c4 (h : PSF w g B P A c) : w.cell? ⟨g, 4, none⟩ = some (.int .i64 P.d) := by rw [cell_of_row w g 4 _ _ (0, 0) h.box]; rfl
theorem PSF.fz (h : PSF w g B P A c) (i : Nat) : w.frozen? ⟨g, i, none⟩ = false := frozen_of_row w g i _ _ h.box
theorem PSF.at_ (h : PSF w g B P A c) {i : Nat} {s : Sg} (hi : P.l[i]? = some s) : ∃ b, A = some ⟨b, 0, none⟩ ∧ b < w.heap.size ∧ ∀ f u, s.v[f]? = some u → w.cell? ⟨b, i * 8 + f, none⟩ = some u := by
  have hlt : i < P.l.length := (List.getElem?_eq_some_iff.1 hi).1
  rcases h.own.2 with ⟨hv, h0⟩ | ⟨b, cap, cur, hv, _⟩
  · omega
  · have hA : A = some ⟨b, 0, none⟩ := by injection hv
    subst hA
    refine ⟨b, rfl, (h.own.lt b rfl).2, fun f u hu => ?_⟩
    have hf : f < 8 := by
      have := (List.getElem?_eq_some_iff.1 hu).1
      simpa [Sg.v] using this
    exact (h.own.cellAt (i * 8 + f) (by omega)).trans ((sgCells_get _ _ _ hi f hf).trans hu)
end
/-- Where a part's first point is ahead of its numbers. -/
def lastK (P : Pn) (k : Int) : Option Sg := match P.l.getLast? with
  | some s => if s.k = k then some s else none
  | none => none
def firstP (P : Pn) (L : Lt) : Int × Int := if L.f = 0 then (0, 0) else if L.f = 2 then (match lastK P L.k with
  | some s => (2 * P.a - s.get (2 * L.p - 4).toNat, 2 * P.b - s.get (2 * L.p - 3).toNat)
  | none => (P.a, P.b)) else (P.a, P.b)
def inC (n : Int) : Prop := -2147483648 < n ∧ n < 2147483648
set_option maxRecDepth 100000 in
set_option maxHeartbeats 4000000 in
theorem first_0 {w : World} {g B : Nat} {P : Pn} {A : Option Addr} {c : Nat} {L : Lt} (_h : PSF w g B P A c) (hf : L.f = 0) :
    Calls Tryd.prog 59 #[.pointer (some ⟨g, 0, none⟩), .agg #[.int .u8 L.n, .int .i64 L.k, .int .i64 L.p, .string L.h, .int .i64 L.f, .int .u8 L.a]] w fun e w' => e = .returned (.tuple #[.int .i64 0, .int .i64 0]) ∧ Below w.heap.size w w' := by
  go_enter Tryd.func59, Tryd.ntmps59
  go_wp2
  go_ret2
  exact ⟨rfl, (Below.refl _ _).alloc (Nat.le_refl _) _⟩
set_option maxRecDepth 100000 in
set_option maxHeartbeats 4000000 in
theorem first_1 {w : World} {g B : Nat} {P : Pn} {A : Option Addr} {c : Nat} {L : Lt} (h : PSF w g B P A c) (hf : L.f = 1) :
    Calls Tryd.prog 59 #[.pointer (some ⟨g, 0, none⟩), .agg #[.int .u8 L.n, .int .i64 L.k, .int .i64 L.p, .string L.h, .int .i64 L.f, .int .u8 L.a]] w fun e w' => e = .returned (.tuple #[.int .i64 P.a, .int .i64 P.b]) ∧ Below w.heap.size w w' := by
  have p1 := h.c1
  have p2 := h.c2
  have hlt := h.lt
  clear h
  go_enter Tryd.func59, Tryd.ntmps59
  go_wp2
  go_quiet (fail)
  go_wp2
  go_quiet (fail)
  go_wp2
  go_ret2
  exact ⟨rfl, drewN_bel (drewN_bel ((Below.refl _ _).alloc (Nat.le_refl _) _))⟩
theorem last_at {P : Pn} {s : Sg} (h : P.l.getLast? = some s) : P.l[P.l.length - 1]? = some s ∧ 0 < P.l.length := by
  rw [List.getLast?_eq_getElem?] at h
  refine ⟨h, ?_⟩
  have := (List.getElem?_eq_some_iff.1 h).1
  omega
set_option maxRecDepth 100000 in
set_option maxHeartbeats 4000000 in
theorem first_2 {w : World} {g B : Nat} {P : Pn} {A : Option Addr} {c : Nat} {L : Lt} {s : Sg} (h : PSF w g B P A c) (hf : L.f = 2) (hs : P.l.getLast? = some s) (hk : ¬ s.k = L.k) :
    Calls Tryd.prog 59 #[.pointer (some ⟨g, 0, none⟩), .agg #[.int .u8 L.n, .int .i64 L.k, .int .i64 L.p, .string L.h, .int .i64 L.f, .int .u8 L.a]] w fun e w' => e = .returned (.tuple #[.int .i64 P.a, .int .i64 P.b]) ∧ Below w.heap.size w w' := by
  obtain ⟨hl1, hl2⟩ := last_at hs
  obtain ⟨b, rfl, hbw, hc⟩ := h.at_ hl1
  have p0 := h.c0
  have p1 := h.c1
  have p2 := h.c2
  have hlt := h.lt
  have s0 := hc 0 _ rfl
  have hm := h.most
  obtain ⟨m, hm1⟩ : ∃ m, P.l.length = m + 1 := ⟨P.l.length - 1, by omega⟩
  rw [hm1] at p0 s0
  rw [Nat.add_sub_cancel, Nat.add_zero] at s0
  have hm2 : m ≤ 4095 := by omega
  clear h hc hl1 hl2 hs hm1 hm
  go_enter Tryd.func59, Tryd.ntmps59
  go_wp2
  go_quiet (fail)
  go_wp2
  go_quiet (fail)
  go_wp2
  go_ret2
  exact ⟨rfl, drewN_bel (drewN_bel ((Below.refl _ _).alloc (Nat.le_refl _) _))⟩
set_option maxRecDepth 100000 in
set_option maxHeartbeats 4000000 in
theorem first_3 {w : World} {g B : Nat} {P : Pn} {A : Option Addr} {c : Nat} {L : Lt} {s : Sg} (j : Nat) (h : PSF w g B P A c) (hf : L.f = 2) (hs : P.l.getLast? = some s) (hk : s.k = L.k) (hj : 2 * L.p - 4 = (j : Int)) (hj5 : j < 5) (ha : inC P.a) (hb : inC P.b) (hv : ∀ i, inC (s.get i)) :
    Calls Tryd.prog 59 #[.pointer (some ⟨g, 0, none⟩), .agg #[.int .u8 L.n, .int .i64 L.k, .int .i64 L.p, .string L.h, .int .i64 L.f, .int .u8 L.a]] w fun e w' => e = .returned (.tuple #[.int .i64 (2 * P.a - s.get j), .int .i64 (2 * P.b - s.get (j + 1))]) ∧ Below w.heap.size w w' := by
  obtain ⟨hl1, hl2⟩ := last_at hs
  obtain ⟨b, rfl, hbw, hc⟩ := h.at_ hl1
  have p0 := h.c0
  have p1 := h.c1
  have p2 := h.c2
  have hlt := h.lt
  have s0 := hc 0 _ rfl
  have s1 := hc 1 _ rfl
  have s2 := hc 2 _ rfl
  have s3 := hc 3 _ rfl
  have s4 := hc 4 _ rfl
  have s5 := hc 5 _ rfl
  have s6 := hc 6 _ rfl
  have hm := h.most
  obtain ⟨m, hm1⟩ : ∃ m, P.l.length = m + 1 := ⟨P.l.length - 1, by omega⟩
  rw [hm1] at p0 s0 s1 s2 s3 s4 s5 s6
  rw [Nat.add_sub_cancel] at s0 s1 s2 s3 s4 s5 s6
  rw [Nat.add_zero] at s0
  have hm2 : m ≤ 4095 := by omega
  rw [hk] at s0
  have HF := Lib.hid hf
  have HJ := Lib.hid hj
  clear h hc hl1 hl2 hs hm1 hm hk
  go_enter Tryd.func59, Tryd.ntmps59
  go_wp2
  go_quiet (fail)
  go_wp2
  go_region
  go_wp2
  have hbW : ∀ (W1 : World) (o : Obj), Below w.heap.size w W1 → W1.heap.size = w.heap.size + 1 → Below w.heap.size w (W1.alloc o) := fun W1 o h1 h2 => h1.alloc (by omega) o
  generalize hW : World.alloc _ (Obj.cells #[.int .i64 s.v0, .int .i64 s.v1, .int .i64 s.v2, .int .i64 s.v3, .int .i64 s.v4, .int .i64 s.v5] 25) = W
  have hsz1 : ∀ (q : Nat) (o : Obj), ((w.alloc o).drewN q).heap.size = w.heap.size + 1 := fun q o => by show (w.alloc o).heap.size = _; simp
  have hbl : Below w.heap.size w W := by rw [← hW]; exact (drewN_bel ((Below.refl _ w).alloc (Nat.le_refl _) _)).alloc (by rw [hsz1]; omega) _
  have hbx : W.heap[w.heap.size + 1]? = some (.cells #[.int .i64 s.v0, .int .i64 s.v1, .int .i64 s.v2, .int .i64 s.v3, .int .i64 s.v4, .int .i64 s.v5] 25 (0, 0)) := by
    rw [← hW, ← hsz1 (nq + 1) (.cells #[.int .u8 L.n, .int .i64 L.k, .int .i64 L.p, .string L.h, .int .i64 2, .int .u8 L.a] 101)]
    exact heap_alloc_new _ _
  have vj : ∀ i, i < 6 → W.cell? ⟨w.heap.size + 1, i, none⟩ = some (.int .i64 (s.get i)) := by
    intro i hi
    rw [cell_of_row W _ i _ _ (0, 0) hbx]
    match i, hi with
    | 0, _ => rfl
    | 1, _ => rfl
    | 2, _ => rfl
    | 3, _ => rfl
    | 4, _ => rfl
    | 5, _ => rfl
  have vj0 := vj j (by omega)
  have vj1 := vj (j + 1) (by omega)
  have q1 := (hbl.cell (p := ⟨g, 1, none⟩) hlt).trans p1
  have q2 := (hbl.cell (p := ⟨g, 2, none⟩) hlt).trans p2
  have hj1 := hv j
  have hj2 := hv (j + 1)
  unfold inC at ha hb hj1 hj2
  obtain ⟨ha1, ha2⟩ := ha
  obtain ⟨hb1, hb2⟩ := hb
  obtain ⟨hj3, hj4⟩ := hj1
  obtain ⟨hj6, hj7⟩ := hj2
  have HBL := Lib.hid hbl
  clear hW hbW hsz1 hbx vj hbl s0 s1 s2 s3 s4 s5 s6 p0 p1 p2 hv
  generalize hx0 : s.get j = x0 at vj0 hj3 hj4
  generalize hx1 : s.get (j + 1) = x1 at vj1 hj6 hj7
  replace hx0 := Lib.hid hx0
  replace hx1 := Lib.hid hx1
  go_quiet (fail)
  go_wp2
  go_ret2
  refine ⟨?_, drewN_bel HBL.out⟩
  rw [hx0.out, hx1.out]
  rfl
end Go.Proofs.YtnapannphldglaaDoor
