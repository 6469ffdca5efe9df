/- The pen draws a part. -/
import Derived.Test.YtnapannphldglaaDoorPathK
namespace Go.Proofs.YtnapannphldglaaDoor
open Go Go.RowKit

structure PnOk (P : Pn) : Prop where
  a : inC P.a
  b : inC P.b
  c : inC P.c
  d : inC P.d
  l : ∀ s ∈ P.l, ∀ i, inC (s.get i)
/-- A part that the pen may be handed. -/
structure PaOk (x : Pa) : Prop where
  L : x.L ∈ ltT
  n : x.ns.length ≤ x.L.h.size
  m : ∀ n ∈ x.ns, -4611686018427387904 ≤ n.n ∧ n.n ≤ 4611686018427387904
theorem lt_first : ∀ L ∈ ltT, L.f = 0 ∨ L.f = 1 ∨ L.f = 2 := by decide
theorem lt_mirror {L : Lt} (hL : L ∈ ltT) (h : L.f = 2) : ∃ j : Nat, 2 * L.p - 4 = (j : Int) ∧ j < 5 := by
  have hd : ∀ L ∈ ltT, L.f = 2 → 2 * L.p - 4 = ((2 * L.p - 4).toNat : Int) ∧ (2 * L.p - 4).toNat < 5 := by decide
  exact ⟨_, hd L hL h⟩
theorem lt_point {L : Lt} (hL : L ∈ ltT) (h : ¬ L.k = 6) : ∃ j : Nat, 2 * L.p - 2 = (j : Int) ∧ j < 5 := by
  have hd : ∀ L ∈ ltT, ¬ L.k = 6 → 2 * L.p - 2 = ((2 * L.p - 2).toNat : Int) ∧ (2 * L.p - 2).toNat < 5 := by decide
  exact ⟨_, hd L hL h⟩
theorem lt_byte {L : Lt} (hL : L ∈ ltT) {k : Nat} (hk : k < L.h.size) : (L.h[k]'hk).toNat = 119 ∨ ∃ i, i < 6 ∧ (L.h[k]'hk).toNat = 48 + i := by
  have hd : ∀ L ∈ ltT, ∀ c ∈ L.h.data.toList, c.toNat = 119 ∨ c.toNat - 48 < 6 ∧ c.toNat = 48 + (c.toNat - 48) := by decide
  rcases hd L hL (L.h[k]'hk) (by
    have : L.h.data.toList[k]'(by simpa using hk) = L.h[k]'hk := rfl
    rw [← this]; exact List.getElem_mem _) with h | h
  · exact .inl h
  · exact .inr ⟨_, h.1, h.2⟩
theorem lt_small : ∀ L ∈ ltT, L.h.size ≤ 6 := by decide
theorem NV.at_ {w : World} {A : Option Addr} {ns : List Nm} {i : Nat} {n : Nm} (h : NV w A ns) (hi : ns[i]? = some n) : ∃ b, A = some ⟨b, 0, none⟩ ∧ b < w.heap.size ∧ w.cell? ⟨b, i * 2, none⟩ = some (.int .i64 n.n) ∧ w.cell? ⟨b, i * 2 + 1, none⟩ = some (.int .i64 n.p) := by
  rcases h with h | ⟨g, cs, fr, hA, hg, hc⟩
  · rw [h] at hi; simp at hi
  · refine ⟨g, hA, heap_none hg, ?_, ?_⟩
    · rw [cell_of_row w g _ _ _ _ hg]; exact (hc i n hi).1
    · rw [cell_of_row w g _ _ _ _ hg]; exact (hc i n hi).2
theorem first_any {w : World} {g B : Nat} {P : Pn} {A : Option Addr} {c : Nat} {L : Lt} (h : PSF w g B P A c) (hL : L ∈ ltT) (hne : L.f = 2 → P.l ≠ []) (ok : PnOk P) :
    Calls Tryd.prog 59 #[.pointer (some ⟨g, 0, none⟩), .agg #[.int .u8 L.n, .int .i64 L.k, .int .i64 L.p, .string L.h, .int .i64 L.f, .int .u8 L.a]] w fun e w' => e = .returned (.tuple #[.int .i64 (firstP P L).1, .int .i64 (firstP P L).2]) ∧ Below w.heap.size w w' := by
  rcases lt_first L hL with h0 | h1 | h2
  · have e : firstP P L = (0, 0) := by unfold firstP; rw [if_pos h0]
    rw [e]; exact first_0 h h0
  · have e : firstP P L = (P.a, P.b) := by unfold firstP; rw [if_neg (by omega), if_neg (by omega)]
    rw [e]; exact first_1 h h1
  · have hn := hne h2
    obtain ⟨s, hs⟩ : ∃ s, P.l.getLast? = some s := ⟨_, List.getLast?_eq_some_getLast hn⟩
    by_cases hk : s.k = L.k
    · obtain ⟨j, hj, hj5⟩ := lt_mirror hL h2
      have e : firstP P L = (2 * P.a - s.get j, 2 * P.b - s.get (j + 1)) := by
        unfold firstP lastK
        rw [if_neg (by omega), if_pos h2, hs]
        simp only [hk, if_true]
        rw [hj, show 2 * L.p - 3 = ((j + 1 : Nat) : Int) by omega]
        rfl
      rw [e]; exact first_3 j h h2 hs hk hj hj5 ok.a ok.b (ok.l s (List.mem_of_getLast? hs))
    · have e : firstP P L = (P.a, P.b) := by
        unfold firstP lastK
        rw [if_neg (by omega), if_pos h2, hs]
        simp only [hk, if_false]
      rw [e]; exact first_2 h h2 hs hk
def numD (sm : Bool) (P : Pn) (c : Nat) (n : Nm) (s : Sg) : Except Int Sg :=
  if c = 119 then (if isW n.n then .ok { s with w := n.n } else .error n.p)
  else if isC (coordP P n.n (((c - 48 : Nat) : Int) % 2) sm) then .ok (s.set (c - 48) (coordP P n.n (((c - 48 : Nat) : Int) % 2) sm)) else .error n.p
def numsD (sm : Bool) (P : Pn) (s : Sg) : List (UInt8 × Nm) → Except Int Sg
  | [] => .ok s
  | x :: r => match numD sm P x.1.toNat x.2 s with
    | .error q => .error q
    | .ok s' => numsD sm P s' r
def pairsP (x : Pa) : List (UInt8 × Nm) := x.L.h.data.toList.zip x.ns
theorem numsD_app {sm : Bool} {P : Pn} (m : List (UInt8 × Nm)) : ∀ (l : List (UInt8 × Nm)) (s : Sg), numsD sm P s (l ++ m) = match numsD sm P s l with
    | .error q => .error q
    | .ok s' => numsD sm P s' m
  | [], s => rfl
  | t :: l, s => by
    rw [List.cons_append, numsD, numsD]
    cases numD sm P t.1.toNat t.2 s with
    | error q => rfl
    | ok s' => exact numsD_app m l s'
theorem numsD_hit {sm : Bool} {P : Pn} {s s1 s2 : Sg} {l : List (UInt8 × Nm)} {k : Nat} {t : UInt8 × Nm} (h : numsD sm P s (l.take k) = .ok s1) (hc : l[k]? = some t) (hn : numD sm P t.1.toNat t.2 s1 = .ok s2) : numsD sm P s (l.take (k + 1)) = .ok s2 := by
  obtain ⟨hl, he⟩ := List.getElem?_eq_some_iff.1 hc
  rw [List.take_succ_eq_append_getElem hl, he, numsD_app, h]
  simp [numsD, hn]
theorem numsD_miss {sm : Bool} {P : Pn} {s s1 : Sg} {l : List (UInt8 × Nm)} {k : Nat} {t : UInt8 × Nm} {q : Int} (h : numsD sm P s (l.take k) = .ok s1) (hc : l[k]? = some t) (hn : numD sm P t.1.toNat t.2 s1 = .error q) : numsD sm P s l = .error q := by
  obtain ⟨hl, he⟩ := List.getElem?_eq_some_iff.1 hc
  conv => lhs; rw [← List.take_append_drop k l]
  rw [numsD_app, h, List.drop_eq_getElem_cons hl, he]
  simp [numsD, hn]
theorem pairs_at {x : Pa} {k : Nat} {n : Nm} (hk : k < x.L.h.size) (hn : x.ns[k]? = some n) : (pairsP x)[k]? = some (x.L.h[k]'hk, n) := by
  unfold pairsP
  rw [List.getElem?_zip_eq_some]
  exact ⟨by rw [List.getElem?_eq_getElem (by simpa using hk)]; rfl, hn⟩
theorem pairs_len {x : Pa} (h : x.ns.length ≤ x.L.h.size) : (pairsP x).length = x.ns.length := by
  unfold pairsP
  rw [List.length_zip]
  have : x.L.h.data.toList.length = x.L.h.size := by simp
  omega
def seg0 (P : Pn) (x : Pa) : Sg := ⟨x.L.k, (firstP P x.L).1, (firstP P x.L).2, 0, 0, 0, 0, 0⟩
def drawP (P : Pn) (x : Pa) : Except (Int × Int) Pn :=
  if P.l.length = 4096 then .error (x.p, 22)
  else if isC (firstP P x.L).1 && isC (firstP P x.L).2 then match numsD x.s P (seg0 P x) (pairsP x) with
    | .error q => .error (q, 21)
    | .ok s => .ok (moveP { P with l := P.l ++ [s] } s x.L.p)
  else .error (x.p, 21)
/-- Block g holds a part, its numbers at A. -/
def PB (W : World) (g : Nat) (x : Pa) (A : Option Addr) (c : Nat) : Prop := W.heap[g]? = some (.cells #[.int .u8 x.L.n, .int .i64 x.L.k, .int .i64 x.L.p, .string x.L.h, .int .i64 x.L.f, .int .u8 x.L.a, .bool x.s, .int .i64 x.p, .slice A x.ns.length c] 104 (0, 0))
section
variable {W W' : World} {g : Nat} {x : Pa} {A : Option Addr} {c : Nat}
theorem PB.new (w : World) (x : Pa) (A : Option Addr) (c : Nat) : PB (w.alloc (.cells #[.int .u8 x.L.n, .int .i64 x.L.k, .int .i64 x.L.p, .string x.L.h, .int .i64 x.L.f, .int .u8 x.L.a, .bool x.s, .int .i64 x.p, .slice A x.ns.length c] 104)) w.heap.size x A c := heap_alloc_new w _
theorem PB.lt (h : PB W g x A c) : g < W.heap.size := heap_none h
theorem PB.below (h : PB W g x A c) {B : Nat} (hb : Below B W W') (hg : g < B) : PB W' g x A c := (hb.block g hg).trans h
theorem PB.c0 (h : PB W g x A c) : W.cell? ⟨g, 0, none⟩ = some (.int .u8 x.L.n) := by rw [cell_of_row W g 0 _ _ (0, 0) h]; rfl
theorem PB.c1 (h : PB W g x A c) : W.cell? ⟨g, 1, none⟩ = some (.int .i64 x.L.k) := by rw [cell_of_row W g 1 _ _ (0, 0) h]; rfl
theorem PB.c2 (h : PB W g x A c) : W.cell? ⟨g, 2, none⟩ = some (.int .i64 x.L.p) := by rw [cell_of_row W g 2 _ _ (0, 0) h]; rfl
theorem PB.c3 (h : PB W g x A c) : W.cell? ⟨g, 3, none⟩ = some (.string x.L.h) := by rw [cell_of_row W g 3 _ _ (0, 0) h]; rfl
theorem PB.c4 (h : PB W g x A c) : W.cell? ⟨g, 4, none⟩ = some (.int .i64 x.L.f) := by rw [cell_of_row W g 4 _ _ (0, 0) h]; rfl
theorem PB.c5 (h : PB W g x A c) : W.cell? ⟨g, 5, none⟩ = some (.int .u8 x.L.a) := by rw [cell_of_row W g 5 _ _ (0, 0) h]; rfl
theorem PB.c6 (h : PB W g x A c) : W.cell? ⟨g, 6, none⟩ = some (.bool x.s) := by rw [cell_of_row W g 6 _ _ (0, 0) h]; rfl
theorem PB.c7 (h : PB W g x A c) : W.cell? ⟨g, 7, none⟩ = some (.int .i64 x.p) := by rw [cell_of_row W g 7 _ _ (0, 0) h]; rfl
theorem PB.c8 (h : PB W g x A c) : W.cell? ⟨g, 8, none⟩ = some (.slice A x.ns.length c) := by rw [cell_of_row W g 8 _ _ (0, 0) h]; rfl
end
theorem isC_in {n : Int} : isC n = true ↔ inC n := isC_iff
set_option maxRecDepth 100000 in
set_option maxHeartbeats 4000000 in
theorem draw_lim {w : World} {g B : Nat} {P : Pn} {A : Option Addr} {c : Nat} {x : Pa} {An : Option Addr} {cn : Nat} (h : PSF w g B P A c) (hl : P.l.length = 4096) :
    Calls Tryd.prog 38 #[.pointer (some ⟨g, 0, none⟩), .agg #[.int .u8 x.L.n, .int .i64 x.L.k, .int .i64 x.L.p, .string x.L.h, .int .i64 x.L.f, .int .u8 x.L.a, .bool x.s, .int .i64 x.p, .slice An x.ns.length cn]] w fun e w' => e = .returned (.tuple #[.int .i64 x.p, .int .i64 22]) ∧ Below w.heap.size w w' := by
  have p0 := h.c0
  rw [hl] at p0
  have hlt := h.lt
  clear h hl
  go_enter Tryd.func38, Tryd.ntmps38
  go_wp2
  go_ret2
  exact ⟨rfl, (Below.refl _ _).alloc (Nat.le_refl _) _⟩
end Go.Proofs.YtnapannphldglaaDoor
