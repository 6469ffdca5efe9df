/- path's small functions by value; the reader in memory. -/
import Derived.Deep.AppendLies
import Derived.Deep.RegionLaw
import Derived.Laws.OwnMore
import Derived.Test.YtnapannphldglaaDoorPathA
namespace Go.Proofs.YtnapannphldglaaDoor
open Go Go.RowKit

theorem heap_none {w : World} {g : Nat} {o : Obj} (h : w.heap[g]? = some o) : g < w.heap.size := by
  rcases Nat.lt_or_ge g w.heap.size with q | q
  · exact q
  · rw [Array.getElem?_eq_none q] at h; cases h
theorem ret_b' {a b : Bool} (h : a = b) : Ending.returned (.bool a) = .returned (.bool b) := by rw [h]
theorem isSm_iff {c : Int} : isSm c = true ↔ 97 ≤ c ∧ c ≤ 122 := by simp [isSm]
set_option maxRecDepth 100000 in
set_option maxHeartbeats 1000000 in
theorem great_any (c : Nat) (hc : c < 256) (w : World) : Calls Tryd.prog 76 #[.int .u8 (c : Int)] w fun e w' => e = .returned (.tuple #[.int .u8 (greatB (c : Int)), .bool (isSm (c : Int))]) ∧ w = w' := by
  unfold greatB
  by_cases h : 97 ≤ c ∧ c ≤ 122
  · have h1 : isSm (c : Int) = true := by rw [isSm_iff]; omega
    rw [h1, if_pos rfl]
    obtain ⟨ha, hb⟩ := h
    have ha' : (97 : Int) ≤ (c : Int) := by omega
    have hb' : (c : Int) ≤ 122 := by omega
    clear h1
    go_enter Tryd.func76, Tryd.ntmps76
    go_wp2
    refine bodyPost_ret (v := .tuple #[.int .u8 ((c : Int) - 97 + 65), .bool true]) (by simp [results, Tryd.results76, go_sem]) rfl ⟨?_, rfl⟩
    rw [show (c : Int) - 97 + 65 = (c : Int) - 32 by omega]
  · have h1 : isSm (c : Int) = false := by
      cases e : isSm (c : Int) with
      | false => rfl
      | true => rw [isSm_iff] at e; omega
    rw [h1, if_neg (by decide)]
    clear h1
    by_cases ha : 97 ≤ c
    · have ha' : (97 : Int) ≤ (c : Int) := by omega
      have hb' : ¬ (c : Int) ≤ 122 := by omega
      go_enter Tryd.func76, Tryd.ntmps76
      go_wp2
      exact bodyPost_ret (v := .tuple #[.int .u8 (c : Int), .bool false]) (by simp [results, Tryd.results76, go_sem]) rfl ⟨rfl, rfl⟩
    · have ha' : ¬ (97 : Int) ≤ (c : Int) := by omega
      go_enter Tryd.func76, Tryd.ntmps76
      go_wp2
      exact bodyPost_ret (v := .tuple #[.int .u8 (c : Int), .bool false]) (by simp [results, Tryd.results76, go_sem]) rfl ⟨rfl, rfl⟩
def isC (n : Int) : Bool := decide (-2147483648 < n) && decide (n < 2147483648)
def isW (n : Int) : Bool := decide (1 ≤ n) && decide (n ≤ 4096)
theorem isC_iff {n : Int} : isC n = true ↔ -2147483648 < n ∧ n < 2147483648 := by simp [isC]
theorem isW_iff {n : Int} : isW n = true ↔ 1 ≤ n ∧ n ≤ 4096 := by simp [isW]
theorem isC_any (n : Int) (w : World) : Calls Tryd.prog 50 #[.int .i64 n] w fun e w' => e = .returned (.bool (isC n)) ∧ w = w' := by
  unfold isC
  go_enter Tryd.func50, Tryd.ntmps50
  by_cases h1 : -2147483648 < n
  · rw [decide_eq_true h1, Bool.true_and]
    go_wp2
    go_ret
    exact ⟨rfl, rfl⟩
  · rw [decide_eq_false h1, Bool.false_and]
    go_wp2
    go_ret
    exact ⟨rfl, rfl⟩
theorem isW_any (n : Int) (w : World) : Calls Tryd.prog 51 #[.int .i64 n] w fun e w' => e = .returned (.bool (isW n)) ∧ w = w' := by
  unfold isW
  go_enter Tryd.func51, Tryd.ntmps51
  by_cases h1 : 1 ≤ n
  · rw [decide_eq_true h1, Bool.true_and]
    go_wp2
    go_ret
    exact ⟨rfl, rfl⟩
  · rw [decide_eq_false h1, Bool.false_and]
    go_wp2
    go_ret
    exact ⟨rfl, rfl⟩
theorem slot_any (c : Nat) (h1 : 48 ≤ c) (h2 : c < 256) (w : World) : Calls Tryd.prog 48 #[.int .u8 (c : Int)] w fun e w' => e = .returned (.int .i64 ((c : Int) - 48)) ∧ w = w' := by
  go_enter Tryd.func48, Tryd.ntmps48
  go_wp2
  go_ret
  exact ⟨rfl, rfl⟩

theorem slot_i {c i : Nat} (hc : c = 48 + i) (hi : i < 6) (w : World) : Calls Tryd.prog 48 #[.int .u8 (c : Int)] w fun e w' => e = .returned (.int .i64 (i : Int)) ∧ w = w' := by
  refine (slot_any c (by omega) (by omega) w).mono fun e w' ⟨he, hw⟩ => ⟨?_, hw⟩
  rw [he, show ((c : Int) - 48) = (i : Int) by omega]
/-- Blocks of other types than these stay as they are. -/
def Kt (ts : List TypeId) (w w' : World) : Prop := ∀ (g : Nat) (cs : Array Value) (t : TypeId) (fr : Nat × Nat), w.heap[g]? = some (.cells cs t fr) → t ∉ ts → w'.heap[g]? = some (.cells cs t fr)
theorem Kt.trans {ts : List TypeId} {a b c : World} (h : Kt ts a b) (h2 : Kt ts b c) : Kt ts a c := fun g cs t fr hg ht => h2 g cs t fr (h g cs t fr hg ht) ht
theorem Kt.more {ts us : List TypeId} {a b : World} (h : Kt ts a b) (hu : ∀ t ∈ ts, t ∈ us) : Kt us a b := fun g cs t fr hg ht => h g cs t fr hg (fun e => ht (hu t e))
theorem Kt.of_below {ts : List TypeId} {a b : World} (h : Below a.heap.size a b) : Kt ts a b := fun g _ _ _ hg _ => (h.block g (heap_none hg)).trans hg
theorem Kt.of_heap {ts : List TypeId} {a b : World} (h : b.heap = a.heap) : Kt ts a b := fun g _ _ _ hg _ => by rw [h]; exact hg
theorem Kt.setCell {ts : List TypeId} {a b : World} {g : Nat} {cs : Array Value} {t : TypeId} {fr : Nat × Nat} (h : Kt ts a b) (hg : b.heap[g]? = some (.cells cs t fr)) (ht : t ∈ ts) (i : Nat) (v : Value) : Kt ts a (b.setCell ⟨g, i, none⟩ v) := fun k cs' t' fr' hk ht' => by
  have := h k cs' t' fr' hk ht'
  rw [Below.heap_setCell _ _ _ _ ?_]
  · exact this
  · rintro rfl; rw [hg] at this; cases this; exact ht' ht
theorem Kt.grown {ts : List TypeId} {a b c : World} {row : Option Nat} (h : Kt ts a b) (hg : b.grownBy c row) (hr : ∀ g, row = some g → ∃ (cs : Array Value) (t : TypeId) (fr : Nat × Nat), b.heap[g]? = some (.cells cs t fr) ∧ t ∈ ts) : Kt ts a c := fun k cs t fr hk ht => by
  have h1 := h k cs t fr hk ht
  refine (hg.block k (heap_none h1) fun e => ?_).trans h1
  obtain ⟨cs', t', fr', h2, h3⟩ := hr k e.symm
  rw [h1] at h2; cases h2; exact ht h3

/-! ### The reader in memory -/
def paCells (x : Pa) (A : Option Addr) (c : Nat) : List Value := [.int .u8 x.L.n, .int .i64 x.L.k, .int .i64 x.L.p, .string x.L.h, .int .i64 x.L.f, .int .u8 x.L.a, .bool x.s, .int .i64 x.p, .slice A x.ns.length c]
/-- A part, and where its numbers lie. -/
structure Pq where
  x : Pa
  A : Option Addr
  c : Nat
def Pq.cells (q : Pq) : List Value := paCells q.x q.A q.c
def pqCells (ps : List Pq) : List Value := ps.flatMap Pq.cells
def nmCells (ns : List Nm) : List Value := ns.flatMap Nm.v
/-- The slice at A reads as ns. -/
def NV (w : World) (A : Option Addr) (ns : List Nm) : Prop := ns = [] ∨ ∃ g cs fr, A = some ⟨g, 0, none⟩ ∧ w.heap[g]? = some (.cells cs 134 fr) ∧ ∀ i x, ns[i]? = some x → cs[i * 2]? = some (.int .i64 x.n) ∧ cs[i * 2 + 1]? = some (.int .i64 x.p)
theorem NV.kept {w w' : World} {A : Option Addr} {ns : List Nm} (h : NV w A ns) (hb : ∀ g, A = some ⟨g, 0, none⟩ → g < w.heap.size → (∃ cs fr, w.heap[g]? = some (.cells cs 134 fr)) → w'.heap[g]? = w.heap[g]?) : NV w' A ns := by
  rcases h with h | ⟨g, cs, fr, hA, hg, hc⟩
  · exact .inl h
  · exact .inr ⟨g, cs, fr, hA, (hb g hA (heap_none hg) ⟨cs, fr, hg⟩).trans hg, hc⟩
theorem row_kept {w w' : World} {B n k : Nat} {T : TypeId} {v : Value} {xs : List Value} (h : w.ownsRow B T k v n xs) (hb : ∀ g, v.ownBlock = some g → g < w.heap.size → (∃ cs, w.heap[g]? = some (.cells cs T (0, 0))) → w'.heap[g]? = w.heap[g]?) : w'.ownsRow B T k v n xs := by
  refine ⟨h.1, ?_⟩
  rcases h.2 with hn | ⟨g, cap, cur, rfl, h1, h2, h3⟩
  · exact .inl hn
  · exact .inr ⟨g, cap, cur, rfl, h1, (hb g rfl (heap_none h2) ⟨cur, h2⟩).trans h2, h3⟩

theorem row_sl {W : World} {base : Nat} {e : TypeId} {size k : Nat} {v : Value} {xs : List Value} (h : W.ownsRow base e size v k xs) : ∃ A c, v = .slice A k c := by
  rcases h.2 with ⟨rfl, rfl⟩ | ⟨g, cap, _, rfl, _⟩
  · exact ⟨none, 0, rfl⟩
  · exact ⟨_, cap, rfl⟩
structure RSF (w : World) (r B : Nat) (ps : List Pq) (x : Pa) (lv : Value) (A : Option Addr) (c : Nat) : Prop where
  box : w.heap[r]? = some (.cells #[lv, .int .u8 x.L.n, .int .i64 x.L.k, .int .i64 x.L.p, .string x.L.h, .int .i64 x.L.f, .int .u8 x.L.a, .bool x.s, .int .i64 x.p, .slice A x.ns.length c] 128 (0, 0))
  hB : B ≤ r
  h0 : 1 < B
  own : w.ownsRow B 104 9 lv ps.length (pqCells ps)
  most : ps.length ≤ 4097
  mem : x.L ∈ ltZ :: ltT
  nums : ∀ q ∈ ps, NV w q.A q.x.ns ∧ ∀ a, q.A = some a → a.block < w.heap.size
  now : NV w A x.ns
  nlt : ∀ a, A = some a → a.block < w.heap.size
  free : lacks x = true → w.ownsRow B 134 2 (.slice A x.ns.length c) x.ns.length (nmCells x.ns) ∧ ∀ q ∈ ps, ∀ a, q.A = some a → A ≠ some a
section
variable {w w' : World} {r B : Nat} {ps : List Pq} {x : Pa} {lv : Value} {A : Option Addr} {c : Nat}
theorem RSF.lt (h : RSF w r B ps x lv A c) : r < w.heap.size := heap_none h.box
theorem RSF.heap (h : RSF w r B ps x lv A c) (hh : w'.heap = w.heap) : RSF w' r B ps x lv A c :=
  ⟨by rw [hh]; exact h.box, h.hB, h.h0, row_kept h.own fun g _ _ _ => by rw [hh], h.most, h.mem, fun q hq => ⟨(h.nums q hq).1.kept fun g _ _ _ => by rw [hh], by rw [hh]; exact (h.nums q hq).2⟩, h.now.kept fun g _ _ _ => by rw [hh], by rw [hh]; exact h.nlt, fun e => ⟨row_kept (h.free e).1 fun g _ _ _ => by rw [hh], (h.free e).2⟩⟩
theorem RSF.below (h : RSF w r B ps x lv A c) (hb : Below w.heap.size w w') : RSF w' r B ps x lv A c :=
  ⟨(hb.block r h.lt).trans h.box, h.hB, h.h0, row_kept h.own fun g _ hg _ => hb.block g hg, h.most, h.mem, fun q hq => ⟨(h.nums q hq).1.kept fun g _ hg _ => hb.block g hg, fun a ha => Nat.lt_of_lt_of_le ((h.nums q hq).2 a ha) hb.size⟩, h.now.kept fun g _ hg _ => hb.block g hg, fun a ha => Nat.lt_of_lt_of_le (h.nlt a ha) hb.size, fun e => ⟨row_kept (h.free e).1 fun g _ hg _ => hb.block g hg, (h.free e).2⟩⟩
theorem RSF.c0 (h : RSF w r B ps x lv A c) : w.cell? ⟨r, 0, none⟩ = some lv := by rw [cell_of_row w r 0 _ _ (0, 0) h.box]; rfl
theorem RSF.c1 (h : RSF w r B ps x lv A c) : w.cell? ⟨r, 1, none⟩ = some (.int .u8 x.L.n) := by rw [cell_of_row w r 1 _ _ (0, 0) h.box]; rfl
theorem RSF.c2 (h : RSF w r B ps x lv A c) : w.cell? ⟨r, 2, none⟩ = some (.int .i64 x.L.k) := by rw [cell_of_row w r 2 _ _ (0, 0) h.box]; rfl
theorem RSF.c3 (h : RSF w r B ps x lv A c) : w.cell? ⟨r, 3, none⟩ = some (.int .i64 x.L.p) := by rw [cell_of_row w r 3 _ _ (0, 0) h.box]; rfl
theorem RSF.c4 (h : RSF w r B ps x lv A c) : w.cell? ⟨r, 4, none⟩ = some (.string x.L.h) := by rw [cell_of_row w r 4 _ _ (0, 0) h.box]; rfl
theorem RSF.c5 (h : RSF w r B ps x lv A c) : w.cell? ⟨r, 5, none⟩ = some (.int .i64 x.L.f) := by rw [cell_of_row w r 5 _ _ (0, 0) h.box]; rfl
theorem RSF.c6 (h : RSF w r B ps x lv A c) : w.cell? ⟨r, 6, none⟩ = some (.int .u8 x.L.a) := by rw [cell_of_row w r 6 _ _ (0, 0) h.box]; rfl
theorem RSF.c7 (h : RSF w r B ps x lv A c) : w.cell? ⟨r, 7, none⟩ = some (.bool x.s) := by rw [cell_of_row w r 7 _ _ (0, 0) h.box]; rfl
theorem RSF.c8 (h : RSF w r B ps x lv A c) : w.cell? ⟨r, 8, none⟩ = some (.int .i64 x.p) := by rw [cell_of_row w r 8 _ _ (0, 0) h.box]; rfl
theorem RSF.c9 (h : RSF w r B ps x lv A c) : w.cell? ⟨r, 9, none⟩ = some (.slice A x.ns.length c) := by rw [cell_of_row w r 9 _ _ (0, 0) h.box]; rfl
theorem RSF.fz (h : RSF w r B ps x lv A c) (i : Nat) : w.frozen? ⟨r, i, none⟩ = false := frozen_of_row w r i _ _ h.box
end
set_option maxRecDepth 100000 in
theorem lacks_any {w : World} {r B : Nat} {ps : List Pq} {x : Pa} {lv : Value} {A : Option Addr} {c : Nat} (h : RSF w r B ps x lv A c) :
    Calls Tryd.prog 58 #[.pointer (some ⟨r, 0, none⟩)] w fun e w' => e = .returned (.bool (lacks x)) ∧ ∃ q, w' = w.drewN q := by
  have c4 := h.c4
  have c9 := h.c9
  clear h
  go_enter Tryd.func58, Tryd.ntmps58
  go_wp2
  go_quiet (fail)
  go_wp2
  go_ret
  exact ⟨ret_b' rfl, _, rfl⟩
set_option maxRecDepth 100000 in
theorem follows_any {w : World} {r B : Nat} {ps : List Pq} {x : Pa} {lv : Value} {A : Option Addr} {c : Nat} (k : Int) (h : RSF w r B ps x lv A c) :
    Calls Tryd.prog 77 #[.pointer (some ⟨r, 0, none⟩), .int .i64 k] w fun e w' => e = .returned (.bool (followsK x k)) ∧ w' = w := by
  have c2 := h.c2
  clear h
  unfold followsK
  go_enter Tryd.func77, Tryd.ntmps77
  by_cases h0 : x.L.k = 0
  · rw [if_pos h0]
    go_wp2
    go_ret
    exact ⟨ret_b' rfl, rfl⟩
  · rw [if_neg h0]
    by_cases h1 : k = 6
    · subst h1
      go_wp2
      go_ret
      exact ⟨ret_b' rfl, rfl⟩
    · go_wp2
      go_ret
      refine ⟨ret_b' ?_, rfl⟩
      simp [h1]
end Go.Proofs.YtnapannphldglaaDoor
