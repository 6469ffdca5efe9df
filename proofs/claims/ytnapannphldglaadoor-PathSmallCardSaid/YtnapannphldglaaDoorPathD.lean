/- The reader begins a part. -/
import Derived.Test.YtnapannphldglaaDoorPathC
namespace Go.Proofs.YtnapannphldglaaDoor
open Go Go.RowKit

section
variable {w : World} {r : Nat} {T : TypeId} {lv v1 v2 v3 v4 v5 v6 v7 v8 v9 n1 n2 n3 n4 n5 n6 n7 n8 n9 : Value}
theorem put9_box (h : w.heap[r]? = some (.cells #[lv, v1, v2, v3, v4, v5, v6, v7, v8, v9] T (0, 0))) : (((((((((w.setCell ⟨r, 1, none⟩ n1).setCell ⟨r, 2, none⟩ n2).setCell ⟨r, 3, none⟩ n3).setCell ⟨r, 4, none⟩ n4).setCell ⟨r, 5, none⟩ n5).setCell ⟨r, 6, none⟩ n6).setCell ⟨r, 7, none⟩ n7).setCell ⟨r, 8, none⟩ n8).setCell ⟨r, 9, none⟩ n9).heap[r]? = some (.cells #[lv, n1, n2, n3, n4, n5, n6, n7, n8, n9] T (0, 0)) := by
  have h1 : (w.setCell ⟨r, 1, none⟩ n1).heap[r]? = some (.cells #[lv, n1, v2, v3, v4, v5, v6, v7, v8, v9] T (0, 0)) := heap_setCell_same _ r 1 _ T n1 h
  have h2 : ((w.setCell ⟨r, 1, none⟩ n1).setCell ⟨r, 2, none⟩ n2).heap[r]? = some (.cells #[lv, n1, n2, v3, v4, v5, v6, v7, v8, v9] T (0, 0)) := heap_setCell_same _ r 2 _ T n2 h1
  have h3 : (((w.setCell ⟨r, 1, none⟩ n1).setCell ⟨r, 2, none⟩ n2).setCell ⟨r, 3, none⟩ n3).heap[r]? = some (.cells #[lv, n1, n2, n3, v4, v5, v6, v7, v8, v9] T (0, 0)) := heap_setCell_same _ r 3 _ T n3 h2
  have h4 : ((((w.setCell ⟨r, 1, none⟩ n1).setCell ⟨r, 2, none⟩ n2).setCell ⟨r, 3, none⟩ n3).setCell ⟨r, 4, none⟩ n4).heap[r]? = some (.cells #[lv, n1, n2, n3, n4, v5, v6, v7, v8, v9] T (0, 0)) := heap_setCell_same _ r 4 _ T n4 h3
  have h5 : (((((w.setCell ⟨r, 1, none⟩ n1).setCell ⟨r, 2, none⟩ n2).setCell ⟨r, 3, none⟩ n3).setCell ⟨r, 4, none⟩ n4).setCell ⟨r, 5, none⟩ n5).heap[r]? = some (.cells #[lv, n1, n2, n3, n4, n5, v6, v7, v8, v9] T (0, 0)) := heap_setCell_same _ r 5 _ T n5 h4
  have h6 : ((((((w.setCell ⟨r, 1, none⟩ n1).setCell ⟨r, 2, none⟩ n2).setCell ⟨r, 3, none⟩ n3).setCell ⟨r, 4, none⟩ n4).setCell ⟨r, 5, none⟩ n5).setCell ⟨r, 6, none⟩ n6).heap[r]? = some (.cells #[lv, n1, n2, n3, n4, n5, n6, v7, v8, v9] T (0, 0)) := heap_setCell_same _ r 6 _ T n6 h5
  have h7 : (((((((w.setCell ⟨r, 1, none⟩ n1).setCell ⟨r, 2, none⟩ n2).setCell ⟨r, 3, none⟩ n3).setCell ⟨r, 4, none⟩ n4).setCell ⟨r, 5, none⟩ n5).setCell ⟨r, 6, none⟩ n6).setCell ⟨r, 7, none⟩ n7).heap[r]? = some (.cells #[lv, n1, n2, n3, n4, n5, n6, n7, v8, v9] T (0, 0)) := heap_setCell_same _ r 7 _ T n7 h6
  have h8 : ((((((((w.setCell ⟨r, 1, none⟩ n1).setCell ⟨r, 2, none⟩ n2).setCell ⟨r, 3, none⟩ n3).setCell ⟨r, 4, none⟩ n4).setCell ⟨r, 5, none⟩ n5).setCell ⟨r, 6, none⟩ n6).setCell ⟨r, 7, none⟩ n7).setCell ⟨r, 8, none⟩ n8).heap[r]? = some (.cells #[lv, n1, n2, n3, n4, n5, n6, n7, n8, v9] T (0, 0)) := heap_setCell_same _ r 8 _ T n8 h7
  have h9 : (((((((((w.setCell ⟨r, 1, none⟩ n1).setCell ⟨r, 2, none⟩ n2).setCell ⟨r, 3, none⟩ n3).setCell ⟨r, 4, none⟩ n4).setCell ⟨r, 5, none⟩ n5).setCell ⟨r, 6, none⟩ n6).setCell ⟨r, 7, none⟩ n7).setCell ⟨r, 8, none⟩ n8).setCell ⟨r, 9, none⟩ n9).heap[r]? = some (.cells #[lv, n1, n2, n3, n4, n5, n6, n7, n8, n9] T (0, 0)) := heap_setCell_same _ r 9 _ T n9 h8
  exact h9
theorem put9_other {g : Nat} (h : g ≠ r) : (((((((((w.setCell ⟨r, 1, none⟩ n1).setCell ⟨r, 2, none⟩ n2).setCell ⟨r, 3, none⟩ n3).setCell ⟨r, 4, none⟩ n4).setCell ⟨r, 5, none⟩ n5).setCell ⟨r, 6, none⟩ n6).setCell ⟨r, 7, none⟩ n7).setCell ⟨r, 8, none⟩ n8).setCell ⟨r, 9, none⟩ n9).heap[g]? = w.heap[g]? := by
  iterate 9 rw [Below.heap_setCell _ _ _ _ h]
theorem put9_size : (((((((((w.setCell ⟨r, 1, none⟩ n1).setCell ⟨r, 2, none⟩ n2).setCell ⟨r, 3, none⟩ n3).setCell ⟨r, 4, none⟩ n4).setCell ⟨r, 5, none⟩ n5).setCell ⟨r, 6, none⟩ n6).setCell ⟨r, 7, none⟩ n7).setCell ⟨r, 8, none⟩ n8).setCell ⟨r, 9, none⟩ n9).heap.size = w.heap.size := by simp [World.setCell]
theorem put9_below {B : Nat} {W : World} (h : Below B W w) (hr : B ≤ r) : Below B W (((((((((w.setCell ⟨r, 1, none⟩ n1).setCell ⟨r, 2, none⟩ n2).setCell ⟨r, 3, none⟩ n3).setCell ⟨r, 4, none⟩ n4).setCell ⟨r, 5, none⟩ n5).setCell ⟨r, 6, none⟩ n6).setCell ⟨r, 7, none⟩ n7).setCell ⟨r, 8, none⟩ n8).setCell ⟨r, 9, none⟩ n9) := ((((((((h.setCell hr _).setCell hr _).setCell hr _).setCell hr _).setCell hr _).setCell hr _).setCell hr _).setCell hr _).setCell hr _
end
/-- A new part in the reader's place. -/
theorem RSF.fresh {w w2 : World} {r B : Nat} {ps : List Pq} {x y : Pa} {lv : Value} {A : Option Addr} {c : Nat} (h : RSF w r B ps x lv A c) (hy : y.ns = []) (hm : y.L ∈ ltZ :: ltT)
    (hb : w2.heap[r]? = some (.cells #[lv, .int .u8 y.L.n, .int .i64 y.L.k, .int .i64 y.L.p, .string y.L.h, .int .i64 y.L.f, .int .u8 y.L.a, .bool y.s, .int .i64 y.p, .slice none 0 0] 128 (0, 0)))
    (ho : ∀ g, g < w.heap.size → g ≠ r → w2.heap[g]? = w.heap[g]?) (hs : w.heap.size ≤ w2.heap.size) : RSF w2 r B ps y lv none 0 := by
  have hl : y.ns.length = 0 := by rw [hy]; rfl
  refine ⟨by rw [hl]; exact hb, h.hB, h.h0, row_kept h.own fun g hg hlt hc => ho g hlt ?_, h.most, hm, fun q hq => ⟨(h.nums q hq).1.kept fun g _ hlt hc => ho g hlt ?_, fun a ha => Nat.lt_of_lt_of_le ((h.nums q hq).2 a ha) hs⟩, .inl hy, fun a ha => (by cases ha), fun _ => ⟨?_, fun q _ a _ e => by cases e⟩⟩
  · rintro rfl; obtain ⟨cs, hc⟩ := hc; rw [h.box] at hc; cases hc
  · rintro rfl; obtain ⟨cs, fr, hc⟩ := hc; rw [h.box] at hc; cases hc
  · rw [hl, hy]; exact World.ownsRow_nil _ _ _ _
set_option maxRecDepth 100000 in
set_option maxHeartbeats 4000000 in
theorem begin_any {w : World} {r B : Nat} {ps : List Pq} {x : Pa} {lv : Value} {A : Option Addr} {c : Nat} (y : Pa) (h : RSF w r B ps x lv A c) (hy : y.ns = []) (hm : y.L ∈ ltZ :: ltT) :
    Calls Tryd.prog 74 #[.pointer (some ⟨r, 0, none⟩), .agg #[.int .u8 y.L.n, .int .i64 y.L.k, .int .i64 y.L.p, .string y.L.h, .int .i64 y.L.f, .int .u8 y.L.a, .bool y.s, .int .i64 y.p, .slice none 0 0]] w fun e w' => e = .returned (.tuple #[]) ∧ RS w' r B (beginR (ps.map (·.x), x) y) ∧ Below B w w' ∧ Kt ktA w w' := by
  obtain ⟨A0, c0, hlv⟩ := row_sl h.own
  subst hlv
  go_enter Tryd.func74, Tryd.ntmps74
  have e1 := h.c1
  have e2 := h.c2
  have e3 := h.c3
  have e4 := h.c4
  have e5 := h.c5
  have e6 := h.c6
  have e7 := h.c7
  have e8 := h.c8
  have e9 := h.c9
  have f1 := h.fz 1
  have f2 := h.fz 2
  have f3 := h.fz 3
  have f4 := h.fz 4
  have f5 := h.fz 5
  have f6 := h.fz 6
  have f7 := h.fz 7
  have f8 := h.fz 8
  have f9 := h.fz 9
  have hlt := h.lt
  have H := Lib.hid h
  clear h
  have hs9 : ∀ n1 n2 n3 n4 n5 n6 n7 n8 n9 : Value, r < (((((((((w.setCell ⟨r, 1, none⟩ n1).setCell ⟨r, 2, none⟩ n2).setCell ⟨r, 3, none⟩ n3).setCell ⟨r, 4, none⟩ n4).setCell ⟨r, 5, none⟩ n5).setCell ⟨r, 6, none⟩ n6).setCell ⟨r, 7, none⟩ n7).setCell ⟨r, 8, none⟩ n8).setCell ⟨r, 9, none⟩ n9).heap.size := fun _ _ _ _ _ _ _ _ _ => by rw [put9_size]; exact hlt
  have HS := Lib.hid hs9
  clear hs9
  go_wp2_with (go_at_call 75; refine (keep_any (RSF.fresh (y := y) H.out hy hm ((heap_alloc_old _ _ (HS.out _ _ _ _ _ _ _ _ _)).trans (put9_box H.out.box)) (fun g hg hne => (heap_alloc_old _ _ (by rw [put9_size]; exact hg)).trans (put9_other hne)) (by rw [World.size_alloc, put9_size]; omega))).mono ?_; rintro e w1 ⟨rfl, hrs, hb, hkt⟩)
  go_end0
  refine ⟨rfl, hrs, Below.trans (Below.alloc (put9_below (Below.refl _ w) H.out.hB) (by rw [put9_size]; have := H.out.hB; omega) _) hb, Kt.trans ?_ hkt⟩
  intro g cs t fr hg ht
  rw [heap_alloc_old _ _ (by rw [put9_size]; exact heap_none hg), put9_other ?_]
  · exact hg
  · rintro rfl; rw [H.out.box] at hg; cases hg; exact ht (by decide)
end Go.Proofs.YtnapannphldglaaDoor
