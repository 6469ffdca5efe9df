/- The reader keeps a part. -/
import Derived.Test.YtnapannphldglaaDoorPathB
namespace Go.Proofs.YtnapannphldglaaDoor
open Go Go.RowKit

theorem info_part : (Tryd.prog.info? 104).map (fun i => (i.zero, i.size, i.bytes)) = some (some (.agg #[.int .u8 0, .int .i64 0, .int .i64 0, .string ⟨#[]⟩, .int .i64 0, .int .u8 0, .bool false, .int .i64 0, .slice none 0 0]), 9, 96) := by kernel_rfl
theorem info_number : (Tryd.prog.info? 134).map (fun i => (i.zero, i.size, i.bytes)) = some (some (.agg #[.int .i64 0, .int .i64 0]), 2, 16) := by kernel_rfl
theorem pqCells_snoc (ps : List Pq) (q : Pq) : pqCells (ps ++ [q]) = pqCells ps ++ q.cells := by simp [pqCells]
theorem keepL_yes {l : List Pa} {x : Pa} (h1 : lacks x = false) (h2 : l.length ≤ 4096) : keepL l x = l ++ [x] := by simp [keepL, h1, h2]
theorem keepL_no {l : List Pa} {x : Pa} (h : lacks x = true ∨ ¬ l.length ≤ 4096) : keepL l x = l := by
  unfold keepL
  rcases h with h | h <;> simp [h]
theorem row_ne {w : World} {B n k r : Nat} {T T' : TypeId} {v : Value} {xs : List Value} {cs : Array Value} {fr : Nat × Nat} (h : w.ownsRow B T k v n xs) (hr : w.heap[r]? = some (.cells cs T' fr)) (hT : T ≠ T') : v.ownBlock ≠ some r := by
  rcases h.2 with ⟨rfl, _⟩ | ⟨g, cap, cur, rfl, _, h2, _⟩
  · intro e; cases e
  · intro e
    obtain rfl : g = r := by simpa [Value.ownBlock] using e
    rw [hr] at h2; cases h2; exact hT rfl
/-- Behind an append to the list the reader's own cell stands. -/
theorem RSF.far {W w1 : World} {o : Obj} {r B : Nat} {ps : List Pq} {x : Pa} {lv : Value} {A : Option Addr} {c : Nat} (h : RSF W r B ps x lv A c) (hg : (W.alloc o).drew.grownBy w1 lv.ownBlock) : w1.cell? ⟨r, 0, none⟩ = some lv ∧ w1.frozen? ⟨r, 0, none⟩ = false ∧ w1.heap[r]? = W.heap[r]? := by
  have hb : w1.heap[r]? = W.heap[r]? := (hg.block r (by have := h.lt; show r < (W.alloc o).heap.size; simp; omega) (fun e => row_ne h.own h.box (by decide) e.symm)).trans (heap_alloc_old _ _ h.lt)
  exact ⟨(World.cell?_of_block hb).trans h.c0, (World.frozen?_of_block hb).trans (h.fz 0), hb⟩
/-- What the reader's steps leave. -/
def RS (w : World) (r B : Nat) (S : RSt) : Prop := ∃ ps lv A c, S.1 = ps.map (·.x) ∧ RSF w r B ps S.2 lv A c
theorem RS.heap {w w' : World} {r B : Nat} {S : RSt} (h : RS w r B S) (hh : w'.heap = w.heap) : RS w' r B S := by
  obtain ⟨ps, lv, A, c, h1, h2⟩ := h
  exact ⟨ps, lv, A, c, h1, h2.heap hh⟩
theorem RS.below {w w' : World} {r B : Nat} {S : RSt} (h : RS w r B S) (hb : Below w.heap.size w w') : RS w' r B S := by
  obtain ⟨ps, lv, A, c, h1, h2⟩ := h
  exact ⟨ps, lv, A, c, h1, h2.below hb⟩
theorem grown_block {W w1 : World} {o : Obj} {row : Option Nat} (hg : (W.alloc o).drew.grownBy w1 row) {g : Nat} (h : g < W.heap.size) (hne : row ≠ some g) : w1.heap[g]? = W.heap[g]? :=
  (hg.block g (by show g < (W.alloc o).heap.size; simp; omega) (fun e => hne e.symm)).trans (heap_alloc_old _ _ h)
theorem row_typed {w : World} {B n k : Nat} {T : TypeId} {v : Value} {xs : List Value} (h : w.ownsRow B T k v n xs) : ∀ g, v.ownBlock = some g → ∃ cs : Array Value, w.heap[g]? = some (.cells cs T (0, 0)) := by
  intro g hg
  rcases h.2 with ⟨rfl, _⟩ | ⟨g', cap, cur, rfl, _, h2, _⟩
  · cases hg
  · obtain rfl : g' = g := by simpa [Value.ownBlock] using hg
    exact ⟨cur, h2⟩
/-- What keep and begin may write. -/
abbrev ktA : List TypeId := [104, 128]
theorem RSF.listed {w W w1 : World} {o : Obj} {r B : Nat} {ps : List Pq} {x : Pa} {A0 : Option Addr} {c0 : Nat} {A : Option Addr} {c g cap : Nat} (h : RSF W r B ps x (.slice A0 ps.length c0) A c) (hk : lacks x = false) (hl : ps.length ≤ 4096) (hb : Below B w W)
    (hg : (W.alloc o).drew.grownBy w1 (Value.slice A0 ps.length c0).ownBlock) (hat : (Value.slice A0 ps.length c0).ownBlock = some g ∨ g = (W.alloc o).drew.heap.size) (_hg1 : g < w1.heap.size) (hr : w1.heap[r]? = W.heap[r]?)
    (hown : w1.ownsRow B 104 9 (.slice (some ⟨g, 0, none⟩) (ps.length + 1) cap) (ps.length + 1) (pqCells ps ++ paCells x A c)) :
    RS (w1.setCell ⟨r, 0, none⟩ (.slice (some ⟨g, 0, none⟩) (ps.length + 1) cap)) r B (ps.map (·.x) ++ [x], x) ∧ Below B w (w1.setCell ⟨r, 0, none⟩ (.slice (some ⟨g, 0, none⟩) (ps.length + 1) cap)) ∧ Kt ktA W (w1.setCell ⟨r, 0, none⟩ (.slice (some ⟨g, 0, none⟩) (ps.length + 1) cap)) := by
  have hsz : (W.alloc o).heap.size = W.heap.size + 1 := by simp
  have hsz' : (W.alloc o).drew.heap.size = W.heap.size + 1 := hsz
  have hlt := h.lt
  have hB := h.hB
  have h1s : W.heap.size ≤ w1.heap.size := by have := hg.size; omega
  have hgB : B ≤ g := by
    have := hown.lt g rfl
    exact this.1
  have hgr : g ≠ r := by
    intro e
    rcases hat with q | q
    · exact row_ne h.own h.box (by decide) (by rw [q, e])
    · omega
  have hbox := (hr.trans h.box)
  have hnum : ∀ (b : Nat) (cs : Array Value) (fr : Nat × Nat), W.heap[b]? = some (Obj.cells cs 134 fr) → (w1.setCell ⟨r, 0, none⟩ (.slice (some ⟨g, 0, none⟩) (ps.length + 1) cap)).heap[b]? = W.heap[b]? := by
    intro b cs fr hc
    have hbr : b ≠ r := by rintro rfl; rw [h.box] at hc; cases hc
    rw [Below.heap_setCell _ _ _ _ hbr]
    exact grown_block hg (heap_none hc) (row_ne h.own hc (by decide))
  have hnv : ∀ A ns, NV W A ns → NV (w1.setCell ⟨r, 0, none⟩ (.slice (some ⟨g, 0, none⟩) (ps.length + 1) cap)) A ns := fun A ns hn => hn.kept fun b _ _ ⟨cs, fr, hc⟩ => hnum b cs fr hc
  have hs2 : (w1.setCell ⟨r, 0, none⟩ (.slice (some ⟨g, 0, none⟩) (ps.length + 1) cap)).heap.size = w1.heap.size := by simp [World.setCell]
  refine ⟨⟨ps ++ [⟨x, A, c⟩], .slice (some ⟨g, 0, none⟩) (ps.length + 1) cap, A, c, by simp, ?_⟩, ?_, ?_⟩
  · refine ⟨?_, hB, h.h0, ?_, by simp; omega, h.mem, ?_, hnv _ _ h.now, fun a ha => by rw [hs2]; exact Nat.lt_of_lt_of_le (h.nlt a ha) h1s, fun e => by rw [hk] at e; cases e⟩
    · rw [heap_setCell_same w1 r 0 _ _ _ hbox]; rfl
    · rw [pqCells_snoc, List.length_append]
      refine row_kept hown fun b hb' _ _ => Below.heap_setCell _ _ _ _ ?_
      have : g = b := by simpa [Value.ownBlock] using hb'
      subst this; exact hgr
    · intro q hq
      rcases List.mem_append.1 hq with hq | hq
      · exact ⟨hnv _ _ (h.nums q hq).1, fun a ha => by rw [hs2]; exact Nat.lt_of_lt_of_le ((h.nums q hq).2 a ha) h1s⟩
      · rw [List.mem_singleton.1 hq]
        exact ⟨hnv _ _ h.now, fun a ha => by rw [hs2]; exact Nat.lt_of_lt_of_le (h.nlt a ha) h1s⟩
  · refine Below.setCell ?_ hB _
    refine (hb.trans ((Below.refl _ W).mono (Nat.le_refl _) |>.alloc (by omega) o)).trans ?_
    exact ⟨hg.os, hg.tape, hg.output, hg.size, fun i hi => hg.block i (by show i < (W.alloc o).heap.size; omega) (fun e => by
      have := (h.own.lt i e.symm).1; omega)⟩
  · refine Kt.setCell (Kt.grown (b := (W.alloc o).drew) (fun g cs t fr hg _ => (heap_alloc_old W o (heap_none hg)).trans hg) hg fun b hb' => ?_) hbox (by decide) 0 _
    obtain ⟨cs, hcs⟩ := row_typed h.own b hb'
    exact ⟨cs, _, _, (heap_alloc_old W o (heap_none hcs)).trans hcs, by decide⟩
set_option maxRecDepth 100000 in
set_option maxHeartbeats 4000000 in
theorem keep_any {w : World} {r B : Nat} {ps : List Pq} {x : Pa} {lv : Value} {A : Option Addr} {c : Nat} (h : RSF w r B ps x lv A c) :
    Calls Tryd.prog 75 #[.pointer (some ⟨r, 0, none⟩)] w fun e w' => e = .returned (.tuple #[]) ∧ RS w' r B (keepL (ps.map (·.x)) x, x) ∧ Below B w w' ∧ Kt ktA w w' := by
  obtain ⟨A0, c0, hlv⟩ := row_sl h.own
  subst hlv
  by_cases hk : lacks x = false ∧ ps.length ≤ 4096
  · obtain ⟨hk1, hk2⟩ := hk
    have hk3 : (ps.length : Int) ≤ 4096 := by omega
    have K := Lib.hid (lacks_any h)
    rw [hk1] at K
    have H := Lib.hid h
    have HK1 := Lib.hid hk1
    have hB := h.hB
    have hlt := h.lt
    clear h hk1
    go_enter Tryd.func75, Tryd.ntmps75
    go_wp2_with (go_at_call 58; refine K.out.mono ?_; rintro e w1 ⟨rfl, q, rfl⟩; have H1 := Lib.hid (H.out.heap (w' := w.drewN q) rfl); have hc0 := H1.out.c0; have hsz : w.heap.size = (w.drewN q).heap.size := rfl)
    have hbl : Below B w (w.drewN q) := ⟨rfl, rfl, rfl, Nat.le_refl _, fun _ _ => rfl⟩
    have HWH : Hid (Kt ktA w (w.drewN q)) := Kt.of_heap rfl
    generalize w.drewN q = W at *
    have e0 := H1.out.c0
    have e1 := H1.out.c1
    have e2 := H1.out.c2
    have e3 := H1.out.c3
    have e4 := H1.out.c4
    have e5 := H1.out.c5
    have e6 := H1.out.c6
    have e7 := H1.out.c7
    have e8 := H1.out.c8
    have e9 := H1.out.c9
    have f0 := H1.out.fz 0
    obtain ⟨i0, hi, hz0, hz1, hz2⟩ := info_parts info_part
    have hltW := H1.out.lt
    have hBW : B ≤ W.heap.size := by omega
    go_region_law (refine step_append_lies _ rfl (.tmp 17) (.tmp 22) 94 rfl B 104 i0 _ 9 96 Tryd.underlying94 hi hz0 hz1 hz2 rfl (by decide) (.slice A0 ps.length c0) ps.length (pqCells ps) (by simp [Act.eval]) (row_kept H1.out.own fun g _ hg _ => heap_alloc_old _ _ hg) ⟨W.heap.size, 0, none⟩ 1 1 (paCells x A c) (by simp [Act.eval]) rfl (World.news_of_block (heap_alloc_new _ _)) (by simp [paCells, Value.oneCell']) (by decide) (by unfold maxLen; omega) (by omega) (Nat.le_trans hBW (by simp)) _ rfl ?_; intro g cap w1 hown hgr hat hg1; have hr1 := Lib.hid (H1.out.far hgr); have k0 := hr1.out.1; have kf := hr1.out.2.1)
    all_goals
      go_wp2
      go_end0
      refine ⟨rfl, ?_⟩
      rw [keepL_yes HK1.out (by simpa using hk2)]
      obtain ⟨l1, l2, l3⟩ := RSF.listed H1.out HK1.out hk2 hbl hgr hat hg1 hr1.out.2.2 hown
      exact ⟨l1, l2, HWH.out.trans l3⟩
  · have h' : lacks x = true ∨ ¬ ps.length ≤ 4096 := by
      rcases Bool.eq_false_or_eq_true (lacks x) with e | e
      · exact .inl e
      · exact .inr fun e2 => hk ⟨e, e2⟩
    rw [keepL_no (by simpa using h')]
    have K := Lib.hid (lacks_any h)
    have H := Lib.hid h
    clear h
    rcases Bool.eq_false_or_eq_true (lacks x) with e | e
    · rw [e] at K
      clear hk h'
      go_enter Tryd.func75, Tryd.ntmps75
      go_wp2_with (go_at_call 58; refine K.out.mono ?_; rintro e w1 ⟨rfl, q, rfl⟩)
      go_end0
      exact ⟨rfl, ⟨ps, _, A, c, rfl, H.out.heap rfl⟩, ⟨rfl, rfl, rfl, Nat.le_refl _, fun _ _ => rfl⟩, Kt.of_heap rfl⟩
    · rw [e] at K
      have hk3 : ¬ (ps.length : Int) ≤ 4096 := by rcases h' with q | q; rw [e] at q; cases q; omega
      clear hk h'
      go_enter Tryd.func75, Tryd.ntmps75
      go_wp2_with (go_at_call 58; refine K.out.mono ?_; rintro e w1 ⟨rfl, q, rfl⟩; have hc0 := (H.out.heap (w' := w.drewN q) rfl).c0)
      go_end0
      exact ⟨rfl, ⟨ps, _, A, c, rfl, H.out.heap rfl⟩, ⟨rfl, rfl, rfl, Nat.le_refl _, fun _ _ => rfl⟩, Kt.of_heap rfl⟩
end Go.Proofs.YtnapannphldglaaDoor
