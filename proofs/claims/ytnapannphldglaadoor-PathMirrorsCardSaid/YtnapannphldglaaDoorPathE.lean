/- The reader takes a number. -/
import Derived.Test.YtnapannphldglaaDoorPathD
namespace Go.Proofs.YtnapannphldglaaDoor
open Go Go.RowKit

theorem nmCells_len (ns : List Nm) : (nmCells ns).length = ns.length * 2 := by
  induction ns with
  | nil => rfl
  | cons x ns ih => show (x.v ++ nmCells ns).length = _; rw [List.length_append, ih]; simp [Nm.v]; omega
theorem nmCells_get : ∀ (ns : List Nm) (i : Nat) (x : Nm), ns[i]? = some x → (nmCells ns)[i * 2]? = some (.int .i64 x.n) ∧ (nmCells ns)[i * 2 + 1]? = some (.int .i64 x.p)
  | [], i, x, h => by simp at h
  | y :: ns, 0, x, h => by
    have : y = x := by simpa using h
    subst this
    exact ⟨rfl, rfl⟩
  | y :: ns, i + 1, x, h => by
    have := nmCells_get ns i x (by simpa using h)
    have e : nmCells (y :: ns) = .int .i64 y.n :: .int .i64 y.p :: nmCells ns := rfl
    rw [e, show (i + 1) * 2 = i * 2 + 1 + 1 by omega]
    simpa using this
theorem nmCells_snoc (ns : List Nm) (n : Nm) : nmCells (ns ++ [n]) = nmCells ns ++ n.v := by simp [nmCells]
theorem NV.of_row {w : World} {B g cap : Nat} {ns : List Nm} (h : w.ownsRow B 134 2 (.slice (some ⟨g, 0, none⟩) ns.length cap) ns.length (nmCells ns)) : NV w (some ⟨g, 0, none⟩) ns := by
  rcases h.2 with ⟨hv, _⟩ | ⟨g', cap', cur, hv, _, hh, _, _, _, ht⟩
  · cases hv
  · have hg : g' = g := by injection hv with e; injection e with e; injection e with e; exact e.symm
    subst hg
    refine .inr ⟨g', cur, (0, 0), rfl, hh, fun i x hx => ?_⟩
    have hi := (List.getElem?_eq_some_iff.1 hx).1
    have hc := nmCells_get ns i x hx
    rw [← ht] at hc
    rw [List.getElem?_take_of_lt (by omega), List.getElem?_take_of_lt (by omega), Array.getElem?_toList, Array.getElem?_toList] at hc
    exact hc
/-- What number may write. -/
abbrev ktN : List TypeId := [104, 128, 134]
theorem ktA_N {a b : World} (h : Kt ktA a b) : Kt ktN a b := h.more (by decide)
theorem RSF.added {w W w1 : World} {o : Obj} {r B : Nat} {ps : List Pq} {x : Pa} {lv : Value} {A : Option Addr} {c g cap : Nat} {n : Nm} (h : RSF W r B ps x lv A c) (hk : lacks x = true) (hb : Below B w W)
    (hg : (W.alloc o).drew.grownBy w1 (Value.slice A x.ns.length c).ownBlock) (hat : (Value.slice A x.ns.length c).ownBlock = some g ∨ g = (W.alloc o).drew.heap.size) (hg1 : g < w1.heap.size)
    (hown : w1.ownsRow B 134 2 (.slice (some ⟨g, 0, none⟩) (x.ns.length + 1) cap) (x.ns.length + 1) (nmCells x.ns ++ n.v)) :
    RSF (w1.setCell ⟨r, 9, none⟩ (.slice (some ⟨g, 0, none⟩) (x.ns.length + 1) cap)) r B ps { x with ns := x.ns ++ [n] } lv (some ⟨g, 0, none⟩) cap ∧ Below B w (w1.setCell ⟨r, 9, none⟩ (.slice (some ⟨g, 0, none⟩) (x.ns.length + 1) cap)) ∧ Kt ktN W (w1.setCell ⟨r, 9, none⟩ (.slice (some ⟨g, 0, none⟩) (x.ns.length + 1) cap)) := by
  have hfr := h.free hk
  have hsz : (W.alloc o).heap.size = W.heap.size + 1 := by simp
  have hsz' : (W.alloc o).drew.heap.size = W.heap.size + 1 := hsz
  have hlt := h.lt
  have hB := h.hB
  have h1s : W.heap.size ≤ w1.heap.size := by have := hg.size; omega
  have hrow : (Value.slice A x.ns.length c).ownBlock ≠ some r := row_ne hfr.1 h.box (by decide)
  have hgr : g ≠ r := by
    intro e
    rcases hat with q | q
    · exact hrow (by rw [q, e])
    · omega
  have hr : w1.heap[r]? = W.heap[r]? := grown_block hg hlt hrow
  have hs2 : (w1.setCell ⟨r, 9, none⟩ (.slice (some ⟨g, 0, none⟩) (x.ns.length + 1) cap)).heap.size = w1.heap.size := by simp [World.setCell]
  have hother : ∀ b : Nat, b < W.heap.size → b ≠ r → (Value.slice A x.ns.length c).ownBlock ≠ some b → (w1.setCell ⟨r, 9, none⟩ (.slice (some ⟨g, 0, none⟩) (x.ns.length + 1) cap)).heap[b]? = W.heap[b]? := by
    intro b h1 h2 h3
    rw [Below.heap_setCell _ _ _ _ h2]
    exact grown_block hg h1 h3
  have hnl : (x.ns ++ [n]).length = x.ns.length + 1 := by simp
  have hown2 : (w1.setCell ⟨r, 9, none⟩ (.slice (some ⟨g, 0, none⟩) (x.ns.length + 1) cap)).ownsRow B 134 2 (.slice (some ⟨g, 0, none⟩) (x.ns ++ [n]).length cap) (x.ns ++ [n]).length (nmCells (x.ns ++ [n])) := by
    rw [hnl, nmCells_snoc]
    refine row_kept hown fun b hb' _ _ => Below.heap_setCell _ _ _ _ ?_
    have : g = b := by simpa [Value.ownBlock] using hb'
    subst this; exact hgr
  have hAq : ∀ q ∈ ps, ∀ b, q.A = some ⟨b, 0, none⟩ → (Value.slice A x.ns.length c).ownBlock ≠ some b := by
    intro q hq b hqa e
    rcases hfr.1.2 with ⟨hv, _⟩ | ⟨g0, cap0, cur, hv, _⟩
    · rw [hv] at e; cases e
    · have : A = some ⟨g0, 0, none⟩ := by injection hv
      rw [hv] at e
      have : g0 = b := by simpa [Value.ownBlock] using e
      subst this
      exact hfr.2 q hq _ hqa (by assumption)
  refine ⟨⟨?_, hB, h.h0, row_kept h.own fun b hb' hblt ⟨cs, hc⟩ => hother b hblt ?_ ?_, h.most, h.mem, fun q hq => ⟨(h.nums q hq).1.kept fun b hqa hblt ⟨cs, fr, hc⟩ => hother b hblt ?_ (hAq q hq b hqa), fun a ha => by rw [hs2]; exact Nat.lt_of_lt_of_le ((h.nums q hq).2 a ha) h1s⟩, NV.of_row hown2, fun a ha => ?_, fun _ => ⟨hown2, fun q hq a ha e => ?_⟩⟩, ?_, ?_⟩
  · have := heap_setCell_same w1 r 9 _ _ (.slice (some ⟨g, 0, none⟩) (x.ns.length + 1) cap) (hr.trans h.box)
    rw [this, hnl]; rfl
  · rintro rfl; rw [h.box] at hc; cases hc
  · exact row_ne hfr.1 hc (by decide)
  · rintro rfl; rw [h.box] at hc; cases hc
  · cases ha; rw [hs2]; exact hg1
  · cases e
    rcases hat with p | p
    · rcases hfr.1.2 with ⟨hv, _⟩ | ⟨g0, cap0, cur, hv, _⟩
      · rw [hv] at p; cases p
      · rw [hv] at p
        have h1 : A = some ⟨g0, 0, none⟩ := by injection hv
        have : g0 = g := by simpa [Value.ownBlock] using p
        subst this
        exact hfr.2 q hq _ ha h1
    · have := (h.nums q hq).2 _ ha
      simp only at this
      omega
  · refine Below.setCell ?_ hB _
    refine (hb.trans ((Below.refl _ W).mono (Nat.le_refl _) |>.alloc (by omega) o)).trans ?_
    exact ⟨hg.os, hg.tape, hg.output, hg.size, fun i hi => hg.block i (by show i < (W.alloc o).heap.size; omega) (fun e => by
      have := (hfr.1.lt i e.symm).1; omega)⟩
  · refine Kt.setCell (Kt.grown (b := (W.alloc o).drew) (fun g cs t fr hg _ => (heap_alloc_old W o (heap_none hg)).trans hg) hg fun b hb' => ?_) (hr.trans h.box) (by decide) 9 _
    obtain ⟨cs, hcs⟩ := row_typed hfr.1 b hb'
    exact ⟨cs, _, _, (heap_alloc_old W o (heap_none hcs)).trans hcs, by decide⟩
theorem nn_len {x : Pa} (hm : x.L ∈ ltZ :: ltT) (hk : lacks x = true) : x.ns.length < 6 := by
  have h1 : ∀ y ∈ ltZ :: ltT, y.h.size ≤ 6 := by decide
  have := h1 _ hm
  have h2 : x.ns.length < x.L.h.size := by simpa [lacks] using hk
  omega
set_option maxRecDepth 100000 in
set_option maxHeartbeats 4000000 in
theorem number_a {w : World} {r B : Nat} {ps : List Pq} {x : Pa} {lv : Value} {A : Option Addr} {c : Nat} (n : Nm) (h : RSF w r B ps x lv A c) (hk : lacks x = true) :
    Calls Tryd.prog 70 #[.pointer (some ⟨r, 0, none⟩), .agg #[.int .i64 n.n, .int .i64 n.p]] w fun e w' => e = .returned (.bool true) ∧ RS w' r B (addN (ps.map (·.x), x) n) ∧ Below B w w' ∧ Kt ktN w w' := by
  go_enter Tryd.func70, Tryd.ntmps70
  go_upto_region 1 with (fail)
  have hB := h.hB
  have hB0 := h.lt
  have hbx : (w.alloc (.cells #[.int .i64 n.n, .int .i64 n.p] 134)).heap[w.heap.size]? = some (.cells #[.int .i64 n.n, .int .i64 n.p] 134 (0, 0)) := heap_alloc_new w _
  have hbl : Below B w (w.alloc (.cells #[.int .i64 n.n, .int .i64 n.p] 134)) := (Below.refl _ w).alloc (by omega) _
  replace h := h.below ((Below.refl _ w).alloc (Nat.le_refl _) (.cells #[.int .i64 n.n, .int .i64 n.p] 134))
  have hkt : Kt ktN w (w.alloc (.cells #[.int .i64 n.n, .int .i64 n.p] 134)) := Kt.of_below ((Below.refl _ w).alloc (Nat.le_refl _) _)
  have hz : w.heap.size < (w.alloc (.cells #[.int .i64 n.n, .int .i64 n.p] 134)).heap.size := by simp
  generalize w.alloc (.cells #[.int .i64 n.n, .int .i64 n.p] 134) = W at *
  have K := Lib.hid (lacks_any h)
  rw [hk] at K
  have H := Lib.hid h
  have HK := Lib.hid hk
  have HB := Lib.hid hbl
  have HX := Lib.hid hbx
  have HKT0 := Lib.hid hkt
  clear h hk hbl hbx hkt
  go_wp2_with (go_at_call 58; refine K.out.mono ?_; rintro e w1 ⟨rfl, q, rfl⟩)
  have H1 := Lib.hid (H.out.heap (w' := W.drewN q) rfl)
  have HX1 : Hid ((W.drewN q).heap[w.heap.size]? = some (.cells #[.int .i64 n.n, .int .i64 n.p] 134 (0, 0))) := HX.out
  have HB1 : Hid (Below B w (W.drewN q)) := ⟨HB.out.1, HB.out.2, HB.out.3, HB.out.4, HB.out.5⟩
  have hz1' : w.heap.size < (W.drewN q).heap.size := hz
  have HK1 := HK
  have HKT : Hid (Kt ktN w (W.drewN q)) := HKT0.out.trans (Kt.of_heap rfl)
  clear HKT0
  clear H HX HB K HK hz
  generalize W.drewN q = W1 at *
  have e9 := H1.out.c9
  have f9 := H1.out.fz 9
  obtain ⟨i0, hi, hz0, hz1, hz2⟩ := info_parts info_number
  have hltW := H1.out.lt
  have hBW : B ≤ W1.heap.size := by omega
  have x0 : W1.cell? ⟨w.heap.size, 0, none⟩ = some (.int .i64 n.n) := by rw [cell_of_row W1 w.heap.size 0 _ _ (0, 0) HX1.out]; rfl
  have x1 : W1.cell? ⟨w.heap.size, 1, none⟩ = some (.int .i64 n.p) := by rw [cell_of_row W1 w.heap.size 1 _ _ (0, 0) HX1.out]; rfl
  have hnl := nn_len H1.out.mem HK1.out
  have HL := Lib.hid hnl
  go_region_law (refine step_append_lies _ rfl (.tmp 38) (.tmp 40) 102 rfl B 134 i0 _ 2 16 Tryd.underlying102 hi hz0 hz1 hz2 rfl (by decide) (.slice A x.ns.length c) x.ns.length (nmCells x.ns) (by simp [Act.eval]) (row_kept (H1.out.free HK1.out).1 fun g _ hg _ => heap_alloc_old _ _ hg) ⟨W1.heap.size, 0, none⟩ 1 1 n.v (by simp [Act.eval]) rfl (World.news_of_block (heap_alloc_new _ _)) (by simp [Nm.v, Value.oneCell']) (by decide) (by unfold maxLen; omega) (by omega) (Nat.le_trans hBW (by simp)) _ rfl ?_; intro g cap w2 hown hgr hat hg1; obtain ⟨had, hbe, hkn⟩ := RSF.added H1.out HK1.out HB1.out hgr hat hg1 hown; have hwr : w2.heap[r]? = W1.heap[r]? := grown_block hgr hltW (row_ne (H1.out.free HK1.out).1 H1.out.box (by decide)); have k9 := (World.cell?_of_block hwr).trans e9; have kf := (World.frozen?_of_block hwr).trans f9; replace had := Lib.hid had; replace hbe := Lib.hid hbe; replace hkn := Lib.hid hkn; clear hown hgr hat hg1 hwr)
  all_goals
    go_wp2_with (go_at_call 75; refine (keep_any had.out).mono ?_; rintro e w3 ⟨rfl, hrs, hb3, hk3⟩)
    go_ret
    exact ⟨rfl, hrs, hbe.out.trans hb3, (HKT.out.trans hkn.out).trans (ktA_N hk3)⟩
set_option maxRecDepth 100000 in
set_option maxHeartbeats 4000000 in
theorem number_n {w : World} {r B : Nat} {ps : List Pq} {x : Pa} {lv : Value} {A : Option Addr} {c : Nat} (n : Nm) (h : RSF w r B ps x lv A c) (hk : lacks x = false) (hl : LtIn w) (hy : letterOf x.L.a = none) :
    Calls Tryd.prog 70 #[.pointer (some ⟨r, 0, none⟩), .agg #[.int .i64 n.n, .int .i64 n.p]] w fun e w' => e = .returned (.bool false) ∧ Below B w w' ∧ Kt ktN w w' := by
  go_enter Tryd.func70, Tryd.ntmps70
  go_upto_region 1 with (fail)
  have hB := h.hB
  have hB0 := h.lt
  have h00 := h.h0
  have hbx : (w.alloc (.cells #[.int .i64 n.n, .int .i64 n.p] 134)).heap[w.heap.size]? = some (.cells #[.int .i64 n.n, .int .i64 n.p] 134 (0, 0)) := heap_alloc_new w _
  have hbl : Below B w (w.alloc (.cells #[.int .i64 n.n, .int .i64 n.p] 134)) := (Below.refl _ w).alloc (by omega) _
  replace h := h.below ((Below.refl _ w).alloc (Nat.le_refl _) (.cells #[.int .i64 n.n, .int .i64 n.p] 134))
  have hkt : Kt ktN w (w.alloc (.cells #[.int .i64 n.n, .int .i64 n.p] 134)) := Kt.of_below ((Below.refl _ w).alloc (Nat.le_refl _) _)
  have hz : w.heap.size < (w.alloc (.cells #[.int .i64 n.n, .int .i64 n.p] 134)).heap.size := by simp
  replace hl := hl.below hbl h00
  generalize w.alloc (.cells #[.int .i64 n.n, .int .i64 n.p] 134) = W at *
  have K := Lib.hid (lacks_any h)
  rw [hk] at K
  have H := Lib.hid h
  have HB := Lib.hid hbl
  have HX := Lib.hid hbx
  have HKT0 := Lib.hid hkt
  have HL0 := Lib.hid hl
  have HY0 := Lib.hid hy
  clear h hk hbl hbx hl hy hkt
  go_wp2_with (first
    | (go_at_call 58; refine K.out.mono ?_; rintro e w1 ⟨rfl, q, rfl⟩
       have H1 := Lib.hid (H.out.heap (w' := W.drewN q) rfl)
       have c6 := H1.out.c6
       have HB1 : Hid (Below B w (W.drewN q)) := ⟨HB.out.1, HB.out.2, HB.out.3, HB.out.4, HB.out.5⟩
       have HL1 : Hid (LtIn (W.drewN q)) := HL0.out)
    | (go_at_call 73; refine (letterOf_no HY0.out HL1.out).mono ?_; rintro e w2 ⟨rfl, hb2⟩
       have H2 := Lib.hid (H1.out.below hb2)
       have HB2 := Lib.hid (HB1.out.trans (hb2.mono (by have := H1.out.hB; have := H1.out.lt; omega)))
       have HX2 : Hid (w2.heap[w.heap.size]? = some (.cells #[.int .i64 n.n, .int .i64 n.p] 134 (0, 0))) := (hb2.block _ hz).trans HX.out
       have HKT2 : Hid (Kt ktN w w2) := (HKT0.out.trans (Kt.of_heap (b := W.drewN q) rfl)).trans (Kt.of_below hb2)
       have hz2' : w.heap.size < w2.heap.size := Nat.lt_of_lt_of_le hz hb2.size))
  go_ret
  exact ⟨rfl, HB2.out.alloc (by have := HB2.out.size; omega) _, HKT2.out.trans (Kt.of_below ((Below.refl _ w2).alloc (Nat.le_refl _) _))⟩
set_option maxRecDepth 100000 in
set_option maxHeartbeats 4000000 in
theorem number_b {w : World} {r B : Nat} {ps : List Pq} {x : Pa} {lv : Value} {A : Option Addr} {c : Nat} (n : Nm) (h : RSF w r B ps x lv A c) (hk : lacks x = false) (hl : LtIn w) {y : Lt} (hy : letterOf x.L.a = some y) :
    Calls Tryd.prog 70 #[.pointer (some ⟨r, 0, none⟩), .agg #[.int .i64 n.n, .int .i64 n.p]] w fun e w' => e = .returned (.bool true) ∧ RS w' r B (addN (beginR (ps.map (·.x), x) ⟨y, x.s, n.p, []⟩) n) ∧ Below B w w' ∧ Kt ktN w w' := by
  go_enter Tryd.func70, Tryd.ntmps70
  go_upto_region 1 with (fail)
  have hB := h.hB
  have hB0 := h.lt
  have h00 := h.h0
  have hbx : (w.alloc (.cells #[.int .i64 n.n, .int .i64 n.p] 134)).heap[w.heap.size]? = some (.cells #[.int .i64 n.n, .int .i64 n.p] 134 (0, 0)) := heap_alloc_new w _
  have hbl : Below B w (w.alloc (.cells #[.int .i64 n.n, .int .i64 n.p] 134)) := (Below.refl _ w).alloc (by omega) _
  replace h := h.below ((Below.refl _ w).alloc (Nat.le_refl _) (.cells #[.int .i64 n.n, .int .i64 n.p] 134))
  have hkt : Kt ktN w (w.alloc (.cells #[.int .i64 n.n, .int .i64 n.p] 134)) := Kt.of_below ((Below.refl _ w).alloc (Nat.le_refl _) _)
  have hz : w.heap.size < (w.alloc (.cells #[.int .i64 n.n, .int .i64 n.p] 134)).heap.size := by simp
  replace hl := hl.below hbl h00
  generalize w.alloc (.cells #[.int .i64 n.n, .int .i64 n.p] 134) = W at *
  have K := Lib.hid (lacks_any h)
  rw [hk] at K
  have H := Lib.hid h
  have HB := Lib.hid hbl
  have HX := Lib.hid hbx
  have HKT0 := Lib.hid hkt
  have HL0 := Lib.hid hl
  have HY0 := Lib.hid hy
  clear h hk hbl hbx hl hy hkt
  go_wp2_with (first
    | (go_at_call 58; refine K.out.mono ?_; rintro e w1 ⟨rfl, q, rfl⟩
       have H1 := Lib.hid (H.out.heap (w' := W.drewN q) rfl)
       have c6 := H1.out.c6
       have HB1 : Hid (Below B w (W.drewN q)) := ⟨HB.out.1, HB.out.2, HB.out.3, HB.out.4, HB.out.5⟩
       have HL1 : Hid (LtIn (W.drewN q)) := HL0.out)
    | (go_at_call 73; refine (letterOf_yes HY0.out HL1.out).mono ?_; rintro e w2 ⟨rfl, hb2⟩
       have H2 := Lib.hid (H1.out.below hb2)
       have HB2 := Lib.hid (HB1.out.trans (hb2.mono (by have := H1.out.hB; have := H1.out.lt; omega)))
       have HX2 : Hid (w2.heap[w.heap.size]? = some (.cells #[.int .i64 n.n, .int .i64 n.p] 134 (0, 0))) := (hb2.block _ hz).trans HX.out
       have HKT2 : Hid (Kt ktN w w2) := (HKT0.out.trans (Kt.of_heap (b := W.drewN q) rfl)).trans (Kt.of_below hb2)
       have hz2' : w.heap.size < w2.heap.size := Nat.lt_of_lt_of_le hz hb2.size))
  have hm : y ∈ ltZ :: ltT := List.mem_cons_of_mem _ (letterOf_mem HY0.out)
  have hlk : lacks ⟨y, x.s, n.p, []⟩ = true := by have := again_lacks H1.out.mem HY0.out; simpa [lacks] using this
  have HK5 := Lib.hid hlk
  have HM := Lib.hid hm
  clear hlk hm
  have H3 := Lib.hid (H2.out.below ((Below.refl _ w2).alloc (Nat.le_refl _) (.cells #[.int .u8 y.n, .int .i64 y.k, .int .i64 y.p, .string y.h, .int .i64 y.f, .int .u8 y.a] 101)))
  have HB3 := Lib.hid (HB2.out.alloc (o := .cells #[.int .u8 y.n, .int .i64 y.k, .int .i64 y.p, .string y.h, .int .i64 y.f, .int .u8 y.a] 101) (by have := HB2.out.size; omega))
  have HX3 := Lib.hid ((heap_alloc_old w2 (.cells #[.int .u8 y.n, .int .i64 y.k, .int .i64 y.p, .string y.h, .int .i64 y.f, .int .u8 y.a] 101) hz2').trans HX2.out)
  have HKT3 := Lib.hid (HKT2.out.trans (Kt.of_below (ts := ktN) ((Below.refl _ w2).alloc (Nat.le_refl _) (.cells #[.int .u8 y.n, .int .i64 y.k, .int .i64 y.p, .string y.h, .int .i64 y.f, .int .u8 y.a] 101))))
  have hlb := LB.new w2 y
  have hz3 : w2.heap.size < (w2.alloc (.cells #[.int .u8 y.n, .int .i64 y.k, .int .i64 y.p, .string y.h, .int .i64 y.f, .int .u8 y.a] 101)).heap.size := by simp
  generalize w2.alloc (.cells #[.int .u8 y.n, .int .i64 y.k, .int .i64 y.p, .string y.h, .int .i64 y.f, .int .u8 y.a] 101) = W3 at *
  have y0 := hlb.c0
  have y1 := hlb.c1
  have y2 := hlb.c2
  have y3 := hlb.c3
  have y4 := hlb.c4
  have y5 := hlb.c5
  have s7 := H3.out.c7
  have p1 : W3.cell? ⟨w.heap.size, 1, none⟩ = some (.int .i64 n.p) := by rw [cell_of_row W3 w.heap.size 1 _ _ (0, 0) HX3.out]; rfl
  go_region_with (go_at_call 74; refine (begin_any ⟨y, x.s, n.p, []⟩ (H3.out.heap (w' := W3.drew) rfl) rfl HM.out).mono ?_; rintro e w4 ⟨rfl, hrs, hb4, hk4⟩)
  all_goals
    obtain ⟨ps4, lv4, A4, c4, hps4, H4⟩ := hrs
    dsimp only [beginR] at hps4 H4
    have HK6 := HK5.out
    generalize hXX : (Pa.mk y x.s n.p []) = X at H4 hps4 HK6
    replace hXX := Lib.hid hXX
    have HK7 := Lib.hid HK6
    clear HK6 HK5
    have hz4 : w.heap.size < w4.heap.size := by have := hb4.size; have := H3.out.lt; exact Nat.lt_of_lt_of_le (Nat.lt_trans hz2' hz3) hb4.size
    have H5 := Lib.hid H4
    have HB5 := Lib.hid (Below.trans (show Below B w W3.drew from ⟨HB3.out.1, HB3.out.2, HB3.out.3, HB3.out.4, HB3.out.5⟩) hb4)
    have HPS := Lib.hid hps4
    have HKT := Lib.hid ((HKT3.out.trans (Kt.of_heap (b := W3.drew) rfl)).trans (ktA_N hk4))
    have HX5 : Hid (w4.heap[w.heap.size]? = some (.cells #[.int .i64 n.n, .int .i64 n.p] 134 (0, 0))) := hk4 _ _ _ _ (show W3.drew.heap[w.heap.size]? = _ from HX3.out) (by decide)
    clear H H1 H2 H3 HB HB1 HB2 HB3 HX HX2 HX3 HKT0 HKT2 HKT3 hk4 hlb y0 y1 y2 y3 y4 y5 s7 p1 hb4 hb2 c6 K hps4 H4 HL0 HL1
    have e9 := H5.out.c9
    have f9 := H5.out.fz 9
    obtain ⟨i0, hi, hz0, hz1, hz2⟩ := info_parts info_number
    have hltW := H5.out.lt
    have hBW : B ≤ w4.heap.size := by omega
    have x0 : w4.cell? ⟨w.heap.size, 0, none⟩ = some (.int .i64 n.n) := by rw [cell_of_row w4 w.heap.size 0 _ _ (0, 0) HX5.out]; rfl
    have x1 : w4.cell? ⟨w.heap.size, 1, none⟩ = some (.int .i64 n.p) := by rw [cell_of_row w4 w.heap.size 1 _ _ (0, 0) HX5.out]; rfl
    have hnl := nn_len H5.out.mem HK7.out
    have HL := Lib.hid hnl
    go_wp2_with (fail)
    go_region_law (refine step_append_lies _ rfl (.tmp 38) (.tmp 40) 102 rfl B 134 i0 _ 2 16 Tryd.underlying102 hi hz0 hz1 hz2 rfl (by decide) (.slice A4 X.ns.length c4) X.ns.length (nmCells X.ns) (by simp [Act.eval]) (row_kept (H5.out.free HK7.out).1 fun g _ hg _ => heap_alloc_old _ _ hg) ⟨w4.heap.size, 0, none⟩ 1 1 n.v (by simp [Act.eval]) rfl (World.news_of_block (heap_alloc_new _ _)) (by simp [Nm.v, Value.oneCell']) (by decide) (by unfold maxLen; omega) (by omega) (Nat.le_trans hBW (by simp)) _ rfl ?_; intro g cap w2 hown hgr hat hg1; obtain ⟨had, hbe, hkn⟩ := RSF.added H5.out HK7.out HB5.out hgr hat hg1 hown; have hwr : w2.heap[r]? = w4.heap[r]? := grown_block hgr hltW (row_ne (H5.out.free HK7.out).1 H5.out.box (by decide)); have k9 := (World.cell?_of_block hwr).trans e9; have kf := (World.frozen?_of_block hwr).trans f9; replace had := Lib.hid had; replace hbe := Lib.hid hbe; replace hkn := Lib.hid hkn; clear hown hgr hat hg1 hwr)
    all_goals
      go_wp2_with (go_at_call 75; refine (keep_any had.out).mono ?_; rintro e w3 ⟨rfl, hrs, hb3, hk3⟩)
      go_ret
      refine ⟨rfl, ?_, hbe.out.trans hb3, (HKT.out.trans hkn.out).trans (ktA_N hk3)⟩
      unfold addN beginR
      rw [hXX.out, HPS.out]
      exact hrs
end Go.Proofs.YtnapannphldglaaDoor
