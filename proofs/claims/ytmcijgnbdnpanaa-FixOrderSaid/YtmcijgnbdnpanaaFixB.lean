/- fix.From by value: a map of one unit, gone through. -/
import Derived.Test.YtmcijgnbdnpanaaFixA
import Derived.Laws.IdiomRangeMap
import Derived.LoopN
namespace Go.Proofs.Ytmcijgnbdnpanaa
open Go Go.RowKit

abbrev oneEs (u v : Int) : Array MapEntry := #[{ key := .int .i64 u, val := .int .i64 v, born := 0 }]
theorem setObj_it (W : World) (it : Nat) (o : Obj) {a : Option Nat} {b c : Nat} {z : Array Nat} (h : W.heap[it]? = some (.mapIter a b z c)) : (setObj it o).run Try.prog W = .ok () { W with heap := W.heap.setIfInBounds it o } := by
  simp only [setObj, Sem.run, h]
theorem next_one1 (W : World) (it r : Nat) (ty : TypeId) (u v : Int) (h1 : W.heap[it]? = some (.mapIter (some r) 1 #[] 1)) (h2 : W.heap[r]? = some (.map (oneEs u v) 1)) :
    (Instr.next (.pointer (some ⟨it, 0, none⟩)) false ty).run Try.prog W = .ok (.tuple #[.bool true, .int .i64 u, .int .i64 v]) { W with heap := W.heap.setIfInBounds it (.mapIter (some r) 1 #[0] 1) } := by
  have hset := setObj_it W it (.mapIter (some r) 1 #[0] 1) h1
  simp [Instr.next, getObj, Sem.run, h1, h2, Result.andThen, choose, Question.forced, hset]
theorem next_one2 (W : World) (it r : Nat) (ty : TypeId) (u v : Int) (h1 : W.heap[it]? = some (.mapIter (some r) 1 #[0] 1)) (h2 : W.heap[r]? = some (.map (oneEs u v) 1)) :
    (Instr.next (.pointer (some ⟨it, 0, none⟩)) false ty).run Try.prog W = .ok (.tuple #[.bool false]) W := by
  simp [Instr.next, getObj, Sem.run, h1, h2, Result.andThen, choose, Question.forced]
theorem entry_one (W : World) (it r : Nat) (u v : Int) (h1 : W.heap[it]? = some (.mapIter (some r) 1 #[0] 1)) (h2 : W.heap[r]? = some (.map (oneEs u v) 1)) :
    (Instr.entry (.pointer (some ⟨it, 0, none⟩))).run Try.prog W = .ok (.tuple #[.int .i64 u, .int .i64 v]) W := by
  simp [Instr.entry, getObj, Sem.run, h1, h2, Result.andThen]

set_option maxRecDepth 100000 in
set_option maxHeartbeats 4000000 in
theorem sum_one {w : World} {r : Nat} (u v : Int) (hm : w.heap[r]? = some (.map (oneEs u v) 1)) (hu1 : 1 ≤ u) (hu2 : u < 9223372036854775808) (hv1 : -9223372036854775808 ≤ v) (hv2 : v < 9223372036854775808) :
    Calls Try.prog 45 #[.map (some r)] w (GivesQ w (Rat.divInt v u) 3) := by
  have hu0 : ((u : Int) == 0) = false := by simp; omega
  have h1 : -9223372036854775808 ≤ u := by omega
  have H1 := Lib.hid h1
  have H2 := Lib.hid hu2
  have H3 := Lib.hid hv1
  have H4 := Lib.hid hv2
  have H0 := Lib.hid hu0
  have HM := Lib.hid hm
  have HS : Hid (Rat.divInt 0 1 + Rat.divInt v u = Rat.divInt v u) := by
    show _ = _
    rw [show Rat.divInt 0 1 = 0 by decide +kernel, Rat.zero_add]
  have hrlt : r < w.heap.size := by
    rcases Nat.lt_or_ge r w.heap.size with h | h
    · exact h
    · simp [Array.getElem?_eq_none h] at hm
  clear h1 hu2 hv1 hv2 hu0 hm
  go_enter Try.func45, Try.ntmps45
  go_upto_region 1 with (fail)
  generalize hW : (w.alloc (Obj.cells #[Value.bool false, Value.slice none 0 0, Value.slice none 0 0] 26)) = W
  have hb : Below w.heap.size w W := by subst hW; exact (Below.refl _ _).alloc (Nat.le_refl _) _
  have Z : B3 W (w.heap.size) (Value.bool false) (Value.slice none 0 0) (Value.slice none 0 0) := by subst hW; exact B3.new' _ _ _ _ _ rfl
  clear hW
  go_upto_region 2 with (first
      | (go_at_call 16; (with_reducible refine (rof_q 0 1 (by decide) (by decide) (by decide) (by decide) (by decide) _).mono ?_); rintro e w_o ⟨s_o, A_o, n_o, c_o, B_o, m_o, d_o, rfl, o, hh⟩
         replace Z := Z.below hh
         have HBS := Lib.hid Z.lt
         replace hb := bend hb hh))
  generalize hW : (w_o.alloc (Obj.cells #[Value.bool s_o, Value.slice A_o n_o c_o, Value.slice B_o m_o d_o] 26)) = W2
  have hh : Below w_o.heap.size w_o W2 := by subst hW; exact (Below.refl _ _).alloc (Nat.le_refl _) _
  have T : B3 W2 (w_o.heap.size) (Value.bool s_o) (Value.slice A_o n_o c_o) (Value.slice B_o m_o d_o) := by subst hW; exact B3.new' _ _ _ _ _ rfl
  clear hW
  replace o := o.below hh
  replace Z := Z.below hh
  replace hb := bend hb hh
  have hm2 : W2.heap[r]? = some (.map (oneEs u v) 1) := (hb.block r hrlt).trans HM.out
  have hrg := run_range_map (P := Try.prog) W2 78 2 2 r (oneEs u v) 1 (by kernel_rfl) hm2
  go_wp2_with fail
  refine wp_loop_rounds 2 ?_
  rw [rounds_succ]
  generalize hW : W2.alloc (Obj.mapIter (some r) 1 #[] 1) = W3
  obtain ⟨it, hit⟩ : ∃ it, it = W2.heap.size := ⟨_, rfl⟩
  have hi1 : W3.heap[it]? = some (.mapIter (some r) 1 #[] 1) := by subst hW hit; exact heap_alloc_new _ _
  have hh : Below W2.heap.size W2 W3 := by subst hW; exact (Below.refl _ _).alloc (Nat.le_refl _) _
  have hm3 : W3.heap[r]? = some (.map (oneEs u v) 1) := (hh.block r (Nat.lt_of_lt_of_le hrlt hb.size)).trans hm2
  have hitl : it < W3.heap.size := by subst hW hit; simp
  rw [← hit]
  have hn1 : ∀ ty, _ := fun ty => next_one1 W3 it r ty u v hi1 hm3
  have HI := Lib.hid hit
  have HW3 := Lib.hid hW
  clear hrg hit hW
  go_upto_region 4 with (fail)
  generalize hW4 : ({ heap := W3.heap.setIfInBounds it (Obj.mapIter (some r) 1 #[0] 1), tape := W3.tape, drawn := W3.drawn, os := W3.os, output := W3.output } : World) = W4
  have hit := HI.out
  have hi4 : W4.heap[it]? = some (.mapIter (some r) 1 #[0] 1) := by subst hW4; simp [hitl]
  have hh4 : Below W2.heap.size W2 W4 := by
    subst hW4
    exact ⟨hh.os, hh.tape, hh.output, by simpa using hh.size, fun k hk => by
      show (W3.heap.setIfInBounds it _)[k]? = _
      rw [Array.getElem?_setIfInBounds_ne (by omega)]; exact hh.block k hk⟩
  have hm4 : W4.heap[r]? = some (.map (oneEs u v) 1) := (hh4.block r (Nat.lt_of_lt_of_le hrlt hb.size)).trans hm2
  have hW := HW3.out
  have hT0 := T.lt
  have hTit : w_o.heap.size < it := by rw [hit]; exact hT0
  have hitw : w.heap.size ≤ w_o.heap.size := Nat.le_of_lt HBS.out
  have hi4l : it < W4.heap.size := by subst hW4; simpa using hitl
  have hw4 : W4.heap.size = it + 1 := by subst hW4; rw [hit, ← hW]; simp
  clear hn1 hW4 hi1 hW hm3 hitl hm2 hh hT0
  clear hit HW3
  replace o := o.below hh4
  replace Z := Z.below hh4
  replace T := T.below hh4
  replace hb := bend hb hh4
  clear hh4
  have hen := entry_one W4 it r u v hi4 hm4
  go_upto_region 6 with (fail)
  clear hen
  have Hi4 : Hid (W4.drew.heap[it]? = some (.mapIter (some r) 1 #[0] 1)) := hi4
  have Hm4 : Hid (W4.drew.heap[r]? = some (.map (oneEs u v) 1)) := hm4
  clear hi4 hm4
  have hw4d : W4.drew.heap.size = it + 1 := hw4
  replace o := o.below (Below.refl _ _).drew
  replace Z := Z.below (Below.refl _ _).drew
  replace T := T.below (Below.refl _ _).drew
  replace hb := hb.drew
  have t0 := T.c0
  have t1 := T.c1
  have t2 := T.c2
  have zf0 := T.f0
  have zf1 := T.f1
  have zf2 := T.f2
  have z0 := T.c0
  have z1 := T.c1
  have z2 := T.c2
  go_region_with (first
    | (go_at_call 16; (with_reducible refine (rof_q v u H3.out H4.out H1.out H2.out H0.out _).mono ?_); rintro e w_q ⟨s_q, A_q, n_q, c_q, B_q, m_q, d_q, rfl, q, hh⟩
       try replace o := o.below hh
       try replace t := t.below hh
       try replace T := T.below hh
       try replace Z := Z.below hh
       replace hb := bend hb hh
       have t0 := T.c0
       have t1 := T.c1
       have t2 := T.c2
       have hh1 := hh
       have zf0 := T.f0
       have zf1 := T.f1
       have zf2 := T.f2
       have t0 := T.c0
       have t1 := T.c1
       have t2 := T.c2)
    | (go_at_call 26; (with_reducible refine (radd_q o.qr q.qr (by decide) (by decide) (.inl (by decide)) (by decide) (by decide)).mono ?_); rintro e w_t ⟨s_t, A_t, n_t, c_t, B_t, m_t, d_t, rfl, t, hh⟩
       try replace o := o.below hh
       try replace q := q.below hh
       try replace T := T.below hh
       try replace Z := Z.below hh
       replace hb := bend hb hh
       have t0 := T.c0
       have t1 := T.c1
       have t2 := T.c2
       have zf0 := T.f0
       have zf1 := T.f1
       have zf2 := T.f2
       have z0 := T.c0
       have z1 := T.c1
       have z2 := T.c2))
  all_goals
    have hh5 := hh1.trans (hh.mono hh1.size)
    have hi5 : w_t.heap[it]? = some (.mapIter (some r) 1 #[0] 1) := (hh5.block it (by omega)).trans Hi4.out
    have hm5 : w_t.heap[r]? = some (.map (oneEs u v) 1) := (hh5.block r (by omega)).trans Hm4.out
    generalize hW5 : (((w_t.setCell ⟨w_o.heap.size, 0, none⟩ (Value.bool s_t)).setCell ⟨w_o.heap.size, 1, none⟩ (Value.slice A_t n_t c_t)).setCell ⟨w_o.heap.size, 2, none⟩ (Value.slice B_t m_t d_t)) = W5
    have hz3 : ∀ k, k ≠ w_o.heap.size → W5.heap[k]? = w_t.heap[k]? := by
      intro k hk
      subst hW5
      rw [Below.heap_setCell _ _ _ _ hk, Below.heap_setCell _ _ _ _ hk, Below.heap_setCell _ _ _ _ hk]
    have T5 : B3 W5 w_o.heap.size (Value.bool s_t) (Value.slice A_t n_t c_t) (Value.slice B_t m_t d_t) := by subst hW5; exact T.set3 _ _ _
    have t5 : QG W5 s_t A_t n_t c_t B_t m_t d_t (Rat.divInt v u) 3 := by
      subst hW5
      rw [HS.out] at t
      exact t.set3 T _ _ _
    have hb5 : Below w.heap.size w W5 := by subst hW5; exact below_set3 hb hitw _ _ _
    have hwlt : w.heap.size < w_o.heap.size := by have := HBS.out; omega
    have Z5 : B3 W5 w.heap.size (Value.bool false) (Value.slice none 0 0) (Value.slice none 0 0) := (hz3 _ (by omega)).trans Z
    have hi6 : W5.heap[it]? = _ := (hz3 it (by omega)).trans hi5
    have hm6 : W5.heap[r]? = _ := (hz3 r (by omega)).trans hm5
    clear hz3 hW5 hh5 hi5 hm5 hh hh1 o q T Z hb t
    have hn2 : ∀ ty, _ := fun ty => next_one2 W5 it r ty u v hi6 hm6
    clear hi6 hm6
    have zf0 := Z5.f0
    have zf1 := Z5.f1
    have zf2 := Z5.f2
    have z0 := Z5.c0
    have z1 := Z5.c1
    have z2 := Z5.c2
    have t0 := T5.c0
    have t1 := T5.c1
    have t2 := T5.c2
    go_wp2_with fail
    rw [rounds_succ]
    go_wp2_with fail
    have Z2 := Z5.set3 (.bool s_t) (.slice A_t n_t c_t) (.slice B_t m_t d_t)
    have g0 := Z2.c0
    have g1 := Z2.c1
    have g2 := Z2.c2
    refine bodyPost_ret (v := .agg #[.bool s_t, .slice A_t n_t c_t, .slice B_t m_t d_t]) (by simp [results, Try.results45, go_sem, g0, g1, g2]) rfl ?_
    exact ⟨s_t, A_t, n_t, c_t, B_t, m_t, d_t, rfl, t5.set3 Z5 _ _ _, below_set3 hb5 (Nat.le_refl _) _ _ _⟩

theorem und_parts : Try.prog.underlying 78 = some (.map 2 2) := by kernel_rfl
theorem und_i64 : Try.prog.underlying 2 = some (.int .i64) := by kernel_rfl
theorem run_updF {w : World} {r : Nat} (u v : Int) (hb : w.heap[r]? = some (.map #[] 0)) :
    (Instr.mapUpdate 78 (.map (some r)) (.int .i64 u) (.int .i64 v)).run Try.prog w = .ok () (setMap w r (oneEs u v) 1) := by
  have hk : Go.MapKept.IsKey (.int .i64) (.int .i64 u) := rfl
  have h1 : Instr.findNow (.int .i64) (.int .i64 u) (#[] : Array MapEntry).toList 0 = some none := rfl
  simp [Instr.mapUpdate, run_underlying und_parts, Go.MapKept.run_getObj_map hb, Go.MapKept.run_checkKey und_i64 hk, Go.MapKept.run_findKey und_i64 h1, Go.MapKept.run_setObj_map _ hb, Result.andThen, setMap]
theorem small1 {v u : Int} (hu1 : 1 ≤ u) (hu2 : u < 9223372036854775808) (hv1 : -9223372036854775808 ≤ v) (hv2 : v < 9223372036854775808) : (Rat.divInt v u).num.natAbs < B64 ^ 1 ∧ (Rat.divInt v u).den < B64 ^ 1 := by
  have h0 : u ≠ 0 := by omega
  rw [div_num h0, div_den h0, Nat.pow_one]
  have h1 := Nat.div_le_self v.natAbs (Nat.gcd v.natAbs u.natAbs)
  have h2 := Nat.div_le_self u.natAbs (Nat.gcd v.natAbs u.natAbs)
  have : B64 = 18446744073709551616 := rfl
  omega
set_option maxRecDepth 100000 in
set_option maxHeartbeats 4000000 in
theorem from_q (v u : Int) (hu1 : 1 ≤ u) (hu2 : u < 9223372036854775808) (hv1 : -9223372036854775808 ≤ v) (hv2 : v < 9223372036854775808) (w : World) :
    Calls Try.prog 20 #[.int .i64 v, .int .i64 u] w (GivesQ w (Rat.divInt v u) 1) := by
  have hs := small1 hu1 hu2 hv1 hv2
  have HS := Lib.hid hs
  have H1 := Lib.hid hu1
  have H2 := Lib.hid hu2
  have H3 := Lib.hid hv1
  have H4 := Lib.hid hv2
  clear hs hu1 hu2 hv1 hv2
  have hmm := @run_makeMap Try.prog
  go_enter Try.func20, Try.ntmps20
  go_upto_region 1 with (fail)
  generalize hW : (w.alloc (Obj.cells #[Value.bool false, Value.slice none 0 0, Value.slice none 0 0] 26)) = W
  have hb : Below w.heap.size w W := by subst hW; exact (Below.refl _ _).alloc (Nat.le_refl _) _
  have Z : B3 W (w.heap.size) (Value.bool false) (Value.slice none 0 0) (Value.slice none 0 0) := by subst hW; exact B3.new' _ _ _ _ _ rfl
  clear hW
  have h0 : (W.alloc (.map #[] 0)).heap[W.heap.size]? = some (.map #[] 0) := heap_alloc_new W _
  have hi0 := run_updF u v h0
  have h2 : Below W.heap.size W (setMap (W.alloc (.map #[] 0)) W.heap.size (oneEs u v) 1) := below_setMap ((Below.refl _ _).alloc (Nat.le_refl _) _) (Nat.le_refl _) _ _
  have hm : (setMap (W.alloc (.map #[] 0)) W.heap.size (oneEs u v) 1).heap[W.heap.size]? = some (.map (oneEs u v) 1) := setMap_at (by simp)
  have HM := Lib.hid hm
  clear h0 hm
  go_wp2_with (first
      | (go_at_call 45; (with_reducible refine (sum_one u v HM.out H1.out H2.out H3.out H4.out).mono ?_); rintro e w_t ⟨s_t, A_t, n_t, c_t, B_t, m_t, d_t, rfl, t, hh⟩
         replace Z := Z.below h2
         replace hb := bend hb h2
         try replace Z := Z.below hh
         replace hb := bend hb hh
         have zf0 := Z.f0
         have zf1 := Z.f1
         have zf2 := Z.f2
         have z0 := Z.c0
         have z1 := Z.c1
         have z2 := Z.c2))
  replace t := t.tight HS.out.1 HS.out.2
  have Z2 := Z.set3 (.bool s_t) (.slice A_t n_t c_t) (.slice B_t m_t d_t)
  have g0 := Z2.c0
  have g1 := Z2.c1
  have g2 := Z2.c2
  refine bodyPost_ret (v := .agg #[.bool s_t, .slice A_t n_t c_t, .slice B_t m_t d_t]) (by simp [results, Try.results20, go_sem, g0, g1, g2]) rfl ?_
  exact ⟨s_t, A_t, n_t, c_t, B_t, m_t, d_t, rfl, t.set3 Z _ _ _, below_set3 hb (by omega) _ _ _⟩
end Go.Proofs.Ytmcijgnbdnpanaa
