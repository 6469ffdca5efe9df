/- Arrays of numbers of 16 bits that came in, opened. -/
import Derived.Test.YtnapannphldglaaDoorPathRw
import Derived.Test.YtnapannphldglaaDoorPathP3
namespace Go.Proofs.YtnapannphldglaaDoor
open Go Go.ChangeShapes Go.WideShapes Go.ChangeAt Go.RowKit

theorem okWide_arr {P : Program} {w : World} {r : Reach} {base : Nat} {t : TypeId} {v : Value} {n : Nat} {e : TypeId} (ht : P.underlying t = some (.array n e)) (h : Value.okWide P w r base t v) : ∃ cs, v = .agg cs ∧ cs.size = P.cellsOf t := by
  unfold Value.okWide at h
  simp only [ht] at h
  obtain ⟨cs, rfl, h1, _⟩ := h
  exact ⟨cs, rfl, h1⟩
theorem i16_of {l : List Int} (h : ∀ v ∈ l, i16 v) (i : Nat) : i16 (l.getD i 0) := by
  rw [List.getD_eq_getElem?_getD]
  cases hl : l[i]? with
  | none => exact ⟨by decide, by decide⟩
  | some v => exact h v (List.mem_of_getElem? hl)
set_option maxRecDepth 100000 in
theorem open_a8 {H : Type} {enc : TypeId × Value → H} {w : World} {base : Nat} {held : Bool} {r : Reach} {b0 : Nat} {v : Value} {d : DataW H} {p : List MemPlace}
    (hv : Value.okWide Tryd.prog w r b0 37 v) (h : DataW.Trod enc Tryd.prog w base (fun _ => true) held 37 v d p) :
    ∃ n : Nat → Int, v = .agg #[.int .i16 (n 0), .int .i16 (n 1), .int .i16 (n 2), .int .i16 (n 3), .int .i16 (n 4), .int .i16 (n 5), .int .i16 (n 6), .int .i16 (n 7)] ∧ ∀ i, i16 (n i) := by
  have e0 : Tryd.prog.cellsOf 36 = 1 := by kernel_rfl
  obtain ⟨cs, rfl, hsz⟩ := okWide_arr Tryd.underlying37 hv
  replace hsz : cs.size = 8 := hsz.trans (by kernel_rfl)
  obtain ⟨cl⟩ := cs
  obtain ⟨fuel, hf⟩ := h
  obtain ⟨xs, m, _, hx, _, hl, hi⟩ := DataW.trod_array Tryd.underlying37 hf
  have h0 := hi 0 (by decide)
  have h1 := hi 1 (by decide)
  have h2 := hi 2 (by decide)
  have h3 := hi 3 (by decide)
  have h4 := hi 4 (by decide)
  have h5 := hi 5 (by decide)
  have h6 := hi 6 (by decide)
  have h7 := hi 7 (by decide)
  match cl, hsz, xs, hl with
  | [x0, x1, x2, x3, x4, x5, x6, x7], _, [y0, y1, y2, y3, y4, y5, y6, y7], _ =>
    simp [Value.cells, e0] at h0 h1 h2 h3 h4 h5 h6 h7
    obtain ⟨n0, q0, _, w0⟩ := DataW.trod_int Tryd.underlying36 h0
    replace w0 := bounds_i16 w0
    obtain ⟨n1, q1, _, w1⟩ := DataW.trod_int Tryd.underlying36 h1
    replace w1 := bounds_i16 w1
    obtain ⟨n2, q2, _, w2⟩ := DataW.trod_int Tryd.underlying36 h2
    replace w2 := bounds_i16 w2
    obtain ⟨n3, q3, _, w3⟩ := DataW.trod_int Tryd.underlying36 h3
    replace w3 := bounds_i16 w3
    obtain ⟨n4, q4, _, w4⟩ := DataW.trod_int Tryd.underlying36 h4
    replace w4 := bounds_i16 w4
    obtain ⟨n5, q5, _, w5⟩ := DataW.trod_int Tryd.underlying36 h5
    replace w5 := bounds_i16 w5
    obtain ⟨n6, q6, _, w6⟩ := DataW.trod_int Tryd.underlying36 h6
    replace w6 := bounds_i16 w6
    obtain ⟨n7, q7, _, w7⟩ := DataW.trod_int Tryd.underlying36 h7
    replace w7 := bounds_i16 w7
    cases q0; cases q1; cases q2; cases q3; cases q4; cases q5; cases q6; cases q7
    refine ⟨fun i => [n0, n1, n2, n3, n4, n5, n6, n7].getD i 0, rfl, i16_of fun v hv => ?_⟩
    simp only [List.mem_cons, List.not_mem_nil, or_false] at hv
    unfold i16
    rcases hv with rfl | rfl | rfl | rfl | rfl | rfl | rfl | rfl <;> omega
set_option maxRecDepth 100000 in
theorem open_a6 {H : Type} {enc : TypeId × Value → H} {w : World} {base : Nat} {held : Bool} {r : Reach} {b0 : Nat} {v : Value} {d : DataW H} {p : List MemPlace}
    (hv : Value.okWide Tryd.prog w r b0 41 v) (h : DataW.Trod enc Tryd.prog w base (fun _ => true) held 41 v d p) :
    ∃ n : Nat → Int, v = .agg #[.int .i16 (n 0), .int .i16 (n 1), .int .i16 (n 2), .int .i16 (n 3), .int .i16 (n 4), .int .i16 (n 5)] ∧ ∀ i, i16 (n i) := by
  have e0 : Tryd.prog.cellsOf 36 = 1 := by kernel_rfl
  obtain ⟨cs, rfl, hsz⟩ := okWide_arr Tryd.underlying41 hv
  replace hsz : cs.size = 6 := hsz.trans (by kernel_rfl)
  obtain ⟨cl⟩ := cs
  obtain ⟨fuel, hf⟩ := h
  obtain ⟨xs, m, _, hx, _, hl, hi⟩ := DataW.trod_array Tryd.underlying41 hf
  have h0 := hi 0 (by decide)
  have h1 := hi 1 (by decide)
  have h2 := hi 2 (by decide)
  have h3 := hi 3 (by decide)
  have h4 := hi 4 (by decide)
  have h5 := hi 5 (by decide)
  match cl, hsz, xs, hl with
  | [x0, x1, x2, x3, x4, x5], _, [y0, y1, y2, y3, y4, y5], _ =>
    simp [Value.cells, e0] at h0 h1 h2 h3 h4 h5
    obtain ⟨n0, q0, _, w0⟩ := DataW.trod_int Tryd.underlying36 h0
    replace w0 := bounds_i16 w0
    obtain ⟨n1, q1, _, w1⟩ := DataW.trod_int Tryd.underlying36 h1
    replace w1 := bounds_i16 w1
    obtain ⟨n2, q2, _, w2⟩ := DataW.trod_int Tryd.underlying36 h2
    replace w2 := bounds_i16 w2
    obtain ⟨n3, q3, _, w3⟩ := DataW.trod_int Tryd.underlying36 h3
    replace w3 := bounds_i16 w3
    obtain ⟨n4, q4, _, w4⟩ := DataW.trod_int Tryd.underlying36 h4
    replace w4 := bounds_i16 w4
    obtain ⟨n5, q5, _, w5⟩ := DataW.trod_int Tryd.underlying36 h5
    replace w5 := bounds_i16 w5
    cases q0; cases q1; cases q2; cases q3; cases q4; cases q5
    refine ⟨fun i => [n0, n1, n2, n3, n4, n5].getD i 0, rfl, i16_of fun v hv => ?_⟩
    simp only [List.mem_cons, List.not_mem_nil, or_false] at hv
    unfold i16
    rcases hv with rfl | rfl | rfl | rfl | rfl | rfl <;> omega
end Go.Proofs.YtnapannphldglaaDoor
