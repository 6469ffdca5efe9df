/- An array of two numbers that came in, opened. -/
import Derived.Test.YtmcijgnbdnpanaaGreatRowZ
import Derived.OpenShut
namespace Go.Proofs.YtmcijgnbdnpanaaGreat
open Go Go.ChangeShapes Go.WideShapes Go.ChangeAt Go.RowKit

theorem okWide_array {P : Program} {w : World} {r : Reach} {base : Nat} {t : TypeId} {v : Value} {n : Nat} {e : TypeId} (ht : P.underlying t = some (.array n e)) (h : Value.okWide P w r base t v) : ∃ cs, v = .agg cs ∧ cs.size = P.cellsOf t := by
  unfold Value.okWide at h
  simp only [ht] at h
  obtain ⟨cs, rfl, h1, _⟩ := h
  exact ⟨cs, rfl, h1⟩
set_option maxRecDepth 100000 in
theorem open_l2 {H : Type} {enc : TypeId × Value → H} {w : World} {base : Nat} {held : Bool} {r : Reach} {b0 : Nat} {v : Value} {d : DataW H} {p : List MemPlace}
    (hv : Value.okWide Tryz.prog w r b0 50 v) (h : DataW.Trod enc Tryz.prog w base (fun _ => true) held 50 v d p) :
    ∃ a b : Int, v = .agg #[.int .i64 a, .int .i64 b] ∧ (-9223372036854775808 ≤ a ∧ a < 9223372036854775808) ∧ -9223372036854775808 ≤ b ∧ b < 9223372036854775808 := by
  have e0 : Tryz.prog.cellsOf 2 = 1 := by kernel_rfl
  obtain ⟨cs, rfl, hsz⟩ := okWide_array Tryz.underlying50 hv
  obtain ⟨x0, x1, rfl⟩ := Go.Joins.array2 (hsz.trans (by kernel_rfl))
  obtain ⟨fuel, hf⟩ := h
  obtain ⟨xs, m, _, hx, _, hl, hi⟩ := DataW.trod_array Tryz.underlying50 hf
  have h0 := hi 0 (by decide)
  have h1 := hi 1 (by decide)
  match xs, hl with
  | [y0, y1], _ =>
    simp [Value.cells, e0] at h0 h1
    obtain ⟨n0, hn0, _, hw0⟩ := DataW.trod_int Tryz.underlying2 h0
    obtain ⟨n1, hn1, _, hw1⟩ := DataW.trod_int Tryz.underlying2 h1
    cases hn0
    cases hn1
    have g0 := bounds_i64 hw0
    have g1 := bounds_i64 hw1
    exact ⟨n0, n1, rfl, by omega, by omega⟩
end Go.Proofs.YtmcijgnbdnpanaaGreat
