/- An array of two numbers that came in, opened. -/
import Derived.Test.YtmcijgnbdnpanaaRowZ
import Derived.OpenShut
namespace Go.Proofs.Ytmcijgnbdnpanaa
open Go Go.ChangeShapes Go.WideShapes Go.ChangeAt Go.RowKit

theorem okWide_array {P : Program} {w : World} {r : Reach} {base : Nat} {t : TypeId} {v : Value} {n : Nat} {e : TypeId} (ht : P.underlying t = some (.array n e)) (h : Value.okWide P w r base t v) : ∃ cs, v = .agg cs ∧ cs.size = P.cellsOf t := by
  unfold Value.okWide at h
  simp only [ht] at h
  obtain ⟨cs, rfl, h1, _⟩ := h
  exact ⟨cs, rfl, h1⟩
set_option maxRecDepth 100000 in
theorem open_w2 {H : Type} {enc : TypeId × Value → H} {w : World} {base : Nat} {held : Bool} {r : Reach} {b0 : Nat} {v : Value} {d : DataW H} {p : List MemPlace}
    (hv : Value.okWide Try.prog w r b0 42 v) (h : DataW.Trod enc Try.prog w base (fun _ => true) held 42 v d p) :
    ∃ a b : Nat, v = .agg #[.int .u16 (a : Int), .int .u16 (b : Int)] ∧ a < 65536 ∧ b < 65536 := by
  have e0 : Try.prog.cellsOf 41 = 1 := by kernel_rfl
  obtain ⟨cs, rfl, hsz⟩ := okWide_array Try.underlying42 hv
  obtain ⟨x0, x1, rfl⟩ := Go.Joins.array2 (hsz.trans (by kernel_rfl))
  obtain ⟨fuel, hf⟩ := h
  obtain ⟨xs, m, _, hx, _, hl, hi⟩ := DataW.trod_array Try.underlying42 hf
  have h0 := hi 0 (by decide)
  have h1 := hi 1 (by decide)
  match xs, hl with
  | [y0, y1], _ =>
    simp [Value.cells, e0] at h0 h1
    obtain ⟨n0, hn0, _, hw0⟩ := DataW.trod_int Try.underlying41 h0
    obtain ⟨n1, hn1, _, hw1⟩ := DataW.trod_int Try.underlying41 h1
    cases hn0
    cases hn1
    obtain ⟨a, rfl, g0⟩ := nat_of_u16 hw0
    obtain ⟨b, rfl, g1⟩ := nat_of_u16 hw1
    exact ⟨a, b, rfl, by omega, by omega⟩
end Go.Proofs.Ytmcijgnbdnpanaa
