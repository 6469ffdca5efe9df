/- A struct of a struct of a sign and limbs, and limbs, that came in: opened. -/
import Derived.Test.YtmcijgnbdnpanaaRowZ
import Derived.Lib.SmallJoins
namespace Go.Proofs.Ytmcijgnbdnpanaa
open Go Go.ChangeShapes Go.WideShapes Go.ChangeAt Go.RowKit

set_option maxRecDepth 100000 in
theorem open_zrat {H : Type} {enc : TypeId × Value → H} {w : World} {base : Nat} {held : Bool} {r : Reach} {b0 : Nat} {v : Value} {d : DataW H} {p : List MemPlace}
    (hv : Value.okWide Try.prog w r b0 26 v) (h : DataW.Trod enc Try.prog w base (fun _ => true) held 26 v d p) :
    ∃ s A n c zs A' n' c' zs', v = .agg #[.bool s, .slice A n c, .slice A' n' c'] ∧ IsRow64 w A n c zs ∧ IsRow64 w A' n' c' zs' := by
  have e0 : Try.prog.cellsOf 24 = 2 := by kernel_rfl
  have e1 : Try.prog.cellsOf 22 = 1 := by kernel_rfl
  have e2 : Try.prog.cellsOf 4 = 1 := by kernel_rfl
  obtain ⟨cs, rfl, hsz⟩ := okWide_struct Try.underlying26 hv
  obtain ⟨x0, x1, x2, rfl⟩ := Go.Joins.array3 (hsz.trans (by kernel_rfl))
  obtain ⟨fuel, hf⟩ := h
  obtain ⟨y0, y1, n, hx, _, h0, h1⟩ := trod_struct2 Try.underlying26 hf
  simp [Value.cells, e0] at h0
  simp [Value.cells, e1] at h1
  obtain ⟨z0, z1, m, hx2, _, h2, h3⟩ := trod_struct2 Try.underlying24 h0
  simp [e2] at h2
  simp [e1] at h3
  obtain ⟨b, hb, _⟩ := DataW.trod_bool Try.underlying4 h2
  cases hb
  rcases open_ints Try.underlying22 Try.underlying73 (by kernel_rfl) h3 with ⟨hcs, _⟩ | ⟨x, l, c, zs, hcs, _, hl, hm, hz, _, hcell, hwz⟩
  · cases hcs
    rcases open_ints Try.underlying22 Try.underlying73 (by kernel_rfl) h1 with ⟨hcs, _⟩ | ⟨x, l, c, zs, hcs, _, hl, hm, hz, _, hcell, hwz⟩
    · cases hcs
      exact ⟨b, none, 0, 0, [], none, 0, 0, [], rfl, .inl ⟨rfl, rfl, rfl, rfl⟩, .inl ⟨rfl, rfl, rfl, rfl⟩⟩
    · cases hcs
      exact ⟨b, none, 0, 0, [], some x, l, c, zs, rfl, .inl ⟨rfl, rfl, rfl, rfl⟩, .inr ⟨x, rfl, hl, hm, by simpa using hz, hcell, hwz⟩⟩
  · cases hcs
    rcases open_ints Try.underlying22 Try.underlying73 (by kernel_rfl) h1 with ⟨hcs, _⟩ | ⟨x2, l2, c2, zs2, hcs, _, hl2, hm2, hz2, _, hcell2, hwz2⟩
    · cases hcs
      exact ⟨b, some x, l, c, zs, none, 0, 0, [], rfl, .inr ⟨x, rfl, hl, hm, by simpa using hz, hcell, hwz⟩, .inl ⟨rfl, rfl, rfl, rfl⟩⟩
    · cases hcs
      exact ⟨b, some x, l, c, zs, some x2, l2, c2, zs2, rfl, .inr ⟨x, rfl, hl, hm, by simpa using hz, hcell, hwz⟩, .inr ⟨x2, rfl, hl2, hm2, by simpa using hz2, hcell2, hwz2⟩⟩
end Go.Proofs.Ytmcijgnbdnpanaa
