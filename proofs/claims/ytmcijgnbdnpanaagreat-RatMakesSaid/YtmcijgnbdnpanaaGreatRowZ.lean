/- A struct of a sign and limbs that came in, opened; its limbs as numbers. -/
import Derived.Test.YtmcijgnbdnpanaaGreatRow
import Derived.Lib.SmallJoins
import Derived.Test.YtmcijgnbdnpanaaGreatProg
namespace Go.Proofs.YtmcijgnbdnpanaaGreat
open Go.RowKit Go.ChangeShapes Go.WideShapes

/-- What is known of a slice of uint64 that came in. -/
def IsRow64 (w : World) (a : Option Addr) (len cap : Nat) (zs : List Int) : Prop :=
  (a = none ∧ len = 0 ∧ cap = 0 ∧ zs = []) ∨
  ∃ x, a = some x ∧ len ≤ cap ∧ cap ≤ maxLen ∧ zs.length = cap ∧ (∀ i, i < zs.length → w.cell? (x.add i) = some (.int .u64 (zs.getD i 0))) ∧ ∀ n ∈ zs, (Lit.int .u64 n).wf = true
theorem IsRow64.rd {w : World} {a : Option Addr} {len cap : Nat} {zs : List Int} (h : IsRow64 w a len cap zs) : ∃ l : List Nat, Rd .u64 w a len l ∧ Lim B64 l ∧ len ≤ cap ∧ cap ≤ maxLen := rd_of_row h
theorem IsRow64.nil {w : World} {a : Option Addr} {len cap : Nat} {zs : List Int} (h : IsRow64 w a len cap zs) : a = none → cap = 0 := by
  rcases h with ⟨_, _, h, _⟩ | ⟨x, h, _⟩
  · exact fun _ => h
  · rw [h]; exact fun e => by cases e

set_option maxRecDepth 100000 in
theorem open_zint {H : Type} {enc : TypeId × Value → H} {w : World} {base : Nat} {held : Bool} {r : Reach} {b0 : Nat} {v : Value} {d : DataW H} {p : List MemPlace}
    (hv : Value.okWide Tryz.prog w r b0 24 v) (h : DataW.Trod enc Tryz.prog w base (fun _ => true) held 24 v d p) :
    ∃ s A n c zs, v = .agg #[.bool s, .slice A n c] ∧ IsRow64 w A n c zs := by
  obtain ⟨v0, v1, y0, y1, n, rfl, _, _, h0, h1⟩ := Go.Joins.open_agg2 Tryz.underlying24 (by kernel_rfl) (by kernel_rfl) hv h
  obtain ⟨b, hb, _⟩ := DataW.trod_bool Tryz.underlying4 h0
  rcases open_ints Tryz.underlying22 Tryz.underlying91 (by kernel_rfl) h1 with ⟨hcs, _⟩ | ⟨x, l, c, zs, hcs, _, hl, hm, hz, _, hcell, hwz⟩
  · cases hb; cases hcs
    exact ⟨b, none, 0, 0, [], rfl, .inl ⟨rfl, rfl, rfl, rfl⟩⟩
  · cases hb; cases hcs
    exact ⟨b, some x, l, c, zs, rfl, .inr ⟨x, rfl, hl, hm, by simpa using hz, hcell, hwz⟩⟩
end Go.Proofs.YtmcijgnbdnpanaaGreat
