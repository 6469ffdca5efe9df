/- What a row's proof knows of an argument, in the words of the walks. -/
import Derived.Test.YtmcijgnbdnpanaaGreatBase
import Derived.OpenShut
namespace Go.Proofs.YtmcijgnbdnpanaaGreat
open Go.RowKit
theorem B64_eq' : B64 = 18446744073709551616 := rfl

/-- A slice of uint64 that came in reads as limbs. -/
theorem rd_of_row {w : World} {a : Option Addr} {len cap : Nat} {zs : List Int}
    (h : (a = none ∧ len = 0 ∧ cap = 0 ∧ zs = []) ∨
      ∃ x, a = some x ∧ len ≤ cap ∧ cap ≤ maxLen ∧ zs.length = cap ∧ (∀ i, i < zs.length → w.cell? (x.add i) = some (.int .u64 (zs.getD i 0))) ∧ ∀ n ∈ zs, (Lit.int .u64 n).wf = true) :
    ∃ l : List Nat, Rd .u64 w a len l ∧ Lim B64 l ∧ len ≤ cap ∧ cap ≤ maxLen := by
  rcases h with ⟨rfl, rfl, rfl, rfl⟩ | ⟨x, rfl, hl, hm, hz, hc, hw⟩
  · exact ⟨[], Rd.nil, Lim.nil, Nat.le_refl _, Nat.zero_le _⟩
  · refine ⟨(zs.take len).map Int.toNat, ⟨by simp; omega, fun hn => ?_⟩, ?_, hl, hm⟩
    · obtain ⟨b, o, spot⟩ := x
      have h0 := hc 0 (by omega)
      have hspot : spot = none := by simpa [Addr.add] using World.cell?_spot h0
      subst hspot
      refine ⟨b, o, rfl, fun j y hy => ?_⟩
      have hj : j < len := by
        have := (List.getElem?_eq_some_iff.1 hy).1
        simp at this; omega
      have := hc j (by omega)
      rw [add_at] at this
      rw [this]
      rw [List.getElem?_map, List.getElem?_take, if_pos hj, List.getElem?_eq_getElem (by omega)] at hy
      simp only [Option.map_some, Option.some.injEq] at hy
      have hb := bounds_u64 (hw _ (List.getElem_mem (show j < zs.length by omega)))
      rw [List.getD_eq_getElem?_getD, List.getElem?_eq_getElem (by omega), Option.getD_some, ← hy, Int.toNat_of_nonneg hb.1]
    · intro y hy
      obtain ⟨z, hz2, rfl⟩ := List.mem_map.1 hy
      have hb := bounds_u64 (hw z (List.mem_of_mem_take hz2))
      rw [B64_eq']
      omega
theorem nat_of_u16 {x : Int} (h : (Lit.int .u16 x).wf = true) : ∃ k : Nat, x = (k : Int) ∧ k ≤ 65535 := by
  have := bounds_u16 h
  exact ⟨x.toNat, by omega, by omega⟩
theorem nat_of_u64 {x : Int} (h : (Lit.int .u64 x).wf = true) : ∃ k : Nat, x = (k : Int) ∧ k < B64 := by
  have := bounds_u64 h
  refine ⟨x.toNat, by omega, ?_⟩
  rw [B64_eq']; omega
end Go.Proofs.YtmcijgnbdnpanaaGreat
