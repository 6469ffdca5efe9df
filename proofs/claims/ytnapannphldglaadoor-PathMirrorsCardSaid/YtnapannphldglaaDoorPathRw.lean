/- A slice of parts that came in: opened; what the listed variables give. -/
import Derived.Test.YtnapannphldglaaDoorProg
import Derived.WalkKit
import Derived.ProofKit
import Derived.OpenShut
import Derived.LaidMore
import Derived.Stop.Joined
import Derived.Stop.LaidErr
import Derived.Lib.LaidTab
import Derived.Lib.AppendIntMem
import Derived.Test.YtnapannphldglaaDoorRows
import Derived.Test.YtnapannphldglaaDoorPathU
namespace Go.Proofs.YtnapannphldglaaDoor
open Go Go.ChangeShapes Go.WideShapes Go.ChangeAt Go.RowKit

set_option maxRecDepth 100000 in
theorem open_seg8 {H : Type} {enc : TypeId × Value → H} {w : World} {base fuel : Nat} {sp : Nat → Bool} {held : Bool} {x0 x1 x2 x3 x4 x5 x6 x7 : Value} {y : DataW H × List MemPlace}
    (h : DataW.trod enc Tryd.prog w base sp held fuel 27 [x0, x1, x2, x3, x4, x5, x6, x7] = some y) :
    ∃ s : Sg, [x0, x1, x2, x3, x4, x5, x6, x7] = s.v := by
  have e0 : Tryd.prog.cellsOf 3 = 1 := by kernel_rfl
  have e1 : Tryd.prog.cellsOf 2 = 1 := by kernel_rfl
  have e6 : Tryd.prog.cellsOf 25 = 6 := by kernel_rfl
  obtain ⟨zs, m, _, _, _, hzl, hzf⟩ := DataW.trod_struct Tryd.underlying27 h
  have h2 := hzf 0 _ rfl
  have h3 := hzf 1 _ rfl
  have h4 := hzf 2 _ rfl
  match zs, hzl with
  | [z0, z1, z2], _ =>
  simp [e0] at h2
  simp [e6] at h3
  simp [e1] at h4
  obtain ⟨k, hk, _⟩ := DataW.trod_int Tryd.underlying3 h2
  obtain ⟨wt, hw, _⟩ := DataW.trod_int Tryd.underlying2 h4
  cases hk
  cases hw
  obtain ⟨xs, m, _, hx, _, hl, hi⟩ := DataW.trod_array Tryd.underlying25 h3
  have i0 := hi 0 (by decide)
  have i1 := hi 1 (by decide)
  have i2 := hi 2 (by decide)
  have i3 := hi 3 (by decide)
  have i4 := hi 4 (by decide)
  have i5 := hi 5 (by decide)
  match xs, hl with
  | [y0, y1, y2, y3, y4, y5], _ =>
    simp [e1] at i0 i1 i2 i3 i4 i5
    obtain ⟨n0, q0, _⟩ := DataW.trod_int Tryd.underlying2 i0
    obtain ⟨n1, q1, _⟩ := DataW.trod_int Tryd.underlying2 i1
    obtain ⟨n2, q2, _⟩ := DataW.trod_int Tryd.underlying2 i2
    obtain ⟨n3, q3, _⟩ := DataW.trod_int Tryd.underlying2 i3
    obtain ⟨n4, q4, _⟩ := DataW.trod_int Tryd.underlying2 i4
    obtain ⟨n5, q5, _⟩ := DataW.trod_int Tryd.underlying2 i5
    cases q0; cases q1; cases q2; cases q3; cases q4; cases q5
    exact ⟨⟨k, n0, n1, n2, n3, n4, n5, wt⟩, rfl⟩
set_option maxRecDepth 100000 in
set_option maxHeartbeats 1000000 in
theorem open_segs {H : Type} {enc : TypeId × Value → H} {w : World} {base : Nat} {held : Bool} {r : Reach} {b0 : Nat} {v : Value} {d : DataW H} {p : List MemPlace}
    (hv : Value.okWide Tryd.prog w r b0 22 v) (h : DataW.Trod enc Tryd.prog w base (fun _ => true) held 22 v d p) :
    ∃ (A : Option Addr) (n c : Nat) (l : List Sg), v = .slice A n c ∧ SGV w A l ∧ l.length = n ∧ n ≤ c ∧ n ≤ maxLen := by
  obtain ⟨A, n, c, rfl⟩ := okWide_slice Tryd.underlying22 hv
  have e8 : Tryd.prog.cellsOf 27 = 8 := by kernel_rfl
  obtain ⟨fuel, hf⟩ := h
  rcases DataW.trod_slice Tryd.underlying22 hf with ⟨h0, _⟩ | ⟨a, len, cap, elems, rest, m, _, h0, _, hb, hl, hm, hlen, hel, _, _⟩
  · simp [Value.cells] at h0
    obtain ⟨rfl, rfl, rfl⟩ := h0
    exact ⟨none, 0, 0, [], rfl, .inl rfl, rfl, Nat.le_refl _, Nat.zero_le _⟩
  · simp [Value.cells] at h0
    obtain ⟨rfl, rfl, rfl⟩ := h0
    rw [e8] at hel
    have each : ∀ i, i < n → ∃ q : Sg, ∀ j u, q.v[j]? = some u → w.cell? ((a.add (i * 8)).add j) = some u := by
      intro i hi
      have h1 := hel i hi
      rw [List.getElem?_eq_getElem (by rw [hlen]; exact hi)] at h1
      obtain ⟨cs, hc1, hc2⟩ := Option.bind_eq_some_iff.1 h1
      unfold World.cells? at hc1
      split at hc1
      · have hcl := mapM_some_length hc1
        have hcg := fun k (hk : k < 8) => mapM_some_get hc1 k k (by simp [hk])
        rw [List.length_range] at hcl
        match cs, hcl with
        | [x0, x1, x2, x3, x4, x5, x6, x7], _ =>
          obtain ⟨s, hs⟩ := open_seg8 hc2
          refine ⟨s, fun j u hu => ?_⟩
          have hj : j < 8 := (List.getElem?_eq_some_iff.1 hu).1
          have := hcg j hj
          rw [this, hs]; exact hu
      · cases hc1
    obtain ⟨L, hL, hq⟩ : ∃ L : List Sg, L.length = n ∧ ∀ i q, L[i]? = some q → ∀ j u, q.v[j]? = some u → w.cell? ((a.add (i * 8)).add j) = some u := by
      have : ∀ m, m ≤ n → ∃ L : List Sg, L.length = m ∧ ∀ i q, L[i]? = some q → ∀ j u, q.v[j]? = some u → w.cell? ((a.add (i * 8)).add j) = some u := by
        intro m
        induction m with
        | zero => intro _; exact ⟨[], rfl, fun i q h => by cases h⟩
        | succ m ih =>
          intro hm
          obtain ⟨L, h1, h2⟩ := ih (by omega)
          obtain ⟨q, h3⟩ := each m (by omega)
          refine ⟨L ++ [q], by rw [List.length_append, h1]; rfl, fun i x hx => ?_⟩
          rcases Nat.lt_or_ge i L.length with k | k
          · rw [List.getElem?_append_left k] at hx; exact h2 i x hx
          · rw [List.getElem?_append_right k] at hx
            have : i - L.length = 0 := by
              have := (List.getElem?_eq_some_iff.1 hx).1
              simp at this; omega
            rw [this] at hx
            cases hx
            rw [show i = m by omega]; exact h3
      exact this n (Nat.le_refl _)
    refine ⟨some a, n, c, L, rfl, ?_, hL, hl, by omega⟩
    rcases Nat.eq_zero_or_pos n with hn0 | hn0
    · left; exact List.eq_nil_of_length_eq_zero (by omega)
    · right
      obtain ⟨b, o, spot⟩ := a
      have hx := hq 0 _ (List.getElem?_eq_getElem (by rw [hL]; exact hn0)) 0 _ rfl
      have hspot : spot = none := by simpa [Addr.add] using World.cell?_spot hx
      subst hspot
      have add_at : ∀ x y : Nat, (⟨b, x, none⟩ : Addr).add y = ⟨b, x + y, none⟩ := fun x y => by unfold Addr.add; split <;> simp_all
      refine ⟨b, o, rfl, ?_, fun i s f u h1 h2 => ?_⟩
      · rw [add_at, add_at] at hx
        exact World.block_lt_of_cell? w _ hx
      · have := hq i s h1 f u h2
        rw [add_at, add_at] at this
        exact this
end Go.Proofs.YtnapannphldglaaDoor
