/- reference: Gcd; its numbers told by their value alone. -/
import Derived.Test.YtmcijgnbdnpanaaGreatRefDiv
import Derived.Test.YtmcijgnbdnpanaaGreatNR
namespace Go.Proofs.YtmcijgnbdnpanaaGreat
open Go.RowKit

/-- The slice of 32-bit limbs holds the number V as its own limbs, at most k. -/
def RN (w : World) (A : Option Addr) (n c V k : Nat) : Prop := Rd .u32 w A n (limbs B32 V) ∧ n ≤ c ∧ n ≤ k
theorem RN.below {w w' : World} {A : Option Addr} {n c V k : Nat} (h : RN w A n c V k) (hb : Below w.heap.size w w') : RN w' A n c V k := ⟨h.1.below hb, h.2.1, h.2.2⟩
theorem RN.lt {w : World} {A : Option Addr} {n c V k : Nat} (h : RN w A n c V k) : V < B32 ^ k := by
  have := lt_pow_limbs B32_two V
  rw [h.1.1] at this
  exact Nat.lt_of_lt_of_le this (Nat.pow_le_pow_right (by decide) h.2.2)
theorem RN.of {w : World} {A : Option Addr} {n c V k : Nat} (h : Rd .u32 w A n (limbs B32 V)) (hc : n ≤ c) (hk : V < B32 ^ k) : RN w A n c V k := ⟨h, hc, by rw [← h.1]; exact length_limbs_le B32_two hk⟩
/-- The call tells the number V. -/
def GivesR (w : World) (V k : Nat) (e : Ending) (w' : World) : Prop := ∃ A n c, e = .returned (.slice A n c) ∧ RN w' A n c V k ∧ Below w.heap.size w w'
/-- The call tells the numbers Q and R in a struct. -/
def GivesRR (w : World) (Q R k1 k2 : Nat) (e : Ending) (w' : World) : Prop := ∃ A n c A' n' c', e = .returned (.agg #[.slice A n c, .slice A' n' c']) ∧ RN w' A n c Q k1 ∧ RN w' A' n' c' R k2 ∧ Below w.heap.size w w'
theorem GivesS.r {w w' : World} {V k : Nat} {e : Ending} (h : GivesS .u32 133 w (limbs B32 V) e w') (hk : V < B32 ^ k) : GivesR w V k e w' := by
  obtain ⟨A, n, c, rfl, h1, h2, h3, h4⟩ := h
  exact ⟨A, n, c, rfl, RN.of h3.rd h1 hk, h4⟩
theorem b32_pow (k : Nat) : B32 ^ (2 * k) = B64 ^ k := by rw [Nat.pow_mul]; rfl

section
variable {w : World} {A B : Option Addr} {n c m d U V k k1 k2 : Nat}
theorem rin_nr (j : Nat) (X : NR w A n c V k) (hk : k ≤ 100000) (hj : 2 * k = j) : Calls Tryz.prog 70 #[.slice A n c] w (GivesR w V j) := by
  have hV := X.lt
  obtain ⟨l, a1, a2, rfl, a4, a5⟩ := X
  exact (rin_any l A n c w a1 a2 (by omega)).mono fun e w' h => h.r (by rw [← hj, b32_pow]; exact hV)
theorem keep_nr (X : NR w A n c V k) (hA : A = none → c = 0) (hk : k ≤ 100000) : Calls Tryz.prog 74 #[.slice A n c] w fun e w' => ∃ A n c, e = .returned (.slice A n c) ∧ NR w' A n c V k ∧ Below w.heap.size w w' := by
  obtain ⟨l, a1, a2, rfl, a4, a5⟩ := X
  refine (keepNat_any l A n c w a1 hA (by omega)).mono ?_
  rintro e w' ⟨A', n', c', rfl, h1, h2, h3, h4⟩
  exact ⟨A', n', c', rfl, ⟨l, h3.rd, a2, rfl, h1, by have := h3.1; have := a1.1; omega⟩, h4⟩
theorem rdm_nr (X : RN w A n c U k1) (Y : RN w B m d V k2) (h1 : k1 ≤ 200000) (h2 : k2 ≤ 200000) (hV : V ≠ 0) : Calls Tryz.prog 127 #[.slice A n c, .slice B m d] w (GivesRR w (U / V) (U % V) k1 k2) := by
  have hX := X.lt
  have hY := Y.lt
  have hr := Nat.mod_lt U (show V > 0 by omega)
  have hq := Nat.div_le_self U V
  obtain ⟨a1, a2, a3⟩ := X
  obtain ⟨b1, b2, b3⟩ := Y
  refine (rdivmod_any U V A B n c m d w a1 b1 (by omega) (by omega) a2 b2 hV).mono ?_
  rintro e w' ⟨A1, n1, c1, A2, n2, c2, rfl, p1, p2, p3, p4, p5⟩
  exact ⟨A1, n1, c1, A2, n2, c2, rfl, RN.of p3 p1 (by omega), RN.of p4 p2 (by omega), p5⟩
end

/-- The number that a slice of 32-bit limbs holds, read off the memory. -/
def rd32 (w : World) : Value → Nat
  | .slice (some a) n _ => val B32 ((List.range n).map fun i => match w.cell? (a.add i) with | some (.int _ x) => x.toNat | _ => 0)
  | _ => 0
theorem rd32_eq {w : World} {A : Option Addr} {n c : Nat} {l : List Nat} (h : Rd .u32 w A n l) : rd32 w (.slice A n c) = val B32 l := by
  rcases Nat.eq_zero_or_pos n with h0 | h0
  · subst h0
    have : l = [] := List.eq_nil_of_length_eq_zero h.1
    subst this
    cases A <;> simp [rd32]
  · obtain ⟨b, o, rfl, hc⟩ := h.2 h0
    show val B32 _ = _
    congr 1
    apply List.ext_getElem
    · simp [h.1]
    · intro i h1 h2
      simp only [List.getElem_map, List.getElem_range, add_at]
      rw [hc i _ (List.getElem?_eq_getElem h2)]
      simp

set_option maxRecDepth 100000 in
set_option maxHeartbeats 1000000 in
theorem rgcd_nr {w : World} {A B : Option Addr} {n c m d U V k : Nat} (X : RN w A n c U k) (Y : RN w B m d V k) (hk : k ≤ 200000) : Calls Tryz.prog 126 #[.slice A n c, .slice B m d] w (GivesR w (Nat.gcd U V) k) := by
  have hfd : ∀ (A : Option Addr) (n c : Nat) (A' : Option Addr) (n' c' : Nat) (w : World), (Instr.field 159 (.agg #[.slice A n c, .slice A' n' c']) 1).run Tryz.prog w = .ok (.slice A' n' c') w := fun _ _ _ _ _ _ _ => by kernel_rfl
  go_enter Tryz.func126, Tryz.ntmps126
  go_wp2_with fail
  go_loopw [0, 1] (fun ta tb wr => ∃ (A' : Option Addr) (n' c' : Nat) (B' : Option Addr) (m' d' u v : Nat), ta = .slice A' n' c' ∧ tb = .slice B' m' d' ∧ RN wr A' n' c' u k ∧ RN wr B' m' d' v k ∧ Below w.heap.size w wr ∧ Hid (Nat.gcd u v = Nat.gcd U V)) (fun _ tb wr => rd32 wr tb)
  case atStart => exact ⟨A, n, c, B, m, d, U, V, rfl, rfl, X, Y, Below.refl _ _, rfl⟩
  case round =>
    obtain ⟨A', n', c', B', m', d', u, v, rfl, rfl, hu, hv, hbw, HG⟩ := hrel
    have hm' : m' ≤ 2 ^ 45 := by have := hv.2.2; omega
    by_cases h0 : v = 0
    · subst h0
      have hz : m' = 0 := by have := hv.1.1; rw [limbs_zero] at this; exact this.symm
      subst hz
      go_wp2_with fail
      go_ret
      have := HG.out
      rw [Nat.gcd_zero_right] at this
      rw [← this]
      exact ⟨A', n', c', rfl, hu, hbw⟩
    · have hpos : 0 < m' := by
        have := hv.1.1
        rw [limbs_pos B32_two h0] at this
        simp at this; omega
      have H0 := Lib.hid h0
      clear h0
      go_wp2_with (go_at_call 127; (with_reducible refine (rdm_nr hu hv hk hk H0.out).mono ?_); rintro e w3 ⟨A1, n1, c1, A2, n2, c2, rfl, p1, p2, p3⟩)
      go_roundw
      case rel =>
        refine ⟨B', m', d', A2, n2, c2, v, u % v, rfl, rfl, hv.below p3, p2, hbw.trans (p3.mono hbw.size), ?_⟩
        show _ = _
        rw [← HG.out, Nat.gcd_comm v, ← Nat.gcd_rec, Nat.gcd_comm]
      case measure =>
        rw [rd32_eq p2.1, rd32_eq hv.1, val_limbs B32_two, val_limbs B32_two]
        exact Nat.mod_lt _ (Nat.pos_of_ne_zero H0.out)
theorem rofv_rn (v : Nat) (hv : v < B64) (w : World) : Calls Tryz.prog 71 #[.int .u64 (v : Int)] w (GivesR w v 2) :=
  (rof_any v hv w).mono fun _ _ g => g.r (Nat.lt_of_lt_of_le hv (by decide))
end Go.Proofs.YtmcijgnbdnpanaaGreat
