/- The law NatAdds: its walk. -/
import Derived.Test.YthdpllhpdjhogaaWakes
import Derived.Test.YthdpllhpdjhogaaRefF
namespace Go.Proofs.Ythdpllhpdjhogaa
open Go.RowKit

/-- What the laws keep in hand: both arguments, their limbs of 32 bits, their copies. -/
structure Env (w0 : World) (A B X Y I O : Option Addr) (n m kx ky : Nat) (la lb : List Nat) (U V : Nat) (w : World) : Prop where
  a : Rd .u64 w A n la
  b : Rd .u64 w B m lb
  x : Rd .u32 w X kx (limbs B32 U)
  y : Rd .u32 w Y ky (limbs B32 V)
  i : Rd .u64 w I n la
  o : Rd .u64 w O m lb
  bel : Below w0.heap.size w0 w
section
variable {w0 w w' : World} {A B X Y I O : Option Addr} {n m kx ky U V : Nat} {la lb : List Nat}
theorem Env.below (E : Env w0 A B X Y I O n m kx ky la lb U V w) (h : Below w.heap.size w w') : Env w0 A B X Y I O n m kx ky la lb U V w' :=
  ⟨E.a.below h, E.b.below h, E.x.below h, E.y.below h, E.i.below h, E.o.below h, E.bel.trans (h.mono E.bel.size)⟩
theorem Env.drawn (E : Env w0 A B X Y I O n m kx ky la lb U V w) (q : Nat) : Env w0 A B X Y I O n m kx ky la lb U V (w.drewN q) :=
  ⟨E.a.drewN q, E.b.drewN q, E.x.drewN q, E.y.drewN q, E.i.drewN q, E.o.drewN q, below_drawn E.bel q⟩
theorem Rd.len {K : IntKind} {l : List Nat} (h : Rd K w A n l) : l.length = n := h.1
theorem Fr.len {K : IntKind} {e : TypeId} {Bb cc : Nat} {l : List Nat} (h : Fr K e w Bb A n cc l) : l.length = n := h.1
theorem Rd.cellAt {K : IntKind} {b o j x : Nat} {l : List Nat} (h : Rd K w (some ⟨b, o, none⟩) n l) (hn : 0 < n) (hx : l[j]? = some x) : w.cell? ⟨b, o + j, none⟩ = some (.int K (x : Int)) := by
  obtain ⟨b2, o2, e, hc⟩ := h.2 hn
  cases e
  exact hc j x hx
end
theorem len32 {l : List Nat} {n : Nat} (hL : Lim B64 l) (hn : l.length = n) : (limbs B32 (val B64 l)).length ≤ 2 * n := by
  refine length_limbs_le B32_two ?_
  have := val_lt hL
  rw [hn] at this
  rw [Nat.pow_mul]; exact this
theorem len64 {l : List Nat} {n : Nat} (hL : Lim B64 l) (hn : l.length = n) : (limbs B64 (val B64 l)).length ≤ n := by
  refine length_limbs_le B64_two ?_
  have := val_lt hL
  rwa [hn] at this

set_option maxRecDepth 100000 in
set_option maxHeartbeats 4000000 in
theorem law_adds (la lb : List Nat) (A B : Option Addr) (n c m d : Nat) (w : World) (ha : Rd .u64 w A n la) (hb : Rd .u64 w B m lb) (La : Lim B64 la) (Lb : Lim B64 lb) (hnc : n ≤ c) (hmd : m ≤ d) (hc : c ≤ maxLen) (hd : d ≤ maxLen)
    (hA0 : A = none → c = 0) (hB0 : B = none → d = 0) :
    Calls Try.prog 3 #[.slice A n c, .slice B m d] w fun e w' => e = .returned (.bool true) ∧ Below w.heap.size w w' := by
  by_cases hbig : 40 < n ∨ 40 < m
  · have hn1 : (40 : Int) < (n : Int) ∨ ¬ (40 : Int) < (n : Int) ∧ (40 : Int) < (m : Int) := by omega
    rcases hn1 with h1 | ⟨h1, h2⟩
    all_goals
      go_enter Try.func3, Try.ntmps3
      go_wp2_with (go_at_call 10; ((with_reducible refine (wakes_any _).mono ?_); rintro e w' ⟨rfl, hbw⟩))
      go_ret
      exact ⟨rfl, hbw⟩
  · have hn40 : n ≤ 40 := by omega
    have hm40 : m ≤ 40 := by omega
    have HML : Hid (n ≤ maxLen ∧ m ≤ maxLen) := ⟨Nat.le_trans hnc hc, Nat.le_trans hmd hd⟩
    have HA0 := Lib.hid hA0
    have HB0 := Lib.hid hB0
    obtain ⟨U, hU⟩ : ∃ U, U = val B64 la := ⟨_, rfl⟩
    obtain ⟨V, hV⟩ : ∃ V, V = val B64 lb := ⟨_, rfl⟩
    have hkU : Hid ((limbs B32 U).length ≤ 80) := by (show _ ≤ _; rw [hU]; have := len32 La ha.1; omega)
    have hkV : Hid ((limbs B32 V).length ≤ 80) := by (show _ ≤ _; rw [hV]; have := len32 Lb hb.1; omega)
    have HU := Lib.hid hU
    have HV := Lib.hid hV
    clear hU hV hbig hA0 hB0 hc hd
    have HB32 : Hid (∀ a b : Nat, a ≤ b → (limbs B32 a).length ≤ (limbs B32 b).length) := fun a b h => length_limbs_mono B32_two h
    have HADD : Hid ((limbs B32 (U + V)).length ≤ 1000) := by
      show _ ≤ _
      have h1 := lt_pow_limbs B32_two U
      have h2 := lt_pow_limbs B32_two V
      have h3 := Nat.pow_le_pow_right (n := B32) (by decide) hkU.out
      have h4 := Nat.pow_le_pow_right (n := B32) (by decide) hkV.out
      have h5 : (limbs B32 (U + V)).length ≤ 80 + 1 := length_limbs_le B32_two (by rw [Nat.pow_succ]; have : 2 ≤ B32 := B32_two; have := Nat.mul_le_mul_left (B32 ^ 80) this; omega)
      omega
    have HMUL : Hid ((limbs B32 (U * V)).length ≤ 1000) := by
      show _ ≤ _
      have h1 := lt_pow_limbs B32_two U
      have h2 := lt_pow_limbs B32_two V
      have h3 := Nat.pow_le_pow_right (n := B32) (by decide) hkU.out
      have h4 := Nat.pow_le_pow_right (n := B32) (by decide) hkV.out
      have h5 : (limbs B32 (U * V)).length ≤ 80 + 80 := length_limbs_le B32_two (by rw [Nat.pow_add]; exact Nat.mul_lt_mul'' (by omega) (by omega))
      omega
    by_cases hn0 : n = 0
    · have hla : la = [] := List.eq_nil_of_length_eq_zero (by have := ha.1; omega)
      have HG : Hid (goodB la = true) := by (show _ = _; rw [hla]; rfl)
      clear hla
      subst hn0
      by_cases hlt : U < V
      · have HLT := Lib.hid hlt
        have HC : Hid (cmpN U V = -1) := cmpN_lt hlt
        clear hlt
        go_enter Try.func3, Try.ntmps3
        go_wp2_with (first
          | (go_at_call 11; (with_reducible refine (rin_any la A 0 c w ha La (by omega)).mono ?_); rintro e w1 ⟨X, kx, cx, rfl, x1, x2, x3, x4⟩
             rw [← HU.out] at x3
             have hkx : kx ≤ 80 := (by have := hkU.out; have := x3.1; omega))
          | (go_at_call 11; (with_reducible refine (rin_any lb B m d w1 (hb.below x4) Lb (by omega)).mono ?_); rintro e w2 ⟨Y, ky, cy, rfl, y1, y2, y3, y4⟩
             rw [← HV.out] at y3
             have hky : ky ≤ 80 := (by have := hkV.out; have := y3.1; omega)
             have b2 : Below w.heap.size w w2 := x4.trans (y4.mono x4.size))
          | (go_at_call 12; (with_reducible refine (keepNat_any la A 0 c w2 (ha.below b2) HA0.out (by omega)).mono ?_); rintro e w3 ⟨I, ni, ci, rfl, i1, i2, i3, i4⟩
             obtain rfl : 0 = ni := ha.1.symm.trans i3.1
             have b3 : Below w.heap.size w w3 := b2.trans (i4.mono b2.size))
          | (go_at_call 12; (with_reducible refine (keepNat_any lb B m d w3 (hb.below b3) HB0.out (by omega)).mono ?_); rintro e w4 ⟨O, no, co, rfl, o1, o2, o3, o4⟩
             obtain rfl : m = no := hb.1.symm.trans o3.1
             have b4 : Below w.heap.size w w4 := b3.trans (o4.mono b3.size)
             have E : Env w A B X Y I O 0 m kx ky la lb U V w4 := ⟨ha.below b4, hb.below b4, ((x3.rd.below y4).below i4).below o4, (y3.rd.below i4).below o4, i3.rd.below o4, o3.rd, b4⟩)
          | (go_at_call 13; (with_reducible refine (sub_below la lb I O 0 ci m co w4 E.i E.o La Lb (by omega) i1 o1 (by rw [← HU.out, ← HV.out]; exact HLT.out)).mono ?_); rintro e w5 ⟨rfl, s4⟩
             have E := E.below s4
             skip)
          | (go_at_call 13; (with_reducible refine (sub_any la lb I O 0 ci m co w4 E.i E.o La Lb (by omega) i1 o1 (by rw [← HU.out, ← HV.out]; exact Nat.le_of_not_lt HLT.out)).mono ?_); rintro e w5 ⟨D, nd, cd, rfl, d1, d2, d3, d4⟩
             rw [← HU.out, ← HV.out] at d3
             have E := E.below d4
             have rD := d3.rd)
          | (go_at_call 14; (with_reducible refine (rcmp_any U V X Y kx cx ky cy _ E.x E.y (by unfold maxLen; omega)).mono ?_); rintro e w' ⟨rfl, q, rfl⟩
             have E := E.drawn q
             try rw [World.drewN_drewN] at E
             try rw [HC.out]
             try (have rD := rD.drewN q))
          | (go_at_call 16; (with_reducible refine (rsub_any (limbs B32 U) (limbs B32 V) X Y kx cx ky cy _ E.x E.y (lim_limbs B32_two _) (lim_limbs B32_two _) (by omega) (by have h1 := HKK.out; have h2 := E.x.len; have h3 := E.y.len; omega) (by rw [val_limbs B32_two, val_limbs B32_two]; exact Nat.le_of_not_lt HLT.out)).mono ?_); rintro e w6 ⟨R, nr, cr, rfl, r1, r2, r3, r4⟩
             rw [val_limbs B32_two, val_limbs B32_two] at r3
             have E := E.below r4
             have rD := rD.below r4)
          | (go_at_call 15; (with_reducible refine (same_true (U - V) D R nd cd nr cr _ rD r3.rd (Nat.le_trans d1 d2) (by have := HB32.out (U - V) U (by omega); have := r3.len; have := hkU.out; omega)).mono ?_); rintro e w7 ⟨rfl, t4⟩
             have E := E.below t4
             skip)
          | (go_at_call 17; (with_reducible refine (add_any la lb I O 0 ci m co _ E.i E.o La Lb (by omega) i1 o1).mono ?_); rintro e w8 ⟨D8, n8, c8, rfl, g1, g2, g3, g4⟩
             rw [← HU.out, ← HV.out] at g3
             have E := E.below g4
             have r8 := g3.rd)
          | (go_at_call 18; (with_reducible refine (radd_any (limbs B32 U) (limbs B32 V) X Y kx cx ky cy _ E.x E.y (lim_limbs B32_two _) (lim_limbs B32_two _) (by omega) (by omega)).mono ?_); rintro e w9 ⟨R9, n9, c9, rfl, k1, k2, k3, k4⟩
             rw [val_limbs B32_two, val_limbs B32_two] at k3
             have E := E.below k4
             have r8 := r8.below k4)
          | (go_at_call 15; (with_reducible refine (same_true (U + V) D8 R9 n8 c8 n9 c9 _ r8 k3.rd (Nat.le_trans g1 g2) (by have := HADD.out; have := k3.len; omega)).mono ?_); rintro e w10 ⟨rfl, t5⟩
             have E := E.below t5)
          | (go_at_call 19; (with_reducible refine (mul_few la lb I O 0 ci m co _ E.i E.o La Lb (by omega) i1 o1 (Or.inl hn40)).mono ?_); rintro e w11 ⟨D11, n11, c11, rfl, l1, l2, l3, l4⟩
             rw [← HU.out, ← HV.out] at l3
             have E := E.below l4
             have r11 := l3.rd)
          | (go_at_call 20; (with_reducible refine (rmul_any (limbs B32 U) (limbs B32 V) X Y kx cx ky cy _ E.x E.y (lim_limbs B32_two _) (lim_limbs B32_two _) (by omega) (by omega)).mono ?_); rintro e w12 ⟨R12, n12, c12, rfl, m1, m2, m3, m4⟩
             rw [val_limbs B32_two, val_limbs B32_two] at m3
             have E := E.below m4
             have r11 := r11.below m4)
          | (go_at_call 15; (with_reducible refine (same_true (U * V) D11 R12 n11 c11 n12 c12 _ r11 m3.rd (Nat.le_trans l1 l2) (by have := HMUL.out; have := m3.len; omega)).mono ?_); rintro e w13 ⟨rfl, t6⟩
             have E := E.below t6)
          | (go_at_call 21; (with_reducible refine (cmp_any la lb I O 0 ci m co _ E.i E.o La Lb HML.out.1 HML.out.2 i1 o1).mono ?_); rintro e w' ⟨rfl, q, rfl⟩
             have E := E.drawn q
             try rw [World.drewN_drewN] at E
             rw [← HU.out, ← HV.out])
          | (go_at_call 22; (with_reducible refine (good_any la I 0 ci _ E.i HML.out.1).mono ?_); rintro e w' ⟨rfl, rfl⟩; rw [HG.out])
          | (go_at_call 23; (with_reducible refine (nats_true la la I A 0 ci 0 c _ E.i E.a HML.out.1 rfl).mono ?_); rintro e w' ⟨rfl, q, rfl⟩
             have E := E.drawn q
             try rw [World.drewN_drewN] at E)
          | (go_at_call 23; (with_reducible refine (nats_true lb lb O B m co m d _ E.o E.b HML.out.2 rfl).mono ?_); rintro e w' ⟨rfl, q, rfl⟩
             have E := E.drawn q
             try rw [World.drewN_drewN] at E)
          | (go_at_call 10; (with_reducible refine (wakes_any _).mono ?_); rintro e w14 ⟨rfl, t7⟩
             have E := E.below t7))
        go_ret
        exact ⟨rfl, E.bel⟩
      · have HLT := Lib.hid hlt
        have hc0 : ¬ cmpN U V < 0 := fun h => hlt (cmp_neg h)
        have HKK : Hid ((limbs B32 V).length ≤ (limbs B32 U).length) := HB32.out V U (Nat.le_of_not_lt hlt)
        clear hlt
        go_enter Try.func3, Try.ntmps3
        go_wp2_with (first
          | (go_at_call 11; (with_reducible refine (rin_any la A 0 c w ha La (by omega)).mono ?_); rintro e w1 ⟨X, kx, cx, rfl, x1, x2, x3, x4⟩
             rw [← HU.out] at x3
             have hkx : kx ≤ 80 := (by have := hkU.out; have := x3.1; omega))
          | (go_at_call 11; (with_reducible refine (rin_any lb B m d w1 (hb.below x4) Lb (by omega)).mono ?_); rintro e w2 ⟨Y, ky, cy, rfl, y1, y2, y3, y4⟩
             rw [← HV.out] at y3
             have hky : ky ≤ 80 := (by have := hkV.out; have := y3.1; omega)
             have b2 : Below w.heap.size w w2 := x4.trans (y4.mono x4.size))
          | (go_at_call 12; (with_reducible refine (keepNat_any la A 0 c w2 (ha.below b2) HA0.out (by omega)).mono ?_); rintro e w3 ⟨I, ni, ci, rfl, i1, i2, i3, i4⟩
             obtain rfl : 0 = ni := ha.1.symm.trans i3.1
             have b3 : Below w.heap.size w w3 := b2.trans (i4.mono b2.size))
          | (go_at_call 12; (with_reducible refine (keepNat_any lb B m d w3 (hb.below b3) HB0.out (by omega)).mono ?_); rintro e w4 ⟨O, no, co, rfl, o1, o2, o3, o4⟩
             obtain rfl : m = no := hb.1.symm.trans o3.1
             have b4 : Below w.heap.size w w4 := b3.trans (o4.mono b3.size)
             have E : Env w A B X Y I O 0 m kx ky la lb U V w4 := ⟨ha.below b4, hb.below b4, ((x3.rd.below y4).below i4).below o4, (y3.rd.below i4).below o4, i3.rd.below o4, o3.rd, b4⟩)
          | (go_at_call 13; (with_reducible refine (sub_below la lb I O 0 ci m co w4 E.i E.o La Lb (by omega) i1 o1 (by rw [← HU.out, ← HV.out]; exact HLT.out)).mono ?_); rintro e w5 ⟨rfl, s4⟩
             have E := E.below s4
             skip)
          | (go_at_call 13; (with_reducible refine (sub_any la lb I O 0 ci m co w4 E.i E.o La Lb (by omega) i1 o1 (by rw [← HU.out, ← HV.out]; exact Nat.le_of_not_lt HLT.out)).mono ?_); rintro e w5 ⟨D, nd, cd, rfl, d1, d2, d3, d4⟩
             rw [← HU.out, ← HV.out] at d3
             have E := E.below d4
             have rD := d3.rd)
          | (go_at_call 14; (with_reducible refine (rcmp_any U V X Y kx cx ky cy _ E.x E.y (by unfold maxLen; omega)).mono ?_); rintro e w' ⟨rfl, q, rfl⟩
             have E := E.drawn q
             try rw [World.drewN_drewN] at E
             try rw [HC.out]
             try (have rD := rD.drewN q))
          | (go_at_call 16; (with_reducible refine (rsub_any (limbs B32 U) (limbs B32 V) X Y kx cx ky cy _ E.x E.y (lim_limbs B32_two _) (lim_limbs B32_two _) (by omega) (by have h1 := HKK.out; have h2 := E.x.len; have h3 := E.y.len; omega) (by rw [val_limbs B32_two, val_limbs B32_two]; exact Nat.le_of_not_lt HLT.out)).mono ?_); rintro e w6 ⟨R, nr, cr, rfl, r1, r2, r3, r4⟩
             rw [val_limbs B32_two, val_limbs B32_two] at r3
             have E := E.below r4
             have rD := rD.below r4)
          | (go_at_call 15; (with_reducible refine (same_true (U - V) D R nd cd nr cr _ rD r3.rd (Nat.le_trans d1 d2) (by have := HB32.out (U - V) U (by omega); have := r3.len; have := hkU.out; omega)).mono ?_); rintro e w7 ⟨rfl, t4⟩
             have E := E.below t4
             skip)
          | (go_at_call 17; (with_reducible refine (add_any la lb I O 0 ci m co _ E.i E.o La Lb (by omega) i1 o1).mono ?_); rintro e w8 ⟨D8, n8, c8, rfl, g1, g2, g3, g4⟩
             rw [← HU.out, ← HV.out] at g3
             have E := E.below g4
             have r8 := g3.rd)
          | (go_at_call 18; (with_reducible refine (radd_any (limbs B32 U) (limbs B32 V) X Y kx cx ky cy _ E.x E.y (lim_limbs B32_two _) (lim_limbs B32_two _) (by omega) (by omega)).mono ?_); rintro e w9 ⟨R9, n9, c9, rfl, k1, k2, k3, k4⟩
             rw [val_limbs B32_two, val_limbs B32_two] at k3
             have E := E.below k4
             have r8 := r8.below k4)
          | (go_at_call 15; (with_reducible refine (same_true (U + V) D8 R9 n8 c8 n9 c9 _ r8 k3.rd (Nat.le_trans g1 g2) (by have := HADD.out; have := k3.len; omega)).mono ?_); rintro e w10 ⟨rfl, t5⟩
             have E := E.below t5)
          | (go_at_call 19; (with_reducible refine (mul_few la lb I O 0 ci m co _ E.i E.o La Lb (by omega) i1 o1 (Or.inl hn40)).mono ?_); rintro e w11 ⟨D11, n11, c11, rfl, l1, l2, l3, l4⟩
             rw [← HU.out, ← HV.out] at l3
             have E := E.below l4
             have r11 := l3.rd)
          | (go_at_call 20; (with_reducible refine (rmul_any (limbs B32 U) (limbs B32 V) X Y kx cx ky cy _ E.x E.y (lim_limbs B32_two _) (lim_limbs B32_two _) (by omega) (by omega)).mono ?_); rintro e w12 ⟨R12, n12, c12, rfl, m1, m2, m3, m4⟩
             rw [val_limbs B32_two, val_limbs B32_two] at m3
             have E := E.below m4
             have r11 := r11.below m4)
          | (go_at_call 15; (with_reducible refine (same_true (U * V) D11 R12 n11 c11 n12 c12 _ r11 m3.rd (Nat.le_trans l1 l2) (by have := HMUL.out; have := m3.len; omega)).mono ?_); rintro e w13 ⟨rfl, t6⟩
             have E := E.below t6)
          | (go_at_call 21; (with_reducible refine (cmp_any la lb I O 0 ci m co _ E.i E.o La Lb HML.out.1 HML.out.2 i1 o1).mono ?_); rintro e w' ⟨rfl, q, rfl⟩
             have E := E.drawn q
             try rw [World.drewN_drewN] at E
             rw [← HU.out, ← HV.out])
          | (go_at_call 22; (with_reducible refine (good_any la I 0 ci _ E.i HML.out.1).mono ?_); rintro e w' ⟨rfl, rfl⟩; rw [HG.out])
          | (go_at_call 23; (with_reducible refine (nats_true la la I A 0 ci 0 c _ E.i E.a HML.out.1 rfl).mono ?_); rintro e w' ⟨rfl, q, rfl⟩
             have E := E.drawn q
             try rw [World.drewN_drewN] at E)
          | (go_at_call 23; (with_reducible refine (nats_true lb lb O B m co m d _ E.o E.b HML.out.2 rfl).mono ?_); rintro e w' ⟨rfl, q, rfl⟩
             have E := E.drawn q
             try rw [World.drewN_drewN] at E)
          | (go_at_call 10; (with_reducible refine (wakes_any _).mono ?_); rintro e w14 ⟨rfl, t7⟩
             have E := E.below t7))
        go_ret
        exact ⟨rfl, E.bel⟩
    · obtain ⟨b0, o0, hA, hcA⟩ := ha.at_ (by omega)
      obtain ⟨x, hx, _⟩ := hcA (n - 1) (by omega)
      have hn1 : 0 < n := by omega
      have hne : ((n : Int) == 0) = false := by simp; omega
      have HG : Hid (goodB la = ((x : Int) != 0)) := by
        show goodB la = _
        unfold goodB
        rw [List.getLast?_eq_getElem?, ha.1, hx]
        by_cases hx0 : x = 0
        · subst hx0; rfl
        · have : ((x : Int) != 0) = true := by simp; omega
          rw [this]; simp [hx0]
      have HX := Lib.hid hx
      subst hA
      clear hcA hx hn0
      by_cases hlt : U < V
      · have HLT := Lib.hid hlt
        have HC : Hid (cmpN U V = -1) := cmpN_lt hlt
        clear hlt
        go_enter Try.func3, Try.ntmps3
        go_wp2_with (first
          | (go_at_call 11; (with_reducible refine (rin_any la (some ⟨b0, o0, none⟩) n c w ha La (by omega)).mono ?_); rintro e w1 ⟨X, kx, cx, rfl, x1, x2, x3, x4⟩
             rw [← HU.out] at x3
             have hkx : kx ≤ 80 := (by have := hkU.out; have := x3.1; omega))
          | (go_at_call 11; (with_reducible refine (rin_any lb B m d w1 (hb.below x4) Lb (by omega)).mono ?_); rintro e w2 ⟨Y, ky, cy, rfl, y1, y2, y3, y4⟩
             rw [← HV.out] at y3
             have hky : ky ≤ 80 := (by have := hkV.out; have := y3.1; omega)
             have b2 : Below w.heap.size w w2 := x4.trans (y4.mono x4.size))
          | (go_at_call 12; (with_reducible refine (keepNat_any la (some ⟨b0, o0, none⟩) n c w2 (ha.below b2) HA0.out (by omega)).mono ?_); rintro e w3 ⟨I, ni, ci, rfl, i1, i2, i3, i4⟩
             obtain rfl : n = ni := ha.1.symm.trans i3.1
             have b3 : Below w.heap.size w w3 := b2.trans (i4.mono b2.size))
          | (go_at_call 12; (with_reducible refine (keepNat_any lb B m d w3 (hb.below b3) HB0.out (by omega)).mono ?_); rintro e w4 ⟨O, no, co, rfl, o1, o2, o3, o4⟩
             obtain rfl : m = no := hb.1.symm.trans o3.1
             have b4 : Below w.heap.size w w4 := b3.trans (o4.mono b3.size)
             have E : Env w (some ⟨b0, o0, none⟩) B X Y I O n m kx ky la lb U V w4 := ⟨ha.below b4, hb.below b4, ((x3.rd.below y4).below i4).below o4, (y3.rd.below i4).below o4, i3.rd.below o4, o3.rd, b4⟩)
          | (go_at_call 13; (with_reducible refine (sub_below la lb I O n ci m co w4 E.i E.o La Lb (by omega) i1 o1 (by rw [← HU.out, ← HV.out]; exact HLT.out)).mono ?_); rintro e w5 ⟨rfl, s4⟩
             have E := E.below s4
             have hcell := E.a.cellAt hn1 HX.out)
          | (go_at_call 13; (with_reducible refine (sub_any la lb I O n ci m co w4 E.i E.o La Lb (by omega) i1 o1 (by rw [← HU.out, ← HV.out]; exact Nat.le_of_not_lt HLT.out)).mono ?_); rintro e w5 ⟨D, nd, cd, rfl, d1, d2, d3, d4⟩
             rw [← HU.out, ← HV.out] at d3
             have E := E.below d4
             have rD := d3.rd)
          | (go_at_call 14; (with_reducible refine (rcmp_any U V X Y kx cx ky cy _ E.x E.y (by unfold maxLen; omega)).mono ?_); rintro e w' ⟨rfl, q, rfl⟩
             have E := E.drawn q
             try rw [World.drewN_drewN] at E
             try rw [HC.out]
             try (have rD := rD.drewN q))
          | (go_at_call 16; (with_reducible refine (rsub_any (limbs B32 U) (limbs B32 V) X Y kx cx ky cy _ E.x E.y (lim_limbs B32_two _) (lim_limbs B32_two _) (by omega) (by have h1 := HKK.out; have h2 := E.x.len; have h3 := E.y.len; omega) (by rw [val_limbs B32_two, val_limbs B32_two]; exact Nat.le_of_not_lt HLT.out)).mono ?_); rintro e w6 ⟨R, nr, cr, rfl, r1, r2, r3, r4⟩
             rw [val_limbs B32_two, val_limbs B32_two] at r3
             have E := E.below r4
             have rD := rD.below r4)
          | (go_at_call 15; (with_reducible refine (same_true (U - V) D R nd cd nr cr _ rD r3.rd (Nat.le_trans d1 d2) (by have := HB32.out (U - V) U (by omega); have := r3.len; have := hkU.out; omega)).mono ?_); rintro e w7 ⟨rfl, t4⟩
             have E := E.below t4
             have hcell := E.a.cellAt hn1 HX.out)
          | (go_at_call 17; (with_reducible refine (add_any la lb I O n ci m co _ E.i E.o La Lb (by omega) i1 o1).mono ?_); rintro e w8 ⟨D8, n8, c8, rfl, g1, g2, g3, g4⟩
             rw [← HU.out, ← HV.out] at g3
             have E := E.below g4
             have r8 := g3.rd)
          | (go_at_call 18; (with_reducible refine (radd_any (limbs B32 U) (limbs B32 V) X Y kx cx ky cy _ E.x E.y (lim_limbs B32_two _) (lim_limbs B32_two _) (by omega) (by omega)).mono ?_); rintro e w9 ⟨R9, n9, c9, rfl, k1, k2, k3, k4⟩
             rw [val_limbs B32_two, val_limbs B32_two] at k3
             have E := E.below k4
             have r8 := r8.below k4)
          | (go_at_call 15; (with_reducible refine (same_true (U + V) D8 R9 n8 c8 n9 c9 _ r8 k3.rd (Nat.le_trans g1 g2) (by have := HADD.out; have := k3.len; omega)).mono ?_); rintro e w10 ⟨rfl, t5⟩
             have E := E.below t5)
          | (go_at_call 19; (with_reducible refine (mul_few la lb I O n ci m co _ E.i E.o La Lb (by omega) i1 o1 (Or.inl hn40)).mono ?_); rintro e w11 ⟨D11, n11, c11, rfl, l1, l2, l3, l4⟩
             rw [← HU.out, ← HV.out] at l3
             have E := E.below l4
             have r11 := l3.rd)
          | (go_at_call 20; (with_reducible refine (rmul_any (limbs B32 U) (limbs B32 V) X Y kx cx ky cy _ E.x E.y (lim_limbs B32_two _) (lim_limbs B32_two _) (by omega) (by omega)).mono ?_); rintro e w12 ⟨R12, n12, c12, rfl, m1, m2, m3, m4⟩
             rw [val_limbs B32_two, val_limbs B32_two] at m3
             have E := E.below m4
             have r11 := r11.below m4)
          | (go_at_call 15; (with_reducible refine (same_true (U * V) D11 R12 n11 c11 n12 c12 _ r11 m3.rd (Nat.le_trans l1 l2) (by have := HMUL.out; have := m3.len; omega)).mono ?_); rintro e w13 ⟨rfl, t6⟩
             have E := E.below t6)
          | (go_at_call 21; (with_reducible refine (cmp_any la lb I O n ci m co _ E.i E.o La Lb HML.out.1 HML.out.2 i1 o1).mono ?_); rintro e w' ⟨rfl, q, rfl⟩
             have E := E.drawn q
             try rw [World.drewN_drewN] at E
             rw [← HU.out, ← HV.out])
          | (go_at_call 22; (with_reducible refine (good_any la I n ci _ E.i HML.out.1).mono ?_); rintro e w' ⟨rfl, rfl⟩; rw [HG.out])
          | (go_at_call 23; (with_reducible refine (nats_true la la I (some ⟨b0, o0, none⟩) n ci n c _ E.i E.a HML.out.1 rfl).mono ?_); rintro e w' ⟨rfl, q, rfl⟩
             have E := E.drawn q
             try rw [World.drewN_drewN] at E)
          | (go_at_call 23; (with_reducible refine (nats_true lb lb O B m co m d _ E.o E.b HML.out.2 rfl).mono ?_); rintro e w' ⟨rfl, q, rfl⟩
             have E := E.drawn q
             try rw [World.drewN_drewN] at E)
          | (go_at_call 10; (with_reducible refine (wakes_any _).mono ?_); rintro e w14 ⟨rfl, t7⟩
             have E := E.below t7))
        go_ret
        exact ⟨rfl, E.bel⟩
      · have HLT := Lib.hid hlt
        have hc0 : ¬ cmpN U V < 0 := fun h => hlt (cmp_neg h)
        have HKK : Hid ((limbs B32 V).length ≤ (limbs B32 U).length) := HB32.out V U (Nat.le_of_not_lt hlt)
        clear hlt
        go_enter Try.func3, Try.ntmps3
        go_wp2_with (first
          | (go_at_call 11; (with_reducible refine (rin_any la (some ⟨b0, o0, none⟩) n c w ha La (by omega)).mono ?_); rintro e w1 ⟨X, kx, cx, rfl, x1, x2, x3, x4⟩
             rw [← HU.out] at x3
             have hkx : kx ≤ 80 := (by have := hkU.out; have := x3.1; omega))
          | (go_at_call 11; (with_reducible refine (rin_any lb B m d w1 (hb.below x4) Lb (by omega)).mono ?_); rintro e w2 ⟨Y, ky, cy, rfl, y1, y2, y3, y4⟩
             rw [← HV.out] at y3
             have hky : ky ≤ 80 := (by have := hkV.out; have := y3.1; omega)
             have b2 : Below w.heap.size w w2 := x4.trans (y4.mono x4.size))
          | (go_at_call 12; (with_reducible refine (keepNat_any la (some ⟨b0, o0, none⟩) n c w2 (ha.below b2) HA0.out (by omega)).mono ?_); rintro e w3 ⟨I, ni, ci, rfl, i1, i2, i3, i4⟩
             obtain rfl : n = ni := ha.1.symm.trans i3.1
             have b3 : Below w.heap.size w w3 := b2.trans (i4.mono b2.size))
          | (go_at_call 12; (with_reducible refine (keepNat_any lb B m d w3 (hb.below b3) HB0.out (by omega)).mono ?_); rintro e w4 ⟨O, no, co, rfl, o1, o2, o3, o4⟩
             obtain rfl : m = no := hb.1.symm.trans o3.1
             have b4 : Below w.heap.size w w4 := b3.trans (o4.mono b3.size)
             have E : Env w (some ⟨b0, o0, none⟩) B X Y I O n m kx ky la lb U V w4 := ⟨ha.below b4, hb.below b4, ((x3.rd.below y4).below i4).below o4, (y3.rd.below i4).below o4, i3.rd.below o4, o3.rd, b4⟩)
          | (go_at_call 13; (with_reducible refine (sub_below la lb I O n ci m co w4 E.i E.o La Lb (by omega) i1 o1 (by rw [← HU.out, ← HV.out]; exact HLT.out)).mono ?_); rintro e w5 ⟨rfl, s4⟩
             have E := E.below s4
             have hcell := E.a.cellAt hn1 HX.out)
          | (go_at_call 13; (with_reducible refine (sub_any la lb I O n ci m co w4 E.i E.o La Lb (by omega) i1 o1 (by rw [← HU.out, ← HV.out]; exact Nat.le_of_not_lt HLT.out)).mono ?_); rintro e w5 ⟨D, nd, cd, rfl, d1, d2, d3, d4⟩
             rw [← HU.out, ← HV.out] at d3
             have E := E.below d4
             have rD := d3.rd)
          | (go_at_call 14; (with_reducible refine (rcmp_any U V X Y kx cx ky cy _ E.x E.y (by unfold maxLen; omega)).mono ?_); rintro e w' ⟨rfl, q, rfl⟩
             have E := E.drawn q
             try rw [World.drewN_drewN] at E
             try rw [HC.out]
             try (have rD := rD.drewN q))
          | (go_at_call 16; (with_reducible refine (rsub_any (limbs B32 U) (limbs B32 V) X Y kx cx ky cy _ E.x E.y (lim_limbs B32_two _) (lim_limbs B32_two _) (by omega) (by have h1 := HKK.out; have h2 := E.x.len; have h3 := E.y.len; omega) (by rw [val_limbs B32_two, val_limbs B32_two]; exact Nat.le_of_not_lt HLT.out)).mono ?_); rintro e w6 ⟨R, nr, cr, rfl, r1, r2, r3, r4⟩
             rw [val_limbs B32_two, val_limbs B32_two] at r3
             have E := E.below r4
             have rD := rD.below r4)
          | (go_at_call 15; (with_reducible refine (same_true (U - V) D R nd cd nr cr _ rD r3.rd (Nat.le_trans d1 d2) (by have := HB32.out (U - V) U (by omega); have := r3.len; have := hkU.out; omega)).mono ?_); rintro e w7 ⟨rfl, t4⟩
             have E := E.below t4
             have hcell := E.a.cellAt hn1 HX.out)
          | (go_at_call 17; (with_reducible refine (add_any la lb I O n ci m co _ E.i E.o La Lb (by omega) i1 o1).mono ?_); rintro e w8 ⟨D8, n8, c8, rfl, g1, g2, g3, g4⟩
             rw [← HU.out, ← HV.out] at g3
             have E := E.below g4
             have r8 := g3.rd)
          | (go_at_call 18; (with_reducible refine (radd_any (limbs B32 U) (limbs B32 V) X Y kx cx ky cy _ E.x E.y (lim_limbs B32_two _) (lim_limbs B32_two _) (by omega) (by omega)).mono ?_); rintro e w9 ⟨R9, n9, c9, rfl, k1, k2, k3, k4⟩
             rw [val_limbs B32_two, val_limbs B32_two] at k3
             have E := E.below k4
             have r8 := r8.below k4)
          | (go_at_call 15; (with_reducible refine (same_true (U + V) D8 R9 n8 c8 n9 c9 _ r8 k3.rd (Nat.le_trans g1 g2) (by have := HADD.out; have := k3.len; omega)).mono ?_); rintro e w10 ⟨rfl, t5⟩
             have E := E.below t5)
          | (go_at_call 19; (with_reducible refine (mul_few la lb I O n ci m co _ E.i E.o La Lb (by omega) i1 o1 (Or.inl hn40)).mono ?_); rintro e w11 ⟨D11, n11, c11, rfl, l1, l2, l3, l4⟩
             rw [← HU.out, ← HV.out] at l3
             have E := E.below l4
             have r11 := l3.rd)
          | (go_at_call 20; (with_reducible refine (rmul_any (limbs B32 U) (limbs B32 V) X Y kx cx ky cy _ E.x E.y (lim_limbs B32_two _) (lim_limbs B32_two _) (by omega) (by omega)).mono ?_); rintro e w12 ⟨R12, n12, c12, rfl, m1, m2, m3, m4⟩
             rw [val_limbs B32_two, val_limbs B32_two] at m3
             have E := E.below m4
             have r11 := r11.below m4)
          | (go_at_call 15; (with_reducible refine (same_true (U * V) D11 R12 n11 c11 n12 c12 _ r11 m3.rd (Nat.le_trans l1 l2) (by have := HMUL.out; have := m3.len; omega)).mono ?_); rintro e w13 ⟨rfl, t6⟩
             have E := E.below t6)
          | (go_at_call 21; (with_reducible refine (cmp_any la lb I O n ci m co _ E.i E.o La Lb HML.out.1 HML.out.2 i1 o1).mono ?_); rintro e w' ⟨rfl, q, rfl⟩
             have E := E.drawn q
             try rw [World.drewN_drewN] at E
             rw [← HU.out, ← HV.out])
          | (go_at_call 22; (with_reducible refine (good_any la I n ci _ E.i HML.out.1).mono ?_); rintro e w' ⟨rfl, rfl⟩; rw [HG.out])
          | (go_at_call 23; (with_reducible refine (nats_true la la I (some ⟨b0, o0, none⟩) n ci n c _ E.i E.a HML.out.1 rfl).mono ?_); rintro e w' ⟨rfl, q, rfl⟩
             have E := E.drawn q
             try rw [World.drewN_drewN] at E)
          | (go_at_call 23; (with_reducible refine (nats_true lb lb O B m co m d _ E.o E.b HML.out.2 rfl).mono ?_); rintro e w' ⟨rfl, q, rfl⟩
             have E := E.drawn q
             try rw [World.drewN_drewN] at E)
          | (go_at_call 10; (with_reducible refine (wakes_any _).mono ?_); rintro e w14 ⟨rfl, t7⟩
             have E := E.below t7))
        go_ret
        exact ⟨rfl, E.bel⟩
end Go.Proofs.Ythdpllhpdjhogaa
