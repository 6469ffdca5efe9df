/- nat.foresee: several of Euclid's steps, as far as they are sure. -/
import Derived.Test.YthdpllhpdjhogaaGcdK
namespace Go.Proofs.Ythdpllhpdjhogaa
open Go.RowKit

set_option maxRecDepth 100000 in
set_option maxHeartbeats 1000000 in
theorem foresee_any (lx ly : List Nat) (A B : Option Addr) (n c m d : Nat) (w : World) (ha : Rd .u64 w A n lx) (hb : Rd .u64 w B m ly) (Lx : Lim B64 lx) (Ly : Lim B64 ly) (hx : limbs B64 (val B64 lx) = lx)
    (hn2 : 2 ≤ n) (hm : m ≤ n) (hn : n ≤ 35184372088830) (hle : val B64 ly ≤ val B64 lx) :
    Calls Try.prog 55 #[.slice A n c, .slice B m d] w fun e w' =>
      (∃ (u0 v0 u1 v1 : Nat) (ev : Bool), e = .returned (.tuple #[.agg #[.int .u64 (u0 : Int), .int .u64 (v0 : Int), .int .u64 (u1 : Int), .int .u64 (v1 : Int), .bool ev], .bool ((v0 : Int) != 0)]) ∧
        u0 < B64 ∧ v0 < B64 ∧ u1 < B64 ∧ v1 < B64 ∧ (v0 ≠ 0 → ∃ X Y, Steps (val B64 lx) (val B64 ly) u0 v0 u1 v1 ev X Y)) ∧ Below w.heap.size w w' := by
  go_enter Try.func55, Try.ntmps55
  generalize ha0 : val B64 lx / hiT (val B64 lx) = a0
  generalize hb0 : val B64 ly / hiT (val B64 lx) = b0
  have HB0 := Lib.hid hb0
  go_wp2_with (first
    | (go_at_call 80; (refine (highest_any lx ly A B n c m d _ (ha.alloc _) (hb.alloc _) Lx Ly hx hn2 hm hn hle).mono ?_); rintro e w' ⟨rfl, q, rfl⟩; rw [ha0, hb0]))
  generalize hW : ((w.alloc (Obj.cells #[Value.int IntKind.u64 0, Value.int IntKind.u64 0, Value.int IntKind.u64 0, Value.int IntKind.u64 0, Value.bool false] tSteps)).drewN q).alloc (Obj.cells #[Value.int IntKind.u64 0, Value.int IntKind.u64 0, Value.int IntKind.u64 1, Value.int IntKind.u64 0, Value.bool false] tSteps) = W
  have hbW : Below w.heap.size w W := by subst hW; exact (below_drawn ((Below.refl _ _).alloc (Nat.le_refl _) _) q).alloc (by simp [World.drewN]) _
  have hR0 : Vow tSteps W w.heap.size (stepV 0 0 0 0 false) := by subst hW; exact (Below.heap_alloc _ _ _ (by simp [World.drewN])).trans (heap_alloc_new w _)
  have hS0 : Vow tSteps W (w.heap.size + 1) (stepV 0 0 1 0 false) := by subst hW; exact heap_alloc_new' _ _ _ (by simp [World.drewN])
  have hst : Sim a0 b0 a0 b0 0 0 1 0 0 1 false := Sim.start (by rw [← ha0, ← hb0]; exact Nat.div_le_div_right hle)
  have hA0 : a0 < B64 := hi_lt ha0
  have hA1 : val B64 lx / hiT (val B64 lx) < B64 := by rw [ha0]; exact hA0
  have HA0E := Lib.hid ha0
  clear hW ha0
  go_loopw [6, 7, 9, 10] (fun ta tb tu tv wr => ∃ (a b u0 v0 u1 v1 u2 v2 : Nat) (ev : Bool), ta = .int .u64 (a : Int) ∧ tb = .int .u64 (b : Int) ∧ tu = .int .u64 (u2 : Int) ∧ tv = .int .u64 (v2 : Int) ∧
      Vow tSteps wr w.heap.size (stepV 0 0 0 0 false) ∧ Vow tSteps wr (w.heap.size + 1) (stepV u0 v0 u1 v1 ev) ∧ Below w.heap.size w wr ∧ Hid (Sim a0 b0 a b u0 v0 u1 v1 u2 v2 ev ∧ u0 < B64 ∧ v0 < B64 ∧ u1 < B64 ∧ v1 < B64 ∧ u2 < B64 ∧ v2 < B64)) (fun _ tb _ _ _ => (intOf tb).toNat)
  case atStart => exact ⟨a0, b0, 0, 0, 1, 0, 0, 1, false, rfl, rfl, rfl, rfl, hR0, hS0, hbW, hst, by decide, by decide, by decide, by decide, by decide, by decide⟩
  case round =>
    obtain ⟨a, b, u0, v0, u1, v1, u2, v2, ev, rfl, rfl, rfl, rfl, hR, hS, hbw, HI⟩ := hrel
    have c0 := hS.c0
    have c1 := hS.c1
    have c2 := hS.c2
    have c3 := hS.c3
    have c4 := hS.c4
    have f0 := hS.frozen 0
    have f1 := hS.frozen 1
    have f2 := hS.frozen 2
    have f3 := hS.frozen 3
    have f4 := hS.frozen 4
    have r0 := hR.c0
    have r1 := hR.c1
    have r2 := hR.c2
    have r3 := hR.c3
    have r4 := hR.c4
    have g0 := hR.frozen 0
    have g1 := hR.frozen 1
    have g2 := hR.frozen 2
    have g3 := hR.frozen 3
    have g4 := hR.frozen 4
    have d0 : wr.drew.cell? ⟨w.heap.size + 1, 0, none⟩ = some (.int .u64 (u0 : Int)) := c0
    have d1 : wr.drew.cell? ⟨w.heap.size + 1, 1, none⟩ = some (.int .u64 (v0 : Int)) := c1
    have d2 : wr.drew.cell? ⟨w.heap.size + 1, 2, none⟩ = some (.int .u64 (u1 : Int)) := c2
    have d3 : wr.drew.cell? ⟨w.heap.size + 1, 3, none⟩ = some (.int .u64 (v1 : Int)) := c3
    have d4 : wr.drew.cell? ⟨w.heap.size + 1, 4, none⟩ = some (.bool ev) := c4
    have hgne : w.heap.size ≠ w.heap.size + 1 := by omega
    obtain ⟨hsim, l0, l1, l2, l3, l4, l5⟩ := HI.out
    have hba := hsim.le
    have haB : a < B64 := Nat.lt_of_le_of_lt hsim.top hA0
    obtain ⟨D, hD⟩ : ∃ D, D + b = a := ⟨a - b, by omega⟩
    have hDw := wrap_sub hD haB
    have HD := Lib.hid hD
    by_cases hc1 : v2 ≤ b
    · obtain ⟨S, hS'⟩ : ∃ S, S = v1 + v2 := ⟨_, rfl⟩
      have hSB : S < B64 := by have := hsim.small hc1; omega
      have hSw := wrap_sum hS' hSB
      by_cases hc2 : S ≤ D
      · have hstep := hsim.step hc1 (by omega)
        obtain ⟨n1, n2, n3⟩ := hsim.next hc1
        have hb0B : b0 < B64 := by have := hsim.hb; rw [← hb0]; exact Nat.lt_of_le_of_lt (Nat.le_trans (Nat.div_le_div_right hle) (Nat.le_refl _)) hA1
        have hbp : 0 < b := by have := hsim.v2p; omega
        have hmod := Nat.div_add_mod a b
        have hrl := Nat.mod_lt a hbp
        have hne : ((b : Int) == 0) = false := by simp; omega
        have hquo : (a : Int) / (b : Int) = ((a / b : Nat) : Int) := by rw [Int.natCast_ediv]
        generalize a / b = Q at *
        generalize a % b = R at *
        obtain ⟨P, hP⟩ : ∃ P, P = Q * b := ⟨_, rfl⟩
        obtain ⟨QU, hQU⟩ : ∃ P, P = Q * u2 := ⟨_, rfl⟩
        obtain ⟨QV, hQV⟩ : ∃ P, P = Q * v2 := ⟨_, rfl⟩
        rw [← hP] at n1
        rw [← hQV] at n2 hstep
        rw [← hQU] at n3 hstep
        obtain ⟨U2, hU2⟩ : ∃ P, P = u1 + QU := ⟨_, rfl⟩
        obtain ⟨V2, hV2⟩ : ∃ P, P = v1 + QV := ⟨_, rfl⟩
        rw [← hU2] at n3 hstep
        rw [← hV2] at n2 hstep
        have hQP : Q ≤ P := by rw [hP]; exact Nat.le_mul_of_pos_right _ hbp
        have w0 := wrap_fit Q (by omega)
        have w1 := wrap_prod hP (by omega)
        have w2 := wrap_prod hQU (by omega)
        have w3 := wrap_prod hQV (by omega)
        have w4 := wrap_sum hU2 (by omega)
        have w5 := wrap_sum hV2 (by omega)
        have w6 : IntKind.u64.wrap ((a : Int) - (P : Int)) = (R : Int) := wrap_sub (D := R) (by rw [hP, Nat.mul_comm Q]; omega) haB
        have HST := Lib.hid hstep
        have HN : Hid (U2 < B64 ∧ V2 < B64) := ⟨by omega, by omega⟩
        have HRL := Lib.hid hrl
        have HLS := Lib.hid (And.intro l2 (And.intro l3 (And.intro l4 l5)))
        clear hQP hstep n1 n2 n3 hb0B hmod hrl hP hQU hQV hU2 hV2 hS' hD hSB l0 l1 l2 l3 l4 l5 hsim hba
        go_wp2_with fail
        have hS2 : Hid (Vow tSteps (((((wr.setCell ⟨w.heap.size + 1, 0, none⟩ (.int .u64 (u1 : Int))).setCell ⟨w.heap.size + 1, 2, none⟩ (.int .u64 (u2 : Int))).setCell ⟨w.heap.size + 1, 1, none⟩ (.int .u64 (v1 : Int))).setCell ⟨w.heap.size + 1, 3, none⟩ (.int .u64 (v2 : Int))).setCell ⟨w.heap.size + 1, 4, none⟩ (.bool (!ev))) (w.heap.size + 1) (stepV u1 v1 u2 v2 (!ev))) :=
          ((((hS.set_ 0 _).set_ 2 _).set_ 1 _).set_ 3 _).set_ 4 _
        have hR2 : Hid (Vow tSteps (((((wr.setCell ⟨w.heap.size + 1, 0, none⟩ (.int .u64 (u1 : Int))).setCell ⟨w.heap.size + 1, 2, none⟩ (.int .u64 (u2 : Int))).setCell ⟨w.heap.size + 1, 1, none⟩ (.int .u64 (v1 : Int))).setCell ⟨w.heap.size + 1, 3, none⟩ (.int .u64 (v2 : Int))).setCell ⟨w.heap.size + 1, 4, none⟩ (.bool (!ev))) w.heap.size (stepV 0 0 0 0 false)) :=
          ((((hR.other (by omega) _).other (by omega) _).other (by omega) _).other (by omega) _).other (by omega) _
        go_roundw
        case rel =>
          exact ⟨b, R, u1, v1, u2, v2, U2, V2, !ev, rfl, rfl, rfl, rfl, hR2.out, hS2.out, ((((hbw.setCell (by show _ ≤ w.heap.size + 1; omega) _).setCell (by show _ ≤ w.heap.size + 1; omega) _).setCell (by show _ ≤ w.heap.size + 1; omega) _).setCell (by show _ ≤ w.heap.size + 1; omega) _).setCell (by show _ ≤ w.heap.size + 1; omega) _, HST.out, HLS.out.1, HLS.out.2.1, HLS.out.2.2.1, HLS.out.2.2.2, HN.out.1, HN.out.2⟩
        case measure => simp [intOf]; exact HRL.out
      · have HS' := Lib.hid hsim
        clear hsim hS' hD hSB hba
        go_wp2_with fail
        go_region_held3 (fun w' => w'.cell? ⟨w.heap.size + 1, 0, none⟩ = some (.int .u64 (u0 : Int)) ∧ w'.cell? ⟨w.heap.size + 1, 1, none⟩ = some (.int .u64 (v0 : Int)) ∧ w'.cell? ⟨w.heap.size + 1, 2, none⟩ = some (.int .u64 (u1 : Int)) ∧ w'.cell? ⟨w.heap.size + 1, 3, none⟩ = some (.int .u64 (v1 : Int)) ∧ w'.cell? ⟨w.heap.size + 1, 4, none⟩ = some (.bool ev))
          (first | with_reducible exact ⟨d0, d1, d2, d3, d4⟩ | with_reducible exact held5 _ _ _ _ _ hgne ⟨c0, c1, c2, c3, c4⟩)
          (fail)
        have hv5 := ((((hR.set_ 0 (.int .u64 (u0 : Int))).set_ 1 (.int .u64 (v0 : Int))).set_ 2 (.int .u64 (u1 : Int))).set_ 3 (.int .u64 (v1 : Int))).set_ 4 (.bool ev)
        have z0 := hv5.c0
        have z1 := hv5.c1
        have z2 := hv5.c2
        have z3 := hv5.c3
        have z4 := hv5.c4
        go_wp2
        refine bodyPost_ret (v := .tuple #[.agg #[.int .u64 (u0 : Int), .int .u64 (v0 : Int), .int .u64 (u1 : Int), .int .u64 (v1 : Int), .bool ev], .bool ((v0 : Int) != 0)]) (by simp [results, Try.results55, go_sem, z0, z1, z2, z3, z4]) rfl ?_
        refine ⟨⟨u0, v0, u1, v1, ev, rfl, HI.out.2.1, HI.out.2.2.1, HI.out.2.2.2.1, HI.out.2.2.2.2.1, ?_⟩, below_set5 hbw (Nat.le_refl _) _ _ _ _ _⟩
        intro hv0
        exact HI.out.1.steps (T := hiT (val B64 lx)) (by rw [← HA0E.out]; exact (Nat.div_add_mod _ _).symm) (by rw [← hb0]; exact (Nat.div_add_mod _ _).symm) (Nat.mod_lt _ (Nat.two_pow_pos _)) (Nat.mod_lt _ (Nat.two_pow_pos _)) hv0
    · have HS' := Lib.hid hsim
      clear hsim hba
      go_wp2_with fail
      go_region_held3 (fun w' => w'.cell? ⟨w.heap.size + 1, 0, none⟩ = some (.int .u64 (u0 : Int)) ∧ w'.cell? ⟨w.heap.size + 1, 1, none⟩ = some (.int .u64 (v0 : Int)) ∧ w'.cell? ⟨w.heap.size + 1, 2, none⟩ = some (.int .u64 (u1 : Int)) ∧ w'.cell? ⟨w.heap.size + 1, 3, none⟩ = some (.int .u64 (v1 : Int)) ∧ w'.cell? ⟨w.heap.size + 1, 4, none⟩ = some (.bool ev))
        (first | with_reducible exact ⟨d0, d1, d2, d3, d4⟩ | with_reducible exact held5 _ _ _ _ _ hgne ⟨c0, c1, c2, c3, c4⟩)
        (fail)
      have hv5 := ((((hR.set_ 0 (.int .u64 (u0 : Int))).set_ 1 (.int .u64 (v0 : Int))).set_ 2 (.int .u64 (u1 : Int))).set_ 3 (.int .u64 (v1 : Int))).set_ 4 (.bool ev)
      have z0 := hv5.c0
      have z1 := hv5.c1
      have z2 := hv5.c2
      have z3 := hv5.c3
      have z4 := hv5.c4
      go_wp2
      refine bodyPost_ret (v := .tuple #[.agg #[.int .u64 (u0 : Int), .int .u64 (v0 : Int), .int .u64 (u1 : Int), .int .u64 (v1 : Int), .bool ev], .bool ((v0 : Int) != 0)]) (by simp [results, Try.results55, go_sem, z0, z1, z2, z3, z4]) rfl ?_
      refine ⟨⟨u0, v0, u1, v1, ev, rfl, HI.out.2.1, HI.out.2.2.1, HI.out.2.2.2.1, HI.out.2.2.2.2.1, ?_⟩, below_set5 hbw (Nat.le_refl _) _ _ _ _ _⟩
      intro hv0
      exact HI.out.1.steps (T := hiT (val B64 lx)) (by rw [← HA0E.out]; exact (Nat.div_add_mod _ _).symm) (by rw [← hb0]; exact (Nat.div_add_mod _ _).symm) (Nat.mod_lt _ (Nat.two_pow_pos _)) (Nat.mod_lt _ (Nat.two_pow_pos _)) hv0
end Go.Proofs.Ythdpllhpdjhogaa
