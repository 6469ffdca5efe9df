/- The law NatDivides: the quotient and the rest of any two numbers, their greatest common divisor, or that there is none. -/
import Derived.Test.YtpnckmofmjefpaaSame
import Derived.Test.YtpnckmofmjefpaaWakes
namespace Go.Proofs.Ytpnckmofmjefpaa
open Go.RowKit

theorem dmz_nr {w : World} {A B : Option Addr} {n c m d U V k1 k2 : Nat} (X : NR w A n c U k1) (Y : NR w B m d V k2) (h1 : k1 ≤ 100000) (h2 : k2 ≤ 100000) (hV : V = 0) :
    Calls Try.prog 29 #[.slice A n c, .slice B m d] w fun e w' => e = .returned (.tuple #[.slice none 0 0, .slice none 0 0, .int .i64 12]) ∧ Below w.heap.size w w' := by
  obtain ⟨la, a1, a2, rfl, a4, a5⟩ := X
  obtain ⟨lb, b1, b2, rfl, b4, b5⟩ := Y
  refine (divmod_zero la lb A B n c m d w a1 b1 a2 b2 (by omega) (by omega) a4 b4 hV).mono ?_
  rintro e w' ⟨rfl, rfl⟩
  exact ⟨rfl, Below.refl _ _⟩

set_option maxRecDepth 100000 in
set_option maxHeartbeats 4000000 in
theorem law_divides (la lb : List Nat) (A B : Option Addr) (n c' m d : Nat) (w : World) (ha : Rd .u64 w A n la) (hb0 : Rd .u64 w B m lb) (La : Lim B64 la) (Lb : Lim B64 lb) (hnc : n ≤ c') (hmd : m ≤ d) (hA : A = none → c' = 0) (hB : B = none → d = 0) :
    Calls Try.prog 4 #[.slice A n c', .slice B m d] w fun e w' => e = .returned (.bool true) ∧ Below w.heap.size w w' := by
  have hb : Below w.heap.size w w := Below.refl _ _
  by_cases h40 : n ≤ 40 ∧ m ≤ 40
  · obtain ⟨h1, h2⟩ := h40
    have a : NR w A n c' (val B64 la) 40 := ⟨la, ha, La, rfl, hnc, h1⟩
    have b : NR w B m d (val B64 lb) 40 := ⟨lb, hb0, Lb, rfl, hmd, h2⟩
    generalize val B64 la = U at a
    generalize val B64 lb = V at b
    clear ha hb0 La Lb
    have HA := Lib.hid hA
    have HB := Lib.hid hB
    clear hA hB
    by_cases hV : V = 0
    · have HV0 := Lib.hid hV
      clear hV
      go_enter Try.func4, Try.ntmps4
      go_wp2_with (first
      | (go_at_call 16; (with_reducible refine (rin_nr 80 a (by omega) (by omega)).mono ?_); rintro e w_x ⟨A_x, n_x, c_x, rfl, x, hh⟩
         try replace a := a.below hh
         try replace b := b.below hh
         try replace y := y.below hh
         try replace ka := ka.below hh
         try replace kb := kb.below hh
         try replace g_q := g_q.below hh
         try replace g_r := g_r.below hh
         try replace tq := tq.below hh
         try replace tr := tr.below hh
         try replace g := g.below hh
         try replace h := h.below hh
         try replace VT := VT.below hh
         replace hb := bend hb hh)
      | (go_at_call 16; (with_reducible refine (rin_nr 80 b (by omega) (by omega)).mono ?_); rintro e w_y ⟨A_y, n_y, c_y, rfl, y, hh⟩
         try replace a := a.below hh
         try replace b := b.below hh
         try replace x := x.below hh
         try replace ka := ka.below hh
         try replace kb := kb.below hh
         try replace g_q := g_q.below hh
         try replace g_r := g_r.below hh
         try replace tq := tq.below hh
         try replace tr := tr.below hh
         try replace g := g.below hh
         try replace h := h.below hh
         try replace VT := VT.below hh
         obtain rfl : n_y = 0 := by (have := y.1.1; rw [HV0.out, limbs_zero] at this; exact this.symm)
         replace hb := bend hb hh)
      | (go_at_call 17; (with_reducible refine (keep_nr a HA.out (by omega)).mono ?_); rintro e w_ka ⟨A_ka, n_ka, c_ka, rfl, ka, hh⟩
         try replace a := a.below hh
         try replace b := b.below hh
         try replace x := x.below hh
         try replace y := y.below hh
         try replace kb := kb.below hh
         try replace g_q := g_q.below hh
         try replace g_r := g_r.below hh
         try replace tq := tq.below hh
         try replace tr := tr.below hh
         try replace g := g.below hh
         try replace h := h.below hh
         try replace VT := VT.below hh
         replace hb := bend hb hh)
      | (go_at_call 17; (with_reducible refine (keep_nr b HB.out (by omega)).mono ?_); rintro e w_kb ⟨A_kb, n_kb, c_kb, rfl, kb, hh⟩
         try replace a := a.below hh
         try replace b := b.below hh
         try replace x := x.below hh
         try replace y := y.below hh
         try replace ka := ka.below hh
         try replace g_q := g_q.below hh
         try replace g_r := g_r.below hh
         try replace tq := tq.below hh
         try replace tr := tr.below hh
         try replace g := g.below hh
         try replace h := h.below hh
         try replace VT := VT.below hh
         replace hb := bend hb hh)
      | (go_at_call 29; (with_reducible refine (dmz_nr ka kb (by omega) (by omega) HV0.out).mono ?_); rintro e w_q ⟨rfl, hh⟩
         try replace a := a.below hh
         try replace b := b.below hh
         try replace x := x.below hh
         try replace y := y.below hh
         try replace ka := ka.below hh
         try replace kb := kb.below hh
         try replace g_q := g_q.below hh
         try replace g_r := g_r.below hh
         try replace tq := tq.below hh
         try replace tr := tr.below hh
         try replace g := g.below hh
         try replace h := h.below hh
         try replace VT := VT.below hh
         replace hb := bend hb hh)
      | (go_at_call 31; (with_reducible refine (gcd_nr ka kb (by omega)).mono ?_); rintro e w_g ⟨A_g, n_g, c_g, rfl, g, hh⟩
         try replace a := a.below hh
         try replace b := b.below hh
         try replace x := x.below hh
         try replace y := y.below hh
         try replace ka := ka.below hh
         try replace kb := kb.below hh
         try replace g_q := g_q.below hh
         try replace g_r := g_r.below hh
         try replace tq := tq.below hh
         try replace tr := tr.below hh
         try replace h := h.below hh
         try replace VT := VT.below hh
         replace hb := bend hb hh)
      | (go_at_call 32; (with_reducible refine (rgcd_nr x y (by omega)).mono ?_); rintro e w_h ⟨A_h, n_h, c_h, rfl, h, hh⟩
         try replace a := a.below hh
         try replace b := b.below hh
         try replace x := x.below hh
         try replace y := y.below hh
         try replace ka := ka.below hh
         try replace kb := kb.below hh
         try replace g_q := g_q.below hh
         try replace g_r := g_r.below hh
         try replace tq := tq.below hh
         try replace tr := tr.below hh
         try replace g := g.below hh
         try replace VT := VT.below hh
         replace hb := bend hb hh)
      | (go_at_call 20; (with_reducible refine (same_nr g h (by omega) (by omega)).mono ?_); rintro e w_s ⟨rfl, hh⟩
         try replace a := a.below hh
         try replace b := b.below hh
         try replace x := x.below hh
         try replace y := y.below hh
         try replace ka := ka.below hh
         try replace kb := kb.below hh
         try replace g_q := g_q.below hh
         try replace g_r := g_r.below hh
         try replace tq := tq.below hh
         try replace tr := tr.below hh
         try replace g := g.below hh
         try replace h := h.below hh
         try replace VT := VT.below hh
         replace hb := bend hb hh)
      | (go_at_call 15; (with_reducible refine (wakes_any _).mono ?_); rintro e w_k ⟨rfl, hh⟩
         replace hb := bend hb hh))
      go_ret
      exact ⟨rfl, hb⟩
    · have HV0 := Lib.hid hV
      clear hV
      go_enter Try.func4, Try.ntmps4
      go_wp2_with (first
      | (go_at_call 16; (with_reducible refine (rin_nr 80 a (by omega) (by omega)).mono ?_); rintro e w_x ⟨A_x, n_x, c_x, rfl, x, hh⟩
         try replace a := a.below hh
         try replace b := b.below hh
         try replace y := y.below hh
         try replace ka := ka.below hh
         try replace kb := kb.below hh
         try replace g_q := g_q.below hh
         try replace g_r := g_r.below hh
         try replace tq := tq.below hh
         try replace tr := tr.below hh
         try replace g := g.below hh
         try replace h := h.below hh
         try replace VT := VT.below hh
         replace hb := bend hb hh)
      | (go_at_call 16; (with_reducible refine (rin_nr 80 b (by omega) (by omega)).mono ?_); rintro e w_y ⟨A_y, n_y, c_y, rfl, y, hh⟩
         have hyp : 0 < n_y := by (have := y.1.1; rw [limbs_pos B32_two HV0.out] at this; simp at this; omega)
         have hyz : ((n_y : Int) == 0) = false := by (simp; omega)
         try replace a := a.below hh
         try replace b := b.below hh
         try replace x := x.below hh
         try replace ka := ka.below hh
         try replace kb := kb.below hh
         try replace g_q := g_q.below hh
         try replace g_r := g_r.below hh
         try replace tq := tq.below hh
         try replace tr := tr.below hh
         try replace g := g.below hh
         try replace h := h.below hh
         try replace VT := VT.below hh
         replace hb := bend hb hh)
      | (go_at_call 17; (with_reducible refine (keep_nr a HA.out (by omega)).mono ?_); rintro e w_ka ⟨A_ka, n_ka, c_ka, rfl, ka, hh⟩
         try replace a := a.below hh
         try replace b := b.below hh
         try replace x := x.below hh
         try replace y := y.below hh
         try replace kb := kb.below hh
         try replace g_q := g_q.below hh
         try replace g_r := g_r.below hh
         try replace tq := tq.below hh
         try replace tr := tr.below hh
         try replace g := g.below hh
         try replace h := h.below hh
         try replace VT := VT.below hh
         replace hb := bend hb hh)
      | (go_at_call 17; (with_reducible refine (keep_nr b HB.out (by omega)).mono ?_); rintro e w_kb ⟨A_kb, n_kb, c_kb, rfl, kb, hh⟩
         try replace a := a.below hh
         try replace b := b.below hh
         try replace x := x.below hh
         try replace y := y.below hh
         try replace ka := ka.below hh
         try replace g_q := g_q.below hh
         try replace g_r := g_r.below hh
         try replace tq := tq.below hh
         try replace tr := tr.below hh
         try replace g := g.below hh
         try replace h := h.below hh
         try replace VT := VT.below hh
         replace hb := bend hb hh)
      | (go_at_call 29; (with_reducible refine (dm_nr ka kb (by omega) (by omega) HV0.out).mono ?_); rintro e w_q ⟨A_q, n_q, c_q, A_r, n_r, c_r, rfl, g_q, g_r, hh⟩
         try replace a := a.below hh
         try replace b := b.below hh
         try replace x := x.below hh
         try replace y := y.below hh
         try replace ka := ka.below hh
         try replace kb := kb.below hh
         try replace tq := tq.below hh
         try replace tr := tr.below hh
         try replace g := g.below hh
         try replace h := h.below hh
         try replace VT := VT.below hh
         replace hb := bend hb hh)
      | (go_at_call 30; (with_reducible refine (rdm_nr x y (by omega) (by omega) HV0.out).mono ?_); rintro e w_t ⟨A_tq, n_tq, c_tq, A_tr, n_tr, c_tr, rfl, tq, tr, hh⟩
         try replace a := a.below hh
         try replace b := b.below hh
         try replace x := x.below hh
         try replace y := y.below hh
         try replace ka := ka.below hh
         try replace kb := kb.below hh
         try replace g_q := g_q.below hh
         try replace g_r := g_r.below hh
         try replace g := g.below hh
         try replace h := h.below hh
         replace hb := bend hb hh
         have eT : Below w_t.heap.size w_t (w_t.alloc (Obj.cells #[Value.slice A_tq n_tq c_tq, Value.slice A_tr n_tr c_tr] 42)) := (Below.refl _ _).alloc (Nat.le_refl _) _
         replace a := a.below eT
         replace b := b.below eT
         replace x := x.below eT
         replace y := y.below eT
         replace g_q := g_q.below eT
         replace g_r := g_r.below eT
         replace tq := tq.below eT
         replace tr := tr.below eT
         replace hb := bend hb eT
         have VT : Vow 42 (w_t.alloc (Obj.cells #[Value.slice A_tq n_tq c_tq, Value.slice A_tr n_tr c_tr] 42)) w_t.heap.size [Value.slice A_tq n_tq c_tq, Value.slice A_tr n_tr c_tr] := heap_alloc_new w_t _)
      | (go_at_call 20; (with_reducible refine (same_nr g_q tq (by omega) (by omega)).mono ?_); rintro e w_s ⟨rfl, hh⟩
         try replace a := a.below hh
         try replace b := b.below hh
         try replace x := x.below hh
         try replace y := y.below hh
         try replace ka := ka.below hh
         try replace kb := kb.below hh
         try replace g_q := g_q.below hh
         try replace g_r := g_r.below hh
         try replace tq := tq.below hh
         try replace tr := tr.below hh
         try replace g := g.below hh
         try replace h := h.below hh
         try replace VT := VT.below hh
         replace hb := bend hb hh
         have z0 := VT.cell (i := 0) rfl
         have z1 := VT.cell (i := 1) rfl)
      | (go_at_call 20; (with_reducible refine (same_nr g_r tr (by omega) (by omega)).mono ?_); rintro e w_s ⟨rfl, hh⟩
         try replace a := a.below hh
         try replace b := b.below hh
         try replace x := x.below hh
         try replace y := y.below hh
         try replace ka := ka.below hh
         try replace kb := kb.below hh
         try replace g_q := g_q.below hh
         try replace g_r := g_r.below hh
         try replace tq := tq.below hh
         try replace tr := tr.below hh
         try replace g := g.below hh
         try replace h := h.below hh
         try replace VT := VT.below hh
         replace hb := bend hb hh)
      | (go_at_call 31; (with_reducible refine (gcd_nr ka kb (by omega)).mono ?_); rintro e w_g ⟨A_g, n_g, c_g, rfl, g, hh⟩
         try replace a := a.below hh
         try replace b := b.below hh
         try replace x := x.below hh
         try replace y := y.below hh
         try replace ka := ka.below hh
         try replace kb := kb.below hh
         try replace g_q := g_q.below hh
         try replace g_r := g_r.below hh
         try replace tq := tq.below hh
         try replace tr := tr.below hh
         try replace h := h.below hh
         try replace VT := VT.below hh
         replace hb := bend hb hh)
      | (go_at_call 32; (with_reducible refine (rgcd_nr x y (by omega)).mono ?_); rintro e w_h ⟨A_h, n_h, c_h, rfl, h, hh⟩
         try replace a := a.below hh
         try replace b := b.below hh
         try replace x := x.below hh
         try replace y := y.below hh
         try replace ka := ka.below hh
         try replace kb := kb.below hh
         try replace g_q := g_q.below hh
         try replace g_r := g_r.below hh
         try replace tq := tq.below hh
         try replace tr := tr.below hh
         try replace g := g.below hh
         try replace VT := VT.below hh
         replace hb := bend hb hh)
      | (go_at_call 20; (with_reducible refine (same_nr g h (by omega) (by omega)).mono ?_); rintro e w_s ⟨rfl, hh⟩
         try replace a := a.below hh
         try replace b := b.below hh
         try replace x := x.below hh
         try replace y := y.below hh
         try replace ka := ka.below hh
         try replace kb := kb.below hh
         try replace g_q := g_q.below hh
         try replace g_r := g_r.below hh
         try replace tq := tq.below hh
         try replace tr := tr.below hh
         try replace g := g.below hh
         try replace h := h.below hh
         try replace VT := VT.below hh
         replace hb := bend hb hh)
      | (go_at_call 15; (with_reducible refine (wakes_any _).mono ?_); rintro e w_k ⟨rfl, hh⟩
         replace hb := bend hb hh))
      go_ret
      exact ⟨rfl, hb⟩
  · by_cases hn : 40 < n
    · have hn1 : (40 : Int) < (n : Int) := by omega
      go_enter Try.func4, Try.ntmps4
      go_wp2_with (go_at_call 15; ((with_reducible refine (wakes_any _).mono ?_); rintro e w' ⟨rfl, h1⟩))
      go_ret
      exact ⟨rfl, h1⟩
    · have hm1 : (40 : Int) < (m : Int) := by omega
      go_enter Try.func4, Try.ntmps4
      go_wp2_with (go_at_call 15; ((with_reducible refine (wakes_any _).mono ?_); rintro e w' ⟨rfl, h1⟩))
      go_ret
      exact ⟨rfl, h1⟩
end Go.Proofs.Ytpnckmofmjefpaa
