/- The law NatShifts: any number times and by any power of two, its bits, its root. -/
import Derived.Test.YtpnckmofmjefpaaRoot
import Derived.Test.YtpnckmofmjefpaaSame
import Derived.Test.YtpnckmofmjefpaaWakes
namespace Go.Proofs.Ytpnckmofmjefpaa
open Go.RowKit

theorem GivesE.ng {w w' : World} {V k err : Nat} {e : Ending} (h : GivesE .u64 34 w (limbs B64 V) err e w') (hk : V < B64 ^ k) :
    ∃ A n c, e = .returned (.tuple #[.slice A n c, .int .i64 (err : Int)]) ∧ NG w' A n c V k ∧ Below w.heap.size w w' := by
  obtain ⟨A, n, c, rfl, h1, h2, h3, h4⟩ := h
  refine ⟨A, n, c, rfl, ⟨h3.rd, h1, ?_⟩, h4⟩
  rw [← h3.1]; exact length_limbs_le B64_two hk
theorem shl_nr (h j : Nat) {w : World} {A : Option Addr} {n c V k : Nat} (X : NR w A n c V k) (hk : k ≤ 1000000) (hh : h ≤ 1048576) (hj : V * 2 ^ h < B64 ^ j) :
    Calls Try.prog 33 #[.slice A n c, .int .i64 (h : Int)] w fun e w' => ∃ A n c, e = .returned (.tuple #[.slice A n c, .int .i64 0]) ∧ NG w' A n c (V * 2 ^ h) j ∧ Below w.heap.size w w' := by
  obtain ⟨la, a1, a2, rfl, a4, a5⟩ := X
  exact (shl_any la A n c h w a1 a2 (by omega) a4 hh).mono fun _ _ g => g.ng hj
theorem shr_nr (h : Nat) {w : World} {A : Option Addr} {n c V k : Nat} (X : NR w A n c V k) (hk : k ≤ 1000000) (hh : h ≤ 1048576) :
    Calls Try.prog 34 #[.slice A n c, .int .i64 (h : Int)] w fun e w' => ∃ A n c, e = .returned (.tuple #[.slice A n c, .int .i64 0]) ∧ NG w' A n c (V / 2 ^ h) k ∧ Below w.heap.size w w' := by
  have hV := X.lt
  obtain ⟨la, a1, a2, rfl, a4, a5⟩ := X
  exact (shr_any la A n c h w a1 a2 (by omega) a4 hh).mono fun _ _ g => g.ng (Nat.lt_of_le_of_lt (Nat.div_le_self _ _) hV)
theorem of_nr (v : Nat) (hv : v < B64) (w : World) : Calls Try.prog 41 #[.int .u64 (v : Int)] w (GivesN w v 1) :=
  (of_any v hv w).mono fun _ _ h => h.toN (by rw [Nat.pow_one]; exact hv)
theorem rofv_rn (v : Nat) (hv : v < B64) (w : World) : Calls Try.prog 42 #[.int .u64 (v : Int)] w (GivesR w v 2) :=
  (rof_any v hv w).mono fun _ _ g => g.r (Nat.lt_of_lt_of_le hv (by decide))
theorem shl_fits {V k : Nat} (hV : V < B64 ^ 40) (hk : k ≤ 5000) : V * 2 ^ k < B64 ^ 120 ∧ V * 2 ^ k < B32 ^ 240 := by
  have h : V * 2 ^ k < B64 ^ 120 := by
    have h0 : ∀ q, k ≤ 64 * q → 2 ^ k ≤ B64 ^ q := fun q hq => by rw [pow64]; exact Nat.pow_le_pow_right (by decide) hq
    have h1 := h0 80 (by omega)
    rw [show B64 ^ 120 = B64 ^ 40 * B64 ^ 80 by rw [← Nat.pow_add]]
    exact Nat.lt_of_le_of_lt (Nat.mul_le_mul_left _ h1) (Nat.mul_lt_mul_of_pos_right hV (Nat.pow_pos (by decide)))
  exact ⟨h, by rw [← b32_pow 120] at h; exact h⟩

set_option maxRecDepth 100000 in
set_option maxHeartbeats 4000000 in
theorem shifts_good (k v : Nat) (A : Option Addr) (n c V : Nat) (w : World) (a : NR w A n c V 40) (hA : A = none → c = 0) (hn : n ≤ 40) (hk : k ≤ 5000) (hv : v < B64) :
    Calls Try.prog 5 #[.slice A n c, .int .i64 (k : Int), .int .u64 (v : Int)] w fun e w' => e = .returned (.bool true) ∧ Below w.heap.size w w' := by
  have hb : Below w.heap.size w w := Below.refl _ _
  have HF := Lib.hid (shl_fits a.lt hk)
  have HA := Lib.hid hA
  have hk2 : k ≤ 1048576 := by omega
  clear hA
  go_enter Try.func5, Try.ntmps5
  go_wp2_with (first
      | (go_at_call 16; (with_reducible refine (rin_nr 80 a (by omega) (by omega)).mono ?_); rintro e w_x ⟨A_x, n_x, c_x, rfl, x, hh⟩
         try replace a := a.below hh
         try replace ka := ka.below hh
         try replace kb := kb.below hh
         try replace gl := gl.below hh
         try replace gr := gr.below hh
         try replace rl := rl.below hh
         try replace rr := rr.below hh
         try replace kc := kc.below hh
         try replace kd := kd.below hh
         try replace gs := gs.below hh
         try replace rs := rs.below hh
         try replace gv := gv.below hh
         try replace rv := rv.below hh
         replace hb := bend hb hh)
      | (go_at_call 17; (with_reducible refine (keep_nr a HA.out (by omega)).mono ?_); rintro e w_ka ⟨A_ka, n_ka, c_ka, rfl, ka, hh⟩
         try replace a := a.below hh
         try replace x := x.below hh
         try replace kb := kb.below hh
         try replace gl := gl.below hh
         try replace gr := gr.below hh
         try replace rl := rl.below hh
         try replace rr := rr.below hh
         try replace kc := kc.below hh
         try replace kd := kd.below hh
         try replace gs := gs.below hh
         try replace rs := rs.below hh
         try replace gv := gv.below hh
         try replace rv := rv.below hh
         replace hb := bend hb hh)
      | (go_at_call 33; (with_reducible refine (shl_nr k 120 ka (by omega) hk2 HF.out.1).mono ?_); rintro e w_gl ⟨A_gl, n_gl, c_gl, rfl, gl, hh⟩
         try replace a := a.below hh
         try replace x := x.below hh
         try replace ka := ka.below hh
         try replace kb := kb.below hh
         try replace gr := gr.below hh
         try replace rl := rl.below hh
         try replace rr := rr.below hh
         try replace kc := kc.below hh
         try replace kd := kd.below hh
         try replace gs := gs.below hh
         try replace rs := rs.below hh
         try replace gv := gv.below hh
         try replace rv := rv.below hh
         replace hb := bend hb hh)
      | (go_at_call 34; (with_reducible refine (shr_nr k ka (by omega) hk2).mono ?_); rintro e w_gr ⟨A_gr, n_gr, c_gr, rfl, gr, hh⟩
         try replace a := a.below hh
         try replace x := x.below hh
         try replace ka := ka.below hh
         try replace kb := kb.below hh
         try replace gl := gl.below hh
         try replace rl := rl.below hh
         try replace rr := rr.below hh
         try replace kc := kc.below hh
         try replace kd := kd.below hh
         try replace gs := gs.below hh
         try replace rs := rs.below hh
         try replace gv := gv.below hh
         try replace rv := rv.below hh
         replace hb := bend hb hh)
      | (go_at_call 35; (with_reducible refine (rshl_rn k 240 x (by omega) (by omega) HF.out.2).mono ?_); rintro e w_rl ⟨A_rl, n_rl, c_rl, rfl, rl, hh⟩
         try replace a := a.below hh
         try replace x := x.below hh
         try replace ka := ka.below hh
         try replace kb := kb.below hh
         try replace gl := gl.below hh
         try replace gr := gr.below hh
         try replace rr := rr.below hh
         try replace kc := kc.below hh
         try replace kd := kd.below hh
         try replace gs := gs.below hh
         try replace rs := rs.below hh
         try replace gv := gv.below hh
         try replace rv := rv.below hh
         replace hb := bend hb hh)
      | (go_at_call 20; (with_reducible refine (same_nr gl rl (by omega) (by omega)).mono ?_); rintro e w_5 ⟨rfl, hh⟩
         try replace a := a.below hh
         try replace x := x.below hh
         try replace ka := ka.below hh
         try replace kb := kb.below hh
         try replace gl := gl.below hh
         try replace gr := gr.below hh
         try replace rl := rl.below hh
         try replace rr := rr.below hh
         try replace kc := kc.below hh
         try replace kd := kd.below hh
         try replace gs := gs.below hh
         try replace rs := rs.below hh
         try replace gv := gv.below hh
         try replace rv := rv.below hh
         replace hb := bend hb hh)
      | (go_at_call 36; (with_reducible refine (rshr_rn k x (by omega) (by omega)).mono ?_); rintro e w_rr ⟨A_rr, n_rr, c_rr, rfl, rr, hh⟩
         try replace a := a.below hh
         try replace x := x.below hh
         try replace ka := ka.below hh
         try replace kb := kb.below hh
         try replace gl := gl.below hh
         try replace gr := gr.below hh
         try replace rl := rl.below hh
         try replace kc := kc.below hh
         try replace kd := kd.below hh
         try replace gs := gs.below hh
         try replace rs := rs.below hh
         try replace gv := gv.below hh
         try replace rv := rv.below hh
         replace hb := bend hb hh)
      | (go_at_call 20; (with_reducible refine (same_nr gr rr (by omega) (by omega)).mono ?_); rintro e w_7 ⟨rfl, hh⟩
         try replace a := a.below hh
         try replace x := x.below hh
         try replace ka := ka.below hh
         try replace kb := kb.below hh
         try replace gl := gl.below hh
         try replace gr := gr.below hh
         try replace rl := rl.below hh
         try replace rr := rr.below hh
         try replace kc := kc.below hh
         try replace kd := kd.below hh
         try replace gs := gs.below hh
         try replace rs := rs.below hh
         try replace gv := gv.below hh
         try replace rv := rv.below hh
         replace hb := bend hb hh)
      | (go_at_call 37; (with_reducible refine (bits_nr ka (by omega)).mono ?_); rintro e w_b ⟨rfl, rfl⟩)
      | (go_at_call 38; (with_reducible refine (rbits_rn x (by omega)).mono ?_); rintro e w_9 ⟨rfl, hh⟩
         try replace a := a.below hh
         try replace x := x.below hh
         try replace ka := ka.below hh
         try replace kb := kb.below hh
         try replace gl := gl.below hh
         try replace gr := gr.below hh
         try replace rl := rl.below hh
         try replace rr := rr.below hh
         try replace kc := kc.below hh
         try replace kd := kd.below hh
         try replace gs := gs.below hh
         try replace rs := rs.below hh
         try replace gv := gv.below hh
         try replace rv := rv.below hh
         replace hb := bend hb hh)
      | (go_at_call 39; (with_reducible refine (sqrt_nr (ka.more (show 40 ≤ 78 by omega))).mono ?_); rintro e w_gs ⟨R1, hr1, A_gs, n_gs, c_gs, rfl, gs, hh⟩
         try replace a := a.below hh
         try replace x := x.below hh
         try replace ka := ka.below hh
         try replace kb := kb.below hh
         try replace gl := gl.below hh
         try replace gr := gr.below hh
         try replace rl := rl.below hh
         try replace rr := rr.below hh
         try replace kc := kc.below hh
         try replace kd := kd.below hh
         try replace rs := rs.below hh
         try replace gv := gv.below hh
         try replace rv := rv.below hh
         replace hb := bend hb hh)
      | (go_at_call 40; (with_reducible refine (rsqrt_rn x (by omega)).mono ?_); rintro e w_rs ⟨R2, hr2, A_rs, n_rs, c_rs, rfl, rs, hh⟩
         try replace a := a.below hh
         try replace x := x.below hh
         try replace ka := ka.below hh
         try replace kb := kb.below hh
         try replace gl := gl.below hh
         try replace gr := gr.below hh
         try replace rl := rl.below hh
         try replace rr := rr.below hh
         try replace kc := kc.below hh
         try replace kd := kd.below hh
         try replace gs := gs.below hh
         try replace gv := gv.below hh
         try replace rv := rv.below hh
         replace hb := bend hb hh
         obtain rfl := hr1.one hr2)
      | (go_at_call 20; (with_reducible refine (same_nr gs rs (by omega) (by omega)).mono ?_); rintro e w_12 ⟨rfl, hh⟩
         try replace a := a.below hh
         try replace x := x.below hh
         try replace ka := ka.below hh
         try replace kb := kb.below hh
         try replace gl := gl.below hh
         try replace gr := gr.below hh
         try replace rl := rl.below hh
         try replace rr := rr.below hh
         try replace kc := kc.below hh
         try replace kd := kd.below hh
         try replace gs := gs.below hh
         try replace rs := rs.below hh
         try replace gv := gv.below hh
         try replace rv := rv.below hh
         replace hb := bend hb hh)
      | (go_at_call 41; (with_reducible refine (of_nr v hv _).mono ?_); rintro e w_gv ⟨A_gv, n_gv, c_gv, rfl, gv, hh⟩
         try replace a := a.below hh
         try replace x := x.below hh
         try replace ka := ka.below hh
         try replace kb := kb.below hh
         try replace gl := gl.below hh
         try replace gr := gr.below hh
         try replace rl := rl.below hh
         try replace rr := rr.below hh
         try replace kc := kc.below hh
         try replace kd := kd.below hh
         try replace gs := gs.below hh
         try replace rs := rs.below hh
         try replace rv := rv.below hh
         replace hb := bend hb hh)
      | (go_at_call 42; (with_reducible refine (rofv_rn v hv _).mono ?_); rintro e w_rv ⟨A_rv, n_rv, c_rv, rfl, rv, hh⟩
         try replace a := a.below hh
         try replace x := x.below hh
         try replace ka := ka.below hh
         try replace kb := kb.below hh
         try replace gl := gl.below hh
         try replace gr := gr.below hh
         try replace rl := rl.below hh
         try replace rr := rr.below hh
         try replace kc := kc.below hh
         try replace kd := kd.below hh
         try replace gs := gs.below hh
         try replace rs := rs.below hh
         try replace gv := gv.below hh
         replace hb := bend hb hh)
      | (go_at_call 20; (with_reducible refine (same_nr gv rv (by omega) (by omega)).mono ?_); rintro e w_15 ⟨rfl, hh⟩
         try replace a := a.below hh
         try replace x := x.below hh
         try replace ka := ka.below hh
         try replace kb := kb.below hh
         try replace gl := gl.below hh
         try replace gr := gr.below hh
         try replace rl := rl.below hh
         try replace rr := rr.below hh
         try replace kc := kc.below hh
         try replace kd := kd.below hh
         try replace gs := gs.below hh
         try replace rs := rs.below hh
         try replace gv := gv.below hh
         try replace rv := rv.below hh
         replace hb := bend hb hh)
      | (go_at_call 15; (with_reducible refine (wakes_any _).mono ?_); rintro e w_z ⟨rfl, hh⟩
         replace hb := bend hb hh))
  go_ret
  exact ⟨rfl, hb⟩

set_option maxRecDepth 100000 in
set_option maxHeartbeats 4000000 in
theorem shifts_bad (k : Int) (v : Nat) (A : Option Addr) (n c V : Nat) (w : World) (a : NR w A n c V 40) (hA : A = none → c = 0) (hn : n ≤ 40) (hk : k < 0 ∨ 1048576 < k) (hv : v < B64) :
    Calls Try.prog 5 #[.slice A n c, .int .i64 k, .int .u64 (v : Int)] w fun e w' => e = .returned (.bool true) ∧ Below w.heap.size w w' := by
  have hb : Below w.heap.size w w := Below.refl _ _
  have HA := Lib.hid hA
  clear hA
  by_cases h0 : k < 0
  · go_enter Try.func5, Try.ntmps5
    go_wp2_with (first
      | (go_at_call 16; (with_reducible refine (rin_nr 80 a (by omega) (by omega)).mono ?_); rintro e w_x ⟨A_x, n_x, c_x, rfl, x, hh⟩
         try replace a := a.below hh
         try replace ka := ka.below hh
         try replace kb := kb.below hh
         try replace gl := gl.below hh
         try replace gr := gr.below hh
         try replace rl := rl.below hh
         try replace rr := rr.below hh
         try replace kc := kc.below hh
         try replace kd := kd.below hh
         try replace gs := gs.below hh
         try replace rs := rs.below hh
         try replace gv := gv.below hh
         try replace rv := rv.below hh
         replace hb := bend hb hh)
      | (go_at_call 17; (with_reducible refine (keep_nr a HA.out (by omega)).mono ?_); rintro e w_ka ⟨A_ka, n_ka, c_ka, rfl, ka, hh⟩
         try replace a := a.below hh
         try replace x := x.below hh
         try replace kb := kb.below hh
         try replace gl := gl.below hh
         try replace gr := gr.below hh
         try replace rl := rl.below hh
         try replace rr := rr.below hh
         try replace kc := kc.below hh
         try replace kd := kd.below hh
         try replace gs := gs.below hh
         try replace rs := rs.below hh
         try replace gv := gv.below hh
         try replace rv := rv.below hh
         replace hb := bend hb hh)
      | (go_at_call 33; (with_reducible refine (shl_bad _ _ _ k _ hk).mono ?_); rintro e w_l ⟨rfl, rfl⟩)
      | (go_at_call 34; (with_reducible refine (shr_bad _ _ _ k _ hk).mono ?_); rintro e w_r ⟨rfl, rfl⟩)
      | (go_at_call 37; (with_reducible refine (bits_nr ka (by omega)).mono ?_); rintro e w_b ⟨rfl, rfl⟩)
      | (go_at_call 38; (with_reducible refine (rbits_rn x (by omega)).mono ?_); rintro e w_5 ⟨rfl, hh⟩
         try replace a := a.below hh
         try replace x := x.below hh
         try replace ka := ka.below hh
         try replace kb := kb.below hh
         try replace gl := gl.below hh
         try replace gr := gr.below hh
         try replace rl := rl.below hh
         try replace rr := rr.below hh
         try replace kc := kc.below hh
         try replace kd := kd.below hh
         try replace gs := gs.below hh
         try replace rs := rs.below hh
         try replace gv := gv.below hh
         try replace rv := rv.below hh
         replace hb := bend hb hh)
      | (go_at_call 39; (with_reducible refine (sqrt_nr (ka.more (show 40 ≤ 78 by omega))).mono ?_); rintro e w_gs ⟨R1, hr1, A_gs, n_gs, c_gs, rfl, gs, hh⟩
         try replace a := a.below hh
         try replace x := x.below hh
         try replace ka := ka.below hh
         try replace kb := kb.below hh
         try replace gl := gl.below hh
         try replace gr := gr.below hh
         try replace rl := rl.below hh
         try replace rr := rr.below hh
         try replace kc := kc.below hh
         try replace kd := kd.below hh
         try replace rs := rs.below hh
         try replace gv := gv.below hh
         try replace rv := rv.below hh
         replace hb := bend hb hh)
      | (go_at_call 40; (with_reducible refine (rsqrt_rn x (by omega)).mono ?_); rintro e w_rs ⟨R2, hr2, A_rs, n_rs, c_rs, rfl, rs, hh⟩
         try replace a := a.below hh
         try replace x := x.below hh
         try replace ka := ka.below hh
         try replace kb := kb.below hh
         try replace gl := gl.below hh
         try replace gr := gr.below hh
         try replace rl := rl.below hh
         try replace rr := rr.below hh
         try replace kc := kc.below hh
         try replace kd := kd.below hh
         try replace gs := gs.below hh
         try replace gv := gv.below hh
         try replace rv := rv.below hh
         replace hb := bend hb hh
         obtain rfl := hr1.one hr2)
      | (go_at_call 20; (with_reducible refine (same_nr gs rs (by omega) (by omega)).mono ?_); rintro e w_8 ⟨rfl, hh⟩
         try replace a := a.below hh
         try replace x := x.below hh
         try replace ka := ka.below hh
         try replace kb := kb.below hh
         try replace gl := gl.below hh
         try replace gr := gr.below hh
         try replace rl := rl.below hh
         try replace rr := rr.below hh
         try replace kc := kc.below hh
         try replace kd := kd.below hh
         try replace gs := gs.below hh
         try replace rs := rs.below hh
         try replace gv := gv.below hh
         try replace rv := rv.below hh
         replace hb := bend hb hh)
      | (go_at_call 41; (with_reducible refine (of_nr v hv _).mono ?_); rintro e w_gv ⟨A_gv, n_gv, c_gv, rfl, gv, hh⟩
         try replace a := a.below hh
         try replace x := x.below hh
         try replace ka := ka.below hh
         try replace kb := kb.below hh
         try replace gl := gl.below hh
         try replace gr := gr.below hh
         try replace rl := rl.below hh
         try replace rr := rr.below hh
         try replace kc := kc.below hh
         try replace kd := kd.below hh
         try replace gs := gs.below hh
         try replace rs := rs.below hh
         try replace rv := rv.below hh
         replace hb := bend hb hh)
      | (go_at_call 42; (with_reducible refine (rofv_rn v hv _).mono ?_); rintro e w_rv ⟨A_rv, n_rv, c_rv, rfl, rv, hh⟩
         try replace a := a.below hh
         try replace x := x.below hh
         try replace ka := ka.below hh
         try replace kb := kb.below hh
         try replace gl := gl.below hh
         try replace gr := gr.below hh
         try replace rl := rl.below hh
         try replace rr := rr.below hh
         try replace kc := kc.below hh
         try replace kd := kd.below hh
         try replace gs := gs.below hh
         try replace rs := rs.below hh
         try replace gv := gv.below hh
         replace hb := bend hb hh)
      | (go_at_call 20; (with_reducible refine (same_nr gv rv (by omega) (by omega)).mono ?_); rintro e w_11 ⟨rfl, hh⟩
         try replace a := a.below hh
         try replace x := x.below hh
         try replace ka := ka.below hh
         try replace kb := kb.below hh
         try replace gl := gl.below hh
         try replace gr := gr.below hh
         try replace rl := rl.below hh
         try replace rr := rr.below hh
         try replace kc := kc.below hh
         try replace kd := kd.below hh
         try replace gs := gs.below hh
         try replace rs := rs.below hh
         try replace gv := gv.below hh
         try replace rv := rv.below hh
         replace hb := bend hb hh)
      | (go_at_call 15; (with_reducible refine (wakes_any _).mono ?_); rintro e w_z ⟨rfl, hh⟩
         replace hb := bend hb hh))
    go_ret
    exact ⟨rfl, hb⟩
  · have h1 : 1048576 < k := by omega
    go_enter Try.func5, Try.ntmps5
    go_wp2_with (first
      | (go_at_call 16; (with_reducible refine (rin_nr 80 a (by omega) (by omega)).mono ?_); rintro e w_x ⟨A_x, n_x, c_x, rfl, x, hh⟩
         try replace a := a.below hh
         try replace ka := ka.below hh
         try replace kb := kb.below hh
         try replace gl := gl.below hh
         try replace gr := gr.below hh
         try replace rl := rl.below hh
         try replace rr := rr.below hh
         try replace kc := kc.below hh
         try replace kd := kd.below hh
         try replace gs := gs.below hh
         try replace rs := rs.below hh
         try replace gv := gv.below hh
         try replace rv := rv.below hh
         replace hb := bend hb hh)
      | (go_at_call 17; (with_reducible refine (keep_nr a HA.out (by omega)).mono ?_); rintro e w_ka ⟨A_ka, n_ka, c_ka, rfl, ka, hh⟩
         try replace a := a.below hh
         try replace x := x.below hh
         try replace kb := kb.below hh
         try replace gl := gl.below hh
         try replace gr := gr.below hh
         try replace rl := rl.below hh
         try replace rr := rr.below hh
         try replace kc := kc.below hh
         try replace kd := kd.below hh
         try replace gs := gs.below hh
         try replace rs := rs.below hh
         try replace gv := gv.below hh
         try replace rv := rv.below hh
         replace hb := bend hb hh)
      | (go_at_call 33; (with_reducible refine (shl_bad _ _ _ k _ hk).mono ?_); rintro e w_l ⟨rfl, rfl⟩)
      | (go_at_call 34; (with_reducible refine (shr_bad _ _ _ k _ hk).mono ?_); rintro e w_r ⟨rfl, rfl⟩)
      | (go_at_call 37; (with_reducible refine (bits_nr ka (by omega)).mono ?_); rintro e w_b ⟨rfl, rfl⟩)
      | (go_at_call 38; (with_reducible refine (rbits_rn x (by omega)).mono ?_); rintro e w_5 ⟨rfl, hh⟩
         try replace a := a.below hh
         try replace x := x.below hh
         try replace ka := ka.below hh
         try replace kb := kb.below hh
         try replace gl := gl.below hh
         try replace gr := gr.below hh
         try replace rl := rl.below hh
         try replace rr := rr.below hh
         try replace kc := kc.below hh
         try replace kd := kd.below hh
         try replace gs := gs.below hh
         try replace rs := rs.below hh
         try replace gv := gv.below hh
         try replace rv := rv.below hh
         replace hb := bend hb hh)
      | (go_at_call 39; (with_reducible refine (sqrt_nr (ka.more (show 40 ≤ 78 by omega))).mono ?_); rintro e w_gs ⟨R1, hr1, A_gs, n_gs, c_gs, rfl, gs, hh⟩
         try replace a := a.below hh
         try replace x := x.below hh
         try replace ka := ka.below hh
         try replace kb := kb.below hh
         try replace gl := gl.below hh
         try replace gr := gr.below hh
         try replace rl := rl.below hh
         try replace rr := rr.below hh
         try replace kc := kc.below hh
         try replace kd := kd.below hh
         try replace rs := rs.below hh
         try replace gv := gv.below hh
         try replace rv := rv.below hh
         replace hb := bend hb hh)
      | (go_at_call 40; (with_reducible refine (rsqrt_rn x (by omega)).mono ?_); rintro e w_rs ⟨R2, hr2, A_rs, n_rs, c_rs, rfl, rs, hh⟩
         try replace a := a.below hh
         try replace x := x.below hh
         try replace ka := ka.below hh
         try replace kb := kb.below hh
         try replace gl := gl.below hh
         try replace gr := gr.below hh
         try replace rl := rl.below hh
         try replace rr := rr.below hh
         try replace kc := kc.below hh
         try replace kd := kd.below hh
         try replace gs := gs.below hh
         try replace gv := gv.below hh
         try replace rv := rv.below hh
         replace hb := bend hb hh
         obtain rfl := hr1.one hr2)
      | (go_at_call 20; (with_reducible refine (same_nr gs rs (by omega) (by omega)).mono ?_); rintro e w_8 ⟨rfl, hh⟩
         try replace a := a.below hh
         try replace x := x.below hh
         try replace ka := ka.below hh
         try replace kb := kb.below hh
         try replace gl := gl.below hh
         try replace gr := gr.below hh
         try replace rl := rl.below hh
         try replace rr := rr.below hh
         try replace kc := kc.below hh
         try replace kd := kd.below hh
         try replace gs := gs.below hh
         try replace rs := rs.below hh
         try replace gv := gv.below hh
         try replace rv := rv.below hh
         replace hb := bend hb hh)
      | (go_at_call 41; (with_reducible refine (of_nr v hv _).mono ?_); rintro e w_gv ⟨A_gv, n_gv, c_gv, rfl, gv, hh⟩
         try replace a := a.below hh
         try replace x := x.below hh
         try replace ka := ka.below hh
         try replace kb := kb.below hh
         try replace gl := gl.below hh
         try replace gr := gr.below hh
         try replace rl := rl.below hh
         try replace rr := rr.below hh
         try replace kc := kc.below hh
         try replace kd := kd.below hh
         try replace gs := gs.below hh
         try replace rs := rs.below hh
         try replace rv := rv.below hh
         replace hb := bend hb hh)
      | (go_at_call 42; (with_reducible refine (rofv_rn v hv _).mono ?_); rintro e w_rv ⟨A_rv, n_rv, c_rv, rfl, rv, hh⟩
         try replace a := a.below hh
         try replace x := x.below hh
         try replace ka := ka.below hh
         try replace kb := kb.below hh
         try replace gl := gl.below hh
         try replace gr := gr.below hh
         try replace rl := rl.below hh
         try replace rr := rr.below hh
         try replace kc := kc.below hh
         try replace kd := kd.below hh
         try replace gs := gs.below hh
         try replace rs := rs.below hh
         try replace gv := gv.below hh
         replace hb := bend hb hh)
      | (go_at_call 20; (with_reducible refine (same_nr gv rv (by omega) (by omega)).mono ?_); rintro e w_11 ⟨rfl, hh⟩
         try replace a := a.below hh
         try replace x := x.below hh
         try replace ka := ka.below hh
         try replace kb := kb.below hh
         try replace gl := gl.below hh
         try replace gr := gr.below hh
         try replace rl := rl.below hh
         try replace rr := rr.below hh
         try replace kc := kc.below hh
         try replace kd := kd.below hh
         try replace gs := gs.below hh
         try replace rs := rs.below hh
         try replace gv := gv.below hh
         try replace rv := rv.below hh
         replace hb := bend hb hh)
      | (go_at_call 15; (with_reducible refine (wakes_any _).mono ?_); rintro e w_z ⟨rfl, hh⟩
         replace hb := bend hb hh))
    go_ret
    exact ⟨rfl, hb⟩

set_option maxRecDepth 100000 in
theorem law_shifts (k vi : Int) (la : List Nat) (A : Option Addr) (n c : Nat) (w : World) (ha : Rd .u64 w A n la) (La : Lim B64 la) (hnc : n ≤ c) (hA : A = none → c = 0) (hv0 : 0 ≤ vi) (hv1 : vi < 18446744073709551616) :
    Calls Try.prog 5 #[.slice A n c, .int .i64 k, .int .u64 vi] w fun e w' => e = .returned (.bool true) ∧ Below w.heap.size w w' := by
  obtain ⟨v, rfl⟩ : ∃ v : Nat, vi = (v : Int) := ⟨vi.toNat, by omega⟩
  have hv : v < B64 := by unfold B64; omega
  clear hv0 hv1
  by_cases hn : 40 < n
  · have hn1 : (40 : Int) < (n : Int) := by omega
    go_enter Try.func5, Try.ntmps5
    go_wp2_with (go_at_call 15; ((with_reducible refine (wakes_any _).mono ?_); rintro e w' ⟨rfl, h1⟩))
    go_ret
    exact ⟨rfl, h1⟩
  · have a : NR w A n c (val B64 la) 40 := ⟨la, ha, La, rfl, hnc, by omega⟩
    by_cases h1 : k < 0 ∨ 1048576 < k
    · exact shifts_bad k v A n c _ w a hA (by omega) h1 hv
    · by_cases h2 : 5000 < k
      · have hn1 : ¬ (40 : Int) < (n : Int) := by omega
        have h3 : k ≤ 1048576 := by omega
        go_enter Try.func5, Try.ntmps5
        go_wp2_with (go_at_call 15; ((with_reducible refine (wakes_any _).mono ?_); rintro e w' ⟨rfl, h1⟩))
        go_ret
        exact ⟨rfl, h1⟩
      · obtain ⟨j, rfl⟩ : ∃ j : Nat, k = (j : Int) := ⟨k.toNat, by omega⟩
        exact shifts_good j v A n c _ w a hA (by omega) (by omega) hv
end Go.Proofs.Ytpnckmofmjefpaa
