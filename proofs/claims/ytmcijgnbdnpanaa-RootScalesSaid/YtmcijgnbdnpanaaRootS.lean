/- The law RootScales: four to the j times as great a fraction has, with j parts of two fewer, just the same whole number of parts. -/
import Derived.Test.YtmcijgnbdnpanaaRootF
import Derived.Test.YtmcijgnbdnpanaaSmallM
import Derived.Test.YtmcijgnbdnpanaaRatL
import Derived.Test.YtmcijgnbdnpanaaFixA
namespace Go.Proofs.Ytmcijgnbdnpanaa
open Go Go.RowKit

theorem nat_parts (a : Nat) : ((a : Nat) : Rat).num = (a : Int) ∧ ((a : Nat) : Rat).den = 1 := ⟨rfl, rfl⟩
theorem pow_next (i : Nat) : ((2 ^ i : Nat) : Rat) * Rat.divInt 2 1 = ((2 ^ (i + 1) : Nat) : Rat) := by
  rw [int1, Nat.pow_succ, natCast_mul']; rfl
theorem pow_first : Rat.divInt 1 1 = ((2 ^ 0 : Nat) : Rat) := by decide +kernel
theorem QG.pow1 {w : World} {s : Bool} {A A' : Option Addr} {n c n' c' i k : Nat} (h : QG w s A n c A' n' c' ((2 ^ i : Nat) : Rat) k) (hi : i ≤ 60) : QG w s A n c A' n' c' ((2 ^ i : Nat) : Rat) 1 := by
  have h1 : 2 ^ i < B64 ^ 1 := by
    have e : B64 = 2 ^ 64 := rfl
    rw [Nat.pow_one, e]
    exact Nat.pow_lt_pow_right (by decide) (by omega)
  refine h.tight ?_ ?_
  · rw [(nat_parts _).1]; simpa using h1
  · rw [(nat_parts _).2, Nat.pow_one]; decide
theorem low_up {va : Rat} {N M R S : Nat} (h : IsLow va (N + M) R) (g : IsLow (va * (((2 ^ M : Nat) : Rat) * ((2 ^ M : Nat) : Rat))) N S) : R = S := by
  unfold IsLow at h g
  rw [upQ_up] at h
  exact h.one g
theorem high_up {va : Rat} {N M R S : Nat} (h : IsHigh va (N + M) R) (g : IsHigh (va * (((2 ^ M : Nat) : Rat) * ((2 ^ M : Nat) : Rat))) N S) : R = S := by
  unfold IsHigh at h g
  rw [upQ_up] at h
  obtain ⟨a, h1, h2⟩ := h
  obtain ⟨b, g1, g2⟩ := g
  obtain rfl := h1.one g1
  rw [h2, g2]
set_option maxRecDepth 100000 in
set_option maxHeartbeats 4000000 in
theorem scales_large {w : World} {s : Bool} {A A' : Option Addr} {n c n' c' : Nat} (k j : Nat) (hl : decide (n ≤ 8 ∧ n' ≤ 8) = false) :
    Calls Try.prog 4 #[.agg #[.bool s, .slice A n c, .slice A' n' c'], .int .u8 (k : Int), .int .u8 (j : Int)] w fun e w' => e = .returned (.bool true) ∧ Below w.heap.size w w' := by
  have HL := Lib.hid hl
  clear hl
  go_enter Try.func4, Try.ntmps4
  go_wp2_with fail
  generalize hW : (w.alloc (Obj.cells #[Value.bool s, Value.slice A n c, Value.slice A' n' c'] 26)) = W
  have hb : Below w.heap.size w W := by subst hW; exact ((Below.refl _ _).alloc (Nat.le_refl _) _)
  have XA : B3 W (w.heap.size) (Value.bool s) (Value.slice A n c) (Value.slice A' n' c') := by subst hW; exact B3.new' _ _ _ _ _ rfl
  have hzW : W.heap.size = w.heap.size + 1 := by subst hW; simp
  clear hW
  have xa0 := XA.c0
  have xa1 := XA.c1
  have xa2 := XA.c2
  go_wp2_with (first
      | (go_at_call 7; (with_reducible refine (small_8 _ false HL.out).mono ?_); rintro e w_z ⟨rfl, hh⟩
         try replace a := a.below hh
         try replace XA := XA.below hh
         replace hb := bend hb hh
         have xa0 := XA.c0
         have xa1 := XA.c1
         have xa2 := XA.c2)
      | (go_at_call 8; (with_reducible refine (rwakes_any _).mono ?_); rintro e w_z ⟨rfl, hh⟩
         try replace a := a.below hh
         try replace XA := XA.below hh
         replace hb := bend hb hh))
  go_ret
  exact ⟨rfl, hb⟩

set_option maxRecDepth 100000 in
set_option maxHeartbeats 4000000 in
theorem scales_neg {w : World} {s : Bool} {A A' : Option Addr} {n c n' c' : Nat} {va : Rat} (k j : Nat) (a : QR w s A n c A' n' c' va 8) (hl : decide (n ≤ 8 ∧ n' ≤ 8) = true) (hv : va < 0) :
    Calls Try.prog 4 #[.agg #[.bool s, .slice A n c, .slice A' n' c'], .int .u8 (k : Int), .int .u8 (j : Int)] w fun e w' => e = .returned (.bool true) ∧ Below w.heap.size w w' := by
  have HL := Lib.hid hl
  have HS : Hid (sgnQ va = -1) := by show _ = _; unfold sgnQ; rw [if_pos hv]
  clear hl hv
  go_enter Try.func4, Try.ntmps4
  go_wp2_with fail
  generalize hW : (w.alloc (Obj.cells #[Value.bool s, Value.slice A n c, Value.slice A' n' c'] 26)) = W
  have hb : Below w.heap.size w W := by subst hW; exact ((Below.refl _ _).alloc (Nat.le_refl _) _)
  have XA : B3 W (w.heap.size) (Value.bool s) (Value.slice A n c) (Value.slice A' n' c') := by subst hW; exact B3.new' _ _ _ _ _ rfl
  have hzW : W.heap.size = w.heap.size + 1 := by subst hW; simp
  clear hW
  replace a := a.below hb
  have xa0 := XA.c0
  have xa1 := XA.c1
  have xa2 := XA.c2
  go_wp2_with (first
      | (go_at_call 7; (with_reducible refine (small_8 _ true HL.out).mono ?_); rintro e w_z ⟨rfl, hh⟩
         try replace a := a.below hh
         try replace XA := XA.below hh
         replace hb := bend hb hh
         have xa0 := XA.c0
         have xa1 := XA.c1
         have xa2 := XA.c2)
      | (go_at_call 15; (with_reducible refine (rsign_q a (by decide) (by decide)).mono ?_); rintro e w_z ⟨rfl, hh⟩
         rw [HS.out]
         try replace a := a.below hh
         try replace XA := XA.below hh
         replace hb := bend hb hh
         have xa0 := XA.c0
         have xa1 := XA.c1
         have xa2 := XA.c2)
      | (go_at_call 8; (with_reducible refine (rwakes_any _).mono ?_); rintro e w_z ⟨rfl, hh⟩
         try replace a := a.below hh
         try replace XA := XA.below hh
         replace hb := bend hb hh))
  go_ret
  exact ⟨rfl, hb⟩

set_option maxRecDepth 100000 in
set_option maxHeartbeats 16000000 in
theorem scales_small {w : World} {s : Bool} {A A' : Option Addr} {n c n' c' : Nat} {va : Rat} (k j Nn Mm : Nat) (a : QR w s A n c A' n' c' va 8) (hk : k ≤ 255) (hj : j ≤ 255) (hl : decide (n ≤ 8 ∧ n' ≤ 8) = true) (hv : 0 ≤ va) (hN : k % 60 = Nn) (hM : j % 20 = Mm) :
    Calls Try.prog 4 #[.agg #[.bool s, .slice A n c, .slice A' n' c'], .int .u8 (k : Int), .int .u8 (j : Int)] w fun e w' => e = .returned (.bool true) ∧ Below w.heap.size w w' := by
  obtain ⟨g, hg, hg0⟩ : ∃ g, sgnQ va = g ∧ ¬ g < 0 := ⟨_, rfl, by unfold sgnQ; rw [if_neg (Rat.not_lt.2 hv)]; split <;> decide⟩
  have HS := Lib.hid hg
  have HL := Lib.hid hl
  have HV := Lib.hid hv
  have hNI : (k : Int) % 60 = (Nn : Int) := by omega
  have hMI : (j : Int) % 20 = (Mm : Int) := by omega
  have hN60 : Nn < 60 := by omega
  have hM20 : Mm < 20 := by omega
  clear hg hl hv hN hM
  go_enter Try.func4, Try.ntmps4
  go_wp2_with fail
  generalize hW : (w.alloc (Obj.cells #[Value.bool s, Value.slice A n c, Value.slice A' n' c'] 26)) = W
  have hb : Below w.heap.size w W := by subst hW; exact ((Below.refl _ _).alloc (Nat.le_refl _) _)
  have XA : B3 W (w.heap.size) (Value.bool s) (Value.slice A n c) (Value.slice A' n' c') := by subst hW; exact B3.new' _ _ _ _ _ rfl
  have hzW : W.heap.size = w.heap.size + 1 := by subst hW; simp
  clear hW
  replace a := a.below hb
  have xa0 := XA.c0
  have xa1 := XA.c1
  have xa2 := XA.c2
  go_upto_region 5 with (first
      | (go_at_call 7; (with_reducible refine (small_8 _ true HL.out).mono ?_); rintro e w_z ⟨rfl, hh⟩
         try replace a := a.below hh
         try replace o := o.below hh
         try replace XA := XA.below hh
         try replace XU := XU.below hh
         replace hb := bend hb hh
         have xa0 := XA.c0
         have xa1 := XA.c1
         have xa2 := XA.c2)
      | (go_at_call 15; (with_reducible refine (rsign_q a (by decide) (by decide)).mono ?_); rintro e w_z ⟨rfl, hh⟩
         rw [HS.out]
         try replace a := a.below hh
         try replace XA := XA.below hh
         replace hb := bend hb hh
         have xa0 := XA.c0
         have xa1 := XA.c1
         have xa2 := XA.c2)
      | (go_at_call 16; (with_reducible refine (rof_q 1 1 (by decide) (by decide) (by decide) (by decide) (by decide) _).mono ?_); rintro e w_o ⟨s_o, A_o, n_o, c_o, B_o, m_o, d_o, rfl, o, hh⟩
         try replace a := a.below hh
         try replace XA := XA.below hh
         try replace XU := XU.below hh
         replace hb := bend hb hh
         have xa0 := XA.c0
         have xa1 := XA.c1
         have xa2 := XA.c2))
  have HNI := Lib.hid hNI
  have HMI := Lib.hid hMI
  clear hNI hMI hk hj hg0
  have HGU := Lib.hid XA.lt
  generalize hW : (w_o.alloc (Obj.cells #[Value.bool s_o, Value.slice A_o n_o c_o, Value.slice B_o m_o d_o] 26)) = W1
  have hh : Below w_o.heap.size w_o W1 := by subst hW; exact ((Below.refl _ _).alloc (Nat.le_refl _) _)
  have XU : B3 W1 (w_o.heap.size) (Value.bool s_o) (Value.slice A_o n_o c_o) (Value.slice B_o m_o d_o) := by subst hW; exact B3.new' _ _ _ _ _ rfl
  have hzW1 : W1.heap.size = w_o.heap.size + 1 := by subst hW; simp
  clear hW
  try replace a := a.below hh
  try replace o := o.below hh
  try replace XA := XA.below hh
  replace hb := bend hb hh
  rw [pow_first] at o
  go_wp2_with fail
  go_loopw [10] (fun t wr => ∃ (i : Nat) (s1 : Bool) (A1 : Option Addr) (n1 c1 : Nat) (B1 : Option Addr) (m1 d1 : Nat), i ≤ Mm ∧ t = .int .i64 (i : Int) ∧ B3 wr w_o.heap.size (.bool s1) (.slice A1 n1 c1) (.slice B1 m1 d1) ∧ QG wr s1 A1 n1 c1 B1 m1 d1 ((2 ^ i : Nat) : Rat) 1 ∧ QR wr s A n c A' n' c' va 8 ∧ B3 wr w.heap.size (.bool s) (.slice A n c) (.slice A' n' c') ∧ Below w.heap.size w wr) (fun t _ => Mm - (intOf t).toNat)
  case atStart => exact ⟨0, s_o, A_o, n_o, c_o, B_o, m_o, d_o, Nat.zero_le _, rfl, XU, o, a, XA, hb⟩
  case round =>
    clear XU o a XA hb hzW1 hzW
    obtain ⟨i, s1, A1, n1, c1, B1, m1, d1, hi, rfl, XU, u, a, XA, hb⟩ := hrel
    by_cases hlt : i < Mm
    · go_upto_region 8 with (fail)
      replace u := u.below (Below.refl _ _).drew
      replace a := a.below (Below.refl _ _).drew
      replace XA := XA.below (Below.refl _ _).drew
      replace XU := XU.below (Below.refl _ _).drew
      replace hb := hb.drew
      have xu0 := XU.c0
      have xu1 := XU.c1
      have xu2 := XU.c2
      have zf0 := XU.f0
      have zf1 := XU.f1
      have zf2 := XU.f2
      have z0 := XU.c0
      have z1 := XU.c1
      have z2 := XU.c2
      go_region_with (first
        | (go_at_call 16; (with_reducible refine (rof_q 2 1 (by decide) (by decide) (by decide) (by decide) (by decide) _).mono ?_); rintro e w_q ⟨s_q, A_q, n_q, c_q, B_q, m_q, d_q, rfl, q, hh⟩
           try replace u := u.below hh
           try replace t := t.below hh
           try replace a := a.below hh
           try replace XA := XA.below hh
           try replace XU := XU.below hh
           replace hb := bend hb hh
           have xu0 := XU.c0
           have xu1 := XU.c1
           have xu2 := XU.c2
           have zf0 := XU.f0
           have zf1 := XU.f1
           have zf2 := XU.f2
           have z0 := XU.c0
           have z1 := XU.c1
           have z2 := XU.c2)
        | (go_at_call 10; (with_reducible refine (rmul_q u.qr q.qr (by decide) (by decide) (by decide) (by decide) (by decide)).mono ?_); rintro e w_t ⟨s_t, A_t, n_t, c_t, B_t, m_t, d_t, rfl, t, hh⟩
           try replace u := u.below hh
           try replace q := q.below hh
           try replace a := a.below hh
           try replace XA := XA.below hh
           try replace XU := XU.below hh
           replace hb := bend hb hh
           have xu0 := XU.c0
           have xu1 := XU.c1
           have xu2 := XU.c2
           have zf0 := XU.f0
           have zf1 := XU.f1
           have zf2 := XU.f2
           have z0 := XU.c0
           have z1 := XU.c1
           have z2 := XU.c2))
      all_goals
        have HLT := Lib.hid hlt
        clear hlt
        have t2 := t
        rw [pow_next] at t2
        replace t2 := t2.pow1 (by have := HLT.out; omega)
        generalize hW5 : (((w_t.setCell ⟨w_o.heap.size, 0, none⟩ (Value.bool s_t)).setCell ⟨w_o.heap.size, 1, none⟩ (Value.slice A_t n_t c_t)).setCell ⟨w_o.heap.size, 2, none⟩ (Value.slice B_t m_t d_t)) = W5
        have ho : Only w_o.heap.size w_t W5 := by subst hW5; exact (((Only.refl _ _).setCell 0 _).setCell 1 _).setCell 2 _
        have X5 : B3 W5 w_o.heap.size (Value.bool s_t) (Value.slice A_t n_t c_t) (Value.slice B_t m_t d_t) := by subst hW5; exact XU.set3 _ _ _
        have t5 := t2.box (XU.bat (free3 _ _ _ _ _ _ _)) ho
        have a5 := a.box (XU.bat (free3 _ _ _ _ _ _ _)) ho
        have XA5 := XA.cnt (by have := HGU.out; omega) ho
        have hb5 : Below w.heap.size w W5 := by subst hW5; exact below_set3 hb (Nat.le_of_lt HGU.out) _ _ _
        clear hW5 ho
        go_wp2_with fail
        go_roundw
        case rel => exact ⟨i + 1, s_t, A_t, n_t, c_t, B_t, m_t, d_t, HLT.out, by go_num, X5, t5, a5, XA5, hb5⟩
        case measure => have := HLT.out; simp [intOf]; omega
    · obtain rfl : Mm = i := by omega
      clear hi hlt
      obtain ⟨H, hH⟩ : ∃ H : Nat, (Nn : Int) + (Mm : Int) = (H : Int) := ⟨Nn + Mm, by omega⟩
      have hH2 : H = Nn + Mm := by omega
      have hH4 : H ≤ 400 := by omega
      have hN4 : Nn ≤ 400 := by omega
      have hvp : 0 ≤ va * (((2 ^ Mm : Nat) : Rat) * ((2 ^ Mm : Nat) : Rat)) := Rat.mul_nonneg HV.out (Rat.mul_nonneg (natCast_nonneg' _) (natCast_nonneg' _))
      have HH := Lib.hid hH2
      have HH4 := Lib.hid hH4
      have HN4 := Lib.hid hN4
      have HVP := Lib.hid hvp
      have HHI := Lib.hid hH
      clear hH2 hH4 hN4 hvp hN60 hM20
      have xa0 := XA.c0
      have xa1 := XA.c1
      have xa2 := XA.c2
      have xu0 := XU.c0
      have xu1 := XU.c1
      have xu2 := XU.c2
      have hH := HHI.out
      have hH4 := HH4.out
      go_upto_region 10 with (first
         | (go_at_call 13; (with_reducible refine (low_s H a HV.out (by decide) (by decide) HH4.out).mono ?_); rintro e w_x ⟨R_x, hR_x, s_x, A_x, n_x, c_x, B_x, m_x, d_x, rfl, x, hh⟩
            have HR_x := Lib.hid hR_x
            clear hR_x
            try replace a := a.below hh
            try replace u := u.below hh
            try replace y := y.below hh
            try replace v := v.below hh
            try replace q := q.below hh
            try replace p1 := p1.below hh
            try replace p2 := p2.below hh
            try replace XA := XA.below hh
            try replace XU := XU.below hh
            try replace XX := XX.below hh
            try replace XY := XY.below hh
            try replace XV := XV.below hh
            try replace XW := XW.below hh
            replace hb := bend hb hh
            have xa0 := XA.c0
            have xa1 := XA.c1
            have xa2 := XA.c2
            have xu0 := XU.c0
            have xu1 := XU.c1
            have xu2 := XU.c2))
      clear hH hH4
      generalize hW : (w_x.alloc (Obj.cells #[Value.bool s_x, Value.slice A_x n_x c_x, Value.slice B_x m_x d_x] 26)) = W6
      have hh : Below w_x.heap.size w_x W6 := by subst hW; exact ((Below.refl _ _).alloc (Nat.le_refl _) _)
      have XX : B3 W6 (w_x.heap.size) (Value.bool s_x) (Value.slice A_x n_x c_x) (Value.slice B_x m_x d_x) := by subst hW; exact B3.new' _ _ _ _ _ rfl
      have hzW6 : W6.heap.size = w_x.heap.size + 1 := by subst hW; simp
      clear hW
      try replace a := a.below hh
      try replace u := u.below hh
      try replace x := x.below hh
      try replace XA := XA.below hh
      try replace XU := XU.below hh
      replace hb := bend hb hh
      refine slow_region (by simp) rfl rfl rfl XA XU a u.qr HVP.out HN4.out ?_
      intro V_y w_y g_y r_y s_y A_y n_y c_y B_y m_y d_y hS_y y XY hh hg_y hva hvb
      simp only [putAll, Act.put, List.setIfInBounds_toArray, List.set_cons_zero, List.set_cons_succ, hva, hvb]
      clear hva hvb
      obtain ⟨R_y, hu_y, hR_y⟩ := hS_y
      subst hu_y
      have HR_y := Lib.hid hR_y
      clear hR_y
      replace a := a.below hh
      replace u := u.below hh
      replace x := x.below hh
      replace XA := XA.below hh
      replace XU := XU.below hh
      replace XX := XX.below hh
      replace hb := bend hb hh
      have xa0 := XA.c0
      have xa1 := XA.c1
      have xa2 := XA.c2
      have xu0 := XU.c0
      have xu1 := XU.c1
      have xu2 := XU.c2
      have hH := HHI.out
      have hH4 := HH4.out
      go_upto_region 12 with (first
         | (go_at_call 14; (with_reducible refine (high_s H a HV.out (by decide) (by decide) HH4.out).mono ?_); rintro e w_v ⟨R_v, hR_v, s_v, A_v, n_v, c_v, B_v, m_v, d_v, rfl, v, hh⟩
            have HR_v := Lib.hid hR_v
            clear hR_v
            try replace a := a.below hh
            try replace u := u.below hh
            try replace x := x.below hh
            try replace y := y.below hh
            try replace q := q.below hh
            try replace p1 := p1.below hh
            try replace p2 := p2.below hh
            try replace XA := XA.below hh
            try replace XU := XU.below hh
            try replace XX := XX.below hh
            try replace XY := XY.below hh
            try replace XV := XV.below hh
            try replace XW := XW.below hh
            replace hb := bend hb hh
            have xa0 := XA.c0
            have xa1 := XA.c1
            have xa2 := XA.c2
            have xu0 := XU.c0
            have xu1 := XU.c1
            have xu2 := XU.c2))
      clear hH hH4
      generalize hW : (w_v.alloc (Obj.cells #[Value.bool s_v, Value.slice A_v n_v c_v, Value.slice B_v m_v d_v] 26)) = W7
      have hh : Below w_v.heap.size w_v W7 := by subst hW; exact ((Below.refl _ _).alloc (Nat.le_refl _) _)
      have XV : B3 W7 (w_v.heap.size) (Value.bool s_v) (Value.slice A_v n_v c_v) (Value.slice B_v m_v d_v) := by subst hW; exact B3.new' _ _ _ _ _ rfl
      have hzW7 : W7.heap.size = w_v.heap.size + 1 := by subst hW; simp
      clear hW
      try replace a := a.below hh
      try replace u := u.below hh
      try replace x := x.below hh
      try replace y := y.below hh
      try replace v := v.below hh
      try replace XA := XA.below hh
      try replace XU := XU.below hh
      try replace XX := XX.below hh
      try replace XY := XY.below hh
      replace hb := bend hb hh
      refine shigh_region (by simp) rfl rfl rfl XA XU a u.qr HVP.out HN4.out ?_
      intro V_q w_q g_q r_q s_q A_q n_q c_q B_q m_q d_q hS_q q XQ hh hg_q hva hvb
      simp only [putAll, Act.put, List.setIfInBounds_toArray, List.set_cons_zero, List.set_cons_succ, hva, hvb]
      clear hva hvb
      obtain ⟨R_q, hu_q, hR_q⟩ := hS_q
      subst hu_q
      have HR_q := Lib.hid hR_q
      clear hR_q
      replace a := a.below hh
      replace u := u.below hh
      replace x := x.below hh
      replace y := y.below hh
      replace v := v.below hh
      replace XA := XA.below hh
      replace XU := XU.below hh
      replace XX := XX.below hh
      replace XY := XY.below hh
      replace XV := XV.below hh
      replace hb := bend hb hh
      have e1 := HR_x.out
      have e2 := HR_v.out
      rw [HH.out] at e1 e2
      have k1 := low_up e1 HR_y.out
      have k2 := high_up e2 HR_q.out
      have HK1 : Hid (cmpQ (inQ R_x H * ((2 ^ Mm : Nat) : Rat)) (inQ R_y Nn) = 0) := by show _ = _; rw [HH.out, inQ_up, k1]; exact cmpQ_self _
      have HK2 : Hid (cmpQ (inQ R_v H * ((2 ^ Mm : Nat) : Rat)) (inQ R_q Nn) = 0) := by show _ = _; rw [HH.out, inQ_up, k2]; exact cmpQ_self _
      clear e1 e2 k1 k2
      go_upto_region 13 with (fail)
      replace u := u.below (Below.refl _ _).drew
      replace x := x.below (Below.refl _ _).drew
      replace y := y.below (Below.refl _ _).drew
      replace v := v.below (Below.refl _ _).drew
      replace q := q.below (Below.refl _ _).drew
      replace XX := XX.below (Below.refl _ _).drew
      replace XU := XU.below (Below.refl _ _).drew
      replace XY := XY.below (Below.refl _ _).drew
      replace XV := XV.below (Below.refl _ _).drew
      replace XQ := XQ.below (Below.refl _ _).drew
      replace hb := hb.drew
      go_region_held3 (fun w' => w'.cell? ⟨w_x.heap.size, 0, none⟩ = some (.bool s_x) ∧ w'.cell? ⟨w_x.heap.size, 1, none⟩ = some (.slice A_x n_x c_x) ∧ w'.cell? ⟨w_x.heap.size, 2, none⟩ = some (.slice B_x m_x d_x) ∧ w'.cell? ⟨w_o.heap.size, 0, none⟩ = some (.bool s1) ∧ w'.cell? ⟨w_o.heap.size, 1, none⟩ = some (.slice A1 n1 c1) ∧ w'.cell? ⟨w_o.heap.size, 2, none⟩ = some (.slice B1 m1 d1) ∧ w'.cell? ⟨g_y, 0, none⟩ = some (.bool s_y) ∧ w'.cell? ⟨g_y, 1, none⟩ = some (.slice A_y n_y c_y) ∧ w'.cell? ⟨g_y, 2, none⟩ = some (.slice B_y m_y d_y) ∧ w'.cell? ⟨w_v.heap.size, 0, none⟩ = some (.bool s_v) ∧ w'.cell? ⟨w_v.heap.size, 1, none⟩ = some (.slice A_v n_v c_v) ∧ w'.cell? ⟨w_v.heap.size, 2, none⟩ = some (.slice B_v m_v d_v) ∧ w'.cell? ⟨g_q, 0, none⟩ = some (.bool s_q) ∧ w'.cell? ⟨g_q, 1, none⟩ = some (.slice A_q n_q c_q) ∧ w'.cell? ⟨g_q, 2, none⟩ = some (.slice B_q m_q d_q))
        (first | with_reducible exact ⟨XX.c0, XX.c1, XX.c2, XU.c0, XU.c1, XU.c2, XY.c0, XY.c1, XY.c2, XV.c0, XV.c1, XV.c2, XQ.c0, XQ.c1, XQ.c2⟩)
        (first
          | (go_at_call 10; (with_reducible refine (rmul_q x.qr u.qr (by decide) (by decide) (.inr (by decide)) (by decide) (by decide)).mono ?_); rintro e w_p1 ⟨s_p1, A_p1, n_p1, c_p1, B_p1, m_p1, d_p1, rfl, p1, hh⟩
             try replace u := u.below hh
             try replace x := x.below hh
             try replace y := y.below hh
             try replace v := v.below hh
             try replace q := q.below hh
             try replace p2 := p2.below hh
             try replace XX := XX.below hh
             try replace XU := XU.below hh
             try replace XY := XY.below hh
             try replace XV := XV.below hh
             try replace XQ := XQ.below hh
             replace hb := bend hb hh)
          | (go_at_call 11; (with_reducible refine (rcmp_q p1.qr y.qr (by decide) (by decide) (.inr (by decide)) (by decide) (by decide)).mono ?_); rintro e w_z ⟨rfl, hh⟩
             rw [HK1.out]
             try replace u := u.below hh
             try replace x := x.below hh
             try replace y := y.below hh
             try replace v := v.below hh
             try replace q := q.below hh
             try replace p1 := p1.below hh
             try replace p2 := p2.below hh
             try replace XX := XX.below hh
             try replace XU := XU.below hh
             try replace XY := XY.below hh
             try replace XV := XV.below hh
             try replace XQ := XQ.below hh
             replace hb := bend hb hh)
          | (go_at_call 10; (with_reducible refine (rmul_q v.qr u.qr (by decide) (by decide) (.inr (by decide)) (by decide) (by decide)).mono ?_); rintro e w_p2 ⟨s_p2, A_p2, n_p2, c_p2, B_p2, m_p2, d_p2, rfl, p2, hh⟩
             try replace u := u.below hh
             try replace x := x.below hh
             try replace y := y.below hh
             try replace v := v.below hh
             try replace q := q.below hh
             try replace p1 := p1.below hh
             try replace XX := XX.below hh
             try replace XU := XU.below hh
             try replace XY := XY.below hh
             try replace XV := XV.below hh
             try replace XQ := XQ.below hh
             replace hb := bend hb hh)
          | (go_at_call 11; (with_reducible refine (rcmp_q p2.qr q.qr (by decide) (by decide) (.inr (by decide)) (by decide) (by decide)).mono ?_); rintro e w_z ⟨rfl, hh⟩
             rw [HK2.out]
             try replace u := u.below hh
             try replace x := x.below hh
             try replace y := y.below hh
             try replace v := v.below hh
             try replace q := q.below hh
             try replace p1 := p1.below hh
             try replace p2 := p2.below hh
             try replace XX := XX.below hh
             try replace XU := XU.below hh
             try replace XY := XY.below hh
             try replace XV := XV.below hh
             try replace XQ := XQ.below hh
             replace hb := bend hb hh)
          | (go_at_call 8; (with_reducible refine (rwakes_any _).mono ?_); rintro e w_z ⟨rfl, hh⟩
             try replace u := u.below hh
             try replace x := x.below hh
             try replace y := y.below hh
             try replace v := v.below hh
             try replace q := q.below hh
             try replace p1 := p1.below hh
             try replace p2 := p2.below hh
             try replace XX := XX.below hh
             try replace XU := XU.below hh
             try replace XY := XY.below hh
             try replace XV := XV.below hh
             try replace XQ := XQ.below hh
             replace hb := bend hb hh))
      go_wp2_with fail
      go_ret
      exact ⟨rfl, hb⟩
theorem law_scales {w : World} (s : Bool) (A A' : Option Addr) (n c n' c' k j : Nat) (l l' : List Nat) (r1 : Rd .u64 w A n l) (r2 : Rd .u64 w A' n' l') (t1 : Lim B64 l) (t2 : Lim B64 l') (e1 : n ≤ c) (e2 : n' ≤ c') (hk : k ≤ 255) (hj : j ≤ 255) :
    Calls Try.prog 4 #[.agg #[.bool s, .slice A n c, .slice A' n' c'], .int .u8 (k : Int), .int .u8 (j : Int)] w fun e w' => e = .returned (.bool true) ∧ Below w.heap.size w w' := by
  by_cases h : n ≤ 8 ∧ n' ≤ 8
  · have a := QR.of_rd (s := s) r1 t1 e1 r2 t2 e2 h.1 h.2
    by_cases hv : 0 ≤ mkRat (iv s (val B64 l)) (den1 (val B64 l'))
    · exact scales_small k j _ _ a hk hj (decide_eq_true h) hv rfl rfl
    · exact scales_neg k j a (decide_eq_true h) (Rat.not_le.1 hv)
  · exact scales_large k j (decide_eq_false h)
end Go.Proofs.Ytmcijgnbdnpanaa
