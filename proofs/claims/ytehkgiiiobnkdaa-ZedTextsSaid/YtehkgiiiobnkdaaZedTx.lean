/- The law ZedTexts: the digits of any number, and the number of any digits, or that there is none; the small number that it is. -/
import Derived.Test.YtehkgiiiobnkdaaRefZ3
import Derived.Test.YtehkgiiiobnkdaaRefZ4
import Derived.Test.YtehkgiiiobnkdaaZedH
import Derived.Deep.CutRange
import Derived.Deep.Cut
namespace Go.Proofs.Ytehkgiiiobnkdaa
open Go Go.RowKit

/-- Parse's error's number, and the number that it tells. -/
theorem ZR.more {w : World} {s : Bool} {A : Option Addr} {n c k k1 : Nat} {v : Int} (h : ZR w s A n c v k) (hk : k ≤ k1) : ZR w s A n c v k1 := by
  obtain ⟨l, a1, a2, a3, a4, a5, a6⟩ := h
  exact ⟨l, a1, a2, a3, a4, by omega, Nat.lt_of_lt_of_le a6 (Nat.pow_le_pow_right (by decide) hk)⟩
def perr (s : ByteArray) : Int := if 20000 < s.size then 2 else if zbad s.data.toList then 11 else 0
def pval (s : ByteArray) : Int := if 20000 < s.size ∨ zbad s.data.toList = true then 0 else zval s.data.toList
theorem ZG.nil {w : World} (k : Nat) : ZG w false none 0 0 0 k := ⟨rfl, by rw [show ((0 : Int).natAbs) = 0 from rfl, limbs_zero]; exact Rd.nil, Nat.le_refl _, Nat.zero_le _⟩
theorem RG.nil {w : World} (k : Nat) : RG w false none 0 0 0 k := ⟨rfl, RN.zero w k⟩
theorem pow16 (k : Nat) : 16 ^ (16 * k) = B64 ^ k := by rw [Nat.pow_mul]; rfl
theorem zval_lt_any {l : List UInt8} (k : Nat) (h : zbad l = false) (hl : l.length ≤ 16 * k) : (zval l).natAbs < B64 ^ k := by
  unfold zval
  rw [iv_natAbs]
  have ht : isTextB (zdig l) = true := by unfold zbad at h; cases h' : isTextB (zdig l) <;> simp_all
  have h1 := dec_lt (isTextB_digits ht)
  have h2 := zdig_len l
  refine Nat.lt_of_lt_of_le h1 ?_
  have h3 : 10 ^ (zdig l).length ≤ 16 ^ (zdig l).length := Nat.pow_le_pow_left (by decide) _
  have h4 : 16 ^ (zdig l).length ≤ 16 ^ (16 * k) := Nat.pow_le_pow_right (by decide) (by omega)
  exact Nat.le_trans h3 (pow16 k ▸ h4)
theorem zval_lt {l : List UInt8} (h : zbad l = false) (hl : l.length ≤ 800) : (zval l).natAbs < B64 ^ 50 := zval_lt_any 50 h (by omega)
theorem zparse_u (s : ByteArray) (w : World) (h : s.size ≤ 800 ∨ 20000 < s.size) (hm : s.size ≤ maxLen) :
    Calls Try.prog 30 #[.string s] w fun e w' => ∃ b A n c, e = .returned (.tuple #[.agg #[.bool b, .slice A n c], .int .i64 (perr s)]) ∧ ZG w' b A n c (pval s) 50 ∧ Below w.heap.size w w' := by
  unfold perr pval
  by_cases h1 : 20000 < s.size
  · rw [if_pos h1, if_pos (.inl h1)]
    refine (zparse_long s w h1 hm).mono ?_
    rintro e w' ⟨rfl, hb⟩
    exact ⟨false, none, 0, 0, rfl, ZG.nil _, hb⟩
  · rw [if_neg h1]
    cases hz : zbad s.data.toList with
    | true =>
      rw [if_pos rfl, if_pos (.inr rfl)]
      refine (zparse_form s w (by omega) hz).mono ?_
      rintro e w' ⟨rfl, hb⟩
      exact ⟨false, none, 0, 0, rfl, ZG.nil _, hb⟩
    | false =>
      rw [if_neg (by decide), if_neg (by simp [h1])]
      refine (zparse_ok s w (by omega) hz 50 (zval_lt hz (by rw [← Lib.size_eq s]; omega))).mono ?_
      rintro e w' ⟨A, n, c, rfl, p1, p2, p3, hb⟩
      obtain ⟨l, _, _, _, p4, _⟩ := p1
      exact ⟨_, A, n, c, rfl, ⟨rfl, p3, p4, p2⟩, hb⟩
theorem rparse_u (s : ByteArray) (w : World) (_h : s.size ≤ 800 ∨ 20000 < s.size) (hm : s.size ≤ maxLen) :
    Calls Try.prog 31 #[.string s] w fun e w' => ∃ b A n c, e = .returned (.tuple #[.agg #[.bool b, .slice A n c], .int .i64 (perr s)]) ∧ RG w' b A n c (pval s) 2500 ∧ Below w.heap.size w w' := by
  unfold perr pval
  by_cases h1 : 20000 < s.size
  · rw [if_pos h1, if_pos (.inl h1)]
    refine (rparse2_long s w h1 hm).mono ?_
    rintro e w' ⟨rfl, hb⟩
    exact ⟨false, none, 0, 0, rfl, RG.nil _, hb⟩
  · rw [if_neg h1]
    cases hz : zbad s.data.toList with
    | true =>
      rw [if_pos rfl, if_pos (.inr rfl)]
      refine (rparse2_no s w (by omega) hz).mono ?_
      rintro e w' ⟨rfl, hb⟩
      exact ⟨false, none, 0, 0, rfl, RG.nil _, hb⟩
    | false =>
      rw [if_neg (by decide), if_neg (by simp [h1])]
      exact rparse2_yes s w (by omega) hz
theorem rof2_any (v : Int) (h1 : -9223372036854775808 ≤ v) (h2 : v < 9223372036854775808) (w : World) : Calls Try.prog 33 #[.int .i64 v] w (GivesRZ w v 2) := by
  by_cases h : v < 0
  · obtain ⟨V, rfl⟩ : ∃ V : Nat, v = -(V : Int) := ⟨v.natAbs, by omega⟩
    exact rof2_neg V (by omega) (by omega) w
  · obtain ⟨V, rfl⟩ : ∃ V : Nat, v = (V : Int) := ⟨v.natAbs, by omega⟩
    exact rof2_pos V (by omega) w
theorem zof_zg (v : Int) (h1 : -9223372036854775808 ≤ v) (h2 : v < 9223372036854775808) (w : World) : Calls Try.prog 36 #[.int .i64 v] w (GivesZG w v 1) :=
  (zof_any v h1 h2 w).mono fun e w' h => h.zg (by rw [Nat.pow_one]; unfold B64; omega)
theorem small_zr2 {w : World} {s : Bool} {A : Option Addr} {n c k : Nat} {v : Int} (X : ZR w s A n c v k) (hk : k ≤ 1000) :
    Calls Try.prog 32 #[.agg #[.bool s, .slice A n c]] w fun e w' => e = .returned (.tuple #[.int .i64 (smallV v), .bool (fitsB v)]) ∧ Below w.heap.size w w' := by
  obtain ⟨la, a1, a2, rfl, a4, a5, a6⟩ := X
  exact small_any s la A n c w a1 a2 (by omega) a4

set_option maxRecDepth 100000 in
set_option maxHeartbeats 8000000 in
theorem ztexts_fit (s : Bool) (v : Int) (A : Option Addr) (n c' : Nat) (q : ByteArray) (i : Int) (w : World) (a : ZR w s A n c' v 40) (hn : n ≤ 40) (hq : q.size ≤ 800 ∨ 20000 < q.size) (hqm : q.size ≤ maxLen) (hi1 : -9223372036854775808 ≤ i) (hi2 : i < 9223372036854775808) (hv1 : -9223372036854775808 ≤ v) (hv2 : v < 9223372036854775808) :
    Calls Try.prog 5 #[.agg #[.bool s, .slice A n c'], .string q, .int .i64 i] w fun e w' => e = .returned (.bool true) ∧ Below w.heap.size w w' := by
    have HL1 : Hid (decide (40 < n) = false) := decide_eq_false (by omega)
    have HQ := Lib.hid hq
    have HQM := Lib.hid hqm
    have HI1 := Lib.hid hi1
    have HI2 := Lib.hid hi2
    have hf : fitsB v = true := by unfold fitsB; exact decide_eq_true ⟨hv1, hv2⟩
    have HS1 : Hid (smallV v = v) := smallV_t hf
    have HS2 := Lib.hid hf
    have HF1 := Lib.hid hv1
    have HF2 := Lib.hid hv2
    have HC0 : Hid (cmpZ v v = 0) := cmpZ_self v
    obtain ⟨K1, hK1, hk1⟩ : ∃ K1, cmpZ v 9223372036854775807 = K1 ∧ K1 ≤ 0 := ⟨_, rfl, by unfold cmpZ; (repeat' split) <;> omega⟩
    obtain ⟨K2, hK2, hk2⟩ : ∃ K2, cmpZ v (-9223372036854775808) = K2 ∧ 0 ≤ K2 := ⟨_, rfl, by unfold cmpZ; (repeat' split) <;> omega⟩
    have HC1 := Lib.hid hK1
    have HC2 := Lib.hid hK2
    clear hK1 hK2 hf hv1 hv2
    have hz : ¬ (800 : Int) < (q.size : Int) ∨ ((800 : Int) < (q.size : Int) ∧ ¬ (q.size : Int) ≤ 20000) := by omega
    clear hi1 hi2 hq hqm
    rcases hz with hz1 | ⟨hz1, hz2⟩
    all_goals
      go_enter Try.func5, Try.ntmps5
      go_wp2_with fail
      generalize hW : w.alloc (Obj.cells #[Value.bool s, Value.slice A n c'] 24) = W
      have hb : Below w.heap.size w W := by subst hW; exact (Below.refl _ _).alloc (Nat.le_refl _) _
      have XA : Bx W w.heap.size (.bool s) (.slice A n c') := by subst hW; exact Bx.new w _ _
      clear hW
      try replace a := a.below hb
      have xa0 := XA.c0
      have xa1 := XA.c1
      go_upto_region 4 with (first
        | (go_at_call 8; (refine (large_any s A n c' _).mono ?_); rintro e w_z ⟨rfl, hh⟩
           rw [HL1.out]
           try replace a := a.below hh
           try replace x := x.below hh
           try replace y := y.below hh
           try replace o := o.below hh
           try replace pn := pn.below hh
           try replace pm := pm.below hh
           try replace XA := XA.below hh
           try replace XN := XN.below hh
           try replace XM := XM.below hh
           replace hb := bend hb hh
           have xa0 := XA.c0
           have xa1 := XA.c1)
        | (go_at_call 30; (with_reducible refine (zparse_u q _ HQ.out HQM.out).mono ?_); rintro e w_n ⟨s_pn, A_pn, n_pn, c_pn, rfl, pn, hh⟩
           try replace a := a.below hh
           try replace x := x.below hh
           try replace y := y.below hh
           try replace o := o.below hh
           try replace pm := pm.below hh
           try replace XA := XA.below hh
           try replace XN := XN.below hh
           try replace XM := XM.below hh
           replace hb := bend hb hh
           have xa0 := XA.c0
           have xa1 := XA.c1))
      generalize hW2 : w_n.alloc (Obj.cells #[Value.bool s_pn, Value.slice A_pn n_pn c_pn] 24) = W_pn
      have hh : Below w_n.heap.size w_n W_pn := by subst hW2; exact (Below.refl _ _).alloc (Nat.le_refl _) _
      have XN : Bx W_pn w_n.heap.size (.bool s_pn) (.slice A_pn n_pn c_pn) := by subst hW2; exact Bx.new w_n _ _
      clear hW2
      try replace a := a.below hh
      try replace x := x.below hh
      try replace y := y.below hh
      try replace o := o.below hh
      try replace pn := pn.below hh
      try replace pm := pm.below hh
      try replace XA := XA.below hh
      try replace XM := XM.below hh
      replace hb := bend hb hh
      have xa0 := XA.c0
      have xa1 := XA.c1
      have xn0 := XN.c0
      have xn1 := XN.c1
      go_upto_region 5 with (first
        | (go_at_call 31; (with_reducible refine (rparse_u q _ HQ.out HQM.out).mono ?_); rintro e w_m ⟨s_pm, A_pm, n_pm, c_pm, rfl, pm, hh⟩
           try replace a := a.below hh
           try replace x := x.below hh
           try replace y := y.below hh
           try replace o := o.below hh
           try replace pn := pn.below hh
           try replace XA := XA.below hh
           try replace XN := XN.below hh
           try replace XM := XM.below hh
           replace hb := bend hb hh
           have xa0 := XA.c0
           have xa1 := XA.c1
           have xn0 := XN.c0
           have xn1 := XN.c1))
      generalize hW2 : w_m.alloc (Obj.cells #[Value.bool s_pm, Value.slice A_pm n_pm c_pm] 30) = W_pm
      have hh : Below w_m.heap.size w_m W_pm := by subst hW2; exact (Below.refl _ _).alloc (Nat.le_refl _) _
      have XM : By W_pm w_m.heap.size (.bool s_pm) (.slice A_pm n_pm c_pm) := by subst hW2; exact By.new w_m _ _
      clear hW2
      try replace a := a.below hh
      try replace x := x.below hh
      try replace y := y.below hh
      try replace o := o.below hh
      try replace pn := pn.below hh
      try replace pm := pm.below hh
      try replace XA := XA.below hh
      try replace XN := XN.below hh
      replace hb := bend hb hh
      have xa0 := XA.c0
      have xa1 := XA.c1
      have xn0 := XN.c0
      have xn1 := XN.c1
      have xm0 := XM.c0
      have xm1 := XM.c1
      go_upto_region 6 with (first
        | (go_at_call 32; (with_reducible refine (small_zr2 a (by omega)).mono ?_); rintro e w_z ⟨rfl, hh⟩
           rw [HS1.out, HS2.out]
           try replace a := a.below hh
           try replace x := x.below hh
           try replace y := y.below hh
           try replace o := o.below hh
           try replace pn := pn.below hh
           try replace pm := pm.below hh
           try replace XA := XA.below hh
           try replace XN := XN.below hh
           try replace XM := XM.below hh
           replace hb := bend hb hh
           have xa0 := XA.c0
           have xa1 := XA.c1
           have xn0 := XN.c0
           have xn1 := XN.c1
           have xm0 := XM.c0
           have xm1 := XM.c1))
      replace a := a.below (Below.refl _ _).drew
      replace pn := pn.below (Below.refl _ _).drew
      replace pm := pm.below (Below.refl _ _).drew
      replace XA := XA.below (Below.refl _ _).drew
      replace XN := XN.below (Below.refl _ _).drew
      replace XM := XM.below (Below.refl _ _).drew
      replace hb := hb.drew
      refine wp_region_held_drew (S := (fun w' => w'.cell? ⟨w.heap.size, 0, none⟩ = some (.bool s) ∧ w'.cell? ⟨w.heap.size, 1, none⟩ = some (.slice A n c') ∧ w'.cell? ⟨w_n.heap.size, 0, none⟩ = some (.bool s_pn) ∧ w'.cell? ⟨w_n.heap.size, 1, none⟩ = some (.slice A_pn n_pn c_pn) ∧ w'.cell? ⟨w_m.heap.size, 0, none⟩ = some (.bool s_pm) ∧ w'.cell? ⟨w_m.heap.size, 1, none⟩ = some (.slice A_pm n_pm c_pm))) (by kernel_rfl) ⟨XA.c0, XA.c1, XN.c0, XN.c1, XM.c0, XM.c1⟩ (fun hHeld => ?_)
      refine wpAnyH_take (i := 0) (oi := { dst := some 43, op := Op.move (Operand.tmp 12), type := 4, pos := "law.go:58", after := #[], guard := none }) (v := ?_) rfl (by kernel_rfl) (by kernel_rfl) (by kernel_rfl) (fun _ _ _ h => h) (Or.inl ⟨by rfl, ?_⟩) hHeld ?_
      rotate_left
      · (intro w hSw; (try dsimp only at hSw); go_simp; try with_reducible rfl)
      simp only [Act.put, List.setIfInBounds_toArray, List.set_cons_zero, List.set_cons_succ]
      refine wpAnyH_take (i := 1) (oi := { dst := some 44, op := Op.move (Operand.tmp 43), type := 4, pos := "law.go:58", after := #[{ on := 0, ground := Ground.data }], guard := none }) (v := ?_) rfl (by kernel_rfl) (by kernel_rfl) (by kernel_rfl) (fun _ _ _ h => h) (Or.inl ⟨by rfl, ?_⟩) hHeld ?_
      rotate_left
      · (intro w hSw; (try dsimp only at hSw); go_simp; try with_reducible rfl)
      simp only [Act.put, List.setIfInBounds_toArray, List.set_cons_zero, List.set_cons_succ]
      refine wpAnyH_take (i := 2) (oi := { dst := some 45, op := Op.move (Operand.tmp 11), type := 2, pos := "law.go:58", after := #[{ on := 1, ground := Ground.guard }], guard := some (1, true) }) (v := ?_) rfl (by kernel_rfl) (by kernel_rfl) (by kernel_rfl) (fun _ _ _ h => h) (Or.inl ⟨by rfl, ?_⟩) hHeld ?_
      rotate_left
      · (intro w hSw; (try dsimp only at hSw); go_simp; try with_reducible rfl)
      simp only [Act.put, List.setIfInBounds_toArray, List.set_cons_zero, List.set_cons_succ]
      refine wpAnyH_take (i := 4) (oi := { dst := some 47, op := Op.load 24 (Operand.tmp 3), type := 24, pos := "law.go:58", after := #[{ on := 1, ground := Ground.guard }], guard := some (1, true) }) (v := ?_) rfl (by kernel_rfl) (by kernel_rfl) (by kernel_rfl) (fun _ _ _ h => h) (Or.inl ⟨by rfl, ?_⟩) hHeld ?_
      rotate_left
      · (intro w hSw; (try dsimp only at hSw); go_simp; try with_reducible rfl)
      simp only [Act.put, List.setIfInBounds_toArray, List.set_cons_zero, List.set_cons_succ]
      refine wpAnyH_ready (rs := [3]) (by kernel_rfl) (by simp) ?_
      refine AllReadyH.cons (o := { dst := some 46, op := Op.call { callee := Callee.value (Operand.func 33), args := #[Operand.tmp 45], argTypes := #[2] }, type := 30, pos := "law.go:58", after := #[{ on := 2, ground := Ground.data }, { on := 1, ground := Ground.chain }, { on := 1, ground := Ground.guard }], guard := some (1, true) }) rfl (fun K1 hK1 => ?_) AllReadyH.nil
      go_simp
      first
        | (go_at_call 33; (with_reducible refine (rof2_any v HF1.out HF2.out _).mono ?_); rintro e w_o ⟨s_o, A_o, n_o, c_o, rfl, o, hh⟩
           try replace a := a.below hh
           try replace x := x.below hh
           try replace y := y.below hh
           try replace pn := pn.below hh
           try replace pm := pm.below hh
           try replace XA := XA.below hh
           try replace XN := XN.below hh
           try replace XM := XM.below hh
           replace hb := bend hb hh)
      refine hK1.out _ _ ⟨XA.c0, XA.c1, XN.c0, XN.c1, XM.c0, XM.c1⟩ (fun hHeld => ?_)
      clear hK1 K1
      refine wpAnyH_ready (rs := [5]) (by kernel_rfl) (by simp) ?_
      refine AllReadyH.cons (o := { dst := some 48, op := Op.call { callee := Callee.value (Operand.func 10), args := #[Operand.tmp 47], argTypes := #[24] }, type := 30, pos := "law.go:58", after := #[{ on := 4, ground := Ground.data }, { on := 3, ground := Ground.chain }, { on := 1, ground := Ground.guard }], guard := some (1, true) }) rfl (fun K1 hK1 => ?_) AllReadyH.nil
      go_simp
      first
        | (go_at_call 10; (with_reducible refine (rin2 a (by omega)).mono ?_); rintro e w_x ⟨s_x, A_x, n_x, c_x, rfl, x, hh⟩
           try replace a := a.below hh
           try replace y := y.below hh
           try replace o := o.below hh
           try replace pn := pn.below hh
           try replace pm := pm.below hh
           try replace XA := XA.below hh
           try replace XN := XN.below hh
           try replace XM := XM.below hh
           replace hb := bend hb hh)
      refine hK1.out _ _ ⟨XA.c0, XA.c1, XN.c0, XN.c1, XM.c0, XM.c1⟩ (fun hHeld => ?_)
      clear hK1 K1
      refine wpAnyH_ready (rs := [6]) (by kernel_rfl) (by simp) ?_
      refine AllReadyH.cons (o := { dst := some 49, op := Op.call { callee := Callee.value (Operand.func 22), args := #[Operand.tmp 46, Operand.tmp 48], argTypes := #[30, 30] }, type := 3, pos := "law.go:58", after := #[{ on := 3, ground := Ground.data }, { on := 5, ground := Ground.data }, { on := 5, ground := Ground.chain }, { on := 1, ground := Ground.guard }], guard := some (1, true) }) rfl (fun K1 hK1 => ?_) AllReadyH.nil
      go_simp
      first
        | (go_at_call 22; (with_reducible refine (rcmp2 o.rz x.rz (by omega) (by omega)).mono ?_); rintro e w_z ⟨rfl, hh⟩
           rw [HC0.out]
           try replace a := a.below hh
           try replace x := x.below hh
           try replace y := y.below hh
           try replace o := o.below hh
           try replace pn := pn.below hh
           try replace pm := pm.below hh
           try replace XA := XA.below hh
           try replace XN := XN.below hh
           try replace XM := XM.below hh
           replace hb := bend hb hh)
      refine hK1.out _ _ ⟨XA.c0, XA.c1, XN.c0, XN.c1, XM.c0, XM.c1⟩ (fun hHeld => ?_)
      clear hK1 K1
      refine wpAnyH_take (i := 7) (oi := { dst := some 50, op := Op.binOp BinOp.eql 3 (Operand.tmp 49) (Operand.const (Value.int IntKind.i64 0)) 3, type := 4, pos := "law.go:58", after := #[{ on := 6, ground := Ground.data }, { on := 1, ground := Ground.guard }], guard := some (1, true) }) (v := ?_) rfl (by kernel_rfl) (by kernel_rfl) (by kernel_rfl) (fun _ _ _ h => h) (Or.inl ⟨by rfl, ?_⟩) hHeld ?_
      rotate_left
      · (intro w hSw; (try dsimp only at hSw); go_simp; try with_reducible rfl)
      simp only [Act.put, List.setIfInBounds_toArray, List.set_cons_zero, List.set_cons_succ]
      refine wpAnyH_take (i := 8) (oi := { dst := some 51, op := Op.pick (Operand.tmp 44) (Operand.tmp 50) (Operand.const (Value.bool false)), type := 4, pos := "law.go:58", after := #[{ on := 1, ground := Ground.data }, { on := 7, ground := Ground.data }], guard := none }) (v := ?_) rfl (by kernel_rfl) (by kernel_rfl) (by kernel_rfl) (fun _ _ _ h => h) (Or.inl ⟨by rfl, ?_⟩) hHeld ?_
      rotate_left
      · (intro w hSw; (try dsimp only at hSw); go_simp; try with_reducible rfl)
      simp only [Act.put, List.setIfInBounds_toArray, List.set_cons_zero, List.set_cons_succ]
      refine wpAnyH_take (i := 9) (oi := { dst := some 13, op := Op.assign (Operand.tmp 51), type := 4, pos := "law.go:58", after := #[{ on := 8, ground := Ground.data }, { on := 6, ground := Ground.chain }, { on := 0, ground := Ground.phase }, { on := 1, ground := Ground.phase }, { on := 2, ground := Ground.phase }, { on := 3, ground := Ground.phase }, { on := 4, ground := Ground.phase }, { on := 5, ground := Ground.phase }, { on := 6, ground := Ground.phase }, { on := 7, ground := Ground.phase }, { on := 8, ground := Ground.phase }], guard := none }) (v := ?_) rfl (by kernel_rfl) (by kernel_rfl) (by kernel_rfl) (fun _ _ _ h => h) (Or.inl ⟨by rfl, ?_⟩) hHeld ?_
      rotate_left
      · (intro w hSw; (try dsimp only at hSw); go_simp; try with_reducible rfl)
      simp only [Act.put, List.setIfInBounds_toArray, List.set_cons_zero, List.set_cons_succ]
      refine wpAnyH_done (by kernel_rfl) ?_ _
      try clear o
      try clear x
      clear hHeld
      have xa0 := XA.c0
      have xa1 := XA.c1
      have xn0 := XN.c0
      have xn1 := XN.c1
      have xm0 := XM.c0
      have xm1 := XM.c1
      go_upto_region 8 with (first
        | (go_at_call 10; (with_reducible refine (rin2 a (by omega)).mono ?_); rintro e w_x ⟨s_x, A_x, n_x, c_x, rfl, x, hh⟩
           try replace a := a.below hh
           try replace y := y.below hh
           try replace o := o.below hh
           try replace pn := pn.below hh
           try replace pm := pm.below hh
           try replace XA := XA.below hh
           try replace XN := XN.below hh
           try replace XM := XM.below hh
           replace hb := bend hb hh
           have xa0 := XA.c0
           have xa1 := XA.c1
           have xn0 := XN.c0
           have xn1 := XN.c1
           have xm0 := XM.c0
           have xm1 := XM.c1)
        | (go_at_call 33; (with_reducible refine (rof2_any 9223372036854775807 (by decide) (by decide) _).mono ?_); rintro e w_o ⟨s_o, A_o, n_o, c_o, rfl, o, hh⟩
           try replace a := a.below hh
           try replace x := x.below hh
           try replace y := y.below hh
           try replace pn := pn.below hh
           try replace pm := pm.below hh
           try replace XA := XA.below hh
           try replace XN := XN.below hh
           try replace XM := XM.below hh
           replace hb := bend hb hh
           have xa0 := XA.c0
           have xa1 := XA.c1
           have xn0 := XN.c0
           have xn1 := XN.c1
           have xm0 := XM.c0
           have xm1 := XM.c1)
        | (go_at_call 22; (with_reducible refine (rcmp2 x.rz o.rz (by omega) (by omega)).mono ?_); rintro e w_z ⟨rfl, hh⟩
           rw [HC1.out]
           try replace a := a.below hh
           try replace x := x.below hh
           try replace y := y.below hh
           try replace o := o.below hh
           try replace pn := pn.below hh
           try replace pm := pm.below hh
           try replace XA := XA.below hh
           try replace XN := XN.below hh
           try replace XM := XM.below hh
           replace hb := bend hb hh
           have xa0 := XA.c0
           have xa1 := XA.c1
           have xn0 := XN.c0
           have xn1 := XN.c1
           have xm0 := XM.c0
           have xm1 := XM.c1)
        | (go_at_call 33; (with_reducible refine (rof2_any (-9223372036854775808) (by decide) (by decide) _).mono ?_); rintro e w_y ⟨s_y, A_y, n_y, c_y, rfl, y, hh⟩
           try replace a := a.below hh
           try replace x := x.below hh
           try replace o := o.below hh
           try replace pn := pn.below hh
           try replace pm := pm.below hh
           try replace XA := XA.below hh
           try replace XN := XN.below hh
           try replace XM := XM.below hh
           replace hb := bend hb hh
           have xa0 := XA.c0
           have xa1 := XA.c1
           have xn0 := XN.c0
           have xn1 := XN.c1
           have xm0 := XM.c0
           have xm1 := XM.c1)
        | (go_at_call 22; (with_reducible refine (rcmp2 x.rz y.rz (by omega) (by omega)).mono ?_); rintro e w_z ⟨rfl, hh⟩
           rw [HC2.out]
           try replace a := a.below hh
           try replace x := x.below hh
           try replace y := y.below hh
           try replace o := o.below hh
           try replace pn := pn.below hh
           try replace pm := pm.below hh
           try replace XA := XA.below hh
           try replace XN := XN.below hh
           try replace XM := XM.below hh
           replace hb := bend hb hh
           have xa0 := XA.c0
           have xa1 := XA.c1
           have xn0 := XN.c0
           have xn1 := XN.c1
           have xm0 := XM.c0
           have xm1 := XM.c1))
      try clear o
      try clear x
      try clear y
      replace a := a.below (Below.refl _ _).drew
      replace pn := pn.below (Below.refl _ _).drew
      replace pm := pm.below (Below.refl _ _).drew
      replace XA := XA.below (Below.refl _ _).drew
      replace XN := XN.below (Below.refl _ _).drew
      replace XM := XM.below (Below.refl _ _).drew
      replace hb := hb.drew
      refine wp_region_held_drew (S := (fun w' => w'.cell? ⟨w.heap.size, 0, none⟩ = some (.bool s) ∧ w'.cell? ⟨w.heap.size, 1, none⟩ = some (.slice A n c') ∧ w'.cell? ⟨w_n.heap.size, 0, none⟩ = some (.bool s_pn) ∧ w'.cell? ⟨w_n.heap.size, 1, none⟩ = some (.slice A_pn n_pn c_pn) ∧ w'.cell? ⟨w_m.heap.size, 0, none⟩ = some (.bool s_pm) ∧ w'.cell? ⟨w_m.heap.size, 1, none⟩ = some (.slice A_pm n_pm c_pm))) (by kernel_rfl) ⟨XA.c0, XA.c1, XN.c0, XN.c1, XM.c0, XM.c1⟩ (fun hHeld => ?_)
      refine wpAnyH_take (i := 0) (oi := { dst := some 64, op := Op.load 24 (Operand.tmp 3), type := 24, pos := "law.go:60", after := #[], guard := none }) (v := ?_) rfl (by kernel_rfl) (by kernel_rfl) (by kernel_rfl) (fun _ _ _ h => h) (Or.inl ⟨by rfl, ?_⟩) hHeld ?_
      rotate_left
      · (intro w hSw; (try dsimp only at hSw); go_simp; try with_reducible rfl)
      simp only [Act.put, List.setIfInBounds_toArray, List.set_cons_zero, List.set_cons_succ]
      refine wpAnyH_take (i := 2) (oi := { dst := some 66, op := Op.load 24 (Operand.tmp 3), type := 24, pos := "law.go:60", after := #[], guard := none }) (v := ?_) rfl (by kernel_rfl) (by kernel_rfl) (by kernel_rfl) (fun _ _ _ h => h) (Or.inl ⟨by rfl, ?_⟩) hHeld ?_
      rotate_left
      · (intro w hSw; (try dsimp only at hSw); go_simp; try with_reducible rfl)
      simp only [Act.put, List.setIfInBounds_toArray, List.set_cons_zero, List.set_cons_succ]
      refine wpAnyH_ready (rs := [1]) (by kernel_rfl) (by simp) ?_
      refine AllReadyH.cons (o := { dst := some 65, op := Op.call { callee := Callee.value (Operand.func 34), args := #[Operand.tmp 64], argTypes := #[24] }, type := 9, pos := "law.go:60", after := #[{ on := 0, ground := Ground.data }], guard := none }) rfl (fun K1 hK1 => ?_) AllReadyH.nil
      go_simp
      first
        | (go_at_call 34; (with_reducible refine (ztext_zr (a.more (show 40 ≤ 78 by omega)) (by omega)).mono ?_); rintro e w_z ⟨rfl, hh⟩
           try replace a := a.below hh
           try replace x := x.below hh
           try replace y := y.below hh
           try replace o := o.below hh
           try replace pn := pn.below hh
           try replace pm := pm.below hh
           try replace XA := XA.below hh
           try replace XN := XN.below hh
           try replace XM := XM.below hh
           replace hb := bend hb hh)
      refine hK1.out _ _ ⟨XA.c0, XA.c1, XN.c0, XN.c1, XM.c0, XM.c1⟩ (fun hHeld => ?_)
      clear hK1 K1
      refine wpAnyH_ready (rs := [3]) (by kernel_rfl) (by simp) ?_
      refine AllReadyH.cons (o := { dst := some 67, op := Op.call { callee := Callee.value (Operand.func 10), args := #[Operand.tmp 66], argTypes := #[24] }, type := 30, pos := "law.go:60", after := #[{ on := 2, ground := Ground.data }, { on := 1, ground := Ground.chain }], guard := none }) rfl (fun K1 hK1 => ?_) AllReadyH.nil
      go_simp
      first
        | (go_at_call 10; (with_reducible refine (rin2 a (by omega)).mono ?_); rintro e w_x ⟨s_x, A_x, n_x, c_x, rfl, x, hh⟩
           try replace a := a.below hh
           try replace y := y.below hh
           try replace o := o.below hh
           try replace pn := pn.below hh
           try replace pm := pm.below hh
           try replace XA := XA.below hh
           try replace XN := XN.below hh
           try replace XM := XM.below hh
           replace hb := bend hb hh)
      refine hK1.out _ _ ⟨XA.c0, XA.c1, XN.c0, XN.c1, XM.c0, XM.c1⟩ (fun hHeld => ?_)
      clear hK1 K1
      refine wpAnyH_ready (rs := [4]) (by kernel_rfl) (by simp) ?_
      refine AllReadyH.cons (o := { dst := some 68, op := Op.call { callee := Callee.value (Operand.func 35), args := #[Operand.tmp 67], argTypes := #[30] }, type := 9, pos := "law.go:60", after := #[{ on := 3, ground := Ground.data }, { on := 3, ground := Ground.chain }], guard := none }) rfl (fun K1 hK1 => ?_) AllReadyH.nil
      go_simp
      first
        | (go_at_call 35; (with_reducible refine (rtext2 x (by omega)).mono ?_); rintro e w_z ⟨rfl, hh⟩
           try replace a := a.below hh
           try replace x := x.below hh
           try replace y := y.below hh
           try replace o := o.below hh
           try replace pn := pn.below hh
           try replace pm := pm.below hh
           try replace XA := XA.below hh
           try replace XN := XN.below hh
           try replace XM := XM.below hh
           replace hb := bend hb hh)
      refine hK1.out _ _ ⟨XA.c0, XA.c1, XN.c0, XN.c1, XM.c0, XM.c1⟩ (fun hHeld => ?_)
      clear hK1 K1
      refine wpAnyH_take (i := 5) (oi := { dst := some 69, op := Op.binOp BinOp.eql 9 (Operand.tmp 65) (Operand.tmp 68) 9, type := 4, pos := "law.go:60", after := #[{ on := 1, ground := Ground.data }, { on := 4, ground := Ground.data }], guard := none }) (v := ?_) rfl (by kernel_rfl) (by kernel_rfl) (by kernel_rfl) (fun _ _ _ h => h) (Or.inl ⟨by rfl, ?_⟩) hHeld ?_
      rotate_left
      · (intro w hSw; (try dsimp only at hSw); go_simp; try with_reducible rfl)
      simp only [Act.put, List.setIfInBounds_toArray, List.set_cons_zero, List.set_cons_succ]
      refine wpAnyH_take (i := 6) (oi := { dst := some 70, op := Op.move (Operand.tmp 69), type := 4, pos := "law.go:60", after := #[{ on := 5, ground := Ground.data }, { on := 4, ground := Ground.chain }], guard := none }) (v := ?_) rfl (by kernel_rfl) (by kernel_rfl) (by kernel_rfl) (fun _ _ _ h => h) (Or.inl ⟨by rfl, ?_⟩) hHeld ?_
      rotate_left
      · (intro w hSw; (try dsimp only at hSw); go_simp; try with_reducible rfl)
      simp only [Act.put, List.setIfInBounds_toArray, List.set_cons_zero, List.set_cons_succ]
      refine wpAnyH_take (i := 7) (oi := { dst := some 71, op := Op.load 24 (Operand.tmp 7), type := 24, pos := "law.go:60", after := #[{ on := 6, ground := Ground.guard }], guard := some (6, true) }) (v := ?_) rfl (by kernel_rfl) (by kernel_rfl) (by kernel_rfl) (fun _ _ _ h => h) (Or.inl ⟨by rfl, ?_⟩) hHeld ?_
      rotate_left
      · (intro w hSw; (try dsimp only at hSw); go_simp; try with_reducible rfl)
      simp only [Act.put, List.setIfInBounds_toArray, List.set_cons_zero, List.set_cons_succ]
      refine wpAnyH_take (i := 8) (oi := { dst := some 72, op := Op.load 30 (Operand.tmp 9), type := 30, pos := "law.go:60", after := #[{ on := 6, ground := Ground.guard }], guard := some (6, true) }) (v := ?_) rfl (by kernel_rfl) (by kernel_rfl) (by kernel_rfl) (fun _ _ _ h => h) (Or.inl ⟨by rfl, ?_⟩) hHeld ?_
      rotate_left
      · (intro w hSw; (try dsimp only at hSw); go_simp; try with_reducible rfl)
      simp only [Act.put, List.setIfInBounds_toArray, List.set_cons_zero, List.set_cons_succ]
      refine wpAnyH_ready (rs := [9]) (by kernel_rfl) (by simp) ?_
      refine AllReadyH.cons (o := { dst := some 73, op := Op.call { callee := Callee.value (Operand.func 14), args := #[Operand.tmp 71, Operand.tmp 72], argTypes := #[24, 30] }, type := 4, pos := "law.go:60", after := #[{ on := 7, ground := Ground.data }, { on := 8, ground := Ground.data }, { on := 6, ground := Ground.chain }, { on := 6, ground := Ground.guard }], guard := some (6, true) }) rfl (fun K1 hK1 => ?_) AllReadyH.nil
      go_simp
      first
        | (go_at_call 14; (with_reducible refine (same2 pn pm (by omega) (by omega)).mono ?_); rintro e w_z ⟨rfl, hh⟩
           try replace a := a.below hh
           try replace x := x.below hh
           try replace y := y.below hh
           try replace o := o.below hh
           try replace pn := pn.below hh
           try replace pm := pm.below hh
           try replace XA := XA.below hh
           try replace XN := XN.below hh
           try replace XM := XM.below hh
           replace hb := bend hb hh)
        | (go_at_call 14; (with_reducible refine (same2 o y (by omega) (by omega)).mono ?_); rintro e w_z ⟨rfl, hh⟩
           try replace a := a.below hh
           try replace x := x.below hh
           try replace y := y.below hh
           try replace o := o.below hh
           try replace pn := pn.below hh
           try replace pm := pm.below hh
           try replace XA := XA.below hh
           try replace XN := XN.below hh
           try replace XM := XM.below hh
           replace hb := bend hb hh)
      refine hK1.out _ _ ⟨XA.c0, XA.c1, XN.c0, XN.c1, XM.c0, XM.c1⟩ (fun hHeld => ?_)
      clear hK1 K1
      refine wpAnyH_take (i := 10) (oi := { dst := some 74, op := Op.pick (Operand.tmp 70) (Operand.tmp 73) (Operand.const (Value.bool false)), type := 4, pos := "law.go:60", after := #[{ on := 6, ground := Ground.data }, { on := 9, ground := Ground.data }], guard := none }) (v := ?_) rfl (by kernel_rfl) (by kernel_rfl) (by kernel_rfl) (fun _ _ _ h => h) (Or.inl ⟨by rfl, ?_⟩) hHeld ?_
      rotate_left
      · (intro w hSw; (try dsimp only at hSw); go_simp; try with_reducible rfl)
      simp only [Act.put, List.setIfInBounds_toArray, List.set_cons_zero, List.set_cons_succ]
      refine wpAnyH_take (i := 11) (oi := { dst := some 75, op := Op.move (Operand.tmp 74), type := 4, pos := "law.go:60", after := #[{ on := 10, ground := Ground.data }, { on := 9, ground := Ground.chain }], guard := none }) (v := ?_) rfl (by kernel_rfl) (by kernel_rfl) (by kernel_rfl) (fun _ _ _ h => h) (Or.inl ⟨by rfl, ?_⟩) hHeld ?_
      rotate_left
      · (intro w hSw; (try dsimp only at hSw); go_simp; try with_reducible rfl)
      simp only [Act.put, List.setIfInBounds_toArray, List.set_cons_zero, List.set_cons_succ]
      refine wpAnyH_take (i := 12) (oi := { dst := some 76, op := Op.move (Operand.tmp 8), type := 43, pos := "law.go:60", after := #[{ on := 11, ground := Ground.guard }], guard := some (11, true) }) (v := ?_) rfl (by kernel_rfl) (by kernel_rfl) (by kernel_rfl) (fun _ _ _ h => h) (Or.inl ⟨by rfl, ?_⟩) hHeld ?_
      rotate_left
      · (intro w hSw; (try dsimp only at hSw); go_simp; try with_reducible rfl)
      simp only [Act.put, List.setIfInBounds_toArray, List.set_cons_zero, List.set_cons_succ]
      refine wpAnyH_take (i := 13) (oi := { dst := some 77, op := Op.move (Operand.tmp 10), type := 3, pos := "law.go:60", after := #[{ on := 11, ground := Ground.guard }], guard := some (11, true) }) (v := ?_) rfl (by kernel_rfl) (by kernel_rfl) (by kernel_rfl) (fun _ _ _ h => h) (Or.inl ⟨by rfl, ?_⟩) hHeld ?_
      rotate_left
      · (intro w hSw; (try dsimp only at hSw); go_simp; try with_reducible rfl)
      simp only [Act.put, List.setIfInBounds_toArray, List.set_cons_zero, List.set_cons_succ]
      refine wpAnyH_take (i := 14) (oi := { dst := some 78, op := Op.binOp BinOp.eql 3 (Operand.tmp 76) (Operand.tmp 77) 3, type := 4, pos := "law.go:60", after := #[{ on := 12, ground := Ground.data }, { on := 13, ground := Ground.data }, { on := 11, ground := Ground.guard }], guard := some (11, true) }) (v := ?_) rfl (by kernel_rfl) (by kernel_rfl) (by kernel_rfl) (fun _ _ _ h => h) (Or.inl ⟨by rfl, ?_⟩) hHeld ?_
      rotate_left
      · (intro w hSw; (try dsimp only at hSw); go_simp; try with_reducible rfl)
      simp only [Act.put, List.setIfInBounds_toArray, List.set_cons_zero, List.set_cons_succ]
      refine wpAnyH_take (i := 15) (oi := { dst := some 79, op := Op.pick (Operand.tmp 75) (Operand.tmp 78) (Operand.const (Value.bool false)), type := 4, pos := "law.go:60", after := #[{ on := 11, ground := Ground.data }, { on := 14, ground := Ground.data }], guard := none }) (v := ?_) rfl (by kernel_rfl) (by kernel_rfl) (by kernel_rfl) (fun _ _ _ h => h) (Or.inl ⟨by rfl, ?_⟩) hHeld ?_
      rotate_left
      · (intro w hSw; (try dsimp only at hSw); go_simp; try with_reducible rfl)
      simp only [Act.put, List.setIfInBounds_toArray, List.set_cons_zero, List.set_cons_succ]
      refine wpAnyH_take (i := 16) (oi := { dst := some 80, op := Op.move (Operand.tmp 79), type := 4, pos := "law.go:60", after := #[{ on := 15, ground := Ground.data }, { on := 11, ground := Ground.chain }], guard := none }) (v := ?_) rfl (by kernel_rfl) (by kernel_rfl) (by kernel_rfl) (fun _ _ _ h => h) (Or.inl ⟨by rfl, ?_⟩) hHeld ?_
      rotate_left
      · (intro w hSw; (try dsimp only at hSw); go_simp; try with_reducible rfl)
      simp only [Act.put, List.setIfInBounds_toArray, List.set_cons_zero, List.set_cons_succ]
      refine wpAnyH_take (i := 17) (oi := { dst := some 81, op := Op.move (Operand.tmp 12), type := 4, pos := "law.go:60", after := #[{ on := 16, ground := Ground.guard }], guard := some (16, true) }) (v := ?_) rfl (by kernel_rfl) (by kernel_rfl) (by kernel_rfl) (fun _ _ _ h => h) (Or.inl ⟨by rfl, ?_⟩) hHeld ?_
      rotate_left
      · (intro w hSw; (try dsimp only at hSw); go_simp; try with_reducible rfl)
      simp only [Act.put, List.setIfInBounds_toArray, List.set_cons_zero, List.set_cons_succ]
      refine wpAnyH_take (i := 18) (oi := { dst := some 82, op := Op.move (Operand.tmp 14), type := 4, pos := "law.go:60", after := #[{ on := 16, ground := Ground.guard }], guard := some (16, true) }) (v := ?_) rfl (by kernel_rfl) (by kernel_rfl) (by kernel_rfl) (fun _ _ _ h => h) (Or.inl ⟨by rfl, ?_⟩) hHeld ?_
      rotate_left
      · (intro w hSw; (try dsimp only at hSw); go_simp; try with_reducible rfl)
      simp only [Act.put, List.setIfInBounds_toArray, List.set_cons_zero, List.set_cons_succ]
      refine wpAnyH_take (i := 19) (oi := { dst := some 83, op := Op.binOp BinOp.eql 4 (Operand.tmp 81) (Operand.tmp 82) 4, type := 4, pos := "law.go:60", after := #[{ on := 17, ground := Ground.data }, { on := 18, ground := Ground.data }, { on := 16, ground := Ground.guard }], guard := some (16, true) }) (v := ?_) rfl (by kernel_rfl) (by kernel_rfl) (by kernel_rfl) (fun _ _ _ h => h) (Or.inl ⟨by rfl, ?_⟩) hHeld ?_
      rotate_left
      · (intro w hSw; (try dsimp only at hSw); go_simp; try with_reducible rfl)
      simp only [Act.put, List.setIfInBounds_toArray, List.set_cons_zero, List.set_cons_succ]
      refine wpAnyH_take (i := 20) (oi := { dst := some 84, op := Op.pick (Operand.tmp 80) (Operand.tmp 83) (Operand.const (Value.bool false)), type := 4, pos := "law.go:60", after := #[{ on := 16, ground := Ground.data }, { on := 19, ground := Ground.data }], guard := none }) (v := ?_) rfl (by kernel_rfl) (by kernel_rfl) (by kernel_rfl) (fun _ _ _ h => h) (Or.inl ⟨by rfl, ?_⟩) hHeld ?_
      rotate_left
      · (intro w hSw; (try dsimp only at hSw); go_simp; try with_reducible rfl)
      simp only [Act.put, List.setIfInBounds_toArray, List.set_cons_zero, List.set_cons_succ]
      refine wpAnyH_take (i := 21) (oi := { dst := some 85, op := Op.move (Operand.tmp 84), type := 4, pos := "law.go:60", after := #[{ on := 20, ground := Ground.data }, { on := 16, ground := Ground.chain }], guard := none }) (v := ?_) rfl (by kernel_rfl) (by kernel_rfl) (by kernel_rfl) (fun _ _ _ h => h) (Or.inl ⟨by rfl, ?_⟩) hHeld ?_
      rotate_left
      · (intro w hSw; (try dsimp only at hSw); go_simp; try with_reducible rfl)
      simp only [Act.put, List.setIfInBounds_toArray, List.set_cons_zero, List.set_cons_succ]
      refine wpAnyH_take (i := 22) (oi := { dst := some 86, op := Op.move (Operand.tmp 13), type := 4, pos := "law.go:60", after := #[{ on := 21, ground := Ground.guard }], guard := some (21, true) }) (v := ?_) rfl (by kernel_rfl) (by kernel_rfl) (by kernel_rfl) (fun _ _ _ h => h) (Or.inl ⟨by rfl, ?_⟩) hHeld ?_
      rotate_left
      · (intro w hSw; (try dsimp only at hSw); go_simp; try with_reducible rfl)
      simp only [Act.put, List.setIfInBounds_toArray, List.set_cons_zero, List.set_cons_succ]
      refine wpAnyH_take (i := 23) (oi := { dst := some 87, op := Op.move (Operand.tmp 86), type := 4, pos := "law.go:60", after := #[{ on := 22, ground := Ground.data }, { on := 21, ground := Ground.chain }, { on := 21, ground := Ground.guard }], guard := some (21, true) }) (v := ?_) rfl (by kernel_rfl) (by kernel_rfl) (by kernel_rfl) (fun _ _ _ h => h) (Or.inl ⟨by rfl, ?_⟩) hHeld ?_
      rotate_left
      · (intro w hSw; (try dsimp only at hSw); go_simp; try with_reducible rfl)
      simp only [Act.put, List.setIfInBounds_toArray, List.set_cons_zero, List.set_cons_succ]
      refine wpAnyH_take (i := 24) (oi := { dst := some 88, op := Op.move (Operand.tmp 12), type := 4, pos := "law.go:60", after := #[{ on := 23, ground := Ground.guard }], guard := some (23, false) }) (v := undef) rfl (by kernel_rfl) (by kernel_rfl) (by kernel_rfl) (fun _ _ _ h => h) (Or.inr ⟨by rfl, rfl⟩) hHeld ?_
      simp only [Act.put, List.setIfInBounds_toArray, List.set_cons_zero, List.set_cons_succ]
      refine wpAnyH_take (i := 25) (oi := { dst := some 89, op := Op.unOp UnOp.not 4 (Operand.tmp 88), type := 4, pos := "law.go:60", after := #[{ on := 24, ground := Ground.data }, { on := 23, ground := Ground.guard }], guard := some (23, false) }) (v := undef) rfl (by kernel_rfl) (by kernel_rfl) (by kernel_rfl) (fun _ _ _ h => h) (Or.inr ⟨by rfl, rfl⟩) hHeld ?_
      simp only [Act.put, List.setIfInBounds_toArray, List.set_cons_zero, List.set_cons_succ]
      refine wpAnyH_take (i := 26) (oi := { dst := some 90, op := Op.move (Operand.tmp 89), type := 4, pos := "law.go:60", after := #[{ on := 25, ground := Ground.data }, { on := 23, ground := Ground.chain }, { on := 23, ground := Ground.guard }], guard := some (23, false) }) (v := undef) rfl (by kernel_rfl) (by kernel_rfl) (by kernel_rfl) (fun _ _ _ h => h) (Or.inr ⟨by rfl, rfl⟩) hHeld ?_
      simp only [Act.put, List.setIfInBounds_toArray, List.set_cons_zero, List.set_cons_succ]
      refine wpAnyH_take (i := 27) (oi := { dst := some 91, op := Op.move (Operand.tmp 11), type := 2, pos := "law.go:60", after := #[{ on := 26, ground := Ground.guard }], guard := some (26, true) }) (v := undef) rfl (by kernel_rfl) (by kernel_rfl) (by kernel_rfl) (fun _ _ _ h => h) (Or.inr ⟨by rfl, rfl⟩) hHeld ?_
      simp only [Act.put, List.setIfInBounds_toArray, List.set_cons_zero, List.set_cons_succ]
      refine wpAnyH_take (i := 28) (oi := { dst := some 92, op := Op.binOp BinOp.eql 2 (Operand.tmp 91) (Operand.const (Value.int IntKind.i64 0)) 2, type := 4, pos := "law.go:60", after := #[{ on := 27, ground := Ground.data }, { on := 26, ground := Ground.guard }], guard := some (26, true) }) (v := undef) rfl (by kernel_rfl) (by kernel_rfl) (by kernel_rfl) (fun _ _ _ h => h) (Or.inr ⟨by rfl, rfl⟩) hHeld ?_
      simp only [Act.put, List.setIfInBounds_toArray, List.set_cons_zero, List.set_cons_succ]
      refine wpAnyH_take (i := 29) (oi := { dst := some 93, op := Op.pick (Operand.tmp 90) (Operand.tmp 92) (Operand.const (Value.bool false)), type := 4, pos := "law.go:60", after := #[{ on := 26, ground := Ground.data }, { on := 28, ground := Ground.data }, { on := 23, ground := Ground.guard }], guard := some (23, false) }) (v := undef) rfl (by kernel_rfl) (by kernel_rfl) (by kernel_rfl) (fun _ _ _ h => h) (Or.inr ⟨by rfl, rfl⟩) hHeld ?_
      simp only [Act.put, List.setIfInBounds_toArray, List.set_cons_zero, List.set_cons_succ]
      refine wpAnyH_take (i := 30) (oi := { dst := some 94, op := Op.pick (Operand.tmp 87) (Operand.const (Value.bool true)) (Operand.tmp 93), type := 4, pos := "law.go:60", after := #[{ on := 23, ground := Ground.data }, { on := 29, ground := Ground.data }, { on := 21, ground := Ground.guard }], guard := some (21, true) }) (v := ?_) rfl (by kernel_rfl) (by kernel_rfl) (by kernel_rfl) (fun _ _ _ h => h) (Or.inl ⟨by rfl, ?_⟩) hHeld ?_
      rotate_left
      · (intro w hSw; (try dsimp only at hSw); go_simp; try with_reducible rfl)
      simp only [Act.put, List.setIfInBounds_toArray, List.set_cons_zero, List.set_cons_succ]
      refine wpAnyH_take (i := 31) (oi := { dst := some 95, op := Op.pick (Operand.tmp 85) (Operand.tmp 94) (Operand.const (Value.bool false)), type := 4, pos := "law.go:60", after := #[{ on := 21, ground := Ground.data }, { on := 30, ground := Ground.data }], guard := none }) (v := ?_) rfl (by kernel_rfl) (by kernel_rfl) (by kernel_rfl) (fun _ _ _ h => h) (Or.inl ⟨by rfl, ?_⟩) hHeld ?_
      rotate_left
      · (intro w hSw; (try dsimp only at hSw); go_simp; try with_reducible rfl)
      simp only [Act.put, List.setIfInBounds_toArray, List.set_cons_zero, List.set_cons_succ]
      refine wpAnyH_take (i := 32) (oi := { dst := some 96, op := Op.move (Operand.tmp 95), type := 4, pos := "law.go:60", after := #[{ on := 31, ground := Ground.data }, { on := 26, ground := Ground.chain }], guard := none }) (v := ?_) rfl (by kernel_rfl) (by kernel_rfl) (by kernel_rfl) (fun _ _ _ h => h) (Or.inl ⟨by rfl, ?_⟩) hHeld ?_
      rotate_left
      · (intro w hSw; (try dsimp only at hSw); go_simp; try with_reducible rfl)
      simp only [Act.put, List.setIfInBounds_toArray, List.set_cons_zero, List.set_cons_succ]
      refine wpAnyH_take (i := 33) (oi := { dst := some 97, op := Op.move (Operand.tmp 2), type := 2, pos := "law.go:60", after := #[{ on := 32, ground := Ground.guard }], guard := some (32, true) }) (v := ?_) rfl (by kernel_rfl) (by kernel_rfl) (by kernel_rfl) (fun _ _ _ h => h) (Or.inl ⟨by rfl, ?_⟩) hHeld ?_
      rotate_left
      · (intro w hSw; (try dsimp only at hSw); go_simp; try with_reducible rfl)
      simp only [Act.put, List.setIfInBounds_toArray, List.set_cons_zero, List.set_cons_succ]
      refine wpAnyH_take (i := 35) (oi := { dst := some 99, op := Op.move (Operand.tmp 2), type := 2, pos := "law.go:60", after := #[{ on := 32, ground := Ground.guard }], guard := some (32, true) }) (v := ?_) rfl (by kernel_rfl) (by kernel_rfl) (by kernel_rfl) (fun _ _ _ h => h) (Or.inl ⟨by rfl, ?_⟩) hHeld ?_
      rotate_left
      · (intro w hSw; (try dsimp only at hSw); go_simp; try with_reducible rfl)
      simp only [Act.put, List.setIfInBounds_toArray, List.set_cons_zero, List.set_cons_succ]
      refine wpAnyH_ready (rs := [34]) (by kernel_rfl) (by simp) ?_
      refine AllReadyH.cons (o := { dst := some 98, op := Op.call { callee := Callee.value (Operand.func 36), args := #[Operand.tmp 97], argTypes := #[2] }, type := 24, pos := "law.go:60", after := #[{ on := 33, ground := Ground.data }, { on := 32, ground := Ground.chain }, { on := 32, ground := Ground.guard }], guard := some (32, true) }) rfl (fun K1 hK1 => ?_) AllReadyH.nil
      go_simp
      first
        | (go_at_call 36; (with_reducible refine (zof_zg i HI1.out HI2.out _).mono ?_); rintro e w_o ⟨s_o, A_o, n_o, c_o, rfl, o, hh⟩
           try replace a := a.below hh
           try replace x := x.below hh
           try replace y := y.below hh
           try replace pn := pn.below hh
           try replace pm := pm.below hh
           try replace XA := XA.below hh
           try replace XN := XN.below hh
           try replace XM := XM.below hh
           replace hb := bend hb hh)
      refine hK1.out _ _ ⟨XA.c0, XA.c1, XN.c0, XN.c1, XM.c0, XM.c1⟩ (fun hHeld => ?_)
      clear hK1 K1
      refine wpAnyH_ready (rs := [36]) (by kernel_rfl) (by simp) ?_
      refine AllReadyH.cons (o := { dst := some 100, op := Op.call { callee := Callee.value (Operand.func 33), args := #[Operand.tmp 99], argTypes := #[2] }, type := 30, pos := "law.go:60", after := #[{ on := 35, ground := Ground.data }, { on := 34, ground := Ground.chain }, { on := 32, ground := Ground.guard }], guard := some (32, true) }) rfl (fun K1 hK1 => ?_) AllReadyH.nil
      go_simp
      first
        | (go_at_call 33; (with_reducible refine (rof2_any i HI1.out HI2.out _).mono ?_); rintro e w_y ⟨s_y, A_y, n_y, c_y, rfl, y, hh⟩
           try replace a := a.below hh
           try replace x := x.below hh
           try replace o := o.below hh
           try replace pn := pn.below hh
           try replace pm := pm.below hh
           try replace XA := XA.below hh
           try replace XN := XN.below hh
           try replace XM := XM.below hh
           replace hb := bend hb hh)
      refine hK1.out _ _ ⟨XA.c0, XA.c1, XN.c0, XN.c1, XM.c0, XM.c1⟩ (fun hHeld => ?_)
      clear hK1 K1
      refine wpAnyH_ready (rs := [37]) (by kernel_rfl) (by simp) ?_
      refine AllReadyH.cons (o := { dst := some 101, op := Op.call { callee := Callee.value (Operand.func 14), args := #[Operand.tmp 98, Operand.tmp 100], argTypes := #[24, 30] }, type := 4, pos := "law.go:60", after := #[{ on := 34, ground := Ground.data }, { on := 36, ground := Ground.data }, { on := 36, ground := Ground.chain }, { on := 32, ground := Ground.guard }], guard := some (32, true) }) rfl (fun K1 hK1 => ?_) AllReadyH.nil
      go_simp
      first
        | (go_at_call 14; (with_reducible refine (same2 pn pm (by omega) (by omega)).mono ?_); rintro e w_z ⟨rfl, hh⟩
           try replace a := a.below hh
           try replace x := x.below hh
           try replace y := y.below hh
           try replace o := o.below hh
           try replace pn := pn.below hh
           try replace pm := pm.below hh
           try replace XA := XA.below hh
           try replace XN := XN.below hh
           try replace XM := XM.below hh
           replace hb := bend hb hh)
        | (go_at_call 14; (with_reducible refine (same2 o y (by omega) (by omega)).mono ?_); rintro e w_z ⟨rfl, hh⟩
           try replace a := a.below hh
           try replace x := x.below hh
           try replace y := y.below hh
           try replace o := o.below hh
           try replace pn := pn.below hh
           try replace pm := pm.below hh
           try replace XA := XA.below hh
           try replace XN := XN.below hh
           try replace XM := XM.below hh
           replace hb := bend hb hh)
      refine hK1.out _ _ ⟨XA.c0, XA.c1, XN.c0, XN.c1, XM.c0, XM.c1⟩ (fun hHeld => ?_)
      clear hK1 K1
      refine wpAnyH_take (i := 38) (oi := { dst := some 102, op := Op.pick (Operand.tmp 96) (Operand.tmp 101) (Operand.const (Value.bool false)), type := 4, pos := "law.go:60", after := #[{ on := 32, ground := Ground.data }, { on := 37, ground := Ground.data }], guard := none }) (v := ?_) rfl (by kernel_rfl) (by kernel_rfl) (by kernel_rfl) (fun _ _ _ h => h) (Or.inl ⟨by rfl, ?_⟩) hHeld ?_
      rotate_left
      · (intro w hSw; (try dsimp only at hSw); go_simp; try with_reducible rfl)
      simp only [Act.put, List.setIfInBounds_toArray, List.set_cons_zero, List.set_cons_succ]
      refine wpAnyH_take (i := 39) (oi := { dst := some 103, op := Op.move (Operand.tmp 102), type := 4, pos := "law.go:60", after := #[{ on := 38, ground := Ground.data }, { on := 37, ground := Ground.chain }], guard := none }) (v := ?_) rfl (by kernel_rfl) (by kernel_rfl) (by kernel_rfl) (fun _ _ _ h => h) (Or.inl ⟨by rfl, ?_⟩) hHeld ?_
      rotate_left
      · (intro w hSw; (try dsimp only at hSw); go_simp; try with_reducible rfl)
      simp only [Act.put, List.setIfInBounds_toArray, List.set_cons_zero, List.set_cons_succ]
      refine wpAnyH_ready (rs := [40]) (by kernel_rfl) (by simp) ?_
      refine AllReadyH.cons (o := { dst := some 104, op := Op.call { callee := Callee.value (Operand.func 9), args := #[], argTypes := #[] }, type := 4, pos := "law.go:60", after := #[{ on := 39, ground := Ground.chain }, { on := 39, ground := Ground.guard }], guard := some (39, true) }) rfl (fun K1 hK1 => ?_) AllReadyH.nil
      go_simp
      first
        | (go_at_call 9; (with_reducible refine (zwakes_any _).mono ?_); rintro e w_z ⟨rfl, hh⟩
           try replace a := a.below hh
           try replace x := x.below hh
           try replace y := y.below hh
           try replace o := o.below hh
           try replace pn := pn.below hh
           try replace pm := pm.below hh
           try replace XA := XA.below hh
           try replace XN := XN.below hh
           try replace XM := XM.below hh
           replace hb := bend hb hh)
      refine hK1.out _ _ ⟨XA.c0, XA.c1, XN.c0, XN.c1, XM.c0, XM.c1⟩ (fun hHeld => ?_)
      clear hK1 K1
      refine wpAnyH_take (i := 41) (oi := { dst := some 105, op := Op.pick (Operand.tmp 103) (Operand.tmp 104) (Operand.const (Value.bool false)), type := 4, pos := "law.go:60", after := #[{ on := 39, ground := Ground.data }, { on := 40, ground := Ground.data }], guard := none }) (v := ?_) rfl (by kernel_rfl) (by kernel_rfl) (by kernel_rfl) (fun _ _ _ h => h) (Or.inl ⟨by rfl, ?_⟩) hHeld ?_
      rotate_left
      · (intro w hSw; (try dsimp only at hSw); go_simp; try with_reducible rfl)
      simp only [Act.put, List.setIfInBounds_toArray, List.set_cons_zero, List.set_cons_succ]
      refine wpAnyH_take (i := 42) (oi := { dst := some 6, op := Op.assign (Operand.tmp 105), type := 4, pos := "law.go:60", after := #[{ on := 41, ground := Ground.data }, { on := 40, ground := Ground.chain }, { on := 0, ground := Ground.phase }, { on := 1, ground := Ground.phase }, { on := 2, ground := Ground.phase }, { on := 3, ground := Ground.phase }, { on := 4, ground := Ground.phase }, { on := 5, ground := Ground.phase }, { on := 6, ground := Ground.phase }, { on := 7, ground := Ground.phase }, { on := 8, ground := Ground.phase }, { on := 9, ground := Ground.phase }, { on := 10, ground := Ground.phase }, { on := 11, ground := Ground.phase }, { on := 12, ground := Ground.phase }, { on := 13, ground := Ground.phase }, { on := 14, ground := Ground.phase }, { on := 15, ground := Ground.phase }, { on := 16, ground := Ground.phase }, { on := 17, ground := Ground.phase }, { on := 18, ground := Ground.phase }, { on := 19, ground := Ground.phase }, { on := 20, ground := Ground.phase }, { on := 21, ground := Ground.phase }, { on := 22, ground := Ground.phase }, { on := 23, ground := Ground.phase }, { on := 24, ground := Ground.phase }, { on := 25, ground := Ground.phase }, { on := 26, ground := Ground.phase }, { on := 27, ground := Ground.phase }, { on := 28, ground := Ground.phase }, { on := 29, ground := Ground.phase }, { on := 30, ground := Ground.phase }, { on := 31, ground := Ground.phase }, { on := 32, ground := Ground.phase }, { on := 33, ground := Ground.phase }, { on := 34, ground := Ground.phase }, { on := 35, ground := Ground.phase }, { on := 36, ground := Ground.phase }, { on := 37, ground := Ground.phase }, { on := 38, ground := Ground.phase }, { on := 39, ground := Ground.phase }, { on := 40, ground := Ground.phase }, { on := 41, ground := Ground.phase }], guard := none }) (v := ?_) rfl (by kernel_rfl) (by kernel_rfl) (by kernel_rfl) (fun _ _ _ h => h) (Or.inl ⟨by rfl, ?_⟩) hHeld ?_
      rotate_left
      · (intro w hSw; (try dsimp only at hSw); go_simp; try with_reducible rfl)
      simp only [Act.put, List.setIfInBounds_toArray, List.set_cons_zero, List.set_cons_succ]
      refine wpAnyH_done (by kernel_rfl) ?_ _
      go_wp2_with fail
      go_ret
      exact ⟨rfl, hb⟩

set_option maxRecDepth 100000 in
set_option maxHeartbeats 8000000 in
theorem ztexts_hi (s : Bool) (v : Int) (A : Option Addr) (n c' : Nat) (q : ByteArray) (i : Int) (w : World) (a : ZR w s A n c' v 40) (hn : n ≤ 40) (hq : q.size ≤ 800 ∨ 20000 < q.size) (hqm : q.size ≤ maxLen) (hi1 : -9223372036854775808 ≤ i) (hi2 : i < 9223372036854775808) (hv1 : 9223372036854775808 ≤ v) :
    Calls Try.prog 5 #[.agg #[.bool s, .slice A n c'], .string q, .int .i64 i] w fun e w' => e = .returned (.bool true) ∧ Below w.heap.size w w' := by
    have HL1 : Hid (decide (40 < n) = false) := decide_eq_false (by omega)
    have HQ := Lib.hid hq
    have HQM := Lib.hid hqm
    have HI1 := Lib.hid hi1
    have HI2 := Lib.hid hi2
    have hf : fitsB v = false := by unfold fitsB; exact decide_eq_false (by omega)
    have HS1 : Hid (smallV v = 0) := smallV_f hf
    have HS2 := Lib.hid hf
    have HC1 : Hid (cmpZ v 9223372036854775807 = 1) := by show _ = _; unfold cmpZ; rw [if_neg (by omega), if_pos (by omega)]
    clear hf hv1
    have hz : ¬ (800 : Int) < (q.size : Int) ∨ ((800 : Int) < (q.size : Int) ∧ ¬ (q.size : Int) ≤ 20000) := by omega
    clear hi1 hi2 hq hqm
    rcases hz with hz1 | ⟨hz1, hz2⟩
    all_goals
      go_enter Try.func5, Try.ntmps5
      go_wp2_with fail
      generalize hW : w.alloc (Obj.cells #[Value.bool s, Value.slice A n c'] 24) = W
      have hb : Below w.heap.size w W := by subst hW; exact (Below.refl _ _).alloc (Nat.le_refl _) _
      have XA : Bx W w.heap.size (.bool s) (.slice A n c') := by subst hW; exact Bx.new w _ _
      clear hW
      try replace a := a.below hb
      have xa0 := XA.c0
      have xa1 := XA.c1
      go_upto_region 4 with (first
        | (go_at_call 8; (refine (large_any s A n c' _).mono ?_); rintro e w_z ⟨rfl, hh⟩
           rw [HL1.out]
           try replace a := a.below hh
           try replace x := x.below hh
           try replace y := y.below hh
           try replace o := o.below hh
           try replace pn := pn.below hh
           try replace pm := pm.below hh
           try replace XA := XA.below hh
           try replace XN := XN.below hh
           try replace XM := XM.below hh
           replace hb := bend hb hh
           have xa0 := XA.c0
           have xa1 := XA.c1)
        | (go_at_call 30; (with_reducible refine (zparse_u q _ HQ.out HQM.out).mono ?_); rintro e w_n ⟨s_pn, A_pn, n_pn, c_pn, rfl, pn, hh⟩
           try replace a := a.below hh
           try replace x := x.below hh
           try replace y := y.below hh
           try replace o := o.below hh
           try replace pm := pm.below hh
           try replace XA := XA.below hh
           try replace XN := XN.below hh
           try replace XM := XM.below hh
           replace hb := bend hb hh
           have xa0 := XA.c0
           have xa1 := XA.c1))
      generalize hW2 : w_n.alloc (Obj.cells #[Value.bool s_pn, Value.slice A_pn n_pn c_pn] 24) = W_pn
      have hh : Below w_n.heap.size w_n W_pn := by subst hW2; exact (Below.refl _ _).alloc (Nat.le_refl _) _
      have XN : Bx W_pn w_n.heap.size (.bool s_pn) (.slice A_pn n_pn c_pn) := by subst hW2; exact Bx.new w_n _ _
      clear hW2
      try replace a := a.below hh
      try replace x := x.below hh
      try replace y := y.below hh
      try replace o := o.below hh
      try replace pn := pn.below hh
      try replace pm := pm.below hh
      try replace XA := XA.below hh
      try replace XM := XM.below hh
      replace hb := bend hb hh
      have xa0 := XA.c0
      have xa1 := XA.c1
      have xn0 := XN.c0
      have xn1 := XN.c1
      go_upto_region 5 with (first
        | (go_at_call 31; (with_reducible refine (rparse_u q _ HQ.out HQM.out).mono ?_); rintro e w_m ⟨s_pm, A_pm, n_pm, c_pm, rfl, pm, hh⟩
           try replace a := a.below hh
           try replace x := x.below hh
           try replace y := y.below hh
           try replace o := o.below hh
           try replace pn := pn.below hh
           try replace XA := XA.below hh
           try replace XN := XN.below hh
           try replace XM := XM.below hh
           replace hb := bend hb hh
           have xa0 := XA.c0
           have xa1 := XA.c1
           have xn0 := XN.c0
           have xn1 := XN.c1))
      generalize hW2 : w_m.alloc (Obj.cells #[Value.bool s_pm, Value.slice A_pm n_pm c_pm] 30) = W_pm
      have hh : Below w_m.heap.size w_m W_pm := by subst hW2; exact (Below.refl _ _).alloc (Nat.le_refl _) _
      have XM : By W_pm w_m.heap.size (.bool s_pm) (.slice A_pm n_pm c_pm) := by subst hW2; exact By.new w_m _ _
      clear hW2
      try replace a := a.below hh
      try replace x := x.below hh
      try replace y := y.below hh
      try replace o := o.below hh
      try replace pn := pn.below hh
      try replace pm := pm.below hh
      try replace XA := XA.below hh
      try replace XN := XN.below hh
      replace hb := bend hb hh
      have xa0 := XA.c0
      have xa1 := XA.c1
      have xn0 := XN.c0
      have xn1 := XN.c1
      have xm0 := XM.c0
      have xm1 := XM.c1
      go_upto_region 6 with (first
        | (go_at_call 32; (with_reducible refine (small_zr2 a (by omega)).mono ?_); rintro e w_z ⟨rfl, hh⟩
           rw [HS1.out, HS2.out]
           try replace a := a.below hh
           try replace x := x.below hh
           try replace y := y.below hh
           try replace o := o.below hh
           try replace pn := pn.below hh
           try replace pm := pm.below hh
           try replace XA := XA.below hh
           try replace XN := XN.below hh
           try replace XM := XM.below hh
           replace hb := bend hb hh
           have xa0 := XA.c0
           have xa1 := XA.c1
           have xn0 := XN.c0
           have xn1 := XN.c1
           have xm0 := XM.c0
           have xm1 := XM.c1))
      replace a := a.below (Below.refl _ _).drew
      replace pn := pn.below (Below.refl _ _).drew
      replace pm := pm.below (Below.refl _ _).drew
      replace XA := XA.below (Below.refl _ _).drew
      replace XN := XN.below (Below.refl _ _).drew
      replace XM := XM.below (Below.refl _ _).drew
      replace hb := hb.drew
      refine wp_region_held_drew (S := (fun w' => w'.cell? ⟨w.heap.size, 0, none⟩ = some (.bool s) ∧ w'.cell? ⟨w.heap.size, 1, none⟩ = some (.slice A n c') ∧ w'.cell? ⟨w_n.heap.size, 0, none⟩ = some (.bool s_pn) ∧ w'.cell? ⟨w_n.heap.size, 1, none⟩ = some (.slice A_pn n_pn c_pn) ∧ w'.cell? ⟨w_m.heap.size, 0, none⟩ = some (.bool s_pm) ∧ w'.cell? ⟨w_m.heap.size, 1, none⟩ = some (.slice A_pm n_pm c_pm))) (by kernel_rfl) ⟨XA.c0, XA.c1, XN.c0, XN.c1, XM.c0, XM.c1⟩ (fun hHeld => ?_)
      refine wpAnyH_take (i := 0) (oi := { dst := some 43, op := Op.move (Operand.tmp 12), type := 4, pos := "law.go:58", after := #[], guard := none }) (v := ?_) rfl (by kernel_rfl) (by kernel_rfl) (by kernel_rfl) (fun _ _ _ h => h) (Or.inl ⟨by rfl, ?_⟩) hHeld ?_
      rotate_left
      · (intro w hSw; (try dsimp only at hSw); go_simp; try with_reducible rfl)
      simp only [Act.put, List.setIfInBounds_toArray, List.set_cons_zero, List.set_cons_succ]
      refine wpAnyH_take (i := 1) (oi := { dst := some 44, op := Op.move (Operand.tmp 43), type := 4, pos := "law.go:58", after := #[{ on := 0, ground := Ground.data }], guard := none }) (v := ?_) rfl (by kernel_rfl) (by kernel_rfl) (by kernel_rfl) (fun _ _ _ h => h) (Or.inl ⟨by rfl, ?_⟩) hHeld ?_
      rotate_left
      · (intro w hSw; (try dsimp only at hSw); go_simp; try with_reducible rfl)
      simp only [Act.put, List.setIfInBounds_toArray, List.set_cons_zero, List.set_cons_succ]
      refine wpAnyH_take (i := 2) (oi := { dst := some 45, op := Op.move (Operand.tmp 11), type := 2, pos := "law.go:58", after := #[{ on := 1, ground := Ground.guard }], guard := some (1, true) }) (v := undef) rfl (by kernel_rfl) (by kernel_rfl) (by kernel_rfl) (fun _ _ _ h => h) (Or.inr ⟨by rfl, rfl⟩) hHeld ?_
      simp only [Act.put, List.setIfInBounds_toArray, List.set_cons_zero, List.set_cons_succ]
      refine wpAnyH_take (i := 3) (oi := { dst := some 46, op := Op.call { callee := Callee.value (Operand.func 33), args := #[Operand.tmp 45], argTypes := #[2] }, type := 30, pos := "law.go:58", after := #[{ on := 2, ground := Ground.data }, { on := 1, ground := Ground.chain }, { on := 1, ground := Ground.guard }], guard := some (1, true) }) (v := undef) rfl (by kernel_rfl) (by kernel_rfl) (by kernel_rfl) (fun _ _ _ h => h) (Or.inr ⟨by rfl, rfl⟩) hHeld ?_
      simp only [Act.put, List.setIfInBounds_toArray, List.set_cons_zero, List.set_cons_succ]
      refine wpAnyH_take (i := 4) (oi := { dst := some 47, op := Op.load 24 (Operand.tmp 3), type := 24, pos := "law.go:58", after := #[{ on := 1, ground := Ground.guard }], guard := some (1, true) }) (v := undef) rfl (by kernel_rfl) (by kernel_rfl) (by kernel_rfl) (fun _ _ _ h => h) (Or.inr ⟨by rfl, rfl⟩) hHeld ?_
      simp only [Act.put, List.setIfInBounds_toArray, List.set_cons_zero, List.set_cons_succ]
      refine wpAnyH_take (i := 5) (oi := { dst := some 48, op := Op.call { callee := Callee.value (Operand.func 10), args := #[Operand.tmp 47], argTypes := #[24] }, type := 30, pos := "law.go:58", after := #[{ on := 4, ground := Ground.data }, { on := 3, ground := Ground.chain }, { on := 1, ground := Ground.guard }], guard := some (1, true) }) (v := undef) rfl (by kernel_rfl) (by kernel_rfl) (by kernel_rfl) (fun _ _ _ h => h) (Or.inr ⟨by rfl, rfl⟩) hHeld ?_
      simp only [Act.put, List.setIfInBounds_toArray, List.set_cons_zero, List.set_cons_succ]
      refine wpAnyH_take (i := 6) (oi := { dst := some 49, op := Op.call { callee := Callee.value (Operand.func 22), args := #[Operand.tmp 46, Operand.tmp 48], argTypes := #[30, 30] }, type := 3, pos := "law.go:58", after := #[{ on := 3, ground := Ground.data }, { on := 5, ground := Ground.data }, { on := 5, ground := Ground.chain }, { on := 1, ground := Ground.guard }], guard := some (1, true) }) (v := undef) rfl (by kernel_rfl) (by kernel_rfl) (by kernel_rfl) (fun _ _ _ h => h) (Or.inr ⟨by rfl, rfl⟩) hHeld ?_
      simp only [Act.put, List.setIfInBounds_toArray, List.set_cons_zero, List.set_cons_succ]
      refine wpAnyH_take (i := 7) (oi := { dst := some 50, op := Op.binOp BinOp.eql 3 (Operand.tmp 49) (Operand.const (Value.int IntKind.i64 0)) 3, type := 4, pos := "law.go:58", after := #[{ on := 6, ground := Ground.data }, { on := 1, ground := Ground.guard }], guard := some (1, true) }) (v := undef) rfl (by kernel_rfl) (by kernel_rfl) (by kernel_rfl) (fun _ _ _ h => h) (Or.inr ⟨by rfl, rfl⟩) hHeld ?_
      simp only [Act.put, List.setIfInBounds_toArray, List.set_cons_zero, List.set_cons_succ]
      refine wpAnyH_take (i := 8) (oi := { dst := some 51, op := Op.pick (Operand.tmp 44) (Operand.tmp 50) (Operand.const (Value.bool false)), type := 4, pos := "law.go:58", after := #[{ on := 1, ground := Ground.data }, { on := 7, ground := Ground.data }], guard := none }) (v := ?_) rfl (by kernel_rfl) (by kernel_rfl) (by kernel_rfl) (fun _ _ _ h => h) (Or.inl ⟨by rfl, ?_⟩) hHeld ?_
      rotate_left
      · (intro w hSw; (try dsimp only at hSw); go_simp; try with_reducible rfl)
      simp only [Act.put, List.setIfInBounds_toArray, List.set_cons_zero, List.set_cons_succ]
      refine wpAnyH_take (i := 9) (oi := { dst := some 13, op := Op.assign (Operand.tmp 51), type := 4, pos := "law.go:58", after := #[{ on := 8, ground := Ground.data }, { on := 6, ground := Ground.chain }, { on := 0, ground := Ground.phase }, { on := 1, ground := Ground.phase }, { on := 2, ground := Ground.phase }, { on := 3, ground := Ground.phase }, { on := 4, ground := Ground.phase }, { on := 5, ground := Ground.phase }, { on := 6, ground := Ground.phase }, { on := 7, ground := Ground.phase }, { on := 8, ground := Ground.phase }], guard := none }) (v := ?_) rfl (by kernel_rfl) (by kernel_rfl) (by kernel_rfl) (fun _ _ _ h => h) (Or.inl ⟨by rfl, ?_⟩) hHeld ?_
      rotate_left
      · (intro w hSw; (try dsimp only at hSw); go_simp; try with_reducible rfl)
      simp only [Act.put, List.setIfInBounds_toArray, List.set_cons_zero, List.set_cons_succ]
      refine wpAnyH_done (by kernel_rfl) ?_ _
      try clear o
      try clear x
      clear hHeld
      have xa0 := XA.c0
      have xa1 := XA.c1
      have xn0 := XN.c0
      have xn1 := XN.c1
      have xm0 := XM.c0
      have xm1 := XM.c1
      go_upto_region 8 with (first
        | (go_at_call 10; (with_reducible refine (rin2 a (by omega)).mono ?_); rintro e w_x ⟨s_x, A_x, n_x, c_x, rfl, x, hh⟩
           try replace a := a.below hh
           try replace y := y.below hh
           try replace o := o.below hh
           try replace pn := pn.below hh
           try replace pm := pm.below hh
           try replace XA := XA.below hh
           try replace XN := XN.below hh
           try replace XM := XM.below hh
           replace hb := bend hb hh
           have xa0 := XA.c0
           have xa1 := XA.c1
           have xn0 := XN.c0
           have xn1 := XN.c1
           have xm0 := XM.c0
           have xm1 := XM.c1)
        | (go_at_call 33; (with_reducible refine (rof2_any 9223372036854775807 (by decide) (by decide) _).mono ?_); rintro e w_o ⟨s_o, A_o, n_o, c_o, rfl, o, hh⟩
           try replace a := a.below hh
           try replace x := x.below hh
           try replace y := y.below hh
           try replace pn := pn.below hh
           try replace pm := pm.below hh
           try replace XA := XA.below hh
           try replace XN := XN.below hh
           try replace XM := XM.below hh
           replace hb := bend hb hh
           have xa0 := XA.c0
           have xa1 := XA.c1
           have xn0 := XN.c0
           have xn1 := XN.c1
           have xm0 := XM.c0
           have xm1 := XM.c1)
        | (go_at_call 22; (with_reducible refine (rcmp2 x.rz o.rz (by omega) (by omega)).mono ?_); rintro e w_z ⟨rfl, hh⟩
           rw [HC1.out]
           try replace a := a.below hh
           try replace x := x.below hh
           try replace y := y.below hh
           try replace o := o.below hh
           try replace pn := pn.below hh
           try replace pm := pm.below hh
           try replace XA := XA.below hh
           try replace XN := XN.below hh
           try replace XM := XM.below hh
           replace hb := bend hb hh
           have xa0 := XA.c0
           have xa1 := XA.c1
           have xn0 := XN.c0
           have xn1 := XN.c1
           have xm0 := XM.c0
           have xm1 := XM.c1))
      try clear o
      try clear x
      try clear y
      replace a := a.below (Below.refl _ _).drew
      replace pn := pn.below (Below.refl _ _).drew
      replace pm := pm.below (Below.refl _ _).drew
      replace XA := XA.below (Below.refl _ _).drew
      replace XN := XN.below (Below.refl _ _).drew
      replace XM := XM.below (Below.refl _ _).drew
      replace hb := hb.drew
      refine wp_region_held_drew (S := (fun w' => w'.cell? ⟨w.heap.size, 0, none⟩ = some (.bool s) ∧ w'.cell? ⟨w.heap.size, 1, none⟩ = some (.slice A n c') ∧ w'.cell? ⟨w_n.heap.size, 0, none⟩ = some (.bool s_pn) ∧ w'.cell? ⟨w_n.heap.size, 1, none⟩ = some (.slice A_pn n_pn c_pn) ∧ w'.cell? ⟨w_m.heap.size, 0, none⟩ = some (.bool s_pm) ∧ w'.cell? ⟨w_m.heap.size, 1, none⟩ = some (.slice A_pm n_pm c_pm))) (by kernel_rfl) ⟨XA.c0, XA.c1, XN.c0, XN.c1, XM.c0, XM.c1⟩ (fun hHeld => ?_)
      refine wpAnyH_take (i := 0) (oi := { dst := some 64, op := Op.load 24 (Operand.tmp 3), type := 24, pos := "law.go:60", after := #[], guard := none }) (v := ?_) rfl (by kernel_rfl) (by kernel_rfl) (by kernel_rfl) (fun _ _ _ h => h) (Or.inl ⟨by rfl, ?_⟩) hHeld ?_
      rotate_left
      · (intro w hSw; (try dsimp only at hSw); go_simp; try with_reducible rfl)
      simp only [Act.put, List.setIfInBounds_toArray, List.set_cons_zero, List.set_cons_succ]
      refine wpAnyH_take (i := 2) (oi := { dst := some 66, op := Op.load 24 (Operand.tmp 3), type := 24, pos := "law.go:60", after := #[], guard := none }) (v := ?_) rfl (by kernel_rfl) (by kernel_rfl) (by kernel_rfl) (fun _ _ _ h => h) (Or.inl ⟨by rfl, ?_⟩) hHeld ?_
      rotate_left
      · (intro w hSw; (try dsimp only at hSw); go_simp; try with_reducible rfl)
      simp only [Act.put, List.setIfInBounds_toArray, List.set_cons_zero, List.set_cons_succ]
      refine wpAnyH_ready (rs := [1]) (by kernel_rfl) (by simp) ?_
      refine AllReadyH.cons (o := { dst := some 65, op := Op.call { callee := Callee.value (Operand.func 34), args := #[Operand.tmp 64], argTypes := #[24] }, type := 9, pos := "law.go:60", after := #[{ on := 0, ground := Ground.data }], guard := none }) rfl (fun K1 hK1 => ?_) AllReadyH.nil
      go_simp
      first
        | (go_at_call 34; (with_reducible refine (ztext_zr (a.more (show 40 ≤ 78 by omega)) (by omega)).mono ?_); rintro e w_z ⟨rfl, hh⟩
           try replace a := a.below hh
           try replace x := x.below hh
           try replace y := y.below hh
           try replace o := o.below hh
           try replace pn := pn.below hh
           try replace pm := pm.below hh
           try replace XA := XA.below hh
           try replace XN := XN.below hh
           try replace XM := XM.below hh
           replace hb := bend hb hh)
      refine hK1.out _ _ ⟨XA.c0, XA.c1, XN.c0, XN.c1, XM.c0, XM.c1⟩ (fun hHeld => ?_)
      clear hK1 K1
      refine wpAnyH_ready (rs := [3]) (by kernel_rfl) (by simp) ?_
      refine AllReadyH.cons (o := { dst := some 67, op := Op.call { callee := Callee.value (Operand.func 10), args := #[Operand.tmp 66], argTypes := #[24] }, type := 30, pos := "law.go:60", after := #[{ on := 2, ground := Ground.data }, { on := 1, ground := Ground.chain }], guard := none }) rfl (fun K1 hK1 => ?_) AllReadyH.nil
      go_simp
      first
        | (go_at_call 10; (with_reducible refine (rin2 a (by omega)).mono ?_); rintro e w_x ⟨s_x, A_x, n_x, c_x, rfl, x, hh⟩
           try replace a := a.below hh
           try replace y := y.below hh
           try replace o := o.below hh
           try replace pn := pn.below hh
           try replace pm := pm.below hh
           try replace XA := XA.below hh
           try replace XN := XN.below hh
           try replace XM := XM.below hh
           replace hb := bend hb hh)
      refine hK1.out _ _ ⟨XA.c0, XA.c1, XN.c0, XN.c1, XM.c0, XM.c1⟩ (fun hHeld => ?_)
      clear hK1 K1
      refine wpAnyH_ready (rs := [4]) (by kernel_rfl) (by simp) ?_
      refine AllReadyH.cons (o := { dst := some 68, op := Op.call { callee := Callee.value (Operand.func 35), args := #[Operand.tmp 67], argTypes := #[30] }, type := 9, pos := "law.go:60", after := #[{ on := 3, ground := Ground.data }, { on := 3, ground := Ground.chain }], guard := none }) rfl (fun K1 hK1 => ?_) AllReadyH.nil
      go_simp
      first
        | (go_at_call 35; (with_reducible refine (rtext2 x (by omega)).mono ?_); rintro e w_z ⟨rfl, hh⟩
           try replace a := a.below hh
           try replace x := x.below hh
           try replace y := y.below hh
           try replace o := o.below hh
           try replace pn := pn.below hh
           try replace pm := pm.below hh
           try replace XA := XA.below hh
           try replace XN := XN.below hh
           try replace XM := XM.below hh
           replace hb := bend hb hh)
      refine hK1.out _ _ ⟨XA.c0, XA.c1, XN.c0, XN.c1, XM.c0, XM.c1⟩ (fun hHeld => ?_)
      clear hK1 K1
      refine wpAnyH_take (i := 5) (oi := { dst := some 69, op := Op.binOp BinOp.eql 9 (Operand.tmp 65) (Operand.tmp 68) 9, type := 4, pos := "law.go:60", after := #[{ on := 1, ground := Ground.data }, { on := 4, ground := Ground.data }], guard := none }) (v := ?_) rfl (by kernel_rfl) (by kernel_rfl) (by kernel_rfl) (fun _ _ _ h => h) (Or.inl ⟨by rfl, ?_⟩) hHeld ?_
      rotate_left
      · (intro w hSw; (try dsimp only at hSw); go_simp; try with_reducible rfl)
      simp only [Act.put, List.setIfInBounds_toArray, List.set_cons_zero, List.set_cons_succ]
      refine wpAnyH_take (i := 6) (oi := { dst := some 70, op := Op.move (Operand.tmp 69), type := 4, pos := "law.go:60", after := #[{ on := 5, ground := Ground.data }, { on := 4, ground := Ground.chain }], guard := none }) (v := ?_) rfl (by kernel_rfl) (by kernel_rfl) (by kernel_rfl) (fun _ _ _ h => h) (Or.inl ⟨by rfl, ?_⟩) hHeld ?_
      rotate_left
      · (intro w hSw; (try dsimp only at hSw); go_simp; try with_reducible rfl)
      simp only [Act.put, List.setIfInBounds_toArray, List.set_cons_zero, List.set_cons_succ]
      refine wpAnyH_take (i := 7) (oi := { dst := some 71, op := Op.load 24 (Operand.tmp 7), type := 24, pos := "law.go:60", after := #[{ on := 6, ground := Ground.guard }], guard := some (6, true) }) (v := ?_) rfl (by kernel_rfl) (by kernel_rfl) (by kernel_rfl) (fun _ _ _ h => h) (Or.inl ⟨by rfl, ?_⟩) hHeld ?_
      rotate_left
      · (intro w hSw; (try dsimp only at hSw); go_simp; try with_reducible rfl)
      simp only [Act.put, List.setIfInBounds_toArray, List.set_cons_zero, List.set_cons_succ]
      refine wpAnyH_take (i := 8) (oi := { dst := some 72, op := Op.load 30 (Operand.tmp 9), type := 30, pos := "law.go:60", after := #[{ on := 6, ground := Ground.guard }], guard := some (6, true) }) (v := ?_) rfl (by kernel_rfl) (by kernel_rfl) (by kernel_rfl) (fun _ _ _ h => h) (Or.inl ⟨by rfl, ?_⟩) hHeld ?_
      rotate_left
      · (intro w hSw; (try dsimp only at hSw); go_simp; try with_reducible rfl)
      simp only [Act.put, List.setIfInBounds_toArray, List.set_cons_zero, List.set_cons_succ]
      refine wpAnyH_ready (rs := [9]) (by kernel_rfl) (by simp) ?_
      refine AllReadyH.cons (o := { dst := some 73, op := Op.call { callee := Callee.value (Operand.func 14), args := #[Operand.tmp 71, Operand.tmp 72], argTypes := #[24, 30] }, type := 4, pos := "law.go:60", after := #[{ on := 7, ground := Ground.data }, { on := 8, ground := Ground.data }, { on := 6, ground := Ground.chain }, { on := 6, ground := Ground.guard }], guard := some (6, true) }) rfl (fun K1 hK1 => ?_) AllReadyH.nil
      go_simp
      first
        | (go_at_call 14; (with_reducible refine (same2 pn pm (by omega) (by omega)).mono ?_); rintro e w_z ⟨rfl, hh⟩
           try replace a := a.below hh
           try replace x := x.below hh
           try replace y := y.below hh
           try replace o := o.below hh
           try replace pn := pn.below hh
           try replace pm := pm.below hh
           try replace XA := XA.below hh
           try replace XN := XN.below hh
           try replace XM := XM.below hh
           replace hb := bend hb hh)
        | (go_at_call 14; (with_reducible refine (same2 o y (by omega) (by omega)).mono ?_); rintro e w_z ⟨rfl, hh⟩
           try replace a := a.below hh
           try replace x := x.below hh
           try replace y := y.below hh
           try replace o := o.below hh
           try replace pn := pn.below hh
           try replace pm := pm.below hh
           try replace XA := XA.below hh
           try replace XN := XN.below hh
           try replace XM := XM.below hh
           replace hb := bend hb hh)
      refine hK1.out _ _ ⟨XA.c0, XA.c1, XN.c0, XN.c1, XM.c0, XM.c1⟩ (fun hHeld => ?_)
      clear hK1 K1
      refine wpAnyH_take (i := 10) (oi := { dst := some 74, op := Op.pick (Operand.tmp 70) (Operand.tmp 73) (Operand.const (Value.bool false)), type := 4, pos := "law.go:60", after := #[{ on := 6, ground := Ground.data }, { on := 9, ground := Ground.data }], guard := none }) (v := ?_) rfl (by kernel_rfl) (by kernel_rfl) (by kernel_rfl) (fun _ _ _ h => h) (Or.inl ⟨by rfl, ?_⟩) hHeld ?_
      rotate_left
      · (intro w hSw; (try dsimp only at hSw); go_simp; try with_reducible rfl)
      simp only [Act.put, List.setIfInBounds_toArray, List.set_cons_zero, List.set_cons_succ]
      refine wpAnyH_take (i := 11) (oi := { dst := some 75, op := Op.move (Operand.tmp 74), type := 4, pos := "law.go:60", after := #[{ on := 10, ground := Ground.data }, { on := 9, ground := Ground.chain }], guard := none }) (v := ?_) rfl (by kernel_rfl) (by kernel_rfl) (by kernel_rfl) (fun _ _ _ h => h) (Or.inl ⟨by rfl, ?_⟩) hHeld ?_
      rotate_left
      · (intro w hSw; (try dsimp only at hSw); go_simp; try with_reducible rfl)
      simp only [Act.put, List.setIfInBounds_toArray, List.set_cons_zero, List.set_cons_succ]
      refine wpAnyH_take (i := 12) (oi := { dst := some 76, op := Op.move (Operand.tmp 8), type := 43, pos := "law.go:60", after := #[{ on := 11, ground := Ground.guard }], guard := some (11, true) }) (v := ?_) rfl (by kernel_rfl) (by kernel_rfl) (by kernel_rfl) (fun _ _ _ h => h) (Or.inl ⟨by rfl, ?_⟩) hHeld ?_
      rotate_left
      · (intro w hSw; (try dsimp only at hSw); go_simp; try with_reducible rfl)
      simp only [Act.put, List.setIfInBounds_toArray, List.set_cons_zero, List.set_cons_succ]
      refine wpAnyH_take (i := 13) (oi := { dst := some 77, op := Op.move (Operand.tmp 10), type := 3, pos := "law.go:60", after := #[{ on := 11, ground := Ground.guard }], guard := some (11, true) }) (v := ?_) rfl (by kernel_rfl) (by kernel_rfl) (by kernel_rfl) (fun _ _ _ h => h) (Or.inl ⟨by rfl, ?_⟩) hHeld ?_
      rotate_left
      · (intro w hSw; (try dsimp only at hSw); go_simp; try with_reducible rfl)
      simp only [Act.put, List.setIfInBounds_toArray, List.set_cons_zero, List.set_cons_succ]
      refine wpAnyH_take (i := 14) (oi := { dst := some 78, op := Op.binOp BinOp.eql 3 (Operand.tmp 76) (Operand.tmp 77) 3, type := 4, pos := "law.go:60", after := #[{ on := 12, ground := Ground.data }, { on := 13, ground := Ground.data }, { on := 11, ground := Ground.guard }], guard := some (11, true) }) (v := ?_) rfl (by kernel_rfl) (by kernel_rfl) (by kernel_rfl) (fun _ _ _ h => h) (Or.inl ⟨by rfl, ?_⟩) hHeld ?_
      rotate_left
      · (intro w hSw; (try dsimp only at hSw); go_simp; try with_reducible rfl)
      simp only [Act.put, List.setIfInBounds_toArray, List.set_cons_zero, List.set_cons_succ]
      refine wpAnyH_take (i := 15) (oi := { dst := some 79, op := Op.pick (Operand.tmp 75) (Operand.tmp 78) (Operand.const (Value.bool false)), type := 4, pos := "law.go:60", after := #[{ on := 11, ground := Ground.data }, { on := 14, ground := Ground.data }], guard := none }) (v := ?_) rfl (by kernel_rfl) (by kernel_rfl) (by kernel_rfl) (fun _ _ _ h => h) (Or.inl ⟨by rfl, ?_⟩) hHeld ?_
      rotate_left
      · (intro w hSw; (try dsimp only at hSw); go_simp; try with_reducible rfl)
      simp only [Act.put, List.setIfInBounds_toArray, List.set_cons_zero, List.set_cons_succ]
      refine wpAnyH_take (i := 16) (oi := { dst := some 80, op := Op.move (Operand.tmp 79), type := 4, pos := "law.go:60", after := #[{ on := 15, ground := Ground.data }, { on := 11, ground := Ground.chain }], guard := none }) (v := ?_) rfl (by kernel_rfl) (by kernel_rfl) (by kernel_rfl) (fun _ _ _ h => h) (Or.inl ⟨by rfl, ?_⟩) hHeld ?_
      rotate_left
      · (intro w hSw; (try dsimp only at hSw); go_simp; try with_reducible rfl)
      simp only [Act.put, List.setIfInBounds_toArray, List.set_cons_zero, List.set_cons_succ]
      refine wpAnyH_take (i := 17) (oi := { dst := some 81, op := Op.move (Operand.tmp 12), type := 4, pos := "law.go:60", after := #[{ on := 16, ground := Ground.guard }], guard := some (16, true) }) (v := ?_) rfl (by kernel_rfl) (by kernel_rfl) (by kernel_rfl) (fun _ _ _ h => h) (Or.inl ⟨by rfl, ?_⟩) hHeld ?_
      rotate_left
      · (intro w hSw; (try dsimp only at hSw); go_simp; try with_reducible rfl)
      simp only [Act.put, List.setIfInBounds_toArray, List.set_cons_zero, List.set_cons_succ]
      refine wpAnyH_take (i := 18) (oi := { dst := some 82, op := Op.move (Operand.tmp 14), type := 4, pos := "law.go:60", after := #[{ on := 16, ground := Ground.guard }], guard := some (16, true) }) (v := ?_) rfl (by kernel_rfl) (by kernel_rfl) (by kernel_rfl) (fun _ _ _ h => h) (Or.inl ⟨by rfl, ?_⟩) hHeld ?_
      rotate_left
      · (intro w hSw; (try dsimp only at hSw); go_simp; try with_reducible rfl)
      simp only [Act.put, List.setIfInBounds_toArray, List.set_cons_zero, List.set_cons_succ]
      refine wpAnyH_take (i := 19) (oi := { dst := some 83, op := Op.binOp BinOp.eql 4 (Operand.tmp 81) (Operand.tmp 82) 4, type := 4, pos := "law.go:60", after := #[{ on := 17, ground := Ground.data }, { on := 18, ground := Ground.data }, { on := 16, ground := Ground.guard }], guard := some (16, true) }) (v := ?_) rfl (by kernel_rfl) (by kernel_rfl) (by kernel_rfl) (fun _ _ _ h => h) (Or.inl ⟨by rfl, ?_⟩) hHeld ?_
      rotate_left
      · (intro w hSw; (try dsimp only at hSw); go_simp; try with_reducible rfl)
      simp only [Act.put, List.setIfInBounds_toArray, List.set_cons_zero, List.set_cons_succ]
      refine wpAnyH_take (i := 20) (oi := { dst := some 84, op := Op.pick (Operand.tmp 80) (Operand.tmp 83) (Operand.const (Value.bool false)), type := 4, pos := "law.go:60", after := #[{ on := 16, ground := Ground.data }, { on := 19, ground := Ground.data }], guard := none }) (v := ?_) rfl (by kernel_rfl) (by kernel_rfl) (by kernel_rfl) (fun _ _ _ h => h) (Or.inl ⟨by rfl, ?_⟩) hHeld ?_
      rotate_left
      · (intro w hSw; (try dsimp only at hSw); go_simp; try with_reducible rfl)
      simp only [Act.put, List.setIfInBounds_toArray, List.set_cons_zero, List.set_cons_succ]
      refine wpAnyH_take (i := 21) (oi := { dst := some 85, op := Op.move (Operand.tmp 84), type := 4, pos := "law.go:60", after := #[{ on := 20, ground := Ground.data }, { on := 16, ground := Ground.chain }], guard := none }) (v := ?_) rfl (by kernel_rfl) (by kernel_rfl) (by kernel_rfl) (fun _ _ _ h => h) (Or.inl ⟨by rfl, ?_⟩) hHeld ?_
      rotate_left
      · (intro w hSw; (try dsimp only at hSw); go_simp; try with_reducible rfl)
      simp only [Act.put, List.setIfInBounds_toArray, List.set_cons_zero, List.set_cons_succ]
      refine wpAnyH_take (i := 22) (oi := { dst := some 86, op := Op.move (Operand.tmp 13), type := 4, pos := "law.go:60", after := #[{ on := 21, ground := Ground.guard }], guard := some (21, true) }) (v := ?_) rfl (by kernel_rfl) (by kernel_rfl) (by kernel_rfl) (fun _ _ _ h => h) (Or.inl ⟨by rfl, ?_⟩) hHeld ?_
      rotate_left
      · (intro w hSw; (try dsimp only at hSw); go_simp; try with_reducible rfl)
      simp only [Act.put, List.setIfInBounds_toArray, List.set_cons_zero, List.set_cons_succ]
      refine wpAnyH_take (i := 23) (oi := { dst := some 87, op := Op.move (Operand.tmp 86), type := 4, pos := "law.go:60", after := #[{ on := 22, ground := Ground.data }, { on := 21, ground := Ground.chain }, { on := 21, ground := Ground.guard }], guard := some (21, true) }) (v := ?_) rfl (by kernel_rfl) (by kernel_rfl) (by kernel_rfl) (fun _ _ _ h => h) (Or.inl ⟨by rfl, ?_⟩) hHeld ?_
      rotate_left
      · (intro w hSw; (try dsimp only at hSw); go_simp; try with_reducible rfl)
      simp only [Act.put, List.setIfInBounds_toArray, List.set_cons_zero, List.set_cons_succ]
      refine wpAnyH_take (i := 24) (oi := { dst := some 88, op := Op.move (Operand.tmp 12), type := 4, pos := "law.go:60", after := #[{ on := 23, ground := Ground.guard }], guard := some (23, false) }) (v := ?_) rfl (by kernel_rfl) (by kernel_rfl) (by kernel_rfl) (fun _ _ _ h => h) (Or.inl ⟨by rfl, ?_⟩) hHeld ?_
      rotate_left
      · (intro w hSw; (try dsimp only at hSw); go_simp; try with_reducible rfl)
      simp only [Act.put, List.setIfInBounds_toArray, List.set_cons_zero, List.set_cons_succ]
      refine wpAnyH_take (i := 25) (oi := { dst := some 89, op := Op.unOp UnOp.not 4 (Operand.tmp 88), type := 4, pos := "law.go:60", after := #[{ on := 24, ground := Ground.data }, { on := 23, ground := Ground.guard }], guard := some (23, false) }) (v := ?_) rfl (by kernel_rfl) (by kernel_rfl) (by kernel_rfl) (fun _ _ _ h => h) (Or.inl ⟨by rfl, ?_⟩) hHeld ?_
      rotate_left
      · (intro w hSw; (try dsimp only at hSw); go_simp; try with_reducible rfl)
      simp only [Act.put, List.setIfInBounds_toArray, List.set_cons_zero, List.set_cons_succ]
      refine wpAnyH_take (i := 26) (oi := { dst := some 90, op := Op.move (Operand.tmp 89), type := 4, pos := "law.go:60", after := #[{ on := 25, ground := Ground.data }, { on := 23, ground := Ground.chain }, { on := 23, ground := Ground.guard }], guard := some (23, false) }) (v := ?_) rfl (by kernel_rfl) (by kernel_rfl) (by kernel_rfl) (fun _ _ _ h => h) (Or.inl ⟨by rfl, ?_⟩) hHeld ?_
      rotate_left
      · (intro w hSw; (try dsimp only at hSw); go_simp; try with_reducible rfl)
      simp only [Act.put, List.setIfInBounds_toArray, List.set_cons_zero, List.set_cons_succ]
      refine wpAnyH_take (i := 27) (oi := { dst := some 91, op := Op.move (Operand.tmp 11), type := 2, pos := "law.go:60", after := #[{ on := 26, ground := Ground.guard }], guard := some (26, true) }) (v := ?_) rfl (by kernel_rfl) (by kernel_rfl) (by kernel_rfl) (fun _ _ _ h => h) (Or.inl ⟨by rfl, ?_⟩) hHeld ?_
      rotate_left
      · (intro w hSw; (try dsimp only at hSw); go_simp; try with_reducible rfl)
      simp only [Act.put, List.setIfInBounds_toArray, List.set_cons_zero, List.set_cons_succ]
      refine wpAnyH_take (i := 28) (oi := { dst := some 92, op := Op.binOp BinOp.eql 2 (Operand.tmp 91) (Operand.const (Value.int IntKind.i64 0)) 2, type := 4, pos := "law.go:60", after := #[{ on := 27, ground := Ground.data }, { on := 26, ground := Ground.guard }], guard := some (26, true) }) (v := ?_) rfl (by kernel_rfl) (by kernel_rfl) (by kernel_rfl) (fun _ _ _ h => h) (Or.inl ⟨by rfl, ?_⟩) hHeld ?_
      rotate_left
      · (intro w hSw; (try dsimp only at hSw); go_simp; try with_reducible rfl)
      simp only [Act.put, List.setIfInBounds_toArray, List.set_cons_zero, List.set_cons_succ]
      refine wpAnyH_take (i := 29) (oi := { dst := some 93, op := Op.pick (Operand.tmp 90) (Operand.tmp 92) (Operand.const (Value.bool false)), type := 4, pos := "law.go:60", after := #[{ on := 26, ground := Ground.data }, { on := 28, ground := Ground.data }, { on := 23, ground := Ground.guard }], guard := some (23, false) }) (v := ?_) rfl (by kernel_rfl) (by kernel_rfl) (by kernel_rfl) (fun _ _ _ h => h) (Or.inl ⟨by rfl, ?_⟩) hHeld ?_
      rotate_left
      · (intro w hSw; (try dsimp only at hSw); go_simp; try with_reducible rfl)
      simp only [Act.put, List.setIfInBounds_toArray, List.set_cons_zero, List.set_cons_succ]
      refine wpAnyH_take (i := 30) (oi := { dst := some 94, op := Op.pick (Operand.tmp 87) (Operand.const (Value.bool true)) (Operand.tmp 93), type := 4, pos := "law.go:60", after := #[{ on := 23, ground := Ground.data }, { on := 29, ground := Ground.data }, { on := 21, ground := Ground.guard }], guard := some (21, true) }) (v := ?_) rfl (by kernel_rfl) (by kernel_rfl) (by kernel_rfl) (fun _ _ _ h => h) (Or.inl ⟨by rfl, ?_⟩) hHeld ?_
      rotate_left
      · (intro w hSw; (try dsimp only at hSw); go_simp; try with_reducible rfl)
      simp only [Act.put, List.setIfInBounds_toArray, List.set_cons_zero, List.set_cons_succ]
      refine wpAnyH_take (i := 31) (oi := { dst := some 95, op := Op.pick (Operand.tmp 85) (Operand.tmp 94) (Operand.const (Value.bool false)), type := 4, pos := "law.go:60", after := #[{ on := 21, ground := Ground.data }, { on := 30, ground := Ground.data }], guard := none }) (v := ?_) rfl (by kernel_rfl) (by kernel_rfl) (by kernel_rfl) (fun _ _ _ h => h) (Or.inl ⟨by rfl, ?_⟩) hHeld ?_
      rotate_left
      · (intro w hSw; (try dsimp only at hSw); go_simp; try with_reducible rfl)
      simp only [Act.put, List.setIfInBounds_toArray, List.set_cons_zero, List.set_cons_succ]
      refine wpAnyH_take (i := 32) (oi := { dst := some 96, op := Op.move (Operand.tmp 95), type := 4, pos := "law.go:60", after := #[{ on := 31, ground := Ground.data }, { on := 26, ground := Ground.chain }], guard := none }) (v := ?_) rfl (by kernel_rfl) (by kernel_rfl) (by kernel_rfl) (fun _ _ _ h => h) (Or.inl ⟨by rfl, ?_⟩) hHeld ?_
      rotate_left
      · (intro w hSw; (try dsimp only at hSw); go_simp; try with_reducible rfl)
      simp only [Act.put, List.setIfInBounds_toArray, List.set_cons_zero, List.set_cons_succ]
      refine wpAnyH_take (i := 33) (oi := { dst := some 97, op := Op.move (Operand.tmp 2), type := 2, pos := "law.go:60", after := #[{ on := 32, ground := Ground.guard }], guard := some (32, true) }) (v := ?_) rfl (by kernel_rfl) (by kernel_rfl) (by kernel_rfl) (fun _ _ _ h => h) (Or.inl ⟨by rfl, ?_⟩) hHeld ?_
      rotate_left
      · (intro w hSw; (try dsimp only at hSw); go_simp; try with_reducible rfl)
      simp only [Act.put, List.setIfInBounds_toArray, List.set_cons_zero, List.set_cons_succ]
      refine wpAnyH_take (i := 35) (oi := { dst := some 99, op := Op.move (Operand.tmp 2), type := 2, pos := "law.go:60", after := #[{ on := 32, ground := Ground.guard }], guard := some (32, true) }) (v := ?_) rfl (by kernel_rfl) (by kernel_rfl) (by kernel_rfl) (fun _ _ _ h => h) (Or.inl ⟨by rfl, ?_⟩) hHeld ?_
      rotate_left
      · (intro w hSw; (try dsimp only at hSw); go_simp; try with_reducible rfl)
      simp only [Act.put, List.setIfInBounds_toArray, List.set_cons_zero, List.set_cons_succ]
      refine wpAnyH_ready (rs := [34]) (by kernel_rfl) (by simp) ?_
      refine AllReadyH.cons (o := { dst := some 98, op := Op.call { callee := Callee.value (Operand.func 36), args := #[Operand.tmp 97], argTypes := #[2] }, type := 24, pos := "law.go:60", after := #[{ on := 33, ground := Ground.data }, { on := 32, ground := Ground.chain }, { on := 32, ground := Ground.guard }], guard := some (32, true) }) rfl (fun K1 hK1 => ?_) AllReadyH.nil
      go_simp
      first
        | (go_at_call 36; (with_reducible refine (zof_zg i HI1.out HI2.out _).mono ?_); rintro e w_o ⟨s_o, A_o, n_o, c_o, rfl, o, hh⟩
           try replace a := a.below hh
           try replace x := x.below hh
           try replace y := y.below hh
           try replace pn := pn.below hh
           try replace pm := pm.below hh
           try replace XA := XA.below hh
           try replace XN := XN.below hh
           try replace XM := XM.below hh
           replace hb := bend hb hh)
      refine hK1.out _ _ ⟨XA.c0, XA.c1, XN.c0, XN.c1, XM.c0, XM.c1⟩ (fun hHeld => ?_)
      clear hK1 K1
      refine wpAnyH_ready (rs := [36]) (by kernel_rfl) (by simp) ?_
      refine AllReadyH.cons (o := { dst := some 100, op := Op.call { callee := Callee.value (Operand.func 33), args := #[Operand.tmp 99], argTypes := #[2] }, type := 30, pos := "law.go:60", after := #[{ on := 35, ground := Ground.data }, { on := 34, ground := Ground.chain }, { on := 32, ground := Ground.guard }], guard := some (32, true) }) rfl (fun K1 hK1 => ?_) AllReadyH.nil
      go_simp
      first
        | (go_at_call 33; (with_reducible refine (rof2_any i HI1.out HI2.out _).mono ?_); rintro e w_y ⟨s_y, A_y, n_y, c_y, rfl, y, hh⟩
           try replace a := a.below hh
           try replace x := x.below hh
           try replace o := o.below hh
           try replace pn := pn.below hh
           try replace pm := pm.below hh
           try replace XA := XA.below hh
           try replace XN := XN.below hh
           try replace XM := XM.below hh
           replace hb := bend hb hh)
      refine hK1.out _ _ ⟨XA.c0, XA.c1, XN.c0, XN.c1, XM.c0, XM.c1⟩ (fun hHeld => ?_)
      clear hK1 K1
      refine wpAnyH_ready (rs := [37]) (by kernel_rfl) (by simp) ?_
      refine AllReadyH.cons (o := { dst := some 101, op := Op.call { callee := Callee.value (Operand.func 14), args := #[Operand.tmp 98, Operand.tmp 100], argTypes := #[24, 30] }, type := 4, pos := "law.go:60", after := #[{ on := 34, ground := Ground.data }, { on := 36, ground := Ground.data }, { on := 36, ground := Ground.chain }, { on := 32, ground := Ground.guard }], guard := some (32, true) }) rfl (fun K1 hK1 => ?_) AllReadyH.nil
      go_simp
      first
        | (go_at_call 14; (with_reducible refine (same2 pn pm (by omega) (by omega)).mono ?_); rintro e w_z ⟨rfl, hh⟩
           try replace a := a.below hh
           try replace x := x.below hh
           try replace y := y.below hh
           try replace o := o.below hh
           try replace pn := pn.below hh
           try replace pm := pm.below hh
           try replace XA := XA.below hh
           try replace XN := XN.below hh
           try replace XM := XM.below hh
           replace hb := bend hb hh)
        | (go_at_call 14; (with_reducible refine (same2 o y (by omega) (by omega)).mono ?_); rintro e w_z ⟨rfl, hh⟩
           try replace a := a.below hh
           try replace x := x.below hh
           try replace y := y.below hh
           try replace o := o.below hh
           try replace pn := pn.below hh
           try replace pm := pm.below hh
           try replace XA := XA.below hh
           try replace XN := XN.below hh
           try replace XM := XM.below hh
           replace hb := bend hb hh)
      refine hK1.out _ _ ⟨XA.c0, XA.c1, XN.c0, XN.c1, XM.c0, XM.c1⟩ (fun hHeld => ?_)
      clear hK1 K1
      refine wpAnyH_take (i := 38) (oi := { dst := some 102, op := Op.pick (Operand.tmp 96) (Operand.tmp 101) (Operand.const (Value.bool false)), type := 4, pos := "law.go:60", after := #[{ on := 32, ground := Ground.data }, { on := 37, ground := Ground.data }], guard := none }) (v := ?_) rfl (by kernel_rfl) (by kernel_rfl) (by kernel_rfl) (fun _ _ _ h => h) (Or.inl ⟨by rfl, ?_⟩) hHeld ?_
      rotate_left
      · (intro w hSw; (try dsimp only at hSw); go_simp; try with_reducible rfl)
      simp only [Act.put, List.setIfInBounds_toArray, List.set_cons_zero, List.set_cons_succ]
      refine wpAnyH_take (i := 39) (oi := { dst := some 103, op := Op.move (Operand.tmp 102), type := 4, pos := "law.go:60", after := #[{ on := 38, ground := Ground.data }, { on := 37, ground := Ground.chain }], guard := none }) (v := ?_) rfl (by kernel_rfl) (by kernel_rfl) (by kernel_rfl) (fun _ _ _ h => h) (Or.inl ⟨by rfl, ?_⟩) hHeld ?_
      rotate_left
      · (intro w hSw; (try dsimp only at hSw); go_simp; try with_reducible rfl)
      simp only [Act.put, List.setIfInBounds_toArray, List.set_cons_zero, List.set_cons_succ]
      refine wpAnyH_ready (rs := [40]) (by kernel_rfl) (by simp) ?_
      refine AllReadyH.cons (o := { dst := some 104, op := Op.call { callee := Callee.value (Operand.func 9), args := #[], argTypes := #[] }, type := 4, pos := "law.go:60", after := #[{ on := 39, ground := Ground.chain }, { on := 39, ground := Ground.guard }], guard := some (39, true) }) rfl (fun K1 hK1 => ?_) AllReadyH.nil
      go_simp
      first
        | (go_at_call 9; (with_reducible refine (zwakes_any _).mono ?_); rintro e w_z ⟨rfl, hh⟩
           try replace a := a.below hh
           try replace x := x.below hh
           try replace y := y.below hh
           try replace o := o.below hh
           try replace pn := pn.below hh
           try replace pm := pm.below hh
           try replace XA := XA.below hh
           try replace XN := XN.below hh
           try replace XM := XM.below hh
           replace hb := bend hb hh)
      refine hK1.out _ _ ⟨XA.c0, XA.c1, XN.c0, XN.c1, XM.c0, XM.c1⟩ (fun hHeld => ?_)
      clear hK1 K1
      refine wpAnyH_take (i := 41) (oi := { dst := some 105, op := Op.pick (Operand.tmp 103) (Operand.tmp 104) (Operand.const (Value.bool false)), type := 4, pos := "law.go:60", after := #[{ on := 39, ground := Ground.data }, { on := 40, ground := Ground.data }], guard := none }) (v := ?_) rfl (by kernel_rfl) (by kernel_rfl) (by kernel_rfl) (fun _ _ _ h => h) (Or.inl ⟨by rfl, ?_⟩) hHeld ?_
      rotate_left
      · (intro w hSw; (try dsimp only at hSw); go_simp; try with_reducible rfl)
      simp only [Act.put, List.setIfInBounds_toArray, List.set_cons_zero, List.set_cons_succ]
      refine wpAnyH_take (i := 42) (oi := { dst := some 6, op := Op.assign (Operand.tmp 105), type := 4, pos := "law.go:60", after := #[{ on := 41, ground := Ground.data }, { on := 40, ground := Ground.chain }, { on := 0, ground := Ground.phase }, { on := 1, ground := Ground.phase }, { on := 2, ground := Ground.phase }, { on := 3, ground := Ground.phase }, { on := 4, ground := Ground.phase }, { on := 5, ground := Ground.phase }, { on := 6, ground := Ground.phase }, { on := 7, ground := Ground.phase }, { on := 8, ground := Ground.phase }, { on := 9, ground := Ground.phase }, { on := 10, ground := Ground.phase }, { on := 11, ground := Ground.phase }, { on := 12, ground := Ground.phase }, { on := 13, ground := Ground.phase }, { on := 14, ground := Ground.phase }, { on := 15, ground := Ground.phase }, { on := 16, ground := Ground.phase }, { on := 17, ground := Ground.phase }, { on := 18, ground := Ground.phase }, { on := 19, ground := Ground.phase }, { on := 20, ground := Ground.phase }, { on := 21, ground := Ground.phase }, { on := 22, ground := Ground.phase }, { on := 23, ground := Ground.phase }, { on := 24, ground := Ground.phase }, { on := 25, ground := Ground.phase }, { on := 26, ground := Ground.phase }, { on := 27, ground := Ground.phase }, { on := 28, ground := Ground.phase }, { on := 29, ground := Ground.phase }, { on := 30, ground := Ground.phase }, { on := 31, ground := Ground.phase }, { on := 32, ground := Ground.phase }, { on := 33, ground := Ground.phase }, { on := 34, ground := Ground.phase }, { on := 35, ground := Ground.phase }, { on := 36, ground := Ground.phase }, { on := 37, ground := Ground.phase }, { on := 38, ground := Ground.phase }, { on := 39, ground := Ground.phase }, { on := 40, ground := Ground.phase }, { on := 41, ground := Ground.phase }], guard := none }) (v := ?_) rfl (by kernel_rfl) (by kernel_rfl) (by kernel_rfl) (fun _ _ _ h => h) (Or.inl ⟨by rfl, ?_⟩) hHeld ?_
      rotate_left
      · (intro w hSw; (try dsimp only at hSw); go_simp; try with_reducible rfl)
      simp only [Act.put, List.setIfInBounds_toArray, List.set_cons_zero, List.set_cons_succ]
      refine wpAnyH_done (by kernel_rfl) ?_ _
      go_wp2_with fail
      go_ret
      exact ⟨rfl, hb⟩

set_option maxRecDepth 100000 in
set_option maxHeartbeats 8000000 in
theorem ztexts_lo (s : Bool) (v : Int) (A : Option Addr) (n c' : Nat) (q : ByteArray) (i : Int) (w : World) (a : ZR w s A n c' v 40) (hn : n ≤ 40) (hq : q.size ≤ 800 ∨ 20000 < q.size) (hqm : q.size ≤ maxLen) (hi1 : -9223372036854775808 ≤ i) (hi2 : i < 9223372036854775808) (hv1 : v < -9223372036854775808) :
    Calls Try.prog 5 #[.agg #[.bool s, .slice A n c'], .string q, .int .i64 i] w fun e w' => e = .returned (.bool true) ∧ Below w.heap.size w w' := by
    have HL1 : Hid (decide (40 < n) = false) := decide_eq_false (by omega)
    have HQ := Lib.hid hq
    have HQM := Lib.hid hqm
    have HI1 := Lib.hid hi1
    have HI2 := Lib.hid hi2
    have hf : fitsB v = false := by unfold fitsB; exact decide_eq_false (by omega)
    have HS1 : Hid (smallV v = 0) := smallV_f hf
    have HS2 := Lib.hid hf
    have HC1 : Hid (cmpZ v 9223372036854775807 = -1) := by show _ = _; unfold cmpZ; rw [if_pos (by omega)]
    have HC2 : Hid (cmpZ v (-9223372036854775808) = -1) := by show _ = _; unfold cmpZ; rw [if_pos (by omega)]
    clear hf hv1
    have hz : ¬ (800 : Int) < (q.size : Int) ∨ ((800 : Int) < (q.size : Int) ∧ ¬ (q.size : Int) ≤ 20000) := by omega
    clear hi1 hi2 hq hqm
    rcases hz with hz1 | ⟨hz1, hz2⟩
    all_goals
      go_enter Try.func5, Try.ntmps5
      go_wp2_with fail
      generalize hW : w.alloc (Obj.cells #[Value.bool s, Value.slice A n c'] 24) = W
      have hb : Below w.heap.size w W := by subst hW; exact (Below.refl _ _).alloc (Nat.le_refl _) _
      have XA : Bx W w.heap.size (.bool s) (.slice A n c') := by subst hW; exact Bx.new w _ _
      clear hW
      try replace a := a.below hb
      have xa0 := XA.c0
      have xa1 := XA.c1
      go_upto_region 4 with (first
        | (go_at_call 8; (refine (large_any s A n c' _).mono ?_); rintro e w_z ⟨rfl, hh⟩
           rw [HL1.out]
           try replace a := a.below hh
           try replace x := x.below hh
           try replace y := y.below hh
           try replace o := o.below hh
           try replace pn := pn.below hh
           try replace pm := pm.below hh
           try replace XA := XA.below hh
           try replace XN := XN.below hh
           try replace XM := XM.below hh
           replace hb := bend hb hh
           have xa0 := XA.c0
           have xa1 := XA.c1)
        | (go_at_call 30; (with_reducible refine (zparse_u q _ HQ.out HQM.out).mono ?_); rintro e w_n ⟨s_pn, A_pn, n_pn, c_pn, rfl, pn, hh⟩
           try replace a := a.below hh
           try replace x := x.below hh
           try replace y := y.below hh
           try replace o := o.below hh
           try replace pm := pm.below hh
           try replace XA := XA.below hh
           try replace XN := XN.below hh
           try replace XM := XM.below hh
           replace hb := bend hb hh
           have xa0 := XA.c0
           have xa1 := XA.c1))
      generalize hW2 : w_n.alloc (Obj.cells #[Value.bool s_pn, Value.slice A_pn n_pn c_pn] 24) = W_pn
      have hh : Below w_n.heap.size w_n W_pn := by subst hW2; exact (Below.refl _ _).alloc (Nat.le_refl _) _
      have XN : Bx W_pn w_n.heap.size (.bool s_pn) (.slice A_pn n_pn c_pn) := by subst hW2; exact Bx.new w_n _ _
      clear hW2
      try replace a := a.below hh
      try replace x := x.below hh
      try replace y := y.below hh
      try replace o := o.below hh
      try replace pn := pn.below hh
      try replace pm := pm.below hh
      try replace XA := XA.below hh
      try replace XM := XM.below hh
      replace hb := bend hb hh
      have xa0 := XA.c0
      have xa1 := XA.c1
      have xn0 := XN.c0
      have xn1 := XN.c1
      go_upto_region 5 with (first
        | (go_at_call 31; (with_reducible refine (rparse_u q _ HQ.out HQM.out).mono ?_); rintro e w_m ⟨s_pm, A_pm, n_pm, c_pm, rfl, pm, hh⟩
           try replace a := a.below hh
           try replace x := x.below hh
           try replace y := y.below hh
           try replace o := o.below hh
           try replace pn := pn.below hh
           try replace XA := XA.below hh
           try replace XN := XN.below hh
           try replace XM := XM.below hh
           replace hb := bend hb hh
           have xa0 := XA.c0
           have xa1 := XA.c1
           have xn0 := XN.c0
           have xn1 := XN.c1))
      generalize hW2 : w_m.alloc (Obj.cells #[Value.bool s_pm, Value.slice A_pm n_pm c_pm] 30) = W_pm
      have hh : Below w_m.heap.size w_m W_pm := by subst hW2; exact (Below.refl _ _).alloc (Nat.le_refl _) _
      have XM : By W_pm w_m.heap.size (.bool s_pm) (.slice A_pm n_pm c_pm) := by subst hW2; exact By.new w_m _ _
      clear hW2
      try replace a := a.below hh
      try replace x := x.below hh
      try replace y := y.below hh
      try replace o := o.below hh
      try replace pn := pn.below hh
      try replace pm := pm.below hh
      try replace XA := XA.below hh
      try replace XN := XN.below hh
      replace hb := bend hb hh
      have xa0 := XA.c0
      have xa1 := XA.c1
      have xn0 := XN.c0
      have xn1 := XN.c1
      have xm0 := XM.c0
      have xm1 := XM.c1
      go_upto_region 6 with (first
        | (go_at_call 32; (with_reducible refine (small_zr2 a (by omega)).mono ?_); rintro e w_z ⟨rfl, hh⟩
           rw [HS1.out, HS2.out]
           try replace a := a.below hh
           try replace x := x.below hh
           try replace y := y.below hh
           try replace o := o.below hh
           try replace pn := pn.below hh
           try replace pm := pm.below hh
           try replace XA := XA.below hh
           try replace XN := XN.below hh
           try replace XM := XM.below hh
           replace hb := bend hb hh
           have xa0 := XA.c0
           have xa1 := XA.c1
           have xn0 := XN.c0
           have xn1 := XN.c1
           have xm0 := XM.c0
           have xm1 := XM.c1))
      replace a := a.below (Below.refl _ _).drew
      replace pn := pn.below (Below.refl _ _).drew
      replace pm := pm.below (Below.refl _ _).drew
      replace XA := XA.below (Below.refl _ _).drew
      replace XN := XN.below (Below.refl _ _).drew
      replace XM := XM.below (Below.refl _ _).drew
      replace hb := hb.drew
      refine wp_region_held_drew (S := (fun w' => w'.cell? ⟨w.heap.size, 0, none⟩ = some (.bool s) ∧ w'.cell? ⟨w.heap.size, 1, none⟩ = some (.slice A n c') ∧ w'.cell? ⟨w_n.heap.size, 0, none⟩ = some (.bool s_pn) ∧ w'.cell? ⟨w_n.heap.size, 1, none⟩ = some (.slice A_pn n_pn c_pn) ∧ w'.cell? ⟨w_m.heap.size, 0, none⟩ = some (.bool s_pm) ∧ w'.cell? ⟨w_m.heap.size, 1, none⟩ = some (.slice A_pm n_pm c_pm))) (by kernel_rfl) ⟨XA.c0, XA.c1, XN.c0, XN.c1, XM.c0, XM.c1⟩ (fun hHeld => ?_)
      refine wpAnyH_take (i := 0) (oi := { dst := some 43, op := Op.move (Operand.tmp 12), type := 4, pos := "law.go:58", after := #[], guard := none }) (v := ?_) rfl (by kernel_rfl) (by kernel_rfl) (by kernel_rfl) (fun _ _ _ h => h) (Or.inl ⟨by rfl, ?_⟩) hHeld ?_
      rotate_left
      · (intro w hSw; (try dsimp only at hSw); go_simp; try with_reducible rfl)
      simp only [Act.put, List.setIfInBounds_toArray, List.set_cons_zero, List.set_cons_succ]
      refine wpAnyH_take (i := 1) (oi := { dst := some 44, op := Op.move (Operand.tmp 43), type := 4, pos := "law.go:58", after := #[{ on := 0, ground := Ground.data }], guard := none }) (v := ?_) rfl (by kernel_rfl) (by kernel_rfl) (by kernel_rfl) (fun _ _ _ h => h) (Or.inl ⟨by rfl, ?_⟩) hHeld ?_
      rotate_left
      · (intro w hSw; (try dsimp only at hSw); go_simp; try with_reducible rfl)
      simp only [Act.put, List.setIfInBounds_toArray, List.set_cons_zero, List.set_cons_succ]
      refine wpAnyH_take (i := 2) (oi := { dst := some 45, op := Op.move (Operand.tmp 11), type := 2, pos := "law.go:58", after := #[{ on := 1, ground := Ground.guard }], guard := some (1, true) }) (v := undef) rfl (by kernel_rfl) (by kernel_rfl) (by kernel_rfl) (fun _ _ _ h => h) (Or.inr ⟨by rfl, rfl⟩) hHeld ?_
      simp only [Act.put, List.setIfInBounds_toArray, List.set_cons_zero, List.set_cons_succ]
      refine wpAnyH_take (i := 3) (oi := { dst := some 46, op := Op.call { callee := Callee.value (Operand.func 33), args := #[Operand.tmp 45], argTypes := #[2] }, type := 30, pos := "law.go:58", after := #[{ on := 2, ground := Ground.data }, { on := 1, ground := Ground.chain }, { on := 1, ground := Ground.guard }], guard := some (1, true) }) (v := undef) rfl (by kernel_rfl) (by kernel_rfl) (by kernel_rfl) (fun _ _ _ h => h) (Or.inr ⟨by rfl, rfl⟩) hHeld ?_
      simp only [Act.put, List.setIfInBounds_toArray, List.set_cons_zero, List.set_cons_succ]
      refine wpAnyH_take (i := 4) (oi := { dst := some 47, op := Op.load 24 (Operand.tmp 3), type := 24, pos := "law.go:58", after := #[{ on := 1, ground := Ground.guard }], guard := some (1, true) }) (v := undef) rfl (by kernel_rfl) (by kernel_rfl) (by kernel_rfl) (fun _ _ _ h => h) (Or.inr ⟨by rfl, rfl⟩) hHeld ?_
      simp only [Act.put, List.setIfInBounds_toArray, List.set_cons_zero, List.set_cons_succ]
      refine wpAnyH_take (i := 5) (oi := { dst := some 48, op := Op.call { callee := Callee.value (Operand.func 10), args := #[Operand.tmp 47], argTypes := #[24] }, type := 30, pos := "law.go:58", after := #[{ on := 4, ground := Ground.data }, { on := 3, ground := Ground.chain }, { on := 1, ground := Ground.guard }], guard := some (1, true) }) (v := undef) rfl (by kernel_rfl) (by kernel_rfl) (by kernel_rfl) (fun _ _ _ h => h) (Or.inr ⟨by rfl, rfl⟩) hHeld ?_
      simp only [Act.put, List.setIfInBounds_toArray, List.set_cons_zero, List.set_cons_succ]
      refine wpAnyH_take (i := 6) (oi := { dst := some 49, op := Op.call { callee := Callee.value (Operand.func 22), args := #[Operand.tmp 46, Operand.tmp 48], argTypes := #[30, 30] }, type := 3, pos := "law.go:58", after := #[{ on := 3, ground := Ground.data }, { on := 5, ground := Ground.data }, { on := 5, ground := Ground.chain }, { on := 1, ground := Ground.guard }], guard := some (1, true) }) (v := undef) rfl (by kernel_rfl) (by kernel_rfl) (by kernel_rfl) (fun _ _ _ h => h) (Or.inr ⟨by rfl, rfl⟩) hHeld ?_
      simp only [Act.put, List.setIfInBounds_toArray, List.set_cons_zero, List.set_cons_succ]
      refine wpAnyH_take (i := 7) (oi := { dst := some 50, op := Op.binOp BinOp.eql 3 (Operand.tmp 49) (Operand.const (Value.int IntKind.i64 0)) 3, type := 4, pos := "law.go:58", after := #[{ on := 6, ground := Ground.data }, { on := 1, ground := Ground.guard }], guard := some (1, true) }) (v := undef) rfl (by kernel_rfl) (by kernel_rfl) (by kernel_rfl) (fun _ _ _ h => h) (Or.inr ⟨by rfl, rfl⟩) hHeld ?_
      simp only [Act.put, List.setIfInBounds_toArray, List.set_cons_zero, List.set_cons_succ]
      refine wpAnyH_take (i := 8) (oi := { dst := some 51, op := Op.pick (Operand.tmp 44) (Operand.tmp 50) (Operand.const (Value.bool false)), type := 4, pos := "law.go:58", after := #[{ on := 1, ground := Ground.data }, { on := 7, ground := Ground.data }], guard := none }) (v := ?_) rfl (by kernel_rfl) (by kernel_rfl) (by kernel_rfl) (fun _ _ _ h => h) (Or.inl ⟨by rfl, ?_⟩) hHeld ?_
      rotate_left
      · (intro w hSw; (try dsimp only at hSw); go_simp; try with_reducible rfl)
      simp only [Act.put, List.setIfInBounds_toArray, List.set_cons_zero, List.set_cons_succ]
      refine wpAnyH_take (i := 9) (oi := { dst := some 13, op := Op.assign (Operand.tmp 51), type := 4, pos := "law.go:58", after := #[{ on := 8, ground := Ground.data }, { on := 6, ground := Ground.chain }, { on := 0, ground := Ground.phase }, { on := 1, ground := Ground.phase }, { on := 2, ground := Ground.phase }, { on := 3, ground := Ground.phase }, { on := 4, ground := Ground.phase }, { on := 5, ground := Ground.phase }, { on := 6, ground := Ground.phase }, { on := 7, ground := Ground.phase }, { on := 8, ground := Ground.phase }], guard := none }) (v := ?_) rfl (by kernel_rfl) (by kernel_rfl) (by kernel_rfl) (fun _ _ _ h => h) (Or.inl ⟨by rfl, ?_⟩) hHeld ?_
      rotate_left
      · (intro w hSw; (try dsimp only at hSw); go_simp; try with_reducible rfl)
      simp only [Act.put, List.setIfInBounds_toArray, List.set_cons_zero, List.set_cons_succ]
      refine wpAnyH_done (by kernel_rfl) ?_ _
      try clear o
      try clear x
      clear hHeld
      have xa0 := XA.c0
      have xa1 := XA.c1
      have xn0 := XN.c0
      have xn1 := XN.c1
      have xm0 := XM.c0
      have xm1 := XM.c1
      go_upto_region 8 with (first
        | (go_at_call 10; (with_reducible refine (rin2 a (by omega)).mono ?_); rintro e w_x ⟨s_x, A_x, n_x, c_x, rfl, x, hh⟩
           try replace a := a.below hh
           try replace y := y.below hh
           try replace o := o.below hh
           try replace pn := pn.below hh
           try replace pm := pm.below hh
           try replace XA := XA.below hh
           try replace XN := XN.below hh
           try replace XM := XM.below hh
           replace hb := bend hb hh
           have xa0 := XA.c0
           have xa1 := XA.c1
           have xn0 := XN.c0
           have xn1 := XN.c1
           have xm0 := XM.c0
           have xm1 := XM.c1)
        | (go_at_call 33; (with_reducible refine (rof2_any 9223372036854775807 (by decide) (by decide) _).mono ?_); rintro e w_o ⟨s_o, A_o, n_o, c_o, rfl, o, hh⟩
           try replace a := a.below hh
           try replace x := x.below hh
           try replace y := y.below hh
           try replace pn := pn.below hh
           try replace pm := pm.below hh
           try replace XA := XA.below hh
           try replace XN := XN.below hh
           try replace XM := XM.below hh
           replace hb := bend hb hh
           have xa0 := XA.c0
           have xa1 := XA.c1
           have xn0 := XN.c0
           have xn1 := XN.c1
           have xm0 := XM.c0
           have xm1 := XM.c1)
        | (go_at_call 22; (with_reducible refine (rcmp2 x.rz o.rz (by omega) (by omega)).mono ?_); rintro e w_z ⟨rfl, hh⟩
           rw [HC1.out]
           try replace a := a.below hh
           try replace x := x.below hh
           try replace y := y.below hh
           try replace o := o.below hh
           try replace pn := pn.below hh
           try replace pm := pm.below hh
           try replace XA := XA.below hh
           try replace XN := XN.below hh
           try replace XM := XM.below hh
           replace hb := bend hb hh
           have xa0 := XA.c0
           have xa1 := XA.c1
           have xn0 := XN.c0
           have xn1 := XN.c1
           have xm0 := XM.c0
           have xm1 := XM.c1)
        | (go_at_call 33; (with_reducible refine (rof2_any (-9223372036854775808) (by decide) (by decide) _).mono ?_); rintro e w_y ⟨s_y, A_y, n_y, c_y, rfl, y, hh⟩
           try replace a := a.below hh
           try replace x := x.below hh
           try replace o := o.below hh
           try replace pn := pn.below hh
           try replace pm := pm.below hh
           try replace XA := XA.below hh
           try replace XN := XN.below hh
           try replace XM := XM.below hh
           replace hb := bend hb hh
           have xa0 := XA.c0
           have xa1 := XA.c1
           have xn0 := XN.c0
           have xn1 := XN.c1
           have xm0 := XM.c0
           have xm1 := XM.c1)
        | (go_at_call 22; (with_reducible refine (rcmp2 x.rz y.rz (by omega) (by omega)).mono ?_); rintro e w_z ⟨rfl, hh⟩
           rw [HC2.out]
           try replace a := a.below hh
           try replace x := x.below hh
           try replace y := y.below hh
           try replace o := o.below hh
           try replace pn := pn.below hh
           try replace pm := pm.below hh
           try replace XA := XA.below hh
           try replace XN := XN.below hh
           try replace XM := XM.below hh
           replace hb := bend hb hh
           have xa0 := XA.c0
           have xa1 := XA.c1
           have xn0 := XN.c0
           have xn1 := XN.c1
           have xm0 := XM.c0
           have xm1 := XM.c1))
      try clear o
      try clear x
      try clear y
      replace a := a.below (Below.refl _ _).drew
      replace pn := pn.below (Below.refl _ _).drew
      replace pm := pm.below (Below.refl _ _).drew
      replace XA := XA.below (Below.refl _ _).drew
      replace XN := XN.below (Below.refl _ _).drew
      replace XM := XM.below (Below.refl _ _).drew
      replace hb := hb.drew
      refine wp_region_held_drew (S := (fun w' => w'.cell? ⟨w.heap.size, 0, none⟩ = some (.bool s) ∧ w'.cell? ⟨w.heap.size, 1, none⟩ = some (.slice A n c') ∧ w'.cell? ⟨w_n.heap.size, 0, none⟩ = some (.bool s_pn) ∧ w'.cell? ⟨w_n.heap.size, 1, none⟩ = some (.slice A_pn n_pn c_pn) ∧ w'.cell? ⟨w_m.heap.size, 0, none⟩ = some (.bool s_pm) ∧ w'.cell? ⟨w_m.heap.size, 1, none⟩ = some (.slice A_pm n_pm c_pm))) (by kernel_rfl) ⟨XA.c0, XA.c1, XN.c0, XN.c1, XM.c0, XM.c1⟩ (fun hHeld => ?_)
      refine wpAnyH_take (i := 0) (oi := { dst := some 64, op := Op.load 24 (Operand.tmp 3), type := 24, pos := "law.go:60", after := #[], guard := none }) (v := ?_) rfl (by kernel_rfl) (by kernel_rfl) (by kernel_rfl) (fun _ _ _ h => h) (Or.inl ⟨by rfl, ?_⟩) hHeld ?_
      rotate_left
      · (intro w hSw; (try dsimp only at hSw); go_simp; try with_reducible rfl)
      simp only [Act.put, List.setIfInBounds_toArray, List.set_cons_zero, List.set_cons_succ]
      refine wpAnyH_take (i := 2) (oi := { dst := some 66, op := Op.load 24 (Operand.tmp 3), type := 24, pos := "law.go:60", after := #[], guard := none }) (v := ?_) rfl (by kernel_rfl) (by kernel_rfl) (by kernel_rfl) (fun _ _ _ h => h) (Or.inl ⟨by rfl, ?_⟩) hHeld ?_
      rotate_left
      · (intro w hSw; (try dsimp only at hSw); go_simp; try with_reducible rfl)
      simp only [Act.put, List.setIfInBounds_toArray, List.set_cons_zero, List.set_cons_succ]
      refine wpAnyH_ready (rs := [1]) (by kernel_rfl) (by simp) ?_
      refine AllReadyH.cons (o := { dst := some 65, op := Op.call { callee := Callee.value (Operand.func 34), args := #[Operand.tmp 64], argTypes := #[24] }, type := 9, pos := "law.go:60", after := #[{ on := 0, ground := Ground.data }], guard := none }) rfl (fun K1 hK1 => ?_) AllReadyH.nil
      go_simp
      first
        | (go_at_call 34; (with_reducible refine (ztext_zr (a.more (show 40 ≤ 78 by omega)) (by omega)).mono ?_); rintro e w_z ⟨rfl, hh⟩
           try replace a := a.below hh
           try replace x := x.below hh
           try replace y := y.below hh
           try replace o := o.below hh
           try replace pn := pn.below hh
           try replace pm := pm.below hh
           try replace XA := XA.below hh
           try replace XN := XN.below hh
           try replace XM := XM.below hh
           replace hb := bend hb hh)
      refine hK1.out _ _ ⟨XA.c0, XA.c1, XN.c0, XN.c1, XM.c0, XM.c1⟩ (fun hHeld => ?_)
      clear hK1 K1
      refine wpAnyH_ready (rs := [3]) (by kernel_rfl) (by simp) ?_
      refine AllReadyH.cons (o := { dst := some 67, op := Op.call { callee := Callee.value (Operand.func 10), args := #[Operand.tmp 66], argTypes := #[24] }, type := 30, pos := "law.go:60", after := #[{ on := 2, ground := Ground.data }, { on := 1, ground := Ground.chain }], guard := none }) rfl (fun K1 hK1 => ?_) AllReadyH.nil
      go_simp
      first
        | (go_at_call 10; (with_reducible refine (rin2 a (by omega)).mono ?_); rintro e w_x ⟨s_x, A_x, n_x, c_x, rfl, x, hh⟩
           try replace a := a.below hh
           try replace y := y.below hh
           try replace o := o.below hh
           try replace pn := pn.below hh
           try replace pm := pm.below hh
           try replace XA := XA.below hh
           try replace XN := XN.below hh
           try replace XM := XM.below hh
           replace hb := bend hb hh)
      refine hK1.out _ _ ⟨XA.c0, XA.c1, XN.c0, XN.c1, XM.c0, XM.c1⟩ (fun hHeld => ?_)
      clear hK1 K1
      refine wpAnyH_ready (rs := [4]) (by kernel_rfl) (by simp) ?_
      refine AllReadyH.cons (o := { dst := some 68, op := Op.call { callee := Callee.value (Operand.func 35), args := #[Operand.tmp 67], argTypes := #[30] }, type := 9, pos := "law.go:60", after := #[{ on := 3, ground := Ground.data }, { on := 3, ground := Ground.chain }], guard := none }) rfl (fun K1 hK1 => ?_) AllReadyH.nil
      go_simp
      first
        | (go_at_call 35; (with_reducible refine (rtext2 x (by omega)).mono ?_); rintro e w_z ⟨rfl, hh⟩
           try replace a := a.below hh
           try replace x := x.below hh
           try replace y := y.below hh
           try replace o := o.below hh
           try replace pn := pn.below hh
           try replace pm := pm.below hh
           try replace XA := XA.below hh
           try replace XN := XN.below hh
           try replace XM := XM.below hh
           replace hb := bend hb hh)
      refine hK1.out _ _ ⟨XA.c0, XA.c1, XN.c0, XN.c1, XM.c0, XM.c1⟩ (fun hHeld => ?_)
      clear hK1 K1
      refine wpAnyH_take (i := 5) (oi := { dst := some 69, op := Op.binOp BinOp.eql 9 (Operand.tmp 65) (Operand.tmp 68) 9, type := 4, pos := "law.go:60", after := #[{ on := 1, ground := Ground.data }, { on := 4, ground := Ground.data }], guard := none }) (v := ?_) rfl (by kernel_rfl) (by kernel_rfl) (by kernel_rfl) (fun _ _ _ h => h) (Or.inl ⟨by rfl, ?_⟩) hHeld ?_
      rotate_left
      · (intro w hSw; (try dsimp only at hSw); go_simp; try with_reducible rfl)
      simp only [Act.put, List.setIfInBounds_toArray, List.set_cons_zero, List.set_cons_succ]
      refine wpAnyH_take (i := 6) (oi := { dst := some 70, op := Op.move (Operand.tmp 69), type := 4, pos := "law.go:60", after := #[{ on := 5, ground := Ground.data }, { on := 4, ground := Ground.chain }], guard := none }) (v := ?_) rfl (by kernel_rfl) (by kernel_rfl) (by kernel_rfl) (fun _ _ _ h => h) (Or.inl ⟨by rfl, ?_⟩) hHeld ?_
      rotate_left
      · (intro w hSw; (try dsimp only at hSw); go_simp; try with_reducible rfl)
      simp only [Act.put, List.setIfInBounds_toArray, List.set_cons_zero, List.set_cons_succ]
      refine wpAnyH_take (i := 7) (oi := { dst := some 71, op := Op.load 24 (Operand.tmp 7), type := 24, pos := "law.go:60", after := #[{ on := 6, ground := Ground.guard }], guard := some (6, true) }) (v := ?_) rfl (by kernel_rfl) (by kernel_rfl) (by kernel_rfl) (fun _ _ _ h => h) (Or.inl ⟨by rfl, ?_⟩) hHeld ?_
      rotate_left
      · (intro w hSw; (try dsimp only at hSw); go_simp; try with_reducible rfl)
      simp only [Act.put, List.setIfInBounds_toArray, List.set_cons_zero, List.set_cons_succ]
      refine wpAnyH_take (i := 8) (oi := { dst := some 72, op := Op.load 30 (Operand.tmp 9), type := 30, pos := "law.go:60", after := #[{ on := 6, ground := Ground.guard }], guard := some (6, true) }) (v := ?_) rfl (by kernel_rfl) (by kernel_rfl) (by kernel_rfl) (fun _ _ _ h => h) (Or.inl ⟨by rfl, ?_⟩) hHeld ?_
      rotate_left
      · (intro w hSw; (try dsimp only at hSw); go_simp; try with_reducible rfl)
      simp only [Act.put, List.setIfInBounds_toArray, List.set_cons_zero, List.set_cons_succ]
      refine wpAnyH_ready (rs := [9]) (by kernel_rfl) (by simp) ?_
      refine AllReadyH.cons (o := { dst := some 73, op := Op.call { callee := Callee.value (Operand.func 14), args := #[Operand.tmp 71, Operand.tmp 72], argTypes := #[24, 30] }, type := 4, pos := "law.go:60", after := #[{ on := 7, ground := Ground.data }, { on := 8, ground := Ground.data }, { on := 6, ground := Ground.chain }, { on := 6, ground := Ground.guard }], guard := some (6, true) }) rfl (fun K1 hK1 => ?_) AllReadyH.nil
      go_simp
      first
        | (go_at_call 14; (with_reducible refine (same2 pn pm (by omega) (by omega)).mono ?_); rintro e w_z ⟨rfl, hh⟩
           try replace a := a.below hh
           try replace x := x.below hh
           try replace y := y.below hh
           try replace o := o.below hh
           try replace pn := pn.below hh
           try replace pm := pm.below hh
           try replace XA := XA.below hh
           try replace XN := XN.below hh
           try replace XM := XM.below hh
           replace hb := bend hb hh)
        | (go_at_call 14; (with_reducible refine (same2 o y (by omega) (by omega)).mono ?_); rintro e w_z ⟨rfl, hh⟩
           try replace a := a.below hh
           try replace x := x.below hh
           try replace y := y.below hh
           try replace o := o.below hh
           try replace pn := pn.below hh
           try replace pm := pm.below hh
           try replace XA := XA.below hh
           try replace XN := XN.below hh
           try replace XM := XM.below hh
           replace hb := bend hb hh)
      refine hK1.out _ _ ⟨XA.c0, XA.c1, XN.c0, XN.c1, XM.c0, XM.c1⟩ (fun hHeld => ?_)
      clear hK1 K1
      refine wpAnyH_take (i := 10) (oi := { dst := some 74, op := Op.pick (Operand.tmp 70) (Operand.tmp 73) (Operand.const (Value.bool false)), type := 4, pos := "law.go:60", after := #[{ on := 6, ground := Ground.data }, { on := 9, ground := Ground.data }], guard := none }) (v := ?_) rfl (by kernel_rfl) (by kernel_rfl) (by kernel_rfl) (fun _ _ _ h => h) (Or.inl ⟨by rfl, ?_⟩) hHeld ?_
      rotate_left
      · (intro w hSw; (try dsimp only at hSw); go_simp; try with_reducible rfl)
      simp only [Act.put, List.setIfInBounds_toArray, List.set_cons_zero, List.set_cons_succ]
      refine wpAnyH_take (i := 11) (oi := { dst := some 75, op := Op.move (Operand.tmp 74), type := 4, pos := "law.go:60", after := #[{ on := 10, ground := Ground.data }, { on := 9, ground := Ground.chain }], guard := none }) (v := ?_) rfl (by kernel_rfl) (by kernel_rfl) (by kernel_rfl) (fun _ _ _ h => h) (Or.inl ⟨by rfl, ?_⟩) hHeld ?_
      rotate_left
      · (intro w hSw; (try dsimp only at hSw); go_simp; try with_reducible rfl)
      simp only [Act.put, List.setIfInBounds_toArray, List.set_cons_zero, List.set_cons_succ]
      refine wpAnyH_take (i := 12) (oi := { dst := some 76, op := Op.move (Operand.tmp 8), type := 43, pos := "law.go:60", after := #[{ on := 11, ground := Ground.guard }], guard := some (11, true) }) (v := ?_) rfl (by kernel_rfl) (by kernel_rfl) (by kernel_rfl) (fun _ _ _ h => h) (Or.inl ⟨by rfl, ?_⟩) hHeld ?_
      rotate_left
      · (intro w hSw; (try dsimp only at hSw); go_simp; try with_reducible rfl)
      simp only [Act.put, List.setIfInBounds_toArray, List.set_cons_zero, List.set_cons_succ]
      refine wpAnyH_take (i := 13) (oi := { dst := some 77, op := Op.move (Operand.tmp 10), type := 3, pos := "law.go:60", after := #[{ on := 11, ground := Ground.guard }], guard := some (11, true) }) (v := ?_) rfl (by kernel_rfl) (by kernel_rfl) (by kernel_rfl) (fun _ _ _ h => h) (Or.inl ⟨by rfl, ?_⟩) hHeld ?_
      rotate_left
      · (intro w hSw; (try dsimp only at hSw); go_simp; try with_reducible rfl)
      simp only [Act.put, List.setIfInBounds_toArray, List.set_cons_zero, List.set_cons_succ]
      refine wpAnyH_take (i := 14) (oi := { dst := some 78, op := Op.binOp BinOp.eql 3 (Operand.tmp 76) (Operand.tmp 77) 3, type := 4, pos := "law.go:60", after := #[{ on := 12, ground := Ground.data }, { on := 13, ground := Ground.data }, { on := 11, ground := Ground.guard }], guard := some (11, true) }) (v := ?_) rfl (by kernel_rfl) (by kernel_rfl) (by kernel_rfl) (fun _ _ _ h => h) (Or.inl ⟨by rfl, ?_⟩) hHeld ?_
      rotate_left
      · (intro w hSw; (try dsimp only at hSw); go_simp; try with_reducible rfl)
      simp only [Act.put, List.setIfInBounds_toArray, List.set_cons_zero, List.set_cons_succ]
      refine wpAnyH_take (i := 15) (oi := { dst := some 79, op := Op.pick (Operand.tmp 75) (Operand.tmp 78) (Operand.const (Value.bool false)), type := 4, pos := "law.go:60", after := #[{ on := 11, ground := Ground.data }, { on := 14, ground := Ground.data }], guard := none }) (v := ?_) rfl (by kernel_rfl) (by kernel_rfl) (by kernel_rfl) (fun _ _ _ h => h) (Or.inl ⟨by rfl, ?_⟩) hHeld ?_
      rotate_left
      · (intro w hSw; (try dsimp only at hSw); go_simp; try with_reducible rfl)
      simp only [Act.put, List.setIfInBounds_toArray, List.set_cons_zero, List.set_cons_succ]
      refine wpAnyH_take (i := 16) (oi := { dst := some 80, op := Op.move (Operand.tmp 79), type := 4, pos := "law.go:60", after := #[{ on := 15, ground := Ground.data }, { on := 11, ground := Ground.chain }], guard := none }) (v := ?_) rfl (by kernel_rfl) (by kernel_rfl) (by kernel_rfl) (fun _ _ _ h => h) (Or.inl ⟨by rfl, ?_⟩) hHeld ?_
      rotate_left
      · (intro w hSw; (try dsimp only at hSw); go_simp; try with_reducible rfl)
      simp only [Act.put, List.setIfInBounds_toArray, List.set_cons_zero, List.set_cons_succ]
      refine wpAnyH_take (i := 17) (oi := { dst := some 81, op := Op.move (Operand.tmp 12), type := 4, pos := "law.go:60", after := #[{ on := 16, ground := Ground.guard }], guard := some (16, true) }) (v := ?_) rfl (by kernel_rfl) (by kernel_rfl) (by kernel_rfl) (fun _ _ _ h => h) (Or.inl ⟨by rfl, ?_⟩) hHeld ?_
      rotate_left
      · (intro w hSw; (try dsimp only at hSw); go_simp; try with_reducible rfl)
      simp only [Act.put, List.setIfInBounds_toArray, List.set_cons_zero, List.set_cons_succ]
      refine wpAnyH_take (i := 18) (oi := { dst := some 82, op := Op.move (Operand.tmp 14), type := 4, pos := "law.go:60", after := #[{ on := 16, ground := Ground.guard }], guard := some (16, true) }) (v := ?_) rfl (by kernel_rfl) (by kernel_rfl) (by kernel_rfl) (fun _ _ _ h => h) (Or.inl ⟨by rfl, ?_⟩) hHeld ?_
      rotate_left
      · (intro w hSw; (try dsimp only at hSw); go_simp; try with_reducible rfl)
      simp only [Act.put, List.setIfInBounds_toArray, List.set_cons_zero, List.set_cons_succ]
      refine wpAnyH_take (i := 19) (oi := { dst := some 83, op := Op.binOp BinOp.eql 4 (Operand.tmp 81) (Operand.tmp 82) 4, type := 4, pos := "law.go:60", after := #[{ on := 17, ground := Ground.data }, { on := 18, ground := Ground.data }, { on := 16, ground := Ground.guard }], guard := some (16, true) }) (v := ?_) rfl (by kernel_rfl) (by kernel_rfl) (by kernel_rfl) (fun _ _ _ h => h) (Or.inl ⟨by rfl, ?_⟩) hHeld ?_
      rotate_left
      · (intro w hSw; (try dsimp only at hSw); go_simp; try with_reducible rfl)
      simp only [Act.put, List.setIfInBounds_toArray, List.set_cons_zero, List.set_cons_succ]
      refine wpAnyH_take (i := 20) (oi := { dst := some 84, op := Op.pick (Operand.tmp 80) (Operand.tmp 83) (Operand.const (Value.bool false)), type := 4, pos := "law.go:60", after := #[{ on := 16, ground := Ground.data }, { on := 19, ground := Ground.data }], guard := none }) (v := ?_) rfl (by kernel_rfl) (by kernel_rfl) (by kernel_rfl) (fun _ _ _ h => h) (Or.inl ⟨by rfl, ?_⟩) hHeld ?_
      rotate_left
      · (intro w hSw; (try dsimp only at hSw); go_simp; try with_reducible rfl)
      simp only [Act.put, List.setIfInBounds_toArray, List.set_cons_zero, List.set_cons_succ]
      refine wpAnyH_take (i := 21) (oi := { dst := some 85, op := Op.move (Operand.tmp 84), type := 4, pos := "law.go:60", after := #[{ on := 20, ground := Ground.data }, { on := 16, ground := Ground.chain }], guard := none }) (v := ?_) rfl (by kernel_rfl) (by kernel_rfl) (by kernel_rfl) (fun _ _ _ h => h) (Or.inl ⟨by rfl, ?_⟩) hHeld ?_
      rotate_left
      · (intro w hSw; (try dsimp only at hSw); go_simp; try with_reducible rfl)
      simp only [Act.put, List.setIfInBounds_toArray, List.set_cons_zero, List.set_cons_succ]
      refine wpAnyH_take (i := 22) (oi := { dst := some 86, op := Op.move (Operand.tmp 13), type := 4, pos := "law.go:60", after := #[{ on := 21, ground := Ground.guard }], guard := some (21, true) }) (v := ?_) rfl (by kernel_rfl) (by kernel_rfl) (by kernel_rfl) (fun _ _ _ h => h) (Or.inl ⟨by rfl, ?_⟩) hHeld ?_
      rotate_left
      · (intro w hSw; (try dsimp only at hSw); go_simp; try with_reducible rfl)
      simp only [Act.put, List.setIfInBounds_toArray, List.set_cons_zero, List.set_cons_succ]
      refine wpAnyH_take (i := 23) (oi := { dst := some 87, op := Op.move (Operand.tmp 86), type := 4, pos := "law.go:60", after := #[{ on := 22, ground := Ground.data }, { on := 21, ground := Ground.chain }, { on := 21, ground := Ground.guard }], guard := some (21, true) }) (v := ?_) rfl (by kernel_rfl) (by kernel_rfl) (by kernel_rfl) (fun _ _ _ h => h) (Or.inl ⟨by rfl, ?_⟩) hHeld ?_
      rotate_left
      · (intro w hSw; (try dsimp only at hSw); go_simp; try with_reducible rfl)
      simp only [Act.put, List.setIfInBounds_toArray, List.set_cons_zero, List.set_cons_succ]
      refine wpAnyH_take (i := 24) (oi := { dst := some 88, op := Op.move (Operand.tmp 12), type := 4, pos := "law.go:60", after := #[{ on := 23, ground := Ground.guard }], guard := some (23, false) }) (v := ?_) rfl (by kernel_rfl) (by kernel_rfl) (by kernel_rfl) (fun _ _ _ h => h) (Or.inl ⟨by rfl, ?_⟩) hHeld ?_
      rotate_left
      · (intro w hSw; (try dsimp only at hSw); go_simp; try with_reducible rfl)
      simp only [Act.put, List.setIfInBounds_toArray, List.set_cons_zero, List.set_cons_succ]
      refine wpAnyH_take (i := 25) (oi := { dst := some 89, op := Op.unOp UnOp.not 4 (Operand.tmp 88), type := 4, pos := "law.go:60", after := #[{ on := 24, ground := Ground.data }, { on := 23, ground := Ground.guard }], guard := some (23, false) }) (v := ?_) rfl (by kernel_rfl) (by kernel_rfl) (by kernel_rfl) (fun _ _ _ h => h) (Or.inl ⟨by rfl, ?_⟩) hHeld ?_
      rotate_left
      · (intro w hSw; (try dsimp only at hSw); go_simp; try with_reducible rfl)
      simp only [Act.put, List.setIfInBounds_toArray, List.set_cons_zero, List.set_cons_succ]
      refine wpAnyH_take (i := 26) (oi := { dst := some 90, op := Op.move (Operand.tmp 89), type := 4, pos := "law.go:60", after := #[{ on := 25, ground := Ground.data }, { on := 23, ground := Ground.chain }, { on := 23, ground := Ground.guard }], guard := some (23, false) }) (v := ?_) rfl (by kernel_rfl) (by kernel_rfl) (by kernel_rfl) (fun _ _ _ h => h) (Or.inl ⟨by rfl, ?_⟩) hHeld ?_
      rotate_left
      · (intro w hSw; (try dsimp only at hSw); go_simp; try with_reducible rfl)
      simp only [Act.put, List.setIfInBounds_toArray, List.set_cons_zero, List.set_cons_succ]
      refine wpAnyH_take (i := 27) (oi := { dst := some 91, op := Op.move (Operand.tmp 11), type := 2, pos := "law.go:60", after := #[{ on := 26, ground := Ground.guard }], guard := some (26, true) }) (v := ?_) rfl (by kernel_rfl) (by kernel_rfl) (by kernel_rfl) (fun _ _ _ h => h) (Or.inl ⟨by rfl, ?_⟩) hHeld ?_
      rotate_left
      · (intro w hSw; (try dsimp only at hSw); go_simp; try with_reducible rfl)
      simp only [Act.put, List.setIfInBounds_toArray, List.set_cons_zero, List.set_cons_succ]
      refine wpAnyH_take (i := 28) (oi := { dst := some 92, op := Op.binOp BinOp.eql 2 (Operand.tmp 91) (Operand.const (Value.int IntKind.i64 0)) 2, type := 4, pos := "law.go:60", after := #[{ on := 27, ground := Ground.data }, { on := 26, ground := Ground.guard }], guard := some (26, true) }) (v := ?_) rfl (by kernel_rfl) (by kernel_rfl) (by kernel_rfl) (fun _ _ _ h => h) (Or.inl ⟨by rfl, ?_⟩) hHeld ?_
      rotate_left
      · (intro w hSw; (try dsimp only at hSw); go_simp; try with_reducible rfl)
      simp only [Act.put, List.setIfInBounds_toArray, List.set_cons_zero, List.set_cons_succ]
      refine wpAnyH_take (i := 29) (oi := { dst := some 93, op := Op.pick (Operand.tmp 90) (Operand.tmp 92) (Operand.const (Value.bool false)), type := 4, pos := "law.go:60", after := #[{ on := 26, ground := Ground.data }, { on := 28, ground := Ground.data }, { on := 23, ground := Ground.guard }], guard := some (23, false) }) (v := ?_) rfl (by kernel_rfl) (by kernel_rfl) (by kernel_rfl) (fun _ _ _ h => h) (Or.inl ⟨by rfl, ?_⟩) hHeld ?_
      rotate_left
      · (intro w hSw; (try dsimp only at hSw); go_simp; try with_reducible rfl)
      simp only [Act.put, List.setIfInBounds_toArray, List.set_cons_zero, List.set_cons_succ]
      refine wpAnyH_take (i := 30) (oi := { dst := some 94, op := Op.pick (Operand.tmp 87) (Operand.const (Value.bool true)) (Operand.tmp 93), type := 4, pos := "law.go:60", after := #[{ on := 23, ground := Ground.data }, { on := 29, ground := Ground.data }, { on := 21, ground := Ground.guard }], guard := some (21, true) }) (v := ?_) rfl (by kernel_rfl) (by kernel_rfl) (by kernel_rfl) (fun _ _ _ h => h) (Or.inl ⟨by rfl, ?_⟩) hHeld ?_
      rotate_left
      · (intro w hSw; (try dsimp only at hSw); go_simp; try with_reducible rfl)
      simp only [Act.put, List.setIfInBounds_toArray, List.set_cons_zero, List.set_cons_succ]
      refine wpAnyH_take (i := 31) (oi := { dst := some 95, op := Op.pick (Operand.tmp 85) (Operand.tmp 94) (Operand.const (Value.bool false)), type := 4, pos := "law.go:60", after := #[{ on := 21, ground := Ground.data }, { on := 30, ground := Ground.data }], guard := none }) (v := ?_) rfl (by kernel_rfl) (by kernel_rfl) (by kernel_rfl) (fun _ _ _ h => h) (Or.inl ⟨by rfl, ?_⟩) hHeld ?_
      rotate_left
      · (intro w hSw; (try dsimp only at hSw); go_simp; try with_reducible rfl)
      simp only [Act.put, List.setIfInBounds_toArray, List.set_cons_zero, List.set_cons_succ]
      refine wpAnyH_take (i := 32) (oi := { dst := some 96, op := Op.move (Operand.tmp 95), type := 4, pos := "law.go:60", after := #[{ on := 31, ground := Ground.data }, { on := 26, ground := Ground.chain }], guard := none }) (v := ?_) rfl (by kernel_rfl) (by kernel_rfl) (by kernel_rfl) (fun _ _ _ h => h) (Or.inl ⟨by rfl, ?_⟩) hHeld ?_
      rotate_left
      · (intro w hSw; (try dsimp only at hSw); go_simp; try with_reducible rfl)
      simp only [Act.put, List.setIfInBounds_toArray, List.set_cons_zero, List.set_cons_succ]
      refine wpAnyH_take (i := 33) (oi := { dst := some 97, op := Op.move (Operand.tmp 2), type := 2, pos := "law.go:60", after := #[{ on := 32, ground := Ground.guard }], guard := some (32, true) }) (v := ?_) rfl (by kernel_rfl) (by kernel_rfl) (by kernel_rfl) (fun _ _ _ h => h) (Or.inl ⟨by rfl, ?_⟩) hHeld ?_
      rotate_left
      · (intro w hSw; (try dsimp only at hSw); go_simp; try with_reducible rfl)
      simp only [Act.put, List.setIfInBounds_toArray, List.set_cons_zero, List.set_cons_succ]
      refine wpAnyH_take (i := 35) (oi := { dst := some 99, op := Op.move (Operand.tmp 2), type := 2, pos := "law.go:60", after := #[{ on := 32, ground := Ground.guard }], guard := some (32, true) }) (v := ?_) rfl (by kernel_rfl) (by kernel_rfl) (by kernel_rfl) (fun _ _ _ h => h) (Or.inl ⟨by rfl, ?_⟩) hHeld ?_
      rotate_left
      · (intro w hSw; (try dsimp only at hSw); go_simp; try with_reducible rfl)
      simp only [Act.put, List.setIfInBounds_toArray, List.set_cons_zero, List.set_cons_succ]
      refine wpAnyH_ready (rs := [34]) (by kernel_rfl) (by simp) ?_
      refine AllReadyH.cons (o := { dst := some 98, op := Op.call { callee := Callee.value (Operand.func 36), args := #[Operand.tmp 97], argTypes := #[2] }, type := 24, pos := "law.go:60", after := #[{ on := 33, ground := Ground.data }, { on := 32, ground := Ground.chain }, { on := 32, ground := Ground.guard }], guard := some (32, true) }) rfl (fun K1 hK1 => ?_) AllReadyH.nil
      go_simp
      first
        | (go_at_call 36; (with_reducible refine (zof_zg i HI1.out HI2.out _).mono ?_); rintro e w_o ⟨s_o, A_o, n_o, c_o, rfl, o, hh⟩
           try replace a := a.below hh
           try replace x := x.below hh
           try replace y := y.below hh
           try replace pn := pn.below hh
           try replace pm := pm.below hh
           try replace XA := XA.below hh
           try replace XN := XN.below hh
           try replace XM := XM.below hh
           replace hb := bend hb hh)
      refine hK1.out _ _ ⟨XA.c0, XA.c1, XN.c0, XN.c1, XM.c0, XM.c1⟩ (fun hHeld => ?_)
      clear hK1 K1
      refine wpAnyH_ready (rs := [36]) (by kernel_rfl) (by simp) ?_
      refine AllReadyH.cons (o := { dst := some 100, op := Op.call { callee := Callee.value (Operand.func 33), args := #[Operand.tmp 99], argTypes := #[2] }, type := 30, pos := "law.go:60", after := #[{ on := 35, ground := Ground.data }, { on := 34, ground := Ground.chain }, { on := 32, ground := Ground.guard }], guard := some (32, true) }) rfl (fun K1 hK1 => ?_) AllReadyH.nil
      go_simp
      first
        | (go_at_call 33; (with_reducible refine (rof2_any i HI1.out HI2.out _).mono ?_); rintro e w_y ⟨s_y, A_y, n_y, c_y, rfl, y, hh⟩
           try replace a := a.below hh
           try replace x := x.below hh
           try replace o := o.below hh
           try replace pn := pn.below hh
           try replace pm := pm.below hh
           try replace XA := XA.below hh
           try replace XN := XN.below hh
           try replace XM := XM.below hh
           replace hb := bend hb hh)
      refine hK1.out _ _ ⟨XA.c0, XA.c1, XN.c0, XN.c1, XM.c0, XM.c1⟩ (fun hHeld => ?_)
      clear hK1 K1
      refine wpAnyH_ready (rs := [37]) (by kernel_rfl) (by simp) ?_
      refine AllReadyH.cons (o := { dst := some 101, op := Op.call { callee := Callee.value (Operand.func 14), args := #[Operand.tmp 98, Operand.tmp 100], argTypes := #[24, 30] }, type := 4, pos := "law.go:60", after := #[{ on := 34, ground := Ground.data }, { on := 36, ground := Ground.data }, { on := 36, ground := Ground.chain }, { on := 32, ground := Ground.guard }], guard := some (32, true) }) rfl (fun K1 hK1 => ?_) AllReadyH.nil
      go_simp
      first
        | (go_at_call 14; (with_reducible refine (same2 pn pm (by omega) (by omega)).mono ?_); rintro e w_z ⟨rfl, hh⟩
           try replace a := a.below hh
           try replace x := x.below hh
           try replace y := y.below hh
           try replace o := o.below hh
           try replace pn := pn.below hh
           try replace pm := pm.below hh
           try replace XA := XA.below hh
           try replace XN := XN.below hh
           try replace XM := XM.below hh
           replace hb := bend hb hh)
        | (go_at_call 14; (with_reducible refine (same2 o y (by omega) (by omega)).mono ?_); rintro e w_z ⟨rfl, hh⟩
           try replace a := a.below hh
           try replace x := x.below hh
           try replace y := y.below hh
           try replace o := o.below hh
           try replace pn := pn.below hh
           try replace pm := pm.below hh
           try replace XA := XA.below hh
           try replace XN := XN.below hh
           try replace XM := XM.below hh
           replace hb := bend hb hh)
      refine hK1.out _ _ ⟨XA.c0, XA.c1, XN.c0, XN.c1, XM.c0, XM.c1⟩ (fun hHeld => ?_)
      clear hK1 K1
      refine wpAnyH_take (i := 38) (oi := { dst := some 102, op := Op.pick (Operand.tmp 96) (Operand.tmp 101) (Operand.const (Value.bool false)), type := 4, pos := "law.go:60", after := #[{ on := 32, ground := Ground.data }, { on := 37, ground := Ground.data }], guard := none }) (v := ?_) rfl (by kernel_rfl) (by kernel_rfl) (by kernel_rfl) (fun _ _ _ h => h) (Or.inl ⟨by rfl, ?_⟩) hHeld ?_
      rotate_left
      · (intro w hSw; (try dsimp only at hSw); go_simp; try with_reducible rfl)
      simp only [Act.put, List.setIfInBounds_toArray, List.set_cons_zero, List.set_cons_succ]
      refine wpAnyH_take (i := 39) (oi := { dst := some 103, op := Op.move (Operand.tmp 102), type := 4, pos := "law.go:60", after := #[{ on := 38, ground := Ground.data }, { on := 37, ground := Ground.chain }], guard := none }) (v := ?_) rfl (by kernel_rfl) (by kernel_rfl) (by kernel_rfl) (fun _ _ _ h => h) (Or.inl ⟨by rfl, ?_⟩) hHeld ?_
      rotate_left
      · (intro w hSw; (try dsimp only at hSw); go_simp; try with_reducible rfl)
      simp only [Act.put, List.setIfInBounds_toArray, List.set_cons_zero, List.set_cons_succ]
      refine wpAnyH_ready (rs := [40]) (by kernel_rfl) (by simp) ?_
      refine AllReadyH.cons (o := { dst := some 104, op := Op.call { callee := Callee.value (Operand.func 9), args := #[], argTypes := #[] }, type := 4, pos := "law.go:60", after := #[{ on := 39, ground := Ground.chain }, { on := 39, ground := Ground.guard }], guard := some (39, true) }) rfl (fun K1 hK1 => ?_) AllReadyH.nil
      go_simp
      first
        | (go_at_call 9; (with_reducible refine (zwakes_any _).mono ?_); rintro e w_z ⟨rfl, hh⟩
           try replace a := a.below hh
           try replace x := x.below hh
           try replace y := y.below hh
           try replace o := o.below hh
           try replace pn := pn.below hh
           try replace pm := pm.below hh
           try replace XA := XA.below hh
           try replace XN := XN.below hh
           try replace XM := XM.below hh
           replace hb := bend hb hh)
      refine hK1.out _ _ ⟨XA.c0, XA.c1, XN.c0, XN.c1, XM.c0, XM.c1⟩ (fun hHeld => ?_)
      clear hK1 K1
      refine wpAnyH_take (i := 41) (oi := { dst := some 105, op := Op.pick (Operand.tmp 103) (Operand.tmp 104) (Operand.const (Value.bool false)), type := 4, pos := "law.go:60", after := #[{ on := 39, ground := Ground.data }, { on := 40, ground := Ground.data }], guard := none }) (v := ?_) rfl (by kernel_rfl) (by kernel_rfl) (by kernel_rfl) (fun _ _ _ h => h) (Or.inl ⟨by rfl, ?_⟩) hHeld ?_
      rotate_left
      · (intro w hSw; (try dsimp only at hSw); go_simp; try with_reducible rfl)
      simp only [Act.put, List.setIfInBounds_toArray, List.set_cons_zero, List.set_cons_succ]
      refine wpAnyH_take (i := 42) (oi := { dst := some 6, op := Op.assign (Operand.tmp 105), type := 4, pos := "law.go:60", after := #[{ on := 41, ground := Ground.data }, { on := 40, ground := Ground.chain }, { on := 0, ground := Ground.phase }, { on := 1, ground := Ground.phase }, { on := 2, ground := Ground.phase }, { on := 3, ground := Ground.phase }, { on := 4, ground := Ground.phase }, { on := 5, ground := Ground.phase }, { on := 6, ground := Ground.phase }, { on := 7, ground := Ground.phase }, { on := 8, ground := Ground.phase }, { on := 9, ground := Ground.phase }, { on := 10, ground := Ground.phase }, { on := 11, ground := Ground.phase }, { on := 12, ground := Ground.phase }, { on := 13, ground := Ground.phase }, { on := 14, ground := Ground.phase }, { on := 15, ground := Ground.phase }, { on := 16, ground := Ground.phase }, { on := 17, ground := Ground.phase }, { on := 18, ground := Ground.phase }, { on := 19, ground := Ground.phase }, { on := 20, ground := Ground.phase }, { on := 21, ground := Ground.phase }, { on := 22, ground := Ground.phase }, { on := 23, ground := Ground.phase }, { on := 24, ground := Ground.phase }, { on := 25, ground := Ground.phase }, { on := 26, ground := Ground.phase }, { on := 27, ground := Ground.phase }, { on := 28, ground := Ground.phase }, { on := 29, ground := Ground.phase }, { on := 30, ground := Ground.phase }, { on := 31, ground := Ground.phase }, { on := 32, ground := Ground.phase }, { on := 33, ground := Ground.phase }, { on := 34, ground := Ground.phase }, { on := 35, ground := Ground.phase }, { on := 36, ground := Ground.phase }, { on := 37, ground := Ground.phase }, { on := 38, ground := Ground.phase }, { on := 39, ground := Ground.phase }, { on := 40, ground := Ground.phase }, { on := 41, ground := Ground.phase }], guard := none }) (v := ?_) rfl (by kernel_rfl) (by kernel_rfl) (by kernel_rfl) (fun _ _ _ h => h) (Or.inl ⟨by rfl, ?_⟩) hHeld ?_
      rotate_left
      · (intro w hSw; (try dsimp only at hSw); go_simp; try with_reducible rfl)
      simp only [Act.put, List.setIfInBounds_toArray, List.set_cons_zero, List.set_cons_succ]
      refine wpAnyH_done (by kernel_rfl) ?_ _
      go_wp2_with fail
      go_ret
      exact ⟨rfl, hb⟩

set_option maxRecDepth 100000 in
set_option maxHeartbeats 8000000 in
theorem ztexts_large (s : Bool) (A : Option Addr) (n c' : Nat) (q : ByteArray) (i : Int) (w : World) (hn : ¬ n ≤ 40) :
    Calls Try.prog 5 #[.agg #[.bool s, .slice A n c'], .string q, .int .i64 i] w fun e w' => e = .returned (.bool true) ∧ Below w.heap.size w w' := by
    have HL1 : Hid (decide (40 < n) = true) := decide_eq_true (by omega)
    clear hn
    go_enter Try.func5, Try.ntmps5
    go_wp2_with fail
    generalize hW : w.alloc (Obj.cells #[Value.bool s, Value.slice A n c'] 24) = W
    have hb : Below w.heap.size w W := by subst hW; exact (Below.refl _ _).alloc (Nat.le_refl _) _
    have XA : Bx W w.heap.size (.bool s) (.slice A n c') := by subst hW; exact Bx.new w _ _
    clear hW
    have xa0 := XA.c0
    have xa1 := XA.c1
    go_wp2_with (first
      | (go_at_call 8; (refine (large_any s A n c' _).mono ?_); rintro e w_z ⟨rfl, hh⟩
         rw [HL1.out]
         try replace a := a.below hh
         try replace x := x.below hh
         try replace y := y.below hh
         try replace o := o.below hh
         try replace pn := pn.below hh
         try replace pm := pm.below hh
         try replace XA := XA.below hh
         try replace XN := XN.below hh
         try replace XM := XM.below hh
         replace hb := bend hb hh
         have xa0 := XA.c0
         have xa1 := XA.c1)
      | (go_at_call 9; (with_reducible refine (zwakes_any _).mono ?_); rintro e w_z ⟨rfl, hh⟩
         try replace a := a.below hh
         try replace x := x.below hh
         try replace y := y.below hh
         try replace o := o.below hh
         try replace pn := pn.below hh
         try replace pm := pm.below hh
         try replace XA := XA.below hh
         try replace XN := XN.below hh
         try replace XM := XM.below hh
         replace hb := bend hb hh
         have xa0 := XA.c0
         have xa1 := XA.c1))
    go_ret
    exact ⟨rfl, hb⟩

set_option maxRecDepth 100000 in
set_option maxHeartbeats 8000000 in
theorem ztexts_long (s : Bool) (A : Option Addr) (n c' : Nat) (q : ByteArray) (i : Int) (w : World) (hn : n ≤ 40) (h1 : 800 < q.size) (h2 : q.size ≤ 20000) :
    Calls Try.prog 5 #[.agg #[.bool s, .slice A n c'], .string q, .int .i64 i] w fun e w' => e = .returned (.bool true) ∧ Below w.heap.size w w' := by
    have HL1 : Hid (decide (40 < n) = false) := decide_eq_false (by omega)
    have hz1 : (800 : Int) < (q.size : Int) := by omega
    have hz2 : (q.size : Int) ≤ 20000 := by omega
    clear hn h1 h2
    go_enter Try.func5, Try.ntmps5
    go_wp2_with fail
    generalize hW : w.alloc (Obj.cells #[Value.bool s, Value.slice A n c'] 24) = W
    have hb : Below w.heap.size w W := by subst hW; exact (Below.refl _ _).alloc (Nat.le_refl _) _
    have XA : Bx W w.heap.size (.bool s) (.slice A n c') := by subst hW; exact Bx.new w _ _
    clear hW
    have xa0 := XA.c0
    have xa1 := XA.c1
    go_wp2_with (first
      | (go_at_call 8; (refine (large_any s A n c' _).mono ?_); rintro e w_z ⟨rfl, hh⟩
         rw [HL1.out]
         try replace a := a.below hh
         try replace x := x.below hh
         try replace y := y.below hh
         try replace o := o.below hh
         try replace pn := pn.below hh
         try replace pm := pm.below hh
         try replace XA := XA.below hh
         try replace XN := XN.below hh
         try replace XM := XM.below hh
         replace hb := bend hb hh
         have xa0 := XA.c0
         have xa1 := XA.c1)
      | (go_at_call 9; (with_reducible refine (zwakes_any _).mono ?_); rintro e w_z ⟨rfl, hh⟩
         try replace a := a.below hh
         try replace x := x.below hh
         try replace y := y.below hh
         try replace o := o.below hh
         try replace pn := pn.below hh
         try replace pm := pm.below hh
         try replace XA := XA.below hh
         try replace XN := XN.below hh
         try replace XM := XM.below hh
         replace hb := bend hb hh
         have xa0 := XA.c0
         have xa1 := XA.c1))
    go_ret
    exact ⟨rfl, hb⟩

theorem law_ztexts (s : Bool) (la : List Nat) (A : Option Addr) (n c' : Nat) (q : ByteArray) (i : Int) (w : World) (ha : Rd .u64 w A n la) (La : Lim B64 la) (hna : n ≤ c') (hqm : q.size ≤ maxLen) (hi1 : -9223372036854775808 ≤ i) (hi2 : i < 9223372036854775808) :
    Calls Try.prog 5 #[.agg #[.bool s, .slice A n c'], .string q, .int .i64 i] w fun e w' => e = .returned (.bool true) ∧ Below w.heap.size w w' := by
    by_cases h1 : n ≤ 40
    · have a := ZR.of_rd (s := s) ha La hna h1
      by_cases h2 : 800 < q.size ∧ q.size ≤ 20000
      · exact ztexts_long s A n c' q i w h1 h2.1 h2.2
      · by_cases h4 : 9223372036854775808 ≤ iv s (val B64 la)
        · exact ztexts_hi s _ A n c' q i w a h1 (by omega) hqm hi1 hi2 h4
        · by_cases h5 : iv s (val B64 la) < -9223372036854775808
          · exact ztexts_lo s _ A n c' q i w a h1 (by omega) hqm hi1 hi2 h5
          · exact ztexts_fit s _ A n c' q i w a h1 (by omega) hqm hi1 hi2 (by omega) (by omega)
    · exact ztexts_large s A n c' q i w h1
end Go.Proofs.Ytehkgiiiobnkdaa
