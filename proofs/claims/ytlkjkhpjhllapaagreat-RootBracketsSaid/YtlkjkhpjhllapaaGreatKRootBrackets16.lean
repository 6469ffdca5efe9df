/- RootBrackets: part 16. -/
import Derived.Test.YtlkjkhpjhllapaaGreatKRootBrackets15
set_option linter.unusedVariables false
namespace Go.Proofs.YtlkjkhpjhllapaaGreat
open Go Go.RowKit
theorem of_not {w : World} {s : Bool} {A A' : Option Addr} {n c n' c' k : Nat} {v : Rat} (X : RQ w s A n c A' n' c' v k) (hv : 0 ≤ v) (hk : k ≤ 1000) (h : ¬ (IsSq v.num.natAbs ∧ IsSq v.den)) :
    Calls Tryz.prog 54 #[.agg #[.bool s, .slice A n c, .slice A' n' c']] w (NoEx w) := by
  by_cases h1 : IsSq v.num.natAbs
  · exact of_no2 X hv hk h1 (fun h2 => h ⟨h1, h2⟩)
  · exact of_no1 X hv hk h1
theorem sq_of {v : Rat} {a b : Nat} (hv : 0 ≤ v) (h1 : a * a = v.num.natAbs) (h2 : b * b = v.den) : v = mkRat (iv false a) b * mkRat (iv false a) b := by
  have e : iv false a = (a : Int) := rfl
  have hn : v.num = (a : Int) * (a : Int) := by
    have := Rat.num_nonneg.2 hv
    have e2 : (v.num.natAbs : Int) = v.num := by omega
    rw [← e2, ← h1]; simp
  rw [mk_mul, e, ← hn, h2, Rat.mkRat_self]
theorem sqp_nn (a b : Nat) : 0 ≤ mkRat (iv false a) b := by
  have e : iv false a = (a : Int) := rfl
  rw [e]
  rw [← Rat.divInt_ofNat]; exact Rat.divInt_nonneg (by omega) (by omega)
set_option maxRecDepth 100000 in
set_option maxHeartbeats 4000000 in
theorem brac_large {w : World} {s : Bool} {A A' : Option Addr} {n c n' c' : Nat} (j : Int) (hl : decide (n ≤ 8 ∧ n' ≤ 8) = false) :
    Calls Tryz.prog 6 #[.agg #[.bool s, .slice A n c, .slice A' n' c'], .int .i64 j] w fun e w' => e = .returned (.bool true) ∧ Below w.heap.size w w' := by
  have HL := Lib.hid hl
  clear hl
  go_enter Tryz.func6, Tryz.ntmps6
  go_wp2_with fail
  generalize hW : (w.alloc (Obj.cells #[Value.bool s, Value.slice A n c, Value.slice A' n' c'] 26)) = W
  have hb : Below w.heap.size w W := by subst hW; exact ((Below.refl _ _).alloc (Nat.le_refl _) _)
  have XA : B3 W (w.heap.size) (Value.bool s) (Value.slice A n c) (Value.slice A' n' c') := by subst hW; exact B3.new' _ _ _ _ _ rfl
  have hzW : W.heap.size = w.heap.size + 1 := by subst hW; simp
  clear hW
  have xa0 := XA.c0
  have xa1 := XA.c1
  have xa2 := XA.c2
  go_wp2_with (first
      | (go_at_call 46; (with_reducible refine (small_8 _ false HL.out).mono ?_); rintro e w_z ⟨rfl, hh⟩
         try replace XA := XA.below hh
         replace hb := bend hb hh
         have xa0 := XA.c0
         have xa1 := XA.c1
         have xa2 := XA.c2)
      | (go_at_call 47; (with_reducible refine (rwakes_any _).mono ?_); rintro e w_z ⟨rfl, hh⟩
         try replace XA := XA.below hh
         replace hb := bend hb hh))
  go_ret
  exact ⟨rfl, hb⟩
set_option maxRecDepth 100000 in
set_option maxHeartbeats 4000000 in
theorem brac_skip {w : World} {s : Bool} {A A' : Option Addr} {n c n' c' : Nat} (j : Int) (hl : decide (n ≤ 8 ∧ n' ≤ 8) = true) (h1 : 300 < j) (h2 : j ≤ 4096) :
    Calls Tryz.prog 6 #[.agg #[.bool s, .slice A n c, .slice A' n' c'], .int .i64 j] w fun e w' => e = .returned (.bool true) ∧ Below w.heap.size w w' := by
  have HL := Lib.hid hl
  clear hl
  go_enter Tryz.func6, Tryz.ntmps6
  go_wp2_with fail
  generalize hW : (w.alloc (Obj.cells #[Value.bool s, Value.slice A n c, Value.slice A' n' c'] 26)) = W
  have hb : Below w.heap.size w W := by subst hW; exact ((Below.refl _ _).alloc (Nat.le_refl _) _)
  have XA : B3 W (w.heap.size) (Value.bool s) (Value.slice A n c) (Value.slice A' n' c') := by subst hW; exact B3.new' _ _ _ _ _ rfl
  have hzW : W.heap.size = w.heap.size + 1 := by subst hW; simp
  clear hW
  have xa0 := XA.c0
  have xa1 := XA.c1
  have xa2 := XA.c2
  go_wp2_with (first
      | (go_at_call 46; (with_reducible refine (small_8 _ true HL.out).mono ?_); rintro e w_z ⟨rfl, hh⟩
         try replace XA := XA.below hh
         replace hb := bend hb hh
         have xa0 := XA.c0
         have xa1 := XA.c1
         have xa2 := XA.c2)
      | (go_at_call 47; (with_reducible refine (rwakes_any _).mono ?_); rintro e w_z ⟨rfl, hh⟩
         try replace XA := XA.below hh
         replace hb := bend hb hh))
  go_ret
  exact ⟨rfl, hb⟩
set_option maxRecDepth 100000 in
set_option maxHeartbeats 8000000 in
theorem brac_lo_neg {w : World} {s : Bool} {A A' : Option Addr} {n c n' c' : Nat} (j : Int) (hj : j < 0) {va : Rat} (a : QR w s A n c A' n' c' va 8) (hl : decide (n ≤ 8 ∧ n' ≤ 8) = true) (hv : va < 0) :
    Calls Tryz.prog 6 #[.agg #[.bool s, .slice A n c, .slice A' n' c'], .int .i64 j] w fun e w' => e = .returned (.bool true) ∧ Below w.heap.size w w' := by
  have HL := Lib.hid hl
  have HV := Lib.hid hv
  have hg1 : ¬ 300 < j := by omega
  have HJ : Hid (j < 0 ∨ 4096 < j) := .inl hj
  clear hl hv hj
  go_enter Tryz.func6, Tryz.ntmps6
  go_wp2_with fail
  generalize hW : (w.alloc (Obj.cells #[Value.bool s, Value.slice A n c, Value.slice A' n' c'] 26)) = W
  have hb : Below w.heap.size w W := by subst hW; exact ((Below.refl _ _).alloc (Nat.le_refl _) _)
  have XA : B3 W (w.heap.size) (Value.bool s) (Value.slice A n c) (Value.slice A' n' c') := by subst hW; exact B3.new' _ _ _ _ _ rfl
  have hzW : W.heap.size = w.heap.size + 1 := by subst hW; simp
  clear hW
  replace a := a.below hb
  have xa0 := XA.c0
  have xa1 := XA.c1
  have xa2 := XA.c2
  go_upto_region 4 with (first
      | (go_at_call 46; (with_reducible refine (small_8 _ true HL.out).mono ?_); rintro e w_z ⟨rfl, hh⟩
         try replace a := a.below hh
         try replace XA := XA.below hh
         replace hb := bend hb hh
         have xa0 := XA.c0
         have xa1 := XA.c1
         have xa2 := XA.c2)
      | (go_at_call 16; (with_reducible refine (rin3 a (by decide) (by decide)).mono ?_); rintro e w_x ⟨s_x_, A_x_, n_x_, c_x_, B_x_, m_x_, d_x_, rfl, x_, hh⟩
         try replace a := a.below hh
         try replace XA := XA.below hh
         replace hb := bend hb hh
         have xa0 := XA.c0
         have xa1 := XA.c1
         have xa2 := XA.c2))
  generalize hW : (w_x.alloc (Obj.cells #[Value.bool s_x_, Value.slice A_x_ n_x_ c_x_, Value.slice B_x_ m_x_ d_x_] 34)) = W2
  have hh : Below w_x.heap.size w_x W2 := by subst hW; exact ((Below.refl _ _).alloc (Nat.le_refl _) _)
  have XP : B3R W2 (w_x.heap.size) (Value.bool s_x_) (Value.slice A_x_ n_x_ c_x_) (Value.slice B_x_ m_x_ d_x_) := by subst hW; exact B3R.new' _ _ _ _ _ rfl
  have hzW2 : W2.heap.size = w_x.heap.size + 1 := by subst hW; simp
  clear hW
  try replace a := a.below hh
  try replace XA := XA.below hh
  try replace x_ := x_.below hh
  replace hb := bend hb hh
  have xa0 := XA.c0
  have xa1 := XA.c1
  have xa2 := XA.c2
  have xp0 := XP.c0
  have xp1 := XP.c1
  have xp2 := XP.c2
  go_upto_region 5 with (first
      | (go_at_call 48; (with_reducible refine (low_arg j HJ.out).mono ?_); rintro e w_l ⟨rfl, hh⟩
         try replace a := a.below hh
         try replace XA := XA.below hh
         try replace x_ := x_.below hh
         try replace XP := XP.below hh
         replace hb := bend hb hh
         have xa0 := XA.c0
         have xa1 := XA.c1
         have xa2 := XA.c2
         have xp0 := XP.c0
         have xp1 := XP.c1
         have xp2 := XP.c2))
  generalize hW : (w_l.alloc (Obj.cells #[Value.bool false, Value.slice none 0 0, Value.slice none 0 0] 26)) = W3
  have hh : Below w_l.heap.size w_l W3 := by subst hW; exact ((Below.refl _ _).alloc (Nat.le_refl _) _)
  have XL : B3 W3 (w_l.heap.size) (Value.bool false) (Value.slice none 0 0) (Value.slice none 0 0) := by subst hW; exact B3.new' _ _ _ _ _ rfl
  have hzW3 : W3.heap.size = w_l.heap.size + 1 := by subst hW; simp
  clear hW
  try replace a := a.below hh
  try replace XA := XA.below hh
  try replace x_ := x_.below hh
  try replace XP := XP.below hh
  replace hb := bend hb hh
  have xa0 := XA.c0
  have xa1 := XA.c1
  have xa2 := XA.c2
  have xp0 := XP.c0
  have xp1 := XP.c1
  have xp2 := XP.c2
  have xl0 := XL.c0
  have xl1 := XL.c1
  have xl2 := XL.c2
  go_upto_region 6 with (first
      | (go_at_call 49; (with_reducible refine (high_arg j HJ.out).mono ?_); rintro e w_h ⟨rfl, hh⟩
         try replace a := a.below hh
         try replace XA := XA.below hh
         try replace x_ := x_.below hh
         try replace XP := XP.below hh
         try replace XL := XL.below hh
         replace hb := bend hb hh
         have xa0 := XA.c0
         have xa1 := XA.c1
         have xa2 := XA.c2
         have xp0 := XP.c0
         have xp1 := XP.c1
         have xp2 := XP.c2
         have xl0 := XL.c0
         have xl1 := XL.c1
         have xl2 := XL.c2))
  generalize hW : (w_h.alloc (Obj.cells #[Value.bool false, Value.slice none 0 0, Value.slice none 0 0] 26)) = W4
  have hh : Below w_h.heap.size w_h W4 := by subst hW; exact ((Below.refl _ _).alloc (Nat.le_refl _) _)
  have XH : B3 W4 (w_h.heap.size) (Value.bool false) (Value.slice none 0 0) (Value.slice none 0 0) := by subst hW; exact B3.new' _ _ _ _ _ rfl
  have hzW4 : W4.heap.size = w_h.heap.size + 1 := by subst hW; simp
  clear hW
  try replace a := a.below hh
  try replace XA := XA.below hh
  try replace x_ := x_.below hh
  try replace XP := XP.below hh
  try replace XL := XL.below hh
  replace hb := bend hb hh
  have xa0 := XA.c0
  have xa1 := XA.c1
  have xa2 := XA.c2
  have xp0 := XP.c0
  have xp1 := XP.c1
  have xp2 := XP.c2
  have xl0 := XL.c0
  have xl1 := XL.c1
  have xl2 := XL.c2
  have xh0 := XH.c0
  have xh1 := XH.c1
  have xh2 := XH.c2
  go_upto_region 9 with (first
      | (go_at_call 50; (with_reducible refine (may_arg j HJ.out).mono ?_); rintro e w_z ⟨rfl, hh⟩
         try replace a := a.below hh
         try replace XA := XA.below hh
         try replace x_ := x_.below hh
         try replace XP := XP.below hh
         try replace XL := XL.below hh
         try replace XH := XH.below hh
         replace hb := bend hb hh
         have xa0 := XA.c0
         have xa1 := XA.c1
         have xa2 := XA.c2
         have xp0 := XP.c0
         have xp1 := XP.c1
         have xp2 := XP.c2
         have xl0 := XL.c0
         have xl1 := XL.c1
         have xl2 := XL.c2
         have xh0 := XH.c0
         have xh1 := XH.c1
         have xh2 := XH.c2))
  replace a := a.below (Below.refl _ _).drew
  replace XA := XA.below (Below.refl _ _).drew
  replace x_ := x_.below (Below.refl _ _).drew
  replace XP := XP.below (Below.refl _ _).drew
  replace XL := XL.below (Below.refl _ _).drew
  replace XH := XH.below (Below.refl _ _).drew
  replace hb := hb.drew
  refine wp_region_held_drew (S := (fun w' => w'.cell? ⟨w.heap.size, 0, none⟩ = some (.bool s) ∧ w'.cell? ⟨w.heap.size, 1, none⟩ = some (.slice A n c) ∧ w'.cell? ⟨w.heap.size, 2, none⟩ = some (.slice A' n' c') ∧ w'.cell? ⟨w_x.heap.size, 0, none⟩ = some (.bool s_x_) ∧ w'.cell? ⟨w_x.heap.size, 1, none⟩ = some (.slice A_x_ n_x_ c_x_) ∧ w'.cell? ⟨w_x.heap.size, 2, none⟩ = some (.slice B_x_ m_x_ d_x_) ∧ w'.cell? ⟨w_l.heap.size, 0, none⟩ = some (.bool false) ∧ w'.cell? ⟨w_l.heap.size, 1, none⟩ = some (.slice none 0 0) ∧ w'.cell? ⟨w_l.heap.size, 2, none⟩ = some (.slice none 0 0) ∧ w'.cell? ⟨w_h.heap.size, 0, none⟩ = some (.bool false) ∧ w'.cell? ⟨w_h.heap.size, 1, none⟩ = some (.slice none 0 0) ∧ w'.cell? ⟨w_h.heap.size, 2, none⟩ = some (.slice none 0 0))) (by kernel_rfl) ⟨XA.c0, XA.c1, XA.c2, XP.c0, XP.c1, XP.c2, XL.c0, XL.c1, XL.c2, XH.c0, XH.c1, XH.c2⟩ (fun hHeld => ?_)
  refine wpAnyH_take (i := 0) (oi := { dst := some 51, op := Op.move (Operand.tmp 10), type := 3, pos := "law.go:37", after := #[], guard := none }) (v := ?_) rfl (by kernel_rfl) (by kernel_rfl) (by kernel_rfl) (fun _ _ _ h => h) (Or.inl ⟨by rfl, ?_⟩) hHeld ?_
  rotate_left
  · (intro w hSw; (try dsimp only at hSw); go_simp; try with_reducible rfl)
  simp only [Act.put, List.setIfInBounds_toArray, List.set_cons_zero, List.set_cons_succ]
  refine wpAnyH_take (i := 1) (oi := { dst := some 52, op := Op.binOp BinOp.eql 3 (Operand.tmp 51) (Operand.const (Value.int IntKind.i64 0)) 3, type := 4, pos := "law.go:37", after := #[{ on := 0, ground := Ground.data }], guard := none }) (v := ?_) rfl (by kernel_rfl) (by kernel_rfl) (by kernel_rfl) (fun _ _ _ h => h) (Or.inl ⟨by rfl, ?_⟩) hHeld ?_
  rotate_left
  · (intro w hSw; (try dsimp only at hSw); go_simp; try with_reducible rfl)
  simp only [Act.put, List.setIfInBounds_toArray, List.set_cons_zero, List.set_cons_succ]
  refine wpAnyH_take (i := 2) (oi := { dst := some 53, op := Op.move (Operand.tmp 52), type := 4, pos := "law.go:37", after := #[{ on := 1, ground := Ground.data }], guard := none }) (v := ?_) rfl (by kernel_rfl) (by kernel_rfl) (by kernel_rfl) (fun _ _ _ h => h) (Or.inl ⟨by rfl, ?_⟩) hHeld ?_
  rotate_left
  · (intro w hSw; (try dsimp only at hSw); go_simp; try with_reducible rfl)
  simp only [Act.put, List.setIfInBounds_toArray, List.set_cons_zero, List.set_cons_succ]
  refine wpAnyH_take (i := 3) (oi := { dst := some 54, op := Op.load 26 (Operand.tmp 6), type := 26, pos := "law.go:37", after := #[{ on := 2, ground := Ground.guard }], guard := some (2, true) }) (v := undef) rfl (by kernel_rfl) (by kernel_rfl) (by kernel_rfl) (fun _ _ _ h => h) (Or.inr ⟨by rfl, rfl⟩) hHeld ?_
  simp only [Act.put, List.setIfInBounds_toArray, List.set_cons_zero, List.set_cons_succ]
  refine wpAnyH_take (i := 4) (oi := { dst := some 55, op := Op.load 34 (Operand.tmp 5), type := 34, pos := "law.go:37", after := #[{ on := 2, ground := Ground.guard }], guard := some (2, true) }) (v := undef) rfl (by kernel_rfl) (by kernel_rfl) (by kernel_rfl) (fun _ _ _ h => h) (Or.inr ⟨by rfl, rfl⟩) hHeld ?_
  simp only [Act.put, List.setIfInBounds_toArray, List.set_cons_zero, List.set_cons_succ]
  refine wpAnyH_take (i := 5) (oi := { dst := some 56, op := Op.move (Operand.tmp 1), type := 3, pos := "law.go:37", after := #[{ on := 2, ground := Ground.guard }], guard := some (2, true) }) (v := undef) rfl (by kernel_rfl) (by kernel_rfl) (by kernel_rfl) (fun _ _ _ h => h) (Or.inr ⟨by rfl, rfl⟩) hHeld ?_
  simp only [Act.put, List.setIfInBounds_toArray, List.set_cons_zero, List.set_cons_succ]
  refine wpAnyH_take (i := 6) (oi := { dst := some 57, op := Op.call { callee := Callee.value (Operand.func 51), args := #[Operand.tmp 55, Operand.tmp 56], argTypes := #[34, 3] }, type := 34, pos := "law.go:37", after := #[{ on := 4, ground := Ground.data }, { on := 5, ground := Ground.data }, { on := 2, ground := Ground.chain }, { on := 2, ground := Ground.guard }], guard := some (2, true) }) (v := undef) rfl (by kernel_rfl) (by kernel_rfl) (by kernel_rfl) (fun _ _ _ h => h) (Or.inr ⟨by rfl, rfl⟩) hHeld ?_
  simp only [Act.put, List.setIfInBounds_toArray, List.set_cons_zero, List.set_cons_succ]
  refine wpAnyH_take (i := 7) (oi := { dst := some 58, op := Op.call { callee := Callee.value (Operand.func 20), args := #[Operand.tmp 54, Operand.tmp 57], argTypes := #[26, 34] }, type := 4, pos := "law.go:37", after := #[{ on := 3, ground := Ground.data }, { on := 6, ground := Ground.data }, { on := 6, ground := Ground.chain }, { on := 2, ground := Ground.guard }], guard := some (2, true) }) (v := undef) rfl (by kernel_rfl) (by kernel_rfl) (by kernel_rfl) (fun _ _ _ h => h) (Or.inr ⟨by rfl, rfl⟩) hHeld ?_
  simp only [Act.put, List.setIfInBounds_toArray, List.set_cons_zero, List.set_cons_succ]
  refine wpAnyH_take (i := 8) (oi := { dst := some 59, op := Op.unOp UnOp.not 4 (Operand.tmp 58), type := 4, pos := "law.go:37", after := #[{ on := 7, ground := Ground.data }, { on := 2, ground := Ground.guard }], guard := some (2, true) }) (v := undef) rfl (by kernel_rfl) (by kernel_rfl) (by kernel_rfl) (fun _ _ _ h => h) (Or.inr ⟨by rfl, rfl⟩) hHeld ?_
  simp only [Act.put, List.setIfInBounds_toArray, List.set_cons_zero, List.set_cons_succ]
  refine wpAnyH_take (i := 9) (oi := { dst := some 60, op := Op.move (Operand.tmp 59), type := 4, pos := "law.go:37", after := #[{ on := 8, ground := Ground.data }, { on := 7, ground := Ground.chain }, { on := 2, ground := Ground.guard }], guard := some (2, true) }) (v := undef) rfl (by kernel_rfl) (by kernel_rfl) (by kernel_rfl) (fun _ _ _ h => h) (Or.inr ⟨by rfl, rfl⟩) hHeld ?_
  simp only [Act.put, List.setIfInBounds_toArray, List.set_cons_zero, List.set_cons_succ]
  refine wpAnyH_take (i := 10) (oi := { dst := some 61, op := Op.load 26 (Operand.tmp 8), type := 26, pos := "law.go:37", after := #[{ on := 9, ground := Ground.guard }], guard := some (9, false) }) (v := undef) rfl (by kernel_rfl) (by kernel_rfl) (by kernel_rfl) (fun _ _ _ h => h) (Or.inr ⟨by rfl, rfl⟩) hHeld ?_
  simp only [Act.put, List.setIfInBounds_toArray, List.set_cons_zero, List.set_cons_succ]
  refine wpAnyH_take (i := 11) (oi := { dst := some 62, op := Op.load 34 (Operand.tmp 5), type := 34, pos := "law.go:37", after := #[{ on := 9, ground := Ground.guard }], guard := some (9, false) }) (v := undef) rfl (by kernel_rfl) (by kernel_rfl) (by kernel_rfl) (fun _ _ _ h => h) (Or.inr ⟨by rfl, rfl⟩) hHeld ?_
  simp only [Act.put, List.setIfInBounds_toArray, List.set_cons_zero, List.set_cons_succ]
  refine wpAnyH_take (i := 12) (oi := { dst := some 63, op := Op.move (Operand.tmp 1), type := 3, pos := "law.go:37", after := #[{ on := 9, ground := Ground.guard }], guard := some (9, false) }) (v := undef) rfl (by kernel_rfl) (by kernel_rfl) (by kernel_rfl) (fun _ _ _ h => h) (Or.inr ⟨by rfl, rfl⟩) hHeld ?_
  simp only [Act.put, List.setIfInBounds_toArray, List.set_cons_zero, List.set_cons_succ]
  refine wpAnyH_take (i := 13) (oi := { dst := some 64, op := Op.call { callee := Callee.value (Operand.func 52), args := #[Operand.tmp 62, Operand.tmp 63], argTypes := #[34, 3] }, type := 34, pos := "law.go:37", after := #[{ on := 11, ground := Ground.data }, { on := 12, ground := Ground.data }, { on := 9, ground := Ground.chain }, { on := 9, ground := Ground.guard }], guard := some (9, false) }) (v := undef) rfl (by kernel_rfl) (by kernel_rfl) (by kernel_rfl) (fun _ _ _ h => h) (Or.inr ⟨by rfl, rfl⟩) hHeld ?_
  simp only [Act.put, List.setIfInBounds_toArray, List.set_cons_zero, List.set_cons_succ]
  refine wpAnyH_take (i := 14) (oi := { dst := some 65, op := Op.call { callee := Callee.value (Operand.func 20), args := #[Operand.tmp 61, Operand.tmp 64], argTypes := #[26, 34] }, type := 4, pos := "law.go:37", after := #[{ on := 10, ground := Ground.data }, { on := 13, ground := Ground.data }, { on := 13, ground := Ground.chain }, { on := 9, ground := Ground.guard }], guard := some (9, false) }) (v := undef) rfl (by kernel_rfl) (by kernel_rfl) (by kernel_rfl) (fun _ _ _ h => h) (Or.inr ⟨by rfl, rfl⟩) hHeld ?_
  simp only [Act.put, List.setIfInBounds_toArray, List.set_cons_zero, List.set_cons_succ]
  refine wpAnyH_take (i := 15) (oi := { dst := some 66, op := Op.unOp UnOp.not 4 (Operand.tmp 65), type := 4, pos := "law.go:37", after := #[{ on := 14, ground := Ground.data }, { on := 9, ground := Ground.guard }], guard := some (9, false) }) (v := undef) rfl (by kernel_rfl) (by kernel_rfl) (by kernel_rfl) (fun _ _ _ h => h) (Or.inr ⟨by rfl, rfl⟩) hHeld ?_
  simp only [Act.put, List.setIfInBounds_toArray, List.set_cons_zero, List.set_cons_succ]
  refine wpAnyH_take (i := 16) (oi := { dst := some 67, op := Op.pick (Operand.tmp 60) (Operand.const (Value.bool true)) (Operand.tmp 66), type := 4, pos := "law.go:37", after := #[{ on := 9, ground := Ground.data }, { on := 15, ground := Ground.data }, { on := 2, ground := Ground.guard }], guard := some (2, true) }) (v := undef) rfl (by kernel_rfl) (by kernel_rfl) (by kernel_rfl) (fun _ _ _ h => h) (Or.inr ⟨by rfl, rfl⟩) hHeld ?_
  simp only [Act.put, List.setIfInBounds_toArray, List.set_cons_zero, List.set_cons_succ]
  refine wpAnyH_take (i := 17) (oi := { dst := some 68, op := Op.pick (Operand.tmp 53) (Operand.tmp 67) (Operand.const (Value.bool false)), type := 4, pos := "law.go:37", after := #[{ on := 2, ground := Ground.data }, { on := 16, ground := Ground.data }], guard := none }) (v := ?_) rfl (by kernel_rfl) (by kernel_rfl) (by kernel_rfl) (fun _ _ _ h => h) (Or.inl ⟨by rfl, ?_⟩) hHeld ?_
  rotate_left
  · (intro w hSw; (try dsimp only at hSw); go_simp; try with_reducible rfl)
  simp only [Act.put, List.setIfInBounds_toArray, List.set_cons_zero, List.set_cons_succ]
  refine wpAnyH_done (by kernel_rfl) ?_ _
  clear hHeld
  have xa0 := XA.c0
  have xa1 := XA.c1
  have xa2 := XA.c2
  have xp0 := XP.c0
  have xp1 := XP.c1
  have xp2 := XP.c2
  have xl0 := XL.c0
  have xl1 := XL.c1
  have xl2 := XL.c2
  have xh0 := XH.c0
  have xh1 := XH.c1
  have xh2 := XH.c2
  go_upto_region 12 with (first
      | (go_at_call 53; (with_reducible refine (exact_neg a HV.out (by decide) (by decide)).mono ?_); rintro e w_c ⟨rfl, hh⟩
         try replace a := a.below hh
         try replace XA := XA.below hh
         try replace x_ := x_.below hh
         try replace XP := XP.below hh
         try replace XL := XL.below hh
         try replace XH := XH.below hh
         replace hb := bend hb hh
         have xa0 := XA.c0
         have xa1 := XA.c1
         have xa2 := XA.c2
         have xp0 := XP.c0
         have xp1 := XP.c1
         have xp2 := XP.c2
         have xl0 := XL.c0
         have xl1 := XL.c1
         have xl2 := XL.c2
         have xh0 := XH.c0
         have xh1 := XH.c1
         have xh2 := XH.c2))
  generalize hW : (w_c.alloc (Obj.cells #[Value.bool false, Value.slice none 0 0, Value.slice none 0 0] 26)) = W5
  have hh : Below w_c.heap.size w_c W5 := by subst hW; exact ((Below.refl _ _).alloc (Nat.le_refl _) _)
  have XC : B3 W5 (w_c.heap.size) (Value.bool false) (Value.slice none 0 0) (Value.slice none 0 0) := by subst hW; exact B3.new' _ _ _ _ _ rfl
  have hzW5 : W5.heap.size = w_c.heap.size + 1 := by subst hW; simp
  clear hW
  try replace a := a.below hh
  try replace XA := XA.below hh
  try replace x_ := x_.below hh
  try replace XP := XP.below hh
  try replace XL := XL.below hh
  try replace XH := XH.below hh
  replace hb := bend hb hh
  have xa0 := XA.c0
  have xa1 := XA.c1
  have xa2 := XA.c2
  have xp0 := XP.c0
  have xp1 := XP.c1
  have xp2 := XP.c2
  have xl0 := XL.c0
  have xl1 := XL.c1
  have xl2 := XL.c2
  have xh0 := XH.c0
  have xh1 := XH.c1
  have xh2 := XH.c2
  have xc0 := XC.c0
  have xc1 := XC.c1
  have xc2 := XC.c2
  go_upto_region 13 with (first
      | (go_at_call 54; (with_reducible refine (of_neg x_ HV.out).mono ?_); rintro e w_e ⟨rfl, hh⟩
         try replace a := a.below hh
         try replace XA := XA.below hh
         try replace x_ := x_.below hh
         try replace XP := XP.below hh
         try replace XL := XL.below hh
         try replace XH := XH.below hh
         try replace XC := XC.below hh
         replace hb := bend hb hh
         have xa0 := XA.c0
         have xa1 := XA.c1
         have xa2 := XA.c2
         have xp0 := XP.c0
         have xp1 := XP.c1
         have xp2 := XP.c2
         have xl0 := XL.c0
         have xl1 := XL.c1
         have xl2 := XL.c2
         have xh0 := XH.c0
         have xh1 := XH.c1
         have xh2 := XH.c2
         have xc0 := XC.c0
         have xc1 := XC.c1
         have xc2 := XC.c2))
  generalize hW : (w_e.alloc (Obj.cells #[Value.bool false, Value.slice none 0 0, Value.slice none 0 0, Value.bool false] 70)) = W6
  have hh : Below w_e.heap.size w_e W6 := by subst hW; exact ((Below.refl _ _).alloc (Nat.le_refl _) _)
  have XE : B4E W6 (w_e.heap.size) (Value.bool false) (Value.slice none 0 0) (Value.slice none 0 0) (Value.bool false) := by subst hW; exact B4E.new' _ _ _ _ _ _ rfl
  have hzW6 : W6.heap.size = w_e.heap.size + 1 := by subst hW; simp
  clear hW
  try replace a := a.below hh
  try replace XA := XA.below hh
  try replace x_ := x_.below hh
  try replace XP := XP.below hh
  try replace XL := XL.below hh
  try replace XH := XH.below hh
  try replace XC := XC.below hh
  replace hb := bend hb hh
  have xa0 := XA.c0
  have xa1 := XA.c1
  have xa2 := XA.c2
  have xp0 := XP.c0
  have xp1 := XP.c1
  have xp2 := XP.c2
  have xl0 := XL.c0
  have xl1 := XL.c1
  have xl2 := XL.c2
  have xh0 := XH.c0
  have xh1 := XH.c1
  have xh2 := XH.c2
  have xc0 := XC.c0
  have xc1 := XC.c1
  have xc2 := XC.c2
  have xe0 := XE.c0
  have xe1 := XE.c1
  have xe2 := XE.c2
  have xe3 := XE.c3
  go_wp2_with (first
      | (go_at_call 47; (with_reducible refine (rwakes_any _).mono ?_); rintro e w_z ⟨rfl, hh⟩
         try replace a := a.below hh
         try replace XA := XA.below hh
         try replace x_ := x_.below hh
         try replace XP := XP.below hh
         try replace XL := XL.below hh
         try replace XH := XH.below hh
         try replace XC := XC.below hh
         try replace XE := XE.below hh
         replace hb := bend hb hh))
  go_ret
  exact ⟨rfl, hb⟩
set_option maxRecDepth 100000 in
set_option maxHeartbeats 8000000 in
theorem brac_lo_not {w : World} {s : Bool} {A A' : Option Addr} {n c n' c' : Nat} (j : Int) (hj : j < 0) {va : Rat} (a : QR w s A n c A' n' c' va 8) (hl : decide (n ≤ 8 ∧ n' ≤ 8) = true) (hv : 0 ≤ va) (hs : ¬ (IsSq va.num.natAbs ∧ IsSq va.den)) :
    Calls Tryz.prog 6 #[.agg #[.bool s, .slice A n c, .slice A' n' c'], .int .i64 j] w fun e w' => e = .returned (.bool true) ∧ Below w.heap.size w w' := by
  have HL := Lib.hid hl
  have HV := Lib.hid hv
  have HS := Lib.hid hs
  clear hs
  have hg1 : ¬ 300 < j := by omega
  have HJ : Hid (j < 0 ∨ 4096 < j) := .inl hj
  clear hl hv hj
  go_enter Tryz.func6, Tryz.ntmps6
  go_wp2_with fail
  generalize hW : (w.alloc (Obj.cells #[Value.bool s, Value.slice A n c, Value.slice A' n' c'] 26)) = W
  have hb : Below w.heap.size w W := by subst hW; exact ((Below.refl _ _).alloc (Nat.le_refl _) _)
  have XA : B3 W (w.heap.size) (Value.bool s) (Value.slice A n c) (Value.slice A' n' c') := by subst hW; exact B3.new' _ _ _ _ _ rfl
  have hzW : W.heap.size = w.heap.size + 1 := by subst hW; simp
  clear hW
  replace a := a.below hb
  have xa0 := XA.c0
  have xa1 := XA.c1
  have xa2 := XA.c2
  go_upto_region 4 with (first
      | (go_at_call 46; (with_reducible refine (small_8 _ true HL.out).mono ?_); rintro e w_z ⟨rfl, hh⟩
         try replace a := a.below hh
         try replace XA := XA.below hh
         replace hb := bend hb hh
         have xa0 := XA.c0
         have xa1 := XA.c1
         have xa2 := XA.c2)
      | (go_at_call 16; (with_reducible refine (rin3 a (by decide) (by decide)).mono ?_); rintro e w_x ⟨s_x_, A_x_, n_x_, c_x_, B_x_, m_x_, d_x_, rfl, x_, hh⟩
         try replace a := a.below hh
         try replace XA := XA.below hh
         replace hb := bend hb hh
         have xa0 := XA.c0
         have xa1 := XA.c1
         have xa2 := XA.c2))
  generalize hW : (w_x.alloc (Obj.cells #[Value.bool s_x_, Value.slice A_x_ n_x_ c_x_, Value.slice B_x_ m_x_ d_x_] 34)) = W2
  have hh : Below w_x.heap.size w_x W2 := by subst hW; exact ((Below.refl _ _).alloc (Nat.le_refl _) _)
  have XP : B3R W2 (w_x.heap.size) (Value.bool s_x_) (Value.slice A_x_ n_x_ c_x_) (Value.slice B_x_ m_x_ d_x_) := by subst hW; exact B3R.new' _ _ _ _ _ rfl
  have hzW2 : W2.heap.size = w_x.heap.size + 1 := by subst hW; simp
  clear hW
  try replace a := a.below hh
  try replace XA := XA.below hh
  try replace x_ := x_.below hh
  replace hb := bend hb hh
  have xa0 := XA.c0
  have xa1 := XA.c1
  have xa2 := XA.c2
  have xp0 := XP.c0
  have xp1 := XP.c1
  have xp2 := XP.c2
  go_upto_region 5 with (first
      | (go_at_call 48; (with_reducible refine (low_arg j HJ.out).mono ?_); rintro e w_l ⟨rfl, hh⟩
         try replace a := a.below hh
         try replace XA := XA.below hh
         try replace x_ := x_.below hh
         try replace XP := XP.below hh
         replace hb := bend hb hh
         have xa0 := XA.c0
         have xa1 := XA.c1
         have xa2 := XA.c2
         have xp0 := XP.c0
         have xp1 := XP.c1
         have xp2 := XP.c2))
  generalize hW : (w_l.alloc (Obj.cells #[Value.bool false, Value.slice none 0 0, Value.slice none 0 0] 26)) = W3
  have hh : Below w_l.heap.size w_l W3 := by subst hW; exact ((Below.refl _ _).alloc (Nat.le_refl _) _)
  have XL : B3 W3 (w_l.heap.size) (Value.bool false) (Value.slice none 0 0) (Value.slice none 0 0) := by subst hW; exact B3.new' _ _ _ _ _ rfl
  have hzW3 : W3.heap.size = w_l.heap.size + 1 := by subst hW; simp
  clear hW
  try replace a := a.below hh
  try replace XA := XA.below hh
  try replace x_ := x_.below hh
  try replace XP := XP.below hh
  replace hb := bend hb hh
  have xa0 := XA.c0
  have xa1 := XA.c1
  have xa2 := XA.c2
  have xp0 := XP.c0
  have xp1 := XP.c1
  have xp2 := XP.c2
  have xl0 := XL.c0
  have xl1 := XL.c1
  have xl2 := XL.c2
  go_upto_region 6 with (first
      | (go_at_call 49; (with_reducible refine (high_arg j HJ.out).mono ?_); rintro e w_h ⟨rfl, hh⟩
         try replace a := a.below hh
         try replace XA := XA.below hh
         try replace x_ := x_.below hh
         try replace XP := XP.below hh
         try replace XL := XL.below hh
         replace hb := bend hb hh
         have xa0 := XA.c0
         have xa1 := XA.c1
         have xa2 := XA.c2
         have xp0 := XP.c0
         have xp1 := XP.c1
         have xp2 := XP.c2
         have xl0 := XL.c0
         have xl1 := XL.c1
         have xl2 := XL.c2))
  generalize hW : (w_h.alloc (Obj.cells #[Value.bool false, Value.slice none 0 0, Value.slice none 0 0] 26)) = W4
  have hh : Below w_h.heap.size w_h W4 := by subst hW; exact ((Below.refl _ _).alloc (Nat.le_refl _) _)
  have XH : B3 W4 (w_h.heap.size) (Value.bool false) (Value.slice none 0 0) (Value.slice none 0 0) := by subst hW; exact B3.new' _ _ _ _ _ rfl
  have hzW4 : W4.heap.size = w_h.heap.size + 1 := by subst hW; simp
  clear hW
  try replace a := a.below hh
  try replace XA := XA.below hh
  try replace x_ := x_.below hh
  try replace XP := XP.below hh
  try replace XL := XL.below hh
  replace hb := bend hb hh
  have xa0 := XA.c0
  have xa1 := XA.c1
  have xa2 := XA.c2
  have xp0 := XP.c0
  have xp1 := XP.c1
  have xp2 := XP.c2
  have xl0 := XL.c0
  have xl1 := XL.c1
  have xl2 := XL.c2
  have xh0 := XH.c0
  have xh1 := XH.c1
  have xh2 := XH.c2
  go_upto_region 9 with (first
      | (go_at_call 50; (with_reducible refine (may_arg j HJ.out).mono ?_); rintro e w_z ⟨rfl, hh⟩
         try replace a := a.below hh
         try replace XA := XA.below hh
         try replace x_ := x_.below hh
         try replace XP := XP.below hh
         try replace XL := XL.below hh
         try replace XH := XH.below hh
         replace hb := bend hb hh
         have xa0 := XA.c0
         have xa1 := XA.c1
         have xa2 := XA.c2
         have xp0 := XP.c0
         have xp1 := XP.c1
         have xp2 := XP.c2
         have xl0 := XL.c0
         have xl1 := XL.c1
         have xl2 := XL.c2
         have xh0 := XH.c0
         have xh1 := XH.c1
         have xh2 := XH.c2))
  replace a := a.below (Below.refl _ _).drew
  replace XA := XA.below (Below.refl _ _).drew
  replace x_ := x_.below (Below.refl _ _).drew
  replace XP := XP.below (Below.refl _ _).drew
  replace XL := XL.below (Below.refl _ _).drew
  replace XH := XH.below (Below.refl _ _).drew
  replace hb := hb.drew
  refine wp_region_held_drew (S := (fun w' => w'.cell? ⟨w.heap.size, 0, none⟩ = some (.bool s) ∧ w'.cell? ⟨w.heap.size, 1, none⟩ = some (.slice A n c) ∧ w'.cell? ⟨w.heap.size, 2, none⟩ = some (.slice A' n' c') ∧ w'.cell? ⟨w_x.heap.size, 0, none⟩ = some (.bool s_x_) ∧ w'.cell? ⟨w_x.heap.size, 1, none⟩ = some (.slice A_x_ n_x_ c_x_) ∧ w'.cell? ⟨w_x.heap.size, 2, none⟩ = some (.slice B_x_ m_x_ d_x_) ∧ w'.cell? ⟨w_l.heap.size, 0, none⟩ = some (.bool false) ∧ w'.cell? ⟨w_l.heap.size, 1, none⟩ = some (.slice none 0 0) ∧ w'.cell? ⟨w_l.heap.size, 2, none⟩ = some (.slice none 0 0) ∧ w'.cell? ⟨w_h.heap.size, 0, none⟩ = some (.bool false) ∧ w'.cell? ⟨w_h.heap.size, 1, none⟩ = some (.slice none 0 0) ∧ w'.cell? ⟨w_h.heap.size, 2, none⟩ = some (.slice none 0 0))) (by kernel_rfl) ⟨XA.c0, XA.c1, XA.c2, XP.c0, XP.c1, XP.c2, XL.c0, XL.c1, XL.c2, XH.c0, XH.c1, XH.c2⟩ (fun hHeld => ?_)
  refine wpAnyH_take (i := 0) (oi := { dst := some 51, op := Op.move (Operand.tmp 10), type := 3, pos := "law.go:37", after := #[], guard := none }) (v := ?_) rfl (by kernel_rfl) (by kernel_rfl) (by kernel_rfl) (fun _ _ _ h => h) (Or.inl ⟨by rfl, ?_⟩) hHeld ?_
  rotate_left
  · (intro w hSw; (try dsimp only at hSw); go_simp; try with_reducible rfl)
  simp only [Act.put, List.setIfInBounds_toArray, List.set_cons_zero, List.set_cons_succ]
  refine wpAnyH_take (i := 1) (oi := { dst := some 52, op := Op.binOp BinOp.eql 3 (Operand.tmp 51) (Operand.const (Value.int IntKind.i64 0)) 3, type := 4, pos := "law.go:37", after := #[{ on := 0, ground := Ground.data }], guard := none }) (v := ?_) rfl (by kernel_rfl) (by kernel_rfl) (by kernel_rfl) (fun _ _ _ h => h) (Or.inl ⟨by rfl, ?_⟩) hHeld ?_
  rotate_left
  · (intro w hSw; (try dsimp only at hSw); go_simp; try with_reducible rfl)
  simp only [Act.put, List.setIfInBounds_toArray, List.set_cons_zero, List.set_cons_succ]
  refine wpAnyH_take (i := 2) (oi := { dst := some 53, op := Op.move (Operand.tmp 52), type := 4, pos := "law.go:37", after := #[{ on := 1, ground := Ground.data }], guard := none }) (v := ?_) rfl (by kernel_rfl) (by kernel_rfl) (by kernel_rfl) (fun _ _ _ h => h) (Or.inl ⟨by rfl, ?_⟩) hHeld ?_
  rotate_left
  · (intro w hSw; (try dsimp only at hSw); go_simp; try with_reducible rfl)
  simp only [Act.put, List.setIfInBounds_toArray, List.set_cons_zero, List.set_cons_succ]
  refine wpAnyH_take (i := 3) (oi := { dst := some 54, op := Op.load 26 (Operand.tmp 6), type := 26, pos := "law.go:37", after := #[{ on := 2, ground := Ground.guard }], guard := some (2, true) }) (v := undef) rfl (by kernel_rfl) (by kernel_rfl) (by kernel_rfl) (fun _ _ _ h => h) (Or.inr ⟨by rfl, rfl⟩) hHeld ?_
  simp only [Act.put, List.setIfInBounds_toArray, List.set_cons_zero, List.set_cons_succ]
  refine wpAnyH_take (i := 4) (oi := { dst := some 55, op := Op.load 34 (Operand.tmp 5), type := 34, pos := "law.go:37", after := #[{ on := 2, ground := Ground.guard }], guard := some (2, true) }) (v := undef) rfl (by kernel_rfl) (by kernel_rfl) (by kernel_rfl) (fun _ _ _ h => h) (Or.inr ⟨by rfl, rfl⟩) hHeld ?_
  simp only [Act.put, List.setIfInBounds_toArray, List.set_cons_zero, List.set_cons_succ]
  refine wpAnyH_take (i := 5) (oi := { dst := some 56, op := Op.move (Operand.tmp 1), type := 3, pos := "law.go:37", after := #[{ on := 2, ground := Ground.guard }], guard := some (2, true) }) (v := undef) rfl (by kernel_rfl) (by kernel_rfl) (by kernel_rfl) (fun _ _ _ h => h) (Or.inr ⟨by rfl, rfl⟩) hHeld ?_
  simp only [Act.put, List.setIfInBounds_toArray, List.set_cons_zero, List.set_cons_succ]
  refine wpAnyH_take (i := 6) (oi := { dst := some 57, op := Op.call { callee := Callee.value (Operand.func 51), args := #[Operand.tmp 55, Operand.tmp 56], argTypes := #[34, 3] }, type := 34, pos := "law.go:37", after := #[{ on := 4, ground := Ground.data }, { on := 5, ground := Ground.data }, { on := 2, ground := Ground.chain }, { on := 2, ground := Ground.guard }], guard := some (2, true) }) (v := undef) rfl (by kernel_rfl) (by kernel_rfl) (by kernel_rfl) (fun _ _ _ h => h) (Or.inr ⟨by rfl, rfl⟩) hHeld ?_
  simp only [Act.put, List.setIfInBounds_toArray, List.set_cons_zero, List.set_cons_succ]
  refine wpAnyH_take (i := 7) (oi := { dst := some 58, op := Op.call { callee := Callee.value (Operand.func 20), args := #[Operand.tmp 54, Operand.tmp 57], argTypes := #[26, 34] }, type := 4, pos := "law.go:37", after := #[{ on := 3, ground := Ground.data }, { on := 6, ground := Ground.data }, { on := 6, ground := Ground.chain }, { on := 2, ground := Ground.guard }], guard := some (2, true) }) (v := undef) rfl (by kernel_rfl) (by kernel_rfl) (by kernel_rfl) (fun _ _ _ h => h) (Or.inr ⟨by rfl, rfl⟩) hHeld ?_
  simp only [Act.put, List.setIfInBounds_toArray, List.set_cons_zero, List.set_cons_succ]
  refine wpAnyH_take (i := 8) (oi := { dst := some 59, op := Op.unOp UnOp.not 4 (Operand.tmp 58), type := 4, pos := "law.go:37", after := #[{ on := 7, ground := Ground.data }, { on := 2, ground := Ground.guard }], guard := some (2, true) }) (v := undef) rfl (by kernel_rfl) (by kernel_rfl) (by kernel_rfl) (fun _ _ _ h => h) (Or.inr ⟨by rfl, rfl⟩) hHeld ?_
  simp only [Act.put, List.setIfInBounds_toArray, List.set_cons_zero, List.set_cons_succ]
  refine wpAnyH_take (i := 9) (oi := { dst := some 60, op := Op.move (Operand.tmp 59), type := 4, pos := "law.go:37", after := #[{ on := 8, ground := Ground.data }, { on := 7, ground := Ground.chain }, { on := 2, ground := Ground.guard }], guard := some (2, true) }) (v := undef) rfl (by kernel_rfl) (by kernel_rfl) (by kernel_rfl) (fun _ _ _ h => h) (Or.inr ⟨by rfl, rfl⟩) hHeld ?_
  simp only [Act.put, List.setIfInBounds_toArray, List.set_cons_zero, List.set_cons_succ]
  refine wpAnyH_take (i := 10) (oi := { dst := some 61, op := Op.load 26 (Operand.tmp 8), type := 26, pos := "law.go:37", after := #[{ on := 9, ground := Ground.guard }], guard := some (9, false) }) (v := undef) rfl (by kernel_rfl) (by kernel_rfl) (by kernel_rfl) (fun _ _ _ h => h) (Or.inr ⟨by rfl, rfl⟩) hHeld ?_
  simp only [Act.put, List.setIfInBounds_toArray, List.set_cons_zero, List.set_cons_succ]
  refine wpAnyH_take (i := 11) (oi := { dst := some 62, op := Op.load 34 (Operand.tmp 5), type := 34, pos := "law.go:37", after := #[{ on := 9, ground := Ground.guard }], guard := some (9, false) }) (v := undef) rfl (by kernel_rfl) (by kernel_rfl) (by kernel_rfl) (fun _ _ _ h => h) (Or.inr ⟨by rfl, rfl⟩) hHeld ?_
  simp only [Act.put, List.setIfInBounds_toArray, List.set_cons_zero, List.set_cons_succ]
  refine wpAnyH_take (i := 12) (oi := { dst := some 63, op := Op.move (Operand.tmp 1), type := 3, pos := "law.go:37", after := #[{ on := 9, ground := Ground.guard }], guard := some (9, false) }) (v := undef) rfl (by kernel_rfl) (by kernel_rfl) (by kernel_rfl) (fun _ _ _ h => h) (Or.inr ⟨by rfl, rfl⟩) hHeld ?_
  simp only [Act.put, List.setIfInBounds_toArray, List.set_cons_zero, List.set_cons_succ]
  refine wpAnyH_take (i := 13) (oi := { dst := some 64, op := Op.call { callee := Callee.value (Operand.func 52), args := #[Operand.tmp 62, Operand.tmp 63], argTypes := #[34, 3] }, type := 34, pos := "law.go:37", after := #[{ on := 11, ground := Ground.data }, { on := 12, ground := Ground.data }, { on := 9, ground := Ground.chain }, { on := 9, ground := Ground.guard }], guard := some (9, false) }) (v := undef) rfl (by kernel_rfl) (by kernel_rfl) (by kernel_rfl) (fun _ _ _ h => h) (Or.inr ⟨by rfl, rfl⟩) hHeld ?_
  simp only [Act.put, List.setIfInBounds_toArray, List.set_cons_zero, List.set_cons_succ]
  refine wpAnyH_take (i := 14) (oi := { dst := some 65, op := Op.call { callee := Callee.value (Operand.func 20), args := #[Operand.tmp 61, Operand.tmp 64], argTypes := #[26, 34] }, type := 4, pos := "law.go:37", after := #[{ on := 10, ground := Ground.data }, { on := 13, ground := Ground.data }, { on := 13, ground := Ground.chain }, { on := 9, ground := Ground.guard }], guard := some (9, false) }) (v := undef) rfl (by kernel_rfl) (by kernel_rfl) (by kernel_rfl) (fun _ _ _ h => h) (Or.inr ⟨by rfl, rfl⟩) hHeld ?_
  simp only [Act.put, List.setIfInBounds_toArray, List.set_cons_zero, List.set_cons_succ]
  refine wpAnyH_take (i := 15) (oi := { dst := some 66, op := Op.unOp UnOp.not 4 (Operand.tmp 65), type := 4, pos := "law.go:37", after := #[{ on := 14, ground := Ground.data }, { on := 9, ground := Ground.guard }], guard := some (9, false) }) (v := undef) rfl (by kernel_rfl) (by kernel_rfl) (by kernel_rfl) (fun _ _ _ h => h) (Or.inr ⟨by rfl, rfl⟩) hHeld ?_
  simp only [Act.put, List.setIfInBounds_toArray, List.set_cons_zero, List.set_cons_succ]
  refine wpAnyH_take (i := 16) (oi := { dst := some 67, op := Op.pick (Operand.tmp 60) (Operand.const (Value.bool true)) (Operand.tmp 66), type := 4, pos := "law.go:37", after := #[{ on := 9, ground := Ground.data }, { on := 15, ground := Ground.data }, { on := 2, ground := Ground.guard }], guard := some (2, true) }) (v := undef) rfl (by kernel_rfl) (by kernel_rfl) (by kernel_rfl) (fun _ _ _ h => h) (Or.inr ⟨by rfl, rfl⟩) hHeld ?_
  simp only [Act.put, List.setIfInBounds_toArray, List.set_cons_zero, List.set_cons_succ]
  refine wpAnyH_take (i := 17) (oi := { dst := some 68, op := Op.pick (Operand.tmp 53) (Operand.tmp 67) (Operand.const (Value.bool false)), type := 4, pos := "law.go:37", after := #[{ on := 2, ground := Ground.data }, { on := 16, ground := Ground.data }], guard := none }) (v := ?_) rfl (by kernel_rfl) (by kernel_rfl) (by kernel_rfl) (fun _ _ _ h => h) (Or.inl ⟨by rfl, ?_⟩) hHeld ?_
  rotate_left
  · (intro w hSw; (try dsimp only at hSw); go_simp; try with_reducible rfl)
  simp only [Act.put, List.setIfInBounds_toArray, List.set_cons_zero, List.set_cons_succ]
  refine wpAnyH_done (by kernel_rfl) ?_ _
  clear hHeld
  have xa0 := XA.c0
  have xa1 := XA.c1
  have xa2 := XA.c2
  have xp0 := XP.c0
  have xp1 := XP.c1
  have xp2 := XP.c2
  have xl0 := XL.c0
  have xl1 := XL.c1
  have xl2 := XL.c2
  have xh0 := XH.c0
  have xh1 := XH.c1
  have xh2 := XH.c2
  go_upto_region 12 with (first
      | (go_at_call 53; (with_reducible refine (exact_not a HV.out HS.out (by decide) (by decide)).mono ?_); rintro e w_c ⟨rfl, hh⟩
         try replace a := a.below hh
         try replace XA := XA.below hh
         try replace x_ := x_.below hh
         try replace XP := XP.below hh
         try replace XL := XL.below hh
         try replace XH := XH.below hh
         replace hb := bend hb hh
         have xa0 := XA.c0
         have xa1 := XA.c1
         have xa2 := XA.c2
         have xp0 := XP.c0
         have xp1 := XP.c1
         have xp2 := XP.c2
         have xl0 := XL.c0
         have xl1 := XL.c1
         have xl2 := XL.c2
         have xh0 := XH.c0
         have xh1 := XH.c1
         have xh2 := XH.c2))
  generalize hW : (w_c.alloc (Obj.cells #[Value.bool false, Value.slice none 0 0, Value.slice none 0 0] 26)) = W5
  have hh : Below w_c.heap.size w_c W5 := by subst hW; exact ((Below.refl _ _).alloc (Nat.le_refl _) _)
  have XC : B3 W5 (w_c.heap.size) (Value.bool false) (Value.slice none 0 0) (Value.slice none 0 0) := by subst hW; exact B3.new' _ _ _ _ _ rfl
  have hzW5 : W5.heap.size = w_c.heap.size + 1 := by subst hW; simp
  clear hW
  try replace a := a.below hh
  try replace XA := XA.below hh
  try replace x_ := x_.below hh
  try replace XP := XP.below hh
  try replace XL := XL.below hh
  try replace XH := XH.below hh
  replace hb := bend hb hh
  have xa0 := XA.c0
  have xa1 := XA.c1
  have xa2 := XA.c2
  have xp0 := XP.c0
  have xp1 := XP.c1
  have xp2 := XP.c2
  have xl0 := XL.c0
  have xl1 := XL.c1
  have xl2 := XL.c2
  have xh0 := XH.c0
  have xh1 := XH.c1
  have xh2 := XH.c2
  have xc0 := XC.c0
  have xc1 := XC.c1
  have xc2 := XC.c2
  go_upto_region 13 with (first
      | (go_at_call 54; (with_reducible refine (of_not x_ HV.out (by decide) HS.out).mono ?_); rintro e w_e ⟨rfl, hh⟩
         try replace a := a.below hh
         try replace XA := XA.below hh
         try replace x_ := x_.below hh
         try replace XP := XP.below hh
         try replace XL := XL.below hh
         try replace XH := XH.below hh
         try replace XC := XC.below hh
         replace hb := bend hb hh
         have xa0 := XA.c0
         have xa1 := XA.c1
         have xa2 := XA.c2
         have xp0 := XP.c0
         have xp1 := XP.c1
         have xp2 := XP.c2
         have xl0 := XL.c0
         have xl1 := XL.c1
         have xl2 := XL.c2
         have xh0 := XH.c0
         have xh1 := XH.c1
         have xh2 := XH.c2
         have xc0 := XC.c0
         have xc1 := XC.c1
         have xc2 := XC.c2))
  generalize hW : (w_e.alloc (Obj.cells #[Value.bool false, Value.slice none 0 0, Value.slice none 0 0, Value.bool false] 70)) = W6
  have hh : Below w_e.heap.size w_e W6 := by subst hW; exact ((Below.refl _ _).alloc (Nat.le_refl _) _)
  have XE : B4E W6 (w_e.heap.size) (Value.bool false) (Value.slice none 0 0) (Value.slice none 0 0) (Value.bool false) := by subst hW; exact B4E.new' _ _ _ _ _ _ rfl
  have hzW6 : W6.heap.size = w_e.heap.size + 1 := by subst hW; simp
  clear hW
  try replace a := a.below hh
  try replace XA := XA.below hh
  try replace x_ := x_.below hh
  try replace XP := XP.below hh
  try replace XL := XL.below hh
  try replace XH := XH.below hh
  try replace XC := XC.below hh
  replace hb := bend hb hh
  have xa0 := XA.c0
  have xa1 := XA.c1
  have xa2 := XA.c2
  have xp0 := XP.c0
  have xp1 := XP.c1
  have xp2 := XP.c2
  have xl0 := XL.c0
  have xl1 := XL.c1
  have xl2 := XL.c2
  have xh0 := XH.c0
  have xh1 := XH.c1
  have xh2 := XH.c2
  have xc0 := XC.c0
  have xc1 := XC.c1
  have xc2 := XC.c2
  have xe0 := XE.c0
  have xe1 := XE.c1
  have xe2 := XE.c2
  have xe3 := XE.c3
  go_wp2_with (first
      | (go_at_call 47; (with_reducible refine (rwakes_any _).mono ?_); rintro e w_z ⟨rfl, hh⟩
         try replace a := a.below hh
         try replace XA := XA.below hh
         try replace x_ := x_.below hh
         try replace XP := XP.below hh
         try replace XL := XL.below hh
         try replace XH := XH.below hh
         try replace XC := XC.below hh
         try replace XE := XE.below hh
         replace hb := bend hb hh))
  go_ret
  exact ⟨rfl, hb⟩
set_option maxRecDepth 100000 in
set_option maxHeartbeats 8000000 in
theorem brac_lo_sq {w : World} {s : Bool} {A A' : Option Addr} {n c n' c' : Nat} (j : Int) (hj : j < 0) {va : Rat} (a : QR w s A n c A' n' c' va 8) (hl : decide (n ≤ 8 ∧ n' ≤ 8) = true) {x y : Nat} (hv : 0 ≤ va) (h1 : x * x = va.num.natAbs) (h2 : y * y = va.den) :
    Calls Tryz.prog 6 #[.agg #[.bool s, .slice A n c, .slice A' n' c'], .int .i64 j] w fun e w' => e = .returned (.bool true) ∧ Below w.heap.size w w' := by
  have HL := Lib.hid hl
  have HV := Lib.hid hv
  have H1 := Lib.hid h1
  have H2 := Lib.hid h2
  have HQ : Hid (va = mkRat (iv false x) y * mkRat (iv false x) y) := sq_of hv h1 h2
  have HU : Hid (0 ≤ mkRat (iv false x) y) := sqp_nn x y
  clear h1 h2
  have hg1 : ¬ 300 < j := by omega
  have HJ : Hid (j < 0 ∨ 4096 < j) := .inl hj
  clear hl hv hj
  go_enter Tryz.func6, Tryz.ntmps6
  go_wp2_with fail
  generalize hW : (w.alloc (Obj.cells #[Value.bool s, Value.slice A n c, Value.slice A' n' c'] 26)) = W
  have hb : Below w.heap.size w W := by subst hW; exact ((Below.refl _ _).alloc (Nat.le_refl _) _)
  have XA : B3 W (w.heap.size) (Value.bool s) (Value.slice A n c) (Value.slice A' n' c') := by subst hW; exact B3.new' _ _ _ _ _ rfl
  have hzW : W.heap.size = w.heap.size + 1 := by subst hW; simp
  clear hW
  replace a := a.below hb
  have xa0 := XA.c0
  have xa1 := XA.c1
  have xa2 := XA.c2
  go_upto_region 4 with (first
      | (go_at_call 46; (with_reducible refine (small_8 _ true HL.out).mono ?_); rintro e w_z ⟨rfl, hh⟩
         try replace a := a.below hh
         try replace XA := XA.below hh
         replace hb := bend hb hh
         have xa0 := XA.c0
         have xa1 := XA.c1
         have xa2 := XA.c2)
      | (go_at_call 16; (with_reducible refine (rin3 a (by decide) (by decide)).mono ?_); rintro e w_x ⟨s_x_, A_x_, n_x_, c_x_, B_x_, m_x_, d_x_, rfl, x_, hh⟩
         try replace a := a.below hh
         try replace XA := XA.below hh
         replace hb := bend hb hh
         have xa0 := XA.c0
         have xa1 := XA.c1
         have xa2 := XA.c2))
  generalize hW : (w_x.alloc (Obj.cells #[Value.bool s_x_, Value.slice A_x_ n_x_ c_x_, Value.slice B_x_ m_x_ d_x_] 34)) = W2
  have hh : Below w_x.heap.size w_x W2 := by subst hW; exact ((Below.refl _ _).alloc (Nat.le_refl _) _)
  have XP : B3R W2 (w_x.heap.size) (Value.bool s_x_) (Value.slice A_x_ n_x_ c_x_) (Value.slice B_x_ m_x_ d_x_) := by subst hW; exact B3R.new' _ _ _ _ _ rfl
  have hzW2 : W2.heap.size = w_x.heap.size + 1 := by subst hW; simp
  clear hW
  try replace a := a.below hh
  try replace XA := XA.below hh
  try replace x_ := x_.below hh
  replace hb := bend hb hh
  have xa0 := XA.c0
  have xa1 := XA.c1
  have xa2 := XA.c2
  have xp0 := XP.c0
  have xp1 := XP.c1
  have xp2 := XP.c2
  go_upto_region 5 with (first
      | (go_at_call 48; (with_reducible refine (low_arg j HJ.out).mono ?_); rintro e w_l ⟨rfl, hh⟩
         try replace a := a.below hh
         try replace XA := XA.below hh
         try replace x_ := x_.below hh
         try replace XP := XP.below hh
         replace hb := bend hb hh
         have xa0 := XA.c0
         have xa1 := XA.c1
         have xa2 := XA.c2
         have xp0 := XP.c0
         have xp1 := XP.c1
         have xp2 := XP.c2))
  generalize hW : (w_l.alloc (Obj.cells #[Value.bool false, Value.slice none 0 0, Value.slice none 0 0] 26)) = W3
  have hh : Below w_l.heap.size w_l W3 := by subst hW; exact ((Below.refl _ _).alloc (Nat.le_refl _) _)
  have XL : B3 W3 (w_l.heap.size) (Value.bool false) (Value.slice none 0 0) (Value.slice none 0 0) := by subst hW; exact B3.new' _ _ _ _ _ rfl
  have hzW3 : W3.heap.size = w_l.heap.size + 1 := by subst hW; simp
  clear hW
  try replace a := a.below hh
  try replace XA := XA.below hh
  try replace x_ := x_.below hh
  try replace XP := XP.below hh
  replace hb := bend hb hh
  have xa0 := XA.c0
  have xa1 := XA.c1
  have xa2 := XA.c2
  have xp0 := XP.c0
  have xp1 := XP.c1
  have xp2 := XP.c2
  have xl0 := XL.c0
  have xl1 := XL.c1
  have xl2 := XL.c2
  go_upto_region 6 with (first
      | (go_at_call 49; (with_reducible refine (high_arg j HJ.out).mono ?_); rintro e w_h ⟨rfl, hh⟩
         try replace a := a.below hh
         try replace XA := XA.below hh
         try replace x_ := x_.below hh
         try replace XP := XP.below hh
         try replace XL := XL.below hh
         replace hb := bend hb hh
         have xa0 := XA.c0
         have xa1 := XA.c1
         have xa2 := XA.c2
         have xp0 := XP.c0
         have xp1 := XP.c1
         have xp2 := XP.c2
         have xl0 := XL.c0
         have xl1 := XL.c1
         have xl2 := XL.c2))
  generalize hW : (w_h.alloc (Obj.cells #[Value.bool false, Value.slice none 0 0, Value.slice none 0 0] 26)) = W4
  have hh : Below w_h.heap.size w_h W4 := by subst hW; exact ((Below.refl _ _).alloc (Nat.le_refl _) _)
  have XH : B3 W4 (w_h.heap.size) (Value.bool false) (Value.slice none 0 0) (Value.slice none 0 0) := by subst hW; exact B3.new' _ _ _ _ _ rfl
  have hzW4 : W4.heap.size = w_h.heap.size + 1 := by subst hW; simp
  clear hW
  try replace a := a.below hh
  try replace XA := XA.below hh
  try replace x_ := x_.below hh
  try replace XP := XP.below hh
  try replace XL := XL.below hh
  replace hb := bend hb hh
  have xa0 := XA.c0
  have xa1 := XA.c1
  have xa2 := XA.c2
  have xp0 := XP.c0
  have xp1 := XP.c1
  have xp2 := XP.c2
  have xl0 := XL.c0
  have xl1 := XL.c1
  have xl2 := XL.c2
  have xh0 := XH.c0
  have xh1 := XH.c1
  have xh2 := XH.c2
  go_upto_region 9 with (first
      | (go_at_call 50; (with_reducible refine (may_arg j HJ.out).mono ?_); rintro e w_z ⟨rfl, hh⟩
         try replace a := a.below hh
         try replace XA := XA.below hh
         try replace x_ := x_.below hh
         try replace XP := XP.below hh
         try replace XL := XL.below hh
         try replace XH := XH.below hh
         replace hb := bend hb hh
         have xa0 := XA.c0
         have xa1 := XA.c1
         have xa2 := XA.c2
         have xp0 := XP.c0
         have xp1 := XP.c1
         have xp2 := XP.c2
         have xl0 := XL.c0
         have xl1 := XL.c1
         have xl2 := XL.c2
         have xh0 := XH.c0
         have xh1 := XH.c1
         have xh2 := XH.c2))
  replace a := a.below (Below.refl _ _).drew
  replace XA := XA.below (Below.refl _ _).drew
  replace x_ := x_.below (Below.refl _ _).drew
  replace XP := XP.below (Below.refl _ _).drew
  replace XL := XL.below (Below.refl _ _).drew
  replace XH := XH.below (Below.refl _ _).drew
  replace hb := hb.drew
  refine wp_region_held_drew (S := (fun w' => w'.cell? ⟨w.heap.size, 0, none⟩ = some (.bool s) ∧ w'.cell? ⟨w.heap.size, 1, none⟩ = some (.slice A n c) ∧ w'.cell? ⟨w.heap.size, 2, none⟩ = some (.slice A' n' c') ∧ w'.cell? ⟨w_x.heap.size, 0, none⟩ = some (.bool s_x_) ∧ w'.cell? ⟨w_x.heap.size, 1, none⟩ = some (.slice A_x_ n_x_ c_x_) ∧ w'.cell? ⟨w_x.heap.size, 2, none⟩ = some (.slice B_x_ m_x_ d_x_) ∧ w'.cell? ⟨w_l.heap.size, 0, none⟩ = some (.bool false) ∧ w'.cell? ⟨w_l.heap.size, 1, none⟩ = some (.slice none 0 0) ∧ w'.cell? ⟨w_l.heap.size, 2, none⟩ = some (.slice none 0 0) ∧ w'.cell? ⟨w_h.heap.size, 0, none⟩ = some (.bool false) ∧ w'.cell? ⟨w_h.heap.size, 1, none⟩ = some (.slice none 0 0) ∧ w'.cell? ⟨w_h.heap.size, 2, none⟩ = some (.slice none 0 0))) (by kernel_rfl) ⟨XA.c0, XA.c1, XA.c2, XP.c0, XP.c1, XP.c2, XL.c0, XL.c1, XL.c2, XH.c0, XH.c1, XH.c2⟩ (fun hHeld => ?_)
  refine wpAnyH_take (i := 0) (oi := { dst := some 51, op := Op.move (Operand.tmp 10), type := 3, pos := "law.go:37", after := #[], guard := none }) (v := ?_) rfl (by kernel_rfl) (by kernel_rfl) (by kernel_rfl) (fun _ _ _ h => h) (Or.inl ⟨by rfl, ?_⟩) hHeld ?_
  rotate_left
  · (intro w hSw; (try dsimp only at hSw); go_simp; try with_reducible rfl)
  simp only [Act.put, List.setIfInBounds_toArray, List.set_cons_zero, List.set_cons_succ]
  refine wpAnyH_take (i := 1) (oi := { dst := some 52, op := Op.binOp BinOp.eql 3 (Operand.tmp 51) (Operand.const (Value.int IntKind.i64 0)) 3, type := 4, pos := "law.go:37", after := #[{ on := 0, ground := Ground.data }], guard := none }) (v := ?_) rfl (by kernel_rfl) (by kernel_rfl) (by kernel_rfl) (fun _ _ _ h => h) (Or.inl ⟨by rfl, ?_⟩) hHeld ?_
  rotate_left
  · (intro w hSw; (try dsimp only at hSw); go_simp; try with_reducible rfl)
  simp only [Act.put, List.setIfInBounds_toArray, List.set_cons_zero, List.set_cons_succ]
  refine wpAnyH_take (i := 2) (oi := { dst := some 53, op := Op.move (Operand.tmp 52), type := 4, pos := "law.go:37", after := #[{ on := 1, ground := Ground.data }], guard := none }) (v := ?_) rfl (by kernel_rfl) (by kernel_rfl) (by kernel_rfl) (fun _ _ _ h => h) (Or.inl ⟨by rfl, ?_⟩) hHeld ?_
  rotate_left
  · (intro w hSw; (try dsimp only at hSw); go_simp; try with_reducible rfl)
  simp only [Act.put, List.setIfInBounds_toArray, List.set_cons_zero, List.set_cons_succ]
  refine wpAnyH_take (i := 3) (oi := { dst := some 54, op := Op.load 26 (Operand.tmp 6), type := 26, pos := "law.go:37", after := #[{ on := 2, ground := Ground.guard }], guard := some (2, true) }) (v := undef) rfl (by kernel_rfl) (by kernel_rfl) (by kernel_rfl) (fun _ _ _ h => h) (Or.inr ⟨by rfl, rfl⟩) hHeld ?_
  simp only [Act.put, List.setIfInBounds_toArray, List.set_cons_zero, List.set_cons_succ]
  refine wpAnyH_take (i := 4) (oi := { dst := some 55, op := Op.load 34 (Operand.tmp 5), type := 34, pos := "law.go:37", after := #[{ on := 2, ground := Ground.guard }], guard := some (2, true) }) (v := undef) rfl (by kernel_rfl) (by kernel_rfl) (by kernel_rfl) (fun _ _ _ h => h) (Or.inr ⟨by rfl, rfl⟩) hHeld ?_
  simp only [Act.put, List.setIfInBounds_toArray, List.set_cons_zero, List.set_cons_succ]
  refine wpAnyH_take (i := 5) (oi := { dst := some 56, op := Op.move (Operand.tmp 1), type := 3, pos := "law.go:37", after := #[{ on := 2, ground := Ground.guard }], guard := some (2, true) }) (v := undef) rfl (by kernel_rfl) (by kernel_rfl) (by kernel_rfl) (fun _ _ _ h => h) (Or.inr ⟨by rfl, rfl⟩) hHeld ?_
  simp only [Act.put, List.setIfInBounds_toArray, List.set_cons_zero, List.set_cons_succ]
  refine wpAnyH_take (i := 6) (oi := { dst := some 57, op := Op.call { callee := Callee.value (Operand.func 51), args := #[Operand.tmp 55, Operand.tmp 56], argTypes := #[34, 3] }, type := 34, pos := "law.go:37", after := #[{ on := 4, ground := Ground.data }, { on := 5, ground := Ground.data }, { on := 2, ground := Ground.chain }, { on := 2, ground := Ground.guard }], guard := some (2, true) }) (v := undef) rfl (by kernel_rfl) (by kernel_rfl) (by kernel_rfl) (fun _ _ _ h => h) (Or.inr ⟨by rfl, rfl⟩) hHeld ?_
  simp only [Act.put, List.setIfInBounds_toArray, List.set_cons_zero, List.set_cons_succ]
  refine wpAnyH_take (i := 7) (oi := { dst := some 58, op := Op.call { callee := Callee.value (Operand.func 20), args := #[Operand.tmp 54, Operand.tmp 57], argTypes := #[26, 34] }, type := 4, pos := "law.go:37", after := #[{ on := 3, ground := Ground.data }, { on := 6, ground := Ground.data }, { on := 6, ground := Ground.chain }, { on := 2, ground := Ground.guard }], guard := some (2, true) }) (v := undef) rfl (by kernel_rfl) (by kernel_rfl) (by kernel_rfl) (fun _ _ _ h => h) (Or.inr ⟨by rfl, rfl⟩) hHeld ?_
  simp only [Act.put, List.setIfInBounds_toArray, List.set_cons_zero, List.set_cons_succ]
  refine wpAnyH_take (i := 8) (oi := { dst := some 59, op := Op.unOp UnOp.not 4 (Operand.tmp 58), type := 4, pos := "law.go:37", after := #[{ on := 7, ground := Ground.data }, { on := 2, ground := Ground.guard }], guard := some (2, true) }) (v := undef) rfl (by kernel_rfl) (by kernel_rfl) (by kernel_rfl) (fun _ _ _ h => h) (Or.inr ⟨by rfl, rfl⟩) hHeld ?_
  simp only [Act.put, List.setIfInBounds_toArray, List.set_cons_zero, List.set_cons_succ]
  refine wpAnyH_take (i := 9) (oi := { dst := some 60, op := Op.move (Operand.tmp 59), type := 4, pos := "law.go:37", after := #[{ on := 8, ground := Ground.data }, { on := 7, ground := Ground.chain }, { on := 2, ground := Ground.guard }], guard := some (2, true) }) (v := undef) rfl (by kernel_rfl) (by kernel_rfl) (by kernel_rfl) (fun _ _ _ h => h) (Or.inr ⟨by rfl, rfl⟩) hHeld ?_
  simp only [Act.put, List.setIfInBounds_toArray, List.set_cons_zero, List.set_cons_succ]
  refine wpAnyH_take (i := 10) (oi := { dst := some 61, op := Op.load 26 (Operand.tmp 8), type := 26, pos := "law.go:37", after := #[{ on := 9, ground := Ground.guard }], guard := some (9, false) }) (v := undef) rfl (by kernel_rfl) (by kernel_rfl) (by kernel_rfl) (fun _ _ _ h => h) (Or.inr ⟨by rfl, rfl⟩) hHeld ?_
  simp only [Act.put, List.setIfInBounds_toArray, List.set_cons_zero, List.set_cons_succ]
  refine wpAnyH_take (i := 11) (oi := { dst := some 62, op := Op.load 34 (Operand.tmp 5), type := 34, pos := "law.go:37", after := #[{ on := 9, ground := Ground.guard }], guard := some (9, false) }) (v := undef) rfl (by kernel_rfl) (by kernel_rfl) (by kernel_rfl) (fun _ _ _ h => h) (Or.inr ⟨by rfl, rfl⟩) hHeld ?_
  simp only [Act.put, List.setIfInBounds_toArray, List.set_cons_zero, List.set_cons_succ]
  refine wpAnyH_take (i := 12) (oi := { dst := some 63, op := Op.move (Operand.tmp 1), type := 3, pos := "law.go:37", after := #[{ on := 9, ground := Ground.guard }], guard := some (9, false) }) (v := undef) rfl (by kernel_rfl) (by kernel_rfl) (by kernel_rfl) (fun _ _ _ h => h) (Or.inr ⟨by rfl, rfl⟩) hHeld ?_
  simp only [Act.put, List.setIfInBounds_toArray, List.set_cons_zero, List.set_cons_succ]
  refine wpAnyH_take (i := 13) (oi := { dst := some 64, op := Op.call { callee := Callee.value (Operand.func 52), args := #[Operand.tmp 62, Operand.tmp 63], argTypes := #[34, 3] }, type := 34, pos := "law.go:37", after := #[{ on := 11, ground := Ground.data }, { on := 12, ground := Ground.data }, { on := 9, ground := Ground.chain }, { on := 9, ground := Ground.guard }], guard := some (9, false) }) (v := undef) rfl (by kernel_rfl) (by kernel_rfl) (by kernel_rfl) (fun _ _ _ h => h) (Or.inr ⟨by rfl, rfl⟩) hHeld ?_
  simp only [Act.put, List.setIfInBounds_toArray, List.set_cons_zero, List.set_cons_succ]
  refine wpAnyH_take (i := 14) (oi := { dst := some 65, op := Op.call { callee := Callee.value (Operand.func 20), args := #[Operand.tmp 61, Operand.tmp 64], argTypes := #[26, 34] }, type := 4, pos := "law.go:37", after := #[{ on := 10, ground := Ground.data }, { on := 13, ground := Ground.data }, { on := 13, ground := Ground.chain }, { on := 9, ground := Ground.guard }], guard := some (9, false) }) (v := undef) rfl (by kernel_rfl) (by kernel_rfl) (by kernel_rfl) (fun _ _ _ h => h) (Or.inr ⟨by rfl, rfl⟩) hHeld ?_
  simp only [Act.put, List.setIfInBounds_toArray, List.set_cons_zero, List.set_cons_succ]
  refine wpAnyH_take (i := 15) (oi := { dst := some 66, op := Op.unOp UnOp.not 4 (Operand.tmp 65), type := 4, pos := "law.go:37", after := #[{ on := 14, ground := Ground.data }, { on := 9, ground := Ground.guard }], guard := some (9, false) }) (v := undef) rfl (by kernel_rfl) (by kernel_rfl) (by kernel_rfl) (fun _ _ _ h => h) (Or.inr ⟨by rfl, rfl⟩) hHeld ?_
  simp only [Act.put, List.setIfInBounds_toArray, List.set_cons_zero, List.set_cons_succ]
  refine wpAnyH_take (i := 16) (oi := { dst := some 67, op := Op.pick (Operand.tmp 60) (Operand.const (Value.bool true)) (Operand.tmp 66), type := 4, pos := "law.go:37", after := #[{ on := 9, ground := Ground.data }, { on := 15, ground := Ground.data }, { on := 2, ground := Ground.guard }], guard := some (2, true) }) (v := undef) rfl (by kernel_rfl) (by kernel_rfl) (by kernel_rfl) (fun _ _ _ h => h) (Or.inr ⟨by rfl, rfl⟩) hHeld ?_
  simp only [Act.put, List.setIfInBounds_toArray, List.set_cons_zero, List.set_cons_succ]
  refine wpAnyH_take (i := 17) (oi := { dst := some 68, op := Op.pick (Operand.tmp 53) (Operand.tmp 67) (Operand.const (Value.bool false)), type := 4, pos := "law.go:37", after := #[{ on := 2, ground := Ground.data }, { on := 16, ground := Ground.data }], guard := none }) (v := ?_) rfl (by kernel_rfl) (by kernel_rfl) (by kernel_rfl) (fun _ _ _ h => h) (Or.inl ⟨by rfl, ?_⟩) hHeld ?_
  rotate_left
  · (intro w hSw; (try dsimp only at hSw); go_simp; try with_reducible rfl)
  simp only [Act.put, List.setIfInBounds_toArray, List.set_cons_zero, List.set_cons_succ]
  refine wpAnyH_done (by kernel_rfl) ?_ _
  clear hHeld
  have xa0 := XA.c0
  have xa1 := XA.c1
  have xa2 := XA.c2
  have xp0 := XP.c0
  have xp1 := XP.c1
  have xp2 := XP.c2
  have xl0 := XL.c0
  have xl1 := XL.c1
  have xl2 := XL.c2
  have xh0 := XH.c0
  have xh1 := XH.c1
  have xh2 := XH.c2
  go_upto_region 12 with (first
      | (go_at_call 53; (with_reducible refine (exact_sq a HU.out HQ.out (by decide) (by decide)).mono ?_); rintro e w_c ⟨s_cc, A_cc, n_cc, c_cc, B_cc, m_cc, d_cc, rfl, cc, hh⟩
         try replace a := a.below hh
         try replace XA := XA.below hh
         try replace x_ := x_.below hh
         try replace XP := XP.below hh
         try replace XL := XL.below hh
         try replace XH := XH.below hh
         replace hb := bend hb hh
         have xa0 := XA.c0
         have xa1 := XA.c1
         have xa2 := XA.c2
         have xp0 := XP.c0
         have xp1 := XP.c1
         have xp2 := XP.c2
         have xl0 := XL.c0
         have xl1 := XL.c1
         have xl2 := XL.c2
         have xh0 := XH.c0
         have xh1 := XH.c1
         have xh2 := XH.c2))
  generalize hW : (w_c.alloc (Obj.cells #[Value.bool s_cc, Value.slice A_cc n_cc c_cc, Value.slice B_cc m_cc d_cc] 26)) = W5
  have hh : Below w_c.heap.size w_c W5 := by subst hW; exact ((Below.refl _ _).alloc (Nat.le_refl _) _)
  have XC : B3 W5 (w_c.heap.size) (Value.bool s_cc) (Value.slice A_cc n_cc c_cc) (Value.slice B_cc m_cc d_cc) := by subst hW; exact B3.new' _ _ _ _ _ rfl
  have hzW5 : W5.heap.size = w_c.heap.size + 1 := by subst hW; simp
  clear hW
  try replace a := a.below hh
  try replace XA := XA.below hh
  try replace x_ := x_.below hh
  try replace XP := XP.below hh
  try replace XL := XL.below hh
  try replace XH := XH.below hh
  try replace cc := cc.below hh
  replace hb := bend hb hh
  have xa0 := XA.c0
  have xa1 := XA.c1
  have xa2 := XA.c2
  have xp0 := XP.c0
  have xp1 := XP.c1
  have xp2 := XP.c2
  have xl0 := XL.c0
  have xl1 := XL.c1
  have xl2 := XL.c2
  have xh0 := XH.c0
  have xh1 := XH.c1
  have xh2 := XH.c2
  have xc0 := XC.c0
  have xc1 := XC.c1
  have xc2 := XC.c2
  go_upto_region 13 with (first
      | (go_at_call 54; (with_reducible refine (of_yes x_ HV.out (by decide) H1.out H2.out).mono ?_); rintro e w_e ⟨s_ee, A_ee, n_ee, c_ee, B_ee, m_ee, d_ee, rfl, ee, hh⟩
         try replace a := a.below hh
         try replace XA := XA.below hh
         try replace x_ := x_.below hh
         try replace XP := XP.below hh
         try replace XL := XL.below hh
         try replace XH := XH.below hh
         try replace cc := cc.below hh
         try replace XC := XC.below hh
         replace hb := bend hb hh
         have xa0 := XA.c0
         have xa1 := XA.c1
         have xa2 := XA.c2
         have xp0 := XP.c0
         have xp1 := XP.c1
         have xp2 := XP.c2
         have xl0 := XL.c0
         have xl1 := XL.c1
         have xl2 := XL.c2
         have xh0 := XH.c0
         have xh1 := XH.c1
         have xh2 := XH.c2
         have xc0 := XC.c0
         have xc1 := XC.c1
         have xc2 := XC.c2))
  generalize hW : (w_e.alloc (Obj.cells #[Value.bool s_ee, Value.slice A_ee n_ee c_ee, Value.slice B_ee m_ee d_ee, Value.bool true] 70)) = W6
  have hh : Below w_e.heap.size w_e W6 := by subst hW; exact ((Below.refl _ _).alloc (Nat.le_refl _) _)
  have XE : B4E W6 (w_e.heap.size) (Value.bool s_ee) (Value.slice A_ee n_ee c_ee) (Value.slice B_ee m_ee d_ee) (Value.bool true) := by subst hW; exact B4E.new' _ _ _ _ _ _ rfl
  have hzW6 : W6.heap.size = w_e.heap.size + 1 := by subst hW; simp
  clear hW
  try replace a := a.below hh
  try replace XA := XA.below hh
  try replace x_ := x_.below hh
  try replace XP := XP.below hh
  try replace XL := XL.below hh
  try replace XH := XH.below hh
  try replace cc := cc.below hh
  try replace XC := XC.below hh
  try replace ee := ee.below hh
  replace hb := bend hb hh
  have xa0 := XA.c0
  have xa1 := XA.c1
  have xa2 := XA.c2
  have xp0 := XP.c0
  have xp1 := XP.c1
  have xp2 := XP.c2
  have xl0 := XL.c0
  have xl1 := XL.c1
  have xl2 := XL.c2
  have xh0 := XH.c0
  have xh1 := XH.c1
  have xh2 := XH.c2
  have xc0 := XC.c0
  have xc1 := XC.c1
  have xc2 := XC.c2
  have xe0 := XE.c0
  have xe1 := XE.c1
  have xe2 := XE.c2
  have xe3 := XE.c3
  go_wp2_with (first
      | (go_at_call 20; (with_reducible refine (same3 cc ee rfl (by decide) (by decide)).mono ?_); rintro e w_z ⟨rfl, hh⟩
         try replace a := a.below hh
         try replace XA := XA.below hh
         try replace x_ := x_.below hh
         try replace XP := XP.below hh
         try replace XL := XL.below hh
         try replace XH := XH.below hh
         try replace cc := cc.below hh
         try replace XC := XC.below hh
         try replace ee := ee.below hh
         try replace XE := XE.below hh
         replace hb := bend hb hh
         have xa0 := XA.c0
         have xa1 := XA.c1
         have xa2 := XA.c2
         have xp0 := XP.c0
         have xp1 := XP.c1
         have xp2 := XP.c2
         have xl0 := XL.c0
         have xl1 := XL.c1
         have xl2 := XL.c2
         have xh0 := XH.c0
         have xh1 := XH.c1
         have xh2 := XH.c2
         have xc0 := XC.c0
         have xc1 := XC.c1
         have xc2 := XC.c2
         have xe0 := XE.c0
         have xe1 := XE.c1
         have xe2 := XE.c2
         have xe3 := XE.c3)
      | (go_at_call 47; (with_reducible refine (rwakes_any _).mono ?_); rintro e w_z ⟨rfl, hh⟩
         try replace a := a.below hh
         try replace XA := XA.below hh
         try replace x_ := x_.below hh
         try replace XP := XP.below hh
         try replace XL := XL.below hh
         try replace XH := XH.below hh
         try replace cc := cc.below hh
         try replace XC := XC.below hh
         try replace ee := ee.below hh
         try replace XE := XE.below hh
         replace hb := bend hb hh))
  go_ret
  exact ⟨rfl, hb⟩
set_option maxRecDepth 100000 in
set_option maxHeartbeats 8000000 in
theorem brac_hi_neg {w : World} {s : Bool} {A A' : Option Addr} {n c n' c' : Nat} (j : Int) (hj : 4096 < j) {va : Rat} (a : QR w s A n c A' n' c' va 8) (hl : decide (n ≤ 8 ∧ n' ≤ 8) = true) (hv : va < 0) :
    Calls Tryz.prog 6 #[.agg #[.bool s, .slice A n c, .slice A' n' c'], .int .i64 j] w fun e w' => e = .returned (.bool true) ∧ Below w.heap.size w w' := by
  have HL := Lib.hid hl
  have HV := Lib.hid hv
  have hg1 : 300 < j := by omega
  have hg2 : ¬ j ≤ 4096 := by omega
  have HJ : Hid (j < 0 ∨ 4096 < j) := .inr hj
  clear hl hv hj
  go_enter Tryz.func6, Tryz.ntmps6
  go_wp2_with fail
  generalize hW : (w.alloc (Obj.cells #[Value.bool s, Value.slice A n c, Value.slice A' n' c'] 26)) = W
  have hb : Below w.heap.size w W := by subst hW; exact ((Below.refl _ _).alloc (Nat.le_refl _) _)
  have XA : B3 W (w.heap.size) (Value.bool s) (Value.slice A n c) (Value.slice A' n' c') := by subst hW; exact B3.new' _ _ _ _ _ rfl
  have hzW : W.heap.size = w.heap.size + 1 := by subst hW; simp
  clear hW
  replace a := a.below hb
  have xa0 := XA.c0
  have xa1 := XA.c1
  have xa2 := XA.c2
  go_upto_region 4 with (first
      | (go_at_call 46; (with_reducible refine (small_8 _ true HL.out).mono ?_); rintro e w_z ⟨rfl, hh⟩
         try replace a := a.below hh
         try replace XA := XA.below hh
         replace hb := bend hb hh
         have xa0 := XA.c0
         have xa1 := XA.c1
         have xa2 := XA.c2)
      | (go_at_call 16; (with_reducible refine (rin3 a (by decide) (by decide)).mono ?_); rintro e w_x ⟨s_x_, A_x_, n_x_, c_x_, B_x_, m_x_, d_x_, rfl, x_, hh⟩
         try replace a := a.below hh
         try replace XA := XA.below hh
         replace hb := bend hb hh
         have xa0 := XA.c0
         have xa1 := XA.c1
         have xa2 := XA.c2))
  generalize hW : (w_x.alloc (Obj.cells #[Value.bool s_x_, Value.slice A_x_ n_x_ c_x_, Value.slice B_x_ m_x_ d_x_] 34)) = W2
  have hh : Below w_x.heap.size w_x W2 := by subst hW; exact ((Below.refl _ _).alloc (Nat.le_refl _) _)
  have XP : B3R W2 (w_x.heap.size) (Value.bool s_x_) (Value.slice A_x_ n_x_ c_x_) (Value.slice B_x_ m_x_ d_x_) := by subst hW; exact B3R.new' _ _ _ _ _ rfl
  have hzW2 : W2.heap.size = w_x.heap.size + 1 := by subst hW; simp
  clear hW
  try replace a := a.below hh
  try replace XA := XA.below hh
  try replace x_ := x_.below hh
  replace hb := bend hb hh
  have xa0 := XA.c0
  have xa1 := XA.c1
  have xa2 := XA.c2
  have xp0 := XP.c0
  have xp1 := XP.c1
  have xp2 := XP.c2
  go_upto_region 5 with (first
      | (go_at_call 48; (with_reducible refine (low_arg j HJ.out).mono ?_); rintro e w_l ⟨rfl, hh⟩
         try replace a := a.below hh
         try replace XA := XA.below hh
         try replace x_ := x_.below hh
         try replace XP := XP.below hh
         replace hb := bend hb hh
         have xa0 := XA.c0
         have xa1 := XA.c1
         have xa2 := XA.c2
         have xp0 := XP.c0
         have xp1 := XP.c1
         have xp2 := XP.c2))
  generalize hW : (w_l.alloc (Obj.cells #[Value.bool false, Value.slice none 0 0, Value.slice none 0 0] 26)) = W3
  have hh : Below w_l.heap.size w_l W3 := by subst hW; exact ((Below.refl _ _).alloc (Nat.le_refl _) _)
  have XL : B3 W3 (w_l.heap.size) (Value.bool false) (Value.slice none 0 0) (Value.slice none 0 0) := by subst hW; exact B3.new' _ _ _ _ _ rfl
  have hzW3 : W3.heap.size = w_l.heap.size + 1 := by subst hW; simp
  clear hW
  try replace a := a.below hh
  try replace XA := XA.below hh
  try replace x_ := x_.below hh
  try replace XP := XP.below hh
  replace hb := bend hb hh
  have xa0 := XA.c0
  have xa1 := XA.c1
  have xa2 := XA.c2
  have xp0 := XP.c0
  have xp1 := XP.c1
  have xp2 := XP.c2
  have xl0 := XL.c0
  have xl1 := XL.c1
  have xl2 := XL.c2
  go_upto_region 6 with (first
      | (go_at_call 49; (with_reducible refine (high_arg j HJ.out).mono ?_); rintro e w_h ⟨rfl, hh⟩
         try replace a := a.below hh
         try replace XA := XA.below hh
         try replace x_ := x_.below hh
         try replace XP := XP.below hh
         try replace XL := XL.below hh
         replace hb := bend hb hh
         have xa0 := XA.c0
         have xa1 := XA.c1
         have xa2 := XA.c2
         have xp0 := XP.c0
         have xp1 := XP.c1
         have xp2 := XP.c2
         have xl0 := XL.c0
         have xl1 := XL.c1
         have xl2 := XL.c2))
  generalize hW : (w_h.alloc (Obj.cells #[Value.bool false, Value.slice none 0 0, Value.slice none 0 0] 26)) = W4
  have hh : Below w_h.heap.size w_h W4 := by subst hW; exact ((Below.refl _ _).alloc (Nat.le_refl _) _)
  have XH : B3 W4 (w_h.heap.size) (Value.bool false) (Value.slice none 0 0) (Value.slice none 0 0) := by subst hW; exact B3.new' _ _ _ _ _ rfl
  have hzW4 : W4.heap.size = w_h.heap.size + 1 := by subst hW; simp
  clear hW
  try replace a := a.below hh
  try replace XA := XA.below hh
  try replace x_ := x_.below hh
  try replace XP := XP.below hh
  try replace XL := XL.below hh
  replace hb := bend hb hh
  have xa0 := XA.c0
  have xa1 := XA.c1
  have xa2 := XA.c2
  have xp0 := XP.c0
  have xp1 := XP.c1
  have xp2 := XP.c2
  have xl0 := XL.c0
  have xl1 := XL.c1
  have xl2 := XL.c2
  have xh0 := XH.c0
  have xh1 := XH.c1
  have xh2 := XH.c2
  go_upto_region 9 with (first
      | (go_at_call 50; (with_reducible refine (may_arg j HJ.out).mono ?_); rintro e w_z ⟨rfl, hh⟩
         try replace a := a.below hh
         try replace XA := XA.below hh
         try replace x_ := x_.below hh
         try replace XP := XP.below hh
         try replace XL := XL.below hh
         try replace XH := XH.below hh
         replace hb := bend hb hh
         have xa0 := XA.c0
         have xa1 := XA.c1
         have xa2 := XA.c2
         have xp0 := XP.c0
         have xp1 := XP.c1
         have xp2 := XP.c2
         have xl0 := XL.c0
         have xl1 := XL.c1
         have xl2 := XL.c2
         have xh0 := XH.c0
         have xh1 := XH.c1
         have xh2 := XH.c2))
  replace a := a.below (Below.refl _ _).drew
  replace XA := XA.below (Below.refl _ _).drew
  replace x_ := x_.below (Below.refl _ _).drew
  replace XP := XP.below (Below.refl _ _).drew
  replace XL := XL.below (Below.refl _ _).drew
  replace XH := XH.below (Below.refl _ _).drew
  replace hb := hb.drew
  refine wp_region_held_drew (S := (fun w' => w'.cell? ⟨w.heap.size, 0, none⟩ = some (.bool s) ∧ w'.cell? ⟨w.heap.size, 1, none⟩ = some (.slice A n c) ∧ w'.cell? ⟨w.heap.size, 2, none⟩ = some (.slice A' n' c') ∧ w'.cell? ⟨w_x.heap.size, 0, none⟩ = some (.bool s_x_) ∧ w'.cell? ⟨w_x.heap.size, 1, none⟩ = some (.slice A_x_ n_x_ c_x_) ∧ w'.cell? ⟨w_x.heap.size, 2, none⟩ = some (.slice B_x_ m_x_ d_x_) ∧ w'.cell? ⟨w_l.heap.size, 0, none⟩ = some (.bool false) ∧ w'.cell? ⟨w_l.heap.size, 1, none⟩ = some (.slice none 0 0) ∧ w'.cell? ⟨w_l.heap.size, 2, none⟩ = some (.slice none 0 0) ∧ w'.cell? ⟨w_h.heap.size, 0, none⟩ = some (.bool false) ∧ w'.cell? ⟨w_h.heap.size, 1, none⟩ = some (.slice none 0 0) ∧ w'.cell? ⟨w_h.heap.size, 2, none⟩ = some (.slice none 0 0))) (by kernel_rfl) ⟨XA.c0, XA.c1, XA.c2, XP.c0, XP.c1, XP.c2, XL.c0, XL.c1, XL.c2, XH.c0, XH.c1, XH.c2⟩ (fun hHeld => ?_)
  refine wpAnyH_take (i := 0) (oi := { dst := some 51, op := Op.move (Operand.tmp 10), type := 3, pos := "law.go:37", after := #[], guard := none }) (v := ?_) rfl (by kernel_rfl) (by kernel_rfl) (by kernel_rfl) (fun _ _ _ h => h) (Or.inl ⟨by rfl, ?_⟩) hHeld ?_
  rotate_left
  · (intro w hSw; (try dsimp only at hSw); go_simp; try with_reducible rfl)
  simp only [Act.put, List.setIfInBounds_toArray, List.set_cons_zero, List.set_cons_succ]
  refine wpAnyH_take (i := 1) (oi := { dst := some 52, op := Op.binOp BinOp.eql 3 (Operand.tmp 51) (Operand.const (Value.int IntKind.i64 0)) 3, type := 4, pos := "law.go:37", after := #[{ on := 0, ground := Ground.data }], guard := none }) (v := ?_) rfl (by kernel_rfl) (by kernel_rfl) (by kernel_rfl) (fun _ _ _ h => h) (Or.inl ⟨by rfl, ?_⟩) hHeld ?_
  rotate_left
  · (intro w hSw; (try dsimp only at hSw); go_simp; try with_reducible rfl)
  simp only [Act.put, List.setIfInBounds_toArray, List.set_cons_zero, List.set_cons_succ]
  refine wpAnyH_take (i := 2) (oi := { dst := some 53, op := Op.move (Operand.tmp 52), type := 4, pos := "law.go:37", after := #[{ on := 1, ground := Ground.data }], guard := none }) (v := ?_) rfl (by kernel_rfl) (by kernel_rfl) (by kernel_rfl) (fun _ _ _ h => h) (Or.inl ⟨by rfl, ?_⟩) hHeld ?_
  rotate_left
  · (intro w hSw; (try dsimp only at hSw); go_simp; try with_reducible rfl)
  simp only [Act.put, List.setIfInBounds_toArray, List.set_cons_zero, List.set_cons_succ]
  refine wpAnyH_take (i := 3) (oi := { dst := some 54, op := Op.load 26 (Operand.tmp 6), type := 26, pos := "law.go:37", after := #[{ on := 2, ground := Ground.guard }], guard := some (2, true) }) (v := undef) rfl (by kernel_rfl) (by kernel_rfl) (by kernel_rfl) (fun _ _ _ h => h) (Or.inr ⟨by rfl, rfl⟩) hHeld ?_
  simp only [Act.put, List.setIfInBounds_toArray, List.set_cons_zero, List.set_cons_succ]
  refine wpAnyH_take (i := 4) (oi := { dst := some 55, op := Op.load 34 (Operand.tmp 5), type := 34, pos := "law.go:37", after := #[{ on := 2, ground := Ground.guard }], guard := some (2, true) }) (v := undef) rfl (by kernel_rfl) (by kernel_rfl) (by kernel_rfl) (fun _ _ _ h => h) (Or.inr ⟨by rfl, rfl⟩) hHeld ?_
  simp only [Act.put, List.setIfInBounds_toArray, List.set_cons_zero, List.set_cons_succ]
  refine wpAnyH_take (i := 5) (oi := { dst := some 56, op := Op.move (Operand.tmp 1), type := 3, pos := "law.go:37", after := #[{ on := 2, ground := Ground.guard }], guard := some (2, true) }) (v := undef) rfl (by kernel_rfl) (by kernel_rfl) (by kernel_rfl) (fun _ _ _ h => h) (Or.inr ⟨by rfl, rfl⟩) hHeld ?_
  simp only [Act.put, List.setIfInBounds_toArray, List.set_cons_zero, List.set_cons_succ]
  refine wpAnyH_take (i := 6) (oi := { dst := some 57, op := Op.call { callee := Callee.value (Operand.func 51), args := #[Operand.tmp 55, Operand.tmp 56], argTypes := #[34, 3] }, type := 34, pos := "law.go:37", after := #[{ on := 4, ground := Ground.data }, { on := 5, ground := Ground.data }, { on := 2, ground := Ground.chain }, { on := 2, ground := Ground.guard }], guard := some (2, true) }) (v := undef) rfl (by kernel_rfl) (by kernel_rfl) (by kernel_rfl) (fun _ _ _ h => h) (Or.inr ⟨by rfl, rfl⟩) hHeld ?_
  simp only [Act.put, List.setIfInBounds_toArray, List.set_cons_zero, List.set_cons_succ]
  refine wpAnyH_take (i := 7) (oi := { dst := some 58, op := Op.call { callee := Callee.value (Operand.func 20), args := #[Operand.tmp 54, Operand.tmp 57], argTypes := #[26, 34] }, type := 4, pos := "law.go:37", after := #[{ on := 3, ground := Ground.data }, { on := 6, ground := Ground.data }, { on := 6, ground := Ground.chain }, { on := 2, ground := Ground.guard }], guard := some (2, true) }) (v := undef) rfl (by kernel_rfl) (by kernel_rfl) (by kernel_rfl) (fun _ _ _ h => h) (Or.inr ⟨by rfl, rfl⟩) hHeld ?_
  simp only [Act.put, List.setIfInBounds_toArray, List.set_cons_zero, List.set_cons_succ]
  refine wpAnyH_take (i := 8) (oi := { dst := some 59, op := Op.unOp UnOp.not 4 (Operand.tmp 58), type := 4, pos := "law.go:37", after := #[{ on := 7, ground := Ground.data }, { on := 2, ground := Ground.guard }], guard := some (2, true) }) (v := undef) rfl (by kernel_rfl) (by kernel_rfl) (by kernel_rfl) (fun _ _ _ h => h) (Or.inr ⟨by rfl, rfl⟩) hHeld ?_
  simp only [Act.put, List.setIfInBounds_toArray, List.set_cons_zero, List.set_cons_succ]
  refine wpAnyH_take (i := 9) (oi := { dst := some 60, op := Op.move (Operand.tmp 59), type := 4, pos := "law.go:37", after := #[{ on := 8, ground := Ground.data }, { on := 7, ground := Ground.chain }, { on := 2, ground := Ground.guard }], guard := some (2, true) }) (v := undef) rfl (by kernel_rfl) (by kernel_rfl) (by kernel_rfl) (fun _ _ _ h => h) (Or.inr ⟨by rfl, rfl⟩) hHeld ?_
  simp only [Act.put, List.setIfInBounds_toArray, List.set_cons_zero, List.set_cons_succ]
  refine wpAnyH_take (i := 10) (oi := { dst := some 61, op := Op.load 26 (Operand.tmp 8), type := 26, pos := "law.go:37", after := #[{ on := 9, ground := Ground.guard }], guard := some (9, false) }) (v := undef) rfl (by kernel_rfl) (by kernel_rfl) (by kernel_rfl) (fun _ _ _ h => h) (Or.inr ⟨by rfl, rfl⟩) hHeld ?_
  simp only [Act.put, List.setIfInBounds_toArray, List.set_cons_zero, List.set_cons_succ]
  refine wpAnyH_take (i := 11) (oi := { dst := some 62, op := Op.load 34 (Operand.tmp 5), type := 34, pos := "law.go:37", after := #[{ on := 9, ground := Ground.guard }], guard := some (9, false) }) (v := undef) rfl (by kernel_rfl) (by kernel_rfl) (by kernel_rfl) (fun _ _ _ h => h) (Or.inr ⟨by rfl, rfl⟩) hHeld ?_
  simp only [Act.put, List.setIfInBounds_toArray, List.set_cons_zero, List.set_cons_succ]
  refine wpAnyH_take (i := 12) (oi := { dst := some 63, op := Op.move (Operand.tmp 1), type := 3, pos := "law.go:37", after := #[{ on := 9, ground := Ground.guard }], guard := some (9, false) }) (v := undef) rfl (by kernel_rfl) (by kernel_rfl) (by kernel_rfl) (fun _ _ _ h => h) (Or.inr ⟨by rfl, rfl⟩) hHeld ?_
  simp only [Act.put, List.setIfInBounds_toArray, List.set_cons_zero, List.set_cons_succ]
  refine wpAnyH_take (i := 13) (oi := { dst := some 64, op := Op.call { callee := Callee.value (Operand.func 52), args := #[Operand.tmp 62, Operand.tmp 63], argTypes := #[34, 3] }, type := 34, pos := "law.go:37", after := #[{ on := 11, ground := Ground.data }, { on := 12, ground := Ground.data }, { on := 9, ground := Ground.chain }, { on := 9, ground := Ground.guard }], guard := some (9, false) }) (v := undef) rfl (by kernel_rfl) (by kernel_rfl) (by kernel_rfl) (fun _ _ _ h => h) (Or.inr ⟨by rfl, rfl⟩) hHeld ?_
  simp only [Act.put, List.setIfInBounds_toArray, List.set_cons_zero, List.set_cons_succ]
  refine wpAnyH_take (i := 14) (oi := { dst := some 65, op := Op.call { callee := Callee.value (Operand.func 20), args := #[Operand.tmp 61, Operand.tmp 64], argTypes := #[26, 34] }, type := 4, pos := "law.go:37", after := #[{ on := 10, ground := Ground.data }, { on := 13, ground := Ground.data }, { on := 13, ground := Ground.chain }, { on := 9, ground := Ground.guard }], guard := some (9, false) }) (v := undef) rfl (by kernel_rfl) (by kernel_rfl) (by kernel_rfl) (fun _ _ _ h => h) (Or.inr ⟨by rfl, rfl⟩) hHeld ?_
  simp only [Act.put, List.setIfInBounds_toArray, List.set_cons_zero, List.set_cons_succ]
  refine wpAnyH_take (i := 15) (oi := { dst := some 66, op := Op.unOp UnOp.not 4 (Operand.tmp 65), type := 4, pos := "law.go:37", after := #[{ on := 14, ground := Ground.data }, { on := 9, ground := Ground.guard }], guard := some (9, false) }) (v := undef) rfl (by kernel_rfl) (by kernel_rfl) (by kernel_rfl) (fun _ _ _ h => h) (Or.inr ⟨by rfl, rfl⟩) hHeld ?_
  simp only [Act.put, List.setIfInBounds_toArray, List.set_cons_zero, List.set_cons_succ]
  refine wpAnyH_take (i := 16) (oi := { dst := some 67, op := Op.pick (Operand.tmp 60) (Operand.const (Value.bool true)) (Operand.tmp 66), type := 4, pos := "law.go:37", after := #[{ on := 9, ground := Ground.data }, { on := 15, ground := Ground.data }, { on := 2, ground := Ground.guard }], guard := some (2, true) }) (v := undef) rfl (by kernel_rfl) (by kernel_rfl) (by kernel_rfl) (fun _ _ _ h => h) (Or.inr ⟨by rfl, rfl⟩) hHeld ?_
  simp only [Act.put, List.setIfInBounds_toArray, List.set_cons_zero, List.set_cons_succ]
  refine wpAnyH_take (i := 17) (oi := { dst := some 68, op := Op.pick (Operand.tmp 53) (Operand.tmp 67) (Operand.const (Value.bool false)), type := 4, pos := "law.go:37", after := #[{ on := 2, ground := Ground.data }, { on := 16, ground := Ground.data }], guard := none }) (v := ?_) rfl (by kernel_rfl) (by kernel_rfl) (by kernel_rfl) (fun _ _ _ h => h) (Or.inl ⟨by rfl, ?_⟩) hHeld ?_
  rotate_left
  · (intro w hSw; (try dsimp only at hSw); go_simp; try with_reducible rfl)
  simp only [Act.put, List.setIfInBounds_toArray, List.set_cons_zero, List.set_cons_succ]
  refine wpAnyH_done (by kernel_rfl) ?_ _
  clear hHeld
  have xa0 := XA.c0
  have xa1 := XA.c1
  have xa2 := XA.c2
  have xp0 := XP.c0
  have xp1 := XP.c1
  have xp2 := XP.c2
  have xl0 := XL.c0
  have xl1 := XL.c1
  have xl2 := XL.c2
  have xh0 := XH.c0
  have xh1 := XH.c1
  have xh2 := XH.c2
  go_upto_region 12 with (first
      | (go_at_call 53; (with_reducible refine (exact_neg a HV.out (by decide) (by decide)).mono ?_); rintro e w_c ⟨rfl, hh⟩
         try replace a := a.below hh
         try replace XA := XA.below hh
         try replace x_ := x_.below hh
         try replace XP := XP.below hh
         try replace XL := XL.below hh
         try replace XH := XH.below hh
         replace hb := bend hb hh
         have xa0 := XA.c0
         have xa1 := XA.c1
         have xa2 := XA.c2
         have xp0 := XP.c0
         have xp1 := XP.c1
         have xp2 := XP.c2
         have xl0 := XL.c0
         have xl1 := XL.c1
         have xl2 := XL.c2
         have xh0 := XH.c0
         have xh1 := XH.c1
         have xh2 := XH.c2))
  generalize hW : (w_c.alloc (Obj.cells #[Value.bool false, Value.slice none 0 0, Value.slice none 0 0] 26)) = W5
  have hh : Below w_c.heap.size w_c W5 := by subst hW; exact ((Below.refl _ _).alloc (Nat.le_refl _) _)
  have XC : B3 W5 (w_c.heap.size) (Value.bool false) (Value.slice none 0 0) (Value.slice none 0 0) := by subst hW; exact B3.new' _ _ _ _ _ rfl
  have hzW5 : W5.heap.size = w_c.heap.size + 1 := by subst hW; simp
  clear hW
  try replace a := a.below hh
  try replace XA := XA.below hh
  try replace x_ := x_.below hh
  try replace XP := XP.below hh
  try replace XL := XL.below hh
  try replace XH := XH.below hh
  replace hb := bend hb hh
  have xa0 := XA.c0
  have xa1 := XA.c1
  have xa2 := XA.c2
  have xp0 := XP.c0
  have xp1 := XP.c1
  have xp2 := XP.c2
  have xl0 := XL.c0
  have xl1 := XL.c1
  have xl2 := XL.c2
  have xh0 := XH.c0
  have xh1 := XH.c1
  have xh2 := XH.c2
  have xc0 := XC.c0
  have xc1 := XC.c1
  have xc2 := XC.c2
  go_upto_region 13 with (first
      | (go_at_call 54; (with_reducible refine (of_neg x_ HV.out).mono ?_); rintro e w_e ⟨rfl, hh⟩
         try replace a := a.below hh
         try replace XA := XA.below hh
         try replace x_ := x_.below hh
         try replace XP := XP.below hh
         try replace XL := XL.below hh
         try replace XH := XH.below hh
         try replace XC := XC.below hh
         replace hb := bend hb hh
         have xa0 := XA.c0
         have xa1 := XA.c1
         have xa2 := XA.c2
         have xp0 := XP.c0
         have xp1 := XP.c1
         have xp2 := XP.c2
         have xl0 := XL.c0
         have xl1 := XL.c1
         have xl2 := XL.c2
         have xh0 := XH.c0
         have xh1 := XH.c1
         have xh2 := XH.c2
         have xc0 := XC.c0
         have xc1 := XC.c1
         have xc2 := XC.c2))
  generalize hW : (w_e.alloc (Obj.cells #[Value.bool false, Value.slice none 0 0, Value.slice none 0 0, Value.bool false] 70)) = W6
  have hh : Below w_e.heap.size w_e W6 := by subst hW; exact ((Below.refl _ _).alloc (Nat.le_refl _) _)
  have XE : B4E W6 (w_e.heap.size) (Value.bool false) (Value.slice none 0 0) (Value.slice none 0 0) (Value.bool false) := by subst hW; exact B4E.new' _ _ _ _ _ _ rfl
  have hzW6 : W6.heap.size = w_e.heap.size + 1 := by subst hW; simp
  clear hW
  try replace a := a.below hh
  try replace XA := XA.below hh
  try replace x_ := x_.below hh
  try replace XP := XP.below hh
  try replace XL := XL.below hh
  try replace XH := XH.below hh
  try replace XC := XC.below hh
  replace hb := bend hb hh
  have xa0 := XA.c0
  have xa1 := XA.c1
  have xa2 := XA.c2
  have xp0 := XP.c0
  have xp1 := XP.c1
  have xp2 := XP.c2
  have xl0 := XL.c0
  have xl1 := XL.c1
  have xl2 := XL.c2
  have xh0 := XH.c0
  have xh1 := XH.c1
  have xh2 := XH.c2
  have xc0 := XC.c0
  have xc1 := XC.c1
  have xc2 := XC.c2
  have xe0 := XE.c0
  have xe1 := XE.c1
  have xe2 := XE.c2
  have xe3 := XE.c3
  go_wp2_with (first
      | (go_at_call 47; (with_reducible refine (rwakes_any _).mono ?_); rintro e w_z ⟨rfl, hh⟩
         try replace a := a.below hh
         try replace XA := XA.below hh
         try replace x_ := x_.below hh
         try replace XP := XP.below hh
         try replace XL := XL.below hh
         try replace XH := XH.below hh
         try replace XC := XC.below hh
         try replace XE := XE.below hh
         replace hb := bend hb hh))
  go_ret
  exact ⟨rfl, hb⟩
set_option maxRecDepth 100000 in
set_option maxHeartbeats 8000000 in
theorem brac_hi_not {w : World} {s : Bool} {A A' : Option Addr} {n c n' c' : Nat} (j : Int) (hj : 4096 < j) {va : Rat} (a : QR w s A n c A' n' c' va 8) (hl : decide (n ≤ 8 ∧ n' ≤ 8) = true) (hv : 0 ≤ va) (hs : ¬ (IsSq va.num.natAbs ∧ IsSq va.den)) :
    Calls Tryz.prog 6 #[.agg #[.bool s, .slice A n c, .slice A' n' c'], .int .i64 j] w fun e w' => e = .returned (.bool true) ∧ Below w.heap.size w w' := by
  have HL := Lib.hid hl
  have HV := Lib.hid hv
  have HS := Lib.hid hs
  clear hs
  have hg1 : 300 < j := by omega
  have hg2 : ¬ j ≤ 4096 := by omega
  have HJ : Hid (j < 0 ∨ 4096 < j) := .inr hj
  clear hl hv hj
  go_enter Tryz.func6, Tryz.ntmps6
  go_wp2_with fail
  generalize hW : (w.alloc (Obj.cells #[Value.bool s, Value.slice A n c, Value.slice A' n' c'] 26)) = W
  have hb : Below w.heap.size w W := by subst hW; exact ((Below.refl _ _).alloc (Nat.le_refl _) _)
  have XA : B3 W (w.heap.size) (Value.bool s) (Value.slice A n c) (Value.slice A' n' c') := by subst hW; exact B3.new' _ _ _ _ _ rfl
  have hzW : W.heap.size = w.heap.size + 1 := by subst hW; simp
  clear hW
  replace a := a.below hb
  have xa0 := XA.c0
  have xa1 := XA.c1
  have xa2 := XA.c2
  go_upto_region 4 with (first
      | (go_at_call 46; (with_reducible refine (small_8 _ true HL.out).mono ?_); rintro e w_z ⟨rfl, hh⟩
         try replace a := a.below hh
         try replace XA := XA.below hh
         replace hb := bend hb hh
         have xa0 := XA.c0
         have xa1 := XA.c1
         have xa2 := XA.c2)
      | (go_at_call 16; (with_reducible refine (rin3 a (by decide) (by decide)).mono ?_); rintro e w_x ⟨s_x_, A_x_, n_x_, c_x_, B_x_, m_x_, d_x_, rfl, x_, hh⟩
         try replace a := a.below hh
         try replace XA := XA.below hh
         replace hb := bend hb hh
         have xa0 := XA.c0
         have xa1 := XA.c1
         have xa2 := XA.c2))
  generalize hW : (w_x.alloc (Obj.cells #[Value.bool s_x_, Value.slice A_x_ n_x_ c_x_, Value.slice B_x_ m_x_ d_x_] 34)) = W2
  have hh : Below w_x.heap.size w_x W2 := by subst hW; exact ((Below.refl _ _).alloc (Nat.le_refl _) _)
  have XP : B3R W2 (w_x.heap.size) (Value.bool s_x_) (Value.slice A_x_ n_x_ c_x_) (Value.slice B_x_ m_x_ d_x_) := by subst hW; exact B3R.new' _ _ _ _ _ rfl
  have hzW2 : W2.heap.size = w_x.heap.size + 1 := by subst hW; simp
  clear hW
  try replace a := a.below hh
  try replace XA := XA.below hh
  try replace x_ := x_.below hh
  replace hb := bend hb hh
  have xa0 := XA.c0
  have xa1 := XA.c1
  have xa2 := XA.c2
  have xp0 := XP.c0
  have xp1 := XP.c1
  have xp2 := XP.c2
  go_upto_region 5 with (first
      | (go_at_call 48; (with_reducible refine (low_arg j HJ.out).mono ?_); rintro e w_l ⟨rfl, hh⟩
         try replace a := a.below hh
         try replace XA := XA.below hh
         try replace x_ := x_.below hh
         try replace XP := XP.below hh
         replace hb := bend hb hh
         have xa0 := XA.c0
         have xa1 := XA.c1
         have xa2 := XA.c2
         have xp0 := XP.c0
         have xp1 := XP.c1
         have xp2 := XP.c2))
  generalize hW : (w_l.alloc (Obj.cells #[Value.bool false, Value.slice none 0 0, Value.slice none 0 0] 26)) = W3
  have hh : Below w_l.heap.size w_l W3 := by subst hW; exact ((Below.refl _ _).alloc (Nat.le_refl _) _)
  have XL : B3 W3 (w_l.heap.size) (Value.bool false) (Value.slice none 0 0) (Value.slice none 0 0) := by subst hW; exact B3.new' _ _ _ _ _ rfl
  have hzW3 : W3.heap.size = w_l.heap.size + 1 := by subst hW; simp
  clear hW
  try replace a := a.below hh
  try replace XA := XA.below hh
  try replace x_ := x_.below hh
  try replace XP := XP.below hh
  replace hb := bend hb hh
  have xa0 := XA.c0
  have xa1 := XA.c1
  have xa2 := XA.c2
  have xp0 := XP.c0
  have xp1 := XP.c1
  have xp2 := XP.c2
  have xl0 := XL.c0
  have xl1 := XL.c1
  have xl2 := XL.c2
  go_upto_region 6 with (first
      | (go_at_call 49; (with_reducible refine (high_arg j HJ.out).mono ?_); rintro e w_h ⟨rfl, hh⟩
         try replace a := a.below hh
         try replace XA := XA.below hh
         try replace x_ := x_.below hh
         try replace XP := XP.below hh
         try replace XL := XL.below hh
         replace hb := bend hb hh
         have xa0 := XA.c0
         have xa1 := XA.c1
         have xa2 := XA.c2
         have xp0 := XP.c0
         have xp1 := XP.c1
         have xp2 := XP.c2
         have xl0 := XL.c0
         have xl1 := XL.c1
         have xl2 := XL.c2))
  generalize hW : (w_h.alloc (Obj.cells #[Value.bool false, Value.slice none 0 0, Value.slice none 0 0] 26)) = W4
  have hh : Below w_h.heap.size w_h W4 := by subst hW; exact ((Below.refl _ _).alloc (Nat.le_refl _) _)
  have XH : B3 W4 (w_h.heap.size) (Value.bool false) (Value.slice none 0 0) (Value.slice none 0 0) := by subst hW; exact B3.new' _ _ _ _ _ rfl
  have hzW4 : W4.heap.size = w_h.heap.size + 1 := by subst hW; simp
  clear hW
  try replace a := a.below hh
  try replace XA := XA.below hh
  try replace x_ := x_.below hh
  try replace XP := XP.below hh
  try replace XL := XL.below hh
  replace hb := bend hb hh
  have xa0 := XA.c0
  have xa1 := XA.c1
  have xa2 := XA.c2
  have xp0 := XP.c0
  have xp1 := XP.c1
  have xp2 := XP.c2
  have xl0 := XL.c0
  have xl1 := XL.c1
  have xl2 := XL.c2
  have xh0 := XH.c0
  have xh1 := XH.c1
  have xh2 := XH.c2
  go_upto_region 9 with (first
      | (go_at_call 50; (with_reducible refine (may_arg j HJ.out).mono ?_); rintro e w_z ⟨rfl, hh⟩
         try replace a := a.below hh
         try replace XA := XA.below hh
         try replace x_ := x_.below hh
         try replace XP := XP.below hh
         try replace XL := XL.below hh
         try replace XH := XH.below hh
         replace hb := bend hb hh
         have xa0 := XA.c0
         have xa1 := XA.c1
         have xa2 := XA.c2
         have xp0 := XP.c0
         have xp1 := XP.c1
         have xp2 := XP.c2
         have xl0 := XL.c0
         have xl1 := XL.c1
         have xl2 := XL.c2
         have xh0 := XH.c0
         have xh1 := XH.c1
         have xh2 := XH.c2))
  replace a := a.below (Below.refl _ _).drew
  replace XA := XA.below (Below.refl _ _).drew
  replace x_ := x_.below (Below.refl _ _).drew
  replace XP := XP.below (Below.refl _ _).drew
  replace XL := XL.below (Below.refl _ _).drew
  replace XH := XH.below (Below.refl _ _).drew
  replace hb := hb.drew
  refine wp_region_held_drew (S := (fun w' => w'.cell? ⟨w.heap.size, 0, none⟩ = some (.bool s) ∧ w'.cell? ⟨w.heap.size, 1, none⟩ = some (.slice A n c) ∧ w'.cell? ⟨w.heap.size, 2, none⟩ = some (.slice A' n' c') ∧ w'.cell? ⟨w_x.heap.size, 0, none⟩ = some (.bool s_x_) ∧ w'.cell? ⟨w_x.heap.size, 1, none⟩ = some (.slice A_x_ n_x_ c_x_) ∧ w'.cell? ⟨w_x.heap.size, 2, none⟩ = some (.slice B_x_ m_x_ d_x_) ∧ w'.cell? ⟨w_l.heap.size, 0, none⟩ = some (.bool false) ∧ w'.cell? ⟨w_l.heap.size, 1, none⟩ = some (.slice none 0 0) ∧ w'.cell? ⟨w_l.heap.size, 2, none⟩ = some (.slice none 0 0) ∧ w'.cell? ⟨w_h.heap.size, 0, none⟩ = some (.bool false) ∧ w'.cell? ⟨w_h.heap.size, 1, none⟩ = some (.slice none 0 0) ∧ w'.cell? ⟨w_h.heap.size, 2, none⟩ = some (.slice none 0 0))) (by kernel_rfl) ⟨XA.c0, XA.c1, XA.c2, XP.c0, XP.c1, XP.c2, XL.c0, XL.c1, XL.c2, XH.c0, XH.c1, XH.c2⟩ (fun hHeld => ?_)
  refine wpAnyH_take (i := 0) (oi := { dst := some 51, op := Op.move (Operand.tmp 10), type := 3, pos := "law.go:37", after := #[], guard := none }) (v := ?_) rfl (by kernel_rfl) (by kernel_rfl) (by kernel_rfl) (fun _ _ _ h => h) (Or.inl ⟨by rfl, ?_⟩) hHeld ?_
  rotate_left
  · (intro w hSw; (try dsimp only at hSw); go_simp; try with_reducible rfl)
  simp only [Act.put, List.setIfInBounds_toArray, List.set_cons_zero, List.set_cons_succ]
  refine wpAnyH_take (i := 1) (oi := { dst := some 52, op := Op.binOp BinOp.eql 3 (Operand.tmp 51) (Operand.const (Value.int IntKind.i64 0)) 3, type := 4, pos := "law.go:37", after := #[{ on := 0, ground := Ground.data }], guard := none }) (v := ?_) rfl (by kernel_rfl) (by kernel_rfl) (by kernel_rfl) (fun _ _ _ h => h) (Or.inl ⟨by rfl, ?_⟩) hHeld ?_
  rotate_left
  · (intro w hSw; (try dsimp only at hSw); go_simp; try with_reducible rfl)
  simp only [Act.put, List.setIfInBounds_toArray, List.set_cons_zero, List.set_cons_succ]
  refine wpAnyH_take (i := 2) (oi := { dst := some 53, op := Op.move (Operand.tmp 52), type := 4, pos := "law.go:37", after := #[{ on := 1, ground := Ground.data }], guard := none }) (v := ?_) rfl (by kernel_rfl) (by kernel_rfl) (by kernel_rfl) (fun _ _ _ h => h) (Or.inl ⟨by rfl, ?_⟩) hHeld ?_
  rotate_left
  · (intro w hSw; (try dsimp only at hSw); go_simp; try with_reducible rfl)
  simp only [Act.put, List.setIfInBounds_toArray, List.set_cons_zero, List.set_cons_succ]
  refine wpAnyH_take (i := 3) (oi := { dst := some 54, op := Op.load 26 (Operand.tmp 6), type := 26, pos := "law.go:37", after := #[{ on := 2, ground := Ground.guard }], guard := some (2, true) }) (v := undef) rfl (by kernel_rfl) (by kernel_rfl) (by kernel_rfl) (fun _ _ _ h => h) (Or.inr ⟨by rfl, rfl⟩) hHeld ?_
  simp only [Act.put, List.setIfInBounds_toArray, List.set_cons_zero, List.set_cons_succ]
  refine wpAnyH_take (i := 4) (oi := { dst := some 55, op := Op.load 34 (Operand.tmp 5), type := 34, pos := "law.go:37", after := #[{ on := 2, ground := Ground.guard }], guard := some (2, true) }) (v := undef) rfl (by kernel_rfl) (by kernel_rfl) (by kernel_rfl) (fun _ _ _ h => h) (Or.inr ⟨by rfl, rfl⟩) hHeld ?_
  simp only [Act.put, List.setIfInBounds_toArray, List.set_cons_zero, List.set_cons_succ]
  refine wpAnyH_take (i := 5) (oi := { dst := some 56, op := Op.move (Operand.tmp 1), type := 3, pos := "law.go:37", after := #[{ on := 2, ground := Ground.guard }], guard := some (2, true) }) (v := undef) rfl (by kernel_rfl) (by kernel_rfl) (by kernel_rfl) (fun _ _ _ h => h) (Or.inr ⟨by rfl, rfl⟩) hHeld ?_
  simp only [Act.put, List.setIfInBounds_toArray, List.set_cons_zero, List.set_cons_succ]
  refine wpAnyH_take (i := 6) (oi := { dst := some 57, op := Op.call { callee := Callee.value (Operand.func 51), args := #[Operand.tmp 55, Operand.tmp 56], argTypes := #[34, 3] }, type := 34, pos := "law.go:37", after := #[{ on := 4, ground := Ground.data }, { on := 5, ground := Ground.data }, { on := 2, ground := Ground.chain }, { on := 2, ground := Ground.guard }], guard := some (2, true) }) (v := undef) rfl (by kernel_rfl) (by kernel_rfl) (by kernel_rfl) (fun _ _ _ h => h) (Or.inr ⟨by rfl, rfl⟩) hHeld ?_
  simp only [Act.put, List.setIfInBounds_toArray, List.set_cons_zero, List.set_cons_succ]
  refine wpAnyH_take (i := 7) (oi := { dst := some 58, op := Op.call { callee := Callee.value (Operand.func 20), args := #[Operand.tmp 54, Operand.tmp 57], argTypes := #[26, 34] }, type := 4, pos := "law.go:37", after := #[{ on := 3, ground := Ground.data }, { on := 6, ground := Ground.data }, { on := 6, ground := Ground.chain }, { on := 2, ground := Ground.guard }], guard := some (2, true) }) (v := undef) rfl (by kernel_rfl) (by kernel_rfl) (by kernel_rfl) (fun _ _ _ h => h) (Or.inr ⟨by rfl, rfl⟩) hHeld ?_
  simp only [Act.put, List.setIfInBounds_toArray, List.set_cons_zero, List.set_cons_succ]
  refine wpAnyH_take (i := 8) (oi := { dst := some 59, op := Op.unOp UnOp.not 4 (Operand.tmp 58), type := 4, pos := "law.go:37", after := #[{ on := 7, ground := Ground.data }, { on := 2, ground := Ground.guard }], guard := some (2, true) }) (v := undef) rfl (by kernel_rfl) (by kernel_rfl) (by kernel_rfl) (fun _ _ _ h => h) (Or.inr ⟨by rfl, rfl⟩) hHeld ?_
  simp only [Act.put, List.setIfInBounds_toArray, List.set_cons_zero, List.set_cons_succ]
  refine wpAnyH_take (i := 9) (oi := { dst := some 60, op := Op.move (Operand.tmp 59), type := 4, pos := "law.go:37", after := #[{ on := 8, ground := Ground.data }, { on := 7, ground := Ground.chain }, { on := 2, ground := Ground.guard }], guard := some (2, true) }) (v := undef) rfl (by kernel_rfl) (by kernel_rfl) (by kernel_rfl) (fun _ _ _ h => h) (Or.inr ⟨by rfl, rfl⟩) hHeld ?_
  simp only [Act.put, List.setIfInBounds_toArray, List.set_cons_zero, List.set_cons_succ]
  refine wpAnyH_take (i := 10) (oi := { dst := some 61, op := Op.load 26 (Operand.tmp 8), type := 26, pos := "law.go:37", after := #[{ on := 9, ground := Ground.guard }], guard := some (9, false) }) (v := undef) rfl (by kernel_rfl) (by kernel_rfl) (by kernel_rfl) (fun _ _ _ h => h) (Or.inr ⟨by rfl, rfl⟩) hHeld ?_
  simp only [Act.put, List.setIfInBounds_toArray, List.set_cons_zero, List.set_cons_succ]
  refine wpAnyH_take (i := 11) (oi := { dst := some 62, op := Op.load 34 (Operand.tmp 5), type := 34, pos := "law.go:37", after := #[{ on := 9, ground := Ground.guard }], guard := some (9, false) }) (v := undef) rfl (by kernel_rfl) (by kernel_rfl) (by kernel_rfl) (fun _ _ _ h => h) (Or.inr ⟨by rfl, rfl⟩) hHeld ?_
  simp only [Act.put, List.setIfInBounds_toArray, List.set_cons_zero, List.set_cons_succ]
  refine wpAnyH_take (i := 12) (oi := { dst := some 63, op := Op.move (Operand.tmp 1), type := 3, pos := "law.go:37", after := #[{ on := 9, ground := Ground.guard }], guard := some (9, false) }) (v := undef) rfl (by kernel_rfl) (by kernel_rfl) (by kernel_rfl) (fun _ _ _ h => h) (Or.inr ⟨by rfl, rfl⟩) hHeld ?_
  simp only [Act.put, List.setIfInBounds_toArray, List.set_cons_zero, List.set_cons_succ]
  refine wpAnyH_take (i := 13) (oi := { dst := some 64, op := Op.call { callee := Callee.value (Operand.func 52), args := #[Operand.tmp 62, Operand.tmp 63], argTypes := #[34, 3] }, type := 34, pos := "law.go:37", after := #[{ on := 11, ground := Ground.data }, { on := 12, ground := Ground.data }, { on := 9, ground := Ground.chain }, { on := 9, ground := Ground.guard }], guard := some (9, false) }) (v := undef) rfl (by kernel_rfl) (by kernel_rfl) (by kernel_rfl) (fun _ _ _ h => h) (Or.inr ⟨by rfl, rfl⟩) hHeld ?_
  simp only [Act.put, List.setIfInBounds_toArray, List.set_cons_zero, List.set_cons_succ]
  refine wpAnyH_take (i := 14) (oi := { dst := some 65, op := Op.call { callee := Callee.value (Operand.func 20), args := #[Operand.tmp 61, Operand.tmp 64], argTypes := #[26, 34] }, type := 4, pos := "law.go:37", after := #[{ on := 10, ground := Ground.data }, { on := 13, ground := Ground.data }, { on := 13, ground := Ground.chain }, { on := 9, ground := Ground.guard }], guard := some (9, false) }) (v := undef) rfl (by kernel_rfl) (by kernel_rfl) (by kernel_rfl) (fun _ _ _ h => h) (Or.inr ⟨by rfl, rfl⟩) hHeld ?_
  simp only [Act.put, List.setIfInBounds_toArray, List.set_cons_zero, List.set_cons_succ]
  refine wpAnyH_take (i := 15) (oi := { dst := some 66, op := Op.unOp UnOp.not 4 (Operand.tmp 65), type := 4, pos := "law.go:37", after := #[{ on := 14, ground := Ground.data }, { on := 9, ground := Ground.guard }], guard := some (9, false) }) (v := undef) rfl (by kernel_rfl) (by kernel_rfl) (by kernel_rfl) (fun _ _ _ h => h) (Or.inr ⟨by rfl, rfl⟩) hHeld ?_
  simp only [Act.put, List.setIfInBounds_toArray, List.set_cons_zero, List.set_cons_succ]
  refine wpAnyH_take (i := 16) (oi := { dst := some 67, op := Op.pick (Operand.tmp 60) (Operand.const (Value.bool true)) (Operand.tmp 66), type := 4, pos := "law.go:37", after := #[{ on := 9, ground := Ground.data }, { on := 15, ground := Ground.data }, { on := 2, ground := Ground.guard }], guard := some (2, true) }) (v := undef) rfl (by kernel_rfl) (by kernel_rfl) (by kernel_rfl) (fun _ _ _ h => h) (Or.inr ⟨by rfl, rfl⟩) hHeld ?_
  simp only [Act.put, List.setIfInBounds_toArray, List.set_cons_zero, List.set_cons_succ]
  refine wpAnyH_take (i := 17) (oi := { dst := some 68, op := Op.pick (Operand.tmp 53) (Operand.tmp 67) (Operand.const (Value.bool false)), type := 4, pos := "law.go:37", after := #[{ on := 2, ground := Ground.data }, { on := 16, ground := Ground.data }], guard := none }) (v := ?_) rfl (by kernel_rfl) (by kernel_rfl) (by kernel_rfl) (fun _ _ _ h => h) (Or.inl ⟨by rfl, ?_⟩) hHeld ?_
  rotate_left
  · (intro w hSw; (try dsimp only at hSw); go_simp; try with_reducible rfl)
  simp only [Act.put, List.setIfInBounds_toArray, List.set_cons_zero, List.set_cons_succ]
  refine wpAnyH_done (by kernel_rfl) ?_ _
  clear hHeld
  have xa0 := XA.c0
  have xa1 := XA.c1
  have xa2 := XA.c2
  have xp0 := XP.c0
  have xp1 := XP.c1
  have xp2 := XP.c2
  have xl0 := XL.c0
  have xl1 := XL.c1
  have xl2 := XL.c2
  have xh0 := XH.c0
  have xh1 := XH.c1
  have xh2 := XH.c2
  go_upto_region 12 with (first
      | (go_at_call 53; (with_reducible refine (exact_not a HV.out HS.out (by decide) (by decide)).mono ?_); rintro e w_c ⟨rfl, hh⟩
         try replace a := a.below hh
         try replace XA := XA.below hh
         try replace x_ := x_.below hh
         try replace XP := XP.below hh
         try replace XL := XL.below hh
         try replace XH := XH.below hh
         replace hb := bend hb hh
         have xa0 := XA.c0
         have xa1 := XA.c1
         have xa2 := XA.c2
         have xp0 := XP.c0
         have xp1 := XP.c1
         have xp2 := XP.c2
         have xl0 := XL.c0
         have xl1 := XL.c1
         have xl2 := XL.c2
         have xh0 := XH.c0
         have xh1 := XH.c1
         have xh2 := XH.c2))
  generalize hW : (w_c.alloc (Obj.cells #[Value.bool false, Value.slice none 0 0, Value.slice none 0 0] 26)) = W5
  have hh : Below w_c.heap.size w_c W5 := by subst hW; exact ((Below.refl _ _).alloc (Nat.le_refl _) _)
  have XC : B3 W5 (w_c.heap.size) (Value.bool false) (Value.slice none 0 0) (Value.slice none 0 0) := by subst hW; exact B3.new' _ _ _ _ _ rfl
  have hzW5 : W5.heap.size = w_c.heap.size + 1 := by subst hW; simp
  clear hW
  try replace a := a.below hh
  try replace XA := XA.below hh
  try replace x_ := x_.below hh
  try replace XP := XP.below hh
  try replace XL := XL.below hh
  try replace XH := XH.below hh
  replace hb := bend hb hh
  have xa0 := XA.c0
  have xa1 := XA.c1
  have xa2 := XA.c2
  have xp0 := XP.c0
  have xp1 := XP.c1
  have xp2 := XP.c2
  have xl0 := XL.c0
  have xl1 := XL.c1
  have xl2 := XL.c2
  have xh0 := XH.c0
  have xh1 := XH.c1
  have xh2 := XH.c2
  have xc0 := XC.c0
  have xc1 := XC.c1
  have xc2 := XC.c2
  go_upto_region 13 with (first
      | (go_at_call 54; (with_reducible refine (of_not x_ HV.out (by decide) HS.out).mono ?_); rintro e w_e ⟨rfl, hh⟩
         try replace a := a.below hh
         try replace XA := XA.below hh
         try replace x_ := x_.below hh
         try replace XP := XP.below hh
         try replace XL := XL.below hh
         try replace XH := XH.below hh
         try replace XC := XC.below hh
         replace hb := bend hb hh
         have xa0 := XA.c0
         have xa1 := XA.c1
         have xa2 := XA.c2
         have xp0 := XP.c0
         have xp1 := XP.c1
         have xp2 := XP.c2
         have xl0 := XL.c0
         have xl1 := XL.c1
         have xl2 := XL.c2
         have xh0 := XH.c0
         have xh1 := XH.c1
         have xh2 := XH.c2
         have xc0 := XC.c0
         have xc1 := XC.c1
         have xc2 := XC.c2))
  generalize hW : (w_e.alloc (Obj.cells #[Value.bool false, Value.slice none 0 0, Value.slice none 0 0, Value.bool false] 70)) = W6
  have hh : Below w_e.heap.size w_e W6 := by subst hW; exact ((Below.refl _ _).alloc (Nat.le_refl _) _)
  have XE : B4E W6 (w_e.heap.size) (Value.bool false) (Value.slice none 0 0) (Value.slice none 0 0) (Value.bool false) := by subst hW; exact B4E.new' _ _ _ _ _ _ rfl
  have hzW6 : W6.heap.size = w_e.heap.size + 1 := by subst hW; simp
  clear hW
  try replace a := a.below hh
  try replace XA := XA.below hh
  try replace x_ := x_.below hh
  try replace XP := XP.below hh
  try replace XL := XL.below hh
  try replace XH := XH.below hh
  try replace XC := XC.below hh
  replace hb := bend hb hh
  have xa0 := XA.c0
  have xa1 := XA.c1
  have xa2 := XA.c2
  have xp0 := XP.c0
  have xp1 := XP.c1
  have xp2 := XP.c2
  have xl0 := XL.c0
  have xl1 := XL.c1
  have xl2 := XL.c2
  have xh0 := XH.c0
  have xh1 := XH.c1
  have xh2 := XH.c2
  have xc0 := XC.c0
  have xc1 := XC.c1
  have xc2 := XC.c2
  have xe0 := XE.c0
  have xe1 := XE.c1
  have xe2 := XE.c2
  have xe3 := XE.c3
  go_wp2_with (first
      | (go_at_call 47; (with_reducible refine (rwakes_any _).mono ?_); rintro e w_z ⟨rfl, hh⟩
         try replace a := a.below hh
         try replace XA := XA.below hh
         try replace x_ := x_.below hh
         try replace XP := XP.below hh
         try replace XL := XL.below hh
         try replace XH := XH.below hh
         try replace XC := XC.below hh
         try replace XE := XE.below hh
         replace hb := bend hb hh))
  go_ret
  exact ⟨rfl, hb⟩
set_option maxRecDepth 100000 in
set_option maxHeartbeats 8000000 in
theorem brac_hi_sq {w : World} {s : Bool} {A A' : Option Addr} {n c n' c' : Nat} (j : Int) (hj : 4096 < j) {va : Rat} (a : QR w s A n c A' n' c' va 8) (hl : decide (n ≤ 8 ∧ n' ≤ 8) = true) {x y : Nat} (hv : 0 ≤ va) (h1 : x * x = va.num.natAbs) (h2 : y * y = va.den) :
    Calls Tryz.prog 6 #[.agg #[.bool s, .slice A n c, .slice A' n' c'], .int .i64 j] w fun e w' => e = .returned (.bool true) ∧ Below w.heap.size w w' := by
  have HL := Lib.hid hl
  have HV := Lib.hid hv
  have H1 := Lib.hid h1
  have H2 := Lib.hid h2
  have HQ : Hid (va = mkRat (iv false x) y * mkRat (iv false x) y) := sq_of hv h1 h2
  have HU : Hid (0 ≤ mkRat (iv false x) y) := sqp_nn x y
  clear h1 h2
  have hg1 : 300 < j := by omega
  have hg2 : ¬ j ≤ 4096 := by omega
  have HJ : Hid (j < 0 ∨ 4096 < j) := .inr hj
  clear hl hv hj
  go_enter Tryz.func6, Tryz.ntmps6
  go_wp2_with fail
  generalize hW : (w.alloc (Obj.cells #[Value.bool s, Value.slice A n c, Value.slice A' n' c'] 26)) = W
  have hb : Below w.heap.size w W := by subst hW; exact ((Below.refl _ _).alloc (Nat.le_refl _) _)
  have XA : B3 W (w.heap.size) (Value.bool s) (Value.slice A n c) (Value.slice A' n' c') := by subst hW; exact B3.new' _ _ _ _ _ rfl
  have hzW : W.heap.size = w.heap.size + 1 := by subst hW; simp
  clear hW
  replace a := a.below hb
  have xa0 := XA.c0
  have xa1 := XA.c1
  have xa2 := XA.c2
  go_upto_region 4 with (first
      | (go_at_call 46; (with_reducible refine (small_8 _ true HL.out).mono ?_); rintro e w_z ⟨rfl, hh⟩
         try replace a := a.below hh
         try replace XA := XA.below hh
         replace hb := bend hb hh
         have xa0 := XA.c0
         have xa1 := XA.c1
         have xa2 := XA.c2)
      | (go_at_call 16; (with_reducible refine (rin3 a (by decide) (by decide)).mono ?_); rintro e w_x ⟨s_x_, A_x_, n_x_, c_x_, B_x_, m_x_, d_x_, rfl, x_, hh⟩
         try replace a := a.below hh
         try replace XA := XA.below hh
         replace hb := bend hb hh
         have xa0 := XA.c0
         have xa1 := XA.c1
         have xa2 := XA.c2))
  generalize hW : (w_x.alloc (Obj.cells #[Value.bool s_x_, Value.slice A_x_ n_x_ c_x_, Value.slice B_x_ m_x_ d_x_] 34)) = W2
  have hh : Below w_x.heap.size w_x W2 := by subst hW; exact ((Below.refl _ _).alloc (Nat.le_refl _) _)
  have XP : B3R W2 (w_x.heap.size) (Value.bool s_x_) (Value.slice A_x_ n_x_ c_x_) (Value.slice B_x_ m_x_ d_x_) := by subst hW; exact B3R.new' _ _ _ _ _ rfl
  have hzW2 : W2.heap.size = w_x.heap.size + 1 := by subst hW; simp
  clear hW
  try replace a := a.below hh
  try replace XA := XA.below hh
  try replace x_ := x_.below hh
  replace hb := bend hb hh
  have xa0 := XA.c0
  have xa1 := XA.c1
  have xa2 := XA.c2
  have xp0 := XP.c0
  have xp1 := XP.c1
  have xp2 := XP.c2
  go_upto_region 5 with (first
      | (go_at_call 48; (with_reducible refine (low_arg j HJ.out).mono ?_); rintro e w_l ⟨rfl, hh⟩
         try replace a := a.below hh
         try replace XA := XA.below hh
         try replace x_ := x_.below hh
         try replace XP := XP.below hh
         replace hb := bend hb hh
         have xa0 := XA.c0
         have xa1 := XA.c1
         have xa2 := XA.c2
         have xp0 := XP.c0
         have xp1 := XP.c1
         have xp2 := XP.c2))
  generalize hW : (w_l.alloc (Obj.cells #[Value.bool false, Value.slice none 0 0, Value.slice none 0 0] 26)) = W3
  have hh : Below w_l.heap.size w_l W3 := by subst hW; exact ((Below.refl _ _).alloc (Nat.le_refl _) _)
  have XL : B3 W3 (w_l.heap.size) (Value.bool false) (Value.slice none 0 0) (Value.slice none 0 0) := by subst hW; exact B3.new' _ _ _ _ _ rfl
  have hzW3 : W3.heap.size = w_l.heap.size + 1 := by subst hW; simp
  clear hW
  try replace a := a.below hh
  try replace XA := XA.below hh
  try replace x_ := x_.below hh
  try replace XP := XP.below hh
  replace hb := bend hb hh
  have xa0 := XA.c0
  have xa1 := XA.c1
  have xa2 := XA.c2
  have xp0 := XP.c0
  have xp1 := XP.c1
  have xp2 := XP.c2
  have xl0 := XL.c0
  have xl1 := XL.c1
  have xl2 := XL.c2
  go_upto_region 6 with (first
      | (go_at_call 49; (with_reducible refine (high_arg j HJ.out).mono ?_); rintro e w_h ⟨rfl, hh⟩
         try replace a := a.below hh
         try replace XA := XA.below hh
         try replace x_ := x_.below hh
         try replace XP := XP.below hh
         try replace XL := XL.below hh
         replace hb := bend hb hh
         have xa0 := XA.c0
         have xa1 := XA.c1
         have xa2 := XA.c2
         have xp0 := XP.c0
         have xp1 := XP.c1
         have xp2 := XP.c2
         have xl0 := XL.c0
         have xl1 := XL.c1
         have xl2 := XL.c2))
  generalize hW : (w_h.alloc (Obj.cells #[Value.bool false, Value.slice none 0 0, Value.slice none 0 0] 26)) = W4
  have hh : Below w_h.heap.size w_h W4 := by subst hW; exact ((Below.refl _ _).alloc (Nat.le_refl _) _)
  have XH : B3 W4 (w_h.heap.size) (Value.bool false) (Value.slice none 0 0) (Value.slice none 0 0) := by subst hW; exact B3.new' _ _ _ _ _ rfl
  have hzW4 : W4.heap.size = w_h.heap.size + 1 := by subst hW; simp
  clear hW
  try replace a := a.below hh
  try replace XA := XA.below hh
  try replace x_ := x_.below hh
  try replace XP := XP.below hh
  try replace XL := XL.below hh
  replace hb := bend hb hh
  have xa0 := XA.c0
  have xa1 := XA.c1
  have xa2 := XA.c2
  have xp0 := XP.c0
  have xp1 := XP.c1
  have xp2 := XP.c2
  have xl0 := XL.c0
  have xl1 := XL.c1
  have xl2 := XL.c2
  have xh0 := XH.c0
  have xh1 := XH.c1
  have xh2 := XH.c2
  go_upto_region 9 with (first
      | (go_at_call 50; (with_reducible refine (may_arg j HJ.out).mono ?_); rintro e w_z ⟨rfl, hh⟩
         try replace a := a.below hh
         try replace XA := XA.below hh
         try replace x_ := x_.below hh
         try replace XP := XP.below hh
         try replace XL := XL.below hh
         try replace XH := XH.below hh
         replace hb := bend hb hh
         have xa0 := XA.c0
         have xa1 := XA.c1
         have xa2 := XA.c2
         have xp0 := XP.c0
         have xp1 := XP.c1
         have xp2 := XP.c2
         have xl0 := XL.c0
         have xl1 := XL.c1
         have xl2 := XL.c2
         have xh0 := XH.c0
         have xh1 := XH.c1
         have xh2 := XH.c2))
  replace a := a.below (Below.refl _ _).drew
  replace XA := XA.below (Below.refl _ _).drew
  replace x_ := x_.below (Below.refl _ _).drew
  replace XP := XP.below (Below.refl _ _).drew
  replace XL := XL.below (Below.refl _ _).drew
  replace XH := XH.below (Below.refl _ _).drew
  replace hb := hb.drew
  refine wp_region_held_drew (S := (fun w' => w'.cell? ⟨w.heap.size, 0, none⟩ = some (.bool s) ∧ w'.cell? ⟨w.heap.size, 1, none⟩ = some (.slice A n c) ∧ w'.cell? ⟨w.heap.size, 2, none⟩ = some (.slice A' n' c') ∧ w'.cell? ⟨w_x.heap.size, 0, none⟩ = some (.bool s_x_) ∧ w'.cell? ⟨w_x.heap.size, 1, none⟩ = some (.slice A_x_ n_x_ c_x_) ∧ w'.cell? ⟨w_x.heap.size, 2, none⟩ = some (.slice B_x_ m_x_ d_x_) ∧ w'.cell? ⟨w_l.heap.size, 0, none⟩ = some (.bool false) ∧ w'.cell? ⟨w_l.heap.size, 1, none⟩ = some (.slice none 0 0) ∧ w'.cell? ⟨w_l.heap.size, 2, none⟩ = some (.slice none 0 0) ∧ w'.cell? ⟨w_h.heap.size, 0, none⟩ = some (.bool false) ∧ w'.cell? ⟨w_h.heap.size, 1, none⟩ = some (.slice none 0 0) ∧ w'.cell? ⟨w_h.heap.size, 2, none⟩ = some (.slice none 0 0))) (by kernel_rfl) ⟨XA.c0, XA.c1, XA.c2, XP.c0, XP.c1, XP.c2, XL.c0, XL.c1, XL.c2, XH.c0, XH.c1, XH.c2⟩ (fun hHeld => ?_)
  refine wpAnyH_take (i := 0) (oi := { dst := some 51, op := Op.move (Operand.tmp 10), type := 3, pos := "law.go:37", after := #[], guard := none }) (v := ?_) rfl (by kernel_rfl) (by kernel_rfl) (by kernel_rfl) (fun _ _ _ h => h) (Or.inl ⟨by rfl, ?_⟩) hHeld ?_
  rotate_left
  · (intro w hSw; (try dsimp only at hSw); go_simp; try with_reducible rfl)
  simp only [Act.put, List.setIfInBounds_toArray, List.set_cons_zero, List.set_cons_succ]
  refine wpAnyH_take (i := 1) (oi := { dst := some 52, op := Op.binOp BinOp.eql 3 (Operand.tmp 51) (Operand.const (Value.int IntKind.i64 0)) 3, type := 4, pos := "law.go:37", after := #[{ on := 0, ground := Ground.data }], guard := none }) (v := ?_) rfl (by kernel_rfl) (by kernel_rfl) (by kernel_rfl) (fun _ _ _ h => h) (Or.inl ⟨by rfl, ?_⟩) hHeld ?_
  rotate_left
  · (intro w hSw; (try dsimp only at hSw); go_simp; try with_reducible rfl)
  simp only [Act.put, List.setIfInBounds_toArray, List.set_cons_zero, List.set_cons_succ]
  refine wpAnyH_take (i := 2) (oi := { dst := some 53, op := Op.move (Operand.tmp 52), type := 4, pos := "law.go:37", after := #[{ on := 1, ground := Ground.data }], guard := none }) (v := ?_) rfl (by kernel_rfl) (by kernel_rfl) (by kernel_rfl) (fun _ _ _ h => h) (Or.inl ⟨by rfl, ?_⟩) hHeld ?_
  rotate_left
  · (intro w hSw; (try dsimp only at hSw); go_simp; try with_reducible rfl)
  simp only [Act.put, List.setIfInBounds_toArray, List.set_cons_zero, List.set_cons_succ]
  refine wpAnyH_take (i := 3) (oi := { dst := some 54, op := Op.load 26 (Operand.tmp 6), type := 26, pos := "law.go:37", after := #[{ on := 2, ground := Ground.guard }], guard := some (2, true) }) (v := undef) rfl (by kernel_rfl) (by kernel_rfl) (by kernel_rfl) (fun _ _ _ h => h) (Or.inr ⟨by rfl, rfl⟩) hHeld ?_
  simp only [Act.put, List.setIfInBounds_toArray, List.set_cons_zero, List.set_cons_succ]
  refine wpAnyH_take (i := 4) (oi := { dst := some 55, op := Op.load 34 (Operand.tmp 5), type := 34, pos := "law.go:37", after := #[{ on := 2, ground := Ground.guard }], guard := some (2, true) }) (v := undef) rfl (by kernel_rfl) (by kernel_rfl) (by kernel_rfl) (fun _ _ _ h => h) (Or.inr ⟨by rfl, rfl⟩) hHeld ?_
  simp only [Act.put, List.setIfInBounds_toArray, List.set_cons_zero, List.set_cons_succ]
  refine wpAnyH_take (i := 5) (oi := { dst := some 56, op := Op.move (Operand.tmp 1), type := 3, pos := "law.go:37", after := #[{ on := 2, ground := Ground.guard }], guard := some (2, true) }) (v := undef) rfl (by kernel_rfl) (by kernel_rfl) (by kernel_rfl) (fun _ _ _ h => h) (Or.inr ⟨by rfl, rfl⟩) hHeld ?_
  simp only [Act.put, List.setIfInBounds_toArray, List.set_cons_zero, List.set_cons_succ]
  refine wpAnyH_take (i := 6) (oi := { dst := some 57, op := Op.call { callee := Callee.value (Operand.func 51), args := #[Operand.tmp 55, Operand.tmp 56], argTypes := #[34, 3] }, type := 34, pos := "law.go:37", after := #[{ on := 4, ground := Ground.data }, { on := 5, ground := Ground.data }, { on := 2, ground := Ground.chain }, { on := 2, ground := Ground.guard }], guard := some (2, true) }) (v := undef) rfl (by kernel_rfl) (by kernel_rfl) (by kernel_rfl) (fun _ _ _ h => h) (Or.inr ⟨by rfl, rfl⟩) hHeld ?_
  simp only [Act.put, List.setIfInBounds_toArray, List.set_cons_zero, List.set_cons_succ]
  refine wpAnyH_take (i := 7) (oi := { dst := some 58, op := Op.call { callee := Callee.value (Operand.func 20), args := #[Operand.tmp 54, Operand.tmp 57], argTypes := #[26, 34] }, type := 4, pos := "law.go:37", after := #[{ on := 3, ground := Ground.data }, { on := 6, ground := Ground.data }, { on := 6, ground := Ground.chain }, { on := 2, ground := Ground.guard }], guard := some (2, true) }) (v := undef) rfl (by kernel_rfl) (by kernel_rfl) (by kernel_rfl) (fun _ _ _ h => h) (Or.inr ⟨by rfl, rfl⟩) hHeld ?_
  simp only [Act.put, List.setIfInBounds_toArray, List.set_cons_zero, List.set_cons_succ]
  refine wpAnyH_take (i := 8) (oi := { dst := some 59, op := Op.unOp UnOp.not 4 (Operand.tmp 58), type := 4, pos := "law.go:37", after := #[{ on := 7, ground := Ground.data }, { on := 2, ground := Ground.guard }], guard := some (2, true) }) (v := undef) rfl (by kernel_rfl) (by kernel_rfl) (by kernel_rfl) (fun _ _ _ h => h) (Or.inr ⟨by rfl, rfl⟩) hHeld ?_
  simp only [Act.put, List.setIfInBounds_toArray, List.set_cons_zero, List.set_cons_succ]
  refine wpAnyH_take (i := 9) (oi := { dst := some 60, op := Op.move (Operand.tmp 59), type := 4, pos := "law.go:37", after := #[{ on := 8, ground := Ground.data }, { on := 7, ground := Ground.chain }, { on := 2, ground := Ground.guard }], guard := some (2, true) }) (v := undef) rfl (by kernel_rfl) (by kernel_rfl) (by kernel_rfl) (fun _ _ _ h => h) (Or.inr ⟨by rfl, rfl⟩) hHeld ?_
  simp only [Act.put, List.setIfInBounds_toArray, List.set_cons_zero, List.set_cons_succ]
  refine wpAnyH_take (i := 10) (oi := { dst := some 61, op := Op.load 26 (Operand.tmp 8), type := 26, pos := "law.go:37", after := #[{ on := 9, ground := Ground.guard }], guard := some (9, false) }) (v := undef) rfl (by kernel_rfl) (by kernel_rfl) (by kernel_rfl) (fun _ _ _ h => h) (Or.inr ⟨by rfl, rfl⟩) hHeld ?_
  simp only [Act.put, List.setIfInBounds_toArray, List.set_cons_zero, List.set_cons_succ]
  refine wpAnyH_take (i := 11) (oi := { dst := some 62, op := Op.load 34 (Operand.tmp 5), type := 34, pos := "law.go:37", after := #[{ on := 9, ground := Ground.guard }], guard := some (9, false) }) (v := undef) rfl (by kernel_rfl) (by kernel_rfl) (by kernel_rfl) (fun _ _ _ h => h) (Or.inr ⟨by rfl, rfl⟩) hHeld ?_
  simp only [Act.put, List.setIfInBounds_toArray, List.set_cons_zero, List.set_cons_succ]
  refine wpAnyH_take (i := 12) (oi := { dst := some 63, op := Op.move (Operand.tmp 1), type := 3, pos := "law.go:37", after := #[{ on := 9, ground := Ground.guard }], guard := some (9, false) }) (v := undef) rfl (by kernel_rfl) (by kernel_rfl) (by kernel_rfl) (fun _ _ _ h => h) (Or.inr ⟨by rfl, rfl⟩) hHeld ?_
  simp only [Act.put, List.setIfInBounds_toArray, List.set_cons_zero, List.set_cons_succ]
  refine wpAnyH_take (i := 13) (oi := { dst := some 64, op := Op.call { callee := Callee.value (Operand.func 52), args := #[Operand.tmp 62, Operand.tmp 63], argTypes := #[34, 3] }, type := 34, pos := "law.go:37", after := #[{ on := 11, ground := Ground.data }, { on := 12, ground := Ground.data }, { on := 9, ground := Ground.chain }, { on := 9, ground := Ground.guard }], guard := some (9, false) }) (v := undef) rfl (by kernel_rfl) (by kernel_rfl) (by kernel_rfl) (fun _ _ _ h => h) (Or.inr ⟨by rfl, rfl⟩) hHeld ?_
  simp only [Act.put, List.setIfInBounds_toArray, List.set_cons_zero, List.set_cons_succ]
  refine wpAnyH_take (i := 14) (oi := { dst := some 65, op := Op.call { callee := Callee.value (Operand.func 20), args := #[Operand.tmp 61, Operand.tmp 64], argTypes := #[26, 34] }, type := 4, pos := "law.go:37", after := #[{ on := 10, ground := Ground.data }, { on := 13, ground := Ground.data }, { on := 13, ground := Ground.chain }, { on := 9, ground := Ground.guard }], guard := some (9, false) }) (v := undef) rfl (by kernel_rfl) (by kernel_rfl) (by kernel_rfl) (fun _ _ _ h => h) (Or.inr ⟨by rfl, rfl⟩) hHeld ?_
  simp only [Act.put, List.setIfInBounds_toArray, List.set_cons_zero, List.set_cons_succ]
  refine wpAnyH_take (i := 15) (oi := { dst := some 66, op := Op.unOp UnOp.not 4 (Operand.tmp 65), type := 4, pos := "law.go:37", after := #[{ on := 14, ground := Ground.data }, { on := 9, ground := Ground.guard }], guard := some (9, false) }) (v := undef) rfl (by kernel_rfl) (by kernel_rfl) (by kernel_rfl) (fun _ _ _ h => h) (Or.inr ⟨by rfl, rfl⟩) hHeld ?_
  simp only [Act.put, List.setIfInBounds_toArray, List.set_cons_zero, List.set_cons_succ]
  refine wpAnyH_take (i := 16) (oi := { dst := some 67, op := Op.pick (Operand.tmp 60) (Operand.const (Value.bool true)) (Operand.tmp 66), type := 4, pos := "law.go:37", after := #[{ on := 9, ground := Ground.data }, { on := 15, ground := Ground.data }, { on := 2, ground := Ground.guard }], guard := some (2, true) }) (v := undef) rfl (by kernel_rfl) (by kernel_rfl) (by kernel_rfl) (fun _ _ _ h => h) (Or.inr ⟨by rfl, rfl⟩) hHeld ?_
  simp only [Act.put, List.setIfInBounds_toArray, List.set_cons_zero, List.set_cons_succ]
  refine wpAnyH_take (i := 17) (oi := { dst := some 68, op := Op.pick (Operand.tmp 53) (Operand.tmp 67) (Operand.const (Value.bool false)), type := 4, pos := "law.go:37", after := #[{ on := 2, ground := Ground.data }, { on := 16, ground := Ground.data }], guard := none }) (v := ?_) rfl (by kernel_rfl) (by kernel_rfl) (by kernel_rfl) (fun _ _ _ h => h) (Or.inl ⟨by rfl, ?_⟩) hHeld ?_
  rotate_left
  · (intro w hSw; (try dsimp only at hSw); go_simp; try with_reducible rfl)
  simp only [Act.put, List.setIfInBounds_toArray, List.set_cons_zero, List.set_cons_succ]
  refine wpAnyH_done (by kernel_rfl) ?_ _
  clear hHeld
  have xa0 := XA.c0
  have xa1 := XA.c1
  have xa2 := XA.c2
  have xp0 := XP.c0
  have xp1 := XP.c1
  have xp2 := XP.c2
  have xl0 := XL.c0
  have xl1 := XL.c1
  have xl2 := XL.c2
  have xh0 := XH.c0
  have xh1 := XH.c1
  have xh2 := XH.c2
  go_upto_region 12 with (first
      | (go_at_call 53; (with_reducible refine (exact_sq a HU.out HQ.out (by decide) (by decide)).mono ?_); rintro e w_c ⟨s_cc, A_cc, n_cc, c_cc, B_cc, m_cc, d_cc, rfl, cc, hh⟩
         try replace a := a.below hh
         try replace XA := XA.below hh
         try replace x_ := x_.below hh
         try replace XP := XP.below hh
         try replace XL := XL.below hh
         try replace XH := XH.below hh
         replace hb := bend hb hh
         have xa0 := XA.c0
         have xa1 := XA.c1
         have xa2 := XA.c2
         have xp0 := XP.c0
         have xp1 := XP.c1
         have xp2 := XP.c2
         have xl0 := XL.c0
         have xl1 := XL.c1
         have xl2 := XL.c2
         have xh0 := XH.c0
         have xh1 := XH.c1
         have xh2 := XH.c2))
  generalize hW : (w_c.alloc (Obj.cells #[Value.bool s_cc, Value.slice A_cc n_cc c_cc, Value.slice B_cc m_cc d_cc] 26)) = W5
  have hh : Below w_c.heap.size w_c W5 := by subst hW; exact ((Below.refl _ _).alloc (Nat.le_refl _) _)
  have XC : B3 W5 (w_c.heap.size) (Value.bool s_cc) (Value.slice A_cc n_cc c_cc) (Value.slice B_cc m_cc d_cc) := by subst hW; exact B3.new' _ _ _ _ _ rfl
  have hzW5 : W5.heap.size = w_c.heap.size + 1 := by subst hW; simp
  clear hW
  try replace a := a.below hh
  try replace XA := XA.below hh
  try replace x_ := x_.below hh
  try replace XP := XP.below hh
  try replace XL := XL.below hh
  try replace XH := XH.below hh
  try replace cc := cc.below hh
  replace hb := bend hb hh
  have xa0 := XA.c0
  have xa1 := XA.c1
  have xa2 := XA.c2
  have xp0 := XP.c0
  have xp1 := XP.c1
  have xp2 := XP.c2
  have xl0 := XL.c0
  have xl1 := XL.c1
  have xl2 := XL.c2
  have xh0 := XH.c0
  have xh1 := XH.c1
  have xh2 := XH.c2
  have xc0 := XC.c0
  have xc1 := XC.c1
  have xc2 := XC.c2
  go_upto_region 13 with (first
      | (go_at_call 54; (with_reducible refine (of_yes x_ HV.out (by decide) H1.out H2.out).mono ?_); rintro e w_e ⟨s_ee, A_ee, n_ee, c_ee, B_ee, m_ee, d_ee, rfl, ee, hh⟩
         try replace a := a.below hh
         try replace XA := XA.below hh
         try replace x_ := x_.below hh
         try replace XP := XP.below hh
         try replace XL := XL.below hh
         try replace XH := XH.below hh
         try replace cc := cc.below hh
         try replace XC := XC.below hh
         replace hb := bend hb hh
         have xa0 := XA.c0
         have xa1 := XA.c1
         have xa2 := XA.c2
         have xp0 := XP.c0
         have xp1 := XP.c1
         have xp2 := XP.c2
         have xl0 := XL.c0
         have xl1 := XL.c1
         have xl2 := XL.c2
         have xh0 := XH.c0
         have xh1 := XH.c1
         have xh2 := XH.c2
         have xc0 := XC.c0
         have xc1 := XC.c1
         have xc2 := XC.c2))
  generalize hW : (w_e.alloc (Obj.cells #[Value.bool s_ee, Value.slice A_ee n_ee c_ee, Value.slice B_ee m_ee d_ee, Value.bool true] 70)) = W6
  have hh : Below w_e.heap.size w_e W6 := by subst hW; exact ((Below.refl _ _).alloc (Nat.le_refl _) _)
  have XE : B4E W6 (w_e.heap.size) (Value.bool s_ee) (Value.slice A_ee n_ee c_ee) (Value.slice B_ee m_ee d_ee) (Value.bool true) := by subst hW; exact B4E.new' _ _ _ _ _ _ rfl
  have hzW6 : W6.heap.size = w_e.heap.size + 1 := by subst hW; simp
  clear hW
  try replace a := a.below hh
  try replace XA := XA.below hh
  try replace x_ := x_.below hh
  try replace XP := XP.below hh
  try replace XL := XL.below hh
  try replace XH := XH.below hh
  try replace cc := cc.below hh
  try replace XC := XC.below hh
  try replace ee := ee.below hh
  replace hb := bend hb hh
  have xa0 := XA.c0
  have xa1 := XA.c1
  have xa2 := XA.c2
  have xp0 := XP.c0
  have xp1 := XP.c1
  have xp2 := XP.c2
  have xl0 := XL.c0
  have xl1 := XL.c1
  have xl2 := XL.c2
  have xh0 := XH.c0
  have xh1 := XH.c1
  have xh2 := XH.c2
  have xc0 := XC.c0
  have xc1 := XC.c1
  have xc2 := XC.c2
  have xe0 := XE.c0
  have xe1 := XE.c1
  have xe2 := XE.c2
  have xe3 := XE.c3
  go_wp2_with (first
      | (go_at_call 20; (with_reducible refine (same3 cc ee rfl (by decide) (by decide)).mono ?_); rintro e w_z ⟨rfl, hh⟩
         try replace a := a.below hh
         try replace XA := XA.below hh
         try replace x_ := x_.below hh
         try replace XP := XP.below hh
         try replace XL := XL.below hh
         try replace XH := XH.below hh
         try replace cc := cc.below hh
         try replace XC := XC.below hh
         try replace ee := ee.below hh
         try replace XE := XE.below hh
         replace hb := bend hb hh
         have xa0 := XA.c0
         have xa1 := XA.c1
         have xa2 := XA.c2
         have xp0 := XP.c0
         have xp1 := XP.c1
         have xp2 := XP.c2
         have xl0 := XL.c0
         have xl1 := XL.c1
         have xl2 := XL.c2
         have xh0 := XH.c0
         have xh1 := XH.c1
         have xh2 := XH.c2
         have xc0 := XC.c0
         have xc1 := XC.c1
         have xc2 := XC.c2
         have xe0 := XE.c0
         have xe1 := XE.c1
         have xe2 := XE.c2
         have xe3 := XE.c3)
      | (go_at_call 47; (with_reducible refine (rwakes_any _).mono ?_); rintro e w_z ⟨rfl, hh⟩
         try replace a := a.below hh
         try replace XA := XA.below hh
         try replace x_ := x_.below hh
         try replace XP := XP.below hh
         try replace XL := XL.below hh
         try replace XH := XH.below hh
         try replace cc := cc.below hh
         try replace XC := XC.below hh
         try replace ee := ee.below hh
         try replace XE := XE.below hh
         replace hb := bend hb hh))
  go_ret
  exact ⟨rfl, hb⟩
set_option maxRecDepth 100000 in
set_option maxHeartbeats 8000000 in
theorem brac_neg_neg {w : World} {s : Bool} {A A' : Option Addr} {n c n' c' : Nat} (k : Nat) (hk : k ≤ 300) {va : Rat} (a : QR w s A n c A' n' c' va 8) (hl : decide (n ≤ 8 ∧ n' ≤ 8) = true) (hv : va < 0) :
    Calls Tryz.prog 6 #[.agg #[.bool s, .slice A n c, .slice A' n' c'], .int .i64 (k : Int)] w fun e w' => e = .returned (.bool true) ∧ Below w.heap.size w w' := by
  have HL := Lib.hid hl
  have HV := Lib.hid hv
  have hg1 : ¬ 300 < (k : Int) := by omega
  have HK : Hid (k ≤ 400 ∧ k ≤ 4096) := by show _ ∧ _; omega
  clear hl hv hk
  go_enter Tryz.func6, Tryz.ntmps6
  go_wp2_with fail
  generalize hW : (w.alloc (Obj.cells #[Value.bool s, Value.slice A n c, Value.slice A' n' c'] 26)) = W
  have hb : Below w.heap.size w W := by subst hW; exact ((Below.refl _ _).alloc (Nat.le_refl _) _)
  have XA : B3 W (w.heap.size) (Value.bool s) (Value.slice A n c) (Value.slice A' n' c') := by subst hW; exact B3.new' _ _ _ _ _ rfl
  have hzW : W.heap.size = w.heap.size + 1 := by subst hW; simp
  clear hW
  replace a := a.below hb
  have xa0 := XA.c0
  have xa1 := XA.c1
  have xa2 := XA.c2
  go_upto_region 4 with (first
      | (go_at_call 46; (with_reducible refine (small_8 _ true HL.out).mono ?_); rintro e w_z ⟨rfl, hh⟩
         try replace a := a.below hh
         try replace XA := XA.below hh
         replace hb := bend hb hh
         have xa0 := XA.c0
         have xa1 := XA.c1
         have xa2 := XA.c2)
      | (go_at_call 16; (with_reducible refine (rin3 a (by decide) (by decide)).mono ?_); rintro e w_x ⟨s_x_, A_x_, n_x_, c_x_, B_x_, m_x_, d_x_, rfl, x_, hh⟩
         try replace a := a.below hh
         try replace XA := XA.below hh
         replace hb := bend hb hh
         have xa0 := XA.c0
         have xa1 := XA.c1
         have xa2 := XA.c2))
  generalize hW : (w_x.alloc (Obj.cells #[Value.bool s_x_, Value.slice A_x_ n_x_ c_x_, Value.slice B_x_ m_x_ d_x_] 34)) = W2
  have hh : Below w_x.heap.size w_x W2 := by subst hW; exact ((Below.refl _ _).alloc (Nat.le_refl _) _)
  have XP : B3R W2 (w_x.heap.size) (Value.bool s_x_) (Value.slice A_x_ n_x_ c_x_) (Value.slice B_x_ m_x_ d_x_) := by subst hW; exact B3R.new' _ _ _ _ _ rfl
  have hzW2 : W2.heap.size = w_x.heap.size + 1 := by subst hW; simp
  clear hW
  try replace a := a.below hh
  try replace XA := XA.below hh
  try replace x_ := x_.below hh
  replace hb := bend hb hh
  have xa0 := XA.c0
  have xa1 := XA.c1
  have xa2 := XA.c2
  have xp0 := XP.c0
  have xp1 := XP.c1
  have xp2 := XP.c2
  go_upto_region 5 with (first
      | (go_at_call 48; (with_reducible refine (low_neg k a HV.out (by decide) (by decide) HK.out.2).mono ?_); rintro e w_l ⟨rfl, hh⟩
         try replace a := a.below hh
         try replace XA := XA.below hh
         try replace x_ := x_.below hh
         try replace XP := XP.below hh
         replace hb := bend hb hh
         have xa0 := XA.c0
         have xa1 := XA.c1
         have xa2 := XA.c2
         have xp0 := XP.c0
         have xp1 := XP.c1
         have xp2 := XP.c2))
  generalize hW : (w_l.alloc (Obj.cells #[Value.bool false, Value.slice none 0 0, Value.slice none 0 0] 26)) = W3
  have hh : Below w_l.heap.size w_l W3 := by subst hW; exact ((Below.refl _ _).alloc (Nat.le_refl _) _)
  have XL : B3 W3 (w_l.heap.size) (Value.bool false) (Value.slice none 0 0) (Value.slice none 0 0) := by subst hW; exact B3.new' _ _ _ _ _ rfl
  have hzW3 : W3.heap.size = w_l.heap.size + 1 := by subst hW; simp
  clear hW
  try replace a := a.below hh
  try replace XA := XA.below hh
  try replace x_ := x_.below hh
  try replace XP := XP.below hh
  replace hb := bend hb hh
  have xa0 := XA.c0
  have xa1 := XA.c1
  have xa2 := XA.c2
  have xp0 := XP.c0
  have xp1 := XP.c1
  have xp2 := XP.c2
  have xl0 := XL.c0
  have xl1 := XL.c1
  have xl2 := XL.c2
  go_upto_region 6 with (first
      | (go_at_call 49; (with_reducible refine (high_neg k a HV.out (by decide) (by decide) HK.out.2).mono ?_); rintro e w_h ⟨rfl, hh⟩
         try replace a := a.below hh
         try replace XA := XA.below hh
         try replace x_ := x_.below hh
         try replace XP := XP.below hh
         try replace XL := XL.below hh
         replace hb := bend hb hh
         have xa0 := XA.c0
         have xa1 := XA.c1
         have xa2 := XA.c2
         have xp0 := XP.c0
         have xp1 := XP.c1
         have xp2 := XP.c2
         have xl0 := XL.c0
         have xl1 := XL.c1
         have xl2 := XL.c2))
  generalize hW : (w_h.alloc (Obj.cells #[Value.bool false, Value.slice none 0 0, Value.slice none 0 0] 26)) = W4
  have hh : Below w_h.heap.size w_h W4 := by subst hW; exact ((Below.refl _ _).alloc (Nat.le_refl _) _)
  have XH : B3 W4 (w_h.heap.size) (Value.bool false) (Value.slice none 0 0) (Value.slice none 0 0) := by subst hW; exact B3.new' _ _ _ _ _ rfl
  have hzW4 : W4.heap.size = w_h.heap.size + 1 := by subst hW; simp
  clear hW
  try replace a := a.below hh
  try replace XA := XA.below hh
  try replace x_ := x_.below hh
  try replace XP := XP.below hh
  try replace XL := XL.below hh
  replace hb := bend hb hh
  have xa0 := XA.c0
  have xa1 := XA.c1
  have xa2 := XA.c2
  have xp0 := XP.c0
  have xp1 := XP.c1
  have xp2 := XP.c2
  have xl0 := XL.c0
  have xl1 := XL.c1
  have xl2 := XL.c2
  have xh0 := XH.c0
  have xh1 := XH.c1
  have xh2 := XH.c2
  go_upto_region 9 with (first
      | (go_at_call 50; (with_reducible refine (may_neg k x_ HV.out HK.out.2).mono ?_); rintro e w_z ⟨rfl, hh⟩
         try replace a := a.below hh
         try replace XA := XA.below hh
         try replace x_ := x_.below hh
         try replace XP := XP.below hh
         try replace XL := XL.below hh
         try replace XH := XH.below hh
         replace hb := bend hb hh
         have xa0 := XA.c0
         have xa1 := XA.c1
         have xa2 := XA.c2
         have xp0 := XP.c0
         have xp1 := XP.c1
         have xp2 := XP.c2
         have xl0 := XL.c0
         have xl1 := XL.c1
         have xl2 := XL.c2
         have xh0 := XH.c0
         have xh1 := XH.c1
         have xh2 := XH.c2))
  replace a := a.below (Below.refl _ _).drew
  replace XA := XA.below (Below.refl _ _).drew
  replace x_ := x_.below (Below.refl _ _).drew
  replace XP := XP.below (Below.refl _ _).drew
  replace XL := XL.below (Below.refl _ _).drew
  replace XH := XH.below (Below.refl _ _).drew
  replace hb := hb.drew
  refine wp_region_held_drew (S := (fun w' => w'.cell? ⟨w.heap.size, 0, none⟩ = some (.bool s) ∧ w'.cell? ⟨w.heap.size, 1, none⟩ = some (.slice A n c) ∧ w'.cell? ⟨w.heap.size, 2, none⟩ = some (.slice A' n' c') ∧ w'.cell? ⟨w_x.heap.size, 0, none⟩ = some (.bool s_x_) ∧ w'.cell? ⟨w_x.heap.size, 1, none⟩ = some (.slice A_x_ n_x_ c_x_) ∧ w'.cell? ⟨w_x.heap.size, 2, none⟩ = some (.slice B_x_ m_x_ d_x_) ∧ w'.cell? ⟨w_l.heap.size, 0, none⟩ = some (.bool false) ∧ w'.cell? ⟨w_l.heap.size, 1, none⟩ = some (.slice none 0 0) ∧ w'.cell? ⟨w_l.heap.size, 2, none⟩ = some (.slice none 0 0) ∧ w'.cell? ⟨w_h.heap.size, 0, none⟩ = some (.bool false) ∧ w'.cell? ⟨w_h.heap.size, 1, none⟩ = some (.slice none 0 0) ∧ w'.cell? ⟨w_h.heap.size, 2, none⟩ = some (.slice none 0 0))) (by kernel_rfl) ⟨XA.c0, XA.c1, XA.c2, XP.c0, XP.c1, XP.c2, XL.c0, XL.c1, XL.c2, XH.c0, XH.c1, XH.c2⟩ (fun hHeld => ?_)
  refine wpAnyH_take (i := 0) (oi := { dst := some 51, op := Op.move (Operand.tmp 10), type := 3, pos := "law.go:37", after := #[], guard := none }) (v := ?_) rfl (by kernel_rfl) (by kernel_rfl) (by kernel_rfl) (fun _ _ _ h => h) (Or.inl ⟨by rfl, ?_⟩) hHeld ?_
  rotate_left
  · (intro w hSw; (try dsimp only at hSw); go_simp; try with_reducible rfl)
  simp only [Act.put, List.setIfInBounds_toArray, List.set_cons_zero, List.set_cons_succ]
  refine wpAnyH_take (i := 1) (oi := { dst := some 52, op := Op.binOp BinOp.eql 3 (Operand.tmp 51) (Operand.const (Value.int IntKind.i64 0)) 3, type := 4, pos := "law.go:37", after := #[{ on := 0, ground := Ground.data }], guard := none }) (v := ?_) rfl (by kernel_rfl) (by kernel_rfl) (by kernel_rfl) (fun _ _ _ h => h) (Or.inl ⟨by rfl, ?_⟩) hHeld ?_
  rotate_left
  · (intro w hSw; (try dsimp only at hSw); go_simp; try with_reducible rfl)
  simp only [Act.put, List.setIfInBounds_toArray, List.set_cons_zero, List.set_cons_succ]
  refine wpAnyH_take (i := 2) (oi := { dst := some 53, op := Op.move (Operand.tmp 52), type := 4, pos := "law.go:37", after := #[{ on := 1, ground := Ground.data }], guard := none }) (v := ?_) rfl (by kernel_rfl) (by kernel_rfl) (by kernel_rfl) (fun _ _ _ h => h) (Or.inl ⟨by rfl, ?_⟩) hHeld ?_
  rotate_left
  · (intro w hSw; (try dsimp only at hSw); go_simp; try with_reducible rfl)
  simp only [Act.put, List.setIfInBounds_toArray, List.set_cons_zero, List.set_cons_succ]
  refine wpAnyH_take (i := 3) (oi := { dst := some 54, op := Op.load 26 (Operand.tmp 6), type := 26, pos := "law.go:37", after := #[{ on := 2, ground := Ground.guard }], guard := some (2, true) }) (v := undef) rfl (by kernel_rfl) (by kernel_rfl) (by kernel_rfl) (fun _ _ _ h => h) (Or.inr ⟨by rfl, rfl⟩) hHeld ?_
  simp only [Act.put, List.setIfInBounds_toArray, List.set_cons_zero, List.set_cons_succ]
  refine wpAnyH_take (i := 4) (oi := { dst := some 55, op := Op.load 34 (Operand.tmp 5), type := 34, pos := "law.go:37", after := #[{ on := 2, ground := Ground.guard }], guard := some (2, true) }) (v := undef) rfl (by kernel_rfl) (by kernel_rfl) (by kernel_rfl) (fun _ _ _ h => h) (Or.inr ⟨by rfl, rfl⟩) hHeld ?_
  simp only [Act.put, List.setIfInBounds_toArray, List.set_cons_zero, List.set_cons_succ]
  refine wpAnyH_take (i := 5) (oi := { dst := some 56, op := Op.move (Operand.tmp 1), type := 3, pos := "law.go:37", after := #[{ on := 2, ground := Ground.guard }], guard := some (2, true) }) (v := undef) rfl (by kernel_rfl) (by kernel_rfl) (by kernel_rfl) (fun _ _ _ h => h) (Or.inr ⟨by rfl, rfl⟩) hHeld ?_
  simp only [Act.put, List.setIfInBounds_toArray, List.set_cons_zero, List.set_cons_succ]
  refine wpAnyH_take (i := 6) (oi := { dst := some 57, op := Op.call { callee := Callee.value (Operand.func 51), args := #[Operand.tmp 55, Operand.tmp 56], argTypes := #[34, 3] }, type := 34, pos := "law.go:37", after := #[{ on := 4, ground := Ground.data }, { on := 5, ground := Ground.data }, { on := 2, ground := Ground.chain }, { on := 2, ground := Ground.guard }], guard := some (2, true) }) (v := undef) rfl (by kernel_rfl) (by kernel_rfl) (by kernel_rfl) (fun _ _ _ h => h) (Or.inr ⟨by rfl, rfl⟩) hHeld ?_
  simp only [Act.put, List.setIfInBounds_toArray, List.set_cons_zero, List.set_cons_succ]
  refine wpAnyH_take (i := 7) (oi := { dst := some 58, op := Op.call { callee := Callee.value (Operand.func 20), args := #[Operand.tmp 54, Operand.tmp 57], argTypes := #[26, 34] }, type := 4, pos := "law.go:37", after := #[{ on := 3, ground := Ground.data }, { on := 6, ground := Ground.data }, { on := 6, ground := Ground.chain }, { on := 2, ground := Ground.guard }], guard := some (2, true) }) (v := undef) rfl (by kernel_rfl) (by kernel_rfl) (by kernel_rfl) (fun _ _ _ h => h) (Or.inr ⟨by rfl, rfl⟩) hHeld ?_
  simp only [Act.put, List.setIfInBounds_toArray, List.set_cons_zero, List.set_cons_succ]
  refine wpAnyH_take (i := 8) (oi := { dst := some 59, op := Op.unOp UnOp.not 4 (Operand.tmp 58), type := 4, pos := "law.go:37", after := #[{ on := 7, ground := Ground.data }, { on := 2, ground := Ground.guard }], guard := some (2, true) }) (v := undef) rfl (by kernel_rfl) (by kernel_rfl) (by kernel_rfl) (fun _ _ _ h => h) (Or.inr ⟨by rfl, rfl⟩) hHeld ?_
  simp only [Act.put, List.setIfInBounds_toArray, List.set_cons_zero, List.set_cons_succ]
  refine wpAnyH_take (i := 9) (oi := { dst := some 60, op := Op.move (Operand.tmp 59), type := 4, pos := "law.go:37", after := #[{ on := 8, ground := Ground.data }, { on := 7, ground := Ground.chain }, { on := 2, ground := Ground.guard }], guard := some (2, true) }) (v := undef) rfl (by kernel_rfl) (by kernel_rfl) (by kernel_rfl) (fun _ _ _ h => h) (Or.inr ⟨by rfl, rfl⟩) hHeld ?_
  simp only [Act.put, List.setIfInBounds_toArray, List.set_cons_zero, List.set_cons_succ]
  refine wpAnyH_take (i := 10) (oi := { dst := some 61, op := Op.load 26 (Operand.tmp 8), type := 26, pos := "law.go:37", after := #[{ on := 9, ground := Ground.guard }], guard := some (9, false) }) (v := undef) rfl (by kernel_rfl) (by kernel_rfl) (by kernel_rfl) (fun _ _ _ h => h) (Or.inr ⟨by rfl, rfl⟩) hHeld ?_
  simp only [Act.put, List.setIfInBounds_toArray, List.set_cons_zero, List.set_cons_succ]
  refine wpAnyH_take (i := 11) (oi := { dst := some 62, op := Op.load 34 (Operand.tmp 5), type := 34, pos := "law.go:37", after := #[{ on := 9, ground := Ground.guard }], guard := some (9, false) }) (v := undef) rfl (by kernel_rfl) (by kernel_rfl) (by kernel_rfl) (fun _ _ _ h => h) (Or.inr ⟨by rfl, rfl⟩) hHeld ?_
  simp only [Act.put, List.setIfInBounds_toArray, List.set_cons_zero, List.set_cons_succ]
  refine wpAnyH_take (i := 12) (oi := { dst := some 63, op := Op.move (Operand.tmp 1), type := 3, pos := "law.go:37", after := #[{ on := 9, ground := Ground.guard }], guard := some (9, false) }) (v := undef) rfl (by kernel_rfl) (by kernel_rfl) (by kernel_rfl) (fun _ _ _ h => h) (Or.inr ⟨by rfl, rfl⟩) hHeld ?_
  simp only [Act.put, List.setIfInBounds_toArray, List.set_cons_zero, List.set_cons_succ]
  refine wpAnyH_take (i := 13) (oi := { dst := some 64, op := Op.call { callee := Callee.value (Operand.func 52), args := #[Operand.tmp 62, Operand.tmp 63], argTypes := #[34, 3] }, type := 34, pos := "law.go:37", after := #[{ on := 11, ground := Ground.data }, { on := 12, ground := Ground.data }, { on := 9, ground := Ground.chain }, { on := 9, ground := Ground.guard }], guard := some (9, false) }) (v := undef) rfl (by kernel_rfl) (by kernel_rfl) (by kernel_rfl) (fun _ _ _ h => h) (Or.inr ⟨by rfl, rfl⟩) hHeld ?_
  simp only [Act.put, List.setIfInBounds_toArray, List.set_cons_zero, List.set_cons_succ]
  refine wpAnyH_take (i := 14) (oi := { dst := some 65, op := Op.call { callee := Callee.value (Operand.func 20), args := #[Operand.tmp 61, Operand.tmp 64], argTypes := #[26, 34] }, type := 4, pos := "law.go:37", after := #[{ on := 10, ground := Ground.data }, { on := 13, ground := Ground.data }, { on := 13, ground := Ground.chain }, { on := 9, ground := Ground.guard }], guard := some (9, false) }) (v := undef) rfl (by kernel_rfl) (by kernel_rfl) (by kernel_rfl) (fun _ _ _ h => h) (Or.inr ⟨by rfl, rfl⟩) hHeld ?_
  simp only [Act.put, List.setIfInBounds_toArray, List.set_cons_zero, List.set_cons_succ]
  refine wpAnyH_take (i := 15) (oi := { dst := some 66, op := Op.unOp UnOp.not 4 (Operand.tmp 65), type := 4, pos := "law.go:37", after := #[{ on := 14, ground := Ground.data }, { on := 9, ground := Ground.guard }], guard := some (9, false) }) (v := undef) rfl (by kernel_rfl) (by kernel_rfl) (by kernel_rfl) (fun _ _ _ h => h) (Or.inr ⟨by rfl, rfl⟩) hHeld ?_
  simp only [Act.put, List.setIfInBounds_toArray, List.set_cons_zero, List.set_cons_succ]
  refine wpAnyH_take (i := 16) (oi := { dst := some 67, op := Op.pick (Operand.tmp 60) (Operand.const (Value.bool true)) (Operand.tmp 66), type := 4, pos := "law.go:37", after := #[{ on := 9, ground := Ground.data }, { on := 15, ground := Ground.data }, { on := 2, ground := Ground.guard }], guard := some (2, true) }) (v := undef) rfl (by kernel_rfl) (by kernel_rfl) (by kernel_rfl) (fun _ _ _ h => h) (Or.inr ⟨by rfl, rfl⟩) hHeld ?_
  simp only [Act.put, List.setIfInBounds_toArray, List.set_cons_zero, List.set_cons_succ]
  refine wpAnyH_take (i := 17) (oi := { dst := some 68, op := Op.pick (Operand.tmp 53) (Operand.tmp 67) (Operand.const (Value.bool false)), type := 4, pos := "law.go:37", after := #[{ on := 2, ground := Ground.data }, { on := 16, ground := Ground.data }], guard := none }) (v := ?_) rfl (by kernel_rfl) (by kernel_rfl) (by kernel_rfl) (fun _ _ _ h => h) (Or.inl ⟨by rfl, ?_⟩) hHeld ?_
  rotate_left
  · (intro w hSw; (try dsimp only at hSw); go_simp; try with_reducible rfl)
  simp only [Act.put, List.setIfInBounds_toArray, List.set_cons_zero, List.set_cons_succ]
  refine wpAnyH_done (by kernel_rfl) ?_ _
  clear hHeld
  have xa0 := XA.c0
  have xa1 := XA.c1
  have xa2 := XA.c2
  have xp0 := XP.c0
  have xp1 := XP.c1
  have xp2 := XP.c2
  have xl0 := XL.c0
  have xl1 := XL.c1
  have xl2 := XL.c2
  have xh0 := XH.c0
  have xh1 := XH.c1
  have xh2 := XH.c2
  go_upto_region 12 with (first
      | (go_at_call 53; (with_reducible refine (exact_neg a HV.out (by decide) (by decide)).mono ?_); rintro e w_c ⟨rfl, hh⟩
         try replace a := a.below hh
         try replace XA := XA.below hh
         try replace x_ := x_.below hh
         try replace XP := XP.below hh
         try replace XL := XL.below hh
         try replace XH := XH.below hh
         replace hb := bend hb hh
         have xa0 := XA.c0
         have xa1 := XA.c1
         have xa2 := XA.c2
         have xp0 := XP.c0
         have xp1 := XP.c1
         have xp2 := XP.c2
         have xl0 := XL.c0
         have xl1 := XL.c1
         have xl2 := XL.c2
         have xh0 := XH.c0
         have xh1 := XH.c1
         have xh2 := XH.c2))
  generalize hW : (w_c.alloc (Obj.cells #[Value.bool false, Value.slice none 0 0, Value.slice none 0 0] 26)) = W5
  have hh : Below w_c.heap.size w_c W5 := by subst hW; exact ((Below.refl _ _).alloc (Nat.le_refl _) _)
  have XC : B3 W5 (w_c.heap.size) (Value.bool false) (Value.slice none 0 0) (Value.slice none 0 0) := by subst hW; exact B3.new' _ _ _ _ _ rfl
  have hzW5 : W5.heap.size = w_c.heap.size + 1 := by subst hW; simp
  clear hW
  try replace a := a.below hh
  try replace XA := XA.below hh
  try replace x_ := x_.below hh
  try replace XP := XP.below hh
  try replace XL := XL.below hh
  try replace XH := XH.below hh
  replace hb := bend hb hh
  have xa0 := XA.c0
  have xa1 := XA.c1
  have xa2 := XA.c2
  have xp0 := XP.c0
  have xp1 := XP.c1
  have xp2 := XP.c2
  have xl0 := XL.c0
  have xl1 := XL.c1
  have xl2 := XL.c2
  have xh0 := XH.c0
  have xh1 := XH.c1
  have xh2 := XH.c2
  have xc0 := XC.c0
  have xc1 := XC.c1
  have xc2 := XC.c2
  go_upto_region 13 with (first
      | (go_at_call 54; (with_reducible refine (of_neg x_ HV.out).mono ?_); rintro e w_e ⟨rfl, hh⟩
         try replace a := a.below hh
         try replace XA := XA.below hh
         try replace x_ := x_.below hh
         try replace XP := XP.below hh
         try replace XL := XL.below hh
         try replace XH := XH.below hh
         try replace XC := XC.below hh
         replace hb := bend hb hh
         have xa0 := XA.c0
         have xa1 := XA.c1
         have xa2 := XA.c2
         have xp0 := XP.c0
         have xp1 := XP.c1
         have xp2 := XP.c2
         have xl0 := XL.c0
         have xl1 := XL.c1
         have xl2 := XL.c2
         have xh0 := XH.c0
         have xh1 := XH.c1
         have xh2 := XH.c2
         have xc0 := XC.c0
         have xc1 := XC.c1
         have xc2 := XC.c2))
  generalize hW : (w_e.alloc (Obj.cells #[Value.bool false, Value.slice none 0 0, Value.slice none 0 0, Value.bool false] 70)) = W6
  have hh : Below w_e.heap.size w_e W6 := by subst hW; exact ((Below.refl _ _).alloc (Nat.le_refl _) _)
  have XE : B4E W6 (w_e.heap.size) (Value.bool false) (Value.slice none 0 0) (Value.slice none 0 0) (Value.bool false) := by subst hW; exact B4E.new' _ _ _ _ _ _ rfl
  have hzW6 : W6.heap.size = w_e.heap.size + 1 := by subst hW; simp
  clear hW
  try replace a := a.below hh
  try replace XA := XA.below hh
  try replace x_ := x_.below hh
  try replace XP := XP.below hh
  try replace XL := XL.below hh
  try replace XH := XH.below hh
  try replace XC := XC.below hh
  replace hb := bend hb hh
  have xa0 := XA.c0
  have xa1 := XA.c1
  have xa2 := XA.c2
  have xp0 := XP.c0
  have xp1 := XP.c1
  have xp2 := XP.c2
  have xl0 := XL.c0
  have xl1 := XL.c1
  have xl2 := XL.c2
  have xh0 := XH.c0
  have xh1 := XH.c1
  have xh2 := XH.c2
  have xc0 := XC.c0
  have xc1 := XC.c1
  have xc2 := XC.c2
  have xe0 := XE.c0
  have xe1 := XE.c1
  have xe2 := XE.c2
  have xe3 := XE.c3
  go_wp2_with (first
      | (go_at_call 47; (with_reducible refine (rwakes_any _).mono ?_); rintro e w_z ⟨rfl, hh⟩
         try replace a := a.below hh
         try replace XA := XA.below hh
         try replace x_ := x_.below hh
         try replace XP := XP.below hh
         try replace XL := XL.below hh
         try replace XH := XH.below hh
         try replace XC := XC.below hh
         try replace XE := XE.below hh
         replace hb := bend hb hh))
  go_ret
  exact ⟨rfl, hb⟩
set_option maxRecDepth 100000 in
set_option maxHeartbeats 8000000 in
theorem brac_ok_not {w : World} {s : Bool} {A A' : Option Addr} {n c n' c' : Nat} (k : Nat) (hk : k ≤ 300) {va : Rat} (a : QR w s A n c A' n' c' va 8) (hl : decide (n ≤ 8 ∧ n' ≤ 8) = true) (hv : 0 ≤ va) (hs : ¬ (IsSq va.num.natAbs ∧ IsSq va.den)) :
    Calls Tryz.prog 6 #[.agg #[.bool s, .slice A n c, .slice A' n' c'], .int .i64 (k : Int)] w fun e w' => e = .returned (.bool true) ∧ Below w.heap.size w w' := by
  have HL := Lib.hid hl
  have HV := Lib.hid hv
  have HS := Lib.hid hs
  clear hs
  have hg1 : ¬ 300 < (k : Int) := by omega
  have HK : Hid (k ≤ 400 ∧ k ≤ 4096) := by show _ ∧ _; omega
  clear hl hv hk
  go_enter Tryz.func6, Tryz.ntmps6
  go_wp2_with fail
  generalize hW : (w.alloc (Obj.cells #[Value.bool s, Value.slice A n c, Value.slice A' n' c'] 26)) = W
  have hb : Below w.heap.size w W := by subst hW; exact ((Below.refl _ _).alloc (Nat.le_refl _) _)
  have XA : B3 W (w.heap.size) (Value.bool s) (Value.slice A n c) (Value.slice A' n' c') := by subst hW; exact B3.new' _ _ _ _ _ rfl
  have hzW : W.heap.size = w.heap.size + 1 := by subst hW; simp
  clear hW
  replace a := a.below hb
  have xa0 := XA.c0
  have xa1 := XA.c1
  have xa2 := XA.c2
  go_upto_region 4 with (first
      | (go_at_call 46; (with_reducible refine (small_8 _ true HL.out).mono ?_); rintro e w_z ⟨rfl, hh⟩
         try replace a := a.below hh
         try replace XA := XA.below hh
         replace hb := bend hb hh
         have xa0 := XA.c0
         have xa1 := XA.c1
         have xa2 := XA.c2)
      | (go_at_call 16; (with_reducible refine (rin3 a (by decide) (by decide)).mono ?_); rintro e w_x ⟨s_x_, A_x_, n_x_, c_x_, B_x_, m_x_, d_x_, rfl, x_, hh⟩
         try replace a := a.below hh
         try replace XA := XA.below hh
         replace hb := bend hb hh
         have xa0 := XA.c0
         have xa1 := XA.c1
         have xa2 := XA.c2))
  generalize hW : (w_x.alloc (Obj.cells #[Value.bool s_x_, Value.slice A_x_ n_x_ c_x_, Value.slice B_x_ m_x_ d_x_] 34)) = W2
  have hh : Below w_x.heap.size w_x W2 := by subst hW; exact ((Below.refl _ _).alloc (Nat.le_refl _) _)
  have XP : B3R W2 (w_x.heap.size) (Value.bool s_x_) (Value.slice A_x_ n_x_ c_x_) (Value.slice B_x_ m_x_ d_x_) := by subst hW; exact B3R.new' _ _ _ _ _ rfl
  have hzW2 : W2.heap.size = w_x.heap.size + 1 := by subst hW; simp
  clear hW
  try replace a := a.below hh
  try replace XA := XA.below hh
  try replace x_ := x_.below hh
  replace hb := bend hb hh
  have xa0 := XA.c0
  have xa1 := XA.c1
  have xa2 := XA.c2
  have xp0 := XP.c0
  have xp1 := XP.c1
  have xp2 := XP.c2
  go_upto_region 5 with (first
      | (go_at_call 48; (with_reducible refine (low_s k a HV.out (by decide) (by decide) HK.out.1).mono ?_); rintro e w_l ⟨R_l, hR_l, s_l, A_l, n_l, c_l, B_l, m_l, d_l, rfl, l, hh⟩
         try replace a := a.below hh
         try replace XA := XA.below hh
         try replace x_ := x_.below hh
         try replace XP := XP.below hh
         replace hb := bend hb hh
         have xa0 := XA.c0
         have xa1 := XA.c1
         have xa2 := XA.c2
         have xp0 := XP.c0
         have xp1 := XP.c1
         have xp2 := XP.c2))
  generalize hW : (w_l.alloc (Obj.cells #[Value.bool s_l, Value.slice A_l n_l c_l, Value.slice B_l m_l d_l] 26)) = W3
  have hh : Below w_l.heap.size w_l W3 := by subst hW; exact ((Below.refl _ _).alloc (Nat.le_refl _) _)
  have XL : B3 W3 (w_l.heap.size) (Value.bool s_l) (Value.slice A_l n_l c_l) (Value.slice B_l m_l d_l) := by subst hW; exact B3.new' _ _ _ _ _ rfl
  have hzW3 : W3.heap.size = w_l.heap.size + 1 := by subst hW; simp
  clear hW
  try replace a := a.below hh
  try replace XA := XA.below hh
  try replace x_ := x_.below hh
  try replace XP := XP.below hh
  try replace l := l.below hh
  replace hb := bend hb hh
  have xa0 := XA.c0
  have xa1 := XA.c1
  have xa2 := XA.c2
  have xp0 := XP.c0
  have xp1 := XP.c1
  have xp2 := XP.c2
  have xl0 := XL.c0
  have xl1 := XL.c1
  have xl2 := XL.c2
  go_upto_region 6 with (first
      | (go_at_call 49; (with_reducible refine (high_s k a HV.out (by decide) (by decide) HK.out.1).mono ?_); rintro e w_h ⟨R_h, hR_h, s_h, A_h, n_h, c_h, B_h, m_h, d_h, rfl, h, hh⟩
         try replace a := a.below hh
         try replace XA := XA.below hh
         try replace x_ := x_.below hh
         try replace XP := XP.below hh
         try replace l := l.below hh
         try replace XL := XL.below hh
         replace hb := bend hb hh
         have xa0 := XA.c0
         have xa1 := XA.c1
         have xa2 := XA.c2
         have xp0 := XP.c0
         have xp1 := XP.c1
         have xp2 := XP.c2
         have xl0 := XL.c0
         have xl1 := XL.c1
         have xl2 := XL.c2))
  generalize hW : (w_h.alloc (Obj.cells #[Value.bool s_h, Value.slice A_h n_h c_h, Value.slice B_h m_h d_h] 26)) = W4
  have hh : Below w_h.heap.size w_h W4 := by subst hW; exact ((Below.refl _ _).alloc (Nat.le_refl _) _)
  have XH : B3 W4 (w_h.heap.size) (Value.bool s_h) (Value.slice A_h n_h c_h) (Value.slice B_h m_h d_h) := by subst hW; exact B3.new' _ _ _ _ _ rfl
  have hzW4 : W4.heap.size = w_h.heap.size + 1 := by subst hW; simp
  clear hW
  try replace a := a.below hh
  try replace XA := XA.below hh
  try replace x_ := x_.below hh
  try replace XP := XP.below hh
  try replace l := l.below hh
  try replace XL := XL.below hh
  try replace h := h.below hh
  replace hb := bend hb hh
  have xa0 := XA.c0
  have xa1 := XA.c1
  have xa2 := XA.c2
  have xp0 := XP.c0
  have xp1 := XP.c1
  have xp2 := XP.c2
  have xl0 := XL.c0
  have xl1 := XL.c1
  have xl2 := XL.c2
  have xh0 := XH.c0
  have xh1 := XH.c1
  have xh2 := XH.c2
  go_upto_region 9 with (first
      | (go_at_call 50; (with_reducible refine (may_ok k x_ HV.out HK.out.2).mono ?_); rintro e w_z ⟨rfl, hh⟩
         try replace a := a.below hh
         try replace XA := XA.below hh
         try replace x_ := x_.below hh
         try replace XP := XP.below hh
         try replace l := l.below hh
         try replace XL := XL.below hh
         try replace h := h.below hh
         try replace XH := XH.below hh
         replace hb := bend hb hh
         have xa0 := XA.c0
         have xa1 := XA.c1
         have xa2 := XA.c2
         have xp0 := XP.c0
         have xp1 := XP.c1
         have xp2 := XP.c2
         have xl0 := XL.c0
         have xl1 := XL.c1
         have xl2 := XL.c2
         have xh0 := XH.c0
         have xh1 := XH.c1
         have xh2 := XH.c2))
  replace a := a.below (Below.refl _ _).drew
  replace XA := XA.below (Below.refl _ _).drew
  replace x_ := x_.below (Below.refl _ _).drew
  replace XP := XP.below (Below.refl _ _).drew
  replace l := l.below (Below.refl _ _).drew
  replace XL := XL.below (Below.refl _ _).drew
  replace h := h.below (Below.refl _ _).drew
  replace XH := XH.below (Below.refl _ _).drew
  replace hb := hb.drew
  go_region_held3 (fun w' => w'.cell? ⟨w.heap.size, 0, none⟩ = some (.bool s) ∧ w'.cell? ⟨w.heap.size, 1, none⟩ = some (.slice A n c) ∧ w'.cell? ⟨w.heap.size, 2, none⟩ = some (.slice A' n' c') ∧ w'.cell? ⟨w_x.heap.size, 0, none⟩ = some (.bool s_x_) ∧ w'.cell? ⟨w_x.heap.size, 1, none⟩ = some (.slice A_x_ n_x_ c_x_) ∧ w'.cell? ⟨w_x.heap.size, 2, none⟩ = some (.slice B_x_ m_x_ d_x_) ∧ w'.cell? ⟨w_l.heap.size, 0, none⟩ = some (.bool s_l) ∧ w'.cell? ⟨w_l.heap.size, 1, none⟩ = some (.slice A_l n_l c_l) ∧ w'.cell? ⟨w_l.heap.size, 2, none⟩ = some (.slice B_l m_l d_l) ∧ w'.cell? ⟨w_h.heap.size, 0, none⟩ = some (.bool s_h) ∧ w'.cell? ⟨w_h.heap.size, 1, none⟩ = some (.slice A_h n_h c_h) ∧ w'.cell? ⟨w_h.heap.size, 2, none⟩ = some (.slice B_h m_h d_h))
    (first | with_reducible exact ⟨XA.c0, XA.c1, XA.c2, XP.c0, XP.c1, XP.c2, XL.c0, XL.c1, XL.c2, XH.c0, XH.c1, XH.c2⟩)
    (first
    | (go_at_call 51; (with_reducible refine (rlow4 k x_ HV.out (by decide) HK.out.1).mono ?_); rintro e w_p ⟨R_p, hR_p, s_p, A_p, n_p, c_p, B_p, m_p, d_p, rfl, p, hh⟩
       try replace a := a.below hh
       try replace XA := XA.below hh
       try replace x_ := x_.below hh
       try replace XP := XP.below hh
       try replace l := l.below hh
       try replace XL := XL.below hh
       try replace h := h.below hh
       try replace XH := XH.below hh
       replace hb := bend hb hh)
    | (go_at_call 20; (with_reducible refine (same3 l p (by rw [hR_l.one hR_p]) (by decide) (by decide)).mono ?_); rintro e w_z ⟨rfl, hh⟩
       try replace a := a.below hh
       try replace XA := XA.below hh
       try replace x_ := x_.below hh
       try replace XP := XP.below hh
       try replace l := l.below hh
       try replace XL := XL.below hh
       try replace h := h.below hh
       try replace XH := XH.below hh
       replace hb := bend hb hh
       clear p hR_p)
    | (go_at_call 52; (with_reducible refine (rhigh4 k x_ HV.out (by decide) HK.out.1).mono ?_); rintro e w_q ⟨R_q, hR_q, s_q, A_q, n_q, c_q, B_q, m_q, d_q, rfl, q, hh⟩
       try replace a := a.below hh
       try replace XA := XA.below hh
       try replace x_ := x_.below hh
       try replace XP := XP.below hh
       try replace l := l.below hh
       try replace XL := XL.below hh
       try replace h := h.below hh
       try replace XH := XH.below hh
       replace hb := bend hb hh)
    | (go_at_call 20; (with_reducible refine (same3 h q (by rw [hR_h.one hR_q]) (by decide) (by decide)).mono ?_); rintro e w_z ⟨rfl, hh⟩
       try replace a := a.below hh
       try replace XA := XA.below hh
       try replace x_ := x_.below hh
       try replace XP := XP.below hh
       try replace l := l.below hh
       try replace XL := XL.below hh
       try replace h := h.below hh
       try replace XH := XH.below hh
       replace hb := bend hb hh
       clear q hR_q))
  have xa0 := XA.c0
  have xa1 := XA.c1
  have xa2 := XA.c2
  have xp0 := XP.c0
  have xp1 := XP.c1
  have xp2 := XP.c2
  have xl0 := XL.c0
  have xl1 := XL.c1
  have xl2 := XL.c2
  have xh0 := XH.c0
  have xh1 := XH.c1
  have xh2 := XH.c2
  go_upto_region 12 with (first
      | (go_at_call 53; (with_reducible refine (exact_not a HV.out HS.out (by decide) (by decide)).mono ?_); rintro e w_c ⟨rfl, hh⟩
         try replace a := a.below hh
         try replace XA := XA.below hh
         try replace x_ := x_.below hh
         try replace XP := XP.below hh
         try replace l := l.below hh
         try replace XL := XL.below hh
         try replace h := h.below hh
         try replace XH := XH.below hh
         replace hb := bend hb hh
         have xa0 := XA.c0
         have xa1 := XA.c1
         have xa2 := XA.c2
         have xp0 := XP.c0
         have xp1 := XP.c1
         have xp2 := XP.c2
         have xl0 := XL.c0
         have xl1 := XL.c1
         have xl2 := XL.c2
         have xh0 := XH.c0
         have xh1 := XH.c1
         have xh2 := XH.c2))
  generalize hW : (w_c.alloc (Obj.cells #[Value.bool false, Value.slice none 0 0, Value.slice none 0 0] 26)) = W5
  have hh : Below w_c.heap.size w_c W5 := by subst hW; exact ((Below.refl _ _).alloc (Nat.le_refl _) _)
  have XC : B3 W5 (w_c.heap.size) (Value.bool false) (Value.slice none 0 0) (Value.slice none 0 0) := by subst hW; exact B3.new' _ _ _ _ _ rfl
  have hzW5 : W5.heap.size = w_c.heap.size + 1 := by subst hW; simp
  clear hW
  try replace a := a.below hh
  try replace XA := XA.below hh
  try replace x_ := x_.below hh
  try replace XP := XP.below hh
  try replace l := l.below hh
  try replace XL := XL.below hh
  try replace h := h.below hh
  try replace XH := XH.below hh
  replace hb := bend hb hh
  have xa0 := XA.c0
  have xa1 := XA.c1
  have xa2 := XA.c2
  have xp0 := XP.c0
  have xp1 := XP.c1
  have xp2 := XP.c2
  have xl0 := XL.c0
  have xl1 := XL.c1
  have xl2 := XL.c2
  have xh0 := XH.c0
  have xh1 := XH.c1
  have xh2 := XH.c2
  have xc0 := XC.c0
  have xc1 := XC.c1
  have xc2 := XC.c2
  go_upto_region 13 with (first
      | (go_at_call 54; (with_reducible refine (of_not x_ HV.out (by decide) HS.out).mono ?_); rintro e w_e ⟨rfl, hh⟩
         try replace a := a.below hh
         try replace XA := XA.below hh
         try replace x_ := x_.below hh
         try replace XP := XP.below hh
         try replace l := l.below hh
         try replace XL := XL.below hh
         try replace h := h.below hh
         try replace XH := XH.below hh
         try replace XC := XC.below hh
         replace hb := bend hb hh
         have xa0 := XA.c0
         have xa1 := XA.c1
         have xa2 := XA.c2
         have xp0 := XP.c0
         have xp1 := XP.c1
         have xp2 := XP.c2
         have xl0 := XL.c0
         have xl1 := XL.c1
         have xl2 := XL.c2
         have xh0 := XH.c0
         have xh1 := XH.c1
         have xh2 := XH.c2
         have xc0 := XC.c0
         have xc1 := XC.c1
         have xc2 := XC.c2))
  generalize hW : (w_e.alloc (Obj.cells #[Value.bool false, Value.slice none 0 0, Value.slice none 0 0, Value.bool false] 70)) = W6
  have hh : Below w_e.heap.size w_e W6 := by subst hW; exact ((Below.refl _ _).alloc (Nat.le_refl _) _)
  have XE : B4E W6 (w_e.heap.size) (Value.bool false) (Value.slice none 0 0) (Value.slice none 0 0) (Value.bool false) := by subst hW; exact B4E.new' _ _ _ _ _ _ rfl
  have hzW6 : W6.heap.size = w_e.heap.size + 1 := by subst hW; simp
  clear hW
  try replace a := a.below hh
  try replace XA := XA.below hh
  try replace x_ := x_.below hh
  try replace XP := XP.below hh
  try replace l := l.below hh
  try replace XL := XL.below hh
  try replace h := h.below hh
  try replace XH := XH.below hh
  try replace XC := XC.below hh
  replace hb := bend hb hh
  have xa0 := XA.c0
  have xa1 := XA.c1
  have xa2 := XA.c2
  have xp0 := XP.c0
  have xp1 := XP.c1
  have xp2 := XP.c2
  have xl0 := XL.c0
  have xl1 := XL.c1
  have xl2 := XL.c2
  have xh0 := XH.c0
  have xh1 := XH.c1
  have xh2 := XH.c2
  have xc0 := XC.c0
  have xc1 := XC.c1
  have xc2 := XC.c2
  have xe0 := XE.c0
  have xe1 := XE.c1
  have xe2 := XE.c2
  have xe3 := XE.c3
  go_wp2_with (first
      | (go_at_call 47; (with_reducible refine (rwakes_any _).mono ?_); rintro e w_z ⟨rfl, hh⟩
         try replace a := a.below hh
         try replace XA := XA.below hh
         try replace x_ := x_.below hh
         try replace XP := XP.below hh
         try replace l := l.below hh
         try replace XL := XL.below hh
         try replace h := h.below hh
         try replace XH := XH.below hh
         try replace XC := XC.below hh
         try replace XE := XE.below hh
         replace hb := bend hb hh))
  go_ret
  exact ⟨rfl, hb⟩
set_option maxRecDepth 100000 in
set_option maxHeartbeats 8000000 in
theorem brac_ok_sq {w : World} {s : Bool} {A A' : Option Addr} {n c n' c' : Nat} (k : Nat) (hk : k ≤ 300) {va : Rat} (a : QR w s A n c A' n' c' va 8) (hl : decide (n ≤ 8 ∧ n' ≤ 8) = true) {x y : Nat} (hv : 0 ≤ va) (h1 : x * x = va.num.natAbs) (h2 : y * y = va.den) :
    Calls Tryz.prog 6 #[.agg #[.bool s, .slice A n c, .slice A' n' c'], .int .i64 (k : Int)] w fun e w' => e = .returned (.bool true) ∧ Below w.heap.size w w' := by
  have HL := Lib.hid hl
  have HV := Lib.hid hv
  have H1 := Lib.hid h1
  have H2 := Lib.hid h2
  have HQ : Hid (va = mkRat (iv false x) y * mkRat (iv false x) y) := sq_of hv h1 h2
  have HU : Hid (0 ≤ mkRat (iv false x) y) := sqp_nn x y
  clear h1 h2
  have hg1 : ¬ 300 < (k : Int) := by omega
  have HK : Hid (k ≤ 400 ∧ k ≤ 4096) := by show _ ∧ _; omega
  clear hl hv hk
  go_enter Tryz.func6, Tryz.ntmps6
  go_wp2_with fail
  generalize hW : (w.alloc (Obj.cells #[Value.bool s, Value.slice A n c, Value.slice A' n' c'] 26)) = W
  have hb : Below w.heap.size w W := by subst hW; exact ((Below.refl _ _).alloc (Nat.le_refl _) _)
  have XA : B3 W (w.heap.size) (Value.bool s) (Value.slice A n c) (Value.slice A' n' c') := by subst hW; exact B3.new' _ _ _ _ _ rfl
  have hzW : W.heap.size = w.heap.size + 1 := by subst hW; simp
  clear hW
  replace a := a.below hb
  have xa0 := XA.c0
  have xa1 := XA.c1
  have xa2 := XA.c2
  go_upto_region 4 with (first
      | (go_at_call 46; (with_reducible refine (small_8 _ true HL.out).mono ?_); rintro e w_z ⟨rfl, hh⟩
         try replace a := a.below hh
         try replace XA := XA.below hh
         replace hb := bend hb hh
         have xa0 := XA.c0
         have xa1 := XA.c1
         have xa2 := XA.c2)
      | (go_at_call 16; (with_reducible refine (rin3 a (by decide) (by decide)).mono ?_); rintro e w_x ⟨s_x_, A_x_, n_x_, c_x_, B_x_, m_x_, d_x_, rfl, x_, hh⟩
         try replace a := a.below hh
         try replace XA := XA.below hh
         replace hb := bend hb hh
         have xa0 := XA.c0
         have xa1 := XA.c1
         have xa2 := XA.c2))
  generalize hW : (w_x.alloc (Obj.cells #[Value.bool s_x_, Value.slice A_x_ n_x_ c_x_, Value.slice B_x_ m_x_ d_x_] 34)) = W2
  have hh : Below w_x.heap.size w_x W2 := by subst hW; exact ((Below.refl _ _).alloc (Nat.le_refl _) _)
  have XP : B3R W2 (w_x.heap.size) (Value.bool s_x_) (Value.slice A_x_ n_x_ c_x_) (Value.slice B_x_ m_x_ d_x_) := by subst hW; exact B3R.new' _ _ _ _ _ rfl
  have hzW2 : W2.heap.size = w_x.heap.size + 1 := by subst hW; simp
  clear hW
  try replace a := a.below hh
  try replace XA := XA.below hh
  try replace x_ := x_.below hh
  replace hb := bend hb hh
  have xa0 := XA.c0
  have xa1 := XA.c1
  have xa2 := XA.c2
  have xp0 := XP.c0
  have xp1 := XP.c1
  have xp2 := XP.c2
  go_upto_region 5 with (first
      | (go_at_call 48; (with_reducible refine (low_s k a HV.out (by decide) (by decide) HK.out.1).mono ?_); rintro e w_l ⟨R_l, hR_l, s_l, A_l, n_l, c_l, B_l, m_l, d_l, rfl, l, hh⟩
         try replace a := a.below hh
         try replace XA := XA.below hh
         try replace x_ := x_.below hh
         try replace XP := XP.below hh
         replace hb := bend hb hh
         have xa0 := XA.c0
         have xa1 := XA.c1
         have xa2 := XA.c2
         have xp0 := XP.c0
         have xp1 := XP.c1
         have xp2 := XP.c2))
  generalize hW : (w_l.alloc (Obj.cells #[Value.bool s_l, Value.slice A_l n_l c_l, Value.slice B_l m_l d_l] 26)) = W3
  have hh : Below w_l.heap.size w_l W3 := by subst hW; exact ((Below.refl _ _).alloc (Nat.le_refl _) _)
  have XL : B3 W3 (w_l.heap.size) (Value.bool s_l) (Value.slice A_l n_l c_l) (Value.slice B_l m_l d_l) := by subst hW; exact B3.new' _ _ _ _ _ rfl
  have hzW3 : W3.heap.size = w_l.heap.size + 1 := by subst hW; simp
  clear hW
  try replace a := a.below hh
  try replace XA := XA.below hh
  try replace x_ := x_.below hh
  try replace XP := XP.below hh
  try replace l := l.below hh
  replace hb := bend hb hh
  have xa0 := XA.c0
  have xa1 := XA.c1
  have xa2 := XA.c2
  have xp0 := XP.c0
  have xp1 := XP.c1
  have xp2 := XP.c2
  have xl0 := XL.c0
  have xl1 := XL.c1
  have xl2 := XL.c2
  go_upto_region 6 with (first
      | (go_at_call 49; (with_reducible refine (high_s k a HV.out (by decide) (by decide) HK.out.1).mono ?_); rintro e w_h ⟨R_h, hR_h, s_h, A_h, n_h, c_h, B_h, m_h, d_h, rfl, h, hh⟩
         try replace a := a.below hh
         try replace XA := XA.below hh
         try replace x_ := x_.below hh
         try replace XP := XP.below hh
         try replace l := l.below hh
         try replace XL := XL.below hh
         replace hb := bend hb hh
         have xa0 := XA.c0
         have xa1 := XA.c1
         have xa2 := XA.c2
         have xp0 := XP.c0
         have xp1 := XP.c1
         have xp2 := XP.c2
         have xl0 := XL.c0
         have xl1 := XL.c1
         have xl2 := XL.c2))
  generalize hW : (w_h.alloc (Obj.cells #[Value.bool s_h, Value.slice A_h n_h c_h, Value.slice B_h m_h d_h] 26)) = W4
  have hh : Below w_h.heap.size w_h W4 := by subst hW; exact ((Below.refl _ _).alloc (Nat.le_refl _) _)
  have XH : B3 W4 (w_h.heap.size) (Value.bool s_h) (Value.slice A_h n_h c_h) (Value.slice B_h m_h d_h) := by subst hW; exact B3.new' _ _ _ _ _ rfl
  have hzW4 : W4.heap.size = w_h.heap.size + 1 := by subst hW; simp
  clear hW
  try replace a := a.below hh
  try replace XA := XA.below hh
  try replace x_ := x_.below hh
  try replace XP := XP.below hh
  try replace l := l.below hh
  try replace XL := XL.below hh
  try replace h := h.below hh
  replace hb := bend hb hh
  have xa0 := XA.c0
  have xa1 := XA.c1
  have xa2 := XA.c2
  have xp0 := XP.c0
  have xp1 := XP.c1
  have xp2 := XP.c2
  have xl0 := XL.c0
  have xl1 := XL.c1
  have xl2 := XL.c2
  have xh0 := XH.c0
  have xh1 := XH.c1
  have xh2 := XH.c2
  go_upto_region 9 with (first
      | (go_at_call 50; (with_reducible refine (may_ok k x_ HV.out HK.out.2).mono ?_); rintro e w_z ⟨rfl, hh⟩
         try replace a := a.below hh
         try replace XA := XA.below hh
         try replace x_ := x_.below hh
         try replace XP := XP.below hh
         try replace l := l.below hh
         try replace XL := XL.below hh
         try replace h := h.below hh
         try replace XH := XH.below hh
         replace hb := bend hb hh
         have xa0 := XA.c0
         have xa1 := XA.c1
         have xa2 := XA.c2
         have xp0 := XP.c0
         have xp1 := XP.c1
         have xp2 := XP.c2
         have xl0 := XL.c0
         have xl1 := XL.c1
         have xl2 := XL.c2
         have xh0 := XH.c0
         have xh1 := XH.c1
         have xh2 := XH.c2))
  replace a := a.below (Below.refl _ _).drew
  replace XA := XA.below (Below.refl _ _).drew
  replace x_ := x_.below (Below.refl _ _).drew
  replace XP := XP.below (Below.refl _ _).drew
  replace l := l.below (Below.refl _ _).drew
  replace XL := XL.below (Below.refl _ _).drew
  replace h := h.below (Below.refl _ _).drew
  replace XH := XH.below (Below.refl _ _).drew
  replace hb := hb.drew
  go_region_held3 (fun w' => w'.cell? ⟨w.heap.size, 0, none⟩ = some (.bool s) ∧ w'.cell? ⟨w.heap.size, 1, none⟩ = some (.slice A n c) ∧ w'.cell? ⟨w.heap.size, 2, none⟩ = some (.slice A' n' c') ∧ w'.cell? ⟨w_x.heap.size, 0, none⟩ = some (.bool s_x_) ∧ w'.cell? ⟨w_x.heap.size, 1, none⟩ = some (.slice A_x_ n_x_ c_x_) ∧ w'.cell? ⟨w_x.heap.size, 2, none⟩ = some (.slice B_x_ m_x_ d_x_) ∧ w'.cell? ⟨w_l.heap.size, 0, none⟩ = some (.bool s_l) ∧ w'.cell? ⟨w_l.heap.size, 1, none⟩ = some (.slice A_l n_l c_l) ∧ w'.cell? ⟨w_l.heap.size, 2, none⟩ = some (.slice B_l m_l d_l) ∧ w'.cell? ⟨w_h.heap.size, 0, none⟩ = some (.bool s_h) ∧ w'.cell? ⟨w_h.heap.size, 1, none⟩ = some (.slice A_h n_h c_h) ∧ w'.cell? ⟨w_h.heap.size, 2, none⟩ = some (.slice B_h m_h d_h))
    (first | with_reducible exact ⟨XA.c0, XA.c1, XA.c2, XP.c0, XP.c1, XP.c2, XL.c0, XL.c1, XL.c2, XH.c0, XH.c1, XH.c2⟩)
    (first
    | (go_at_call 51; (with_reducible refine (rlow4 k x_ HV.out (by decide) HK.out.1).mono ?_); rintro e w_p ⟨R_p, hR_p, s_p, A_p, n_p, c_p, B_p, m_p, d_p, rfl, p, hh⟩
       try replace a := a.below hh
       try replace XA := XA.below hh
       try replace x_ := x_.below hh
       try replace XP := XP.below hh
       try replace l := l.below hh
       try replace XL := XL.below hh
       try replace h := h.below hh
       try replace XH := XH.below hh
       replace hb := bend hb hh)
    | (go_at_call 20; (with_reducible refine (same3 l p (by rw [hR_l.one hR_p]) (by decide) (by decide)).mono ?_); rintro e w_z ⟨rfl, hh⟩
       try replace a := a.below hh
       try replace XA := XA.below hh
       try replace x_ := x_.below hh
       try replace XP := XP.below hh
       try replace l := l.below hh
       try replace XL := XL.below hh
       try replace h := h.below hh
       try replace XH := XH.below hh
       replace hb := bend hb hh
       clear p hR_p)
    | (go_at_call 52; (with_reducible refine (rhigh4 k x_ HV.out (by decide) HK.out.1).mono ?_); rintro e w_q ⟨R_q, hR_q, s_q, A_q, n_q, c_q, B_q, m_q, d_q, rfl, q, hh⟩
       try replace a := a.below hh
       try replace XA := XA.below hh
       try replace x_ := x_.below hh
       try replace XP := XP.below hh
       try replace l := l.below hh
       try replace XL := XL.below hh
       try replace h := h.below hh
       try replace XH := XH.below hh
       replace hb := bend hb hh)
    | (go_at_call 20; (with_reducible refine (same3 h q (by rw [hR_h.one hR_q]) (by decide) (by decide)).mono ?_); rintro e w_z ⟨rfl, hh⟩
       try replace a := a.below hh
       try replace XA := XA.below hh
       try replace x_ := x_.below hh
       try replace XP := XP.below hh
       try replace l := l.below hh
       try replace XL := XL.below hh
       try replace h := h.below hh
       try replace XH := XH.below hh
       replace hb := bend hb hh
       clear q hR_q))
  have xa0 := XA.c0
  have xa1 := XA.c1
  have xa2 := XA.c2
  have xp0 := XP.c0
  have xp1 := XP.c1
  have xp2 := XP.c2
  have xl0 := XL.c0
  have xl1 := XL.c1
  have xl2 := XL.c2
  have xh0 := XH.c0
  have xh1 := XH.c1
  have xh2 := XH.c2
  go_upto_region 12 with (first
      | (go_at_call 53; (with_reducible refine (exact_sq a HU.out HQ.out (by decide) (by decide)).mono ?_); rintro e w_c ⟨s_cc, A_cc, n_cc, c_cc, B_cc, m_cc, d_cc, rfl, cc, hh⟩
         try replace a := a.below hh
         try replace XA := XA.below hh
         try replace x_ := x_.below hh
         try replace XP := XP.below hh
         try replace l := l.below hh
         try replace XL := XL.below hh
         try replace h := h.below hh
         try replace XH := XH.below hh
         replace hb := bend hb hh
         have xa0 := XA.c0
         have xa1 := XA.c1
         have xa2 := XA.c2
         have xp0 := XP.c0
         have xp1 := XP.c1
         have xp2 := XP.c2
         have xl0 := XL.c0
         have xl1 := XL.c1
         have xl2 := XL.c2
         have xh0 := XH.c0
         have xh1 := XH.c1
         have xh2 := XH.c2))
  generalize hW : (w_c.alloc (Obj.cells #[Value.bool s_cc, Value.slice A_cc n_cc c_cc, Value.slice B_cc m_cc d_cc] 26)) = W5
  have hh : Below w_c.heap.size w_c W5 := by subst hW; exact ((Below.refl _ _).alloc (Nat.le_refl _) _)
  have XC : B3 W5 (w_c.heap.size) (Value.bool s_cc) (Value.slice A_cc n_cc c_cc) (Value.slice B_cc m_cc d_cc) := by subst hW; exact B3.new' _ _ _ _ _ rfl
  have hzW5 : W5.heap.size = w_c.heap.size + 1 := by subst hW; simp
  clear hW
  try replace a := a.below hh
  try replace XA := XA.below hh
  try replace x_ := x_.below hh
  try replace XP := XP.below hh
  try replace l := l.below hh
  try replace XL := XL.below hh
  try replace h := h.below hh
  try replace XH := XH.below hh
  try replace cc := cc.below hh
  replace hb := bend hb hh
  have xa0 := XA.c0
  have xa1 := XA.c1
  have xa2 := XA.c2
  have xp0 := XP.c0
  have xp1 := XP.c1
  have xp2 := XP.c2
  have xl0 := XL.c0
  have xl1 := XL.c1
  have xl2 := XL.c2
  have xh0 := XH.c0
  have xh1 := XH.c1
  have xh2 := XH.c2
  have xc0 := XC.c0
  have xc1 := XC.c1
  have xc2 := XC.c2
  go_upto_region 13 with (first
      | (go_at_call 54; (with_reducible refine (of_yes x_ HV.out (by decide) H1.out H2.out).mono ?_); rintro e w_e ⟨s_ee, A_ee, n_ee, c_ee, B_ee, m_ee, d_ee, rfl, ee, hh⟩
         try replace a := a.below hh
         try replace XA := XA.below hh
         try replace x_ := x_.below hh
         try replace XP := XP.below hh
         try replace l := l.below hh
         try replace XL := XL.below hh
         try replace h := h.below hh
         try replace XH := XH.below hh
         try replace cc := cc.below hh
         try replace XC := XC.below hh
         replace hb := bend hb hh
         have xa0 := XA.c0
         have xa1 := XA.c1
         have xa2 := XA.c2
         have xp0 := XP.c0
         have xp1 := XP.c1
         have xp2 := XP.c2
         have xl0 := XL.c0
         have xl1 := XL.c1
         have xl2 := XL.c2
         have xh0 := XH.c0
         have xh1 := XH.c1
         have xh2 := XH.c2
         have xc0 := XC.c0
         have xc1 := XC.c1
         have xc2 := XC.c2))
  generalize hW : (w_e.alloc (Obj.cells #[Value.bool s_ee, Value.slice A_ee n_ee c_ee, Value.slice B_ee m_ee d_ee, Value.bool true] 70)) = W6
  have hh : Below w_e.heap.size w_e W6 := by subst hW; exact ((Below.refl _ _).alloc (Nat.le_refl _) _)
  have XE : B4E W6 (w_e.heap.size) (Value.bool s_ee) (Value.slice A_ee n_ee c_ee) (Value.slice B_ee m_ee d_ee) (Value.bool true) := by subst hW; exact B4E.new' _ _ _ _ _ _ rfl
  have hzW6 : W6.heap.size = w_e.heap.size + 1 := by subst hW; simp
  clear hW
  try replace a := a.below hh
  try replace XA := XA.below hh
  try replace x_ := x_.below hh
  try replace XP := XP.below hh
  try replace l := l.below hh
  try replace XL := XL.below hh
  try replace h := h.below hh
  try replace XH := XH.below hh
  try replace cc := cc.below hh
  try replace XC := XC.below hh
  try replace ee := ee.below hh
  replace hb := bend hb hh
  have xa0 := XA.c0
  have xa1 := XA.c1
  have xa2 := XA.c2
  have xp0 := XP.c0
  have xp1 := XP.c1
  have xp2 := XP.c2
  have xl0 := XL.c0
  have xl1 := XL.c1
  have xl2 := XL.c2
  have xh0 := XH.c0
  have xh1 := XH.c1
  have xh2 := XH.c2
  have xc0 := XC.c0
  have xc1 := XC.c1
  have xc2 := XC.c2
  have xe0 := XE.c0
  have xe1 := XE.c1
  have xe2 := XE.c2
  have xe3 := XE.c3
  go_wp2_with (first
      | (go_at_call 20; (with_reducible refine (same3 cc ee rfl (by decide) (by decide)).mono ?_); rintro e w_z ⟨rfl, hh⟩
         try replace a := a.below hh
         try replace XA := XA.below hh
         try replace x_ := x_.below hh
         try replace XP := XP.below hh
         try replace l := l.below hh
         try replace XL := XL.below hh
         try replace h := h.below hh
         try replace XH := XH.below hh
         try replace cc := cc.below hh
         try replace XC := XC.below hh
         try replace ee := ee.below hh
         try replace XE := XE.below hh
         replace hb := bend hb hh
         have xa0 := XA.c0
         have xa1 := XA.c1
         have xa2 := XA.c2
         have xp0 := XP.c0
         have xp1 := XP.c1
         have xp2 := XP.c2
         have xl0 := XL.c0
         have xl1 := XL.c1
         have xl2 := XL.c2
         have xh0 := XH.c0
         have xh1 := XH.c1
         have xh2 := XH.c2
         have xc0 := XC.c0
         have xc1 := XC.c1
         have xc2 := XC.c2
         have xe0 := XE.c0
         have xe1 := XE.c1
         have xe2 := XE.c2
         have xe3 := XE.c3)
      | (go_at_call 47; (with_reducible refine (rwakes_any _).mono ?_); rintro e w_z ⟨rfl, hh⟩
         try replace a := a.below hh
         try replace XA := XA.below hh
         try replace x_ := x_.below hh
         try replace XP := XP.below hh
         try replace l := l.below hh
         try replace XL := XL.below hh
         try replace h := h.below hh
         try replace XH := XH.below hh
         try replace cc := cc.below hh
         try replace XC := XC.below hh
         try replace ee := ee.below hh
         try replace XE := XE.below hh
         replace hb := bend hb hh))
  go_ret
  exact ⟨rfl, hb⟩
theorem law_brackets {w : World} (s : Bool) (A A' : Option Addr) (n c n' c' : Nat) (j : Int) (l l' : List Nat) (r1 : Rd .u64 w A n l) (r2 : Rd .u64 w A' n' l') (t1 : Lim B64 l) (t2 : Lim B64 l') (e1 : n ≤ c) (e2 : n' ≤ c') :
    Calls Tryz.prog 6 #[.agg #[.bool s, .slice A n c, .slice A' n' c'], .int .i64 j] w fun e w' => e = .returned (.bool true) ∧ Below w.heap.size w w' := by
  by_cases hl : n ≤ 8 ∧ n' ≤ 8
  · have hd : decide (n ≤ 8 ∧ n' ≤ 8) = true := decide_eq_true hl
    have a : QR w s A n c A' n' c' (mkRat (iv s (val B64 l)) (den1 (val B64 l'))) 8 := QR.of_rd r1 t1 e1 r2 t2 e2 hl.1 hl.2
    generalize mkRat (iv s (val B64 l)) (den1 (val B64 l')) = va at a
    by_cases h1 : j < 0
    · by_cases hv : va < 0
      · exact brac_lo_neg j h1 a hd hv
      · by_cases hs : IsSq va.num.natAbs ∧ IsSq va.den
        · obtain ⟨⟨x, hx⟩, y, hy⟩ := hs
          exact brac_lo_sq j h1 a hd (Rat.not_lt.1 hv) hx hy
        · exact brac_lo_not j h1 a hd (Rat.not_lt.1 hv) hs
    · by_cases h2 : 4096 < j
      · by_cases hv : va < 0
        · exact brac_hi_neg j h2 a hd hv
        · by_cases hs : IsSq va.num.natAbs ∧ IsSq va.den
          · obtain ⟨⟨x, hx⟩, y, hy⟩ := hs
            exact brac_hi_sq j h2 a hd (Rat.not_lt.1 hv) hx hy
          · exact brac_hi_not j h2 a hd (Rat.not_lt.1 hv) hs
      · by_cases h3 : 300 < j
        · exact brac_skip j hd h3 (by omega)
        · obtain ⟨k, rfl⟩ : ∃ k : Nat, j = (k : Int) := ⟨j.toNat, by omega⟩
          have hk : k ≤ 300 := by omega
          by_cases hv : va < 0
          · exact brac_neg_neg k hk a hd hv
          · by_cases hs : IsSq va.num.natAbs ∧ IsSq va.den
            · obtain ⟨⟨x, hx⟩, y, hy⟩ := hs
              exact brac_ok_sq k hk a hd (Rat.not_lt.1 hv) hx hy
            · exact brac_ok_not k hk a hd (Rat.not_lt.1 hv) hs
  · exact brac_large j (decide_eq_false hl)
end Go.Proofs.YtlkjkhpjhllapaaGreat
