/- PtPlaces: part 14. -/
import Derived.Deep.Cut
import Derived.Deep.CutRange
import Derived.Test.YtlkjkhpjhllapaaGreatKPtPlaces6
import Derived.Test.YtlkjkhpjhllapaaGreatKPtPlaces9
import Derived.Test.YtlkjkhpjhllapaaGreatKPtPlaces11
import Derived.Test.YtlkjkhpjhllapaaGreatKPtPlaces13
set_option linter.unusedVariables false
namespace Go.Proofs.YtlkjkhpjhllapaaGreat
open Go Go.RowKit
theorem rc_gesso_gessoref03_den {e : Operand → Value} {x0 : Operand} {d : Option Tmp} {y : Nat} {pos : String} {af : Array Edge} {w : World} {u0 : Value} (h0 : e x0 = u0) (hf : e (.func 106) = .func (.func 106) #[] #[]) :
    (execOp e { dst := d, op := Op.call { callee := Callee.value (Operand.func 106), args := #[x0], argTypes := #[34] }, type := y, pos := pos, after := af, guard := none }).run Tryz.prog w = .ok (.enter 106 #[u0]) w := by
  go_simp
theorem rc_gesso_gessoref02_Mul {e : Operand → Value} {x0 x1 : Operand} {d : Option Tmp} {y : Nat} {pos : String} {af : Array Edge} {w : World} {u0 u1 : Value} (h0 : e x0 = u0) (h1 : e x1 = u1) (hf : e (.func 105) = .func (.func 105) #[] #[]) :
    (execOp e { dst := d, op := Op.call { callee := Callee.value (Operand.func 105), args := #[x0, x1], argTypes := #[32, 32] }, type := y, pos := pos, after := af, guard := none }).run Tryz.prog w = .ok (.enter 105 #[u0, u1]) w := by
  go_simp
theorem rc_gesso_gessoref02_Add {e : Operand → Value} {x0 x1 : Operand} {d : Option Tmp} {y : Nat} {pos : String} {af : Array Edge} {w : World} {u0 u1 : Value} (h0 : e x0 = u0) (h1 : e x1 = u1) (hf : e (.func 111) = .func (.func 111) #[] #[]) :
    (execOp e { dst := d, op := Op.call { callee := Callee.value (Operand.func 111), args := #[x0, x1], argTypes := #[32, 32] }, type := y, pos := pos, after := af, guard := none }).run Tryz.prog w = .ok (.enter 111 #[u0, u1]) w := by
  go_simp
def F_radd (s : Bool) (t : Bool) (A : Option Addr) (A' : Option Addr) (B : Option Addr) (B' : Option Addr) (n : Nat) (c : Nat) (n' : Nat) (c' : Nat) (m : Nat) (d : Nat) (m' : Nat) (d' : Nat) (k : Nat) (k2 : Nat) (g1 : Nat) (g2 : Nat) (v : Rat) (u : Rat) (sl : Nat) : Value → World → Prop :=
  match sl with
  | 6 => fun x _ => x = Value.pointer (some ⟨g1, 0, none⟩)
  | 7 => fun x _ => x = Value.agg #[.bool s, .slice A n c]
  | 8 => fun x _ => x = Value.agg #[.bool t, .slice B m d, .slice B' m' d']
  | 9 => fun x _ => x = Value.agg #[.bool false, .slice B' m' d']
  | 10 => VRG (v.num * (u.den : Int)) (k + k2)
  | 11 => fun x _ => x = Value.pointer (some ⟨g2, 0, none⟩)
  | 12 => fun x _ => x = Value.agg #[.bool t, .slice B m d]
  | 13 => fun x _ => x = Value.agg #[.bool s, .slice A n c, .slice A' n' c']
  | 14 => fun x _ => x = Value.agg #[.bool false, .slice A' n' c']
  | 15 => VRG (u.num * (v.den : Int)) (k2 + k)
  | 16 => VRG (v.num * (u.den : Int) + u.num * (v.den : Int)) (k + k2 + 1)
  | _ => fun _ _ => True
set_option maxRecDepth 100000 in
set_option maxHeartbeats 4000000 in
theorem radd_region {id : Nat} {ac : Act} {w : World} {Q : Exit → Act → World → Prop} {s t : Bool} {A A' B B' : Option Addr} {n c n' c' m d m' d' k k2 g1 g2 : Nat} {v u : Rat}
    (hsz : 16 < ac.tmps.size) (e2 : ac.eval (.tmp 2) = Value.pointer (some ⟨g1, 0, none⟩)) (e3 : ac.eval (.tmp 3) = Value.pointer (some ⟨g2, 0, none⟩)) (XA : B3R w g1 (.bool s) (.slice A n c) (.slice A' n' c')) (XB : B3R w g2 (.bool t) (.slice B m d) (.slice B' m' d')) (X : RQ w s A n c A' n' c' v k) (Y : RQ w t B m d B' m' d' u k2) (hk : k ≤ 10000) (hk2 : k2 ≤ 10000)
    (hend : ∀ (V : Nat → Value) (w' : World) (g : Nat) (s : Bool) (A : Option Addr) (n c : Nat), RG w' s A n c (v.num * (u.den : Int) + u.num * (v.den : Int)) (k + k2 + 1) → By w' g (.bool s) (.slice A n c) → Below w.heap.size w w' → w.heap.size ≤ g → V 5 = .pointer (some ⟨g, 0, none⟩) → Q .normal (putAll ac [6, 7, 8, 9, 10, 11, 12, 13, 14, 15, 16, 5] V) w') :
    (Code.region id #[{ dst := some 6, op := Op.fieldAddr 34 (Operand.tmp 2) 0, type := 0, pos := "ref.go:81", after := #[], guard := none },
      { dst := some 7, op := Op.load 32 (Operand.tmp 6), type := 32, pos := "ref.go:81", after := #[{ on := 0, ground := Ground.data }], guard := none },
      { dst := some 8, op := Op.load 34 (Operand.tmp 3), type := 34, pos := "ref.go:81", after := #[], guard := none },
      { dst := some 9, op := Op.call { callee := Callee.value (Operand.func 106), args := #[Operand.tmp 8], argTypes := #[34] }, type := 32, pos := "ref.go:81", after := #[{ on := 2, ground := Ground.data }], guard := none },
      { dst := some 10, op := Op.call { callee := Callee.value (Operand.func 105), args := #[Operand.tmp 7, Operand.tmp 9], argTypes := #[32, 32] }, type := 32, pos := "ref.go:81", after := #[{ on := 1, ground := Ground.data }, { on := 3, ground := Ground.data }, { on := 3, ground := Ground.chain }], guard := none },
      { dst := some 11, op := Op.fieldAddr 34 (Operand.tmp 3) 0, type := 0, pos := "ref.go:81", after := #[], guard := none },
      { dst := some 12, op := Op.load 32 (Operand.tmp 11), type := 32, pos := "ref.go:81", after := #[{ on := 5, ground := Ground.data }], guard := none },
      { dst := some 13, op := Op.load 34 (Operand.tmp 2), type := 34, pos := "ref.go:81", after := #[], guard := none },
      { dst := some 14, op := Op.call { callee := Callee.value (Operand.func 106), args := #[Operand.tmp 13], argTypes := #[34] }, type := 32, pos := "ref.go:81", after := #[{ on := 7, ground := Ground.data }, { on := 4, ground := Ground.chain }], guard := none },
      { dst := some 15, op := Op.call { callee := Callee.value (Operand.func 105), args := #[Operand.tmp 12, Operand.tmp 14], argTypes := #[32, 32] }, type := 32, pos := "ref.go:81", after := #[{ on := 6, ground := Ground.data }, { on := 8, ground := Ground.data }, { on := 8, ground := Ground.chain }], guard := none },
      { dst := some 16, op := Op.call { callee := Callee.value (Operand.func 111), args := #[Operand.tmp 10, Operand.tmp 15], argTypes := #[32, 32] }, type := 32, pos := "ref.go:81", after := #[{ on := 4, ground := Ground.data }, { on := 9, ground := Ground.data }, { on := 9, ground := Ground.chain }], guard := none },
      { dst := some 5, op := Op.alloc 32, type := 0, pos := "ref.go:81", after := #[], guard := none },
      { dst := none, op := Op.store 32 (Operand.tmp 5) (Operand.tmp 16), type := 0, pos := "ref.go:81", after := #[{ on := 11, ground := Ground.data }, { on := 10, ground := Ground.data }, { on := 10, ground := Ground.chain }, { on := 0, ground := Ground.phase }, { on := 1, ground := Ground.phase }, { on := 2, ground := Ground.phase }, { on := 3, ground := Ground.phase }, { on := 4, ground := Ground.phase }, { on := 5, ground := Ground.phase }, { on := 6, ground := Ground.phase }, { on := 7, ground := Ground.phase }, { on := 8, ground := Ground.phase }, { on := 9, ground := Ground.phase }, { on := 10, ground := Ground.phase }, { on := 11, ground := Ground.phase }], guard := none }] true).wp Tryz.prog Q ac w := by
  have hnd : ([6, 7, 8, 9, 10, 11, 12, 13, 14, 15, 16, 5] : List Nat).Nodup := by decide
  have G : ∀ (sv : Nat → Value) (t : Nat), t ∈ ([6, 7, 8, 9, 10, 11, 12, 13, 14, 15, 16, 5] : List Nat) → t ≤ 16 → (putAll ac [6, 7, 8, 9, 10, 11, 12, 13, 14, 15, 16, 5] sv).eval (.tmp t) = sv t := fun sv t ht h => eval_putAll_mem (t := t) [6, 7, 8, 9, 10, 11, 12, 13, 14, 15, 16, 5] ac hnd ht (Nat.lt_of_le_of_lt h hsz)
  have E2 : ∀ sv : Nat → Value, (putAll ac [6, 7, 8, 9, 10, 11, 12, 13, 14, 15, 16, 5] sv).eval (.tmp 2) = Value.pointer (some ⟨g1, 0, none⟩) := fun sv => (eval_putAll_not (v := sv) [6, 7, 8, 9, 10, 11, 12, 13, 14, 15, 16, 5] ac (show 2 ∉ _ by decide)).trans e2
  have E3 : ∀ sv : Nat → Value, (putAll ac [6, 7, 8, 9, 10, 11, 12, 13, 14, 15, 16, 5] sv).eval (.tmp 3) = Value.pointer (some ⟨g2, 0, none⟩) := fun sv => (eval_putAll_not (v := sv) [6, 7, 8, 9, 10, 11, 12, 13, 14, 15, 16, 5] ac (show 3 ∉ _ by decide)).trans e3
  refine wp_region_flow 32 #[.bool false, .slice none 0 0] [6, 7, 8, 9, 10, 11, 12, 13, 14, 15, 16, 5] 11 12 5 ({ dst := some 5, op := Op.alloc 32, type := 0, pos := "ref.go:81", after := #[], guard := none }) ({ dst := none, op := Op.store 32 (Operand.tmp 5) (Operand.tmp 16), type := 0, pos := "ref.go:81", after := #[{ on := 11, ground := Ground.data }, { on := 10, ground := Ground.data }, { on := 10, ground := Ground.chain }, { on := 0, ground := Ground.phase }, { on := 1, ground := Ground.phase }, { on := 2, ground := Ground.phase }, { on := 3, ground := Ground.phase }, { on := 4, ground := Ground.phase }, { on := 5, ground := Ground.phase }, { on := 6, ground := Ground.phase }, { on := 7, ground := Ground.phase }, { on := 8, ground := Ground.phase }, { on := 9, ground := Ground.phase }, { on := 10, ground := Ground.phase }, { on := 11, ground := Ground.phase }], guard := none }) (F_radd s t A A' B B' n c n' c' m d m' d' k k2 g1 g2 v u) (fun cs w => ∃ s A n c, cs = #[.bool s, .slice A n c] ∧ RG w s A n c (v.num * (u.den : Int) + u.num * (v.den : Int)) (k + k2 + 1)) (by kernel_rfl) (by kernel_rfl) rfl hnd rfl rfl rfl rfl ?_ rfl rfl ⟨{ on := 11, ground := Ground.data }, by simp, rfl, rfl⟩ ?_ (free2 _ _ _ _) (fun e w' => run_allocR) ?_ ?_ ?_ ?_
  · intro i o h1 h2
    match i, h1 with
    | 0, h1 => cases h1; cases h2
    | 1, h1 => cases h1; cases h2
    | 2, h1 => cases h1; cases h2
    | 3, h1 => cases h1; cases h2
    | 4, h1 => cases h1; cases h2
    | 5, h1 => cases h1; cases h2
    | 6, h1 => cases h1; cases h2
    | 7, h1 => cases h1; cases h2
    | 8, h1 => cases h1; cases h2
    | 9, h1 => cases h1; cases h2
    | 10, h1 => cases h1; cases h2
    | 11, h1 => cases h1; cases h2
    | 12, h1 => cases h1; rfl
    | i + 13, h1 => cases h1
  · intro t
    unfold F_radd
    split <;> first | exact stays_eq _ | exact stays_q _ _ | exact stays_z _ _ | exact stays_r _ _ | exact stays_qe _ _ | exact stays_qs _ _ | exact stays_true
  · intro i o t sv w' ho hia hd J0 hf
    have X := X.below J0
    have Y := Y.below J0
    have XA := XA.below J0
    have XB := XB.below J0
    match i, ho with
    | 0, ho =>
      obtain rfl : { dst := some 6, op := Op.fieldAddr 34 (Operand.tmp 2) 0, type := 0, pos := "ref.go:81", after := #[], guard := none } = o := Option.some.inj ho
      cases hd
      refine wpOp_plain' (o := { dst := some 6, op := Op.fieldAddr 34 (Operand.tmp 2) 0, type := 0, pos := "ref.go:81", after := #[], guard := none }) rfl rfl ?_
      unfold Oper.wp
      rw [run_fa0 (E2 sv), Oper.upon_value]
      exact ⟨_, rfl, Below.refl _ _, rfl⟩
    | 1, ho =>
      obtain rfl : { dst := some 7, op := Op.load 32 (Operand.tmp 6), type := 32, pos := "ref.go:81", after := #[{ on := 0, ground := Ground.data }], guard := none } = o := Option.some.inj ho
      cases hd
      have f6 : sv 6 = Value.pointer (some ⟨g1, 0, none⟩) := hf { on := 0, ground := Ground.data } (by simp) rfl _ 6 rfl rfl (by decide)
      refine wpOp_plain' (o := { dst := some 7, op := Op.load 32 (Operand.tmp 6), type := 32, pos := "ref.go:81", after := #[{ on := 0, ground := Ground.data }], guard := none }) rfl rfl ?_
      unfold Oper.wp
      rw [run_load32 ((G sv 6 (by decide) (by decide)).trans f6) XA.c0 XA.c1, Oper.upon_value]
      exact ⟨_, rfl, Below.refl _ _, rfl⟩
    | 2, ho =>
      obtain rfl : { dst := some 8, op := Op.load 34 (Operand.tmp 3), type := 34, pos := "ref.go:81", after := #[], guard := none } = o := Option.some.inj ho
      cases hd
      refine wpOp_plain' (o := { dst := some 8, op := Op.load 34 (Operand.tmp 3), type := 34, pos := "ref.go:81", after := #[], guard := none }) rfl rfl ?_
      unfold Oper.wp
      rw [run_load3 (E3 sv) XB.c0 XB.c1 XB.c2, Oper.upon_value]
      exact ⟨_, rfl, Below.refl _ _, rfl⟩
    | 3, ho =>
      obtain rfl : { dst := some 9, op := Op.call { callee := Callee.value (Operand.func 106), args := #[Operand.tmp 8], argTypes := #[34] }, type := 32, pos := "ref.go:81", after := #[{ on := 2, ground := Ground.data }], guard := none } = o := Option.some.inj ho
      cases hd
      have f8 : sv 8 = Value.agg #[.bool t, .slice B m d, .slice B' m' d'] := hf { on := 2, ground := Ground.data } (by simp) rfl _ 8 rfl rfl (by decide)
      refine wpOp_plain' (o := { dst := some 9, op := Op.call { callee := Callee.value (Operand.func 106), args := #[Operand.tmp 8], argTypes := #[34] }, type := 32, pos := "ref.go:81", after := #[{ on := 2, ground := Ground.data }], guard := none }) rfl rfl ?_
      unfold Oper.wp
      rw [rc_gesso_gessoref03_den ((G sv 8 (by decide) (by decide)).trans f8) rfl, Oper.upon_enter]
      refine (rden3 Y).mono ?_
      rintro e w1 ⟨rfl, hh⟩
      exact ⟨_, rfl, hh, rfl⟩
    | 4, ho =>
      obtain rfl : { dst := some 10, op := Op.call { callee := Callee.value (Operand.func 105), args := #[Operand.tmp 7, Operand.tmp 9], argTypes := #[32, 32] }, type := 32, pos := "ref.go:81", after := #[{ on := 1, ground := Ground.data }, { on := 3, ground := Ground.data }, { on := 3, ground := Ground.chain }], guard := none } = o := Option.some.inj ho
      cases hd
      have f7 : sv 7 = Value.agg #[.bool s, .slice A n c] := hf { on := 1, ground := Ground.data } (by simp) rfl _ 7 rfl rfl (by decide)
      have f9 : sv 9 = Value.agg #[.bool false, .slice B' m' d'] := hf { on := 3, ground := Ground.data } (by simp) rfl _ 9 rfl rfl (by decide)
      refine wpOp_plain' (o := { dst := some 10, op := Op.call { callee := Callee.value (Operand.func 105), args := #[Operand.tmp 7, Operand.tmp 9], argTypes := #[32, 32] }, type := 32, pos := "ref.go:81", after := #[{ on := 1, ground := Ground.data }, { on := 3, ground := Ground.data }, { on := 3, ground := Ground.chain }], guard := none }) rfl rfl ?_
      unfold Oper.wp
      rw [rc_gesso_gessoref02_Mul ((G sv 7 (by decide) (by decide)).trans f7) ((G sv 9 (by decide) (by decide)).trans f9) rfl, Oper.upon_enter]
      refine (rmul2 X.pz Y.qz (by omega) (by omega)).mono ?_
      rintro e w1 ⟨s1, A1, n1, c1, rfl, hq, hh⟩
      exact ⟨_, rfl, hh, s1, A1, n1, c1, rfl, hq⟩
    | 5, ho =>
      obtain rfl : { dst := some 11, op := Op.fieldAddr 34 (Operand.tmp 3) 0, type := 0, pos := "ref.go:81", after := #[], guard := none } = o := Option.some.inj ho
      cases hd
      refine wpOp_plain' (o := { dst := some 11, op := Op.fieldAddr 34 (Operand.tmp 3) 0, type := 0, pos := "ref.go:81", after := #[], guard := none }) rfl rfl ?_
      unfold Oper.wp
      rw [run_fa0 (E3 sv), Oper.upon_value]
      exact ⟨_, rfl, Below.refl _ _, rfl⟩
    | 6, ho =>
      obtain rfl : { dst := some 12, op := Op.load 32 (Operand.tmp 11), type := 32, pos := "ref.go:81", after := #[{ on := 5, ground := Ground.data }], guard := none } = o := Option.some.inj ho
      cases hd
      have f11 : sv 11 = Value.pointer (some ⟨g2, 0, none⟩) := hf { on := 5, ground := Ground.data } (by simp) rfl _ 11 rfl rfl (by decide)
      refine wpOp_plain' (o := { dst := some 12, op := Op.load 32 (Operand.tmp 11), type := 32, pos := "ref.go:81", after := #[{ on := 5, ground := Ground.data }], guard := none }) rfl rfl ?_
      unfold Oper.wp
      rw [run_load32 ((G sv 11 (by decide) (by decide)).trans f11) XB.c0 XB.c1, Oper.upon_value]
      exact ⟨_, rfl, Below.refl _ _, rfl⟩
    | 7, ho =>
      obtain rfl : { dst := some 13, op := Op.load 34 (Operand.tmp 2), type := 34, pos := "ref.go:81", after := #[], guard := none } = o := Option.some.inj ho
      cases hd
      refine wpOp_plain' (o := { dst := some 13, op := Op.load 34 (Operand.tmp 2), type := 34, pos := "ref.go:81", after := #[], guard := none }) rfl rfl ?_
      unfold Oper.wp
      rw [run_load3 (E2 sv) XA.c0 XA.c1 XA.c2, Oper.upon_value]
      exact ⟨_, rfl, Below.refl _ _, rfl⟩
    | 8, ho =>
      obtain rfl : { dst := some 14, op := Op.call { callee := Callee.value (Operand.func 106), args := #[Operand.tmp 13], argTypes := #[34] }, type := 32, pos := "ref.go:81", after := #[{ on := 7, ground := Ground.data }, { on := 4, ground := Ground.chain }], guard := none } = o := Option.some.inj ho
      cases hd
      have f13 : sv 13 = Value.agg #[.bool s, .slice A n c, .slice A' n' c'] := hf { on := 7, ground := Ground.data } (by simp) rfl _ 13 rfl rfl (by decide)
      refine wpOp_plain' (o := { dst := some 14, op := Op.call { callee := Callee.value (Operand.func 106), args := #[Operand.tmp 13], argTypes := #[34] }, type := 32, pos := "ref.go:81", after := #[{ on := 7, ground := Ground.data }, { on := 4, ground := Ground.chain }], guard := none }) rfl rfl ?_
      unfold Oper.wp
      rw [rc_gesso_gessoref03_den ((G sv 13 (by decide) (by decide)).trans f13) rfl, Oper.upon_enter]
      refine (rden3 X).mono ?_
      rintro e w1 ⟨rfl, hh⟩
      exact ⟨_, rfl, hh, rfl⟩
    | 9, ho =>
      obtain rfl : { dst := some 15, op := Op.call { callee := Callee.value (Operand.func 105), args := #[Operand.tmp 12, Operand.tmp 14], argTypes := #[32, 32] }, type := 32, pos := "ref.go:81", after := #[{ on := 6, ground := Ground.data }, { on := 8, ground := Ground.data }, { on := 8, ground := Ground.chain }], guard := none } = o := Option.some.inj ho
      cases hd
      have f12 : sv 12 = Value.agg #[.bool t, .slice B m d] := hf { on := 6, ground := Ground.data } (by simp) rfl _ 12 rfl rfl (by decide)
      have f14 : sv 14 = Value.agg #[.bool false, .slice A' n' c'] := hf { on := 8, ground := Ground.data } (by simp) rfl _ 14 rfl rfl (by decide)
      refine wpOp_plain' (o := { dst := some 15, op := Op.call { callee := Callee.value (Operand.func 105), args := #[Operand.tmp 12, Operand.tmp 14], argTypes := #[32, 32] }, type := 32, pos := "ref.go:81", after := #[{ on := 6, ground := Ground.data }, { on := 8, ground := Ground.data }, { on := 8, ground := Ground.chain }], guard := none }) rfl rfl ?_
      unfold Oper.wp
      rw [rc_gesso_gessoref02_Mul ((G sv 12 (by decide) (by decide)).trans f12) ((G sv 14 (by decide) (by decide)).trans f14) rfl, Oper.upon_enter]
      refine (rmul2 Y.pz X.qz (by omega) (by omega)).mono ?_
      rintro e w1 ⟨s1, A1, n1, c1, rfl, hq, hh⟩
      exact ⟨_, rfl, hh, s1, A1, n1, c1, rfl, hq⟩
    | 10, ho =>
      obtain rfl : { dst := some 16, op := Op.call { callee := Callee.value (Operand.func 111), args := #[Operand.tmp 10, Operand.tmp 15], argTypes := #[32, 32] }, type := 32, pos := "ref.go:81", after := #[{ on := 4, ground := Ground.data }, { on := 9, ground := Ground.data }, { on := 9, ground := Ground.chain }], guard := none } = o := Option.some.inj ho
      cases hd
      have h10 : VRG (v.num * (u.den : Int)) (k + k2) (sv 10) w' := hf { on := 4, ground := Ground.data } (by simp) rfl _ 10 rfl rfl (by decide)
      obtain ⟨s10, A10, n10, c10, f10, q10⟩ := h10
      have h15 : VRG (u.num * (v.den : Int)) (k2 + k) (sv 15) w' := hf { on := 9, ground := Ground.data } (by simp) rfl _ 15 rfl rfl (by decide)
      obtain ⟨s15, A15, n15, c15, f15, q15⟩ := h15
      refine wpOp_plain' (o := { dst := some 16, op := Op.call { callee := Callee.value (Operand.func 111), args := #[Operand.tmp 10, Operand.tmp 15], argTypes := #[32, 32] }, type := 32, pos := "ref.go:81", after := #[{ on := 4, ground := Ground.data }, { on := 9, ground := Ground.data }, { on := 9, ground := Ground.chain }], guard := none }) rfl rfl ?_
      unfold Oper.wp
      rw [rc_gesso_gessoref02_Add ((G sv 10 (by decide) (by decide)).trans f10) ((G sv 15 (by decide) (by decide)).trans f15) rfl, Oper.upon_enter]
      refine (radd2 (k + k2 + 1) q10.rz q15.rz (by omega) (by omega) (by omega)).mono ?_
      rintro e w1 ⟨s1, A1, n1, c1, rfl, hq, hh⟩
      exact ⟨_, rfl, hh, s1, A1, n1, c1, rfl, hq⟩
    | 11, ho => exact absurd rfl hia
    | 12, ho => cases ho; cases hd
    | i + 13, ho => cases ho
  · intro sv w' g J0 p1 p3 hf
    have h1 : VRG (v.num * (u.den : Int) + u.num * (v.den : Int)) (k + k2 + 1) (sv 16) w' := hf { on := 10, ground := Ground.data } (by simp) rfl _ 16 rfl rfl (by decide)
    rw [← G sv 16 (by decide) (by decide)] at h1
    refine store_r (V := v.num * (u.den : Int) + u.num * (v.den : Int)) (k := k + k2 + 1) (ac := putAll ac [6, 7, 8, 9, 10, 11, 12, 13, 14, 15, 16, 5] sv) (z := Operand.tmp 16) ?_ ?_ ?_
    · exact (G sv 5 (by decide) (by decide)).trans p1
    · exact h1
    · exact p3
  · rintro cs w1 w2 ⟨s1, A1, n1, c1, h1, h2⟩ hb
    exact ⟨s1, A1, n1, c1, h1, h2.below hb⟩
  · rintro sv w' g cs J0 hF p1 p2 p3 ⟨s1, A1, n1, c1, h1, h2⟩
    subst h1
    exact hend sv w' g _ _ _ _ h2 p3.at_ J0 p2 p1 
set_option maxRecDepth 100000 in
set_option maxHeartbeats 8000000 in
theorem radd3 {w : World} {s t : Bool} {A A' B B' : Option Addr} {n c n' c' m d m' d' k k2 : Nat} {v u : Rat} (X : RQ w s A n c A' n' c' v k) (Y : RQ w t B m d B' m' d' u k2) (hk : k ≤ 10000) (hk2 : k2 ≤ 10000) :
    Calls Tryz.prog 23 #[.agg #[.bool s, .slice A n c, .slice A' n' c'], .agg #[.bool t, .slice B m d, .slice B' m' d']] w (GivesRQ w (v + u) (k + k2 + 1)) := by
  have HE : Hid (mkRat (v.num * (u.den : Int) + u.num * (v.den : Int)) (v.den * u.den) = v + u) := by
    show _ = _
    conv => rhs; rw [parts_eq v, parts_eq u, mk_add v.den_nz u.den_nz]
  have H0 : Hid (v.den * u.den ≠ 0) := Nat.mul_ne_zero v.den_nz u.den_nz
  have HJ : Hid (v.den * u.den < B32 ^ (k + k2 + 1)) := by
    show _ < _
    have h1 := Nat.mul_lt_mul'' X.qn.lt Y.qn.lt
    rw [← Nat.pow_add] at h1
    exact Nat.lt_of_lt_of_le h1 (Nat.pow_le_pow_right (by decide) (by omega))
  have hfd := fld02
  go_enter Tryz.func23, Tryz.ntmps23
  go_wp2_with fail
  generalize hW : (((w.alloc (Obj.cells #[Value.bool s, Value.slice A n c, Value.slice A' n' c'] 34)).alloc (Obj.cells #[Value.bool t, Value.slice B m d, Value.slice B' m' d'] 34)).alloc (Obj.cells #[Value.bool false, Value.slice none 0 0, Value.slice none 0 0] 34)) = W
  have hb : Below w.heap.size w W := by subst hW; exact ((((Below.refl _ _).alloc (Nat.le_refl _) _).alloc (by simp) _).alloc (by simp; omega) _)
  have XA : B3R W (w.heap.size) (Value.bool s) (Value.slice A n c) (Value.slice A' n' c') := by subst hW; exact ((B3R.new' _ _ _ _ _ rfl).alloc _).alloc _
  have XB : B3R W (w.heap.size + 1) (Value.bool t) (Value.slice B m d) (Value.slice B' m' d') := by subst hW; exact (B3R.new' _ _ _ _ _ (by simp)).alloc _
  have Z : B3R W (w.heap.size + 1 + 1) (Value.bool false) (Value.slice none 0 0) (Value.slice none 0 0) := by subst hW; exact B3R.new' _ _ _ _ _ (by simp)
  have hzW : W.heap.size = w.heap.size + 3 := by subst hW; simp
  clear hW
  replace X := X.below hb
  replace Y := Y.below hb
  refine radd_region (by simp) rfl rfl XA XB X Y hk hk2 ?_
  intro V w_x g_x s_x A_x n_x c_x x XP hh hg_x hv5
  simp only [putAll, Act.put, List.setIfInBounds_toArray, List.set_cons_zero, List.set_cons_succ, hv5]
  clear hv5
  replace X := X.below hh
  replace Y := Y.below hh
  replace XA := XA.below hh
  replace XB := XB.below hh
  replace Z := Z.below hh
  replace hb := bend hb hh
  go_upto_region 2 with (fail)
  replace X := X.below (Below.refl _ _).drew
  replace Y := Y.below (Below.refl _ _).drew
  replace x := x.below (Below.refl _ _).drew
  replace XA := XA.below (Below.refl _ _).drew
  replace XB := XB.below (Below.refl _ _).drew
  replace XP := XP.below (Below.refl _ _).drew
  replace Z := Z.below (Below.refl _ _).drew
  replace hb := hb.drew
  go_region_held3 (fun w' => w'.cell? ⟨w.heap.size, 0, none⟩ = some (.bool s) ∧ w'.cell? ⟨w.heap.size, 1, none⟩ = some (.slice A n c) ∧ w'.cell? ⟨w.heap.size, 2, none⟩ = some (.slice A' n' c') ∧ w'.cell? ⟨w.heap.size + 1, 0, none⟩ = some (.bool t) ∧ w'.cell? ⟨w.heap.size + 1, 1, none⟩ = some (.slice B m d) ∧ w'.cell? ⟨w.heap.size + 1, 2, none⟩ = some (.slice B' m' d') ∧ w'.cell? ⟨g_x, 0, none⟩ = some (.bool s_x) ∧ w'.cell? ⟨g_x, 1, none⟩ = some (.slice A_x n_x c_x))
    (first | with_reducible exact ⟨XA.c0, XA.c1, XA.c2, XB.c0, XB.c1, XB.c2, XP.c0, XP.c1⟩ | with_reducible exact ⟨(set3_cell _ _ _ _ _ _ _ (by omega)).trans XA.c0, (set3_cell _ _ _ _ _ _ _ (by omega)).trans XA.c1, (set3_cell _ _ _ _ _ _ _ (by omega)).trans XA.c2, (set3_cell _ _ _ _ _ _ _ (by omega)).trans XB.c0, (set3_cell _ _ _ _ _ _ _ (by omega)).trans XB.c1, (set3_cell _ _ _ _ _ _ _ (by omega)).trans XB.c2, (set3_cell _ _ _ _ _ _ _ (by omega)).trans XP.c0, (set3_cell _ _ _ _ _ _ _ (by omega)).trans XP.c1⟩)
    (first
    | (go_at_call 106; (with_reducible refine (rden3 X).mono ?_); rintro e w_z ⟨rfl, hh⟩
       try replace X := X.below hh
       try replace Y := Y.below hh
       try replace x := x.below hh
       try replace y := y.below hh
       try replace r := r.below hh
       try replace XA := XA.below hh
       try replace XB := XB.below hh
       try replace XP := XP.below hh
       try replace Z := Z.below hh
       replace hb := bend hb hh)
    | (go_at_call 106; (with_reducible refine (rden3 Y).mono ?_); rintro e w_z ⟨rfl, hh⟩
       try replace X := X.below hh
       try replace Y := Y.below hh
       try replace x := x.below hh
       try replace y := y.below hh
       try replace r := r.below hh
       try replace XA := XA.below hh
       try replace XB := XB.below hh
       try replace XP := XP.below hh
       try replace Z := Z.below hh
       replace hb := bend hb hh)
    | (go_at_call 108; (with_reducible refine (rmul_rn (k + k2 + 1) X.qn Y.qn (by omega) (by omega) HJ.out).mono ?_); rintro e w_y ⟨A_y, n_y, c_y, rfl, y, hh⟩
       try replace X := X.below hh
       try replace Y := Y.below hh
       try replace x := x.below hh
       try replace r := r.below hh
       try replace XA := XA.below hh
       try replace XB := XB.below hh
       try replace XP := XP.below hh
       try replace Z := Z.below hh
       replace hb := bend hb hh)
    | (go_at_call 99; (with_reducible refine (made_rq x y (by omega) H0.out).mono ?_); rintro e w_r ⟨s_r, A_r, n_r, c_r, B_r, m_r, d_r, rfl, r, hh⟩
       rw [HE.out] at r
       try replace X := X.below hh
       try replace Y := Y.below hh
       try replace x := x.below hh
       try replace y := y.below hh
       try replace XA := XA.below hh
       try replace XB := XB.below hh
       try replace XP := XP.below hh
       try replace Z := Z.below hh
       replace hb := bend hb hh
       have zf0 := Z.f0
       have zf1 := Z.f1
       have zf2 := Z.f2
       have z0 := Z.c0
       have z1 := Z.c1
       have z2 := Z.c2))
  go_wp2_with fail
  have Z2 := Z.set3 (.bool s_r) (.slice A_r n_r c_r) (.slice B_r m_r d_r)
  have g0 := Z2.c0
  have g1 := Z2.c1
  have g2 := Z2.c2
  refine bodyPost_ret (v := .agg #[.bool s_r, .slice A_r n_r c_r, .slice B_r m_r d_r]) (by simp [results, Tryz.results23, go_sem, g0, g1, g2]) rfl ?_
  exact ⟨s_r, A_r, n_r, c_r, B_r, m_r, d_r, rfl, r.set3 Z _ _ _, below_set3 hb (by omega) _ _ _⟩
set_option maxRecDepth 100000 in
set_option maxHeartbeats 8000000 in
theorem rsub3 {w : World} {s t : Bool} {A A' B B' : Option Addr} {n c n' c' m d m' d' k k2 : Nat} {v u : Rat} (X : RQ w s A n c A' n' c' v k) (Y : RQ w t B m d B' m' d' u k2) (hk : k ≤ 10000) (hk2 : k2 ≤ 10000) :
    Calls Tryz.prog 25 #[.agg #[.bool s, .slice A n c, .slice A' n' c'], .agg #[.bool t, .slice B m d, .slice B' m' d']] w (GivesRQ w (v - u) (k + k2 + 1)) := by
  have HE : Hid (v + -u = v - u) := (Rat.sub_eq_add_neg v u).symm
  go_enter Tryz.func25, Tryz.ntmps25
  go_wp2_with fail
  generalize hW : (((w.alloc (Obj.cells #[Value.bool s, Value.slice A n c, Value.slice A' n' c'] 34)).alloc (Obj.cells #[Value.bool t, Value.slice B m d, Value.slice B' m' d'] 34)).alloc (Obj.cells #[Value.bool false, Value.slice none 0 0, Value.slice none 0 0] 34)) = W
  have hb : Below w.heap.size w W := by subst hW; exact ((((Below.refl _ _).alloc (Nat.le_refl _) _).alloc (by simp) _).alloc (by simp; omega) _)
  have XA : B3R W (w.heap.size) (Value.bool s) (Value.slice A n c) (Value.slice A' n' c') := by subst hW; exact ((B3R.new' _ _ _ _ _ rfl).alloc _).alloc _
  have XB : B3R W (w.heap.size + 1) (Value.bool t) (Value.slice B m d) (Value.slice B' m' d') := by subst hW; exact (B3R.new' _ _ _ _ _ (by simp)).alloc _
  have Z : B3R W (w.heap.size + 1 + 1) (Value.bool false) (Value.slice none 0 0) (Value.slice none 0 0) := by subst hW; exact B3R.new' _ _ _ _ _ (by simp)
  have hzW : W.heap.size = w.heap.size + 3 := by subst hW; simp
  clear hW
  replace X := X.below hb
  replace Y := Y.below hb
  replace X := X.below (Below.refl _ _).drew
  replace Y := Y.below (Below.refl _ _).drew
  replace XA := XA.below (Below.refl _ _).drew
  replace XB := XB.below (Below.refl _ _).drew
  replace Z := Z.below (Below.refl _ _).drew
  replace hb := hb.drew
  go_region_held3 (fun w' => w'.cell? ⟨w.heap.size, 0, none⟩ = some (.bool s) ∧ w'.cell? ⟨w.heap.size, 1, none⟩ = some (.slice A n c) ∧ w'.cell? ⟨w.heap.size, 2, none⟩ = some (.slice A' n' c') ∧ w'.cell? ⟨w.heap.size + 1, 0, none⟩ = some (.bool t) ∧ w'.cell? ⟨w.heap.size + 1, 1, none⟩ = some (.slice B m d) ∧ w'.cell? ⟨w.heap.size + 1, 2, none⟩ = some (.slice B' m' d'))
    (first | with_reducible exact ⟨XA.c0, XA.c1, XA.c2, XB.c0, XB.c1, XB.c2⟩ | with_reducible exact ⟨(set3_cell _ _ _ _ _ _ _ (by omega)).trans XA.c0, (set3_cell _ _ _ _ _ _ _ (by omega)).trans XA.c1, (set3_cell _ _ _ _ _ _ _ (by omega)).trans XA.c2, (set3_cell _ _ _ _ _ _ _ (by omega)).trans XB.c0, (set3_cell _ _ _ _ _ _ _ (by omega)).trans XB.c1, (set3_cell _ _ _ _ _ _ _ (by omega)).trans XB.c2⟩)
    (first
    | (go_at_call 32; (with_reducible refine (rminus3 Y).mono ?_); rintro e w_y ⟨s_y, A_y, n_y, c_y, B_y, m_y, d_y, rfl, y, hh⟩
       try replace X := X.below hh
       try replace Y := Y.below hh
       try replace r := r.below hh
       try replace XA := XA.below hh
       try replace XB := XB.below hh
       try replace Z := Z.below hh
       replace hb := bend hb hh)
    | (go_at_call 23; (with_reducible refine (radd3 X y hk hk2).mono ?_); rintro e w_r ⟨s_r, A_r, n_r, c_r, B_r, m_r, d_r, rfl, r, hh⟩
       rw [HE.out] at r
       try replace X := X.below hh
       try replace Y := Y.below hh
       try replace y := y.below hh
       try replace XA := XA.below hh
       try replace XB := XB.below hh
       try replace Z := Z.below hh
       replace hb := bend hb hh
       have zf0 := Z.f0
       have zf1 := Z.f1
       have zf2 := Z.f2
       have z0 := Z.c0
       have z1 := Z.c1
       have z2 := Z.c2))
  go_wp2_with fail
  have Z2 := Z.set3 (.bool s_r) (.slice A_r n_r c_r) (.slice B_r m_r d_r)
  have g0 := Z2.c0
  have g1 := Z2.c1
  have g2 := Z2.c2
  refine bodyPost_ret (v := .agg #[.bool s_r, .slice A_r n_r c_r, .slice B_r m_r d_r]) (by simp [results, Tryz.results25, go_sem, g0, g1, g2]) rfl ?_
  exact ⟨s_r, A_r, n_r, c_r, B_r, m_r, d_r, rfl, r.set3 Z _ _ _, below_set3 hb (by omega) _ _ _⟩
end Go.Proofs.YtlkjkhpjhllapaaGreat
namespace Go.Proofs.YtlkjkhpjhllapaaGreat
open Go Go.RowKit
theorem div_pos3 {v u : Rat} (hu : 0 < u.num) : mkRat (v.num * (u.den : Int)) (v.den * u.num.natAbs) = v / u := by
  conv => rhs; rw [parts_eq v, parts_eq u, mk_div]
  rw [← Rat.divInt_ofNat, Int.natCast_mul, Int.natAbs_of_nonneg (by omega)]
theorem div_neg3 {v u : Rat} (hu : u.num < 0) : mkRat (-(v.num * (u.den : Int))) (v.den * u.num.natAbs) = v / u := by
  conv => rhs; rw [parts_eq v, parts_eq u, mk_div]
  rw [← Rat.divInt_ofNat, Int.natCast_mul, show (u.num.natAbs : Int) = -u.num by omega, Int.mul_neg, Rat.neg_divInt_neg]
def F_rdiv (s : Bool) (t : Bool) (A : Option Addr) (B : Option Addr) (B' : Option Addr) (n : Nat) (c : Nat) (m : Nat) (d : Nat) (m' : Nat) (d' : Nat) (k : Nat) (k2 : Nat) (g1 : Nat) (v : Rat) (u : Rat) (sl : Nat) : Value → World → Prop :=
  match sl with
  | 6 => fun x _ => x = Value.pointer (some ⟨g1, 0, none⟩)
  | 7 => fun x _ => x = Value.agg #[.bool s, .slice A n c]
  | 8 => fun x _ => x = Value.agg #[.bool t, .slice B m d, .slice B' m' d']
  | 9 => fun x _ => x = Value.agg #[.bool false, .slice B' m' d']
  | 10 => VRG (v.num * (u.den : Int)) (k + k2)
  | _ => fun _ _ => True
set_option maxRecDepth 100000 in
set_option maxHeartbeats 4000000 in
theorem rdiv_region {id : Nat} {ac : Act} {w : World} {Q : Exit → Act → World → Prop} {s t : Bool} {A A' B B' : Option Addr} {n c n' c' m d m' d' k k2 g1 g2 : Nat} {v u : Rat}
    (hsz : 10 < ac.tmps.size) (e2 : ac.eval (.tmp 2) = Value.pointer (some ⟨g1, 0, none⟩)) (e3 : ac.eval (.tmp 3) = Value.pointer (some ⟨g2, 0, none⟩)) (XA : B3R w g1 (.bool s) (.slice A n c) (.slice A' n' c')) (XB : B3R w g2 (.bool t) (.slice B m d) (.slice B' m' d')) (X : RQ w s A n c A' n' c' v k) (Y : RQ w t B m d B' m' d' u k2) (hk : k ≤ 10000) (hk2 : k2 ≤ 10000)
    (hend : ∀ (V : Nat → Value) (w' : World) (g : Nat) (s : Bool) (A : Option Addr) (n c : Nat), RG w' s A n c (v.num * (u.den : Int)) (k + k2) → By w' g (.bool s) (.slice A n c) → Below w.heap.size w w' → w.heap.size ≤ g → V 5 = .pointer (some ⟨g, 0, none⟩) → Q .normal (putAll ac [6, 7, 8, 9, 10, 5] V) w') :
    (Code.region id #[{ dst := some 6, op := Op.fieldAddr 34 (Operand.tmp 2) 0, type := 0, pos := "ref.go:92", after := #[], guard := none },
      { dst := some 7, op := Op.load 32 (Operand.tmp 6), type := 32, pos := "ref.go:92", after := #[{ on := 0, ground := Ground.data }], guard := none },
      { dst := some 8, op := Op.load 34 (Operand.tmp 3), type := 34, pos := "ref.go:92", after := #[], guard := none },
      { dst := some 9, op := Op.call { callee := Callee.value (Operand.func 106), args := #[Operand.tmp 8], argTypes := #[34] }, type := 32, pos := "ref.go:92", after := #[{ on := 2, ground := Ground.data }], guard := none },
      { dst := some 10, op := Op.call { callee := Callee.value (Operand.func 105), args := #[Operand.tmp 7, Operand.tmp 9], argTypes := #[32, 32] }, type := 32, pos := "ref.go:92", after := #[{ on := 1, ground := Ground.data }, { on := 3, ground := Ground.data }, { on := 3, ground := Ground.chain }], guard := none },
      { dst := some 5, op := Op.alloc 32, type := 0, pos := "ref.go:92", after := #[], guard := none },
      { dst := none, op := Op.store 32 (Operand.tmp 5) (Operand.tmp 10), type := 0, pos := "ref.go:92", after := #[{ on := 5, ground := Ground.data }, { on := 4, ground := Ground.data }, { on := 4, ground := Ground.chain }, { on := 0, ground := Ground.phase }, { on := 1, ground := Ground.phase }, { on := 2, ground := Ground.phase }, { on := 3, ground := Ground.phase }, { on := 4, ground := Ground.phase }, { on := 5, ground := Ground.phase }], guard := none }] true).wp Tryz.prog Q ac w := by
  have hnd : ([6, 7, 8, 9, 10, 5] : List Nat).Nodup := by decide
  have G : ∀ (sv : Nat → Value) (t : Nat), t ∈ ([6, 7, 8, 9, 10, 5] : List Nat) → t ≤ 10 → (putAll ac [6, 7, 8, 9, 10, 5] sv).eval (.tmp t) = sv t := fun sv t ht h => eval_putAll_mem (t := t) [6, 7, 8, 9, 10, 5] ac hnd ht (Nat.lt_of_le_of_lt h hsz)
  have E2 : ∀ sv : Nat → Value, (putAll ac [6, 7, 8, 9, 10, 5] sv).eval (.tmp 2) = Value.pointer (some ⟨g1, 0, none⟩) := fun sv => (eval_putAll_not (v := sv) [6, 7, 8, 9, 10, 5] ac (show 2 ∉ _ by decide)).trans e2
  have E3 : ∀ sv : Nat → Value, (putAll ac [6, 7, 8, 9, 10, 5] sv).eval (.tmp 3) = Value.pointer (some ⟨g2, 0, none⟩) := fun sv => (eval_putAll_not (v := sv) [6, 7, 8, 9, 10, 5] ac (show 3 ∉ _ by decide)).trans e3
  refine wp_region_flow 32 #[.bool false, .slice none 0 0] [6, 7, 8, 9, 10, 5] 5 6 5 ({ dst := some 5, op := Op.alloc 32, type := 0, pos := "ref.go:92", after := #[], guard := none }) ({ dst := none, op := Op.store 32 (Operand.tmp 5) (Operand.tmp 10), type := 0, pos := "ref.go:92", after := #[{ on := 5, ground := Ground.data }, { on := 4, ground := Ground.data }, { on := 4, ground := Ground.chain }, { on := 0, ground := Ground.phase }, { on := 1, ground := Ground.phase }, { on := 2, ground := Ground.phase }, { on := 3, ground := Ground.phase }, { on := 4, ground := Ground.phase }, { on := 5, ground := Ground.phase }], guard := none }) (F_rdiv s t A B B' n c m d m' d' k k2 g1 v u) (fun cs w => ∃ s A n c, cs = #[.bool s, .slice A n c] ∧ RG w s A n c (v.num * (u.den : Int)) (k + k2)) (by kernel_rfl) (by kernel_rfl) rfl hnd rfl rfl rfl rfl ?_ rfl rfl ⟨{ on := 5, ground := Ground.data }, by simp, rfl, rfl⟩ ?_ (free2 _ _ _ _) (fun e w' => run_allocR) ?_ ?_ ?_ ?_
  · intro i o h1 h2
    match i, h1 with
    | 0, h1 => cases h1; cases h2
    | 1, h1 => cases h1; cases h2
    | 2, h1 => cases h1; cases h2
    | 3, h1 => cases h1; cases h2
    | 4, h1 => cases h1; cases h2
    | 5, h1 => cases h1; cases h2
    | 6, h1 => cases h1; rfl
    | i + 7, h1 => cases h1
  · intro t
    unfold F_rdiv
    split <;> first | exact stays_eq _ | exact stays_q _ _ | exact stays_z _ _ | exact stays_r _ _ | exact stays_qe _ _ | exact stays_qs _ _ | exact stays_true
  · intro i o t sv w' ho hia hd J0 hf
    have X := X.below J0
    have Y := Y.below J0
    have XA := XA.below J0
    have XB := XB.below J0
    match i, ho with
    | 0, ho =>
      obtain rfl : { dst := some 6, op := Op.fieldAddr 34 (Operand.tmp 2) 0, type := 0, pos := "ref.go:92", after := #[], guard := none } = o := Option.some.inj ho
      cases hd
      refine wpOp_plain' (o := { dst := some 6, op := Op.fieldAddr 34 (Operand.tmp 2) 0, type := 0, pos := "ref.go:92", after := #[], guard := none }) rfl rfl ?_
      unfold Oper.wp
      rw [run_fa0 (E2 sv), Oper.upon_value]
      exact ⟨_, rfl, Below.refl _ _, rfl⟩
    | 1, ho =>
      obtain rfl : { dst := some 7, op := Op.load 32 (Operand.tmp 6), type := 32, pos := "ref.go:92", after := #[{ on := 0, ground := Ground.data }], guard := none } = o := Option.some.inj ho
      cases hd
      have f6 : sv 6 = Value.pointer (some ⟨g1, 0, none⟩) := hf { on := 0, ground := Ground.data } (by simp) rfl _ 6 rfl rfl (by decide)
      refine wpOp_plain' (o := { dst := some 7, op := Op.load 32 (Operand.tmp 6), type := 32, pos := "ref.go:92", after := #[{ on := 0, ground := Ground.data }], guard := none }) rfl rfl ?_
      unfold Oper.wp
      rw [run_load32 ((G sv 6 (by decide) (by decide)).trans f6) XA.c0 XA.c1, Oper.upon_value]
      exact ⟨_, rfl, Below.refl _ _, rfl⟩
    | 2, ho =>
      obtain rfl : { dst := some 8, op := Op.load 34 (Operand.tmp 3), type := 34, pos := "ref.go:92", after := #[], guard := none } = o := Option.some.inj ho
      cases hd
      refine wpOp_plain' (o := { dst := some 8, op := Op.load 34 (Operand.tmp 3), type := 34, pos := "ref.go:92", after := #[], guard := none }) rfl rfl ?_
      unfold Oper.wp
      rw [run_load3 (E3 sv) XB.c0 XB.c1 XB.c2, Oper.upon_value]
      exact ⟨_, rfl, Below.refl _ _, rfl⟩
    | 3, ho =>
      obtain rfl : { dst := some 9, op := Op.call { callee := Callee.value (Operand.func 106), args := #[Operand.tmp 8], argTypes := #[34] }, type := 32, pos := "ref.go:92", after := #[{ on := 2, ground := Ground.data }], guard := none } = o := Option.some.inj ho
      cases hd
      have f8 : sv 8 = Value.agg #[.bool t, .slice B m d, .slice B' m' d'] := hf { on := 2, ground := Ground.data } (by simp) rfl _ 8 rfl rfl (by decide)
      refine wpOp_plain' (o := { dst := some 9, op := Op.call { callee := Callee.value (Operand.func 106), args := #[Operand.tmp 8], argTypes := #[34] }, type := 32, pos := "ref.go:92", after := #[{ on := 2, ground := Ground.data }], guard := none }) rfl rfl ?_
      unfold Oper.wp
      rw [rc_gesso_gessoref03_den ((G sv 8 (by decide) (by decide)).trans f8) rfl, Oper.upon_enter]
      refine (rden3 Y).mono ?_
      rintro e w1 ⟨rfl, hh⟩
      exact ⟨_, rfl, hh, rfl⟩
    | 4, ho =>
      obtain rfl : { dst := some 10, op := Op.call { callee := Callee.value (Operand.func 105), args := #[Operand.tmp 7, Operand.tmp 9], argTypes := #[32, 32] }, type := 32, pos := "ref.go:92", after := #[{ on := 1, ground := Ground.data }, { on := 3, ground := Ground.data }, { on := 3, ground := Ground.chain }], guard := none } = o := Option.some.inj ho
      cases hd
      have f7 : sv 7 = Value.agg #[.bool s, .slice A n c] := hf { on := 1, ground := Ground.data } (by simp) rfl _ 7 rfl rfl (by decide)
      have f9 : sv 9 = Value.agg #[.bool false, .slice B' m' d'] := hf { on := 3, ground := Ground.data } (by simp) rfl _ 9 rfl rfl (by decide)
      refine wpOp_plain' (o := { dst := some 10, op := Op.call { callee := Callee.value (Operand.func 105), args := #[Operand.tmp 7, Operand.tmp 9], argTypes := #[32, 32] }, type := 32, pos := "ref.go:92", after := #[{ on := 1, ground := Ground.data }, { on := 3, ground := Ground.data }, { on := 3, ground := Ground.chain }], guard := none }) rfl rfl ?_
      unfold Oper.wp
      rw [rc_gesso_gessoref02_Mul ((G sv 7 (by decide) (by decide)).trans f7) ((G sv 9 (by decide) (by decide)).trans f9) rfl, Oper.upon_enter]
      refine (rmul2 X.pz Y.qz (by omega) (by omega)).mono ?_
      rintro e w1 ⟨s1, A1, n1, c1, rfl, hq, hh⟩
      exact ⟨_, rfl, hh, s1, A1, n1, c1, rfl, hq⟩
    | 5, ho => exact absurd rfl hia
    | 6, ho => cases ho; cases hd
    | i + 7, ho => cases ho
  · intro sv w' g J0 p1 p3 hf
    have h1 : VRG (v.num * (u.den : Int)) (k + k2) (sv 10) w' := hf { on := 4, ground := Ground.data } (by simp) rfl _ 10 rfl rfl (by decide)
    rw [← G sv 10 (by decide) (by decide)] at h1
    refine store_r (V := v.num * (u.den : Int)) (k := k + k2) (ac := putAll ac [6, 7, 8, 9, 10, 5] sv) (z := Operand.tmp 10) ?_ ?_ ?_
    · exact (G sv 5 (by decide) (by decide)).trans p1
    · exact h1
    · exact p3
  · rintro cs w1 w2 ⟨s1, A1, n1, c1, h1, h2⟩ hb
    exact ⟨s1, A1, n1, c1, h1, h2.below hb⟩
  · rintro sv w' g cs J0 hF p1 p2 p3 ⟨s1, A1, n1, c1, h1, h2⟩
    subst h1
    exact hend sv w' g _ _ _ _ h2 p3.at_ J0 p2 p1 
set_option maxRecDepth 100000 in
set_option maxHeartbeats 8000000 in
theorem rdiv3_pos {w : World} {s t : Bool} {A A' B B' : Option Addr} {n c n' c' m d m' d' k k2 : Nat} {v u : Rat} (X : RQ w s A n c A' n' c' v k) (Y : RQ w t B m d B' m' d' u k2) (hk : k ≤ 10000) (hk2 : k2 ≤ 10000) (hu : 0 < u.num) :
    Calls Tryz.prog 21 #[.agg #[.bool s, .slice A n c, .slice A' n' c'], .agg #[.bool t, .slice B m d, .slice B' m' d']] w (GivesRQ w (v / u) (k + k2)) := by
  have HE := Lib.hid (div_pos3 (v := v) hu)
  have HS : Hid (sgnQ u = 1) := by
    show _ = _
    conv => lhs; rw [parts_eq u, sgnQ_mk u.den_nz]
    unfold sgn
    rw [if_neg (by omega), if_neg (by omega)]
  have H0 : Hid (v.den * u.num.natAbs ≠ 0) := Nat.mul_ne_zero v.den_nz (by omega)
  have HJ : Hid (v.den * u.num.natAbs < B32 ^ (k + k2)) := by
    show _ < _
    have h1 := Nat.mul_lt_mul'' X.qn.lt Y.pg.rn.lt
    rwa [← Nat.pow_add] at h1
  have hfd := fld02
  clear hu
  go_enter Tryz.func21, Tryz.ntmps21
  go_wp2_with fail
  generalize hW : (((w.alloc (Obj.cells #[Value.bool s, Value.slice A n c, Value.slice A' n' c'] 34)).alloc (Obj.cells #[Value.bool t, Value.slice B m d, Value.slice B' m' d'] 34)).alloc (Obj.cells #[Value.bool false, Value.slice none 0 0, Value.slice none 0 0] 34)) = W
  have hb : Below w.heap.size w W := by subst hW; exact ((((Below.refl _ _).alloc (Nat.le_refl _) _).alloc (by simp) _).alloc (by simp; omega) _)
  have XA : B3R W (w.heap.size) (Value.bool s) (Value.slice A n c) (Value.slice A' n' c') := by subst hW; exact ((B3R.new' _ _ _ _ _ rfl).alloc _).alloc _
  have XB : B3R W (w.heap.size + 1) (Value.bool t) (Value.slice B m d) (Value.slice B' m' d') := by subst hW; exact (B3R.new' _ _ _ _ _ (by simp)).alloc _
  have Z : B3R W (w.heap.size + 1 + 1) (Value.bool false) (Value.slice none 0 0) (Value.slice none 0 0) := by subst hW; exact B3R.new' _ _ _ _ _ (by simp)
  have hzW : W.heap.size = w.heap.size + 3 := by subst hW; simp
  clear hW
  replace X := X.below hb
  replace Y := Y.below hb
  refine rdiv_region (by simp) rfl rfl XA XB X Y hk hk2 ?_
  intro V w_x g_x s_x A_x n_x c_x x XP hh hg_x hv5
  simp only [putAll, Act.put, List.setIfInBounds_toArray, List.set_cons_zero, List.set_cons_succ, hv5]
  clear hv5
  replace X := X.below hh
  replace Y := Y.below hh
  replace XA := XA.below hh
  replace XB := XB.below hh
  replace Z := Z.below hh
  have HZ1 : Hid (w.heap.size + 1 + 1 < g_x) := by
    have := hzW; show _ < _; omega
  replace hb := bend hb hh
  have xb0 := XB.c0
  have xb1 := XB.c1
  have xb2 := XB.c2
  have xp0 := XP.c0
  have xp1 := XP.c1
  have yf0 := XP.f0
  have yf1 := XP.f1
  go_upto_region 4 with (first
      | (go_at_call 19; (with_reducible refine (rsign3 Y).mono ?_); rintro e w_z ⟨rfl, hh⟩
         rw [HS.out]
         try replace X := X.below hh
         try replace Y := Y.below hh
         try replace x := x.below hh
         try replace y := y.below hh
         try replace q := q.below hh
         try replace r := r.below hh
         try replace XA := XA.below hh
         try replace XB := XB.below hh
         try replace XP := XP.below hh
         try replace Z := Z.below hh
         replace hb := bend hb hh
         have xb0 := XB.c0
         have xb1 := XB.c1
         have xb2 := XB.c2
         have xp0 := XP.c0
         have xp1 := XP.c1
         have yf0 := XP.f0
         have yf1 := XP.f1))
  replace X := X.below (Below.refl _ _).drew
  replace Y := Y.below (Below.refl _ _).drew
  replace x := x.below (Below.refl _ _).drew
  replace XA := XA.below (Below.refl _ _).drew
  replace XB := XB.below (Below.refl _ _).drew
  replace XP := XP.below (Below.refl _ _).drew
  replace Z := Z.below (Below.refl _ _).drew
  replace hb := hb.drew
  go_region_held3 (fun w' => w'.cell? ⟨w.heap.size, 0, none⟩ = some (.bool s) ∧ w'.cell? ⟨w.heap.size, 1, none⟩ = some (.slice A n c) ∧ w'.cell? ⟨w.heap.size, 2, none⟩ = some (.slice A' n' c') ∧ w'.cell? ⟨w.heap.size + 1, 0, none⟩ = some (.bool t) ∧ w'.cell? ⟨w.heap.size + 1, 1, none⟩ = some (.slice B m d) ∧ w'.cell? ⟨w.heap.size + 1, 2, none⟩ = some (.slice B' m' d') ∧ w'.cell? ⟨g_x, 0, none⟩ = some (.bool s_x) ∧ w'.cell? ⟨g_x, 1, none⟩ = some (.slice A_x n_x c_x))
    (first | with_reducible exact ⟨XA.c0, XA.c1, XA.c2, XB.c0, XB.c1, XB.c2, XP.c0, XP.c1⟩ | with_reducible exact ⟨(set3_cell _ _ _ _ _ _ _ (by have := HZ1.out; omega)).trans XA.c0, (set3_cell _ _ _ _ _ _ _ (by have := HZ1.out; omega)).trans XA.c1, (set3_cell _ _ _ _ _ _ _ (by have := HZ1.out; omega)).trans XA.c2, (set3_cell _ _ _ _ _ _ _ (by have := HZ1.out; omega)).trans XB.c0, (set3_cell _ _ _ _ _ _ _ (by have := HZ1.out; omega)).trans XB.c1, (set3_cell _ _ _ _ _ _ _ (by have := HZ1.out; omega)).trans XB.c2, (set3_cell _ _ _ _ _ _ _ (by have := HZ1.out; omega)).trans XP.c0, (set3_cell _ _ _ _ _ _ _ (by have := HZ1.out; omega)).trans XP.c1⟩)
    (first
    | (go_at_call 106; (with_reducible refine (rden3 X).mono ?_); rintro e w_z ⟨rfl, hh⟩
       try replace X := X.below hh
       try replace Y := Y.below hh
       try replace x := x.below hh
       try replace y := y.below hh
       try replace q := q.below hh
       try replace r := r.below hh
       try replace XA := XA.below hh
       try replace XB := XB.below hh
       try replace XP := XP.below hh
       try replace Z := Z.below hh
       replace hb := bend hb hh)
    | (go_at_call 108; (with_reducible refine (rmul_rn (k + k2) X.qn Y.pg.rn (by omega) (by omega) HJ.out).mono ?_); rintro e w_q ⟨A_q, n_q, c_q, rfl, q, hh⟩
       try replace X := X.below hh
       try replace Y := Y.below hh
       try replace x := x.below hh
       try replace y := y.below hh
       try replace r := r.below hh
       try replace XA := XA.below hh
       try replace XB := XB.below hh
       try replace XP := XP.below hh
       try replace Z := Z.below hh
       replace hb := bend hb hh)
    | (go_at_call 99; (with_reducible refine (made_rq x q (by omega) H0.out).mono ?_); rintro e w_r ⟨s_r, A_r, n_r, c_r, B_r, m_r, d_r, rfl, r, hh⟩
       rw [HE.out] at r
       try replace X := X.below hh
       try replace Y := Y.below hh
       try replace x := x.below hh
       try replace y := y.below hh
       try replace q := q.below hh
       try replace XA := XA.below hh
       try replace XB := XB.below hh
       try replace XP := XP.below hh
       try replace Z := Z.below hh
       replace hb := bend hb hh
       have zf0 := Z.f0
       have zf1 := Z.f1
       have zf2 := Z.f2
       have z0 := Z.c0
       have z1 := Z.c1
       have z2 := Z.c2))
  go_wp2_with fail
  have Z2 := Z.set3 (.bool s_r) (.slice A_r n_r c_r) (.slice B_r m_r d_r)
  have g0 := Z2.c0
  have g1 := Z2.c1
  have g2 := Z2.c2
  refine bodyPost_ret (v := .agg #[.bool s_r, .slice A_r n_r c_r, .slice B_r m_r d_r]) (by simp [results, Tryz.results21, go_sem, g0, g1, g2]) rfl ?_
  exact ⟨s_r, A_r, n_r, c_r, B_r, m_r, d_r, rfl, r.set3 Z _ _ _, below_set3 hb (by omega) _ _ _⟩
set_option maxRecDepth 100000 in
set_option maxHeartbeats 8000000 in
theorem rdiv3_neg {w : World} {s t : Bool} {A A' B B' : Option Addr} {n c n' c' m d m' d' k k2 : Nat} {v u : Rat} (X : RQ w s A n c A' n' c' v k) (Y : RQ w t B m d B' m' d' u k2) (hk : k ≤ 10000) (hk2 : k2 ≤ 10000) (hu : u.num < 0) :
    Calls Tryz.prog 21 #[.agg #[.bool s, .slice A n c, .slice A' n' c'], .agg #[.bool t, .slice B m d, .slice B' m' d']] w (GivesRQ w (v / u) (k + k2)) := by
  have HE := Lib.hid (div_neg3 (v := v) hu)
  have HS : Hid (sgnQ u = -1) := by
    show _ = _
    conv => lhs; rw [parts_eq u, sgnQ_mk u.den_nz]
    unfold sgn
    rw [if_pos hu]
  have H0 : Hid (v.den * u.num.natAbs ≠ 0) := Nat.mul_ne_zero v.den_nz (by omega)
  have HJ : Hid (v.den * u.num.natAbs < B32 ^ (k + k2)) := by
    show _ < _
    have h1 := Nat.mul_lt_mul'' X.qn.lt Y.pg.rn.lt
    rwa [← Nat.pow_add] at h1
  have hfd := fld02
  clear hu
  go_enter Tryz.func21, Tryz.ntmps21
  go_wp2_with fail
  generalize hW : (((w.alloc (Obj.cells #[Value.bool s, Value.slice A n c, Value.slice A' n' c'] 34)).alloc (Obj.cells #[Value.bool t, Value.slice B m d, Value.slice B' m' d'] 34)).alloc (Obj.cells #[Value.bool false, Value.slice none 0 0, Value.slice none 0 0] 34)) = W
  have hb : Below w.heap.size w W := by subst hW; exact ((((Below.refl _ _).alloc (Nat.le_refl _) _).alloc (by simp) _).alloc (by simp; omega) _)
  have XA : B3R W (w.heap.size) (Value.bool s) (Value.slice A n c) (Value.slice A' n' c') := by subst hW; exact ((B3R.new' _ _ _ _ _ rfl).alloc _).alloc _
  have XB : B3R W (w.heap.size + 1) (Value.bool t) (Value.slice B m d) (Value.slice B' m' d') := by subst hW; exact (B3R.new' _ _ _ _ _ (by simp)).alloc _
  have Z : B3R W (w.heap.size + 1 + 1) (Value.bool false) (Value.slice none 0 0) (Value.slice none 0 0) := by subst hW; exact B3R.new' _ _ _ _ _ (by simp)
  have hzW : W.heap.size = w.heap.size + 3 := by subst hW; simp
  clear hW
  replace X := X.below hb
  replace Y := Y.below hb
  refine rdiv_region (by simp) rfl rfl XA XB X Y hk hk2 ?_
  intro V w_x g_x s_x A_x n_x c_x x XP hh hg_x hv5
  simp only [putAll, Act.put, List.setIfInBounds_toArray, List.set_cons_zero, List.set_cons_succ, hv5]
  clear hv5
  replace X := X.below hh
  replace Y := Y.below hh
  replace XA := XA.below hh
  replace XB := XB.below hh
  replace Z := Z.below hh
  have HZ1 : Hid (w.heap.size + 1 + 1 < g_x) := by
    have := hzW; show _ < _; omega
  replace hb := bend hb hh
  have xb0 := XB.c0
  have xb1 := XB.c1
  have xb2 := XB.c2
  have xp0 := XP.c0
  have xp1 := XP.c1
  have yf0 := XP.f0
  have yf1 := XP.f1
  go_upto_region 4 with (first
      | (go_at_call 19; (with_reducible refine (rsign3 Y).mono ?_); rintro e w_z ⟨rfl, hh⟩
         rw [HS.out]
         try replace X := X.below hh
         try replace Y := Y.below hh
         try replace x := x.below hh
         try replace y := y.below hh
         try replace q := q.below hh
         try replace r := r.below hh
         try replace XA := XA.below hh
         try replace XB := XB.below hh
         try replace XP := XP.below hh
         try replace Z := Z.below hh
         replace hb := bend hb hh
         have xb0 := XB.c0
         have xb1 := XB.c1
         have xb2 := XB.c2
         have xp0 := XP.c0
         have xp1 := XP.c1
         have yf0 := XP.f0
         have yf1 := XP.f1)
      | (go_at_call 107; (with_reducible refine (rminus2 x.rz).mono ?_); rintro e w_y ⟨s_y, A_y, n_y, c_y, rfl, y, hh⟩
         try replace X := X.below hh
         try replace Y := Y.below hh
         try replace x := x.below hh
         try replace q := q.below hh
         try replace r := r.below hh
         try replace XA := XA.below hh
         try replace XB := XB.below hh
         try replace XP := XP.below hh
         try replace Z := Z.below hh
         replace hb := bend hb hh
         have xb0 := XB.c0
         have xb1 := XB.c1
         have xb2 := XB.c2
         have xp0 := XP.c0
         have xp1 := XP.c1
         have yf0 := XP.f0
         have yf1 := XP.f1))
  generalize hW5 : ((w_y.setCell ⟨g_x, 0, none⟩ (Value.bool s_y)).setCell ⟨g_x, 1, none⟩ (Value.slice A_y n_y c_y)) = W5
  have ho : Only g_x w_y W5 := by subst hW5; exact ((Only.refl _ _).setCell 0 _).setCell 1 _
  have X5 : By W5 g_x (Value.bool s_y) (Value.slice A_y n_y c_y) := by subst hW5; exact XP.set2 _ _
  have y5 := y.only (XP.off y.rn.1) ho
  have Xa : RQ W5 s A n c A' n' c' v k := ⟨X.pg.only (XP.off X.pg.rn.1) ho, X.qn.only (XP.off X.qn.1) ho⟩
  have Ya : RQ W5 t B m d B' m' d' u k2 := ⟨Y.pg.only (XP.off Y.pg.rn.1) ho, Y.qn.only (XP.off Y.qn.1) ho⟩
  have XA5 : B3R W5 w.heap.size (Value.bool s) (Value.slice A n c) (Value.slice A' n' c') := (ho.block _ XA.lt (by have := HZ1.out; omega)).trans XA
  have XB5 : B3R W5 (w.heap.size + 1) (Value.bool t) (Value.slice B m d) (Value.slice B' m' d') := (ho.block _ XB.lt (by have := HZ1.out; omega)).trans XB
  have Z5 : B3R W5 (w.heap.size + 1 + 1) (Value.bool false) (Value.slice none 0 0) (Value.slice none 0 0) := (ho.block _ Z.lt (by have := HZ1.out; omega)).trans Z
  have hb5 : Below w.heap.size w W5 := Below.only hb (by have := HZ1.out; omega) hb.size ho
  clear hW5 ho X Y XA XB XP Z hb x y
  have X := Xa
  have Y := Ya
  have x := y5
  have XA := XA5
  have XB := XB5
  have XP := X5
  have Z := Z5
  have hb := hb5
  clear Xa Ya y5 XA5 XB5 X5 Z5 hb5
  replace X := X.below (Below.refl _ _).drew
  replace Y := Y.below (Below.refl _ _).drew
  replace x := x.below (Below.refl _ _).drew
  replace XA := XA.below (Below.refl _ _).drew
  replace XB := XB.below (Below.refl _ _).drew
  replace XP := XP.below (Below.refl _ _).drew
  replace Z := Z.below (Below.refl _ _).drew
  replace hb := hb.drew
  go_region_held3 (fun w' => w'.cell? ⟨w.heap.size, 0, none⟩ = some (.bool s) ∧ w'.cell? ⟨w.heap.size, 1, none⟩ = some (.slice A n c) ∧ w'.cell? ⟨w.heap.size, 2, none⟩ = some (.slice A' n' c') ∧ w'.cell? ⟨w.heap.size + 1, 0, none⟩ = some (.bool t) ∧ w'.cell? ⟨w.heap.size + 1, 1, none⟩ = some (.slice B m d) ∧ w'.cell? ⟨w.heap.size + 1, 2, none⟩ = some (.slice B' m' d') ∧ w'.cell? ⟨g_x, 0, none⟩ = some (.bool s_y) ∧ w'.cell? ⟨g_x, 1, none⟩ = some (.slice A_y n_y c_y))
    (first | with_reducible exact ⟨XA.c0, XA.c1, XA.c2, XB.c0, XB.c1, XB.c2, XP.c0, XP.c1⟩ | with_reducible exact ⟨(set3_cell _ _ _ _ _ _ _ (by have := HZ1.out; omega)).trans XA.c0, (set3_cell _ _ _ _ _ _ _ (by have := HZ1.out; omega)).trans XA.c1, (set3_cell _ _ _ _ _ _ _ (by have := HZ1.out; omega)).trans XA.c2, (set3_cell _ _ _ _ _ _ _ (by have := HZ1.out; omega)).trans XB.c0, (set3_cell _ _ _ _ _ _ _ (by have := HZ1.out; omega)).trans XB.c1, (set3_cell _ _ _ _ _ _ _ (by have := HZ1.out; omega)).trans XB.c2, (set3_cell _ _ _ _ _ _ _ (by have := HZ1.out; omega)).trans XP.c0, (set3_cell _ _ _ _ _ _ _ (by have := HZ1.out; omega)).trans XP.c1⟩)
    (first
    | (go_at_call 106; (with_reducible refine (rden3 X).mono ?_); rintro e w_z ⟨rfl, hh⟩
       try replace X := X.below hh
       try replace Y := Y.below hh
       try replace x := x.below hh
       try replace y := y.below hh
       try replace q := q.below hh
       try replace r := r.below hh
       try replace XA := XA.below hh
       try replace XB := XB.below hh
       try replace XP := XP.below hh
       try replace Z := Z.below hh
       replace hb := bend hb hh)
    | (go_at_call 108; (with_reducible refine (rmul_rn (k + k2) X.qn Y.pg.rn (by omega) (by omega) HJ.out).mono ?_); rintro e w_q ⟨A_q, n_q, c_q, rfl, q, hh⟩
       try replace X := X.below hh
       try replace Y := Y.below hh
       try replace x := x.below hh
       try replace y := y.below hh
       try replace r := r.below hh
       try replace XA := XA.below hh
       try replace XB := XB.below hh
       try replace XP := XP.below hh
       try replace Z := Z.below hh
       replace hb := bend hb hh)
    | (go_at_call 99; (with_reducible refine (made_rq x q (by omega) H0.out).mono ?_); rintro e w_r ⟨s_r, A_r, n_r, c_r, B_r, m_r, d_r, rfl, r, hh⟩
       rw [HE.out] at r
       try replace X := X.below hh
       try replace Y := Y.below hh
       try replace x := x.below hh
       try replace y := y.below hh
       try replace q := q.below hh
       try replace XA := XA.below hh
       try replace XB := XB.below hh
       try replace XP := XP.below hh
       try replace Z := Z.below hh
       replace hb := bend hb hh
       have zf0 := Z.f0
       have zf1 := Z.f1
       have zf2 := Z.f2
       have z0 := Z.c0
       have z1 := Z.c1
       have z2 := Z.c2))
  go_wp2_with fail
  have Z2 := Z.set3 (.bool s_r) (.slice A_r n_r c_r) (.slice B_r m_r d_r)
  have g0 := Z2.c0
  have g1 := Z2.c1
  have g2 := Z2.c2
  refine bodyPost_ret (v := .agg #[.bool s_r, .slice A_r n_r c_r, .slice B_r m_r d_r]) (by simp [results, Tryz.results21, go_sem, g0, g1, g2]) rfl ?_
  exact ⟨s_r, A_r, n_r, c_r, B_r, m_r, d_r, rfl, r.set3 Z _ _ _, below_set3 hb (by omega) _ _ _⟩
theorem rdiv3 {w : World} {s t : Bool} {A A' B B' : Option Addr} {n c n' c' m d m' d' k k2 : Nat} {v u : Rat} (X : RQ w s A n c A' n' c' v k) (Y : RQ w t B m d B' m' d' u k2) (hk : k ≤ 10000) (hk2 : k2 ≤ 10000) (hu : u ≠ 0) :
    Calls Tryz.prog 21 #[.agg #[.bool s, .slice A n c, .slice A' n' c'], .agg #[.bool t, .slice B m d, .slice B' m' d']] w (GivesRQ w (v / u) (k + k2)) := by
  have h0 : u.num ≠ 0 := fun q => hu (Rat.num_eq_zero.1 q)
  by_cases h : u.num < 0
  · exact rdiv3_neg X Y hk hk2 h
  · exact rdiv3_pos X Y hk hk2 (by omega)
theorem rout_v {w : World} {A : Option Addr} {n c V k : Nat} (Y : RN w A n c V k) (hk : k ≤ 200000) :
    Calls Tryz.prog 123 #[.slice A n c] w fun e w' => ∃ A n c, e = .returned (.slice A n c) ∧ Rd .u64 w' A n (limbs B64 V) ∧ Below w.heap.size w w' := by
  refine (rout_any (limbs B32 V) A n c w Y.1 (lim_limbs B32_two _) (Nat.le_trans Y.2.2 (by omega))).mono ?_
  rintro e w' ⟨A1, n1, c1, rfl, p1, p2, p3, p4⟩
  rw [join32_limbs] at p3
  exact ⟨A1, n1, c1, rfl, p3.rd, p4⟩
def GivesOut3 (w : World) (v : Rat) (e : Ending) (w' : World) : Prop :=
  ∃ A n c B m d, e = .returned (.agg #[.bool (decide (v.num < 0)), .slice A n c, .slice B m d]) ∧ Rd .u64 w' A n (limbs B64 v.num.natAbs) ∧ Rd .u64 w' B m (limbs B64 v.den) ∧ Below w.heap.size w w'
set_option maxRecDepth 100000 in
set_option maxHeartbeats 8000000 in
theorem rout3 {w : World} {s : Bool} {A A' : Option Addr} {n c n' c' k : Nat} {v : Rat} (X : RQ w s A n c A' n' c' v k) (hk : k ≤ 100000) :
    Calls Tryz.prog 37 #[.agg #[.bool s, .slice A n c, .slice A' n' c']] w (GivesOut3 w v) := by
  have hs : s = decide (v.num < 0) := X.pg.1
  have HS := Lib.hid hs
  clear hs
  go_enter Tryz.func37, Tryz.ntmps37
  go_wp2_with fail
  generalize hW : ((w.alloc (Obj.cells #[Value.bool s, Value.slice A n c, Value.slice A' n' c'] 34)).alloc (Obj.cells #[Value.bool false, Value.slice none 0 0, Value.slice none 0 0] 26)) = W
  have hb : Below w.heap.size w W := by subst hW; exact (((Below.refl _ _).alloc (Nat.le_refl _) _).alloc (by simp) _)
  have XA : B3R W (w.heap.size) (Value.bool s) (Value.slice A n c) (Value.slice A' n' c') := by subst hW; exact (B3R.new' _ _ _ _ _ rfl).alloc _
  have Z : B3 W (w.heap.size + 1) (Value.bool false) (Value.slice none 0 0) (Value.slice none 0 0) := by subst hW; exact B3.new' _ _ _ _ _ (by simp)
  have hzW : W.heap.size = w.heap.size + 2 := by subst hW; simp
  clear hW
  replace X := X.below hb
  have xa0 := XA.c0
  have xa1 := XA.c1
  have xa2 := XA.c2
  go_upto_region 2 with (first
      | (go_at_call 123; (with_reducible refine (rout_v X.qn (by omega)).mono ?_); rintro e w_q ⟨A_q, n_q, c_q, rfl, q, hh⟩
         try replace X := X.below hh
         try replace p := p.below hh
         try replace XA := XA.below hh
         try replace Z := Z.below hh
         replace hb := bend hb hh
         have xa0 := XA.c0
         have xa1 := XA.c1
         have xa2 := XA.c2))
  have hq0 : ((n_q : Int) == 0) = false := by
    have h1 := q.1
    rw [limbs_pos B64_two v.den_nz] at h1
    simp at h1 ⊢
    omega
  have zf0 := Z.f0
  have zf1 := Z.f1
  have zf2 := Z.f2
  have z0 := Z.c0
  have z1 := Z.c1
  have z2 := Z.c2
  go_wp2_with (first
      | (go_at_call 62; (with_reducible refine (out2 X.pg (by omega)).mono ?_); rintro e w_p ⟨A_p, n_p, c_p, rfl, p, hh⟩
         try replace X := X.below hh
         try replace q := q.below hh
         try replace XA := XA.below hh
         try replace Z := Z.below hh
         replace hb := bend hb hh
         have xa0 := XA.c0
         have xa1 := XA.c1
         have xa2 := XA.c2
         have zf0 := Z.f0
         have zf1 := Z.f1
         have zf2 := Z.f2
         have z0 := Z.c0
         have z1 := Z.c1
         have z2 := Z.c2))
  have Z2 := Z.set3 (.bool s) (.slice A_p n_p c_p) (.slice A_q n_q c_q)
  have g0 := Z2.c0
  have g1 := Z2.c1
  have g2 := Z2.c2
  refine bodyPost_ret (v := .agg #[.bool s, .slice A_p n_p c_p, .slice A_q n_q c_q]) (by simp [results, Tryz.results37, go_sem, g0, g1, g2]) rfl ?_
  have ho := (((Only.refl (w.heap.size + 1) w_p).setCell 0 (Value.bool s)).setCell 1 (Value.slice A_p n_p c_p)).setCell 2 (Value.slice A_q n_q c_q)
  exact ⟨A_p, n_p, c_p, A_q, n_q, c_q, by rw [← HS.out], p.only (Z.offx p) ho, q.only (Z.offx q) ho, below_set3 hb (by omega) _ _ _⟩
set_option maxRecDepth 100000 in
set_option maxHeartbeats 4000000 in
theorem rats_no {w : World} {s t : Bool} {A A' B B' : Option Addr} {n c n' c' m d m' d' : Nat} {la lb lc ld : List Nat} (p : Rd .u64 w A n la) (q : Rd .u64 w A' n' lc) (p2 : Rd .u64 w B m lb) (q2 : Rd .u64 w B' m' ld) (hn : n ≤ maxLen) (hi : (s == t && decide (la = lb)) = false) :
    Calls Tryz.prog 36 #[.agg #[.bool s, .slice A n c, .slice A' n' c'], .agg #[.bool t, .slice B m d, .slice B' m' d']] w fun e w' => e = .returned (.bool false) ∧ Below w.heap.size w w' := by
  have HI := Lib.hid hi
  clear hi
  go_enter Tryz.func36, Tryz.ntmps36
  go_wp2_with fail
  generalize hW : ((w.alloc (Obj.cells #[Value.bool s, Value.slice A n c, Value.slice A' n' c'] 26)).alloc (Obj.cells #[Value.bool t, Value.slice B m d, Value.slice B' m' d'] 26)) = W
  have hb : Below w.heap.size w W := by subst hW; exact (((Below.refl _ _).alloc (Nat.le_refl _) _).alloc (by simp) _)
  have XA : B3 W (w.heap.size) (Value.bool s) (Value.slice A n c) (Value.slice A' n' c') := by subst hW; exact (B3.new' _ _ _ _ _ rfl).alloc _
  have XB : B3 W (w.heap.size + 1) (Value.bool t) (Value.slice B m d) (Value.slice B' m' d') := by subst hW; exact B3.new' _ _ _ _ _ (by simp)
  have hzW : W.heap.size = w.heap.size + 2 := by subst hW; simp
  clear hW
  replace p := p.below hb
  replace q := q.below hb
  replace p2 := p2.below hb
  replace q2 := q2.below hb
  have xa0 := XA.c0
  have xa1 := XA.c1
  have xa2 := XA.c2
  have xb0 := XB.c0
  have xb1 := XB.c1
  have xb2 := XB.c2
  go_wp2_with (first
      | (go_at_call 60; (with_reducible refine (ints_any s t la lb A B n c m d _ p p2 hn).mono ?_); rintro e w_z ⟨rfl, hh⟩
         rw [HI.out]
         try replace p := p.below hh
         try replace q := q.below hh
         try replace p2 := p2.below hh
         try replace q2 := q2.below hh
         try replace XA := XA.below hh
         try replace XB := XB.below hh
         replace hb := bend hb hh
         have xa0 := XA.c0
         have xa1 := XA.c1
         have xa2 := XA.c2
         have xb0 := XB.c0
         have xb1 := XB.c1
         have xb2 := XB.c2))
  go_ret
  exact ⟨rfl, hb⟩
set_option maxRecDepth 100000 in
set_option maxHeartbeats 4000000 in
theorem rats_yes {w : World} {s t : Bool} {A A' B B' : Option Addr} {n c n' c' m d m' d' : Nat} {la lb lc ld : List Nat} (p : Rd .u64 w A n la) (q : Rd .u64 w A' n' lc) (p2 : Rd .u64 w B m lb) (q2 : Rd .u64 w B' m' ld) (hn : n ≤ maxLen) (hn' : n' ≤ maxLen) (hi : (s == t && decide (la = lb)) = true) :
    Calls Tryz.prog 36 #[.agg #[.bool s, .slice A n c, .slice A' n' c'], .agg #[.bool t, .slice B m d, .slice B' m' d']] w fun e w' => e = .returned (.bool (decide (lc = ld))) ∧ Below w.heap.size w w' := by
  have HI := Lib.hid hi
  clear hi
  go_enter Tryz.func36, Tryz.ntmps36
  go_wp2_with fail
  generalize hW : ((w.alloc (Obj.cells #[Value.bool s, Value.slice A n c, Value.slice A' n' c'] 26)).alloc (Obj.cells #[Value.bool t, Value.slice B m d, Value.slice B' m' d'] 26)) = W
  have hb : Below w.heap.size w W := by subst hW; exact (((Below.refl _ _).alloc (Nat.le_refl _) _).alloc (by simp) _)
  have XA : B3 W (w.heap.size) (Value.bool s) (Value.slice A n c) (Value.slice A' n' c') := by subst hW; exact (B3.new' _ _ _ _ _ rfl).alloc _
  have XB : B3 W (w.heap.size + 1) (Value.bool t) (Value.slice B m d) (Value.slice B' m' d') := by subst hW; exact B3.new' _ _ _ _ _ (by simp)
  have hzW : W.heap.size = w.heap.size + 2 := by subst hW; simp
  clear hW
  replace p := p.below hb
  replace q := q.below hb
  replace p2 := p2.below hb
  replace q2 := q2.below hb
  have xa0 := XA.c0
  have xa1 := XA.c1
  have xa2 := XA.c2
  have xb0 := XB.c0
  have xb1 := XB.c1
  have xb2 := XB.c2
  go_wp2_with (first
      | (go_at_call 60; (with_reducible refine (ints_any s t la lb A B n c m d _ p p2 hn).mono ?_); rintro e w_z ⟨rfl, hh⟩
         rw [HI.out]
         try replace p := p.below hh
         try replace q := q.below hh
         try replace p2 := p2.below hh
         try replace q2 := q2.below hh
         try replace XA := XA.below hh
         try replace XB := XB.below hh
         replace hb := bend hb hh
         have xa0 := XA.c0
         have xa1 := XA.c1
         have xa2 := XA.c2
         have xb0 := XB.c0
         have xb1 := XB.c1
         have xb2 := XB.c2)
      | (go_at_call 122; (with_reducible refine (nats_any lc ld A' B' n' c' m' d' _ q q2 hn').mono ?_); rintro e w_z ⟨rfl, jj, rfl⟩
         replace hb := below_drawn hb jj))
  go_ret
  exact ⟨rfl, hb⟩
theorem rats_any {w : World} {s t : Bool} {A A' B B' : Option Addr} {n c n' c' m d m' d' : Nat} {la lb lc ld : List Nat} (p : Rd .u64 w A n la) (q : Rd .u64 w A' n' lc) (p2 : Rd .u64 w B m lb) (q2 : Rd .u64 w B' m' ld) (hn : n ≤ maxLen) (hn' : n' ≤ maxLen) (r : Bool) (hr : ((s == t && decide (la = lb)) && decide (lc = ld)) = r) :
    Calls Tryz.prog 36 #[.agg #[.bool s, .slice A n c, .slice A' n' c'], .agg #[.bool t, .slice B m d, .slice B' m' d']] w fun e w' => e = .returned (.bool r) ∧ Below w.heap.size w w' := by
  cases h : (s == t && decide (la = lb)) with
  | false =>
    rw [h, Bool.false_and] at hr
    subst hr
    exact rats_no p q p2 q2 hn h
  | true =>
    rw [h, Bool.true_and] at hr
    subst hr
    exact rats_yes p q p2 q2 hn hn' h
theorem same_eq (a : Bool) (l m : List Nat) : ((a == a && decide (l = l)) && decide (m = m)) = true := by simp
set_option maxRecDepth 100000 in
set_option maxHeartbeats 8000000 in
theorem same3 {w : World} {s t : Bool} {A A' B B' : Option Addr} {n c n' c' m d m' d' k k2 : Nat} {v u : Rat} (X : QG w s A n c A' n' c' v k) (Y : RQ w t B m d B' m' d' u k2) (he : v = u) (hk : k ≤ 100000) (hk2 : k2 ≤ 100000) :
    Calls Tryz.prog 20 #[.agg #[.bool s, .slice A n c, .slice A' n' c'], .agg #[.bool t, .slice B m d, .slice B' m' d']] w fun e w' => e = .returned (.bool true) ∧ Below w.heap.size w w' := by
  subst he
  have hs : s = decide (v.num < 0) := X.1.1
  subst hs
  have hn : n ≤ maxLen := by have := X.1.2.2.2; unfold maxLen; omega
  have hn' : n' ≤ maxLen := by have := X.2.2.2; unfold maxLen; omega
  have xp : Rd .u64 w A n (limbs B64 v.num.natAbs) := X.1.2.1
  have xq : Rd .u64 w A' n' (limbs B64 v.den) := X.2.1
  have HN := Lib.hid hn
  have HN' := Lib.hid hn'
  clear X hn hn'
  go_enter Tryz.func20, Tryz.ntmps20
  go_wp2_with fail
  generalize hW : ((w.alloc (Obj.cells #[Value.bool (decide (v.num < 0)), Value.slice A n c, Value.slice A' n' c'] 26)).alloc (Obj.cells #[Value.bool t, Value.slice B m d, Value.slice B' m' d'] 34)) = W
  have hb : Below w.heap.size w W := by subst hW; exact (((Below.refl _ _).alloc (Nat.le_refl _) _).alloc (by simp) _)
  have XA : B3 W (w.heap.size) (Value.bool (decide (v.num < 0))) (Value.slice A n c) (Value.slice A' n' c') := by subst hW; exact (B3.new' _ _ _ _ _ rfl).alloc _
  have XB : B3R W (w.heap.size + 1) (Value.bool t) (Value.slice B m d) (Value.slice B' m' d') := by subst hW; exact B3R.new' _ _ _ _ _ (by simp)
  have hzW : W.heap.size = w.heap.size + 2 := by subst hW; simp
  clear hW
  replace xp := xp.below hb
  replace xq := xq.below hb
  replace Y := Y.below hb
  replace xp := xp.below (Below.refl _ _).drew
  replace xq := xq.below (Below.refl _ _).drew
  replace Y := Y.below (Below.refl _ _).drew
  replace XA := XA.below (Below.refl _ _).drew
  replace XB := XB.below (Below.refl _ _).drew
  replace hb := hb.drew
  go_region_held3 (fun w' => w'.cell? ⟨w.heap.size, 0, none⟩ = some (.bool (decide (v.num < 0))) ∧ w'.cell? ⟨w.heap.size, 1, none⟩ = some (.slice A n c) ∧ w'.cell? ⟨w.heap.size, 2, none⟩ = some (.slice A' n' c') ∧ w'.cell? ⟨w.heap.size + 1, 0, none⟩ = some (.bool t) ∧ w'.cell? ⟨w.heap.size + 1, 1, none⟩ = some (.slice B m d) ∧ w'.cell? ⟨w.heap.size + 1, 2, none⟩ = some (.slice B' m' d'))
    (first | with_reducible exact ⟨XA.c0, XA.c1, XA.c2, XB.c0, XB.c1, XB.c2⟩)
    (first
    | (go_at_call 37; (with_reducible refine (rout3 Y hk2).mono ?_); rintro e w_y ⟨A_p, n_p, c_p, A_q, n_q, c_q, rfl, yp, yq, hh⟩
       try replace xp := xp.below hh
       try replace xq := xq.below hh
       try replace Y := Y.below hh
       try replace XA := XA.below hh
       try replace XB := XB.below hh
       replace hb := bend hb hh)
    | (go_at_call 36; (with_reducible refine (rats_any xp xq yp yq HN.out HN'.out true (same_eq _ _ _)).mono ?_); rintro e w_z ⟨rfl, hh⟩
       try replace xp := xp.below hh
       try replace xq := xq.below hh
       try replace Y := Y.below hh
       try replace yp := yp.below hh
       try replace yq := yq.below hh
       try replace XA := XA.below hh
       try replace XB := XB.below hh
       replace hb := bend hb hh))
  go_wp2_with fail
  go_ret
  exact ⟨rfl, hb⟩
end Go.Proofs.YtlkjkhpjhllapaaGreat
namespace Go.Proofs.YtlkjkhpjhllapaaGreat
open Go Go.RowKit
set_option maxRecDepth 100000 in
set_option maxHeartbeats 2000000 in
theorem out2c {w : World} {t : Bool} {B : Option Addr} {m d k : Nat} {v : Int} (Y : RG w t B m d v k) (hk : k ≤ 200000) :
    Calls Tryz.prog 62 #[.agg #[.bool t, .slice B m d]] w fun e w' => ∃ A n c, e = .returned (.agg #[.bool t, .slice A n c]) ∧ Rd .u64 w' A n (limbs B64 v.natAbs) ∧ n ≤ c ∧ Below w.heap.size w w' := by
  have hJ := join32_limbs v.natAbs
  have HJ := Lib.hid hJ
  have hm : m ≤ 2000000 := Nat.le_trans Y.2.2.2 (by omega)
  have hY := Y.2.1
  clear hJ
  go_enter Tryz.func62, Tryz.ntmps62
  go_wp2_with fail
  generalize hW : ((w.alloc (Obj.cells #[Value.bool t, Value.slice B m d] 32)).alloc (Obj.cells #[Value.bool false, Value.slice none 0 0] 24)) = W
  have hb : Below w.heap.size w W := by subst hW; exact (((Below.refl _ _).alloc (Nat.le_refl _) _).alloc (by simp) _)
  have XB : By W w.heap.size (Value.bool t) (Value.slice B m d) := by subst hW; exact (By.new w _ _).alloc _
  have Z : Bx W (w.heap.size + 1) (Value.bool false) (Value.slice none 0 0) := by subst hW; exact Bx.new' _ _ _ _ (by simp)
  have hz : W.heap.size = w.heap.size + 2 := by subst hW; simp
  clear hW
  replace hY := hY.below hb
  replace hY := hY.below (Below.refl _ _).drew
  replace XB := XB.drew
  replace Z := Z.drew
  replace hb := hb.drew
  go_region_held3 (fun w' => w'.cell? ⟨w.heap.size, 0, none⟩ = some (Value.bool t) ∧ w'.cell? ⟨w.heap.size, 1, none⟩ = some (Value.slice B m d))
    (first | with_reducible exact ⟨XB.c0, XB.c1⟩ | with_reducible exact ⟨(set2_cell _ _ _ _ _ _ (by omega)).trans XB.c0, (set2_cell _ _ _ _ _ _ (by omega)).trans XB.c1⟩)
    (first
    | (go_at_call 123; (with_reducible refine (rout_any (limbs B32 v.natAbs) B m d _ hY (lim_limbs B32_two _) hm).mono ?_); rintro e w1 ⟨A1, n1, c1, rfl, p1, p2, p3, hh⟩
       rw [HJ.out] at p3
       replace XB := XB.below hh
       replace Z := Z.below hh
       replace hb := bend hb hh
       have r0 := Z.c0
       have r1 := Z.c1
       have r2 := Z.f0
       have r3 := Z.f1))
  go_wp2
  have hf0 := (Z.set2 (.bool t) (.slice A1 n1 c1)).c0
  have hf1 := (Z.set2 (.bool t) (.slice A1 n1 c1)).c1
  refine bodyPost_ret (v := .agg #[.bool t, .slice A1 n1 c1]) (by simp [results, Tryz.results62, go_sem, hf0, hf1]) rfl ?_
  refine ⟨A1, n1, c1, rfl, ?_, p1, (hb.setCell (by show w.heap.size ≤ _; simp) _).setCell (by show w.heap.size ≤ _; simp) _⟩
  exact p3.rd.only (Z.offx p3.rd) (((Only.refl (w.heap.size + 1) w1).setCell 0 _).setCell 1 _)
theorem rout_vc {w : World} {A : Option Addr} {n c V k : Nat} (Y : RN w A n c V k) (hk : k ≤ 200000) :
    Calls Tryz.prog 123 #[.slice A n c] w fun e w' => ∃ A n c, e = .returned (.slice A n c) ∧ Rd .u64 w' A n (limbs B64 V) ∧ n ≤ c ∧ Below w.heap.size w w' := by
  refine (rout_any (limbs B32 V) A n c w Y.1 (lim_limbs B32_two _) (Nat.le_trans Y.2.2 (by omega))).mono ?_
  rintro e w' ⟨A1, n1, c1, rfl, p1, p2, p3, p4⟩
  rw [join32_limbs] at p3
  exact ⟨A1, n1, c1, rfl, p3.rd, p1, p4⟩
set_option maxRecDepth 100000 in
set_option maxHeartbeats 8000000 in
theorem rout3g {w : World} {s : Bool} {A A' : Option Addr} {n c n' c' k : Nat} {v : Rat} (X : RQ w s A n c A' n' c' v k) (hk : k ≤ 100000) (K : Nat) (h1 : v.num.natAbs < B64 ^ K) (h2 : v.den < B64 ^ K) :
    Calls Tryz.prog 37 #[.agg #[.bool s, .slice A n c, .slice A' n' c']] w (GivesQ w v K) := by
  have hs : s = decide (v.num < 0) := X.pg.1
  have HS := Lib.hid hs
  have HK : Hid ((limbs B64 v.num.natAbs).length ≤ K ∧ (limbs B64 v.den).length ≤ K) := ⟨length_limbs_le B64_two h1, length_limbs_le B64_two h2⟩
  clear h1 h2
  clear hs
  go_enter Tryz.func37, Tryz.ntmps37
  go_wp2_with fail
  generalize hW : ((w.alloc (Obj.cells #[Value.bool s, Value.slice A n c, Value.slice A' n' c'] 34)).alloc (Obj.cells #[Value.bool false, Value.slice none 0 0, Value.slice none 0 0] 26)) = W
  have hb : Below w.heap.size w W := by subst hW; exact (((Below.refl _ _).alloc (Nat.le_refl _) _).alloc (by simp) _)
  have XA : B3R W (w.heap.size) (Value.bool s) (Value.slice A n c) (Value.slice A' n' c') := by subst hW; exact (B3R.new' _ _ _ _ _ rfl).alloc _
  have Z : B3 W (w.heap.size + 1) (Value.bool false) (Value.slice none 0 0) (Value.slice none 0 0) := by subst hW; exact B3.new' _ _ _ _ _ (by simp)
  have hzW : W.heap.size = w.heap.size + 2 := by subst hW; simp
  clear hW
  replace X := X.below hb
  have xa0 := XA.c0
  have xa1 := XA.c1
  have xa2 := XA.c2
  go_upto_region 2 with (first
      | (go_at_call 123; (with_reducible refine (rout_vc X.qn (by omega)).mono ?_); rintro e w_q ⟨A_q, n_q, c_q, rfl, q, qc, hh⟩
         try replace X := X.below hh
         try replace p := p.below hh
         try replace XA := XA.below hh
         try replace Z := Z.below hh
         replace hb := bend hb hh
         have xa0 := XA.c0
         have xa1 := XA.c1
         have xa2 := XA.c2))
  have hq0 : ((n_q : Int) == 0) = false := by
    have h1 := q.1
    rw [limbs_pos B64_two v.den_nz] at h1
    simp at h1 ⊢
    omega
  have zf0 := Z.f0
  have zf1 := Z.f1
  have zf2 := Z.f2
  have z0 := Z.c0
  have z1 := Z.c1
  have z2 := Z.c2
  go_wp2_with (first
      | (go_at_call 62; (with_reducible refine (out2c X.pg (by omega)).mono ?_); rintro e w_p ⟨A_p, n_p, c_p, rfl, p, pc, hh⟩
         try replace X := X.below hh
         try replace q := q.below hh
         try replace XA := XA.below hh
         try replace Z := Z.below hh
         replace hb := bend hb hh
         have xa0 := XA.c0
         have xa1 := XA.c1
         have xa2 := XA.c2
         have zf0 := Z.f0
         have zf1 := Z.f1
         have zf2 := Z.f2
         have z0 := Z.c0
         have z1 := Z.c1
         have z2 := Z.c2))
  have Z2 := Z.set3 (.bool s) (.slice A_p n_p c_p) (.slice A_q n_q c_q)
  have g0 := Z2.c0
  have g1 := Z2.c1
  have g2 := Z2.c2
  refine bodyPost_ret (v := .agg #[.bool s, .slice A_p n_p c_p, .slice A_q n_q c_q]) (by simp [results, Tryz.results37, go_sem, g0, g1, g2]) rfl ?_
  have ho := (((Only.refl (w.heap.size + 1) w_p).setCell 0 (Value.bool s)).setCell 1 (Value.slice A_p n_p c_p)).setCell 2 (Value.slice A_q n_q c_q)
  exact ⟨s, A_p, n_p, c_p, A_q, n_q, c_q, rfl, ⟨⟨HS.out, p.only (Z.offx p) ho, pc, by rw [← p.1]; exact HK.out.1⟩, q.only (Z.offx q) ho, qc, by rw [← q.1]; exact HK.out.2⟩, below_set3 hb (by omega) _ _ _⟩
end Go.Proofs.YtlkjkhpjhllapaaGreat
namespace Go.Proofs.YtlkjkhpjhllapaaGreat
open Go Go.RowKit
theorem ZG.nil {w : World} (k : Nat) : ZG w false none 0 0 0 k := ⟨rfl, by rw [show ((0 : Int).natAbs) = 0 from rfl, limbs_zero]; exact Rd.nil, Nat.le_refl _, Nat.zero_le _⟩
theorem RG.nil {w : World} (k : Nat) : RG w false none 0 0 0 k := ⟨rfl, RN.zero w k⟩
theorem rof2_any (v : Int) (h1 : -9223372036854775808 ≤ v) (h2 : v < 9223372036854775808) (w : World) : Calls Tryz.prog 151 #[.int .i64 v] w (GivesRZ w v 2) := by
  by_cases h : v < 0
  · obtain ⟨V, rfl⟩ : ∃ V : Nat, v = -(V : Int) := ⟨v.natAbs, by omega⟩
    exact rof2_neg V (by omega) (by omega) w
  · obtain ⟨V, rfl⟩ : ∃ V : Nat, v = (V : Int) := ⟨v.natAbs, by omega⟩
    exact rof2_pos V (by omega) w
end Go.Proofs.YtlkjkhpjhllapaaGreat
namespace Go.Proofs.YtlkjkhpjhllapaaGreat
open Go Go.RowKit
theorem RG.of_f {w : World} {A : Option Addr} {n c V k : Nat} (h : RN w A n c V k) : RG w false A n c (iv false V) k := RG.of_made (neg := false) h rfl
theorem RG.of_t {w : World} {A : Option Addr} {n c V k : Nat} (h : RN w A n c V k) : RG w (decide (0 < n)) A n c (iv true V) k := RG.of_made (neg := true) h rfl
theorem int_parts (p : Int) : (Rat.divInt p 1).num = p ∧ (Rat.divInt p 1).den = 1 := by rw [int1]; exact ⟨rfl, rfl⟩
set_option maxRecDepth 100000 in
set_option maxHeartbeats 8000000 in
theorem rof3 (p q : Int) (hp1 : -9223372036854775808 ≤ p) (hp2 : p < 9223372036854775808) (hq1 : -9223372036854775808 ≤ q) (hq2 : q < 9223372036854775808) (h0 : ((q : Int) == 0) = false) (w : World) :
    Calls Tryz.prog 55 #[.int .i64 p, .int .i64 q] w (GivesRQ w (Rat.divInt p q) 2) := by
  have hq0 : q ≠ 0 := by simpa using h0
  have HQ0 : Hid ((q : Int).natAbs ≠ 0) := by show (q : Int).natAbs ≠ 0; omega
  have H1 := Lib.hid hp1
  have H2 := Lib.hid hp2
  have H3 := Lib.hid hq1
  have H4 := Lib.hid hq2
  clear hq0
  clear hp1 hp2 hq1 hq2
  go_enter Tryz.func55, Tryz.ntmps55
  go_upto_region 1 with (fail)
  generalize hW : (w.alloc (Obj.cells #[Value.bool false, Value.slice none 0 0, Value.slice none 0 0] 34)) = W
  have hb : Below w.heap.size w W := by subst hW; exact ((Below.refl _ _).alloc (Nat.le_refl _) _)
  have Z : B3R W (w.heap.size) (Value.bool false) (Value.slice none 0 0) (Value.slice none 0 0) := by subst hW; exact B3R.new' _ _ _ _ _ rfl
  have hzW : W.heap.size = w.heap.size + 1 := by subst hW; simp
  clear hW
  go_upto_region 4 with (first
      | (go_at_call 151; (with_reducible refine (rof2_any p H1.out H2.out _).mono ?_); rintro e w_x ⟨s_x, A_x, n_x, c_x, rfl, x, hh⟩
         try replace y := y.below hh
         try replace r := r.below hh
         try replace XP := XP.below hh
         try replace XQ := XQ.below hh
         try replace Z := Z.below hh
         replace hb := bend hb hh)
      | (go_at_call 151; (with_reducible refine (rof2_any q H3.out H4.out _).mono ?_); rintro e w_y ⟨s_y, A_y, n_y, c_y, rfl, y, hh⟩
         try replace x := x.below hh
         try replace r := r.below hh
         try replace XP := XP.below hh
         try replace XQ := XQ.below hh
         try replace Z := Z.below hh
         replace hb := bend hb hh))
  generalize hW : ((w_y.alloc (Obj.cells #[Value.bool s_x, Value.slice A_x n_x c_x] 32)).alloc (Obj.cells #[Value.bool s_y, Value.slice A_y n_y c_y] 32)) = W2
  have hh : Below w_y.heap.size w_y W2 := by subst hW; exact (((Below.refl _ _).alloc (Nat.le_refl _) _).alloc (by simp) _)
  have XP : By W2 (w_y.heap.size) (Value.bool s_x) (Value.slice A_x n_x c_x) := by subst hW; exact (By.new' _ _ _ _ rfl).alloc _
  have XQ : By W2 (w_y.heap.size + 1) (Value.bool s_y) (Value.slice A_y n_y c_y) := by subst hW; exact By.new' _ _ _ _ (by simp)
  have hzW2 : W2.heap.size = w_y.heap.size + 2 := by subst hW; simp
  clear hW
  try replace x := x.below hh
  try replace y := y.below hh
  try replace Z := Z.below hh
  replace hb := bend hb hh
  have hsx : s_x = decide (p < 0) := x.1
  have hsy : s_y = decide (q < 0) := y.1
  have HE : Hid (mkRat (iv (s_x != s_y) p.natAbs) (q : Int).natAbs = Rat.divInt p q) := by
    show _ = _
    rw [← div_mk, hsx, hsy, iv_canon]
    first | rfl | rw [iv_canon]
  have hnx := rn_pos x.rn
  have HNX := Lib.hid hnx
  have xr := x.rn
  have yr := y.rn
  clear hsx hsy hnx x y
  cases s_x <;> cases s_y
  · have xp0 := XP.c0
    have xp1 := XP.c1
    have xq0 := XQ.c0
    have xq1 := XQ.c1
    have zf0 := Z.f0
    have zf1 := Z.f1
    have zf2 := Z.f2
    have z0 := Z.c0
    have z1 := Z.c1
    have z2 := Z.c2
    have HE2 : Hid (mkRat (iv false p.natAbs) (q : Int).natAbs = Rat.divInt p q) := HE
    go_wp2_with (first
      | (go_at_call 99; (with_reducible refine (made_rq (RG.of_f xr) yr (by decide) HQ0.out).mono ?_); rintro e w_r ⟨s_r, A_r, n_r, c_r, B_r, m_r, d_r, rfl, r, hh⟩
         rw [HE2.out] at r
         try replace Z := Z.below hh
         replace hb := bend hb hh
         have zf0 := Z.f0
         have zf1 := Z.f1
         have zf2 := Z.f2
         have z0 := Z.c0
         have z1 := Z.c1
         have z2 := Z.c2))
    have Z2 := Z.set3 (.bool s_r) (.slice A_r n_r c_r) (.slice B_r m_r d_r)
    have g0 := Z2.c0
    have g1 := Z2.c1
    have g2 := Z2.c2
    refine bodyPost_ret (v := .agg #[.bool s_r, .slice A_r n_r c_r, .slice B_r m_r d_r]) (by simp [results, Tryz.results55, go_sem, g0, g1, g2]) rfl ?_
    exact ⟨s_r, A_r, n_r, c_r, B_r, m_r, d_r, rfl, r.set3 Z _ _ _, below_set3 hb (by omega) _ _ _⟩
  · have xp0 := XP.c0
    have xp1 := XP.c1
    have xq0 := XQ.c0
    have xq1 := XQ.c1
    have zf0 := Z.f0
    have zf1 := Z.f1
    have zf2 := Z.f2
    have z0 := Z.c0
    have z1 := Z.c1
    have z2 := Z.c2
    have HE2 : Hid (mkRat (iv true p.natAbs) (q : Int).natAbs = Rat.divInt p q) := HE
    go_wp2_with (first
      | (go_at_call 99; (with_reducible refine (made_rq (RG.of_t xr) yr (by decide) HQ0.out).mono ?_); rintro e w_r ⟨s_r, A_r, n_r, c_r, B_r, m_r, d_r, rfl, r, hh⟩
         rw [HE2.out] at r
         try replace Z := Z.below hh
         replace hb := bend hb hh
         have zf0 := Z.f0
         have zf1 := Z.f1
         have zf2 := Z.f2
         have z0 := Z.c0
         have z1 := Z.c1
         have z2 := Z.c2))
    have Z2 := Z.set3 (.bool s_r) (.slice A_r n_r c_r) (.slice B_r m_r d_r)
    have g0 := Z2.c0
    have g1 := Z2.c1
    have g2 := Z2.c2
    refine bodyPost_ret (v := .agg #[.bool s_r, .slice A_r n_r c_r, .slice B_r m_r d_r]) (by simp [results, Tryz.results55, go_sem, g0, g1, g2]) rfl ?_
    exact ⟨s_r, A_r, n_r, c_r, B_r, m_r, d_r, rfl, r.set3 Z _ _ _, below_set3 hb (by omega) _ _ _⟩
  · have xp0 := XP.c0
    have xp1 := XP.c1
    have xq0 := XQ.c0
    have xq1 := XQ.c1
    have zf0 := Z.f0
    have zf1 := Z.f1
    have zf2 := Z.f2
    have z0 := Z.c0
    have z1 := Z.c1
    have z2 := Z.c2
    have HE2 : Hid (mkRat (iv true p.natAbs) (q : Int).natAbs = Rat.divInt p q) := HE
    go_wp2_with (first
      | (go_at_call 99; (with_reducible refine (made_rq (RG.of_t xr) yr (by decide) HQ0.out).mono ?_); rintro e w_r ⟨s_r, A_r, n_r, c_r, B_r, m_r, d_r, rfl, r, hh⟩
         rw [HE2.out] at r
         try replace Z := Z.below hh
         replace hb := bend hb hh
         have zf0 := Z.f0
         have zf1 := Z.f1
         have zf2 := Z.f2
         have z0 := Z.c0
         have z1 := Z.c1
         have z2 := Z.c2))
    have Z2 := Z.set3 (.bool s_r) (.slice A_r n_r c_r) (.slice B_r m_r d_r)
    have g0 := Z2.c0
    have g1 := Z2.c1
    have g2 := Z2.c2
    refine bodyPost_ret (v := .agg #[.bool s_r, .slice A_r n_r c_r, .slice B_r m_r d_r]) (by simp [results, Tryz.results55, go_sem, g0, g1, g2]) rfl ?_
    exact ⟨s_r, A_r, n_r, c_r, B_r, m_r, d_r, rfl, r.set3 Z _ _ _, below_set3 hb (by omega) _ _ _⟩
  · have xp0 := XP.c0
    have xp1 := XP.c1
    have xq0 := XQ.c0
    have xq1 := XQ.c1
    have zf0 := Z.f0
    have zf1 := Z.f1
    have zf2 := Z.f2
    have z0 := Z.c0
    have z1 := Z.c1
    have z2 := Z.c2
    have HE2 : Hid (mkRat (iv false p.natAbs) (q : Int).natAbs = Rat.divInt p q) := HE
    go_wp2_with (first
      | (go_at_call 99; (with_reducible refine (made_rq (RG.of_f xr) yr (by decide) HQ0.out).mono ?_); rintro e w_r ⟨s_r, A_r, n_r, c_r, B_r, m_r, d_r, rfl, r, hh⟩
         rw [HE2.out] at r
         try replace Z := Z.below hh
         replace hb := bend hb hh
         have zf0 := Z.f0
         have zf1 := Z.f1
         have zf2 := Z.f2
         have z0 := Z.c0
         have z1 := Z.c1
         have z2 := Z.c2))
    have Z2 := Z.set3 (.bool s_r) (.slice A_r n_r c_r) (.slice B_r m_r d_r)
    have g0 := Z2.c0
    have g1 := Z2.c1
    have g2 := Z2.c2
    refine bodyPost_ret (v := .agg #[.bool s_r, .slice A_r n_r c_r, .slice B_r m_r d_r]) (by simp [results, Tryz.results55, go_sem, g0, g1, g2]) rfl ?_
    exact ⟨s_r, A_r, n_r, c_r, B_r, m_r, d_r, rfl, r.set3 Z _ _ _, below_set3 hb (by omega) _ _ _⟩
end Go.Proofs.YtlkjkhpjhllapaaGreat
namespace Go.Proofs.YtlkjkhpjhllapaaGreat
open Go Go.RowKit
set_option maxRecDepth 100000 in
set_option maxHeartbeats 4000000 in
theorem small_m (M : Nat) {s : Bool} {A A' : Option Addr} {n c n' c' : Nat} (w : World) (L : Bool) (hL : decide (n ≤ M ∧ n' ≤ M) = L) :
    Calls Tryz.prog 46 #[.agg #[.bool s, .slice A n c, .slice A' n' c'], .int .i64 (M : Int)] w fun e w' => e = .returned (.bool L) ∧ Below w.heap.size w w' := by
  have HL := Lib.hid hL
  clear hL
  go_enter Tryz.func46, Tryz.ntmps46
  go_wp2_with fail
  generalize hW : (w.alloc (Obj.cells #[Value.bool s, Value.slice A n c, Value.slice A' n' c'] 26)) = W
  have hb : Below w.heap.size w W := by subst hW; exact ((Below.refl _ _).alloc (Nat.le_refl _) _)
  have XA : B3 W (w.heap.size) (Value.bool s) (Value.slice A n c) (Value.slice A' n' c') := by subst hW; exact B3.new' _ _ _ _ _ rfl
  have hzW : W.heap.size = w.heap.size + 1 := by subst hW; simp
  clear hW
  have xa0 := XA.c0
  have xa1 := XA.c1
  have xa2 := XA.c2
  go_wp2_with fail
  · have h : n ≤ M := by assumption
    go_ret
    refine ⟨?_, by first | assumption | exact (Below.refl _ _).alloc (Nat.le_refl _) _⟩
    show Ending.returned (.bool (decide (n' ≤ M))) = _
    rw [← HL.out]
    by_cases h2 : n' ≤ M
    · rw [decide_eq_true (show n' ≤ M by omega), decide_eq_true (show n ≤ M ∧ n' ≤ M by omega)]
    · rw [decide_eq_false (show ¬ n' ≤ M by omega), decide_eq_false (show ¬ (n ≤ M ∧ n' ≤ M) by omega)]
  · have h : M < n := by omega
    go_ret
    refine ⟨?_, by first | assumption | exact (Below.refl _ _).alloc (Nat.le_refl _) _⟩
    show Ending.returned (.bool false) = _
    rw [← HL.out, decide_eq_false (show ¬ (n ≤ M ∧ n' ≤ M) by omega)]
theorem small_6 {s : Bool} {A A' : Option Addr} {n c n' c' : Nat} (w : World) (L : Bool) (hL : decide (n ≤ 6 ∧ n' ≤ 6) = L) :
    Calls Tryz.prog 46 #[.agg #[.bool s, .slice A n c, .slice A' n' c'], .int .i64 6] w fun e w' => e = .returned (.bool L) ∧ Below w.heap.size w w' := small_m 6 w L hL
end Go.Proofs.YtlkjkhpjhllapaaGreat
