/- gessoref03 by value: Add, Sub. -/
import Derived.Test.YtmcijgnbdnpanaaGreatFlowR
namespace Go.Proofs.YtmcijgnbdnpanaaGreat
open Go Go.RowKit

theorem rc_gesso_gessoref03_den {e : Operand → Value} {x0 : Operand} {d : Option Tmp} {y : Nat} {pos : String} {af : Array Edge} {w : World} {u0 : Value} (h0 : e x0 = u0) (hf : e (.func 77) = .func (.func 77) #[] #[]) :
    (execOp e { dst := d, op := Op.call { callee := Callee.value (Operand.func 77), args := #[x0], argTypes := #[34] }, type := y, pos := pos, after := af, guard := none }).run Tryz.prog w = .ok (.enter 77 #[u0]) w := by
  go_simp
theorem rc_gesso_gessoref02_Mul {e : Operand → Value} {x0 x1 : Operand} {d : Option Tmp} {y : Nat} {pos : String} {af : Array Edge} {w : World} {u0 u1 : Value} (h0 : e x0 = u0) (h1 : e x1 = u1) (hf : e (.func 76) = .func (.func 76) #[] #[]) :
    (execOp e { dst := d, op := Op.call { callee := Callee.value (Operand.func 76), args := #[x0, x1], argTypes := #[32, 32] }, type := y, pos := pos, after := af, guard := none }).run Tryz.prog w = .ok (.enter 76 #[u0, u1]) w := by
  go_simp
theorem rc_gesso_gessoref02_Add {e : Operand → Value} {x0 x1 : Operand} {d : Option Tmp} {y : Nat} {pos : String} {af : Array Edge} {w : World} {u0 u1 : Value} (h0 : e x0 = u0) (h1 : e x1 = u1) (hf : e (.func 82) = .func (.func 82) #[] #[]) :
    (execOp e { dst := d, op := Op.call { callee := Callee.value (Operand.func 82), args := #[x0, x1], argTypes := #[32, 32] }, type := y, pos := pos, after := af, guard := none }).run Tryz.prog w = .ok (.enter 82 #[u0, u1]) w := by
  go_simp
def F_radd (s : Bool) (t : Bool) (A : Option Addr) (A' : Option Addr) (B : Option Addr) (B' : Option Addr) (n : Nat) (c : Nat) (n' : Nat) (c' : Nat) (m : Nat) (d : Nat) (m' : Nat) (d' : Nat) (k : Nat) (k2 : Nat) (g1 : Nat) (g2 : Nat) (v : Rat) (u : Rat) (sl : Nat) : Value → World → Prop :=
  match sl with
  | 6 => fun x _ => x = Value.pointer (some ⟨g1, 0, none⟩)
  | 7 => fun x _ => x = Value.agg #[.bool s, .slice A n c]
  | 8 => fun x _ => x = Value.agg #[.bool t, .slice B m d, .slice B' m' d']
  | 9 => fun x _ => x = Value.agg #[.bool false, .slice B' m' d']
  | 10 => VRG (v.num * (u.den : Int)) (k + k2)
  | 11 => fun x _ => x = Value.pointer (some ⟨g2, 0, none⟩)
  | 12 => fun x _ => x = Value.agg #[.bool t, .slice B m d]
  | 13 => fun x _ => x = Value.agg #[.bool s, .slice A n c, .slice A' n' c']
  | 14 => fun x _ => x = Value.agg #[.bool false, .slice A' n' c']
  | 15 => VRG (u.num * (v.den : Int)) (k2 + k)
  | 16 => VRG (v.num * (u.den : Int) + u.num * (v.den : Int)) (k + k2 + 1)
  | _ => fun _ _ => True
set_option maxRecDepth 100000 in
set_option maxHeartbeats 4000000 in
theorem radd_region {id : Nat} {ac : Act} {w : World} {Q : Exit → Act → World → Prop} {s t : Bool} {A A' B B' : Option Addr} {n c n' c' m d m' d' k k2 g1 g2 : Nat} {v u : Rat}
    (hsz : 16 < ac.tmps.size) (e2 : ac.eval (.tmp 2) = Value.pointer (some ⟨g1, 0, none⟩)) (e3 : ac.eval (.tmp 3) = Value.pointer (some ⟨g2, 0, none⟩)) (XA : B3R w g1 (.bool s) (.slice A n c) (.slice A' n' c')) (XB : B3R w g2 (.bool t) (.slice B m d) (.slice B' m' d')) (X : RQ w s A n c A' n' c' v k) (Y : RQ w t B m d B' m' d' u k2) (hk : k ≤ 10000) (hk2 : k2 ≤ 10000)
    (hend : ∀ (V : Nat → Value) (w' : World) (g : Nat) (s : Bool) (A : Option Addr) (n c : Nat), RG w' s A n c (v.num * (u.den : Int) + u.num * (v.den : Int)) (k + k2 + 1) → By w' g (.bool s) (.slice A n c) → Below w.heap.size w w' → w.heap.size ≤ g → V 5 = .pointer (some ⟨g, 0, none⟩) → Q .normal (putAll ac [6, 7, 8, 9, 10, 11, 12, 13, 14, 15, 16, 5] V) w') :
    (Code.region id #[{ dst := some 6, op := Op.fieldAddr 34 (Operand.tmp 2) 0, type := 0, pos := "ref.go:81", after := #[], guard := none },
      { dst := some 7, op := Op.load 32 (Operand.tmp 6), type := 32, pos := "ref.go:81", after := #[{ on := 0, ground := Ground.data }], guard := none },
      { dst := some 8, op := Op.load 34 (Operand.tmp 3), type := 34, pos := "ref.go:81", after := #[], guard := none },
      { dst := some 9, op := Op.call { callee := Callee.value (Operand.func 77), args := #[Operand.tmp 8], argTypes := #[34] }, type := 32, pos := "ref.go:81", after := #[{ on := 2, ground := Ground.data }], guard := none },
      { dst := some 10, op := Op.call { callee := Callee.value (Operand.func 76), args := #[Operand.tmp 7, Operand.tmp 9], argTypes := #[32, 32] }, type := 32, pos := "ref.go:81", after := #[{ on := 1, ground := Ground.data }, { on := 3, ground := Ground.data }, { on := 3, ground := Ground.chain }], guard := none },
      { dst := some 11, op := Op.fieldAddr 34 (Operand.tmp 3) 0, type := 0, pos := "ref.go:81", after := #[], guard := none },
      { dst := some 12, op := Op.load 32 (Operand.tmp 11), type := 32, pos := "ref.go:81", after := #[{ on := 5, ground := Ground.data }], guard := none },
      { dst := some 13, op := Op.load 34 (Operand.tmp 2), type := 34, pos := "ref.go:81", after := #[], guard := none },
      { dst := some 14, op := Op.call { callee := Callee.value (Operand.func 77), args := #[Operand.tmp 13], argTypes := #[34] }, type := 32, pos := "ref.go:81", after := #[{ on := 7, ground := Ground.data }, { on := 4, ground := Ground.chain }], guard := none },
      { dst := some 15, op := Op.call { callee := Callee.value (Operand.func 76), args := #[Operand.tmp 12, Operand.tmp 14], argTypes := #[32, 32] }, type := 32, pos := "ref.go:81", after := #[{ on := 6, ground := Ground.data }, { on := 8, ground := Ground.data }, { on := 8, ground := Ground.chain }], guard := none },
      { dst := some 16, op := Op.call { callee := Callee.value (Operand.func 82), args := #[Operand.tmp 10, Operand.tmp 15], argTypes := #[32, 32] }, type := 32, pos := "ref.go:81", after := #[{ on := 4, ground := Ground.data }, { on := 9, ground := Ground.data }, { on := 9, ground := Ground.chain }], guard := none },
      { dst := some 5, op := Op.alloc 32, type := 0, pos := "ref.go:81", after := #[], guard := none },
      { dst := none, op := Op.store 32 (Operand.tmp 5) (Operand.tmp 16), type := 0, pos := "ref.go:81", after := #[{ on := 11, ground := Ground.data }, { on := 10, ground := Ground.data }, { on := 10, ground := Ground.chain }, { on := 0, ground := Ground.phase }, { on := 1, ground := Ground.phase }, { on := 2, ground := Ground.phase }, { on := 3, ground := Ground.phase }, { on := 4, ground := Ground.phase }, { on := 5, ground := Ground.phase }, { on := 6, ground := Ground.phase }, { on := 7, ground := Ground.phase }, { on := 8, ground := Ground.phase }, { on := 9, ground := Ground.phase }, { on := 10, ground := Ground.phase }, { on := 11, ground := Ground.phase }], guard := none }] true).wp Tryz.prog Q ac w := by
  have hnd : ([6, 7, 8, 9, 10, 11, 12, 13, 14, 15, 16, 5] : List Nat).Nodup := by decide
  have G : ∀ (sv : Nat → Value) (t : Nat), t ∈ ([6, 7, 8, 9, 10, 11, 12, 13, 14, 15, 16, 5] : List Nat) → t ≤ 16 → (putAll ac [6, 7, 8, 9, 10, 11, 12, 13, 14, 15, 16, 5] sv).eval (.tmp t) = sv t := fun sv t ht h => eval_putAll_mem (t := t) [6, 7, 8, 9, 10, 11, 12, 13, 14, 15, 16, 5] ac hnd ht (Nat.lt_of_le_of_lt h hsz)
  have E2 : ∀ sv : Nat → Value, (putAll ac [6, 7, 8, 9, 10, 11, 12, 13, 14, 15, 16, 5] sv).eval (.tmp 2) = Value.pointer (some ⟨g1, 0, none⟩) := fun sv => (eval_putAll_not (v := sv) [6, 7, 8, 9, 10, 11, 12, 13, 14, 15, 16, 5] ac (show 2 ∉ _ by decide)).trans e2
  have E3 : ∀ sv : Nat → Value, (putAll ac [6, 7, 8, 9, 10, 11, 12, 13, 14, 15, 16, 5] sv).eval (.tmp 3) = Value.pointer (some ⟨g2, 0, none⟩) := fun sv => (eval_putAll_not (v := sv) [6, 7, 8, 9, 10, 11, 12, 13, 14, 15, 16, 5] ac (show 3 ∉ _ by decide)).trans e3
  refine wp_region_flow 32 #[.bool false, .slice none 0 0] [6, 7, 8, 9, 10, 11, 12, 13, 14, 15, 16, 5] 11 12 5 ({ dst := some 5, op := Op.alloc 32, type := 0, pos := "ref.go:81", after := #[], guard := none }) ({ dst := none, op := Op.store 32 (Operand.tmp 5) (Operand.tmp 16), type := 0, pos := "ref.go:81", after := #[{ on := 11, ground := Ground.data }, { on := 10, ground := Ground.data }, { on := 10, ground := Ground.chain }, { on := 0, ground := Ground.phase }, { on := 1, ground := Ground.phase }, { on := 2, ground := Ground.phase }, { on := 3, ground := Ground.phase }, { on := 4, ground := Ground.phase }, { on := 5, ground := Ground.phase }, { on := 6, ground := Ground.phase }, { on := 7, ground := Ground.phase }, { on := 8, ground := Ground.phase }, { on := 9, ground := Ground.phase }, { on := 10, ground := Ground.phase }, { on := 11, ground := Ground.phase }], guard := none }) (F_radd s t A A' B B' n c n' c' m d m' d' k k2 g1 g2 v u) (fun cs w => ∃ s A n c, cs = #[.bool s, .slice A n c] ∧ RG w s A n c (v.num * (u.den : Int) + u.num * (v.den : Int)) (k + k2 + 1)) (by kernel_rfl) (by kernel_rfl) rfl hnd rfl rfl rfl rfl ?_ rfl rfl ⟨{ on := 11, ground := Ground.data }, by simp, rfl, rfl⟩ ?_ (free2 _ _ _ _) (fun e w' => run_allocR) ?_ ?_ ?_ ?_
  · intro i o h1 h2
    match i, h1 with
    | 0, h1 => cases h1; cases h2
    | 1, h1 => cases h1; cases h2
    | 2, h1 => cases h1; cases h2
    | 3, h1 => cases h1; cases h2
    | 4, h1 => cases h1; cases h2
    | 5, h1 => cases h1; cases h2
    | 6, h1 => cases h1; cases h2
    | 7, h1 => cases h1; cases h2
    | 8, h1 => cases h1; cases h2
    | 9, h1 => cases h1; cases h2
    | 10, h1 => cases h1; cases h2
    | 11, h1 => cases h1; cases h2
    | 12, h1 => cases h1; rfl
    | i + 13, h1 => cases h1
  · intro t
    unfold F_radd
    split <;> first | exact stays_eq _ | exact stays_q _ _ | exact stays_z _ _ | exact stays_r _ _ | exact stays_qe _ _ | exact stays_qs _ _ | exact stays_true
  · intro i o t sv w' ho hia hd J0 hf
    have X := X.below J0
    have Y := Y.below J0
    have XA := XA.below J0
    have XB := XB.below J0
    match i, ho with
    | 0, ho =>
      obtain rfl : { dst := some 6, op := Op.fieldAddr 34 (Operand.tmp 2) 0, type := 0, pos := "ref.go:81", after := #[], guard := none } = o := Option.some.inj ho
      cases hd
      refine wpOp_plain' (o := { dst := some 6, op := Op.fieldAddr 34 (Operand.tmp 2) 0, type := 0, pos := "ref.go:81", after := #[], guard := none }) rfl rfl ?_
      unfold Oper.wp
      rw [run_fa0 (E2 sv), Oper.upon_value]
      exact ⟨_, rfl, Below.refl _ _, rfl⟩
    | 1, ho =>
      obtain rfl : { dst := some 7, op := Op.load 32 (Operand.tmp 6), type := 32, pos := "ref.go:81", after := #[{ on := 0, ground := Ground.data }], guard := none } = o := Option.some.inj ho
      cases hd
      have f6 : sv 6 = Value.pointer (some ⟨g1, 0, none⟩) := hf { on := 0, ground := Ground.data } (by simp) rfl _ 6 rfl rfl (by decide)
      refine wpOp_plain' (o := { dst := some 7, op := Op.load 32 (Operand.tmp 6), type := 32, pos := "ref.go:81", after := #[{ on := 0, ground := Ground.data }], guard := none }) rfl rfl ?_
      unfold Oper.wp
      rw [run_load32 ((G sv 6 (by decide) (by decide)).trans f6) XA.c0 XA.c1, Oper.upon_value]
      exact ⟨_, rfl, Below.refl _ _, rfl⟩
    | 2, ho =>
      obtain rfl : { dst := some 8, op := Op.load 34 (Operand.tmp 3), type := 34, pos := "ref.go:81", after := #[], guard := none } = o := Option.some.inj ho
      cases hd
      refine wpOp_plain' (o := { dst := some 8, op := Op.load 34 (Operand.tmp 3), type := 34, pos := "ref.go:81", after := #[], guard := none }) rfl rfl ?_
      unfold Oper.wp
      rw [run_load3 (E3 sv) XB.c0 XB.c1 XB.c2, Oper.upon_value]
      exact ⟨_, rfl, Below.refl _ _, rfl⟩
    | 3, ho =>
      obtain rfl : { dst := some 9, op := Op.call { callee := Callee.value (Operand.func 77), args := #[Operand.tmp 8], argTypes := #[34] }, type := 32, pos := "ref.go:81", after := #[{ on := 2, ground := Ground.data }], guard := none } = o := Option.some.inj ho
      cases hd
      have f8 : sv 8 = Value.agg #[.bool t, .slice B m d, .slice B' m' d'] := hf { on := 2, ground := Ground.data } (by simp) rfl _ 8 rfl rfl (by decide)
      refine wpOp_plain' (o := { dst := some 9, op := Op.call { callee := Callee.value (Operand.func 77), args := #[Operand.tmp 8], argTypes := #[34] }, type := 32, pos := "ref.go:81", after := #[{ on := 2, ground := Ground.data }], guard := none }) rfl rfl ?_
      unfold Oper.wp
      rw [rc_gesso_gessoref03_den ((G sv 8 (by decide) (by decide)).trans f8) rfl, Oper.upon_enter]
      refine (rden3 Y).mono ?_
      rintro e w1 ⟨rfl, hh⟩
      exact ⟨_, rfl, hh, rfl⟩
    | 4, ho =>
      obtain rfl : { dst := some 10, op := Op.call { callee := Callee.value (Operand.func 76), args := #[Operand.tmp 7, Operand.tmp 9], argTypes := #[32, 32] }, type := 32, pos := "ref.go:81", after := #[{ on := 1, ground := Ground.data }, { on := 3, ground := Ground.data }, { on := 3, ground := Ground.chain }], guard := none } = o := Option.some.inj ho
      cases hd
      have f7 : sv 7 = Value.agg #[.bool s, .slice A n c] := hf { on := 1, ground := Ground.data } (by simp) rfl _ 7 rfl rfl (by decide)
      have f9 : sv 9 = Value.agg #[.bool false, .slice B' m' d'] := hf { on := 3, ground := Ground.data } (by simp) rfl _ 9 rfl rfl (by decide)
      refine wpOp_plain' (o := { dst := some 10, op := Op.call { callee := Callee.value (Operand.func 76), args := #[Operand.tmp 7, Operand.tmp 9], argTypes := #[32, 32] }, type := 32, pos := "ref.go:81", after := #[{ on := 1, ground := Ground.data }, { on := 3, ground := Ground.data }, { on := 3, ground := Ground.chain }], guard := none }) rfl rfl ?_
      unfold Oper.wp
      rw [rc_gesso_gessoref02_Mul ((G sv 7 (by decide) (by decide)).trans f7) ((G sv 9 (by decide) (by decide)).trans f9) rfl, Oper.upon_enter]
      refine (rmul2 X.pz Y.qz (by omega) (by omega)).mono ?_
      rintro e w1 ⟨s1, A1, n1, c1, rfl, hq, hh⟩
      exact ⟨_, rfl, hh, s1, A1, n1, c1, rfl, hq⟩
    | 5, ho =>
      obtain rfl : { dst := some 11, op := Op.fieldAddr 34 (Operand.tmp 3) 0, type := 0, pos := "ref.go:81", after := #[], guard := none } = o := Option.some.inj ho
      cases hd
      refine wpOp_plain' (o := { dst := some 11, op := Op.fieldAddr 34 (Operand.tmp 3) 0, type := 0, pos := "ref.go:81", after := #[], guard := none }) rfl rfl ?_
      unfold Oper.wp
      rw [run_fa0 (E3 sv), Oper.upon_value]
      exact ⟨_, rfl, Below.refl _ _, rfl⟩
    | 6, ho =>
      obtain rfl : { dst := some 12, op := Op.load 32 (Operand.tmp 11), type := 32, pos := "ref.go:81", after := #[{ on := 5, ground := Ground.data }], guard := none } = o := Option.some.inj ho
      cases hd
      have f11 : sv 11 = Value.pointer (some ⟨g2, 0, none⟩) := hf { on := 5, ground := Ground.data } (by simp) rfl _ 11 rfl rfl (by decide)
      refine wpOp_plain' (o := { dst := some 12, op := Op.load 32 (Operand.tmp 11), type := 32, pos := "ref.go:81", after := #[{ on := 5, ground := Ground.data }], guard := none }) rfl rfl ?_
      unfold Oper.wp
      rw [run_load32 ((G sv 11 (by decide) (by decide)).trans f11) XB.c0 XB.c1, Oper.upon_value]
      exact ⟨_, rfl, Below.refl _ _, rfl⟩
    | 7, ho =>
      obtain rfl : { dst := some 13, op := Op.load 34 (Operand.tmp 2), type := 34, pos := "ref.go:81", after := #[], guard := none } = o := Option.some.inj ho
      cases hd
      refine wpOp_plain' (o := { dst := some 13, op := Op.load 34 (Operand.tmp 2), type := 34, pos := "ref.go:81", after := #[], guard := none }) rfl rfl ?_
      unfold Oper.wp
      rw [run_load3 (E2 sv) XA.c0 XA.c1 XA.c2, Oper.upon_value]
      exact ⟨_, rfl, Below.refl _ _, rfl⟩
    | 8, ho =>
      obtain rfl : { dst := some 14, op := Op.call { callee := Callee.value (Operand.func 77), args := #[Operand.tmp 13], argTypes := #[34] }, type := 32, pos := "ref.go:81", after := #[{ on := 7, ground := Ground.data }, { on := 4, ground := Ground.chain }], guard := none } = o := Option.some.inj ho
      cases hd
      have f13 : sv 13 = Value.agg #[.bool s, .slice A n c, .slice A' n' c'] := hf { on := 7, ground := Ground.data } (by simp) rfl _ 13 rfl rfl (by decide)
      refine wpOp_plain' (o := { dst := some 14, op := Op.call { callee := Callee.value (Operand.func 77), args := #[Operand.tmp 13], argTypes := #[34] }, type := 32, pos := "ref.go:81", after := #[{ on := 7, ground := Ground.data }, { on := 4, ground := Ground.chain }], guard := none }) rfl rfl ?_
      unfold Oper.wp
      rw [rc_gesso_gessoref03_den ((G sv 13 (by decide) (by decide)).trans f13) rfl, Oper.upon_enter]
      refine (rden3 X).mono ?_
      rintro e w1 ⟨rfl, hh⟩
      exact ⟨_, rfl, hh, rfl⟩
    | 9, ho =>
      obtain rfl : { dst := some 15, op := Op.call { callee := Callee.value (Operand.func 76), args := #[Operand.tmp 12, Operand.tmp 14], argTypes := #[32, 32] }, type := 32, pos := "ref.go:81", after := #[{ on := 6, ground := Ground.data }, { on := 8, ground := Ground.data }, { on := 8, ground := Ground.chain }], guard := none } = o := Option.some.inj ho
      cases hd
      have f12 : sv 12 = Value.agg #[.bool t, .slice B m d] := hf { on := 6, ground := Ground.data } (by simp) rfl _ 12 rfl rfl (by decide)
      have f14 : sv 14 = Value.agg #[.bool false, .slice A' n' c'] := hf { on := 8, ground := Ground.data } (by simp) rfl _ 14 rfl rfl (by decide)
      refine wpOp_plain' (o := { dst := some 15, op := Op.call { callee := Callee.value (Operand.func 76), args := #[Operand.tmp 12, Operand.tmp 14], argTypes := #[32, 32] }, type := 32, pos := "ref.go:81", after := #[{ on := 6, ground := Ground.data }, { on := 8, ground := Ground.data }, { on := 8, ground := Ground.chain }], guard := none }) rfl rfl ?_
      unfold Oper.wp
      rw [rc_gesso_gessoref02_Mul ((G sv 12 (by decide) (by decide)).trans f12) ((G sv 14 (by decide) (by decide)).trans f14) rfl, Oper.upon_enter]
      refine (rmul2 Y.pz X.qz (by omega) (by omega)).mono ?_
      rintro e w1 ⟨s1, A1, n1, c1, rfl, hq, hh⟩
      exact ⟨_, rfl, hh, s1, A1, n1, c1, rfl, hq⟩
    | 10, ho =>
      obtain rfl : { dst := some 16, op := Op.call { callee := Callee.value (Operand.func 82), args := #[Operand.tmp 10, Operand.tmp 15], argTypes := #[32, 32] }, type := 32, pos := "ref.go:81", after := #[{ on := 4, ground := Ground.data }, { on := 9, ground := Ground.data }, { on := 9, ground := Ground.chain }], guard := none } = o := Option.some.inj ho
      cases hd
      have h10 : VRG (v.num * (u.den : Int)) (k + k2) (sv 10) w' := hf { on := 4, ground := Ground.data } (by simp) rfl _ 10 rfl rfl (by decide)
      obtain ⟨s10, A10, n10, c10, f10, q10⟩ := h10
      have h15 : VRG (u.num * (v.den : Int)) (k2 + k) (sv 15) w' := hf { on := 9, ground := Ground.data } (by simp) rfl _ 15 rfl rfl (by decide)
      obtain ⟨s15, A15, n15, c15, f15, q15⟩ := h15
      refine wpOp_plain' (o := { dst := some 16, op := Op.call { callee := Callee.value (Operand.func 82), args := #[Operand.tmp 10, Operand.tmp 15], argTypes := #[32, 32] }, type := 32, pos := "ref.go:81", after := #[{ on := 4, ground := Ground.data }, { on := 9, ground := Ground.data }, { on := 9, ground := Ground.chain }], guard := none }) rfl rfl ?_
      unfold Oper.wp
      rw [rc_gesso_gessoref02_Add ((G sv 10 (by decide) (by decide)).trans f10) ((G sv 15 (by decide) (by decide)).trans f15) rfl, Oper.upon_enter]
      refine (radd2 (k + k2 + 1) q10.rz q15.rz (by omega) (by omega) (by omega)).mono ?_
      rintro e w1 ⟨s1, A1, n1, c1, rfl, hq, hh⟩
      exact ⟨_, rfl, hh, s1, A1, n1, c1, rfl, hq⟩
    | 11, ho => exact absurd rfl hia
    | 12, ho => cases ho; cases hd
    | i + 13, ho => cases ho
  · intro sv w' g J0 p1 p3 hf
    have h1 : VRG (v.num * (u.den : Int) + u.num * (v.den : Int)) (k + k2 + 1) (sv 16) w' := hf { on := 10, ground := Ground.data } (by simp) rfl _ 16 rfl rfl (by decide)
    rw [← G sv 16 (by decide) (by decide)] at h1
    refine store_r (V := v.num * (u.den : Int) + u.num * (v.den : Int)) (k := k + k2 + 1) (ac := putAll ac [6, 7, 8, 9, 10, 11, 12, 13, 14, 15, 16, 5] sv) (z := Operand.tmp 16) ?_ ?_ ?_
    · exact (G sv 5 (by decide) (by decide)).trans p1
    · exact h1
    · exact p3
  · rintro cs w1 w2 ⟨s1, A1, n1, c1, h1, h2⟩ hb
    exact ⟨s1, A1, n1, c1, h1, h2.below hb⟩
  · rintro sv w' g cs J0 hF p1 p2 p3 ⟨s1, A1, n1, c1, h1, h2⟩
    subst h1
    exact hend sv w' g _ _ _ _ h2 p3.at_ J0 p2 p1 

set_option maxRecDepth 100000 in
set_option maxHeartbeats 8000000 in
theorem radd3 {w : World} {s t : Bool} {A A' B B' : Option Addr} {n c n' c' m d m' d' k k2 : Nat} {v u : Rat} (X : RQ w s A n c A' n' c' v k) (Y : RQ w t B m d B' m' d' u k2) (hk : k ≤ 10000) (hk2 : k2 ≤ 10000) :
    Calls Tryz.prog 19 #[.agg #[.bool s, .slice A n c, .slice A' n' c'], .agg #[.bool t, .slice B m d, .slice B' m' d']] w (GivesRQ w (v + u) (k + k2 + 1)) := by
  have HE : Hid (mkRat (v.num * (u.den : Int) + u.num * (v.den : Int)) (v.den * u.den) = v + u) := by
    show _ = _
    conv => rhs; rw [parts_eq v, parts_eq u, mk_add v.den_nz u.den_nz]
  have H0 : Hid (v.den * u.den ≠ 0) := Nat.mul_ne_zero v.den_nz u.den_nz
  have HJ : Hid (v.den * u.den < B32 ^ (k + k2 + 1)) := by
    show _ < _
    have h1 := Nat.mul_lt_mul'' X.qn.lt Y.qn.lt
    rw [← Nat.pow_add] at h1
    exact Nat.lt_of_lt_of_le h1 (Nat.pow_le_pow_right (by decide) (by omega))
  have hfd := fld02
  go_enter Tryz.func19, Tryz.ntmps19
  go_wp2_with fail
  generalize hW : (((w.alloc (Obj.cells #[Value.bool s, Value.slice A n c, Value.slice A' n' c'] 34)).alloc (Obj.cells #[Value.bool t, Value.slice B m d, Value.slice B' m' d'] 34)).alloc (Obj.cells #[Value.bool false, Value.slice none 0 0, Value.slice none 0 0] 34)) = W
  have hb : Below w.heap.size w W := by subst hW; exact ((((Below.refl _ _).alloc (Nat.le_refl _) _).alloc (by simp) _).alloc (by simp; omega) _)
  have XA : B3R W (w.heap.size) (Value.bool s) (Value.slice A n c) (Value.slice A' n' c') := by subst hW; exact ((B3R.new' _ _ _ _ _ rfl).alloc _).alloc _
  have XB : B3R W (w.heap.size + 1) (Value.bool t) (Value.slice B m d) (Value.slice B' m' d') := by subst hW; exact (B3R.new' _ _ _ _ _ (by simp)).alloc _
  have Z : B3R W (w.heap.size + 1 + 1) (Value.bool false) (Value.slice none 0 0) (Value.slice none 0 0) := by subst hW; exact B3R.new' _ _ _ _ _ (by simp)
  have hzW : W.heap.size = w.heap.size + 3 := by subst hW; simp
  clear hW
  replace X := X.below hb
  replace Y := Y.below hb
  refine radd_region (by simp) rfl rfl XA XB X Y hk hk2 ?_
  intro V w_x g_x s_x A_x n_x c_x x XP hh hg_x hv5
  simp only [putAll, Act.put, List.setIfInBounds_toArray, List.set_cons_zero, List.set_cons_succ, hv5]
  clear hv5
  replace X := X.below hh
  replace Y := Y.below hh
  replace XA := XA.below hh
  replace XB := XB.below hh
  replace Z := Z.below hh
  replace hb := bend hb hh
  go_upto_region 2 with (fail)
  replace X := X.below (Below.refl _ _).drew
  replace Y := Y.below (Below.refl _ _).drew
  replace x := x.below (Below.refl _ _).drew
  replace XA := XA.below (Below.refl _ _).drew
  replace XB := XB.below (Below.refl _ _).drew
  replace XP := XP.below (Below.refl _ _).drew
  replace Z := Z.below (Below.refl _ _).drew
  replace hb := hb.drew
  go_region_held3 (fun w' => w'.cell? ⟨w.heap.size, 0, none⟩ = some (.bool s) ∧ w'.cell? ⟨w.heap.size, 1, none⟩ = some (.slice A n c) ∧ w'.cell? ⟨w.heap.size, 2, none⟩ = some (.slice A' n' c') ∧ w'.cell? ⟨w.heap.size + 1, 0, none⟩ = some (.bool t) ∧ w'.cell? ⟨w.heap.size + 1, 1, none⟩ = some (.slice B m d) ∧ w'.cell? ⟨w.heap.size + 1, 2, none⟩ = some (.slice B' m' d') ∧ w'.cell? ⟨g_x, 0, none⟩ = some (.bool s_x) ∧ w'.cell? ⟨g_x, 1, none⟩ = some (.slice A_x n_x c_x))
    (first | with_reducible exact ⟨XA.c0, XA.c1, XA.c2, XB.c0, XB.c1, XB.c2, XP.c0, XP.c1⟩ | with_reducible exact ⟨(set3_cell _ _ _ _ _ _ _ (by omega)).trans XA.c0, (set3_cell _ _ _ _ _ _ _ (by omega)).trans XA.c1, (set3_cell _ _ _ _ _ _ _ (by omega)).trans XA.c2, (set3_cell _ _ _ _ _ _ _ (by omega)).trans XB.c0, (set3_cell _ _ _ _ _ _ _ (by omega)).trans XB.c1, (set3_cell _ _ _ _ _ _ _ (by omega)).trans XB.c2, (set3_cell _ _ _ _ _ _ _ (by omega)).trans XP.c0, (set3_cell _ _ _ _ _ _ _ (by omega)).trans XP.c1⟩)
    (first
    | (go_at_call 77; (with_reducible refine (rden3 X).mono ?_); rintro e w_z ⟨rfl, hh⟩
       try replace X := X.below hh
       try replace Y := Y.below hh
       try replace x := x.below hh
       try replace y := y.below hh
       try replace r := r.below hh
       try replace XA := XA.below hh
       try replace XB := XB.below hh
       try replace XP := XP.below hh
       try replace Z := Z.below hh
       replace hb := bend hb hh)
    | (go_at_call 77; (with_reducible refine (rden3 Y).mono ?_); rintro e w_z ⟨rfl, hh⟩
       try replace X := X.below hh
       try replace Y := Y.below hh
       try replace x := x.below hh
       try replace y := y.below hh
       try replace r := r.below hh
       try replace XA := XA.below hh
       try replace XB := XB.below hh
       try replace XP := XP.below hh
       try replace Z := Z.below hh
       replace hb := bend hb hh)
    | (go_at_call 79; (with_reducible refine (rmul_rn (k + k2 + 1) X.qn Y.qn (by omega) (by omega) HJ.out).mono ?_); rintro e w_y ⟨A_y, n_y, c_y, rfl, y, hh⟩
       try replace X := X.below hh
       try replace Y := Y.below hh
       try replace x := x.below hh
       try replace r := r.below hh
       try replace XA := XA.below hh
       try replace XB := XB.below hh
       try replace XP := XP.below hh
       try replace Z := Z.below hh
       replace hb := bend hb hh)
    | (go_at_call 72; (with_reducible refine (made_rq x y (by omega) H0.out).mono ?_); rintro e w_r ⟨s_r, A_r, n_r, c_r, B_r, m_r, d_r, rfl, r, hh⟩
       rw [HE.out] at r
       try replace X := X.below hh
       try replace Y := Y.below hh
       try replace x := x.below hh
       try replace y := y.below hh
       try replace XA := XA.below hh
       try replace XB := XB.below hh
       try replace XP := XP.below hh
       try replace Z := Z.below hh
       replace hb := bend hb hh
       have zf0 := Z.f0
       have zf1 := Z.f1
       have zf2 := Z.f2
       have z0 := Z.c0
       have z1 := Z.c1
       have z2 := Z.c2))
  go_wp2_with fail
  have Z2 := Z.set3 (.bool s_r) (.slice A_r n_r c_r) (.slice B_r m_r d_r)
  have g0 := Z2.c0
  have g1 := Z2.c1
  have g2 := Z2.c2
  refine bodyPost_ret (v := .agg #[.bool s_r, .slice A_r n_r c_r, .slice B_r m_r d_r]) (by simp [results, Tryz.results19, go_sem, g0, g1, g2]) rfl ?_
  exact ⟨s_r, A_r, n_r, c_r, B_r, m_r, d_r, rfl, r.set3 Z _ _ _, below_set3 hb (by omega) _ _ _⟩

set_option maxRecDepth 100000 in
set_option maxHeartbeats 8000000 in
theorem rsub3 {w : World} {s t : Bool} {A A' B B' : Option Addr} {n c n' c' m d m' d' k k2 : Nat} {v u : Rat} (X : RQ w s A n c A' n' c' v k) (Y : RQ w t B m d B' m' d' u k2) (hk : k ≤ 10000) (hk2 : k2 ≤ 10000) :
    Calls Tryz.prog 21 #[.agg #[.bool s, .slice A n c, .slice A' n' c'], .agg #[.bool t, .slice B m d, .slice B' m' d']] w (GivesRQ w (v - u) (k + k2 + 1)) := by
  have HE : Hid (v + -u = v - u) := (Rat.sub_eq_add_neg v u).symm
  go_enter Tryz.func21, Tryz.ntmps21
  go_wp2_with fail
  generalize hW : (((w.alloc (Obj.cells #[Value.bool s, Value.slice A n c, Value.slice A' n' c'] 34)).alloc (Obj.cells #[Value.bool t, Value.slice B m d, Value.slice B' m' d'] 34)).alloc (Obj.cells #[Value.bool false, Value.slice none 0 0, Value.slice none 0 0] 34)) = W
  have hb : Below w.heap.size w W := by subst hW; exact ((((Below.refl _ _).alloc (Nat.le_refl _) _).alloc (by simp) _).alloc (by simp; omega) _)
  have XA : B3R W (w.heap.size) (Value.bool s) (Value.slice A n c) (Value.slice A' n' c') := by subst hW; exact ((B3R.new' _ _ _ _ _ rfl).alloc _).alloc _
  have XB : B3R W (w.heap.size + 1) (Value.bool t) (Value.slice B m d) (Value.slice B' m' d') := by subst hW; exact (B3R.new' _ _ _ _ _ (by simp)).alloc _
  have Z : B3R W (w.heap.size + 1 + 1) (Value.bool false) (Value.slice none 0 0) (Value.slice none 0 0) := by subst hW; exact B3R.new' _ _ _ _ _ (by simp)
  have hzW : W.heap.size = w.heap.size + 3 := by subst hW; simp
  clear hW
  replace X := X.below hb
  replace Y := Y.below hb
  replace X := X.below (Below.refl _ _).drew
  replace Y := Y.below (Below.refl _ _).drew
  replace XA := XA.below (Below.refl _ _).drew
  replace XB := XB.below (Below.refl _ _).drew
  replace Z := Z.below (Below.refl _ _).drew
  replace hb := hb.drew
  go_region_held3 (fun w' => w'.cell? ⟨w.heap.size, 0, none⟩ = some (.bool s) ∧ w'.cell? ⟨w.heap.size, 1, none⟩ = some (.slice A n c) ∧ w'.cell? ⟨w.heap.size, 2, none⟩ = some (.slice A' n' c') ∧ w'.cell? ⟨w.heap.size + 1, 0, none⟩ = some (.bool t) ∧ w'.cell? ⟨w.heap.size + 1, 1, none⟩ = some (.slice B m d) ∧ w'.cell? ⟨w.heap.size + 1, 2, none⟩ = some (.slice B' m' d'))
    (first | with_reducible exact ⟨XA.c0, XA.c1, XA.c2, XB.c0, XB.c1, XB.c2⟩ | with_reducible exact ⟨(set3_cell _ _ _ _ _ _ _ (by omega)).trans XA.c0, (set3_cell _ _ _ _ _ _ _ (by omega)).trans XA.c1, (set3_cell _ _ _ _ _ _ _ (by omega)).trans XA.c2, (set3_cell _ _ _ _ _ _ _ (by omega)).trans XB.c0, (set3_cell _ _ _ _ _ _ _ (by omega)).trans XB.c1, (set3_cell _ _ _ _ _ _ _ (by omega)).trans XB.c2⟩)
    (first
    | (go_at_call 28; (with_reducible refine (rminus3 Y).mono ?_); rintro e w_y ⟨s_y, A_y, n_y, c_y, B_y, m_y, d_y, rfl, y, hh⟩
       try replace X := X.below hh
       try replace Y := Y.below hh
       try replace r := r.below hh
       try replace XA := XA.below hh
       try replace XB := XB.below hh
       try replace Z := Z.below hh
       replace hb := bend hb hh)
    | (go_at_call 19; (with_reducible refine (radd3 X y hk hk2).mono ?_); rintro e w_r ⟨s_r, A_r, n_r, c_r, B_r, m_r, d_r, rfl, r, hh⟩
       rw [HE.out] at r
       try replace X := X.below hh
       try replace Y := Y.below hh
       try replace y := y.below hh
       try replace XA := XA.below hh
       try replace XB := XB.below hh
       try replace Z := Z.below hh
       replace hb := bend hb hh
       have zf0 := Z.f0
       have zf1 := Z.f1
       have zf2 := Z.f2
       have z0 := Z.c0
       have z1 := Z.c1
       have z2 := Z.c2))
  go_wp2_with fail
  have Z2 := Z.set3 (.bool s_r) (.slice A_r n_r c_r) (.slice B_r m_r d_r)
  have g0 := Z2.c0
  have g1 := Z2.c1
  have g2 := Z2.c2
  refine bodyPost_ret (v := .agg #[.bool s_r, .slice A_r n_r c_r, .slice B_r m_r d_r]) (by simp [results, Tryz.results21, go_sem, g0, g1, g2]) rfl ?_
  exact ⟨s_r, A_r, n_r, c_r, B_r, m_r, d_r, rfl, r.set3 Z _ _ _, below_set3 hb (by omega) _ _ _⟩
end Go.Proofs.YtmcijgnbdnpanaaGreat
