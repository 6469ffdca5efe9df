/- The law FixOrder: a greater fraction has no fewer parts, and no lesser byte; a number of parts more is so many more. -/
import Derived.Test.YtmcijgnbdnpanaaFixL
import Derived.Test.YtmcijgnbdnpanaaFlow
import Derived.Test.YtmcijgnbdnpanaaRootA
namespace Go.Proofs.Ytmcijgnbdnpanaa
open Go Go.RowKit

theorem rc_gesso_fix_From {e : Operand → Value} {x0 x1 : Operand} {d : Option Tmp} {y : Nat} {pos : String} {af : Array Edge} {w : World} {u0 u1 : Value} (h0 : e x0 = u0) (h1 : e x1 = u1) (hf : e (.func 20) = .func (.func 20) #[] #[]) :
    (execOp e { dst := d, op := Op.call { callee := Callee.value (Operand.func 20), args := #[x0, x1], argTypes := #[2, 2] }, type := y, pos := pos, after := af, guard := none }).run Try.prog w = .ok (.enter 20 #[u0, u1]) w := by
  go_simp
theorem rc_gesso_rat_Add {e : Operand → Value} {x0 x1 : Operand} {d : Option Tmp} {y : Nat} {pos : String} {af : Array Edge} {w : World} {u0 u1 : Value} (h0 : e x0 = u0) (h1 : e x1 = u1) (hf : e (.func 26) = .func (.func 26) #[] #[]) :
    (execOp e { dst := d, op := Op.call { callee := Callee.value (Operand.func 26), args := #[x0, x1], argTypes := #[26, 26] }, type := y, pos := pos, after := af, guard := none }).run Try.prog w = .ok (.enter 26 #[u0, u1]) w := by
  go_simp
theorem rc_gesso_fix_To {e : Operand → Value} {x0 x1 : Operand} {d : Option Tmp} {y : Nat} {pos : String} {af : Array Edge} {w : World} {u0 u1 : Value} (h0 : e x0 = u0) (h1 : e x1 = u1) (hf : e (.func 19) = .func (.func 19) #[] #[]) :
    (execOp e { dst := d, op := Op.call { callee := Callee.value (Operand.func 19), args := #[x0, x1], argTypes := #[26, 2] }, type := y, pos := pos, after := af, guard := none }).run Try.prog w = .ok (.enter 19 #[u0, u1]) w := by
  go_simp
theorem rc_gesso_zed_Sub {e : Operand → Value} {x0 x1 : Operand} {d : Option Tmp} {y : Nat} {pos : String} {af : Array Edge} {w : World} {u0 u1 : Value} (h0 : e x0 = u0) (h1 : e x1 = u1) (hf : e (.func 25) = .func (.func 25) #[] #[]) :
    (execOp e { dst := d, op := Op.call { callee := Callee.value (Operand.func 25), args := #[x0, x1], argTypes := #[24, 24] }, type := y, pos := pos, after := af, guard := none }).run Try.prog w = .ok (.enter 25 #[u0, u1]) w := by
  go_simp
def F_more (s : Bool) (A : Option Addr) (A' : Option Addr) (n : Nat) (c : Nat) (n' : Nat) (c' : Nat) (va : Rat) (q : Nat) (U : Int) (sl : Nat) : Value → World → Prop :=
  match sl with
  | 34 => fun x _ => x = Value.agg #[.bool s, .slice A n c, .slice A' n' c']
  | 35 => fun x _ => x = Value.int .i64 (q : Int)
  | 36 => fun x _ => x = Value.int .i64 U
  | 37 => VQ (Rat.divInt (q : Int) U) (1)
  | 38 => VQ (va + Rat.divInt (q : Int) U) (12 + 1 + 1)
  | 39 => fun x _ => x = Value.int .i64 U
  | 40 => VZG (toQ (va + Rat.divInt (q : Int) U) U) (12 + 1 + 1 + 4)
  | 41 => fun x _ => x = Value.agg #[.bool s, .slice A n c, .slice A' n' c']
  | 42 => fun x _ => x = Value.int .i64 U
  | 43 => VZG (toQ va U) (12 + 4)
  | 44 => VZG (toQ (va + Rat.divInt (q : Int) U) U - toQ va U) (19)
  | _ => fun _ _ => True
set_option maxRecDepth 100000 in
set_option maxHeartbeats 4000000 in
theorem more_region {id : Nat} {ac : Act} {w : World} {Q : Exit → Act → World → Prop} {s : Bool} {A A' : Option Addr} {n c n' c' g1 : Nat} {va : Rat} {q : Nat} {U : Int}
    (hsz : 44 < ac.tmps.size) (e3 : ac.eval (.tmp 3) = Value.pointer (some ⟨g1, 0, none⟩)) (e8 : ac.eval (.tmp 8) = Value.int .i64 (q : Int)) (e7 : ac.eval (.tmp 7) = Value.int .i64 U) (XA : B3 w g1 (.bool s) (.slice A n c) (.slice A' n' c')) (a : QR w s A n c A' n' c' va 12) (hu1 : 1 ≤ U) (hu2 : U < 9223372036854775808) (hq1 : -9223372036854775808 ≤ (q : Int)) (hq2 : (q : Int) < 9223372036854775808)
    (hend : ∀ (V : Nat → Value) (w' : World) (g : Nat) (s : Bool) (A : Option Addr) (n c : Nat), ZG w' s A n c (toQ (va + Rat.divInt (q : Int) U) U - toQ va U) (19) → Bx w' g (.bool s) (.slice A n c) → Below w.heap.size w w' → w.heap.size ≤ g → V 9 = .pointer (some ⟨g, 0, none⟩) → Q .normal (putAll ac [34, 35, 36, 37, 38, 39, 40, 41, 42, 43, 44, 9] V) w') :
    (Code.region id #[{ dst := some 34, op := Op.load 26 (Operand.tmp 3), type := 26, pos := "law.go:54", after := #[], guard := none },
      { dst := some 35, op := Op.move (Operand.tmp 8), type := 2, pos := "law.go:54", after := #[], guard := none },
      { dst := some 36, op := Op.move (Operand.tmp 7), type := 2, pos := "law.go:54", after := #[], guard := none },
      { dst := some 37, op := Op.call { callee := Callee.value (Operand.func 20), args := #[Operand.tmp 35, Operand.tmp 36], argTypes := #[2, 2] }, type := 26, pos := "law.go:54", after := #[{ on := 1, ground := Ground.data }, { on := 2, ground := Ground.data }], guard := none },
      { dst := some 38, op := Op.call { callee := Callee.value (Operand.func 26), args := #[Operand.tmp 34, Operand.tmp 37], argTypes := #[26, 26] }, type := 26, pos := "law.go:54", after := #[{ on := 0, ground := Ground.data }, { on := 3, ground := Ground.data }, { on := 3, ground := Ground.chain }], guard := none },
      { dst := some 39, op := Op.move (Operand.tmp 7), type := 2, pos := "law.go:54", after := #[], guard := none },
      { dst := some 40, op := Op.call { callee := Callee.value (Operand.func 19), args := #[Operand.tmp 38, Operand.tmp 39], argTypes := #[26, 2] }, type := 24, pos := "law.go:54", after := #[{ on := 4, ground := Ground.data }, { on := 5, ground := Ground.data }, { on := 4, ground := Ground.chain }], guard := none },
      { dst := some 41, op := Op.load 26 (Operand.tmp 3), type := 26, pos := "law.go:54", after := #[], guard := none },
      { dst := some 42, op := Op.move (Operand.tmp 7), type := 2, pos := "law.go:54", after := #[], guard := none },
      { dst := some 43, op := Op.call { callee := Callee.value (Operand.func 19), args := #[Operand.tmp 41, Operand.tmp 42], argTypes := #[26, 2] }, type := 24, pos := "law.go:54", after := #[{ on := 7, ground := Ground.data }, { on := 8, ground := Ground.data }, { on := 6, ground := Ground.chain }], guard := none },
      { dst := some 44, op := Op.call { callee := Callee.value (Operand.func 25), args := #[Operand.tmp 40, Operand.tmp 43], argTypes := #[24, 24] }, type := 24, pos := "law.go:54", after := #[{ on := 6, ground := Ground.data }, { on := 9, ground := Ground.data }, { on := 9, ground := Ground.chain }], guard := none },
      { dst := some 9, op := Op.alloc 24, type := 0, pos := "law.go:54", after := #[], guard := none },
      { dst := none, op := Op.store 24 (Operand.tmp 9) (Operand.tmp 44), type := 0, pos := "law.go:54", after := #[{ on := 11, ground := Ground.data }, { on := 10, ground := Ground.data }, { on := 10, ground := Ground.chain }, { on := 0, ground := Ground.phase }, { on := 1, ground := Ground.phase }, { on := 2, ground := Ground.phase }, { on := 3, ground := Ground.phase }, { on := 4, ground := Ground.phase }, { on := 5, ground := Ground.phase }, { on := 6, ground := Ground.phase }, { on := 7, ground := Ground.phase }, { on := 8, ground := Ground.phase }, { on := 9, ground := Ground.phase }, { on := 10, ground := Ground.phase }, { on := 11, ground := Ground.phase }], guard := none }] true).wp Try.prog Q ac w := by
  have hnd : ([34, 35, 36, 37, 38, 39, 40, 41, 42, 43, 44, 9] : List Nat).Nodup := by decide
  have G : ∀ (v : Nat → Value) (t : Nat), t ∈ ([34, 35, 36, 37, 38, 39, 40, 41, 42, 43, 44, 9] : List Nat) → t ≤ 44 → (putAll ac [34, 35, 36, 37, 38, 39, 40, 41, 42, 43, 44, 9] v).eval (.tmp t) = v t := fun v t ht h => eval_putAll_mem (t := t) [34, 35, 36, 37, 38, 39, 40, 41, 42, 43, 44, 9] ac hnd ht (Nat.lt_of_le_of_lt h hsz)
  have E3 : ∀ v : Nat → Value, (putAll ac [34, 35, 36, 37, 38, 39, 40, 41, 42, 43, 44, 9] v).eval (.tmp 3) = Value.pointer (some ⟨g1, 0, none⟩) := fun v => (eval_putAll_not (v := v) [34, 35, 36, 37, 38, 39, 40, 41, 42, 43, 44, 9] ac (show 3 ∉ _ by decide)).trans e3
  have E8 : ∀ v : Nat → Value, (putAll ac [34, 35, 36, 37, 38, 39, 40, 41, 42, 43, 44, 9] v).eval (.tmp 8) = Value.int .i64 (q : Int) := fun v => (eval_putAll_not (v := v) [34, 35, 36, 37, 38, 39, 40, 41, 42, 43, 44, 9] ac (show 8 ∉ _ by decide)).trans e8
  have E7 : ∀ v : Nat → Value, (putAll ac [34, 35, 36, 37, 38, 39, 40, 41, 42, 43, 44, 9] v).eval (.tmp 7) = Value.int .i64 U := fun v => (eval_putAll_not (v := v) [34, 35, 36, 37, 38, 39, 40, 41, 42, 43, 44, 9] ac (show 7 ∉ _ by decide)).trans e7
  refine wp_region_flow 24 #[.bool false, .slice none 0 0] [34, 35, 36, 37, 38, 39, 40, 41, 42, 43, 44, 9] 11 12 9 ({ dst := some 9, op := Op.alloc 24, type := 0, pos := "law.go:54", after := #[], guard := none }) ({ dst := none, op := Op.store 24 (Operand.tmp 9) (Operand.tmp 44), type := 0, pos := "law.go:54", after := #[{ on := 11, ground := Ground.data }, { on := 10, ground := Ground.data }, { on := 10, ground := Ground.chain }, { on := 0, ground := Ground.phase }, { on := 1, ground := Ground.phase }, { on := 2, ground := Ground.phase }, { on := 3, ground := Ground.phase }, { on := 4, ground := Ground.phase }, { on := 5, ground := Ground.phase }, { on := 6, ground := Ground.phase }, { on := 7, ground := Ground.phase }, { on := 8, ground := Ground.phase }, { on := 9, ground := Ground.phase }, { on := 10, ground := Ground.phase }, { on := 11, ground := Ground.phase }], guard := none }) (F_more s A A' n c n' c' va q U) (fun cs w => ∃ s A n c, cs = #[.bool s, .slice A n c] ∧ ZG w s A n c (toQ (va + Rat.divInt (q : Int) U) U - toQ va U) (19)) (by kernel_rfl) (by kernel_rfl) rfl hnd rfl rfl rfl rfl ?_ rfl rfl ⟨{ on := 11, ground := Ground.data }, by simp, rfl, rfl⟩ ?_ (free2 _ _ _ _) (fun e w' => run_allocI) ?_ ?_ ?_ ?_
  · intro i o h1 h2
    match i, h1 with
    | 0, h1 => cases h1; cases h2
    | 1, h1 => cases h1; cases h2
    | 2, h1 => cases h1; cases h2
    | 3, h1 => cases h1; cases h2
    | 4, h1 => cases h1; cases h2
    | 5, h1 => cases h1; cases h2
    | 6, h1 => cases h1; cases h2
    | 7, h1 => cases h1; cases h2
    | 8, h1 => cases h1; cases h2
    | 9, h1 => cases h1; cases h2
    | 10, h1 => cases h1; cases h2
    | 11, h1 => cases h1; cases h2
    | 12, h1 => cases h1; rfl
    | i + 13, h1 => cases h1
  · intro t
    unfold F_more
    split <;> first | exact stays_eq _ | exact stays_q _ _ | exact stays_z _ _ | exact stays_qe _ _ | exact stays_qs _ _ | exact stays_true
  · intro i o t v w' ho hia hd J0 hf
    have a := a.below J0
    have XA := XA.below J0
    match i, ho with
    | 0, ho =>
      obtain rfl : { dst := some 34, op := Op.load 26 (Operand.tmp 3), type := 26, pos := "law.go:54", after := #[], guard := none } = o := Option.some.inj ho
      cases hd
      refine wpOp_plain' (o := { dst := some 34, op := Op.load 26 (Operand.tmp 3), type := 26, pos := "law.go:54", after := #[], guard := none }) rfl rfl ?_
      unfold Oper.wp
      rw [run_loadQ (E3 v) XA.c0 XA.c1 XA.c2, Oper.upon_value]
      exact ⟨_, rfl, Below.refl _ _, rfl⟩
    | 1, ho =>
      obtain rfl : { dst := some 35, op := Op.move (Operand.tmp 8), type := 2, pos := "law.go:54", after := #[], guard := none } = o := Option.some.inj ho
      cases hd
      refine wpOp_plain' (o := { dst := some 35, op := Op.move (Operand.tmp 8), type := 2, pos := "law.go:54", after := #[], guard := none }) rfl rfl ?_
      unfold Oper.wp
      rw [run_move (E8 v), Oper.upon_value]
      exact ⟨_, rfl, Below.refl _ _, rfl⟩
    | 2, ho =>
      obtain rfl : { dst := some 36, op := Op.move (Operand.tmp 7), type := 2, pos := "law.go:54", after := #[], guard := none } = o := Option.some.inj ho
      cases hd
      refine wpOp_plain' (o := { dst := some 36, op := Op.move (Operand.tmp 7), type := 2, pos := "law.go:54", after := #[], guard := none }) rfl rfl ?_
      unfold Oper.wp
      rw [run_move (E7 v), Oper.upon_value]
      exact ⟨_, rfl, Below.refl _ _, rfl⟩
    | 3, ho =>
      obtain rfl : { dst := some 37, op := Op.call { callee := Callee.value (Operand.func 20), args := #[Operand.tmp 35, Operand.tmp 36], argTypes := #[2, 2] }, type := 26, pos := "law.go:54", after := #[{ on := 1, ground := Ground.data }, { on := 2, ground := Ground.data }], guard := none } = o := Option.some.inj ho
      cases hd
      have f35 : v 35 = Value.int .i64 (q : Int) := hf { on := 1, ground := Ground.data } (by simp) rfl _ 35 rfl rfl (by decide)
      have f36 : v 36 = Value.int .i64 U := hf { on := 2, ground := Ground.data } (by simp) rfl _ 36 rfl rfl (by decide)
      refine wpOp_plain' (o := { dst := some 37, op := Op.call { callee := Callee.value (Operand.func 20), args := #[Operand.tmp 35, Operand.tmp 36], argTypes := #[2, 2] }, type := 26, pos := "law.go:54", after := #[{ on := 1, ground := Ground.data }, { on := 2, ground := Ground.data }], guard := none }) rfl rfl ?_
      unfold Oper.wp
      rw [rc_gesso_fix_From ((G v 35 (by decide) (by decide)).trans f35) ((G v 36 (by decide) (by decide)).trans f36) rfl, Oper.upon_enter]
      refine (from_q (q : Int) U hu1 hu2 hq1 hq2 _).mono ?_
      rintro e w1 ⟨s1, A1, n1, c1, B1, m1, d1, rfl, hq, hh⟩
      exact ⟨_, rfl, hh, s1, A1, n1, c1, B1, m1, d1, rfl, hq⟩
    | 4, ho =>
      obtain rfl : { dst := some 38, op := Op.call { callee := Callee.value (Operand.func 26), args := #[Operand.tmp 34, Operand.tmp 37], argTypes := #[26, 26] }, type := 26, pos := "law.go:54", after := #[{ on := 0, ground := Ground.data }, { on := 3, ground := Ground.data }, { on := 3, ground := Ground.chain }], guard := none } = o := Option.some.inj ho
      cases hd
      have f34 : v 34 = Value.agg #[.bool s, .slice A n c, .slice A' n' c'] := hf { on := 0, ground := Ground.data } (by simp) rfl _ 34 rfl rfl (by decide)
      have h37 : VQ (Rat.divInt (q : Int) U) (1) (v 37) w' := hf { on := 3, ground := Ground.data } (by simp) rfl _ 37 rfl rfl (by decide)
      obtain ⟨s37, A37, n37, c37, B37, m37, d37, f37, q37⟩ := h37
      refine wpOp_plain' (o := { dst := some 38, op := Op.call { callee := Callee.value (Operand.func 26), args := #[Operand.tmp 34, Operand.tmp 37], argTypes := #[26, 26] }, type := 26, pos := "law.go:54", after := #[{ on := 0, ground := Ground.data }, { on := 3, ground := Ground.data }, { on := 3, ground := Ground.chain }], guard := none }) rfl rfl ?_
      unfold Oper.wp
      rw [rc_gesso_rat_Add ((G v 34 (by decide) (by decide)).trans f34) ((G v 37 (by decide) (by decide)).trans f37) rfl, Oper.upon_enter]
      refine (radd_q a q37.qr (by decide) (by decide) (by decide) (by decide) (by decide)).mono ?_
      rintro e w1 ⟨s1, A1, n1, c1, B1, m1, d1, rfl, hq, hh⟩
      exact ⟨_, rfl, hh, s1, A1, n1, c1, B1, m1, d1, rfl, hq⟩
    | 5, ho =>
      obtain rfl : { dst := some 39, op := Op.move (Operand.tmp 7), type := 2, pos := "law.go:54", after := #[], guard := none } = o := Option.some.inj ho
      cases hd
      refine wpOp_plain' (o := { dst := some 39, op := Op.move (Operand.tmp 7), type := 2, pos := "law.go:54", after := #[], guard := none }) rfl rfl ?_
      unfold Oper.wp
      rw [run_move (E7 v), Oper.upon_value]
      exact ⟨_, rfl, Below.refl _ _, rfl⟩
    | 6, ho =>
      obtain rfl : { dst := some 40, op := Op.call { callee := Callee.value (Operand.func 19), args := #[Operand.tmp 38, Operand.tmp 39], argTypes := #[26, 2] }, type := 24, pos := "law.go:54", after := #[{ on := 4, ground := Ground.data }, { on := 5, ground := Ground.data }, { on := 4, ground := Ground.chain }], guard := none } = o := Option.some.inj ho
      cases hd
      have h38 : VQ (va + Rat.divInt (q : Int) U) (12 + 1 + 1) (v 38) w' := hf { on := 4, ground := Ground.data } (by simp) rfl _ 38 rfl rfl (by decide)
      obtain ⟨s38, A38, n38, c38, B38, m38, d38, f38, q38⟩ := h38
      have f39 : v 39 = Value.int .i64 U := hf { on := 5, ground := Ground.data } (by simp) rfl _ 39 rfl rfl (by decide)
      refine wpOp_plain' (o := { dst := some 40, op := Op.call { callee := Callee.value (Operand.func 19), args := #[Operand.tmp 38, Operand.tmp 39], argTypes := #[26, 2] }, type := 24, pos := "law.go:54", after := #[{ on := 4, ground := Ground.data }, { on := 5, ground := Ground.data }, { on := 4, ground := Ground.chain }], guard := none }) rfl rfl ?_
      unfold Oper.wp
      rw [rc_gesso_fix_To ((G v 38 (by decide) (by decide)).trans f38) ((G v 39 (by decide) (by decide)).trans f39) rfl, Oper.upon_enter]
      refine (to_q U q38.qr (by decide) (by decide) hu1 hu2).mono ?_
      rintro e w1 ⟨s1, A1, n1, c1, rfl, hq, hh⟩
      exact ⟨_, rfl, hh, s1, A1, n1, c1, rfl, hq⟩
    | 7, ho =>
      obtain rfl : { dst := some 41, op := Op.load 26 (Operand.tmp 3), type := 26, pos := "law.go:54", after := #[], guard := none } = o := Option.some.inj ho
      cases hd
      refine wpOp_plain' (o := { dst := some 41, op := Op.load 26 (Operand.tmp 3), type := 26, pos := "law.go:54", after := #[], guard := none }) rfl rfl ?_
      unfold Oper.wp
      rw [run_loadQ (E3 v) XA.c0 XA.c1 XA.c2, Oper.upon_value]
      exact ⟨_, rfl, Below.refl _ _, rfl⟩
    | 8, ho =>
      obtain rfl : { dst := some 42, op := Op.move (Operand.tmp 7), type := 2, pos := "law.go:54", after := #[], guard := none } = o := Option.some.inj ho
      cases hd
      refine wpOp_plain' (o := { dst := some 42, op := Op.move (Operand.tmp 7), type := 2, pos := "law.go:54", after := #[], guard := none }) rfl rfl ?_
      unfold Oper.wp
      rw [run_move (E7 v), Oper.upon_value]
      exact ⟨_, rfl, Below.refl _ _, rfl⟩
    | 9, ho =>
      obtain rfl : { dst := some 43, op := Op.call { callee := Callee.value (Operand.func 19), args := #[Operand.tmp 41, Operand.tmp 42], argTypes := #[26, 2] }, type := 24, pos := "law.go:54", after := #[{ on := 7, ground := Ground.data }, { on := 8, ground := Ground.data }, { on := 6, ground := Ground.chain }], guard := none } = o := Option.some.inj ho
      cases hd
      have f41 : v 41 = Value.agg #[.bool s, .slice A n c, .slice A' n' c'] := hf { on := 7, ground := Ground.data } (by simp) rfl _ 41 rfl rfl (by decide)
      have f42 : v 42 = Value.int .i64 U := hf { on := 8, ground := Ground.data } (by simp) rfl _ 42 rfl rfl (by decide)
      refine wpOp_plain' (o := { dst := some 43, op := Op.call { callee := Callee.value (Operand.func 19), args := #[Operand.tmp 41, Operand.tmp 42], argTypes := #[26, 2] }, type := 24, pos := "law.go:54", after := #[{ on := 7, ground := Ground.data }, { on := 8, ground := Ground.data }, { on := 6, ground := Ground.chain }], guard := none }) rfl rfl ?_
      unfold Oper.wp
      rw [rc_gesso_fix_To ((G v 41 (by decide) (by decide)).trans f41) ((G v 42 (by decide) (by decide)).trans f42) rfl, Oper.upon_enter]
      refine (to_q U a (by decide) (by decide) hu1 hu2).mono ?_
      rintro e w1 ⟨s1, A1, n1, c1, rfl, hq, hh⟩
      exact ⟨_, rfl, hh, s1, A1, n1, c1, rfl, hq⟩
    | 10, ho =>
      obtain rfl : { dst := some 44, op := Op.call { callee := Callee.value (Operand.func 25), args := #[Operand.tmp 40, Operand.tmp 43], argTypes := #[24, 24] }, type := 24, pos := "law.go:54", after := #[{ on := 6, ground := Ground.data }, { on := 9, ground := Ground.data }, { on := 9, ground := Ground.chain }], guard := none } = o := Option.some.inj ho
      cases hd
      have h40 : VZG (toQ (va + Rat.divInt (q : Int) U) U) (12 + 1 + 1 + 4) (v 40) w' := hf { on := 6, ground := Ground.data } (by simp) rfl _ 40 rfl rfl (by decide)
      obtain ⟨s40, A40, n40, c40, f40, q40⟩ := h40
      have h43 : VZG (toQ va U) (12 + 4) (v 43) w' := hf { on := 9, ground := Ground.data } (by simp) rfl _ 43 rfl rfl (by decide)
      obtain ⟨s43, A43, n43, c43, f43, q43⟩ := h43
      refine wpOp_plain' (o := { dst := some 44, op := Op.call { callee := Callee.value (Operand.func 25), args := #[Operand.tmp 40, Operand.tmp 43], argTypes := #[24, 24] }, type := 24, pos := "law.go:54", after := #[{ on := 6, ground := Ground.data }, { on := 9, ground := Ground.data }, { on := 9, ground := Ground.chain }], guard := none }) rfl rfl ?_
      unfold Oper.wp
      rw [rc_gesso_zed_Sub ((G v 40 (by decide) (by decide)).trans f40) ((G v 43 (by decide) (by decide)).trans f43) rfl, Oper.upon_enter]
      refine (zsub_zg 19 q40.zr q43.zr (by decide) (by decide) (by decide)).mono ?_
      rintro e w1 ⟨s1, A1, n1, c1, rfl, hq, hh⟩
      exact ⟨_, rfl, hh, s1, A1, n1, c1, rfl, hq⟩
    | 11, ho => exact absurd rfl hia
    | 12, ho => cases ho; cases hd
    | i + 13, ho => cases ho
  · intro v w' g J0 p1 p3 hf
    have h1 : VZG (toQ (va + Rat.divInt (q : Int) U) U - toQ va U) (19) (v 44) w' := hf { on := 10, ground := Ground.data } (by simp) rfl _ 44 rfl rfl (by decide)
    rw [← G v 44 (by decide) (by decide)] at h1
    refine store_z (V := toQ (va + Rat.divInt (q : Int) U) U - toQ va U) (k := 19) (ac := putAll ac [34, 35, 36, 37, 38, 39, 40, 41, 42, 43, 44, 9] v) (z := Operand.tmp 44) ?_ ?_ ?_
    · exact (G v 9 (by decide) (by decide)).trans p1
    · exact h1
    · exact p3
  · rintro cs w1 w2 ⟨s1, A1, n1, c1, h1, h2⟩ hb
    exact ⟨s1, A1, n1, c1, h1, h2.below hb⟩
  · rintro v w' g cs J0 hF p1 p2 p3 ⟨s1, A1, n1, c1, h1, h2⟩
    subst h1
    exact hend v w' g _ _ _ _ h2 p3.at_ J0 p2 p1 

set_option maxRecDepth 100000 in
set_option maxHeartbeats 4000000 in
theorem order_l1 {w : World} {s t : Bool} {A A' B B' : Option Addr} {n c n' c' m d m' d' : Nat} (p q : Nat) (hl1 : decide (n ≤ 12 ∧ n' ≤ 12) = false) :
    Calls Try.prog 6 #[.agg #[.bool s, .slice A n c, .slice A' n' c'], .agg #[.bool t, .slice B m d, .slice B' m' d'], .agg #[.int .u16 (p : Int), .int .u16 (q : Int)]] w fun e w' => e = .returned (.bool true) ∧ Below w.heap.size w w' := by
  have HL1 := Lib.hid hl1
  clear hl1
  go_enter Try.func6, Try.ntmps6
  go_wp2_with fail
  generalize hW : (((w.alloc (Obj.cells #[Value.bool s, Value.slice A n c, Value.slice A' n' c'] 26)).alloc (Obj.cells #[Value.bool t, Value.slice B m d, Value.slice B' m' d'] 26)).alloc (Obj.cells #[Value.int .u16 (p : Int), Value.int .u16 (q : Int)] 42)) = W
  have hb : Below w.heap.size w W := by subst hW; exact ((((Below.refl _ _).alloc (Nat.le_refl _) _).alloc (by simp) _).alloc (by simp; omega) _)
  have XA : B3 W (w.heap.size) (Value.bool s) (Value.slice A n c) (Value.slice A' n' c') := by subst hW; exact ((B3.new' _ _ _ _ _ rfl).alloc _).alloc _
  have XB : B3 W (w.heap.size + 1) (Value.bool t) (Value.slice B m d) (Value.slice B' m' d') := by subst hW; exact (B3.new' _ _ _ _ _ (by simp)).alloc _
  have XW : Bw W (w.heap.size + 1 + 1) (Value.int .u16 (p : Int)) (Value.int .u16 (q : Int)) := by subst hW; exact Bw.new' _ _ _ _ (by simp)
  have hzW : W.heap.size = w.heap.size + 3 := by subst hW; simp
  clear hW
  have xa0 := XA.c0
  have xa1 := XA.c1
  have xa2 := XA.c2
  have xb0 := XB.c0
  have xb1 := XB.c1
  have xb2 := XB.c2
  go_wp2_with (first
      | (go_at_call 7; (with_reducible refine (small_k (s := s) (A := A) (A' := A') (n := n) (c := c) (n' := n') (c' := c') _ false HL1.out).mono ?_); rintro e w_z ⟨rfl, hh⟩
         try replace a := a.below hh
         try replace b := b.below hh
         try replace XA := XA.below hh
         try replace XB := XB.below hh
         try replace XW := XW.below hh
         replace hb := bend hb hh
         have xa0 := XA.c0
         have xa1 := XA.c1
         have xa2 := XA.c2
         have xb0 := XB.c0
         have xb1 := XB.c1
         have xb2 := XB.c2)
      | (go_at_call 17; (with_reducible refine (fwakes_any _).mono ?_); rintro e w_z ⟨rfl, hh⟩
         try replace a := a.below hh
         try replace b := b.below hh
         try replace XA := XA.below hh
         try replace XB := XB.below hh
         try replace XW := XW.below hh
         replace hb := bend hb hh))
  go_ret
  exact ⟨rfl, hb⟩

set_option maxRecDepth 100000 in
set_option maxHeartbeats 4000000 in
theorem order_l2 {w : World} {s t : Bool} {A A' B B' : Option Addr} {n c n' c' m d m' d' : Nat} (p q : Nat) (hl1 : decide (n ≤ 12 ∧ n' ≤ 12) = true) (hl2 : decide (m ≤ 12 ∧ m' ≤ 12) = false) :
    Calls Try.prog 6 #[.agg #[.bool s, .slice A n c, .slice A' n' c'], .agg #[.bool t, .slice B m d, .slice B' m' d'], .agg #[.int .u16 (p : Int), .int .u16 (q : Int)]] w fun e w' => e = .returned (.bool true) ∧ Below w.heap.size w w' := by
  have HL1 := Lib.hid hl1
  clear hl1
  have HL2 := Lib.hid hl2
  clear hl2
  go_enter Try.func6, Try.ntmps6
  go_wp2_with fail
  generalize hW : (((w.alloc (Obj.cells #[Value.bool s, Value.slice A n c, Value.slice A' n' c'] 26)).alloc (Obj.cells #[Value.bool t, Value.slice B m d, Value.slice B' m' d'] 26)).alloc (Obj.cells #[Value.int .u16 (p : Int), Value.int .u16 (q : Int)] 42)) = W
  have hb : Below w.heap.size w W := by subst hW; exact ((((Below.refl _ _).alloc (Nat.le_refl _) _).alloc (by simp) _).alloc (by simp; omega) _)
  have XA : B3 W (w.heap.size) (Value.bool s) (Value.slice A n c) (Value.slice A' n' c') := by subst hW; exact ((B3.new' _ _ _ _ _ rfl).alloc _).alloc _
  have XB : B3 W (w.heap.size + 1) (Value.bool t) (Value.slice B m d) (Value.slice B' m' d') := by subst hW; exact (B3.new' _ _ _ _ _ (by simp)).alloc _
  have XW : Bw W (w.heap.size + 1 + 1) (Value.int .u16 (p : Int)) (Value.int .u16 (q : Int)) := by subst hW; exact Bw.new' _ _ _ _ (by simp)
  have hzW : W.heap.size = w.heap.size + 3 := by subst hW; simp
  clear hW
  have xa0 := XA.c0
  have xa1 := XA.c1
  have xa2 := XA.c2
  have xb0 := XB.c0
  have xb1 := XB.c1
  have xb2 := XB.c2
  go_wp2_with (first
      | (go_at_call 7; (with_reducible refine (small_k (s := s) (A := A) (A' := A') (n := n) (c := c) (n' := n') (c' := c') _ true HL1.out).mono ?_); rintro e w_z ⟨rfl, hh⟩
         try replace a := a.below hh
         try replace b := b.below hh
         try replace XA := XA.below hh
         try replace XB := XB.below hh
         try replace XW := XW.below hh
         replace hb := bend hb hh
         have xa0 := XA.c0
         have xa1 := XA.c1
         have xa2 := XA.c2
         have xb0 := XB.c0
         have xb1 := XB.c1
         have xb2 := XB.c2)
      | (go_at_call 7; (with_reducible refine (small_k (s := t) (A := B) (A' := B') (n := m) (c := d) (n' := m') (c' := d') _ false HL2.out).mono ?_); rintro e w_z ⟨rfl, hh⟩
         try replace a := a.below hh
         try replace b := b.below hh
         try replace XA := XA.below hh
         try replace XB := XB.below hh
         try replace XW := XW.below hh
         replace hb := bend hb hh
         have xa0 := XA.c0
         have xa1 := XA.c1
         have xa2 := XA.c2
         have xb0 := XB.c0
         have xb1 := XB.c1
         have xb2 := XB.c2)
      | (go_at_call 17; (with_reducible refine (fwakes_any _).mono ?_); rintro e w_z ⟨rfl, hh⟩
         try replace a := a.below hh
         try replace b := b.below hh
         try replace XA := XA.below hh
         try replace XB := XB.below hh
         try replace XW := XW.below hh
         replace hb := bend hb hh))
  go_ret
  exact ⟨rfl, hb⟩

set_option maxRecDepth 100000 in
set_option maxHeartbeats 16000000 in
theorem order_fix {w : World} {s t : Bool} {A A' B B' : Option Addr} {n c n' c' m d m' d' : Nat} {va vb : Rat} (p q : Nat) (U : Int) (a : QR w s A n c A' n' c' va 12) (b : QR w t B m d B' m' d' vb 12) (hp : p < 65536) (hq : q < 65536) (hl1 : decide (n ≤ 12 ∧ n' ≤ 12) = true) (hl2 : decide (m ≤ 12 ∧ m' ≤ 12) = true) (hU : (p : Int) + 1 = U) :
    Calls Try.prog 6 #[.agg #[.bool s, .slice A n c, .slice A' n' c'], .agg #[.bool t, .slice B m d, .slice B' m' d'], .agg #[.int .u16 (p : Int), .int .u16 (q : Int)]] w fun e w' => e = .returned (.bool true) ∧ Below w.heap.size w w' := by
  have HL1 := Lib.hid hl1
  have HL2 := Lib.hid hl2
  have hU1 : 1 ≤ U := by omega
  have hUm : U < 9223372036854775808 := by omega
  have hq1 : -9223372036854775808 ≤ (q : Int) := by omega
  have hq2 : (q : Int) < 9223372036854775808 := by omega
  have hfq : fitsB (q : Int) = true := by unfold fitsB; simp; omega
  have H1 := Lib.hid hU1
  have H2 := Lib.hid hUm
  have H3 := Lib.hid hq1
  have H4 := Lib.hid hq2
  have HF := Lib.hid hfq
  have hpw : IntKind.i64.wrap (p : Int) = (p : Int) := IntWalk.i64_in _ (by omega)
  have hqw : IntKind.i64.wrap (q : Int) = (q : Int) := IntWalk.i64_in _ (by omega)
  have hUw : IntKind.i64.wrap ((p : Int) + 1) = U := (IntWalk.i64_in _ (by omega)).trans hU
  have HPW := Lib.hid hpw
  have HQW := Lib.hid hqw
  have HUW := Lib.hid hUw
  clear hpw hqw hUw hp hq hU
  clear hl1 hl2 hU1 hUm hq1 hq2 hfq
  go_enter Try.func6, Try.ntmps6
  go_wp2_with fail
  generalize hW : (((w.alloc (Obj.cells #[Value.bool s, Value.slice A n c, Value.slice A' n' c'] 26)).alloc (Obj.cells #[Value.bool t, Value.slice B m d, Value.slice B' m' d'] 26)).alloc (Obj.cells #[Value.int .u16 (p : Int), Value.int .u16 (q : Int)] 42)) = W
  have hb : Below w.heap.size w W := by subst hW; exact ((((Below.refl _ _).alloc (Nat.le_refl _) _).alloc (by simp) _).alloc (by simp; omega) _)
  have XA : B3 W (w.heap.size) (Value.bool s) (Value.slice A n c) (Value.slice A' n' c') := by subst hW; exact ((B3.new' _ _ _ _ _ rfl).alloc _).alloc _
  have XB : B3 W (w.heap.size + 1) (Value.bool t) (Value.slice B m d) (Value.slice B' m' d') := by subst hW; exact (B3.new' _ _ _ _ _ (by simp)).alloc _
  have XW : Bw W (w.heap.size + 1 + 1) (Value.int .u16 (p : Int)) (Value.int .u16 (q : Int)) := by subst hW; exact Bw.new' _ _ _ _ (by simp)
  have hzW : W.heap.size = w.heap.size + 3 := by subst hW; simp
  clear hW
  replace a := a.below hb
  replace b := b.below hb
  have xa0 := XA.c0
  have xa1 := XA.c1
  have xa2 := XA.c2
  have xb0 := XB.c0
  have xb1 := XB.c1
  have xb2 := XB.c2
  have xw0 := XW.c0
  have xw1 := XW.c1
  go_upto_region 3 with (first
      | (go_at_call 7; (with_reducible refine (small_k (s := s) (A := A) (A' := A') (n := n) (c := c) (n' := n') (c' := c') _ true HL1.out).mono ?_); rintro e w_z ⟨rfl, hh⟩
         try replace a := a.below hh
         try replace b := b.below hh
         try replace XA := XA.below hh
         try replace XB := XB.below hh
         try replace XW := XW.below hh
         replace hb := bend hb hh
         have xa0 := XA.c0
         have xa1 := XA.c1
         have xa2 := XA.c2
         have xb0 := XB.c0
         have xb1 := XB.c1
         have xb2 := XB.c2)
      | (go_at_call 7; (with_reducible refine (small_k (s := t) (A := B) (A' := B') (n := m) (c := d) (n' := m') (c' := d') _ true HL2.out).mono ?_); rintro e w_z ⟨rfl, hh⟩
         try replace a := a.below hh
         try replace b := b.below hh
         try replace XA := XA.below hh
         try replace XB := XB.below hh
         try replace XW := XW.below hh
         replace hb := bend hb hh
         have xa0 := XA.c0
         have xa1 := XA.c1
         have xa2 := XA.c2
         have xb0 := XB.c0
         have xb1 := XB.c1
         have xb2 := XB.c2))
  replace a := a.below (Below.refl _ _).drew
  replace b := b.below (Below.refl _ _).drew
  replace XA := XA.below (Below.refl _ _).drew
  replace XB := XB.below (Below.refl _ _).drew
  replace XW := XW.below (Below.refl _ _).drew
  replace hb := hb.drew
  have hpw := HPW.out
  have hqw := HQW.out
  have hUw := HUW.out
  go_region_held3 (fun w' => w'.cell? ⟨w.heap.size + 1 + 1, 0, none⟩ = some (.int .u16 (p : Int)) ∧ w'.cell? ⟨w.heap.size + 1 + 1, 1, none⟩ = some (.int .u16 (q : Int)))
    (first | with_reducible exact ⟨XW.c0, XW.c1⟩)
    (fail)
  clear hpw hqw hUw XW
  have xa0 := XA.c0
  have xa1 := XA.c1
  have xa2 := XA.c2
  have xb0 := XB.c0
  have xb1 := XB.c1
  have xb2 := XB.c2
  by_cases hle : va ≤ vb
  · obtain ⟨K, hK, hK0⟩ : ∃ K, cmpQ va vb = K ∧ decide (0 < K) = false := ⟨_, rfl, decide_eq_false (by have := cmpQ_le.2 hle; omega)⟩
    have HK := Lib.hid hK
    clear hK
    obtain ⟨Kz, hKz, hKz0⟩ : ∃ K, cmpZ (toQ va U) (toQ vb U) = K ∧ K ≤ 0 := ⟨_, rfl, by have := to_mono H1.out hle; unfold cmpZ; (repeat' split) <;> omega⟩
    have HZ := Lib.hid hKz
    obtain ⟨b1, hb1⟩ : ∃ b1, byteQ va = b1 := ⟨_, rfl⟩
    obtain ⟨b2, hb2⟩ : ∃ b2, byteQ vb = b2 := ⟨_, rfl⟩
    have hbb : b1 ≤ b2 := by rw [← hb1, ← hb2]; exact byte_mono hle
    have HB1 := Lib.hid hb1
    have HB2 := Lib.hid hb2
    clear hKz hb1 hb2
    clear hle
    go_wp2_with (first
      | (go_at_call 11; (with_reducible refine (rcmp_q a b (by decide) (by decide) (by decide) (by decide) (by decide)).mono ?_); rintro e w_z ⟨rfl, hh⟩
         rw [HK.out]
         try replace a := a.below hh
         try replace b := b.below hh
         try replace XA := XA.below hh
         try replace XB := XB.below hh
         replace hb := bend hb hh
         have xa0 := XA.c0
         have xa1 := XA.c1
         have xa2 := XA.c2
         have xb0 := XB.c0
         have xb1 := XB.c1
         have xb2 := XB.c2))
    refine more_region (by simp) rfl rfl rfl XA a H1.out H2.out H3.out H4.out ?_
    intro V w_m g_m s_m A_m n_m c_m mm XM hh hg_m hv9
    simp only [putAll, Act.put, List.setIfInBounds_toArray, List.set_cons_zero, List.set_cons_succ, hv9]
    clear hv9
    have HM : Hid (toQ (va + Rat.divInt (q : Int) U) U - toQ va U = (q : Int)) := by show _ = _; rw [to_more _ H1.out]; omega
    rw [HM.out] at mm
    replace a := a.below hh
    replace b := b.below hh
    replace XA := XA.below hh
    replace XB := XB.below hh
    replace hb := bend hb hh
    have xm0 := XM.c0
    have xm1 := XM.c1
    go_upto_region 8 with (first
      | (go_at_call 18; (with_reducible refine (small_zr mm.zr (by decide) HF.out).mono ?_); rintro e w_z ⟨rfl, hh⟩
         try replace a := a.below hh
         try replace b := b.below hh
         try replace f1 := f1.below hh
         try replace f2 := f2.below hh
         try replace mm := mm.below hh
         try replace XA := XA.below hh
         try replace XB := XB.below hh
         try replace XM := XM.below hh
         replace hb := bend hb hh))
    clear xm0 xm1 XM mm
    replace a := a.below (Below.refl _ _).drew
    replace b := b.below (Below.refl _ _).drew
    replace XA := XA.below (Below.refl _ _).drew
    replace XB := XB.below (Below.refl _ _).drew
    replace hb := hb.drew
    go_region_held3 (fun w' => w'.cell? ⟨w.heap.size, 0, none⟩ = some (.bool s) ∧ w'.cell? ⟨w.heap.size, 1, none⟩ = some (.slice A n c) ∧ w'.cell? ⟨w.heap.size, 2, none⟩ = some (.slice A' n' c') ∧ w'.cell? ⟨w.heap.size + 1, 0, none⟩ = some (.bool t) ∧ w'.cell? ⟨w.heap.size + 1, 1, none⟩ = some (.slice B m d) ∧ w'.cell? ⟨w.heap.size + 1, 2, none⟩ = some (.slice B' m' d'))
      (first | with_reducible exact ⟨XA.c0, XA.c1, XA.c2, XB.c0, XB.c1, XB.c2⟩)
      (first
        | (go_at_call 19; (with_reducible refine (to_q U a (by decide) (by decide) H1.out H2.out).mono ?_); rintro e w_f1 ⟨s_f1, A_f1, n_f1, c_f1, rfl, f1, hh⟩
           try replace a := a.below hh
           try replace b := b.below hh
           try replace f2 := f2.below hh
           try replace mm := mm.below hh
           try replace XA := XA.below hh
           try replace XB := XB.below hh
           try replace XM := XM.below hh
           replace hb := bend hb hh)
        | (go_at_call 19; (with_reducible refine (to_q U b (by decide) (by decide) H1.out H2.out).mono ?_); rintro e w_f2 ⟨s_f2, A_f2, n_f2, c_f2, rfl, f2, hh⟩
           try replace a := a.below hh
           try replace b := b.below hh
           try replace f1 := f1.below hh
           try replace mm := mm.below hh
           try replace XA := XA.below hh
           try replace XB := XB.below hh
           try replace XM := XM.below hh
           replace hb := bend hb hh)
        | (go_at_call 27; (with_reducible refine (zcmp_zr f1.zr f2.zr (by decide)).mono ?_); rintro e w_z ⟨rfl, hh⟩
           rw [HZ.out]
           try replace a := a.below hh
           try replace b := b.below hh
           try replace f1 := f1.below hh
           try replace f2 := f2.below hh
           try replace mm := mm.below hh
           try replace XA := XA.below hh
           try replace XB := XB.below hh
           try replace XM := XM.below hh
           replace hb := bend hb hh)
        | (go_at_call 24; (with_reducible refine (byte_q a (by decide) (by decide)).mono ?_); rintro e w_z ⟨rfl, hh⟩
           rw [HB1.out]
           try replace a := a.below hh
           try replace b := b.below hh
           try replace f1 := f1.below hh
           try replace f2 := f2.below hh
           try replace mm := mm.below hh
           try replace XA := XA.below hh
           try replace XB := XB.below hh
           try replace XM := XM.below hh
           replace hb := bend hb hh)
        | (go_at_call 24; (with_reducible refine (byte_q b (by decide) (by decide)).mono ?_); rintro e w_z ⟨rfl, hh⟩
           rw [HB2.out]
           try replace a := a.below hh
           try replace b := b.below hh
           try replace f1 := f1.below hh
           try replace f2 := f2.below hh
           try replace mm := mm.below hh
           try replace XA := XA.below hh
           try replace XB := XB.below hh
           try replace XM := XM.below hh
           replace hb := bend hb hh)
        | (go_at_call 17; (with_reducible refine (fwakes_any _).mono ?_); rintro e w_z ⟨rfl, hh⟩
           try replace a := a.below hh
           try replace b := b.below hh
           try replace f1 := f1.below hh
           try replace f2 := f2.below hh
           try replace mm := mm.below hh
           try replace XA := XA.below hh
           try replace XB := XB.below hh
           try replace XM := XM.below hh
           replace hb := bend hb hh))
    go_wp2_with fail
    go_ret
    exact ⟨rfl, hb⟩
  · obtain ⟨K, hK, hK0⟩ : ∃ K, cmpQ va vb = K ∧ 0 < K := ⟨_, rfl, by
      have h := @cmpQ_le va vb
      rcases Int.lt_or_le 0 (cmpQ va vb) with h1 | h1
      · exact h1
      · exact absurd (h.1 h1) hle⟩
    have HK := Lib.hid hK
    clear hK
    have hle2 : vb ≤ va := Rat.le_of_lt (Rat.not_le.1 hle)
    obtain ⟨Kz, hKz, hKz0⟩ : ∃ K, cmpZ (toQ vb U) (toQ va U) = K ∧ K ≤ 0 := ⟨_, rfl, by have := to_mono H1.out hle2; unfold cmpZ; (repeat' split) <;> omega⟩
    have HZ := Lib.hid hKz
    obtain ⟨b1, hb1⟩ : ∃ b1, byteQ vb = b1 := ⟨_, rfl⟩
    obtain ⟨b2, hb2⟩ : ∃ b2, byteQ va = b2 := ⟨_, rfl⟩
    have hbb : b1 ≤ b2 := by rw [← hb1, ← hb2]; exact byte_mono hle2
    have HB1 := Lib.hid hb1
    have HB2 := Lib.hid hb2
    clear hKz hb1 hb2
    clear hle hle2
    have yf0 := XA.f0
    have yf1 := XA.f1
    have yf2 := XA.f2
    have y0 := XA.c0
    have y1 := XA.c1
    have y2 := XA.c2
    have vf0 := XB.f0
    have vf1 := XB.f1
    have vf2 := XB.f2
    have v0 := XB.c0
    have v1 := XB.c1
    have v2 := XB.c2
    go_upto_region 5 with (first
      | (go_at_call 11; (with_reducible refine (rcmp_q a b (by decide) (by decide) (by decide) (by decide) (by decide)).mono ?_); rintro e w_z ⟨rfl, hh⟩
         rw [HK.out]
         try replace a := a.below hh
         try replace b := b.below hh
         try replace XA := XA.below hh
         try replace XB := XB.below hh
         replace hb := bend hb hh
         have xa0 := XA.c0
         have xa1 := XA.c1
         have xa2 := XA.c2
         have xb0 := XB.c0
         have xb1 := XB.c1
         have xb2 := XB.c2))
    have yf0 := XA.f0
    have yf1 := XA.f1
    have yf2 := XA.f2
    have y0 := XA.c0
    have y1 := XA.c1
    have y2 := XA.c2
    have vf0 := XB.f0
    have vf1 := XB.f1
    have vf2 := XB.f2
    have v0 := XB.c0
    have v1 := XB.c1
    have v2 := XB.c2
    go_upto_region 6 with (fail)
    generalize hW1 : (((w_z.setCell ⟨w.heap.size, 0, none⟩ (Value.bool t)).setCell ⟨w.heap.size, 1, none⟩ (Value.slice B m d)).setCell ⟨w.heap.size, 2, none⟩ (Value.slice B' m' d')) = W1
    generalize hW2 : (((W1.setCell ⟨w.heap.size + 1, 0, none⟩ (Value.bool s)).setCell ⟨w.heap.size + 1, 1, none⟩ (Value.slice A n c)).setCell ⟨w.heap.size + 1, 2, none⟩ (Value.slice A' n' c')) = W2
    have ho1 : Only w.heap.size w_z W1 := by subst hW1; exact (((Only.refl _ _).setCell 0 _).setCell 1 _).setCell 2 _
    have ho2 : Only (w.heap.size + 1) W1 W2 := by subst hW2; exact (((Only.refl _ _).setCell 0 _).setCell 1 _).setCell 2 _
    have XA1 : B3 W1 w.heap.size (Value.bool t) (Value.slice B m d) (Value.slice B' m' d') := by subst hW1; exact XA.set3 _ _ _
    have XB1 := XB.cnt (by omega) ho1
    have XB2 : B3 W2 (w.heap.size + 1) (Value.bool s) (Value.slice A n c) (Value.slice A' n' c') := by subst hW2; exact XB1.set3 _ _ _
    have XA2 := XA1.cnt (by omega) ho2
    have a2 := (a.box (XA.bat (free3 _ _ _ _ _ _ _)) ho1).box (XB1.bat (free3 _ _ _ _ _ _ _)) ho2
    have b2' := (b.box (XA.bat (free3 _ _ _ _ _ _ _)) ho1).box (XB1.bat (free3 _ _ _ _ _ _ _)) ho2
    have hb2 : Below w.heap.size w W2 := Below.only (Below.only hb (Nat.le_refl _) hb.size ho1) (by omega) (Nat.le_trans hb.size ho1.size) ho2
    clear hW1 hW2 ho1 ho2 XA1 XB1 XA XB a b hb
    have XA := XA2
    have XB := XB2
    have a := a2
    have b := b2'
    have hb := hb2
    clear XA2 XB2 a2 b2' hb2
    refine more_region (by simp) rfl rfl rfl XA b H1.out H2.out H3.out H4.out ?_
    intro V w_m g_m s_m A_m n_m c_m mm XM hh hg_m hv9
    simp only [putAll, Act.put, List.setIfInBounds_toArray, List.set_cons_zero, List.set_cons_succ, hv9]
    clear hv9
    have HM : Hid (toQ (vb + Rat.divInt (q : Int) U) U - toQ vb U = (q : Int)) := by show _ = _; rw [to_more _ H1.out]; omega
    rw [HM.out] at mm
    replace a := a.below hh
    replace b := b.below hh
    replace XA := XA.below hh
    replace XB := XB.below hh
    replace hb := bend hb hh
    have xm0 := XM.c0
    have xm1 := XM.c1
    go_upto_region 8 with (first
      | (go_at_call 18; (with_reducible refine (small_zr mm.zr (by decide) HF.out).mono ?_); rintro e w_z ⟨rfl, hh⟩
         try replace a := a.below hh
         try replace b := b.below hh
         try replace f1 := f1.below hh
         try replace f2 := f2.below hh
         try replace mm := mm.below hh
         try replace XA := XA.below hh
         try replace XB := XB.below hh
         try replace XM := XM.below hh
         replace hb := bend hb hh))
    clear xm0 xm1 XM mm
    replace a := a.below (Below.refl _ _).drew
    replace b := b.below (Below.refl _ _).drew
    replace XA := XA.below (Below.refl _ _).drew
    replace XB := XB.below (Below.refl _ _).drew
    replace hb := hb.drew
    go_region_held3 (fun w' => w'.cell? ⟨w.heap.size, 0, none⟩ = some (.bool t) ∧ w'.cell? ⟨w.heap.size, 1, none⟩ = some (.slice B m d) ∧ w'.cell? ⟨w.heap.size, 2, none⟩ = some (.slice B' m' d') ∧ w'.cell? ⟨w.heap.size + 1, 0, none⟩ = some (.bool s) ∧ w'.cell? ⟨w.heap.size + 1, 1, none⟩ = some (.slice A n c) ∧ w'.cell? ⟨w.heap.size + 1, 2, none⟩ = some (.slice A' n' c'))
      (first | with_reducible exact ⟨XA.c0, XA.c1, XA.c2, XB.c0, XB.c1, XB.c2⟩)
      (first
        | (go_at_call 19; (with_reducible refine (to_q U b (by decide) (by decide) H1.out H2.out).mono ?_); rintro e w_f1 ⟨s_f1, A_f1, n_f1, c_f1, rfl, f1, hh⟩
           try replace a := a.below hh
           try replace b := b.below hh
           try replace f2 := f2.below hh
           try replace mm := mm.below hh
           try replace XA := XA.below hh
           try replace XB := XB.below hh
           try replace XM := XM.below hh
           replace hb := bend hb hh)
        | (go_at_call 19; (with_reducible refine (to_q U a (by decide) (by decide) H1.out H2.out).mono ?_); rintro e w_f2 ⟨s_f2, A_f2, n_f2, c_f2, rfl, f2, hh⟩
           try replace a := a.below hh
           try replace b := b.below hh
           try replace f1 := f1.below hh
           try replace mm := mm.below hh
           try replace XA := XA.below hh
           try replace XB := XB.below hh
           try replace XM := XM.below hh
           replace hb := bend hb hh)
        | (go_at_call 27; (with_reducible refine (zcmp_zr f1.zr f2.zr (by decide)).mono ?_); rintro e w_z ⟨rfl, hh⟩
           rw [HZ.out]
           try replace a := a.below hh
           try replace b := b.below hh
           try replace f1 := f1.below hh
           try replace f2 := f2.below hh
           try replace mm := mm.below hh
           try replace XA := XA.below hh
           try replace XB := XB.below hh
           try replace XM := XM.below hh
           replace hb := bend hb hh)
        | (go_at_call 24; (with_reducible refine (byte_q b (by decide) (by decide)).mono ?_); rintro e w_z ⟨rfl, hh⟩
           rw [HB1.out]
           try replace a := a.below hh
           try replace b := b.below hh
           try replace f1 := f1.below hh
           try replace f2 := f2.below hh
           try replace mm := mm.below hh
           try replace XA := XA.below hh
           try replace XB := XB.below hh
           try replace XM := XM.below hh
           replace hb := bend hb hh)
        | (go_at_call 24; (with_reducible refine (byte_q a (by decide) (by decide)).mono ?_); rintro e w_z ⟨rfl, hh⟩
           rw [HB2.out]
           try replace a := a.below hh
           try replace b := b.below hh
           try replace f1 := f1.below hh
           try replace f2 := f2.below hh
           try replace mm := mm.below hh
           try replace XA := XA.below hh
           try replace XB := XB.below hh
           try replace XM := XM.below hh
           replace hb := bend hb hh)
        | (go_at_call 17; (with_reducible refine (fwakes_any _).mono ?_); rintro e w_z ⟨rfl, hh⟩
           try replace a := a.below hh
           try replace b := b.below hh
           try replace f1 := f1.below hh
           try replace f2 := f2.below hh
           try replace mm := mm.below hh
           try replace XA := XA.below hh
           try replace XB := XB.below hh
           try replace XM := XM.below hh
           replace hb := bend hb hh))
    go_wp2_with fail
    go_ret
    exact ⟨rfl, hb⟩
theorem law_order5 {w : World} (p q : Nat) (s t : Bool) (A A' B B' : Option Addr) (n c n' c' m d m' d' : Nat) (l l' k k' : List Nat) (r1 : Rd .u64 w A n l) (r2 : Rd .u64 w A' n' l') (r3 : Rd .u64 w B m k) (r4 : Rd .u64 w B' m' k') (t1 : Lim B64 l) (t2 : Lim B64 l') (t3 : Lim B64 k) (t4 : Lim B64 k') (e1 : n ≤ c) (e2 : n' ≤ c') (e3 : m ≤ d) (e4 : m' ≤ d') (hp : p < 65536) (hq : q < 65536) :
    Calls Try.prog 6 #[.agg #[.bool s, .slice A n c, .slice A' n' c'], .agg #[.bool t, .slice B m d, .slice B' m' d'], .agg #[.int .u16 (p : Int), .int .u16 (q : Int)]] w fun e w' => e = .returned (.bool true) ∧ Below w.heap.size w w' := by
  by_cases h : n ≤ 12 ∧ n' ≤ 12
  · by_cases h2 : m ≤ 12 ∧ m' ≤ 12
    · exact order_fix p q _ (QR.of_rd (s := s) r1 t1 e1 r2 t2 e2 h.1 h.2) (QR.of_rd (s := t) r3 t3 e3 r4 t4 e4 h2.1 h2.2) hp hq (decide_eq_true h) (decide_eq_true h2) rfl
    · exact order_l2 p q (decide_eq_true h) (decide_eq_false h2)
  · exact order_l1 p q (decide_eq_false h)
end Go.Proofs.Ytmcijgnbdnpanaa
