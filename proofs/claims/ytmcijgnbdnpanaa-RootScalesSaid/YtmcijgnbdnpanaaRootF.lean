/- The law RootScales: its drawn regions. -/
import Derived.Test.YtmcijgnbdnpanaaRootW
import Derived.Test.YtmcijgnbdnpanaaFlow
import Derived.Test.YtmcijgnbdnpanaaRatW
namespace Go.Proofs.Ytmcijgnbdnpanaa
open Go Go.RowKit

theorem rc_gesso_rat_Mul {e : Operand → Value} {x0 x1 : Operand} {d : Option Tmp} {y : Nat} {pos : String} {af : Array Edge} {w : World} {u0 u1 : Value} (h0 : e x0 = u0) (h1 : e x1 = u1) (hf : e (.func 10) = .func (.func 10) #[] #[]) :
    (execOp e { dst := d, op := Op.call { callee := Callee.value (Operand.func 10), args := #[x0, x1], argTypes := #[26, 26] }, type := y, pos := pos, after := af, guard := none }).run Try.prog w = .ok (.enter 10 #[u0, u1]) w := by
  go_simp
theorem rc_gesso_root_Low {e : Operand → Value} {x0 x1 : Operand} {d : Option Tmp} {y : Nat} {pos : String} {af : Array Edge} {w : World} {u0 u1 : Value} (h0 : e x0 = u0) (h1 : e x1 = u1) (hf : e (.func 13) = .func (.func 13) #[] #[]) :
    (execOp e { dst := d, op := Op.call { callee := Callee.value (Operand.func 13), args := #[x0, x1], argTypes := #[26, 3] }, type := y, pos := pos, after := af, guard := none }).run Try.prog w = .ok (.enter 13 #[u0, u1]) w := by
  go_simp
def F_slow (s : Bool) (t : Bool) (A : Option Addr) (A' : Option Addr) (B : Option Addr) (B' : Option Addr) (n : Nat) (c : Nat) (n' : Nat) (c' : Nat) (m : Nat) (d : Nat) (m' : Nat) (d' : Nat) (va : Rat) (vu : Rat) (h : Nat) (sl : Nat) : Value → World → Prop :=
  match sl with
  | 52 => fun x _ => x = Value.agg #[.bool s, .slice A n c, .slice A' n' c']
  | 53 => fun x _ => x = Value.agg #[.bool t, .slice B m d, .slice B' m' d']
  | 54 => fun x _ => x = Value.agg #[.bool t, .slice B m d, .slice B' m' d']
  | 55 => VQ (vu * vu) (1 + 1)
  | 56 => VQ (va * (vu * vu)) (8 + (1 + 1))
  | 57 => fun x _ => x = Value.int .i64 (h : Int)
  | 58 => VQE (fun u => ∃ R, u = inQ R h ∧ IsLow (va * (vu * vu)) h R) (40)
  | 51 => VQE (fun u => ∃ R, u = inQ R h ∧ IsLow (va * (vu * vu)) h R) (40)
  | 59 => VQS (fun u => ∃ R, u = inQ R h ∧ IsLow (va * (vu * vu)) h R) (40)
  | 60 => fun x _ => x = Value.int .i64 0
  | 14 => fun x _ => x = Value.int .i64 0
  | _ => fun _ _ => True
set_option maxRecDepth 100000 in
set_option maxHeartbeats 4000000 in
theorem slow_region {id : Nat} {ac : Act} {w : World} {Q : Exit → Act → World → Prop} {s t : Bool} {A A' B B' : Option Addr} {n c n' c' m d m' d' : Nat} {va vu : Rat} {h g1 g2 : Nat}
    (hsz : 60 < ac.tmps.size) (e3 : ac.eval (.tmp 3) = Value.pointer (some ⟨g1, 0, none⟩)) (e9 : ac.eval (.tmp 9) = Value.pointer (some ⟨g2, 0, none⟩)) (e7 : ac.eval (.tmp 7) = Value.int .i64 (h : Int)) (XA : B3 w g1 (.bool s) (.slice A n c) (.slice A' n' c')) (XU : B3 w g2 (.bool t) (.slice B m d) (.slice B' m' d')) (a : QR w s A n c A' n' c' va 8) (u : QR w t B m d B' m' d' vu 1) (hv : 0 ≤ va * (vu * vu)) (hh : h ≤ 400)
    (hend : ∀ (V : Nat → Value) (w' : World) (g : Nat) (u : Rat) (s : Bool) (A : Option Addr) (n c : Nat) (B : Option Addr) (m d : Nat), (fun u => ∃ R, u = inQ R h ∧ IsLow (va * (vu * vu)) h R) u → QG w' s A n c B m d u (40) → B3 w' g (.bool s) (.slice A n c) (.slice B m d) → Below w.heap.size w w' → w.heap.size ≤ g → V 13 = .pointer (some ⟨g, 0, none⟩) → V 14 = Value.int .i64 0 → Q .normal (putAll ac [52, 53, 54, 55, 56, 57, 58, 51, 59, 60, 13, 14] V) w') :
    (Code.region id #[{ dst := some 52, op := Op.load 26 (Operand.tmp 3), type := 26, pos := "law.go:106", after := #[], guard := none },
      { dst := some 53, op := Op.load 26 (Operand.tmp 9), type := 26, pos := "law.go:106", after := #[], guard := none },
      { dst := some 54, op := Op.load 26 (Operand.tmp 9), type := 26, pos := "law.go:106", after := #[], guard := none },
      { dst := some 55, op := Op.call { callee := Callee.value (Operand.func 10), args := #[Operand.tmp 53, Operand.tmp 54], argTypes := #[26, 26] }, type := 26, pos := "law.go:106", after := #[{ on := 1, ground := Ground.data }, { on := 2, ground := Ground.data }], guard := none },
      { dst := some 56, op := Op.call { callee := Callee.value (Operand.func 10), args := #[Operand.tmp 52, Operand.tmp 55], argTypes := #[26, 26] }, type := 26, pos := "law.go:106", after := #[{ on := 0, ground := Ground.data }, { on := 3, ground := Ground.data }, { on := 3, ground := Ground.chain }], guard := none },
      { dst := some 57, op := Op.move (Operand.tmp 7), type := 3, pos := "law.go:106", after := #[], guard := none },
      { dst := some 58, op := Op.call { callee := Callee.value (Operand.func 13), args := #[Operand.tmp 56, Operand.tmp 57], argTypes := #[26, 3] }, type := 35, pos := "law.go:106", after := #[{ on := 4, ground := Ground.data }, { on := 5, ground := Ground.data }, { on := 4, ground := Ground.chain }], guard := none },
      { dst := some 51, op := Op.move (Operand.tmp 58), type := 35, pos := "law.go:106", after := #[{ on := 6, ground := Ground.data }], guard := none },
      { dst := some 59, op := Op.extract (Operand.tmp 51) 0, type := 26, pos := "law.go:106", after := #[{ on := 7, ground := Ground.data }], guard := none },
      { dst := some 60, op := Op.extract (Operand.tmp 51) 1, type := 34, pos := "law.go:106", after := #[{ on := 7, ground := Ground.data }, { on := 11, ground := Ground.gcOnly Departure.lateStores }], guard := none },
      { dst := some 13, op := Op.alloc 26, type := 0, pos := "law.go:106", after := #[], guard := none },
      { dst := none, op := Op.store 26 (Operand.tmp 13) (Operand.tmp 59), type := 0, pos := "law.go:106", after := #[{ on := 10, ground := Ground.data }, { on := 8, ground := Ground.data }, { on := 6, ground := Ground.chain }, { on := 0, ground := Ground.phase }, { on := 1, ground := Ground.phase }, { on := 2, ground := Ground.phase }, { on := 3, ground := Ground.phase }, { on := 4, ground := Ground.phase }, { on := 5, ground := Ground.phase }, { on := 6, ground := Ground.phase }, { on := 7, ground := Ground.phase }, { on := 8, ground := Ground.phase }, { on := 9, ground := Ground.textOnly Departure.lateStores }, { on := 10, ground := Ground.phase }], guard := none },
      { dst := some 14, op := Op.assign (Operand.tmp 60), type := 34, pos := "law.go:106", after := #[{ on := 9, ground := Ground.data }, { on := 11, ground := Ground.chain }, { on := 0, ground := Ground.phase }, { on := 1, ground := Ground.phase }, { on := 2, ground := Ground.phase }, { on := 3, ground := Ground.phase }, { on := 4, ground := Ground.phase }, { on := 5, ground := Ground.phase }, { on := 6, ground := Ground.phase }, { on := 7, ground := Ground.phase }, { on := 8, ground := Ground.phase }, { on := 9, ground := Ground.phase }, { on := 10, ground := Ground.phase }, { on := 11, ground := Ground.phase }], guard := none }] true).wp Try.prog Q ac w := by
  have hnd : ([52, 53, 54, 55, 56, 57, 58, 51, 59, 60, 13, 14] : List Nat).Nodup := by decide
  have G : ∀ (v : Nat → Value) (t : Nat), t ∈ ([52, 53, 54, 55, 56, 57, 58, 51, 59, 60, 13, 14] : List Nat) → t ≤ 60 → (putAll ac [52, 53, 54, 55, 56, 57, 58, 51, 59, 60, 13, 14] v).eval (.tmp t) = v t := fun v t ht h => eval_putAll_mem (t := t) [52, 53, 54, 55, 56, 57, 58, 51, 59, 60, 13, 14] ac hnd ht (Nat.lt_of_le_of_lt h hsz)
  have E3 : ∀ v : Nat → Value, (putAll ac [52, 53, 54, 55, 56, 57, 58, 51, 59, 60, 13, 14] v).eval (.tmp 3) = Value.pointer (some ⟨g1, 0, none⟩) := fun v => (eval_putAll_not (v := v) [52, 53, 54, 55, 56, 57, 58, 51, 59, 60, 13, 14] ac (show 3 ∉ _ by decide)).trans e3
  have E9 : ∀ v : Nat → Value, (putAll ac [52, 53, 54, 55, 56, 57, 58, 51, 59, 60, 13, 14] v).eval (.tmp 9) = Value.pointer (some ⟨g2, 0, none⟩) := fun v => (eval_putAll_not (v := v) [52, 53, 54, 55, 56, 57, 58, 51, 59, 60, 13, 14] ac (show 9 ∉ _ by decide)).trans e9
  have E7 : ∀ v : Nat → Value, (putAll ac [52, 53, 54, 55, 56, 57, 58, 51, 59, 60, 13, 14] v).eval (.tmp 7) = Value.int .i64 (h : Int) := fun v => (eval_putAll_not (v := v) [52, 53, 54, 55, 56, 57, 58, 51, 59, 60, 13, 14] ac (show 7 ∉ _ by decide)).trans e7
  refine wp_region_flow 26 #[.bool false, .slice none 0 0, .slice none 0 0] [52, 53, 54, 55, 56, 57, 58, 51, 59, 60, 13, 14] 10 11 13 ({ dst := some 13, op := Op.alloc 26, type := 0, pos := "law.go:106", after := #[], guard := none }) ({ dst := none, op := Op.store 26 (Operand.tmp 13) (Operand.tmp 59), type := 0, pos := "law.go:106", after := #[{ on := 10, ground := Ground.data }, { on := 8, ground := Ground.data }, { on := 6, ground := Ground.chain }, { on := 0, ground := Ground.phase }, { on := 1, ground := Ground.phase }, { on := 2, ground := Ground.phase }, { on := 3, ground := Ground.phase }, { on := 4, ground := Ground.phase }, { on := 5, ground := Ground.phase }, { on := 6, ground := Ground.phase }, { on := 7, ground := Ground.phase }, { on := 8, ground := Ground.phase }, { on := 9, ground := Ground.textOnly Departure.lateStores }, { on := 10, ground := Ground.phase }], guard := none }) (F_slow s t A A' B B' n c n' c' m d m' d' va vu h) (fun cs w => ∃ v, (fun u => ∃ R, u = inQ R h ∧ IsLow (va * (vu * vu)) h R) v ∧ ∃ s A n c B m d, cs = #[.bool s, .slice A n c, .slice B m d] ∧ QG w s A n c B m d v (40)) (by kernel_rfl) (by kernel_rfl) rfl hnd rfl rfl rfl rfl ?_ rfl rfl ⟨{ on := 10, ground := Ground.data }, by simp, rfl, rfl⟩ ?_ (free3 _ _ _ _ _ _ _) (fun e w' => run_allocQ) ?_ ?_ ?_ ?_
  · intro i o h1 h2
    match i, h1 with
    | 0, h1 => cases h1; cases h2
    | 1, h1 => cases h1; cases h2
    | 2, h1 => cases h1; cases h2
    | 3, h1 => cases h1; cases h2
    | 4, h1 => cases h1; cases h2
    | 5, h1 => cases h1; cases h2
    | 6, h1 => cases h1; cases h2
    | 7, h1 => cases h1; cases h2
    | 8, h1 => cases h1; cases h2
    | 9, h1 => cases h1; cases h2
    | 10, h1 => cases h1; cases h2
    | 11, h1 => cases h1; rfl
    | 12, h1 => cases h1; cases h2
    | i + 13, h1 => cases h1
  · intro t
    unfold F_slow
    split <;> first | exact stays_eq _ | exact stays_q _ _ | exact stays_z _ _ | exact stays_qe _ _ | exact stays_qs _ _ | exact stays_true
  · intro i o t v w' ho hia hd J0 hf
    have a := a.below J0
    have u := u.below J0
    have XA := XA.below J0
    have XU := XU.below J0
    match i, ho with
    | 0, ho =>
      obtain rfl : { dst := some 52, op := Op.load 26 (Operand.tmp 3), type := 26, pos := "law.go:106", after := #[], guard := none } = o := Option.some.inj ho
      cases hd
      refine wpOp_plain' (o := { dst := some 52, op := Op.load 26 (Operand.tmp 3), type := 26, pos := "law.go:106", after := #[], guard := none }) rfl rfl ?_
      unfold Oper.wp
      rw [run_loadQ (E3 v) XA.c0 XA.c1 XA.c2, Oper.upon_value]
      exact ⟨_, rfl, Below.refl _ _, rfl⟩
    | 1, ho =>
      obtain rfl : { dst := some 53, op := Op.load 26 (Operand.tmp 9), type := 26, pos := "law.go:106", after := #[], guard := none } = o := Option.some.inj ho
      cases hd
      refine wpOp_plain' (o := { dst := some 53, op := Op.load 26 (Operand.tmp 9), type := 26, pos := "law.go:106", after := #[], guard := none }) rfl rfl ?_
      unfold Oper.wp
      rw [run_loadQ (E9 v) XU.c0 XU.c1 XU.c2, Oper.upon_value]
      exact ⟨_, rfl, Below.refl _ _, rfl⟩
    | 2, ho =>
      obtain rfl : { dst := some 54, op := Op.load 26 (Operand.tmp 9), type := 26, pos := "law.go:106", after := #[], guard := none } = o := Option.some.inj ho
      cases hd
      refine wpOp_plain' (o := { dst := some 54, op := Op.load 26 (Operand.tmp 9), type := 26, pos := "law.go:106", after := #[], guard := none }) rfl rfl ?_
      unfold Oper.wp
      rw [run_loadQ (E9 v) XU.c0 XU.c1 XU.c2, Oper.upon_value]
      exact ⟨_, rfl, Below.refl _ _, rfl⟩
    | 3, ho =>
      obtain rfl : { dst := some 55, op := Op.call { callee := Callee.value (Operand.func 10), args := #[Operand.tmp 53, Operand.tmp 54], argTypes := #[26, 26] }, type := 26, pos := "law.go:106", after := #[{ on := 1, ground := Ground.data }, { on := 2, ground := Ground.data }], guard := none } = o := Option.some.inj ho
      cases hd
      have f53 : v 53 = Value.agg #[.bool t, .slice B m d, .slice B' m' d'] := hf { on := 1, ground := Ground.data } (by simp) rfl _ 53 rfl rfl (by decide)
      have f54 : v 54 = Value.agg #[.bool t, .slice B m d, .slice B' m' d'] := hf { on := 2, ground := Ground.data } (by simp) rfl _ 54 rfl rfl (by decide)
      refine wpOp_plain' (o := { dst := some 55, op := Op.call { callee := Callee.value (Operand.func 10), args := #[Operand.tmp 53, Operand.tmp 54], argTypes := #[26, 26] }, type := 26, pos := "law.go:106", after := #[{ on := 1, ground := Ground.data }, { on := 2, ground := Ground.data }], guard := none }) rfl rfl ?_
      unfold Oper.wp
      rw [rc_gesso_rat_Mul ((G v 53 (by decide) (by decide)).trans f53) ((G v 54 (by decide) (by decide)).trans f54) rfl, Oper.upon_enter]
      refine (rmul_q u u (by decide) (by decide) (by decide) (by decide) (by decide)).mono ?_
      rintro e w1 ⟨s1, A1, n1, c1, B1, m1, d1, rfl, hq, hh⟩
      exact ⟨_, rfl, hh, s1, A1, n1, c1, B1, m1, d1, rfl, hq⟩
    | 4, ho =>
      obtain rfl : { dst := some 56, op := Op.call { callee := Callee.value (Operand.func 10), args := #[Operand.tmp 52, Operand.tmp 55], argTypes := #[26, 26] }, type := 26, pos := "law.go:106", after := #[{ on := 0, ground := Ground.data }, { on := 3, ground := Ground.data }, { on := 3, ground := Ground.chain }], guard := none } = o := Option.some.inj ho
      cases hd
      have f52 : v 52 = Value.agg #[.bool s, .slice A n c, .slice A' n' c'] := hf { on := 0, ground := Ground.data } (by simp) rfl _ 52 rfl rfl (by decide)
      have h55 : VQ (vu * vu) (1 + 1) (v 55) w' := hf { on := 3, ground := Ground.data } (by simp) rfl _ 55 rfl rfl (by decide)
      obtain ⟨s55, A55, n55, c55, B55, m55, d55, f55, q55⟩ := h55
      refine wpOp_plain' (o := { dst := some 56, op := Op.call { callee := Callee.value (Operand.func 10), args := #[Operand.tmp 52, Operand.tmp 55], argTypes := #[26, 26] }, type := 26, pos := "law.go:106", after := #[{ on := 0, ground := Ground.data }, { on := 3, ground := Ground.data }, { on := 3, ground := Ground.chain }], guard := none }) rfl rfl ?_
      unfold Oper.wp
      rw [rc_gesso_rat_Mul ((G v 52 (by decide) (by decide)).trans f52) ((G v 55 (by decide) (by decide)).trans f55) rfl, Oper.upon_enter]
      refine (rmul_q a q55.qr (by decide) (by decide) (by decide) (by decide) (by decide)).mono ?_
      rintro e w1 ⟨s1, A1, n1, c1, B1, m1, d1, rfl, hq, hh⟩
      exact ⟨_, rfl, hh, s1, A1, n1, c1, B1, m1, d1, rfl, hq⟩
    | 5, ho =>
      obtain rfl : { dst := some 57, op := Op.move (Operand.tmp 7), type := 3, pos := "law.go:106", after := #[], guard := none } = o := Option.some.inj ho
      cases hd
      refine wpOp_plain' (o := { dst := some 57, op := Op.move (Operand.tmp 7), type := 3, pos := "law.go:106", after := #[], guard := none }) rfl rfl ?_
      unfold Oper.wp
      rw [run_move (E7 v), Oper.upon_value]
      exact ⟨_, rfl, Below.refl _ _, rfl⟩
    | 6, ho =>
      obtain rfl : { dst := some 58, op := Op.call { callee := Callee.value (Operand.func 13), args := #[Operand.tmp 56, Operand.tmp 57], argTypes := #[26, 3] }, type := 35, pos := "law.go:106", after := #[{ on := 4, ground := Ground.data }, { on := 5, ground := Ground.data }, { on := 4, ground := Ground.chain }], guard := none } = o := Option.some.inj ho
      cases hd
      have h56 : VQ (va * (vu * vu)) (8 + (1 + 1)) (v 56) w' := hf { on := 4, ground := Ground.data } (by simp) rfl _ 56 rfl rfl (by decide)
      obtain ⟨s56, A56, n56, c56, B56, m56, d56, f56, q56⟩ := h56
      have f57 : v 57 = Value.int .i64 (h : Int) := hf { on := 5, ground := Ground.data } (by simp) rfl _ 57 rfl rfl (by decide)
      refine wpOp_plain' (o := { dst := some 58, op := Op.call { callee := Callee.value (Operand.func 13), args := #[Operand.tmp 56, Operand.tmp 57], argTypes := #[26, 3] }, type := 35, pos := "law.go:106", after := #[{ on := 4, ground := Ground.data }, { on := 5, ground := Ground.data }, { on := 4, ground := Ground.chain }], guard := none }) rfl rfl ?_
      unfold Oper.wp
      rw [rc_gesso_root_Low ((G v 56 (by decide) (by decide)).trans f56) ((G v 57 (by decide) (by decide)).trans f57) rfl, Oper.upon_enter]
      refine (low_s h q56.qr hv (by decide) (by decide) hh).mono ?_
      rintro e w1 ⟨R, hR, s1, A1, n1, c1, B1, m1, d1, rfl, hq, hh⟩
      exact ⟨_, rfl, hh, _, ⟨R, rfl, hR⟩, s1, A1, n1, c1, B1, m1, d1, rfl, hq⟩
    | 7, ho =>
      obtain rfl : { dst := some 51, op := Op.move (Operand.tmp 58), type := 35, pos := "law.go:106", after := #[{ on := 6, ground := Ground.data }], guard := none } = o := Option.some.inj ho
      cases hd
      have f := hf { on := 6, ground := Ground.data } (by simp) rfl _ 58 rfl rfl (by decide)
      refine wpOp_plain' (o := { dst := some 51, op := Op.move (Operand.tmp 58), type := 35, pos := "law.go:106", after := #[{ on := 6, ground := Ground.data }], guard := none }) rfl rfl ?_
      unfold Oper.wp
      rw [run_move (G v 58 (by decide) (by decide)), Oper.upon_value]
      exact ⟨_, rfl, Below.refl _ _, f⟩
    | 8, ho =>
      obtain rfl : { dst := some 59, op := Op.extract (Operand.tmp 51) 0, type := 26, pos := "law.go:106", after := #[{ on := 7, ground := Ground.data }], guard := none } = o := Option.some.inj ho
      cases hd
      have h51 : VQE (fun u => ∃ R, u = inQ R h ∧ IsLow (va * (vu * vu)) h R) (40) (v 51) w' := hf { on := 7, ground := Ground.data } (by simp) rfl _ 51 rfl rfl (by decide)
      obtain ⟨r51, hr51, s51, A51, n51, c51, B51, m51, d51, f51, q51⟩ := h51
      refine wpOp_plain' (o := { dst := some 59, op := Op.extract (Operand.tmp 51) 0, type := 26, pos := "law.go:106", after := #[{ on := 7, ground := Ground.data }], guard := none }) rfl rfl ?_
      unfold Oper.wp
      rw [run_ext0 ((G v 51 (by decide) (by decide)).trans f51), Oper.upon_value]
      exact ⟨_, rfl, Below.refl _ _, r51, hr51, s51, A51, n51, c51, B51, m51, d51, rfl, q51⟩
    | 9, ho =>
      obtain rfl : { dst := some 60, op := Op.extract (Operand.tmp 51) 1, type := 34, pos := "law.go:106", after := #[{ on := 7, ground := Ground.data }, { on := 11, ground := Ground.gcOnly Departure.lateStores }], guard := none } = o := Option.some.inj ho
      cases hd
      have h51 : VQE (fun u => ∃ R, u = inQ R h ∧ IsLow (va * (vu * vu)) h R) (40) (v 51) w' := hf { on := 7, ground := Ground.data } (by simp) rfl _ 51 rfl rfl (by decide)
      obtain ⟨r51, hr51, s51, A51, n51, c51, B51, m51, d51, f51, q51⟩ := h51
      refine wpOp_plain' (o := { dst := some 60, op := Op.extract (Operand.tmp 51) 1, type := 34, pos := "law.go:106", after := #[{ on := 7, ground := Ground.data }, { on := 11, ground := Ground.gcOnly Departure.lateStores }], guard := none }) rfl rfl ?_
      unfold Oper.wp
      rw [run_ext1 ((G v 51 (by decide) (by decide)).trans f51), Oper.upon_value]
      exact ⟨_, rfl, Below.refl _ _, rfl⟩
    | 10, ho => exact absurd rfl hia
    | 11, ho => cases ho; cases hd
    | 12, ho =>
      obtain rfl : { dst := some 14, op := Op.assign (Operand.tmp 60), type := 34, pos := "law.go:106", after := #[{ on := 9, ground := Ground.data }, { on := 11, ground := Ground.chain }, { on := 0, ground := Ground.phase }, { on := 1, ground := Ground.phase }, { on := 2, ground := Ground.phase }, { on := 3, ground := Ground.phase }, { on := 4, ground := Ground.phase }, { on := 5, ground := Ground.phase }, { on := 6, ground := Ground.phase }, { on := 7, ground := Ground.phase }, { on := 8, ground := Ground.phase }, { on := 9, ground := Ground.phase }, { on := 10, ground := Ground.phase }, { on := 11, ground := Ground.phase }], guard := none } = o := Option.some.inj ho
      cases hd
      have f := hf { on := 9, ground := Ground.data } (by simp) rfl _ 60 rfl rfl (by decide)
      refine wpOp_plain' (o := { dst := some 14, op := Op.assign (Operand.tmp 60), type := 34, pos := "law.go:106", after := #[{ on := 9, ground := Ground.data }, { on := 11, ground := Ground.chain }, { on := 0, ground := Ground.phase }, { on := 1, ground := Ground.phase }, { on := 2, ground := Ground.phase }, { on := 3, ground := Ground.phase }, { on := 4, ground := Ground.phase }, { on := 5, ground := Ground.phase }, { on := 6, ground := Ground.phase }, { on := 7, ground := Ground.phase }, { on := 8, ground := Ground.phase }, { on := 9, ground := Ground.phase }, { on := 10, ground := Ground.phase }, { on := 11, ground := Ground.phase }], guard := none }) rfl rfl ?_
      unfold Oper.wp
      rw [run_assign (G v 60 (by decide) (by decide)), Oper.upon_value]
      exact ⟨_, rfl, Below.refl _ _, f⟩
    | i + 13, ho => cases ho
  · intro v w' g J0 p1 p3 hf
    have h1 : VQS (fun u => ∃ R, u = inQ R h ∧ IsLow (va * (vu * vu)) h R) (40) (v 59) w' := hf { on := 8, ground := Ground.data } (by simp) rfl _ 59 rfl rfl (by decide)
    rw [← G v 59 (by decide) (by decide)] at h1
    refine store_qs (S := fun u => ∃ R, u = inQ R h ∧ IsLow (va * (vu * vu)) h R) (k := 40) (ac := putAll ac [52, 53, 54, 55, 56, 57, 58, 51, 59, 60, 13, 14] v) (z := Operand.tmp 59) ?_ ?_ ?_
    · exact (G v 13 (by decide) (by decide)).trans p1
    · exact h1
    · exact p3
  · rintro cs w1 w2 ⟨u, hu, s1, A1, n1, c1, B1, m1, d1, h1, h2⟩ hb
    exact ⟨u, hu, s1, A1, n1, c1, B1, m1, d1, h1, h2.below hb⟩
  · rintro v w' g cs J0 hF p1 p2 p3 ⟨u, hu, s1, A1, n1, c1, B1, m1, d1, h1, h2⟩
    subst h1
    exact hend v w' g _ _ _ _ _ _ _ _ hu h2 p3.at_ J0 p2 p1 (hF 12 _ 14 rfl rfl (by decide))
theorem rc_gesso_root_High {e : Operand → Value} {x0 x1 : Operand} {d : Option Tmp} {y : Nat} {pos : String} {af : Array Edge} {w : World} {u0 u1 : Value} (h0 : e x0 = u0) (h1 : e x1 = u1) (hf : e (.func 14) = .func (.func 14) #[] #[]) :
    (execOp e { dst := d, op := Op.call { callee := Callee.value (Operand.func 14), args := #[x0, x1], argTypes := #[26, 3] }, type := y, pos := pos, after := af, guard := none }).run Try.prog w = .ok (.enter 14 #[u0, u1]) w := by
  go_simp
def F_shigh (s : Bool) (t : Bool) (A : Option Addr) (A' : Option Addr) (B : Option Addr) (B' : Option Addr) (n : Nat) (c : Nat) (n' : Nat) (c' : Nat) (m : Nat) (d : Nat) (m' : Nat) (d' : Nat) (va : Rat) (vu : Rat) (h : Nat) (sl : Nat) : Value → World → Prop :=
  match sl with
  | 70 => fun x _ => x = Value.agg #[.bool s, .slice A n c, .slice A' n' c']
  | 71 => fun x _ => x = Value.agg #[.bool t, .slice B m d, .slice B' m' d']
  | 72 => fun x _ => x = Value.agg #[.bool t, .slice B m d, .slice B' m' d']
  | 73 => VQ (vu * vu) (1 + 1)
  | 74 => VQ (va * (vu * vu)) (8 + (1 + 1))
  | 75 => fun x _ => x = Value.int .i64 (h : Int)
  | 76 => VQE (fun u => ∃ R, u = inQ R h ∧ IsHigh (va * (vu * vu)) h R) (40)
  | 69 => VQE (fun u => ∃ R, u = inQ R h ∧ IsHigh (va * (vu * vu)) h R) (40)
  | 77 => VQS (fun u => ∃ R, u = inQ R h ∧ IsHigh (va * (vu * vu)) h R) (40)
  | 78 => fun x _ => x = Value.int .i64 0
  | 18 => fun x _ => x = Value.int .i64 0
  | _ => fun _ _ => True
set_option maxRecDepth 100000 in
set_option maxHeartbeats 4000000 in
theorem shigh_region {id : Nat} {ac : Act} {w : World} {Q : Exit → Act → World → Prop} {s t : Bool} {A A' B B' : Option Addr} {n c n' c' m d m' d' : Nat} {va vu : Rat} {h g1 g2 : Nat}
    (hsz : 78 < ac.tmps.size) (e3 : ac.eval (.tmp 3) = Value.pointer (some ⟨g1, 0, none⟩)) (e9 : ac.eval (.tmp 9) = Value.pointer (some ⟨g2, 0, none⟩)) (e7 : ac.eval (.tmp 7) = Value.int .i64 (h : Int)) (XA : B3 w g1 (.bool s) (.slice A n c) (.slice A' n' c')) (XU : B3 w g2 (.bool t) (.slice B m d) (.slice B' m' d')) (a : QR w s A n c A' n' c' va 8) (u : QR w t B m d B' m' d' vu 1) (hv : 0 ≤ va * (vu * vu)) (hh : h ≤ 400)
    (hend : ∀ (V : Nat → Value) (w' : World) (g : Nat) (u : Rat) (s : Bool) (A : Option Addr) (n c : Nat) (B : Option Addr) (m d : Nat), (fun u => ∃ R, u = inQ R h ∧ IsHigh (va * (vu * vu)) h R) u → QG w' s A n c B m d u (40) → B3 w' g (.bool s) (.slice A n c) (.slice B m d) → Below w.heap.size w w' → w.heap.size ≤ g → V 17 = .pointer (some ⟨g, 0, none⟩) → V 18 = Value.int .i64 0 → Q .normal (putAll ac [70, 71, 72, 73, 74, 75, 76, 69, 77, 78, 17, 18] V) w') :
    (Code.region id #[{ dst := some 70, op := Op.load 26 (Operand.tmp 3), type := 26, pos := "law.go:108", after := #[], guard := none },
      { dst := some 71, op := Op.load 26 (Operand.tmp 9), type := 26, pos := "law.go:108", after := #[], guard := none },
      { dst := some 72, op := Op.load 26 (Operand.tmp 9), type := 26, pos := "law.go:108", after := #[], guard := none },
      { dst := some 73, op := Op.call { callee := Callee.value (Operand.func 10), args := #[Operand.tmp 71, Operand.tmp 72], argTypes := #[26, 26] }, type := 26, pos := "law.go:108", after := #[{ on := 1, ground := Ground.data }, { on := 2, ground := Ground.data }], guard := none },
      { dst := some 74, op := Op.call { callee := Callee.value (Operand.func 10), args := #[Operand.tmp 70, Operand.tmp 73], argTypes := #[26, 26] }, type := 26, pos := "law.go:108", after := #[{ on := 0, ground := Ground.data }, { on := 3, ground := Ground.data }, { on := 3, ground := Ground.chain }], guard := none },
      { dst := some 75, op := Op.move (Operand.tmp 7), type := 3, pos := "law.go:108", after := #[], guard := none },
      { dst := some 76, op := Op.call { callee := Callee.value (Operand.func 14), args := #[Operand.tmp 74, Operand.tmp 75], argTypes := #[26, 3] }, type := 35, pos := "law.go:108", after := #[{ on := 4, ground := Ground.data }, { on := 5, ground := Ground.data }, { on := 4, ground := Ground.chain }], guard := none },
      { dst := some 69, op := Op.move (Operand.tmp 76), type := 35, pos := "law.go:108", after := #[{ on := 6, ground := Ground.data }], guard := none },
      { dst := some 77, op := Op.extract (Operand.tmp 69) 0, type := 26, pos := "law.go:108", after := #[{ on := 7, ground := Ground.data }], guard := none },
      { dst := some 78, op := Op.extract (Operand.tmp 69) 1, type := 34, pos := "law.go:108", after := #[{ on := 7, ground := Ground.data }, { on := 11, ground := Ground.gcOnly Departure.lateStores }], guard := none },
      { dst := some 17, op := Op.alloc 26, type := 0, pos := "law.go:108", after := #[], guard := none },
      { dst := none, op := Op.store 26 (Operand.tmp 17) (Operand.tmp 77), type := 0, pos := "law.go:108", after := #[{ on := 10, ground := Ground.data }, { on := 8, ground := Ground.data }, { on := 6, ground := Ground.chain }, { on := 0, ground := Ground.phase }, { on := 1, ground := Ground.phase }, { on := 2, ground := Ground.phase }, { on := 3, ground := Ground.phase }, { on := 4, ground := Ground.phase }, { on := 5, ground := Ground.phase }, { on := 6, ground := Ground.phase }, { on := 7, ground := Ground.phase }, { on := 8, ground := Ground.phase }, { on := 9, ground := Ground.textOnly Departure.lateStores }, { on := 10, ground := Ground.phase }], guard := none },
      { dst := some 18, op := Op.assign (Operand.tmp 78), type := 34, pos := "law.go:108", after := #[{ on := 9, ground := Ground.data }, { on := 11, ground := Ground.chain }, { on := 0, ground := Ground.phase }, { on := 1, ground := Ground.phase }, { on := 2, ground := Ground.phase }, { on := 3, ground := Ground.phase }, { on := 4, ground := Ground.phase }, { on := 5, ground := Ground.phase }, { on := 6, ground := Ground.phase }, { on := 7, ground := Ground.phase }, { on := 8, ground := Ground.phase }, { on := 9, ground := Ground.phase }, { on := 10, ground := Ground.phase }, { on := 11, ground := Ground.phase }], guard := none }] true).wp Try.prog Q ac w := by
  have hnd : ([70, 71, 72, 73, 74, 75, 76, 69, 77, 78, 17, 18] : List Nat).Nodup := by decide
  have G : ∀ (v : Nat → Value) (t : Nat), t ∈ ([70, 71, 72, 73, 74, 75, 76, 69, 77, 78, 17, 18] : List Nat) → t ≤ 78 → (putAll ac [70, 71, 72, 73, 74, 75, 76, 69, 77, 78, 17, 18] v).eval (.tmp t) = v t := fun v t ht h => eval_putAll_mem (t := t) [70, 71, 72, 73, 74, 75, 76, 69, 77, 78, 17, 18] ac hnd ht (Nat.lt_of_le_of_lt h hsz)
  have E3 : ∀ v : Nat → Value, (putAll ac [70, 71, 72, 73, 74, 75, 76, 69, 77, 78, 17, 18] v).eval (.tmp 3) = Value.pointer (some ⟨g1, 0, none⟩) := fun v => (eval_putAll_not (v := v) [70, 71, 72, 73, 74, 75, 76, 69, 77, 78, 17, 18] ac (show 3 ∉ _ by decide)).trans e3
  have E9 : ∀ v : Nat → Value, (putAll ac [70, 71, 72, 73, 74, 75, 76, 69, 77, 78, 17, 18] v).eval (.tmp 9) = Value.pointer (some ⟨g2, 0, none⟩) := fun v => (eval_putAll_not (v := v) [70, 71, 72, 73, 74, 75, 76, 69, 77, 78, 17, 18] ac (show 9 ∉ _ by decide)).trans e9
  have E7 : ∀ v : Nat → Value, (putAll ac [70, 71, 72, 73, 74, 75, 76, 69, 77, 78, 17, 18] v).eval (.tmp 7) = Value.int .i64 (h : Int) := fun v => (eval_putAll_not (v := v) [70, 71, 72, 73, 74, 75, 76, 69, 77, 78, 17, 18] ac (show 7 ∉ _ by decide)).trans e7
  refine wp_region_flow 26 #[.bool false, .slice none 0 0, .slice none 0 0] [70, 71, 72, 73, 74, 75, 76, 69, 77, 78, 17, 18] 10 11 17 ({ dst := some 17, op := Op.alloc 26, type := 0, pos := "law.go:108", after := #[], guard := none }) ({ dst := none, op := Op.store 26 (Operand.tmp 17) (Operand.tmp 77), type := 0, pos := "law.go:108", after := #[{ on := 10, ground := Ground.data }, { on := 8, ground := Ground.data }, { on := 6, ground := Ground.chain }, { on := 0, ground := Ground.phase }, { on := 1, ground := Ground.phase }, { on := 2, ground := Ground.phase }, { on := 3, ground := Ground.phase }, { on := 4, ground := Ground.phase }, { on := 5, ground := Ground.phase }, { on := 6, ground := Ground.phase }, { on := 7, ground := Ground.phase }, { on := 8, ground := Ground.phase }, { on := 9, ground := Ground.textOnly Departure.lateStores }, { on := 10, ground := Ground.phase }], guard := none }) (F_shigh s t A A' B B' n c n' c' m d m' d' va vu h) (fun cs w => ∃ v, (fun u => ∃ R, u = inQ R h ∧ IsHigh (va * (vu * vu)) h R) v ∧ ∃ s A n c B m d, cs = #[.bool s, .slice A n c, .slice B m d] ∧ QG w s A n c B m d v (40)) (by kernel_rfl) (by kernel_rfl) rfl hnd rfl rfl rfl rfl ?_ rfl rfl ⟨{ on := 10, ground := Ground.data }, by simp, rfl, rfl⟩ ?_ (free3 _ _ _ _ _ _ _) (fun e w' => run_allocQ) ?_ ?_ ?_ ?_
  · intro i o h1 h2
    match i, h1 with
    | 0, h1 => cases h1; cases h2
    | 1, h1 => cases h1; cases h2
    | 2, h1 => cases h1; cases h2
    | 3, h1 => cases h1; cases h2
    | 4, h1 => cases h1; cases h2
    | 5, h1 => cases h1; cases h2
    | 6, h1 => cases h1; cases h2
    | 7, h1 => cases h1; cases h2
    | 8, h1 => cases h1; cases h2
    | 9, h1 => cases h1; cases h2
    | 10, h1 => cases h1; cases h2
    | 11, h1 => cases h1; rfl
    | 12, h1 => cases h1; cases h2
    | i + 13, h1 => cases h1
  · intro t
    unfold F_shigh
    split <;> first | exact stays_eq _ | exact stays_q _ _ | exact stays_z _ _ | exact stays_qe _ _ | exact stays_qs _ _ | exact stays_true
  · intro i o t v w' ho hia hd J0 hf
    have a := a.below J0
    have u := u.below J0
    have XA := XA.below J0
    have XU := XU.below J0
    match i, ho with
    | 0, ho =>
      obtain rfl : { dst := some 70, op := Op.load 26 (Operand.tmp 3), type := 26, pos := "law.go:108", after := #[], guard := none } = o := Option.some.inj ho
      cases hd
      refine wpOp_plain' (o := { dst := some 70, op := Op.load 26 (Operand.tmp 3), type := 26, pos := "law.go:108", after := #[], guard := none }) rfl rfl ?_
      unfold Oper.wp
      rw [run_loadQ (E3 v) XA.c0 XA.c1 XA.c2, Oper.upon_value]
      exact ⟨_, rfl, Below.refl _ _, rfl⟩
    | 1, ho =>
      obtain rfl : { dst := some 71, op := Op.load 26 (Operand.tmp 9), type := 26, pos := "law.go:108", after := #[], guard := none } = o := Option.some.inj ho
      cases hd
      refine wpOp_plain' (o := { dst := some 71, op := Op.load 26 (Operand.tmp 9), type := 26, pos := "law.go:108", after := #[], guard := none }) rfl rfl ?_
      unfold Oper.wp
      rw [run_loadQ (E9 v) XU.c0 XU.c1 XU.c2, Oper.upon_value]
      exact ⟨_, rfl, Below.refl _ _, rfl⟩
    | 2, ho =>
      obtain rfl : { dst := some 72, op := Op.load 26 (Operand.tmp 9), type := 26, pos := "law.go:108", after := #[], guard := none } = o := Option.some.inj ho
      cases hd
      refine wpOp_plain' (o := { dst := some 72, op := Op.load 26 (Operand.tmp 9), type := 26, pos := "law.go:108", after := #[], guard := none }) rfl rfl ?_
      unfold Oper.wp
      rw [run_loadQ (E9 v) XU.c0 XU.c1 XU.c2, Oper.upon_value]
      exact ⟨_, rfl, Below.refl _ _, rfl⟩
    | 3, ho =>
      obtain rfl : { dst := some 73, op := Op.call { callee := Callee.value (Operand.func 10), args := #[Operand.tmp 71, Operand.tmp 72], argTypes := #[26, 26] }, type := 26, pos := "law.go:108", after := #[{ on := 1, ground := Ground.data }, { on := 2, ground := Ground.data }], guard := none } = o := Option.some.inj ho
      cases hd
      have f71 : v 71 = Value.agg #[.bool t, .slice B m d, .slice B' m' d'] := hf { on := 1, ground := Ground.data } (by simp) rfl _ 71 rfl rfl (by decide)
      have f72 : v 72 = Value.agg #[.bool t, .slice B m d, .slice B' m' d'] := hf { on := 2, ground := Ground.data } (by simp) rfl _ 72 rfl rfl (by decide)
      refine wpOp_plain' (o := { dst := some 73, op := Op.call { callee := Callee.value (Operand.func 10), args := #[Operand.tmp 71, Operand.tmp 72], argTypes := #[26, 26] }, type := 26, pos := "law.go:108", after := #[{ on := 1, ground := Ground.data }, { on := 2, ground := Ground.data }], guard := none }) rfl rfl ?_
      unfold Oper.wp
      rw [rc_gesso_rat_Mul ((G v 71 (by decide) (by decide)).trans f71) ((G v 72 (by decide) (by decide)).trans f72) rfl, Oper.upon_enter]
      refine (rmul_q u u (by decide) (by decide) (by decide) (by decide) (by decide)).mono ?_
      rintro e w1 ⟨s1, A1, n1, c1, B1, m1, d1, rfl, hq, hh⟩
      exact ⟨_, rfl, hh, s1, A1, n1, c1, B1, m1, d1, rfl, hq⟩
    | 4, ho =>
      obtain rfl : { dst := some 74, op := Op.call { callee := Callee.value (Operand.func 10), args := #[Operand.tmp 70, Operand.tmp 73], argTypes := #[26, 26] }, type := 26, pos := "law.go:108", after := #[{ on := 0, ground := Ground.data }, { on := 3, ground := Ground.data }, { on := 3, ground := Ground.chain }], guard := none } = o := Option.some.inj ho
      cases hd
      have f70 : v 70 = Value.agg #[.bool s, .slice A n c, .slice A' n' c'] := hf { on := 0, ground := Ground.data } (by simp) rfl _ 70 rfl rfl (by decide)
      have h73 : VQ (vu * vu) (1 + 1) (v 73) w' := hf { on := 3, ground := Ground.data } (by simp) rfl _ 73 rfl rfl (by decide)
      obtain ⟨s73, A73, n73, c73, B73, m73, d73, f73, q73⟩ := h73
      refine wpOp_plain' (o := { dst := some 74, op := Op.call { callee := Callee.value (Operand.func 10), args := #[Operand.tmp 70, Operand.tmp 73], argTypes := #[26, 26] }, type := 26, pos := "law.go:108", after := #[{ on := 0, ground := Ground.data }, { on := 3, ground := Ground.data }, { on := 3, ground := Ground.chain }], guard := none }) rfl rfl ?_
      unfold Oper.wp
      rw [rc_gesso_rat_Mul ((G v 70 (by decide) (by decide)).trans f70) ((G v 73 (by decide) (by decide)).trans f73) rfl, Oper.upon_enter]
      refine (rmul_q a q73.qr (by decide) (by decide) (by decide) (by decide) (by decide)).mono ?_
      rintro e w1 ⟨s1, A1, n1, c1, B1, m1, d1, rfl, hq, hh⟩
      exact ⟨_, rfl, hh, s1, A1, n1, c1, B1, m1, d1, rfl, hq⟩
    | 5, ho =>
      obtain rfl : { dst := some 75, op := Op.move (Operand.tmp 7), type := 3, pos := "law.go:108", after := #[], guard := none } = o := Option.some.inj ho
      cases hd
      refine wpOp_plain' (o := { dst := some 75, op := Op.move (Operand.tmp 7), type := 3, pos := "law.go:108", after := #[], guard := none }) rfl rfl ?_
      unfold Oper.wp
      rw [run_move (E7 v), Oper.upon_value]
      exact ⟨_, rfl, Below.refl _ _, rfl⟩
    | 6, ho =>
      obtain rfl : { dst := some 76, op := Op.call { callee := Callee.value (Operand.func 14), args := #[Operand.tmp 74, Operand.tmp 75], argTypes := #[26, 3] }, type := 35, pos := "law.go:108", after := #[{ on := 4, ground := Ground.data }, { on := 5, ground := Ground.data }, { on := 4, ground := Ground.chain }], guard := none } = o := Option.some.inj ho
      cases hd
      have h74 : VQ (va * (vu * vu)) (8 + (1 + 1)) (v 74) w' := hf { on := 4, ground := Ground.data } (by simp) rfl _ 74 rfl rfl (by decide)
      obtain ⟨s74, A74, n74, c74, B74, m74, d74, f74, q74⟩ := h74
      have f75 : v 75 = Value.int .i64 (h : Int) := hf { on := 5, ground := Ground.data } (by simp) rfl _ 75 rfl rfl (by decide)
      refine wpOp_plain' (o := { dst := some 76, op := Op.call { callee := Callee.value (Operand.func 14), args := #[Operand.tmp 74, Operand.tmp 75], argTypes := #[26, 3] }, type := 35, pos := "law.go:108", after := #[{ on := 4, ground := Ground.data }, { on := 5, ground := Ground.data }, { on := 4, ground := Ground.chain }], guard := none }) rfl rfl ?_
      unfold Oper.wp
      rw [rc_gesso_root_High ((G v 74 (by decide) (by decide)).trans f74) ((G v 75 (by decide) (by decide)).trans f75) rfl, Oper.upon_enter]
      refine (high_s h q74.qr hv (by decide) (by decide) hh).mono ?_
      rintro e w1 ⟨R, hR, s1, A1, n1, c1, B1, m1, d1, rfl, hq, hh⟩
      exact ⟨_, rfl, hh, _, ⟨R, rfl, hR⟩, s1, A1, n1, c1, B1, m1, d1, rfl, hq⟩
    | 7, ho =>
      obtain rfl : { dst := some 69, op := Op.move (Operand.tmp 76), type := 35, pos := "law.go:108", after := #[{ on := 6, ground := Ground.data }], guard := none } = o := Option.some.inj ho
      cases hd
      have f := hf { on := 6, ground := Ground.data } (by simp) rfl _ 76 rfl rfl (by decide)
      refine wpOp_plain' (o := { dst := some 69, op := Op.move (Operand.tmp 76), type := 35, pos := "law.go:108", after := #[{ on := 6, ground := Ground.data }], guard := none }) rfl rfl ?_
      unfold Oper.wp
      rw [run_move (G v 76 (by decide) (by decide)), Oper.upon_value]
      exact ⟨_, rfl, Below.refl _ _, f⟩
    | 8, ho =>
      obtain rfl : { dst := some 77, op := Op.extract (Operand.tmp 69) 0, type := 26, pos := "law.go:108", after := #[{ on := 7, ground := Ground.data }], guard := none } = o := Option.some.inj ho
      cases hd
      have h69 : VQE (fun u => ∃ R, u = inQ R h ∧ IsHigh (va * (vu * vu)) h R) (40) (v 69) w' := hf { on := 7, ground := Ground.data } (by simp) rfl _ 69 rfl rfl (by decide)
      obtain ⟨r69, hr69, s69, A69, n69, c69, B69, m69, d69, f69, q69⟩ := h69
      refine wpOp_plain' (o := { dst := some 77, op := Op.extract (Operand.tmp 69) 0, type := 26, pos := "law.go:108", after := #[{ on := 7, ground := Ground.data }], guard := none }) rfl rfl ?_
      unfold Oper.wp
      rw [run_ext0 ((G v 69 (by decide) (by decide)).trans f69), Oper.upon_value]
      exact ⟨_, rfl, Below.refl _ _, r69, hr69, s69, A69, n69, c69, B69, m69, d69, rfl, q69⟩
    | 9, ho =>
      obtain rfl : { dst := some 78, op := Op.extract (Operand.tmp 69) 1, type := 34, pos := "law.go:108", after := #[{ on := 7, ground := Ground.data }, { on := 11, ground := Ground.gcOnly Departure.lateStores }], guard := none } = o := Option.some.inj ho
      cases hd
      have h69 : VQE (fun u => ∃ R, u = inQ R h ∧ IsHigh (va * (vu * vu)) h R) (40) (v 69) w' := hf { on := 7, ground := Ground.data } (by simp) rfl _ 69 rfl rfl (by decide)
      obtain ⟨r69, hr69, s69, A69, n69, c69, B69, m69, d69, f69, q69⟩ := h69
      refine wpOp_plain' (o := { dst := some 78, op := Op.extract (Operand.tmp 69) 1, type := 34, pos := "law.go:108", after := #[{ on := 7, ground := Ground.data }, { on := 11, ground := Ground.gcOnly Departure.lateStores }], guard := none }) rfl rfl ?_
      unfold Oper.wp
      rw [run_ext1 ((G v 69 (by decide) (by decide)).trans f69), Oper.upon_value]
      exact ⟨_, rfl, Below.refl _ _, rfl⟩
    | 10, ho => exact absurd rfl hia
    | 11, ho => cases ho; cases hd
    | 12, ho =>
      obtain rfl : { dst := some 18, op := Op.assign (Operand.tmp 78), type := 34, pos := "law.go:108", after := #[{ on := 9, ground := Ground.data }, { on := 11, ground := Ground.chain }, { on := 0, ground := Ground.phase }, { on := 1, ground := Ground.phase }, { on := 2, ground := Ground.phase }, { on := 3, ground := Ground.phase }, { on := 4, ground := Ground.phase }, { on := 5, ground := Ground.phase }, { on := 6, ground := Ground.phase }, { on := 7, ground := Ground.phase }, { on := 8, ground := Ground.phase }, { on := 9, ground := Ground.phase }, { on := 10, ground := Ground.phase }, { on := 11, ground := Ground.phase }], guard := none } = o := Option.some.inj ho
      cases hd
      have f := hf { on := 9, ground := Ground.data } (by simp) rfl _ 78 rfl rfl (by decide)
      refine wpOp_plain' (o := { dst := some 18, op := Op.assign (Operand.tmp 78), type := 34, pos := "law.go:108", after := #[{ on := 9, ground := Ground.data }, { on := 11, ground := Ground.chain }, { on := 0, ground := Ground.phase }, { on := 1, ground := Ground.phase }, { on := 2, ground := Ground.phase }, { on := 3, ground := Ground.phase }, { on := 4, ground := Ground.phase }, { on := 5, ground := Ground.phase }, { on := 6, ground := Ground.phase }, { on := 7, ground := Ground.phase }, { on := 8, ground := Ground.phase }, { on := 9, ground := Ground.phase }, { on := 10, ground := Ground.phase }, { on := 11, ground := Ground.phase }], guard := none }) rfl rfl ?_
      unfold Oper.wp
      rw [run_assign (G v 78 (by decide) (by decide)), Oper.upon_value]
      exact ⟨_, rfl, Below.refl _ _, f⟩
    | i + 13, ho => cases ho
  · intro v w' g J0 p1 p3 hf
    have h1 : VQS (fun u => ∃ R, u = inQ R h ∧ IsHigh (va * (vu * vu)) h R) (40) (v 77) w' := hf { on := 8, ground := Ground.data } (by simp) rfl _ 77 rfl rfl (by decide)
    rw [← G v 77 (by decide) (by decide)] at h1
    refine store_qs (S := fun u => ∃ R, u = inQ R h ∧ IsHigh (va * (vu * vu)) h R) (k := 40) (ac := putAll ac [70, 71, 72, 73, 74, 75, 76, 69, 77, 78, 17, 18] v) (z := Operand.tmp 77) ?_ ?_ ?_
    · exact (G v 17 (by decide) (by decide)).trans p1
    · exact h1
    · exact p3
  · rintro cs w1 w2 ⟨u, hu, s1, A1, n1, c1, B1, m1, d1, h1, h2⟩ hb
    exact ⟨u, hu, s1, A1, n1, c1, B1, m1, d1, h1, h2.below hb⟩
  · rintro v w' g cs J0 hF p1 p2 p3 ⟨u, hu, s1, A1, n1, c1, B1, m1, d1, h1, h2⟩
    subst h1
    exact hend v w' g _ _ _ _ _ _ _ _ hu h2 p3.at_ J0 p2 p1 (hF 12 _ 18 rfl rfl (by decide))
end Go.Proofs.Ytmcijgnbdnpanaa
