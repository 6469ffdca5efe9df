/- RootBrackets: part 12. -/
import Derived.IntWalk
import Derived.Laws.LoneSync
import Derived.Test.YtlkjkhpjhllapaaGreatKRootBrackets6
import Derived.Test.YtlkjkhpjhllapaaGreatKRootBrackets9
import Derived.Test.YtlkjkhpjhllapaaGreatKRootBrackets11
set_option linter.unusedVariables false
namespace Go.Proofs.YtlkjkhpjhllapaaGreat
open Go Go.RowKit
theorem run_storeI {e : Operand → Value} {x z : Operand} {d : Option Tmp} {y g : Nat} {pos : String} {af : Array Edge} {w : World} {s : Bool} {A : Option Addr} {n c : Nat} {u0 v0 : Value} (h : e x = .pointer (some ⟨g, 0, none⟩)) (hz : e z = .agg #[.bool s, .slice A n c]) (h0 : w.cell? ⟨g, 0, none⟩ = some u0) (h1 : w.cell? ⟨g, 1, none⟩ = some v0) (f0 : w.frozen? ⟨g, 0, none⟩ = false) (f1 : w.frozen? ⟨g, 1, none⟩ = false) :
    (execOp e { dst := d, op := Op.store 24 x z, type := y, pos := pos, after := af, guard := none }).run Tryz.prog w = .ok .skip ((w.setCell ⟨g, 0, none⟩ (.bool s)).setCell ⟨g, 1, none⟩ (.slice A n c)) := by
  go_simp
theorem run_allocI {e : Operand → Value} {d : Option Tmp} {y : Nat} {pos : String} {af : Array Edge} {w : World} :
    (execOp e { dst := d, op := Op.alloc 24, type := y, pos := pos, after := af, guard := none }).run Tryz.prog w = .ok (.value (.pointer (some ⟨w.heap.size, 0, none⟩))) (w.alloc (.cells #[.bool false, .slice none 0 0] 24)) := by
  go_simp
theorem run_ext3 {e : Operand → Value} {x : Operand} {d : Option Tmp} {y : Nat} {pos : String} {af : Array Edge} {w : World} {u v z : Value} (i : Nat) (r : Value) (h : e x = .tuple #[u, v, z]) (hr : (#[u, v, z] : Array Value)[i]? = some r) :
    (execOp e { dst := d, op := Op.extract x i, type := y, pos := pos, after := af, guard := none }).run Tryz.prog w = .ok (.value r) w := by
  match i, hr with
  | 0, hr => cases hr; go_simp
  | 1, hr => cases hr; go_simp
  | 2, hr => cases hr; go_simp
theorem run_callNeg {e : Operand → Value} {x : Operand} {d : Option Tmp} {y : Nat} {pos : String} {af : Array Edge} {w : World} {u : Value} (h : e x = u) (h3 : e (.func 118) = .func (.func 118) #[] #[]) :
    (execOp e { dst := d, op := Op.call { callee := Callee.value (Operand.func 118), args := #[x], argTypes := #[24] }, type := y, pos := pos, after := af, guard := none }).run Tryz.prog w = .ok (.enter 118 #[u]) w := by
  go_simp
theorem run_callDM {e : Operand → Value} {x z : Operand} {d : Option Tmp} {y : Nat} {pos : String} {af : Array Edge} {w : World} {u v : Value} (h1 : e x = u) (h2 : e z = v) (h3 : e (.func 163) = .func (.func 163) #[] #[]) :
    (execOp e { dst := d, op := Op.call { callee := Callee.value (Operand.func 163), args := #[x, z], argTypes := #[24, 24] }, type := y, pos := pos, after := af, guard := none }).run Tryz.prog w = .ok (.enter 163 #[u, v]) w := by
  go_simp
def IsZ (w : World) (v : Value) (x : Int) (k : Nat) : Prop := ∃ s A n c, v = .agg #[.bool s, .slice A n c] ∧ ZR w s A n c x k
def IsDM (w : World) (v : Value) (x : Int) (k : Nat) : Prop := ∃ s A n c s' A' n' c', v = .tuple #[.agg #[.bool s, .slice A n c], .agg #[.bool s', .slice A' n' c'], .int .i64 0] ∧ ZG w s A n c x k
def IBox (w : World) (base : Nat) (p cont : Value) (full : Bool) : Prop := ∃ g s A n c, p = .pointer (some ⟨g, 0, none⟩) ∧ base ≤ g ∧ Bx w g (.bool s) (.slice A n c) ∧ (full = true → cont = .agg #[.bool s, .slice A n c])
theorem IsZ.below {w w' : World} {v : Value} {x : Int} {k : Nat} (h : IsZ w v x k) (hb : Below w.heap.size w w') : IsZ w' v x k := by
  obtain ⟨s, A, n, c, h1, h2⟩ := h; exact ⟨s, A, n, c, h1, h2.below hb⟩
theorem IsDM.below {w w' : World} {v : Value} {x : Int} {k : Nat} (h : IsDM w v x k) (hb : Below w.heap.size w w') : IsDM w' v x k := by
  obtain ⟨s, A, n, c, s', A', n', c', h1, h2⟩ := h; exact ⟨s, A, n, c, s', A', n', c', h1, h2.below hb⟩
theorem IBox.below {w w' : World} {base : Nat} {p cont : Value} {full : Bool} (h : IBox w base p cont full) (hb : Below w.heap.size w w') : IBox w' base p cont full := by
  obtain ⟨g, s, A, n, c, h1, h2, h3, h4⟩ := h; exact ⟨g, s, A, n, c, h1, h2, h3.below hb, h4⟩
theorem IsZ.store {w : World} {v : Value} {x : Int} {k g n0 c0 : Nat} {s0 : Bool} {A0 : Option Addr} (h : IsZ w v x k) (Z : Bx w g (.bool s0) (.slice A0 n0 c0)) (y z : Value) : IsZ ((w.setCell ⟨g, 0, none⟩ y).setCell ⟨g, 1, none⟩ z) v x k := by
  obtain ⟨s, A, n, c, h1, h2⟩ := h; exact ⟨s, A, n, c, h1, h2.set2x Z y z⟩
theorem IsDM.store {w : World} {v : Value} {x : Int} {k g n0 c0 : Nat} {s0 : Bool} {A0 : Option Addr} (h : IsDM w v x k) (Z : Bx w g (.bool s0) (.slice A0 n0 c0)) (y z : Value) : IsDM ((w.setCell ⟨g, 0, none⟩ y).setCell ⟨g, 1, none⟩ z) v x k := by
  obtain ⟨s, A, n, c, s', A', n', c', h1, h2⟩ := h; exact ⟨s, A, n, c, s', A', n', c', h1, h2.set2x Z y z⟩
theorem IBox.other {w : World} {base g : Nat} {p cont : Value} {full : Bool} (h : IBox w base p cont full) (hne : p ≠ .pointer (some ⟨g, 0, none⟩)) (y z : Value) : IBox ((w.setCell ⟨g, 0, none⟩ y).setCell ⟨g, 1, none⟩ z) base p cont full := by
  obtain ⟨g', s, A, n, c, h1, h2, h3, h4⟩ := h
  exact ⟨g', s, A, n, c, h1, h2, h3.other (fun q => hne (by rw [h1, q])) y z, h4⟩
def JC (w : World) (VX VY : Value) (x z : Int) (k : Nat) (D : Nat → Bool) (v : Nat → Value) (w' : World) : Prop :=
  Below w.heap.size w w' ∧ (D 0 = true → v 14 = VX) ∧ (D 1 = true → IsZ w' (v 15) x k) ∧ (D 2 = true → v 16 = VY) ∧ (D 3 = true → IsDM w' (v 17) z (k + 1)) ∧ (D 4 = true → v 13 = v 17) ∧
  (D 5 = true → ∃ r e, v 17 = .tuple #[v 18, r, e]) ∧ (D 6 = true → ∃ q e, v 17 = .tuple #[q, v 19, e]) ∧ (D 8 = true → IBox w' w.heap.size (v 5) (v 18) (D 10)) ∧ (D 9 = true → IBox w' w.heap.size (v 6) (v 19) false) ∧
  (D 8 = true → D 9 = true → v 5 ≠ v 6) ∧ (D 10 = true → D 5 = true ∧ D 8 = true) ∧ ((D 4 = true ∨ D 5 = true ∨ D 6 = true) → D 3 = true)
set_option maxRecDepth 100000 in
set_option maxHeartbeats 4000000 in
theorem ceil_region {id : Nat} {a : Act} {w : World} {Q : Exit → Act → World → Prop} {g1 g2 : Nat} {s t : Bool} {A B : Option Addr} {n c m d k : Nat} {p q : Int}
    (hsz : 20 < a.tmps.size) (e1 : a.eval (.tmp 3) = .pointer (some ⟨g1, 0, none⟩)) (e2 : a.eval (.tmp 4) = .pointer (some ⟨g2, 0, none⟩)) (XA : Bx w g1 (.bool s) (.slice A n c)) (XB : Bx w g2 (.bool t) (.slice B m d)) (X : ZR w s A n c p k) (Y : ZR w t B m d q k) (hq : q ≠ 0) (hk : k ≤ 900) (hk1 : 1 ≤ k)
    (hend : ∀ (v : Nat → Value) (w' : World) (g : Nat) (s1 : Bool) (A1 : Option Addr) (n1 d1 : Nat), v 5 = .pointer (some ⟨g, 0, none⟩) → w.heap.size ≤ g → Bx w' g (.bool s1) (.slice A1 n1 d1) → ZG w' s1 A1 n1 d1 ((-p).fdiv q) (k + 1) → Below w.heap.size w w' → Q .normal (putAll a [14, 15, 16, 17, 13, 18, 19, 20, 5, 6, 7] v) w') :
    (Code.region id #[{ dst := some 14, op := Op.load 24 (Operand.tmp 3), type := 24, pos := "rat.go:113", after := #[], guard := none },
      { dst := some 15, op := Op.call { callee := Callee.value (Operand.func 118), args := #[Operand.tmp 14], argTypes := #[24] }, type := 24, pos := "rat.go:113", after := #[{ on := 0, ground := Ground.data }], guard := none },
      { dst := some 16, op := Op.load 24 (Operand.tmp 4), type := 24, pos := "rat.go:113", after := #[], guard := none },
      { dst := some 17, op := Op.call { callee := Callee.value (Operand.func 163), args := #[Operand.tmp 15, Operand.tmp 16], argTypes := #[24, 24] }, type := 188, pos := "rat.go:113", after := #[{ on := 1, ground := Ground.data }, { on := 2, ground := Ground.data }, { on := 1, ground := Ground.chain }], guard := none },
      { dst := some 13, op := Op.move (Operand.tmp 17), type := 188, pos := "rat.go:113", after := #[{ on := 3, ground := Ground.data }], guard := none },
      { dst := some 18, op := Op.extract (Operand.tmp 13) 0, type := 24, pos := "rat.go:113", after := #[{ on := 4, ground := Ground.data }], guard := none },
      { dst := some 19, op := Op.extract (Operand.tmp 13) 1, type := 24, pos := "rat.go:113", after := #[{ on := 4, ground := Ground.data }, { on := 10, ground := Ground.gcOnly Departure.lateStores }], guard := none },
      { dst := some 20, op := Op.extract (Operand.tmp 13) 2, type := 37, pos := "rat.go:113", after := #[{ on := 4, ground := Ground.data }, { on := 11, ground := Ground.gcOnly Departure.lateStores }], guard := none },
      { dst := some 5, op := Op.alloc 24, type := 0, pos := "rat.go:113", after := #[], guard := none },
      { dst := some 6, op := Op.alloc 24, type := 0, pos := "rat.go:113", after := #[], guard := none },
      { dst := none, op := Op.store 24 (Operand.tmp 5) (Operand.tmp 18), type := 0, pos := "rat.go:113", after := #[{ on := 8, ground := Ground.data }, { on := 5, ground := Ground.data }, { on := 3, ground := Ground.chain }, { on := 0, ground := Ground.phase }, { on := 1, ground := Ground.phase }, { on := 2, ground := Ground.phase }, { on := 3, ground := Ground.phase }, { on := 4, ground := Ground.phase }, { on := 5, ground := Ground.phase }, { on := 6, ground := Ground.textOnly Departure.lateStores }, { on := 7, ground := Ground.textOnly Departure.lateStores }, { on := 8, ground := Ground.phase }, { on := 9, ground := Ground.phase }], guard := none },
      { dst := none, op := Op.store 24 (Operand.tmp 6) (Operand.tmp 19), type := 0, pos := "rat.go:113", after := #[{ on := 9, ground := Ground.data }, { on := 6, ground := Ground.data }, { on := 10, ground := Ground.chain }, { on := 0, ground := Ground.phase }, { on := 1, ground := Ground.phase }, { on := 2, ground := Ground.phase }, { on := 3, ground := Ground.phase }, { on := 4, ground := Ground.phase }, { on := 5, ground := Ground.phase }, { on := 6, ground := Ground.phase }, { on := 7, ground := Ground.textOnly Departure.lateStores }, { on := 8, ground := Ground.phase }, { on := 9, ground := Ground.phase }, { on := 10, ground := Ground.phase }], guard := none },
      { dst := some 7, op := Op.assign (Operand.tmp 20), type := 37, pos := "rat.go:113", after := #[{ on := 7, ground := Ground.data }, { on := 11, ground := Ground.chain }, { on := 0, ground := Ground.phase }, { on := 1, ground := Ground.phase }, { on := 2, ground := Ground.phase }, { on := 3, ground := Ground.phase }, { on := 4, ground := Ground.phase }, { on := 5, ground := Ground.phase }, { on := 6, ground := Ground.phase }, { on := 7, ground := Ground.phase }, { on := 8, ground := Ground.phase }, { on := 9, ground := Ground.phase }, { on := 10, ground := Ground.phase }, { on := 11, ground := Ground.phase }], guard := none }] true).wp Tryz.prog Q a w := by
  have hnd : [14, 15, 16, 17, 13, 18, 19, 20, 5, 6, 7].Nodup := by decide
  refine wp_region_inv [14, 15, 16, 17, 13, 18, 19, 20, 5, 6, 7] (JC w (.agg #[.bool s, .slice A n c]) (.agg #[.bool t, .slice B m d]) (-p) ((-p).fdiv q) k) rfl (by kernel_rfl) ?_ ?_ ?_ ?_
  · refine ⟨(Below.refl _ _).drew, ?_, ?_, ?_, ?_, ?_, ?_, ?_, ?_, ?_, ?_, ?_, ?_⟩ <;> intro h <;> first | (exact absurd h (by decide)) | (rcases h with h | h | h <;> exact absurd h (by decide))
  · intro D D' v w' hD h
    unfold JC at h ⊢
    rw [← hD 0 (by show 0 < 13; omega), ← hD 1 (by show 1 < 13; omega), ← hD 2 (by show 2 < 13; omega), ← hD 3 (by show 3 < 13; omega), ← hD 4 (by show 4 < 13; omega), ← hD 5 (by show 5 < 13; omega), ← hD 6 (by show 6 < 13; omega), ← hD 8 (by show 8 < 13; omega), ← hD 9 (by show 9 < 13; omega), ← hD 10 (by show 10 < 13; omega)]
    exact h
  · intro i o D v w' ho hDi hall hJ
    obtain ⟨J0, J1, J2, J3, J4, J5, J6, J7, J8, J9, J10, J11, J12⟩ := hJ
    have E1 := (eval_putAll_not (v := v) [14, 15, 16, 17, 13, 18, 19, 20, 5, 6, 7] a (show 3 ∉ _ by decide)).trans e1
    have E2 := (eval_putAll_not (v := v) [14, 15, 16, 17, 13, 18, 19, 20, 5, 6, 7] a (show 4 ∉ _ by decide)).trans e2
    have F : ∀ t, t ∈ [14, 15, 16, 17, 13, 18, 19, 20, 5, 6, 7] → t ≤ 20 → (putAll a [14, 15, 16, 17, 13, 18, 19, 20, 5, 6, 7] v).eval (.tmp t) = v t := fun t ht h => eval_putAll_mem (t := t) [14, 15, 16, 17, 13, 18, 19, 20, 5, 6, 7] a hnd ht (Nat.lt_of_le_of_lt h hsz)
    have X' := X.below J0
    have Y' := Y.below J0
    have XA' := XA.below J0
    have XB' := XB.below J0
    match i, ho with
    | 0, ho =>
      have hall' : ∀ e ∈ ({ dst := some 14, op := Op.load 24 (Operand.tmp 3), type := 24, pos := "rat.go:113", after := #[], guard := none } : Oper).after, Region.binds .any e = true → D e.on = true := by cases ho; exact hall
      refine wpOp_plain (o := { dst := some 14, op := Op.load 24 (Operand.tmp 3), type := 24, pos := "rat.go:113", after := #[], guard := none }) rfl rfl ?_
      unfold Oper.wp
      rw [run_loadI E1 XA'.c0 XA'.c1, Oper.upon_value]
      refine ⟨_, putAll_put _ _ _ _ _ hnd (by decide), J0, ?_, ?_, ?_, ?_, ?_, ?_, ?_, ?_, ?_, ?_, ?_, ?_⟩
      · exact fun _ => rfl
      · exact J2
      · exact J3
      · exact J4
      · exact J5
      · exact J6
      · exact J7
      · exact J8
      · exact J9
      · exact J10
      · exact J11
      · exact J12
    | 1, ho =>
      have hall' : ∀ e ∈ ({ dst := some 15, op := Op.call { callee := Callee.value (Operand.func 118), args := #[Operand.tmp 14], argTypes := #[24] }, type := 24, pos := "rat.go:113", after := #[{ on := 0, ground := Ground.data }], guard := none } : Oper).after, Region.binds .any e = true → D e.on = true := by cases ho; exact hall
      have h0 := J1 (hall' { on := 0, ground := Ground.data } (by simp) rfl)
      refine wpOp_plain (o := { dst := some 15, op := Op.call { callee := Callee.value (Operand.func 118), args := #[Operand.tmp 14], argTypes := #[24] }, type := 24, pos := "rat.go:113", after := #[{ on := 0, ground := Ground.data }], guard := none }) rfl rfl ?_
      unfold Oper.wp
      rw [run_callNeg ((F 14 (by decide) (by decide)).trans h0) rfl, Oper.upon_enter]
      refine (zneg_zr X' (by omega)).mono ?_
      rintro e w1 ⟨s1, A1, n1, c1, rfl, hg, hb⟩
      refine ⟨_, putAll_put _ _ _ _ _ hnd (by decide), bend J0 hb, ?_, ?_, ?_, ?_, ?_, ?_, ?_, ?_, ?_, ?_, ?_, ?_⟩
      · exact J1
      · exact fun _ => ⟨s1, A1, n1, c1, rfl, hg⟩
      · exact J3
      · exact fun h => (J4 h).below hb
      · exact J5
      · exact J6
      · exact J7
      · exact fun h => (J8 h).below hb
      · exact fun h => (J9 h).below hb
      · exact J10
      · exact J11
      · exact J12
    | 2, ho =>
      have hall' : ∀ e ∈ ({ dst := some 16, op := Op.load 24 (Operand.tmp 4), type := 24, pos := "rat.go:113", after := #[], guard := none } : Oper).after, Region.binds .any e = true → D e.on = true := by cases ho; exact hall
      refine wpOp_plain (o := { dst := some 16, op := Op.load 24 (Operand.tmp 4), type := 24, pos := "rat.go:113", after := #[], guard := none }) rfl rfl ?_
      unfold Oper.wp
      rw [run_loadI E2 XB'.c0 XB'.c1, Oper.upon_value]
      refine ⟨_, putAll_put _ _ _ _ _ hnd (by decide), J0, ?_, ?_, ?_, ?_, ?_, ?_, ?_, ?_, ?_, ?_, ?_, ?_⟩
      · exact J1
      · exact J2
      · exact fun _ => rfl
      · exact J4
      · exact J5
      · exact J6
      · exact J7
      · exact J8
      · exact J9
      · exact J10
      · exact J11
      · exact J12
    | 3, ho =>
      have hall' : ∀ e ∈ ({ dst := some 17, op := Op.call { callee := Callee.value (Operand.func 163), args := #[Operand.tmp 15, Operand.tmp 16], argTypes := #[24, 24] }, type := 188, pos := "rat.go:113", after := #[{ on := 1, ground := Ground.data }, { on := 2, ground := Ground.data }, { on := 1, ground := Ground.chain }], guard := none } : Oper).after, Region.binds .any e = true → D e.on = true := by cases ho; exact hall
      obtain ⟨s1, A1, n1, c1, u1, u2⟩ := J2 (hall' { on := 1, ground := Ground.data } (by simp) rfl)
      have h2 := J3 (hall' { on := 2, ground := Ground.data } (by simp) rfl)
      have n4 : ¬ D 4 = true := fun h => by have := J12 (.inl h); rw [hDi] at this; cases this
      have n5 : ¬ D 5 = true := fun h => by have := J12 (.inr (.inl h)); rw [hDi] at this; cases this
      have n6 : ¬ D 6 = true := fun h => by have := J12 (.inr (.inr h)); rw [hDi] at this; cases this
      refine wpOp_plain (o := { dst := some 17, op := Op.call { callee := Callee.value (Operand.func 163), args := #[Operand.tmp 15, Operand.tmp 16], argTypes := #[24, 24] }, type := 188, pos := "rat.go:113", after := #[{ on := 1, ground := Ground.data }, { on := 2, ground := Ground.data }, { on := 1, ground := Ground.chain }], guard := none }) rfl rfl ?_
      unfold Oper.wp
      rw [run_callDM ((F 15 (by decide) (by decide)).trans u1) ((F 16 (by decide) (by decide)).trans h2) rfl, Oper.upon_enter]
      refine (zdm_zg (k + 1) u2 Y' hq hk1 (by omega) (by omega) (by omega)).mono ?_
      rintro e w1 ⟨sq, Aq, nq, cq, sr, Ar, nr, cr, rfl, hg, hg2, hb⟩
      refine ⟨_, putAll_put _ _ _ _ _ hnd (by decide), bend J0 hb, ?_, ?_, ?_, ?_, ?_, ?_, ?_, ?_, ?_, ?_, ?_, ?_⟩
      · exact J1
      · exact fun h => (J2 h).below hb
      · exact J3
      · exact fun _ => ⟨sq, Aq, nq, cq, sr, Ar, nr, cr, rfl, hg⟩
      · exact fun h => absurd h n4
      · exact fun h => absurd h n5
      · exact fun h => absurd h n6
      · exact fun h => (J8 h).below hb
      · exact fun h => (J9 h).below hb
      · exact J10
      · exact J11
      · exact fun _ => rfl
    | 4, ho =>
      have hall' : ∀ e ∈ ({ dst := some 13, op := Op.move (Operand.tmp 17), type := 188, pos := "rat.go:113", after := #[{ on := 3, ground := Ground.data }], guard := none } : Oper).after, Region.binds .any e = true → D e.on = true := by cases ho; exact hall
      have d3 := hall' { on := 3, ground := Ground.data } (by simp) rfl
      refine wpOp_plain (o := { dst := some 13, op := Op.move (Operand.tmp 17), type := 188, pos := "rat.go:113", after := #[{ on := 3, ground := Ground.data }], guard := none }) rfl rfl ?_
      unfold Oper.wp
      rw [run_move (F 17 (by decide) (by decide)), Oper.upon_value]
      refine ⟨_, putAll_put _ _ _ _ _ hnd (by decide), J0, ?_, ?_, ?_, ?_, ?_, ?_, ?_, ?_, ?_, ?_, ?_, ?_⟩
      · exact J1
      · exact J2
      · exact J3
      · exact J4
      · exact fun _ => rfl
      · exact J6
      · exact J7
      · exact J8
      · exact J9
      · exact J10
      · exact J11
      · exact fun _ => d3
    | 5, ho =>
      have hall' : ∀ e ∈ ({ dst := some 18, op := Op.extract (Operand.tmp 13) 0, type := 24, pos := "rat.go:113", after := #[{ on := 4, ground := Ground.data }], guard := none } : Oper).after, Region.binds .any e = true → D e.on = true := by cases ho; exact hall
      have d4 := hall' { on := 4, ground := Ground.data } (by simp) rfl
      obtain ⟨sq, Aq, nq, cq, sr, Ar, nr, cr, u1, u2⟩ := J4 (J12 (.inl d4))
      have h5 := (J5 d4).trans u1
      have n10 : ¬ D 10 = true := fun h => by have := (J11 h).1; rw [hDi] at this; cases this
      refine wpOp_plain (o := { dst := some 18, op := Op.extract (Operand.tmp 13) 0, type := 24, pos := "rat.go:113", after := #[{ on := 4, ground := Ground.data }], guard := none }) rfl rfl ?_
      unfold Oper.wp
      rw [run_ext3 0 _ ((F 13 (by decide) (by decide)).trans h5) rfl, Oper.upon_value]
      refine ⟨_, putAll_put _ _ _ _ _ hnd (by decide), J0, ?_, ?_, ?_, ?_, ?_, ?_, ?_, ?_, ?_, ?_, ?_, ?_⟩
      · exact J1
      · exact J2
      · exact J3
      · exact J4
      · exact J5
      · exact fun _ => ⟨_, _, u1⟩
      · exact J7
      · intro h; obtain ⟨g, s0, A0, n0, c0, p1, p2, p3, _⟩ := J8 h; exact ⟨g, s0, A0, n0, c0, p1, p2, p3, fun q => absurd q n10⟩
      · exact J9
      · exact J10
      · exact fun h => absurd h n10
      · exact fun _ => J12 (.inl d4)
    | 6, ho =>
      have hall' : ∀ e ∈ ({ dst := some 19, op := Op.extract (Operand.tmp 13) 1, type := 24, pos := "rat.go:113", after := #[{ on := 4, ground := Ground.data }, { on := 10, ground := Ground.gcOnly Departure.lateStores }], guard := none } : Oper).after, Region.binds .any e = true → D e.on = true := by cases ho; exact hall
      have d4 := hall' { on := 4, ground := Ground.data } (by simp) rfl
      obtain ⟨sq, Aq, nq, cq, sr, Ar, nr, cr, u1, u2⟩ := J4 (J12 (.inl d4))
      have h5 := (J5 d4).trans u1
      refine wpOp_plain (o := { dst := some 19, op := Op.extract (Operand.tmp 13) 1, type := 24, pos := "rat.go:113", after := #[{ on := 4, ground := Ground.data }, { on := 10, ground := Ground.gcOnly Departure.lateStores }], guard := none }) rfl rfl ?_
      unfold Oper.wp
      rw [run_ext3 1 _ ((F 13 (by decide) (by decide)).trans h5) rfl, Oper.upon_value]
      refine ⟨_, putAll_put _ _ _ _ _ hnd (by decide), J0, ?_, ?_, ?_, ?_, ?_, ?_, ?_, ?_, ?_, ?_, ?_, ?_⟩
      · exact J1
      · exact J2
      · exact J3
      · exact J4
      · exact J5
      · exact J6
      · exact fun _ => ⟨_, _, u1⟩
      · exact J8
      · intro h; obtain ⟨g, s0, A0, n0, c0, p1, p2, p3, _⟩ := J9 h; exact ⟨g, s0, A0, n0, c0, p1, p2, p3, fun q => by cases q⟩
      · exact J10
      · exact J11
      · exact fun _ => J12 (.inl d4)
    | 7, ho =>
      have hall' : ∀ e ∈ ({ dst := some 20, op := Op.extract (Operand.tmp 13) 2, type := 37, pos := "rat.go:113", after := #[{ on := 4, ground := Ground.data }, { on := 11, ground := Ground.gcOnly Departure.lateStores }], guard := none } : Oper).after, Region.binds .any e = true → D e.on = true := by cases ho; exact hall
      have d4 := hall' { on := 4, ground := Ground.data } (by simp) rfl
      obtain ⟨sq, Aq, nq, cq, sr, Ar, nr, cr, u1, u2⟩ := J4 (J12 (.inl d4))
      have h5 := (J5 d4).trans u1
      refine wpOp_plain (o := { dst := some 20, op := Op.extract (Operand.tmp 13) 2, type := 37, pos := "rat.go:113", after := #[{ on := 4, ground := Ground.data }, { on := 11, ground := Ground.gcOnly Departure.lateStores }], guard := none }) rfl rfl ?_
      unfold Oper.wp
      rw [run_ext3 2 _ ((F 13 (by decide) (by decide)).trans h5) rfl, Oper.upon_value]
      refine ⟨_, putAll_put _ _ _ _ _ hnd (by decide), J0, ?_, ?_, ?_, ?_, ?_, ?_, ?_, ?_, ?_, ?_, ?_, ?_⟩
      · exact J1
      · exact J2
      · exact J3
      · exact J4
      · exact J5
      · exact J6
      · exact J7
      · exact J8
      · exact J9
      · exact J10
      · exact J11
      · exact J12
    | 8, ho =>
      have hall' : ∀ e ∈ ({ dst := some 5, op := Op.alloc 24, type := 0, pos := "rat.go:113", after := #[], guard := none } : Oper).after, Region.binds .any e = true → D e.on = true := by cases ho; exact hall
      have n10 : ¬ D 10 = true := fun h => by have := (J11 h).2; rw [hDi] at this; cases this
      refine wpOp_plain (o := { dst := some 5, op := Op.alloc 24, type := 0, pos := "rat.go:113", after := #[], guard := none }) rfl rfl ?_
      unfold Oper.wp
      rw [run_allocI, Oper.upon_value]
      have hb := (Below.refl w'.heap.size w').alloc (Nat.le_refl _) (.cells #[.bool false, .slice none 0 0] 24)
      refine ⟨_, putAll_put _ _ _ _ _ hnd (by decide), bend J0 hb, ?_, ?_, ?_, ?_, ?_, ?_, ?_, ?_, ?_, ?_, ?_, ?_⟩
      · exact J1
      · exact fun h => (J2 h).below hb
      · exact J3
      · exact fun h => (J4 h).below hb
      · exact J5
      · exact J6
      · exact J7
      · exact fun _ => ⟨_, _, _, _, _, rfl, J0.size, Bx.new w' _ _, fun q => absurd q n10⟩
      · exact fun h => (J9 h).below hb
      · intro _ h9 q'; obtain ⟨g, s0, A0, n0, c0, p1, p2, p3, _⟩ := J9 h9; have q2 : Value.pointer (some ⟨w'.heap.size, 0, none⟩) = v 6 := q'; rw [p1] at q2; have := p3.lt; (simp at q2) <;> omega
      · exact fun h => absurd h n10
      · exact J12
    | 9, ho =>
      have hall' : ∀ e ∈ ({ dst := some 6, op := Op.alloc 24, type := 0, pos := "rat.go:113", after := #[], guard := none } : Oper).after, Region.binds .any e = true → D e.on = true := by cases ho; exact hall
      refine wpOp_plain (o := { dst := some 6, op := Op.alloc 24, type := 0, pos := "rat.go:113", after := #[], guard := none }) rfl rfl ?_
      unfold Oper.wp
      rw [run_allocI, Oper.upon_value]
      have hb := (Below.refl w'.heap.size w').alloc (Nat.le_refl _) (.cells #[.bool false, .slice none 0 0] 24)
      refine ⟨_, putAll_put _ _ _ _ _ hnd (by decide), bend J0 hb, ?_, ?_, ?_, ?_, ?_, ?_, ?_, ?_, ?_, ?_, ?_, ?_⟩
      · exact J1
      · exact fun h => (J2 h).below hb
      · exact J3
      · exact fun h => (J4 h).below hb
      · exact J5
      · exact J6
      · exact J7
      · exact fun h => (J8 h).below hb
      · exact fun _ => ⟨_, _, _, _, _, rfl, J0.size, Bx.new w' _ _, fun q => by cases q⟩
      · intro h8 _ q'; obtain ⟨g, s0, A0, n0, c0, p1, p2, p3, _⟩ := J8 h8; have q2 : v 5 = Value.pointer (some ⟨w'.heap.size, 0, none⟩) := q'; rw [p1] at q2; have := p3.lt; (simp at q2) <;> omega
      · exact J11
      · exact J12
    | 10, ho =>
      have hall' : ∀ e ∈ ({ dst := none, op := Op.store 24 (Operand.tmp 5) (Operand.tmp 18), type := 0, pos := "rat.go:113", after := #[{ on := 8, ground := Ground.data }, { on := 5, ground := Ground.data }, { on := 3, ground := Ground.chain }, { on := 0, ground := Ground.phase }, { on := 1, ground := Ground.phase }, { on := 2, ground := Ground.phase }, { on := 3, ground := Ground.phase }, { on := 4, ground := Ground.phase }, { on := 5, ground := Ground.phase }, { on := 6, ground := Ground.textOnly Departure.lateStores }, { on := 7, ground := Ground.textOnly Departure.lateStores }, { on := 8, ground := Ground.phase }, { on := 9, ground := Ground.phase }], guard := none } : Oper).after, Region.binds .any e = true → D e.on = true := by cases ho; exact hall
      have d8 := hall' { on := 8, ground := Ground.data } (by simp) rfl
      have d5 := hall' { on := 5, ground := Ground.data } (by simp) rfl
      obtain ⟨g, s0, A0, n0, c0, p1, p2, p3, p4⟩ := J8 d8
      obtain ⟨sq, Aq, nq, cq, sr, Ar, nr, cr, u1, u2⟩ := J4 (J12 (.inr (.inl d5)))
      obtain ⟨r0, e0, u3⟩ := J6 d5
      have e18 : v 18 = .agg #[.bool sq, .slice Aq nq cq] := by have h := u3.symm.trans u1; simp at h; exact h.1
      refine wpOp_plain (o := { dst := none, op := Op.store 24 (Operand.tmp 5) (Operand.tmp 18), type := 0, pos := "rat.go:113", after := #[{ on := 8, ground := Ground.data }, { on := 5, ground := Ground.data }, { on := 3, ground := Ground.chain }, { on := 0, ground := Ground.phase }, { on := 1, ground := Ground.phase }, { on := 2, ground := Ground.phase }, { on := 3, ground := Ground.phase }, { on := 4, ground := Ground.phase }, { on := 5, ground := Ground.phase }, { on := 6, ground := Ground.textOnly Departure.lateStores }, { on := 7, ground := Ground.textOnly Departure.lateStores }, { on := 8, ground := Ground.phase }, { on := 9, ground := Ground.phase }], guard := none }) rfl rfl ?_
      unfold Oper.wp
      rw [run_storeI ((F 5 (by decide) (by decide)).trans p1) ((F 18 (by decide) (by decide)).trans e18) p3.c0 p3.c1 p3.f0 p3.f1, Oper.upon_skip]
      refine ⟨v, put_none _ _, (J0.setCell p2 _).setCell p2 _, J1, ?_, J3, ?_, J5, J6, J7, ?_, ?_, J10, fun _ => ⟨d5, d8⟩, J12⟩
      · exact fun h => (J2 h).store p3 _ _
      · exact fun h => (J4 h).store p3 _ _
      · exact fun _ => ⟨g, _, _, _, _, p1, p2, p3.set2 _ _, fun _ => e18⟩
      · exact fun h => (J9 h).other (by rw [← p1]; exact (J10 d8 h).symm) _ _
    | 11, ho =>
      have hall' : ∀ e ∈ ({ dst := none, op := Op.store 24 (Operand.tmp 6) (Operand.tmp 19), type := 0, pos := "rat.go:113", after := #[{ on := 9, ground := Ground.data }, { on := 6, ground := Ground.data }, { on := 10, ground := Ground.chain }, { on := 0, ground := Ground.phase }, { on := 1, ground := Ground.phase }, { on := 2, ground := Ground.phase }, { on := 3, ground := Ground.phase }, { on := 4, ground := Ground.phase }, { on := 5, ground := Ground.phase }, { on := 6, ground := Ground.phase }, { on := 7, ground := Ground.textOnly Departure.lateStores }, { on := 8, ground := Ground.phase }, { on := 9, ground := Ground.phase }, { on := 10, ground := Ground.phase }], guard := none } : Oper).after, Region.binds .any e = true → D e.on = true := by cases ho; exact hall
      have d9 := hall' { on := 9, ground := Ground.data } (by simp) rfl
      have d6 := hall' { on := 6, ground := Ground.data } (by simp) rfl
      obtain ⟨g, s0, A0, n0, c0, p1, p2, p3, p4⟩ := J9 d9
      obtain ⟨sq, Aq, nq, cq, sr, Ar, nr, cr, u1, u2⟩ := J4 (J12 (.inr (.inr d6)))
      obtain ⟨r0, e0, u3⟩ := J7 d6
      have e19 : v 19 = .agg #[.bool sr, .slice Ar nr cr] := by have h := u3.symm.trans u1; simp at h; exact h.2.1
      refine wpOp_plain (o := { dst := none, op := Op.store 24 (Operand.tmp 6) (Operand.tmp 19), type := 0, pos := "rat.go:113", after := #[{ on := 9, ground := Ground.data }, { on := 6, ground := Ground.data }, { on := 10, ground := Ground.chain }, { on := 0, ground := Ground.phase }, { on := 1, ground := Ground.phase }, { on := 2, ground := Ground.phase }, { on := 3, ground := Ground.phase }, { on := 4, ground := Ground.phase }, { on := 5, ground := Ground.phase }, { on := 6, ground := Ground.phase }, { on := 7, ground := Ground.textOnly Departure.lateStores }, { on := 8, ground := Ground.phase }, { on := 9, ground := Ground.phase }, { on := 10, ground := Ground.phase }], guard := none }) rfl rfl ?_
      unfold Oper.wp
      rw [run_storeI ((F 6 (by decide) (by decide)).trans p1) ((F 19 (by decide) (by decide)).trans e19) p3.c0 p3.c1 p3.f0 p3.f1, Oper.upon_skip]
      refine ⟨v, put_none _ _, (J0.setCell p2 _).setCell p2 _, J1, ?_, J3, ?_, J5, J6, J7, ?_, ?_, J10, J11, J12⟩
      · exact fun h => (J2 h).store p3 _ _
      · exact fun h => (J4 h).store p3 _ _
      · exact fun h => (J8 h).other (by rw [← p1]; exact J10 h d9) _ _
      · exact fun _ => ⟨g, _, _, _, _, p1, p2, p3.set2 _ _, fun q => by cases q⟩
    | 12, ho =>
      have hall' : ∀ e ∈ ({ dst := some 7, op := Op.assign (Operand.tmp 20), type := 37, pos := "rat.go:113", after := #[{ on := 7, ground := Ground.data }, { on := 11, ground := Ground.chain }, { on := 0, ground := Ground.phase }, { on := 1, ground := Ground.phase }, { on := 2, ground := Ground.phase }, { on := 3, ground := Ground.phase }, { on := 4, ground := Ground.phase }, { on := 5, ground := Ground.phase }, { on := 6, ground := Ground.phase }, { on := 7, ground := Ground.phase }, { on := 8, ground := Ground.phase }, { on := 9, ground := Ground.phase }, { on := 10, ground := Ground.phase }, { on := 11, ground := Ground.phase }], guard := none } : Oper).after, Region.binds .any e = true → D e.on = true := by cases ho; exact hall
      refine wpOp_plain (o := { dst := some 7, op := Op.assign (Operand.tmp 20), type := 37, pos := "rat.go:113", after := #[{ on := 7, ground := Ground.data }, { on := 11, ground := Ground.chain }, { on := 0, ground := Ground.phase }, { on := 1, ground := Ground.phase }, { on := 2, ground := Ground.phase }, { on := 3, ground := Ground.phase }, { on := 4, ground := Ground.phase }, { on := 5, ground := Ground.phase }, { on := 6, ground := Ground.phase }, { on := 7, ground := Ground.phase }, { on := 8, ground := Ground.phase }, { on := 9, ground := Ground.phase }, { on := 10, ground := Ground.phase }, { on := 11, ground := Ground.phase }], guard := none }) rfl rfl ?_
      unfold Oper.wp
      rw [run_assign rfl, Oper.upon_value]
      refine ⟨_, putAll_put _ _ _ _ _ hnd (by decide), J0, ?_, ?_, ?_, ?_, ?_, ?_, ?_, ?_, ?_, ?_, ?_, ?_⟩
      · exact J1
      · exact J2
      · exact J3
      · exact J4
      · exact J5
      · exact J6
      · exact J7
      · exact J8
      · exact J9
      · exact J10
      · exact J11
      · exact J12
    | i + 13, ho => cases ho
  · intro D v w' hall hJ
    obtain ⟨J0, J1, J2, J3, J4, J5, J6, J7, J8, J9, J10, J11, J12⟩ := hJ
    obtain ⟨g, s0, A0, n0, c0, p1, p2, p3, p4⟩ := J8 (hall 8 (by show 8 < 13; omega))
    obtain ⟨sq, Aq, nq, cq, sr, Ar, nr, cr, u1, u2⟩ := J4 (hall 3 (by show 3 < 13; omega))
    obtain ⟨r0, e0, u3⟩ := J6 (hall 5 (by show 5 < 13; omega))
    have e18 : v 18 = .agg #[.bool sq, .slice Aq nq cq] := by have h := u3.symm.trans u1; simp at h; exact h.1
    have h := (p4 (hall 10 (by show 10 < 13; omega))).symm.trans e18
    simp at h
    obtain ⟨rfl, rfl, rfl, rfl⟩ := h
    exact hend v w' g _ _ _ _ p1 p2 p3 u2 J0
set_option maxRecDepth 100000 in
set_option maxHeartbeats 4000000 in
theorem rceil_q {w : World} {s : Bool} {A A' : Option Addr} {n c n' c' k : Nat} {v : Rat} (X0 : QR w s A n c A' n' c' v k) (hk : k ≤ 900) (hk1 : 1 ≤ k) :
    Calls Tryz.prog 142 #[.agg #[.bool s, .slice A n c, .slice A' n' c']] w (GivesZG w v.ceil (k + 1)) := by
  obtain ⟨p, q, X, Q, rfl⟩ := X0
  have HE : Hid (-((-p).fdiv (den1 q : Int)) = (mkRat p (den1 q)).ceil) := by
    show _ = _
    rw [Rat.ceil_eq_neg_floor_neg, mk_neg, mk_floor (den1_ne q)]
  go_enter Tryz.func142, Tryz.ntmps142
  go_wp2_with fail
  generalize hW : ((w.alloc (Obj.cells #[Value.bool s, Value.slice A n c, Value.slice A' n' c'] 26)).alloc (Obj.cells #[Value.bool false, Value.slice none 0 0] 24)) = W
  have hb : Below w.heap.size w W := by subst hW; exact (((Below.refl _ _).alloc (Nat.le_refl _) _).alloc (by simp) _)
  have XA : B3 W (w.heap.size) (Value.bool s) (Value.slice A n c) (Value.slice A' n' c') := by subst hW; exact (B3.new' _ _ _ _ _ rfl).alloc _
  have Z : Bx W (w.heap.size + 1) (Value.bool false) (Value.slice none 0 0) := by subst hW; exact Bx.new' _ _ _ _ (by simp)
  have hzW : W.heap.size = w.heap.size + 2 := by subst hW; simp
  clear hW
  replace X := X.below hb
  replace Q := Q.below hb
  have xa0 := XA.c0
  have xa1 := XA.c1
  have xa2 := XA.c2
  go_upto_region 2 with (first
      | (go_at_call 114; (with_reducible refine (parts_any X Q (by omega) hk1).mono ?_); rintro e w_p ⟨s_x, A_x, n_x, c_x, s_y, A_y, n_y, c_y, rfl, x, y, hh⟩
         try replace X := X.below hh
         try replace Q := Q.below hh
         try replace z := z.below hh
         try replace XA := XA.below hh
         try replace Z := Z.below hh
         try replace XP := XP.below hh
         try replace XQ := XQ.below hh
         try replace R := R.below hh
         replace hb := bend hb hh))
  have hp1 := Z.lt
  generalize hW : ((w_p.alloc (Obj.cells #[Value.bool s_x, Value.slice A_x n_x c_x] 24)).alloc (Obj.cells #[Value.bool s_y, Value.slice A_y n_y c_y] 24)) = W2
  have hh : Below w_p.heap.size w_p W2 := by subst hW; exact (((Below.refl _ _).alloc (Nat.le_refl _) _).alloc (by simp) _)
  have XP : Bx W2 (w_p.heap.size) (Value.bool s_x) (Value.slice A_x n_x c_x) := by subst hW; exact (Bx.new' _ _ _ _ rfl).alloc _
  have XQ : Bx W2 (w_p.heap.size + 1) (Value.bool s_y) (Value.slice A_y n_y c_y) := by subst hW; exact Bx.new' _ _ _ _ (by simp)
  have hzW2 : W2.heap.size = w_p.heap.size + 2 := by subst hW; simp
  clear hW
  try replace x := x.below hh
  try replace y := y.below hh
  try replace Z := Z.below hh
  replace hb := bend hb hh
  refine ceil_region (by simp) rfl rfl XP XQ x y (den1_i q) hk hk1 ?_
  intro V w_x g s_z A_z n_z c_z hv1 hg R z hh
  simp only [putAll, Act.put, List.setIfInBounds_toArray, List.set_cons_zero, List.set_cons_succ, hv1]
  clear hv1
  replace Z := Z.below hh
  replace hb := bend hb hh
  have zz := z.zr
  have r0 := R.c0
  have r1 := R.c1
  go_wp2_with (first
      | (go_at_call 118; (with_reducible refine (zneg_zg zz (by omega)).mono ?_); rintro e w_m ⟨s_m, A_m, n_m, c_m, rfl, m, hh2⟩; have hh := hh2
         rw [HE.out] at m
         try replace Z := Z.below hh
         replace hb := bend hb hh
         have z0 := Z.c0
         have z1 := Z.c1
         have z2 := Z.f0
         have z3 := Z.f1))
  have Z2 := Z.set2 (.bool s_m) (.slice A_m n_m c_m)
  have g0 := Z2.c0
  have g1 := Z2.c1
  refine bodyPost_ret (v := .agg #[.bool s_m, .slice A_m n_m c_m]) (by simp [results, Tryz.results142, go_sem, g0, g1]) rfl ?_
  exact ⟨s_m, A_m, n_m, c_m, rfl, m.set2x Z _ _, below_set2 hb (by omega) _ _⟩
end Go.Proofs.YtlkjkhpjhllapaaGreat
namespace Go.Proofs.YtlkjkhpjhllapaaGreat
theorem int1 (n : Int) : Rat.divInt n 1 = (n : Rat) := by
  have h : Rat.divInt n 1 = mkRat n 1 := Rat.divInt_ofNat n 1
  rw [h]
  apply Rat.ext
  · simp [Rat.num_mkRat]
  · simp [Rat.den_mkRat]
end Go.Proofs.YtlkjkhpjhllapaaGreat
namespace Go.Proofs.YtlkjkhpjhllapaaGreat
theorem lt_le {a b c : Rat} (h : a < b) (k : b ≤ c) : a < c := Rat.not_le.1 fun q => absurd h (Rat.not_lt.2 (Rat.le_trans k q))
theorem castN (a : Nat) : ((a : Int) : Rat) = (a : Rat) := rfl
theorem natCast_mul' (a b : Nat) : ((a * b : Nat) : Rat) = (a : Rat) * (b : Rat) := by
  rw [← castN, ← castN, ← castN, Int.natCast_mul, Rat.intCast_mul]
def upQ (v : Rat) (k : Nat) : Rat := v * ((4 ^ k : Nat) : Rat)
def inQ (R k : Nat) : Rat := Rat.divInt (R : Int) ((2 ^ k : Nat) : Int)
theorem two_pos (k : Nat) : (0 : Rat) < ((2 ^ k : Nat) : Rat) := by
  have h : (0 : Int) < ((2 ^ k : Nat) : Int) := by have := Nat.two_pow_pos k; omega
  rw [← castN]; exact Rat.intCast_lt_intCast.2 h
theorem two_ne (k : Nat) : ((2 ^ k : Nat) : Rat) ≠ 0 := fun h => by
  have := two_pos k; rw [h] at this; exact Rat.lt_irrefl this
theorem inQ_eq (R k : Nat) : inQ R k * ((2 ^ k : Nat) : Rat) = (R : Rat) := by
  unfold inQ
  have h := two_ne k
  rw [← castN (2 ^ k), ← castN R, ← int1, ← int1, Rat.divInt_mul_divInt, Int.mul_one, Rat.divInt_eq_divInt_iff (by have := Nat.two_pow_pos k; omega) (by decide)]
  simp
theorem four_two (k : Nat) : ((4 ^ k : Nat) : Rat) = ((2 ^ k : Nat) : Rat) * ((2 ^ k : Nat) : Rat) := by
  rw [← natCast_mul', ← Nat.mul_pow]
theorem four_pos (k : Nat) : (0 : Rat) < ((4 ^ k : Nat) : Rat) := by rw [four_two]; exact Rat.mul_pos (two_pos k) (two_pos k)
theorem inQ_sq (R k : Nat) : upQ (inQ R k * inQ R k) k = ((R * R : Nat) : Rat) := by
  unfold upQ
  rw [four_two, natCast_mul', ← inQ_eq R k]
  grind
theorem upQ_le {a b : Rat} (k : Nat) : upQ a k ≤ upQ b k ↔ a ≤ b := by
  unfold upQ
  constructor
  · exact fun h => Rat.le_of_mul_le_mul_right h (four_pos k)
  · exact fun h => Rat.mul_le_mul_of_nonneg_right h (Rat.le_of_lt (four_pos k))
theorem upQ_nonneg {v : Rat} (hv : 0 ≤ v) (k : Nat) : 0 ≤ upQ v k := Rat.mul_nonneg hv (Rat.le_of_lt (four_pos k))
theorem floor_nn {v : Rat} (hv : 0 ≤ v) : 0 ≤ v.floor := Rat.le_floor_iff.2 (by simpa using hv)
theorem ceil_nn {v : Rat} (hv : 0 ≤ v) : 0 ≤ v.ceil := by
  have h := Rat.le_trans hv (@Rat.le_ceil v)
  have : ((0 : Int) : Rat) ≤ (v.ceil : Rat) := h
  exact Rat.intCast_le_intCast.1 this
def IsLow (v : Rat) (k R : Nat) : Prop := IsRoot (upQ v k).floor.natAbs R
def IsHigh (v : Rat) (k H : Nat) : Prop := ∃ R, IsRoot (upQ v k).ceil.natAbs R ∧ H = if R * R = (upQ v k).ceil.natAbs then R else R + 1
theorem IsLow.le {v : Rat} {k R : Nat} (hv : 0 ≤ v) (h : IsLow v k R) : inQ R k * inQ R k ≤ v := by
  rw [← upQ_le k, inQ_sq]
  have h1 : ((R * R : Nat) : Int) ≤ (upQ v k).floor := by have := h.1; have := floor_nn (upQ_nonneg hv k); omega
  rw [← castN]; exact Rat.le_floor_iff.1 h1
theorem IsHigh.ge {v : Rat} {k H : Nat} (hv : 0 ≤ v) (h : IsHigh v k H) : v ≤ inQ H k * inQ H k := by
  rw [← upQ_le k, inQ_sq]
  obtain ⟨R, h1, h2⟩ := h
  have h0 := ceil_nn (upQ_nonneg hv k)
  have h3 : (upQ v k).ceil ≤ ((H * H : Nat) : Int) := by
    split at h2
    · rename_i e; subst h2; omega
    · subst h2; have := h1.2; omega
  rw [← castN]; exact Rat.le_trans Rat.le_ceil (Rat.intCast_le_intCast.2 h3)
end Go.Proofs.YtlkjkhpjhllapaaGreat
namespace Go.Proofs.YtlkjkhpjhllapaaGreat
open Go Go.RowKit
def Ct (W : World) (g : Nat) (x : Int) : Prop := W.heap[g]? = some (.cells #[.int .i64 x] 163 (0, 0))
section
variable {w w' W : World} {g : Nat} {x : Int} {s : Bool} {A A' : Option Addr} {n c n' c' k V : Nat} {v : Rat}
theorem Ct.c0 (h : Ct W g x) : W.cell? ⟨g, 0, none⟩ = some (.int .i64 x) := by rw [cell_of_row W g 0 _ _ (0, 0) h]; rfl
theorem Ct.f0 (h : Ct W g x) : W.frozen? ⟨g, 0, none⟩ = false := frozen_of_row W g 0 _ _ h
theorem Ct.lt (h : Ct W g x) : g < W.heap.size := World.block_lt_of_cell? W _ h.c0
theorem Ct.below (h : Ct w g x) (hb : Below w.heap.size w w') : Ct w' g x := (hb.block g h.lt).trans h
theorem Ct.alloc (h : Ct w g x) (o : Obj) : Ct (w.alloc o) g x := (Below.heap_alloc w o g h.lt).trans h
theorem Ct.new' (W : World) (x : Int) (g : Nat) (hg : g = W.heap.size) : Ct (W.alloc (.cells #[.int .i64 x] 163)) g x := by subst hg; exact heap_alloc_new W _
theorem Ct.set (h : Ct W g x) (y : Int) : Ct (W.setCell ⟨g, 0, none⟩ (.int .i64 y)) g y := by
  unfold Ct at h ⊢
  simp [World.setCell, Array.getElem?_modify, h]
theorem Ct.offx {l : List Nat} (h : Ct W g x) (hr : Rd .u64 W A n l) : Off A n g := by
  intro hn ad e hg
  obtain ⟨b, o, eA, hc⟩ := hr.at_ hn
  obtain ⟨y, _, hx⟩ := hc 0 hn
  rw [eA] at e
  cases e
  have hg2 : b = g := hg
  subst hg2
  rw [cell_of_row W b (o + 0) _ _ (0, 0) h] at hx
  match o, hx with
  | 0, hx => cases hx
  | o + 1, hx => cases hx
theorem NR.cnt (h : NR w A n c V k) (C : Ct w g x) (ho : Only g w w') : NR w' A n c V k := by
  obtain ⟨l, h1, h2⟩ := h; exact ⟨l, h1.only (C.offx h1) ho, h2⟩
theorem NG.cnt (h : NG w A n c V k) (C : Ct w g x) (ho : Only g w w') : NG w' A n c V k := ⟨h.1.only (C.offx h.1) ho, h.2⟩
theorem ZR.cnt {p : Int} (h : ZR w s A n c p k) (C : Ct w g x) (ho : Only g w w') : ZR w' s A n c p k := by
  obtain ⟨l, h1, h2⟩ := h; exact ⟨l, h1.only (C.offx h1) ho, h2⟩
theorem QR.cnt (h : QR w s A n c A' n' c' v k) (C : Ct w g x) (ho : Only g w w') : QR w' s A n c A' n' c' v k := by
  obtain ⟨p, q, h1, h2, h3⟩ := h; exact ⟨p, q, h1.cnt C ho, h2.cnt C ho, h3⟩
theorem QG.cnt (h : QG w s A n c A' n' c' v k) (C : Ct w g x) (ho : Only g w w') : QG w' s A n c A' n' c' v k :=
  ⟨⟨h.1.1, h.1.2.1.only (C.offx h.1.2.1) ho, h.1.2.2⟩, h.2.cnt C ho⟩
theorem B3.cnt {j : Nat} {a b d : Value} (h : B3 w j a b d) (hne : j ≠ g) (ho : Only g w w') : B3 w' j a b d := (ho.block j h.lt hne).trans h
end
set_option maxRecDepth 100000 in
theorem load_any {w : World} {g : Nat} {x : Int} (C : Ct w g x) :
    Calls Tryz.prog 143 #[.pointer (some ⟨g, 0, none⟩)] w fun e w' => e = .returned (.int .i64 x) ∧ w = w' := by
  have hc := C.c0
  have hl := run_call_load (P := Tryz.prog) Tryz.func194 (by kernel_rfl) (by kernel_rfl) (by kernel_rfl) .i64 (by kernel_rfl) hc
  go_enter Tryz.func143, Tryz.ntmps143
  go_wp2
  go_ret
  exact ⟨rfl, rfl⟩
set_option maxRecDepth 100000 in
theorem addc_any {w : World} {g : Nat} {x : Int} (C : Ct w g x) (h0 : 0 ≤ x) (h1 : x ≤ 100) :
    Calls Tryz.prog 193 #[.pointer (some ⟨g, 0, none⟩), .int .i64 1] w fun e w' => e = .returned (.int .i64 (x + 1)) ∧ w.setCell ⟨g, 0, none⟩ (.int .i64 (x + 1)) = w' := by
  have hc := C.c0
  have hf := C.f0
  have hl := run_call_add (P := Tryz.prog) Tryz.func224 (by kernel_rfl) (by kernel_rfl) (by kernel_rfl) .i64 (by kernel_rfl) (y := 1) (s := x + 1) hc hf (by simp [go_sem]; exact IntWalk.i64_in _ (by omega))
  go_enter Tryz.func193, Tryz.ntmps193
  go_wp2
  go_ret
  exact ⟨rfl, rfl⟩
def GivesRoot (w : World) (g : Nat) (x : Int) (V : Nat) (e : Ending) (w' : World) : Prop :=
  ∃ R, IsRoot V R ∧ ∃ A n c, e = .returned (.slice A n c) ∧ NG w' A n c R 40 ∧ Only g w w' ∧ Ct w' g (if R * R = V then x + 1 else x)
set_option maxRecDepth 100000 in
set_option maxHeartbeats 4000000 in
theorem root_any {w : World} {g : Nat} {x : Int} {A : Option Addr} {n c V : Nat} (C : Ct w g x) (h0 : 0 ≤ x) (h1 : x ≤ 100) (X : NR w A n c V 78) :
    Calls Tryz.prog 140 #[.pointer (some ⟨g, 0, none⟩), .slice A n c] w (GivesRoot w g x V) := by
  have H0 := Lib.hid h0
  have H1 := Lib.hid h1
  clear h0 h1
  have hb : Below w.heap.size w w := Below.refl _ _
  have hg := C.lt
  go_enter Tryz.func140, Tryz.ntmps140
  go_upto_region 2 with (first
      | (go_at_call 192; (with_reducible refine (sqrt_nr X).mono ?_); rintro e w_r ⟨R, hR, A_r, n_r, c_r, rfl, r, hh⟩
         replace X := X.below hh
         replace C := C.below hh
         replace hb := bend hb hh))
  have HR := Lib.hid hR
  clear hR
  by_cases hs : R * R = V
  · have HC : Hid (cmpN (R * R) V = 0) := by show _ = _; rw [hs]; exact cmpN_eq rfl
    have HS := Lib.hid hs
    clear hs
    go_wp2_with (first
      | (go_at_call 137; (with_reducible refine (mul_nr 80 r.nr r.nr (by decide) (by decide) (by decide)).mono ?_); rintro e w_m ⟨A_m, n_m, c_m, rfl, m, hh⟩
         try replace X := X.below hh
         try replace C := C.below hh
         try replace r := r.below hh
         replace hb := bend hb hh)
      | (go_at_call 174; (with_reducible refine (cmp_nr m.nr X (by decide) (by decide)).mono ?_); rintro e w_z ⟨rfl, hh⟩
         rw [HC.out]
         try replace X := X.below hh
         try replace C := C.below hh
         try replace r := r.below hh
         try replace m := m.below hh
         replace hb := bend hb hh)
      | (go_at_call 193; (with_reducible refine (addc_any C H0.out H1.out).mono ?_); rintro e w_a ⟨rfl, hwa⟩
         have Ha := Lib.hid hwa
         clear hwa))
    go_ret
    have hwa := Ha.out
    subst hwa
    refine ⟨R, HR.out, A_r, n_r, c_r, rfl, ?_, ?_, ?_⟩
    · exact r.cnt C ((Only.refl g _).setCell 0 _)
    · exact (Below.to_only hb (Nat.le_refl _)).setCell 0 _
    · rw [if_pos HS.out]; exact C.set _
  · have HC0 : cmpN (R * R) V ≠ 0 := fun q => hs (by
      rcases Nat.lt_trichotomy (R * R) V with h | h | h
      · rw [cmpN_lt h] at q; cases q
      · exact h
      · rw [cmpN_gt h] at q; cases q)
    obtain ⟨K, hK, hK0⟩ : ∃ K, cmpN (R * R) V = K ∧ ((K : Int) == 0) = false := ⟨_, rfl, by simpa using HC0⟩
    have HC := Lib.hid hK
    have HS := Lib.hid hs
    clear hs hK HC0
    go_wp2_with (first
      | (go_at_call 137; (with_reducible refine (mul_nr 80 r.nr r.nr (by decide) (by decide) (by decide)).mono ?_); rintro e w_m ⟨A_m, n_m, c_m, rfl, m, hh⟩
         try replace X := X.below hh
         try replace C := C.below hh
         try replace r := r.below hh
         replace hb := bend hb hh)
      | (go_at_call 174; (with_reducible refine (cmp_nr m.nr X (by decide) (by decide)).mono ?_); rintro e w_z ⟨rfl, hh⟩
         rw [HC.out]
         try replace X := X.below hh
         try replace C := C.below hh
         try replace r := r.below hh
         try replace m := m.below hh
         replace hb := bend hb hh))
    go_ret
    refine ⟨R, HR.out, A_r, n_r, c_r, rfl, r, Below.to_only hb (Nat.le_refl _), ?_⟩
    rw [if_neg HS.out]; exact C
theorem shl_two (h j : Nat) {w : World} {A : Option Addr} {n c V k : Nat} (X : NR w A n c V k) (hk : k ≤ 1000000) (hh : 2 * h ≤ 1048576) (hj : V * 2 ^ (2 * h) < B64 ^ j) :
    Calls Tryz.prog 191 #[.slice A n c, .int .i64 (2 * (h : Int))] w fun e w' => ∃ A n c, e = .returned (.tuple #[.slice A n c, .int .i64 0]) ∧ NG w' A n c (V * 2 ^ (2 * h)) j ∧ Below w.heap.size w w' := by
  have h1 := shl_nr (2 * h) j X hk hh hj
  rwa [show ((2 * h : Nat) : Int) = 2 * (h : Int) by omega] at h1
theorem raise_lt {V k h j : Nat} (hV : V < B64 ^ k) (hj : 2 ^ (2 * h) ≤ B64 ^ j) : V * 2 ^ (2 * h) < B64 ^ (k + j) := by
  rw [Nat.pow_add]
  have h1 : 0 < 2 ^ (2 * h) := Nat.two_pow_pos _
  exact Nat.lt_of_lt_of_le (Nat.mul_lt_mul_of_pos_right hV h1) (Nat.mul_le_mul_left _ hj)
theorem raised_val {p : Int} {q h : Nat} (hq : q ≠ 0) (hp : 0 ≤ mkRat p q) : mkRat (iv false (p.natAbs * 2 ^ (2 * h))) q = upQ (mkRat p q) h := by
  have h0 : 0 ≤ p := (mk_nonneg hq).1 hp
  have e1 : iv false (p.natAbs * 2 ^ (2 * h)) = p * ((4 ^ h : Nat) : Int) := by
    show ((p.natAbs * 2 ^ (2 * h) : Nat) : Int) = _
    rw [Nat.pow_mul, Int.natCast_mul, Int.natAbs_of_nonneg h0]
  rw [e1]
  unfold upQ
  have e2 : ((4 ^ h : Nat) : Rat) = mkRat ((4 ^ h : Nat) : Int) 1 := by rw [← castN, ← int1]; exact Rat.divInt_ofNat _ 1
  rw [e2, mk_mul, Nat.mul_one]
def GivesUp (w : World) (A' : Option Addr) (n' c' : Nat) (v : Rat) (k : Nat) (e : Ending) (w' : World) : Prop :=
  ∃ A n c, e = .returned (.agg #[.bool false, .slice A n c, .slice A' n' c']) ∧ QR w' false A n c A' n' c' v k ∧ Below w.heap.size w w'
set_option maxRecDepth 100000 in
set_option maxHeartbeats 4000000 in
theorem raised_q {w : World} {s : Bool} {A A' : Option Addr} {n c n' c' k : Nat} {v : Rat} (h j : Nat) (X0 : QR w s A n c A' n' c' v k) (hv : 0 ≤ v) (hk : k ≤ 400) (hj : 2 ^ (2 * h) ≤ B64 ^ j) (hh : h ≤ 5000) :
    Calls Tryz.prog 141 #[.agg #[.bool s, .slice A n c, .slice A' n' c'], .int .i64 (h : Int)] w (GivesUp w A' n' c' (upQ v h) (k + j)) := by
  obtain ⟨p, q, X, Q, rfl⟩ := X0
  have HE : Hid (mkRat (iv false (p.natAbs * 2 ^ (2 * h))) (den1 q) = upQ (mkRat p (den1 q)) h) := raised_val (den1_ne q) hv
  have HJ : Hid (p.natAbs * 2 ^ (2 * h) < B64 ^ (k + j)) := raise_lt X.nr.lt hj
  clear hv hj
  go_enter Tryz.func141, Tryz.ntmps141
  go_wp2_with fail
  generalize hW : ((w.alloc (Obj.cells #[Value.bool s, Value.slice A n c, Value.slice A' n' c'] 26)).alloc (Obj.cells #[Value.bool false, Value.slice none 0 0, Value.slice none 0 0] 26)) = W
  have hb : Below w.heap.size w W := by subst hW; exact (((Below.refl _ _).alloc (Nat.le_refl _) _).alloc (by simp) _)
  have XA : B3 W (w.heap.size) (Value.bool s) (Value.slice A n c) (Value.slice A' n' c') := by subst hW; exact (B3.new' _ _ _ _ _ rfl).alloc _
  have Z : B3 W (w.heap.size + 1) (Value.bool false) (Value.slice none 0 0) (Value.slice none 0 0) := by subst hW; exact B3.new' _ _ _ _ _ (by simp)
  have hzW : W.heap.size = w.heap.size + 2 := by subst hW; simp
  clear hW
  replace X := X.below hb
  replace Q := Q.below hb
  have xa0 := XA.c0
  have xa1 := XA.c1
  have xa2 := XA.c2
  go_upto_region 2 with (first
      | (go_at_call 191; (with_reducible refine (shl_two h (k + j) X.nr (by omega) (by omega) HJ.out).mono ?_); rintro e w_u ⟨A_u, n_u, c_u, rfl, u, hh'⟩; have hh := hh'
         try replace X := X.below hh
         try replace Q := Q.below hh
         try replace XA := XA.below hh
         try replace Z := Z.below hh
         replace hb := bend hb hh
         have xa0 := XA.c0
         have xa1 := XA.c1
         have xa2 := XA.c2
         have zf0 := Z.f0
         have zf1 := Z.f1
         have zf2 := Z.f2
         have z0 := Z.c0
         have z1 := Z.c1
         have z2 := Z.c2))
  go_wp2_with fail
  have Z2 := Z.set3 (.bool false) (.slice A_u n_u c_u) (.slice A' n' c')
  have g0 := Z2.c0
  have g1 := Z2.c1
  have g2 := Z2.c2
  refine bodyPost_ret (v := .agg #[.bool false, .slice A_u n_u c_u, .slice A' n' c']) (by simp [results, Tryz.results141, go_sem, g0, g1, g2]) rfl ?_
  have ho := (((Only.refl (w.heap.size + 1) w_u).setCell 0 (.bool false)).setCell 1 (.slice A_u n_u c_u)).setCell 2 (.slice A' n' c')
  refine ⟨A_u, n_u, c_u, rfl, ⟨_, q, ZR.ofn (s := false) (u.nr.only' (u.nr.off3 Z) ho), (Q.more (Nat.le_add_right k j)).only' ((Q.more (Nat.le_add_right k j)).off3 Z) ho, HE.out.symm⟩, below_set3 hb (by omega) _ _ _⟩
theorem of_one (w : World) : Calls Tryz.prog 126 #[.int .u64 1] w (GivesN w 1 1) := of_nr 1 (by decide) w
set_option maxRecDepth 100000 in
set_option maxHeartbeats 4000000 in
theorem inparts_q {w : World} {A : Option Addr} {n c R k : Nat} (h j K : Nat) (X : NR w A n c R k) (hk : k ≤ K) (hjK : j ≤ K) (hj : 2 ^ h < B64 ^ j) (hK : K ≤ 400) (hh : h ≤ 5000) :
    Calls Tryz.prog 139 #[.slice A n c, .int .i64 (h : Int)] w (GivesQE w (inQ R h) K) := by
  have HJ : Hid (1 * 2 ^ h < B64 ^ j) := by show _ < _; rw [Nat.one_mul]; exact hj
  have HE : Hid (Rat.divInt (iv false R) (iv false (1 * 2 ^ h)) = inQ R h) := by show _ = _; rw [Nat.one_mul]; rfl
  have H0 : Hid (iv false (1 * 2 ^ h) ≠ 0) := by
    show iv false (1 * 2 ^ h) ≠ 0
    rw [Nat.one_mul]
    have := Nat.two_pow_pos h
    show ((2 ^ h : Nat) : Int) ≠ 0
    omega
  clear hj
  go_enter Tryz.func139, Tryz.ntmps139
  go_wp2_with fail
  generalize hW : (w.alloc (Obj.cells #[Value.bool false, Value.slice none 0 0, Value.slice none 0 0] 26)) = W
  have hb : Below w.heap.size w W := by subst hW; exact ((Below.refl _ _).alloc (Nat.le_refl _) _)
  have Z : B3 W (w.heap.size) (Value.bool false) (Value.slice none 0 0) (Value.slice none 0 0) := by subst hW; exact B3.new' _ _ _ _ _ rfl
  have hzW : W.heap.size = w.heap.size + 1 := by subst hW; simp
  clear hW
  replace X := X.below hb
  go_wp2_with (first
      | (go_at_call 126; (with_reducible refine (of_one _).mono ?_); rintro e w_o ⟨A_o, n_o, c_o, rfl, o, hh⟩
         replace X := X.below hh
         replace Z := Z.below hh
         replace hb := bend hb hh)
      | (go_at_call 191; (with_reducible refine (shl_nr h j o.nr (by decide) (by omega) HJ.out).mono ?_); rintro e w_u ⟨A_u, n_u, c_u, rfl, u, hh'⟩; have hh := hh'
         try replace X := X.below hh
         try replace o := o.below hh
         try replace r := r.below hh
         try replace Z := Z.below hh
         replace hb := bend hb hh)
      | (go_at_call 43; (with_reducible refine (make_zr K (ZR.ofn (s := false) X) (ZR.ofn (s := false) u.nr) (by omega) (by omega) H0.out hk hjK).mono ?_); rintro e w_r ⟨s_r, A_r, n_r, c_r, B_r, m_r, d_r, rfl, r, hh⟩
         rw [HE.out] at r
         try replace X := X.below hh
         try replace o := o.below hh
         try replace u := u.below hh
         try replace Z := Z.below hh
         replace hb := bend hb hh
         have zf0 := Z.f0
         have zf1 := Z.f1
         have zf2 := Z.f2
         have z0 := Z.c0
         have z1 := Z.c1
         have z2 := Z.c2))
  have Z2 := Z.set3 (.bool s_r) (.slice A_r n_r c_r) (.slice B_r m_r d_r)
  have g0 := Z2.c0
  have g1 := Z2.c1
  have g2 := Z2.c2
  refine bodyPost_ret (v := .tuple #[.agg #[.bool s_r, .slice A_r n_r c_r, .slice B_r m_r d_r], .int .i64 0]) (by simp [results, Tryz.results139, go_sem, g0, g1, g2]) rfl ?_
  exact ⟨s_r, A_r, n_r, c_r, B_r, m_r, d_r, rfl, r.set3 Z _ _ _, below_set3 hb (by omega) _ _ _⟩
set_option maxRecDepth 100000 in
set_option maxHeartbeats 4000000 in
theorem fault_ok {w : World} {s : Bool} {A A' : Option Addr} {n c n' c' k : Nat} {v : Rat} (h : Nat) (X : QR w s A n c A' n' c' v k) (hv : 0 ≤ v) (hk : k ≤ 400) (hk1 : 1 ≤ k) (hh : h ≤ 4096) :
    Calls Tryz.prog 138 #[.agg #[.bool s, .slice A n c, .slice A' n' c'], .int .i64 (h : Int)] w fun e w' => e = .returned (.int .i64 0) ∧ Below w.heap.size w w' := by
  obtain ⟨g, hg, hg0⟩ : ∃ g, sgnQ v = g ∧ ¬ g < 0 := ⟨_, rfl, by unfold sgnQ; rw [if_neg (Rat.not_lt.2 hv)]; split <;> decide⟩
  have HG := Lib.hid hg
  have hh1 : ¬ (h : Int) < 0 := by omega
  have hh2 : ¬ 4096 < (h : Int) := by omega
  clear hg hv
  go_enter Tryz.func138, Tryz.ntmps138
  go_wp2_with fail
  generalize hW : (w.alloc (Obj.cells #[Value.bool s, Value.slice A n c, Value.slice A' n' c'] 26)) = W
  have hb : Below w.heap.size w W := by subst hW; exact ((Below.refl _ _).alloc (Nat.le_refl _) _)
  have XA : B3 W (w.heap.size) (Value.bool s) (Value.slice A n c) (Value.slice A' n' c') := by subst hW; exact B3.new' _ _ _ _ _ rfl
  have hzW : W.heap.size = w.heap.size + 1 := by subst hW; simp
  clear hW
  replace X := X.below hb
  have xa0 := XA.c0
  have xa1 := XA.c1
  have xa2 := XA.c2
  go_wp2_with (first
      | (go_at_call 30; (with_reducible refine (rsign_q X (by omega) hk1).mono ?_); rintro e w_z ⟨rfl, hh⟩
         rw [HG.out]
         try replace X := X.below hh
         try replace XA := XA.below hh
         replace hb := bend hb hh
         have xa0 := XA.c0
         have xa1 := XA.c1
         have xa2 := XA.c2))
  go_ret
  exact ⟨rfl, hb⟩
end Go.Proofs.YtlkjkhpjhllapaaGreat
