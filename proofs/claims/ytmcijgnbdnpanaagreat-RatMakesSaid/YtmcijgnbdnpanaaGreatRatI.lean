/- rat.Ceil by value: its drawn region by an invariant. -/
import Derived.Test.YtmcijgnbdnpanaaGreatRatW
namespace Go.Proofs.YtmcijgnbdnpanaaGreat
open Go Go.RowKit

theorem run_storeI {e : Operand → Value} {x z : Operand} {d : Option Tmp} {y g : Nat} {pos : String} {af : Array Edge} {w : World} {s : Bool} {A : Option Addr} {n c : Nat} {u0 v0 : Value} (h : e x = .pointer (some ⟨g, 0, none⟩)) (hz : e z = .agg #[.bool s, .slice A n c]) (h0 : w.cell? ⟨g, 0, none⟩ = some u0) (h1 : w.cell? ⟨g, 1, none⟩ = some v0) (f0 : w.frozen? ⟨g, 0, none⟩ = false) (f1 : w.frozen? ⟨g, 1, none⟩ = false) :
    (execOp e { dst := d, op := Op.store 24 x z, type := y, pos := pos, after := af, guard := none }).run Tryz.prog w = .ok .skip ((w.setCell ⟨g, 0, none⟩ (.bool s)).setCell ⟨g, 1, none⟩ (.slice A n c)) := by
  go_simp
theorem run_allocI {e : Operand → Value} {d : Option Tmp} {y : Nat} {pos : String} {af : Array Edge} {w : World} :
    (execOp e { dst := d, op := Op.alloc 24, type := y, pos := pos, after := af, guard := none }).run Tryz.prog w = .ok (.value (.pointer (some ⟨w.heap.size, 0, none⟩))) (w.alloc (.cells #[.bool false, .slice none 0 0] 24)) := by
  go_simp
theorem run_ext3 {e : Operand → Value} {x : Operand} {d : Option Tmp} {y : Nat} {pos : String} {af : Array Edge} {w : World} {u v z : Value} (i : Nat) (r : Value) (h : e x = .tuple #[u, v, z]) (hr : (#[u, v, z] : Array Value)[i]? = some r) :
    (execOp e { dst := d, op := Op.extract x i, type := y, pos := pos, after := af, guard := none }).run Tryz.prog w = .ok (.value r) w := by
  match i, hr with
  | 0, hr => cases hr; go_simp
  | 1, hr => cases hr; go_simp
  | 2, hr => cases hr; go_simp
theorem run_callNeg {e : Operand → Value} {x : Operand} {d : Option Tmp} {y : Nat} {pos : String} {af : Array Edge} {w : World} {u : Value} (h : e x = u) (h3 : e (.func 89) = .func (.func 89) #[] #[]) :
    (execOp e { dst := d, op := Op.call { callee := Callee.value (Operand.func 89), args := #[x], argTypes := #[24] }, type := y, pos := pos, after := af, guard := none }).run Tryz.prog w = .ok (.enter 89 #[u]) w := by
  go_simp
theorem run_callDM {e : Operand → Value} {x z : Operand} {d : Option Tmp} {y : Nat} {pos : String} {af : Array Edge} {w : World} {u v : Value} (h1 : e x = u) (h2 : e z = v) (h3 : e (.func 98) = .func (.func 98) #[] #[]) :
    (execOp e { dst := d, op := Op.call { callee := Callee.value (Operand.func 98), args := #[x, z], argTypes := #[24, 24] }, type := y, pos := pos, after := af, guard := none }).run Tryz.prog w = .ok (.enter 98 #[u, v]) w := by
  go_simp

def IsZ (w : World) (v : Value) (x : Int) (k : Nat) : Prop := ∃ s A n c, v = .agg #[.bool s, .slice A n c] ∧ ZR w s A n c x k
/-- A quotient that is good, a rest, no error. -/
def IsDM (w : World) (v : Value) (x : Int) (k : Nat) : Prop := ∃ s A n c s' A' n' c', v = .tuple #[.agg #[.bool s, .slice A n c], .agg #[.bool s', .slice A' n' c'], .int .i64 0] ∧ ZG w s A n c x k
def IBox (w : World) (base : Nat) (p cont : Value) (full : Bool) : Prop := ∃ g s A n c, p = .pointer (some ⟨g, 0, none⟩) ∧ base ≤ g ∧ Bx w g (.bool s) (.slice A n c) ∧ (full = true → cont = .agg #[.bool s, .slice A n c])
theorem IsZ.below {w w' : World} {v : Value} {x : Int} {k : Nat} (h : IsZ w v x k) (hb : Below w.heap.size w w') : IsZ w' v x k := by
  obtain ⟨s, A, n, c, h1, h2⟩ := h; exact ⟨s, A, n, c, h1, h2.below hb⟩
theorem IsDM.below {w w' : World} {v : Value} {x : Int} {k : Nat} (h : IsDM w v x k) (hb : Below w.heap.size w w') : IsDM w' v x k := by
  obtain ⟨s, A, n, c, s', A', n', c', h1, h2⟩ := h; exact ⟨s, A, n, c, s', A', n', c', h1, h2.below hb⟩
theorem IBox.below {w w' : World} {base : Nat} {p cont : Value} {full : Bool} (h : IBox w base p cont full) (hb : Below w.heap.size w w') : IBox w' base p cont full := by
  obtain ⟨g, s, A, n, c, h1, h2, h3, h4⟩ := h; exact ⟨g, s, A, n, c, h1, h2, h3.below hb, h4⟩
theorem IsZ.store {w : World} {v : Value} {x : Int} {k g n0 c0 : Nat} {s0 : Bool} {A0 : Option Addr} (h : IsZ w v x k) (Z : Bx w g (.bool s0) (.slice A0 n0 c0)) (y z : Value) : IsZ ((w.setCell ⟨g, 0, none⟩ y).setCell ⟨g, 1, none⟩ z) v x k := by
  obtain ⟨s, A, n, c, h1, h2⟩ := h; exact ⟨s, A, n, c, h1, h2.set2x Z y z⟩
theorem IsDM.store {w : World} {v : Value} {x : Int} {k g n0 c0 : Nat} {s0 : Bool} {A0 : Option Addr} (h : IsDM w v x k) (Z : Bx w g (.bool s0) (.slice A0 n0 c0)) (y z : Value) : IsDM ((w.setCell ⟨g, 0, none⟩ y).setCell ⟨g, 1, none⟩ z) v x k := by
  obtain ⟨s, A, n, c, s', A', n', c', h1, h2⟩ := h; exact ⟨s, A, n, c, s', A', n', c', h1, h2.set2x Z y z⟩
theorem IBox.other {w : World} {base g : Nat} {p cont : Value} {full : Bool} (h : IBox w base p cont full) (hne : p ≠ .pointer (some ⟨g, 0, none⟩)) (y z : Value) : IBox ((w.setCell ⟨g, 0, none⟩ y).setCell ⟨g, 1, none⟩ z) base p cont full := by
  obtain ⟨g', s, A, n, c, h1, h2, h3, h4⟩ := h
  exact ⟨g', s, A, n, c, h1, h2, h3.other (fun q => hne (by rw [h1, q])) y z, h4⟩
def JC (w : World) (VX VY : Value) (x z : Int) (k : Nat) (D : Nat → Bool) (v : Nat → Value) (w' : World) : Prop :=
  Below w.heap.size w w' ∧ (D 0 = true → v 14 = VX) ∧ (D 1 = true → IsZ w' (v 15) x k) ∧ (D 2 = true → v 16 = VY) ∧ (D 3 = true → IsDM w' (v 17) z (k + 1)) ∧ (D 4 = true → v 13 = v 17) ∧
  (D 5 = true → ∃ r e, v 17 = .tuple #[v 18, r, e]) ∧ (D 6 = true → ∃ q e, v 17 = .tuple #[q, v 19, e]) ∧ (D 8 = true → IBox w' w.heap.size (v 5) (v 18) (D 10)) ∧ (D 9 = true → IBox w' w.heap.size (v 6) (v 19) false) ∧
  (D 8 = true → D 9 = true → v 5 ≠ v 6) ∧ (D 10 = true → D 5 = true ∧ D 8 = true) ∧ ((D 4 = true ∨ D 5 = true ∨ D 6 = true) → D 3 = true)
set_option maxRecDepth 100000 in
set_option maxHeartbeats 4000000 in
theorem ceil_region {id : Nat} {a : Act} {w : World} {Q : Exit → Act → World → Prop} {g1 g2 : Nat} {s t : Bool} {A B : Option Addr} {n c m d k : Nat} {p q : Int}
    (hsz : 20 < a.tmps.size) (e1 : a.eval (.tmp 3) = .pointer (some ⟨g1, 0, none⟩)) (e2 : a.eval (.tmp 4) = .pointer (some ⟨g2, 0, none⟩)) (XA : Bx w g1 (.bool s) (.slice A n c)) (XB : Bx w g2 (.bool t) (.slice B m d)) (X : ZR w s A n c p k) (Y : ZR w t B m d q k) (hq : q ≠ 0) (hk : k ≤ 900) (hk1 : 1 ≤ k)
    (hend : ∀ (v : Nat → Value) (w' : World) (g : Nat) (s1 : Bool) (A1 : Option Addr) (n1 d1 : Nat), v 5 = .pointer (some ⟨g, 0, none⟩) → w.heap.size ≤ g → Bx w' g (.bool s1) (.slice A1 n1 d1) → ZG w' s1 A1 n1 d1 ((-p).fdiv q) (k + 1) → Below w.heap.size w w' → Q .normal (putAll a [14, 15, 16, 17, 13, 18, 19, 20, 5, 6, 7] v) w') :
    (Code.region id #[{ dst := some 14, op := Op.load 24 (Operand.tmp 3), type := 24, pos := "rat.go:113", after := #[], guard := none },
      { dst := some 15, op := Op.call { callee := Callee.value (Operand.func 89), args := #[Operand.tmp 14], argTypes := #[24] }, type := 24, pos := "rat.go:113", after := #[{ on := 0, ground := Ground.data }], guard := none },
      { dst := some 16, op := Op.load 24 (Operand.tmp 4), type := 24, pos := "rat.go:113", after := #[], guard := none },
      { dst := some 17, op := Op.call { callee := Callee.value (Operand.func 98), args := #[Operand.tmp 15, Operand.tmp 16], argTypes := #[24, 24] }, type := 114, pos := "rat.go:113", after := #[{ on := 1, ground := Ground.data }, { on := 2, ground := Ground.data }, { on := 1, ground := Ground.chain }], guard := none },
      { dst := some 13, op := Op.move (Operand.tmp 17), type := 114, pos := "rat.go:113", after := #[{ on := 3, ground := Ground.data }], guard := none },
      { dst := some 18, op := Op.extract (Operand.tmp 13) 0, type := 24, pos := "rat.go:113", after := #[{ on := 4, ground := Ground.data }], guard := none },
      { dst := some 19, op := Op.extract (Operand.tmp 13) 1, type := 24, pos := "rat.go:113", after := #[{ on := 4, ground := Ground.data }, { on := 10, ground := Ground.gcOnly Departure.lateStores }], guard := none },
      { dst := some 20, op := Op.extract (Operand.tmp 13) 2, type := 37, pos := "rat.go:113", after := #[{ on := 4, ground := Ground.data }, { on := 11, ground := Ground.gcOnly Departure.lateStores }], guard := none },
      { dst := some 5, op := Op.alloc 24, type := 0, pos := "rat.go:113", after := #[], guard := none },
      { dst := some 6, op := Op.alloc 24, type := 0, pos := "rat.go:113", after := #[], guard := none },
      { dst := none, op := Op.store 24 (Operand.tmp 5) (Operand.tmp 18), type := 0, pos := "rat.go:113", after := #[{ on := 8, ground := Ground.data }, { on := 5, ground := Ground.data }, { on := 3, ground := Ground.chain }, { on := 0, ground := Ground.phase }, { on := 1, ground := Ground.phase }, { on := 2, ground := Ground.phase }, { on := 3, ground := Ground.phase }, { on := 4, ground := Ground.phase }, { on := 5, ground := Ground.phase }, { on := 6, ground := Ground.textOnly Departure.lateStores }, { on := 7, ground := Ground.textOnly Departure.lateStores }, { on := 8, ground := Ground.phase }, { on := 9, ground := Ground.phase }], guard := none },
      { dst := none, op := Op.store 24 (Operand.tmp 6) (Operand.tmp 19), type := 0, pos := "rat.go:113", after := #[{ on := 9, ground := Ground.data }, { on := 6, ground := Ground.data }, { on := 10, ground := Ground.chain }, { on := 0, ground := Ground.phase }, { on := 1, ground := Ground.phase }, { on := 2, ground := Ground.phase }, { on := 3, ground := Ground.phase }, { on := 4, ground := Ground.phase }, { on := 5, ground := Ground.phase }, { on := 6, ground := Ground.phase }, { on := 7, ground := Ground.textOnly Departure.lateStores }, { on := 8, ground := Ground.phase }, { on := 9, ground := Ground.phase }, { on := 10, ground := Ground.phase }], guard := none },
      { dst := some 7, op := Op.assign (Operand.tmp 20), type := 37, pos := "rat.go:113", after := #[{ on := 7, ground := Ground.data }, { on := 11, ground := Ground.chain }, { on := 0, ground := Ground.phase }, { on := 1, ground := Ground.phase }, { on := 2, ground := Ground.phase }, { on := 3, ground := Ground.phase }, { on := 4, ground := Ground.phase }, { on := 5, ground := Ground.phase }, { on := 6, ground := Ground.phase }, { on := 7, ground := Ground.phase }, { on := 8, ground := Ground.phase }, { on := 9, ground := Ground.phase }, { on := 10, ground := Ground.phase }, { on := 11, ground := Ground.phase }], guard := none }] true).wp Tryz.prog Q a w := by
  have hnd : [14, 15, 16, 17, 13, 18, 19, 20, 5, 6, 7].Nodup := by decide
  refine wp_region_inv [14, 15, 16, 17, 13, 18, 19, 20, 5, 6, 7] (JC w (.agg #[.bool s, .slice A n c]) (.agg #[.bool t, .slice B m d]) (-p) ((-p).fdiv q) k) rfl (by kernel_rfl) ?_ ?_ ?_ ?_
  · refine ⟨(Below.refl _ _).drew, ?_, ?_, ?_, ?_, ?_, ?_, ?_, ?_, ?_, ?_, ?_, ?_⟩ <;> intro h <;> first | (exact absurd h (by decide)) | (rcases h with h | h | h <;> exact absurd h (by decide))
  · intro D D' v w' hD h
    unfold JC at h ⊢
    rw [← hD 0 (by show 0 < 13; omega), ← hD 1 (by show 1 < 13; omega), ← hD 2 (by show 2 < 13; omega), ← hD 3 (by show 3 < 13; omega), ← hD 4 (by show 4 < 13; omega), ← hD 5 (by show 5 < 13; omega), ← hD 6 (by show 6 < 13; omega), ← hD 8 (by show 8 < 13; omega), ← hD 9 (by show 9 < 13; omega), ← hD 10 (by show 10 < 13; omega)]
    exact h
  · intro i o D v w' ho hDi hall hJ
    obtain ⟨J0, J1, J2, J3, J4, J5, J6, J7, J8, J9, J10, J11, J12⟩ := hJ
    have E1 := (eval_putAll_not (v := v) [14, 15, 16, 17, 13, 18, 19, 20, 5, 6, 7] a (show 3 ∉ _ by decide)).trans e1
    have E2 := (eval_putAll_not (v := v) [14, 15, 16, 17, 13, 18, 19, 20, 5, 6, 7] a (show 4 ∉ _ by decide)).trans e2
    have F : ∀ t, t ∈ [14, 15, 16, 17, 13, 18, 19, 20, 5, 6, 7] → t ≤ 20 → (putAll a [14, 15, 16, 17, 13, 18, 19, 20, 5, 6, 7] v).eval (.tmp t) = v t := fun t ht h => eval_putAll_mem (t := t) [14, 15, 16, 17, 13, 18, 19, 20, 5, 6, 7] a hnd ht (Nat.lt_of_le_of_lt h hsz)
    have X' := X.below J0
    have Y' := Y.below J0
    have XA' := XA.below J0
    have XB' := XB.below J0
    match i, ho with
    | 0, ho =>
      have hall' : ∀ e ∈ ({ dst := some 14, op := Op.load 24 (Operand.tmp 3), type := 24, pos := "rat.go:113", after := #[], guard := none } : Oper).after, Region.binds .any e = true → D e.on = true := by cases ho; exact hall
      refine wpOp_plain (o := { dst := some 14, op := Op.load 24 (Operand.tmp 3), type := 24, pos := "rat.go:113", after := #[], guard := none }) rfl rfl ?_
      unfold Oper.wp
      rw [run_loadI E1 XA'.c0 XA'.c1, Oper.upon_value]
      refine ⟨_, putAll_put _ _ _ _ _ hnd (by decide), J0, ?_, ?_, ?_, ?_, ?_, ?_, ?_, ?_, ?_, ?_, ?_, ?_⟩
      · exact fun _ => rfl
      · exact J2
      · exact J3
      · exact J4
      · exact J5
      · exact J6
      · exact J7
      · exact J8
      · exact J9
      · exact J10
      · exact J11
      · exact J12
    | 1, ho =>
      have hall' : ∀ e ∈ ({ dst := some 15, op := Op.call { callee := Callee.value (Operand.func 89), args := #[Operand.tmp 14], argTypes := #[24] }, type := 24, pos := "rat.go:113", after := #[{ on := 0, ground := Ground.data }], guard := none } : Oper).after, Region.binds .any e = true → D e.on = true := by cases ho; exact hall
      have h0 := J1 (hall' { on := 0, ground := Ground.data } (by simp) rfl)
      refine wpOp_plain (o := { dst := some 15, op := Op.call { callee := Callee.value (Operand.func 89), args := #[Operand.tmp 14], argTypes := #[24] }, type := 24, pos := "rat.go:113", after := #[{ on := 0, ground := Ground.data }], guard := none }) rfl rfl ?_
      unfold Oper.wp
      rw [run_callNeg ((F 14 (by decide) (by decide)).trans h0) rfl, Oper.upon_enter]
      refine (zneg_zr X' (by omega)).mono ?_
      rintro e w1 ⟨s1, A1, n1, c1, rfl, hg, hb⟩
      refine ⟨_, putAll_put _ _ _ _ _ hnd (by decide), bend J0 hb, ?_, ?_, ?_, ?_, ?_, ?_, ?_, ?_, ?_, ?_, ?_, ?_⟩
      · exact J1
      · exact fun _ => ⟨s1, A1, n1, c1, rfl, hg⟩
      · exact J3
      · exact fun h => (J4 h).below hb
      · exact J5
      · exact J6
      · exact J7
      · exact fun h => (J8 h).below hb
      · exact fun h => (J9 h).below hb
      · exact J10
      · exact J11
      · exact J12
    | 2, ho =>
      have hall' : ∀ e ∈ ({ dst := some 16, op := Op.load 24 (Operand.tmp 4), type := 24, pos := "rat.go:113", after := #[], guard := none } : Oper).after, Region.binds .any e = true → D e.on = true := by cases ho; exact hall
      refine wpOp_plain (o := { dst := some 16, op := Op.load 24 (Operand.tmp 4), type := 24, pos := "rat.go:113", after := #[], guard := none }) rfl rfl ?_
      unfold Oper.wp
      rw [run_loadI E2 XB'.c0 XB'.c1, Oper.upon_value]
      refine ⟨_, putAll_put _ _ _ _ _ hnd (by decide), J0, ?_, ?_, ?_, ?_, ?_, ?_, ?_, ?_, ?_, ?_, ?_, ?_⟩
      · exact J1
      · exact J2
      · exact fun _ => rfl
      · exact J4
      · exact J5
      · exact J6
      · exact J7
      · exact J8
      · exact J9
      · exact J10
      · exact J11
      · exact J12
    | 3, ho =>
      have hall' : ∀ e ∈ ({ dst := some 17, op := Op.call { callee := Callee.value (Operand.func 98), args := #[Operand.tmp 15, Operand.tmp 16], argTypes := #[24, 24] }, type := 114, pos := "rat.go:113", after := #[{ on := 1, ground := Ground.data }, { on := 2, ground := Ground.data }, { on := 1, ground := Ground.chain }], guard := none } : Oper).after, Region.binds .any e = true → D e.on = true := by cases ho; exact hall
      obtain ⟨s1, A1, n1, c1, u1, u2⟩ := J2 (hall' { on := 1, ground := Ground.data } (by simp) rfl)
      have h2 := J3 (hall' { on := 2, ground := Ground.data } (by simp) rfl)
      have n4 : ¬ D 4 = true := fun h => by have := J12 (.inl h); rw [hDi] at this; cases this
      have n5 : ¬ D 5 = true := fun h => by have := J12 (.inr (.inl h)); rw [hDi] at this; cases this
      have n6 : ¬ D 6 = true := fun h => by have := J12 (.inr (.inr h)); rw [hDi] at this; cases this
      refine wpOp_plain (o := { dst := some 17, op := Op.call { callee := Callee.value (Operand.func 98), args := #[Operand.tmp 15, Operand.tmp 16], argTypes := #[24, 24] }, type := 114, pos := "rat.go:113", after := #[{ on := 1, ground := Ground.data }, { on := 2, ground := Ground.data }, { on := 1, ground := Ground.chain }], guard := none }) rfl rfl ?_
      unfold Oper.wp
      rw [run_callDM ((F 15 (by decide) (by decide)).trans u1) ((F 16 (by decide) (by decide)).trans h2) rfl, Oper.upon_enter]
      refine (zdm_zg (k + 1) u2 Y' hq hk1 (by omega) (by omega) (by omega)).mono ?_
      rintro e w1 ⟨sq, Aq, nq, cq, sr, Ar, nr, cr, rfl, hg, hg2, hb⟩
      refine ⟨_, putAll_put _ _ _ _ _ hnd (by decide), bend J0 hb, ?_, ?_, ?_, ?_, ?_, ?_, ?_, ?_, ?_, ?_, ?_, ?_⟩
      · exact J1
      · exact fun h => (J2 h).below hb
      · exact J3
      · exact fun _ => ⟨sq, Aq, nq, cq, sr, Ar, nr, cr, rfl, hg⟩
      · exact fun h => absurd h n4
      · exact fun h => absurd h n5
      · exact fun h => absurd h n6
      · exact fun h => (J8 h).below hb
      · exact fun h => (J9 h).below hb
      · exact J10
      · exact J11
      · exact fun _ => rfl
    | 4, ho =>
      have hall' : ∀ e ∈ ({ dst := some 13, op := Op.move (Operand.tmp 17), type := 114, pos := "rat.go:113", after := #[{ on := 3, ground := Ground.data }], guard := none } : Oper).after, Region.binds .any e = true → D e.on = true := by cases ho; exact hall
      have d3 := hall' { on := 3, ground := Ground.data } (by simp) rfl
      refine wpOp_plain (o := { dst := some 13, op := Op.move (Operand.tmp 17), type := 114, pos := "rat.go:113", after := #[{ on := 3, ground := Ground.data }], guard := none }) rfl rfl ?_
      unfold Oper.wp
      rw [run_move (F 17 (by decide) (by decide)), Oper.upon_value]
      refine ⟨_, putAll_put _ _ _ _ _ hnd (by decide), J0, ?_, ?_, ?_, ?_, ?_, ?_, ?_, ?_, ?_, ?_, ?_, ?_⟩
      · exact J1
      · exact J2
      · exact J3
      · exact J4
      · exact fun _ => rfl
      · exact J6
      · exact J7
      · exact J8
      · exact J9
      · exact J10
      · exact J11
      · exact fun _ => d3
    | 5, ho =>
      have hall' : ∀ e ∈ ({ dst := some 18, op := Op.extract (Operand.tmp 13) 0, type := 24, pos := "rat.go:113", after := #[{ on := 4, ground := Ground.data }], guard := none } : Oper).after, Region.binds .any e = true → D e.on = true := by cases ho; exact hall
      have d4 := hall' { on := 4, ground := Ground.data } (by simp) rfl
      obtain ⟨sq, Aq, nq, cq, sr, Ar, nr, cr, u1, u2⟩ := J4 (J12 (.inl d4))
      have h5 := (J5 d4).trans u1
      have n10 : ¬ D 10 = true := fun h => by have := (J11 h).1; rw [hDi] at this; cases this
      refine wpOp_plain (o := { dst := some 18, op := Op.extract (Operand.tmp 13) 0, type := 24, pos := "rat.go:113", after := #[{ on := 4, ground := Ground.data }], guard := none }) rfl rfl ?_
      unfold Oper.wp
      rw [run_ext3 0 _ ((F 13 (by decide) (by decide)).trans h5) rfl, Oper.upon_value]
      refine ⟨_, putAll_put _ _ _ _ _ hnd (by decide), J0, ?_, ?_, ?_, ?_, ?_, ?_, ?_, ?_, ?_, ?_, ?_, ?_⟩
      · exact J1
      · exact J2
      · exact J3
      · exact J4
      · exact J5
      · exact fun _ => ⟨_, _, u1⟩
      · exact J7
      · intro h; obtain ⟨g, s0, A0, n0, c0, p1, p2, p3, _⟩ := J8 h; exact ⟨g, s0, A0, n0, c0, p1, p2, p3, fun q => absurd q n10⟩
      · exact J9
      · exact J10
      · exact fun h => absurd h n10
      · exact fun _ => J12 (.inl d4)
    | 6, ho =>
      have hall' : ∀ e ∈ ({ dst := some 19, op := Op.extract (Operand.tmp 13) 1, type := 24, pos := "rat.go:113", after := #[{ on := 4, ground := Ground.data }, { on := 10, ground := Ground.gcOnly Departure.lateStores }], guard := none } : Oper).after, Region.binds .any e = true → D e.on = true := by cases ho; exact hall
      have d4 := hall' { on := 4, ground := Ground.data } (by simp) rfl
      obtain ⟨sq, Aq, nq, cq, sr, Ar, nr, cr, u1, u2⟩ := J4 (J12 (.inl d4))
      have h5 := (J5 d4).trans u1
      refine wpOp_plain (o := { dst := some 19, op := Op.extract (Operand.tmp 13) 1, type := 24, pos := "rat.go:113", after := #[{ on := 4, ground := Ground.data }, { on := 10, ground := Ground.gcOnly Departure.lateStores }], guard := none }) rfl rfl ?_
      unfold Oper.wp
      rw [run_ext3 1 _ ((F 13 (by decide) (by decide)).trans h5) rfl, Oper.upon_value]
      refine ⟨_, putAll_put _ _ _ _ _ hnd (by decide), J0, ?_, ?_, ?_, ?_, ?_, ?_, ?_, ?_, ?_, ?_, ?_, ?_⟩
      · exact J1
      · exact J2
      · exact J3
      · exact J4
      · exact J5
      · exact J6
      · exact fun _ => ⟨_, _, u1⟩
      · exact J8
      · intro h; obtain ⟨g, s0, A0, n0, c0, p1, p2, p3, _⟩ := J9 h; exact ⟨g, s0, A0, n0, c0, p1, p2, p3, fun q => by cases q⟩
      · exact J10
      · exact J11
      · exact fun _ => J12 (.inl d4)
    | 7, ho =>
      have hall' : ∀ e ∈ ({ dst := some 20, op := Op.extract (Operand.tmp 13) 2, type := 37, pos := "rat.go:113", after := #[{ on := 4, ground := Ground.data }, { on := 11, ground := Ground.gcOnly Departure.lateStores }], guard := none } : Oper).after, Region.binds .any e = true → D e.on = true := by cases ho; exact hall
      have d4 := hall' { on := 4, ground := Ground.data } (by simp) rfl
      obtain ⟨sq, Aq, nq, cq, sr, Ar, nr, cr, u1, u2⟩ := J4 (J12 (.inl d4))
      have h5 := (J5 d4).trans u1
      refine wpOp_plain (o := { dst := some 20, op := Op.extract (Operand.tmp 13) 2, type := 37, pos := "rat.go:113", after := #[{ on := 4, ground := Ground.data }, { on := 11, ground := Ground.gcOnly Departure.lateStores }], guard := none }) rfl rfl ?_
      unfold Oper.wp
      rw [run_ext3 2 _ ((F 13 (by decide) (by decide)).trans h5) rfl, Oper.upon_value]
      refine ⟨_, putAll_put _ _ _ _ _ hnd (by decide), J0, ?_, ?_, ?_, ?_, ?_, ?_, ?_, ?_, ?_, ?_, ?_, ?_⟩
      · exact J1
      · exact J2
      · exact J3
      · exact J4
      · exact J5
      · exact J6
      · exact J7
      · exact J8
      · exact J9
      · exact J10
      · exact J11
      · exact J12
    | 8, ho =>
      have hall' : ∀ e ∈ ({ dst := some 5, op := Op.alloc 24, type := 0, pos := "rat.go:113", after := #[], guard := none } : Oper).after, Region.binds .any e = true → D e.on = true := by cases ho; exact hall
      have n10 : ¬ D 10 = true := fun h => by have := (J11 h).2; rw [hDi] at this; cases this
      refine wpOp_plain (o := { dst := some 5, op := Op.alloc 24, type := 0, pos := "rat.go:113", after := #[], guard := none }) rfl rfl ?_
      unfold Oper.wp
      rw [run_allocI, Oper.upon_value]
      have hb := (Below.refl w'.heap.size w').alloc (Nat.le_refl _) (.cells #[.bool false, .slice none 0 0] 24)
      refine ⟨_, putAll_put _ _ _ _ _ hnd (by decide), bend J0 hb, ?_, ?_, ?_, ?_, ?_, ?_, ?_, ?_, ?_, ?_, ?_, ?_⟩
      · exact J1
      · exact fun h => (J2 h).below hb
      · exact J3
      · exact fun h => (J4 h).below hb
      · exact J5
      · exact J6
      · exact J7
      · exact fun _ => ⟨_, _, _, _, _, rfl, J0.size, Bx.new w' _ _, fun q => absurd q n10⟩
      · exact fun h => (J9 h).below hb
      · intro _ h9 q'; obtain ⟨g, s0, A0, n0, c0, p1, p2, p3, _⟩ := J9 h9; have q2 : Value.pointer (some ⟨w'.heap.size, 0, none⟩) = v 6 := q'; rw [p1] at q2; have := p3.lt; (simp at q2) <;> omega
      · exact fun h => absurd h n10
      · exact J12
    | 9, ho =>
      have hall' : ∀ e ∈ ({ dst := some 6, op := Op.alloc 24, type := 0, pos := "rat.go:113", after := #[], guard := none } : Oper).after, Region.binds .any e = true → D e.on = true := by cases ho; exact hall
      refine wpOp_plain (o := { dst := some 6, op := Op.alloc 24, type := 0, pos := "rat.go:113", after := #[], guard := none }) rfl rfl ?_
      unfold Oper.wp
      rw [run_allocI, Oper.upon_value]
      have hb := (Below.refl w'.heap.size w').alloc (Nat.le_refl _) (.cells #[.bool false, .slice none 0 0] 24)
      refine ⟨_, putAll_put _ _ _ _ _ hnd (by decide), bend J0 hb, ?_, ?_, ?_, ?_, ?_, ?_, ?_, ?_, ?_, ?_, ?_, ?_⟩
      · exact J1
      · exact fun h => (J2 h).below hb
      · exact J3
      · exact fun h => (J4 h).below hb
      · exact J5
      · exact J6
      · exact J7
      · exact fun h => (J8 h).below hb
      · exact fun _ => ⟨_, _, _, _, _, rfl, J0.size, Bx.new w' _ _, fun q => by cases q⟩
      · intro h8 _ q'; obtain ⟨g, s0, A0, n0, c0, p1, p2, p3, _⟩ := J8 h8; have q2 : v 5 = Value.pointer (some ⟨w'.heap.size, 0, none⟩) := q'; rw [p1] at q2; have := p3.lt; (simp at q2) <;> omega
      · exact J11
      · exact J12
    | 10, ho =>
      have hall' : ∀ e ∈ ({ dst := none, op := Op.store 24 (Operand.tmp 5) (Operand.tmp 18), type := 0, pos := "rat.go:113", after := #[{ on := 8, ground := Ground.data }, { on := 5, ground := Ground.data }, { on := 3, ground := Ground.chain }, { on := 0, ground := Ground.phase }, { on := 1, ground := Ground.phase }, { on := 2, ground := Ground.phase }, { on := 3, ground := Ground.phase }, { on := 4, ground := Ground.phase }, { on := 5, ground := Ground.phase }, { on := 6, ground := Ground.textOnly Departure.lateStores }, { on := 7, ground := Ground.textOnly Departure.lateStores }, { on := 8, ground := Ground.phase }, { on := 9, ground := Ground.phase }], guard := none } : Oper).after, Region.binds .any e = true → D e.on = true := by cases ho; exact hall
      have d8 := hall' { on := 8, ground := Ground.data } (by simp) rfl
      have d5 := hall' { on := 5, ground := Ground.data } (by simp) rfl
      obtain ⟨g, s0, A0, n0, c0, p1, p2, p3, p4⟩ := J8 d8
      obtain ⟨sq, Aq, nq, cq, sr, Ar, nr, cr, u1, u2⟩ := J4 (J12 (.inr (.inl d5)))
      obtain ⟨r0, e0, u3⟩ := J6 d5
      have e18 : v 18 = .agg #[.bool sq, .slice Aq nq cq] := by have h := u3.symm.trans u1; simp at h; exact h.1
      refine wpOp_plain (o := { dst := none, op := Op.store 24 (Operand.tmp 5) (Operand.tmp 18), type := 0, pos := "rat.go:113", after := #[{ on := 8, ground := Ground.data }, { on := 5, ground := Ground.data }, { on := 3, ground := Ground.chain }, { on := 0, ground := Ground.phase }, { on := 1, ground := Ground.phase }, { on := 2, ground := Ground.phase }, { on := 3, ground := Ground.phase }, { on := 4, ground := Ground.phase }, { on := 5, ground := Ground.phase }, { on := 6, ground := Ground.textOnly Departure.lateStores }, { on := 7, ground := Ground.textOnly Departure.lateStores }, { on := 8, ground := Ground.phase }, { on := 9, ground := Ground.phase }], guard := none }) rfl rfl ?_
      unfold Oper.wp
      rw [run_storeI ((F 5 (by decide) (by decide)).trans p1) ((F 18 (by decide) (by decide)).trans e18) p3.c0 p3.c1 p3.f0 p3.f1, Oper.upon_skip]
      refine ⟨v, put_none _ _, (J0.setCell p2 _).setCell p2 _, J1, ?_, J3, ?_, J5, J6, J7, ?_, ?_, J10, fun _ => ⟨d5, d8⟩, J12⟩
      · exact fun h => (J2 h).store p3 _ _
      · exact fun h => (J4 h).store p3 _ _
      · exact fun _ => ⟨g, _, _, _, _, p1, p2, p3.set2 _ _, fun _ => e18⟩
      · exact fun h => (J9 h).other (by rw [← p1]; exact (J10 d8 h).symm) _ _
    | 11, ho =>
      have hall' : ∀ e ∈ ({ dst := none, op := Op.store 24 (Operand.tmp 6) (Operand.tmp 19), type := 0, pos := "rat.go:113", after := #[{ on := 9, ground := Ground.data }, { on := 6, ground := Ground.data }, { on := 10, ground := Ground.chain }, { on := 0, ground := Ground.phase }, { on := 1, ground := Ground.phase }, { on := 2, ground := Ground.phase }, { on := 3, ground := Ground.phase }, { on := 4, ground := Ground.phase }, { on := 5, ground := Ground.phase }, { on := 6, ground := Ground.phase }, { on := 7, ground := Ground.textOnly Departure.lateStores }, { on := 8, ground := Ground.phase }, { on := 9, ground := Ground.phase }, { on := 10, ground := Ground.phase }], guard := none } : Oper).after, Region.binds .any e = true → D e.on = true := by cases ho; exact hall
      have d9 := hall' { on := 9, ground := Ground.data } (by simp) rfl
      have d6 := hall' { on := 6, ground := Ground.data } (by simp) rfl
      obtain ⟨g, s0, A0, n0, c0, p1, p2, p3, p4⟩ := J9 d9
      obtain ⟨sq, Aq, nq, cq, sr, Ar, nr, cr, u1, u2⟩ := J4 (J12 (.inr (.inr d6)))
      obtain ⟨r0, e0, u3⟩ := J7 d6
      have e19 : v 19 = .agg #[.bool sr, .slice Ar nr cr] := by have h := u3.symm.trans u1; simp at h; exact h.2.1
      refine wpOp_plain (o := { dst := none, op := Op.store 24 (Operand.tmp 6) (Operand.tmp 19), type := 0, pos := "rat.go:113", after := #[{ on := 9, ground := Ground.data }, { on := 6, ground := Ground.data }, { on := 10, ground := Ground.chain }, { on := 0, ground := Ground.phase }, { on := 1, ground := Ground.phase }, { on := 2, ground := Ground.phase }, { on := 3, ground := Ground.phase }, { on := 4, ground := Ground.phase }, { on := 5, ground := Ground.phase }, { on := 6, ground := Ground.phase }, { on := 7, ground := Ground.textOnly Departure.lateStores }, { on := 8, ground := Ground.phase }, { on := 9, ground := Ground.phase }, { on := 10, ground := Ground.phase }], guard := none }) rfl rfl ?_
      unfold Oper.wp
      rw [run_storeI ((F 6 (by decide) (by decide)).trans p1) ((F 19 (by decide) (by decide)).trans e19) p3.c0 p3.c1 p3.f0 p3.f1, Oper.upon_skip]
      refine ⟨v, put_none _ _, (J0.setCell p2 _).setCell p2 _, J1, ?_, J3, ?_, J5, J6, J7, ?_, ?_, J10, J11, J12⟩
      · exact fun h => (J2 h).store p3 _ _
      · exact fun h => (J4 h).store p3 _ _
      · exact fun h => (J8 h).other (by rw [← p1]; exact J10 h d9) _ _
      · exact fun _ => ⟨g, _, _, _, _, p1, p2, p3.set2 _ _, fun q => by cases q⟩
    | 12, ho =>
      have hall' : ∀ e ∈ ({ dst := some 7, op := Op.assign (Operand.tmp 20), type := 37, pos := "rat.go:113", after := #[{ on := 7, ground := Ground.data }, { on := 11, ground := Ground.chain }, { on := 0, ground := Ground.phase }, { on := 1, ground := Ground.phase }, { on := 2, ground := Ground.phase }, { on := 3, ground := Ground.phase }, { on := 4, ground := Ground.phase }, { on := 5, ground := Ground.phase }, { on := 6, ground := Ground.phase }, { on := 7, ground := Ground.phase }, { on := 8, ground := Ground.phase }, { on := 9, ground := Ground.phase }, { on := 10, ground := Ground.phase }, { on := 11, ground := Ground.phase }], guard := none } : Oper).after, Region.binds .any e = true → D e.on = true := by cases ho; exact hall
      refine wpOp_plain (o := { dst := some 7, op := Op.assign (Operand.tmp 20), type := 37, pos := "rat.go:113", after := #[{ on := 7, ground := Ground.data }, { on := 11, ground := Ground.chain }, { on := 0, ground := Ground.phase }, { on := 1, ground := Ground.phase }, { on := 2, ground := Ground.phase }, { on := 3, ground := Ground.phase }, { on := 4, ground := Ground.phase }, { on := 5, ground := Ground.phase }, { on := 6, ground := Ground.phase }, { on := 7, ground := Ground.phase }, { on := 8, ground := Ground.phase }, { on := 9, ground := Ground.phase }, { on := 10, ground := Ground.phase }, { on := 11, ground := Ground.phase }], guard := none }) rfl rfl ?_
      unfold Oper.wp
      rw [run_assign rfl, Oper.upon_value]
      refine ⟨_, putAll_put _ _ _ _ _ hnd (by decide), J0, ?_, ?_, ?_, ?_, ?_, ?_, ?_, ?_, ?_, ?_, ?_, ?_⟩
      · exact J1
      · exact J2
      · exact J3
      · exact J4
      · exact J5
      · exact J6
      · exact J7
      · exact J8
      · exact J9
      · exact J10
      · exact J11
      · exact J12
    | i + 13, ho => cases ho
  · intro D v w' hall hJ
    obtain ⟨J0, J1, J2, J3, J4, J5, J6, J7, J8, J9, J10, J11, J12⟩ := hJ
    obtain ⟨g, s0, A0, n0, c0, p1, p2, p3, p4⟩ := J8 (hall 8 (by show 8 < 13; omega))
    obtain ⟨sq, Aq, nq, cq, sr, Ar, nr, cr, u1, u2⟩ := J4 (hall 3 (by show 3 < 13; omega))
    obtain ⟨r0, e0, u3⟩ := J6 (hall 5 (by show 5 < 13; omega))
    have e18 : v 18 = .agg #[.bool sq, .slice Aq nq cq] := by have h := u3.symm.trans u1; simp at h; exact h.1
    have h := (p4 (hall 10 (by show 10 < 13; omega))).symm.trans e18
    simp at h
    obtain ⟨rfl, rfl, rfl, rfl⟩ := h
    exact hend v w' g _ _ _ _ p1 p2 p3 u2 J0

set_option maxRecDepth 100000 in
set_option maxHeartbeats 4000000 in
theorem rceil_q {w : World} {s : Bool} {A A' : Option Addr} {n c n' c' k : Nat} {v : Rat} (X0 : QR w s A n c A' n' c' v k) (hk : k ≤ 900) (hk1 : 1 ≤ k) :
    Calls Tryz.prog 42 #[.agg #[.bool s, .slice A n c, .slice A' n' c']] w (GivesZG w v.ceil (k + 1)) := by
  obtain ⟨p, q, X, Q, rfl⟩ := X0
  have HE : Hid (-((-p).fdiv (den1 q : Int)) = (mkRat p (den1 q)).ceil) := by
    show _ = _
    rw [Rat.ceil_eq_neg_floor_neg, mk_neg, mk_floor (den1_ne q)]
  go_enter Tryz.func42, Tryz.ntmps42
  go_wp2_with fail
  generalize hW : ((w.alloc (Obj.cells #[Value.bool s, Value.slice A n c, Value.slice A' n' c'] 26)).alloc (Obj.cells #[Value.bool false, Value.slice none 0 0] 24)) = W
  have hb : Below w.heap.size w W := by subst hW; exact (((Below.refl _ _).alloc (Nat.le_refl _) _).alloc (by simp) _)
  have XA : B3 W (w.heap.size) (Value.bool s) (Value.slice A n c) (Value.slice A' n' c') := by subst hW; exact (B3.new' _ _ _ _ _ rfl).alloc _
  have Z : Bx W (w.heap.size + 1) (Value.bool false) (Value.slice none 0 0) := by subst hW; exact Bx.new' _ _ _ _ (by simp)
  have hzW : W.heap.size = w.heap.size + 2 := by subst hW; simp
  clear hW
  replace X := X.below hb
  replace Q := Q.below hb
  have xa0 := XA.c0
  have xa1 := XA.c1
  have xa2 := XA.c2
  go_upto_region 2 with (first
      | (go_at_call 85; (with_reducible refine (parts_any X Q (by omega) hk1).mono ?_); rintro e w_p ⟨s_x, A_x, n_x, c_x, s_y, A_y, n_y, c_y, rfl, x, y, hh⟩
         try replace X := X.below hh
         try replace Q := Q.below hh
         try replace z := z.below hh
         try replace XA := XA.below hh
         try replace Z := Z.below hh
         try replace XP := XP.below hh
         try replace XQ := XQ.below hh
         try replace R := R.below hh
         replace hb := bend hb hh))
  have hp1 := Z.lt
  generalize hW : ((w_p.alloc (Obj.cells #[Value.bool s_x, Value.slice A_x n_x c_x] 24)).alloc (Obj.cells #[Value.bool s_y, Value.slice A_y n_y c_y] 24)) = W2
  have hh : Below w_p.heap.size w_p W2 := by subst hW; exact (((Below.refl _ _).alloc (Nat.le_refl _) _).alloc (by simp) _)
  have XP : Bx W2 (w_p.heap.size) (Value.bool s_x) (Value.slice A_x n_x c_x) := by subst hW; exact (Bx.new' _ _ _ _ rfl).alloc _
  have XQ : Bx W2 (w_p.heap.size + 1) (Value.bool s_y) (Value.slice A_y n_y c_y) := by subst hW; exact Bx.new' _ _ _ _ (by simp)
  have hzW2 : W2.heap.size = w_p.heap.size + 2 := by subst hW; simp
  clear hW
  try replace x := x.below hh
  try replace y := y.below hh
  try replace Z := Z.below hh
  replace hb := bend hb hh
  refine ceil_region (by simp) rfl rfl XP XQ x y (den1_i q) hk hk1 ?_
  intro V w_x g s_z A_z n_z c_z hv1 hg R z hh
  simp only [putAll, Act.put, List.setIfInBounds_toArray, List.set_cons_zero, List.set_cons_succ, hv1]
  clear hv1
  replace Z := Z.below hh
  replace hb := bend hb hh
  have zz := z.zr
  have r0 := R.c0
  have r1 := R.c1
  go_wp2_with (first
      | (go_at_call 89; (with_reducible refine (zneg_zg zz (by omega)).mono ?_); rintro e w_m ⟨s_m, A_m, n_m, c_m, rfl, m, hh2⟩; have hh := hh2
         rw [HE.out] at m
         try replace Z := Z.below hh
         replace hb := bend hb hh
         have z0 := Z.c0
         have z1 := Z.c1
         have z2 := Z.f0
         have z3 := Z.f1))
  have Z2 := Z.set2 (.bool s_m) (.slice A_m n_m c_m)
  have g0 := Z2.c0
  have g1 := Z2.c1
  refine bodyPost_ret (v := .agg #[.bool s_m, .slice A_m n_m c_m]) (by simp [results, Tryz.results42, go_sem, g0, g1]) rfl ?_
  exact ⟨s_m, A_m, n_m, c_m, rfl, m.set2x Z _ _, below_set2 hb (by omega) _ _⟩
end Go.Proofs.YtmcijgnbdnpanaaGreat
