/- gessolaw03.wakes: the layer's functions are awake. -/
import Derived.Test.YtmcijgnbdnpanaaGreatRatH
import Derived.Test.YtmcijgnbdnpanaaGreatInv
import Derived.Test.YtmcijgnbdnpanaaGreatRuns
import Derived.Test.YtmcijgnbdnpanaaGreatTwoIn
import Derived.Test.YtmcijgnbdnpanaaGreatZedH
namespace Go.Proofs.YtmcijgnbdnpanaaGreat
open Go Go.RowKit

theorem run_loadQ {e : Operand → Value} {x : Operand} {d : Option Tmp} {y g : Nat} {pos : String} {af : Array Edge} {w : World} {u v z : Value} (h : e x = .pointer (some ⟨g, 0, none⟩)) (h0 : w.cell? ⟨g, 0, none⟩ = some u) (h1 : w.cell? ⟨g, 1, none⟩ = some v) (h2 : w.cell? ⟨g, 2, none⟩ = some z) :
    (execOp e { dst := d, op := Op.load 26 x, type := y, pos := pos, after := af, guard := none }).run Tryz.prog w = .ok (.value (.agg #[u, v, z])) w := by
  go_simp
theorem run_storeQ {e : Operand → Value} {x z : Operand} {d : Option Tmp} {y g : Nat} {pos : String} {af : Array Edge} {w : World} {s : Bool} {A B : Option Addr} {n c m k : Nat} {u0 v0 z0 : Value} (h : e x = .pointer (some ⟨g, 0, none⟩)) (hz : e z = .agg #[.bool s, .slice A n c, .slice B m k]) (h0 : w.cell? ⟨g, 0, none⟩ = some u0) (h1 : w.cell? ⟨g, 1, none⟩ = some v0) (h2 : w.cell? ⟨g, 2, none⟩ = some z0) (f0 : w.frozen? ⟨g, 0, none⟩ = false) (f1 : w.frozen? ⟨g, 1, none⟩ = false) (f2 : w.frozen? ⟨g, 2, none⟩ = false) :
    (execOp e { dst := d, op := Op.store 26 x z, type := y, pos := pos, after := af, guard := none }).run Tryz.prog w = .ok .skip (((w.setCell ⟨g, 0, none⟩ (.bool s)).setCell ⟨g, 1, none⟩ (.slice A n c)).setCell ⟨g, 2, none⟩ (.slice B m k)) := by
  go_simp
theorem run_allocQ {e : Operand → Value} {d : Option Tmp} {y : Nat} {pos : String} {af : Array Edge} {w : World} :
    (execOp e { dst := d, op := Op.alloc 26, type := y, pos := pos, after := af, guard := none }).run Tryz.prog w = .ok (.value (.pointer (some ⟨w.heap.size, 0, none⟩))) (w.alloc (.cells #[.bool false, .slice none 0 0, .slice none 0 0] 26)) := by
  go_simp
theorem run_move {e : Operand → Value} {x : Operand} {d : Option Tmp} {y : Nat} {pos : String} {af : Array Edge} {w : World} {u : Value} (h : e x = u) :
    (execOp e { dst := d, op := Op.move x, type := y, pos := pos, after := af, guard := none }).run Tryz.prog w = .ok (.value u) w := by
  subst h; go_simp
theorem run_assign {e : Operand → Value} {x : Operand} {d : Option Tmp} {y : Nat} {pos : String} {af : Array Edge} {w : World} {u : Value} (h : e x = u) :
    (execOp e { dst := d, op := Op.assign x, type := y, pos := pos, after := af, guard := none }).run Tryz.prog w = .ok (.value u) w := by
  subst h; go_simp
theorem run_ext0 {e : Operand → Value} {x : Operand} {d : Option Tmp} {y : Nat} {pos : String} {af : Array Edge} {w : World} {u v : Value} (h : e x = .tuple #[u, v]) :
    (execOp e { dst := d, op := Op.extract x 0, type := y, pos := pos, after := af, guard := none }).run Tryz.prog w = .ok (.value u) w := by
  go_simp
theorem run_ext1 {e : Operand → Value} {x : Operand} {d : Option Tmp} {y : Nat} {pos : String} {af : Array Edge} {w : World} {u v : Value} (h : e x = .tuple #[u, v]) :
    (execOp e { dst := d, op := Op.extract x 1, type := y, pos := pos, after := af, guard := none }).run Tryz.prog w = .ok (.value v) w := by
  go_simp
theorem run_callOf {e : Operand → Value} {d : Option Tmp} {y : Nat} {pos : String} {af : Array Edge} {w : World} {i j : Int} (h1 : e (.const (.int .i64 i)) = .int .i64 i) (h2 : e (.const (.int .i64 j)) = .int .i64 j) (h3 : e (.func 44) = .func (.func 44) #[] #[]) :
    (execOp e { dst := d, op := Op.call { callee := Callee.value (Operand.func 44), args := #[.const (.int .i64 i), .const (.int .i64 j)], argTypes := #[2, 2] }, type := y, pos := pos, after := af, guard := none }).run Tryz.prog w = .ok (.enter 44 #[.int .i64 i, .int .i64 j]) w := by
  go_simp
theorem run_callDiv {e : Operand → Value} {x z : Operand} {d : Option Tmp} {y : Nat} {pos : String} {af : Array Edge} {w : World} {u v : Value} (h1 : e x = u) (h2 : e z = v) (h3 : e (.func 14) = .func (.func 14) #[] #[]) :
    (execOp e { dst := d, op := Op.call { callee := Callee.value (Operand.func 14), args := #[x, z], argTypes := #[26, 26] }, type := y, pos := pos, after := af, guard := none }).run Tryz.prog w = .ok (.enter 14 #[u, v]) w := by
  go_simp

def IsQ (w : World) (v : Value) (x : Rat) (k : Nat) : Prop := ∃ s A n c A' n' c', v = .agg #[.bool s, .slice A n c, .slice A' n' c'] ∧ QG w s A n c A' n' c' x k
theorem IsQ.below {w w' : World} {v : Value} {x : Rat} {k : Nat} (h : IsQ w v x k) (hb : Below w.heap.size w w') : IsQ w' v x k := by
  obtain ⟨s, A, n, c, A', n', c', h1, h2⟩ := h; exact ⟨s, A, n, c, A', n', c', h1, h2.below hb⟩
def HasBox (w : World) (base : Nat) (p : Value) : Prop := ∃ g s A n c A' n' c', p = .pointer (some ⟨g, 0, none⟩) ∧ base ≤ g ∧ B3 w g (.bool s) (.slice A n c) (.slice A' n' c')
theorem HasBox.below {w w' : World} {b : Nat} {p : Value} (h : HasBox w b p) (hb : Below w.heap.size w w') : HasBox w' b p := by
  obtain ⟨g, s, A, n, c, A', n', c', h1, h2, h3⟩ := h; exact ⟨g, s, A, n, c, A', n', c', h1, h2, h3.below hb⟩
def ErrT : Value := .tuple #[.agg #[.bool false, .slice none 0 0, .slice none 0 0], .int .i64 12]
def JW (w : World) (V : Value) (D : Nat → Bool) (v : Nat → Value) (w' : World) : Prop :=
  Below w.heap.size w w' ∧ (D 0 = true → v 18 = V) ∧ (D 1 = true ∧ D 2 = false → IsQ w' (v 19) (Rat.divInt 0 1) 1) ∧ (D 2 = true → v 20 = ErrT) ∧ (D 3 = true → v 17 = ErrT) ∧
  (D 4 = true → v 21 = .agg #[.bool false, .slice none 0 0, .slice none 0 0]) ∧ (D 5 = true → v 22 = .int .i64 12) ∧ (D 6 = true → HasBox w' w.heap.size (v 5)) ∧ (D 8 = true → v 6 = .int .i64 12)
set_option maxRecDepth 100000 in
set_option maxHeartbeats 4000000 in
theorem wk_region {id : Nat} {a : Act} {w : World} {Q : Exit → Act → World → Prop} {g1 : Nat} {s : Bool} {A A' : Option Addr} {n c n' c' : Nat} {va : Rat}
    (hsz : 22 < a.tmps.size) (e1 : a.eval (.tmp 1) = .pointer (some ⟨g1, 0, none⟩)) (XA : B3 w g1 (.bool s) (.slice A n c) (.slice A' n' c')) (X : QR w s A n c A' n' c' va 1)
    (hend : ∀ (v : Nat → Value) (w' : World), v 6 = .int .i64 12 → Below w.heap.size w w' → Q .normal (putAll a [18, 19, 20, 17, 21, 22, 5, 6] v) w') :
    (Code.region id #[{ dst := some 18, op := Op.load 26 (Operand.tmp 1), type := 26, pos := "law.go:19", after := #[], guard := none },
      { dst := some 19, op := Op.call { callee := Callee.value (Operand.func 44), args := #[Operand.const (Value.int IntKind.i64 0), Operand.const (Value.int IntKind.i64 1)], argTypes := #[2, 2] }, type := 26, pos := "law.go:19", after := #[], guard := none },
      { dst := some 20, op := Op.call { callee := Callee.value (Operand.func 14), args := #[Operand.tmp 18, Operand.tmp 19], argTypes := #[26, 26] }, type := 38, pos := "law.go:19", after := #[{ on := 0, ground := Ground.data }, { on := 1, ground := Ground.data }, { on := 1, ground := Ground.chain }], guard := none },
      { dst := some 17, op := Op.move (Operand.tmp 20), type := 38, pos := "law.go:19", after := #[{ on := 2, ground := Ground.data }], guard := none },
      { dst := some 21, op := Op.extract (Operand.tmp 17) 0, type := 26, pos := "law.go:19", after := #[{ on := 3, ground := Ground.data }], guard := none },
      { dst := some 22, op := Op.extract (Operand.tmp 17) 1, type := 37, pos := "law.go:19", after := #[{ on := 3, ground := Ground.data }, { on := 7, ground := Ground.gcOnly Departure.lateStores }], guard := none },
      { dst := some 5, op := Op.alloc 26, type := 0, pos := "law.go:19", after := #[], guard := none },
      { dst := none, op := Op.store 26 (Operand.tmp 5) (Operand.tmp 21), type := 0, pos := "law.go:19", after := #[{ on := 6, ground := Ground.data }, { on := 4, ground := Ground.data }, { on := 2, ground := Ground.chain }, { on := 0, ground := Ground.phase }, { on := 1, ground := Ground.phase }, { on := 2, ground := Ground.phase }, { on := 3, ground := Ground.phase }, { on := 4, ground := Ground.phase }, { on := 5, ground := Ground.textOnly Departure.lateStores }, { on := 6, ground := Ground.phase }], guard := none },
      { dst := some 6, op := Op.assign (Operand.tmp 22), type := 37, pos := "law.go:19", after := #[{ on := 5, ground := Ground.data }, { on := 7, ground := Ground.chain }, { on := 0, ground := Ground.phase }, { on := 1, ground := Ground.phase }, { on := 2, ground := Ground.phase }, { on := 3, ground := Ground.phase }, { on := 4, ground := Ground.phase }, { on := 5, ground := Ground.phase }, { on := 6, ground := Ground.phase }, { on := 7, ground := Ground.phase }], guard := none }] true).wp Tryz.prog Q a w := by
  have hnd : [18, 19, 20, 17, 21, 22, 5, 6].Nodup := by decide
  refine wp_region_inv [18, 19, 20, 17, 21, 22, 5, 6] (JW w (.agg #[.bool s, .slice A n c, .slice A' n' c'])) rfl (by kernel_rfl) ?_ ?_ ?_ ?_
  · refine ⟨(Below.refl _ _).drew, ?_, ?_, ?_, ?_, ?_, ?_, ?_, ?_⟩ <;> intro h <;> first | (exact absurd h (by decide)) | (exact absurd h.1 (by decide))
  · intro D D' v w' hD h
    unfold JW at h ⊢
    rw [← hD 0 (by show 0 < 9; omega), ← hD 1 (by show 1 < 9; omega), ← hD 2 (by show 2 < 9; omega), ← hD 3 (by show 3 < 9; omega), ← hD 4 (by show 4 < 9; omega), ← hD 5 (by show 5 < 9; omega), ← hD 6 (by show 6 < 9; omega), ← hD 8 (by show 8 < 9; omega)]
    exact h
  · intro i o D v w' ho hDi hall hJ
    obtain ⟨J0, J1, J2, J3, J4, J5, J6, J7, J8⟩ := hJ
    have E1 := (eval_putAll_not (v := v) [18, 19, 20, 17, 21, 22, 5, 6] a (show 1 ∉ _ by decide)).trans e1
    have F : ∀ t, t ∈ [18, 19, 20, 17, 21, 22, 5, 6] → t ≤ 22 → (putAll a [18, 19, 20, 17, 21, 22, 5, 6] v).eval (.tmp t) = v t := fun t ht h => eval_putAll_mem (t := t) [18, 19, 20, 17, 21, 22, 5, 6] a hnd ht (Nat.lt_of_le_of_lt h hsz)
    have X' := X.below J0
    have XA' := XA.below J0
    match i, ho with
    | 0, ho =>
      have hall' : ∀ e ∈ ({ dst := some 18, op := Op.load 26 (Operand.tmp 1), type := 26, pos := "law.go:19", after := #[], guard := none } : Oper).after, Region.binds .any e = true → D e.on = true := by cases ho; exact hall
      refine wpOp_plain (o := { dst := some 18, op := Op.load 26 (Operand.tmp 1), type := 26, pos := "law.go:19", after := #[], guard := none }) rfl rfl ?_
      unfold Oper.wp
      rw [run_loadQ E1 XA'.c0 XA'.c1 XA'.c2, Oper.upon_value]
      have J2K : upd D 0 true 1 = true ∧ upd D 0 true 2 = false → IsQ w' (v 19) (Rat.divInt 0 1) 1 := fun h => J2 ⟨h.1, h.2⟩
      refine ⟨_, putAll_put _ _ _ _ _ hnd (by decide), J0, ?_, ?_, ?_, ?_, ?_, ?_, ?_, ?_⟩
      · exact fun _ => upd_same _ _ _
      · rw [upd_ne _ _ (by decide)]; exact J2K
      · rw [upd_ne _ _ (by decide)]; exact J3
      · rw [upd_ne _ _ (by decide)]; exact J4
      · rw [upd_ne _ _ (by decide)]; exact J5
      · rw [upd_ne _ _ (by decide)]; exact J6
      · rw [upd_ne _ _ (by decide)]; exact J7
      · rw [upd_ne _ _ (by decide)]; exact J8
    | 1, ho =>
      have hall' : ∀ e ∈ ({ dst := some 19, op := Op.call { callee := Callee.value (Operand.func 44), args := #[Operand.const (Value.int IntKind.i64 0), Operand.const (Value.int IntKind.i64 1)], argTypes := #[2, 2] }, type := 26, pos := "law.go:19", after := #[], guard := none } : Oper).after, Region.binds .any e = true → D e.on = true := by cases ho; exact hall
      refine wpOp_plain (o := { dst := some 19, op := Op.call { callee := Callee.value (Operand.func 44), args := #[Operand.const (Value.int IntKind.i64 0), Operand.const (Value.int IntKind.i64 1)], argTypes := #[2, 2] }, type := 26, pos := "law.go:19", after := #[], guard := none }) rfl rfl ?_
      unfold Oper.wp
      rw [run_callOf rfl rfl rfl, Oper.upon_enter]
      refine (rof_q 0 1 (by decide) (by decide) (by decide) (by decide) (by decide) _).mono ?_
      rintro e w1 ⟨s1, A1, n1, c1, B1, m1, d1, rfl, hg, hb⟩
      refine ⟨_, putAll_put _ _ _ _ _ hnd (by decide), bend J0 hb, ?_, ?_, ?_, ?_, ?_, ?_, ?_, ?_⟩
      · rw [upd_ne _ _ (by decide)]; exact J1
      · intro _; rw [upd_same]; exact ⟨s1, A1, n1, c1, B1, m1, d1, rfl, hg⟩
      · rw [upd_ne _ _ (by decide)]; exact J3
      · rw [upd_ne _ _ (by decide)]; exact J4
      · rw [upd_ne _ _ (by decide)]; exact J5
      · rw [upd_ne _ _ (by decide)]; exact J6
      · rw [upd_ne _ _ (by decide)]; exact fun h => (J7 h).below hb
      · rw [upd_ne _ _ (by decide)]; exact J8
    | 2, ho =>
      have hall' : ∀ e ∈ ({ dst := some 20, op := Op.call { callee := Callee.value (Operand.func 14), args := #[Operand.tmp 18, Operand.tmp 19], argTypes := #[26, 26] }, type := 38, pos := "law.go:19", after := #[{ on := 0, ground := Ground.data }, { on := 1, ground := Ground.data }, { on := 1, ground := Ground.chain }], guard := none } : Oper).after, Region.binds .any e = true → D e.on = true := by cases ho; exact hall
      refine wpOp_plain (o := { dst := some 20, op := Op.call { callee := Callee.value (Operand.func 14), args := #[Operand.tmp 18, Operand.tmp 19], argTypes := #[26, 26] }, type := 38, pos := "law.go:19", after := #[{ on := 0, ground := Ground.data }, { on := 1, ground := Ground.data }, { on := 1, ground := Ground.chain }], guard := none }) rfl rfl ?_
      unfold Oper.wp
      have h0 := J1 (hall' { on := 0, ground := Ground.data } (by simp) rfl)
      obtain ⟨s1, A1, n1, c1, B1, m1, d1, u1, u2⟩ := J2 ⟨hall' { on := 1, ground := Ground.data } (by simp) rfl, hDi⟩
      rw [run_callDiv ((F 18 (by decide) (by decide)).trans h0) ((F 19 (by decide) (by decide)).trans u1) rfl, Oper.upon_enter]
      refine (rdiv_zero X' u2.qr (by decide) (by decide) (by decide) (by decide) (by decide) (by decide +kernel)).mono ?_
      rintro e w1 ⟨rfl, hb⟩
      refine ⟨_, putAll_put _ _ _ _ _ hnd (by decide), bend J0 hb, ?_, ?_, ?_, ?_, ?_, ?_, ?_, ?_⟩
      · rw [upd_ne _ _ (by decide)]; exact J1
      · exact fun h => absurd h.2 (by rw [upd_same]; decide)
      · exact fun _ => upd_same _ _ _
      · rw [upd_ne _ _ (by decide)]; exact J4
      · rw [upd_ne _ _ (by decide)]; exact J5
      · rw [upd_ne _ _ (by decide)]; exact J6
      · rw [upd_ne _ _ (by decide)]; exact fun h => (J7 h).below hb
      · rw [upd_ne _ _ (by decide)]; exact J8
    | 3, ho =>
      have hall' : ∀ e ∈ ({ dst := some 17, op := Op.move (Operand.tmp 20), type := 38, pos := "law.go:19", after := #[{ on := 2, ground := Ground.data }], guard := none } : Oper).after, Region.binds .any e = true → D e.on = true := by cases ho; exact hall
      refine wpOp_plain (o := { dst := some 17, op := Op.move (Operand.tmp 20), type := 38, pos := "law.go:19", after := #[{ on := 2, ground := Ground.data }], guard := none }) rfl rfl ?_
      unfold Oper.wp
      have h0 := J3 (hall' { on := 2, ground := Ground.data } (by simp) rfl)
      rw [run_move ((F 20 (by decide) (by decide)).trans h0), Oper.upon_value]
      have J2K : upd D 3 true 1 = true ∧ upd D 3 true 2 = false → IsQ w' (v 19) (Rat.divInt 0 1) 1 := fun h => J2 ⟨h.1, h.2⟩
      refine ⟨_, putAll_put _ _ _ _ _ hnd (by decide), J0, ?_, ?_, ?_, ?_, ?_, ?_, ?_, ?_⟩
      · rw [upd_ne _ _ (by decide)]; exact J1
      · rw [upd_ne _ _ (by decide)]; exact J2K
      · rw [upd_ne _ _ (by decide)]; exact J3
      · exact fun _ => upd_same _ _ _
      · rw [upd_ne _ _ (by decide)]; exact J5
      · rw [upd_ne _ _ (by decide)]; exact J6
      · rw [upd_ne _ _ (by decide)]; exact J7
      · rw [upd_ne _ _ (by decide)]; exact J8
    | 4, ho =>
      have hall' : ∀ e ∈ ({ dst := some 21, op := Op.extract (Operand.tmp 17) 0, type := 26, pos := "law.go:19", after := #[{ on := 3, ground := Ground.data }], guard := none } : Oper).after, Region.binds .any e = true → D e.on = true := by cases ho; exact hall
      refine wpOp_plain (o := { dst := some 21, op := Op.extract (Operand.tmp 17) 0, type := 26, pos := "law.go:19", after := #[{ on := 3, ground := Ground.data }], guard := none }) rfl rfl ?_
      unfold Oper.wp
      have h0 := J4 (hall' { on := 3, ground := Ground.data } (by simp) rfl)
      rw [run_ext0 ((F 17 (by decide) (by decide)).trans h0), Oper.upon_value]
      have J2K : upd D 4 true 1 = true ∧ upd D 4 true 2 = false → IsQ w' (v 19) (Rat.divInt 0 1) 1 := fun h => J2 ⟨h.1, h.2⟩
      refine ⟨_, putAll_put _ _ _ _ _ hnd (by decide), J0, ?_, ?_, ?_, ?_, ?_, ?_, ?_, ?_⟩
      · rw [upd_ne _ _ (by decide)]; exact J1
      · rw [upd_ne _ _ (by decide)]; exact J2K
      · rw [upd_ne _ _ (by decide)]; exact J3
      · rw [upd_ne _ _ (by decide)]; exact J4
      · exact fun _ => upd_same _ _ _
      · rw [upd_ne _ _ (by decide)]; exact J6
      · rw [upd_ne _ _ (by decide)]; exact J7
      · rw [upd_ne _ _ (by decide)]; exact J8
    | 5, ho =>
      have hall' : ∀ e ∈ ({ dst := some 22, op := Op.extract (Operand.tmp 17) 1, type := 37, pos := "law.go:19", after := #[{ on := 3, ground := Ground.data }, { on := 7, ground := Ground.gcOnly Departure.lateStores }], guard := none } : Oper).after, Region.binds .any e = true → D e.on = true := by cases ho; exact hall
      refine wpOp_plain (o := { dst := some 22, op := Op.extract (Operand.tmp 17) 1, type := 37, pos := "law.go:19", after := #[{ on := 3, ground := Ground.data }, { on := 7, ground := Ground.gcOnly Departure.lateStores }], guard := none }) rfl rfl ?_
      unfold Oper.wp
      have h0 := J4 (hall' { on := 3, ground := Ground.data } (by simp) rfl)
      rw [run_ext1 ((F 17 (by decide) (by decide)).trans h0), Oper.upon_value]
      have J2K : upd D 5 true 1 = true ∧ upd D 5 true 2 = false → IsQ w' (v 19) (Rat.divInt 0 1) 1 := fun h => J2 ⟨h.1, h.2⟩
      refine ⟨_, putAll_put _ _ _ _ _ hnd (by decide), J0, ?_, ?_, ?_, ?_, ?_, ?_, ?_, ?_⟩
      · rw [upd_ne _ _ (by decide)]; exact J1
      · rw [upd_ne _ _ (by decide)]; exact J2K
      · rw [upd_ne _ _ (by decide)]; exact J3
      · rw [upd_ne _ _ (by decide)]; exact J4
      · rw [upd_ne _ _ (by decide)]; exact J5
      · exact fun _ => upd_same _ _ _
      · rw [upd_ne _ _ (by decide)]; exact J7
      · rw [upd_ne _ _ (by decide)]; exact J8
    | 6, ho =>
      have hall' : ∀ e ∈ ({ dst := some 5, op := Op.alloc 26, type := 0, pos := "law.go:19", after := #[], guard := none } : Oper).after, Region.binds .any e = true → D e.on = true := by cases ho; exact hall
      refine wpOp_plain (o := { dst := some 5, op := Op.alloc 26, type := 0, pos := "law.go:19", after := #[], guard := none }) rfl rfl ?_
      unfold Oper.wp
      rw [run_allocQ, Oper.upon_value]
      have hb := (Below.refl w'.heap.size w').alloc (Nat.le_refl _) (.cells #[.bool false, .slice none 0 0, .slice none 0 0] 26)
      refine ⟨_, putAll_put _ _ _ _ _ hnd (by decide), bend J0 hb, ?_, ?_, ?_, ?_, ?_, ?_, ?_, ?_⟩
      · rw [upd_ne _ _ (by decide)]; exact J1
      · rw [upd_ne _ _ (by decide)]; exact fun h => (J2 ⟨h.1, h.2⟩).below hb
      · rw [upd_ne _ _ (by decide)]; exact J3
      · rw [upd_ne _ _ (by decide)]; exact J4
      · rw [upd_ne _ _ (by decide)]; exact J5
      · rw [upd_ne _ _ (by decide)]; exact J6
      · intro _; rw [upd_same]; exact ⟨_, _, _, _, _, _, _, _, rfl, J0.size, B3.new' w' _ _ _ _ rfl⟩
      · rw [upd_ne _ _ (by decide)]; exact J8
    | 7, ho =>
      have hall' : ∀ e ∈ ({ dst := none, op := Op.store 26 (Operand.tmp 5) (Operand.tmp 21), type := 0, pos := "law.go:19", after := #[{ on := 6, ground := Ground.data }, { on := 4, ground := Ground.data }, { on := 2, ground := Ground.chain }, { on := 0, ground := Ground.phase }, { on := 1, ground := Ground.phase }, { on := 2, ground := Ground.phase }, { on := 3, ground := Ground.phase }, { on := 4, ground := Ground.phase }, { on := 5, ground := Ground.textOnly Departure.lateStores }, { on := 6, ground := Ground.phase }], guard := none } : Oper).after, Region.binds .any e = true → D e.on = true := by cases ho; exact hall
      obtain ⟨g, s0, A0, n0, c0, B0, m0, d0, p1, p2, p3⟩ := J7 (hall' { on := 6, ground := Ground.data } (by simp) rfl)
      have h0 := J5 (hall' { on := 4, ground := Ground.data } (by simp) rfl)
      refine wpOp_plain (o := { dst := none, op := Op.store 26 (Operand.tmp 5) (Operand.tmp 21), type := 0, pos := "law.go:19", after := #[{ on := 6, ground := Ground.data }, { on := 4, ground := Ground.data }, { on := 2, ground := Ground.chain }, { on := 0, ground := Ground.phase }, { on := 1, ground := Ground.phase }, { on := 2, ground := Ground.phase }, { on := 3, ground := Ground.phase }, { on := 4, ground := Ground.phase }, { on := 5, ground := Ground.textOnly Departure.lateStores }, { on := 6, ground := Ground.phase }], guard := none }) rfl rfl ?_
      unfold Oper.wp
      rw [run_storeQ ((F 5 (by decide) (by decide)).trans p1) ((F 21 (by decide) (by decide)).trans h0) p3.c0 p3.c1 p3.c2 p3.f0 p3.f1 p3.f2, Oper.upon_skip]
      have D0 : upd D 7 true 0 = D 0 := rfl
      have D1 : upd D 7 true 1 = D 1 := rfl
      have D2 : upd D 7 true 2 = D 2 := rfl
      have D3 : upd D 7 true 3 = D 3 := rfl
      have D4 : upd D 7 true 4 = D 4 := rfl
      have D5 : upd D 7 true 5 = D 5 := rfl
      have D6 : upd D 7 true 6 = D 6 := rfl
      have D8 : upd D 7 true 8 = D 8 := rfl
      refine ⟨v, put_none _ _, ?_⟩
      unfold JW
      rw [D0, D1, D2, D3, D4, D5, D6, D8]
      refine ⟨below_set3 J0 p2 _ _ _, J1, ?_, J3, J4, J5, J6, ?_, J8⟩
      · intro h
        obtain ⟨s1, A1, n1, c1, B1, m1, d1, u1, u2⟩ := J2 ⟨h.1, h.2⟩
        exact ⟨s1, A1, n1, c1, B1, m1, d1, u1, u2.set3 p3 _ _ _⟩
      · intro _; exact ⟨g, _, _, _, _, _, _, _, p1, p2, p3.set3 _ _ _⟩
    | 8, ho =>
      have hall' : ∀ e ∈ ({ dst := some 6, op := Op.assign (Operand.tmp 22), type := 37, pos := "law.go:19", after := #[{ on := 5, ground := Ground.data }, { on := 7, ground := Ground.chain }, { on := 0, ground := Ground.phase }, { on := 1, ground := Ground.phase }, { on := 2, ground := Ground.phase }, { on := 3, ground := Ground.phase }, { on := 4, ground := Ground.phase }, { on := 5, ground := Ground.phase }, { on := 6, ground := Ground.phase }, { on := 7, ground := Ground.phase }], guard := none } : Oper).after, Region.binds .any e = true → D e.on = true := by cases ho; exact hall
      refine wpOp_plain (o := { dst := some 6, op := Op.assign (Operand.tmp 22), type := 37, pos := "law.go:19", after := #[{ on := 5, ground := Ground.data }, { on := 7, ground := Ground.chain }, { on := 0, ground := Ground.phase }, { on := 1, ground := Ground.phase }, { on := 2, ground := Ground.phase }, { on := 3, ground := Ground.phase }, { on := 4, ground := Ground.phase }, { on := 5, ground := Ground.phase }, { on := 6, ground := Ground.phase }, { on := 7, ground := Ground.phase }], guard := none }) rfl rfl ?_
      unfold Oper.wp
      have h0 := J6 (hall' { on := 5, ground := Ground.data } (by simp) rfl)
      rw [run_assign ((F 22 (by decide) (by decide)).trans h0), Oper.upon_value]
      have J2K : upd D 8 true 1 = true ∧ upd D 8 true 2 = false → IsQ w' (v 19) (Rat.divInt 0 1) 1 := fun h => J2 ⟨h.1, h.2⟩
      refine ⟨_, putAll_put _ _ _ _ _ hnd (by decide), J0, ?_, ?_, ?_, ?_, ?_, ?_, ?_, ?_⟩
      · rw [upd_ne _ _ (by decide)]; exact J1
      · rw [upd_ne _ _ (by decide)]; exact J2K
      · rw [upd_ne _ _ (by decide)]; exact J3
      · rw [upd_ne _ _ (by decide)]; exact J4
      · rw [upd_ne _ _ (by decide)]; exact J5
      · rw [upd_ne _ _ (by decide)]; exact J6
      · rw [upd_ne _ _ (by decide)]; exact J7
      · exact fun _ => upd_same _ _ _
    | i + 9, ho => cases ho
  · intro D v w' hall hJ
    exact hend v w' (hJ.2.2.2.2.2.2.2.2 (hall 8 (by show 8 < 9; omega))) hJ.1
end Go.Proofs.YtmcijgnbdnpanaaGreat
