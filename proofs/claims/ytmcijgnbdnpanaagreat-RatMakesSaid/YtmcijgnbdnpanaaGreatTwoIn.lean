/- 'x, y := In(a), In(b)' of the document's whole numbers: whatever order is drawn. -/
import Derived.Test.YtmcijgnbdnpanaaGreatInv
import Derived.Test.YtmcijgnbdnpanaaGreatRuns
namespace Go.Proofs.YtmcijgnbdnpanaaGreat
open Go Go.RowKit

theorem wpOp_plain {P : Program} {ops : Array Oper} {Q : Exit → Act → World → Prop} {i : Nat} {o : Oper} {K : Act → World → Prop} {a : Act} {w : World} (hi : ops[i]? = some o) (hg : Region.wanted o (yielded ops a.tmps) = true) (h : o.wp P a w K Q) : wpOp P ops Q i K a w := by
  unfold wpOp
  simp only [hi, hg, if_true]
  exact .inl h
theorem put_none (a : Act) (x : Value) : a.put none x = a := rfl
theorem eval_putAll_not {t : Nat} {v : Nat → Value} : ∀ (l : List Nat) (a : Act), t ∉ l → (putAll a l v).eval (.tmp t) = a.eval (.tmp t)
  | [], _, _ => rfl
  | d :: l, a, h => by
    rw [putAll, eval_putAll_not l _ (fun q => h (by simp [q]))]
    have hne : d ≠ t := fun q => h (by simp [q])
    simp [Act.eval, Act.put, Array.getD_eq_getD_getElem?, hne]
theorem eval_putAll_mem {t : Nat} {v : Nat → Value} : ∀ (l : List Nat) (a : Act), l.Nodup → t ∈ l → t < a.tmps.size → (putAll a l v).eval (.tmp t) = v t
  | [], _, _, h, _ => by cases h
  | d :: l, a, hn, h, hs => by
    have hn' := List.nodup_cons.1 hn
    rw [putAll]
    by_cases hd : d = t
    · subst hd
      rw [eval_putAll_not l _ hn'.1]
      simp [Act.eval, Act.put, hs]
    · have hm : t ∈ l := by
        cases h with
        | head => exact absurd rfl hd
        | tail _ h => exact h
      exact eval_putAll_mem l _ hn'.2 hm (by simpa [Act.put] using hs)

/-- The value is the good form of x. -/
def IsG (w : World) (v : Value) (x : Int) (k : Nat) : Prop := ∃ s A n c, v = .agg #[.bool s, .slice A n c] ∧ RG w s A n c x k
/-- p points to a box of the call's own; 'full': it holds the value 'cont'. -/
def IsBox (w : World) (base : Nat) (p cont : Value) (full : Bool) : Prop := ∃ g s A n c, p = .pointer (some ⟨g, 0, none⟩) ∧ base ≤ g ∧ By w g (.bool s) (.slice A n c) ∧ (full = true → cont = .agg #[.bool s, .slice A n c])
theorem IsG.below {w w' : World} {v : Value} {x : Int} {k : Nat} (h : IsG w v x k) (hb : Below w.heap.size w w') : IsG w' v x k := by
  obtain ⟨s, A, n, c, h1, h2⟩ := h; exact ⟨s, A, n, c, h1, h2.below hb⟩
theorem IsBox.below {w w' : World} {base : Nat} {p cont : Value} {full : Bool} (h : IsBox w base p cont full) (hb : Below w.heap.size w w') : IsBox w' base p cont full := by
  obtain ⟨g, s, A, n, c, h1, h2, h3, h4⟩ := h; exact ⟨g, s, A, n, c, h1, h2, h3.below hb, h4⟩
theorem IsG.store {w : World} {v : Value} {x : Int} {k g n0 c0 : Nat} {s0 : Bool} {A0 : Option Addr} (h : IsG w v x k) (Z : By w g (.bool s0) (.slice A0 n0 c0)) (y z : Value) : IsG ((w.setCell ⟨g, 0, none⟩ y).setCell ⟨g, 1, none⟩ z) v x k := by
  obtain ⟨s, A, n, c, h1, h2⟩ := h; exact ⟨s, A, n, c, h1, h2.set2 Z y z⟩
theorem IsBox.other {w : World} {base g : Nat} {p cont : Value} {full : Bool} (h : IsBox w base p cont full) (hne : p ≠ .pointer (some ⟨g, 0, none⟩)) (y z : Value) : IsBox ((w.setCell ⟨g, 0, none⟩ y).setCell ⟨g, 1, none⟩ z) base p cont full := by
  obtain ⟨g', s, A, n, c, h1, h2, h3, h4⟩ := h
  refine ⟨g', s, A, n, c, h1, h2, h3.other (fun q => hne (by rw [h1, q])) y z, h4⟩

/-- What holds of the region when those of D have come up. -/
def JIn (w : World) (l1 c1 l2 c2 b1 b2 : Nat) (V1 V2 : Value) (x1 x2 : Int) (k1 k2 : Nat) (D : Nat → Bool) (v : Nat → Value) (w' : World) : Prop :=
  Below w.heap.size w w' ∧ (D 0 = true → v l1 = V1) ∧ (D 1 = true → IsG w' (v c1) x1 k1) ∧ (D 2 = true → v l2 = V2) ∧ (D 3 = true → IsG w' (v c2) x2 k2) ∧
  (D 4 = true → IsBox w' w.heap.size (v b1) (v c1) (D 6)) ∧ (D 5 = true → IsBox w' w.heap.size (v b2) (v c2) (D 7)) ∧ (D 4 = true → D 5 = true → v b1 ≠ v b2) ∧
  (D 6 = true → D 1 = true ∧ D 4 = true) ∧ (D 7 = true → D 3 = true ∧ D 5 = true)

set_option maxRecDepth 100000 in
set_option maxHeartbeats 4000000 in
theorem two_in2 {id : Nat} {a : Act} {w : World} {Q : Exit → Act → World → Prop} {pos : String} {y0 y1 y2 y3 y4 y5 y6 y7 : Nat} (x1 x2 l1 c1 l2 c2 b1 b2 : Nat)
    {g1 g2 : Nat} {s t : Bool} {A B : Option Addr} {n c m d k1 k2 : Nat} {va vb : Int}
    (hnd : [l1, c1, l2, c2, b1, b2].Nodup) (hx1 : x1 ∉ [l1, c1, l2, c2, b1, b2]) (hx2 : x2 ∉ [l1, c1, l2, c2, b1, b2]) (hsz : ∀ q ∈ [l1, c1, l2, c2, b1, b2], q < a.tmps.size)
    (e1 : a.eval (.tmp x1) = .pointer (some ⟨g1, 0, none⟩)) (e2 : a.eval (.tmp x2) = .pointer (some ⟨g2, 0, none⟩))
    (XA : Bx w g1 (.bool s) (.slice A n c)) (XB : Bx w g2 (.bool t) (.slice B m d)) (X : ZR w s A n c va k1) (Y : ZR w t B m d vb k2) (hk1 : k1 ≤ 1000) (hk2 : k2 ≤ 1000)
    (hend : ∀ (v : Nat → Value) (w' : World) (ga gb : Nat) (s1 : Bool) (A1 : Option Addr) (n1 d1 : Nat) (s2 : Bool) (A2 : Option Addr) (n2 d2 : Nat), v b1 = .pointer (some ⟨ga, 0, none⟩) → v b2 = .pointer (some ⟨gb, 0, none⟩) →
      By w' ga (.bool s1) (.slice A1 n1 d1) → By w' gb (.bool s2) (.slice A2 n2 d2) → RG w' s1 A1 n1 d1 va (2 * k1) → RG w' s2 A2 n2 d2 vb (2 * k2) → Below w.heap.size w w' →
      Q .normal (putAll a [l1, c1, l2, c2, b1, b2] v) w') :
    (Code.region id #[{ dst := some l1, op := Op.load 24 (Operand.tmp x1), type := y0, pos := pos, after := #[], guard := none },
      { dst := some c1, op := Op.call { callee := Callee.value (Operand.func 35), args := #[Operand.tmp l1], argTypes := #[24] }, type := y1, pos := pos, after := #[{ on := 0, ground := Ground.data }], guard := none },
      { dst := some l2, op := Op.load 24 (Operand.tmp x2), type := y2, pos := pos, after := #[], guard := none },
      { dst := some c2, op := Op.call { callee := Callee.value (Operand.func 35), args := #[Operand.tmp l2], argTypes := #[24] }, type := y3, pos := pos, after := #[{ on := 2, ground := Ground.data }, { on := 1, ground := Ground.chain }], guard := none },
      { dst := some b1, op := Op.alloc 32, type := y4, pos := pos, after := #[], guard := none },
      { dst := some b2, op := Op.alloc 32, type := y5, pos := pos, after := #[], guard := none },
      { dst := none, op := Op.store 32 (Operand.tmp b1) (Operand.tmp c1), type := y6, pos := pos, after := #[{ on := 4, ground := Ground.data }, { on := 1, ground := Ground.data }, { on := 3, ground := Ground.chain }, { on := 0, ground := Ground.phase }, { on := 1, ground := Ground.phase }, { on := 2, ground := Ground.textOnly Departure.lateStores }, { on := 3, ground := Ground.textOnly Departure.lateStoresUnsure }, { on := 4, ground := Ground.phase }, { on := 5, ground := Ground.phase }], guard := none },
      { dst := none, op := Op.store 32 (Operand.tmp b2) (Operand.tmp c2), type := y7, pos := pos, after := #[{ on := 5, ground := Ground.data }, { on := 3, ground := Ground.data }, { on := 6, ground := Ground.chain }, { on := 0, ground := Ground.phase }, { on := 1, ground := Ground.phase }, { on := 2, ground := Ground.phase }, { on := 3, ground := Ground.phase }, { on := 4, ground := Ground.phase }, { on := 5, ground := Ground.phase }, { on := 6, ground := Ground.phase }], guard := none }] true).wp Tryz.prog Q a w := by
  obtain ⟨hN1, hN2, hN3, hN4, hN5, hN6⟩ : (l1 ≠ c1 ∧ l1 ≠ l2 ∧ l1 ≠ c2 ∧ l1 ≠ b1 ∧ l1 ≠ b2) ∧ (c1 ≠ l2 ∧ c1 ≠ c2 ∧ c1 ≠ b1 ∧ c1 ≠ b2) ∧ (l2 ≠ c2 ∧ l2 ≠ b1 ∧ l2 ≠ b2) ∧ (c2 ≠ b1 ∧ c2 ≠ b2) ∧ b1 ≠ b2 ∧ True := by
    simpa [List.nodup_cons, not_or, and_assoc] using hnd
  refine wp_region_inv [l1, c1, l2, c2, b1, b2] (JIn w l1 c1 l2 c2 b1 b2 (.agg #[.bool s, .slice A n c]) (.agg #[.bool t, .slice B m d]) va vb (2 * k1) (2 * k2)) rfl (by kernel_rfl) ?_ ?_ ?_ ?_
  · refine ⟨(Below.refl _ _).drew, ?_, ?_, ?_, ?_, ?_, ?_, ?_, ?_, ?_⟩ <;> intro h <;> cases h
  · intro D D' v w' hD h
    have q0 := hD 0 (by show 0 < 8; omega)
    have q1 := hD 1 (by show 1 < 8; omega)
    have q2 := hD 2 (by show 2 < 8; omega)
    have q3 := hD 3 (by show 3 < 8; omega)
    have q4 := hD 4 (by show 4 < 8; omega)
    have q5 := hD 5 (by show 5 < 8; omega)
    have q6 := hD 6 (by show 6 < 8; omega)
    have q7 := hD 7 (by show 7 < 8; omega)
    unfold JIn at h ⊢
    rw [← q0, ← q1, ← q2, ← q3, ← q4, ← q5, ← q6, ← q7]
    exact h
  · intro i o D v w' ho hDi hall hJ
    obtain ⟨J0, J1, J2, J3, J4, J5, J6, J7, J8, J9⟩ := hJ
    have E1 := (eval_putAll_not (v := v) _ a hx1).trans e1
    have E2 := (eval_putAll_not (v := v) _ a hx2).trans e2
    have F1 := eval_putAll_mem (v := v) _ a hnd (show l1 ∈ [l1, c1, l2, c2, b1, b2] by simp) (hsz _ (by simp))
    have F2 := eval_putAll_mem (v := v) _ a hnd (show c1 ∈ [l1, c1, l2, c2, b1, b2] by simp) (hsz _ (by simp))
    have F3 := eval_putAll_mem (v := v) _ a hnd (show l2 ∈ [l1, c1, l2, c2, b1, b2] by simp) (hsz _ (by simp))
    have F4 := eval_putAll_mem (v := v) _ a hnd (show c2 ∈ [l1, c1, l2, c2, b1, b2] by simp) (hsz _ (by simp))
    have F5 := eval_putAll_mem (v := v) _ a hnd (show b1 ∈ [l1, c1, l2, c2, b1, b2] by simp) (hsz _ (by simp))
    have F6 := eval_putAll_mem (v := v) _ a hnd (show b2 ∈ [l1, c1, l2, c2, b1, b2] by simp) (hsz _ (by simp))
    have X' := X.below J0
    have Y' := Y.below J0
    have XA' := XA.below J0
    have XB' := XB.below J0
    match i, ho with
    | 0, ho =>
      refine wpOp_plain (o := { dst := some l1, op := Op.load 24 (Operand.tmp x1), type := y0, pos := pos, after := #[], guard := none }) rfl rfl ?_
      unfold Oper.wp
      rw [run_loadI E1 XA'.c0 XA'.c1, Oper.upon_value]
      refine ⟨_, putAll_put _ _ _ _ _ hnd (by simp), J0, fun _ => upd_same _ _ _, ?_, ?_, ?_, ?_, ?_, ?_, ?_, ?_⟩
      · rw [upd_ne _ _ hN1.1.symm]; exact J2
      · rw [upd_ne _ _ hN1.2.1.symm]; exact J3
      · rw [upd_ne _ _ hN1.2.2.1.symm]; exact J4
      · rw [upd_ne _ _ hN1.2.2.2.1.symm, upd_ne _ _ hN1.1.symm]; exact J5
      · rw [upd_ne _ _ hN1.2.2.2.2.symm, upd_ne _ _ hN1.2.2.1.symm]; exact J6
      · rw [upd_ne _ _ hN1.2.2.2.1.symm, upd_ne _ _ hN1.2.2.2.2.symm]; exact J7
      · exact J8
      · exact J9
    | 1, ho =>
      have hall' : ∀ e ∈ ({ dst := some c1, op := Op.call { callee := Callee.value (Operand.func 35), args := #[Operand.tmp l1], argTypes := #[24] }, type := y1, pos := pos, after := #[{ on := 0, ground := Ground.data }], guard := none } : Oper).after, Region.binds .any e = true → D e.on = true := by cases ho; exact hall
      have hl := J1 (hall' { on := 0, ground := Ground.data } (by simp) rfl)
      refine wpOp_plain (o := { dst := some c1, op := Op.call { callee := Callee.value (Operand.func 35), args := #[Operand.tmp l1], argTypes := #[24] }, type := y1, pos := pos, after := #[{ on := 0, ground := Ground.data }], guard := none }) rfl rfl ?_
      unfold Oper.wp
      rw [run_callI (F1.trans hl) rfl, Oper.upon_enter]
      refine (rin2 X' hk1).mono ?_
      rintro e w1 ⟨s1, A1, n1, d1, rfl, hg, hb⟩
      have h6 : ¬ D 6 = true := fun h => by rw [hDi] at J8; exact absurd (J8 h).1 (by decide)
      refine ⟨_, putAll_put _ _ _ _ _ hnd (by simp), bend J0 hb, ?_, fun _ => ?_, ?_, ?_, ?_, ?_, ?_, fun h => absurd h h6, ?_⟩
      · rw [upd_ne _ _ hN1.1]; exact J1
      · rw [upd_same]; exact ⟨s1, A1, n1, d1, rfl, hg⟩
      · rw [upd_ne _ _ hN2.1.symm]; exact J3
      · rw [upd_ne _ _ hN2.2.1.symm]; exact fun h => (J4 h).below hb
      · rw [upd_ne _ _ hN2.2.2.1.symm, upd_same]
        intro h
        obtain ⟨g, s0, A0, n0, c0, p1, p2, p3, _⟩ := (J5 h).below hb
        exact ⟨g, s0, A0, n0, c0, p1, p2, p3, fun q => absurd q h6⟩
      · rw [upd_ne _ _ hN2.2.2.2.symm, upd_ne _ _ hN2.2.1.symm]; exact fun h => (J6 h).below hb
      · rw [upd_ne _ _ hN2.2.2.1.symm, upd_ne _ _ hN2.2.2.2.symm]; exact J7
      · exact J9
    | 2, ho =>
      refine wpOp_plain (o := { dst := some l2, op := Op.load 24 (Operand.tmp x2), type := y2, pos := pos, after := #[], guard := none }) rfl rfl ?_
      unfold Oper.wp
      rw [run_loadI E2 XB'.c0 XB'.c1, Oper.upon_value]
      refine ⟨_, putAll_put _ _ _ _ _ hnd (by simp), J0, ?_, ?_, fun _ => upd_same _ _ _, ?_, ?_, ?_, ?_, ?_, ?_⟩
      · rw [upd_ne _ _ hN1.2.1]; exact J1
      · rw [upd_ne _ _ hN2.1]; exact J2
      · rw [upd_ne _ _ hN3.1.symm]; exact J4
      · rw [upd_ne _ _ hN3.2.1.symm, upd_ne _ _ hN2.1]; exact J5
      · rw [upd_ne _ _ hN3.2.2.symm, upd_ne _ _ hN3.1.symm]; exact J6
      · rw [upd_ne _ _ hN3.2.1.symm, upd_ne _ _ hN3.2.2.symm]; exact J7
      · exact J8
      · exact J9
    | 3, ho =>
      have hall' : ∀ e ∈ ({ dst := some c2, op := Op.call { callee := Callee.value (Operand.func 35), args := #[Operand.tmp l2], argTypes := #[24] }, type := y3, pos := pos, after := #[{ on := 2, ground := Ground.data }, { on := 1, ground := Ground.chain }], guard := none } : Oper).after, Region.binds .any e = true → D e.on = true := by cases ho; exact hall
      have hl := J3 (hall' { on := 2, ground := Ground.data } (by simp) rfl)
      refine wpOp_plain (o := { dst := some c2, op := Op.call { callee := Callee.value (Operand.func 35), args := #[Operand.tmp l2], argTypes := #[24] }, type := y3, pos := pos, after := #[{ on := 2, ground := Ground.data }, { on := 1, ground := Ground.chain }], guard := none }) rfl rfl ?_
      unfold Oper.wp
      rw [run_callI (F3.trans hl) rfl, Oper.upon_enter]
      refine (rin2 Y' hk2).mono ?_
      rintro e w1 ⟨s1, A1, n1, d1, rfl, hg, hb⟩
      have h7 : ¬ D 7 = true := fun h => by rw [hDi] at J9; exact absurd (J9 h).1 (by decide)
      refine ⟨_, putAll_put _ _ _ _ _ hnd (by simp), bend J0 hb, ?_, ?_, ?_, fun _ => ?_, ?_, ?_, ?_, ?_, fun h => absurd h h7⟩
      · rw [upd_ne _ _ hN1.2.2.1]; exact J1
      · rw [upd_ne _ _ hN2.2.1]; exact fun h => (J2 h).below hb
      · rw [upd_ne _ _ hN3.1]; exact J3
      · rw [upd_same]; exact ⟨s1, A1, n1, d1, rfl, hg⟩
      · rw [upd_ne _ _ hN4.1.symm, upd_ne _ _ hN2.2.1]; exact fun h => (J5 h).below hb
      · rw [upd_ne _ _ hN4.2.symm, upd_same]
        intro h
        obtain ⟨g, s0, A0, n0, c0, p1, p2, p3, _⟩ := (J6 h).below hb
        exact ⟨g, s0, A0, n0, c0, p1, p2, p3, fun q => absurd q h7⟩
      · rw [upd_ne _ _ hN4.1.symm, upd_ne _ _ hN4.2.symm]; exact J7
      · exact J8
    | 4, ho =>
      have h6 : ¬ D 6 = true := fun h => by rw [hDi] at J8; exact absurd (J8 h).2 (by decide)
      refine wpOp_plain (o := { dst := some b1, op := Op.alloc 32, type := y4, pos := pos, after := #[], guard := none }) rfl rfl ?_
      unfold Oper.wp
      rw [run_allocR, Oper.upon_value]
      have hb := (Below.refl w'.heap.size w').alloc (Nat.le_refl _) (.cells #[.bool false, .slice none 0 0] 32)
      refine ⟨_, putAll_put _ _ _ _ _ hnd (by simp), bend J0 hb, ?_, ?_, ?_, ?_, fun _ => ?_, ?_, ?_, fun h => absurd h h6, ?_⟩
      · rw [upd_ne _ _ hN1.2.2.2.1]; exact J1
      · rw [upd_ne _ _ hN2.2.2.1]; exact fun h => (J2 h).below hb
      · rw [upd_ne _ _ hN3.2.1]; exact J3
      · rw [upd_ne _ _ hN4.1]; exact fun h => (J4 h).below hb
      · rw [upd_same]; exact ⟨_, _, _, _, _, rfl, J0.size, By.new w' _ _, fun q => absurd q h6⟩
      · rw [upd_ne _ _ hN5.symm, upd_ne _ _ hN4.1]; exact fun h => (J6 h).below hb
      · intro _ h5 q
        rw [upd_same, upd_ne _ _ hN5.symm] at q
        obtain ⟨g, s0, A0, n0, c0, p1, p2, p3, _⟩ := J6 h5
        rw [p1] at q
        simp at q
        have := p3.lt
        omega
      · exact J9
    | 5, ho =>
      have h7 : ¬ D 7 = true := fun h => by rw [hDi] at J9; exact absurd (J9 h).2 (by decide)
      refine wpOp_plain (o := { dst := some b2, op := Op.alloc 32, type := y5, pos := pos, after := #[], guard := none }) rfl rfl ?_
      unfold Oper.wp
      rw [run_allocR, Oper.upon_value]
      have hb := (Below.refl w'.heap.size w').alloc (Nat.le_refl _) (.cells #[.bool false, .slice none 0 0] 32)
      refine ⟨_, putAll_put _ _ _ _ _ hnd (by simp), bend J0 hb, ?_, ?_, ?_, ?_, ?_, fun _ => ?_, ?_, ?_, fun h => absurd h h7⟩
      · rw [upd_ne _ _ hN1.2.2.2.2]; exact J1
      · rw [upd_ne _ _ hN2.2.2.2]; exact fun h => (J2 h).below hb
      · rw [upd_ne _ _ hN3.2.2]; exact J3
      · rw [upd_ne _ _ hN4.2]; exact fun h => (J4 h).below hb
      · rw [upd_ne _ _ hN5, upd_ne _ _ hN2.2.2.2]; exact fun h => (J5 h).below hb
      · rw [upd_same]; exact ⟨_, _, _, _, _, rfl, J0.size, By.new w' _ _, fun q => absurd q h7⟩
      · intro h4 _ q
        rw [upd_same, upd_ne _ _ hN5] at q
        obtain ⟨g, s0, A0, n0, c0, p1, p2, p3, _⟩ := J5 h4
        rw [p1] at q
        simp at q
        have := p3.lt
        omega
      · exact J8
    | 6, ho =>
      have hall' : ∀ e ∈ ({ dst := none, op := Op.store 32 (Operand.tmp b1) (Operand.tmp c1), type := y6, pos := pos, after := #[{ on := 4, ground := Ground.data }, { on := 1, ground := Ground.data }, { on := 3, ground := Ground.chain }, { on := 0, ground := Ground.phase }, { on := 1, ground := Ground.phase }, { on := 2, ground := Ground.textOnly Departure.lateStores }, { on := 3, ground := Ground.textOnly Departure.lateStoresUnsure }, { on := 4, ground := Ground.phase }, { on := 5, ground := Ground.phase }], guard := none } : Oper).after, Region.binds .any e = true → D e.on = true := by cases ho; exact hall
      have d4 := hall' { on := 4, ground := Ground.data } (by simp) rfl
      have d1 := hall' { on := 1, ground := Ground.data } (by simp) rfl
      have d5 := hall' { on := 5, ground := Ground.phase } (by simp) rfl
      obtain ⟨g, s0, A0, n0, c0, p1, p2, p3, p4⟩ := J5 d4
      obtain ⟨s1, A1, n1, c1', u1, u2⟩ := J2 d1
      refine wpOp_plain (o := { dst := none, op := Op.store 32 (Operand.tmp b1) (Operand.tmp c1), type := y6, pos := pos, after := #[{ on := 4, ground := Ground.data }, { on := 1, ground := Ground.data }, { on := 3, ground := Ground.chain }, { on := 0, ground := Ground.phase }, { on := 1, ground := Ground.phase }, { on := 2, ground := Ground.textOnly Departure.lateStores }, { on := 3, ground := Ground.textOnly Departure.lateStoresUnsure }, { on := 4, ground := Ground.phase }, { on := 5, ground := Ground.phase }], guard := none }) rfl rfl ?_
      unfold Oper.wp
      rw [run_storeR (F5.trans p1) (F2.trans u1) p3.c0 p3.c1 p3.f0 p3.f1, Oper.upon_skip]
      have D1 : upd D 6 true 1 = D 1 := rfl
      have D3 : upd D 6 true 3 = D 3 := rfl
      have D5 : upd D 6 true 5 = D 5 := rfl
      have D7 : upd D 6 true 7 = D 7 := rfl
      refine ⟨v, put_none _ _, (J0.setCell p2 _).setCell p2 _, J1, ?_, J3, ?_, fun _ => ?_, ?_, J7, fun _ => ⟨d1, d4⟩, J9⟩
      · rw [D1]; exact fun h => (J2 h).store p3 _ _
      · rw [D3]; exact fun h => (J4 h).store p3 _ _
      · exact ⟨g, s1, A1, n1, c1', p1, p2, p3.set2 _ _, fun _ => u1⟩
      · rw [D5, D7]; exact fun h => (J6 h).other (by rw [← p1]; exact (J7 d4 h).symm) _ _
    | 7, ho =>
      have hall' : ∀ e ∈ ({ dst := none, op := Op.store 32 (Operand.tmp b2) (Operand.tmp c2), type := y7, pos := pos, after := #[{ on := 5, ground := Ground.data }, { on := 3, ground := Ground.data }, { on := 6, ground := Ground.chain }, { on := 0, ground := Ground.phase }, { on := 1, ground := Ground.phase }, { on := 2, ground := Ground.phase }, { on := 3, ground := Ground.phase }, { on := 4, ground := Ground.phase }, { on := 5, ground := Ground.phase }, { on := 6, ground := Ground.phase }], guard := none } : Oper).after, Region.binds .any e = true → D e.on = true := by cases ho; exact hall
      have d5 := hall' { on := 5, ground := Ground.data } (by simp) rfl
      have d3 := hall' { on := 3, ground := Ground.data } (by simp) rfl
      obtain ⟨g, s0, A0, n0, c0, p1, p2, p3, p4⟩ := J6 d5
      obtain ⟨s1, A1, n1, c1', u1, u2⟩ := J4 d3
      refine wpOp_plain (o := { dst := none, op := Op.store 32 (Operand.tmp b2) (Operand.tmp c2), type := y7, pos := pos, after := #[{ on := 5, ground := Ground.data }, { on := 3, ground := Ground.data }, { on := 6, ground := Ground.chain }, { on := 0, ground := Ground.phase }, { on := 1, ground := Ground.phase }, { on := 2, ground := Ground.phase }, { on := 3, ground := Ground.phase }, { on := 4, ground := Ground.phase }, { on := 5, ground := Ground.phase }, { on := 6, ground := Ground.phase }], guard := none }) rfl rfl ?_
      unfold Oper.wp
      rw [run_storeR (F6.trans p1) (F4.trans u1) p3.c0 p3.c1 p3.f0 p3.f1, Oper.upon_skip]
      have D1 : upd D 7 true 1 = D 1 := rfl
      have D3 : upd D 7 true 3 = D 3 := rfl
      have D4 : upd D 7 true 4 = D 4 := rfl
      have D6 : upd D 7 true 6 = D 6 := rfl
      refine ⟨v, put_none _ _, (J0.setCell p2 _).setCell p2 _, J1, ?_, J3, ?_, ?_, fun _ => ?_, J7, J8, fun _ => ⟨d3, d5⟩⟩
      · rw [D1]; exact fun h => (J2 h).store p3 _ _
      · rw [D3]; exact fun h => (J4 h).store p3 _ _
      · rw [D4, D6]; exact fun h => (J5 h).other (by rw [← p1]; exact J7 h d5) _ _
      · exact ⟨g, s1, A1, n1, c1', p1, p2, p3.set2 _ _, fun _ => u1⟩
    | i + 8, ho => cases ho
  · intro D v w' hall hJ
    obtain ⟨J0, J1, J2, J3, J4, J5, J6, J7, J8, J9⟩ := hJ
    have q1 := hall 1 (by show 1 < 8; omega)
    have q3 := hall 3 (by show 3 < 8; omega)
    have q4 := hall 4 (by show 4 < 8; omega)
    have q5 := hall 5 (by show 5 < 8; omega)
    have q6 := hall 6 (by show 6 < 8; omega)
    have q7 := hall 7 (by show 7 < 8; omega)
    obtain ⟨ga, s1, A1, n1, d1, p1, _, p3, p4⟩ := J5 q4
    obtain ⟨gb, s2, A2, n2, d2, r1, _, r3, r4⟩ := J6 q5
    obtain ⟨s1', A1', n1', d1', u1, u2⟩ := J2 q1
    obtain ⟨s2', A2', n2', d2', u3, u4⟩ := J4 q3
    have h1 := (p4 q6).symm.trans u1
    have h2 := (r4 q7).symm.trans u3
    cases h1
    cases h2
    exact hend v w' ga gb s1 A1 n1 d1 s2 A2 n2 d2 p1 r1 p3 r3 u2 u4 J0
end Go.Proofs.YtmcijgnbdnpanaaGreat
