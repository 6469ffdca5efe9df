/- PtSquares: part 15. -/
import Derived.Test.YtlkjkhpjhllapaaGreatKPtSquares14
set_option linter.unusedVariables false
namespace Go.Proofs.YtlkjkhpjhllapaaGreat
open Go Go.RowKit
theorem run_fp0 {e1 : Operand → Value} {x1 : Operand} {d1 : Option Tmp} {y1 g : Nat} {pos : String} {af : Array Edge} {w : World} (h : e1 x1 = .pointer (some ⟨g, 0, none⟩)) :
    (execOp e1 { dst := d1, op := Op.fieldAddr 83 x1 0, type := y1, pos := pos, after := af, guard := none }).run Tryz.prog w = .ok (.value (.pointer (some ⟨g, 0, none⟩))) w := by
  go_simp
theorem run_fp1 {e1 : Operand → Value} {x1 : Operand} {d1 : Option Tmp} {y1 g : Nat} {pos : String} {af : Array Edge} {w : World} (h : e1 x1 = .pointer (some ⟨g, 0, none⟩)) :
    (execOp e1 { dst := d1, op := Op.fieldAddr 83 x1 1, type := y1, pos := pos, after := af, guard := none }).run Tryz.prog w = .ok (.value (.pointer (some ⟨g, 3, none⟩))) w := by
  go_simp
theorem run_loadP0 {e1 : Operand → Value} {x1 : Operand} {d1 : Option Tmp} {y1 g : Nat} {pos : String} {af : Array Edge} {w : World} {a b c d e f : Value} (h : e1 x1 = .pointer (some ⟨g, 0, none⟩)) (Z : B6 w g a b c d e f) :
    (execOp e1 { dst := d1, op := Op.load 26 x1, type := y1, pos := pos, after := af, guard := none }).run Tryz.prog w = .ok (.value (.agg #[a, b, c])) w := by
  have c0 := Z.c0
  have c1 := Z.c1
  have c2 := Z.c2
  go_simp
theorem run_loadP1 {e1 : Operand → Value} {x1 : Operand} {d1 : Option Tmp} {y1 g : Nat} {pos : String} {af : Array Edge} {w : World} {a b c d e f : Value} (h : e1 x1 = .pointer (some ⟨g, 3, none⟩)) (Z : B6 w g a b c d e f) :
    (execOp e1 { dst := d1, op := Op.load 26 x1, type := y1, pos := pos, after := af, guard := none }).run Tryz.prog w = .ok (.value (.agg #[d, e, f])) w := by
  have c3 := Z.c3
  have c4 := Z.c4
  have c5 := Z.c5
  go_simp
theorem rc_gesso_pt_Cross {e : Operand → Value} {x0 x1 : Operand} {d : Option Tmp} {y : Nat} {pos : String} {af : Array Edge} {w : World} {u0 u1 : Value} (h0 : e x0 = u0) (h1 : e x1 = u1) (hf : e (.func 83) = .func (.func 83) #[] #[]) :
    (execOp e { dst := d, op := Op.call { callee := Callee.value (Operand.func 83), args := #[x0, x1], argTypes := #[83, 83] }, type := y, pos := pos, after := af, guard := none }).run Tryz.prog w = .ok (.enter 83 #[u0, u1]) w := by
  go_simp
def F_sqdc (s_p : Bool) (t_p : Bool) (A_p : Option Addr) (B_p : Option Addr) (E_p : Option Addr) (F_p : Option Addr) (n_p : Nat) (c_p : Nat) (m_p : Nat) (d_p : Nat) (i_p : Nat) (e_p : Nat) (j_p : Nat) (f_p : Nat) (s_q : Bool) (t_q : Bool) (A_q : Option Addr) (B_q : Option Addr) (E_q : Option Addr) (F_q : Option Addr) (n_q : Nat) (c_q : Nat) (m_q : Nat) (d_q : Nat) (i_q : Nat) (e_q : Nat) (j_q : Nat) (f_q : Nat) (ax : Rat) (ay : Rat) (bx : Rat) (by_ : Rat) (sl : Nat) : Value → World → Prop :=
  match sl with
  | 16 => fun x _ => x = Value.agg #[.bool s_p, .slice A_p n_p c_p, .slice B_p m_p d_p, .bool t_p, .slice E_p i_p e_p, .slice F_p j_p f_p]
  | 17 => fun x _ => x = Value.agg #[.bool s_q, .slice A_q n_q c_q, .slice B_q m_q d_q, .bool t_q, .slice E_q i_q e_q, .slice F_q j_q f_q]
  | 18 => VQ (ax * bx + ay * by_) (6 + 6 + (6 + 6) + 1)
  | 19 => fun x _ => x = Value.agg #[.bool s_p, .slice A_p n_p c_p, .slice B_p m_p d_p, .bool t_p, .slice E_p i_p e_p, .slice F_p j_p f_p]
  | 20 => fun x _ => x = Value.agg #[.bool s_q, .slice A_q n_q c_q, .slice B_q m_q d_q, .bool t_q, .slice E_q i_q e_q, .slice F_q j_q f_q]
  | 21 => VQ (ax * by_ - ay * bx) (6 + 6 + (6 + 6) + 1)
  | _ => fun _ _ => True
def B0_sqdc (ax : Rat) (ay : Rat) (bx : Rat) (by_ : Rat) : BoxOp :=
  ⟨6, 8, 5, 26, #[.bool false, .slice none 0 0, .slice none 0 0], fun cs w => ∃ s A n c B m d, cs = #[.bool s, .slice A n c, .slice B m d] ∧ QG w s A n c B m d (ax * bx + ay * by_) (6 + 6 + (6 + 6) + 1)⟩
def B1_sqdc (ax : Rat) (ay : Rat) (bx : Rat) (by_ : Rat) : BoxOp :=
  ⟨7, 9, 6, 26, #[.bool false, .slice none 0 0, .slice none 0 0], fun cs w => ∃ s A n c B m d, cs = #[.bool s, .slice A n c, .slice B m d] ∧ QG w s A n c B m d (ax * by_ - ay * bx) (6 + 6 + (6 + 6) + 1)⟩
set_option maxRecDepth 100000 in
set_option maxHeartbeats 4000000 in
theorem sqdc_region {id : Nat} {ac : Act} {w : World} {Q : Exit → Act → World → Prop} {s_p t_p : Bool} {A_p B_p E_p F_p : Option Addr} {n_p c_p m_p d_p i_p e_p j_p f_p : Nat} {s_q t_q : Bool} {A_q B_q E_q F_q : Option Addr} {n_q c_q m_q d_q i_q e_q j_q f_q : Nat} {ax ay bx by_ : Rat} {gp gq : Nat}
    (hsz : 21 < ac.tmps.size) (e2 : ac.eval (.tmp 2) = Value.pointer (some ⟨gp, 0, none⟩)) (e3 : ac.eval (.tmp 3) = Value.pointer (some ⟨gq, 0, none⟩)) (XA : B6 w gp (.bool s_p) (.slice A_p n_p c_p) (.slice B_p m_p d_p) (.bool t_p) (.slice E_p i_p e_p) (.slice F_p j_p f_p)) (XB : B6 w gq (.bool s_q) (.slice A_q n_q c_q) (.slice B_q m_q d_q) (.bool t_q) (.slice E_q i_q e_q) (.slice F_q j_q f_q)) (p : PR w s_p A_p n_p c_p B_p m_p d_p t_p E_p i_p e_p F_p j_p f_p ax ay 6) (q : PR w s_q A_q n_q c_q B_q m_q d_q t_q E_q i_q e_q F_q j_q f_q bx by_ 6)
    (hend : ∀ (V : Nat → Value) (w' : World) (g0 : Nat) (s0 : Bool) (A0 : Option Addr) (n0 : Nat) (c0 : Nat) (B0 : Option Addr) (m0 : Nat) (d0 : Nat) (g1 : Nat) (s1 : Bool) (A1 : Option Addr) (n1 : Nat) (c1 : Nat) (B1 : Option Addr) (m1 : Nat) (d1 : Nat), QG w' s0 A0 n0 c0 B0 m0 d0 (ax * bx + ay * by_) (6 + 6 + (6 + 6) + 1) → B3 w' g0 (.bool s0) (.slice A0 n0 c0) (.slice B0 m0 d0) → w.heap.size ≤ g0 → V 5 = .pointer (some ⟨g0, 0, none⟩) → QG w' s1 A1 n1 c1 B1 m1 d1 (ax * by_ - ay * bx) (6 + 6 + (6 + 6) + 1) → B3 w' g1 (.bool s1) (.slice A1 n1 c1) (.slice B1 m1 d1) → w.heap.size ≤ g1 → V 6 = .pointer (some ⟨g1, 0, none⟩) → g1 ≠ g0 → Below w.heap.size w w' → Q .normal (putAll ac [16, 17, 18, 19, 20, 21, 5, 6] V) w') :
    (Code.region id #[{ dst := some 16, op := Op.load 83 (Operand.tmp 2), type := 83, pos := "law.go:83", after := #[], guard := none },
      { dst := some 17, op := Op.load 83 (Operand.tmp 3), type := 83, pos := "law.go:83", after := #[], guard := none },
      { dst := some 18, op := Op.call { callee := Callee.value (Operand.func 81), args := #[Operand.tmp 16, Operand.tmp 17], argTypes := #[83, 83] }, type := 26, pos := "law.go:83", after := #[{ on := 0, ground := Ground.data }, { on := 1, ground := Ground.data }], guard := none },
      { dst := some 19, op := Op.load 83 (Operand.tmp 2), type := 83, pos := "law.go:83", after := #[], guard := none },
      { dst := some 20, op := Op.load 83 (Operand.tmp 3), type := 83, pos := "law.go:83", after := #[], guard := none },
      { dst := some 21, op := Op.call { callee := Callee.value (Operand.func 83), args := #[Operand.tmp 19, Operand.tmp 20], argTypes := #[83, 83] }, type := 26, pos := "law.go:83", after := #[{ on := 3, ground := Ground.data }, { on := 4, ground := Ground.data }, { on := 2, ground := Ground.chain }], guard := none },
      { dst := some 5, op := Op.alloc 26, type := 0, pos := "law.go:83", after := #[], guard := none },
      { dst := some 6, op := Op.alloc 26, type := 0, pos := "law.go:83", after := #[], guard := none },
      { dst := none, op := Op.store 26 (Operand.tmp 5) (Operand.tmp 18), type := 0, pos := "law.go:83", after := #[{ on := 6, ground := Ground.data }, { on := 2, ground := Ground.data }, { on := 5, ground := Ground.chain }, { on := 0, ground := Ground.phase }, { on := 1, ground := Ground.phase }, { on := 2, ground := Ground.phase }, { on := 3, ground := Ground.textOnly Departure.lateStores }, { on := 4, ground := Ground.textOnly Departure.lateStores }, { on := 5, ground := Ground.textOnly Departure.lateStoresUnsure }, { on := 6, ground := Ground.phase }, { on := 7, ground := Ground.phase }], guard := none },
      { dst := none, op := Op.store 26 (Operand.tmp 6) (Operand.tmp 21), type := 0, pos := "law.go:83", after := #[{ on := 7, ground := Ground.data }, { on := 5, ground := Ground.data }, { on := 8, ground := Ground.chain }, { on := 0, ground := Ground.phase }, { on := 1, ground := Ground.phase }, { on := 2, ground := Ground.phase }, { on := 3, ground := Ground.phase }, { on := 4, ground := Ground.phase }, { on := 5, ground := Ground.phase }, { on := 6, ground := Ground.phase }, { on := 7, ground := Ground.phase }, { on := 8, ground := Ground.phase }], guard := none }] true).wp Tryz.prog Q ac w := by
  have hnd : ([16, 17, 18, 19, 20, 21, 5, 6] : List Nat).Nodup := by decide
  have G : ∀ (sv : Nat → Value) (t : Nat), t ∈ ([16, 17, 18, 19, 20, 21, 5, 6] : List Nat) → t ≤ 21 → (putAll ac [16, 17, 18, 19, 20, 21, 5, 6] sv).eval (.tmp t) = sv t := fun sv t ht h => eval_putAll_mem (t := t) [16, 17, 18, 19, 20, 21, 5, 6] ac hnd ht (Nat.lt_of_le_of_lt h hsz)
  have E2 : ∀ sv : Nat → Value, (putAll ac [16, 17, 18, 19, 20, 21, 5, 6] sv).eval (.tmp 2) = Value.pointer (some ⟨gp, 0, none⟩) := fun sv => (eval_putAll_not (v := sv) [16, 17, 18, 19, 20, 21, 5, 6] ac (show 2 ∉ _ by decide)).trans e2
  have E3 : ∀ sv : Nat → Value, (putAll ac [16, 17, 18, 19, 20, 21, 5, 6] sv).eval (.tmp 3) = Value.pointer (some ⟨gq, 0, none⟩) := fun sv => (eval_putAll_not (v := sv) [16, 17, 18, 19, 20, 21, 5, 6] ac (show 3 ∉ _ by decide)).trans e3
  have NE : ∀ t : Nat, (t ≠ 5 ∧ t ≠ 6) → ∀ p ∈ [B0_sqdc ax ay bx by_, B1_sqdc ax ay bx by_], t ≠ p.tA := by
    intro t ht p hp
    simp only [List.mem_cons, List.not_mem_nil, or_false] at hp
    rcases hp with rfl | rfl
    · exact ht.1
    · exact ht.2
  refine wp_region_flows [16, 17, 18, 19, 20, 21, 5, 6] [B0_sqdc ax ay bx by_, B1_sqdc ax ay bx by_] (F_sqdc s_p t_p A_p B_p E_p F_p n_p c_p m_p d_p i_p e_p j_p f_p s_q t_q A_q B_q E_q F_q n_q c_q m_q d_q i_q e_q j_q f_q ax ay bx by_) (by kernel_rfl) (by kernel_rfl) rfl hnd ?_ ?_ ?_ ?_ ?_ ?_ ?_ ?_
  · intro p hp
    simp only [List.mem_cons, List.not_mem_nil, or_false] at hp
    rcases hp with rfl | rfl
    · refine ⟨⟨{ dst := some 5, op := Op.alloc 26, type := 0, pos := "law.go:83", after := #[], guard := none }, rfl, rfl, rfl, fun e w' => run_allocQ⟩, ⟨{ dst := none, op := Op.store 26 (Operand.tmp 5) (Operand.tmp 18), type := 0, pos := "law.go:83", after := #[{ on := 6, ground := Ground.data }, { on := 2, ground := Ground.data }, { on := 5, ground := Ground.chain }, { on := 0, ground := Ground.phase }, { on := 1, ground := Ground.phase }, { on := 2, ground := Ground.phase }, { on := 3, ground := Ground.textOnly Departure.lateStores }, { on := 4, ground := Ground.textOnly Departure.lateStores }, { on := 5, ground := Ground.textOnly Departure.lateStoresUnsure }, { on := 6, ground := Ground.phase }, { on := 7, ground := Ground.phase }], guard := none }, rfl, rfl, rfl, { on := 6, ground := Ground.data }, by simp, rfl, rfl⟩, free3 _ _ _ _ _ _ _, ?_, ?_⟩
      · rintro cs w1 w2 ⟨s_, A_, n_, c_, B_, m_, d_, rfl, h⟩ hb; exact ⟨s_, A_, n_, c_, B_, m_, d_, rfl, h.below hb⟩
      · rintro T cs w1 w2 g c0 ⟨s_, A_, n_, c_, B_, m_, d_, rfl, h⟩ hB ho; exact ⟨s_, A_, n_, c_, B_, m_, d_, rfl, h.box hB ho⟩
    · refine ⟨⟨{ dst := some 6, op := Op.alloc 26, type := 0, pos := "law.go:83", after := #[], guard := none }, rfl, rfl, rfl, fun e w' => run_allocQ⟩, ⟨{ dst := none, op := Op.store 26 (Operand.tmp 6) (Operand.tmp 21), type := 0, pos := "law.go:83", after := #[{ on := 7, ground := Ground.data }, { on := 5, ground := Ground.data }, { on := 8, ground := Ground.chain }, { on := 0, ground := Ground.phase }, { on := 1, ground := Ground.phase }, { on := 2, ground := Ground.phase }, { on := 3, ground := Ground.phase }, { on := 4, ground := Ground.phase }, { on := 5, ground := Ground.phase }, { on := 6, ground := Ground.phase }, { on := 7, ground := Ground.phase }, { on := 8, ground := Ground.phase }], guard := none }, rfl, rfl, rfl, { on := 7, ground := Ground.data }, by simp, rfl, rfl⟩, free3 _ _ _ _ _ _ _, ?_, ?_⟩
      · rintro cs w1 w2 ⟨s_, A_, n_, c_, B_, m_, d_, rfl, h⟩ hb; exact ⟨s_, A_, n_, c_, B_, m_, d_, rfl, h.below hb⟩
      · rintro T cs w1 w2 g c0 ⟨s_, A_, n_, c_, B_, m_, d_, rfl, h⟩ hB ho; exact ⟨s_, A_, n_, c_, B_, m_, d_, rfl, h.box hB ho⟩
  · intro p hp q hq h
    simp only [List.mem_cons, List.not_mem_nil, or_false] at hp hq
    rcases hp with rfl | rfl <;> rcases hq with rfl | rfl
    · rfl
    · exact absurd (show (5 : Nat) = 6 from h) (by decide)
    · exact absurd (show (6 : Nat) = 5 from h) (by decide)
    · rfl
  · intro p hp q hq h
    simp only [List.mem_cons, List.not_mem_nil, or_false] at hp hq
    rcases hp with rfl | rfl <;> rcases hq with rfl | rfl
    · rfl
    · exact absurd (show (8 : Nat) = 9 from h) (by decide)
    · exact absurd (show (9 : Nat) = 8 from h) (by decide)
    · rfl
  · intro i o h1 h2
    match i, h1 with
    | 0, h1 => cases h1; cases h2
    | 1, h1 => cases h1; cases h2
    | 2, h1 => cases h1; cases h2
    | 3, h1 => cases h1; cases h2
    | 4, h1 => cases h1; cases h2
    | 5, h1 => cases h1; cases h2
    | 6, h1 => cases h1; cases h2
    | 7, h1 => cases h1; cases h2
    | 8, h1 => exact ⟨B0_sqdc ax ay bx by_, List.Mem.head _, rfl⟩
    | 9, h1 => exact ⟨B1_sqdc ax ay bx by_, List.Mem.tail _ (List.Mem.head _), rfl⟩
    | i + 10, h1 => cases h1
  · intro t
    unfold F_sqdc
    split <;> first | exact stays_eq _ | exact stays_q _ _ | exact stays_z _ _ | exact stays_r _ _ | exact stays_rq _ _ | exact stays_pg _ _ _ | exact stays_true
  · intro i o t sv w' ho hia hd J0 hf
    have p := p.below J0
    have q := q.below J0
    have XA := XA.below J0
    have XB := XB.below J0
    match i, ho with
    | 0, ho =>
      obtain rfl : { dst := some 16, op := Op.load 83 (Operand.tmp 2), type := 83, pos := "law.go:83", after := #[], guard := none } = o := Option.some.inj ho
      cases hd
      refine wpOp_plain' (o := { dst := some 16, op := Op.load 83 (Operand.tmp 2), type := 83, pos := "law.go:83", after := #[], guard := none }) rfl rfl ?_
      unfold Oper.wp
      rw [run_load6 (E2 sv) XA.c0 XA.c1 XA.c2 XA.c3 XA.c4 XA.c5, Oper.upon_value]
      exact ⟨_, rfl, Below.refl _ _, rfl⟩
    | 1, ho =>
      obtain rfl : { dst := some 17, op := Op.load 83 (Operand.tmp 3), type := 83, pos := "law.go:83", after := #[], guard := none } = o := Option.some.inj ho
      cases hd
      refine wpOp_plain' (o := { dst := some 17, op := Op.load 83 (Operand.tmp 3), type := 83, pos := "law.go:83", after := #[], guard := none }) rfl rfl ?_
      unfold Oper.wp
      rw [run_load6 (E3 sv) XB.c0 XB.c1 XB.c2 XB.c3 XB.c4 XB.c5, Oper.upon_value]
      exact ⟨_, rfl, Below.refl _ _, rfl⟩
    | 2, ho =>
      obtain rfl : { dst := some 18, op := Op.call { callee := Callee.value (Operand.func 81), args := #[Operand.tmp 16, Operand.tmp 17], argTypes := #[83, 83] }, type := 26, pos := "law.go:83", after := #[{ on := 0, ground := Ground.data }, { on := 1, ground := Ground.data }], guard := none } = o := Option.some.inj ho
      cases hd
      have f16 : sv 16 = Value.agg #[.bool s_p, .slice A_p n_p c_p, .slice B_p m_p d_p, .bool t_p, .slice E_p i_p e_p, .slice F_p j_p f_p] := hf { on := 0, ground := Ground.data } (by simp) rfl _ 16 rfl rfl (NE _ (by decide))
      have f17 : sv 17 = Value.agg #[.bool s_q, .slice A_q n_q c_q, .slice B_q m_q d_q, .bool t_q, .slice E_q i_q e_q, .slice F_q j_q f_q] := hf { on := 1, ground := Ground.data } (by simp) rfl _ 17 rfl rfl (NE _ (by decide))
      refine wpOp_plain' (o := { dst := some 18, op := Op.call { callee := Callee.value (Operand.func 81), args := #[Operand.tmp 16, Operand.tmp 17], argTypes := #[83, 83] }, type := 26, pos := "law.go:83", after := #[{ on := 0, ground := Ground.data }, { on := 1, ground := Ground.data }], guard := none }) rfl rfl ?_
      unfold Oper.wp
      rw [rc_gesso_pt_Dot ((G sv 16 (by decide) (by decide)).trans f16) ((G sv 17 (by decide) (by decide)).trans f17) rfl, Oper.upon_enter]
      refine (pdot_p p q (by decide) (by decide) (by decide)).mono ?_
      rintro e w1 ⟨s_, A_, n_, c_, B_, m_, d_, rfl, hq, hh⟩
      exact ⟨_, rfl, hh, s_, A_, n_, c_, B_, m_, d_, rfl, hq⟩
    | 3, ho =>
      obtain rfl : { dst := some 19, op := Op.load 83 (Operand.tmp 2), type := 83, pos := "law.go:83", after := #[], guard := none } = o := Option.some.inj ho
      cases hd
      refine wpOp_plain' (o := { dst := some 19, op := Op.load 83 (Operand.tmp 2), type := 83, pos := "law.go:83", after := #[], guard := none }) rfl rfl ?_
      unfold Oper.wp
      rw [run_load6 (E2 sv) XA.c0 XA.c1 XA.c2 XA.c3 XA.c4 XA.c5, Oper.upon_value]
      exact ⟨_, rfl, Below.refl _ _, rfl⟩
    | 4, ho =>
      obtain rfl : { dst := some 20, op := Op.load 83 (Operand.tmp 3), type := 83, pos := "law.go:83", after := #[], guard := none } = o := Option.some.inj ho
      cases hd
      refine wpOp_plain' (o := { dst := some 20, op := Op.load 83 (Operand.tmp 3), type := 83, pos := "law.go:83", after := #[], guard := none }) rfl rfl ?_
      unfold Oper.wp
      rw [run_load6 (E3 sv) XB.c0 XB.c1 XB.c2 XB.c3 XB.c4 XB.c5, Oper.upon_value]
      exact ⟨_, rfl, Below.refl _ _, rfl⟩
    | 5, ho =>
      obtain rfl : { dst := some 21, op := Op.call { callee := Callee.value (Operand.func 83), args := #[Operand.tmp 19, Operand.tmp 20], argTypes := #[83, 83] }, type := 26, pos := "law.go:83", after := #[{ on := 3, ground := Ground.data }, { on := 4, ground := Ground.data }, { on := 2, ground := Ground.chain }], guard := none } = o := Option.some.inj ho
      cases hd
      have f19 : sv 19 = Value.agg #[.bool s_p, .slice A_p n_p c_p, .slice B_p m_p d_p, .bool t_p, .slice E_p i_p e_p, .slice F_p j_p f_p] := hf { on := 3, ground := Ground.data } (by simp) rfl _ 19 rfl rfl (NE _ (by decide))
      have f20 : sv 20 = Value.agg #[.bool s_q, .slice A_q n_q c_q, .slice B_q m_q d_q, .bool t_q, .slice E_q i_q e_q, .slice F_q j_q f_q] := hf { on := 4, ground := Ground.data } (by simp) rfl _ 20 rfl rfl (NE _ (by decide))
      refine wpOp_plain' (o := { dst := some 21, op := Op.call { callee := Callee.value (Operand.func 83), args := #[Operand.tmp 19, Operand.tmp 20], argTypes := #[83, 83] }, type := 26, pos := "law.go:83", after := #[{ on := 3, ground := Ground.data }, { on := 4, ground := Ground.data }, { on := 2, ground := Ground.chain }], guard := none }) rfl rfl ?_
      unfold Oper.wp
      rw [rc_gesso_pt_Cross ((G sv 19 (by decide) (by decide)).trans f19) ((G sv 20 (by decide) (by decide)).trans f20) rfl, Oper.upon_enter]
      refine (pcross_p p q (by decide) (by decide) (by decide)).mono ?_
      rintro e w1 ⟨s_, A_, n_, c_, B_, m_, d_, rfl, hq, hh⟩
      exact ⟨_, rfl, hh, s_, A_, n_, c_, B_, m_, d_, rfl, hq⟩
    | 6, ho => cases ho; cases hd; exact absurd rfl (hia (B0_sqdc ax ay bx by_) (List.Mem.head _))
    | 7, ho => cases ho; cases hd; exact absurd rfl (hia (B1_sqdc ax ay bx by_) (List.Mem.tail _ (List.Mem.head _)))
    | 8, ho => cases ho; cases hd
    | 9, ho => cases ho; cases hd
    | i + 10, ho => cases ho
  · intro p hp os sv w' g hos J0 p1 p3 hf
    simp only [List.mem_cons, List.not_mem_nil, or_false] at hp
    rcases hp with rfl | rfl
    · obtain rfl : { dst := none, op := Op.store 26 (Operand.tmp 5) (Operand.tmp 18), type := 0, pos := "law.go:83", after := #[{ on := 6, ground := Ground.data }, { on := 2, ground := Ground.data }, { on := 5, ground := Ground.chain }, { on := 0, ground := Ground.phase }, { on := 1, ground := Ground.phase }, { on := 2, ground := Ground.phase }, { on := 3, ground := Ground.textOnly Departure.lateStores }, { on := 4, ground := Ground.textOnly Departure.lateStores }, { on := 5, ground := Ground.textOnly Departure.lateStoresUnsure }, { on := 6, ground := Ground.phase }, { on := 7, ground := Ground.phase }], guard := none } = os := Option.some.inj hos
      have h1 : VQ (ax * bx + ay * by_) (6 + 6 + (6 + 6) + 1) (sv 18) w' := hf { on := 2, ground := Ground.data } (by simp) rfl _ 18 rfl rfl (NE _ (by decide))
      rw [← G sv 18 (by decide) (by decide)] at h1
      refine store_q (V := ax * bx + ay * by_) (k := 6 + 6 + (6 + 6) + 1) (ac := putAll ac [16, 17, 18, 19, 20, 21, 5, 6] sv) (z := Operand.tmp 18) ?_ ?_ ?_
      · exact (G sv 5 (by decide) (by decide)).trans p1
      · exact h1
      · exact p3
    · obtain rfl : { dst := none, op := Op.store 26 (Operand.tmp 6) (Operand.tmp 21), type := 0, pos := "law.go:83", after := #[{ on := 7, ground := Ground.data }, { on := 5, ground := Ground.data }, { on := 8, ground := Ground.chain }, { on := 0, ground := Ground.phase }, { on := 1, ground := Ground.phase }, { on := 2, ground := Ground.phase }, { on := 3, ground := Ground.phase }, { on := 4, ground := Ground.phase }, { on := 5, ground := Ground.phase }, { on := 6, ground := Ground.phase }, { on := 7, ground := Ground.phase }, { on := 8, ground := Ground.phase }], guard := none } = os := Option.some.inj hos
      have h1 : VQ (ax * by_ - ay * bx) (6 + 6 + (6 + 6) + 1) (sv 21) w' := hf { on := 5, ground := Ground.data } (by simp) rfl _ 21 rfl rfl (NE _ (by decide))
      rw [← G sv 21 (by decide) (by decide)] at h1
      refine store_q (V := ax * by_ - ay * bx) (k := 6 + 6 + (6 + 6) + 1) (ac := putAll ac [16, 17, 18, 19, 20, 21, 5, 6] sv) (z := Operand.tmp 21) ?_ ?_ ?_
      · exact (G sv 6 (by decide) (by decide)).trans p1
      · exact h1
      · exact p3
  · intro sv w' J0 hF hB hap
    obtain ⟨g0, cs0, p0, r0, b0, ⟨s0, A0, n0, c0, B0, m0, d0, rfl, h0⟩⟩ := hB (B0_sqdc ax ay bx by_) (List.Mem.head _)
    obtain ⟨g1, cs1, p1, r1, b1, ⟨s1, A1, n1, c1, B1, m1, d1, rfl, h1⟩⟩ := hB (B1_sqdc ax ay bx by_) (List.Mem.tail _ (List.Mem.head _))
    have p0' : sv 5 = .pointer (some ⟨g0, 0, none⟩) := p0
    have p1' : sv 6 = .pointer (some ⟨g1, 0, none⟩) := p1
    exact hend sv w' g0 _ _ _ _ _ _ _ g1 _ _ _ _ _ _ _ h0 b0.at_ r0 p0' h1 b1.at_ r1 p1' (fun q => hap (B1_sqdc ax ay bx by_) (List.Mem.tail _ (List.Mem.head _)) (B0_sqdc ax ay bx by_) (List.Mem.head _) (show (6 : Nat) ≠ 5 by decide) (by rw [show (B1_sqdc ax ay bx by_).tA = 6 from rfl, show (B0_sqdc ax ay bx by_).tA = 5 from rfl, p1', p0', q]))  J0
theorem rc_gesso_rat_Add {e : Operand → Value} {x0 x1 : Operand} {d : Option Tmp} {y : Nat} {pos : String} {af : Array Edge} {w : World} {u0 u1 : Value} (h0 : e x0 = u0) (h1 : e x1 = u1) (hf : e (.func 22) = .func (.func 22) #[] #[]) :
    (execOp e { dst := d, op := Op.call { callee := Callee.value (Operand.func 22), args := #[x0, x1], argTypes := #[26, 26] }, type := y, pos := pos, after := af, guard := none }).run Tryz.prog w = .ok (.enter 22 #[u0, u1]) w := by
  go_simp
def F_sqsum (s_d : Bool) (A_d : Option Addr) (B_d : Option Addr) (n_d : Nat) (c_d : Nat) (m_d : Nat) (d_d : Nat) (s_c : Bool) (A_c : Option Addr) (B_c : Option Addr) (n_c : Nat) (c_c : Nat) (m_c : Nat) (d_c : Nat) (dv : Rat) (cv : Rat) (kd : Nat) (sl : Nat) : Value → World → Prop :=
  match sl with
  | 22 => fun x _ => x = Value.agg #[.bool s_d, .slice A_d n_d c_d, .slice B_d m_d d_d]
  | 23 => fun x _ => x = Value.agg #[.bool s_d, .slice A_d n_d c_d, .slice B_d m_d d_d]
  | 24 => VQ (dv * dv) (kd + kd)
  | 25 => fun x _ => x = Value.agg #[.bool s_c, .slice A_c n_c c_c, .slice B_c m_c d_c]
  | 26 => fun x _ => x = Value.agg #[.bool s_c, .slice A_c n_c c_c, .slice B_c m_c d_c]
  | 27 => VQ (cv * cv) (kd + kd)
  | 28 => VQ (dv * dv + cv * cv) (kd + kd + (kd + kd) + 1)
  | _ => fun _ _ => True
def B0_sqsum (dv : Rat) (cv : Rat) (kd : Nat) : BoxOp :=
  ⟨7, 8, 7, 26, #[.bool false, .slice none 0 0, .slice none 0 0], fun cs w => ∃ s A n c B m d, cs = #[.bool s, .slice A n c, .slice B m d] ∧ QG w s A n c B m d (dv * dv + cv * cv) (kd + kd + (kd + kd) + 1)⟩
set_option maxRecDepth 100000 in
set_option maxHeartbeats 4000000 in
theorem sqsum_region {id : Nat} {ac : Act} {w : World} {Q : Exit → Act → World → Prop} {s_d : Bool} {A_d B_d : Option Addr} {n_d c_d m_d d_d : Nat} {s_c : Bool} {A_c B_c : Option Addr} {n_c c_c m_c d_c : Nat} {dv cv : Rat} {gp gq kd : Nat}
    (hsz : 28 < ac.tmps.size) (e5 : ac.eval (.tmp 5) = Value.pointer (some ⟨gp, 0, none⟩)) (e6 : ac.eval (.tmp 6) = Value.pointer (some ⟨gq, 0, none⟩)) (XD : B3 w gp (.bool s_d) (.slice A_d n_d c_d) (.slice B_d m_d d_d)) (XC : B3 w gq (.bool s_c) (.slice A_c n_c c_c) (.slice B_c m_c d_c)) (d : QR w s_d A_d n_d c_d B_d m_d d_d dv kd) (c : QR w s_c A_c n_c c_c B_c m_c d_c cv kd) (hk : kd ≤ 30) (h1 : 1 ≤ kd)
    (hend : ∀ (V : Nat → Value) (w' : World) (g0 : Nat) (s0 : Bool) (A0 : Option Addr) (n0 : Nat) (c0 : Nat) (B0 : Option Addr) (m0 : Nat) (d0 : Nat), QG w' s0 A0 n0 c0 B0 m0 d0 (dv * dv + cv * cv) (kd + kd + (kd + kd) + 1) → B3 w' g0 (.bool s0) (.slice A0 n0 c0) (.slice B0 m0 d0) → w.heap.size ≤ g0 → V 7 = .pointer (some ⟨g0, 0, none⟩) → Below w.heap.size w w' → Q .normal (putAll ac [22, 23, 24, 25, 26, 27, 28, 7] V) w') :
    (Code.region id #[{ dst := some 22, op := Op.load 26 (Operand.tmp 5), type := 26, pos := "law.go:84", after := #[], guard := none },
      { dst := some 23, op := Op.load 26 (Operand.tmp 5), type := 26, pos := "law.go:84", after := #[], guard := none },
      { dst := some 24, op := Op.call { callee := Callee.value (Operand.func 26), args := #[Operand.tmp 22, Operand.tmp 23], argTypes := #[26, 26] }, type := 26, pos := "law.go:84", after := #[{ on := 0, ground := Ground.data }, { on := 1, ground := Ground.data }], guard := none },
      { dst := some 25, op := Op.load 26 (Operand.tmp 6), type := 26, pos := "law.go:84", after := #[], guard := none },
      { dst := some 26, op := Op.load 26 (Operand.tmp 6), type := 26, pos := "law.go:84", after := #[], guard := none },
      { dst := some 27, op := Op.call { callee := Callee.value (Operand.func 26), args := #[Operand.tmp 25, Operand.tmp 26], argTypes := #[26, 26] }, type := 26, pos := "law.go:84", after := #[{ on := 3, ground := Ground.data }, { on := 4, ground := Ground.data }, { on := 2, ground := Ground.chain }], guard := none },
      { dst := some 28, op := Op.call { callee := Callee.value (Operand.func 22), args := #[Operand.tmp 24, Operand.tmp 27], argTypes := #[26, 26] }, type := 26, pos := "law.go:84", after := #[{ on := 2, ground := Ground.data }, { on := 5, ground := Ground.data }, { on := 5, ground := Ground.chain }], guard := none },
      { dst := some 7, op := Op.alloc 26, type := 0, pos := "law.go:84", after := #[], guard := none },
      { dst := none, op := Op.store 26 (Operand.tmp 7) (Operand.tmp 28), type := 0, pos := "law.go:84", after := #[{ on := 7, ground := Ground.data }, { on := 6, ground := Ground.data }, { on := 6, ground := Ground.chain }, { on := 0, ground := Ground.phase }, { on := 1, ground := Ground.phase }, { on := 2, ground := Ground.phase }, { on := 3, ground := Ground.phase }, { on := 4, ground := Ground.phase }, { on := 5, ground := Ground.phase }, { on := 6, ground := Ground.phase }, { on := 7, ground := Ground.phase }], guard := none }] true).wp Tryz.prog Q ac w := by
  have hnd : ([22, 23, 24, 25, 26, 27, 28, 7] : List Nat).Nodup := by decide
  have G : ∀ (sv : Nat → Value) (t : Nat), t ∈ ([22, 23, 24, 25, 26, 27, 28, 7] : List Nat) → t ≤ 28 → (putAll ac [22, 23, 24, 25, 26, 27, 28, 7] sv).eval (.tmp t) = sv t := fun sv t ht h => eval_putAll_mem (t := t) [22, 23, 24, 25, 26, 27, 28, 7] ac hnd ht (Nat.lt_of_le_of_lt h hsz)
  have E5 : ∀ sv : Nat → Value, (putAll ac [22, 23, 24, 25, 26, 27, 28, 7] sv).eval (.tmp 5) = Value.pointer (some ⟨gp, 0, none⟩) := fun sv => (eval_putAll_not (v := sv) [22, 23, 24, 25, 26, 27, 28, 7] ac (show 5 ∉ _ by decide)).trans e5
  have E6 : ∀ sv : Nat → Value, (putAll ac [22, 23, 24, 25, 26, 27, 28, 7] sv).eval (.tmp 6) = Value.pointer (some ⟨gq, 0, none⟩) := fun sv => (eval_putAll_not (v := sv) [22, 23, 24, 25, 26, 27, 28, 7] ac (show 6 ∉ _ by decide)).trans e6
  have NE : ∀ t : Nat, (t ≠ 7) → ∀ p ∈ [B0_sqsum dv cv kd], t ≠ p.tA := by
    intro t ht p hp
    simp only [List.mem_cons, List.not_mem_nil, or_false] at hp
    rcases hp with rfl
    · exact ht
  refine wp_region_flows [22, 23, 24, 25, 26, 27, 28, 7] [B0_sqsum dv cv kd] (F_sqsum s_d A_d B_d n_d c_d m_d d_d s_c A_c B_c n_c c_c m_c d_c dv cv kd) (by kernel_rfl) (by kernel_rfl) rfl hnd ?_ ?_ ?_ ?_ ?_ ?_ ?_ ?_
  · intro p hp
    simp only [List.mem_cons, List.not_mem_nil, or_false] at hp
    rcases hp with rfl
    · refine ⟨⟨{ dst := some 7, op := Op.alloc 26, type := 0, pos := "law.go:84", after := #[], guard := none }, rfl, rfl, rfl, fun e w' => run_allocQ⟩, ⟨{ dst := none, op := Op.store 26 (Operand.tmp 7) (Operand.tmp 28), type := 0, pos := "law.go:84", after := #[{ on := 7, ground := Ground.data }, { on := 6, ground := Ground.data }, { on := 6, ground := Ground.chain }, { on := 0, ground := Ground.phase }, { on := 1, ground := Ground.phase }, { on := 2, ground := Ground.phase }, { on := 3, ground := Ground.phase }, { on := 4, ground := Ground.phase }, { on := 5, ground := Ground.phase }, { on := 6, ground := Ground.phase }, { on := 7, ground := Ground.phase }], guard := none }, rfl, rfl, rfl, { on := 7, ground := Ground.data }, by simp, rfl, rfl⟩, free3 _ _ _ _ _ _ _, ?_, ?_⟩
      · rintro cs w1 w2 ⟨s_, A_, n_, c_, B_, m_, d_, rfl, h⟩ hb; exact ⟨s_, A_, n_, c_, B_, m_, d_, rfl, h.below hb⟩
      · rintro T cs w1 w2 g c0 ⟨s_, A_, n_, c_, B_, m_, d_, rfl, h⟩ hB ho; exact ⟨s_, A_, n_, c_, B_, m_, d_, rfl, h.box hB ho⟩
  · intro p hp q hq h
    simp only [List.mem_cons, List.not_mem_nil, or_false] at hp hq
    rcases hp with rfl <;> rcases hq with rfl
    · rfl
  · intro p hp q hq h
    simp only [List.mem_cons, List.not_mem_nil, or_false] at hp hq
    rcases hp with rfl <;> rcases hq with rfl
    · rfl
  · intro i o h1 h2
    match i, h1 with
    | 0, h1 => cases h1; cases h2
    | 1, h1 => cases h1; cases h2
    | 2, h1 => cases h1; cases h2
    | 3, h1 => cases h1; cases h2
    | 4, h1 => cases h1; cases h2
    | 5, h1 => cases h1; cases h2
    | 6, h1 => cases h1; cases h2
    | 7, h1 => cases h1; cases h2
    | 8, h1 => exact ⟨B0_sqsum dv cv kd, List.Mem.head _, rfl⟩
    | i + 9, h1 => cases h1
  · intro t
    unfold F_sqsum
    split <;> first | exact stays_eq _ | exact stays_q _ _ | exact stays_z _ _ | exact stays_r _ _ | exact stays_rq _ _ | exact stays_pg _ _ _ | exact stays_true
  · intro i o t sv w' ho hia hd J0 hf
    have d := d.below J0
    have c := c.below J0
    have XD := XD.below J0
    have XC := XC.below J0
    match i, ho with
    | 0, ho =>
      obtain rfl : { dst := some 22, op := Op.load 26 (Operand.tmp 5), type := 26, pos := "law.go:84", after := #[], guard := none } = o := Option.some.inj ho
      cases hd
      refine wpOp_plain' (o := { dst := some 22, op := Op.load 26 (Operand.tmp 5), type := 26, pos := "law.go:84", after := #[], guard := none }) rfl rfl ?_
      unfold Oper.wp
      rw [run_loadQ (E5 sv) XD.c0 XD.c1 XD.c2, Oper.upon_value]
      exact ⟨_, rfl, Below.refl _ _, rfl⟩
    | 1, ho =>
      obtain rfl : { dst := some 23, op := Op.load 26 (Operand.tmp 5), type := 26, pos := "law.go:84", after := #[], guard := none } = o := Option.some.inj ho
      cases hd
      refine wpOp_plain' (o := { dst := some 23, op := Op.load 26 (Operand.tmp 5), type := 26, pos := "law.go:84", after := #[], guard := none }) rfl rfl ?_
      unfold Oper.wp
      rw [run_loadQ (E5 sv) XD.c0 XD.c1 XD.c2, Oper.upon_value]
      exact ⟨_, rfl, Below.refl _ _, rfl⟩
    | 2, ho =>
      obtain rfl : { dst := some 24, op := Op.call { callee := Callee.value (Operand.func 26), args := #[Operand.tmp 22, Operand.tmp 23], argTypes := #[26, 26] }, type := 26, pos := "law.go:84", after := #[{ on := 0, ground := Ground.data }, { on := 1, ground := Ground.data }], guard := none } = o := Option.some.inj ho
      cases hd
      have f22 : sv 22 = Value.agg #[.bool s_d, .slice A_d n_d c_d, .slice B_d m_d d_d] := hf { on := 0, ground := Ground.data } (by simp) rfl _ 22 rfl rfl (NE _ (by decide))
      have f23 : sv 23 = Value.agg #[.bool s_d, .slice A_d n_d c_d, .slice B_d m_d d_d] := hf { on := 1, ground := Ground.data } (by simp) rfl _ 23 rfl rfl (NE _ (by decide))
      refine wpOp_plain' (o := { dst := some 24, op := Op.call { callee := Callee.value (Operand.func 26), args := #[Operand.tmp 22, Operand.tmp 23], argTypes := #[26, 26] }, type := 26, pos := "law.go:84", after := #[{ on := 0, ground := Ground.data }, { on := 1, ground := Ground.data }], guard := none }) rfl rfl ?_
      unfold Oper.wp
      rw [rc_gesso_rat_Mul ((G sv 22 (by decide) (by decide)).trans f22) ((G sv 23 (by decide) (by decide)).trans f23) rfl, Oper.upon_enter]
      refine (rmul_q d d (by omega) (by omega) (.inl (by omega)) (by omega) (by omega)).mono ?_
      rintro e w1 ⟨s_, A_, n_, c_, B_, m_, d_, rfl, hq, hh⟩
      exact ⟨_, rfl, hh, s_, A_, n_, c_, B_, m_, d_, rfl, hq⟩
    | 3, ho =>
      obtain rfl : { dst := some 25, op := Op.load 26 (Operand.tmp 6), type := 26, pos := "law.go:84", after := #[], guard := none } = o := Option.some.inj ho
      cases hd
      refine wpOp_plain' (o := { dst := some 25, op := Op.load 26 (Operand.tmp 6), type := 26, pos := "law.go:84", after := #[], guard := none }) rfl rfl ?_
      unfold Oper.wp
      rw [run_loadQ (E6 sv) XC.c0 XC.c1 XC.c2, Oper.upon_value]
      exact ⟨_, rfl, Below.refl _ _, rfl⟩
    | 4, ho =>
      obtain rfl : { dst := some 26, op := Op.load 26 (Operand.tmp 6), type := 26, pos := "law.go:84", after := #[], guard := none } = o := Option.some.inj ho
      cases hd
      refine wpOp_plain' (o := { dst := some 26, op := Op.load 26 (Operand.tmp 6), type := 26, pos := "law.go:84", after := #[], guard := none }) rfl rfl ?_
      unfold Oper.wp
      rw [run_loadQ (E6 sv) XC.c0 XC.c1 XC.c2, Oper.upon_value]
      exact ⟨_, rfl, Below.refl _ _, rfl⟩
    | 5, ho =>
      obtain rfl : { dst := some 27, op := Op.call { callee := Callee.value (Operand.func 26), args := #[Operand.tmp 25, Operand.tmp 26], argTypes := #[26, 26] }, type := 26, pos := "law.go:84", after := #[{ on := 3, ground := Ground.data }, { on := 4, ground := Ground.data }, { on := 2, ground := Ground.chain }], guard := none } = o := Option.some.inj ho
      cases hd
      have f25 : sv 25 = Value.agg #[.bool s_c, .slice A_c n_c c_c, .slice B_c m_c d_c] := hf { on := 3, ground := Ground.data } (by simp) rfl _ 25 rfl rfl (NE _ (by decide))
      have f26 : sv 26 = Value.agg #[.bool s_c, .slice A_c n_c c_c, .slice B_c m_c d_c] := hf { on := 4, ground := Ground.data } (by simp) rfl _ 26 rfl rfl (NE _ (by decide))
      refine wpOp_plain' (o := { dst := some 27, op := Op.call { callee := Callee.value (Operand.func 26), args := #[Operand.tmp 25, Operand.tmp 26], argTypes := #[26, 26] }, type := 26, pos := "law.go:84", after := #[{ on := 3, ground := Ground.data }, { on := 4, ground := Ground.data }, { on := 2, ground := Ground.chain }], guard := none }) rfl rfl ?_
      unfold Oper.wp
      rw [rc_gesso_rat_Mul ((G sv 25 (by decide) (by decide)).trans f25) ((G sv 26 (by decide) (by decide)).trans f26) rfl, Oper.upon_enter]
      refine (rmul_q c c (by omega) (by omega) (.inl (by omega)) (by omega) (by omega)).mono ?_
      rintro e w1 ⟨s_, A_, n_, c_, B_, m_, d_, rfl, hq, hh⟩
      exact ⟨_, rfl, hh, s_, A_, n_, c_, B_, m_, d_, rfl, hq⟩
    | 6, ho =>
      obtain rfl : { dst := some 28, op := Op.call { callee := Callee.value (Operand.func 22), args := #[Operand.tmp 24, Operand.tmp 27], argTypes := #[26, 26] }, type := 26, pos := "law.go:84", after := #[{ on := 2, ground := Ground.data }, { on := 5, ground := Ground.data }, { on := 5, ground := Ground.chain }], guard := none } = o := Option.some.inj ho
      cases hd
      have h24 : VQ (dv * dv) (kd + kd) (sv 24) w' := hf { on := 2, ground := Ground.data } (by simp) rfl _ 24 rfl rfl (NE _ (by decide))
      obtain ⟨s24_, A24_, n24_, c24_, B24_, m24_, d24_, f24, q24⟩ := h24
      have h27 : VQ (cv * cv) (kd + kd) (sv 27) w' := hf { on := 5, ground := Ground.data } (by simp) rfl _ 27 rfl rfl (NE _ (by decide))
      obtain ⟨s27_, A27_, n27_, c27_, B27_, m27_, d27_, f27, q27⟩ := h27
      refine wpOp_plain' (o := { dst := some 28, op := Op.call { callee := Callee.value (Operand.func 22), args := #[Operand.tmp 24, Operand.tmp 27], argTypes := #[26, 26] }, type := 26, pos := "law.go:84", after := #[{ on := 2, ground := Ground.data }, { on := 5, ground := Ground.data }, { on := 5, ground := Ground.chain }], guard := none }) rfl rfl ?_
      unfold Oper.wp
      rw [rc_gesso_rat_Add ((G sv 24 (by decide) (by decide)).trans f24) ((G sv 27 (by decide) (by decide)).trans f27) rfl, Oper.upon_enter]
      refine (radd_q q24.qr q27.qr (by omega) (by omega) (.inl (by omega)) (by omega) (by omega)).mono ?_
      rintro e w1 ⟨s_, A_, n_, c_, B_, m_, d_, rfl, hq, hh⟩
      exact ⟨_, rfl, hh, s_, A_, n_, c_, B_, m_, d_, rfl, hq⟩
    | 7, ho => cases ho; cases hd; exact absurd rfl (hia (B0_sqsum dv cv kd) (List.Mem.head _))
    | 8, ho => cases ho; cases hd
    | i + 9, ho => cases ho
  · intro p hp os sv w' g hos J0 p1 p3 hf
    simp only [List.mem_cons, List.not_mem_nil, or_false] at hp
    rcases hp with rfl
    · obtain rfl : { dst := none, op := Op.store 26 (Operand.tmp 7) (Operand.tmp 28), type := 0, pos := "law.go:84", after := #[{ on := 7, ground := Ground.data }, { on := 6, ground := Ground.data }, { on := 6, ground := Ground.chain }, { on := 0, ground := Ground.phase }, { on := 1, ground := Ground.phase }, { on := 2, ground := Ground.phase }, { on := 3, ground := Ground.phase }, { on := 4, ground := Ground.phase }, { on := 5, ground := Ground.phase }, { on := 6, ground := Ground.phase }, { on := 7, ground := Ground.phase }], guard := none } = os := Option.some.inj hos
      have h1 : VQ (dv * dv + cv * cv) (kd + kd + (kd + kd) + 1) (sv 28) w' := hf { on := 6, ground := Ground.data } (by simp) rfl _ 28 rfl rfl (NE _ (by decide))
      rw [← G sv 28 (by decide) (by decide)] at h1
      refine store_q (V := dv * dv + cv * cv) (k := kd + kd + (kd + kd) + 1) (ac := putAll ac [22, 23, 24, 25, 26, 27, 28, 7] sv) (z := Operand.tmp 28) ?_ ?_ ?_
      · exact (G sv 7 (by decide) (by decide)).trans p1
      · exact h1
      · exact p3
  · intro sv w' J0 hF hB hap
    obtain ⟨g0, cs0, p0, r0, b0, ⟨s0, A0, n0, c0, B0, m0, d0, rfl, h0⟩⟩ := hB (B0_sqsum dv cv kd) (List.Mem.head _)
    have p0' : sv 7 = .pointer (some ⟨g0, 0, none⟩) := p0
    exact hend sv w' g0 _ _ _ _ _ _ _ h0 b0.at_ r0 p0'  J0
theorem rc_gesso_rat_Sub {e : Operand → Value} {x0 x1 : Operand} {d : Option Tmp} {y : Nat} {pos : String} {af : Array Edge} {w : World} {u0 u1 : Value} (h0 : e x0 = u0) (h1 : e x1 = u1) (hf : e (.func 24) = .func (.func 24) #[] #[]) :
    (execOp e { dst := d, op := Op.call { callee := Callee.value (Operand.func 24), args := #[x0, x1], argTypes := #[26, 26] }, type := y, pos := pos, after := af, guard := none }).run Tryz.prog w = .ok (.enter 24 #[u0, u1]) w := by
  go_simp
def F_sqxy (s_p : Bool) (t_p : Bool) (A_p : Option Addr) (B_p : Option Addr) (E_p : Option Addr) (F_p : Option Addr) (n_p : Nat) (c_p : Nat) (m_p : Nat) (d_p : Nat) (i_p : Nat) (e_p : Nat) (j_p : Nat) (f_p : Nat) (s_q : Bool) (t_q : Bool) (A_q : Option Addr) (B_q : Option Addr) (E_q : Option Addr) (F_q : Option Addr) (n_q : Nat) (c_q : Nat) (m_q : Nat) (d_q : Nat) (i_q : Nat) (e_q : Nat) (j_q : Nat) (f_q : Nat) (ax : Rat) (ay : Rat) (bx : Rat) (by_ : Rat) (gp : Nat) (gq : Nat) (sl : Nat) : Value → World → Prop :=
  match sl with
  | 29 => fun x _ => x = Value.pointer (some ⟨gp, 0, none⟩)
  | 30 => fun x _ => x = Value.agg #[.bool s_p, .slice A_p n_p c_p, .slice B_p m_p d_p]
  | 31 => fun x _ => x = Value.pointer (some ⟨gq, 0, none⟩)
  | 32 => fun x _ => x = Value.agg #[.bool s_q, .slice A_q n_q c_q, .slice B_q m_q d_q]
  | 33 => VQ (ax - bx) (6 + 6 + 1)
  | 34 => fun x _ => x = Value.pointer (some ⟨gp, 3, none⟩)
  | 35 => fun x _ => x = Value.agg #[.bool t_p, .slice E_p i_p e_p, .slice F_p j_p f_p]
  | 36 => fun x _ => x = Value.pointer (some ⟨gq, 3, none⟩)
  | 37 => fun x _ => x = Value.agg #[.bool t_q, .slice E_q i_q e_q, .slice F_q j_q f_q]
  | 38 => VQ (ay - by_) (6 + 6 + 1)
  | _ => fun _ _ => True
def B0_sqxy (ax : Rat) (bx : Rat) : BoxOp :=
  ⟨10, 12, 8, 26, #[.bool false, .slice none 0 0, .slice none 0 0], fun cs w => ∃ s A n c B m d, cs = #[.bool s, .slice A n c, .slice B m d] ∧ QG w s A n c B m d (ax - bx) (6 + 6 + 1)⟩
def B1_sqxy (ay : Rat) (by_ : Rat) : BoxOp :=
  ⟨11, 13, 9, 26, #[.bool false, .slice none 0 0, .slice none 0 0], fun cs w => ∃ s A n c B m d, cs = #[.bool s, .slice A n c, .slice B m d] ∧ QG w s A n c B m d (ay - by_) (6 + 6 + 1)⟩
set_option maxRecDepth 100000 in
set_option maxHeartbeats 4000000 in
theorem sqxy_region {id : Nat} {ac : Act} {w : World} {Q : Exit → Act → World → Prop} {s_p t_p : Bool} {A_p B_p E_p F_p : Option Addr} {n_p c_p m_p d_p i_p e_p j_p f_p : Nat} {s_q t_q : Bool} {A_q B_q E_q F_q : Option Addr} {n_q c_q m_q d_q i_q e_q j_q f_q : Nat} {ax ay bx by_ : Rat} {gp gq : Nat}
    (hsz : 38 < ac.tmps.size) (e2 : ac.eval (.tmp 2) = Value.pointer (some ⟨gp, 0, none⟩)) (e3 : ac.eval (.tmp 3) = Value.pointer (some ⟨gq, 0, none⟩)) (XA : B6 w gp (.bool s_p) (.slice A_p n_p c_p) (.slice B_p m_p d_p) (.bool t_p) (.slice E_p i_p e_p) (.slice F_p j_p f_p)) (XB : B6 w gq (.bool s_q) (.slice A_q n_q c_q) (.slice B_q m_q d_q) (.bool t_q) (.slice E_q i_q e_q) (.slice F_q j_q f_q)) (p : PR w s_p A_p n_p c_p B_p m_p d_p t_p E_p i_p e_p F_p j_p f_p ax ay 6) (q : PR w s_q A_q n_q c_q B_q m_q d_q t_q E_q i_q e_q F_q j_q f_q bx by_ 6)
    (hend : ∀ (V : Nat → Value) (w' : World) (g0 : Nat) (s0 : Bool) (A0 : Option Addr) (n0 : Nat) (c0 : Nat) (B0 : Option Addr) (m0 : Nat) (d0 : Nat) (g1 : Nat) (s1 : Bool) (A1 : Option Addr) (n1 : Nat) (c1 : Nat) (B1 : Option Addr) (m1 : Nat) (d1 : Nat), QG w' s0 A0 n0 c0 B0 m0 d0 (ax - bx) (6 + 6 + 1) → B3 w' g0 (.bool s0) (.slice A0 n0 c0) (.slice B0 m0 d0) → w.heap.size ≤ g0 → V 8 = .pointer (some ⟨g0, 0, none⟩) → QG w' s1 A1 n1 c1 B1 m1 d1 (ay - by_) (6 + 6 + 1) → B3 w' g1 (.bool s1) (.slice A1 n1 c1) (.slice B1 m1 d1) → w.heap.size ≤ g1 → V 9 = .pointer (some ⟨g1, 0, none⟩) → g1 ≠ g0 → Below w.heap.size w w' → Q .normal (putAll ac [29, 30, 31, 32, 33, 34, 35, 36, 37, 38, 8, 9] V) w') :
    (Code.region id #[{ dst := some 29, op := Op.fieldAddr 83 (Operand.tmp 2) 0, type := 0, pos := "law.go:85", after := #[], guard := none },
      { dst := some 30, op := Op.load 26 (Operand.tmp 29), type := 26, pos := "law.go:85", after := #[{ on := 0, ground := Ground.data }], guard := none },
      { dst := some 31, op := Op.fieldAddr 83 (Operand.tmp 3) 0, type := 0, pos := "law.go:85", after := #[], guard := none },
      { dst := some 32, op := Op.load 26 (Operand.tmp 31), type := 26, pos := "law.go:85", after := #[{ on := 2, ground := Ground.data }], guard := none },
      { dst := some 33, op := Op.call { callee := Callee.value (Operand.func 24), args := #[Operand.tmp 30, Operand.tmp 32], argTypes := #[26, 26] }, type := 26, pos := "law.go:85", after := #[{ on := 1, ground := Ground.data }, { on := 3, ground := Ground.data }], guard := none },
      { dst := some 34, op := Op.fieldAddr 83 (Operand.tmp 2) 1, type := 0, pos := "law.go:85", after := #[], guard := none },
      { dst := some 35, op := Op.load 26 (Operand.tmp 34), type := 26, pos := "law.go:85", after := #[{ on := 5, ground := Ground.data }], guard := none },
      { dst := some 36, op := Op.fieldAddr 83 (Operand.tmp 3) 1, type := 0, pos := "law.go:85", after := #[], guard := none },
      { dst := some 37, op := Op.load 26 (Operand.tmp 36), type := 26, pos := "law.go:85", after := #[{ on := 7, ground := Ground.data }], guard := none },
      { dst := some 38, op := Op.call { callee := Callee.value (Operand.func 24), args := #[Operand.tmp 35, Operand.tmp 37], argTypes := #[26, 26] }, type := 26, pos := "law.go:85", after := #[{ on := 6, ground := Ground.data }, { on := 8, ground := Ground.data }, { on := 4, ground := Ground.chain }], guard := none },
      { dst := some 8, op := Op.alloc 26, type := 0, pos := "law.go:85", after := #[], guard := none },
      { dst := some 9, op := Op.alloc 26, type := 0, pos := "law.go:85", after := #[], guard := none },
      { dst := none, op := Op.store 26 (Operand.tmp 8) (Operand.tmp 33), type := 0, pos := "law.go:85", after := #[{ on := 10, ground := Ground.data }, { on := 4, ground := Ground.data }, { on := 9, ground := Ground.chain }, { on := 0, ground := Ground.phase }, { on := 1, ground := Ground.phase }, { on := 2, ground := Ground.phase }, { on := 3, ground := Ground.phase }, { on := 4, ground := Ground.phase }, { on := 5, ground := Ground.textOnly Departure.lateStores }, { on := 6, ground := Ground.textOnly Departure.lateStores }, { on := 7, ground := Ground.textOnly Departure.lateStores }, { on := 8, ground := Ground.textOnly Departure.lateStores }, { on := 9, ground := Ground.textOnly Departure.lateStoresUnsure }, { on := 10, ground := Ground.phase }, { on := 11, ground := Ground.phase }], guard := none },
      { dst := none, op := Op.store 26 (Operand.tmp 9) (Operand.tmp 38), type := 0, pos := "law.go:85", after := #[{ on := 11, ground := Ground.data }, { on := 9, ground := Ground.data }, { on := 12, ground := Ground.chain }, { on := 0, ground := Ground.phase }, { on := 1, ground := Ground.phase }, { on := 2, ground := Ground.phase }, { on := 3, ground := Ground.phase }, { on := 4, ground := Ground.phase }, { on := 5, ground := Ground.phase }, { on := 6, ground := Ground.phase }, { on := 7, ground := Ground.phase }, { on := 8, ground := Ground.phase }, { on := 9, ground := Ground.phase }, { on := 10, ground := Ground.phase }, { on := 11, ground := Ground.phase }, { on := 12, ground := Ground.phase }], guard := none }] true).wp Tryz.prog Q ac w := by
  have hnd : ([29, 30, 31, 32, 33, 34, 35, 36, 37, 38, 8, 9] : List Nat).Nodup := by decide
  have G : ∀ (sv : Nat → Value) (t : Nat), t ∈ ([29, 30, 31, 32, 33, 34, 35, 36, 37, 38, 8, 9] : List Nat) → t ≤ 38 → (putAll ac [29, 30, 31, 32, 33, 34, 35, 36, 37, 38, 8, 9] sv).eval (.tmp t) = sv t := fun sv t ht h => eval_putAll_mem (t := t) [29, 30, 31, 32, 33, 34, 35, 36, 37, 38, 8, 9] ac hnd ht (Nat.lt_of_le_of_lt h hsz)
  have E2 : ∀ sv : Nat → Value, (putAll ac [29, 30, 31, 32, 33, 34, 35, 36, 37, 38, 8, 9] sv).eval (.tmp 2) = Value.pointer (some ⟨gp, 0, none⟩) := fun sv => (eval_putAll_not (v := sv) [29, 30, 31, 32, 33, 34, 35, 36, 37, 38, 8, 9] ac (show 2 ∉ _ by decide)).trans e2
  have E3 : ∀ sv : Nat → Value, (putAll ac [29, 30, 31, 32, 33, 34, 35, 36, 37, 38, 8, 9] sv).eval (.tmp 3) = Value.pointer (some ⟨gq, 0, none⟩) := fun sv => (eval_putAll_not (v := sv) [29, 30, 31, 32, 33, 34, 35, 36, 37, 38, 8, 9] ac (show 3 ∉ _ by decide)).trans e3
  have NE : ∀ t : Nat, (t ≠ 8 ∧ t ≠ 9) → ∀ p ∈ [B0_sqxy ax bx, B1_sqxy ay by_], t ≠ p.tA := by
    intro t ht p hp
    simp only [List.mem_cons, List.not_mem_nil, or_false] at hp
    rcases hp with rfl | rfl
    · exact ht.1
    · exact ht.2
  refine wp_region_flows [29, 30, 31, 32, 33, 34, 35, 36, 37, 38, 8, 9] [B0_sqxy ax bx, B1_sqxy ay by_] (F_sqxy s_p t_p A_p B_p E_p F_p n_p c_p m_p d_p i_p e_p j_p f_p s_q t_q A_q B_q E_q F_q n_q c_q m_q d_q i_q e_q j_q f_q ax ay bx by_ gp gq) (by kernel_rfl) (by kernel_rfl) rfl hnd ?_ ?_ ?_ ?_ ?_ ?_ ?_ ?_
  · intro p hp
    simp only [List.mem_cons, List.not_mem_nil, or_false] at hp
    rcases hp with rfl | rfl
    · refine ⟨⟨{ dst := some 8, op := Op.alloc 26, type := 0, pos := "law.go:85", after := #[], guard := none }, rfl, rfl, rfl, fun e w' => run_allocQ⟩, ⟨{ dst := none, op := Op.store 26 (Operand.tmp 8) (Operand.tmp 33), type := 0, pos := "law.go:85", after := #[{ on := 10, ground := Ground.data }, { on := 4, ground := Ground.data }, { on := 9, ground := Ground.chain }, { on := 0, ground := Ground.phase }, { on := 1, ground := Ground.phase }, { on := 2, ground := Ground.phase }, { on := 3, ground := Ground.phase }, { on := 4, ground := Ground.phase }, { on := 5, ground := Ground.textOnly Departure.lateStores }, { on := 6, ground := Ground.textOnly Departure.lateStores }, { on := 7, ground := Ground.textOnly Departure.lateStores }, { on := 8, ground := Ground.textOnly Departure.lateStores }, { on := 9, ground := Ground.textOnly Departure.lateStoresUnsure }, { on := 10, ground := Ground.phase }, { on := 11, ground := Ground.phase }], guard := none }, rfl, rfl, rfl, { on := 10, ground := Ground.data }, by simp, rfl, rfl⟩, free3 _ _ _ _ _ _ _, ?_, ?_⟩
      · rintro cs w1 w2 ⟨s_, A_, n_, c_, B_, m_, d_, rfl, h⟩ hb; exact ⟨s_, A_, n_, c_, B_, m_, d_, rfl, h.below hb⟩
      · rintro T cs w1 w2 g c0 ⟨s_, A_, n_, c_, B_, m_, d_, rfl, h⟩ hB ho; exact ⟨s_, A_, n_, c_, B_, m_, d_, rfl, h.box hB ho⟩
    · refine ⟨⟨{ dst := some 9, op := Op.alloc 26, type := 0, pos := "law.go:85", after := #[], guard := none }, rfl, rfl, rfl, fun e w' => run_allocQ⟩, ⟨{ dst := none, op := Op.store 26 (Operand.tmp 9) (Operand.tmp 38), type := 0, pos := "law.go:85", after := #[{ on := 11, ground := Ground.data }, { on := 9, ground := Ground.data }, { on := 12, ground := Ground.chain }, { on := 0, ground := Ground.phase }, { on := 1, ground := Ground.phase }, { on := 2, ground := Ground.phase }, { on := 3, ground := Ground.phase }, { on := 4, ground := Ground.phase }, { on := 5, ground := Ground.phase }, { on := 6, ground := Ground.phase }, { on := 7, ground := Ground.phase }, { on := 8, ground := Ground.phase }, { on := 9, ground := Ground.phase }, { on := 10, ground := Ground.phase }, { on := 11, ground := Ground.phase }, { on := 12, ground := Ground.phase }], guard := none }, rfl, rfl, rfl, { on := 11, ground := Ground.data }, by simp, rfl, rfl⟩, free3 _ _ _ _ _ _ _, ?_, ?_⟩
      · rintro cs w1 w2 ⟨s_, A_, n_, c_, B_, m_, d_, rfl, h⟩ hb; exact ⟨s_, A_, n_, c_, B_, m_, d_, rfl, h.below hb⟩
      · rintro T cs w1 w2 g c0 ⟨s_, A_, n_, c_, B_, m_, d_, rfl, h⟩ hB ho; exact ⟨s_, A_, n_, c_, B_, m_, d_, rfl, h.box hB ho⟩
  · intro p hp q hq h
    simp only [List.mem_cons, List.not_mem_nil, or_false] at hp hq
    rcases hp with rfl | rfl <;> rcases hq with rfl | rfl
    · rfl
    · exact absurd (show (8 : Nat) = 9 from h) (by decide)
    · exact absurd (show (9 : Nat) = 8 from h) (by decide)
    · rfl
  · intro p hp q hq h
    simp only [List.mem_cons, List.not_mem_nil, or_false] at hp hq
    rcases hp with rfl | rfl <;> rcases hq with rfl | rfl
    · rfl
    · exact absurd (show (12 : Nat) = 13 from h) (by decide)
    · exact absurd (show (13 : Nat) = 12 from h) (by decide)
    · rfl
  · intro i o h1 h2
    match i, h1 with
    | 0, h1 => cases h1; cases h2
    | 1, h1 => cases h1; cases h2
    | 2, h1 => cases h1; cases h2
    | 3, h1 => cases h1; cases h2
    | 4, h1 => cases h1; cases h2
    | 5, h1 => cases h1; cases h2
    | 6, h1 => cases h1; cases h2
    | 7, h1 => cases h1; cases h2
    | 8, h1 => cases h1; cases h2
    | 9, h1 => cases h1; cases h2
    | 10, h1 => cases h1; cases h2
    | 11, h1 => cases h1; cases h2
    | 12, h1 => exact ⟨B0_sqxy ax bx, List.Mem.head _, rfl⟩
    | 13, h1 => exact ⟨B1_sqxy ay by_, List.Mem.tail _ (List.Mem.head _), rfl⟩
    | i + 14, h1 => cases h1
  · intro t
    unfold F_sqxy
    split <;> first | exact stays_eq _ | exact stays_q _ _ | exact stays_z _ _ | exact stays_r _ _ | exact stays_rq _ _ | exact stays_pg _ _ _ | exact stays_true
  · intro i o t sv w' ho hia hd J0 hf
    have p := p.below J0
    have q := q.below J0
    have XA := XA.below J0
    have XB := XB.below J0
    match i, ho with
    | 0, ho =>
      obtain rfl : { dst := some 29, op := Op.fieldAddr 83 (Operand.tmp 2) 0, type := 0, pos := "law.go:85", after := #[], guard := none } = o := Option.some.inj ho
      cases hd
      refine wpOp_plain' (o := { dst := some 29, op := Op.fieldAddr 83 (Operand.tmp 2) 0, type := 0, pos := "law.go:85", after := #[], guard := none }) rfl rfl ?_
      unfold Oper.wp
      rw [run_fp0 (E2 sv), Oper.upon_value]
      exact ⟨_, rfl, Below.refl _ _, rfl⟩
    | 1, ho =>
      obtain rfl : { dst := some 30, op := Op.load 26 (Operand.tmp 29), type := 26, pos := "law.go:85", after := #[{ on := 0, ground := Ground.data }], guard := none } = o := Option.some.inj ho
      cases hd
      have f29 : sv 29 = Value.pointer (some ⟨gp, 0, none⟩) := hf { on := 0, ground := Ground.data } (by simp) rfl _ 29 rfl rfl (NE _ (by decide))
      refine wpOp_plain' (o := { dst := some 30, op := Op.load 26 (Operand.tmp 29), type := 26, pos := "law.go:85", after := #[{ on := 0, ground := Ground.data }], guard := none }) rfl rfl ?_
      unfold Oper.wp
      rw [run_loadP0 ((G sv 29 (by decide) (by decide)).trans f29) XA, Oper.upon_value]
      exact ⟨_, rfl, Below.refl _ _, rfl⟩
    | 2, ho =>
      obtain rfl : { dst := some 31, op := Op.fieldAddr 83 (Operand.tmp 3) 0, type := 0, pos := "law.go:85", after := #[], guard := none } = o := Option.some.inj ho
      cases hd
      refine wpOp_plain' (o := { dst := some 31, op := Op.fieldAddr 83 (Operand.tmp 3) 0, type := 0, pos := "law.go:85", after := #[], guard := none }) rfl rfl ?_
      unfold Oper.wp
      rw [run_fp0 (E3 sv), Oper.upon_value]
      exact ⟨_, rfl, Below.refl _ _, rfl⟩
    | 3, ho =>
      obtain rfl : { dst := some 32, op := Op.load 26 (Operand.tmp 31), type := 26, pos := "law.go:85", after := #[{ on := 2, ground := Ground.data }], guard := none } = o := Option.some.inj ho
      cases hd
      have f31 : sv 31 = Value.pointer (some ⟨gq, 0, none⟩) := hf { on := 2, ground := Ground.data } (by simp) rfl _ 31 rfl rfl (NE _ (by decide))
      refine wpOp_plain' (o := { dst := some 32, op := Op.load 26 (Operand.tmp 31), type := 26, pos := "law.go:85", after := #[{ on := 2, ground := Ground.data }], guard := none }) rfl rfl ?_
      unfold Oper.wp
      rw [run_loadP0 ((G sv 31 (by decide) (by decide)).trans f31) XB, Oper.upon_value]
      exact ⟨_, rfl, Below.refl _ _, rfl⟩
    | 4, ho =>
      obtain rfl : { dst := some 33, op := Op.call { callee := Callee.value (Operand.func 24), args := #[Operand.tmp 30, Operand.tmp 32], argTypes := #[26, 26] }, type := 26, pos := "law.go:85", after := #[{ on := 1, ground := Ground.data }, { on := 3, ground := Ground.data }], guard := none } = o := Option.some.inj ho
      cases hd
      have f30 : sv 30 = Value.agg #[.bool s_p, .slice A_p n_p c_p, .slice B_p m_p d_p] := hf { on := 1, ground := Ground.data } (by simp) rfl _ 30 rfl rfl (NE _ (by decide))
      have f32 : sv 32 = Value.agg #[.bool s_q, .slice A_q n_q c_q, .slice B_q m_q d_q] := hf { on := 3, ground := Ground.data } (by simp) rfl _ 32 rfl rfl (NE _ (by decide))
      refine wpOp_plain' (o := { dst := some 33, op := Op.call { callee := Callee.value (Operand.func 24), args := #[Operand.tmp 30, Operand.tmp 32], argTypes := #[26, 26] }, type := 26, pos := "law.go:85", after := #[{ on := 1, ground := Ground.data }, { on := 3, ground := Ground.data }], guard := none }) rfl rfl ?_
      unfold Oper.wp
      rw [rc_gesso_rat_Sub ((G sv 30 (by decide) (by decide)).trans f30) ((G sv 32 (by decide) (by decide)).trans f32) rfl, Oper.upon_enter]
      refine (rsub_q p.qx q.qx (by decide) (by decide) (.inl (by decide)) (by decide) (by decide)).mono ?_
      rintro e w1 ⟨s_, A_, n_, c_, B_, m_, d_, rfl, hq, hh⟩
      exact ⟨_, rfl, hh, s_, A_, n_, c_, B_, m_, d_, rfl, hq⟩
    | 5, ho =>
      obtain rfl : { dst := some 34, op := Op.fieldAddr 83 (Operand.tmp 2) 1, type := 0, pos := "law.go:85", after := #[], guard := none } = o := Option.some.inj ho
      cases hd
      refine wpOp_plain' (o := { dst := some 34, op := Op.fieldAddr 83 (Operand.tmp 2) 1, type := 0, pos := "law.go:85", after := #[], guard := none }) rfl rfl ?_
      unfold Oper.wp
      rw [run_fp1 (E2 sv), Oper.upon_value]
      exact ⟨_, rfl, Below.refl _ _, rfl⟩
    | 6, ho =>
      obtain rfl : { dst := some 35, op := Op.load 26 (Operand.tmp 34), type := 26, pos := "law.go:85", after := #[{ on := 5, ground := Ground.data }], guard := none } = o := Option.some.inj ho
      cases hd
      have f34 : sv 34 = Value.pointer (some ⟨gp, 3, none⟩) := hf { on := 5, ground := Ground.data } (by simp) rfl _ 34 rfl rfl (NE _ (by decide))
      refine wpOp_plain' (o := { dst := some 35, op := Op.load 26 (Operand.tmp 34), type := 26, pos := "law.go:85", after := #[{ on := 5, ground := Ground.data }], guard := none }) rfl rfl ?_
      unfold Oper.wp
      rw [run_loadP1 ((G sv 34 (by decide) (by decide)).trans f34) XA, Oper.upon_value]
      exact ⟨_, rfl, Below.refl _ _, rfl⟩
    | 7, ho =>
      obtain rfl : { dst := some 36, op := Op.fieldAddr 83 (Operand.tmp 3) 1, type := 0, pos := "law.go:85", after := #[], guard := none } = o := Option.some.inj ho
      cases hd
      refine wpOp_plain' (o := { dst := some 36, op := Op.fieldAddr 83 (Operand.tmp 3) 1, type := 0, pos := "law.go:85", after := #[], guard := none }) rfl rfl ?_
      unfold Oper.wp
      rw [run_fp1 (E3 sv), Oper.upon_value]
      exact ⟨_, rfl, Below.refl _ _, rfl⟩
    | 8, ho =>
      obtain rfl : { dst := some 37, op := Op.load 26 (Operand.tmp 36), type := 26, pos := "law.go:85", after := #[{ on := 7, ground := Ground.data }], guard := none } = o := Option.some.inj ho
      cases hd
      have f36 : sv 36 = Value.pointer (some ⟨gq, 3, none⟩) := hf { on := 7, ground := Ground.data } (by simp) rfl _ 36 rfl rfl (NE _ (by decide))
      refine wpOp_plain' (o := { dst := some 37, op := Op.load 26 (Operand.tmp 36), type := 26, pos := "law.go:85", after := #[{ on := 7, ground := Ground.data }], guard := none }) rfl rfl ?_
      unfold Oper.wp
      rw [run_loadP1 ((G sv 36 (by decide) (by decide)).trans f36) XB, Oper.upon_value]
      exact ⟨_, rfl, Below.refl _ _, rfl⟩
    | 9, ho =>
      obtain rfl : { dst := some 38, op := Op.call { callee := Callee.value (Operand.func 24), args := #[Operand.tmp 35, Operand.tmp 37], argTypes := #[26, 26] }, type := 26, pos := "law.go:85", after := #[{ on := 6, ground := Ground.data }, { on := 8, ground := Ground.data }, { on := 4, ground := Ground.chain }], guard := none } = o := Option.some.inj ho
      cases hd
      have f35 : sv 35 = Value.agg #[.bool t_p, .slice E_p i_p e_p, .slice F_p j_p f_p] := hf { on := 6, ground := Ground.data } (by simp) rfl _ 35 rfl rfl (NE _ (by decide))
      have f37 : sv 37 = Value.agg #[.bool t_q, .slice E_q i_q e_q, .slice F_q j_q f_q] := hf { on := 8, ground := Ground.data } (by simp) rfl _ 37 rfl rfl (NE _ (by decide))
      refine wpOp_plain' (o := { dst := some 38, op := Op.call { callee := Callee.value (Operand.func 24), args := #[Operand.tmp 35, Operand.tmp 37], argTypes := #[26, 26] }, type := 26, pos := "law.go:85", after := #[{ on := 6, ground := Ground.data }, { on := 8, ground := Ground.data }, { on := 4, ground := Ground.chain }], guard := none }) rfl rfl ?_
      unfold Oper.wp
      rw [rc_gesso_rat_Sub ((G sv 35 (by decide) (by decide)).trans f35) ((G sv 37 (by decide) (by decide)).trans f37) rfl, Oper.upon_enter]
      refine (rsub_q p.qy q.qy (by decide) (by decide) (.inl (by decide)) (by decide) (by decide)).mono ?_
      rintro e w1 ⟨s_, A_, n_, c_, B_, m_, d_, rfl, hq, hh⟩
      exact ⟨_, rfl, hh, s_, A_, n_, c_, B_, m_, d_, rfl, hq⟩
    | 10, ho => cases ho; cases hd; exact absurd rfl (hia (B0_sqxy ax bx) (List.Mem.head _))
    | 11, ho => cases ho; cases hd; exact absurd rfl (hia (B1_sqxy ay by_) (List.Mem.tail _ (List.Mem.head _)))
    | 12, ho => cases ho; cases hd
    | 13, ho => cases ho; cases hd
    | i + 14, ho => cases ho
  · intro p hp os sv w' g hos J0 p1 p3 hf
    simp only [List.mem_cons, List.not_mem_nil, or_false] at hp
    rcases hp with rfl | rfl
    · obtain rfl : { dst := none, op := Op.store 26 (Operand.tmp 8) (Operand.tmp 33), type := 0, pos := "law.go:85", after := #[{ on := 10, ground := Ground.data }, { on := 4, ground := Ground.data }, { on := 9, ground := Ground.chain }, { on := 0, ground := Ground.phase }, { on := 1, ground := Ground.phase }, { on := 2, ground := Ground.phase }, { on := 3, ground := Ground.phase }, { on := 4, ground := Ground.phase }, { on := 5, ground := Ground.textOnly Departure.lateStores }, { on := 6, ground := Ground.textOnly Departure.lateStores }, { on := 7, ground := Ground.textOnly Departure.lateStores }, { on := 8, ground := Ground.textOnly Departure.lateStores }, { on := 9, ground := Ground.textOnly Departure.lateStoresUnsure }, { on := 10, ground := Ground.phase }, { on := 11, ground := Ground.phase }], guard := none } = os := Option.some.inj hos
      have h1 : VQ (ax - bx) (6 + 6 + 1) (sv 33) w' := hf { on := 4, ground := Ground.data } (by simp) rfl _ 33 rfl rfl (NE _ (by decide))
      rw [← G sv 33 (by decide) (by decide)] at h1
      refine store_q (V := ax - bx) (k := 6 + 6 + 1) (ac := putAll ac [29, 30, 31, 32, 33, 34, 35, 36, 37, 38, 8, 9] sv) (z := Operand.tmp 33) ?_ ?_ ?_
      · exact (G sv 8 (by decide) (by decide)).trans p1
      · exact h1
      · exact p3
    · obtain rfl : { dst := none, op := Op.store 26 (Operand.tmp 9) (Operand.tmp 38), type := 0, pos := "law.go:85", after := #[{ on := 11, ground := Ground.data }, { on := 9, ground := Ground.data }, { on := 12, ground := Ground.chain }, { on := 0, ground := Ground.phase }, { on := 1, ground := Ground.phase }, { on := 2, ground := Ground.phase }, { on := 3, ground := Ground.phase }, { on := 4, ground := Ground.phase }, { on := 5, ground := Ground.phase }, { on := 6, ground := Ground.phase }, { on := 7, ground := Ground.phase }, { on := 8, ground := Ground.phase }, { on := 9, ground := Ground.phase }, { on := 10, ground := Ground.phase }, { on := 11, ground := Ground.phase }, { on := 12, ground := Ground.phase }], guard := none } = os := Option.some.inj hos
      have h1 : VQ (ay - by_) (6 + 6 + 1) (sv 38) w' := hf { on := 9, ground := Ground.data } (by simp) rfl _ 38 rfl rfl (NE _ (by decide))
      rw [← G sv 38 (by decide) (by decide)] at h1
      refine store_q (V := ay - by_) (k := 6 + 6 + 1) (ac := putAll ac [29, 30, 31, 32, 33, 34, 35, 36, 37, 38, 8, 9] sv) (z := Operand.tmp 38) ?_ ?_ ?_
      · exact (G sv 9 (by decide) (by decide)).trans p1
      · exact h1
      · exact p3
  · intro sv w' J0 hF hB hap
    obtain ⟨g0, cs0, p0, r0, b0, ⟨s0, A0, n0, c0, B0, m0, d0, rfl, h0⟩⟩ := hB (B0_sqxy ax bx) (List.Mem.head _)
    obtain ⟨g1, cs1, p1, r1, b1, ⟨s1, A1, n1, c1, B1, m1, d1, rfl, h1⟩⟩ := hB (B1_sqxy ay by_) (List.Mem.tail _ (List.Mem.head _))
    have p0' : sv 8 = .pointer (some ⟨g0, 0, none⟩) := p0
    have p1' : sv 9 = .pointer (some ⟨g1, 0, none⟩) := p1
    exact hend sv w' g0 _ _ _ _ _ _ _ g1 _ _ _ _ _ _ _ h0 b0.at_ r0 p0' h1 b1.at_ r1 p1' (fun q => hap (B1_sqxy ay by_) (List.Mem.tail _ (List.Mem.head _)) (B0_sqxy ax bx) (List.Mem.head _) (show (9 : Nat) ≠ 8 by decide) (by rw [show (B1_sqxy ay by_).tA = 9 from rfl, show (B0_sqxy ax bx).tA = 8 from rfl, p1', p0', q]))  J0
set_option maxRecDepth 100000 in
set_option maxHeartbeats 4000000 in
theorem squares_l {w : World} {s_p t_p : Bool} {A_p B_p E_p F_p : Option Addr} {n_p c_p m_p d_p i_p e_p j_p f_p : Nat} {s_q t_q : Bool} {A_q B_q E_q F_q : Option Addr} {n_q c_q m_q d_q i_q e_q j_q f_q : Nat} (h : ¬ (((n_p ≤ 6 ∧ m_p ≤ 6) ∧ i_p ≤ 6 ∧ j_p ≤ 6) ∧ ((n_q ≤ 6 ∧ m_q ≤ 6) ∧ i_q ≤ 6 ∧ j_q ≤ 6))) :
    Calls Tryz.prog 13 #[.agg #[.bool s_p, .slice A_p n_p c_p, .slice B_p m_p d_p, .bool t_p, .slice E_p i_p e_p, .slice F_p j_p f_p], .agg #[.bool s_q, .slice A_q n_q c_q, .slice B_q m_q d_q, .bool t_q, .slice E_q i_q e_q, .slice F_q j_q f_q]] w fun e w' => e = .returned (.bool true) ∧ Below w.heap.size w w' := by
  have HL : Hid (decide (((n_p ≤ 6 ∧ m_p ≤ 6) ∧ i_p ≤ 6 ∧ j_p ≤ 6) ∧ ((n_q ≤ 6 ∧ m_q ≤ 6) ∧ i_q ≤ 6 ∧ j_q ≤ 6)) = false) := decide_eq_false h
  clear h
  go_enter Tryz.func13, Tryz.ntmps13
  go_wp2_with fail
  generalize hW : (((w.alloc (Obj.cells #[Value.bool s_p, Value.slice A_p n_p c_p, Value.slice B_p m_p d_p, Value.bool t_p, Value.slice E_p i_p e_p, Value.slice F_p j_p f_p] 83)).alloc (Obj.cells #[Value.bool s_q, Value.slice A_q n_q c_q, Value.slice B_q m_q d_q, Value.bool t_q, Value.slice E_q i_q e_q, Value.slice F_q j_q f_q] 83)).alloc (Obj.cells #[Value.bool s_p, Value.slice A_p n_p c_p, Value.slice B_p m_p d_p, Value.bool t_p, Value.slice E_p i_p e_p, Value.slice F_p j_p f_p, Value.bool s_q, Value.slice A_q n_q c_q, Value.slice B_q m_q d_q, Value.bool t_q, Value.slice E_q i_q e_q, Value.slice F_q j_q f_q] 83)) = W
  have hb : Below w.heap.size w W := by subst hW; exact ((((Below.refl _ _).alloc (Nat.le_refl _) _).alloc (by simp) _).alloc (by simp; omega) _)
  have XA : B6 W (w.heap.size) (Value.bool s_p) (Value.slice A_p n_p c_p) (Value.slice B_p m_p d_p) (Value.bool t_p) (Value.slice E_p i_p e_p) (Value.slice F_p j_p f_p) := by subst hW; exact ((B6.new' _ _ _ _ _ _ _ _ rfl).alloc _).alloc _
  have XB : B6 W (w.heap.size + 1) (Value.bool s_q) (Value.slice A_q n_q c_q) (Value.slice B_q m_q d_q) (Value.bool t_q) (Value.slice E_q i_q e_q) (Value.slice F_q j_q f_q) := by subst hW; exact (B6.new' _ _ _ _ _ _ _ _ (by simp)).alloc _
  have XL : BL2 W (w.heap.size + 1 + 1) (Value.bool s_p) (Value.slice A_p n_p c_p) (Value.slice B_p m_p d_p) (Value.bool t_p) (Value.slice E_p i_p e_p) (Value.slice F_p j_p f_p) (Value.bool s_q) (Value.slice A_q n_q c_q) (Value.slice B_q m_q d_q) (Value.bool t_q) (Value.slice E_q i_q e_q) (Value.slice F_q j_q f_q) := by subst hW; exact BL2.new' _ _ _ _ _ _ _ _ _ _ _ _ _ _ (by simp)
  have hzW : W.heap.size = w.heap.size + 3 := by subst hW; simp
  clear hW
  go_wp2_with (first
      | (go_at_call 66; (with_reducible refine (fair2 XL false HL.out).mono ?_); rintro e w_z ⟨rfl, hh⟩
         replace hb := bend hb hh)
      | (go_at_call 67; (with_reducible refine (pwakes_any _).mono ?_); rintro e w_z ⟨rfl, hh⟩
         replace hb := bend hb hh))
  go_ret
  exact ⟨rfl, hb⟩
set_option maxRecDepth 100000 in
set_option maxHeartbeats 16000000 in
theorem squares_s {w : World} {s_p t_p : Bool} {A_p B_p E_p F_p : Option Addr} {n_p c_p m_p d_p i_p e_p j_p f_p : Nat} {s_q t_q : Bool} {A_q B_q E_q F_q : Option Addr} {n_q c_q m_q d_q i_q e_q j_q f_q : Nat} {ax ay bx by_ : Rat} (p : PR w s_p A_p n_p c_p B_p m_p d_p t_p E_p i_p e_p F_p j_p f_p ax ay 6) (q : PR w s_q A_q n_q c_q B_q m_q d_q t_q E_q i_q e_q F_q j_q f_q bx by_ 6) (h : (((n_p ≤ 6 ∧ m_p ≤ 6) ∧ i_p ≤ 6 ∧ j_p ≤ 6) ∧ ((n_q ≤ 6 ∧ m_q ≤ 6) ∧ i_q ≤ 6 ∧ j_q ≤ 6))) :
    Calls Tryz.prog 13 #[.agg #[.bool s_p, .slice A_p n_p c_p, .slice B_p m_p d_p, .bool t_p, .slice E_p i_p e_p, .slice F_p j_p f_p], .agg #[.bool s_q, .slice A_q n_q c_q, .slice B_q m_q d_q, .bool t_q, .slice E_q i_q e_q, .slice F_q j_q f_q]] w fun e w' => e = .returned (.bool true) ∧ Below w.heap.size w w' := by
  have HL : Hid (decide (((n_p ≤ 6 ∧ m_p ≤ 6) ∧ i_p ≤ 6 ∧ j_p ≤ 6) ∧ ((n_q ≤ 6 ∧ m_q ≤ 6) ∧ i_q ≤ 6 ∧ j_q ≤ 6)) = true) := decide_eq_true h
  have H1 : Hid (cmpQ ((ax * bx + ay * by_) * (ax * bx + ay * by_) + (ax * by_ - ay * bx) * (ax * by_ - ay * bx)) ((ax * ax + ay * ay) * (bx * bx + by_ * by_)) = 0) := cmpQ_nul.2 (by grind)
  have H2 : Hid (cmpQ (farQ ax ay bx by_) ((ax - bx) * (ax - bx) + (ay - by_) * (ay - by_)) = 0) := cmpQ_nul.2 (by unfold farQ; grind)
  have H3 : Hid (sgnQ (ax * ay - ay * ax) = 0) := by show _ = _; rw [show ax * ay - ay * ax = 0 by grind]; rfl
  have H4 : Hid (cmpQ (bx * ay - by_ * ax) (-(ax * by_ - ay * bx)) = 0) := cmpQ_nul.2 (by grind)
  have H5 : Hid (decide (ax + bx - bx = ax ∧ ay + by_ - by_ = ay) = true) := decide_eq_true ⟨by grind, by grind⟩
  clear h
  go_enter Tryz.func13, Tryz.ntmps13
  go_wp2_with fail
  generalize hW : (((w.alloc (Obj.cells #[Value.bool s_p, Value.slice A_p n_p c_p, Value.slice B_p m_p d_p, Value.bool t_p, Value.slice E_p i_p e_p, Value.slice F_p j_p f_p] 83)).alloc (Obj.cells #[Value.bool s_q, Value.slice A_q n_q c_q, Value.slice B_q m_q d_q, Value.bool t_q, Value.slice E_q i_q e_q, Value.slice F_q j_q f_q] 83)).alloc (Obj.cells #[Value.bool s_p, Value.slice A_p n_p c_p, Value.slice B_p m_p d_p, Value.bool t_p, Value.slice E_p i_p e_p, Value.slice F_p j_p f_p, Value.bool s_q, Value.slice A_q n_q c_q, Value.slice B_q m_q d_q, Value.bool t_q, Value.slice E_q i_q e_q, Value.slice F_q j_q f_q] 83)) = W
  have hb : Below w.heap.size w W := by subst hW; exact ((((Below.refl _ _).alloc (Nat.le_refl _) _).alloc (by simp) _).alloc (by simp; omega) _)
  have XA : B6 W (w.heap.size) (Value.bool s_p) (Value.slice A_p n_p c_p) (Value.slice B_p m_p d_p) (Value.bool t_p) (Value.slice E_p i_p e_p) (Value.slice F_p j_p f_p) := by subst hW; exact ((B6.new' _ _ _ _ _ _ _ _ rfl).alloc _).alloc _
  have XB : B6 W (w.heap.size + 1) (Value.bool s_q) (Value.slice A_q n_q c_q) (Value.slice B_q m_q d_q) (Value.bool t_q) (Value.slice E_q i_q e_q) (Value.slice F_q j_q f_q) := by subst hW; exact (B6.new' _ _ _ _ _ _ _ _ (by simp)).alloc _
  have XL : BL2 W (w.heap.size + 1 + 1) (Value.bool s_p) (Value.slice A_p n_p c_p) (Value.slice B_p m_p d_p) (Value.bool t_p) (Value.slice E_p i_p e_p) (Value.slice F_p j_p f_p) (Value.bool s_q) (Value.slice A_q n_q c_q) (Value.slice B_q m_q d_q) (Value.bool t_q) (Value.slice E_q i_q e_q) (Value.slice F_q j_q f_q) := by subst hW; exact BL2.new' _ _ _ _ _ _ _ _ _ _ _ _ _ _ (by simp)
  have hzW : W.heap.size = w.heap.size + 3 := by subst hW; simp
  clear hW
  replace p := p.below hb
  replace q := q.below hb
  have xa0 := XA.c0
  have xa1 := XA.c1
  have xa2 := XA.c2
  have xa3 := XA.c3
  have xa4 := XA.c4
  have xa5 := XA.c5
  have xb0 := XB.c0
  have xb1 := XB.c1
  have xb2 := XB.c2
  have xb3 := XB.c3
  have xb4 := XB.c4
  have xb5 := XB.c5
  go_upto_region 3 with (first
      | (go_at_call 66; (with_reducible refine (fair2 XL true HL.out).mono ?_); rintro e w_z ⟨rfl, hh⟩
         clear XL
         try replace p := p.below hh
         try replace q := q.below hh
         try replace XA := XA.below hh
         try replace XB := XB.below hh
         replace hb := bend hb hh
         have xa0 := XA.c0
         have xa1 := XA.c1
         have xa2 := XA.c2
         have xa3 := XA.c3
         have xa4 := XA.c4
         have xa5 := XA.c5
         have xb0 := XB.c0
         have xb1 := XB.c1
         have xb2 := XB.c2
         have xb3 := XB.c3
         have xb4 := XB.c4
         have xb5 := XB.c5))
  refine sqdc_region (by simp) rfl rfl XA XB p q ?_
  intro V1 w_d g_d s_d A_d n_d c_d B_d m_d d_d g_c s_c A_c n_c c_c B_c m_c d_c d XD hg_d hvd c XC hg_c hvc hne hh
  simp only [putAll, Act.put, List.setIfInBounds_toArray, List.set_cons_zero, List.set_cons_succ, hvd, hvc]
  clear hvd hvc
  replace p := p.below hh
  replace q := q.below hh
  replace XA := XA.below hh
  replace XB := XB.below hh
  replace hb := bend hb hh
  go_upto_region 4 with (fail)
  refine sqsum_region (by simp) rfl rfl XD XC d.qr c.qr (by decide) (by decide) ?_
  intro V2 w_s g_s s_s A_s n_s c_s B_s m_s d_s s XS hg_s hvs hh
  simp only [putAll, Act.put, List.setIfInBounds_toArray, List.set_cons_zero, List.set_cons_succ, hvs]
  clear hvs
  replace p := p.below hh
  replace q := q.below hh
  replace XA := XA.below hh
  replace XB := XB.below hh
  replace d := d.below hh
  replace c := c.below hh
  replace XD := XD.below hh
  replace XC := XC.below hh
  replace hb := bend hb hh
  go_upto_region 5 with (fail)
  refine sqxy_region (by simp) rfl rfl XA XB p q ?_
  intro V3 w_y g_x s_x A_x n_x c_x B_x m_x d_x g_y s_y A_y n_y c_y B_y m_y d_y x XX hg_x hvx y XY hg_y hvy hne2 hh
  simp only [putAll, Act.put, List.setIfInBounds_toArray, List.set_cons_zero, List.set_cons_succ, hvx, hvy]
  clear hvx hvy
  replace p := p.below hh
  replace q := q.below hh
  replace XA := XA.below hh
  replace XB := XB.below hh
  replace d := d.below hh
  replace c := c.below hh
  replace XD := XD.below hh
  replace XC := XC.below hh
  replace s := s.below hh
  replace XS := XS.below hh
  replace hb := bend hb hh
  go_upto_region 6 with (fail)
  clear XD d
  replace p := p.below (Below.refl _ _).drew
  replace q := q.below (Below.refl _ _).drew
  replace XA := XA.below (Below.refl _ _).drew
  replace XB := XB.below (Below.refl _ _).drew
  replace c := c.below (Below.refl _ _).drew
  replace XC := XC.below (Below.refl _ _).drew
  replace s := s.below (Below.refl _ _).drew
  replace XS := XS.below (Below.refl _ _).drew
  replace x := x.below (Below.refl _ _).drew
  replace y := y.below (Below.refl _ _).drew
  replace XX := XX.below (Below.refl _ _).drew
  replace XY := XY.below (Below.refl _ _).drew
  replace hb := hb.drew
  go_region_held3 (fun w' => w'.cell? ⟨w.heap.size, 0, none⟩ = some (.bool s_p) ∧ w'.cell? ⟨w.heap.size, 1, none⟩ = some (.slice A_p n_p c_p) ∧ w'.cell? ⟨w.heap.size, 2, none⟩ = some (.slice B_p m_p d_p) ∧ w'.cell? ⟨w.heap.size, 3, none⟩ = some (.bool t_p) ∧ w'.cell? ⟨w.heap.size, 4, none⟩ = some (.slice E_p i_p e_p) ∧ w'.cell? ⟨w.heap.size, 5, none⟩ = some (.slice F_p j_p f_p) ∧ w'.cell? ⟨w.heap.size + 1, 0, none⟩ = some (.bool s_q) ∧ w'.cell? ⟨w.heap.size + 1, 1, none⟩ = some (.slice A_q n_q c_q) ∧ w'.cell? ⟨w.heap.size + 1, 2, none⟩ = some (.slice B_q m_q d_q) ∧ w'.cell? ⟨w.heap.size + 1, 3, none⟩ = some (.bool t_q) ∧ w'.cell? ⟨w.heap.size + 1, 4, none⟩ = some (.slice E_q i_q e_q) ∧ w'.cell? ⟨w.heap.size + 1, 5, none⟩ = some (.slice F_q j_q f_q) ∧ w'.cell? ⟨g_c, 0, none⟩ = some (.bool s_c) ∧ w'.cell? ⟨g_c, 1, none⟩ = some (.slice A_c n_c c_c) ∧ w'.cell? ⟨g_c, 2, none⟩ = some (.slice B_c m_c d_c) ∧ w'.cell? ⟨g_s, 0, none⟩ = some (.bool s_s) ∧ w'.cell? ⟨g_s, 1, none⟩ = some (.slice A_s n_s c_s) ∧ w'.cell? ⟨g_s, 2, none⟩ = some (.slice B_s m_s d_s) ∧ w'.cell? ⟨g_x, 0, none⟩ = some (.bool s_x) ∧ w'.cell? ⟨g_x, 1, none⟩ = some (.slice A_x n_x c_x) ∧ w'.cell? ⟨g_x, 2, none⟩ = some (.slice B_x m_x d_x) ∧ w'.cell? ⟨g_y, 0, none⟩ = some (.bool s_y) ∧ w'.cell? ⟨g_y, 1, none⟩ = some (.slice A_y n_y c_y) ∧ w'.cell? ⟨g_y, 2, none⟩ = some (.slice B_y m_y d_y))
    (first | with_reducible exact ⟨XA.c0, XA.c1, XA.c2, XA.c3, XA.c4, XA.c5, XB.c0, XB.c1, XB.c2, XB.c3, XB.c4, XB.c5, XC.c0, XC.c1, XC.c2, XS.c0, XS.c1, XS.c2, XX.c0, XX.c1, XX.c2, XY.c0, XY.c1, XY.c2⟩)
    (first
    | (go_at_call 81; (with_reducible refine (pdot_p p p (by decide) (by decide) (by decide)).mono ?_); rintro e w_e1 ⟨s_e1, A_e1, n_e1, c_e1, B_e1, m_e1, d_e1, rfl, e1, hh⟩
       try replace p := p.below hh
       try replace q := q.below hh
       try replace XA := XA.below hh
       try replace XB := XB.below hh
       try replace c := c.below hh
       try replace XC := XC.below hh
       try replace s := s.below hh
       try replace XS := XS.below hh
       try replace x := x.below hh
       try replace y := y.below hh
       try replace XX := XX.below hh
       try replace XY := XY.below hh
       replace hb := bend hb hh)
    | (go_at_call 81; (with_reducible refine (pdot_p q q (by decide) (by decide) (by decide)).mono ?_); rintro e w_e2 ⟨s_e2, A_e2, n_e2, c_e2, B_e2, m_e2, d_e2, rfl, e2, hh⟩
       try replace p := p.below hh
       try replace q := q.below hh
       try replace XA := XA.below hh
       try replace XB := XB.below hh
       try replace c := c.below hh
       try replace XC := XC.below hh
       try replace s := s.below hh
       try replace XS := XS.below hh
       try replace x := x.below hh
       try replace y := y.below hh
       try replace XX := XX.below hh
       try replace XY := XY.below hh
       try replace e1 := e1.below hh
       replace hb := bend hb hh)
    | (go_at_call 26; (with_reducible refine (rmul_q e1.qr e2.qr (by decide) (by decide) (.inl (by decide)) (by decide) (by decide)).mono ?_); rintro e w_e3 ⟨s_e3, A_e3, n_e3, c_e3, B_e3, m_e3, d_e3, rfl, e3, hh⟩
       try replace p := p.below hh
       try replace q := q.below hh
       try replace XA := XA.below hh
       try replace XB := XB.below hh
       try replace c := c.below hh
       try replace XC := XC.below hh
       try replace s := s.below hh
       try replace XS := XS.below hh
       try replace x := x.below hh
       try replace y := y.below hh
       try replace XX := XX.below hh
       try replace XY := XY.below hh
       replace hb := bend hb hh
       clear e1 e2)
    | (go_at_call 28; (with_reducible refine (rcmp_q s.qr e3.qr (by decide) (by decide) (.inl (by decide)) (by decide) (by decide)).mono ?_); rintro e w_z ⟨rfl, hh⟩
       rw [H1.out]; clear e3
       try replace p := p.below hh
       try replace q := q.below hh
       try replace XA := XA.below hh
       try replace XB := XB.below hh
       try replace c := c.below hh
       try replace XC := XC.below hh
       try replace s := s.below hh
       try replace XS := XS.below hh
       try replace x := x.below hh
       try replace y := y.below hh
       try replace XX := XX.below hh
       try replace XY := XY.below hh
       replace hb := bend hb hh)
    | (go_at_call 90; (with_reducible refine (pfar_p p q (by decide) (by decide) (by decide)).mono ?_); rintro e w_f1 ⟨s_f1, A_f1, n_f1, c_f1, B_f1, m_f1, d_f1, rfl, f1, hh⟩
       try replace p := p.below hh
       try replace q := q.below hh
       try replace XA := XA.below hh
       try replace XB := XB.below hh
       try replace c := c.below hh
       try replace XC := XC.below hh
       try replace s := s.below hh
       try replace XS := XS.below hh
       try replace x := x.below hh
       try replace y := y.below hh
       try replace XX := XX.below hh
       try replace XY := XY.below hh
       replace hb := bend hb hh)
    | (go_at_call 26; (with_reducible refine (rmul_q x.qr x.qr (by decide) (by decide) (.inl (by decide)) (by decide) (by decide)).mono ?_); rintro e w_f2 ⟨s_f2, A_f2, n_f2, c_f2, B_f2, m_f2, d_f2, rfl, f2, hh⟩
       try replace p := p.below hh
       try replace q := q.below hh
       try replace XA := XA.below hh
       try replace XB := XB.below hh
       try replace c := c.below hh
       try replace XC := XC.below hh
       try replace s := s.below hh
       try replace XS := XS.below hh
       try replace x := x.below hh
       try replace y := y.below hh
       try replace XX := XX.below hh
       try replace XY := XY.below hh
       try replace f1 := f1.below hh
       replace hb := bend hb hh)
    | (go_at_call 26; (with_reducible refine (rmul_q y.qr y.qr (by decide) (by decide) (.inl (by decide)) (by decide) (by decide)).mono ?_); rintro e w_f3 ⟨s_f3, A_f3, n_f3, c_f3, B_f3, m_f3, d_f3, rfl, f3, hh⟩
       try replace p := p.below hh
       try replace q := q.below hh
       try replace XA := XA.below hh
       try replace XB := XB.below hh
       try replace c := c.below hh
       try replace XC := XC.below hh
       try replace s := s.below hh
       try replace XS := XS.below hh
       try replace x := x.below hh
       try replace y := y.below hh
       try replace XX := XX.below hh
       try replace XY := XY.below hh
       try replace f1 := f1.below hh
       try replace f2 := f2.below hh
       replace hb := bend hb hh)
    | (go_at_call 22; (with_reducible refine (radd_q f2.qr f3.qr (by decide) (by decide) (.inl (by decide)) (by decide) (by decide)).mono ?_); rintro e w_f4 ⟨s_f4, A_f4, n_f4, c_f4, B_f4, m_f4, d_f4, rfl, f4, hh⟩
       try replace p := p.below hh
       try replace q := q.below hh
       try replace XA := XA.below hh
       try replace XB := XB.below hh
       try replace c := c.below hh
       try replace XC := XC.below hh
       try replace s := s.below hh
       try replace XS := XS.below hh
       try replace x := x.below hh
       try replace y := y.below hh
       try replace XX := XX.below hh
       try replace XY := XY.below hh
       try replace f1 := f1.below hh
       replace hb := bend hb hh
       clear f2 f3)
    | (go_at_call 28; (with_reducible refine (rcmp_q f1.qr f4.qr (by decide) (by decide) (.inl (by decide)) (by decide) (by decide)).mono ?_); rintro e w_z ⟨rfl, hh⟩
       rw [H2.out]; clear f1 f4
       try replace p := p.below hh
       try replace q := q.below hh
       try replace XA := XA.below hh
       try replace XB := XB.below hh
       try replace c := c.below hh
       try replace XC := XC.below hh
       try replace s := s.below hh
       try replace XS := XS.below hh
       try replace x := x.below hh
       try replace y := y.below hh
       try replace XX := XX.below hh
       try replace XY := XY.below hh
       replace hb := bend hb hh)
    | (go_at_call 83; (with_reducible refine (pcross_p p p (by decide) (by decide) (by decide)).mono ?_); rintro e w_k1 ⟨s_k1, A_k1, n_k1, c_k1, B_k1, m_k1, d_k1, rfl, k1, hh⟩
       try replace p := p.below hh
       try replace q := q.below hh
       try replace XA := XA.below hh
       try replace XB := XB.below hh
       try replace c := c.below hh
       try replace XC := XC.below hh
       try replace s := s.below hh
       try replace XS := XS.below hh
       try replace x := x.below hh
       try replace y := y.below hh
       try replace XX := XX.below hh
       try replace XY := XY.below hh
       replace hb := bend hb hh)
    | (go_at_call 30; (with_reducible refine (rsign_q k1.qr (by decide) (by decide)).mono ?_); rintro e w_z ⟨rfl, hh⟩
       rw [H3.out]; clear k1
       try replace p := p.below hh
       try replace q := q.below hh
       try replace XA := XA.below hh
       try replace XB := XB.below hh
       try replace c := c.below hh
       try replace XC := XC.below hh
       try replace s := s.below hh
       try replace XS := XS.below hh
       try replace x := x.below hh
       try replace y := y.below hh
       try replace XX := XX.below hh
       try replace XY := XY.below hh
       replace hb := bend hb hh)
    | (go_at_call 83; (with_reducible refine (pcross_p q p (by decide) (by decide) (by decide)).mono ?_); rintro e w_k2 ⟨s_k2, A_k2, n_k2, c_k2, B_k2, m_k2, d_k2, rfl, k2, hh⟩
       try replace p := p.below hh
       try replace q := q.below hh
       try replace XA := XA.below hh
       try replace XB := XB.below hh
       try replace c := c.below hh
       try replace XC := XC.below hh
       try replace s := s.below hh
       try replace XS := XS.below hh
       try replace x := x.below hh
       try replace y := y.below hh
       try replace XX := XX.below hh
       try replace XY := XY.below hh
       replace hb := bend hb hh)
    | (go_at_call 31; (with_reducible refine (rneg_q c.qr (by decide) (by decide)).mono ?_); rintro e w_k3 ⟨s_k3, A_k3, n_k3, c_k3, B_k3, m_k3, d_k3, rfl, k3, hh⟩
       try replace p := p.below hh
       try replace q := q.below hh
       try replace XA := XA.below hh
       try replace XB := XB.below hh
       try replace c := c.below hh
       try replace XC := XC.below hh
       try replace s := s.below hh
       try replace XS := XS.below hh
       try replace x := x.below hh
       try replace y := y.below hh
       try replace XX := XX.below hh
       try replace XY := XY.below hh
       try replace k2 := k2.below hh
       replace hb := bend hb hh)
    | (go_at_call 28; (with_reducible refine (rcmp_q k2.qr k3.qr (by decide) (by decide) (.inl (by decide)) (by decide) (by decide)).mono ?_); rintro e w_z ⟨rfl, hh⟩
       rw [H4.out]; clear k2 k3
       try replace p := p.below hh
       try replace q := q.below hh
       try replace XA := XA.below hh
       try replace XB := XB.below hh
       try replace c := c.below hh
       try replace XC := XC.below hh
       try replace s := s.below hh
       try replace XS := XS.below hh
       try replace x := x.below hh
       try replace y := y.below hh
       try replace XX := XX.below hh
       try replace XY := XY.below hh
       replace hb := bend hb hh)
    | (go_at_call 73; (with_reducible refine (padd_p p q (by decide) (by decide) (.inl (by decide)) (by decide) (by decide)).mono ?_); rintro e w_v1 ⟨s_v1, A_v1, n_v1, c_v1, B_v1, m_v1, d_v1, t_v1, E_v1, i_v1, e_v1, F_v1, j_v1, f_v1, rfl, v1, hh⟩
       try replace p := p.below hh
       try replace q := q.below hh
       try replace XA := XA.below hh
       try replace XB := XB.below hh
       try replace c := c.below hh
       try replace XC := XC.below hh
       try replace s := s.below hh
       try replace XS := XS.below hh
       try replace x := x.below hh
       try replace y := y.below hh
       try replace XX := XX.below hh
       try replace XY := XY.below hh
       replace hb := bend hb hh)
    | (go_at_call 75; (with_reducible refine (psub_p v1.pr q (by decide) (by decide) (.inl (by decide)) (by decide) (by decide)).mono ?_); rintro e w_v2 ⟨s_v2, A_v2, n_v2, c_v2, B_v2, m_v2, d_v2, t_v2, E_v2, i_v2, e_v2, F_v2, j_v2, f_v2, rfl, v2, hh⟩
       try replace p := p.below hh
       try replace q := q.below hh
       try replace XA := XA.below hh
       try replace XB := XB.below hh
       try replace c := c.below hh
       try replace XC := XC.below hh
       try replace s := s.below hh
       try replace XS := XS.below hh
       try replace x := x.below hh
       try replace y := y.below hh
       try replace XX := XX.below hh
       try replace XY := XY.below hh
       replace hb := bend hb hh
       clear v1)
    | (go_at_call 85; (with_reducible refine (psame_p v2.pr p (by decide) (by decide) (by decide) (by decide) true H5.out).mono ?_); rintro e w_z ⟨rfl, hh⟩
       try replace p := p.below hh
       try replace q := q.below hh
       try replace XA := XA.below hh
       try replace XB := XB.below hh
       try replace c := c.below hh
       try replace XC := XC.below hh
       try replace s := s.below hh
       try replace XS := XS.below hh
       try replace x := x.below hh
       try replace y := y.below hh
       try replace XX := XX.below hh
       try replace XY := XY.below hh
       replace hb := bend hb hh
       clear v2)
    | (go_at_call 67; (with_reducible refine (pwakes_any _).mono ?_); rintro e w_z ⟨rfl, hh⟩
       try replace XA := XA.below hh
       try replace XB := XB.below hh
       try replace XC := XC.below hh
       try replace XS := XS.below hh
       try replace XX := XX.below hh
       try replace XY := XY.below hh
       replace hb := bend hb hh))
  go_wp2_with fail
  go_ret
  exact ⟨rfl, hb⟩
theorem law_squares {w : World} {s_p t_p : Bool} {A_p B_p E_p F_p : Option Addr} {n_p c_p m_p d_p i_p e_p j_p f_p : Nat} {s_q t_q : Bool} {A_q B_q E_q F_q : Option Addr} {n_q c_q m_q d_q i_q e_q j_q f_q : Nat} {lap lbp lcp ldp : List Nat} {laq lbq lcq ldq : List Nat} (ap : Rd .u64 w A_p n_p lap) (bp : Rd .u64 w B_p m_p lbp) (up : Rd .u64 w E_p i_p lcp) (vp : Rd .u64 w F_p j_p ldp) (tap : Lim B64 lap) (tbp : Lim B64 lbp) (tcp : Lim B64 lcp) (tdp : Lim B64 ldp) (cap : n_p ≤ c_p) (cbp : m_p ≤ d_p) (ccp : i_p ≤ e_p) (cdp : j_p ≤ f_p) (aq : Rd .u64 w A_q n_q laq) (bq : Rd .u64 w B_q m_q lbq) (uq : Rd .u64 w E_q i_q lcq) (vq : Rd .u64 w F_q j_q ldq) (taq : Lim B64 laq) (tbq : Lim B64 lbq) (tcq : Lim B64 lcq) (tdq : Lim B64 ldq) (caq : n_q ≤ c_q) (cbq : m_q ≤ d_q) (ccq : i_q ≤ e_q) (cdq : j_q ≤ f_q) :
    Calls Tryz.prog 13 #[.agg #[.bool s_p, .slice A_p n_p c_p, .slice B_p m_p d_p, .bool t_p, .slice E_p i_p e_p, .slice F_p j_p f_p], .agg #[.bool s_q, .slice A_q n_q c_q, .slice B_q m_q d_q, .bool t_q, .slice E_q i_q e_q, .slice F_q j_q f_q]] w fun e w' => e = .returned (.bool true) ∧ Below w.heap.size w w' := by
  by_cases h : (((n_p ≤ 6 ∧ m_p ≤ 6) ∧ i_p ≤ 6 ∧ j_p ≤ 6) ∧ ((n_q ≤ 6 ∧ m_q ≤ 6) ∧ i_q ≤ 6 ∧ j_q ≤ 6))
  · have p : PR w s_p A_p n_p c_p B_p m_p d_p t_p E_p i_p e_p F_p j_p f_p (mkRat (iv s_p (val B64 lap)) (den1 (val B64 lbp))) (mkRat (iv t_p (val B64 lcp)) (den1 (val B64 ldp))) 6 := ⟨QR.of_rd ap tap cap bp tbp cbp h.1.1.1 h.1.1.2, QR.of_rd up tcp ccp vp tdp cdp h.1.2.1 h.1.2.2⟩
    have q : PR w s_q A_q n_q c_q B_q m_q d_q t_q E_q i_q e_q F_q j_q f_q (mkRat (iv s_q (val B64 laq)) (den1 (val B64 lbq))) (mkRat (iv t_q (val B64 lcq)) (den1 (val B64 ldq))) 6 := ⟨QR.of_rd aq taq caq bq tbq cbq h.2.1.1 h.2.1.2, QR.of_rd uq tcq ccq vq tdq cdq h.2.2.1 h.2.2.2⟩
    exact squares_s p q h
  · exact squares_l h
end Go.Proofs.YtlkjkhpjhllapaaGreat
