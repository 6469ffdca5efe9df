/- PtReckons: part 19. -/
import Derived.Test.YtlkjkhpjhllapaaGreatKPtReckons16
import Derived.Test.YtlkjkhpjhllapaaGreatKPtReckons17
import Derived.Test.YtlkjkhpjhllapaaGreatKPtReckons18
set_option linter.unusedVariables false
namespace Go.Proofs.YtlkjkhpjhllapaaGreat
open Go Go.RowKit
def VRP (x y : Rat) (k : Nat) (v : Value) (w : World) : Prop := ∃ s A n c B m d t E i e F j f, v = .agg #[.bool s, .slice A n c, .slice B m d, .bool t, .slice E i e, .slice F j f] ∧ RP w s A n c B m d t E i e F j f x y k
theorem RP.box {T : TypeId} {w w' : World} {g : Nat} {cs : Array Value} {s t : Bool} {A B E F : Option Addr} {n c m d i e j f : Nat} {x y : Rat} {k : Nat} (h : RP w s A n c B m d t E i e F j f x y k) (Z : BoxAt T w g cs) (ho : Only g w w') : RP w' s A n c B m d t E i e F j f x y k := ⟨h.1.box Z ho, h.2.box Z ho⟩
theorem stays_rp (x y : Rat) (k : Nat) : Stays (VRP x y k) :=
  ⟨fun _ _ _ ⟨s, A, n, c, B, m, d, t, E, i, e, F, j, f, h1, h2⟩ hb => ⟨s, A, n, c, B, m, d, t, E, i, e, F, j, f, h1, h2.below hb⟩, fun _ _ _ _ _ _ ⟨s, A, n, c, B, m, d, t, E, i, e, F, j, f, h1, h2⟩ hB ho => ⟨s, A, n, c, B, m, d, t, E, i, e, F, j, f, h1, h2.box hB ho⟩⟩
theorem run_alloc7 {e1 : Operand → Value} {d1 : Option Tmp} {y1 : Nat} {pos : String} {af : Array Edge} {w : World} :
    (execOp e1 { dst := d1, op := Op.alloc 86, type := y1, pos := pos, after := af, guard := none }).run Tryz.prog w = .ok (.value (.pointer (some ⟨w.heap.size, 0, none⟩))) (w.alloc (.cells #[.bool false, .slice none 0 0, .slice none 0 0, .bool false, .slice none 0 0, .slice none 0 0] 86)) := by
  go_simp
theorem run_store7 {e1 : Operand → Value} {x1 z1 : Operand} {d1 : Option Tmp} {y1 g : Nat} {pos : String} {af : Array Edge} {w : World} {s t : Bool} {A B E F : Option Addr} {n c m d i e j f : Nat} {v0 v1 v2 v3 v4 v5 : Value} (h : e1 x1 = .pointer (some ⟨g, 0, none⟩)) (hz : e1 z1 = .agg #[.bool s, .slice A n c, .slice B m d, .bool t, .slice E i e, .slice F j f]) (Z : B6R w g v0 v1 v2 v3 v4 v5) :
    (execOp e1 { dst := d1, op := Op.store 86 x1 z1, type := y1, pos := pos, after := af, guard := none }).run Tryz.prog w = .ok .skip ((((((w.setCell ⟨g, 0, none⟩ (.bool s)).setCell ⟨g, 1, none⟩ (.slice A n c)).setCell ⟨g, 2, none⟩ (.slice B m d)).setCell ⟨g, 3, none⟩ (.bool t)).setCell ⟨g, 4, none⟩ (.slice E i e)).setCell ⟨g, 5, none⟩ (.slice F j f)) := by
  have c0 := Z.c0
  have c1 := Z.c1
  have c2 := Z.c2
  have c3 := Z.c3
  have c4 := Z.c4
  have c5 := Z.c5
  have f0 := Z.f0
  have f1 := Z.f1
  have f2 := Z.f2
  have f3 := Z.f3
  have f4 := Z.f4
  have f5 := Z.f5
  go_simp
theorem store_rp {ac : Act} {x1 z : Operand} {y1 g : Nat} {pos : String} {af : Array Edge} {w : World} {Q : Exit → Act → World → Prop} {x y : Rat} {k : Nat} (p1 : ac.eval x1 = .pointer (some ⟨g, 0, none⟩)) (h : VRP x y k (ac.eval z) w) (B : BoxAt 86 w g #[.bool false, .slice none 0 0, .slice none 0 0, .bool false, .slice none 0 0, .slice none 0 0]) :
    ({ dst := none, op := Op.store 86 x1 z, type := y1, pos := pos, after := af, guard := none } : Oper).wp Tryz.prog ac w (fun a'' w'' => a'' = ac ∧ Only g w w'' ∧ ∃ cs', BoxAt 86 w'' g cs' ∧ (fun cs w => ∃ s A n c B m d t E i e F j f, cs = #[.bool s, .slice A n c, .slice B m d, .bool t, .slice E i e, .slice F j f] ∧ RP w s A n c B m d t E i e F j f x y k) cs' w'') Q := by
  obtain ⟨s, A, n, c, B1, m, d, t, E, i, e, F, j, f, h1, h2⟩ := h
  have Z : B6R w g (.bool false) (.slice none 0 0) (.slice none 0 0) (.bool false) (.slice none 0 0) (.slice none 0 0) := B.at_
  unfold Oper.wp
  rw [run_store7 p1 h1 Z, Oper.upon_skip]
  have ho := ((((((Only.refl g w).setCell 0 (.bool s)).setCell 1 (.slice A n c)).setCell 2 (.slice B1 m d)).setCell 3 (.bool t)).setCell 4 (.slice E i e)).setCell 5 (.slice F j f)
  exact ⟨put_none ac undef, ho, #[.bool s, .slice A n c, .slice B1 m d, .bool t, .slice E i e, .slice F j f], ⟨Z.set6 _ _ _ _ _ _, free6 _ _ _ _ _ _ _ _ _ _ _ _ _ _⟩, s, A, n, c, B1, m, d, t, E, i, e, F, j, f, rfl, h2.box B ho⟩
theorem big_ex (x y : Rat) : ∃ K, x.num.natAbs < B64 ^ K ∧ x.den < B64 ^ K ∧ y.num.natAbs < B64 ^ K ∧ y.den < B64 ^ K := by
  have h : ∀ n m : Nat, n ≤ m → n < B64 ^ m := fun n m h => Nat.lt_of_lt_of_le (Nat.lt_pow_self (by decide)) (Nat.pow_le_pow_right (by decide) h)
  exact ⟨x.num.natAbs + x.den + (y.num.natAbs + y.den), h _ _ (by omega), h _ _ (by omega), h _ _ (by omega), h _ _ (by omega)⟩
theorem canon2 {s t : Bool} {l1 l2 l3 l4 : List Nat} (L1 : Lim B64 l1) (L2 : Lim B64 l2) (L3 : Lim B64 l3) (L4 : Lim B64 l4) {x y : Rat} (hx : x = mkRat (iv s (val B64 l1)) (den1 (val B64 l2))) (hy : y = mkRat (iv t (val B64 l3)) (den1 (val B64 l4))) :
    (((s == decide (x.num < 0) && decide (l1 = limbs B64 x.num.natAbs)) && decide (l2 = limbs B64 x.den)) && ((t == decide (y.num < 0) && decide (l3 = limbs B64 y.num.natAbs)) && decide (l4 = limbs B64 y.den))) = (canon s l1 l2 && canon t l3 l4) := by
  rw [canon_eq L1 L2 hx, canon_eq L3 L4 hy]
theorem same2_eq (a b : Bool) (l1 l2 l3 l4 : List Nat) : (((a == a && decide (l1 = l1)) && decide (l2 = l2)) && ((b == b && decide (l3 = l3)) && decide (l4 = l4))) = true := by simp
theorem pts_out {w : World} {k : Nat} {x y : Rat} {s_p t_p : Bool} {A_p B_p E_p F_p : Option Addr} {n_p c_p m_p d_p i_p e_p j_p f_p : Nat} {s_q t_q : Bool} {A_q B_q E_q F_q : Option Addr} {n_q c_q m_q d_q i_q e_q j_q f_q : Nat} {l1 l2 l3 l4 : List Nat} (p1 : Rd .u64 w A_p n_p l1) (p2 : Rd .u64 w B_p m_p l2) (p3 : Rd .u64 w E_p i_p l3) (p4 : Rd .u64 w F_p j_p l4) (q : PG w s_q A_q n_q c_q B_q m_q d_q t_q E_q i_q e_q F_q j_q f_q x y k) (hn : n_p ≤ maxLen ∧ m_p ≤ maxLen ∧ i_p ≤ maxLen ∧ j_p ≤ maxLen) (R : Bool) (hR : (((s_p == decide (x.num < 0) && decide (l1 = limbs B64 x.num.natAbs)) && decide (l2 = limbs B64 x.den)) && ((t_p == decide (y.num < 0) && decide (l3 = limbs B64 y.num.natAbs)) && decide (l4 = limbs B64 y.den))) = R) :
    Calls Tryz.prog 70 #[.agg #[.bool s_p, .slice A_p n_p c_p, .slice B_p m_p d_p, .bool t_p, .slice E_p i_p e_p, .slice F_p j_p f_p], .agg #[.bool s_q, .slice A_q n_q c_q, .slice B_q m_q d_q, .bool t_q, .slice E_q i_q e_q, .slice F_q j_q f_q]] w fun e w' => e = .returned (.bool R) ∧ Below w.heap.size w w' := by
  obtain rfl : s_q = decide (x.num < 0) := q.1.1.1
  obtain rfl : t_q = decide (y.num < 0) := q.2.1.1
  exact pts_any p1 p2 p3 p4 q.1.1.2.1 q.1.2.1 q.2.1.2.1 q.2.2.1 hn R hR
theorem rc_gesso_gessoref06_In {e : Operand → Value} {x0 : Operand} {d : Option Tmp} {y : Nat} {pos : String} {af : Array Edge} {w : World} {u0 : Value} (h0 : e x0 = u0) (hf : e (.func 68) = .func (.func 68) #[] #[]) :
    (execOp e { dst := d, op := Op.call { callee := Callee.value (Operand.func 68), args := #[x0], argTypes := #[83] }, type := y, pos := pos, after := af, guard := none }).run Tryz.prog w = .ok (.enter 68 #[u0]) w := by
  go_simp
theorem rc_gesso_gessoref03_In {e : Operand → Value} {x0 : Operand} {d : Option Tmp} {y : Nat} {pos : String} {af : Array Edge} {w : World} {u0 : Value} (h0 : e x0 = u0) (hf : e (.func 16) = .func (.func 16) #[] #[]) :
    (execOp e { dst := d, op := Op.call { callee := Callee.value (Operand.func 16), args := #[x0], argTypes := #[26] }, type := y, pos := pos, after := af, guard := none }).run Tryz.prog w = .ok (.enter 16 #[u0]) w := by
  go_simp
def F_pins (s_p : Bool) (t_p : Bool) (A_p : Option Addr) (B_p : Option Addr) (E_p : Option Addr) (F_p : Option Addr) (n_p : Nat) (c_p : Nat) (m_p : Nat) (d_p : Nat) (i_p : Nat) (e_p : Nat) (j_p : Nat) (f_p : Nat) (s_q : Bool) (t_q : Bool) (A_q : Option Addr) (B_q : Option Addr) (E_q : Option Addr) (F_q : Option Addr) (n_q : Nat) (c_q : Nat) (m_q : Nat) (d_q : Nat) (i_q : Nat) (e_q : Nat) (j_q : Nat) (f_q : Nat) (s : Bool) (A : Option Addr) (A' : Option Addr) (n : Nat) (c : Nat) (n' : Nat) (c' : Nat) (ax : Rat) (ay : Rat) (bx : Rat) (by_ : Rat) (kt : Rat) (sl : Nat) : Value → World → Prop :=
  match sl with
  | 23 => fun x _ => x = Value.agg #[.bool s_p, .slice A_p n_p c_p, .slice B_p m_p d_p, .bool t_p, .slice E_p i_p e_p, .slice F_p j_p f_p]
  | 24 => VRP (ax) (ay) (2 * 6)
  | 25 => fun x _ => x = Value.agg #[.bool s_q, .slice A_q n_q c_q, .slice B_q m_q d_q, .bool t_q, .slice E_q i_q e_q, .slice F_q j_q f_q]
  | 26 => VRP (bx) (by_) (2 * 6)
  | 27 => fun x _ => x = Value.agg #[.bool s, .slice A n c, .slice A' n' c']
  | 28 => VRQ (kt) (2 * 6)
  | _ => fun _ _ => True
def B0_pins (ax : Rat) (ay : Rat) : BoxOp :=
  ⟨6, 9, 7, 86, #[.bool false, .slice none 0 0, .slice none 0 0, .bool false, .slice none 0 0, .slice none 0 0], fun cs w => ∃ s A n c B m d t E i e F j f, cs = #[.bool s, .slice A n c, .slice B m d, .bool t, .slice E i e, .slice F j f] ∧ RP w s A n c B m d t E i e F j f (ax) (ay) (2 * 6)⟩
def B1_pins (bx : Rat) (by_ : Rat) : BoxOp :=
  ⟨7, 10, 8, 86, #[.bool false, .slice none 0 0, .slice none 0 0, .bool false, .slice none 0 0, .slice none 0 0], fun cs w => ∃ s A n c B m d t E i e F j f, cs = #[.bool s, .slice A n c, .slice B m d, .bool t, .slice E i e, .slice F j f] ∧ RP w s A n c B m d t E i e F j f (bx) (by_) (2 * 6)⟩
def B2_pins (kt : Rat) : BoxOp :=
  ⟨8, 11, 9, 34, #[.bool false, .slice none 0 0, .slice none 0 0], fun cs w => ∃ s A n c B m d, cs = #[.bool s, .slice A n c, .slice B m d] ∧ RQ w s A n c B m d (kt) (2 * 6)⟩
set_option maxRecDepth 100000 in
set_option maxHeartbeats 4000000 in
theorem pins_region {id : Nat} {ac : Act} {w : World} {Q : Exit → Act → World → Prop} {s_p t_p : Bool} {A_p B_p E_p F_p : Option Addr} {n_p c_p m_p d_p i_p e_p j_p f_p : Nat} {s_q t_q : Bool} {A_q B_q E_q F_q : Option Addr} {n_q c_q m_q d_q i_q e_q j_q f_q : Nat} {s : Bool} {A A' : Option Addr} {n c n' c' : Nat} {ax ay bx by_ kt : Rat} {gp gq gk : Nat}
    (hsz : 28 < ac.tmps.size) (e3 : ac.eval (.tmp 3) = Value.pointer (some ⟨gp, 0, none⟩)) (e4 : ac.eval (.tmp 4) = Value.pointer (some ⟨gq, 0, none⟩)) (e5 : ac.eval (.tmp 5) = Value.pointer (some ⟨gk, 0, none⟩)) (XA : B6 w gp (.bool s_p) (.slice A_p n_p c_p) (.slice B_p m_p d_p) (.bool t_p) (.slice E_p i_p e_p) (.slice F_p j_p f_p)) (XB : B6 w gq (.bool s_q) (.slice A_q n_q c_q) (.slice B_q m_q d_q) (.bool t_q) (.slice E_q i_q e_q) (.slice F_q j_q f_q)) (XK : B3 w gk (.bool s) (.slice A n c) (.slice A' n' c')) (p : PR w s_p A_p n_p c_p B_p m_p d_p t_p E_p i_p e_p F_p j_p f_p ax ay 6) (q : PR w s_q A_q n_q c_q B_q m_q d_q t_q E_q i_q e_q F_q j_q f_q bx by_ 6) (v : QR w s A n c A' n' c' kt 6)
    (hend : ∀ (V : Nat → Value) (w' : World) (g0 : Nat) (s0 : Bool) (A0 : Option Addr) (n0 : Nat) (c0 : Nat) (B0 : Option Addr) (m0 : Nat) (d0 : Nat) (t0 : Bool) (E0 : Option Addr) (i0 : Nat) (e0 : Nat) (F0 : Option Addr) (j0 : Nat) (f0 : Nat) (g1 : Nat) (s1 : Bool) (A1 : Option Addr) (n1 : Nat) (c1 : Nat) (B1 : Option Addr) (m1 : Nat) (d1 : Nat) (t1 : Bool) (E1 : Option Addr) (i1 : Nat) (e1 : Nat) (F1 : Option Addr) (j1 : Nat) (f1 : Nat) (g2 : Nat) (s2 : Bool) (A2 : Option Addr) (n2 : Nat) (c2 : Nat) (B2 : Option Addr) (m2 : Nat) (d2 : Nat), RP w' s0 A0 n0 c0 B0 m0 d0 t0 E0 i0 e0 F0 j0 f0 (ax) (ay) (2 * 6) → B6R w' g0 (.bool s0) (.slice A0 n0 c0) (.slice B0 m0 d0) (.bool t0) (.slice E0 i0 e0) (.slice F0 j0 f0) → w.heap.size ≤ g0 → V 7 = .pointer (some ⟨g0, 0, none⟩) → RP w' s1 A1 n1 c1 B1 m1 d1 t1 E1 i1 e1 F1 j1 f1 (bx) (by_) (2 * 6) → B6R w' g1 (.bool s1) (.slice A1 n1 c1) (.slice B1 m1 d1) (.bool t1) (.slice E1 i1 e1) (.slice F1 j1 f1) → w.heap.size ≤ g1 → V 8 = .pointer (some ⟨g1, 0, none⟩) → RQ w' s2 A2 n2 c2 B2 m2 d2 (kt) (2 * 6) → B3R w' g2 (.bool s2) (.slice A2 n2 c2) (.slice B2 m2 d2) → w.heap.size ≤ g2 → V 9 = .pointer (some ⟨g2, 0, none⟩) → g1 ≠ g0 → g2 ≠ g0 → g2 ≠ g1 → Below w.heap.size w w' → Q .normal (putAll ac [23, 24, 25, 26, 27, 28, 7, 8, 9] V) w') :
    (Code.region id #[{ dst := some 23, op := Op.load 83 (Operand.tmp 3), type := 83, pos := "law.go:35", after := #[], guard := none },
      { dst := some 24, op := Op.call { callee := Callee.value (Operand.func 68), args := #[Operand.tmp 23], argTypes := #[83] }, type := 86, pos := "law.go:35", after := #[{ on := 0, ground := Ground.data }], guard := none },
      { dst := some 25, op := Op.load 83 (Operand.tmp 4), type := 83, pos := "law.go:35", after := #[], guard := none },
      { dst := some 26, op := Op.call { callee := Callee.value (Operand.func 68), args := #[Operand.tmp 25], argTypes := #[83] }, type := 86, pos := "law.go:35", after := #[{ on := 2, ground := Ground.data }, { on := 1, ground := Ground.chain }], guard := none },
      { dst := some 27, op := Op.load 26 (Operand.tmp 5), type := 26, pos := "law.go:35", after := #[], guard := none },
      { dst := some 28, op := Op.call { callee := Callee.value (Operand.func 16), args := #[Operand.tmp 27], argTypes := #[26] }, type := 34, pos := "law.go:35", after := #[{ on := 4, ground := Ground.data }, { on := 3, ground := Ground.chain }], guard := none },
      { dst := some 7, op := Op.alloc 86, type := 0, pos := "law.go:35", after := #[], guard := none },
      { dst := some 8, op := Op.alloc 86, type := 0, pos := "law.go:35", after := #[], guard := none },
      { dst := some 9, op := Op.alloc 34, type := 0, pos := "law.go:35", after := #[], guard := none },
      { dst := none, op := Op.store 86 (Operand.tmp 7) (Operand.tmp 24), type := 0, pos := "law.go:35", after := #[{ on := 6, ground := Ground.data }, { on := 1, ground := Ground.data }, { on := 5, ground := Ground.chain }, { on := 0, ground := Ground.phase }, { on := 1, ground := Ground.phase }, { on := 2, ground := Ground.textOnly Departure.lateStores }, { on := 3, ground := Ground.textOnly Departure.lateStoresUnsure }, { on := 4, ground := Ground.textOnly Departure.lateStores }, { on := 5, ground := Ground.textOnly Departure.lateStoresUnsure }, { on := 6, ground := Ground.phase }, { on := 7, ground := Ground.phase }, { on := 8, ground := Ground.phase }], guard := none },
      { dst := none, op := Op.store 86 (Operand.tmp 8) (Operand.tmp 26), type := 0, pos := "law.go:35", after := #[{ on := 7, ground := Ground.data }, { on := 3, ground := Ground.data }, { on := 9, ground := Ground.chain }, { on := 0, ground := Ground.phase }, { on := 1, ground := Ground.phase }, { on := 2, ground := Ground.phase }, { on := 3, ground := Ground.phase }, { on := 4, ground := Ground.textOnly Departure.lateStores }, { on := 5, ground := Ground.textOnly Departure.lateStoresUnsure }, { on := 6, ground := Ground.phase }, { on := 7, ground := Ground.phase }, { on := 8, ground := Ground.phase }, { on := 9, ground := Ground.phase }], guard := none },
      { dst := none, op := Op.store 34 (Operand.tmp 9) (Operand.tmp 28), type := 0, pos := "law.go:35", after := #[{ on := 8, ground := Ground.data }, { on := 5, ground := Ground.data }, { on := 10, ground := Ground.chain }, { on := 0, ground := Ground.phase }, { on := 1, ground := Ground.phase }, { on := 2, ground := Ground.phase }, { on := 3, ground := Ground.phase }, { on := 4, ground := Ground.phase }, { on := 5, ground := Ground.phase }, { on := 6, ground := Ground.phase }, { on := 7, ground := Ground.phase }, { on := 8, ground := Ground.phase }, { on := 9, ground := Ground.phase }, { on := 10, ground := Ground.phase }], guard := none }] true).wp Tryz.prog Q ac w := by
  have hnd : ([23, 24, 25, 26, 27, 28, 7, 8, 9] : List Nat).Nodup := by decide
  have G : ∀ (sv : Nat → Value) (t : Nat), t ∈ ([23, 24, 25, 26, 27, 28, 7, 8, 9] : List Nat) → t ≤ 28 → (putAll ac [23, 24, 25, 26, 27, 28, 7, 8, 9] sv).eval (.tmp t) = sv t := fun sv t ht h => eval_putAll_mem (t := t) [23, 24, 25, 26, 27, 28, 7, 8, 9] ac hnd ht (Nat.lt_of_le_of_lt h hsz)
  have E3 : ∀ sv : Nat → Value, (putAll ac [23, 24, 25, 26, 27, 28, 7, 8, 9] sv).eval (.tmp 3) = Value.pointer (some ⟨gp, 0, none⟩) := fun sv => (eval_putAll_not (v := sv) [23, 24, 25, 26, 27, 28, 7, 8, 9] ac (show 3 ∉ _ by decide)).trans e3
  have E4 : ∀ sv : Nat → Value, (putAll ac [23, 24, 25, 26, 27, 28, 7, 8, 9] sv).eval (.tmp 4) = Value.pointer (some ⟨gq, 0, none⟩) := fun sv => (eval_putAll_not (v := sv) [23, 24, 25, 26, 27, 28, 7, 8, 9] ac (show 4 ∉ _ by decide)).trans e4
  have E5 : ∀ sv : Nat → Value, (putAll ac [23, 24, 25, 26, 27, 28, 7, 8, 9] sv).eval (.tmp 5) = Value.pointer (some ⟨gk, 0, none⟩) := fun sv => (eval_putAll_not (v := sv) [23, 24, 25, 26, 27, 28, 7, 8, 9] ac (show 5 ∉ _ by decide)).trans e5
  have NE : ∀ t : Nat, (t ≠ 7 ∧ t ≠ 8 ∧ t ≠ 9) → ∀ p ∈ [B0_pins ax ay, B1_pins bx by_, B2_pins kt], t ≠ p.tA := by
    intro t ht p hp
    simp only [List.mem_cons, List.not_mem_nil, or_false] at hp
    rcases hp with rfl | rfl | rfl
    · exact ht.1
    · exact ht.2.1
    · exact ht.2.2
  refine wp_region_flows [23, 24, 25, 26, 27, 28, 7, 8, 9] [B0_pins ax ay, B1_pins bx by_, B2_pins kt] (F_pins s_p t_p A_p B_p E_p F_p n_p c_p m_p d_p i_p e_p j_p f_p s_q t_q A_q B_q E_q F_q n_q c_q m_q d_q i_q e_q j_q f_q s A A' n c n' c' ax ay bx by_ kt) (by kernel_rfl) (by kernel_rfl) rfl hnd ?_ ?_ ?_ ?_ ?_ ?_ ?_ ?_
  · intro p hp
    simp only [List.mem_cons, List.not_mem_nil, or_false] at hp
    rcases hp with rfl | rfl | rfl
    · refine ⟨⟨{ dst := some 7, op := Op.alloc 86, type := 0, pos := "law.go:35", after := #[], guard := none }, rfl, rfl, rfl, fun e w' => run_alloc7⟩, ⟨{ dst := none, op := Op.store 86 (Operand.tmp 7) (Operand.tmp 24), type := 0, pos := "law.go:35", after := #[{ on := 6, ground := Ground.data }, { on := 1, ground := Ground.data }, { on := 5, ground := Ground.chain }, { on := 0, ground := Ground.phase }, { on := 1, ground := Ground.phase }, { on := 2, ground := Ground.textOnly Departure.lateStores }, { on := 3, ground := Ground.textOnly Departure.lateStoresUnsure }, { on := 4, ground := Ground.textOnly Departure.lateStores }, { on := 5, ground := Ground.textOnly Departure.lateStoresUnsure }, { on := 6, ground := Ground.phase }, { on := 7, ground := Ground.phase }, { on := 8, ground := Ground.phase }], guard := none }, rfl, rfl, rfl, { on := 6, ground := Ground.data }, by simp, rfl, rfl⟩, free6 _ _ _ _ _ _ _ _ _ _ _ _ _ _, ?_, ?_⟩
      · rintro cs w1 w2 ⟨s_, A_, n_, c_, B_, m_, d_, t_, E_, i_, e_, F_, j_, f_, rfl, h⟩ hb; exact ⟨s_, A_, n_, c_, B_, m_, d_, t_, E_, i_, e_, F_, j_, f_, rfl, h.below hb⟩
      · rintro T cs w1 w2 g c0 ⟨s_, A_, n_, c_, B_, m_, d_, t_, E_, i_, e_, F_, j_, f_, rfl, h⟩ hB ho; exact ⟨s_, A_, n_, c_, B_, m_, d_, t_, E_, i_, e_, F_, j_, f_, rfl, h.box hB ho⟩
    · refine ⟨⟨{ dst := some 8, op := Op.alloc 86, type := 0, pos := "law.go:35", after := #[], guard := none }, rfl, rfl, rfl, fun e w' => run_alloc7⟩, ⟨{ dst := none, op := Op.store 86 (Operand.tmp 8) (Operand.tmp 26), type := 0, pos := "law.go:35", after := #[{ on := 7, ground := Ground.data }, { on := 3, ground := Ground.data }, { on := 9, ground := Ground.chain }, { on := 0, ground := Ground.phase }, { on := 1, ground := Ground.phase }, { on := 2, ground := Ground.phase }, { on := 3, ground := Ground.phase }, { on := 4, ground := Ground.textOnly Departure.lateStores }, { on := 5, ground := Ground.textOnly Departure.lateStoresUnsure }, { on := 6, ground := Ground.phase }, { on := 7, ground := Ground.phase }, { on := 8, ground := Ground.phase }, { on := 9, ground := Ground.phase }], guard := none }, rfl, rfl, rfl, { on := 7, ground := Ground.data }, by simp, rfl, rfl⟩, free6 _ _ _ _ _ _ _ _ _ _ _ _ _ _, ?_, ?_⟩
      · rintro cs w1 w2 ⟨s_, A_, n_, c_, B_, m_, d_, t_, E_, i_, e_, F_, j_, f_, rfl, h⟩ hb; exact ⟨s_, A_, n_, c_, B_, m_, d_, t_, E_, i_, e_, F_, j_, f_, rfl, h.below hb⟩
      · rintro T cs w1 w2 g c0 ⟨s_, A_, n_, c_, B_, m_, d_, t_, E_, i_, e_, F_, j_, f_, rfl, h⟩ hB ho; exact ⟨s_, A_, n_, c_, B_, m_, d_, t_, E_, i_, e_, F_, j_, f_, rfl, h.box hB ho⟩
    · refine ⟨⟨{ dst := some 9, op := Op.alloc 34, type := 0, pos := "law.go:35", after := #[], guard := none }, rfl, rfl, rfl, fun e w' => run_alloc3⟩, ⟨{ dst := none, op := Op.store 34 (Operand.tmp 9) (Operand.tmp 28), type := 0, pos := "law.go:35", after := #[{ on := 8, ground := Ground.data }, { on := 5, ground := Ground.data }, { on := 10, ground := Ground.chain }, { on := 0, ground := Ground.phase }, { on := 1, ground := Ground.phase }, { on := 2, ground := Ground.phase }, { on := 3, ground := Ground.phase }, { on := 4, ground := Ground.phase }, { on := 5, ground := Ground.phase }, { on := 6, ground := Ground.phase }, { on := 7, ground := Ground.phase }, { on := 8, ground := Ground.phase }, { on := 9, ground := Ground.phase }, { on := 10, ground := Ground.phase }], guard := none }, rfl, rfl, rfl, { on := 8, ground := Ground.data }, by simp, rfl, rfl⟩, free3 _ _ _ _ _ _ _, ?_, ?_⟩
      · rintro cs w1 w2 ⟨s_, A_, n_, c_, B_, m_, d_, rfl, h⟩ hb; exact ⟨s_, A_, n_, c_, B_, m_, d_, rfl, h.below hb⟩
      · rintro T cs w1 w2 g c0 ⟨s_, A_, n_, c_, B_, m_, d_, rfl, h⟩ hB ho; exact ⟨s_, A_, n_, c_, B_, m_, d_, rfl, h.box hB ho⟩
  · intro p hp q hq h
    simp only [List.mem_cons, List.not_mem_nil, or_false] at hp hq
    rcases hp with rfl | rfl | rfl <;> rcases hq with rfl | rfl | rfl
    · rfl
    · exact absurd (show (7 : Nat) = 8 from h) (by decide)
    · exact absurd (show (7 : Nat) = 9 from h) (by decide)
    · exact absurd (show (8 : Nat) = 7 from h) (by decide)
    · rfl
    · exact absurd (show (8 : Nat) = 9 from h) (by decide)
    · exact absurd (show (9 : Nat) = 7 from h) (by decide)
    · exact absurd (show (9 : Nat) = 8 from h) (by decide)
    · rfl
  · intro p hp q hq h
    simp only [List.mem_cons, List.not_mem_nil, or_false] at hp hq
    rcases hp with rfl | rfl | rfl <;> rcases hq with rfl | rfl | rfl
    · rfl
    · exact absurd (show (9 : Nat) = 10 from h) (by decide)
    · exact absurd (show (9 : Nat) = 11 from h) (by decide)
    · exact absurd (show (10 : Nat) = 9 from h) (by decide)
    · rfl
    · exact absurd (show (10 : Nat) = 11 from h) (by decide)
    · exact absurd (show (11 : Nat) = 9 from h) (by decide)
    · exact absurd (show (11 : Nat) = 10 from h) (by decide)
    · rfl
  · intro i o h1 h2
    match i, h1 with
    | 0, h1 => cases h1; cases h2
    | 1, h1 => cases h1; cases h2
    | 2, h1 => cases h1; cases h2
    | 3, h1 => cases h1; cases h2
    | 4, h1 => cases h1; cases h2
    | 5, h1 => cases h1; cases h2
    | 6, h1 => cases h1; cases h2
    | 7, h1 => cases h1; cases h2
    | 8, h1 => cases h1; cases h2
    | 9, h1 => exact ⟨B0_pins ax ay, List.Mem.head _, rfl⟩
    | 10, h1 => exact ⟨B1_pins bx by_, List.Mem.tail _ (List.Mem.head _), rfl⟩
    | 11, h1 => exact ⟨B2_pins kt, List.Mem.tail _ (List.Mem.tail _ (List.Mem.head _)), rfl⟩
    | i + 12, h1 => cases h1
  · intro t
    unfold F_pins
    split <;> first | exact stays_eq _ | exact stays_q _ _ | exact stays_z _ _ | exact stays_r _ _ | exact stays_rq _ _ | exact stays_pg _ _ _ | exact stays_rp _ _ _ | exact stays_true
  · intro i o t sv w' ho hia hd J0 hf
    have p := p.below J0
    have q := q.below J0
    have v := v.below J0
    have XA := XA.below J0
    have XB := XB.below J0
    have XK := XK.below J0
    match i, ho with
    | 0, ho =>
      obtain rfl : { dst := some 23, op := Op.load 83 (Operand.tmp 3), type := 83, pos := "law.go:35", after := #[], guard := none } = o := Option.some.inj ho
      cases hd
      refine wpOp_plain' (o := { dst := some 23, op := Op.load 83 (Operand.tmp 3), type := 83, pos := "law.go:35", after := #[], guard := none }) rfl rfl ?_
      unfold Oper.wp
      rw [run_load6 (E3 sv) XA.c0 XA.c1 XA.c2 XA.c3 XA.c4 XA.c5, Oper.upon_value]
      exact ⟨_, rfl, Below.refl _ _, rfl⟩
    | 1, ho =>
      obtain rfl : { dst := some 24, op := Op.call { callee := Callee.value (Operand.func 68), args := #[Operand.tmp 23], argTypes := #[83] }, type := 86, pos := "law.go:35", after := #[{ on := 0, ground := Ground.data }], guard := none } = o := Option.some.inj ho
      cases hd
      have f23 : sv 23 = Value.agg #[.bool s_p, .slice A_p n_p c_p, .slice B_p m_p d_p, .bool t_p, .slice E_p i_p e_p, .slice F_p j_p f_p] := hf { on := 0, ground := Ground.data } (by simp) rfl _ 23 rfl rfl (NE _ (by decide))
      refine wpOp_plain' (o := { dst := some 24, op := Op.call { callee := Callee.value (Operand.func 68), args := #[Operand.tmp 23], argTypes := #[83] }, type := 86, pos := "law.go:35", after := #[{ on := 0, ground := Ground.data }], guard := none }) rfl rfl ?_
      unfold Oper.wp
      rw [rc_gesso_gessoref06_In ((G sv 23 (by decide) (by decide)).trans f23) rfl, Oper.upon_enter]
      refine (rin6 p (by decide) (by decide)).mono ?_
      rintro e w1 ⟨s_, A_, n_, c_, B_, m_, d_, t_, E_, i_, e_, F_, j_, f_, rfl, hq, hh⟩
      exact ⟨_, rfl, hh, s_, A_, n_, c_, B_, m_, d_, t_, E_, i_, e_, F_, j_, f_, rfl, hq⟩
    | 2, ho =>
      obtain rfl : { dst := some 25, op := Op.load 83 (Operand.tmp 4), type := 83, pos := "law.go:35", after := #[], guard := none } = o := Option.some.inj ho
      cases hd
      refine wpOp_plain' (o := { dst := some 25, op := Op.load 83 (Operand.tmp 4), type := 83, pos := "law.go:35", after := #[], guard := none }) rfl rfl ?_
      unfold Oper.wp
      rw [run_load6 (E4 sv) XB.c0 XB.c1 XB.c2 XB.c3 XB.c4 XB.c5, Oper.upon_value]
      exact ⟨_, rfl, Below.refl _ _, rfl⟩
    | 3, ho =>
      obtain rfl : { dst := some 26, op := Op.call { callee := Callee.value (Operand.func 68), args := #[Operand.tmp 25], argTypes := #[83] }, type := 86, pos := "law.go:35", after := #[{ on := 2, ground := Ground.data }, { on := 1, ground := Ground.chain }], guard := none } = o := Option.some.inj ho
      cases hd
      have f25 : sv 25 = Value.agg #[.bool s_q, .slice A_q n_q c_q, .slice B_q m_q d_q, .bool t_q, .slice E_q i_q e_q, .slice F_q j_q f_q] := hf { on := 2, ground := Ground.data } (by simp) rfl _ 25 rfl rfl (NE _ (by decide))
      refine wpOp_plain' (o := { dst := some 26, op := Op.call { callee := Callee.value (Operand.func 68), args := #[Operand.tmp 25], argTypes := #[83] }, type := 86, pos := "law.go:35", after := #[{ on := 2, ground := Ground.data }, { on := 1, ground := Ground.chain }], guard := none }) rfl rfl ?_
      unfold Oper.wp
      rw [rc_gesso_gessoref06_In ((G sv 25 (by decide) (by decide)).trans f25) rfl, Oper.upon_enter]
      refine (rin6 q (by decide) (by decide)).mono ?_
      rintro e w1 ⟨s_, A_, n_, c_, B_, m_, d_, t_, E_, i_, e_, F_, j_, f_, rfl, hq, hh⟩
      exact ⟨_, rfl, hh, s_, A_, n_, c_, B_, m_, d_, t_, E_, i_, e_, F_, j_, f_, rfl, hq⟩
    | 4, ho =>
      obtain rfl : { dst := some 27, op := Op.load 26 (Operand.tmp 5), type := 26, pos := "law.go:35", after := #[], guard := none } = o := Option.some.inj ho
      cases hd
      refine wpOp_plain' (o := { dst := some 27, op := Op.load 26 (Operand.tmp 5), type := 26, pos := "law.go:35", after := #[], guard := none }) rfl rfl ?_
      unfold Oper.wp
      rw [run_loadQ (E5 sv) XK.c0 XK.c1 XK.c2, Oper.upon_value]
      exact ⟨_, rfl, Below.refl _ _, rfl⟩
    | 5, ho =>
      obtain rfl : { dst := some 28, op := Op.call { callee := Callee.value (Operand.func 16), args := #[Operand.tmp 27], argTypes := #[26] }, type := 34, pos := "law.go:35", after := #[{ on := 4, ground := Ground.data }, { on := 3, ground := Ground.chain }], guard := none } = o := Option.some.inj ho
      cases hd
      have f27 : sv 27 = Value.agg #[.bool s, .slice A n c, .slice A' n' c'] := hf { on := 4, ground := Ground.data } (by simp) rfl _ 27 rfl rfl (NE _ (by decide))
      refine wpOp_plain' (o := { dst := some 28, op := Op.call { callee := Callee.value (Operand.func 16), args := #[Operand.tmp 27], argTypes := #[26] }, type := 34, pos := "law.go:35", after := #[{ on := 4, ground := Ground.data }, { on := 3, ground := Ground.chain }], guard := none }) rfl rfl ?_
      unfold Oper.wp
      rw [rc_gesso_gessoref03_In ((G sv 27 (by decide) (by decide)).trans f27) rfl, Oper.upon_enter]
      refine (rin3 v (by decide) (by decide)).mono ?_
      rintro e w1 ⟨s_, A_, n_, c_, B_, m_, d_, rfl, hq, hh⟩
      exact ⟨_, rfl, hh, s_, A_, n_, c_, B_, m_, d_, rfl, hq⟩
    | 6, ho => cases ho; cases hd; exact absurd rfl (hia (B0_pins ax ay) (List.Mem.head _))
    | 7, ho => cases ho; cases hd; exact absurd rfl (hia (B1_pins bx by_) (List.Mem.tail _ (List.Mem.head _)))
    | 8, ho => cases ho; cases hd; exact absurd rfl (hia (B2_pins kt) (List.Mem.tail _ (List.Mem.tail _ (List.Mem.head _))))
    | 9, ho => cases ho; cases hd
    | 10, ho => cases ho; cases hd
    | 11, ho => cases ho; cases hd
    | i + 12, ho => cases ho
  · intro p hp os sv w' g hos J0 p1 p3 hf
    simp only [List.mem_cons, List.not_mem_nil, or_false] at hp
    rcases hp with rfl | rfl | rfl
    · obtain rfl : { dst := none, op := Op.store 86 (Operand.tmp 7) (Operand.tmp 24), type := 0, pos := "law.go:35", after := #[{ on := 6, ground := Ground.data }, { on := 1, ground := Ground.data }, { on := 5, ground := Ground.chain }, { on := 0, ground := Ground.phase }, { on := 1, ground := Ground.phase }, { on := 2, ground := Ground.textOnly Departure.lateStores }, { on := 3, ground := Ground.textOnly Departure.lateStoresUnsure }, { on := 4, ground := Ground.textOnly Departure.lateStores }, { on := 5, ground := Ground.textOnly Departure.lateStoresUnsure }, { on := 6, ground := Ground.phase }, { on := 7, ground := Ground.phase }, { on := 8, ground := Ground.phase }], guard := none } = os := Option.some.inj hos
      have h1 : VRP (ax) (ay) (2 * 6) (sv 24) w' := hf { on := 1, ground := Ground.data } (by simp) rfl _ 24 rfl rfl (NE _ (by decide))
      rw [← G sv 24 (by decide) (by decide)] at h1
      refine store_rp (x := ax) (y := ay) (k := 2 * 6) (ac := putAll ac [23, 24, 25, 26, 27, 28, 7, 8, 9] sv) (z := Operand.tmp 24) ?_ ?_ ?_
      · exact (G sv 7 (by decide) (by decide)).trans p1
      · exact h1
      · exact p3
    · obtain rfl : { dst := none, op := Op.store 86 (Operand.tmp 8) (Operand.tmp 26), type := 0, pos := "law.go:35", after := #[{ on := 7, ground := Ground.data }, { on := 3, ground := Ground.data }, { on := 9, ground := Ground.chain }, { on := 0, ground := Ground.phase }, { on := 1, ground := Ground.phase }, { on := 2, ground := Ground.phase }, { on := 3, ground := Ground.phase }, { on := 4, ground := Ground.textOnly Departure.lateStores }, { on := 5, ground := Ground.textOnly Departure.lateStoresUnsure }, { on := 6, ground := Ground.phase }, { on := 7, ground := Ground.phase }, { on := 8, ground := Ground.phase }, { on := 9, ground := Ground.phase }], guard := none } = os := Option.some.inj hos
      have h1 : VRP (bx) (by_) (2 * 6) (sv 26) w' := hf { on := 3, ground := Ground.data } (by simp) rfl _ 26 rfl rfl (NE _ (by decide))
      rw [← G sv 26 (by decide) (by decide)] at h1
      refine store_rp (x := bx) (y := by_) (k := 2 * 6) (ac := putAll ac [23, 24, 25, 26, 27, 28, 7, 8, 9] sv) (z := Operand.tmp 26) ?_ ?_ ?_
      · exact (G sv 8 (by decide) (by decide)).trans p1
      · exact h1
      · exact p3
    · obtain rfl : { dst := none, op := Op.store 34 (Operand.tmp 9) (Operand.tmp 28), type := 0, pos := "law.go:35", after := #[{ on := 8, ground := Ground.data }, { on := 5, ground := Ground.data }, { on := 10, ground := Ground.chain }, { on := 0, ground := Ground.phase }, { on := 1, ground := Ground.phase }, { on := 2, ground := Ground.phase }, { on := 3, ground := Ground.phase }, { on := 4, ground := Ground.phase }, { on := 5, ground := Ground.phase }, { on := 6, ground := Ground.phase }, { on := 7, ground := Ground.phase }, { on := 8, ground := Ground.phase }, { on := 9, ground := Ground.phase }, { on := 10, ground := Ground.phase }], guard := none } = os := Option.some.inj hos
      have h1 : VRQ (kt) (2 * 6) (sv 28) w' := hf { on := 5, ground := Ground.data } (by simp) rfl _ 28 rfl rfl (NE _ (by decide))
      rw [← G sv 28 (by decide) (by decide)] at h1
      refine store_rq (V := kt) (k := 2 * 6) (ac := putAll ac [23, 24, 25, 26, 27, 28, 7, 8, 9] sv) (z := Operand.tmp 28) ?_ ?_ ?_
      · exact (G sv 9 (by decide) (by decide)).trans p1
      · exact h1
      · exact p3
  · intro sv w' J0 hF hB hap
    obtain ⟨g0, cs0, p0, r0, b0, ⟨s0, A0, n0, c0, B0, m0, d0, t0, E0, i0, e0, F0, j0, f0, rfl, h0⟩⟩ := hB (B0_pins ax ay) (List.Mem.head _)
    obtain ⟨g1, cs1, p1, r1, b1, ⟨s1, A1, n1, c1, B1, m1, d1, t1, E1, i1, e1, F1, j1, f1, rfl, h1⟩⟩ := hB (B1_pins bx by_) (List.Mem.tail _ (List.Mem.head _))
    obtain ⟨g2, cs2, p2, r2, b2, ⟨s2, A2, n2, c2, B2, m2, d2, rfl, h2⟩⟩ := hB (B2_pins kt) (List.Mem.tail _ (List.Mem.tail _ (List.Mem.head _)))
    have p0' : sv 7 = .pointer (some ⟨g0, 0, none⟩) := p0
    have p1' : sv 8 = .pointer (some ⟨g1, 0, none⟩) := p1
    have p2' : sv 9 = .pointer (some ⟨g2, 0, none⟩) := p2
    exact hend sv w' g0 _ _ _ _ _ _ _ _ _ _ _ _ _ _ g1 _ _ _ _ _ _ _ _ _ _ _ _ _ _ g2 _ _ _ _ _ _ _ h0 b0.at_ r0 p0' h1 b1.at_ r1 p1' h2 b2.at_ r2 p2' (fun q => hap (B1_pins bx by_) (List.Mem.tail _ (List.Mem.head _)) (B0_pins ax ay) (List.Mem.head _) (show (8 : Nat) ≠ 7 by decide) (by rw [show (B1_pins bx by_).tA = 8 from rfl, show (B0_pins ax ay).tA = 7 from rfl, p1', p0', q])) (fun q => hap (B2_pins kt) (List.Mem.tail _ (List.Mem.tail _ (List.Mem.head _))) (B0_pins ax ay) (List.Mem.head _) (show (9 : Nat) ≠ 7 by decide) (by rw [show (B2_pins kt).tA = 9 from rfl, show (B0_pins ax ay).tA = 7 from rfl, p2', p0', q])) (fun q => hap (B2_pins kt) (List.Mem.tail _ (List.Mem.tail _ (List.Mem.head _))) (B1_pins bx by_) (List.Mem.tail _ (List.Mem.head _)) (show (9 : Nat) ≠ 8 by decide) (by rw [show (B2_pins kt).tA = 9 from rfl, show (B1_pins bx by_).tA = 8 from rfl, p2', p1', q]))  J0
set_option maxRecDepth 100000 in
set_option maxHeartbeats 4000000 in
theorem reckp_l {w : World} {s_p t_p : Bool} {A_p B_p E_p F_p : Option Addr} {n_p c_p m_p d_p i_p e_p j_p f_p : Nat} {s_q t_q : Bool} {A_q B_q E_q F_q : Option Addr} {n_q c_q m_q d_q i_q e_q j_q f_q : Nat} {s : Bool} {A A' : Option Addr} {n c n' c' : Nat} (h : ¬ (((n_p ≤ 6 ∧ m_p ≤ 6) ∧ i_p ≤ 6 ∧ j_p ≤ 6) ∧ ((n_q ≤ 6 ∧ m_q ≤ 6) ∧ i_q ≤ 6 ∧ j_q ≤ 6))) :
    Calls Tryz.prog 9 #[.agg #[.bool s_p, .slice A_p n_p c_p, .slice B_p m_p d_p, .bool t_p, .slice E_p i_p e_p, .slice F_p j_p f_p], .agg #[.bool s_q, .slice A_q n_q c_q, .slice B_q m_q d_q, .bool t_q, .slice E_q i_q e_q, .slice F_q j_q f_q], .agg #[.bool s, .slice A n c, .slice A' n' c']] w fun e w' => e = .returned (.bool true) ∧ Below w.heap.size w w' := by
  have HL : Hid (decide (((n_p ≤ 6 ∧ m_p ≤ 6) ∧ i_p ≤ 6 ∧ j_p ≤ 6) ∧ ((n_q ≤ 6 ∧ m_q ≤ 6) ∧ i_q ≤ 6 ∧ j_q ≤ 6)) = false) := decide_eq_false h
  clear h
  go_enter Tryz.func9, Tryz.ntmps9
  go_wp2_with fail
  generalize hW : ((((w.alloc (Obj.cells #[Value.bool s_p, Value.slice A_p n_p c_p, Value.slice B_p m_p d_p, Value.bool t_p, Value.slice E_p i_p e_p, Value.slice F_p j_p f_p] 83)).alloc (Obj.cells #[Value.bool s_q, Value.slice A_q n_q c_q, Value.slice B_q m_q d_q, Value.bool t_q, Value.slice E_q i_q e_q, Value.slice F_q j_q f_q] 83)).alloc (Obj.cells #[Value.bool s, Value.slice A n c, Value.slice A' n' c'] 26)).alloc (Obj.cells #[Value.bool s_p, Value.slice A_p n_p c_p, Value.slice B_p m_p d_p, Value.bool t_p, Value.slice E_p i_p e_p, Value.slice F_p j_p f_p, Value.bool s_q, Value.slice A_q n_q c_q, Value.slice B_q m_q d_q, Value.bool t_q, Value.slice E_q i_q e_q, Value.slice F_q j_q f_q] 83)) = W
  have hb : Below w.heap.size w W := by subst hW; exact (((((Below.refl _ _).alloc (Nat.le_refl _) _).alloc (by simp) _).alloc (by simp; omega) _).alloc (by simp; omega) _)
  have XA : B6 W (w.heap.size) (Value.bool s_p) (Value.slice A_p n_p c_p) (Value.slice B_p m_p d_p) (Value.bool t_p) (Value.slice E_p i_p e_p) (Value.slice F_p j_p f_p) := by subst hW; exact (((B6.new' _ _ _ _ _ _ _ _ rfl).alloc _).alloc _).alloc _
  have XB : B6 W (w.heap.size + 1) (Value.bool s_q) (Value.slice A_q n_q c_q) (Value.slice B_q m_q d_q) (Value.bool t_q) (Value.slice E_q i_q e_q) (Value.slice F_q j_q f_q) := by subst hW; exact ((B6.new' _ _ _ _ _ _ _ _ (by simp)).alloc _).alloc _
  have XK : B3 W (w.heap.size + 1 + 1) (Value.bool s) (Value.slice A n c) (Value.slice A' n' c') := by subst hW; exact (B3.new' _ _ _ _ _ (by simp)).alloc _
  have XL : BL2 W (w.heap.size + 1 + 1 + 1) (Value.bool s_p) (Value.slice A_p n_p c_p) (Value.slice B_p m_p d_p) (Value.bool t_p) (Value.slice E_p i_p e_p) (Value.slice F_p j_p f_p) (Value.bool s_q) (Value.slice A_q n_q c_q) (Value.slice B_q m_q d_q) (Value.bool t_q) (Value.slice E_q i_q e_q) (Value.slice F_q j_q f_q) := by subst hW; exact BL2.new' _ _ _ _ _ _ _ _ _ _ _ _ _ _ (by simp)
  have hzW : W.heap.size = w.heap.size + 4 := by subst hW; simp
  clear hW
  go_wp2_with (first
      | (go_at_call 66; (with_reducible refine (fair2 XL false HL.out).mono ?_); rintro e w_z ⟨rfl, hh⟩
         replace hb := bend hb hh)
      | (go_at_call 67; (with_reducible refine (pwakes_any _).mono ?_); rintro e w_z ⟨rfl, hh⟩
         replace hb := bend hb hh))
  go_ret
  exact ⟨rfl, hb⟩
set_option maxRecDepth 100000 in
set_option maxHeartbeats 4000000 in
theorem reckp_m {w : World} {s_p t_p : Bool} {A_p B_p E_p F_p : Option Addr} {n_p c_p m_p d_p i_p e_p j_p f_p : Nat} {s_q t_q : Bool} {A_q B_q E_q F_q : Option Addr} {n_q c_q m_q d_q i_q e_q j_q f_q : Nat} {s : Bool} {A A' : Option Addr} {n c n' c' : Nat} (h : (((n_p ≤ 6 ∧ m_p ≤ 6) ∧ i_p ≤ 6 ∧ j_p ≤ 6) ∧ ((n_q ≤ 6 ∧ m_q ≤ 6) ∧ i_q ≤ 6 ∧ j_q ≤ 6))) (h2 : ¬ (n ≤ 6 ∧ n' ≤ 6)) :
    Calls Tryz.prog 9 #[.agg #[.bool s_p, .slice A_p n_p c_p, .slice B_p m_p d_p, .bool t_p, .slice E_p i_p e_p, .slice F_p j_p f_p], .agg #[.bool s_q, .slice A_q n_q c_q, .slice B_q m_q d_q, .bool t_q, .slice E_q i_q e_q, .slice F_q j_q f_q], .agg #[.bool s, .slice A n c, .slice A' n' c']] w fun e w' => e = .returned (.bool true) ∧ Below w.heap.size w w' := by
  have HL : Hid (decide (((n_p ≤ 6 ∧ m_p ≤ 6) ∧ i_p ≤ 6 ∧ j_p ≤ 6) ∧ ((n_q ≤ 6 ∧ m_q ≤ 6) ∧ i_q ≤ 6 ∧ j_q ≤ 6)) = true) := decide_eq_true h
  have HM : Hid (decide (n ≤ 6 ∧ n' ≤ 6) = false) := decide_eq_false h2
  clear h h2
  go_enter Tryz.func9, Tryz.ntmps9
  go_wp2_with fail
  generalize hW : ((((w.alloc (Obj.cells #[Value.bool s_p, Value.slice A_p n_p c_p, Value.slice B_p m_p d_p, Value.bool t_p, Value.slice E_p i_p e_p, Value.slice F_p j_p f_p] 83)).alloc (Obj.cells #[Value.bool s_q, Value.slice A_q n_q c_q, Value.slice B_q m_q d_q, Value.bool t_q, Value.slice E_q i_q e_q, Value.slice F_q j_q f_q] 83)).alloc (Obj.cells #[Value.bool s, Value.slice A n c, Value.slice A' n' c'] 26)).alloc (Obj.cells #[Value.bool s_p, Value.slice A_p n_p c_p, Value.slice B_p m_p d_p, Value.bool t_p, Value.slice E_p i_p e_p, Value.slice F_p j_p f_p, Value.bool s_q, Value.slice A_q n_q c_q, Value.slice B_q m_q d_q, Value.bool t_q, Value.slice E_q i_q e_q, Value.slice F_q j_q f_q] 83)) = W
  have hb : Below w.heap.size w W := by subst hW; exact (((((Below.refl _ _).alloc (Nat.le_refl _) _).alloc (by simp) _).alloc (by simp; omega) _).alloc (by simp; omega) _)
  have XA : B6 W (w.heap.size) (Value.bool s_p) (Value.slice A_p n_p c_p) (Value.slice B_p m_p d_p) (Value.bool t_p) (Value.slice E_p i_p e_p) (Value.slice F_p j_p f_p) := by subst hW; exact (((B6.new' _ _ _ _ _ _ _ _ rfl).alloc _).alloc _).alloc _
  have XB : B6 W (w.heap.size + 1) (Value.bool s_q) (Value.slice A_q n_q c_q) (Value.slice B_q m_q d_q) (Value.bool t_q) (Value.slice E_q i_q e_q) (Value.slice F_q j_q f_q) := by subst hW; exact ((B6.new' _ _ _ _ _ _ _ _ (by simp)).alloc _).alloc _
  have XK : B3 W (w.heap.size + 1 + 1) (Value.bool s) (Value.slice A n c) (Value.slice A' n' c') := by subst hW; exact (B3.new' _ _ _ _ _ (by simp)).alloc _
  have XL : BL2 W (w.heap.size + 1 + 1 + 1) (Value.bool s_p) (Value.slice A_p n_p c_p) (Value.slice B_p m_p d_p) (Value.bool t_p) (Value.slice E_p i_p e_p) (Value.slice F_p j_p f_p) (Value.bool s_q) (Value.slice A_q n_q c_q) (Value.slice B_q m_q d_q) (Value.bool t_q) (Value.slice E_q i_q e_q) (Value.slice F_q j_q f_q) := by subst hW; exact BL2.new' _ _ _ _ _ _ _ _ _ _ _ _ _ _ (by simp)
  have hzW : W.heap.size = w.heap.size + 4 := by subst hW; simp
  clear hW
  have xk0 := XK.c0
  have xk1 := XK.c1
  have xk2 := XK.c2
  go_wp2_with (first
      | (go_at_call 66; (with_reducible refine (fair2 XL true HL.out).mono ?_); rintro e w_z ⟨rfl, hh⟩
         clear XL
         try replace XK := XK.below hh
         replace hb := bend hb hh
         have xk0 := XK.c0
         have xk1 := XK.c1
         have xk2 := XK.c2)
      | (go_at_call 46; (with_reducible refine (small_6 (s := s) (A := A) (n := n) (c := c) (A' := A') (n' := n') (c' := c') _ false HM.out).mono ?_); rintro e w_z ⟨rfl, hh⟩
         replace hb := bend hb hh)
      | (go_at_call 67; (with_reducible refine (pwakes_any _).mono ?_); rintro e w_z ⟨rfl, hh⟩
         replace hb := bend hb hh))
  go_ret
  exact ⟨rfl, hb⟩
set_option maxRecDepth 100000 in
set_option maxHeartbeats 16000000 in
theorem reckp_s {w : World} {s_p t_p : Bool} {A_p B_p E_p F_p : Option Addr} {n_p c_p m_p d_p i_p e_p j_p f_p : Nat} {s_q t_q : Bool} {A_q B_q E_q F_q : Option Addr} {n_q c_q m_q d_q i_q e_q j_q f_q : Nat} {s : Bool} {A A' : Option Addr} {n c n' c' : Nat} {l1 l2 l3 l4 : List Nat} {ax ay bx by_ kt : Rat} (r1 : Rd .u64 w A_p n_p l1) (r2 : Rd .u64 w B_p m_p l2) (r3 : Rd .u64 w E_p i_p l3) (r4 : Rd .u64 w F_p j_p l4) (L1 : Lim B64 l1) (L2 : Lim B64 l2) (L3 : Lim B64 l3) (L4 : Lim B64 l4) (e1 : n_p ≤ c_p) (e2 : m_p ≤ d_p) (e3 : i_p ≤ e_p) (e4 : j_p ≤ f_p) (q : PR w s_q A_q n_q c_q B_q m_q d_q t_q E_q i_q e_q F_q j_q f_q bx by_ 6) (v : QR w s A n c A' n' c' kt 6) (h : (((n_p ≤ 6 ∧ m_p ≤ 6) ∧ i_p ≤ 6 ∧ j_p ≤ 6) ∧ ((n_q ≤ 6 ∧ m_q ≤ 6) ∧ i_q ≤ 6 ∧ j_q ≤ 6))) (h2 : n ≤ 6 ∧ n' ≤ 6) (z1 : A_p = none → c_p = 0) (z2 : B_p = none → d_p = 0) (z3 : E_p = none → e_p = 0) (z4 : F_p = none → f_p = 0) (hvx : ax = mkRat (iv s_p (val B64 l1)) (den1 (val B64 l2))) (hvy : ay = mkRat (iv t_p (val B64 l3)) (den1 (val B64 l4))) (R : Bool) (hR : (canon s_p l1 l2 && canon t_p l3 l4) = R) (M : Bool) (hM : decide (ax = bx ∧ ay = by_) = M) :
    Calls Tryz.prog 9 #[.agg #[.bool s_p, .slice A_p n_p c_p, .slice B_p m_p d_p, .bool t_p, .slice E_p i_p e_p, .slice F_p j_p f_p], .agg #[.bool s_q, .slice A_q n_q c_q, .slice B_q m_q d_q, .bool t_q, .slice E_q i_q e_q, .slice F_q j_q f_q], .agg #[.bool s, .slice A n c, .slice A' n' c']] w fun e w' => e = .returned (.bool true) ∧ Below w.heap.size w w' := by
  have p : PR w s_p A_p n_p c_p B_p m_p d_p t_p E_p i_p e_p F_p j_p f_p ax ay 6 := by rw [hvx, hvy]; exact ⟨QR.of_rd r1 L1 e1 r2 L2 e2 h.1.1.1 h.1.1.2, QR.of_rd r3 L3 e3 r4 L4 e4 h.1.2.1 h.1.2.2⟩
  have HL : Hid (decide (((n_p ≤ 6 ∧ m_p ≤ 6) ∧ i_p ≤ 6 ∧ j_p ≤ 6) ∧ ((n_q ≤ 6 ∧ m_q ≤ 6) ∧ i_q ≤ 6 ∧ j_q ≤ 6)) = true) := decide_eq_true h
  have HS : Hid (decide (n ≤ 6 ∧ n' ≤ 6) = true) := decide_eq_true h2
  have HR := Lib.hid hR
  have HM := Lib.hid hM
  have HV : Hid (ax = mkRat (iv s_p (val B64 l1)) (den1 (val B64 l2)) ∧ ay = mkRat (iv t_p (val B64 l3)) (den1 (val B64 l4))) := ⟨hvx, hvy⟩
  have HC : Hid ((((s_p == decide (ax.num < 0) && decide (l1 = limbs B64 ax.num.natAbs)) && decide (l2 = limbs B64 ax.den)) && ((t_p == decide (ay.num < 0) && decide (l3 = limbs B64 ay.num.natAbs)) && decide (l4 = limbs B64 ay.den))) = R) := (canon2 L1 L2 L3 L4 hvx hvy).trans hR
  obtain ⟨K, hK⟩ := big_ex ax ay
  have HK := Lib.hid hK
  have HB : Hid (Lim B64 l1 ∧ Lim B64 l2 ∧ Lim B64 l3 ∧ Lim B64 l4) := ⟨L1, L2, L3, L4⟩
  have HZ : Hid ((A_p = none → c_p = 0) ∧ (B_p = none → d_p = 0) ∧ (E_p = none → e_p = 0) ∧ (F_p = none → f_p = 0)) := ⟨z1, z2, z3, z4⟩
  have HN : Hid (n_p ≤ 100000 ∧ m_p ≤ 100000 ∧ i_p ≤ 100000 ∧ j_p ≤ 100000) := by show _ ∧ _; omega
  have HE : Hid (l1.length ≤ 6 ∧ l2.length ≤ 6 ∧ l3.length ≤ 6 ∧ l4.length ≤ 6) := by show _ ∧ _; have := r1.1; have := r2.1; have := r3.1; have := r4.1; omega
  have HX : Hid (n_p ≤ maxLen ∧ m_p ≤ maxLen ∧ i_p ≤ maxLen ∧ j_p ≤ maxLen) := by show _ ∧ _; unfold maxLen; omega
  clear h h2 hR hM hvx hvy hK L1 L2 L3 L4 z1 z2 z3 z4 e1 e2 e3 e4
  go_enter Tryz.func9, Tryz.ntmps9
  go_wp2_with fail
  generalize hW : ((((w.alloc (Obj.cells #[Value.bool s_p, Value.slice A_p n_p c_p, Value.slice B_p m_p d_p, Value.bool t_p, Value.slice E_p i_p e_p, Value.slice F_p j_p f_p] 83)).alloc (Obj.cells #[Value.bool s_q, Value.slice A_q n_q c_q, Value.slice B_q m_q d_q, Value.bool t_q, Value.slice E_q i_q e_q, Value.slice F_q j_q f_q] 83)).alloc (Obj.cells #[Value.bool s, Value.slice A n c, Value.slice A' n' c'] 26)).alloc (Obj.cells #[Value.bool s_p, Value.slice A_p n_p c_p, Value.slice B_p m_p d_p, Value.bool t_p, Value.slice E_p i_p e_p, Value.slice F_p j_p f_p, Value.bool s_q, Value.slice A_q n_q c_q, Value.slice B_q m_q d_q, Value.bool t_q, Value.slice E_q i_q e_q, Value.slice F_q j_q f_q] 83)) = W
  have hb : Below w.heap.size w W := by subst hW; exact (((((Below.refl _ _).alloc (Nat.le_refl _) _).alloc (by simp) _).alloc (by simp; omega) _).alloc (by simp; omega) _)
  have XA : B6 W (w.heap.size) (Value.bool s_p) (Value.slice A_p n_p c_p) (Value.slice B_p m_p d_p) (Value.bool t_p) (Value.slice E_p i_p e_p) (Value.slice F_p j_p f_p) := by subst hW; exact (((B6.new' _ _ _ _ _ _ _ _ rfl).alloc _).alloc _).alloc _
  have XB : B6 W (w.heap.size + 1) (Value.bool s_q) (Value.slice A_q n_q c_q) (Value.slice B_q m_q d_q) (Value.bool t_q) (Value.slice E_q i_q e_q) (Value.slice F_q j_q f_q) := by subst hW; exact ((B6.new' _ _ _ _ _ _ _ _ (by simp)).alloc _).alloc _
  have XK : B3 W (w.heap.size + 1 + 1) (Value.bool s) (Value.slice A n c) (Value.slice A' n' c') := by subst hW; exact (B3.new' _ _ _ _ _ (by simp)).alloc _
  have XL : BL2 W (w.heap.size + 1 + 1 + 1) (Value.bool s_p) (Value.slice A_p n_p c_p) (Value.slice B_p m_p d_p) (Value.bool t_p) (Value.slice E_p i_p e_p) (Value.slice F_p j_p f_p) (Value.bool s_q) (Value.slice A_q n_q c_q) (Value.slice B_q m_q d_q) (Value.bool t_q) (Value.slice E_q i_q e_q) (Value.slice F_q j_q f_q) := by subst hW; exact BL2.new' _ _ _ _ _ _ _ _ _ _ _ _ _ _ (by simp)
  have hzW : W.heap.size = w.heap.size + 4 := by subst hW; simp
  clear hW
  replace p := p.below hb
  replace q := q.below hb
  replace v := v.below hb
  replace r1 := r1.below hb
  replace r2 := r2.below hb
  replace r3 := r3.below hb
  replace r4 := r4.below hb
  have xa0 := XA.c0
  have xa1 := XA.c1
  have xa2 := XA.c2
  have xa3 := XA.c3
  have xa4 := XA.c4
  have xa5 := XA.c5
  have xb0 := XB.c0
  have xb1 := XB.c1
  have xb2 := XB.c2
  have xb3 := XB.c3
  have xb4 := XB.c4
  have xb5 := XB.c5
  have xk0 := XK.c0
  have xk1 := XK.c1
  have xk2 := XK.c2
  go_upto_region 3 with (first
      | (go_at_call 66; (with_reducible refine (fair2 XL true HL.out).mono ?_); rintro e w_z ⟨rfl, hh⟩
         clear XL
         try replace p := p.below hh
         try replace q := q.below hh
         try replace v := v.below hh
         try replace r1 := r1.below hh
         try replace r2 := r2.below hh
         try replace r3 := r3.below hh
         try replace r4 := r4.below hh
         try replace XA := XA.below hh
         try replace XB := XB.below hh
         try replace XK := XK.below hh
         replace hb := bend hb hh
         have xa0 := XA.c0
         have xa1 := XA.c1
         have xa2 := XA.c2
         have xa3 := XA.c3
         have xa4 := XA.c4
         have xa5 := XA.c5
         have xb0 := XB.c0
         have xb1 := XB.c1
         have xb2 := XB.c2
         have xb3 := XB.c3
         have xb4 := XB.c4
         have xb5 := XB.c5
         have xk0 := XK.c0
         have xk1 := XK.c1
         have xk2 := XK.c2)
      | (go_at_call 46; (with_reducible refine (small_6 (s := s) (A := A) (n := n) (c := c) (A' := A') (n' := n') (c' := c') _ true HS.out).mono ?_); rintro e w_z ⟨rfl, hh⟩
         try replace p := p.below hh
         try replace q := q.below hh
         try replace v := v.below hh
         try replace r1 := r1.below hh
         try replace r2 := r2.below hh
         try replace r3 := r3.below hh
         try replace r4 := r4.below hh
         try replace XA := XA.below hh
         try replace XB := XB.below hh
         try replace XK := XK.below hh
         replace hb := bend hb hh
         have xa0 := XA.c0
         have xa1 := XA.c1
         have xa2 := XA.c2
         have xa3 := XA.c3
         have xa4 := XA.c4
         have xa5 := XA.c5
         have xb0 := XB.c0
         have xb1 := XB.c1
         have xb2 := XB.c2
         have xb3 := XB.c3
         have xb4 := XB.c4
         have xb5 := XB.c5
         have xk0 := XK.c0
         have xk1 := XK.c1
         have xk2 := XK.c2))
  refine pins_region (by simp) rfl rfl rfl XA XB XK p q v ?_
  intro V1 w_b g_x s_x A_x n_x c_x B_x m_x d_x t_x E_x i_x e_x F_x j_x f_x g_y s_y A_y n_y c_y B_y m_y d_y t_y E_y i_y e_y F_y j_y f_y g_t s_u A_u n_u c_u B_u m_u d_u x X7 hg_x hvx y Y7 hg_y hvy t T3 hg_t hvt hne hne2 hne3 hh
  simp only [putAll, Act.put, List.setIfInBounds_toArray, List.set_cons_zero, List.set_cons_succ, hvx, hvy, hvt]
  clear hvx hvy hvt
  replace p := p.below hh
  replace q := q.below hh
  replace v := v.below hh
  replace r1 := r1.below hh
  replace r2 := r2.below hh
  replace r3 := r3.below hh
  replace r4 := r4.below hh
  replace XA := XA.below hh
  replace XB := XB.below hh
  replace XK := XK.below hh
  replace hb := bend hb hh
  have xa0 := XA.c0
  have xa1 := XA.c1
  have xa2 := XA.c2
  have xa3 := XA.c3
  have xa4 := XA.c4
  have xa5 := XA.c5
  have xb0 := XB.c0
  have xb1 := XB.c1
  have xb2 := XB.c2
  have xb3 := XB.c3
  have xb4 := XB.c4
  have xb5 := XB.c5
  have xk0 := XK.c0
  have xk1 := XK.c1
  have xk2 := XK.c2
  have x70 := X7.c0
  have x71 := X7.c1
  have x72 := X7.c2
  have x73 := X7.c3
  have x74 := X7.c4
  have x75 := X7.c5
  have y70 := Y7.c0
  have y71 := Y7.c1
  have y72 := Y7.c2
  have y73 := Y7.c3
  have y74 := Y7.c4
  have y75 := Y7.c5
  have t30 := T3.c0
  have t31 := T3.c1
  have t32 := T3.c2
  go_upto_region 5 with (first
      | (go_at_call 69; (with_reducible refine (keepPt_any r1 r2 r3 r4 HZ.out.1 HZ.out.2.1 HZ.out.2.2.1 HZ.out.2.2.2 HN.out).mono ?_); rintro e w_i ⟨A_i, n_i, c_i, B_i, m_i, d_i, E_i, i_i, e_i, F_i, j_i, f_i, rfl, ⟨i1, ic1⟩, ⟨i2, ic2⟩, ⟨i3, ic3⟩, ⟨i4, ic4⟩, hh⟩
         try replace p := p.below hh
         try replace q := q.below hh
         try replace v := v.below hh
         try replace r1 := r1.below hh
         try replace r2 := r2.below hh
         try replace r3 := r3.below hh
         try replace r4 := r4.below hh
         try replace x := x.below hh
         try replace y := y.below hh
         try replace t := t.below hh
         try replace XA := XA.below hh
         try replace XB := XB.below hh
         try replace XK := XK.below hh
         try replace X7 := X7.below hh
         try replace Y7 := Y7.below hh
         try replace T3 := T3.below hh
         replace hb := bend hb hh
         have xa0 := XA.c0
         have xa1 := XA.c1
         have xa2 := XA.c2
         have xa3 := XA.c3
         have xa4 := XA.c4
         have xa5 := XA.c5
         have xb0 := XB.c0
         have xb1 := XB.c1
         have xb2 := XB.c2
         have xb3 := XB.c3
         have xb4 := XB.c4
         have xb5 := XB.c5
         have xk0 := XK.c0
         have xk1 := XK.c1
         have xk2 := XK.c2
         have x70 := X7.c0
         have x71 := X7.c1
         have x72 := X7.c2
         have x73 := X7.c3
         have x74 := X7.c4
         have x75 := X7.c5
         have y70 := Y7.c0
         have y71 := Y7.c1
         have y72 := Y7.c2
         have y73 := Y7.c3
         have y74 := Y7.c4
         have y75 := Y7.c5
         have t30 := T3.c0
         have t31 := T3.c1
         have t32 := T3.c2))
  have HI : Hid ((n_i ≤ 6 ∧ m_i ≤ 6 ∧ i_i ≤ 6 ∧ j_i ≤ 6) ∧ (n_i ≤ 900 ∧ m_i ≤ 900 ∧ i_i ≤ 900 ∧ j_i ≤ 900) ∧ (n_i ≤ maxLen ∧ m_i ≤ maxLen ∧ i_i ≤ maxLen ∧ j_i ≤ maxLen)) := by
    show _ ∧ _ ∧ _
    have f1 := i1.1
    have f2 := i2.1
    have f3 := i3.1
    have f4 := i4.1
    have := HE.out
    unfold maxLen; omega
  have i : PR w_i s_p A_i n_i c_i B_i m_i d_i t_p E_i i_i e_i F_i j_i f_i ax ay 6 := by
    rw [HV.out.1, HV.out.2]
    exact ⟨QR.of_rd i1 HB.out.1 ic1 i2 HB.out.2.1 ic2 HI.out.1.1 HI.out.1.2.1, QR.of_rd i3 HB.out.2.2.1 ic3 i4 HB.out.2.2.2 ic4 HI.out.1.2.2.1 HI.out.1.2.2.2⟩
  have HIC : Hid (n_i ≤ c_i ∧ m_i ≤ d_i ∧ i_i ≤ e_i ∧ j_i ≤ f_i) := ⟨ic1, ic2, ic3, ic4⟩
  clear ic1 ic2 ic3 ic4 HV
  generalize hW : (w_i.alloc (Obj.cells #[Value.bool s_p, Value.slice A_i n_i c_i, Value.slice B_i m_i d_i, Value.bool t_p, Value.slice E_i i_i e_i, Value.slice F_i j_i f_i] 83)) = W2
  have hh : Below w_i.heap.size w_i W2 := by subst hW; exact ((Below.refl _ _).alloc (Nat.le_refl _) _)
  have XI : B6 W2 (w_i.heap.size) (Value.bool s_p) (Value.slice A_i n_i c_i) (Value.slice B_i m_i d_i) (Value.bool t_p) (Value.slice E_i i_i e_i) (Value.slice F_i j_i f_i) := by subst hW; exact B6.new' _ _ _ _ _ _ _ _ rfl
  have hzW2 : W2.heap.size = w_i.heap.size + 1 := by subst hW; simp
  clear hW
  try replace i := i.below hh
  try replace i1 := i1.below hh
  try replace i2 := i2.below hh
  try replace i3 := i3.below hh
  try replace i4 := i4.below hh
  try replace p := p.below hh
  try replace q := q.below hh
  try replace v := v.below hh
  try replace r1 := r1.below hh
  try replace r2 := r2.below hh
  try replace r3 := r3.below hh
  try replace r4 := r4.below hh
  try replace x := x.below hh
  try replace y := y.below hh
  try replace t := t.below hh
  try replace XA := XA.below hh
  try replace XB := XB.below hh
  try replace XK := XK.below hh
  try replace X7 := X7.below hh
  try replace Y7 := Y7.below hh
  try replace T3 := T3.below hh
  replace hb := bend hb hh
  clear p
  replace i := i.below (Below.refl _ _).drew
  replace i1 := i1.below (Below.refl _ _).drew
  replace i2 := i2.below (Below.refl _ _).drew
  replace i3 := i3.below (Below.refl _ _).drew
  replace i4 := i4.below (Below.refl _ _).drew
  replace q := q.below (Below.refl _ _).drew
  replace v := v.below (Below.refl _ _).drew
  replace r1 := r1.below (Below.refl _ _).drew
  replace r2 := r2.below (Below.refl _ _).drew
  replace r3 := r3.below (Below.refl _ _).drew
  replace r4 := r4.below (Below.refl _ _).drew
  replace x := x.below (Below.refl _ _).drew
  replace y := y.below (Below.refl _ _).drew
  replace t := t.below (Below.refl _ _).drew
  replace XA := XA.below (Below.refl _ _).drew
  replace XB := XB.below (Below.refl _ _).drew
  replace XK := XK.below (Below.refl _ _).drew
  replace X7 := X7.below (Below.refl _ _).drew
  replace Y7 := Y7.below (Below.refl _ _).drew
  replace T3 := T3.below (Below.refl _ _).drew
  replace XI := XI.below (Below.refl _ _).drew
  replace hb := hb.drew
  go_region_held3 (fun w' => w'.cell? ⟨w.heap.size, 0, none⟩ = some (.bool s_p) ∧ w'.cell? ⟨w.heap.size, 1, none⟩ = some (.slice A_p n_p c_p) ∧ w'.cell? ⟨w.heap.size, 2, none⟩ = some (.slice B_p m_p d_p) ∧ w'.cell? ⟨w.heap.size, 3, none⟩ = some (.bool t_p) ∧ w'.cell? ⟨w.heap.size, 4, none⟩ = some (.slice E_p i_p e_p) ∧ w'.cell? ⟨w.heap.size, 5, none⟩ = some (.slice F_p j_p f_p) ∧ w'.cell? ⟨w.heap.size + 1, 0, none⟩ = some (.bool s_q) ∧ w'.cell? ⟨w.heap.size + 1, 1, none⟩ = some (.slice A_q n_q c_q) ∧ w'.cell? ⟨w.heap.size + 1, 2, none⟩ = some (.slice B_q m_q d_q) ∧ w'.cell? ⟨w.heap.size + 1, 3, none⟩ = some (.bool t_q) ∧ w'.cell? ⟨w.heap.size + 1, 4, none⟩ = some (.slice E_q i_q e_q) ∧ w'.cell? ⟨w.heap.size + 1, 5, none⟩ = some (.slice F_q j_q f_q) ∧ w'.cell? ⟨w.heap.size + 1 + 1, 0, none⟩ = some (.bool s) ∧ w'.cell? ⟨w.heap.size + 1 + 1, 1, none⟩ = some (.slice A n c) ∧ w'.cell? ⟨w.heap.size + 1 + 1, 2, none⟩ = some (.slice A' n' c') ∧ w'.cell? ⟨g_x, 0, none⟩ = some (.bool s_x) ∧ w'.cell? ⟨g_x, 1, none⟩ = some (.slice A_x n_x c_x) ∧ w'.cell? ⟨g_x, 2, none⟩ = some (.slice B_x m_x d_x) ∧ w'.cell? ⟨g_x, 3, none⟩ = some (.bool t_x) ∧ w'.cell? ⟨g_x, 4, none⟩ = some (.slice E_x i_x e_x) ∧ w'.cell? ⟨g_x, 5, none⟩ = some (.slice F_x j_x f_x) ∧ w'.cell? ⟨g_y, 0, none⟩ = some (.bool s_y) ∧ w'.cell? ⟨g_y, 1, none⟩ = some (.slice A_y n_y c_y) ∧ w'.cell? ⟨g_y, 2, none⟩ = some (.slice B_y m_y d_y) ∧ w'.cell? ⟨g_y, 3, none⟩ = some (.bool t_y) ∧ w'.cell? ⟨g_y, 4, none⟩ = some (.slice E_y i_y e_y) ∧ w'.cell? ⟨g_y, 5, none⟩ = some (.slice F_y j_y f_y) ∧ w'.cell? ⟨g_t, 0, none⟩ = some (.bool s_u) ∧ w'.cell? ⟨g_t, 1, none⟩ = some (.slice A_u n_u c_u) ∧ w'.cell? ⟨g_t, 2, none⟩ = some (.slice B_u m_u d_u) ∧ w'.cell? ⟨w_i.heap.size, 0, none⟩ = some (.bool s_p) ∧ w'.cell? ⟨w_i.heap.size, 1, none⟩ = some (.slice A_i n_i c_i) ∧ w'.cell? ⟨w_i.heap.size, 2, none⟩ = some (.slice B_i m_i d_i) ∧ w'.cell? ⟨w_i.heap.size, 3, none⟩ = some (.bool t_p) ∧ w'.cell? ⟨w_i.heap.size, 4, none⟩ = some (.slice E_i i_i e_i) ∧ w'.cell? ⟨w_i.heap.size, 5, none⟩ = some (.slice F_i j_i f_i))
    (first | with_reducible exact ⟨XA.c0, XA.c1, XA.c2, XA.c3, XA.c4, XA.c5, XB.c0, XB.c1, XB.c2, XB.c3, XB.c4, XB.c5, XK.c0, XK.c1, XK.c2, X7.c0, X7.c1, X7.c2, X7.c3, X7.c4, X7.c5, Y7.c0, Y7.c1, Y7.c2, Y7.c3, Y7.c4, Y7.c5, T3.c0, T3.c1, T3.c2, XI.c0, XI.c1, XI.c2, XI.c3, XI.c4, XI.c5⟩)
    (first
    | (go_at_call 71; (with_reducible refine (rout6 x (by decide) K HK.out.1 HK.out.2.1 HK.out.2.2.1 HK.out.2.2.2).mono ?_); rintro e w_o ⟨s_o, A_o, n_o, c_o, B_o, m_o, d_o, t_o, E_o, i_o, e_o, F_o, j_o, f_o, rfl, o, hh⟩
       try replace i := i.below hh
       try replace i1 := i1.below hh
       try replace i2 := i2.below hh
       try replace i3 := i3.below hh
       try replace i4 := i4.below hh
       try replace q := q.below hh
       try replace v := v.below hh
       try replace r1 := r1.below hh
       try replace r2 := r2.below hh
       try replace r3 := r3.below hh
       try replace r4 := r4.below hh
       try replace x := x.below hh
       try replace y := y.below hh
       try replace t := t.below hh
       try replace XA := XA.below hh
       try replace XB := XB.below hh
       try replace XK := XK.below hh
       try replace X7 := X7.below hh
       try replace Y7 := Y7.below hh
       try replace T3 := T3.below hh
       try replace XI := XI.below hh
       replace hb := bend hb hh)
    | (go_at_call 70; (with_reducible refine (pts_out r1 r2 r3 r4 o HX.out R HC.out).mono ?_); rintro e w_z ⟨rfl, hh⟩
       try replace i := i.below hh
       try replace i1 := i1.below hh
       try replace i2 := i2.below hh
       try replace i3 := i3.below hh
       try replace i4 := i4.below hh
       try replace q := q.below hh
       try replace v := v.below hh
       try replace r1 := r1.below hh
       try replace r2 := r2.below hh
       try replace r3 := r3.below hh
       try replace r4 := r4.below hh
       try replace x := x.below hh
       try replace y := y.below hh
       try replace t := t.below hh
       try replace XA := XA.below hh
       try replace XB := XB.below hh
       try replace XK := XK.below hh
       try replace X7 := X7.below hh
       try replace Y7 := Y7.below hh
       try replace T3 := T3.below hh
       try replace XI := XI.below hh
       replace hb := bend hb hh
       clear o))
  go_upto_region 6 with (fail)
  replace i := i.below (Below.refl _ _).drew
  replace i1 := i1.below (Below.refl _ _).drew
  replace i2 := i2.below (Below.refl _ _).drew
  replace i3 := i3.below (Below.refl _ _).drew
  replace i4 := i4.below (Below.refl _ _).drew
  replace q := q.below (Below.refl _ _).drew
  replace v := v.below (Below.refl _ _).drew
  replace r1 := r1.below (Below.refl _ _).drew
  replace r2 := r2.below (Below.refl _ _).drew
  replace r3 := r3.below (Below.refl _ _).drew
  replace r4 := r4.below (Below.refl _ _).drew
  replace x := x.below (Below.refl _ _).drew
  replace y := y.below (Below.refl _ _).drew
  replace t := t.below (Below.refl _ _).drew
  replace XA := XA.below (Below.refl _ _).drew
  replace XB := XB.below (Below.refl _ _).drew
  replace XK := XK.below (Below.refl _ _).drew
  replace X7 := X7.below (Below.refl _ _).drew
  replace Y7 := Y7.below (Below.refl _ _).drew
  replace T3 := T3.below (Below.refl _ _).drew
  replace XI := XI.below (Below.refl _ _).drew
  replace hb := hb.drew
  dsimp only [List.append]
  go_region_held3 (fun w' => w'.cell? ⟨w.heap.size, 0, none⟩ = some (.bool s_p) ∧ w'.cell? ⟨w.heap.size, 1, none⟩ = some (.slice A_p n_p c_p) ∧ w'.cell? ⟨w.heap.size, 2, none⟩ = some (.slice B_p m_p d_p) ∧ w'.cell? ⟨w.heap.size, 3, none⟩ = some (.bool t_p) ∧ w'.cell? ⟨w.heap.size, 4, none⟩ = some (.slice E_p i_p e_p) ∧ w'.cell? ⟨w.heap.size, 5, none⟩ = some (.slice F_p j_p f_p) ∧ w'.cell? ⟨w.heap.size + 1, 0, none⟩ = some (.bool s_q) ∧ w'.cell? ⟨w.heap.size + 1, 1, none⟩ = some (.slice A_q n_q c_q) ∧ w'.cell? ⟨w.heap.size + 1, 2, none⟩ = some (.slice B_q m_q d_q) ∧ w'.cell? ⟨w.heap.size + 1, 3, none⟩ = some (.bool t_q) ∧ w'.cell? ⟨w.heap.size + 1, 4, none⟩ = some (.slice E_q i_q e_q) ∧ w'.cell? ⟨w.heap.size + 1, 5, none⟩ = some (.slice F_q j_q f_q) ∧ w'.cell? ⟨w.heap.size + 1 + 1, 0, none⟩ = some (.bool s) ∧ w'.cell? ⟨w.heap.size + 1 + 1, 1, none⟩ = some (.slice A n c) ∧ w'.cell? ⟨w.heap.size + 1 + 1, 2, none⟩ = some (.slice A' n' c') ∧ w'.cell? ⟨g_x, 0, none⟩ = some (.bool s_x) ∧ w'.cell? ⟨g_x, 1, none⟩ = some (.slice A_x n_x c_x) ∧ w'.cell? ⟨g_x, 2, none⟩ = some (.slice B_x m_x d_x) ∧ w'.cell? ⟨g_x, 3, none⟩ = some (.bool t_x) ∧ w'.cell? ⟨g_x, 4, none⟩ = some (.slice E_x i_x e_x) ∧ w'.cell? ⟨g_x, 5, none⟩ = some (.slice F_x j_x f_x) ∧ w'.cell? ⟨g_y, 0, none⟩ = some (.bool s_y) ∧ w'.cell? ⟨g_y, 1, none⟩ = some (.slice A_y n_y c_y) ∧ w'.cell? ⟨g_y, 2, none⟩ = some (.slice B_y m_y d_y) ∧ w'.cell? ⟨g_y, 3, none⟩ = some (.bool t_y) ∧ w'.cell? ⟨g_y, 4, none⟩ = some (.slice E_y i_y e_y) ∧ w'.cell? ⟨g_y, 5, none⟩ = some (.slice F_y j_y f_y) ∧ w'.cell? ⟨g_t, 0, none⟩ = some (.bool s_u) ∧ w'.cell? ⟨g_t, 1, none⟩ = some (.slice A_u n_u c_u) ∧ w'.cell? ⟨g_t, 2, none⟩ = some (.slice B_u m_u d_u) ∧ w'.cell? ⟨w_i.heap.size, 0, none⟩ = some (.bool s_p) ∧ w'.cell? ⟨w_i.heap.size, 1, none⟩ = some (.slice A_i n_i c_i) ∧ w'.cell? ⟨w_i.heap.size, 2, none⟩ = some (.slice B_i m_i d_i) ∧ w'.cell? ⟨w_i.heap.size, 3, none⟩ = some (.bool t_p) ∧ w'.cell? ⟨w_i.heap.size, 4, none⟩ = some (.slice E_i i_i e_i) ∧ w'.cell? ⟨w_i.heap.size, 5, none⟩ = some (.slice F_i j_i f_i))
    (first | with_reducible exact ⟨XA.c0, XA.c1, XA.c2, XA.c3, XA.c4, XA.c5, XB.c0, XB.c1, XB.c2, XB.c3, XB.c4, XB.c5, XK.c0, XK.c1, XK.c2, X7.c0, X7.c1, X7.c2, X7.c3, X7.c4, X7.c5, Y7.c0, Y7.c1, Y7.c2, Y7.c3, Y7.c4, Y7.c5, T3.c0, T3.c1, T3.c2, XI.c0, XI.c1, XI.c2, XI.c3, XI.c4, XI.c5⟩)
    (first
    | (go_at_call 73; (with_reducible refine (padd_p i q (by decide) (by decide) (.inl (by decide)) (by decide) (by decide)).mono ?_); rintro e w_b1 ⟨s_b1, A_b1, n_b1, c_b1, B_b1, m_b1, d_b1, t_b1, E_b1, i_b1, e_b1, F_b1, j_b1, f_b1, rfl, b1, hh⟩
       try replace i := i.below hh
       try replace i1 := i1.below hh
       try replace i2 := i2.below hh
       try replace i3 := i3.below hh
       try replace i4 := i4.below hh
       try replace q := q.below hh
       try replace v := v.below hh
       try replace r1 := r1.below hh
       try replace r2 := r2.below hh
       try replace r3 := r3.below hh
       try replace r4 := r4.below hh
       try replace x := x.below hh
       try replace y := y.below hh
       try replace t := t.below hh
       try replace XA := XA.below hh
       try replace XB := XB.below hh
       try replace XK := XK.below hh
       try replace X7 := X7.below hh
       try replace Y7 := Y7.below hh
       try replace T3 := T3.below hh
       try replace XI := XI.below hh
       replace hb := bend hb hh)
    | (go_at_call 74; (with_reducible refine (radd6 x y (by decide) (by decide)).mono ?_); rintro e w_h1 ⟨s_h1, A_h1, n_h1, c_h1, B_h1, m_h1, d_h1, t_h1, E_h1, i_h1, e_h1, F_h1, j_h1, f_h1, rfl, h1, hh⟩
       try replace i := i.below hh
       try replace i1 := i1.below hh
       try replace i2 := i2.below hh
       try replace i3 := i3.below hh
       try replace i4 := i4.below hh
       try replace q := q.below hh
       try replace v := v.below hh
       try replace r1 := r1.below hh
       try replace r2 := r2.below hh
       try replace r3 := r3.below hh
       try replace r4 := r4.below hh
       try replace x := x.below hh
       try replace y := y.below hh
       try replace t := t.below hh
       try replace XA := XA.below hh
       try replace XB := XB.below hh
       try replace XK := XK.below hh
       try replace X7 := X7.below hh
       try replace Y7 := Y7.below hh
       try replace T3 := T3.below hh
       try replace XI := XI.below hh
       try replace b1 := b1.below hh
       replace hb := bend hb hh)
    | (go_at_call 72; (with_reducible refine (lsame6 b1 h1 rfl rfl (by decide) (by decide)).mono ?_); rintro e w_z ⟨rfl, hh⟩
       try replace i := i.below hh
       try replace i1 := i1.below hh
       try replace i2 := i2.below hh
       try replace i3 := i3.below hh
       try replace i4 := i4.below hh
       try replace q := q.below hh
       try replace v := v.below hh
       try replace r1 := r1.below hh
       try replace r2 := r2.below hh
       try replace r3 := r3.below hh
       try replace r4 := r4.below hh
       try replace x := x.below hh
       try replace y := y.below hh
       try replace t := t.below hh
       try replace XA := XA.below hh
       try replace XB := XB.below hh
       try replace XK := XK.below hh
       try replace X7 := X7.below hh
       try replace Y7 := Y7.below hh
       try replace T3 := T3.below hh
       try replace XI := XI.below hh
       replace hb := bend hb hh
       clear b1 h1)
    | (go_at_call 75; (with_reducible refine (psub_p i q (by decide) (by decide) (.inl (by decide)) (by decide) (by decide)).mono ?_); rintro e w_b2 ⟨s_b2, A_b2, n_b2, c_b2, B_b2, m_b2, d_b2, t_b2, E_b2, i_b2, e_b2, F_b2, j_b2, f_b2, rfl, b2, hh⟩
       try replace i := i.below hh
       try replace i1 := i1.below hh
       try replace i2 := i2.below hh
       try replace i3 := i3.below hh
       try replace i4 := i4.below hh
       try replace q := q.below hh
       try replace v := v.below hh
       try replace r1 := r1.below hh
       try replace r2 := r2.below hh
       try replace r3 := r3.below hh
       try replace r4 := r4.below hh
       try replace x := x.below hh
       try replace y := y.below hh
       try replace t := t.below hh
       try replace XA := XA.below hh
       try replace XB := XB.below hh
       try replace XK := XK.below hh
       try replace X7 := X7.below hh
       try replace Y7 := Y7.below hh
       try replace T3 := T3.below hh
       try replace XI := XI.below hh
       replace hb := bend hb hh)
    | (go_at_call 76; (with_reducible refine (rsub6 x y (by decide) (by decide)).mono ?_); rintro e w_h2 ⟨s_h2, A_h2, n_h2, c_h2, B_h2, m_h2, d_h2, t_h2, E_h2, i_h2, e_h2, F_h2, j_h2, f_h2, rfl, h2, hh⟩
       try replace i := i.below hh
       try replace i1 := i1.below hh
       try replace i2 := i2.below hh
       try replace i3 := i3.below hh
       try replace i4 := i4.below hh
       try replace q := q.below hh
       try replace v := v.below hh
       try replace r1 := r1.below hh
       try replace r2 := r2.below hh
       try replace r3 := r3.below hh
       try replace r4 := r4.below hh
       try replace x := x.below hh
       try replace y := y.below hh
       try replace t := t.below hh
       try replace XA := XA.below hh
       try replace XB := XB.below hh
       try replace XK := XK.below hh
       try replace X7 := X7.below hh
       try replace Y7 := Y7.below hh
       try replace T3 := T3.below hh
       try replace XI := XI.below hh
       try replace b2 := b2.below hh
       replace hb := bend hb hh)
    | (go_at_call 72; (with_reducible refine (lsame6 b2 h2 rfl rfl (by decide) (by decide)).mono ?_); rintro e w_z ⟨rfl, hh⟩
       try replace i := i.below hh
       try replace i1 := i1.below hh
       try replace i2 := i2.below hh
       try replace i3 := i3.below hh
       try replace i4 := i4.below hh
       try replace q := q.below hh
       try replace v := v.below hh
       try replace r1 := r1.below hh
       try replace r2 := r2.below hh
       try replace r3 := r3.below hh
       try replace r4 := r4.below hh
       try replace x := x.below hh
       try replace y := y.below hh
       try replace t := t.below hh
       try replace XA := XA.below hh
       try replace XB := XB.below hh
       try replace XK := XK.below hh
       try replace X7 := X7.below hh
       try replace Y7 := Y7.below hh
       try replace T3 := T3.below hh
       try replace XI := XI.below hh
       replace hb := bend hb hh
       clear b2 h2)
    | (go_at_call 77; (with_reducible refine (pscale_p i v (by decide) (by decide) (.inl (by decide)) (by decide) (by decide)).mono ?_); rintro e w_b3 ⟨s_b3, A_b3, n_b3, c_b3, B_b3, m_b3, d_b3, t_b3, E_b3, i_b3, e_b3, F_b3, j_b3, f_b3, rfl, b3, hh⟩
       try replace i := i.below hh
       try replace i1 := i1.below hh
       try replace i2 := i2.below hh
       try replace i3 := i3.below hh
       try replace i4 := i4.below hh
       try replace q := q.below hh
       try replace v := v.below hh
       try replace r1 := r1.below hh
       try replace r2 := r2.below hh
       try replace r3 := r3.below hh
       try replace r4 := r4.below hh
       try replace x := x.below hh
       try replace y := y.below hh
       try replace t := t.below hh
       try replace XA := XA.below hh
       try replace XB := XB.below hh
       try replace XK := XK.below hh
       try replace X7 := X7.below hh
       try replace Y7 := Y7.below hh
       try replace T3 := T3.below hh
       try replace XI := XI.below hh
       replace hb := bend hb hh)
    | (go_at_call 78; (with_reducible refine (rscale6 x t (by decide) (by decide)).mono ?_); rintro e w_h3 ⟨s_h3, A_h3, n_h3, c_h3, B_h3, m_h3, d_h3, t_h3, E_h3, i_h3, e_h3, F_h3, j_h3, f_h3, rfl, h3, hh⟩
       try replace i := i.below hh
       try replace i1 := i1.below hh
       try replace i2 := i2.below hh
       try replace i3 := i3.below hh
       try replace i4 := i4.below hh
       try replace q := q.below hh
       try replace v := v.below hh
       try replace r1 := r1.below hh
       try replace r2 := r2.below hh
       try replace r3 := r3.below hh
       try replace r4 := r4.below hh
       try replace x := x.below hh
       try replace y := y.below hh
       try replace t := t.below hh
       try replace XA := XA.below hh
       try replace XB := XB.below hh
       try replace XK := XK.below hh
       try replace X7 := X7.below hh
       try replace Y7 := Y7.below hh
       try replace T3 := T3.below hh
       try replace XI := XI.below hh
       try replace b3 := b3.below hh
       replace hb := bend hb hh)
    | (go_at_call 72; (with_reducible refine (lsame6 b3 h3 rfl rfl (by decide) (by decide)).mono ?_); rintro e w_z ⟨rfl, hh⟩
       try replace i := i.below hh
       try replace i1 := i1.below hh
       try replace i2 := i2.below hh
       try replace i3 := i3.below hh
       try replace i4 := i4.below hh
       try replace q := q.below hh
       try replace v := v.below hh
       try replace r1 := r1.below hh
       try replace r2 := r2.below hh
       try replace r3 := r3.below hh
       try replace r4 := r4.below hh
       try replace x := x.below hh
       try replace y := y.below hh
       try replace t := t.below hh
       try replace XA := XA.below hh
       try replace XB := XB.below hh
       try replace XK := XK.below hh
       try replace X7 := X7.below hh
       try replace Y7 := Y7.below hh
       try replace T3 := T3.below hh
       try replace XI := XI.below hh
       replace hb := bend hb hh
       clear b3 h3)
    | (go_at_call 79; (with_reducible refine (pmix_p i q v (by decide) (by decide) (by decide) (by decide) (by decide) (by decide)).mono ?_); rintro e w_b4 ⟨s_b4, A_b4, n_b4, c_b4, B_b4, m_b4, d_b4, t_b4, E_b4, i_b4, e_b4, F_b4, j_b4, f_b4, rfl, b4, hh⟩
       try replace i := i.below hh
       try replace i1 := i1.below hh
       try replace i2 := i2.below hh
       try replace i3 := i3.below hh
       try replace i4 := i4.below hh
       try replace q := q.below hh
       try replace v := v.below hh
       try replace r1 := r1.below hh
       try replace r2 := r2.below hh
       try replace r3 := r3.below hh
       try replace r4 := r4.below hh
       try replace x := x.below hh
       try replace y := y.below hh
       try replace t := t.below hh
       try replace XA := XA.below hh
       try replace XB := XB.below hh
       try replace XK := XK.below hh
       try replace X7 := X7.below hh
       try replace Y7 := Y7.below hh
       try replace T3 := T3.below hh
       try replace XI := XI.below hh
       replace hb := bend hb hh)
    | (go_at_call 80; (with_reducible refine (rmix6 x y t (by decide) (by decide) (by decide)).mono ?_); rintro e w_h4 ⟨s_h4, A_h4, n_h4, c_h4, B_h4, m_h4, d_h4, t_h4, E_h4, i_h4, e_h4, F_h4, j_h4, f_h4, rfl, h4, hh⟩
       try replace i := i.below hh
       try replace i1 := i1.below hh
       try replace i2 := i2.below hh
       try replace i3 := i3.below hh
       try replace i4 := i4.below hh
       try replace q := q.below hh
       try replace v := v.below hh
       try replace r1 := r1.below hh
       try replace r2 := r2.below hh
       try replace r3 := r3.below hh
       try replace r4 := r4.below hh
       try replace x := x.below hh
       try replace y := y.below hh
       try replace t := t.below hh
       try replace XA := XA.below hh
       try replace XB := XB.below hh
       try replace XK := XK.below hh
       try replace X7 := X7.below hh
       try replace Y7 := Y7.below hh
       try replace T3 := T3.below hh
       try replace XI := XI.below hh
       try replace b4 := b4.below hh
       replace hb := bend hb hh)
    | (go_at_call 72; (with_reducible refine (lsame6 b4 h4 rfl rfl (by decide) (by decide)).mono ?_); rintro e w_z ⟨rfl, hh⟩
       try replace i := i.below hh
       try replace i1 := i1.below hh
       try replace i2 := i2.below hh
       try replace i3 := i3.below hh
       try replace i4 := i4.below hh
       try replace q := q.below hh
       try replace v := v.below hh
       try replace r1 := r1.below hh
       try replace r2 := r2.below hh
       try replace r3 := r3.below hh
       try replace r4 := r4.below hh
       try replace x := x.below hh
       try replace y := y.below hh
       try replace t := t.below hh
       try replace XA := XA.below hh
       try replace XB := XB.below hh
       try replace XK := XK.below hh
       try replace X7 := X7.below hh
       try replace Y7 := Y7.below hh
       try replace T3 := T3.below hh
       try replace XI := XI.below hh
       replace hb := bend hb hh
       clear b4 h4)
    | (go_at_call 81; (with_reducible refine (pdot_p i q (by decide) (by decide) (by decide)).mono ?_); rintro e w_b5 ⟨s_b5, A_b5, n_b5, c_b5, B_b5, m_b5, d_b5, rfl, b5, hh⟩
       try replace i := i.below hh
       try replace i1 := i1.below hh
       try replace i2 := i2.below hh
       try replace i3 := i3.below hh
       try replace i4 := i4.below hh
       try replace q := q.below hh
       try replace v := v.below hh
       try replace r1 := r1.below hh
       try replace r2 := r2.below hh
       try replace r3 := r3.below hh
       try replace r4 := r4.below hh
       try replace x := x.below hh
       try replace y := y.below hh
       try replace t := t.below hh
       try replace XA := XA.below hh
       try replace XB := XB.below hh
       try replace XK := XK.below hh
       try replace X7 := X7.below hh
       try replace Y7 := Y7.below hh
       try replace T3 := T3.below hh
       try replace XI := XI.below hh
       replace hb := bend hb hh)
    | (go_at_call 82; (with_reducible refine (rdot6 x y (by decide) (by decide)).mono ?_); rintro e w_h5 ⟨s_h5, A_h5, n_h5, c_h5, B_h5, m_h5, d_h5, rfl, h5, hh⟩
       try replace i := i.below hh
       try replace i1 := i1.below hh
       try replace i2 := i2.below hh
       try replace i3 := i3.below hh
       try replace i4 := i4.below hh
       try replace q := q.below hh
       try replace v := v.below hh
       try replace r1 := r1.below hh
       try replace r2 := r2.below hh
       try replace r3 := r3.below hh
       try replace r4 := r4.below hh
       try replace x := x.below hh
       try replace y := y.below hh
       try replace t := t.below hh
       try replace XA := XA.below hh
       try replace XB := XB.below hh
       try replace XK := XK.below hh
       try replace X7 := X7.below hh
       try replace Y7 := Y7.below hh
       try replace T3 := T3.below hh
       try replace XI := XI.below hh
       try replace b5 := b5.below hh
       replace hb := bend hb hh)
    | (go_at_call 20; (with_reducible refine (same3 b5 h5 rfl (by decide) (by decide)).mono ?_); rintro e w_z ⟨rfl, hh⟩
       try replace i := i.below hh
       try replace i1 := i1.below hh
       try replace i2 := i2.below hh
       try replace i3 := i3.below hh
       try replace i4 := i4.below hh
       try replace q := q.below hh
       try replace v := v.below hh
       try replace r1 := r1.below hh
       try replace r2 := r2.below hh
       try replace r3 := r3.below hh
       try replace r4 := r4.below hh
       try replace x := x.below hh
       try replace y := y.below hh
       try replace t := t.below hh
       try replace XA := XA.below hh
       try replace XB := XB.below hh
       try replace XK := XK.below hh
       try replace X7 := X7.below hh
       try replace Y7 := Y7.below hh
       try replace T3 := T3.below hh
       try replace XI := XI.below hh
       replace hb := bend hb hh
       clear b5 h5)
    | (go_at_call 83; (with_reducible refine (pcross_p i q (by decide) (by decide) (by decide)).mono ?_); rintro e w_b6 ⟨s_b6, A_b6, n_b6, c_b6, B_b6, m_b6, d_b6, rfl, b6, hh⟩
       try replace i := i.below hh
       try replace i1 := i1.below hh
       try replace i2 := i2.below hh
       try replace i3 := i3.below hh
       try replace i4 := i4.below hh
       try replace q := q.below hh
       try replace v := v.below hh
       try replace r1 := r1.below hh
       try replace r2 := r2.below hh
       try replace r3 := r3.below hh
       try replace r4 := r4.below hh
       try replace x := x.below hh
       try replace y := y.below hh
       try replace t := t.below hh
       try replace XA := XA.below hh
       try replace XB := XB.below hh
       try replace XK := XK.below hh
       try replace X7 := X7.below hh
       try replace Y7 := Y7.below hh
       try replace T3 := T3.below hh
       try replace XI := XI.below hh
       replace hb := bend hb hh)
    | (go_at_call 84; (with_reducible refine (rcross6 x y (by decide) (by decide)).mono ?_); rintro e w_h6 ⟨s_h6, A_h6, n_h6, c_h6, B_h6, m_h6, d_h6, rfl, h6, hh⟩
       try replace i := i.below hh
       try replace i1 := i1.below hh
       try replace i2 := i2.below hh
       try replace i3 := i3.below hh
       try replace i4 := i4.below hh
       try replace q := q.below hh
       try replace v := v.below hh
       try replace r1 := r1.below hh
       try replace r2 := r2.below hh
       try replace r3 := r3.below hh
       try replace r4 := r4.below hh
       try replace x := x.below hh
       try replace y := y.below hh
       try replace t := t.below hh
       try replace XA := XA.below hh
       try replace XB := XB.below hh
       try replace XK := XK.below hh
       try replace X7 := X7.below hh
       try replace Y7 := Y7.below hh
       try replace T3 := T3.below hh
       try replace XI := XI.below hh
       try replace b6 := b6.below hh
       replace hb := bend hb hh)
    | (go_at_call 20; (with_reducible refine (same3 b6 h6 rfl (by decide) (by decide)).mono ?_); rintro e w_z ⟨rfl, hh⟩
       try replace i := i.below hh
       try replace i1 := i1.below hh
       try replace i2 := i2.below hh
       try replace i3 := i3.below hh
       try replace i4 := i4.below hh
       try replace q := q.below hh
       try replace v := v.below hh
       try replace r1 := r1.below hh
       try replace r2 := r2.below hh
       try replace r3 := r3.below hh
       try replace r4 := r4.below hh
       try replace x := x.below hh
       try replace y := y.below hh
       try replace t := t.below hh
       try replace XA := XA.below hh
       try replace XB := XB.below hh
       try replace XK := XK.below hh
       try replace X7 := X7.below hh
       try replace Y7 := Y7.below hh
       try replace T3 := T3.below hh
       try replace XI := XI.below hh
       replace hb := bend hb hh
       clear b6 h6)
    | (go_at_call 85; (with_reducible refine (psame_p i q (by decide) (by decide) (by decide) (by decide) M HM.out).mono ?_); rintro e w_z ⟨rfl, hh⟩
       try replace i := i.below hh
       try replace i1 := i1.below hh
       try replace i2 := i2.below hh
       try replace i3 := i3.below hh
       try replace i4 := i4.below hh
       try replace q := q.below hh
       try replace v := v.below hh
       try replace r1 := r1.below hh
       try replace r2 := r2.below hh
       try replace r3 := r3.below hh
       try replace r4 := r4.below hh
       try replace x := x.below hh
       try replace y := y.below hh
       try replace t := t.below hh
       try replace XA := XA.below hh
       try replace XB := XB.below hh
       try replace XK := XK.below hh
       try replace X7 := X7.below hh
       try replace Y7 := Y7.below hh
       try replace T3 := T3.below hh
       try replace XI := XI.below hh
       replace hb := bend hb hh)
    | (go_at_call 86; (with_reducible refine (rsame6 x y (by decide) (by decide) M HM.out).mono ?_); rintro e w_z ⟨rfl, hh⟩
       try replace i := i.below hh
       try replace i1 := i1.below hh
       try replace i2 := i2.below hh
       try replace i3 := i3.below hh
       try replace i4 := i4.below hh
       try replace q := q.below hh
       try replace v := v.below hh
       try replace r1 := r1.below hh
       try replace r2 := r2.below hh
       try replace r3 := r3.below hh
       try replace r4 := r4.below hh
       try replace x := x.below hh
       try replace y := y.below hh
       try replace t := t.below hh
       try replace XA := XA.below hh
       try replace XB := XB.below hh
       try replace XK := XK.below hh
       try replace X7 := X7.below hh
       try replace Y7 := Y7.below hh
       try replace T3 := T3.below hh
       try replace XI := XI.below hh
       replace hb := bend hb hh)
    | (go_at_call 87; (with_reducible refine (pgood_l i1 i2 i3 i4 HB.out.1 HB.out.2.1 HB.out.2.2.1 HB.out.2.2.2 HIC.out HI.out.2.1 R HR.out).mono ?_); rintro e w_z ⟨rfl, hh⟩
       try replace i := i.below hh
       try replace i1 := i1.below hh
       try replace i2 := i2.below hh
       try replace i3 := i3.below hh
       try replace i4 := i4.below hh
       try replace q := q.below hh
       try replace v := v.below hh
       try replace r1 := r1.below hh
       try replace r2 := r2.below hh
       try replace r3 := r3.below hh
       try replace r4 := r4.below hh
       try replace x := x.below hh
       try replace y := y.below hh
       try replace t := t.below hh
       try replace XA := XA.below hh
       try replace XB := XB.below hh
       try replace XK := XK.below hh
       try replace X7 := X7.below hh
       try replace Y7 := Y7.below hh
       try replace T3 := T3.below hh
       try replace XI := XI.below hh
       replace hb := bend hb hh)
    | (go_at_call 70; (with_reducible refine (pts_any i1 i2 i3 i4 r1 r2 r3 r4 HI.out.2.2 true (same2_eq s_p t_p l1 l2 l3 l4)).mono ?_); rintro e w_z ⟨rfl, hh⟩
       try replace i := i.below hh
       try replace i1 := i1.below hh
       try replace i2 := i2.below hh
       try replace i3 := i3.below hh
       try replace i4 := i4.below hh
       try replace q := q.below hh
       try replace v := v.below hh
       try replace r1 := r1.below hh
       try replace r2 := r2.below hh
       try replace r3 := r3.below hh
       try replace r4 := r4.below hh
       try replace x := x.below hh
       try replace y := y.below hh
       try replace t := t.below hh
       try replace XA := XA.below hh
       try replace XB := XB.below hh
       try replace XK := XK.below hh
       try replace X7 := X7.below hh
       try replace Y7 := Y7.below hh
       try replace T3 := T3.below hh
       try replace XI := XI.below hh
       replace hb := bend hb hh)
    | (go_at_call 67; (with_reducible refine (pwakes_any _).mono ?_); rintro e w_z ⟨rfl, hh⟩
       try replace XA := XA.below hh
       try replace XB := XB.below hh
       try replace XK := XK.below hh
       try replace X7 := X7.below hh
       try replace Y7 := Y7.below hh
       try replace T3 := T3.below hh
       try replace XI := XI.below hh
       replace hb := bend hb hh))
  go_wp2_with fail
  go_ret
  exact ⟨rfl, hb⟩
theorem law_reckp {w : World} {s_p t_p : Bool} {A_p B_p E_p F_p : Option Addr} {n_p c_p m_p d_p i_p e_p j_p f_p : Nat} {s_q t_q : Bool} {A_q B_q E_q F_q : Option Addr} {n_q c_q m_q d_q i_q e_q j_q f_q : Nat} {s : Bool} {A A' : Option Addr} {n c n' c' : Nat} {lap lbp lcp ldp : List Nat} {laq lbq lcq ldq : List Nat} {k1 k2 : List Nat} (ap : Rd .u64 w A_p n_p lap) (bp : Rd .u64 w B_p m_p lbp) (up : Rd .u64 w E_p i_p lcp) (vp : Rd .u64 w F_p j_p ldp) (tap : Lim B64 lap) (tbp : Lim B64 lbp) (tcp : Lim B64 lcp) (tdp : Lim B64 ldp) (cap : n_p ≤ c_p) (cbp : m_p ≤ d_p) (ccp : i_p ≤ e_p) (cdp : j_p ≤ f_p) (aq : Rd .u64 w A_q n_q laq) (bq : Rd .u64 w B_q m_q lbq) (uq : Rd .u64 w E_q i_q lcq) (vq : Rd .u64 w F_q j_q ldq) (taq : Lim B64 laq) (tbq : Lim B64 lbq) (tcq : Lim B64 lcq) (tdq : Lim B64 ldq) (caq : n_q ≤ c_q) (cbq : m_q ≤ d_q) (ccq : i_q ≤ e_q) (cdq : j_q ≤ f_q) (ka : Rd .u64 w A n k1) (kb : Rd .u64 w A' n' k2) (ta : Lim B64 k1) (tb : Lim B64 k2) (kc : n ≤ c) (kd : n' ≤ c') (z1 : A_p = none → c_p = 0) (z2 : B_p = none → d_p = 0) (z3 : E_p = none → e_p = 0) (z4 : F_p = none → f_p = 0) :
    Calls Tryz.prog 9 #[.agg #[.bool s_p, .slice A_p n_p c_p, .slice B_p m_p d_p, .bool t_p, .slice E_p i_p e_p, .slice F_p j_p f_p], .agg #[.bool s_q, .slice A_q n_q c_q, .slice B_q m_q d_q, .bool t_q, .slice E_q i_q e_q, .slice F_q j_q f_q], .agg #[.bool s, .slice A n c, .slice A' n' c']] w fun e w' => e = .returned (.bool true) ∧ Below w.heap.size w w' := by
  by_cases h : (((n_p ≤ 6 ∧ m_p ≤ 6) ∧ i_p ≤ 6 ∧ j_p ≤ 6) ∧ ((n_q ≤ 6 ∧ m_q ≤ 6) ∧ i_q ≤ 6 ∧ j_q ≤ 6))
  · by_cases h2 : n ≤ 6 ∧ n' ≤ 6
    · have q : PR w s_q A_q n_q c_q B_q m_q d_q t_q E_q i_q e_q F_q j_q f_q (mkRat (iv s_q (val B64 laq)) (den1 (val B64 lbq))) (mkRat (iv t_q (val B64 lcq)) (den1 (val B64 ldq))) 6 := ⟨QR.of_rd aq taq caq bq tbq cbq h.2.1.1 h.2.1.2, QR.of_rd uq tcq ccq vq tdq cdq h.2.2.1 h.2.2.2⟩
      exact reckp_s ap bp up vp tap tbp tcp tdp cap cbp ccp cdp q (QR.of_rd ka ta kc kb tb kd h2.1 h2.2) h h2 z1 z2 z3 z4 rfl rfl _ rfl _ rfl
    · exact reckp_m h h2
  · exact reckp_l h
end Go.Proofs.YtlkjkhpjhllapaaGreat
