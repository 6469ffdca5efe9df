/- PtPlaces: part 17. -/
import Derived.Test.YtlkjkhpjhllapaaGreatKPtPlaces12
import Derived.Test.YtlkjkhpjhllapaaGreatKPtPlaces13
set_option linter.unusedVariables false
namespace Go.Proofs.YtlkjkhpjhllapaaGreat
open Go Go.RowKit
theorem free6 (s : Bool) (A B : Option Addr) (n c m d : Nat) (t : Bool) (E F : Option Addr) (i e j f : Nat) : ∀ (x : Nat) (k : IntKind) (v : Int), (#[.bool s, .slice A n c, .slice B m d, .bool t, .slice E i e, .slice F j f] : Array Value)[x]? ≠ some (.int k v) := by
  intro x k v h
  match x, h with
  | 0, h => cases h
  | 1, h => cases h
  | 2, h => cases h
  | 3, h => cases h
  | 4, h => cases h
  | 5, h => cases h
  | x + 6, h => cases h
def VPG (x y : Rat) (k : Nat) (v : Value) (w : World) : Prop := ∃ s A n c B m d t E i e F j f, v = .agg #[.bool s, .slice A n c, .slice B m d, .bool t, .slice E i e, .slice F j f] ∧ PG w s A n c B m d t E i e F j f x y k
theorem PG.box {T : TypeId} {w w' : World} {g : Nat} {cs : Array Value} {s t : Bool} {A B E F : Option Addr} {n c m d i e j f : Nat} {x y : Rat} {k : Nat} (h : PG w s A n c B m d t E i e F j f x y k) (Z : BoxAt T w g cs) (ho : Only g w w') : PG w' s A n c B m d t E i e F j f x y k := ⟨h.1.box Z ho, h.2.box Z ho⟩
theorem stays_pg (x y : Rat) (k : Nat) : Stays (VPG x y k) :=
  ⟨fun _ _ _ ⟨s, A, n, c, B, m, d, t, E, i, e, F, j, f, h1, h2⟩ hb => ⟨s, A, n, c, B, m, d, t, E, i, e, F, j, f, h1, h2.below hb⟩, fun _ _ _ _ _ _ ⟨s, A, n, c, B, m, d, t, E, i, e, F, j, f, h1, h2⟩ hB ho => ⟨s, A, n, c, B, m, d, t, E, i, e, F, j, f, h1, h2.box hB ho⟩⟩
theorem run_load6 {e1 : Operand → Value} {x1 : Operand} {d1 : Option Tmp} {y1 g : Nat} {pos : String} {af : Array Edge} {w : World} {a b c d e f : Value} (h : e1 x1 = .pointer (some ⟨g, 0, none⟩)) (h0 : w.cell? ⟨g, 0, none⟩ = some a) (h1 : w.cell? ⟨g, 1, none⟩ = some b) (h2 : w.cell? ⟨g, 2, none⟩ = some c) (h3 : w.cell? ⟨g, 3, none⟩ = some d) (h4 : w.cell? ⟨g, 4, none⟩ = some e) (h5 : w.cell? ⟨g, 5, none⟩ = some f) :
    (execOp e1 { dst := d1, op := Op.load 83 x1, type := y1, pos := pos, after := af, guard := none }).run Tryz.prog w = .ok (.value (.agg #[a, b, c, d, e, f])) w := by
  go_simp
theorem run_alloc6 {e1 : Operand → Value} {d1 : Option Tmp} {y1 : Nat} {pos : String} {af : Array Edge} {w : World} :
    (execOp e1 { dst := d1, op := Op.alloc 83, type := y1, pos := pos, after := af, guard := none }).run Tryz.prog w = .ok (.value (.pointer (some ⟨w.heap.size, 0, none⟩))) (w.alloc (.cells #[.bool false, .slice none 0 0, .slice none 0 0, .bool false, .slice none 0 0, .slice none 0 0] 83)) := by
  go_simp
theorem run_store6 {e1 : Operand → Value} {x1 z1 : Operand} {d1 : Option Tmp} {y1 g : Nat} {pos : String} {af : Array Edge} {w : World} {s t : Bool} {A B E F : Option Addr} {n c m d i e j f : Nat} {v0 v1 v2 v3 v4 v5 : Value} (h : e1 x1 = .pointer (some ⟨g, 0, none⟩)) (hz : e1 z1 = .agg #[.bool s, .slice A n c, .slice B m d, .bool t, .slice E i e, .slice F j f]) (Z : B6 w g v0 v1 v2 v3 v4 v5) :
    (execOp e1 { dst := d1, op := Op.store 83 x1 z1, type := y1, pos := pos, after := af, guard := none }).run Tryz.prog w = .ok .skip ((((((w.setCell ⟨g, 0, none⟩ (.bool s)).setCell ⟨g, 1, none⟩ (.slice A n c)).setCell ⟨g, 2, none⟩ (.slice B m d)).setCell ⟨g, 3, none⟩ (.bool t)).setCell ⟨g, 4, none⟩ (.slice E i e)).setCell ⟨g, 5, none⟩ (.slice F j f)) := by
  have c0 := Z.c0
  have c1 := Z.c1
  have c2 := Z.c2
  have c3 := Z.c3
  have c4 := Z.c4
  have c5 := Z.c5
  have f0 := Z.f0
  have f1 := Z.f1
  have f2 := Z.f2
  have f3 := Z.f3
  have f4 := Z.f4
  have f5 := Z.f5
  go_simp
theorem store_pg {ac : Act} {x1 z : Operand} {y1 g : Nat} {pos : String} {af : Array Edge} {w : World} {Q : Exit → Act → World → Prop} {x y : Rat} {k : Nat} (p1 : ac.eval x1 = .pointer (some ⟨g, 0, none⟩)) (h : VPG x y k (ac.eval z) w) (B : BoxAt 83 w g #[.bool false, .slice none 0 0, .slice none 0 0, .bool false, .slice none 0 0, .slice none 0 0]) :
    ({ dst := none, op := Op.store 83 x1 z, type := y1, pos := pos, after := af, guard := none } : Oper).wp Tryz.prog ac w (fun a'' w'' => a'' = ac ∧ Only g w w'' ∧ ∃ cs', BoxAt 83 w'' g cs' ∧ (fun cs w => ∃ s A n c B m d t E i e F j f, cs = #[.bool s, .slice A n c, .slice B m d, .bool t, .slice E i e, .slice F j f] ∧ PG w s A n c B m d t E i e F j f x y k) cs' w'') Q := by
  obtain ⟨s, A, n, c, B1, m, d, t, E, i, e, F, j, f, h1, h2⟩ := h
  have Z : B6 w g (.bool false) (.slice none 0 0) (.slice none 0 0) (.bool false) (.slice none 0 0) (.slice none 0 0) := B.at_
  unfold Oper.wp
  rw [run_store6 p1 h1 Z, Oper.upon_skip]
  have ho := ((((((Only.refl g w).setCell 0 (.bool s)).setCell 1 (.slice A n c)).setCell 2 (.slice B1 m d)).setCell 3 (.bool t)).setCell 4 (.slice E i e)).setCell 5 (.slice F j f)
  exact ⟨put_none ac undef, ho, #[.bool s, .slice A n c, .slice B1 m d, .bool t, .slice E i e, .slice F j f], ⟨Z.set6 _ _ _ _ _ _, free6 _ _ _ _ _ _ _ _ _ _ _ _ _ _⟩, s, A, n, c, B1, m, d, t, E, i, e, F, j, f, rfl, h2.box B ho⟩
theorem rdiv_qs {w : World} {s t : Bool} {A A' B B' : Option Addr} {n c n' c' m d m' d' k k2 : Nat} {v0 u0 : Rat} (X0 : QR w s A n c A' n' c' v0 k) (Y0 : QR w t B m d B' m' d' u0 k2) (hk : k ≤ 400) (hkb : k2 ≤ 400) (hk1 : 1 ≤ k) (hk3 : 1 ≤ k2) (hu : u0 ≠ 0) :
    Calls Tryz.prog 18 #[.agg #[.bool s, .slice A n c, .slice A' n' c'], .agg #[.bool t, .slice B m d, .slice B' m' d']] w (fun e w' => ∃ R, R = v0 / u0 ∧ GivesQE w R (k + k2) e w') :=
  (rdiv_q X0 Y0 hk hkb (.inl hk) hk1 hk3 hu).mono fun e w' h => ⟨_, rfl, h⟩
theorem rc_gesso_pt_Sub {e : Operand → Value} {x0 x1 : Operand} {d : Option Tmp} {y : Nat} {pos : String} {af : Array Edge} {w : World} {u0 u1 : Value} (h0 : e x0 = u0) (h1 : e x1 = u1) (hf : e (.func 75) = .func (.func 75) #[] #[]) :
    (execOp e { dst := d, op := Op.call { callee := Callee.value (Operand.func 75), args := #[x0, x1], argTypes := #[83, 83] }, type := y, pos := pos, after := af, guard := none }).run Tryz.prog w = .ok (.enter 75 #[u0, u1]) w := by
  go_simp
def F_segs (s_p : Bool) (t_p : Bool) (A_p : Option Addr) (B_p : Option Addr) (E_p : Option Addr) (F_p : Option Addr) (n_p : Nat) (c_p : Nat) (m_p : Nat) (d_p : Nat) (i_p : Nat) (e_p : Nat) (j_p : Nat) (f_p : Nat) (s_q : Bool) (t_q : Bool) (A_q : Option Addr) (B_q : Option Addr) (E_q : Option Addr) (F_q : Option Addr) (n_q : Nat) (c_q : Nat) (m_q : Nat) (d_q : Nat) (i_q : Nat) (e_q : Nat) (j_q : Nat) (f_q : Nat) (s_r : Bool) (t_r : Bool) (A_r : Option Addr) (B_r : Option Addr) (E_r : Option Addr) (F_r : Option Addr) (n_r : Nat) (c_r : Nat) (m_r : Nat) (d_r : Nat) (i_r : Nat) (e_r : Nat) (j_r : Nat) (f_r : Nat) (px : Rat) (py : Rat) (ax : Rat) (ay : Rat) (bx : Rat) (by_ : Rat) (kp : Nat) (k : Nat) (sl : Nat) : Value → World → Prop :=
  match sl with
  | 14 => fun x _ => x = Value.agg #[.bool s_r, .slice A_r n_r c_r, .slice B_r m_r d_r, .bool t_r, .slice E_r i_r e_r, .slice F_r j_r f_r]
  | 15 => fun x _ => x = Value.agg #[.bool s_q, .slice A_q n_q c_q, .slice B_q m_q d_q, .bool t_q, .slice E_q i_q e_q, .slice F_q j_q f_q]
  | 16 => VPG (bx - ax) (by_ - ay) (k + k + 1)
  | 17 => fun x _ => x = Value.agg #[.bool s_p, .slice A_p n_p c_p, .slice B_p m_p d_p, .bool t_p, .slice E_p i_p e_p, .slice F_p j_p f_p]
  | 18 => fun x _ => x = Value.agg #[.bool s_q, .slice A_q n_q c_q, .slice B_q m_q d_q, .bool t_q, .slice E_q i_q e_q, .slice F_q j_q f_q]
  | 19 => VPG (px - ax) (py - ay) (kp + k + 1)
  | _ => fun _ _ => True
def B0_segs (ax : Rat) (ay : Rat) (bx : Rat) (by_ : Rat) (k : Nat) : BoxOp :=
  ⟨6, 8, 7, 83, #[.bool false, .slice none 0 0, .slice none 0 0, .bool false, .slice none 0 0, .slice none 0 0], fun cs w => ∃ s A n c B m d t E i e F j f, cs = #[.bool s, .slice A n c, .slice B m d, .bool t, .slice E i e, .slice F j f] ∧ PG w s A n c B m d t E i e F j f (bx - ax) (by_ - ay) (k + k + 1)⟩
def B1_segs (px : Rat) (py : Rat) (ax : Rat) (ay : Rat) (kp : Nat) (k : Nat) : BoxOp :=
  ⟨7, 9, 8, 83, #[.bool false, .slice none 0 0, .slice none 0 0, .bool false, .slice none 0 0, .slice none 0 0], fun cs w => ∃ s A n c B m d t E i e F j f, cs = #[.bool s, .slice A n c, .slice B m d, .bool t, .slice E i e, .slice F j f] ∧ PG w s A n c B m d t E i e F j f (px - ax) (py - ay) (kp + k + 1)⟩
set_option maxRecDepth 100000 in
set_option maxHeartbeats 4000000 in
theorem segs_region {id : Nat} {ac : Act} {w : World} {Q : Exit → Act → World → Prop} {s_p t_p : Bool} {A_p B_p E_p F_p : Option Addr} {n_p c_p m_p d_p i_p e_p j_p f_p : Nat} {s_q t_q : Bool} {A_q B_q E_q F_q : Option Addr} {n_q c_q m_q d_q i_q e_q j_q f_q : Nat} {s_r t_r : Bool} {A_r B_r E_r F_r : Option Addr} {n_r c_r m_r d_r i_r e_r j_r f_r : Nat} {px py ax ay bx by_ : Rat} {kp k gp gq gr : Nat}
    (hsz : 19 < ac.tmps.size) (e3 : ac.eval (.tmp 3) = Value.pointer (some ⟨gp, 0, none⟩)) (e4 : ac.eval (.tmp 4) = Value.pointer (some ⟨gq, 0, none⟩)) (e5 : ac.eval (.tmp 5) = Value.pointer (some ⟨gr, 0, none⟩)) (XA : B6 w gp (.bool s_p) (.slice A_p n_p c_p) (.slice B_p m_p d_p) (.bool t_p) (.slice E_p i_p e_p) (.slice F_p j_p f_p)) (XB : B6 w gq (.bool s_q) (.slice A_q n_q c_q) (.slice B_q m_q d_q) (.bool t_q) (.slice E_q i_q e_q) (.slice F_q j_q f_q)) (XC : B6 w gr (.bool s_r) (.slice A_r n_r c_r) (.slice B_r m_r d_r) (.bool t_r) (.slice E_r i_r e_r) (.slice F_r j_r f_r)) (p : PR w s_p A_p n_p c_p B_p m_p d_p t_p E_p i_p e_p F_p j_p f_p px py kp) (q : PR w s_q A_q n_q c_q B_q m_q d_q t_q E_q i_q e_q F_q j_q f_q ax ay k) (r : PR w s_r A_r n_r c_r B_r m_r d_r t_r E_r i_r e_r F_r j_r f_r bx by_ k) (hp : kp ≤ 40) (hk : k ≤ 40) (h1 : 1 ≤ kp) (h2 : 1 ≤ k)
    (hend : ∀ (V : Nat → Value) (w' : World) (g0 : Nat) (s0 : Bool) (A0 : Option Addr) (n0 : Nat) (c0 : Nat) (B0 : Option Addr) (m0 : Nat) (d0 : Nat) (t0 : Bool) (E0 : Option Addr) (i0 : Nat) (e0 : Nat) (F0 : Option Addr) (j0 : Nat) (f0 : Nat) (g1 : Nat) (s1 : Bool) (A1 : Option Addr) (n1 : Nat) (c1 : Nat) (B1 : Option Addr) (m1 : Nat) (d1 : Nat) (t1 : Bool) (E1 : Option Addr) (i1 : Nat) (e1 : Nat) (F1 : Option Addr) (j1 : Nat) (f1 : Nat), PG w' s0 A0 n0 c0 B0 m0 d0 t0 E0 i0 e0 F0 j0 f0 (bx - ax) (by_ - ay) (k + k + 1) → B6 w' g0 (.bool s0) (.slice A0 n0 c0) (.slice B0 m0 d0) (.bool t0) (.slice E0 i0 e0) (.slice F0 j0 f0) → w.heap.size ≤ g0 → V 7 = .pointer (some ⟨g0, 0, none⟩) → PG w' s1 A1 n1 c1 B1 m1 d1 t1 E1 i1 e1 F1 j1 f1 (px - ax) (py - ay) (kp + k + 1) → B6 w' g1 (.bool s1) (.slice A1 n1 c1) (.slice B1 m1 d1) (.bool t1) (.slice E1 i1 e1) (.slice F1 j1 f1) → w.heap.size ≤ g1 → V 8 = .pointer (some ⟨g1, 0, none⟩) → g1 ≠ g0 → Below w.heap.size w w' → Q .normal (putAll ac [14, 15, 16, 17, 18, 19, 7, 8] V) w') :
    (Code.region id #[{ dst := some 14, op := Op.load 83 (Operand.tmp 5), type := 83, pos := "measure.go:44", after := #[], guard := none },
      { dst := some 15, op := Op.load 83 (Operand.tmp 4), type := 83, pos := "measure.go:44", after := #[], guard := none },
      { dst := some 16, op := Op.call { callee := Callee.value (Operand.func 75), args := #[Operand.tmp 14, Operand.tmp 15], argTypes := #[83, 83] }, type := 83, pos := "measure.go:44", after := #[{ on := 0, ground := Ground.data }, { on := 1, ground := Ground.data }], guard := none },
      { dst := some 17, op := Op.load 83 (Operand.tmp 3), type := 83, pos := "measure.go:44", after := #[], guard := none },
      { dst := some 18, op := Op.load 83 (Operand.tmp 4), type := 83, pos := "measure.go:44", after := #[], guard := none },
      { dst := some 19, op := Op.call { callee := Callee.value (Operand.func 75), args := #[Operand.tmp 17, Operand.tmp 18], argTypes := #[83, 83] }, type := 83, pos := "measure.go:44", after := #[{ on := 3, ground := Ground.data }, { on := 4, ground := Ground.data }, { on := 2, ground := Ground.chain }], guard := none },
      { dst := some 7, op := Op.alloc 83, type := 0, pos := "measure.go:44", after := #[], guard := none },
      { dst := some 8, op := Op.alloc 83, type := 0, pos := "measure.go:44", after := #[], guard := none },
      { dst := none, op := Op.store 83 (Operand.tmp 7) (Operand.tmp 16), type := 0, pos := "measure.go:44", after := #[{ on := 6, ground := Ground.data }, { on := 2, ground := Ground.data }, { on := 5, ground := Ground.chain }, { on := 0, ground := Ground.phase }, { on := 1, ground := Ground.phase }, { on := 2, ground := Ground.phase }, { on := 3, ground := Ground.textOnly Departure.lateStores }, { on := 4, ground := Ground.textOnly Departure.lateStores }, { on := 5, ground := Ground.textOnly Departure.lateStoresUnsure }, { on := 6, ground := Ground.phase }, { on := 7, ground := Ground.phase }], guard := none },
      { dst := none, op := Op.store 83 (Operand.tmp 8) (Operand.tmp 19), type := 0, pos := "measure.go:44", after := #[{ on := 7, ground := Ground.data }, { on := 5, ground := Ground.data }, { on := 8, ground := Ground.chain }, { on := 0, ground := Ground.phase }, { on := 1, ground := Ground.phase }, { on := 2, ground := Ground.phase }, { on := 3, ground := Ground.phase }, { on := 4, ground := Ground.phase }, { on := 5, ground := Ground.phase }, { on := 6, ground := Ground.phase }, { on := 7, ground := Ground.phase }, { on := 8, ground := Ground.phase }], guard := none }] true).wp Tryz.prog Q ac w := by
  have hnd : ([14, 15, 16, 17, 18, 19, 7, 8] : List Nat).Nodup := by decide
  have G : ∀ (sv : Nat → Value) (t : Nat), t ∈ ([14, 15, 16, 17, 18, 19, 7, 8] : List Nat) → t ≤ 19 → (putAll ac [14, 15, 16, 17, 18, 19, 7, 8] sv).eval (.tmp t) = sv t := fun sv t ht h => eval_putAll_mem (t := t) [14, 15, 16, 17, 18, 19, 7, 8] ac hnd ht (Nat.lt_of_le_of_lt h hsz)
  have E3 : ∀ sv : Nat → Value, (putAll ac [14, 15, 16, 17, 18, 19, 7, 8] sv).eval (.tmp 3) = Value.pointer (some ⟨gp, 0, none⟩) := fun sv => (eval_putAll_not (v := sv) [14, 15, 16, 17, 18, 19, 7, 8] ac (show 3 ∉ _ by decide)).trans e3
  have E4 : ∀ sv : Nat → Value, (putAll ac [14, 15, 16, 17, 18, 19, 7, 8] sv).eval (.tmp 4) = Value.pointer (some ⟨gq, 0, none⟩) := fun sv => (eval_putAll_not (v := sv) [14, 15, 16, 17, 18, 19, 7, 8] ac (show 4 ∉ _ by decide)).trans e4
  have E5 : ∀ sv : Nat → Value, (putAll ac [14, 15, 16, 17, 18, 19, 7, 8] sv).eval (.tmp 5) = Value.pointer (some ⟨gr, 0, none⟩) := fun sv => (eval_putAll_not (v := sv) [14, 15, 16, 17, 18, 19, 7, 8] ac (show 5 ∉ _ by decide)).trans e5
  have NE : ∀ t : Nat, (t ≠ 7 ∧ t ≠ 8) → ∀ p ∈ [B0_segs ax ay bx by_ k, B1_segs px py ax ay kp k], t ≠ p.tA := by
    intro t ht p hp
    simp only [List.mem_cons, List.not_mem_nil, or_false] at hp
    rcases hp with rfl | rfl
    · exact ht.1
    · exact ht.2
  refine wp_region_flows [14, 15, 16, 17, 18, 19, 7, 8] [B0_segs ax ay bx by_ k, B1_segs px py ax ay kp k] (F_segs s_p t_p A_p B_p E_p F_p n_p c_p m_p d_p i_p e_p j_p f_p s_q t_q A_q B_q E_q F_q n_q c_q m_q d_q i_q e_q j_q f_q s_r t_r A_r B_r E_r F_r n_r c_r m_r d_r i_r e_r j_r f_r px py ax ay bx by_ kp k) (by kernel_rfl) (by kernel_rfl) rfl hnd ?_ ?_ ?_ ?_ ?_ ?_ ?_ ?_
  · intro p hp
    simp only [List.mem_cons, List.not_mem_nil, or_false] at hp
    rcases hp with rfl | rfl
    · refine ⟨⟨{ dst := some 7, op := Op.alloc 83, type := 0, pos := "measure.go:44", after := #[], guard := none }, rfl, rfl, rfl, fun e w' => run_alloc6⟩, ⟨{ dst := none, op := Op.store 83 (Operand.tmp 7) (Operand.tmp 16), type := 0, pos := "measure.go:44", after := #[{ on := 6, ground := Ground.data }, { on := 2, ground := Ground.data }, { on := 5, ground := Ground.chain }, { on := 0, ground := Ground.phase }, { on := 1, ground := Ground.phase }, { on := 2, ground := Ground.phase }, { on := 3, ground := Ground.textOnly Departure.lateStores }, { on := 4, ground := Ground.textOnly Departure.lateStores }, { on := 5, ground := Ground.textOnly Departure.lateStoresUnsure }, { on := 6, ground := Ground.phase }, { on := 7, ground := Ground.phase }], guard := none }, rfl, rfl, rfl, { on := 6, ground := Ground.data }, by simp, rfl, rfl⟩, free6 _ _ _ _ _ _ _ _ _ _ _ _ _ _, ?_, ?_⟩
      · rintro cs w1 w2 ⟨s_, A_, n_, c_, B_, m_, d_, t_, E_, i_, e_, F_, j_, f_, rfl, h⟩ hb; exact ⟨s_, A_, n_, c_, B_, m_, d_, t_, E_, i_, e_, F_, j_, f_, rfl, h.below hb⟩
      · rintro T cs w1 w2 g c0 ⟨s_, A_, n_, c_, B_, m_, d_, t_, E_, i_, e_, F_, j_, f_, rfl, h⟩ hB ho; exact ⟨s_, A_, n_, c_, B_, m_, d_, t_, E_, i_, e_, F_, j_, f_, rfl, h.box hB ho⟩
    · refine ⟨⟨{ dst := some 8, op := Op.alloc 83, type := 0, pos := "measure.go:44", after := #[], guard := none }, rfl, rfl, rfl, fun e w' => run_alloc6⟩, ⟨{ dst := none, op := Op.store 83 (Operand.tmp 8) (Operand.tmp 19), type := 0, pos := "measure.go:44", after := #[{ on := 7, ground := Ground.data }, { on := 5, ground := Ground.data }, { on := 8, ground := Ground.chain }, { on := 0, ground := Ground.phase }, { on := 1, ground := Ground.phase }, { on := 2, ground := Ground.phase }, { on := 3, ground := Ground.phase }, { on := 4, ground := Ground.phase }, { on := 5, ground := Ground.phase }, { on := 6, ground := Ground.phase }, { on := 7, ground := Ground.phase }, { on := 8, ground := Ground.phase }], guard := none }, rfl, rfl, rfl, { on := 7, ground := Ground.data }, by simp, rfl, rfl⟩, free6 _ _ _ _ _ _ _ _ _ _ _ _ _ _, ?_, ?_⟩
      · rintro cs w1 w2 ⟨s_, A_, n_, c_, B_, m_, d_, t_, E_, i_, e_, F_, j_, f_, rfl, h⟩ hb; exact ⟨s_, A_, n_, c_, B_, m_, d_, t_, E_, i_, e_, F_, j_, f_, rfl, h.below hb⟩
      · rintro T cs w1 w2 g c0 ⟨s_, A_, n_, c_, B_, m_, d_, t_, E_, i_, e_, F_, j_, f_, rfl, h⟩ hB ho; exact ⟨s_, A_, n_, c_, B_, m_, d_, t_, E_, i_, e_, F_, j_, f_, rfl, h.box hB ho⟩
  · intro p hp q hq h
    simp only [List.mem_cons, List.not_mem_nil, or_false] at hp hq
    rcases hp with rfl | rfl <;> rcases hq with rfl | rfl
    · rfl
    · exact absurd (show (7 : Nat) = 8 from h) (by decide)
    · exact absurd (show (8 : Nat) = 7 from h) (by decide)
    · rfl
  · intro p hp q hq h
    simp only [List.mem_cons, List.not_mem_nil, or_false] at hp hq
    rcases hp with rfl | rfl <;> rcases hq with rfl | rfl
    · rfl
    · exact absurd (show (8 : Nat) = 9 from h) (by decide)
    · exact absurd (show (9 : Nat) = 8 from h) (by decide)
    · rfl
  · intro i o h1 h2
    match i, h1 with
    | 0, h1 => cases h1; cases h2
    | 1, h1 => cases h1; cases h2
    | 2, h1 => cases h1; cases h2
    | 3, h1 => cases h1; cases h2
    | 4, h1 => cases h1; cases h2
    | 5, h1 => cases h1; cases h2
    | 6, h1 => cases h1; cases h2
    | 7, h1 => cases h1; cases h2
    | 8, h1 => exact ⟨B0_segs ax ay bx by_ k, List.Mem.head _, rfl⟩
    | 9, h1 => exact ⟨B1_segs px py ax ay kp k, List.Mem.tail _ (List.Mem.head _), rfl⟩
    | i + 10, h1 => cases h1
  · intro t
    unfold F_segs
    split <;> first | exact stays_eq _ | exact stays_q _ _ | exact stays_z _ _ | exact stays_r _ _ | exact stays_rq _ _ | exact stays_pg _ _ _ | exact stays_true
  · intro i o t sv w' ho hia hd J0 hf
    have p := p.below J0
    have q := q.below J0
    have r := r.below J0
    have XA := XA.below J0
    have XB := XB.below J0
    have XC := XC.below J0
    match i, ho with
    | 0, ho =>
      obtain rfl : { dst := some 14, op := Op.load 83 (Operand.tmp 5), type := 83, pos := "measure.go:44", after := #[], guard := none } = o := Option.some.inj ho
      cases hd
      refine wpOp_plain' (o := { dst := some 14, op := Op.load 83 (Operand.tmp 5), type := 83, pos := "measure.go:44", after := #[], guard := none }) rfl rfl ?_
      unfold Oper.wp
      rw [run_load6 (E5 sv) XC.c0 XC.c1 XC.c2 XC.c3 XC.c4 XC.c5, Oper.upon_value]
      exact ⟨_, rfl, Below.refl _ _, rfl⟩
    | 1, ho =>
      obtain rfl : { dst := some 15, op := Op.load 83 (Operand.tmp 4), type := 83, pos := "measure.go:44", after := #[], guard := none } = o := Option.some.inj ho
      cases hd
      refine wpOp_plain' (o := { dst := some 15, op := Op.load 83 (Operand.tmp 4), type := 83, pos := "measure.go:44", after := #[], guard := none }) rfl rfl ?_
      unfold Oper.wp
      rw [run_load6 (E4 sv) XB.c0 XB.c1 XB.c2 XB.c3 XB.c4 XB.c5, Oper.upon_value]
      exact ⟨_, rfl, Below.refl _ _, rfl⟩
    | 2, ho =>
      obtain rfl : { dst := some 16, op := Op.call { callee := Callee.value (Operand.func 75), args := #[Operand.tmp 14, Operand.tmp 15], argTypes := #[83, 83] }, type := 83, pos := "measure.go:44", after := #[{ on := 0, ground := Ground.data }, { on := 1, ground := Ground.data }], guard := none } = o := Option.some.inj ho
      cases hd
      have f14 : sv 14 = Value.agg #[.bool s_r, .slice A_r n_r c_r, .slice B_r m_r d_r, .bool t_r, .slice E_r i_r e_r, .slice F_r j_r f_r] := hf { on := 0, ground := Ground.data } (by simp) rfl _ 14 rfl rfl (NE _ (by decide))
      have f15 : sv 15 = Value.agg #[.bool s_q, .slice A_q n_q c_q, .slice B_q m_q d_q, .bool t_q, .slice E_q i_q e_q, .slice F_q j_q f_q] := hf { on := 1, ground := Ground.data } (by simp) rfl _ 15 rfl rfl (NE _ (by decide))
      refine wpOp_plain' (o := { dst := some 16, op := Op.call { callee := Callee.value (Operand.func 75), args := #[Operand.tmp 14, Operand.tmp 15], argTypes := #[83, 83] }, type := 83, pos := "measure.go:44", after := #[{ on := 0, ground := Ground.data }, { on := 1, ground := Ground.data }], guard := none }) rfl rfl ?_
      unfold Oper.wp
      rw [rc_gesso_pt_Sub ((G sv 14 (by decide) (by decide)).trans f14) ((G sv 15 (by decide) (by decide)).trans f15) rfl, Oper.upon_enter]
      refine (psub_p r q (by omega) (by omega) (.inl (by omega)) h2 h2).mono ?_
      rintro e w1 ⟨s_, A_, n_, c_, B_, m_, d_, t_, E_, i_, e_, F_, j_, f_, rfl, hq, hh⟩
      exact ⟨_, rfl, hh, s_, A_, n_, c_, B_, m_, d_, t_, E_, i_, e_, F_, j_, f_, rfl, hq⟩
    | 3, ho =>
      obtain rfl : { dst := some 17, op := Op.load 83 (Operand.tmp 3), type := 83, pos := "measure.go:44", after := #[], guard := none } = o := Option.some.inj ho
      cases hd
      refine wpOp_plain' (o := { dst := some 17, op := Op.load 83 (Operand.tmp 3), type := 83, pos := "measure.go:44", after := #[], guard := none }) rfl rfl ?_
      unfold Oper.wp
      rw [run_load6 (E3 sv) XA.c0 XA.c1 XA.c2 XA.c3 XA.c4 XA.c5, Oper.upon_value]
      exact ⟨_, rfl, Below.refl _ _, rfl⟩
    | 4, ho =>
      obtain rfl : { dst := some 18, op := Op.load 83 (Operand.tmp 4), type := 83, pos := "measure.go:44", after := #[], guard := none } = o := Option.some.inj ho
      cases hd
      refine wpOp_plain' (o := { dst := some 18, op := Op.load 83 (Operand.tmp 4), type := 83, pos := "measure.go:44", after := #[], guard := none }) rfl rfl ?_
      unfold Oper.wp
      rw [run_load6 (E4 sv) XB.c0 XB.c1 XB.c2 XB.c3 XB.c4 XB.c5, Oper.upon_value]
      exact ⟨_, rfl, Below.refl _ _, rfl⟩
    | 5, ho =>
      obtain rfl : { dst := some 19, op := Op.call { callee := Callee.value (Operand.func 75), args := #[Operand.tmp 17, Operand.tmp 18], argTypes := #[83, 83] }, type := 83, pos := "measure.go:44", after := #[{ on := 3, ground := Ground.data }, { on := 4, ground := Ground.data }, { on := 2, ground := Ground.chain }], guard := none } = o := Option.some.inj ho
      cases hd
      have f17 : sv 17 = Value.agg #[.bool s_p, .slice A_p n_p c_p, .slice B_p m_p d_p, .bool t_p, .slice E_p i_p e_p, .slice F_p j_p f_p] := hf { on := 3, ground := Ground.data } (by simp) rfl _ 17 rfl rfl (NE _ (by decide))
      have f18 : sv 18 = Value.agg #[.bool s_q, .slice A_q n_q c_q, .slice B_q m_q d_q, .bool t_q, .slice E_q i_q e_q, .slice F_q j_q f_q] := hf { on := 4, ground := Ground.data } (by simp) rfl _ 18 rfl rfl (NE _ (by decide))
      refine wpOp_plain' (o := { dst := some 19, op := Op.call { callee := Callee.value (Operand.func 75), args := #[Operand.tmp 17, Operand.tmp 18], argTypes := #[83, 83] }, type := 83, pos := "measure.go:44", after := #[{ on := 3, ground := Ground.data }, { on := 4, ground := Ground.data }, { on := 2, ground := Ground.chain }], guard := none }) rfl rfl ?_
      unfold Oper.wp
      rw [rc_gesso_pt_Sub ((G sv 17 (by decide) (by decide)).trans f17) ((G sv 18 (by decide) (by decide)).trans f18) rfl, Oper.upon_enter]
      refine (psub_p p q (by omega) (by omega) (.inl (by omega)) h1 h2).mono ?_
      rintro e w1 ⟨s_, A_, n_, c_, B_, m_, d_, t_, E_, i_, e_, F_, j_, f_, rfl, hq, hh⟩
      exact ⟨_, rfl, hh, s_, A_, n_, c_, B_, m_, d_, t_, E_, i_, e_, F_, j_, f_, rfl, hq⟩
    | 6, ho => cases ho; cases hd; exact absurd rfl (hia (B0_segs ax ay bx by_ k) (List.Mem.head _))
    | 7, ho => cases ho; cases hd; exact absurd rfl (hia (B1_segs px py ax ay kp k) (List.Mem.tail _ (List.Mem.head _)))
    | 8, ho => cases ho; cases hd
    | 9, ho => cases ho; cases hd
    | i + 10, ho => cases ho
  · intro p hp os sv w' g hos J0 p1 p3 hf
    simp only [List.mem_cons, List.not_mem_nil, or_false] at hp
    rcases hp with rfl | rfl
    · obtain rfl : { dst := none, op := Op.store 83 (Operand.tmp 7) (Operand.tmp 16), type := 0, pos := "measure.go:44", after := #[{ on := 6, ground := Ground.data }, { on := 2, ground := Ground.data }, { on := 5, ground := Ground.chain }, { on := 0, ground := Ground.phase }, { on := 1, ground := Ground.phase }, { on := 2, ground := Ground.phase }, { on := 3, ground := Ground.textOnly Departure.lateStores }, { on := 4, ground := Ground.textOnly Departure.lateStores }, { on := 5, ground := Ground.textOnly Departure.lateStoresUnsure }, { on := 6, ground := Ground.phase }, { on := 7, ground := Ground.phase }], guard := none } = os := Option.some.inj hos
      have h1 : VPG (bx - ax) (by_ - ay) (k + k + 1) (sv 16) w' := hf { on := 2, ground := Ground.data } (by simp) rfl _ 16 rfl rfl (NE _ (by decide))
      rw [← G sv 16 (by decide) (by decide)] at h1
      refine store_pg (x := bx - ax) (y := by_ - ay) (k := k + k + 1) (ac := putAll ac [14, 15, 16, 17, 18, 19, 7, 8] sv) (z := Operand.tmp 16) ?_ ?_ ?_
      · exact (G sv 7 (by decide) (by decide)).trans p1
      · exact h1
      · exact p3
    · obtain rfl : { dst := none, op := Op.store 83 (Operand.tmp 8) (Operand.tmp 19), type := 0, pos := "measure.go:44", after := #[{ on := 7, ground := Ground.data }, { on := 5, ground := Ground.data }, { on := 8, ground := Ground.chain }, { on := 0, ground := Ground.phase }, { on := 1, ground := Ground.phase }, { on := 2, ground := Ground.phase }, { on := 3, ground := Ground.phase }, { on := 4, ground := Ground.phase }, { on := 5, ground := Ground.phase }, { on := 6, ground := Ground.phase }, { on := 7, ground := Ground.phase }, { on := 8, ground := Ground.phase }], guard := none } = os := Option.some.inj hos
      have h1 : VPG (px - ax) (py - ay) (kp + k + 1) (sv 19) w' := hf { on := 5, ground := Ground.data } (by simp) rfl _ 19 rfl rfl (NE _ (by decide))
      rw [← G sv 19 (by decide) (by decide)] at h1
      refine store_pg (x := px - ax) (y := py - ay) (k := kp + k + 1) (ac := putAll ac [14, 15, 16, 17, 18, 19, 7, 8] sv) (z := Operand.tmp 19) ?_ ?_ ?_
      · exact (G sv 8 (by decide) (by decide)).trans p1
      · exact h1
      · exact p3
  · intro sv w' J0 hF hB hap
    obtain ⟨g0, cs0, p0, r0, b0, ⟨s0, A0, n0, c0, B0, m0, d0, t0, E0, i0, e0, F0, j0, f0, rfl, h0⟩⟩ := hB (B0_segs ax ay bx by_ k) (List.Mem.head _)
    obtain ⟨g1, cs1, p1, r1, b1, ⟨s1, A1, n1, c1, B1, m1, d1, t1, E1, i1, e1, F1, j1, f1, rfl, h1⟩⟩ := hB (B1_segs px py ax ay kp k) (List.Mem.tail _ (List.Mem.head _))
    have p0' : sv 7 = .pointer (some ⟨g0, 0, none⟩) := p0
    have p1' : sv 8 = .pointer (some ⟨g1, 0, none⟩) := p1
    exact hend sv w' g0 _ _ _ _ _ _ _ _ _ _ _ _ _ _ g1 _ _ _ _ _ _ _ _ _ _ _ _ _ _ h0 b0.at_ r0 p0' h1 b1.at_ r1 p1' (fun q => hap (B1_segs px py ax ay kp k) (List.Mem.tail _ (List.Mem.head _)) (B0_segs ax ay bx by_ k) (List.Mem.head _) (show (8 : Nat) ≠ 7 by decide) (by rw [show (B1_segs px py ax ay kp k).tA = 8 from rfl, show (B0_segs ax ay bx by_ k).tA = 7 from rfl, p1', p0', q]))  J0
theorem rc_gesso_pt_Dot {e : Operand → Value} {x0 x1 : Operand} {d : Option Tmp} {y : Nat} {pos : String} {af : Array Edge} {w : World} {u0 u1 : Value} (h0 : e x0 = u0) (h1 : e x1 = u1) (hf : e (.func 81) = .func (.func 81) #[] #[]) :
    (execOp e { dst := d, op := Op.call { callee := Callee.value (Operand.func 81), args := #[x0, x1], argTypes := #[83, 83] }, type := y, pos := pos, after := af, guard := none }).run Tryz.prog w = .ok (.enter 81 #[u0, u1]) w := by
  go_simp
theorem rc_gesso_pt_square {e : Operand → Value} {x0 : Operand} {d : Option Tmp} {y : Nat} {pos : String} {af : Array Edge} {w : World} {u0 : Value} (h0 : e x0 = u0) (hf : e (.func 160) = .func (.func 160) #[] #[]) :
    (execOp e { dst := d, op := Op.call { callee := Callee.value (Operand.func 160), args := #[x0], argTypes := #[83] }, type := y, pos := pos, after := af, guard := none }).run Tryz.prog w = .ok (.enter 160 #[u0]) w := by
  go_simp
def F_dots (s_a : Bool) (t_a : Bool) (A_a : Option Addr) (B_a : Option Addr) (E_a : Option Addr) (F_a : Option Addr) (n_a : Nat) (c_a : Nat) (m_a : Nat) (d_a : Nat) (i_a : Nat) (e_a : Nat) (j_a : Nat) (f_a : Nat) (s_b : Bool) (t_b : Bool) (A_b : Option Addr) (B_b : Option Addr) (E_b : Option Addr) (F_b : Option Addr) (n_b : Nat) (c_b : Nat) (m_b : Nat) (d_b : Nat) (i_b : Nat) (e_b : Nat) (j_b : Nat) (f_b : Nat) (wx : Rat) (wy : Rat) (tx : Rat) (ty : Rat) (ks : Nat) (kt : Nat) (sl : Nat) : Value → World → Prop :=
  match sl with
  | 20 => fun x _ => x = Value.agg #[.bool s_b, .slice A_b n_b c_b, .slice B_b m_b d_b, .bool t_b, .slice E_b i_b e_b, .slice F_b j_b f_b]
  | 21 => fun x _ => x = Value.agg #[.bool s_a, .slice A_a n_a c_a, .slice B_a m_a d_a, .bool t_a, .slice E_a i_a e_a, .slice F_a j_a f_a]
  | 22 => VQ (tx * wx + ty * wy) (kt + ks + (kt + ks) + 1)
  | 23 => fun x _ => x = Value.agg #[.bool s_a, .slice A_a n_a c_a, .slice B_a m_a d_a, .bool t_a, .slice E_a i_a e_a, .slice F_a j_a f_a]
  | 24 => VQ (wx * wx + wy * wy) (ks + ks + (ks + ks) + 1)
  | _ => fun _ _ => True
def B0_dots (wx : Rat) (wy : Rat) (tx : Rat) (ty : Rat) (ks : Nat) (kt : Nat) : BoxOp :=
  ⟨5, 7, 9, 26, #[.bool false, .slice none 0 0, .slice none 0 0], fun cs w => ∃ s A n c B m d, cs = #[.bool s, .slice A n c, .slice B m d] ∧ QG w s A n c B m d (tx * wx + ty * wy) (kt + ks + (kt + ks) + 1)⟩
def B1_dots (wx : Rat) (wy : Rat) (ks : Nat) : BoxOp :=
  ⟨6, 8, 10, 26, #[.bool false, .slice none 0 0, .slice none 0 0], fun cs w => ∃ s A n c B m d, cs = #[.bool s, .slice A n c, .slice B m d] ∧ QG w s A n c B m d (wx * wx + wy * wy) (ks + ks + (ks + ks) + 1)⟩
set_option maxRecDepth 100000 in
set_option maxHeartbeats 4000000 in
theorem dots_region {id : Nat} {ac : Act} {w : World} {Q : Exit → Act → World → Prop} {s_a t_a : Bool} {A_a B_a E_a F_a : Option Addr} {n_a c_a m_a d_a i_a e_a j_a f_a : Nat} {s_b t_b : Bool} {A_b B_b E_b F_b : Option Addr} {n_b c_b m_b d_b i_b e_b j_b f_b : Nat} {wx wy tx ty : Rat} {ks kt gp gq : Nat}
    (hsz : 24 < ac.tmps.size) (e7 : ac.eval (.tmp 7) = Value.pointer (some ⟨gp, 0, none⟩)) (e8 : ac.eval (.tmp 8) = Value.pointer (some ⟨gq, 0, none⟩)) (XW : B6 w gp (.bool s_a) (.slice A_a n_a c_a) (.slice B_a m_a d_a) (.bool t_a) (.slice E_a i_a e_a) (.slice F_a j_a f_a)) (XT : B6 w gq (.bool s_b) (.slice A_b n_b c_b) (.slice B_b m_b d_b) (.bool t_b) (.slice E_b i_b e_b) (.slice F_b j_b f_b)) (a : PR w s_a A_a n_a c_a B_a m_a d_a t_a E_a i_a e_a F_a j_a f_a wx wy ks) (b : PR w s_b A_b n_b c_b B_b m_b d_b t_b E_b i_b e_b F_b j_b f_b tx ty kt) (hks : ks ≤ 90) (hkt : kt ≤ 90) (h1 : 1 ≤ ks) (h2 : 1 ≤ kt)
    (hend : ∀ (V : Nat → Value) (w' : World) (g0 : Nat) (s0 : Bool) (A0 : Option Addr) (n0 : Nat) (c0 : Nat) (B0 : Option Addr) (m0 : Nat) (d0 : Nat) (g1 : Nat) (s1 : Bool) (A1 : Option Addr) (n1 : Nat) (c1 : Nat) (B1 : Option Addr) (m1 : Nat) (d1 : Nat), QG w' s0 A0 n0 c0 B0 m0 d0 (tx * wx + ty * wy) (kt + ks + (kt + ks) + 1) → B3 w' g0 (.bool s0) (.slice A0 n0 c0) (.slice B0 m0 d0) → w.heap.size ≤ g0 → V 9 = .pointer (some ⟨g0, 0, none⟩) → QG w' s1 A1 n1 c1 B1 m1 d1 (wx * wx + wy * wy) (ks + ks + (ks + ks) + 1) → B3 w' g1 (.bool s1) (.slice A1 n1 c1) (.slice B1 m1 d1) → w.heap.size ≤ g1 → V 10 = .pointer (some ⟨g1, 0, none⟩) → g1 ≠ g0 → Below w.heap.size w w' → Q .normal (putAll ac [20, 21, 22, 23, 24, 9, 10] V) w') :
    (Code.region id #[{ dst := some 20, op := Op.load 83 (Operand.tmp 8), type := 83, pos := "measure.go:45", after := #[], guard := none },
      { dst := some 21, op := Op.load 83 (Operand.tmp 7), type := 83, pos := "measure.go:45", after := #[], guard := none },
      { dst := some 22, op := Op.call { callee := Callee.value (Operand.func 81), args := #[Operand.tmp 20, Operand.tmp 21], argTypes := #[83, 83] }, type := 26, pos := "measure.go:45", after := #[{ on := 0, ground := Ground.data }, { on := 1, ground := Ground.data }], guard := none },
      { dst := some 23, op := Op.load 83 (Operand.tmp 7), type := 83, pos := "measure.go:45", after := #[], guard := none },
      { dst := some 24, op := Op.call { callee := Callee.value (Operand.func 160), args := #[Operand.tmp 23], argTypes := #[83] }, type := 26, pos := "measure.go:45", after := #[{ on := 3, ground := Ground.data }, { on := 2, ground := Ground.chain }], guard := none },
      { dst := some 9, op := Op.alloc 26, type := 0, pos := "measure.go:45", after := #[], guard := none },
      { dst := some 10, op := Op.alloc 26, type := 0, pos := "measure.go:45", after := #[], guard := none },
      { dst := none, op := Op.store 26 (Operand.tmp 9) (Operand.tmp 22), type := 0, pos := "measure.go:45", after := #[{ on := 5, ground := Ground.data }, { on := 2, ground := Ground.data }, { on := 4, ground := Ground.chain }, { on := 0, ground := Ground.phase }, { on := 1, ground := Ground.phase }, { on := 2, ground := Ground.phase }, { on := 3, ground := Ground.textOnly Departure.lateStores }, { on := 4, ground := Ground.textOnly Departure.lateStoresUnsure }, { on := 5, ground := Ground.phase }, { on := 6, ground := Ground.phase }], guard := none },
      { dst := none, op := Op.store 26 (Operand.tmp 10) (Operand.tmp 24), type := 0, pos := "measure.go:45", after := #[{ on := 6, ground := Ground.data }, { on := 4, ground := Ground.data }, { on := 7, ground := Ground.chain }, { on := 0, ground := Ground.phase }, { on := 1, ground := Ground.phase }, { on := 2, ground := Ground.phase }, { on := 3, ground := Ground.phase }, { on := 4, ground := Ground.phase }, { on := 5, ground := Ground.phase }, { on := 6, ground := Ground.phase }, { on := 7, ground := Ground.phase }], guard := none }] true).wp Tryz.prog Q ac w := by
  have hnd : ([20, 21, 22, 23, 24, 9, 10] : List Nat).Nodup := by decide
  have G : ∀ (sv : Nat → Value) (t : Nat), t ∈ ([20, 21, 22, 23, 24, 9, 10] : List Nat) → t ≤ 24 → (putAll ac [20, 21, 22, 23, 24, 9, 10] sv).eval (.tmp t) = sv t := fun sv t ht h => eval_putAll_mem (t := t) [20, 21, 22, 23, 24, 9, 10] ac hnd ht (Nat.lt_of_le_of_lt h hsz)
  have E7 : ∀ sv : Nat → Value, (putAll ac [20, 21, 22, 23, 24, 9, 10] sv).eval (.tmp 7) = Value.pointer (some ⟨gp, 0, none⟩) := fun sv => (eval_putAll_not (v := sv) [20, 21, 22, 23, 24, 9, 10] ac (show 7 ∉ _ by decide)).trans e7
  have E8 : ∀ sv : Nat → Value, (putAll ac [20, 21, 22, 23, 24, 9, 10] sv).eval (.tmp 8) = Value.pointer (some ⟨gq, 0, none⟩) := fun sv => (eval_putAll_not (v := sv) [20, 21, 22, 23, 24, 9, 10] ac (show 8 ∉ _ by decide)).trans e8
  have NE : ∀ t : Nat, (t ≠ 9 ∧ t ≠ 10) → ∀ p ∈ [B0_dots wx wy tx ty ks kt, B1_dots wx wy ks], t ≠ p.tA := by
    intro t ht p hp
    simp only [List.mem_cons, List.not_mem_nil, or_false] at hp
    rcases hp with rfl | rfl
    · exact ht.1
    · exact ht.2
  refine wp_region_flows [20, 21, 22, 23, 24, 9, 10] [B0_dots wx wy tx ty ks kt, B1_dots wx wy ks] (F_dots s_a t_a A_a B_a E_a F_a n_a c_a m_a d_a i_a e_a j_a f_a s_b t_b A_b B_b E_b F_b n_b c_b m_b d_b i_b e_b j_b f_b wx wy tx ty ks kt) (by kernel_rfl) (by kernel_rfl) rfl hnd ?_ ?_ ?_ ?_ ?_ ?_ ?_ ?_
  · intro p hp
    simp only [List.mem_cons, List.not_mem_nil, or_false] at hp
    rcases hp with rfl | rfl
    · refine ⟨⟨{ dst := some 9, op := Op.alloc 26, type := 0, pos := "measure.go:45", after := #[], guard := none }, rfl, rfl, rfl, fun e w' => run_allocQ⟩, ⟨{ dst := none, op := Op.store 26 (Operand.tmp 9) (Operand.tmp 22), type := 0, pos := "measure.go:45", after := #[{ on := 5, ground := Ground.data }, { on := 2, ground := Ground.data }, { on := 4, ground := Ground.chain }, { on := 0, ground := Ground.phase }, { on := 1, ground := Ground.phase }, { on := 2, ground := Ground.phase }, { on := 3, ground := Ground.textOnly Departure.lateStores }, { on := 4, ground := Ground.textOnly Departure.lateStoresUnsure }, { on := 5, ground := Ground.phase }, { on := 6, ground := Ground.phase }], guard := none }, rfl, rfl, rfl, { on := 5, ground := Ground.data }, by simp, rfl, rfl⟩, free3 _ _ _ _ _ _ _, ?_, ?_⟩
      · rintro cs w1 w2 ⟨s_, A_, n_, c_, B_, m_, d_, rfl, h⟩ hb; exact ⟨s_, A_, n_, c_, B_, m_, d_, rfl, h.below hb⟩
      · rintro T cs w1 w2 g c0 ⟨s_, A_, n_, c_, B_, m_, d_, rfl, h⟩ hB ho; exact ⟨s_, A_, n_, c_, B_, m_, d_, rfl, h.box hB ho⟩
    · refine ⟨⟨{ dst := some 10, op := Op.alloc 26, type := 0, pos := "measure.go:45", after := #[], guard := none }, rfl, rfl, rfl, fun e w' => run_allocQ⟩, ⟨{ dst := none, op := Op.store 26 (Operand.tmp 10) (Operand.tmp 24), type := 0, pos := "measure.go:45", after := #[{ on := 6, ground := Ground.data }, { on := 4, ground := Ground.data }, { on := 7, ground := Ground.chain }, { on := 0, ground := Ground.phase }, { on := 1, ground := Ground.phase }, { on := 2, ground := Ground.phase }, { on := 3, ground := Ground.phase }, { on := 4, ground := Ground.phase }, { on := 5, ground := Ground.phase }, { on := 6, ground := Ground.phase }, { on := 7, ground := Ground.phase }], guard := none }, rfl, rfl, rfl, { on := 6, ground := Ground.data }, by simp, rfl, rfl⟩, free3 _ _ _ _ _ _ _, ?_, ?_⟩
      · rintro cs w1 w2 ⟨s_, A_, n_, c_, B_, m_, d_, rfl, h⟩ hb; exact ⟨s_, A_, n_, c_, B_, m_, d_, rfl, h.below hb⟩
      · rintro T cs w1 w2 g c0 ⟨s_, A_, n_, c_, B_, m_, d_, rfl, h⟩ hB ho; exact ⟨s_, A_, n_, c_, B_, m_, d_, rfl, h.box hB ho⟩
  · intro p hp q hq h
    simp only [List.mem_cons, List.not_mem_nil, or_false] at hp hq
    rcases hp with rfl | rfl <;> rcases hq with rfl | rfl
    · rfl
    · exact absurd (show (9 : Nat) = 10 from h) (by decide)
    · exact absurd (show (10 : Nat) = 9 from h) (by decide)
    · rfl
  · intro p hp q hq h
    simp only [List.mem_cons, List.not_mem_nil, or_false] at hp hq
    rcases hp with rfl | rfl <;> rcases hq with rfl | rfl
    · rfl
    · exact absurd (show (7 : Nat) = 8 from h) (by decide)
    · exact absurd (show (8 : Nat) = 7 from h) (by decide)
    · rfl
  · intro i o h1 h2
    match i, h1 with
    | 0, h1 => cases h1; cases h2
    | 1, h1 => cases h1; cases h2
    | 2, h1 => cases h1; cases h2
    | 3, h1 => cases h1; cases h2
    | 4, h1 => cases h1; cases h2
    | 5, h1 => cases h1; cases h2
    | 6, h1 => cases h1; cases h2
    | 7, h1 => exact ⟨B0_dots wx wy tx ty ks kt, List.Mem.head _, rfl⟩
    | 8, h1 => exact ⟨B1_dots wx wy ks, List.Mem.tail _ (List.Mem.head _), rfl⟩
    | i + 9, h1 => cases h1
  · intro t
    unfold F_dots
    split <;> first | exact stays_eq _ | exact stays_q _ _ | exact stays_z _ _ | exact stays_r _ _ | exact stays_rq _ _ | exact stays_pg _ _ _ | exact stays_true
  · intro i o t sv w' ho hia hd J0 hf
    have a := a.below J0
    have b := b.below J0
    have XW := XW.below J0
    have XT := XT.below J0
    match i, ho with
    | 0, ho =>
      obtain rfl : { dst := some 20, op := Op.load 83 (Operand.tmp 8), type := 83, pos := "measure.go:45", after := #[], guard := none } = o := Option.some.inj ho
      cases hd
      refine wpOp_plain' (o := { dst := some 20, op := Op.load 83 (Operand.tmp 8), type := 83, pos := "measure.go:45", after := #[], guard := none }) rfl rfl ?_
      unfold Oper.wp
      rw [run_load6 (E8 sv) XT.c0 XT.c1 XT.c2 XT.c3 XT.c4 XT.c5, Oper.upon_value]
      exact ⟨_, rfl, Below.refl _ _, rfl⟩
    | 1, ho =>
      obtain rfl : { dst := some 21, op := Op.load 83 (Operand.tmp 7), type := 83, pos := "measure.go:45", after := #[], guard := none } = o := Option.some.inj ho
      cases hd
      refine wpOp_plain' (o := { dst := some 21, op := Op.load 83 (Operand.tmp 7), type := 83, pos := "measure.go:45", after := #[], guard := none }) rfl rfl ?_
      unfold Oper.wp
      rw [run_load6 (E7 sv) XW.c0 XW.c1 XW.c2 XW.c3 XW.c4 XW.c5, Oper.upon_value]
      exact ⟨_, rfl, Below.refl _ _, rfl⟩
    | 2, ho =>
      obtain rfl : { dst := some 22, op := Op.call { callee := Callee.value (Operand.func 81), args := #[Operand.tmp 20, Operand.tmp 21], argTypes := #[83, 83] }, type := 26, pos := "measure.go:45", after := #[{ on := 0, ground := Ground.data }, { on := 1, ground := Ground.data }], guard := none } = o := Option.some.inj ho
      cases hd
      have f20 : sv 20 = Value.agg #[.bool s_b, .slice A_b n_b c_b, .slice B_b m_b d_b, .bool t_b, .slice E_b i_b e_b, .slice F_b j_b f_b] := hf { on := 0, ground := Ground.data } (by simp) rfl _ 20 rfl rfl (NE _ (by decide))
      have f21 : sv 21 = Value.agg #[.bool s_a, .slice A_a n_a c_a, .slice B_a m_a d_a, .bool t_a, .slice E_a i_a e_a, .slice F_a j_a f_a] := hf { on := 1, ground := Ground.data } (by simp) rfl _ 21 rfl rfl (NE _ (by decide))
      refine wpOp_plain' (o := { dst := some 22, op := Op.call { callee := Callee.value (Operand.func 81), args := #[Operand.tmp 20, Operand.tmp 21], argTypes := #[83, 83] }, type := 26, pos := "measure.go:45", after := #[{ on := 0, ground := Ground.data }, { on := 1, ground := Ground.data }], guard := none }) rfl rfl ?_
      unfold Oper.wp
      rw [rc_gesso_pt_Dot ((G sv 20 (by decide) (by decide)).trans f20) ((G sv 21 (by decide) (by decide)).trans f21) rfl, Oper.upon_enter]
      refine (pdot_p b a (by omega) h2 h1).mono ?_
      rintro e w1 ⟨s_, A_, n_, c_, B_, m_, d_, rfl, hq, hh⟩
      exact ⟨_, rfl, hh, s_, A_, n_, c_, B_, m_, d_, rfl, hq⟩
    | 3, ho =>
      obtain rfl : { dst := some 23, op := Op.load 83 (Operand.tmp 7), type := 83, pos := "measure.go:45", after := #[], guard := none } = o := Option.some.inj ho
      cases hd
      refine wpOp_plain' (o := { dst := some 23, op := Op.load 83 (Operand.tmp 7), type := 83, pos := "measure.go:45", after := #[], guard := none }) rfl rfl ?_
      unfold Oper.wp
      rw [run_load6 (E7 sv) XW.c0 XW.c1 XW.c2 XW.c3 XW.c4 XW.c5, Oper.upon_value]
      exact ⟨_, rfl, Below.refl _ _, rfl⟩
    | 4, ho =>
      obtain rfl : { dst := some 24, op := Op.call { callee := Callee.value (Operand.func 160), args := #[Operand.tmp 23], argTypes := #[83] }, type := 26, pos := "measure.go:45", after := #[{ on := 3, ground := Ground.data }, { on := 2, ground := Ground.chain }], guard := none } = o := Option.some.inj ho
      cases hd
      have f23 : sv 23 = Value.agg #[.bool s_a, .slice A_a n_a c_a, .slice B_a m_a d_a, .bool t_a, .slice E_a i_a e_a, .slice F_a j_a f_a] := hf { on := 3, ground := Ground.data } (by simp) rfl _ 23 rfl rfl (NE _ (by decide))
      refine wpOp_plain' (o := { dst := some 24, op := Op.call { callee := Callee.value (Operand.func 160), args := #[Operand.tmp 23], argTypes := #[83] }, type := 26, pos := "measure.go:45", after := #[{ on := 3, ground := Ground.data }, { on := 2, ground := Ground.chain }], guard := none }) rfl rfl ?_
      unfold Oper.wp
      rw [rc_gesso_pt_square ((G sv 23 (by decide) (by decide)).trans f23) rfl, Oper.upon_enter]
      refine (psquare_p a (by omega) h1).mono ?_
      rintro e w1 ⟨s_, A_, n_, c_, B_, m_, d_, rfl, hq, hh⟩
      exact ⟨_, rfl, hh, s_, A_, n_, c_, B_, m_, d_, rfl, hq⟩
    | 5, ho => cases ho; cases hd; exact absurd rfl (hia (B0_dots wx wy tx ty ks kt) (List.Mem.head _))
    | 6, ho => cases ho; cases hd; exact absurd rfl (hia (B1_dots wx wy ks) (List.Mem.tail _ (List.Mem.head _)))
    | 7, ho => cases ho; cases hd
    | 8, ho => cases ho; cases hd
    | i + 9, ho => cases ho
  · intro p hp os sv w' g hos J0 p1 p3 hf
    simp only [List.mem_cons, List.not_mem_nil, or_false] at hp
    rcases hp with rfl | rfl
    · obtain rfl : { dst := none, op := Op.store 26 (Operand.tmp 9) (Operand.tmp 22), type := 0, pos := "measure.go:45", after := #[{ on := 5, ground := Ground.data }, { on := 2, ground := Ground.data }, { on := 4, ground := Ground.chain }, { on := 0, ground := Ground.phase }, { on := 1, ground := Ground.phase }, { on := 2, ground := Ground.phase }, { on := 3, ground := Ground.textOnly Departure.lateStores }, { on := 4, ground := Ground.textOnly Departure.lateStoresUnsure }, { on := 5, ground := Ground.phase }, { on := 6, ground := Ground.phase }], guard := none } = os := Option.some.inj hos
      have h1 : VQ (tx * wx + ty * wy) (kt + ks + (kt + ks) + 1) (sv 22) w' := hf { on := 2, ground := Ground.data } (by simp) rfl _ 22 rfl rfl (NE _ (by decide))
      rw [← G sv 22 (by decide) (by decide)] at h1
      refine store_q (V := tx * wx + ty * wy) (k := kt + ks + (kt + ks) + 1) (ac := putAll ac [20, 21, 22, 23, 24, 9, 10] sv) (z := Operand.tmp 22) ?_ ?_ ?_
      · exact (G sv 9 (by decide) (by decide)).trans p1
      · exact h1
      · exact p3
    · obtain rfl : { dst := none, op := Op.store 26 (Operand.tmp 10) (Operand.tmp 24), type := 0, pos := "measure.go:45", after := #[{ on := 6, ground := Ground.data }, { on := 4, ground := Ground.data }, { on := 7, ground := Ground.chain }, { on := 0, ground := Ground.phase }, { on := 1, ground := Ground.phase }, { on := 2, ground := Ground.phase }, { on := 3, ground := Ground.phase }, { on := 4, ground := Ground.phase }, { on := 5, ground := Ground.phase }, { on := 6, ground := Ground.phase }, { on := 7, ground := Ground.phase }], guard := none } = os := Option.some.inj hos
      have h1 : VQ (wx * wx + wy * wy) (ks + ks + (ks + ks) + 1) (sv 24) w' := hf { on := 4, ground := Ground.data } (by simp) rfl _ 24 rfl rfl (NE _ (by decide))
      rw [← G sv 24 (by decide) (by decide)] at h1
      refine store_q (V := wx * wx + wy * wy) (k := ks + ks + (ks + ks) + 1) (ac := putAll ac [20, 21, 22, 23, 24, 9, 10] sv) (z := Operand.tmp 24) ?_ ?_ ?_
      · exact (G sv 10 (by decide) (by decide)).trans p1
      · exact h1
      · exact p3
  · intro sv w' J0 hF hB hap
    obtain ⟨g0, cs0, p0, r0, b0, ⟨s0, A0, n0, c0, B0, m0, d0, rfl, h0⟩⟩ := hB (B0_dots wx wy tx ty ks kt) (List.Mem.head _)
    obtain ⟨g1, cs1, p1, r1, b1, ⟨s1, A1, n1, c1, B1, m1, d1, rfl, h1⟩⟩ := hB (B1_dots wx wy ks) (List.Mem.tail _ (List.Mem.head _))
    have p0' : sv 9 = .pointer (some ⟨g0, 0, none⟩) := p0
    have p1' : sv 10 = .pointer (some ⟨g1, 0, none⟩) := p1
    exact hend sv w' g0 _ _ _ _ _ _ _ g1 _ _ _ _ _ _ _ h0 b0.at_ r0 p0' h1 b1.at_ r1 p1' (fun q => hap (B1_dots wx wy ks) (List.Mem.tail _ (List.Mem.head _)) (B0_dots wx wy tx ty ks kt) (List.Mem.head _) (show (10 : Nat) ≠ 9 by decide) (by rw [show (B1_dots wx wy ks).tA = 10 from rfl, show (B0_dots wx wy tx ty ks kt).tA = 9 from rfl, p1', p0', q]))  J0
theorem rc_gesso_rat_Mul {e : Operand → Value} {x0 x1 : Operand} {d : Option Tmp} {y : Nat} {pos : String} {af : Array Edge} {w : World} {u0 u1 : Value} (h0 : e x0 = u0) (h1 : e x1 = u1) (hf : e (.func 26) = .func (.func 26) #[] #[]) :
    (execOp e { dst := d, op := Op.call { callee := Callee.value (Operand.func 26), args := #[x0, x1], argTypes := #[26, 26] }, type := y, pos := pos, after := af, guard := none }).run Tryz.prog w = .ok (.enter 26 #[u0, u1]) w := by
  go_simp
theorem rc_gesso_rat_Div {e : Operand → Value} {x0 x1 : Operand} {d : Option Tmp} {y : Nat} {pos : String} {af : Array Edge} {w : World} {u0 u1 : Value} (h0 : e x0 = u0) (h1 : e x1 = u1) (hf : e (.func 18) = .func (.func 18) #[] #[]) :
    (execOp e { dst := d, op := Op.call { callee := Callee.value (Operand.func 18), args := #[x0, x1], argTypes := #[26, 26] }, type := y, pos := pos, after := af, guard := none }).run Tryz.prog w = .ok (.enter 18 #[u0, u1]) w := by
  go_simp
def F_aside (s_c : Bool) (A_c : Option Addr) (B_c : Option Addr) (n_c : Nat) (c_c : Nat) (m_c : Nat) (d_c : Nat) (s_g : Bool) (A_g : Option Addr) (B_g : Option Addr) (n_g : Nat) (c_g : Nat) (m_g : Nat) (d_g : Nat) (cv : Rat) (gv : Rat) (k1 : Nat) (k2 : Nat) (sl : Nat) : Value → World → Prop :=
  match sl with
  | 43 => fun x _ => x = Value.agg #[.bool s_c, .slice A_c n_c c_c, .slice B_c m_c d_c]
  | 44 => fun x _ => x = Value.agg #[.bool s_c, .slice A_c n_c c_c, .slice B_c m_c d_c]
  | 45 => VQ (cv * cv) (k1 + k1)
  | 46 => fun x _ => x = Value.agg #[.bool s_g, .slice A_g n_g c_g, .slice B_g m_g d_g]
  | 47 => VQE (fun u => ∃ R, u = R ∧ R = cv * cv / gv) (k1 + k1 + k2)
  | 42 => VQE (fun u => ∃ R, u = R ∧ R = cv * cv / gv) (k1 + k1 + k2)
  | 48 => VQS (fun u => ∃ R, u = R ∧ R = cv * cv / gv) (k1 + k1 + k2)
  | 49 => fun x _ => x = Value.int .i64 0
  | 13 => fun x _ => x = Value.int .i64 0
  | _ => fun _ _ => True
set_option maxRecDepth 100000 in
set_option maxHeartbeats 4000000 in
theorem aside_region {id : Nat} {ac : Act} {w : World} {Q : Exit → Act → World → Prop} {s_c : Bool} {A_c B_c : Option Addr} {n_c c_c m_c d_c : Nat} {s_g : Bool} {A_g B_g : Option Addr} {n_g c_g m_g d_g : Nat} {cv gv : Rat} {k1 k2 gp gq : Nat}
    (hsz : 49 < ac.tmps.size) (e11 : ac.eval (.tmp 11) = Value.pointer (some ⟨gp, 0, none⟩)) (e10 : ac.eval (.tmp 10) = Value.pointer (some ⟨gq, 0, none⟩)) (XU : B3 w gp (.bool s_c) (.slice A_c n_c c_c) (.slice B_c m_c d_c)) (XG : B3 w gq (.bool s_g) (.slice A_g n_g c_g) (.slice B_g m_g d_g)) (c : QR w s_c A_c n_c c_c B_c m_c d_c cv k1) (g : QR w s_g A_g n_g c_g B_g m_g d_g gv k2) (hk1 : k1 ≤ 200) (hk2 : k2 ≤ 400) (h1 : 1 ≤ k1) (h2 : 1 ≤ k2) (hg : gv ≠ 0)
    (hend : ∀ (V : Nat → Value) (w' : World) (g : Nat) (u : Rat) (s : Bool) (A : Option Addr) (n c : Nat) (B : Option Addr) (m d : Nat), (fun u => ∃ R, u = R ∧ R = cv * cv / gv) u → QG w' s A n c B m d u (k1 + k1 + k2) → B3 w' g (.bool s) (.slice A n c) (.slice B m d) → Below w.heap.size w w' → w.heap.size ≤ g → V 12 = .pointer (some ⟨g, 0, none⟩) → Q .normal (putAll ac [43, 44, 45, 46, 47, 42, 48, 49, 12, 13] V) w') :
    (Code.region id #[{ dst := some 43, op := Op.load 26 (Operand.tmp 11), type := 26, pos := "measure.go:54", after := #[], guard := none },
      { dst := some 44, op := Op.load 26 (Operand.tmp 11), type := 26, pos := "measure.go:54", after := #[], guard := none },
      { dst := some 45, op := Op.call { callee := Callee.value (Operand.func 26), args := #[Operand.tmp 43, Operand.tmp 44], argTypes := #[26, 26] }, type := 26, pos := "measure.go:54", after := #[{ on := 0, ground := Ground.data }, { on := 1, ground := Ground.data }], guard := none },
      { dst := some 46, op := Op.load 26 (Operand.tmp 10), type := 26, pos := "measure.go:54", after := #[], guard := none },
      { dst := some 47, op := Op.call { callee := Callee.value (Operand.func 18), args := #[Operand.tmp 45, Operand.tmp 46], argTypes := #[26, 26] }, type := 38, pos := "measure.go:54", after := #[{ on := 2, ground := Ground.data }, { on := 3, ground := Ground.data }, { on := 2, ground := Ground.chain }], guard := none },
      { dst := some 42, op := Op.move (Operand.tmp 47), type := 38, pos := "measure.go:54", after := #[{ on := 4, ground := Ground.data }], guard := none },
      { dst := some 48, op := Op.extract (Operand.tmp 42) 0, type := 26, pos := "measure.go:54", after := #[{ on := 5, ground := Ground.data }], guard := none },
      { dst := some 49, op := Op.extract (Operand.tmp 42) 1, type := 37, pos := "measure.go:54", after := #[{ on := 5, ground := Ground.data }, { on := 9, ground := Ground.gcOnly Departure.lateStores }], guard := none },
      { dst := some 12, op := Op.alloc 26, type := 0, pos := "measure.go:54", after := #[], guard := none },
      { dst := none, op := Op.store 26 (Operand.tmp 12) (Operand.tmp 48), type := 0, pos := "measure.go:54", after := #[{ on := 8, ground := Ground.data }, { on := 6, ground := Ground.data }, { on := 4, ground := Ground.chain }, { on := 0, ground := Ground.phase }, { on := 1, ground := Ground.phase }, { on := 2, ground := Ground.phase }, { on := 3, ground := Ground.phase }, { on := 4, ground := Ground.phase }, { on := 5, ground := Ground.phase }, { on := 6, ground := Ground.phase }, { on := 7, ground := Ground.textOnly Departure.lateStores }, { on := 8, ground := Ground.phase }], guard := none },
      { dst := some 13, op := Op.assign (Operand.tmp 49), type := 37, pos := "measure.go:54", after := #[{ on := 7, ground := Ground.data }, { on := 9, ground := Ground.chain }, { on := 0, ground := Ground.phase }, { on := 1, ground := Ground.phase }, { on := 2, ground := Ground.phase }, { on := 3, ground := Ground.phase }, { on := 4, ground := Ground.phase }, { on := 5, ground := Ground.phase }, { on := 6, ground := Ground.phase }, { on := 7, ground := Ground.phase }, { on := 8, ground := Ground.phase }, { on := 9, ground := Ground.phase }], guard := none }] true).wp Tryz.prog Q ac w := by
  have hnd : ([43, 44, 45, 46, 47, 42, 48, 49, 12, 13] : List Nat).Nodup := by decide
  have G : ∀ (sv : Nat → Value) (t : Nat), t ∈ ([43, 44, 45, 46, 47, 42, 48, 49, 12, 13] : List Nat) → t ≤ 49 → (putAll ac [43, 44, 45, 46, 47, 42, 48, 49, 12, 13] sv).eval (.tmp t) = sv t := fun sv t ht h => eval_putAll_mem (t := t) [43, 44, 45, 46, 47, 42, 48, 49, 12, 13] ac hnd ht (Nat.lt_of_le_of_lt h hsz)
  have E11 : ∀ sv : Nat → Value, (putAll ac [43, 44, 45, 46, 47, 42, 48, 49, 12, 13] sv).eval (.tmp 11) = Value.pointer (some ⟨gp, 0, none⟩) := fun sv => (eval_putAll_not (v := sv) [43, 44, 45, 46, 47, 42, 48, 49, 12, 13] ac (show 11 ∉ _ by decide)).trans e11
  have E10 : ∀ sv : Nat → Value, (putAll ac [43, 44, 45, 46, 47, 42, 48, 49, 12, 13] sv).eval (.tmp 10) = Value.pointer (some ⟨gq, 0, none⟩) := fun sv => (eval_putAll_not (v := sv) [43, 44, 45, 46, 47, 42, 48, 49, 12, 13] ac (show 10 ∉ _ by decide)).trans e10
  refine wp_region_flow 26 #[.bool false, .slice none 0 0, .slice none 0 0] [43, 44, 45, 46, 47, 42, 48, 49, 12, 13] 8 9 12 ({ dst := some 12, op := Op.alloc 26, type := 0, pos := "measure.go:54", after := #[], guard := none }) ({ dst := none, op := Op.store 26 (Operand.tmp 12) (Operand.tmp 48), type := 0, pos := "measure.go:54", after := #[{ on := 8, ground := Ground.data }, { on := 6, ground := Ground.data }, { on := 4, ground := Ground.chain }, { on := 0, ground := Ground.phase }, { on := 1, ground := Ground.phase }, { on := 2, ground := Ground.phase }, { on := 3, ground := Ground.phase }, { on := 4, ground := Ground.phase }, { on := 5, ground := Ground.phase }, { on := 6, ground := Ground.phase }, { on := 7, ground := Ground.textOnly Departure.lateStores }, { on := 8, ground := Ground.phase }], guard := none }) (F_aside s_c A_c B_c n_c c_c m_c d_c s_g A_g B_g n_g c_g m_g d_g cv gv k1 k2) (fun cs w => ∃ v, (fun u => ∃ R, u = R ∧ R = cv * cv / gv) v ∧ ∃ s A n c B m d, cs = #[.bool s, .slice A n c, .slice B m d] ∧ QG w s A n c B m d v (k1 + k1 + k2)) (by kernel_rfl) (by kernel_rfl) rfl hnd rfl rfl rfl rfl ?_ rfl rfl ⟨{ on := 8, ground := Ground.data }, by simp, rfl, rfl⟩ ?_ (free3 _ _ _ _ _ _ _) (fun e w' => run_allocQ) ?_ ?_ ?_ ?_
  · intro i o h1 h2
    match i, h1 with
    | 0, h1 => cases h1; cases h2
    | 1, h1 => cases h1; cases h2
    | 2, h1 => cases h1; cases h2
    | 3, h1 => cases h1; cases h2
    | 4, h1 => cases h1; cases h2
    | 5, h1 => cases h1; cases h2
    | 6, h1 => cases h1; cases h2
    | 7, h1 => cases h1; cases h2
    | 8, h1 => cases h1; cases h2
    | 9, h1 => cases h1; rfl
    | 10, h1 => cases h1; cases h2
    | i + 11, h1 => cases h1
  · intro t
    unfold F_aside
    split <;> first | exact stays_eq _ | exact stays_q _ _ | exact stays_z _ _ | exact stays_r _ _ | exact stays_qe _ _ | exact stays_qs _ _ | exact stays_true
  · intro i o t sv w' ho hia hd J0 hf
    have c := c.below J0
    have g := g.below J0
    have XU := XU.below J0
    have XG := XG.below J0
    match i, ho with
    | 0, ho =>
      obtain rfl : { dst := some 43, op := Op.load 26 (Operand.tmp 11), type := 26, pos := "measure.go:54", after := #[], guard := none } = o := Option.some.inj ho
      cases hd
      refine wpOp_plain' (o := { dst := some 43, op := Op.load 26 (Operand.tmp 11), type := 26, pos := "measure.go:54", after := #[], guard := none }) rfl rfl ?_
      unfold Oper.wp
      rw [run_loadQ (E11 sv) XU.c0 XU.c1 XU.c2, Oper.upon_value]
      exact ⟨_, rfl, Below.refl _ _, rfl⟩
    | 1, ho =>
      obtain rfl : { dst := some 44, op := Op.load 26 (Operand.tmp 11), type := 26, pos := "measure.go:54", after := #[], guard := none } = o := Option.some.inj ho
      cases hd
      refine wpOp_plain' (o := { dst := some 44, op := Op.load 26 (Operand.tmp 11), type := 26, pos := "measure.go:54", after := #[], guard := none }) rfl rfl ?_
      unfold Oper.wp
      rw [run_loadQ (E11 sv) XU.c0 XU.c1 XU.c2, Oper.upon_value]
      exact ⟨_, rfl, Below.refl _ _, rfl⟩
    | 2, ho =>
      obtain rfl : { dst := some 45, op := Op.call { callee := Callee.value (Operand.func 26), args := #[Operand.tmp 43, Operand.tmp 44], argTypes := #[26, 26] }, type := 26, pos := "measure.go:54", after := #[{ on := 0, ground := Ground.data }, { on := 1, ground := Ground.data }], guard := none } = o := Option.some.inj ho
      cases hd
      have f43 : sv 43 = Value.agg #[.bool s_c, .slice A_c n_c c_c, .slice B_c m_c d_c] := hf { on := 0, ground := Ground.data } (by simp) rfl _ 43 rfl rfl (by decide)
      have f44 : sv 44 = Value.agg #[.bool s_c, .slice A_c n_c c_c, .slice B_c m_c d_c] := hf { on := 1, ground := Ground.data } (by simp) rfl _ 44 rfl rfl (by decide)
      refine wpOp_plain' (o := { dst := some 45, op := Op.call { callee := Callee.value (Operand.func 26), args := #[Operand.tmp 43, Operand.tmp 44], argTypes := #[26, 26] }, type := 26, pos := "measure.go:54", after := #[{ on := 0, ground := Ground.data }, { on := 1, ground := Ground.data }], guard := none }) rfl rfl ?_
      unfold Oper.wp
      rw [rc_gesso_rat_Mul ((G sv 43 (by decide) (by decide)).trans f43) ((G sv 44 (by decide) (by decide)).trans f44) rfl, Oper.upon_enter]
      refine (rmul_q c c (by omega) (by omega) (.inl (by omega)) h1 h1).mono ?_
      rintro e w1 ⟨s1, A1, n1, c1, B1, m1, d1, rfl, hq, hh⟩
      exact ⟨_, rfl, hh, s1, A1, n1, c1, B1, m1, d1, rfl, hq⟩
    | 3, ho =>
      obtain rfl : { dst := some 46, op := Op.load 26 (Operand.tmp 10), type := 26, pos := "measure.go:54", after := #[], guard := none } = o := Option.some.inj ho
      cases hd
      refine wpOp_plain' (o := { dst := some 46, op := Op.load 26 (Operand.tmp 10), type := 26, pos := "measure.go:54", after := #[], guard := none }) rfl rfl ?_
      unfold Oper.wp
      rw [run_loadQ (E10 sv) XG.c0 XG.c1 XG.c2, Oper.upon_value]
      exact ⟨_, rfl, Below.refl _ _, rfl⟩
    | 4, ho =>
      obtain rfl : { dst := some 47, op := Op.call { callee := Callee.value (Operand.func 18), args := #[Operand.tmp 45, Operand.tmp 46], argTypes := #[26, 26] }, type := 38, pos := "measure.go:54", after := #[{ on := 2, ground := Ground.data }, { on := 3, ground := Ground.data }, { on := 2, ground := Ground.chain }], guard := none } = o := Option.some.inj ho
      cases hd
      have h45 : VQ (cv * cv) (k1 + k1) (sv 45) w' := hf { on := 2, ground := Ground.data } (by simp) rfl _ 45 rfl rfl (by decide)
      obtain ⟨s45, A45, n45, c45, B45, m45, d45, f45, q45⟩ := h45
      have f46 : sv 46 = Value.agg #[.bool s_g, .slice A_g n_g c_g, .slice B_g m_g d_g] := hf { on := 3, ground := Ground.data } (by simp) rfl _ 46 rfl rfl (by decide)
      refine wpOp_plain' (o := { dst := some 47, op := Op.call { callee := Callee.value (Operand.func 18), args := #[Operand.tmp 45, Operand.tmp 46], argTypes := #[26, 26] }, type := 38, pos := "measure.go:54", after := #[{ on := 2, ground := Ground.data }, { on := 3, ground := Ground.data }, { on := 2, ground := Ground.chain }], guard := none }) rfl rfl ?_
      unfold Oper.wp
      rw [rc_gesso_rat_Div ((G sv 45 (by decide) (by decide)).trans f45) ((G sv 46 (by decide) (by decide)).trans f46) rfl, Oper.upon_enter]
      refine (rdiv_qs q45.qr g (by omega) hk2 (by omega) h2 hg).mono ?_
      rintro e w1 ⟨R, hR, s1, A1, n1, c1, B1, m1, d1, rfl, hq, hh⟩
      exact ⟨_, rfl, hh, _, ⟨R, rfl, hR⟩, s1, A1, n1, c1, B1, m1, d1, rfl, hq⟩
    | 5, ho =>
      obtain rfl : { dst := some 42, op := Op.move (Operand.tmp 47), type := 38, pos := "measure.go:54", after := #[{ on := 4, ground := Ground.data }], guard := none } = o := Option.some.inj ho
      cases hd
      have f := hf { on := 4, ground := Ground.data } (by simp) rfl _ 47 rfl rfl (by decide)
      refine wpOp_plain' (o := { dst := some 42, op := Op.move (Operand.tmp 47), type := 38, pos := "measure.go:54", after := #[{ on := 4, ground := Ground.data }], guard := none }) rfl rfl ?_
      unfold Oper.wp
      rw [run_move (G sv 47 (by decide) (by decide)), Oper.upon_value]
      exact ⟨_, rfl, Below.refl _ _, f⟩
    | 6, ho =>
      obtain rfl : { dst := some 48, op := Op.extract (Operand.tmp 42) 0, type := 26, pos := "measure.go:54", after := #[{ on := 5, ground := Ground.data }], guard := none } = o := Option.some.inj ho
      cases hd
      have h42 : VQE (fun u => ∃ R, u = R ∧ R = cv * cv / gv) (k1 + k1 + k2) (sv 42) w' := hf { on := 5, ground := Ground.data } (by simp) rfl _ 42 rfl rfl (by decide)
      obtain ⟨r42, hr42, s42, A42, n42, c42, B42, m42, d42, f42, q42⟩ := h42
      refine wpOp_plain' (o := { dst := some 48, op := Op.extract (Operand.tmp 42) 0, type := 26, pos := "measure.go:54", after := #[{ on := 5, ground := Ground.data }], guard := none }) rfl rfl ?_
      unfold Oper.wp
      rw [run_ext0 ((G sv 42 (by decide) (by decide)).trans f42), Oper.upon_value]
      exact ⟨_, rfl, Below.refl _ _, r42, hr42, s42, A42, n42, c42, B42, m42, d42, rfl, q42⟩
    | 7, ho =>
      obtain rfl : { dst := some 49, op := Op.extract (Operand.tmp 42) 1, type := 37, pos := "measure.go:54", after := #[{ on := 5, ground := Ground.data }, { on := 9, ground := Ground.gcOnly Departure.lateStores }], guard := none } = o := Option.some.inj ho
      cases hd
      have h42 : VQE (fun u => ∃ R, u = R ∧ R = cv * cv / gv) (k1 + k1 + k2) (sv 42) w' := hf { on := 5, ground := Ground.data } (by simp) rfl _ 42 rfl rfl (by decide)
      obtain ⟨r42, hr42, s42, A42, n42, c42, B42, m42, d42, f42, q42⟩ := h42
      refine wpOp_plain' (o := { dst := some 49, op := Op.extract (Operand.tmp 42) 1, type := 37, pos := "measure.go:54", after := #[{ on := 5, ground := Ground.data }, { on := 9, ground := Ground.gcOnly Departure.lateStores }], guard := none }) rfl rfl ?_
      unfold Oper.wp
      rw [run_ext1 ((G sv 42 (by decide) (by decide)).trans f42), Oper.upon_value]
      exact ⟨_, rfl, Below.refl _ _, rfl⟩
    | 8, ho => exact absurd rfl hia
    | 9, ho => cases ho; cases hd
    | 10, ho =>
      obtain rfl : { dst := some 13, op := Op.assign (Operand.tmp 49), type := 37, pos := "measure.go:54", after := #[{ on := 7, ground := Ground.data }, { on := 9, ground := Ground.chain }, { on := 0, ground := Ground.phase }, { on := 1, ground := Ground.phase }, { on := 2, ground := Ground.phase }, { on := 3, ground := Ground.phase }, { on := 4, ground := Ground.phase }, { on := 5, ground := Ground.phase }, { on := 6, ground := Ground.phase }, { on := 7, ground := Ground.phase }, { on := 8, ground := Ground.phase }, { on := 9, ground := Ground.phase }], guard := none } = o := Option.some.inj ho
      cases hd
      have f := hf { on := 7, ground := Ground.data } (by simp) rfl _ 49 rfl rfl (by decide)
      refine wpOp_plain' (o := { dst := some 13, op := Op.assign (Operand.tmp 49), type := 37, pos := "measure.go:54", after := #[{ on := 7, ground := Ground.data }, { on := 9, ground := Ground.chain }, { on := 0, ground := Ground.phase }, { on := 1, ground := Ground.phase }, { on := 2, ground := Ground.phase }, { on := 3, ground := Ground.phase }, { on := 4, ground := Ground.phase }, { on := 5, ground := Ground.phase }, { on := 6, ground := Ground.phase }, { on := 7, ground := Ground.phase }, { on := 8, ground := Ground.phase }, { on := 9, ground := Ground.phase }], guard := none }) rfl rfl ?_
      unfold Oper.wp
      rw [run_assign (G sv 49 (by decide) (by decide)), Oper.upon_value]
      exact ⟨_, rfl, Below.refl _ _, f⟩
    | i + 11, ho => cases ho
  · intro sv w' g J0 p1 p3 hf
    have h1 : VQS (fun u => ∃ R, u = R ∧ R = cv * cv / gv) (k1 + k1 + k2) (sv 48) w' := hf { on := 6, ground := Ground.data } (by simp) rfl _ 48 rfl rfl (by decide)
    rw [← G sv 48 (by decide) (by decide)] at h1
    refine store_qs (S := fun u => ∃ R, u = R ∧ R = cv * cv / gv) (k := k1 + k1 + k2) (ac := putAll ac [43, 44, 45, 46, 47, 42, 48, 49, 12, 13] sv) (z := Operand.tmp 48) ?_ ?_ ?_
    · exact (G sv 12 (by decide) (by decide)).trans p1
    · exact h1
    · exact p3
  · rintro cs w1 w2 ⟨u, hu, s1, A1, n1, c1, B1, m1, d1, h1, h2⟩ hb
    exact ⟨u, hu, s1, A1, n1, c1, B1, m1, d1, h1, h2.below hb⟩
  · rintro sv w' g cs J0 hF p1 p2 p3 ⟨u, hu, s1, A1, n1, c1, B1, m1, d1, h1, h2⟩
    subst h1
    exact hend sv w' g _ _ _ _ _ _ _ _ hu h2 p3.at_ J0 p2 p1 
def forthQ (px py ax ay bx by_ : Rat) : Rat := (px - ax) * (bx - ax) + (py - ay) * (by_ - ay)
def wholeQ (ax ay bx by_ : Rat) : Rat := (bx - ax) * (bx - ax) + (by_ - ay) * (by_ - ay)
def asideQ (px py ax ay bx by_ : Rat) : Rat := (bx - ax) * (py - ay) - (by_ - ay) * (px - ax)
def segQ (px py ax ay bx by_ : Rat) : Rat := if forthQ px py ax ay bx by_ ≤ 0 then (px - ax) * (px - ax) + (py - ay) * (py - ay) else if wholeQ ax ay bx by_ ≤ forthQ px py ax ay bx by_ then farQ px py bx by_ else asideQ px py ax ay bx by_ * asideQ px py ax ay bx by_ / wholeQ ax ay bx by_
theorem sgn_nonpos {v : Rat} : sgnQ v ≤ 0 ↔ v ≤ 0 := by
  unfold sgnQ
  split
  · rename_i q; exact ⟨fun _ => Rat.le_of_lt q, fun _ => by decide⟩
  · split
    · rename_i q; rw [q]; exact ⟨fun _ => Rat.le_refl, fun _ => by decide⟩
    · rename_i q r; exact ⟨fun e => absurd e (by decide), fun e => absurd (Rat.le_antisymm e (Rat.not_lt.1 q)) r⟩
theorem cmp_nonneg {v u : Rat} : 0 ≤ cmpQ v u ↔ u ≤ v := by
  unfold cmpQ
  split
  · rename_i q; exact ⟨fun e => absurd e (by decide), fun e => absurd q (Rat.not_lt.2 e)⟩
  · rename_i q; exact ⟨fun _ => Rat.not_lt.1 q, fun _ => by split <;> decide⟩
set_option maxRecDepth 100000 in
set_option maxHeartbeats 8000000 in
theorem ptoseg_lo {w : World} {kp k : Nat} {px py ax ay bx by_ : Rat} {s_p t_p : Bool} {A_p B_p E_p F_p : Option Addr} {n_p c_p m_p d_p i_p e_p j_p f_p : Nat} {s_q t_q : Bool} {A_q B_q E_q F_q : Option Addr} {n_q c_q m_q d_q i_q e_q j_q f_q : Nat} {s_r t_r : Bool} {A_r B_r E_r F_r : Option Addr} {n_r c_r m_r d_r i_r e_r j_r f_r : Nat} (p : PR w s_p A_p n_p c_p B_p m_p d_p t_p E_p i_p e_p F_p j_p f_p px py kp) (q : PR w s_q A_q n_q c_q B_q m_q d_q t_q E_q i_q e_q F_q j_q f_q ax ay k) (r : PR w s_r A_r n_r c_r B_r m_r d_r t_r E_r i_r e_r F_r j_r f_r bx by_ k) (hp : kp ≤ 22) (hk : k ≤ 22) (h1 : 1 ≤ kp) (h2 : 1 ≤ k) (hf : forthQ px py ax ay bx by_ ≤ 0) :
    Calls Tryz.prog 92 #[.agg #[.bool s_p, .slice A_p n_p c_p, .slice B_p m_p d_p, .bool t_p, .slice E_p i_p e_p, .slice F_p j_p f_p], .agg #[.bool s_q, .slice A_q n_q c_q, .slice B_q m_q d_q, .bool t_q, .slice E_q i_q e_q, .slice F_q j_q f_q], .agg #[.bool s_r, .slice A_r n_r c_r, .slice B_r m_r d_r, .bool t_r, .slice E_r i_r e_r, .slice F_r j_r f_r]] w (GivesQ w ((px - ax) * (px - ax) + (py - ay) * (py - ay)) (12 * (kp + k) + 8 * k + 40)) := by
  obtain ⟨S, hS, hS0⟩ : ∃ S, sgnQ ((px - ax) * (bx - ax) + (py - ay) * (by_ - ay)) = S ∧ decide (S ≤ 0) = true := ⟨_, rfl, decide_eq_true (sgn_nonpos.2 hf)⟩
  have HS := Lib.hid hS
  clear hS
  clear hf
  go_enter Tryz.func92, Tryz.ntmps92
  go_upto_region 1 with (fail)
  generalize hW : ((((w.alloc (Obj.cells #[Value.bool s_p, Value.slice A_p n_p c_p, Value.slice B_p m_p d_p, Value.bool t_p, Value.slice E_p i_p e_p, Value.slice F_p j_p f_p] 83)).alloc (Obj.cells #[Value.bool s_q, Value.slice A_q n_q c_q, Value.slice B_q m_q d_q, Value.bool t_q, Value.slice E_q i_q e_q, Value.slice F_q j_q f_q] 83)).alloc (Obj.cells #[Value.bool s_r, Value.slice A_r n_r c_r, Value.slice B_r m_r d_r, Value.bool t_r, Value.slice E_r i_r e_r, Value.slice F_r j_r f_r] 83)).alloc (Obj.cells #[Value.bool false, Value.slice none 0 0, Value.slice none 0 0] 26)) = W
  have hb : Below w.heap.size w W := by subst hW; exact (((((Below.refl _ _).alloc (Nat.le_refl _) _).alloc (by simp) _).alloc (by simp; omega) _).alloc (by simp; omega) _)
  have XA : B6 W (w.heap.size) (Value.bool s_p) (Value.slice A_p n_p c_p) (Value.slice B_p m_p d_p) (Value.bool t_p) (Value.slice E_p i_p e_p) (Value.slice F_p j_p f_p) := by subst hW; exact (((B6.new' _ _ _ _ _ _ _ _ rfl).alloc _).alloc _).alloc _
  have XB : B6 W (w.heap.size + 1) (Value.bool s_q) (Value.slice A_q n_q c_q) (Value.slice B_q m_q d_q) (Value.bool t_q) (Value.slice E_q i_q e_q) (Value.slice F_q j_q f_q) := by subst hW; exact ((B6.new' _ _ _ _ _ _ _ _ (by simp)).alloc _).alloc _
  have XC : B6 W (w.heap.size + 1 + 1) (Value.bool s_r) (Value.slice A_r n_r c_r) (Value.slice B_r m_r d_r) (Value.bool t_r) (Value.slice E_r i_r e_r) (Value.slice F_r j_r f_r) := by subst hW; exact (B6.new' _ _ _ _ _ _ _ _ (by simp)).alloc _
  have Z : B3 W (w.heap.size + 1 + 1 + 1) (Value.bool false) (Value.slice none 0 0) (Value.slice none 0 0) := by subst hW; exact B3.new' _ _ _ _ _ (by simp)
  have hzW : W.heap.size = w.heap.size + 4 := by subst hW; simp
  clear hW
  replace p := p.below hb
  replace q := q.below hb
  replace r := r.below hb
  refine segs_region (by simp) rfl rfl rfl XA XB XC p q r (by omega) (by omega) h1 h2 ?_
  intro V w_s g_a s_a A_a n_a c_a B_a m_a d_a t_a E_a i_a e_a F_a j_a f_a g_b s_b A_b n_b c_b B_b m_b d_b t_b E_b i_b e_b F_b j_b f_b a XW hg_a hva b XT hg_b hvb hne hh
  simp only [putAll, Act.put, List.setIfInBounds_toArray, List.set_cons_zero, List.set_cons_succ, hva, hvb]
  clear hva hvb hne
  replace p := p.below hh
  replace q := q.below hh
  replace r := r.below hh
  replace XA := XA.below hh
  replace XB := XB.below hh
  replace XC := XC.below hh
  replace Z := Z.below hh
  replace hb := bend hb hh
  go_upto_region 2 with (fail)
  refine dots_region (by simp) rfl rfl XW XT a.pr b.pr (by omega) (by omega) (by omega) (by omega) ?_
  intro V w_d g_fo s_fo A_fo n_fo c_fo B_fo m_fo d_fo g_wh s_wh A_wh n_wh c_wh B_wh m_wh d_wh fo XF hg_fo hvf wh XG hg_wh hvg hne hh
  simp only [putAll, Act.put, List.setIfInBounds_toArray, List.set_cons_zero, List.set_cons_succ, hvf, hvg]
  clear hvf hvg hne
  replace p := p.below hh
  replace q := q.below hh
  replace r := r.below hh
  replace a := a.below hh
  replace b := b.below hh
  replace XA := XA.below hh
  replace XB := XB.below hh
  replace XC := XC.below hh
  replace XW := XW.below hh
  replace XT := XT.below hh
  replace Z := Z.below hh
  replace hb := bend hb hh
  have xa0 := XA.c0
  have xa1 := XA.c1
  have xa2 := XA.c2
  have xa3 := XA.c3
  have xa4 := XA.c4
  have xa5 := XA.c5
  have xb0 := XB.c0
  have xb1 := XB.c1
  have xb2 := XB.c2
  have xb3 := XB.c3
  have xb4 := XB.c4
  have xb5 := XB.c5
  have xc0 := XC.c0
  have xc1 := XC.c1
  have xc2 := XC.c2
  have xc3 := XC.c3
  have xc4 := XC.c4
  have xc5 := XC.c5
  have xw0 := XW.c0
  have xw1 := XW.c1
  have xw2 := XW.c2
  have xw3 := XW.c3
  have xw4 := XW.c4
  have xw5 := XW.c5
  have xt0 := XT.c0
  have xt1 := XT.c1
  have xt2 := XT.c2
  have xt3 := XT.c3
  have xt4 := XT.c4
  have xt5 := XT.c5
  have xf0 := XF.c0
  have xf1 := XF.c1
  have xf2 := XF.c2
  have xg0 := XG.c0
  have xg1 := XG.c1
  have xg2 := XG.c2
  go_wp2_with (first
      | (go_at_call 30; (with_reducible refine (rsign_q fo.qr (by omega) (by omega)).mono ?_); rintro e w_z ⟨rfl, hh⟩
         rw [HS.out]
         try replace p := p.below hh
         try replace q := q.below hh
         try replace r := r.below hh
         try replace a := a.below hh
         try replace b := b.below hh
         try replace fo := fo.below hh
         try replace wh := wh.below hh
         try replace XA := XA.below hh
         try replace XB := XB.below hh
         try replace XC := XC.below hh
         try replace XW := XW.below hh
         try replace XT := XT.below hh
         try replace XF := XF.below hh
         try replace XG := XG.below hh
         try replace Z := Z.below hh
         replace hb := bend hb hh
         have xa0 := XA.c0
         have xa1 := XA.c1
         have xa2 := XA.c2
         have xa3 := XA.c3
         have xa4 := XA.c4
         have xa5 := XA.c5
         have xb0 := XB.c0
         have xb1 := XB.c1
         have xb2 := XB.c2
         have xb3 := XB.c3
         have xb4 := XB.c4
         have xb5 := XB.c5
         have xc0 := XC.c0
         have xc1 := XC.c1
         have xc2 := XC.c2
         have xc3 := XC.c3
         have xc4 := XC.c4
         have xc5 := XC.c5
         have xw0 := XW.c0
         have xw1 := XW.c1
         have xw2 := XW.c2
         have xw3 := XW.c3
         have xw4 := XW.c4
         have xw5 := XW.c5
         have xt0 := XT.c0
         have xt1 := XT.c1
         have xt2 := XT.c2
         have xt3 := XT.c3
         have xt4 := XT.c4
         have xt5 := XT.c5
         have xf0 := XF.c0
         have xf1 := XF.c1
         have xf2 := XF.c2
         have xg0 := XG.c0
         have xg1 := XG.c1
         have xg2 := XG.c2)
      | (go_at_call 160; (with_reducible refine (psquare_p b.pr (by omega) (by omega)).mono ?_); rintro e w_x ⟨s_x, A_x, n_x, c_x, B_x, m_x, d_x, rfl, x, hh⟩
         try replace Z := Z.below hh
         replace hb := bend hb hh
         have zf0 := Z.f0
         have zf1 := Z.f1
         have zf2 := Z.f2
         have z0 := Z.c0
         have z1 := Z.c1
         have z2 := Z.c2))
  have Z2 := Z.set3 (.bool s_x) (.slice A_x n_x c_x) (.slice B_x m_x d_x)
  have g0 := Z2.c0
  have g1 := Z2.c1
  have g2 := Z2.c2
  refine bodyPost_ret (v := .agg #[.bool s_x, .slice A_x n_x c_x, .slice B_x m_x d_x]) (by simp [results, Tryz.results92, go_sem, g0, g1, g2]) rfl ?_
  exact ⟨s_x, A_x, n_x, c_x, B_x, m_x, d_x, rfl, (x.more (by omega)).set3 Z _ _ _, below_set3 hb (by omega) _ _ _⟩
set_option maxRecDepth 100000 in
set_option maxHeartbeats 8000000 in
theorem ptoseg_hi {w : World} {kp k : Nat} {px py ax ay bx by_ : Rat} {s_p t_p : Bool} {A_p B_p E_p F_p : Option Addr} {n_p c_p m_p d_p i_p e_p j_p f_p : Nat} {s_q t_q : Bool} {A_q B_q E_q F_q : Option Addr} {n_q c_q m_q d_q i_q e_q j_q f_q : Nat} {s_r t_r : Bool} {A_r B_r E_r F_r : Option Addr} {n_r c_r m_r d_r i_r e_r j_r f_r : Nat} (p : PR w s_p A_p n_p c_p B_p m_p d_p t_p E_p i_p e_p F_p j_p f_p px py kp) (q : PR w s_q A_q n_q c_q B_q m_q d_q t_q E_q i_q e_q F_q j_q f_q ax ay k) (r : PR w s_r A_r n_r c_r B_r m_r d_r t_r E_r i_r e_r F_r j_r f_r bx by_ k) (hp : kp ≤ 22) (hk : k ≤ 22) (h1 : 1 ≤ kp) (h2 : 1 ≤ k) (hf : ¬ forthQ px py ax ay bx by_ ≤ 0) (hw : wholeQ ax ay bx by_ ≤ forthQ px py ax ay bx by_) :
    Calls Tryz.prog 92 #[.agg #[.bool s_p, .slice A_p n_p c_p, .slice B_p m_p d_p, .bool t_p, .slice E_p i_p e_p, .slice F_p j_p f_p], .agg #[.bool s_q, .slice A_q n_q c_q, .slice B_q m_q d_q, .bool t_q, .slice E_q i_q e_q, .slice F_q j_q f_q], .agg #[.bool s_r, .slice A_r n_r c_r, .slice B_r m_r d_r, .bool t_r, .slice E_r i_r e_r, .slice F_r j_r f_r]] w (GivesQ w (farQ px py bx by_) (12 * (kp + k) + 8 * k + 40)) := by
  obtain ⟨S, hS, hS0⟩ : ∃ S, sgnQ ((px - ax) * (bx - ax) + (py - ay) * (by_ - ay)) = S ∧ decide (S ≤ 0) = false := ⟨_, rfl, decide_eq_false (fun e => hf (sgn_nonpos.1 e))⟩
  have HS := Lib.hid hS
  clear hS
  obtain ⟨T, hT, hT0⟩ : ∃ T, cmpQ ((px - ax) * (bx - ax) + (py - ay) * (by_ - ay)) ((bx - ax) * (bx - ax) + (by_ - ay) * (by_ - ay)) = T ∧ decide (0 ≤ T) = true := ⟨_, rfl, decide_eq_true (cmp_nonneg.2 hw)⟩
  have HT := Lib.hid hT
  clear hT
  clear hf hw
  go_enter Tryz.func92, Tryz.ntmps92
  go_upto_region 1 with (fail)
  generalize hW : ((((w.alloc (Obj.cells #[Value.bool s_p, Value.slice A_p n_p c_p, Value.slice B_p m_p d_p, Value.bool t_p, Value.slice E_p i_p e_p, Value.slice F_p j_p f_p] 83)).alloc (Obj.cells #[Value.bool s_q, Value.slice A_q n_q c_q, Value.slice B_q m_q d_q, Value.bool t_q, Value.slice E_q i_q e_q, Value.slice F_q j_q f_q] 83)).alloc (Obj.cells #[Value.bool s_r, Value.slice A_r n_r c_r, Value.slice B_r m_r d_r, Value.bool t_r, Value.slice E_r i_r e_r, Value.slice F_r j_r f_r] 83)).alloc (Obj.cells #[Value.bool false, Value.slice none 0 0, Value.slice none 0 0] 26)) = W
  have hb : Below w.heap.size w W := by subst hW; exact (((((Below.refl _ _).alloc (Nat.le_refl _) _).alloc (by simp) _).alloc (by simp; omega) _).alloc (by simp; omega) _)
  have XA : B6 W (w.heap.size) (Value.bool s_p) (Value.slice A_p n_p c_p) (Value.slice B_p m_p d_p) (Value.bool t_p) (Value.slice E_p i_p e_p) (Value.slice F_p j_p f_p) := by subst hW; exact (((B6.new' _ _ _ _ _ _ _ _ rfl).alloc _).alloc _).alloc _
  have XB : B6 W (w.heap.size + 1) (Value.bool s_q) (Value.slice A_q n_q c_q) (Value.slice B_q m_q d_q) (Value.bool t_q) (Value.slice E_q i_q e_q) (Value.slice F_q j_q f_q) := by subst hW; exact ((B6.new' _ _ _ _ _ _ _ _ (by simp)).alloc _).alloc _
  have XC : B6 W (w.heap.size + 1 + 1) (Value.bool s_r) (Value.slice A_r n_r c_r) (Value.slice B_r m_r d_r) (Value.bool t_r) (Value.slice E_r i_r e_r) (Value.slice F_r j_r f_r) := by subst hW; exact (B6.new' _ _ _ _ _ _ _ _ (by simp)).alloc _
  have Z : B3 W (w.heap.size + 1 + 1 + 1) (Value.bool false) (Value.slice none 0 0) (Value.slice none 0 0) := by subst hW; exact B3.new' _ _ _ _ _ (by simp)
  have hzW : W.heap.size = w.heap.size + 4 := by subst hW; simp
  clear hW
  replace p := p.below hb
  replace q := q.below hb
  replace r := r.below hb
  refine segs_region (by simp) rfl rfl rfl XA XB XC p q r (by omega) (by omega) h1 h2 ?_
  intro V w_s g_a s_a A_a n_a c_a B_a m_a d_a t_a E_a i_a e_a F_a j_a f_a g_b s_b A_b n_b c_b B_b m_b d_b t_b E_b i_b e_b F_b j_b f_b a XW hg_a hva b XT hg_b hvb hne hh
  simp only [putAll, Act.put, List.setIfInBounds_toArray, List.set_cons_zero, List.set_cons_succ, hva, hvb]
  clear hva hvb hne
  replace p := p.below hh
  replace q := q.below hh
  replace r := r.below hh
  replace XA := XA.below hh
  replace XB := XB.below hh
  replace XC := XC.below hh
  replace Z := Z.below hh
  replace hb := bend hb hh
  go_upto_region 2 with (fail)
  refine dots_region (by simp) rfl rfl XW XT a.pr b.pr (by omega) (by omega) (by omega) (by omega) ?_
  intro V w_d g_fo s_fo A_fo n_fo c_fo B_fo m_fo d_fo g_wh s_wh A_wh n_wh c_wh B_wh m_wh d_wh fo XF hg_fo hvf wh XG hg_wh hvg hne hh
  simp only [putAll, Act.put, List.setIfInBounds_toArray, List.set_cons_zero, List.set_cons_succ, hvf, hvg]
  clear hvf hvg hne
  replace p := p.below hh
  replace q := q.below hh
  replace r := r.below hh
  replace a := a.below hh
  replace b := b.below hh
  replace XA := XA.below hh
  replace XB := XB.below hh
  replace XC := XC.below hh
  replace XW := XW.below hh
  replace XT := XT.below hh
  replace Z := Z.below hh
  replace hb := bend hb hh
  have xa0 := XA.c0
  have xa1 := XA.c1
  have xa2 := XA.c2
  have xa3 := XA.c3
  have xa4 := XA.c4
  have xa5 := XA.c5
  have xb0 := XB.c0
  have xb1 := XB.c1
  have xb2 := XB.c2
  have xb3 := XB.c3
  have xb4 := XB.c4
  have xb5 := XB.c5
  have xc0 := XC.c0
  have xc1 := XC.c1
  have xc2 := XC.c2
  have xc3 := XC.c3
  have xc4 := XC.c4
  have xc5 := XC.c5
  have xw0 := XW.c0
  have xw1 := XW.c1
  have xw2 := XW.c2
  have xw3 := XW.c3
  have xw4 := XW.c4
  have xw5 := XW.c5
  have xt0 := XT.c0
  have xt1 := XT.c1
  have xt2 := XT.c2
  have xt3 := XT.c3
  have xt4 := XT.c4
  have xt5 := XT.c5
  have xf0 := XF.c0
  have xf1 := XF.c1
  have xf2 := XF.c2
  have xg0 := XG.c0
  have xg1 := XG.c1
  have xg2 := XG.c2
  go_wp2_with (first
      | (go_at_call 30; (with_reducible refine (rsign_q fo.qr (by omega) (by omega)).mono ?_); rintro e w_z ⟨rfl, hh⟩
         rw [HS.out]
         try replace p := p.below hh
         try replace q := q.below hh
         try replace r := r.below hh
         try replace a := a.below hh
         try replace b := b.below hh
         try replace fo := fo.below hh
         try replace wh := wh.below hh
         try replace XA := XA.below hh
         try replace XB := XB.below hh
         try replace XC := XC.below hh
         try replace XW := XW.below hh
         try replace XT := XT.below hh
         try replace XF := XF.below hh
         try replace XG := XG.below hh
         try replace Z := Z.below hh
         replace hb := bend hb hh
         have xa0 := XA.c0
         have xa1 := XA.c1
         have xa2 := XA.c2
         have xa3 := XA.c3
         have xa4 := XA.c4
         have xa5 := XA.c5
         have xb0 := XB.c0
         have xb1 := XB.c1
         have xb2 := XB.c2
         have xb3 := XB.c3
         have xb4 := XB.c4
         have xb5 := XB.c5
         have xc0 := XC.c0
         have xc1 := XC.c1
         have xc2 := XC.c2
         have xc3 := XC.c3
         have xc4 := XC.c4
         have xc5 := XC.c5
         have xw0 := XW.c0
         have xw1 := XW.c1
         have xw2 := XW.c2
         have xw3 := XW.c3
         have xw4 := XW.c4
         have xw5 := XW.c5
         have xt0 := XT.c0
         have xt1 := XT.c1
         have xt2 := XT.c2
         have xt3 := XT.c3
         have xt4 := XT.c4
         have xt5 := XT.c5
         have xf0 := XF.c0
         have xf1 := XF.c1
         have xf2 := XF.c2
         have xg0 := XG.c0
         have xg1 := XG.c1
         have xg2 := XG.c2)
      | (go_at_call 28; (with_reducible refine (rcmp_q fo.qr wh.qr (by omega) (by omega) (.inl (by omega)) (by omega) (by omega)).mono ?_); rintro e w_z ⟨rfl, hh⟩
         rw [HT.out]
         try replace p := p.below hh
         try replace q := q.below hh
         try replace r := r.below hh
         try replace a := a.below hh
         try replace b := b.below hh
         try replace fo := fo.below hh
         try replace wh := wh.below hh
         try replace XA := XA.below hh
         try replace XB := XB.below hh
         try replace XC := XC.below hh
         try replace XW := XW.below hh
         try replace XT := XT.below hh
         try replace XF := XF.below hh
         try replace XG := XG.below hh
         try replace Z := Z.below hh
         replace hb := bend hb hh
         have xa0 := XA.c0
         have xa1 := XA.c1
         have xa2 := XA.c2
         have xa3 := XA.c3
         have xa4 := XA.c4
         have xa5 := XA.c5
         have xb0 := XB.c0
         have xb1 := XB.c1
         have xb2 := XB.c2
         have xb3 := XB.c3
         have xb4 := XB.c4
         have xb5 := XB.c5
         have xc0 := XC.c0
         have xc1 := XC.c1
         have xc2 := XC.c2
         have xc3 := XC.c3
         have xc4 := XC.c4
         have xc5 := XC.c5
         have xw0 := XW.c0
         have xw1 := XW.c1
         have xw2 := XW.c2
         have xw3 := XW.c3
         have xw4 := XW.c4
         have xw5 := XW.c5
         have xt0 := XT.c0
         have xt1 := XT.c1
         have xt2 := XT.c2
         have xt3 := XT.c3
         have xt4 := XT.c4
         have xt5 := XT.c5
         have xf0 := XF.c0
         have xf1 := XF.c1
         have xf2 := XF.c2
         have xg0 := XG.c0
         have xg1 := XG.c1
         have xg2 := XG.c2)
      | (go_at_call 90; (with_reducible refine (pfar_p p r (by omega) h1 h2).mono ?_); rintro e w_x ⟨s_x, A_x, n_x, c_x, B_x, m_x, d_x, rfl, x, hh⟩
         try replace Z := Z.below hh
         replace hb := bend hb hh
         have zf0 := Z.f0
         have zf1 := Z.f1
         have zf2 := Z.f2
         have z0 := Z.c0
         have z1 := Z.c1
         have z2 := Z.c2))
  have Z2 := Z.set3 (.bool s_x) (.slice A_x n_x c_x) (.slice B_x m_x d_x)
  have g0 := Z2.c0
  have g1 := Z2.c1
  have g2 := Z2.c2
  refine bodyPost_ret (v := .agg #[.bool s_x, .slice A_x n_x c_x, .slice B_x m_x d_x]) (by simp [results, Tryz.results92, go_sem, g0, g1, g2]) rfl ?_
  exact ⟨s_x, A_x, n_x, c_x, B_x, m_x, d_x, rfl, (x.more (by omega)).set3 Z _ _ _, below_set3 hb (by omega) _ _ _⟩
set_option maxRecDepth 100000 in
set_option maxHeartbeats 8000000 in
theorem ptoseg_mid {w : World} {kp k : Nat} {px py ax ay bx by_ : Rat} {s_p t_p : Bool} {A_p B_p E_p F_p : Option Addr} {n_p c_p m_p d_p i_p e_p j_p f_p : Nat} {s_q t_q : Bool} {A_q B_q E_q F_q : Option Addr} {n_q c_q m_q d_q i_q e_q j_q f_q : Nat} {s_r t_r : Bool} {A_r B_r E_r F_r : Option Addr} {n_r c_r m_r d_r i_r e_r j_r f_r : Nat} (p : PR w s_p A_p n_p c_p B_p m_p d_p t_p E_p i_p e_p F_p j_p f_p px py kp) (q : PR w s_q A_q n_q c_q B_q m_q d_q t_q E_q i_q e_q F_q j_q f_q ax ay k) (r : PR w s_r A_r n_r c_r B_r m_r d_r t_r E_r i_r e_r F_r j_r f_r bx by_ k) (hp : kp ≤ 22) (hk : k ≤ 22) (h1 : 1 ≤ kp) (h2 : 1 ≤ k) (hf : ¬ forthQ px py ax ay bx by_ ≤ 0) (hw : ¬ wholeQ ax ay bx by_ ≤ forthQ px py ax ay bx by_) :
    Calls Tryz.prog 92 #[.agg #[.bool s_p, .slice A_p n_p c_p, .slice B_p m_p d_p, .bool t_p, .slice E_p i_p e_p, .slice F_p j_p f_p], .agg #[.bool s_q, .slice A_q n_q c_q, .slice B_q m_q d_q, .bool t_q, .slice E_q i_q e_q, .slice F_q j_q f_q], .agg #[.bool s_r, .slice A_r n_r c_r, .slice B_r m_r d_r, .bool t_r, .slice E_r i_r e_r, .slice F_r j_r f_r]] w (GivesQ w (asideQ px py ax ay bx by_ * asideQ px py ax ay bx by_ / wholeQ ax ay bx by_) (12 * (kp + k) + 8 * k + 40)) := by
  obtain ⟨S, hS, hS0⟩ : ∃ S, sgnQ ((px - ax) * (bx - ax) + (py - ay) * (by_ - ay)) = S ∧ decide (S ≤ 0) = false := ⟨_, rfl, decide_eq_false (fun e => hf (sgn_nonpos.1 e))⟩
  have HS := Lib.hid hS
  clear hS
  obtain ⟨T, hT, hT0⟩ : ∃ T, cmpQ ((px - ax) * (bx - ax) + (py - ay) * (by_ - ay)) ((bx - ax) * (bx - ax) + (by_ - ay) * (by_ - ay)) = T ∧ decide (0 ≤ T) = false := ⟨_, rfl, decide_eq_false (fun e => hw (cmp_nonneg.1 e))⟩
  have HT := Lib.hid hT
  clear hT
  have HG : Hid ((bx - ax) * (bx - ax) + (by_ - ay) * (by_ - ay) ≠ 0) := fun e => by
    have e2 : wholeQ ax ay bx by_ = 0 := e
    rw [e2] at hw
    exact hf (Rat.le_of_lt (Rat.not_le.1 hw))
  clear hf hw
  go_enter Tryz.func92, Tryz.ntmps92
  go_upto_region 1 with (fail)
  generalize hW : ((((w.alloc (Obj.cells #[Value.bool s_p, Value.slice A_p n_p c_p, Value.slice B_p m_p d_p, Value.bool t_p, Value.slice E_p i_p e_p, Value.slice F_p j_p f_p] 83)).alloc (Obj.cells #[Value.bool s_q, Value.slice A_q n_q c_q, Value.slice B_q m_q d_q, Value.bool t_q, Value.slice E_q i_q e_q, Value.slice F_q j_q f_q] 83)).alloc (Obj.cells #[Value.bool s_r, Value.slice A_r n_r c_r, Value.slice B_r m_r d_r, Value.bool t_r, Value.slice E_r i_r e_r, Value.slice F_r j_r f_r] 83)).alloc (Obj.cells #[Value.bool false, Value.slice none 0 0, Value.slice none 0 0] 26)) = W
  have hb : Below w.heap.size w W := by subst hW; exact (((((Below.refl _ _).alloc (Nat.le_refl _) _).alloc (by simp) _).alloc (by simp; omega) _).alloc (by simp; omega) _)
  have XA : B6 W (w.heap.size) (Value.bool s_p) (Value.slice A_p n_p c_p) (Value.slice B_p m_p d_p) (Value.bool t_p) (Value.slice E_p i_p e_p) (Value.slice F_p j_p f_p) := by subst hW; exact (((B6.new' _ _ _ _ _ _ _ _ rfl).alloc _).alloc _).alloc _
  have XB : B6 W (w.heap.size + 1) (Value.bool s_q) (Value.slice A_q n_q c_q) (Value.slice B_q m_q d_q) (Value.bool t_q) (Value.slice E_q i_q e_q) (Value.slice F_q j_q f_q) := by subst hW; exact ((B6.new' _ _ _ _ _ _ _ _ (by simp)).alloc _).alloc _
  have XC : B6 W (w.heap.size + 1 + 1) (Value.bool s_r) (Value.slice A_r n_r c_r) (Value.slice B_r m_r d_r) (Value.bool t_r) (Value.slice E_r i_r e_r) (Value.slice F_r j_r f_r) := by subst hW; exact (B6.new' _ _ _ _ _ _ _ _ (by simp)).alloc _
  have Z : B3 W (w.heap.size + 1 + 1 + 1) (Value.bool false) (Value.slice none 0 0) (Value.slice none 0 0) := by subst hW; exact B3.new' _ _ _ _ _ (by simp)
  have hzW : W.heap.size = w.heap.size + 4 := by subst hW; simp
  clear hW
  replace p := p.below hb
  replace q := q.below hb
  replace r := r.below hb
  refine segs_region (by simp) rfl rfl rfl XA XB XC p q r (by omega) (by omega) h1 h2 ?_
  intro V w_s g_a s_a A_a n_a c_a B_a m_a d_a t_a E_a i_a e_a F_a j_a f_a g_b s_b A_b n_b c_b B_b m_b d_b t_b E_b i_b e_b F_b j_b f_b a XW hg_a hva b XT hg_b hvb hne hh
  simp only [putAll, Act.put, List.setIfInBounds_toArray, List.set_cons_zero, List.set_cons_succ, hva, hvb]
  clear hva hvb hne
  replace p := p.below hh
  replace q := q.below hh
  replace r := r.below hh
  replace XA := XA.below hh
  replace XB := XB.below hh
  replace XC := XC.below hh
  replace Z := Z.below hh
  replace hb := bend hb hh
  go_upto_region 2 with (fail)
  refine dots_region (by simp) rfl rfl XW XT a.pr b.pr (by omega) (by omega) (by omega) (by omega) ?_
  intro V w_d g_fo s_fo A_fo n_fo c_fo B_fo m_fo d_fo g_wh s_wh A_wh n_wh c_wh B_wh m_wh d_wh fo XF hg_fo hvf wh XG hg_wh hvg hne hh
  simp only [putAll, Act.put, List.setIfInBounds_toArray, List.set_cons_zero, List.set_cons_succ, hvf, hvg]
  clear hvf hvg hne
  replace p := p.below hh
  replace q := q.below hh
  replace r := r.below hh
  replace a := a.below hh
  replace b := b.below hh
  replace XA := XA.below hh
  replace XB := XB.below hh
  replace XC := XC.below hh
  replace XW := XW.below hh
  replace XT := XT.below hh
  replace Z := Z.below hh
  replace hb := bend hb hh
  have xa0 := XA.c0
  have xa1 := XA.c1
  have xa2 := XA.c2
  have xa3 := XA.c3
  have xa4 := XA.c4
  have xa5 := XA.c5
  have xb0 := XB.c0
  have xb1 := XB.c1
  have xb2 := XB.c2
  have xb3 := XB.c3
  have xb4 := XB.c4
  have xb5 := XB.c5
  have xc0 := XC.c0
  have xc1 := XC.c1
  have xc2 := XC.c2
  have xc3 := XC.c3
  have xc4 := XC.c4
  have xc5 := XC.c5
  have xw0 := XW.c0
  have xw1 := XW.c1
  have xw2 := XW.c2
  have xw3 := XW.c3
  have xw4 := XW.c4
  have xw5 := XW.c5
  have xt0 := XT.c0
  have xt1 := XT.c1
  have xt2 := XT.c2
  have xt3 := XT.c3
  have xt4 := XT.c4
  have xt5 := XT.c5
  have xf0 := XF.c0
  have xf1 := XF.c1
  have xf2 := XF.c2
  have xg0 := XG.c0
  have xg1 := XG.c1
  have xg2 := XG.c2
  go_upto_region 8 with (first
      | (go_at_call 30; (with_reducible refine (rsign_q fo.qr (by omega) (by omega)).mono ?_); rintro e w_z ⟨rfl, hh⟩
         rw [HS.out]
         try replace p := p.below hh
         try replace q := q.below hh
         try replace r := r.below hh
         try replace a := a.below hh
         try replace b := b.below hh
         try replace fo := fo.below hh
         try replace wh := wh.below hh
         try replace XA := XA.below hh
         try replace XB := XB.below hh
         try replace XC := XC.below hh
         try replace XW := XW.below hh
         try replace XT := XT.below hh
         try replace XF := XF.below hh
         try replace XG := XG.below hh
         try replace Z := Z.below hh
         replace hb := bend hb hh
         have xa0 := XA.c0
         have xa1 := XA.c1
         have xa2 := XA.c2
         have xa3 := XA.c3
         have xa4 := XA.c4
         have xa5 := XA.c5
         have xb0 := XB.c0
         have xb1 := XB.c1
         have xb2 := XB.c2
         have xb3 := XB.c3
         have xb4 := XB.c4
         have xb5 := XB.c5
         have xc0 := XC.c0
         have xc1 := XC.c1
         have xc2 := XC.c2
         have xc3 := XC.c3
         have xc4 := XC.c4
         have xc5 := XC.c5
         have xw0 := XW.c0
         have xw1 := XW.c1
         have xw2 := XW.c2
         have xw3 := XW.c3
         have xw4 := XW.c4
         have xw5 := XW.c5
         have xt0 := XT.c0
         have xt1 := XT.c1
         have xt2 := XT.c2
         have xt3 := XT.c3
         have xt4 := XT.c4
         have xt5 := XT.c5
         have xf0 := XF.c0
         have xf1 := XF.c1
         have xf2 := XF.c2
         have xg0 := XG.c0
         have xg1 := XG.c1
         have xg2 := XG.c2)
      | (go_at_call 28; (with_reducible refine (rcmp_q fo.qr wh.qr (by omega) (by omega) (.inl (by omega)) (by omega) (by omega)).mono ?_); rintro e w_z ⟨rfl, hh⟩
         rw [HT.out]
         try replace p := p.below hh
         try replace q := q.below hh
         try replace r := r.below hh
         try replace a := a.below hh
         try replace b := b.below hh
         try replace fo := fo.below hh
         try replace wh := wh.below hh
         try replace XA := XA.below hh
         try replace XB := XB.below hh
         try replace XC := XC.below hh
         try replace XW := XW.below hh
         try replace XT := XT.below hh
         try replace XF := XF.below hh
         try replace XG := XG.below hh
         try replace Z := Z.below hh
         replace hb := bend hb hh
         have xa0 := XA.c0
         have xa1 := XA.c1
         have xa2 := XA.c2
         have xa3 := XA.c3
         have xa4 := XA.c4
         have xa5 := XA.c5
         have xb0 := XB.c0
         have xb1 := XB.c1
         have xb2 := XB.c2
         have xb3 := XB.c3
         have xb4 := XB.c4
         have xb5 := XB.c5
         have xc0 := XC.c0
         have xc1 := XC.c1
         have xc2 := XC.c2
         have xc3 := XC.c3
         have xc4 := XC.c4
         have xc5 := XC.c5
         have xw0 := XW.c0
         have xw1 := XW.c1
         have xw2 := XW.c2
         have xw3 := XW.c3
         have xw4 := XW.c4
         have xw5 := XW.c5
         have xt0 := XT.c0
         have xt1 := XT.c1
         have xt2 := XT.c2
         have xt3 := XT.c3
         have xt4 := XT.c4
         have xt5 := XT.c5
         have xf0 := XF.c0
         have xf1 := XF.c1
         have xf2 := XF.c2
         have xg0 := XG.c0
         have xg1 := XG.c1
         have xg2 := XG.c2)
      | (go_at_call 83; (with_reducible refine (pcross_p a.pr b.pr (by omega) (by omega) (by omega)).mono ?_); rintro e w_c ⟨s_c, A_c, n_c, c_c, B_c, m_c, d_c, rfl, c, hh⟩
         try replace wh := wh.below hh
         try replace XG := XG.below hh
         try replace Z := Z.below hh
         replace hb := bend hb hh))
  generalize hW : (w_c.alloc (Obj.cells #[Value.bool s_c, Value.slice A_c n_c c_c, Value.slice B_c m_c d_c] 26)) = W2
  have hh : Below w_c.heap.size w_c W2 := by subst hW; exact ((Below.refl _ _).alloc (Nat.le_refl _) _)
  have XU : B3 W2 (w_c.heap.size) (Value.bool s_c) (Value.slice A_c n_c c_c) (Value.slice B_c m_c d_c) := by subst hW; exact B3.new' _ _ _ _ _ rfl
  have hzW2 : W2.heap.size = w_c.heap.size + 1 := by subst hW; simp
  clear hW
  try replace c := c.below hh
  try replace wh := wh.below hh
  try replace XG := XG.below hh
  try replace Z := Z.below hh
  replace hb := bend hb hh
  refine aside_region (by simp) rfl rfl XU XG c.qr wh.qr (by omega) (by omega) (by omega) (by omega) HG.out ?_
  intro V w_x g_x u s_x A_x n_x c_x B_x m_x d_x hu x XX hh hg_x hvx
  simp only [putAll, Act.put, List.setIfInBounds_toArray, List.set_cons_zero, List.set_cons_succ, hvx]
  clear hvx
  obtain ⟨R, rfl, rfl⟩ := hu
  replace Z := Z.below hh
  replace hb := bend hb hh
  have xx0 := XX.c0
  have xx1 := XX.c1
  have xx2 := XX.c2
  have zf0 := Z.f0
  have zf1 := Z.f1
  have zf2 := Z.f2
  have z0 := Z.c0
  have z1 := Z.c1
  have z2 := Z.c2
  go_wp2_with fail
  have Z2 := Z.set3 (.bool s_x) (.slice A_x n_x c_x) (.slice B_x m_x d_x)
  have g0 := Z2.c0
  have g1 := Z2.c1
  have g2 := Z2.c2
  refine bodyPost_ret (v := .agg #[.bool s_x, .slice A_x n_x c_x, .slice B_x m_x d_x]) (by simp [results, Tryz.results92, go_sem, g0, g1, g2]) rfl ?_
  exact ⟨s_x, A_x, n_x, c_x, B_x, m_x, d_x, rfl, (x.more (by omega)).set3 Z _ _ _, below_set3 hb (by omega) _ _ _⟩
theorem ptoseg_p {w : World} {kp k : Nat} {px py ax ay bx by_ : Rat} {s_p t_p : Bool} {A_p B_p E_p F_p : Option Addr} {n_p c_p m_p d_p i_p e_p j_p f_p : Nat} {s_q t_q : Bool} {A_q B_q E_q F_q : Option Addr} {n_q c_q m_q d_q i_q e_q j_q f_q : Nat} {s_r t_r : Bool} {A_r B_r E_r F_r : Option Addr} {n_r c_r m_r d_r i_r e_r j_r f_r : Nat} (p : PR w s_p A_p n_p c_p B_p m_p d_p t_p E_p i_p e_p F_p j_p f_p px py kp) (q : PR w s_q A_q n_q c_q B_q m_q d_q t_q E_q i_q e_q F_q j_q f_q ax ay k) (r : PR w s_r A_r n_r c_r B_r m_r d_r t_r E_r i_r e_r F_r j_r f_r bx by_ k) (hp : kp ≤ 22) (hk : k ≤ 22) (h1 : 1 ≤ kp) (h2 : 1 ≤ k) :
    Calls Tryz.prog 92 #[.agg #[.bool s_p, .slice A_p n_p c_p, .slice B_p m_p d_p, .bool t_p, .slice E_p i_p e_p, .slice F_p j_p f_p], .agg #[.bool s_q, .slice A_q n_q c_q, .slice B_q m_q d_q, .bool t_q, .slice E_q i_q e_q, .slice F_q j_q f_q], .agg #[.bool s_r, .slice A_r n_r c_r, .slice B_r m_r d_r, .bool t_r, .slice E_r i_r e_r, .slice F_r j_r f_r]] w (GivesQ w (segQ px py ax ay bx by_) (12 * (kp + k) + 8 * k + 40)) := by
  unfold segQ
  split
  · exact ptoseg_lo p q r hp hk h1 h2 ‹_›
  · split
    · exact ptoseg_hi p q r hp hk h1 h2 ‹_› ‹_›
    · exact ptoseg_mid p q r hp hk h1 h2 ‹_› ‹_›
end Go.Proofs.YtlkjkhpjhllapaaGreat
