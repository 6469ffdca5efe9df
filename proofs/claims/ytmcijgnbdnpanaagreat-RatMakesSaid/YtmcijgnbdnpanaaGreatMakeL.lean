/- The law RatMakes: the fraction of any two numbers, the whole numbers next to any fraction. -/
import Derived.Test.YtmcijgnbdnpanaaGreatRefV
import Derived.Test.YtmcijgnbdnpanaaGreatRatX
import Derived.Test.YtmcijgnbdnpanaaGreatRatI
namespace Go.Proofs.YtmcijgnbdnpanaaGreat
open Go Go.RowKit

/-- Block g holds an array of two numbers. -/
def Bl (W : World) (g : Nat) (x y : Value) : Prop := W.heap[g]? = some (.cells #[x, y] 50 (0, 0))
section
variable {W W' : World} {g : Nat} {x y : Value}
theorem Bl.c0 (h : Bl W g x y) : W.cell? ⟨g, 0, none⟩ = some x := by rw [cell_of_row W g 0 _ _ (0, 0) h]; rfl
theorem Bl.c1 (h : Bl W g x y) : W.cell? ⟨g, 1, none⟩ = some y := by rw [cell_of_row W g 1 _ _ (0, 0) h]; rfl
theorem Bl.lt (h : Bl W g x y) : g < W.heap.size := World.block_lt_of_cell? W _ h.c0
theorem Bl.below (h : Bl W g x y) (hb : Below W.heap.size W W') : Bl W' g x y := (hb.block g h.lt).trans h
theorem Bl.alloc (h : Bl W g x y) (o : Obj) : Bl (W.alloc o) g x y := (Below.heap_alloc W o g h.lt).trans h
theorem Bl.new' (W : World) (x y : Value) (g : Nat) (hg : g = W.heap.size) : Bl (W.alloc (.cells #[x, y] 50)) g x y := by subst hg; exact heap_alloc_new W _
end
theorem RG.sg {w : World} {s : Bool} {A : Option Addr} {n c k : Nat} {v : Int} (h : RG w s A n c v k) : s = decide (v < 0) := h.1
theorem ints_same {w : World} {s t : Bool} {A B : Option Addr} {n c m d k : Nat} {v : Int} (X : ZG w s A n c v k) (ht : t = decide (v < 0)) (o : Rd .u64 w B m (limbs B64 v.natAbs)) (hk : k ≤ 100000) :
    Calls Tryz.prog 38 #[.agg #[.bool s, .slice A n c], .agg #[.bool t, .slice B m d]] w fun e w' => e = .returned (.bool true) ∧ Below w.heap.size w w' := by
  have hs := X.1
  rw [← ht] at hs
  subst hs
  exact ints_true s _ A B n c m d w X.2.1 o (by have := X.2.2.2; unfold maxLen; omega)
theorem div_whole {p q : Int} : Rat.divInt p 1 / Rat.divInt q 1 = Rat.divInt p q := by
  rw [Rat.div_def, Rat.inv_divInt, Rat.divInt_mul_divInt, Int.mul_one, Int.one_mul]
set_option maxRecDepth 100000 in
set_option maxHeartbeats 4000000 in
theorem rof_zero (p : Int) (hp1 : -9223372036854775808 ≤ p) (hp2 : p < 9223372036854775808) (w : World) :
    Calls Tryz.prog 44 #[.int .i64 p, .int .i64 0] w (GivesQ w (Rat.divInt p 1) 1) := by
  have H1 := Lib.hid hp1
  have H2 := Lib.hid hp2
  clear hp1 hp2
  go_enter Tryz.func44, Tryz.ntmps44
  go_wp2_with fail
  generalize hW : (w.alloc (Obj.cells #[Value.bool false, Value.slice none 0 0, Value.slice none 0 0] 26)) = W
  have hb : Below w.heap.size w W := by subst hW; exact ((Below.refl _ _).alloc (Nat.le_refl _) _)
  have Z : B3 W (w.heap.size) (Value.bool false) (Value.slice none 0 0) (Value.slice none 0 0) := by subst hW; exact B3.new' _ _ _ _ _ rfl
  have hzW : W.heap.size = w.heap.size + 1 := by subst hW; simp
  clear hW
  go_upto_region 4 with (first
      | (go_at_call 51; (with_reducible refine (zof_zr p H1.out H2.out _).mono ?_); rintro e w_x ⟨s_x, A_x, n_x, c_x, rfl, x, hh⟩
         try replace y := y.below hh
         try replace r := r.below hh
         try replace Z := Z.below hh
         replace hb := bend hb hh)
      | (go_at_call 51; (with_reducible refine (zof_zr 1 (by decide) (by decide) _).mono ?_); rintro e w_y ⟨s_y, A_y, n_y, c_y, rfl, y, hh⟩
         try replace x := x.below hh
         try replace r := r.below hh
         try replace Z := Z.below hh
         replace hb := bend hb hh)
      | (go_at_call 34; (with_reducible refine (make_zr 1 x y (by omega) (by omega) (by decide) (Nat.le_refl _) (Nat.le_refl _)).mono ?_); rintro e w_r ⟨s_r, A_r, n_r, c_r, B_r, m_r, d_r, rfl, r, hh⟩
         try replace x := x.below hh
         try replace y := y.below hh
         try replace Z := Z.below hh
         replace hb := bend hb hh))
  generalize hW : (w_r.alloc (Obj.cells #[Value.bool s_r, Value.slice A_r n_r c_r, Value.slice B_r m_r d_r] 26)) = W2
  have hh : Below w_r.heap.size w_r W2 := by subst hW; exact ((Below.refl _ _).alloc (Nat.le_refl _) _)
  have R : B3 W2 (w_r.heap.size) (Value.bool s_r) (Value.slice A_r n_r c_r) (Value.slice B_r m_r d_r) := by subst hW; exact B3.new' _ _ _ _ _ rfl
  have hzW2 : W2.heap.size = w_r.heap.size + 1 := by subst hW; simp
  clear hW
  try replace r := r.below hh
  try replace Z := Z.below hh
  replace hb := bend hb hh
  have r0 := R.c0
  have r1 := R.c1
  have r2 := R.c2
  have zf0 := Z.f0
  have zf1 := Z.f1
  have zf2 := Z.f2
  have z0 := Z.c0
  have z1 := Z.c1
  have z2 := Z.c2
  go_wp2_with fail
  have Z2 := Z.set3 (.bool s_r) (.slice A_r n_r c_r) (.slice B_r m_r d_r)
  have g0 := Z2.c0
  have g1 := Z2.c1
  have g2 := Z2.c2
  refine bodyPost_ret (v := .agg #[.bool s_r, .slice A_r n_r c_r, .slice B_r m_r d_r]) (by simp [results, Tryz.results44, go_sem, g0, g1, g2]) rfl ?_
  exact ⟨s_r, A_r, n_r, c_r, B_r, m_r, d_r, rfl, r.set3 Z _ _ _, below_set3 hb (by omega) _ _ _⟩
theorem rc_gesso_gessoref02_In {e : Operand → Value} {x0 : Operand} {d : Option Tmp} {y : Nat} {pos : String} {af : Array Edge} {w : World} {u0 : Value} (h0 : e x0 = u0) (hf : e (.func 35) = .func (.func 35) #[] #[]) :
    (execOp e { dst := d, op := Op.call { callee := Callee.value (Operand.func 35), args := #[x0], argTypes := #[24] }, type := y, pos := pos, after := af, guard := none }).run Tryz.prog w = .ok (.enter 35 #[u0]) w := by
  go_simp
def F_mins (s : Bool) (t : Bool) (A : Option Addr) (B : Option Addr) (n : Nat) (c : Nat) (m : Nat) (d : Nat) (pp : Int) (qq : Int) (sl : Nat) : Value → World → Prop :=
  match sl with
  | 29 => fun x _ => x = Value.agg #[.bool s, .slice A n c]
  | 30 => VRG (pp) (2 * 12)
  | 31 => fun x _ => x = Value.agg #[.bool t, .slice B m d]
  | 32 => VRG (qq) (2 * 12)
  | _ => fun _ _ => True
def B0_mins (pp : Int) : BoxOp :=
  ⟨4, 6, 9, 32, #[.bool false, .slice none 0 0], fun cs w => ∃ s A n c, cs = #[.bool s, .slice A n c] ∧ RG w s A n c (pp) (2 * 12)⟩
def B1_mins (qq : Int) : BoxOp :=
  ⟨5, 7, 10, 32, #[.bool false, .slice none 0 0], fun cs w => ∃ s A n c, cs = #[.bool s, .slice A n c] ∧ RG w s A n c (qq) (2 * 12)⟩
set_option maxRecDepth 100000 in
set_option maxHeartbeats 4000000 in
theorem mins_region {id : Nat} {ac : Act} {w : World} {Q : Exit → Act → World → Prop} {s t : Bool} {A B : Option Addr} {n c m d g1 g2 : Nat} {pp qq : Int}
    (hsz : 32 < ac.tmps.size) (e3 : ac.eval (.tmp 3) = Value.pointer (some ⟨g1, 0, none⟩)) (e4 : ac.eval (.tmp 4) = Value.pointer (some ⟨g2, 0, none⟩)) (XA : Bx w g1 (.bool s) (.slice A n c)) (XB : Bx w g2 (.bool t) (.slice B m d)) (x : ZR w s A n c pp 12) (y : ZR w t B m d qq 12)
    (hend : ∀ (V : Nat → Value) (w' : World) (g0 : Nat) (s0 : Bool) (A0 : Option Addr) (n0 c0 : Nat) (g1 : Nat) (s1 : Bool) (A1 : Option Addr) (n1 c1 : Nat), RG w' s0 A0 n0 c0 (pp) (2 * 12) → By w' g0 (.bool s0) (.slice A0 n0 c0) → w.heap.size ≤ g0 → V 9 = .pointer (some ⟨g0, 0, none⟩) → RG w' s1 A1 n1 c1 (qq) (2 * 12) → By w' g1 (.bool s1) (.slice A1 n1 c1) → w.heap.size ≤ g1 → V 10 = .pointer (some ⟨g1, 0, none⟩) → g1 ≠ g0 → Below w.heap.size w w' → Q .normal (putAll ac [29, 30, 31, 32, 9, 10] V) w') :
    (Code.region id #[{ dst := some 29, op := Op.load 24 (Operand.tmp 3), type := 24, pos := "law.go:53", after := #[], guard := none },
      { dst := some 30, op := Op.call { callee := Callee.value (Operand.func 35), args := #[Operand.tmp 29], argTypes := #[24] }, type := 32, pos := "law.go:53", after := #[{ on := 0, ground := Ground.data }], guard := none },
      { dst := some 31, op := Op.load 24 (Operand.tmp 4), type := 24, pos := "law.go:53", after := #[], guard := none },
      { dst := some 32, op := Op.call { callee := Callee.value (Operand.func 35), args := #[Operand.tmp 31], argTypes := #[24] }, type := 32, pos := "law.go:53", after := #[{ on := 2, ground := Ground.data }, { on := 1, ground := Ground.chain }], guard := none },
      { dst := some 9, op := Op.alloc 32, type := 0, pos := "law.go:53", after := #[], guard := none },
      { dst := some 10, op := Op.alloc 32, type := 0, pos := "law.go:53", after := #[], guard := none },
      { dst := none, op := Op.store 32 (Operand.tmp 9) (Operand.tmp 30), type := 0, pos := "law.go:53", after := #[{ on := 4, ground := Ground.data }, { on := 1, ground := Ground.data }, { on := 3, ground := Ground.chain }, { on := 0, ground := Ground.phase }, { on := 1, ground := Ground.phase }, { on := 2, ground := Ground.textOnly Departure.lateStores }, { on := 3, ground := Ground.textOnly Departure.lateStoresUnsure }, { on := 4, ground := Ground.phase }, { on := 5, ground := Ground.phase }], guard := none },
      { dst := none, op := Op.store 32 (Operand.tmp 10) (Operand.tmp 32), type := 0, pos := "law.go:53", after := #[{ on := 5, ground := Ground.data }, { on := 3, ground := Ground.data }, { on := 6, ground := Ground.chain }, { on := 0, ground := Ground.phase }, { on := 1, ground := Ground.phase }, { on := 2, ground := Ground.phase }, { on := 3, ground := Ground.phase }, { on := 4, ground := Ground.phase }, { on := 5, ground := Ground.phase }, { on := 6, ground := Ground.phase }], guard := none }] true).wp Tryz.prog Q ac w := by
  have hnd : ([29, 30, 31, 32, 9, 10] : List Nat).Nodup := by decide
  have G : ∀ (sv : Nat → Value) (t : Nat), t ∈ ([29, 30, 31, 32, 9, 10] : List Nat) → t ≤ 32 → (putAll ac [29, 30, 31, 32, 9, 10] sv).eval (.tmp t) = sv t := fun sv t ht h => eval_putAll_mem (t := t) [29, 30, 31, 32, 9, 10] ac hnd ht (Nat.lt_of_le_of_lt h hsz)
  have E3 : ∀ sv : Nat → Value, (putAll ac [29, 30, 31, 32, 9, 10] sv).eval (.tmp 3) = Value.pointer (some ⟨g1, 0, none⟩) := fun sv => (eval_putAll_not (v := sv) [29, 30, 31, 32, 9, 10] ac (show 3 ∉ _ by decide)).trans e3
  have E4 : ∀ sv : Nat → Value, (putAll ac [29, 30, 31, 32, 9, 10] sv).eval (.tmp 4) = Value.pointer (some ⟨g2, 0, none⟩) := fun sv => (eval_putAll_not (v := sv) [29, 30, 31, 32, 9, 10] ac (show 4 ∉ _ by decide)).trans e4
  have NE : ∀ t : Nat, (t ≠ 9 ∧ t ≠ 10) → ∀ p ∈ [B0_mins pp, B1_mins qq], t ≠ p.tA := by
    intro t ht p hp
    simp only [List.mem_cons, List.not_mem_nil, or_false] at hp
    rcases hp with rfl | rfl
    · exact ht.1
    · exact ht.2
  refine wp_region_flows [29, 30, 31, 32, 9, 10] [B0_mins pp, B1_mins qq] (F_mins s t A B n c m d pp qq) (by kernel_rfl) (by kernel_rfl) rfl hnd ?_ ?_ ?_ ?_ ?_ ?_ ?_ ?_
  · intro p hp
    simp only [List.mem_cons, List.not_mem_nil, or_false] at hp
    rcases hp with rfl | rfl
    · refine ⟨⟨{ dst := some 9, op := Op.alloc 32, type := 0, pos := "law.go:53", after := #[], guard := none }, rfl, rfl, rfl, fun e w' => run_allocR⟩, ⟨{ dst := none, op := Op.store 32 (Operand.tmp 9) (Operand.tmp 30), type := 0, pos := "law.go:53", after := #[{ on := 4, ground := Ground.data }, { on := 1, ground := Ground.data }, { on := 3, ground := Ground.chain }, { on := 0, ground := Ground.phase }, { on := 1, ground := Ground.phase }, { on := 2, ground := Ground.textOnly Departure.lateStores }, { on := 3, ground := Ground.textOnly Departure.lateStoresUnsure }, { on := 4, ground := Ground.phase }, { on := 5, ground := Ground.phase }], guard := none }, rfl, rfl, rfl, { on := 4, ground := Ground.data }, by simp, rfl, rfl⟩, free2 _ _ _ _, ?_, ?_⟩
      · rintro cs w1 w2 ⟨s, A, n, c, rfl, h⟩ hb; exact ⟨s, A, n, c, rfl, h.below hb⟩
      · rintro T cs w1 w2 g c0 ⟨s, A, n, c, rfl, h⟩ hB ho; exact ⟨s, A, n, c, rfl, h.box hB ho⟩
    · refine ⟨⟨{ dst := some 10, op := Op.alloc 32, type := 0, pos := "law.go:53", after := #[], guard := none }, rfl, rfl, rfl, fun e w' => run_allocR⟩, ⟨{ dst := none, op := Op.store 32 (Operand.tmp 10) (Operand.tmp 32), type := 0, pos := "law.go:53", after := #[{ on := 5, ground := Ground.data }, { on := 3, ground := Ground.data }, { on := 6, ground := Ground.chain }, { on := 0, ground := Ground.phase }, { on := 1, ground := Ground.phase }, { on := 2, ground := Ground.phase }, { on := 3, ground := Ground.phase }, { on := 4, ground := Ground.phase }, { on := 5, ground := Ground.phase }, { on := 6, ground := Ground.phase }], guard := none }, rfl, rfl, rfl, { on := 5, ground := Ground.data }, by simp, rfl, rfl⟩, free2 _ _ _ _, ?_, ?_⟩
      · rintro cs w1 w2 ⟨s, A, n, c, rfl, h⟩ hb; exact ⟨s, A, n, c, rfl, h.below hb⟩
      · rintro T cs w1 w2 g c0 ⟨s, A, n, c, rfl, h⟩ hB ho; exact ⟨s, A, n, c, rfl, h.box hB ho⟩
  · intro p hp q hq h
    simp only [List.mem_cons, List.not_mem_nil, or_false] at hp hq
    rcases hp with rfl | rfl <;> rcases hq with rfl | rfl
    · rfl
    · exact absurd (show (9 : Nat) = 10 from h) (by decide)
    · exact absurd (show (10 : Nat) = 9 from h) (by decide)
    · rfl
  · intro p hp q hq h
    simp only [List.mem_cons, List.not_mem_nil, or_false] at hp hq
    rcases hp with rfl | rfl <;> rcases hq with rfl | rfl
    · rfl
    · exact absurd (show (6 : Nat) = 7 from h) (by decide)
    · exact absurd (show (7 : Nat) = 6 from h) (by decide)
    · rfl
  · intro i o h1 h2
    match i, h1 with
    | 0, h1 => cases h1; cases h2
    | 1, h1 => cases h1; cases h2
    | 2, h1 => cases h1; cases h2
    | 3, h1 => cases h1; cases h2
    | 4, h1 => cases h1; cases h2
    | 5, h1 => cases h1; cases h2
    | 6, h1 => exact ⟨B0_mins pp, List.Mem.head _, rfl⟩
    | 7, h1 => exact ⟨B1_mins qq, List.Mem.tail _ (List.Mem.head _), rfl⟩
    | i + 8, h1 => cases h1
  · intro t
    unfold F_mins
    split <;> first | exact stays_eq _ | exact stays_q _ _ | exact stays_z _ _ | exact stays_r _ _ | exact stays_rq _ _ | exact stays_true
  · intro i o t sv w' ho hia hd J0 hf
    have x := x.below J0
    have y := y.below J0
    have XA := XA.below J0
    have XB := XB.below J0
    match i, ho with
    | 0, ho =>
      obtain rfl : { dst := some 29, op := Op.load 24 (Operand.tmp 3), type := 24, pos := "law.go:53", after := #[], guard := none } = o := Option.some.inj ho
      cases hd
      refine wpOp_plain' (o := { dst := some 29, op := Op.load 24 (Operand.tmp 3), type := 24, pos := "law.go:53", after := #[], guard := none }) rfl rfl ?_
      unfold Oper.wp
      rw [run_loadI (E3 sv) XA.c0 XA.c1, Oper.upon_value]
      exact ⟨_, rfl, Below.refl _ _, rfl⟩
    | 1, ho =>
      obtain rfl : { dst := some 30, op := Op.call { callee := Callee.value (Operand.func 35), args := #[Operand.tmp 29], argTypes := #[24] }, type := 32, pos := "law.go:53", after := #[{ on := 0, ground := Ground.data }], guard := none } = o := Option.some.inj ho
      cases hd
      have f29 : sv 29 = Value.agg #[.bool s, .slice A n c] := hf { on := 0, ground := Ground.data } (by simp) rfl _ 29 rfl rfl (NE _ (by decide))
      refine wpOp_plain' (o := { dst := some 30, op := Op.call { callee := Callee.value (Operand.func 35), args := #[Operand.tmp 29], argTypes := #[24] }, type := 32, pos := "law.go:53", after := #[{ on := 0, ground := Ground.data }], guard := none }) rfl rfl ?_
      unfold Oper.wp
      rw [rc_gesso_gessoref02_In ((G sv 29 (by decide) (by decide)).trans f29) rfl, Oper.upon_enter]
      refine (rin2 x (by decide)).mono ?_
      rintro e w1 ⟨s1, A1, n1, c1, rfl, hq, hh⟩
      exact ⟨_, rfl, hh, s1, A1, n1, c1, rfl, hq⟩
    | 2, ho =>
      obtain rfl : { dst := some 31, op := Op.load 24 (Operand.tmp 4), type := 24, pos := "law.go:53", after := #[], guard := none } = o := Option.some.inj ho
      cases hd
      refine wpOp_plain' (o := { dst := some 31, op := Op.load 24 (Operand.tmp 4), type := 24, pos := "law.go:53", after := #[], guard := none }) rfl rfl ?_
      unfold Oper.wp
      rw [run_loadI (E4 sv) XB.c0 XB.c1, Oper.upon_value]
      exact ⟨_, rfl, Below.refl _ _, rfl⟩
    | 3, ho =>
      obtain rfl : { dst := some 32, op := Op.call { callee := Callee.value (Operand.func 35), args := #[Operand.tmp 31], argTypes := #[24] }, type := 32, pos := "law.go:53", after := #[{ on := 2, ground := Ground.data }, { on := 1, ground := Ground.chain }], guard := none } = o := Option.some.inj ho
      cases hd
      have f31 : sv 31 = Value.agg #[.bool t, .slice B m d] := hf { on := 2, ground := Ground.data } (by simp) rfl _ 31 rfl rfl (NE _ (by decide))
      refine wpOp_plain' (o := { dst := some 32, op := Op.call { callee := Callee.value (Operand.func 35), args := #[Operand.tmp 31], argTypes := #[24] }, type := 32, pos := "law.go:53", after := #[{ on := 2, ground := Ground.data }, { on := 1, ground := Ground.chain }], guard := none }) rfl rfl ?_
      unfold Oper.wp
      rw [rc_gesso_gessoref02_In ((G sv 31 (by decide) (by decide)).trans f31) rfl, Oper.upon_enter]
      refine (rin2 y (by decide)).mono ?_
      rintro e w1 ⟨s1, A1, n1, c1, rfl, hq, hh⟩
      exact ⟨_, rfl, hh, s1, A1, n1, c1, rfl, hq⟩
    | 4, ho => cases ho; cases hd; exact absurd rfl (hia (B0_mins pp) (List.Mem.head _))
    | 5, ho => cases ho; cases hd; exact absurd rfl (hia (B1_mins qq) (List.Mem.tail _ (List.Mem.head _)))
    | 6, ho => cases ho; cases hd
    | 7, ho => cases ho; cases hd
    | i + 8, ho => cases ho
  · intro p hp os sv w' g hos J0 p1 p3 hf
    simp only [List.mem_cons, List.not_mem_nil, or_false] at hp
    rcases hp with rfl | rfl
    · obtain rfl : { dst := none, op := Op.store 32 (Operand.tmp 9) (Operand.tmp 30), type := 0, pos := "law.go:53", after := #[{ on := 4, ground := Ground.data }, { on := 1, ground := Ground.data }, { on := 3, ground := Ground.chain }, { on := 0, ground := Ground.phase }, { on := 1, ground := Ground.phase }, { on := 2, ground := Ground.textOnly Departure.lateStores }, { on := 3, ground := Ground.textOnly Departure.lateStoresUnsure }, { on := 4, ground := Ground.phase }, { on := 5, ground := Ground.phase }], guard := none } = os := Option.some.inj hos
      have h1 : VRG (pp) (2 * 12) (sv 30) w' := hf { on := 1, ground := Ground.data } (by simp) rfl _ 30 rfl rfl (NE _ (by decide))
      rw [← G sv 30 (by decide) (by decide)] at h1
      refine store_r (V := pp) (k := 2 * 12) (ac := putAll ac [29, 30, 31, 32, 9, 10] sv) (z := Operand.tmp 30) ?_ ?_ ?_
      · exact (G sv 9 (by decide) (by decide)).trans p1
      · exact h1
      · exact p3
    · obtain rfl : { dst := none, op := Op.store 32 (Operand.tmp 10) (Operand.tmp 32), type := 0, pos := "law.go:53", after := #[{ on := 5, ground := Ground.data }, { on := 3, ground := Ground.data }, { on := 6, ground := Ground.chain }, { on := 0, ground := Ground.phase }, { on := 1, ground := Ground.phase }, { on := 2, ground := Ground.phase }, { on := 3, ground := Ground.phase }, { on := 4, ground := Ground.phase }, { on := 5, ground := Ground.phase }, { on := 6, ground := Ground.phase }], guard := none } = os := Option.some.inj hos
      have h1 : VRG (qq) (2 * 12) (sv 32) w' := hf { on := 3, ground := Ground.data } (by simp) rfl _ 32 rfl rfl (NE _ (by decide))
      rw [← G sv 32 (by decide) (by decide)] at h1
      refine store_r (V := qq) (k := 2 * 12) (ac := putAll ac [29, 30, 31, 32, 9, 10] sv) (z := Operand.tmp 32) ?_ ?_ ?_
      · exact (G sv 10 (by decide) (by decide)).trans p1
      · exact h1
      · exact p3
  · intro sv w' J0 hF hB hap
    obtain ⟨g0, cs0, p0, r0, b0, ⟨s0, A0, n0, c0, rfl, h0⟩⟩ := hB (B0_mins pp) (List.Mem.head _)
    obtain ⟨g1, cs1, p1, r1, b1, ⟨s1, A1, n1, c1, rfl, h1⟩⟩ := hB (B1_mins qq) (List.Mem.tail _ (List.Mem.head _))
    have p0' : sv 9 = .pointer (some ⟨g0, 0, none⟩) := p0
    have p1' : sv 10 = .pointer (some ⟨g1, 0, none⟩) := p1
    exact hend sv w' g0 _ _ _ _ g1 _ _ _ _ h0 b0.at_ r0 p0' h1 b1.at_ r1 p1' (fun q => hap (B1_mins qq) (List.Mem.tail _ (List.Mem.head _)) (B0_mins pp) (List.Mem.head _) (show (10 : Nat) ≠ 9 by decide) (by rw [show (B1_mins qq).tA = 10 from rfl, show (B0_mins pp).tA = 9 from rfl, p1', p0', q]))  J0
theorem rc_gesso_gessoref03_Whole {e : Operand → Value} {x0 : Operand} {d : Option Tmp} {y : Nat} {pos : String} {af : Array Edge} {w : World} {u0 : Value} (h0 : e x0 = u0) (hf : e (.func 37) = .func (.func 37) #[] #[]) :
    (execOp e { dst := d, op := Op.call { callee := Callee.value (Operand.func 37), args := #[x0], argTypes := #[32] }, type := y, pos := pos, after := af, guard := none }).run Tryz.prog w = .ok (.enter 37 #[u0]) w := by
  go_simp
theorem rc_gesso_gessoref03_Div {e : Operand → Value} {x0 x1 : Operand} {d : Option Tmp} {y : Nat} {pos : String} {af : Array Edge} {w : World} {u0 u1 : Value} (h0 : e x0 = u0) (h1 : e x1 = u1) (hf : e (.func 17) = .func (.func 17) #[] #[]) :
    (execOp e { dst := d, op := Op.call { callee := Callee.value (Operand.func 17), args := #[x0, x1], argTypes := #[34, 34] }, type := y, pos := pos, after := af, guard := none }).run Tryz.prog w = .ok (.enter 17 #[u0, u1]) w := by
  go_simp
def F_mdiv (s : Bool) (t : Bool) (A : Option Addr) (B : Option Addr) (n : Nat) (c : Nat) (m : Nat) (d : Nat) (pp : Int) (qq : Int) (sl : Nat) : Value → World → Prop :=
  match sl with
  | 45 => fun x _ => x = Value.agg #[.bool s, .slice A n c]
  | 46 => VRQ (Rat.divInt pp 1) (2 * 12)
  | 47 => fun x _ => x = Value.agg #[.bool t, .slice B m d]
  | 48 => VRQ (Rat.divInt qq 1) (2 * 12)
  | 49 => VRQ (Rat.divInt pp 1 / Rat.divInt qq 1) (2 * 12 + 2 * 12)
  | _ => fun _ _ => True
def B0_mdiv (pp : Int) (qq : Int) : BoxOp :=
  ⟨5, 6, 11, 34, #[.bool false, .slice none 0 0, .slice none 0 0], fun cs w => ∃ s A n c B m d, cs = #[.bool s, .slice A n c, .slice B m d] ∧ RQ w s A n c B m d (Rat.divInt pp 1 / Rat.divInt qq 1) (2 * 12 + 2 * 12)⟩
set_option maxRecDepth 100000 in
set_option maxHeartbeats 4000000 in
theorem mdiv_region {id : Nat} {ac : Act} {w : World} {Q : Exit → Act → World → Prop} {s t : Bool} {A B : Option Addr} {n c m d g1 g2 : Nat} {pp qq : Int}
    (hsz : 49 < ac.tmps.size) (e9 : ac.eval (.tmp 9) = Value.pointer (some ⟨g1, 0, none⟩)) (e10 : ac.eval (.tmp 10) = Value.pointer (some ⟨g2, 0, none⟩)) (XP : By w g1 (.bool s) (.slice A n c)) (XQ : By w g2 (.bool t) (.slice B m d)) (x : RG w s A n c pp (2 * 12)) (y : RG w t B m d qq (2 * 12)) (hq : Rat.divInt qq 1 ≠ 0)
    (hend : ∀ (V : Nat → Value) (w' : World) (g0 : Nat) (s0 : Bool) (A0 : Option Addr) (n0 c0 : Nat) (B0 : Option Addr) (m0 d0 : Nat), RQ w' s0 A0 n0 c0 B0 m0 d0 (Rat.divInt pp 1 / Rat.divInt qq 1) (2 * 12 + 2 * 12) → B3R w' g0 (.bool s0) (.slice A0 n0 c0) (.slice B0 m0 d0) → w.heap.size ≤ g0 → V 11 = .pointer (some ⟨g0, 0, none⟩) → Below w.heap.size w w' → Q .normal (putAll ac [45, 46, 47, 48, 49, 11] V) w') :
    (Code.region id #[{ dst := some 45, op := Op.load 32 (Operand.tmp 9), type := 32, pos := "law.go:59", after := #[], guard := none },
      { dst := some 46, op := Op.call { callee := Callee.value (Operand.func 37), args := #[Operand.tmp 45], argTypes := #[32] }, type := 34, pos := "law.go:59", after := #[{ on := 0, ground := Ground.data }], guard := none },
      { dst := some 47, op := Op.load 32 (Operand.tmp 10), type := 32, pos := "law.go:59", after := #[], guard := none },
      { dst := some 48, op := Op.call { callee := Callee.value (Operand.func 37), args := #[Operand.tmp 47], argTypes := #[32] }, type := 34, pos := "law.go:59", after := #[{ on := 2, ground := Ground.data }, { on := 1, ground := Ground.chain }], guard := none },
      { dst := some 49, op := Op.call { callee := Callee.value (Operand.func 17), args := #[Operand.tmp 46, Operand.tmp 48], argTypes := #[34, 34] }, type := 34, pos := "law.go:59", after := #[{ on := 1, ground := Ground.data }, { on := 3, ground := Ground.data }, { on := 3, ground := Ground.chain }], guard := none },
      { dst := some 11, op := Op.alloc 34, type := 0, pos := "law.go:59", after := #[], guard := none },
      { dst := none, op := Op.store 34 (Operand.tmp 11) (Operand.tmp 49), type := 0, pos := "law.go:59", after := #[{ on := 5, ground := Ground.data }, { on := 4, ground := Ground.data }, { on := 4, ground := Ground.chain }, { on := 0, ground := Ground.phase }, { on := 1, ground := Ground.phase }, { on := 2, ground := Ground.phase }, { on := 3, ground := Ground.phase }, { on := 4, ground := Ground.phase }, { on := 5, ground := Ground.phase }], guard := none }] true).wp Tryz.prog Q ac w := by
  have hnd : ([45, 46, 47, 48, 49, 11] : List Nat).Nodup := by decide
  have G : ∀ (sv : Nat → Value) (t : Nat), t ∈ ([45, 46, 47, 48, 49, 11] : List Nat) → t ≤ 49 → (putAll ac [45, 46, 47, 48, 49, 11] sv).eval (.tmp t) = sv t := fun sv t ht h => eval_putAll_mem (t := t) [45, 46, 47, 48, 49, 11] ac hnd ht (Nat.lt_of_le_of_lt h hsz)
  have E9 : ∀ sv : Nat → Value, (putAll ac [45, 46, 47, 48, 49, 11] sv).eval (.tmp 9) = Value.pointer (some ⟨g1, 0, none⟩) := fun sv => (eval_putAll_not (v := sv) [45, 46, 47, 48, 49, 11] ac (show 9 ∉ _ by decide)).trans e9
  have E10 : ∀ sv : Nat → Value, (putAll ac [45, 46, 47, 48, 49, 11] sv).eval (.tmp 10) = Value.pointer (some ⟨g2, 0, none⟩) := fun sv => (eval_putAll_not (v := sv) [45, 46, 47, 48, 49, 11] ac (show 10 ∉ _ by decide)).trans e10
  have NE : ∀ t : Nat, (t ≠ 11) → ∀ p ∈ [B0_mdiv pp qq], t ≠ p.tA := by
    intro t ht p hp
    simp only [List.mem_cons, List.not_mem_nil, or_false] at hp
    rcases hp with rfl
    · exact ht
  refine wp_region_flows [45, 46, 47, 48, 49, 11] [B0_mdiv pp qq] (F_mdiv s t A B n c m d pp qq) (by kernel_rfl) (by kernel_rfl) rfl hnd ?_ ?_ ?_ ?_ ?_ ?_ ?_ ?_
  · intro p hp
    simp only [List.mem_cons, List.not_mem_nil, or_false] at hp
    rcases hp with rfl
    · refine ⟨⟨{ dst := some 11, op := Op.alloc 34, type := 0, pos := "law.go:59", after := #[], guard := none }, rfl, rfl, rfl, fun e w' => run_alloc3⟩, ⟨{ dst := none, op := Op.store 34 (Operand.tmp 11) (Operand.tmp 49), type := 0, pos := "law.go:59", after := #[{ on := 5, ground := Ground.data }, { on := 4, ground := Ground.data }, { on := 4, ground := Ground.chain }, { on := 0, ground := Ground.phase }, { on := 1, ground := Ground.phase }, { on := 2, ground := Ground.phase }, { on := 3, ground := Ground.phase }, { on := 4, ground := Ground.phase }, { on := 5, ground := Ground.phase }], guard := none }, rfl, rfl, rfl, { on := 5, ground := Ground.data }, by simp, rfl, rfl⟩, free3 _ _ _ _ _ _ _, ?_, ?_⟩
      · rintro cs w1 w2 ⟨s, A, n, c, B, m, d, rfl, h⟩ hb; exact ⟨s, A, n, c, B, m, d, rfl, h.below hb⟩
      · rintro T cs w1 w2 g c0 ⟨s, A, n, c, B, m, d, rfl, h⟩ hB ho; exact ⟨s, A, n, c, B, m, d, rfl, h.box hB ho⟩
  · intro p hp q hq h
    simp only [List.mem_cons, List.not_mem_nil, or_false] at hp hq
    rcases hp with rfl <;> rcases hq with rfl
    · rfl
  · intro p hp q hq h
    simp only [List.mem_cons, List.not_mem_nil, or_false] at hp hq
    rcases hp with rfl <;> rcases hq with rfl
    · rfl
  · intro i o h1 h2
    match i, h1 with
    | 0, h1 => cases h1; cases h2
    | 1, h1 => cases h1; cases h2
    | 2, h1 => cases h1; cases h2
    | 3, h1 => cases h1; cases h2
    | 4, h1 => cases h1; cases h2
    | 5, h1 => cases h1; cases h2
    | 6, h1 => exact ⟨B0_mdiv pp qq, List.Mem.head _, rfl⟩
    | i + 7, h1 => cases h1
  · intro t
    unfold F_mdiv
    split <;> first | exact stays_eq _ | exact stays_q _ _ | exact stays_z _ _ | exact stays_r _ _ | exact stays_rq _ _ | exact stays_true
  · intro i o t sv w' ho hia hd J0 hf
    have x := x.below J0
    have y := y.below J0
    have XP := XP.below J0
    have XQ := XQ.below J0
    match i, ho with
    | 0, ho =>
      obtain rfl : { dst := some 45, op := Op.load 32 (Operand.tmp 9), type := 32, pos := "law.go:59", after := #[], guard := none } = o := Option.some.inj ho
      cases hd
      refine wpOp_plain' (o := { dst := some 45, op := Op.load 32 (Operand.tmp 9), type := 32, pos := "law.go:59", after := #[], guard := none }) rfl rfl ?_
      unfold Oper.wp
      rw [run_load32 (E9 sv) XP.c0 XP.c1, Oper.upon_value]
      exact ⟨_, rfl, Below.refl _ _, rfl⟩
    | 1, ho =>
      obtain rfl : { dst := some 46, op := Op.call { callee := Callee.value (Operand.func 37), args := #[Operand.tmp 45], argTypes := #[32] }, type := 34, pos := "law.go:59", after := #[{ on := 0, ground := Ground.data }], guard := none } = o := Option.some.inj ho
      cases hd
      have f45 : sv 45 = Value.agg #[.bool s, .slice A n c] := hf { on := 0, ground := Ground.data } (by simp) rfl _ 45 rfl rfl (NE _ (by decide))
      refine wpOp_plain' (o := { dst := some 46, op := Op.call { callee := Callee.value (Operand.func 37), args := #[Operand.tmp 45], argTypes := #[32] }, type := 34, pos := "law.go:59", after := #[{ on := 0, ground := Ground.data }], guard := none }) rfl rfl ?_
      unfold Oper.wp
      rw [rc_gesso_gessoref03_Whole ((G sv 45 (by decide) (by decide)).trans f45) rfl, Oper.upon_enter]
      refine (rwhole3 x (by decide)).mono ?_
      rintro e w1 ⟨s1, A1, n1, c1, B1, m1, d1, rfl, hq, hh⟩
      exact ⟨_, rfl, hh, s1, A1, n1, c1, B1, m1, d1, rfl, hq⟩
    | 2, ho =>
      obtain rfl : { dst := some 47, op := Op.load 32 (Operand.tmp 10), type := 32, pos := "law.go:59", after := #[], guard := none } = o := Option.some.inj ho
      cases hd
      refine wpOp_plain' (o := { dst := some 47, op := Op.load 32 (Operand.tmp 10), type := 32, pos := "law.go:59", after := #[], guard := none }) rfl rfl ?_
      unfold Oper.wp
      rw [run_load32 (E10 sv) XQ.c0 XQ.c1, Oper.upon_value]
      exact ⟨_, rfl, Below.refl _ _, rfl⟩
    | 3, ho =>
      obtain rfl : { dst := some 48, op := Op.call { callee := Callee.value (Operand.func 37), args := #[Operand.tmp 47], argTypes := #[32] }, type := 34, pos := "law.go:59", after := #[{ on := 2, ground := Ground.data }, { on := 1, ground := Ground.chain }], guard := none } = o := Option.some.inj ho
      cases hd
      have f47 : sv 47 = Value.agg #[.bool t, .slice B m d] := hf { on := 2, ground := Ground.data } (by simp) rfl _ 47 rfl rfl (NE _ (by decide))
      refine wpOp_plain' (o := { dst := some 48, op := Op.call { callee := Callee.value (Operand.func 37), args := #[Operand.tmp 47], argTypes := #[32] }, type := 34, pos := "law.go:59", after := #[{ on := 2, ground := Ground.data }, { on := 1, ground := Ground.chain }], guard := none }) rfl rfl ?_
      unfold Oper.wp
      rw [rc_gesso_gessoref03_Whole ((G sv 47 (by decide) (by decide)).trans f47) rfl, Oper.upon_enter]
      refine (rwhole3 y (by decide)).mono ?_
      rintro e w1 ⟨s1, A1, n1, c1, B1, m1, d1, rfl, hq, hh⟩
      exact ⟨_, rfl, hh, s1, A1, n1, c1, B1, m1, d1, rfl, hq⟩
    | 4, ho =>
      obtain rfl : { dst := some 49, op := Op.call { callee := Callee.value (Operand.func 17), args := #[Operand.tmp 46, Operand.tmp 48], argTypes := #[34, 34] }, type := 34, pos := "law.go:59", after := #[{ on := 1, ground := Ground.data }, { on := 3, ground := Ground.data }, { on := 3, ground := Ground.chain }], guard := none } = o := Option.some.inj ho
      cases hd
      have h46 : VRQ (Rat.divInt pp 1) (2 * 12) (sv 46) w' := hf { on := 1, ground := Ground.data } (by simp) rfl _ 46 rfl rfl (NE _ (by decide))
      obtain ⟨s46, A46, n46, c46, B46, m46, d46, f46, q46⟩ := h46
      have h48 : VRQ (Rat.divInt qq 1) (2 * 12) (sv 48) w' := hf { on := 3, ground := Ground.data } (by simp) rfl _ 48 rfl rfl (NE _ (by decide))
      obtain ⟨s48, A48, n48, c48, B48, m48, d48, f48, q48⟩ := h48
      refine wpOp_plain' (o := { dst := some 49, op := Op.call { callee := Callee.value (Operand.func 17), args := #[Operand.tmp 46, Operand.tmp 48], argTypes := #[34, 34] }, type := 34, pos := "law.go:59", after := #[{ on := 1, ground := Ground.data }, { on := 3, ground := Ground.data }, { on := 3, ground := Ground.chain }], guard := none }) rfl rfl ?_
      unfold Oper.wp
      rw [rc_gesso_gessoref03_Div ((G sv 46 (by decide) (by decide)).trans f46) ((G sv 48 (by decide) (by decide)).trans f48) rfl, Oper.upon_enter]
      refine (rdiv3 q46 q48 (by decide) (by decide) hq).mono ?_
      rintro e w1 ⟨s1, A1, n1, c1, B1, m1, d1, rfl, hq, hh⟩
      exact ⟨_, rfl, hh, s1, A1, n1, c1, B1, m1, d1, rfl, hq⟩
    | 5, ho => cases ho; cases hd; exact absurd rfl (hia (B0_mdiv pp qq) (List.Mem.head _))
    | 6, ho => cases ho; cases hd
    | i + 7, ho => cases ho
  · intro p hp os sv w' g hos J0 p1 p3 hf
    simp only [List.mem_cons, List.not_mem_nil, or_false] at hp
    rcases hp with rfl
    · obtain rfl : { dst := none, op := Op.store 34 (Operand.tmp 11) (Operand.tmp 49), type := 0, pos := "law.go:59", after := #[{ on := 5, ground := Ground.data }, { on := 4, ground := Ground.data }, { on := 4, ground := Ground.chain }, { on := 0, ground := Ground.phase }, { on := 1, ground := Ground.phase }, { on := 2, ground := Ground.phase }, { on := 3, ground := Ground.phase }, { on := 4, ground := Ground.phase }, { on := 5, ground := Ground.phase }], guard := none } = os := Option.some.inj hos
      have h1 : VRQ (Rat.divInt pp 1 / Rat.divInt qq 1) (2 * 12 + 2 * 12) (sv 49) w' := hf { on := 4, ground := Ground.data } (by simp) rfl _ 49 rfl rfl (NE _ (by decide))
      rw [← G sv 49 (by decide) (by decide)] at h1
      refine store_rq (V := Rat.divInt pp 1 / Rat.divInt qq 1) (k := 2 * 12 + 2 * 12) (ac := putAll ac [45, 46, 47, 48, 49, 11] sv) (z := Operand.tmp 49) ?_ ?_ ?_
      · exact (G sv 11 (by decide) (by decide)).trans p1
      · exact h1
      · exact p3
  · intro sv w' J0 hF hB hap
    obtain ⟨g0, cs0, p0, r0, b0, ⟨s0, A0, n0, c0, B0, m0, d0, rfl, h0⟩⟩ := hB (B0_mdiv pp qq) (List.Mem.head _)
    have p0' : sv 11 = .pointer (some ⟨g0, 0, none⟩) := p0
    exact hend sv w' g0 _ _ _ _ _ _ _ h0 b0.at_ r0 p0'  J0
set_option maxRecDepth 100000 in
set_option maxHeartbeats 4000000 in
theorem makes_l1 {w : World} {s t : Bool} {A B : Option Addr} {n c m d : Nat} (n0 n1 : Int) (hn : 12 < (n : Int)) :
    Calls Tryz.prog 4 #[.agg #[.bool s, .slice A n c], .agg #[.bool t, .slice B m d], .agg #[.int .i64 n0, .int .i64 n1]] w fun e w' => e = .returned (.bool true) ∧ Below w.heap.size w w' := by
  go_enter Tryz.func4, Tryz.ntmps4
  go_wp2_with fail
  generalize hW : (((w.alloc (Obj.cells #[Value.bool s, Value.slice A n c] 24)).alloc (Obj.cells #[Value.bool t, Value.slice B m d] 24)).alloc (Obj.cells #[Value.int .i64 n0, Value.int .i64 n1] 50)) = W
  have hb : Below w.heap.size w W := by subst hW; exact ((((Below.refl _ _).alloc (Nat.le_refl _) _).alloc (by simp) _).alloc (by simp; omega) _)
  have XA : Bx W (w.heap.size) (Value.bool s) (Value.slice A n c) := by subst hW; exact ((Bx.new' _ _ _ _ rfl).alloc _).alloc _
  have XB : Bx W (w.heap.size + 1) (Value.bool t) (Value.slice B m d) := by subst hW; exact (Bx.new' _ _ _ _ (by simp)).alloc _
  have XL : Bl W (w.heap.size + 1 + 1) (Value.int .i64 n0) (Value.int .i64 n1) := by subst hW; exact Bl.new' _ _ _ _ (by simp)
  have hzW : W.heap.size = w.heap.size + 3 := by subst hW; simp
  clear hW
  have xa0 := XA.c0
  have xa1 := XA.c1
  have xb0 := XB.c0
  have xb1 := XB.c1
  go_wp2_with (first
      | (go_at_call 11; (with_reducible refine (qwakes_any _).mono ?_); rintro e w_z ⟨rfl, hh⟩
         replace hb := bend hb hh))
  go_ret
  exact ⟨rfl, hb⟩

set_option maxRecDepth 100000 in
set_option maxHeartbeats 4000000 in
theorem makes_l2 {w : World} {s t : Bool} {A B : Option Addr} {n c m d : Nat} (n0 n1 : Int) (hn : (n : Int) ≤ 12) (hm : 12 < (m : Int)) :
    Calls Tryz.prog 4 #[.agg #[.bool s, .slice A n c], .agg #[.bool t, .slice B m d], .agg #[.int .i64 n0, .int .i64 n1]] w fun e w' => e = .returned (.bool true) ∧ Below w.heap.size w w' := by
  go_enter Tryz.func4, Tryz.ntmps4
  go_wp2_with fail
  generalize hW : (((w.alloc (Obj.cells #[Value.bool s, Value.slice A n c] 24)).alloc (Obj.cells #[Value.bool t, Value.slice B m d] 24)).alloc (Obj.cells #[Value.int .i64 n0, Value.int .i64 n1] 50)) = W
  have hb : Below w.heap.size w W := by subst hW; exact ((((Below.refl _ _).alloc (Nat.le_refl _) _).alloc (by simp) _).alloc (by simp; omega) _)
  have XA : Bx W (w.heap.size) (Value.bool s) (Value.slice A n c) := by subst hW; exact ((Bx.new' _ _ _ _ rfl).alloc _).alloc _
  have XB : Bx W (w.heap.size + 1) (Value.bool t) (Value.slice B m d) := by subst hW; exact (Bx.new' _ _ _ _ (by simp)).alloc _
  have XL : Bl W (w.heap.size + 1 + 1) (Value.int .i64 n0) (Value.int .i64 n1) := by subst hW; exact Bl.new' _ _ _ _ (by simp)
  have hzW : W.heap.size = w.heap.size + 3 := by subst hW; simp
  clear hW
  have xa0 := XA.c0
  have xa1 := XA.c1
  have xb0 := XB.c0
  have xb1 := XB.c1
  go_wp2_with (first
      | (go_at_call 11; (with_reducible refine (qwakes_any _).mono ?_); rintro e w_z ⟨rfl, hh⟩
         replace hb := bend hb hh))
  go_ret
  exact ⟨rfl, hb⟩

set_option maxRecDepth 100000 in
set_option maxHeartbeats 16000000 in
theorem makes_zz {w : World} {s t : Bool} {A B : Option Addr} {n c m d : Nat} {pp qq : Int} (n0 : Int) (x : ZR w s A n c pp 12) (y : ZR w t B m d qq 12) (hn : (n : Int) ≤ 12) (hm : (m : Int) ≤ 12) (hq : qq = 0) (h01 : -9223372036854775808 ≤ n0) (h02 : n0 < 9223372036854775808) :
    Calls Tryz.prog 4 #[.agg #[.bool s, .slice A n c], .agg #[.bool t, .slice B m d], .agg #[.int .i64 n0, .int .i64 0]] w fun e w' => e = .returned (.bool true) ∧ Below w.heap.size w w' := by
  have H1 := Lib.hid h01
  have H2 := Lib.hid h02
  clear h01 h02
  have HQ := Lib.hid hq
  have HS : Hid (sgn qq = 0) := by show _ = _; rw [hq]; rfl
  clear hq
  go_enter Tryz.func4, Tryz.ntmps4
  go_wp2_with fail
  generalize hW : (((w.alloc (Obj.cells #[Value.bool s, Value.slice A n c] 24)).alloc (Obj.cells #[Value.bool t, Value.slice B m d] 24)).alloc (Obj.cells #[Value.int .i64 n0, Value.int .i64 0] 50)) = W
  have hb : Below w.heap.size w W := by subst hW; exact ((((Below.refl _ _).alloc (Nat.le_refl _) _).alloc (by simp) _).alloc (by simp; omega) _)
  have XA : Bx W (w.heap.size) (Value.bool s) (Value.slice A n c) := by subst hW; exact ((Bx.new' _ _ _ _ rfl).alloc _).alloc _
  have XB : Bx W (w.heap.size + 1) (Value.bool t) (Value.slice B m d) := by subst hW; exact (Bx.new' _ _ _ _ (by simp)).alloc _
  have XL : Bl W (w.heap.size + 1 + 1) (Value.int .i64 n0) (Value.int .i64 0) := by subst hW; exact Bl.new' _ _ _ _ (by simp)
  have hzW : W.heap.size = w.heap.size + 3 := by subst hW; simp
  clear hW
  replace x := x.below hb
  replace y := y.below hb
  have xa0 := XA.c0
  have xa1 := XA.c1
  have xb0 := XB.c0
  have xb1 := XB.c1
  go_upto_region 4 with (first
      | (go_at_call 34; (with_reducible refine (make_zero y (by decide) HQ.out).mono ?_); rintro e w_mk ⟨rfl, hh⟩
         try replace x := x.below hh
         try replace y := y.below hh
         try replace mk := mk.below hh
         try replace p1 := p1.below hh
         try replace q1 := q1.below hh
         try replace m1 := m1.below hh
         try replace XA := XA.below hh
         try replace XB := XB.below hh
         try replace XL := XL.below hh
         try replace XM := XM.below hh
         try replace XP := XP.below hh
         try replace XQ := XQ.below hh
         try replace XR := XR.below hh
         replace hb := bend hb hh
         have xa0 := XA.c0
         have xa1 := XA.c1
         have xb0 := XB.c0
         have xb1 := XB.c1))
  generalize hW : (w_mk.alloc (Obj.cells #[Value.bool false, Value.slice none 0 0, Value.slice none 0 0] 26)) = W2
  have hh : Below w_mk.heap.size w_mk W2 := by subst hW; exact ((Below.refl _ _).alloc (Nat.le_refl _) _)
  have XM : B3 W2 (w_mk.heap.size) (Value.bool false) (Value.slice none 0 0) (Value.slice none 0 0) := by subst hW; exact B3.new' _ _ _ _ _ rfl
  have hzW2 : W2.heap.size = w_mk.heap.size + 1 := by subst hW; simp
  clear hW
  try replace x := x.below hh
  try replace y := y.below hh
  try replace XA := XA.below hh
  try replace XB := XB.below hh
  try replace XL := XL.below hh
  replace hb := bend hb hh
  refine mins_region (by simp) rfl rfl XA XB x y ?_
  intro V w_p g_p s_p A_p n_p c_p g_q s_q A_q n_q c_q p1 XP hg_p hvp q1 XQ hg_q hvq hne hh
  simp only [putAll, Act.put, List.setIfInBounds_toArray, List.set_cons_zero, List.set_cons_succ, hvp, hvq]
  clear hvp hvq x y XA XB
  replace XL := XL.below hh
  replace XM := XM.below hh
  replace hb := bend hb hh
  have xq0 := XQ.c0
  have xq1 := XQ.c1
  have xm0 := XM.c0
  have xm1 := XM.c1
  have xm2 := XM.c2
  go_upto_region 11 with (first
      | (go_at_call 36; (with_reducible refine (rsign2 q1.rz).mono ?_); rintro e w_z ⟨rfl, hh⟩
         rw [HS.out]
         try replace x := x.below hh
         try replace y := y.below hh
         try replace mk := mk.below hh
         try replace p1 := p1.below hh
         try replace q1 := q1.below hh
         try replace m1 := m1.below hh
         try replace XA := XA.below hh
         try replace XB := XB.below hh
         try replace XL := XL.below hh
         try replace XM := XM.below hh
         try replace XP := XP.below hh
         try replace XQ := XQ.below hh
         try replace XR := XR.below hh
         replace hb := bend hb hh
         have xq0 := XQ.c0
         have xq1 := XQ.c1
         have xm0 := XM.c0
         have xm1 := XM.c1
         have xm2 := XM.c2))
  replace XL := XL.below (Below.refl _ _).drew
  replace hb := hb.drew
  go_region_held3 (fun w' => w'.cell? ⟨w.heap.size + 1 + 1, 0, none⟩ = some (.int .i64 n0) ∧ w'.cell? ⟨w.heap.size + 1 + 1, 1, none⟩ = some (.int .i64 0))
    (first | with_reducible exact ⟨XL.c0, XL.c1⟩)
    (first
    | (go_at_call 44; (with_reducible refine (rof_zero n0 H1.out H2.out _).mono ?_); rintro e w_a1 ⟨s_a1, A_a1, n_a1, c_a1, B_a1, m_a1, d_a1, rfl, a1, hh⟩
       try replace a2 := a2.below hh
       try replace XL := XL.below hh
       replace hb := bend hb hh)
    | (go_at_call 45; (with_reducible refine (rof3z n0 0 H1.out H2.out (by decide) (by decide) rfl _).mono ?_); rintro e w_a2 ⟨s_a2, A_a2, n_a2, c_a2, B_a2, m_a2, d_a2, rfl, a2, hh⟩
       try replace a1 := a1.below hh
       try replace XL := XL.below hh
       replace hb := bend hb hh)
    | (go_at_call 16; (with_reducible refine (same3 a1 a2 rfl (by decide) (by decide)).mono ?_); rintro e w_z ⟨rfl, hh⟩
       try replace a1 := a1.below hh
       try replace a2 := a2.below hh
       try replace XL := XL.below hh
       replace hb := bend hb hh)
    | (go_at_call 11; (with_reducible refine (qwakes_any _).mono ?_); rintro e w_z ⟨rfl, hh⟩
       try replace a1 := a1.below hh
       try replace a2 := a2.below hh
       try replace XL := XL.below hh
       replace hb := bend hb hh))
  go_wp2_with fail
  go_ret
  exact ⟨rfl, hb⟩

set_option maxRecDepth 100000 in
set_option maxHeartbeats 16000000 in
theorem makes_zn {w : World} {s t : Bool} {A B : Option Addr} {n c m d : Nat} {pp qq : Int} (n0 n1 : Int) (x : ZR w s A n c pp 12) (y : ZR w t B m d qq 12) (hn : (n : Int) ≤ 12) (hm : (m : Int) ≤ 12) (hq : qq = 0) (h01 : -9223372036854775808 ≤ n0) (h02 : n0 < 9223372036854775808) (h11 : -9223372036854775808 ≤ n1) (h12 : n1 < 9223372036854775808) (hn1 : ((n1 : Int) == 0) = false) :
    Calls Tryz.prog 4 #[.agg #[.bool s, .slice A n c], .agg #[.bool t, .slice B m d], .agg #[.int .i64 n0, .int .i64 n1]] w fun e w' => e = .returned (.bool true) ∧ Below w.heap.size w w' := by
  have H1 := Lib.hid h01
  have H2 := Lib.hid h02
  have H3 := Lib.hid h11
  have H4 := Lib.hid h12
  have H5 := Lib.hid hn1
  clear h01 h02 h11 h12 hn1
  have HQ := Lib.hid hq
  have HS : Hid (sgn qq = 0) := by show _ = _; rw [hq]; rfl
  clear hq
  go_enter Tryz.func4, Tryz.ntmps4
  go_wp2_with fail
  generalize hW : (((w.alloc (Obj.cells #[Value.bool s, Value.slice A n c] 24)).alloc (Obj.cells #[Value.bool t, Value.slice B m d] 24)).alloc (Obj.cells #[Value.int .i64 n0, Value.int .i64 n1] 50)) = W
  have hb : Below w.heap.size w W := by subst hW; exact ((((Below.refl _ _).alloc (Nat.le_refl _) _).alloc (by simp) _).alloc (by simp; omega) _)
  have XA : Bx W (w.heap.size) (Value.bool s) (Value.slice A n c) := by subst hW; exact ((Bx.new' _ _ _ _ rfl).alloc _).alloc _
  have XB : Bx W (w.heap.size + 1) (Value.bool t) (Value.slice B m d) := by subst hW; exact (Bx.new' _ _ _ _ (by simp)).alloc _
  have XL : Bl W (w.heap.size + 1 + 1) (Value.int .i64 n0) (Value.int .i64 n1) := by subst hW; exact Bl.new' _ _ _ _ (by simp)
  have hzW : W.heap.size = w.heap.size + 3 := by subst hW; simp
  clear hW
  replace x := x.below hb
  replace y := y.below hb
  have xa0 := XA.c0
  have xa1 := XA.c1
  have xb0 := XB.c0
  have xb1 := XB.c1
  go_upto_region 4 with (first
      | (go_at_call 34; (with_reducible refine (make_zero y (by decide) HQ.out).mono ?_); rintro e w_mk ⟨rfl, hh⟩
         try replace x := x.below hh
         try replace y := y.below hh
         try replace mk := mk.below hh
         try replace p1 := p1.below hh
         try replace q1 := q1.below hh
         try replace m1 := m1.below hh
         try replace XA := XA.below hh
         try replace XB := XB.below hh
         try replace XL := XL.below hh
         try replace XM := XM.below hh
         try replace XP := XP.below hh
         try replace XQ := XQ.below hh
         try replace XR := XR.below hh
         replace hb := bend hb hh
         have xa0 := XA.c0
         have xa1 := XA.c1
         have xb0 := XB.c0
         have xb1 := XB.c1))
  generalize hW : (w_mk.alloc (Obj.cells #[Value.bool false, Value.slice none 0 0, Value.slice none 0 0] 26)) = W2
  have hh : Below w_mk.heap.size w_mk W2 := by subst hW; exact ((Below.refl _ _).alloc (Nat.le_refl _) _)
  have XM : B3 W2 (w_mk.heap.size) (Value.bool false) (Value.slice none 0 0) (Value.slice none 0 0) := by subst hW; exact B3.new' _ _ _ _ _ rfl
  have hzW2 : W2.heap.size = w_mk.heap.size + 1 := by subst hW; simp
  clear hW
  try replace x := x.below hh
  try replace y := y.below hh
  try replace XA := XA.below hh
  try replace XB := XB.below hh
  try replace XL := XL.below hh
  replace hb := bend hb hh
  refine mins_region (by simp) rfl rfl XA XB x y ?_
  intro V w_p g_p s_p A_p n_p c_p g_q s_q A_q n_q c_q p1 XP hg_p hvp q1 XQ hg_q hvq hne hh
  simp only [putAll, Act.put, List.setIfInBounds_toArray, List.set_cons_zero, List.set_cons_succ, hvp, hvq]
  clear hvp hvq x y XA XB
  replace XL := XL.below hh
  replace XM := XM.below hh
  replace hb := bend hb hh
  have xq0 := XQ.c0
  have xq1 := XQ.c1
  have xm0 := XM.c0
  have xm1 := XM.c1
  have xm2 := XM.c2
  go_upto_region 11 with (first
      | (go_at_call 36; (with_reducible refine (rsign2 q1.rz).mono ?_); rintro e w_z ⟨rfl, hh⟩
         rw [HS.out]
         try replace x := x.below hh
         try replace y := y.below hh
         try replace mk := mk.below hh
         try replace p1 := p1.below hh
         try replace q1 := q1.below hh
         try replace m1 := m1.below hh
         try replace XA := XA.below hh
         try replace XB := XB.below hh
         try replace XL := XL.below hh
         try replace XM := XM.below hh
         try replace XP := XP.below hh
         try replace XQ := XQ.below hh
         try replace XR := XR.below hh
         replace hb := bend hb hh
         have xq0 := XQ.c0
         have xq1 := XQ.c1
         have xm0 := XM.c0
         have xm1 := XM.c1
         have xm2 := XM.c2))
  replace XL := XL.below (Below.refl _ _).drew
  replace hb := hb.drew
  go_region_held3 (fun w' => w'.cell? ⟨w.heap.size + 1 + 1, 0, none⟩ = some (.int .i64 n0) ∧ w'.cell? ⟨w.heap.size + 1 + 1, 1, none⟩ = some (.int .i64 n1))
    (first | with_reducible exact ⟨XL.c0, XL.c1⟩)
    (first
    | (go_at_call 44; (with_reducible refine (rof_q n0 n1 H1.out H2.out H3.out H4.out H5.out _).mono ?_); rintro e w_a1 ⟨s_a1, A_a1, n_a1, c_a1, B_a1, m_a1, d_a1, rfl, a1, hh⟩
       try replace a2 := a2.below hh
       try replace XL := XL.below hh
       replace hb := bend hb hh)
    | (go_at_call 45; (with_reducible refine (rof3 n0 n1 H1.out H2.out H3.out H4.out H5.out _).mono ?_); rintro e w_a2 ⟨s_a2, A_a2, n_a2, c_a2, B_a2, m_a2, d_a2, rfl, a2, hh⟩
       try replace a1 := a1.below hh
       try replace XL := XL.below hh
       replace hb := bend hb hh)
    | (go_at_call 16; (with_reducible refine (same3 a1 a2 rfl (by decide) (by decide)).mono ?_); rintro e w_z ⟨rfl, hh⟩
       try replace a1 := a1.below hh
       try replace a2 := a2.below hh
       try replace XL := XL.below hh
       replace hb := bend hb hh)
    | (go_at_call 11; (with_reducible refine (qwakes_any _).mono ?_); rintro e w_z ⟨rfl, hh⟩
       try replace a1 := a1.below hh
       try replace a2 := a2.below hh
       try replace XL := XL.below hh
       replace hb := bend hb hh))
  go_wp2_with fail
  go_ret
  exact ⟨rfl, hb⟩

set_option maxRecDepth 100000 in
set_option maxHeartbeats 16000000 in
theorem makes_qz {w : World} {s t : Bool} {A B : Option Addr} {n c m d : Nat} {pp qq : Int} (n0 : Int) (x : ZR w s A n c pp 12) (y : ZR w t B m d qq 12) (hn : (n : Int) ≤ 12) (hm : (m : Int) ≤ 12) (hq : qq ≠ 0) (h01 : -9223372036854775808 ≤ n0) (h02 : n0 < 9223372036854775808) :
    Calls Tryz.prog 4 #[.agg #[.bool s, .slice A n c], .agg #[.bool t, .slice B m d], .agg #[.int .i64 n0, .int .i64 0]] w fun e w' => e = .returned (.bool true) ∧ Below w.heap.size w w' := by
  have H1 := Lib.hid h01
  have H2 := Lib.hid h02
  clear h01 h02
  have HQ := Lib.hid hq
  obtain ⟨K, hK, hK0⟩ : ∃ K, sgn qq = K ∧ ((K : Int) == 0) = false := ⟨_, rfl, by
    unfold sgn
    (repeat' split) <;> first | rfl | (exact absurd ‹_› hq)⟩
  have HS := Lib.hid hK
  have HW : Hid (Rat.divInt pp 1 / Rat.divInt qq 1 = Rat.divInt pp qq) := div_whole
  have HQ1 : Hid (Rat.divInt qq 1 ≠ 0) := by
    show _ ≠ _
    rw [int1]
    intro k
    exact hq (by have e0 : ((0 : Int) : Rat) = 0 := rfl; rw [← e0] at k; exact Rat.intCast_inj.1 k)
  clear hK
  clear hq
  go_enter Tryz.func4, Tryz.ntmps4
  go_wp2_with fail
  generalize hW : (((w.alloc (Obj.cells #[Value.bool s, Value.slice A n c] 24)).alloc (Obj.cells #[Value.bool t, Value.slice B m d] 24)).alloc (Obj.cells #[Value.int .i64 n0, Value.int .i64 0] 50)) = W
  have hb : Below w.heap.size w W := by subst hW; exact ((((Below.refl _ _).alloc (Nat.le_refl _) _).alloc (by simp) _).alloc (by simp; omega) _)
  have XA : Bx W (w.heap.size) (Value.bool s) (Value.slice A n c) := by subst hW; exact ((Bx.new' _ _ _ _ rfl).alloc _).alloc _
  have XB : Bx W (w.heap.size + 1) (Value.bool t) (Value.slice B m d) := by subst hW; exact (Bx.new' _ _ _ _ (by simp)).alloc _
  have XL : Bl W (w.heap.size + 1 + 1) (Value.int .i64 n0) (Value.int .i64 0) := by subst hW; exact Bl.new' _ _ _ _ (by simp)
  have hzW : W.heap.size = w.heap.size + 3 := by subst hW; simp
  clear hW
  replace x := x.below hb
  replace y := y.below hb
  have xa0 := XA.c0
  have xa1 := XA.c1
  have xb0 := XB.c0
  have xb1 := XB.c1
  go_upto_region 4 with (first
      | (go_at_call 34; (with_reducible refine (make_zr 12 x y (by decide) (by decide) HQ.out (by decide) (by decide)).mono ?_); rintro e w_mk ⟨s_mk, A_mk, n_mk, c_mk, B_mk, m_mk, d_mk, rfl, mk, hh⟩
         try replace x := x.below hh
         try replace y := y.below hh
         try replace p1 := p1.below hh
         try replace q1 := q1.below hh
         try replace m1 := m1.below hh
         try replace XA := XA.below hh
         try replace XB := XB.below hh
         try replace XL := XL.below hh
         try replace XM := XM.below hh
         try replace XP := XP.below hh
         try replace XQ := XQ.below hh
         try replace XR := XR.below hh
         replace hb := bend hb hh
         have xa0 := XA.c0
         have xa1 := XA.c1
         have xb0 := XB.c0
         have xb1 := XB.c1))
  generalize hW : (w_mk.alloc (Obj.cells #[Value.bool s_mk, Value.slice A_mk n_mk c_mk, Value.slice B_mk m_mk d_mk] 26)) = W2
  have hh : Below w_mk.heap.size w_mk W2 := by subst hW; exact ((Below.refl _ _).alloc (Nat.le_refl _) _)
  have XM : B3 W2 (w_mk.heap.size) (Value.bool s_mk) (Value.slice A_mk n_mk c_mk) (Value.slice B_mk m_mk d_mk) := by subst hW; exact B3.new' _ _ _ _ _ rfl
  have hzW2 : W2.heap.size = w_mk.heap.size + 1 := by subst hW; simp
  clear hW
  try replace x := x.below hh
  try replace y := y.below hh
  try replace mk := mk.below hh
  try replace XA := XA.below hh
  try replace XB := XB.below hh
  try replace XL := XL.below hh
  replace hb := bend hb hh
  refine mins_region (by simp) rfl rfl XA XB x y ?_
  intro V w_p g_p s_p A_p n_p c_p g_q s_q A_q n_q c_q p1 XP hg_p hvp q1 XQ hg_q hvq hne hh
  simp only [putAll, Act.put, List.setIfInBounds_toArray, List.set_cons_zero, List.set_cons_succ, hvp, hvq]
  clear hvp hvq x y XA XB
  replace XL := XL.below hh
  replace XM := XM.below hh
  replace mk := mk.below hh
  replace hb := bend hb hh
  have xq0 := XQ.c0
  have xq1 := XQ.c1
  have xm0 := XM.c0
  have xm1 := XM.c1
  have xm2 := XM.c2
  go_upto_region 8 with (first
      | (go_at_call 36; (with_reducible refine (rsign2 q1.rz).mono ?_); rintro e w_z ⟨rfl, hh⟩
         rw [HS.out]
         try replace x := x.below hh
         try replace y := y.below hh
         try replace mk := mk.below hh
         try replace p1 := p1.below hh
         try replace q1 := q1.below hh
         try replace m1 := m1.below hh
         try replace XA := XA.below hh
         try replace XB := XB.below hh
         try replace XL := XL.below hh
         try replace XM := XM.below hh
         try replace XP := XP.below hh
         try replace XQ := XQ.below hh
         try replace XR := XR.below hh
         replace hb := bend hb hh
         have xq0 := XQ.c0
         have xq1 := XQ.c1
         have xm0 := XM.c0
         have xm1 := XM.c1
         have xm2 := XM.c2))
  refine mdiv_region (by simp) rfl rfl XP XQ p1 q1 HQ1.out ?_
  intro V2 w_m g_m s_m A_m n_m c_m B_m m_m d_m m1 XR hg_m hvm hh
  simp only [putAll, Act.put, List.setIfInBounds_toArray, List.set_cons_zero, List.set_cons_succ, hvm]
  clear hvm p1 q1 XP XQ
  rw [HW.out] at m1
  replace XL := XL.below hh
  replace XM := XM.below hh
  replace mk := mk.below hh
  replace hb := bend hb hh
  go_upto_region 9 with (fail)
  replace mk := mk.below (Below.refl _ _).drew
  replace m1 := m1.below (Below.refl _ _).drew
  replace XL := XL.below (Below.refl _ _).drew
  replace XM := XM.below (Below.refl _ _).drew
  replace XR := XR.below (Below.refl _ _).drew
  replace hb := hb.drew
  go_region_held3 (fun w' => w'.cell? ⟨w_mk.heap.size, 0, none⟩ = some (.bool s_mk) ∧ w'.cell? ⟨w_mk.heap.size, 1, none⟩ = some (.slice A_mk n_mk c_mk) ∧ w'.cell? ⟨w_mk.heap.size, 2, none⟩ = some (.slice B_mk m_mk d_mk) ∧ w'.cell? ⟨g_m, 0, none⟩ = some (.bool s_m) ∧ w'.cell? ⟨g_m, 1, none⟩ = some (.slice A_m n_m c_m) ∧ w'.cell? ⟨g_m, 2, none⟩ = some (.slice B_m m_m d_m))
    (first | with_reducible exact ⟨XM.c0, XM.c1, XM.c2, XR.c0, XR.c1, XR.c2⟩)
    (first
    | (go_at_call 16; (with_reducible refine (same3 mk m1 rfl (by decide) (by decide)).mono ?_); rintro e w_z ⟨rfl, hh⟩
       try replace mk := mk.below hh
       try replace m1 := m1.below hh
       try replace fl := fl.below hh
       try replace fr := fr.below hh
       try replace cl := cl.below hh
       try replace cr := cr.below hh
       try replace of := of.below hh
       try replace oc := oc.below hh
       try replace XL := XL.below hh
       try replace XM := XM.below hh
       try replace XR := XR.below hh
       replace hb := bend hb hh)
    | (go_at_call 39; (with_reducible refine (rfloor_q mk.qr (by decide) (by decide)).mono ?_); rintro e w_fl ⟨s_fl, A_fl, n_fl, c_fl, rfl, fl, hh⟩
       try replace mk := mk.below hh
       try replace m1 := m1.below hh
       try replace fr := fr.below hh
       try replace cl := cl.below hh
       try replace cr := cr.below hh
       try replace of := of.below hh
       try replace oc := oc.below hh
       try replace XL := XL.below hh
       try replace XM := XM.below hh
       try replace XR := XR.below hh
       replace hb := bend hb hh)
    | (go_at_call 41; (with_reducible refine (rfloor3 m1 (by decide) (by decide)).mono ?_); rintro e w_fr ⟨s_fr, A_fr, n_fr, c_fr, rfl, fr, hh⟩
       try replace mk := mk.below hh
       try replace m1 := m1.below hh
       try replace fl := fl.below hh
       try replace cl := cl.below hh
       try replace cr := cr.below hh
       try replace of := of.below hh
       try replace oc := oc.below hh
       try replace XL := XL.below hh
       try replace XM := XM.below hh
       try replace XR := XR.below hh
       replace hb := bend hb hh)
    | (go_at_call 40; (with_reducible refine (out2 fr (by decide)).mono ?_); rintro e w_of ⟨A_of, n_of, c_of, rfl, of, hh⟩
       try replace mk := mk.below hh
       try replace m1 := m1.below hh
       try replace fl := fl.below hh
       try replace fr := fr.below hh
       try replace cl := cl.below hh
       try replace cr := cr.below hh
       try replace oc := oc.below hh
       try replace XL := XL.below hh
       try replace XM := XM.below hh
       try replace XR := XR.below hh
       replace hb := bend hb hh)
    | (go_at_call 38; (with_reducible refine (ints_same fl fr.sg of (by decide)).mono ?_); rintro e w_z ⟨rfl, hh⟩
       try replace mk := mk.below hh
       try replace m1 := m1.below hh
       try replace fl := fl.below hh
       try replace fr := fr.below hh
       try replace cl := cl.below hh
       try replace cr := cr.below hh
       try replace of := of.below hh
       try replace oc := oc.below hh
       try replace XL := XL.below hh
       try replace XM := XM.below hh
       try replace XR := XR.below hh
       replace hb := bend hb hh)
    | (go_at_call 42; (with_reducible refine (rceil_q mk.qr (by decide) (by decide)).mono ?_); rintro e w_cl ⟨s_cl, A_cl, n_cl, c_cl, rfl, cl, hh⟩
       try replace mk := mk.below hh
       try replace m1 := m1.below hh
       try replace fl := fl.below hh
       try replace fr := fr.below hh
       try replace cr := cr.below hh
       try replace of := of.below hh
       try replace oc := oc.below hh
       try replace XL := XL.below hh
       try replace XM := XM.below hh
       try replace XR := XR.below hh
       replace hb := bend hb hh)
    | (go_at_call 43; (with_reducible refine (rceil3 m1 (by decide) (by decide)).mono ?_); rintro e w_cr ⟨s_cr, A_cr, n_cr, c_cr, rfl, cr, hh⟩
       try replace mk := mk.below hh
       try replace m1 := m1.below hh
       try replace fl := fl.below hh
       try replace fr := fr.below hh
       try replace cl := cl.below hh
       try replace of := of.below hh
       try replace oc := oc.below hh
       try replace XL := XL.below hh
       try replace XM := XM.below hh
       try replace XR := XR.below hh
       replace hb := bend hb hh)
    | (go_at_call 40; (with_reducible refine (out2 cr (by decide)).mono ?_); rintro e w_oc ⟨A_oc, n_oc, c_oc, rfl, oc, hh⟩
       try replace mk := mk.below hh
       try replace m1 := m1.below hh
       try replace fl := fl.below hh
       try replace fr := fr.below hh
       try replace cl := cl.below hh
       try replace cr := cr.below hh
       try replace of := of.below hh
       try replace XL := XL.below hh
       try replace XM := XM.below hh
       try replace XR := XR.below hh
       replace hb := bend hb hh)
    | (go_at_call 38; (with_reducible refine (ints_same cl cr.sg oc (by decide)).mono ?_); rintro e w_z ⟨rfl, hh⟩
       try replace mk := mk.below hh
       try replace m1 := m1.below hh
       try replace fl := fl.below hh
       try replace fr := fr.below hh
       try replace cl := cl.below hh
       try replace cr := cr.below hh
       try replace of := of.below hh
       try replace oc := oc.below hh
       try replace XL := XL.below hh
       try replace XM := XM.below hh
       try replace XR := XR.below hh
       replace hb := bend hb hh))
  try clear fl fr cl cr of oc
  go_upto_region 11 with (fail)
  replace XL := XL.below (Below.refl _ _).drew
  replace hb := hb.drew
  go_region_held3 (fun w' => w'.cell? ⟨w.heap.size + 1 + 1, 0, none⟩ = some (.int .i64 n0) ∧ w'.cell? ⟨w.heap.size + 1 + 1, 1, none⟩ = some (.int .i64 0))
    (first | with_reducible exact ⟨XL.c0, XL.c1⟩)
    (first
    | (go_at_call 44; (with_reducible refine (rof_zero n0 H1.out H2.out _).mono ?_); rintro e w_a1 ⟨s_a1, A_a1, n_a1, c_a1, B_a1, m_a1, d_a1, rfl, a1, hh⟩
       try replace a2 := a2.below hh
       try replace XL := XL.below hh
       replace hb := bend hb hh)
    | (go_at_call 45; (with_reducible refine (rof3z n0 0 H1.out H2.out (by decide) (by decide) rfl _).mono ?_); rintro e w_a2 ⟨s_a2, A_a2, n_a2, c_a2, B_a2, m_a2, d_a2, rfl, a2, hh⟩
       try replace a1 := a1.below hh
       try replace XL := XL.below hh
       replace hb := bend hb hh)
    | (go_at_call 16; (with_reducible refine (same3 a1 a2 rfl (by decide) (by decide)).mono ?_); rintro e w_z ⟨rfl, hh⟩
       try replace a1 := a1.below hh
       try replace a2 := a2.below hh
       try replace XL := XL.below hh
       replace hb := bend hb hh)
    | (go_at_call 11; (with_reducible refine (qwakes_any _).mono ?_); rintro e w_z ⟨rfl, hh⟩
       try replace a1 := a1.below hh
       try replace a2 := a2.below hh
       try replace XL := XL.below hh
       replace hb := bend hb hh))
  go_wp2_with fail
  go_ret
  exact ⟨rfl, hb⟩

set_option maxRecDepth 100000 in
set_option maxHeartbeats 16000000 in
theorem makes_qn {w : World} {s t : Bool} {A B : Option Addr} {n c m d : Nat} {pp qq : Int} (n0 n1 : Int) (x : ZR w s A n c pp 12) (y : ZR w t B m d qq 12) (hn : (n : Int) ≤ 12) (hm : (m : Int) ≤ 12) (hq : qq ≠ 0) (h01 : -9223372036854775808 ≤ n0) (h02 : n0 < 9223372036854775808) (h11 : -9223372036854775808 ≤ n1) (h12 : n1 < 9223372036854775808) (hn1 : ((n1 : Int) == 0) = false) :
    Calls Tryz.prog 4 #[.agg #[.bool s, .slice A n c], .agg #[.bool t, .slice B m d], .agg #[.int .i64 n0, .int .i64 n1]] w fun e w' => e = .returned (.bool true) ∧ Below w.heap.size w w' := by
  have H1 := Lib.hid h01
  have H2 := Lib.hid h02
  have H3 := Lib.hid h11
  have H4 := Lib.hid h12
  have H5 := Lib.hid hn1
  clear h01 h02 h11 h12 hn1
  have HQ := Lib.hid hq
  obtain ⟨K, hK, hK0⟩ : ∃ K, sgn qq = K ∧ ((K : Int) == 0) = false := ⟨_, rfl, by
    unfold sgn
    (repeat' split) <;> first | rfl | (exact absurd ‹_› hq)⟩
  have HS := Lib.hid hK
  have HW : Hid (Rat.divInt pp 1 / Rat.divInt qq 1 = Rat.divInt pp qq) := div_whole
  have HQ1 : Hid (Rat.divInt qq 1 ≠ 0) := by
    show _ ≠ _
    rw [int1]
    intro k
    exact hq (by have e0 : ((0 : Int) : Rat) = 0 := rfl; rw [← e0] at k; exact Rat.intCast_inj.1 k)
  clear hK
  clear hq
  go_enter Tryz.func4, Tryz.ntmps4
  go_wp2_with fail
  generalize hW : (((w.alloc (Obj.cells #[Value.bool s, Value.slice A n c] 24)).alloc (Obj.cells #[Value.bool t, Value.slice B m d] 24)).alloc (Obj.cells #[Value.int .i64 n0, Value.int .i64 n1] 50)) = W
  have hb : Below w.heap.size w W := by subst hW; exact ((((Below.refl _ _).alloc (Nat.le_refl _) _).alloc (by simp) _).alloc (by simp; omega) _)
  have XA : Bx W (w.heap.size) (Value.bool s) (Value.slice A n c) := by subst hW; exact ((Bx.new' _ _ _ _ rfl).alloc _).alloc _
  have XB : Bx W (w.heap.size + 1) (Value.bool t) (Value.slice B m d) := by subst hW; exact (Bx.new' _ _ _ _ (by simp)).alloc _
  have XL : Bl W (w.heap.size + 1 + 1) (Value.int .i64 n0) (Value.int .i64 n1) := by subst hW; exact Bl.new' _ _ _ _ (by simp)
  have hzW : W.heap.size = w.heap.size + 3 := by subst hW; simp
  clear hW
  replace x := x.below hb
  replace y := y.below hb
  have xa0 := XA.c0
  have xa1 := XA.c1
  have xb0 := XB.c0
  have xb1 := XB.c1
  go_upto_region 4 with (first
      | (go_at_call 34; (with_reducible refine (make_zr 12 x y (by decide) (by decide) HQ.out (by decide) (by decide)).mono ?_); rintro e w_mk ⟨s_mk, A_mk, n_mk, c_mk, B_mk, m_mk, d_mk, rfl, mk, hh⟩
         try replace x := x.below hh
         try replace y := y.below hh
         try replace p1 := p1.below hh
         try replace q1 := q1.below hh
         try replace m1 := m1.below hh
         try replace XA := XA.below hh
         try replace XB := XB.below hh
         try replace XL := XL.below hh
         try replace XM := XM.below hh
         try replace XP := XP.below hh
         try replace XQ := XQ.below hh
         try replace XR := XR.below hh
         replace hb := bend hb hh
         have xa0 := XA.c0
         have xa1 := XA.c1
         have xb0 := XB.c0
         have xb1 := XB.c1))
  generalize hW : (w_mk.alloc (Obj.cells #[Value.bool s_mk, Value.slice A_mk n_mk c_mk, Value.slice B_mk m_mk d_mk] 26)) = W2
  have hh : Below w_mk.heap.size w_mk W2 := by subst hW; exact ((Below.refl _ _).alloc (Nat.le_refl _) _)
  have XM : B3 W2 (w_mk.heap.size) (Value.bool s_mk) (Value.slice A_mk n_mk c_mk) (Value.slice B_mk m_mk d_mk) := by subst hW; exact B3.new' _ _ _ _ _ rfl
  have hzW2 : W2.heap.size = w_mk.heap.size + 1 := by subst hW; simp
  clear hW
  try replace x := x.below hh
  try replace y := y.below hh
  try replace mk := mk.below hh
  try replace XA := XA.below hh
  try replace XB := XB.below hh
  try replace XL := XL.below hh
  replace hb := bend hb hh
  refine mins_region (by simp) rfl rfl XA XB x y ?_
  intro V w_p g_p s_p A_p n_p c_p g_q s_q A_q n_q c_q p1 XP hg_p hvp q1 XQ hg_q hvq hne hh
  simp only [putAll, Act.put, List.setIfInBounds_toArray, List.set_cons_zero, List.set_cons_succ, hvp, hvq]
  clear hvp hvq x y XA XB
  replace XL := XL.below hh
  replace XM := XM.below hh
  replace mk := mk.below hh
  replace hb := bend hb hh
  have xq0 := XQ.c0
  have xq1 := XQ.c1
  have xm0 := XM.c0
  have xm1 := XM.c1
  have xm2 := XM.c2
  go_upto_region 8 with (first
      | (go_at_call 36; (with_reducible refine (rsign2 q1.rz).mono ?_); rintro e w_z ⟨rfl, hh⟩
         rw [HS.out]
         try replace x := x.below hh
         try replace y := y.below hh
         try replace mk := mk.below hh
         try replace p1 := p1.below hh
         try replace q1 := q1.below hh
         try replace m1 := m1.below hh
         try replace XA := XA.below hh
         try replace XB := XB.below hh
         try replace XL := XL.below hh
         try replace XM := XM.below hh
         try replace XP := XP.below hh
         try replace XQ := XQ.below hh
         try replace XR := XR.below hh
         replace hb := bend hb hh
         have xq0 := XQ.c0
         have xq1 := XQ.c1
         have xm0 := XM.c0
         have xm1 := XM.c1
         have xm2 := XM.c2))
  refine mdiv_region (by simp) rfl rfl XP XQ p1 q1 HQ1.out ?_
  intro V2 w_m g_m s_m A_m n_m c_m B_m m_m d_m m1 XR hg_m hvm hh
  simp only [putAll, Act.put, List.setIfInBounds_toArray, List.set_cons_zero, List.set_cons_succ, hvm]
  clear hvm p1 q1 XP XQ
  rw [HW.out] at m1
  replace XL := XL.below hh
  replace XM := XM.below hh
  replace mk := mk.below hh
  replace hb := bend hb hh
  go_upto_region 9 with (fail)
  replace mk := mk.below (Below.refl _ _).drew
  replace m1 := m1.below (Below.refl _ _).drew
  replace XL := XL.below (Below.refl _ _).drew
  replace XM := XM.below (Below.refl _ _).drew
  replace XR := XR.below (Below.refl _ _).drew
  replace hb := hb.drew
  go_region_held3 (fun w' => w'.cell? ⟨w_mk.heap.size, 0, none⟩ = some (.bool s_mk) ∧ w'.cell? ⟨w_mk.heap.size, 1, none⟩ = some (.slice A_mk n_mk c_mk) ∧ w'.cell? ⟨w_mk.heap.size, 2, none⟩ = some (.slice B_mk m_mk d_mk) ∧ w'.cell? ⟨g_m, 0, none⟩ = some (.bool s_m) ∧ w'.cell? ⟨g_m, 1, none⟩ = some (.slice A_m n_m c_m) ∧ w'.cell? ⟨g_m, 2, none⟩ = some (.slice B_m m_m d_m))
    (first | with_reducible exact ⟨XM.c0, XM.c1, XM.c2, XR.c0, XR.c1, XR.c2⟩)
    (first
    | (go_at_call 16; (with_reducible refine (same3 mk m1 rfl (by decide) (by decide)).mono ?_); rintro e w_z ⟨rfl, hh⟩
       try replace mk := mk.below hh
       try replace m1 := m1.below hh
       try replace fl := fl.below hh
       try replace fr := fr.below hh
       try replace cl := cl.below hh
       try replace cr := cr.below hh
       try replace of := of.below hh
       try replace oc := oc.below hh
       try replace XL := XL.below hh
       try replace XM := XM.below hh
       try replace XR := XR.below hh
       replace hb := bend hb hh)
    | (go_at_call 39; (with_reducible refine (rfloor_q mk.qr (by decide) (by decide)).mono ?_); rintro e w_fl ⟨s_fl, A_fl, n_fl, c_fl, rfl, fl, hh⟩
       try replace mk := mk.below hh
       try replace m1 := m1.below hh
       try replace fr := fr.below hh
       try replace cl := cl.below hh
       try replace cr := cr.below hh
       try replace of := of.below hh
       try replace oc := oc.below hh
       try replace XL := XL.below hh
       try replace XM := XM.below hh
       try replace XR := XR.below hh
       replace hb := bend hb hh)
    | (go_at_call 41; (with_reducible refine (rfloor3 m1 (by decide) (by decide)).mono ?_); rintro e w_fr ⟨s_fr, A_fr, n_fr, c_fr, rfl, fr, hh⟩
       try replace mk := mk.below hh
       try replace m1 := m1.below hh
       try replace fl := fl.below hh
       try replace cl := cl.below hh
       try replace cr := cr.below hh
       try replace of := of.below hh
       try replace oc := oc.below hh
       try replace XL := XL.below hh
       try replace XM := XM.below hh
       try replace XR := XR.below hh
       replace hb := bend hb hh)
    | (go_at_call 40; (with_reducible refine (out2 fr (by decide)).mono ?_); rintro e w_of ⟨A_of, n_of, c_of, rfl, of, hh⟩
       try replace mk := mk.below hh
       try replace m1 := m1.below hh
       try replace fl := fl.below hh
       try replace fr := fr.below hh
       try replace cl := cl.below hh
       try replace cr := cr.below hh
       try replace oc := oc.below hh
       try replace XL := XL.below hh
       try replace XM := XM.below hh
       try replace XR := XR.below hh
       replace hb := bend hb hh)
    | (go_at_call 38; (with_reducible refine (ints_same fl fr.sg of (by decide)).mono ?_); rintro e w_z ⟨rfl, hh⟩
       try replace mk := mk.below hh
       try replace m1 := m1.below hh
       try replace fl := fl.below hh
       try replace fr := fr.below hh
       try replace cl := cl.below hh
       try replace cr := cr.below hh
       try replace of := of.below hh
       try replace oc := oc.below hh
       try replace XL := XL.below hh
       try replace XM := XM.below hh
       try replace XR := XR.below hh
       replace hb := bend hb hh)
    | (go_at_call 42; (with_reducible refine (rceil_q mk.qr (by decide) (by decide)).mono ?_); rintro e w_cl ⟨s_cl, A_cl, n_cl, c_cl, rfl, cl, hh⟩
       try replace mk := mk.below hh
       try replace m1 := m1.below hh
       try replace fl := fl.below hh
       try replace fr := fr.below hh
       try replace cr := cr.below hh
       try replace of := of.below hh
       try replace oc := oc.below hh
       try replace XL := XL.below hh
       try replace XM := XM.below hh
       try replace XR := XR.below hh
       replace hb := bend hb hh)
    | (go_at_call 43; (with_reducible refine (rceil3 m1 (by decide) (by decide)).mono ?_); rintro e w_cr ⟨s_cr, A_cr, n_cr, c_cr, rfl, cr, hh⟩
       try replace mk := mk.below hh
       try replace m1 := m1.below hh
       try replace fl := fl.below hh
       try replace fr := fr.below hh
       try replace cl := cl.below hh
       try replace of := of.below hh
       try replace oc := oc.below hh
       try replace XL := XL.below hh
       try replace XM := XM.below hh
       try replace XR := XR.below hh
       replace hb := bend hb hh)
    | (go_at_call 40; (with_reducible refine (out2 cr (by decide)).mono ?_); rintro e w_oc ⟨A_oc, n_oc, c_oc, rfl, oc, hh⟩
       try replace mk := mk.below hh
       try replace m1 := m1.below hh
       try replace fl := fl.below hh
       try replace fr := fr.below hh
       try replace cl := cl.below hh
       try replace cr := cr.below hh
       try replace of := of.below hh
       try replace XL := XL.below hh
       try replace XM := XM.below hh
       try replace XR := XR.below hh
       replace hb := bend hb hh)
    | (go_at_call 38; (with_reducible refine (ints_same cl cr.sg oc (by decide)).mono ?_); rintro e w_z ⟨rfl, hh⟩
       try replace mk := mk.below hh
       try replace m1 := m1.below hh
       try replace fl := fl.below hh
       try replace fr := fr.below hh
       try replace cl := cl.below hh
       try replace cr := cr.below hh
       try replace of := of.below hh
       try replace oc := oc.below hh
       try replace XL := XL.below hh
       try replace XM := XM.below hh
       try replace XR := XR.below hh
       replace hb := bend hb hh))
  try clear fl fr cl cr of oc
  go_upto_region 11 with (fail)
  replace XL := XL.below (Below.refl _ _).drew
  replace hb := hb.drew
  go_region_held3 (fun w' => w'.cell? ⟨w.heap.size + 1 + 1, 0, none⟩ = some (.int .i64 n0) ∧ w'.cell? ⟨w.heap.size + 1 + 1, 1, none⟩ = some (.int .i64 n1))
    (first | with_reducible exact ⟨XL.c0, XL.c1⟩)
    (first
    | (go_at_call 44; (with_reducible refine (rof_q n0 n1 H1.out H2.out H3.out H4.out H5.out _).mono ?_); rintro e w_a1 ⟨s_a1, A_a1, n_a1, c_a1, B_a1, m_a1, d_a1, rfl, a1, hh⟩
       try replace a2 := a2.below hh
       try replace XL := XL.below hh
       replace hb := bend hb hh)
    | (go_at_call 45; (with_reducible refine (rof3 n0 n1 H1.out H2.out H3.out H4.out H5.out _).mono ?_); rintro e w_a2 ⟨s_a2, A_a2, n_a2, c_a2, B_a2, m_a2, d_a2, rfl, a2, hh⟩
       try replace a1 := a1.below hh
       try replace XL := XL.below hh
       replace hb := bend hb hh)
    | (go_at_call 16; (with_reducible refine (same3 a1 a2 rfl (by decide) (by decide)).mono ?_); rintro e w_z ⟨rfl, hh⟩
       try replace a1 := a1.below hh
       try replace a2 := a2.below hh
       try replace XL := XL.below hh
       replace hb := bend hb hh)
    | (go_at_call 11; (with_reducible refine (qwakes_any _).mono ?_); rintro e w_z ⟨rfl, hh⟩
       try replace a1 := a1.below hh
       try replace a2 := a2.below hh
       try replace XL := XL.below hh
       replace hb := bend hb hh))
  go_wp2_with fail
  go_ret
  exact ⟨rfl, hb⟩

theorem law_makes {w : World} (n0 n1 : Int) (s t : Bool) (A B : Option Addr) (n c m d : Nat) (l k : List Nat) (r1 : Rd .u64 w A n l) (r2 : Rd .u64 w B m k) (t1 : Lim B64 l) (t2 : Lim B64 k) (e1 : n ≤ c) (e2 : m ≤ d) (h01 : -9223372036854775808 ≤ n0) (h02 : n0 < 9223372036854775808) (h11 : -9223372036854775808 ≤ n1) (h12 : n1 < 9223372036854775808) :
    Calls Tryz.prog 4 #[.agg #[.bool s, .slice A n c], .agg #[.bool t, .slice B m d], .agg #[.int .i64 n0, .int .i64 n1]] w fun e w' => e = .returned (.bool true) ∧ Below w.heap.size w w' := by
  by_cases hn : (n : Int) ≤ 12
  · by_cases hm : (m : Int) ≤ 12
    · have x : ZR w s A n c (iv s (val B64 l)) 12 := ZR.of_rd r1 t1 e1 (by omega)
      have y : ZR w t B m d (iv t (val B64 k)) 12 := ZR.of_rd r2 t2 e2 (by omega)
      by_cases hq : iv t (val B64 k) = 0
      · by_cases h : n1 = 0
        · subst h; exact makes_zz n0 x y hn hm hq h01 h02
        · exact makes_zn n0 n1 x y hn hm hq h01 h02 h11 h12 (by simpa using h)
      · by_cases h : n1 = 0
        · subst h; exact makes_qz n0 x y hn hm hq h01 h02
        · exact makes_qn n0 n1 x y hn hm hq h01 h02 h11 h12 (by simpa using h)
    · exact makes_l2 n0 n1 hn (by omega)
  · exact makes_l1 n0 n1 (by omega)
end Go.Proofs.YtmcijgnbdnpanaaGreat
