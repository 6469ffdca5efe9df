/- lex.Cut by value. -/
import Derived.RangeFuncBox
import Derived.Maps.AppendAt
import Derived.Test.YtnapannphldglaaDoorLexD
namespace Go.Proofs.YtnapannphldglaaDoor
open Go Go.RowKit Go.Shelf
attribute [local go_sem] Oper.semAt_some

/-- A token's cells. -/
def tkCell (t : Tk) : List Value := [.int .i64 t.k, .string ⟨t.s.toArray⟩, .int .i64 t.n, .int .i64 (t.p : Int)]
def tkCells (ts : List Tk) : List Value := ts.flatMap tkCell
/-- What Cut hands back. -/
def GivesCut (w : World) (r : Except Nat (List Tk)) (e : Ending) (w' : World) : Prop :=
  Below w.heap.size w w' ∧ match r with
  | .ok ts => ∃ v, e = .returned (.tuple #[v, .int .i64 0, .int .i64 0]) ∧ w'.ownsRow w.heap.size 91 4 v ts.length (tkCells ts)
  | .error p => e = .returned (.tuple #[.slice none 0 0, .int .i64 (p : Int), .int .i64 20])

set_option maxRecDepth 100000 in
set_option maxHeartbeats 1000000 in
theorem cut_long (s : ByteArray) (w : World) (hs : 1048576 < s.size) : Calls Tryd.prog 25 #[.string s] w fun e w' => e = .returned (.tuple #[.slice none 0 0, .int .i64 0, .int .i64 22]) ∧ Below w.heap.size w w' := by
  have hs' : (1048576 : Int) < (s.size : Int) := by omega
  refine (callsIn_wide (n := 9)).1 ?_
  refine callsIn_of_wp_marks Tryd.func25 rfl trivial ?_ rfl
  simp only [Tryd.ntmps25, List.size_toArray, List.length_cons, List.length_nil, Nat.reduceAdd, Nat.reduceSub, Array.replicate_succ, Array.replicate_zero, List.push_toArray, List.append_toArray, List.nil_append, List.cons_append]
  gi_wp2
  refine ⟨.tuple #[.slice none 0 0, .int .i64 0, .int .i64 22], ?_, rfl, ?_⟩
  · simp [results, Tryd.results25, go_sem]
  · exact (((Below.refl _ w).alloc (Nat.le_refl _) _).alloc (by simp) _).alloc (by simp; omega) _

theorem Boxed.turn {X Y : World} {row : Option Nat} {B B' : Nat} {t : TypeId} {v : Value} (h : Boxed X B t v) (hg : X.grownBy Y row) (hr : ∀ r, row = some r → B' ≤ r ∧ ∃ o : Obj, X.heap[r]? = some o ∧ o.isCells = false) : Boxed Y B t v :=
  h.kept hg (fun e => by obtain ⟨_, o, ho, hc⟩ := hr B e.symm; rw [show X.heap[B]? = _ from h] at ho; cases ho; cases hc)
theorem row_turn {X Y : World} {row : Option Nat} {B' base : Nat} {e : TypeId} {size k : Nat} {v : Value} {xs : List Value} (h : X.ownsRow base e size v k xs) (hg : X.grownBy Y row) (hr : ∀ r, row = some r → B' ≤ r ∧ ∃ o : Obj, X.heap[r]? = some o ∧ o.isCells = false) : Y.ownsRow base e size v k xs := by
  refine h.kept hg ?_
  rcases h.2 with ⟨rfl, _⟩ | ⟨g, cap, cur, rfl, _, hgb, _⟩
  · exact .inl rfl
  · refine .inr fun e' => ?_
    obtain ⟨_, o, ho, hc⟩ := hr g (by simpa [Value.ownBlock] using e'.symm)
    rw [hgb] at ho; cases ho; cases hc
theorem row_below {X Y : World} {base : Nat} {e : TypeId} {size k : Nat} {v : Value} {xs : List Value} (h : X.ownsRow base e size v k xs) (hb : Below X.heap.size X Y) : Y.ownsRow base e size v k xs := by
  refine h.kept (row := none) ⟨hb.os, hb.tape, hb.output, hb.size, fun i hi _ => hb.block i hi⟩ ?_
  rcases h.2 with ⟨rfl, _⟩ | ⟨g, cap, cur, rfl, _, hgb, _⟩
  · exact .inl rfl
  · exact .inr (by simp [Value.ownBlock])
theorem others_below {X Y : World} (hb : Below X.heap.size X Y) : KeepsOthers X Y := ⟨hb.size, fun k _ hk _ => (hb.block k (Array.getElem?_eq_some_iff.1 hk).1).trans hk⟩
theorem cells_new (W : World) (a b c d : Value) (t : TypeId) : ∀ (j : Nat) (u : Value), [a, b, c, d][j]? = some u → (W.alloc (.cells #[a, b, c, d] t)).cell? ((⟨W.heap.size, 0, none⟩ : Addr).add j) = some u := by
  intro j u h
  have hh := World.alloc_heap_new W (.cells #[a, b, c, d] t)
  have e : (⟨W.heap.size, 0, none⟩ : Addr).add j = ⟨W.heap.size, j, none⟩ := by
    unfold Addr.add
    split
    · rename_i h0; subst h0; rfl
    · simp
  have : (#[a, b, c, d] : Array Value)[j]? = some u := by simpa using h
  rw [e]
  unfold World.cell?
  rw [show ({ block := W.heap.size, off := j, spot := none } : Addr).block = W.heap.size from rfl, hh]
  simpa using this
theorem Boxed.below {X Y : World} {B : Nat} {t : TypeId} {v : Value} (h : Boxed X B t v) (hb : Below X.heap.size X Y) : Boxed Y B t v := (hb.block B h.lt).trans h

theorem tok_at {a : Nat} {c : UInt8} {r : List UInt8} (hP : isP c = false) : (∃ t, tokOf 0 (c :: r) = some [t] ∧ tokOf a (c :: r) = some [{ t with p := a }]) ∨ (tokOf 0 (c :: r) = none ∧ tokOf a (c :: r) = none) := by
  simp only [tokOf, hP, Bool.false_eq_true, if_false]
  by_cases hL : isL c = true
  · left; exact ⟨tkW (c :: r) 0, by simp [hL], by simp [hL, tkW]⟩
  · by_cases hD : isD c = true
    · left; exact ⟨tkN (cap62 (lval (c :: r))) 0, by simp [hL, hD], by simp [hL, hD, tkN]⟩
    · by_cases h45 : c.toNat = 45
      · by_cases hr : r.length = 0
        · right; simp [hL, hD, h45, hr]
        · left; exact ⟨tkN (-(cap62 (lval r) : Int)) 0, by simp [hL, hD, h45, hr], by simp [hL, hD, h45, hr, tkN]⟩
      · by_cases h10 : c.toNat = 10
        · left; exact ⟨tkE 0, by simp [hL, hD, h10], by simp [hL, hD, h10, tkE]⟩
        · right; simp [hL, hD, h45, h10]
theorem tok_part {a : Nat} {c : UInt8} {r : List UInt8} (hP : isP c = true) : tokOf a (c :: r) = some [] := by simp only [tokOf, hP, if_true]
theorem kind1 {c : UInt8} (h : isP c = false) : (kindB c == 1) = false := by
  unfold kindB
  rw [if_neg (by simp [h])]
  repeat' split
  all_goals rfl
theorem row_slice {W : World} {base : Nat} {e : TypeId} {size k : Nat} {v : Value} {xs : List Value} (h : W.ownsRow base e size v k xs) : ∃ A c, v = .slice A k c := by
  rcases h.2 with ⟨rfl, rfl⟩ | ⟨g, cap, _, rfl, _⟩
  · exact ⟨none, 0, rfl⟩
  · exact ⟨_, cap, rfl⟩
theorem info33 : (Tryd.prog.info? 91).map (fun i => (i.zero, i.size, i.bytes)) = some (some (.agg #[.int .i64 0, .string ⟨#[]⟩, .int .i64 0, .int .i64 0]), 4, 40) := by kernel_rfl

/-- Behind the loop: what lies in the results' boxes is handed back. -/
theorem cut_res {W : World} {b0 D : Nat} {v : Value} {p q : Int} (tmps : Array Value) (h2 : tmps[2]? = some (.pointer (some ⟨b0, 0, none⟩))) (h3 : tmps[3]? = some (.pointer (some ⟨b0 + 1, 0, none⟩))) (h4 : tmps[4]? = some (.pointer (some ⟨b0 + 1 + 1, 0, none⟩)))
    {A : Option Addr} {n c : Nat} (hv : v = .slice A n c) (g3 : Boxed W b0 57 v) (g4 : Boxed W (b0 + 1) 3 (.int .i64 p)) (g5 : Boxed W (b0 + 1 + 1) 32 (.int .i64 q)) (hK : W.heap[D]? = some (.deferred (some []))) :
    (results Tryd.f25 tmps).run Tryd.prog (W.putObj D (.deferred none)) = .ok (.tuple #[v, .int .i64 p, .int .i64 q]) (W.putObj D (.deferred none)) := by
  have hr : ∀ r, some D = some r → ∃ o : Obj, W.heap[r]? = some o ∧ o.isCells = false := fun r e => by cases e; exact ⟨_, hK, rfl⟩
  have d3 := cell_kept g3.cell (grownBy_putObj' W D (.deferred none)) hr
  have d4 := cell_kept g4.cell (grownBy_putObj' W D (.deferred none)) hr
  have d5 := cell_kept g5.cell (grownBy_putObj' W D (.deferred none)) hr
  subst hv
  simp [results, Tryd.results25, go_sem, h2, h3, h4, d3, d4, d5]
theorem cut_below {w W0 W : World} {D : Nat} (hD : W0.heap.size ≤ D) (hB0 : Below w.heap.size w W0) (b5 : Below w.heap.size w W) (hK : W.heap[D]? = some (.deferred (some []))) : Below w.heap.size w (W.putObj D (.deferred none)) :=
  b5.trans (belowK_b (w := w) (Nat.le_refl _) W D _ _ (by have := hB0.size; omega) hK rfl rfl)

set_option maxRecDepth 100000 in
set_option maxHeartbeats 4000000 in
theorem cut_any (s : ByteArray) (w : World) (hs : s.size ≤ 1048576) : Calls Tryd.prog 25 #[.string s] w (GivesCut w (lcut 0 s.data.toList)) := by
  have hs' : decide (1048576 < (s.size : Int)) = false := decide_eq_false (by omega)
  obtain ⟨i0, hi, hz0, hz1, hz2⟩ := info_parts info33
  refine (callsIn_wide (n := 9)).1 ?_
  refine callsIn_of_wp_marks Tryd.func25 rfl trivial ?_ rfl
  simp only [Tryd.ntmps25, List.size_toArray, List.length_cons, List.length_nil, Nat.reduceAdd, Nat.reduceSub, Array.replicate_succ, Array.replicate_zero, List.push_toArray, List.append_toArray, List.nil_append, List.cons_append]
  gi_wp2_with (refine ⟨trivial, ?_⟩; gi_at_call 34; refine (callsIn_wide.2 (pieces_any s _)).mono ?_; rintro e w' ⟨rfl, rfl⟩)
  have x0 := Boxed.new w 57 (.slice none 0 0)
  have x1 := Boxed.new (w.alloc (.cells #[.slice none 0 0] 57)) 3 (.int .i64 0)
  have x2 := Boxed.new ((w.alloc (.cells #[.slice none 0 0] 57)).alloc (.cells #[.int .i64 0] 3)) 32 (.int .i64 0)
  have x3 := Boxed.new (((w.alloc (.cells #[.slice none 0 0] 57)).alloc (.cells #[.int .i64 0] 3)).alloc (.cells #[.int .i64 0] 32)) 57 (.slice none 0 0)
  have x4 := Boxed.new ((((w.alloc (.cells #[.slice none 0 0] 57)).alloc (.cells #[.int .i64 0] 3)).alloc (.cells #[.int .i64 0] 32)).alloc (.cells #[.slice none 0 0] 57)) 9 (.string s)
  simp only [World.size_alloc] at x1 x2 x3 x4
  obtain ⟨W0, hW0⟩ : ∃ W0, (((((w.alloc (.cells #[.slice none 0 0] 57)).alloc (.cells #[.int .i64 0] 3)).alloc (.cells #[.int .i64 0] 32)).alloc (.cells #[.slice none 0 0] 57)).alloc (.cells #[.string s] 9)) = W0 := ⟨_, rfl⟩
  have hB0 : Below w.heap.size w W0 := by
    rw [← hW0]
    exact (((((Below.refl _ w).alloc (Nat.le_refl _) _).alloc (by simp) _).alloc (by simp; omega) _).alloc (by simp; omega) _).alloc (by simp; omega) _
  have y0 : Boxed W0 w.heap.size 57 (.slice none 0 0) := by rw [← hW0]; exact (((x0.alloc _).alloc _).alloc _).alloc _
  have y1 : Boxed W0 (w.heap.size + 1) 3 (.int .i64 0) := by rw [← hW0]; exact ((x1.alloc _).alloc _).alloc _
  have y2 : Boxed W0 (w.heap.size + 1 + 1) 32 (.int .i64 0) := by rw [← hW0]; exact (x2.alloc _).alloc _
  have y3 : Boxed W0 (w.heap.size + 1 + 1 + 1) 57 (.slice none 0 0) := by rw [← hW0]; exact x3.alloc _
  have y4 : Boxed W0 (w.heap.size + 1 + 1 + 1 + 1) 9 (.string s) := by rw [← hW0]; exact x4
  have hsz : W0.heap.size = w.heap.size + 5 := by rw [← hW0]; simp
  rw [hW0]
  have HSZ := Lib.hid hsz
  clear x0 x1 x2 x3 x4 hW0 hsz
  refine wpIn_rangeFunc_ownG rfl (by omega) (gf := 52) (lb := #[.pointer (some ⟨w.heap.size + 1 + 1 + 1 + 1, 0, none⟩)]) rfl trivial (enters_of Tryd.func52 (by kernel_rfl) rfl)
    (pieces_stops 8 (by omega) (w.heap.size + 1 + 1 + 1 + 1) s hs W0 y4) kpL_t (kpL_b y4.lt) (Below.refl _ _) (fun _ => rfl)
    (fun pre W => ∃ (ts : List Tk) (v : Value), lscan (pre.map Pc.raw) = .ok ts ∧ ts.length ≤ pre.length ∧ Boxed W w.heap.size 57 (.slice none 0 0) ∧ Boxed W (w.heap.size + 1) 3 (.int .i64 0) ∧ Boxed W (w.heap.size + 1 + 1) 32 (.int .i64 0) ∧ Boxed W (w.heap.size + 1 + 1 + 1) 57 v ∧ W.ownsRow w.heap.size 91 4 v ts.length (tkCells ts) ∧ Below w.heap.size w W ∧ Boxed W (w.heap.size + 1 + 1 + 1 + 1) 9 (.string s))
    (fun c pre W => c = .ret ∧ ∃ p : Nat, lscan (pre.map Pc.raw) = .error p ∧ Boxed W w.heap.size 57 (.slice none 0 0) ∧ Boxed W (w.heap.size + 1) 3 (.int .i64 (p : Int)) ∧ Boxed W (w.heap.size + 1 + 1) 32 (.int .i64 20) ∧ Below w.heap.size w W)
    (by rintro pre X Y row ⟨ts, v, h1, h2, h3, h4, h5, h6, h7, h8, h9⟩ hg hr; exact ⟨ts, v, h1, h2, Boxed.turn h3 hg hr, Boxed.turn h4 hg hr, Boxed.turn h5 hg hr, Boxed.turn h6 hg hr, row_turn h7 hg hr, ownFrom_below (w₀ := w) (B := W0.heap.size) (Nat.le_refl _) hB0.size pre X Y row h8 hg hr, Boxed.turn h9 hg hr⟩)
    (by rintro c pre X Y row ⟨h1, p, h2, h3, h4, h5, h6⟩ hg hr; exact ⟨h1, p, h2, Boxed.turn h3 hg hr, Boxed.turn h4 hg hr, Boxed.turn h5 hg hr, ownFrom_below (w₀ := w) (B := W0.heap.size) (Nat.le_refl _) hB0.size pre X Y row h6 hg hr⟩)
    ⟨[], .slice none 0 0, rfl, Nat.le_refl _, y0, y1, y2, y3, World.ownsRow_nil _ _ _ _, hB0, y4⟩
    (fun x => { tmps := #[.string s, undef, .pointer (some ⟨w.heap.size, 0, none⟩), .pointer (some ⟨w.heap.size + 1, 0, none⟩), .pointer (some ⟨w.heap.size + 1 + 1, 0, none⟩), .pointer (some ⟨w.heap.size + 1 + 1 + 1, 0, none⟩), .int .i64 (x.p : Int), .string x.b, undef, undef, .string s, .int .i64 (s.size : Int), .bool false, .string s, .func (.func 52) #[] #[.pointer (some ⟨w.heap.size + 1 + 1 + 1 + 1, 0, none⟩)], .int .i64 (x.p : Int), .string x.b, undef, undef, undef, undef, undef, undef, undef, undef, undef, undef, undef, undef, undef, undef, undef, undef, undef, undef], defers := [] }) ?assign ?body ?done ?stop
  case assign =>
    intro l x W K hK
    gi_wp2
    exact hK
  case body =>
    rintro l pre x W ⟨ts, v, h1, h2, h3, h4, h5, h6, h7, h8, h9⟩ hlt
    obtain ⟨xp, xb, c, r, hb, hl, hd⟩ := x
    have hlt' : ts.length < 1048576 := by omega
    obtain ⟨h0, hc0, hlen⟩ := str_head hb
    have hsc := lscan_snoc (pre.map Pc.raw) (xp, c :: r)
    rw [h1] at hsc
    have HSC : Hid (lscan ((pre ++ [(⟨xp, xb, c, r, hb, hl, hd⟩ : Pc)]).map Pc.raw) = lscanS (.ok ts) (xp, c :: r)) := by
      show _ = _
      rw [List.map_append]; exact hsc
    obtain ⟨A, cp, rfl⟩ := row_slice h7
    have H3 := Lib.hid h3
    have H4 := Lib.hid h4
    have H5 := Lib.hid h5
    have H6 := Lib.hid h6
    have H7 := Lib.hid h7
    have H8 := Lib.hid h8
    have H9 := Lib.hid h9
    have HC0 := Lib.hid hc0
    have HB := Lib.hid hb
    have HD := Lib.hid hd
    have hWB : w.heap.size ≤ W.heap.size := h8.size
    have hW4 : w.heap.size + 1 + 1 + 1 < W.heap.size := h6.lt
    have hb48 : xb.size ≤ 1048576 := by omega
    clear h1 h3 h4 h5 h6 h7 h8 h9 hc0 hsc hlen
    dsimp only
    by_cases hP : isP c = true
    · have HK1 : Hid (kindB c = 1) := by show _ = _; unfold kindB; rw [if_pos hP]
      have HT : Hid (tokOf xp (c :: r) = some []) := tok_part hP
      clear hP
      gi_wp2_with (refine ⟨trivial, ?_⟩; gi_at_call 35; refine (CallsIn.inRound l (callsIn_wide.2 (firstOf_any xb _ h0))).mono ?_; rintro e w' ⟨rfl, rfl⟩; rw [HC0.out, HK1.out])
      refine ⟨KeepsFrom.refl _ _, ⟨KeepsWalks.refl _, rfl⟩, ts, _, ?_, by simp; omega, H3.out, H4.out, H5.out, H6.out, H7.out, H8.out, H9.out⟩
      rw [HSC.out]
      simp [lscanS, HT.out]
    · have hP : isP c = false := by simpa using hP
      have hk1 := kind1 hP
      obtain ⟨K, hK⟩ : ∃ K, K = kindB c := ⟨_, rfl⟩
      rw [← hK] at hk1
      have HK1 : Hid (kindB c = K) := hK.symm
      clear hK
      rcases tok_at (a := xp) (r := r) hP with ⟨t, ht0, hta⟩ | ⟨ht0, hta⟩
      · have HT : Hid (tokV (tokOf 0 (c :: r)) = .tuple #[.agg #[.int .i64 t.k, .string ⟨t.s.toArray⟩, .int .i64 t.n, .int .i64 0], .bool true]) := by show _ = _; rw [ht0]; rfl
        have HTA := Lib.hid hta
        have HP := Lib.hid hP
        clear ht0 hta hP
        gi_wp2_with (first
          | (refine ⟨trivial, ?_⟩; gi_at_call 35; refine (CallsIn.inRound l (callsIn_wide.2 (firstOf_any xb _ h0))).mono ?_; rintro e w' ⟨rfl, rfl⟩; rw [HC0.out, HK1.out])
          | (refine ⟨trivial, ?_⟩; gi_at_call 36; refine (CallsIn.inRound l (callsIn_wide.2 (token_any xb c r _ HB.out hb48 HD.out HP.out))).mono ?_; rintro e W1 ⟨rfl, hb1⟩; rw [HT.out]; have hy1 := hb1.size; have g6 := (Boxed.below H6.out hb1).cell; have hW41 : w.heap.size + 1 + 1 + 1 < W1.heap.size := (by omega))
          | (gi_at_builtin; refine wpListIn_append_own _ rfl _ _ 57 rfl w.heap.size 91 i0 (.agg #[.int .i64 0, .string ⟨#[]⟩, .int .i64 0, .int .i64 0]) 4 40 Tryd.underlying57 hi hz0 hz1 hz2 rfl (by decide) (.slice A ts.length cp) ts.length (tkCells ts) rfl (((row_below H7.out hb1).alloc _).alloc _) ⟨W1.heap.size + 1, 0, none⟩ 1 1 [.int .i64 t.k, .string ⟨t.s.toArray⟩, .int .i64 t.n, .int .i64 (xp : Int)] rfl rfl (by have := cells_new (W1.alloc (.cells #[.int .i64 t.k, .string ⟨t.s.toArray⟩, .int .i64 t.n, .int .i64 (xp : Int)] 91)) (.int .i64 t.k) (.string ⟨t.s.toArray⟩) (.int .i64 t.n) (.int .i64 (xp : Int)) 91; simp only [World.size_alloc] at this; exact this) (by simp [Value.oneCell']) (by unfold maxLen; omega) (by omega) (by simp; omega) ?_; intro v' w1 hown' hgrow _; obtain ⟨g', cap', rfl⟩ := ownsRow_succ hown'; obtain ⟨hv1, hv2, hr2, hk2, hb2⟩ := ((Boxed.below H6.out hb1).alloc _).appended (by decide) ((row_below H7.out hb1).alloc _) (by simp; omega) (by omega) hown' hgrow; have hc1 := hv1.cell; have hf1 := hv1.frozen))
        have kk := (others_below hb1).trans ((KeepsOthers.alloc W1 _).trans hk2)
        have bx : ∀ {B : Nat} {tt : TypeId} {u : Value}, Boxed W B tt u → tt ≠ 91 → B ≠ w.heap.size + 1 + 1 + 1 → Boxed (w1.setCell ⟨w.heap.size + 1 + 1 + 1, 0, none⟩ (.slice (some ⟨g', 0, none⟩) (ts.length + 1) cap')) B tt u := fun hB hn hne =>
          ((((Boxed.below hB hb1).alloc _).alloc _).kept hgrow ((Boxed.below hB hb1).not_row hn (row_below H7.out hb1))).other hne _
        refine ⟨kk.from _, ⟨kk.walks, (show _ = _ from bx H9.out (by decide) (by omega)).trans (show _ = _ from H9.out).symm⟩, ts ++ [{ t with p := xp }], _, ?_, by simp; omega, bx H3.out (by decide) (by omega), bx H4.out (by decide) (by omega), bx H5.out (by decide) (by omega), hv2, ?_, ?_, bx H9.out (by decide) (by omega)⟩
        · rw [HSC.out]; simp [lscanS, HTA.out]
        · have : tkCells (ts ++ [{ t with p := xp }]) = tkCells ts ++ [.int .i64 t.k, .string ⟨t.s.toArray⟩, .int .i64 t.n, .int .i64 (xp : Int)] := by simp [tkCells, tkCell]
          rw [this, List.length_append]
          exact hr2
        · exact H8.out.trans (((hb1.mono hWB).alloc (by omega) _).trans hb2)
      · have HT : Hid (tokV (tokOf 0 (c :: r)) = .tuple #[.agg #[.int .i64 0, .string ⟨#[]⟩, .int .i64 0, .int .i64 0], .bool false]) := by show _ = _; rw [ht0]; rfl
        have HTA := Lib.hid hta
        have HP := Lib.hid hP
        clear ht0 hta hP
        gi_wp2_with (first
          | (refine ⟨trivial, ?_⟩; gi_at_call 35; refine (CallsIn.inRound l (callsIn_wide.2 (firstOf_any xb _ h0))).mono ?_; rintro e w' ⟨rfl, rfl⟩; rw [HC0.out, HK1.out])
          | (refine ⟨trivial, ?_⟩; gi_at_call 36; refine (CallsIn.inRound l (callsIn_wide.2 (token_any xb c r _ HB.out hb48 HD.out HP.out))).mono ?_; rintro e W1 ⟨rfl, hb1⟩; rw [HT.out]; have hy1 := hb1.size; have g3 := (Boxed.below H3.out hb1).cell; have g4 := (Boxed.below H4.out hb1).cell; have g5 := (Boxed.below H5.out hb1).cell; have e3 := (Boxed.below H3.out hb1).frozen; have e4 := (Boxed.below H4.out hb1).frozen; have e5 := (Boxed.below H5.out hb1).frozen; have hW41 : w.heap.size + 1 + 1 < W1.heap.size := (by omega); have hW42 : w.heap.size + 1 < W1.heap.size := (by omega); have hW43 : w.heap.size < W1.heap.size := (by omega)))
        have bx : ∀ {B : Nat} {tt : TypeId} {u : Value}, Boxed W B tt u → Boxed W1 B tt u := fun hB => Boxed.below hB hb1
        have z3 : Boxed (((W1.setCell ⟨w.heap.size, 0, none⟩ (.slice none 0 0)).setCell ⟨w.heap.size + 1, 0, none⟩ (.int .i64 (xp : Int))).setCell ⟨w.heap.size + 1 + 1, 0, none⟩ (.int .i64 20)) w.heap.size 57 (.slice none 0 0) := (((bx H3.out).set _).other (by omega) _).other (by omega) _
        have z4 : Boxed (((W1.setCell ⟨w.heap.size, 0, none⟩ (.slice none 0 0)).setCell ⟨w.heap.size + 1, 0, none⟩ (.int .i64 (xp : Int))).setCell ⟨w.heap.size + 1 + 1, 0, none⟩ (.int .i64 20)) (w.heap.size + 1) 3 (.int .i64 (xp : Int)) := (((bx H4.out).other (by omega) _).set _).other (by omega) _
        have z5 : Boxed (((W1.setCell ⟨w.heap.size, 0, none⟩ (.slice none 0 0)).setCell ⟨w.heap.size + 1, 0, none⟩ (.int .i64 (xp : Int))).setCell ⟨w.heap.size + 1 + 1, 0, none⟩ (.int .i64 20)) (w.heap.size + 1 + 1) 32 (.int .i64 20) := (((bx H5.out).other (by omega) _).other (by omega) _).set _
        have k6 : KeepsOthers W1 (((W1.setCell ⟨w.heap.size, 0, none⟩ (.slice none 0 0)).setCell ⟨w.heap.size + 1, 0, none⟩ (.int .i64 (xp : Int))).setCell ⟨w.heap.size + 1 + 1, 0, none⟩ (.int .i64 20)) := (KeepsOthers.setCell _ _ _).trans ((KeepsOthers.setCell _ _ _).trans (KeepsOthers.setCell _ _ _))
        have b6 : Below w.heap.size W (((W1.setCell ⟨w.heap.size, 0, none⟩ (.slice none 0 0)).setCell ⟨w.heap.size + 1, 0, none⟩ (.int .i64 (xp : Int))).setCell ⟨w.heap.size + 1 + 1, 0, none⟩ (.int .i64 20)) := (((hb1.mono hWB).setCell (p := ⟨w.heap.size, 0, none⟩) (Nat.le_refl _) _).setCell (p := ⟨w.heap.size + 1, 0, none⟩) (Nat.le_succ _) _).setCell (p := ⟨w.heap.size + 1 + 1, 0, none⟩) (by simp; omega) _
        have s6 := b6.size
        have p6 : lscan ((pre ++ [(⟨xp, xb, c, r, hb, hl, hd⟩ : Pc)]).map Pc.raw) = .error xp := by rw [HSC.out]; simp [lscanS, HTA.out]
        exact ⟨((others_below hb1).trans (k6.trans (KeepsOthers.alloc _ _))).from _, rfl, xp, p6, z3.alloc _, z4.alloc _, z5.alloc _, H8.out.trans (b6.alloc (by omega) _)⟩
  case done =>
    rintro D ys W hD hS ⟨ts, v, h1, h2, h3, h4, h5, h6, h7, h8, _⟩ hK
    obtain ⟨A, cp, rfl⟩ := row_slice h7
    have c6 := h6.cell
    have c3 := h3.cell
    have f3 := h3.frozen
    have c4 := h4.cell
    have f4 := h4.frozen
    have c5 := h5.cell
    have f5 := h5.frozen
    have H1 := Lib.hid h1
    have H3 := Lib.hid h3
    have H4 := Lib.hid h4
    have H5 := Lib.hid h5
    have H6 := Lib.hid h6
    have H7 := Lib.hid h7
    have HK := Lib.hid hK
    clear h1 h3 h4 h5 h6 h7 hK
    gi_wp2
    obtain ⟨W5, hW5⟩ : ∃ W5, ((W.setCell ⟨w.heap.size, 0, none⟩ (.slice A ts.length cp)).setCell ⟨w.heap.size + 1, 0, none⟩ (.int .i64 0)).setCell ⟨w.heap.size + 1 + 1, 0, none⟩ (.int .i64 0) = W5 := ⟨_, rfl⟩
    have k5 : KeepsOthers W W5 := by rw [← hW5]; exact ((KeepsOthers.setCell _ _ _).trans (KeepsOthers.setCell _ _ _)).trans (KeepsOthers.setCell _ _ _)
    have g3 : Boxed W5 w.heap.size 57 (.slice A ts.length cp) := by rw [← hW5]; exact ((H3.out.set _).other (by omega) _).other (by omega) _
    have g4 : Boxed W5 (w.heap.size + 1) 3 (.int .i64 0) := by rw [← hW5]; exact ((H4.out.other (by omega) _).set _).other (by omega) _
    have g5 : Boxed W5 (w.heap.size + 1 + 1) 32 (.int .i64 0) := by rw [← hW5]; exact ((H5.out.other (by omega) _).other (by omega) _).set _
    have b5 : Below w.heap.size w W5 := by
      rw [← hW5]
      exact ((h8.setCell (p := ⟨w.heap.size, 0, none⟩) (Nat.le_refl _) _).setCell (p := ⟨w.heap.size + 1, 0, none⟩) (Nat.le_succ _) _).setCell (p := ⟨w.heap.size + 1 + 1, 0, none⟩) (by simp; omega) _
    have r5 : W5.ownsRow w.heap.size 91 4 (.slice A ts.length cp) ts.length (tkCells ts) := by
      rw [← hW5]
      have r1 := H7.out.kept (grownBy_setCell' W w.heap.size (.slice A ts.length cp)) (.inr (H3.out.not_row (by decide) H7.out).symm)
      have r2 := r1.kept (grownBy_setCell' _ (w.heap.size + 1) (.int .i64 0)) (.inr ((H4.out.other (B' := w.heap.size) (by omega) _).not_row (by decide) r1).symm)
      exact r2.kept (grownBy_setCell' _ (w.heap.size + 1 + 1) (.int .i64 0)) (.inr (((H5.out.other (B' := w.heap.size) (by omega) _).other (B' := w.heap.size + 1) (by omega) _).not_row (by decide) r2).symm)
    have hK5 := k5.same D _ HK.out rfl
    rw [hW5]
    refine ⟨by simp, .inl ⟨_, _, rfl, run_takeDeferred hK5, ?_⟩⟩
    refine ⟨_, cut_res _ rfl rfl rfl rfl g3 g4 g5 hK5, cut_below hD hB0 b5 hK5, ?_⟩
    rw [pcs_all (by simpa using hS) H1.out]
    exact ⟨_, rfl, ownsRow_putObj r5 _ hK5 rfl⟩
  case stop =>
    rintro D c pre W hD ⟨k, hS⟩ ⟨rfl, p, h1, h2, h3, h4, h5⟩ hK
    gi_wp2
    refine ⟨by simp, .inl ⟨_, _, rfl, run_takeDeferred hK, ?_⟩⟩
    refine ⟨_, cut_res _ rfl rfl rfl rfl h2 h3 h4 hK, cut_below hD hB0 h5 hK, ?_⟩
    rw [pcs_error hS h1]
end Go.Proofs.YtnapannphldglaaDoor
