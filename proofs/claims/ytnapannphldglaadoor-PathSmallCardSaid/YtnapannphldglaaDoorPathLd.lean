/- The listed variables: what the row's condition gives. -/
import Derived.Test.YtnapannphldglaaDoorPathRw
import Derived.Test.YtnapannphldglaaDoorPathZ
import Derived.Stop.LaidErr
import Derived.Lib.LaidTab
import Derived.Lib.AppendIntMem
namespace Go.Proofs.YtnapannphldglaaDoor
open Go Go.ChangeShapes Go.WideShapes Go.ChangeAt Go.RowKit

/-- A row of the table, as a datum. -/
def Lt.d {H : Type} (x : Lt) : DataW H := .agg [.lit (.int .u8 x.n), .lit (.int .i64 x.k), .lit (.int .i64 x.p), .lit (.string x.h.data.toList), .lit (.int .i64 x.f), .lit (.int .u8 x.a)]
theorem laid_letters {H : Type} : (Rows.laid_gesso_path_letters : DataW H) = .agg (ltT.map Lt.d) := rfl
set_option maxRecDepth 100000 in
theorem lt_row {H : Type} {enc : TypeId × Value → H} {w : World} {base fuel : Nat} {sp : Nat → Bool} {held : Bool} {cs : List Value} {x : Lt} {y : DataW H × List MemPlace}
    (h : DataW.trod enc Tryd.prog w base sp held fuel 101 cs = some y) (hy : y.1 = x.d) : cs = x.v := by
  have e6 : Tryd.prog.cellsOf 101 = 6 := by kernel_rfl
  have eb : Tryd.prog.cellsOf 5 = 1 := by kernel_rfl
  have ei : Tryd.prog.cellsOf 3 = 1 := by kernel_rfl
  have es : Tryd.prog.cellsOf 9 = 1 := by kernel_rfl
  obtain ⟨zs, m, _, hx, hl, hzl, hzf⟩ := DataW.trod_struct Tryd.underlying101 h
  rw [e6] at hl
  match cs, hl with
  | [x0, x1, x2, x3, x4, x5], _ =>
  have h0 := hzf 0 _ rfl
  have h1 := hzf 1 _ rfl
  have h2 := hzf 2 _ rfl
  have h3 := hzf 3 _ rfl
  have h4 := hzf 4 _ rfl
  have h5 := hzf 5 _ rfl
  match zs, hzl with
  | [z0, z1, z2, z3, z4, z5], _ =>
  simp [eb] at h0 h5
  simp [ei] at h1 h2 h4
  simp [es] at h3
  obtain ⟨c0, q0, r0, _⟩ := DataW.trod_int Tryd.underlying5 h0
  obtain ⟨c1, q1, r1, _⟩ := DataW.trod_int Tryd.underlying3 h1
  obtain ⟨c2, q2, r2, _⟩ := DataW.trod_int Tryd.underlying3 h2
  obtain ⟨c3, q3, r3, _⟩ := DataW.trod_string Tryd.underlying9 h3
  obtain ⟨c4, q4, r4, _⟩ := DataW.trod_int Tryd.underlying3 h4
  obtain ⟨c5, q5, r5, _⟩ := DataW.trod_int Tryd.underlying5 h5
  subst r0; subst r1; subst r2; subst r3; subst r4; subst r5
  rw [hx] at hy
  obtain ⟨n, k, p, hh, f, a⟩ := x
  simp only [Lt.d, List.map_cons, List.map_nil, DataW.agg.injEq, List.cons.injEq, DataW.lit.injEq, Lit.int.injEq, Lit.string.injEq, true_and, and_true] at hy
  obtain ⟨rfl, rfl, rfl, hs, rfl, rfl⟩ := hy
  have : c3 = hh := by
    obtain ⟨⟨u⟩⟩ := c3
    obtain ⟨⟨v⟩⟩ := hh
    simp only at hs
    rw [hs]
  subst this
  cases q0; cases q1; cases q2; cases q3; cases q4; cases q5
  rfl
set_option maxRecDepth 100000 in
theorem lt_rows {H : Type} {enc : TypeId × Value → H} {w : World} {base : Nat} {sp : Nat → Bool} {held : Bool} {m : Nat} : ∀ (l : List Lt) (cs : List Value) (xs : List (DataW H × List MemPlace)),
    cs.length = l.length * 6 → xs.map (·.1) = l.map Lt.d → (∀ i, i < l.length → DataW.trod enc Tryd.prog w base sp held m 101 ((cs.drop (i * 6)).take 6) = xs[i]?) → cs = l.flatMap Lt.v
  | [], cs, xs, hl, _, _ => List.eq_nil_of_length_eq_zero (by simpa using hl)
  | x :: l, cs, [], _, hx, _ => by simp at hx
  | x :: l, cs, y :: ys, hl, hx, h => by
    simp only [List.map_cons, List.cons.injEq] at hx
    have h0 := h 0 (by simp)
    simp only [Nat.zero_mul, List.drop_zero, List.getElem?_cons_zero] at h0
    have e0 := lt_row h0 hx.1
    have h1 := lt_rows l (cs.drop 6) ys (by simp only [List.length_cons] at hl; rw [List.length_drop]; omega) hx.2 (fun i hi => by
      have := h (i + 1) (by simp only [List.length_cons]; omega)
      rw [List.getElem?_cons_succ] at this
      rw [List.drop_drop, ← this, show 6 + i * 6 = (i + 1) * 6 by omega])
    rw [List.flatMap_cons, ← h1, ← e0, List.take_append_drop]
theorem gTab : Tryd.prog.globalNamed "internal/strconv.uint64pow10" = some 2 := by kernel_rfl
theorem gLet : Tryd.prog.globalNamed "gesso/path.letters" = some 1 := by kernel_rfl
theorem tLet : (Tryd.prog.globals[1]?).map (·.type) = some 146 := by kernel_rfl
theorem laid_tab {H : Type} : (Rows.laid_internal_strconv_uint64pow10 : DataW H) = Lib.tabData .u64 Lib.pow10Tab := by simp [Rows.laid_internal_strconv_uint64pow10, Lib.tabData, Lib.pow10Tab, List.range, List.range.loop]
def laidP : List (String × DataW Unit) := [("math/bits.deBruijn32tab", Rows.laid_math_bits_deBruijn32tab), ("math/bits.deBruijn64tab", Rows.laid_math_bits_deBruijn64tab), ("internal/strconv.uint64pow10", Rows.laid_internal_strconv_uint64pow10), ("gesso/path.letters", Rows.laid_gesso_path_letters)]
set_option maxRecDepth 100000 in
theorem letters_in {W : World} {r : List (String × DataW Unit)} (h : laidMet Tryd.prog (("gesso/path.letters", Rows.laid_gesso_path_letters) :: r) W) : LtIn W := by
  obtain ⟨ps, ⟨g', t', cs, fuel, p, q, hg', ht', hvar, hd, _, _⟩, _⟩ := h
  obtain rfl := Option.some.inj (gLet.symm.trans hg')
  obtain rfl := Option.some.inj (tLet.symm.trans ht')
  obtain ⟨xs, m, _, hx, hl, hn, hel⟩ := DataW.trod_array Tryd.underlying146 hd
  rw [show Tryd.prog.cellsOf 146 = 60 by kernel_rfl] at hl
  have e6 : Tryd.prog.cellsOf 101 = 6 := by kernel_rfl
  rw [laid_letters] at hx
  simp only [Prod.mk.injEq, DataW.agg.injEq] at hx
  have := lt_rows ltT _ xs (by rw [hl]; rfl) hx.1.symm (fun i hi => by
    have := hel i (by rw [ltT_len] at hi; exact hi)
    rw [e6] at this
    exact this)
  unfold World.var? at hvar
  rw [gLet] at hvar
  simp only [Option.bind_some] at hvar
  split at hvar
  · rename_i c t fr hc
    cases hvar
    refine ⟨t, fr, ?_⟩
    rw [hc, ltC, ← this]
  · cases hvar
theorem of_laidP {W : World} (h : laidMetH Tryd.prog laidP W) : LD W := by
  rw [MakeChecks.laidMetH_plain _ _ _ (by kernel_rfl)] at h
  have h2 := h.tail.tail
  refine ⟨letters_in h2.tail, Lib.tabBelow_of_tabIs ?_⟩
  rw [laid_tab] at h2
  exact Lib.tabIs_of_head gTab (by kernel_rfl) Tryd.underlying165 Tryd.underlying150 (by kernel_rfl) (by kernel_rfl) h2
end Go.Proofs.YtnapannphldglaaDoor
