/- path.Good by value. -/
import Derived.Test.YtnapannphldglaaDoorPathT
namespace Go.Proofs.YtnapannphldglaaDoor
open Go Go.RowKit

/-- The slice at A reads as l. -/
def SGV (w : World) (A : Option Addr) (l : List Sg) : Prop := l = [] ∨ ∃ g o, A = some ⟨g, o, none⟩ ∧ g < w.heap.size ∧ ∀ i s f u, l[i]? = some s → s.v[f]? = some u → w.cell? ⟨g, o + i * 8 + f, none⟩ = some u
theorem SGV.below {w w' : World} {A : Option Addr} {l : List Sg} (h : SGV w A l) (hb : Below w.heap.size w w') : SGV w' A l := by
  rcases h with h | ⟨g, o, hA, hg, h⟩
  · exact .inl h
  · exact .inr ⟨g, o, hA, Nat.lt_of_lt_of_le hg hb.size, fun i s f u h1 h2 => (hb.cell (p := ⟨g, _, none⟩) hg).trans (h i s f u h1 h2)⟩
theorem SGV.of_row {w : World} {B n c : Nat} {A : Option Addr} {l : List Sg} (h : w.ownsRow B 27 8 (.slice A n c) n (sgCells l)) (hn : n = l.length) : SGV w A l := by
  subst hn
  rcases h.2 with ⟨hv, h0⟩ | ⟨g, cap, cur, hv, _⟩
  · exact .inl (List.eq_nil_of_length_eq_zero h0)
  · have hA : A = some ⟨g, 0, none⟩ := by injection hv
    subst hA
    refine .inr ⟨g, 0, rfl, (h.lt g rfl).2, fun i s f u h1 h2 => ?_⟩
    have hi := (List.getElem?_eq_some_iff.1 h1).1
    have hf : f < 8 := by
      have := (List.getElem?_eq_some_iff.1 h2).1
      simpa [Sg.v] using this
    rw [Nat.zero_add]
    exact (h.cellAt (i * 8 + f) (by omega)).trans ((sgCells_get _ _ _ h1 f hf).trans h2)
theorem SGV.at_ {w : World} {A : Option Addr} {l : List Sg} {i : Nat} {s : Sg} (h : SGV w A l) (hi : l[i]? = some s) : ∃ g o, A = some ⟨g, o, none⟩ ∧ g < w.heap.size ∧ w.cell? ⟨g, o + i * 8, none⟩ = some (.int .i64 s.k) ∧ w.cell? ⟨g, o + i * 8 + 1, none⟩ = some (.int .i64 s.v0) ∧ w.cell? ⟨g, o + i * 8 + 2, none⟩ = some (.int .i64 s.v1) ∧ w.cell? ⟨g, o + i * 8 + 3, none⟩ = some (.int .i64 s.v2) ∧ w.cell? ⟨g, o + i * 8 + 4, none⟩ = some (.int .i64 s.v3) ∧ w.cell? ⟨g, o + i * 8 + 5, none⟩ = some (.int .i64 s.v4) ∧ w.cell? ⟨g, o + i * 8 + 6, none⟩ = some (.int .i64 s.v5) ∧ w.cell? ⟨g, o + i * 8 + 7, none⟩ = some (.int .i64 s.w) := by
  rcases h with h | ⟨g, o, hA, hg, h⟩
  · rw [h] at hi; simp at hi
  · exact ⟨g, o, hA, hg, h i s 0 _ hi rfl, h i s 1 _ hi rfl, h i s 2 _ hi rfl, h i s 3 _ hi rfl, h i s 4 _ hi rfl, h i s 5 _ hi rfl, h i s 6 _ hi rfl, h i s 7 _ hi rfl⟩
def okV (s : Sg) (p : Int) (i : Nat) : Prop := isC (s.get i) = true ∧ (s.get i = 0 ∨ (i : Int) < 2 * p)
instance (s : Sg) (p : Int) (i : Nat) : Decidable (okV s p i) := by unfold okV; exact inferInstance
def goodS (s : Sg) : Bool := match letterK s.k with
  | none => false
  | some x => (List.range 6).all (fun i => decide (okV s x.p i)) && (if s.k = 5 then isW s.w else decide (s.w = 0))
set_option maxRecDepth 100000 in
theorem v_index (W : World) (s : Sg) {k : Nat} (hk : k < 6) : (Instr.index 25 (.agg #[.int .i64 s.v0, .int .i64 s.v1, .int .i64 s.v2, .int .i64 s.v3, .int .i64 s.v4, .int .i64 s.v5]) (.int .i64 (k : Int))).run Tryd.prog W = .ok (.int .i64 (s.get k)) W := by
  simp [Instr.index, run_underlying Tryd.underlying25, asIntOf, go_sem, hk]
  match k, hk with
  | 0, _ => rfl
  | 1, _ => rfl
  | 2, _ => rfl
  | 3, _ => rfl
  | 4, _ => rfl
  | 5, _ => rfl
set_option maxRecDepth 100000 in
set_option maxHeartbeats 4000000 in
theorem gpart_no {w : World} {s : Sg} (hl : LtIn w) (hk : letterK s.k = none) : Calls Tryd.prog 33 #[.agg #[.int .i64 s.k, .int .i64 s.v0, .int .i64 s.v1, .int .i64 s.v2, .int .i64 s.v3, .int .i64 s.v4, .int .i64 s.v5, .int .i64 s.w]] w fun e w' => e = .returned (.bool false) ∧ Below w.heap.size w w' := by
  have HK := Lib.hid hk
  have HL := Lib.hid hl
  clear hk hl
  go_enter Tryd.func33, Tryd.ntmps33
  go_wp2_with (go_at_call 47; refine (letterK_no HK.out (HL.out.below ((Below.refl _ w).alloc (Nat.le_refl _) _) HL.out.lt)).mono ?_; rintro e w1 ⟨rfl, hb1⟩; have hz1 := hb1.size)
  go_ret
  simp only [World.size_alloc] at hz1
  exact ⟨rfl, (((Below.refl _ w).alloc (Nat.le_refl _) _).trans (hb1.mono (by simp))).alloc (by omega) _⟩
set_option maxRecDepth 100000 in
set_option maxHeartbeats 4000000 in
theorem gpart_yes {w : World} {s : Sg} {x : Lt} (hl : LtIn w) (hk : letterK s.k = some x) (hp : 0 ≤ x.p ∧ x.p ≤ 3) : Calls Tryd.prog 33 #[.agg #[.int .i64 s.k, .int .i64 s.v0, .int .i64 s.v1, .int .i64 s.v2, .int .i64 s.v3, .int .i64 s.v4, .int .i64 s.v5, .int .i64 s.w]] w fun e w' => e = .returned (.bool (goodS s)) ∧ Below w.heap.size w w' := by
  have hG : goodS s = ((List.range 6).all (fun i => decide (okV s x.p i)) && (if s.k = 5 then isW s.w else decide (s.w = 0))) := by unfold goodS; rw [hk]
  generalize goodS s = R at *
  have HG := Lib.hid hG
  have HK := Lib.hid hk
  have HL := Lib.hid hl
  obtain ⟨hp1, hp2⟩ := hp
  clear hk hl hG
  go_enter Tryd.func33, Tryd.ntmps33
  go_upto_region 4 with (go_at_call 47; refine (letterK_yes HK.out (HL.out.below ((Below.refl _ w).alloc (Nat.le_refl _) _) HL.out.lt)).mono ?_; rintro e w1 ⟨rfl, hb1⟩; have hz1 := hb1.size; have hsb := Lib.hid ((SB.new w s).below hb1 (SB.new w s).lt))
  have hzw : w.heap.size < w1.heap.size := hsb.out.lt
  have hlb := LB.new w1 x
  have hs2 : SB (w1.alloc (.cells #[.int .u8 x.n, .int .i64 x.k, .int .i64 x.p, .string x.h, .int .i64 x.f, .int .u8 x.a] 101)) w.heap.size s := (heap_alloc_old _ _ hzw).trans hsb.out
  have hb2 : Below w.heap.size w (w1.alloc (.cells #[.int .u8 x.n, .int .i64 x.k, .int .i64 x.p, .string x.h, .int .i64 x.f, .int .u8 x.a] 101)) := (((Below.refl _ w).alloc (Nat.le_refl _) _).trans (hb1.mono (by simp))).alloc (by omega) _
  generalize w1.alloc (.cells #[.int .u8 x.n, .int .i64 x.k, .int .i64 x.p, .string x.h, .int .i64 x.f, .int .u8 x.a] 101) = W at *
  clear hb1 hz1 hsb
  have l2 := hlb.c2
  have s0 := hs2.c0
  have s1 := hs2.c1
  have s2 := hs2.c2
  have s3 := hs2.c3
  have s4 := hs2.c4
  have s5 := hs2.c5
  have s6 := hs2.c6
  have s7 := hs2.c7
  have HB := Lib.hid hb2
  clear hlb hs2 hb2
  go_wp2
  go_loopw [17] (fun i wr => ∃ k : Nat, k ≤ 6 ∧ i = .int .i64 (k : Int) ∧ (∀ j, j < k → okV s x.p j) ∧ wr = W) (fun i _ => 6 - (intOf i).toNat)
  case atStart => exact ⟨0, by decide, rfl, fun j hj => absurd hj (by omega), rfl⟩
  case round =>
    obtain ⟨k, hk, rfl, hn, rfl⟩ := hrel
    have HN := Lib.hid hn
    clear hn
    by_cases hlt : k < 6
    · have hix := fun W' => v_index W' s hlt
      by_cases hok : okV s x.p k
      · have HOK := Lib.hid hok
        obtain ⟨hc, hz⟩ := hok
        by_cases h0 : s.get k = 0
        · clear hz
          go_wp2_with (go_at_call 50; refine (isC_any _ _).mono ?_; rintro e w4 ⟨rfl, rfl⟩)
          refine ⟨⟨k + 1, hlt, by go_num, fun j hj => ?_, trivial⟩, by simp [intOf]; omega⟩
          rcases Nat.lt_or_ge j k with q | q
          · exact HN.out j q
          · obtain rfl : j = k := by omega
            exact HOK.out
        · have h2 : (k : Int) < 2 * x.p := by rcases hz with q | q; exact absurd q h0; exact q
          clear hz
          go_wp2_with (go_at_call 50; refine (isC_any _ _).mono ?_; rintro e w4 ⟨rfl, rfl⟩)
          refine ⟨⟨k + 1, hlt, by go_num, fun j hj => ?_, trivial⟩, by simp [intOf]; omega⟩
          rcases Nat.lt_or_ge j k with q | q
          · exact HN.out j q
          · obtain rfl : j = k := by omega
            exact HOK.out
      · have HOK := Lib.hid hok
        have hR : Hid (R = false) := by
          show _ = _
          rw [HG.out, Bool.and_eq_false_iff]
          left
          rw [List.all_eq_false]
          exact ⟨k, List.mem_range.2 hlt, by simpa using HOK.out⟩
        cases hc : isC (s.get k) with
        | false =>
          clear hok
          go_wp2_with (go_at_call 50; refine (isC_any _ _).mono ?_; rintro e w4 ⟨rfl, rfl⟩)
          go_ret
          exact ⟨by rw [hR.out]; rfl, HB.out⟩
        | true =>
          have h0 : ¬ s.get k = 0 := fun e => hok ⟨hc, .inl e⟩
          have h2 : ¬ (k : Int) < 2 * x.p := fun e => hok ⟨hc, .inr e⟩
          clear hok
          go_wp2_with (go_at_call 50; refine (isC_any _ _).mono ?_; rintro e w4 ⟨rfl, rfl⟩)
          go_ret
          exact ⟨by rw [hR.out]; rfl, HB.out⟩
    · have : k = 6 := by omega
      subst this
      have hA : Hid ((List.range 6).all (fun i => decide (okV s x.p i)) = true) := by
        show _ = _
        rw [List.all_eq_true]
        intro j hj
        exact decide_eq_true (HN.out j (List.mem_range.1 hj))
      by_cases h5 : s.k = 5
      · have H5 := Lib.hid h5
        rw [h5] at s0
        clear h5
        go_wp2_with (go_at_call 51; refine (isW_any _ _).mono ?_; rintro e w4 ⟨rfl, rfl⟩)
        go_ret
        refine ⟨?_, HB.out⟩
        rw [HG.out, hA.out, if_pos H5.out]
        rfl
      · have H5 := Lib.hid h5
        go_wp2
        go_ret
        refine ⟨?_, HB.out⟩
        rw [HG.out, hA.out, if_neg H5.out]
        rfl
theorem lt_pts : ∀ x ∈ ltT, 0 ≤ x.p ∧ x.p ≤ 3 := by decide
theorem gpart_any {w : World} (s : Sg) (hl : LtIn w) : Calls Tryd.prog 33 #[.agg #[.int .i64 s.k, .int .i64 s.v0, .int .i64 s.v1, .int .i64 s.v2, .int .i64 s.v3, .int .i64 s.v4, .int .i64 s.v5, .int .i64 s.w]] w fun e w' => e = .returned (.bool (goodS s)) ∧ Below w.heap.size w w' := by
  cases hk : letterK s.k with
  | none =>
    have : goodS s = false := by unfold goodS; rw [hk]
    rw [this]; exact gpart_no hl hk
  | some x => exact gpart_yes hl hk (lt_pts x (letterK_mem hk))
def goodF (a : Int) : List Sg → Bool
  | [] => true
  | s :: r => goodS s && !(decide (s.k = 6) && decide (a = 6)) && goodF s.k r
def goodL (l : List Sg) : Bool := match l with
  | [] => false
  | s :: r => decide ((s :: r).length ≤ 4096) && decide (s.k = 1) && goodF 0 (s :: r)
theorem goodF_app (m : List Sg) : ∀ (l : List Sg) (a : Int), goodF a (l ++ m) = (goodF a l && goodF (match l.getLast? with | some s => s.k | none => a) m)
  | [], a => rfl
  | s :: l, a => by
    rw [List.cons_append, goodF, goodF, goodF_app m l s.k]
    cases l with
    | nil => simp [Bool.and_assoc]
    | cons t l =>
      rw [List.getLast?_cons_cons]
      cases h : (t :: l).getLast? with
      | none => simp at h
      | some z => simp [Bool.and_assoc]
def lastKd (l : List Sg) : Int := match l.getLast? with
  | some s => s.k
  | none => 0
theorem goodF_hit {l : List Sg} {k : Nat} {s : Sg} (h : goodF 0 (l.take k) = true) (hs : l[k]? = some s) (hn : (goodS s && !(decide (s.k = 6) && decide (lastKd (l.take k) = 6))) = true) : goodF 0 (l.take (k + 1)) = true ∧ lastKd (l.take (k + 1)) = s.k := by
  obtain ⟨hl, he⟩ := List.getElem?_eq_some_iff.1 hs
  rw [List.take_succ_eq_append_getElem hl, he]
  refine ⟨?_, by simp [lastKd]⟩
  rw [goodF_app, h, Bool.true_and]
  show goodF (lastKd (l.take k)) [s] = true
  rw [goodF, hn, goodF, Bool.true_and]
theorem goodF_miss {l : List Sg} {k : Nat} {s : Sg} (hs : l[k]? = some s) (hn : (goodS s && !(decide (s.k = 6) && decide (lastKd (l.take k) = 6))) = false) : goodF 0 l = false := by
  obtain ⟨hl, he⟩ := List.getElem?_eq_some_iff.1 hs
  conv => lhs; rw [← List.take_append_drop k l]
  rw [goodF_app, List.drop_eq_getElem_cons hl, he]
  show (_ && goodF (lastKd (l.take k)) (s :: _)) = false
  rw [goodF, hn, Bool.false_and, Bool.and_false]
end Go.Proofs.YtnapannphldglaaDoor
