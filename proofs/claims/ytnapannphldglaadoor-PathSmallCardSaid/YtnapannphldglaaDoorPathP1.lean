/- The mathematics of texts of paths: what stands one behind the other is read, letter by letter and number by number. -/
import Derived.Test.YtnapannphldglaaDoorPathR2
namespace Go.Proofs.YtnapannphldglaaDoor
open Go Go.RowKit

def RdOk (S : RSt) (p : Nat) (l : List UInt8) (R : RSt) : Prop := ∃ ts, lcut p l = .ok ts ∧ readR S ts = .ok R
theorem RdOk.nil (S : RSt) (p : Nat) : RdOk S p [] S := ⟨[], rfl, rfl⟩
theorem RdOk.gap {S R : RSt} {p : Nat} {d : UInt8} {r : List UInt8} (hd : isP d = true) (h : RdOk S (p + 1) r R) : RdOk S p (d :: r) R := by
  obtain ⟨ts, h1, h2⟩ := h
  exact ⟨ts, by rw [lcut_part hd]; exact h1, h2⟩
theorem RdOk.gaps {S R : RSt} : ∀ {g : List UInt8} {p : Nat} {r : List UInt8}, (∀ d ∈ g, isP d = true) → RdOk S (p + g.length) r R → RdOk S p (g ++ r) R
  | [], p, r, _, h => h
  | d :: g, p, r, hg, h => by
    refine RdOk.gap (hg d List.mem_cons_self) (RdOk.gaps (fun x hx => hg x (List.mem_cons_of_mem _ hx)) ?_)
    rw [show p + 1 + g.length = p + (d :: g).length by simp; omega]; exact h
theorem tok_W (S : RSt) (c : UInt8) (t : List UInt8) (p : Nat) : tokR S (tkW (c :: t) p) = wordR S p (c :: t) := by simp [tokR, tkW]
theorem tok_N (S : RSt) (v : Int) (p : Nat) : tokR S (tkN v p) = match numberR S ⟨v, p⟩ with
    | none => .error (p : Int)
    | some S' => .ok S' := by
  unfold tokR
  have h : (tkN v p).k = 2 := rfl
  rw [if_pos h]
  rfl
theorem RdOk.letter {S S' R : RSt} {p : Nat} {c : UInt8} {r : List UInt8} (hc : isL c = true) (hl : letterR S c.toNat p = some S') (h : RdOk S' (p + 1) r R) : RdOk S p (c :: r) R := by
  obtain ⟨ts, h1, h2⟩ := h
  have hP : isP c = false := isP_no.2 (by have := isL_iff.1 hc; omega)
  have hw : ∀ t, wordR S p (c :: t) = wordR S' ((p : Int) + 1) t := fun t => by
    rw [wordR, hl]
  rw [RdOk, lcut_cons]
  unfold firstT
  simp only [hP, hc, if_true, if_false, Bool.false_eq_true]
  cases r with
  | nil =>
    cases h1
    refine ⟨[tkW [c] p], rfl, ?_⟩
    rw [readR]
    have : tokR S (tkW [c] p) = .ok S' := by rw [tok_W, hw]; rfl
    rw [this]; exact h2
  | cons d r =>
    cases hd : isL d with
    | false =>
      have e : lrun isL (d :: r) = 0 := by simp [lrun, hd]
      rw [e]
      simp only [List.take_zero, List.drop_zero, Nat.add_zero]
      rw [h1]
      refine ⟨_, rfl, ?_⟩
      show readR S (tkW [c] p :: ts) = _
      rw [readR]
      have : tokR S (tkW [c] p) = .ok S' := by rw [tok_W, hw]; rfl
      rw [this]; exact h2
    | true =>
      have hP2 : isP d = false := isP_no.2 (by have := isL_iff.1 hd; omega)
      have e : lrun isL (d :: r) = lrun isL r + 1 := by simp [lrun, hd]
      rw [e]
      rw [lcut_cons] at h1
      unfold firstT at h1
      simp only [hP2, hd, if_true, if_false, Bool.false_eq_true] at h1
      simp only [List.take_succ_cons, List.drop_succ_cons]
      rw [show p + 1 + (lrun isL r + 1) = p + 1 + 1 + lrun isL r by omega]
      cases hx : lcut (p + 1 + 1 + lrun isL r) (r.drop (lrun isL r)) with
      | error q => rw [hx] at h1; cases h1
      | ok us =>
        rw [hx] at h1
        cases h1
        refine ⟨_, rfl, ?_⟩
        show readR S (tkW (c :: d :: r.take (lrun isL r)) p :: us) = _
        have h3 : readR S' (tkW (d :: r.take (lrun isL r)) (p + 1) :: us) = .ok R := h2
        rw [readR] at h3 ⊢
        have e1 : tokR S (tkW (c :: d :: r.take (lrun isL r)) p) = tokR S' (tkW (d :: r.take (lrun isL r)) (p + 1)) := by
          rw [tok_W, tok_W, hw]; rfl
        rw [e1]; exact h3
/-- What begins so does not go on with a number. -/
def noD (r : List UInt8) : Prop := ∀ d t, r = d :: t → isD d = false
theorem noD.nil : noD [] := fun d t h => by cases h
theorem noD.cons {d : UInt8} {t : List UInt8} (h : isD d = false) : noD (d :: t) := fun a b e => by cases e; exact h
theorem lrun_noD {r : List UInt8} (h : noD r) (l : List UInt8) (hl : ∀ c ∈ l, isD c = true) : lrun isD (l ++ r) = l.length := by
  cases r with
  | nil => rw [List.append_nil]; exact lrun_full isD l hl
  | cons d t => rw [lrun_app isD d (h d t rfl)]; exact lrun_full isD l hl
theorem cut_num {v : Int} (hv : -4611686018427387904 ≤ v ∧ v ≤ 4611686018427387904) {r : List UInt8} (hr : noD r) (p : Nat) : lcut p (Lib.itoa v ++ r) = (lcut (p + (Lib.itoa v).length) r).map ([tkN v p] ++ ·) := by
  have hlen : ∀ l : List UInt8, List.take l.length (l ++ r) = l ∧ List.drop l.length (l ++ r) = r := fun l => by simp
  unfold Lib.itoa
  split
  · rename_i h
    obtain ⟨d1, d2, d3⟩ := dec_digits v.natAbs
    have hP : isP 45 = false := by decide
    have hL : isL 45 = false := by decide
    have hD : isD 45 = false := by decide
    have hz : ¬ (Lib.decDigits v.natAbs).length = 0 := fun e => d3 (List.eq_nil_of_length_eq_zero e)
    rw [List.cons_append, lcut_cons]
    unfold firstT
    simp only [hP, hL, hD, lrun_noD hr _ d1, hz, (hlen _).1, (hlen _).2, if_true, if_false, Bool.false_eq_true, show (45 : UInt8).toNat = 45 from rfl, d2]
    rw [cap62_small (by unfold mst; omega), show (-(v.natAbs : Int)) = v by omega, List.length_cons, show p + 1 + (Lib.decDigits v.natAbs).length = p + ((Lib.decDigits v.natAbs).length + 1) by omega]
  · rename_i h
    obtain ⟨d1, d2, d3⟩ := dec_digits v.toNat
    cases hq : Lib.decDigits v.toNat with
    | nil => exact absurd hq d3
    | cons c l =>
      rw [hq] at d1 d2
      have hc := isD_iff.1 (d1 c List.mem_cons_self)
      have hP : isP c = false := isP_no.2 (by omega)
      have hL : isL c = false := isL_no.2 (by omega)
      rw [List.cons_append, lcut_cons]
      unfold firstT
      simp only [hP, hL, d1 c List.mem_cons_self, lrun_noD hr _ (fun x hx => d1 x (List.mem_cons_of_mem _ hx)), (hlen _).1, (hlen _).2, if_true, if_false, Bool.false_eq_true, d2]
      rw [cap62_small (by unfold mst; omega), show ((v.toNat : Nat) : Int) = v by omega, List.length_cons, show p + 1 + l.length = p + (l.length + 1) by omega]
theorem RdOk.number {S S' R : RSt} {p : Nat} {v : Int} {r : List UInt8} (hv : -4611686018427387904 ≤ v ∧ v ≤ 4611686018427387904) (hr : noD r) (hl : numberR S ⟨v, p⟩ = some S') (h : RdOk S' (p + (Lib.itoa v).length) r R) : RdOk S p (Lib.itoa v ++ r) R := by
  obtain ⟨ts, h1, h2⟩ := h
  refine ⟨tkN v p :: ts, by rw [cut_num hv hr, h1]; rfl, ?_⟩
  rw [readR]
  have : tokR S (tkN v p) = .ok S' := by rw [tok_N, hl]
  rw [this]; exact h2

/-! ### Numbers, each with what stands ahead of it -/
abbrev Gn := List UInt8 × Int
def gnB (l : List Gn) : List UInt8 := l.flatMap fun q => q.1 ++ Lib.itoa q.2
def bd62 (v : Int) : Prop := -4611686018427387904 ≤ v ∧ v ≤ 4611686018427387904
def gnOk (l : List Gn) : Prop := ∀ q ∈ l, (∀ d ∈ q.1, isP d = true) ∧ bd62 q.2
def gnSep (l : List Gn) : Prop := ∀ q ∈ l, q.1 ≠ []
theorem isP_D {d : UInt8} (h : isP d = true) : isD d = false := isD_no.2 (by have := isP_iff.1 h; omega)
theorem gn_noD {l : List Gn} {r : List UInt8} (ho : gnOk l) (hs : gnSep l) (hr : noD r) : noD (gnB l ++ r) := by
  cases l with
  | nil => exact hr
  | cons q l =>
    obtain ⟨g, v⟩ := q
    cases g with
    | nil => exact absurd rfl (hs _ List.mem_cons_self)
    | cons d g =>
      show noD (d :: _)
      exact noD.cons (isP_D ((ho _ List.mem_cons_self).1 d List.mem_cons_self))
theorem gnB_cons (g : List UInt8) (v : Int) (l : List Gn) (r : List UInt8) : gnB ((g, v) :: l) ++ r = g ++ (Lib.itoa v ++ (gnB l ++ r)) := by
  simp [gnB]
def RdTo (S : RSt) (p : Nat) (l : List UInt8) (Q : RSt → Prop) : Prop := ∃ R, Q R ∧ RdOk S p l R
theorem nums_rd {Q : RSt → Prop} {r : List UInt8} (hr : noD r) : ∀ (qs : List Gn) (L : List Pa) (y : Pa) (p : Nat), qs ≠ [] → gnOk qs → gnSep qs.tail → y.ns.length + qs.length = y.L.h.size → L.length ≤ 4096 →
    (∀ y' : Pa, y'.L = y.L → y'.s = y.s → y'.ns.map (·.n) = y.ns.map (·.n) ++ qs.map (·.2) → ∀ p', RdTo (L ++ [y'], y') p' r Q) → RdTo (L, y) p (gnB qs ++ r) Q
  | [], _, _, _, h, _, _, _, _, _ => absurd rfl h
  | (g, v) :: qs, L, y, p, _, ho, hs, hl, hm, hq => by
    have h0 := ho _ List.mem_cons_self
    have ho' : gnOk qs := fun q hq => ho q (List.mem_cons_of_mem _ hq)
    have hk : lacks y = true := by simp only [lacks, decide_eq_true_eq]; simp at hl; omega
    have hn : numberR (L, y) ⟨v, (p + g.length : Nat)⟩ = some (addN (L, y) ⟨v, (p + g.length : Nat)⟩) := by
      unfold numberR
      simp only [hk, if_true]
    have hr' : noD (gnB qs ++ r) := gn_noD ho' hs hr
    suffices h : ∃ R, Q R ∧ RdOk (addN (L, y) ⟨v, (p + g.length : Nat)⟩) (p + g.length + (Lib.itoa v).length) (gnB qs ++ r) R by
      obtain ⟨R, h1, h2⟩ := h
      exact ⟨R, h1, by rw [gnB_cons]; exact RdOk.gaps h0.1 (RdOk.number h0.2 hr' hn h2)⟩
    cases qs with
    | nil =>
      simp only [List.length_cons, List.length_nil] at hl
      have e : addN (L, y) ⟨v, (p + g.length : Nat)⟩ = (L ++ [{ y with ns := y.ns ++ [⟨v, (p + g.length : Nat)⟩] }], { y with ns := y.ns ++ [⟨v, (p + g.length : Nat)⟩] }) := by
        unfold addN
        simp only
        rw [keepL_yes (by simp only [lacks, decide_eq_false_iff_not]; simp at hl ⊢; omega) hm]
      rw [e]
      exact hq { y with ns := y.ns ++ [⟨v, (p + g.length : Nat)⟩] } rfl rfl (by simp) _
    | cons q qs =>
      have hk2 : lacks { y with ns := y.ns ++ [⟨v, (p + g.length : Nat)⟩] } = true := by simp only [lacks, decide_eq_true_eq]; simp at hl ⊢; omega
      have e : addN (L, y) ⟨v, (p + g.length : Nat)⟩ = (L, { y with ns := y.ns ++ [⟨v, (p + g.length : Nat)⟩] }) := by
        unfold addN
        simp only
        rw [keepL_no (.inl hk2)]
      rw [e]
      exact nums_rd hr (q :: qs) L { y with ns := y.ns ++ [⟨v, (p + g.length : Nat)⟩] } _ (by simp) ho' (fun z hz => hs z (List.mem_cons_of_mem _ hz)) (by simp at hl ⊢; omega) hm fun y' h1 h2 h3 p' => hq y' h1 h2 (by rw [h3]; simp) p'
/-- A letter with its numbers. -/
theorem part_rd {Q : RSt → Prop} {r : List UInt8} (hr : noD r) {qs : List Gn} {L : List Pa} {y : Pa} {p : Nat} {c : UInt8} {x : Lt} (hc : isL c = true) (hx : letterOf (greatB c.toNat) = some x) (hk : lacks y = false) (hf : followsK y x.k = true) (hl : qs.length = x.h.size) (ho : gnOk qs) (hs : gnSep qs.tail) (hm : L.length ≤ 4095)
    (hq : ∀ y' : Pa, y'.L = x → y'.s = isSm c.toNat → y'.ns.map (·.n) = qs.map (·.2) → ∀ p', RdTo (L ++ [y'], y') p' r Q) : RdTo (L, y) p (c :: (gnB qs ++ r)) Q := by
  have h1 : letterR (L, y) c.toNat p = some (beginR (L, y) ⟨x, isSm c.toNat, p, []⟩) := by
    unfold letterR
    rw [hx]
    simp only
    rw [hk, hf]; rfl
  suffices h : RdTo (beginR (L, y) ⟨x, isSm c.toNat, p, []⟩) (p + 1) (gnB qs ++ r) Q by
    obtain ⟨R, h2, h3⟩ := h
    exact ⟨R, h2, RdOk.letter hc h1 h3⟩
  cases qs with
  | nil =>
    have h0 : x.h.size = 0 := by simpa using hl.symm
    have e : beginR (L, y) ⟨x, isSm c.toNat, p, []⟩ = (L ++ [⟨x, isSm c.toNat, p, []⟩], ⟨x, isSm c.toNat, p, []⟩) := by
      unfold beginR
      simp only
      rw [keepL_yes (by simp [lacks, h0]) (by omega)]
    rw [e]
    exact hq _ rfl rfl rfl _
  | cons q qs =>
    have hlk : lacks ⟨x, isSm c.toNat, p, []⟩ = true := by simp [lacks]; simp at hl; omega
    have e : beginR (L, y) ⟨x, isSm c.toNat, p, []⟩ = (L, ⟨x, isSm c.toNat, p, []⟩) := by
      unfold beginR
      simp only
      rw [keepL_no (.inl hlk)]
    rw [e]
    exact nums_rd hr _ L _ _ (by simp) ho hs (by simpa using hl) (by omega) fun y' h1 h2 h3 p' => hq y' h1 h2 (by simpa using h3) p'
/-- Numbers that come again. -/
theorem again_rd {Q : RSt → Prop} {r : List UInt8} (hr : noD r) {qs : List Gn} {L : List Pa} {y : Pa} {p : Nat} {x : Lt} (hx : letterOf y.L.a = some x) (hk : lacks y = false) (hl : qs.length = x.h.size) (hn : qs ≠ []) (ho : gnOk qs) (hs : gnSep qs.tail) (hm : L.length ≤ 4095)
    (hq : ∀ y' : Pa, y'.L = x → y'.s = y.s → y'.ns.map (·.n) = qs.map (·.2) → ∀ p', RdTo (L ++ [y'], y') p' r Q) : RdTo (L, y) p (gnB qs ++ r) Q := by
  cases qs with
  | nil => exact absurd rfl hn
  | cons q qs =>
    obtain ⟨g, v⟩ := q
    have h0 := ho _ List.mem_cons_self
    have hlk : lacks ⟨x, y.s, (p + g.length : Nat), []⟩ = true := by simp [lacks]; simp at hl; omega
    have h := nums_rd (Q := Q) hr ((g, v) :: qs) L ⟨x, y.s, (p + g.length : Nat), []⟩ p (by simp) ho hs (by simpa using hl) (by omega) fun y' h1 h2 h3 p' => hq y' h1 h2 (by simpa using h3) p'
    obtain ⟨R, h1, ts, h2, h3⟩ := h
    refine ⟨R, h1, ts, h2, ?_⟩
    rw [gnB_cons] at h2
    have h4 : ∀ (g : List UInt8) (p : Nat) (t : List UInt8), (∀ d ∈ g, isP d = true) → lcut p (g ++ t) = lcut (p + g.length) t := by
      intro g
      induction g with
      | nil => intro p t _; rfl
      | cons d g ih =>
        intro p t hg
        rw [List.cons_append, lcut_part (hg d List.mem_cons_self), ih _ _ fun x hx => hg x (List.mem_cons_of_mem _ hx), show p + 1 + g.length = p + (d :: g).length by simp; omega]
    rw [h4 _ _ _ h0.1, cut_num h0.2 (gn_noD (fun q hq => ho q (List.mem_cons_of_mem _ hq)) hs hr)] at h2
    cases hc : lcut (p + g.length + (Lib.itoa v).length) (gnB qs ++ r) with
    | error q => rw [hc] at h2; cases h2
    | ok us =>
      rw [hc] at h2
      cases h2
      show readR _ (tkN v (p + g.length) :: us) = _
      have h3' : readR (L, ⟨x, y.s, (p + g.length : Nat), []⟩) (tkN v (p + g.length) :: us) = .ok R := h3
      rw [readR] at h3' ⊢
      have e : tokR (L, y) (tkN v (p + g.length)) = tokR (L, ⟨x, y.s, (p + g.length : Nat), []⟩) (tkN v (p + g.length)) := by
        have e2 : numberR (L, y) ⟨v, (p + g.length : Nat)⟩ = numberR (L, ⟨x, y.s, (p + g.length : Nat), []⟩) ⟨v, (p + g.length : Nat)⟩ := by
          unfold numberR
          simp only
          rw [hk, hlk, hx]
          simp only [if_true, Bool.false_eq_true, if_false]
          unfold beginR
          simp only
          rw [keepL_no (.inl hlk)]
        rw [tok_N, tok_N, e2]
      rw [e]; exact h3'
/-- What is read and drawn to its end. -/
def Drawn (l : List Sg) (R : RSt) : Prop := lacks R.2 = false ∧ ¬ R.2.L.k = 0 ∧ ∃ P, drawsP pen0 R.1 = .ok P ∧ P.l = l
theorem ofP_rd {l : List Sg} {t : List UInt8} (h : RdTo ([], pa0) 0 t (Drawn l)) : ofP t = .ok l := by
  obtain ⟨R, ⟨h1, h2, P, h3, h4⟩, ts, h5, h6⟩ := h
  unfold ofP
  rw [h5]
  simp only
  unfold parseP readP
  rw [h6]
  simp only
  rw [h1, decide_eq_false h2]
  simp only [Bool.or_self, Bool.false_eq_true, if_false]
  rw [h3]
  simp only
  rw [h4]
theorem drawsP_snoc {L : List Pa} {P P' : Pn} {y : Pa} (h : drawsP pen0 L = .ok P) (hy : drawP P y = .ok P') : drawsP pen0 (L ++ [y]) = .ok P' := by
  rw [drawsP_app, h]
  simp only [drawsP]
  rw [hy]
end Go.Proofs.YtnapannphldglaaDoor
