/- The mathematics of a path's text: it is read and drawn as the path. -/
import Derived.Test.YtnapannphldglaaDoorPathR1
namespace Go.Proofs.YtnapannphldglaaDoor
open Go Go.RowKit

/-- A part as it is read off s's tokens. -/
structure Reads (s : Sg) (y : Pa) : Prop where
  L : letterK s.k = some y.L
  z : y.s = false
  n : y.ns.map (·.n) = y.L.h.data.toList.map (numT s)
theorem Reads.full {s : Sg} {y : Pa} (h : Reads s y) : lacks y = false := by
  have := congrArg List.length h.n
  simp at this
  simp [lacks, this]
theorem up_name : ∀ x ∈ ltT, greatB (x.nb.toNat : Int) = x.n ∧ isSm (x.nb.toNat : Int) = false := by decide
theorem of_name : ∀ x ∈ ltT, (letterOf x.n).map (·.n) = some x.n := by decide
theorem name_inj : ∀ x ∈ ltT, ∀ y ∈ ltT, x.n = y.n → x.k = y.k ∧ x.p = y.p ∧ x.f = y.f ∧ x.a = y.a ∧ x.h.data.toList = y.h.data.toList := by decide
theorem lt_ext {x y : Lt} (h1 : x.n = y.n) (h2 : x.k = y.k ∧ x.p = y.p ∧ x.f = y.f ∧ x.a = y.a ∧ x.h.data.toList = y.h.data.toList) : x = y := by
  obtain ⟨a, b, c, d, e, f⟩ := x
  obtain ⟨a', b', c', d', e', f'⟩ := y
  obtain ⟨h3, h4, h5, h6, h7⟩ := h2
  simp only at h1 h3 h4 h5 h6 h7
  have : d = d' := by
    cases d; cases d'
    simp only at h7
    congr 1
    exact Array.ext' h7
  subst h1 h3 h4 h5 h6 this
  rfl
theorem of_self {x : Lt} (hx : x ∈ ltT) : letterOf x.n = some x := by
  have h := of_name x hx
  cases hy : letterOf x.n with
  | none => rw [hy] at h; cases h
  | some y =>
    rw [hy] at h
    have hn : y.n = x.n := by simpa using h
    rw [lt_ext hn (name_inj y (letterOf_mem hy) x hx hn)]
/-- Numbers taken one by one. -/
theorem nums_read : ∀ (vs : List Int) (ts : List Tk) (L : List Pa) (y : Pa), vs ≠ [] → Fits (vs.map Atm.N) ts → y.ns.length + vs.length = y.L.h.size → L.length ≤ 4096 →
    ∃ y', readR (L, y) ts = .ok (L ++ [y'], y') ∧ y'.L = y.L ∧ y'.s = y.s ∧ y'.ns.map (·.n) = y.ns.map (·.n) ++ vs
  | [], _, _, _, h, _, _, _ => absurd rfl h
  | v :: vs, [], _, _, _, h, _, _ => by cases h
  | v :: vs, t :: ts, L, y, _, h, hl, hm => by
    obtain ⟨⟨p, ht⟩, h2⟩ := h
    subst ht
    have hk : lacks y = true := by simp only [lacks, decide_eq_true_eq]; simp at hl; omega
    have htk : tokR (L, y) (Atm.t p (.N v)) = .ok (addN (L, y) ⟨v, p⟩) := by
      unfold tokR
      simp only [Atm.t, tkN, if_true]
      unfold numberR
      simp only [hk, if_true]
    rw [readR, htk]
    simp only
    cases vs with
    | nil =>
      cases ts with
      | cons a b => cases h2
      | nil =>
        refine ⟨{ y with ns := y.ns ++ [⟨v, p⟩] }, ?_, rfl, rfl, by simp⟩
        rw [readR]
        unfold addN
        simp only
        rw [keepL_yes (by simp only [lacks, decide_eq_false_iff_not]; simp at hl ⊢; omega) hm]
    | cons u us =>
      have hk2 : lacks { y with ns := y.ns ++ [⟨v, p⟩] } = true := by simp only [lacks, decide_eq_true_eq]; simp at hl ⊢; omega
      have e : addN (L, y) ⟨v, p⟩ = (L, { y with ns := y.ns ++ [⟨v, p⟩] }) := by
        unfold addN
        simp only
        rw [keepL_no (.inl hk2)]
      rw [e]
      obtain ⟨y', h3, h4, h5, h6⟩ := nums_read (u :: us) ts L { y with ns := y.ns ++ [⟨v, p⟩] } (by simp) h2 (by simp at hl ⊢; omega) hm
      exact ⟨y', h3, h4, h5, by rw [h6]; simp⟩
theorem k_kind {k : Int} {x : Lt} (h : letterK k = some x) : x.k = k ∧ x.f = 0 := by
  unfold letterK at h
  have := List.find?_some h
  simpa using this
theorem k6_size : ∀ x ∈ ltT, x.h.size = 0 → x.k = 6 := by decide
theorem part_read {s : Sg} {L : List Pa} {y : Pa} {ts : List Tk} (hg : goodS s = true) (hk : lacks y = false) (hf : followsK y s.k = true) (hm : L.length ≤ 4095) (ht : Fits (atS s) ts) :
    ∃ z, readR (L, y) ts = .ok (L ++ [z], z) ∧ Reads s z := by
  obtain ⟨x, hx⟩ := goodS_letter hg
  have e2 : atS s = atX x s := by unfold atS; rw [hx]
  rw [e2] at ht
  unfold atX at ht
  have hxm := letterK_mem hx
  obtain ⟨hxk, hxf⟩ := k_kind hx
  cases ts with
  | nil => cases ht
  | cons t ts =>
    obtain ⟨⟨p, rfl⟩, h2⟩ := ht
    have hl : letterR (L, y) (x.nb.toNat : Int) p = some (beginR (L, y) ⟨x, false, p, []⟩) := by
      unfold letterR
      rw [(up_name x hxm).1, of_self hxm, (up_name x hxm).2]
      simp only
      rw [hk, hxk, hf]
      rfl
    have htk : tokR (L, y) (Atm.t p (.W x.nb)) = .ok (beginR (L, y) ⟨x, false, p, []⟩) := by
      unfold tokR
      simp only [Atm.t, tkW]
      rw [if_neg (by decide), if_pos ⟨trivial, by simp⟩]
      unfold wordR
      rw [hl]
      simp only
      unfold wordR
      rfl
    rw [readR, htk]
    simp only
    by_cases h0 : x.h.size = 0
    · have hd : x.h.data.toList = [] := List.eq_nil_of_length_eq_zero (by simpa using h0)
      rw [hd] at h2
      cases ts with
      | cons a b => cases h2
      | nil =>
        refine ⟨⟨x, false, p, []⟩, ?_, hx, rfl, by rw [hd]; rfl⟩
        rw [readR]
        unfold beginR
        simp only
        rw [keepL_yes (by simp [lacks, h0]) (by omega)]
    · have hlk : lacks ⟨x, false, p, []⟩ = true := by simp [lacks]; omega
      have e : beginR (L, y) ⟨x, false, p, []⟩ = (L, ⟨x, false, p, []⟩) := by
        unfold beginR
        simp only
        rw [keepL_no (.inl hlk)]
      rw [e]
      have e3 : (x.h.data.toList.map fun c => Atm.N (numT s c)) = (x.h.data.toList.map (numT s)).map Atm.N := by rw [List.map_map]; rfl
      rw [e3] at h2
      obtain ⟨z, h3, h4, h5, h6⟩ := nums_read (x.h.data.toList.map (numT s)) ts L ⟨x, false, p, []⟩ (by
        intro q
        have h9 : (x.h.data.toList.map (numT s)).length = x.h.size := by simp
        rw [q] at h9
        exact h0 h9.symm) h2 (by simp) (by omega)
      exact ⟨z, h3, by rw [h4]; exact hx, h5, by rw [h6, h4]; rfl⟩
def ReadsAll : List Sg → List Pa → Prop
  | [], [] => True
  | s :: r, y :: ys => Reads s y ∧ ReadsAll r ys
  | _, _ => False
theorem reads_kind {s : Sg} {y : Pa} (h : Reads s y) : y.L.k = s.k := (k_kind h.L).1
theorem all_read : ∀ (r : List Sg) (ts : List Tk) (L : List Pa) (y : Pa) (a : Int), goodF a r = true → lacks y = false → (y.L.k = 0 → ∀ s, r.head? = some s → s.k = 1) → y.L.k = a → L.length + r.length ≤ 4096 → Fits (r.flatMap atS) ts →
    ∃ ys z, readR (L, y) ts = .ok (L ++ ys, z) ∧ ReadsAll r ys ∧ (r = [] → z = y) ∧ (r ≠ [] → lacks z = false ∧ ¬ z.L.k = 0)
  | [], ts, L, y, a, _, _, _, _, _, ht => by
    cases ts with
    | cons t ts => cases ht
    | nil => exact ⟨[], y, by rw [readR, List.append_nil], trivial, fun _ => rfl, fun h => absurd rfl h⟩
  | s :: r, ts, L, y, a, hg, hk, h0, ha, hm, ht => by
    rw [List.flatMap_cons] at ht
    obtain ⟨us, vs, rfl, h1, h2⟩ := Fits.app ht
    rw [goodF, Bool.and_eq_true, Bool.and_eq_true] at hg
    obtain ⟨⟨hgs, hz⟩, hgr⟩ := hg
    have hf : followsK y s.k = true := by
      unfold followsK
      by_cases hy0 : y.L.k = 0
      · rw [if_pos hy0]; exact decide_eq_true (h0 hy0 s rfl)
      · rw [if_neg hy0, ha]
        cases h6 : decide (s.k = 6) <;> cases h7 : decide (a = 6) <;> simp_all
    obtain ⟨z, hr, hz2⟩ := part_read (L := L) hgs hk hf (by simp at hm; omega) h1
    have hzk := reads_kind hz2
    have hk0 : ¬ s.k = 0 := by
      have := (k_kind hz2.L).1
      have h3 : ∀ x ∈ ltT, ¬ x.k = 0 := by decide
      rw [← this]; exact h3 _ (letterK_mem hz2.L)
    obtain ⟨ys, z', h5, h6, h7, h8⟩ := all_read r vs (L ++ [z]) z s.k hgr hz2.full (fun e => absurd (hzk ▸ e) hk0) hzk (by simp at hm ⊢; omega) h2
    refine ⟨z :: ys, z', ?_, ⟨hz2, h6⟩, (fun e => by cases e), fun _ => ?_⟩
    · rw [readR_app, hr]
      simp only
      rw [h5]; simp
    · cases r with
      | nil => rw [h7 rfl]; exact ⟨hz2.full, by rw [hzk]; exact hk0⟩
      | cons q r => exact h8 (by simp)
theorem readP_text {l : List Sg} (hg : goodL l = true) {ts : List Tk} (ht : Fits (l.flatMap atS) ts) (a : Int) : ∃ ys, readP ts a = .ok ys ∧ ReadsAll l ys := by
  cases l with
  | nil => cases hg
  | cons s r =>
    have eg : goodL (s :: r) = (decide ((s :: r).length ≤ 4096) && decide (s.k = 1) && goodF 0 (s :: r)) := rfl
    rw [eg, Bool.and_eq_true, Bool.and_eq_true] at hg
    obtain ⟨ys, z, h1, h2, _, h4⟩ := all_read (s :: r) ts [] pa0 0 hg.2 rfl (fun _ q hq => by cases hq; exact of_decide_eq_true hg.1.2) rfl (by simpa using of_decide_eq_true hg.1.1) ht
    refine ⟨ys, ?_, h2⟩
    unfold readP
    rw [h1]
    simp only
    obtain ⟨h5, h6⟩ := h4 (by simp)
    rw [h5, decide_eq_false h6]
    simp
/-! ### Drawn again -/
theorem nums2 {ns : List Nm} {a b : Int} (h : ns.map (·.n) = [a, b]) : ∃ p q, ns = [⟨a, p⟩, ⟨b, q⟩] := by
  match ns, h with
  | [⟨x, p⟩, ⟨y, q⟩], h => simp at h; obtain ⟨rfl, rfl⟩ := h; exact ⟨p, q, rfl⟩
theorem zip_nums : ∀ (l : List UInt8) (f : UInt8 → Int) (ns : List Nm), ns.map (·.n) = l.map f → ∃ ps : List Int, ps.length = l.length ∧ ns = (l.zip ps).map fun z => ⟨f z.1, z.2⟩
  | [], f, [], _ => ⟨[], rfl, rfl⟩
  | [], f, n :: ns, h => by cases h
  | c :: l, f, [], h => by cases h
  | c :: l, f, n :: ns, h => by
    simp at h
    obtain ⟨ps, h1, h2⟩ := zip_nums l f ns h.2
    exact ⟨n.p :: ps, by simp [h1], by rw [h2]; simp [← h.1]⟩
theorem seg_eq {s : Sg} {a0 a1 a2 a3 a4 a5 k w : Int} (hk : k = s.k) (h0 : a0 = s.get 0) (h1 : a1 = s.get 1) (h2 : a2 = s.get 2) (h3 : a3 = s.get 3) (h4 : a4 = s.get 4) (h5 : a5 = s.get 5) (hw : w = s.w) : (⟨k, a0, a1, a2, a3, a4, a5, w⟩ : Sg) = s := by
  subst hk h0 h1 h2 h3 h4 h5 hw
  rfl
theorem f0_letters : ∀ x ∈ ltT, x.f = 0 → (x.p = 1 ∧ x.h.data.toList = [48, 49] ∧ ¬ x.k = 5) ∨ (x.p = 2 ∧ x.h.data.toList = [48, 49, 50, 51] ∧ ¬ x.k = 5) ∨ (x.p = 3 ∧ x.h.data.toList = [48, 49, 50, 51, 52, 53] ∧ ¬ x.k = 5) ∨ (x.p = 2 ∧ x.h.data.toList = [119, 48, 49, 50, 51] ∧ x.k = 5) ∨ (x.p = 0 ∧ x.h.data.toList = [] ∧ ¬ x.k = 5) := by decide
theorem draws_nums {s : Sg} {y : Pa} {P : Pn} (hg : goodS s = true) (h : Reads s y) : numsD y.s P ⟨y.L.k, 0, 0, 0, 0, 0, 0, 0⟩ (pairsP y) = .ok s := by
  obtain ⟨hk, hf⟩ := k_kind h.L
  obtain ⟨hv, hw⟩ := goodS_v h.L hg
  obtain ⟨ps, hp1, hp2⟩ := zip_nums _ _ _ h.n
  have c0 := (hv 0 (by decide)).1
  have c1 := (hv 1 (by decide)).1
  have c2 := (hv 2 (by decide)).1
  have c3 := (hv 3 (by decide)).1
  have c4 := (hv 4 (by decide)).1
  have c5 := (hv 5 (by decide)).1
  have z0 := (hv 0 (by decide)).2
  have z1 := (hv 1 (by decide)).2
  have z2 := (hv 2 (by decide)).2
  have z3 := (hv 3 (by decide)).2
  have z4 := (hv 4 (by decide)).2
  have z5 := (hv 5 (by decide)).2
  rw [h.z]
  unfold pairsP
  rw [hp2]
  rcases f0_letters y.L (letterK_mem h.L) hf with ⟨p, hh, h5⟩ | ⟨p, hh, h5⟩ | ⟨p, hh, h5⟩ | ⟨p, hh, h5⟩ | ⟨p, hh, h5⟩
  all_goals
    rw [hh] at hp1 ⊢
    rw [hk] at h5
    rw [p] at z0 z1 z2 z3 z4 z5
  · rw [if_neg h5] at hw
    match ps, hp1 with
    | [p0, p1], _ =>
      simp [numsD, numD, coordP, numT, c0, c1, Sg.set]
      exact seg_eq hk rfl rfl (by omega) (by omega) (by omega) (by omega) hw.symm
  · rw [if_neg h5] at hw
    match ps, hp1 with
    | [p0, p1, p2, p3], _ =>
      simp [numsD, numD, coordP, numT, c0, c1, c2, c3, Sg.set]
      exact seg_eq hk rfl rfl rfl rfl (by omega) (by omega) hw.symm
  · rw [if_neg h5] at hw
    match ps, hp1 with
    | [p0, p1, p2, p3, p4, p5], _ =>
      simp [numsD, numD, coordP, numT, c0, c1, c2, c3, c4, c5, Sg.set]
      exact seg_eq hk rfl rfl rfl rfl rfl rfl hw.symm
  · rw [if_pos h5] at hw
    match ps, hp1 with
    | [p0, p1, p2, p3, p4], _ =>
      simp [numsD, numD, coordP, numT, c0, c1, c2, c3, Sg.set, hw]
      exact seg_eq hk rfl rfl rfl rfl (by omega) (by omega) rfl
  · rw [if_neg h5] at hw
    match ps, hp1 with
    | [], _ =>
      simp [numsD]
      exact seg_eq hk (by omega) (by omega) (by omega) (by omega) (by omega) (by omega) hw.symm
theorem draws_all : ∀ (r : List Sg) (ys : List Pa) (P : Pn), (∀ s ∈ r, goodS s = true) → ReadsAll r ys → P.l.length + r.length ≤ 4096 → ∃ P', drawsP P ys = .ok P' ∧ P'.l = P.l ++ r
  | [], [], P, _, _, _ => ⟨P, rfl, by simp⟩
  | [], y :: ys, P, _, h, _ => by cases h
  | s :: r, [], P, _, h, _ => by cases h
  | s :: r, y :: ys, P, hg, h, hm => by
    obtain ⟨h1, h2⟩ := h
    have hf := (k_kind h1.L).2
    have hF : firstP P y.L = (0, 0) := by unfold firstP; rw [if_pos hf]
    have hd : drawP P y = .ok (moveP { P with l := P.l ++ [s] } s y.L.p) := by
      unfold drawP seg0
      rw [if_neg (by simp at hm; omega), hF]
      simp only
      rw [draws_nums (hg s List.mem_cons_self) h1]
      rfl
    obtain ⟨P', h3, h4⟩ := draws_all r ys (moveP { P with l := P.l ++ [s] } s y.L.p) (fun x hx => hg x (List.mem_cons_of_mem _ hx)) h2 (by rw [moveP_l]; simp at hm ⊢; omega)
    refine ⟨P', ?_, ?_⟩
    · rw [drawsP, hd]; exact h3
    · rw [h4, moveP_l]; simp
/-- A good path's text's path is it. -/
theorem of_text {l : List Sg} (hg : goodL l = true) : ofP (textP l) = .ok l := by
  obtain ⟨hm, hl⟩ := goodL_mem hg
  obtain ⟨ts, h1, h2⟩ := cut_textP hm
  obtain ⟨ys, h3, h4⟩ := readP_text hg h2 ((textP l).length : Int)
  obtain ⟨P, h5, h6⟩ := draws_all l ys pen0 hm h4 (by simpa [pen0] using hl)
  unfold ofP
  rw [h1]
  simp only
  unfold parseP
  rw [h3]
  simp only
  rw [h5]
  simp only
  rw [h6]
  rfl
end Go.Proofs.YtnapannphldglaaDoor
