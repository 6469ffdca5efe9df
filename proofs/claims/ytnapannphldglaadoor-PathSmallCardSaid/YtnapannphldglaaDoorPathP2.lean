/- The mathematics of texts of paths: what is read is drawn, part by part. -/
import Derived.Test.YtnapannphldglaaDoorPathP1
namespace Go.Proofs.YtnapannphldglaaDoor
open Go Go.RowKit

def numV (sm : Bool) (P : Pn) (c : Nat) (n : Int) (s : Sg) : Option Sg :=
  if c = 119 then (if isW n then some { s with w := n } else none)
  else if isC (coordP P n (((c - 48 : Nat) : Int) % 2) sm) then some (s.set (c - 48) (coordP P n (((c - 48 : Nat) : Int) % 2) sm)) else none
def numsV (sm : Bool) (P : Pn) (s : Sg) : List (UInt8 × Int) → Option Sg
  | [] => some s
  | x :: r => match numV sm P x.1.toNat x.2 s with
    | none => none
    | some s' => numsV sm P s' r
theorem numsV_D {sm : Bool} {P : Pn} : ∀ (l : List UInt8) (ns : List Nm) (s s' : Sg), numsV sm P s (l.zip (ns.map (·.n))) = some s' → numsD sm P s (l.zip ns) = .ok s'
  | [], ns, s, s', h => by cases h; rfl
  | c :: l, [], s, s', h => by cases h; rfl
  | c :: l, n :: ns, s, s', h => by
    rw [List.map_cons, List.zip_cons_cons, numsV] at h
    rw [List.zip_cons_cons, numsD]
    simp only at h ⊢
    have hd : ∀ s1, numV sm P c.toNat n.n s = some s1 → numD sm P c.toNat n s = .ok s1 := by
      intro s1 h1
      unfold numV at h1
      unfold numD
      split at h1
      · rename_i h2
        rw [if_pos h2]
        split at h1
        · rename_i h3; cases h1; rw [if_pos h3]
        · cases h1
      · rename_i h2
        rw [if_neg h2]
        split at h1
        · rename_i h3; cases h1; rw [if_pos h3]
        · cases h1
    cases hn : numV sm P c.toNat n.n s with
    | none => rw [hn] at h; cases h
    | some s1 =>
      rw [hn] at h
      rw [hd s1 hn]
      exact numsV_D l ns s1 s' h
theorem drawP_of {P : Pn} {y : Pa} {x : Lt} {vs : List Int} {s : Sg} {sm : Bool} (hL : y.L = x) (hs : y.s = sm) (hn : y.ns.map (·.n) = vs) (hl : P.l.length < 4096) (h1 : isC (firstP P x).1 = true) (h2 : isC (firstP P x).2 = true)
    (hv : numsV sm P ⟨x.k, (firstP P x).1, (firstP P x).2, 0, 0, 0, 0, 0⟩ (x.h.data.toList.zip vs) = some s) : drawP P y = .ok (moveP { P with l := P.l ++ [s] } s x.p) := by
  subst hL hs hn
  have := numsV_D _ _ _ _ hv
  unfold drawP seg0 pairsP
  rw [if_neg (by omega), h1, h2]
  simp only [Bool.and_self, if_true]
  rw [this]
/-- A letter with its numbers, read and drawn. -/
theorem go_rd {Q : RSt → Prop} {r : List UInt8} (hr : noD r) {qs : List Gn} {L : List Pa} {y : Pa} {p : Nat} (c : UInt8) (x : Lt) {P P' : Pn} (hP : drawsP pen0 L = .ok P) (hc : isL c = true) (hx : letterOf (greatB c.toNat) = some x) (hk : lacks y = false) (hf : followsK y x.k = true) (hl : qs.length = x.h.size) (ho : gnOk qs) (hs : gnSep qs.tail) (hm : L.length ≤ 4095)
    (hd : ∀ y' : Pa, y'.L = x → y'.s = isSm c.toNat → y'.ns.map (·.n) = qs.map (·.2) → drawP P y' = .ok P')
    (hq : ∀ (L' : List Pa) (y' : Pa), y'.L = x → y'.s = isSm c.toNat → lacks y' = false → L'.length = L.length + 1 → drawsP pen0 L' = .ok P' → ∀ p', RdTo (L', y') p' r Q) : RdTo (L, y) p (c :: (gnB qs ++ r)) Q :=
  part_rd hr hc hx hk hf hl ho hs hm fun y' h1 h2 h3 p' => hq _ y' h1 h2 (by
    have h4 := congrArg List.length h3
    simp at h4
    simp [lacks, h1, h4, hl]) (by simp) (drawsP_snoc hP (hd y' h1 h2 h3)) p'
/-- Numbers that come again, read and drawn. -/
theorem go_ag {Q : RSt → Prop} {r : List UInt8} (hr : noD r) {qs : List Gn} {L : List Pa} {y : Pa} {p : Nat} (x : Lt) {P P' : Pn} (hP : drawsP pen0 L = .ok P) (hx : letterOf y.L.a = some x) (hk : lacks y = false) (hl : qs.length = x.h.size) (hn : qs ≠ []) (ho : gnOk qs) (hs : gnSep qs.tail) (hm : L.length ≤ 4095)
    (hd : ∀ y' : Pa, y'.L = x → y'.s = y.s → y'.ns.map (·.n) = qs.map (·.2) → drawP P y' = .ok P')
    (hq : ∀ (L' : List Pa) (y' : Pa), y'.L = x → y'.s = y.s → lacks y' = false → L'.length = L.length + 1 → drawsP pen0 L' = .ok P' → ∀ p', RdTo (L', y') p' r Q) : RdTo (L, y) p (gnB qs ++ r) Q :=
  again_rd hr hx hk hl hn ho hs hm fun y' h1 h2 h3 p' => hq _ y' h1 h2 (by
    have h4 := congrArg List.length h3
    simp at h4
    simp [lacks, h1, h4, hl]) (by simp) (drawsP_snoc hP (hd y' h1 h2 h3)) p'
theorem rd_end {L : List Pa} {y : Pa} {p : Nat} {P : Pn} {l : List Sg} (hP : drawsP pen0 L = .ok P) (hk : lacks y = false) (h0 : ¬ y.L.k = 0) (hl : P.l = l) : RdTo (L, y) p [] (Drawn l) := ⟨_, ⟨hk, h0, P, hP, hl⟩, RdOk.nil _ _⟩

/-! ### A path in small letters -/
def relT (P : Pn) (s : Sg) (c : UInt8) : Int := if c.toNat = 119 then s.w else s.get (c.toNat - 48) - (if (c.toNat - 48) % 2 = 0 then P.a else P.b)
def smQ (P : Pn) (s : Sg) : List Gn := match letterK s.k with
  | some x => x.h.data.toList.map fun c => (if c.toNat = 119 then [] else [32], relT P s c)
  | none => []
def smB (k : Int) : UInt8 := if k = 1 then 109 else if k = 2 then 108 else if k = 3 then 113 else if k = 4 then 99 else if k = 5 then 107 else if k = 6 then 122 else 63
def stepS (P : Pn) (s : Sg) : Pn := moveP { P with l := P.l ++ [s] } s (match letterK s.k with
  | some x => x.p
  | none => 0)
def smP (P : Pn) (s : Sg) : List UInt8 := smB s.k :: gnB (smQ P s)
def pens (P : Pn) (l : List Sg) : Pn := l.foldl stepS P
def smallT (P : Pn) : List Sg → List UInt8
  | [] => []
  | s :: r => smP P s ++ smallT (stepS P s) r
theorem pens_snoc (P : Pn) (l : List Sg) (s : Sg) : pens P (l ++ [s]) = stepS (pens P l) s := by simp [pens]
theorem smallT_snoc : ∀ (l : List Sg) (P : Pn) (s : Sg), smallT P (l ++ [s]) = smallT P l ++ smP (pens P l) s
  | [], P, s => by simp [smallT, pens]
  | t :: l, P, s => by
    rw [List.cons_append, smallT, smallT, smallT_snoc l (stepS P t) s, List.append_assoc]; rfl
theorem stepS_l (P : Pn) (s : Sg) : (stepS P s).l = P.l ++ [s] := by unfold stepS; rw [moveP_l]
theorem sm_letters : ∀ x ∈ ltT, x.f = 0 → isL (smB x.k) = true ∧ (letterOf (greatB (smB x.k).toNat)).map (·.n) = some x.n ∧ isSm (smB x.k).toNat = true ∧ isD (smB x.k) = false := by decide
theorem sm_of {k : Int} {x : Lt} (h : letterK k = some x) : isL (smB k) = true ∧ letterOf (greatB (smB k).toNat) = some x ∧ isSm (smB k).toNat = true ∧ isD (smB k) = false := by
  obtain ⟨h1, h2⟩ := k_kind h
  subst h1
  obtain ⟨a, b, c, d⟩ := sm_letters x (letterK_mem h) h2
  refine ⟨a, ?_, c, d⟩
  cases hy : letterOf (greatB (smB x.k).toNat) with
  | none => rw [hy] at b; cases b
  | some y =>
    rw [hy] at b
    have hn : y.n = x.n := by simpa using b
    rw [lt_ext hn (name_inj y (letterOf_mem hy) x (letterK_mem h) hn)]
theorem smallT_noD {r : List Sg} (h : ∀ s ∈ r, goodS s = true) (P : Pn) : noD (smallT P r) := by
  cases r with
  | nil => exact noD.nil
  | cons s r =>
    obtain ⟨x, hx⟩ := goodS_letter (h s List.mem_cons_self)
    exact noD.cons (sm_of hx).2.2.2
theorem add_back (a b : Int) : a + (b - a) = b := by omega
theorem small_nums {s : Sg} {x : Lt} {P : Pn} (hg : goodS s = true) (hx : letterK s.k = some x) : numsV true P ⟨x.k, 0, 0, 0, 0, 0, 0, 0⟩ (x.h.data.toList.zip ((smQ P s).map (·.2))) = some s := by
  obtain ⟨hk, hf⟩ := k_kind hx
  obtain ⟨hv, hw⟩ := goodS_v hx hg
  have c0 := (hv 0 (by decide)).1
  have c1 := (hv 1 (by decide)).1
  have c2 := (hv 2 (by decide)).1
  have c3 := (hv 3 (by decide)).1
  have c4 := (hv 4 (by decide)).1
  have c5 := (hv 5 (by decide)).1
  have z0 := (hv 0 (by decide)).2
  have z1 := (hv 1 (by decide)).2
  have z2 := (hv 2 (by decide)).2
  have z3 := (hv 3 (by decide)).2
  have z4 := (hv 4 (by decide)).2
  have z5 := (hv 5 (by decide)).2
  have e : (smQ P s).map (·.2) = x.h.data.toList.map (relT P s) := by unfold smQ; rw [hx]; simp
  rw [e]
  rcases f0_letters x (letterK_mem hx) hf with ⟨p, hh, h5⟩ | ⟨p, hh, h5⟩ | ⟨p, hh, h5⟩ | ⟨p, hh, h5⟩ | ⟨p, hh, h5⟩
  all_goals
    rw [hh]
    rw [hk] at h5
    rw [p] at z0 z1 z2 z3 z4 z5
  · rw [if_neg h5] at hw
    simp [numsV, numV, coordP, relT, add_back, c0, c1, Sg.set]
    exact seg_eq hk rfl rfl (by omega) (by omega) (by omega) (by omega) hw.symm
  · rw [if_neg h5] at hw
    simp [numsV, numV, coordP, relT, add_back, c0, c1, c2, c3, Sg.set]
    exact seg_eq hk rfl rfl rfl rfl (by omega) (by omega) hw.symm
  · rw [if_neg h5] at hw
    simp [numsV, numV, coordP, relT, add_back, c0, c1, c2, c3, c4, c5, Sg.set]
    exact seg_eq hk rfl rfl rfl rfl rfl rfl hw.symm
  · rw [if_pos h5] at hw
    simp [numsV, numV, coordP, relT, add_back, c0, c1, c2, c3, Sg.set, hw]
    exact seg_eq hk rfl rfl rfl rfl (by omega) (by omega) rfl
  · rw [if_neg h5] at hw
    simp [numsV]
    exact seg_eq hk (by omega) (by omega) (by omega) (by omega) (by omega) (by omega) hw.symm
theorem hs_sep : ∀ x ∈ ltT, x.f = 0 → ∀ c ∈ x.h.data.toList.tail, ¬ c.toNat = 119 := by decide
theorem smQ_sep {s : Sg} (P : Pn) : gnSep (smQ P s).tail := by
  unfold smQ
  cases hx : letterK s.k with
  | none => intro q hq; cases hq
  | some x =>
    obtain ⟨hk, hf⟩ := k_kind hx
    intro q hq
    simp only [← List.map_tail] at hq
    obtain ⟨c, hc, rfl⟩ := List.mem_map.1 hq
    simp [hs_sep x (letterK_mem hx) hf c hc]
theorem smQ_ok {s : Sg} {P : Pn} (hg : goodS s = true) (ha : inC P.a) (hb : inC P.b) : gnOk (smQ P s) := by
  unfold smQ
  obtain ⟨x, hx⟩ := goodS_letter hg
  rw [hx]
  obtain ⟨hv, hw⟩ := goodS_v hx hg
  intro q hq
  obtain ⟨c, _, rfl⟩ := List.mem_map.1 hq
  refine ⟨fun d hd => ?_, ?_⟩
  · simp only at hd
    split at hd
    · cases hd
    · rw [List.mem_singleton.1 hd]; decide
  · show bd62 (relT P s c)
    unfold bd62 relT
    unfold inC at ha hb
    split
    · split at hw
      · have := isW_iff.1 hw; omega
      · rw [hw]; decide
    · have hg : ∀ j, -4611686018 ≤ s.get j ∧ s.get j ≤ 4611686018 := fun j => by
        rcases Nat.lt_or_ge j 6 with q | q
        · have := isC_iff.1 (hv j q).1; unfold inC at this; omega
        · have e : s.get j = s.get 5 := by
            match j, q with
            | j + 6, _ => rfl
          have := isC_iff.1 (hv 5 (by decide)).1
          unfold inC at this
          rw [e]; omega
      have := hg (c.toNat - 48)
      split <;> omega
theorem stepS_ok {P : Pn} {s : Sg} (hP : inC P.a ∧ inC P.b ∧ inC P.c ∧ inC P.d) (hg : goodS s = true) : inC (stepS P s).a ∧ inC (stepS P s).b ∧ inC (stepS P s).c ∧ inC (stepS P s).d := by
  obtain ⟨x, hx⟩ := goodS_letter hg
  obtain ⟨hv, _⟩ := goodS_v hx hg
  have hj : ∀ j, inC (s.get j) := fun j => by
    rcases Nat.lt_or_ge j 6 with q | q
    · exact isC_iff.1 (hv j q).1
    · have e : s.get j = s.get 5 := by
        match j, q with
        | j + 6, _ => rfl
      rw [e]; exact isC_iff.1 (hv 5 (by decide)).1
  unfold stepS moveP
  split
  · exact ⟨hP.2.2.1, hP.2.2.2, hP.2.2.1, hP.2.2.2⟩
  · split
    · exact ⟨hj _, hj _, hj _, hj _⟩
    · exact ⟨hj _, hj _, hP.2.2.1, hP.2.2.2⟩
theorem small_rd : ∀ (r : List Sg) (L : List Pa) (y : Pa) (p : Nat) (P : Pn) (a : Int) (l : List Sg), goodF a r = true → lacks y = false → (y.L.k = 0 → r ≠ [] ∧ ∀ s, r.head? = some s → s.k = 1) → y.L.k = a → L.length + r.length ≤ 4096 → drawsP pen0 L = .ok P → P.l = l.take L.length → P.l.length = L.length → P.l ++ r = l → (inC P.a ∧ inC P.b ∧ inC P.c ∧ inC P.d) →
    RdTo (L, y) p (smallT P r) (Drawn l)
  | [], L, y, p, P, a, l, _, hk, h0, _, _, hP, _, _, hl, _ => rd_end hP hk (fun e => (h0 e).1 rfl) (by simpa using hl)
  | s :: r, L, y, p, P, a, l, hg, hk, h0, ha, hm, hP, ht, hn, hl, hi => by
    rw [goodF, Bool.and_eq_true, Bool.and_eq_true] at hg
    obtain ⟨⟨hgs, hz⟩, hgr⟩ := hg
    obtain ⟨x, hx⟩ := goodS_letter hgs
    obtain ⟨hxk, hxf⟩ := k_kind hx
    obtain ⟨m1, m2, m3, m4⟩ := sm_of hx
    have hF : firstP P x = (0, 0) := by unfold firstP; rw [if_pos hxf]
    have hf : followsK y x.k = true := by
      unfold followsK
      rw [hxk]
      by_cases hy0 : y.L.k = 0
      · rw [if_pos hy0]; exact decide_eq_true ((h0 hy0).2 s rfl)
      · rw [if_neg hy0, ha]
        cases h6 : decide (s.k = 6) <;> cases h7 : decide (a = 6) <;> simp_all
    have hst : stepS P s = moveP { P with l := P.l ++ [s] } s x.p := by unfold stepS; rw [hx]
    show RdTo (L, y) p (smB s.k :: (gnB (smQ P s) ++ smallT (stepS P s) r)) (Drawn l)
    have hlen : (smQ P s).length = x.h.size := by unfold smQ; rw [hx]; simp
    refine go_rd (smallT_noD (goodF_mem hgr) _) (smB s.k) x hP m1 m2 hk hf hlen (smQ_ok hgs hi.1 hi.2.1) (smQ_sep P) (by simp at hm; omega) (P' := stepS P s) (fun y' h1 h2 h3 => ?_) fun L' y' h1 _ h3 h4 h5 p' => ?_
    · rw [hst]
      refine drawP_of h1 (h2.trans m3) h3 (by simp at hm; omega) (by rw [hF]; decide) (by rw [hF]; decide) ?_
      rw [hF]
      exact small_nums hgs hx
    · have hk0 : ¬ x.k = 0 := by
        have h3 : ∀ x ∈ ltT, ¬ x.k = 0 := by decide
        exact h3 _ (letterK_mem hx)
      have e1 : (stepS P s).l ++ r = l := by rw [stepS_l, List.append_assoc]; exact hl
      have e2 : (stepS P s).l.length = L'.length := by rw [stepS_l, List.length_append, hn, h4]; rfl
      exact small_rd r L' y' p' (stepS P s) s.k l hgr h3 (fun e => absurd (h1 ▸ e) hk0) (by rw [h1, hxk]) (by simp at hm ⊢; omega) h5 (by rw [← e1, ← e2, List.take_left']; rfl) e2 e1 (stepS_ok hi hgs)
/-- A path in small letters is it. -/
theorem of_small {l : List Sg} (hg : goodL l = true) : ofP (smallT pen0 l) = .ok l := by
  refine ofP_rd ?_
  cases l with
  | nil => cases hg
  | cons s r =>
    have eg : goodL (s :: r) = (decide ((s :: r).length ≤ 4096) && decide (s.k = 1) && goodF 0 (s :: r)) := rfl
    rw [eg, Bool.and_eq_true, Bool.and_eq_true] at hg
    exact small_rd (s :: r) [] pa0 0 pen0 0 (s :: r) hg.2 rfl (fun _ => ⟨by simp, fun q hq => by cases hq; exact of_decide_eq_true hg.1.2⟩) rfl (by simpa using of_decide_eq_true hg.1.1) rfl rfl rfl rfl ⟨inC_0, inC_0, inC_0, inC_0⟩
end Go.Proofs.YtnapannphldglaaDoor
