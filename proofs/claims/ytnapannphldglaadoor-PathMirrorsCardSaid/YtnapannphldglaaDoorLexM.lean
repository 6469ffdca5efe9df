/- The mathematics of tokens: what bytes are as tokens, by their first bytes; pieces, one behind the other, and what they come to. -/
import Derived.Lib.Hide
namespace Go.Proofs.YtnapannphldglaaDoor

def isL (c : UInt8) : Bool := (decide (97 ≤ c.toNat) && decide (c.toNat ≤ 122)) || (decide (65 ≤ c.toNat) && decide (c.toNat ≤ 90))
def isD (c : UInt8) : Bool := decide (48 ≤ c.toNat) && decide (c.toNat ≤ 57)
def isP (c : UInt8) : Bool := decide (c.toNat = 32) || decide (c.toNat = 44)
theorem isL_iff {c : UInt8} : isL c = true ↔ (97 ≤ c.toNat ∧ c.toNat ≤ 122) ∨ (65 ≤ c.toNat ∧ c.toNat ≤ 90) := by simp [isL]
theorem isD_iff {c : UInt8} : isD c = true ↔ 48 ≤ c.toNat ∧ c.toNat ≤ 57 := by simp [isD]
theorem isP_iff {c : UInt8} : isP c = true ↔ c.toNat = 32 ∨ c.toNat = 44 := by simp [isP]
theorem isL_no {c : UInt8} : isL c = false ↔ ¬ ((97 ≤ c.toNat ∧ c.toNat ≤ 122) ∨ (65 ≤ c.toNat ∧ c.toNat ≤ 90)) := by rw [← isL_iff]; simp
theorem isD_no {c : UInt8} : isD c = false ↔ ¬ (48 ≤ c.toNat ∧ c.toNat ≤ 57) := by rw [← isD_iff]; simp
theorem isP_no {c : UInt8} : isP c = false ↔ ¬ (c.toNat = 32 ∨ c.toNat = 44) := by rw [← isP_iff]; simp

/-- A token: its kind, its bytes, its number, its place. -/
structure Tk where
  k : Int
  s : List UInt8
  n : Int
  p : Nat

def lrun (q : UInt8 → Bool) : List UInt8 → Nat
  | [] => 0
  | c :: r => if q c then lrun q r + 1 else 0
theorem lrun_le (q : UInt8 → Bool) : ∀ l : List UInt8, lrun q l ≤ l.length
  | [] => Nat.le_refl _
  | c :: r => by
    have := lrun_le q r
    unfold lrun
    split <;> simp <;> omega
theorem lrun_app (q : UInt8 → Bool) (d : UInt8) (hd : q d = false) (t : List UInt8) : ∀ l : List UInt8, lrun q (l ++ d :: t) = lrun q l
  | [] => by simp [lrun, hd]
  | c :: r => by
    have := lrun_app q d hd t r
    simp only [List.cons_append, lrun]
    rw [this]
/-- As far as it goes, all are; the next one is not. -/
theorem lrun_all (q : UInt8 → Bool) : ∀ (l : List UInt8), ∀ x ∈ l.take (lrun q l), q x = true
  | [], x, h => by simp at h
  | c :: r, x, h => by
    unfold lrun at h
    split at h
    · rename_i hc
      rw [List.take_succ_cons] at h
      rcases List.mem_cons.1 h with rfl | h
      · exact hc
      · exact lrun_all q r x h
    · simp at h
theorem lrun_ends (q : UInt8 → Bool) : ∀ (l : List UInt8) (m : Nat), (∀ x ∈ l.take m, q x = true) → (∀ x, l[m]? = some x → q x = false) → m ≤ l.length → lrun q l = m
  | [], m, _, _, h => by simp at h; simp [lrun, h]
  | c :: r, 0, _, h, _ => by simp [lrun, h c rfl]
  | c :: r, m + 1, h1, h2, h3 => by
    have hc : q c = true := h1 c (by simp)
    have := lrun_ends q r m (fun x hx => h1 x (by rw [List.take_succ_cons]; exact List.mem_cons_of_mem _ hx)) (fun x hx => h2 x (by simpa using hx)) (by simpa using h3)
    simp [lrun, hc, this]
theorem lrun_full (q : UInt8 → Bool) : ∀ (l : List UInt8), (∀ x ∈ l, q x = true) → lrun q l = l.length
  | [], _ => rfl
  | c :: r, h => by
    have hc : q c = true := h c (by simp)
    have := lrun_full q r (fun x hx => h x (List.mem_cons_of_mem _ hx))
    simp [lrun, hc, this]

/-- 2 to the 62. -/
def mst : Nat := 4611686018427387904
def lval (l : List UInt8) : Nat := l.foldl (fun n c => 10 * n + (c.toNat - 48)) 0
def cap62 (n : Nat) : Nat := if n ≤ mst then n else mst
theorem lval_snoc (l : List UInt8) (c : UInt8) : lval (l ++ [c]) = 10 * lval l + (c.toNat - 48) := by unfold lval; rw [List.foldl_append]; rfl
theorem foldl_ge (l : List UInt8) : ∀ n : Nat, n ≤ l.foldl (fun n c => 10 * n + (c.toNat - 48)) n := by
  induction l with
  | nil => intro n; exact Nat.le_refl _
  | cons c r ih => intro n; rw [List.foldl_cons]; exact Nat.le_trans (by omega) (ih (10 * n + (c.toNat - 48)))
theorem lval_take (l : List UInt8) (k : Nat) : lval (l.take k) ≤ lval l := by
  conv => rhs; rw [← List.take_append_drop k l]
  unfold lval
  rw [List.foldl_append]
  exact foldl_ge _ _
theorem cap62_small {n : Nat} (h : n ≤ mst) : cap62 n = n := if_pos h
theorem cap62_big {n : Nat} (h : mst ≤ n) : cap62 n = mst := by
  unfold cap62
  split
  · omega
  · rfl
theorem cap62_le (n : Nat) : cap62 n ≤ mst := by
  unfold cap62
  split <;> omega

def tkW (s : List UInt8) (a : Nat) : Tk := ⟨1, s, 0, a⟩
def tkN (n : Int) (a : Nat) : Tk := ⟨2, [], n, a⟩
def tkE (a : Nat) : Tk := ⟨3, [], 0, a⟩

/-- What the first bytes are: how many more than one, and the token, if they are one; none: no token begins so. -/
def firstT (a : Nat) (c : UInt8) (r : List UInt8) : Option (Nat × List Tk) :=
  if isP c then some (0, [])
  else if isL c then some (lrun isL r, [tkW (c :: r.take (lrun isL r)) a])
  else if isD c then some (lrun isD r, [tkN (cap62 (lval (c :: r.take (lrun isD r)))) a])
  else if c.toNat = 45 then (if lrun isD r = 0 then none else some (lrun isD r, [tkN (-(cap62 (lval (r.take (lrun isD r))) : Int)) a]))
  else if c.toNat = 10 then some (0, [tkE a])
  else none

def lcutF : Nat → Nat → List UInt8 → Except Nat (List Tk)
  | _, _, [] => .ok []
  | 0, _, _ :: _ => .ok []
  | f + 1, a, c :: r => match firstT a c r with
    | none => .error a
    | some (m, t) => (lcutF f (a + 1 + m) (r.drop m)).map (t ++ ·)
def lcut (a : Nat) (l : List UInt8) : Except Nat (List Tk) := lcutF l.length a l

theorem lcutF_eq (f : Nat) : ∀ (a : Nat) (l : List UInt8), l.length ≤ f → lcutF f a l = lcutF l.length a l := by
  induction f using Nat.strongRecOn with
  | _ f ih =>
    intro a l h
    cases l with
    | nil => cases f <;> rfl
    | cons c r =>
      cases f with
      | zero => simp at h
      | succ f =>
        simp only [List.length_cons] at h ⊢
        unfold lcutF
        cases firstT a c r with
        | none => rfl
        | some x =>
          obtain ⟨m, t⟩ := x
          simp only
          have hl : (r.drop m).length ≤ r.length := by simp
          rw [ih f (by omega) _ _ (by omega)]
          by_cases hr : r.length = f
          · rw [hr, ih f (by omega) _ _ (by omega)]
          · rw [ih r.length (by omega) _ (r.drop m) hl]
theorem lcut_nil (a : Nat) : lcut a [] = .ok [] := rfl
theorem lcut_cons (a : Nat) (c : UInt8) (r : List UInt8) : lcut a (c :: r) = match firstT a c r with
    | none => .error a
    | some (m, t) => (lcut (a + 1 + m) (r.drop m)).map (t ++ ·) := by
  unfold lcut
  rw [List.length_cons]
  conv => lhs; unfold lcutF
  cases firstT a c r with
  | none => rfl
  | some x =>
    obtain ⟨m, t⟩ := x
    simp only
    rw [lcutF_eq _ _ _ (by simp)]
theorem emap_map (x : Except Nat (List Tk)) (t u : List Tk) : (x.map (u ++ ·)).map (t ++ ·) = x.map ((t ++ u) ++ ·) := by
  cases x <;> simp [Except.map]
theorem emap_nil (x : Except Nat (List Tk)) : x.map ([] ++ ·) = x := by cases x <;> simp [Except.map]

/-! ### Pieces -/

def lext (c : UInt8) (r : List UInt8) : Nat := if isL c then lrun isL r else if isD c || decide (c.toNat = 45) then lrun isD r else 0
inductive Pcs (l : List UInt8) : Nat → List (Nat × List UInt8) → Prop
  | nil : Pcs l 0 []
  | snoc {k : Nat} {pre : List (Nat × List UInt8)} {c : UInt8} {r : List UInt8} {m : Nat} : Pcs l k pre → l.drop k = c :: r → m ≤ r.length → (c.toNat < 128 → m = lext c r) → Pcs l (k + 1 + m) (pre ++ [(k, c :: r.take m)])
theorem Pcs.le {l : List UInt8} {k : Nat} {pre : List (Nat × List UInt8)} (h : Pcs l k pre) : k ≤ l.length ∧ pre.length ≤ k := by
  induction h with
  | nil => simp
  | snoc h hd hm _ ih =>
    have := congrArg List.length hd
    simp at this ⊢
    omega

def tokOf (a : Nat) : List UInt8 → Option (List Tk)
  | [] => none
  | c :: r =>
    if isP c then some []
    else if isL c then some [tkW (c :: r) a]
    else if isD c then some [tkN (cap62 (lval (c :: r))) a]
    else if c.toNat = 45 then (if r.length = 0 then none else some [tkN (-(cap62 (lval r) : Int)) a])
    else if c.toNat = 10 then some [tkE a]
    else none
theorem first_tok {a : Nat} {c : UInt8} {r : List UInt8} {m : Nat} (hm : m ≤ r.length) (h : c.toNat < 128 → m = lext c r) :
    firstT a c r = (tokOf a (c :: r.take m)).map (fun t => (m, t)) := by
  unfold firstT tokOf
  by_cases h1 : isP c = true
  · have h1' := isP_iff.1 h1
    have hl : isL c = false := isL_no.2 (by omega)
    have hd : isD c = false := isD_no.2 (by omega)
    have := h (by omega)
    simp only [lext, hl, hd, show decide (c.toNat = 45) = false from decide_eq_false (by omega)] at this
    simp at this
    simp [h1, this]
  · by_cases h2 : isL c = true
    · have := h (by have := isL_iff.1 h2; omega)
      simp only [lext, h2, if_true] at this
      simp [h1, h2, this]
    · by_cases h3 : isD c = true
      · have := h (by have := isD_iff.1 h3; omega)
        simp [lext, h2, h3] at this
        simp [h1, h2, h3, this]
      · by_cases h4 : c.toNat = 45
        · have := h (by omega)
          simp [lext, h2, h3, h4] at this
          have hz : (r.take m).length = m := List.length_take_of_le hm
          simp only [h1, h2, h3, h4, hz, if_true]
          rw [← this]
          by_cases hm0 : m = 0 <;> simp [hm0]
        · by_cases h5 : c.toNat = 10
          · have := h (by omega)
            simp [lext, h2, h3, h5] at this
            simp [h1, h2, h3, h5, this]
          · simp [h1, h2, h3, h4, h5]

def lscanS (acc : Except Nat (List Tk)) (x : Nat × List UInt8) : Except Nat (List Tk) := match acc with
  | .error p => .error p
  | .ok ts => match tokOf x.1 x.2 with
    | none => .error x.1
    | some t => .ok (ts ++ t)
def lscan (pre : List (Nat × List UInt8)) : Except Nat (List Tk) := pre.foldl lscanS (.ok [])
theorem lscan_nil : lscan [] = .ok [] := rfl
theorem lscan_snoc (pre : List (Nat × List UInt8)) (x : Nat × List UInt8) : lscan (pre ++ [x]) = lscanS (lscan pre) x := by unfold lscan; rw [List.foldl_append]; rfl
theorem pcs_scan {l : List UInt8} {k : Nat} {pre : List (Nat × List UInt8)} (h : Pcs l k pre) :
    match lscan pre with
    | .error p => lcut 0 l = .error p
    | .ok ts => lcut 0 l = (lcut k (l.drop k)).map (ts ++ ·) := by
  induction h with
  | nil => rw [lscan_nil]; simp only [List.drop_zero]; rw [emap_nil]
  | @snoc k pre c r m h hd hm h1 ih =>
    rw [lscan_snoc]
    cases hs : lscan pre with
    | error p => rw [hs] at ih; exact ih
    | ok ts =>
      rw [hs] at ih
      simp only at ih
      rw [hd, lcut_cons, first_tok hm h1] at ih
      have hr : l.drop (k + 1 + m) = r.drop m := by
        rw [show k + 1 + m = k + (1 + m) by omega, ← List.drop_drop, hd, show 1 + m = m + 1 by omega, List.drop_succ_cons]
      unfold lscanS
      simp only
      cases ht : tokOf k (c :: r.take m) with
      | none => rw [ht] at ih; simpa [Except.map] using ih
      | some t =>
        rw [ht] at ih
        simp only [Option.map_some] at ih
        rw [emap_map] at ih
        simp only
        rw [hr]
        exact ih
theorem pcs_error {l : List UInt8} {k p : Nat} {pre : List (Nat × List UInt8)} (h : Pcs l k pre) (hs : lscan pre = .error p) : lcut 0 l = .error p := by
  have := pcs_scan h
  rw [hs] at this
  exact this
theorem pcs_all {l : List UInt8} {pre : List (Nat × List UInt8)} {ts : List Tk} (h : Pcs l l.length pre) (hs : lscan pre = .ok ts) : lcut 0 l = .ok ts := by
  have := pcs_scan h
  rw [hs] at this
  simp only [List.drop_length, lcut_nil] at this
  rw [this]
  simp [Except.map]

/-! ### What runs on -/

/-- The first m of c :: r are of one piece so far; K: the last one's kind (1 a part, 2 a letter, 3 a digit, 4 a minus, 5 an end, 0 none). -/
def kindB (c : UInt8) : Int := if isP c then 1 else if isL c then 2 else if isD c then 3 else if c.toNat = 45 then 4 else if c.toNat = 10 then 5 else 0
def Runs (c : UInt8) (r : List UInt8) (m : Nat) (K : Int) : Prop :=
  m ≤ r.length ∧ (if isL c then K = 2 ∧ ∀ x ∈ r.take m, isL x = true
    else if isD c then K = 3 ∧ ∀ x ∈ r.take m, isD x = true
    else if c.toNat = 45 then (m = 0 ∧ K = 4 ∨ 0 < m ∧ K = 3) ∧ ∀ x ∈ r.take m, isD x = true
    else (c.toNat < 128 → m = 0) ∧ K ≠ 2 ∧ K ≠ 3 ∧ K ≠ 4)
/-- Where no more follows, or what follows does not go on, it is a piece. -/
theorem Runs.ends {c : UInt8} {r : List UInt8} {m : Nat} {K : Int} (h : Runs c r m K) (hn : ∀ x, r[m]? = some x → ¬ (isL x = true ∧ K = 2) ∧ ¬ (isD x = true ∧ (K = 3 ∨ K = 4))) : m ≤ r.length ∧ (c.toNat < 128 → m = lext c r) := by
  obtain ⟨hm, h⟩ := h
  refine ⟨hm, fun h128 => ?_⟩
  unfold lext
  split at h
  · rename_i hl
    rw [if_pos hl]
    refine (lrun_ends _ _ _ h.2 (fun x hx => ?_) hm).symm
    have := (hn x hx).1
    simp [h.1] at this
    exact this
  · rename_i hl
    rw [if_neg hl]
    split at h
    · rename_i hd
      rw [if_pos (by simp [hd])]
      refine (lrun_ends _ _ _ h.2 (fun x hx => ?_) hm).symm
      have := (hn x hx).2
      simp [h.1] at this
      exact this
    · rename_i hd
      split at h
      · rename_i h4
        rw [if_pos (by simp [h4])]
        refine (lrun_ends _ _ _ h.2 (fun x hx => ?_) hm).symm
        have := (hn x hx).2
        rcases h.1 with ⟨_, hk⟩ | ⟨_, hk⟩ <;> · simp [hk] at this; exact this
      · rename_i h4
        rw [if_neg (by simp [hd, h4])]
        exact h.1 h128
theorem Runs.start (c : UInt8) (r : List UInt8) (h : c.toNat < 128) : Runs c r 0 (kindB c) := by
  refine ⟨Nat.zero_le _, ?_⟩
  unfold kindB
  by_cases h1 : isP c = true
  · have h1' := isP_iff.1 h1
    have hl : isL c = false := isL_no.2 (by omega)
    have hd : isD c = false := isD_no.2 (by omega)
    have h4 : ¬ c.toNat = 45 := by omega
    simp [h1, hl, hd, h4]
  · by_cases h2 : isL c = true
    · simp [h1, h2]
    · by_cases h3 : isD c = true
      · simp [h1, h2, h3]
      · by_cases h4 : c.toNat = 45
        · simp [h1, h2, h3, h4]
        · by_cases h5 : c.toNat = 10 <;> simp [h1, h2, h3, h4, h5]
theorem Runs.high (c : UInt8) (r : List UInt8) (h : 128 ≤ c.toNat) (m : Nat) (hm : m ≤ r.length) : Runs c r m 0 := by
  refine ⟨hm, ?_⟩
  have hl : isL c = false := isL_no.2 (by omega)
  have hd : isD c = false := isD_no.2 (by omega)
  have h4 : ¬ c.toNat = 45 := by omega
  simp [hl, hd, h4]
  omega
/-- One more that goes on. -/
theorem Runs.more {c : UInt8} {r : List UInt8} {m : Nat} {K : Int} (h : Runs c r m K) {x : UInt8} (hx : r[m]? = some x) (hg : (isL x = true ∧ K = 2) ∨ (isD x = true ∧ (K = 3 ∨ K = 4))) : Runs c r (m + 1) (kindB x) := by
  obtain ⟨hm, h⟩ := h
  have hlt : m < r.length := (List.getElem?_eq_some_iff.1 hx).1
  have ht : r.take (m + 1) = r.take m ++ [x] := by
    rw [List.take_succ_eq_append_getElem hlt, (List.getElem?_eq_some_iff.1 hx).2]
  have hkl : isL x = true → kindB x = 2 := fun hl => by
    have : isP x = false := isP_no.2 (by have := isL_iff.1 hl; omega)
    simp [kindB, this, hl]
  have hkd : isD x = true → kindB x = 3 := fun hd => by
    have h1 : isP x = false := isP_no.2 (by have := isD_iff.1 hd; omega)
    have h2 : isL x = false := isL_no.2 (by have := isD_iff.1 hd; omega)
    simp [kindB, h1, h2, hd]
  refine ⟨hlt, ?_⟩
  rw [ht]
  split at h
  · rename_i hl
    rw [if_pos hl]
    obtain ⟨hK, ha⟩ := h
    have hxl : isL x = true := by rcases hg with hg | hg; exact hg.1; omega
    exact ⟨hkl hxl, fun y hy => by rcases List.mem_append.1 hy with hy | hy; exact ha y hy; rw [List.mem_singleton.1 hy]; exact hxl⟩
  · rename_i hl
    rw [if_neg hl]
    split at h
    · rename_i hd
      rw [if_pos hd]
      obtain ⟨hK, ha⟩ := h
      have hxd : isD x = true := by rcases hg with hg | hg; omega; exact hg.1
      exact ⟨hkd hxd, fun y hy => by rcases List.mem_append.1 hy with hy | hy; exact ha y hy; rw [List.mem_singleton.1 hy]; exact hxd⟩
    · rename_i hd
      rw [if_neg hd]
      split at h
      · rename_i h4
        rw [if_pos h4]
        obtain ⟨hK, ha⟩ := h
        have hxd : isD x = true := by rcases hg with hg | hg; omega; exact hg.1
        exact ⟨.inr ⟨by omega, hkd hxd⟩, fun y hy => by rcases List.mem_append.1 hy with hy | hy; exact ha y hy; rw [List.mem_singleton.1 hy]; exact hxd⟩
      · omega
end Go.Proofs.YtnapannphldglaaDoor
