/- The mathematics of a path's text: its tokens, its parts, and what they draw: the path again. -/
import Derived.Test.YtnapannphldglaaDoorPathY
namespace Go.Proofs.YtnapannphldglaaDoor
open Go Go.RowKit

inductive Atm
  | W (c : UInt8)
  | N (v : Int)
def Atm.b : Atm → List UInt8
  | .W c => [c]
  | .N v => Lib.itoa v
def Atm.t (p : Nat) : Atm → Tk
  | .W c => tkW [c] p
  | .N v => tkN v p
def Atm.ok : Atm → Prop
  | .W c => isL c = true
  | .N v => -4611686018427387904 ≤ v ∧ v ≤ 4611686018427387904
def Fits : List Atm → List Tk → Prop
  | [], [] => True
  | a :: az, t :: ts => (∃ p, t = a.t p) ∧ Fits az ts
  | _, _ => False
theorem Fits.app : ∀ {az bs : List Atm} {ts : List Tk}, Fits (az ++ bs) ts → ∃ us vs, ts = us ++ vs ∧ Fits az us ∧ Fits bs vs
  | [], bs, ts, h => ⟨[], ts, rfl, trivial, h⟩
  | a :: az, bs, [], h => by cases h
  | a :: az, bs, t :: ts, h => by
    obtain ⟨us, vs, rfl, h1, h2⟩ := Fits.app (az := az) h.2
    exact ⟨t :: us, vs, rfl, ⟨h.1, h1⟩, h2⟩
theorem dec_digits (u : Nat) : (∀ c ∈ Lib.decDigits u, isD c = true) ∧ lval (Lib.decDigits u) = u ∧ Lib.decDigits u ≠ [] := by
  have hb : ∀ d, d < 10 → (UInt8.ofNat (48 + d)).toNat = 48 + d := by decide
  induction u using Nat.strongRecOn with
  | _ u ih =>
    by_cases h : u < 10
    · rw [Lib.decDigits_one h]
      refine ⟨fun c hc => ?_, ?_, by simp⟩
      · rw [List.mem_singleton.1 hc, isD_iff, hb u h]; omega
      · have := lval_snoc [] (UInt8.ofNat (48 + u))
        rw [List.nil_append] at this
        rw [this, hb u h]; simp [lval]
    · have h2 := ih (u / 10) (by omega)
      rw [Lib.decDigits, dif_neg h]
      refine ⟨fun c hc => ?_, ?_, by simp⟩
      · rcases List.mem_append.1 hc with q | q
        · exact h2.1 c q
        · rw [List.mem_singleton.1 q, isD_iff, hb _ (Nat.mod_lt _ (by decide))]; omega
      · rw [lval_snoc, h2.2.1, hb _ (Nat.mod_lt _ (by decide))]; omega
theorem cut_digits {p : Nat} {l : List UInt8} (h : ∀ c ∈ l, isD c = true) (hn : l ≠ []) (hv : lval l ≤ 4611686018427387904) : lcut p l = .ok [tkN (lval l) p] := by
  cases l with
  | nil => exact absurd rfl hn
  | cons c r =>
    have hc := isD_iff.1 (h c List.mem_cons_self)
    have hP : isP c = false := isP_no.2 (by omega)
    have hL : isL c = false := isL_no.2 (by omega)
    have hr : lrun isD r = r.length := lrun_full isD r fun x hx => h x (List.mem_cons_of_mem _ hx)
    rw [lcut_cons]
    unfold firstT
    simp only [hP, hL, h c List.mem_cons_self, hr, List.take_length, if_true, if_false, Bool.false_eq_true, List.drop_length, lcut_nil, Except.map]
    rw [cap62_small (by unfold mst; exact hv)]
    rfl
theorem atom_cut {a : Atm} (h : a.ok) (p : Nat) : lcut p a.b = .ok [a.t p] := by
  cases a with
  | W c =>
    have hc : isL c = true := h
    have hP : isP c = false := isP_no.2 (by have := isL_iff.1 hc; omega)
    show lcut p [c] = _
    rw [lcut_cons]
    unfold firstT
    simp only [hP, hc, if_true, if_false, Bool.false_eq_true, lrun, List.take_nil, List.drop_nil, lcut_nil, Except.map]
    rfl
  | N v =>
    obtain ⟨h1, h2⟩ := h
    show lcut p (Lib.itoa v) = _
    unfold Lib.itoa
    split
    · rename_i hv
      obtain ⟨d1, d2, d3⟩ := dec_digits v.natAbs
      have hP : isP 45 = false := by decide
      have hL : isL 45 = false := by decide
      have hD : isD 45 = false := by decide
      have hr : lrun isD (Lib.decDigits v.natAbs) = (Lib.decDigits v.natAbs).length := lrun_full isD _ d1
      have hz : ¬ (Lib.decDigits v.natAbs).length = 0 := fun e => d3 (List.eq_nil_of_length_eq_zero e)
      rw [lcut_cons]
      unfold firstT
      simp only [hP, hL, hD, hr, hz, List.take_length, if_true, if_false, Bool.false_eq_true, List.drop_length, lcut_nil, Except.map, show (45 : UInt8).toNat = 45 from rfl, d2]
      rw [cap62_small (by unfold mst; omega)]
      simp only [List.append_nil, Atm.t]
      rw [show (-(v.natAbs : Int)) = v by omega]
    · rename_i hv
      obtain ⟨d1, d2, d3⟩ := dec_digits v.toNat
      rw [cut_digits d1 d3 (by omega), d2]
      simp only [Atm.t]
      rw [show ((v.toNat : Nat) : Int) = v by omega]
def textJ : List Atm → List UInt8
  | [] => []
  | a :: r => a.b ++ r.flatMap fun a => 32 :: a.b
theorem cut_front {a : Atm} (h : a.ok) (az : List Atm) (p : Nat) : ∃ q, lcut p (a.b ++ az.flatMap fun a => 32 :: a.b) = (lcut q (az.flatMap fun a => 32 :: a.b)).map ([a.t p] ++ ·) := by
  cases az with
  | nil =>
    refine ⟨0, ?_⟩
    rw [List.flatMap_nil, List.append_nil, atom_cut h, lcut_nil]; rfl
  | cons x r =>
    refine ⟨p + a.b.length, ?_⟩
    rw [List.flatMap_cons, List.cons_append, lcut_app (by decide) _ _ p a.b (Nat.le_refl _), atom_cut h]
theorem cut_tail : ∀ (az : List Atm) (p : Nat), (∀ a ∈ az, a.ok) → ∃ ts, lcut p (az.flatMap fun a => 32 :: a.b) = .ok ts ∧ Fits az ts
  | [], p, _ => ⟨[], rfl, trivial⟩
  | a :: az, p, h => by
    rw [List.flatMap_cons, List.cons_append, lcut_part (by decide)]
    obtain ⟨q, hq⟩ := cut_front (h a List.mem_cons_self) az (p + 1)
    obtain ⟨ts, h1, h2⟩ := cut_tail az q fun x hx => h x (List.mem_cons_of_mem _ hx)
    rw [hq, h1]
    exact ⟨_, rfl, ⟨_, rfl⟩, h2⟩
theorem cut_text : ∀ (az : List Atm), (∀ a ∈ az, a.ok) → ∃ ts, lcut 0 (textJ az) = .ok ts ∧ Fits az ts
  | [], _ => ⟨[], rfl, trivial⟩
  | a :: az, h => by
    obtain ⟨q, hq⟩ := cut_front (h a List.mem_cons_self) az 0
    obtain ⟨ts, h1, h2⟩ := cut_tail az q fun x hx => h x (List.mem_cons_of_mem _ hx)
    show ∃ ts, lcut 0 (a.b ++ _) = _ ∧ _
    rw [hq, h1]
    exact ⟨_, rfl, ⟨_, rfl⟩, h2⟩
/-- A part's letter and numbers. -/
def atX (x : Lt) (s : Sg) : List Atm := .W x.nb :: x.h.data.toList.map fun c => .N (numT s c)
def atS (s : Sg) : List Atm := match letterK s.k with
  | some x => atX x s
  | none => []
theorem numX_at (s : Sg) : ∀ l : List UInt8, numX s l = (l.map fun c => Atm.N (numT s c)).flatMap fun a => 32 :: a.b
  | [] => rfl
  | c :: l => by
    have := numX_at s l
    show (32 :: Lib.itoa (numT s c)) ++ numX s l = _
    rw [this]; rfl
theorem partT_at {s : Sg} (h : goodS s = true) : partT s = textJ (atS s) ∧ 32 :: partT s = (atS s).flatMap fun a => 32 :: a.b := by
  obtain ⟨x, hx⟩ := goodS_letter h
  have e1 : partT s = partX x s := by unfold partT; rw [hx]
  have e2 : atS s = atX x s := by unfold atS; rw [hx]
  rw [e1, e2]
  unfold partX atX
  rw [numX_at]
  exact ⟨rfl, rfl⟩
theorem tail_at : ∀ {r : List Sg}, (∀ s ∈ r, goodS s = true) → (r.flatMap fun s => 32 :: partT s) = (r.flatMap atS).flatMap fun a => 32 :: a.b
  | [], _ => rfl
  | s :: r, h => by
    rw [List.flatMap_cons, List.flatMap_cons, List.flatMap_append, ← tail_at (r := r) (fun x hx => h x (List.mem_cons_of_mem _ hx)), (partT_at (h s List.mem_cons_self)).2]
theorem text_at {l : List Sg} (h : ∀ s ∈ l, goodS s = true) : textP l = textJ (l.flatMap atS) := by
  cases l with
  | nil => rfl
  | cons s r =>
    have h1 := partT_at (h s List.mem_cons_self)
    have h2 := tail_at (r := r) fun x hx => h x (List.mem_cons_of_mem _ hx)
    show partT s ++ _ = _
    rw [h2, h1.1, List.flatMap_cons]
    obtain ⟨x, hx⟩ := goodS_letter (h s List.mem_cons_self)
    have e2 : atS s = atX x s := by unfold atS; rw [hx]
    rw [e2]
    unfold atX
    show (Atm.b _ ++ _) ++ _ = Atm.b _ ++ _
    rw [List.append_assoc, ← List.flatMap_append]
    rfl
theorem nb_L : ∀ x ∈ ltT, isL x.nb = true := by decide
theorem at_ok {s : Sg} (h : goodS s = true) : ∀ a ∈ atS s, a.ok := by
  obtain ⟨x, hx⟩ := goodS_letter h
  have e2 : atS s = atX x s := by unfold atS; rw [hx]
  obtain ⟨hv, hw⟩ := goodS_v hx h
  rw [e2]
  intro a ha
  rcases List.mem_cons.1 ha with rfl | ha
  · exact nb_L x (letterK_mem hx)
  · obtain ⟨c, _, rfl⟩ := List.mem_map.1 ha
    show -4611686018427387904 ≤ numT s c ∧ numT s c ≤ 4611686018427387904
    unfold numT
    split
    · split at hw
      · have := isW_iff.1 hw; omega
      · rw [hw]; decide
    · have hg : ∀ j, -4611686018427387904 ≤ s.get j ∧ s.get j ≤ 4611686018427387904 := fun j => by
        rcases Nat.lt_or_ge j 6 with q | q
        · have := isC_iff.1 (hv j q).1; omega
        · have e : s.get j = s.get 5 := by
            match j, q with
            | j + 6, _ => rfl
          have := isC_iff.1 (hv 5 (by decide)).1
          rw [e]; omega
      exact hg _
theorem cut_textP {l : List Sg} (h : ∀ s ∈ l, goodS s = true) : ∃ ts, lcut 0 (textP l) = .ok ts ∧ Fits (l.flatMap atS) ts := by
  rw [text_at h]
  refine cut_text _ fun a ha => ?_
  obtain ⟨s, hs, ha⟩ := List.mem_flatMap.1 ha
  exact at_ok (h s hs) a ha
end Go.Proofs.YtnapannphldglaaDoor
