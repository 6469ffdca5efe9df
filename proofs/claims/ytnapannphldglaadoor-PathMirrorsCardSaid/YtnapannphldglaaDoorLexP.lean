/- The mathematics of tokens: moved, and one text behind another. -/
import Derived.Test.YtnapannphldglaaDoorLexH
namespace Go.Proofs.YtnapannphldglaaDoor
open Go Go.RowKit

def shT (j : Nat) (t : Tk) : Tk := { t with p := t.p + j }
theorem first_shift (a j : Nat) (c : UInt8) (r : List UInt8) : firstT (a + j) c r = (firstT a c r).map (fun x => (x.1, x.2.map (shT j))) := by
  unfold firstT
  repeat' split
  all_goals rfl
theorem firstT_le {a : Nat} {c : UInt8} {r : List UInt8} {m : Nat} {t : List Tk} (h : firstT a c r = some (m, t)) : m ≤ r.length := by
  unfold firstT at h
  have h1 := lrun_le isL r
  have h2 := lrun_le isD r
  repeat' split at h
  all_goals simp at h
  all_goals omega
theorem lcut_shift (j : Nat) (n : Nat) : ∀ (a : Nat) (l : List UInt8), l.length ≤ n → lcut (a + j) l = match lcut a l with
    | .error p => .error (p + j)
    | .ok ts => .ok (ts.map (shT j)) := by
  induction n with
  | zero =>
    intro a l h
    have h0 : l = [] := List.eq_nil_of_length_eq_zero (by omega)
    subst h0; rfl
  | succ n ih =>
    intro a l h
    cases l with
    | nil => rfl
    | cons c r =>
      rw [lcut_cons, lcut_cons, first_shift]
      cases firstT a c r with
      | none => rfl
      | some x =>
        obtain ⟨m, t⟩ := x
        simp only [Option.map_some]
        rw [show a + j + 1 + m = (a + 1 + m) + j by omega, ih (a + 1 + m) (r.drop m) (by simp at h ⊢; omega)]
        cases lcut (a + 1 + m) (r.drop m) with
        | error p => rfl
        | ok ts => simp [Except.map]
theorem first_app {a : Nat} {c d : UInt8} {r t : List UInt8} (hd : isP d = true) : firstT a c (r ++ d :: t) = firstT a c r := by
  have hL : isL d = false := isL_no.2 (by have := isP_iff.1 hd; omega)
  have hD : isD d = false := isD_no.2 (by have := isP_iff.1 hd; omega)
  unfold firstT
  rw [lrun_app isL d hL, lrun_app isD d hD, List.take_append_of_le_length (lrun_le isL r), List.take_append_of_le_length (lrun_le isD r)]
theorem lcut_app {d : UInt8} (hd : isP d = true) (t : List UInt8) (n : Nat) : ∀ (a : Nat) (l : List UInt8), l.length ≤ n → lcut a (l ++ d :: t) = match lcut a l with
    | .error p => .error p
    | .ok ts => (lcut (a + l.length) (d :: t)).map (ts ++ ·) := by
  induction n with
  | zero =>
    intro a l h
    have h0 : l = [] := List.eq_nil_of_length_eq_zero (by omega)
    subst h0
    exact (emap_nil _).symm
  | succ n ih =>
    intro a l h
    cases l with
    | nil => exact (emap_nil _).symm
    | cons c r =>
      rw [List.cons_append, lcut_cons, lcut_cons, first_app hd]
      cases hf : firstT a c r with
      | none => rfl
      | some x =>
        obtain ⟨m, u⟩ := x
        have hm := firstT_le hf
        simp only
        rw [List.drop_append_of_le_length hm, ih (a + 1 + m) (r.drop m) (by simp at h ⊢; omega)]
        cases hl : lcut (a + 1 + m) (r.drop m) with
        | error p => rfl
        | ok ts =>
          simp only [Except.map]
          rw [show a + 1 + m + (r.drop m).length = a + (c :: r).length by simp; omega]
          cases lcut (a + (c :: r).length) (d :: t) with
          | error p => rfl
          | ok us => simp
theorem lcut_part {a : Nat} {d : UInt8} {t : List UInt8} (hd : isP d = true) : lcut a (d :: t) = lcut (a + 1) t := by
  rw [lcut_cons, first_p hd]
  simp only [List.drop_zero, Nat.add_zero]
  rw [emap_nil]
/-- Two texts, with blanks and commas about them. -/
def both (s t : List UInt8) : List UInt8 := [32, 44] ++ s ++ [44, 32] ++ t ++ [44, 44]
theorem both_cut (s t : List UInt8) : lcut 0 (both s t) = match lcut 0 s, lcut 0 t with
    | .error p, _ => .error (p + 2)
    | .ok _, .error p => .error (p + (4 + s.length))
    | .ok a, .ok b => .ok (a.map (shT 2) ++ b.map (shT (4 + s.length))) := by
  have e : both s t = 32 :: 44 :: (s ++ 44 :: (32 :: (t ++ 44 :: [44]))) := by simp [both]
  rw [e, lcut_part (by decide), lcut_part (by decide), lcut_app (by decide) _ s.length 2 s (Nat.le_refl _)]
  have h1 := lcut_shift 2 s.length 0 s (Nat.le_refl _)
  rw [Nat.zero_add] at h1
  rw [h1]
  cases lcut 0 s with
  | error p => cases lcut 0 t <;> rfl
  | ok a =>
    simp only
    rw [lcut_part (by decide), lcut_part (by decide), lcut_app (by decide) _ t.length _ t (Nat.le_refl _)]
    have h2 := lcut_shift (4 + s.length) t.length 0 t (Nat.le_refl _)
    rw [Nat.zero_add] at h2
    rw [show 2 + s.length + 1 + 1 = 4 + s.length by omega, h2]
    cases lcut 0 t with
    | error p => rfl
    | ok b =>
      simp only
      rw [lcut_part (by decide), lcut_part (by decide), lcut_nil]
      simp [Except.map]
end Go.Proofs.YtnapannphldglaaDoor
