/- The law LexParts. -/
import Derived.Test.YtnapannphldglaaDoorLexP
import Derived.StillTailTactics
namespace Go.Proofs.YtnapannphldglaaDoor
open Go Go.RowKit

theorem both_str (s t : ByteArray) : ((((⟨#[32, 44]⟩ : ByteArray) ++ s) ++ ⟨#[44, 32]⟩) ++ t ++ ⟨#[44, 44]⟩).data.toList = both s.data.toList t.data.toList := by
  simp [both, ByteArray.data_append]
/-- What Cut tells, as its callers take it. -/
theorem cut_ok {s : ByteArray} {ts : List Tk} (h : lcut 0 s.data.toList = .ok ts) (hs : s.size ≤ 1048576) (w : World) : Calls Tryd.prog 25 #[.string s] w fun e w' => ∃ A c, e = .returned (.tuple #[.slice A ts.length c, .int .i64 0, .int .i64 0]) ∧ TV w' A ts ∧ ts.length ≤ maxLen ∧ Below w.heap.size w w' := by
  refine (cut_any s w hs).mono ?_
  rintro e w' ⟨hb, hh⟩
  rw [h] at hh
  obtain ⟨v, rfl, hr⟩ := hh
  obtain ⟨A, c, rfl⟩ := row_slice hr
  exact ⟨A, c, rfl, TV.of_row hr, row_len hr, hb⟩
theorem cut_bad {s : ByteArray} {p : Nat} (h : lcut 0 s.data.toList = .error p) (hs : s.size ≤ 1048576) (w : World) : Calls Tryd.prog 25 #[.string s] w fun e w' => e = .returned (.tuple #[.slice none 0 0, .int .i64 (p : Int), .int .i64 20]) ∧ Below w.heap.size w w' := by
  refine (cut_any s w hs).mono ?_
  rintro e w' ⟨hb, hh⟩
  rw [h] at hh
  exact ⟨hh, hb⟩

def eof (r : Except Nat (List Tk)) : Int := match r with
  | .ok _ => 0
  | .error _ => 20
theorem cut_gen {s : ByteArray} {E : Int} (h : eof (lcut 0 s.data.toList) = E) (hs : s.size ≤ 1048576) (w : World) : Calls Tryd.prog 25 #[.string s] w fun e w' => ∃ A n c p, e = .returned (.tuple #[.slice A n c, .int .i64 p, .int .i64 E]) ∧ Below w.heap.size w w' := by
  subst h
  cases hE : lcut 0 s.data.toList with
  | ok ts => exact (cut_ok hE hs w).mono fun e w' ⟨A, c, he, _, _, hb⟩ => ⟨A, _, c, 0, he, hb⟩
  | error p => exact (cut_bad hE hs w).mono fun e w' ⟨he, hb⟩ => ⟨none, 0, 0, _, he, hb⟩
theorem both_size (s t : ByteArray) : ((((⟨#[32, 44]⟩ : ByteArray) ++ s) ++ ⟨#[44, 32]⟩) ++ t ++ ⟨#[44, 44]⟩).size = s.size + t.size + 6 := by
  have a : (⟨#[32, 44]⟩ : ByteArray).size = 2 := rfl
  have b : (⟨#[44, 32]⟩ : ByteArray).size = 2 := rfl
  have c : (⟨#[44, 44]⟩ : ByteArray).size = 2 := rfl
  simp only [ByteArray.size_append, a, b, c]
  omega

theorem get_l {a b : List Tk} {f g : Tk → Tk} {k : Nat} {t : Tk} (h : a[k]? = some t) : (a.map f ++ b.map g)[k]? = some (f t) := by
  rw [List.getElem?_append_left (by simpa using (List.getElem?_eq_some_iff.1 h).1), List.getElem?_map, h]; rfl
theorem get_r {a b : List Tk} {f g : Tk → Tk} {n j : Nat} {t : Tk} (hn : a.length = n) (h : b[j]? = some t) : (a.map f ++ b.map g)[n + j]? = some (g t) := by
  rw [List.getElem?_append_right (by simp; omega), List.length_map, hn, Nat.add_sub_cancel_left, List.getElem?_map, h]; rfl
theorem TV.get {w : World} {A : Option Addr} {ts : List Tk} {k : Nat} {t : Tk} (h : TV w A ts) (ht : ts[k]? = some t) : ∃ g, A = some ⟨g, 0, none⟩ ∧ TkAt w g k t := by
  rcases h with h | ⟨g, hA, h⟩
  · rw [h] at ht; simp at ht
  · exact ⟨g, hA, h k t ht⟩
theorem lcut_bounds (n : Nat) : ∀ (a : Nat) (l : List UInt8) (ts : List Tk), l.length ≤ n → lcut a l = .ok ts → ts.length ≤ l.length ∧ ∀ x ∈ ts, x.p ≤ a + l.length := by
  induction n with
  | zero =>
    intro a l ts h he
    have h0 : l = [] := List.eq_nil_of_length_eq_zero (by omega)
    subst h0
    rw [lcut_nil] at he
    cases he
    simp
  | succ n ih =>
    intro a l ts h he
    cases l with
    | nil => rw [lcut_nil] at he; cases he; simp
    | cons c r =>
      rw [lcut_cons] at he
      cases hf : firstT a c r with
      | none => rw [hf] at he; cases he
      | some x =>
        obtain ⟨m, t⟩ := x
        have hm := firstT_le hf
        have ht : t.length ≤ 1 ∧ ∀ y ∈ t, y.p = a := by
          unfold firstT at hf
          repeat' split at hf
          all_goals (try (cases hf; done))
          all_goals (simp only [Option.some.injEq, Prod.mk.injEq] at hf; obtain ⟨_, rfl⟩ := hf; simp [tkW, tkN, tkE])
        rw [hf] at he
        simp only at he
        cases hl : lcut (a + 1 + m) (r.drop m) with
        | error p => rw [hl] at he; cases he
        | ok us =>
          rw [hl] at he
          simp only [Except.map, Except.ok.injEq] at he
          obtain ⟨i1, i2⟩ := ih (a + 1 + m) (r.drop m) us (by simp at h ⊢; omega) hl
          subst he
          simp only [List.length_drop] at i1 i2
          refine ⟨by simp; omega, fun x hx => ?_⟩
          rcases List.mem_append.1 hx with hx | hx
          · rw [ht.2 x hx]; omega
          · have := i2 x hx; simp; omega

end Go.Proofs.YtnapannphldglaaDoor
