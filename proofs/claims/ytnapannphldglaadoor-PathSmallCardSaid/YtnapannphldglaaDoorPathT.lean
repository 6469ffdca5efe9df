/- gessolaw11.of by value: the path of a text. -/
import Derived.Test.YtnapannphldglaaDoorPathS
namespace Go.Proofs.YtnapannphldglaaDoor
open Go Go.RowKit

theorem cap_ok (n : Nat) : (cap62 n : Int) ≤ 4611686018427387904 ∧ -4611686018427387904 ≤ (-(cap62 n : Int)) := by
  have := cap62_le n
  unfold mst at this
  omega
theorem first_bound {a : Nat} {c : UInt8} {r : List UInt8} {m : Nat} {u : List Tk} (h : firstT a c r = some (m, u)) : ∀ t ∈ u, nmOk ⟨t.n, t.p⟩ ∧ t.p + t.s.length ≤ a + 1 + m := by
  unfold firstT at h
  have hl := lrun_le isL r
  split at h
  · cases h; intro t ht; cases ht
  · split at h
    · cases h
      intro t ht
      rw [List.mem_singleton.1 ht]
      refine ⟨⟨by simp [tkW], by simp [tkW]⟩, ?_⟩
      simp [tkW, List.length_take]
      omega
    · split at h
      · cases h
        intro t ht
        rw [List.mem_singleton.1 ht]
        have := cap_ok (lval (c :: r.take (lrun isD r)))
        refine ⟨⟨?_, ?_⟩, ?_⟩
        · simp only [tkN]; omega
        · simp only [tkN]; omega
        · simp [tkN]; omega
      · split at h
        · split at h
          · cases h
          · cases h
            intro t ht
            rw [List.mem_singleton.1 ht]
            have := cap_ok (lval (r.take (lrun isD r)))
            refine ⟨⟨?_, ?_⟩, ?_⟩
            · simp only [tkN]; omega
            · simp only [tkN]; omega
            · simp [tkN]; omega
        · split at h
          · cases h
            intro t ht
            rw [List.mem_singleton.1 ht]
            exact ⟨⟨by simp [tkE], by simp [tkE]⟩, by simp [tkE]⟩
          · cases h
theorem lcut_bound (n : Nat) : ∀ (a : Nat) (l : List UInt8) (ts : List Tk), l.length ≤ n → lcut a l = .ok ts → ∀ t ∈ ts, nmOk ⟨t.n, t.p⟩ ∧ t.p + t.s.length ≤ a + l.length := by
  induction n with
  | zero =>
    intro a l ts h hc
    have h0 : l = [] := List.eq_nil_of_length_eq_zero (by omega)
    subst h0
    cases hc
    intro t ht; cases ht
  | succ n ih =>
    intro a l ts h hc
    cases l with
    | nil => cases hc; intro t ht; cases ht
    | cons c r =>
      rw [lcut_cons] at hc
      cases hf : firstT a c r with
      | none => rw [hf] at hc; cases hc
      | some x =>
        obtain ⟨m, u⟩ := x
        rw [hf] at hc
        simp only at hc
        have hm := firstT_le hf
        cases hl : lcut (a + 1 + m) (r.drop m) with
        | error p => rw [hl] at hc; cases hc
        | ok us =>
          rw [hl] at hc
          simp only [Except.map] at hc
          cases hc
          simp only [List.length_cons] at h ⊢
          intro t ht
          rcases List.mem_append.1 ht with q | q
          · have := first_bound hf t q
            exact ⟨this.1, by omega⟩
          · have := ih _ _ _ (by simp; omega) hl t q
            refine ⟨this.1, ?_⟩
            have h2 := this.2
            simp at h2
            omega
theorem parse_any {w : World} {A : Option Addr} {n c : Nat} {ts : List Tk} (a : Int) (hv : TV w A ts) (hn : ts.length = n) (hm : n ≤ maxLen) (hl : LtIn w) (hsz : ∀ t ∈ ts, t.p + t.s.length ≤ 4000000000000) (hk : ∀ t ∈ ts, nmOk ⟨t.n, t.p⟩) :
    Calls Tryd.prog 26 #[.slice A n c, .int .i64 a] w (GivesPs w (parseP ts a)) := by
  cases hr : readP ts a with
  | error q => exact parse_bad hv hn hm hl hsz hr
  | ok l => exact parse_go hv hn hm hl hsz hk hr
/-- The path of a text. -/
def ofP (l : List UInt8) : Except (Int × Int) (List Sg) := match lcut 0 l with
  | .error p => .error ((p : Int), 20)
  | .ok ts => parseP ts l.length
set_option maxRecDepth 100000 in
set_option maxHeartbeats 4000000 in
theorem of11_bad {w : World} {s : ByteArray} {p : Nat} (hs : s.size ≤ 1048576) (h : lcut 0 s.data.toList = .error p) :
    Calls Tryd.prog 14 #[.string s] w (GivesPs w (ofP s.data.toList)) := by
  have hP : ofP s.data.toList = .error ((p : Int), 20) := by unfold ofP; rw [h]
  rw [hP]
  have C := Lib.hid (fun W => cut_bad h hs W)
  clear h hP hs
  go_enter Tryd.func14, Tryd.ntmps14
  go_wp2_with (go_at_call 25; refine (C.out _).mono ?_; rintro e w1 ⟨rfl, hb1⟩)
  go_ret3
  exact ⟨rfl, hb1⟩
theorem GivesPs.form {w w' : World} {R : Except (Int × Int) (List Sg)} {e : Ending} (h : GivesPs w R e w') : ∃ A n c p q, e = .returned (.tuple #[.slice A n c, .int .i64 p, .int .i64 q]) := by
  have h1 := h.1
  cases R with
  | error q => exact ⟨_, _, _, _, _, h1⟩
  | ok l => obtain ⟨_, A, c, he, _⟩ := h1; exact ⟨_, _, _, _, _, he⟩
theorem GivesPs.on {w w1 w' : World} {R : Except (Int × Int) (List Sg)} {e : Ending} (h : GivesPs w1 R e w') (hb : Below w.heap.size w w1) : GivesPs w R e w' := by
  refine ⟨?_, hb.trans (h.2.mono hb.size)⟩
  have h1 := h.1
  cases R with
  | error q => exact h1
  | ok l =>
    obtain ⟨hl, A, c, he, hr⟩ := h1
    exact ⟨hl, A, c, he, row_base hr hb.size⟩
set_option maxRecDepth 100000 in
set_option maxHeartbeats 4000000 in
theorem of11_go {w : World} {s : ByteArray} {ts : List Tk} (hs : s.size ≤ 1048576) (hlt : LtIn w) (h : lcut 0 s.data.toList = .ok ts) :
    Calls Tryd.prog 14 #[.string s] w (GivesPs w (ofP s.data.toList)) := by
  have hsl : s.data.toList.length = s.size := by simp
  have hb := lcut_bound _ 0 _ _ (Nat.le_refl _) h
  rw [hsl] at hb
  have hP : ofP s.data.toList = parseP ts (s.size : Int) := by unfold ofP; rw [h]; simp only; rw [hsl]
  rw [hP]
  generalize hR : parseP ts (s.size : Int) = R
  have HR := Lib.hid hR
  have C := Lib.hid (fun W => cut_ok h hs W)
  have HB := Lib.hid hb
  have HS := Lib.hid hs
  have HLT := Lib.hid hlt
  clear h hP hs hsl hb hR hlt
  go_enter Tryd.func14, Tryd.ntmps14
  go_wp2_with (first
    | (go_at_call 25; refine (C.out _).mono ?_; rintro e w1 ⟨A1, c1, rfl, hv1, hm1, hb1⟩; replace hv1 := Lib.hid hv1; replace hm1 := Lib.hid hm1; replace hb1 := Lib.hid hb1)
    | (go_at_call 26; refine (parse_any _ hv1.out rfl hm1.out (HLT.out.below hb1.out HLT.out.lt) (fun t ht => by have := (HB.out t ht).2; have := HS.out; omega) (fun t ht => (HB.out t ht).1)).mono ?_; rw [HR.out]; rintro e w2 hg; obtain ⟨A2, n2, c2, p2, q2, rfl⟩ := hg.form; replace hg := Lib.hid hg))
  refine bodyPost_ret (v := .tuple #[.slice A2 n2 c2, .int .i64 p2, .int .i64 q2]) (by simp [results, Tryd.results14, go_sem]) rfl (hg.out.on hb1.out)
theorem of11 {w : World} {s : ByteArray} (hs : s.size ≤ 1048576) (hlt : LtIn w) : Calls Tryd.prog 14 #[.string s] w (GivesPs w (ofP s.data.toList)) := by
  cases h : lcut 0 s.data.toList with
  | error p => exact of11_bad hs h
  | ok ts => exact of11_go hs hlt h
end Go.Proofs.YtnapannphldglaaDoor
