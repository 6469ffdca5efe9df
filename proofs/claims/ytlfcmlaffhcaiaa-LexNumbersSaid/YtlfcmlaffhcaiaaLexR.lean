/- The law LexParts. -/
import Derived.Test.YtlfcmlaffhcaiaaLexP
import Derived.StillTailTactics
namespace Go.Proofs.Ytlfcmlaffhcaiaa
open Go Go.RowKit

theorem both_str (s t : ByteArray) : ((((⟨#[32, 44]⟩ : ByteArray) ++ s) ++ ⟨#[44, 32]⟩) ++ t ++ ⟨#[44, 44]⟩).data.toList = both s.data.toList t.data.toList := by
  simp [both, ByteArray.data_append]
/-- What Cut tells, as its callers take it. -/
theorem cut_ok {s : ByteArray} {ts : List Tk} (h : lcut 0 s.data.toList = .ok ts) (hs : s.size ≤ 1048576) (w : World) : Calls Try.prog 8 #[.string s] w fun e w' => ∃ A c, e = .returned (.tuple #[.slice A ts.length c, .int .i64 0, .int .i64 0]) ∧ TV w' A ts ∧ ts.length ≤ maxLen ∧ Below w.heap.size w w' := by
  refine (cut_any s w hs).mono ?_
  rintro e w' ⟨hb, hh⟩
  rw [h] at hh
  obtain ⟨v, rfl, hr⟩ := hh
  obtain ⟨A, c, rfl⟩ := row_slice hr
  exact ⟨A, c, rfl, TV.of_row hr, row_len hr, hb⟩
theorem cut_bad {s : ByteArray} {p : Nat} (h : lcut 0 s.data.toList = .error p) (hs : s.size ≤ 1048576) (w : World) : Calls Try.prog 8 #[.string s] w fun e w' => e = .returned (.tuple #[.slice none 0 0, .int .i64 (p : Int), .int .i64 20]) ∧ Below w.heap.size w w' := by
  refine (cut_any s w hs).mono ?_
  rintro e w' ⟨hb, hh⟩
  rw [h] at hh
  exact ⟨hh, hb⟩

def eof (r : Except Nat (List Tk)) : Int := match r with
  | .ok _ => 0
  | .error _ => 20
theorem cut_gen {s : ByteArray} {E : Int} (h : eof (lcut 0 s.data.toList) = E) (hs : s.size ≤ 1048576) (w : World) : Calls Try.prog 8 #[.string s] w fun e w' => ∃ A n c p, e = .returned (.tuple #[.slice A n c, .int .i64 p, .int .i64 E]) ∧ Below w.heap.size w w' := by
  subst h
  cases hE : lcut 0 s.data.toList with
  | ok ts => exact (cut_ok hE hs w).mono fun e w' ⟨A, c, he, _, _, hb⟩ => ⟨A, _, c, 0, he, hb⟩
  | error p => exact (cut_bad hE hs w).mono fun e w' ⟨he, hb⟩ => ⟨none, 0, 0, _, he, hb⟩
theorem both_size (s t : ByteArray) : ((((⟨#[32, 44]⟩ : ByteArray) ++ s) ++ ⟨#[44, 32]⟩) ++ t ++ ⟨#[44, 44]⟩).size = s.size + t.size + 6 := by
  have a : (⟨#[32, 44]⟩ : ByteArray).size = 2 := rfl
  have b : (⟨#[44, 32]⟩ : ByteArray).size = 2 := rfl
  have c : (⟨#[44, 44]⟩ : ByteArray).size = 2 := rfl
  simp only [ByteArray.size_append, a, b, c]
  omega

set_option maxRecDepth 100000 in
set_option maxHeartbeats 4000000 in
theorem parts_e1 (s t : ByteArray) (w : World) (h1 : s.size ≤ 5000) (h2 : t.size ≤ 5000) (hB : eof (lcut 0 (both s.data.toList t.data.toList)) = 20) (hs : eof (lcut 0 s.data.toList) = 20) (E : Int) (ht : eof (lcut 0 t.data.toList) = E) :
    Calls Try.prog 4 #[.string s, .string t] w fun e w' => e = .returned (.bool true) ∧ Below w.heap.size w w' := by
  have e1 : (s.size : Int) ≤ 5000 := by omega
  have e2 : (t.size : Int) ≤ 5000 := by omega
  have CX := Lib.hid (fun W => cut_gen (E := 20) (s := (((⟨#[32, 44]⟩ : ByteArray) ++ s) ++ ⟨#[44, 32]⟩) ++ t ++ ⟨#[44, 44]⟩) (by rw [both_str]; exact hB) (by rw [both_size]; omega) W)
  have CS := Lib.hid (fun W => cut_gen hs (by omega) W)
  have CT := Lib.hid (fun W => cut_gen ht (by omega) W)
  clear hB hs ht
  go_enter Try.func4, Try.ntmps4
  go_wp2_with (first
    | (go_at_call 8; (with_reducible refine (CS.out _).mono ?_); rintro e w1 ⟨A1, n1, c1, p1, rfl, hb1⟩; clear CS)
    | (go_at_call 8; (with_reducible refine (CT.out _).mono ?_); rintro e w2 ⟨A2, n2, c2, p2, rfl, hb2⟩; clear CT)
    | (go_at_call 8; (with_reducible refine (CX.out _).mono ?_); rintro e w3 ⟨A3, n3, c3, p3, rfl, hb3⟩; clear CX)
    | (go_at_call 7; refine (wakes_any _).mono ?_; rintro e w4 ⟨rfl, hb4⟩))
  go_ret
  exact ⟨rfl, ((hb1.trans (hb2.mono hb1.size)).trans (hb3.mono (Nat.le_trans hb1.size hb2.size))).trans (hb4.mono (Nat.le_trans (Nat.le_trans hb1.size hb2.size) hb3.size))⟩
set_option maxRecDepth 100000 in
set_option maxHeartbeats 4000000 in
theorem parts_e2 (s t : ByteArray) (w : World) (h1 : s.size ≤ 5000) (h2 : t.size ≤ 5000) (hB : eof (lcut 0 (both s.data.toList t.data.toList)) = 20) (hs : eof (lcut 0 s.data.toList) = 0) (ht : eof (lcut 0 t.data.toList) = 20) :
    Calls Try.prog 4 #[.string s, .string t] w fun e w' => e = .returned (.bool true) ∧ Below w.heap.size w w' := by
  have e1 : (s.size : Int) ≤ 5000 := by omega
  have e2 : (t.size : Int) ≤ 5000 := by omega
  have CX := Lib.hid (fun W => cut_gen (E := 20) (s := (((⟨#[32, 44]⟩ : ByteArray) ++ s) ++ ⟨#[44, 32]⟩) ++ t ++ ⟨#[44, 44]⟩) (by rw [both_str]; exact hB) (by rw [both_size]; omega) W)
  have CS := Lib.hid (fun W => cut_gen hs (by omega) W)
  have CT := Lib.hid (fun W => cut_gen ht (by omega) W)
  clear hB hs ht
  go_enter Try.func4, Try.ntmps4
  go_wp2_with (first
    | (go_at_call 8; (with_reducible refine (CS.out _).mono ?_); rintro e w1 ⟨A1, n1, c1, p1, rfl, hb1⟩; clear CS)
    | (go_at_call 8; (with_reducible refine (CT.out _).mono ?_); rintro e w2 ⟨A2, n2, c2, p2, rfl, hb2⟩; clear CT)
    | (go_at_call 8; (with_reducible refine (CX.out _).mono ?_); rintro e w3 ⟨A3, n3, c3, p3, rfl, hb3⟩; clear CX)
    | (go_at_call 7; refine (wakes_any _).mono ?_; rintro e w4 ⟨rfl, hb4⟩))
  go_ret
  exact ⟨rfl, ((hb1.trans (hb2.mono hb1.size)).trans (hb3.mono (Nat.le_trans hb1.size hb2.size))).trans (hb4.mono (Nat.le_trans (Nat.le_trans hb1.size hb2.size) hb3.size))⟩
theorem get_l {a b : List Tk} {f g : Tk → Tk} {k : Nat} {t : Tk} (h : a[k]? = some t) : (a.map f ++ b.map g)[k]? = some (f t) := by
  rw [List.getElem?_append_left (by simpa using (List.getElem?_eq_some_iff.1 h).1), List.getElem?_map, h]; rfl
theorem get_r {a b : List Tk} {f g : Tk → Tk} {n j : Nat} {t : Tk} (hn : a.length = n) (h : b[j]? = some t) : (a.map f ++ b.map g)[n + j]? = some (g t) := by
  rw [List.getElem?_append_right (by simp; omega), List.length_map, hn, Nat.add_sub_cancel_left, List.getElem?_map, h]; rfl
theorem TV.get {w : World} {A : Option Addr} {ts : List Tk} {k : Nat} {t : Tk} (h : TV w A ts) (ht : ts[k]? = some t) : ∃ g, A = some ⟨g, 0, none⟩ ∧ TkAt w g k t := by
  rcases h with h | ⟨g, hA, h⟩
  · rw [h] at ht; simp at ht
  · exact ⟨g, hA, h k t ht⟩
set_option maxRecDepth 100000 in
set_option maxHeartbeats 4000000 in
theorem parts_ok (s t : ByteArray) (w : World) (h1 : s.size ≤ 5000) (h2 : t.size ≤ 5000) (a b : List Tk) (ha : lcut 0 s.data.toList = .ok a) (hb : lcut 0 t.data.toList = .ok b) (hp : ∀ x ∈ a, x.p ≤ 5000) (hq : ∀ x ∈ b, x.p ≤ 5000) (na nb : Nat) (hna : a.length = na) (hnb : b.length = nb) (hza : na ≤ 5000) (hzb : nb ≤ 5000) :
    Calls Try.prog 4 #[.string s, .string t] w fun e w' => e = .returned (.bool true) ∧ Below w.heap.size w w' := by
  have e1 : (s.size : Int) ≤ 5000 := by omega
  have e2 : (t.size : Int) ≤ 5000 := by omega
  have hB := both_cut s.data.toList t.data.toList
  rw [ha, hb] at hB
  simp only at hB
  have hsl : s.data.toList.length = s.size := by simp
  rw [hsl] at hB
  obtain ⟨L, hL⟩ : ∃ L, L = a.map (shT 2) ++ b.map (shT (4 + s.size)) := ⟨_, rfl⟩
  rw [← hL] at hB
  have hLn : L.length = na + nb := by rw [hL]; simp [hna, hnb]
  have CX := Lib.hid (fun W => cut_ok (s := (((⟨#[32, 44]⟩ : ByteArray) ++ s) ++ ⟨#[44, 32]⟩) ++ t ++ ⟨#[44, 44]⟩) (ts := L) (by rw [both_str]; exact hB) (by rw [both_size]; omega) W)
  have CS := Lib.hid (fun W => cut_ok ha (by omega) W)
  have CT := Lib.hid (fun W => cut_ok hb (by omega) W)
  rw [hLn] at CX
  rw [hna] at CS
  rw [hnb] at CT
  have HL := Lib.hid hL
  have HNA := Lib.hid hna
  have HNB := Lib.hid hnb
  have HP := Lib.hid hp
  have HQ := Lib.hid hq
  clear hB ha hb hsl hL hLn hna hnb hp hq
  go_enter Try.func4, Try.ntmps4
  go_wp2_with (first
    | (go_at_call 8; (with_reducible refine (CS.out _).mono ?_); rintro e w1 ⟨A1, c1, rfl, v1, _, hb1⟩; clear CS; replace hb1 := Lib.hid hb1; replace v1 := Lib.hid v1)
    | (go_at_call 8; (with_reducible refine (CT.out _).mono ?_); rintro e w2 ⟨A2, c2, rfl, v2, _, hb2⟩; clear CT; replace hb2 := Lib.hid hb2; replace v2 := Lib.hid v2)
    | (go_at_call 8; (with_reducible refine (CX.out _).mono ?_); rintro e w3 ⟨A3, c3, rfl, v3, _, hb3⟩; clear CX; replace hb3 := Lib.hid hb3; replace v3 := Lib.hid v3))
  have V1 := Lib.hid ((v1.out.below hb2.out).below hb3.out)
  have V2 := Lib.hid (v2.out.below hb3.out)
  go_loopw [14] (fun i wr => ∃ k : Nat, k ≤ na + nb ∧ i = .int .i64 (k : Int) ∧ Below w3.heap.size w3 wr) (fun i _ => na + nb - (intOf i).toNat)
  case atStart => exact ⟨0, Nat.zero_le _, rfl, Below.refl _ _⟩
  case round =>
    obtain ⟨k, hk, rfl, hbw⟩ := hrel
    have hsz := hbw.size
    have HBW := Lib.hid hbw
    by_cases hlt : k < na
    · have hkn : (k : Int) < (na : Int) + (nb : Int) := by omega
      obtain ⟨x, hx⟩ : ∃ x, a[k]? = some x := ⟨_, List.getElem?_eq_getElem (by rw [HNA.out]; exact hlt)⟩
      have hxp := HP.out x (List.mem_of_getElem? hx)
      obtain ⟨g, hg, TA⟩ := V1.out.get hx
      obtain ⟨h, hh, TC⟩ := v3.out.get (show L[k]? = some (shT 2 x) by rw [HL.out]; exact get_l hx)
      subst hg
      subst hh
      replace TA := TA.below hbw
      replace TC := TC.below hbw
      have hgl := TA.lt
      have hhl := TC.lt
      obtain ⟨a0, a1, a2, a3⟩ := TA
      obtain ⟨b0, b1, b2, b3⟩ := TC
      dsimp only [shT] at b0 b1 b2 b3
      have HX := Lib.hid hx
      clear hx hbw
      go_wp2
      go_region
      go_wp2
      go_quiet (fail)
      go_wp2
      exact ⟨⟨k + 1, by omega, by go_num, below_drewN' ((HBW.out).alloc hsz _) _⟩, by simp [intOf]; omega⟩
    · by_cases hend : k < na + nb
      · obtain ⟨j, rfl⟩ : ∃ j, k = na + j := ⟨k - na, by omega⟩
        have hkn : (na : Int) + (j : Int) < (na : Int) + (nb : Int) := by omega
        obtain ⟨x, hx⟩ : ∃ x, b[j]? = some x := ⟨_, List.getElem?_eq_getElem (by rw [HNB.out]; omega)⟩
        have hxp := HQ.out x (List.mem_of_getElem? hx)
        obtain ⟨g, hg, TA⟩ := V2.out.get hx
        obtain ⟨h, hh, TC⟩ := v3.out.get (show L[na + j]? = some (shT (4 + s.size) x) by rw [HL.out]; exact get_r HNA.out hx)
        subst hg
        subst hh
        replace TA := TA.below hbw
        replace TC := TC.below hbw
        have hgl := TA.lt
        have hhl := TC.lt
        obtain ⟨a0, a1, a2, a3⟩ := TA
        obtain ⟨b0, b1, b2, b3⟩ := TC
        dsimp only [shT] at b0 b1 b2 b3
        have HX := Lib.hid hx
        clear hx hbw
        go_wp2
        go_region
        go_wp2
        go_quiet (fail)
        go_wp2
        exact ⟨⟨na + j + 1, by omega, by go_num, below_drewN' ((HBW.out).alloc hsz _) _⟩, by simp [intOf]; omega⟩
      · have hkn : ¬ (k : Int) < (na : Int) + (nb : Int) := by omega
        clear hbw
        go_wp2_with (go_at_call 7; refine (wakes_any _).mono ?_; rintro e w4 ⟨rfl, hb4⟩)
        go_ret
        have z1 := hb1.out.size
        have z2 := hb2.out.size
        have z3 := hb3.out.size
        exact ⟨rfl, (((hb1.out.trans (hb2.out.mono z1)).trans (hb3.out.mono (by omega))).trans (HBW.out.mono (by omega))).trans (hb4.mono (by omega))⟩

theorem lcut_bounds (n : Nat) : ∀ (a : Nat) (l : List UInt8) (ts : List Tk), l.length ≤ n → lcut a l = .ok ts → ts.length ≤ l.length ∧ ∀ x ∈ ts, x.p ≤ a + l.length := by
  induction n with
  | zero =>
    intro a l ts h he
    have h0 : l = [] := List.eq_nil_of_length_eq_zero (by omega)
    subst h0
    rw [lcut_nil] at he
    cases he
    simp
  | succ n ih =>
    intro a l ts h he
    cases l with
    | nil => rw [lcut_nil] at he; cases he; simp
    | cons c r =>
      rw [lcut_cons] at he
      cases hf : firstT a c r with
      | none => rw [hf] at he; cases he
      | some x =>
        obtain ⟨m, t⟩ := x
        have hm := firstT_le hf
        have ht : t.length ≤ 1 ∧ ∀ y ∈ t, y.p = a := by
          unfold firstT at hf
          repeat' split at hf
          all_goals (try (cases hf; done))
          all_goals (simp only [Option.some.injEq, Prod.mk.injEq] at hf; obtain ⟨_, rfl⟩ := hf; simp [tkW, tkN, tkE])
        rw [hf] at he
        simp only at he
        cases hl : lcut (a + 1 + m) (r.drop m) with
        | error p => rw [hl] at he; cases he
        | ok us =>
          rw [hl] at he
          simp only [Except.map, Except.ok.injEq] at he
          obtain ⟨i1, i2⟩ := ih (a + 1 + m) (r.drop m) us (by simp at h ⊢; omega) hl
          subst he
          simp only [List.length_drop] at i1 i2
          refine ⟨by simp; omega, fun x hx => ?_⟩
          rcases List.mem_append.1 hx with hx | hx
          · rw [ht.2 x hx]; omega
          · have := i2 x hx; simp; omega

set_option maxRecDepth 100000 in
set_option maxHeartbeats 1000000 in
theorem parts_far (s t : ByteArray) (w : World) (h : 5000 < s.size ∨ 5000 < t.size) : Calls Try.prog 4 #[.string s, .string t] w fun e w' => e = .returned (.bool true) ∧ Below w.heap.size w w' := by
  by_cases h1 : 5000 < s.size
  · have e1 : (5000 : Int) < (s.size : Int) := by omega
    clear h
    go_enter Try.func4, Try.ntmps4
    go_wp2_with (go_at_call 7; refine (wakes_any _).mono ?_; rintro e w4 ⟨rfl, hb4⟩)
    go_ret
    exact ⟨rfl, hb4⟩
  · have e1 : (s.size : Int) ≤ 5000 := by omega
    have e2 : (5000 : Int) < (t.size : Int) := by omega
    clear h
    go_enter Try.func4, Try.ntmps4
    go_wp2_with (go_at_call 7; refine (wakes_any _).mono ?_; rintro e w4 ⟨rfl, hb4⟩)
    go_ret
    exact ⟨rfl, hb4⟩
theorem law_parts (s t : ByteArray) (w : World) : Calls Try.prog 4 #[.string s, .string t] w fun e w' => e = .returned (.bool true) ∧ Below w.heap.size w w' := by
  by_cases h1 : 5000 < s.size
  · exact parts_far s t w (.inl h1)
  · by_cases h2 : 5000 < t.size
    · exact parts_far s t w (.inr h2)
    · have hB := both_cut s.data.toList t.data.toList
      cases ha : lcut 0 s.data.toList with
      | error p => rw [ha] at hB; exact parts_e1 s t w (by omega) (by omega) (by rw [hB]; rfl) (by rw [ha]; rfl) _ rfl
      | ok a =>
        cases hb : lcut 0 t.data.toList with
        | error p => rw [ha, hb] at hB; exact parts_e2 s t w (by omega) (by omega) (by rw [hB]; rfl) (by rw [ha]; rfl) (by rw [hb]; rfl)
        | ok b =>
          obtain ⟨i1, i2⟩ := lcut_bounds _ 0 _ a (Nat.le_refl _) ha
          obtain ⟨j1, j2⟩ := lcut_bounds _ 0 _ b (Nat.le_refl _) hb
          have e1 : s.data.toList.length = s.size := by simp
          have e2 : t.data.toList.length = t.size := by simp
          exact parts_ok s t w (by omega) (by omega) a b ha hb (fun x hx => by have := i2 x hx; omega) (fun x hx => by have := j2 x hx; omega) _ _ rfl rfl (by omega) (by omega)
end Go.Proofs.Ytlfcmlaffhcaiaa
