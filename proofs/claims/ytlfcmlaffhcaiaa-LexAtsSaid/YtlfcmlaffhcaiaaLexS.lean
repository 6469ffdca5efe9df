/- The law LexAts. -/
import Derived.IntWalk
import Derived.Test.YtlfcmlaffhcaiaaLexR
namespace Go.Proofs.Ytlfcmlaffhcaiaa
open Go Go.RowKit

theorem lcut_err (n : Nat) : ∀ (a : Nat) (l : List UInt8) (p : Nat), l.length ≤ n → lcut a l = .error p → a ≤ p ∧ p < a + l.length := by
  induction n with
  | zero =>
    intro a l p h he
    have h0 : l = [] := List.eq_nil_of_length_eq_zero (by omega)
    subst h0
    rw [lcut_nil] at he; cases he
  | succ n ih =>
    intro a l p h he
    cases l with
    | nil => rw [lcut_nil] at he; cases he
    | cons c r =>
      rw [lcut_cons] at he
      cases hf : firstT a c r with
      | none => rw [hf] at he; cases he; simp
      | some x =>
        obtain ⟨m, t⟩ := x
        have hm := firstT_le hf
        rw [hf] at he
        simp only at he
        cases hl : lcut (a + 1 + m) (r.drop m) with
        | ok us => rw [hl] at he; cases he
        | error q =>
          rw [hl] at he
          simp only [Except.map, Except.error.injEq] at he
          obtain ⟨i1, i2⟩ := ih (a + 1 + m) (r.drop m) q (by simp at h ⊢; omega) hl
          subst he
          simp at i2 ⊢
          omega
/-- What a token is. -/
theorem first_kind {a : Nat} {c : UInt8} {r : List UInt8} {m : Nat} {t : Tk} (h : firstT a c r = some (m, [t])) :
    (isL c = true ∧ m = lrun isL r ∧ t = tkW (c :: r.take m) a) ∨ (m = lrun isD r ∧ t.k = 2 ∧ t.p = a) ∨ (c.toNat = 10 ∧ m = 0 ∧ t = tkE a) := by
  unfold firstT at h
  split at h
  · simp at h
  · split at h
    · rename_i hL
      simp only [Option.some.injEq, Prod.mk.injEq, List.cons.injEq, and_true] at h
      obtain ⟨rfl, rfl⟩ := h
      exact .inl ⟨hL, rfl, rfl⟩
    · split at h
      · simp only [Option.some.injEq, Prod.mk.injEq, List.cons.injEq, and_true] at h
        obtain ⟨rfl, rfl⟩ := h
        exact .inr (.inl ⟨rfl, rfl, rfl⟩)
      · split at h
        · split at h
          · simp at h
          · simp only [Option.some.injEq, Prod.mk.injEq, List.cons.injEq, and_true] at h
            obtain ⟨rfl, rfl⟩ := h
            exact .inr (.inl ⟨rfl, rfl, rfl⟩)
        · split at h
          · rename_i h10
            simp only [Option.some.injEq, Prod.mk.injEq, List.cons.injEq, and_true] at h
            obtain ⟨rfl, rfl⟩ := h
            exact .inr (.inr ⟨h10, rfl, rfl⟩)
          · simp at h
theorem lcut_head (n : Nat) : ∀ (a : Nat) (l : List UInt8) (t : Tk) (rest : List Tk), l.length ≤ n → lcut a l = .ok (t :: rest) →
    ∃ (j : Nat) (c : UInt8) (r : List UInt8) (m : Nat), l.drop j = c :: r ∧ (∀ i x, i < j → l[i]? = some x → isP x = true) ∧ firstT (a + j) c r = some (m, [t]) ∧ lcut (a + j + 1 + m) (r.drop m) = .ok rest := by
  induction n with
  | zero =>
    intro a l t rest h he
    have h0 : l = [] := List.eq_nil_of_length_eq_zero (by omega)
    subst h0
    rw [lcut_nil] at he; cases he
  | succ n ih =>
    intro a l t rest h he
    cases l with
    | nil => rw [lcut_nil] at he; cases he
    | cons c r =>
      by_cases hP : isP c = true
      · rw [lcut_part hP] at he
        obtain ⟨j, c', r', m, h1, h2, h3, h4⟩ := ih (a + 1) r t rest (by simp at h; omega) he
        refine ⟨j + 1, c', r', m, by simpa using h1, fun i x hi hx => ?_, by rw [show a + (j + 1) = a + 1 + j by omega]; exact h3, by rw [show a + (j + 1) + 1 + m = a + 1 + j + 1 + m by omega]; exact h4⟩
        cases i with
        | zero => have : c = x := by simpa using hx
                  rw [← this]; exact hP
        | succ i => exact h2 i x (by omega) (by simpa using hx)
      · rw [lcut_cons] at he
        cases hf : firstT a c r with
        | none => rw [hf] at he; cases he
        | some x =>
          obtain ⟨m, u⟩ := x
          rw [hf] at he
          simp only at he
          cases hl : lcut (a + 1 + m) (r.drop m) with
          | error q => rw [hl] at he; cases he
          | ok us =>
            rw [hl] at he
            simp only [Except.map, Except.ok.injEq] at he
            have hu : ∃ v, u = [v] := by
              unfold firstT at hf
              rw [if_neg hP] at hf
              repeat' split at hf
              all_goals (try (cases hf; done))
              all_goals (simp only [Option.some.injEq, Prod.mk.injEq] at hf; obtain ⟨_, rfl⟩ := hf; exact ⟨_, rfl⟩)
            obtain ⟨v, rfl⟩ := hu
            simp only [List.cons_append, List.nil_append, List.cons.injEq] at he
            obtain ⟨rfl, rfl⟩ := he
            exact ⟨0, c, r, m, rfl, fun i x hi => absurd hi (by omega), by simpa using hf, by simpa using hl⟩

/-- Where the law stands: behind place T the rest's tokens. -/
def Rest (s : ByteArray) (T : Nat) (rest : List Tk) : Prop := T ≤ s.size ∧ lcut T (s.data.toList.drop T) = .ok rest
theorem rest_head {s : ByteArray} {T : Nat} {t : Tk} {rest : List Tk} (h : Rest s T (t :: rest)) :
    ∃ (c : UInt8) (r : List UInt8) (m : Nat), T ≤ t.p ∧ t.p < s.size ∧ s.data.toList.drop t.p = c :: r ∧ (∀ (q : Nat) (hq : q < s.size), T ≤ q → q < t.p → isP (s[q]'hq) = true) ∧ firstT t.p c r = some (m, [t]) ∧ Rest s (t.p + 1 + m) rest := by
  obtain ⟨hT, h⟩ := h
  obtain ⟨j, c, r, m, h1, h2, h3, h4⟩ := lcut_head _ T _ t rest (Nat.le_refl _) h
  have hp : t.p = T + j := by
    rcases first_kind h3 with ⟨_, _, rfl⟩ | ⟨_, _, hp⟩ | ⟨_, _, rfl⟩
    · rfl
    · exact hp
    · rfl
  rw [List.drop_drop] at h1
  have hlen := take_len h1
  have hm := firstT_le h3
  rw [hp]
  refine ⟨c, r, m, by omega, by omega, h1, fun q hq ha hb => ?_, h3, by omega, ?_⟩
  · refine h2 (q - T) _ (by omega) ?_
    rw [List.getElem?_drop, show T + (q - T) = q by omega, List.getElem?_eq_getElem (by simpa using hq)]; rfl
  · rw [show T + j + 1 + m = (T + j) + (1 + m) by omega, ← List.drop_drop (i := 1 + m) (j := T + j), h1, show 1 + m = m + 1 by omega, List.drop_succ_cons, show T + j + (m + 1) = T + j + 1 + m by omega]
    exact h4
set_option maxRecDepth 100000 in
set_option maxHeartbeats 1000000 in
theorem ats_far (s : ByteArray) (w : World) (h1 : 5000 < s.size) : Calls Try.prog 6 #[.string s] w fun e w' => e = .returned (.bool true) ∧ Below w.heap.size w w' := by
  have e1 : (5000 : Int) < (s.size : Int) := by omega
  go_enter Try.func6, Try.ntmps6
  go_wp2_with (go_at_call 7; refine (wakes_any _).mono ?_; rintro e w4 ⟨rfl, hb4⟩)
  go_ret
  exact ⟨rfl, hb4⟩
set_option maxRecDepth 100000 in
set_option maxHeartbeats 1000000 in
theorem ats_bad (s : ByteArray) (w : World) (h1 : s.size ≤ 5000) (p : Nat) (hE : lcut 0 s.data.toList = .error p) : Calls Try.prog 6 #[.string s] w fun e w' => e = .returned (.bool true) ∧ Below w.heap.size w w' := by
  have e1 : (s.size : Int) ≤ 5000 := by omega
  have hp := (lcut_err _ 0 _ p (Nat.le_refl _) hE).2
  have e2 : (p : Int) < (s.size : Int) := by simp at hp; omega
  have e3 : (0 : Int) ≤ (p : Int) := by omega
  have CS := Lib.hid (fun W => cut_bad hE (by omega) W)
  clear hE hp
  go_enter Try.func6, Try.ntmps6
  go_wp2_with (first
    | (go_at_call 8; (with_reducible refine (CS.out _).mono ?_); rintro e w1 ⟨rfl, hb1⟩)
    | (go_at_call 7; refine (wakes_any _).mono ?_; rintro e w4 ⟨rfl, hb4⟩))
  go_ret
  exact ⟨rfl, hb1.trans (hb4.mono hb1.size)⟩
set_option maxRecDepth 100000 in
set_option maxHeartbeats 8000000 in
theorem ats_ok (s : ByteArray) (w : World) (h1 : s.size ≤ 5000) (ts : List Tk) (hE : lcut 0 s.data.toList = .ok ts) (n : Nat) (hn : ts.length = n) (hnz : n ≤ 5000) : Calls Try.prog 6 #[.string s] w fun e w' => e = .returned (.bool true) ∧ Below w.heap.size w w' := by
  have e1 : (s.size : Int) ≤ 5000 := by omega
  have CS := Lib.hid (fun W => cut_ok hE (by omega) W)
  rw [hn] at CS
  have H0 := Lib.hid (show Rest s 0 ts from ⟨Nat.zero_le _, by rw [List.drop_zero]; exact hE⟩)
  have HN := Lib.hid hn
  clear hE hn
  go_enter Try.func6, Try.ntmps6
  go_wp2_with (go_at_call 8; (with_reducible refine (CS.out _).mono ?_); rintro e w1 ⟨A, c, rfl, v1, _, hb1⟩; clear CS; replace hb1 := Lib.hid hb1; replace v1 := Lib.hid v1)
  go_loopw [6, 7] (fun to_ i wr => ∃ k T : Nat, k ≤ n ∧ i = .int .i64 (k : Int) ∧ to_ = .int .i64 (T : Int) ∧ Rest s T (ts.drop k) ∧ Below w1.heap.size w1 wr) (fun _ i _ => n - (intOf i).toNat)
  case atStart => exact ⟨0, 0, Nat.zero_le _, rfl, rfl, H0.out, Below.refl _ _⟩
  case round =>
    obtain ⟨k, T, hk, rfl, rfl, hrest, hbw⟩ := hrel
    have hsz := hbw.size
    have HBW := Lib.hid hbw
    by_cases hlt : k < n
    · obtain ⟨t, ht⟩ : ∃ t, ts[k]? = some t := ⟨_, List.getElem?_eq_getElem (by rw [HN.out]; exact hlt)⟩
      have hdr : ts.drop k = t :: ts.drop (k + 1) := by
        have hh := (List.getElem?_eq_some_iff.1 ht)
        rw [List.drop_eq_getElem_cons hh.1, hh.2]
      rw [hdr] at hrest
      obtain ⟨c', r, m, hTp, hps, hd, hpart, hfst, hnext⟩ := rest_head hrest
      obtain ⟨g, hg, TA⟩ := v1.out.get ht
      subst hg
      replace TA := TA.below hbw
      have hgl := TA.lt
      obtain ⟨a0, a1, a2, a3⟩ := TA
      obtain ⟨P, hP⟩ : ∃ P, P = t.p := ⟨_, rfl⟩
      rw [← hP] at hTp hps hd hpart hfst hnext a3
      have HD := Lib.hid hd
      have HPART := Lib.hid hpart
      have hdlen := take_len hd
      have q1 : ¬ (P : Int) < (T : Int) := by omega
      have q2 : ¬ (s.size : Int) ≤ (P : Int) := by omega
      have HNX : Hid (∃ T', T' = P + 1 + m ∧ Rest s T' (ts.drop (k + 1))) := ⟨_, rfl, hnext⟩
      have hml := firstT_le hfst
      have hkk := first_kind hfst
      clear hd hpart hfst hnext hbw hdr hrest hP ht
      rcases hkk with ⟨hL, hm, rfl⟩ | ⟨hm, hk2, hp2⟩ | ⟨h10, hm, rfl⟩
      · have hext := ext_take HD.out (show P + 1 + m = P + 1 + m from rfl)
        have hS : (⟨(c' :: r.take m).toArray⟩ : ByteArray) = s.extract P (P + 1 + m) := (str_of hext).symm
        have hSz : (s.extract P (P + 1 + m)).size = m + 1 := by rw [Lib.size_eq, hext, List.length_cons, List.length_take_of_le hml]
        dsimp only [tkW] at a0 a1 a2 a3
        rw [hS] at a1
        obtain ⟨S, hSd⟩ : ∃ S, S = s.extract P (P + 1 + m) := ⟨_, rfl⟩
        rw [← hSd] at a1 hSz
        have hS2 : s.extract P (P + S.size) = S := by rw [hSz, hSd, show P + (m + 1) = P + 1 + m by omega]
        have hSp : 0 < S.size := by omega
        have hSe : P + S.size ≤ s.size := by omega
        have HNX2 : Hid (Rest s (P + S.size) (ts.drop (k + 1))) := by
          obtain ⟨T', hT', hr⟩ := HNX.out
          show Rest s (P + S.size) (ts.drop (k + 1))
          rw [hSz, show P + (m + 1) = T' by omega]
          exact hr
        have z1 : ((S.size : Int) == 0) = false := by rw [beq_eq_false_iff_ne]; omega
        have z2 : ¬ (s.size : Int) < (P : Int) + (S.size : Int) := by omega
        have HS2 := Lib.hid hS2
        clear hext hS hSz hSd hm hL HNX hml hdlen
        go_wp2
        go_loop [9] (fun qq => ∃ q : Nat, T ≤ q ∧ q ≤ P ∧ qq = .int .i64 (q : Int)) (fun qq => P - (intOf qq).toNat)
        case atStart => exact ⟨T, Nat.le_refl _, hTp, rfl⟩
        case round =>
          obtain ⟨q, hq1, hq2, rfl⟩ := hrel
          by_cases hqp : q < P
          · have hqs : q < s.size := by omega
            have hqp' : (q : Int) < (P : Int) := by omega
            have hpt := isP_iff.1 (HPART.out q hqs hq1 hqp)
            by_cases h32 : (s[q]'hqs).toNat = 32
            · have e32 : (((s[q]'hqs).toNat : Int) != 32) = false := by simp; omega
              clear h32 hpt
              go_wp2
              go_round
              case rel => exact ⟨q + 1, by omega, by omega, by go_num⟩
              case measure => simp [intOf]; omega
            · have e32 : (((s[q]'hqs).toNat : Int) != 32) = true := by simp; omega
              have e44 : (((s[q]'hqs).toNat : Int) != 44) = false := by simp; omega
              clear h32 hpt
              go_wp2
              go_round
              case rel => exact ⟨q + 1, by omega, by omega, by go_num⟩
              case measure => simp [intOf]; omega
          · have hqp' : ¬ (q : Int) < (P : Int) := by omega
            go_wp2
            have hS2 := HS2.out
            clear HS2
            have hw1 : IntKind.i64.wrap ((P : Int) + (S.size : Int)) = (P : Int) + (S.size : Int) := IntWalk.i64_in _ (by omega)
            have hw2 : ((P : Int) + (S.size : Int)).toNat = P + S.size := by omega
            have hw3 : (0 : Int) ≤ (P : Int) + (S.size : Int) := by omega
            have hw4 : (P : Int) ≤ (P : Int) + (S.size : Int) := by omega
            have hw5 : (P : Int) + (S.size : Int) ≤ (s.size : Int) := by omega
            go_quiet (fail)
            clear hw1 hw2 hw3 hw4 hw5 hS2
            go_wp2
            go_roundw
            case rel => exact ⟨k + 1, P + S.size, hlt, by go_num, by go_num, HNX2.out, below_drewN' (HBW.out.alloc hsz _) _⟩
            case measure => simp [intOf]; omega
      · have HM := Lib.hid hm
        rw [hk2] at a0
        have HL2 := Lib.hid hdlen
        have HML := Lib.hid hml
        clear hm hk2 hp2 hdlen hml
        go_wp2
        go_loop [9] (fun qq => ∃ q : Nat, T ≤ q ∧ q ≤ P ∧ qq = .int .i64 (q : Int)) (fun qq => P - (intOf qq).toNat)
        case atStart => exact ⟨T, Nat.le_refl _, hTp, rfl⟩
        case round =>
          obtain ⟨q, hq1, hq2, rfl⟩ := hrel
          by_cases hqp : q < P
          · have hqs : q < s.size := by omega
            have hqp' : (q : Int) < (P : Int) := by omega
            have hpt := isP_iff.1 (HPART.out q hqs hq1 hqp)
            by_cases h32 : (s[q]'hqs).toNat = 32
            · have e32 : (((s[q]'hqs).toNat : Int) != 32) = false := by simp; omega
              clear h32 hpt
              go_wp2
              go_round
              case rel => exact ⟨q + 1, by omega, by omega, by go_num⟩
              case measure => simp [intOf]; omega
            · have e32 : (((s[q]'hqs).toNat : Int) != 32) = true := by simp; omega
              have e44 : (((s[q]'hqs).toNat : Int) != 44) = false := by simp; omega
              clear h32 hpt
              go_wp2
              go_round
              case rel => exact ⟨q + 1, by omega, by omega, by go_num⟩
              case measure => simp [intOf]; omega
          · have hqp' : ¬ (q : Int) < (P : Int) := by omega
            go_wp2
            go_loop [6] (fun tt => ∃ q : Nat, P + 1 ≤ q ∧ q ≤ P + 1 + m ∧ tt = .int .i64 (q : Int)) (fun tt => P + 1 + m - (intOf tt).toNat)
            case atStart => exact ⟨P + 1, Nat.le_refl _, by omega, by go_num⟩
            case round =>
              obtain ⟨z, hz1, hz2, rfl⟩ := hrel
              by_cases hzm : z < P + 1 + m
              · have hzs : z < s.size := by have := HL2.out; have := HML.out; omega
                have hzd : isD (s[z]'hzs) = true := by
                  have h3 := drop_at HD.out (show P + 1 ≤ z by omega) hzs
                  have h4 := lrun_all isD r (s[z]'hzs)
                  rw [← HM.out] at h4
                  exact h4 (List.mem_of_getElem? (show (r.take m)[z - P - 1]? = _ by rw [List.getElem?_take, if_pos (by omega)]; exact h3))
                have hzz := isD_iff.1 hzd
                have f1 : (48 : Int) ≤ ((s[z]'hzs).toNat : Int) := by omega
                have f2 : ((s[z]'hzs).toNat : Int) ≤ 57 := by omega
                have f3 : (z : Int) < (s.size : Int) := by omega
                clear hzd hzz
                go_wp2
                go_round
                case rel => exact ⟨z + 1, by omega, by omega, by go_num⟩
                case measure => simp [intOf]; omega
              · have hze : z = P + 1 + m := by omega
                have HNX2 : Hid (Rest s z (ts.drop (k + 1))) := by
                  obtain ⟨T', hT', hr⟩ := HNX.out
                  show Rest s z (ts.drop (k + 1))
                  rw [show z = T' by omega]
                  exact hr
                by_cases hzs : z < s.size
                · have hzd : isD (s[z]'hzs) = false := by
                    have h3 := drop_at HD.out (show P + 1 ≤ z by omega) hzs
                    rw [show z - P - 1 = m by omega] at h3
                    cases hq : isD (s[z]'hzs) with
                    | false => rfl
                    | true =>
                      have := (lrun_step (q := isD) (m := m) (by rw [← HM.out]; exact Nat.le_refl _) h3).1 hq
                      have := HM.out
                      omega
                  have hzz := isD_no.1 hzd
                  have f3 : (z : Int) < (s.size : Int) := by omega
                  clear hzd hze HNX
                  by_cases f1 : (48 : Int) ≤ ((s[z]'hzs).toNat : Int)
                  · have f2 : ¬ ((s[z]'hzs).toNat : Int) ≤ 57 := by omega
                    clear hzz
                    go_wp2
                    go_roundw
                    case rel => exact ⟨k + 1, z, hlt, by go_num, rfl, HNX2.out, HBW.out.alloc hsz _⟩
                    case measure => simp [intOf]; omega
                  · clear hzz
                    go_wp2
                    go_roundw
                    case rel => exact ⟨k + 1, z, hlt, by go_num, rfl, HNX2.out, HBW.out.alloc hsz _⟩
                    case measure => simp [intOf]; omega
                · have f3 : ¬ (z : Int) < (s.size : Int) := by omega
                  clear hze HNX
                  go_wp2
                  go_roundw
                  case rel => exact ⟨k + 1, z, hlt, by go_num, rfl, HNX2.out, HBW.out.alloc hsz _⟩
                  case measure => simp [intOf]; omega
      · dsimp only [tkE] at a0 a1 a2 a3
        have hc0 : (s[P]'hps).toNat = 10 := by
          have := drop_get s P hps
          rw [HD.out] at this
          injection this with h1 h2
          rw [← h1]; exact h10
        have e10 : (((s[P]'hps).toNat : Int) != 10) = false := by simp; omega
        have HNX2 : Hid (Rest s (P + 1) (ts.drop (k + 1))) := by
          obtain ⟨T', hT', hr⟩ := HNX.out
          show Rest s (P + 1) (ts.drop (k + 1))
          rw [show P + 1 = T' by omega]
          exact hr
        clear hm h10 hc0 HNX hml hdlen
        go_wp2
        go_loop [9] (fun qq => ∃ q : Nat, T ≤ q ∧ q ≤ P ∧ qq = .int .i64 (q : Int)) (fun qq => P - (intOf qq).toNat)
        case atStart => exact ⟨T, Nat.le_refl _, hTp, rfl⟩
        case round =>
          obtain ⟨q, hq1, hq2, rfl⟩ := hrel
          by_cases hqp : q < P
          · have hqs : q < s.size := by omega
            have hqp' : (q : Int) < (P : Int) := by omega
            have hpt := isP_iff.1 (HPART.out q hqs hq1 hqp)
            by_cases h32 : (s[q]'hqs).toNat = 32
            · have e32 : (((s[q]'hqs).toNat : Int) != 32) = false := by simp; omega
              clear h32 hpt
              go_wp2
              go_round
              case rel => exact ⟨q + 1, by omega, by omega, by go_num⟩
              case measure => simp [intOf]; omega
            · have e32 : (((s[q]'hqs).toNat : Int) != 32) = true := by simp; omega
              have e44 : (((s[q]'hqs).toNat : Int) != 44) = false := by simp; omega
              clear h32 hpt
              go_wp2
              go_round
              case rel => exact ⟨q + 1, by omega, by omega, by go_num⟩
              case measure => simp [intOf]; omega
          · have hqp' : ¬ (q : Int) < (P : Int) := by omega
            go_wp2
            go_roundw
            case rel => exact ⟨k + 1, P + 1, hlt, by go_num, by go_num, HNX2.out, HBW.out.alloc hsz _⟩
            case measure => simp [intOf]; omega
    · have hlt' : ¬ (k : Int) < (n : Int) := by omega
      go_wp2_with (go_at_call 7; refine (wakes_any _).mono ?_; rintro e w4 ⟨rfl, hb4⟩)
      go_ret
      have z1 := hb1.out.size
      exact ⟨rfl, (hb1.out.trans (HBW.out.mono z1)).trans (hb4.mono (by omega))⟩
theorem law_ats (s : ByteArray) (w : World) : Calls Try.prog 6 #[.string s] w fun e w' => e = .returned (.bool true) ∧ Below w.heap.size w w' := by
  by_cases h1 : 5000 < s.size
  · exact ats_far s w h1
  · cases hE : lcut 0 s.data.toList with
    | error p => exact ats_bad s w (by omega) p hE
    | ok ts =>
      have hn := (lcut_bounds _ 0 _ ts (Nat.le_refl _) hE).1
      exact ats_ok s w (by omega) ts hE _ rfl (by simp at hn; omega)
end Go.Proofs.Ytlfcmlaffhcaiaa
