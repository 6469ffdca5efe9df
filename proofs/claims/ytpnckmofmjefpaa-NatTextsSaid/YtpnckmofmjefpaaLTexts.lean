/- The law NatTexts: the digits of any number, and the number of any digits, or that there is none. -/
import Derived.Test.YtpnckmofmjefpaaRefP
import Derived.Test.YtpnckmofmjefpaaLBack
namespace Go.Proofs.Ytpnckmofmjefpaa
open Go.RowKit

theorem rparse_no (s : ByteArray) (w : World) (hs : s.size ≤ 20000) (ht : isTextB s.data.toList = false) :
    Calls Try.prog 44 #[.string s] w fun e w' => e = .returned (.tuple #[.slice none 0 0, .int .i64 11]) ∧ w = w' := by
  refine (rparse_any s w hs).mono ?_
  rintro e w' (⟨_, h⟩ | ⟨h, _⟩)
  · exact h
  · rw [ht] at h; cases h
theorem rparse_yes (s : ByteArray) (w : World) (hs : s.size ≤ 20000) (ht : isTextB s.data.toList = true) :
    Calls Try.prog 44 #[.string s] w fun e w' => ∃ A n c, e = .returned (.tuple #[.slice A n c, .int .i64 0]) ∧ RN w' A n c (dec s.data.toList) 2500 ∧ Below w.heap.size w w' := by
  refine (rparse_any s w hs).mono ?_
  rintro e w' (⟨h, _⟩ | ⟨_, h⟩)
  · rw [ht] at h; cases h
  · exact h
theorem parse_nr (s : ByteArray) (w : World) (hs : s.size ≤ 20000) (ht : isTextB s.data.toList = true) :
    Calls Try.prog 43 #[.string s] w fun e w' => ∃ A n c, e = .returned (.tuple #[.slice A n c, .int .i64 0]) ∧ NG w' A n c (dec s.data.toList) 1250 ∧ Below w.heap.size w w' := by
  have h := dec_fit (isTextB_digits ht) (by rw [← Lib.size_eq s]; exact hs)
  have h9 := lt_64of32 (k := 1250) h rfl
  exact (parse_ok s w hs ht).mono fun e w' g => g.ng h9

set_option maxRecDepth 100000 in
set_option maxHeartbeats 4000000 in
theorem texts_long (s : ByteArray) (A : Option Addr) (n c' V : Nat) (w : World) (a : NR w A n c' V 40) (hn : n ≤ 40) (hA : A = none → c' = 0) (hs : 20000 < s.size) (hsm : s.size ≤ maxLen) :
    Calls Try.prog 6 #[.slice A n c', .string s] w fun e w' => e = .returned (.bool true) ∧ Below w.heap.size w w' := by
  have hb : Below w.heap.size w w := Below.refl _ _
  have HA := Lib.hid hA
  clear hA
  have hs1 : (20000 : Int) < (s.size : Int) := by omega
  go_enter Try.func6, Try.ntmps6
  go_wp2_with (first
      | (go_at_call 43; (with_reducible refine (parse_long s _ hs hsm).mono ?_); rintro e w_p ⟨rfl, rfl⟩)
      | (go_at_call 44; (with_reducible refine (rparse_long s _ hs hsm).mono ?_); rintro e w_q ⟨rfl, rfl⟩
         have gp := NR.zero0 (w := w) 0
         have rp := RN.zero w 0)
      | (go_at_call 17; (with_reducible refine (keep_nr a HA.out (by omega)).mono ?_); rintro e w_ka ⟨A_ka, n_ka, c_ka, rfl, ka, hh⟩
         try replace a := a.below hh
         try replace x := x.below hh
         try replace gp := gp.below hh
         try replace rp := rp.below hh
         replace hb := bend hb hh)
      | (go_at_call 45; (with_reducible refine (text_nr (ka.more (show 40 ≤ 78 by omega))).mono ?_); rintro e w_t ⟨rfl, hh⟩
         try replace a := a.below hh
         try replace x := x.below hh
         try replace ka := ka.below hh
         try replace gp := gp.below hh
         try replace rp := rp.below hh
         replace hb := bend hb hh)
      | (go_at_call 16; (with_reducible refine (rin_nr 80 a (by omega) (by omega)).mono ?_); rintro e w_x ⟨A_x, n_x, c_x, rfl, x, hh⟩
         try replace a := a.below hh
         try replace ka := ka.below hh
         try replace gp := gp.below hh
         try replace rp := rp.below hh
         replace hb := bend hb hh)
      | (go_at_call 46; (with_reducible refine (rtext_any x (by omega)).mono ?_); rintro e w_u ⟨rfl, hh⟩
         try replace a := a.below hh
         try replace x := x.below hh
         try replace ka := ka.below hh
         try replace gp := gp.below hh
         try replace rp := rp.below hh
         replace hb := bend hb hh)
      | (go_at_call 20; (with_reducible refine (same_nr gp rp (by omega) (by omega)).mono ?_); rintro e w_6 ⟨rfl, hh⟩
         try replace a := a.below hh
         try replace x := x.below hh
         try replace ka := ka.below hh
         try replace gp := gp.below hh
         try replace rp := rp.below hh
         replace hb := bend hb hh)
      | (go_at_call 15; (with_reducible refine (wakes_any _).mono ?_); rintro e w_z ⟨rfl, hh⟩
         replace hb := bend hb hh))
  go_ret
  exact ⟨rfl, hb⟩

set_option maxRecDepth 100000 in
set_option maxHeartbeats 4000000 in
theorem texts_form (s : ByteArray) (A : Option Addr) (n c' V : Nat) (w : World) (a : NR w A n c' V 40) (hn : n ≤ 40) (hA : A = none → c' = 0) (hs8 : s.size ≤ 800) (ht : isTextB s.data.toList = false) :
    Calls Try.prog 6 #[.slice A n c', .string s] w fun e w' => e = .returned (.bool true) ∧ Below w.heap.size w w' := by
  have hb : Below w.heap.size w w := Below.refl _ _
  have HA := Lib.hid hA
  clear hA
  have hs : s.size ≤ 20000 := by omega
  have HT := Lib.hid ht
  clear ht
  go_enter Try.func6, Try.ntmps6
  go_wp2_with (first
      | (go_at_call 43; (with_reducible refine (parse_form s _ hs HT.out).mono ?_); rintro e w_p ⟨rfl, rfl⟩)
      | (go_at_call 44; (with_reducible refine (rparse_no s _ hs HT.out).mono ?_); rintro e w_q ⟨rfl, rfl⟩
         have gp := NR.zero0 (w := w) 0
         have rp := RN.zero w 0)
      | (go_at_call 17; (with_reducible refine (keep_nr a HA.out (by omega)).mono ?_); rintro e w_ka ⟨A_ka, n_ka, c_ka, rfl, ka, hh⟩
         try replace a := a.below hh
         try replace x := x.below hh
         try replace gp := gp.below hh
         try replace rp := rp.below hh
         replace hb := bend hb hh)
      | (go_at_call 45; (with_reducible refine (text_nr (ka.more (show 40 ≤ 78 by omega))).mono ?_); rintro e w_t ⟨rfl, hh⟩
         try replace a := a.below hh
         try replace x := x.below hh
         try replace ka := ka.below hh
         try replace gp := gp.below hh
         try replace rp := rp.below hh
         replace hb := bend hb hh)
      | (go_at_call 16; (with_reducible refine (rin_nr 80 a (by omega) (by omega)).mono ?_); rintro e w_x ⟨A_x, n_x, c_x, rfl, x, hh⟩
         try replace a := a.below hh
         try replace ka := ka.below hh
         try replace gp := gp.below hh
         try replace rp := rp.below hh
         replace hb := bend hb hh)
      | (go_at_call 46; (with_reducible refine (rtext_any x (by omega)).mono ?_); rintro e w_u ⟨rfl, hh⟩
         try replace a := a.below hh
         try replace x := x.below hh
         try replace ka := ka.below hh
         try replace gp := gp.below hh
         try replace rp := rp.below hh
         replace hb := bend hb hh)
      | (go_at_call 20; (with_reducible refine (same_nr gp rp (by omega) (by omega)).mono ?_); rintro e w_6 ⟨rfl, hh⟩
         try replace a := a.below hh
         try replace x := x.below hh
         try replace ka := ka.below hh
         try replace gp := gp.below hh
         try replace rp := rp.below hh
         replace hb := bend hb hh)
      | (go_at_call 15; (with_reducible refine (wakes_any _).mono ?_); rintro e w_z ⟨rfl, hh⟩
         replace hb := bend hb hh))
  go_ret
  exact ⟨rfl, hb⟩

set_option maxRecDepth 100000 in
set_option maxHeartbeats 4000000 in
theorem texts_good (s : ByteArray) (A : Option Addr) (n c' V : Nat) (w : World) (a : NR w A n c' V 40) (hn : n ≤ 40) (hA : A = none → c' = 0) (hs8 : s.size ≤ 800) (ht : isTextB s.data.toList = true) :
    Calls Try.prog 6 #[.slice A n c', .string s] w fun e w' => e = .returned (.bool true) ∧ Below w.heap.size w w' := by
  have hb : Below w.heap.size w w := Below.refl _ _
  have HA := Lib.hid hA
  clear hA
  have hs : s.size ≤ 20000 := by omega
  have HT := Lib.hid ht
  clear ht
  go_enter Try.func6, Try.ntmps6
  go_wp2_with (first
      | (go_at_call 43; (with_reducible refine (parse_nr s _ hs HT.out).mono ?_); rintro e w_p ⟨A_p, n_p, c_p, rfl, gp, hh⟩
         try replace a := a.below hh
         try replace x := x.below hh
         try replace ka := ka.below hh
         try replace rp := rp.below hh
         replace hb := bend hb hh)
      | (go_at_call 44; (with_reducible refine (rparse_yes s _ hs HT.out).mono ?_); rintro e w_q ⟨A_q, n_q, c_q, rfl, rp, hh⟩
         try replace a := a.below hh
         try replace x := x.below hh
         try replace ka := ka.below hh
         try replace gp := gp.below hh
         replace hb := bend hb hh)
      | (go_at_call 17; (with_reducible refine (keep_nr a HA.out (by omega)).mono ?_); rintro e w_ka ⟨A_ka, n_ka, c_ka, rfl, ka, hh⟩
         try replace a := a.below hh
         try replace x := x.below hh
         try replace gp := gp.below hh
         try replace rp := rp.below hh
         replace hb := bend hb hh)
      | (go_at_call 45; (with_reducible refine (text_nr (ka.more (show 40 ≤ 78 by omega))).mono ?_); rintro e w_t ⟨rfl, hh⟩
         try replace a := a.below hh
         try replace x := x.below hh
         try replace ka := ka.below hh
         try replace gp := gp.below hh
         try replace rp := rp.below hh
         replace hb := bend hb hh)
      | (go_at_call 16; (with_reducible refine (rin_nr 80 a (by omega) (by omega)).mono ?_); rintro e w_x ⟨A_x, n_x, c_x, rfl, x, hh⟩
         try replace a := a.below hh
         try replace ka := ka.below hh
         try replace gp := gp.below hh
         try replace rp := rp.below hh
         replace hb := bend hb hh)
      | (go_at_call 46; (with_reducible refine (rtext_any x (by omega)).mono ?_); rintro e w_u ⟨rfl, hh⟩
         try replace a := a.below hh
         try replace x := x.below hh
         try replace ka := ka.below hh
         try replace gp := gp.below hh
         try replace rp := rp.below hh
         replace hb := bend hb hh)
      | (go_at_call 20; (with_reducible refine (same_nr gp rp (by omega) (by omega)).mono ?_); rintro e w_6 ⟨rfl, hh⟩
         try replace a := a.below hh
         try replace x := x.below hh
         try replace ka := ka.below hh
         try replace gp := gp.below hh
         try replace rp := rp.below hh
         replace hb := bend hb hh)
      | (go_at_call 15; (with_reducible refine (wakes_any _).mono ?_); rintro e w_z ⟨rfl, hh⟩
         replace hb := bend hb hh))
  go_ret
  exact ⟨rfl, hb⟩

set_option maxRecDepth 100000 in
theorem law_texts (s : ByteArray) (la : List Nat) (A : Option Addr) (n c' : Nat) (w : World) (ha : Rd .u64 w A n la) (La : Lim B64 la) (hnc : n ≤ c') (hA : A = none → c' = 0) (hsm : s.size ≤ maxLen) :
    Calls Try.prog 6 #[.slice A n c', .string s] w fun e w' => e = .returned (.bool true) ∧ Below w.heap.size w w' := by
  by_cases hn : 40 < n
  · have hn1 : (40 : Int) < (n : Int) := by omega
    go_enter Try.func6, Try.ntmps6
    go_wp2_with (go_at_call 15; ((with_reducible refine (wakes_any _).mono ?_); rintro e w' ⟨rfl, h1⟩))
    go_ret
    exact ⟨rfl, h1⟩
  · have a : NR w A n c' (val B64 la) 40 := ⟨la, ha, La, rfl, hnc, by omega⟩
    by_cases h1 : 20000 < s.size
    · exact texts_long s A n c' _ w a (by omega) hA h1 hsm
    · by_cases h2 : 800 < s.size
      · have hn1 : ¬ (40 : Int) < (n : Int) := by omega
        have h3 : (800 : Int) < (s.size : Int) := by omega
        have h4 : (s.size : Int) ≤ 20000 := by omega
        go_enter Try.func6, Try.ntmps6
        go_wp2_with (go_at_call 15; ((with_reducible refine (wakes_any _).mono ?_); rintro e w' ⟨rfl, h1⟩))
        go_ret
        exact ⟨rfl, h1⟩
      · cases ht : isTextB s.data.toList with
        | false => exact texts_form s A n c' _ w a (by omega) hA (by omega) ht
        | true => exact texts_good s A n c' _ w a (by omega) hA (by omega) ht
end Go.Proofs.Ytpnckmofmjefpaa
