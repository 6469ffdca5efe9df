/- gessolaw11.PathBack. -/
import Derived.Test.YtaoobmcdbkipiaaDoorPathWk
import Derived.Test.YtaoobmcdbkipiaaDoorPathR2
import Derived.Test.YtaoobmcdbkipiaaDoorPathR3
namespace Go.Proofs.YtaoobmcdbkipiaaDoor
open Go Go.RowKit

theorem drawsP_err : ∀ {l : List Pa} {P : Pn} {q : Int × Int}, drawsP P l = .error q → ¬ q.2 = 0
  | [], P, q, h => (by cases h)
  | x :: r, P, q, h => by
    unfold drawsP at h
    cases hd : drawP P x with
    | error z => rw [hd] at h; cases h; exact drawP_err hd
    | ok P' => rw [hd] at h; exact drawsP_err h
theorem ofP_err {l : List UInt8} {q : Int × Int} (h : ofP l = .error q) : ¬ q.2 = 0 := by
  unfold ofP at h
  cases hc : lcut 0 l with
  | error p => rw [hc] at h; cases h; simp
  | ok ts =>
    rw [hc] at h
    simp only [parseP] at h
    cases hr : readP ts (l.length : Int) with
    | error p => rw [hr] at h; cases h; simp
    | ok ys =>
      rw [hr] at h
      simp only at h
      cases hd : drawsP pen0 ys with
      | error z => rw [hd] at h; cases h; exact drawsP_err hd
      | ok P => rw [hd] at h; cases h
theorem bk_of {w : World} {s : ByteArray} {a : List Sg} (hs : s.size ≤ 1048576) (h : LtIn w) (ha : ofP s.data.toList = .ok a) :
    Calls Tryd.prog 14 #[.string s] w fun e w' => ∃ A c, e = .returned (.tuple #[.slice A a.length c, .int .i64 0, .int .i64 0]) ∧ SGV w' A a ∧ Below w.heap.size w w' := by
  refine (of11 hs h).mono fun e w' hg => ?_
  rw [ha] at hg
  obtain ⟨⟨_, A, c, he, hr⟩, hb⟩ := hg
  exact ⟨A, c, he, SGV.of_row hr rfl, hb⟩
theorem bk_err {w : World} {s : ByteArray} {q : Int × Int} (hs : s.size ≤ 1048576) (h : LtIn w) (ha : ofP s.data.toList = .error q) :
    Calls Tryd.prog 14 #[.string s] w fun e w' => e = .returned (.tuple #[.slice none 0 0, .int .i64 q.1, .int .i64 q.2]) ∧ Below w.heap.size w w' := by
  refine (of11 hs h).mono fun e w' hg => ?_
  rw [ha] at hg
  exact hg
theorem bk_txt {w : World} {l : List Sg} (hg : goodL l = true) (h : LtIn w) :
    Calls Tryd.prog 14 #[.string ⟨(textP l).toArray⟩] w fun e w' => ∃ A c, e = .returned (.tuple #[.slice A l.length c, .int .i64 0, .int .i64 0]) ∧ SGV w' A l ∧ Below w.heap.size w w' := by
  obtain ⟨hm, hl⟩ := goodL_mem hg
  have h1 := textP_len hm
  have h2 : (⟨(textP l).toArray⟩ : ByteArray).size = (textP l).length := by simp [ByteArray.size]
  exact bk_of (by rw [h2]; omega) h (of_text hg)
theorem bk_same {w : World} {A B : Option Addr} {c d n : Nat} {l : List Sg} (ha : SGV w A l) (hb : SGV w B l) (hn : l.length = n) (hl : l.length ≤ 4096) :
    Calls Tryd.prog 13 #[.slice A n c, .slice B n d] w fun e w' => e = .returned (.bool true) ∧ Below w.heap.size w w' := by
  refine (segs_same A B c d n l w ha hb hn (by omega)).mono fun e w' hg => ?_
  obtain ⟨he, q, rfl⟩ := hg
  exact ⟨he, rfl, rfl, rfl, Nat.le_refl _, fun _ _ => rfl⟩
theorem bk_good {w : World} {A : Option Addr} {n c : Nat} {l : List Sg} (hl : LtIn w) (hv : SGV w A l) (hn : l.length = n) (hg : goodL l = true) :
    Calls Tryd.prog 11 #[.slice A n c] w fun e w' => e = .returned (.bool true) ∧ Below w.heap.size w w' := by
  have := good_any (c := c) hl hv hn
  rw [hg] at this
  exact this
set_option maxRecDepth 100000 in
set_option maxHeartbeats 4000000 in
theorem back_many {w : World} {A : Option Addr} {c n : Nat} {s : ByteArray} (hd : LD w) (hn : 300 < n) (_hm : n ≤ maxLen) :
    Calls Tryd.prog 4 #[.slice A n c, .string s] w fun e w' => e = .returned (.bool true) ∧ Below w.heap.size w w' := by
  have HD0 := Lib.hid hd
  clear hd
  go_enter Tryd.func4, Tryd.ntmps4
  go_wp2_with (go_at_call 8; (with_reducible refine (wakes11 HD0.out).mono ?_); rintro e w1 ⟨rfl, hb⟩)
  go_ret
  exact ⟨rfl, hb⟩
set_option maxRecDepth 100000 in
set_option maxHeartbeats 4000000 in
theorem back_long {w : World} {A : Option Addr} {c n : Nat} {s : ByteArray} (hd : LD w) (hn : n ≤ 300) (hs : 2000 < s.size) (_hm : s.size ≤ maxLen) :
    Calls Tryd.prog 4 #[.slice A n c, .string s] w fun e w' => e = .returned (.bool true) ∧ Below w.heap.size w w' := by
  have HD0 := Lib.hid hd
  clear hd
  go_enter Tryd.func4, Tryd.ntmps4
  go_wp2_with (go_at_call 8; (with_reducible refine (wakes11 HD0.out).mono ?_); rintro e w1 ⟨rfl, hb⟩)
  go_ret
  exact ⟨rfl, hb⟩
set_option maxRecDepth 100000 in
set_option maxHeartbeats 4000000 in
theorem back_gg {w : World} {A : Option Addr} {c : Nat} {l : List Sg} {s : ByteArray} {a : List Sg} (hd : LD w) (hv : SGV w A l) (hn : l.length ≤ 300) (hs : s.size ≤ 2000) (hg : goodL l = true) (ho : ofP s.data.toList = .ok a) :
    Calls Tryd.prog 4 #[.slice A l.length c, .string s] w fun e w' => e = .returned (.bool true) ∧ Below w.heap.size w w' := by
  have HL := Lib.hid (goodL_mem hg).2
  have HG2 := Lib.hid (of_good ho)
  have HL2 := Lib.hid (goodL_mem (of_good ho)).2
  have HS := Lib.hid (Nat.le_trans hs (show 2000 ≤ 1048576 by decide))
  have HG := Lib.hid hg
  have HO := Lib.hid ho
  have HD0 := Lib.hid hd
  have HV0 := Lib.hid hv
  have HB0 := Lib.hid (Below.refl w.heap.size w)
  clear hd hv hg ho
  go_enter Tryd.func4, Tryd.ntmps4
  go_wp2_with (first
    | (go_at_call 9; (with_reducible refine (text_go (c := c) HD0.out.l HD0.out.t HV0.out rfl HG.out).mono ?_); rintro e w1 ⟨rfl, hb⟩; have HB1 := Lib.hid (HB0.out.trans (hb.mono HB0.out.size)); have HD1 := Lib.hid (HD0.out.below hb); have HV1 := Lib.hid (HV0.out.below hb); clear hb)
    | (go_at_call 14; (with_reducible refine (bk_txt HG.out HD1.out.l).mono ?_); rintro e w2 ⟨A1, c1, rfl, hv, hb⟩; have HB2 := Lib.hid (HB1.out.trans (hb.mono HB1.out.size)); have HD2 := Lib.hid (HD1.out.below hb); have HV2 := Lib.hid (HV1.out.below hb); have HA2 := Lib.hid hv; clear hv; clear hb)
    | (go_at_call 13; (with_reducible refine (bk_same HA2.out HV2.out rfl HL.out).mono ?_); rintro e w3 ⟨rfl, hb⟩; have HB3 := Lib.hid (HB2.out.trans (hb.mono HB2.out.size)); have HD3 := Lib.hid (HD2.out.below hb); have HV3 := Lib.hid (HV2.out.below hb); clear hb)
    | (go_at_call 14; (with_reducible refine (bk_of HS.out HD3.out.l HO.out).mono ?_); rintro e w4 ⟨A2, c2, rfl, hv, hb⟩; have HB4 := Lib.hid (HB3.out.trans (hb.mono HB3.out.size)); have HD4 := Lib.hid (HD3.out.below hb); have HE4 := Lib.hid hv; clear hv; clear hb)
    | (go_at_call 9; (with_reducible refine (text_go (c := c2) HD4.out.l HD4.out.t HE4.out rfl HG2.out).mono ?_); rintro e w5 ⟨rfl, hb⟩; have HB5 := Lib.hid (HB4.out.trans (hb.mono HB4.out.size)); have HD5 := Lib.hid (HD4.out.below hb); have HE5 := Lib.hid (HE4.out.below hb); clear hb)
    | (go_at_call 14; (with_reducible refine (bk_txt HG2.out HD5.out.l).mono ?_); rintro e w6 ⟨A3, c3, rfl, hv, hb⟩; have HB6 := Lib.hid (HB5.out.trans (hb.mono HB5.out.size)); have HD6 := Lib.hid (HD5.out.below hb); have HE6 := Lib.hid (HE5.out.below hb); have HF6 := Lib.hid hv; clear hv; clear hb)
    | (go_at_call 11; (with_reducible refine (bk_good HD6.out.l HE6.out rfl HG2.out).mono ?_); rintro e w7 ⟨rfl, hb⟩; have HB7 := Lib.hid (HB6.out.trans (hb.mono HB6.out.size)); have HD7 := Lib.hid (HD6.out.below hb); have HE7 := Lib.hid (HE6.out.below hb); have HF7 := Lib.hid (HF6.out.below hb); clear hb)
    | (go_at_call 13; (with_reducible refine (bk_same HF7.out HE7.out rfl HL2.out).mono ?_); rintro e w8 ⟨rfl, hb⟩; have HB8 := Lib.hid (HB7.out.trans (hb.mono HB7.out.size)); have HD8 := Lib.hid (HD7.out.below hb); clear hb)
    | (go_at_call 8; (with_reducible refine (wakes11 HD8.out).mono ?_); rintro e w9 ⟨rfl, hb⟩; have HB9 := Lib.hid (HB8.out.trans (hb.mono HB8.out.size)); have HD9 := Lib.hid (HD8.out.below hb); clear hb))
  go_ret
  exact ⟨rfl, HB9.out⟩
set_option maxRecDepth 100000 in
set_option maxHeartbeats 4000000 in
theorem back_ge {w : World} {A : Option Addr} {c : Nat} {l : List Sg} {s : ByteArray} {q : Int × Int} (hd : LD w) (hv : SGV w A l) (hn : l.length ≤ 300) (hs : s.size ≤ 2000) (hg : goodL l = true) (ho : ofP s.data.toList = .error q) :
    Calls Tryd.prog 4 #[.slice A l.length c, .string s] w fun e w' => e = .returned (.bool true) ∧ Below w.heap.size w w' := by
  have HL := Lib.hid (goodL_mem hg).2
  have hq : ¬ q.2 = 0 := ofP_err ho
  have HS := Lib.hid (Nat.le_trans hs (show 2000 ≤ 1048576 by decide))
  have HG := Lib.hid hg
  have HO := Lib.hid ho
  have HD0 := Lib.hid hd
  have HV0 := Lib.hid hv
  have HB0 := Lib.hid (Below.refl w.heap.size w)
  clear hd hv hg ho
  go_enter Tryd.func4, Tryd.ntmps4
  go_wp2_with (first
    | (go_at_call 9; (with_reducible refine (text_go (c := c) HD0.out.l HD0.out.t HV0.out rfl HG.out).mono ?_); rintro e w1 ⟨rfl, hb⟩; have HB1 := Lib.hid (HB0.out.trans (hb.mono HB0.out.size)); have HD1 := Lib.hid (HD0.out.below hb); have HV1 := Lib.hid (HV0.out.below hb); clear hb)
    | (go_at_call 14; (with_reducible refine (bk_txt HG.out HD1.out.l).mono ?_); rintro e w2 ⟨A1, c1, rfl, hv, hb⟩; have HB2 := Lib.hid (HB1.out.trans (hb.mono HB1.out.size)); have HD2 := Lib.hid (HD1.out.below hb); have HV2 := Lib.hid (HV1.out.below hb); have HA2 := Lib.hid hv; clear hv; clear hb)
    | (go_at_call 13; (with_reducible refine (bk_same HA2.out HV2.out rfl HL.out).mono ?_); rintro e w3 ⟨rfl, hb⟩; have HB3 := Lib.hid (HB2.out.trans (hb.mono HB2.out.size)); have HD3 := Lib.hid (HD2.out.below hb); have HV3 := Lib.hid (HV2.out.below hb); clear hb)
    | (go_at_call 14; (with_reducible refine (bk_err HS.out HD3.out.l HO.out).mono ?_); rintro e w4 ⟨rfl, hb⟩; have HB4 := Lib.hid (HB3.out.trans (hb.mono HB3.out.size)); have HD4 := Lib.hid (HD3.out.below hb); clear hb)
    | (go_at_call 8; (with_reducible refine (wakes11 HD4.out).mono ?_); rintro e w5 ⟨rfl, hb⟩; have HB5 := Lib.hid (HB4.out.trans (hb.mono HB4.out.size)); have HD5 := Lib.hid (HD4.out.below hb); clear hb))
  go_ret
  exact ⟨rfl, HB5.out⟩
set_option maxRecDepth 100000 in
set_option maxHeartbeats 4000000 in
theorem back_bg {w : World} {A : Option Addr} {c : Nat} {l : List Sg} {s : ByteArray} {a : List Sg} (hd : LD w) (hv : SGV w A l) (hn : l.length ≤ 300) (hs : s.size ≤ 2000) (hg : goodL l = false) (ho : ofP s.data.toList = .ok a) :
    Calls Tryd.prog 4 #[.slice A l.length c, .string s] w fun e w' => e = .returned (.bool true) ∧ Below w.heap.size w w' := by
  have HG2 := Lib.hid (of_good ho)
  have HL2 := Lib.hid (goodL_mem (of_good ho)).2
  have HS := Lib.hid (Nat.le_trans hs (show 2000 ≤ 1048576 by decide))
  have HG := Lib.hid hg
  have HO := Lib.hid ho
  have HD0 := Lib.hid hd
  have HV0 := Lib.hid hv
  have HB0 := Lib.hid (Below.refl w.heap.size w)
  clear hd hv hg ho
  go_enter Tryd.func4, Tryd.ntmps4
  go_wp2_with (first
    | (go_at_call 9; (with_reducible refine (text_bad (c := c) HD0.out.l HV0.out rfl HG.out).mono ?_); rintro e w1 ⟨rfl, hb⟩; have HB1 := Lib.hid (HB0.out.trans (hb.mono HB0.out.size)); have HD1 := Lib.hid (HD0.out.below hb); have HV1 := Lib.hid (HV0.out.below hb); clear hb)
    | (go_at_call 14; (with_reducible refine (bk_of HS.out HD1.out.l HO.out).mono ?_); rintro e w2 ⟨A2, c2, rfl, hv, hb⟩; have HB2 := Lib.hid (HB1.out.trans (hb.mono HB1.out.size)); have HD2 := Lib.hid (HD1.out.below hb); have HE2 := Lib.hid hv; clear hv; clear hb)
    | (go_at_call 9; (with_reducible refine (text_go (c := c2) HD2.out.l HD2.out.t HE2.out rfl HG2.out).mono ?_); rintro e w3 ⟨rfl, hb⟩; have HB3 := Lib.hid (HB2.out.trans (hb.mono HB2.out.size)); have HD3 := Lib.hid (HD2.out.below hb); have HE3 := Lib.hid (HE2.out.below hb); clear hb)
    | (go_at_call 14; (with_reducible refine (bk_txt HG2.out HD3.out.l).mono ?_); rintro e w4 ⟨A3, c3, rfl, hv, hb⟩; have HB4 := Lib.hid (HB3.out.trans (hb.mono HB3.out.size)); have HD4 := Lib.hid (HD3.out.below hb); have HE4 := Lib.hid (HE3.out.below hb); have HF4 := Lib.hid hv; clear hv; clear hb)
    | (go_at_call 11; (with_reducible refine (bk_good HD4.out.l HE4.out rfl HG2.out).mono ?_); rintro e w5 ⟨rfl, hb⟩; have HB5 := Lib.hid (HB4.out.trans (hb.mono HB4.out.size)); have HD5 := Lib.hid (HD4.out.below hb); have HE5 := Lib.hid (HE4.out.below hb); have HF5 := Lib.hid (HF4.out.below hb); clear hb)
    | (go_at_call 13; (with_reducible refine (bk_same HF5.out HE5.out rfl HL2.out).mono ?_); rintro e w6 ⟨rfl, hb⟩; have HB6 := Lib.hid (HB5.out.trans (hb.mono HB5.out.size)); have HD6 := Lib.hid (HD5.out.below hb); clear hb)
    | (go_at_call 8; (with_reducible refine (wakes11 HD6.out).mono ?_); rintro e w7 ⟨rfl, hb⟩; have HB7 := Lib.hid (HB6.out.trans (hb.mono HB6.out.size)); have HD7 := Lib.hid (HD6.out.below hb); clear hb))
  go_ret
  exact ⟨rfl, HB7.out⟩
set_option maxRecDepth 100000 in
set_option maxHeartbeats 4000000 in
theorem back_be {w : World} {A : Option Addr} {c : Nat} {l : List Sg} {s : ByteArray} {q : Int × Int} (hd : LD w) (hv : SGV w A l) (hn : l.length ≤ 300) (hs : s.size ≤ 2000) (hg : goodL l = false) (ho : ofP s.data.toList = .error q) :
    Calls Tryd.prog 4 #[.slice A l.length c, .string s] w fun e w' => e = .returned (.bool true) ∧ Below w.heap.size w w' := by
  have hq : ¬ q.2 = 0 := ofP_err ho
  have HS := Lib.hid (Nat.le_trans hs (show 2000 ≤ 1048576 by decide))
  have HG := Lib.hid hg
  have HO := Lib.hid ho
  have HD0 := Lib.hid hd
  have HV0 := Lib.hid hv
  have HB0 := Lib.hid (Below.refl w.heap.size w)
  clear hd hv hg ho
  go_enter Tryd.func4, Tryd.ntmps4
  go_wp2_with (first
    | (go_at_call 9; (with_reducible refine (text_bad (c := c) HD0.out.l HV0.out rfl HG.out).mono ?_); rintro e w1 ⟨rfl, hb⟩; have HB1 := Lib.hid (HB0.out.trans (hb.mono HB0.out.size)); have HD1 := Lib.hid (HD0.out.below hb); have HV1 := Lib.hid (HV0.out.below hb); clear hb)
    | (go_at_call 14; (with_reducible refine (bk_err HS.out HD1.out.l HO.out).mono ?_); rintro e w2 ⟨rfl, hb⟩; have HB2 := Lib.hid (HB1.out.trans (hb.mono HB1.out.size)); have HD2 := Lib.hid (HD1.out.below hb); clear hb)
    | (go_at_call 8; (with_reducible refine (wakes11 HD2.out).mono ?_); rintro e w3 ⟨rfl, hb⟩; have HB3 := Lib.hid (HB2.out.trans (hb.mono HB2.out.size)); have HD3 := Lib.hid (HD2.out.below hb); clear hb))
  go_ret
  exact ⟨rfl, HB3.out⟩
theorem back_all {w : World} {A : Option Addr} {c n : Nat} {l : List Sg} {s : ByteArray} (hd : LD w) (hv : SGV w A l) (hn : l.length = n) (hm : n ≤ maxLen) (hs : s.size ≤ maxLen) :
    Calls Tryd.prog 4 #[.slice A n c, .string s] w fun e w' => e = .returned (.bool true) ∧ Below w.heap.size w w' := by
  rcases Nat.lt_or_ge 300 n with h | h
  · exact back_many hd h hm
  rcases Nat.lt_or_ge 2000 s.size with k | k
  · exact back_long hd h k hs
  subst hn
  cases ho : ofP s.data.toList with
  | ok a =>
    cases hg : goodL l with
    | true => exact back_gg hd hv h k hg ho
    | false => exact back_bg hd hv h k hg ho
  | error q =>
    cases hg : goodL l with
    | true => exact back_ge hd hv h k hg ho
    | false => exact back_be hd hv h k hg ho
end Go.Proofs.YtaoobmcdbkipiaaDoor
