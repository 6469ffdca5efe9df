/- path.Good by value: its walk. -/
import Derived.Test.YtnapannphldglaaDoorPathU
namespace Go.Proofs.YtnapannphldglaaDoor
open Go Go.RowKit

set_option maxRecDepth 100000 in
set_option maxHeartbeats 4000000 in
theorem good_0 {w : World} {A : Option Addr} {c : Nat} : Calls Tryd.prog 24 #[.slice A 0 c] w fun e w' => e = .returned (.bool false) ∧ Below w.heap.size w w' := by
  go_enter Tryd.func24, Tryd.ntmps24
  go_wp2
  go_ret
  exact ⟨rfl, Below.refl _ _⟩
set_option maxRecDepth 100000 in
set_option maxHeartbeats 4000000 in
theorem good_far {w : World} {A : Option Addr} {n c : Nat} (hn : 4096 < n) : Calls Tryd.prog 24 #[.slice A n c] w fun e w' => e = .returned (.bool false) ∧ Below w.heap.size w w' := by
  have h1 : ¬ (n : Int) = 0 := by omega
  have h2 : (4096 : Int) < (n : Int) := by omega
  go_enter Tryd.func24, Tryd.ntmps24
  go_wp2
  go_ret
  exact ⟨rfl, Below.refl _ _⟩
set_option maxRecDepth 100000 in
set_option maxHeartbeats 4000000 in
theorem good_kind {w : World} {A : Option Addr} {n c : Nat} {l : List Sg} {s : Sg} (hv : SGV w A l) (hn : l.length = n) (hm : n ≤ 4096) (hs : l[0]? = some s) (hk : ¬ s.k = 1) : Calls Tryd.prog 24 #[.slice A n c] w fun e w' => e = .returned (.bool false) ∧ Below w.heap.size w w' := by
  have hpos : 0 < n := by have := (List.getElem?_eq_some_iff.1 hs).1; omega
  have h1 : ¬ (n : Int) = 0 := by omega
  have h2 : ¬ (4096 : Int) < (n : Int) := by omega
  have h3 : (0 : Int) < (n : Int) := by omega
  obtain ⟨g, o, rfl, hg, c0, -⟩ := hv.at_ hs
  rw [Nat.zero_mul, Nat.add_zero] at c0
  have hk2 : (s.k != 1) = true := by simpa using hk
  clear hv hs hn hk
  go_enter Tryd.func24, Tryd.ntmps24
  go_wp2
  go_ret
  exact ⟨rfl, Below.refl _ _⟩
set_option maxRecDepth 100000 in
set_option maxHeartbeats 4000000 in
theorem good_go {w : World} {A : Option Addr} {n c : Nat} {l : List Sg} {s : Sg} (hl : LtIn w) (hv : SGV w A l) (hn : l.length = n) (hm : n ≤ 4096) (hs : l[0]? = some s) (hk : s.k = 1) : Calls Tryd.prog 24 #[.slice A n c] w fun e w' => e = .returned (.bool (goodF 0 l)) ∧ Below w.heap.size w w' := by
  have hpos : 0 < n := by have := (List.getElem?_eq_some_iff.1 hs).1; omega
  have h1 : ¬ (n : Int) = 0 := by omega
  have h2 : ¬ (4096 : Int) < (n : Int) := by omega
  have h3 : (0 : Int) < (n : Int) := by omega
  have HV := Lib.hid hv
  obtain ⟨g, o, rfl, hg, c0, -⟩ := hv.at_ hs
  rw [Nat.zero_mul, Nat.add_zero, hk] at c0
  have HN := Lib.hid hn
  have HL := Lib.hid hl
  generalize hR : goodF 0 l = R
  have HR := Lib.hid hR
  clear hv hs hn hk hl hR
  go_enter Tryd.func24, Tryd.ntmps24
  go_wp2
  go_loopw [3, 23] (fun a i wr => ∃ k : Nat, k ≤ n ∧ i = .int .i64 (k : Int) ∧ ∃ z : Int, a = .int .i64 z ∧ lastKd (l.take k) = z ∧ goodF 0 (l.take k) = true ∧ Below w.heap.size w wr) (fun _ i _ => n - (intOf i).toNat)
  case atStart => exact ⟨0, Nat.zero_le _, rfl, 0, rfl, rfl, rfl, Below.refl _ _⟩
  case round =>
    obtain ⟨k, hk, rfl, z, rfl, hz, hf, hb⟩ := hrel
    have HB := Lib.hid hb
    have HF := Lib.hid hf
    have HZ := Lib.hid hz
    have hzr := hb.size
    clear hb hf hz
    by_cases hlt : k < n
    · obtain ⟨t, ht⟩ : ∃ t, l[k]? = some t := ⟨_, List.getElem?_eq_getElem (by rw [HN.out]; exact hlt)⟩
      obtain ⟨g', o', ha, hg', d0, d1, d2, d3, d4, d5, d6, d7⟩ := (HV.out.below HB.out).at_ ht
      cases ha
      have HT := Lib.hid ht
      clear ht
      cases ha : goodS t with
      | false =>
        have HA := Lib.hid ha
        have hRf : Hid (R = false) := by show _ = _; rw [← HR.out]; exact goodF_miss HT.out (by rw [HA.out]; rfl)
        clear ha
        go_wp2_with (go_at_call 33; refine (gpart_any t (HL.out.below (HB.out.alloc hzr _) HL.out.lt)).mono ?_; rw [HA.out]; rintro e w4 ⟨rfl, hb4⟩)
        go_ret
        exact ⟨by rw [hRf.out]; rfl, (HB.out.alloc hzr _).trans (hb4.mono (by simp; omega))⟩
      | true =>
        have HA := Lib.hid ha
        clear ha
        by_cases h6 : t.k = 6
        · by_cases hz6 : z = 6
          · have hRf : Hid (R = false) := by show _ = _; rw [← HR.out]; exact goodF_miss HT.out (by rw [HA.out, HZ.out, h6, hz6]; rfl)
            have H6 := Lib.hid h6
            subst hz6
            clear h6
            go_wp2_with (go_at_call 33; refine (gpart_any t (HL.out.below (HB.out.alloc hzr _) HL.out.lt)).mono ?_; rw [HA.out]; rintro e w4 ⟨rfl, hb4⟩; have q0 := ((SB.new wr t).below hb4 (SB.new wr t).lt).c0; rw [H6.out] at q0)
            go_ret
            exact ⟨by rw [hRf.out]; rfl, (HB.out.alloc hzr _).trans (hb4.mono (by simp; omega))⟩
          · have hit := goodF_hit HF.out HT.out (by rw [HA.out, HZ.out, decide_eq_false hz6, Bool.and_false]; rfl)
            have HIT := Lib.hid hit
            have H6 := Lib.hid h6
            clear hit h6
            go_wp2_with (go_at_call 33; refine (gpart_any t (HL.out.below (HB.out.alloc hzr _) HL.out.lt)).mono ?_; rw [HA.out]; rintro e w4 ⟨rfl, hb4⟩; have q0 := ((SB.new wr t).below hb4 (SB.new wr t).lt).c0; rw [H6.out] at q0)
            exact ⟨⟨k + 1, hlt, by go_num, 6, rfl, by rw [HIT.out.2, H6.out], HIT.out.1, (HB.out.alloc hzr _).trans (hb4.mono (by simp; omega))⟩, by simp [intOf]; omega⟩
        · have hit := goodF_hit HF.out HT.out (by rw [HA.out, decide_eq_false h6]; rfl)
          have HIT := Lib.hid hit
          clear hit
          go_wp2_with (go_at_call 33; refine (gpart_any t (HL.out.below (HB.out.alloc hzr _) HL.out.lt)).mono ?_; rw [HA.out]; rintro e w4 ⟨rfl, hb4⟩; have q0 := ((SB.new wr t).below hb4 (SB.new wr t).lt).c0)
          exact ⟨⟨k + 1, hlt, by go_num, t.k, rfl, HIT.out.2, HIT.out.1, (HB.out.alloc hzr _).trans (hb4.mono (by simp; omega))⟩, by simp [intOf]; omega⟩
    · have : k = n := by omega
      subst this
      have hR := HF.out
      rw [List.take_of_length_le (by rw [HN.out]; exact Nat.le_refl _)] at hR
      go_wp2
      go_ret
      exact ⟨by rw [← HR.out, hR]; rfl, HB.out⟩
end Go.Proofs.YtnapannphldglaaDoor
