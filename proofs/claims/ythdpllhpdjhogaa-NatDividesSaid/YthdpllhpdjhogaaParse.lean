/- nat.Parse. -/
import Derived.Test.YthdpllhpdjhogaaTimes
import Derived.Test.YthdpllhpdjhogaaTens
import Derived.Deep.RegionWith
namespace Go.Proofs.Ythdpllhpdjhogaa
open Go.RowKit

theorem limbs_of_full {l : List Nat} {n : Nat} (hL : Lim B64 l) (hl : l.length = n) (h : n = 0 ∨ B64 ^ (n - 1) ≤ val B64 l) : l = limbs B64 (val B64 l) := by
  obtain ⟨h1, h2⟩ := limbs_prefix B64_two hL
  have h3 : n ≤ (limbs B64 (val B64 l)).length := by
    rcases h with h | h
    · omega
    · rcases Nat.lt_or_ge (limbs B64 (val B64 l)).length n with h4 | h4
      · have := lt_pow_limbs B64_two (val B64 l)
        have h5 := Nat.pow_le_pow_right (n := B64) (by decide) (show (limbs B64 (val B64 l)).length ≤ n - 1 by omega)
        omega
      · exact h4
  have h4 : l.length - (limbs B64 (val B64 l)).length = 0 := by omega
  rw [h4, List.replicate_zero, List.append_nil] at h1
  exact h1

theorem parse_long (s : ByteArray) (w : World) (h : 20000 < s.size) (hm : s.size ≤ maxLen) :
    Calls Try.prog 38 #[.string s] w fun e w' => e = .returned (.tuple #[.slice none 0 0, .int .i64 2]) ∧ w = w' := by
  unfold maxLen at hm
  go_enter Try.func38, Try.ntmps38
  go_wp2_with fail
  go_ret2
  exact ⟨rfl, rfl⟩

theorem parse_form (s : ByteArray) (w : World) (h : s.size ≤ 20000) (ht : isTextB s.data.toList = false) :
    Calls Try.prog 38 #[.string s] w fun e w' => e = .returned (.tuple #[.slice none 0 0, .int .i64 11]) ∧ w = w' := by
  have H := Lib.hid ht
  clear ht
  go_enter Try.func38, Try.ntmps38
  go_wp2_with (go_at_call 62; refine (isText_any s w h).mono ?_; rintro e w' ⟨rfl, hw⟩; obtain rfl := hw.symm; rw [H.out])
  go_ret2
  exact ⟨rfl, rfl⟩

/-- The length of a string's value. -/
def sSize : Value → Nat
  | .string s => s.size
  | _ => 0

set_option maxRecDepth 100000 in
set_option maxHeartbeats 1000000 in
theorem parse_ok (s : ByteArray) (w : World) (h : s.size ≤ 20000) (ht : isTextB s.data.toList = true) :
    Calls Try.prog 38 #[.string s] w (GivesE .u64 34 w (limbs B64 (dec s.data.toList)) 0) := by
  have HD := Lib.hid (isTextB_digits ht)
  have H := Lib.hid ht
  have HS := Lib.hid (Lib.size_eq s)
  clear ht
  obtain ⟨i0, hi, hz0, hz1, hz2⟩ := info_parts info_u64
  go_enter Try.func38, Try.ntmps38
  go_wp2_with (first
    | (go_at_call 62; refine (isText_any s w h).mono ?_; rintro e w' ⟨rfl, hw⟩; obtain rfl := hw.symm; rw [H.out])
    | (at_make
       refine wpList_make_own _ rfl (.const (.int .i64 0)) (.tmp 15) 22 rfl w.heap.size 34 i0 (.int .u64 0) 1 Try.underlying22 hi hz0 hz1 .i64 .i64 _ (s.size / 19 + 1) rfl rfl (by omega) (by rw [hz2]; omega) (by unfold maxLen; omega) (Nat.le_refl _) ?_
       intro w1 hown1 hgrow1))
  have hb1 : Below w.heap.size w w1 := (Below.refl _ _).grown hgrow1 (Nat.le_refl _) (by simp)
  have hc1 : s.size / 19 + 1 ≤ 20000 := by omega
  have hfr1 : Fr .u64 34 w1 w.heap.size (some ⟨w.heap.size, 0, none⟩) 0 (s.size / 19 + 1) [] := ⟨rfl, hown1⟩
  go_loopw [0, 4] (fun t v wr => ∃ (r : ByteArray) (A : Option Addr) (n c : Nat) (l : List Nat), t = .string r ∧ v = .slice A n c ∧ r.size ≤ s.size ∧ n + r.size ≤ 20000 ∧ n ≤ c ∧ Hid (c ≤ maxLen) ∧ Fr .u64 34 wr w.heap.size A n c l ∧ Below w.heap.size w wr ∧
      Hid (∃ p, s.data.toList = p ++ r.data.toList ∧ l = limbs B64 (dec p) ∧ n ≤ p.length)) (fun t _ _ => sSize t)
  case atStart => exact ⟨s, _, 0, _, [], rfl, rfl, Nat.le_refl _, by omega, Nat.zero_le _, by show _ ≤ _; unfold maxLen; omega, hfr1, hb1, [], rfl, by rw [show dec [] = 0 from rfl, limbs_zero], Nat.le_refl _⟩
  case round =>
    obtain ⟨r, A, n, c, l, rfl, rfl, hr, hnr, hnc, HC, hfr, hbl, HV⟩ := hrel
    by_cases hr0 : 0 < r.size
    · obtain ⟨m, hm⟩ : ∃ m, m = (r.size - 1) % 19 + 1 := ⟨_, rfl⟩
      have hm1 : 1 ≤ m := by omega
      have hm19 : m ≤ 19 := by omega
      have hmr : m ≤ r.size := by omega
      have hme : ((r.size : Int) - 1) % 19 + 1 = (m : Int) := by omega
      clear hm
      have hdg : Hid (Digits r.data.toList) := by
        obtain ⟨p, hp, _⟩ := HV.out
        intro x hx
        exact HD.out x (by rw [hp]; simp [hx])
      have hxs : (r.extract 0 m).size ≤ 19 := by rw [ByteArray.size_extract]; omega
      have hxd : Digits (r.extract 0 m).data.toList := by
        rw [Lib.extract_data]
        intro x hx
        exact hdg.out x (List.mem_of_mem_drop (List.mem_of_mem_take hx))
      have hfd : Fr .u64 34 wr.drew w.heap.size A n c l := ⟨hfr.1, hfr.2⟩
      have HLL : Hid (Lim B64 l) := by
        obtain ⟨p, _, hl, _⟩ := HV.out
        show Lim B64 l
        rw [hl]; exact lim_limbs B64_two _
      have HDB : Hid (dec (r.data.toList.take m) < B64) := by
        show _ < _
        have h1 := dec_lt (l := r.data.toList.take m) (fun x hx => hdg.out x (List.mem_of_mem_take hx))
        have h2 : (r.data.toList.take m).length ≤ 19 := by rw [List.length_take]; omega
        exact Nat.lt_of_lt_of_le h1 (Nat.le_trans (Nat.pow_le_pow_right (by omega) h2) (show 10 ^ 19 ≤ B64 by decide))
      have HNB : Hid (n ≤ 17592186044415) := by show n ≤ _; omega
      have HXS := Lib.hid hxs
      have HXD := Lib.hid hxd
      clear hxs hxd
      go_wp2_with fail
      go_region_with (first
        | (go_at_call 64; refine (powerOfTen_any m _ hm19).mono ?_; rintro e w' ⟨rfl, rfl⟩)
        | (go_at_call 65; refine (limbOf_any (r.extract 0 m) _ HXS.out HXD.out).mono ?_; rintro e w' ⟨rfl, rfl⟩)
        | (go_at_call 63; refine (timesAnd_any l A n c (tenTo m) (dec (r.data.toList.take m)) w.heap.size wr.drew hfd HLL.out (tenTo_lt hm19) HDB.out hbl.size HNB.out hnc HC.out).mono ?_; rintro e w' ⟨A', n', c', l', rfl, hq1, hq2, hq3, hq4, hq5, hq6, hq7⟩))
      all_goals
        have HQ3 := Lib.hid hq3
        have HQ4 := Lib.hid hq4
        have HQ5 := Lib.hid hq5
        have HQ6 := Lib.hid hq6
        clear hq3 hq4 hq5 hq6
        go_wp2_with fail
        go_roundw
        case rel =>
          obtain ⟨p, hp1, hp2, hp3⟩ := HV.out
          have hsz : (r.extract m r.size).size = r.size - m := by rw [ByteArray.size_extract]; omega
          have hrl : r.data.toList.length = r.size := (Lib.size_eq r).symm
          have hval : val B64 l' = dec (p ++ r.data.toList.take m) := by
            rw [dec_append, HQ5.out, hp2, val_limbs B64_two, List.length_take, hrl, Nat.min_eq_left hmr]; rfl
          have hll : l' = limbs B64 (dec (p ++ r.data.toList.take m)) := by
            rw [← hval]
            refine limbs_of_full HQ4.out hq1.1 ?_
            have hlen : (limbs B64 (dec p)).length = n := by rw [← hp2]; exact hfr.1
            rcases HQ6.out with h5 | ⟨h5, h6⟩
            · rcases Nat.eq_zero_or_pos n with h7 | h7
              · left; omega
              · right
                rw [h5]
                have h8 := pow_le_of_length B64_two (n := dec p) (k := n - 1) (by omega)
                refine Nat.le_trans h8 ?_
                rw [hval, dec_append]
                have := Nat.mul_le_mul_left (dec p) (show 1 ≤ 10 ^ (r.data.toList.take m).length from Nat.pow_pos (by omega))
                omega
            · right; rw [h5, Nat.add_sub_cancel]; exact h6
          refine ⟨r.extract m r.size, A', n', c', l', rfl, rfl, ?_, ?_, hq2, HQ3.out, hq1, (show Below w.heap.size w wr.drew from hbl.drew).trans hq7, p ++ r.data.toList.take m, ?_, hll, ?_⟩
          · rw [hsz]; omega
          · rw [hsz]; rcases HQ6.out with h5 | ⟨h5, _⟩ <;> omega
          · rw [Lib.extract_data, List.append_assoc, List.take_of_length_le (l := r.data.toList.drop m) (by rw [List.length_drop]; omega), List.take_append_drop]
            exact hp1
          · rw [List.length_append, List.length_take]; rcases HQ6.out with h5 | ⟨h5, _⟩ <;> omega
        case measure =>
          have hsz : (r.extract m r.size).size = r.size - m := by rw [ByteArray.size_extract]; omega
          show (r.extract m r.size).size < r.size
          omega
    · go_wp2_with fail
      go_ret2
      obtain ⟨p, hp1, hp2, hp3⟩ := HV.out
      have hrl : r.data.toList = [] := List.eq_nil_of_length_eq_zero (by rw [← Lib.size_eq]; omega)
      rw [hrl, List.append_nil] at hp1
      rw [hp1, ← hp2]
      exact ⟨_, _, _, rfl, hnc, HC.out, hfr, hbl⟩
end Go.Proofs.Ythdpllhpdjhogaa
