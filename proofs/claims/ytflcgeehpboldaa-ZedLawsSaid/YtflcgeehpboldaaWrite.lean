/- nat.writeLimbs: the decimal digits of a number of the call's own, by limbs. -/
import Derived.Test.YtflcgeehpboldaaDecs
import Derived.Test.YtflcgeehpboldaaDivC
import Derived.Test.YtflcgeehpboldaaTens
namespace Go.Proofs.Ytflcgeehpboldaa
open Go.RowKit

theorem e_ten {t : Nat} (h : t < B64) : Value.int .u64 (IntKind.u64.wrap ((t : Int) / 10)) = .int .u64 ((t / 10 : Nat) : Int) := by
  have := e_quo (U := t) (Y1 := 10) h
  exact congrArg _ this
set_option maxRecDepth 100000 in
set_option maxHeartbeats 2000000 in
theorem writeLimbs_any (la rest pre seg post : List Nat) (gd ga o d cd n c V : Nat) (w : World) (hd : Own .u8 5 w gd (pre ++ (seg ++ post))) (ho : pre.length = o) (hs : seg.length = d)
    (ha : Own .u64 82 w ga (la ++ rest)) (hl : la.length = n) (La : Lim B64 la) (hV : val B64 la = V) (hne : gd ≠ ga) (hd0 : d ≤ 17592186044415) (hcd : d ≤ cd) (hn : n ≤ 17592186044415) (hnc : n ≤ c) :
    Calls Try.prog 100 #[.slice (some ⟨gd, o, none⟩) d cd, .slice (some ⟨ga, 0, none⟩) n c] w fun e w' => e = .returned (.tuple #[]) ∧
      Own .u8 5 w' gd (pre ++ (decs V d ++ post)) ∧ OnlyS (fun k => k = gd ∨ k = ga) w w' := by
  have HO := Lib.hid ho
  have HS := Lib.hid hs
  have HN := Lib.hid hn
  have HV := Lib.hid hV
  have HL := Lib.hid hl
  have hd45 : d ≤ 2 ^ 45 := by omega
  have h19 : (0 : Nat) < tenTo 19 := by decide
  have H19 := Lib.hid h19
  clear ho hs hn hV hl hd0 h19
  go_enter Try.func100, Try.ntmps100
  go_wp2_with (go_at_call 82; refine (powerOfTen_any 19 w (by omega)).mono ?_; rintro e w' ⟨rfl, hw⟩; obtain rfl := hw.symm)
  go_loopw [0, 1] (fun t a wr => ∃ (j n' : Nat) (l r : List Nat), t = .slice (some ⟨gd, o, none⟩) j cd ∧ a = .slice (some ⟨ga, 0, none⟩) n' c ∧ j ≤ d ∧ n' ≤ n ∧ Hid (Own .u8 5 wr gd (pre ++ (seg.take j ++ (decs V (d - j) ++ post)))) ∧
      Hid (Own .u64 82 wr ga (l ++ r) ∧ l.length = n' ∧ Lim B64 l ∧ (j = 0 ∨ val B64 l = V / 10 ^ (d - j))) ∧ OnlyS (fun k => k = gd ∨ k = ga) w wr) (fun t _ _ => sLen t)
  case atStart => exact ⟨d, n, la, rest, rfl, rfl, Nat.le_refl _, Nat.le_refl _, by show Own _ _ _ _ _; rw [List.take_of_length_le (by have := HS.out; omega), Nat.sub_self]; exact hd, ⟨ha, HL.out, La, Or.inr (by rw [Nat.sub_self, HV.out]; simp)⟩, OnlyS.refl _ _⟩
  case round =>
    obtain ⟨j, n', l, r, rfl, rfl, hj, hn', HD, HA, hon⟩ := hrel
    by_cases hj0 : 0 < j
    · obtain ⟨E, hE⟩ : ∃ E, E = j - 19 := ⟨_, rfl⟩
      have hEj : E < j := by omega
      have hE19 : j - E ≤ 19 := by omega
      have hEc : E = 0 ∨ j - E = 19 := by omega
      have hmax : max (0 : Int) ((j : Int) - 19) = (E : Int) := by omega
      have hEd : (E : Int) ≤ (cd : Int) := by omega
      have HEC := Lib.hid hEc
      obtain ⟨T, hT⟩ : ∃ T, T = val B64 l % tenTo 19 := ⟨_, rfl⟩
      have hTe : (val B64 l : Int) % (tenTo 19 : Int) = (T : Int) := by rw [hT, Int.natCast_emod]
      have hTB : Hid (T < B64) := by (show T < B64; rw [hT]; exact Nat.lt_trans (Nat.mod_lt _ H19.out) (tenTo_lt (by omega)))
      have HT := Lib.hid hT
      clear hE hEc hT
      go_wp2_with (first
        | (go_at_call 75; refine (byLimb_any l r (tenTo 19) ga n' c wr HA.out.1 HA.out.2.1 HA.out.2.2.1 H19.out (tenTo_lt (by omega)) (by have := HN.out; unfold maxLen; omega)).mono ?_; rintro e w1 ⟨rfl, ⟨Q, hQ1, hQ2, hQ3, hQ4⟩, ho1⟩
           have HQ1 := Lib.hid hQ1
           have HQ3 := Lib.hid hQ3
           clear hQ1 hQ3)
        | (go_at_call 66; refine (trim_any Q (some ⟨ga, 0, none⟩) n' c w1 (hQ4.rd HQ1.out (fun i x hx => by rw [Nat.zero_add, List.getElem?_append_left (List.getElem?_eq_some_iff.1 hx).1]; exact hx)) hQ2 (by have := HN.out; unfold maxLen; omega) (by omega)).mono ?_; rintro e w' ⟨⟨k, hk, rfl, hrk⟩, rfl⟩))
      have hD1 : Own .u8 5 w1 gd (pre ++ (seg.take j ++ (decs V (d - j) ++ post))) := HD.out.only ho1 hne
      go_loopw [5, 7] (fun v i w2 => ∃ i0 t : Nat, i0 ≤ j ∧ E ≤ i0 ∧ i = .int .i64 ((i0 : Int) - 1) ∧ v = .int .u64 (t : Int) ∧ Own .u8 5 w2 gd (pre ++ (seg.take i0 ++ (decs T (j - i0) ++ (decs V (d - j) ++ post)))) ∧ Hid (t < B64 ∧ t = T / 10 ^ (j - i0)) ∧ Only gd w1 w2) (fun _ i _ => (intOf i + 1).toNat)
      case atStart => exact ⟨j, T, Nat.le_refl _, by omega, rfl, rfl, by rw [Nat.sub_self]; exact hD1, ⟨hTB.out, by rw [Nat.sub_self]; simp⟩, Only.refl _ _⟩
      case round =>
        obtain ⟨i0, t, hi0, hEi, rfl, rfl, hown, HTT, hon2⟩ := hrel
        by_cases hlt : E < i0
        · have hks : i0 - 1 < seg.length := by have := HS.out; omega
          obtain ⟨x, hx⟩ : ∃ x, seg[i0 - 1]? = some x := ⟨_, List.getElem?_eq_getElem hks⟩
          have ht : seg.take i0 = seg.take (i0 - 1) ++ [x] := by
            have := List.take_succ_eq_append_getElem hks
            rw [show i0 - 1 + 1 = i0 by omega] at this
            rw [this, (List.getElem?_eq_some_iff.1 hx).2]
          have hlen : (pre ++ seg.take (i0 - 1)).length = o + (i0 - 1) := by rw [List.length_append, List.length_take, HO.out]; omega
          rw [ht, List.append_assoc, ← List.append_assoc pre] at hown
          have hcz := hown.cell_len hlen
          have hfz := Own.frozen hown (o + (i0 - 1))
          have HLN := Lib.hid hlen
          clear hks hx ht hlen
          go_wp2_with fail
          go_roundw
          case rel =>
            refine ⟨i0 - 1, t / 10, by omega, by omega, by go_num, ?_, ?_, ?_, hon2.setCell _ _⟩
            · exact e_ten HTT.out.1
            · have hst := hown.store_len HLN.out (48 + t % 10)
              rw [show ((48 + t % 10 : Nat) : Int) = 48 + (t : Int) % 10 by omega] at hst
              have hj1 : j - (i0 - 1) = (j - i0) + 1 := by omega
              rw [hj1, decs_one, ← HTT.out.2]
              rw [List.append_assoc, List.append_assoc] at hst
              exact hst
            · refine ⟨Nat.lt_of_le_of_lt (Nat.div_le_self _ _) HTT.out.1, ?_⟩
              rw [show j - (i0 - 1) = (j - i0) + 1 by omega, Nat.pow_succ, ← Nat.div_div_eq_div_mul, ← HTT.out.2]
          case measure => simp [intOf]; omega
        · obtain rfl : i0 = E := by omega
          go_wp2_with fail
          go_roundw
          case rel =>
            obtain ⟨hA1, hA2, hA3, hA4⟩ := HA.out
            have hkl : (limbs B64 (val B64 Q)).length = k := hrk.1
            have htk : Q.take k = limbs B64 (val B64 Q) := by rw [← hkl]; exact limbs_take B64_two hQ2
            have hvl : val B64 l = V / 10 ^ (d - j) := by rcases hA4 with h | h <;> first | omega | exact h
            refine ⟨i0, k, Q.take k, Q.drop k ++ r, rfl, rfl, by omega, by omega, ?_, ⟨?_, ?_, hQ2.take _, ?_⟩, ?_⟩
            · show Own _ _ _ _ _
              have e1 : decs V (d - i0) = decs T (j - i0) ++ decs V (d - j) := by
                rw [show d - i0 = (j - i0) + (d - j) by omega, decs_add, ← hvl, HT.out]
                unfold tenTo
                rw [decs_mod _ hE19]
              rw [e1, List.append_assoc]
              exact hown
            · rw [← List.append_assoc, List.take_append_drop]
              exact hQ4.only hon2 (Ne.symm hne)
            · rw [htk, hkl]
            · rcases HEC.out with h | h
              · left; exact h
              · right
                rw [htk, val_limbs B64_two, HQ3.out, hvl, Nat.div_div_eq_div_mul]
                unfold tenTo
                rw [← Nat.pow_add]
                congr 2; omega
            · exact (hon.only (Or.inr rfl) ho1).only (Or.inl rfl) hon2
          case measure => simp [sLen]; omega
    · obtain rfl : j = 0 := by omega
      go_wp2_with fail
      go_end0
      exact ⟨rfl, by simpa using HD.out, hon⟩
end Go.Proofs.Ytflcgeehpboldaa
