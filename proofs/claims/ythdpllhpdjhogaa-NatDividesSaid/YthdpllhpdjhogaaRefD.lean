/- The document's own answers, fourth part: gessoref01.Add. -/
import Derived.Test.YthdpllhpdjhogaaRefC
namespace Go.Proofs.Ythdpllhpdjhogaa
open Go.RowKit

theorem radd_step {la lb P : List Nat} {k x z y : Nat} (hP : P.length = k) (hx : val B32 (la.take (k + 1)) = val B32 (la.take k) + B32 ^ k * x) (hz : val B32 (lb.take (k + 1)) = val B32 (lb.take k) + B32 ^ k * z)
    (h : val B32 P + B32 ^ k * y = val B32 (la.take k) + val B32 (lb.take k)) :
    val B32 (P ++ [(y + x + z) % B32]) + B32 ^ (k + 1) * ((y + x + z) / B32) = val B32 (la.take (k + 1)) + val B32 (lb.take (k + 1)) := by
  have hp := Nat.mod_add_div (y + x + z) B32
  rw [val_snoc, hx, hz, hP, Nat.pow_succ]
  generalize (y + x + z) % B32 = lo at *
  generalize (y + x + z) / B32 = hi at *
  grind
theorem take_past {l : List Nat} {k : Nat} (h : l.length ≤ k) : val B32 (l.take (k + 1)) = val B32 (l.take k) + B32 ^ k * 0 := by
  rw [List.take_of_length_le h, List.take_of_length_le (by omega)]; simp

set_option maxRecDepth 100000 in
set_option maxHeartbeats 2000000 in
theorem radd_any (la lb : List Nat) (A B : Option Addr) (n c m d : Nat) (w : World) (ha : Rd .u32 w A n la) (hb : Rd .u32 w B m lb) (La : Lim B32 la) (Lb : Lim B32 lb) (hn0 : n ≤ 1000000) (hm0 : m ≤ 1000000) :
    Calls Try.prog 18 #[.slice A n c, .slice B m d] w (GivesS .u32 62 w (limbs B32 (val B32 la + val B32 lb))) := by
  obtain ⟨M, hM⟩ : ∃ M, M = max n m := ⟨_, rfl⟩
  have hnM : n ≤ M := by omega
  have hmM : m ≤ M := by omega
  have hMb : M ≤ 1000000 := by omega
  have hmx : max (n : Int) (m : Int) = (M : Int) := by omega
  have HLA := Lib.hid ha.1
  have HLB := Lib.hid hb.1
  obtain ⟨i0, hi, hz0, hz1, hz2⟩ := info_parts info_u32
  clear hM hn0 hm0
  go_enter Try.func18, Try.ntmps18
  go_wp2_with (at_make; refine wpList_make_own _ rfl (.const (.int .i64 0)) (.tmp 14) 25 rfl w.heap.size 62 i0 (.int .u32 0) 1 Try.underlying25 hi hz0 hz1 .i64 .i64 _ (M + 1) rfl rfl (by omega) (by rw [hz2]; omega) (by unfold maxLen; omega) (Nat.le_refl _) ?_; intro w1 hown1 hgrow1)
  have hb1 : Below w.heap.size w w1 := (Below.refl _ _).grown hgrow1 (Nat.le_refl _) (by simp)
  have hfr1 : Fr .u32 62 w1 w.heap.size (some ⟨w.heap.size, 0, none⟩) 0 (M + 1) [] := ⟨rfl, hown1⟩
  go_loopw [5, 6, 7] (fun v b i wr => ∃ (k y c' : Nat) (A' : Option Addr) (P : List Nat), k ≤ M + 1 ∧ y ≤ 1 ∧ (k = M + 1 → y = 0) ∧ i = .int .i64 k ∧ b = .int .u64 (y : Int) ∧ v = .slice A' k c' ∧ k ≤ c' ∧ Hid (c' ≤ maxLen) ∧ Fr .u32 62 wr w.heap.size A' k c' P ∧ Below w.heap.size w wr ∧
      Hid (Lim B32 P ∧ val B32 P + B32 ^ k * y = val B32 (la.take k) + val B32 (lb.take k))) (fun _ b i _ => 2 * (M + 1 - (intOf i).toNat) + (intOf b).toNat)
  case atStart => exact ⟨0, 0, M + 1, _, [], by omega, by omega, fun _ => rfl, rfl, rfl, rfl, by omega, by show M + 1 ≤ maxLen; unfold maxLen; omega, hfr1, hb1, Lim.nil, by simp⟩
  case round =>
    obtain ⟨k, y, c', A', P, hk, hy, hky, rfl, rfl, rfl, hkc, HC, hfr, hbl, HV⟩ := hrel
    by_cases hgo : k < M ∨ 0 < y
    · have HF := Lib.hid hfr.1
      have ha' := ha.below hbl
      have hb' := hb.below hbl
      obtain ⟨x, hxB, hxt, hxc⟩ : ∃ x, x < B32 ∧ val B32 (la.take (k + 1)) = val B32 (la.take k) + B32 ^ k * x ∧ (k < n ∧ (∃ b o, A = some ⟨b, o, none⟩ ∧ wr.cell? ⟨b, o + k, none⟩ = some (.int .u32 (x : Int))) ∨ ¬ k < n ∧ x = 0) := by
        by_cases hkn : k < n
        · obtain ⟨b, o, e, hc⟩ := ha'.at_ (by omega)
          obtain ⟨x, hx, hcx⟩ := hc k hkn
          exact ⟨x, La.get hx, val_take_succ hx, .inl ⟨hkn, b, o, e, hcx⟩⟩
        · exact ⟨0, by decide, take_past (by have := HLA.out; omega), .inr ⟨hkn, rfl⟩⟩
      obtain ⟨z, hzB, hzt, hzc⟩ : ∃ z, z < B32 ∧ val B32 (lb.take (k + 1)) = val B32 (lb.take k) + B32 ^ k * z ∧ (k < m ∧ (∃ b o, B = some ⟨b, o, none⟩ ∧ wr.cell? ⟨b, o + k, none⟩ = some (.int .u32 (z : Int))) ∨ ¬ k < m ∧ z = 0) := by
        by_cases hkm : k < m
        · obtain ⟨b, o, e, hc⟩ := hb'.at_ (by omega)
          obtain ⟨z, hz, hcz⟩ := hc k hkm
          exact ⟨z, Lb.get hz, val_take_succ hz, .inl ⟨hkm, b, o, e, hcz⟩⟩
        · exact ⟨0, by decide, take_past (by have := HLB.out; omega), .inr ⟨hkm, rfl⟩⟩
      have hxB' : x ≤ 4294967295 := by have : B32 = 4294967296 := rfl; omega
      have hzB' : z ≤ 4294967295 := by have : B32 = 4294967296 := rfl; omega
      obtain ⟨lo, hlo⟩ : ∃ lo, lo = (y + x + z) % B32 := ⟨_, rfl⟩
      obtain ⟨hi2, hhi⟩ : ∃ hi, hi = (y + x + z) / B32 := ⟨_, rfl⟩
      have e1 : IntKind.u32.wrap ((y : Int) + (x : Int) + (z : Int)) = (lo : Int) := by rw [hlo]; exact wrap32_nat (y + x + z)
      have e2 : ((y : Int) + (x : Int) + (z : Int)) / 4294967296 = (hi2 : Int) := by rw [hhi, show B32 = 4294967296 from rfl]; omega
      have hhi1 : hi2 ≤ 1 := by rw [hhi, show B32 = 4294967296 from rfl]; omega
      have hlim : Lim B32 (P ++ [lo]) := HV.out.1.append (Lim.cons (by rw [hlo]; exact Nat.mod_lt _ (by decide)) Lim.nil)
      have hst := radd_step hfr.1 hxt hzt HV.out.2
      rw [← hlo, ← hhi] at hst
      have hfr2 : Fr .u32 62 (wr.alloc (.cells #[.int .u32 (lo : Int)] 62)) w.heap.size A' k c' P := hfr.below (B' := wr.heap.size) ((Below.refl _ _).alloc (Nat.le_refl _) _) (Nat.le_refl _)
      have hcell : (wr.alloc (.cells #[.int .u32 (lo : Int)] 62)).cell? ⟨wr.heap.size, 0, none⟩ = some (.int .u32 (lo : Int)) := by rw [World.cell?_alloc_new]; rfl
      have hend : k = M → k + 1 = M + 1 → hi2 = 0 := by
        intro h1 _
        have hx0 : x = 0 := by
          rcases hxc with ⟨h2, _⟩ | ⟨_, h2⟩
          · omega
          · exact h2
        have hz0' : z = 0 := by
          rcases hzc with ⟨h2, _⟩ | ⟨_, h2⟩
          · omega
          · exact h2
        rw [hhi, hx0, hz0', show B32 = 4294967296 from rfl]; omega
      have HCL := Lib.hid hcell
      have HST := Lib.hid (And.intro hlim hst)
      have HEND := Lib.hid hend
      clear hcell hst hlim hend hlo hhi hxt hzt hxB hzB
      have hgo2 : (k : Int) < (M : Int) ∨ ¬ (k : Int) < (M : Int) ∧ (0 : Int) < (y : Int) := by omega
      have hkM : k ≤ M := by
        rcases Nat.lt_or_ge M k with h | h
        · have := hky (by omega); omega
        · exact h
      clear hgo hky
      rcases hgo2 with hg | ⟨hg, hg2⟩
      all_goals
        rcases hxc with ⟨hkn, b, o, hA, hcx⟩ | ⟨hkn, hx0⟩
        all_goals
          rcases hzc with ⟨hkm, b2, o2, hB, hcz⟩ | ⟨hkm, hz0'⟩
          all_goals
            first
              | (subst hA; subst hB)
              | (subst hA; subst hz0')
              | (subst hx0; subst hB)
              | (subst hx0; subst hz0')
            try simp only [Int.natCast_zero, Int.add_zero] at e1 e2
            first | (exfalso; omega) | skip
            all_goals go_wp2_with (at_builtin; refine wpList_append1 .u32 25 62 4 (.int .u32 0) rfl Try.underlying25 info_u32 (by omega) _ rfl (.tmp 52) (.tmp 55) rfl w.heap.size A' k c' P rfl hfr2 wr.heap.size 1 lo rfl HCL.out (by omega) (Nat.le_trans hbl.size (by simp)) ?_; intro A2 c2 w2 p1 p2 p3 p4 p5)
            all_goals
              go_roundw
              case rel => exact ⟨k + 1, hi2, c2, A2, P ++ [lo], by omega, hhi1, fun h => HEND.out (by omega) h, by go_num, rfl, rfl, p2, p3, p1, (hbl.alloc hbl.size _).trans p4, HST.out.1, HST.out.2⟩
              case measure => simp [intOf]; omega
    · have hy0 : y = 0 := by omega
      subst hy0
      have hkM : M ≤ k := by omega
      clear hgo
      go_wp2_with (go_at_call 42; refine (rtrim_any P A' k c' wr hfr.rd HV.out.1 (by unfold maxLen; omega) hkc).mono ?_; rintro e w' ⟨⟨j, hj, rfl, hj2, hj3⟩, rfl⟩)
      go_ret
      have hv := HV.out.2
      rw [List.take_of_length_le (by have := HLA.out; omega), List.take_of_length_le (by have := HLB.out; omega), Nat.mul_zero, Nat.add_zero] at hv
      have hcut := hfr.cut hj
      rw [← hj2, hv] at hcut
      exact ⟨_, _, _, rfl, by omega, HC.out, hcut, hbl⟩
end Go.Proofs.Ythdpllhpdjhogaa
