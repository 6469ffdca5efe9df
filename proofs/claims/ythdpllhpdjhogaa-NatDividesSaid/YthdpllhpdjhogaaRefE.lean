/- The document's own answers, fifth part: gessoref01.Sub. -/
import Derived.Test.YthdpllhpdjhogaaRefD
namespace Go.Proofs.Ythdpllhpdjhogaa
open Go.RowKit

theorem rsub_step {la lb P : List Nat} {k x z y d t : Nat} (hP : P.length = k) (hx : la[k]? = some x) (hz : val B32 (lb.take (k + 1)) = val B32 (lb.take k) + B32 ^ k * z)
    (h : val B32 P + val B32 (lb.take k) = val B32 (la.take k) + B32 ^ k * y) (hd : d + (y + z) = x + B32 * t) :
    val B32 (P ++ [d]) + val B32 (lb.take (k + 1)) = val B32 (la.take (k + 1)) + B32 ^ (k + 1) * t := by
  rw [val_snoc, hz, val_take_succ hx, hP, Nat.pow_succ]
  grind

set_option maxRecDepth 100000 in
set_option maxHeartbeats 2000000 in
theorem rsub_any (la lb : List Nat) (A B : Option Addr) (n c m d : Nat) (w : World) (ha : Rd .u32 w A n la) (hb : Rd .u32 w B m lb) (La : Lim B32 la) (Lb : Lim B32 lb) (hn0 : n ≤ 1000000) (hmn : m ≤ n) (hle0 : val B32 lb ≤ val B32 la) :
    Calls Try.prog 16 #[.slice A n c, .slice B m d] w (GivesS .u32 62 w (limbs B32 (val B32 la - val B32 lb))) := by
  have hnb : n ≤ 1000000 := hn0
  have HLA := Lib.hid ha.1
  have HLB := Lib.hid hb.1
  have HLE := Lib.hid hle0
  obtain ⟨i0, hi, hz0, hz1, hz2⟩ := info_parts info_u32
  clear hn0 hle0
  go_enter Try.func16, Try.ntmps16
  go_wp2_with (at_make; refine wpList_make_own _ rfl (.const (.int .i64 0)) (.tmp 11) 25 rfl w.heap.size 62 i0 (.int .u32 0) 1 Try.underlying25 hi hz0 hz1 .i64 .i64 _ n rfl rfl rfl (by rw [hz2]; omega) (by unfold maxLen; omega) (Nat.le_refl _) ?_; intro w1 hown1 hgrow1)
  have hb1 : Below w.heap.size w w1 := (Below.refl _ _).grown hgrow1 (Nat.le_refl _) (by simp)
  have hfr1 : Fr .u32 62 w1 w.heap.size (some ⟨w.heap.size, 0, none⟩) 0 n [] := ⟨rfl, hown1⟩
  go_loopw [5, 6, 7] (fun v b i wr => ∃ (k y c' : Nat) (A' : Option Addr) (P : List Nat), k ≤ n ∧ y ≤ 1 ∧ i = .int .i64 k ∧ b = .int .u64 (y : Int) ∧ v = .slice A' k c' ∧ k ≤ c' ∧ Hid (c' ≤ maxLen) ∧ Fr .u32 62 wr w.heap.size A' k c' P ∧ Below w.heap.size w wr ∧
      Hid (Lim B32 P ∧ val B32 P + val B32 (lb.take k) = val B32 (la.take k) + B32 ^ k * y)) (fun _ _ i _ => n - (intOf i).toNat)
  case atStart => exact ⟨0, 0, n, _, [], by omega, by omega, rfl, rfl, rfl, by omega, by show n ≤ maxLen; unfold maxLen; omega, hfr1, hb1, Lim.nil, by simp⟩
  case round =>
    obtain ⟨k, y, c', A', P, hk, hy, rfl, rfl, rfl, hkc, HC, hfr, hbl, HV⟩ := hrel
    by_cases hlt : k < n
    · have ha' := ha.below hbl
      have hb' := hb.below hbl
      obtain ⟨b, o, hA, hc⟩ := ha'.at_ (by omega)
      obtain ⟨x, hx, hcx⟩ := hc k hlt
      obtain ⟨z, hzB, hzt, hzc⟩ : ∃ z, z < B32 ∧ val B32 (lb.take (k + 1)) = val B32 (lb.take k) + B32 ^ k * z ∧ (k < m ∧ (∃ b o, B = some ⟨b, o, none⟩ ∧ wr.cell? ⟨b, o + k, none⟩ = some (.int .u32 (z : Int))) ∨ ¬ k < m ∧ z = 0) := by
        by_cases hkm : k < m
        · obtain ⟨b, o, e, hc⟩ := hb'.at_ (by omega)
          obtain ⟨z, hz, hcz⟩ := hc k hkm
          exact ⟨z, Lb.get hz, val_take_succ hz, .inl ⟨hkm, b, o, e, hcz⟩⟩
        · exact ⟨0, by decide, take_past (by have := HLB.out; omega), .inr ⟨hkm, rfl⟩⟩
      have hxB := La.get hx
      have hxB' : x ≤ 4294967295 := by have : B32 = 4294967296 := rfl; omega
      have hzB' : z ≤ 4294967295 := by have : B32 = 4294967296 := rfl; omega
      obtain ⟨t, ht⟩ : ∃ t, t = if x < y + z then 1 else 0 := ⟨_, rfl⟩
      obtain ⟨dd, hdd⟩ : ∃ dd, dd + (y + z) = x + B32 * t := ⟨x + B32 * t - (y + z), by rw [show B32 = 4294967296 from rfl]; split at ht <;> omega⟩
      have hddB : dd < B32 := by rw [show B32 = 4294967296 from rfl] at hdd ⊢; split at ht <;> omega
      have hst := rsub_step hfr.1 hx hzt HV.out.2 hdd
      have hlim : Lim B32 (P ++ [dd]) := HV.out.1.append (Lim.cons hddB Lim.nil)
      have hfr2 : Fr .u32 62 (wr.alloc (.cells #[.int .u32 (dd : Int)] 62)) w.heap.size A' k c' P := hfr.below (B' := wr.heap.size) ((Below.refl _ _).alloc (Nat.le_refl _) _) (Nat.le_refl _)
      have hcell : (wr.alloc (.cells #[.int .u32 (dd : Int)] 62)).cell? ⟨wr.heap.size, 0, none⟩ = some (.int .u32 (dd : Int)) := by rw [World.cell?_alloc_new]; rfl
      have HCL := Lib.hid hcell
      have HST := Lib.hid (And.intro hlim hst)
      have hddI : IntKind.u32.wrap (dd : Int) = (dd : Int) := by have := wrap32_nat dd; rwa [Nat.mod_eq_of_lt hddB] at this
      rw [show B32 = 4294967296 from rfl] at hdd
      clear hcell hst hlim hzt hzB hxB hx hc hddB
      rcases hzc with ⟨hkm, b2, o2, hB, hcz⟩ | ⟨hkm, hz0'⟩
      all_goals
        by_cases hlt2 : (x : Int) < (y : Int) + (z : Int)
        all_goals
          first
            | (have ht1 : t = 1 := by (rw [ht, if_pos (by omega)])
               have e1 : IntKind.u32.wrap ((x : Int) + 4294967296 - ((y : Int) + (z : Int))) = (dd : Int) := by (rw [← hddI]; congr 1; omega))
            | (have ht1 : t = 0 := by (rw [ht, if_neg (by omega)])
               have e1 : IntKind.u32.wrap ((x : Int) - ((y : Int) + (z : Int))) = (dd : Int) := by (rw [← hddI]; congr 1; omega))
          first
            | (subst hA; subst hB)
            | (subst hA; subst hz0')
          have HDI := Lib.hid hddI
          subst ht1
          clear ht hdd hddI
          try simp only [Int.natCast_zero, Int.add_zero] at e1 hlt2
          go_wp2_with (at_builtin; refine wpList_append1 .u32 25 62 4 (.int .u32 0) rfl Try.underlying25 info_u32 (by omega) _ rfl (.tmp 41) (.tmp 46) rfl w.heap.size A' k c' P rfl hfr2 wr.heap.size 1 dd rfl HCL.out (by omega) (Nat.le_trans hbl.size (by simp)) ?_; intro A2 c2 w2 p1 p2 p3 p4 p5)
          go_roundw
          case rel =>
            first
              | exact ⟨k + 1, 1, c2, A2, P ++ [dd], by omega, by omega, by go_num, rfl, rfl, p2, p3, p1, (hbl.alloc hbl.size _).trans p4, HST.out.1, HST.out.2⟩
              | exact ⟨k + 1, 0, c2, A2, P ++ [dd], by omega, by omega, by go_num, rfl, rfl, p2, p3, p1, (hbl.alloc hbl.size _).trans p4, HST.out.1, HST.out.2⟩
          case measure => simp [intOf]; omega
    · obtain rfl : k = n := by omega
      go_wp2_with (go_at_call 42; refine (rtrim_any P A' k c' wr hfr.rd HV.out.1 (by unfold maxLen; omega) hkc).mono ?_; rintro e w' ⟨⟨j, hj, rfl, hj2, hj3⟩, rfl⟩)
      go_ret
      have hv := HV.out.2
      rw [List.take_of_length_le (l := lb) (by have := HLB.out; omega), List.take_of_length_le (l := la) (by have := HLA.out; omega)] at hv
      have hPl := val_lt HV.out.1
      rw [hfr.1] at hPl
      have hv2 : val B32 P = val B32 la - val B32 lb := by
        have hle := HLE.out
        rcases Nat.eq_zero_or_pos y with h0 | h0
        · subst h0; omega
        · have := Nat.mul_le_mul_left (B32 ^ k) h0
          omega
      have hcut := hfr.cut hj
      rw [← hj2, hv2] at hcut
      exact ⟨_, _, _, rfl, by omega, HC.out, hcut, hbl⟩
end Go.Proofs.Ythdpllhpdjhogaa
