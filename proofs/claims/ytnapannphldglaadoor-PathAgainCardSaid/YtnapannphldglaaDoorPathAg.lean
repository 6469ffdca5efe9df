/- gessolaw11.PathAgain. -/
import Derived.StillTailTactics
import Derived.IntWalk
import Derived.Test.YtnapannphldglaaDoorPathN1
namespace Go.Proofs.YtnapannphldglaaDoor
open Go Go.RowKit

theorem agA_len {n : Nat → Int} (h : ∀ i, i16 (n i)) (t : Bool) : (agA t n).length ≤ 1048576 := by
  have l0 := i16_len (h 0); have l1 := i16_len (h 1); have l2 := i16_len (h 2); have l3 := i16_len (h 3); have l4 := i16_len (h 4); have l5 := i16_len (h 5)
  unfold agA
  simp [gnB, qs0]; omega
theorem agB_len {n : Nat → Int} (h : ∀ i, i16 (n i)) (t : Bool) : (agB t n).length ≤ 1048576 := by
  have l0 := i16_len (h 0); have l1 := i16_len (h 1); have l2 := i16_len (h 2); have l3 := i16_len (h 3); have l4 := i16_len (h 4); have l5 := i16_len (h 5)
  unfold agB
  simp [gnB, qs0]; omega
theorem agC_len {n : Nat → Int} (h : ∀ i, i16 (n i)) (t : Bool) : (agC t n).length ≤ 1048576 := by
  have l0 := i16_len (h 0); have l1 := i16_len (h 1); have l2 := i16_len (h 2); have l3 := i16_len (h 3); have l4 := i16_len (h 4); have l5 := i16_len (h 5)
  unfold agC
  simp [gnB, qs0]; omega
theorem agH_len {n : Nat → Int} (h : ∀ i, i16 (n i)) (t : Bool) : (agH t n).length ≤ 1048576 := by
  have l0 := i16_len (h 0); have l1 := i16_len (h 1); have l2 := i16_len (h 2); have l3 := i16_len (h 3); have l4 := i16_len (h 4); have l5 := i16_len (h 5)
  unfold agH
  simp [gnB, qs0]; omega
set_option maxRecDepth 100000 in
set_option maxHeartbeats 8000000 in
theorem ag_false {w : World} {n : Nat → Int} (hd : LD w) (h : ∀ i, i16 (n i)) :
    Calls Tryd.prog 5 #[.agg #[.int .i16 (n 0), .int .i16 (n 1), .int .i16 (n 2), .int .i16 (n 3), .int .i16 (n 4), .int .i16 (n 5)], .bool false] w fun e w' => e = .returned (.bool true) ∧ Below w.heap.size w w' := by
  have HD0 := Lib.hid hd
  have HI := Lib.hid h
  have HN0 : Hid (CB (w.alloc (.cells #[.int .i16 (n 0), .int .i16 (n 1), .int .i16 (n 2), .int .i16 (n 3), .int .i16 (n 4), .int .i16 (n 5)] 41)) w.heap.size (nC n 6) 41) := heap_alloc_new w _
  have HDD0 : Hid (CB ((w.alloc (.cells #[.int .i16 (n 0), .int .i16 (n 1), .int .i16 (n 2), .int .i16 (n 3), .int .i16 (n 4), .int .i16 (n 5)] 41)).alloc (.cells #[.string ⟨#[]⟩, .string ⟨#[]⟩, .string ⟨#[]⟩, .string ⟨#[]⟩, .string ⟨#[]⟩, .string ⟨#[]⟩] 42)) (w.heap.size + 1) (dC n 6 0) 42) := by
    have := heap_alloc_new (w.alloc (.cells #[.int .i16 (n 0), .int .i16 (n 1), .int .i16 (n 2), .int .i16 (n 3), .int .i16 (n 4), .int .i16 (n 5)] 41)) (.cells #[.string ⟨#[]⟩, .string ⟨#[]⟩, .string ⟨#[]⟩, .string ⟨#[]⟩, .string ⟨#[]⟩, .string ⟨#[]⟩] 42)
    rw [World.size_alloc] at this
    exact this
  clear hd h
  go_enter Tryd.func5, Tryd.ntmps5
  go_wp2
  go_loopw [6] (fun i wr => ∃ k : Nat, k ≤ 6 ∧ i = .int .i64 (k : Int) ∧ CB wr w.heap.size (nC n 6) 41 ∧ CB wr (w.heap.size + 1) (dC n 6 k) 42 ∧ Below w.heap.size w wr) (fun i _ => 6 - (intOf i).toNat)
  case atStart => exact ⟨0, Nat.zero_le _, rfl, HN0.out.below ((Below.refl _ _).alloc (Nat.le_refl _) _) (by simp [World.size_alloc]), HDD0.out, ((Below.refl _ _).alloc (Nat.le_refl _) _).alloc (by simp [World.size_alloc]) _⟩
  case round =>
    obtain ⟨k, hk, rfl, hn, hdd, hb⟩ := hrel
    have HN := Lib.hid hn
    have HDD := Lib.hid hdd
    have HB := Lib.hid hb
    have hzr := hb.size
    have hl1 := hn.lt
    have hl2 := hdd.lt
    clear hn hdd hb
    by_cases hlt : k < 6
    · have hlt' : (k : Int) < 6 := by omega
      have hc := HN.out.cell (nC_at (n := n) hlt)
      have hi := (HI.out k).k
      have HV := Lib.hid (show -4611686018427387904 ≤ n k ∧ n k ≤ 4611686018427387904 by omega)
      have hf : ∀ W, Below wr.heap.size wr W → W.frozen? ⟨w.heap.size + 1, k, none⟩ = false := fun W hW => (HDD.out.below hW hl2).fz k
      have hcc : ∀ W, Below wr.heap.size wr W → W.cell? ⟨w.heap.size + 1, k, none⟩ = some (.string (dT n k k)) := fun W hW => (HDD.out.below hW hl2).cell (dC_at hlt)
      go_wp2_with (go_at_call 11; (with_reducible refine (dec12 HV.out).mono ?_); rintro e w3 ⟨rfl, hb3⟩; have hf3 := hf w3 hb3; have hcc3 := hcc w3 hb3; have hl3 : w.heap.size + 1 < w3.heap.size := Nat.lt_of_lt_of_le hl2 hb3.size; replace hb3 := Lib.hid hb3)
      refine ⟨⟨k + 1, hlt, by go_num, (HN.out.below hb3.out hl1).other (by omega), (HDD.out.below hb3.out hl2).put hlt, (HB.out.trans (hb3.out.mono hzr)).setCell (by simp) _⟩, by simp [intOf]; omega⟩
    · have hlt' : ¬ (k : Int) < 6 := by omega
      obtain rfl : k = 6 := by omega
      obtain ⟨s0, hs0⟩ : ∃ s : ByteArray, s = ⟨(Lib.itoa (n 0)).toArray⟩ := ⟨_, rfl⟩
      have e0 := HDD.out.cell (dC_at (n := n) (m := 6) (k := 6) (i := 0) (by decide))
      rw [dT_all (by decide), ← hs0] at e0
      have z0 : s0.size ≤ 20 := by rw [hs0]; exact i16_len (HI.out 0)
      have HS0 : Hid (s0.data.toList = Lib.itoa (n 0)) := by show _ = _; rw [hs0]
      have b0 := (HI.out 0).k
      clear hs0
      obtain ⟨s1, hs1⟩ : ∃ s : ByteArray, s = ⟨(Lib.itoa (n 1)).toArray⟩ := ⟨_, rfl⟩
      have e1 := HDD.out.cell (dC_at (n := n) (m := 6) (k := 6) (i := 1) (by decide))
      rw [dT_all (by decide), ← hs1] at e1
      have z1 : s1.size ≤ 20 := by rw [hs1]; exact i16_len (HI.out 1)
      have HS1 : Hid (s1.data.toList = Lib.itoa (n 1)) := by show _ = _; rw [hs1]
      have b1 := (HI.out 1).k
      clear hs1
      obtain ⟨s2, hs2⟩ : ∃ s : ByteArray, s = ⟨(Lib.itoa (n 2)).toArray⟩ := ⟨_, rfl⟩
      have e2 := HDD.out.cell (dC_at (n := n) (m := 6) (k := 6) (i := 2) (by decide))
      rw [dT_all (by decide), ← hs2] at e2
      have z2 : s2.size ≤ 20 := by rw [hs2]; exact i16_len (HI.out 2)
      have HS2 : Hid (s2.data.toList = Lib.itoa (n 2)) := by show _ = _; rw [hs2]
      have b2 := (HI.out 2).k
      clear hs2
      obtain ⟨s3, hs3⟩ : ∃ s : ByteArray, s = ⟨(Lib.itoa (n 3)).toArray⟩ := ⟨_, rfl⟩
      have e3 := HDD.out.cell (dC_at (n := n) (m := 6) (k := 6) (i := 3) (by decide))
      rw [dT_all (by decide), ← hs3] at e3
      have z3 : s3.size ≤ 20 := by rw [hs3]; exact i16_len (HI.out 3)
      have HS3 : Hid (s3.data.toList = Lib.itoa (n 3)) := by show _ = _; rw [hs3]
      have b3 := (HI.out 3).k
      clear hs3
      obtain ⟨s4, hs4⟩ : ∃ s : ByteArray, s = ⟨(Lib.itoa (n 4)).toArray⟩ := ⟨_, rfl⟩
      have e4 := HDD.out.cell (dC_at (n := n) (m := 6) (k := 6) (i := 4) (by decide))
      rw [dT_all (by decide), ← hs4] at e4
      have z4 : s4.size ≤ 20 := by rw [hs4]; exact i16_len (HI.out 4)
      have HS4 : Hid (s4.data.toList = Lib.itoa (n 4)) := by show _ = _; rw [hs4]
      have b4 := (HI.out 4).k
      clear hs4
      obtain ⟨s5, hs5⟩ : ∃ s : ByteArray, s = ⟨(Lib.itoa (n 5)).toArray⟩ := ⟨_, rfl⟩
      have e5 := HDD.out.cell (dC_at (n := n) (m := 6) (k := 6) (i := 5) (by decide))
      rw [dT_all (by decide), ← hs5] at e5
      have z5 : s5.size ≤ 20 := by rw [hs5]; exact i16_len (HI.out 5)
      have HS5 : Hid (s5.data.toList = Lib.itoa (n 5)) := by show _ = _; rw [hs5]
      have b5 := (HI.out 5).k
      clear hs5
      have HLagA := Lib.hid (agA_len (n := n) HI.out false)
      have HOagA := Lib.hid (show ofP (agA false n) = .ok [⟨1, n 0, n 1, 0, 0, 0, 0, 0⟩, ⟨2, n 2, n 3, 0, 0, 0, 0, 0⟩, ⟨2, n 4, n 5, 0, 0, 0, 0, 0⟩] from of_agA (n := n) HI.out false)
      have HLagB := Lib.hid (agB_len (n := n) HI.out false)
      have HOagB := Lib.hid (show ofP (agB false n) = .ok [⟨1, n 0, n 1, 0, 0, 0, 0, 0⟩, ⟨2, n 2, n 3, 0, 0, 0, 0, 0⟩, ⟨2, n 4, n 5, 0, 0, 0, 0, 0⟩] from of_agB (n := n) HI.out false)
      have HLagC := Lib.hid (agC_len (n := n) HI.out false)
      have HOagC := Lib.hid (show ofP (agC false n) = .ok [⟨1, n 0, n 1, 0, 0, 0, 0, 0⟩, ⟨2, n 2, n 3, 0, 0, 0, 0, 0⟩, ⟨2, n 4, n 5, 0, 0, 0, 0, 0⟩] from of_agC (n := n) HI.out false)
      have HLagH := Lib.hid (agH_len (n := n) HI.out false)
      have HOagH := Lib.hid (show ofP (agH false n) = .ok [⟨1, n 0, n 1, 0, 0, 0, 0, 0⟩, ⟨2, n 2, n 1, 0, 0, 0, 0, 0⟩, ⟨2, n 2, n 3, 0, 0, 0, 0, 0⟩] from of_agH (n := n) HI.out false)
      go_wp2_with (first
        | (go_at_call 14; (with_reducible refine (bk_ofs ?hs HLagA.out (HD0.out.below HB.out).l HOagA.out).mono ?_); (case hs => (simp only [ByteArray.data_append, Array.toList_append, HS0.out, HS1.out, HS2.out, HS3.out, HS4.out, HS5.out]; simp [agA, cM, gnB, qs0])); rintro e w1 ⟨AVA, cVA, rfl, hv, hb⟩; have HB1 := Lib.hid (HB.out.trans (hb.mono HB.out.size)); have HN1 := Lib.hid (HN.out.below hb hl1); replace e0 := (hb.cell (p := ⟨w.heap.size + 1, 0, none⟩) hl2).trans e0; replace e1 := (hb.cell (p := ⟨w.heap.size + 1, 1, none⟩) hl2).trans e1; replace e2 := (hb.cell (p := ⟨w.heap.size + 1, 2, none⟩) hl2).trans e2; replace e3 := (hb.cell (p := ⟨w.heap.size + 1, 3, none⟩) hl2).trans e3; replace e4 := (hb.cell (p := ⟨w.heap.size + 1, 4, none⟩) hl2).trans e4; replace e5 := (hb.cell (p := ⟨w.heap.size + 1, 5, none⟩) hl2).trans e5; replace hl1 := Nat.lt_of_lt_of_le hl1 hb.size; replace hl2 := Nat.lt_of_lt_of_le hl2 hb.size; have VA := Lib.hid hv; clear hv; clear hb)
        | (go_at_call 14; (with_reducible refine (bk_ofs ?hs HLagB.out (HD0.out.below HB1.out).l HOagB.out).mono ?_); (case hs => (simp only [ByteArray.data_append, Array.toList_append, HS0.out, HS1.out, HS2.out, HS3.out, HS4.out, HS5.out]; simp [agB, cM, cL, gnB, qs0])); rintro e w2 ⟨AVB, cVB, rfl, hv, hb⟩; have HB2 := Lib.hid (HB1.out.trans (hb.mono HB1.out.size)); have HN2 := Lib.hid (HN1.out.below hb hl1); replace e0 := (hb.cell (p := ⟨w.heap.size + 1, 0, none⟩) hl2).trans e0; replace e1 := (hb.cell (p := ⟨w.heap.size + 1, 1, none⟩) hl2).trans e1; replace e2 := (hb.cell (p := ⟨w.heap.size + 1, 2, none⟩) hl2).trans e2; replace e3 := (hb.cell (p := ⟨w.heap.size + 1, 3, none⟩) hl2).trans e3; replace e4 := (hb.cell (p := ⟨w.heap.size + 1, 4, none⟩) hl2).trans e4; replace e5 := (hb.cell (p := ⟨w.heap.size + 1, 5, none⟩) hl2).trans e5; replace VA := Lib.hid (VA.out.below hb); replace hl1 := Nat.lt_of_lt_of_le hl1 hb.size; replace hl2 := Nat.lt_of_lt_of_le hl2 hb.size; have VB := Lib.hid hv; clear hv; clear hb)
        | (go_at_call 14; (with_reducible refine (bk_ofs ?hs HLagC.out (HD0.out.below HB2.out).l HOagC.out).mono ?_); (case hs => (simp only [ByteArray.data_append, Array.toList_append, HS0.out, HS1.out, HS2.out, HS3.out, HS4.out, HS5.out]; simp [agC, cM, cL, gnB, qs0])); rintro e w3 ⟨AVC, cVC, rfl, hv, hb⟩; have HB3 := Lib.hid (HB2.out.trans (hb.mono HB2.out.size)); have HN3 := Lib.hid (HN2.out.below hb hl1); replace e0 := (hb.cell (p := ⟨w.heap.size + 1, 0, none⟩) hl2).trans e0; replace e1 := (hb.cell (p := ⟨w.heap.size + 1, 1, none⟩) hl2).trans e1; replace e2 := (hb.cell (p := ⟨w.heap.size + 1, 2, none⟩) hl2).trans e2; replace e3 := (hb.cell (p := ⟨w.heap.size + 1, 3, none⟩) hl2).trans e3; replace e4 := (hb.cell (p := ⟨w.heap.size + 1, 4, none⟩) hl2).trans e4; replace e5 := (hb.cell (p := ⟨w.heap.size + 1, 5, none⟩) hl2).trans e5; replace VA := Lib.hid (VA.out.below hb); replace VB := Lib.hid (VB.out.below hb); replace hl1 := Nat.lt_of_lt_of_le hl1 hb.size; replace hl2 := Nat.lt_of_lt_of_le hl2 hb.size; have VC := Lib.hid hv; clear hv; clear hb)
        | (go_at_call 15; (with_reducible refine (bk_same (n := 3) VA.out VB.out (by simp) (by simp)).mono ?_); rintro e w4 ⟨rfl, hb⟩; have HB4 := Lib.hid (HB3.out.trans (hb.mono HB3.out.size)); have HN4 := Lib.hid (HN3.out.below hb hl1); replace e0 := (hb.cell (p := ⟨w.heap.size + 1, 0, none⟩) hl2).trans e0; replace e1 := (hb.cell (p := ⟨w.heap.size + 1, 1, none⟩) hl2).trans e1; replace e2 := (hb.cell (p := ⟨w.heap.size + 1, 2, none⟩) hl2).trans e2; replace e3 := (hb.cell (p := ⟨w.heap.size + 1, 3, none⟩) hl2).trans e3; replace e4 := (hb.cell (p := ⟨w.heap.size + 1, 4, none⟩) hl2).trans e4; replace e5 := (hb.cell (p := ⟨w.heap.size + 1, 5, none⟩) hl2).trans e5; replace VA := Lib.hid (VA.out.below hb); replace VC := Lib.hid (VC.out.below hb); replace hl1 := Nat.lt_of_lt_of_le hl1 hb.size; replace hl2 := Nat.lt_of_lt_of_le hl2 hb.size; clear hb)
        | (go_at_call 15; (with_reducible refine (bk_same (n := 3) VA.out VC.out (by simp) (by simp)).mono ?_); rintro e w5 ⟨rfl, hb⟩; have HB5 := Lib.hid (HB4.out.trans (hb.mono HB4.out.size)); have HN5 := Lib.hid (HN4.out.below hb hl1); replace e0 := (hb.cell (p := ⟨w.heap.size + 1, 0, none⟩) hl2).trans e0; replace e1 := (hb.cell (p := ⟨w.heap.size + 1, 1, none⟩) hl2).trans e1; replace e2 := (hb.cell (p := ⟨w.heap.size + 1, 2, none⟩) hl2).trans e2; replace e3 := (hb.cell (p := ⟨w.heap.size + 1, 3, none⟩) hl2).trans e3; replace e4 := (hb.cell (p := ⟨w.heap.size + 1, 4, none⟩) hl2).trans e4; replace e5 := (hb.cell (p := ⟨w.heap.size + 1, 5, none⟩) hl2).trans e5; replace hl1 := Nat.lt_of_lt_of_le hl1 hb.size; replace hl2 := Nat.lt_of_lt_of_le hl2 hb.size; clear hb)
        | (go_at_call 14; (with_reducible refine (bk_ofs ?hs HLagH.out (HD0.out.below HB5.out).l HOagH.out).mono ?_); (case hs => (simp only [ByteArray.data_append, Array.toList_append, HS0.out, HS1.out, HS2.out, HS3.out]; simp [agH, cM, cH, cV, gnB, qs0])); rintro e w6 ⟨AVH, cVH, rfl, hv, hb⟩; have HB6 := Lib.hid (HB5.out.trans (hb.mono HB5.out.size)); have HN6 := Lib.hid (HN5.out.below hb hl1); replace hl1 := Nat.lt_of_lt_of_le hl1 hb.size; replace hl2 := Nat.lt_of_lt_of_le hl2 hb.size; have VH := Lib.hid hv; clear hv; clear hb))
      obtain ⟨g1, o1, hA1, hg1, -, q11, q12, -⟩ := VH.out.at_ (i := 1) rfl
      subst hA1
      obtain ⟨g2, o2, hA2, hg2, -, q21, q22, -⟩ := VH.out.at_ (i := 2) rfl
      obtain ⟨rfl, rfl⟩ : g1 = g2 ∧ o1 = o2 := by simpa using hA2
      simp only [Nat.reduceMul] at q11 q12 q21 q22
      have f0 := HN6.out.cell (nC_at (n := n) (m := 6) (i := 0) (by decide))
      have f1 := HN6.out.cell (nC_at (n := n) (m := 6) (i := 1) (by decide))
      have f2 := HN6.out.cell (nC_at (n := n) (m := 6) (i := 2) (by decide))
      have f3 := HN6.out.cell (nC_at (n := n) (m := 6) (i := 3) (by decide))
      go_region
      go_wp2
      have HBW := Lib.hid (HB6.out.drew)
      have hW : ∀ p v, w6.cell? p = some v → w6.drew.cell? p = some v := fun _ _ h => h
      replace q11 := hW _ _ q11
      replace q12 := hW _ _ q12
      replace q21 := hW _ _ q21
      replace q22 := hW _ _ q22
      replace f1 := hW _ _ f1
      clear hW f0 f2 f3 e0 e1 e2 e3 e4 e5 hl1 hl2 HN6 VH
      generalize w6.drew = W at *
      have hM : ∀ p v, W.cell? p = some v → ∀ a b c d, (World.mk W.heap a b c d).cell? p = some v := fun _ _ h _ _ _ _ => h
      replace q11 := hM _ _ q11
      replace q12 := hM _ _ q12
      replace q21 := hM _ _ q21
      replace q22 := hM _ _ q22
      replace f1 := hM _ _ f1
      clear hM
      have hw1 : IntKind.i64.wrap (n 1) = n 1 := IntWalk.i64_in _ (by omega)
      go_still_tail 37, (by kernel_rfl)
      change wpList _ _ _ _ _ W.drew
      go_wp2_with (go_at_call 10; (with_reducible refine (wakes11 (HD0.out.below HBW.out.drew)).mono ?_); rintro e w7 ⟨rfl, hb⟩; have HB7 := Lib.hid (HBW.out.drew.trans (hb.mono HBW.out.drew.size)); clear hb)
      go_ret
      exact ⟨rfl, HB7.out⟩
set_option maxRecDepth 100000 in
set_option maxHeartbeats 8000000 in
theorem ag_true {w : World} {n : Nat → Int} (hd : LD w) (h : ∀ i, i16 (n i)) :
    Calls Tryd.prog 5 #[.agg #[.int .i16 (n 0), .int .i16 (n 1), .int .i16 (n 2), .int .i16 (n 3), .int .i16 (n 4), .int .i16 (n 5)], .bool true] w fun e w' => e = .returned (.bool true) ∧ Below w.heap.size w w' := by
  have HD0 := Lib.hid hd
  have HI := Lib.hid h
  have HN0 : Hid (CB (w.alloc (.cells #[.int .i16 (n 0), .int .i16 (n 1), .int .i16 (n 2), .int .i16 (n 3), .int .i16 (n 4), .int .i16 (n 5)] 41)) w.heap.size (nC n 6) 41) := heap_alloc_new w _
  have HDD0 : Hid (CB ((w.alloc (.cells #[.int .i16 (n 0), .int .i16 (n 1), .int .i16 (n 2), .int .i16 (n 3), .int .i16 (n 4), .int .i16 (n 5)] 41)).alloc (.cells #[.string ⟨#[]⟩, .string ⟨#[]⟩, .string ⟨#[]⟩, .string ⟨#[]⟩, .string ⟨#[]⟩, .string ⟨#[]⟩] 42)) (w.heap.size + 1) (dC n 6 0) 42) := by
    have := heap_alloc_new (w.alloc (.cells #[.int .i16 (n 0), .int .i16 (n 1), .int .i16 (n 2), .int .i16 (n 3), .int .i16 (n 4), .int .i16 (n 5)] 41)) (.cells #[.string ⟨#[]⟩, .string ⟨#[]⟩, .string ⟨#[]⟩, .string ⟨#[]⟩, .string ⟨#[]⟩, .string ⟨#[]⟩] 42)
    rw [World.size_alloc] at this
    exact this
  clear hd h
  go_enter Tryd.func5, Tryd.ntmps5
  go_wp2
  go_loopw [6] (fun i wr => ∃ k : Nat, k ≤ 6 ∧ i = .int .i64 (k : Int) ∧ CB wr w.heap.size (nC n 6) 41 ∧ CB wr (w.heap.size + 1) (dC n 6 k) 42 ∧ Below w.heap.size w wr) (fun i _ => 6 - (intOf i).toNat)
  case atStart => exact ⟨0, Nat.zero_le _, rfl, HN0.out.below ((Below.refl _ _).alloc (Nat.le_refl _) _) (by simp [World.size_alloc]), HDD0.out, ((Below.refl _ _).alloc (Nat.le_refl _) _).alloc (by simp [World.size_alloc]) _⟩
  case round =>
    obtain ⟨k, hk, rfl, hn, hdd, hb⟩ := hrel
    have HN := Lib.hid hn
    have HDD := Lib.hid hdd
    have HB := Lib.hid hb
    have hzr := hb.size
    have hl1 := hn.lt
    have hl2 := hdd.lt
    clear hn hdd hb
    by_cases hlt : k < 6
    · have hlt' : (k : Int) < 6 := by omega
      have hc := HN.out.cell (nC_at (n := n) hlt)
      have hi := (HI.out k).k
      have HV := Lib.hid (show -4611686018427387904 ≤ n k ∧ n k ≤ 4611686018427387904 by omega)
      have hf : ∀ W, Below wr.heap.size wr W → W.frozen? ⟨w.heap.size + 1, k, none⟩ = false := fun W hW => (HDD.out.below hW hl2).fz k
      have hcc : ∀ W, Below wr.heap.size wr W → W.cell? ⟨w.heap.size + 1, k, none⟩ = some (.string (dT n k k)) := fun W hW => (HDD.out.below hW hl2).cell (dC_at hlt)
      go_wp2_with (go_at_call 11; (with_reducible refine (dec12 HV.out).mono ?_); rintro e w3 ⟨rfl, hb3⟩; have hf3 := hf w3 hb3; have hcc3 := hcc w3 hb3; have hl3 : w.heap.size + 1 < w3.heap.size := Nat.lt_of_lt_of_le hl2 hb3.size; replace hb3 := Lib.hid hb3)
      refine ⟨⟨k + 1, hlt, by go_num, (HN.out.below hb3.out hl1).other (by omega), (HDD.out.below hb3.out hl2).put hlt, (HB.out.trans (hb3.out.mono hzr)).setCell (by simp) _⟩, by simp [intOf]; omega⟩
    · have hlt' : ¬ (k : Int) < 6 := by omega
      obtain rfl : k = 6 := by omega
      obtain ⟨s0, hs0⟩ : ∃ s : ByteArray, s = ⟨(Lib.itoa (n 0)).toArray⟩ := ⟨_, rfl⟩
      have e0 := HDD.out.cell (dC_at (n := n) (m := 6) (k := 6) (i := 0) (by decide))
      rw [dT_all (by decide), ← hs0] at e0
      have z0 : s0.size ≤ 20 := by rw [hs0]; exact i16_len (HI.out 0)
      have HS0 : Hid (s0.data.toList = Lib.itoa (n 0)) := by show _ = _; rw [hs0]
      have b0 := (HI.out 0).k
      clear hs0
      obtain ⟨s1, hs1⟩ : ∃ s : ByteArray, s = ⟨(Lib.itoa (n 1)).toArray⟩ := ⟨_, rfl⟩
      have e1 := HDD.out.cell (dC_at (n := n) (m := 6) (k := 6) (i := 1) (by decide))
      rw [dT_all (by decide), ← hs1] at e1
      have z1 : s1.size ≤ 20 := by rw [hs1]; exact i16_len (HI.out 1)
      have HS1 : Hid (s1.data.toList = Lib.itoa (n 1)) := by show _ = _; rw [hs1]
      have b1 := (HI.out 1).k
      clear hs1
      obtain ⟨s2, hs2⟩ : ∃ s : ByteArray, s = ⟨(Lib.itoa (n 2)).toArray⟩ := ⟨_, rfl⟩
      have e2 := HDD.out.cell (dC_at (n := n) (m := 6) (k := 6) (i := 2) (by decide))
      rw [dT_all (by decide), ← hs2] at e2
      have z2 : s2.size ≤ 20 := by rw [hs2]; exact i16_len (HI.out 2)
      have HS2 : Hid (s2.data.toList = Lib.itoa (n 2)) := by show _ = _; rw [hs2]
      have b2 := (HI.out 2).k
      clear hs2
      obtain ⟨s3, hs3⟩ : ∃ s : ByteArray, s = ⟨(Lib.itoa (n 3)).toArray⟩ := ⟨_, rfl⟩
      have e3 := HDD.out.cell (dC_at (n := n) (m := 6) (k := 6) (i := 3) (by decide))
      rw [dT_all (by decide), ← hs3] at e3
      have z3 : s3.size ≤ 20 := by rw [hs3]; exact i16_len (HI.out 3)
      have HS3 : Hid (s3.data.toList = Lib.itoa (n 3)) := by show _ = _; rw [hs3]
      have b3 := (HI.out 3).k
      clear hs3
      obtain ⟨s4, hs4⟩ : ∃ s : ByteArray, s = ⟨(Lib.itoa (n 4)).toArray⟩ := ⟨_, rfl⟩
      have e4 := HDD.out.cell (dC_at (n := n) (m := 6) (k := 6) (i := 4) (by decide))
      rw [dT_all (by decide), ← hs4] at e4
      have z4 : s4.size ≤ 20 := by rw [hs4]; exact i16_len (HI.out 4)
      have HS4 : Hid (s4.data.toList = Lib.itoa (n 4)) := by show _ = _; rw [hs4]
      have b4 := (HI.out 4).k
      clear hs4
      obtain ⟨s5, hs5⟩ : ∃ s : ByteArray, s = ⟨(Lib.itoa (n 5)).toArray⟩ := ⟨_, rfl⟩
      have e5 := HDD.out.cell (dC_at (n := n) (m := 6) (k := 6) (i := 5) (by decide))
      rw [dT_all (by decide), ← hs5] at e5
      have z5 : s5.size ≤ 20 := by rw [hs5]; exact i16_len (HI.out 5)
      have HS5 : Hid (s5.data.toList = Lib.itoa (n 5)) := by show _ = _; rw [hs5]
      have b5 := (HI.out 5).k
      clear hs5
      have HLagA := Lib.hid (agA_len (n := n) HI.out true)
      have HOagA := Lib.hid (show ofP (agA true n) = .ok [⟨1, n 0, n 1, 0, 0, 0, 0, 0⟩, ⟨2, (n 0 + n 2), (n 1 + n 3), 0, 0, 0, 0, 0⟩, ⟨2, ((n 0 + n 2) + n 4), ((n 1 + n 3) + n 5), 0, 0, 0, 0, 0⟩] from of_agA (n := n) HI.out true)
      have HLagB := Lib.hid (agB_len (n := n) HI.out true)
      have HOagB := Lib.hid (show ofP (agB true n) = .ok [⟨1, n 0, n 1, 0, 0, 0, 0, 0⟩, ⟨2, (n 0 + n 2), (n 1 + n 3), 0, 0, 0, 0, 0⟩, ⟨2, ((n 0 + n 2) + n 4), ((n 1 + n 3) + n 5), 0, 0, 0, 0, 0⟩] from of_agB (n := n) HI.out true)
      have HLagC := Lib.hid (agC_len (n := n) HI.out true)
      have HOagC := Lib.hid (show ofP (agC true n) = .ok [⟨1, n 0, n 1, 0, 0, 0, 0, 0⟩, ⟨2, (n 0 + n 2), (n 1 + n 3), 0, 0, 0, 0, 0⟩, ⟨2, ((n 0 + n 2) + n 4), ((n 1 + n 3) + n 5), 0, 0, 0, 0, 0⟩] from of_agC (n := n) HI.out true)
      have HLagH := Lib.hid (agH_len (n := n) HI.out true)
      have HOagH := Lib.hid (show ofP (agH true n) = .ok [⟨1, n 0, n 1, 0, 0, 0, 0, 0⟩, ⟨2, (n 0 + n 2), n 1, 0, 0, 0, 0, 0⟩, ⟨2, (n 0 + n 2), (n 1 + n 3), 0, 0, 0, 0, 0⟩] from of_agH (n := n) HI.out true)
      go_wp2_with (first
        | (go_at_call 14; (with_reducible refine (bk_ofs ?hs HLagA.out (HD0.out.below HB.out).l HOagA.out).mono ?_); (case hs => (simp only [ByteArray.data_append, Array.toList_append, HS0.out, HS1.out, HS2.out, HS3.out, HS4.out, HS5.out]; simp [agA, cM, gnB, qs0])); rintro e w1 ⟨AVA, cVA, rfl, hv, hb⟩; have HB1 := Lib.hid (HB.out.trans (hb.mono HB.out.size)); have HN1 := Lib.hid (HN.out.below hb hl1); replace e0 := (hb.cell (p := ⟨w.heap.size + 1, 0, none⟩) hl2).trans e0; replace e1 := (hb.cell (p := ⟨w.heap.size + 1, 1, none⟩) hl2).trans e1; replace e2 := (hb.cell (p := ⟨w.heap.size + 1, 2, none⟩) hl2).trans e2; replace e3 := (hb.cell (p := ⟨w.heap.size + 1, 3, none⟩) hl2).trans e3; replace e4 := (hb.cell (p := ⟨w.heap.size + 1, 4, none⟩) hl2).trans e4; replace e5 := (hb.cell (p := ⟨w.heap.size + 1, 5, none⟩) hl2).trans e5; replace hl1 := Nat.lt_of_lt_of_le hl1 hb.size; replace hl2 := Nat.lt_of_lt_of_le hl2 hb.size; have VA := Lib.hid hv; clear hv; clear hb)
        | (go_at_call 14; (with_reducible refine (bk_ofs ?hs HLagB.out (HD0.out.below HB1.out).l HOagB.out).mono ?_); (case hs => (simp only [ByteArray.data_append, Array.toList_append, HS0.out, HS1.out, HS2.out, HS3.out, HS4.out, HS5.out]; simp [agB, cM, cL, gnB, qs0])); rintro e w2 ⟨AVB, cVB, rfl, hv, hb⟩; have HB2 := Lib.hid (HB1.out.trans (hb.mono HB1.out.size)); have HN2 := Lib.hid (HN1.out.below hb hl1); replace e0 := (hb.cell (p := ⟨w.heap.size + 1, 0, none⟩) hl2).trans e0; replace e1 := (hb.cell (p := ⟨w.heap.size + 1, 1, none⟩) hl2).trans e1; replace e2 := (hb.cell (p := ⟨w.heap.size + 1, 2, none⟩) hl2).trans e2; replace e3 := (hb.cell (p := ⟨w.heap.size + 1, 3, none⟩) hl2).trans e3; replace e4 := (hb.cell (p := ⟨w.heap.size + 1, 4, none⟩) hl2).trans e4; replace e5 := (hb.cell (p := ⟨w.heap.size + 1, 5, none⟩) hl2).trans e5; replace VA := Lib.hid (VA.out.below hb); replace hl1 := Nat.lt_of_lt_of_le hl1 hb.size; replace hl2 := Nat.lt_of_lt_of_le hl2 hb.size; have VB := Lib.hid hv; clear hv; clear hb)
        | (go_at_call 14; (with_reducible refine (bk_ofs ?hs HLagC.out (HD0.out.below HB2.out).l HOagC.out).mono ?_); (case hs => (simp only [ByteArray.data_append, Array.toList_append, HS0.out, HS1.out, HS2.out, HS3.out, HS4.out, HS5.out]; simp [agC, cM, cL, gnB, qs0])); rintro e w3 ⟨AVC, cVC, rfl, hv, hb⟩; have HB3 := Lib.hid (HB2.out.trans (hb.mono HB2.out.size)); have HN3 := Lib.hid (HN2.out.below hb hl1); replace e0 := (hb.cell (p := ⟨w.heap.size + 1, 0, none⟩) hl2).trans e0; replace e1 := (hb.cell (p := ⟨w.heap.size + 1, 1, none⟩) hl2).trans e1; replace e2 := (hb.cell (p := ⟨w.heap.size + 1, 2, none⟩) hl2).trans e2; replace e3 := (hb.cell (p := ⟨w.heap.size + 1, 3, none⟩) hl2).trans e3; replace e4 := (hb.cell (p := ⟨w.heap.size + 1, 4, none⟩) hl2).trans e4; replace e5 := (hb.cell (p := ⟨w.heap.size + 1, 5, none⟩) hl2).trans e5; replace VA := Lib.hid (VA.out.below hb); replace VB := Lib.hid (VB.out.below hb); replace hl1 := Nat.lt_of_lt_of_le hl1 hb.size; replace hl2 := Nat.lt_of_lt_of_le hl2 hb.size; have VC := Lib.hid hv; clear hv; clear hb)
        | (go_at_call 15; (with_reducible refine (bk_same (n := 3) VA.out VB.out (by simp) (by simp)).mono ?_); rintro e w4 ⟨rfl, hb⟩; have HB4 := Lib.hid (HB3.out.trans (hb.mono HB3.out.size)); have HN4 := Lib.hid (HN3.out.below hb hl1); replace e0 := (hb.cell (p := ⟨w.heap.size + 1, 0, none⟩) hl2).trans e0; replace e1 := (hb.cell (p := ⟨w.heap.size + 1, 1, none⟩) hl2).trans e1; replace e2 := (hb.cell (p := ⟨w.heap.size + 1, 2, none⟩) hl2).trans e2; replace e3 := (hb.cell (p := ⟨w.heap.size + 1, 3, none⟩) hl2).trans e3; replace e4 := (hb.cell (p := ⟨w.heap.size + 1, 4, none⟩) hl2).trans e4; replace e5 := (hb.cell (p := ⟨w.heap.size + 1, 5, none⟩) hl2).trans e5; replace VA := Lib.hid (VA.out.below hb); replace VC := Lib.hid (VC.out.below hb); replace hl1 := Nat.lt_of_lt_of_le hl1 hb.size; replace hl2 := Nat.lt_of_lt_of_le hl2 hb.size; clear hb)
        | (go_at_call 15; (with_reducible refine (bk_same (n := 3) VA.out VC.out (by simp) (by simp)).mono ?_); rintro e w5 ⟨rfl, hb⟩; have HB5 := Lib.hid (HB4.out.trans (hb.mono HB4.out.size)); have HN5 := Lib.hid (HN4.out.below hb hl1); replace e0 := (hb.cell (p := ⟨w.heap.size + 1, 0, none⟩) hl2).trans e0; replace e1 := (hb.cell (p := ⟨w.heap.size + 1, 1, none⟩) hl2).trans e1; replace e2 := (hb.cell (p := ⟨w.heap.size + 1, 2, none⟩) hl2).trans e2; replace e3 := (hb.cell (p := ⟨w.heap.size + 1, 3, none⟩) hl2).trans e3; replace e4 := (hb.cell (p := ⟨w.heap.size + 1, 4, none⟩) hl2).trans e4; replace e5 := (hb.cell (p := ⟨w.heap.size + 1, 5, none⟩) hl2).trans e5; replace hl1 := Nat.lt_of_lt_of_le hl1 hb.size; replace hl2 := Nat.lt_of_lt_of_le hl2 hb.size; clear hb)
        | (go_at_call 14; (with_reducible refine (bk_ofs ?hs HLagH.out (HD0.out.below HB5.out).l HOagH.out).mono ?_); (case hs => (simp only [ByteArray.data_append, Array.toList_append, HS0.out, HS1.out, HS2.out, HS3.out]; simp [agH, cM, cH, cV, gnB, qs0])); rintro e w6 ⟨AVH, cVH, rfl, hv, hb⟩; have HB6 := Lib.hid (HB5.out.trans (hb.mono HB5.out.size)); have HN6 := Lib.hid (HN5.out.below hb hl1); replace hl1 := Nat.lt_of_lt_of_le hl1 hb.size; replace hl2 := Nat.lt_of_lt_of_le hl2 hb.size; have VH := Lib.hid hv; clear hv; clear hb))
      obtain ⟨g1, o1, hA1, hg1, -, q11, q12, -⟩ := VH.out.at_ (i := 1) rfl
      subst hA1
      obtain ⟨g2, o2, hA2, hg2, -, q21, q22, -⟩ := VH.out.at_ (i := 2) rfl
      obtain ⟨rfl, rfl⟩ : g1 = g2 ∧ o1 = o2 := by simpa using hA2
      simp only [Nat.reduceMul] at q11 q12 q21 q22
      have f0 := HN6.out.cell (nC_at (n := n) (m := 6) (i := 0) (by decide))
      have f1 := HN6.out.cell (nC_at (n := n) (m := 6) (i := 1) (by decide))
      have f2 := HN6.out.cell (nC_at (n := n) (m := 6) (i := 2) (by decide))
      have f3 := HN6.out.cell (nC_at (n := n) (m := 6) (i := 3) (by decide))
      go_region
      go_wp2
      go_region
      go_wp2
      have HBW := Lib.hid (HB6.out.drew.drew)
      have hW : ∀ p v, w6.cell? p = some v → w6.drew.drew.cell? p = some v := fun _ _ h => h
      replace q11 := hW _ _ q11
      replace q12 := hW _ _ q12
      replace q21 := hW _ _ q21
      replace q22 := hW _ _ q22
      replace f1 := hW _ _ f1
      clear hW f0 f2 f3 e0 e1 e2 e3 e4 e5 hl1 hl2 HN6 VH
      generalize w6.drew.drew = W at *
      have hM : ∀ p v, W.cell? p = some v → ∀ a b c d, (World.mk W.heap a b c d).cell? p = some v := fun _ _ h _ _ _ _ => h
      replace q11 := hM _ _ q11
      replace q12 := hM _ _ q12
      replace q21 := hM _ _ q21
      replace q22 := hM _ _ q22
      replace f1 := hM _ _ f1
      clear hM
      have hw1 : IntKind.i64.wrap (n 1) = n 1 := IntWalk.i64_in _ (by omega)
      go_still_tail 37, (by kernel_rfl)
      change wpList _ _ _ _ _ W.drew
      go_wp2_with (go_at_call 10; (with_reducible refine (wakes11 (HD0.out.below HBW.out.drew)).mono ?_); rintro e w7 ⟨rfl, hb⟩; have HB7 := Lib.hid (HBW.out.drew.trans (hb.mono HBW.out.drew.size)); clear hb)
      go_ret
      exact ⟨rfl, HB7.out⟩
theorem ag_all {w : World} {n : Nat → Int} (b : Bool) (hd : LD w) (h : ∀ i, i16 (n i)) :
    Calls Tryd.prog 5 #[.agg #[.int .i16 (n 0), .int .i16 (n 1), .int .i16 (n 2), .int .i16 (n 3), .int .i16 (n 4), .int .i16 (n 5)], .bool b] w fun e w' => e = .returned (.bool true) ∧ Below w.heap.size w w' := by
  cases b
  · exact ag_false hd h
  · exact ag_true hd h
end Go.Proofs.YtnapannphldglaaDoor
