/- gessolaw11.PathMirrors. -/
import Derived.Test.YtnapannphldglaaDoorPathN1
namespace Go.Proofs.YtnapannphldglaaDoor
open Go Go.RowKit

theorem mirT_len {n : Nat → Int} (h : ∀ i, i16 (n i)) (j : Nat) (t : Bool) : (mirT n j t).length ≤ 1048576 := by
  have l0 := i16_len (h 0); have l1 := i16_len (h 1); have l2 := i16_len (h 2); have l3 := i16_len (h 3); have l4 := i16_len (h 4); have l5 := i16_len (h 5); have l6 := i16_len (h 6); have l7 := i16_len (h 7)
  unfold mirT mqA mqZ
  cases t
  all_goals
    split
    · simp [gnB, qs0, it_0, it_1, it_2]; omega
    split
    · simp [gnB, qs0, it_0, it_1, it_2]; omega
    · simp [gnB, qs0, it_0, it_1, it_2]; omega
set_option maxRecDepth 100000 in
set_option maxHeartbeats 8000000 in
theorem mir_0 {w : World} {n : Nat → Int} {kd : Nat} (hd : LD w) (h : ∀ i, i16 (n i)) (hk : kd ≤ 255) (h6 : (kd : Int) % 6 = 0) :
    Calls Tryd.prog 4 #[.agg #[.int .i16 (n 0), .int .i16 (n 1), .int .i16 (n 2), .int .i16 (n 3), .int .i16 (n 4), .int .i16 (n 5), .int .i16 (n 6), .int .i16 (n 7)], .int .u8 (kd : Int)] w fun e w' => e = .returned (.bool true) ∧ Below w.heap.size w w' := by
  have HD0 := Lib.hid hd
  have HI := Lib.hid h
  have HN0 : Hid (CB (w.alloc (.cells #[.int .i16 (n 0), .int .i16 (n 1), .int .i16 (n 2), .int .i16 (n 3), .int .i16 (n 4), .int .i16 (n 5), .int .i16 (n 6), .int .i16 (n 7)] 37)) w.heap.size (nC n 8) 37) := heap_alloc_new w _
  have HDD0 : Hid (CB ((w.alloc (.cells #[.int .i16 (n 0), .int .i16 (n 1), .int .i16 (n 2), .int .i16 (n 3), .int .i16 (n 4), .int .i16 (n 5), .int .i16 (n 6), .int .i16 (n 7)] 37)).alloc (.cells #[.string ⟨#[]⟩, .string ⟨#[]⟩, .string ⟨#[]⟩, .string ⟨#[]⟩, .string ⟨#[]⟩, .string ⟨#[]⟩, .string ⟨#[]⟩, .string ⟨#[]⟩] 38)) (w.heap.size + 1) (dC n 8 0) 38) := by
    have := heap_alloc_new (w.alloc (.cells #[.int .i16 (n 0), .int .i16 (n 1), .int .i16 (n 2), .int .i16 (n 3), .int .i16 (n 4), .int .i16 (n 5), .int .i16 (n 6), .int .i16 (n 7)] 37)) (.cells #[.string ⟨#[]⟩, .string ⟨#[]⟩, .string ⟨#[]⟩, .string ⟨#[]⟩, .string ⟨#[]⟩, .string ⟨#[]⟩, .string ⟨#[]⟩, .string ⟨#[]⟩] 38)
    rw [World.size_alloc] at this
    exact this
  clear hd h
  go_enter Tryd.func4, Tryd.ntmps4
  go_wp2
  go_loopw [6] (fun i wr => ∃ k : Nat, k ≤ 8 ∧ i = .int .i64 (k : Int) ∧ CB wr w.heap.size (nC n 8) 37 ∧ CB wr (w.heap.size + 1) (dC n 8 k) 38 ∧ Below w.heap.size w wr) (fun i _ => 8 - (intOf i).toNat)
  case atStart => exact ⟨0, Nat.zero_le _, rfl, HN0.out.below ((Below.refl _ _).alloc (Nat.le_refl _) _) (by simp [World.size_alloc]), HDD0.out, ((Below.refl _ _).alloc (Nat.le_refl _) _).alloc (by simp [World.size_alloc]) _⟩
  case round =>
    obtain ⟨k, hk, rfl, hn, hdd, hb⟩ := hrel
    have HN := Lib.hid hn
    have HDD := Lib.hid hdd
    have HB := Lib.hid hb
    have hzr := hb.size
    have hl1 := hn.lt
    have hl2 := hdd.lt
    clear hn hdd hb
    by_cases hlt : k < 8
    · have hlt' : (k : Int) < 8 := by omega
      have hc := HN.out.cell (nC_at (n := n) hlt)
      have hi := (HI.out k).k
      have HV := Lib.hid (show -4611686018427387904 ≤ n k ∧ n k ≤ 4611686018427387904 by omega)
      have hf : ∀ W, Below wr.heap.size wr W → W.frozen? ⟨w.heap.size + 1, k, none⟩ = false := fun W hW => (HDD.out.below hW hl2).fz k
      have hcc : ∀ W, Below wr.heap.size wr W → W.cell? ⟨w.heap.size + 1, k, none⟩ = some (.string (dT n k k)) := fun W hW => (HDD.out.below hW hl2).cell (dC_at hlt)
      go_wp2_with (go_at_call 11; (with_reducible refine (dec12 HV.out).mono ?_); rintro e w3 ⟨rfl, hb3⟩; have hf3 := hf w3 hb3; have hcc3 := hcc w3 hb3; have hl3 : w.heap.size + 1 < w3.heap.size := Nat.lt_of_lt_of_le hl2 hb3.size; replace hb3 := Lib.hid hb3)
      refine ⟨⟨k + 1, hlt, by go_num, (HN.out.below hb3.out hl1).other (by omega), (HDD.out.below hb3.out hl2).put hlt, (HB.out.trans (hb3.out.mono hzr)).setCell (by simp) _⟩, by simp [intOf]; omega⟩
    · have hlt' : ¬ (k : Int) < 8 := by omega
      obtain rfl : k = 8 := by omega
      obtain ⟨s0, hs0⟩ : ∃ s : ByteArray, s = ⟨(Lib.itoa (n 0)).toArray⟩ := ⟨_, rfl⟩
      have e0 := HDD.out.cell (dC_at (n := n) (m := 8) (k := 8) (i := 0) (by decide))
      rw [dT_all (by decide), ← hs0] at e0
      have z0 : s0.size ≤ 20 := by rw [hs0]; exact i16_len (HI.out 0)
      have HS0 : Hid (s0.data.toList = Lib.itoa (n 0)) := by show _ = _; rw [hs0]
      have b0 := (HI.out 0).k
      clear hs0
      obtain ⟨s1, hs1⟩ : ∃ s : ByteArray, s = ⟨(Lib.itoa (n 1)).toArray⟩ := ⟨_, rfl⟩
      have e1 := HDD.out.cell (dC_at (n := n) (m := 8) (k := 8) (i := 1) (by decide))
      rw [dT_all (by decide), ← hs1] at e1
      have z1 : s1.size ≤ 20 := by rw [hs1]; exact i16_len (HI.out 1)
      have HS1 : Hid (s1.data.toList = Lib.itoa (n 1)) := by show _ = _; rw [hs1]
      have b1 := (HI.out 1).k
      clear hs1
      obtain ⟨s2, hs2⟩ : ∃ s : ByteArray, s = ⟨(Lib.itoa (n 2)).toArray⟩ := ⟨_, rfl⟩
      have e2 := HDD.out.cell (dC_at (n := n) (m := 8) (k := 8) (i := 2) (by decide))
      rw [dT_all (by decide), ← hs2] at e2
      have z2 : s2.size ≤ 20 := by rw [hs2]; exact i16_len (HI.out 2)
      have HS2 : Hid (s2.data.toList = Lib.itoa (n 2)) := by show _ = _; rw [hs2]
      have b2 := (HI.out 2).k
      clear hs2
      obtain ⟨s3, hs3⟩ : ∃ s : ByteArray, s = ⟨(Lib.itoa (n 3)).toArray⟩ := ⟨_, rfl⟩
      have e3 := HDD.out.cell (dC_at (n := n) (m := 8) (k := 8) (i := 3) (by decide))
      rw [dT_all (by decide), ← hs3] at e3
      have z3 : s3.size ≤ 20 := by rw [hs3]; exact i16_len (HI.out 3)
      have HS3 : Hid (s3.data.toList = Lib.itoa (n 3)) := by show _ = _; rw [hs3]
      have b3 := (HI.out 3).k
      clear hs3
      obtain ⟨s4, hs4⟩ : ∃ s : ByteArray, s = ⟨(Lib.itoa (n 4)).toArray⟩ := ⟨_, rfl⟩
      have e4 := HDD.out.cell (dC_at (n := n) (m := 8) (k := 8) (i := 4) (by decide))
      rw [dT_all (by decide), ← hs4] at e4
      have z4 : s4.size ≤ 20 := by rw [hs4]; exact i16_len (HI.out 4)
      have HS4 : Hid (s4.data.toList = Lib.itoa (n 4)) := by show _ = _; rw [hs4]
      have b4 := (HI.out 4).k
      clear hs4
      obtain ⟨s5, hs5⟩ : ∃ s : ByteArray, s = ⟨(Lib.itoa (n 5)).toArray⟩ := ⟨_, rfl⟩
      have e5 := HDD.out.cell (dC_at (n := n) (m := 8) (k := 8) (i := 5) (by decide))
      rw [dT_all (by decide), ← hs5] at e5
      have z5 : s5.size ≤ 20 := by rw [hs5]; exact i16_len (HI.out 5)
      have HS5 : Hid (s5.data.toList = Lib.itoa (n 5)) := by show _ = _; rw [hs5]
      have b5 := (HI.out 5).k
      clear hs5
      obtain ⟨s6, hs6⟩ : ∃ s : ByteArray, s = ⟨(Lib.itoa (n 6)).toArray⟩ := ⟨_, rfl⟩
      have e6 := HDD.out.cell (dC_at (n := n) (m := 8) (k := 8) (i := 6) (by decide))
      rw [dT_all (by decide), ← hs6] at e6
      have z6 : s6.size ≤ 20 := by rw [hs6]; exact i16_len (HI.out 6)
      have HS6 : Hid (s6.data.toList = Lib.itoa (n 6)) := by show _ = _; rw [hs6]
      have b6 := (HI.out 6).k
      clear hs6
      obtain ⟨s7, hs7⟩ : ∃ s : ByteArray, s = ⟨(Lib.itoa (n 7)).toArray⟩ := ⟨_, rfl⟩
      have e7 := HDD.out.cell (dC_at (n := n) (m := 8) (k := 8) (i := 7) (by decide))
      rw [dT_all (by decide), ← hs7] at e7
      have z7 : s7.size ≤ 20 := by rw [hs7]; exact i16_len (HI.out 7)
      have HS7 : Hid (s7.data.toList = Lib.itoa (n 7)) := by show _ = _; rw [hs7]
      have b7 := (HI.out 7).k
      clear hs7
      have HL := Lib.hid (mirT_len (n := n) HI.out 0 false)
      have HO := Lib.hid (show ofP (mirT n 0 false) = .ok [⟨1, 0, 0, 0, 0, 0, 0, 0⟩, msA n 0, ⟨4, 2 * n 4 - n 2, 2 * n 5 - n 3, 1, 2, n 6, n 7, 0⟩] from of_mir (n := n) HI.out (j := 0) (by decide) false)
      go_wp2_with (go_at_call 14; (with_reducible refine (bk_ofs ?hs HL.out (HD0.out.below (HB.out.alloc hzr _)).l HO.out).mono ?_); (case hs => (simp only [ByteArray.data_append, Array.toList_append, HS0.out, HS1.out, HS2.out, HS3.out, HS4.out, HS5.out, HS6.out, HS7.out]; simp [mirT, gnB, qs0, mqA, mcA, mcZ, mqZ, it_0, it_1, it_2])); rintro e w3 ⟨A3, c3, rfl, hv3, hb3⟩; replace hb3 := ((Below.refl wr.heap.size wr).alloc (Nat.le_refl _) _).trans (hb3.mono (by simp)); obtain ⟨g3, o3, rfl, hg3, q0, q1, q2, -⟩ := hv3.at_ (i := 2) rfl; simp only [Nat.reduceMul] at q0 q1 q2; have f2 := (HN.out.below hb3 hl1).cell (nC_at (n := n) (m := 8) (i := 2) (by decide)); have f3 := (HN.out.below hb3 hl1).cell (nC_at (n := n) (m := 8) (i := 3) (by decide)); have f4 := (HN.out.below hb3 hl1).cell (nC_at (n := n) (m := 8) (i := 4) (by decide)); have f5 := (HN.out.below hb3 hl1).cell (nC_at (n := n) (m := 8) (i := 5) (by decide)); have HB3 := Lib.hid (HB.out.trans (hb3.mono hzr)); clear hv3 hb3)
      go_region
      go_wp2
      go_region
      go_wp2_with (go_at_call 10; (with_reducible refine (wakes11 (HD0.out.below HB3.out.drew.drew)).mono ?_); rintro e w4 ⟨rfl, hb4⟩; have HB4 := Lib.hid (HB3.out.drew.drew.trans (hb4.mono HB3.out.drew.drew.size)); clear hb4)
      go_ret
      exact ⟨rfl, HB4.out⟩
set_option maxRecDepth 100000 in
set_option maxHeartbeats 8000000 in
theorem mir_1 {w : World} {n : Nat → Int} {kd : Nat} (hd : LD w) (h : ∀ i, i16 (n i)) (hk : kd ≤ 255) (h6 : (kd : Int) % 6 = 1) :
    Calls Tryd.prog 4 #[.agg #[.int .i16 (n 0), .int .i16 (n 1), .int .i16 (n 2), .int .i16 (n 3), .int .i16 (n 4), .int .i16 (n 5), .int .i16 (n 6), .int .i16 (n 7)], .int .u8 (kd : Int)] w fun e w' => e = .returned (.bool true) ∧ Below w.heap.size w w' := by
  have HD0 := Lib.hid hd
  have HI := Lib.hid h
  have HN0 : Hid (CB (w.alloc (.cells #[.int .i16 (n 0), .int .i16 (n 1), .int .i16 (n 2), .int .i16 (n 3), .int .i16 (n 4), .int .i16 (n 5), .int .i16 (n 6), .int .i16 (n 7)] 37)) w.heap.size (nC n 8) 37) := heap_alloc_new w _
  have HDD0 : Hid (CB ((w.alloc (.cells #[.int .i16 (n 0), .int .i16 (n 1), .int .i16 (n 2), .int .i16 (n 3), .int .i16 (n 4), .int .i16 (n 5), .int .i16 (n 6), .int .i16 (n 7)] 37)).alloc (.cells #[.string ⟨#[]⟩, .string ⟨#[]⟩, .string ⟨#[]⟩, .string ⟨#[]⟩, .string ⟨#[]⟩, .string ⟨#[]⟩, .string ⟨#[]⟩, .string ⟨#[]⟩] 38)) (w.heap.size + 1) (dC n 8 0) 38) := by
    have := heap_alloc_new (w.alloc (.cells #[.int .i16 (n 0), .int .i16 (n 1), .int .i16 (n 2), .int .i16 (n 3), .int .i16 (n 4), .int .i16 (n 5), .int .i16 (n 6), .int .i16 (n 7)] 37)) (.cells #[.string ⟨#[]⟩, .string ⟨#[]⟩, .string ⟨#[]⟩, .string ⟨#[]⟩, .string ⟨#[]⟩, .string ⟨#[]⟩, .string ⟨#[]⟩, .string ⟨#[]⟩] 38)
    rw [World.size_alloc] at this
    exact this
  clear hd h
  go_enter Tryd.func4, Tryd.ntmps4
  go_wp2
  go_loopw [6] (fun i wr => ∃ k : Nat, k ≤ 8 ∧ i = .int .i64 (k : Int) ∧ CB wr w.heap.size (nC n 8) 37 ∧ CB wr (w.heap.size + 1) (dC n 8 k) 38 ∧ Below w.heap.size w wr) (fun i _ => 8 - (intOf i).toNat)
  case atStart => exact ⟨0, Nat.zero_le _, rfl, HN0.out.below ((Below.refl _ _).alloc (Nat.le_refl _) _) (by simp [World.size_alloc]), HDD0.out, ((Below.refl _ _).alloc (Nat.le_refl _) _).alloc (by simp [World.size_alloc]) _⟩
  case round =>
    obtain ⟨k, hk, rfl, hn, hdd, hb⟩ := hrel
    have HN := Lib.hid hn
    have HDD := Lib.hid hdd
    have HB := Lib.hid hb
    have hzr := hb.size
    have hl1 := hn.lt
    have hl2 := hdd.lt
    clear hn hdd hb
    by_cases hlt : k < 8
    · have hlt' : (k : Int) < 8 := by omega
      have hc := HN.out.cell (nC_at (n := n) hlt)
      have hi := (HI.out k).k
      have HV := Lib.hid (show -4611686018427387904 ≤ n k ∧ n k ≤ 4611686018427387904 by omega)
      have hf : ∀ W, Below wr.heap.size wr W → W.frozen? ⟨w.heap.size + 1, k, none⟩ = false := fun W hW => (HDD.out.below hW hl2).fz k
      have hcc : ∀ W, Below wr.heap.size wr W → W.cell? ⟨w.heap.size + 1, k, none⟩ = some (.string (dT n k k)) := fun W hW => (HDD.out.below hW hl2).cell (dC_at hlt)
      go_wp2_with (go_at_call 11; (with_reducible refine (dec12 HV.out).mono ?_); rintro e w3 ⟨rfl, hb3⟩; have hf3 := hf w3 hb3; have hcc3 := hcc w3 hb3; have hl3 : w.heap.size + 1 < w3.heap.size := Nat.lt_of_lt_of_le hl2 hb3.size; replace hb3 := Lib.hid hb3)
      refine ⟨⟨k + 1, hlt, by go_num, (HN.out.below hb3.out hl1).other (by omega), (HDD.out.below hb3.out hl2).put hlt, (HB.out.trans (hb3.out.mono hzr)).setCell (by simp) _⟩, by simp [intOf]; omega⟩
    · have hlt' : ¬ (k : Int) < 8 := by omega
      obtain rfl : k = 8 := by omega
      obtain ⟨s0, hs0⟩ : ∃ s : ByteArray, s = ⟨(Lib.itoa (n 0)).toArray⟩ := ⟨_, rfl⟩
      have e0 := HDD.out.cell (dC_at (n := n) (m := 8) (k := 8) (i := 0) (by decide))
      rw [dT_all (by decide), ← hs0] at e0
      have z0 : s0.size ≤ 20 := by rw [hs0]; exact i16_len (HI.out 0)
      have HS0 : Hid (s0.data.toList = Lib.itoa (n 0)) := by show _ = _; rw [hs0]
      have b0 := (HI.out 0).k
      clear hs0
      obtain ⟨s1, hs1⟩ : ∃ s : ByteArray, s = ⟨(Lib.itoa (n 1)).toArray⟩ := ⟨_, rfl⟩
      have e1 := HDD.out.cell (dC_at (n := n) (m := 8) (k := 8) (i := 1) (by decide))
      rw [dT_all (by decide), ← hs1] at e1
      have z1 : s1.size ≤ 20 := by rw [hs1]; exact i16_len (HI.out 1)
      have HS1 : Hid (s1.data.toList = Lib.itoa (n 1)) := by show _ = _; rw [hs1]
      have b1 := (HI.out 1).k
      clear hs1
      obtain ⟨s2, hs2⟩ : ∃ s : ByteArray, s = ⟨(Lib.itoa (n 2)).toArray⟩ := ⟨_, rfl⟩
      have e2 := HDD.out.cell (dC_at (n := n) (m := 8) (k := 8) (i := 2) (by decide))
      rw [dT_all (by decide), ← hs2] at e2
      have z2 : s2.size ≤ 20 := by rw [hs2]; exact i16_len (HI.out 2)
      have HS2 : Hid (s2.data.toList = Lib.itoa (n 2)) := by show _ = _; rw [hs2]
      have b2 := (HI.out 2).k
      clear hs2
      obtain ⟨s3, hs3⟩ : ∃ s : ByteArray, s = ⟨(Lib.itoa (n 3)).toArray⟩ := ⟨_, rfl⟩
      have e3 := HDD.out.cell (dC_at (n := n) (m := 8) (k := 8) (i := 3) (by decide))
      rw [dT_all (by decide), ← hs3] at e3
      have z3 : s3.size ≤ 20 := by rw [hs3]; exact i16_len (HI.out 3)
      have HS3 : Hid (s3.data.toList = Lib.itoa (n 3)) := by show _ = _; rw [hs3]
      have b3 := (HI.out 3).k
      clear hs3
      obtain ⟨s4, hs4⟩ : ∃ s : ByteArray, s = ⟨(Lib.itoa (n 4)).toArray⟩ := ⟨_, rfl⟩
      have e4 := HDD.out.cell (dC_at (n := n) (m := 8) (k := 8) (i := 4) (by decide))
      rw [dT_all (by decide), ← hs4] at e4
      have z4 : s4.size ≤ 20 := by rw [hs4]; exact i16_len (HI.out 4)
      have HS4 : Hid (s4.data.toList = Lib.itoa (n 4)) := by show _ = _; rw [hs4]
      have b4 := (HI.out 4).k
      clear hs4
      obtain ⟨s5, hs5⟩ : ∃ s : ByteArray, s = ⟨(Lib.itoa (n 5)).toArray⟩ := ⟨_, rfl⟩
      have e5 := HDD.out.cell (dC_at (n := n) (m := 8) (k := 8) (i := 5) (by decide))
      rw [dT_all (by decide), ← hs5] at e5
      have z5 : s5.size ≤ 20 := by rw [hs5]; exact i16_len (HI.out 5)
      have HS5 : Hid (s5.data.toList = Lib.itoa (n 5)) := by show _ = _; rw [hs5]
      have b5 := (HI.out 5).k
      clear hs5
      obtain ⟨s6, hs6⟩ : ∃ s : ByteArray, s = ⟨(Lib.itoa (n 6)).toArray⟩ := ⟨_, rfl⟩
      have e6 := HDD.out.cell (dC_at (n := n) (m := 8) (k := 8) (i := 6) (by decide))
      rw [dT_all (by decide), ← hs6] at e6
      have z6 : s6.size ≤ 20 := by rw [hs6]; exact i16_len (HI.out 6)
      have HS6 : Hid (s6.data.toList = Lib.itoa (n 6)) := by show _ = _; rw [hs6]
      have b6 := (HI.out 6).k
      clear hs6
      obtain ⟨s7, hs7⟩ : ∃ s : ByteArray, s = ⟨(Lib.itoa (n 7)).toArray⟩ := ⟨_, rfl⟩
      have e7 := HDD.out.cell (dC_at (n := n) (m := 8) (k := 8) (i := 7) (by decide))
      rw [dT_all (by decide), ← hs7] at e7
      have z7 : s7.size ≤ 20 := by rw [hs7]; exact i16_len (HI.out 7)
      have HS7 : Hid (s7.data.toList = Lib.itoa (n 7)) := by show _ = _; rw [hs7]
      have b7 := (HI.out 7).k
      clear hs7
      have HL := Lib.hid (mirT_len (n := n) HI.out 1 false)
      have HO := Lib.hid (show ofP (mirT n 1 false) = .ok [⟨1, 0, 0, 0, 0, 0, 0, 0⟩, msA n 1, ⟨4, n 4, n 5, 1, 2, n 6, n 7, 0⟩] from of_mir (n := n) HI.out (j := 1) (by decide) false)
      go_wp2_with (go_at_call 14; (with_reducible refine (bk_ofs ?hs HL.out (HD0.out.below (HB.out.alloc hzr _)).l HO.out).mono ?_); (case hs => (simp only [ByteArray.data_append, Array.toList_append, HS2.out, HS3.out, HS4.out, HS5.out, HS6.out, HS7.out]; simp [mirT, gnB, qs0, mqA, mcA, mcZ, mqZ, it_0, it_1, it_2])); rintro e w3 ⟨A3, c3, rfl, hv3, hb3⟩; replace hb3 := ((Below.refl wr.heap.size wr).alloc (Nat.le_refl _) _).trans (hb3.mono (by simp)); obtain ⟨g3, o3, rfl, hg3, q0, q1, q2, -⟩ := hv3.at_ (i := 2) rfl; simp only [Nat.reduceMul] at q0 q1 q2; have f2 := (HN.out.below hb3 hl1).cell (nC_at (n := n) (m := 8) (i := 2) (by decide)); have f3 := (HN.out.below hb3 hl1).cell (nC_at (n := n) (m := 8) (i := 3) (by decide)); have f4 := (HN.out.below hb3 hl1).cell (nC_at (n := n) (m := 8) (i := 4) (by decide)); have f5 := (HN.out.below hb3 hl1).cell (nC_at (n := n) (m := 8) (i := 5) (by decide)); have HB3 := Lib.hid (HB.out.trans (hb3.mono hzr)); clear hv3 hb3)
      go_region
      go_wp2_with (go_at_call 10; (with_reducible refine (wakes11 (HD0.out.below HB3.out.drew)).mono ?_); rintro e w4 ⟨rfl, hb4⟩; have HB4 := Lib.hid (HB3.out.drew.trans (hb4.mono HB3.out.drew.size)); clear hb4)
      go_ret
      exact ⟨rfl, HB4.out⟩
set_option maxRecDepth 100000 in
set_option maxHeartbeats 8000000 in
theorem mir_2 {w : World} {n : Nat → Int} {kd : Nat} (hd : LD w) (h : ∀ i, i16 (n i)) (hk : kd ≤ 255) (h6 : (kd : Int) % 6 = 2) :
    Calls Tryd.prog 4 #[.agg #[.int .i16 (n 0), .int .i16 (n 1), .int .i16 (n 2), .int .i16 (n 3), .int .i16 (n 4), .int .i16 (n 5), .int .i16 (n 6), .int .i16 (n 7)], .int .u8 (kd : Int)] w fun e w' => e = .returned (.bool true) ∧ Below w.heap.size w w' := by
  have HD0 := Lib.hid hd
  have HI := Lib.hid h
  have HN0 : Hid (CB (w.alloc (.cells #[.int .i16 (n 0), .int .i16 (n 1), .int .i16 (n 2), .int .i16 (n 3), .int .i16 (n 4), .int .i16 (n 5), .int .i16 (n 6), .int .i16 (n 7)] 37)) w.heap.size (nC n 8) 37) := heap_alloc_new w _
  have HDD0 : Hid (CB ((w.alloc (.cells #[.int .i16 (n 0), .int .i16 (n 1), .int .i16 (n 2), .int .i16 (n 3), .int .i16 (n 4), .int .i16 (n 5), .int .i16 (n 6), .int .i16 (n 7)] 37)).alloc (.cells #[.string ⟨#[]⟩, .string ⟨#[]⟩, .string ⟨#[]⟩, .string ⟨#[]⟩, .string ⟨#[]⟩, .string ⟨#[]⟩, .string ⟨#[]⟩, .string ⟨#[]⟩] 38)) (w.heap.size + 1) (dC n 8 0) 38) := by
    have := heap_alloc_new (w.alloc (.cells #[.int .i16 (n 0), .int .i16 (n 1), .int .i16 (n 2), .int .i16 (n 3), .int .i16 (n 4), .int .i16 (n 5), .int .i16 (n 6), .int .i16 (n 7)] 37)) (.cells #[.string ⟨#[]⟩, .string ⟨#[]⟩, .string ⟨#[]⟩, .string ⟨#[]⟩, .string ⟨#[]⟩, .string ⟨#[]⟩, .string ⟨#[]⟩, .string ⟨#[]⟩] 38)
    rw [World.size_alloc] at this
    exact this
  clear hd h
  go_enter Tryd.func4, Tryd.ntmps4
  go_wp2
  go_loopw [6] (fun i wr => ∃ k : Nat, k ≤ 8 ∧ i = .int .i64 (k : Int) ∧ CB wr w.heap.size (nC n 8) 37 ∧ CB wr (w.heap.size + 1) (dC n 8 k) 38 ∧ Below w.heap.size w wr) (fun i _ => 8 - (intOf i).toNat)
  case atStart => exact ⟨0, Nat.zero_le _, rfl, HN0.out.below ((Below.refl _ _).alloc (Nat.le_refl _) _) (by simp [World.size_alloc]), HDD0.out, ((Below.refl _ _).alloc (Nat.le_refl _) _).alloc (by simp [World.size_alloc]) _⟩
  case round =>
    obtain ⟨k, hk, rfl, hn, hdd, hb⟩ := hrel
    have HN := Lib.hid hn
    have HDD := Lib.hid hdd
    have HB := Lib.hid hb
    have hzr := hb.size
    have hl1 := hn.lt
    have hl2 := hdd.lt
    clear hn hdd hb
    by_cases hlt : k < 8
    · have hlt' : (k : Int) < 8 := by omega
      have hc := HN.out.cell (nC_at (n := n) hlt)
      have hi := (HI.out k).k
      have HV := Lib.hid (show -4611686018427387904 ≤ n k ∧ n k ≤ 4611686018427387904 by omega)
      have hf : ∀ W, Below wr.heap.size wr W → W.frozen? ⟨w.heap.size + 1, k, none⟩ = false := fun W hW => (HDD.out.below hW hl2).fz k
      have hcc : ∀ W, Below wr.heap.size wr W → W.cell? ⟨w.heap.size + 1, k, none⟩ = some (.string (dT n k k)) := fun W hW => (HDD.out.below hW hl2).cell (dC_at hlt)
      go_wp2_with (go_at_call 11; (with_reducible refine (dec12 HV.out).mono ?_); rintro e w3 ⟨rfl, hb3⟩; have hf3 := hf w3 hb3; have hcc3 := hcc w3 hb3; have hl3 : w.heap.size + 1 < w3.heap.size := Nat.lt_of_lt_of_le hl2 hb3.size; replace hb3 := Lib.hid hb3)
      refine ⟨⟨k + 1, hlt, by go_num, (HN.out.below hb3.out hl1).other (by omega), (HDD.out.below hb3.out hl2).put hlt, (HB.out.trans (hb3.out.mono hzr)).setCell (by simp) _⟩, by simp [intOf]; omega⟩
    · have hlt' : ¬ (k : Int) < 8 := by omega
      obtain rfl : k = 8 := by omega
      obtain ⟨s0, hs0⟩ : ∃ s : ByteArray, s = ⟨(Lib.itoa (n 0)).toArray⟩ := ⟨_, rfl⟩
      have e0 := HDD.out.cell (dC_at (n := n) (m := 8) (k := 8) (i := 0) (by decide))
      rw [dT_all (by decide), ← hs0] at e0
      have z0 : s0.size ≤ 20 := by rw [hs0]; exact i16_len (HI.out 0)
      have HS0 : Hid (s0.data.toList = Lib.itoa (n 0)) := by show _ = _; rw [hs0]
      have b0 := (HI.out 0).k
      clear hs0
      obtain ⟨s1, hs1⟩ : ∃ s : ByteArray, s = ⟨(Lib.itoa (n 1)).toArray⟩ := ⟨_, rfl⟩
      have e1 := HDD.out.cell (dC_at (n := n) (m := 8) (k := 8) (i := 1) (by decide))
      rw [dT_all (by decide), ← hs1] at e1
      have z1 : s1.size ≤ 20 := by rw [hs1]; exact i16_len (HI.out 1)
      have HS1 : Hid (s1.data.toList = Lib.itoa (n 1)) := by show _ = _; rw [hs1]
      have b1 := (HI.out 1).k
      clear hs1
      obtain ⟨s2, hs2⟩ : ∃ s : ByteArray, s = ⟨(Lib.itoa (n 2)).toArray⟩ := ⟨_, rfl⟩
      have e2 := HDD.out.cell (dC_at (n := n) (m := 8) (k := 8) (i := 2) (by decide))
      rw [dT_all (by decide), ← hs2] at e2
      have z2 : s2.size ≤ 20 := by rw [hs2]; exact i16_len (HI.out 2)
      have HS2 : Hid (s2.data.toList = Lib.itoa (n 2)) := by show _ = _; rw [hs2]
      have b2 := (HI.out 2).k
      clear hs2
      obtain ⟨s3, hs3⟩ : ∃ s : ByteArray, s = ⟨(Lib.itoa (n 3)).toArray⟩ := ⟨_, rfl⟩
      have e3 := HDD.out.cell (dC_at (n := n) (m := 8) (k := 8) (i := 3) (by decide))
      rw [dT_all (by decide), ← hs3] at e3
      have z3 : s3.size ≤ 20 := by rw [hs3]; exact i16_len (HI.out 3)
      have HS3 : Hid (s3.data.toList = Lib.itoa (n 3)) := by show _ = _; rw [hs3]
      have b3 := (HI.out 3).k
      clear hs3
      obtain ⟨s4, hs4⟩ : ∃ s : ByteArray, s = ⟨(Lib.itoa (n 4)).toArray⟩ := ⟨_, rfl⟩
      have e4 := HDD.out.cell (dC_at (n := n) (m := 8) (k := 8) (i := 4) (by decide))
      rw [dT_all (by decide), ← hs4] at e4
      have z4 : s4.size ≤ 20 := by rw [hs4]; exact i16_len (HI.out 4)
      have HS4 : Hid (s4.data.toList = Lib.itoa (n 4)) := by show _ = _; rw [hs4]
      have b4 := (HI.out 4).k
      clear hs4
      obtain ⟨s5, hs5⟩ : ∃ s : ByteArray, s = ⟨(Lib.itoa (n 5)).toArray⟩ := ⟨_, rfl⟩
      have e5 := HDD.out.cell (dC_at (n := n) (m := 8) (k := 8) (i := 5) (by decide))
      rw [dT_all (by decide), ← hs5] at e5
      have z5 : s5.size ≤ 20 := by rw [hs5]; exact i16_len (HI.out 5)
      have HS5 : Hid (s5.data.toList = Lib.itoa (n 5)) := by show _ = _; rw [hs5]
      have b5 := (HI.out 5).k
      clear hs5
      obtain ⟨s6, hs6⟩ : ∃ s : ByteArray, s = ⟨(Lib.itoa (n 6)).toArray⟩ := ⟨_, rfl⟩
      have e6 := HDD.out.cell (dC_at (n := n) (m := 8) (k := 8) (i := 6) (by decide))
      rw [dT_all (by decide), ← hs6] at e6
      have z6 : s6.size ≤ 20 := by rw [hs6]; exact i16_len (HI.out 6)
      have HS6 : Hid (s6.data.toList = Lib.itoa (n 6)) := by show _ = _; rw [hs6]
      have b6 := (HI.out 6).k
      clear hs6
      obtain ⟨s7, hs7⟩ : ∃ s : ByteArray, s = ⟨(Lib.itoa (n 7)).toArray⟩ := ⟨_, rfl⟩
      have e7 := HDD.out.cell (dC_at (n := n) (m := 8) (k := 8) (i := 7) (by decide))
      rw [dT_all (by decide), ← hs7] at e7
      have z7 : s7.size ≤ 20 := by rw [hs7]; exact i16_len (HI.out 7)
      have HS7 : Hid (s7.data.toList = Lib.itoa (n 7)) := by show _ = _; rw [hs7]
      have b7 := (HI.out 7).k
      clear hs7
      have HL := Lib.hid (mirT_len (n := n) HI.out 2 false)
      have HO := Lib.hid (show ofP (mirT n 2 false) = .ok [⟨1, 0, 0, 0, 0, 0, 0, 0⟩, msA n 2, ⟨4, n 4, n 5, 1, 2, n 6, n 7, 0⟩] from of_mir (n := n) HI.out (j := 2) (by decide) false)
      go_wp2_with (go_at_call 14; (with_reducible refine (bk_ofs ?hs HL.out (HD0.out.below (HB.out.alloc hzr _)).l HO.out).mono ?_); (case hs => (simp only [ByteArray.data_append, Array.toList_append, HS4.out, HS5.out, HS6.out, HS7.out]; simp [mirT, gnB, qs0, mqA, mcA, mcZ, mqZ, it_0, it_1, it_2])); rintro e w3 ⟨A3, c3, rfl, hv3, hb3⟩; replace hb3 := ((Below.refl wr.heap.size wr).alloc (Nat.le_refl _) _).trans (hb3.mono (by simp)); obtain ⟨g3, o3, rfl, hg3, q0, q1, q2, -⟩ := hv3.at_ (i := 2) rfl; simp only [Nat.reduceMul] at q0 q1 q2; have f2 := (HN.out.below hb3 hl1).cell (nC_at (n := n) (m := 8) (i := 2) (by decide)); have f3 := (HN.out.below hb3 hl1).cell (nC_at (n := n) (m := 8) (i := 3) (by decide)); have f4 := (HN.out.below hb3 hl1).cell (nC_at (n := n) (m := 8) (i := 4) (by decide)); have f5 := (HN.out.below hb3 hl1).cell (nC_at (n := n) (m := 8) (i := 5) (by decide)); have HB3 := Lib.hid (HB.out.trans (hb3.mono hzr)); clear hv3 hb3)
      go_region
      go_wp2_with (go_at_call 10; (with_reducible refine (wakes11 (HD0.out.below HB3.out.drew)).mono ?_); rintro e w4 ⟨rfl, hb4⟩; have HB4 := Lib.hid (HB3.out.drew.trans (hb4.mono HB3.out.drew.size)); clear hb4)
      go_ret
      exact ⟨rfl, HB4.out⟩
set_option maxRecDepth 100000 in
set_option maxHeartbeats 8000000 in
theorem mir_3 {w : World} {n : Nat → Int} {kd : Nat} (hd : LD w) (h : ∀ i, i16 (n i)) (hk : kd ≤ 255) (h6 : (kd : Int) % 6 = 3) :
    Calls Tryd.prog 4 #[.agg #[.int .i16 (n 0), .int .i16 (n 1), .int .i16 (n 2), .int .i16 (n 3), .int .i16 (n 4), .int .i16 (n 5), .int .i16 (n 6), .int .i16 (n 7)], .int .u8 (kd : Int)] w fun e w' => e = .returned (.bool true) ∧ Below w.heap.size w w' := by
  have HD0 := Lib.hid hd
  have HI := Lib.hid h
  have HN0 : Hid (CB (w.alloc (.cells #[.int .i16 (n 0), .int .i16 (n 1), .int .i16 (n 2), .int .i16 (n 3), .int .i16 (n 4), .int .i16 (n 5), .int .i16 (n 6), .int .i16 (n 7)] 37)) w.heap.size (nC n 8) 37) := heap_alloc_new w _
  have HDD0 : Hid (CB ((w.alloc (.cells #[.int .i16 (n 0), .int .i16 (n 1), .int .i16 (n 2), .int .i16 (n 3), .int .i16 (n 4), .int .i16 (n 5), .int .i16 (n 6), .int .i16 (n 7)] 37)).alloc (.cells #[.string ⟨#[]⟩, .string ⟨#[]⟩, .string ⟨#[]⟩, .string ⟨#[]⟩, .string ⟨#[]⟩, .string ⟨#[]⟩, .string ⟨#[]⟩, .string ⟨#[]⟩] 38)) (w.heap.size + 1) (dC n 8 0) 38) := by
    have := heap_alloc_new (w.alloc (.cells #[.int .i16 (n 0), .int .i16 (n 1), .int .i16 (n 2), .int .i16 (n 3), .int .i16 (n 4), .int .i16 (n 5), .int .i16 (n 6), .int .i16 (n 7)] 37)) (.cells #[.string ⟨#[]⟩, .string ⟨#[]⟩, .string ⟨#[]⟩, .string ⟨#[]⟩, .string ⟨#[]⟩, .string ⟨#[]⟩, .string ⟨#[]⟩, .string ⟨#[]⟩] 38)
    rw [World.size_alloc] at this
    exact this
  clear hd h
  go_enter Tryd.func4, Tryd.ntmps4
  go_wp2
  go_loopw [6] (fun i wr => ∃ k : Nat, k ≤ 8 ∧ i = .int .i64 (k : Int) ∧ CB wr w.heap.size (nC n 8) 37 ∧ CB wr (w.heap.size + 1) (dC n 8 k) 38 ∧ Below w.heap.size w wr) (fun i _ => 8 - (intOf i).toNat)
  case atStart => exact ⟨0, Nat.zero_le _, rfl, HN0.out.below ((Below.refl _ _).alloc (Nat.le_refl _) _) (by simp [World.size_alloc]), HDD0.out, ((Below.refl _ _).alloc (Nat.le_refl _) _).alloc (by simp [World.size_alloc]) _⟩
  case round =>
    obtain ⟨k, hk, rfl, hn, hdd, hb⟩ := hrel
    have HN := Lib.hid hn
    have HDD := Lib.hid hdd
    have HB := Lib.hid hb
    have hzr := hb.size
    have hl1 := hn.lt
    have hl2 := hdd.lt
    clear hn hdd hb
    by_cases hlt : k < 8
    · have hlt' : (k : Int) < 8 := by omega
      have hc := HN.out.cell (nC_at (n := n) hlt)
      have hi := (HI.out k).k
      have HV := Lib.hid (show -4611686018427387904 ≤ n k ∧ n k ≤ 4611686018427387904 by omega)
      have hf : ∀ W, Below wr.heap.size wr W → W.frozen? ⟨w.heap.size + 1, k, none⟩ = false := fun W hW => (HDD.out.below hW hl2).fz k
      have hcc : ∀ W, Below wr.heap.size wr W → W.cell? ⟨w.heap.size + 1, k, none⟩ = some (.string (dT n k k)) := fun W hW => (HDD.out.below hW hl2).cell (dC_at hlt)
      go_wp2_with (go_at_call 11; (with_reducible refine (dec12 HV.out).mono ?_); rintro e w3 ⟨rfl, hb3⟩; have hf3 := hf w3 hb3; have hcc3 := hcc w3 hb3; have hl3 : w.heap.size + 1 < w3.heap.size := Nat.lt_of_lt_of_le hl2 hb3.size; replace hb3 := Lib.hid hb3)
      refine ⟨⟨k + 1, hlt, by go_num, (HN.out.below hb3.out hl1).other (by omega), (HDD.out.below hb3.out hl2).put hlt, (HB.out.trans (hb3.out.mono hzr)).setCell (by simp) _⟩, by simp [intOf]; omega⟩
    · have hlt' : ¬ (k : Int) < 8 := by omega
      obtain rfl : k = 8 := by omega
      obtain ⟨s0, hs0⟩ : ∃ s : ByteArray, s = ⟨(Lib.itoa (n 0)).toArray⟩ := ⟨_, rfl⟩
      have e0 := HDD.out.cell (dC_at (n := n) (m := 8) (k := 8) (i := 0) (by decide))
      rw [dT_all (by decide), ← hs0] at e0
      have z0 : s0.size ≤ 20 := by rw [hs0]; exact i16_len (HI.out 0)
      have HS0 : Hid (s0.data.toList = Lib.itoa (n 0)) := by show _ = _; rw [hs0]
      have b0 := (HI.out 0).k
      clear hs0
      obtain ⟨s1, hs1⟩ : ∃ s : ByteArray, s = ⟨(Lib.itoa (n 1)).toArray⟩ := ⟨_, rfl⟩
      have e1 := HDD.out.cell (dC_at (n := n) (m := 8) (k := 8) (i := 1) (by decide))
      rw [dT_all (by decide), ← hs1] at e1
      have z1 : s1.size ≤ 20 := by rw [hs1]; exact i16_len (HI.out 1)
      have HS1 : Hid (s1.data.toList = Lib.itoa (n 1)) := by show _ = _; rw [hs1]
      have b1 := (HI.out 1).k
      clear hs1
      obtain ⟨s2, hs2⟩ : ∃ s : ByteArray, s = ⟨(Lib.itoa (n 2)).toArray⟩ := ⟨_, rfl⟩
      have e2 := HDD.out.cell (dC_at (n := n) (m := 8) (k := 8) (i := 2) (by decide))
      rw [dT_all (by decide), ← hs2] at e2
      have z2 : s2.size ≤ 20 := by rw [hs2]; exact i16_len (HI.out 2)
      have HS2 : Hid (s2.data.toList = Lib.itoa (n 2)) := by show _ = _; rw [hs2]
      have b2 := (HI.out 2).k
      clear hs2
      obtain ⟨s3, hs3⟩ : ∃ s : ByteArray, s = ⟨(Lib.itoa (n 3)).toArray⟩ := ⟨_, rfl⟩
      have e3 := HDD.out.cell (dC_at (n := n) (m := 8) (k := 8) (i := 3) (by decide))
      rw [dT_all (by decide), ← hs3] at e3
      have z3 : s3.size ≤ 20 := by rw [hs3]; exact i16_len (HI.out 3)
      have HS3 : Hid (s3.data.toList = Lib.itoa (n 3)) := by show _ = _; rw [hs3]
      have b3 := (HI.out 3).k
      clear hs3
      obtain ⟨s4, hs4⟩ : ∃ s : ByteArray, s = ⟨(Lib.itoa (n 4)).toArray⟩ := ⟨_, rfl⟩
      have e4 := HDD.out.cell (dC_at (n := n) (m := 8) (k := 8) (i := 4) (by decide))
      rw [dT_all (by decide), ← hs4] at e4
      have z4 : s4.size ≤ 20 := by rw [hs4]; exact i16_len (HI.out 4)
      have HS4 : Hid (s4.data.toList = Lib.itoa (n 4)) := by show _ = _; rw [hs4]
      have b4 := (HI.out 4).k
      clear hs4
      obtain ⟨s5, hs5⟩ : ∃ s : ByteArray, s = ⟨(Lib.itoa (n 5)).toArray⟩ := ⟨_, rfl⟩
      have e5 := HDD.out.cell (dC_at (n := n) (m := 8) (k := 8) (i := 5) (by decide))
      rw [dT_all (by decide), ← hs5] at e5
      have z5 : s5.size ≤ 20 := by rw [hs5]; exact i16_len (HI.out 5)
      have HS5 : Hid (s5.data.toList = Lib.itoa (n 5)) := by show _ = _; rw [hs5]
      have b5 := (HI.out 5).k
      clear hs5
      obtain ⟨s6, hs6⟩ : ∃ s : ByteArray, s = ⟨(Lib.itoa (n 6)).toArray⟩ := ⟨_, rfl⟩
      have e6 := HDD.out.cell (dC_at (n := n) (m := 8) (k := 8) (i := 6) (by decide))
      rw [dT_all (by decide), ← hs6] at e6
      have z6 : s6.size ≤ 20 := by rw [hs6]; exact i16_len (HI.out 6)
      have HS6 : Hid (s6.data.toList = Lib.itoa (n 6)) := by show _ = _; rw [hs6]
      have b6 := (HI.out 6).k
      clear hs6
      obtain ⟨s7, hs7⟩ : ∃ s : ByteArray, s = ⟨(Lib.itoa (n 7)).toArray⟩ := ⟨_, rfl⟩
      have e7 := HDD.out.cell (dC_at (n := n) (m := 8) (k := 8) (i := 7) (by decide))
      rw [dT_all (by decide), ← hs7] at e7
      have z7 : s7.size ≤ 20 := by rw [hs7]; exact i16_len (HI.out 7)
      have HS7 : Hid (s7.data.toList = Lib.itoa (n 7)) := by show _ = _; rw [hs7]
      have b7 := (HI.out 7).k
      clear hs7
      have HL := Lib.hid (mirT_len (n := n) HI.out 0 true)
      have HO := Lib.hid (show ofP (mirT n 0 true) = .ok [⟨1, 0, 0, 0, 0, 0, 0, 0⟩, msA n 0, ⟨3, n 4, n 5, n 6, n 7, 0, 0, 0⟩] from of_mir (n := n) HI.out (j := 0) (by decide) true)
      go_wp2_with (go_at_call 14; (with_reducible refine (bk_ofs ?hs HL.out (HD0.out.below (HB.out.alloc hzr _)).l HO.out).mono ?_); (case hs => (simp only [ByteArray.data_append, Array.toList_append, HS0.out, HS1.out, HS2.out, HS3.out, HS4.out, HS5.out, HS6.out, HS7.out]; simp [mirT, gnB, qs0, mqA, mcA, mcZ, mqZ, it_0])); rintro e w3 ⟨A3, c3, rfl, hv3, hb3⟩; replace hb3 := ((Below.refl wr.heap.size wr).alloc (Nat.le_refl _) _).trans (hb3.mono (by simp)); obtain ⟨g3, o3, rfl, hg3, q0, q1, q2, -⟩ := hv3.at_ (i := 2) rfl; simp only [Nat.reduceMul] at q0 q1 q2; have f2 := (HN.out.below hb3 hl1).cell (nC_at (n := n) (m := 8) (i := 2) (by decide)); have f3 := (HN.out.below hb3 hl1).cell (nC_at (n := n) (m := 8) (i := 3) (by decide)); have f4 := (HN.out.below hb3 hl1).cell (nC_at (n := n) (m := 8) (i := 4) (by decide)); have f5 := (HN.out.below hb3 hl1).cell (nC_at (n := n) (m := 8) (i := 5) (by decide)); have HB3 := Lib.hid (HB.out.trans (hb3.mono hzr)); clear hv3 hb3)
      go_region
      go_wp2_with (go_at_call 10; (with_reducible refine (wakes11 (HD0.out.below HB3.out.drew)).mono ?_); rintro e w4 ⟨rfl, hb4⟩; have HB4 := Lib.hid (HB3.out.drew.trans (hb4.mono HB3.out.drew.size)); clear hb4)
      go_ret
      exact ⟨rfl, HB4.out⟩
set_option maxRecDepth 100000 in
set_option maxHeartbeats 8000000 in
theorem mir_4 {w : World} {n : Nat → Int} {kd : Nat} (hd : LD w) (h : ∀ i, i16 (n i)) (hk : kd ≤ 255) (h6 : (kd : Int) % 6 = 4) :
    Calls Tryd.prog 4 #[.agg #[.int .i16 (n 0), .int .i16 (n 1), .int .i16 (n 2), .int .i16 (n 3), .int .i16 (n 4), .int .i16 (n 5), .int .i16 (n 6), .int .i16 (n 7)], .int .u8 (kd : Int)] w fun e w' => e = .returned (.bool true) ∧ Below w.heap.size w w' := by
  have HD0 := Lib.hid hd
  have HI := Lib.hid h
  have HN0 : Hid (CB (w.alloc (.cells #[.int .i16 (n 0), .int .i16 (n 1), .int .i16 (n 2), .int .i16 (n 3), .int .i16 (n 4), .int .i16 (n 5), .int .i16 (n 6), .int .i16 (n 7)] 37)) w.heap.size (nC n 8) 37) := heap_alloc_new w _
  have HDD0 : Hid (CB ((w.alloc (.cells #[.int .i16 (n 0), .int .i16 (n 1), .int .i16 (n 2), .int .i16 (n 3), .int .i16 (n 4), .int .i16 (n 5), .int .i16 (n 6), .int .i16 (n 7)] 37)).alloc (.cells #[.string ⟨#[]⟩, .string ⟨#[]⟩, .string ⟨#[]⟩, .string ⟨#[]⟩, .string ⟨#[]⟩, .string ⟨#[]⟩, .string ⟨#[]⟩, .string ⟨#[]⟩] 38)) (w.heap.size + 1) (dC n 8 0) 38) := by
    have := heap_alloc_new (w.alloc (.cells #[.int .i16 (n 0), .int .i16 (n 1), .int .i16 (n 2), .int .i16 (n 3), .int .i16 (n 4), .int .i16 (n 5), .int .i16 (n 6), .int .i16 (n 7)] 37)) (.cells #[.string ⟨#[]⟩, .string ⟨#[]⟩, .string ⟨#[]⟩, .string ⟨#[]⟩, .string ⟨#[]⟩, .string ⟨#[]⟩, .string ⟨#[]⟩, .string ⟨#[]⟩] 38)
    rw [World.size_alloc] at this
    exact this
  clear hd h
  go_enter Tryd.func4, Tryd.ntmps4
  go_wp2
  go_loopw [6] (fun i wr => ∃ k : Nat, k ≤ 8 ∧ i = .int .i64 (k : Int) ∧ CB wr w.heap.size (nC n 8) 37 ∧ CB wr (w.heap.size + 1) (dC n 8 k) 38 ∧ Below w.heap.size w wr) (fun i _ => 8 - (intOf i).toNat)
  case atStart => exact ⟨0, Nat.zero_le _, rfl, HN0.out.below ((Below.refl _ _).alloc (Nat.le_refl _) _) (by simp [World.size_alloc]), HDD0.out, ((Below.refl _ _).alloc (Nat.le_refl _) _).alloc (by simp [World.size_alloc]) _⟩
  case round =>
    obtain ⟨k, hk, rfl, hn, hdd, hb⟩ := hrel
    have HN := Lib.hid hn
    have HDD := Lib.hid hdd
    have HB := Lib.hid hb
    have hzr := hb.size
    have hl1 := hn.lt
    have hl2 := hdd.lt
    clear hn hdd hb
    by_cases hlt : k < 8
    · have hlt' : (k : Int) < 8 := by omega
      have hc := HN.out.cell (nC_at (n := n) hlt)
      have hi := (HI.out k).k
      have HV := Lib.hid (show -4611686018427387904 ≤ n k ∧ n k ≤ 4611686018427387904 by omega)
      have hf : ∀ W, Below wr.heap.size wr W → W.frozen? ⟨w.heap.size + 1, k, none⟩ = false := fun W hW => (HDD.out.below hW hl2).fz k
      have hcc : ∀ W, Below wr.heap.size wr W → W.cell? ⟨w.heap.size + 1, k, none⟩ = some (.string (dT n k k)) := fun W hW => (HDD.out.below hW hl2).cell (dC_at hlt)
      go_wp2_with (go_at_call 11; (with_reducible refine (dec12 HV.out).mono ?_); rintro e w3 ⟨rfl, hb3⟩; have hf3 := hf w3 hb3; have hcc3 := hcc w3 hb3; have hl3 : w.heap.size + 1 < w3.heap.size := Nat.lt_of_lt_of_le hl2 hb3.size; replace hb3 := Lib.hid hb3)
      refine ⟨⟨k + 1, hlt, by go_num, (HN.out.below hb3.out hl1).other (by omega), (HDD.out.below hb3.out hl2).put hlt, (HB.out.trans (hb3.out.mono hzr)).setCell (by simp) _⟩, by simp [intOf]; omega⟩
    · have hlt' : ¬ (k : Int) < 8 := by omega
      obtain rfl : k = 8 := by omega
      obtain ⟨s0, hs0⟩ : ∃ s : ByteArray, s = ⟨(Lib.itoa (n 0)).toArray⟩ := ⟨_, rfl⟩
      have e0 := HDD.out.cell (dC_at (n := n) (m := 8) (k := 8) (i := 0) (by decide))
      rw [dT_all (by decide), ← hs0] at e0
      have z0 : s0.size ≤ 20 := by rw [hs0]; exact i16_len (HI.out 0)
      have HS0 : Hid (s0.data.toList = Lib.itoa (n 0)) := by show _ = _; rw [hs0]
      have b0 := (HI.out 0).k
      clear hs0
      obtain ⟨s1, hs1⟩ : ∃ s : ByteArray, s = ⟨(Lib.itoa (n 1)).toArray⟩ := ⟨_, rfl⟩
      have e1 := HDD.out.cell (dC_at (n := n) (m := 8) (k := 8) (i := 1) (by decide))
      rw [dT_all (by decide), ← hs1] at e1
      have z1 : s1.size ≤ 20 := by rw [hs1]; exact i16_len (HI.out 1)
      have HS1 : Hid (s1.data.toList = Lib.itoa (n 1)) := by show _ = _; rw [hs1]
      have b1 := (HI.out 1).k
      clear hs1
      obtain ⟨s2, hs2⟩ : ∃ s : ByteArray, s = ⟨(Lib.itoa (n 2)).toArray⟩ := ⟨_, rfl⟩
      have e2 := HDD.out.cell (dC_at (n := n) (m := 8) (k := 8) (i := 2) (by decide))
      rw [dT_all (by decide), ← hs2] at e2
      have z2 : s2.size ≤ 20 := by rw [hs2]; exact i16_len (HI.out 2)
      have HS2 : Hid (s2.data.toList = Lib.itoa (n 2)) := by show _ = _; rw [hs2]
      have b2 := (HI.out 2).k
      clear hs2
      obtain ⟨s3, hs3⟩ : ∃ s : ByteArray, s = ⟨(Lib.itoa (n 3)).toArray⟩ := ⟨_, rfl⟩
      have e3 := HDD.out.cell (dC_at (n := n) (m := 8) (k := 8) (i := 3) (by decide))
      rw [dT_all (by decide), ← hs3] at e3
      have z3 : s3.size ≤ 20 := by rw [hs3]; exact i16_len (HI.out 3)
      have HS3 : Hid (s3.data.toList = Lib.itoa (n 3)) := by show _ = _; rw [hs3]
      have b3 := (HI.out 3).k
      clear hs3
      obtain ⟨s4, hs4⟩ : ∃ s : ByteArray, s = ⟨(Lib.itoa (n 4)).toArray⟩ := ⟨_, rfl⟩
      have e4 := HDD.out.cell (dC_at (n := n) (m := 8) (k := 8) (i := 4) (by decide))
      rw [dT_all (by decide), ← hs4] at e4
      have z4 : s4.size ≤ 20 := by rw [hs4]; exact i16_len (HI.out 4)
      have HS4 : Hid (s4.data.toList = Lib.itoa (n 4)) := by show _ = _; rw [hs4]
      have b4 := (HI.out 4).k
      clear hs4
      obtain ⟨s5, hs5⟩ : ∃ s : ByteArray, s = ⟨(Lib.itoa (n 5)).toArray⟩ := ⟨_, rfl⟩
      have e5 := HDD.out.cell (dC_at (n := n) (m := 8) (k := 8) (i := 5) (by decide))
      rw [dT_all (by decide), ← hs5] at e5
      have z5 : s5.size ≤ 20 := by rw [hs5]; exact i16_len (HI.out 5)
      have HS5 : Hid (s5.data.toList = Lib.itoa (n 5)) := by show _ = _; rw [hs5]
      have b5 := (HI.out 5).k
      clear hs5
      obtain ⟨s6, hs6⟩ : ∃ s : ByteArray, s = ⟨(Lib.itoa (n 6)).toArray⟩ := ⟨_, rfl⟩
      have e6 := HDD.out.cell (dC_at (n := n) (m := 8) (k := 8) (i := 6) (by decide))
      rw [dT_all (by decide), ← hs6] at e6
      have z6 : s6.size ≤ 20 := by rw [hs6]; exact i16_len (HI.out 6)
      have HS6 : Hid (s6.data.toList = Lib.itoa (n 6)) := by show _ = _; rw [hs6]
      have b6 := (HI.out 6).k
      clear hs6
      obtain ⟨s7, hs7⟩ : ∃ s : ByteArray, s = ⟨(Lib.itoa (n 7)).toArray⟩ := ⟨_, rfl⟩
      have e7 := HDD.out.cell (dC_at (n := n) (m := 8) (k := 8) (i := 7) (by decide))
      rw [dT_all (by decide), ← hs7] at e7
      have z7 : s7.size ≤ 20 := by rw [hs7]; exact i16_len (HI.out 7)
      have HS7 : Hid (s7.data.toList = Lib.itoa (n 7)) := by show _ = _; rw [hs7]
      have b7 := (HI.out 7).k
      clear hs7
      have HL := Lib.hid (mirT_len (n := n) HI.out 1 true)
      have HO := Lib.hid (show ofP (mirT n 1 true) = .ok [⟨1, 0, 0, 0, 0, 0, 0, 0⟩, msA n 1, ⟨3, 2 * n 4 - n 2, 2 * n 5 - n 3, n 6, n 7, 0, 0, 0⟩] from of_mir (n := n) HI.out (j := 1) (by decide) true)
      go_wp2_with (go_at_call 14; (with_reducible refine (bk_ofs ?hs HL.out (HD0.out.below (HB.out.alloc hzr _)).l HO.out).mono ?_); (case hs => (simp only [ByteArray.data_append, Array.toList_append, HS2.out, HS3.out, HS4.out, HS5.out, HS6.out, HS7.out]; simp [mirT, gnB, qs0, mqA, mcA, mcZ, mqZ, it_0])); rintro e w3 ⟨A3, c3, rfl, hv3, hb3⟩; replace hb3 := ((Below.refl wr.heap.size wr).alloc (Nat.le_refl _) _).trans (hb3.mono (by simp)); obtain ⟨g3, o3, rfl, hg3, q0, q1, q2, -⟩ := hv3.at_ (i := 2) rfl; simp only [Nat.reduceMul] at q0 q1 q2; have f2 := (HN.out.below hb3 hl1).cell (nC_at (n := n) (m := 8) (i := 2) (by decide)); have f3 := (HN.out.below hb3 hl1).cell (nC_at (n := n) (m := 8) (i := 3) (by decide)); have f4 := (HN.out.below hb3 hl1).cell (nC_at (n := n) (m := 8) (i := 4) (by decide)); have f5 := (HN.out.below hb3 hl1).cell (nC_at (n := n) (m := 8) (i := 5) (by decide)); have HB3 := Lib.hid (HB.out.trans (hb3.mono hzr)); clear hv3 hb3)
      go_region
      go_wp2
      go_region
      go_wp2_with (go_at_call 10; (with_reducible refine (wakes11 (HD0.out.below HB3.out.drew.drew)).mono ?_); rintro e w4 ⟨rfl, hb4⟩; have HB4 := Lib.hid (HB3.out.drew.drew.trans (hb4.mono HB3.out.drew.drew.size)); clear hb4)
      go_ret
      exact ⟨rfl, HB4.out⟩
set_option maxRecDepth 100000 in
set_option maxHeartbeats 8000000 in
theorem mir_5 {w : World} {n : Nat → Int} {kd : Nat} (hd : LD w) (h : ∀ i, i16 (n i)) (hk : kd ≤ 255) (h6 : (kd : Int) % 6 = 5) :
    Calls Tryd.prog 4 #[.agg #[.int .i16 (n 0), .int .i16 (n 1), .int .i16 (n 2), .int .i16 (n 3), .int .i16 (n 4), .int .i16 (n 5), .int .i16 (n 6), .int .i16 (n 7)], .int .u8 (kd : Int)] w fun e w' => e = .returned (.bool true) ∧ Below w.heap.size w w' := by
  have HD0 := Lib.hid hd
  have HI := Lib.hid h
  have HN0 : Hid (CB (w.alloc (.cells #[.int .i16 (n 0), .int .i16 (n 1), .int .i16 (n 2), .int .i16 (n 3), .int .i16 (n 4), .int .i16 (n 5), .int .i16 (n 6), .int .i16 (n 7)] 37)) w.heap.size (nC n 8) 37) := heap_alloc_new w _
  have HDD0 : Hid (CB ((w.alloc (.cells #[.int .i16 (n 0), .int .i16 (n 1), .int .i16 (n 2), .int .i16 (n 3), .int .i16 (n 4), .int .i16 (n 5), .int .i16 (n 6), .int .i16 (n 7)] 37)).alloc (.cells #[.string ⟨#[]⟩, .string ⟨#[]⟩, .string ⟨#[]⟩, .string ⟨#[]⟩, .string ⟨#[]⟩, .string ⟨#[]⟩, .string ⟨#[]⟩, .string ⟨#[]⟩] 38)) (w.heap.size + 1) (dC n 8 0) 38) := by
    have := heap_alloc_new (w.alloc (.cells #[.int .i16 (n 0), .int .i16 (n 1), .int .i16 (n 2), .int .i16 (n 3), .int .i16 (n 4), .int .i16 (n 5), .int .i16 (n 6), .int .i16 (n 7)] 37)) (.cells #[.string ⟨#[]⟩, .string ⟨#[]⟩, .string ⟨#[]⟩, .string ⟨#[]⟩, .string ⟨#[]⟩, .string ⟨#[]⟩, .string ⟨#[]⟩, .string ⟨#[]⟩] 38)
    rw [World.size_alloc] at this
    exact this
  clear hd h
  go_enter Tryd.func4, Tryd.ntmps4
  go_wp2
  go_loopw [6] (fun i wr => ∃ k : Nat, k ≤ 8 ∧ i = .int .i64 (k : Int) ∧ CB wr w.heap.size (nC n 8) 37 ∧ CB wr (w.heap.size + 1) (dC n 8 k) 38 ∧ Below w.heap.size w wr) (fun i _ => 8 - (intOf i).toNat)
  case atStart => exact ⟨0, Nat.zero_le _, rfl, HN0.out.below ((Below.refl _ _).alloc (Nat.le_refl _) _) (by simp [World.size_alloc]), HDD0.out, ((Below.refl _ _).alloc (Nat.le_refl _) _).alloc (by simp [World.size_alloc]) _⟩
  case round =>
    obtain ⟨k, hk, rfl, hn, hdd, hb⟩ := hrel
    have HN := Lib.hid hn
    have HDD := Lib.hid hdd
    have HB := Lib.hid hb
    have hzr := hb.size
    have hl1 := hn.lt
    have hl2 := hdd.lt
    clear hn hdd hb
    by_cases hlt : k < 8
    · have hlt' : (k : Int) < 8 := by omega
      have hc := HN.out.cell (nC_at (n := n) hlt)
      have hi := (HI.out k).k
      have HV := Lib.hid (show -4611686018427387904 ≤ n k ∧ n k ≤ 4611686018427387904 by omega)
      have hf : ∀ W, Below wr.heap.size wr W → W.frozen? ⟨w.heap.size + 1, k, none⟩ = false := fun W hW => (HDD.out.below hW hl2).fz k
      have hcc : ∀ W, Below wr.heap.size wr W → W.cell? ⟨w.heap.size + 1, k, none⟩ = some (.string (dT n k k)) := fun W hW => (HDD.out.below hW hl2).cell (dC_at hlt)
      go_wp2_with (go_at_call 11; (with_reducible refine (dec12 HV.out).mono ?_); rintro e w3 ⟨rfl, hb3⟩; have hf3 := hf w3 hb3; have hcc3 := hcc w3 hb3; have hl3 : w.heap.size + 1 < w3.heap.size := Nat.lt_of_lt_of_le hl2 hb3.size; replace hb3 := Lib.hid hb3)
      refine ⟨⟨k + 1, hlt, by go_num, (HN.out.below hb3.out hl1).other (by omega), (HDD.out.below hb3.out hl2).put hlt, (HB.out.trans (hb3.out.mono hzr)).setCell (by simp) _⟩, by simp [intOf]; omega⟩
    · have hlt' : ¬ (k : Int) < 8 := by omega
      obtain rfl : k = 8 := by omega
      obtain ⟨s0, hs0⟩ : ∃ s : ByteArray, s = ⟨(Lib.itoa (n 0)).toArray⟩ := ⟨_, rfl⟩
      have e0 := HDD.out.cell (dC_at (n := n) (m := 8) (k := 8) (i := 0) (by decide))
      rw [dT_all (by decide), ← hs0] at e0
      have z0 : s0.size ≤ 20 := by rw [hs0]; exact i16_len (HI.out 0)
      have HS0 : Hid (s0.data.toList = Lib.itoa (n 0)) := by show _ = _; rw [hs0]
      have b0 := (HI.out 0).k
      clear hs0
      obtain ⟨s1, hs1⟩ : ∃ s : ByteArray, s = ⟨(Lib.itoa (n 1)).toArray⟩ := ⟨_, rfl⟩
      have e1 := HDD.out.cell (dC_at (n := n) (m := 8) (k := 8) (i := 1) (by decide))
      rw [dT_all (by decide), ← hs1] at e1
      have z1 : s1.size ≤ 20 := by rw [hs1]; exact i16_len (HI.out 1)
      have HS1 : Hid (s1.data.toList = Lib.itoa (n 1)) := by show _ = _; rw [hs1]
      have b1 := (HI.out 1).k
      clear hs1
      obtain ⟨s2, hs2⟩ : ∃ s : ByteArray, s = ⟨(Lib.itoa (n 2)).toArray⟩ := ⟨_, rfl⟩
      have e2 := HDD.out.cell (dC_at (n := n) (m := 8) (k := 8) (i := 2) (by decide))
      rw [dT_all (by decide), ← hs2] at e2
      have z2 : s2.size ≤ 20 := by rw [hs2]; exact i16_len (HI.out 2)
      have HS2 : Hid (s2.data.toList = Lib.itoa (n 2)) := by show _ = _; rw [hs2]
      have b2 := (HI.out 2).k
      clear hs2
      obtain ⟨s3, hs3⟩ : ∃ s : ByteArray, s = ⟨(Lib.itoa (n 3)).toArray⟩ := ⟨_, rfl⟩
      have e3 := HDD.out.cell (dC_at (n := n) (m := 8) (k := 8) (i := 3) (by decide))
      rw [dT_all (by decide), ← hs3] at e3
      have z3 : s3.size ≤ 20 := by rw [hs3]; exact i16_len (HI.out 3)
      have HS3 : Hid (s3.data.toList = Lib.itoa (n 3)) := by show _ = _; rw [hs3]
      have b3 := (HI.out 3).k
      clear hs3
      obtain ⟨s4, hs4⟩ : ∃ s : ByteArray, s = ⟨(Lib.itoa (n 4)).toArray⟩ := ⟨_, rfl⟩
      have e4 := HDD.out.cell (dC_at (n := n) (m := 8) (k := 8) (i := 4) (by decide))
      rw [dT_all (by decide), ← hs4] at e4
      have z4 : s4.size ≤ 20 := by rw [hs4]; exact i16_len (HI.out 4)
      have HS4 : Hid (s4.data.toList = Lib.itoa (n 4)) := by show _ = _; rw [hs4]
      have b4 := (HI.out 4).k
      clear hs4
      obtain ⟨s5, hs5⟩ : ∃ s : ByteArray, s = ⟨(Lib.itoa (n 5)).toArray⟩ := ⟨_, rfl⟩
      have e5 := HDD.out.cell (dC_at (n := n) (m := 8) (k := 8) (i := 5) (by decide))
      rw [dT_all (by decide), ← hs5] at e5
      have z5 : s5.size ≤ 20 := by rw [hs5]; exact i16_len (HI.out 5)
      have HS5 : Hid (s5.data.toList = Lib.itoa (n 5)) := by show _ = _; rw [hs5]
      have b5 := (HI.out 5).k
      clear hs5
      obtain ⟨s6, hs6⟩ : ∃ s : ByteArray, s = ⟨(Lib.itoa (n 6)).toArray⟩ := ⟨_, rfl⟩
      have e6 := HDD.out.cell (dC_at (n := n) (m := 8) (k := 8) (i := 6) (by decide))
      rw [dT_all (by decide), ← hs6] at e6
      have z6 : s6.size ≤ 20 := by rw [hs6]; exact i16_len (HI.out 6)
      have HS6 : Hid (s6.data.toList = Lib.itoa (n 6)) := by show _ = _; rw [hs6]
      have b6 := (HI.out 6).k
      clear hs6
      obtain ⟨s7, hs7⟩ : ∃ s : ByteArray, s = ⟨(Lib.itoa (n 7)).toArray⟩ := ⟨_, rfl⟩
      have e7 := HDD.out.cell (dC_at (n := n) (m := 8) (k := 8) (i := 7) (by decide))
      rw [dT_all (by decide), ← hs7] at e7
      have z7 : s7.size ≤ 20 := by rw [hs7]; exact i16_len (HI.out 7)
      have HS7 : Hid (s7.data.toList = Lib.itoa (n 7)) := by show _ = _; rw [hs7]
      have b7 := (HI.out 7).k
      clear hs7
      have HL := Lib.hid (mirT_len (n := n) HI.out 2 true)
      have HO := Lib.hid (show ofP (mirT n 2 true) = .ok [⟨1, 0, 0, 0, 0, 0, 0, 0⟩, msA n 2, ⟨3, n 4, n 5, n 6, n 7, 0, 0, 0⟩] from of_mir (n := n) HI.out (j := 2) (by decide) true)
      go_wp2_with (go_at_call 14; (with_reducible refine (bk_ofs ?hs HL.out (HD0.out.below (HB.out.alloc hzr _)).l HO.out).mono ?_); (case hs => (simp only [ByteArray.data_append, Array.toList_append, HS4.out, HS5.out, HS6.out, HS7.out]; simp [mirT, gnB, qs0, mqA, mcA, mcZ, mqZ, it_0])); rintro e w3 ⟨A3, c3, rfl, hv3, hb3⟩; replace hb3 := ((Below.refl wr.heap.size wr).alloc (Nat.le_refl _) _).trans (hb3.mono (by simp)); obtain ⟨g3, o3, rfl, hg3, q0, q1, q2, -⟩ := hv3.at_ (i := 2) rfl; simp only [Nat.reduceMul] at q0 q1 q2; have f2 := (HN.out.below hb3 hl1).cell (nC_at (n := n) (m := 8) (i := 2) (by decide)); have f3 := (HN.out.below hb3 hl1).cell (nC_at (n := n) (m := 8) (i := 3) (by decide)); have f4 := (HN.out.below hb3 hl1).cell (nC_at (n := n) (m := 8) (i := 4) (by decide)); have f5 := (HN.out.below hb3 hl1).cell (nC_at (n := n) (m := 8) (i := 5) (by decide)); have HB3 := Lib.hid (HB.out.trans (hb3.mono hzr)); clear hv3 hb3)
      go_region
      go_wp2_with (go_at_call 10; (with_reducible refine (wakes11 (HD0.out.below HB3.out.drew)).mono ?_); rintro e w4 ⟨rfl, hb4⟩; have HB4 := Lib.hid (HB3.out.drew.trans (hb4.mono HB3.out.drew.size)); clear hb4)
      go_ret
      exact ⟨rfl, HB4.out⟩
theorem mir_all {w : World} {n : Nat → Int} {kd : Nat} (hd : LD w) (h : ∀ i, i16 (n i)) (hk : kd ≤ 255) :
    Calls Tryd.prog 4 #[.agg #[.int .i16 (n 0), .int .i16 (n 1), .int .i16 (n 2), .int .i16 (n 3), .int .i16 (n 4), .int .i16 (n 5), .int .i16 (n 6), .int .i16 (n 7)], .int .u8 (kd : Int)] w fun e w' => e = .returned (.bool true) ∧ Below w.heap.size w w' := by
  rcases (by omega : (kd : Int) % 6 = 0 ∨ (kd : Int) % 6 = 1 ∨ (kd : Int) % 6 = 2 ∨ (kd : Int) % 6 = 3 ∨ (kd : Int) % 6 = 4 ∨ (kd : Int) % 6 = 5) with q | q | q | q | q | q
  · exact mir_0 hd h hk q
  · exact mir_1 hd h hk q
  · exact mir_2 hd h hk q
  · exact mir_3 hd h hk q
  · exact mir_4 hd h hk q
  · exact mir_5 hd h hk q
end Go.Proofs.YtnapannphldglaaDoor
