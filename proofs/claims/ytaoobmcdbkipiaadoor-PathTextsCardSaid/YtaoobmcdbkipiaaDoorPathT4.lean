/- gessoref11.Text by value. -/
import Derived.Test.YtaoobmcdbkipiaaDoorPathT2
import Derived.Test.YtaoobmcdbkipiaaDoorPathT3
import Derived.Test.YtaoobmcdbkipiaaDoorPathY
import Derived.Test.YtaoobmcdbkipiaaDoorPathR2
namespace Go.Proofs.YtaoobmcdbkipiaaDoor
open Go Go.RowKit

theorem rgood_any {w : World} {A : Option Addr} {n c : Nat} {l : List Sg} (hv : SGV w A l) (hn : l.length = n) : Calls Tryd.prog 12 #[.slice A n c] w fun e w' => e = .returned (.bool (goodL l)) ∧ w = w' := by
  cases l with
  | nil => cases hn; exact rgood_0
  | cons s r =>
    have eg : goodL (s :: r) = (decide ((s :: r).length ≤ 4096) && decide (s.k = 1) && goodF 0 (s :: r)) := rfl
    rw [eg]
    by_cases hm : (s :: r).length ≤ 4096
    · by_cases hk : s.k = 1
      · rw [decide_eq_true hm, decide_eq_true hk]
        exact rgood_go hv hn (by rw [← hn]; exact hm) rfl hk
      · rw [decide_eq_true hm, decide_eq_false hk]
        exact rgood_kind hv hn (by rw [← hn]; exact hm) rfl hk
    · rw [decide_eq_false hm]
      exact rgood_far (by rw [← hn]; omega)
/-- A part's text, as the reference writes it. -/
def numsR (s : Sg) (m : Nat) : List UInt8 := (List.range m).flatMap fun j => 32 :: Lib.itoa (s.get j)
def headR (s : Sg) : List UInt8 := UInt8.ofNat ((⟨#[63, 77, 76, 81, 67, 75, 90]⟩ : ByteArray).data.toList.getD s.k.toNat 0).toNat :: (if s.k = 5 then 32 :: Lib.itoa s.w else [])
theorem part_ref {s : Sg} {x : Lt} (hx : letterK s.k = some x) : partX x s = headR s ++ numsR s (used s.k).toNat := by
  have hu := used_letter hx
  obtain ⟨hk, hf⟩ := k_kind hx
  have hm := letterK_mem hx
  have ht : ∀ y ∈ ltT, y.f = 0 → y.nb = UInt8.ofNat ((⟨#[63, 77, 76, 81, 67, 75, 90]⟩ : ByteArray).data.toList.getD y.k.toNat 0).toNat := by decide
  unfold partX headR numsR
  rw [ht x hm hf, hk, hu]
  rcases f0_letters x hm hf with ⟨hp, hh, h5⟩ | ⟨hp, hh, h5⟩ | ⟨hp, hh, h5⟩ | ⟨hp, hh, h5⟩ | ⟨hp, hh, h5⟩ <;> rw [hk] at h5 <;> rw [hp, hh] <;> simp [numX, numT, h5, List.range, List.range.loop]
theorem numsR_s (s : Sg) (m : Nat) : numsR s (m + 1) = numsR s m ++ 32 :: Lib.itoa (s.get m) := by
  simp [numsR, List.range_succ]
set_option maxRecDepth 100000 in
set_option maxHeartbeats 4000000 in
theorem rtext_bad {w : World} {A : Option Addr} {n c : Nat} {l : List Sg} (hv : SGV w A l) (hn : l.length = n) (hg : goodL l = false) :
    Calls Tryd.prog 10 #[.slice A n c] w fun e w' => e = .returned (.tuple #[.string ⟨#[]⟩, .int .i64 11]) ∧ Below w.heap.size w w' := by
  have C := Lib.hid (rgood_any (c := c) hv hn)
  rw [hg] at C
  clear hv hn hg
  go_enter Tryd.func10, Tryd.ntmps10
  go_wp2_with (go_at_call 12; refine C.out.mono ?_; rintro e w1 ⟨rfl, rfl⟩)
  go_ret2
  exact ⟨rfl, Below.refl _ _⟩
theorem part_kind {k : Int} {x : Lt} (h : letterK k = some x) : 1 ≤ k ∧ k ≤ 6 := by
  have hk := (k_kind h).1
  have : ∀ y ∈ ltT, 1 ≤ y.k ∧ y.k ≤ 6 := by decide
  rw [← hk]
  exact this x (letterK_mem h)
theorem used_nat {k : Int} {x : Lt} (h : letterK k = some x) : ∃ U : Nat, used k = (U : Int) ∧ U ≤ 6 := by
  have h1 := used_letter h
  have h2 := lt_pts x (letterK_mem h)
  exact ⟨(used k).toNat, by omega, by omega⟩
theorem good_get {s : Sg} (h : goodS s = true) {j : Nat} (hj : j < 6) : -4611686018427387904 ≤ s.get j ∧ s.get j ≤ 4611686018427387904 := by
  obtain ⟨x, hx⟩ := goodS_letter h
  have := isC_iff.1 ((goodS_v hx h).1 j hj).1
  omega
theorem good_w5 {s : Sg} (h : goodS s = true) (h5 : s.k = 5) : -4611686018427387904 ≤ s.w ∧ s.w ≤ 4611686018427387904 := by
  obtain ⟨x, hx⟩ := goodS_letter h
  have h1 := (goodS_v hx h).2
  rw [if_pos h5] at h1
  have := isW_iff.1 h1
  omega
theorem numsR_len (s : Sg) (m : Nat) (h : goodS s = true) (hm : m ≤ 6) : (numsR s m).length ≤ 21 * m := by
  induction m with
  | zero => simp [numsR]
  | succ m ih =>
    have h1 := ih (by omega)
    have h2 := good_get h (show m < 6 by omega)
    have h3 := itoa_len (s.get m) (by omega)
    rw [numsR_s, List.length_append, List.length_cons]
    omega
theorem headR_len (s : Sg) (h : goodS s = true) : (headR s).length ≤ 22 := by
  unfold headR
  by_cases h5 : s.k = 5
  · have h2 := good_w5 h h5
    have h3 := itoa_len s.w (by omega)
    rw [if_pos h5]
    simp only [List.length_cons]
    omega
  · rw [if_neg h5]; simp
theorem letter_cut {k : Int} (h1 : 1 ≤ k) (h6 : k ≤ 6) (W : World) : (Instr.slice 9 (.string ⟨#[63, 77, 76, 81, 67, 75, 90]⟩) (some (.int .i64 k)) (some (.int .i64 (k + 1))) none).run Tryd.prog W = .ok (.string ⟨#[UInt8.ofNat ((⟨#[63, 77, 76, 81, 67, 75, 90]⟩ : ByteArray).data.toList.getD k.toNat 0).toNat]⟩) W := by
  have h : k = 1 ∨ k = 2 ∨ k = 3 ∨ k = 4 ∨ k = 5 ∨ k = 6 := by omega
  rcases h with rfl | rfl | rfl | rfl | rfl | rfl <;> rw [run_slice_string (P := Tryd.prog) W 9 _ .i64 .i64 _ _ Tryd.underlying9 (by decide) (by decide) (by decide)] <;> rfl
set_option maxRecDepth 100000 in
set_option maxHeartbeats 8000000 in
theorem rtext_go {w : World} {A : Option Addr} {n c : Nat} {l : List Sg} (hv : SGV w A l) (hn : l.length = n) (hg : goodL l = true) :
    Calls Tryd.prog 10 #[.slice A n c] w fun e w' => e = .returned (.tuple #[.string ⟨(textP l).toArray⟩, .int .i64 0]) ∧ Below w.heap.size w w' := by
  have C := Lib.hid (rgood_any (c := c) hv hn)
  rw [hg] at C
  have HN := Lib.hid hn
  have HV := Lib.hid hv
  obtain ⟨hgm, hln⟩ := goodL_mem hg
  have HGM := Lib.hid hgm
  rw [hn] at hln
  clear hv hn hg hgm
  go_enter Tryd.func10, Tryd.ntmps10
  go_wp2_with (go_at_call 12; refine C.out.mono ?_; rintro e w1 ⟨rfl, rfl⟩)
  go_loopw [4, 5] (fun ss i wr => ∃ (k : Nat) (S : ByteArray), k ≤ n ∧ ss = .string S ∧ i = .int .i64 (k : Int) ∧ Hid (S.data.toList = textP (l.take k)) ∧ Below w.heap.size w wr) (fun _ i _ => n - (intOf i).toNat)
  case atStart => exact ⟨0, ⟨#[]⟩, Nat.zero_le _, rfl, rfl, rfl, Below.refl _ _⟩
  case round =>
    obtain ⟨k, S, hk, rfl, rfl, HS, hb⟩ := hrel
    have HB := Lib.hid hb
    have hzr := hb.size
    clear hb
    by_cases hlt : k < n
    · obtain ⟨s, hs⟩ : ∃ s, l[k]? = some s := ⟨_, List.getElem?_eq_getElem (by rw [HN.out]; exact hlt)⟩
      obtain ⟨g, o, rfl, hg, d0, d1, d2, d3, d4, d5, d6, d7⟩ := (HV.out.below HB.out).at_ hs
      have hgs := HGM.out s (List.mem_of_getElem? hs)
      obtain ⟨x, hx⟩ := goodS_letter hgs
      have HSS := Lib.hid hs
      clear hs
      have hkk := part_kind hx
      have hk1 : 1 ≤ s.k := hkk.1
      have hk6 : s.k ≤ 6 := hkk.2
      obtain ⟨U, hU, hU6⟩ := used_nat hx
      have HU := Lib.hid hU
      have HGS := Lib.hid hgs
      have HX := Lib.hid hx
      have HCL : Hid (∀ W : World, Below w.heap.size w W → ∀ f u, s.v[f]? = some u → W.cell? ⟨g, o + k * 8 + f, none⟩ = some u) := fun W hW f u hu => by
        rcases HV.out.below hW with q | ⟨g', o', e, _, h⟩
        · have := HSS.out; rw [q] at this; cases this
        · cases e; exact h k s f u HSS.out hu
      have hsz : S.size ≤ 600000 := by
        have h1 : S.data.toList.length = S.size := by simp
        have h2 := textP_len (l := l.take k) fun s hs => HGM.out s (List.mem_of_mem_take hs)
        have h3 : (l.take k).length ≤ 4096 := by simp only [List.length_take]; omega
        rw [HS.out] at h1
        omega
      clear hU hgs hx hkk
      by_cases hk0 : 0 < k
      · have hk0' : (0 : Int) < (k : Int) := by omega
        by_cases h5 : s.k = 5
        · rw [h5] at d0
          have HH : Hid (headR s = 75 :: 32 :: Lib.itoa s.w) := by show _ = _; unfold headR; rw [h5, if_pos rfl]; rfl
          have hcut := fun W => letter_cut (k := 5) (by decide) (by decide) W
          have hwb := good_w5 HGS.out h5
          have hil := itoa_len s.w (by omega)
          have hisz : (⟨(Lib.itoa s.w).toArray⟩ : ByteArray).size ≤ 20 := by simpa [ByteArray.size] using hil
          have HIB := Lib.hid hwb
          have HU5 := HU
          rw [h5] at HU5
          have h5' := h5
          replace h5' := Lib.hid h5'
          clear hwb h5
          go_wp2
          go_region
          go_wp2_with (go_at_call 19; (with_reducible refine (dec11 HIB.out).mono ?_); rintro e w3 ⟨rfl, hb3⟩; replace hb3 := Lib.hid hb3)
          obtain ⟨pre, hpre⟩ : ∃ pre, pre = textP (l.take k) ++ [32] := ⟨_, rfl⟩
          have HP : Hid (textP (l.take (k + 1)) = pre ++ partT s) := by show _ = _; rw [hpre]; rw [textP_s HSS.out hk0]; simp
          have hpl : pre.length ≤ 600001 := by rw [hpre]; rw [← HS.out]; simp; omega
          have HB0 : Hid (Below w.heap.size w w3) := HB.out.drew.trans (hb3.out.mono hzr)
          go_loopw [4, 6] (fun ss j wr2 => ∃ (m : Nat) (Z : ByteArray), m ≤ U ∧ ss = .string Z ∧ j = .int .i64 (m : Int) ∧ Hid (Z.data.toList = pre ++ headR s ++ numsR s m) ∧ Below w.heap.size w wr2) (fun _ j _ => U - (intOf j).toNat)
          case atStart => exact ⟨0, _, Nat.zero_le _, rfl, rfl, by show _ = _; rw [hpre, HH.out]; have hS0 : S.data.toList = textP (l.take k) := HS.out; simp only [ByteArray.data_append, Array.toList_append, hS0]; simp [numsR], HB0.out⟩
          case round =>
            obtain ⟨m, Z, hm, rfl, rfl, HZ, hb2⟩ := hrel
            have HB2 := Lib.hid hb2
            have hzr2 := hb2.size
            clear hb2
            have e0 := HCL.out wr HB2.out 0 _ rfl
            rw [Nat.add_zero] at e0
            by_cases hlm : m < U
            · have hlm' : (m : Int) < (U : Int) := by omega
              have hcm : wr.cell? ⟨g, o + k * 8 + 1 + m, none⟩ = some (.int .i64 (s.get m)) := by
                rw [Nat.add_assoc _ 1 m]; exact HCL.out wr HB2.out (1 + m) _ (sg_cell s (by omega))
              have hzz : Z.size ≤ 1000000 := by
                have h1 : Z.data.toList.length = Z.size := by simp
                have h2 := numsR_len s m HGS.out (by omega)
                have h3 := headR_len s HGS.out
                rw [HZ.out] at h1
                simp only [List.length_append] at h1
                omega
              have hib := good_get HGS.out (show m < 6 by omega)
              have hil := itoa_len (s.get m) (by omega)
              have hisz : (⟨(Lib.itoa (s.get m)).toArray⟩ : ByteArray).size ≤ 20 := by simpa [ByteArray.size] using hil
              have HIB := Lib.hid hib
              clear hib
              rw [h5'.out] at e0
              go_wp2_with (first
                | (go_at_call 16; (with_reducible refine (used11 _).mono ?_); rintro e w1 ⟨rfl, rfl⟩; rw [HU5.out])
                | (go_at_call 19; (with_reducible refine (dec11 HIB.out).mono ?_); rintro e w3 ⟨rfl, hb3⟩; replace hb3 := Lib.hid hb3))
              refine ⟨⟨m + 1, _, hlm, rfl, by go_num, ?_, HB2.out.trans (hb3.out.mono hzr2)⟩, by simp [intOf]; omega⟩
              show _ = _
              rw [numsR_s]
              simp only [ByteArray.data_append, Array.toList_append, HZ.out]
              simp
            · have hlm' : ¬ (m : Int) < (U : Int) := by omega
              have hmU : m = U := by omega
              subst hmU
              rw [h5'.out] at e0
              go_wp2_with (go_at_call 16; (with_reducible refine (used11 _).mono ?_); rintro e w1 ⟨rfl, rfl⟩; rw [HU5.out])
              refine ⟨⟨k + 1, _, hlt, rfl, by go_num, ?_, HB2.out⟩, by simp [intOf]; omega⟩
              show _ = _
              rw [HZ.out, HP.out]
              have := part_ref HX.out
              rw [HU.out, Int.toNat_natCast] at this
              unfold partT
              rw [HX.out]
              simp only [this, List.append_assoc]
        · have h5b : (s.k == 5) = false := by simpa using h5
          have HH : Hid (headR s = [UInt8.ofNat ((⟨#[63, 77, 76, 81, 67, 75, 90]⟩ : ByteArray).data.toList.getD s.k.toNat 0).toNat]) := by show _ = _; unfold headR; rw [if_neg h5]
          have hcut := fun W => letter_cut (k := s.k) hk1 hk6 W
          go_wp2
          go_region
          go_wp2
          obtain ⟨pre, hpre⟩ : ∃ pre, pre = textP (l.take k) ++ [32] := ⟨_, rfl⟩
          have HP : Hid (textP (l.take (k + 1)) = pre ++ partT s) := by show _ = _; rw [hpre]; rw [textP_s HSS.out hk0]; simp
          have hpl : pre.length ≤ 600001 := by rw [hpre]; rw [← HS.out]; simp; omega
          have HB0 : Hid (Below w.heap.size w wr.drew) := HB.out.drew
          go_loopw [4, 6] (fun ss j wr2 => ∃ (m : Nat) (Z : ByteArray), m ≤ U ∧ ss = .string Z ∧ j = .int .i64 (m : Int) ∧ Hid (Z.data.toList = pre ++ headR s ++ numsR s m) ∧ Below w.heap.size w wr2) (fun _ j _ => U - (intOf j).toNat)
          case atStart => exact ⟨0, _, Nat.zero_le _, rfl, rfl, by show _ = _; rw [hpre, HH.out]; have hS0 : S.data.toList = textP (l.take k) := HS.out; simp only [ByteArray.data_append, Array.toList_append, hS0]; simp [numsR], HB0.out⟩
          case round =>
            obtain ⟨m, Z, hm, rfl, rfl, HZ, hb2⟩ := hrel
            have HB2 := Lib.hid hb2
            have hzr2 := hb2.size
            clear hb2
            have e0 := HCL.out wr HB2.out 0 _ rfl
            rw [Nat.add_zero] at e0
            by_cases hlm : m < U
            · have hlm' : (m : Int) < (U : Int) := by omega
              have hcm : wr.cell? ⟨g, o + k * 8 + 1 + m, none⟩ = some (.int .i64 (s.get m)) := by
                rw [Nat.add_assoc _ 1 m]; exact HCL.out wr HB2.out (1 + m) _ (sg_cell s (by omega))
              have hzz : Z.size ≤ 1000000 := by
                have h1 : Z.data.toList.length = Z.size := by simp
                have h2 := numsR_len s m HGS.out (by omega)
                have h3 := headR_len s HGS.out
                rw [HZ.out] at h1
                simp only [List.length_append] at h1
                omega
              have hib := good_get HGS.out (show m < 6 by omega)
              have hil := itoa_len (s.get m) (by omega)
              have hisz : (⟨(Lib.itoa (s.get m)).toArray⟩ : ByteArray).size ≤ 20 := by simpa [ByteArray.size] using hil
              have HIB := Lib.hid hib
              clear hib
              go_wp2_with (first
                | (go_at_call 16; (with_reducible refine (used11 _).mono ?_); rintro e w1 ⟨rfl, rfl⟩; rw [HU.out])
                | (go_at_call 19; (with_reducible refine (dec11 HIB.out).mono ?_); rintro e w3 ⟨rfl, hb3⟩; replace hb3 := Lib.hid hb3))
              refine ⟨⟨m + 1, _, hlm, rfl, by go_num, ?_, HB2.out.trans (hb3.out.mono hzr2)⟩, by simp [intOf]; omega⟩
              show _ = _
              rw [numsR_s]
              simp only [ByteArray.data_append, Array.toList_append, HZ.out]
              simp
            · have hlm' : ¬ (m : Int) < (U : Int) := by omega
              have hmU : m = U := by omega
              subst hmU
              go_wp2_with (go_at_call 16; (with_reducible refine (used11 _).mono ?_); rintro e w1 ⟨rfl, rfl⟩; rw [HU.out])
              refine ⟨⟨k + 1, _, hlt, rfl, by go_num, ?_, HB2.out⟩, by simp [intOf]; omega⟩
              show _ = _
              rw [HZ.out, HP.out]
              have := part_ref HX.out
              rw [HU.out, Int.toNat_natCast] at this
              unfold partT
              rw [HX.out]
              simp only [this, List.append_assoc]
      · have hkz : k = 0 := by omega
        subst hkz
        rw [Nat.zero_mul, Nat.add_zero] at d0 d1 d2 d3 d4 d5 d6 d7
        by_cases h5 : s.k = 5
        · rw [h5] at d0
          have HH : Hid (headR s = 75 :: 32 :: Lib.itoa s.w) := by show _ = _; unfold headR; rw [h5, if_pos rfl]; rfl
          have hcut := fun W => letter_cut (k := 5) (by decide) (by decide) W
          have hwb := good_w5 HGS.out h5
          have hil := itoa_len s.w (by omega)
          have hisz : (⟨(Lib.itoa s.w).toArray⟩ : ByteArray).size ≤ 20 := by simpa [ByteArray.size] using hil
          have HIB := Lib.hid hwb
          have HU5 := HU
          rw [h5] at HU5
          have h5' := h5
          replace h5' := Lib.hid h5'
          clear hwb h5
          go_wp2
          go_region
          go_wp2_with (go_at_call 19; (with_reducible refine (dec11 HIB.out).mono ?_); rintro e w3 ⟨rfl, hb3⟩; replace hb3 := Lib.hid hb3)
          obtain ⟨pre, hpre⟩ : ∃ pre, pre = ([] : List UInt8) := ⟨_, rfl⟩
          have HP : Hid (textP (l.take (0 + 1)) = pre ++ partT s) := by show _ = _; rw [hpre]; rw [textP_0 HSS.out]; rfl
          have hpl : pre.length ≤ 600001 := by rw [hpre]; simp
          have HB0 : Hid (Below w.heap.size w w3) := HB.out.drew.trans (hb3.out.mono hzr)
          go_loopw [4, 6] (fun ss j wr2 => ∃ (m : Nat) (Z : ByteArray), m ≤ U ∧ ss = .string Z ∧ j = .int .i64 (m : Int) ∧ Hid (Z.data.toList = pre ++ headR s ++ numsR s m) ∧ Below w.heap.size w wr2) (fun _ j _ => U - (intOf j).toNat)
          case atStart => exact ⟨0, _, Nat.zero_le _, rfl, rfl, by show _ = _; rw [hpre, HH.out]; have hS0 : S.data.toList = [] := HS.out; simp only [ByteArray.data_append, Array.toList_append, hS0]; simp [numsR], HB0.out⟩
          case round =>
            obtain ⟨m, Z, hm, rfl, rfl, HZ, hb2⟩ := hrel
            have HB2 := Lib.hid hb2
            have hzr2 := hb2.size
            clear hb2
            have e0 := HCL.out wr HB2.out 0 _ rfl
            rw [Nat.zero_mul, Nat.add_zero] at e0
            by_cases hlm : m < U
            · have hlm' : (m : Int) < (U : Int) := by omega
              have hcm : wr.cell? ⟨g, o + 1 + m, none⟩ = some (.int .i64 (s.get m)) := by
                have := HCL.out wr HB2.out (1 + m) _ (sg_cell s (by omega)); rwa [Nat.zero_mul, Nat.add_zero, ← Nat.add_assoc] at this
              have hzz : Z.size ≤ 1000000 := by
                have h1 : Z.data.toList.length = Z.size := by simp
                have h2 := numsR_len s m HGS.out (by omega)
                have h3 := headR_len s HGS.out
                rw [HZ.out] at h1
                simp only [List.length_append] at h1
                omega
              have hib := good_get HGS.out (show m < 6 by omega)
              have hil := itoa_len (s.get m) (by omega)
              have hisz : (⟨(Lib.itoa (s.get m)).toArray⟩ : ByteArray).size ≤ 20 := by simpa [ByteArray.size] using hil
              have HIB := Lib.hid hib
              clear hib
              rw [h5'.out] at e0
              go_wp2_with (first
                | (go_at_call 16; (with_reducible refine (used11 _).mono ?_); rintro e w1 ⟨rfl, rfl⟩; rw [HU5.out])
                | (go_at_call 19; (with_reducible refine (dec11 HIB.out).mono ?_); rintro e w3 ⟨rfl, hb3⟩; replace hb3 := Lib.hid hb3))
              refine ⟨⟨m + 1, _, hlm, rfl, by go_num, ?_, HB2.out.trans (hb3.out.mono hzr2)⟩, by simp [intOf]; omega⟩
              show _ = _
              rw [numsR_s]
              simp only [ByteArray.data_append, Array.toList_append, HZ.out]
              simp
            · have hlm' : ¬ (m : Int) < (U : Int) := by omega
              have hmU : m = U := by omega
              subst hmU
              rw [h5'.out] at e0
              go_wp2_with (go_at_call 16; (with_reducible refine (used11 _).mono ?_); rintro e w1 ⟨rfl, rfl⟩; rw [HU5.out])
              refine ⟨⟨0 + 1, _, hlt, rfl, by go_num, ?_, HB2.out⟩, by simp [intOf]; omega⟩
              show _ = _
              rw [HZ.out, HP.out]
              have := part_ref HX.out
              rw [HU.out, Int.toNat_natCast] at this
              unfold partT
              rw [HX.out]
              simp only [this, List.append_assoc]
        · have h5b : (s.k == 5) = false := by simpa using h5
          have HH : Hid (headR s = [UInt8.ofNat ((⟨#[63, 77, 76, 81, 67, 75, 90]⟩ : ByteArray).data.toList.getD s.k.toNat 0).toNat]) := by show _ = _; unfold headR; rw [if_neg h5]
          have hcut := fun W => letter_cut (k := s.k) hk1 hk6 W
          go_wp2
          go_region
          go_wp2
          obtain ⟨pre, hpre⟩ : ∃ pre, pre = ([] : List UInt8) := ⟨_, rfl⟩
          have HP : Hid (textP (l.take (0 + 1)) = pre ++ partT s) := by show _ = _; rw [hpre]; rw [textP_0 HSS.out]; rfl
          have hpl : pre.length ≤ 600001 := by rw [hpre]; simp
          have HB0 : Hid (Below w.heap.size w wr.drew) := HB.out.drew
          go_loopw [4, 6] (fun ss j wr2 => ∃ (m : Nat) (Z : ByteArray), m ≤ U ∧ ss = .string Z ∧ j = .int .i64 (m : Int) ∧ Hid (Z.data.toList = pre ++ headR s ++ numsR s m) ∧ Below w.heap.size w wr2) (fun _ j _ => U - (intOf j).toNat)
          case atStart => exact ⟨0, _, Nat.zero_le _, rfl, rfl, by show _ = _; rw [hpre, HH.out]; have hS0 : S.data.toList = [] := HS.out; simp only [ByteArray.data_append, Array.toList_append, hS0]; simp [numsR], HB0.out⟩
          case round =>
            obtain ⟨m, Z, hm, rfl, rfl, HZ, hb2⟩ := hrel
            have HB2 := Lib.hid hb2
            have hzr2 := hb2.size
            clear hb2
            have e0 := HCL.out wr HB2.out 0 _ rfl
            rw [Nat.zero_mul, Nat.add_zero] at e0
            by_cases hlm : m < U
            · have hlm' : (m : Int) < (U : Int) := by omega
              have hcm : wr.cell? ⟨g, o + 1 + m, none⟩ = some (.int .i64 (s.get m)) := by
                have := HCL.out wr HB2.out (1 + m) _ (sg_cell s (by omega)); rwa [Nat.zero_mul, Nat.add_zero, ← Nat.add_assoc] at this
              have hzz : Z.size ≤ 1000000 := by
                have h1 : Z.data.toList.length = Z.size := by simp
                have h2 := numsR_len s m HGS.out (by omega)
                have h3 := headR_len s HGS.out
                rw [HZ.out] at h1
                simp only [List.length_append] at h1
                omega
              have hib := good_get HGS.out (show m < 6 by omega)
              have hil := itoa_len (s.get m) (by omega)
              have hisz : (⟨(Lib.itoa (s.get m)).toArray⟩ : ByteArray).size ≤ 20 := by simpa [ByteArray.size] using hil
              have HIB := Lib.hid hib
              clear hib
              go_wp2_with (first
                | (go_at_call 16; (with_reducible refine (used11 _).mono ?_); rintro e w1 ⟨rfl, rfl⟩; rw [HU.out])
                | (go_at_call 19; (with_reducible refine (dec11 HIB.out).mono ?_); rintro e w3 ⟨rfl, hb3⟩; replace hb3 := Lib.hid hb3))
              refine ⟨⟨m + 1, _, hlm, rfl, by go_num, ?_, HB2.out.trans (hb3.out.mono hzr2)⟩, by simp [intOf]; omega⟩
              show _ = _
              rw [numsR_s]
              simp only [ByteArray.data_append, Array.toList_append, HZ.out]
              simp
            · have hlm' : ¬ (m : Int) < (U : Int) := by omega
              have hmU : m = U := by omega
              subst hmU
              go_wp2_with (go_at_call 16; (with_reducible refine (used11 _).mono ?_); rintro e w1 ⟨rfl, rfl⟩; rw [HU.out])
              refine ⟨⟨0 + 1, _, hlt, rfl, by go_num, ?_, HB2.out⟩, by simp [intOf]; omega⟩
              show _ = _
              rw [HZ.out, HP.out]
              have := part_ref HX.out
              rw [HU.out, Int.toNat_natCast] at this
              unfold partT
              rw [HX.out]
              simp only [this, List.append_assoc]
    · have : k = n := by omega
      subst this
      have hall : l.take k = l := List.take_of_length_le (by rw [HN.out]; exact Nat.le_refl _)
      have hS : S = ⟨(textP l).toArray⟩ := by
        have := HS.out
        rw [hall] at this
        apply ByteArray.ext
        rw [← this]
      rw [hS]
      go_wp2
      go_ret2
      exact ⟨rfl, HB.out⟩
end Go.Proofs.YtaoobmcdbkipiaaDoor
