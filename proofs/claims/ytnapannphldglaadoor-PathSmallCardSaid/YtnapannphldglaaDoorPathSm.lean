/- gessolaw11.PathSmall. -/
import Derived.Test.YtnapannphldglaaDoorPathEn
import Derived.Test.YtnapannphldglaaDoorPathN1
namespace Go.Proofs.YtnapannphldglaaDoor
open Go Go.RowKit

theorem rgood_bb {w : World} {A : Option Addr} {n c : Nat} {l : List Sg} {b : Bool} (hv : SGV w A l) (hn : l.length = n) (hg : goodL l = b) : Calls Tryd.prog 9 #[.slice A n c] w fun e w' => e = .returned (.bool b) ∧ w = w' := by
  rw [← hg]
  exact rgood_any hv hn
set_option maxRecDepth 100000 in
set_option maxHeartbeats 4000000 in
theorem sm_many {w : World} {A : Option Addr} {c n : Nat} (hd : LD w) (hn : 60 < n) (_hm : n ≤ maxLen) :
    Calls Tryd.prog 3 #[.slice A n c] w fun e w' => e = .returned (.bool true) ∧ Below w.heap.size w w' := by
  have HD0 := Lib.hid hd
  clear hd
  go_enter Tryd.func3, Tryd.ntmps3
  go_wp2_with (go_at_call 10; (with_reducible refine (wakes11 HD0.out).mono ?_); rintro e w1 ⟨rfl, hb⟩)
  go_ret
  exact ⟨rfl, hb⟩
set_option maxRecDepth 100000 in
set_option maxHeartbeats 4000000 in
theorem sm_bad {w : World} {A : Option Addr} {c n : Nat} {l : List Sg} (hd : LD w) (hv : SGV w A l) (hn : l.length = n) (h6 : n ≤ 60) (hg : goodL l = false) :
    Calls Tryd.prog 3 #[.slice A n c] w fun e w' => e = .returned (.bool true) ∧ Below w.heap.size w w' := by
  have HD0 := Lib.hid hd
  have C := Lib.hid (rgood_bb (c := c) hv hn hg)
  clear hd hv hn hg
  go_enter Tryd.func3, Tryd.ntmps3
  go_wp2_with (first
    | (go_at_call 9; (with_reducible refine C.out.mono ?_); rintro e w1 ⟨rfl, rfl⟩)
    | (go_at_call 10; (with_reducible refine (wakes11 HD0.out).mono ?_); rintro e w1 ⟨rfl, hb⟩))
  go_ret
  exact ⟨rfl, hb⟩
set_option maxRecDepth 100000 in
set_option maxHeartbeats 8000000 in
theorem sm_go {w : World} {A : Option Addr} {c n : Nat} {l : List Sg} (hd : LD w) (hv : SGV w A l) (hn : l.length = n) (h60 : n ≤ 60) (hg : goodL l = true) :
    Calls Tryd.prog 3 #[.slice A n c] w fun e w' => e = .returned (.bool true) ∧ Below w.heap.size w w' := by
  have HD0 := Lib.hid hd
  have C := Lib.hid (rgood_bb (c := c) hv hn hg)
  have HN := Lib.hid hn
  have HV := Lib.hid hv
  obtain ⟨hgm, hln⟩ := goodL_mem hg
  have HGM := Lib.hid hgm
  have HO := Lib.hid (of_small hg)
  have HLN := Lib.hid (smallT_len (P := pen0) hgm ⟨inC_0, inC_0, inC_0, inC_0⟩)
  rw [hn] at hln
  clear hd hv hn hg hgm
  go_enter Tryd.func3, Tryd.ntmps3
  go_wp2_with (go_at_call 9; (with_reducible refine C.out.mono ?_); rintro e w1 ⟨rfl, rfl⟩)
  go_loopw [3, 4, 5, 6, 7, 8] (fun ss x y sx sy i wr => ∃ (k : Nat) (S : ByteArray), k ≤ n ∧ ss = .string S ∧ i = .int .i64 (k : Int) ∧ Hid (S.data.toList = smallT pen0 (l.take k)) ∧ x = .int .i64 (pens pen0 (l.take k)).a ∧ y = .int .i64 (pens pen0 (l.take k)).b ∧ sx = .int .i64 (pens pen0 (l.take k)).c ∧ sy = .int .i64 (pens pen0 (l.take k)).d ∧ Below w.heap.size w wr) (fun _ _ _ _ _ i _ => n - (intOf i).toNat)
  case atStart => exact ⟨0, ⟨#[]⟩, Nat.zero_le _, rfl, rfl, rfl, rfl, rfl, rfl, rfl, Below.refl _ _⟩
  case round =>
    obtain ⟨k, S, hk, rfl, rfl, HS, rfl, rfl, rfl, rfl, hb⟩ := hrel
    have HB := Lib.hid hb
    have hzr := hb.size
    clear hb
    by_cases hlt : k < n
    · obtain ⟨s, hs⟩ : ∃ s, l[k]? = some s := ⟨_, List.getElem?_eq_getElem (by rw [HN.out]; exact hlt)⟩
      obtain ⟨g, o, rfl, hg, d0, d1, d2, d3, d4, d5, d6, d7⟩ := (HV.out.below HB.out).at_ hs
      have hgs := HGM.out s (List.mem_of_getElem? hs)
      obtain ⟨x, hx⟩ := goodS_letter hgs
      have HSS := Lib.hid hs
      clear hs
      have hkk := part_kind hx
      have hk1 : 1 ≤ s.k := hkk.1
      have hk6 : s.k ≤ 6 := hkk.2
      obtain ⟨U, hU, hU6⟩ := used_nat hx
      have HU := Lib.hid hU
      have HGS := Lib.hid hgs
      have HX := Lib.hid hx
      have HPI := Lib.hid (pens_in (l := l.take k) (P := pen0) (fun s hs => HGM.out s (List.mem_of_mem_take hs)) ⟨inC_0, inC_0, inC_0, inC_0⟩)
      have HCL : Hid (∀ W : World, Below w.heap.size w W → ∀ f u, s.v[f]? = some u → W.cell? ⟨g, o + k * 8 + f, none⟩ = some u) := fun W hW f u hu => by
        rcases HV.out.below hW with q | ⟨g', o', e, _, h⟩
        · have := HSS.out; rw [q] at this; cases this
        · cases e; exact h k s f u HSS.out hu
      have hsz : S.size ≤ 600000 := by
        have h1 : S.data.toList.length = S.size := by simp
        have h2 := smallT_len (l := l.take k) (P := pen0) (fun s hs => HGM.out s (List.mem_of_mem_take hs)) ⟨inC_0, inC_0, inC_0, inC_0⟩
        have h3 : (l.take k).length ≤ 60 := by simp only [List.length_take]; omega
        rw [HS.out] at h1
        omega
      clear hU hgs hx hkk
      by_cases h5 : s.k = 5
      · have hwb := good_w5 HGS.out h5
        have hil := itoa_len s.w (by omega)
        have hisz : (⟨(Lib.itoa s.w).toArray⟩ : ByteArray).size ≤ 20 := by simpa [ByteArray.size] using hil
        have HIB := Lib.hid hwb
        have HH : Hid (headS s = 107 :: Lib.itoa s.w) := by show _ = _; unfold headS; rw [h5, if_pos rfl]; rfl
        have hcut := fun W => small_cut (k := 5) (by decide) (by decide) W
        have h5' := Lib.hid h5
        rw [h5] at d0
        have HU5 := HU
        rw [h5] at HU5
        clear hwb h5
        go_wp2
        go_region
        go_wp2_with (go_at_call 11; (with_reducible refine (dec12 HIB.out).mono ?_); rintro e w3 ⟨rfl, hb3⟩; replace hb3 := Lib.hid hb3)
        have HB0 : Hid (Below w.heap.size w w3) := HB.out.drew.trans (hb3.out.mono hzr)
        go_loopw [3, 10] (fun ss j wr2 => ∃ (m : Nat) (Z : ByteArray), m ≤ U ∧ ss = .string Z ∧ j = .int .i64 (m : Int) ∧ Hid (Z.data.toList = smallT pen0 (l.take k) ++ headS s ++ numsS (pens pen0 (l.take k)) s m) ∧ Below w.heap.size w wr2) (fun _ j _ => U - (intOf j).toNat)
        case atStart => exact ⟨0, _, Nat.zero_le _, rfl, rfl, by show _ = _; rw [HH.out]; have hS0 : S.data.toList = smallT pen0 (l.take k) := HS.out; simp only [ByteArray.data_append, Array.toList_append, hS0]; simp [numsS], HB0.out⟩
        case round =>
          obtain ⟨m, Z, hm, rfl, rfl, HZ, hb2⟩ := hrel
          have HB2 := Lib.hid hb2
          have hzr2 := hb2.size
          clear hb2
          have e0 := HCL.out wr HB2.out 0 _ rfl
          rw [Nat.add_zero] at e0
          by_cases hlm : m < U
          · have hlm' : (m : Int) < (U : Int) := by omega
            have hcm : wr.cell? ⟨g, o + k * 8 + 1 + m, none⟩ = some (.int .i64 (s.get m)) := by
              rw [Nat.add_assoc _ 1 m]; exact HCL.out wr HB2.out (1 + m) _ (sg_cell s (by omega))
            have hzz : Z.size ≤ 1000000 := by
              have h1 : Z.data.toList.length = Z.size := by simp
              have h2 := numsS_len HGS.out HPI.out m
              have h3 := headS_len s HGS.out
              have h4 := smallT_len (l := l.take k) (P := pen0) (fun s hs => HGM.out s (List.mem_of_mem_take hs)) ⟨inC_0, inC_0, inC_0, inC_0⟩
              have h5 : (l.take k).length ≤ 60 := by simp only [List.length_take]; omega
              rw [HZ.out] at h1
              simp only [List.length_append] at h1
              omega
            have hgm := good_in HGS.out m
            have hpi := HPI.out
            unfold inC at hgm hpi
            have hga : -2147483648 < s.get m ∧ s.get m < 2147483648 := hgm
            obtain ⟨hpa, hpb, -, -⟩ := hpi
            clear hgm
            have hrl := rel_len HGS.out HPI.out m
            rw [h5'.out] at e0
            by_cases hpar : m % 2 = 0
            · have hpar' : (m : Int) % 2 = 0 := by omega
              rw [if_pos hpar] at hrl
              have hisz : (⟨(Lib.itoa (s.get m - (pens pen0 (l.take k)).a)).toArray⟩ : ByteArray).size ≤ 20 := by simpa [ByteArray.size] using hrl
              have HIB := Lib.hid (show -4611686018427387904 ≤ s.get m - (pens pen0 (l.take k)).a ∧ s.get m - (pens pen0 (l.take k)).a ≤ 4611686018427387904 by omega)
              generalize hPA : (pens pen0 (l.take k)).a = pa at *
              have HPA := Lib.hid hPA
              clear hPA
              go_wp2_with (first
                | (go_at_call 12; (with_reducible refine (used11 _).mono ?_); rintro e w1 ⟨rfl, rfl⟩; rw [HU5.out])
                | (go_at_call 11; (with_reducible refine (dec12 HIB.out).mono ?_); rintro e w3 ⟨rfl, hb3⟩; replace hb3 := Lib.hid hb3))
              refine ⟨⟨m + 1, _, hlm, rfl, by go_num, ?_, HB2.out.trans (hb3.out.mono hzr2)⟩, by simp [intOf]; omega⟩
              show _ = _
              rw [numsS_s, if_pos hpar, HPA.out]
              simp only [ByteArray.data_append, Array.toList_append, HZ.out]
              simp
            · have hpar' : (m : Int) % 2 = 1 := by omega
              rw [if_neg hpar] at hrl
              have hisz : (⟨(Lib.itoa (s.get m - (pens pen0 (l.take k)).b)).toArray⟩ : ByteArray).size ≤ 20 := by simpa [ByteArray.size] using hrl
              have HIB := Lib.hid (show -4611686018427387904 ≤ s.get m - (pens pen0 (l.take k)).b ∧ s.get m - (pens pen0 (l.take k)).b ≤ 4611686018427387904 by omega)
              generalize hPA : (pens pen0 (l.take k)).a = pa at *
              generalize hPB : (pens pen0 (l.take k)).b = pb at *
              have HPB := Lib.hid hPB
              clear hPA hPB
              go_wp2_with (first
                | (go_at_call 12; (with_reducible refine (used11 _).mono ?_); rintro e w1 ⟨rfl, rfl⟩; rw [HU5.out])
                | (go_at_call 11; (with_reducible refine (dec12 HIB.out).mono ?_); rintro e w3 ⟨rfl, hb3⟩; replace hb3 := Lib.hid hb3))
              refine ⟨⟨m + 1, _, hlm, rfl, by go_num, ?_, HB2.out.trans (hb3.out.mono hzr2)⟩, by simp [intOf]; omega⟩
              show _ = _
              rw [numsS_s, if_neg hpar, HPB.out]
              simp only [ByteArray.data_append, Array.toList_append, HZ.out]
              simp
          · have hlm' : ¬ (m : Int) < (U : Int) := by omega
            have hmU : m = U := by omega
            subst hmU
            rw [h5'.out] at e0
            have e1 := HCL.out wr HB2.out 1 _ rfl
            have e2 := HCL.out wr HB2.out 2 _ rfl
            have e3 := HCL.out wr HB2.out 3 _ rfl
            have e4 := HCL.out wr HB2.out 4 _ rfl
            have e5 := HCL.out wr HB2.out 5 _ rfl
            have e6 := HCL.out wr HB2.out 6 _ rfl
            have e7 := HCL.out wr HB2.out 7 _ rfl
            have HT : Hid (smallT pen0 (l.take (k + 1)) = smallT pen0 (l.take k) ++ (headS s ++ numsS (pens pen0 (l.take k)) s m) ∧ pens pen0 (l.take (k + 1)) = stepS (pens pen0 (l.take k)) s) := by
              obtain ⟨hl, he⟩ := List.getElem?_eq_some_iff.1 HSS.out
              have hp := part_sm (P := pens pen0 (l.take k)) HX.out
              rw [HU.out, Int.toNat_natCast] at hp
              exact ⟨by rw [List.take_succ_eq_append_getElem hl, he, smallT_snoc, hp], by rw [List.take_succ_eq_append_getElem hl, he, pens_snoc]⟩
            have HE : Hid ((pens pen0 (l.take (k + 1))).a = s.v2 ∧ (pens pen0 (l.take (k + 1))).b = s.v3 ∧ (pens pen0 (l.take (k + 1))).c = (pens pen0 (l.take k)).c ∧ (pens pen0 (l.take (k + 1))).d = (pens pen0 (l.take k)).d) := by
              have h9 := step_end (P := (pens pen0 (l.take k))) HX.out (pens pen0 (l.take k)).c (pens pen0 (l.take k)).d (by rw [h5'.out, if_neg (by decide)]) (by rw [h5'.out, if_neg (by decide)])
              rw [HT.out.2, h9]
              exact ⟨by unfold endP; rw [h5'.out]; simp, by unfold endP; rw [h5'.out]; simp, rfl, rfl⟩
            generalize hPA : (pens pen0 (l.take k)).a = pa at *
            generalize hPB : (pens pen0 (l.take k)).b = pb at *
            generalize hPC : (pens pen0 (l.take k)).c = pc at *
            generalize hPD : (pens pen0 (l.take k)).d = pd at *
            clear hPA hPB hPC hPD
            go_wp2_with (go_at_call 12; (with_reducible refine (used11 _).mono ?_); rintro e w1 ⟨rfl, rfl⟩; rw [HU5.out])
            go_wp2_with (go_at_call 13; (with_reducible refine (end_5 s.v0 s.v1 s.v2 s.v3 s.v4 s.v5 s.w _ _).mono ?_); rintro e w4 ⟨rfl, hb4⟩; replace hb4 := Lib.hid hb4)
            refine ⟨⟨k + 1, _, hlt, rfl, by go_num, ?_, by rw [HE.out.1], by rw [HE.out.2.1], by rw [HE.out.2.2.1], by rw [HE.out.2.2.2], HB2.out.trans (hb4.out.mono hzr2)⟩, by simp [intOf]; omega⟩
            show _ = _
            rw [HZ.out, HT.out.1, List.append_assoc]
      by_cases h1 : s.k = 1
      · have HH : Hid (headS s = [109]) := by show _ = _; unfold headS; rw [h1, if_neg (by decide)]; rfl
        have hcut := fun W => small_cut (k := 1) (by decide) (by decide) W
        have h5' := Lib.hid h1
        rw [h1] at d0
        have HU5 := HU
        rw [h1] at HU5
        clear h1
        go_wp2
        go_region
        go_wp2
        have HB0 : Hid (Below w.heap.size w wr.drew) := HB.out.drew
        go_loopw [3, 10] (fun ss j wr2 => ∃ (m : Nat) (Z : ByteArray), m ≤ U ∧ ss = .string Z ∧ j = .int .i64 (m : Int) ∧ Hid (Z.data.toList = smallT pen0 (l.take k) ++ headS s ++ numsS (pens pen0 (l.take k)) s m) ∧ Below w.heap.size w wr2) (fun _ j _ => U - (intOf j).toNat)
        case atStart => exact ⟨0, _, Nat.zero_le _, rfl, rfl, by show _ = _; rw [HH.out]; have hS0 : S.data.toList = smallT pen0 (l.take k) := HS.out; simp only [ByteArray.data_append, Array.toList_append, hS0]; simp [numsS], HB0.out⟩
        case round =>
          obtain ⟨m, Z, hm, rfl, rfl, HZ, hb2⟩ := hrel
          have HB2 := Lib.hid hb2
          have hzr2 := hb2.size
          clear hb2
          have e0 := HCL.out wr HB2.out 0 _ rfl
          rw [Nat.add_zero] at e0
          by_cases hlm : m < U
          · have hlm' : (m : Int) < (U : Int) := by omega
            have hcm : wr.cell? ⟨g, o + k * 8 + 1 + m, none⟩ = some (.int .i64 (s.get m)) := by
              rw [Nat.add_assoc _ 1 m]; exact HCL.out wr HB2.out (1 + m) _ (sg_cell s (by omega))
            have hzz : Z.size ≤ 1000000 := by
              have h1 : Z.data.toList.length = Z.size := by simp
              have h2 := numsS_len HGS.out HPI.out m
              have h3 := headS_len s HGS.out
              have h4 := smallT_len (l := l.take k) (P := pen0) (fun s hs => HGM.out s (List.mem_of_mem_take hs)) ⟨inC_0, inC_0, inC_0, inC_0⟩
              have h5 : (l.take k).length ≤ 60 := by simp only [List.length_take]; omega
              rw [HZ.out] at h1
              simp only [List.length_append] at h1
              omega
            have hgm := good_in HGS.out m
            have hpi := HPI.out
            unfold inC at hgm hpi
            have hga : -2147483648 < s.get m ∧ s.get m < 2147483648 := hgm
            obtain ⟨hpa, hpb, -, -⟩ := hpi
            clear hgm
            have hrl := rel_len HGS.out HPI.out m
            rw [h5'.out] at e0
            by_cases hpar : m % 2 = 0
            · have hpar' : (m : Int) % 2 = 0 := by omega
              rw [if_pos hpar] at hrl
              have hisz : (⟨(Lib.itoa (s.get m - (pens pen0 (l.take k)).a)).toArray⟩ : ByteArray).size ≤ 20 := by simpa [ByteArray.size] using hrl
              have HIB := Lib.hid (show -4611686018427387904 ≤ s.get m - (pens pen0 (l.take k)).a ∧ s.get m - (pens pen0 (l.take k)).a ≤ 4611686018427387904 by omega)
              generalize hPA : (pens pen0 (l.take k)).a = pa at *
              have HPA := Lib.hid hPA
              clear hPA
              go_wp2_with (first
                | (go_at_call 12; (with_reducible refine (used11 _).mono ?_); rintro e w1 ⟨rfl, rfl⟩; rw [HU5.out])
                | (go_at_call 11; (with_reducible refine (dec12 HIB.out).mono ?_); rintro e w3 ⟨rfl, hb3⟩; replace hb3 := Lib.hid hb3))
              refine ⟨⟨m + 1, _, hlm, rfl, by go_num, ?_, HB2.out.trans (hb3.out.mono hzr2)⟩, by simp [intOf]; omega⟩
              show _ = _
              rw [numsS_s, if_pos hpar, HPA.out]
              simp only [ByteArray.data_append, Array.toList_append, HZ.out]
              simp
            · have hpar' : (m : Int) % 2 = 1 := by omega
              rw [if_neg hpar] at hrl
              have hisz : (⟨(Lib.itoa (s.get m - (pens pen0 (l.take k)).b)).toArray⟩ : ByteArray).size ≤ 20 := by simpa [ByteArray.size] using hrl
              have HIB := Lib.hid (show -4611686018427387904 ≤ s.get m - (pens pen0 (l.take k)).b ∧ s.get m - (pens pen0 (l.take k)).b ≤ 4611686018427387904 by omega)
              generalize hPA : (pens pen0 (l.take k)).a = pa at *
              generalize hPB : (pens pen0 (l.take k)).b = pb at *
              have HPB := Lib.hid hPB
              clear hPA hPB
              go_wp2_with (first
                | (go_at_call 12; (with_reducible refine (used11 _).mono ?_); rintro e w1 ⟨rfl, rfl⟩; rw [HU5.out])
                | (go_at_call 11; (with_reducible refine (dec12 HIB.out).mono ?_); rintro e w3 ⟨rfl, hb3⟩; replace hb3 := Lib.hid hb3))
              refine ⟨⟨m + 1, _, hlm, rfl, by go_num, ?_, HB2.out.trans (hb3.out.mono hzr2)⟩, by simp [intOf]; omega⟩
              show _ = _
              rw [numsS_s, if_neg hpar, HPB.out]
              simp only [ByteArray.data_append, Array.toList_append, HZ.out]
              simp
          · have hlm' : ¬ (m : Int) < (U : Int) := by omega
            have hmU : m = U := by omega
            subst hmU
            rw [h5'.out] at e0
            have e1 := HCL.out wr HB2.out 1 _ rfl
            have e2 := HCL.out wr HB2.out 2 _ rfl
            have e3 := HCL.out wr HB2.out 3 _ rfl
            have e4 := HCL.out wr HB2.out 4 _ rfl
            have e5 := HCL.out wr HB2.out 5 _ rfl
            have e6 := HCL.out wr HB2.out 6 _ rfl
            have e7 := HCL.out wr HB2.out 7 _ rfl
            have HT : Hid (smallT pen0 (l.take (k + 1)) = smallT pen0 (l.take k) ++ (headS s ++ numsS (pens pen0 (l.take k)) s m) ∧ pens pen0 (l.take (k + 1)) = stepS (pens pen0 (l.take k)) s) := by
              obtain ⟨hl, he⟩ := List.getElem?_eq_some_iff.1 HSS.out
              have hp := part_sm (P := pens pen0 (l.take k)) HX.out
              rw [HU.out, Int.toNat_natCast] at hp
              exact ⟨by rw [List.take_succ_eq_append_getElem hl, he, smallT_snoc, hp], by rw [List.take_succ_eq_append_getElem hl, he, pens_snoc]⟩
            have HE : Hid ((pens pen0 (l.take (k + 1))).a = s.v0 ∧ (pens pen0 (l.take (k + 1))).b = s.v1 ∧ (pens pen0 (l.take (k + 1))).c = s.v0 ∧ (pens pen0 (l.take (k + 1))).d = s.v1) := by
              have h9 := step_end (P := (pens pen0 (l.take k))) HX.out s.v0 s.v1 (by rw [h5'.out, if_pos rfl]) (by rw [h5'.out, if_pos rfl])
              rw [HT.out.2, h9]
              exact ⟨by unfold endP; rw [h5'.out]; simp, by unfold endP; rw [h5'.out]; simp, rfl, rfl⟩
            generalize hPA : (pens pen0 (l.take k)).a = pa at *
            generalize hPB : (pens pen0 (l.take k)).b = pb at *
            generalize hPC : (pens pen0 (l.take k)).c = pc at *
            generalize hPD : (pens pen0 (l.take k)).d = pd at *
            clear hPA hPB hPC hPD
            go_wp2_with (go_at_call 12; (with_reducible refine (used11 _).mono ?_); rintro e w1 ⟨rfl, rfl⟩; rw [HU5.out])
            go_region
            go_wp2_with (go_at_call 13; (with_reducible refine (end_1 s.v0 s.v1 s.v2 s.v3 s.v4 s.v5 s.w _ _).mono ?_); rintro e w4 ⟨rfl, hb4⟩; replace hb4 := Lib.hid hb4)
            refine ⟨⟨k + 1, _, hlt, rfl, by go_num, ?_, by rw [HE.out.1], by rw [HE.out.2.1], by rw [HE.out.2.2.1], by rw [HE.out.2.2.2], HB2.out.drew.trans (hb4.out.mono hzr2)⟩, by simp [intOf]; omega⟩
            show _ = _
            rw [HZ.out, HT.out.1, List.append_assoc]
      · have h5b : (s.k == 5) = false := by simpa using h5
        have h1b : (s.k == 1) = false := by simpa using h1
        have HH : Hid (headS s = [smB s.k]) := by show _ = _; unfold headS; rw [if_neg h5]
        have hcut := fun W => small_cut (k := s.k) hk1 hk6 W
        have H1N := Lib.hid h1
        have HU5 := HU
        clear h1
        go_wp2
        go_region
        go_wp2
        have HB0 : Hid (Below w.heap.size w wr.drew) := HB.out.drew
        go_loopw [3, 10] (fun ss j wr2 => ∃ (m : Nat) (Z : ByteArray), m ≤ U ∧ ss = .string Z ∧ j = .int .i64 (m : Int) ∧ Hid (Z.data.toList = smallT pen0 (l.take k) ++ headS s ++ numsS (pens pen0 (l.take k)) s m) ∧ Below w.heap.size w wr2) (fun _ j _ => U - (intOf j).toNat)
        case atStart => exact ⟨0, _, Nat.zero_le _, rfl, rfl, by show _ = _; rw [HH.out]; have hS0 : S.data.toList = smallT pen0 (l.take k) := HS.out; simp only [ByteArray.data_append, Array.toList_append, hS0]; simp [numsS], HB0.out⟩
        case round =>
          obtain ⟨m, Z, hm, rfl, rfl, HZ, hb2⟩ := hrel
          have HB2 := Lib.hid hb2
          have hzr2 := hb2.size
          clear hb2
          have e0 := HCL.out wr HB2.out 0 _ rfl
          rw [Nat.add_zero] at e0
          by_cases hlm : m < U
          · have hlm' : (m : Int) < (U : Int) := by omega
            have hcm : wr.cell? ⟨g, o + k * 8 + 1 + m, none⟩ = some (.int .i64 (s.get m)) := by
              rw [Nat.add_assoc _ 1 m]; exact HCL.out wr HB2.out (1 + m) _ (sg_cell s (by omega))
            have hzz : Z.size ≤ 1000000 := by
              have h1 : Z.data.toList.length = Z.size := by simp
              have h2 := numsS_len HGS.out HPI.out m
              have h3 := headS_len s HGS.out
              have h4 := smallT_len (l := l.take k) (P := pen0) (fun s hs => HGM.out s (List.mem_of_mem_take hs)) ⟨inC_0, inC_0, inC_0, inC_0⟩
              have h5 : (l.take k).length ≤ 60 := by simp only [List.length_take]; omega
              rw [HZ.out] at h1
              simp only [List.length_append] at h1
              omega
            have hgm := good_in HGS.out m
            have hpi := HPI.out
            unfold inC at hgm hpi
            have hga : -2147483648 < s.get m ∧ s.get m < 2147483648 := hgm
            obtain ⟨hpa, hpb, -, -⟩ := hpi
            clear hgm
            have hrl := rel_len HGS.out HPI.out m
            by_cases hpar : m % 2 = 0
            · have hpar' : (m : Int) % 2 = 0 := by omega
              rw [if_pos hpar] at hrl
              have hisz : (⟨(Lib.itoa (s.get m - (pens pen0 (l.take k)).a)).toArray⟩ : ByteArray).size ≤ 20 := by simpa [ByteArray.size] using hrl
              have HIB := Lib.hid (show -4611686018427387904 ≤ s.get m - (pens pen0 (l.take k)).a ∧ s.get m - (pens pen0 (l.take k)).a ≤ 4611686018427387904 by omega)
              generalize hPA : (pens pen0 (l.take k)).a = pa at *
              have HPA := Lib.hid hPA
              clear hPA
              go_wp2_with (first
                | (go_at_call 12; (with_reducible refine (used11 _).mono ?_); rintro e w1 ⟨rfl, rfl⟩; rw [HU5.out])
                | (go_at_call 11; (with_reducible refine (dec12 HIB.out).mono ?_); rintro e w3 ⟨rfl, hb3⟩; replace hb3 := Lib.hid hb3))
              refine ⟨⟨m + 1, _, hlm, rfl, by go_num, ?_, HB2.out.trans (hb3.out.mono hzr2)⟩, by simp [intOf]; omega⟩
              show _ = _
              rw [numsS_s, if_pos hpar, HPA.out]
              simp only [ByteArray.data_append, Array.toList_append, HZ.out]
              simp
            · have hpar' : (m : Int) % 2 = 1 := by omega
              rw [if_neg hpar] at hrl
              have hisz : (⟨(Lib.itoa (s.get m - (pens pen0 (l.take k)).b)).toArray⟩ : ByteArray).size ≤ 20 := by simpa [ByteArray.size] using hrl
              have HIB := Lib.hid (show -4611686018427387904 ≤ s.get m - (pens pen0 (l.take k)).b ∧ s.get m - (pens pen0 (l.take k)).b ≤ 4611686018427387904 by omega)
              generalize hPA : (pens pen0 (l.take k)).a = pa at *
              generalize hPB : (pens pen0 (l.take k)).b = pb at *
              have HPB := Lib.hid hPB
              clear hPA hPB
              go_wp2_with (first
                | (go_at_call 12; (with_reducible refine (used11 _).mono ?_); rintro e w1 ⟨rfl, rfl⟩; rw [HU5.out])
                | (go_at_call 11; (with_reducible refine (dec12 HIB.out).mono ?_); rintro e w3 ⟨rfl, hb3⟩; replace hb3 := Lib.hid hb3))
              refine ⟨⟨m + 1, _, hlm, rfl, by go_num, ?_, HB2.out.trans (hb3.out.mono hzr2)⟩, by simp [intOf]; omega⟩
              show _ = _
              rw [numsS_s, if_neg hpar, HPB.out]
              simp only [ByteArray.data_append, Array.toList_append, HZ.out]
              simp
          · have hlm' : ¬ (m : Int) < (U : Int) := by omega
            have hmU : m = U := by omega
            subst hmU
            have e1 := HCL.out wr HB2.out 1 _ rfl
            have e2 := HCL.out wr HB2.out 2 _ rfl
            have e3 := HCL.out wr HB2.out 3 _ rfl
            have e4 := HCL.out wr HB2.out 4 _ rfl
            have e5 := HCL.out wr HB2.out 5 _ rfl
            have e6 := HCL.out wr HB2.out 6 _ rfl
            have e7 := HCL.out wr HB2.out 7 _ rfl
            have HT : Hid (smallT pen0 (l.take (k + 1)) = smallT pen0 (l.take k) ++ (headS s ++ numsS (pens pen0 (l.take k)) s m) ∧ pens pen0 (l.take (k + 1)) = stepS (pens pen0 (l.take k)) s) := by
              obtain ⟨hl, he⟩ := List.getElem?_eq_some_iff.1 HSS.out
              have hp := part_sm (P := pens pen0 (l.take k)) HX.out
              rw [HU.out, Int.toNat_natCast] at hp
              exact ⟨by rw [List.take_succ_eq_append_getElem hl, he, smallT_snoc, hp], by rw [List.take_succ_eq_append_getElem hl, he, pens_snoc]⟩
            have HE : Hid ((pens pen0 (l.take (k + 1))).a = (endP s (pens pen0 (l.take k)).c (pens pen0 (l.take k)).d).1 ∧ (pens pen0 (l.take (k + 1))).b = (endP s (pens pen0 (l.take k)).c (pens pen0 (l.take k)).d).2 ∧ (pens pen0 (l.take (k + 1))).c = (pens pen0 (l.take k)).c ∧ (pens pen0 (l.take (k + 1))).d = (pens pen0 (l.take k)).d) := by
              have h9 := step_end (P := (pens pen0 (l.take k))) HX.out (pens pen0 (l.take k)).c (pens pen0 (l.take k)).d (by rw [if_neg H1N.out]) (by rw [if_neg H1N.out])
              rw [HT.out.2, h9]
              exact ⟨by rfl, by rfl, rfl, rfl⟩
            generalize hPA : (pens pen0 (l.take k)).a = pa at *
            generalize hPB : (pens pen0 (l.take k)).b = pb at *
            generalize hPC : (pens pen0 (l.take k)).c = pc at *
            generalize hPD : (pens pen0 (l.take k)).d = pd at *
            clear hPA hPB hPC hPD
            go_wp2_with (go_at_call 12; (with_reducible refine (used11 _).mono ?_); rintro e w1 ⟨rfl, rfl⟩; rw [HU5.out])
            go_wp2_with (go_at_call 13; (with_reducible refine (end11 (s := s) _ _ hk1 hk6).mono ?_); rintro e w4 ⟨rfl, hb4⟩; replace hb4 := Lib.hid hb4)
            refine ⟨⟨k + 1, _, hlt, rfl, by go_num, ?_, by rw [HE.out.1], by rw [HE.out.2.1], by rw [HE.out.2.2.1], by rw [HE.out.2.2.2], HB2.out.trans (hb4.out.mono hzr2)⟩, by simp [intOf]; omega⟩
            show _ = _
            rw [HZ.out, HT.out.1, List.append_assoc]
    · have : k = n := by omega
      subst this
      have hall : l.take k = l := List.take_of_length_le (by rw [HN.out]; exact Nat.le_refl _)
      have HSE : Hid (S.data.toList = smallT pen0 l) := by
        have := HS.out
        rw [hall] at this
        exact this
      have HSL : Hid ((smallT pen0 l).length ≤ 1048576) := by
        have h1 := HLN.out
        have h2 := HN.out
        show _ ≤ _
        omega
      have HL6 : Hid (l.length ≤ 4096) := by
        have h2 := HN.out
        show _ ≤ _
        omega
      go_wp2_with (first
        | (go_at_call 14; (with_reducible refine (bk_ofs HSE.out HSL.out (HD0.out.below HB.out).l HO.out).mono ?_); rintro e w1 ⟨A1, c1, he, hv, hb⟩; rw [HN.out] at he; subst he; have HB1 := Lib.hid (HB.out.trans (hb.mono hzr)); have HA := Lib.hid hv; clear hv hb)
        | (go_at_call 15; (with_reducible refine (bk_same HA.out (HV.out.below HB1.out) HN.out HL6.out).mono ?_); rintro e w2 ⟨rfl, hb⟩; have HB2 := Lib.hid (HB1.out.trans (hb.mono HB1.out.size)); clear hb)
        | (go_at_call 10; (with_reducible refine (wakes11 (HD0.out.below HB2.out)).mono ?_); rintro e w3 ⟨rfl, hb⟩; have HB3 := Lib.hid (HB2.out.trans (hb.mono HB2.out.size)); clear hb))
      go_ret
      exact ⟨rfl, HB3.out⟩
theorem sm_all {w : World} {A : Option Addr} {c n : Nat} {l : List Sg} (hd : LD w) (hv : SGV w A l) (hn : l.length = n) (hm : n ≤ maxLen) :
    Calls Tryd.prog 3 #[.slice A n c] w fun e w' => e = .returned (.bool true) ∧ Below w.heap.size w w' := by
  rcases Nat.lt_or_ge 60 n with h | h
  · exact sm_many hd h hm
  cases hg : goodL l with
  | true => exact sm_go hd hv hn h hg
  | false => exact sm_bad hd hv hn h hg
end Go.Proofs.YtnapannphldglaaDoor
