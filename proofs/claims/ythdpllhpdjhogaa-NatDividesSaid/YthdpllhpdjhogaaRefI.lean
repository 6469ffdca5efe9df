/- reference: DivMod, the divisor not 0. -/
import Derived.Test.YthdpllhpdjhogaaRefH
namespace Go.Proofs.Ythdpllhpdjhogaa
open Go.RowKit

theorem Fr.nilcap {K : IntKind} {e : TypeId} {w : World} {B n c : Nat} {A : Option Addr} {l : List Nat} (h : Fr K e w B A n c l) : A = none → c = 0 := by
  intro hA
  rcases h.2.2 with ⟨h2, _⟩ | ⟨g, cap, cur, hv, hg, r⟩
  · injection h2
  · subst hA; cases hv
theorem rdm_step {D V x q r : Nat} (h1 : q = D / V) (h2 : r = D % V) (hV : 0 < V) : (x + B32 * r) / V + B32 * q = (x + B32 * D) / V ∧ (x + B32 * r) % V = (x + B32 * D) % V ∧ (x < B32 → x + B32 * r < V * B32) := by
  have e : x + B32 * D = V * (B32 * q) + (x + B32 * r) := by
    have := Nat.div_add_mod D V
    rw [← h1, ← h2] at this
    rw [← this]
    generalize B32 = B
    grind
  rw [e, Nat.mul_add_div hV, Nat.mul_add_mod]
  refine ⟨Nat.add_comm _ _, rfl, fun hx => ?_⟩
  have hr : r + 1 ≤ V := by rw [h2]; exact Nat.mod_lt _ hV
  have := Nat.mul_le_mul_left B32 hr
  rw [Nat.mul_succ] at this
  rw [Nat.mul_comm V]; omega

/-- What a struct of two slices tells, when it is stored into the result's block. -/
theorem two_close {w W w3 : World} {Q R n n' c c' : Nat} {A A' : Option Addr} (hlt : w.heap.size < W.heap.size) (hb : Below w.heap.size w W) (p1 : n ≤ c) (p2 : n' ≤ c') (p3 : Rd .u32 w3 A n (limbs B32 Q)) (p4 : Rd .u32 w3 A' n' (limbs B32 R)) (p5 : Below W.heap.size W w3)
    (o1 : 0 < n → ∀ ad, A = some ad → ad.block ≠ w.heap.size) (o2 : 0 < n' → ∀ ad, A' = some ad → ad.block ≠ w.heap.size) :
    GivesTwo w Q R (.returned (.agg #[.slice A n c, .slice A' n' c'])) ((w3.setCell ⟨w.heap.size, 0, none⟩ (.slice A n c)).setCell ⟨w.heap.size, 1, none⟩ (.slice A' n' c')) := by
  have keep : ∀ {B : Option Addr} {m : Nat} {l : List Nat}, Rd .u32 w3 B m l → (0 < m → ∀ ad, B = some ad → ad.block ≠ w.heap.size) → Rd .u32 ((w3.setCell ⟨w.heap.size, 0, none⟩ (.slice A n c)).setCell ⟨w.heap.size, 1, none⟩ (.slice A' n' c')) B m l :=
    fun h ho => h.only (g := w.heap.size) (fun hm ad e => ho hm ad e) (((Only.refl w.heap.size w3).setCell 0 _).setCell 1 _)
  have hbz : Below w.heap.size w w3 := hb.trans (p5.mono (Nat.le_of_lt hlt))
  exact ⟨_, _, _, _, _, _, rfl, p1, p2, keep p3 o1, keep p4 o2, (hbz.setCell (Nat.le_refl _) _).setCell (Nat.le_refl _) _⟩

set_option maxRecDepth 100000 in
set_option maxHeartbeats 1000000 in
theorem rdm_below (U V : Nat) (A B : Option Addr) (n c m d : Nat) (w : World) (ha : Rd .u32 w A n (limbs B32 U)) (hb : Rd .u32 w B m (limbs B32 V)) (hn0 : n ≤ 1000000) (hnc : n ≤ c) (hlt : U < V) :
    Calls Try.prog 25 #[.slice A n c, .slice B m d] w (GivesTwo w 0 U) := by
  have hcm : cmpN U V = -1 := cmpN_lt hlt
  have hb1 : Below w.heap.size w (w.alloc (.cells #[.slice none 0 0, .slice none 0 0] 42)) := (Below.refl _ _).alloc (Nat.le_refl _) _
  have HV : Vow 42 (w.alloc (.cells #[.slice none 0 0, .slice none 0 0] 42)) w.heap.size [.slice none 0 0, .slice none 0 0] := heap_alloc_new w _
  have HH := Lib.hid hlt
  clear hlt
  go_enter Try.func25, Try.ntmps25
  go_wp2_with (first
    | (go_at_call 14; (refine (rcmp_any U V A B n c m d _ (ha.below hb1) (hb.below hb1) (by unfold maxLen; omega)).mono ?_); rintro e w' ⟨rfl, q, rfl⟩; rw [hcm]))
  have hV2 := ((show Vow 42 ((w.alloc (.cells #[.slice none 0 0, .slice none 0 0] 42)).drewN q) w.heap.size [.slice none 0 0, .slice none 0 0] from HV).set_ 0 (.slice none 0 0)).set_ 1 (.slice A n c)
  have z0 := hV2.cell (i := 0) rfl
  have z1 := hV2.cell (i := 1) rfl
  refine bodyPost_ret (v := .agg #[.slice none 0 0, .slice A n c]) (by simp [results, Try.results25, go_sem, z0, z1]) rfl ?_
  have keep : Rd .u32 ((((w.alloc (.cells #[.slice none 0 0, .slice none 0 0] 42)).drewN q).setCell ⟨w.heap.size, 0, none⟩ (.slice none 0 0)).setCell ⟨w.heap.size, 1, none⟩ (.slice A n c)) A n (limbs B32 U) :=
    ((ha.below hb1).drewN q).only (g := w.heap.size) (fun hm ad e => Nat.ne_of_lt (ha.lt hm ad e)) (((Only.refl w.heap.size _).setCell 0 _).setCell 1 _)
  refine ⟨none, 0, 0, A, n, c, rfl, Nat.le_refl _, hnc, by rw [limbs_zero]; exact Rd.nil, keep, ((below_drawn hb1 q).setCell (Nat.le_refl _) _).setCell (Nat.le_refl _) _⟩

set_option maxRecDepth 100000 in
set_option maxHeartbeats 1000000 in
theorem rdm_one (U V : Nat) (A B : Option Addr) (n c d : Nat) (w : World) (ha : Rd .u32 w A n (limbs B32 U)) (hb : Rd .u32 w B 1 (limbs B32 V)) (hn0 : n ≤ 1000000) (hle : V ≤ U) :
    Calls Try.prog 25 #[.slice A n c, .slice B 1 d] w (GivesTwo w (U / V) (U % V)) := by
  have hcm : decide (cmpN U V < 0) = false := by
    rcases Nat.lt_or_eq_of_le hle with h | h
    · rw [cmpN_gt h]; rfl
    · rw [cmpN_eq h.symm]; rfl
  have hVB : V < B32 := by have := lt_pow_limbs B32_two V; rwa [hb.1, Nat.pow_one] at this
  have hV0 : 0 < V := by
    rcases Nat.eq_zero_or_pos V with h | h
    · have := hb.1; rw [h, limbs_zero] at this; simp at this
    · exact h
  have hl : limbs B32 V = [V] := limbs_small B32_two hVB (by omega)
  have hb1 : Below w.heap.size w (w.alloc (.cells #[.slice none 0 0, .slice none 0 0] 42)) := (Below.refl _ _).alloc (Nat.le_refl _) _
  have HV : Vow 42 (w.alloc (.cells #[.slice none 0 0, .slice none 0 0] 42)) w.heap.size [.slice none 0 0, .slice none 0 0] := heap_alloc_new w _
  obtain ⟨b0, o0, rfl, hc⟩ := hb.2 (by omega)
  have hcv : w.cell? ⟨b0, o0, none⟩ = some (.int .u32 (V : Int)) := hc 0 V (by rw [hl]; rfl)
  have hcv2 : (w.alloc (.cells #[.slice none 0 0, .slice none 0 0] 42)).cell? ⟨b0, o0, none⟩ = some (.int .u32 (V : Int)) := (World.cell?_alloc_lt w _ ⟨b0, o0, none⟩ (hb.lt (by omega) _ rfl)).trans hcv
  have HH := Lib.hid hle
  clear hle hc hl hcv
  generalize hW : w.alloc (.cells #[.slice none 0 0, .slice none 0 0] 42) = W at hb1 HV hcv2
  go_enter Try.func25, Try.ntmps25
  go_wp2_with (first
    | (go_at_call 14; (refine (rcmp_any U V A _ n c 1 d W (ha.below hb1) (hb.below hb1) (by unfold maxLen; omega)).mono ?_); rintro e w' ⟨rfl, q, rfl⟩)
    | (go_at_call 53; (refine (short_any U V A n c (W.drewN q) ((ha.below hb1).drewN q) hn0 hV0 hVB).mono ?_); rintro e w3 ⟨A1, n1, c1, A2, n2, c2, rfl, p1, p2, p3, p4, p5, p6, p7⟩
       have HV3 := (show Vow 42 (W.drewN q) w.heap.size [.slice none 0 0, .slice none 0 0] from HV).below p5
       have v0 := HV3.cell (i := 0) rfl
       have v1 := HV3.cell (i := 1) rfl
       have f0 := HV3.frozen 0
       have f1 := HV3.frozen 1))
  have hV2 := (HV3.set_ 0 (.slice A1 n1 c1)).set_ 1 (.slice A2 n2 c2)
  have z0 := hV2.cell (i := 0) rfl
  have z1 := hV2.cell (i := 1) rfl
  refine bodyPost_ret (v := .agg #[.slice A1 n1 c1, .slice A2 n2 c2]) (by simp [results, Try.results25, go_sem, z0, z1]) rfl ?_
  have hsz : w.heap.size < (W.drewN q).heap.size := by rw [← hW]; simp [World.drewN]
  exact two_close hsz (below_drawn hb1 q) p1 p2 p3 p4 p5 (fun _ ad e => Nat.ne_of_gt (Nat.lt_of_lt_of_le hsz (p6 ad e))) (fun _ ad e => Nat.ne_of_gt (Nat.lt_of_lt_of_le hsz (p7 ad e)))

set_option maxRecDepth 100000 in
set_option maxHeartbeats 2000000 in
theorem rdm_long (U V : Nat) (A B : Option Addr) (n c m d : Nat) (w : World) (ha : Rd .u32 w A n (limbs B32 U)) (hb : Rd .u32 w B m (limbs B32 V)) (hn0 : n ≤ 900000) (hm0 : m ≤ 900000) (hmd : m ≤ d) (hm2 : 2 ≤ m) (hle : V ≤ U) :
    Calls Try.prog 25 #[.slice A n c, .slice B m d] w (GivesTwo w (U / V) (U % V)) := by
  have hcm : decide (cmpN U V < 0) = false := by
    rcases Nat.lt_or_eq_of_le hle with h | h
    · rw [cmpN_gt h]; rfl
    · rw [cmpN_eq h.symm]; rfl
  have hV0 : 0 < V := by
    rcases Nat.eq_zero_or_pos V with h | h
    · have := hb.1; rw [h, limbs_zero] at this; simp at this; omega
    · exact h
  have hne : ((m : Int) == 1) = false := by simp; omega
  have HL := Lib.hid ha.1
  have La := lim_limbs B32_two U
  have HMn := Lib.hid (length_limbs_mono B32_two hle)
  have hVm : V < B32 ^ m := by have := lt_pow_limbs B32_two V; rwa [hb.1] at this
  have HVm := Lib.hid hVm
  have hb1 : Below w.heap.size w (w.alloc (.cells #[.slice none 0 0, .slice none 0 0] 42)) := (Below.refl _ _).alloc (Nat.le_refl _) _
  have HV : Vow 42 (w.alloc (.cells #[.slice none 0 0, .slice none 0 0] 42)) w.heap.size [.slice none 0 0, .slice none 0 0] := heap_alloc_new w _
  have hs1 : (w.alloc (.cells #[.slice none 0 0, .slice none 0 0] 42)).heap.size = w.heap.size + 1 := by simp
  have HH := Lib.hid hle
  have hn1 : n ≤ 2 ^ 45 := by omega
  clear hle hVm
  go_enter Try.func25, Try.ntmps25
  go_wp2_with (first
    | (go_at_call 14; (refine (rcmp_any U V A B n c m d _ (ha.below hb1) (hb.below hb1) (by unfold maxLen; omega)).mono ?_); rintro e w' ⟨rfl, q, rfl⟩)
    | (at_make; refine wpList_make32 _ rfl (.tmp 24) (.tmp 24) rfl .i64 .i64 _ _ n rfl rfl (by omega) (by omega) (by omega) ?_; intro w1 hown1 hb2))
  have hs2 : ((w.alloc (.cells #[.slice none 0 0, .slice none 0 0] 42)).drewN q).heap.size = w.heap.size + 1 := hs1
  rw [hs2] at hown1 hb2
  have hbw1 : Below w.heap.size w w1 := (below_drawn hb1 q).trans (hb2.mono (by omega))
  have hv1 : Vow 42 w1 w.heap.size [.slice none 0 0, .slice none 0 0] := (hb2.block w.heap.size (by omega)).trans HV
  clear hb2 HV hb1
  go_loopw [6, 7] (fun tr ti wr => ∃ (j : Nat) (Q : List Nat) (R : Nat) (A' : Option Addr) (n' c' : Nat), j ≤ n ∧ ti = .int .i64 ((j : Int) - 1) ∧ tr = .slice A' n' c' ∧ Rd .u32 wr A' n' (limbs B32 R) ∧ n' ≤ c' ∧ (A' = none → c' = 0) ∧ (∀ ad, A' = some ad → w.heap.size + 1 < ad.block) ∧
      Own .u32 62 wr (w.heap.size + 1) (List.replicate j 0 ++ Q) ∧ Vow 42 wr w.heap.size [.slice none 0 0, .slice none 0 0] ∧ Below w.heap.size w wr ∧
      Hid (Q.length + j = n ∧ Lim B32 Q ∧ val B32 Q = val B32 ((limbs B32 U).drop j) / V ∧ R = val B32 ((limbs B32 U).drop j) % V)) (fun _ ti _ => (intOf ti + 1).toNat)
  case atStart =>
    refine ⟨n, [], 0, none, 0, 0, Nat.le_refl _, by go_num, rfl, by rw [limbs_zero]; exact Rd.nil, Nat.le_refl _, fun _ => rfl, (fun ad e => by cases e), by simpa using hown1, hv1, hbw1, by simp, Lim.nil, ?_, ?_⟩
    · rw [List.drop_of_length_le (by have := HL.out; omega)]; simp
    · rw [List.drop_of_length_le (by have := HL.out; omega)]; simp
  case round =>
    obtain ⟨j, Q, R, A', n', c', hj, rfl, rfl, hR, hnc', hcap, hblk, hQ, hV, hbw, HI⟩ := hrel
    by_cases hj0 : 0 < j
    · obtain ⟨i, rfl⟩ : ∃ i, j = i + 1 := ⟨j - 1, by omega⟩
      have h' := ha.below hbw
      have hbb := hb.below hbw
      obtain ⟨b0, o, rfl, hc⟩ := h'.at_ (by omega)
      obtain ⟨x, hx, hcx⟩ := hc i (by omega)
      have hxB := La.get hx
      have hRV : R < V := by rw [HI.out.2.2.2]; exact Nat.mod_lt _ hV0
      have hn'm : n' ≤ m := by
        rw [← hR.1]
        exact length_limbs_le B32_two (Nat.lt_trans hRV HVm.out)
      obtain ⟨R', hR'⟩ : ∃ R', R' = x + B32 * R := ⟨_, rfl⟩
      obtain ⟨s1, s2, s3⟩ := rdm_step (x := x) HI.out.2.2.1 HI.out.2.2.2 hV0
      rw [← hR'] at s1 s2 s3
      have s3' := s3 hxB
      have HS := Lib.hid (And.intro s1 (And.intro s2 s3'))
      have hqlt := hQ.lt
      have hfr0 : Fr .u32 62 (wr.alloc (.cells #[.int .u32 (x : Int)] 62)) wr.heap.size (some ⟨wr.heap.size, 0, none⟩) 1 1 [x] := by
        have := Fr.of_own (L := [x]) (k := 1) (heap_alloc_new wr (.cells (nums .u32 [x]).toArray 62)) (Nat.le_refl _) (Nat.le_refl _) (show 1 ≤ maxLen by decide)
        exact this
      have HF0 := Lib.hid hfr0
      have HCAP := Lib.hid hcap
      have HX := Lib.hid hx
      have hlimR : Lim B32 ([x] ++ limbs B32 R) := (Lim.cons hxB Lim.nil).append (lim_limbs B32_two _)
      have HRE : Hid (limbs B32 (val B32 ([x] ++ limbs B32 R)) = limbs B32 R') := by
        show _ = _
        rw [List.singleton_append, val_cons, val_limbs B32_two, hR']
      have hq : Own .u32 62 wr (w.heap.size + 1) (List.replicate i 0 ++ (0 :: Q)) := by
        rw [List.replicate_succ', List.append_assoc] at hQ; exact hQ
      have hd : Hid (val B32 ((limbs B32 U).drop i) = x + B32 * val B32 ((limbs B32 U).drop (i + 1))) := by
        show _ = _
        have hk := (List.getElem?_eq_some_iff.1 hx).1
        rw [List.drop_eq_getElem_cons hk, (List.getElem?_eq_some_iff.1 hx).2, val_cons]
      clear hc hx s1 s2 s3 s3' hfr0 hcap hQ hR'
      by_cases hlt : R' < V
      · have hc2 : decide (cmpN R' V < 0) = true := by rw [cmpN_lt hlt]; rfl
        have HLT := Lib.hid hlt
        clear hlt
        go_wp2_with (first
          | (at_builtin; refine wpList_appendR .u32 25 62 4 (.int .u32 0) rfl Try.underlying25 info_u32 (by omega) _ rfl (.tmp 37) (.tmp 38) rfl wr.heap.size (some ⟨wr.heap.size, 0, none⟩) 1 1 [x] rfl HF0.out (Nat.le_refl _) (by decide) A' n' c' (limbs B32 R) rfl HCAP.out (hR.alloc _) (by omega) (by simp) ?_
             intro A2 c2 w2 p1 p2 p3 p4 _
             have b2 : Below wr.heap.size wr w2 := ((Below.refl _ _).alloc (Nat.le_refl _) _).trans p4)
          | (go_at_call 42; (refine (rtrim_any ([x] ++ limbs B32 R) A2 (1 + n') c2 w2 p1.rd hlimR (by unfold maxLen; omega) p2).mono ?_); rintro e w' ⟨⟨k2, hk2, rfl, _, hkr⟩, rfl⟩
             rw [HRE.out] at hkr)
          | (go_at_call 14; (refine (rcmp_any R' V A2 B k2 c2 m d w2 hkr (hbb.below b2) (by unfold maxLen; omega)).mono ?_); rintro e w' ⟨rfl, qq, rfl⟩))
        go_roundw
        case rel =>
          obtain ⟨i1, i2, i3, i4⟩ := HI.out
          have hbz : Below w.heap.size w w2 := hbw.trans (b2.mono hbw.size)
          refine ⟨i, 0 :: Q, R', A2, k2, c2, by omega, by go_num, rfl, hkr.drewN qq, by omega, p1.nilcap, fun ad e => Nat.lt_of_lt_of_le hqlt (p1.base9 ad e), hq.below (below_drawn b2 qq) hqlt, hV.below (below_drawn b2 qq), below_drawn hbz qq, ?_, Lim.cons (by decide) i2, ?_, ?_⟩
          · rw [List.length_cons]; omega
          · rw [val_cons, hd.out, ← HS.out.1, Nat.div_eq_of_lt HLT.out]
          · rw [hd.out, ← HS.out.2.1, Nat.mod_eq_of_lt HLT.out]
        case measure => simp [intOf]
      · have hc2 : decide (cmpN R' V < 0) = false := by
          rcases Nat.lt_or_eq_of_le (Nat.not_lt.1 hlt) with h | h
          · rw [cmpN_gt h]; rfl
          · rw [cmpN_eq h.symm]; rfl
        have HLT : Hid (V ≤ R') := Nat.not_lt.1 hlt
        clear hlt
        have hlz : Hid ((List.replicate i 0).length = i) := by show _ = _; simp
        have hqf : Hid (R' / V < B32) := Nat.div_lt_of_lt_mul HS.out.2.2
        have hv1d : Hid (val B32 [R' / V] = R' / V) := by show _ = _; simp
        have hsubd : Hid (R' - V * (R' / V) = R' % V) := by show _ = _; have := Nat.div_add_mod R' V; omega
        have hoffB : Hid (Off B m (w.heap.size + 1)) := fun hm ad e => Nat.ne_of_lt (Nat.lt_succ_of_lt (hb.lt hm ad e))
        go_wp2_with (first
          | (at_builtin; refine wpList_appendR .u32 25 62 4 (.int .u32 0) rfl Try.underlying25 info_u32 (by omega) _ rfl (.tmp 37) (.tmp 38) rfl wr.heap.size (some ⟨wr.heap.size, 0, none⟩) 1 1 [x] rfl HF0.out (Nat.le_refl _) (by decide) A' n' c' (limbs B32 R) rfl HCAP.out (hR.alloc _) (by omega) (by simp) ?_
             intro A2 c2 w2 p1 p2 p3 p4 _
             have b2 : Below wr.heap.size wr w2 := ((Below.refl _ _).alloc (Nat.le_refl _) _).trans p4)
          | (go_at_call 42; (refine (rtrim_any ([x] ++ limbs B32 R) A2 (1 + n') c2 w2 p1.rd hlimR (by unfold maxLen; omega) p2).mono ?_); rintro e w' ⟨⟨k2, hk2, rfl, _, hkr⟩, rfl⟩
             rw [HRE.out] at hkr)
          | (go_at_call 14; (refine (rcmp_any R' V A2 B k2 c2 m d w2 hkr (hbb.below b2) (by unfold maxLen; omega)).mono ?_); rintro e w' ⟨rfl, qq, rfl⟩)
          | (go_at_call 54; (refine (rguess_any R' V A2 B k2 c2 m d _ (hkr.drewN qq) ((hbb.below b2).drewN qq) (by omega) (by omega) hm2 (by omega) hmd HLT.out HS.out.2.2).mono ?_); rintro e w5 ⟨rfl, b5⟩
             have b5' : Below wr.heap.size wr w5 := (below_drawn b2 qq).trans (b5.mono b2.size)
             have hq5 := hq.below b5' hqlt
             have hcz := hq5.cell_len hlz.out
             have hfz := Own.frozen hq5 i
             have hst := hq5.store_len hlz.out (R' / V)
             rw [List.append_assoc] at hst
             have HST := Lib.hid hst
             clear hst)
          | (go_at_call 20
             have HS5 := HST.out
             obtain ⟨w6, hw6⟩ : ∃ w6, w6 = w5.setCell ⟨w.heap.size + 1, i, none⟩ (.int .u32 ((R' / V : Nat) : Int)) := ⟨_, rfl⟩
             rw [← Int.natCast_ediv, ← hw6]
             rw [← hw6] at HS5
             have o6 : Only (w.heap.size + 1) w5 w6 := by rw [hw6]; exact (Only.refl _ _).setCell _ _
             have hk6 : Rd .u32 w6 A2 k2 (limbs B32 R') := ((hkr.drewN qq).below b5).only (fun hm ad e => Nat.ne_of_gt (Nat.lt_of_lt_of_le hqlt (p1.base9 ad e))) o6
             have hb6 : Rd .u32 w6 B m (limbs B32 V) := (hbb.below b5').only hoffB.out o6
             have hV6 : Vow 42 w6 w.heap.size [.slice none 0 0, .slice none 0 0] := by rw [hw6]; exact (hV.below b5').other (by omega) _
             have b6 : Below w.heap.size w w6 := Below.only (hbw.trans (b5'.mono hbw.size)) (by omega) (hbw.trans (b5'.mono hbw.size)).size o6
             have e7 : Below w6.heap.size w6 (w6.alloc (.cells #[.int .u32 ((R' / V : Nat) : Int)] 62)) := (Below.refl _ _).alloc (Nat.le_refl _) _
             have hlit : Rd .u32 (w6.alloc (.cells #[.int .u32 ((R' / V : Nat) : Int)] 62)) (some ⟨w5.heap.size, 0, none⟩) 1 [R' / V] := by
               have hs6 : w5.heap.size = w6.heap.size := by rw [hw6]; simp
               rw [hs6]; exact lit2_rd (K := .u32) (e := 62) w6 [R' / V] 1 rfl
             (with_reducible refine (rmul_any (limbs B32 V) [R' / V] B _ m d 1 1 _ (hb6.below e7) hlit (lim_limbs B32_two _) (Lim.cons hqf.out Lim.nil) (by omega) (by omega)).mono ?_); rintro e w8 ⟨A8, n8, c8, rfl, q1, q2, q3, q4⟩
             rw [val_limbs B32_two, hv1d.out] at q3
             have b8 : Below w6.heap.size w6 w8 := e7.trans (q4.mono e7.size))
          | (go_at_call 16
             (refine (rsub_any (limbs B32 R') (limbs B32 (V * (R' / V))) A2 A8 k2 c2 n8 c8 w8 (hk6.below b8) q3.rd (lim_limbs B32_two _) (lim_limbs B32_two _) (by omega) ?_ ?_).mono ?_)
             · rw [← q3.1, ← hkr.1]; exact length_limbs_mono B32_two (Nat.mul_div_le _ _)
             · rw [val_limbs B32_two, val_limbs B32_two]; exact Nat.mul_div_le _ _
             rintro e w9 ⟨A9, n9, c9, rfl, r1, r2, r3, r4⟩
             rw [val_limbs B32_two, val_limbs B32_two, hsubd.out] at r3
             have b9 : Below w6.heap.size w6 w9 := b8.trans (r4.mono b8.size)))
        go_roundw
        case rel =>
          obtain ⟨i1, i2, i3, i4⟩ := HI.out
          have hwsz : w.heap.size + 1 < w6.heap.size := HS5.lt
          refine ⟨i, (R' / V) :: Q, R' % V, A9, n9, c9, by omega, by go_num, rfl, r3.rd, r1, r3.nilcap, fun ad e => Nat.lt_of_lt_of_le hwsz (Nat.le_trans b8.size (r3.base9 ad e)), HS5.below b9 hwsz, hV6.below b9, b6.trans (b9.mono b6.size), ?_, Lim.cons hqf.out i2, ?_, ?_⟩
          · rw [List.length_cons]; omega
          · rw [val_cons, hd.out]; exact HS.out.1
          · rw [hd.out]; exact HS.out.2.1
        case measure => simp [intOf]
    · obtain rfl : j = 0 := by omega
      rw [List.replicate_zero, List.nil_append] at hQ
      obtain ⟨i1, i2, i3, i4⟩ := HI.out
      rw [List.drop_zero, val_limbs B32_two] at i3 i4
      have v0 := hV.cell (i := 0) rfl
      have v1 := hV.cell (i := 1) rfl
      have f0 := hV.frozen 0
      have f1 := hV.frozen 1
      have HE := Lib.hid (And.intro i1 (And.intro i3 i4))
      clear i1 i3 i4
      go_wp2_with (first
        | (go_at_call 42; (refine (rtrim_any Q _ n n wr (hQ.rd (by have := HE.out; omega) (fun j x hx => by simpa using hx)) i2 (by unfold maxLen; omega) (Nat.le_refl _)).mono ?_); rintro e w' ⟨⟨k, hk, rfl, hkt, hkr⟩, rfl⟩))
      have hV10 := (hV.set_ 0 (.slice (some ⟨w.heap.size + 1, 0, none⟩) k n)).set_ 1 (.slice A' n' c')
      have z0 := hV10.cell (i := 0) rfl
      have z1 := hV10.cell (i := 1) rfl
      refine bodyPost_ret (v := .agg #[.slice (some ⟨w.heap.size + 1, 0, none⟩) k n, .slice A' n' c']) (by simp [results, Try.results25, go_sem, z0, z1]) rfl ?_
      rw [HE.out.2.1] at hkr
      rw [HE.out.2.2] at hR
      exact two_close (W := wr) (by have := hQ.lt; omega) hbw hk hnc' hkr hR (Below.refl _ _) (fun _ ad e => by cases e; show w.heap.size + 1 ≠ w.heap.size; omega) (fun _ ad e => by have := hblk ad e; omega)

/-- The reference's quotient and rest by any number but 0. -/
theorem rdivmod_any (U V : Nat) (A B : Option Addr) (n c m d : Nat) (w : World) (ha : Rd .u32 w A n (limbs B32 U)) (hb : Rd .u32 w B m (limbs B32 V)) (hn0 : n ≤ 900000) (hm0 : m ≤ 900000) (hnc : n ≤ c) (hmd : m ≤ d) (hV : V ≠ 0) :
    Calls Try.prog 25 #[.slice A n c, .slice B m d] w (GivesTwo w (U / V) (U % V)) := by
  rcases Nat.lt_or_ge U V with h | h
  · rw [Nat.div_eq_of_lt h, Nat.mod_eq_of_lt h]
    exact rdm_below U V A B n c m d w ha hb (by omega) hnc h
  · by_cases h1 : m = 1
    · subst h1
      exact rdm_one U V A B n c d w ha hb (by omega) h
    · have hm : m ≠ 0 := by
        intro e
        have := hb.1
        rw [limbs_pos B32_two hV] at this
        simp at this; omega
      exact rdm_long U V A B n c m d w ha hb hn0 hm0 hmd (by omega) h
end Go.Proofs.Ythdpllhpdjhogaa
