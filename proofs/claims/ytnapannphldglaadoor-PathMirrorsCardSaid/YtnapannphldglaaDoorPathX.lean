/- path.appendPart by value. -/
import Derived.Test.YtnapannphldglaaDoorPathV
namespace Go.Proofs.YtnapannphldglaaDoor
open Go Go.RowKit

theorem good_any {w : World} {A : Option Addr} {n c : Nat} {l : List Sg} (hl : LtIn w) (hv : SGV w A l) (hn : l.length = n) : Calls Tryd.prog 24 #[.slice A n c] w fun e w' => e = .returned (.bool (goodL l)) ∧ Below w.heap.size w w' := by
  cases l with
  | nil => cases hn; exact good_0
  | cons s r =>
    have eg : goodL (s :: r) = (decide ((s :: r).length ≤ 4096) && decide (s.k = 1) && goodF 0 (s :: r)) := rfl
    rw [eg]
    by_cases hm : (s :: r).length ≤ 4096
    · by_cases hk : s.k = 1
      · rw [decide_eq_true hm, decide_eq_true hk]
        exact good_go hl hv hn (by rw [← hn]; exact hm) rfl hk
      · rw [decide_eq_true hm, decide_eq_false hk]
        exact good_kind hv hn (by rw [← hn]; exact hm) rfl hk
    · rw [decide_eq_false hm]
      exact good_far (by rw [← hn]; omega)
def Lt.nb (x : Lt) : UInt8 := UInt8.ofNat x.n.toNat
theorem nb_n : ∀ x ∈ ltT, ((x.nb.toNat : Nat) : Int) = x.n := by decide
def numT (s : Sg) (c : UInt8) : Int := if c.toNat = 119 then s.w else s.get (c.toNat - 48)
def numX (s : Sg) (l : List UInt8) : List UInt8 := l.flatMap fun c => 32 :: Lib.itoa (numT s c)
def partX (x : Lt) (s : Sg) : List UInt8 := x.nb :: numX s x.h.data.toList
theorem info_u8 : (Tryd.prog.info? 5).map (fun i => (i.zero, i.size, i.bytes)) = some (some (.int .u8 0), 1, 1) := by kernel_rfl
theorem isW_b {n : Int} (h : isW n = true) : -9223372036854775808 ≤ n ∧ n ≤ 9223372036854775807 := by have := isW_iff.1 h; omega
theorem goodS_v {s : Sg} {x : Lt} (hx : letterK s.k = some x) (hg : goodS s = true) : (∀ i, i < 6 → okV s x.p i) ∧ (if s.k = 5 then isW s.w = true else s.w = 0) := by
  unfold goodS at hg
  rw [hx] at hg
  simp only [Bool.and_eq_true, List.all_eq_true] at hg
  refine ⟨fun i hi => of_decide_eq_true (hg.1 i (List.mem_range.2 hi)), ?_⟩
  have h2 := hg.2
  split at h2
  · rename_i h5; rw [if_pos h5]; exact h2
  · rename_i h5; rw [if_neg h5]; exact of_decide_eq_true h2
theorem goodS_b {s : Sg} {x : Lt} (hx : letterK s.k = some x) (hg : goodS s = true) : (∀ i, i < 6 → -9223372036854775808 ≤ s.get i ∧ s.get i ≤ 9223372036854775807) ∧ -9223372036854775808 ≤ s.w ∧ s.w ≤ 9223372036854775807 := by
  obtain ⟨h1, h2⟩ := goodS_v hx hg
  refine ⟨fun i hi => ?_, ?_⟩
  · have := isC_iff.1 (h1 i hi).1; omega
  · split at h2
    · have := isW_iff.1 h2; omega
    · rw [h2]; decide
theorem okept_kt {w w' : World} (h : Lib.OthersKept 5 none w w') : Kt [5] w w' := fun g cs t fr hg ht => h g _ hg (by simp) fun c fz e => by
  cases e; exact ht (by simp)
theorem kt_grow {W w1 : World} {B n k : Nat} {v : Value} {xs : List Value} {T : TypeId} (h : W.ownsRow B T k v n xs) (hg : W.grownBy w1 v.ownBlock) : Kt [T] W w1 :=
  (Kt.of_heap rfl : Kt [T] W W).grown hg fun g hgv => by
    obtain ⟨cs, hc⟩ := row_typed h g hgv
    exact ⟨cs, _, _, hc, by simp⟩
theorem own_below {W w1 : World} {B n k : Nat} {v : Value} {xs : List Value} {T : TypeId} (h : W.ownsRow B T k v n xs) (hg : W.grownBy w1 v.ownBlock) (hB : B ≤ W.heap.size) : Below B W w1 :=
  ⟨hg.os, hg.tape, hg.output, hg.size, fun i hi => hg.block i (by omega) (fun e => by have := (h.lt i e.symm).1; omega)⟩
theorem itoa_len (n : Int) (h : -9223372036854775808 ≤ n ∧ n ≤ 9223372036854775807) : (Lib.itoa n).length ≤ 20 := by
  have h1 : ∀ u : Nat, u ≤ 9223372036854775808 → (Lib.decDigits u).length ≤ 19 := by
    intro u hu
    rw [Lib.decDigits_length]
    rcases Nat.lt_or_ge (Lib.nDigits u) 20 with q | q
    · omega
    · exfalso
      have h2 : ∀ k u : Nat, k + 1 ≤ Lib.nDigits u → 10 ^ k ≤ u ∨ u < 10 ∧ k = 0 := by
        intro k
        induction k with
        | zero => intro u _; rcases Nat.lt_or_ge u 10 with q | q; exact .inr ⟨q, rfl⟩; exact .inl (by simp; omega)
        | succ k ih =>
          intro u hk
          by_cases h10 : u < 10
          · rw [Lib.nDigits_small h10] at hk; omega
          · rw [Lib.nDigits_big h10] at hk
            rcases ih (u / 10) (by omega) with p | ⟨p, rfl⟩
            · left; rw [Nat.pow_succ]; omega
            · left; simp; omega
      rcases h2 19 u (by omega) with p | ⟨_, p⟩
      · have : (10 : Nat) ^ 19 = 10000000000000000000 := by decide
        omega
      · omega
  unfold Lib.itoa
  split
  · have := h1 n.natAbs (by omega); simp; omega
  · have := h1 n.toNat (by omega); omega
theorem numX_len (s : Sg) (hb : (∀ i, i < 6 → -9223372036854775808 ≤ s.get i ∧ s.get i ≤ 9223372036854775807) ∧ -9223372036854775808 ≤ s.w ∧ s.w ≤ 9223372036854775807) : ∀ l : List UInt8, (numX s l).length ≤ 21 * l.length
  | [] => Nat.le_refl _
  | c :: l => by
    have := numX_len s hb l
    have h1 : (Lib.itoa (numT s c)).length ≤ 20 := by
      apply itoa_len
      unfold numT
      split
      · exact hb.2
      · have : ∀ j, -9223372036854775808 ≤ s.get j ∧ s.get j ≤ 9223372036854775807 := fun j => by
          rcases Nat.lt_or_ge j 6 with q | q
          · exact hb.1 j q
          · have : s.get j = s.get 5 := by
              match j, q with
              | j + 6, _ => rfl
            rw [this]; exact hb.1 5 (by decide)
        exact this _
    show (32 :: Lib.itoa (numT s c) ++ numX s l).length ≤ _
    simp only [List.length_append, List.length_cons]
    omega
theorem numX_snoc (s : Sg) (l : List UInt8) (c : UInt8) : numX s (l ++ [c]) = numX s l ++ 32 :: Lib.itoa (numT s c) := by simp [numX]
set_option maxRecDepth 100000 in
set_option maxHeartbeats 4000000 in
theorem apart_any {w : World} {B n : Nat} {v : Value} {xs : List Value} {s : Sg} {x : Lt} (hk : letterK s.k = some x) (hg : goodS s = true) (hl : LtIn w) (ht : Lib.TabBelow Tryd.prog B w "internal/strconv.uint64pow10" .u64 Lib.pow10Tab) (_h0 : 0 < B) (hB : B ≤ w.heap.size) (hown : w.ownsRow B 5 1 v n xs) (hn : n ≤ 1000000000) :
    Calls Tryd.prog 32 #[v, .agg #[.int .i64 s.k, .int .i64 s.v0, .int .i64 s.v1, .int .i64 s.v2, .int .i64 s.v3, .int .i64 s.v4, .int .i64 s.v5, .int .i64 s.w]] w fun e w' => ∃ v', e = .returned v' ∧ w'.ownsRow B 5 1 v' (n + (partX x s).length) (xs ++ Lib.byteCells (partX x s)) ∧ Below B w w' := by
  obtain ⟨A, c, rfl⟩ := row_sl hown
  have hbd := goodS_b hk hg
  have hxm := letterK_mem hk
  have hnb := nb_n x hxm
  have hsm := lt_small x hxm
  have HK := Lib.hid hk
  have HL := Lib.hid hl
  have HT := Lib.hid ht
  have HO := Lib.hid hown
  have HBD := Lib.hid hbd
  have HXM := Lib.hid hxm
  have HNB := Lib.hid hnb
  clear hk hg hl ht hown hbd hxm hnb
  obtain ⟨i0, hi, hz0, hz1, hz2⟩ := info_parts info_u8
  go_enter Tryd.func32, Tryd.ntmps32
  go_upto_region 2 with (go_at_call 47; refine (letterK_yes HK.out (HL.out.below ((Below.refl _ w).alloc (Nat.le_refl _) _) HL.out.lt)).mono ?_; rintro e w1 ⟨rfl, hb1⟩; have hz1 := hb1.size; have hsb := Lib.hid ((SB.new w s).below hb1 (SB.new w s).lt))
  have hzw : w.heap.size < w1.heap.size := hsb.out.lt
  have hlb := LB.new w1 x
  have hs2 : SB (w1.alloc (.cells #[.int .u8 x.n, .int .i64 x.k, .int .i64 x.p, .string x.h, .int .i64 x.f, .int .u8 x.a] 101)) w.heap.size s := (heap_alloc_old _ _ hzw).trans hsb.out
  have hb2 : Below w.heap.size w (w1.alloc (.cells #[.int .u8 x.n, .int .i64 x.k, .int .i64 x.p, .string x.h, .int .i64 x.f, .int .u8 x.a] 101)) := (((Below.refl _ w).alloc (Nat.le_refl _) _).trans (hb1.mono (by simp))).alloc (by omega) _
  generalize w1.alloc (.cells #[.int .u8 x.n, .int .i64 x.k, .int .i64 x.p, .string x.h, .int .i64 x.f, .int .u8 x.a] 101) = W at *
  clear hb1 hz1 hsb
  have l0 := hlb.c0
  have l3 := hlb.c3
  have hzW := hb2.size
  have HO2 := Lib.hid (row_kept HO.out fun g _ hg _ => hb2.block g hg)
  have HB2 := Lib.hid (hb2.mono hB)
  have HS := Lib.hid hs2
  have HLB := Lib.hid hlb
  clear hb2 hs2 hlb
  go_upto_region 4 with (
    at_builtin; refine wpList_append_lies _ rfl (.tmp 15) (.tmp 18) 56 rfl B 5 i0 _ 1 1 Tryd.underlying56 hi hz0 hz1 hz2 rfl (by decide) (.slice A n c) n xs (by simp [Act.eval]) (HO2.out.alloc _) ⟨W.heap.size, 0, none⟩ 1 1 [.int .u8 x.n] (by simp [Act.eval]) rfl (World.news_of_block (heap_alloc_new _ _)) (by simp [Value.oneCell']) (by decide) (by unfold maxLen; omega) (by omega) (by simp; omega) _ rfl ?_; intro g2 cap2 w2 hown2 hgr2 _ _
    have hkt2 := kt_grow (HO2.out.alloc _) hgr2
    have hlb2 := Lib.hid (show LB w2 w1.heap.size x from hkt2 _ _ _ _ ((heap_alloc_old _ _ HLB.out.lt).trans HLB.out) (by decide))
    have hsb2 := Lib.hid (show SB w2 w.heap.size s from hkt2 _ _ _ _ ((heap_alloc_old _ _ HS.out.lt).trans HS.out) (by decide))
    have hbb2 := Lib.hid (show Below B w w2 from (HB2.out.alloc (by omega) _).trans (own_below (HO2.out.alloc _) hgr2 (by simp; omega)))
    have l3b := hlb2.out.c3
    replace hown2 := Lib.hid hown2
    clear hgr2 hkt2)
  clear l0 l3 HO2 HB2 HS HLB HO
  obtain ⟨m, hm⟩ : ∃ m, x.h.size = m := ⟨_, rfl⟩
  rw [hm] at hsm
  have HM := Lib.hid hm
  simp only [hm]
  clear hm
  have hbl : x.h.data.toList.length = m := by rw [← HM.out]; simp
  have HBL := Lib.hid hbl
  clear hbl
  have hst : Lib.byteCells [x.nb] = [.int .u8 x.n] := by simp [Lib.byteCells, HNB.out]
  have HST := Lib.hid hst
  clear hst
  have hz2w := hbb2.out.size
  go_loopw [0, 23] (fun t i wr => ∃ k : Nat, k ≤ m ∧ i = .int .i64 (k : Int) ∧ wr.ownsRow B 5 1 t (n + 1 + (numX s (x.h.data.toList.take k)).length) (xs ++ Lib.byteCells (x.nb :: numX s (x.h.data.toList.take k))) ∧ LB wr w1.heap.size x ∧ SB wr w.heap.size s ∧ Below B w wr) (fun _ i _ => m - (intOf i).toNat)
  case atStart =>
    refine ⟨0, Nat.zero_le _, rfl, ?_, hlb2.out, hsb2.out, hbb2.out⟩
    have e : Lib.byteCells (x.nb :: numX s (x.h.data.toList.take 0)) = [.int .u8 x.n] := by rw [List.take_zero]; exact HST.out
    rw [e]
    exact hown2.out
  case round =>
    obtain ⟨k, hk, rfl, hr, hlb, hsb, hbw⟩ := hrel
    obtain ⟨At, ct, rfl⟩ := row_sl hr
    have l3 := hlb.c3
    have s7 := hsb.c7
    have hln := numX_len s HBD.out (x.h.data.toList.take k)
    have hlk : (x.h.data.toList.take k).length ≤ 6 := by simp only [List.length_take]; omega
    have HR := Lib.hid hr
    have HL2 := Lib.hid hlb
    have HS2 := Lib.hid hsb
    have HBW := Lib.hid hbw
    have hzr := hbw.size
    have hz1r := hlb.lt
    clear hr hlb hsb hbw hlb2 hsb2 hbb2 hown2
    obtain ⟨N, hN⟩ : ∃ N, n + 1 + (numX s (x.h.data.toList.take k)).length = N := ⟨_, rfl⟩
    have hNb : N ≤ 1000000200 := by omega
    rw [hN] at HR
    simp only [hN]
    have HNN := Lib.hid hN
    clear hN hln hlk
    by_cases hlt : k < m
    · have hkh : k < x.h.size := by rw [HM.out]; exact hlt
      rcases lt_byte HXM.out hkh with hc | ⟨i, hi6, hc⟩
      · skip
        have HTK : Hid (numX s (x.h.data.toList.take (k + 1)) = numX s (x.h.data.toList.take k) ++ 32 :: Lib.itoa s.w) := by
          show _ = _
          rw [List.take_succ_eq_append_getElem (by simpa using hkh), numX_snoc]
          have hc' : (x.h.data.toList[k]'(by simpa using hkh)).toNat = 119 := hc
          have : numT s (x.h.data.toList[k]'(by simpa using hkh)) = s.w := by unfold numT; rw [if_pos hc']
          rw [this]
        have HVB := Lib.hid HBD.out.2
        go_wp2_with (first
          | (at_builtin; refine wpList_append_lies _ rfl (.tmp 41) (.tmp 42) 56 rfl B 5 i0 _ 1 1 Tryd.underlying56 hi hz0 hz1 hz2 rfl (by decide) (.slice At N ct) N (xs ++ Lib.byteCells (x.nb :: numX s (x.h.data.toList.take k))) (by simp [Act.eval]) (HR.out.alloc _) ⟨wr.heap.size, 0, none⟩ 1 1 [.int .u8 32] (by simp [Act.eval]) rfl (World.news_of_block (heap_alloc_new _ _)) (by simp [Value.oneCell']) (by decide) (by unfold maxLen; omega) (by omega) (by simp; omega) _ rfl ?_; intro g3 cap3 w3 hown3 hgr3 _ _
             have hkt3 := Lib.hid ((Kt.of_below (ts := [5]) ((Below.refl _ wr).alloc (Nat.le_refl _) _)).trans (kt_grow (HR.out.alloc _) hgr3))
             have hbb3 := Lib.hid (show Below B w w3 from (HBW.out.alloc (by omega) _).trans (own_below (HR.out.alloc _) hgr3 (by simp; omega)))
             replace hown3 := Lib.hid hown3
             have hz3 := hbb3.out.size
             clear hgr3)
          | (go_at_call 49; refine (Tryd.strconv_AppendInt_10 B (N + 1) s.w HVB.out.1 HVB.out.2 _ _ _ hown3.out (by omega) (by omega) (HT.out.on hbb3.out)).mono ?_; rintro e w4 ⟨v4, rfl, hown4, hb4, hok4⟩))
        refine ⟨⟨k + 1, hlt, by go_num, ?_, (hkt3.out.trans (okept_kt hok4)) _ _ _ _ HL2.out (by decide), (hkt3.out.trans (okept_kt hok4)) _ _ _ _ HS2.out (by decide), hbb3.out.trans hb4⟩, by simp [intOf]; omega⟩
        rw [HTK.out]
        have e1 : n + 1 + (numX s (x.h.data.toList.take k) ++ 32 :: Lib.itoa (s.w)).length = N + 1 + (Lib.itoa (s.w)).length := by rw [← HNN.out]; simp; omega
        have e2 : xs ++ Lib.byteCells (x.nb :: (numX s (x.h.data.toList.take k) ++ 32 :: Lib.itoa (s.w))) = xs ++ Lib.byteCells (x.nb :: numX s (x.h.data.toList.take k)) ++ [.int .u8 32] ++ Lib.byteCells (Lib.itoa (s.w)) := by simp [Lib.byteCells]
        rw [e1, e2]
        exact hown4
      · skip
        have HTK : Hid (numX s (x.h.data.toList.take (k + 1)) = numX s (x.h.data.toList.take k) ++ 32 :: Lib.itoa (s.get i)) := by
          show _ = _
          rw [List.take_succ_eq_append_getElem (by simpa using hkh), numX_snoc]
          have hc' : (x.h.data.toList[k]'(by simpa using hkh)).toNat = 48 + i := hc
          have : numT s (x.h.data.toList[k]'(by simpa using hkh)) = s.get i := by unfold numT; rw [if_neg (by omega), hc', Nat.add_sub_cancel_left]
          rw [this]
        have HVB := Lib.hid (HBD.out.1 i hi6)
        have sgi := HS2.out.get hi6
        have hci : ¬ x.h[k].toNat = 119 := by omega
        go_wp2_with (first
          | (go_at_call 48; refine (slot_j hi6 _).mono ?_; rintro e w9 ⟨rfl, rfl⟩)
          | (at_builtin; refine wpList_append_lies _ rfl (.tmp 41) (.tmp 42) 56 rfl B 5 i0 _ 1 1 Tryd.underlying56 hi hz0 hz1 hz2 rfl (by decide) (.slice At N ct) N (xs ++ Lib.byteCells (x.nb :: numX s (x.h.data.toList.take k))) (by simp [Act.eval]) (HR.out.alloc _) ⟨wr.heap.size, 0, none⟩ 1 1 [.int .u8 32] (by simp [Act.eval]) rfl (World.news_of_block (heap_alloc_new _ _)) (by simp [Value.oneCell']) (by decide) (by unfold maxLen; omega) (by omega) (by simp; omega) _ rfl ?_; intro g3 cap3 w3 hown3 hgr3 _ _
             have hkt3 := Lib.hid ((Kt.of_below (ts := [5]) ((Below.refl _ wr).alloc (Nat.le_refl _) _)).trans (kt_grow (HR.out.alloc _) hgr3))
             have hbb3 := Lib.hid (show Below B w w3 from (HBW.out.alloc (by omega) _).trans (own_below (HR.out.alloc _) hgr3 (by simp; omega)))
             replace hown3 := Lib.hid hown3
             have hz3 := hbb3.out.size
             clear hgr3)
          | (go_at_call 49; refine (Tryd.strconv_AppendInt_10 B (N + 1) (s.get i) HVB.out.1 HVB.out.2 _ _ _ hown3.out (by omega) (by omega) (HT.out.on hbb3.out)).mono ?_; rintro e w4 ⟨v4, rfl, hown4, hb4, hok4⟩))
        refine ⟨⟨k + 1, hlt, by go_num, ?_, (hkt3.out.trans (okept_kt hok4)) _ _ _ _ HL2.out (by decide), (hkt3.out.trans (okept_kt hok4)) _ _ _ _ HS2.out (by decide), hbb3.out.trans hb4⟩, by simp [intOf]; omega⟩
        rw [HTK.out]
        have e1 : n + 1 + (numX s (x.h.data.toList.take k) ++ 32 :: Lib.itoa ((s.get i))).length = N + 1 + (Lib.itoa ((s.get i))).length := by rw [← HNN.out]; simp; omega
        have e2 : xs ++ Lib.byteCells (x.nb :: (numX s (x.h.data.toList.take k) ++ 32 :: Lib.itoa ((s.get i)))) = xs ++ Lib.byteCells (x.nb :: numX s (x.h.data.toList.take k)) ++ [.int .u8 32] ++ Lib.byteCells (Lib.itoa ((s.get i))) := by simp [Lib.byteCells]
        rw [e1, e2]
        exact hown4
    · have : k = m := by omega
      subst this
      go_wp2
      go_ret
      have hall : x.h.data.toList.take k = x.h.data.toList := List.take_of_length_le (by rw [HBL.out]; exact Nat.le_refl _)
      refine ⟨_, rfl, ?_, HBW.out⟩
      have hr2 := HR.out
      rw [← HNN.out, hall] at hr2
      have e1 : n + (partX x s).length = n + 1 + (numX s x.h.data.toList).length := by unfold partX; simp; omega
      rw [e1]
      rw [hall] at HNN
      rw [HNN.out] at hr2 ⊢
      exact hr2
end Go.Proofs.YtnapannphldglaaDoor
