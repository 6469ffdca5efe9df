/- nat.divideLong: the quotient and the rest by a number of two limbs or more. -/
import Derived.Test.YthdpllhpdjhogaaDStep
import Derived.Test.YthdpllhpdjhogaaDivM
namespace Go.Proofs.Ythdpllhpdjhogaa
open Go.RowKit

theorem top_pow {l : List Nat} {n t : Nat} (hl : l.length = n + 1) (ht : l[n]? = some t) (h0 : 0 < t) : B64 ^ n ≤ val B64 l := by
  have e : val B64 l = val B64 (l.take (n + 1)) := by rw [List.take_of_length_le (by omega)]
  rw [e, val_take_succ ht]
  have := Nat.mul_le_mul_left (B64 ^ n) h0
  omega
theorem top_pos {l : List Nat} {n t : Nat} (hL : Lim B64 l) (hl : l.length = n + 1) (ht : l[n]? = some t) (h : B64 ^ n ≤ val B64 l) : 0 < t := by
  have e : val B64 l = val B64 (l.take (n + 1)) := by rw [List.take_of_length_le (by omega)]
  rw [e, val_take_succ ht] at h
  have := take_lt hL (n := n) (by omega)
  rcases Nat.eq_zero_or_pos t with h0 | h0
  · subst h0; omega
  · exact h0
theorem norm_fits {l : List Nat} {n t s : Nat} (hL : Lim B64 l) (hl : l.length = n + 1) (ht : l[n]? = some t) (hs : s = 64 - bl t) : val B64 l * 2 ^ s < B64 ^ (n + 1) := by
  have e : val B64 l = val B64 (l.take (n + 1)) := by rw [List.take_of_length_le (by omega)]
  have h1 := take_lt hL (n := n) (by omega)
  have hb : bl t ≤ 64 := bl_le (hL.get ht)
  have h2 := lt_bl t
  rw [e, val_take_succ ht]
  have h3 : val B64 (l.take n) + B64 ^ n * t < B64 ^ n * 2 ^ bl t := by
    have := Nat.mul_le_mul_left (B64 ^ n) h2
    rw [Nat.mul_succ] at this
    omega
  have h4 := Nat.mul_lt_mul_of_pos_right h3 (Nat.two_pow_pos s)
  rw [Nat.mul_assoc, ← Nat.pow_add, show bl t + s = 64 by omega] at h4
  exact h4
theorem long_start {a b s k n : Nat} (ha : a < B64 ^ k) (hb : B64 ^ n ≤ b) (hk : n + 1 ≤ k) : a * 2 ^ s < B64 ^ (k - (n + 1) + 1) * (b * 2 ^ s) := by
  have h1 : B64 ^ k = B64 ^ (k - (n + 1) + 1) * B64 ^ n := by rw [← Nat.pow_add]; congr 1; omega
  have h2 := Nat.mul_le_mul_left (B64 ^ (k - (n + 1) + 1)) hb
  rw [← Nat.mul_assoc]
  exact Nat.mul_lt_mul_of_pos_right (by omega) (Nat.two_pow_pos s)
/-- Where the next limb of the quotient is sought. -/
theorem long_cut {R : List Nat} {V i n : Nat} (hL : Lim B64 R) (hi : i + (n + 1) ≤ R.length) (hV : V < B64 ^ n) (h : val B64 R < B64 ^ (i + 1) * V) :
    val B64 ((R.drop i).take (n + 1)) < B64 * V ∧ val B64 (R.drop (i + (n + 1))) = 0 ∧ val B64 R = val B64 (R.take i) + B64 ^ i * val B64 ((R.drop i).take (n + 1)) := by
  have hd : val B64 (R.drop i) < B64 * V := by
    rw [val_drop hL _ (by omega) (by decide)]
    refine Nat.div_lt_of_lt_mul ?_
    rw [← Nat.mul_assoc, ← Nat.pow_succ]; exact h
  have h1 := val_take_drop (B := B64) (R.drop i) (n + 1) (by rw [List.length_drop]; omega)
  rw [List.drop_drop] at h1
  have hBV : B64 * V ≤ B64 ^ (n + 1) := by
    rw [Nat.pow_succ, Nat.mul_comm]; exact Nat.mul_le_mul_right _ (Nat.le_of_lt hV)
  have h0 : val B64 (R.drop (i + (n + 1))) = 0 := by
    rcases Nat.eq_zero_or_pos (val B64 (R.drop (i + (n + 1)))) with h0 | h0
    · exact h0
    · have := Nat.mul_le_mul_left (B64 ^ (n + 1)) h0
      omega
  rw [h0, Nat.mul_zero, Nat.add_zero] at h1
  refine ⟨by omega, h0, ?_⟩
  rw [← h1]
  exact val_take_drop R i (by omega)
theorem long_end {a b s vQ vR : Nat} (h : a * 2 ^ s = vQ * B64 ^ 0 * (b * 2 ^ s) + vR) (hR : vR < B64 ^ 0 * (b * 2 ^ s)) : vQ = a / b ∧ vR / 2 ^ s = a % b := by
  rw [Nat.pow_zero, Nat.mul_one] at h
  rw [Nat.pow_zero, Nat.one_mul] at hR
  have hp := Nat.two_pow_pos s
  have hq : a * 2 ^ s / (b * 2 ^ s) = vQ := by
    rw [h, Nat.mul_comm vQ, Nat.mul_add_div (by omega), Nat.div_eq_of_lt hR, Nat.add_zero]
  have hr : a * 2 ^ s % (b * 2 ^ s) = vR := by
    rw [h, Nat.mul_comm vQ, Nat.mul_add_mod, Nat.mod_eq_of_lt hR]
  rw [Nat.mul_div_mul_right _ _ hp] at hq
  rw [Nat.mul_mod_mul_right] at hr
  exact ⟨hq.symm, by rw [← hr, Nat.mul_div_cancel _ hp]⟩

/-- Two slices of the call's own, the numbers lq and lr. -/
def Gives2 (w : World) (lq lr : List Nat) (e : Ending) (w' : World) : Prop :=
  ∃ A n c A' n' c', e = .returned (.tuple #[.slice A n c, .slice A' n' c']) ∧ n ≤ c ∧ c ≤ maxLen ∧ n' ≤ c' ∧ c' ≤ maxLen ∧
    Fr .u64 34 w' w.heap.size A n c lq ∧ Fr .u64 34 w' w.heap.size A' n' c' lr ∧ Below w.heap.size w w'

set_option maxRecDepth 100000 in
set_option maxHeartbeats 2000000 in
theorem divideLong_any (la lb : List Nat) (A B : Option Addr) (k c n d : Nat) (w : World) (ha : Rd .u64 w A k la) (hb : Rd .u64 w B n lb) (La : Lim B64 la) (Lb : Lim B64 lb) (hk0 : k ≤ 35184372088830)
    (hn2 : 2 ≤ n) (hnk : n ≤ k) (htop : ∀ x, lb[n - 1]? = some x → x ≠ 0) :
    Calls Try.prog 52 #[.slice A k c, .slice B n d] w (Gives2 w (limbs B64 (val B64 la / val B64 lb)) (limbs B64 (val B64 la % val B64 lb))) := by
  have hM : Hid (k + 1 ≤ maxLen ∧ n ≤ maxLen ∧ k + 1 ≤ 35184372088832) := by show _ ∧ _; unfold maxLen; omega
  obtain ⟨b, o, rfl, hc⟩ := hb.at_ (by omega)
  obtain ⟨t, ht, hct⟩ := hc (n - 1) (by omega)
  have ht0 : 0 < t := by have := htop t ht; omega
  have htB : t < B64 := Lb.get ht
  obtain ⟨s, hs⟩ : ∃ s, s = 64 - bl t := ⟨_, rfl⟩
  have hs64 : s < 64 := by have := bl_pos (show t ≠ 0 by omega); omega
  have hln : lb.length = (n - 1) + 1 := by have := hb.1; omega
  have hBb := top_pow hln ht ht0
  have hfit : val B64 lb * 2 ^ s < B64 ^ n := by
    have := norm_fits Lb hln ht hs
    rwa [show n - 1 + 1 = n by omega] at this
  have halt : val B64 la < B64 ^ k := by have := val_lt La; rwa [ha.1] at this
  have HST : Hid (val B64 la * 2 ^ s < B64 ^ (k - n + 1) * (val B64 lb * 2 ^ s)) := by
    have := long_start (s := s) halt hBb (show n - 1 + 1 ≤ k by omega)
    rwa [show n - 1 + 1 = n by omega] at this
  have hVB : B64 ^ (n - 1) ≤ val B64 lb * 2 ^ s := Nat.le_trans hBb (Nat.le_mul_of_pos_right _ (Nat.two_pow_pos s))
  have HVB := Lib.hid hVB
  have HF := Lib.hid hfit
  have HS := Lib.hid hs
  have hwrap : IntKind.u64.wrap ((64 - bl t : Nat) : Int) = (s : Int) := by rw [← hs, IntKind.wrap_u64]; omega
  have hk1 : k ≤ 2 ^ 45 := by omega
  have hn1 : n ≤ 2 ^ 45 := by omega
  clear hc hln hBb hfit halt hVB hs ht htop hk0
  go_enter Try.func52, Try.ntmps52
  go_wp2_with (first
    | (go_at_call 76; (with_reducible refine (lz64_any t htB _).mono ?_); rintro e w' ⟨rfl, rfl⟩)
    | (at_make; refine wpList_make64 _ rfl (.tmp 22) (.tmp 22) rfl .i64 .i64 _ _ (k + 1) rfl rfl (by omega) (by omega) hM.out.2.2 ?_; intro w1 hown1 hb1)
    | (go_at_call 77
       refine (shiftUp_at _ la (List.replicate (k + 1) 0) [] s w.heap.size 0 (k + 1) _ k c A w1 hown1 rfl (by simp) (ha.below hb1) (Off.of_lt ha (Nat.le_refl _)) La hs64 (Or.inr rfl) hM.out.1 rfl).mono ?_
       rintro e w2 ⟨rfl, ⟨R0, hR1, hR2, hR3, hR4⟩, ho2⟩
       have hb2 : Below w.heap.size w w2 := Below.only hb1 (Nat.le_refl _) hb1.size ho2
       rw [List.nil_append] at hR4
       have hg2 := hR4.lt
       have HR1 := Lib.hid hR1
       have HR3 := Lib.hid hR3
       clear hR1 hR3 hown1)
    | (at_make; refine wpList_make64 _ rfl (.tmp 28) (.tmp 28) rfl .i64 .i64 _ _ n rfl rfl (by omega) (by omega) (by omega) ?_; intro w3 hown3 hb3
       have hR4' := hR4.below hb3 hg2)
    | (go_at_call 77
       refine (shiftUp_at _ lb (List.replicate n 0) [] s w2.heap.size 0 n _ n d _ w3 hown3 rfl (by simp) ((hb.below hb2).below hb3) (Off.of_lt (hb.below hb2) (Nat.le_refl _)) Lb hs64 (Or.inl ⟨rfl, HF.out⟩) hM.out.2.1 rfl).mono ?_
       rintro e w4 ⟨rfl, ⟨V, hV1, hV2, hV3, hV4⟩, ho4⟩
       rw [List.nil_append] at hV4
       have hR5 := hR4'.only ho4 (Nat.ne_of_lt hg2)
       have hb4 : Below w2.heap.size w2 w4 := Below.only hb3 (Nat.le_refl _) hb3.size ho4
       have hg4 := hV4.lt
       have HV1 := Lib.hid hV1
       have HV3 := Lib.hid hV3
       clear hV1 hV3 hown3 hR4 hR4')
    | (at_make; refine wpList_make64 _ rfl (.tmp 38) (.tmp 38) rfl .i64 .i64 _ _ (k - n + 1) rfl rfl (by omega) (by omega) (by omega) ?_; intro w5 hown5 hb5
       have hR6 := hR5.below hb5 (Nat.lt_trans hg2 hg4)
       have hV5 := hV4.below hb5 hg4
       have hb6 : Below w.heap.size w w5 := hb2.trans ((hb4.mono hb2.size).trans (hb5.mono (Nat.le_trans hb2.size hb4.size)))
       clear hR5 hV4))
  obtain ⟨gq, hgq⟩ : ∃ g, g = w4.heap.size := ⟨_, rfl⟩
  obtain ⟨gv, hgv⟩ : ∃ g, g = w2.heap.size := ⟨_, rfl⟩
  obtain ⟨gr, hgr⟩ : ∃ g, g = w.heap.size := ⟨_, rfl⟩
  rw [← hgq] at hown5
  rw [← hgv] at hV5 hg4
  rw [← hgr] at hR6 hg2
  rw [← hgq] at hg4
  rw [← hgv] at hg2
  simp only [← hgq, ← hgv, ← hgr]
  have hgw : w.heap.size ≤ gr := by omega
  have HVB2 : Hid (∀ x, V[n - 1]? = some x → 0 < x) := fun x hx => top_pos hV2 (by have := HV1.out; omega) hx (by rw [HV3.out]; exact HVB.out)
  have HVB3 := HVB
  have HVn : Hid (val B64 V < B64 ^ n) := by show _ < _; rw [HV3.out]; exact HF.out
  have HS0 : Hid (val B64 R0 < B64 ^ (k - n + 1) * val B64 V) := by show _ < _; rw [HR3.out, HV3.out]; exact HST.out
  clear hgq hgv hgr HST HVB HF hct hwrap ho2 ho4 hb1 hb2 hb3 hb4 hb5
  go_loopw [10] (fun i wr => ∃ (j : Nat) (R Q : List Nat), j ≤ k - n + 1 ∧ i = .int .i64 ((j : Int) - 1) ∧ Own .u64 34 wr gr R ∧ Own .u64 34 wr gv V ∧ Own .u64 34 wr gq (List.replicate j 0 ++ Q) ∧ Below w.heap.size w wr ∧
      Hid (R.length = k + 1 ∧ Q.length + j = k - n + 1 ∧ Lim B64 R ∧ Lim B64 Q ∧ val B64 R0 = val B64 Q * B64 ^ j * val B64 V + val B64 R ∧ val B64 R < B64 ^ j * val B64 V)) (fun i _ => (intOf i + 1).toNat)
  case atStart => exact ⟨k - n + 1, R0, [], Nat.le_refl _, by go_num, hR6, hV5, by simpa using hown5, hb6, HR1.out, by simp, hR2, Lim.nil, by simp, HS0.out⟩
  case round =>
    obtain ⟨j, R, Q, hj, rfl, hR, hV, hQ, hbw, HI⟩ := hrel
    by_cases hj0 : 0 < j
    · obtain ⟨i, rfl⟩ : ∃ i, j = i + 1 := ⟨j - 1, by omega⟩
      have HC := Lib.hid (long_cut (i := i) (n := n) HI.out.2.2.1 (by rw [HI.out.1]; omega) HVn.out HI.out.2.2.2.2.2)
      have hz : Own .u64 34 wr gr (R.take i ++ ((R.drop i).take (n + 1) ++ R.drop (i + (n + 1)))) := by
        rw [← List.drop_drop, List.take_append_drop, List.take_append_drop]; exact hR
      have HL1 : Hid ((R.take i).length = i) := by show _ = _; rw [List.length_take, HI.out.1]; omega
      have HL2 : Hid (((R.drop i).take (n + 1)).length = n + 1) := by show _ = _; rw [List.length_take, List.length_drop, HI.out.1]; omega
      have hq : Own .u64 34 wr gq (List.replicate i 0 ++ (0 :: Q)) := by
        rw [List.replicate_succ', List.append_assoc] at hQ; exact hQ
      have hlz : Hid ((List.replicate i 0).length = i) := by show _ = _; simp
      clear hR hQ
      go_wp2_with (first
        | (go_at_call 78
           refine (divideStep_any _ V (R.take i) ((R.drop i).take (n + 1)) (R.drop (i + (n + 1))) gr i n _ n (some ⟨gv, 0, none⟩) wr (by omega) hn2 hz HL1.out HL2.out
             (hV.rd HV1.out (fun j x hx => by simpa using hx)) (fun _ ad e => by cases e; exact Nat.ne_of_gt hg2) hV2 ((HI.out.2.2.1.drop _).take _) (by have := hM.out; omega) HVB2.out HC.out.1).mono ?_
           rintro e w7 ⟨rfl, ⟨P, hP1, hP2, hP3, hP4⟩, ho7⟩
           have hV7 := hV.only ho7 (Nat.ne_of_gt hg2)
           have hq7 := hq.only ho7 (Nat.ne_of_gt (Nat.lt_trans hg2 hg4))
           have hcz := hq7.cell_len hlz.out
           have hfz := Own.frozen hq7 i
           have HP1 := Lib.hid hP1
           have HP3 := Lib.hid hP3
           clear hP1 hP3))
      have hst := hq7.store_len hlz.out (val B64 ((R.drop i).take (n + 1)) / val B64 V)
      rw [List.append_assoc] at hst
      have HST := Lib.hid hst
      go_roundw
      case rel =>
        rw [← Int.natCast_ediv]
        obtain ⟨i1, i2, i3, i4, i5, i6⟩ := HI.out
        obtain ⟨c1, c2, c3⟩ := HC.out
        have hV0 : 0 < val B64 V := Nat.lt_of_lt_of_le (Nat.pow_pos (show 0 < B64 by decide)) (by rw [HV3.out]; exact HVB3.out)
        obtain ⟨s1, s2⟩ := long_step (B := B64) i5 c3 (by have := take_lt i3 (n := i) (by omega); exact this) HP3.out hV0
        have hval : val B64 (R.take i ++ (P ++ R.drop (i + (n + 1)))) = val B64 (R.take i) + B64 ^ i * val B64 P := by
          rw [val_append, val_append, c2, HL1.out, Nat.mul_zero, Nat.add_zero]
        have hUB : val B64 ((R.drop i).take (n + 1)) / val B64 V < B64 := Nat.div_lt_of_lt_mul (by rw [Nat.mul_comm]; exact c1)
        refine ⟨i, R.take i ++ (P ++ R.drop (i + (n + 1))), (val B64 ((R.drop i).take (n + 1)) / val B64 V) :: Q, by omega, by go_num, ?_, ?_, HST.out, ?_, ?_, ?_, ?_, Lim.cons hUB i4, ?_, ?_⟩
        · exact hP4.only ((Only.refl _ _).setCell _ _) (by omega)
        · exact hV7.only ((Only.refl _ _).setCell _ _) (by omega)
        · exact (Below.only hbw hgw hbw.size ho7).setCell (p := ⟨gq, i, none⟩) (by show w.heap.size ≤ gq; omega) _
        · rw [List.length_append, List.length_append, HL1.out, HP1.out, List.length_drop, i1]; try omega
        · rw [List.length_cons]; try omega
        · exact (i3.take _).append (hP2.append (i3.drop _))
        · rw [val_cons, hval]; exact s1
        · rw [hval]; exact s2
      case measure => simp [intOf]
    · obtain rfl : j = 0 := by omega
      rw [List.replicate_zero, List.nil_append] at hQ
      obtain ⟨i1, i2, i3, i4, i5, i6⟩ := HI.out
      have hRn : val B64 R < B64 ^ n := Nat.lt_of_lt_of_le i6 (by rw [Nat.pow_zero, Nat.one_mul]; exact Nat.le_of_lt HVn.out)
      have hRt : val B64 (R.take n) = val B64 R := by rw [val_take i3 n (by omega), Nat.mod_eq_of_lt hRn]
      have hfin := long_end (a := val B64 la) (b := val B64 lb) (s := s) (by rw [← HR3.out, ← HV3.out]; exact i5) (by rw [← HV3.out]; exact i6)
      rw [← hRt] at hfin
      have HFIN := Lib.hid hfin
      have hz : Own .u64 34 wr gr ([] ++ (R.take n ++ R.drop n)) := by rw [List.take_append_drop]; exact hR
      have HL : Hid ((R.take n).length = n) := by show _ = _; rw [List.length_take]; omega
      have hah : Ahead wr gr [] (R.take n) (R.drop n) (some ⟨gr, 0, none⟩) n (R.take n) := by
        have := Ahead.same (w := wr) (g := gr) (pre := []) (seg := R.take n) (post := R.drop n)
        rw [HL.out] at this
        exact this
      have HRD : Hid ((R.drop n).length + n = k + 1) := by show _ = _; rw [List.length_drop]; omega
      have HLM : Hid (k - n + 1 ≤ maxLen) := by have := hM.out; show _ ≤ _; omega
      have HQ : Hid (Q.length = k - n + 1) := by show _ = _; omega
      clear hfin hRn hRt i5 i6 hR
      go_wp2_with (first
        | (go_at_call 79
           refine (shiftDown_any (R.take n) [] (R.take n) (R.drop n) s gr 0 n (k + 1) n (k + 1) (some ⟨gr, 0, none⟩) wr hz rfl HL.out hah (i3.take _) hs64 rfl hM.out.2.1).mono ?_
           rintro e w7 ⟨rfl, ⟨P, hP1, hP2, hP3, hP4⟩, ho7⟩
           have hq7 := hQ.only ho7 (Nat.ne_of_gt (Nat.lt_trans hg2 hg4))
           rw [List.nil_append] at hP4
           have hrP : Rd .u64 w7 (some ⟨gr, 0, none⟩) n P := hP4.rd hP1 (fun j x hx => by rw [Nat.zero_add]; exact (List.getElem?_append_left (List.getElem?_eq_some_iff.1 hx).1).trans hx)
           have HP1 := Lib.hid hP1
           have HP3 := Lib.hid hP3
           clear hP1 hP3)
        | (go_at_call 43; (with_reducible refine (trim_own Q gq _ w.heap.size w7 hq7 (by omega) HQ.out i4 HLM.out).mono ?_); rintro e w' ⟨⟨k3, hk3, rfl, hfr⟩, rfl⟩)
        | (go_at_call 43; (with_reducible refine (trim_any P (some ⟨gr, 0, none⟩) n (k + 1) w7 hrP hP2 hM.out.2.1 (by omega)).mono ?_); rintro e w' ⟨⟨k4, hk4, rfl, hrd⟩, rfl⟩))
      go_ret2
      obtain ⟨f1, f2⟩ := HFIN.out
      rw [f1] at hfr
      rw [HP3.out, f2] at hrd
      have hl := hrd.1
      have hlim : limbs B64 (val B64 P) = limbs B64 (val B64 la % val B64 lb) := by rw [HP3.out, f2]
      have ht := limbs_take B64_two hP2
      rw [hlim, hl] at ht
      have hfr2 := Fr.of_own hP4 (B := w.heap.size) (k := k4) (by omega) (by rw [List.length_append, HP1.out]; omega) (by rw [List.length_append, HP1.out]; have := HRD.out; have := hM.out; omega)
      rw [List.take_append_of_le_length (by rw [HP1.out]; exact hk4), ht, List.length_append, HP1.out, show n + (R.drop n).length = k + 1 by have := HRD.out; omega] at hfr2
      have hbe : Below w.heap.size w w7 := Below.only hbw hgw hbw.size ho7
      exact ⟨_, _, _, _, _, _, rfl, hk3, HLM.out, by omega, hM.out.1, hfr, hfr2, hbe⟩
end Go.Proofs.Ythdpllhpdjhogaa
