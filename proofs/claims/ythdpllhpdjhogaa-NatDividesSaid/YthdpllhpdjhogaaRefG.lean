/- reference: short. -/
import Derived.Test.YthdpllhpdjhogaaRefF
import Derived.Test.YthdpllhpdjhogaaGcdK
namespace Go.Proofs.Ythdpllhpdjhogaa
open Go.RowKit

/-- The call tells a quotient and a rest, as limbs of 32 bits. -/
def GivesTwo (w : World) (Q R : Nat) (e : Ending) (w' : World) : Prop :=
  ∃ A n c A' n' c', e = .returned (.agg #[.slice A n c, .slice A' n' c']) ∧ n ≤ c ∧ n' ≤ c' ∧ Rd .u32 w' A n (limbs B32 Q) ∧ Rd .u32 w' A' n' (limbs B32 R) ∧ Below w.heap.size w w'

/-- .. both in memory of the call's own. -/
def GivesTwoF (w : World) (Q R : Nat) (e : Ending) (w' : World) : Prop :=
  ∃ A n c A' n' c', e = .returned (.agg #[.slice A n c, .slice A' n' c']) ∧ n ≤ c ∧ n' ≤ c' ∧ Rd .u32 w' A n (limbs B32 Q) ∧ Rd .u32 w' A' n' (limbs B32 R) ∧ Below w.heap.size w w' ∧ (∀ ad, A = some ad → w.heap.size ≤ ad.block) ∧ (∀ ad, A' = some ad → w.heap.size ≤ ad.block)
theorem or32 {r x : Nat} (hr : r < B32) (hx : x < B32) : bits .or .u64 (IntKind.u64.wrap ((r : Int) * 4294967296)) (x : Int) = ((r * B32 + x : Nat) : Int) := by
  have h := or_up (s := 32) (by omega) r (y := x) hx
  have e : r * 2 ^ 32 % B64 = r * B32 := Nat.mod_eq_of_lt (by
    have : r * 4294967296 < 4294967296 * 4294967296 := Nat.mul_lt_mul_of_pos_right hr (by omega)
    exact this)
  rw [e] at h
  exact h
theorem or32' {r x : Nat} (hr : r < B32) (hx : x < B32) : bits .or .u64 ((r : Int) * 4294967296) (IntKind.u64.wrap (x : Int)) = ((r * B32 + x : Nat) : Int) := by
  have h := or32 hr hx
  have e : r * 4294967296 < 4294967296 * 4294967296 := Nat.mul_lt_mul_of_pos_right hr (by omega)
  have e2 : x < 4294967296 := hx
  rw [show IntKind.u64.wrap ((r : Int) * 4294967296) = (r : Int) * 4294967296 by rw [IntKind.wrap_u64]; omega] at h
  rw [show IntKind.u64.wrap (x : Int) = (x : Int) by rw [IntKind.wrap_u64]; omega]
  exact h
theorem e_div32 {v b : Nat} (h : v / b < B32) : IntKind.u64.wrap ((v : Int) / (b : Int)) % 4294967296 = ((v / b : Nat) : Int) := by
  have h2 : v / b < 4294967296 := h
  rw [← Int.natCast_ediv, IntKind.wrap_u64]
  generalize v / b = q at *
  omega
theorem short_step {D q r x b : Nat} (h1 : q = D / b) (h2 : r = D % b) (hb : 0 < b) : (r * B32 + x) / b + B32 * q = (x + B32 * D) / b ∧ (r * B32 + x) % b = (x + B32 * D) % b := by
  have e : x + B32 * D = b * (B32 * q) + (r * B32 + x) := by
    have := Nat.div_add_mod D b
    rw [← h1, ← h2] at this
    rw [← this]
    generalize B32 = B
    grind
  rw [e, Nat.mul_add_div hb, Nat.mul_add_mod]
  exact ⟨Nat.add_comm _ _, rfl⟩
theorem short_fit {r x b : Nat} (hr : r < b) (hx : x < B32) : (r * B32 + x) / b < B32 := by
  refine Nat.div_lt_of_lt_mul ?_
  have := Nat.mul_le_mul_right B32 (show r + 1 ≤ b from hr)
  rw [Nat.succ_mul] at this
  omega

theorem Fr.base9 {K : IntKind} {e : TypeId} {w : World} {B n c : Nat} {A : Option Addr} {l : List Nat} (h : Fr K e w B A n c l) : ∀ ad, A = some ad → B ≤ ad.block := by
  intro ad hA
  rcases h.2.2 with ⟨h2, _⟩ | ⟨g, cap, cur, hv, hg, r⟩
  · subst hA; cases h2
  · subst hA
    injection hv with ha
    injection ha with ha
    subst ha
    exact hg
set_option maxRecDepth 100000 in
set_option maxHeartbeats 1000000 in
theorem rof_any (v : Nat) (hv : v < B64) (w : World) : Calls Try.prog 37 #[.int .u64 (v : Int)] w (GivesS .u32 62 w (limbs B32 v)) := by
  go_enter Try.func37, Try.ntmps37
  go_wp2_with (go_at_call 11; (refine (rin_any [v] _ 1 1 _ (lit2_rd (K := .u64) (e := 34) w [v] 1 rfl) (Lim.cons hv Lim.nil) (by omega)).mono ?_); rintro e w1 ⟨A1, n1, c1, rfl, p1, p2, p3, p4⟩)
  go_ret
  have hs : (w.alloc (.cells (nums .u64 [v]).toArray 34)).heap.size = w.heap.size + 1 := by simp
  refine ⟨A1, n1, c1, rfl, p1, p2, ?_, ((Below.refl _ _).alloc (Nat.le_refl _) _).trans (p4.mono (by rw [hs]; omega))⟩
  have := p3.more (B' := w.heap.size) (by rw [hs]; omega)
  simpa using this

set_option maxRecDepth 100000 in
set_option maxHeartbeats 1000000 in
theorem short_any (V b : Nat) (A : Option Addr) (n c : Nat) (w : World) (ha : Rd .u32 w A n (limbs B32 V)) (hn0 : n ≤ 1000000) (hb : 0 < b) (hbB : b < B32) :
    Calls Try.prog 53 #[.slice A n c, .int .u32 (b : Int)] w (GivesTwoF w (V / b) (V % b)) := by
  have hn1 : n ≤ 2 ^ 45 := by omega
  have HL := Lib.hid ha.1
  have La := lim_limbs B32_two V
  go_enter Try.func53, Try.ntmps53
  go_wp2_with (at_make; refine wpList_make32 _ rfl (.tmp 10) (.tmp 10) rfl .i64 .i64 _ _ n rfl rfl (by omega) (by omega) (by omega) ?_; intro w1 hown1 hb1)
  have hs1 : (w.alloc (.cells #[.slice none 0 0, .slice none 0 0] 42)).heap.size = w.heap.size + 1 := by simp
  have hb2 : Below w.heap.size w w1 := ((Below.refl _ _).alloc (Nat.le_refl _) _).trans (hb1.mono (by rw [hs1]; omega))
  have hv1 : Vow 42 w1 w.heap.size [.slice none 0 0, .slice none 0 0] := (hb1.block w.heap.size (by rw [hs1]; omega)).trans (heap_alloc_new w _)
  rw [hs1] at hown1
  have HB := Lib.hid hb
  have hbI : ((b : Int) == 0) = false := by simp; omega
  have hbi : b ≤ 4294967295 := by have : B32 = 4294967296 := rfl; omega
  clear hb1
  go_loopw [6, 7] (fun tr ti wr => ∃ (j : Nat) (Q : List Nat) (r : Nat), j ≤ n ∧ ti = .int .i64 ((j : Int) - 1) ∧ tr = .int .u64 (r : Int) ∧ r < b ∧ Own .u32 62 wr (w.heap.size + 1) (List.replicate j 0 ++ Q) ∧ Vow 42 wr w.heap.size [.slice none 0 0, .slice none 0 0] ∧ Below w.heap.size w wr ∧
      Hid (Q.length + j = n ∧ Lim B32 Q ∧ val B32 Q = val B32 ((limbs B32 V).drop j) / b ∧ r = val B32 ((limbs B32 V).drop j) % b)) (fun _ ti _ => (intOf ti + 1).toNat)
  case atStart =>
    refine ⟨n, [], 0, Nat.le_refl _, by go_num, rfl, hb, by simpa using hown1, hv1, hb2, by simp, Lim.nil, ?_, ?_⟩
    · rw [List.drop_of_length_le (by have := HL.out; omega)]; simp
    · rw [List.drop_of_length_le (by have := HL.out; omega)]; simp
  case round =>
    obtain ⟨j, Q, r, hj, rfl, rfl, hr, hQ, hV, hbw, HI⟩ := hrel
    by_cases hj0 : 0 < j
    · obtain ⟨i, rfl⟩ : ∃ i, j = i + 1 := ⟨j - 1, by omega⟩
      have h' := ha.below hbw
      obtain ⟨b0, o, rfl, hc⟩ := h'.at_ (by omega)
      obtain ⟨x, hx, hcx⟩ := hc i (by omega)
      have hxB := La.get hx
      have hq : Own .u32 62 wr (w.heap.size + 1) (List.replicate i 0 ++ (0 :: Q)) := by
        rw [List.replicate_succ', List.append_assoc] at hQ; exact hQ
      have hlz : (List.replicate i 0).length = i := by simp
      have hcz := hq.cell_len hlz
      have hfz := Own.frozen hq i
      have hor := or32' (show r < B32 by omega) hxB
      obtain ⟨v, hv⟩ : ∃ v, v = r * B32 + x := ⟨_, rfl⟩
      rw [← hv] at hor
      have hvB : v < B64 := by
        have h1 : (r + 1) * B32 ≤ B32 * B32 := Nat.mul_le_mul_right _ (by omega)
        rw [Nat.succ_mul] at h1
        have h2 : B32 * B32 = B64 := by decide
        omega
      have hqf : v / b < B32 := by rw [hv]; exact short_fit hr hxB
      have hst := hq.store_len hlz (v / b)
      rw [List.append_assoc] at hst
      have HST := Lib.hid hst
      have HX := Lib.hid hx
      have HV := Lib.hid hv
      have HQ := Lib.hid hq
      clear hst hx hc hq hlz hQ hv
      go_wp2_with fail
      go_roundw
      case rel => 
        obtain ⟨i1, i2, i3, i4⟩ := HI.out
        obtain ⟨s1, s2⟩ := short_step (x := x) i3 i4 hb
        have hd : val B32 ((limbs B32 V).drop i) = x + B32 * val B32 ((limbs B32 V).drop (i + 1)) := by
          have hk := (List.getElem?_eq_some_iff.1 HX.out).1
          rw [List.drop_eq_getElem_cons hk, (List.getElem?_eq_some_iff.1 HX.out).2, val_cons]
        rw [e_div32 hqf, e_mod]
        refine ⟨i, (v / b) :: Q, v % b, by omega, by go_num, rfl, Nat.mod_lt _ hb, HST.out, hV.other (by omega) _, hbw.setCell (p := ⟨w.heap.size + 1, i, none⟩) (by show w.heap.size ≤ w.heap.size + 1; omega) _, ?_, Lim.cons hqf i2, ?_, ?_⟩
        · rw [List.length_cons]; omega
        · rw [val_cons, hd, HV.out]; exact s1
        · rw [hd, HV.out]; exact s2
      case measure => simp [intOf]
    · obtain rfl : j = 0 := by omega
      rw [List.replicate_zero, List.nil_append] at hQ
      obtain ⟨i1, i2, i3, i4⟩ := HI.out
      rw [List.drop_zero, val_limbs B32_two] at i3 i4
      have v0 := hV.cell (i := 0) rfl
      have v1 := hV.cell (i := 1) rfl
      have f0 := hV.frozen 0
      have f1 := hV.frozen 1
      have HE := Lib.hid (And.intro i1 (And.intro i3 i4))
      clear i1 i3 i4
      go_wp2_with (first
        | (go_at_call 42; (refine (rtrim_any Q _ n n wr (hQ.rd (by have := HE.out; omega) (fun j x hx => by simpa using hx)) i2 (by unfold maxLen; omega) (Nat.le_refl _)).mono ?_); rintro e w' ⟨⟨k, hk, rfl, hkt, hkr⟩, rfl⟩)
        | (go_at_call 37; (refine (rof_any r (by have : B64 = 18446744073709551616 := rfl; omega) wr).mono ?_); rintro e w9 ⟨A9, n9, c9, rfl, p1, p2, p3, p4⟩
           have hV9 := hV.below p4
           have v0 := hV9.cell (i := 0) rfl
           have v1 := hV9.cell (i := 1) rfl
           have f0 := hV9.frozen 0
           have f1 := hV9.frozen 1))
      have hV10 := (hV9.set_ 0 (.slice (some ⟨w.heap.size + 1, 0, none⟩) k n)).set_ 1 (.slice A9 n9 c9)
      have z0 := hV10.cell (i := 0) rfl
      have z1 := hV10.cell (i := 1) rfl
      refine bodyPost_ret (v := .agg #[.slice (some ⟨w.heap.size + 1, 0, none⟩) k n, .slice A9 n9 c9]) (by simp [results, Try.results53, go_sem, z0, z1]) rfl ?_
      obtain ⟨i1, i3, i4⟩ := HE.out
      rw [i3] at hkr
      rw [i4] at p3
      have hbz : Below w.heap.size w w9 := hbw.trans (p4.mono hbw.size)
      have keep : ∀ {A : Option Addr} {m : Nat} {l : List Nat}, Rd .u32 w9 A m l → (0 < m → ∀ ad, A = some ad → ad.block ≠ w.heap.size) → Rd .u32 ((w9.setCell ⟨w.heap.size, 0, none⟩ (.slice (some ⟨w.heap.size + 1, 0, none⟩) k n)).setCell ⟨w.heap.size, 1, none⟩ (.slice A9 n9 c9)) A m l :=
        fun h ho => h.only (g := w.heap.size) (fun hm ad e => ho hm ad e) (((Only.refl w.heap.size w9).setCell 0 _).setCell 1 _)
      refine ⟨_, _, _, _, _, _, rfl, hk, p1, keep (hkr.below p4) (fun _ ad e => by cases e; show w.heap.size + 1 ≠ w.heap.size; omega), keep p3.rd (fun hm ad e => ?_), (hbz.setCell (Nat.le_refl _) _).setCell (Nat.le_refl _) _, fun ad e => by cases e; show w.heap.size ≤ w.heap.size + 1; omega, fun ad e => ?_⟩
      · have h1 := p3.base9 ad e
        have h2 := hV.lt
        omega
      · have h1 := p3.base9 ad e
        have h2 := hV.lt
        omega
end Go.Proofs.Ythdpllhpdjhogaa
