/- reference: Bits, Shl, Shr. reference: Sqrt. -/
import Derived.Test.YtmcijgnbdnpanaaGreatRefJ
import Derived.Test.YtmcijgnbdnpanaaGreatSums
namespace Go.Proofs.YtmcijgnbdnpanaaGreat
open Go.RowKit

theorem bl_half {v : Nat} (h : v ≠ 0) : bl v = bl (v / 2) + 1 := by
  rw [bl, limbs_pos (Nat.le_refl 2) h, List.length_cons]; rfl
/-- The bits of a number by those of its highest limb, of 32 bits. -/
theorem bl_top32 {V k x : Nat} (hl : (limbs B32 V).length = k + 1) (hx : (limbs B32 V)[k]? = some x) : bl V = 32 * k + bl x := by
  have hL := lim_limbs B32_two V
  have hxB := hL.get hx
  have hx0 : x ≠ 0 := by
    intro e
    apply limbs_last B32_two V
    rw [List.getLast?_eq_getElem?, hl, show k + 1 - 1 = k by omega, hx, e]
  have e1 := val_take_drop (B := B32) (limbs B32 V) k (by omega)
  have hk : k < (limbs B32 V).length := by omega
  rw [List.drop_eq_getElem_cons hk, List.drop_of_length_le (by omega), (List.getElem?_eq_some_iff.1 hx).2, val_limbs B32_two] at e1
  have e2 := val_lt (hL.take k)
  rw [List.length_take, Nat.min_eq_left (by omega)] at e2
  simp only [val_cons, val_nil, Nat.mul_zero, Nat.add_zero] at e1
  have h1 := lt_bl x
  have h2 := le_of_bl (n := x) (k := bl x - 1) (by have := bl_pos hx0; omega)
  have hb := bl_pos hx0
  have hp : B32 ^ k = 2 ^ (32 * k) := by rw [Nat.pow_mul]; rfl
  have := bl_eq (n := V) (k := 32 * k + bl x - 1) ?_ ?_
  · rw [this]; omega
  · rw [e1, show 32 * k + bl x - 1 = 32 * k + (bl x - 1) by omega, Nat.pow_add, hp]
    exact Nat.le_trans (Nat.mul_le_mul_left _ h2) (Nat.le_add_left _ _)
  · rw [show 32 * k + bl x - 1 + 1 = 32 * k + bl x by omega, Nat.pow_add, e1, ← hp]
    have h3 := Nat.mul_le_mul_left (B32 ^ k) h1
    rw [Nat.mul_succ] at h3
    omega
theorem div2_u32 {v : Nat} (h : v < B32) : IntKind.u32.wrap ((v : Int) / 2) = ((v / 2 : Nat) : Int) := by
  have h2 : v < 4294967296 := h
  rw [show ((v : Int) / 2) = ((v / 2 : Nat) : Int) by simp]
  rw [show IntKind.u32.wrap ((v / 2 : Nat) : Int) = ((v / 2 : Nat) : Int) % 4294967296 by rfl]
  omega

set_option maxRecDepth 100000 in
set_option maxHeartbeats 1000000 in
theorem rbits_any (V : Nat) (A : Option Addr) (n c : Nat) (w : World) (ha : Rd .u32 w A n (limbs B32 V)) (hn0 : n ≤ 1000000) :
    Calls Tryz.prog 157 #[.slice A n c] w fun e w' => e = .returned (.int .i64 (bl V : Nat)) ∧ Below w.heap.size w w' := by
  by_cases h0 : n = 0
  · subst h0
    have hV : V = 0 := (limbs_eq_nil B32_two).1 (List.eq_nil_of_length_eq_zero ha.1)
    have HV := Lib.hid hV
    clear hV ha
    go_enter Tryz.func157, Tryz.ntmps157
    go_wp2_with fail
    go_ret
    exact ⟨ret_int (by rw [HV.out, bl_zero]; rfl), Below.refl _ _⟩
  obtain ⟨k, rfl⟩ : ∃ k, n = k + 1 := ⟨n - 1, by omega⟩
  obtain ⟨b, o, rfl, hc⟩ := ha.at_ (by omega)
  obtain ⟨x, hx, hcx⟩ := hc k (by omega)
  have hxB := (lim_limbs B32_two V).get hx
  have HB := Lib.hid (bl_top32 ha.1 hx)
  have hkz : (((k + 1 : Nat) : Int) == 0) = false := by simp; omega
  have hk1 : ((k + 1 : Nat) : Int) - 1 = (k : Int) := by omega
  have hbx : bl x ≤ 32 := bl_le hxB
  have HX := Lib.hid hxB
  clear hc hx ha hxB
  go_enter Tryz.func157, Tryz.ntmps157
  go_wp2_with fail
  go_loopw [3, 4] (fun tn tv wr => ∃ (v m : Nat), tv = .int .u32 (v : Int) ∧ tn = .int .i64 (m : Int) ∧ wr = w ∧ Hid (v < B32 ∧ m + bl v = 32 * k + bl x)) (fun _ tv _ => (intOf tv).toNat)
  case atStart => exact ⟨x, 32 * k, rfl, by go_num, rfl, HX.out, rfl⟩
  case round =>
    obtain ⟨v, m, rfl, rfl, rfl, HI⟩ := hrel
    have hm : m ≤ 40000000 := by have := HI.out.2; omega
    by_cases hv : 0 < v
    · have hd := Lib.hid (div2_u32 HI.out.1)
      have hvi : (0 : Int) < (v : Int) := by omega
      go_wp2_with fail
      go_roundw
      case rel =>
        refine ⟨v / 2, m + 1, ?_, by go_num, trivial, ?_, ?_⟩
        · congr 1
        · have := HI.out.1; omega
        · have h1 := HI.out.2
          rw [bl_half (show v ≠ 0 by omega)] at h1
          omega
      case measure => 
        simp only [intOf]
        first | (rw [hd.out]; omega) | omega
    · obtain rfl : v = 0 := by omega
      have HE := Lib.hid HI.out.2
      go_wp2_with fail
      go_ret
      exact ⟨ret_int (by have := HE.out; rw [bl_zero] at this; rw [HB.out]; omega), Below.refl _ _⟩
theorem rshl_step {q j x cc v lo hi e s : Nat} {S L : List Nat} (hS : S.length = q + j) (hx : L[j]? = some x) (hv : v = x * 2 ^ s) (hlo : lo = v % B32) (hhi : hi = v / B32) (he : e = cc + lo)
    (h : val B32 S + B32 ^ (q + j) * cc = B32 ^ q * (val B32 (L.take j) * 2 ^ s)) : val B32 (S ++ [e]) + B32 ^ (q + (j + 1)) * hi = B32 ^ q * (val B32 (L.take (j + 1)) * 2 ^ s) := by
  have hvv : lo + B32 * hi = x * 2 ^ s := by rw [hlo, hhi, ← hv]; exact Nat.mod_add_div v B32
  rw [val_take_succ hx, val_append, hS, val_cons, val_nil, Nat.mul_zero, Nat.add_zero, he]
  generalize B32 = B at *
  have e1 : B ^ (q + (j + 1)) = B ^ (q + j) * B := by rw [← Nat.add_assoc, Nat.pow_succ]
  rw [e1, Nat.add_mul, Nat.mul_add, Nat.mul_add, ← h, Nat.mul_assoc (B ^ j), ← hvv]
  have e2 : B ^ (q + j) = B ^ q * B ^ j := Nat.pow_add _ _ _
  rw [e2]
  grind

theorem rshl_facts {s x cc v lo hi e : Nat} (hs : s < 32) (hx : x < B32) (hc : cc < 2 ^ s) (hv : v = x * 2 ^ s) (hlo : lo = v % B32) (hhi : hi = v / B32) (he : e = cc + lo) :
    IntKind.u64.wrap (x : Int) = (x : Int) ∧ IntKind.u64.wrap ((x : Int) * 2 ^ s) = (v : Int) ∧ (v : Int) % 4294967296 = (lo : Int) ∧ bits .or .u32 (cc : Int) (lo : Int) = (e : Int) ∧ (v : Int) / 4294967296 = (hi : Int) ∧ (hi : Int) % 4294967296 = (hi : Int) ∧ bits .or .u32 0 (hi : Int) = (hi : Int) ∧ hi < 2 ^ s ∧ e < B32 := by
  have p1 : 2 ^ s * 2 ^ (32 - s) = B32 := by rw [← Nat.pow_add, show s + (32 - s) = 32 by omega]; rfl
  have ps : 2 ^ s ≤ 2147483648 := Nat.pow_le_pow_right (n := 2) (by omega) (show s ≤ 31 by omega)
  have pp : 0 < 2 ^ s := Nat.two_pow_pos _
  have hx2 : x < 4294967296 := hx
  have e32 : B32 = 4294967296 := rfl
  have e64 : B64 = 18446744073709551616 := rfl
  have hvB : v < B32 * 2 ^ s := by rw [hv]; exact Nat.mul_lt_mul_of_pos_right hx pp
  have hv64 : v < 18446744073709551616 := by
    have := Nat.mul_le_mul_left B32 ps
    omega
  have hlo2 : lo = 2 ^ s * (x % 2 ^ (32 - s)) := by
    rw [hlo, hv, ← p1, Nat.mul_comm x, Nat.mul_mod_mul_left]
  have hy : x % 2 ^ (32 - s) + 1 ≤ 2 ^ (32 - s) := Nat.mod_lt _ (Nat.two_pow_pos _)
  have hlt : lo + 2 ^ s ≤ B32 := by
    rw [hlo2, ← p1, ← Nat.mul_succ]
    exact Nat.mul_le_mul_left _ hy
  have hhi2 : hi < 2 ^ s := by rw [hhi]; exact Nat.div_lt_of_lt_mul hvB
  have hhi3 : hi = v / 4294967296 := hhi
  have hlo3 : lo = v % 4294967296 := hlo
  have hcast : (x : Int) * 2 ^ s = (v : Int) := by rw [hv]; simp
  refine ⟨?_, ?_, ?_, ?_, ?_, ?_, ?_, hhi2, ?_⟩
  · rw [IntKind.wrap_u64]; omega
  · rw [hcast, IntKind.wrap_u64]; omega
  · omega
  · rw [u32_or_nat _ _ (by omega) (by omega), Nat.or_comm, hlo2, or_low _ _ hc, he, hlo2, Nat.add_comm]
  · omega
  · omega
  · have := u32_or_nat 0 hi (by omega) (by omega)
    rw [Nat.zero_or] at this
    exact this
  · omega

set_option maxRecDepth 100000 in
set_option maxHeartbeats 1000000 in
theorem rshl_any (V k : Nat) (A : Option Addr) (n c : Nat) (w : World) (ha : Rd .u32 w A n (limbs B32 V)) (hn0 : n ≤ 1000000) (hk : k ≤ 1000000) :
    Calls Tryz.prog 119 #[.slice A n c, .int .i64 (k : Int)] w (GivesS .u32 133 w (limbs B32 (V * 2 ^ k))) := by
  obtain ⟨q, hq⟩ : ∃ q, q = k / 32 := ⟨_, rfl⟩
  obtain ⟨s, hs⟩ : ∃ s, s = k % 32 := ⟨_, rfl⟩
  have hqI : (k : Int) / 32 = (q : Int) := by omega
  have hsI : (k : Int) % 32 = (s : Int) := by omega
  have hs32 : s < 32 := by omega
  have HK : Hid (k = 32 * q + s) := by show _ = _; omega
  have hqb : q ≤ 40000 := by omega
  have HL := Lib.hid ha.1
  have La := lim_limbs B32_two V
  clear hq hs
  go_enter Tryz.func119, Tryz.ntmps119
  go_wp2_with (at_make; refine wpList_make32 _ rfl (.tmp 14) (.tmp 14) rfl .i64 .i64 _ _ (q + n + 1) rfl rfl (by omega) (by omega) (by omega) ?_; intro w1 hown1 hb1)
  go_loopw [7] (fun ti wr => ∃ (j cc : Nat) (S : List Nat), j ≤ n ∧ ti = .int .i64 (j : Int) ∧ Hid (S.length = q + j) ∧ Own .u32 133 wr w.heap.size (S ++ cc :: List.replicate (n - j) 0) ∧ Below w.heap.size w wr ∧
      Hid (Lim B32 S ∧ cc < 2 ^ s ∧ val B32 S + B32 ^ (q + j) * cc = B32 ^ q * (val B32 ((limbs B32 V).take j) * 2 ^ s))) (fun ti _ => n - (intOf ti).toNat)
  case atStart =>
    refine ⟨0, 0, List.replicate q 0, Nat.zero_le _, rfl, by show _ = _; simp, ?_, hb1, Lim.zeros _ (by decide), Nat.two_pow_pos _, by rw [val_zeros]; simp⟩
    rw [Nat.add_assoc, ← List.replicate_append_replicate, List.replicate_succ] at hown1
    exact hown1
  case round =>
    obtain ⟨j, cc, S, hj, rfl, HS, hown, hbw, HV⟩ := hrel
    by_cases hlt : j < n
    · obtain ⟨m, hm⟩ : ∃ m, n - j = m + 1 := ⟨n - j - 1, by omega⟩
      rw [hm, List.replicate_succ] at hown
      obtain ⟨b, o, rfl, hc⟩ := (ha.below hbw).at_ (by omega)
      obtain ⟨x, hx, hcx⟩ := hc j hlt
      have hxB := La.get hx
      have hc1 := hown.cell_len HS.out
      have hfz := Own.frozen hown (q + j)
      obtain ⟨v, hv⟩ : ∃ v, v = x * 2 ^ s := ⟨_, rfl⟩
      obtain ⟨lo, hlo⟩ : ∃ lo, lo = v % B32 := ⟨_, rfl⟩
      obtain ⟨hi, hhi⟩ : ∃ hi, hi = v / B32 := ⟨_, rfl⟩
      obtain ⟨e, he⟩ : ∃ e, e = cc + lo := ⟨_, rfl⟩
      obtain ⟨f0, f1, f2, f3, f4, f5, f6, f7, f8⟩ := rshl_facts hs32 hxB HV.out.2.1 hv hlo hhi he
      have hst := hown.store_len HS.out e
      have hQ : (S ++ [e]).length = q + j + 1 := by rw [List.length_append, HS.out]; rfl
      have hc2 := hst.cell_len hQ
      have hf2 := Own.frozen hst (q + j + 1)
      have HX := Lib.hid hx
      have HQ := Lib.hid hQ
      have HO := Lib.hid hst
      have HF := Lib.hid (And.intro f7 (And.intro f8 (And.intro hv (And.intro hlo (And.intro hhi he)))))
      have hji : (j : Int) < (n : Int) := by omega
      clear hx hQ hst hown hc f7 f8 hv hlo hhi he hxB
      go_wp2_with fail
      go_roundw
      case rel =>
        obtain ⟨g1, g2, g3, g4, g5, g6⟩ := HF.out
        obtain ⟨i1, i2, i3⟩ := HV.out
        refine ⟨j + 1, hi, S ++ [e], by omega, by go_num, ?_, ?_, (hbw.setCell (Nat.le_refl _) _).setCell (Nat.le_refl _) _, i1.append (Lim.cons g2 Lim.nil), g1, ?_⟩
        · show _ = _; rw [HQ.out]; omega
        · have := (HO.out.store_len HQ.out hi)
          rw [show n - (j + 1) = m by omega]
          simpa using this
        · exact rshl_step HS.out HX.out g3 g4 g5 g6 i3
      case measure => simp [intOf]; omega
    · obtain rfl : j = n := by omega
      rw [Nat.sub_self, List.replicate_zero] at hown
      obtain ⟨i1, i2, i3⟩ := HV.out
      rw [List.take_of_length_le (by have := HL.out; omega), val_limbs B32_two] at i3
      have ps : 2 ^ s ≤ 2147483648 := Nat.pow_le_pow_right (n := 2) (by omega) (show s ≤ 31 by omega)
      have hlen : (S ++ [cc]).length = q + j + 1 := by rw [List.length_append, HS.out]; rfl
      have hlim : Lim B32 (S ++ [cc]) := i1.append (Lim.cons (by have e32 : B32 = 4294967296 := rfl; omega) Lim.nil)
      have hval : val B32 (S ++ [cc]) = V * 2 ^ k := by
        rw [val_append, HS.out, val_cons, val_nil, Nat.mul_zero, Nat.add_zero, i3, HK.out, Nat.pow_add, Nat.pow_mul]
        show 4294967296 ^ q * (V * 2 ^ s) = V * (4294967296 ^ q * 2 ^ s)
        rw [Nat.mul_left_comm]
      have HLL := Lib.hid hlen
      have HVAL := Lib.hid hval
      have hmx : q + j + 1 ≤ maxLen := by unfold maxLen; omega
      have HMX := Lib.hid hmx
      clear hlen hval i3 i2 i1 ps hmx
      go_wp2_with (go_at_call 125; refine (rtrim_any (S ++ [cc]) _ (q + j + 1) (q + j + 1) wr (hown.rd HLL.out (fun i x hx => by rw [Nat.zero_add]; exact hx)) hlim HMX.out (Nat.le_refl _)).mono ?_; rintro e w' ⟨⟨p, hp, rfl, hj2, hj3⟩, rfl⟩)
      go_ret
      have hfr := Fr.of_own hown (B := w.heap.size) (Nat.le_refl _) (k := p) (by rw [HLL.out]; exact hp) (by rw [HLL.out]; exact HMX.out)
      rw [← hj2, HVAL.out, HLL.out] at hfr
      exact ⟨_, _, _, rfl, hp, HMX.out, hfr, hbw⟩

theorem rshr_limb {s x y T2 B : Nat} (hs : s < 32) (hB : B = 2 ^ 32) : (x + B * (y + B * T2)) / 2 ^ s % B = (x + B * y) / 2 ^ s % B := by
  have hp : B = 2 ^ s * 2 ^ (32 - s) := by rw [hB, ← Nat.pow_add, show s + (32 - s) = 32 by omega]
  have e : x + B * (y + B * T2) = (x + B * y) + 2 ^ s * (2 ^ (32 - s) * T2 * B) := by
    have : B * (B * T2) = 2 ^ s * (2 ^ (32 - s) * T2 * B) := by
      rw [Nat.mul_comm B (B * T2), Nat.mul_assoc B T2, Nat.mul_comm T2 B]
      conv => lhs; arg 1; rw [hp]
      rw [Nat.mul_assoc, Nat.mul_comm B T2, Nat.mul_assoc]
    rw [Nat.mul_add, this, Nat.add_assoc]
  rw [e, Nat.add_mul_div_left _ _ (Nat.two_pow_pos s), Nat.add_mul_mod_self_right]
theorem rshr_next {X B j e : Nat} (he : e = X / B ^ j % B) : X % B ^ j + B ^ j * e = X % B ^ (j + 1) := by
  rw [he, Nat.mod_pow_succ]
theorem rshr_facts {s x y t e : Nat} (_hs : s < 32) (hx : x < B32) (hy : y < B32) (ht : t = x + B32 * y) (he : e = t / 2 ^ s % B32) :
    IntKind.u64.wrap (x : Int) = (x : Int) ∧ IntKind.u64.wrap (y : Int) = (y : Int) ∧ IntKind.u64.wrap ((y : Int) * 4294967296) = (y : Int) * 4294967296 ∧ bits .or .u64 (x : Int) ((y : Int) * 4294967296) = (t : Int) ∧ ((t : Int) / 2 ^ s) % 4294967296 = (e : Int) ∧ e < B32 := by
  have hx2 : x < 4294967296 := hx
  have hy2 : y < 4294967296 := hy
  have ht2 : t = x + 4294967296 * y := ht
  have he2 : e = t / 2 ^ s % 4294967296 := he
  refine ⟨?_, ?_, ?_, ?_, ?_, ?_⟩
  · rw [IntKind.wrap_u64]; omega
  · rw [IntKind.wrap_u64]; omega
  · rw [IntKind.wrap_u64]; omega
  · have h := u64_or_nat x (y * 4294967296) (by omega) (by omega)
    have h2 := or_low (s := 32) y x hx2
    rw [Nat.or_comm] at h2
    rw [show (y : Int) * 4294967296 = ((y * 4294967296 : Nat) : Int) by omega, h, Nat.mul_comm y, h2]
    omega
  · rw [shr_nat, he2]; omega
  · rw [he]; exact Nat.mod_lt _ (by decide)

end Go.Proofs.YtmcijgnbdnpanaaGreat
namespace Go.Proofs.YtmcijgnbdnpanaaGreat
open Go.RowKit

theorem rshl_rn (h j : Nat) {w : World} {A : Option Addr} {n c V k : Nat} (X : RN w A n c V k) (hk : k ≤ 1000000) (hh : h ≤ 1000000) (hj : V * 2 ^ h < B32 ^ j) :
    Calls Tryz.prog 119 #[.slice A n c, .int .i64 (h : Int)] w (GivesR w (V * 2 ^ h) j) :=
  (rshl_any V h A n c w X.1 (Nat.le_trans X.2.2 hk) hh).mono fun _ _ g => g.r hj
theorem radd_rn (j : Nat) {w : World} {A B : Option Addr} {n c m d U V k1 k2 : Nat} (X : RN w A n c U k1) (Y : RN w B m d V k2) (h1 : k1 ≤ 1000000) (h2 : k2 ≤ 1000000) (hj : U + V < B32 ^ j) :
    Calls Tryz.prog 130 #[.slice A n c, .slice B m d] w (GivesR w (U + V) j) := by
  refine (radd_any _ _ A B n c m d w X.1 Y.1 (lim_limbs B32_two _) (lim_limbs B32_two _) (Nat.le_trans X.2.2 h1) (Nat.le_trans Y.2.2 h2)).mono fun _ _ g => ?_
  rw [val_limbs B32_two, val_limbs B32_two] at g
  exact g.r hj
theorem rmul_rn (j : Nat) {w : World} {A B : Option Addr} {n c m d U V k1 k2 : Nat} (X : RN w A n c U k1) (Y : RN w B m d V k2) (h1 : k1 ≤ 1000000) (h2 : k2 ≤ 1000000) (hj : U * V < B32 ^ j) :
    Calls Tryz.prog 79 #[.slice A n c, .slice B m d] w (GivesR w (U * V) j) := by
  refine (rmul_any _ _ A B n c m d w X.1 Y.1 (lim_limbs B32_two _) (lim_limbs B32_two _) (Nat.le_trans X.2.2 h1) (Nat.le_trans Y.2.2 h2)).mono fun _ _ g => ?_
  rw [val_limbs B32_two, val_limbs B32_two] at g
  exact g.r hj
theorem rcmp_rn {w : World} {A B : Option Addr} {n c m d U V k1 k2 : Nat} (X : RN w A n c U k1) (Y : RN w B m d V k2) (h1 : k1 ≤ 1000000) :
    Calls Tryz.prog 122 #[.slice A n c, .slice B m d] w fun e w' => e = .returned (.int .i64 (cmpN U V)) ∧ Below w.heap.size w w' := by
  refine (rcmp_any U V A B n c m d w X.1 Y.1 (by have := X.2.2; unfold maxLen; omega)).mono ?_
  rintro e w' ⟨he, q, rfl⟩
  exact ⟨he, below_drewN (Below.refl _ _) _⟩
theorem rof_rn (w : World) : Calls Tryz.prog 71 #[.int .u64 1] w (GivesR w 1 1) :=
  (rof_any 1 (by decide) w).mono fun _ _ g => g.r (by decide)
theorem rbits_rn {w : World} {A : Option Addr} {n c V k : Nat} (X : RN w A n c V k) (hk : k ≤ 1000000) :
    Calls Tryz.prog 157 #[.slice A n c] w fun e w' => e = .returned (.int .i64 (bl V : Nat)) ∧ Below w.heap.size w w' :=
  rbits_any V A n c w X.1 (Nat.le_trans X.2.2 hk)

/-- R is the root of V, rounded down. -/
def IsRoot (V R : Nat) : Prop := R * R ≤ V ∧ V < (R + 1) * (R + 1)
theorem IsRoot.one {V R S : Nat} (h : IsRoot V R) (k : IsRoot V S) : R = S := by
  rcases Nat.lt_trichotomy R S with c | c | c
  · have := Nat.mul_le_mul (show R + 1 ≤ S from c) (show R + 1 ≤ S from c)
    have h1 := h.2; have h2 := k.1; omega
  · exact c
  · have := Nat.mul_le_mul (show S + 1 ≤ R from c) (show S + 1 ≤ R from c)
    have h1 := h.1; have h2 := k.2; omega
theorem b32_two (k : Nat) : B32 ^ k = 2 ^ (32 * k) := by rw [Nat.pow_mul]; rfl
theorem root_half {h : Nat} (X : Nat) : X + 2 ^ (h + 1) = X + 1 * 2 ^ h + 2 ^ h := by rw [Nat.pow_succ]; omega
theorem root_fit {X h k : Nat} (hX : X < B32 ^ k) (hh : h ≤ 16 * k + 1) : 1 * 2 ^ h < B32 ^ (k + 1) ∧ X + 1 * 2 ^ h < B32 ^ (k + 2) ∧ (X + 1 * 2 ^ h) * (X + 1 * 2 ^ h) < B32 ^ (2 * k + 4) := by
  have h1 : 1 * 2 ^ h < B32 ^ (k + 1) := by rw [b32_two, Nat.one_mul]; exact Nat.pow_lt_pow_right (by decide) (by omega)
  have h2 : X + 1 * 2 ^ h < B32 ^ (k + 2) := by
    have e : B32 ^ (k + 2) = B32 ^ (k + 1) * B32 := Nat.pow_succ ..
    have e2 : B32 ^ k ≤ B32 ^ (k + 1) := Nat.pow_le_pow_right (by decide) (by omega)
    have e3 : B32 ^ (k + 1) * 2 ≤ B32 ^ (k + 1) * B32 := Nat.mul_le_mul_left _ (by decide)
    omega
  refine ⟨h1, h2, ?_⟩
  have e : B32 ^ (2 * k + 4) = B32 ^ (k + 2) * B32 ^ (k + 2) := by rw [← Nat.pow_add]; congr 1; omega
  rw [e]
  exact Nat.mul_lt_mul'' h2 h2

set_option maxRecDepth 100000 in
set_option maxHeartbeats 2000000 in
theorem rsqrt_rn {w : World} {A : Option Addr} {n c V k : Nat} (X : RN w A n c V k) (hk : k ≤ 20000) :
    Calls Tryz.prog 121 #[.slice A n c] w fun e w' => ∃ R, IsRoot V R ∧ GivesR w R k e w' := by
  have hbl : bl V ≤ 32 * k := bl_le (by rw [← b32_two]; exact X.lt)
  have hbl2 : bl V ≤ 640000 := by omega
  obtain ⟨H, hH⟩ : ∃ H, H = (bl V + 1) / 2 := ⟨_, rfl⟩
  have hHI : (((bl V : Nat) : Int) + 1) / 2 = (H : Int) := by omega
  have hHb : H ≤ 320000 := by omega
  have hHk : Hid (H ≤ 16 * k + 1) := by show _ ≤ _; omega
  have hVH : V < (0 + 2 ^ (H + 1)) * (0 + 2 ^ (H + 1)) := by
    rw [Nat.zero_add, ← Nat.pow_add]
    exact Nat.lt_of_lt_of_le (lt_bl V) (Nat.pow_le_pow_right (by decide) (by omega))
  have HVH := Lib.hid hVH
  clear hVH hbl hH
  go_enter Tryz.func121, Tryz.ntmps121
  go_wp2_with (go_at_call 157; (with_reducible refine (rbits_rn X (by omega)).mono ?_); rintro e w1 ⟨rfl, hb⟩)
  go_loopw [3, 4] (fun tx tk wr => ∃ (j Xv : Nat) (A' : Option Addr) (n' c' : Nat), j ≤ H + 1 ∧ tk = .int .i64 ((j : Int) - 1) ∧ tx = .slice A' n' c' ∧ RN wr A' n' c' Xv k ∧ Below w.heap.size w wr ∧
      Hid (Xv * Xv ≤ V ∧ V < (Xv + 2 ^ j) * (Xv + 2 ^ j))) (fun _ tk _ => (intOf tk + 1).toNat)
  case atStart =>
    exact ⟨H + 1, 0, none, 0, 0, Nat.le_refl _, by go_num, rfl, RN.of (by rw [limbs_zero]; exact Rd.nil) (Nat.le_refl _) (Nat.pow_pos (by decide)), hb, Nat.zero_le _, HVH.out⟩
  case round =>
    clear hHI
    obtain ⟨j, Xv, A', n', c', hj, rfl, rfl, hX, hbw, HI⟩ := hrel
    by_cases hj0 : 0 < j
    · obtain ⟨h, rfl⟩ : ∃ h, j = h + 1 := ⟨j - 1, by omega⟩
      have hV' := X.below hbw
      have HF := Lib.hid (root_fit (h := h) hX.lt (by have := hHk.out; omega))
      have hhb : h ≤ 1000000 := by omega
      have hhi : (0 : Int) ≤ (h : Int) := by omega
      by_cases hle : (Xv + 1 * 2 ^ h) * (Xv + 1 * 2 ^ h) ≤ V
      · obtain ⟨K, hK, hK0⟩ : ∃ K, cmpN ((Xv + 1 * 2 ^ h) * (Xv + 1 * 2 ^ h)) V = K ∧ K ≤ 0 := ⟨_, rfl, by unfold cmpN; split; decide; rw [if_neg (by omega)]; decide⟩
        have HC := Lib.hid hK
        have HLE := Lib.hid hle
        clear hK hle
        go_wp2_with (first
          | (go_at_call 71; (with_reducible refine (rof_rn _).mono ?_); rintro e w2 ⟨A2, n2, c2, rfl, h2, b2⟩
             replace hX := hX.below b2
             replace hV' := hV'.below b2
             replace hbw := bend hbw b2)
          | (go_at_call 119; (with_reducible refine (rshl_rn h (k + 1) h2 (by omega) hhb HF.out.1).mono ?_); rintro e w3 ⟨A3, n3, c3, rfl, h3, b3⟩
             replace hX := hX.below b3
             replace hV' := hV'.below b3
             replace hbw := bend hbw b3)
          | (go_at_call 130; (with_reducible refine (radd_rn (k + 2) hX h3 (by omega) (by omega) HF.out.2.1).mono ?_); rintro e w4 ⟨A4, n4, c4, rfl, h4, b4⟩
             replace hV' := hV'.below b4
             replace hbw := bend hbw b4)
          | (go_at_call 79; (with_reducible refine (rmul_rn (2 * k + 4) h4 h4 (by omega) (by omega) HF.out.2.2).mono ?_); rintro e w5 ⟨A5, n5, c5, rfl, h5, b5⟩
             replace h4 := h4.below b5
             replace hV' := hV'.below b5
             replace hbw := bend hbw b5)
          | (go_at_call 122; (with_reducible refine (rcmp_rn h5 hV' (by omega)).mono ?_); rintro e w6 ⟨rfl, b6⟩
             rw [HC.out]
             replace h4 := h4.below b6
             replace hbw := bend hbw b6))
        go_roundw
        case rel =>
          have hl := HLE.out
          have hfit : Xv + 1 * 2 ^ h < B32 ^ k := Nat.lt_of_le_of_lt (Nat.le_trans (Nat.le_mul_self _) hl) X.lt
          exact ⟨h, Xv + 1 * 2 ^ h, A4, n4, c4, by omega, by go_num, rfl, RN.of h4.1 h4.2.1 hfit, hbw, hl, by have := HI.out.2; rwa [root_half] at this⟩
        case measure => simp [intOf]
      · obtain ⟨K, hK, hK0⟩ : ∃ K, cmpN ((Xv + 1 * 2 ^ h) * (Xv + 1 * 2 ^ h)) V = K ∧ ¬ K ≤ 0 := ⟨_, rfl, by rw [cmpN_gt (by omega)]; decide⟩
        have HC := Lib.hid hK
        have HLE := Lib.hid hle
        clear hK hle
        go_wp2_with (first
          | (go_at_call 71; (with_reducible refine (rof_rn _).mono ?_); rintro e w2 ⟨A2, n2, c2, rfl, h2, b2⟩
             replace hX := hX.below b2
             replace hV' := hV'.below b2
             replace hbw := bend hbw b2)
          | (go_at_call 119; (with_reducible refine (rshl_rn h (k + 1) h2 (by omega) hhb HF.out.1).mono ?_); rintro e w3 ⟨A3, n3, c3, rfl, h3, b3⟩
             replace hX := hX.below b3
             replace hV' := hV'.below b3
             replace hbw := bend hbw b3)
          | (go_at_call 130; (with_reducible refine (radd_rn (k + 2) hX h3 (by omega) (by omega) HF.out.2.1).mono ?_); rintro e w4 ⟨A4, n4, c4, rfl, h4, b4⟩
             replace hX := hX.below b4
             replace hV' := hV'.below b4
             replace hbw := bend hbw b4)
          | (go_at_call 79; (with_reducible refine (rmul_rn (2 * k + 4) h4 h4 (by omega) (by omega) HF.out.2.2).mono ?_); rintro e w5 ⟨A5, n5, c5, rfl, h5, b5⟩
             replace hX := hX.below b5
             replace hV' := hV'.below b5
             replace hbw := bend hbw b5)
          | (go_at_call 122; (with_reducible refine (rcmp_rn h5 hV' (by omega)).mono ?_); rintro e w6 ⟨rfl, b6⟩
             rw [HC.out]
             replace hX := hX.below b6
             replace hbw := bend hbw b6))
        go_roundw
        case rel =>
          have hl := HLE.out

          exact ⟨h, Xv, A', n', c', by omega, by go_num, rfl, hX, hbw, HI.out.1, by rw [← Nat.one_mul (2 ^ h)]; omega⟩
        case measure => simp [intOf]
    · obtain rfl : j = 0 := by omega
      go_wp2_with fail
      go_ret
      exact ⟨Xv, HI.out, A', n', c', rfl, hX, hbw⟩
end Go.Proofs.YtmcijgnbdnpanaaGreat
