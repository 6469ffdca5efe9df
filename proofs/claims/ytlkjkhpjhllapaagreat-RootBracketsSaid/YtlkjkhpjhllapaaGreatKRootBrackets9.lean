/- RootBrackets: part 9. -/
import Derived.BigQuiet
import Derived.Test.YtlkjkhpjhllapaaGreatKRootBrackets0
import Derived.Test.YtlkjkhpjhllapaaGreatKRootBrackets1
import Derived.Test.YtlkjkhpjhllapaaGreatKRootBrackets3
import Derived.Test.YtlkjkhpjhllapaaGreatKRootBrackets8
set_option linter.unusedVariables false
namespace Go.Proofs.YtlkjkhpjhllapaaGreat
open Go.RowKit
theorem bl_half {v : Nat} (h : v ≠ 0) : bl v = bl (v / 2) + 1 := by
  rw [bl, limbs_pos (Nat.le_refl 2) h, List.length_cons]; rfl
theorem bl_top32 {V k x : Nat} (hl : (limbs B32 V).length = k + 1) (hx : (limbs B32 V)[k]? = some x) : bl V = 32 * k + bl x := by
  have hL := lim_limbs B32_two V
  have hxB := hL.get hx
  have hx0 : x ≠ 0 := by
    intro e
    apply limbs_last B32_two V
    rw [List.getLast?_eq_getElem?, hl, show k + 1 - 1 = k by omega, hx, e]
  have e1 := val_take_drop (B := B32) (limbs B32 V) k (by omega)
  have hk : k < (limbs B32 V).length := by omega
  rw [List.drop_eq_getElem_cons hk, List.drop_of_length_le (by omega), (List.getElem?_eq_some_iff.1 hx).2, val_limbs B32_two] at e1
  have e2 := val_lt (hL.take k)
  rw [List.length_take, Nat.min_eq_left (by omega)] at e2
  simp only [val_cons, val_nil, Nat.mul_zero, Nat.add_zero] at e1
  have h1 := lt_bl x
  have h2 := le_of_bl (n := x) (k := bl x - 1) (by have := bl_pos hx0; omega)
  have hb := bl_pos hx0
  have hp : B32 ^ k = 2 ^ (32 * k) := by rw [Nat.pow_mul]; rfl
  have := bl_eq (n := V) (k := 32 * k + bl x - 1) ?_ ?_
  · rw [this]; omega
  · rw [e1, show 32 * k + bl x - 1 = 32 * k + (bl x - 1) by omega, Nat.pow_add, hp]
    exact Nat.le_trans (Nat.mul_le_mul_left _ h2) (Nat.le_add_left _ _)
  · rw [show 32 * k + bl x - 1 + 1 = 32 * k + bl x by omega, Nat.pow_add, e1, ← hp]
    have h3 := Nat.mul_le_mul_left (B32 ^ k) h1
    rw [Nat.mul_succ] at h3
    omega
theorem div2_u32 {v : Nat} (h : v < B32) : IntKind.u32.wrap ((v : Int) / 2) = ((v / 2 : Nat) : Int) := by
  have h2 : v < 4294967296 := h
  rw [show ((v : Int) / 2) = ((v / 2 : Nat) : Int) by simp]
  rw [show IntKind.u32.wrap ((v / 2 : Nat) : Int) = ((v / 2 : Nat) : Int) % 4294967296 by rfl]
  omega
set_option maxRecDepth 100000 in
set_option maxHeartbeats 1000000 in
theorem rbits_any (V : Nat) (A : Option Addr) (n c : Nat) (w : World) (ha : Rd .u32 w A n (limbs B32 V)) (hn0 : n ≤ 1000000) :
    Calls Tryz.prog 196 #[.slice A n c] w fun e w' => e = .returned (.int .i64 (bl V : Nat)) ∧ Below w.heap.size w w' := by
  by_cases h0 : n = 0
  · subst h0
    have hV : V = 0 := (limbs_eq_nil B32_two).1 (List.eq_nil_of_length_eq_zero ha.1)
    have HV := Lib.hid hV
    clear hV ha
    go_enter Tryz.func196, Tryz.ntmps196
    go_wp2_with fail
    go_ret
    exact ⟨ret_int (by rw [HV.out, bl_zero]; rfl), Below.refl _ _⟩
  obtain ⟨k, rfl⟩ : ∃ k, n = k + 1 := ⟨n - 1, by omega⟩
  obtain ⟨b, o, rfl, hc⟩ := ha.at_ (by omega)
  obtain ⟨x, hx, hcx⟩ := hc k (by omega)
  have hxB := (lim_limbs B32_two V).get hx
  have HB := Lib.hid (bl_top32 ha.1 hx)
  have hkz : (((k + 1 : Nat) : Int) == 0) = false := by simp; omega
  have hk1 : ((k + 1 : Nat) : Int) - 1 = (k : Int) := by omega
  have hbx : bl x ≤ 32 := bl_le hxB
  have HX := Lib.hid hxB
  clear hc hx ha hxB
  go_enter Tryz.func196, Tryz.ntmps196
  go_wp2_with fail
  go_loopw [3, 4] (fun tn tv wr => ∃ (v m : Nat), tv = .int .u32 (v : Int) ∧ tn = .int .i64 (m : Int) ∧ wr = w ∧ Hid (v < B32 ∧ m + bl v = 32 * k + bl x)) (fun _ tv _ => (intOf tv).toNat)
  case atStart => exact ⟨x, 32 * k, rfl, by go_num, rfl, HX.out, rfl⟩
  case round =>
    obtain ⟨v, m, rfl, rfl, rfl, HI⟩ := hrel
    have hm : m ≤ 40000000 := by have := HI.out.2; omega
    by_cases hv : 0 < v
    · have hd := Lib.hid (div2_u32 HI.out.1)
      have hvi : (0 : Int) < (v : Int) := by omega
      go_wp2_with fail
      go_roundw
      case rel =>
        refine ⟨v / 2, m + 1, ?_, by go_num, trivial, ?_, ?_⟩
        · congr 1
        · have := HI.out.1; omega
        · have h1 := HI.out.2
          rw [bl_half (show v ≠ 0 by omega)] at h1
          omega
      case measure => 
        simp only [intOf]
        first | (rw [hd.out]; omega) | omega
    · obtain rfl : v = 0 := by omega
      have HE := Lib.hid HI.out.2
      go_wp2_with fail
      go_ret
      exact ⟨ret_int (by have := HE.out; rw [bl_zero] at this; rw [HB.out]; omega), Below.refl _ _⟩
theorem rshl_step {q j x cc v lo hi e s : Nat} {S L : List Nat} (hS : S.length = q + j) (hx : L[j]? = some x) (hv : v = x * 2 ^ s) (hlo : lo = v % B32) (hhi : hi = v / B32) (he : e = cc + lo)
    (h : val B32 S + B32 ^ (q + j) * cc = B32 ^ q * (val B32 (L.take j) * 2 ^ s)) : val B32 (S ++ [e]) + B32 ^ (q + (j + 1)) * hi = B32 ^ q * (val B32 (L.take (j + 1)) * 2 ^ s) := by
  have hvv : lo + B32 * hi = x * 2 ^ s := by rw [hlo, hhi, ← hv]; exact Nat.mod_add_div v B32
  rw [val_take_succ hx, val_append, hS, val_cons, val_nil, Nat.mul_zero, Nat.add_zero, he]
  generalize B32 = B at *
  have e1 : B ^ (q + (j + 1)) = B ^ (q + j) * B := by rw [← Nat.add_assoc, Nat.pow_succ]
  rw [e1, Nat.add_mul, Nat.mul_add, Nat.mul_add, ← h, Nat.mul_assoc (B ^ j), ← hvv]
  have e2 : B ^ (q + j) = B ^ q * B ^ j := Nat.pow_add _ _ _
  rw [e2]
  grind
theorem rshl_facts {s x cc v lo hi e : Nat} (hs : s < 32) (hx : x < B32) (hc : cc < 2 ^ s) (hv : v = x * 2 ^ s) (hlo : lo = v % B32) (hhi : hi = v / B32) (he : e = cc + lo) :
    IntKind.u64.wrap (x : Int) = (x : Int) ∧ IntKind.u64.wrap ((x : Int) * 2 ^ s) = (v : Int) ∧ (v : Int) % 4294967296 = (lo : Int) ∧ bits .or .u32 (cc : Int) (lo : Int) = (e : Int) ∧ (v : Int) / 4294967296 = (hi : Int) ∧ (hi : Int) % 4294967296 = (hi : Int) ∧ bits .or .u32 0 (hi : Int) = (hi : Int) ∧ hi < 2 ^ s ∧ e < B32 := by
  have p1 : 2 ^ s * 2 ^ (32 - s) = B32 := by rw [← Nat.pow_add, show s + (32 - s) = 32 by omega]; rfl
  have ps : 2 ^ s ≤ 2147483648 := Nat.pow_le_pow_right (n := 2) (by omega) (show s ≤ 31 by omega)
  have pp : 0 < 2 ^ s := Nat.two_pow_pos _
  have hx2 : x < 4294967296 := hx
  have e32 : B32 = 4294967296 := rfl
  have e64 : B64 = 18446744073709551616 := rfl
  have hvB : v < B32 * 2 ^ s := by rw [hv]; exact Nat.mul_lt_mul_of_pos_right hx pp
  have hv64 : v < 18446744073709551616 := by
    have := Nat.mul_le_mul_left B32 ps
    omega
  have hlo2 : lo = 2 ^ s * (x % 2 ^ (32 - s)) := by
    rw [hlo, hv, ← p1, Nat.mul_comm x, Nat.mul_mod_mul_left]
  have hy : x % 2 ^ (32 - s) + 1 ≤ 2 ^ (32 - s) := Nat.mod_lt _ (Nat.two_pow_pos _)
  have hlt : lo + 2 ^ s ≤ B32 := by
    rw [hlo2, ← p1, ← Nat.mul_succ]
    exact Nat.mul_le_mul_left _ hy
  have hhi2 : hi < 2 ^ s := by rw [hhi]; exact Nat.div_lt_of_lt_mul hvB
  have hhi3 : hi = v / 4294967296 := hhi
  have hlo3 : lo = v % 4294967296 := hlo
  have hcast : (x : Int) * 2 ^ s = (v : Int) := by rw [hv]; simp
  refine ⟨?_, ?_, ?_, ?_, ?_, ?_, ?_, hhi2, ?_⟩
  · rw [IntKind.wrap_u64]; omega
  · rw [hcast, IntKind.wrap_u64]; omega
  · omega
  · rw [u32_or_nat _ _ (by omega) (by omega), Nat.or_comm, hlo2, or_low _ _ hc, he, hlo2, Nat.add_comm]
  · omega
  · omega
  · have := u32_or_nat 0 hi (by omega) (by omega)
    rw [Nat.zero_or] at this
    exact this
  · omega
set_option maxRecDepth 100000 in
set_option maxHeartbeats 1000000 in
theorem rshl_any (V k : Nat) (A : Option Addr) (n c : Nat) (w : World) (ha : Rd .u32 w A n (limbs B32 V)) (hn0 : n ≤ 1000000) (hk : k ≤ 1000000) :
    Calls Tryz.prog 146 #[.slice A n c, .int .i64 (k : Int)] w (GivesS .u32 150 w (limbs B32 (V * 2 ^ k))) := by
  obtain ⟨q, hq⟩ : ∃ q, q = k / 32 := ⟨_, rfl⟩
  obtain ⟨s, hs⟩ : ∃ s, s = k % 32 := ⟨_, rfl⟩
  have hqI : (k : Int) / 32 = (q : Int) := by omega
  have hsI : (k : Int) % 32 = (s : Int) := by omega
  have hs32 : s < 32 := by omega
  have HK : Hid (k = 32 * q + s) := by show _ = _; omega
  have hqb : q ≤ 40000 := by omega
  have HL := Lib.hid ha.1
  have La := lim_limbs B32_two V
  clear hq hs
  go_enter Tryz.func146, Tryz.ntmps146
  go_wp2_with (at_make; refine wpList_make32 _ rfl (.tmp 14) (.tmp 14) rfl .i64 .i64 _ _ (q + n + 1) rfl rfl (by omega) (by omega) (by omega) ?_; intro w1 hown1 hb1)
  go_loopw [7] (fun ti wr => ∃ (j cc : Nat) (S : List Nat), j ≤ n ∧ ti = .int .i64 (j : Int) ∧ Hid (S.length = q + j) ∧ Own .u32 150 wr w.heap.size (S ++ cc :: List.replicate (n - j) 0) ∧ Below w.heap.size w wr ∧
      Hid (Lim B32 S ∧ cc < 2 ^ s ∧ val B32 S + B32 ^ (q + j) * cc = B32 ^ q * (val B32 ((limbs B32 V).take j) * 2 ^ s))) (fun ti _ => n - (intOf ti).toNat)
  case atStart =>
    refine ⟨0, 0, List.replicate q 0, Nat.zero_le _, rfl, by show _ = _; simp, ?_, hb1, Lim.zeros _ (by decide), Nat.two_pow_pos _, by rw [val_zeros]; simp⟩
    rw [Nat.add_assoc, ← List.replicate_append_replicate, List.replicate_succ] at hown1
    exact hown1
  case round =>
    obtain ⟨j, cc, S, hj, rfl, HS, hown, hbw, HV⟩ := hrel
    by_cases hlt : j < n
    · obtain ⟨m, hm⟩ : ∃ m, n - j = m + 1 := ⟨n - j - 1, by omega⟩
      rw [hm, List.replicate_succ] at hown
      obtain ⟨b, o, rfl, hc⟩ := (ha.below hbw).at_ (by omega)
      obtain ⟨x, hx, hcx⟩ := hc j hlt
      have hxB := La.get hx
      have hc1 := hown.cell_len HS.out
      have hfz := Own.frozen hown (q + j)
      obtain ⟨v, hv⟩ : ∃ v, v = x * 2 ^ s := ⟨_, rfl⟩
      obtain ⟨lo, hlo⟩ : ∃ lo, lo = v % B32 := ⟨_, rfl⟩
      obtain ⟨hi, hhi⟩ : ∃ hi, hi = v / B32 := ⟨_, rfl⟩
      obtain ⟨e, he⟩ : ∃ e, e = cc + lo := ⟨_, rfl⟩
      obtain ⟨f0, f1, f2, f3, f4, f5, f6, f7, f8⟩ := rshl_facts hs32 hxB HV.out.2.1 hv hlo hhi he
      have hst := hown.store_len HS.out e
      have hQ : (S ++ [e]).length = q + j + 1 := by rw [List.length_append, HS.out]; rfl
      have hc2 := hst.cell_len hQ
      have hf2 := Own.frozen hst (q + j + 1)
      have HX := Lib.hid hx
      have HQ := Lib.hid hQ
      have HO := Lib.hid hst
      have HF := Lib.hid (And.intro f7 (And.intro f8 (And.intro hv (And.intro hlo (And.intro hhi he)))))
      have hji : (j : Int) < (n : Int) := by omega
      clear hx hQ hst hown hc f7 f8 hv hlo hhi he hxB
      go_wp2_with fail
      go_roundw
      case rel =>
        obtain ⟨g1, g2, g3, g4, g5, g6⟩ := HF.out
        obtain ⟨i1, i2, i3⟩ := HV.out
        refine ⟨j + 1, hi, S ++ [e], by omega, by go_num, ?_, ?_, (hbw.setCell (Nat.le_refl _) _).setCell (Nat.le_refl _) _, i1.append (Lim.cons g2 Lim.nil), g1, ?_⟩
        · show _ = _; rw [HQ.out]; omega
        · have := (HO.out.store_len HQ.out hi)
          rw [show n - (j + 1) = m by omega]
          simpa using this
        · exact rshl_step HS.out HX.out g3 g4 g5 g6 i3
      case measure => simp [intOf]; omega
    · obtain rfl : j = n := by omega
      rw [Nat.sub_self, List.replicate_zero] at hown
      obtain ⟨i1, i2, i3⟩ := HV.out
      rw [List.take_of_length_le (by have := HL.out; omega), val_limbs B32_two] at i3
      have ps : 2 ^ s ≤ 2147483648 := Nat.pow_le_pow_right (n := 2) (by omega) (show s ≤ 31 by omega)
      have hlen : (S ++ [cc]).length = q + j + 1 := by rw [List.length_append, HS.out]; rfl
      have hlim : Lim B32 (S ++ [cc]) := i1.append (Lim.cons (by have e32 : B32 = 4294967296 := rfl; omega) Lim.nil)
      have hval : val B32 (S ++ [cc]) = V * 2 ^ k := by
        rw [val_append, HS.out, val_cons, val_nil, Nat.mul_zero, Nat.add_zero, i3, HK.out, Nat.pow_add, Nat.pow_mul]
        show 4294967296 ^ q * (V * 2 ^ s) = V * (4294967296 ^ q * 2 ^ s)
        rw [Nat.mul_left_comm]
      have HLL := Lib.hid hlen
      have HVAL := Lib.hid hval
      have hmx : q + j + 1 ≤ maxLen := by unfold maxLen; omega
      have HMX := Lib.hid hmx
      clear hlen hval i3 i2 i1 ps hmx
      go_wp2_with (go_at_call 164; refine (rtrim_any (S ++ [cc]) _ (q + j + 1) (q + j + 1) wr (hown.rd HLL.out (fun i x hx => by rw [Nat.zero_add]; exact hx)) hlim HMX.out (Nat.le_refl _)).mono ?_; rintro e w' ⟨⟨p, hp, rfl, hj2, hj3⟩, rfl⟩)
      go_ret
      have hfr := Fr.of_own hown (B := w.heap.size) (Nat.le_refl _) (k := p) (by rw [HLL.out]; exact hp) (by rw [HLL.out]; exact HMX.out)
      rw [← hj2, HVAL.out, HLL.out] at hfr
      exact ⟨_, _, _, rfl, hp, HMX.out, hfr, hbw⟩
end Go.Proofs.YtlkjkhpjhllapaaGreat
namespace Go.Proofs.YtlkjkhpjhllapaaGreat
open Go.RowKit
theorem rshl_rn (h j : Nat) {w : World} {A : Option Addr} {n c V k : Nat} (X : RN w A n c V k) (hk : k ≤ 1000000) (hh : h ≤ 1000000) (hj : V * 2 ^ h < B32 ^ j) :
    Calls Tryz.prog 146 #[.slice A n c, .int .i64 (h : Int)] w (GivesR w (V * 2 ^ h) j) :=
  (rshl_any V h A n c w X.1 (Nat.le_trans X.2.2 hk) hh).mono fun _ _ g => g.r hj
theorem radd_rn (j : Nat) {w : World} {A B : Option Addr} {n c m d U V k1 k2 : Nat} (X : RN w A n c U k1) (Y : RN w B m d V k2) (h1 : k1 ≤ 1000000) (h2 : k2 ≤ 1000000) (hj : U + V < B32 ^ j) :
    Calls Tryz.prog 170 #[.slice A n c, .slice B m d] w (GivesR w (U + V) j) := by
  refine (radd_any _ _ A B n c m d w X.1 Y.1 (lim_limbs B32_two _) (lim_limbs B32_two _) (Nat.le_trans X.2.2 h1) (Nat.le_trans Y.2.2 h2)).mono fun _ _ g => ?_
  rw [val_limbs B32_two, val_limbs B32_two] at g
  exact g.r hj
theorem rmul_rn (j : Nat) {w : World} {A B : Option Addr} {n c m d U V k1 k2 : Nat} (X : RN w A n c U k1) (Y : RN w B m d V k2) (h1 : k1 ≤ 1000000) (h2 : k2 ≤ 1000000) (hj : U * V < B32 ^ j) :
    Calls Tryz.prog 108 #[.slice A n c, .slice B m d] w (GivesR w (U * V) j) := by
  refine (rmul_any _ _ A B n c m d w X.1 Y.1 (lim_limbs B32_two _) (lim_limbs B32_two _) (Nat.le_trans X.2.2 h1) (Nat.le_trans Y.2.2 h2)).mono fun _ _ g => ?_
  rw [val_limbs B32_two, val_limbs B32_two] at g
  exact g.r hj
theorem rcmp_rn {w : World} {A B : Option Addr} {n c m d U V k1 k2 : Nat} (X : RN w A n c U k1) (Y : RN w B m d V k2) (h1 : k1 ≤ 1000000) :
    Calls Tryz.prog 150 #[.slice A n c, .slice B m d] w fun e w' => e = .returned (.int .i64 (cmpN U V)) ∧ Below w.heap.size w w' := by
  refine (rcmp_any U V A B n c m d w X.1 Y.1 (by have := X.2.2; unfold maxLen; omega)).mono ?_
  rintro e w' ⟨he, q, rfl⟩
  exact ⟨he, below_drewN (Below.refl _ _) _⟩
theorem rof_rn (w : World) : Calls Tryz.prog 98 #[.int .u64 1] w (GivesR w 1 1) :=
  (rof_any 1 (by decide) w).mono fun _ _ g => g.r (by decide)
theorem rbits_rn {w : World} {A : Option Addr} {n c V k : Nat} (X : RN w A n c V k) (hk : k ≤ 1000000) :
    Calls Tryz.prog 196 #[.slice A n c] w fun e w' => e = .returned (.int .i64 (bl V : Nat)) ∧ Below w.heap.size w w' :=
  rbits_any V A n c w X.1 (Nat.le_trans X.2.2 hk)
def IsRoot (V R : Nat) : Prop := R * R ≤ V ∧ V < (R + 1) * (R + 1)
theorem IsRoot.one {V R S : Nat} (h : IsRoot V R) (k : IsRoot V S) : R = S := by
  rcases Nat.lt_trichotomy R S with c | c | c
  · have := Nat.mul_le_mul (show R + 1 ≤ S from c) (show R + 1 ≤ S from c)
    have h1 := h.2; have h2 := k.1; omega
  · exact c
  · have := Nat.mul_le_mul (show S + 1 ≤ R from c) (show S + 1 ≤ R from c)
    have h1 := h.1; have h2 := k.2; omega
theorem b32_two (k : Nat) : B32 ^ k = 2 ^ (32 * k) := by rw [Nat.pow_mul]; rfl
theorem root_half {h : Nat} (X : Nat) : X + 2 ^ (h + 1) = X + 1 * 2 ^ h + 2 ^ h := by rw [Nat.pow_succ]; omega
theorem root_fit {X h k : Nat} (hX : X < B32 ^ k) (hh : h ≤ 16 * k + 1) : 1 * 2 ^ h < B32 ^ (k + 1) ∧ X + 1 * 2 ^ h < B32 ^ (k + 2) ∧ (X + 1 * 2 ^ h) * (X + 1 * 2 ^ h) < B32 ^ (2 * k + 4) := by
  have h1 : 1 * 2 ^ h < B32 ^ (k + 1) := by rw [b32_two, Nat.one_mul]; exact Nat.pow_lt_pow_right (by decide) (by omega)
  have h2 : X + 1 * 2 ^ h < B32 ^ (k + 2) := by
    have e : B32 ^ (k + 2) = B32 ^ (k + 1) * B32 := Nat.pow_succ ..
    have e2 : B32 ^ k ≤ B32 ^ (k + 1) := Nat.pow_le_pow_right (by decide) (by omega)
    have e3 : B32 ^ (k + 1) * 2 ≤ B32 ^ (k + 1) * B32 := Nat.mul_le_mul_left _ (by decide)
    omega
  refine ⟨h1, h2, ?_⟩
  have e : B32 ^ (2 * k + 4) = B32 ^ (k + 2) * B32 ^ (k + 2) := by rw [← Nat.pow_add]; congr 1; omega
  rw [e]
  exact Nat.mul_lt_mul'' h2 h2
set_option maxRecDepth 100000 in
set_option maxHeartbeats 2000000 in
theorem rsqrt_rn {w : World} {A : Option Addr} {n c V k : Nat} (X : RN w A n c V k) (hk : k ≤ 20000) :
    Calls Tryz.prog 148 #[.slice A n c] w fun e w' => ∃ R, IsRoot V R ∧ GivesR w R k e w' := by
  have hbl : bl V ≤ 32 * k := bl_le (by rw [← b32_two]; exact X.lt)
  have hbl2 : bl V ≤ 640000 := by omega
  obtain ⟨H, hH⟩ : ∃ H, H = (bl V + 1) / 2 := ⟨_, rfl⟩
  have hHI : (((bl V : Nat) : Int) + 1) / 2 = (H : Int) := by omega
  have hHb : H ≤ 320000 := by omega
  have hHk : Hid (H ≤ 16 * k + 1) := by show _ ≤ _; omega
  have hVH : V < (0 + 2 ^ (H + 1)) * (0 + 2 ^ (H + 1)) := by
    rw [Nat.zero_add, ← Nat.pow_add]
    exact Nat.lt_of_lt_of_le (lt_bl V) (Nat.pow_le_pow_right (by decide) (by omega))
  have HVH := Lib.hid hVH
  clear hVH hbl hH
  go_enter Tryz.func148, Tryz.ntmps148
  go_wp2_with (go_at_call 196; (with_reducible refine (rbits_rn X (by omega)).mono ?_); rintro e w1 ⟨rfl, hb⟩)
  go_loopw [3, 4] (fun tx tk wr => ∃ (j Xv : Nat) (A' : Option Addr) (n' c' : Nat), j ≤ H + 1 ∧ tk = .int .i64 ((j : Int) - 1) ∧ tx = .slice A' n' c' ∧ RN wr A' n' c' Xv k ∧ Below w.heap.size w wr ∧
      Hid (Xv * Xv ≤ V ∧ V < (Xv + 2 ^ j) * (Xv + 2 ^ j))) (fun _ tk _ => (intOf tk + 1).toNat)
  case atStart =>
    exact ⟨H + 1, 0, none, 0, 0, Nat.le_refl _, by go_num, rfl, RN.of (by rw [limbs_zero]; exact Rd.nil) (Nat.le_refl _) (Nat.pow_pos (by decide)), hb, Nat.zero_le _, HVH.out⟩
  case round =>
    clear hHI
    obtain ⟨j, Xv, A', n', c', hj, rfl, rfl, hX, hbw, HI⟩ := hrel
    by_cases hj0 : 0 < j
    · obtain ⟨h, rfl⟩ : ∃ h, j = h + 1 := ⟨j - 1, by omega⟩
      have hV' := X.below hbw
      have HF := Lib.hid (root_fit (h := h) hX.lt (by have := hHk.out; omega))
      have hhb : h ≤ 1000000 := by omega
      have hhi : (0 : Int) ≤ (h : Int) := by omega
      by_cases hle : (Xv + 1 * 2 ^ h) * (Xv + 1 * 2 ^ h) ≤ V
      · obtain ⟨K, hK, hK0⟩ : ∃ K, cmpN ((Xv + 1 * 2 ^ h) * (Xv + 1 * 2 ^ h)) V = K ∧ K ≤ 0 := ⟨_, rfl, by unfold cmpN; split; decide; rw [if_neg (by omega)]; decide⟩
        have HC := Lib.hid hK
        have HLE := Lib.hid hle
        clear hK hle
        go_wp2_with (first
          | (go_at_call 98; (with_reducible refine (rof_rn _).mono ?_); rintro e w2 ⟨A2, n2, c2, rfl, h2, b2⟩
             replace hX := hX.below b2
             replace hV' := hV'.below b2
             replace hbw := bend hbw b2)
          | (go_at_call 146; (with_reducible refine (rshl_rn h (k + 1) h2 (by omega) hhb HF.out.1).mono ?_); rintro e w3 ⟨A3, n3, c3, rfl, h3, b3⟩
             replace hX := hX.below b3
             replace hV' := hV'.below b3
             replace hbw := bend hbw b3)
          | (go_at_call 170; (with_reducible refine (radd_rn (k + 2) hX h3 (by omega) (by omega) HF.out.2.1).mono ?_); rintro e w4 ⟨A4, n4, c4, rfl, h4, b4⟩
             replace hV' := hV'.below b4
             replace hbw := bend hbw b4)
          | (go_at_call 108; (with_reducible refine (rmul_rn (2 * k + 4) h4 h4 (by omega) (by omega) HF.out.2.2).mono ?_); rintro e w5 ⟨A5, n5, c5, rfl, h5, b5⟩
             replace h4 := h4.below b5
             replace hV' := hV'.below b5
             replace hbw := bend hbw b5)
          | (go_at_call 150; (with_reducible refine (rcmp_rn h5 hV' (by omega)).mono ?_); rintro e w6 ⟨rfl, b6⟩
             rw [HC.out]
             replace h4 := h4.below b6
             replace hbw := bend hbw b6))
        go_roundw
        case rel =>
          have hl := HLE.out
          have hfit : Xv + 1 * 2 ^ h < B32 ^ k := Nat.lt_of_le_of_lt (Nat.le_trans (Nat.le_mul_self _) hl) X.lt
          exact ⟨h, Xv + 1 * 2 ^ h, A4, n4, c4, by omega, by go_num, rfl, RN.of h4.1 h4.2.1 hfit, hbw, hl, by have := HI.out.2; rwa [root_half] at this⟩
        case measure => simp [intOf]
      · obtain ⟨K, hK, hK0⟩ : ∃ K, cmpN ((Xv + 1 * 2 ^ h) * (Xv + 1 * 2 ^ h)) V = K ∧ ¬ K ≤ 0 := ⟨_, rfl, by rw [cmpN_gt (by omega)]; decide⟩
        have HC := Lib.hid hK
        have HLE := Lib.hid hle
        clear hK hle
        go_wp2_with (first
          | (go_at_call 98; (with_reducible refine (rof_rn _).mono ?_); rintro e w2 ⟨A2, n2, c2, rfl, h2, b2⟩
             replace hX := hX.below b2
             replace hV' := hV'.below b2
             replace hbw := bend hbw b2)
          | (go_at_call 146; (with_reducible refine (rshl_rn h (k + 1) h2 (by omega) hhb HF.out.1).mono ?_); rintro e w3 ⟨A3, n3, c3, rfl, h3, b3⟩
             replace hX := hX.below b3
             replace hV' := hV'.below b3
             replace hbw := bend hbw b3)
          | (go_at_call 170; (with_reducible refine (radd_rn (k + 2) hX h3 (by omega) (by omega) HF.out.2.1).mono ?_); rintro e w4 ⟨A4, n4, c4, rfl, h4, b4⟩
             replace hX := hX.below b4
             replace hV' := hV'.below b4
             replace hbw := bend hbw b4)
          | (go_at_call 108; (with_reducible refine (rmul_rn (2 * k + 4) h4 h4 (by omega) (by omega) HF.out.2.2).mono ?_); rintro e w5 ⟨A5, n5, c5, rfl, h5, b5⟩
             replace hX := hX.below b5
             replace hV' := hV'.below b5
             replace hbw := bend hbw b5)
          | (go_at_call 150; (with_reducible refine (rcmp_rn h5 hV' (by omega)).mono ?_); rintro e w6 ⟨rfl, b6⟩
             rw [HC.out]
             replace hX := hX.below b6
             replace hbw := bend hbw b6))
        go_roundw
        case rel =>
          have hl := HLE.out
          exact ⟨h, Xv, A', n', c', by omega, by go_num, rfl, hX, hbw, HI.out.1, by rw [← Nat.one_mul (2 ^ h)]; omega⟩
        case measure => simp [intOf]
    · obtain rfl : j = 0 := by omega
      go_wp2_with fail
      go_ret
      exact ⟨Xv, HI.out, A', n', c', rfl, hX, hbw⟩
end Go.Proofs.YtlkjkhpjhllapaaGreat
namespace Go.Proofs.YtlkjkhpjhllapaaGreat
open Go.RowKit
set_option maxRecDepth 100000 in
theorem lowered_any (l : List Nat) (A : Option Addr) (n c sh : Nat) (w : World) (h : Rd .u64 w A n l) (hL : Lim B64 l) (hn0 : n ≤ 35184372088832) (hnc : n ≤ c) (hsh0 : sh ≤ maxLen) :
    Calls Tryz.prog 222 #[.slice A n c, .int .i64 (sh : Int)] w (GivesS .u64 115 w (limbs B64 (val B64 l / 2 ^ sh))) := by
  have hn : n ≤ maxLen := by unfold maxLen; omega
  have HN := Lib.hid hn
  have HN0 := Lib.hid hn0
  have hsh := hsh0
  unfold maxLen at hn hsh
  clear hn0 hsh0
  go_enter Tryz.func222, Tryz.ntmps222
  generalize hX : limbs B64 (val B64 l) = xs
  have LX : Lim B64 xs := by rw [← hX]; exact lim_limbs B64_two _
  have HX := Lib.hid hX
  clear hX
  go_wp2_with (first
    | (go_at_call 184; ((with_reducible refine (trim_any l A n c _ h hL HN.out hnc).mono ?_); rintro e w' ⟨⟨k, hk, rfl, hka⟩, rfl⟩; rw [HX.out] at hka))
    | (at_make
       have hlt : (sh : Int) / 64 < (k : Int) := by assumption
       have hq : sh / 64 < k := by omega
       refine wpList_make64 _ rfl (.tmp 17) (.tmp 17) rfl .i64 .i64 _ _ (k - sh / 64) rfl rfl (by omega) (by omega) (by have := HN0.out; omega) ?_
       intro w1 hown1 hb1
       have hka1 := hka.below hb1
       obtain ⟨b, o, hA, hc⟩ := hka1.2 (by omega)
       subst hA
       clear hc)
    | (go_at_call 239
       have hS : (sh : Int) % 64 = ((sh % 64 : Nat) : Int) := by omega
       have hdr := hka1.drop (k := sh / 64) (A' := some ⟨b, o + sh / 64, none⟩) (by omega) (by simp [add_at])
       have hof : Off (some ⟨b, o + sh / 64, none⟩) (k - sh / 64) w.heap.size := fun _ ad e => by
         cases e
         have hbl := hka.lt (by omega) _ rfl
         show b ≠ w.heap.size
         exact Nat.ne_of_lt hbl
       have hkn : k - sh / 64 ≤ maxLen := by have := HN.out; omega
       refine (shiftDown_at ((sh : Int) % 64) _ _ (sh % 64) w.heap.size _ (k - sh / 64) _ _ w1 hown1 (by simp) hdr hof (LX.drop _) (by omega) rfl hkn hS).mono ?_
       rintro e w2 ⟨rfl, ⟨P, hP1, hP2, hP3, hP4⟩, ho2⟩
       have HP3 := Lib.hid hP3
       have HP1 := Lib.hid hP1
       have HS := Lib.hid hS
       have HKN := Lib.hid hkn
       clear hP3 hP1 hS hdr hof hkn)
    | (go_at_call 184
       refine (trim_own P w.heap.size _ w.heap.size w2 hP4 (Nat.le_refl _) HP1.out hP2 HKN.out).mono ?_
       rintro e w' ⟨⟨k2, hk2, rfl, hfr⟩, rfl⟩))
  · have hge : (k : Int) ≤ (sh : Int) / 64 := by assumption
    go_ret
    have hlen : (limbs B64 (val B64 l)).length = k := by rw [HX.out]; exact hka.1
    have e := low_zero (sh := sh) hlen (by omega)
    rw [e, limbs_zero]
    exact ⟨none, 0, 0, rfl, Nat.le_refl _, by decide, Fr.nil, Below.refl _ _⟩
  · have hq : sh / 64 < k := by omega
    go_ret
    have e := low_parts HX.out hka.1 hq
    rw [HP3.out, e] at hfr
    exact ⟨_, _, _, rfl, hk2, HKN.out, hfr, Below.only hb1 (Nat.le_refl _) hb1.size ho2⟩
set_option maxRecDepth 100000 in
theorem raised_any (l : List Nat) (A : Option Addr) (n c sh : Nat) (w : World) (h : Rd .u64 w A n l) (hL : Lim B64 l) (hn0 : n + sh / 64 + 1 ≤ 35184372088832) (hnc : n ≤ c) (hsh0 : sh ≤ maxLen) :
    Calls Tryz.prog 220 #[.slice A n c, .int .i64 (sh : Int)] w (GivesS .u64 115 w (limbs B64 (val B64 l * 2 ^ sh))) := by
  have hn : n + sh / 64 + 1 ≤ maxLen := by unfold maxLen; omega
  have HN : Hid (n ≤ maxLen) := by show _ ≤ _; omega
  have HN0 := Lib.hid hn0
  have hsh := hsh0
  unfold maxLen at hn hsh
  clear hn0 hsh0
  generalize hX : limbs B64 (val B64 l) = xs
  have LX : Lim B64 xs := by rw [← hX]; exact lim_limbs B64_two _
  have HX := Lib.hid hX
  clear hX
  go_enter Tryz.func220, Tryz.ntmps220
  go_wp2_with (first
    | (go_at_call 184; ((with_reducible refine (trim_any l A n c _ h hL HN.out hnc).mono ?_); rintro e w' ⟨⟨k, hk, rfl, hka⟩, rfl⟩; rw [HX.out] at hka))
    | (at_make
       refine wpList_make64 _ rfl (.tmp 16) (.tmp 16) rfl .i64 .i64 _ _ (sh / 64 + k + 1) rfl rfl (by omega) (by omega) (by have := HN0.out; omega) ?_
       intro w1 hown1 hb1
       have hka1 := hka.below hb1)
    | (go_at_call 237
       have hS : (sh : Int) % 64 = ((sh % 64 : Nat) : Int) := by omega
       have hz : Own .u64 115 w1 w.heap.size (List.replicate (sh / 64) 0 ++ List.replicate (k + 1) 0) := by
         rw [List.replicate_append_replicate]; exact hown1
       have hkn : sh / 64 + k + 1 - sh / 64 ≤ maxLen := by have := HN.out; have := HN0.out; unfold maxLen; omega
       refine (shiftUp_at ((sh : Int) % 64) xs _ _ (sh % 64) w.heap.size (sh / 64) _ _ k _ _ w1 hz (by simp) (by simp; omega) hka1 (Off.of_lt hka (Nat.le_refl _)) LX (by omega) (Or.inr (by omega)) hkn hS).mono ?_
       rintro e w2 ⟨rfl, ⟨P, hP1, hP2, hP3, hP4⟩, ho2⟩
       have HP3 := Lib.hid hP3
       have HP1 := Lib.hid hP1
       clear hP3 hP1 hS hkn hz)
    | (go_at_call 184
       have hl2 : (List.replicate (sh / 64) 0 ++ P).length = sh / 64 + k + 1 := by rw [List.length_append, List.length_replicate, HP1.out]; omega
       have hkn : sh / 64 + k + 1 ≤ maxLen := by have := HN0.out; unfold maxLen; omega
       refine (trim_own _ w.heap.size _ w.heap.size w2 hP4 (Nat.le_refl _) hl2 ((Lim.zeros _ (by decide)).append hP2) hkn).mono ?_
       rintro e w' ⟨⟨k2, hk2, rfl, hfr⟩, rfl⟩
       have HKN := Lib.hid hkn
       clear hl2 hkn))
  · have hq : ((k : Int) == 0) = true := by assumption
    have hk0 : k = 0 := by simp at hq; omega
    go_ret
    have hlen : (limbs B64 (val B64 l)).length = 0 := by rw [HX.out, hka.1, hk0]
    have e : val B64 l = 0 := (limbs_eq_nil B64_two).1 (List.eq_nil_of_length_eq_zero hlen)
    rw [e, Nat.zero_mul, limbs_zero]
    exact ⟨none, 0, 0, rfl, Nat.le_refl _, by decide, Fr.nil, Below.refl _ _⟩
  · go_ret
    have e := up_parts (val B64 xs) sh _ rfl P HP3.out
    rw [e, ← HX.out, val_limbs B64_two] at hfr
    exact ⟨_, _, _, rfl, hk2, HKN.out, hfr, Below.only hb1 (Nat.le_refl _) hb1.size ho2⟩
set_option maxRecDepth 100000 in
theorem shl_any (l : List Nat) (A : Option Addr) (n c sh : Nat) (w : World) (h : Rd .u64 w A n l) (hL : Lim B64 l) (hn0 : n ≤ 35184372072432) (hnc : n ≤ c) (hs : sh ≤ 1048576) :
    Calls Tryz.prog 191 #[.slice A n c, .int .i64 (sh : Int)] w (GivesE .u64 115 w (limbs B64 (val B64 l * 2 ^ sh)) 0) := by
  have HN0 := Lib.hid hn0
  clear hn0
  go_enter Tryz.func191, Tryz.ntmps191
  go_wp2_with (go_at_call 220; refine (raised_any l A n c sh w h hL (by have := HN0.out; omega) hnc (by unfold maxLen; omega)).mono ?_; rintro e w' ⟨A2, n2, c2, rfl, h1, h2, h3, h4⟩)
  go_ret2
  exact ⟨_, _, _, rfl, h1, h2, h3, h4⟩
end Go.Proofs.YtlkjkhpjhllapaaGreat
namespace Go.Proofs.YtlkjkhpjhllapaaGreat
open Go.RowKit
theorem at_math {s x y T2 B : Nat} (hs : s ≤ 64) (hB : B = 2 ^ 64) (h : x / 2 ^ s + y * 2 ^ (64 - s) % B < B) : (x + B * (y + B * T2)) / 2 ^ s % B = x / 2 ^ s + y * 2 ^ (64 - s) % B := by
  have hp : B = 2 ^ s * 2 ^ (64 - s) := by rw [hB, ← Nat.pow_add, show s + (64 - s) = 64 by omega]
  have e : x + B * (y + B * T2) = x + 2 ^ s * (y * 2 ^ (64 - s) + B * (2 ^ (64 - s) * T2)) := by
    have e1 : B * (y + B * T2) = 2 ^ s * (2 ^ (64 - s) * (y + B * T2)) := by
      conv => lhs; arg 1; rw [hp]
      rw [Nat.mul_assoc]
    rw [e1, Nat.mul_add (2 ^ (64 - s)), Nat.mul_comm (2 ^ (64 - s)) y, Nat.mul_left_comm (2 ^ (64 - s)) B]
  rw [e, Nat.add_mul_div_left _ _ (Nat.two_pow_pos s), ← Nat.add_assoc, Nat.add_mul_mod_self_left]
  have h2 : (x / 2 ^ s + y * 2 ^ (64 - s)) % B = (x / 2 ^ s + y * 2 ^ (64 - s) % B) % B := by simp
  rw [h2, Nat.mod_eq_of_lt h]
set_option maxRecDepth 100000 in
set_option maxHeartbeats 400000 in
theorem limbAt_any (V k : Nat) (l : List Nat) (A : Option Addr) (n c : Nat) (w : World) (ha : Rd .u64 w A n l) (La : Lim B64 l) (hV : val B64 l = V) (hn0 : n ≤ 1000000) (hk : k / 64 < n) :
    Calls Tryz.prog 242 #[.slice A n c, .int .i64 (k : Int)] w fun e w' => e = .returned (.int .u64 ((V / 2 ^ k % B64 : Nat) : Int)) ∧ w = w' := by
  obtain ⟨q, hq⟩ : ∃ q, q = k / 64 := ⟨_, rfl⟩
  obtain ⟨s, hs⟩ : ∃ s, s = k % 64 := ⟨_, rfl⟩
  have hqI : (k : Int) / 64 = (q : Int) := by omega
  have hsI : (k : Int) % 64 = (s : Int) := by omega
  have hs64 : s < 64 := by omega
  have hqn : q < n := by omega
  have hD : V / 2 ^ k = val B64 (l.drop q) / 2 ^ s := by
    rw [val_drop La _ (by have := ha.1; omega) (by decide), hV, Nat.div_div_eq_div_mul]
    congr 1
    rw [show B64 = 2 ^ 64 from rfl, ← Nat.pow_mul, ← Nat.pow_add]
    congr 1; omega
  obtain ⟨b, o, rfl, hc⟩ := ha.at_ (by omega)
  obtain ⟨x, hx, hcx⟩ := hc q hqn
  have hxB := La.get hx
  have hd1 : val B64 (l.drop q) = x + B64 * val B64 (l.drop (q + 1)) := by
    have h := (List.getElem?_eq_some_iff.1 hx).1
    rw [List.drop_eq_getElem_cons h, (List.getElem?_eq_some_iff.1 hx).2, val_cons]
  have hqi : (q : Int) < (n : Int) := by omega
  obtain ⟨x1, hx1⟩ : ∃ x1, x1 = x / 2 ^ s := ⟨_, rfl⟩
  have hxs : (x : Int) / 2 ^ s = (x1 : Int) := by rw [hx1]; exact shr_nat x s
  obtain ⟨r, hr0⟩ : ∃ r, r = 64 - s := ⟨_, rfl⟩
  have h64 : (64 : Int) - (s : Int) = (r : Int) := by omega
  by_cases hm : q + 1 < n
  · obtain ⟨y, hy, hcy⟩ := hc (q + 1) hm
    have hd2 : val B64 (l.drop (q + 1)) = y + B64 * val B64 (l.drop (q + 1 + 1)) := by
      have h := (List.getElem?_eq_some_iff.1 hy).1
      rw [List.drop_eq_getElem_cons h, (List.getElem?_eq_some_iff.1 hy).2, val_cons]
    have hmi : (q : Int) + 1 < (n : Int) := by omega
    have hr : V / 2 ^ k % B64 = x / 2 ^ s + y * 2 ^ (64 - s) % B64 := by
      rw [hD, hd1, hd2]; exact at_math (by omega) rfl (down_lt (by omega) hxB y)
    have hor := or_down (show s ≤ 64 by omega) x y hxB
    rw [← hx1, ← hr0] at hor hr
    obtain ⟨z, hz⟩ : ∃ z, z = x1 + y * 2 ^ r % B64 := ⟨_, rfl⟩
    rw [← hz] at hor hr
    rw [hr]
    clear hr hd1 hd2 hD hxB hx hy hc ha La hV hq hs hk hqn hm hx1 hr0 hz
    go_enter Tryz.func242, Tryz.ntmps242
    go_wp2_with fail
    go_ret
    exact ⟨ret_int rfl, rfl⟩
  · have hd2 : val B64 (l.drop (q + 1)) = 0 := by rw [List.drop_of_length_le (by have := ha.1; omega), val_nil]
    have hmi : ¬ (q : Int) + 1 < (n : Int) := by omega
    have hr : V / 2 ^ k % B64 = x / 2 ^ s := by
      rw [hD, hd1, hd2, Nat.mul_zero, Nat.add_zero]
      exact Nat.mod_eq_of_lt (Nat.lt_of_le_of_lt (Nat.div_le_self _ _) hxB)
    rw [← hx1] at hr
    rw [hr]
    clear hr hd1 hd2 hD hxB hx hc ha La hV hq hs hk hqn hm hx1 hr0
    go_enter Tryz.func242, Tryz.ntmps242
    go_wp2_with fail
    go_ret
    exact ⟨ret_int rfl, rfl⟩
end Go.Proofs.YtlkjkhpjhllapaaGreat
namespace Go.Proofs.YtlkjkhpjhllapaaGreat
theorem root_up {x y M : Nat} (h : M < 4 * (x * y)) : M < (x + y) * (x + y) := by
  have e : (x + y) * (x + y) = x * x + 2 * (x * y) + y * y := by grind
  have k : 2 * (x * y) ≤ x * x + y * y := by
    rcases Nat.le_total x y with c | c
    · obtain ⟨d, rfl⟩ := Nat.exists_eq_add_of_le c
      have : (x + d) * (x + d) = x * x + 2 * (x * d) + d * d := by grind
      have : x * (x + d) = x * x + x * d := by grind
      omega
    · obtain ⟨d, rfl⟩ := Nat.exists_eq_add_of_le c
      have : (y + d) * (y + d) = y * y + 2 * (y * d) + d * d := by grind
      have : (y + d) * y = y * y + y * d := by grind
      omega
  omega
theorem root_dn {A P M t : Int} (hP : 0 < P) (hA : 2 * (P * P) ≤ A) (hAP : 2 * P ≤ A) (h1 : (A - 2 * P) * (A - 2 * P) < M) (h2 : M < (A + 2 * P) * (A + 2 * P)) (h3 : 2 * (A * (t + 1)) ≤ M + A * A) (ht : 0 ≤ t) : t * t < M := by
  have e1 : (A - 2 * P) * (A - 2 * P) = A * A - 4 * (A * P) + 4 * (P * P) := by grind
  have e2 : (A + 2 * P) * (A + 2 * P) = A * A + 4 * (A * P) + 4 * (P * P) := by grind
  have e3 : A * (t + 1) = A * t + A := by grind
  refine Int.not_le.1 fun hM => ?_
  rcases Int.lt_or_le t (A + 2 * P) with c | c
  · rcases Int.lt_or_le (A - 2 * P) t with d | d
    · have k : (t - A) * (t - A) < 4 * (P * P) := by
        have f : 0 < (2 * P - (t - A)) * (2 * P + (t - A)) := Int.mul_pos (by omega) (by omega)
        have g : (2 * P - (t - A)) * (2 * P + (t - A)) = 4 * (P * P) - (t - A) * (t - A) := by grind
        omega
      have k2 : (t - A) * (t - A) = t * t - 2 * (A * t) + A * A := by grind
      omega
    · have f : t * t ≤ (A - 2 * P) * (A - 2 * P) := Int.mul_le_mul d d ht (by omega)
      omega
  · have f : A * (A + 2 * P) ≤ A * t := Int.mul_le_mul_of_nonneg_left c (by omega)
    have g : A * (A + 2 * P) = A * A + 2 * (A * P) := by grind
    omega
theorem root_step {a P m M : Nat} (hP : 0 < P) (ha : P ≤ a) (hm : m = M / (4 * (P * P))) (h1 : (a - 1) * (a - 1) < m) (h2 : m < (a + 1) * (a + 1)) :
    (P * a + M / (4 * P) / a - 1) * (P * a + M / (4 * P) / a - 1) < M ∧ M < (P * a + M / (4 * P) / a + 1) * (P * a + M / (4 * P) / a + 1) := by
  have ha0 : 0 < a := by omega
  have hPa : 0 < P * a := Nat.mul_pos hP ha0
  obtain ⟨q, hq⟩ : ∃ q, q = M / (4 * P) / a := ⟨_, rfl⟩
  rw [← hq]
  rw [Nat.div_div_eq_div_mul] at hq
  have hpos : 0 < 4 * P * a := Nat.mul_pos (by omega) ha0
  have q1 : 4 * P * a * q ≤ M := by rw [hq]; exact Nat.mul_div_le M _
  have q2 : M < 4 * P * a * (q + 1) := by rw [hq]; exact Nat.lt_mul_div_succ M hpos
  have hPP : 0 < P * P := Nat.mul_pos hP hP
  have m1 : 4 * (P * P) * m ≤ M := by rw [hm]; exact Nat.mul_div_le M _
  have m2 : M < 4 * (P * P) * (m + 1) := by rw [hm]; exact Nat.lt_mul_div_succ M (by omega)
  constructor
  · obtain ⟨b, rfl⟩ : ∃ b, a = b + 1 := ⟨a - 1, by omega⟩
    rw [Nat.add_sub_cancel] at h1
    obtain ⟨t, ht⟩ : ∃ t, P * (b + 1) + q = t + 1 := ⟨P * (b + 1) + q - 1, by omega⟩
    have m3 : 4 * (P * P) * (b * b + 1) ≤ 4 * (P * P) * m := Nat.mul_le_mul_left _ h1
    have m4 : 4 * (P * P) * (m + 1) ≤ 4 * (P * P) * ((b + 1 + 1) * (b + 1 + 1)) := Nat.mul_le_mul_left _ h2
    have k1 : P * P ≤ P * (b + 1) := Nat.mul_le_mul_left _ ha
    have k2 : P * 1 ≤ P * (b + 1) := Nat.mul_le_mul_left _ (by omega)
    have c1 : (2 * ((P : Int) * ((b : Int) + 1)) - 2 * (P : Int)) * (2 * ((P : Int) * ((b : Int) + 1)) - 2 * (P : Int)) < (M : Int) := by
      have e : (2 * ((P : Int) * ((b : Int) + 1)) - 2 * (P : Int)) * (2 * ((P : Int) * ((b : Int) + 1)) - 2 * (P : Int)) = ((4 * (P * P) * (b * b) : Nat) : Int) := by push_cast; grind
      have f : 4 * (P * P) * (b * b + 1) = 4 * (P * P) * (b * b) + 4 * (P * P) := by grind
      rw [e]; omega
    have c2 : (M : Int) < (2 * ((P : Int) * ((b : Int) + 1)) + 2 * (P : Int)) * (2 * ((P : Int) * ((b : Int) + 1)) + 2 * (P : Int)) := by
      have e : (2 * ((P : Int) * ((b : Int) + 1)) + 2 * (P : Int)) * (2 * ((P : Int) * ((b : Int) + 1)) + 2 * (P : Int)) = ((4 * (P * P) * ((b + 1 + 1) * (b + 1 + 1)) : Nat) : Int) := by push_cast; grind
      rw [e]; omega
    have c3 : 2 * ((2 * ((P : Int) * ((b : Int) + 1))) * ((t : Int) + 1)) ≤ (M : Int) + (2 * ((P : Int) * ((b : Int) + 1))) * (2 * ((P : Int) * ((b : Int) + 1))) := by
      have et : (t : Int) + 1 = (P : Int) * ((b : Int) + 1) + (q : Int) := by
        have : ((P * (b + 1) + q : Nat) : Int) = ((t + 1 : Nat) : Int) := by rw [ht]
        push_cast at this; omega
      rw [et]
      have e : 2 * ((2 * ((P : Int) * ((b : Int) + 1))) * ((P : Int) * ((b : Int) + 1) + (q : Int))) = ((4 * P * (b + 1) * q : Nat) : Int) + (2 * ((P : Int) * ((b : Int) + 1))) * (2 * ((P : Int) * ((b : Int) + 1))) := by push_cast; grind
      rw [e]; omega
    have z1 : ((P * P : Nat) : Int) ≤ ((P * (b + 1) : Nat) : Int) := by omega
    have z2 : ((P * 1 : Nat) : Int) ≤ ((P * (b + 1) : Nat) : Int) := by omega
    push_cast at z1 z2
    have r := root_dn (A := 2 * ((P : Int) * ((b : Int) + 1))) (P := (P : Int)) (M := (M : Int)) (t := (t : Int)) (by omega) (by omega) (by omega) c1 c2 c3 (by omega)
    rw [ht, Nat.add_sub_cancel]
    have r2 : ((t * t : Nat) : Int) < (M : Int) := by push_cast; exact r
    omega
  · have := root_up (x := P * a) (y := q + 1) (M := M) (by
      have e : 4 * (P * a * (q + 1)) = 4 * P * a * (q + 1) := by grind
      omega)
    rw [show P * a + q + 1 = P * a + (q + 1) by omega]
    exact this
theorem root_low {a D M : Nat} (h : M < (a + 1) * (a + 1)) (hM : D * D ≤ M) : D ≤ a := by
  refine Nat.not_lt.1 fun c => ?_
  have := Nat.mul_le_mul (show a + 1 ≤ D from c) (show a + 1 ≤ D from c)
  omega
theorem root_high {a D M : Nat} (h : (a - 1) * (a - 1) < M) (hM : M ≤ D * D) : a ≤ D := by
  refine Nat.not_lt.1 fun c => ?_
  have := Nat.mul_le_mul (show D ≤ a - 1 by omega) (show D ≤ a - 1 by omega)
  omega
def RootOk (V c e a : Nat) : Prop := (a - 1) * (a - 1) < V / 2 ^ (2 * (c - e)) ∧ V / 2 ^ (2 * (c - e)) < (a + 1) * (a + 1) ∧ 2 ^ e ≤ a ∧ a ≤ 2 ^ (e + 1)
theorem RootOk.start {V c : Nat} (h1 : 2 ^ (2 * c) ≤ V) (h2 : V < 2 ^ (2 * c + 2)) : RootOk V c 0 1 := by
  have e1 : 1 ≤ V / 2 ^ (2 * c) := (Nat.le_div_iff_mul_le (Nat.two_pow_pos _)).2 (by omega)
  have e2 : V / 2 ^ (2 * c) < 4 := Nat.div_lt_of_lt_mul (by rw [Nat.pow_add] at h2; omega)
  unfold RootOk
  rw [Nat.sub_zero]
  exact ⟨by omega, by omega, by simp, by simp⟩
theorem RootOk.next {V c e d a : Nat} (h1 : 2 ^ (2 * c) ≤ V) (h2 : V < 2 ^ (2 * c + 2)) (h : RootOk V c e a) (hed : e < d) (hd : d ≤ 2 * e + 1) (hdc : d ≤ c) :
    RootOk V c d (a * 2 ^ (d - e - 1) + V / 2 ^ (2 * c - e - d + 1) / a) := by
  obtain ⟨k1, k2, k3, k4⟩ := h
  obtain ⟨P, hP⟩ : ∃ P, P = 2 ^ (d - e - 1) := ⟨_, rfl⟩
  obtain ⟨M, hM⟩ : ∃ M, M = V / 2 ^ (2 * (c - d)) := ⟨_, rfl⟩
  have hP0 : 0 < P := by rw [hP]; exact Nat.two_pow_pos _
  have hPa : P ≤ a := Nat.le_trans (by rw [hP]; exact Nat.pow_le_pow_right (by decide) (by omega)) k3
  have e1 : V / 2 ^ (2 * (c - e)) = M / (4 * (P * P)) := by
    rw [hM, hP, Nat.div_div_eq_div_mul, show (4 : Nat) = 2 ^ 2 from rfl, ← Nat.pow_add, ← Nat.pow_add, ← Nat.pow_add]
    congr 2; omega
  have e2 : V / 2 ^ (2 * c - e - d + 1) = M / (4 * P) := by
    rw [hM, hP, Nat.div_div_eq_div_mul, show (4 : Nat) = 2 ^ 2 from rfl, ← Nat.pow_add, ← Nat.pow_add]
    congr 2; omega
  rw [e1] at k1 k2
  have r := root_step hP0 hPa rfl k1 k2
  rw [← hP, e2, Nat.mul_comm a P]
  generalize P * a + M / (4 * P) / a = b at r ⊢
  have l1 : 2 ^ d * 2 ^ d ≤ M := by
    rw [hM, ← Nat.pow_add, Nat.le_div_iff_mul_le (Nat.two_pow_pos _), ← Nat.pow_add]
    exact Nat.le_trans (Nat.pow_le_pow_right (by decide) (by omega)) h1
  have l2 : M ≤ 2 ^ (d + 1) * 2 ^ (d + 1) := by
    rw [hM, ← Nat.pow_add]
    refine Nat.le_of_lt (Nat.div_lt_of_lt_mul ?_)
    rw [← Nat.pow_add]
    exact Nat.lt_of_lt_of_le h2 (Nat.pow_le_pow_right (by decide) (by omega))
  rw [hM] at r l1 l2
  exact ⟨r.1, r.2, root_low r.2 l1, root_high r.1 l2⟩
theorem RootOk.top {V c e d : Nat} (h2 : V < 2 ^ (2 * c + 2)) (hed : e + d ≤ 2 * c) : V / 2 ^ (2 * c - e - d + 1) < 2 ^ (e + d + 1) := by
  refine Nat.div_lt_of_lt_mul ?_
  rw [← Nat.pow_add]
  exact Nat.lt_of_lt_of_le h2 (Nat.pow_le_pow_right (by decide) (by omega))
theorem half_facts {c L j : Nat} (hL : L = 0 ∨ 2 ^ (L - 1) ≤ c) (hj : j < L) : c / 2 ^ (j + 1) < c / 2 ^ j ∧ c / 2 ^ j ≤ 2 * (c / 2 ^ (j + 1)) + 1 ∧ c / 2 ^ j ≤ c := by
  have e : c / 2 ^ (j + 1) = c / 2 ^ j / 2 := by rw [Nat.pow_succ, ← Nat.div_div_eq_div_mul]
  have h1 : 1 ≤ c / 2 ^ j := by
    rw [Nat.le_div_iff_mul_le (Nat.two_pow_pos _), Nat.one_mul]
    rcases hL with h | h
    · omega
    · exact Nat.le_trans (Nat.pow_le_pow_right (by decide) (by omega)) h
  have h2 := Nat.div_le_self c (2 ^ j)
  omega
end Go.Proofs.YtlkjkhpjhllapaaGreat
namespace Go.Proofs.YtlkjkhpjhllapaaGreat
open Go.RowKit
theorem len_any (x : Nat) (hx : x < B64) (w : World) :
    Calls Tryz.prog 241 #[.int .u64 (x : Int)] w fun e w' => e = .returned (.int .i64 (bl x : Nat)) ∧ w = w' := by
  go_enter Tryz.func241, Tryz.ntmps241
  go_wp2_with (go_at_call 185; (with_reducible refine (len64_any x hx _).mono ?_); rintro e w' ⟨rfl, rfl⟩)
  go_ret
  exact ⟨rfl, rfl⟩
theorem limbAt_q (V k q0 : Nat) {l : List Nat} {A : Option Addr} {n c : Nat} {w : World} (x : Nat) (ha : Rd .u64 w A n l) (La : Lim B64 l) (hV : val B64 l = V) (hn0 : n ≤ 1000000) (hk : k / 64 < n) (hq : V / 2 ^ k % B64 = q0) :
    Calls Tryz.prog 242 #[.slice A n c, .int .i64 (k : Int)] (w.drewN x) fun e w' => e = .returned (.int .u64 (q0 : Int)) ∧ w' = w.drewN x :=
  (limbAt_any V k l A n c _ (ha.drewN _) La hV hn0 hk).mono fun _ _ h => ⟨by rw [h.1, hq], h.2.symm⟩
theorem root_fits {V c e a : Nat} (h : RootOk V c e a) (he : e < 32) : a < B64 :=
  Nat.lt_of_le_of_lt h.2.2.2 (Nat.lt_of_le_of_lt (Nat.pow_le_pow_right (n := 2) (by decide) (show e + 1 ≤ 32 by omega)) (by decide))
theorem half_bound {V c n : Nat} (h1 : 2 ^ (2 * c) ≤ V) (hV : V < B64 ^ n) : 2 * c < 64 * n := by
  refine Nat.not_le.1 fun h => ?_
  have := Nat.pow_le_pow_right (n := 2) (by decide) h
  rw [pow64] at hV
  omega
set_option maxRecDepth 100000 in
set_option maxHeartbeats 2000000 in
theorem limbSqrt_any (V c : Nat) (l : List Nat) (A : Option Addr) (n cp : Nat) (w : World) (ha : Rd .u64 w A n l) (La : Lim B64 l) (hV : val B64 l = V) (hn0 : n ≤ 1000000) (h1 : 2 ^ (2 * c) ≤ V) (h2 : V < 2 ^ (2 * c + 2)) :
    Calls Tryz.prog 221 #[.slice A n cp, .int .i64 (c : Int)] w fun e w' => ∃ j e' a : Nat, e = .returned (.tuple #[.int .u64 (a : Int), .int .i64 (e' : Int), .int .i64 (j : Int)]) ∧ j ≤ bl c ∧ e' = c / 2 ^ j ∧ a < B64 ∧ RootOk V c e' a ∧ ∃ q, w' = w.drewN q := by
  have hVn : V < B64 ^ n := by rw [← hV, ← ha.1]; exact val_lt La
  have hcn := half_bound h1 hVn
  have hc : c ≤ 32000000 := by omega
  obtain ⟨L, hL⟩ : ∃ L, L = bl c := ⟨_, rfl⟩
  have hL1 : c < 2 ^ L := by rw [hL]; exact lt_bl c
  have hL2 : L = 0 ∨ 2 ^ (L - 1) ≤ c := by
    rcases Nat.eq_zero_or_pos L with h | h
    · exact .inl h
    · exact .inr (le_of_bl (by omega))
  have hL64 : L ≤ 25 := by rw [hL]; exact bl_le (by omega)
  have HL := Lib.hid hL
  have HL1 := Lib.hid hL1
  have HL2 := Lib.hid hL2
  have H1 := Lib.hid h1
  have H2 := Lib.hid h2
  have HCN := Lib.hid hcn
  have HV := Lib.hid hV
  clear hVn hcn hL hL1 hL2 h1 h2 hV
  go_enter Tryz.func221, Tryz.ntmps221
  go_wp2_with (go_at_call 241; (with_reducible refine (len_any c (by unfold B64; omega) _).mono ?_); rintro e w' ⟨rfl, rfl⟩; rw [← HL.out])
  go_loopw [4, 5, 6] (fun tr te tj wr => ∃ j e a q : Nat, j ≤ L ∧ tr = .int .u64 (a : Int) ∧ te = .int .i64 (e : Int) ∧ tj = .int .i64 (j : Int) ∧ wr = w.drewN q ∧ Hid (e = c / 2 ^ j ∧ e < 32 ∧ RootOk V c e a)) (fun _ _ tj _ => (intOf tj).toNat)
  case atStart => exact ⟨L, 0, 1, 0, Nat.le_refl _, rfl, rfl, rfl, rfl, by rw [Nat.div_eq_of_lt HL1.out], by decide, RootOk.start H1.out H2.out⟩
  case round =>
    obtain ⟨j, e, a, q, hj, rfl, rfl, rfl, rfl, HI⟩ := hrel
    by_cases hj0 : 0 < j
    · obtain ⟨i, rfl⟩ : ∃ i, j = i + 1 := ⟨j - 1, by omega⟩
      obtain ⟨d, hd⟩ : ∃ d, d = c / 2 ^ i := ⟨_, rfl⟩
      have hdI : (c : Int) / 2 ^ i = (d : Int) := by rw [hd]; exact shr_nat c i
      have HD := Lib.hid hd
      by_cases hd32 : d < 32
      · have hf := half_facts HL2.out (show i < L by omega)
        rw [← hd, ← HI.out.1] at hf
        obtain ⟨f1, f2, f3⟩ := hf
        obtain ⟨I1, I2, I3⟩ := HI.out
        have hnx := RootOk.next H1.out H2.out I3 f1 f2 f3
        have htp := RootOk.top (e := e) (d := d) H2.out (by omega)
        obtain ⟨s, hs⟩ : ∃ s, s = d - e - 1 := ⟨_, rfl⟩
        obtain ⟨k, hk⟩ : ∃ k, k = 2 * c - e - d + 1 := ⟨_, rfl⟩
        rw [← hs, ← hk] at hnx
        rw [← hk] at htp
        have ha1 : a < 2 ^ 32 := Nat.lt_of_le_of_lt I3.2.2.2 (Nat.pow_lt_pow_right (by decide) (by omega))
        have hap : 0 < a := Nat.lt_of_lt_of_le (Nat.two_pow_pos e) I3.2.2.1
        have hqb : V / 2 ^ k < 2 ^ 63 := Nat.lt_of_lt_of_le htp (Nat.pow_le_pow_right (by decide) (by omega))
        obtain ⟨q0, hq0⟩ : ∃ q0, q0 = V / 2 ^ k := ⟨_, rfl⟩
        have HQ0 : Hid (V / 2 ^ k % B64 = q0) := by show _ = _; rw [← hq0, Nat.mod_eq_of_lt (by rw [hq0]; unfold B64; omega)]
        rw [← hq0] at hnx hqb
        obtain ⟨q1, hq1⟩ : ∃ q1, q1 = q0 / a := ⟨_, rfl⟩
        have hq1I : (q0 : Int) / (a : Int) = (q1 : Int) := by rw [hq1]; exact (Int.natCast_ediv _ _).symm
        obtain ⟨x1, hx1⟩ : ∃ x1, x1 = a * 2 ^ s := ⟨_, rfl⟩
        have hx1I : (a : Int) * 2 ^ s = (x1 : Int) := by rw [hx1]; push_cast; rfl
        rw [← hx1, ← hq1] at hnx
        have hr := hnx.2.2.2
        have hrb : x1 + q1 < 2 ^ 33 := Nat.lt_of_le_of_lt hr (Nat.pow_lt_pow_right (by decide) (by omega))
        have HR := Lib.hid hnx
        have HKN : Hid (k / 64 < n) := by show k / 64 < n; have := HCN.out; omega
        have hsI : (d : Int) - (e : Int) - 1 = (s : Int) := by omega
        have hkI : 2 * (c : Int) - (e : Int) - (d : Int) + 1 = (k : Int) := by omega
        have hanz : ((a : Int) == 0) = false := by simp; omega
        clear hnx htp I1 I3 hr hd f2 hq0 hq1 hx1 hk hs
        go_wp2_with fail
        go_quiet ((go_at_call 242; exact quiet_add_same (limbAt_q V k q0 _ ha La HV.out hn0 HKN.out HQ0.out)))
        go_wp2_with fail
        go_roundw
        case rel => exact ⟨i, d, x1 + q1, _, by omega, by push_cast; rfl, rfl, by go_num, rfl, HD.out, hd32, HR.out⟩
        case measure => simp [intOf]
      · have hd32I : ¬ (d : Int) < 32 := by omega
        clear hd hd32
        go_wp2_with fail
        go_ret3
        exact ⟨i + 1, e, a, by push_cast; rfl, by rw [← HL.out]; exact hj, HI.out.1, root_fits HI.out.2.2 HI.out.2.1, HI.out.2.2, q, rfl⟩
    · obtain rfl : j = 0 := by omega
      go_wp2_with fail
      go_ret3
      exact ⟨0, e, a, rfl, Nat.zero_le _, HI.out.1, root_fits HI.out.2.2 HI.out.2.1, HI.out.2.2, q, rfl⟩
end Go.Proofs.YtlkjkhpjhllapaaGreat
namespace Go.Proofs.YtlkjkhpjhllapaaGreat
open Go.RowKit
def OwnN (w : World) (B g n c V : Nat) : Prop :=
  ∃ L, Own .u64 115 w g L ∧ L.length = c ∧ n ≤ c ∧ c ≤ 35184372088832 ∧ Lim B64 L ∧ L.take n = limbs B64 V ∧ B ≤ g
def GivesO (w : World) (V : Nat) (e : Ending) (w' : World) : Prop :=
  ∃ g n c, e = .returned (.slice (some ⟨g, 0, none⟩) n c) ∧ OwnN w' w.heap.size g n c V ∧ Below w.heap.size w w'
theorem OwnN.below {w w' : World} {B g n c V : Nat} (h : OwnN w B g n c V) (hb : Below w.heap.size w w') : OwnN w' B g n c V := by
  obtain ⟨L, h1, h2⟩ := h
  exact ⟨L, h1.below hb h1.lt, h2⟩
theorem OwnN.more {w : World} {B B' g n c V : Nat} (h : OwnN w B g n c V) (hB : B' ≤ B) : OwnN w B' g n c V := by
  obtain ⟨L, h1, h2, h3, h4, h5, h6, h7⟩ := h
  exact ⟨L, h1, h2, h3, h4, h5, h6, Nat.le_trans hB h7⟩
theorem OwnN.ng {w : World} {B g n c V k : Nat} (h : OwnN w B g n c V) (hk : V < B64 ^ k) : NG w (some ⟨g, 0, none⟩) n c V k := by
  obtain ⟨L, h1, h2, h3, h4, h5, h6, h7⟩ := h
  have hl : (L.take n).length = n := by rw [List.length_take]; omega
  refine ⟨?_, h3, ?_⟩
  · rw [← h6]
    exact h1.rd hl (fun j x hx => by
      rw [List.getElem?_take] at hx
      split at hx
      · rw [Nat.zero_add]; exact hx
      · cases hx)
  · rw [← hl, h6]; exact length_limbs_le B64_two hk
theorem of_own (v : Nat) (hv : v < B64) (h0 : v ≠ 0) (w : World) :
    Calls Tryz.prog 126 #[.int .u64 (v : Int)] w (GivesO w v) := by
  have hne : ((v : Int) == 0) = false := by simp; omega
  go_enter Tryz.func126, Tryz.ntmps126
  go_wp2
  go_ret
  refine ⟨_, _, _, rfl, ⟨[v], heap_alloc_new w _, rfl, Nat.le_refl _, by decide, lim1 hv, ?_, Nat.le_refl _⟩, (Below.refl _ _).alloc (Nat.le_refl _) _⟩
  rw [limbs_small B64_two hv h0]; rfl
set_option maxRecDepth 100000 in
set_option maxHeartbeats 1000000 in
theorem add_own (la lb : List Nat) (A B : Option Addr) (n c m d : Nat) (w : World) (ha : Rd .u64 w A n la) (hb : Rd .u64 w B m lb) (La : Lim B64 la) (Lb : Lim B64 lb) (hnm0 : n + m ≤ 35184372088831)
    (hnc : n ≤ c) (hmd : m ≤ d) :
    Calls Tryz.prog 144 #[.slice A n c, .slice B m d] w (GivesO w (val B64 la + val B64 lb)) := by
  have HN : Hid (n ≤ maxLen ∧ m ≤ maxLen) := ⟨by unfold maxLen; omega, by unfold maxLen; omega⟩
  have hnm : n + m ≤ 2 ^ 45 := by omega
  have HNM := Lib.hid hnm0
  clear hnm0
  generalize hX : limbs B64 (val B64 la) = xs
  have LX : Lim B64 xs := by rw [← hX]; exact lim_limbs B64_two _
  generalize hY : limbs B64 (val B64 lb) = ys
  have LY : Lim B64 ys := by rw [← hY]; exact lim_limbs B64_two _
  have HX := Lib.hid hX
  have HY := Lib.hid hY
  clear hX hY
  by_cases hlt : xs.length < ys.length
  all_goals
    have HLT := Lib.hid hlt
    clear hlt
    go_enter Tryz.func144, Tryz.ntmps144
  · go_wp2_with (first
      | (go_at_call 184; (with_reducible refine (trim_any la A n c w ha La HN.out.1 hnc).mono ?_); rintro e w' ⟨⟨k, hk, rfl, hka⟩, rfl⟩; rw [HX.out] at hka)
      | (go_at_call 184; (with_reducible refine (trim_any lb B m d w hb Lb HN.out.2 hmd).mono ?_); rintro e w' ⟨⟨k2, hk2, rfl, hkb⟩, rfl⟩; rw [HY.out] at hkb
         have hkk : k < k2 := by (have h1 := hka.1; have h2 := hkb.1; have h3 := HLT.out; omega))
      | (at_make; refine wpList_make64 _ rfl (.tmp 19) (.tmp 19) rfl .i64 .i64 _ _ (k2 + 1) rfl rfl (by omega) (by omega) (by have := HNM.out; omega) ?_; intro w1 hown1 hb1)
      | (refine wpList_copy64 _ rfl (.tmp 21) (.tmp 22) rfl w.heap.size 0 _ _ k2 d B rfl rfl [] (List.replicate k2 0) [0] ys (by rw [List.nil_append, ← List.replicate_succ']; exact hown1) rfl (by simp) (by omega) (hkb.below hb1) ?_; intro w2 hown2 ho2)
      | (go_at_call 195
         refine (addTo_any xs [] (ys ++ [0]) [] w.heap.size 0 (k2 + 1) _ k c A w2 (by simpa using hown2) rfl (by rw [List.length_append, hkb.1]; rfl) ((hka.below hb1).only (Off.of_lt hka (Nat.le_refl _)) ho2) (Off.of_lt hka (Nat.le_refl _)) LX (LY.snoc (by decide)) (by omega) (by have := HN.out.2; have := HNM.out; unfold maxLen; omega)).mono ?_
         rintro e w3 ⟨rfl, ⟨P, hP1, hP2, hP3, hP4⟩, ho3⟩
         have HP1 := Lib.hid hP1
         have HP3 := Lib.hid hP3
         clear hP1 hP3)
      | (go_at_call 184; refine (trim_any P (some ⟨w.heap.size, 0, none⟩) (k2 + 1) (k2 + 1) w3 (Own.rd0 (by simpa using hP4) HP1.out) hP2 (by have := HNM.out; unfold maxLen; omega) (Nat.le_refl _)).mono ?_; rintro e w' ⟨⟨k3, hk3, rfl, hrd⟩, rfl⟩))
    go_ret
    exact ⟨_, _, _, rfl, ⟨P, by simpa using hP4, HP1.out, hk3, by have := HNM.out; omega, hP2, by rw [← Nat.add_comm (val B64 lb), ← sum_end HX.out HY.out hkb.1 hka.1 (by omega) HP3.out]; rw [← hrd.1, limbs_take B64_two hP2], Nat.le_refl _⟩, Below.only hb1 (Nat.le_refl _) hb1.size (ho2.trans ho3)⟩
  · go_wp2_with (first
      | (go_at_call 184; (with_reducible refine (trim_any la A n c w ha La HN.out.1 hnc).mono ?_); rintro e w' ⟨⟨k, hk, rfl, hka⟩, rfl⟩; rw [HX.out] at hka)
      | (go_at_call 184; (with_reducible refine (trim_any lb B m d w hb Lb HN.out.2 hmd).mono ?_); rintro e w' ⟨⟨k2, hk2, rfl, hkb⟩, rfl⟩; rw [HY.out] at hkb
         have hkk : k2 ≤ k := by (have h1 := hka.1; have h2 := hkb.1; have h3 := HLT.out; omega))
      | (at_make; refine wpList_make64 _ rfl (.tmp 19) (.tmp 19) rfl .i64 .i64 _ _ (k + 1) rfl rfl (by omega) (by omega) (by have := HNM.out; omega) ?_; intro w1 hown1 hb1)
      | (refine wpList_copy64 _ rfl (.tmp 21) (.tmp 22) rfl w.heap.size 0 _ _ k c A rfl rfl [] (List.replicate k 0) [0] xs (by rw [List.nil_append, ← List.replicate_succ']; exact hown1) rfl (by simp) (by omega) (hka.below hb1) ?_; intro w2 hown2 ho2)
      | (go_at_call 195
         refine (addTo_any ys [] (xs ++ [0]) [] w.heap.size 0 (k + 1) _ k2 d B w2 (by simpa using hown2) rfl (by rw [List.length_append, hka.1]; rfl) ((hkb.below hb1).only (Off.of_lt hkb (Nat.le_refl _)) ho2) (Off.of_lt hkb (Nat.le_refl _)) LY (LX.snoc (by decide)) (by omega) (by have := HN.out.1; have := HNM.out; unfold maxLen; omega)).mono ?_
         rintro e w3 ⟨rfl, ⟨P, hP1, hP2, hP3, hP4⟩, ho3⟩
         have HP1 := Lib.hid hP1
         have HP3 := Lib.hid hP3
         clear hP1 hP3)
      | (go_at_call 184; refine (trim_any P (some ⟨w.heap.size, 0, none⟩) (k + 1) (k + 1) w3 (Own.rd0 (by simpa using hP4) HP1.out) hP2 (by have := HNM.out; unfold maxLen; omega) (Nat.le_refl _)).mono ?_; rintro e w' ⟨⟨k3, hk3, rfl, hrd⟩, rfl⟩))
    go_ret
    exact ⟨_, _, _, rfl, ⟨P, by simpa using hP4, HP1.out, hk3, by have := HNM.out; omega, hP2, by rw [← sum_end HY.out HX.out hka.1 hkb.1 (by omega) HP3.out]; rw [← hrd.1, limbs_take B64_two hP2], Nat.le_refl _⟩, Below.only hb1 (Nat.le_refl _) hb1.size (ho2.trans ho3)⟩
section
variable {w : World} {A B : Option Addr} {n c m d U V k k1 k2 : Nat}
theorem add_o (X : NR w A n c U k1) (Y : NR w B m d V k2) (h1 : k1 ≤ 1000000) (h2 : k2 ≤ 1000000) :
    Calls Tryz.prog 144 #[.slice A n c, .slice B m d] w (GivesO w (U + V)) := by
  obtain ⟨la, a1, a2, rfl, a4, a5⟩ := X
  obtain ⟨lb, b1, b2, rfl, b4, b5⟩ := Y
  exact add_own la lb A B n c m d w a1 b1 a2 b2 (by omega) a4 b4
theorem low_nr (sh : Nat) (X : NR w A n c V k) (hk : k ≤ 1000000) (hs : sh ≤ 100000000) :
    Calls Tryz.prog 222 #[.slice A n c, .int .i64 (sh : Int)] w (GivesN w (V / 2 ^ sh) k) := by
  have hV := X.lt
  obtain ⟨la, a1, a2, rfl, a4, a5⟩ := X
  exact (lowered_any la A n c sh w a1 a2 (by omega) a4 (by unfold maxLen; omega)).mono fun e w' h => h.toN (Nat.lt_of_le_of_lt (Nat.div_le_self _ _) hV)
theorem raise_nr (sh j : Nat) (X : NR w A n c V k) (hk : k ≤ 1000000) (hs : sh ≤ 100000000) (hj : V * 2 ^ sh < B64 ^ j) :
    Calls Tryz.prog 220 #[.slice A n c, .int .i64 (sh : Int)] w (GivesN w (V * 2 ^ sh) j) := by
  obtain ⟨la, a1, a2, rfl, a4, a5⟩ := X
  exact (raised_any la A n c sh w a1 a2 (by omega) a4 (by unfold maxLen; omega)).mono fun e w' h => h.toN hj
theorem trim_nr (X : NR w A n c V k) (hk : k ≤ 1000000) :
    Calls Tryz.prog 184 #[.slice A n c] w fun e w' => (∃ n', e = .returned (.slice A n' c) ∧ NG w A n' c V k) ∧ w = w' := by
  obtain ⟨la, a1, a2, rfl, a4, a5⟩ := X
  refine (trim_any la A n c w a1 a2 (by unfold maxLen; omega) a4).mono ?_
  rintro e w' ⟨⟨j, hj, rfl, h⟩, rfl⟩
  exact ⟨⟨j, rfl, h, by omega, by omega⟩, rfl⟩
theorem bits_nr (X : NR w A n c V k) (hk : k ≤ 1000000) :
    Calls Tryz.prog 128 #[.slice A n c] w fun e w' => e = .returned (.int .i64 (bl V : Nat)) ∧ w = w' := by
  obtain ⟨la, a1, a2, rfl, a4, a5⟩ := X
  exact bits_any la A n c w a1 a2 (by omega) a4
theorem take_o {Bd g cz : Nat} (O : OwnN w Bd g n cz V) (X : NG w A m d U k) (hoff : Off A m g) (hUV : U ≤ V) :
    Calls Tryz.prog 223 #[.slice (some ⟨g, 0, none⟩) n cz, .slice A m d] w fun e w' => e = .returned (.tuple #[]) ∧
      NR w' (some ⟨g, 0, none⟩) n cz (V - U) n ∧ Only g w w' := by
  obtain ⟨L, h1, h2, h3, h4, h5, h6, h7⟩ := O
  have hl : (L.take n).length = n := by rw [List.length_take]; omega
  have hmn : m ≤ n := by
    rw [← hl, h6, ← X.1.1]; exact length_limbs_mono B64_two hUV
  refine (takeFrom_any (limbs B64 U) [] (L.take n) (L.drop n) g 0 n cz m d A w (by rw [List.nil_append, List.take_append_drop]; exact h1) rfl hl X.1 hoff (lim_limbs B64_two _) (h5.take _) hmn (by unfold maxLen; omega) (by rw [h6, val_limbs B64_two, val_limbs B64_two]; exact hUV)).mono ?_
  rintro e w' ⟨rfl, ⟨P, p1, p2, p3, p4⟩, p5⟩
  rw [h6, val_limbs B64_two, val_limbs B64_two] at p3
  exact ⟨rfl, ⟨P, p4.rd p1 (fun j x hx => by rw [Nat.zero_add, List.nil_append, List.getElem?_append_left (List.getElem?_eq_some_iff.1 hx).1]; exact hx), p2, p3, h3, Nat.le_refl _⟩, p5⟩
end
end Go.Proofs.YtlkjkhpjhllapaaGreat
namespace Go.Proofs.YtlkjkhpjhllapaaGreat
open Go.RowKit
theorem OwnN.lt {w : World} {B g n c V : Nat} (h : OwnN w B g n c V) : g < w.heap.size := by
  obtain ⟨L, h1, _⟩ := h
  exact h1.lt
theorem OwnN.le {w : World} {B g n c V : Nat} (h : OwnN w B g n c V) : B ≤ g := by
  obtain ⟨L, _, _, _, _, _, _, h⟩ := h
  exact h
theorem root_last {V c e a : Nat} (he : e = c / 2 ^ 0) (h : RootOk V c e a) : (a - 1) * (a - 1) < V ∧ V < (a + 1) * (a + 1) := by
  rw [Nat.pow_zero, Nat.div_one] at he
  subst he
  have h1 := h.1
  have h2 := h.2.1
  rw [Nat.sub_self, Nat.mul_zero, Nat.pow_zero, Nat.div_one] at h1 h2
  exact ⟨h1, h2⟩
theorem root_known {V c j e d i a : Nat} (h1 : 2 ^ (2 * c) ≤ V) (h2 : V < 2 ^ (2 * c + 2)) (hj : j = i + 1) (hjc : j ≤ bl c) (he : e = c / 2 ^ j) (hd : d = c / 2 ^ i) (h : RootOk V c e a) :
    e < d ∧ d ≤ c ∧ RootOk V c d (a * 2 ^ (d - e - 1) + V / 2 ^ (2 * c - e - d + 1) / a) := by
  subst hj
  have hL2 : bl c = 0 ∨ 2 ^ (bl c - 1) ≤ c := by
    rcases Nat.eq_zero_or_pos (bl c) with h | h
    · exact .inl h
    · exact .inr (le_of_bl (by omega))
  have hf := half_facts hL2 (show i < bl c by omega)
  rw [← hd, ← he] at hf
  exact ⟨hf.1, hf.2.2, RootOk.next h1 h2 h hf.1 hf.2.1 hf.2.2⟩
theorem root_b {V c e a k : Nat} (h : RootOk V c e a) (he : e ≤ c) (hc : c + 1 < 64 * k) : a < B64 ^ k := by
  refine Nat.lt_of_le_of_lt h.2.2.2 ?_
  rw [pow64]
  exact Nat.pow_lt_pow_right (by decide) (by omega)
set_option maxRecDepth 100000 in
set_option maxHeartbeats 2000000 in
theorem sqrt_nr {w : World} {A : Option Addr} {n c V : Nat} (X : NR w A n c V 78) :
    Calls Tryz.prog 192 #[.slice A n c] w fun e w' => ∃ R, IsRoot V R ∧ GivesN w R 40 e w' := by
  by_cases hV : V = 0
  · have HV := Lib.hid hV
    clear hV
    go_enter Tryz.func192, Tryz.ntmps192
    go_wp2_with (go_at_call 184; (with_reducible refine (trim_nr X (by omega)).mono ?_); rintro e w1 ⟨⟨n1, rfl, h1⟩, rfl⟩; obtain rfl : n1 = 0 := h1.zero HV.out)
    go_ret
    exact ⟨0, by rw [HV.out]; exact ⟨by decide, by decide⟩, none, 0, 0, rfl, NR.zero0 40, Below.refl _ _⟩
  · have hb0 := bl_pos hV
    have hV78 := X.lt
    obtain ⟨H, hH⟩ : ∃ H, H = (bl V - 1) / 2 := ⟨_, rfl⟩
    have h1 : 2 ^ (2 * H) ≤ V := Nat.le_trans (Nat.pow_le_pow_right (by decide) (by omega)) (le_of_bl (n := V) (k := bl V - 1) (by omega))
    have h2 : V < 2 ^ (2 * H + 2) := Nat.lt_of_lt_of_le (lt_bl V) (Nat.pow_le_pow_right (by decide) (by omega))
    have hc := half_bound h1 hV78
    have hbH : bl H ≤ 64 := bl_le (Nat.lt_of_lt_of_le (show H < 2 ^ 12 by omega) (by decide))
    obtain ⟨b, hb⟩ : ∃ b, b = bl V := ⟨_, rfl⟩
    have hHI : ((b : Int) - 1) / 2 = (H : Int) := by omega
    have HB := Lib.hid hb
    have HV0 := Lib.hid hV
    have H1 := Lib.hid h1
    have H2 := Lib.hid h2
    clear hb0 hV78 hH h1 h2 hV hb
    go_enter Tryz.func192, Tryz.ntmps192
    go_wp2_with (first
      | (go_at_call 184; (with_reducible refine (trim_nr X (by omega)).mono ?_); rintro e w1 ⟨⟨n1, rfl, x1⟩, rfl⟩
         have hnp := x1.pos HV0.out
         have hnz : ((n1 : Int) == 0) = false := by simp; omega)
      | (go_at_call 128; (with_reducible refine (bits_nr x1.nr (by omega)).mono ?_); rintro e w1 ⟨rfl, rfl⟩; rw [← HB.out])
      | (go_at_call 221; refine (limbSqrt_any V H _ A n1 c w x1.1 (lim_limbs B64_two _) (val_limbs B64_two _) (by have := x1.2.2; omega) H1.out H2.out).mono ?_; rintro e w1 ⟨j, e0, a0, rfl, hj, he, ha, hR, q, rfl⟩
         have HE := Lib.hid he
         clear he)
      | (go_at_call 126; refine (of_own a0 ha (by have := hR.2.2.1; have := Nat.two_pow_pos e0; omega) _).mono ?_; rintro e w2 ⟨g, n2, c2, rfl, O, hb2⟩))
    have hbw : Below w.heap.size w w2 := (below_drawn (Below.refl _ _) q).trans hb2
    clear hb2
    go_loopw [5, 6, 7] (fun te tj tr wr => ∃ j e a g n' c' : Nat, j ≤ bl H ∧ te = .int .i64 (e : Int) ∧ tj = .int .i64 ((j : Int) - 1) ∧ tr = .slice (some ⟨g, 0, none⟩) n' c' ∧ OwnN wr w.heap.size g n' c' a ∧ Below w.heap.size w wr ∧
      Hid (e = H / 2 ^ j ∧ RootOk V H e a)) (fun _ tj _ _ => (intOf tj + 1).toNat)
    case atStart => exact ⟨j, e0, a0, g, n2, c2, hj, rfl, by go_num, rfl, O, hbw, HE.out, hR⟩
    case round =>
      clear hHI hj hR O hbw HE
      obtain ⟨j, e, a, g, n', c', hj, rfl, rfl, rfl, O, hbw, HI⟩ := hrel
      have heH : e ≤ H := by rw [HI.out.1]; exact Nat.div_le_self _ _
      have haB := root_b (k := 40) HI.out.2 heH (by omega)
      have xr := (x1.below hbw).nr
      have rr := (O.ng haB).nr
      have Ha0 : Hid (a ≠ 0) := by (show _ ≠ _; have := HI.out.2.2.2.1; have := Nat.two_pow_pos e; omega)
      by_cases hj0 : 0 < j
      · obtain ⟨i, rfl⟩ : ∃ i, j = i + 1 := ⟨j - 1, by omega⟩
        obtain ⟨d, hd⟩ : ∃ d, d = H / 2 ^ i := ⟨_, rfl⟩
        have hdI : (H : Int) / 2 ^ i = (d : Int) := by rw [hd]; exact shr_nat H i
        obtain ⟨f1, f2, hnx⟩ := root_known H1.out H2.out rfl hj HI.out.1 hd HI.out.2
        obtain ⟨s, hs⟩ : ∃ s, s = d - e - 1 := ⟨_, rfl⟩
        obtain ⟨k, hk⟩ : ∃ k, k = 2 * H - e - d + 1 := ⟨_, rfl⟩
        rw [← hs, ← hk] at hnx
        have hsI : (d : Int) - (e : Int) - 1 = (s : Int) := by omega
        have hkI : 2 * (H : Int) - (e : Int) - (d : Int) + 1 = (k : Int) := by omega
        have hiI : (i : Int) + 1 - 1 = (i : Int) := by omega
        have hab := root_b (k := 40) hnx f2 (by omega)
        have HAB : Hid (a * 2 ^ s < B64 ^ 40) := Nat.lt_of_le_of_lt (Nat.le_add_right _ _) hab
        have HNX := Lib.hid hnx
        have HD := Lib.hid hd
        have hsb : s ≤ 100000000 := by omega
        have hkb : k ≤ 100000000 := by omega
        clear hd hs hk hab hnx
        go_wp2_with (first
          | (go_at_call 222; (with_reducible refine (low_nr k xr (by omega) hkb).mono ?_); rintro e w3 ⟨A3, n3, c3, rfl, y3, b3⟩
             replace rr := rr.below b3
             replace hbw := bend hbw b3)
          | (go_at_call 189; (with_reducible refine (dm_nr y3.nr rr (by omega) (by omega) Ha0.out).mono ?_); rintro e w4 ⟨A4, n4, c4, A5, n5, c5, rfl, y4, y5, b4⟩
             replace rr := rr.below b4
             replace hbw := bend hbw b4)
          | (go_at_call 220; (with_reducible refine (raise_nr s 40 rr (by omega) hsb HAB.out).mono ?_); rintro e w5 ⟨A6, n6, c6, rfl, y6, b5⟩
             replace y4 := y4.below b5
             replace hbw := bend hbw b5)
          | (go_at_call 144; (with_reducible refine (add_o y6.nr y4.nr (by omega) (by omega)).mono ?_); rintro e w6 ⟨g2, n7, c7, rfl, O2, b6⟩
             have hwg : w.heap.size ≤ w5.heap.size := hbw.size
             replace hbw := bend hbw b6))
        go_roundw
        case rel => exact ⟨i, d, _, g2, n7, c7, by omega, rfl, by go_num, rfl, O2.more hwg, hbw, HD.out, HNX.out⟩
        case measure => simp [intOf]
      · obtain rfl : j = 0 := by omega
        obtain ⟨l1, l2⟩ := root_last HI.out.1 HI.out.2
        have hn40 := (O.ng haB).le
        by_cases hle : a * a ≤ V
        · obtain ⟨K, hK, hK0⟩ : ∃ K, cmpN (a * a) V = K ∧ ¬ 0 < K := ⟨_, rfl, by unfold cmpN; split; decide; rw [if_neg (by omega)]; decide⟩
          have HK := Lib.hid hK
          have HR := Lib.hid (show IsRoot V a from ⟨hle, l2⟩)
          clear hK hle l1 l2
          go_wp2_with (first
            | (go_at_call 137; (with_reducible refine (mul_nr 80 rr rr (by omega) (by omega) (by omega)).mono ?_); rintro e w3 ⟨A3, n3, c3, rfl, y3, b3⟩
               replace rr := rr.below b3
               replace xr := xr.below b3
               replace hbw := bend hbw b3)
            | (go_at_call 174; (with_reducible refine (cmp_nr y3.nr xr (by omega) (by omega)).mono ?_); rintro e w4 ⟨rfl, b4⟩
               rw [HK.out]
               replace rr := rr.below b4
               replace hbw := bend hbw b4)
            | (go_at_call 184; (with_reducible refine (trim_nr rr (by omega)).mono ?_); rintro e w5 ⟨⟨n5, rfl, y5⟩, rfl⟩))
          go_ret
          exact ⟨a, HR.out, _, _, _, rfl, y5, hbw⟩
        · obtain ⟨K, hK, hK0⟩ : ∃ K, cmpN (a * a) V = K ∧ 0 < K := ⟨_, rfl, by rw [cmpN_gt (by omega)]; decide⟩
          have HK := Lib.hid hK
          have HR := Lib.hid (show IsRoot V (a - 1) from ⟨Nat.le_of_lt l1, by rw [Nat.sub_add_cancel (by have := Ha0.out; omega)]; omega⟩)
          have ha1 : 1 ≤ a := by have := Ha0.out; omega
          clear hK hle l1 l2
          go_wp2_with (first
            | (go_at_call 137; (with_reducible refine (mul_nr 80 rr rr (by omega) (by omega) (by omega)).mono ?_); rintro e w3 ⟨A3, n3, c3, rfl, y3, b3⟩
               replace O := O.below b3
               replace xr := xr.below b3
               replace hbw := bend hbw b3)
            | (go_at_call 174; (with_reducible refine (cmp_nr y3.nr xr (by omega) (by omega)).mono ?_); rintro e w4 ⟨rfl, b4⟩
               rw [HK.out]
               replace O := O.below b4
               replace hbw := bend hbw b4)
            | (go_at_call 126; refine (of_own 1 (by decide) (by decide) _).mono ?_; rintro e w5 ⟨g5, n5, c5, rfl, O5, b5⟩
               have hgl := O.lt
               have hgle := O5.le
               replace O := O.below b5
               replace hbw := bend hbw b5)
            | (go_at_call 223
               have hoff : Off (some ⟨g5, 0, none⟩) n5 g := fun _ ad e => by
                 cases e
                 show g5 ≠ g
                 omega
               refine (take_o O (O5.ng (k := 1) (by decide)) hoff ha1).mono ?_
               rintro e w6 ⟨rfl, y6, o6⟩
               replace hbw : Below w.heap.size w w6 := Below.only hbw O.le hbw.size o6)
            | (go_at_call 184; (with_reducible refine (trim_nr y6 (by omega)).mono ?_); rintro e w7 ⟨⟨n7, rfl, y7⟩, rfl⟩))
          go_ret
          exact ⟨a - 1, HR.out, _, _, _, rfl, y7.more hn40, hbw⟩
theorem shl_nr (h j : Nat) {w : World} {A : Option Addr} {n c V k : Nat} (X : NR w A n c V k) (hk : k ≤ 1000000) (hh : h ≤ 1048576) (hj : V * 2 ^ h < B64 ^ j) :
    Calls Tryz.prog 191 #[.slice A n c, .int .i64 (h : Int)] w fun e w' => ∃ A n c, e = .returned (.tuple #[.slice A n c, .int .i64 0]) ∧ NG w' A n c (V * 2 ^ h) j ∧ Below w.heap.size w w' := by
  obtain ⟨la, a1, a2, rfl, a4, a5⟩ := X
  exact (shl_any la A n c h w a1 a2 (by omega) a4 hh).mono fun _ _ g => g.ng hj
end Go.Proofs.YtlkjkhpjhllapaaGreat
namespace Go.Proofs.YtlkjkhpjhllapaaGreat
open Go.RowKit
theorem b32_pos (k : Nat) : 0 < B32 ^ k := Nat.pow_pos (by decide)
theorem RN.zero (w : World) (k : Nat) : RN w none 0 0 0 k := RN.of (by rw [limbs_zero]; exact Rd.nil) (Nat.le_refl _) (b32_pos _)
end Go.Proofs.YtlkjkhpjhllapaaGreat
