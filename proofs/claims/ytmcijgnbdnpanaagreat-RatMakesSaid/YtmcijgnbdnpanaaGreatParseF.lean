/- nat.timesAnd: a number times a limb and a limb, written over it. nat.powerOfTen, limbOf, isText. nat.Parse. -/
import Derived.Test.YtmcijgnbdnpanaaGreatSums
import Derived.Test.YtmcijgnbdnpanaaGreatBase
import Derived.WalkLawsBesides
import Derived.Lib.Strings
import Derived.Deep.RegionWith
namespace Go.Proofs.YtmcijgnbdnpanaaGreat
open Go.RowKit

theorem ta_step {l P : List Nat} {k x v y cc : Nat} (hP : P.length = k) (hx : l[k]? = some x) (h : val B64 P + B64 ^ k * y = val B64 (l.take k) * v + cc) :
    val B64 (P ++ [maLo x v y]) + B64 ^ (k + 1) * maHi x v y = val B64 (l.take (k + 1)) * v + cc := by
  have hp := ma_parts x v y
  rw [val_snoc, val_take_succ hx, hP, Nat.pow_succ]
  generalize maLo x v y = lo at *
  generalize maHi x v y = hi at *
  grind

set_option maxRecDepth 100000 in
set_option maxHeartbeats 1000000 in
theorem timesAnd_any (l : List Nat) (A : Option Addr) (n c v cc B : Nat) (w : World) (h : Fr .u64 91 w B A n c l) (hL : Lim B64 l) (hv : v < B64) (hcc : cc < B64) (hB : B ≤ w.heap.size) (hn0 : n ≤ 17592186044415) (hnc : n ≤ c) (hc : c ≤ maxLen) :
    Calls Tryz.prog 145 #[.slice A n c, .int .u64 (v : Int), .int .u64 (cc : Int)] w fun e w' =>
      ∃ A' n' c' l', e = .returned (.slice A' n' c') ∧ Fr .u64 91 w' B A' n' c' l' ∧ n' ≤ c' ∧ c' ≤ maxLen ∧ Lim B64 l' ∧ val B64 l' = val B64 l * v + cc ∧ (n' = n ∨ n' = n + 1 ∧ B64 ^ n ≤ val B64 l') ∧ Below B w w' := by
  have hn : n ≤ 2 ^ 45 := by omega
  have HN := Lib.hid hn0
  have HL := Lib.hid h.1
  clear hn0
  go_enter Tryz.func145, Tryz.ntmps145
  go_wp2_with fail
  go_loopw [2, 10] (fun b i wr => ∃ (k : Nat) (P : List Nat) (y : Nat), k ≤ n ∧ i = .int .i64 k ∧ b = .int .u64 (y : Int) ∧ Fr .u64 91 wr B A n c (P ++ l.drop k) ∧ Below B w wr ∧
      Hid (P.length = k ∧ y < B64 ∧ Lim B64 P ∧ val B64 P + B64 ^ k * y = val B64 (l.take k) * v + cc)) (fun _ i _ => n - (intOf i).toNat)
  case atStart => exact ⟨0, [], cc, Nat.zero_le _, rfl, rfl, h, Below.refl _ _, rfl, hcc, Lim.nil, by simp⟩
  case round =>
    obtain ⟨k, P, y, hk, rfl, rfl, hfr, hbl, HV⟩ := hrel
    by_cases hlt : k < n
    · obtain ⟨g, R, hA, hg, hvw, hc1, hc2, hR⟩ := hfr.opened (by omega)
      subst hA
      obtain ⟨x, hx⟩ : ∃ x, l[k]? = some x := ⟨_, List.getElem?_eq_getElem (by have := HL.out; omega)⟩
      have hkl : k < l.length := by have := HL.out; omega
      have hcz : wr.cell? ⟨g, k, none⟩ = some (.int .u64 (x : Int)) := by
        refine hvw.cell ?_
        rw [List.getElem?_append_left (by rw [length_nums, List.length_append, List.length_drop]; have := HV.out.1; omega), nums_get, List.getElem?_append_right (by have := HV.out.1; omega), List.getElem?_drop, HV.out.1]
        rw [show k + (k - k) = k by omega, hx]; rfl
      have hfz := hvw.frozen k
      have hst := hvw.set_ k (.int .u64 (maLo x v y : Nat))
      have hnew : Hid (Vow 91 (wr.setCell ⟨g, k, none⟩ (.int .u64 (maLo x v y : Nat))) g (nums .u64 ((P ++ [maLo x v y]) ++ l.drop (k + 1)) ++ R)) := by
        show Vow _ _ _ _
        refine cast (congrArg (Vow _ _ g) ?_) hst
        rw [List.set_append_left _ _ (by rw [length_nums, List.length_append, List.length_drop]; have := HV.out.1; omega), ← nums_set, List.set_append_right _ _ (by have := HV.out.1; omega), HV.out.1, Nat.sub_self,
          List.drop_eq_getElem_cons hkl, List.set_cons_zero, List.append_assoc]
        rfl
      have HX := Lib.hid hx
      have HR := Lib.hid hR
      have HF := Lib.hid hfr.1
      clear hst hx hR hfr hkl
      go_wp2_with (go_at_call 172; (with_reducible refine (mulAdd_any x v y (hL.get HX.out) hv HV.out.2.1 _).mono ?_); rintro e w' ⟨rfl, rfl⟩)
      go_roundw
      case rel =>
        obtain ⟨h1, h2, h3, h4⟩ := HV.out
        refine ⟨k + 1, P ++ [maLo x v y], maHi x v y, by omega, by go_num, rfl, Fr.shut hnew.out hg ?_ HR.out hc2, hbl.setCell (p := ⟨g, k, none⟩) hg _, by simp; omega, maHi_lt (hL.get HX.out) hv h2, h3.append (Lim.cons (maLo_lt _ _ _) Lim.nil), ta_step h1 HX.out h4⟩
        have := HL.out
        simp; omega
      case measure => simp [intOf]; omega
    · obtain rfl : k = n := by omega
      obtain ⟨h1, h2, h3, h4⟩ := HV.out
      rw [List.take_of_length_le (by have := HL.out; omega)] at h4
      rw [List.drop_of_length_le (by have := HL.out; omega), List.append_nil] at hfr
      have H := Lib.hid h4
      have HP := Lib.hid h1
      clear h4 h1 HV
      by_cases hy : y = 0
      · subst hy
        go_wp2_with fail
        go_ret
        exact ⟨_, _, _, P, rfl, hfr, hnc, hc, h3, by have := H.out; omega, Or.inl rfl, hbl⟩
      · have hne : ((y : Int) == 0) = false := by simp; omega
        have hB' : B ≤ wr.heap.size := Nat.le_trans hB hbl.size
        have hfr2 : Fr .u64 91 (wr.alloc (.cells #[.int .u64 (y : Int)] 91)) B A k c P := hfr.below (B' := wr.heap.size) ((Below.refl _ _).alloc (Nat.le_refl _) _) (Nat.le_refl _)
        have hbl2 : Below B w (wr.alloc (.cells #[.int .u64 (y : Int)] 91)) := hbl.alloc hB' _
        have hcell : (wr.alloc (.cells #[.int .u64 (y : Int)] 91)).cell? ⟨wr.heap.size, 0, none⟩ = some (.int .u64 (y : Int)) := by rw [World.cell?_alloc_new]; rfl
        have HC := Lib.hid hcell
        clear hcell
        go_wp2_with (first
          | (at_builtin
             refine wpList_append1 .u64 22 91 8 (.int .u64 0) rfl Tryz.underlying22 info_u64 (by omega) _ rfl (.tmp 30) (.tmp 32) rfl B A k c P rfl hfr2 wr.heap.size 1 y rfl HC.out HN.out (Nat.le_trans hB hbl2.size) ?_
             intro A' c' w' hfr3 h5 h6 hb3 hgrow))
        go_ret
        have hv2 : val B64 (P ++ [y]) = val B64 l * v + cc := by rw [val_snoc, HP.out]; exact H.out
        refine ⟨_, _, _, P ++ [y], rfl, hfr3, h5, h6, h3.append (Lim.cons h2 Lim.nil), hv2, Or.inr ⟨rfl, ?_⟩, hbl2.trans hb3⟩
        rw [val_snoc, HP.out]
        have := Nat.mul_le_mul_left (B64 ^ k) (show 1 ≤ y by omega)
        omega
end Go.Proofs.YtmcijgnbdnpanaaGreat
namespace Go.Proofs.YtmcijgnbdnpanaaGreat
open Go.RowKit

/-- 10 to the k. -/
def tenTo (k : Nat) : Nat := 10 ^ k
theorem tenTo_lt {k : Nat} (h : k ≤ 19) : tenTo k < B64 := Nat.lt_of_le_of_lt (Nat.pow_le_pow_right (by omega) h) (show 10 ^ 19 < B64 by decide)
theorem ten_le {k : Nat} (h : k ≤ 19) : 10 ^ k ≤ 10000000000000000000 := Nat.pow_le_pow_right (by omega) h

set_option maxRecDepth 100000 in
theorem powerOfTen_any (k : Nat) (w : World) (hk : k ≤ 19) :
    Calls Tryz.prog 146 #[.int .i64 (k : Int)] w fun e w' => e = .returned (.int .u64 (tenTo k : Nat)) ∧ w' = w := by
  go_enter Tryz.func146, Tryz.ntmps146
  go_wp2_with fail
  go_loop [3, 5] (fun p i => ∃ j t : Nat, j ≤ k ∧ Hid (t = 10 ^ j) ∧ i = .int .i64 j ∧ p = .int .u64 (t : Int)) (fun _ i => k - (intOf i).toNat)
  case atStart => exact ⟨0, 1, Nat.zero_le _, rfl, rfl, rfl⟩
  case round =>
    obtain ⟨j, t, hj, HT, rfl, rfl⟩ := hrel
    by_cases hlt : j < k
    · go_wp2_with fail
      go_round
      case rel =>
        refine ⟨j + 1, t * 10, by omega, ?_, by go_num, ?_⟩
        · show _ = _; rw [HT.out, Nat.pow_succ]
        · have h1 := ten_le (k := j + 1) (by omega)
          rw [Nat.pow_succ, ← HT.out] at h1
          have h2 := wrap_nat (t * 10)
          rw [Nat.mod_eq_of_lt (by rw [B64_eq]; omega)] at h2
          rw [← h2]
          rfl
      case measure => simp [intOf]; omega
    · obtain rfl : j = k := by omega
      go_wp2_with fail
      go_ret
      exact ⟨ret_int (by rw [HT.out]; rfl), rfl⟩

/-- The number that decimal digits come to. -/
def dec (l : List UInt8) : Nat := l.foldl (fun v c => 10 * v + (c.toNat - 48)) 0
theorem dec_snoc (l : List UInt8) (c : UInt8) : dec (l ++ [c]) = 10 * dec l + (c.toNat - 48) := by unfold dec; rw [List.foldl_append]; rfl
def Digit (c : UInt8) : Prop := 48 ≤ c.toNat ∧ c.toNat ≤ 57
def Digits (l : List UInt8) : Prop := ∀ c, c ∈ l → Digit c
theorem dec_lt {l : List UInt8} (h : Digits l) : dec l < 10 ^ l.length := by
  suffices ∀ (m : Nat) (l : List UInt8), l.length = m → Digits l → dec l < 10 ^ m from this _ l rfl h
  intro m
  induction m with
  | zero => intro l hl _; obtain rfl := List.eq_nil_of_length_eq_zero hl; decide
  | succ m ih =>
    intro l hl h
    have hne : l ≠ [] := by intro e; subst e; cases hl
    obtain ⟨a, c, rfl⟩ : ∃ a c, l = a ++ [c] := ⟨l.dropLast, l.getLast hne, (List.dropLast_concat_getLast hne).symm⟩
    have h1 := ih a (by simpa using hl) (fun x hx => h x (by simp [hx]))
    have h2 := h c (by simp)
    rw [dec_snoc, Nat.pow_succ]
    unfold Digit at h2
    omega
theorem dec_append (a b : List UInt8) : dec (a ++ b) = dec a * 10 ^ b.length + dec b := by
  suffices ∀ (m : Nat) (b : List UInt8), b.length = m → dec (a ++ b) = dec a * 10 ^ m + dec b from this _ b rfl
  intro m
  induction m with
  | zero => intro b hb; obtain rfl := List.eq_nil_of_length_eq_zero hb; simp [dec]
  | succ m ih =>
    intro b hb
    have hne : b ≠ [] := by intro e; subst e; cases hb
    obtain ⟨d, c, rfl⟩ : ∃ a c, b = a ++ [c] := ⟨b.dropLast, b.getLast hne, (List.dropLast_concat_getLast hne).symm⟩
    rw [← List.append_assoc, dec_snoc, dec_snoc, ih d (by simpa using hb), Nat.pow_succ]
    grind
theorem take_snoc8 (s : ByteArray) (k : Nat) (h : k < s.size) : s.data.toList.take (k + 1) = s.data.toList.take k ++ [s[k]] := by
  rw [List.take_succ_eq_append_getElem (by simpa using h)]; rfl

theorem digit_step {t c : Nat} (h : 10 * t + (c - 48) < 10000000000000000000) (h1 : 48 ≤ c) (h2 : c ≤ 57) :
    IntKind.u64.wrap (IntKind.u64.wrap (10 * (t : Int)) + ((c : Int) - 48) % 256) = ((10 * t + (c - 48) : Nat) : Int) := by
  simp only [IntKind.wrap_u64]
  omega

set_option maxRecDepth 100000 in
set_option maxHeartbeats 1000000 in
theorem limbOf_any (s : ByteArray) (w : World) (hs : s.size ≤ 19) (hd : Digits s.data.toList) :
    Calls Tryz.prog 147 #[.string s] w fun e w' => e = .returned (.int .u64 (dec s.data.toList : Nat)) ∧ w' = w := by
  have HD := Lib.hid hd
  clear hd
  go_enter Tryz.func147, Tryz.ntmps147
  go_wp2_with fail
  go_loop [3, 7] (fun p i => ∃ j t : Nat, j ≤ s.size ∧ Hid (t = dec (s.data.toList.take j)) ∧ i = .int .i64 j ∧ p = .int .u64 (t : Int)) (fun _ i => s.size - (intOf i).toNat)
  case atStart => exact ⟨0, 0, Nat.zero_le _, rfl, rfl, rfl⟩
  case round =>
    obtain ⟨j, t, hj, HT, rfl, rfl⟩ := hrel
    by_cases hlt : j < s.size
    · go_wp2_with fail
      go_round
      case rel =>
        have hts := take_snoc8 s j hlt
        have hdg : Digits (s.data.toList.take (j + 1)) := fun c hc => HD.out c (List.mem_of_mem_take hc)
        have hc : Digit s[j] := by rw [hts] at hdg; exact hdg _ (by simp)
        have hlen : (s.data.toList.take (j + 1)).length = j + 1 := by rw [List.length_take]; simp; omega
        have hlt2 := dec_lt hdg
        rw [hlen] at hlt2
        have h1 := ten_le (k := j + 1) (by omega)
        unfold Digit at hc
        rw [hts, dec_snoc, ← HT.out] at hlt2
        refine ⟨j + 1, 10 * t + (s[j].toNat - 48), by omega, ?_, by go_num, ?_⟩
        · show _ = _; rw [hts, dec_snoc, HT.out]
        · exact congrArg _ (digit_step (by omega) hc.1 hc.2)
      case measure => simp [intOf]; omega
    · obtain rfl : j = s.size := by omega
      go_wp2_with fail
      go_ret
      exact ⟨ret_int (by rw [HT.out, List.take_of_length_le (by simp)]), rfl⟩

/-- Is it a number's text? -/
def isTextB (l : List UInt8) : Bool := !(l.isEmpty) && !(l.head? == some 48 && l != [48]) && l.all fun c => 48 ≤ c && c ≤ 57
theorem isTextB_digits {l : List UInt8} (h : isTextB l = true) : Digits l := by
  unfold isTextB at h
  intro c hc
  simp only [Bool.and_eq_true, List.all_eq_true] at h
  have := h.2 c hc
  simp only [decide_eq_true_eq, UInt8.le_iff_toNat_le] at this
  exact this

theorem isTextB_false {l : List UInt8} {c : UInt8} (h : c ∈ l) (hc : ¬ Digit c) : isTextB l = false := by
  cases e : isTextB l with
  | false => rfl
  | true => exact absurd (isTextB_digits e c h) hc
theorem isTextB_true {l : List UInt8} (h0 : l ≠ []) (h1 : l.head? ≠ some 48 ∨ l = [48]) (h : Digits l) : isTextB l = true := by
  unfold isTextB
  simp only [Bool.and_eq_true, Bool.not_eq_true', List.all_eq_true, decide_eq_true_eq, UInt8.le_iff_toNat_le]
  refine ⟨⟨by simpa using h0, ?_⟩, fun c hc => h c hc⟩
  rcases h1 with h1 | h1
  · simp [h1]
  · subst h1; rfl

set_option maxRecDepth 100000 in
set_option maxHeartbeats 1000000 in
theorem isText_any (s : ByteArray) (w : World) (hs : s.size ≤ 20000) :
    Calls Tryz.prog 144 #[.string s] w fun e w' => e = .returned (.bool (isTextB s.data.toList)) ∧ w' = w := by
  have hd := Lib.toList_data s
  have hz := Lib.size_eq s
  by_cases h0 : s.size = 0
  · have hl : s.data.toList = [] := List.eq_nil_of_length_eq_zero (by omega)
    have e1 : s.toList = [] := by rw [hd, hl]
    have e2 : s.toList.isEmpty = true := by rw [e1]; rfl
    rw [hl]
    clear hd hz hl
    go_enter Tryz.func144, Tryz.ntmps144
    go_wp2_with fail
    go_ret
    exact ⟨rfl, rfl⟩
  · have hp : 0 < s.size := by omega
    have hne : s.data.toList ≠ [] := by intro e; rw [e, List.length_nil] at hz; exact h0 hz
    have e1 : s.toList.isEmpty = false := by rw [hd]; simpa using hne
    have e1' : ¬ s.toList = [] := by rw [hd]; exact hne
    have hhead : s.data.toList.head? = some s[0] := by
      rw [List.head?_eq_getElem?, List.getElem?_eq_getElem (by rw [← hz]; exact hp)]; rfl
    by_cases hb : s[0].toNat = 48 ∧ s.data.toList ≠ [48]
    · have e2 : (s[0].toNat : Int) = 48 := by omega
      have e3 : (s.toList == [48]) = false := by rw [hd]; simpa using hb.2
      have e4 : ((s[0].toNat : Int) == 48) = true := by simpa using e2
      have HF : Hid (isTextB s.data.toList = false) := by
        show _ = _
        have h48 : s[0] = 48 := UInt8.toNat_inj.1 (by simpa using hb.1)
        unfold isTextB
        rw [hhead, h48]
        simp [hb.2]
      clear hd hz hb hhead hne
      go_enter Tryz.func144, Tryz.ntmps144
      go_wp2_with fail
      go_ret
      exact ⟨ret_bool (by rw [HF.out]), rfl⟩
    · have HH : Hid (s.data.toList ≠ [] ∧ (s.data.toList.head? ≠ some 48 ∨ s.data.toList = [48])) := by
        refine ⟨hne, ?_⟩
        by_cases hc : s[0].toNat = 48
        · right
          rcases Classical.em (s.data.toList = [48]) with h | h
          · exact h
          · exact absurd ⟨hc, h⟩ hb
        · left
          rw [hhead]
          intro e; injection e with e; rw [e] at hc; exact hc rfl
      have HZ := Lib.hid hz
      by_cases hc : s[0].toNat = 48
      all_goals
        have e3 : ((s[0].toNat : Int) == 48) = true ∧ (s.toList == [48]) = true ∨ ((s[0].toNat : Int) == 48) = false := by
          first
            | (right; simp; omega)
            | (left; refine ⟨by simp; omega, ?_⟩
               rcases Classical.em (s.data.toList = [48]) with h | h
               · rw [hd, h]; rfl
               · exact absurd ⟨hc, h⟩ hb)
        have e5 : (s[0].toNat : Int) = 48 ∨ ¬ (s[0].toNat : Int) = 48 := Classical.em _
        clear hd hz hb hhead hne hc
        rcases e3 with ⟨e3, e4⟩ | e3
        all_goals
          go_enter Tryz.func144, Tryz.ntmps144
          go_wp2_with fail
      all_goals
        clear e1 e1' e5
        go_loop [3, 17] (fun u i => ∃ j : Nat, j ≤ s.size ∧ i = .int .i64 j ∧ Hid (Digits (s.data.toList.take j))) (fun _ i => s.size - (intOf i).toNat)
        case atStart => exact ⟨0, Nat.zero_le _, rfl, fun c hc => by simp at hc⟩
        case round =>
          obtain ⟨j, hj, rfl, HD⟩ := hrel
          by_cases hlt : j < s.size
          · have hmem : Hid (s[j] ∈ s.data.toList) := by
              show _ ∈ _
              exact List.mem_of_getElem? (i := j) (by rw [List.getElem?_eq_getElem (by rw [← HZ.out]; exact hlt)]; rfl)
            by_cases h1 : (s[j].toNat : Int) < 48
            · go_wp2_with fail
              go_ret
              exact ⟨ret_bool (isTextB_false hmem.out (by unfold Digit; omega)).symm, rfl⟩
            · by_cases h2 : (57 : Int) < (s[j].toNat : Int)
              · go_wp2_with fail
                go_ret
                exact ⟨ret_bool (isTextB_false hmem.out (by unfold Digit; omega)).symm, rfl⟩
              · go_wp2_with fail
                go_round
                case rel =>
                  refine ⟨j + 1, by omega, by go_num, ?_⟩
                  show Digits _
                  rw [take_snoc8 s j hlt]
                  intro c hc
                  rcases List.mem_append.1 hc with hc | hc
                  · exact HD.out c hc
                  · rw [List.mem_singleton] at hc; subst hc; unfold Digit; omega
                case measure => simp [intOf]; omega
          · obtain rfl : j = s.size := by omega
            go_wp2_with fail
            go_ret
            have hD := HD.out
            rw [List.take_of_length_le (by rw [← HZ.out]; exact Nat.le_refl _)] at hD
            exact ⟨ret_bool (isTextB_true HH.out.1 HH.out.2 hD).symm, rfl⟩
end Go.Proofs.YtmcijgnbdnpanaaGreat
namespace Go.Proofs.YtmcijgnbdnpanaaGreat
open Go.RowKit

theorem limbs_of_full {l : List Nat} {n : Nat} (hL : Lim B64 l) (hl : l.length = n) (h : n = 0 ∨ B64 ^ (n - 1) ≤ val B64 l) : l = limbs B64 (val B64 l) := by
  obtain ⟨h1, h2⟩ := limbs_prefix B64_two hL
  have h3 : n ≤ (limbs B64 (val B64 l)).length := by
    rcases h with h | h
    · omega
    · rcases Nat.lt_or_ge (limbs B64 (val B64 l)).length n with h4 | h4
      · have := lt_pow_limbs B64_two (val B64 l)
        have h5 := Nat.pow_le_pow_right (n := B64) (by decide) (show (limbs B64 (val B64 l)).length ≤ n - 1 by omega)
        omega
      · exact h4
  have h4 : l.length - (limbs B64 (val B64 l)).length = 0 := by omega
  rw [h4, List.replicate_zero, List.append_nil] at h1
  exact h1

theorem parse_long (s : ByteArray) (w : World) (h : 20000 < s.size) (hm : s.size ≤ maxLen) :
    Calls Tryz.prog 104 #[.string s] w fun e w' => e = .returned (.tuple #[.slice none 0 0, .int .i64 2]) ∧ w = w' := by
  unfold maxLen at hm
  go_enter Tryz.func104, Tryz.ntmps104
  go_wp2_with fail
  go_ret2
  exact ⟨rfl, rfl⟩

theorem parse_form (s : ByteArray) (w : World) (h : s.size ≤ 20000) (ht : isTextB s.data.toList = false) :
    Calls Tryz.prog 104 #[.string s] w fun e w' => e = .returned (.tuple #[.slice none 0 0, .int .i64 11]) ∧ w = w' := by
  have H := Lib.hid ht
  clear ht
  go_enter Tryz.func104, Tryz.ntmps104
  go_wp2_with (go_at_call 144; refine (isText_any s w h).mono ?_; rintro e w' ⟨rfl, hw⟩; obtain rfl := hw.symm; rw [H.out])
  go_ret2
  exact ⟨rfl, rfl⟩

/-- The length of a string's value. -/
def sSize : Value → Nat
  | .string s => s.size
  | _ => 0

set_option maxRecDepth 100000 in
set_option maxHeartbeats 1000000 in
theorem parse_ok (s : ByteArray) (w : World) (h : s.size ≤ 20000) (ht : isTextB s.data.toList = true) :
    Calls Tryz.prog 104 #[.string s] w (GivesE .u64 91 w (limbs B64 (dec s.data.toList)) 0) := by
  have HD := Lib.hid (isTextB_digits ht)
  have H := Lib.hid ht
  have HS := Lib.hid (Lib.size_eq s)
  clear ht
  obtain ⟨i0, hi, hz0, hz1, hz2⟩ := info_parts info_u64
  go_enter Tryz.func104, Tryz.ntmps104
  go_wp2_with (first
    | (go_at_call 144; refine (isText_any s w h).mono ?_; rintro e w' ⟨rfl, hw⟩; obtain rfl := hw.symm; rw [H.out])
    | (at_make
       refine wpList_make_own _ rfl (.const (.int .i64 0)) (.tmp 15) 22 rfl w.heap.size 91 i0 (.int .u64 0) 1 Tryz.underlying22 hi hz0 hz1 .i64 .i64 _ (s.size / 19 + 1) rfl rfl (by omega) (by rw [hz2]; omega) (by unfold maxLen; omega) (Nat.le_refl _) ?_
       intro w1 hown1 hgrow1))
  have hb1 : Below w.heap.size w w1 := (Below.refl _ _).grown hgrow1 (Nat.le_refl _) (by simp)
  have hc1 : s.size / 19 + 1 ≤ 20000 := by omega
  have hfr1 : Fr .u64 91 w1 w.heap.size (some ⟨w.heap.size, 0, none⟩) 0 (s.size / 19 + 1) [] := ⟨rfl, hown1⟩
  go_loopw [0, 4] (fun t v wr => ∃ (r : ByteArray) (A : Option Addr) (n c : Nat) (l : List Nat), t = .string r ∧ v = .slice A n c ∧ r.size ≤ s.size ∧ n + r.size ≤ 20000 ∧ n ≤ c ∧ Hid (c ≤ maxLen) ∧ Fr .u64 91 wr w.heap.size A n c l ∧ Below w.heap.size w wr ∧
      Hid (∃ p, s.data.toList = p ++ r.data.toList ∧ l = limbs B64 (dec p) ∧ n ≤ p.length)) (fun t _ _ => sSize t)
  case atStart => exact ⟨s, _, 0, _, [], rfl, rfl, Nat.le_refl _, by omega, Nat.zero_le _, by show _ ≤ _; unfold maxLen; omega, hfr1, hb1, [], rfl, by rw [show dec [] = 0 from rfl, limbs_zero], Nat.le_refl _⟩
  case round =>
    obtain ⟨r, A, n, c, l, rfl, rfl, hr, hnr, hnc, HC, hfr, hbl, HV⟩ := hrel
    by_cases hr0 : 0 < r.size
    · obtain ⟨m, hm⟩ : ∃ m, m = (r.size - 1) % 19 + 1 := ⟨_, rfl⟩
      have hm1 : 1 ≤ m := by omega
      have hm19 : m ≤ 19 := by omega
      have hmr : m ≤ r.size := by omega
      have hme : ((r.size : Int) - 1) % 19 + 1 = (m : Int) := by omega
      clear hm
      have hdg : Hid (Digits r.data.toList) := by
        obtain ⟨p, hp, _⟩ := HV.out
        intro x hx
        exact HD.out x (by rw [hp]; simp [hx])
      have hxs : (r.extract 0 m).size ≤ 19 := by rw [ByteArray.size_extract]; omega
      have hxd : Digits (r.extract 0 m).data.toList := by
        rw [Lib.extract_data]
        intro x hx
        exact hdg.out x (List.mem_of_mem_drop (List.mem_of_mem_take hx))
      have hfd : Fr .u64 91 wr.drew w.heap.size A n c l := ⟨hfr.1, hfr.2⟩
      have HLL : Hid (Lim B64 l) := by
        obtain ⟨p, _, hl, _⟩ := HV.out
        show Lim B64 l
        rw [hl]; exact lim_limbs B64_two _
      have HDB : Hid (dec (r.data.toList.take m) < B64) := by
        show _ < _
        have h1 := dec_lt (l := r.data.toList.take m) (fun x hx => hdg.out x (List.mem_of_mem_take hx))
        have h2 : (r.data.toList.take m).length ≤ 19 := by rw [List.length_take]; omega
        exact Nat.lt_of_lt_of_le h1 (Nat.le_trans (Nat.pow_le_pow_right (by omega) h2) (show 10 ^ 19 ≤ B64 by decide))
      have HNB : Hid (n ≤ 17592186044415) := by show n ≤ _; omega
      have HXS := Lib.hid hxs
      have HXD := Lib.hid hxd
      clear hxs hxd
      go_wp2_with fail
      go_region_with (first
        | (go_at_call 146; refine (powerOfTen_any m _ hm19).mono ?_; rintro e w' ⟨rfl, rfl⟩)
        | (go_at_call 147; refine (limbOf_any (r.extract 0 m) _ HXS.out HXD.out).mono ?_; rintro e w' ⟨rfl, rfl⟩)
        | (go_at_call 145; refine (timesAnd_any l A n c (tenTo m) (dec (r.data.toList.take m)) w.heap.size wr.drew hfd HLL.out (tenTo_lt hm19) HDB.out hbl.size HNB.out hnc HC.out).mono ?_; rintro e w' ⟨A', n', c', l', rfl, hq1, hq2, hq3, hq4, hq5, hq6, hq7⟩))
      all_goals
        have HQ3 := Lib.hid hq3
        have HQ4 := Lib.hid hq4
        have HQ5 := Lib.hid hq5
        have HQ6 := Lib.hid hq6
        clear hq3 hq4 hq5 hq6
        go_wp2_with fail
        go_roundw
        case rel =>
          obtain ⟨p, hp1, hp2, hp3⟩ := HV.out
          have hsz : (r.extract m r.size).size = r.size - m := by rw [ByteArray.size_extract]; omega
          have hrl : r.data.toList.length = r.size := (Lib.size_eq r).symm
          have hval : val B64 l' = dec (p ++ r.data.toList.take m) := by
            rw [dec_append, HQ5.out, hp2, val_limbs B64_two, List.length_take, hrl, Nat.min_eq_left hmr]; rfl
          have hll : l' = limbs B64 (dec (p ++ r.data.toList.take m)) := by
            rw [← hval]
            refine limbs_of_full HQ4.out hq1.1 ?_
            have hlen : (limbs B64 (dec p)).length = n := by rw [← hp2]; exact hfr.1
            rcases HQ6.out with h5 | ⟨h5, h6⟩
            · rcases Nat.eq_zero_or_pos n with h7 | h7
              · left; omega
              · right
                rw [h5]
                have h8 := pow_le_of_length B64_two (n := dec p) (k := n - 1) (by omega)
                refine Nat.le_trans h8 ?_
                rw [hval, dec_append]
                have := Nat.mul_le_mul_left (dec p) (show 1 ≤ 10 ^ (r.data.toList.take m).length from Nat.pow_pos (by omega))
                omega
            · right; rw [h5, Nat.add_sub_cancel]; exact h6
          refine ⟨r.extract m r.size, A', n', c', l', rfl, rfl, ?_, ?_, hq2, HQ3.out, hq1, (show Below w.heap.size w wr.drew from hbl.drew).trans hq7, p ++ r.data.toList.take m, ?_, hll, ?_⟩
          · rw [hsz]; omega
          · rw [hsz]; rcases HQ6.out with h5 | ⟨h5, _⟩ <;> omega
          · rw [Lib.extract_data, List.append_assoc, List.take_of_length_le (l := r.data.toList.drop m) (by rw [List.length_drop]; omega), List.take_append_drop]
            exact hp1
          · rw [List.length_append, List.length_take]; rcases HQ6.out with h5 | ⟨h5, _⟩ <;> omega
        case measure =>
          have hsz : (r.extract m r.size).size = r.size - m := by rw [ByteArray.size_extract]; omega
          show (r.extract m r.size).size < r.size
          omega
    · go_wp2_with fail
      go_ret2
      obtain ⟨p, hp1, hp2, hp3⟩ := HV.out
      have hrl : r.data.toList = [] := List.eq_nil_of_length_eq_zero (by rw [← Lib.size_eq]; omega)
      rw [hrl, List.append_nil] at hp1
      rw [hp1, ← hp2]
      exact ⟨_, _, _, rfl, hnc, HC.out, hfr, hbl⟩
end Go.Proofs.YtmcijgnbdnpanaaGreat
