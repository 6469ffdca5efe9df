/- nat.timesAnd: a number times a limb and a limb, written over it. -/
import Derived.Test.YthdpllhpdjhogaaGrow
import Derived.Test.YthdpllhpdjhogaaMul
namespace Go.Proofs.Ythdpllhpdjhogaa
open Go.RowKit

theorem ta_step {l P : List Nat} {k x v y cc : Nat} (hP : P.length = k) (hx : l[k]? = some x) (h : val B64 P + B64 ^ k * y = val B64 (l.take k) * v + cc) :
    val B64 (P ++ [maLo x v y]) + B64 ^ (k + 1) * maHi x v y = val B64 (l.take (k + 1)) * v + cc := by
  have hp := ma_parts x v y
  rw [val_snoc, val_take_succ hx, hP, Nat.pow_succ]
  generalize maLo x v y = lo at *
  generalize maHi x v y = hi at *
  grind

set_option maxRecDepth 100000 in
set_option maxHeartbeats 1000000 in
theorem timesAnd_any (l : List Nat) (A : Option Addr) (n c v cc B : Nat) (w : World) (h : Fr .u64 34 w B A n c l) (hL : Lim B64 l) (hv : v < B64) (hcc : cc < B64) (hB : B ≤ w.heap.size) (hn0 : n ≤ 17592186044415) (hnc : n ≤ c) (hc : c ≤ maxLen) :
    Calls Try.prog 63 #[.slice A n c, .int .u64 (v : Int), .int .u64 (cc : Int)] w fun e w' =>
      ∃ A' n' c' l', e = .returned (.slice A' n' c') ∧ Fr .u64 34 w' B A' n' c' l' ∧ n' ≤ c' ∧ c' ≤ maxLen ∧ Lim B64 l' ∧ val B64 l' = val B64 l * v + cc ∧ (n' = n ∨ n' = n + 1 ∧ B64 ^ n ≤ val B64 l') ∧ Below B w w' := by
  have hn : n ≤ 2 ^ 45 := by omega
  have HN := Lib.hid hn0
  have HL := Lib.hid h.1
  clear hn0
  go_enter Try.func63, Try.ntmps63
  go_wp2_with fail
  go_loopw [2, 10] (fun b i wr => ∃ (k : Nat) (P : List Nat) (y : Nat), k ≤ n ∧ i = .int .i64 k ∧ b = .int .u64 (y : Int) ∧ Fr .u64 34 wr B A n c (P ++ l.drop k) ∧ Below B w wr ∧
      Hid (P.length = k ∧ y < B64 ∧ Lim B64 P ∧ val B64 P + B64 ^ k * y = val B64 (l.take k) * v + cc)) (fun _ i _ => n - (intOf i).toNat)
  case atStart => exact ⟨0, [], cc, Nat.zero_le _, rfl, rfl, h, Below.refl _ _, rfl, hcc, Lim.nil, by simp⟩
  case round =>
    obtain ⟨k, P, y, hk, rfl, rfl, hfr, hbl, HV⟩ := hrel
    by_cases hlt : k < n
    · obtain ⟨g, R, hA, hg, hvw, hc1, hc2, hR⟩ := hfr.opened (by omega)
      subst hA
      obtain ⟨x, hx⟩ : ∃ x, l[k]? = some x := ⟨_, List.getElem?_eq_getElem (by have := HL.out; omega)⟩
      have hkl : k < l.length := by have := HL.out; omega
      have hcz : wr.cell? ⟨g, k, none⟩ = some (.int .u64 (x : Int)) := by
        refine hvw.cell ?_
        rw [List.getElem?_append_left (by rw [length_nums, List.length_append, List.length_drop]; have := HV.out.1; omega), nums_get, List.getElem?_append_right (by have := HV.out.1; omega), List.getElem?_drop, HV.out.1]
        rw [show k + (k - k) = k by omega, hx]; rfl
      have hfz := hvw.frozen k
      have hst := hvw.set_ k (.int .u64 (maLo x v y : Nat))
      have hnew : Hid (Vow 34 (wr.setCell ⟨g, k, none⟩ (.int .u64 (maLo x v y : Nat))) g (nums .u64 ((P ++ [maLo x v y]) ++ l.drop (k + 1)) ++ R)) := by
        show Vow _ _ _ _
        refine cast (congrArg (Vow _ _ g) ?_) hst
        rw [List.set_append_left _ _ (by rw [length_nums, List.length_append, List.length_drop]; have := HV.out.1; omega), ← nums_set, List.set_append_right _ _ (by have := HV.out.1; omega), HV.out.1, Nat.sub_self,
          List.drop_eq_getElem_cons hkl, List.set_cons_zero, List.append_assoc]
        rfl
      have HX := Lib.hid hx
      have HR := Lib.hid hR
      have HF := Lib.hid hfr.1
      clear hst hx hR hfr hkl
      go_wp2_with (go_at_call 84; (with_reducible refine (mulAdd_any x v y (hL.get HX.out) hv HV.out.2.1 _).mono ?_); rintro e w' ⟨rfl, rfl⟩)
      go_roundw
      case rel =>
        obtain ⟨h1, h2, h3, h4⟩ := HV.out
        refine ⟨k + 1, P ++ [maLo x v y], maHi x v y, by omega, by go_num, rfl, Fr.shut hnew.out hg ?_ HR.out hc2, hbl.setCell (p := ⟨g, k, none⟩) hg _, by simp; omega, maHi_lt (hL.get HX.out) hv h2, h3.append (Lim.cons (maLo_lt _ _ _) Lim.nil), ta_step h1 HX.out h4⟩
        have := HL.out
        simp; omega
      case measure => simp [intOf]; omega
    · obtain rfl : k = n := by omega
      obtain ⟨h1, h2, h3, h4⟩ := HV.out
      rw [List.take_of_length_le (by have := HL.out; omega)] at h4
      rw [List.drop_of_length_le (by have := HL.out; omega), List.append_nil] at hfr
      have H := Lib.hid h4
      have HP := Lib.hid h1
      clear h4 h1 HV
      by_cases hy : y = 0
      · subst hy
        go_wp2_with fail
        go_ret
        exact ⟨_, _, _, P, rfl, hfr, hnc, hc, h3, by have := H.out; omega, Or.inl rfl, hbl⟩
      · have hne : ((y : Int) == 0) = false := by simp; omega
        have hB' : B ≤ wr.heap.size := Nat.le_trans hB hbl.size
        have hfr2 : Fr .u64 34 (wr.alloc (.cells #[.int .u64 (y : Int)] 34)) B A k c P := hfr.below (B' := wr.heap.size) ((Below.refl _ _).alloc (Nat.le_refl _) _) (Nat.le_refl _)
        have hbl2 : Below B w (wr.alloc (.cells #[.int .u64 (y : Int)] 34)) := hbl.alloc hB' _
        have hcell : (wr.alloc (.cells #[.int .u64 (y : Int)] 34)).cell? ⟨wr.heap.size, 0, none⟩ = some (.int .u64 (y : Int)) := by rw [World.cell?_alloc_new]; rfl
        have HC := Lib.hid hcell
        clear hcell
        go_wp2_with (first
          | (at_builtin
             refine wpList_append1 .u64 22 34 8 (.int .u64 0) rfl Try.underlying22 info_u64 (by omega) _ rfl (.tmp 30) (.tmp 32) rfl B A k c P rfl hfr2 wr.heap.size 1 y rfl HC.out HN.out (Nat.le_trans hB hbl2.size) ?_
             intro A' c' w' hfr3 h5 h6 hb3 hgrow))
        go_ret
        have hv2 : val B64 (P ++ [y]) = val B64 l * v + cc := by rw [val_snoc, HP.out]; exact H.out
        refine ⟨_, _, _, P ++ [y], rfl, hfr3, h5, h6, h3.append (Lim.cons h2 Lim.nil), hv2, Or.inr ⟨rfl, ?_⟩, hbl2.trans hb3⟩
        rw [val_snoc, HP.out]
        have := Nat.mul_le_mul_left (B64 ^ k) (show 1 ≤ y by omega)
        omega
end Go.Proofs.Ythdpllhpdjhogaa
