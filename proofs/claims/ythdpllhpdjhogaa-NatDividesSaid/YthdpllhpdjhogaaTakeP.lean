/- nat.takeProduct: a product with a limb, taken from a number of one limb more. -/
import Derived.Test.YthdpllhpdjhogaaGuess
import Derived.Test.YthdpllhpdjhogaaTake
namespace Go.Proofs.Ythdpllhpdjhogaa
open Go.RowKit

theorem tp_step {seg lx P : List Nat} {k z x y v cc : Nat} (hzB : z < B64) (hy : y ≤ 1) (hP : P.length = k) (hz : seg[k]? = some z) (hx : lx[k]? = some x) (h : val B64 P + val B64 (lx.take k) * v = val B64 (seg.take k) + B64 ^ k * (y + cc)) :
    val B64 (P ++ [subLo z (maLo x v cc) y]) + val B64 (lx.take (k + 1)) * v = val B64 (seg.take (k + 1)) + B64 ^ (k + 1) * (subHi z (maLo x v cc) y + maHi x v cc) := by
  have hp := sub_parts hzB (maLo_lt x v cc) hy
  have hm := ma_parts x v cc
  rw [val_snoc, val_take_succ hz, val_take_succ hx, hP, Nat.pow_succ]
  generalize subLo z (maLo x v cc) y = sl at *
  generalize subHi z (maLo x v cc) y = sh at *
  generalize maLo x v cc = lo at *
  generalize maHi x v cc = hi at *
  grind
theorem tp_end {seg lx P : List Nat} {k z y v cc : Nat} (hzB : z < B64) (hcB : cc < B64) (hy : y ≤ 1) (hP : P.length = k) (hz : seg[k]? = some z) (hn : seg.length = k + 1) (h : val B64 P + val B64 lx * v = val B64 (seg.take k) + B64 ^ k * (y + cc)) :
    val B64 (P ++ [subLo z cc y]) + val B64 lx * v = val B64 seg + B64 ^ (k + 1) * subHi z cc y := by
  have hp := sub_parts hzB hcB hy
  have hs : val B64 seg = val B64 (seg.take k) + B64 ^ k * z := by
    rw [← val_take_succ hz, List.take_of_length_le (by omega)]
  rw [val_snoc, hs, hP, Nat.pow_succ]
  generalize subLo z cc y = sl at *
  generalize subHi z cc y = sh at *
  grind

set_option maxRecDepth 100000 in
set_option maxHeartbeats 1000000 in
/-- z has one limb more than x. -/
theorem takeProduct_any (lx pre seg post : List Nat) (v g o n cz c : Nat) (X : Option Addr) (w : World) (hz : Own .u64 34 w g (pre ++ (seg ++ post))) (ho : pre.length = o) (hn : seg.length = n + 1)
    (hx : Rd .u64 w X n lx) (hoff : Off X n g) (Lx : Lim B64 lx) (Lz : Lim B64 seg) (hv : v < B64) (hm : n + 1 ≤ maxLen) :
    Calls Try.prog 88 #[.slice (some ⟨g, o, none⟩) (n + 1) cz, .slice X n c, .int .u64 (v : Int)] w fun e w' =>
      (∃ (P : List Nat) (y : Nat), e = .returned (.bool ((y : Int) != 0)) ∧ y ≤ 1 ∧ P.length = n + 1 ∧ Lim B64 P ∧ val B64 P + val B64 lx * v = val B64 seg + B64 ^ (n + 1) * y ∧ Own .u64 34 w' g (pre ++ (P ++ post))) ∧ Only g w w' := by
  have hadd := sub64_run
  have HS := Lib.hid hn
  have HO := Lib.hid ho
  have HX := Lib.hid hx.1
  have hz0 := Seg.start hz
  clear hn ho
  unfold maxLen at hm
  go_enter Try.func88, Try.ntmps88
  go_wp2_with fail
  go_loopw [7, 8, 14] (fun cy b i wr => ∃ (k : Nat) (P : List Nat) (y cc : Nat), k ≤ n ∧ y ≤ 1 ∧ Hid (P.length = k) ∧ i = .int .i64 k ∧ b = .int .u64 (y : Int) ∧ cy = .int .u64 (cc : Int) ∧ Seg .u64 34 wr g pre P seg post ∧ Only g w wr ∧
      Hid (cc < B64 ∧ Lim B64 P ∧ val B64 P + val B64 (lx.take k) * v = val B64 (seg.take k) + B64 ^ k * (y + cc))) (fun _ _ i _ => n - (intOf i).toNat)
  case atStart => exact ⟨0, [], 0, 0, Nat.zero_le _, Nat.zero_le _, rfl, rfl, rfl, rfl, hz0, Only.refl _ _, by decide, Lim.nil, by simp⟩
  case round =>
    obtain ⟨k, P, y, cc, hk, hy, HP, rfl, rfl, rfl, hsg, hon, HV⟩ := hrel
    by_cases hlt : k < n
    · have hx' := hx.only hoff hon
      obtain ⟨b, o', rfl, hc⟩ := hx'.at_ (by omega)
      obtain ⟨u, hu, hcu⟩ := hc k hlt
      have hks : k < seg.length := by have := HS.out; omega
      obtain ⟨z, hz⟩ : ∃ z, seg[k]? = some z := ⟨_, List.getElem?_eq_getElem hks⟩
      have hcz := hsg.cell HO.out HP.out hks hz
      have hfz := Own.frozen hsg (o + k)
      have HU := Lib.hid hu
      have HZ := Lib.hid hz
      have HKS := Lib.hid hks
      clear hc hz hu hks
      go_wp2_with (go_at_call 84; (with_reducible refine (mulAdd_any u v cc (Lx.get HU.out) hv HV.out.1 _).mono ?_); rintro e w' ⟨rfl, rfl⟩)
      go_roundw
      case rel =>
        obtain ⟨hcB, hL, hval⟩ := HV.out
        exact ⟨k + 1, _, _, _, by omega, subHi_le _ _ _, by show _ = _; rw [List.length_append, HP.out]; rfl, by go_num, rfl, rfl, hsg.store HO.out HP.out HKS.out _, hon.setCell _ _,
          maHi_lt (Lx.get HU.out) hv hcB, hL.snoc (subLo_lt _ _ _), tp_step (Lz.get HZ.out) hy HP.out HZ.out HU.out hval⟩
      case measure => simp [intOf]; omega
    · obtain rfl : k = n := by omega
      have hks : k < seg.length := by have := HS.out; omega
      obtain ⟨z, hz⟩ : ∃ z, seg[k]? = some z := ⟨_, List.getElem?_eq_getElem hks⟩
      have hcz := hsg.cell HO.out HP.out hks hz
      have hfz := Own.frozen hsg (o + k)
      have HZ := Lib.hid hz
      have HKS := Lib.hid hks
      clear hz hks
      go_wp2_with fail
      go_ret
      obtain ⟨hcB, hL, hval⟩ := HV.out
      rw [List.take_of_length_le (l := lx) (by have := HX.out; omega)] at hval
      have hst := hsg.store HO.out HP.out HKS.out (subLo z cc y)
      have hl : (P ++ [subLo z cc y]).length = k + 1 := by rw [List.length_append, HP.out]; rfl
      exact ⟨⟨_, _, rfl, subHi_le _ _ _, hl, hL.snoc (subLo_lt _ _ _), tp_end (Lz.get HZ.out) hcB hy HP.out HZ.out HS.out hval, hst.done (by rw [hl, HS.out])⟩, hon.setCell _ _⟩
end Go.Proofs.Ythdpllhpdjhogaa
