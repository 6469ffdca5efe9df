/- nat.takeFrom: a difference, written over the first number. -/
import Derived.Test.YtflcgeehpboldaaAddTo
namespace Go.Proofs.Ytflcgeehpboldaa
open Go.RowKit

theorem sub_step {seg lx P : List Nat} {k z x y : Nat} (hzB : z < B64) (hxB : x < B64) (hy : y ≤ 1) (hP : P.length = k) (hz : seg[k]? = some z) (hx : lx[k]? = some x) (h : val B64 P + val B64 (lx.take k) = val B64 (seg.take k) + B64 ^ k * y) :
    val B64 (P ++ [subLo z x y]) + val B64 (lx.take (k + 1)) = val B64 (seg.take (k + 1)) + B64 ^ (k + 1) * subHi z x y := by
  have hp := sub_parts hzB hxB hy
  rw [val_snoc, val_take_succ hz, val_take_succ hx, hP, Nat.pow_succ]
  generalize subLo z x y = lo at *
  generalize subHi z x y = hi at *
  grind
theorem borrow_step {seg P : List Nat} {k z y V : Nat} (hzB : z < B64) (hy : y ≤ 1) (hP : P.length = k) (hz : seg[k]? = some z) (h : val B64 P + V = val B64 (seg.take k) + B64 ^ k * y) :
    val B64 (P ++ [subLo z 0 y]) + V = val B64 (seg.take (k + 1)) + B64 ^ (k + 1) * subHi z 0 y := by
  have hp := sub_parts hzB (show 0 < B64 by decide) hy
  rw [val_snoc, val_take_succ hz, hP, Nat.pow_succ]
  generalize subLo z 0 y = lo at *
  generalize subHi z 0 y = hi at *
  grind
theorem sub_end {seg P : List Nat} {n k y V : Nat} (hn : seg.length = n) (hk : k ≤ n) (hP : P.length = k) (LP : Lim B64 P) (Ls : Lim B64 seg) (hV : V ≤ val B64 seg) (h : val B64 P + V = val B64 (seg.take k) + B64 ^ k * y)
    (he : y = 0 ∨ k = n) : (P ++ seg.drop k).length = n ∧ Lim B64 (P ++ seg.drop k) ∧ val B64 (P ++ seg.drop k) = val B64 seg - V := by
  have hl : (P ++ seg.drop k).length = n := by rw [List.length_append, List.length_drop]; omega
  have hL : Lim B64 (P ++ seg.drop k) := LP.append (Ls.drop k)
  refine ⟨hl, hL, ?_⟩
  have hlt := val_lt LP
  have hs := val_take_drop (B := B64) seg k (by omega)
  have hv := val_append (B := B64) P (seg.drop k)
  rw [hP] at hv hlt
  rcases Nat.eq_zero_or_pos y with hy | hy
  · subst hy; omega
  · have hkn : k = n := by omega
    have := Nat.mul_le_mul_left (B64 ^ k) hy
    rw [List.take_of_length_le (by omega)] at h
    omega

set_option maxRecDepth 100000 in
set_option maxHeartbeats 1000000 in
theorem takeFrom_any (lx pre seg post : List Nat) (g o n cz m c : Nat) (X : Option Addr) (w : World) (hz : Own .u64 82 w g (pre ++ (seg ++ post))) (ho : pre.length = o) (hn : seg.length = n)
    (hx : Rd .u64 w X m lx) (hoff : Off X m g) (Lx : Lim B64 lx) (Lz : Lim B64 seg) (hmn : m ≤ n) (hm : n ≤ maxLen) (hle0 : val B64 lx ≤ val B64 seg) :
    Calls Try.prog 69 #[.slice (some ⟨g, o, none⟩) n cz, .slice X m c] w fun e w' => e = .returned (.tuple #[]) ∧
      (∃ P, P.length = n ∧ Lim B64 P ∧ val B64 P = val B64 seg - val B64 lx ∧ Own .u64 82 w' g (pre ++ (P ++ post))) ∧ Only g w w' := by
  have hadd := sub64_run
  have haddy := sub64_run_y
  have HS := Lib.hid hn
  have HO := Lib.hid ho
  have HX := Lib.hid hx.1
  have hz0 := Seg.start hz
  have HLE := Lib.hid hle0
  clear hn ho hle0
  unfold maxLen at hm
  go_enter Try.func69, Try.ntmps69
  go_wp2_with fail
  go_loopw [4, 10] (fun b i wr => ∃ (k : Nat) (P : List Nat) (y : Nat), k ≤ m ∧ y ≤ 1 ∧ Hid (P.length = k) ∧ i = .int .i64 k ∧ b = .int .u64 (y : Int) ∧ Seg .u64 82 wr g pre P seg post ∧ Only g w wr ∧
      Hid (Lim B64 P ∧ val B64 P + val B64 (lx.take k) = val B64 (seg.take k) + B64 ^ k * y)) (fun _ i _ => m - (intOf i).toNat)
  case atStart => exact ⟨0, [], 0, Nat.zero_le _, Nat.zero_le _, rfl, rfl, rfl, hz0, Only.refl _ _, Lim.nil, by simp⟩
  case round =>
    obtain ⟨k, P, y, hk, hy, HP, rfl, rfl, hsg, hon, HV⟩ := hrel
    by_cases hlt : k < m
    · have hx' := hx.only hoff hon
      obtain ⟨b, o', rfl, hc⟩ := hx'.at_ (by omega)
      obtain ⟨u, hu, hcu⟩ := hc k hlt
      have hks : k < seg.length := by have := HS.out; omega
      obtain ⟨z, hz⟩ : ∃ z, seg[k]? = some z := ⟨_, List.getElem?_eq_getElem hks⟩
      have hcz := hsg.cell HO.out HP.out hks hz
      have hfz := Own.frozen hsg (o + k)
      have HU := Lib.hid hu
      have HZ := Lib.hid hz
      have HKS := Lib.hid hks
      clear hc hz hu hks
      go_wp2_with fail
      go_roundw
      case rel =>
        obtain ⟨hL, hval⟩ := HV.out
        exact ⟨k + 1, _, _, by omega, subHi_le _ _ _, by show _ = _; rw [List.length_append, HP.out]; rfl, by go_num, rfl, hsg.store HO.out HP.out HKS.out _, hon.setCell _ _,
          hL.snoc (subLo_lt _ _ _), sub_step (Lz.get HZ.out) (Lx.get HU.out) hy HP.out HZ.out HU.out hval⟩
      case measure => simp [intOf]; omega
    · obtain rfl : k = m := by omega
      have HV1 : Hid (Lim B64 P ∧ val B64 P + val B64 lx = val B64 (seg.take k) + B64 ^ k * y) := by
        obtain ⟨hL, hval⟩ := HV.out
        rw [List.take_of_length_le (l := lx) (by have := HX.out; omega)] at hval
        exact ⟨hL, hval⟩
      clear HV
      go_wp2_with fail
      go_loopw [4, 7] (fun b i wr' => ∃ (j : Nat) (Q : List Nat) (t : Nat), j ≤ n ∧ t ≤ 1 ∧ Hid (Q.length = j) ∧ i = .int .i64 j ∧ b = .int .u64 (t : Int) ∧ Seg .u64 82 wr' g pre Q seg post ∧ Only g w wr' ∧
        Hid (Lim B64 Q ∧ val B64 Q + val B64 lx = val B64 (seg.take j) + B64 ^ j * t)) (fun _ i _ => n - (intOf i).toNat)
      case atStart => exact ⟨k, P, y, hmn, hy, HP, rfl, rfl, hsg, hon, HV1⟩
      case round =>
        clear HV1 hsg hon HP
        obtain ⟨j, Q, t, hj, ht, HQ, rfl, rfl, hsg, hon, HV⟩ := hrel
        by_cases ht0 : t = 0
        · subst ht0
          have fin := hsg.over HQ.out
          have hend := sub_end HS.out hj HQ.out HV.out.1 Lz HLE.out HV.out.2 (Or.inl rfl)
          have HE := Lib.hid hend
          clear hend
          go_wp2_with fail
          go_end0
          exact ⟨rfl, ⟨_, HE.out.1, HE.out.2.1, HE.out.2.2, fin⟩, hon⟩
        · have hne : ((t : Int) != 0) = true := by simp; omega
          by_cases hlt2 : j < n
          · have hks : j < seg.length := by have := HS.out; omega
            obtain ⟨z, hz⟩ : ∃ z, seg[j]? = some z := ⟨_, List.getElem?_eq_getElem hks⟩
            have hcz := hsg.cell HO.out HQ.out hks hz
            have hfz := Own.frozen hsg (o + j)
            have HZ := Lib.hid hz
            have HKS := Lib.hid hks
            clear hz hks
            go_wp2_with fail
            go_roundw
            case rel =>
              obtain ⟨hL, hval⟩ := HV.out
              exact ⟨j + 1, _, _, by omega, subHi_le _ _ _, by show _ = _; rw [List.length_append, HQ.out]; rfl, by go_num, rfl, hsg.store HO.out HQ.out HKS.out _, hon.setCell _ _,
                hL.snoc (subLo_lt _ _ _), borrow_step (Lz.get HZ.out) ht HQ.out HZ.out hval⟩
            case measure => simp [intOf]; omega
          · have fin := hsg.over HQ.out
            have hend := sub_end HS.out hj HQ.out HV.out.1 Lz HLE.out HV.out.2 (Or.inr (by omega))
            have HE := Lib.hid hend
            clear hend
            go_wp2_with fail
            go_end0
            exact ⟨rfl, ⟨_, HE.out.1, HE.out.2.1, HE.out.2.2, fin⟩, hon⟩
end Go.Proofs.Ytflcgeehpboldaa
