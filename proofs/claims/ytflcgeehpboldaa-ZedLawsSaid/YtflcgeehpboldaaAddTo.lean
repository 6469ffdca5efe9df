/- nat.addTo, takeFrom: a sum, a difference, written over the first number. -/
import Derived.Test.YtflcgeehpboldaaMul
namespace Go.Proofs.Ytflcgeehpboldaa
open Go.RowKit

theorem add_step {seg lx P : List Nat} {k z x y : Nat} (hP : P.length = k) (hz : seg[k]? = some z) (hx : lx[k]? = some x) (h : val B64 P + B64 ^ k * y = val B64 (seg.take k) + val B64 (lx.take k)) :
    val B64 (P ++ [addLo z x y]) + B64 ^ (k + 1) * addHi z x y = val B64 (seg.take (k + 1)) + val B64 (lx.take (k + 1)) := by
  have hp := add_parts z x y
  rw [val_snoc, val_take_succ hz, val_take_succ hx, hP, Nat.pow_succ]
  generalize addLo z x y = lo at *
  generalize addHi z x y = hi at *
  grind
theorem carry_step {seg P : List Nat} {k z y V : Nat} (hP : P.length = k) (hz : seg[k]? = some z) (h : val B64 P + B64 ^ k * y = val B64 (seg.take k) + V) :
    val B64 (P ++ [addLo z 0 y]) + B64 ^ (k + 1) * addHi z 0 y = val B64 (seg.take (k + 1)) + V := by
  have hp := add_parts z 0 y
  rw [val_snoc, val_take_succ hz, hP, Nat.pow_succ]
  generalize addLo z 0 y = lo at *
  generalize addHi z 0 y = hi at *
  grind
theorem add_end {seg P : List Nat} {n k y V : Nat} (hn : seg.length = n) (hk : k ≤ n) (hP : P.length = k) (LP : Lim B64 P) (Ls : Lim B64 seg) (hy : y ≤ 1) (h : val B64 P + B64 ^ k * y = val B64 (seg.take k) + V)
    (he : y = 0 ∨ k = n) : (P ++ seg.drop k).length = n ∧ Lim B64 (P ++ seg.drop k) ∧ val B64 (P ++ seg.drop k) = (val B64 seg + V) % B64 ^ n := by
  have hl : (P ++ seg.drop k).length = n := by rw [List.length_append, List.length_drop]; omega
  have hL : Lim B64 (P ++ seg.drop k) := LP.append (Ls.drop k)
  refine ⟨hl, hL, ?_⟩
  have hlt := val_lt hL
  rw [hl] at hlt
  rcases he with he | he
  · subst he
    have e : val B64 (P ++ seg.drop k) = val B64 seg + V := by
      rw [val_append, hP, val_take_drop seg k (by omega)]; omega
    rw [← e, Nat.mod_eq_of_lt hlt]
  · subst he
    rw [List.drop_of_length_le (by omega), List.append_nil] at hlt ⊢
    rw [List.take_of_length_le (by omega)] at h
    rw [← h]
    have : y = 0 ∨ y = 1 := by omega
    rcases this with rfl | rfl
    · simp [Nat.mod_eq_of_lt hlt]
    · simp [Nat.mod_eq_of_lt hlt]
theorem Seg.over {K : IntKind} {e : TypeId} {w : World} {g : Nat} {pre P seg post : List Nat} {k : Nat} (h : Seg K e w g pre P seg post) (hP : P.length = k) : Own K e w g (pre ++ ((P ++ seg.drop k) ++ post)) := by
  unfold Seg at h
  rw [hP] at h
  rwa [List.append_assoc]

set_option maxRecDepth 100000 in
set_option maxHeartbeats 1000000 in
theorem addTo_any (lx pre seg post : List Nat) (g o n cz m c : Nat) (X : Option Addr) (w : World) (hz : Own .u64 82 w g (pre ++ (seg ++ post))) (ho : pre.length = o) (hn : seg.length = n)
    (hx : Rd .u64 w X m lx) (hoff : Off X m g) (Lx : Lim B64 lx) (Lz : Lim B64 seg) (hmn : m ≤ n) (hm : n ≤ maxLen) :
    Calls Try.prog 67 #[.slice (some ⟨g, o, none⟩) n cz, .slice X m c] w fun e w' => e = .returned (.tuple #[]) ∧
      (∃ P, P.length = n ∧ Lim B64 P ∧ val B64 P = (val B64 seg + val B64 lx) % B64 ^ n ∧ Own .u64 82 w' g (pre ++ (P ++ post))) ∧ Only g w w' := by
  have hadd := add64_run
  have haddy := add64_run_y
  have HS := Lib.hid hn
  have HO := Lib.hid ho
  have HX := Lib.hid hx.1
  have hz0 := Seg.start hz
  clear hn ho
  unfold maxLen at hm
  go_enter Try.func67, Try.ntmps67
  go_wp2_with fail
  go_loopw [4, 10] (fun b i wr => ∃ (k : Nat) (P : List Nat) (y : Nat), k ≤ m ∧ y ≤ 1 ∧ Hid (P.length = k) ∧ i = .int .i64 k ∧ b = .int .u64 (y : Int) ∧ Seg .u64 82 wr g pre P seg post ∧ Only g w wr ∧
      Hid (Lim B64 P ∧ val B64 P + B64 ^ k * y = val B64 (seg.take k) + val B64 (lx.take k))) (fun _ i _ => m - (intOf i).toNat)
  case atStart => exact ⟨0, [], 0, Nat.zero_le _, Nat.zero_le _, rfl, rfl, rfl, hz0, Only.refl _ _, Lim.nil, by simp⟩
  case round =>
    obtain ⟨k, P, y, hk, hy, HP, rfl, rfl, hsg, hon, HV⟩ := hrel
    by_cases hlt : k < m
    · have hx' := hx.only hoff hon
      obtain ⟨b, o', rfl, hc⟩ := hx'.at_ (by omega)
      obtain ⟨u, hu, hcu⟩ := hc k hlt
      have hks : k < seg.length := by have := HS.out; omega
      obtain ⟨z, hz⟩ : ∃ z, seg[k]? = some z := ⟨_, List.getElem?_eq_getElem hks⟩
      have hcz := hsg.cell HO.out HP.out hks hz
      have hfz := Own.frozen hsg (o + k)
      have HU := Lib.hid hu
      have HZ := Lib.hid hz
      have HKS := Lib.hid hks
      clear hc hz hu hks
      go_wp2_with fail
      go_roundw
      case rel =>
        obtain ⟨hL, hval⟩ := HV.out
        exact ⟨k + 1, _, _, by omega, addHi_le (Lz.get HZ.out) (Lx.get HU.out) hy, by show _ = _; rw [List.length_append, HP.out]; rfl, by go_num, rfl, hsg.store HO.out HP.out HKS.out _, hon.setCell _ _,
          hL.snoc (addLo_lt _ _ _), add_step HP.out HZ.out HU.out hval⟩
      case measure => simp [intOf]; omega
    · obtain rfl : k = m := by omega
      have HV1 : Hid (Lim B64 P ∧ val B64 P + B64 ^ k * y = val B64 (seg.take k) + val B64 lx) := by
        obtain ⟨hL, hval⟩ := HV.out
        rw [List.take_of_length_le (l := lx) (by have := HX.out; omega)] at hval
        exact ⟨hL, hval⟩
      clear HV
      go_wp2_with fail
      go_loopw [4, 7] (fun b i wr' => ∃ (j : Nat) (Q : List Nat) (t : Nat), j ≤ n ∧ t ≤ 1 ∧ Hid (Q.length = j) ∧ i = .int .i64 j ∧ b = .int .u64 (t : Int) ∧ Seg .u64 82 wr' g pre Q seg post ∧ Only g w wr' ∧
        Hid (Lim B64 Q ∧ val B64 Q + B64 ^ j * t = val B64 (seg.take j) + val B64 lx)) (fun _ i _ => n - (intOf i).toNat)
      case atStart => exact ⟨k, P, y, hmn, hy, HP, rfl, rfl, hsg, hon, HV1⟩
      case round =>
        clear HV1 hsg hon HP
        obtain ⟨j, Q, t, hj, ht, HQ, rfl, rfl, hsg, hon, HV⟩ := hrel
        by_cases ht0 : t = 0
        · subst ht0
          have fin := hsg.over HQ.out
          have hend := add_end HS.out hj HQ.out HV.out.1 Lz (Nat.zero_le 1) HV.out.2 (Or.inl rfl)
          have HE := Lib.hid hend
          clear hend
          go_wp2_with fail
          go_end0
          exact ⟨rfl, ⟨_, HE.out.1, HE.out.2.1, HE.out.2.2, fin⟩, hon⟩
        · have hne : ((t : Int) != 0) = true := by simp; omega
          by_cases hlt2 : j < n
          · have hks : j < seg.length := by have := HS.out; omega
            obtain ⟨z, hz⟩ : ∃ z, seg[j]? = some z := ⟨_, List.getElem?_eq_getElem hks⟩
            have hcz := hsg.cell HO.out HQ.out hks hz
            have hfz := Own.frozen hsg (o + j)
            have HZ := Lib.hid hz
            have HKS := Lib.hid hks
            clear hz hks
            go_wp2_with fail
            go_roundw
            case rel =>
              obtain ⟨hL, hval⟩ := HV.out
              exact ⟨j + 1, _, _, by omega, addHi_le (Lz.get HZ.out) (by decide) ht, by show _ = _; rw [List.length_append, HQ.out]; rfl, by go_num, rfl, hsg.store HO.out HQ.out HKS.out _, hon.setCell _ _,
                hL.snoc (addLo_lt _ _ _), carry_step HQ.out HZ.out hval⟩
            case measure => simp [intOf]; omega
          · have fin := hsg.over HQ.out
            have hend := add_end HS.out hj HQ.out HV.out.1 Lz ht HV.out.2 (Or.inr (by omega))
            have HE := Lib.hid hend
            clear hend
            go_wp2_with fail
            go_end0
            exact ⟨rfl, ⟨_, HE.out.1, HE.out.2.1, HE.out.2.2, fin⟩, hon⟩
end Go.Proofs.Ytflcgeehpboldaa
