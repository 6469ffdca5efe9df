/- nat.shiftDown: limbs by a power of two below 2 to the 64, cut; z may be x itself. -/
import Derived.Test.YtflcgeehpboldaaShift
import Derived.BigRegion
namespace Go.Proofs.Ytflcgeehpboldaa
open Go.RowKit

theorem Seg.again {K : IntKind} {e : TypeId} {w : World} {g o k a : Nat} {pre P seg post : List Nat} (h : Seg K e w g pre (P ++ [a]) seg post) (ho : pre.length = o) (hP : P.length = k) (v : Nat) :
    Seg K e (w.setCell ⟨g, o + k, none⟩ (.int K (v : Int))) g pre (P ++ [v]) seg post := by
  have := Own.set_ h (o + k) v
  unfold Seg
  refine cast (congrArg (Own K e _ g) ?_) this
  rw [List.set_append_right _ _ (by omega), List.append_assoc, List.set_append_right _ _ (by omega), show o + k - pre.length - P.length = 0 by omega, List.append_assoc]
  simp

/-- The limbs of x are there, from the place on that the writing to block g has come to. -/
def Ahead (w : World) (g : Nat) (pre seg post : List Nat) (X : Option Addr) (m : Nat) (lx : List Nat) : Prop :=
  lx.length = m ∧ (0 < m → ∃ b o' : Nat, X = some ⟨b, o', none⟩ ∧ ∀ (wr : World) (P : List Nat), Seg .u64 82 wr g pre P seg post → Only g w wr → ∀ k v : Nat, P.length ≤ k → lx[k]? = some v → wr.cell? ⟨b, o' + k, none⟩ = some (.int .u64 (v : Int)))
theorem Ahead.far {w : World} {g m : Nat} {pre seg post lx : List Nat} {X : Option Addr} (hx : Rd .u64 w X m lx) (hoff : Off X m g) : Ahead w g pre seg post X m lx := by
  refine ⟨hx.1, fun hm => ?_⟩
  obtain ⟨b, o', e, _⟩ := hx.2 hm
  refine ⟨b, o', e, fun wr P _ ho k v _ hv => ?_⟩
  obtain ⟨b2, o2, e2, hc⟩ := (hx.only hoff ho).2 hm
  rw [e] at e2; cases e2
  exact hc k v hv
theorem Ahead.same {w : World} {g : Nat} {pre seg post : List Nat} : Ahead w g pre seg post (some ⟨g, pre.length, none⟩) seg.length seg := by
  refine ⟨rfl, fun _ => ⟨_, _, rfl, fun wr P hs _ k v hk hv => Own.cell_at hs ?_⟩⟩
  have := (List.getElem?_eq_some_iff.1 hv).1
  rw [List.getElem?_append_right (by omega), List.getElem?_append_right (by omega), List.getElem?_append_left (by simp; omega), List.getElem?_drop]
  rw [show P.length + (pre.length + k - pre.length - P.length) = k by omega]
  exact hv

set_option maxHeartbeats 1000000 in
theorem shiftDown_any (lx pre seg post : List Nat) (s g o n cz m c : Nat) (X : Option Addr) (w : World) (hz : Own .u64 82 w g (pre ++ (seg ++ post))) (ho : pre.length = o) (hn : seg.length = m)
    (hx : Ahead w g pre seg post X m lx) (Lx : Lim B64 lx) (hs : s < 64) (hmn : n = m) (hm : m ≤ maxLen) :
    Calls Try.prog 97 #[.slice (some ⟨g, o, none⟩) n cz, .slice X m c, .int .u64 (s : Int)] w fun e w' => e = .returned (.tuple #[]) ∧
      (∃ P, P.length = m ∧ Lim B64 P ∧ val B64 P = val B64 lx / 2 ^ s ∧ Own .u64 82 w' g (pre ++ (P ++ post))) ∧ Only g w w' := by
  subst hmn
  have HS := Lib.hid hn
  have HO := Lib.hid ho
  have HX := Lib.hid hx.1
  have hs64 : s ≤ 64 := by omega
  have hz0 := Seg.start hz
  clear hn ho
  unfold maxLen at hm
  go_enter Try.func97, Try.ntmps97
  go_wp2
  go_loopw [9] (fun i wr => ∃ (k : Nat) (P : List Nat), k ≤ n ∧ Hid (P.length = k) ∧ i = .int .i64 k ∧ Seg .u64 82 wr g pre P seg post ∧ Only g w wr ∧
      Hid (Lim B64 P ∧ val B64 P + B64 ^ k * (val B64 (lx.drop k) / 2 ^ s) = val B64 lx / 2 ^ s)) (fun i _ => n - (intOf i).toNat)
  case atStart => exact ⟨0, [], Nat.zero_le _, rfl, rfl, hz0, Only.refl _ _, Lim.nil, by simp⟩
  case round =>
    obtain ⟨k, P, hk, HP, rfl, hsg, hon, HV⟩ := hrel
    by_cases hlt : k < n
    · obtain ⟨b, o', rfl, hc⟩ := hx.2 (by omega)
      obtain ⟨v, hv⟩ : ∃ v, lx[k]? = some v := ⟨_, List.getElem?_eq_getElem (by have := HX.out; omega)⟩
      have hcv := hc wr P hsg hon k v (by have := HP.out; omega) hv
      have hks : k < seg.length := by have := HS.out; omega
      obtain ⟨u, hu⟩ : ∃ u, seg[k]? = some u := ⟨_, List.getElem?_eq_getElem hks⟩
      have hcz := hsg.cell HO.out HP.out hks hu
      have hfz := Own.frozen hsg (o + k)
      have hst := hsg.store HO.out HP.out hks (v / 2 ^ s)
      by_cases hlt1 : k + 1 < n
      · obtain ⟨v1, hv1⟩ : ∃ v, lx[k + 1]? = some v := ⟨_, List.getElem?_eq_getElem (by have := HX.out; omega)⟩
        have hcv1 := hc _ _ hst (hon.setCell _ _) (k + 1) v1 (by have := HP.out; simp; omega) hv1
        rw [← shr_nat] at hcv1
        have HVX := Lib.hid hv
        have HVX1 := Lib.hid hv1
        have HKS := Lib.hid hks
        clear hc hv hu hks hst hv1
        go_wp2
        go_region
        go_wp2
        go_roundw
        case rel =>
          obtain ⟨hL, hval⟩ := HV.out
          rw [shr_nat, or_down hs64 v v1 (Lx.get HVX.out)]
          have hd := down_step hs64 HVX.out
          rw [HVX1.out, Option.getD_some] at hd
          refine ⟨k + 1, _, by omega, by show _ = _; rw [List.length_append, HP.out]; rfl, by go_num, (hsg.store HO.out HP.out HKS.out _).again HO.out HP.out _, ((hon.setCell _ _).setCell _ _).drew, hL.snoc (down_lt hs64 (Lx.get HVX.out) v1), ?_⟩
          rw [val_snoc, HP.out, Nat.pow_succ, ← hval, hd]
          grind
        case measure => simp [intOf]; omega
      · have HVX := Lib.hid hv
        have HKS := Lib.hid hks
        clear hc hv hu hks hst
        go_wp2
        go_roundw
        case rel =>
          obtain ⟨hL, hval⟩ := HV.out
          rw [shr_nat]
          have hd := down_step hs64 HVX.out
          rw [List.getElem?_eq_none (by have := HX.out; omega), Option.getD_none, Nat.zero_mul, Nat.zero_mod, Nat.add_zero] at hd
          refine ⟨k + 1, _, by omega, by show _ = _; rw [List.length_append, HP.out]; rfl, by go_num, hsg.store HO.out HP.out HKS.out _, hon.setCell _ _, hL.snoc (Nat.lt_of_le_of_lt (Nat.div_le_self _ _) (Lx.get HVX.out)), ?_⟩
          rw [val_snoc, HP.out, Nat.pow_succ, ← hval, hd]
          grind
        case measure => simp [intOf]; omega
    · obtain rfl : k = n := by omega
      have fin := hsg.done (by have := HP.out; have := HS.out; omega)
      obtain ⟨hL, hval⟩ := HV.out
      rw [List.drop_of_length_le (by have := HX.out; omega)] at hval
      have HD := Lib.hid hval
      clear hval HV
      go_wp2
      go_end0
      refine ⟨rfl, ⟨P, HP.out, hL, ?_, fin⟩, hon⟩
      simpa using HD.out
end Go.Proofs.Ytflcgeehpboldaa
