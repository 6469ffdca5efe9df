/- nat.shiftUp, shiftDown: limbs times and by a power of two below 2 to the 64. -/
import Derived.Test.YtflcgeehpboldaaCmp
import Derived.Test.YtflcgeehpboldaaWord
namespace Go.Proofs.Ytflcgeehpboldaa
open Go.RowKit

/-- Block g holds pre, the limbs done so far, those of seg still to come, and post. -/
def Seg (K : IntKind) (e : TypeId) (w : World) (g : Nat) (pre P seg post : List Nat) : Prop := Own K e w g (pre ++ (P ++ (seg.drop P.length ++ post)))

section
variable {K : IntKind} {e : TypeId} {w w' : World} {g : Nat} {pre P seg post : List Nat}
theorem Seg.cell {o k x : Nat} (h : Seg K e w g pre P seg post) (ho : pre.length = o) (hP : P.length = k) (hk : k < seg.length) (hx : seg[k]? = some x) : w.cell? ⟨g, o + k, none⟩ = some (.int K (x : Int)) := by
  refine Own.cell_at h ?_
  rw [List.getElem?_append_right (by omega), List.getElem?_append_right (by omega), List.getElem?_append_left (by simp; omega), List.getElem?_drop]
  rw [show P.length + (o + k - pre.length - P.length) = k by omega]
  exact hx
theorem Seg.store {o k : Nat} (h : Seg K e w g pre P seg post) (ho : pre.length = o) (hP : P.length = k) (hk : k < seg.length) (v : Nat) :
    Seg K e (w.setCell ⟨g, o + k, none⟩ (.int K (v : Int))) g pre (P ++ [v]) seg post := by
  have := Own.set_ h (o + k) v
  unfold Seg
  refine cast (congrArg (Own K e _ g) ?_) this
  rw [List.set_append_right _ _ (by omega), List.set_append_right _ _ (by omega), show o + k - pre.length - P.length = 0 by omega]
  rw [List.drop_eq_getElem_cons (by omega : P.length < seg.length), List.cons_append, List.set_cons_zero, List.append_assoc, List.length_append]
  rfl
end

theorem Seg.done {K : IntKind} {e : TypeId} {w : World} {g : Nat} {pre P seg post : List Nat} (h : Seg K e w g pre P seg post) (hP : P.length = seg.length) : Own K e w g (pre ++ (P ++ post)) := by
  unfold Seg at h
  rwa [List.drop_of_length_le (by omega), List.nil_append] at h
theorem Seg.start {K : IntKind} {e : TypeId} {w : World} {g : Nat} {pre seg post : List Nat} (h : Own K e w g (pre ++ (seg ++ post))) : Seg K e w g pre [] seg post := by
  unfold Seg; simpa using h
theorem Lim.snoc {B x : Nat} {P : List Nat} (h : Lim B P) (hx : x < B) : Lim B (P ++ [x]) := h.append (Lim.cons hx Lim.nil)

set_option maxHeartbeats 1000000 in
/-- z has as many limbs as x, or one more; where it has no more, nothing may go beyond. -/
theorem shiftUp_any (lx pre seg post : List Nat) (s g o n cz m c : Nat) (X : Option Addr) (w : World) (hz : Own .u64 82 w g (pre ++ (seg ++ post))) (ho : pre.length = o) (hn : seg.length = n)
    (hx : Rd .u64 w X m lx) (hoff : Off X m g) (Lx : Lim B64 lx) (hs : s < 64) (hmn : n = m ∧ val B64 lx * 2 ^ s < B64 ^ m ∨ n = m + 1) (hm : n ≤ maxLen) :
    Calls Try.prog 95 #[.slice (some ⟨g, o, none⟩) n cz, .slice X m c, .int .u64 (s : Int)] w fun e w' => e = .returned (.tuple #[]) ∧
      (∃ P, P.length = n ∧ Lim B64 P ∧ val B64 P = val B64 lx * 2 ^ s ∧ Own .u64 82 w' g (pre ++ (P ++ post))) ∧ Only g w w' := by
  have HM := Lib.hid hm
  have HS := Lib.hid hn
  have HO := Lib.hid ho
  have HX := Lib.hid hx.1
  have HMN := Lib.hid hmn
  have hmn' : m ≤ n := by omega
  have hs64 : s ≤ 64 := by omega
  have hz0 := Seg.start hz
  clear hn ho hmn
  unfold maxLen at hm
  go_enter Try.func95, Try.ntmps95
  go_wp2
  go_loopw [6, 11] (fun b i wr => ∃ (k : Nat) (P : List Nat) (y : Nat), k ≤ m ∧ Hid (P.length = k) ∧ i = .int .i64 k ∧ b = .int .u64 (y : Int) ∧ Seg .u64 82 wr g pre P seg post ∧ Only g w wr ∧
      Hid (y < 2 ^ s ∧ Lim B64 P ∧ val B64 P + B64 ^ k * y = val B64 (lx.take k) * 2 ^ s)) (fun _ i _ => m - (intOf i).toNat)
  case atStart => exact ⟨0, [], 0, Nat.zero_le _, rfl, rfl, rfl, hz0, Only.refl _ _, Nat.two_pow_pos s, Lim.nil, up_start⟩
  case round =>
    obtain ⟨k, P, y, hk, HP, rfl, rfl, hsg, hon, HV⟩ := hrel
    by_cases hlt : k < m
    · have hx' := hx.only hoff hon
      obtain ⟨b, o', rfl, hc⟩ := hx'.at_ (by omega)
      obtain ⟨v, hv, hcv⟩ := hc k hlt
      have hks : k < seg.length := by have := HS.out; omega
      obtain ⟨u, hu⟩ : ∃ u, seg[k]? = some u := ⟨_, List.getElem?_eq_getElem hks⟩
      have hcz := hsg.cell HO.out HP.out hks hu
      have hfz := Own.frozen hsg (o + k)
      have HVX := Lib.hid hv
      have HKS := Lib.hid hks
      clear hc hv hu hks
      go_wp2
      go_roundw
      case rel =>
        obtain ⟨hy, hL, hval⟩ := HV.out
        rw [or_up hs64 v hy, shr_nat]
        exact ⟨k + 1, _, _, by omega, by show _ = _; rw [List.length_append, HP.out]; rfl, by go_num, rfl, hsg.store HO.out HP.out HKS.out _, hon.setCell _ _,
          shr_lt hs64 (Lx.get HVX.out), hL.snoc (shl_low hs64 v hy), up_step hs64 HP.out HVX.out hval⟩
      case measure => simp [intOf]; omega
    · obtain rfl : k = m := by omega
      obtain ⟨hy, hL, hval⟩ := HV.out
      have hxl := HX.out
      rw [List.take_of_length_le (by omega)] at hval
      rcases HMN.out with ⟨e, hb⟩ | e
      · have hy0 : y = 0 := by
          rcases Nat.eq_zero_or_pos y with h | h
          · exact h
          · have := Nat.mul_le_mul_left (B64 ^ k) h
            omega
        have fin := hsg.done (by have := HP.out; have := HS.out; omega)
        have hP := HP.out
        have HD := Lib.hid hval
        have HB := Lib.hid hb
        clear HV HMN hval hb hsg hxl
        obtain rfl : k = n := by omega
        go_wp2
        go_end0
        refine ⟨rfl, ⟨P, hP, hL, ?_, fin⟩, hon⟩
        have := HD.out
        rw [hy0] at this
        simpa using this
      · have hks : k < seg.length := by have := HS.out; omega
        obtain ⟨u, hu⟩ : ∃ u, seg[k]? = some u := ⟨_, List.getElem?_eq_getElem hks⟩
        have hcz := hsg.cell HO.out HP.out hks hu
        have hfz := Own.frozen hsg (o + k)
        have hst := hsg.store HO.out HP.out hks y
        have HD := Lib.hid hval
        have HKS := Lib.hid hks
        have HE := Lib.hid e
        have hkn : k < n := by omega
        clear HV HMN hval hu hks hxl e
        go_wp2
        go_end0
        refine ⟨rfl, ⟨P ++ [y], ?_, hL.snoc (Nat.lt_of_lt_of_le hy ?_), ?_, hst.done ?_⟩, hon.setCell _ _⟩
        · have := HP.out; have := HE.out; simp; omega
        · exact Nat.pow_le_pow_right (by omega) hs64
        · rw [val_snoc, HP.out]; exact HD.out
        · have := HP.out; have := HE.out; have := HS.out; simp; omega
end Go.Proofs.Ytflcgeehpboldaa
