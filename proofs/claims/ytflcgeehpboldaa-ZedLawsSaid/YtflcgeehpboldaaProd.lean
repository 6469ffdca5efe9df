/- nat.limbProduct, product and Mul where limb by limb goes. -/
import Derived.Test.YtflcgeehpboldaaMul
namespace Go.Proofs.Ytflcgeehpboldaa
open Go.RowKit

section
variable {K : IntKind} {e : TypeId} {w : World} {g j z : Nat} {Q R : List Nat}
theorem Own.cell_len (h : Own K e w g (Q ++ (z :: R))) (hQ : Q.length = j) : w.cell? ⟨g, j, none⟩ = some (.int K (z : Int)) :=
  h.cell_at (by rw [List.getElem?_append_right (by omega), hQ, Nat.sub_self]; rfl)
theorem Own.store_len (h : Own K e w g (Q ++ (z :: R))) (hQ : Q.length = j) (v : Nat) : Own K e (w.setCell ⟨g, j, none⟩ (.int K (v : Int))) g ((Q ++ [v]) ++ R) := by
  have := h.set_ j v
  rw [List.set_append_right _ _ (by omega), hQ, Nat.sub_self, List.set_cons_zero] at this
  rw [List.append_assoc]; exact this
end
theorem zeros_succ {m k : Nat} (h : k < m) : List.replicate (m - k) 0 = 0 :: List.replicate (m - (k + 1)) 0 := by
  rw [show m - k = m - (k + 1) + 1 by omega, List.replicate_succ]

theorem lp_step {P S : List Nat} {i n v y : Nat} {la lb : List Nat} (hP : P.length = n + i) (hS : S.length = n) (hv : lb[i]? = some v)
    (h : val B64 P = val B64 la * val B64 (lb.take i)) (hs : val B64 S + B64 ^ n * y = val B64 (P.drop i) + val B64 la * v) :
    val B64 ((P.take i ++ S) ++ [y]) = val B64 la * val B64 (lb.take (i + 1)) := by
  rw [val_take_succ hv, val_snoc, val_append, List.length_append, List.length_take, Nat.min_eq_left (by omega), hS, Nat.pow_add, Nat.mul_add, ← h]
  have hp := val_take_drop (B := B64) P i (by omega)
  rw [hp]
  generalize val B64 (P.take i) = p at *
  generalize val B64 (P.drop i) = q at *
  generalize val B64 S = s at *
  generalize val B64 la = a at *
  generalize B64 ^ i = b at *
  generalize B64 ^ n = c at *
  grind

theorem addProduct_at (n1 : Nat) (lx pre seg post : List Nat) (v g o n cz c : Nat) (X : Option Addr) (w : World) (hn1 : n1 = n) (hz : Own .u64 82 w g (pre ++ (seg ++ post))) (ho : pre.length = o) (hn : seg.length = n)
    (hx : Rd .u64 w X n lx) (hoff : Off X n g) (Lx : Lim B64 lx) (Lz : Lim B64 seg) (hv : v < B64) (hm : n ≤ maxLen) :
    Calls Try.prog 101 #[.slice (some ⟨g, o, none⟩) n1 cz, .slice X n c, .int .u64 (v : Int)] w fun e w' => 
      (∃ P y, e = .returned (.int .u64 (y : Nat)) ∧ y < B64 ∧ P.length = n ∧ Lim B64 P ∧ val B64 P + B64 ^ n * y = val B64 seg + val B64 lx * v ∧ Own .u64 82 w' g (pre ++ (P ++ post))) ∧ Only g w w' := by
  subst hn1; exact addProduct_any lx pre seg post v g o n1 cz c X w hz ho hn hx hoff Lx Lz hv hm

set_option maxRecDepth 100000 in
set_option maxHeartbeats 1000000 in
theorem limbProduct_any (la lb : List Nat) (A B : Option Addr) (n c m d : Nat) (w : World) (ha : Rd .u64 w A n la) (hb : Rd .u64 w B m lb) (La : Lim B64 la) (Lb : Lim B64 lb) (hnm0 : n + m ≤ 35184372088832) :
    Calls Try.prog 89 #[.slice A n c, .slice B m d] w fun e w' =>
      e = .returned (.slice (some ⟨w.heap.size, 0, none⟩) (n + m) (n + m)) ∧ (∃ L, L.length = n + m ∧ Lim B64 L ∧ val B64 L = val B64 la * val B64 lb ∧ Own .u64 82 w' w.heap.size L) ∧ Below w.heap.size w w' := by
  have hnm : n + m ≤ 2 ^ 45 := by omega
  have HNM := Lib.hid hnm0
  have HB := Lib.hid hb.1
  clear hnm0
  go_enter Try.func89, Try.ntmps89
  go_wp2_with (at_make; refine wpList_make64 _ rfl (.tmp 12) (.tmp 12) rfl .i64 .i64 _ _ (n + m) rfl rfl (by omega) (by omega) HNM.out ?_; intro w1 hown1 hb1)
  go_loopw [16] (fun i wr => ∃ (k : Nat) (P : List Nat), k ≤ m ∧ i = .int .i64 k ∧ Hid (P.length = n + k) ∧ Own .u64 82 wr w.heap.size (P ++ List.replicate (m - k) 0) ∧ Only w.heap.size w1 wr ∧
      Hid (Lim B64 P ∧ val B64 P = val B64 la * val B64 (lb.take k))) (fun i _ => m - (intOf i).toNat)
  case atStart => exact ⟨0, List.replicate n 0, Nat.zero_le _, rfl, by show _ = _; simp, by rw [List.replicate_append_replicate]; exact hown1, Only.refl _ _, Lim.zeros _ (by decide), by rw [val_zeros]; simp⟩
  case round =>
    obtain ⟨k, P, hk, rfl, HP, hown, hon, HV⟩ := hrel
    by_cases hlt : k < m
    · have hb2 : Below w.heap.size w wr := Below.only hb1 (Nat.le_refl _) hb1.size hon
      have hb' := hb.below hb2
      have ha' := ha.below hb2
      obtain ⟨b, o', rfl, hc⟩ := hb'.at_ (by omega)
      obtain ⟨v, hv, hcv⟩ := hc k hlt
      have HVX := Lib.hid hv
      have hz : Hid (Own .u64 82 wr w.heap.size (P.take k ++ (P.drop k ++ List.replicate (m - k) 0))) := by
        show Own _ _ _ _ _
        rw [← List.append_assoc, List.take_append_drop]; exact hown
      have hl1 : Hid ((P.take k).length = k) := by show _ = _; rw [List.length_take, HP.out]; omega
      have hl2 : Hid ((P.drop k).length = n) := by show _ = _; rw [List.length_drop, HP.out]; omega
      clear hc hv
      go_wp2_with (first
        | (go_at_call 101
           refine (addProduct_at _ la (P.take k) (P.drop k) (List.replicate (m - k) 0) v w.heap.size k n _ c A wr (by omega) hz.out hl1.out hl2.out ha' (Off.of_lt ha (Nat.le_refl _)) La (HV.out.1.drop _) (Lb.get HVX.out) (by unfold maxLen; omega)).mono ?_
           rintro e w2 ⟨⟨S, y, rfl, hy, hS1, hS2, hS3, hS4⟩, hon2⟩
           have hQ : (P.take k ++ S).length = k + n := by rw [List.length_append, hl1.out, hS1]
           rw [zeros_succ hlt, ← List.append_assoc] at hS4
           have hcz := hS4.cell_len hQ
           have hfz := Own.frozen hS4 (k + n)
           have HQ := Lib.hid hQ
           have HS1 := Lib.hid hS1
           have HS3 := Lib.hid hS3
           clear hQ hS1 hS3))
      go_roundw
      case rel =>
        obtain ⟨hL, hval⟩ := HV.out
        refine ⟨k + 1, (P.take k ++ S) ++ [y], by omega, by go_num, ?_, hS4.store_len HQ.out y, (hon.trans hon2).setCell _ _, ((hL.take _).append hS2).snoc hy, lp_step HP.out HS1.out HVX.out hval HS3.out⟩
        show _ = _
        rw [List.length_append, HQ.out]; simp; omega
      case measure => simp [intOf]; omega
    · obtain rfl : k = m := by omega
      go_wp2_with fail
      go_ret
      obtain ⟨hL, hval⟩ := HV.out
      rw [List.take_of_length_le (by have := HB.out; omega)] at hval
      exact ⟨rfl, ⟨P, HP.out, hL, hval, by simpa using hown⟩, Below.only hb1 (Nat.le_refl _) hb1.size hon⟩
end Go.Proofs.Ytflcgeehpboldaa
