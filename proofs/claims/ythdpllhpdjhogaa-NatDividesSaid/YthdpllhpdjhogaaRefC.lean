/- The document's own answers, third part: back to limbs of 64 bits; gessolaw01.same. -/
import Derived.Test.YthdpllhpdjhogaaRefB
namespace Go.Proofs.Ythdpllhpdjhogaa
open Go.RowKit

/-- Limbs of 32 bits, two by two. -/
def join32 : List Nat → List Nat
  | [] => []
  | [x] => [x]
  | x :: y :: l => (x + B32 * y) :: join32 l
theorem join32_val : ∀ l : List Nat, val B64 (join32 l) = val B32 l
  | [] => rfl
  | [x] => rfl
  | x :: y :: l => by
    rw [join32, val_cons, val_cons, val_cons, join32_val l]
    have h2 : B64 = B32 * B32 := rfl
    rw [h2]; grind
theorem join32_lim : ∀ {l : List Nat}, Lim B32 l → Lim B64 (join32 l)
  | [], _ => Lim.nil
  | [x], h => Lim.cons (Nat.lt_trans h.head (by decide)) Lim.nil
  | x :: y :: l, h => by
    refine Lim.cons ?_ (join32_lim h.tail.tail)
    have h1 := h.head
    have h2 := h.tail.head
    have h3 := Nat.mul_le_mul_left B32 (show y + 1 ≤ B32 from h2)
    have h4 : B64 = B32 * B32 := rfl
    rw [Nat.mul_add] at h3
    omega
theorem join32_append : ∀ (a b : List Nat), a.length % 2 = 0 → join32 (a ++ b) = join32 a ++ join32 b
  | [], _, _ => rfl
  | [x], _, h => by simp at h
  | x :: y :: a, b, h => by
    rw [List.cons_append, List.cons_append, join32, join32, join32_append a b (by simp at h; omega)]; rfl
theorem join32_length : ∀ l : List Nat, (join32 l).length = (l.length + 1) / 2
  | [] => by simp [join32]
  | [x] => by simp [join32]
  | x :: y :: l => by rw [join32, List.length_cons, join32_length l]; simp; omega
theorem join32_limbs (V : Nat) : join32 (limbs B32 V) = limbs B64 V := by
  have hL := join32_lim (lim_limbs B32_two V)
  have hv : val B64 (join32 (limbs B32 V)) = V := by rw [join32_val, val_limbs B32_two]
  have hlen : (join32 (limbs B32 V)).length = 0 ∨ B64 ^ ((join32 (limbs B32 V)).length - 1) ≤ val B64 (join32 (limbs B32 V)) := by
    rw [hv, join32_length]
    rcases Nat.eq_zero_or_pos (limbs B32 V).length with h | h
    · left; omega
    · right
      have h1 := pow_le_of_length B32_two (n := V) (k := (limbs B32 V).length - 1) (by omega)
      refine Nat.le_trans ?_ h1
      rw [show B64 = B32 ^ 2 from rfl, ← Nat.pow_mul]
      exact Nat.pow_le_pow_right (by decide) (by omega)
  exact (limbs_of_full hL rfl hlen).trans (by rw [hv])

set_option maxRecDepth 100000 in
set_option maxHeartbeats 1000000 in
theorem rout_any (l : List Nat) (A : Option Addr) (m c : Nat) (w : World) (h : Rd .u32 w A m l) (hL : Lim B32 l) (hm0 : m ≤ 2000000) :
    Calls Try.prog 46 #[.slice A m c] w (GivesS .u64 34 w (join32 l)) := by
  have hm : m ≤ 2000000 := hm0
  have HL := Lib.hid h.1
  clear hm0
  go_enter Try.func46, Try.ntmps46
  go_wp2_with fail
  go_loopw [3, 4] (fun v i wr => ∃ (k n' c' : Nat) (A' : Option Addr), 2 * k ≤ m + 1 ∧ i = .int .i64 ((2 * k : Nat) : Int) ∧ v = .slice A' n' c' ∧ n' ≤ k ∧ n' ≤ c' ∧ Hid (c' ≤ maxLen) ∧ Fr .u64 34 wr w.heap.size A' n' c' (join32 (l.take (2 * k))) ∧ Below w.heap.size w wr) (fun _ i _ => m + 1 - (intOf i).toNat)
  case atStart => exact ⟨0, 0, 0, none, by omega, rfl, rfl, Nat.le_refl _, Nat.le_refl _, by show 0 ≤ maxLen; decide, Fr.nil, Below.refl _ _⟩
  case round =>
    obtain ⟨k, n', c', A', hk, rfl, rfl, hnk, hnc, HC, hfr, hbl⟩ := hrel
    obtain ⟨i0, hi0⟩ : ∃ i0, i0 = 2 * k := ⟨_, rfl⟩
    have hni : n' ≤ i0 := by omega
    rw [← hi0] at hk hfr ⊢
    by_cases hlt : i0 < m
    · have h' := h.below hbl
      obtain ⟨b, o, rfl, hc⟩ := h'.at_ (by omega)
      obtain ⟨x, hx, hcx⟩ := hc i0 hlt
      have hxB := hL.get hx
      have hxB' : x ≤ 4294967295 := by have : B32 = 4294967296 := rfl; omega
      have hkl : i0 < l.length := by have := HL.out; omega
      have hpar : (l.take i0).length % 2 = 0 := by rw [List.length_take]; omega
      by_cases hlt1 : i0 + 1 < m
      · obtain ⟨y, hy, hcy⟩ := hc (i0 + 1) hlt1
        have hyB := hL.get hy
        have hyB' : y ≤ 4294967295 := by have : B32 = 4294967296 := rfl; omega
        obtain ⟨v, hv⟩ : ∃ v, v = x + B32 * y := ⟨_, rfl⟩
        have hve : (x : Int) + (y : Int) * 4294967296 = (v : Int) := by rw [hv, show B32 = 4294967296 from rfl]; omega
        have hl2 : Hid (join32 (l.take (i0 + 2)) = join32 (l.take i0) ++ [v]) := by
          show _ = _
          have hkl1 : i0 + 1 < l.length := by have := HL.out; omega
          rw [List.take_succ_eq_append_getElem hkl1, List.take_succ_eq_append_getElem hkl, List.append_assoc, join32_append _ _ hpar, (List.getElem?_eq_some_iff.1 hx).2, (List.getElem?_eq_some_iff.1 hy).2, hv]
          rfl
        have hfr2 : Fr .u64 34 (wr.alloc (.cells #[.int .u64 (v : Int)] 34)) w.heap.size A' n' c' (join32 (l.take i0)) := hfr.below (B' := wr.heap.size) ((Below.refl _ _).alloc (Nat.le_refl _) _) (Nat.le_refl _)
        have hcell : (wr.alloc (.cells #[.int .u64 (v : Int)] 34)).cell? ⟨wr.heap.size, 0, none⟩ = some (.int .u64 (v : Int)) := by rw [World.cell?_alloc_new]; rfl
        have HCL := Lib.hid hcell
        have HI := Lib.hid hi0
        clear hc hx hy hxB hyB hcell hkl hpar hv hi0
        go_wp2_with (at_builtin; refine wpList_append1 .u64 22 34 8 (.int .u64 0) rfl Try.underlying22 info_u64 (by omega) _ rfl (.tmp 31) (.tmp 33) rfl w.heap.size A' n' c' (join32 (l.take i0)) rfl hfr2 wr.heap.size 1 v rfl HCL.out (by omega) (Nat.le_trans hbl.size (by simp)) ?_; intro A2 c2 w2 p1 p2 p3 p4 p5)
        go_roundw
        case rel =>
          have hik := HI.out
          refine ⟨k + 1, n' + 1, c2, A2, by omega, by rw [hik]; go_num, rfl, by omega, p2, p3, ?_, (hbl.alloc hbl.size _).trans p4⟩
          rw [show 2 * (k + 1) = i0 + 2 by omega, hl2.out]; exact p1
        case measure => simp [intOf]; omega
      · have hl2 : Hid (join32 (l.take (i0 + 2)) = join32 (l.take i0) ++ [x]) := by
          show _ = _
          have hkl1 : l.length = i0 + 1 := by have := HL.out; omega
          have e : l = l.take i0 ++ [x] := by
            have := List.take_succ_eq_append_getElem hkl
            rw [(List.getElem?_eq_some_iff.1 hx).2, List.take_of_length_le (by omega)] at this
            exact this
          rw [List.take_of_length_le (by omega)]
          conv => lhs; rw [e, join32_append _ _ hpar]
          rfl
        have hfr2 : Fr .u64 34 (wr.alloc (.cells #[.int .u64 (x : Int)] 34)) w.heap.size A' n' c' (join32 (l.take i0)) := hfr.below (B' := wr.heap.size) ((Below.refl _ _).alloc (Nat.le_refl _) _) (Nat.le_refl _)
        have hcell : (wr.alloc (.cells #[.int .u64 (x : Int)] 34)).cell? ⟨wr.heap.size, 0, none⟩ = some (.int .u64 (x : Int)) := by rw [World.cell?_alloc_new]; rfl
        have HCL := Lib.hid hcell
        have HI := Lib.hid hi0
        clear hc hx hxB hcell hkl hpar hi0
        go_wp2_with (at_builtin; refine wpList_append1 .u64 22 34 8 (.int .u64 0) rfl Try.underlying22 info_u64 (by omega) _ rfl (.tmp 31) (.tmp 33) rfl w.heap.size A' n' c' (join32 (l.take i0)) rfl hfr2 wr.heap.size 1 x rfl HCL.out (by omega) (Nat.le_trans hbl.size (by simp)) ?_; intro A2 c2 w2 p1 p2 p3 p4 p5)
        go_roundw
        case rel =>
          have hik := HI.out
          refine ⟨k + 1, n' + 1, c2, A2, by omega, by rw [hik]; go_num, rfl, by omega, p2, p3, ?_, (hbl.alloc hbl.size _).trans p4⟩
          rw [show 2 * (k + 1) = i0 + 2 by omega, hl2.out]; exact p1
        case measure => simp [intOf]; omega
    · have hle : m ≤ i0 := by omega
      go_wp2_with fail
      go_ret
      rw [List.take_of_length_le (by have := HL.out; omega)] at hfr
      exact ⟨_, _, _, rfl, hnc, HC.out, hfr, hbl⟩

/-- gessolaw01.same, where both are one number's. -/
theorem same_true (V : Nat) (A B : Option Addr) (n c m d : Nat) (w : World) (ha : Rd .u64 w A n (limbs B64 V)) (hb : Rd .u32 w B m (limbs B32 V)) (hn : n ≤ maxLen) (hm : m ≤ 2000000) :
    Calls Try.prog 15 #[.slice A n c, .slice B m d] w fun e w' => e = .returned (.bool true) ∧ Below w.heap.size w w' := by
  have hJ := join32_limbs V
  have HJ := Lib.hid hJ
  clear hJ
  go_enter Try.func15, Try.ntmps15
  go_wp2_with (first
    | (go_at_call 46; (with_reducible refine (rout_any (limbs B32 V) B m d w hb (lim_limbs B32_two _) hm).mono ?_); rintro e w1 ⟨A1, n1, c1, rfl, p1, p2, p3, p4⟩; rw [HJ.out] at p3)
    | (go_at_call 23; (with_reducible refine (nats_any (limbs B64 V) (limbs B64 V) A A1 n c n1 c1 w1 (ha.below p4) p3.rd hn).mono ?_); rintro e w' ⟨rfl, q, rfl⟩; rw [decide_eq_true rfl]))
  go_ret
  exact ⟨rfl, ⟨p4.os, p4.tape, p4.output, p4.size, p4.block⟩⟩
end Go.Proofs.Ythdpllhpdjhogaa
