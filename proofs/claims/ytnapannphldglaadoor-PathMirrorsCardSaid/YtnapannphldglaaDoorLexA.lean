/- lex's small functions by value: a rune's kind, whether a piece goes on, a number, a token. -/
import Derived.Test.YtnapannphldglaaDoorProg
import Derived.Test.YtnapannphldglaaDoorShelf
import Derived.Test.YtnapannphldglaaDoorLexM
import Derived.WalkKit
import Derived.WalkSpells
import Derived.Lib.Hide
import Derived.Deep.Draws
import Derived.Deep.QuietTactic
import Derived.LoopTactic
import Derived.RegionTactic
import Derived.BigQuiet
import Derived.BigRegion
import Derived.OwnWalk
import Derived.Deep.Light
import Derived.Lib.OthersKept
namespace Go.Proofs.YtnapannphldglaaDoor
open Go Go.RowKit

theorem bcell {W w1 : World} (hb : Below W.heap.size W w1) : (∀ b o, b < W.heap.size → w1.cell? ⟨b, o, none⟩ = W.cell? ⟨b, o, none⟩) ∧ (∀ b o, b < W.heap.size → w1.frozen? ⟨b, o, none⟩ = W.frozen? ⟨b, o, none⟩) :=
  ⟨fun b o h => hb.cell (p := ⟨b, o, none⟩) h, fun b o h => hb.frozen (p := ⟨b, o, none⟩) h⟩
theorem ret_i {k : IntKind} {a b : Int} (h : a = b) : Ending.returned (.int k a) = .returned (.int k b) := by rw [h]
theorem ret_b {a b : Bool} (h : a = b) : Ending.returned (.bool a) = .returned (.bool b) := by rw [h]

/-- A rune's kind. -/
def kindR (r : Int) : Int := if r = 32 ∨ r = 44 then 1 else if (97 ≤ r ∧ r ≤ 122) ∨ (65 ≤ r ∧ r ≤ 90) then 2 else if 48 ≤ r ∧ r ≤ 57 then 3 else if r = 45 then 4 else if r = 10 then 5 else 0
theorem kindR_byte (c : UInt8) : kindR (c.toNat : Int) = kindB c := by
  unfold kindR kindB
  have e1 : ((c.toNat : Int) = 32 ∨ (c.toNat : Int) = 44) ↔ isP c = true := by rw [isP_iff]; omega
  have e2 : ((97 ≤ (c.toNat : Int) ∧ (c.toNat : Int) ≤ 122) ∨ (65 ≤ (c.toNat : Int) ∧ (c.toNat : Int) ≤ 90)) ↔ isL c = true := by rw [isL_iff]; omega
  have e3 : (48 ≤ (c.toNat : Int) ∧ (c.toNat : Int) ≤ 57) ↔ isD c = true := by rw [isD_iff]; omega
  have e4 : ((c.toNat : Int) = 45) ↔ c.toNat = 45 := by omega
  have e5 : ((c.toNat : Int) = 10) ↔ c.toNat = 10 := by omega
  simp only [e1, e2, e3, e4, e5]
theorem kindR_high {r : Int} (h : 128 ≤ r) : kindR r = 0 := by
  unfold kindR
  rw [if_neg (by omega), if_neg (by omega), if_neg (by omega), if_neg (by omega), if_neg (by omega)]

set_option maxRecDepth 100000 in
set_option maxHeartbeats 1000000 in
theorem kindOf_any (r : Int) (w : World) : Calls Tryd.prog 53 #[.int .i32 r] w fun e w' => e = .returned (.int .i64 (kindR r)) ∧ w = w' := by
  go_enter Tryd.func53, Tryd.ntmps53
  go_wp2
  all_goals
    go_ret
    refine ⟨ret_i ?_, rfl⟩
    go_light
    simp only [beq_iff_eq, beq_eq_false_iff_ne, ne_eq] at *
    unfold kindR
    repeat' split
    all_goals (first | rfl | omega)

/-- Whether what is of kind k stays in the piece of what is ahead of it. -/
def onK (a k : Int) : Bool := (decide (k = 2) && decide (a = 2)) || (decide (k = 3) && (decide (a = 3) || decide (a = 4)))
set_option maxRecDepth 100000 in
set_option maxHeartbeats 1000000 in
theorem goesOn_any (a k : Int) (w : World) : Calls Tryd.prog 54 #[.int .i64 a, .int .i64 k] w fun e w' => e = .returned (.bool (onK a k)) ∧ w = w' := by
  go_enter Tryd.func54, Tryd.ntmps54
  by_cases h1 : k = 2 <;> by_cases h2 : k = 3 <;> by_cases h3 : a = 2 <;> by_cases h4 : a = 3 <;> by_cases h5 : a = 4
  all_goals (try omega)
  all_goals
    (try subst h1)
    (try subst h2)
    (try subst h3)
    (try subst h4)
    (try subst h5)
    go_wp2
    go_ret
    refine ⟨ret_b ?_, rfl⟩
    first | rfl | simp [onK, *]

set_option maxRecDepth 100000 in
set_option maxHeartbeats 1000000 in
theorem firstOf_any (s : ByteArray) (w : World) (h0 : 0 < s.size) : Calls Tryd.prog 35 #[.string s] w fun e w' => e = .returned (.int .i64 (kindB (s[0]'h0))) ∧ w = w' := by
  have hb := (s[0]'h0).toNat_lt
  rw [← kindR_byte]
  go_enter Tryd.func35, Tryd.ntmps35
  go_wp2_with (go_at_call 53; refine (kindOf_any _ _).mono ?_; rintro e w' ⟨rfl, rfl⟩)
  go_ret
  exact ⟨rfl, rfl⟩

set_option maxRecDepth 100000 in
set_option maxHeartbeats 1000000 in
theorem clone_any (s : ByteArray) (w : World) (hl : s.size ≤ 281474976710656) : Calls Tryd.prog 55 #[.string s] w fun e w' => e = .returned (.string s) ∧ Below w.heap.size w w' := by
  go_enter Tryd.func55, Tryd.ntmps55
  go_wp2_with (go_at_call 69; refine (Tryd.stringslite_Clone s _ hl).mono ?_; rintro e w' ⟨rfl, hb⟩)
  go_ret
  exact ⟨rfl, hb⟩

theorem get_take (s : ByteArray) (k : Nat) (h : k < s.size) : s.data.toList.take (k + 1) = s.data.toList.take k ++ [s[k]'h] := by
  rw [List.take_succ_eq_append_getElem (by simpa using h)]; rfl
theorem get_mem (s : ByteArray) (k : Nat) (h : k < s.size) : s[k]'h ∈ s.data.toList := by
  have : s.data.toList[k]'(by simpa using h) = s[k]'h := rfl
  rw [← this]; exact List.getElem_mem _
theorem take_all (s : ByteArray) : s.data.toList.take s.size = s.data.toList := List.take_of_length_le (by simp)
/-- One digit more, below the bound. -/
theorem cap_step {l : List UInt8} {c : UInt8} (h : cap62 (lval l) ≤ 461168601842738790) : cap62 (lval (l ++ [c])) = (if 10 * cap62 (lval l) + (c.toNat - 48) ≤ mst then 10 * cap62 (lval l) + (c.toNat - 48) else mst) := by
  have h1 : lval l ≤ mst := by
    rcases Nat.lt_or_ge mst (lval l) with k | k
    · rw [cap62_big (by omega)] at h; unfold mst at h; omega
    · exact k
  rw [cap62_small h1, lval_snoc]
  rfl
theorem cap_stop {l : List UInt8} {k : Nat} {c : UInt8} {t : List UInt8} (hl : l = l.take k ++ c :: t) (h : 461168601842738790 < cap62 (lval (l.take k))) : cap62 (lval l) = mst := by
  refine cap62_big ?_
  have h1 : 461168601842738790 < lval (l.take k) := by
    unfold cap62 at h
    split at h
    · exact h
    · unfold mst at *; omega
  have h2 : lval (l.take k ++ [c]) ≤ lval l := by
    conv => rhs; rw [hl, show l.take k ++ c :: t = (l.take k ++ [c]) ++ t by simp]
    unfold lval
    rw [List.foldl_append (l' := t)]
    exact foldl_ge _ _
  rw [lval_snoc] at h2
  unfold mst
  omega

set_option maxRecDepth 100000 in
set_option maxHeartbeats 4000000 in
theorem number_any (s : ByteArray) (w : World) (_hs : s.size ≤ 1048576) (hd : ∀ c ∈ s.data.toList, isD c = true) :
    Calls Tryd.prog 56 #[.string s] w fun e w' => e = .returned (.int .i64 (cap62 (lval s.data.toList) : Int)) ∧ Below w.heap.size w w' := by
  have HD := Lib.hid hd
  clear hd
  go_enter Tryd.func56, Tryd.ntmps56
  go_wp2
  go_loopw [3] (fun n wr => ∃ k : Nat, k ≤ s.size ∧ wr.heap[w.heap.size]? = some (.stringIter s k) ∧ Below w.heap.size w wr ∧ n = .int .i64 (cap62 (lval (s.data.toList.take k)) : Int)) (fun _ wr => s.size - wr.iterPos w.heap.size)
  case atStart =>
    refine ⟨0, Nat.zero_le _, ?_, (Below.refl _ w).alloc (Nat.le_refl _) _, rfl⟩
    exact World.iter_heap w s 0
  case round =>
    obtain ⟨k, hk, hit, hbw, rfl⟩ := hrel
    have hsz : w.heap.size < wr.heap.size := (Array.getElem?_eq_some_iff.1 hit).1
    have hcap := cap62_le (lval (s.data.toList.take k))
    by_cases hp : k < s.size
    · have hdg := isD_iff.1 (HD.out _ (get_mem s k hp))
      have hnx : ∀ ty, (Instr.next (.pointer (some ⟨w.heap.size, 0, none⟩)) true ty).run Tryd.prog wr = _ := fun ty => Lib.run_next_ascii_at wr w.heap.size s k ty hit hp (by omega)
      have hit2 := Lib.iterAt_heap wr w.heap.size s k (k + 1) hit
      have hbw2 := Lib.below_iterAt hbw (k := w.heap.size) (Nat.le_refl _) s (k + 1)
      obtain ⟨N, hN⟩ : ∃ N, N = cap62 (lval (s.data.toList.take k)) := ⟨_, rfl⟩
      rw [← hN] at hcap ⊢
      obtain ⟨c, hc⟩ : ∃ c, c = s[k]'hp := ⟨_, rfl⟩
      rw [← hc] at hdg
      have hcs : ∀ ty, (Instr.next (.pointer (some ⟨w.heap.size, 0, none⟩)) true ty).run Tryd.prog wr = .ok (.tuple #[.bool true, .int .i64 k, .int .i32 c.toNat]) (wr.iterAt w.heap.size s (k + 1)) := by intro ty; rw [hnx, hc]
      clear hnx
      have HN := Lib.hid hN
      have HC := Lib.hid hc
      have HI := Lib.hid hit
      have HI2 := Lib.hid hit2
      unfold mst at hcap
      by_cases hb : N ≤ 461168601842738790
      · have h10 : 10 * (N : Int) ≤ 4611686018427387900 := by omega
        clear hN hc hit hit2
        go_wp2
        have e : (min (10 * (N : Int) + ((c.toNat : Int) - 48)) 4611686018427387904) = (cap62 (lval (s.data.toList.take (k + 1))) : Int) := by
          rw [get_take s k hp, ← HC.out, cap_step (by rw [← HN.out]; exact hb), ← HN.out]
          unfold mst
          split <;> omega
        refine ⟨⟨k + 1, hp, HI2.out, hbw2, by rw [e]⟩, ?_⟩
        simp only [World.iterPos, HI2.out, HI.out]
        omega
      · have hb' : (461168601842738790 : Int) < (N : Int) := by omega
        clear hN hc hit hit2
        go_wp2
        go_ret
        refine ⟨ret_i ?_, hbw2⟩
        have := cap_stop (l := s.data.toList) (k := k) (c := c) (t := s.data.toList.drop (k + 1)) (by rw [HC.out]; conv => lhs; rw [← List.take_append_drop (k + 1) s.data.toList, get_take s k hp]; simp) (by rw [← HN.out]; omega)
        rw [this]; rfl
    · have hnx : ∀ ty, (Instr.next (.pointer (some ⟨w.heap.size, 0, none⟩)) true ty).run Tryd.prog wr = _ := fun ty => Lib.run_next_end_at wr w.heap.size s k ty hit hp
      go_wp2
      go_ret
      have hks : k = s.size := by omega
      subst hks
      rw [take_all]
      exact ⟨rfl, hbw⟩
/-- What token hands back. -/
def tokV : Option (List Tk) → Value
  | some [t] => .tuple #[.agg #[.int .i64 t.k, .string ⟨t.s.toArray⟩, .int .i64 t.n, .int .i64 0], .bool true]
  | _ => .tuple #[.agg #[.int .i64 0, .string ⟨#[]⟩, .int .i64 0, .int .i64 0], .bool false]
theorem str_of {s : ByteArray} {l : List UInt8} (h : s.data.toList = l) : s = ⟨l.toArray⟩ := by
  subst h; rfl
theorem str_head {s : ByteArray} {c : UInt8} {r : List UInt8} (h : s.data.toList = c :: r) : ∃ h0 : 0 < s.size, s[0]'h0 = c ∧ r.length + 1 = s.size := by
  have hz : s.size = s.data.toList.length := by simp
  have h0 : 0 < s.size := by rw [hz, h]; simp
  refine ⟨h0, ?_, by rw [hz, h]; rfl⟩
  have : s.data.toList[0]'(by rw [h]; simp) = s[0]'h0 := rfl
  rw [← this]; simp [h]
set_option maxRecDepth 100000 in
set_option maxHeartbeats 4000000 in
theorem token_word (s : ByteArray) (c : UInt8) (r : List UInt8) (w : World) (hs : s.data.toList = c :: r) (hl : s.size ≤ 1048576) (hc : isL c = true) :
    Calls Tryd.prog 36 #[.string s] w fun e w' => e = .returned (tokV (tokOf 0 (c :: r))) ∧ Below w.heap.size w w' := by
  obtain ⟨h0, hc0, hlen⟩ := str_head hs
  have hk : kindB c = 2 := by
    have : isP c = false := isP_no.2 (by have := isL_iff.1 hc; omega)
    simp [kindB, this, hc]
  have ht : tokV (tokOf 0 (c :: r)) = .tuple #[.agg #[.int .i64 1, .string s, .int .i64 0, .int .i64 0], .bool true] := by
    have : isP c = false := isP_no.2 (by have := isL_iff.1 hc; omega)
    rw [str_of hs]
    simp [tokOf, this, hc, tokV, tkW]
  have HT := Lib.hid ht
  have HK := Lib.hid hk
  have HC0 := Lib.hid hc0
  have HS := Lib.hid hs
  clear hk hc0 ht hs hlen
  go_enter Tryd.func36, Tryd.ntmps36
  go_wp2_with (first
    | (go_at_call 35; refine (firstOf_any s _ h0).mono ?_; rintro e w' ⟨rfl, rfl⟩; rw [HC0.out, HK.out])
    | (go_at_call 55; refine (clone_any s _ (by omega)).mono ?_; rintro e w' ⟨rfl, hb⟩; have hz : w.heap.size + 1 ≤ w'.heap.size := (by simpa using hb.size); obtain ⟨hcl, hfr⟩ := bcell hb))
  refine bodyPost_ret (v := .tuple #[.agg #[.int .i64 1, .string s, .int .i64 0, .int .i64 0], .bool true]) ?_ rfl ⟨HT.out.symm ▸ rfl, ?_⟩
  · simp [results, Tryd.results36, go_sem, hcl]
  · iterate 4 refine Below.setCell (B := w.heap.size) (p := ⟨w.heap.size, _, none⟩) ?_ (Nat.le_refl _) _
    exact ((Below.refl _ _).alloc (Nat.le_refl _) _).trans (hb.mono (by simp))
set_option maxRecDepth 100000 in
set_option maxHeartbeats 4000000 in
theorem token_digit (s : ByteArray) (c : UInt8) (r : List UInt8) (w : World) (hs : s.data.toList = c :: r) (hl : s.size ≤ 1048576) (hc : isD c = true) (hd : ∀ x ∈ r, isD x = true) :
    Calls Tryd.prog 36 #[.string s] w fun e w' => e = .returned (tokV (tokOf 0 (c :: r))) ∧ Below w.heap.size w w' := by
  obtain ⟨h0, hc0, hlen⟩ := str_head hs
  have hP : isP c = false := isP_no.2 (by have := isD_iff.1 hc; omega)
  have hL : isL c = false := isL_no.2 (by have := isD_iff.1 hc; omega)
  have hk : kindB c = 3 := by simp [kindB, hP, hL, hc]
  have ht : tokV (tokOf 0 (c :: r)) = .tuple #[.agg #[.int .i64 2, .string ⟨#[]⟩, .int .i64 (cap62 (lval s.data.toList) : Int), .int .i64 0], .bool true] := by
    rw [hs]
    simp [tokOf, hP, hL, hc, tokV, tkN]
  have HT := Lib.hid ht
  have HD : Hid (∀ x ∈ s.data.toList, isD x = true) := by
    show ∀ x ∈ s.data.toList, isD x = true
    intro x hx; rw [hs] at hx
    rcases List.mem_cons.1 hx with rfl | hx
    · exact hc
    · exact hd x hx
  clear hd hP hL
  have HK := Lib.hid hk
  have HC0 := Lib.hid hc0
  have HS := Lib.hid hs
  clear hk hc0 ht hs hlen
  go_enter Tryd.func36, Tryd.ntmps36
  go_wp2_with (first
    | (go_at_call 35; refine (firstOf_any s _ h0).mono ?_; rintro e w' ⟨rfl, rfl⟩; rw [HC0.out, HK.out])
    | (go_at_call 56; refine (number_any s _ hl HD.out).mono ?_; rintro e w' ⟨rfl, hb⟩; have hz : w.heap.size + 1 ≤ w'.heap.size := (by simpa using hb.size); obtain ⟨hcl, hfr⟩ := bcell hb))
  refine bodyPost_ret (v := .tuple #[.agg #[.int .i64 2, .string ⟨#[]⟩, .int .i64 (cap62 (lval s.data.toList) : Int), .int .i64 0], .bool true]) ?_ rfl ⟨HT.out.symm ▸ rfl, ?_⟩
  · simp [results, Tryd.results36, go_sem, hcl]
  · iterate 4 refine Below.setCell (B := w.heap.size) (p := ⟨w.heap.size, _, none⟩) ?_ (Nat.le_refl _) _
    exact ((Below.refl _ _).alloc (Nat.le_refl _) _).trans (hb.mono (by simp))
end Go.Proofs.YtnapannphldglaaDoor
