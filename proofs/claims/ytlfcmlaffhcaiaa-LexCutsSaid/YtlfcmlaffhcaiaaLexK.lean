/- The law LexCuts. -/
import Derived.Test.YtlfcmlaffhcaiaaLexH
namespace Go.Proofs.Ytlfcmlaffhcaiaa
open Go Go.RowKit

theorem chain_w {w w1 w2 w4 : World} {o : Obj} {q : Nat} (h1 : Below w.heap.size w w1) (h2 : Below w1.heap.size w1 w2) (h4 : Below ((w2.alloc o).drewN q).heap.size ((w2.alloc o).drewN q) w4) : Below w.heap.size w w4 := by
  have z1 := h1.size
  have z2 := h2.size
  exact ((h1.trans (h2.mono z1)).trans (below_drewN' ((Below.refl _ w2).alloc (Nat.le_trans z1 z2) o) q)).trans (h4.mono (by simp; omega))
set_option maxRecDepth 100000 in
set_option maxHeartbeats 4000000 in
theorem law_cuts (a0 : ByteArray) (w : World) : Calls Try.prog 3 #[.string a0] w fun e w' => e = .returned (.bool true) ∧ Below w.heap.size w w' := by
  by_cases h1 : a0.size ≤ 5000
  · have e1 : (a0.size : Int) ≤ 5000 := by omega
    have CA := Lib.hid (fun W => cut_any a0 W (by omega))
    have OA := Lib.hid (fun W => of_any a0 W (by omega))
    cases hE : lcut 0 a0.data.toList with
    | ok ts =>
      rw [hE] at CA OA
      clear hE
      go_enter Try.func3, Try.ntmps3
      go_wp2_with (first
        | (go_at_call 8; refine (CA.out _).mono ?_; rintro e w1 ⟨hb1, v, rfl, hr1⟩; obtain ⟨A, c, rfl⟩ := row_slice hr1)
        | (go_at_call 9; refine (OA.out _).mono ?_; rintro e w2 ⟨hb2, B, d, rfl, hr2⟩)
        | (go_at_call 10; refine (tokens_same A B c d _ ts _ (((TV.of_row hr1).below hb2).alloc _) ((TV.of_row hr2).alloc _) rfl (row_len hr1)).mono ?_; rintro e w3 ⟨rfl, q, rfl⟩)
        | (go_at_call 7; refine (wakes_any _).mono ?_; rintro e w4 ⟨rfl, hb4⟩))
      go_ret
      exact ⟨rfl, chain_w hb1 hb2 hb4⟩
    | error p =>
      rw [hE] at CA OA
      clear hE
      go_enter Try.func3, Try.ntmps3
      go_wp2_with (first
        | (go_at_call 8; refine (CA.out _).mono ?_; rintro e w1 ⟨hb1, rfl⟩)
        | (go_at_call 9; refine (OA.out _).mono ?_; rintro e w2 ⟨hb2, rfl⟩)
        | (go_at_call 10; refine (tokens_same none none 0 0 0 [] _ (.inl rfl) (.inl rfl) rfl (Nat.zero_le _)).mono ?_; rintro e w3 ⟨rfl, q, rfl⟩)
        | (go_at_call 7; refine (wakes_any _).mono ?_; rintro e w4 ⟨rfl, hb4⟩))
      go_ret
      exact ⟨rfl, chain_w hb1 hb2 hb4⟩
  · have e1 : (5000 : Int) < (a0.size : Int) := by omega
    by_cases h2 : a0.size ≤ 1048576
    · have e2 : (a0.size : Int) ≤ 1048576 := by omega
      go_enter Try.func3, Try.ntmps3
      go_wp2_with (go_at_call 7; refine (wakes_any _).mono ?_; rintro e w4 ⟨rfl, hb4⟩)
      go_ret
      exact ⟨rfl, hb4⟩
    · have e2 : (1048576 : Int) < (a0.size : Int) := by omega
      have CA := Lib.hid (fun W => cut_long a0 W (by omega))
      have OA := Lib.hid (fun W => of_long a0 W (by omega))
      go_enter Try.func3, Try.ntmps3
      go_wp2_with (first
        | (go_at_call 8; refine (CA.out _).mono ?_; rintro e w1 ⟨rfl, hb1⟩)
        | (go_at_call 9; refine (OA.out _).mono ?_; rintro e w2 ⟨rfl, hb2⟩)
        | (go_at_call 10; refine (tokens_same none none 0 0 0 [] _ (.inl rfl) (.inl rfl) rfl (Nat.zero_le _)).mono ?_; rintro e w3 ⟨rfl, q, rfl⟩)
        | (go_at_call 7; refine (wakes_any _).mono ?_; rintro e w4 ⟨rfl, hb4⟩))
      go_ret
      exact ⟨rfl, chain_w hb1 hb2 hb4⟩
end Go.Proofs.Ytlfcmlaffhcaiaa
