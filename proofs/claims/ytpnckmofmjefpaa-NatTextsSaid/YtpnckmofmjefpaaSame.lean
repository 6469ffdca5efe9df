/- gessolaw01.same. -/
import Derived.Test.YtpnckmofmjefpaaRefJ
namespace Go.Proofs.Ytpnckmofmjefpaa
open Go.RowKit

/-- gessolaw01.same, where both are one number's. -/
theorem same_true (V : Nat) (A B : Option Addr) (n c m d : Nat) (w : World) (ha : Rd .u64 w A n (limbs B64 V)) (hb : Rd .u32 w B m (limbs B32 V)) (hn : n ≤ maxLen) (hm : m ≤ 2000000) :
    Calls Try.prog 20 #[.slice A n c, .slice B m d] w fun e w' => e = .returned (.bool true) ∧ Below w.heap.size w w' := by
  have hJ := join32_limbs V
  have HJ := Lib.hid hJ
  clear hJ
  go_enter Try.func20, Try.ntmps20
  go_wp2_with (first
    | (go_at_call 80; (with_reducible refine (rout_any (limbs B32 V) B m d w hb (lim_limbs B32_two _) hm).mono ?_); rintro e w1 ⟨A1, n1, c1, rfl, p1, p2, p3, p4⟩; rw [HJ.out] at p3)
    | (go_at_call 28; (with_reducible refine (nats_any (limbs B64 V) (limbs B64 V) A A1 n c n1 c1 w1 (ha.below p4) p3.rd hn).mono ?_); rintro e w' ⟨rfl, q, rfl⟩; rw [decide_eq_true rfl]))
  go_ret
  exact ⟨rfl, ⟨p4.os, p4.tape, p4.output, p4.size, p4.block⟩⟩
theorem same_nr {w : World} {A B : Option Addr} {n c m d V k1 k2 : Nat} (X : NG w A n c V k1) (Y : RN w B m d V k2) (h1 : k1 ≤ 100000) (h2 : k2 ≤ 200000) : Calls Try.prog 20 #[.slice A n c, .slice B m d] w fun e w' => e = .returned (.bool true) ∧ Below w.heap.size w w' :=
  same_true V A B n c m d w X.1 Y.1 (by have := X.2.2; unfold maxLen; omega) (by have := Y.2.2; omega)
end Go.Proofs.Ytpnckmofmjefpaa
