/- nat.mulAdd, addProduct, limbProduct, Mul (as far as limb by limb goes). -/
import Derived.Test.YtflcgeehpboldaaLower
import Derived.Shelf.Spec.BitsCarry
namespace Go.Proofs.Ytflcgeehpboldaa
open Go.RowKit

/-- The low word and the high word of a product, of a sum; the difference and what is borrowed. -/
def mulLo (x y : Nat) : Nat := x * y % B64
def mulHi (x y : Nat) : Nat := x * y / B64
def addLo (x y c : Nat) : Nat := (x + y + c) % B64
def addHi (x y c : Nat) : Nat := (x + y + c) / B64
def subLo (x y b : Nat) : Nat := (x + B64 - y - b) % B64
def subHi (x y b : Nat) : Nat := if x < y + b then 1 else 0
theorem mul_parts (x y : Nat) : mulLo x y + B64 * mulHi x y = x * y := Nat.mod_add_div _ _
theorem add_parts (x y c : Nat) : addLo x y c + B64 * addHi x y c = x + y + c := Nat.mod_add_div _ _
theorem mulLo_lt (x y : Nat) : mulLo x y < B64 := Nat.mod_lt _ (by decide)
theorem addLo_lt (x y c : Nat) : addLo x y c < B64 := Nat.mod_lt _ (by decide)
theorem subLo_lt (x y c : Nat) : subLo x y c < B64 := Nat.mod_lt _ (by decide)
theorem addHi_le {x y c : Nat} (hx : x < B64) (hy : y < B64) (hc : c ≤ 1) : addHi x y c ≤ 1 := by
  unfold addHi; rw [B64_eq] at *; omega
theorem subHi_le (x y c : Nat) : subHi x y c ≤ 1 := by unfold subHi; split <;> omega
theorem mulHi_lt {x y : Nat} (hx : x < B64) (hy : y < B64) : mulHi x y + 1 < B64 := by
  unfold mulHi
  have h1 : x * y ≤ (B64 - 1) * (B64 - 1) := Nat.mul_le_mul (by omega) (by omega)
  have h2 : x * y / B64 ≤ (B64 - 1) * (B64 - 1) / B64 := Nat.div_le_div_right h1
  have h3 : (B64 - 1) * (B64 - 1) / B64 + 1 < B64 := by decide
  omega
theorem sub_parts {x y b : Nat} (hx : x < B64) (hy : y < B64) (hb : b ≤ 1) : subLo x y b + y + b = x + B64 * subHi x y b := by
  unfold subLo subHi; rw [B64_eq] at *; split <;> omega

theorem add64_run (x y c : Nat) (hc : c ≤ 1) (w : World) :
    (callFunc 87 #[.int .u64 (x : Int), .int .u64 (y : Int), .int .u64 (c : Int)]).run Try.prog w =
      .ok (.value (.tuple #[.int .u64 (addLo x y c : Nat), .int .u64 (addHi x y c : Nat)])) w := by
  rw [run_callFunc_extern Try.func87 (by kernel_rfl) (by kernel_rfl) (by kernel_rfl) (e := add64Entry) (by kernel_rfl), run_add64 x y c (by omega) (by omega) (by omega) (by omega)]
  simp only [Result.andThen, addLo, addHi, B64_eq]
  congr 5 <;> omega
theorem add64_run0 (x y : Nat) (w : World) :
    (callFunc 87 #[.int .u64 (x : Int), .int .u64 (y : Int), .int .u64 0]).run Try.prog w =
      .ok (.value (.tuple #[.int .u64 (addLo x y 0 : Nat), .int .u64 (addHi x y 0 : Nat)])) w := add64_run x y 0 (by omega) w
theorem add64_run_y (x c : Nat) (hc : c ≤ 1) (w : World) :
    (callFunc 87 #[.int .u64 (x : Int), .int .u64 0, .int .u64 (c : Int)]).run Try.prog w =
      .ok (.value (.tuple #[.int .u64 (addLo x 0 c : Nat), .int .u64 (addHi x 0 c : Nat)])) w := add64_run x 0 c hc w
theorem sub64_run (x y b : Nat) (hb : b ≤ 1) (w : World) :
    (callFunc 88 #[.int .u64 (x : Int), .int .u64 (y : Int), .int .u64 (b : Int)]).run Try.prog w =
      .ok (.value (.tuple #[.int .u64 (subLo x y b : Nat), .int .u64 (subHi x y b : Nat)])) w := by
  rw [run_callFunc_extern Try.func88 (by kernel_rfl) (by kernel_rfl) (by kernel_rfl) (e := sub64Entry) (by kernel_rfl), run_sub64 x y b hb]
  rfl
theorem sub64_run_y (x b : Nat) (hb : b ≤ 1) (w : World) :
    (callFunc 88 #[.int .u64 (x : Int), .int .u64 0, .int .u64 (b : Int)]).run Try.prog w =
      .ok (.value (.tuple #[.int .u64 (subLo x 0 b : Nat), .int .u64 (subHi x 0 b : Nat)])) w := sub64_run x 0 b hb w
theorem mul64_any (x y : Nat) (hx : x < B64) (hy : y < B64) (w : World) :
    Calls Try.prog 104 #[.int .u64 (x : Int), .int .u64 (y : Int)] w fun e w' => e = .returned (.tuple #[.int .u64 (mulHi x y : Nat), .int .u64 (mulLo x y : Nat)]) ∧ w = w' :=
  (Try.bits_Mul64 x y hx hy w).mono fun _ _ ⟨he, hw⟩ => ⟨he, hw.symm⟩

/-- x y + c, low and high. -/
def maLo (x y c : Nat) : Nat := (x * y + c) % B64
def maHi (x y c : Nat) : Nat := (x * y + c) / B64
theorem ma_parts (x y c : Nat) : maLo x y c + B64 * maHi x y c = x * y + c := Nat.mod_add_div _ _
theorem maLo_lt (x y c : Nat) : maLo x y c < B64 := Nat.mod_lt _ (by decide)
theorem maHi_lt {x y c : Nat} (hx : x < B64) (hy : y < B64) (hc : c < B64) : maHi x y c < B64 := by
  unfold maHi
  rw [Nat.div_lt_iff_lt_mul (by decide)]
  have h1 : x * y ≤ (B64 - 1) * (B64 - 1) := Nat.mul_le_mul (by omega) (by omega)
  have h3 : (B64 - 1) * (B64 - 1) + B64 ≤ B64 * B64 := by decide
  omega
theorem ma_eq {x y c : Nat} (hx : x < B64) (hy : y < B64) (hc : c < B64) : maLo x y c = addLo (mulLo x y) c 0 ∧ maHi x y c = (mulHi x y + addHi (mulLo x y) c 0) ∧ mulHi x y + addHi (mulLo x y) c 0 < B64 := by
  have h1 := mul_parts x y
  have h2 := add_parts (mulLo x y) c 0
  have h3 := ma_parts x y c
  have h4 := mulHi_lt hx hy
  have h5 := addHi_le (mulLo_lt x y) hc (Nat.zero_le 1)
  have h6 := addLo_lt (mulLo x y) c 0
  have h7 := maLo_lt x y c
  generalize mulLo x y = a at *
  generalize mulHi x y = b at *
  generalize addLo a c 0 = d at *
  generalize addHi a c 0 = f at *
  generalize maLo x y c = g at *
  generalize maHi x y c = h at *
  generalize x * y = p at *
  rw [B64_eq] at *
  omega
theorem mulAdd_any (x y c : Nat) (hx : x < B64) (hy : y < B64) (hc : c < B64) (w : World) :
    Calls Try.prog 99 #[.int .u64 (x : Int), .int .u64 (y : Int), .int .u64 (c : Int)] w fun e w' =>
      e = .returned (.tuple #[.int .u64 (maLo x y c : Nat), .int .u64 (maHi x y c : Nat)]) ∧ w = w' := by
  have hadd := add64_run0
  have HM := Lib.hid (ma_eq hx hy hc)
  go_enter Try.func99, Try.ntmps99
  go_wp2_with (go_at_call 104; refine (mul64_any x y hx hy _).mono ?_; rintro e w' ⟨rfl, rfl⟩)
  go_ret2
  refine ⟨ret_two ?_ ?_, rfl⟩
  · rw [HM.out.1]
  · rw [HM.out.2.1]; exact wrap_add _ _ HM.out.2.2

theorem ap_step {z w v c : Nat} (hz : z < B64) (hw : w < B64) (hv : v < B64) (hc : c < B64) :
    addLo z (maLo w v c) 0 + B64 * (addHi z (maLo w v c) 0 + maHi w v c) = z + (w * v + c) ∧ addHi z (maLo w v c) 0 + maHi w v c < B64 := by
  have h1 := ma_parts w v c
  have h2 := add_parts z (maLo w v c) 0
  have h3 : w * v ≤ (B64 - 1) * (B64 - 1) := Nat.mul_le_mul (by omega) (by omega)
  have h4 : (B64 - 1) * (B64 - 1) + (B64 - 1) + (B64 - 1) < B64 * B64 := by decide
  have h5 : addLo z (maLo w v c) 0 + B64 * (addHi z (maLo w v c) 0 + maHi w v c) = z + (w * v + c) := by
    rw [Nat.mul_add]; omega
  refine ⟨h5, ?_⟩
  rcases Nat.lt_or_ge (addHi z (maLo w v c) 0 + maHi w v c) B64 with h | h
  · exact h
  · have := Nat.mul_le_mul_left B64 h
    omega

set_option maxRecDepth 100000 in
set_option maxHeartbeats 1000000 in
theorem addProduct_any (lx pre seg post : List Nat) (v g o n cz c : Nat) (X : Option Addr) (w : World) (hz : Own .u64 82 w g (pre ++ (seg ++ post))) (ho : pre.length = o) (hn : seg.length = n)
    (hx : Rd .u64 w X n lx) (hoff : Off X n g) (Lx : Lim B64 lx) (Lz : Lim B64 seg) (hv : v < B64) (hm : n ≤ maxLen) :
    Calls Try.prog 101 #[.slice (some ⟨g, o, none⟩) n cz, .slice X n c, .int .u64 (v : Int)] w fun e w' => 
      (∃ P y, e = .returned (.int .u64 (y : Nat)) ∧ y < B64 ∧ P.length = n ∧ Lim B64 P ∧ val B64 P + B64 ^ n * y = val B64 seg + val B64 lx * v ∧ Own .u64 82 w' g (pre ++ (P ++ post))) ∧ Only g w w' := by
  have hadd := add64_run0
  have HS := Lib.hid hn
  have HO := Lib.hid ho
  have HX := Lib.hid hx.1
  have hz0 := Seg.start hz
  clear hn ho
  unfold maxLen at hm
  go_enter Try.func101, Try.ntmps101
  go_wp2_with fail
  go_loopw [7, 14] (fun b i wr => ∃ (k : Nat) (P : List Nat) (y : Nat), k ≤ n ∧ Hid (P.length = k) ∧ i = .int .i64 k ∧ b = .int .u64 (y : Int) ∧ Seg .u64 82 wr g pre P seg post ∧ Only g w wr ∧
      Hid (y < B64 ∧ Lim B64 P ∧ val B64 P + B64 ^ k * y = val B64 (seg.take k) + val B64 (lx.take k) * v)) (fun _ i _ => n - (intOf i).toNat)
  case atStart => exact ⟨0, [], 0, Nat.zero_le _, rfl, rfl, rfl, hz0, Only.refl _ _, by decide, Lim.nil, by simp⟩
  case round =>
    obtain ⟨k, P, y, hk, HP, rfl, rfl, hsg, hon, HV⟩ := hrel
    by_cases hlt : k < n
    · have hx' := hx.only hoff hon
      obtain ⟨b, o', rfl, hc⟩ := hx'.at_ (by omega)
      obtain ⟨u, hu, hcu⟩ := hc k hlt
      have hks : k < seg.length := by have := HS.out; omega
      obtain ⟨z, hz⟩ : ∃ z, seg[k]? = some z := ⟨_, List.getElem?_eq_getElem hks⟩
      have hcz := hsg.cell HO.out HP.out hks hz
      have hfz := Own.frozen hsg (o + k)
      have HU := Lib.hid hu
      have HZ := Lib.hid hz
      have HKS := Lib.hid hks
      clear hc hz hu hks
      go_wp2_with (go_at_call 99; (with_reducible refine (mulAdd_any u v y (Lx.get HU.out) hv HV.out.1 _).mono ?_); rintro e w' ⟨rfl, rfl⟩)
      go_roundw
      case rel =>
        obtain ⟨hy, hL, hval⟩ := HV.out
        obtain ⟨s1, s2⟩ := ap_step (Lz.get HZ.out) (Lx.get HU.out) hv hy
        rw [wrap_add _ _ s2]
        refine ⟨k + 1, _, _, by omega, by show _ = _; rw [List.length_append, HP.out]; rfl, by go_num, rfl, hsg.store HO.out HP.out HKS.out _, hon.setCell _ _,
          s2, hL.snoc (addLo_lt _ _ _), ?_⟩
        rw [val_snoc, val_take_succ HZ.out, val_take_succ HU.out, HP.out, Nat.pow_succ]
        generalize addLo z (maLo u v y) 0 = lo at *
        generalize addHi z (maLo u v y) 0 + maHi u v y = hi at *
        grind
      case measure => simp [intOf]; omega
    · obtain rfl : k = n := by omega
      have fin := hsg.done (by have := HP.out; have := HS.out; omega)
      go_wp2_with fail
      go_ret
      obtain ⟨hy, hL, hval⟩ := HV.out
      rw [List.take_of_length_le (by have := HS.out; omega), List.take_of_length_le (by have := HX.out; omega)] at hval
      exact ⟨⟨P, y, rfl, hy, HP.out, hL, hval, fin⟩, hon⟩
end Go.Proofs.Ytflcgeehpboldaa
