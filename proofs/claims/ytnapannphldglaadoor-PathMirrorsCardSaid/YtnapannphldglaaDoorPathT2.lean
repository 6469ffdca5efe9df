/- gessoref11.dec, gessolaw11.dec by value. -/
import Derived.IntWalk
import Derived.Lib.SlBytesRow
import Derived.Test.YtnapannphldglaaDoorPathX
namespace Go.Proofs.YtnapannphldglaaDoor
open Go Go.RowKit

def dg8 (v : Nat) : UInt8 := UInt8.ofNat (48 + v % 10)
theorem dg8_nat (v : Nat) : (dg8 v).toNat = 48 + v % 10 := by
  unfold dg8
  rw [UInt8.toNat_ofNat']
  omega
theorem conv_dg (w : World) (v : Nat) : (convert 56 9 (.slice (some ⟨w.heap.size, 0, none⟩) 1 1)).run Tryd.prog (w.alloc (.cells #[.int .u8 (48 + (v : Int) % 10)] 5)) = .ok (.string ⟨#[dg8 v]⟩) (w.alloc (.cells #[.int .u8 (48 + (v : Int) % 10)] 5)) := by
  have hn := dg8_nat v
  refine Lib.run_convert_whole (P := Tryd.prog) (w.alloc (.cells #[.int .u8 (48 + (v : Int) % 10)] 5)) 56 5 9 Tryd.underlying56 Tryd.underlying5 Tryd.underlying9 w.heap.size 0 ⟨#[dg8 v]⟩ ?_ 1
  intro i h
  have hi : i = 0 := by have h2 : i < 1 := h; omega
  subst hi
  have hh := World.alloc_heap_new w (.cells #[.int .u8 (48 + (v : Int) % 10)] 5)
  unfold World.cell?
  rw [show ({ block := w.heap.size, off := 0 + 0, spot := none } : Addr).block = w.heap.size from rfl, hh]
  show some _ = some (Value.int .u8 (((dg8 v).toNat : Nat) : Int))
  rw [hn]
  rfl
/-- While the digits are told: what is left, and those that stand. -/
def DWay (m q : Nat) (S : ByteArray) : Prop := Lib.decDigits m = Lib.decDigits q ++ S.data.toList
theorem DWay.start (m : Nat) : DWay m m ⟨#[]⟩ := by unfold DWay; simp
theorem DWay.more {m q : Nat} {S : ByteArray} (h : DWay m q S) (hq : 10 ≤ q) : DWay m (q / 10) ((⟨#[dg8 q]⟩ : ByteArray) ++ S) := by
  unfold DWay at *
  rw [h, Lib.decDigits, dif_neg (by omega)]
  simp [ByteArray.data_append, dg8]
theorem DWay.last {m q : Nat} {S : ByteArray} (h : DWay m q S) (hq : q < 10) : (⟨#[dg8 q]⟩ : ByteArray) ++ S = ⟨(Lib.decDigits m).toArray⟩ := by
  unfold DWay at h
  rw [h, Lib.decDigits_one hq]
  apply ByteArray.ext
  simp [ByteArray.data_append, dg8, Nat.mod_eq_of_lt hq]
theorem DWay.short {m q : Nat} {S : ByteArray} (h : DWay m q S) (hm : m ≤ 4611686018427387904) : S.size ≤ 20 := by
  unfold DWay at h
  have h1 := itoa_len (m : Int) (by omega)
  unfold Lib.itoa at h1
  rw [if_neg (by omega), Int.toNat_natCast, h, List.length_append] at h1
  have : S.data.toList.length = S.size := by simp
  omega
theorem itoa_nat (m : Nat) : Lib.itoa (m : Int) = Lib.decDigits m := by
  unfold Lib.itoa
  rw [if_neg (by omega), Int.toNat_natCast]
theorem itoa_neg {m : Nat} (h : 0 < m) : Lib.itoa (-(m : Int)) = 45 :: Lib.decDigits m := by
  unfold Lib.itoa
  rw [if_pos (by omega), Int.natAbs_neg, Int.natAbs_natCast]
set_option maxRecDepth 100000 in
set_option maxHeartbeats 4000000 in
theorem dec12p {w : World} {m : Nat} (hm : m ≤ 4611686018427387904) : Calls Tryd.prog 11 #[.int .i64 ((m : Int))] w fun e w' => e = .returned (.string ⟨(Lib.itoa ((m : Int))).toArray⟩) ∧ Below w.heap.size w w' := by
  have hneg : ¬ (m : Int) < 0 := by omega
  go_enter Tryd.func11, Tryd.ntmps11
  go_wp2
  go_loopw [3, 4] (fun ss vv wr => ∃ (S : ByteArray) (q : Nat), ss = .string S ∧ vv = .int .i64 (q : Int) ∧ DWay m q S ∧ q ≤ m ∧ Below w.heap.size w wr) (fun _ vv _ => (intOf vv).toNat)
  case atStart => exact ⟨⟨#[]⟩, m, rfl, rfl, DWay.start m, Nat.le_refl _, Below.refl _ _⟩
  case round =>
    obtain ⟨S, q, rfl, rfl, hway, hqm, hbw⟩ := hrel
    have hsz := hway.short hm
    have HW := Lib.hid hway
    have HB := Lib.hid hbw
    have hsb := hbw.size
    have hcv := conv_dg wr q
    clear hway hbw
    by_cases hv : q < 10
    · have hv' : (q : Int) < 10 := by omega
      have hq0 : (q : Int) / 10 = 0 := by omega
      have HL := Lib.hid (HW.out.last hv)
      go_wp2
      go_ret
      refine ⟨?_, HB.out.alloc hsb _⟩
      rw [itoa_nat, HL.out]
      rfl
    · have hv' : ¬ (q : Int) < 10 := by omega
      have hq0 : ¬ (q : Int) / 10 = 0 := by omega
      go_wp2
      refine ⟨⟨_, q / 10, rfl, by go_num, HW.out.more (by omega), by omega, HB.out.alloc hsb _⟩, by simp [intOf]; omega⟩
set_option maxRecDepth 100000 in
set_option maxHeartbeats 4000000 in
theorem dec12n {w : World} {m : Nat} (h0 : 0 < m) (hm : m ≤ 4611686018427387904) : Calls Tryd.prog 11 #[.int .i64 (-(m : Int))] w fun e w' => e = .returned (.string ⟨(Lib.itoa (-(m : Int))).toArray⟩) ∧ Below w.heap.size w w' := by
  have hneg : (-(m : Int)) < 0 := by omega
  go_enter Tryd.func11, Tryd.ntmps11
  go_wp2
  go_loopw [3, 4] (fun ss vv wr => ∃ (S : ByteArray) (q : Nat), ss = .string S ∧ vv = .int .i64 (q : Int) ∧ DWay m q S ∧ q ≤ m ∧ Below w.heap.size w wr) (fun _ vv _ => (intOf vv).toNat)
  case atStart => exact ⟨⟨#[]⟩, m, rfl, by simp, DWay.start m, Nat.le_refl _, Below.refl _ _⟩
  case round =>
    obtain ⟨S, q, rfl, rfl, hway, hqm, hbw⟩ := hrel
    have hsz := hway.short hm
    have HW := Lib.hid hway
    have HB := Lib.hid hbw
    have hsb := hbw.size
    have hcv := conv_dg wr q
    clear hway hbw
    by_cases hv : q < 10
    · have hv' : (q : Int) < 10 := by omega
      have hq0 : (q : Int) / 10 = 0 := by omega
      have HL := Lib.hid (HW.out.last hv)
      go_wp2
      go_ret
      refine ⟨?_, HB.out.alloc hsb _⟩
      rw [itoa_neg h0, HL.out]
      show Ending.returned (.string ((⟨#[45]⟩ : ByteArray) ++ ⟨(Lib.decDigits m).toArray⟩)) = _
      have : ((⟨#[45]⟩ : ByteArray) ++ ⟨(Lib.decDigits m).toArray⟩) = ⟨(45 :: Lib.decDigits m).toArray⟩ := by apply ByteArray.ext; simp [ByteArray.data_append]
      rw [this]
    · have hv' : ¬ (q : Int) < 10 := by omega
      have hq0 : ¬ (q : Int) / 10 = 0 := by omega
      go_wp2
      refine ⟨⟨_, q / 10, rfl, by go_num, HW.out.more (by omega), by omega, HB.out.alloc hsb _⟩, by simp [intOf]; omega⟩
theorem dec12 {w : World} {v : Int} (hv : -4611686018427387904 ≤ v ∧ v ≤ 4611686018427387904) : Calls Tryd.prog 11 #[.int .i64 v] w fun e w' => e = .returned (.string ⟨(Lib.itoa v).toArray⟩) ∧ Below w.heap.size w w' := by
  by_cases hn : v < 0
  · obtain ⟨m, rfl⟩ : ∃ m : Nat, v = -(m : Int) := ⟨v.natAbs, by omega⟩
    exact dec12n (by omega) (by omega)
  · obtain ⟨m, rfl⟩ : ∃ m : Nat, v = (m : Int) := ⟨v.natAbs, by omega⟩
    exact dec12p (by omega)
end Go.Proofs.YtnapannphldglaaDoor
