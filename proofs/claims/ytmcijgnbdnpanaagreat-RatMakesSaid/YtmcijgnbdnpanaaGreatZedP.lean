/- zed.Parse. -/
import Derived.Test.YtmcijgnbdnpanaaGreatZedFun
import Derived.Test.YtmcijgnbdnpanaaGreatShelf
namespace Go.Proofs.YtmcijgnbdnpanaaGreat
open Go.RowKit

/-- Is there a - ahead; the digits. -/
def zneg (l : List UInt8) : Bool := Lib.hasPrefix l [45]
def zdig (l : List UInt8) : List UInt8 := Lib.trimPrefix l [45]
theorem zdig_len (l : List UInt8) : (zdig l).length ≤ l.length := by
  unfold zdig Lib.trimPrefix
  split
  · rw [List.length_drop]; omega
  · exact Nat.le_refl _
/-- The call tells the number v, and no error. -/
def GivesZE (w : World) (v : Int) (k : Nat) (e : Ending) (w' : World) : Prop :=
  ∃ A n c, e = .returned (.tuple #[.agg #[.bool (decide (v < 0)), .slice A n c], .int .i64 0]) ∧ ZR w' (decide (v < 0)) A n c v k ∧ n ≤ k ∧ Rd .u64 w' A n (limbs B64 v.natAbs) ∧ Below w.heap.size w w'
theorem GivesI.ze {w w' : World} {v : Int} {k n c : Nat} {s : Bool} {A : Option Addr} (hk : v.natAbs < B64 ^ k) (h : GivesI w v (.returned (.agg #[.bool s, .slice A n c])) w') : GivesZE w v k (.returned (.tuple #[.agg #[.bool s, .slice A n c], .int .i64 0])) w' := by
  obtain ⟨A', n', c', he, h1, h2, h3, h4⟩ := h
  have e := Ending.returned.inj he
  rw [e]
  exact ⟨A', n', c', rfl, ZR.of_fr h3 h1 hk, by rw [← h3.1]; exact length_limbs_le B64_two hk, h3.rd, h4⟩

set_option maxRecDepth 100000 in
set_option maxHeartbeats 1000000 in
theorem zparse_long (s : ByteArray) (w : World) (h : 20000 < s.size) (hm : s.size ≤ maxLen) :
    Calls Tryz.prog 102 #[.string s] w fun e w' => e = .returned (.tuple #[.agg #[.bool false, .slice none 0 0], .int .i64 2]) ∧ Below w.heap.size w w' := by
  unfold maxLen at hm
  go_enter Tryz.func102, Tryz.ntmps102
  go_wp2_with fail
  generalize hW : w.alloc (Obj.cells #[Value.bool false, Value.slice none 0 0] 24) = W
  have hb0 : Below w.heap.size w W := by subst hW; exact (Below.refl _ _).alloc (Nat.le_refl _) _
  have Z : Bx W w.heap.size (.bool false) (.slice none 0 0) := by subst hW; exact Bx.new w _ _
  clear hW
  have hf0 := Z.c0
  have hf1 := Z.c1
  refine bodyPost_ret (v := .tuple #[.agg #[.bool false, .slice none 0 0], .int .i64 2]) (by simp [results, Tryz.results102, go_sem, hf0, hf1]) rfl ?_
  exact ⟨rfl, hb0⟩

/-- The text is no number's. -/
def zbad (l : List UInt8) : Bool := !(isTextB (zdig l)) || (zneg l && decide (dec (zdig l) = 0))
/-- The text's number. -/
def zval (l : List UInt8) : Int := iv (zneg l) (dec (zdig l))

set_option maxRecDepth 100000 in
set_option maxHeartbeats 2000000 in
theorem zparse_form (s : ByteArray) (w : World) (h : s.size ≤ 20000) (ht : zbad s.data.toList = true) :
    Calls Tryz.prog 102 #[.string s] w fun e w' => e = .returned (.tuple #[.agg #[.bool false, .slice none 0 0], .int .i64 11]) ∧ Below w.heap.size w w' := by
  have hlen := zdig_len s.data.toList
  rw [← Lib.size_eq s] at hlen
  obtain ⟨b, hbn⟩ : ∃ b, Lib.hasPrefix s.data.toList (⟨#[45]⟩ : ByteArray).data.toList = b := ⟨_, rfl⟩
  obtain ⟨D, hDD⟩ : ∃ D : ByteArray, (⟨(Lib.trimPrefix s.data.toList (⟨#[45]⟩ : ByteArray).data.toList).toArray⟩ : ByteArray) = D := ⟨_, rfl⟩
  have hDl : D.data.toList = zdig s.data.toList := by rw [← hDD]; rfl
  have hDs : D.size ≤ 20000 := by rw [Lib.size_eq, hDl]; omega
  have hzn : zneg s.data.toList = b := hbn
  have HN := Lib.hid hbn
  have HD := Lib.hid hDD
  unfold zbad at ht
  rw [← hDl, hzn] at ht
  clear hbn hDD hDl hzn hlen
  cases hT : isTextB D.data.toList with
  | false =>
    have HT := Lib.hid hT
    clear hT ht
    go_enter Tryz.func102, Tryz.ntmps102
    go_wp2_with fail
    generalize hW : w.alloc (Obj.cells #[Value.bool false, Value.slice none 0 0] 24) = W
    have hb0 : Below w.heap.size w W := by subst hW; exact (Below.refl _ _).alloc (Nat.le_refl _) _
    have Z : Bx W w.heap.size (.bool false) (.slice none 0 0) := by subst hW; exact Bx.new w _ _
    have hz : w.heap.size < W.heap.size := Z.lt
    clear hW
    go_wp2_with (first
      | (go_at_call 143; (with_reducible refine (Tryz.strings_CutPrefix s _ _).mono ?_); rintro e w' ⟨rfl, rfl⟩; rw [HN.out, HD.out])
      | (go_at_call 104; (with_reducible refine (parse_form D _ hDs HT.out).mono ?_); rintro e w1 ⟨rfl, rfl⟩
         have r0 := Z.c0
         have r1 := Z.c1
         have r2 := Z.f0
         have r3 := Z.f1))
    have hf0 := (Z.set2 (.bool false) (.slice none 0 0)).c0
    have hf1 := (Z.set2 (.bool false) (.slice none 0 0)).c1
    refine bodyPost_ret (v := .tuple #[.agg #[.bool false, .slice none 0 0], .int .i64 11]) (by simp [results, Tryz.results102, go_sem, hf0, hf1]) rfl ?_
    exact ⟨rfl, (hb0.setCell (Nat.le_refl _) _).setCell (Nat.le_refl _) _⟩
  | true =>
    have HT := Lib.hid hT
    rw [hT] at ht
    have hb : b = true := by cases b <;> simp_all
    subst hb
    have hV : dec D.data.toList = 0 := by simpa using ht
    have HV := Lib.hid hV
    clear hT ht hV
    go_enter Tryz.func102, Tryz.ntmps102
    go_wp2_with fail
    generalize hW : w.alloc (Obj.cells #[Value.bool false, Value.slice none 0 0] 24) = W
    have hb0 : Below w.heap.size w W := by subst hW; exact (Below.refl _ _).alloc (Nat.le_refl _) _
    have Z : Bx W w.heap.size (.bool false) (.slice none 0 0) := by subst hW; exact Bx.new w _ _
    have hz : w.heap.size < W.heap.size := Z.lt
    clear hW
    go_wp2_with (first
      | (go_at_call 143; (with_reducible refine (Tryz.strings_CutPrefix s _ _).mono ?_); rintro e w' ⟨rfl, rfl⟩; rw [HN.out, HD.out])
      | (go_at_call 104; (with_reducible refine (parse_ok D _ hDs HT.out).mono ?_); rintro e w1 ⟨A1, n1, k1, rfl, p1, p2, p3, p4⟩
         rw [HV.out, limbs_zero] at p3
         obtain rfl : n1 = 0 := p3.1.symm
         have Z1 := Z.below p4
         have hb1 := bend hb0 p4
         have r0 := Z1.c0
         have r1 := Z1.c1
         have r2 := Z1.f0
         have r3 := Z1.f1))
    have hf0 := (Z1.set2 (.bool false) (.slice none 0 0)).c0
    have hf1 := (Z1.set2 (.bool false) (.slice none 0 0)).c1
    refine bodyPost_ret (v := .tuple #[.agg #[.bool false, .slice none 0 0], .int .i64 11]) (by simp [results, Tryz.results102, go_sem, hf0, hf1]) rfl ?_
    exact ⟨rfl, (hb1.setCell (Nat.le_refl _) _).setCell (Nat.le_refl _) _⟩

set_option maxRecDepth 100000 in
set_option maxHeartbeats 2000000 in
theorem zparse_ok (s : ByteArray) (w : World) (h : s.size ≤ 20000) (ht : zbad s.data.toList = false) (k : Nat) (hk : (zval s.data.toList).natAbs < B64 ^ k) :
    Calls Tryz.prog 102 #[.string s] w (GivesZE w (zval s.data.toList) k) := by
  have hlen := zdig_len s.data.toList
  rw [← Lib.size_eq s] at hlen
  obtain ⟨b, hbn⟩ : ∃ b, Lib.hasPrefix s.data.toList (⟨#[45]⟩ : ByteArray).data.toList = b := ⟨_, rfl⟩
  obtain ⟨D, hDD⟩ : ∃ D : ByteArray, (⟨(Lib.trimPrefix s.data.toList (⟨#[45]⟩ : ByteArray).data.toList).toArray⟩ : ByteArray) = D := ⟨_, rfl⟩
  have hDl : D.data.toList = zdig s.data.toList := by rw [← hDD]; rfl
  have hDs : D.size ≤ 20000 := by rw [Lib.size_eq, hDl]; omega
  have hzn : zneg s.data.toList = b := hbn
  have HN := Lib.hid hbn
  have HD := Lib.hid hDD
  unfold zbad at ht
  unfold zval at hk ⊢
  rw [← hDl, hzn] at ht hk
  rw [← hDl, hzn]
  have hT : isTextB D.data.toList = true := by cases hh : isTextB D.data.toList <;> simp_all
  have hV : b = true → dec D.data.toList ≠ 0 := by rintro rfl e; simp [hT, e] at ht
  have HT := Lib.hid hT
  obtain ⟨V, hVV⟩ : ∃ V, V = dec D.data.toList := ⟨_, rfl⟩
  have HVV := Lib.hid hVV
  rw [← hVV] at hV hk ⊢
  have HK := Lib.hid hk
  clear hbn hDD hDl hzn hlen hT ht hk hVV
  cases b
  · go_enter Tryz.func102, Tryz.ntmps102
    go_wp2_with fail
    generalize hW : w.alloc (Obj.cells #[Value.bool false, Value.slice none 0 0] 24) = W
    have hb0 : Below w.heap.size w W := by subst hW; exact (Below.refl _ _).alloc (Nat.le_refl _) _
    have Z : Bx W w.heap.size (.bool false) (.slice none 0 0) := by subst hW; exact Bx.new w _ _
    have hz : w.heap.size < W.heap.size := Z.lt
    clear hW
    go_wp2_with (first
      | (go_at_call 143; (with_reducible refine (Tryz.strings_CutPrefix s _ _).mono ?_); rintro e w' ⟨rfl, rfl⟩; rw [HN.out, HD.out])
      | (go_at_call 104; (with_reducible refine (parse_ok D _ hDs HT.out).mono ?_); rintro e w1 ⟨A1, n1, k1, rfl, p1, p2, p3, p4⟩
         rw [← HVV.out] at p3
         have Z1 := Z.below p4)
      | (go_at_call 111; (with_reducible refine (number_any _ _ _ _ _).mono ?_); rintro e w2 ⟨rfl, q4⟩
         have Z2 := Z1.below q4
         have r0 := Z2.c0
         have r1 := Z2.c1
         have r2 := Z2.f0
         have r3 := Z2.f1))
    have hf0 := (Z2.set2 (.bool (false && decide (0 < n1))) (.slice A1 n1 k1)).c0
    have hf1 := (Z2.set2 (.bool (false && decide (0 < n1))) (.slice A1 n1 k1)).c1
    simp only [Bool.false_and] at hf0 hf1
    refine bodyPost_ret (v := .tuple #[.agg #[.bool (false && decide (0 < n1)), .slice A1 n1 k1], .int .i64 0]) (by simp [results, Tryz.results102, go_sem, hf0, hf1]) rfl ?_
    exact (close_i (s := false) (g := w.heap.size) hb0 (Nat.le_refl _) hz rfl p1 p2 p3 p4 q4 _ _).ze HK.out
  · have hV0 := hV rfl
    have HV0 := Lib.hid hV0
    clear hV hV0
    go_enter Tryz.func102, Tryz.ntmps102
    go_wp2_with fail
    generalize hW : w.alloc (Obj.cells #[Value.bool false, Value.slice none 0 0] 24) = W
    have hb0 : Below w.heap.size w W := by subst hW; exact (Below.refl _ _).alloc (Nat.le_refl _) _
    have Z : Bx W w.heap.size (.bool false) (.slice none 0 0) := by subst hW; exact Bx.new w _ _
    have hz : w.heap.size < W.heap.size := Z.lt
    clear hW
    go_wp2_with (first
      | (go_at_call 143; (with_reducible refine (Tryz.strings_CutPrefix s _ _).mono ?_); rintro e w' ⟨rfl, rfl⟩; rw [HN.out, HD.out])
      | (go_at_call 104; (with_reducible refine (parse_ok D _ hDs HT.out).mono ?_); rintro e w1 ⟨A1, n1, k1, rfl, p1, p2, p3, p4⟩
         rw [← HVV.out] at p3
         have hn1 : 0 < n1 := by
           have := p3.1
           rw [limbs_pos B64_two HV0.out] at this
           simp at this; omega
         have hnz : ((n1 : Int) == 0) = false := by (simp; omega)
         clear hn1
         have Z1 := Z.below p4)
      | (go_at_call 111; (with_reducible refine (number_any _ _ _ _ _).mono ?_); rintro e w2 ⟨rfl, q4⟩
         have Z2 := Z1.below q4
         have r0 := Z2.c0
         have r1 := Z2.c1
         have r2 := Z2.f0
         have r3 := Z2.f1))
    have hf0 := (Z2.set2 (.bool (true && decide (0 < n1))) (.slice A1 n1 k1)).c0
    have hf1 := (Z2.set2 (.bool (true && decide (0 < n1))) (.slice A1 n1 k1)).c1
    simp only [Bool.true_and] at hf0 hf1
    refine bodyPost_ret (v := .tuple #[.agg #[.bool (true && decide (0 < n1)), .slice A1 n1 k1], .int .i64 0]) (by simp [results, Tryz.results102, go_sem, hf0, hf1]) rfl ?_
    exact (close_i (s := true) (g := w.heap.size) hb0 (Nat.le_refl _) hz rfl p1 p2 p3 p4 q4 _ _).ze HK.out
end Go.Proofs.YtmcijgnbdnpanaaGreat
