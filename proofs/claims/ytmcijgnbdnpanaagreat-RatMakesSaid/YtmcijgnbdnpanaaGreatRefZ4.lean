/- The document's own answers of layer 2: Text, Parse. -/
import Derived.Test.YtmcijgnbdnpanaaGreatRefZ2
namespace Go.Proofs.YtmcijgnbdnpanaaGreat
open Go.RowKit

theorem txt_room {V k : Nat} (h : V < B32 ^ k) (hk : k ≤ 900) : ¬ 9223372036854775807 < 1 + (txt V).length := by
  have h2 : V < B64 ^ k := Nat.lt_of_lt_of_le h (Nat.pow_le_pow_left (by decide) k)
  have := txt_len h2 hk
  omega

set_option maxRecDepth 100000 in
set_option maxHeartbeats 2000000 in
theorem rtext2 {w : World} {s : Bool} {A : Option Addr} {n c k : Nat} {v : Int} (X0 : RG w s A n c v k) (hk9 : k ≤ 900) :
    Calls Tryz.prog 109 #[.agg #[.bool s, .slice A n c]] w fun e w' => e = .returned (.string ⟨(ztxt v).toArray⟩) ∧ Below w.heap.size w w' := by
  obtain ⟨hs, X⟩ := X0
  have hk : k ≤ 2000 := by omega
  have hroom := txt_room X.lt hk9
  obtain ⟨V, hV⟩ : ∃ V, V = v.natAbs := ⟨_, rfl⟩
  rw [← hV] at X hroom
  cases s
  · have HZ : Hid (ztxt v = txt V) := by
      have hv : ¬ v < 0 := by simpa using hs
      show _ = _; rw [ztxt, if_neg hv, hV]
    clear hs hV
    go_enter Tryz.func109, Tryz.ntmps109
    go_wp2_with fail
    generalize hW : (w.alloc (Obj.cells #[Value.bool false, Value.slice A n c] 32)) = W
    have hb : Below w.heap.size w W := by subst hW; exact ((Below.refl _ _).alloc (Nat.le_refl _) _)
    have XA : By W w.heap.size (Value.bool false) (Value.slice A n c) := by subst hW; exact By.new w _ _
    have hz : W.heap.size = w.heap.size + 1 := by subst hW; simp
    clear hW
    replace X := X.below hb
    have xa0 := XA.c0
    have xa1 := XA.c1
    go_wp2_with (first
      | (go_at_call 110; (with_reducible refine (rtext_any X hk).mono ?_); rintro e w2 ⟨rfl, hh⟩
         replace hb := bend hb hh))
    go_ret
    refine ⟨ret_eq ?_, hb⟩
    show Value.string ⟨(txt V).toArray⟩ = _
    rw [HZ.out]
  · have HZ : Hid (ztxt v = 45 :: txt V) := by
      have hv : v < 0 := by simpa using hs
      show _ = _; rw [ztxt, if_pos hv, hV]
    clear hs hV
    go_enter Tryz.func109, Tryz.ntmps109
    go_wp2_with fail
    generalize hW : (w.alloc (Obj.cells #[Value.bool true, Value.slice A n c] 32)) = W
    have hb : Below w.heap.size w W := by subst hW; exact ((Below.refl _ _).alloc (Nat.le_refl _) _)
    have XA : By W w.heap.size (Value.bool true) (Value.slice A n c) := by subst hW; exact By.new w _ _
    have hz : W.heap.size = w.heap.size + 1 := by subst hW; simp
    clear hW
    replace X := X.below hb
    have xa0 := XA.c0
    have xa1 := XA.c1
    go_wp2_with (first
      | (go_at_call 110; (with_reducible refine (rtext_any X hk).mono ?_); rintro e w2 ⟨rfl, hh⟩
         replace hb := bend hb hh))
    go_ret
    refine ⟨ret_eq ?_, hb⟩
    show Value.string (⟨#[45]⟩ ++ ⟨(txt V).toArray⟩) = _
    rw [HZ.out]
    congr 1

theorem zneg_true {s : ByteArray} (h : zneg s.data.toList = true) : ∃ hp : 0 < s.size, s[0].toNat = 45 ∧ (s.extract 1 s.size).data.toList = zdig s.data.toList := by
  have hz := Lib.size_eq s
  cases hl : s.data.toList with
  | nil => rw [hl] at h; cases h
  | cons x l =>
    rw [hl] at h hz
    have hp : 0 < s.size := by rw [hz]; simp
    have hx : x = 45 := by
      have h2 : ((45 : UInt8) == x && List.isPrefixOf [] l) = true := h
      simp at h2; exact h2.symm
    subst hx
    have h0 : s[0] = 45 := by
      have : s.data.toList[0]? = some s[0] := by rw [List.getElem?_eq_getElem (by rw [hl]; simp)]; rfl
      rw [hl] at this
      simpa using this.symm
    refine ⟨hp, by rw [h0]; rfl, ?_⟩
    have e1 : zdig (45 :: l) = l := by simp [zdig, Lib.trimPrefix, Lib.hasPrefix]
    rw [e1, ByteArray.data_extract, Array.toList_extract, hl, List.extract_eq_take_drop, List.drop_succ_cons, List.drop_zero, hz]
    simp
theorem zneg_false {s : ByteArray} (h : zneg s.data.toList = false) (hp : 0 < s.size) : ((s[0].toNat : Int) == 45) = false := by
  cases hl : s.data.toList with
  | nil =>
    have hz := Lib.size_eq s
    rw [hl] at hz
    rw [hz] at hp
    exact absurd hp (by simp)
  | cons x l =>
    have h0 : s[0] = x := by
      have : s.data.toList[0]? = some s[0] := by rw [List.getElem?_eq_getElem (by rw [hl]; simp)]; rfl
      rw [hl] at this
      simpa using this.symm
    have hx : x ≠ 45 := by
      intro e
      subst e
      rw [hl] at h
      have h2 : ((45 : UInt8) == 45 && List.isPrefixOf [] l) = false := h
      simp at h2
    have : s[0].toNat ≠ 45 := fun e => hx (by rw [← h0]; exact UInt8.toNat_inj.1 e)
    simp; omega
theorem zdig_false {l : List UInt8} (h : zneg l = false) : zdig l = l := by
  have : Lib.hasPrefix l [45] = false := h
  unfold zdig Lib.trimPrefix
  rw [this]; rfl
theorem below_set2' {B g : Nat} {w W : World} (h : Below B w W) (hg : B ≤ g) (x y : Value) : Below B w ((W.setCell ⟨g, 0, none⟩ x).setCell ⟨g, 1, none⟩ y) := (h.setCell hg _).setCell hg _

set_option maxRecDepth 100000 in
set_option maxHeartbeats 2000000 in
theorem rparse2_long (s : ByteArray) (w : World) (h : 20000 < s.size) (hm : s.size ≤ maxLen) :
    Calls Tryz.prog 105 #[.string s] w fun e w' => e = .returned (.tuple #[.agg #[.bool false, .slice none 0 0], .int .i64 2]) ∧ Below w.heap.size w w' := by
  unfold maxLen at hm
  go_enter Tryz.func105, Tryz.ntmps105
  go_wp2_with fail
  generalize hW : (w.alloc (Obj.cells #[Value.bool false, Value.slice none 0 0] 32)) = W
  have hb : Below w.heap.size w W := by subst hW; exact ((Below.refl _ _).alloc (Nat.le_refl _) _)
  have Z : By W w.heap.size (Value.bool false) (Value.slice none 0 0) := by subst hW; exact By.new w _ _
  have hz : W.heap.size = w.heap.size + 1 := by subst hW; simp
  clear hW
  have hf0 := Z.c0
  have hf1 := Z.c1
  refine bodyPost_ret (v := .tuple #[.agg #[.bool false, .slice none 0 0], .int .i64 2]) (by simp [results, Tryz.results105, go_sem, hf0, hf1]) rfl ?_
  exact ⟨rfl, hb⟩

set_option maxRecDepth 100000 in
set_option maxHeartbeats 2000000 in
theorem rparse2_tf (s : ByteArray) (w : World) (hs : s.size ≤ 20000) (hn : zneg s.data.toList = true) (ht : isTextB (zdig s.data.toList) = false) :
    Calls Tryz.prog 105 #[.string s] w fun e w' => e = .returned (.tuple #[.agg #[.bool false, .slice none 0 0], .int .i64 11]) ∧ Below w.heap.size w w' := by
  obtain ⟨hp, h45, hD⟩ := zneg_true hn
  have e45 : ((s[0].toNat : Int) == 45) = true := by simp; omega
  have h1s : (1 : Int) ≤ (s.size : Int) := by omega
  have hDs : (s.extract 1 s.size).size ≤ 20000 := by rw [ByteArray.size_extract]; omega
  rw [← hD] at ht
  have HT := Lib.hid ht
  clear ht hD hn h45
  go_enter Tryz.func105, Tryz.ntmps105
  go_wp2_with fail
  generalize hW : (w.alloc (Obj.cells #[Value.bool false, Value.slice none 0 0] 32)) = W
  have hb : Below w.heap.size w W := by subst hW; exact ((Below.refl _ _).alloc (Nat.le_refl _) _)
  have Z : By W w.heap.size (Value.bool false) (Value.slice none 0 0) := by subst hW; exact By.new w _ _
  have hz : W.heap.size = w.heap.size + 1 := by subst hW; simp
  clear hW
  go_wp2_with (first
    | (go_at_call 106; (with_reducible refine (rparse_no (s.extract 1 s.size) _ hDs HT.out).mono ?_); rintro e w' ⟨rfl, rfl⟩
       have r0 := Z.c0
       have r1 := Z.c1
       have r2 := Z.f0
       have r3 := Z.f1))
  have hf0 := (Z.set2 (.bool false) (.slice none 0 0)).c0
  have hf1 := (Z.set2 (.bool false) (.slice none 0 0)).c1
  refine bodyPost_ret (v := .tuple #[.agg #[.bool false, .slice none 0 0], .int .i64 11]) (by simp [results, Tryz.results105, go_sem, hf0, hf1]) rfl ?_
  exact ⟨rfl, below_set2' hb (Nat.le_refl _) _ _⟩

set_option maxRecDepth 100000 in
set_option maxHeartbeats 2000000 in
theorem rparse2_tz (s : ByteArray) (w : World) (hs : s.size ≤ 20000) (hn : zneg s.data.toList = true) (ht : isTextB (zdig s.data.toList) = true) (hv : dec (zdig s.data.toList) = 0) :
    Calls Tryz.prog 105 #[.string s] w fun e w' => e = .returned (.tuple #[.agg #[.bool false, .slice none 0 0], .int .i64 11]) ∧ Below w.heap.size w w' := by
  obtain ⟨hp, h45, hD⟩ := zneg_true hn
  have e45 : ((s[0].toNat : Int) == 45) = true := by simp; omega
  have h1s : (1 : Int) ≤ (s.size : Int) := by omega
  have hDs : (s.extract 1 s.size).size ≤ 20000 := by rw [ByteArray.size_extract]; omega
  rw [← hD] at ht hv
  have HT := Lib.hid ht
  have HV := Lib.hid hv
  clear ht hv hD hn h45
  go_enter Tryz.func105, Tryz.ntmps105
  go_wp2_with fail
  generalize hW : (w.alloc (Obj.cells #[Value.bool false, Value.slice none 0 0] 32)) = W
  have hb : Below w.heap.size w W := by subst hW; exact ((Below.refl _ _).alloc (Nat.le_refl _) _)
  have Z : By W w.heap.size (Value.bool false) (Value.slice none 0 0) := by subst hW; exact By.new w _ _
  have hz : W.heap.size = w.heap.size + 1 := by subst hW; simp
  clear hW
  go_wp2_with (first
    | (go_at_call 106; (with_reducible refine (rparse_yes (s.extract 1 s.size) _ hDs HT.out).mono ?_); rintro e w' ⟨A_x, n_x, c_x, rfl, x, hh⟩
       rw [HV.out] at x
       obtain rfl : n_x = 0 := by (have := x.1.1; rw [limbs_zero] at this; exact this.symm)
       replace Z := Z.below hh
       replace hb := bend hb hh
       have r0 := Z.c0
       have r1 := Z.c1
       have r2 := Z.f0
       have r3 := Z.f1))
  have hf0 := (Z.set2 (.bool false) (.slice none 0 0)).c0
  have hf1 := (Z.set2 (.bool false) (.slice none 0 0)).c1
  refine bodyPost_ret (v := .tuple #[.agg #[.bool false, .slice none 0 0], .int .i64 11]) (by simp [results, Tryz.results105, go_sem, hf0, hf1]) rfl ?_
  exact ⟨rfl, below_set2' hb (Nat.le_refl _) _ _⟩

set_option maxRecDepth 100000 in
set_option maxHeartbeats 2000000 in
theorem rparse2_ff0 (s : ByteArray) (w : World) (hs : s.size ≤ 20000) (hp : ¬ 0 < s.size) (ht : isTextB s.data.toList = false) :
    Calls Tryz.prog 105 #[.string s] w fun e w' => e = .returned (.tuple #[.agg #[.bool false, .slice none 0 0], .int .i64 11]) ∧ Below w.heap.size w w' := by
  have hz : s.size = 0 := by omega
  have hDs := hs
  have HT := Lib.hid ht
  clear ht
  go_enter Tryz.func105, Tryz.ntmps105
  go_wp2_with fail
  generalize hW : (w.alloc (Obj.cells #[Value.bool false, Value.slice none 0 0] 32)) = W
  have hb : Below w.heap.size w W := by subst hW; exact ((Below.refl _ _).alloc (Nat.le_refl _) _)
  have Z : By W w.heap.size (Value.bool false) (Value.slice none 0 0) := by subst hW; exact By.new w _ _
  have hz : W.heap.size = w.heap.size + 1 := by subst hW; simp
  clear hW
  go_wp2_with (first
    | (go_at_call 106; (with_reducible refine (rparse_no s _ hDs HT.out).mono ?_); rintro e w' ⟨rfl, rfl⟩
       have r0 := Z.c0
       have r1 := Z.c1
       have r2 := Z.f0
       have r3 := Z.f1))
  have hf0 := (Z.set2 (.bool false) (.slice none 0 0)).c0
  have hf1 := (Z.set2 (.bool false) (.slice none 0 0)).c1
  refine bodyPost_ret (v := .tuple #[.agg #[.bool false, .slice none 0 0], .int .i64 11]) (by simp [results, Tryz.results105, go_sem, hf0, hf1]) rfl ?_
  exact ⟨rfl, below_set2' hb (Nat.le_refl _) _ _⟩

set_option maxRecDepth 100000 in
set_option maxHeartbeats 2000000 in
theorem rparse2_ff1 (s : ByteArray) (w : World) (hs : s.size ≤ 20000) (hn : zneg s.data.toList = false) (hp : 0 < s.size) (ht : isTextB s.data.toList = false) :
    Calls Tryz.prog 105 #[.string s] w fun e w' => e = .returned (.tuple #[.agg #[.bool false, .slice none 0 0], .int .i64 11]) ∧ Below w.heap.size w w' := by
  have e45 := zneg_false hn hp
  have hDs := hs
  have HT := Lib.hid ht
  clear ht hn
  go_enter Tryz.func105, Tryz.ntmps105
  go_wp2_with fail
  generalize hW : (w.alloc (Obj.cells #[Value.bool false, Value.slice none 0 0] 32)) = W
  have hb : Below w.heap.size w W := by subst hW; exact ((Below.refl _ _).alloc (Nat.le_refl _) _)
  have Z : By W w.heap.size (Value.bool false) (Value.slice none 0 0) := by subst hW; exact By.new w _ _
  have hz : W.heap.size = w.heap.size + 1 := by subst hW; simp
  clear hW
  go_wp2_with (first
    | (go_at_call 106; (with_reducible refine (rparse_no s _ hDs HT.out).mono ?_); rintro e w' ⟨rfl, rfl⟩
       have r0 := Z.c0
       have r1 := Z.c1
       have r2 := Z.f0
       have r3 := Z.f1))
  have hf0 := (Z.set2 (.bool false) (.slice none 0 0)).c0
  have hf1 := (Z.set2 (.bool false) (.slice none 0 0)).c1
  refine bodyPost_ret (v := .tuple #[.agg #[.bool false, .slice none 0 0], .int .i64 11]) (by simp [results, Tryz.results105, go_sem, hf0, hf1]) rfl ?_
  exact ⟨rfl, below_set2' hb (Nat.le_refl _) _ _⟩

set_option maxRecDepth 100000 in
set_option maxHeartbeats 2000000 in
theorem rparse2_ty (s : ByteArray) (w : World) (hs : s.size ≤ 20000) (hn : zneg s.data.toList = true) (ht : isTextB (zdig s.data.toList) = true) (hv : dec (zdig s.data.toList) ≠ 0) :
    Calls Tryz.prog 105 #[.string s] w fun e w' => ∃ b A n c, e = .returned (.tuple #[.agg #[.bool b, .slice A n c], .int .i64 0]) ∧ RG w' b A n c (iv true (dec (s.extract 1 s.size).data.toList)) 2500 ∧ Below w.heap.size w w' := by
  obtain ⟨hp, h45, hD⟩ := zneg_true hn
  have e45 : ((s[0].toNat : Int) == 45) = true := by simp; omega
  have h1s : (1 : Int) ≤ (s.size : Int) := by omega
  have hDs : (s.extract 1 s.size).size ≤ 20000 := by rw [ByteArray.size_extract]; omega
  rw [← hD] at ht hv
  have HT := Lib.hid ht
  have HV := Lib.hid hv
  clear ht hv hD hn h45
  go_enter Tryz.func105, Tryz.ntmps105
  go_wp2_with fail
  generalize hW : (w.alloc (Obj.cells #[Value.bool false, Value.slice none 0 0] 32)) = W
  have hb : Below w.heap.size w W := by subst hW; exact ((Below.refl _ _).alloc (Nat.le_refl _) _)
  have Z : By W w.heap.size (Value.bool false) (Value.slice none 0 0) := by subst hW; exact By.new w _ _
  have hz : W.heap.size = w.heap.size + 1 := by subst hW; simp
  clear hW
  go_wp2_with (first
    | (go_at_call 106; (with_reducible refine (rparse_yes (s.extract 1 s.size) _ hDs HT.out).mono ?_); rintro e w' ⟨A_x, n_x, c_x, rfl, x, hh⟩
       have hnp : 0 < n_x := by
         have := x.1.1
         rw [limbs_pos B32_two HV.out] at this
         simp at this; omega
       have hnz : ((n_x : Int) == 0) = false := by (simp; omega)
       clear hnp
       replace Z := Z.below hh
       replace hb := bend hb hh)
    | (go_at_call 97; (with_reducible refine (made_any _ _ _ _ _).mono ?_); rintro e w_m ⟨rfl, hh⟩
       try replace X := X.below hh
       try replace Y := Y.below hh
       try replace x := x.below hh
       try replace XA := XA.below hh
       try replace XB := XB.below hh
       try replace Z := Z.below hh
       try replace T := T.below hh
       replace hb := bend hb hh
       have r0 := Z.c0
       have r1 := Z.c1
       have r2 := Z.f0
       have r3 := Z.f1))
  have hf0 := (Z.set2 (.bool (true && decide (0 < n_x))) (.slice A_x n_x c_x)).c0
  have hf1 := (Z.set2 (.bool (true && decide (0 < n_x))) (.slice A_x n_x c_x)).c1
  simp only [Bool.true_and] at hf0 hf1
  refine bodyPost_ret (v := .tuple #[.agg #[.bool (true && decide (0 < n_x)), .slice A_x n_x c_x], .int .i64 0]) (by simp [results, Tryz.results105, go_sem, hf0, hf1]) rfl ?_
  obtain ⟨b, A1, n1, c1, he, hg, hB⟩ := close_rz (s := true) (v := iv true (dec (s.extract 1 s.size).data.toList)) (g := w.heap.size) hb (Nat.le_refl _) Z x rfl (.bool (true && decide (0 < n_x))) (.slice A_x n_x c_x)
  have e := Ending.returned.inj he
  rw [e]
  exact ⟨b, A1, n1, c1, rfl, by simpa using hg, by simpa using hB⟩

set_option maxRecDepth 100000 in
set_option maxHeartbeats 2000000 in
theorem rparse2_fy (s : ByteArray) (w : World) (hs : s.size ≤ 20000) (hn : zneg s.data.toList = false) (hp : 0 < s.size) (ht : isTextB s.data.toList = true) :
    Calls Tryz.prog 105 #[.string s] w fun e w' => ∃ b A n c, e = .returned (.tuple #[.agg #[.bool b, .slice A n c], .int .i64 0]) ∧ RG w' b A n c (iv false (dec s.data.toList)) 2500 ∧ Below w.heap.size w w' := by
  have e45 := zneg_false hn hp
  have hDs := hs
  have HT := Lib.hid ht
  clear ht hn
  go_enter Tryz.func105, Tryz.ntmps105
  go_wp2_with fail
  generalize hW : (w.alloc (Obj.cells #[Value.bool false, Value.slice none 0 0] 32)) = W
  have hb : Below w.heap.size w W := by subst hW; exact ((Below.refl _ _).alloc (Nat.le_refl _) _)
  have Z : By W w.heap.size (Value.bool false) (Value.slice none 0 0) := by subst hW; exact By.new w _ _
  have hz : W.heap.size = w.heap.size + 1 := by subst hW; simp
  clear hW
  go_wp2_with (first
    | (go_at_call 106; (with_reducible refine (rparse_yes s _ hDs HT.out).mono ?_); rintro e w' ⟨A_x, n_x, c_x, rfl, x, hh⟩
       replace Z := Z.below hh
       replace hb := bend hb hh)
    | (go_at_call 97; (with_reducible refine (made_any _ _ _ _ _).mono ?_); rintro e w_m ⟨rfl, hh⟩
       try replace X := X.below hh
       try replace Y := Y.below hh
       try replace x := x.below hh
       try replace XA := XA.below hh
       try replace XB := XB.below hh
       try replace Z := Z.below hh
       try replace T := T.below hh
       replace hb := bend hb hh
       have r0 := Z.c0
       have r1 := Z.c1
       have r2 := Z.f0
       have r3 := Z.f1))
  have hf0 := (Z.set2 (.bool (false && decide (0 < n_x))) (.slice A_x n_x c_x)).c0
  have hf1 := (Z.set2 (.bool (false && decide (0 < n_x))) (.slice A_x n_x c_x)).c1
  simp only [Bool.false_and] at hf0 hf1
  refine bodyPost_ret (v := .tuple #[.agg #[.bool (false && decide (0 < n_x)), .slice A_x n_x c_x], .int .i64 0]) (by simp [results, Tryz.results105, go_sem, hf0, hf1]) rfl ?_
  obtain ⟨b, A1, n1, c1, he, hg, hB⟩ := close_rz (s := false) (v := iv false (dec s.data.toList)) (g := w.heap.size) hb (Nat.le_refl _) Z x rfl (.bool (false && decide (0 < n_x))) (.slice A_x n_x c_x)
  have e := Ending.returned.inj he
  rw [e]
  exact ⟨b, A1, n1, c1, rfl, by simpa using hg, by simpa using hB⟩

theorem rparse2_no (s : ByteArray) (w : World) (hs : s.size ≤ 20000) (hz : zbad s.data.toList = true) :
    Calls Tryz.prog 105 #[.string s] w fun e w' => e = .returned (.tuple #[.agg #[.bool false, .slice none 0 0], .int .i64 11]) ∧ Below w.heap.size w w' := by
  unfold zbad at hz
  cases hn : zneg s.data.toList with
  | true =>
    rw [hn] at hz
    cases ht : isTextB (zdig s.data.toList) with
    | false => exact rparse2_tf s w hs hn ht
    | true => exact rparse2_tz s w hs hn ht (by rw [ht] at hz; simpa using hz)
  | false =>
    rw [hn, zdig_false hn] at hz
    have ht : isTextB s.data.toList = false := by cases h : isTextB s.data.toList <;> simp_all
    by_cases hp : 0 < s.size
    · exact rparse2_ff1 s w hs hn hp ht
    · exact rparse2_ff0 s w hs hp ht
theorem rparse2_yes (s : ByteArray) (w : World) (hs : s.size ≤ 20000) (hz : zbad s.data.toList = false) :
    Calls Tryz.prog 105 #[.string s] w fun e w' => ∃ b A n c, e = .returned (.tuple #[.agg #[.bool b, .slice A n c], .int .i64 0]) ∧ RG w' b A n c (zval s.data.toList) 2500 ∧ Below w.heap.size w w' := by
  unfold zbad at hz
  unfold zval
  cases hn : zneg s.data.toList with
  | true =>
    rw [hn] at hz
    have ht : isTextB (zdig s.data.toList) = true := by cases h : isTextB (zdig s.data.toList) <;> simp_all
    obtain ⟨hp, h45, hD⟩ := zneg_true hn
    have h := rparse2_ty s w hs hn ht (by intro h; rw [ht, h] at hz; simp at hz)
    rw [hD] at h
    exact h
  | false =>
    have h0 := hz
    rw [hn, zdig_false hn] at hz
    have ht : isTextB s.data.toList = true := by cases h : isTextB s.data.toList <;> simp_all
    have hp : 0 < s.size := by
      refine Nat.pos_of_ne_zero fun h => ?_
      have hl : s.data.toList = [] := List.eq_nil_of_length_eq_zero (by rw [← Lib.size_eq s]; exact h)
      rw [hl] at ht; cases ht
    rw [zdig_false hn]
    exact rparse2_fy s w hs hn hp ht
end Go.Proofs.YtmcijgnbdnpanaaGreat
