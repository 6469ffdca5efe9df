/- More contracts of zed by value: DivMod by 0, Neg, a text's number; gessolaw02.large. -/
import Derived.Test.YtmcijgnbdnpanaaGreatZedP
namespace Go.Proofs.YtmcijgnbdnpanaaGreat
open Go.RowKit

theorem zneg_zr {w : World} {s : Bool} {A : Option Addr} {n c k : Nat} {v : Int} (X : ZR w s A n c v k) (hk : k ≤ 1000) :
    Calls Tryz.prog 89 #[.agg #[.bool s, .slice A n c]] w (GivesZ w (-v) k) := by
  obtain ⟨la, a1, a2, rfl, a4, a5, a6⟩ := X
  have h := zneg_any s la A n c w a1 a2 (by omega) a4
  rw [iv_not] at h
  exact h.mono fun _ _ g => g.z (by rw [Int.natAbs_neg]; exact a6)
theorem ztxt_num (v : Int) : zbad (ztxt v) = false ∧ zval (ztxt v) = v := by
  obtain ⟨h1, h2⟩ := txt_dec v.natAbs
  have h3 := txt_is v.natAbs
  by_cases hv : v < 0
  · have e1 : ztxt v = 45 :: txt v.natAbs := if_pos hv
    have e2 : zneg (ztxt v) = true := by rw [e1]; simp [zneg, Lib.hasPrefix]
    have e3 : zdig (ztxt v) = txt v.natAbs := by rw [e1]; simp [zdig, Lib.trimPrefix, Lib.hasPrefix]
    refine ⟨?_, ?_⟩
    · unfold zbad; rw [e2, e3, h3, h1]; simp; omega
    · unfold zval; rw [e2, e3, h1]; simp [iv]; omega
  · have e1 : ztxt v = txt v.natAbs := if_neg hv
    have hne : txt v.natAbs ≠ [] := fun e => by rw [e] at h3; cases h3
    have e2 : zneg (ztxt v) = false := by
      rw [e1]
      cases hx : txt v.natAbs with
      | nil => exact absurd hx hne
      | cons x l =>
        have hd := h2 x (by rw [hx]; simp)
        unfold Digit at hd
        have : (45 : UInt8) ≠ x := fun e => by rw [← e] at hd; exact absurd hd.1 (by decide)
        show (((45 : UInt8) == x) && List.isPrefixOf [] l) = false
        rw [beq_false_of_ne this]; rfl
    have e3 : zdig (ztxt v) = txt v.natAbs := by
      have : Lib.hasPrefix (ztxt v) [45] = false := e2
      unfold zdig Lib.trimPrefix
      rw [this, e1]; rfl
    refine ⟨?_, ?_⟩
    · unfold zbad; rw [e2, e3, h3]; rfl
    · unfold zval; rw [e2, e3, h1]; simp [iv]; omega
theorem ztxt_len {v : Int} {k : Nat} (hv : v.natAbs < B64 ^ k) (hk : k ≤ 800) : (ztxt v).length ≤ 20000 := by
  have h : (txt v.natAbs).length ≤ 19999 := by
    by_cases h : v.natAbs = 0
    · rw [h]; exact (by decide : 1 ≤ 19999)
    · rw [txt, if_neg h, List.length_map, List.length_reverse]
      have h1 := @length_limbs10 v.natAbs
      have h2 : bl v.natAbs ≤ 64 * k := bl_le (by rw [← pow64]; exact hv)
      omega
  unfold ztxt
  split
  · simp only [List.length_cons]; omega
  · omega
theorem zparse_txt (k : Nat) (w : World) {v : Int} (hv : v.natAbs < B64 ^ k) (hk : k ≤ 800) :
    Calls Tryz.prog 102 #[.string ⟨(ztxt v).toArray⟩] w (GivesZE w v k) := by
  have h := zparse_ok ⟨(ztxt v).toArray⟩ w (by show (ztxt v).toArray.size ≤ 20000; rw [List.size_toArray]; exact ztxt_len hv hk) (ztxt_num v).1 k
  have e : zval (⟨(ztxt v).toArray⟩ : ByteArray).data.toList = v := (ztxt_num v).2
  rw [e] at h
  exact h hv

set_option maxRecDepth 100000 in
set_option maxHeartbeats 1000000 in
theorem zdm_zero {w : World} {s t : Bool} {A B : Option Addr} {n c m d k1 k2 : Nat} {v u : Int} (X : ZR w s A n c v k1) (Y : ZR w t B m d u k2) (hu : u = 0) (hk1 : k1 ≤ 1000) (hk2 : k2 ≤ 1000) :
    Calls Tryz.prog 98 #[.agg #[.bool s, .slice A n c], .agg #[.bool t, .slice B m d]] w fun e w' => e = .returned (.tuple #[.agg #[.bool false, .slice none 0 0], .agg #[.bool false, .slice none 0 0], .int .i64 12]) ∧ Below w.heap.size w w' := by
  obtain ⟨la, a1, a2, rfl, a4, a5, a6⟩ := X
  obtain ⟨lb, b1, b2, hub, b4, b5, b6⟩ := Y
  have hb0 : val B64 lb = 0 := by rw [hu] at hub; unfold iv at hub; split at hub <;> omega
  go_enter Tryz.func98, Tryz.ntmps98
  go_wp2_with fail
  generalize hW : (((w.alloc (Obj.cells #[Value.bool s, Value.slice A n c] 24)).alloc (Obj.cells #[Value.bool t, Value.slice B m d] 24)).alloc (Obj.cells #[Value.bool false, Value.slice none 0 0] 24)).alloc (Obj.cells #[Value.bool false, Value.slice none 0 0] 24) = W
  have hbw : Below w.heap.size w W := by subst hW; exact ((((Below.refl _ _).alloc (Nat.le_refl _) _).alloc (by simp) _).alloc (by simp; omega) _).alloc (by simp; omega) _
  have Z : Bx W (w.heap.size + 1 + 1) (.bool false) (.slice none 0 0) := by subst hW; exact (Bx.new' _ _ _ _ (by simp)).alloc _
  have Z' : Bx W (w.heap.size + 1 + 1 + 1) (.bool false) (.slice none 0 0) := by subst hW; exact Bx.new' _ _ _ _ (by simp)
  clear hW
  refine (divmod_zero la lb A B n c m d W (a1.below hbw) (b1.below hbw) a2 b2 (by omega) (by omega) a4 b4 hb0).mono ?_
  rintro e w1 ⟨rfl, rfl⟩
  have r0 := Z.c0
  have r1 := Z.c1
  have r2 := Z.f0
  have r3 := Z.f1
  have r4 := Z'.c0
  have r5 := Z'.c1
  have r6 := Z'.f0
  have r7 := Z'.f1
  go_wp2
  have G1 := (Z.set2 (.bool false) (.slice none 0 0)).other (k := w.heap.size + 1 + 1 + 1) (by omega) (.bool false) (.slice none 0 0)
  have G2 := (Z'.other (k := w.heap.size + 1 + 1) (by omega) (.bool false) (.slice none 0 0)).set2 (.bool false) (.slice none 0 0)
  have g0 := G1.c0
  have g1 := G1.c1
  have g2 := G2.c0
  have g3 := G2.c1
  refine bodyPost_ret (v := .tuple #[.agg #[.bool false, .slice none 0 0], .agg #[.bool false, .slice none 0 0], .int .i64 12]) (by simp [results, Tryz.results98, go_sem, g0, g1, g2, g3]) rfl ?_
  exact ⟨rfl, (((hbw.setCell (by show w.heap.size ≤ _; simp; omega) _).setCell (by show w.heap.size ≤ _; simp; omega) _).setCell (by show w.heap.size ≤ _; simp; omega) _).setCell (by show w.heap.size ≤ _; simp; omega) _⟩
end Go.Proofs.YtmcijgnbdnpanaaGreat
