/- PtNear: part 10. -/
import Derived.IntWalk
import Derived.Orders
import Derived.Test.YtlkjkhpjhllapaaGreatProg
import Derived.WalkKit
import Derived.Test.YtlkjkhpjhllapaaGreatKPtNear6
import Derived.Test.YtlkjkhpjhllapaaGreatKPtNear8
import Derived.Test.YtlkjkhpjhllapaaGreatKPtNear9
set_option linter.unusedVariables false
namespace Go.Proofs.YtlkjkhpjhllapaaGreat
open Go Go.RowKit
set_option maxRecDepth 100000 in
set_option maxHeartbeats 4000000 in
theorem rof_q (p q : Int) (hp1 : -9223372036854775808 ≤ p) (hp2 : p < 9223372036854775808) (hq1 : -9223372036854775808 ≤ q) (hq2 : q < 9223372036854775808) (hq0 : ((q : Int) == 0) = false) (w : World) :
    Calls Tryz.prog 42 #[.int .i64 p, .int .i64 q] w (GivesQ w (Rat.divInt p q) 1) := by
  have hq : q ≠ 0 := by simpa using hq0
  have HQ := Lib.hid hq
  have H1 := Lib.hid hp1
  have H2 := Lib.hid hp2
  have H3 := Lib.hid hq1
  have H4 := Lib.hid hq2
  clear hq hp1 hp2 hq1 hq2
  go_enter Tryz.func42, Tryz.ntmps42
  go_wp2_with fail
  generalize hW : (w.alloc (Obj.cells #[Value.bool false, Value.slice none 0 0, Value.slice none 0 0] 26)) = W
  have hb : Below w.heap.size w W := by subst hW; exact ((Below.refl _ _).alloc (Nat.le_refl _) _)
  have Z : B3 W (w.heap.size) (Value.bool false) (Value.slice none 0 0) (Value.slice none 0 0) := by subst hW; exact B3.new' _ _ _ _ _ rfl
  have hzW : W.heap.size = w.heap.size + 1 := by subst hW; simp
  clear hW
  go_upto_region 4 with (first
      | (go_at_call 45; (with_reducible refine (zof_zr p H1.out H2.out _).mono ?_); rintro e w_x ⟨s_x, A_x, n_x, c_x, rfl, x, hh⟩
         try replace y := y.below hh
         try replace r := r.below hh
         try replace Z := Z.below hh
         replace hb := bend hb hh)
      | (go_at_call 45; (with_reducible refine (zof_zr q H3.out H4.out _).mono ?_); rintro e w_y ⟨s_y, A_y, n_y, c_y, rfl, y, hh⟩
         try replace x := x.below hh
         try replace r := r.below hh
         try replace Z := Z.below hh
         replace hb := bend hb hh)
      | (go_at_call 43; (with_reducible refine (make_zr 1 x y (by omega) (by omega) HQ.out (Nat.le_refl _) (Nat.le_refl _)).mono ?_); rintro e w_r ⟨s_r, A_r, n_r, c_r, B_r, m_r, d_r, rfl, r, hh⟩
         try replace x := x.below hh
         try replace y := y.below hh
         try replace Z := Z.below hh
         replace hb := bend hb hh))
  generalize hW : (w_r.alloc (Obj.cells #[Value.bool s_r, Value.slice A_r n_r c_r, Value.slice B_r m_r d_r] 26)) = W2
  have hh : Below w_r.heap.size w_r W2 := by subst hW; exact ((Below.refl _ _).alloc (Nat.le_refl _) _)
  have R : B3 W2 (w_r.heap.size) (Value.bool s_r) (Value.slice A_r n_r c_r) (Value.slice B_r m_r d_r) := by subst hW; exact B3.new' _ _ _ _ _ rfl
  have hzW2 : W2.heap.size = w_r.heap.size + 1 := by subst hW; simp
  clear hW
  try replace r := r.below hh
  try replace Z := Z.below hh
  replace hb := bend hb hh
  have r0 := R.c0
  have r1 := R.c1
  have r2 := R.c2
  have zf0 := Z.f0
  have zf1 := Z.f1
  have zf2 := Z.f2
  have z0 := Z.c0
  have z1 := Z.c1
  have z2 := Z.c2
  go_wp2_with fail
  have Z2 := Z.set3 (.bool s_r) (.slice A_r n_r c_r) (.slice B_r m_r d_r)
  have g0 := Z2.c0
  have g1 := Z2.c1
  have g2 := Z2.c2
  refine bodyPost_ret (v := .agg #[.bool s_r, .slice A_r n_r c_r, .slice B_r m_r d_r]) (by simp [results, Tryz.results42, go_sem, g0, g1, g2]) rfl ?_
  exact ⟨s_r, A_r, n_r, c_r, B_r, m_r, d_r, rfl, r.set3 Z _ _ _, below_set3 hb (by omega) _ _ _⟩
theorem ba_app3 (a b : List UInt8) : ((⟨a.toArray⟩ ++ ⟨#[47]⟩) ++ ⟨b.toArray⟩ : ByteArray) = ⟨(a ++ (47 :: b)).toArray⟩ := by
  apply ByteArray.ext
  simp [ByteArray.data_append]
def qtxt (v : Rat) : List UInt8 := if v.den = 1 then ztxt v.num else ztxt v.num ++ (47 :: txt v.den)
theorem ztxt_le {v : Int} {k : Nat} (hv : v.natAbs < B64 ^ k) (hk : k ≤ 800) : (ztxt v).length ≤ 20001 := by
  have := txt_len hv (show k ≤ 900 by omega)
  unfold ztxt
  split
  · rw [List.length_cons]; omega
  · omega
theorem ZR.nab' {w : World} {s : Bool} {A : Option Addr} {n c k : Nat} {v : Int} (h : ZR w s A n c v k) : v.natAbs < B64 ^ k := by
  obtain ⟨l, h1, h2, h3, h4, h5, h6⟩ := h
  exact h6
theorem QG.num_lt {w : World} {s : Bool} {A A' : Option Addr} {n c n' c' k : Nat} {v : Rat} (h : QG w s A n c A' n' c' v k) : v.num.natAbs < B64 ^ k := h.1.zr.nab'
theorem QG.den_lt {w : World} {s : Bool} {A A' : Option Addr} {n c n' c' k : Nat} {v : Rat} (h : QG w s A n c A' n' c' v k) : v.den < B64 ^ k := h.2.nr.lt
set_option maxRecDepth 100000 in
set_option maxHeartbeats 4000000 in
theorem rtext_one {w : World} {s : Bool} {A A' : Option Addr} {n c n' c' k : Nat} {v : Rat} (X0 : QR w s A n c A' n' c' v k) (hk : k ≤ 78) (hk1 : 1 ≤ k) (hd : v.den = 1) :
    Calls Tryz.prog 40 #[.agg #[.bool s, .slice A n c, .slice A' n' c']] w fun e w' => e = .returned (.string ⟨(qtxt v).toArray⟩) ∧ Below w.heap.size w w' := by
  obtain ⟨p, q, X, Q, rfl⟩ := X0
  have HE : Hid (Rat.divInt p (den1 q : Int) = mkRat p (den1 q)) := Rat.divInt_ofNat _ _
  have HD : Hid (decide ((mkRat p (den1 q)).den = 1) = true) := decide_eq_true hd
  have HQ : Hid (qtxt (mkRat p (den1 q)) = ztxt (mkRat p (den1 q)).num) := if_pos hd
  clear hd
  go_enter Tryz.func40, Tryz.ntmps40
  go_wp2_with fail
  generalize hW : (w.alloc (Obj.cells #[Value.bool s, Value.slice A n c, Value.slice A' n' c'] 26)) = W
  have hb : Below w.heap.size w W := by subst hW; exact ((Below.refl _ _).alloc (Nat.le_refl _) _)
  have XA : B3 W (w.heap.size) (Value.bool s) (Value.slice A n c) (Value.slice A' n' c') := by subst hW; exact B3.new' _ _ _ _ _ rfl
  have hzW : W.heap.size = w.heap.size + 1 := by subst hW; simp
  clear hW
  replace X := X.below hb
  replace Q := Q.below hb
  have xa0 := XA.c0
  have xa1 := XA.c1
  have xa2 := XA.c2
  go_upto_region 2 with (first
      | (go_at_call 114; (with_reducible refine (parts_any X Q (by omega) hk1).mono ?_); rintro e w_p ⟨s_x, A_x, n_x, c_x, s_y, A_y, n_y, c_y, rfl, x, y, hh⟩
         try replace X := X.below hh
         try replace Q := Q.below hh
         try replace r := r.below hh
         try replace XA := XA.below hh
         replace hb := bend hb hh)
      | (go_at_call 109; (with_reducible refine (by_zr k x y (by omega) (by omega) (den1_i q) (Nat.le_refl _) (Nat.le_refl _)).mono ?_); rintro e w_r ⟨s_r, A_r, n_r, c_r, B_r, m_r, d_r, rfl, r, hh⟩
         rw [HE.out] at r
         try replace X := X.below hh
         try replace Q := Q.below hh
         try replace x := x.below hh
         try replace y := y.below hh
         try replace XA := XA.below hh
         replace hb := bend hb hh
         have zf0 := XA.f0
         have zf1 := XA.f1
         have zf2 := XA.f2
         have z0 := XA.c0
         have z1 := XA.c1
         have z2 := XA.c2))
  generalize hW : ((w_r.setCell ⟨w.heap.size, 0, none⟩ (.bool s_r)).setCell ⟨w.heap.size, 1, none⟩ (.slice A_r n_r c_r)).setCell ⟨w.heap.size, 2, none⟩ (.slice B_r m_r d_r) = W1
  replace r : QG W1 s_r A_r n_r c_r B_r m_r d_r (mkRat p (den1 q)) k := by subst hW; exact r.set3 XA _ _ _
  replace hb : Below w.heap.size w W1 := by subst hW; exact below_set3 hb (Nat.le_refl _) _ _ _
  have XA3 : B3 W1 w.heap.size (.bool s_r) (.slice A_r n_r c_r) (.slice B_r m_r d_r) := by subst hW; exact XA.set3 _ _ _
  clear hW XA
  have XA := XA3
  clear XA3
  have xa0 := XA.c0
  have xa1 := XA.c1
  have xa2 := XA.c2
  have HR2 := Lib.hid r.2.nr
  have r1 := r.1.zr
  go_wp2_with (first
      | (go_at_call 131; (with_reducible refine (isone_nr HR2.out (by omega)).mono ?_); rintro e w_o ⟨rfl, rfl⟩; rw [HD.out])
      | (go_at_call 95; (with_reducible refine (ztext_zr r1 (by omega)).mono ?_); rintro e w_z ⟨rfl, hh⟩
         try replace X := X.below hh
         try replace Q := Q.below hh
         try replace x := x.below hh
         try replace y := y.below hh
         try replace r := r.below hh
         try replace XA := XA.below hh
         replace hb := bend hb hh))
  go_ret
  rw [HQ.out]
  exact ⟨rfl, hb⟩
set_option maxRecDepth 100000 in
set_option maxHeartbeats 4000000 in
theorem rtext_frac {w : World} {s : Bool} {A A' : Option Addr} {n c n' c' k : Nat} {v : Rat} (X0 : QR w s A n c A' n' c' v k) (hk : k ≤ 78) (hk1 : 1 ≤ k) (hd : ¬ v.den = 1) :
    Calls Tryz.prog 40 #[.agg #[.bool s, .slice A n c, .slice A' n' c']] w fun e w' => e = .returned (.string ⟨(qtxt v).toArray⟩) ∧ Below w.heap.size w w' := by
  obtain ⟨p, q, X, Q, rfl⟩ := X0
  have HE : Hid (Rat.divInt p (den1 q : Int) = mkRat p (den1 q)) := Rat.divInt_ofNat _ _
  have HD : Hid (decide ((mkRat p (den1 q)).den = 1) = false) := decide_eq_false hd
  have HQ : Hid (qtxt (mkRat p (den1 q)) = ztxt (mkRat p (den1 q)).num ++ (47 :: txt (mkRat p (den1 q)).den)) := if_neg hd
  clear hd
  go_enter Tryz.func40, Tryz.ntmps40
  go_wp2_with fail
  generalize hW : (w.alloc (Obj.cells #[Value.bool s, Value.slice A n c, Value.slice A' n' c'] 26)) = W
  have hb : Below w.heap.size w W := by subst hW; exact ((Below.refl _ _).alloc (Nat.le_refl _) _)
  have XA : B3 W (w.heap.size) (Value.bool s) (Value.slice A n c) (Value.slice A' n' c') := by subst hW; exact B3.new' _ _ _ _ _ rfl
  have hzW : W.heap.size = w.heap.size + 1 := by subst hW; simp
  clear hW
  replace X := X.below hb
  replace Q := Q.below hb
  have xa0 := XA.c0
  have xa1 := XA.c1
  have xa2 := XA.c2
  go_upto_region 2 with (first
      | (go_at_call 114; (with_reducible refine (parts_any X Q (by omega) hk1).mono ?_); rintro e w_p ⟨s_x, A_x, n_x, c_x, s_y, A_y, n_y, c_y, rfl, x, y, hh⟩
         try replace X := X.below hh
         try replace Q := Q.below hh
         try replace r := r.below hh
         try replace XA := XA.below hh
         replace hb := bend hb hh)
      | (go_at_call 109; (with_reducible refine (by_zr k x y (by omega) (by omega) (den1_i q) (Nat.le_refl _) (Nat.le_refl _)).mono ?_); rintro e w_r ⟨s_r, A_r, n_r, c_r, B_r, m_r, d_r, rfl, r, hh⟩
         rw [HE.out] at r
         try replace X := X.below hh
         try replace Q := Q.below hh
         try replace x := x.below hh
         try replace y := y.below hh
         try replace XA := XA.below hh
         replace hb := bend hb hh
         have zf0 := XA.f0
         have zf1 := XA.f1
         have zf2 := XA.f2
         have z0 := XA.c0
         have z1 := XA.c1
         have z2 := XA.c2))
  generalize hW : ((w_r.setCell ⟨w.heap.size, 0, none⟩ (.bool s_r)).setCell ⟨w.heap.size, 1, none⟩ (.slice A_r n_r c_r)).setCell ⟨w.heap.size, 2, none⟩ (.slice B_r m_r d_r) = W1
  replace r : QG W1 s_r A_r n_r c_r B_r m_r d_r (mkRat p (den1 q)) k := by subst hW; exact r.set3 XA _ _ _
  replace hb : Below w.heap.size w W1 := by subst hW; exact below_set3 hb (Nat.le_refl _) _ _ _
  have XA3 : B3 W1 w.heap.size (.bool s_r) (.slice A_r n_r c_r) (.slice B_r m_r d_r) := by subst hW; exact XA.set3 _ _ _
  clear hW XA
  have XA := XA3
  clear XA3
  have xa0 := XA.c0
  have xa1 := XA.c1
  have xa2 := XA.c2
  have HR2 := Lib.hid r.2.nr
  have r1 := r.1.zr
  have l1 := ztxt_le r.num_lt (show k ≤ 800 by omega)
  have l2 := txt_len r.den_lt (show k ≤ 900 by omega)
  have hs1 : ¬ 9223372036854775807 < (ztxt (mkRat p (den1 q)).num).length + 1 := by omega
  have hs2 : ¬ 9223372036854775807 < (ztxt (mkRat p (den1 q)).num).length + 1 + (txt (mkRat p (den1 q)).den).length := by omega
  clear l1 l2
  go_upto_region 4 with (first
      | (go_at_call 131; (with_reducible refine (isone_nr HR2.out (by omega)).mono ?_); rintro e w_o ⟨rfl, rfl⟩; rw [HD.out]))
  replace r := r.below (Below.refl _ _).drew
  replace r1 := r1.below (Below.refl _ _).drew
  replace XA := XA.below (Below.refl _ _).drew
  have r2 := r.2.nr.more hk
  replace hb := hb.drew
  go_region_held3 (fun w' => w'.cell? ⟨w.heap.size, 0, none⟩ = some (.bool s_r) ∧ w'.cell? ⟨w.heap.size, 1, none⟩ = some (.slice A_r n_r c_r) ∧ w'.cell? ⟨w.heap.size, 2, none⟩ = some (.slice B_r m_r d_r))
    (first | with_reducible exact ⟨XA.c0, XA.c1, XA.c2⟩)
    (first
    | (go_at_call 95; (with_reducible refine (ztext_zr r1 (by omega)).mono ?_); rintro e w_z ⟨rfl, hh⟩
       try replace r := r.below hh
       try replace r2 := r2.below hh
       try replace XA := XA.below hh
       replace hb := bend hb hh)
    | (go_at_call 132; (with_reducible refine (text_nr r2).mono ?_); rintro e w_z ⟨rfl, hh⟩
       try replace r := r.below hh
       try replace XA := XA.below hh
       replace hb := bend hb hh))
  go_wp2_with fail
  go_ret
  refine ⟨?_, hb⟩
  rw [HQ.out]
  refine ret_eq ?_
  show Value.string ((⟨(ztxt (mkRat p (den1 q)).num).toArray⟩ ++ ⟨#[47]⟩) ++ ⟨(txt (mkRat p (den1 q)).den).toArray⟩) = _
  rw [ba_app3]
theorem rtext_q {w : World} {s : Bool} {A A' : Option Addr} {n c n' c' k : Nat} {v : Rat} (X0 : QR w s A n c A' n' c' v k) (hk : k ≤ 78) (hk1 : 1 ≤ k) :
    Calls Tryz.prog 40 #[.agg #[.bool s, .slice A n c, .slice A' n' c']] w fun e w' => e = .returned (.string ⟨(qtxt v).toArray⟩) ∧ Below w.heap.size w w' := by
  by_cases hd : v.den = 1
  · exact rtext_one X0 hk hk1 hd
  · exact rtext_frac X0 hk hk1 hd
set_option maxRecDepth 100000 in
set_option maxHeartbeats 4000000 in
theorem coprime_q {w : World} {s : Bool} {A B : Option Addr} {n c m d k q : Nat} {p : Int} (X : ZR w s A n c p k) (Y : NR w B m d q k) (hk : k ≤ 1000) :
    Calls Tryz.prog 121 #[.agg #[.bool s, .slice A n c], .slice B m d] w fun e w' => e = .returned (.bool (decide (Nat.gcd p.natAbs q = 1))) ∧ Below w.heap.size w w' := by
  go_enter Tryz.func121, Tryz.ntmps121
  go_wp2_with fail
  generalize hW : (w.alloc (Obj.cells #[Value.bool s, Value.slice A n c] 24)) = W
  have hb : Below w.heap.size w W := by subst hW; exact ((Below.refl _ _).alloc (Nat.le_refl _) _)
  have XA : Bx W (w.heap.size) (Value.bool s) (Value.slice A n c) := by subst hW; exact Bx.new' _ _ _ _ rfl
  have hzW : W.heap.size = w.heap.size + 1 := by subst hW; simp
  clear hW
  replace X := X.below hb
  replace Y := Y.below hb
  have xa0 := XA.c0
  have xa1 := XA.c1
  have X1 := X.nr
  go_wp2_with (first
      | (go_at_call 177; (with_reducible refine (gcd_nr X1 Y (by omega)).mono ?_); rintro e w_g ⟨A_g, n_g, c_g, rfl, g, hh⟩
         try replace XA := XA.below hh
         replace hb := bend hb hh)
      | (go_at_call 131; (with_reducible refine (isone_nr g.nr (by omega)).mono ?_); rintro e w_o ⟨rfl, rfl⟩))
  go_ret
  exact ⟨rfl, hb⟩
theorem goodZ_good {v : Int} : goodZ (decide (v < 0)) (limbs B64 v.natAbs) = true := by
  unfold goodZ goodB
  have h1 := limbs_last B64_two v.natAbs
  have h2 : (limbs B64 v.natAbs).length = 0 → v.natAbs = 0 := fun h => by
    have := limbs_val B64_two (lim_limbs B64_two v.natAbs) h1
    by_cases h0 : v.natAbs = 0
    · exact h0
    · rw [limbs_pos B64_two h0] at h; simp at h
  have h3 : ((limbs B64 v.natAbs).getLast? != some 0) = true := by simpa using h1
  rw [h3, Bool.true_and]
  by_cases h : v < 0
  · have : ¬ (limbs B64 v.natAbs).length = 0 := fun q => by have := h2 q; omega
    simp [h, this]
  · simp [h]
set_option maxRecDepth 100000 in
set_option maxHeartbeats 4000000 in
theorem rgood_q {w : World} {s : Bool} {A A' : Option Addr} {n c n' c' k : Nat} {v : Rat} (r : QG w s A n c A' n' c' v k) (hk : k ≤ 900) :
    Calls Tryz.prog 35 #[.agg #[.bool s, .slice A n c, .slice A' n' c']] w fun e w' => e = .returned (.bool true) ∧ Below w.heap.size w w' := by
  have hs : s = decide (v.num < 0) := r.1.1
  subst hs
  have HG : Hid (goodZ (decide (v.num < 0)) (limbs B64 v.num.natAbs) = true) := goodZ_good
  have HB : Hid (goodB (limbs B64 v.den) = true) := by show _ = true; unfold goodB; simpa using limbs_last B64_two v.den
  have HC : Hid (decide (Nat.gcd v.num.natAbs v.den = 1) = true) := decide_eq_true v.reduced
  have hpos : (0 : Int) < (n' : Int) := by have := r.2.pos v.den_nz; omega
  have HN1 : Hid (n ≤ maxLen) := by have := r.1.2.2.2; show n ≤ maxLen; unfold maxLen; omega
  have HN2 : Hid (n' ≤ maxLen) := by have := r.2.le; show n' ≤ maxLen; unfold maxLen; omega
  go_enter Tryz.func35, Tryz.ntmps35
  go_wp2_with fail
  generalize hW : (w.alloc (Obj.cells #[Value.bool (decide (v.num < 0)), Value.slice A n c, Value.slice A' n' c'] 26)) = W
  have hb : Below w.heap.size w W := by subst hW; exact ((Below.refl _ _).alloc (Nat.le_refl _) _)
  have XA : B3 W (w.heap.size) (Value.bool (decide (v.num < 0))) (Value.slice A n c) (Value.slice A' n' c') := by subst hW; exact B3.new' _ _ _ _ _ rfl
  have hzW : W.heap.size = w.heap.size + 1 := by subst hW; simp
  clear hW
  replace r := r.below hb
  have xa0 := XA.c0
  have xa1 := XA.c1
  have xa2 := XA.c2
  have r1 := r.1.2.1
  have r2 := r.2.rd
  have r3 := r.1.zr
  have r4 := r.2.nr
  go_wp2_with (first
      | (go_at_call 119; (with_reducible refine (zgood_any _ _ A n c _ r1 HN1.out).mono ?_); rintro e w_z ⟨rfl, hh⟩
         rw [HG.out]
         try replace X := X.below hh
         try replace r := r.below hh
         try replace r1 := r1.below hh
         try replace r2 := r2.below hh
         try replace r3 := r3.below hh
         try replace r4 := r4.below hh
         try replace XA := XA.below hh
         replace hb := bend hb hh
         have xa0 := XA.c0
         have xa1 := XA.c1
         have xa2 := XA.c2)
      | (go_at_call 120; (with_reducible refine (good_any _ A' n' c' _ r2 HN2.out).mono ?_); rintro e w_o ⟨rfl, rfl⟩; rw [HB.out])
      | (go_at_call 121; (with_reducible refine (coprime_q r3 r4 (by omega)).mono ?_); rintro e w_z ⟨rfl, hh⟩
         rw [HC.out]
         try replace X := X.below hh
         try replace r := r.below hh
         try replace r1 := r1.below hh
         try replace r2 := r2.below hh
         try replace r3 := r3.below hh
         try replace r4 := r4.below hh
         try replace XA := XA.below hh
         replace hb := bend hb hh
         have xa0 := XA.c0
         have xa1 := XA.c1
         have xa2 := XA.c2))
  go_ret
  exact ⟨rfl, hb⟩
end Go.Proofs.YtlkjkhpjhllapaaGreat
namespace Go.Proofs.YtlkjkhpjhllapaaGreat
open Go
def upd {α : Type} (f : Nat → α) (d : Nat) (x : α) : Nat → α := fun k => if k = d then x else f k
theorem upd_same {α : Type} (f : Nat → α) (d : Nat) (x : α) : upd f d x d = x := by simp [upd]
theorem upd_ne {α : Type} (f : Nat → α) {d k : Nat} (x : α) (h : k ≠ d) : upd f d x k = f k := by simp [upd, h]
def putAll (a : Act) : List Nat → (Nat → Value) → Act
  | [], _ => a
  | d :: l, v => putAll (a.put (some d) (v d)) l v
theorem put_put (a : Act) (d : Nat) (x y : Value) : (a.put (some d) x).put (some d) y = a.put (some d) y := by
  simp [Act.put]
theorem putAll_comm (x : Value) (d : Nat) (v : Nat → Value) : ∀ (l : List Nat) (a : Act), d ∉ l → (putAll a l v).put (some d) x = putAll (a.put (some d) x) l v
  | [], _, _ => rfl
  | e :: l, a, h => by
    have h1 : e ≠ d := fun k => h (by simp [k])
    have h2 : d ∉ l := fun k => h (by simp [k])
    rw [putAll, putAll_comm x d v l _ h2, putAll]
    congr 1
    simp [Act.put, Array.setIfInBounds_comm _ _ h1]
theorem putAll_congr {v u : Nat → Value} : ∀ (l : List Nat) (a : Act), (∀ d ∈ l, v d = u d) → putAll a l v = putAll a l u
  | [], _, _ => rfl
  | e :: l, a, h => by
    rw [putAll, putAll, h e (by simp)]
    exact putAll_congr l _ fun d hd => h d (by simp [hd])
theorem putAll_put (x : Value) (d : Nat) (v : Nat → Value) : ∀ (l : List Nat) (a : Act), l.Nodup → d ∈ l → (putAll a l v).put (some d) x = putAll a l (upd v d x)
  | [], _, _, h => by cases h
  | e :: l, a, hn, h => by
    have hn' := List.nodup_cons.1 hn
    by_cases hd : e = d
    · subst hd
      rw [putAll, putAll_comm x e v l _ hn'.1, put_put, putAll, upd_same]
      exact putAll_congr l _ fun k hk => (upd_ne v x (fun q => by subst q; exact hn'.1 hk)).symm
    · have hm : d ∈ l := by
        cases h with
        | head => exact absurd rfl hd
        | tail _ h => exact h
      rw [putAll, putAll_put x d v l _ hn'.2 hm, putAll, upd_ne v x hd]
theorem put_self (a : Act) (d : Nat) : a.put (some d) (a.tmps.getD d undef) = a := by
  cases a with
  | mk tmps defers =>
    simp only [Act.put]
    congr 1
    apply Array.ext
    · simp
    · intro i h1 h2
      simp only [Array.getElem_setIfInBounds h2]
      split
      · rename_i h; subst h; simp [h2]
      · rfl
theorem putAll_self (a : Act) : ∀ (l : List Nat), putAll a l (fun d => a.tmps.getD d undef) = a
  | [] => rfl
  | d :: l => by rw [putAll, put_self]; exact putAll_self a l
section
variable {P : Program} {ops : Array Oper} {Q : Exit → Act → World → Prop}
def backB (ops : Array Oper) : Bool := (List.range ops.size).all fun i => ((ops[i]?).map fun o => o.after.all fun e => !Region.binds .any e || decide (e.on < i)).getD true
theorem all_listed {listed : Array Bool} (hs : listed.size = ops.size) (hb : backB ops = true) (hr : Region.ready .any ops listed = []) : ∀ i, i < ops.size → listed.getD i false = true := by
  intro i
  induction i using Nat.strongRecOn with
  | ind i ih =>
    intro hi
    cases hl : listed.getD i false with
    | true => rfl
    | false =>
      exfalso
      have hm : i ∈ Region.ready .any ops listed := by
        unfold Region.ready
        rw [List.mem_filter]
        refine ⟨by simpa using hi, ?_⟩
        have h1 : listed.getD i true = false := by
          simp only [Array.getD_eq_getD_getElem?, Array.getElem?_eq_getElem (show i < listed.size by omega), Option.getD_some] at hl ⊢; exact hl
        rw [h1, Array.getElem?_eq_getElem hi]
        simp only [Bool.not_false, Option.map_some, Option.getD_some, Bool.true_and]
        rw [Array.all_eq_true]
        intro j hj
        have h2 := List.all_eq_true.1 hb i (by simpa using hi)
        rw [Array.getElem?_eq_getElem hi] at h2
        simp only [Option.map_some, Option.getD_some] at h2
        have h3 := Array.all_eq_true.1 h2 j hj
        cases hbd : Region.binds .any (ops[i].after[j]) with
        | false => simp
        | true =>
          rw [hbd] at h3
          have h4 : (ops[i].after[j]).on < i := of_decide_eq_true (by simpa using h3)
          rw [ih _ h4 (by omega)]
          simp
      rw [hr] at hm; cases hm
theorem wpAny_inv (J : (Nat → Bool) → Act → World → Prop) (hb : backB ops = true)
    (hstep : ∀ (i : Nat) (o : Oper) (D : Nat → Bool) (a : Act) (w : World), ops[i]? = some o → D i = false → (∀ e ∈ o.after, Region.binds .any e = true → D e.on = true) → J D a w →
      wpOp P ops Q i (fun a' w' => J (upd D i true) a' w') a w)
    (hend : ∀ (D : Nat → Bool) (a : Act) (w : World), (∀ i, i < ops.size → D i = true) → J D a w → Q .normal a w)
    (hcong : ∀ D D' a w, (∀ i, i < ops.size → D i = D' i) → J D a w → J D' a w) :
    ∀ (fuel : Nat) (listed : Array Bool) (a : Act) (w : World), listed.size = ops.size → listed.toList.count false ≤ fuel → J (fun i => listed.getD i false) a w → wpAny P .any ops Q fuel listed a w
  | 0, listed, a, w, hs, hf, hJ => by
    have hall : ∀ i, i < ops.size → listed.getD i false = true := by
      intro i hi
      have h0 : listed.toList.count false = 0 := by omega
      have hi' : i < listed.size := by omega
      have := List.count_eq_zero.1 h0
      simp only [Array.getD_eq_getD_getElem?, Array.getElem?_eq_getElem hi', Option.getD_some]
      cases h : listed[i] with
      | true => rfl
      | false => exact absurd (by rw [← h]; exact Array.mem_toList_iff.2 (Array.getElem_mem hi')) this
    refine ⟨?_, hend _ _ _ hall hJ⟩
    unfold Region.ready
    rw [List.filter_eq_nil_iff]
    intro i hi
    have hi2 : i < ops.size := by simpa using hi
    have h2 : listed.getD i true = true := by
      have h := hall i hi2
      have hi' : i < listed.size := by omega
      simp only [Array.getD_eq_getD_getElem?, Array.getElem?_eq_getElem hi', Option.getD_some] at h ⊢; exact h
    simp [h2]
  | fuel + 1, listed, a, w, hs, hf, hJ => by
    refine ⟨fun hr => hend _ _ _ (all_listed hs hb hr) hJ, fun i hi => ?_⟩
    obtain ⟨hjun, o, ho, hall⟩ := mem_ready.1 hi
    have hi1 : i < ops.size := by
      rcases Nat.lt_or_ge i ops.size with h | h
      · exact h
      · rw [Array.getElem?_eq_none h] at ho; cases ho
    have hi' : i < listed.size := by omega
    have hl : listed[i] = false := by
      simp only [Array.getD_eq_getD_getElem?, Array.getElem?_eq_getElem hi', Option.getD_some] at hjun; exact hjun
    have hD : listed.getD i false = false := by
      simp only [Array.getD_eq_getD_getElem?, Array.getElem?_eq_getElem hi', Option.getD_some]; exact hl
    refine wpOp_mono (fun a' w' h => wpAny_inv J hb hstep hend hcong fuel _ a' w' (by simpa using hs) ?_ (hcong _ _ _ _ (fun j hj => ?_) h)) (hstep i o _ a w ho hD hall hJ)
    · rw [Array.toList_setIfInBounds, List.count_set (by simpa using hi')]
      have : listed.toList[i]'(by simpa using hi') = false := by simpa using hl
      rw [this]
      show listed.toList.count false - 1 + 0 ≤ fuel
      omega
    · by_cases hji : j = i
      · subst hji
        rw [upd_same]
        simp [hi']
      · rw [upd_ne _ _ hji]
        simp [Array.getD_eq_getD_getElem?, Ne.symm hji]
theorem wp_region_inv {id : Nat} {a : Act} {w : World} (l : List Nat) (J : (Nat → Bool) → (Nat → Value) → World → Prop) (hm : P.follows .mixedOrders = true) (hb : backB ops = true)
    (h0 : J (fun _ => false) (fun d => a.tmps.getD d undef) w.drew)
    (hcong : ∀ D D' v w, (∀ i, i < ops.size → D i = D' i) → J D v w → J D' v w)
    (hstep : ∀ (i : Nat) (o : Oper) (D : Nat → Bool) (v : Nat → Value) (w : World), ops[i]? = some o → D i = false → (∀ e ∈ o.after, Region.binds .any e = true → D e.on = true) → J D v w →
      wpOp P ops Q i (fun a' w' => ∃ v', a' = putAll a l v' ∧ J (upd D i true) v' w') (putAll a l v) w)
    (hend : ∀ (D : Nat → Bool) (v : Nat → Value) (w : World), (∀ i, i < ops.size → D i = true) → J D v w → Q .normal (putAll a l v) w) :
    (Code.region id ops true).wp P Q a w := by
  refine wp_region_any hm (wpAny_inv (fun D a' w' => ∃ v, a' = putAll a l v ∧ J D v w') hb ?_ ?_ ?_ _ _ _ _ (by simp) (by simp) ?_)
  · rintro i o D a' w' ho hD hall ⟨v, rfl, hJ⟩
    exact hstep i o D v w' ho hD hall hJ
  · rintro D a' w' hall ⟨v, rfl, hJ⟩
    exact hend D v w' hall hJ
  · rintro D D' a' w' h ⟨v, e, hJ⟩
    exact ⟨v, e, hcong D D' v w' h hJ⟩
  · refine ⟨_, (putAll_self a l).symm, hcong _ _ _ _ (fun i hi => ?_) h0⟩
    simp [hi]
end
end Go.Proofs.YtlkjkhpjhllapaaGreat
namespace Go.Proofs.YtlkjkhpjhllapaaGreat
open Go Go.RowKit
theorem put_none (a : Act) (x : Value) : a.put none x = a := rfl
theorem eval_putAll_not {t : Nat} {v : Nat → Value} : ∀ (l : List Nat) (a : Act), t ∉ l → (putAll a l v).eval (.tmp t) = a.eval (.tmp t)
  | [], _, _ => rfl
  | d :: l, a, h => by
    rw [putAll, eval_putAll_not l _ (fun q => h (by simp [q]))]
    have hne : d ≠ t := fun q => h (by simp [q])
    simp [Act.eval, Act.put, Array.getD_eq_getD_getElem?, hne]
theorem eval_putAll_mem {t : Nat} {v : Nat → Value} : ∀ (l : List Nat) (a : Act), l.Nodup → t ∈ l → t < a.tmps.size → (putAll a l v).eval (.tmp t) = v t
  | [], _, _, h, _ => by cases h
  | d :: l, a, hn, h, hs => by
    have hn' := List.nodup_cons.1 hn
    rw [putAll]
    by_cases hd : d = t
    · subst hd
      rw [eval_putAll_not l _ hn'.1]
      simp [Act.eval, Act.put, hs]
    · have hm : t ∈ l := by
        cases h with
        | head => exact absurd rfl hd
        | tail _ h => exact h
      exact eval_putAll_mem l _ hn'.2 hm (by simpa [Act.put] using hs)
def IsG (w : World) (v : Value) (x : Int) (k : Nat) : Prop := ∃ s A n c, v = .agg #[.bool s, .slice A n c] ∧ RG w s A n c x k
def IsBox (w : World) (base : Nat) (p cont : Value) (full : Bool) : Prop := ∃ g s A n c, p = .pointer (some ⟨g, 0, none⟩) ∧ base ≤ g ∧ By w g (.bool s) (.slice A n c) ∧ (full = true → cont = .agg #[.bool s, .slice A n c])
theorem IsG.below {w w' : World} {v : Value} {x : Int} {k : Nat} (h : IsG w v x k) (hb : Below w.heap.size w w') : IsG w' v x k := by
  obtain ⟨s, A, n, c, h1, h2⟩ := h; exact ⟨s, A, n, c, h1, h2.below hb⟩
theorem IsBox.below {w w' : World} {base : Nat} {p cont : Value} {full : Bool} (h : IsBox w base p cont full) (hb : Below w.heap.size w w') : IsBox w' base p cont full := by
  obtain ⟨g, s, A, n, c, h1, h2, h3, h4⟩ := h; exact ⟨g, s, A, n, c, h1, h2, h3.below hb, h4⟩
theorem IsG.store {w : World} {v : Value} {x : Int} {k g n0 c0 : Nat} {s0 : Bool} {A0 : Option Addr} (h : IsG w v x k) (Z : By w g (.bool s0) (.slice A0 n0 c0)) (y z : Value) : IsG ((w.setCell ⟨g, 0, none⟩ y).setCell ⟨g, 1, none⟩ z) v x k := by
  obtain ⟨s, A, n, c, h1, h2⟩ := h; exact ⟨s, A, n, c, h1, h2.set2 Z y z⟩
theorem IsBox.other {w : World} {base g : Nat} {p cont : Value} {full : Bool} (h : IsBox w base p cont full) (hne : p ≠ .pointer (some ⟨g, 0, none⟩)) (y z : Value) : IsBox ((w.setCell ⟨g, 0, none⟩ y).setCell ⟨g, 1, none⟩ z) base p cont full := by
  obtain ⟨g', s, A, n, c, h1, h2, h3, h4⟩ := h
  refine ⟨g', s, A, n, c, h1, h2, h3.other (fun q => hne (by rw [h1, q])) y z, h4⟩
end Go.Proofs.YtlkjkhpjhllapaaGreat
namespace Go.Proofs.YtlkjkhpjhllapaaGreat
open Go Go.RowKit
theorem run_loadQ {e : Operand → Value} {x : Operand} {d : Option Tmp} {y g : Nat} {pos : String} {af : Array Edge} {w : World} {u v z : Value} (h : e x = .pointer (some ⟨g, 0, none⟩)) (h0 : w.cell? ⟨g, 0, none⟩ = some u) (h1 : w.cell? ⟨g, 1, none⟩ = some v) (h2 : w.cell? ⟨g, 2, none⟩ = some z) :
    (execOp e { dst := d, op := Op.load 26 x, type := y, pos := pos, after := af, guard := none }).run Tryz.prog w = .ok (.value (.agg #[u, v, z])) w := by
  go_simp
theorem run_storeQ {e : Operand → Value} {x z : Operand} {d : Option Tmp} {y g : Nat} {pos : String} {af : Array Edge} {w : World} {s : Bool} {A B : Option Addr} {n c m k : Nat} {u0 v0 z0 : Value} (h : e x = .pointer (some ⟨g, 0, none⟩)) (hz : e z = .agg #[.bool s, .slice A n c, .slice B m k]) (h0 : w.cell? ⟨g, 0, none⟩ = some u0) (h1 : w.cell? ⟨g, 1, none⟩ = some v0) (h2 : w.cell? ⟨g, 2, none⟩ = some z0) (f0 : w.frozen? ⟨g, 0, none⟩ = false) (f1 : w.frozen? ⟨g, 1, none⟩ = false) (f2 : w.frozen? ⟨g, 2, none⟩ = false) :
    (execOp e { dst := d, op := Op.store 26 x z, type := y, pos := pos, after := af, guard := none }).run Tryz.prog w = .ok .skip (((w.setCell ⟨g, 0, none⟩ (.bool s)).setCell ⟨g, 1, none⟩ (.slice A n c)).setCell ⟨g, 2, none⟩ (.slice B m k)) := by
  go_simp
theorem run_allocQ {e : Operand → Value} {d : Option Tmp} {y : Nat} {pos : String} {af : Array Edge} {w : World} :
    (execOp e { dst := d, op := Op.alloc 26, type := y, pos := pos, after := af, guard := none }).run Tryz.prog w = .ok (.value (.pointer (some ⟨w.heap.size, 0, none⟩))) (w.alloc (.cells #[.bool false, .slice none 0 0, .slice none 0 0] 26)) := by
  go_simp
theorem run_move {e : Operand → Value} {x : Operand} {d : Option Tmp} {y : Nat} {pos : String} {af : Array Edge} {w : World} {u : Value} (h : e x = u) :
    (execOp e { dst := d, op := Op.move x, type := y, pos := pos, after := af, guard := none }).run Tryz.prog w = .ok (.value u) w := by
  subst h; go_simp
theorem run_assign {e : Operand → Value} {x : Operand} {d : Option Tmp} {y : Nat} {pos : String} {af : Array Edge} {w : World} {u : Value} (h : e x = u) :
    (execOp e { dst := d, op := Op.assign x, type := y, pos := pos, after := af, guard := none }).run Tryz.prog w = .ok (.value u) w := by
  subst h; go_simp
theorem run_ext0 {e : Operand → Value} {x : Operand} {d : Option Tmp} {y : Nat} {pos : String} {af : Array Edge} {w : World} {u v : Value} (h : e x = .tuple #[u, v]) :
    (execOp e { dst := d, op := Op.extract x 0, type := y, pos := pos, after := af, guard := none }).run Tryz.prog w = .ok (.value u) w := by
  go_simp
theorem run_ext1 {e : Operand → Value} {x : Operand} {d : Option Tmp} {y : Nat} {pos : String} {af : Array Edge} {w : World} {u v : Value} (h : e x = .tuple #[u, v]) :
    (execOp e { dst := d, op := Op.extract x 1, type := y, pos := pos, after := af, guard := none }).run Tryz.prog w = .ok (.value v) w := by
  go_simp
def IsQ (w : World) (v : Value) (x : Rat) (k : Nat) : Prop := ∃ s A n c A' n' c', v = .agg #[.bool s, .slice A n c, .slice A' n' c'] ∧ QG w s A n c A' n' c' x k
theorem IsQ.below {w w' : World} {v : Value} {x : Rat} {k : Nat} (h : IsQ w v x k) (hb : Below w.heap.size w w') : IsQ w' v x k := by
  obtain ⟨s, A, n, c, A', n', c', h1, h2⟩ := h; exact ⟨s, A, n, c, A', n', c', h1, h2.below hb⟩
def HasBox (w : World) (base : Nat) (p : Value) : Prop := ∃ g s A n c A' n' c', p = .pointer (some ⟨g, 0, none⟩) ∧ base ≤ g ∧ B3 w g (.bool s) (.slice A n c) (.slice A' n' c')
theorem HasBox.below {w w' : World} {b : Nat} {p : Value} (h : HasBox w b p) (hb : Below w.heap.size w w') : HasBox w' b p := by
  obtain ⟨g, s, A, n, c, A', n', c', h1, h2, h3⟩ := h; exact ⟨g, s, A, n, c, A', n', c', h1, h2, h3.below hb⟩
end Go.Proofs.YtlkjkhpjhllapaaGreat
namespace Go.Proofs.YtlkjkhpjhllapaaGreat
open Go Go.RowKit
theorem QR.more {w : World} {s : Bool} {A A' : Option Addr} {n c n' c' k k1 : Nat} {v : Rat} (h : QR w s A n c A' n' c' v k) (hk : k ≤ k1) : QR w s A n c A' n' c' v k1 := by
  obtain ⟨p, q, h1, h2, h3⟩ := h
  exact ⟨p, q, h1.more hk, h2.more hk, h3⟩
end Go.Proofs.YtlkjkhpjhllapaaGreat
