/- rat's functions by value: Of, Text, Good of what is good, Parse of what is a text. -/
import Derived.Test.YtmcijgnbdnpanaaGreatRatF
import Derived.Test.YtmcijgnbdnpanaaGreatRefZ4
namespace Go.Proofs.YtmcijgnbdnpanaaGreat
open Go Go.RowKit

set_option maxRecDepth 100000 in
set_option maxHeartbeats 4000000 in
theorem rof_q (p q : Int) (hp1 : -9223372036854775808 ≤ p) (hp2 : p < 9223372036854775808) (hq1 : -9223372036854775808 ≤ q) (hq2 : q < 9223372036854775808) (hq0 : ((q : Int) == 0) = false) (w : World) :
    Calls Tryz.prog 44 #[.int .i64 p, .int .i64 q] w (GivesQ w (Rat.divInt p q) 1) := by
  have hq : q ≠ 0 := by simpa using hq0
  have HQ := Lib.hid hq
  have H1 := Lib.hid hp1
  have H2 := Lib.hid hp2
  have H3 := Lib.hid hq1
  have H4 := Lib.hid hq2
  clear hq hp1 hp2 hq1 hq2
  go_enter Tryz.func44, Tryz.ntmps44
  go_wp2_with fail
  generalize hW : (w.alloc (Obj.cells #[Value.bool false, Value.slice none 0 0, Value.slice none 0 0] 26)) = W
  have hb : Below w.heap.size w W := by subst hW; exact ((Below.refl _ _).alloc (Nat.le_refl _) _)
  have Z : B3 W (w.heap.size) (Value.bool false) (Value.slice none 0 0) (Value.slice none 0 0) := by subst hW; exact B3.new' _ _ _ _ _ rfl
  have hzW : W.heap.size = w.heap.size + 1 := by subst hW; simp
  clear hW
  go_upto_region 4 with (first
      | (go_at_call 51; (with_reducible refine (zof_zr p H1.out H2.out _).mono ?_); rintro e w_x ⟨s_x, A_x, n_x, c_x, rfl, x, hh⟩
         try replace y := y.below hh
         try replace r := r.below hh
         try replace Z := Z.below hh
         replace hb := bend hb hh)
      | (go_at_call 51; (with_reducible refine (zof_zr q H3.out H4.out _).mono ?_); rintro e w_y ⟨s_y, A_y, n_y, c_y, rfl, y, hh⟩
         try replace x := x.below hh
         try replace r := r.below hh
         try replace Z := Z.below hh
         replace hb := bend hb hh)
      | (go_at_call 34; (with_reducible refine (make_zr 1 x y (by omega) (by omega) HQ.out (Nat.le_refl _) (Nat.le_refl _)).mono ?_); rintro e w_r ⟨s_r, A_r, n_r, c_r, B_r, m_r, d_r, rfl, r, hh⟩
         try replace x := x.below hh
         try replace y := y.below hh
         try replace Z := Z.below hh
         replace hb := bend hb hh))
  generalize hW : (w_r.alloc (Obj.cells #[Value.bool s_r, Value.slice A_r n_r c_r, Value.slice B_r m_r d_r] 26)) = W2
  have hh : Below w_r.heap.size w_r W2 := by subst hW; exact ((Below.refl _ _).alloc (Nat.le_refl _) _)
  have R : B3 W2 (w_r.heap.size) (Value.bool s_r) (Value.slice A_r n_r c_r) (Value.slice B_r m_r d_r) := by subst hW; exact B3.new' _ _ _ _ _ rfl
  have hzW2 : W2.heap.size = w_r.heap.size + 1 := by subst hW; simp
  clear hW
  try replace r := r.below hh
  try replace Z := Z.below hh
  replace hb := bend hb hh
  have r0 := R.c0
  have r1 := R.c1
  have r2 := R.c2
  have zf0 := Z.f0
  have zf1 := Z.f1
  have zf2 := Z.f2
  have z0 := Z.c0
  have z1 := Z.c1
  have z2 := Z.c2
  go_wp2_with fail
  have Z2 := Z.set3 (.bool s_r) (.slice A_r n_r c_r) (.slice B_r m_r d_r)
  have g0 := Z2.c0
  have g1 := Z2.c1
  have g2 := Z2.c2
  refine bodyPost_ret (v := .agg #[.bool s_r, .slice A_r n_r c_r, .slice B_r m_r d_r]) (by simp [results, Tryz.results44, go_sem, g0, g1, g2]) rfl ?_
  exact ⟨s_r, A_r, n_r, c_r, B_r, m_r, d_r, rfl, r.set3 Z _ _ _, below_set3 hb (by omega) _ _ _⟩

theorem ba_app3 (a b : List UInt8) : ((⟨a.toArray⟩ ++ ⟨#[47]⟩) ++ ⟨b.toArray⟩ : ByteArray) = ⟨(a ++ (47 :: b)).toArray⟩ := by
  apply ByteArray.ext
  simp [ByteArray.data_append]
/-- A fraction's text. -/
def qtxt (v : Rat) : List UInt8 := if v.den = 1 then ztxt v.num else ztxt v.num ++ (47 :: txt v.den)
theorem ztxt_le {v : Int} {k : Nat} (hv : v.natAbs < B64 ^ k) (hk : k ≤ 800) : (ztxt v).length ≤ 20001 := by
  have := txt_len hv (show k ≤ 900 by omega)
  unfold ztxt
  split
  · rw [List.length_cons]; omega
  · omega
theorem ZR.nab' {w : World} {s : Bool} {A : Option Addr} {n c k : Nat} {v : Int} (h : ZR w s A n c v k) : v.natAbs < B64 ^ k := by
  obtain ⟨l, h1, h2, h3, h4, h5, h6⟩ := h
  exact h6
theorem QG.num_lt {w : World} {s : Bool} {A A' : Option Addr} {n c n' c' k : Nat} {v : Rat} (h : QG w s A n c A' n' c' v k) : v.num.natAbs < B64 ^ k := h.1.zr.nab'
theorem QG.den_lt {w : World} {s : Bool} {A A' : Option Addr} {n c n' c' k : Nat} {v : Rat} (h : QG w s A n c A' n' c' v k) : v.den < B64 ^ k := h.2.nr.lt

set_option maxRecDepth 100000 in
set_option maxHeartbeats 4000000 in
theorem rtext_one {w : World} {s : Bool} {A A' : Option Addr} {n c n' c' k : Nat} {v : Rat} (X0 : QR w s A n c A' n' c' v k) (hk : k ≤ 78) (hk1 : 1 ≤ k) (hd : v.den = 1) :
    Calls Tryz.prog 48 #[.agg #[.bool s, .slice A n c, .slice A' n' c']] w fun e w' => e = .returned (.string ⟨(qtxt v).toArray⟩) ∧ Below w.heap.size w w' := by
  obtain ⟨p, q, X, Q, rfl⟩ := X0
  have HE : Hid (Rat.divInt p (den1 q : Int) = mkRat p (den1 q)) := Rat.divInt_ofNat _ _
  have HD : Hid (decide ((mkRat p (den1 q)).den = 1) = true) := decide_eq_true hd
  have HQ : Hid (qtxt (mkRat p (den1 q)) = ztxt (mkRat p (den1 q)).num) := if_pos hd
  clear hd
  go_enter Tryz.func48, Tryz.ntmps48
  go_wp2_with fail
  generalize hW : (w.alloc (Obj.cells #[Value.bool s, Value.slice A n c, Value.slice A' n' c'] 26)) = W
  have hb : Below w.heap.size w W := by subst hW; exact ((Below.refl _ _).alloc (Nat.le_refl _) _)
  have XA : B3 W (w.heap.size) (Value.bool s) (Value.slice A n c) (Value.slice A' n' c') := by subst hW; exact B3.new' _ _ _ _ _ rfl
  have hzW : W.heap.size = w.heap.size + 1 := by subst hW; simp
  clear hW
  replace X := X.below hb
  replace Q := Q.below hb
  have xa0 := XA.c0
  have xa1 := XA.c1
  have xa2 := XA.c2
  go_upto_region 2 with (first
      | (go_at_call 85; (with_reducible refine (parts_any X Q (by omega) hk1).mono ?_); rintro e w_p ⟨s_x, A_x, n_x, c_x, s_y, A_y, n_y, c_y, rfl, x, y, hh⟩
         try replace X := X.below hh
         try replace Q := Q.below hh
         try replace r := r.below hh
         try replace XA := XA.below hh
         replace hb := bend hb hh)
      | (go_at_call 80; (with_reducible refine (by_zr k x y (by omega) (by omega) (den1_i q) (Nat.le_refl _) (Nat.le_refl _)).mono ?_); rintro e w_r ⟨s_r, A_r, n_r, c_r, B_r, m_r, d_r, rfl, r, hh⟩
         rw [HE.out] at r
         try replace X := X.below hh
         try replace Q := Q.below hh
         try replace x := x.below hh
         try replace y := y.below hh
         try replace XA := XA.below hh
         replace hb := bend hb hh
         have zf0 := XA.f0
         have zf1 := XA.f1
         have zf2 := XA.f2
         have z0 := XA.c0
         have z1 := XA.c1
         have z2 := XA.c2))
  generalize hW : ((w_r.setCell ⟨w.heap.size, 0, none⟩ (.bool s_r)).setCell ⟨w.heap.size, 1, none⟩ (.slice A_r n_r c_r)).setCell ⟨w.heap.size, 2, none⟩ (.slice B_r m_r d_r) = W1
  replace r : QG W1 s_r A_r n_r c_r B_r m_r d_r (mkRat p (den1 q)) k := by subst hW; exact r.set3 XA _ _ _
  replace hb : Below w.heap.size w W1 := by subst hW; exact below_set3 hb (Nat.le_refl _) _ _ _
  have XA3 : B3 W1 w.heap.size (.bool s_r) (.slice A_r n_r c_r) (.slice B_r m_r d_r) := by subst hW; exact XA.set3 _ _ _
  clear hW XA
  have XA := XA3
  clear XA3
  have xa0 := XA.c0
  have xa1 := XA.c1
  have xa2 := XA.c2
  have HR2 := Lib.hid r.2.nr
  have r1 := r.1.zr
  go_wp2_with (first
      | (go_at_call 107; (with_reducible refine (isone_nr HR2.out (by omega)).mono ?_); rintro e w_o ⟨rfl, rfl⟩; rw [HD.out])
      | (go_at_call 69; (with_reducible refine (ztext_zr r1 (by omega)).mono ?_); rintro e w_z ⟨rfl, hh⟩
         try replace X := X.below hh
         try replace Q := Q.below hh
         try replace x := x.below hh
         try replace y := y.below hh
         try replace r := r.below hh
         try replace XA := XA.below hh
         replace hb := bend hb hh))
  go_ret
  rw [HQ.out]
  exact ⟨rfl, hb⟩

set_option maxRecDepth 100000 in
set_option maxHeartbeats 4000000 in
theorem rtext_frac {w : World} {s : Bool} {A A' : Option Addr} {n c n' c' k : Nat} {v : Rat} (X0 : QR w s A n c A' n' c' v k) (hk : k ≤ 78) (hk1 : 1 ≤ k) (hd : ¬ v.den = 1) :
    Calls Tryz.prog 48 #[.agg #[.bool s, .slice A n c, .slice A' n' c']] w fun e w' => e = .returned (.string ⟨(qtxt v).toArray⟩) ∧ Below w.heap.size w w' := by
  obtain ⟨p, q, X, Q, rfl⟩ := X0
  have HE : Hid (Rat.divInt p (den1 q : Int) = mkRat p (den1 q)) := Rat.divInt_ofNat _ _
  have HD : Hid (decide ((mkRat p (den1 q)).den = 1) = false) := decide_eq_false hd
  have HQ : Hid (qtxt (mkRat p (den1 q)) = ztxt (mkRat p (den1 q)).num ++ (47 :: txt (mkRat p (den1 q)).den)) := if_neg hd
  clear hd
  go_enter Tryz.func48, Tryz.ntmps48
  go_wp2_with fail
  generalize hW : (w.alloc (Obj.cells #[Value.bool s, Value.slice A n c, Value.slice A' n' c'] 26)) = W
  have hb : Below w.heap.size w W := by subst hW; exact ((Below.refl _ _).alloc (Nat.le_refl _) _)
  have XA : B3 W (w.heap.size) (Value.bool s) (Value.slice A n c) (Value.slice A' n' c') := by subst hW; exact B3.new' _ _ _ _ _ rfl
  have hzW : W.heap.size = w.heap.size + 1 := by subst hW; simp
  clear hW
  replace X := X.below hb
  replace Q := Q.below hb
  have xa0 := XA.c0
  have xa1 := XA.c1
  have xa2 := XA.c2
  go_upto_region 2 with (first
      | (go_at_call 85; (with_reducible refine (parts_any X Q (by omega) hk1).mono ?_); rintro e w_p ⟨s_x, A_x, n_x, c_x, s_y, A_y, n_y, c_y, rfl, x, y, hh⟩
         try replace X := X.below hh
         try replace Q := Q.below hh
         try replace r := r.below hh
         try replace XA := XA.below hh
         replace hb := bend hb hh)
      | (go_at_call 80; (with_reducible refine (by_zr k x y (by omega) (by omega) (den1_i q) (Nat.le_refl _) (Nat.le_refl _)).mono ?_); rintro e w_r ⟨s_r, A_r, n_r, c_r, B_r, m_r, d_r, rfl, r, hh⟩
         rw [HE.out] at r
         try replace X := X.below hh
         try replace Q := Q.below hh
         try replace x := x.below hh
         try replace y := y.below hh
         try replace XA := XA.below hh
         replace hb := bend hb hh
         have zf0 := XA.f0
         have zf1 := XA.f1
         have zf2 := XA.f2
         have z0 := XA.c0
         have z1 := XA.c1
         have z2 := XA.c2))
  generalize hW : ((w_r.setCell ⟨w.heap.size, 0, none⟩ (.bool s_r)).setCell ⟨w.heap.size, 1, none⟩ (.slice A_r n_r c_r)).setCell ⟨w.heap.size, 2, none⟩ (.slice B_r m_r d_r) = W1
  replace r : QG W1 s_r A_r n_r c_r B_r m_r d_r (mkRat p (den1 q)) k := by subst hW; exact r.set3 XA _ _ _
  replace hb : Below w.heap.size w W1 := by subst hW; exact below_set3 hb (Nat.le_refl _) _ _ _
  have XA3 : B3 W1 w.heap.size (.bool s_r) (.slice A_r n_r c_r) (.slice B_r m_r d_r) := by subst hW; exact XA.set3 _ _ _
  clear hW XA
  have XA := XA3
  clear XA3
  have xa0 := XA.c0
  have xa1 := XA.c1
  have xa2 := XA.c2
  have HR2 := Lib.hid r.2.nr
  have r1 := r.1.zr
  have l1 := ztxt_le r.num_lt (show k ≤ 800 by omega)
  have l2 := txt_len r.den_lt (show k ≤ 900 by omega)
  have hs1 : ¬ 9223372036854775807 < (ztxt (mkRat p (den1 q)).num).length + 1 := by omega
  have hs2 : ¬ 9223372036854775807 < (ztxt (mkRat p (den1 q)).num).length + 1 + (txt (mkRat p (den1 q)).den).length := by omega
  clear l1 l2
  go_upto_region 4 with (first
      | (go_at_call 107; (with_reducible refine (isone_nr HR2.out (by omega)).mono ?_); rintro e w_o ⟨rfl, rfl⟩; rw [HD.out]))
  replace r := r.below (Below.refl _ _).drew
  replace r1 := r1.below (Below.refl _ _).drew
  replace XA := XA.below (Below.refl _ _).drew
  have r2 := r.2.nr.more hk
  replace hb := hb.drew
  go_region_held3 (fun w' => w'.cell? ⟨w.heap.size, 0, none⟩ = some (.bool s_r) ∧ w'.cell? ⟨w.heap.size, 1, none⟩ = some (.slice A_r n_r c_r) ∧ w'.cell? ⟨w.heap.size, 2, none⟩ = some (.slice B_r m_r d_r))
    (first | with_reducible exact ⟨XA.c0, XA.c1, XA.c2⟩)
    (first
    | (go_at_call 69; (with_reducible refine (ztext_zr r1 (by omega)).mono ?_); rintro e w_z ⟨rfl, hh⟩
       try replace r := r.below hh
       try replace r2 := r2.below hh
       try replace XA := XA.below hh
       replace hb := bend hb hh)
    | (go_at_call 108; (with_reducible refine (text_nr r2).mono ?_); rintro e w_z ⟨rfl, hh⟩
       try replace r := r.below hh
       try replace XA := XA.below hh
       replace hb := bend hb hh))
  go_wp2_with fail
  go_ret
  refine ⟨?_, hb⟩
  rw [HQ.out]
  refine ret_eq ?_
  show Value.string ((⟨(ztxt (mkRat p (den1 q)).num).toArray⟩ ++ ⟨#[47]⟩) ++ ⟨(txt (mkRat p (den1 q)).den).toArray⟩) = _
  rw [ba_app3]

theorem rtext_q {w : World} {s : Bool} {A A' : Option Addr} {n c n' c' k : Nat} {v : Rat} (X0 : QR w s A n c A' n' c' v k) (hk : k ≤ 78) (hk1 : 1 ≤ k) :
    Calls Tryz.prog 48 #[.agg #[.bool s, .slice A n c, .slice A' n' c']] w fun e w' => e = .returned (.string ⟨(qtxt v).toArray⟩) ∧ Below w.heap.size w w' := by
  by_cases hd : v.den = 1
  · exact rtext_one X0 hk hk1 hd
  · exact rtext_frac X0 hk hk1 hd

set_option maxRecDepth 100000 in
set_option maxHeartbeats 4000000 in
theorem coprime_q {w : World} {s : Bool} {A B : Option Addr} {n c m d k q : Nat} {p : Int} (X : ZR w s A n c p k) (Y : NR w B m d q k) (hk : k ≤ 1000) :
    Calls Tryz.prog 92 #[.agg #[.bool s, .slice A n c], .slice B m d] w fun e w' => e = .returned (.bool (decide (Nat.gcd p.natAbs q = 1))) ∧ Below w.heap.size w w' := by
  go_enter Tryz.func92, Tryz.ntmps92
  go_wp2_with fail
  generalize hW : (w.alloc (Obj.cells #[Value.bool s, Value.slice A n c] 24)) = W
  have hb : Below w.heap.size w W := by subst hW; exact ((Below.refl _ _).alloc (Nat.le_refl _) _)
  have XA : Bx W (w.heap.size) (Value.bool s) (Value.slice A n c) := by subst hW; exact Bx.new' _ _ _ _ rfl
  have hzW : W.heap.size = w.heap.size + 1 := by subst hW; simp
  clear hW
  replace X := X.below hb
  replace Y := Y.below hb
  have xa0 := XA.c0
  have xa1 := XA.c1
  have X1 := X.nr
  go_wp2_with (first
      | (go_at_call 137; (with_reducible refine (gcd_nr X1 Y (by omega)).mono ?_); rintro e w_g ⟨A_g, n_g, c_g, rfl, g, hh⟩
         try replace XA := XA.below hh
         replace hb := bend hb hh)
      | (go_at_call 107; (with_reducible refine (isone_nr g.nr (by omega)).mono ?_); rintro e w_o ⟨rfl, rfl⟩))
  go_ret
  exact ⟨rfl, hb⟩

theorem goodZ_good {v : Int} : goodZ (decide (v < 0)) (limbs B64 v.natAbs) = true := by
  unfold goodZ goodB
  have h1 := limbs_last B64_two v.natAbs
  have h2 : (limbs B64 v.natAbs).length = 0 → v.natAbs = 0 := fun h => by
    have := limbs_val B64_two (lim_limbs B64_two v.natAbs) h1
    by_cases h0 : v.natAbs = 0
    · exact h0
    · rw [limbs_pos B64_two h0] at h; simp at h
  have h3 : ((limbs B64 v.natAbs).getLast? != some 0) = true := by simpa using h1
  rw [h3, Bool.true_and]
  by_cases h : v < 0
  · have : ¬ (limbs B64 v.natAbs).length = 0 := fun q => by have := h2 q; omega
    simp [h, this]
  · simp [h]
set_option maxRecDepth 100000 in
set_option maxHeartbeats 4000000 in
theorem rgood_q {w : World} {s : Bool} {A A' : Option Addr} {n c n' c' k : Nat} {v : Rat} (r : QG w s A n c A' n' c' v k) (hk : k ≤ 900) :
    Calls Tryz.prog 31 #[.agg #[.bool s, .slice A n c, .slice A' n' c']] w fun e w' => e = .returned (.bool true) ∧ Below w.heap.size w w' := by
  have hs : s = decide (v.num < 0) := r.1.1
  subst hs
  have HG : Hid (goodZ (decide (v.num < 0)) (limbs B64 v.num.natAbs) = true) := goodZ_good
  have HB : Hid (goodB (limbs B64 v.den) = true) := by show _ = true; unfold goodB; simpa using limbs_last B64_two v.den
  have HC : Hid (decide (Nat.gcd v.num.natAbs v.den = 1) = true) := decide_eq_true v.reduced
  have hpos : (0 : Int) < (n' : Int) := by have := r.2.pos v.den_nz; omega
  have HN1 : Hid (n ≤ maxLen) := by have := r.1.2.2.2; show n ≤ maxLen; unfold maxLen; omega
  have HN2 : Hid (n' ≤ maxLen) := by have := r.2.le; show n' ≤ maxLen; unfold maxLen; omega
  go_enter Tryz.func31, Tryz.ntmps31
  go_wp2_with fail
  generalize hW : (w.alloc (Obj.cells #[Value.bool (decide (v.num < 0)), Value.slice A n c, Value.slice A' n' c'] 26)) = W
  have hb : Below w.heap.size w W := by subst hW; exact ((Below.refl _ _).alloc (Nat.le_refl _) _)
  have XA : B3 W (w.heap.size) (Value.bool (decide (v.num < 0))) (Value.slice A n c) (Value.slice A' n' c') := by subst hW; exact B3.new' _ _ _ _ _ rfl
  have hzW : W.heap.size = w.heap.size + 1 := by subst hW; simp
  clear hW
  replace r := r.below hb
  have xa0 := XA.c0
  have xa1 := XA.c1
  have xa2 := XA.c2
  have r1 := r.1.2.1
  have r2 := r.2.rd
  have r3 := r.1.zr
  have r4 := r.2.nr
  go_wp2_with (first
      | (go_at_call 90; (with_reducible refine (zgood_any _ _ A n c _ r1 HN1.out).mono ?_); rintro e w_z ⟨rfl, hh⟩
         rw [HG.out]
         try replace X := X.below hh
         try replace r := r.below hh
         try replace r1 := r1.below hh
         try replace r2 := r2.below hh
         try replace r3 := r3.below hh
         try replace r4 := r4.below hh
         try replace XA := XA.below hh
         replace hb := bend hb hh
         have xa0 := XA.c0
         have xa1 := XA.c1
         have xa2 := XA.c2)
      | (go_at_call 91; (with_reducible refine (good_any _ A' n' c' _ r2 HN2.out).mono ?_); rintro e w_o ⟨rfl, rfl⟩; rw [HB.out])
      | (go_at_call 92; (with_reducible refine (coprime_q r3 r4 (by omega)).mono ?_); rintro e w_z ⟨rfl, hh⟩
         rw [HC.out]
         try replace X := X.below hh
         try replace r := r.below hh
         try replace r1 := r1.below hh
         try replace r2 := r2.below hh
         try replace r3 := r3.below hh
         try replace r4 := r4.below hh
         try replace XA := XA.below hh
         replace hb := bend hb hh
         have xa0 := XA.c0
         have xa1 := XA.c1
         have xa2 := XA.c2))
  go_ret
  exact ⟨rfl, hb⟩

end Go.Proofs.YtmcijgnbdnpanaaGreat
