/- RatReckons: part 15. -/
import Derived.Test.YtlkjkhpjhllapaaGreatKRatReckons12
import Derived.Test.YtlkjkhpjhllapaaGreatKRatReckons13
import Derived.Test.YtlkjkhpjhllapaaGreatKRatReckons14
namespace Go.Proofs.YtlkjkhpjhllapaaGreat
open Go Go.RowKit
theorem QR.rd_i {w : World} {s : Bool} {A A' : Option Addr} {n c n' c' : Nat} {l l' : List Nat} (h : Rd .u64 w A n l) (h' : Rd .u64 w A' n' l') (hL : Lim B64 l) (hL' : Lim B64 l') (hnc : n ≤ c) (hnc' : n' ≤ c') (hk : l.length ≤ 12) (hk' : l'.length ≤ 12) :
    QR w s A n c A' n' c' (mkRat (iv s (val B64 l)) (den1 (val B64 l'))) 12 := QR.of_rd h hL hnc h' hL' hnc' (by rw [← h.1]; exact hk) (by rw [← h'.1]; exact hk')
set_option maxRecDepth 100000 in
set_option maxHeartbeats 4000000 in
theorem reck_l1 {w : World} {s t : Bool} {A A' B B' : Option Addr} {n c n' c' m d m' d' : Nat} (hl : ¬ (n ≤ 12 ∧ n' ≤ 12)) :
    Calls Tryz.prog 3 #[.agg #[.bool s, .slice A n c, .slice A' n' c'], .agg #[.bool t, .slice B m d, .slice B' m' d']] w fun e w' => e = .returned (.bool true) ∧ Below w.heap.size w w' := by
  have HL := Lib.hid hl
  clear hl
  go_enter Tryz.func3, Tryz.ntmps3
  go_wp2_with fail
  generalize hW : ((w.alloc (Obj.cells #[Value.bool s, Value.slice A n c, Value.slice A' n' c'] 26)).alloc (Obj.cells #[Value.bool t, Value.slice B m d, Value.slice B' m' d'] 26)) = W
  have hb : Below w.heap.size w W := by subst hW; exact (((Below.refl _ _).alloc (Nat.le_refl _) _).alloc (by simp) _)
  have XA : B3 W (w.heap.size) (Value.bool s) (Value.slice A n c) (Value.slice A' n' c') := by subst hW; exact (B3.new' _ _ _ _ _ rfl).alloc _
  have XB : B3 W (w.heap.size + 1) (Value.bool t) (Value.slice B m d) (Value.slice B' m' d') := by subst hW; exact B3.new' _ _ _ _ _ (by simp)
  have hzW : W.heap.size = w.heap.size + 2 := by subst hW; simp
  clear hW
  have xa0 := XA.c0
  have xa1 := XA.c1
  have xa2 := XA.c2
  have xb0 := XB.c0
  have xb1 := XB.c1
  have xb2 := XB.c2
  go_wp2_with (first
      | (go_at_call 14; (with_reducible refine (qlarge_yes s A A' n c n' c' _ HL.out).mono ?_); rintro e w_z ⟨rfl, hh⟩
         try replace XA := XA.below hh
         try replace XB := XB.below hh
         replace hb := bend hb hh
         have xa0 := XA.c0
         have xa1 := XA.c1
         have xa2 := XA.c2
         have xb0 := XB.c0
         have xb1 := XB.c1
         have xb2 := XB.c2)
      | (go_at_call 15; (with_reducible refine (qwakes_any _).mono ?_); rintro e w_z ⟨rfl, hh⟩
         try replace XA := XA.below hh
         try replace XB := XB.below hh
         replace hb := bend hb hh))
  go_ret
  exact ⟨rfl, hb⟩
set_option maxRecDepth 100000 in
set_option maxHeartbeats 4000000 in
theorem reck_l2 {w : World} {s t : Bool} {A A' B B' : Option Addr} {n c n' c' m d m' d' : Nat} (h1 : n ≤ 12 ∧ n' ≤ 12) (hl : ¬ (m ≤ 12 ∧ m' ≤ 12)) :
    Calls Tryz.prog 3 #[.agg #[.bool s, .slice A n c, .slice A' n' c'], .agg #[.bool t, .slice B m d, .slice B' m' d']] w fun e w' => e = .returned (.bool true) ∧ Below w.heap.size w w' := by
  have H1 := Lib.hid h1
  clear h1
  have HL := Lib.hid hl
  clear hl
  go_enter Tryz.func3, Tryz.ntmps3
  go_wp2_with fail
  generalize hW : ((w.alloc (Obj.cells #[Value.bool s, Value.slice A n c, Value.slice A' n' c'] 26)).alloc (Obj.cells #[Value.bool t, Value.slice B m d, Value.slice B' m' d'] 26)) = W
  have hb : Below w.heap.size w W := by subst hW; exact (((Below.refl _ _).alloc (Nat.le_refl _) _).alloc (by simp) _)
  have XA : B3 W (w.heap.size) (Value.bool s) (Value.slice A n c) (Value.slice A' n' c') := by subst hW; exact (B3.new' _ _ _ _ _ rfl).alloc _
  have XB : B3 W (w.heap.size + 1) (Value.bool t) (Value.slice B m d) (Value.slice B' m' d') := by subst hW; exact B3.new' _ _ _ _ _ (by simp)
  have hzW : W.heap.size = w.heap.size + 2 := by subst hW; simp
  clear hW
  have xa0 := XA.c0
  have xa1 := XA.c1
  have xa2 := XA.c2
  have xb0 := XB.c0
  have xb1 := XB.c1
  have xb2 := XB.c2
  go_wp2_with (first
      | (go_at_call 14; (with_reducible refine (qlarge_no s A A' n c n' c' _ H1.out).mono ?_); rintro e w_z ⟨rfl, hh⟩
         try replace XA := XA.below hh
         try replace XB := XB.below hh
         replace hb := bend hb hh
         have xa0 := XA.c0
         have xa1 := XA.c1
         have xa2 := XA.c2
         have xb0 := XB.c0
         have xb1 := XB.c1
         have xb2 := XB.c2)
      | (go_at_call 14; (with_reducible refine (qlarge_yes t B B' m d m' d' _ HL.out).mono ?_); rintro e w_z ⟨rfl, hh⟩
         try replace XA := XA.below hh
         try replace XB := XB.below hh
         replace hb := bend hb hh
         have xa0 := XA.c0
         have xa1 := XA.c1
         have xa2 := XA.c2
         have xb0 := XB.c0
         have xb1 := XB.c1
         have xb2 := XB.c2)
      | (go_at_call 15; (with_reducible refine (qwakes_any _).mono ?_); rintro e w_z ⟨rfl, hh⟩
         try replace XA := XA.below hh
         try replace XB := XB.below hh
         replace hb := bend hb hh))
  go_ret
  exact ⟨rfl, hb⟩
set_option maxRecDepth 100000 in
set_option maxHeartbeats 16000000 in
theorem reck_z {w : World} {s t : Bool} {A A' B B' : Option Addr} {n c n' c' m d m' d' : Nat} {l l' : List Nat} {va vb : Rat} (r1 : Rd .u64 w A n l) (r2 : Rd .u64 w A' n' l') (L : Lim B64 l) (L' : Lim B64 l') (e1 : n ≤ c) (e2 : n' ≤ c') (b : QR w t B m d B' m' d' vb 12) (h1 : n ≤ 12 ∧ n' ≤ 12) (h2 : m ≤ 12 ∧ m' ≤ 12) (hA : A = none → c = 0) (hA' : A' = none → c' = 0) (hv : va = mkRat (iv s (val B64 l)) (den1 (val B64 l'))) (hz : vb = 0) (R : Bool) (hR : canon s l l' = R) :
    Calls Tryz.prog 3 #[.agg #[.bool s, .slice A n c, .slice A' n' c'], .agg #[.bool t, .slice B m d, .slice B' m' d']] w fun e w' => e = .returned (.bool true) ∧ Below w.heap.size w w' := by
  have a : QR w s A n c A' n' c' va 12 := by rw [hv]; exact QR.of_rd r1 L e1 r2 L' e2 h1.1 h1.2
  have H1 := Lib.hid h1
  have H2 := Lib.hid h2
  have HZ := Lib.hid hz
  have HR := Lib.hid hR
  have HV := Lib.hid hv
  have HL : Hid (Lim B64 l ∧ Lim B64 l') := ⟨L, L'⟩
  have HA := Lib.hid hA
  have HA' := Lib.hid hA'
  have HE : Hid (l.length ≤ 12 ∧ l'.length ≤ 12) := by show _ ∧ _; have e1 := r1.1; have e2 := r2.1; omega
  have HN : Hid (n ≤ maxLen ∧ n' ≤ maxLen) := by show _ ∧ _; unfold maxLen; omega
  have HC : Hid (((s == decide (va.num < 0) && decide (l = limbs B64 va.num.natAbs)) && decide (l' = limbs B64 va.den)) = R) := (canon_eq L L' hv).trans hR
  have HK : Hid (sgnQ vb = 0) := by show _ = _; rw [hz]; rfl
  obtain ⟨M, hM⟩ : ∃ M, cmpQ va vb = M := ⟨_, rfl⟩
  obtain ⟨P, hP⟩ : ∃ P, sgnQ va = P := ⟨_, rfl⟩
  have HM := Lib.hid hM
  have HP := Lib.hid hP
  have HF : Hid (n ≤ 100000 ∧ n' ≤ 100000) := by show _ ∧ _; omega
  clear h1 h2 hz hR hv L L' e1 e2 hA hA' hM hP
  go_enter Tryz.func3, Tryz.ntmps3
  go_wp2_with fail
  generalize hW : ((w.alloc (Obj.cells #[Value.bool s, Value.slice A n c, Value.slice A' n' c'] 26)).alloc (Obj.cells #[Value.bool t, Value.slice B m d, Value.slice B' m' d'] 26)) = W
  have hb : Below w.heap.size w W := by subst hW; exact (((Below.refl _ _).alloc (Nat.le_refl _) _).alloc (by simp) _)
  have XA : B3 W (w.heap.size) (Value.bool s) (Value.slice A n c) (Value.slice A' n' c') := by subst hW; exact (B3.new' _ _ _ _ _ rfl).alloc _
  have XB : B3 W (w.heap.size + 1) (Value.bool t) (Value.slice B m d) (Value.slice B' m' d') := by subst hW; exact B3.new' _ _ _ _ _ (by simp)
  have hzW : W.heap.size = w.heap.size + 2 := by subst hW; simp
  clear hW
  replace a := a.below hb
  replace b := b.below hb
  replace r1 := r1.below hb
  replace r2 := r2.below hb
  have xa0 := XA.c0
  have xa1 := XA.c1
  have xa2 := XA.c2
  have xb0 := XB.c0
  have xb1 := XB.c1
  have xb2 := XB.c2
  go_upto_region 3 with (first
      | (go_at_call 14; (with_reducible refine (qlarge_no s A A' n c n' c' _ H1.out).mono ?_); rintro e w_z ⟨rfl, hh⟩
         try replace a := a.below hh
         try replace b := b.below hh
         try replace r1 := r1.below hh
         try replace r2 := r2.below hh
         try replace XA := XA.below hh
         try replace XB := XB.below hh
         replace hb := bend hb hh
         have xa0 := XA.c0
         have xa1 := XA.c1
         have xa2 := XA.c2
         have xb0 := XB.c0
         have xb1 := XB.c1
         have xb2 := XB.c2)
      | (go_at_call 14; (with_reducible refine (qlarge_no t B B' m d m' d' _ H2.out).mono ?_); rintro e w_z ⟨rfl, hh⟩
         try replace a := a.below hh
         try replace b := b.below hh
         try replace r1 := r1.below hh
         try replace r2 := r2.below hh
         try replace XA := XA.below hh
         try replace XB := XB.below hh
         replace hb := bend hb hh
         have xa0 := XA.c0
         have xa1 := XA.c1
         have xa2 := XA.c2
         have xb0 := XB.c0
         have xb1 := XB.c1
         have xb2 := XB.c2))
  refine rins_region (by simp) rfl rfl XA XB a b ?_
  intro V w_p g_p s_p A_p n_p c_p B_p m_p d_p g_q s_q A_q n_q c_q B_q m_q d_q x XP hg_p hvp y XQ hg_q hvq hne hh
  simp only [putAll, Act.put, List.setIfInBounds_toArray, List.set_cons_zero, List.set_cons_succ, hvp, hvq]
  clear hvp hvq
  replace a := a.below hh
  replace b := b.below hh
  replace r1 := r1.below hh
  replace r2 := r2.below hh
  replace XA := XA.below hh
  replace XB := XB.below hh
  replace hb := bend hb hh
  have xa0 := XA.c0
  have xa1 := XA.c1
  have xa2 := XA.c2
  have xb0 := XB.c0
  have xb1 := XB.c1
  have xb2 := XB.c2
  have xp0 := XP.c0
  have xp1 := XP.c1
  have xp2 := XP.c2
  have xq0 := XQ.c0
  have xq1 := XQ.c1
  have xq2 := XQ.c2
  go_upto_region 5 with (first
      | (go_at_call 17; (with_reducible refine (keepRat_any r1 r2 HA.out HA'.out HF.out.1 HF.out.2).mono ?_); rintro e w_i ⟨A_i, n_i, c_i, B_i, m_i, d_i, rfl, i1, ic, i2, id, hh⟩
         try replace a := a.below hh
         try replace b := b.below hh
         try replace r1 := r1.below hh
         try replace r2 := r2.below hh
         try replace x := x.below hh
         try replace y := y.below hh
         try replace XA := XA.below hh
         try replace XB := XB.below hh
         try replace XP := XP.below hh
         try replace XQ := XQ.below hh
         replace hb := bend hb hh
         have xa0 := XA.c0
         have xa1 := XA.c1
         have xa2 := XA.c2
         have xb0 := XB.c0
         have xb1 := XB.c1
         have xb2 := XB.c2
         have xp0 := XP.c0
         have xp1 := XP.c1
         have xp2 := XP.c2
         have xq0 := XQ.c0
         have xq1 := XQ.c1
         have xq2 := XQ.c2))
  have i : QR w_i s A_i n_i c_i B_i m_i d_i va 12 := by rw [HV.out]; exact QR.rd_i i1 i2 HL.out.1 HL.out.2 ic id HE.out.1 HE.out.2
  clear HV
  have HIC : Hid (n_i ≤ c_i ∧ m_i ≤ d_i) := ⟨ic, id⟩
  have HIN : Hid (n_i ≤ 900 ∧ m_i ≤ 900 ∧ n_i ≤ maxLen ∧ m_i ≤ maxLen) := by
    show _ ∧ _ ∧ _ ∧ _
    have e1 := i1.1
    have e2 := i2.1
    have := HE.out
    unfold maxLen; omega
  clear ic id
  generalize hW : (w_i.alloc (Obj.cells #[Value.bool s, Value.slice A_i n_i c_i, Value.slice B_i m_i d_i] 26)) = W2
  have hh : Below w_i.heap.size w_i W2 := by subst hW; exact ((Below.refl _ _).alloc (Nat.le_refl _) _)
  have XI : B3 W2 (w_i.heap.size) (Value.bool s) (Value.slice A_i n_i c_i) (Value.slice B_i m_i d_i) := by subst hW; exact B3.new' _ _ _ _ _ rfl
  have hzW2 : W2.heap.size = w_i.heap.size + 1 := by subst hW; simp
  clear hW
  try replace a := a.below hh
  try replace b := b.below hh
  try replace r1 := r1.below hh
  try replace r2 := r2.below hh
  try replace x := x.below hh
  try replace y := y.below hh
  try replace XA := XA.below hh
  try replace XB := XB.below hh
  try replace XP := XP.below hh
  try replace XQ := XQ.below hh
  try replace i := i.below hh
  try replace i1 := i1.below hh
  try replace i2 := i2.below hh
  replace hb := bend hb hh
  have xa0 := XA.c0
  have xa1 := XA.c1
  have xa2 := XA.c2
  have xb0 := XB.c0
  have xb1 := XB.c1
  have xb2 := XB.c2
  have xp0 := XP.c0
  have xp1 := XP.c1
  have xp2 := XP.c2
  have xq0 := XQ.c0
  have xq1 := XQ.c1
  have xq2 := XQ.c2
  have xi0 := XI.c0
  have xi1 := XI.c1
  have xi2 := XI.c2
  go_upto_region 6 with (first
      | (go_at_call 18; (with_reducible refine (rdiv_zero i b (by decide) (by decide) (by decide) (by decide) (by decide) HZ.out).mono ?_); rintro e w_dv ⟨rfl, hh⟩
         try replace a := a.below hh
         try replace b := b.below hh
         try replace r1 := r1.below hh
         try replace r2 := r2.below hh
         try replace x := x.below hh
         try replace y := y.below hh
         try replace XA := XA.below hh
         try replace XB := XB.below hh
         try replace XP := XP.below hh
         try replace XQ := XQ.below hh
         try replace i := i.below hh
         try replace i1 := i1.below hh
         try replace i2 := i2.below hh
         try replace XI := XI.below hh
         replace hb := bend hb hh
         have xa0 := XA.c0
         have xa1 := XA.c1
         have xa2 := XA.c2
         have xb0 := XB.c0
         have xb1 := XB.c1
         have xb2 := XB.c2
         have xp0 := XP.c0
         have xp1 := XP.c1
         have xp2 := XP.c2
         have xq0 := XQ.c0
         have xq1 := XQ.c1
         have xq2 := XQ.c2
         have xi0 := XI.c0
         have xi1 := XI.c1
         have xi2 := XI.c2))
  generalize hW : (w_dv.alloc (Obj.cells #[Value.bool false, Value.slice none 0 0, Value.slice none 0 0] 26)) = W3
  have hh : Below w_dv.heap.size w_dv W3 := by subst hW; exact ((Below.refl _ _).alloc (Nat.le_refl _) _)
  have XD : B3 W3 (w_dv.heap.size) (Value.bool false) (Value.slice none 0 0) (Value.slice none 0 0) := by subst hW; exact B3.new' _ _ _ _ _ rfl
  have hzW3 : W3.heap.size = w_dv.heap.size + 1 := by subst hW; simp
  clear hW
  try replace a := a.below hh
  try replace b := b.below hh
  try replace r1 := r1.below hh
  try replace r2 := r2.below hh
  try replace x := x.below hh
  try replace y := y.below hh
  try replace XA := XA.below hh
  try replace XB := XB.below hh
  try replace XP := XP.below hh
  try replace XQ := XQ.below hh
  try replace i := i.below hh
  try replace i1 := i1.below hh
  try replace i2 := i2.below hh
  try replace XI := XI.below hh
  replace hb := bend hb hh
  have xa0 := XA.c0
  have xa1 := XA.c1
  have xa2 := XA.c2
  have xb0 := XB.c0
  have xb1 := XB.c1
  have xb2 := XB.c2
  have xp0 := XP.c0
  have xp1 := XP.c1
  have xp2 := XP.c2
  have xq0 := XQ.c0
  have xq1 := XQ.c1
  have xq2 := XQ.c2
  have xi0 := XI.c0
  have xi1 := XI.c1
  have xi2 := XI.c2
  have xd0 := XD.c0
  have xd1 := XD.c1
  have xd2 := XD.c2
  go_upto_region 11 with (first
      | (go_at_call 19; (with_reducible refine (rsign3 y).mono ?_); rintro e w_z ⟨rfl, hh⟩
         rw [HK.out]
         try replace a := a.below hh
         try replace b := b.below hh
         try replace r1 := r1.below hh
         try replace r2 := r2.below hh
         try replace x := x.below hh
         try replace y := y.below hh
         try replace XA := XA.below hh
         try replace XB := XB.below hh
         try replace XP := XP.below hh
         try replace XQ := XQ.below hh
         try replace i := i.below hh
         try replace i1 := i1.below hh
         try replace i2 := i2.below hh
         try replace XI := XI.below hh
         try replace XD := XD.below hh
         replace hb := bend hb hh
         have xa0 := XA.c0
         have xa1 := XA.c1
         have xa2 := XA.c2
         have xb0 := XB.c0
         have xb1 := XB.c1
         have xb2 := XB.c2
         have xp0 := XP.c0
         have xp1 := XP.c1
         have xp2 := XP.c2
         have xq0 := XQ.c0
         have xq1 := XQ.c1
         have xq2 := XQ.c2
         have xi0 := XI.c0
         have xi1 := XI.c1
         have xi2 := XI.c2
         have xd0 := XD.c0
         have xd1 := XD.c1
         have xd2 := XD.c2))
  clear a
  replace b := b.below (Below.refl _ _).drew
  replace r1 := r1.below (Below.refl _ _).drew
  replace r2 := r2.below (Below.refl _ _).drew
  replace x := x.below (Below.refl _ _).drew
  replace y := y.below (Below.refl _ _).drew
  replace XA := XA.below (Below.refl _ _).drew
  replace XB := XB.below (Below.refl _ _).drew
  replace XP := XP.below (Below.refl _ _).drew
  replace XQ := XQ.below (Below.refl _ _).drew
  replace i := i.below (Below.refl _ _).drew
  replace i1 := i1.below (Below.refl _ _).drew
  replace i2 := i2.below (Below.refl _ _).drew
  replace XI := XI.below (Below.refl _ _).drew
  replace hb := hb.drew
  dsimp only [List.append]
  go_region_held3 (fun w' => w'.cell? ⟨w.heap.size, 0, none⟩ = some (.bool s) ∧ w'.cell? ⟨w.heap.size, 1, none⟩ = some (.slice A n c) ∧ w'.cell? ⟨w.heap.size, 2, none⟩ = some (.slice A' n' c') ∧ w'.cell? ⟨w.heap.size + 1, 0, none⟩ = some (.bool t) ∧ w'.cell? ⟨w.heap.size + 1, 1, none⟩ = some (.slice B m d) ∧ w'.cell? ⟨w.heap.size + 1, 2, none⟩ = some (.slice B' m' d') ∧ w'.cell? ⟨g_p, 0, none⟩ = some (.bool s_p) ∧ w'.cell? ⟨g_p, 1, none⟩ = some (.slice A_p n_p c_p) ∧ w'.cell? ⟨g_p, 2, none⟩ = some (.slice B_p m_p d_p) ∧ w'.cell? ⟨g_q, 0, none⟩ = some (.bool s_q) ∧ w'.cell? ⟨g_q, 1, none⟩ = some (.slice A_q n_q c_q) ∧ w'.cell? ⟨g_q, 2, none⟩ = some (.slice B_q m_q d_q) ∧ w'.cell? ⟨w_i.heap.size, 0, none⟩ = some (.bool s) ∧ w'.cell? ⟨w_i.heap.size, 1, none⟩ = some (.slice A_i n_i c_i) ∧ w'.cell? ⟨w_i.heap.size, 2, none⟩ = some (.slice B_i m_i d_i))
    (first | with_reducible exact ⟨XA.c0, XA.c1, XA.c2, XB.c0, XB.c1, XB.c2, XP.c0, XP.c1, XP.c2, XQ.c0, XQ.c1, XQ.c2, XI.c0, XI.c1, XI.c2⟩)
    (first
    | (go_at_call 22; (with_reducible refine (radd_q i b (by decide) (by decide) (by decide) (by decide) (by decide)).mono ?_); rintro e w_u1 ⟨s_u1, A_u1, n_u1, c_u1, B_u1, m_u1, d_u1, rfl, u1, hh⟩
       try replace b := b.below hh
       try replace r1 := r1.below hh
       try replace r2 := r2.below hh
       try replace x := x.below hh
       try replace y := y.below hh
       try replace XA := XA.below hh
       try replace XB := XB.below hh
       try replace XP := XP.below hh
       try replace XQ := XQ.below hh
       try replace i := i.below hh
       try replace i1 := i1.below hh
       try replace i2 := i2.below hh
       try replace XI := XI.below hh
       replace hb := bend hb hh)
    | (go_at_call 23; (with_reducible refine (radd3 x y (by decide) (by decide)).mono ?_); rintro e w_v1 ⟨s_v1, A_v1, n_v1, c_v1, B_v1, m_v1, d_v1, rfl, v1, hh⟩
       try replace b := b.below hh
       try replace r1 := r1.below hh
       try replace r2 := r2.below hh
       try replace x := x.below hh
       try replace y := y.below hh
       try replace XA := XA.below hh
       try replace XB := XB.below hh
       try replace XP := XP.below hh
       try replace XQ := XQ.below hh
       try replace i := i.below hh
       try replace i1 := i1.below hh
       try replace i2 := i2.below hh
       try replace XI := XI.below hh
       try replace u1 := u1.below hh
       replace hb := bend hb hh)
    | (go_at_call 20; (with_reducible refine (same3 u1 v1 rfl (by decide) (by decide)).mono ?_); rintro e w_z ⟨rfl, hh⟩
       try replace b := b.below hh
       try replace r1 := r1.below hh
       try replace r2 := r2.below hh
       try replace x := x.below hh
       try replace y := y.below hh
       try replace XA := XA.below hh
       try replace XB := XB.below hh
       try replace XP := XP.below hh
       try replace XQ := XQ.below hh
       try replace i := i.below hh
       try replace i1 := i1.below hh
       try replace i2 := i2.below hh
       try replace XI := XI.below hh
       replace hb := bend hb hh
       clear u1 v1)
    | (go_at_call 24; (with_reducible refine (rsub_q i b (by decide) (by decide) (by decide) (by decide) (by decide)).mono ?_); rintro e w_u2 ⟨s_u2, A_u2, n_u2, c_u2, B_u2, m_u2, d_u2, rfl, u2, hh⟩
       try replace b := b.below hh
       try replace r1 := r1.below hh
       try replace r2 := r2.below hh
       try replace x := x.below hh
       try replace y := y.below hh
       try replace XA := XA.below hh
       try replace XB := XB.below hh
       try replace XP := XP.below hh
       try replace XQ := XQ.below hh
       try replace i := i.below hh
       try replace i1 := i1.below hh
       try replace i2 := i2.below hh
       try replace XI := XI.below hh
       replace hb := bend hb hh)
    | (go_at_call 25; (with_reducible refine (rsub3 x y (by decide) (by decide)).mono ?_); rintro e w_v2 ⟨s_v2, A_v2, n_v2, c_v2, B_v2, m_v2, d_v2, rfl, v2, hh⟩
       try replace b := b.below hh
       try replace r1 := r1.below hh
       try replace r2 := r2.below hh
       try replace x := x.below hh
       try replace y := y.below hh
       try replace XA := XA.below hh
       try replace XB := XB.below hh
       try replace XP := XP.below hh
       try replace XQ := XQ.below hh
       try replace i := i.below hh
       try replace i1 := i1.below hh
       try replace i2 := i2.below hh
       try replace XI := XI.below hh
       try replace u2 := u2.below hh
       replace hb := bend hb hh)
    | (go_at_call 20; (with_reducible refine (same3 u2 v2 rfl (by decide) (by decide)).mono ?_); rintro e w_z ⟨rfl, hh⟩
       try replace b := b.below hh
       try replace r1 := r1.below hh
       try replace r2 := r2.below hh
       try replace x := x.below hh
       try replace y := y.below hh
       try replace XA := XA.below hh
       try replace XB := XB.below hh
       try replace XP := XP.below hh
       try replace XQ := XQ.below hh
       try replace i := i.below hh
       try replace i1 := i1.below hh
       try replace i2 := i2.below hh
       try replace XI := XI.below hh
       replace hb := bend hb hh
       clear u2 v2)
    | (go_at_call 26; (with_reducible refine (rmul_q i b (by decide) (by decide) (by decide) (by decide) (by decide)).mono ?_); rintro e w_u3 ⟨s_u3, A_u3, n_u3, c_u3, B_u3, m_u3, d_u3, rfl, u3, hh⟩
       try replace b := b.below hh
       try replace r1 := r1.below hh
       try replace r2 := r2.below hh
       try replace x := x.below hh
       try replace y := y.below hh
       try replace XA := XA.below hh
       try replace XB := XB.below hh
       try replace XP := XP.below hh
       try replace XQ := XQ.below hh
       try replace i := i.below hh
       try replace i1 := i1.below hh
       try replace i2 := i2.below hh
       try replace XI := XI.below hh
       replace hb := bend hb hh)
    | (go_at_call 27; (with_reducible refine (rmul3 x y (by decide) (by decide)).mono ?_); rintro e w_v3 ⟨s_v3, A_v3, n_v3, c_v3, B_v3, m_v3, d_v3, rfl, v3, hh⟩
       try replace b := b.below hh
       try replace r1 := r1.below hh
       try replace r2 := r2.below hh
       try replace x := x.below hh
       try replace y := y.below hh
       try replace XA := XA.below hh
       try replace XB := XB.below hh
       try replace XP := XP.below hh
       try replace XQ := XQ.below hh
       try replace i := i.below hh
       try replace i1 := i1.below hh
       try replace i2 := i2.below hh
       try replace XI := XI.below hh
       try replace u3 := u3.below hh
       replace hb := bend hb hh)
    | (go_at_call 20; (with_reducible refine (same3 u3 v3 rfl (by decide) (by decide)).mono ?_); rintro e w_z ⟨rfl, hh⟩
       try replace b := b.below hh
       try replace r1 := r1.below hh
       try replace r2 := r2.below hh
       try replace x := x.below hh
       try replace y := y.below hh
       try replace XA := XA.below hh
       try replace XB := XB.below hh
       try replace XP := XP.below hh
       try replace XQ := XQ.below hh
       try replace i := i.below hh
       try replace i1 := i1.below hh
       try replace i2 := i2.below hh
       try replace XI := XI.below hh
       replace hb := bend hb hh
       clear u3 v3)
    | (go_at_call 28; (with_reducible refine (rcmp_q i b (by decide) (by decide) (by decide) (by decide) (by decide)).mono ?_); rintro e w_z ⟨rfl, hh⟩
       rw [HM.out]
       try replace b := b.below hh
       try replace r1 := r1.below hh
       try replace r2 := r2.below hh
       try replace x := x.below hh
       try replace y := y.below hh
       try replace XA := XA.below hh
       try replace XB := XB.below hh
       try replace XP := XP.below hh
       try replace XQ := XQ.below hh
       try replace i := i.below hh
       try replace i1 := i1.below hh
       try replace i2 := i2.below hh
       try replace XI := XI.below hh
       replace hb := bend hb hh)
    | (go_at_call 29; (with_reducible refine (rcmp3 x y (by decide) (by decide)).mono ?_); rintro e w_z ⟨rfl, hh⟩
       rw [HM.out]; clear b y
       try replace r1 := r1.below hh
       try replace r2 := r2.below hh
       try replace x := x.below hh
       try replace XA := XA.below hh
       try replace XB := XB.below hh
       try replace XP := XP.below hh
       try replace XQ := XQ.below hh
       try replace i := i.below hh
       try replace i1 := i1.below hh
       try replace i2 := i2.below hh
       try replace XI := XI.below hh
       replace hb := bend hb hh)
    | (go_at_call 30; (with_reducible refine (rsign_q i (by decide) (by decide)).mono ?_); rintro e w_z ⟨rfl, hh⟩
       rw [HP.out]
       try replace r1 := r1.below hh
       try replace r2 := r2.below hh
       try replace x := x.below hh
       try replace XA := XA.below hh
       try replace XB := XB.below hh
       try replace XP := XP.below hh
       try replace XQ := XQ.below hh
       try replace i := i.below hh
       try replace i1 := i1.below hh
       try replace i2 := i2.below hh
       try replace XI := XI.below hh
       replace hb := bend hb hh)
    | (go_at_call 19; (with_reducible refine (rsign3 x).mono ?_); rintro e w_z ⟨rfl, hh⟩
       rw [HP.out]
       try replace r1 := r1.below hh
       try replace r2 := r2.below hh
       try replace x := x.below hh
       try replace XA := XA.below hh
       try replace XB := XB.below hh
       try replace XP := XP.below hh
       try replace XQ := XQ.below hh
       try replace i := i.below hh
       try replace i1 := i1.below hh
       try replace i2 := i2.below hh
       try replace XI := XI.below hh
       replace hb := bend hb hh)
    | (go_at_call 31; (with_reducible refine (rneg_q i (by decide) (by decide)).mono ?_); rintro e w_u4 ⟨s_u4, A_u4, n_u4, c_u4, B_u4, m_u4, d_u4, rfl, u4, hh⟩
       try replace r1 := r1.below hh
       try replace r2 := r2.below hh
       try replace x := x.below hh
       try replace XA := XA.below hh
       try replace XB := XB.below hh
       try replace XP := XP.below hh
       try replace XQ := XQ.below hh
       try replace i := i.below hh
       try replace i1 := i1.below hh
       try replace i2 := i2.below hh
       try replace XI := XI.below hh
       replace hb := bend hb hh)
    | (go_at_call 32; (with_reducible refine (rminus3 x).mono ?_); rintro e w_v4 ⟨s_v4, A_v4, n_v4, c_v4, B_v4, m_v4, d_v4, rfl, v4, hh⟩
       try replace r1 := r1.below hh
       try replace r2 := r2.below hh
       try replace x := x.below hh
       try replace XA := XA.below hh
       try replace XB := XB.below hh
       try replace XP := XP.below hh
       try replace XQ := XQ.below hh
       try replace i := i.below hh
       try replace i1 := i1.below hh
       try replace i2 := i2.below hh
       try replace XI := XI.below hh
       try replace u4 := u4.below hh
       replace hb := bend hb hh)
    | (go_at_call 20; (with_reducible refine (same3 u4 v4 rfl (by decide) (by decide)).mono ?_); rintro e w_z ⟨rfl, hh⟩
       try replace r1 := r1.below hh
       try replace r2 := r2.below hh
       try replace x := x.below hh
       try replace XA := XA.below hh
       try replace XB := XB.below hh
       try replace XP := XP.below hh
       try replace XQ := XQ.below hh
       try replace i := i.below hh
       try replace i1 := i1.below hh
       try replace i2 := i2.below hh
       try replace XI := XI.below hh
       replace hb := bend hb hh
       clear u4 v4)
    | (go_at_call 33; (with_reducible refine (rabs_q i (by decide) (by decide)).mono ?_); rintro e w_u5 ⟨s_u5, A_u5, n_u5, c_u5, B_u5, m_u5, d_u5, rfl, u5, hh⟩
       try replace r1 := r1.below hh
       try replace r2 := r2.below hh
       try replace x := x.below hh
       try replace XA := XA.below hh
       try replace XB := XB.below hh
       try replace XP := XP.below hh
       try replace XQ := XQ.below hh
       try replace i := i.below hh
       try replace i1 := i1.below hh
       try replace i2 := i2.below hh
       try replace XI := XI.below hh
       replace hb := bend hb hh)
    | (go_at_call 34; (with_reducible refine (rabs3 x).mono ?_); rintro e w_v5 ⟨s_v5, A_v5, n_v5, c_v5, B_v5, m_v5, d_v5, rfl, v5, hh⟩
       try replace r1 := r1.below hh
       try replace r2 := r2.below hh
       try replace x := x.below hh
       try replace XA := XA.below hh
       try replace XB := XB.below hh
       try replace XP := XP.below hh
       try replace XQ := XQ.below hh
       try replace i := i.below hh
       try replace i1 := i1.below hh
       try replace i2 := i2.below hh
       try replace XI := XI.below hh
       try replace u5 := u5.below hh
       replace hb := bend hb hh)
    | (go_at_call 20; (with_reducible refine (same3 u5 v5 rfl (by decide) (by decide)).mono ?_); rintro e w_z ⟨rfl, hh⟩
       try replace r1 := r1.below hh
       try replace r2 := r2.below hh
       try replace x := x.below hh
       try replace XA := XA.below hh
       try replace XB := XB.below hh
       try replace XP := XP.below hh
       try replace XQ := XQ.below hh
       try replace i := i.below hh
       try replace i1 := i1.below hh
       try replace i2 := i2.below hh
       try replace XI := XI.below hh
       replace hb := bend hb hh
       clear u5 v5)
    | (go_at_call 35; (with_reducible refine (good_l i1 i2 HL.out.1 HL.out.2 HIC.out.1 HIC.out.2 HIN.out.1 HIN.out.2.1 R HR.out).mono ?_); rintro e w_z ⟨rfl, hh⟩
       try replace r1 := r1.below hh
       try replace r2 := r2.below hh
       try replace x := x.below hh
       try replace XA := XA.below hh
       try replace XB := XB.below hh
       try replace XP := XP.below hh
       try replace XQ := XQ.below hh
       try replace i := i.below hh
       try replace i1 := i1.below hh
       try replace i2 := i2.below hh
       try replace XI := XI.below hh
       replace hb := bend hb hh)
    | (go_at_call 37; (with_reducible refine (rout3 x (by decide)).mono ?_); rintro e w_o ⟨A_o, n_o, c_o, B_o, m_o, d_o, rfl, o1, o2, hh⟩
       try replace r1 := r1.below hh
       try replace r2 := r2.below hh
       try replace x := x.below hh
       try replace XA := XA.below hh
       try replace XB := XB.below hh
       try replace XP := XP.below hh
       try replace XQ := XQ.below hh
       try replace i := i.below hh
       try replace i1 := i1.below hh
       try replace i2 := i2.below hh
       try replace XI := XI.below hh
       replace hb := bend hb hh)
    | (go_at_call 36; (with_reducible refine (rats_any r1 r2 o1 o2 HN.out.1 HN.out.2 R HC.out).mono ?_); rintro e w_z ⟨rfl, hh⟩
       try replace r1 := r1.below hh
       try replace r2 := r2.below hh
       try replace x := x.below hh
       try replace XA := XA.below hh
       try replace XB := XB.below hh
       try replace XP := XP.below hh
       try replace XQ := XQ.below hh
       try replace i := i.below hh
       try replace i1 := i1.below hh
       try replace i2 := i2.below hh
       try replace XI := XI.below hh
       replace hb := bend hb hh
       clear o1 o2)
    | (go_at_call 36; (with_reducible refine (rats_any i1 i2 r1 r2 HIN.out.2.2.1 HIN.out.2.2.2 true (same_eq s l l')).mono ?_); rintro e w_z ⟨rfl, hh⟩
       try replace r1 := r1.below hh
       try replace r2 := r2.below hh
       try replace x := x.below hh
       try replace XA := XA.below hh
       try replace XB := XB.below hh
       try replace XP := XP.below hh
       try replace XQ := XQ.below hh
       try replace i := i.below hh
       try replace i1 := i1.below hh
       try replace i2 := i2.below hh
       try replace XI := XI.below hh
       replace hb := bend hb hh)
    | (go_at_call 15; (with_reducible refine (qwakes_any _).mono ?_); rintro e w_z ⟨rfl, hh⟩
       try replace XA := XA.below hh
       try replace XB := XB.below hh
       try replace XP := XP.below hh
       try replace XQ := XQ.below hh
       try replace XI := XI.below hh
       replace hb := bend hb hh))
  go_wp2_with fail
  go_ret
  exact ⟨rfl, hb⟩
set_option maxRecDepth 100000 in
set_option maxHeartbeats 16000000 in
theorem reck_n {w : World} {s t : Bool} {A A' B B' : Option Addr} {n c n' c' m d m' d' : Nat} {l l' : List Nat} {va vb : Rat} (r1 : Rd .u64 w A n l) (r2 : Rd .u64 w A' n' l') (L : Lim B64 l) (L' : Lim B64 l') (e1 : n ≤ c) (e2 : n' ≤ c') (b : QR w t B m d B' m' d' vb 12) (h1 : n ≤ 12 ∧ n' ≤ 12) (h2 : m ≤ 12 ∧ m' ≤ 12) (hA : A = none → c = 0) (hA' : A' = none → c' = 0) (hv : va = mkRat (iv s (val B64 l)) (den1 (val B64 l'))) (hz : vb ≠ 0) (R : Bool) (hR : canon s l l' = R) :
    Calls Tryz.prog 3 #[.agg #[.bool s, .slice A n c, .slice A' n' c'], .agg #[.bool t, .slice B m d, .slice B' m' d']] w fun e w' => e = .returned (.bool true) ∧ Below w.heap.size w w' := by
  have a : QR w s A n c A' n' c' va 12 := by rw [hv]; exact QR.of_rd r1 L e1 r2 L' e2 h1.1 h1.2
  have H1 := Lib.hid h1
  have H2 := Lib.hid h2
  have HZ := Lib.hid hz
  have HR := Lib.hid hR
  have HV := Lib.hid hv
  have HL : Hid (Lim B64 l ∧ Lim B64 l') := ⟨L, L'⟩
  have HA := Lib.hid hA
  have HA' := Lib.hid hA'
  have HE : Hid (l.length ≤ 12 ∧ l'.length ≤ 12) := by show _ ∧ _; have e1 := r1.1; have e2 := r2.1; omega
  have HN : Hid (n ≤ maxLen ∧ n' ≤ maxLen) := by show _ ∧ _; unfold maxLen; omega
  have HC : Hid (((s == decide (va.num < 0) && decide (l = limbs B64 va.num.natAbs)) && decide (l' = limbs B64 va.den)) = R) := (canon_eq L L' hv).trans hR
  obtain ⟨K, hK, hK0⟩ : ∃ K, sgnQ vb = K ∧ ((K : Int) == 0) = false := ⟨_, rfl, by
    unfold sgnQ
    (repeat' split) <;> first | rfl | (exact absurd ‹_› hz)⟩
  have HK := Lib.hid hK
  clear hK
  obtain ⟨M, hM⟩ : ∃ M, cmpQ va vb = M := ⟨_, rfl⟩
  obtain ⟨P, hP⟩ : ∃ P, sgnQ va = P := ⟨_, rfl⟩
  have HM := Lib.hid hM
  have HP := Lib.hid hP
  have HF : Hid (n ≤ 100000 ∧ n' ≤ 100000) := by show _ ∧ _; omega
  clear h1 h2 hz hR hv L L' e1 e2 hA hA' hM hP
  go_enter Tryz.func3, Tryz.ntmps3
  go_wp2_with fail
  generalize hW : ((w.alloc (Obj.cells #[Value.bool s, Value.slice A n c, Value.slice A' n' c'] 26)).alloc (Obj.cells #[Value.bool t, Value.slice B m d, Value.slice B' m' d'] 26)) = W
  have hb : Below w.heap.size w W := by subst hW; exact (((Below.refl _ _).alloc (Nat.le_refl _) _).alloc (by simp) _)
  have XA : B3 W (w.heap.size) (Value.bool s) (Value.slice A n c) (Value.slice A' n' c') := by subst hW; exact (B3.new' _ _ _ _ _ rfl).alloc _
  have XB : B3 W (w.heap.size + 1) (Value.bool t) (Value.slice B m d) (Value.slice B' m' d') := by subst hW; exact B3.new' _ _ _ _ _ (by simp)
  have hzW : W.heap.size = w.heap.size + 2 := by subst hW; simp
  clear hW
  replace a := a.below hb
  replace b := b.below hb
  replace r1 := r1.below hb
  replace r2 := r2.below hb
  have xa0 := XA.c0
  have xa1 := XA.c1
  have xa2 := XA.c2
  have xb0 := XB.c0
  have xb1 := XB.c1
  have xb2 := XB.c2
  go_upto_region 3 with (first
      | (go_at_call 14; (with_reducible refine (qlarge_no s A A' n c n' c' _ H1.out).mono ?_); rintro e w_z ⟨rfl, hh⟩
         try replace a := a.below hh
         try replace b := b.below hh
         try replace r1 := r1.below hh
         try replace r2 := r2.below hh
         try replace XA := XA.below hh
         try replace XB := XB.below hh
         replace hb := bend hb hh
         have xa0 := XA.c0
         have xa1 := XA.c1
         have xa2 := XA.c2
         have xb0 := XB.c0
         have xb1 := XB.c1
         have xb2 := XB.c2)
      | (go_at_call 14; (with_reducible refine (qlarge_no t B B' m d m' d' _ H2.out).mono ?_); rintro e w_z ⟨rfl, hh⟩
         try replace a := a.below hh
         try replace b := b.below hh
         try replace r1 := r1.below hh
         try replace r2 := r2.below hh
         try replace XA := XA.below hh
         try replace XB := XB.below hh
         replace hb := bend hb hh
         have xa0 := XA.c0
         have xa1 := XA.c1
         have xa2 := XA.c2
         have xb0 := XB.c0
         have xb1 := XB.c1
         have xb2 := XB.c2))
  refine rins_region (by simp) rfl rfl XA XB a b ?_
  intro V w_p g_p s_p A_p n_p c_p B_p m_p d_p g_q s_q A_q n_q c_q B_q m_q d_q x XP hg_p hvp y XQ hg_q hvq hne hh
  simp only [putAll, Act.put, List.setIfInBounds_toArray, List.set_cons_zero, List.set_cons_succ, hvp, hvq]
  clear hvp hvq
  replace a := a.below hh
  replace b := b.below hh
  replace r1 := r1.below hh
  replace r2 := r2.below hh
  replace XA := XA.below hh
  replace XB := XB.below hh
  replace hb := bend hb hh
  have xa0 := XA.c0
  have xa1 := XA.c1
  have xa2 := XA.c2
  have xb0 := XB.c0
  have xb1 := XB.c1
  have xb2 := XB.c2
  have xp0 := XP.c0
  have xp1 := XP.c1
  have xp2 := XP.c2
  have xq0 := XQ.c0
  have xq1 := XQ.c1
  have xq2 := XQ.c2
  go_upto_region 5 with (first
      | (go_at_call 17; (with_reducible refine (keepRat_any r1 r2 HA.out HA'.out HF.out.1 HF.out.2).mono ?_); rintro e w_i ⟨A_i, n_i, c_i, B_i, m_i, d_i, rfl, i1, ic, i2, id, hh⟩
         try replace a := a.below hh
         try replace b := b.below hh
         try replace r1 := r1.below hh
         try replace r2 := r2.below hh
         try replace x := x.below hh
         try replace y := y.below hh
         try replace XA := XA.below hh
         try replace XB := XB.below hh
         try replace XP := XP.below hh
         try replace XQ := XQ.below hh
         replace hb := bend hb hh
         have xa0 := XA.c0
         have xa1 := XA.c1
         have xa2 := XA.c2
         have xb0 := XB.c0
         have xb1 := XB.c1
         have xb2 := XB.c2
         have xp0 := XP.c0
         have xp1 := XP.c1
         have xp2 := XP.c2
         have xq0 := XQ.c0
         have xq1 := XQ.c1
         have xq2 := XQ.c2))
  have i : QR w_i s A_i n_i c_i B_i m_i d_i va 12 := by rw [HV.out]; exact QR.rd_i i1 i2 HL.out.1 HL.out.2 ic id HE.out.1 HE.out.2
  clear HV
  have HIC : Hid (n_i ≤ c_i ∧ m_i ≤ d_i) := ⟨ic, id⟩
  have HIN : Hid (n_i ≤ 900 ∧ m_i ≤ 900 ∧ n_i ≤ maxLen ∧ m_i ≤ maxLen) := by
    show _ ∧ _ ∧ _ ∧ _
    have e1 := i1.1
    have e2 := i2.1
    have := HE.out
    unfold maxLen; omega
  clear ic id
  generalize hW : (w_i.alloc (Obj.cells #[Value.bool s, Value.slice A_i n_i c_i, Value.slice B_i m_i d_i] 26)) = W2
  have hh : Below w_i.heap.size w_i W2 := by subst hW; exact ((Below.refl _ _).alloc (Nat.le_refl _) _)
  have XI : B3 W2 (w_i.heap.size) (Value.bool s) (Value.slice A_i n_i c_i) (Value.slice B_i m_i d_i) := by subst hW; exact B3.new' _ _ _ _ _ rfl
  have hzW2 : W2.heap.size = w_i.heap.size + 1 := by subst hW; simp
  clear hW
  try replace a := a.below hh
  try replace b := b.below hh
  try replace r1 := r1.below hh
  try replace r2 := r2.below hh
  try replace x := x.below hh
  try replace y := y.below hh
  try replace XA := XA.below hh
  try replace XB := XB.below hh
  try replace XP := XP.below hh
  try replace XQ := XQ.below hh
  try replace i := i.below hh
  try replace i1 := i1.below hh
  try replace i2 := i2.below hh
  replace hb := bend hb hh
  have xa0 := XA.c0
  have xa1 := XA.c1
  have xa2 := XA.c2
  have xb0 := XB.c0
  have xb1 := XB.c1
  have xb2 := XB.c2
  have xp0 := XP.c0
  have xp1 := XP.c1
  have xp2 := XP.c2
  have xq0 := XQ.c0
  have xq1 := XQ.c1
  have xq2 := XQ.c2
  have xi0 := XI.c0
  have xi1 := XI.c1
  have xi2 := XI.c2
  go_upto_region 6 with (first
      | (go_at_call 18; (with_reducible refine (rdiv_q i b (by decide) (by decide) (by decide) (by decide) (by decide) HZ.out).mono ?_); rintro e w_dv ⟨s_dv, A_dv, n_dv, c_dv, B_dv, m_dv, d_dv, rfl, dv, hh⟩
         try replace a := a.below hh
         try replace b := b.below hh
         try replace r1 := r1.below hh
         try replace r2 := r2.below hh
         try replace x := x.below hh
         try replace y := y.below hh
         try replace XA := XA.below hh
         try replace XB := XB.below hh
         try replace XP := XP.below hh
         try replace XQ := XQ.below hh
         try replace i := i.below hh
         try replace i1 := i1.below hh
         try replace i2 := i2.below hh
         try replace XI := XI.below hh
         replace hb := bend hb hh
         have xa0 := XA.c0
         have xa1 := XA.c1
         have xa2 := XA.c2
         have xb0 := XB.c0
         have xb1 := XB.c1
         have xb2 := XB.c2
         have xp0 := XP.c0
         have xp1 := XP.c1
         have xp2 := XP.c2
         have xq0 := XQ.c0
         have xq1 := XQ.c1
         have xq2 := XQ.c2
         have xi0 := XI.c0
         have xi1 := XI.c1
         have xi2 := XI.c2))
  generalize hW : (w_dv.alloc (Obj.cells #[Value.bool s_dv, Value.slice A_dv n_dv c_dv, Value.slice B_dv m_dv d_dv] 26)) = W3
  have hh : Below w_dv.heap.size w_dv W3 := by subst hW; exact ((Below.refl _ _).alloc (Nat.le_refl _) _)
  have XD : B3 W3 (w_dv.heap.size) (Value.bool s_dv) (Value.slice A_dv n_dv c_dv) (Value.slice B_dv m_dv d_dv) := by subst hW; exact B3.new' _ _ _ _ _ rfl
  have hzW3 : W3.heap.size = w_dv.heap.size + 1 := by subst hW; simp
  clear hW
  try replace a := a.below hh
  try replace b := b.below hh
  try replace r1 := r1.below hh
  try replace r2 := r2.below hh
  try replace x := x.below hh
  try replace y := y.below hh
  try replace XA := XA.below hh
  try replace XB := XB.below hh
  try replace XP := XP.below hh
  try replace XQ := XQ.below hh
  try replace i := i.below hh
  try replace i1 := i1.below hh
  try replace i2 := i2.below hh
  try replace XI := XI.below hh
  try replace dv := dv.below hh
  replace hb := bend hb hh
  have xa0 := XA.c0
  have xa1 := XA.c1
  have xa2 := XA.c2
  have xb0 := XB.c0
  have xb1 := XB.c1
  have xb2 := XB.c2
  have xp0 := XP.c0
  have xp1 := XP.c1
  have xp2 := XP.c2
  have xq0 := XQ.c0
  have xq1 := XQ.c1
  have xq2 := XQ.c2
  have xi0 := XI.c0
  have xi1 := XI.c1
  have xi2 := XI.c2
  have xd0 := XD.c0
  have xd1 := XD.c1
  have xd2 := XD.c2
  go_upto_region 9 with (first
      | (go_at_call 19; (with_reducible refine (rsign3 y).mono ?_); rintro e w_z ⟨rfl, hh⟩
         rw [HK.out]
         try replace a := a.below hh
         try replace b := b.below hh
         try replace r1 := r1.below hh
         try replace r2 := r2.below hh
         try replace x := x.below hh
         try replace y := y.below hh
         try replace XA := XA.below hh
         try replace XB := XB.below hh
         try replace XP := XP.below hh
         try replace XQ := XQ.below hh
         try replace i := i.below hh
         try replace i1 := i1.below hh
         try replace i2 := i2.below hh
         try replace XI := XI.below hh
         try replace dv := dv.below hh
         try replace XD := XD.below hh
         replace hb := bend hb hh
         have xa0 := XA.c0
         have xa1 := XA.c1
         have xa2 := XA.c2
         have xb0 := XB.c0
         have xb1 := XB.c1
         have xb2 := XB.c2
         have xp0 := XP.c0
         have xp1 := XP.c1
         have xp2 := XP.c2
         have xq0 := XQ.c0
         have xq1 := XQ.c1
         have xq2 := XQ.c2
         have xi0 := XI.c0
         have xi1 := XI.c1
         have xi2 := XI.c2
         have xd0 := XD.c0
         have xd1 := XD.c1
         have xd2 := XD.c2))
  replace a := a.below (Below.refl _ _).drew
  replace b := b.below (Below.refl _ _).drew
  replace r1 := r1.below (Below.refl _ _).drew
  replace r2 := r2.below (Below.refl _ _).drew
  replace x := x.below (Below.refl _ _).drew
  replace y := y.below (Below.refl _ _).drew
  replace XA := XA.below (Below.refl _ _).drew
  replace XB := XB.below (Below.refl _ _).drew
  replace XP := XP.below (Below.refl _ _).drew
  replace XQ := XQ.below (Below.refl _ _).drew
  replace i := i.below (Below.refl _ _).drew
  replace i1 := i1.below (Below.refl _ _).drew
  replace i2 := i2.below (Below.refl _ _).drew
  replace XI := XI.below (Below.refl _ _).drew
  replace dv := dv.below (Below.refl _ _).drew
  replace XD := XD.below (Below.refl _ _).drew
  replace hb := hb.drew
  go_region_held3 (fun w' => w'.cell? ⟨w_dv.heap.size, 0, none⟩ = some (.bool s_dv) ∧ w'.cell? ⟨w_dv.heap.size, 1, none⟩ = some (.slice A_dv n_dv c_dv) ∧ w'.cell? ⟨w_dv.heap.size, 2, none⟩ = some (.slice B_dv m_dv d_dv) ∧ w'.cell? ⟨g_p, 0, none⟩ = some (.bool s_p) ∧ w'.cell? ⟨g_p, 1, none⟩ = some (.slice A_p n_p c_p) ∧ w'.cell? ⟨g_p, 2, none⟩ = some (.slice B_p m_p d_p) ∧ w'.cell? ⟨g_q, 0, none⟩ = some (.bool s_q) ∧ w'.cell? ⟨g_q, 1, none⟩ = some (.slice A_q n_q c_q) ∧ w'.cell? ⟨g_q, 2, none⟩ = some (.slice B_q m_q d_q))
    (first | with_reducible exact ⟨XD.c0, XD.c1, XD.c2, XP.c0, XP.c1, XP.c2, XQ.c0, XQ.c1, XQ.c2⟩)
    (first
    | (go_at_call 21; (with_reducible refine (rdiv3 x y (by decide) (by decide) HZ.out).mono ?_); rintro e w_q1 ⟨s_q1, A_q1, n_q1, c_q1, B_q1, m_q1, d_q1, rfl, q1, hh⟩
       try replace a := a.below hh
       try replace b := b.below hh
       try replace r1 := r1.below hh
       try replace r2 := r2.below hh
       try replace x := x.below hh
       try replace y := y.below hh
       try replace XA := XA.below hh
       try replace XB := XB.below hh
       try replace XP := XP.below hh
       try replace XQ := XQ.below hh
       try replace i := i.below hh
       try replace i1 := i1.below hh
       try replace i2 := i2.below hh
       try replace XI := XI.below hh
       try replace dv := dv.below hh
       try replace XD := XD.below hh
       replace hb := bend hb hh)
    | (go_at_call 20; (with_reducible refine (same3 dv q1 rfl (by decide) (by decide)).mono ?_); rintro e w_z ⟨rfl, hh⟩
       try replace a := a.below hh
       try replace b := b.below hh
       try replace r1 := r1.below hh
       try replace r2 := r2.below hh
       try replace x := x.below hh
       try replace y := y.below hh
       try replace XA := XA.below hh
       try replace XB := XB.below hh
       try replace XP := XP.below hh
       try replace XQ := XQ.below hh
       try replace i := i.below hh
       try replace i1 := i1.below hh
       try replace i2 := i2.below hh
       try replace XI := XI.below hh
       try replace dv := dv.below hh
       try replace XD := XD.below hh
       try replace q1 := q1.below hh
       replace hb := bend hb hh))
  try clear q1 dv
  go_upto_region 11 with (fail)
  clear a
  replace b := b.below (Below.refl _ _).drew
  replace r1 := r1.below (Below.refl _ _).drew
  replace r2 := r2.below (Below.refl _ _).drew
  replace x := x.below (Below.refl _ _).drew
  replace y := y.below (Below.refl _ _).drew
  replace XA := XA.below (Below.refl _ _).drew
  replace XB := XB.below (Below.refl _ _).drew
  replace XP := XP.below (Below.refl _ _).drew
  replace XQ := XQ.below (Below.refl _ _).drew
  replace i := i.below (Below.refl _ _).drew
  replace i1 := i1.below (Below.refl _ _).drew
  replace i2 := i2.below (Below.refl _ _).drew
  replace XI := XI.below (Below.refl _ _).drew
  replace hb := hb.drew
  dsimp only [List.append]
  go_region_held3 (fun w' => w'.cell? ⟨w.heap.size, 0, none⟩ = some (.bool s) ∧ w'.cell? ⟨w.heap.size, 1, none⟩ = some (.slice A n c) ∧ w'.cell? ⟨w.heap.size, 2, none⟩ = some (.slice A' n' c') ∧ w'.cell? ⟨w.heap.size + 1, 0, none⟩ = some (.bool t) ∧ w'.cell? ⟨w.heap.size + 1, 1, none⟩ = some (.slice B m d) ∧ w'.cell? ⟨w.heap.size + 1, 2, none⟩ = some (.slice B' m' d') ∧ w'.cell? ⟨g_p, 0, none⟩ = some (.bool s_p) ∧ w'.cell? ⟨g_p, 1, none⟩ = some (.slice A_p n_p c_p) ∧ w'.cell? ⟨g_p, 2, none⟩ = some (.slice B_p m_p d_p) ∧ w'.cell? ⟨g_q, 0, none⟩ = some (.bool s_q) ∧ w'.cell? ⟨g_q, 1, none⟩ = some (.slice A_q n_q c_q) ∧ w'.cell? ⟨g_q, 2, none⟩ = some (.slice B_q m_q d_q) ∧ w'.cell? ⟨w_i.heap.size, 0, none⟩ = some (.bool s) ∧ w'.cell? ⟨w_i.heap.size, 1, none⟩ = some (.slice A_i n_i c_i) ∧ w'.cell? ⟨w_i.heap.size, 2, none⟩ = some (.slice B_i m_i d_i))
    (first | with_reducible exact ⟨XA.c0, XA.c1, XA.c2, XB.c0, XB.c1, XB.c2, XP.c0, XP.c1, XP.c2, XQ.c0, XQ.c1, XQ.c2, XI.c0, XI.c1, XI.c2⟩)
    (first
    | (go_at_call 22; (with_reducible refine (radd_q i b (by decide) (by decide) (by decide) (by decide) (by decide)).mono ?_); rintro e w_u1 ⟨s_u1, A_u1, n_u1, c_u1, B_u1, m_u1, d_u1, rfl, u1, hh⟩
       try replace b := b.below hh
       try replace r1 := r1.below hh
       try replace r2 := r2.below hh
       try replace x := x.below hh
       try replace y := y.below hh
       try replace XA := XA.below hh
       try replace XB := XB.below hh
       try replace XP := XP.below hh
       try replace XQ := XQ.below hh
       try replace i := i.below hh
       try replace i1 := i1.below hh
       try replace i2 := i2.below hh
       try replace XI := XI.below hh
       replace hb := bend hb hh)
    | (go_at_call 23; (with_reducible refine (radd3 x y (by decide) (by decide)).mono ?_); rintro e w_v1 ⟨s_v1, A_v1, n_v1, c_v1, B_v1, m_v1, d_v1, rfl, v1, hh⟩
       try replace b := b.below hh
       try replace r1 := r1.below hh
       try replace r2 := r2.below hh
       try replace x := x.below hh
       try replace y := y.below hh
       try replace XA := XA.below hh
       try replace XB := XB.below hh
       try replace XP := XP.below hh
       try replace XQ := XQ.below hh
       try replace i := i.below hh
       try replace i1 := i1.below hh
       try replace i2 := i2.below hh
       try replace XI := XI.below hh
       try replace u1 := u1.below hh
       replace hb := bend hb hh)
    | (go_at_call 20; (with_reducible refine (same3 u1 v1 rfl (by decide) (by decide)).mono ?_); rintro e w_z ⟨rfl, hh⟩
       try replace b := b.below hh
       try replace r1 := r1.below hh
       try replace r2 := r2.below hh
       try replace x := x.below hh
       try replace y := y.below hh
       try replace XA := XA.below hh
       try replace XB := XB.below hh
       try replace XP := XP.below hh
       try replace XQ := XQ.below hh
       try replace i := i.below hh
       try replace i1 := i1.below hh
       try replace i2 := i2.below hh
       try replace XI := XI.below hh
       replace hb := bend hb hh
       clear u1 v1)
    | (go_at_call 24; (with_reducible refine (rsub_q i b (by decide) (by decide) (by decide) (by decide) (by decide)).mono ?_); rintro e w_u2 ⟨s_u2, A_u2, n_u2, c_u2, B_u2, m_u2, d_u2, rfl, u2, hh⟩
       try replace b := b.below hh
       try replace r1 := r1.below hh
       try replace r2 := r2.below hh
       try replace x := x.below hh
       try replace y := y.below hh
       try replace XA := XA.below hh
       try replace XB := XB.below hh
       try replace XP := XP.below hh
       try replace XQ := XQ.below hh
       try replace i := i.below hh
       try replace i1 := i1.below hh
       try replace i2 := i2.below hh
       try replace XI := XI.below hh
       replace hb := bend hb hh)
    | (go_at_call 25; (with_reducible refine (rsub3 x y (by decide) (by decide)).mono ?_); rintro e w_v2 ⟨s_v2, A_v2, n_v2, c_v2, B_v2, m_v2, d_v2, rfl, v2, hh⟩
       try replace b := b.below hh
       try replace r1 := r1.below hh
       try replace r2 := r2.below hh
       try replace x := x.below hh
       try replace y := y.below hh
       try replace XA := XA.below hh
       try replace XB := XB.below hh
       try replace XP := XP.below hh
       try replace XQ := XQ.below hh
       try replace i := i.below hh
       try replace i1 := i1.below hh
       try replace i2 := i2.below hh
       try replace XI := XI.below hh
       try replace u2 := u2.below hh
       replace hb := bend hb hh)
    | (go_at_call 20; (with_reducible refine (same3 u2 v2 rfl (by decide) (by decide)).mono ?_); rintro e w_z ⟨rfl, hh⟩
       try replace b := b.below hh
       try replace r1 := r1.below hh
       try replace r2 := r2.below hh
       try replace x := x.below hh
       try replace y := y.below hh
       try replace XA := XA.below hh
       try replace XB := XB.below hh
       try replace XP := XP.below hh
       try replace XQ := XQ.below hh
       try replace i := i.below hh
       try replace i1 := i1.below hh
       try replace i2 := i2.below hh
       try replace XI := XI.below hh
       replace hb := bend hb hh
       clear u2 v2)
    | (go_at_call 26; (with_reducible refine (rmul_q i b (by decide) (by decide) (by decide) (by decide) (by decide)).mono ?_); rintro e w_u3 ⟨s_u3, A_u3, n_u3, c_u3, B_u3, m_u3, d_u3, rfl, u3, hh⟩
       try replace b := b.below hh
       try replace r1 := r1.below hh
       try replace r2 := r2.below hh
       try replace x := x.below hh
       try replace y := y.below hh
       try replace XA := XA.below hh
       try replace XB := XB.below hh
       try replace XP := XP.below hh
       try replace XQ := XQ.below hh
       try replace i := i.below hh
       try replace i1 := i1.below hh
       try replace i2 := i2.below hh
       try replace XI := XI.below hh
       replace hb := bend hb hh)
    | (go_at_call 27; (with_reducible refine (rmul3 x y (by decide) (by decide)).mono ?_); rintro e w_v3 ⟨s_v3, A_v3, n_v3, c_v3, B_v3, m_v3, d_v3, rfl, v3, hh⟩
       try replace b := b.below hh
       try replace r1 := r1.below hh
       try replace r2 := r2.below hh
       try replace x := x.below hh
       try replace y := y.below hh
       try replace XA := XA.below hh
       try replace XB := XB.below hh
       try replace XP := XP.below hh
       try replace XQ := XQ.below hh
       try replace i := i.below hh
       try replace i1 := i1.below hh
       try replace i2 := i2.below hh
       try replace XI := XI.below hh
       try replace u3 := u3.below hh
       replace hb := bend hb hh)
    | (go_at_call 20; (with_reducible refine (same3 u3 v3 rfl (by decide) (by decide)).mono ?_); rintro e w_z ⟨rfl, hh⟩
       try replace b := b.below hh
       try replace r1 := r1.below hh
       try replace r2 := r2.below hh
       try replace x := x.below hh
       try replace y := y.below hh
       try replace XA := XA.below hh
       try replace XB := XB.below hh
       try replace XP := XP.below hh
       try replace XQ := XQ.below hh
       try replace i := i.below hh
       try replace i1 := i1.below hh
       try replace i2 := i2.below hh
       try replace XI := XI.below hh
       replace hb := bend hb hh
       clear u3 v3)
    | (go_at_call 28; (with_reducible refine (rcmp_q i b (by decide) (by decide) (by decide) (by decide) (by decide)).mono ?_); rintro e w_z ⟨rfl, hh⟩
       rw [HM.out]
       try replace b := b.below hh
       try replace r1 := r1.below hh
       try replace r2 := r2.below hh
       try replace x := x.below hh
       try replace y := y.below hh
       try replace XA := XA.below hh
       try replace XB := XB.below hh
       try replace XP := XP.below hh
       try replace XQ := XQ.below hh
       try replace i := i.below hh
       try replace i1 := i1.below hh
       try replace i2 := i2.below hh
       try replace XI := XI.below hh
       replace hb := bend hb hh)
    | (go_at_call 29; (with_reducible refine (rcmp3 x y (by decide) (by decide)).mono ?_); rintro e w_z ⟨rfl, hh⟩
       rw [HM.out]; clear b y
       try replace r1 := r1.below hh
       try replace r2 := r2.below hh
       try replace x := x.below hh
       try replace XA := XA.below hh
       try replace XB := XB.below hh
       try replace XP := XP.below hh
       try replace XQ := XQ.below hh
       try replace i := i.below hh
       try replace i1 := i1.below hh
       try replace i2 := i2.below hh
       try replace XI := XI.below hh
       replace hb := bend hb hh)
    | (go_at_call 30; (with_reducible refine (rsign_q i (by decide) (by decide)).mono ?_); rintro e w_z ⟨rfl, hh⟩
       rw [HP.out]
       try replace r1 := r1.below hh
       try replace r2 := r2.below hh
       try replace x := x.below hh
       try replace XA := XA.below hh
       try replace XB := XB.below hh
       try replace XP := XP.below hh
       try replace XQ := XQ.below hh
       try replace i := i.below hh
       try replace i1 := i1.below hh
       try replace i2 := i2.below hh
       try replace XI := XI.below hh
       replace hb := bend hb hh)
    | (go_at_call 19; (with_reducible refine (rsign3 x).mono ?_); rintro e w_z ⟨rfl, hh⟩
       rw [HP.out]
       try replace r1 := r1.below hh
       try replace r2 := r2.below hh
       try replace x := x.below hh
       try replace XA := XA.below hh
       try replace XB := XB.below hh
       try replace XP := XP.below hh
       try replace XQ := XQ.below hh
       try replace i := i.below hh
       try replace i1 := i1.below hh
       try replace i2 := i2.below hh
       try replace XI := XI.below hh
       replace hb := bend hb hh)
    | (go_at_call 31; (with_reducible refine (rneg_q i (by decide) (by decide)).mono ?_); rintro e w_u4 ⟨s_u4, A_u4, n_u4, c_u4, B_u4, m_u4, d_u4, rfl, u4, hh⟩
       try replace r1 := r1.below hh
       try replace r2 := r2.below hh
       try replace x := x.below hh
       try replace XA := XA.below hh
       try replace XB := XB.below hh
       try replace XP := XP.below hh
       try replace XQ := XQ.below hh
       try replace i := i.below hh
       try replace i1 := i1.below hh
       try replace i2 := i2.below hh
       try replace XI := XI.below hh
       replace hb := bend hb hh)
    | (go_at_call 32; (with_reducible refine (rminus3 x).mono ?_); rintro e w_v4 ⟨s_v4, A_v4, n_v4, c_v4, B_v4, m_v4, d_v4, rfl, v4, hh⟩
       try replace r1 := r1.below hh
       try replace r2 := r2.below hh
       try replace x := x.below hh
       try replace XA := XA.below hh
       try replace XB := XB.below hh
       try replace XP := XP.below hh
       try replace XQ := XQ.below hh
       try replace i := i.below hh
       try replace i1 := i1.below hh
       try replace i2 := i2.below hh
       try replace XI := XI.below hh
       try replace u4 := u4.below hh
       replace hb := bend hb hh)
    | (go_at_call 20; (with_reducible refine (same3 u4 v4 rfl (by decide) (by decide)).mono ?_); rintro e w_z ⟨rfl, hh⟩
       try replace r1 := r1.below hh
       try replace r2 := r2.below hh
       try replace x := x.below hh
       try replace XA := XA.below hh
       try replace XB := XB.below hh
       try replace XP := XP.below hh
       try replace XQ := XQ.below hh
       try replace i := i.below hh
       try replace i1 := i1.below hh
       try replace i2 := i2.below hh
       try replace XI := XI.below hh
       replace hb := bend hb hh
       clear u4 v4)
    | (go_at_call 33; (with_reducible refine (rabs_q i (by decide) (by decide)).mono ?_); rintro e w_u5 ⟨s_u5, A_u5, n_u5, c_u5, B_u5, m_u5, d_u5, rfl, u5, hh⟩
       try replace r1 := r1.below hh
       try replace r2 := r2.below hh
       try replace x := x.below hh
       try replace XA := XA.below hh
       try replace XB := XB.below hh
       try replace XP := XP.below hh
       try replace XQ := XQ.below hh
       try replace i := i.below hh
       try replace i1 := i1.below hh
       try replace i2 := i2.below hh
       try replace XI := XI.below hh
       replace hb := bend hb hh)
    | (go_at_call 34; (with_reducible refine (rabs3 x).mono ?_); rintro e w_v5 ⟨s_v5, A_v5, n_v5, c_v5, B_v5, m_v5, d_v5, rfl, v5, hh⟩
       try replace r1 := r1.below hh
       try replace r2 := r2.below hh
       try replace x := x.below hh
       try replace XA := XA.below hh
       try replace XB := XB.below hh
       try replace XP := XP.below hh
       try replace XQ := XQ.below hh
       try replace i := i.below hh
       try replace i1 := i1.below hh
       try replace i2 := i2.below hh
       try replace XI := XI.below hh
       try replace u5 := u5.below hh
       replace hb := bend hb hh)
    | (go_at_call 20; (with_reducible refine (same3 u5 v5 rfl (by decide) (by decide)).mono ?_); rintro e w_z ⟨rfl, hh⟩
       try replace r1 := r1.below hh
       try replace r2 := r2.below hh
       try replace x := x.below hh
       try replace XA := XA.below hh
       try replace XB := XB.below hh
       try replace XP := XP.below hh
       try replace XQ := XQ.below hh
       try replace i := i.below hh
       try replace i1 := i1.below hh
       try replace i2 := i2.below hh
       try replace XI := XI.below hh
       replace hb := bend hb hh
       clear u5 v5)
    | (go_at_call 35; (with_reducible refine (good_l i1 i2 HL.out.1 HL.out.2 HIC.out.1 HIC.out.2 HIN.out.1 HIN.out.2.1 R HR.out).mono ?_); rintro e w_z ⟨rfl, hh⟩
       try replace r1 := r1.below hh
       try replace r2 := r2.below hh
       try replace x := x.below hh
       try replace XA := XA.below hh
       try replace XB := XB.below hh
       try replace XP := XP.below hh
       try replace XQ := XQ.below hh
       try replace i := i.below hh
       try replace i1 := i1.below hh
       try replace i2 := i2.below hh
       try replace XI := XI.below hh
       replace hb := bend hb hh)
    | (go_at_call 37; (with_reducible refine (rout3 x (by decide)).mono ?_); rintro e w_o ⟨A_o, n_o, c_o, B_o, m_o, d_o, rfl, o1, o2, hh⟩
       try replace r1 := r1.below hh
       try replace r2 := r2.below hh
       try replace x := x.below hh
       try replace XA := XA.below hh
       try replace XB := XB.below hh
       try replace XP := XP.below hh
       try replace XQ := XQ.below hh
       try replace i := i.below hh
       try replace i1 := i1.below hh
       try replace i2 := i2.below hh
       try replace XI := XI.below hh
       replace hb := bend hb hh)
    | (go_at_call 36; (with_reducible refine (rats_any r1 r2 o1 o2 HN.out.1 HN.out.2 R HC.out).mono ?_); rintro e w_z ⟨rfl, hh⟩
       try replace r1 := r1.below hh
       try replace r2 := r2.below hh
       try replace x := x.below hh
       try replace XA := XA.below hh
       try replace XB := XB.below hh
       try replace XP := XP.below hh
       try replace XQ := XQ.below hh
       try replace i := i.below hh
       try replace i1 := i1.below hh
       try replace i2 := i2.below hh
       try replace XI := XI.below hh
       replace hb := bend hb hh
       clear o1 o2)
    | (go_at_call 36; (with_reducible refine (rats_any i1 i2 r1 r2 HIN.out.2.2.1 HIN.out.2.2.2 true (same_eq s l l')).mono ?_); rintro e w_z ⟨rfl, hh⟩
       try replace r1 := r1.below hh
       try replace r2 := r2.below hh
       try replace x := x.below hh
       try replace XA := XA.below hh
       try replace XB := XB.below hh
       try replace XP := XP.below hh
       try replace XQ := XQ.below hh
       try replace i := i.below hh
       try replace i1 := i1.below hh
       try replace i2 := i2.below hh
       try replace XI := XI.below hh
       replace hb := bend hb hh)
    | (go_at_call 15; (with_reducible refine (qwakes_any _).mono ?_); rintro e w_z ⟨rfl, hh⟩
       try replace XA := XA.below hh
       try replace XB := XB.below hh
       try replace XP := XP.below hh
       try replace XQ := XQ.below hh
       try replace XI := XI.below hh
       replace hb := bend hb hh))
  go_wp2_with fail
  go_ret
  exact ⟨rfl, hb⟩
theorem law_reckons {w : World} (s t : Bool) (A A' B B' : Option Addr) (n c n' c' m d m' d' : Nat) (l l' k k' : List Nat) (r1 : Rd .u64 w A n l) (r2 : Rd .u64 w A' n' l') (r3 : Rd .u64 w B m k) (r4 : Rd .u64 w B' m' k') (t1 : Lim B64 l) (t2 : Lim B64 l') (t3 : Lim B64 k) (t4 : Lim B64 k') (e1 : n ≤ c) (e2 : n' ≤ c') (e3 : m ≤ d) (e4 : m' ≤ d') (hA : A = none → c = 0) (hA' : A' = none → c' = 0) :
    Calls Tryz.prog 3 #[.agg #[.bool s, .slice A n c, .slice A' n' c'], .agg #[.bool t, .slice B m d, .slice B' m' d']] w fun e w' => e = .returned (.bool true) ∧ Below w.heap.size w w' := by
  by_cases h1 : n ≤ 12 ∧ n' ≤ 12
  · by_cases h2 : m ≤ 12 ∧ m' ≤ 12
    · have b : QR w t B m d B' m' d' (mkRat (iv t (val B64 k)) (den1 (val B64 k'))) 12 := QR.of_rd r3 t3 e3 r4 t4 e4 h2.1 h2.2
      by_cases hz : mkRat (iv t (val B64 k)) (den1 (val B64 k')) = 0
      · exact reck_z r1 r2 t1 t2 e1 e2 b h1 h2 hA hA' rfl hz _ rfl
      · exact reck_n r1 r2 t1 t2 e1 e2 b h1 h2 hA hA' rfl hz _ rfl
    · exact reck_l2 h1 h2
  · exact reck_l1 h1
end Go.Proofs.YtlkjkhpjhllapaaGreat
