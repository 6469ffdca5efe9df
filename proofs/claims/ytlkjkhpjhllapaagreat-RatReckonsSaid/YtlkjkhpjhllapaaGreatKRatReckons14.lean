/- RatReckons: part 14. -/
import Derived.Test.YtlkjkhpjhllapaaGreatKRatReckons11
import Derived.Test.YtlkjkhpjhllapaaGreatKRatReckons13
namespace Go.Proofs.YtlkjkhpjhllapaaGreat
open Go Go.RowKit
def GivesKI (w : World) (s : Bool) (l : List Nat) (e : Ending) (w' : World) : Prop :=
  ∃ A n c, e = .returned (.agg #[.bool s, .slice A n c]) ∧ Rd .u64 w' A n l ∧ n ≤ c ∧ Below w.heap.size w w'
def GivesKR (w : World) (s : Bool) (l l' : List Nat) (e : Ending) (w' : World) : Prop :=
  ∃ A n c A' n' c', e = .returned (.agg #[.bool s, .slice A n c, .slice A' n' c']) ∧ Rd .u64 w' A n l ∧ n ≤ c ∧ Rd .u64 w' A' n' l' ∧ n' ≤ c' ∧ Below w.heap.size w w'
set_option maxRecDepth 100000 in
set_option maxHeartbeats 4000000 in
theorem keepInt_any {w : World} {s : Bool} {A : Option Addr} {n c : Nat} {l : List Nat} (X : Rd .u64 w A n l) (hA : A = none → c = 0) (hn : n ≤ 100000) :
    Calls Tryz.prog 101 #[.agg #[.bool s, .slice A n c]] w (GivesKI w s l) := by
  have HA := Lib.hid hA
  clear hA
  go_enter Tryz.func101, Tryz.ntmps101
  go_wp2_with fail
  generalize hW : ((w.alloc (Obj.cells #[Value.bool s, Value.slice A n c] 24)).alloc (Obj.cells #[Value.bool false, Value.slice none 0 0] 24)) = W
  have hb : Below w.heap.size w W := by subst hW; exact (((Below.refl _ _).alloc (Nat.le_refl _) _).alloc (by simp) _)
  have XA : Bx W (w.heap.size) (Value.bool s) (Value.slice A n c) := by subst hW; exact (Bx.new' _ _ _ _ rfl).alloc _
  have Z : Bx W (w.heap.size + 1) (Value.bool false) (Value.slice none 0 0) := by subst hW; exact Bx.new' _ _ _ _ (by simp)
  have hzW : W.heap.size = w.heap.size + 2 := by subst hW; simp
  clear hW
  replace X := X.below hb
  replace X := X.below (Below.refl _ _).drew
  replace XA := XA.below (Below.refl _ _).drew
  replace Z := Z.below (Below.refl _ _).drew
  replace hb := hb.drew
  go_region_held3 (fun w' => w'.cell? ⟨w.heap.size, 0, none⟩ = some (.bool s) ∧ w'.cell? ⟨w.heap.size, 1, none⟩ = some (.slice A n c))
    (first | with_reducible exact ⟨XA.c0, XA.c1⟩ | with_reducible exact ⟨(set2_cell _ _ _ _ _ _ (by omega)).trans (XA.c0), (set2_cell _ _ _ _ _ _ (by omega)).trans (XA.c1)⟩)
    (first
    | (go_at_call 102; (with_reducible refine (keepNat_any l A n c _ X HA.out (by omega)).mono ?_); rintro e w_y ⟨A_y, n_y, c_y, rfl, y1, y2, y3, hh⟩
       try replace X := X.below hh
       try replace XA := XA.below hh
       try replace Z := Z.below hh
       replace hb := bend hb hh
       have z0 := Z.c0
       have z1 := Z.c1
       have z2 := Z.f0
       have z3 := Z.f1))
  go_wp2_with fail
  have Z2 := Z.set2 (.bool s) (.slice A_y n_y c_y)
  have g0 := Z2.c0
  have g1 := Z2.c1
  refine bodyPost_ret (v := .agg #[.bool s, .slice A_y n_y c_y]) (by simp [results, Tryz.results101, go_sem, g0, g1]) rfl ?_
  exact ⟨A_y, n_y, c_y, rfl, y3.rd.only (Z.offx y3.rd) (((Only.refl _ _).setCell 0 _).setCell 1 _), y1, below_set2 hb (by omega) _ _⟩
set_option maxRecDepth 100000 in
set_option maxHeartbeats 4000000 in
theorem keepRat_any {w : World} {s : Bool} {A A' : Option Addr} {n c n' c' : Nat} {l l' : List Nat} (X : Rd .u64 w A n l) (Y : Rd .u64 w A' n' l') (hA : A = none → c = 0) (hA' : A' = none → c' = 0) (hn : n ≤ 100000) (hn' : n' ≤ 100000) :
    Calls Tryz.prog 17 #[.agg #[.bool s, .slice A n c, .slice A' n' c']] w (GivesKR w s l l') := by
  have HA := Lib.hid hA
  have HA' := Lib.hid hA'
  clear hA hA'
  go_enter Tryz.func17, Tryz.ntmps17
  go_wp2_with fail
  generalize hW : ((w.alloc (Obj.cells #[Value.bool s, Value.slice A n c, Value.slice A' n' c'] 26)).alloc (Obj.cells #[Value.bool false, Value.slice none 0 0, Value.slice none 0 0] 26)) = W
  have hb : Below w.heap.size w W := by subst hW; exact (((Below.refl _ _).alloc (Nat.le_refl _) _).alloc (by simp) _)
  have XA : B3 W (w.heap.size) (Value.bool s) (Value.slice A n c) (Value.slice A' n' c') := by subst hW; exact (B3.new' _ _ _ _ _ rfl).alloc _
  have Z : B3 W (w.heap.size + 1) (Value.bool false) (Value.slice none 0 0) (Value.slice none 0 0) := by subst hW; exact B3.new' _ _ _ _ _ (by simp)
  have hzW : W.heap.size = w.heap.size + 2 := by subst hW; simp
  clear hW
  replace X := X.below hb
  replace Y := Y.below hb
  replace X := X.below (Below.refl _ _).drew
  replace Y := Y.below (Below.refl _ _).drew
  replace XA := XA.below (Below.refl _ _).drew
  replace Z := Z.below (Below.refl _ _).drew
  replace hb := hb.drew
  go_region_held3 (fun w' => w'.cell? ⟨w.heap.size, 0, none⟩ = some (.bool s) ∧ w'.cell? ⟨w.heap.size, 1, none⟩ = some (.slice A n c) ∧ w'.cell? ⟨w.heap.size, 2, none⟩ = some (.slice A' n' c'))
    (first | with_reducible exact ⟨XA.c0, XA.c1, XA.c2⟩ | with_reducible exact ⟨(set3_cell _ _ _ _ _ _ _ (by omega)).trans (XA.c0), (set3_cell _ _ _ _ _ _ _ (by omega)).trans (XA.c1), (set3_cell _ _ _ _ _ _ _ (by omega)).trans (XA.c2)⟩)
    (first
    | (go_at_call 101; (with_reducible refine (keepInt_any X HA.out (by omega)).mono ?_); rintro e w_p ⟨A_p, n_p, c_p, rfl, p, pc, hh⟩
       try replace X := X.below hh
       try replace Y := Y.below hh
       try replace XA := XA.below hh
       try replace Z := Z.below hh
       replace hb := bend hb hh)
    | (go_at_call 102; (with_reducible refine (keepNat_any l' A' n' c' _ Y HA'.out (by omega)).mono ?_); rintro e w_y ⟨A_y, n_y, c_y, rfl, y1, y2, y3, hh⟩
       try replace X := X.below hh
       try replace Y := Y.below hh
       try replace p := p.below hh
       try replace XA := XA.below hh
       try replace Z := Z.below hh
       replace hb := bend hb hh
       have zf0 := Z.f0
       have zf1 := Z.f1
       have zf2 := Z.f2
       have z0 := Z.c0
       have z1 := Z.c1
       have z2 := Z.c2))
  go_wp2_with fail
  have Z2 := Z.set3 (.bool s) (.slice A_p n_p c_p) (.slice A_y n_y c_y)
  have g0 := Z2.c0
  have g1 := Z2.c1
  have g2 := Z2.c2
  refine bodyPost_ret (v := .agg #[.bool s, .slice A_p n_p c_p, .slice A_y n_y c_y]) (by simp [results, Tryz.results17, go_sem, g0, g1, g2]) rfl ?_
  have ho := (((Only.refl (w.heap.size + 1) w_y).setCell 0 (Value.bool s)).setCell 1 (Value.slice A_p n_p c_p)).setCell 2 (Value.slice A_y n_y c_y)
  exact ⟨A_p, n_p, c_p, A_y, n_y, c_y, rfl, p.only (Z.offx p) ho, pc, y3.rd.only (Z.offx y3.rd) ho, y1, below_set3 hb (by omega) _ _ _⟩
theorem goodZ_is {s : Bool} {la : List Nat} (L : Lim B64 la) : (s == decide (iv s (val B64 la) < 0) && decide (la = limbs B64 (iv s (val B64 la)).natAbs)) = goodZ s la := by
  rw [iv_natAbs]
  unfold goodZ goodB
  by_cases hg : la.getLast? = some 0
  · have hne : la ≠ limbs B64 (val B64 la) := by
      intro h
      have := limbs_last B64_two (val B64 la)
      rw [← h] at this
      exact this hg
    simp [hg, hne]
  · have he := limbs_val B64_two L hg
    have h1 : (la.getLast? != some 0) = true := by simpa using hg
    rw [h1, decide_eq_true he.symm, Bool.and_true, Bool.true_and]
    have hz : la.length = 0 ↔ val B64 la = 0 := by
      constructor
      · intro h; rw [List.length_eq_zero_iff.1 h]; rfl
      · intro h; rw [← he, h, limbs_zero]; rfl
    cases s
    · have : ¬ iv false (val B64 la) < 0 := by simp [iv]
      simp [this]
    · by_cases h0 : val B64 la = 0
      · have h2 := hz.2 h0
        have : ¬ iv true (val B64 la) < 0 := by simp [iv, h0]
        simp [this, h2]
      · have h2 : ¬ la.length = 0 := fun q => h0 (hz.1 q)
        have : iv true (val B64 la) < 0 := by simp [iv]; omega
        simp [this, h2]
def canon (s : Bool) (l l' : List Nat) : Bool := ((goodZ s l && goodB l') && decide (0 < l'.length)) && decide (Nat.gcd (val B64 l) (val B64 l') = 1)
theorem goodB_eq {l : List Nat} (L : Lim B64 l) : goodB l = decide (l = limbs B64 (val B64 l)) := by
  unfold goodB
  by_cases h : l.getLast? = some 0
  · rw [h]
    have : l ≠ limbs B64 (val B64 l) := fun q => by rw [q] at h; exact limbs_last B64_two _ h
    simp [this]
  · have e := limbs_val B64_two L h
    have : l = limbs B64 (val B64 l) := e.symm
    rw [decide_eq_true this]
    simpa using h
theorem good_pos {l : List Nat} (_L : Lim B64 l) (h : l = limbs B64 (val B64 l)) (h0 : 0 < l.length) : val B64 l ≠ 0 := by
  intro q
  rw [q, limbs_zero] at h
  rw [h] at h0
  exact absurd h0 (by decide)
theorem canon_eq {s : Bool} {l l' : List Nat} (L : Lim B64 l) (L' : Lim B64 l') {v : Rat} (hv : v = mkRat (iv s (val B64 l)) (den1 (val B64 l'))) :
    ((s == decide (v.num < 0) && decide (l = limbs B64 v.num.natAbs)) && decide (l' = limbs B64 v.den)) = canon s l l' := by
  rw [Bool.eq_iff_iff]
  constructor
  · intro h
    rw [Bool.and_eq_true, Bool.and_eq_true] at h
    obtain ⟨⟨h1, h2⟩, h3⟩ := h
    have h1 : s = decide (v.num < 0) := by simpa using h1
    have h2 := of_decide_eq_true h2
    have h3 := of_decide_eq_true h3
    have e1 : val B64 l = v.num.natAbs := by rw [h2, val_limbs B64_two]
    have e2 : val B64 l' = v.den := by rw [h3, val_limbs B64_two]
    unfold canon
    rw [e1, e2, decide_eq_true (show Nat.gcd v.num.natAbs v.den = 1 from v.reduced), h1, h2, goodZ_good, goodB_eq L', e2, decide_eq_true h3]
    have : 0 < l'.length := by rw [h3, limbs_pos B64_two v.den_nz]; simp
    rw [decide_eq_true this]; rfl
  · intro h
    unfold canon at h
    rw [Bool.and_eq_true, Bool.and_eq_true, Bool.and_eq_true] at h
    obtain ⟨⟨⟨h1, h2⟩, h3⟩, h4⟩ := h
    rw [goodB_eq L'] at h2
    have h2 := of_decide_eq_true h2
    have h3 := of_decide_eq_true h3
    have h4 := of_decide_eq_true h4
    have hq := good_pos L' h2 h3
    rw [den1_of hq] at hv
    have e1 : v.num = iv s (val B64 l) ∧ v.den = val B64 l' := by
      have hc : Nat.gcd (iv s (val B64 l)).natAbs (val B64 l') = 1 := by rw [iv_natAbs]; exact h4
      have := Rat.mk_eq_mkRat (iv s (val B64 l)) (val B64 l') hq hc
      rw [hv, ← this]; exact ⟨rfl, rfl⟩
    rw [← goodZ_is L] at h1
    rw [e1.1, e1.2, h1, decide_eq_true h2]; rfl
set_option maxRecDepth 100000 in
set_option maxHeartbeats 4000000 in
theorem good_l0 {w : World} {s : Bool} {A A' : Option Addr} {n c n' c' : Nat} {l l' : List Nat} (X : Rd .u64 w A n l) (Y : Rd .u64 w A' n' l') (L : Lim B64 l) (L' : Lim B64 l') (hc : n ≤ c) (hc' : n' ≤ c') (hn : n ≤ 900) (hn' : n' ≤ 900) (hg : goodZ s l = false) :
    Calls Tryz.prog 35 #[.agg #[.bool s, .slice A n c, .slice A' n' c']] w fun e w' => e = .returned (.bool false) ∧ Below w.heap.size w w' := by
  have HG := Lib.hid hg
  have x : ZR w s A n c (iv s (val B64 l)) 900 := ZR.of_rd X L hc hn
  have y : NR w A' n' c' (val B64 l') 900 := ⟨l', Y, L', rfl, hc', hn'⟩
  have HN1 : Hid (n ≤ maxLen) := by show n ≤ maxLen; unfold maxLen; omega
  have HN2 : Hid (n' ≤ maxLen) := by show n' ≤ maxLen; unfold maxLen; omega
  clear hg L L' hc hc' hn hn'
  go_enter Tryz.func35, Tryz.ntmps35
  go_wp2_with fail
  generalize hW : (w.alloc (Obj.cells #[Value.bool s, Value.slice A n c, Value.slice A' n' c'] 26)) = W
  have hb : Below w.heap.size w W := by subst hW; exact ((Below.refl _ _).alloc (Nat.le_refl _) _)
  have XA : B3 W (w.heap.size) (Value.bool s) (Value.slice A n c) (Value.slice A' n' c') := by subst hW; exact B3.new' _ _ _ _ _ rfl
  have hzW : W.heap.size = w.heap.size + 1 := by subst hW; simp
  clear hW
  replace X := X.below hb
  replace Y := Y.below hb
  replace x := x.below hb
  replace y := y.below hb
  have xa0 := XA.c0
  have xa1 := XA.c1
  have xa2 := XA.c2
  go_wp2_with (first
      | (go_at_call 119; (with_reducible refine (zgood_any _ _ A n c _ X HN1.out).mono ?_); rintro e w_z ⟨rfl, hh⟩
         rw [HG.out]
         try replace X := X.below hh
         try replace Y := Y.below hh
         try replace x := x.below hh
         try replace y := y.below hh
         try replace XA := XA.below hh
         replace hb := bend hb hh
         have xa0 := XA.c0
         have xa1 := XA.c1
         have xa2 := XA.c2))
  go_ret
  exact ⟨rfl, hb⟩
set_option maxRecDepth 100000 in
set_option maxHeartbeats 4000000 in
theorem good_l1 {w : World} {s : Bool} {A A' : Option Addr} {n c n' c' : Nat} {l l' : List Nat} (X : Rd .u64 w A n l) (Y : Rd .u64 w A' n' l') (L : Lim B64 l) (L' : Lim B64 l') (hc : n ≤ c) (hc' : n' ≤ c') (hn : n ≤ 900) (hn' : n' ≤ 900) (hg : goodZ s l = true) (hbb : goodB l' = false) :
    Calls Tryz.prog 35 #[.agg #[.bool s, .slice A n c, .slice A' n' c']] w fun e w' => e = .returned (.bool false) ∧ Below w.heap.size w w' := by
  have HG := Lib.hid hg
  have HB := Lib.hid hbb
  have x : ZR w s A n c (iv s (val B64 l)) 900 := ZR.of_rd X L hc hn
  have y : NR w A' n' c' (val B64 l') 900 := ⟨l', Y, L', rfl, hc', hn'⟩
  have HN1 : Hid (n ≤ maxLen) := by show n ≤ maxLen; unfold maxLen; omega
  have HN2 : Hid (n' ≤ maxLen) := by show n' ≤ maxLen; unfold maxLen; omega
  clear hg L L' hc hc' hn hn' hbb
  go_enter Tryz.func35, Tryz.ntmps35
  go_wp2_with fail
  generalize hW : (w.alloc (Obj.cells #[Value.bool s, Value.slice A n c, Value.slice A' n' c'] 26)) = W
  have hb : Below w.heap.size w W := by subst hW; exact ((Below.refl _ _).alloc (Nat.le_refl _) _)
  have XA : B3 W (w.heap.size) (Value.bool s) (Value.slice A n c) (Value.slice A' n' c') := by subst hW; exact B3.new' _ _ _ _ _ rfl
  have hzW : W.heap.size = w.heap.size + 1 := by subst hW; simp
  clear hW
  replace X := X.below hb
  replace Y := Y.below hb
  replace x := x.below hb
  replace y := y.below hb
  have xa0 := XA.c0
  have xa1 := XA.c1
  have xa2 := XA.c2
  go_wp2_with (first
      | (go_at_call 119; (with_reducible refine (zgood_any _ _ A n c _ X HN1.out).mono ?_); rintro e w_z ⟨rfl, hh⟩
         rw [HG.out]
         try replace X := X.below hh
         try replace Y := Y.below hh
         try replace x := x.below hh
         try replace y := y.below hh
         try replace XA := XA.below hh
         replace hb := bend hb hh
         have xa0 := XA.c0
         have xa1 := XA.c1
         have xa2 := XA.c2)
      | (go_at_call 120; (with_reducible refine (good_any _ A' n' c' _ Y HN2.out).mono ?_); rintro e w_o ⟨rfl, rfl⟩; rw [HB.out]))
  go_ret
  exact ⟨rfl, hb⟩
set_option maxRecDepth 100000 in
set_option maxHeartbeats 4000000 in
theorem good_l2 {w : World} {s : Bool} {A A' : Option Addr} {n c n' c' : Nat} {l l' : List Nat} (X : Rd .u64 w A n l) (Y : Rd .u64 w A' n' l') (L : Lim B64 l) (L' : Lim B64 l') (hc : n ≤ c) (hc' : n' ≤ c') (hn : n ≤ 900) (hn' : n' ≤ 900) (hg : goodZ s l = true) (hbb : goodB l' = true) (hpos : ¬ (0 : Int) < (n' : Int)) :
    Calls Tryz.prog 35 #[.agg #[.bool s, .slice A n c, .slice A' n' c']] w fun e w' => e = .returned (.bool false) ∧ Below w.heap.size w w' := by
  have HG := Lib.hid hg
  have HB := Lib.hid hbb
  have x : ZR w s A n c (iv s (val B64 l)) 900 := ZR.of_rd X L hc hn
  have y : NR w A' n' c' (val B64 l') 900 := ⟨l', Y, L', rfl, hc', hn'⟩
  have HN1 : Hid (n ≤ maxLen) := by show n ≤ maxLen; unfold maxLen; omega
  have HN2 : Hid (n' ≤ maxLen) := by show n' ≤ maxLen; unfold maxLen; omega
  clear hg L L' hc hc' hn hn' hbb
  go_enter Tryz.func35, Tryz.ntmps35
  go_wp2_with fail
  generalize hW : (w.alloc (Obj.cells #[Value.bool s, Value.slice A n c, Value.slice A' n' c'] 26)) = W
  have hb : Below w.heap.size w W := by subst hW; exact ((Below.refl _ _).alloc (Nat.le_refl _) _)
  have XA : B3 W (w.heap.size) (Value.bool s) (Value.slice A n c) (Value.slice A' n' c') := by subst hW; exact B3.new' _ _ _ _ _ rfl
  have hzW : W.heap.size = w.heap.size + 1 := by subst hW; simp
  clear hW
  replace X := X.below hb
  replace Y := Y.below hb
  replace x := x.below hb
  replace y := y.below hb
  have xa0 := XA.c0
  have xa1 := XA.c1
  have xa2 := XA.c2
  go_wp2_with (first
      | (go_at_call 119; (with_reducible refine (zgood_any _ _ A n c _ X HN1.out).mono ?_); rintro e w_z ⟨rfl, hh⟩
         rw [HG.out]
         try replace X := X.below hh
         try replace Y := Y.below hh
         try replace x := x.below hh
         try replace y := y.below hh
         try replace XA := XA.below hh
         replace hb := bend hb hh
         have xa0 := XA.c0
         have xa1 := XA.c1
         have xa2 := XA.c2)
      | (go_at_call 120; (with_reducible refine (good_any _ A' n' c' _ Y HN2.out).mono ?_); rintro e w_o ⟨rfl, rfl⟩; rw [HB.out]))
  go_ret
  exact ⟨rfl, hb⟩
set_option maxRecDepth 100000 in
set_option maxHeartbeats 4000000 in
theorem good_l3 {w : World} {s : Bool} {A A' : Option Addr} {n c n' c' : Nat} {l l' : List Nat} (X : Rd .u64 w A n l) (Y : Rd .u64 w A' n' l') (L : Lim B64 l) (L' : Lim B64 l') (hc : n ≤ c) (hc' : n' ≤ c') (hn : n ≤ 900) (hn' : n' ≤ 900) (hg : goodZ s l = true) (hbb : goodB l' = true) (hpos : (0 : Int) < (n' : Int)) :
    Calls Tryz.prog 35 #[.agg #[.bool s, .slice A n c, .slice A' n' c']] w fun e w' => e = .returned (.bool (decide (Nat.gcd (val B64 l) (val B64 l') = 1))) ∧ Below w.heap.size w w' := by
  have HG := Lib.hid hg
  have HB := Lib.hid hbb
  have x : ZR w s A n c (iv s (val B64 l)) 900 := ZR.of_rd X L hc hn
  have y : NR w A' n' c' (val B64 l') 900 := ⟨l', Y, L', rfl, hc', hn'⟩
  have HN1 : Hid (n ≤ maxLen) := by show n ≤ maxLen; unfold maxLen; omega
  have HN2 : Hid (n' ≤ maxLen) := by show n' ≤ maxLen; unfold maxLen; omega
  have HC : Hid (decide (Nat.gcd (iv s (val B64 l)).natAbs (val B64 l') = 1) = decide (Nat.gcd (val B64 l) (val B64 l') = 1)) := by show _ = _; rw [iv_natAbs]
  clear hg L L' hc hc' hn hn' hbb
  go_enter Tryz.func35, Tryz.ntmps35
  go_wp2_with fail
  generalize hW : (w.alloc (Obj.cells #[Value.bool s, Value.slice A n c, Value.slice A' n' c'] 26)) = W
  have hb : Below w.heap.size w W := by subst hW; exact ((Below.refl _ _).alloc (Nat.le_refl _) _)
  have XA : B3 W (w.heap.size) (Value.bool s) (Value.slice A n c) (Value.slice A' n' c') := by subst hW; exact B3.new' _ _ _ _ _ rfl
  have hzW : W.heap.size = w.heap.size + 1 := by subst hW; simp
  clear hW
  replace X := X.below hb
  replace Y := Y.below hb
  replace x := x.below hb
  replace y := y.below hb
  have xa0 := XA.c0
  have xa1 := XA.c1
  have xa2 := XA.c2
  go_wp2_with (first
      | (go_at_call 119; (with_reducible refine (zgood_any _ _ A n c _ X HN1.out).mono ?_); rintro e w_z ⟨rfl, hh⟩
         rw [HG.out]
         try replace X := X.below hh
         try replace Y := Y.below hh
         try replace x := x.below hh
         try replace y := y.below hh
         try replace XA := XA.below hh
         replace hb := bend hb hh
         have xa0 := XA.c0
         have xa1 := XA.c1
         have xa2 := XA.c2)
      | (go_at_call 120; (with_reducible refine (good_any _ A' n' c' _ Y HN2.out).mono ?_); rintro e w_o ⟨rfl, rfl⟩; rw [HB.out])
      | (go_at_call 121; (with_reducible refine (coprime_q x y (by omega)).mono ?_); rintro e w_z2 ⟨rfl, hh⟩
         rw [HC.out]
         try replace X := X.below hh
         try replace Y := Y.below hh
         try replace x := x.below hh
         try replace y := y.below hh
         try replace XA := XA.below hh
         replace hb := bend hb hh
         have xa0 := XA.c0
         have xa1 := XA.c1
         have xa2 := XA.c2))
  go_ret
  exact ⟨rfl, hb⟩
theorem good_l {w : World} {s : Bool} {A A' : Option Addr} {n c n' c' : Nat} {l l' : List Nat} (X : Rd .u64 w A n l) (Y : Rd .u64 w A' n' l') (L : Lim B64 l) (L' : Lim B64 l') (hc : n ≤ c) (hc' : n' ≤ c') (hn : n ≤ 900) (hn' : n' ≤ 900) (R : Bool) (hR : canon s l l' = R) :
    Calls Tryz.prog 35 #[.agg #[.bool s, .slice A n c, .slice A' n' c']] w fun e w' => e = .returned (.bool R) ∧ Below w.heap.size w w' := by
  have hlen := Y.1
  cases h1 : goodZ s l with
  | false =>
    obtain rfl : R = false := by rw [← hR]; unfold canon; rw [h1]; rfl
    exact good_l0 X Y L L' hc hc' hn hn' h1
  | true =>
    cases h2 : goodB l' with
    | false =>
      obtain rfl : R = false := by rw [← hR]; unfold canon; rw [h1, h2]; rfl
      exact good_l1 X Y L L' hc hc' hn hn' h1 h2
    | true =>
      by_cases h3 : (0 : Int) < (n' : Int)
      · obtain rfl : R = decide (Nat.gcd (val B64 l) (val B64 l') = 1) := by
          rw [← hR]; unfold canon; rw [h1, h2, decide_eq_true (show 0 < l'.length by omega)]; rfl
        exact good_l3 X Y L L' hc hc' hn hn' h1 h2 h3
      · obtain rfl : R = false := by
          rw [← hR]; unfold canon; rw [h1, h2, decide_eq_false (show ¬ 0 < l'.length by omega)]; rfl
        exact good_l2 X Y L L' hc hc' hn hn' h1 h2 h3
end Go.Proofs.YtlkjkhpjhllapaaGreat
namespace Go.Proofs.YtlkjkhpjhllapaaGreat
open Go Go.RowKit
theorem QR.more {w : World} {s : Bool} {A A' : Option Addr} {n c n' c' k k1 : Nat} {v : Rat} (h : QR w s A n c A' n' c' v k) (hk : k ≤ k1) : QR w s A n c A' n' c' v k1 := by
  obtain ⟨p, q, h1, h2, h3⟩ := h
  exact ⟨p, q, h1.more hk, h2.more hk, h3⟩
theorem lit_txt {V d : Nat} (h : 0 < d) (h2 : d < 10) (hV : V = d) : txt V = [UInt8.ofNat (48 + d)] := z_lit h h2 hV
theorem q_txt {v : Rat} {a b : Nat} (hn : v.num = -(a : Int)) (hd : v.den = b) (ha : 0 < a) (ha2 : a < 10) (hb : 1 < b) (hb2 : b < 10) : qtxt v = [45, UInt8.ofNat (48 + a), 47, UInt8.ofNat (48 + b)] := by
  unfold qtxt
  rw [if_neg (by omega), hn, hd]
  unfold ztxt
  rw [if_pos (by omega), show (-(a : Int)).natAbs = a by omega, lit_txt ha ha2 rfl, lit_txt (by omega) hb2 rfl]
  rfl
theorem q_a : (⟨(qtxt (Rat.divInt 6 (-4))).toArray⟩ : ByteArray) = ⟨#[45, 51, 47, 50]⟩ := by
  rw [q_txt (a := 3) (b := 2) (by decide +kernel) (by decide +kernel) (by decide) (by decide) (by decide) (by decide)]; rfl
theorem q_d : (⟨(qtxt ((Rat.divInt 6 (-4)) / (Rat.divInt 1 3))).toArray⟩ : ByteArray) = ⟨#[45, 57, 47, 50]⟩ := by
  rw [q_txt (a := 9) (b := 2) (by decide +kernel) (by decide +kernel) (by decide) (by decide) (by decide) (by decide)]; rfl
theorem q_f : (⟨(ztxt (Rat.divInt 6 (-4)).floor).toArray⟩ : ByteArray) = ⟨#[45, 50]⟩ := by
  rw [show (Rat.divInt 6 (-4)).floor = -2 by decide +kernel, ztxt, if_pos (by omega), show ((-2 : Int).natAbs) = 2 from rfl, z_lit (d := 2) (by omega) (by omega) rfl]; rfl
theorem q_s : cmpQ ((Rat.divInt 6 (-4)) + (Rat.divInt 1 3)) (mkRat (-7) 6) = 0 := cmpQ_eq (by decide +kernel)
theorem lit_dec : dec [54] = 6 := by
  have h := (txt_dec 6).1
  rw [lit_txt (d := 6) (by omega) (by omega) rfl] at h
  exact h
theorem parse_lit (w : World) : Calls Tryz.prog 38 #[.string ⟨#[45, 55, 47, 54]⟩] w (GivesQE w (mkRat (-7) 6) 1) := by
  have e1 : (⟨#[45, 55, 47, 54]⟩ : ByteArray).extract 0 2 = ⟨(ztxt (-7)).toArray⟩ := by
    rw [ztxt, if_pos (by omega), show ((-7 : Int).natAbs) = 7 from rfl, z_lit (d := 7) (by omega) (by omega) rfl]; rfl
  have e2 : (⟨#[45, 55, 47, 54]⟩ : ByteArray).extract (2 + 1) (⟨#[45, 55, 47, 54]⟩ : ByteArray).size = ⟨(txt 6).toArray⟩ := by
    rw [lit_txt (d := 6) (by omega) (by omega) rfl]; rfl
  have e3 := ztxt_num (-7)
  have e4 : txt 6 = [54] := lit_txt (by omega) (by omega) rfl
  have e5 : ztxt (-7) = [45, 55] := by rw [ztxt, if_pos (by omega), show ((-7 : Int).natAbs) = 7 from rfl, z_lit (d := 7) (by omega) (by omega) rfl]; rfl
  refine rparse_hit _ 2 1 w (by decide) (by decide +kernel) (by decide) ?_ ?_ (-7) ?_ ?_ 6 ?_ ?_ (by decide) (by decide) ?_ ?_ (by decide)
  · rw [e1]; simpa using e3.1
  · rw [e2, e4]; decide +kernel
  · rw [e1]; simpa using e3.2
  · rw [Nat.pow_one]; unfold B64; decide
  · rw [e2, e4]; exact lit_dec
  · rw [Nat.pow_one]; unfold B64; decide
  · rw [e1, e5]; decide
  · rw [e2, e4]; decide
set_option maxRecDepth 100000 in
set_option maxHeartbeats 4000000 in
theorem qwakes_any (w : World) : Calls Tryz.prog 15 #[] w fun e w' => e = .returned (.bool true) ∧ Below w.heap.size w w' := by
  have hb : Below w.heap.size w w := Below.refl _ _
  go_enter Tryz.func15, Tryz.ntmps15
  go_upto_region 2 with (first
      | (go_at_call 42; (with_reducible refine (rof_q 6 (-4) (by decide) (by decide) (by decide) (by decide) (by decide) _).mono ?_); rintro e w_a ⟨s_a, A_a, n_a, c_a, B_a, m_a, d_a, rfl, a, hh⟩
         try replace b := b.below hh
         try replace dd := dd.below hh
         try replace pp := pp.below hh
         try replace sm := sm.below hh
         try replace fl := fl.below hh
         try replace XA := XA.below hh
         try replace XB := XB.below hh
         try replace XD := XD.below hh
         try replace XP := XP.below hh
         replace hb := bend hb hh)
      | (go_at_call 42; (with_reducible refine (rof_q 1 3 (by decide) (by decide) (by decide) (by decide) (by decide) _).mono ?_); rintro e w_b ⟨s_b, A_b, n_b, c_b, B_b, m_b, d_b, rfl, b, hh⟩
         try replace a := a.below hh
         try replace dd := dd.below hh
         try replace pp := pp.below hh
         try replace sm := sm.below hh
         try replace fl := fl.below hh
         try replace XA := XA.below hh
         try replace XB := XB.below hh
         try replace XD := XD.below hh
         try replace XP := XP.below hh
         replace hb := bend hb hh))
  generalize hW : ((w_b.alloc (Obj.cells #[Value.bool s_a, Value.slice A_a n_a c_a, Value.slice B_a m_a d_a] 26)).alloc (Obj.cells #[Value.bool s_b, Value.slice A_b n_b c_b, Value.slice B_b m_b d_b] 26)) = W1
  have hh : Below w_b.heap.size w_b W1 := by subst hW; exact (((Below.refl _ _).alloc (Nat.le_refl _) _).alloc (by simp) _)
  have XA : B3 W1 (w_b.heap.size) (Value.bool s_a) (Value.slice A_a n_a c_a) (Value.slice B_a m_a d_a) := by subst hW; exact (B3.new' _ _ _ _ _ rfl).alloc _
  have XB : B3 W1 (w_b.heap.size + 1) (Value.bool s_b) (Value.slice A_b n_b c_b) (Value.slice B_b m_b d_b) := by subst hW; exact B3.new' _ _ _ _ _ (by simp)
  have hzW1 : W1.heap.size = w_b.heap.size + 2 := by subst hW; simp
  clear hW
  try replace a := a.below hh
  try replace b := b.below hh
  replace hb := bend hb hh
  have xa0 := XA.c0
  have xa1 := XA.c1
  have xa2 := XA.c2
  have xb0 := XB.c0
  have xb1 := XB.c1
  have xb2 := XB.c2
  go_upto_region 3 with (first
      | (go_at_call 18; (with_reducible refine (rdiv_q a.qr b.qr (by decide) (by decide) (by decide) (by decide) (by decide) (by decide +kernel)).mono ?_); rintro e w_dd ⟨s_dd, A_dd, n_dd, c_dd, B_dd, m_dd, d_dd, rfl, dd, hh⟩
         try replace a := a.below hh
         try replace b := b.below hh
         try replace pp := pp.below hh
         try replace sm := sm.below hh
         try replace fl := fl.below hh
         try replace XA := XA.below hh
         try replace XB := XB.below hh
         try replace XD := XD.below hh
         try replace XP := XP.below hh
         replace hb := bend hb hh))
  generalize hW : (w_dd.alloc (Obj.cells #[Value.bool s_dd, Value.slice A_dd n_dd c_dd, Value.slice B_dd m_dd d_dd] 26)) = W2
  have hh : Below w_dd.heap.size w_dd W2 := by subst hW; exact ((Below.refl _ _).alloc (Nat.le_refl _) _)
  have XD : B3 W2 (w_dd.heap.size) (Value.bool s_dd) (Value.slice A_dd n_dd c_dd) (Value.slice B_dd m_dd d_dd) := by subst hW; exact B3.new' _ _ _ _ _ rfl
  have hzW2 : W2.heap.size = w_dd.heap.size + 1 := by subst hW; simp
  clear hW
  try replace a := a.below hh
  try replace b := b.below hh
  try replace dd := dd.below hh
  try replace XA := XA.below hh
  try replace XB := XB.below hh
  replace hb := bend hb hh
  refine wk_region (by simp) rfl XA a.qr ?_
  intro V w_x hv1 hh
  simp only [putAll, Act.put, List.setIfInBounds_toArray, List.set_cons_zero, List.set_cons_succ, hv1]
  clear hv1
  replace a := a.below hh
  replace b := b.below hh
  replace dd := dd.below hh
  replace XA := XA.below hh
  replace XB := XB.below hh
  replace XD := XD.below hh
  replace hb := bend hb hh
  go_upto_region 5 with (first
      | (go_at_call 38; (with_reducible refine (parse_lit _).mono ?_); rintro e w_pp ⟨s_pp, A_pp, n_pp, c_pp, B_pp, m_pp, d_pp, rfl, pp, hh⟩
         try replace a := a.below hh
         try replace b := b.below hh
         try replace dd := dd.below hh
         try replace sm := sm.below hh
         try replace fl := fl.below hh
         try replace XA := XA.below hh
         try replace XB := XB.below hh
         try replace XD := XD.below hh
         try replace XP := XP.below hh
         replace hb := bend hb hh))
  generalize hW : (w_pp.alloc (Obj.cells #[Value.bool s_pp, Value.slice A_pp n_pp c_pp, Value.slice B_pp m_pp d_pp] 26)) = W3
  have hh : Below w_pp.heap.size w_pp W3 := by subst hW; exact ((Below.refl _ _).alloc (Nat.le_refl _) _)
  have XP : B3 W3 (w_pp.heap.size) (Value.bool s_pp) (Value.slice A_pp n_pp c_pp) (Value.slice B_pp m_pp d_pp) := by subst hW; exact B3.new' _ _ _ _ _ rfl
  have hzW3 : W3.heap.size = w_pp.heap.size + 1 := by subst hW; simp
  clear hW
  try replace a := a.below hh
  try replace b := b.below hh
  try replace dd := dd.below hh
  try replace pp := pp.below hh
  try replace XA := XA.below hh
  try replace XB := XB.below hh
  try replace XD := XD.below hh
  replace hb := bend hb hh
  replace a := a.below (Below.refl _ _).drew
  replace b := b.below (Below.refl _ _).drew
  replace dd := dd.below (Below.refl _ _).drew
  replace pp := pp.below (Below.refl _ _).drew
  replace XA := XA.below (Below.refl _ _).drew
  replace XB := XB.below (Below.refl _ _).drew
  replace XD := XD.below (Below.refl _ _).drew
  replace XP := XP.below (Below.refl _ _).drew
  have aq := a.qr
  have bq := b.qr
  have dq := dd.qr
  have pq := pp.qr
  replace hb := hb.drew
  go_region_held3 (fun w' => w'.cell? ⟨w_b.heap.size, 0, none⟩ = some (.bool s_a) ∧ w'.cell? ⟨w_b.heap.size, 1, none⟩ = some (.slice A_a n_a c_a) ∧ w'.cell? ⟨w_b.heap.size, 2, none⟩ = some (.slice B_a m_a d_a) ∧ w'.cell? ⟨w_b.heap.size + 1, 0, none⟩ = some (.bool s_b) ∧ w'.cell? ⟨w_b.heap.size + 1, 1, none⟩ = some (.slice A_b n_b c_b) ∧ w'.cell? ⟨w_b.heap.size + 1, 2, none⟩ = some (.slice B_b m_b d_b) ∧ w'.cell? ⟨w_dd.heap.size, 0, none⟩ = some (.bool s_dd) ∧ w'.cell? ⟨w_dd.heap.size, 1, none⟩ = some (.slice A_dd n_dd c_dd) ∧ w'.cell? ⟨w_dd.heap.size, 2, none⟩ = some (.slice B_dd m_dd d_dd) ∧ w'.cell? ⟨w_pp.heap.size, 0, none⟩ = some (.bool s_pp) ∧ w'.cell? ⟨w_pp.heap.size, 1, none⟩ = some (.slice A_pp n_pp c_pp) ∧ w'.cell? ⟨w_pp.heap.size, 2, none⟩ = some (.slice B_pp m_pp d_pp))
    (first | with_reducible exact ⟨XA.c0, XA.c1, XA.c2, XB.c0, XB.c1, XB.c2, XD.c0, XD.c1, XD.c2, XP.c0, XP.c1, XP.c2⟩)
    (first
    | (go_at_call 40; (with_reducible refine (rtext_q aq (by decide) (by decide)).mono ?_); rintro e w_z ⟨rfl, hh⟩
       rw [q_a]
       try replace a := a.below hh
       try replace aq := aq.below hh
       try replace bq := bq.below hh
       try replace dq := dq.below hh
       try replace pq := pq.below hh
       try replace sm := sm.below hh
       try replace fl := fl.below hh
       try replace XA := XA.below hh
       try replace XB := XB.below hh
       try replace XD := XD.below hh
       try replace XP := XP.below hh
       replace hb := bend hb hh)
    | (go_at_call 40; (with_reducible refine (rtext_q dq (by decide) (by decide)).mono ?_); rintro e w_z ⟨rfl, hh⟩
       rw [q_d]
       try replace a := a.below hh
       try replace aq := aq.below hh
       try replace bq := bq.below hh
       try replace dq := dq.below hh
       try replace pq := pq.below hh
       try replace sm := sm.below hh
       try replace fl := fl.below hh
       try replace XA := XA.below hh
       try replace XB := XB.below hh
       try replace XD := XD.below hh
       try replace XP := XP.below hh
       replace hb := bend hb hh)
    | (go_at_call 22; (with_reducible refine (radd_q aq bq (by decide) (by decide) (by decide) (by decide) (by decide)).mono ?_); rintro e w_sm ⟨s_sm, A_sm, n_sm, c_sm, B_sm, m_sm, d_sm, rfl, sm, hh⟩
       try replace a := a.below hh
       try replace aq := aq.below hh
       try replace bq := bq.below hh
       try replace dq := dq.below hh
       try replace pq := pq.below hh
       try replace fl := fl.below hh
       try replace XA := XA.below hh
       try replace XB := XB.below hh
       try replace XD := XD.below hh
       try replace XP := XP.below hh
       replace hb := bend hb hh)
    | (go_at_call 28; (with_reducible refine (rcmp_q sm.qr pq (by decide) (by decide) (by decide) (by decide) (by decide)).mono ?_); rintro e w_z ⟨rfl, hh⟩
       rw [q_s]
       try replace a := a.below hh
       try replace aq := aq.below hh
       try replace bq := bq.below hh
       try replace dq := dq.below hh
       try replace pq := pq.below hh
       try replace sm := sm.below hh
       try replace fl := fl.below hh
       try replace XA := XA.below hh
       try replace XB := XB.below hh
       try replace XD := XD.below hh
       try replace XP := XP.below hh
       replace hb := bend hb hh)
    | (go_at_call 96; (with_reducible refine (rfloor_q aq (by decide) (by decide)).mono ?_); rintro e w_fl ⟨s_fl, A_fl, n_fl, c_fl, rfl, fl, hh⟩
       try replace a := a.below hh
       try replace aq := aq.below hh
       try replace bq := bq.below hh
       try replace dq := dq.below hh
       try replace pq := pq.below hh
       try replace sm := sm.below hh
       try replace XA := XA.below hh
       try replace XB := XB.below hh
       try replace XD := XD.below hh
       try replace XP := XP.below hh
       replace hb := bend hb hh)
    | (go_at_call 95; (with_reducible refine (ztext_zr fl.zr (by decide)).mono ?_); rintro e w_z ⟨rfl, hh⟩
       rw [q_f]
       try replace a := a.below hh
       try replace aq := aq.below hh
       try replace bq := bq.below hh
       try replace dq := dq.below hh
       try replace pq := pq.below hh
       try replace sm := sm.below hh
       try replace fl := fl.below hh
       try replace XA := XA.below hh
       try replace XB := XB.below hh
       try replace XD := XD.below hh
       try replace XP := XP.below hh
       replace hb := bend hb hh)
    | (go_at_call 35; (with_reducible refine (rgood_q a (by decide)).mono ?_); rintro e w_z ⟨rfl, hh⟩
       try replace a := a.below hh
       try replace aq := aq.below hh
       try replace bq := bq.below hh
       try replace dq := dq.below hh
       try replace pq := pq.below hh
       try replace sm := sm.below hh
       try replace fl := fl.below hh
       try replace XA := XA.below hh
       try replace XB := XB.below hh
       try replace XD := XD.below hh
       try replace XP := XP.below hh
       replace hb := bend hb hh))
  go_wp2_with fail
  go_ret
  exact ⟨rfl, hb⟩
end Go.Proofs.YtlkjkhpjhllapaaGreat
namespace Go.Proofs.YtlkjkhpjhllapaaGreat
open Go Go.RowKit
set_option maxRecDepth 100000 in
set_option maxHeartbeats 4000000 in
theorem small_k {s : Bool} {A A' : Option Addr} {n c n' c' : Nat} (w : World) (L : Bool) (hL : decide (n ≤ 12 ∧ n' ≤ 12) = L) :
    Calls Tryz.prog 46 #[.agg #[.bool s, .slice A n c, .slice A' n' c'], .int .i64 12] w fun e w' => e = .returned (.bool L) ∧ Below w.heap.size w w' := by
  have HL := Lib.hid hL
  clear hL
  go_enter Tryz.func46, Tryz.ntmps46
  go_wp2_with fail
  generalize hW : (w.alloc (Obj.cells #[Value.bool s, Value.slice A n c, Value.slice A' n' c'] 26)) = W
  have hb : Below w.heap.size w W := by subst hW; exact ((Below.refl _ _).alloc (Nat.le_refl _) _)
  have XA : B3 W (w.heap.size) (Value.bool s) (Value.slice A n c) (Value.slice A' n' c') := by subst hW; exact B3.new' _ _ _ _ _ rfl
  have hzW : W.heap.size = w.heap.size + 1 := by subst hW; simp
  clear hW
  have xa0 := XA.c0
  have xa1 := XA.c1
  have xa2 := XA.c2
  go_wp2_with fail
  · have h : (n : Int) ≤ 12 := by assumption
    go_ret
    refine ⟨?_, by first | assumption | exact (Below.refl _ _).alloc (Nat.le_refl _) _⟩
    show Ending.returned (.bool (decide ((n' : Int) ≤ 12))) = _
    rw [← HL.out]
    by_cases h2 : n' ≤ 12
    · rw [decide_eq_true (show (n' : Int) ≤ 12 by omega), decide_eq_true (show n ≤ 12 ∧ n' ≤ 12 by omega)]
    · rw [decide_eq_false (show ¬ (n' : Int) ≤ 12 by omega), decide_eq_false (show ¬ (n ≤ 12 ∧ n' ≤ 12) by omega)]
  · have h : (12 : Int) < (n : Int) := by assumption
    go_ret
    refine ⟨?_, by first | assumption | exact (Below.refl _ _).alloc (Nat.le_refl _) _⟩
    show Ending.returned (.bool false) = _
    rw [← HL.out, decide_eq_false (show ¬ (n ≤ 12 ∧ n' ≤ 12) by omega)]
set_option maxRecDepth 100000 in
set_option maxHeartbeats 4000000 in
theorem qlarge_any (s : Bool) (A A' : Option Addr) (n c n' c' : Nat) (w : World) (L : Bool) (hL : decide (n ≤ 12 ∧ n' ≤ 12) = L) :
    Calls Tryz.prog 14 #[.agg #[.bool s, .slice A n c, .slice A' n' c']] w fun e w' => e = .returned (.bool (!L)) ∧ Below w.heap.size w w' := by
  have HL := Lib.hid hL
  clear hL
  go_enter Tryz.func14, Tryz.ntmps14
  go_wp2_with fail
  generalize hW : (w.alloc (Obj.cells #[Value.bool s, Value.slice A n c, Value.slice A' n' c'] 26)) = W
  have hb : Below w.heap.size w W := by subst hW; exact ((Below.refl _ _).alloc (Nat.le_refl _) _)
  have XA : B3 W (w.heap.size) (Value.bool s) (Value.slice A n c) (Value.slice A' n' c') := by subst hW; exact B3.new' _ _ _ _ _ rfl
  have hzW : W.heap.size = w.heap.size + 1 := by subst hW; simp
  clear hW
  have xa0 := XA.c0
  have xa1 := XA.c1
  have xa2 := XA.c2
  go_wp2_with (first
      | (go_at_call 46; (with_reducible refine (small_k _ L HL.out).mono ?_); rintro e w_z ⟨rfl, hh⟩
         try replace XA := XA.below hh
         replace hb := bend hb hh))
  go_ret
  exact ⟨rfl, hb⟩
theorem qlarge_no (s : Bool) (A A' : Option Addr) (n c n' c' : Nat) (w : World) (h : n ≤ 12 ∧ n' ≤ 12) :
    Calls Tryz.prog 14 #[.agg #[.bool s, .slice A n c, .slice A' n' c']] w fun e w' => e = .returned (.bool false) ∧ Below w.heap.size w w' :=
  qlarge_any s A A' n c n' c' w true (decide_eq_true h)
theorem qlarge_yes (s : Bool) (A A' : Option Addr) (n c n' c' : Nat) (w : World) (h : ¬ (n ≤ 12 ∧ n' ≤ 12)) :
    Calls Tryz.prog 14 #[.agg #[.bool s, .slice A n c, .slice A' n' c']] w fun e w' => e = .returned (.bool true) ∧ Below w.heap.size w w' :=
  qlarge_any s A A' n c n' c' w false (decide_eq_false h)
theorem QR.of_rd {w : World} {s : Bool} {A A' : Option Addr} {n c n' c' k : Nat} {l l' : List Nat} (h : Rd .u64 w A n l) (hL : Lim B64 l) (hnc : n ≤ c) (h' : Rd .u64 w A' n' l') (hL' : Lim B64 l') (hnc' : n' ≤ c') (hk : n ≤ k) (hk' : n' ≤ k) :
    QR w s A n c A' n' c' (mkRat (iv s (val B64 l)) (den1 (val B64 l'))) k := ⟨_, _, ZR.of_rd h hL hnc hk, ⟨l', h', hL', rfl, hnc', hk'⟩, rfl⟩
end Go.Proofs.YtlkjkhpjhllapaaGreat
