/- FixTurns: part 13. -/
import Derived.Deep.Cut
import Derived.Deep.CutRange
import Derived.Test.YtlkjkhpjhllapaaGreatKFixTurns6
import Derived.Test.YtlkjkhpjhllapaaGreatKFixTurns9
import Derived.Test.YtlkjkhpjhllapaaGreatKFixTurns10
import Derived.Test.YtlkjkhpjhllapaaGreatKFixTurns11
import Derived.Test.YtlkjkhpjhllapaaGreatKFixTurns12
namespace Go.Proofs.YtlkjkhpjhllapaaGreat
open Go Go.RowKit
theorem rout_v {w : World} {A : Option Addr} {n c V k : Nat} (Y : RN w A n c V k) (hk : k ≤ 200000) :
    Calls Tryz.prog 123 #[.slice A n c] w fun e w' => ∃ A n c, e = .returned (.slice A n c) ∧ Rd .u64 w' A n (limbs B64 V) ∧ Below w.heap.size w w' := by
  refine (rout_any (limbs B32 V) A n c w Y.1 (lim_limbs B32_two _) (Nat.le_trans Y.2.2 (by omega))).mono ?_
  rintro e w' ⟨A1, n1, c1, rfl, p1, p2, p3, p4⟩
  rw [join32_limbs] at p3
  exact ⟨A1, n1, c1, rfl, p3.rd, p4⟩
def GivesOut3 (w : World) (v : Rat) (e : Ending) (w' : World) : Prop :=
  ∃ A n c B m d, e = .returned (.agg #[.bool (decide (v.num < 0)), .slice A n c, .slice B m d]) ∧ Rd .u64 w' A n (limbs B64 v.num.natAbs) ∧ Rd .u64 w' B m (limbs B64 v.den) ∧ Below w.heap.size w w'
set_option maxRecDepth 100000 in
set_option maxHeartbeats 8000000 in
theorem rout3 {w : World} {s : Bool} {A A' : Option Addr} {n c n' c' k : Nat} {v : Rat} (X : RQ w s A n c A' n' c' v k) (hk : k ≤ 100000) :
    Calls Tryz.prog 37 #[.agg #[.bool s, .slice A n c, .slice A' n' c']] w (GivesOut3 w v) := by
  have hs : s = decide (v.num < 0) := X.pg.1
  have HS := Lib.hid hs
  clear hs
  go_enter Tryz.func37, Tryz.ntmps37
  go_wp2_with fail
  generalize hW : ((w.alloc (Obj.cells #[Value.bool s, Value.slice A n c, Value.slice A' n' c'] 34)).alloc (Obj.cells #[Value.bool false, Value.slice none 0 0, Value.slice none 0 0] 26)) = W
  have hb : Below w.heap.size w W := by subst hW; exact (((Below.refl _ _).alloc (Nat.le_refl _) _).alloc (by simp) _)
  have XA : B3R W (w.heap.size) (Value.bool s) (Value.slice A n c) (Value.slice A' n' c') := by subst hW; exact (B3R.new' _ _ _ _ _ rfl).alloc _
  have Z : B3 W (w.heap.size + 1) (Value.bool false) (Value.slice none 0 0) (Value.slice none 0 0) := by subst hW; exact B3.new' _ _ _ _ _ (by simp)
  have hzW : W.heap.size = w.heap.size + 2 := by subst hW; simp
  clear hW
  replace X := X.below hb
  have xa0 := XA.c0
  have xa1 := XA.c1
  have xa2 := XA.c2
  go_upto_region 2 with (first
      | (go_at_call 123; (with_reducible refine (rout_v X.qn (by omega)).mono ?_); rintro e w_q ⟨A_q, n_q, c_q, rfl, q, hh⟩
         try replace X := X.below hh
         try replace p := p.below hh
         try replace XA := XA.below hh
         try replace Z := Z.below hh
         replace hb := bend hb hh
         have xa0 := XA.c0
         have xa1 := XA.c1
         have xa2 := XA.c2))
  have hq0 : ((n_q : Int) == 0) = false := by
    have h1 := q.1
    rw [limbs_pos B64_two v.den_nz] at h1
    simp at h1 ⊢
    omega
  have zf0 := Z.f0
  have zf1 := Z.f1
  have zf2 := Z.f2
  have z0 := Z.c0
  have z1 := Z.c1
  have z2 := Z.c2
  go_wp2_with (first
      | (go_at_call 62; (with_reducible refine (out2 X.pg (by omega)).mono ?_); rintro e w_p ⟨A_p, n_p, c_p, rfl, p, hh⟩
         try replace X := X.below hh
         try replace q := q.below hh
         try replace XA := XA.below hh
         try replace Z := Z.below hh
         replace hb := bend hb hh
         have xa0 := XA.c0
         have xa1 := XA.c1
         have xa2 := XA.c2
         have zf0 := Z.f0
         have zf1 := Z.f1
         have zf2 := Z.f2
         have z0 := Z.c0
         have z1 := Z.c1
         have z2 := Z.c2))
  have Z2 := Z.set3 (.bool s) (.slice A_p n_p c_p) (.slice A_q n_q c_q)
  have g0 := Z2.c0
  have g1 := Z2.c1
  have g2 := Z2.c2
  refine bodyPost_ret (v := .agg #[.bool s, .slice A_p n_p c_p, .slice A_q n_q c_q]) (by simp [results, Tryz.results37, go_sem, g0, g1, g2]) rfl ?_
  have ho := (((Only.refl (w.heap.size + 1) w_p).setCell 0 (Value.bool s)).setCell 1 (Value.slice A_p n_p c_p)).setCell 2 (Value.slice A_q n_q c_q)
  exact ⟨A_p, n_p, c_p, A_q, n_q, c_q, by rw [← HS.out], p.only (Z.offx p) ho, q.only (Z.offx q) ho, below_set3 hb (by omega) _ _ _⟩
set_option maxRecDepth 100000 in
set_option maxHeartbeats 4000000 in
theorem rats_no {w : World} {s t : Bool} {A A' B B' : Option Addr} {n c n' c' m d m' d' : Nat} {la lb lc ld : List Nat} (p : Rd .u64 w A n la) (q : Rd .u64 w A' n' lc) (p2 : Rd .u64 w B m lb) (q2 : Rd .u64 w B' m' ld) (hn : n ≤ maxLen) (hi : (s == t && decide (la = lb)) = false) :
    Calls Tryz.prog 36 #[.agg #[.bool s, .slice A n c, .slice A' n' c'], .agg #[.bool t, .slice B m d, .slice B' m' d']] w fun e w' => e = .returned (.bool false) ∧ Below w.heap.size w w' := by
  have HI := Lib.hid hi
  clear hi
  go_enter Tryz.func36, Tryz.ntmps36
  go_wp2_with fail
  generalize hW : ((w.alloc (Obj.cells #[Value.bool s, Value.slice A n c, Value.slice A' n' c'] 26)).alloc (Obj.cells #[Value.bool t, Value.slice B m d, Value.slice B' m' d'] 26)) = W
  have hb : Below w.heap.size w W := by subst hW; exact (((Below.refl _ _).alloc (Nat.le_refl _) _).alloc (by simp) _)
  have XA : B3 W (w.heap.size) (Value.bool s) (Value.slice A n c) (Value.slice A' n' c') := by subst hW; exact (B3.new' _ _ _ _ _ rfl).alloc _
  have XB : B3 W (w.heap.size + 1) (Value.bool t) (Value.slice B m d) (Value.slice B' m' d') := by subst hW; exact B3.new' _ _ _ _ _ (by simp)
  have hzW : W.heap.size = w.heap.size + 2 := by subst hW; simp
  clear hW
  replace p := p.below hb
  replace q := q.below hb
  replace p2 := p2.below hb
  replace q2 := q2.below hb
  have xa0 := XA.c0
  have xa1 := XA.c1
  have xa2 := XA.c2
  have xb0 := XB.c0
  have xb1 := XB.c1
  have xb2 := XB.c2
  go_wp2_with (first
      | (go_at_call 60; (with_reducible refine (ints_any s t la lb A B n c m d _ p p2 hn).mono ?_); rintro e w_z ⟨rfl, hh⟩
         rw [HI.out]
         try replace p := p.below hh
         try replace q := q.below hh
         try replace p2 := p2.below hh
         try replace q2 := q2.below hh
         try replace XA := XA.below hh
         try replace XB := XB.below hh
         replace hb := bend hb hh
         have xa0 := XA.c0
         have xa1 := XA.c1
         have xa2 := XA.c2
         have xb0 := XB.c0
         have xb1 := XB.c1
         have xb2 := XB.c2))
  go_ret
  exact ⟨rfl, hb⟩
set_option maxRecDepth 100000 in
set_option maxHeartbeats 4000000 in
theorem rats_yes {w : World} {s t : Bool} {A A' B B' : Option Addr} {n c n' c' m d m' d' : Nat} {la lb lc ld : List Nat} (p : Rd .u64 w A n la) (q : Rd .u64 w A' n' lc) (p2 : Rd .u64 w B m lb) (q2 : Rd .u64 w B' m' ld) (hn : n ≤ maxLen) (hn' : n' ≤ maxLen) (hi : (s == t && decide (la = lb)) = true) :
    Calls Tryz.prog 36 #[.agg #[.bool s, .slice A n c, .slice A' n' c'], .agg #[.bool t, .slice B m d, .slice B' m' d']] w fun e w' => e = .returned (.bool (decide (lc = ld))) ∧ Below w.heap.size w w' := by
  have HI := Lib.hid hi
  clear hi
  go_enter Tryz.func36, Tryz.ntmps36
  go_wp2_with fail
  generalize hW : ((w.alloc (Obj.cells #[Value.bool s, Value.slice A n c, Value.slice A' n' c'] 26)).alloc (Obj.cells #[Value.bool t, Value.slice B m d, Value.slice B' m' d'] 26)) = W
  have hb : Below w.heap.size w W := by subst hW; exact (((Below.refl _ _).alloc (Nat.le_refl _) _).alloc (by simp) _)
  have XA : B3 W (w.heap.size) (Value.bool s) (Value.slice A n c) (Value.slice A' n' c') := by subst hW; exact (B3.new' _ _ _ _ _ rfl).alloc _
  have XB : B3 W (w.heap.size + 1) (Value.bool t) (Value.slice B m d) (Value.slice B' m' d') := by subst hW; exact B3.new' _ _ _ _ _ (by simp)
  have hzW : W.heap.size = w.heap.size + 2 := by subst hW; simp
  clear hW
  replace p := p.below hb
  replace q := q.below hb
  replace p2 := p2.below hb
  replace q2 := q2.below hb
  have xa0 := XA.c0
  have xa1 := XA.c1
  have xa2 := XA.c2
  have xb0 := XB.c0
  have xb1 := XB.c1
  have xb2 := XB.c2
  go_wp2_with (first
      | (go_at_call 60; (with_reducible refine (ints_any s t la lb A B n c m d _ p p2 hn).mono ?_); rintro e w_z ⟨rfl, hh⟩
         rw [HI.out]
         try replace p := p.below hh
         try replace q := q.below hh
         try replace p2 := p2.below hh
         try replace q2 := q2.below hh
         try replace XA := XA.below hh
         try replace XB := XB.below hh
         replace hb := bend hb hh
         have xa0 := XA.c0
         have xa1 := XA.c1
         have xa2 := XA.c2
         have xb0 := XB.c0
         have xb1 := XB.c1
         have xb2 := XB.c2)
      | (go_at_call 122; (with_reducible refine (nats_any lc ld A' B' n' c' m' d' _ q q2 hn').mono ?_); rintro e w_z ⟨rfl, jj, rfl⟩
         replace hb := below_drawn hb jj))
  go_ret
  exact ⟨rfl, hb⟩
theorem rats_any {w : World} {s t : Bool} {A A' B B' : Option Addr} {n c n' c' m d m' d' : Nat} {la lb lc ld : List Nat} (p : Rd .u64 w A n la) (q : Rd .u64 w A' n' lc) (p2 : Rd .u64 w B m lb) (q2 : Rd .u64 w B' m' ld) (hn : n ≤ maxLen) (hn' : n' ≤ maxLen) (r : Bool) (hr : ((s == t && decide (la = lb)) && decide (lc = ld)) = r) :
    Calls Tryz.prog 36 #[.agg #[.bool s, .slice A n c, .slice A' n' c'], .agg #[.bool t, .slice B m d, .slice B' m' d']] w fun e w' => e = .returned (.bool r) ∧ Below w.heap.size w w' := by
  cases h : (s == t && decide (la = lb)) with
  | false =>
    rw [h, Bool.false_and] at hr
    subst hr
    exact rats_no p q p2 q2 hn h
  | true =>
    rw [h, Bool.true_and] at hr
    subst hr
    exact rats_yes p q p2 q2 hn hn' h
theorem same_eq (a : Bool) (l m : List Nat) : ((a == a && decide (l = l)) && decide (m = m)) = true := by simp
set_option maxRecDepth 100000 in
set_option maxHeartbeats 8000000 in
theorem same3 {w : World} {s t : Bool} {A A' B B' : Option Addr} {n c n' c' m d m' d' k k2 : Nat} {v u : Rat} (X : QG w s A n c A' n' c' v k) (Y : RQ w t B m d B' m' d' u k2) (he : v = u) (hk : k ≤ 100000) (hk2 : k2 ≤ 100000) :
    Calls Tryz.prog 20 #[.agg #[.bool s, .slice A n c, .slice A' n' c'], .agg #[.bool t, .slice B m d, .slice B' m' d']] w fun e w' => e = .returned (.bool true) ∧ Below w.heap.size w w' := by
  subst he
  have hs : s = decide (v.num < 0) := X.1.1
  subst hs
  have hn : n ≤ maxLen := by have := X.1.2.2.2; unfold maxLen; omega
  have hn' : n' ≤ maxLen := by have := X.2.2.2; unfold maxLen; omega
  have xp : Rd .u64 w A n (limbs B64 v.num.natAbs) := X.1.2.1
  have xq : Rd .u64 w A' n' (limbs B64 v.den) := X.2.1
  have HN := Lib.hid hn
  have HN' := Lib.hid hn'
  clear X hn hn'
  go_enter Tryz.func20, Tryz.ntmps20
  go_wp2_with fail
  generalize hW : ((w.alloc (Obj.cells #[Value.bool (decide (v.num < 0)), Value.slice A n c, Value.slice A' n' c'] 26)).alloc (Obj.cells #[Value.bool t, Value.slice B m d, Value.slice B' m' d'] 34)) = W
  have hb : Below w.heap.size w W := by subst hW; exact (((Below.refl _ _).alloc (Nat.le_refl _) _).alloc (by simp) _)
  have XA : B3 W (w.heap.size) (Value.bool (decide (v.num < 0))) (Value.slice A n c) (Value.slice A' n' c') := by subst hW; exact (B3.new' _ _ _ _ _ rfl).alloc _
  have XB : B3R W (w.heap.size + 1) (Value.bool t) (Value.slice B m d) (Value.slice B' m' d') := by subst hW; exact B3R.new' _ _ _ _ _ (by simp)
  have hzW : W.heap.size = w.heap.size + 2 := by subst hW; simp
  clear hW
  replace xp := xp.below hb
  replace xq := xq.below hb
  replace Y := Y.below hb
  replace xp := xp.below (Below.refl _ _).drew
  replace xq := xq.below (Below.refl _ _).drew
  replace Y := Y.below (Below.refl _ _).drew
  replace XA := XA.below (Below.refl _ _).drew
  replace XB := XB.below (Below.refl _ _).drew
  replace hb := hb.drew
  go_region_held3 (fun w' => w'.cell? ⟨w.heap.size, 0, none⟩ = some (.bool (decide (v.num < 0))) ∧ w'.cell? ⟨w.heap.size, 1, none⟩ = some (.slice A n c) ∧ w'.cell? ⟨w.heap.size, 2, none⟩ = some (.slice A' n' c') ∧ w'.cell? ⟨w.heap.size + 1, 0, none⟩ = some (.bool t) ∧ w'.cell? ⟨w.heap.size + 1, 1, none⟩ = some (.slice B m d) ∧ w'.cell? ⟨w.heap.size + 1, 2, none⟩ = some (.slice B' m' d'))
    (first | with_reducible exact ⟨XA.c0, XA.c1, XA.c2, XB.c0, XB.c1, XB.c2⟩)
    (first
    | (go_at_call 37; (with_reducible refine (rout3 Y hk2).mono ?_); rintro e w_y ⟨A_p, n_p, c_p, A_q, n_q, c_q, rfl, yp, yq, hh⟩
       try replace xp := xp.below hh
       try replace xq := xq.below hh
       try replace Y := Y.below hh
       try replace XA := XA.below hh
       try replace XB := XB.below hh
       replace hb := bend hb hh)
    | (go_at_call 36; (with_reducible refine (rats_any xp xq yp yq HN.out HN'.out true (same_eq _ _ _)).mono ?_); rintro e w_z ⟨rfl, hh⟩
       try replace xp := xp.below hh
       try replace xq := xq.below hh
       try replace Y := Y.below hh
       try replace yp := yp.below hh
       try replace yq := yq.below hh
       try replace XA := XA.below hh
       try replace XB := XB.below hh
       replace hb := bend hb hh))
  go_wp2_with fail
  go_ret
  exact ⟨rfl, hb⟩
end Go.Proofs.YtlkjkhpjhllapaaGreat
namespace Go.Proofs.YtlkjkhpjhllapaaGreat
open Go Go.RowKit
theorem ZG.nil {w : World} (k : Nat) : ZG w false none 0 0 0 k := ⟨rfl, by rw [show ((0 : Int).natAbs) = 0 from rfl, limbs_zero]; exact Rd.nil, Nat.le_refl _, Nat.zero_le _⟩
theorem RG.nil {w : World} (k : Nat) : RG w false none 0 0 0 k := ⟨rfl, RN.zero w k⟩
theorem rof2_any (v : Int) (h1 : -9223372036854775808 ≤ v) (h2 : v < 9223372036854775808) (w : World) : Calls Tryz.prog 151 #[.int .i64 v] w (GivesRZ w v 2) := by
  by_cases h : v < 0
  · obtain ⟨V, rfl⟩ : ∃ V : Nat, v = -(V : Int) := ⟨v.natAbs, by omega⟩
    exact rof2_neg V (by omega) (by omega) w
  · obtain ⟨V, rfl⟩ : ∃ V : Nat, v = (V : Int) := ⟨v.natAbs, by omega⟩
    exact rof2_pos V (by omega) w
end Go.Proofs.YtlkjkhpjhllapaaGreat
namespace Go.Proofs.YtlkjkhpjhllapaaGreat
open Go Go.RowKit
theorem RG.of_f {w : World} {A : Option Addr} {n c V k : Nat} (h : RN w A n c V k) : RG w false A n c (iv false V) k := RG.of_made (neg := false) h rfl
theorem RG.of_t {w : World} {A : Option Addr} {n c V k : Nat} (h : RN w A n c V k) : RG w (decide (0 < n)) A n c (iv true V) k := RG.of_made (neg := true) h rfl
theorem fldTwo (s t : Bool) (A B : Option Addr) (n c m d : Nat) (w : World) : (Instr.field 225 (.agg #[.bool s, .slice A n c, .bool t, .slice B m d]) 0).run Tryz.prog w = .ok (.agg #[.bool s, .slice A n c]) w := by kernel_rfl
set_option maxRecDepth 100000 in
set_option maxHeartbeats 4000000 in
theorem rfloor3 {w : World} {s : Bool} {A A' : Option Addr} {n c n' c' k : Nat} {v : Rat} (X : RQ w s A n c A' n' c' v k) (hk : k ≤ 10000) (hk2 : 2 ≤ k) :
    Calls Tryz.prog 149 #[.agg #[.bool s, .slice A n c, .slice A' n' c']] w (GivesRZ w v.floor (k + 1)) := by
  have HE : Hid (v.num.fdiv (v.den : Int) = v.floor) := by
    show _ = _
    conv => rhs; rw [parts_eq v]
    exact (mk_floor v.den_nz).symm
  have H0 : Hid ((v.den : Int) ≠ 0) := by show (v.den : Int) ≠ 0; have := v.den_nz; omega
  have hfd := fldTwo
  go_enter Tryz.func149, Tryz.ntmps149
  go_wp2_with fail
  generalize hW : ((w.alloc (Obj.cells #[Value.bool s, Value.slice A n c, Value.slice A' n' c'] 34)).alloc (Obj.cells #[Value.bool false, Value.slice none 0 0] 32)) = W
  have hb : Below w.heap.size w W := by subst hW; exact (((Below.refl _ _).alloc (Nat.le_refl _) _).alloc (by simp) _)
  have XA : B3R W (w.heap.size) (Value.bool s) (Value.slice A n c) (Value.slice A' n' c') := by subst hW; exact (B3R.new' _ _ _ _ _ rfl).alloc _
  have Z : By W (w.heap.size + 1) (Value.bool false) (Value.slice none 0 0) := by subst hW; exact By.new' _ _ _ _ (by simp)
  have hzW : W.heap.size = w.heap.size + 2 := by subst hW; simp
  clear hW
  replace X := X.below hb
  replace X := X.below (Below.refl _ _).drew
  replace XA := XA.below (Below.refl _ _).drew
  replace Z := Z.below (Below.refl _ _).drew
  replace hb := hb.drew
  go_region_held3 (fun w' => w'.cell? ⟨w.heap.size, 0, none⟩ = some (.bool s) ∧ w'.cell? ⟨w.heap.size, 1, none⟩ = some (.slice A n c) ∧ w'.cell? ⟨w.heap.size, 2, none⟩ = some (.slice A' n' c'))
    (first | with_reducible exact ⟨XA.c0, XA.c1, XA.c2⟩ | with_reducible exact ⟨(set2_cell _ _ _ _ _ _ (by omega)).trans XA.c0, (set2_cell _ _ _ _ _ _ (by omega)).trans XA.c1, (set2_cell _ _ _ _ _ _ (by omega)).trans XA.c2⟩)
    (first
    | (go_at_call 106; (with_reducible refine (rden3 X).mono ?_); rintro e w_z ⟨rfl, hh⟩
       try replace X := X.below hh
       try replace q := q.below hh
       try replace r := r.below hh
       try replace XA := XA.below hh
       try replace Z := Z.below hh
       replace hb := bend hb hh)
    | (go_at_call 197; (with_reducible refine (rdm2 X.pz X.qz H0.out (by omega) (by omega) hk2).mono ?_); rintro e w_q ⟨s_q, A_q, n_q, c_q, s_r, A_r, n_r, c_r, rfl, q, r, hh⟩
       rw [HE.out] at q
       try replace X := X.below hh
       try replace XA := XA.below hh
       try replace Z := Z.below hh
       replace hb := bend hb hh
       have z0 := Z.c0
       have z1 := Z.c1
       have zf0 := Z.f0
       have zf1 := Z.f1))
  go_wp2_with fail
  have Z2 := Z.set2 (.bool s_q) (.slice A_q n_q c_q)
  have g0 := Z2.c0
  have g1 := Z2.c1
  refine bodyPost_ret (v := .agg #[.bool s_q, .slice A_q n_q c_q]) (by simp [results, Tryz.results149, go_sem, g0, g1]) rfl ?_
  exact ⟨s_q, A_q, n_q, c_q, rfl, q.set2 Z _ _, below_set2' hb (by omega) _ _⟩
set_option maxRecDepth 100000 in
set_option maxHeartbeats 8000000 in
theorem rof3 (p q : Int) (hp1 : -9223372036854775808 ≤ p) (hp2 : p < 9223372036854775808) (hq1 : -9223372036854775808 ≤ q) (hq2 : q < 9223372036854775808) (h0 : ((q : Int) == 0) = false) (w : World) :
    Calls Tryz.prog 55 #[.int .i64 p, .int .i64 q] w (GivesRQ w (Rat.divInt p q) 2) := by
  have hq0 : q ≠ 0 := by simpa using h0
  have HQ0 : Hid ((q : Int).natAbs ≠ 0) := by show (q : Int).natAbs ≠ 0; omega
  have H1 := Lib.hid hp1
  have H2 := Lib.hid hp2
  have H3 := Lib.hid hq1
  have H4 := Lib.hid hq2
  clear hq0
  clear hp1 hp2 hq1 hq2
  go_enter Tryz.func55, Tryz.ntmps55
  go_upto_region 1 with (fail)
  generalize hW : (w.alloc (Obj.cells #[Value.bool false, Value.slice none 0 0, Value.slice none 0 0] 34)) = W
  have hb : Below w.heap.size w W := by subst hW; exact ((Below.refl _ _).alloc (Nat.le_refl _) _)
  have Z : B3R W (w.heap.size) (Value.bool false) (Value.slice none 0 0) (Value.slice none 0 0) := by subst hW; exact B3R.new' _ _ _ _ _ rfl
  have hzW : W.heap.size = w.heap.size + 1 := by subst hW; simp
  clear hW
  go_upto_region 4 with (first
      | (go_at_call 151; (with_reducible refine (rof2_any p H1.out H2.out _).mono ?_); rintro e w_x ⟨s_x, A_x, n_x, c_x, rfl, x, hh⟩
         try replace y := y.below hh
         try replace r := r.below hh
         try replace XP := XP.below hh
         try replace XQ := XQ.below hh
         try replace Z := Z.below hh
         replace hb := bend hb hh)
      | (go_at_call 151; (with_reducible refine (rof2_any q H3.out H4.out _).mono ?_); rintro e w_y ⟨s_y, A_y, n_y, c_y, rfl, y, hh⟩
         try replace x := x.below hh
         try replace r := r.below hh
         try replace XP := XP.below hh
         try replace XQ := XQ.below hh
         try replace Z := Z.below hh
         replace hb := bend hb hh))
  generalize hW : ((w_y.alloc (Obj.cells #[Value.bool s_x, Value.slice A_x n_x c_x] 32)).alloc (Obj.cells #[Value.bool s_y, Value.slice A_y n_y c_y] 32)) = W2
  have hh : Below w_y.heap.size w_y W2 := by subst hW; exact (((Below.refl _ _).alloc (Nat.le_refl _) _).alloc (by simp) _)
  have XP : By W2 (w_y.heap.size) (Value.bool s_x) (Value.slice A_x n_x c_x) := by subst hW; exact (By.new' _ _ _ _ rfl).alloc _
  have XQ : By W2 (w_y.heap.size + 1) (Value.bool s_y) (Value.slice A_y n_y c_y) := by subst hW; exact By.new' _ _ _ _ (by simp)
  have hzW2 : W2.heap.size = w_y.heap.size + 2 := by subst hW; simp
  clear hW
  try replace x := x.below hh
  try replace y := y.below hh
  try replace Z := Z.below hh
  replace hb := bend hb hh
  have hsx : s_x = decide (p < 0) := x.1
  have hsy : s_y = decide (q < 0) := y.1
  have HE : Hid (mkRat (iv (s_x != s_y) p.natAbs) (q : Int).natAbs = Rat.divInt p q) := by
    show _ = _
    rw [← div_mk, hsx, hsy, iv_canon]
    first | rfl | rw [iv_canon]
  have hnx := rn_pos x.rn
  have HNX := Lib.hid hnx
  have xr := x.rn
  have yr := y.rn
  clear hsx hsy hnx x y
  cases s_x <;> cases s_y
  · have xp0 := XP.c0
    have xp1 := XP.c1
    have xq0 := XQ.c0
    have xq1 := XQ.c1
    have zf0 := Z.f0
    have zf1 := Z.f1
    have zf2 := Z.f2
    have z0 := Z.c0
    have z1 := Z.c1
    have z2 := Z.c2
    have HE2 : Hid (mkRat (iv false p.natAbs) (q : Int).natAbs = Rat.divInt p q) := HE
    go_wp2_with (first
      | (go_at_call 99; (with_reducible refine (made_rq (RG.of_f xr) yr (by decide) HQ0.out).mono ?_); rintro e w_r ⟨s_r, A_r, n_r, c_r, B_r, m_r, d_r, rfl, r, hh⟩
         rw [HE2.out] at r
         try replace Z := Z.below hh
         replace hb := bend hb hh
         have zf0 := Z.f0
         have zf1 := Z.f1
         have zf2 := Z.f2
         have z0 := Z.c0
         have z1 := Z.c1
         have z2 := Z.c2))
    have Z2 := Z.set3 (.bool s_r) (.slice A_r n_r c_r) (.slice B_r m_r d_r)
    have g0 := Z2.c0
    have g1 := Z2.c1
    have g2 := Z2.c2
    refine bodyPost_ret (v := .agg #[.bool s_r, .slice A_r n_r c_r, .slice B_r m_r d_r]) (by simp [results, Tryz.results55, go_sem, g0, g1, g2]) rfl ?_
    exact ⟨s_r, A_r, n_r, c_r, B_r, m_r, d_r, rfl, r.set3 Z _ _ _, below_set3 hb (by omega) _ _ _⟩
  · have xp0 := XP.c0
    have xp1 := XP.c1
    have xq0 := XQ.c0
    have xq1 := XQ.c1
    have zf0 := Z.f0
    have zf1 := Z.f1
    have zf2 := Z.f2
    have z0 := Z.c0
    have z1 := Z.c1
    have z2 := Z.c2
    have HE2 : Hid (mkRat (iv true p.natAbs) (q : Int).natAbs = Rat.divInt p q) := HE
    go_wp2_with (first
      | (go_at_call 99; (with_reducible refine (made_rq (RG.of_t xr) yr (by decide) HQ0.out).mono ?_); rintro e w_r ⟨s_r, A_r, n_r, c_r, B_r, m_r, d_r, rfl, r, hh⟩
         rw [HE2.out] at r
         try replace Z := Z.below hh
         replace hb := bend hb hh
         have zf0 := Z.f0
         have zf1 := Z.f1
         have zf2 := Z.f2
         have z0 := Z.c0
         have z1 := Z.c1
         have z2 := Z.c2))
    have Z2 := Z.set3 (.bool s_r) (.slice A_r n_r c_r) (.slice B_r m_r d_r)
    have g0 := Z2.c0
    have g1 := Z2.c1
    have g2 := Z2.c2
    refine bodyPost_ret (v := .agg #[.bool s_r, .slice A_r n_r c_r, .slice B_r m_r d_r]) (by simp [results, Tryz.results55, go_sem, g0, g1, g2]) rfl ?_
    exact ⟨s_r, A_r, n_r, c_r, B_r, m_r, d_r, rfl, r.set3 Z _ _ _, below_set3 hb (by omega) _ _ _⟩
  · have xp0 := XP.c0
    have xp1 := XP.c1
    have xq0 := XQ.c0
    have xq1 := XQ.c1
    have zf0 := Z.f0
    have zf1 := Z.f1
    have zf2 := Z.f2
    have z0 := Z.c0
    have z1 := Z.c1
    have z2 := Z.c2
    have HE2 : Hid (mkRat (iv true p.natAbs) (q : Int).natAbs = Rat.divInt p q) := HE
    go_wp2_with (first
      | (go_at_call 99; (with_reducible refine (made_rq (RG.of_t xr) yr (by decide) HQ0.out).mono ?_); rintro e w_r ⟨s_r, A_r, n_r, c_r, B_r, m_r, d_r, rfl, r, hh⟩
         rw [HE2.out] at r
         try replace Z := Z.below hh
         replace hb := bend hb hh
         have zf0 := Z.f0
         have zf1 := Z.f1
         have zf2 := Z.f2
         have z0 := Z.c0
         have z1 := Z.c1
         have z2 := Z.c2))
    have Z2 := Z.set3 (.bool s_r) (.slice A_r n_r c_r) (.slice B_r m_r d_r)
    have g0 := Z2.c0
    have g1 := Z2.c1
    have g2 := Z2.c2
    refine bodyPost_ret (v := .agg #[.bool s_r, .slice A_r n_r c_r, .slice B_r m_r d_r]) (by simp [results, Tryz.results55, go_sem, g0, g1, g2]) rfl ?_
    exact ⟨s_r, A_r, n_r, c_r, B_r, m_r, d_r, rfl, r.set3 Z _ _ _, below_set3 hb (by omega) _ _ _⟩
  · have xp0 := XP.c0
    have xp1 := XP.c1
    have xq0 := XQ.c0
    have xq1 := XQ.c1
    have zf0 := Z.f0
    have zf1 := Z.f1
    have zf2 := Z.f2
    have z0 := Z.c0
    have z1 := Z.c1
    have z2 := Z.c2
    have HE2 : Hid (mkRat (iv false p.natAbs) (q : Int).natAbs = Rat.divInt p q) := HE
    go_wp2_with (first
      | (go_at_call 99; (with_reducible refine (made_rq (RG.of_f xr) yr (by decide) HQ0.out).mono ?_); rintro e w_r ⟨s_r, A_r, n_r, c_r, B_r, m_r, d_r, rfl, r, hh⟩
         rw [HE2.out] at r
         try replace Z := Z.below hh
         replace hb := bend hb hh
         have zf0 := Z.f0
         have zf1 := Z.f1
         have zf2 := Z.f2
         have z0 := Z.c0
         have z1 := Z.c1
         have z2 := Z.c2))
    have Z2 := Z.set3 (.bool s_r) (.slice A_r n_r c_r) (.slice B_r m_r d_r)
    have g0 := Z2.c0
    have g1 := Z2.c1
    have g2 := Z2.c2
    refine bodyPost_ret (v := .agg #[.bool s_r, .slice A_r n_r c_r, .slice B_r m_r d_r]) (by simp [results, Tryz.results55, go_sem, g0, g1, g2]) rfl ?_
    exact ⟨s_r, A_r, n_r, c_r, B_r, m_r, d_r, rfl, r.set3 Z _ _ _, below_set3 hb (by omega) _ _ _⟩
end Go.Proofs.YtlkjkhpjhllapaaGreat
namespace Go.Proofs.YtlkjkhpjhllapaaGreat
open Go Go.RowKit
def fromQ (v u : Int) : Rat := if u < 1 then Rat.divInt 0 1 else Rat.divInt v u
def toQa (a : Rat) (u : Int) : Int := if u < 1 then 0 else toQ a u
theorem RG.sgt {w : World} {s : Bool} {A : Option Addr} {n c k : Nat} {v : Int} (h : RG w s A n c v k) : s = decide (v < 0) := h.1
theorem ints_alike {w : World} {s t : Bool} {A B : Option Addr} {n c m d k : Nat} {v : Int} (X : ZG w s A n c v k) (ht : t = decide (v < 0)) (o : Rd .u64 w B m (limbs B64 v.natAbs)) (hk : k ≤ 100000) :
    Calls Tryz.prog 60 #[.agg #[.bool s, .slice A n c], .agg #[.bool t, .slice B m d]] w fun e w' => e = .returned (.bool true) ∧ Below w.heap.size w w' := by
  have hs := X.1
  rw [← ht] at hs
  subst hs
  exact ints_true s _ A B n c m d w X.2.1 o (by have := X.2.2.2; unfold maxLen; omega)
theorem rof2_nought (w : World) : Calls Tryz.prog 151 #[.int .i64 0] w (GivesRZ w 0 2) := rof2_pos 0 (by decide) w
set_option maxRecDepth 100000 in
set_option maxHeartbeats 4000000 in
theorem rfrom5_lo (v u : Int) (hv1 : -9223372036854775808 ≤ v) (hv2 : v < 9223372036854775808) (hu1 : -9223372036854775808 ≤ u) (hu2 : u < 9223372036854775808) (hu : u < 1) (w : World) :
    Calls Tryz.prog 59 #[.int .i64 v, .int .i64 u] w (GivesRQ w (Rat.divInt 0 1) 2) := by
  have H1 := Lib.hid hv1
  have H2 := Lib.hid hv2
  have H3 := Lib.hid hu1
  have H4 := Lib.hid hu2
  clear hv1 hv2 hu1 hu2
  go_enter Tryz.func59, Tryz.ntmps59
  go_wp2_with fail
  generalize hW : (w.alloc (Obj.cells #[Value.bool false, Value.slice none 0 0, Value.slice none 0 0] 34)) = W
  have hb : Below w.heap.size w W := by subst hW; exact ((Below.refl _ _).alloc (Nat.le_refl _) _)
  have Z : B3R W (w.heap.size) (Value.bool false) (Value.slice none 0 0) (Value.slice none 0 0) := by subst hW; exact B3R.new' _ _ _ _ _ rfl
  have hzW : W.heap.size = w.heap.size + 1 := by subst hW; simp
  clear hW
  go_wp2_with (first
      | (go_at_call 55; (with_reducible refine (rof3 0 1 (by decide) (by decide) (by decide) (by decide) (by decide) _).mono ?_); rintro e w_r ⟨s_r, A_r, n_r, c_r, B_r, m_r, d_r, rfl, r, hh⟩
         try replace Z := Z.below hh
         replace hb := bend hb hh
         have zf0 := Z.f0
         have zf1 := Z.f1
         have zf2 := Z.f2
         have z0 := Z.c0
         have z1 := Z.c1
         have z2 := Z.c2))
  have Z2 := Z.set3 (.bool s_r) (.slice A_r n_r c_r) (.slice B_r m_r d_r)
  have g0 := Z2.c0
  have g1 := Z2.c1
  have g2 := Z2.c2
  refine bodyPost_ret (v := .agg #[.bool s_r, .slice A_r n_r c_r, .slice B_r m_r d_r]) (by simp [results, Tryz.results59, go_sem, g0, g1, g2]) rfl ?_
  exact ⟨s_r, A_r, n_r, c_r, B_r, m_r, d_r, rfl, r.set3 Z _ _ _, below_set3 hb (by omega) _ _ _⟩
set_option maxRecDepth 100000 in
set_option maxHeartbeats 4000000 in
theorem rfrom5_hi (v u : Int) (hv1 : -9223372036854775808 ≤ v) (hv2 : v < 9223372036854775808) (hu1 : -9223372036854775808 ≤ u) (hu2 : u < 9223372036854775808) (hu : ¬ u < 1) (w : World) :
    Calls Tryz.prog 59 #[.int .i64 v, .int .i64 u] w (GivesRQ w (Rat.divInt v u) 2) := by
  have H1 := Lib.hid hv1
  have H2 := Lib.hid hv2
  have H3 := Lib.hid hu1
  have H4 := Lib.hid hu2
  have h5 : ((u : Int) == 0) = false := by simp; omega
  have H5 := Lib.hid h5
  clear h5
  clear hv1 hv2 hu1 hu2
  go_enter Tryz.func59, Tryz.ntmps59
  go_wp2_with fail
  generalize hW : (w.alloc (Obj.cells #[Value.bool false, Value.slice none 0 0, Value.slice none 0 0] 34)) = W
  have hb : Below w.heap.size w W := by subst hW; exact ((Below.refl _ _).alloc (Nat.le_refl _) _)
  have Z : B3R W (w.heap.size) (Value.bool false) (Value.slice none 0 0) (Value.slice none 0 0) := by subst hW; exact B3R.new' _ _ _ _ _ rfl
  have hzW : W.heap.size = w.heap.size + 1 := by subst hW; simp
  clear hW
  go_wp2_with (first
      | (go_at_call 55; (with_reducible refine (rof3 v u H1.out H2.out H3.out H4.out H5.out _).mono ?_); rintro e w_r ⟨s_r, A_r, n_r, c_r, B_r, m_r, d_r, rfl, r, hh⟩
         try replace Z := Z.below hh
         replace hb := bend hb hh
         have zf0 := Z.f0
         have zf1 := Z.f1
         have zf2 := Z.f2
         have z0 := Z.c0
         have z1 := Z.c1
         have z2 := Z.c2))
  have Z2 := Z.set3 (.bool s_r) (.slice A_r n_r c_r) (.slice B_r m_r d_r)
  have g0 := Z2.c0
  have g1 := Z2.c1
  have g2 := Z2.c2
  refine bodyPost_ret (v := .agg #[.bool s_r, .slice A_r n_r c_r, .slice B_r m_r d_r]) (by simp [results, Tryz.results59, go_sem, g0, g1, g2]) rfl ?_
  exact ⟨s_r, A_r, n_r, c_r, B_r, m_r, d_r, rfl, r.set3 Z _ _ _, below_set3 hb (by omega) _ _ _⟩
theorem rfrom5 (v u : Int) (hv1 : -9223372036854775808 ≤ v) (hv2 : v < 9223372036854775808) (hu1 : -9223372036854775808 ≤ u) (hu2 : u < 9223372036854775808) (w : World) :
    Calls Tryz.prog 59 #[.int .i64 v, .int .i64 u] w (GivesRQ w (fromQ v u) 2) := by
  unfold fromQ
  split
  · exact rfrom5_lo v u hv1 hv2 hu1 hu2 ‹_› w
  · exact rfrom5_hi v u hv1 hv2 hu1 hu2 ‹_› w
set_option maxRecDepth 100000 in
set_option maxHeartbeats 4000000 in
theorem rto5_lo {w : World} {s : Bool} {A A' : Option Addr} {n c n' c' : Nat} (u : Int) (hu : u < 1) :
    Calls Tryz.prog 63 #[.agg #[.bool s, .slice A n c, .slice A' n' c'], .int .i64 u] w (GivesRZ w 0 2) := by
  go_enter Tryz.func63, Tryz.ntmps63
  go_wp2_with fail
  generalize hW : ((w.alloc (Obj.cells #[Value.bool s, Value.slice A n c, Value.slice A' n' c'] 34)).alloc (Obj.cells #[Value.bool false, Value.slice none 0 0] 32)) = W
  have hb : Below w.heap.size w W := by subst hW; exact (((Below.refl _ _).alloc (Nat.le_refl _) _).alloc (by simp) _)
  have XA : B3R W (w.heap.size) (Value.bool s) (Value.slice A n c) (Value.slice A' n' c') := by subst hW; exact (B3R.new' _ _ _ _ _ rfl).alloc _
  have Z : By W (w.heap.size + 1) (Value.bool false) (Value.slice none 0 0) := by subst hW; exact By.new' _ _ _ _ (by simp)
  have hzW : W.heap.size = w.heap.size + 2 := by subst hW; simp
  clear hW
  go_wp2_with (first
      | (go_at_call 151; (with_reducible refine (rof2_nought _).mono ?_); rintro e w_r ⟨s_r, A_r, n_r, c_r, rfl, r, hh⟩
         try replace XA := XA.below hh
         try replace Z := Z.below hh
         replace hb := bend hb hh
         have z0 := Z.c0
         have z1 := Z.c1
         have z2 := Z.f0
         have z3 := Z.f1))
  have Z2 := Z.set2 (.bool s_r) (.slice A_r n_r c_r)
  have g0 := Z2.c0
  have g1 := Z2.c1
  refine bodyPost_ret (v := .agg #[.bool s_r, .slice A_r n_r c_r]) (by simp [results, Tryz.results63, go_sem, g0, g1]) rfl ?_
  exact ⟨s_r, A_r, n_r, c_r, rfl, r.set2 Z _ _, below_set2 hb (by omega) _ _⟩
set_option maxRecDepth 100000 in
set_option maxHeartbeats 4000000 in
theorem rto5_hi {w : World} {s : Bool} {A A' : Option Addr} {n c n' c' k : Nat} {v : Rat} (X : RQ w s A n c A' n' c' v k) (hk : k ≤ 1000) (u : Int) (hu : ¬ u < 1) (hu2 : u < 9223372036854775808) :
    Calls Tryz.prog 63 #[.agg #[.bool s, .slice A n c, .slice A' n' c'], .int .i64 u] w (GivesRZ w (toQ v u) (k + 6)) := by
  have h1 : -9223372036854775808 ≤ u := by omega
  have H1 := Lib.hid h1
  have H2 := Lib.hid hu2
  clear h1 hu2
  go_enter Tryz.func63, Tryz.ntmps63
  go_upto_region 3 with (fail)
  generalize hW : ((w.alloc (Obj.cells #[Value.bool s, Value.slice A n c, Value.slice A' n' c'] 34)).alloc (Obj.cells #[Value.bool false, Value.slice none 0 0] 32)) = W
  have hb : Below w.heap.size w W := by subst hW; exact (((Below.refl _ _).alloc (Nat.le_refl _) _).alloc (by simp) _)
  have XA : B3R W (w.heap.size) (Value.bool s) (Value.slice A n c) (Value.slice A' n' c') := by subst hW; exact (B3R.new' _ _ _ _ _ rfl).alloc _
  have Z : By W (w.heap.size + 1) (Value.bool false) (Value.slice none 0 0) := by subst hW; exact By.new' _ _ _ _ (by simp)
  have hzW : W.heap.size = w.heap.size + 2 := by subst hW; simp
  clear hW
  replace X := X.below hb
  replace X := X.below (Below.refl _ _).drew
  replace XA := XA.below (Below.refl _ _).drew
  replace Z := Z.below (Below.refl _ _).drew
  replace hb := hb.drew
  go_region_held3 (fun w' => w'.cell? ⟨w.heap.size, 0, none⟩ = some (.bool s) ∧ w'.cell? ⟨w.heap.size, 1, none⟩ = some (.slice A n c) ∧ w'.cell? ⟨w.heap.size, 2, none⟩ = some (.slice A' n' c'))
    (first | with_reducible exact ⟨XA.c0, XA.c1, XA.c2⟩ | with_reducible exact ⟨(set2_cell _ _ _ _ _ _ (by omega)).trans XA.c0, (set2_cell _ _ _ _ _ _ (by omega)).trans XA.c1, (set2_cell _ _ _ _ _ _ (by omega)).trans XA.c2⟩)
    (first
    | (go_at_call 55; (with_reducible refine (rof3 u 1 H1.out H2.out (by decide) (by decide) (by decide) _).mono ?_); rintro e w_o ⟨s_o, A_o, n_o, c_o, B_o, m_o, d_o, rfl, o, hh⟩
       try replace X := X.below hh
       try replace m := m.below hh
       try replace h := h.below hh
       try replace q := q.below hh
       try replace r := r.below hh
       try replace XA := XA.below hh
       try replace Z := Z.below hh
       replace hb := bend hb hh)
    | (go_at_call 27; (with_reducible refine (rmul3 X o (by omega) (by omega)).mono ?_); rintro e w_m ⟨s_m, A_m, n_m, c_m, B_m, m_m, d_m, rfl, m, hh⟩
       try replace X := X.below hh
       try replace o := o.below hh
       try replace h := h.below hh
       try replace q := q.below hh
       try replace r := r.below hh
       try replace XA := XA.below hh
       try replace Z := Z.below hh
       replace hb := bend hb hh)
    | (go_at_call 55; (with_reducible refine (rof3 1 2 (by decide) (by decide) (by decide) (by decide) (by decide) _).mono ?_); rintro e w_h ⟨s_h, A_h, n_h, c_h, B_h, m_h, d_h, rfl, h, hh⟩
       try replace X := X.below hh
       try replace o := o.below hh
       try replace m := m.below hh
       try replace q := q.below hh
       try replace r := r.below hh
       try replace XA := XA.below hh
       try replace Z := Z.below hh
       replace hb := bend hb hh)
    | (go_at_call 23; (with_reducible refine (radd3 m h (by omega) (by omega)).mono ?_); rintro e w_q ⟨s_q, A_q, n_q, c_q, B_q, m_q, d_q, rfl, q, hh⟩
       try replace X := X.below hh
       try replace o := o.below hh
       try replace m := m.below hh
       try replace h := h.below hh
       try replace r := r.below hh
       try replace XA := XA.below hh
       try replace Z := Z.below hh
       replace hb := bend hb hh)
    | (go_at_call 149; (with_reducible refine (rfloor3 q (by omega) (by omega)).mono ?_); rintro e w_r ⟨s_r, A_r, n_r, c_r, rfl, r, hh⟩
       try replace X := X.below hh
       try replace o := o.below hh
       try replace m := m.below hh
       try replace h := h.below hh
       try replace q := q.below hh
       try replace XA := XA.below hh
       try replace Z := Z.below hh
       replace hb := bend hb hh
       have z0 := Z.c0
       have z1 := Z.c1
       have z2 := Z.f0
       have z3 := Z.f1))
  go_wp2_with fail
  have Z2 := Z.set2 (.bool s_r) (.slice A_r n_r c_r)
  have g0 := Z2.c0
  have g1 := Z2.c1
  refine bodyPost_ret (v := .agg #[.bool s_r, .slice A_r n_r c_r]) (by simp [results, Tryz.results63, go_sem, g0, g1]) rfl ?_
  exact ⟨s_r, A_r, n_r, c_r, rfl, r.set2 Z _ _, below_set2 hb (by omega) _ _⟩
theorem rto5 {w : World} {s : Bool} {A A' : Option Addr} {n c n' c' k : Nat} {v : Rat} (X : RQ w s A n c A' n' c' v k) (hk : k ≤ 1000) (u : Int) (hu2 : u < 9223372036854775808) :
    Calls Tryz.prog 63 #[.agg #[.bool s, .slice A n c, .slice A' n' c'], .int .i64 u] w (GivesRZ w (toQa v u) (k + 6)) := by
  unfold toQa
  split
  · refine (rto5_lo u ‹_›).mono ?_
    rintro e w' ⟨s1, A1, n1, c1, rfl, r, hh⟩
    exact ⟨s1, A1, n1, c1, rfl, r.more (by omega), hh⟩
  · exact rto5_hi X hk u ‹_› hu2
set_option maxRecDepth 100000 in
set_option maxHeartbeats 4000000 in
theorem rbyte5_lo {w : World} {s : Bool} {A A' : Option Addr} {n c n' c' k : Nat} {v : Rat} (X : RQ w s A n c A' n' c' v k) (hv : v ≤ 0) :
    Calls Tryz.prog 65 #[.agg #[.bool s, .slice A n c, .slice A' n' c']] w fun e w' => e = .returned (.int .u8 (0)) ∧ Below w.heap.size w w' := by
  obtain ⟨K, hK, hK0⟩ : ∃ K, sgnQ v = K ∧ K ≤ 0 := ⟨_, rfl, sgn_le.2 hv⟩
  have HK := Lib.hid hK
  clear hK
  go_enter Tryz.func65, Tryz.ntmps65
  go_wp2_with fail
  generalize hW : (w.alloc (Obj.cells #[Value.bool s, Value.slice A n c, Value.slice A' n' c'] 34)) = W
  have hb : Below w.heap.size w W := by subst hW; exact ((Below.refl _ _).alloc (Nat.le_refl _) _)
  have XA : B3R W (w.heap.size) (Value.bool s) (Value.slice A n c) (Value.slice A' n' c') := by subst hW; exact B3R.new' _ _ _ _ _ rfl
  have hzW : W.heap.size = w.heap.size + 1 := by subst hW; simp
  clear hW
  replace X := X.below hb
  have xa0 := XA.c0
  have xa1 := XA.c1
  have xa2 := XA.c2
  go_wp2_with (first
      | (go_at_call 19; (with_reducible refine (rsign3 X).mono ?_); rintro e w_z ⟨rfl, hh⟩
         rw [HK.out]
         try replace X := X.below hh
         try replace o := o.below hh
         try replace t := t.below hh
         try replace XA := XA.below hh
         try replace XT := XT.below hh
         replace hb := bend hb hh
         have xa0 := XA.c0
         have xa1 := XA.c1
         have xa2 := XA.c2))
  go_ret
  exact ⟨rfl, hb⟩
set_option maxRecDepth 100000 in
set_option maxHeartbeats 4000000 in
theorem rbyte5_hi {w : World} {s : Bool} {A A' : Option Addr} {n c n' c' k : Nat} {v : Rat} (X : RQ w s A n c A' n' c' v k) (hk : k ≤ 1000) (hv : 0 < v) (h1 : 1 ≤ v) :
    Calls Tryz.prog 65 #[.agg #[.bool s, .slice A n c, .slice A' n' c']] w fun e w' => e = .returned (.int .u8 (255)) ∧ Below w.heap.size w w' := by
  obtain ⟨K, hK, hK0⟩ : ∃ K, sgnQ v = K ∧ ¬ K ≤ 0 := ⟨_, rfl, fun q => absurd (sgn_le.1 q) (Rat.not_le.2 hv)⟩
  have HK := Lib.hid hK
  clear hK
  obtain ⟨M, hM, hM0⟩ : ∃ M, cmpQ v (Rat.divInt 1 1) = M ∧ 0 ≤ M := ⟨_, rfl, by rw [cmp_ge, one1]; exact h1⟩
  have HM := Lib.hid hM
  clear hM
  clear hv h1
  go_enter Tryz.func65, Tryz.ntmps65
  go_wp2_with fail
  generalize hW : (w.alloc (Obj.cells #[Value.bool s, Value.slice A n c, Value.slice A' n' c'] 34)) = W
  have hb : Below w.heap.size w W := by subst hW; exact ((Below.refl _ _).alloc (Nat.le_refl _) _)
  have XA : B3R W (w.heap.size) (Value.bool s) (Value.slice A n c) (Value.slice A' n' c') := by subst hW; exact B3R.new' _ _ _ _ _ rfl
  have hzW : W.heap.size = w.heap.size + 1 := by subst hW; simp
  clear hW
  replace X := X.below hb
  have xa0 := XA.c0
  have xa1 := XA.c1
  have xa2 := XA.c2
  go_upto_region 3 with (first
      | (go_at_call 19; (with_reducible refine (rsign3 X).mono ?_); rintro e w_z ⟨rfl, hh⟩
         rw [HK.out]
         try replace X := X.below hh
         try replace o := o.below hh
         try replace t := t.below hh
         try replace XA := XA.below hh
         try replace XT := XT.below hh
         replace hb := bend hb hh
         have xa0 := XA.c0
         have xa1 := XA.c1
         have xa2 := XA.c2))
  replace X := X.below (Below.refl _ _).drew
  replace XA := XA.below (Below.refl _ _).drew
  replace hb := hb.drew
  go_region_held3 (fun w' => w'.cell? ⟨w.heap.size, 0, none⟩ = some (.bool s) ∧ w'.cell? ⟨w.heap.size, 1, none⟩ = some (.slice A n c) ∧ w'.cell? ⟨w.heap.size, 2, none⟩ = some (.slice A' n' c'))
    (first | with_reducible exact ⟨XA.c0, XA.c1, XA.c2⟩)
    (first
    | (go_at_call 55; (with_reducible refine (rof3 1 1 (by decide) (by decide) (by decide) (by decide) (by decide) _).mono ?_); rintro e w_o ⟨s_o, A_o, n_o, c_o, B_o, m_o, d_o, rfl, o, hh⟩
       try replace X := X.below hh
       try replace t := t.below hh
       try replace XA := XA.below hh
       try replace XT := XT.below hh
       replace hb := bend hb hh)
    | (go_at_call 29; (with_reducible refine (rcmp3 X o (by omega) (by omega)).mono ?_); rintro e w_z ⟨rfl, hh⟩
       rw [HM.out]
       try replace X := X.below hh
       try replace o := o.below hh
       try replace t := t.below hh
       try replace XA := XA.below hh
       try replace XT := XT.below hh
       replace hb := bend hb hh))
  go_wp2_with fail
  go_ret
  exact ⟨rfl, hb⟩
set_option maxRecDepth 100000 in
set_option maxHeartbeats 4000000 in
theorem rbyte5_mid {w : World} {s : Bool} {A A' : Option Addr} {n c n' c' k : Nat} {v : Rat} (X : RQ w s A n c A' n' c' v k) (hk : k ≤ 1000) (hv : 0 < v) (h1 : ¬ 1 ≤ v) :
    Calls Tryz.prog 65 #[.agg #[.bool s, .slice A n c, .slice A' n' c']] w fun e w' => e = .returned (.int .u8 (toQ v 255)) ∧ Below w.heap.size w w' := by
  obtain ⟨K, hK, hK0⟩ : ∃ K, sgnQ v = K ∧ ¬ K ≤ 0 := ⟨_, rfl, fun q => absurd (sgn_le.1 q) (Rat.not_le.2 hv)⟩
  have HK := Lib.hid hK
  clear hK
  obtain ⟨M, hM, hM0⟩ : ∃ M, cmpQ v (Rat.divInt 1 1) = M ∧ ¬ 0 ≤ M := ⟨_, rfl, by rw [cmp_ge, one1]; exact h1⟩
  have HM := Lib.hid hM
  clear hM
  have h2 := to_mid (Rat.le_of_lt hv) (Rat.le_of_lt (Rat.not_le.1 h1))
  obtain ⟨T, hT⟩ : ∃ T : Nat, toQ v 255 = (T : Int) := ⟨(toQ v 255).toNat, by omega⟩
  have hT2 : T ≤ 255 := by omega
  have HT := Lib.hid hT
  rw [hT]
  clear hT h2
  clear hv h1
  go_enter Tryz.func65, Tryz.ntmps65
  go_wp2_with fail
  generalize hW : (w.alloc (Obj.cells #[Value.bool s, Value.slice A n c, Value.slice A' n' c'] 34)) = W
  have hb : Below w.heap.size w W := by subst hW; exact ((Below.refl _ _).alloc (Nat.le_refl _) _)
  have XA : B3R W (w.heap.size) (Value.bool s) (Value.slice A n c) (Value.slice A' n' c') := by subst hW; exact B3R.new' _ _ _ _ _ rfl
  have hzW : W.heap.size = w.heap.size + 1 := by subst hW; simp
  clear hW
  replace X := X.below hb
  have xa0 := XA.c0
  have xa1 := XA.c1
  have xa2 := XA.c2
  go_upto_region 3 with (first
      | (go_at_call 19; (with_reducible refine (rsign3 X).mono ?_); rintro e w_z ⟨rfl, hh⟩
         rw [HK.out]
         try replace X := X.below hh
         try replace o := o.below hh
         try replace t := t.below hh
         try replace XA := XA.below hh
         try replace XT := XT.below hh
         replace hb := bend hb hh
         have xa0 := XA.c0
         have xa1 := XA.c1
         have xa2 := XA.c2))
  replace X := X.below (Below.refl _ _).drew
  replace XA := XA.below (Below.refl _ _).drew
  replace hb := hb.drew
  go_region_held3 (fun w' => w'.cell? ⟨w.heap.size, 0, none⟩ = some (.bool s) ∧ w'.cell? ⟨w.heap.size, 1, none⟩ = some (.slice A n c) ∧ w'.cell? ⟨w.heap.size, 2, none⟩ = some (.slice A' n' c'))
    (first | with_reducible exact ⟨XA.c0, XA.c1, XA.c2⟩)
    (first
    | (go_at_call 55; (with_reducible refine (rof3 1 1 (by decide) (by decide) (by decide) (by decide) (by decide) _).mono ?_); rintro e w_o ⟨s_o, A_o, n_o, c_o, B_o, m_o, d_o, rfl, o, hh⟩
       try replace X := X.below hh
       try replace t := t.below hh
       try replace XA := XA.below hh
       try replace XT := XT.below hh
       replace hb := bend hb hh)
    | (go_at_call 29; (with_reducible refine (rcmp3 X o (by omega) (by omega)).mono ?_); rintro e w_z ⟨rfl, hh⟩
       rw [HM.out]
       try replace X := X.below hh
       try replace o := o.below hh
       try replace t := t.below hh
       try replace XA := XA.below hh
       try replace XT := XT.below hh
       replace hb := bend hb hh))
  try clear o
  have xa0 := XA.c0
  have xa1 := XA.c1
  have xa2 := XA.c2
  go_upto_region 6 with (first
      | (go_at_call 63; (with_reducible refine (rto5_hi X hk 255 (by decide) (by decide)).mono ?_); rintro e w_t ⟨s_t, A_t, n_t, c_t, rfl, t, hh⟩
         rw [HT.out] at t
         try replace X := X.below hh
         try replace o := o.below hh
         try replace XA := XA.below hh
         try replace XT := XT.below hh
         replace hb := bend hb hh
         have xa0 := XA.c0
         have xa1 := XA.c1
         have xa2 := XA.c2))
  generalize hW : (w_t.alloc (Obj.cells #[Value.bool s_t, Value.slice A_t n_t c_t] 32)) = W2
  have hh : Below w_t.heap.size w_t W2 := by subst hW; exact ((Below.refl _ _).alloc (Nat.le_refl _) _)
  have XT : By W2 (w_t.heap.size) (Value.bool s_t) (Value.slice A_t n_t c_t) := by subst hW; exact By.new' _ _ _ _ rfl
  have hzW2 : W2.heap.size = w_t.heap.size + 1 := by subst hW; simp
  clear hW
  try replace t := t.below hh
  replace hb := bend hb hh
  have xt0 := XT.c0
  have xt1 := XT.c1
  by_cases h0 : T = 0
  · have HS : Hid (sgn ((T : Nat) : Int) = 0) := by show _ = _; rw [h0]; rfl
    subst h0
    go_wp2_with (first
      | (go_at_call 104; (with_reducible refine (rsign2 t.rz).mono ?_); rintro e w_z ⟨rfl, hh⟩
         rw [HS.out]
         try replace X := X.below hh
         try replace o := o.below hh
         try replace t := t.below hh
         try replace XA := XA.below hh
         try replace XT := XT.below hh
         replace hb := bend hb hh
         have xt0 := XT.c0
         have xt1 := XT.c1))
    go_ret
    exact ⟨rfl, hb⟩
  · have HS : Hid (sgn ((T : Nat) : Int) = 1) := by
      show _ = _
      unfold sgn
      rw [if_neg (by omega), if_neg (by omega)]
    go_upto_region 8 with (first
      | (go_at_call 104; (with_reducible refine (rsign2 t.rz).mono ?_); rintro e w_z ⟨rfl, hh⟩
         rw [HS.out]
         try replace X := X.below hh
         try replace o := o.below hh
         try replace t := t.below hh
         try replace XA := XA.below hh
         try replace XT := XT.below hh
         replace hb := bend hb hh
         have xt0 := XT.c0
         have xt1 := XT.c1))
    have hrn : RN w_z A_t n_t c_t T (k + 6) := t.rn
    have hl : limbs B32 T = [T] := limbs_small B32_two (by unfold B32; omega) h0
    have hrd := hrn.1
    rw [hl] at hrd
    have hn1 : n_t = 1 := hrd.1.symm
    subst hn1
    obtain ⟨b, of, rfl, hc⟩ := hrd.at_ (by decide)
    obtain ⟨x, hx, hcx⟩ := hc 0 (by decide)
    obtain rfl : T = x := by simpa using hx
    rw [Nat.add_zero] at hcx
    clear hc hx hrd hl hrn t
    go_wp2_with fail
    go_ret
    exact ⟨rfl, hb⟩
theorem rbyte5 {w : World} {s : Bool} {A A' : Option Addr} {n c n' c' k : Nat} {v : Rat} (X : RQ w s A n c A' n' c' v k) (hk : k ≤ 1000) :
    Calls Tryz.prog 65 #[.agg #[.bool s, .slice A n c, .slice A' n' c']] w fun e w' => e = .returned (.int .u8 (byteQ v)) ∧ Below w.heap.size w w' := by
  unfold byteQ
  split
  · exact rbyte5_lo X ‹_›
  · have h0 : 0 < v := Rat.not_le.1 ‹_›
    split
    · exact rbyte5_hi X hk h0 ‹_›
    · exact rbyte5_mid X hk h0 ‹_›
end Go.Proofs.YtlkjkhpjhllapaaGreat
namespace Go.Proofs.YtlkjkhpjhllapaaGreat
open Go Go.RowKit
set_option maxRecDepth 100000 in
set_option maxHeartbeats 4000000 in
theorem small_k {s : Bool} {A A' : Option Addr} {n c n' c' : Nat} (w : World) (L : Bool) (hL : decide (n ≤ 12 ∧ n' ≤ 12) = L) :
    Calls Tryz.prog 46 #[.agg #[.bool s, .slice A n c, .slice A' n' c'], .int .i64 12] w fun e w' => e = .returned (.bool L) ∧ Below w.heap.size w w' := by
  have HL := Lib.hid hL
  clear hL
  go_enter Tryz.func46, Tryz.ntmps46
  go_wp2_with fail
  generalize hW : (w.alloc (Obj.cells #[Value.bool s, Value.slice A n c, Value.slice A' n' c'] 26)) = W
  have hb : Below w.heap.size w W := by subst hW; exact ((Below.refl _ _).alloc (Nat.le_refl _) _)
  have XA : B3 W (w.heap.size) (Value.bool s) (Value.slice A n c) (Value.slice A' n' c') := by subst hW; exact B3.new' _ _ _ _ _ rfl
  have hzW : W.heap.size = w.heap.size + 1 := by subst hW; simp
  clear hW
  have xa0 := XA.c0
  have xa1 := XA.c1
  have xa2 := XA.c2
  go_wp2_with fail
  · have h : (n : Int) ≤ 12 := by assumption
    go_ret
    refine ⟨?_, by first | assumption | exact (Below.refl _ _).alloc (Nat.le_refl _) _⟩
    show Ending.returned (.bool (decide ((n' : Int) ≤ 12))) = _
    rw [← HL.out]
    by_cases h2 : n' ≤ 12
    · rw [decide_eq_true (show (n' : Int) ≤ 12 by omega), decide_eq_true (show n ≤ 12 ∧ n' ≤ 12 by omega)]
    · rw [decide_eq_false (show ¬ (n' : Int) ≤ 12 by omega), decide_eq_false (show ¬ (n ≤ 12 ∧ n' ≤ 12) by omega)]
  · have h : (12 : Int) < (n : Int) := by assumption
    go_ret
    refine ⟨?_, by first | assumption | exact (Below.refl _ _).alloc (Nat.le_refl _) _⟩
    show Ending.returned (.bool false) = _
    rw [← HL.out, decide_eq_false (show ¬ (n ≤ 12 ∧ n' ≤ 12) by omega)]
theorem QR.of_rd {w : World} {s : Bool} {A A' : Option Addr} {n c n' c' k : Nat} {l l' : List Nat} (h : Rd .u64 w A n l) (hL : Lim B64 l) (hnc : n ≤ c) (h' : Rd .u64 w A' n' l') (hL' : Lim B64 l') (hnc' : n' ≤ c') (hk : n ≤ k) (hk' : n' ≤ k) :
    QR w s A n c A' n' c' (mkRat (iv s (val B64 l)) (den1 (val B64 l'))) k := ⟨_, _, ZR.of_rd h hL hnc hk, ⟨l', h', hL', rfl, hnc', hk'⟩, rfl⟩
end Go.Proofs.YtlkjkhpjhllapaaGreat
namespace Go.Proofs.YtlkjkhpjhllapaaGreat
open Go Go.RowKit
set_option maxRecDepth 100000 in
set_option maxHeartbeats 4000000 in
theorem sum_zero {w : World} {r : Nat} (u v : Int) (hm : w.heap[r]? = some (.map (oneEs u v) 1)) (hu1 : ¬ 1 ≤ u) :
    Calls Tryz.prog 152 #[.map (some r)] w (GivesQ w (Rat.divInt 0 1) 1) := by
  have HM := Lib.hid hm
  have hrlt : r < w.heap.size := by
    rcases Nat.lt_or_ge r w.heap.size with h | h
    · exact h
    · simp [Array.getElem?_eq_none h] at hm
  clear hm
  go_enter Tryz.func152, Tryz.ntmps152
  go_upto_region 1 with (fail)
  generalize hW : (w.alloc (Obj.cells #[Value.bool false, Value.slice none 0 0, Value.slice none 0 0] 26)) = W
  have hb : Below w.heap.size w W := by subst hW; exact (Below.refl _ _).alloc (Nat.le_refl _) _
  have Z : B3 W (w.heap.size) (Value.bool false) (Value.slice none 0 0) (Value.slice none 0 0) := by subst hW; exact B3.new' _ _ _ _ _ rfl
  clear hW
  go_upto_region 2 with (first
      | (go_at_call 42; (with_reducible refine (rof_q 0 1 (by decide) (by decide) (by decide) (by decide) (by decide) _).mono ?_); rintro e w_o ⟨s_o, A_o, n_o, c_o, B_o, m_o, d_o, rfl, o, hh⟩
         replace Z := Z.below hh
         have HBS := Lib.hid Z.lt
         replace hb := bend hb hh))
  generalize hW : (w_o.alloc (Obj.cells #[Value.bool s_o, Value.slice A_o n_o c_o, Value.slice B_o m_o d_o] 26)) = W2
  have hh : Below w_o.heap.size w_o W2 := by subst hW; exact (Below.refl _ _).alloc (Nat.le_refl _) _
  have T : B3 W2 (w_o.heap.size) (Value.bool s_o) (Value.slice A_o n_o c_o) (Value.slice B_o m_o d_o) := by subst hW; exact B3.new' _ _ _ _ _ rfl
  clear hW
  replace o := o.below hh
  replace Z := Z.below hh
  replace hb := bend hb hh
  have hm2 : W2.heap[r]? = some (.map (oneEs u v) 1) := (hb.block r hrlt).trans HM.out
  have hrg := run_range_map (P := Tryz.prog) W2 174 2 2 r (oneEs u v) 1 (by kernel_rfl) hm2
  go_wp2_with fail
  refine wp_loop_rounds 2 ?_
  rw [rounds_succ]
  generalize hW : W2.alloc (Obj.mapIter (some r) 1 #[] 1) = W3
  obtain ⟨it, hit⟩ : ∃ it, it = W2.heap.size := ⟨_, rfl⟩
  have hi1 : W3.heap[it]? = some (.mapIter (some r) 1 #[] 1) := by subst hW hit; exact heap_alloc_new _ _
  have hh : Below W2.heap.size W2 W3 := by subst hW; exact (Below.refl _ _).alloc (Nat.le_refl _) _
  have hm3 : W3.heap[r]? = some (.map (oneEs u v) 1) := (hh.block r (Nat.lt_of_lt_of_le hrlt hb.size)).trans hm2
  have hitl : it < W3.heap.size := by subst hW hit; simp
  rw [← hit]
  have hn1 : ∀ ty, _ := fun ty => next_one1 W3 it r ty u v hi1 hm3
  have HI := Lib.hid hit
  have HW3 := Lib.hid hW
  clear hrg hit hW
  go_upto_region 4 with (fail)
  generalize hW4 : ({ heap := W3.heap.setIfInBounds it (Obj.mapIter (some r) 1 #[0] 1), tape := W3.tape, drawn := W3.drawn, os := W3.os, output := W3.output } : World) = W4
  have hit := HI.out
  have hi4 : W4.heap[it]? = some (.mapIter (some r) 1 #[0] 1) := by subst hW4; simp [hitl]
  have hh4 : Below W2.heap.size W2 W4 := by
    subst hW4
    exact ⟨hh.os, hh.tape, hh.output, by simpa using hh.size, fun k hk => by
      show (W3.heap.setIfInBounds it _)[k]? = _
      rw [Array.getElem?_setIfInBounds_ne (by omega)]; exact hh.block k hk⟩
  have hm4 : W4.heap[r]? = some (.map (oneEs u v) 1) := (hh4.block r (Nat.lt_of_lt_of_le hrlt hb.size)).trans hm2
  have hW := HW3.out
  have hT0 := T.lt
  have hTit : w_o.heap.size < it := by rw [hit]; exact hT0
  have hitw : w.heap.size ≤ w_o.heap.size := Nat.le_of_lt HBS.out
  have hi4l : it < W4.heap.size := by subst hW4; simpa using hitl
  have hw4 : W4.heap.size = it + 1 := by subst hW4; rw [hit, ← hW]; simp
  clear hn1 hW4 hi1 hW hm3 hitl hm2 hh hT0
  clear hit HW3
  replace o := o.below hh4
  replace Z := Z.below hh4
  replace T := T.below hh4
  replace hb := bend hb hh4
  clear hh4
  have hen := entry_one W4 it r u v hi4 hm4
  have hn2 : ∀ ty, _ := fun ty => next_one2 W4 it r ty u v hi4 hm4
  have zf0 := Z.f0
  have zf1 := Z.f1
  have zf2 := Z.f2
  have z0 := Z.c0
  have z1 := Z.c1
  have z2 := Z.c2
  have t0 := T.c0
  have t1 := T.c1
  have t2 := T.c2
  go_wp2_with fail
  rw [rounds_succ]
  clear hen
  go_wp2_with fail
  have Z2 := Z.set3 (.bool s_o) (.slice A_o n_o c_o) (.slice B_o m_o d_o)
  have g0 := Z2.c0
  have g1 := Z2.c1
  have g2 := Z2.c2
  refine bodyPost_ret (v := .agg #[.bool s_o, .slice A_o n_o c_o, .slice B_o m_o d_o]) (by simp [results, Tryz.results152, go_sem, g0, g1, g2]) rfl ?_
  exact ⟨s_o, A_o, n_o, c_o, B_o, m_o, d_o, rfl, o.set3 Z _ _ _, below_set3 hb (Nat.le_refl _) _ _ _⟩
set_option maxRecDepth 100000 in
set_option maxHeartbeats 4000000 in
theorem from_zero (v u : Int) (hu1 : ¬ 1 ≤ u) (w : World) :
    Calls Tryz.prog 58 #[.int .i64 v, .int .i64 u] w (GivesQ w (Rat.divInt 0 1) 1) := by
  have H1 := Lib.hid hu1
  clear hu1
  have hmm := @run_makeMap Tryz.prog
  go_enter Tryz.func58, Tryz.ntmps58
  go_upto_region 1 with (fail)
  generalize hW : (w.alloc (Obj.cells #[Value.bool false, Value.slice none 0 0, Value.slice none 0 0] 26)) = W
  have hb : Below w.heap.size w W := by subst hW; exact (Below.refl _ _).alloc (Nat.le_refl _) _
  have Z : B3 W (w.heap.size) (Value.bool false) (Value.slice none 0 0) (Value.slice none 0 0) := by subst hW; exact B3.new' _ _ _ _ _ rfl
  clear hW
  have h0 : (W.alloc (.map #[] 0)).heap[W.heap.size]? = some (.map #[] 0) := heap_alloc_new W _
  have hi0 := run_updF u v h0
  have h2 : Below W.heap.size W (setMap (W.alloc (.map #[] 0)) W.heap.size (oneEs u v) 1) := below_setMap ((Below.refl _ _).alloc (Nat.le_refl _) _) (Nat.le_refl _) _ _
  have hm : (setMap (W.alloc (.map #[] 0)) W.heap.size (oneEs u v) 1).heap[W.heap.size]? = some (.map (oneEs u v) 1) := setMap_at (by simp)
  have HM := Lib.hid hm
  clear h0 hm
  go_wp2_with (first
      | (go_at_call 152; (with_reducible refine (sum_zero u v HM.out H1.out).mono ?_); rintro e w_t ⟨s_t, A_t, n_t, c_t, B_t, m_t, d_t, rfl, t, hh⟩
         replace Z := Z.below h2
         replace hb := bend hb h2
         try replace Z := Z.below hh
         replace hb := bend hb hh
         have zf0 := Z.f0
         have zf1 := Z.f1
         have zf2 := Z.f2
         have z0 := Z.c0
         have z1 := Z.c1
         have z2 := Z.c2))
  have Z2 := Z.set3 (.bool s_t) (.slice A_t n_t c_t) (.slice B_t m_t d_t)
  have g0 := Z2.c0
  have g1 := Z2.c1
  have g2 := Z2.c2
  refine bodyPost_ret (v := .agg #[.bool s_t, .slice A_t n_t c_t, .slice B_t m_t d_t]) (by simp [results, Tryz.results58, go_sem, g0, g1, g2]) rfl ?_
  exact ⟨s_t, A_t, n_t, c_t, B_t, m_t, d_t, rfl, t.set3 Z _ _ _, below_set3 hb (by omega) _ _ _⟩
theorem from_all (v u : Int) (hv1 : -9223372036854775808 ≤ v) (hv2 : v < 9223372036854775808) (hu1 : -9223372036854775808 ≤ u) (hu2 : u < 9223372036854775808) (w : World) :
    Calls Tryz.prog 58 #[.int .i64 v, .int .i64 u] w (GivesQ w (fromQ v u) 1) := by
  unfold fromQ
  split
  · exact from_zero v u (by omega) w
  · exact from_q v u (by omega) hu2 hv1 hv2 w
set_option maxRecDepth 100000 in
set_option maxHeartbeats 4000000 in
theorem to_lo {w : World} {s : Bool} {A A' : Option Addr} {n c n' c' : Nat} (u : Int) (hu : u < 1) (k : Nat) :
    Calls Tryz.prog 61 #[.agg #[.bool s, .slice A n c, .slice A' n' c'], .int .i64 u] w (GivesZG w 0 k) := by
  go_enter Tryz.func61, Tryz.ntmps61
  go_upto_region 2 with (fail)
  generalize hW : ((w.alloc (Obj.cells #[Value.bool s, Value.slice A n c, Value.slice A' n' c'] 26)).alloc (Obj.cells #[Value.bool false, Value.slice none 0 0] 24)) = W
  have hb : Below w.heap.size w W := by subst hW; exact (((Below.refl _ _).alloc (Nat.le_refl _) _).alloc (by simp) _)
  have XA : B3 W (w.heap.size) (Value.bool s) (Value.slice A n c) (Value.slice A' n' c') := by subst hW; exact (B3.new' _ _ _ _ _ rfl).alloc _
  have Z : Bx W (w.heap.size + 1) (Value.bool false) (Value.slice none 0 0) := by subst hW; exact Bx.new' _ _ _ _ (by simp)
  have hzW : W.heap.size = w.heap.size + 2 := by subst hW; simp
  clear hW
  have z0 := Z.c0
  have z1 := Z.c1
  have zf0 := Z.f0
  have zf1 := Z.f1
  go_wp2_with fail
  have Z2 := Z.set2 (.bool false) (.slice none 0 0)
  have g0 := Z2.c0
  have g1 := Z2.c1
  refine bodyPost_ret (v := .agg #[.bool false, .slice none 0 0]) (by simp [results, Tryz.results61, go_sem, g0, g1]) rfl ?_
  have h0 : limbs B64 (0 : Int).natAbs = [] := limbs_zero
  exact ⟨false, none, 0, 0, rfl, ⟨rfl, by rw [h0]; exact Rd.nil, Nat.le_refl _, Nat.zero_le _⟩, below_set2 hb (by omega) _ _⟩
theorem to_all {w : World} {s : Bool} {A A' : Option Addr} {n c n' c' k : Nat} {v : Rat} (X : QR w s A n c A' n' c' v k) (hk : k ≤ 300) (hk1 : 1 ≤ k) (u : Int) (hu2 : u < 9223372036854775808) :
    Calls Tryz.prog 61 #[.agg #[.bool s, .slice A n c, .slice A' n' c'], .int .i64 u] w (GivesZG w (toQa v u) (k + 4)) := by
  unfold toQa
  split
  · exact to_lo u ‹_› (k + 4)
  · exact to_q u X hk hk1 (by omega) hu2
set_option maxRecDepth 100000 in
set_option maxHeartbeats 4000000 in
theorem turns_large {w : World} {s : Bool} {A A' : Option Addr} {n c n' c' : Nat} (v u : Int) (hl : ¬ (n ≤ 12 ∧ n' ≤ 12)) :
    Calls Tryz.prog 8 #[.int .i64 v, .int .i64 u, .agg #[.bool s, .slice A n c, .slice A' n' c']] w fun e w' => e = .returned (.bool true) ∧ Below w.heap.size w w' := by
  have HL : Hid (decide (n ≤ 12 ∧ n' ≤ 12) = false) := decide_eq_false hl
  clear hl
  go_enter Tryz.func8, Tryz.ntmps8
  go_wp2_with fail
  generalize hW : (w.alloc (Obj.cells #[Value.bool s, Value.slice A n c, Value.slice A' n' c'] 26)) = W
  have hb : Below w.heap.size w W := by subst hW; exact ((Below.refl _ _).alloc (Nat.le_refl _) _)
  have XA : B3 W (w.heap.size) (Value.bool s) (Value.slice A n c) (Value.slice A' n' c') := by subst hW; exact B3.new' _ _ _ _ _ rfl
  have hzW : W.heap.size = w.heap.size + 1 := by subst hW; simp
  clear hW
  have xa0 := XA.c0
  have xa1 := XA.c1
  have xa2 := XA.c2
  go_wp2_with (first
      | (go_at_call 46; (with_reducible refine (small_k _ false HL.out).mono ?_); rintro e w_z ⟨rfl, hh⟩
         try replace XA := XA.below hh
         replace hb := bend hb hh
         have xa0 := XA.c0
         have xa1 := XA.c1
         have xa2 := XA.c2)
      | (go_at_call 57; (with_reducible refine (fwakes_any _).mono ?_); rintro e w_z ⟨rfl, hh⟩
         try replace XA := XA.below hh
         replace hb := bend hb hh))
  go_ret
  exact ⟨rfl, hb⟩
set_option maxRecDepth 100000 in
set_option maxHeartbeats 8000000 in
theorem turns_small {w : World} {s : Bool} {A A' : Option Addr} {n c n' c' : Nat} (v u : Int) {va : Rat} (hv1 : -9223372036854775808 ≤ v) (hv2 : v < 9223372036854775808) (hu1 : -9223372036854775808 ≤ u) (hu2 : u < 9223372036854775808) (X : QR w s A n c A' n' c' va 12) (hl : n ≤ 12 ∧ n' ≤ 12) :
    Calls Tryz.prog 8 #[.int .i64 v, .int .i64 u, .agg #[.bool s, .slice A n c, .slice A' n' c']] w fun e w' => e = .returned (.bool true) ∧ Below w.heap.size w w' := by
  have HL : Hid (decide (n ≤ 12 ∧ n' ≤ 12) = true) := decide_eq_true hl
  have H1 := Lib.hid hv1
  have H2 := Lib.hid hv2
  have H3 := Lib.hid hu1
  have H4 := Lib.hid hu2
  have HD : Hid (0 ≤ byteQ va ∧ byteQ va ≤ 255) := byteQ_range va
  obtain ⟨K, hK⟩ : ∃ K, byteQ va = K := ⟨_, rfl⟩
  have HK := Lib.hid hK
  clear hl hv1 hv2 hu1 hu2 hK
  go_enter Tryz.func8, Tryz.ntmps8
  go_wp2_with fail
  generalize hW : (w.alloc (Obj.cells #[Value.bool s, Value.slice A n c, Value.slice A' n' c'] 26)) = W
  have hb : Below w.heap.size w W := by subst hW; exact ((Below.refl _ _).alloc (Nat.le_refl _) _)
  have XA : B3 W (w.heap.size) (Value.bool s) (Value.slice A n c) (Value.slice A' n' c') := by subst hW; exact B3.new' _ _ _ _ _ rfl
  have hzW : W.heap.size = w.heap.size + 1 := by subst hW; simp
  clear hW
  replace X := X.below hb
  have xa0 := XA.c0
  have xa1 := XA.c1
  have xa2 := XA.c2
  go_upto_region 4 with (first
      | (go_at_call 46; (with_reducible refine (small_k _ true HL.out).mono ?_); rintro e w_z ⟨rfl, hh⟩
         try replace X := X.below hh
         try replace x := x.below hh
         try replace XA := XA.below hh
         try replace XP := XP.below hh
         replace hb := bend hb hh
         have xa0 := XA.c0
         have xa1 := XA.c1
         have xa2 := XA.c2)
      | (go_at_call 16; (with_reducible refine (rin3 X (by decide) (by decide)).mono ?_); rintro e w_x ⟨s_x, A_x, n_x, c_x, B_x, m_x, d_x, rfl, x, hh⟩
         try replace X := X.below hh
         try replace XA := XA.below hh
         try replace XP := XP.below hh
         replace hb := bend hb hh
         have xa0 := XA.c0
         have xa1 := XA.c1
         have xa2 := XA.c2))
  generalize hW : (w_x.alloc (Obj.cells #[Value.bool s_x, Value.slice A_x n_x c_x, Value.slice B_x m_x d_x] 34)) = W2
  have hh : Below w_x.heap.size w_x W2 := by subst hW; exact ((Below.refl _ _).alloc (Nat.le_refl _) _)
  have XP : B3R W2 (w_x.heap.size) (Value.bool s_x) (Value.slice A_x n_x c_x) (Value.slice B_x m_x d_x) := by subst hW; exact B3R.new' _ _ _ _ _ rfl
  have hzW2 : W2.heap.size = w_x.heap.size + 1 := by subst hW; simp
  clear hW
  try replace X := X.below hh
  try replace x := x.below hh
  try replace XA := XA.below hh
  replace hb := bend hb hh
  replace X := X.below (Below.refl _ _).drew
  replace x := x.below (Below.refl _ _).drew
  replace XA := XA.below (Below.refl _ _).drew
  replace XP := XP.below (Below.refl _ _).drew
  replace hb := hb.drew
  go_region_held3 (fun w' => w'.cell? ⟨w.heap.size, 0, none⟩ = some (.bool s) ∧ w'.cell? ⟨w.heap.size, 1, none⟩ = some (.slice A n c) ∧ w'.cell? ⟨w.heap.size, 2, none⟩ = some (.slice A' n' c') ∧ w'.cell? ⟨w_x.heap.size, 0, none⟩ = some (.bool s_x) ∧ w'.cell? ⟨w_x.heap.size, 1, none⟩ = some (.slice A_x n_x c_x) ∧ w'.cell? ⟨w_x.heap.size, 2, none⟩ = some (.slice B_x m_x d_x))
    (first | with_reducible exact ⟨XA.c0, XA.c1, XA.c2, XP.c0, XP.c1, XP.c2⟩)
    (first
    | (go_at_call 58; (with_reducible refine (from_all v u H1.out H2.out H3.out H4.out _).mono ?_); rintro e w_f ⟨s_f, A_f, n_f, c_f, B_f, m_f, d_f, rfl, f, hh⟩
       try replace X := X.below hh
       try replace x := x.below hh
       try replace XA := XA.below hh
       try replace XP := XP.below hh
       try replace g := g.below hh
       try replace i := i.below hh
       try replace j := j.below hh
       try replace o := o.below hh
       replace hb := bend hb hh)
    | (go_at_call 59; (with_reducible refine (rfrom5 v u H1.out H2.out H3.out H4.out _).mono ?_); rintro e w_g ⟨s_g, A_g, n_g, c_g, B_g, m_g, d_g, rfl, g, hh⟩
       try replace X := X.below hh
       try replace x := x.below hh
       try replace XA := XA.below hh
       try replace XP := XP.below hh
       try replace f := f.below hh
       try replace i := i.below hh
       try replace j := j.below hh
       try replace o := o.below hh
       replace hb := bend hb hh)
    | (go_at_call 20; (with_reducible refine (same3 f g rfl (by decide) (by decide)).mono ?_); rintro e w_z ⟨rfl, hh⟩
       try replace X := X.below hh
       try replace x := x.below hh
       try replace XA := XA.below hh
       try replace XP := XP.below hh
       try replace f := f.below hh
       try replace g := g.below hh
       try replace i := i.below hh
       try replace j := j.below hh
       try replace o := o.below hh
       replace hb := bend hb hh)
    | (go_at_call 61; (with_reducible refine (to_all X (by decide) (by decide) u H4.out).mono ?_); rintro e w_i ⟨s_i, A_i, n_i, c_i, rfl, i, hh⟩
       try replace X := X.below hh
       try replace x := x.below hh
       try replace XA := XA.below hh
       try replace XP := XP.below hh
       try replace f := f.below hh
       try replace g := g.below hh
       try replace j := j.below hh
       try replace o := o.below hh
       replace hb := bend hb hh)
    | (go_at_call 63; (with_reducible refine (rto5 x (by decide) u H4.out).mono ?_); rintro e w_j ⟨s_j, A_j, n_j, c_j, rfl, j, hh⟩
       try replace X := X.below hh
       try replace x := x.below hh
       try replace XA := XA.below hh
       try replace XP := XP.below hh
       try replace f := f.below hh
       try replace g := g.below hh
       try replace i := i.below hh
       try replace o := o.below hh
       replace hb := bend hb hh)
    | (go_at_call 62; (with_reducible refine (out2 j (by decide)).mono ?_); rintro e w_o ⟨A_o, n_o, c_o, rfl, o, hh⟩
       try replace X := X.below hh
       try replace x := x.below hh
       try replace XA := XA.below hh
       try replace XP := XP.below hh
       try replace f := f.below hh
       try replace g := g.below hh
       try replace i := i.below hh
       try replace j := j.below hh
       replace hb := bend hb hh)
    | (go_at_call 60; (with_reducible refine (ints_alike i j.sgt o (by decide)).mono ?_); rintro e w_z ⟨rfl, hh⟩
       try replace X := X.below hh
       try replace x := x.below hh
       try replace XA := XA.below hh
       try replace XP := XP.below hh
       try replace f := f.below hh
       try replace g := g.below hh
       try replace i := i.below hh
       try replace j := j.below hh
       try replace o := o.below hh
       replace hb := bend hb hh)
    | (go_at_call 64; (with_reducible refine (byte_q X (by decide) (by decide)).mono ?_); rintro e w_z ⟨rfl, hh⟩
       rw [HK.out]
       try replace X := X.below hh
       try replace x := x.below hh
       try replace XA := XA.below hh
       try replace XP := XP.below hh
       try replace f := f.below hh
       try replace g := g.below hh
       try replace i := i.below hh
       try replace j := j.below hh
       try replace o := o.below hh
       replace hb := bend hb hh)
    | (go_at_call 65; (with_reducible refine (rbyte5 x (by decide)).mono ?_); rintro e w_z ⟨rfl, hh⟩
       rw [HK.out]
       try replace X := X.below hh
       try replace x := x.below hh
       try replace XA := XA.below hh
       try replace XP := XP.below hh
       try replace f := f.below hh
       try replace g := g.below hh
       try replace i := i.below hh
       try replace j := j.below hh
       try replace o := o.below hh
       replace hb := bend hb hh)
    | (go_at_call 57; (with_reducible refine (fwakes_any _).mono ?_); rintro e w_z ⟨rfl, hh⟩
       try replace X := X.below hh
       try replace x := x.below hh
       try replace XA := XA.below hh
       try replace XP := XP.below hh
       try replace f := f.below hh
       try replace g := g.below hh
       try replace i := i.below hh
       try replace j := j.below hh
       try replace o := o.below hh
       replace hb := bend hb hh))
  go_wp2_with fail
  go_ret
  exact ⟨rfl, hb⟩
theorem law_turns {w : World} (v u : Int) (s : Bool) (A A' : Option Addr) (n c n' c' : Nat) (l k : List Nat) (hv1 : -9223372036854775808 ≤ v) (hv2 : v < 9223372036854775808) (hu1 : -9223372036854775808 ≤ u) (hu2 : u < 9223372036854775808) (r1 : Rd .u64 w A n l) (r2 : Rd .u64 w A' n' k) (t1 : Lim B64 l) (t2 : Lim B64 k) (e1 : n ≤ c) (e2 : n' ≤ c') :
    Calls Tryz.prog 8 #[.int .i64 v, .int .i64 u, .agg #[.bool s, .slice A n c, .slice A' n' c']] w fun e w' => e = .returned (.bool true) ∧ Below w.heap.size w w' := by
  by_cases h : n ≤ 12 ∧ n' ≤ 12
  · exact turns_small v u hv1 hv2 hu1 hu2 (QR.of_rd (s := s) r1 t1 e1 r2 t2 e2 h.1 h.2) h
  · exact turns_large v u h
end Go.Proofs.YtlkjkhpjhllapaaGreat
