/- RootBrackets: part 13. -/
import Derived.Test.YtlkjkhpjhllapaaGreatKRootBrackets9
import Derived.Test.YtlkjkhpjhllapaaGreatKRootBrackets11
import Derived.Test.YtlkjkhpjhllapaaGreatKRootBrackets12
set_option linter.unusedVariables false
namespace Go.Proofs.YtlkjkhpjhllapaaGreat
open Go Go.RowKit
theorem fld1 (s : Bool) (A : Option Addr) (n c : Nat) (w : World) : (Instr.field 24 (.agg #[.bool s, .slice A n c]) 1).run Tryz.prog w = .ok (.slice A n c) w := by kernel_rfl
def GivesPart (w : World) (P : Nat → Prop) (h : Nat) (e : Ending) (w' : World) : Prop := ∃ R, P R ∧ GivesQE w (inQ R h) 40 e w'
set_option maxRecDepth 100000 in
set_option maxHeartbeats 4000000 in
theorem low_q {w : World} {s : Bool} {A A' : Option Addr} {n c n' c' k : Nat} {v : Rat} (h j : Nat) (X : QR w s A n c A' n' c' v k) (hv : 0 ≤ v) (hj : 2 ^ (2 * h) ≤ B64 ^ j) (hkj : k + j + 1 ≤ 78) (hj2 : 2 ^ h < B64 ^ 40) (hk1 : 1 ≤ k) (hh : h ≤ 4096) :
    Calls Tryz.prog 48 #[.agg #[.bool s, .slice A n c, .slice A' n' c'], .int .i64 (h : Int)] w (GivesPart w (IsLow v h) h) := by
  have HV := Lib.hid hv
  have HJ := Lib.hid hj
  have HJ2 := Lib.hid hj2
  have hh4 : h ≤ 4096 := hh
  have hfld := fld1
  clear hv hj hj2 hh
  go_enter Tryz.func48, Tryz.ntmps48
  go_wp2_with fail
  generalize hW : ((w.alloc (Obj.cells #[Value.bool s, Value.slice A n c, Value.slice A' n' c'] 26)).alloc (Obj.cells #[Value.bool false, Value.slice none 0 0, Value.slice none 0 0] 26)) = W
  have hb : Below w.heap.size w W := by subst hW; exact (((Below.refl _ _).alloc (Nat.le_refl _) _).alloc (by simp) _)
  have XA : B3 W (w.heap.size) (Value.bool s) (Value.slice A n c) (Value.slice A' n' c') := by subst hW; exact (B3.new' _ _ _ _ _ rfl).alloc _
  have Z : B3 W (w.heap.size + 1) (Value.bool false) (Value.slice none 0 0) (Value.slice none 0 0) := by subst hW; exact B3.new' _ _ _ _ _ (by simp)
  have hzW : W.heap.size = w.heap.size + 2 := by subst hW; simp
  clear hW
  replace X := X.below hb
  have xa0 := XA.c0
  have xa1 := XA.c1
  have xa2 := XA.c2
  go_upto_region 5 with (first
      | (go_at_call 138; (with_reducible refine (fault_ok h X HV.out (by omega) hk1 hh4).mono ?_); rintro e w_z ⟨rfl, hh⟩
         try replace X := X.below hh
         try replace u := u.below hh
         try replace f := f.below hh
         try replace r := r.below hh
         try replace XA := XA.below hh
         try replace Z := Z.below hh
         try replace C := C.below hh
         replace hb := bend hb hh
         have xa0 := XA.c0
         have xa1 := XA.c1
         have xa2 := XA.c2))
  generalize hW1 : w_z.alloc (Obj.cells #[Value.int .i64 0] 163) = W1
  have hh : Below w_z.heap.size w_z W1 := by subst hW1; exact (Below.refl _ _).alloc (Nat.le_refl _) _
  have C : Ct W1 w_z.heap.size 0 := by subst hW1; exact Ct.new' _ _ _ rfl
  clear hW1
  have hzl := Z.lt
  have HG : Hid (w.heap.size + 1 < w_z.heap.size) := hzl
  clear hzl
  replace X := X.below hh
  replace XA := XA.below hh
  replace Z := Z.below hh
  replace hb := bend hb hh
  have xa0 := XA.c0
  have xa1 := XA.c1
  have xa2 := XA.c2
  go_wp2_with (first
      | (go_at_call 141; (with_reducible refine (raised_q h j X HV.out (by omega) HJ.out (by omega)).mono ?_); rintro e w_u ⟨A_u, n_u, c_u, rfl, u, hh'⟩; have hh := hh'
         try replace X := X.below hh
         try replace f := f.below hh
         try replace r := r.below hh
         try replace q := q.below hh
         try replace XA := XA.below hh
         try replace Z := Z.below hh
         try replace C := C.below hh
         replace hb := bend hb hh
         have xa0 := XA.c0
         have xa1 := XA.c1
         have xa2 := XA.c2)
      | (go_at_call 96; (with_reducible refine (rfloor_q u (by omega) (by omega)).mono ?_); rintro e w_f ⟨s_f, A_f, n_f, c_f, rfl, f, hh⟩
         try replace X := X.below hh
         try replace u := u.below hh
         try replace r := r.below hh
         try replace q := q.below hh
         try replace XA := XA.below hh
         try replace Z := Z.below hh
         try replace C := C.below hh
         replace hb := bend hb hh
         have xa0 := XA.c0
         have xa1 := XA.c1
         have xa2 := XA.c2)
      | (go_at_call 140; (with_reducible refine (root_any C (by decide) (by decide) (f.zr.nr.more hkj)).mono ?_); rintro e w_r ⟨R_r, hR_r, A_r, n_r, c_r, rfl, r, ho, C2⟩
         have HR_r := Lib.hid hR_r
         clear hR_r
         replace XA := XA.cnt (by have := HG.out; omega) ho
         replace Z := Z.cnt (by have := HG.out; omega) ho
         replace hb := Below.only hb (by have := HG.out; omega) hb.size ho
         clear C
         have C := C2
         clear C2 ho
         have xa0 := XA.c0
         have xa1 := XA.c1
         have xa2 := XA.c2)
      | (go_at_call 139; (with_reducible refine (inparts_q h 40 40 r.nr (by decide) (by decide) HJ2.out (by decide) (by omega)).mono ?_); rintro e w_q ⟨s_q, A_q, n_q, c_q, B_q, m_q, d_q, rfl, q, hh⟩
         try replace X := X.below hh
         try replace u := u.below hh
         try replace f := f.below hh
         try replace r := r.below hh
         try replace XA := XA.below hh
         try replace Z := Z.below hh
         try replace C := C.below hh
         replace hb := bend hb hh
         have zf0 := Z.f0
         have zf1 := Z.f1
         have zf2 := Z.f2
         have z0 := Z.c0
         have z1 := Z.c1
         have z2 := Z.c2))
  have Z2 := Z.set3 (.bool s_q) (.slice A_q n_q c_q) (.slice B_q m_q d_q)
  have g0 := Z2.c0
  have g1 := Z2.c1
  have g2 := Z2.c2
  refine bodyPost_ret (v := .tuple #[.agg #[.bool s_q, .slice A_q n_q c_q, .slice B_q m_q d_q], .int .i64 0]) (by simp [results, Tryz.results48, go_sem, g0, g1, g2]) rfl ?_
  exact ⟨R_r, HR_r.out, s_q, A_q, n_q, c_q, B_q, m_q, d_q, rfl, q.set3 Z _ _ _, below_set3 hb (by omega) _ _ _⟩
theorem root_half2 {V R k : Nat} (hV : V < B64 ^ (2 * k)) (h : IsRoot V R) : R < B64 ^ k := by
  rcases Nat.lt_or_ge R (B64 ^ k) with h1 | h1
  · exact h1
  · have h2 := Nat.mul_le_mul h1 h1
    rw [← Nat.pow_add, show k + k = 2 * k by omega] at h2
    have := h.1
    omega
set_option maxRecDepth 100000 in
set_option maxHeartbeats 4000000 in
theorem high_q {w : World} {s : Bool} {A A' : Option Addr} {n c n' c' k : Nat} {v : Rat} (h j : Nat) (X : QR w s A n c A' n' c' v k) (hv : 0 ≤ v) (hj : 2 ^ (2 * h) ≤ B64 ^ j) (hkj : k + j + 1 ≤ 78) (hj2 : 2 ^ h < B64 ^ 40) (hk1 : 1 ≤ k) (hh : h ≤ 4096) :
    Calls Tryz.prog 49 #[.agg #[.bool s, .slice A n c, .slice A' n' c'], .int .i64 (h : Int)] w (GivesPart w (IsHigh v h) h) := by
  have HV := Lib.hid hv
  have HJ := Lib.hid hj
  have HJ2 := Lib.hid hj2
  have hh4 : h ≤ 4096 := hh
  have hfld := fld1
  clear hv hj hj2 hh
  go_enter Tryz.func49, Tryz.ntmps49
  go_wp2_with fail
  generalize hW : ((w.alloc (Obj.cells #[Value.bool s, Value.slice A n c, Value.slice A' n' c'] 26)).alloc (Obj.cells #[Value.bool false, Value.slice none 0 0, Value.slice none 0 0] 26)) = W
  have hb : Below w.heap.size w W := by subst hW; exact (((Below.refl _ _).alloc (Nat.le_refl _) _).alloc (by simp) _)
  have XA : B3 W (w.heap.size) (Value.bool s) (Value.slice A n c) (Value.slice A' n' c') := by subst hW; exact (B3.new' _ _ _ _ _ rfl).alloc _
  have Z : B3 W (w.heap.size + 1) (Value.bool false) (Value.slice none 0 0) (Value.slice none 0 0) := by subst hW; exact B3.new' _ _ _ _ _ (by simp)
  have hzW : W.heap.size = w.heap.size + 2 := by subst hW; simp
  clear hW
  replace X := X.below hb
  have xa0 := XA.c0
  have xa1 := XA.c1
  have xa2 := XA.c2
  go_upto_region 5 with (first
      | (go_at_call 138; (with_reducible refine (fault_ok h X HV.out (by omega) hk1 hh4).mono ?_); rintro e w_z ⟨rfl, hh⟩
         try replace X := X.below hh
         try replace u := u.below hh
         try replace f := f.below hh
         try replace r := r.below hh
         try replace XA := XA.below hh
         try replace Z := Z.below hh
         try replace C := C.below hh
         replace hb := bend hb hh
         have xa0 := XA.c0
         have xa1 := XA.c1
         have xa2 := XA.c2))
  generalize hW1 : w_z.alloc (Obj.cells #[Value.int .i64 0] 163) = W1
  have hh : Below w_z.heap.size w_z W1 := by subst hW1; exact (Below.refl _ _).alloc (Nat.le_refl _) _
  have C : Ct W1 w_z.heap.size 0 := by subst hW1; exact Ct.new' _ _ _ rfl
  clear hW1
  have hzl := Z.lt
  have HG : Hid (w.heap.size + 1 < w_z.heap.size) := hzl
  clear hzl
  replace X := X.below hh
  replace XA := XA.below hh
  replace Z := Z.below hh
  replace hb := bend hb hh
  have xa0 := XA.c0
  have xa1 := XA.c1
  have xa2 := XA.c2
  go_upto_region 6 with (first
      | (go_at_call 141; (with_reducible refine (raised_q h j X HV.out (by omega) HJ.out (by omega)).mono ?_); rintro e w_u ⟨A_u, n_u, c_u, rfl, u, hh'⟩; have hh := hh'
         try replace X := X.below hh
         try replace f := f.below hh
         try replace r := r.below hh
         try replace q := q.below hh
         try replace XA := XA.below hh
         try replace Z := Z.below hh
         try replace C := C.below hh
         replace hb := bend hb hh
         have xa0 := XA.c0
         have xa1 := XA.c1
         have xa2 := XA.c2)
      | (go_at_call 142; (with_reducible refine (rceil_q u (by omega) (by omega)).mono ?_); rintro e w_f ⟨s_f, A_f, n_f, c_f, rfl, f, hh⟩
         have HF := Lib.hid f.zr.nr.lt
         try replace X := X.below hh
         try replace u := u.below hh
         try replace r := r.below hh
         try replace q := q.below hh
         try replace XA := XA.below hh
         try replace Z := Z.below hh
         try replace C := C.below hh
         replace hb := bend hb hh
         have xa0 := XA.c0
         have xa1 := XA.c1
         have xa2 := XA.c2)
      | (go_at_call 140; (with_reducible refine (root_any C (by decide) (by decide) (f.zr.nr.more hkj)).mono ?_); rintro e w_r ⟨R_r, hR_r, A_r, n_r, c_r, rfl, r, ho, C2⟩
         have HR_r := Lib.hid hR_r
         clear hR_r
         replace XA := XA.cnt (by have := HG.out; omega) ho
         replace Z := Z.cnt (by have := HG.out; omega) ho
         replace hb := Below.only hb (by have := HG.out; omega) hb.size ho
         clear C
         have C := C2
         clear C2 ho
         have xa0 := XA.c0
         have xa1 := XA.c1
         have xa2 := XA.c2))
  clear u f X XA
  have HL : Hid (R_r < B64 ^ 39) := root_half2 (Nat.lt_of_lt_of_le HF.out (Nat.pow_le_pow_right (by decide) hkj)) HR_r.out
  by_cases hs : R_r * R_r = (upQ v h).ceil.natAbs
  · have HS := Lib.hid hs
    rw [if_pos hs] at C
    clear hs
    go_wp2_with (first
      | (go_at_call 143; (with_reducible refine (load_any C).mono ?_); rintro e w_l ⟨rfl, rfl⟩)
      | (go_at_call 139; (with_reducible refine (inparts_q h 40 40 r.nr (by decide) (by decide) HJ2.out (by decide) (by omega)).mono ?_); rintro e w_q ⟨s_q, A_q, n_q, c_q, B_q, m_q, d_q, rfl, q, hh⟩
         try replace X := X.below hh
         try replace u := u.below hh
         try replace f := f.below hh
         try replace r := r.below hh
         try replace XA := XA.below hh
         try replace Z := Z.below hh
         try replace C := C.below hh
         replace hb := bend hb hh
         have zf0 := Z.f0
         have zf1 := Z.f1
         have zf2 := Z.f2
         have z0 := Z.c0
         have z1 := Z.c1
         have z2 := Z.c2))
    have Z2 := Z.set3 (.bool s_q) (.slice A_q n_q c_q) (.slice B_q m_q d_q)
    have g0 := Z2.c0
    have g1 := Z2.c1
    have g2 := Z2.c2
    refine bodyPost_ret (v := .tuple #[.agg #[.bool s_q, .slice A_q n_q c_q, .slice B_q m_q d_q], .int .i64 0]) (by simp [results, Tryz.results49, go_sem, g0, g1, g2]) rfl ?_
    exact ⟨R_r, ⟨R_r, HR_r.out, (if_pos HS.out).symm⟩, s_q, A_q, n_q, c_q, B_q, m_q, d_q, rfl, q.set3 Z _ _ _, below_set3 hb (by omega) _ _ _⟩
  · have HS := Lib.hid hs
    rw [if_neg hs] at C
    clear hs
    have r39 : NG w_r A_r n_r c_r R_r 39 := r.tight HL.out
    clear r
    go_wp2_with (first
      | (go_at_call 143; (with_reducible refine (load_any C).mono ?_); rintro e w_l ⟨rfl, rfl⟩)
      | (go_at_call 126; (with_reducible refine (of_one _).mono ?_); rintro e w_o ⟨A_o, n_o, c_o, rfl, o, hh⟩
         replace r39 := r39.below hh
         replace Z := Z.below hh
         replace hb := bend hb hh)
      | (go_at_call 144; (with_reducible refine (add_nr 40 r39.nr o.nr (by decide) (by decide) (by decide)).mono ?_); rintro e w_a ⟨A_a, n_a, c_a, rfl, a, hh⟩
         try replace Z := Z.below hh
         replace hb := bend hb hh)
      | (go_at_call 139; (with_reducible refine (inparts_q h 40 40 a.nr (by decide) (by decide) HJ2.out (by decide) (by omega)).mono ?_); rintro e w_q ⟨s_q, A_q, n_q, c_q, B_q, m_q, d_q, rfl, q, hh⟩
         try replace X := X.below hh
         try replace u := u.below hh
         try replace f := f.below hh
         try replace r := r.below hh
         try replace XA := XA.below hh
         try replace Z := Z.below hh
         try replace C := C.below hh
         replace hb := bend hb hh
         have zf0 := Z.f0
         have zf1 := Z.f1
         have zf2 := Z.f2
         have z0 := Z.c0
         have z1 := Z.c1
         have z2 := Z.c2))
    have Z2 := Z.set3 (.bool s_q) (.slice A_q n_q c_q) (.slice B_q m_q d_q)
    have g0 := Z2.c0
    have g1 := Z2.c1
    have g2 := Z2.c2
    refine bodyPost_ret (v := .tuple #[.agg #[.bool s_q, .slice A_q n_q c_q, .slice B_q m_q d_q], .int .i64 0]) (by simp [results, Tryz.results49, go_sem, g0, g1, g2]) rfl ?_
    exact ⟨R_r + 1, ⟨R_r, HR_r.out, (if_neg HS.out).symm⟩, s_q, A_q, n_q, c_q, B_q, m_q, d_q, rfl, q.set3 Z _ _ _, below_set3 hb (by omega) _ _ _⟩
theorem QG.nrP {w : World} {s : Bool} {A A' : Option Addr} {n c n' c' k k1 : Nat} {v : Rat} (h : QG w s A n c A' n' c' v k) (hk : k ≤ k1) : NR w A n c v.num.natAbs k1 := h.1.zr.nr.more hk
theorem QG.nrQ {w : World} {s : Bool} {A A' : Option Addr} {n c n' c' k k1 : Nat} {v : Rat} (h : QG w s A n c A' n' c' v k) (hk : k ≤ k1) : NR w A' n' c' v.den k1 := h.2.nr.more hk
def IsSq (V : Nat) : Prop := ∃ a, a * a = V
theorem root_sq {w : World} {g a : Nat} {x : Int} {A : Option Addr} {n c V : Nat} (C : Ct w g x) (h0 : 0 ≤ x) (h1 : x ≤ 100) (X : NR w A n c V 78) (hV : a * a = V) :
    Calls Tryz.prog 140 #[.pointer (some ⟨g, 0, none⟩), .slice A n c] w fun e w' => ∃ A n c, e = .returned (.slice A n c) ∧ NG w' A n c a 40 ∧ Only g w w' ∧ Ct w' g (x + 1) := by
  refine (root_any C h0 h1 X).mono ?_
  rintro e w' ⟨R, hR, A2, n2, c2, rfl, r, ho, C2⟩
  have ha : IsRoot V a := ⟨Nat.le_of_eq hV, by rw [← hV, Nat.add_mul, Nat.mul_add]; omega⟩
  obtain rfl := hR.one ha
  rw [if_pos hV] at C2
  exact ⟨A2, n2, c2, rfl, r, ho, C2⟩
theorem root_no {w : World} {g : Nat} {x : Int} {A : Option Addr} {n c V : Nat} (C : Ct w g x) (h0 : 0 ≤ x) (h1 : x ≤ 100) (X : NR w A n c V 78) (hV : ¬ IsSq V) :
    Calls Tryz.prog 140 #[.pointer (some ⟨g, 0, none⟩), .slice A n c] w fun e w' => ∃ A n c, e = .returned (.slice A n c) ∧ Only g w w' ∧ Ct w' g x := by
  refine (root_any C h0 h1 X).mono ?_
  rintro e w' ⟨R, hR, A2, n2, c2, rfl, r, ho, C2⟩
  rw [if_neg (fun q => hV ⟨R, q⟩)] at C2
  exact ⟨A2, n2, c2, rfl, ho, C2⟩
set_option maxRecDepth 100000 in
set_option maxHeartbeats 8000000 in
theorem exact_yy {w : World} {s : Bool} {A A' : Option Addr} {n c n' c' k : Nat} {v : Rat} {a b : Nat} (X : QR w s A n c A' n' c' v k) (hv : 0 ≤ v) (hk : k ≤ 78) (hk1 : 1 ≤ k) (h1 : a * a = v.abs.num.natAbs) (h2 : b * b = v.abs.den) :
    Calls Tryz.prog 53 #[.agg #[.bool s, .slice A n c, .slice A' n' c']] w fun e w' => ∃ s A n c B m d, e = .returned (.tuple #[.agg #[.bool s, .slice A n c, .slice B m d], .bool true]) ∧ s = false ∧ NG w' A n c a 40 ∧ NG w' B m d b 40 ∧ Below w.heap.size w w' := by
  obtain ⟨g, hg, hg0⟩ : ∃ g, sgnQ v = g ∧ ¬ g < 0 := ⟨_, rfl, by unfold sgnQ; rw [if_neg (Rat.not_lt.2 hv)]; split <;> decide⟩
  have HG0 := Lib.hid hg
  have H1 := Lib.hid h1
  have H2 := Lib.hid h2
  clear hg hv h1 h2
  go_enter Tryz.func53, Tryz.ntmps53
  go_wp2_with fail
  generalize hW : ((w.alloc (Obj.cells #[Value.bool s, Value.slice A n c, Value.slice A' n' c'] 26)).alloc (Obj.cells #[Value.bool false, Value.slice none 0 0, Value.slice none 0 0] 26)) = W
  have hb : Below w.heap.size w W := by subst hW; exact (((Below.refl _ _).alloc (Nat.le_refl _) _).alloc (by simp) _)
  have XA : B3 W (w.heap.size) (Value.bool s) (Value.slice A n c) (Value.slice A' n' c') := by subst hW; exact (B3.new' _ _ _ _ _ rfl).alloc _
  have Z : B3 W (w.heap.size + 1) (Value.bool false) (Value.slice none 0 0) (Value.slice none 0 0) := by subst hW; exact B3.new' _ _ _ _ _ (by simp)
  have hzW : W.heap.size = w.heap.size + 2 := by subst hW; simp
  clear hW
  replace X := X.below hb
  have xa0 := XA.c0
  have xa1 := XA.c1
  have xa2 := XA.c2
  have yf0 := XA.f0
  have yf1 := XA.f1
  have yf2 := XA.f2
  have y0 := XA.c0
  have y1 := XA.c1
  have y2 := XA.c2
  go_upto_region 4 with (first
      | (go_at_call 30; (with_reducible refine (rsign_q X (by omega) hk1).mono ?_); rintro e w_z ⟨rfl, hh⟩
         rw [HG0.out]
         try replace X := X.below hh
         try replace q := q.below hh
         try replace XA := XA.below hh
         try replace Z := Z.below hh
         try replace C := C.below hh
         replace hb := bend hb hh
         have xa0 := XA.c0
         have xa1 := XA.c1
         have xa2 := XA.c2
         have yf0 := XA.f0
         have yf1 := XA.f1
         have yf2 := XA.f2
         have y0 := XA.c0
         have y1 := XA.c1
         have y2 := XA.c2)
      | (go_at_call 33; (with_reducible refine (rabs_q X (by omega) hk1).mono ?_); rintro e w_q ⟨s_q, A_q, n_q, c_q, B_q, m_q, d_q, rfl, q, hh⟩
         try replace X := X.below hh
         try replace XA := XA.below hh
         try replace Z := Z.below hh
         try replace C := C.below hh
         replace hb := bend hb hh
         have xa0 := XA.c0
         have xa1 := XA.c1
         have xa2 := XA.c2
         have yf0 := XA.f0
         have yf1 := XA.f1
         have yf2 := XA.f2
         have y0 := XA.c0
         have y1 := XA.c1
         have y2 := XA.c2))
  clear X xa0 xa1 xa2 y0 y1 y2 yf0 yf1 yf2
  generalize hW2 : (((w_q.setCell ⟨w.heap.size, 0, none⟩ (Value.bool s_q)).setCell ⟨w.heap.size, 1, none⟩ (Value.slice A_q n_q c_q)).setCell ⟨w.heap.size, 2, none⟩ (Value.slice B_q m_q d_q)) = W2
  have XA2 : B3 W2 w.heap.size (Value.bool s_q) (Value.slice A_q n_q c_q) (Value.slice B_q m_q d_q) := by subst hW2; exact XA.set3 _ _ _
  have q2 : QG W2 s_q A_q n_q c_q B_q m_q d_q v.abs k := by subst hW2; exact q.set3 XA _ _ _
  have Z2 : B3 W2 (w.heap.size + 1) (Value.bool false) (Value.slice none 0 0) (Value.slice none 0 0) := by
    subst hW2
    unfold B3 at Z ⊢
    rw [Below.heap_setCell _ _ _ _ (by simp), Below.heap_setCell _ _ _ _ (by simp), Below.heap_setCell _ _ _ _ (by simp)]
    exact Z
  replace hb : Below w.heap.size w W2 := by subst hW2; exact below_set3 hb (Nat.le_refl _) _ _ _
  clear hW2 q XA Z
  have XA := XA2
  have Z := Z2
  have q := q2
  clear XA2 Z2 q2
  have hzl := Z.lt
  have HG : Hid (w.heap.size + 1 < W2.heap.size) := hzl
  clear hzl
  go_upto_region 5 with (fail)
  generalize hW1 : W2.alloc (Obj.cells #[Value.int .i64 0] 163) = W1
  have hh : Below W2.heap.size W2 W1 := by subst hW1; exact (Below.refl _ _).alloc (Nat.le_refl _) _
  have C : Ct W1 W2.heap.size 0 := by subst hW1; exact Ct.new' _ _ _ rfl
  clear hW1
  replace q := q.below hh
  replace XA := XA.below hh
  replace Z := Z.below hh
  replace hb := bend hb hh
  replace C : Ct W1.drew W2.heap.size 0 := C
  replace q := q.below (Below.refl _ _).drew
  replace XA := XA.below (Below.refl _ _).drew
  replace Z := Z.below (Below.refl _ _).drew
  replace hb := hb.drew
  go_region_held3 (fun w' => w'.cell? ⟨w.heap.size, 0, none⟩ = some (.bool s_q) ∧ w'.cell? ⟨w.heap.size, 1, none⟩ = some (.slice A_q n_q c_q) ∧ w'.cell? ⟨w.heap.size, 2, none⟩ = some (.slice B_q m_q d_q))
    (first | with_reducible exact ⟨XA.c0, XA.c1, XA.c2⟩)
    (first
    | (go_at_call 140; (with_reducible refine (root_sq C (by decide) (by decide) (q.nrP hk) H1.out).mono ?_); rintro e w_u1 ⟨A_u1, n_u1, c_u1, rfl, u1, ho, C2⟩
       replace XA := XA.cnt (by have := HG.out; omega) ho
       replace Z := Z.cnt (by have := HG.out; omega) ho
       try replace q := q.cnt C ho
       try replace u2 := u2.cnt C ho
       replace hb := Below.only hb (by have := HG.out; omega) hb.size ho
       clear C
       have C := C2
       clear C2 ho)
    | (go_at_call 140; (with_reducible refine (root_sq C (by decide) (by decide) (q.nrQ hk) H2.out).mono ?_); rintro e w_u2 ⟨A_u2, n_u2, c_u2, rfl, u2, ho, C2⟩
       replace XA := XA.cnt (by have := HG.out; omega) ho
       replace Z := Z.cnt (by have := HG.out; omega) ho
       try replace q := q.cnt C ho
       try replace u1 := u1.cnt C ho
       replace hb := Below.only hb (by have := HG.out; omega) hb.size ho
       clear C
       have C := C2
       clear C2 ho))
  have zf0 := Z.f0
  have zf1 := Z.f1
  have zf2 := Z.f2
  have z0 := Z.c0
  have z1 := Z.c1
  have z2 := Z.c2
  go_wp2_with (first
      | (go_at_call 143; (with_reducible refine (load_any C).mono ?_); rintro e w_l ⟨rfl, rfl⟩))
  have Z2 := Z.set3 (.bool false) (.slice A_u1 n_u1 c_u1) (.slice A_u2 n_u2 c_u2)
  have g0 := Z2.c0
  have g1 := Z2.c1
  have g2 := Z2.c2
  refine bodyPost_ret (v := .tuple #[.agg #[.bool false, .slice A_u1 n_u1 c_u1, .slice A_u2 n_u2 c_u2], .bool true]) (by simp [results, Tryz.results53, go_sem, g0, g1, g2]) rfl ?_
  have ho := (((Only.refl (w.heap.size + 1) w_u2).setCell 0 (.bool false)).setCell 1 (.slice A_u1 n_u1 c_u1)).setCell 2 (.slice A_u2 n_u2 c_u2)
  exact ⟨false, A_u1, n_u1, c_u1, A_u2, n_u2, c_u2, rfl, rfl, u1.only (u1.nr.off3 Z) ho, u2.only (u2.nr.off3 Z) ho, below_set3 hb (by omega) _ _ _⟩
set_option maxRecDepth 100000 in
set_option maxHeartbeats 8000000 in
theorem exact_yn {w : World} {s : Bool} {A A' : Option Addr} {n c n' c' k : Nat} {v : Rat} {a : Nat} (X : QR w s A n c A' n' c' v k) (hv : 0 ≤ v) (hk : k ≤ 78) (hk1 : 1 ≤ k) (h1 : a * a = v.abs.num.natAbs) (h2 : ¬ IsSq v.abs.den) :
    Calls Tryz.prog 53 #[.agg #[.bool s, .slice A n c, .slice A' n' c']] w fun e w' => e = .returned (.tuple #[.agg #[.bool false, .slice none 0 0, .slice none 0 0], .bool false]) ∧ Below w.heap.size w w' := by
  obtain ⟨g, hg, hg0⟩ : ∃ g, sgnQ v = g ∧ ¬ g < 0 := ⟨_, rfl, by unfold sgnQ; rw [if_neg (Rat.not_lt.2 hv)]; split <;> decide⟩
  have HG0 := Lib.hid hg
  have H1 := Lib.hid h1
  have H2 := Lib.hid h2
  clear hg hv h1 h2
  go_enter Tryz.func53, Tryz.ntmps53
  go_wp2_with fail
  generalize hW : ((w.alloc (Obj.cells #[Value.bool s, Value.slice A n c, Value.slice A' n' c'] 26)).alloc (Obj.cells #[Value.bool false, Value.slice none 0 0, Value.slice none 0 0] 26)) = W
  have hb : Below w.heap.size w W := by subst hW; exact (((Below.refl _ _).alloc (Nat.le_refl _) _).alloc (by simp) _)
  have XA : B3 W (w.heap.size) (Value.bool s) (Value.slice A n c) (Value.slice A' n' c') := by subst hW; exact (B3.new' _ _ _ _ _ rfl).alloc _
  have Z : B3 W (w.heap.size + 1) (Value.bool false) (Value.slice none 0 0) (Value.slice none 0 0) := by subst hW; exact B3.new' _ _ _ _ _ (by simp)
  have hzW : W.heap.size = w.heap.size + 2 := by subst hW; simp
  clear hW
  replace X := X.below hb
  have xa0 := XA.c0
  have xa1 := XA.c1
  have xa2 := XA.c2
  have yf0 := XA.f0
  have yf1 := XA.f1
  have yf2 := XA.f2
  have y0 := XA.c0
  have y1 := XA.c1
  have y2 := XA.c2
  go_upto_region 4 with (first
      | (go_at_call 30; (with_reducible refine (rsign_q X (by omega) hk1).mono ?_); rintro e w_z ⟨rfl, hh⟩
         rw [HG0.out]
         try replace X := X.below hh
         try replace q := q.below hh
         try replace XA := XA.below hh
         try replace Z := Z.below hh
         try replace C := C.below hh
         replace hb := bend hb hh
         have xa0 := XA.c0
         have xa1 := XA.c1
         have xa2 := XA.c2
         have yf0 := XA.f0
         have yf1 := XA.f1
         have yf2 := XA.f2
         have y0 := XA.c0
         have y1 := XA.c1
         have y2 := XA.c2)
      | (go_at_call 33; (with_reducible refine (rabs_q X (by omega) hk1).mono ?_); rintro e w_q ⟨s_q, A_q, n_q, c_q, B_q, m_q, d_q, rfl, q, hh⟩
         try replace X := X.below hh
         try replace XA := XA.below hh
         try replace Z := Z.below hh
         try replace C := C.below hh
         replace hb := bend hb hh
         have xa0 := XA.c0
         have xa1 := XA.c1
         have xa2 := XA.c2
         have yf0 := XA.f0
         have yf1 := XA.f1
         have yf2 := XA.f2
         have y0 := XA.c0
         have y1 := XA.c1
         have y2 := XA.c2))
  clear X xa0 xa1 xa2 y0 y1 y2 yf0 yf1 yf2
  generalize hW2 : (((w_q.setCell ⟨w.heap.size, 0, none⟩ (Value.bool s_q)).setCell ⟨w.heap.size, 1, none⟩ (Value.slice A_q n_q c_q)).setCell ⟨w.heap.size, 2, none⟩ (Value.slice B_q m_q d_q)) = W2
  have XA2 : B3 W2 w.heap.size (Value.bool s_q) (Value.slice A_q n_q c_q) (Value.slice B_q m_q d_q) := by subst hW2; exact XA.set3 _ _ _
  have q2 : QG W2 s_q A_q n_q c_q B_q m_q d_q v.abs k := by subst hW2; exact q.set3 XA _ _ _
  have Z2 : B3 W2 (w.heap.size + 1) (Value.bool false) (Value.slice none 0 0) (Value.slice none 0 0) := by
    subst hW2
    unfold B3 at Z ⊢
    rw [Below.heap_setCell _ _ _ _ (by simp), Below.heap_setCell _ _ _ _ (by simp), Below.heap_setCell _ _ _ _ (by simp)]
    exact Z
  replace hb : Below w.heap.size w W2 := by subst hW2; exact below_set3 hb (Nat.le_refl _) _ _ _
  clear hW2 q XA Z
  have XA := XA2
  have Z := Z2
  have q := q2
  clear XA2 Z2 q2
  have hzl := Z.lt
  have HG : Hid (w.heap.size + 1 < W2.heap.size) := hzl
  clear hzl
  go_upto_region 5 with (fail)
  generalize hW1 : W2.alloc (Obj.cells #[Value.int .i64 0] 163) = W1
  have hh : Below W2.heap.size W2 W1 := by subst hW1; exact (Below.refl _ _).alloc (Nat.le_refl _) _
  have C : Ct W1 W2.heap.size 0 := by subst hW1; exact Ct.new' _ _ _ rfl
  clear hW1
  replace q := q.below hh
  replace XA := XA.below hh
  replace Z := Z.below hh
  replace hb := bend hb hh
  replace C : Ct W1.drew W2.heap.size 0 := C
  replace q := q.below (Below.refl _ _).drew
  replace XA := XA.below (Below.refl _ _).drew
  replace Z := Z.below (Below.refl _ _).drew
  replace hb := hb.drew
  go_region_held3 (fun w' => w'.cell? ⟨w.heap.size, 0, none⟩ = some (.bool s_q) ∧ w'.cell? ⟨w.heap.size, 1, none⟩ = some (.slice A_q n_q c_q) ∧ w'.cell? ⟨w.heap.size, 2, none⟩ = some (.slice B_q m_q d_q))
    (first | with_reducible exact ⟨XA.c0, XA.c1, XA.c2⟩)
    (first
    | (go_at_call 140; (with_reducible refine (root_sq C (by decide) (by decide) (q.nrP hk) H1.out).mono ?_); rintro e w_u1 ⟨A_u1, n_u1, c_u1, rfl, u1, ho, C2⟩
       replace XA := XA.cnt (by have := HG.out; omega) ho
       replace Z := Z.cnt (by have := HG.out; omega) ho
       try replace q := q.cnt C ho
       try replace u2 := u2.cnt C ho
       replace hb := Below.only hb (by have := HG.out; omega) hb.size ho
       clear C
       have C := C2
       clear C2 ho)
    | (go_at_call 140; (with_reducible refine (root_no C (by decide) (by decide) (q.nrQ hk) H2.out).mono ?_); rintro e w_u2 ⟨A_u2, n_u2, c_u2, rfl, ho, C2⟩
       replace XA := XA.cnt (by have := HG.out; omega) ho
       replace Z := Z.cnt (by have := HG.out; omega) ho
       try replace q := q.cnt C ho
       try replace u1 := u1.cnt C ho
       replace hb := Below.only hb (by have := HG.out; omega) hb.size ho
       clear C
       have C := C2
       clear C2 ho))
  have zf0 := Z.f0
  have zf1 := Z.f1
  have zf2 := Z.f2
  have z0 := Z.c0
  have z1 := Z.c1
  have z2 := Z.c2
  go_wp2_with (first
      | (go_at_call 143; (with_reducible refine (load_any C).mono ?_); rintro e w_l ⟨rfl, rfl⟩))
  have Z2 := Z.set3 (.bool false) (.slice none 0 0) (.slice none 0 0)
  have g0 := Z2.c0
  have g1 := Z2.c1
  have g2 := Z2.c2
  refine bodyPost_ret (v := .tuple #[.agg #[.bool false, .slice none 0 0, .slice none 0 0], .bool false]) (by simp [results, Tryz.results53, go_sem, g0, g1, g2]) rfl ?_
  exact ⟨rfl, below_set3 hb (by omega) _ _ _⟩
set_option maxRecDepth 100000 in
set_option maxHeartbeats 8000000 in
theorem exact_ny {w : World} {s : Bool} {A A' : Option Addr} {n c n' c' k : Nat} {v : Rat} {b : Nat} (X : QR w s A n c A' n' c' v k) (hv : 0 ≤ v) (hk : k ≤ 78) (hk1 : 1 ≤ k) (h1 : ¬ IsSq v.abs.num.natAbs) (h2 : b * b = v.abs.den) :
    Calls Tryz.prog 53 #[.agg #[.bool s, .slice A n c, .slice A' n' c']] w fun e w' => e = .returned (.tuple #[.agg #[.bool false, .slice none 0 0, .slice none 0 0], .bool false]) ∧ Below w.heap.size w w' := by
  obtain ⟨g, hg, hg0⟩ : ∃ g, sgnQ v = g ∧ ¬ g < 0 := ⟨_, rfl, by unfold sgnQ; rw [if_neg (Rat.not_lt.2 hv)]; split <;> decide⟩
  have HG0 := Lib.hid hg
  have H1 := Lib.hid h1
  have H2 := Lib.hid h2
  clear hg hv h1 h2
  go_enter Tryz.func53, Tryz.ntmps53
  go_wp2_with fail
  generalize hW : ((w.alloc (Obj.cells #[Value.bool s, Value.slice A n c, Value.slice A' n' c'] 26)).alloc (Obj.cells #[Value.bool false, Value.slice none 0 0, Value.slice none 0 0] 26)) = W
  have hb : Below w.heap.size w W := by subst hW; exact (((Below.refl _ _).alloc (Nat.le_refl _) _).alloc (by simp) _)
  have XA : B3 W (w.heap.size) (Value.bool s) (Value.slice A n c) (Value.slice A' n' c') := by subst hW; exact (B3.new' _ _ _ _ _ rfl).alloc _
  have Z : B3 W (w.heap.size + 1) (Value.bool false) (Value.slice none 0 0) (Value.slice none 0 0) := by subst hW; exact B3.new' _ _ _ _ _ (by simp)
  have hzW : W.heap.size = w.heap.size + 2 := by subst hW; simp
  clear hW
  replace X := X.below hb
  have xa0 := XA.c0
  have xa1 := XA.c1
  have xa2 := XA.c2
  have yf0 := XA.f0
  have yf1 := XA.f1
  have yf2 := XA.f2
  have y0 := XA.c0
  have y1 := XA.c1
  have y2 := XA.c2
  go_upto_region 4 with (first
      | (go_at_call 30; (with_reducible refine (rsign_q X (by omega) hk1).mono ?_); rintro e w_z ⟨rfl, hh⟩
         rw [HG0.out]
         try replace X := X.below hh
         try replace q := q.below hh
         try replace XA := XA.below hh
         try replace Z := Z.below hh
         try replace C := C.below hh
         replace hb := bend hb hh
         have xa0 := XA.c0
         have xa1 := XA.c1
         have xa2 := XA.c2
         have yf0 := XA.f0
         have yf1 := XA.f1
         have yf2 := XA.f2
         have y0 := XA.c0
         have y1 := XA.c1
         have y2 := XA.c2)
      | (go_at_call 33; (with_reducible refine (rabs_q X (by omega) hk1).mono ?_); rintro e w_q ⟨s_q, A_q, n_q, c_q, B_q, m_q, d_q, rfl, q, hh⟩
         try replace X := X.below hh
         try replace XA := XA.below hh
         try replace Z := Z.below hh
         try replace C := C.below hh
         replace hb := bend hb hh
         have xa0 := XA.c0
         have xa1 := XA.c1
         have xa2 := XA.c2
         have yf0 := XA.f0
         have yf1 := XA.f1
         have yf2 := XA.f2
         have y0 := XA.c0
         have y1 := XA.c1
         have y2 := XA.c2))
  clear X xa0 xa1 xa2 y0 y1 y2 yf0 yf1 yf2
  generalize hW2 : (((w_q.setCell ⟨w.heap.size, 0, none⟩ (Value.bool s_q)).setCell ⟨w.heap.size, 1, none⟩ (Value.slice A_q n_q c_q)).setCell ⟨w.heap.size, 2, none⟩ (Value.slice B_q m_q d_q)) = W2
  have XA2 : B3 W2 w.heap.size (Value.bool s_q) (Value.slice A_q n_q c_q) (Value.slice B_q m_q d_q) := by subst hW2; exact XA.set3 _ _ _
  have q2 : QG W2 s_q A_q n_q c_q B_q m_q d_q v.abs k := by subst hW2; exact q.set3 XA _ _ _
  have Z2 : B3 W2 (w.heap.size + 1) (Value.bool false) (Value.slice none 0 0) (Value.slice none 0 0) := by
    subst hW2
    unfold B3 at Z ⊢
    rw [Below.heap_setCell _ _ _ _ (by simp), Below.heap_setCell _ _ _ _ (by simp), Below.heap_setCell _ _ _ _ (by simp)]
    exact Z
  replace hb : Below w.heap.size w W2 := by subst hW2; exact below_set3 hb (Nat.le_refl _) _ _ _
  clear hW2 q XA Z
  have XA := XA2
  have Z := Z2
  have q := q2
  clear XA2 Z2 q2
  have hzl := Z.lt
  have HG : Hid (w.heap.size + 1 < W2.heap.size) := hzl
  clear hzl
  go_upto_region 5 with (fail)
  generalize hW1 : W2.alloc (Obj.cells #[Value.int .i64 0] 163) = W1
  have hh : Below W2.heap.size W2 W1 := by subst hW1; exact (Below.refl _ _).alloc (Nat.le_refl _) _
  have C : Ct W1 W2.heap.size 0 := by subst hW1; exact Ct.new' _ _ _ rfl
  clear hW1
  replace q := q.below hh
  replace XA := XA.below hh
  replace Z := Z.below hh
  replace hb := bend hb hh
  replace C : Ct W1.drew W2.heap.size 0 := C
  replace q := q.below (Below.refl _ _).drew
  replace XA := XA.below (Below.refl _ _).drew
  replace Z := Z.below (Below.refl _ _).drew
  replace hb := hb.drew
  go_region_held3 (fun w' => w'.cell? ⟨w.heap.size, 0, none⟩ = some (.bool s_q) ∧ w'.cell? ⟨w.heap.size, 1, none⟩ = some (.slice A_q n_q c_q) ∧ w'.cell? ⟨w.heap.size, 2, none⟩ = some (.slice B_q m_q d_q))
    (first | with_reducible exact ⟨XA.c0, XA.c1, XA.c2⟩)
    (first
    | (go_at_call 140; (with_reducible refine (root_no C (by decide) (by decide) (q.nrP hk) H1.out).mono ?_); rintro e w_u1 ⟨A_u1, n_u1, c_u1, rfl, ho, C2⟩
       replace XA := XA.cnt (by have := HG.out; omega) ho
       replace Z := Z.cnt (by have := HG.out; omega) ho
       try replace q := q.cnt C ho
       try replace u2 := u2.cnt C ho
       replace hb := Below.only hb (by have := HG.out; omega) hb.size ho
       clear C
       have C := C2
       clear C2 ho)
    | (go_at_call 140; (with_reducible refine (root_sq C (by decide) (by decide) (q.nrQ hk) H2.out).mono ?_); rintro e w_u2 ⟨A_u2, n_u2, c_u2, rfl, u2, ho, C2⟩
       replace XA := XA.cnt (by have := HG.out; omega) ho
       replace Z := Z.cnt (by have := HG.out; omega) ho
       try replace q := q.cnt C ho
       try replace u1 := u1.cnt C ho
       replace hb := Below.only hb (by have := HG.out; omega) hb.size ho
       clear C
       have C := C2
       clear C2 ho))
  have zf0 := Z.f0
  have zf1 := Z.f1
  have zf2 := Z.f2
  have z0 := Z.c0
  have z1 := Z.c1
  have z2 := Z.c2
  go_wp2_with (first
      | (go_at_call 143; (with_reducible refine (load_any C).mono ?_); rintro e w_l ⟨rfl, rfl⟩))
  have Z2 := Z.set3 (.bool false) (.slice none 0 0) (.slice none 0 0)
  have g0 := Z2.c0
  have g1 := Z2.c1
  have g2 := Z2.c2
  refine bodyPost_ret (v := .tuple #[.agg #[.bool false, .slice none 0 0, .slice none 0 0], .bool false]) (by simp [results, Tryz.results53, go_sem, g0, g1, g2]) rfl ?_
  exact ⟨rfl, below_set3 hb (by omega) _ _ _⟩
set_option maxRecDepth 100000 in
set_option maxHeartbeats 8000000 in
theorem exact_nn {w : World} {s : Bool} {A A' : Option Addr} {n c n' c' k : Nat} {v : Rat} (X : QR w s A n c A' n' c' v k) (hv : 0 ≤ v) (hk : k ≤ 78) (hk1 : 1 ≤ k) (h1 : ¬ IsSq v.abs.num.natAbs) (h2 : ¬ IsSq v.abs.den) :
    Calls Tryz.prog 53 #[.agg #[.bool s, .slice A n c, .slice A' n' c']] w fun e w' => e = .returned (.tuple #[.agg #[.bool false, .slice none 0 0, .slice none 0 0], .bool false]) ∧ Below w.heap.size w w' := by
  obtain ⟨g, hg, hg0⟩ : ∃ g, sgnQ v = g ∧ ¬ g < 0 := ⟨_, rfl, by unfold sgnQ; rw [if_neg (Rat.not_lt.2 hv)]; split <;> decide⟩
  have HG0 := Lib.hid hg
  have H1 := Lib.hid h1
  have H2 := Lib.hid h2
  clear hg hv h1 h2
  go_enter Tryz.func53, Tryz.ntmps53
  go_wp2_with fail
  generalize hW : ((w.alloc (Obj.cells #[Value.bool s, Value.slice A n c, Value.slice A' n' c'] 26)).alloc (Obj.cells #[Value.bool false, Value.slice none 0 0, Value.slice none 0 0] 26)) = W
  have hb : Below w.heap.size w W := by subst hW; exact (((Below.refl _ _).alloc (Nat.le_refl _) _).alloc (by simp) _)
  have XA : B3 W (w.heap.size) (Value.bool s) (Value.slice A n c) (Value.slice A' n' c') := by subst hW; exact (B3.new' _ _ _ _ _ rfl).alloc _
  have Z : B3 W (w.heap.size + 1) (Value.bool false) (Value.slice none 0 0) (Value.slice none 0 0) := by subst hW; exact B3.new' _ _ _ _ _ (by simp)
  have hzW : W.heap.size = w.heap.size + 2 := by subst hW; simp
  clear hW
  replace X := X.below hb
  have xa0 := XA.c0
  have xa1 := XA.c1
  have xa2 := XA.c2
  have yf0 := XA.f0
  have yf1 := XA.f1
  have yf2 := XA.f2
  have y0 := XA.c0
  have y1 := XA.c1
  have y2 := XA.c2
  go_upto_region 4 with (first
      | (go_at_call 30; (with_reducible refine (rsign_q X (by omega) hk1).mono ?_); rintro e w_z ⟨rfl, hh⟩
         rw [HG0.out]
         try replace X := X.below hh
         try replace q := q.below hh
         try replace XA := XA.below hh
         try replace Z := Z.below hh
         try replace C := C.below hh
         replace hb := bend hb hh
         have xa0 := XA.c0
         have xa1 := XA.c1
         have xa2 := XA.c2
         have yf0 := XA.f0
         have yf1 := XA.f1
         have yf2 := XA.f2
         have y0 := XA.c0
         have y1 := XA.c1
         have y2 := XA.c2)
      | (go_at_call 33; (with_reducible refine (rabs_q X (by omega) hk1).mono ?_); rintro e w_q ⟨s_q, A_q, n_q, c_q, B_q, m_q, d_q, rfl, q, hh⟩
         try replace X := X.below hh
         try replace XA := XA.below hh
         try replace Z := Z.below hh
         try replace C := C.below hh
         replace hb := bend hb hh
         have xa0 := XA.c0
         have xa1 := XA.c1
         have xa2 := XA.c2
         have yf0 := XA.f0
         have yf1 := XA.f1
         have yf2 := XA.f2
         have y0 := XA.c0
         have y1 := XA.c1
         have y2 := XA.c2))
  clear X xa0 xa1 xa2 y0 y1 y2 yf0 yf1 yf2
  generalize hW2 : (((w_q.setCell ⟨w.heap.size, 0, none⟩ (Value.bool s_q)).setCell ⟨w.heap.size, 1, none⟩ (Value.slice A_q n_q c_q)).setCell ⟨w.heap.size, 2, none⟩ (Value.slice B_q m_q d_q)) = W2
  have XA2 : B3 W2 w.heap.size (Value.bool s_q) (Value.slice A_q n_q c_q) (Value.slice B_q m_q d_q) := by subst hW2; exact XA.set3 _ _ _
  have q2 : QG W2 s_q A_q n_q c_q B_q m_q d_q v.abs k := by subst hW2; exact q.set3 XA _ _ _
  have Z2 : B3 W2 (w.heap.size + 1) (Value.bool false) (Value.slice none 0 0) (Value.slice none 0 0) := by
    subst hW2
    unfold B3 at Z ⊢
    rw [Below.heap_setCell _ _ _ _ (by simp), Below.heap_setCell _ _ _ _ (by simp), Below.heap_setCell _ _ _ _ (by simp)]
    exact Z
  replace hb : Below w.heap.size w W2 := by subst hW2; exact below_set3 hb (Nat.le_refl _) _ _ _
  clear hW2 q XA Z
  have XA := XA2
  have Z := Z2
  have q := q2
  clear XA2 Z2 q2
  have hzl := Z.lt
  have HG : Hid (w.heap.size + 1 < W2.heap.size) := hzl
  clear hzl
  go_upto_region 5 with (fail)
  generalize hW1 : W2.alloc (Obj.cells #[Value.int .i64 0] 163) = W1
  have hh : Below W2.heap.size W2 W1 := by subst hW1; exact (Below.refl _ _).alloc (Nat.le_refl _) _
  have C : Ct W1 W2.heap.size 0 := by subst hW1; exact Ct.new' _ _ _ rfl
  clear hW1
  replace q := q.below hh
  replace XA := XA.below hh
  replace Z := Z.below hh
  replace hb := bend hb hh
  replace C : Ct W1.drew W2.heap.size 0 := C
  replace q := q.below (Below.refl _ _).drew
  replace XA := XA.below (Below.refl _ _).drew
  replace Z := Z.below (Below.refl _ _).drew
  replace hb := hb.drew
  go_region_held3 (fun w' => w'.cell? ⟨w.heap.size, 0, none⟩ = some (.bool s_q) ∧ w'.cell? ⟨w.heap.size, 1, none⟩ = some (.slice A_q n_q c_q) ∧ w'.cell? ⟨w.heap.size, 2, none⟩ = some (.slice B_q m_q d_q))
    (first | with_reducible exact ⟨XA.c0, XA.c1, XA.c2⟩)
    (first
    | (go_at_call 140; (with_reducible refine (root_no C (by decide) (by decide) (q.nrP hk) H1.out).mono ?_); rintro e w_u1 ⟨A_u1, n_u1, c_u1, rfl, ho, C2⟩
       replace XA := XA.cnt (by have := HG.out; omega) ho
       replace Z := Z.cnt (by have := HG.out; omega) ho
       try replace q := q.cnt C ho
       try replace u2 := u2.cnt C ho
       replace hb := Below.only hb (by have := HG.out; omega) hb.size ho
       clear C
       have C := C2
       clear C2 ho)
    | (go_at_call 140; (with_reducible refine (root_no C (by decide) (by decide) (q.nrQ hk) H2.out).mono ?_); rintro e w_u2 ⟨A_u2, n_u2, c_u2, rfl, ho, C2⟩
       replace XA := XA.cnt (by have := HG.out; omega) ho
       replace Z := Z.cnt (by have := HG.out; omega) ho
       try replace q := q.cnt C ho
       try replace u1 := u1.cnt C ho
       replace hb := Below.only hb (by have := HG.out; omega) hb.size ho
       clear C
       have C := C2
       clear C2 ho))
  have zf0 := Z.f0
  have zf1 := Z.f1
  have zf2 := Z.f2
  have z0 := Z.c0
  have z1 := Z.c1
  have z2 := Z.c2
  go_wp2_with (first
      | (go_at_call 143; (with_reducible refine (load_any C).mono ?_); rintro e w_l ⟨rfl, rfl⟩))
  have Z2 := Z.set3 (.bool false) (.slice none 0 0) (.slice none 0 0)
  have g0 := Z2.c0
  have g1 := Z2.c1
  have g2 := Z2.c2
  refine bodyPost_ret (v := .tuple #[.agg #[.bool false, .slice none 0 0, .slice none 0 0], .bool false]) (by simp [results, Tryz.results53, go_sem, g0, g1, g2]) rfl ?_
  exact ⟨rfl, below_set3 hb (by omega) _ _ _⟩
end Go.Proofs.YtlkjkhpjhllapaaGreat
namespace Go.Proofs.YtlkjkhpjhllapaaGreat
theorem txt_one {V d : Nat} (h : 0 < d) (h2 : d < 10) (hV : V = d) : txt V = [UInt8.ofNat (48 + d)] := by
  subst hV
  rw [txt, if_neg (by omega), limbs_small (by omega) h2 (by omega)]
  rfl
theorem txt_two {V a b : Nat} (ha : 0 < a) (ha2 : a < 10) (hb : b < 10) (hV : V = 10 * a + b) : txt V = [UInt8.ofNat (48 + a), UInt8.ofNat (48 + b)] := by
  rw [txt_lit (l := [b, a]) ?_ (by omega)]
  · rfl
  · rw [limbs_pos (by decide) (by omega), show V % 10 = b by omega, show V / 10 = a by omega, limbs_small (by omega) ha2 (by omega)]
theorem qtxt_f {v : Rat} {a b : Nat} {l m : List UInt8} (hn : v.num = (a : Int)) (hd : v.den = b) (hb : b ≠ 1) (ha : txt a = l) (hm : txt b = m) : qtxt v = l ++ (47 :: m) := by
  unfold qtxt
  rw [if_neg (by omega), hn, hd]
  unfold ztxt
  rw [if_neg (by omega), show ((a : Int)).natAbs = a by omega, ha, hm]
end Go.Proofs.YtlkjkhpjhllapaaGreat
namespace Go.Proofs.YtlkjkhpjhllapaaGreat
open Go Go.RowKit
theorem sq_parts (u : Rat) : (u * u).num = u.num * u.num ∧ (u * u).den = u.den * u.den := by
  have h : u * u = mkRat (u.num * u.num) (u.den * u.den) := by
    conv => lhs; rw [← Rat.mkRat_self u]
    rw [mk_mul]
  rw [h]
  refine mk_cond (Nat.mul_ne_zero u.den_nz u.den_nz) ?_
  rw [Int.natAbs_mul]
  have h0 : Nat.Coprime u.num.natAbs u.den := u.reduced
  exact Nat.Coprime.mul_left (Nat.Coprime.mul_right h0 h0) (Nat.Coprime.mul_right h0 h0)
theorem abs_nn {v : Rat} (h : 0 ≤ v) : v.abs = v := by unfold Rat.abs; rw [if_pos h]
theorem exact_sq {w : World} {s : Bool} {A A' : Option Addr} {n c n' c' k : Nat} {v u : Rat} (X : QR w s A n c A' n' c' v k) (hu : 0 ≤ u) (hv : v = u * u) (hk : k ≤ 78) (hk1 : 1 ≤ k) :
    Calls Tryz.prog 53 #[.agg #[.bool s, .slice A n c, .slice A' n' c']] w fun e w' => ∃ s A n c B m d, e = .returned (.tuple #[.agg #[.bool s, .slice A n c, .slice B m d], .bool true]) ∧ QG w' s A n c B m d u 40 ∧ Below w.heap.size w w' := by
  have h0 : 0 ≤ v := by rw [hv]; exact Rat.mul_nonneg hu hu
  have hp := sq_parts u
  refine (exact_yy (a := u.num.natAbs) (b := u.den) X h0 hk hk1 ?_ ?_).mono ?_
  · rw [abs_nn h0, hv, hp.1, Int.natAbs_mul]
  · rw [abs_nn h0, hv, hp.2]
  rintro e w' ⟨s1, A1, n1, c1, B1, m1, d1, rfl, hs, p, q, hb⟩
  refine ⟨s1, A1, n1, c1, B1, m1, d1, rfl, ⟨⟨?_, p⟩, q⟩, hb⟩
  rw [hs]
  have : ¬ u.num < 0 := by rw [num_neg_iff]; exact Rat.not_lt.2 hu
  rw [decide_eq_false this]
theorem exact_not {w : World} {s : Bool} {A A' : Option Addr} {n c n' c' k : Nat} {v : Rat} (X : QR w s A n c A' n' c' v k) (hv : 0 ≤ v) (h : ¬ (IsSq v.num.natAbs ∧ IsSq v.den)) (hk : k ≤ 78) (hk1 : 1 ≤ k) :
    Calls Tryz.prog 53 #[.agg #[.bool s, .slice A n c, .slice A' n' c']] w fun e w' => e = .returned (.tuple #[.agg #[.bool false, .slice none 0 0, .slice none 0 0], .bool false]) ∧ Below w.heap.size w w' := by
  rw [← abs_nn hv] at h
  by_cases h1 : IsSq v.abs.num.natAbs
  · obtain ⟨a, ha⟩ := h1
    exact exact_yn X hv hk hk1 ha (fun q => h ⟨⟨a, ha⟩, q⟩)
  · by_cases h2 : IsSq v.abs.den
    · obtain ⟨b, hb⟩ := h2
      exact exact_ny X hv hk hk1 h1 hb
    · exact exact_nn X hv hk hk1 h1 h2
theorem IsLow.one {v : Rat} {k R S : Nat} (h : IsLow v k R) (g : IsLow v k S) : R = S := IsRoot.one h g
theorem IsHigh.one {v : Rat} {k R S : Nat} (h : IsHigh v k R) (g : IsHigh v k S) : R = S := by
  obtain ⟨a, h1, h2⟩ := h
  obtain ⟨b, g1, g2⟩ := g
  obtain rfl := h1.one g1
  rw [h2, g2]
theorem low_2 : IsLow (Rat.divInt 2 1) 3 11 := by unfold IsLow IsRoot; decide +kernel
theorem high_2 : IsHigh (Rat.divInt 2 1) 3 12 := ⟨11, by unfold IsRoot; decide +kernel, by decide +kernel⟩
theorem qt118 : (⟨(qtxt (inQ 11 3)).toArray⟩ : ByteArray) = ⟨#[49, 49, 47, 56]⟩ := by
  rw [qtxt_f (a := 11) (b := 8) (by decide +kernel) (by decide +kernel) (by decide) (txt_two (a := 1) (b := 1) (by decide) (by decide) (by decide) rfl) (txt_one (d := 8) (by decide) (by decide) rfl)]; rfl
theorem qt32h : (⟨(qtxt (inQ 12 3)).toArray⟩ : ByteArray) = ⟨#[51, 47, 50]⟩ := by
  rw [qtxt_f (a := 3) (b := 2) (by decide +kernel) (by decide +kernel) (by decide) (txt_one (d := 3) (by decide) (by decide) rfl) (txt_one (d := 2) (by decide) (by decide) rfl)]; rfl
theorem qt32e : (⟨(qtxt (Rat.divInt 3 2)).toArray⟩ : ByteArray) = ⟨#[51, 47, 50]⟩ := by
  rw [qtxt_f (a := 3) (b := 2) (by decide +kernel) (by decide +kernel) (by decide) (txt_one (d := 3) (by decide) (by decide) rfl) (txt_one (d := 2) (by decide) (by decide) rfl)]; rfl
theorem not_sq2 : ¬ (IsSq (Rat.divInt 2 1).num.natAbs ∧ IsSq (Rat.divInt 2 1).den) := by
  rintro ⟨⟨a, ha⟩, _⟩
  have h2 : (Rat.divInt 2 1).num.natAbs = 2 := by decide +kernel
  rw [h2] at ha
  rcases Nat.lt_or_ge a 2 with h | h
  · have : a = 0 ∨ a = 1 := by omega
    rcases this with rfl | rfl <;> simp at ha
  · have := Nat.mul_le_mul h h; omega
theorem pow_lt_B {h j : Nat} (hh : h < 64 * j) : 2 ^ h < B64 ^ j := by
  have e : B64 = 2 ^ 64 := rfl
  rw [e, ← Nat.pow_mul]
  exact Nat.pow_lt_pow_right (by decide) hh
theorem lt40 {h : Nat} (hh : h ≤ 400) : 2 ^ h < B64 ^ 40 := pow_lt_B (j := 40) (by omega)
theorem up_le {h j : Nat} (hh : h ≤ 32 * j) : 2 ^ (2 * h) ≤ B64 ^ j := by
  have e : B64 = 2 ^ 64 := rfl
  rw [e, ← Nat.pow_mul]
  exact Nat.pow_le_pow_right (by decide) (by omega)
theorem low_s {w : World} {s : Bool} {A A' : Option Addr} {n c n' c' k : Nat} {v : Rat} (h : Nat) (X : QR w s A n c A' n' c' v k) (hv : 0 ≤ v) (hk : k ≤ 60) (hk1 : 1 ≤ k) (hh : h ≤ 400) :
    Calls Tryz.prog 48 #[.agg #[.bool s, .slice A n c, .slice A' n' c'], .int .i64 (h : Int)] w (GivesPart w (IsLow v h) h) := low_q h 13 X hv (up_le (by omega)) (by omega) (lt40 hh) hk1 (by omega)
theorem high_s {w : World} {s : Bool} {A A' : Option Addr} {n c n' c' k : Nat} {v : Rat} (h : Nat) (X : QR w s A n c A' n' c' v k) (hv : 0 ≤ v) (hk : k ≤ 60) (hk1 : 1 ≤ k) (hh : h ≤ 400) :
    Calls Tryz.prog 49 #[.agg #[.bool s, .slice A n c, .slice A' n' c'], .int .i64 (h : Int)] w (GivesPart w (IsHigh v h) h) := high_q h 13 X hv (up_le (by omega)) (by omega) (lt40 hh) hk1 (by omega)
theorem low_23 {w : World} {s : Bool} {A A' : Option Addr} {n c n' c' k : Nat} (X : QR w s A n c A' n' c' (Rat.divInt 2 1) k) (hk : k ≤ 60) (hk1 : 1 ≤ k) :
    Calls Tryz.prog 48 #[.agg #[.bool s, .slice A n c, .slice A' n' c'], .int .i64 3] w (GivesQE w (inQ 11 3) 40) :=
  (low_s 3 X (by decide +kernel) hk hk1 (by decide)).mono fun e w' h => by
    obtain ⟨R, h1, h2⟩ := h
    rw [h1.one low_2] at h2
    exact h2
theorem high_23 {w : World} {s : Bool} {A A' : Option Addr} {n c n' c' k : Nat} (X : QR w s A n c A' n' c' (Rat.divInt 2 1) k) (hk : k ≤ 60) (hk1 : 1 ≤ k) :
    Calls Tryz.prog 49 #[.agg #[.bool s, .slice A n c, .slice A' n' c'], .int .i64 3] w (GivesQE w (inQ 12 3) 40) :=
  (high_s 3 X (by decide +kernel) hk hk1 (by decide)).mono fun e w' h => by
    obtain ⟨R, h1, h2⟩ := h
    rw [h1.one high_2] at h2
    exact h2
theorem sq94 : Rat.divInt 9 4 = Rat.divInt 3 2 * Rat.divInt 3 2 := by decide +kernel
set_option maxRecDepth 100000 in
set_option maxHeartbeats 8000000 in
theorem rwakes_any (w : World) : Calls Tryz.prog 47 #[] w fun e w' => e = .returned (.bool true) ∧ Below w.heap.size w w' := by
  have hb : Below w.heap.size w w := Below.refl _ _
  go_enter Tryz.func47, Tryz.ntmps47
  go_upto_region 2 with (first
      | (go_at_call 42; (with_reducible refine (rof_q 2 1 (by decide) (by decide) (by decide) (by decide) (by decide) _).mono ?_); rintro e w_o ⟨s_o, A_o, n_o, c_o, B_o, m_o, d_o, rfl, o, hh⟩
         try replace l := l.below hh
         try replace h := h.below hh
         try replace x := x.below hh
         try replace XL := XL.below hh
         try replace XH := XH.below hh
         try replace XC := XC.below hh
         try replace XE := XE.below hh
         replace hb := bend hb hh)
      | (go_at_call 48; (with_reducible refine (low_23 o.qr (by decide) (by decide)).mono ?_); rintro e w_l ⟨s_l, A_l, n_l, c_l, B_l, m_l, d_l, rfl, l, hh⟩
         try replace o := o.below hh
         try replace h := h.below hh
         try replace x := x.below hh
         try replace XL := XL.below hh
         try replace XH := XH.below hh
         try replace XC := XC.below hh
         try replace XE := XE.below hh
         replace hb := bend hb hh))
  clear o
  generalize hW : (w_l.alloc (Obj.cells #[Value.bool s_l, Value.slice A_l n_l c_l, Value.slice B_l m_l d_l] 26)) = W1
  have hh : Below w_l.heap.size w_l W1 := by subst hW; exact ((Below.refl _ _).alloc (Nat.le_refl _) _)
  have XL : B3 W1 (w_l.heap.size) (Value.bool s_l) (Value.slice A_l n_l c_l) (Value.slice B_l m_l d_l) := by subst hW; exact B3.new' _ _ _ _ _ rfl
  have hzW1 : W1.heap.size = w_l.heap.size + 1 := by subst hW; simp
  clear hW
  try replace l := l.below hh
  replace hb := bend hb hh
  go_upto_region 3 with (first
      | (go_at_call 42; (with_reducible refine (rof_q 2 1 (by decide) (by decide) (by decide) (by decide) (by decide) _).mono ?_); rintro e w_o ⟨s_o, A_o, n_o, c_o, B_o, m_o, d_o, rfl, o, hh⟩
         try replace l := l.below hh
         try replace h := h.below hh
         try replace x := x.below hh
         try replace XL := XL.below hh
         try replace XH := XH.below hh
         try replace XC := XC.below hh
         try replace XE := XE.below hh
         replace hb := bend hb hh)
      | (go_at_call 49; (with_reducible refine (high_23 o.qr (by decide) (by decide)).mono ?_); rintro e w_h ⟨s_h, A_h, n_h, c_h, B_h, m_h, d_h, rfl, h, hh⟩
         try replace o := o.below hh
         try replace l := l.below hh
         try replace x := x.below hh
         try replace XL := XL.below hh
         try replace XH := XH.below hh
         try replace XC := XC.below hh
         try replace XE := XE.below hh
         replace hb := bend hb hh))
  clear o
  generalize hW : (w_h.alloc (Obj.cells #[Value.bool s_h, Value.slice A_h n_h c_h, Value.slice B_h m_h d_h] 26)) = W2
  have hh : Below w_h.heap.size w_h W2 := by subst hW; exact ((Below.refl _ _).alloc (Nat.le_refl _) _)
  have XH : B3 W2 (w_h.heap.size) (Value.bool s_h) (Value.slice A_h n_h c_h) (Value.slice B_h m_h d_h) := by subst hW; exact B3.new' _ _ _ _ _ rfl
  have hzW2 : W2.heap.size = w_h.heap.size + 1 := by subst hW; simp
  clear hW
  try replace l := l.below hh
  try replace h := h.below hh
  try replace XL := XL.below hh
  replace hb := bend hb hh
  go_upto_region 4 with (first
      | (go_at_call 42; (with_reducible refine (rof_q 9 4 (by decide) (by decide) (by decide) (by decide) (by decide) _).mono ?_); rintro e w_o ⟨s_o, A_o, n_o, c_o, B_o, m_o, d_o, rfl, o, hh⟩
         try replace l := l.below hh
         try replace h := h.below hh
         try replace x := x.below hh
         try replace XL := XL.below hh
         try replace XH := XH.below hh
         try replace XC := XC.below hh
         try replace XE := XE.below hh
         replace hb := bend hb hh)
      | (go_at_call 53; (with_reducible refine (exact_sq o.qr (by decide +kernel) sq94 (by decide) (by decide)).mono ?_); rintro e w_x ⟨s_x, A_x, n_x, c_x, B_x, m_x, d_x, rfl, x, hh⟩
         try replace o := o.below hh
         try replace l := l.below hh
         try replace h := h.below hh
         try replace XL := XL.below hh
         try replace XH := XH.below hh
         try replace XC := XC.below hh
         try replace XE := XE.below hh
         replace hb := bend hb hh))
  clear o
  generalize hW : (w_x.alloc (Obj.cells #[Value.bool s_x, Value.slice A_x n_x c_x, Value.slice B_x m_x d_x] 26)) = W3
  have hh : Below w_x.heap.size w_x W3 := by subst hW; exact ((Below.refl _ _).alloc (Nat.le_refl _) _)
  have XC : B3 W3 (w_x.heap.size) (Value.bool s_x) (Value.slice A_x n_x c_x) (Value.slice B_x m_x d_x) := by subst hW; exact B3.new' _ _ _ _ _ rfl
  have hzW3 : W3.heap.size = w_x.heap.size + 1 := by subst hW; simp
  clear hW
  try replace l := l.below hh
  try replace h := h.below hh
  try replace x := x.below hh
  try replace XL := XL.below hh
  try replace XH := XH.below hh
  replace hb := bend hb hh
  go_upto_region 5 with (first
      | (go_at_call 42; (with_reducible refine (rof_q 2 1 (by decide) (by decide) (by decide) (by decide) (by decide) _).mono ?_); rintro e w_o ⟨s_o, A_o, n_o, c_o, B_o, m_o, d_o, rfl, o, hh⟩
         try replace l := l.below hh
         try replace h := h.below hh
         try replace x := x.below hh
         try replace XL := XL.below hh
         try replace XH := XH.below hh
         try replace XC := XC.below hh
         try replace XE := XE.below hh
         replace hb := bend hb hh)
      | (go_at_call 53; (with_reducible refine (exact_not o.qr (by decide +kernel) not_sq2 (by decide) (by decide)).mono ?_); rintro e w_e ⟨rfl, hh⟩
         try replace o := o.below hh
         try replace l := l.below hh
         try replace h := h.below hh
         try replace x := x.below hh
         try replace XL := XL.below hh
         try replace XH := XH.below hh
         try replace XC := XC.below hh
         try replace XE := XE.below hh
         replace hb := bend hb hh))
  clear o
  generalize hW : (w_e.alloc (Obj.cells #[Value.bool false, Value.slice none 0 0, Value.slice none 0 0] 26)) = W4
  have hh : Below w_e.heap.size w_e W4 := by subst hW; exact ((Below.refl _ _).alloc (Nat.le_refl _) _)
  have XE : B3 W4 (w_e.heap.size) (Value.bool false) (Value.slice none 0 0) (Value.slice none 0 0) := by subst hW; exact B3.new' _ _ _ _ _ rfl
  have hzW4 : W4.heap.size = w_e.heap.size + 1 := by subst hW; simp
  clear hW
  try replace l := l.below hh
  try replace h := h.below hh
  try replace x := x.below hh
  try replace XL := XL.below hh
  try replace XH := XH.below hh
  try replace XC := XC.below hh
  replace hb := bend hb hh
  have xl0 := XL.c0
  have xl1 := XL.c1
  have xl2 := XL.c2
  have xh0 := XH.c0
  have xh1 := XH.c1
  have xh2 := XH.c2
  have xc0 := XC.c0
  have xc1 := XC.c1
  have xc2 := XC.c2
  go_wp2_with (first
      | (go_at_call 40; (with_reducible refine (rtext_q l.qr (by decide) (by decide)).mono ?_); rintro e w_z ⟨rfl, hh⟩
         rw [qt118]
         try replace o := o.below hh
         try replace l := l.below hh
         try replace h := h.below hh
         try replace x := x.below hh
         try replace XL := XL.below hh
         try replace XH := XH.below hh
         try replace XC := XC.below hh
         try replace XE := XE.below hh
         replace hb := bend hb hh
         have xl0 := XL.c0
         have xl1 := XL.c1
         have xl2 := XL.c2
         have xh0 := XH.c0
         have xh1 := XH.c1
         have xh2 := XH.c2
         have xc0 := XC.c0
         have xc1 := XC.c1
         have xc2 := XC.c2)
      | (go_at_call 40; (with_reducible refine (rtext_q h.qr (by decide) (by decide)).mono ?_); rintro e w_z ⟨rfl, hh⟩
         rw [qt32h]
         try replace o := o.below hh
         try replace l := l.below hh
         try replace h := h.below hh
         try replace x := x.below hh
         try replace XL := XL.below hh
         try replace XH := XH.below hh
         try replace XC := XC.below hh
         try replace XE := XE.below hh
         replace hb := bend hb hh
         have xl0 := XL.c0
         have xl1 := XL.c1
         have xl2 := XL.c2
         have xh0 := XH.c0
         have xh1 := XH.c1
         have xh2 := XH.c2
         have xc0 := XC.c0
         have xc1 := XC.c1
         have xc2 := XC.c2)
      | (go_at_call 40; (with_reducible refine (rtext_q x.qr (by decide) (by decide)).mono ?_); rintro e w_z ⟨rfl, hh⟩
         rw [qt32e]
         try replace o := o.below hh
         try replace l := l.below hh
         try replace h := h.below hh
         try replace x := x.below hh
         try replace XL := XL.below hh
         try replace XH := XH.below hh
         try replace XC := XC.below hh
         try replace XE := XE.below hh
         replace hb := bend hb hh
         have xl0 := XL.c0
         have xl1 := XL.c1
         have xl2 := XL.c2
         have xh0 := XH.c0
         have xh1 := XH.c1
         have xh2 := XH.c2
         have xc0 := XC.c0
         have xc1 := XC.c1
         have xc2 := XC.c2))
  go_ret
  exact ⟨rfl, hb⟩
end Go.Proofs.YtlkjkhpjhllapaaGreat
namespace Go.Proofs.YtlkjkhpjhllapaaGreat
open Go Go.RowKit
theorem wpOp_plain' {P : Program} {ops : Array Oper} {Q : Exit → Act → World → Prop} {i : Nat} {o : Oper} {K : Act → World → Prop} {a : Act} {w : World} (hi : ops[i]? = some o) (hg : o.guard = none) (h : o.wp P a w K Q) : wpOp P ops Q i K a w := by
  unfold wpOp
  rw [hi]
  simp only [Region.wanted, hg, if_true]
  exact .inl h
structure BoxAt (T : TypeId) (w : World) (g : Nat) (cs : Array Value) : Prop where
  at_ : w.heap[g]? = some (.cells cs T (0, 0))
  free : ∀ (i : Nat) (k : IntKind) (x : Int), cs[i]? ≠ some (Value.int k x)
section
variable {T : TypeId} {w w' : World} {g : Nat} {cs : Array Value}
theorem BoxAt.lt (h : BoxAt T w g cs) : g < w.heap.size := by
  rcases Nat.lt_or_ge g w.heap.size with k | k
  · exact k
  · have := h.at_; simp [Array.getElem?_eq_none k] at this
theorem BoxAt.below (h : BoxAt T w g cs) (hb : Below w.heap.size w w') : BoxAt T w' g cs := ⟨(hb.block g h.lt).trans h.at_, h.free⟩
theorem BoxAt.offx {K : IntKind} {A : Option Addr} {n : Nat} {l : List Nat} (h : BoxAt T w g cs) (hr : Rd K w A n l) : Off A n g := by
  intro hn ad e hg
  obtain ⟨b, o, eA, hc⟩ := hr.at_ hn
  obtain ⟨y, _, hx⟩ := hc 0 hn
  rw [eA] at e
  cases e
  have hg2 : b = g := hg
  subst hg2
  rw [cell_of_row w b (o + 0) _ _ (0, 0) h.at_] at hx
  exact h.free _ _ _ hx
theorem NR.box {A : Option Addr} {n c V k : Nat} (h : NR w A n c V k) (B : BoxAt T w g cs) (ho : Only g w w') : NR w' A n c V k := by
  obtain ⟨l, h1, h2⟩ := h; exact ⟨l, h1.only (B.offx h1) ho, h2⟩
theorem NG.box {A : Option Addr} {n c V k : Nat} (h : NG w A n c V k) (B : BoxAt T w g cs) (ho : Only g w w') : NG w' A n c V k := ⟨h.1.only (B.offx h.1) ho, h.2⟩
theorem ZG.box {s : Bool} {A : Option Addr} {n c k : Nat} {v : Int} (h : ZG w s A n c v k) (B : BoxAt T w g cs) (ho : Only g w w') : ZG w' s A n c v k := ⟨h.1, h.2.1.only (B.offx h.2.1) ho, h.2.2⟩
theorem ZR.box {s : Bool} {A : Option Addr} {n c k : Nat} {v : Int} (h : ZR w s A n c v k) (B : BoxAt T w g cs) (ho : Only g w w') : ZR w' s A n c v k := by
  obtain ⟨l, h1, h2⟩ := h; exact ⟨l, h1.only (B.offx h1) ho, h2⟩
theorem QG.box {s : Bool} {A A' : Option Addr} {n c n' c' k : Nat} {v : Rat} (h : QG w s A n c A' n' c' v k) (B : BoxAt T w g cs) (ho : Only g w w') : QG w' s A n c A' n' c' v k := ⟨h.1.box B ho, h.2.box B ho⟩
theorem QR.box {s : Bool} {A A' : Option Addr} {n c n' c' k : Nat} {v : Rat} (h : QR w s A n c A' n' c' v k) (B : BoxAt T w g cs) (ho : Only g w w') : QR w' s A n c A' n' c' v k := by
  obtain ⟨p, q, h1, h2, h3⟩ := h; exact ⟨p, q, h1.box B ho, h2.box B ho, h3⟩
end
theorem free2 (s : Bool) (A : Option Addr) (n c : Nat) : ∀ (i : Nat) (k : IntKind) (v : Int), (#[.bool s, .slice A n c] : Array Value)[i]? ≠ some (.int k v) := by
  intro i k v h
  match i, h with
  | 0, h => cases h
  | 1, h => cases h
  | i + 2, h => cases h
def VQ (v : Rat) (k : Nat) (x : Value) (w : World) : Prop := ∃ s A n c B m d, x = .agg #[.bool s, .slice A n c, .slice B m d] ∧ QG w s A n c B m d v k
def VZG (v : Int) (k : Nat) (x : Value) (w : World) : Prop := ∃ s A n c, x = .agg #[.bool s, .slice A n c] ∧ ZG w s A n c v k
def VQE (S : Rat → Prop) (k : Nat) (x : Value) (w : World) : Prop := ∃ v, S v ∧ ∃ s A n c B m d, x = .tuple #[.agg #[.bool s, .slice A n c, .slice B m d], .int .i64 0] ∧ QG w s A n c B m d v k
def VQS (S : Rat → Prop) (k : Nat) (x : Value) (w : World) : Prop := ∃ v, S v ∧ VQ v k x w
def Stays (F : Value → World → Prop) : Prop := (∀ x w w', F x w → Below w.heap.size w w' → F x w') ∧ ∀ (T : TypeId) x w w' g cs, F x w → BoxAt T w g cs → Only g w w' → F x w'
theorem stays_eq (c : Value) : Stays (fun x _ => x = c) := ⟨fun _ _ _ h _ => h, fun _ _ _ _ _ _ h _ _ => h⟩
theorem stays_true : Stays (fun _ _ => True) := ⟨fun _ _ _ h _ => h, fun _ _ _ _ _ _ h _ _ => h⟩
theorem stays_q (v : Rat) (k : Nat) : Stays (VQ v k) :=
  ⟨fun _ _ _ ⟨s, A, n, c, B, m, d, h1, h2⟩ hb => ⟨s, A, n, c, B, m, d, h1, h2.below hb⟩, fun _ _ _ _ _ _ ⟨s, A, n, c, B, m, d, h1, h2⟩ hB ho => ⟨s, A, n, c, B, m, d, h1, h2.box hB ho⟩⟩
theorem stays_z (v : Int) (k : Nat) : Stays (VZG v k) :=
  ⟨fun _ _ _ ⟨s, A, n, c, h1, h2⟩ hb => ⟨s, A, n, c, h1, h2.below hb⟩, fun _ _ _ _ _ _ ⟨s, A, n, c, h1, h2⟩ hB ho => ⟨s, A, n, c, h1, h2.box hB ho⟩⟩
theorem stays_qe (S : Rat → Prop) (k : Nat) : Stays (VQE S k) :=
  ⟨fun _ _ _ ⟨v, hv, s, A, n, c, B, m, d, h1, h2⟩ hb => ⟨v, hv, s, A, n, c, B, m, d, h1, h2.below hb⟩, fun _ _ _ _ _ _ ⟨v, hv, s, A, n, c, B, m, d, h1, h2⟩ hB ho => ⟨v, hv, s, A, n, c, B, m, d, h1, h2.box hB ho⟩⟩
theorem stays_qs (S : Rat → Prop) (k : Nat) : Stays (VQS S k) :=
  ⟨fun _ _ _ ⟨v, hv, h⟩ hb => ⟨v, hv, (stays_q v k).1 _ _ _ h hb⟩, fun T _ _ _ _ _ ⟨v, hv, h⟩ hB ho => ⟨v, hv, (stays_q v k).2 T _ _ _ _ _ h hB ho⟩⟩
section
variable {P : Program} {ops : Array Oper} {Q : Exit → Act → World → Prop}
def JFlow (ops : Array Oper) (w0 : World) (T : TypeId) (zs : Array Value) (ia is tA : Nat) (F : Nat → Value → World → Prop) (Fst : Array Value → World → Prop) (D : Nat → Bool) (v : Nat → Value) (w' : World) : Prop :=
  Below w0.heap.size w0 w' ∧ (∀ (i : Nat) (o : Oper) (t : Nat), ops[i]? = some o → o.dst = some t → t ≠ tA → D i = true → F t (v t) w') ∧
  (D ia = true → ∃ g cs, v tA = .pointer (some ⟨g, 0, none⟩) ∧ w0.heap.size ≤ g ∧ BoxAt T w' g cs ∧ (D is = true → Fst cs w') ∧ (D is = false → cs = zs)) ∧ (D is = true → D ia = true)
theorem once_of {i j : Nat} {oi oj : Oper} {t : Nat} : ∀ {l : List Oper}, (l.filterMap (·.dst)).Nodup → l[i]? = some oi → l[j]? = some oj → oi.dst = some t → oj.dst = some t → i = j := by
  intro l
  induction l generalizing i j with
  | nil => intro _ h; simp at h
  | cons o l ih =>
    intro hn h1 h2 d1 d2
    have mem : ∀ {k : Nat} {p : Oper}, l[k]? = some p → p.dst = some t → t ∈ l.filterMap (·.dst) := fun h d => List.mem_filterMap.2 ⟨_, List.mem_of_getElem? h, d⟩
    have hn' : (l.filterMap (·.dst)).Nodup := by
      rw [List.filterMap_cons] at hn
      split at hn
      · exact hn
      · exact (List.nodup_cons.1 hn).2
    match i, j with
    | 0, 0 => rfl
    | 0, j + 1 =>
      exfalso
      simp at h1
      subst h1
      rw [List.filterMap_cons, d1] at hn
      exact (List.nodup_cons.1 hn).1 (mem (by simpa using h2) d2)
    | i + 1, 0 =>
      exfalso
      simp at h2
      subst h2
      rw [List.filterMap_cons, d2] at hn
      exact (List.nodup_cons.1 hn).1 (mem (by simpa using h1) d1)
    | i + 1, j + 1 => exact congrArg (· + 1) (ih hn' (by simpa using h1) (by simpa using h2) d1 d2)
theorem wp_region_flow {id : Nat} {a : Act} {w0 : World} (T : TypeId) (zs : Array Value) (l : List Nat) (ia is tA : Nat) (oa os : Oper) (F : Nat → Value → World → Prop) (Fst : Array Value → World → Prop)
    (hm : P.follows .mixedOrders = true) (hb : backB ops = true) (hl : ops.toList.filterMap (·.dst) = l) (hn : l.Nodup)
    (hoa : ops[ia]? = some oa) (hos : ops[is]? = some os) (hda : oa.dst = some tA) (hds : os.dst = none) (hone : ∀ (i : Nat) (o : Oper), ops[i]? = some o → o.dst = none → i = is)
    (hga : oa.guard = none) (hgs : os.guard = none) (hedge : ∃ e ∈ os.after, Region.binds .any e = true ∧ e.on = ia)
    (hst : ∀ t, Stays (F t)) (hzs : ∀ (i : Nat) (k : IntKind) (x : Int), zs[i]? ≠ some (Value.int k x))
    (halloc : ∀ (e : Operand → Value) (w' : World), (execOp e oa).run P w' = .ok (.value (.pointer (some ⟨w'.heap.size, 0, none⟩))) (w'.alloc (.cells zs T)))
    (hval : ∀ (i : Nat) (o : Oper) (t : Nat) (v : Nat → Value) (w' : World), ops[i]? = some o → i ≠ ia → o.dst = some t → Below w0.heap.size w0 w' →
      (∀ e ∈ o.after, Region.binds .any e = true → ∀ (oe : Oper) (te : Nat), ops[e.on]? = some oe → oe.dst = some te → te ≠ tA → F te (v te) w') →
      wpOp P ops Q i (fun a'' w'' => ∃ x, a'' = (putAll a l v).put (some t) x ∧ Below w'.heap.size w' w'' ∧ F t x w'') (putAll a l v) w')
    (hstore : ∀ (v : Nat → Value) (w' : World) (g : Nat), Below w0.heap.size w0 w' → v tA = .pointer (some ⟨g, 0, none⟩) → BoxAt T w' g zs →
      (∀ e ∈ os.after, Region.binds .any e = true → ∀ (oe : Oper) (te : Nat), ops[e.on]? = some oe → oe.dst = some te → te ≠ tA → F te (v te) w') →
      os.wp P (putAll a l v) w' (fun a'' w'' => a'' = putAll a l v ∧ Only g w' w'' ∧ ∃ cs', BoxAt T w'' g cs' ∧ Fst cs' w'') Q)
    (hfst : ∀ cs w w', Fst cs w → Below w.heap.size w w' → Fst cs w')
    (hend : ∀ (v : Nat → Value) (w' : World) (g : Nat) (cs : Array Value), Below w0.heap.size w0 w' → (∀ (i : Nat) (o : Oper) (t : Nat), ops[i]? = some o → o.dst = some t → t ≠ tA → F t (v t) w') → v tA = .pointer (some ⟨g, 0, none⟩) → w0.heap.size ≤ g → BoxAt T w' g cs → Fst cs w' → Q .normal (putAll a l v) w') :
    (Code.region id ops true).wp P Q a w0 := by
  have hmem : ∀ {i : Nat} {o : Oper} {t : Nat}, ops[i]? = some o → o.dst = some t → t ∈ l := fun {i o t} h d => by
    rw [← hl]; exact List.mem_filterMap.2 ⟨o, List.mem_of_getElem? (by simpa using h), d⟩
  have hinj : ∀ {i j : Nat} {oi oj : Oper} {t : Nat}, ops[i]? = some oi → ops[j]? = some oj → oi.dst = some t → oj.dst = some t → i = j := fun {i j oi oj t} h1 h2 d1 d2 =>
    once_of (l := ops.toList) (by rw [hl]; exact hn) (by simpa using h1) (by simpa using h2) d1 d2
  refine wp_region_inv l (JFlow ops w0 T zs ia is tA F Fst) hm hb ?_ ?_ ?_ ?_
  · refine ⟨(Below.refl _ _).drew, ?_, ?_, ?_⟩
    · intro i o t _ _ _ h; exact absurd (show false = true from h) (by decide)
    · intro h; exact absurd (show false = true from h) (by decide)
    · intro h; exact absurd (show false = true from h) (by decide)
  · intro D D' v w hD h
    obtain ⟨h0, h1, h2, h3⟩ := h
    have lt_of : ∀ {i : Nat} {o : Oper}, ops[i]? = some o → i < ops.size := fun {i o} h => by
      rcases Nat.lt_or_ge i ops.size with k | k
      · exact k
      · rw [Array.getElem?_eq_none k] at h; cases h
    have e1 := hD ia (lt_of hoa)
    have e2 := hD is (lt_of hos)
    refine ⟨h0, fun i o t hi ht hne hd => h1 i o t hi ht hne (by rw [hD i (lt_of hi)]; exact hd), ?_, ?_⟩
    · rw [← e1, ← e2]; exact h2
    · rw [← e1, ← e2]; exact h3
  · intro i o D v w' ho hDi hall hJ
    obtain ⟨J0, J1, J2, J3⟩ := hJ
    by_cases hia : i = ia
    · subst hia
      rw [hoa] at ho
      cases ho
      have nis : ¬ D is = true := fun h => by have := J3 h; rw [hDi] at this; cases this
      refine wpOp_plain' hoa hga ?_
      unfold Oper.wp
      rw [halloc, Oper.upon_value, hda]
      have hbl := (Below.refl w'.heap.size w').alloc (Nat.le_refl _) (.cells zs T)
      refine ⟨_, putAll_put _ _ _ _ _ hn (hmem hoa hda), J0.trans (hbl.mono J0.size), ?_, ?_, ?_⟩
      · intro j oj t hj ht hne hd
        have hji : j ≠ i := fun q => hne (by subst q; rw [hoa] at hj; cases hj; rw [hda] at ht; cases ht; rfl)
        rw [upd_ne _ _ hji] at hd
        rw [upd_ne _ _ hne]
        exact (hst t).1 _ _ _ (J1 j oj t hj ht hne hd) hbl
      · intro _
        refine ⟨w'.heap.size, zs, upd_same _ _ _, J0.size, ⟨heap_alloc_new _ _, hzs⟩, fun h => ?_, fun _ => rfl⟩
        have : is ≠ i := fun q => by subst q; rw [hos] at hoa; cases hoa; rw [hds] at hda; cases hda
        rw [upd_ne _ _ this] at h
        exact absurd h nis
      · intro h
        have : is ≠ i := fun q => by subst q; rw [hos] at hoa; cases hoa; rw [hds] at hda; cases hda
        rw [upd_ne _ _ this] at h
        exact absurd h nis
    · cases hd : o.dst with
      | none =>
        have his := hone i o ho hd
        subst his
        rw [hos] at ho
        cases ho
        obtain ⟨e, he, hbd, hon⟩ := hedge
        have hDa : D ia = true := by rw [← hon]; exact hall e he hbd
        obtain ⟨g, cs, p1, p2, p3, _, pz⟩ := J2 hDa
        obtain rfl := pz hDi
        refine wpOp_plain' hos hgs ?_
        refine Oper.wp_mono ?_ (hstore v w' g J0 p1 p3 (fun e he hb' oe te h1 h2 h3 => J1 e.on oe te h1 h2 h3 (hall e he hb')))
        rintro a'' w'' ⟨rfl, ho2, cs', hB, hF⟩
        refine ⟨v, rfl, Below.only J0 p2 J0.size ho2, ?_, ?_, ?_⟩
        · intro j oj t hj ht hne hd2
          have hji : j ≠ i := fun q => by subst q; rw [hos] at hj; cases hj; rw [hds] at ht; cases ht
          rw [upd_ne _ _ hji] at hd2
          exact (hst t).2 T _ _ _ _ _ (J1 j oj t hj ht hne hd2) p3 ho2
        · intro _
          exact ⟨g, cs', p1, p2, hB, fun _ => hF, fun q => by rw [upd_same] at q; cases q⟩
        · intro _
          rw [upd_ne _ _ (Ne.symm hia)]; exact hDa
      | some t =>
        have htA : t ≠ tA := fun q => hia (by subst q; exact hinj ho hoa hd hda)
        refine wpOp_mono ?_ (hval i o t v w' ho hia hd J0 (fun e he hb' oe te h1 h2 h3 => J1 e.on oe te h1 h2 h3 (hall e he hb')))
        rintro a'' w'' ⟨x, rfl, hbl, hF⟩
        have nis : is ≠ i := fun q => by subst q; rw [hos] at ho; cases ho; rw [hds] at hd; cases hd
        refine ⟨_, putAll_put _ _ _ _ _ hn (hmem ho hd), J0.trans (hbl.mono J0.size), ?_, ?_, ?_⟩
        · intro j oj t' hj ht hne hd2
          by_cases hji : j = i
          · subst hji
            rw [ho] at hj
            cases hj
            rw [hd] at ht
            cases ht
            rw [upd_same]
            exact hF
          · rw [upd_ne _ _ hji] at hd2
            have htt : t' ≠ t := fun q => hji (by subst q; exact hinj hj ho ht hd)
            rw [upd_ne _ _ htt]
            exact (hst t').1 _ _ _ (J1 j oj t' hj ht hne hd2) hbl
        · intro h
          rw [upd_ne _ _ (Ne.symm hia)] at h
          obtain ⟨g, cs, p1, p2, p3, p4, pz⟩ := J2 h
          refine ⟨g, cs, by rw [upd_ne _ _ (Ne.symm htA)]; exact p1, p2, p3.below hbl, fun h' => ?_, fun h' => ?_⟩
          · rw [upd_ne _ _ nis] at h'
            exact hfst _ _ _ (p4 h') hbl
          · rw [upd_ne _ _ nis] at h'
            exact pz h'
        · intro h
          rw [upd_ne _ _ nis] at h
          rw [upd_ne _ _ (Ne.symm hia)]
          exact J3 h
  · intro D v w' hall hJ
    obtain ⟨J0, J1, J2, J3⟩ := hJ
    have lt_of : ∀ {i : Nat} {o : Oper}, ops[i]? = some o → i < ops.size := fun {i o} h => by
      rcases Nat.lt_or_ge i ops.size with k | k
      · exact k
      · rw [Array.getElem?_eq_none k] at h; cases h
    obtain ⟨g, cs, p1, p2, p3, p4, _⟩ := J2 (hall ia (lt_of hoa))
    exact hend v w' g cs J0 (fun i o t hi ht hne => J1 i o t hi ht hne (hall i (lt_of hi))) p1 p2 p3 (p4 (hall is (lt_of hos)))
end
end Go.Proofs.YtlkjkhpjhllapaaGreat
namespace Go.Proofs.YtlkjkhpjhllapaaGreat
open Go Go.RowKit
def B3R (W : World) (g : Nat) (x y z : Value) : Prop := W.heap[g]? = some (.cells #[x, y, z] 34 (0, 0))
section
variable {W W' : World} {g : Nat} {x y z : Value}
theorem B3R.c0 (h : B3R W g x y z) : W.cell? ⟨g, 0, none⟩ = some x := by rw [cell_of_row W g 0 _ _ (0, 0) h]; rfl
theorem B3R.c1 (h : B3R W g x y z) : W.cell? ⟨g, 1, none⟩ = some y := by rw [cell_of_row W g 1 _ _ (0, 0) h]; rfl
theorem B3R.c2 (h : B3R W g x y z) : W.cell? ⟨g, 2, none⟩ = some z := by rw [cell_of_row W g 2 _ _ (0, 0) h]; rfl
theorem B3R.f0 (h : B3R W g x y z) : W.frozen? ⟨g, 0, none⟩ = false := frozen_of_row W g 0 _ _ h
theorem B3R.f1 (h : B3R W g x y z) : W.frozen? ⟨g, 1, none⟩ = false := frozen_of_row W g 1 _ _ h
theorem B3R.f2 (h : B3R W g x y z) : W.frozen? ⟨g, 2, none⟩ = false := frozen_of_row W g 2 _ _ h
theorem B3R.lt (h : B3R W g x y z) : g < W.heap.size := World.block_lt_of_cell? W _ h.c0
theorem B3R.below (h : B3R W g x y z) (hb : Below W.heap.size W W') : B3R W' g x y z := (hb.block g h.lt).trans h
theorem B3R.alloc (h : B3R W g x y z) (o : Obj) : B3R (W.alloc o) g x y z := (Below.heap_alloc W o g h.lt).trans h
theorem B3R.new' (W : World) (x y z : Value) (g : Nat) (hg : g = W.heap.size) : B3R (W.alloc (.cells #[x, y, z] 34)) g x y z := by subst hg; exact heap_alloc_new W _
theorem B3R.set3 (h : B3R W g x y z) (a b c : Value) : B3R (((W.setCell ⟨g, 0, none⟩ a).setCell ⟨g, 1, none⟩ b).setCell ⟨g, 2, none⟩ c) g a b c := by
  unfold B3R at h ⊢
  simp [World.setCell, Array.getElem?_modify, h]
theorem B3R.offx {s : Bool} {A A1 A2 : Option Addr} {n n1 n2 c1 c2 : Nat} {K : IntKind} {l : List Nat} (h : B3R W g (.bool s) (.slice A1 n1 c1) (.slice A2 n2 c2)) (hr : Rd K W A n l) : Off A n g := by
  intro hn ad e hg
  obtain ⟨b, o, eA, hc⟩ := hr.at_ hn
  obtain ⟨x, _, hx⟩ := hc 0 hn
  rw [eA] at e
  cases e
  have hg2 : b = g := hg
  subst hg2
  rw [cell_of_row W b (o + 0) _ _ (0, 0) h] at hx
  match o, hx with
  | 0, hx => cases hx
  | 1, hx => cases hx
  | 2, hx => cases hx
  | o + 3, hx => cases hx
end
def RQ (w : World) (s : Bool) (A : Option Addr) (n c : Nat) (A' : Option Addr) (n' c' : Nat) (v : Rat) (k : Nat) : Prop := RG w s A n c v.num k ∧ RN w A' n' c' v.den k
def GivesRQ (w : World) (v : Rat) (k : Nat) (e : Ending) (w' : World) : Prop :=
  ∃ s A n c A' n' c', e = .returned (.agg #[.bool s, .slice A n c, .slice A' n' c']) ∧ RQ w' s A n c A' n' c' v k ∧ Below w.heap.size w w'
section
variable {w w' : World} {s : Bool} {A A' : Option Addr} {n c n' c' k g : Nat} {v : Rat}
theorem RQ.below (h : RQ w s A n c A' n' c' v k) (hb : Below w.heap.size w w') : RQ w' s A n c A' n' c' v k := ⟨h.1.below hb, h.2.below hb⟩
theorem RN.only {V : Nat} (h : RN w A n c V k) (ho : Off A n g) (hb : Only g w w') : RN w' A n c V k := ⟨h.1.only ho hb, h.2⟩
theorem RG.only {V : Int} (h : RG w s A n c V k) (ho : Off A n g) (hb : Only g w w') : RG w' s A n c V k := ⟨h.1, h.2.only ho hb⟩
theorem RG.rn {V : Int} (h : RG w s A n c V k) : RN w A n c V.natAbs k := h.2
theorem RG.more {V : Int} {k1 : Nat} (h : RG w s A n c V k) (hk : k ≤ k1) : RG w s A n c V k1 := ⟨h.1, h.2.more hk⟩
theorem RQ.set3 {t : Bool} {A1 A2 : Option Addr} {n1 c1 n2 c2 : Nat} (h : RQ w s A n c A' n' c' v k) (Z : B3R w g (.bool t) (.slice A1 n1 c1) (.slice A2 n2 c2)) (x y z : Value) :
    RQ (((w.setCell ⟨g, 0, none⟩ x).setCell ⟨g, 1, none⟩ y).setCell ⟨g, 2, none⟩ z) s A n c A' n' c' v k := by
  have ho : Only g w (((w.setCell ⟨g, 0, none⟩ x).setCell ⟨g, 1, none⟩ y).setCell ⟨g, 2, none⟩ z) := (((Only.refl g w).setCell 0 _).setCell 1 _).setCell 2 _
  exact ⟨h.1.only (Z.offx h.1.2.1) ho, h.2.only (Z.offx h.2.1) ho⟩
end
theorem mkRat_num {p : Int} {q : Nat} (hq : q ≠ 0) : (mkRat p q).num.natAbs = p.natAbs / Nat.gcd p.natAbs q ∧ (mkRat p q).den = q / Nat.gcd p.natAbs q ∧ ((mkRat p q).num < 0 ↔ p < 0) := by
  have h0 : (q : Int) ≠ 0 := by omega
  have h1 := div_num (p := p) h0
  have h2 := div_den (p := p) h0
  rw [Rat.divInt_ofNat] at h1 h2
  simp only [Int.natAbs_natCast] at h1 h2
  exact ⟨h1, h2, by rw [num_neg_iff, mk_negv hq]⟩
set_option maxRecDepth 100000 in
set_option maxHeartbeats 4000000 in
theorem made_one {w : World} {s : Bool} {A B : Option Addr} {n c m d k q : Nat} {p : Int} (X : RG w s A n c p k) (Y : RN w B m d q k) (hk : k ≤ 100000) (hq : q ≠ 0) (hg : Nat.gcd p.natAbs q = 1) :
    Calls Tryz.prog 99 #[.agg #[.bool s, .slice A n c], .slice B m d] w (GivesRQ w (mkRat p q) k) := by
  have HG := Lib.hid hg
  have hm := mkRat_num (p := p) hq
  rw [hg, Nat.div_one, Nat.div_one] at hm
  have HM := Lib.hid hm
  clear hg hm
  go_enter Tryz.func99, Tryz.ntmps99
  go_wp2_with fail
  generalize hW : ((w.alloc (Obj.cells #[Value.bool s, Value.slice A n c] 32)).alloc (Obj.cells #[Value.bool false, Value.slice none 0 0, Value.slice none 0 0] 34)) = W
  have hb : Below w.heap.size w W := by subst hW; exact (((Below.refl _ _).alloc (Nat.le_refl _) _).alloc (by simp) _)
  have XP : By W (w.heap.size) (Value.bool s) (Value.slice A n c) := by subst hW; exact (By.new' _ _ _ _ rfl).alloc _
  have Z : B3R W (w.heap.size + 1) (Value.bool false) (Value.slice none 0 0) (Value.slice none 0 0) := by subst hW; exact B3R.new' _ _ _ _ _ (by simp)
  have hzW : W.heap.size = w.heap.size + 2 := by subst hW; simp
  clear hW
  replace X := X.below hb
  replace Y := Y.below hb
  have xp0 := XP.c0
  have xp1 := XP.c1
  go_upto_region 2 with (first
      | (go_at_call 165; (with_reducible refine (rgcd_nr X.rn Y (by omega)).mono ?_); rintro e w_g ⟨A_g, n_g, c_g, rfl, g, hh⟩
         rw [HG.out] at g
         try replace X := X.below hh
         try replace Y := Y.below hh
         try replace x := x.below hh
         try replace y := y.below hh
         try replace XP := XP.below hh
         try replace Z := Z.below hh
         replace hb := bend hb hh
         have xp0 := XP.c0
         have xp1 := XP.c1))
  have hl : limbs B32 1 = [1] := limbs_small B32_two (by decide) (by decide)
  have hg1 := g.1
  rw [hl] at hg1
  have hn : 1 = n_g := hg1.1
  subst hn
  obtain ⟨gb, go, rfl, hgc⟩ := hg1.at_ (by decide)
  obtain ⟨gx, hgx, hgc0⟩ := hgc 0 (by decide)
  have hgx1 : 1 = gx := by simpa using hgx
  subst hgx1
  have hc1 : w_g.cell? ⟨gb, go, none⟩ = some (.int .u32 1) := by simpa using hgc0
  clear hgc hgx hgc0 hg1 hl g
  have zf0 := Z.f0
  have zf1 := Z.f1
  have zf2 := Z.f2
  have z0 := Z.c0
  have z1 := Z.c1
  have z2 := Z.c2
  go_wp2_with fail
  have Z2 := Z.set3 (.bool s) (.slice A n c) (.slice B m d)
  have g0 := Z2.c0
  have g1 := Z2.c1
  have g2 := Z2.c2
  refine bodyPost_ret (v := .agg #[.bool s, .slice A n c, .slice B m d]) (by simp [results, Tryz.results99, go_sem, g0, g1, g2]) rfl ?_
  have hm := HM.out
  have hr : RQ w_g s A n c B m d (mkRat p q) k := ⟨⟨X.1.trans (by rw [decide_eq_decide]; exact hm.2.2.symm), by rw [hm.1]; exact X.rn⟩, by rw [hm.2.1]; exact Y⟩
  exact ⟨s, _, _, _, _, _, _, rfl, hr.set3 Z _ _ _, below_set3 hb (by omega) _ _ _⟩
set_option maxRecDepth 100000 in
set_option maxHeartbeats 4000000 in
theorem made_big {w : World} {s : Bool} {A B : Option Addr} {n c m d k q G : Nat} {p : Int} (X : RG w s A n c p k) (Y : RN w B m d q k) (hk : k ≤ 100000) (hq : q ≠ 0) (hg : Nat.gcd p.natAbs q = G) (hG : B32 ≤ G) :
    Calls Tryz.prog 99 #[.agg #[.bool s, .slice A n c], .slice B m d] w (GivesRQ w (mkRat p q) k) := by
  have HG := Lib.hid hg
  have HG0 : Hid (G ≠ 0) := by
    show G ≠ 0
    have := Nat.gcd_pos_of_pos_right p.natAbs (Nat.pos_of_ne_zero hq)
    omega
  have hm := mkRat_num (p := p) hq
  rw [hg] at hm
  have HM := Lib.hid hm
  clear hg hm
  go_enter Tryz.func99, Tryz.ntmps99
  go_wp2_with fail
  generalize hW : ((w.alloc (Obj.cells #[Value.bool s, Value.slice A n c] 32)).alloc (Obj.cells #[Value.bool false, Value.slice none 0 0, Value.slice none 0 0] 34)) = W
  have hb : Below w.heap.size w W := by subst hW; exact (((Below.refl _ _).alloc (Nat.le_refl _) _).alloc (by simp) _)
  have XP : By W (w.heap.size) (Value.bool s) (Value.slice A n c) := by subst hW; exact (By.new' _ _ _ _ rfl).alloc _
  have Z : B3R W (w.heap.size + 1) (Value.bool false) (Value.slice none 0 0) (Value.slice none 0 0) := by subst hW; exact B3R.new' _ _ _ _ _ (by simp)
  have hzW : W.heap.size = w.heap.size + 2 := by subst hW; simp
  clear hW
  replace X := X.below hb
  replace Y := Y.below hb
  have xp0 := XP.c0
  have xp1 := XP.c1
  go_upto_region 2 with (first
      | (go_at_call 165; (with_reducible refine (rgcd_nr X.rn Y (by omega)).mono ?_); rintro e w_g ⟨A_g, n_g, c_g, rfl, g, hh⟩
         rw [HG.out] at g
         try replace X := X.below hh
         try replace Y := Y.below hh
         try replace x := x.below hh
         try replace y := y.below hh
         try replace XP := XP.below hh
         try replace Z := Z.below hh
         replace hb := bend hb hh
         have xp0 := XP.c0
         have xp1 := XP.c1))
  have hng : 2 ≤ n_g := by
    rcases Nat.lt_or_ge n_g 2 with h | h
    · have h1 := val_lt (lim_limbs B32_two G)
      rw [val_limbs B32_two, g.1.1] at h1
      have h2 : B32 ^ n_g ≤ B32 ^ 1 := Nat.pow_le_pow_right (by decide) (by omega)
      rw [Nat.pow_one] at h2
      omega
    · exact h
  have hn0 : ((n_g : Int) == 0) = false := by simp; omega
  have hn1 : ((n_g : Int) == 1) = false := by simp; omega
  clear hng hG
  have hfd : ∀ (A : Option Addr) (n c : Nat) (A' : Option Addr) (n' c' : Nat) (w : World), (Instr.field 192 (.agg #[.slice A n c, .slice A' n' c']) 0).run Tryz.prog w = .ok (.slice A n c) w := fun _ _ _ _ _ _ _ => by kernel_rfl
  go_upto_region 4 with (fail)
  replace X := X.below (Below.refl _ _).drew
  replace Y := Y.below (Below.refl _ _).drew
  replace g := g.below (Below.refl _ _).drew
  replace XP := XP.below (Below.refl _ _).drew
  replace Z := Z.below (Below.refl _ _).drew
  replace hb := hb.drew
  go_region_held3 (fun w' => w'.cell? ⟨w.heap.size, 0, none⟩ = some (.bool s) ∧ w'.cell? ⟨w.heap.size, 1, none⟩ = some (.slice A n c))
    (first | with_reducible exact ⟨XP.c0, XP.c1⟩ | with_reducible exact ⟨(set3_cell _ _ _ _ _ _ _ (by omega)).trans XP.c0, (set3_cell _ _ _ _ _ _ _ (by omega)).trans XP.c1⟩)
    (first
    | (go_at_call 166; (with_reducible refine (rdm_nr X.rn g (by omega) (by omega) HG0.out).mono ?_); rintro e w_x ⟨A_x, n_x, c_x, A_r, n_r, c_r, rfl, x, xr, hh⟩
       try replace X := X.below hh
       try replace Y := Y.below hh
       try replace g := g.below hh
       try replace y := y.below hh
       try replace XP := XP.below hh
       try replace Z := Z.below hh
       replace hb := bend hb hh
       have zf0 := Z.f0
       have zf1 := Z.f1
       have zf2 := Z.f2
       have z0 := Z.c0
       have z1 := Z.c1
       have z2 := Z.c2)
    | (go_at_call 166; (with_reducible refine (rdm_nr Y g (by omega) (by omega) HG0.out).mono ?_); rintro e w_y ⟨A_y, n_y, c_y, A_t, n_t, c_t, rfl, y, yr, hh⟩
       try replace X := X.below hh
       try replace Y := Y.below hh
       try replace g := g.below hh
       try replace x := x.below hh
       try replace XP := XP.below hh
       try replace Z := Z.below hh
       replace hb := bend hb hh
       have zf0 := Z.f0
       have zf1 := Z.f1
       have zf2 := Z.f2
       have z0 := Z.c0
       have z1 := Z.c1
       have z2 := Z.c2))
  go_wp2_with fail
  have Z2 := Z.set3 (.bool s) (.slice A_x n_x c_x) (.slice A_y n_y c_y)
  have g0 := Z2.c0
  have g1 := Z2.c1
  have g2 := Z2.c2
  refine bodyPost_ret (v := .agg #[.bool s, .slice A_x n_x c_x, .slice A_y n_y c_y]) (by simp [results, Tryz.results99, go_sem, g0, g1, g2]) rfl ?_
  have hm := HM.out
  have hr : RQ w_y s A_x n_x c_x A_y n_y c_y (mkRat p q) k := ⟨⟨X.1.trans (by rw [decide_eq_decide]; exact hm.2.2.symm), by rw [hm.1]; exact x⟩, by rw [hm.2.1]; exact y⟩
  exact ⟨s, _, _, _, _, _, _, rfl, hr.set3 Z _ _ _, below_set3 hb (by omega) _ _ _⟩
set_option maxRecDepth 100000 in
set_option maxHeartbeats 4000000 in
theorem made_small {w : World} {s : Bool} {A B : Option Addr} {n c m d k q G : Nat} {p : Int} (X : RG w s A n c p k) (Y : RN w B m d q k) (hk : k ≤ 100000) (hq : q ≠ 0) (hg : Nat.gcd p.natAbs q = G) (hG : G < B32) (hG1 : G ≠ 1) :
    Calls Tryz.prog 99 #[.agg #[.bool s, .slice A n c], .slice B m d] w (GivesRQ w (mkRat p q) k) := by
  have HG := Lib.hid hg
  have HG0 : Hid (G ≠ 0) := by
    show G ≠ 0
    have := Nat.gcd_pos_of_pos_right p.natAbs (Nat.pos_of_ne_zero hq)
    omega
  have hm := mkRat_num (p := p) hq
  rw [hg] at hm
  have HM := Lib.hid hm
  clear hg hm
  go_enter Tryz.func99, Tryz.ntmps99
  go_wp2_with fail
  generalize hW : ((w.alloc (Obj.cells #[Value.bool s, Value.slice A n c] 32)).alloc (Obj.cells #[Value.bool false, Value.slice none 0 0, Value.slice none 0 0] 34)) = W
  have hb : Below w.heap.size w W := by subst hW; exact (((Below.refl _ _).alloc (Nat.le_refl _) _).alloc (by simp) _)
  have XP : By W (w.heap.size) (Value.bool s) (Value.slice A n c) := by subst hW; exact (By.new' _ _ _ _ rfl).alloc _
  have Z : B3R W (w.heap.size + 1) (Value.bool false) (Value.slice none 0 0) (Value.slice none 0 0) := by subst hW; exact B3R.new' _ _ _ _ _ (by simp)
  have hzW : W.heap.size = w.heap.size + 2 := by subst hW; simp
  clear hW
  replace X := X.below hb
  replace Y := Y.below hb
  have xp0 := XP.c0
  have xp1 := XP.c1
  go_upto_region 2 with (first
      | (go_at_call 165; (with_reducible refine (rgcd_nr X.rn Y (by omega)).mono ?_); rintro e w_g ⟨A_g, n_g, c_g, rfl, g, hh⟩
         rw [HG.out] at g
         try replace X := X.below hh
         try replace Y := Y.below hh
         try replace x := x.below hh
         try replace y := y.below hh
         try replace XP := XP.below hh
         try replace Z := Z.below hh
         replace hb := bend hb hh
         have xp0 := XP.c0
         have xp1 := XP.c1))
  have hl : limbs B32 G = [G] := limbs_small B32_two hG HG0.out
  have hg1 := g.1
  rw [hl] at hg1
  have hn : 1 = n_g := hg1.1
  subst hn
  obtain ⟨gb, go, eA, hgc⟩ := hg1.at_ (by decide)
  subst eA
  obtain ⟨gx, hgx, hgc0⟩ := hgc 0 (by decide)
  have hgx1 : G = gx := by simpa using hgx
  subst hgx1
  have hc1 : w_g.cell? ⟨gb, go, none⟩ = some (.int .u32 (G : Int)) := by simpa using hgc0
  have hG2 : ((G : Int) == 1) = false := by simp; omega
  clear hgc hgx hgc0 hg1 hl hG hG1
  have hfd : ∀ (A : Option Addr) (n c : Nat) (A' : Option Addr) (n' c' : Nat) (w : World), (Instr.field 192 (.agg #[.slice A n c, .slice A' n' c']) 0).run Tryz.prog w = .ok (.slice A n c) w := fun _ _ _ _ _ _ _ => by kernel_rfl
  go_upto_region 4 with (fail)
  replace X := X.below (Below.refl _ _).drew
  replace Y := Y.below (Below.refl _ _).drew
  replace g := g.below (Below.refl _ _).drew
  replace XP := XP.below (Below.refl _ _).drew
  replace Z := Z.below (Below.refl _ _).drew
  replace hb := hb.drew
  go_region_held3 (fun w' => w'.cell? ⟨w.heap.size, 0, none⟩ = some (.bool s) ∧ w'.cell? ⟨w.heap.size, 1, none⟩ = some (.slice A n c))
    (first | with_reducible exact ⟨XP.c0, XP.c1⟩ | with_reducible exact ⟨(set3_cell _ _ _ _ _ _ _ (by omega)).trans XP.c0, (set3_cell _ _ _ _ _ _ _ (by omega)).trans XP.c1⟩)
    (first
    | (go_at_call 166; (with_reducible refine (rdm_nr X.rn g (by omega) (by omega) HG0.out).mono ?_); rintro e w_x ⟨A_x, n_x, c_x, A_r, n_r, c_r, rfl, x, xr, hh⟩
       try replace X := X.below hh
       try replace Y := Y.below hh
       try replace g := g.below hh
       try replace y := y.below hh
       try replace XP := XP.below hh
       try replace Z := Z.below hh
       replace hb := bend hb hh
       have zf0 := Z.f0
       have zf1 := Z.f1
       have zf2 := Z.f2
       have z0 := Z.c0
       have z1 := Z.c1
       have z2 := Z.c2)
    | (go_at_call 166; (with_reducible refine (rdm_nr Y g (by omega) (by omega) HG0.out).mono ?_); rintro e w_y ⟨A_y, n_y, c_y, A_t, n_t, c_t, rfl, y, yr, hh⟩
       try replace X := X.below hh
       try replace Y := Y.below hh
       try replace g := g.below hh
       try replace x := x.below hh
       try replace XP := XP.below hh
       try replace Z := Z.below hh
       replace hb := bend hb hh
       have zf0 := Z.f0
       have zf1 := Z.f1
       have zf2 := Z.f2
       have z0 := Z.c0
       have z1 := Z.c1
       have z2 := Z.c2))
  go_wp2_with fail
  have Z2 := Z.set3 (.bool s) (.slice A_x n_x c_x) (.slice A_y n_y c_y)
  have g0 := Z2.c0
  have g1 := Z2.c1
  have g2 := Z2.c2
  refine bodyPost_ret (v := .agg #[.bool s, .slice A_x n_x c_x, .slice A_y n_y c_y]) (by simp [results, Tryz.results99, go_sem, g0, g1, g2]) rfl ?_
  have hm := HM.out
  have hr : RQ w_y s A_x n_x c_x A_y n_y c_y (mkRat p q) k := ⟨⟨X.1.trans (by rw [decide_eq_decide]; exact hm.2.2.symm), by rw [hm.1]; exact x⟩, by rw [hm.2.1]; exact y⟩
  exact ⟨s, _, _, _, _, _, _, rfl, hr.set3 Z _ _ _, below_set3 hb (by omega) _ _ _⟩
theorem made_rq {w : World} {s : Bool} {A B : Option Addr} {n c m d k q : Nat} {p : Int} (X : RG w s A n c p k) (Y : RN w B m d q k) (hk : k ≤ 100000) (hq : q ≠ 0) :
    Calls Tryz.prog 99 #[.agg #[.bool s, .slice A n c], .slice B m d] w (GivesRQ w (mkRat p q) k) := by
  by_cases h1 : Nat.gcd p.natAbs q = 1
  · exact made_one X Y hk hq h1
  · rcases Nat.lt_or_ge (Nat.gcd p.natAbs q) B32 with h | h
    · exact made_small X Y hk hq rfl h h1
    · exact made_big X Y hk hq rfl h
end Go.Proofs.YtlkjkhpjhllapaaGreat
