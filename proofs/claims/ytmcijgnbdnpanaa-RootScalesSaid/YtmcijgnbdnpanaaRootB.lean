/- root's functions by value: Low, High, Exact. -/
import Derived.Test.YtmcijgnbdnpanaaRootA
namespace Go.Proofs.Ytmcijgnbdnpanaa
open Go Go.RowKit

theorem fld1 (s : Bool) (A : Option Addr) (n c : Nat) (w : World) : (Instr.field 24 (.agg #[.bool s, .slice A n c]) 1).run Try.prog w = .ok (.slice A n c) w := by kernel_rfl
/-- The call tells a number of parts, and no error. -/
def GivesPart (w : World) (P : Nat → Prop) (h : Nat) (e : Ending) (w' : World) : Prop := ∃ R, P R ∧ GivesQE w (inQ R h) 40 e w'
set_option maxRecDepth 100000 in
set_option maxHeartbeats 4000000 in
theorem low_q {w : World} {s : Bool} {A A' : Option Addr} {n c n' c' k : Nat} {v : Rat} (h j : Nat) (X : QR w s A n c A' n' c' v k) (hv : 0 ≤ v) (hj : 2 ^ (2 * h) ≤ B64 ^ j) (hkj : k + j + 1 ≤ 78) (hj2 : 2 ^ h < B64 ^ 40) (hk1 : 1 ≤ k) (hh : h ≤ 4096) :
    Calls Try.prog 13 #[.agg #[.bool s, .slice A n c, .slice A' n' c'], .int .i64 (h : Int)] w (GivesPart w (IsLow v h) h) := by
  have HV := Lib.hid hv
  have HJ := Lib.hid hj
  have HJ2 := Lib.hid hj2
  have hh4 : h ≤ 4096 := hh
  have hfld := fld1
  clear hv hj hj2 hh
  go_enter Try.func13, Try.ntmps13
  go_wp2_with fail
  generalize hW : ((w.alloc (Obj.cells #[Value.bool s, Value.slice A n c, Value.slice A' n' c'] 26)).alloc (Obj.cells #[Value.bool false, Value.slice none 0 0, Value.slice none 0 0] 26)) = W
  have hb : Below w.heap.size w W := by subst hW; exact (((Below.refl _ _).alloc (Nat.le_refl _) _).alloc (by simp) _)
  have XA : B3 W (w.heap.size) (Value.bool s) (Value.slice A n c) (Value.slice A' n' c') := by subst hW; exact (B3.new' _ _ _ _ _ rfl).alloc _
  have Z : B3 W (w.heap.size + 1) (Value.bool false) (Value.slice none 0 0) (Value.slice none 0 0) := by subst hW; exact B3.new' _ _ _ _ _ (by simp)
  have hzW : W.heap.size = w.heap.size + 2 := by subst hW; simp
  clear hW
  replace X := X.below hb
  have xa0 := XA.c0
  have xa1 := XA.c1
  have xa2 := XA.c2
  go_upto_region 5 with (first
      | (go_at_call 35; (with_reducible refine (fault_ok h X HV.out (by omega) hk1 hh4).mono ?_); rintro e w_z ⟨rfl, hh⟩
         try replace X := X.below hh
         try replace u := u.below hh
         try replace f := f.below hh
         try replace r := r.below hh
         try replace XA := XA.below hh
         try replace Z := Z.below hh
         try replace C := C.below hh
         replace hb := bend hb hh
         have xa0 := XA.c0
         have xa1 := XA.c1
         have xa2 := XA.c2))
  generalize hW1 : w_z.alloc (Obj.cells #[Value.int .i64 0] 60) = W1
  have hh : Below w_z.heap.size w_z W1 := by subst hW1; exact (Below.refl _ _).alloc (Nat.le_refl _) _
  have C : Ct W1 w_z.heap.size 0 := by subst hW1; exact Ct.new' _ _ _ rfl
  clear hW1
  have hzl := Z.lt
  have HG : Hid (w.heap.size + 1 < w_z.heap.size) := hzl
  clear hzl
  replace X := X.below hh
  replace XA := XA.below hh
  replace Z := Z.below hh
  replace hb := bend hb hh
  have xa0 := XA.c0
  have xa1 := XA.c1
  have xa2 := XA.c2
  go_wp2_with (first
      | (go_at_call 38; (with_reducible refine (raised_q h j X HV.out (by omega) HJ.out (by omega)).mono ?_); rintro e w_u ⟨A_u, n_u, c_u, rfl, u, hh'⟩; have hh := hh'
         try replace X := X.below hh
         try replace f := f.below hh
         try replace r := r.below hh
         try replace q := q.below hh
         try replace XA := XA.below hh
         try replace Z := Z.below hh
         try replace C := C.below hh
         replace hb := bend hb hh
         have xa0 := XA.c0
         have xa1 := XA.c1
         have xa2 := XA.c2)
      | (go_at_call 37; (with_reducible refine (rfloor_q u (by omega) (by omega)).mono ?_); rintro e w_f ⟨s_f, A_f, n_f, c_f, rfl, f, hh⟩
         try replace X := X.below hh
         try replace u := u.below hh
         try replace r := r.below hh
         try replace q := q.below hh
         try replace XA := XA.below hh
         try replace Z := Z.below hh
         try replace C := C.below hh
         replace hb := bend hb hh
         have xa0 := XA.c0
         have xa1 := XA.c1
         have xa2 := XA.c2)
      | (go_at_call 29; (with_reducible refine (root_any C (by decide) (by decide) (f.zr.nr.more hkj)).mono ?_); rintro e w_r ⟨R_r, hR_r, A_r, n_r, c_r, rfl, r, ho, C2⟩
         have HR_r := Lib.hid hR_r
         clear hR_r
         replace XA := XA.cnt (by have := HG.out; omega) ho
         replace Z := Z.cnt (by have := HG.out; omega) ho
         replace hb := Below.only hb (by have := HG.out; omega) hb.size ho
         clear C
         have C := C2
         clear C2 ho
         have xa0 := XA.c0
         have xa1 := XA.c1
         have xa2 := XA.c2)
      | (go_at_call 36; (with_reducible refine (inparts_q h 40 40 r.nr (by decide) (by decide) HJ2.out (by decide) (by omega)).mono ?_); rintro e w_q ⟨s_q, A_q, n_q, c_q, B_q, m_q, d_q, rfl, q, hh⟩
         try replace X := X.below hh
         try replace u := u.below hh
         try replace f := f.below hh
         try replace r := r.below hh
         try replace XA := XA.below hh
         try replace Z := Z.below hh
         try replace C := C.below hh
         replace hb := bend hb hh
         have zf0 := Z.f0
         have zf1 := Z.f1
         have zf2 := Z.f2
         have z0 := Z.c0
         have z1 := Z.c1
         have z2 := Z.c2))
  have Z2 := Z.set3 (.bool s_q) (.slice A_q n_q c_q) (.slice B_q m_q d_q)
  have g0 := Z2.c0
  have g1 := Z2.c1
  have g2 := Z2.c2
  refine bodyPost_ret (v := .tuple #[.agg #[.bool s_q, .slice A_q n_q c_q, .slice B_q m_q d_q], .int .i64 0]) (by simp [results, Try.results13, go_sem, g0, g1, g2]) rfl ?_
  exact ⟨R_r, HR_r.out, s_q, A_q, n_q, c_q, B_q, m_q, d_q, rfl, q.set3 Z _ _ _, below_set3 hb (by omega) _ _ _⟩

theorem root_half2 {V R k : Nat} (hV : V < B64 ^ (2 * k)) (h : IsRoot V R) : R < B64 ^ k := by
  rcases Nat.lt_or_ge R (B64 ^ k) with h1 | h1
  · exact h1
  · have h2 := Nat.mul_le_mul h1 h1
    rw [← Nat.pow_add, show k + k = 2 * k by omega] at h2
    have := h.1
    omega
set_option maxRecDepth 100000 in
set_option maxHeartbeats 4000000 in
theorem high_q {w : World} {s : Bool} {A A' : Option Addr} {n c n' c' k : Nat} {v : Rat} (h j : Nat) (X : QR w s A n c A' n' c' v k) (hv : 0 ≤ v) (hj : 2 ^ (2 * h) ≤ B64 ^ j) (hkj : k + j + 1 ≤ 78) (hj2 : 2 ^ h < B64 ^ 40) (hk1 : 1 ≤ k) (hh : h ≤ 4096) :
    Calls Try.prog 14 #[.agg #[.bool s, .slice A n c, .slice A' n' c'], .int .i64 (h : Int)] w (GivesPart w (IsHigh v h) h) := by
  have HV := Lib.hid hv
  have HJ := Lib.hid hj
  have HJ2 := Lib.hid hj2
  have hh4 : h ≤ 4096 := hh
  have hfld := fld1
  clear hv hj hj2 hh
  go_enter Try.func14, Try.ntmps14
  go_wp2_with fail
  generalize hW : ((w.alloc (Obj.cells #[Value.bool s, Value.slice A n c, Value.slice A' n' c'] 26)).alloc (Obj.cells #[Value.bool false, Value.slice none 0 0, Value.slice none 0 0] 26)) = W
  have hb : Below w.heap.size w W := by subst hW; exact (((Below.refl _ _).alloc (Nat.le_refl _) _).alloc (by simp) _)
  have XA : B3 W (w.heap.size) (Value.bool s) (Value.slice A n c) (Value.slice A' n' c') := by subst hW; exact (B3.new' _ _ _ _ _ rfl).alloc _
  have Z : B3 W (w.heap.size + 1) (Value.bool false) (Value.slice none 0 0) (Value.slice none 0 0) := by subst hW; exact B3.new' _ _ _ _ _ (by simp)
  have hzW : W.heap.size = w.heap.size + 2 := by subst hW; simp
  clear hW
  replace X := X.below hb
  have xa0 := XA.c0
  have xa1 := XA.c1
  have xa2 := XA.c2
  go_upto_region 5 with (first
      | (go_at_call 35; (with_reducible refine (fault_ok h X HV.out (by omega) hk1 hh4).mono ?_); rintro e w_z ⟨rfl, hh⟩
         try replace X := X.below hh
         try replace u := u.below hh
         try replace f := f.below hh
         try replace r := r.below hh
         try replace XA := XA.below hh
         try replace Z := Z.below hh
         try replace C := C.below hh
         replace hb := bend hb hh
         have xa0 := XA.c0
         have xa1 := XA.c1
         have xa2 := XA.c2))
  generalize hW1 : w_z.alloc (Obj.cells #[Value.int .i64 0] 60) = W1
  have hh : Below w_z.heap.size w_z W1 := by subst hW1; exact (Below.refl _ _).alloc (Nat.le_refl _) _
  have C : Ct W1 w_z.heap.size 0 := by subst hW1; exact Ct.new' _ _ _ rfl
  clear hW1
  have hzl := Z.lt
  have HG : Hid (w.heap.size + 1 < w_z.heap.size) := hzl
  clear hzl
  replace X := X.below hh
  replace XA := XA.below hh
  replace Z := Z.below hh
  replace hb := bend hb hh
  have xa0 := XA.c0
  have xa1 := XA.c1
  have xa2 := XA.c2
  go_upto_region 6 with (first
      | (go_at_call 38; (with_reducible refine (raised_q h j X HV.out (by omega) HJ.out (by omega)).mono ?_); rintro e w_u ⟨A_u, n_u, c_u, rfl, u, hh'⟩; have hh := hh'
         try replace X := X.below hh
         try replace f := f.below hh
         try replace r := r.below hh
         try replace q := q.below hh
         try replace XA := XA.below hh
         try replace Z := Z.below hh
         try replace C := C.below hh
         replace hb := bend hb hh
         have xa0 := XA.c0
         have xa1 := XA.c1
         have xa2 := XA.c2)
      | (go_at_call 39; (with_reducible refine (rceil_q u (by omega) (by omega)).mono ?_); rintro e w_f ⟨s_f, A_f, n_f, c_f, rfl, f, hh⟩
         have HF := Lib.hid f.zr.nr.lt
         try replace X := X.below hh
         try replace u := u.below hh
         try replace r := r.below hh
         try replace q := q.below hh
         try replace XA := XA.below hh
         try replace Z := Z.below hh
         try replace C := C.below hh
         replace hb := bend hb hh
         have xa0 := XA.c0
         have xa1 := XA.c1
         have xa2 := XA.c2)
      | (go_at_call 29; (with_reducible refine (root_any C (by decide) (by decide) (f.zr.nr.more hkj)).mono ?_); rintro e w_r ⟨R_r, hR_r, A_r, n_r, c_r, rfl, r, ho, C2⟩
         have HR_r := Lib.hid hR_r
         clear hR_r
         replace XA := XA.cnt (by have := HG.out; omega) ho
         replace Z := Z.cnt (by have := HG.out; omega) ho
         replace hb := Below.only hb (by have := HG.out; omega) hb.size ho
         clear C
         have C := C2
         clear C2 ho
         have xa0 := XA.c0
         have xa1 := XA.c1
         have xa2 := XA.c2))
  clear u f X XA
  have HL : Hid (R_r < B64 ^ 39) := root_half2 (Nat.lt_of_lt_of_le HF.out (Nat.pow_le_pow_right (by decide) hkj)) HR_r.out
  by_cases hs : R_r * R_r = (upQ v h).ceil.natAbs
  · have HS := Lib.hid hs
    rw [if_pos hs] at C
    clear hs
    go_wp2_with (first
      | (go_at_call 30; (with_reducible refine (load_any C).mono ?_); rintro e w_l ⟨rfl, rfl⟩)
      | (go_at_call 36; (with_reducible refine (inparts_q h 40 40 r.nr (by decide) (by decide) HJ2.out (by decide) (by omega)).mono ?_); rintro e w_q ⟨s_q, A_q, n_q, c_q, B_q, m_q, d_q, rfl, q, hh⟩
         try replace X := X.below hh
         try replace u := u.below hh
         try replace f := f.below hh
         try replace r := r.below hh
         try replace XA := XA.below hh
         try replace Z := Z.below hh
         try replace C := C.below hh
         replace hb := bend hb hh
         have zf0 := Z.f0
         have zf1 := Z.f1
         have zf2 := Z.f2
         have z0 := Z.c0
         have z1 := Z.c1
         have z2 := Z.c2))
    have Z2 := Z.set3 (.bool s_q) (.slice A_q n_q c_q) (.slice B_q m_q d_q)
    have g0 := Z2.c0
    have g1 := Z2.c1
    have g2 := Z2.c2
    refine bodyPost_ret (v := .tuple #[.agg #[.bool s_q, .slice A_q n_q c_q, .slice B_q m_q d_q], .int .i64 0]) (by simp [results, Try.results14, go_sem, g0, g1, g2]) rfl ?_
    exact ⟨R_r, ⟨R_r, HR_r.out, (if_pos HS.out).symm⟩, s_q, A_q, n_q, c_q, B_q, m_q, d_q, rfl, q.set3 Z _ _ _, below_set3 hb (by omega) _ _ _⟩
  · have HS := Lib.hid hs
    rw [if_neg hs] at C
    clear hs
    have r39 : NG w_r A_r n_r c_r R_r 39 := r.tight HL.out
    clear r
    go_wp2_with (first
      | (go_at_call 30; (with_reducible refine (load_any C).mono ?_); rintro e w_l ⟨rfl, rfl⟩)
      | (go_at_call 41; (with_reducible refine (of_one _).mono ?_); rintro e w_o ⟨A_o, n_o, c_o, rfl, o, hh⟩
         replace r39 := r39.below hh
         replace Z := Z.below hh
         replace hb := bend hb hh)
      | (go_at_call 40; (with_reducible refine (add_nr 40 r39.nr o.nr (by decide) (by decide) (by decide)).mono ?_); rintro e w_a ⟨A_a, n_a, c_a, rfl, a, hh⟩
         try replace Z := Z.below hh
         replace hb := bend hb hh)
      | (go_at_call 36; (with_reducible refine (inparts_q h 40 40 a.nr (by decide) (by decide) HJ2.out (by decide) (by omega)).mono ?_); rintro e w_q ⟨s_q, A_q, n_q, c_q, B_q, m_q, d_q, rfl, q, hh⟩
         try replace X := X.below hh
         try replace u := u.below hh
         try replace f := f.below hh
         try replace r := r.below hh
         try replace XA := XA.below hh
         try replace Z := Z.below hh
         try replace C := C.below hh
         replace hb := bend hb hh
         have zf0 := Z.f0
         have zf1 := Z.f1
         have zf2 := Z.f2
         have z0 := Z.c0
         have z1 := Z.c1
         have z2 := Z.c2))
    have Z2 := Z.set3 (.bool s_q) (.slice A_q n_q c_q) (.slice B_q m_q d_q)
    have g0 := Z2.c0
    have g1 := Z2.c1
    have g2 := Z2.c2
    refine bodyPost_ret (v := .tuple #[.agg #[.bool s_q, .slice A_q n_q c_q, .slice B_q m_q d_q], .int .i64 0]) (by simp [results, Try.results14, go_sem, g0, g1, g2]) rfl ?_
    exact ⟨R_r + 1, ⟨R_r, HR_r.out, (if_neg HS.out).symm⟩, s_q, A_q, n_q, c_q, B_q, m_q, d_q, rfl, q.set3 Z _ _ _, below_set3 hb (by omega) _ _ _⟩

theorem QG.nrP {w : World} {s : Bool} {A A' : Option Addr} {n c n' c' k k1 : Nat} {v : Rat} (h : QG w s A n c A' n' c' v k) (hk : k ≤ k1) : NR w A n c v.num.natAbs k1 := h.1.zr.nr.more hk
theorem QG.nrQ {w : World} {s : Bool} {A A' : Option Addr} {n c n' c' k k1 : Nat} {v : Rat} (h : QG w s A n c A' n' c' v k) (hk : k ≤ k1) : NR w A' n' c' v.den k1 := h.2.nr.more hk
def IsSq (V : Nat) : Prop := ∃ a, a * a = V
theorem root_sq {w : World} {g a : Nat} {x : Int} {A : Option Addr} {n c V : Nat} (C : Ct w g x) (h0 : 0 ≤ x) (h1 : x ≤ 100) (X : NR w A n c V 78) (hV : a * a = V) :
    Calls Try.prog 29 #[.pointer (some ⟨g, 0, none⟩), .slice A n c] w fun e w' => ∃ A n c, e = .returned (.slice A n c) ∧ NG w' A n c a 40 ∧ Only g w w' ∧ Ct w' g (x + 1) := by
  refine (root_any C h0 h1 X).mono ?_
  rintro e w' ⟨R, hR, A2, n2, c2, rfl, r, ho, C2⟩
  have ha : IsRoot V a := ⟨Nat.le_of_eq hV, by rw [← hV, Nat.add_mul, Nat.mul_add]; omega⟩
  obtain rfl := hR.one ha
  rw [if_pos hV] at C2
  exact ⟨A2, n2, c2, rfl, r, ho, C2⟩
theorem root_no {w : World} {g : Nat} {x : Int} {A : Option Addr} {n c V : Nat} (C : Ct w g x) (h0 : 0 ≤ x) (h1 : x ≤ 100) (X : NR w A n c V 78) (hV : ¬ IsSq V) :
    Calls Try.prog 29 #[.pointer (some ⟨g, 0, none⟩), .slice A n c] w fun e w' => ∃ A n c, e = .returned (.slice A n c) ∧ Only g w w' ∧ Ct w' g x := by
  refine (root_any C h0 h1 X).mono ?_
  rintro e w' ⟨R, hR, A2, n2, c2, rfl, r, ho, C2⟩
  rw [if_neg (fun q => hV ⟨R, q⟩)] at C2
  exact ⟨A2, n2, c2, rfl, ho, C2⟩
set_option maxRecDepth 100000 in
set_option maxHeartbeats 8000000 in
theorem exact_yy {w : World} {s : Bool} {A A' : Option Addr} {n c n' c' k : Nat} {v : Rat} {a b : Nat} (X : QR w s A n c A' n' c' v k) (hv : 0 ≤ v) (hk : k ≤ 78) (hk1 : 1 ≤ k) (h1 : a * a = v.abs.num.natAbs) (h2 : b * b = v.abs.den) :
    Calls Try.prog 9 #[.agg #[.bool s, .slice A n c, .slice A' n' c']] w fun e w' => ∃ s A n c B m d, e = .returned (.tuple #[.agg #[.bool s, .slice A n c, .slice B m d], .bool true]) ∧ s = false ∧ NG w' A n c a 40 ∧ NG w' B m d b 40 ∧ Below w.heap.size w w' := by
  obtain ⟨g, hg, hg0⟩ : ∃ g, sgnQ v = g ∧ ¬ g < 0 := ⟨_, rfl, by unfold sgnQ; rw [if_neg (Rat.not_lt.2 hv)]; split <;> decide⟩
  have HG0 := Lib.hid hg
  have H1 := Lib.hid h1
  have H2 := Lib.hid h2
  clear hg hv h1 h2
  go_enter Try.func9, Try.ntmps9
  go_wp2_with fail
  generalize hW : ((w.alloc (Obj.cells #[Value.bool s, Value.slice A n c, Value.slice A' n' c'] 26)).alloc (Obj.cells #[Value.bool false, Value.slice none 0 0, Value.slice none 0 0] 26)) = W
  have hb : Below w.heap.size w W := by subst hW; exact (((Below.refl _ _).alloc (Nat.le_refl _) _).alloc (by simp) _)
  have XA : B3 W (w.heap.size) (Value.bool s) (Value.slice A n c) (Value.slice A' n' c') := by subst hW; exact (B3.new' _ _ _ _ _ rfl).alloc _
  have Z : B3 W (w.heap.size + 1) (Value.bool false) (Value.slice none 0 0) (Value.slice none 0 0) := by subst hW; exact B3.new' _ _ _ _ _ (by simp)
  have hzW : W.heap.size = w.heap.size + 2 := by subst hW; simp
  clear hW
  replace X := X.below hb
  have xa0 := XA.c0
  have xa1 := XA.c1
  have xa2 := XA.c2
  have yf0 := XA.f0
  have yf1 := XA.f1
  have yf2 := XA.f2
  have y0 := XA.c0
  have y1 := XA.c1
  have y2 := XA.c2
  go_upto_region 4 with (first
      | (go_at_call 15; (with_reducible refine (rsign_q X (by omega) hk1).mono ?_); rintro e w_z ⟨rfl, hh⟩
         rw [HG0.out]
         try replace X := X.below hh
         try replace q := q.below hh
         try replace XA := XA.below hh
         try replace Z := Z.below hh
         try replace C := C.below hh
         replace hb := bend hb hh
         have xa0 := XA.c0
         have xa1 := XA.c1
         have xa2 := XA.c2
         have yf0 := XA.f0
         have yf1 := XA.f1
         have yf2 := XA.f2
         have y0 := XA.c0
         have y1 := XA.c1
         have y2 := XA.c2)
      | (go_at_call 12; (with_reducible refine (rabs_q X (by omega) hk1).mono ?_); rintro e w_q ⟨s_q, A_q, n_q, c_q, B_q, m_q, d_q, rfl, q, hh⟩
         try replace X := X.below hh
         try replace XA := XA.below hh
         try replace Z := Z.below hh
         try replace C := C.below hh
         replace hb := bend hb hh
         have xa0 := XA.c0
         have xa1 := XA.c1
         have xa2 := XA.c2
         have yf0 := XA.f0
         have yf1 := XA.f1
         have yf2 := XA.f2
         have y0 := XA.c0
         have y1 := XA.c1
         have y2 := XA.c2))
  clear X xa0 xa1 xa2 y0 y1 y2 yf0 yf1 yf2
  generalize hW2 : (((w_q.setCell ⟨w.heap.size, 0, none⟩ (Value.bool s_q)).setCell ⟨w.heap.size, 1, none⟩ (Value.slice A_q n_q c_q)).setCell ⟨w.heap.size, 2, none⟩ (Value.slice B_q m_q d_q)) = W2
  have XA2 : B3 W2 w.heap.size (Value.bool s_q) (Value.slice A_q n_q c_q) (Value.slice B_q m_q d_q) := by subst hW2; exact XA.set3 _ _ _
  have q2 : QG W2 s_q A_q n_q c_q B_q m_q d_q v.abs k := by subst hW2; exact q.set3 XA _ _ _
  have Z2 : B3 W2 (w.heap.size + 1) (Value.bool false) (Value.slice none 0 0) (Value.slice none 0 0) := by
    subst hW2
    unfold B3 at Z ⊢
    rw [Below.heap_setCell _ _ _ _ (by simp), Below.heap_setCell _ _ _ _ (by simp), Below.heap_setCell _ _ _ _ (by simp)]
    exact Z
  replace hb : Below w.heap.size w W2 := by subst hW2; exact below_set3 hb (Nat.le_refl _) _ _ _
  clear hW2 q XA Z
  have XA := XA2
  have Z := Z2
  have q := q2
  clear XA2 Z2 q2
  have hzl := Z.lt
  have HG : Hid (w.heap.size + 1 < W2.heap.size) := hzl
  clear hzl
  go_upto_region 5 with (fail)
  generalize hW1 : W2.alloc (Obj.cells #[Value.int .i64 0] 60) = W1
  have hh : Below W2.heap.size W2 W1 := by subst hW1; exact (Below.refl _ _).alloc (Nat.le_refl _) _
  have C : Ct W1 W2.heap.size 0 := by subst hW1; exact Ct.new' _ _ _ rfl
  clear hW1
  replace q := q.below hh
  replace XA := XA.below hh
  replace Z := Z.below hh
  replace hb := bend hb hh
  replace C : Ct W1.drew W2.heap.size 0 := C
  replace q := q.below (Below.refl _ _).drew
  replace XA := XA.below (Below.refl _ _).drew
  replace Z := Z.below (Below.refl _ _).drew
  replace hb := hb.drew
  go_region_held3 (fun w' => w'.cell? ⟨w.heap.size, 0, none⟩ = some (.bool s_q) ∧ w'.cell? ⟨w.heap.size, 1, none⟩ = some (.slice A_q n_q c_q) ∧ w'.cell? ⟨w.heap.size, 2, none⟩ = some (.slice B_q m_q d_q))
    (first | with_reducible exact ⟨XA.c0, XA.c1, XA.c2⟩)
    (first
    | (go_at_call 29; (with_reducible refine (root_sq C (by decide) (by decide) (q.nrP hk) H1.out).mono ?_); rintro e w_u1 ⟨A_u1, n_u1, c_u1, rfl, u1, ho, C2⟩
       replace XA := XA.cnt (by have := HG.out; omega) ho
       replace Z := Z.cnt (by have := HG.out; omega) ho
       try replace q := q.cnt C ho
       try replace u2 := u2.cnt C ho
       replace hb := Below.only hb (by have := HG.out; omega) hb.size ho
       clear C
       have C := C2
       clear C2 ho)
    | (go_at_call 29; (with_reducible refine (root_sq C (by decide) (by decide) (q.nrQ hk) H2.out).mono ?_); rintro e w_u2 ⟨A_u2, n_u2, c_u2, rfl, u2, ho, C2⟩
       replace XA := XA.cnt (by have := HG.out; omega) ho
       replace Z := Z.cnt (by have := HG.out; omega) ho
       try replace q := q.cnt C ho
       try replace u1 := u1.cnt C ho
       replace hb := Below.only hb (by have := HG.out; omega) hb.size ho
       clear C
       have C := C2
       clear C2 ho))
  have zf0 := Z.f0
  have zf1 := Z.f1
  have zf2 := Z.f2
  have z0 := Z.c0
  have z1 := Z.c1
  have z2 := Z.c2
  go_wp2_with (first
      | (go_at_call 30; (with_reducible refine (load_any C).mono ?_); rintro e w_l ⟨rfl, rfl⟩))
  have Z2 := Z.set3 (.bool false) (.slice A_u1 n_u1 c_u1) (.slice A_u2 n_u2 c_u2)
  have g0 := Z2.c0
  have g1 := Z2.c1
  have g2 := Z2.c2
  refine bodyPost_ret (v := .tuple #[.agg #[.bool false, .slice A_u1 n_u1 c_u1, .slice A_u2 n_u2 c_u2], .bool true]) (by simp [results, Try.results9, go_sem, g0, g1, g2]) rfl ?_
  have ho := (((Only.refl (w.heap.size + 1) w_u2).setCell 0 (.bool false)).setCell 1 (.slice A_u1 n_u1 c_u1)).setCell 2 (.slice A_u2 n_u2 c_u2)
  exact ⟨false, A_u1, n_u1, c_u1, A_u2, n_u2, c_u2, rfl, rfl, u1.only (u1.nr.off3 Z) ho, u2.only (u2.nr.off3 Z) ho, below_set3 hb (by omega) _ _ _⟩
set_option maxRecDepth 100000 in
set_option maxHeartbeats 8000000 in
theorem exact_yn {w : World} {s : Bool} {A A' : Option Addr} {n c n' c' k : Nat} {v : Rat} {a : Nat} (X : QR w s A n c A' n' c' v k) (hv : 0 ≤ v) (hk : k ≤ 78) (hk1 : 1 ≤ k) (h1 : a * a = v.abs.num.natAbs) (h2 : ¬ IsSq v.abs.den) :
    Calls Try.prog 9 #[.agg #[.bool s, .slice A n c, .slice A' n' c']] w fun e w' => e = .returned (.tuple #[.agg #[.bool false, .slice none 0 0, .slice none 0 0], .bool false]) ∧ Below w.heap.size w w' := by
  obtain ⟨g, hg, hg0⟩ : ∃ g, sgnQ v = g ∧ ¬ g < 0 := ⟨_, rfl, by unfold sgnQ; rw [if_neg (Rat.not_lt.2 hv)]; split <;> decide⟩
  have HG0 := Lib.hid hg
  have H1 := Lib.hid h1
  have H2 := Lib.hid h2
  clear hg hv h1 h2
  go_enter Try.func9, Try.ntmps9
  go_wp2_with fail
  generalize hW : ((w.alloc (Obj.cells #[Value.bool s, Value.slice A n c, Value.slice A' n' c'] 26)).alloc (Obj.cells #[Value.bool false, Value.slice none 0 0, Value.slice none 0 0] 26)) = W
  have hb : Below w.heap.size w W := by subst hW; exact (((Below.refl _ _).alloc (Nat.le_refl _) _).alloc (by simp) _)
  have XA : B3 W (w.heap.size) (Value.bool s) (Value.slice A n c) (Value.slice A' n' c') := by subst hW; exact (B3.new' _ _ _ _ _ rfl).alloc _
  have Z : B3 W (w.heap.size + 1) (Value.bool false) (Value.slice none 0 0) (Value.slice none 0 0) := by subst hW; exact B3.new' _ _ _ _ _ (by simp)
  have hzW : W.heap.size = w.heap.size + 2 := by subst hW; simp
  clear hW
  replace X := X.below hb
  have xa0 := XA.c0
  have xa1 := XA.c1
  have xa2 := XA.c2
  have yf0 := XA.f0
  have yf1 := XA.f1
  have yf2 := XA.f2
  have y0 := XA.c0
  have y1 := XA.c1
  have y2 := XA.c2
  go_upto_region 4 with (first
      | (go_at_call 15; (with_reducible refine (rsign_q X (by omega) hk1).mono ?_); rintro e w_z ⟨rfl, hh⟩
         rw [HG0.out]
         try replace X := X.below hh
         try replace q := q.below hh
         try replace XA := XA.below hh
         try replace Z := Z.below hh
         try replace C := C.below hh
         replace hb := bend hb hh
         have xa0 := XA.c0
         have xa1 := XA.c1
         have xa2 := XA.c2
         have yf0 := XA.f0
         have yf1 := XA.f1
         have yf2 := XA.f2
         have y0 := XA.c0
         have y1 := XA.c1
         have y2 := XA.c2)
      | (go_at_call 12; (with_reducible refine (rabs_q X (by omega) hk1).mono ?_); rintro e w_q ⟨s_q, A_q, n_q, c_q, B_q, m_q, d_q, rfl, q, hh⟩
         try replace X := X.below hh
         try replace XA := XA.below hh
         try replace Z := Z.below hh
         try replace C := C.below hh
         replace hb := bend hb hh
         have xa0 := XA.c0
         have xa1 := XA.c1
         have xa2 := XA.c2
         have yf0 := XA.f0
         have yf1 := XA.f1
         have yf2 := XA.f2
         have y0 := XA.c0
         have y1 := XA.c1
         have y2 := XA.c2))
  clear X xa0 xa1 xa2 y0 y1 y2 yf0 yf1 yf2
  generalize hW2 : (((w_q.setCell ⟨w.heap.size, 0, none⟩ (Value.bool s_q)).setCell ⟨w.heap.size, 1, none⟩ (Value.slice A_q n_q c_q)).setCell ⟨w.heap.size, 2, none⟩ (Value.slice B_q m_q d_q)) = W2
  have XA2 : B3 W2 w.heap.size (Value.bool s_q) (Value.slice A_q n_q c_q) (Value.slice B_q m_q d_q) := by subst hW2; exact XA.set3 _ _ _
  have q2 : QG W2 s_q A_q n_q c_q B_q m_q d_q v.abs k := by subst hW2; exact q.set3 XA _ _ _
  have Z2 : B3 W2 (w.heap.size + 1) (Value.bool false) (Value.slice none 0 0) (Value.slice none 0 0) := by
    subst hW2
    unfold B3 at Z ⊢
    rw [Below.heap_setCell _ _ _ _ (by simp), Below.heap_setCell _ _ _ _ (by simp), Below.heap_setCell _ _ _ _ (by simp)]
    exact Z
  replace hb : Below w.heap.size w W2 := by subst hW2; exact below_set3 hb (Nat.le_refl _) _ _ _
  clear hW2 q XA Z
  have XA := XA2
  have Z := Z2
  have q := q2
  clear XA2 Z2 q2
  have hzl := Z.lt
  have HG : Hid (w.heap.size + 1 < W2.heap.size) := hzl
  clear hzl
  go_upto_region 5 with (fail)
  generalize hW1 : W2.alloc (Obj.cells #[Value.int .i64 0] 60) = W1
  have hh : Below W2.heap.size W2 W1 := by subst hW1; exact (Below.refl _ _).alloc (Nat.le_refl _) _
  have C : Ct W1 W2.heap.size 0 := by subst hW1; exact Ct.new' _ _ _ rfl
  clear hW1
  replace q := q.below hh
  replace XA := XA.below hh
  replace Z := Z.below hh
  replace hb := bend hb hh
  replace C : Ct W1.drew W2.heap.size 0 := C
  replace q := q.below (Below.refl _ _).drew
  replace XA := XA.below (Below.refl _ _).drew
  replace Z := Z.below (Below.refl _ _).drew
  replace hb := hb.drew
  go_region_held3 (fun w' => w'.cell? ⟨w.heap.size, 0, none⟩ = some (.bool s_q) ∧ w'.cell? ⟨w.heap.size, 1, none⟩ = some (.slice A_q n_q c_q) ∧ w'.cell? ⟨w.heap.size, 2, none⟩ = some (.slice B_q m_q d_q))
    (first | with_reducible exact ⟨XA.c0, XA.c1, XA.c2⟩)
    (first
    | (go_at_call 29; (with_reducible refine (root_sq C (by decide) (by decide) (q.nrP hk) H1.out).mono ?_); rintro e w_u1 ⟨A_u1, n_u1, c_u1, rfl, u1, ho, C2⟩
       replace XA := XA.cnt (by have := HG.out; omega) ho
       replace Z := Z.cnt (by have := HG.out; omega) ho
       try replace q := q.cnt C ho
       try replace u2 := u2.cnt C ho
       replace hb := Below.only hb (by have := HG.out; omega) hb.size ho
       clear C
       have C := C2
       clear C2 ho)
    | (go_at_call 29; (with_reducible refine (root_no C (by decide) (by decide) (q.nrQ hk) H2.out).mono ?_); rintro e w_u2 ⟨A_u2, n_u2, c_u2, rfl, ho, C2⟩
       replace XA := XA.cnt (by have := HG.out; omega) ho
       replace Z := Z.cnt (by have := HG.out; omega) ho
       try replace q := q.cnt C ho
       try replace u1 := u1.cnt C ho
       replace hb := Below.only hb (by have := HG.out; omega) hb.size ho
       clear C
       have C := C2
       clear C2 ho))
  have zf0 := Z.f0
  have zf1 := Z.f1
  have zf2 := Z.f2
  have z0 := Z.c0
  have z1 := Z.c1
  have z2 := Z.c2
  go_wp2_with (first
      | (go_at_call 30; (with_reducible refine (load_any C).mono ?_); rintro e w_l ⟨rfl, rfl⟩))
  have Z2 := Z.set3 (.bool false) (.slice none 0 0) (.slice none 0 0)
  have g0 := Z2.c0
  have g1 := Z2.c1
  have g2 := Z2.c2
  refine bodyPost_ret (v := .tuple #[.agg #[.bool false, .slice none 0 0, .slice none 0 0], .bool false]) (by simp [results, Try.results9, go_sem, g0, g1, g2]) rfl ?_
  exact ⟨rfl, below_set3 hb (by omega) _ _ _⟩
set_option maxRecDepth 100000 in
set_option maxHeartbeats 8000000 in
theorem exact_ny {w : World} {s : Bool} {A A' : Option Addr} {n c n' c' k : Nat} {v : Rat} {b : Nat} (X : QR w s A n c A' n' c' v k) (hv : 0 ≤ v) (hk : k ≤ 78) (hk1 : 1 ≤ k) (h1 : ¬ IsSq v.abs.num.natAbs) (h2 : b * b = v.abs.den) :
    Calls Try.prog 9 #[.agg #[.bool s, .slice A n c, .slice A' n' c']] w fun e w' => e = .returned (.tuple #[.agg #[.bool false, .slice none 0 0, .slice none 0 0], .bool false]) ∧ Below w.heap.size w w' := by
  obtain ⟨g, hg, hg0⟩ : ∃ g, sgnQ v = g ∧ ¬ g < 0 := ⟨_, rfl, by unfold sgnQ; rw [if_neg (Rat.not_lt.2 hv)]; split <;> decide⟩
  have HG0 := Lib.hid hg
  have H1 := Lib.hid h1
  have H2 := Lib.hid h2
  clear hg hv h1 h2
  go_enter Try.func9, Try.ntmps9
  go_wp2_with fail
  generalize hW : ((w.alloc (Obj.cells #[Value.bool s, Value.slice A n c, Value.slice A' n' c'] 26)).alloc (Obj.cells #[Value.bool false, Value.slice none 0 0, Value.slice none 0 0] 26)) = W
  have hb : Below w.heap.size w W := by subst hW; exact (((Below.refl _ _).alloc (Nat.le_refl _) _).alloc (by simp) _)
  have XA : B3 W (w.heap.size) (Value.bool s) (Value.slice A n c) (Value.slice A' n' c') := by subst hW; exact (B3.new' _ _ _ _ _ rfl).alloc _
  have Z : B3 W (w.heap.size + 1) (Value.bool false) (Value.slice none 0 0) (Value.slice none 0 0) := by subst hW; exact B3.new' _ _ _ _ _ (by simp)
  have hzW : W.heap.size = w.heap.size + 2 := by subst hW; simp
  clear hW
  replace X := X.below hb
  have xa0 := XA.c0
  have xa1 := XA.c1
  have xa2 := XA.c2
  have yf0 := XA.f0
  have yf1 := XA.f1
  have yf2 := XA.f2
  have y0 := XA.c0
  have y1 := XA.c1
  have y2 := XA.c2
  go_upto_region 4 with (first
      | (go_at_call 15; (with_reducible refine (rsign_q X (by omega) hk1).mono ?_); rintro e w_z ⟨rfl, hh⟩
         rw [HG0.out]
         try replace X := X.below hh
         try replace q := q.below hh
         try replace XA := XA.below hh
         try replace Z := Z.below hh
         try replace C := C.below hh
         replace hb := bend hb hh
         have xa0 := XA.c0
         have xa1 := XA.c1
         have xa2 := XA.c2
         have yf0 := XA.f0
         have yf1 := XA.f1
         have yf2 := XA.f2
         have y0 := XA.c0
         have y1 := XA.c1
         have y2 := XA.c2)
      | (go_at_call 12; (with_reducible refine (rabs_q X (by omega) hk1).mono ?_); rintro e w_q ⟨s_q, A_q, n_q, c_q, B_q, m_q, d_q, rfl, q, hh⟩
         try replace X := X.below hh
         try replace XA := XA.below hh
         try replace Z := Z.below hh
         try replace C := C.below hh
         replace hb := bend hb hh
         have xa0 := XA.c0
         have xa1 := XA.c1
         have xa2 := XA.c2
         have yf0 := XA.f0
         have yf1 := XA.f1
         have yf2 := XA.f2
         have y0 := XA.c0
         have y1 := XA.c1
         have y2 := XA.c2))
  clear X xa0 xa1 xa2 y0 y1 y2 yf0 yf1 yf2
  generalize hW2 : (((w_q.setCell ⟨w.heap.size, 0, none⟩ (Value.bool s_q)).setCell ⟨w.heap.size, 1, none⟩ (Value.slice A_q n_q c_q)).setCell ⟨w.heap.size, 2, none⟩ (Value.slice B_q m_q d_q)) = W2
  have XA2 : B3 W2 w.heap.size (Value.bool s_q) (Value.slice A_q n_q c_q) (Value.slice B_q m_q d_q) := by subst hW2; exact XA.set3 _ _ _
  have q2 : QG W2 s_q A_q n_q c_q B_q m_q d_q v.abs k := by subst hW2; exact q.set3 XA _ _ _
  have Z2 : B3 W2 (w.heap.size + 1) (Value.bool false) (Value.slice none 0 0) (Value.slice none 0 0) := by
    subst hW2
    unfold B3 at Z ⊢
    rw [Below.heap_setCell _ _ _ _ (by simp), Below.heap_setCell _ _ _ _ (by simp), Below.heap_setCell _ _ _ _ (by simp)]
    exact Z
  replace hb : Below w.heap.size w W2 := by subst hW2; exact below_set3 hb (Nat.le_refl _) _ _ _
  clear hW2 q XA Z
  have XA := XA2
  have Z := Z2
  have q := q2
  clear XA2 Z2 q2
  have hzl := Z.lt
  have HG : Hid (w.heap.size + 1 < W2.heap.size) := hzl
  clear hzl
  go_upto_region 5 with (fail)
  generalize hW1 : W2.alloc (Obj.cells #[Value.int .i64 0] 60) = W1
  have hh : Below W2.heap.size W2 W1 := by subst hW1; exact (Below.refl _ _).alloc (Nat.le_refl _) _
  have C : Ct W1 W2.heap.size 0 := by subst hW1; exact Ct.new' _ _ _ rfl
  clear hW1
  replace q := q.below hh
  replace XA := XA.below hh
  replace Z := Z.below hh
  replace hb := bend hb hh
  replace C : Ct W1.drew W2.heap.size 0 := C
  replace q := q.below (Below.refl _ _).drew
  replace XA := XA.below (Below.refl _ _).drew
  replace Z := Z.below (Below.refl _ _).drew
  replace hb := hb.drew
  go_region_held3 (fun w' => w'.cell? ⟨w.heap.size, 0, none⟩ = some (.bool s_q) ∧ w'.cell? ⟨w.heap.size, 1, none⟩ = some (.slice A_q n_q c_q) ∧ w'.cell? ⟨w.heap.size, 2, none⟩ = some (.slice B_q m_q d_q))
    (first | with_reducible exact ⟨XA.c0, XA.c1, XA.c2⟩)
    (first
    | (go_at_call 29; (with_reducible refine (root_no C (by decide) (by decide) (q.nrP hk) H1.out).mono ?_); rintro e w_u1 ⟨A_u1, n_u1, c_u1, rfl, ho, C2⟩
       replace XA := XA.cnt (by have := HG.out; omega) ho
       replace Z := Z.cnt (by have := HG.out; omega) ho
       try replace q := q.cnt C ho
       try replace u2 := u2.cnt C ho
       replace hb := Below.only hb (by have := HG.out; omega) hb.size ho
       clear C
       have C := C2
       clear C2 ho)
    | (go_at_call 29; (with_reducible refine (root_sq C (by decide) (by decide) (q.nrQ hk) H2.out).mono ?_); rintro e w_u2 ⟨A_u2, n_u2, c_u2, rfl, u2, ho, C2⟩
       replace XA := XA.cnt (by have := HG.out; omega) ho
       replace Z := Z.cnt (by have := HG.out; omega) ho
       try replace q := q.cnt C ho
       try replace u1 := u1.cnt C ho
       replace hb := Below.only hb (by have := HG.out; omega) hb.size ho
       clear C
       have C := C2
       clear C2 ho))
  have zf0 := Z.f0
  have zf1 := Z.f1
  have zf2 := Z.f2
  have z0 := Z.c0
  have z1 := Z.c1
  have z2 := Z.c2
  go_wp2_with (first
      | (go_at_call 30; (with_reducible refine (load_any C).mono ?_); rintro e w_l ⟨rfl, rfl⟩))
  have Z2 := Z.set3 (.bool false) (.slice none 0 0) (.slice none 0 0)
  have g0 := Z2.c0
  have g1 := Z2.c1
  have g2 := Z2.c2
  refine bodyPost_ret (v := .tuple #[.agg #[.bool false, .slice none 0 0, .slice none 0 0], .bool false]) (by simp [results, Try.results9, go_sem, g0, g1, g2]) rfl ?_
  exact ⟨rfl, below_set3 hb (by omega) _ _ _⟩
set_option maxRecDepth 100000 in
set_option maxHeartbeats 8000000 in
theorem exact_nn {w : World} {s : Bool} {A A' : Option Addr} {n c n' c' k : Nat} {v : Rat} (X : QR w s A n c A' n' c' v k) (hv : 0 ≤ v) (hk : k ≤ 78) (hk1 : 1 ≤ k) (h1 : ¬ IsSq v.abs.num.natAbs) (h2 : ¬ IsSq v.abs.den) :
    Calls Try.prog 9 #[.agg #[.bool s, .slice A n c, .slice A' n' c']] w fun e w' => e = .returned (.tuple #[.agg #[.bool false, .slice none 0 0, .slice none 0 0], .bool false]) ∧ Below w.heap.size w w' := by
  obtain ⟨g, hg, hg0⟩ : ∃ g, sgnQ v = g ∧ ¬ g < 0 := ⟨_, rfl, by unfold sgnQ; rw [if_neg (Rat.not_lt.2 hv)]; split <;> decide⟩
  have HG0 := Lib.hid hg
  have H1 := Lib.hid h1
  have H2 := Lib.hid h2
  clear hg hv h1 h2
  go_enter Try.func9, Try.ntmps9
  go_wp2_with fail
  generalize hW : ((w.alloc (Obj.cells #[Value.bool s, Value.slice A n c, Value.slice A' n' c'] 26)).alloc (Obj.cells #[Value.bool false, Value.slice none 0 0, Value.slice none 0 0] 26)) = W
  have hb : Below w.heap.size w W := by subst hW; exact (((Below.refl _ _).alloc (Nat.le_refl _) _).alloc (by simp) _)
  have XA : B3 W (w.heap.size) (Value.bool s) (Value.slice A n c) (Value.slice A' n' c') := by subst hW; exact (B3.new' _ _ _ _ _ rfl).alloc _
  have Z : B3 W (w.heap.size + 1) (Value.bool false) (Value.slice none 0 0) (Value.slice none 0 0) := by subst hW; exact B3.new' _ _ _ _ _ (by simp)
  have hzW : W.heap.size = w.heap.size + 2 := by subst hW; simp
  clear hW
  replace X := X.below hb
  have xa0 := XA.c0
  have xa1 := XA.c1
  have xa2 := XA.c2
  have yf0 := XA.f0
  have yf1 := XA.f1
  have yf2 := XA.f2
  have y0 := XA.c0
  have y1 := XA.c1
  have y2 := XA.c2
  go_upto_region 4 with (first
      | (go_at_call 15; (with_reducible refine (rsign_q X (by omega) hk1).mono ?_); rintro e w_z ⟨rfl, hh⟩
         rw [HG0.out]
         try replace X := X.below hh
         try replace q := q.below hh
         try replace XA := XA.below hh
         try replace Z := Z.below hh
         try replace C := C.below hh
         replace hb := bend hb hh
         have xa0 := XA.c0
         have xa1 := XA.c1
         have xa2 := XA.c2
         have yf0 := XA.f0
         have yf1 := XA.f1
         have yf2 := XA.f2
         have y0 := XA.c0
         have y1 := XA.c1
         have y2 := XA.c2)
      | (go_at_call 12; (with_reducible refine (rabs_q X (by omega) hk1).mono ?_); rintro e w_q ⟨s_q, A_q, n_q, c_q, B_q, m_q, d_q, rfl, q, hh⟩
         try replace X := X.below hh
         try replace XA := XA.below hh
         try replace Z := Z.below hh
         try replace C := C.below hh
         replace hb := bend hb hh
         have xa0 := XA.c0
         have xa1 := XA.c1
         have xa2 := XA.c2
         have yf0 := XA.f0
         have yf1 := XA.f1
         have yf2 := XA.f2
         have y0 := XA.c0
         have y1 := XA.c1
         have y2 := XA.c2))
  clear X xa0 xa1 xa2 y0 y1 y2 yf0 yf1 yf2
  generalize hW2 : (((w_q.setCell ⟨w.heap.size, 0, none⟩ (Value.bool s_q)).setCell ⟨w.heap.size, 1, none⟩ (Value.slice A_q n_q c_q)).setCell ⟨w.heap.size, 2, none⟩ (Value.slice B_q m_q d_q)) = W2
  have XA2 : B3 W2 w.heap.size (Value.bool s_q) (Value.slice A_q n_q c_q) (Value.slice B_q m_q d_q) := by subst hW2; exact XA.set3 _ _ _
  have q2 : QG W2 s_q A_q n_q c_q B_q m_q d_q v.abs k := by subst hW2; exact q.set3 XA _ _ _
  have Z2 : B3 W2 (w.heap.size + 1) (Value.bool false) (Value.slice none 0 0) (Value.slice none 0 0) := by
    subst hW2
    unfold B3 at Z ⊢
    rw [Below.heap_setCell _ _ _ _ (by simp), Below.heap_setCell _ _ _ _ (by simp), Below.heap_setCell _ _ _ _ (by simp)]
    exact Z
  replace hb : Below w.heap.size w W2 := by subst hW2; exact below_set3 hb (Nat.le_refl _) _ _ _
  clear hW2 q XA Z
  have XA := XA2
  have Z := Z2
  have q := q2
  clear XA2 Z2 q2
  have hzl := Z.lt
  have HG : Hid (w.heap.size + 1 < W2.heap.size) := hzl
  clear hzl
  go_upto_region 5 with (fail)
  generalize hW1 : W2.alloc (Obj.cells #[Value.int .i64 0] 60) = W1
  have hh : Below W2.heap.size W2 W1 := by subst hW1; exact (Below.refl _ _).alloc (Nat.le_refl _) _
  have C : Ct W1 W2.heap.size 0 := by subst hW1; exact Ct.new' _ _ _ rfl
  clear hW1
  replace q := q.below hh
  replace XA := XA.below hh
  replace Z := Z.below hh
  replace hb := bend hb hh
  replace C : Ct W1.drew W2.heap.size 0 := C
  replace q := q.below (Below.refl _ _).drew
  replace XA := XA.below (Below.refl _ _).drew
  replace Z := Z.below (Below.refl _ _).drew
  replace hb := hb.drew
  go_region_held3 (fun w' => w'.cell? ⟨w.heap.size, 0, none⟩ = some (.bool s_q) ∧ w'.cell? ⟨w.heap.size, 1, none⟩ = some (.slice A_q n_q c_q) ∧ w'.cell? ⟨w.heap.size, 2, none⟩ = some (.slice B_q m_q d_q))
    (first | with_reducible exact ⟨XA.c0, XA.c1, XA.c2⟩)
    (first
    | (go_at_call 29; (with_reducible refine (root_no C (by decide) (by decide) (q.nrP hk) H1.out).mono ?_); rintro e w_u1 ⟨A_u1, n_u1, c_u1, rfl, ho, C2⟩
       replace XA := XA.cnt (by have := HG.out; omega) ho
       replace Z := Z.cnt (by have := HG.out; omega) ho
       try replace q := q.cnt C ho
       try replace u2 := u2.cnt C ho
       replace hb := Below.only hb (by have := HG.out; omega) hb.size ho
       clear C
       have C := C2
       clear C2 ho)
    | (go_at_call 29; (with_reducible refine (root_no C (by decide) (by decide) (q.nrQ hk) H2.out).mono ?_); rintro e w_u2 ⟨A_u2, n_u2, c_u2, rfl, ho, C2⟩
       replace XA := XA.cnt (by have := HG.out; omega) ho
       replace Z := Z.cnt (by have := HG.out; omega) ho
       try replace q := q.cnt C ho
       try replace u1 := u1.cnt C ho
       replace hb := Below.only hb (by have := HG.out; omega) hb.size ho
       clear C
       have C := C2
       clear C2 ho))
  have zf0 := Z.f0
  have zf1 := Z.f1
  have zf2 := Z.f2
  have z0 := Z.c0
  have z1 := Z.c1
  have z2 := Z.c2
  go_wp2_with (first
      | (go_at_call 30; (with_reducible refine (load_any C).mono ?_); rintro e w_l ⟨rfl, rfl⟩))
  have Z2 := Z.set3 (.bool false) (.slice none 0 0) (.slice none 0 0)
  have g0 := Z2.c0
  have g1 := Z2.c1
  have g2 := Z2.c2
  refine bodyPost_ret (v := .tuple #[.agg #[.bool false, .slice none 0 0, .slice none 0 0], .bool false]) (by simp [results, Try.results9, go_sem, g0, g1, g2]) rfl ?_
  exact ⟨rfl, below_set3 hb (by omega) _ _ _⟩
end Go.Proofs.Ytmcijgnbdnpanaa
