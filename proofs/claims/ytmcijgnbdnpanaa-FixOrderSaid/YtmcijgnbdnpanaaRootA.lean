/- root's functions by value: a count in a struct of the call's own, raised, inParts, fault. -/
import Derived.Test.YtmcijgnbdnpanaaRatI
import Derived.Test.YtmcijgnbdnpanaaRatG
import Derived.Test.YtmcijgnbdnpanaaRootM
import Derived.Laws.LoneSync
import Derived.IntWalk
namespace Go.Proofs.Ytmcijgnbdnpanaa
open Go Go.RowKit

/-- Block g holds a count. -/
def Ct (W : World) (g : Nat) (x : Int) : Prop := W.heap[g]? = some (.cells #[.int .i64 x] 60 (0, 0))
section
variable {w w' W : World} {g : Nat} {x : Int} {s : Bool} {A A' : Option Addr} {n c n' c' k V : Nat} {v : Rat}
theorem Ct.c0 (h : Ct W g x) : W.cell? ⟨g, 0, none⟩ = some (.int .i64 x) := by rw [cell_of_row W g 0 _ _ (0, 0) h]; rfl
theorem Ct.f0 (h : Ct W g x) : W.frozen? ⟨g, 0, none⟩ = false := frozen_of_row W g 0 _ _ h
theorem Ct.lt (h : Ct W g x) : g < W.heap.size := World.block_lt_of_cell? W _ h.c0
theorem Ct.below (h : Ct w g x) (hb : Below w.heap.size w w') : Ct w' g x := (hb.block g h.lt).trans h
theorem Ct.alloc (h : Ct w g x) (o : Obj) : Ct (w.alloc o) g x := (Below.heap_alloc w o g h.lt).trans h
theorem Ct.new' (W : World) (x : Int) (g : Nat) (hg : g = W.heap.size) : Ct (W.alloc (.cells #[.int .i64 x] 60)) g x := by subst hg; exact heap_alloc_new W _
theorem Ct.set (h : Ct W g x) (y : Int) : Ct (W.setCell ⟨g, 0, none⟩ (.int .i64 y)) g y := by
  unfold Ct at h ⊢
  simp [World.setCell, Array.getElem?_modify, h]
theorem Ct.offx {l : List Nat} (h : Ct W g x) (hr : Rd .u64 W A n l) : Off A n g := by
  intro hn ad e hg
  obtain ⟨b, o, eA, hc⟩ := hr.at_ hn
  obtain ⟨y, _, hx⟩ := hc 0 hn
  rw [eA] at e
  cases e
  have hg2 : b = g := hg
  subst hg2
  rw [cell_of_row W b (o + 0) _ _ (0, 0) h] at hx
  match o, hx with
  | 0, hx => cases hx
  | o + 1, hx => cases hx
theorem NR.cnt (h : NR w A n c V k) (C : Ct w g x) (ho : Only g w w') : NR w' A n c V k := by
  obtain ⟨l, h1, h2⟩ := h; exact ⟨l, h1.only (C.offx h1) ho, h2⟩
theorem NG.cnt (h : NG w A n c V k) (C : Ct w g x) (ho : Only g w w') : NG w' A n c V k := ⟨h.1.only (C.offx h.1) ho, h.2⟩
theorem ZR.cnt {p : Int} (h : ZR w s A n c p k) (C : Ct w g x) (ho : Only g w w') : ZR w' s A n c p k := by
  obtain ⟨l, h1, h2⟩ := h; exact ⟨l, h1.only (C.offx h1) ho, h2⟩
theorem QR.cnt (h : QR w s A n c A' n' c' v k) (C : Ct w g x) (ho : Only g w w') : QR w' s A n c A' n' c' v k := by
  obtain ⟨p, q, h1, h2, h3⟩ := h; exact ⟨p, q, h1.cnt C ho, h2.cnt C ho, h3⟩
theorem QG.cnt (h : QG w s A n c A' n' c' v k) (C : Ct w g x) (ho : Only g w w') : QG w' s A n c A' n' c' v k :=
  ⟨⟨h.1.1, h.1.2.1.only (C.offx h.1.2.1) ho, h.1.2.2⟩, h.2.cnt C ho⟩
theorem B3.cnt {j : Nat} {a b d : Value} (h : B3 w j a b d) (hne : j ≠ g) (ho : Only g w w') : B3 w' j a b d := (ho.block j h.lt hne).trans h
end
set_option maxRecDepth 100000 in
theorem load_any {w : World} {g : Nat} {x : Int} (C : Ct w g x) :
    Calls Try.prog 30 #[.pointer (some ⟨g, 0, none⟩)] w fun e w' => e = .returned (.int .i64 x) ∧ w = w' := by
  have hc := C.c0
  have hl := run_call_load (P := Try.prog) Try.func58 (by kernel_rfl) (by kernel_rfl) (by kernel_rfl) .i64 (by kernel_rfl) hc
  go_enter Try.func30, Try.ntmps30
  go_wp2
  go_ret
  exact ⟨rfl, rfl⟩
set_option maxRecDepth 100000 in
theorem addc_any {w : World} {g : Nat} {x : Int} (C : Ct w g x) (h0 : 0 ≤ x) (h1 : x ≤ 100) :
    Calls Try.prog 57 #[.pointer (some ⟨g, 0, none⟩), .int .i64 1] w fun e w' => e = .returned (.int .i64 (x + 1)) ∧ w.setCell ⟨g, 0, none⟩ (.int .i64 (x + 1)) = w' := by
  have hc := C.c0
  have hf := C.f0
  have hl := run_call_add (P := Try.prog) Try.func79 (by kernel_rfl) (by kernel_rfl) (by kernel_rfl) .i64 (by kernel_rfl) (y := 1) (s := x + 1) hc hf (by simp [go_sem]; exact IntWalk.i64_in _ (by omega))
  go_enter Try.func57, Try.ntmps57
  go_wp2
  go_ret
  exact ⟨rfl, rfl⟩
/-- What a reckoning's root tells: the root, and one more counted if it is one. -/
def GivesRoot (w : World) (g : Nat) (x : Int) (V : Nat) (e : Ending) (w' : World) : Prop :=
  ∃ R, IsRoot V R ∧ ∃ A n c, e = .returned (.slice A n c) ∧ NG w' A n c R 40 ∧ Only g w w' ∧ Ct w' g (if R * R = V then x + 1 else x)
set_option maxRecDepth 100000 in
set_option maxHeartbeats 4000000 in
theorem root_any {w : World} {g : Nat} {x : Int} {A : Option Addr} {n c V : Nat} (C : Ct w g x) (h0 : 0 ≤ x) (h1 : x ≤ 100) (X : NR w A n c V 78) :
    Calls Try.prog 29 #[.pointer (some ⟨g, 0, none⟩), .slice A n c] w (GivesRoot w g x V) := by
  have H0 := Lib.hid h0
  have H1 := Lib.hid h1
  clear h0 h1
  have hb : Below w.heap.size w w := Below.refl _ _
  have hg := C.lt
  go_enter Try.func29, Try.ntmps29
  go_upto_region 2 with (first
      | (go_at_call 55; (with_reducible refine (sqrt_nr X).mono ?_); rintro e w_r ⟨R, hR, A_r, n_r, c_r, rfl, r, hh⟩
         replace X := X.below hh
         replace C := C.below hh
         replace hb := bend hb hh))
  have HR := Lib.hid hR
  clear hR
  by_cases hs : R * R = V
  · have HC : Hid (cmpN (R * R) V = 0) := by show _ = _; rw [hs]; exact cmpN_eq rfl
    have HS := Lib.hid hs
    clear hs
    go_wp2_with (first
      | (go_at_call 56; (with_reducible refine (mul_nr 80 r.nr r.nr (by decide) (by decide) (by decide)).mono ?_); rintro e w_m ⟨A_m, n_m, c_m, rfl, m, hh⟩
         try replace X := X.below hh
         try replace C := C.below hh
         try replace r := r.below hh
         replace hb := bend hb hh)
      | (go_at_call 52; (with_reducible refine (cmp_nr m.nr X (by decide) (by decide)).mono ?_); rintro e w_z ⟨rfl, hh⟩
         rw [HC.out]
         try replace X := X.below hh
         try replace C := C.below hh
         try replace r := r.below hh
         try replace m := m.below hh
         replace hb := bend hb hh)
      | (go_at_call 57; (with_reducible refine (addc_any C H0.out H1.out).mono ?_); rintro e w_a ⟨rfl, hwa⟩
         have Ha := Lib.hid hwa
         clear hwa))
    go_ret
    have hwa := Ha.out
    subst hwa
    refine ⟨R, HR.out, A_r, n_r, c_r, rfl, ?_, ?_, ?_⟩
    · exact r.cnt C ((Only.refl g _).setCell 0 _)
    · exact (Below.to_only hb (Nat.le_refl _)).setCell 0 _
    · rw [if_pos HS.out]; exact C.set _
  · have HC0 : cmpN (R * R) V ≠ 0 := fun q => hs (by
      rcases Nat.lt_trichotomy (R * R) V with h | h | h
      · rw [cmpN_lt h] at q; cases q
      · exact h
      · rw [cmpN_gt h] at q; cases q)
    obtain ⟨K, hK, hK0⟩ : ∃ K, cmpN (R * R) V = K ∧ ((K : Int) == 0) = false := ⟨_, rfl, by simpa using HC0⟩
    have HC := Lib.hid hK
    have HS := Lib.hid hs
    clear hs hK HC0
    go_wp2_with (first
      | (go_at_call 56; (with_reducible refine (mul_nr 80 r.nr r.nr (by decide) (by decide) (by decide)).mono ?_); rintro e w_m ⟨A_m, n_m, c_m, rfl, m, hh⟩
         try replace X := X.below hh
         try replace C := C.below hh
         try replace r := r.below hh
         replace hb := bend hb hh)
      | (go_at_call 52; (with_reducible refine (cmp_nr m.nr X (by decide) (by decide)).mono ?_); rintro e w_z ⟨rfl, hh⟩
         rw [HC.out]
         try replace X := X.below hh
         try replace C := C.below hh
         try replace r := r.below hh
         try replace m := m.below hh
         replace hb := bend hb hh))
    go_ret
    refine ⟨R, HR.out, A_r, n_r, c_r, rfl, r, Below.to_only hb (Nat.le_refl _), ?_⟩
    rw [if_neg HS.out]; exact C
theorem shl_two (h j : Nat) {w : World} {A : Option Addr} {n c V k : Nat} (X : NR w A n c V k) (hk : k ≤ 1000000) (hh : 2 * h ≤ 1048576) (hj : V * 2 ^ (2 * h) < B64 ^ j) :
    Calls Try.prog 59 #[.slice A n c, .int .i64 (2 * (h : Int))] w fun e w' => ∃ A n c, e = .returned (.tuple #[.slice A n c, .int .i64 0]) ∧ NG w' A n c (V * 2 ^ (2 * h)) j ∧ Below w.heap.size w w' := by
  have h1 := shl_nr (2 * h) j X hk hh hj
  rwa [show ((2 * h : Nat) : Int) = 2 * (h : Int) by omega] at h1
theorem raise_lt {V k h j : Nat} (hV : V < B64 ^ k) (hj : 2 ^ (2 * h) ≤ B64 ^ j) : V * 2 ^ (2 * h) < B64 ^ (k + j) := by
  rw [Nat.pow_add]
  have h1 : 0 < 2 ^ (2 * h) := Nat.two_pow_pos _
  exact Nat.lt_of_lt_of_le (Nat.mul_lt_mul_of_pos_right hV h1) (Nat.mul_le_mul_left _ hj)
theorem raised_val {p : Int} {q h : Nat} (hq : q ≠ 0) (hp : 0 ≤ mkRat p q) : mkRat (iv false (p.natAbs * 2 ^ (2 * h))) q = upQ (mkRat p q) h := by
  have h0 : 0 ≤ p := (mk_nonneg hq).1 hp
  have e1 : iv false (p.natAbs * 2 ^ (2 * h)) = p * ((4 ^ h : Nat) : Int) := by
    show ((p.natAbs * 2 ^ (2 * h) : Nat) : Int) = _
    rw [Nat.pow_mul, Int.natCast_mul, Int.natAbs_of_nonneg h0]
  rw [e1]
  unfold upQ
  have e2 : ((4 ^ h : Nat) : Rat) = mkRat ((4 ^ h : Nat) : Int) 1 := by rw [← castN, ← int1]; exact Rat.divInt_ofNat _ 1
  rw [e2, mk_mul, Nat.mul_one]
/-- .. told as a fraction in any form, its lower number the argument's own. -/
def GivesUp (w : World) (A' : Option Addr) (n' c' : Nat) (v : Rat) (k : Nat) (e : Ending) (w' : World) : Prop :=
  ∃ A n c, e = .returned (.agg #[.bool false, .slice A n c, .slice A' n' c']) ∧ QR w' false A n c A' n' c' v k ∧ Below w.heap.size w w'
set_option maxRecDepth 100000 in
set_option maxHeartbeats 4000000 in
theorem raised_q {w : World} {s : Bool} {A A' : Option Addr} {n c n' c' k : Nat} {v : Rat} (h j : Nat) (X0 : QR w s A n c A' n' c' v k) (hv : 0 ≤ v) (hk : k ≤ 400) (hj : 2 ^ (2 * h) ≤ B64 ^ j) (hh : h ≤ 5000) :
    Calls Try.prog 38 #[.agg #[.bool s, .slice A n c, .slice A' n' c'], .int .i64 (h : Int)] w (GivesUp w A' n' c' (upQ v h) (k + j)) := by
  obtain ⟨p, q, X, Q, rfl⟩ := X0
  have HE : Hid (mkRat (iv false (p.natAbs * 2 ^ (2 * h))) (den1 q) = upQ (mkRat p (den1 q)) h) := raised_val (den1_ne q) hv
  have HJ : Hid (p.natAbs * 2 ^ (2 * h) < B64 ^ (k + j)) := raise_lt X.nr.lt hj
  clear hv hj
  go_enter Try.func38, Try.ntmps38
  go_wp2_with fail
  generalize hW : ((w.alloc (Obj.cells #[Value.bool s, Value.slice A n c, Value.slice A' n' c'] 26)).alloc (Obj.cells #[Value.bool false, Value.slice none 0 0, Value.slice none 0 0] 26)) = W
  have hb : Below w.heap.size w W := by subst hW; exact (((Below.refl _ _).alloc (Nat.le_refl _) _).alloc (by simp) _)
  have XA : B3 W (w.heap.size) (Value.bool s) (Value.slice A n c) (Value.slice A' n' c') := by subst hW; exact (B3.new' _ _ _ _ _ rfl).alloc _
  have Z : B3 W (w.heap.size + 1) (Value.bool false) (Value.slice none 0 0) (Value.slice none 0 0) := by subst hW; exact B3.new' _ _ _ _ _ (by simp)
  have hzW : W.heap.size = w.heap.size + 2 := by subst hW; simp
  clear hW
  replace X := X.below hb
  replace Q := Q.below hb
  have xa0 := XA.c0
  have xa1 := XA.c1
  have xa2 := XA.c2
  go_upto_region 2 with (first
      | (go_at_call 59; (with_reducible refine (shl_two h (k + j) X.nr (by omega) (by omega) HJ.out).mono ?_); rintro e w_u ⟨A_u, n_u, c_u, rfl, u, hh'⟩; have hh := hh'
         try replace X := X.below hh
         try replace Q := Q.below hh
         try replace XA := XA.below hh
         try replace Z := Z.below hh
         replace hb := bend hb hh
         have xa0 := XA.c0
         have xa1 := XA.c1
         have xa2 := XA.c2
         have zf0 := Z.f0
         have zf1 := Z.f1
         have zf2 := Z.f2
         have z0 := Z.c0
         have z1 := Z.c1
         have z2 := Z.c2))
  go_wp2_with fail
  have Z2 := Z.set3 (.bool false) (.slice A_u n_u c_u) (.slice A' n' c')
  have g0 := Z2.c0
  have g1 := Z2.c1
  have g2 := Z2.c2
  refine bodyPost_ret (v := .agg #[.bool false, .slice A_u n_u c_u, .slice A' n' c']) (by simp [results, Try.results38, go_sem, g0, g1, g2]) rfl ?_
  have ho := (((Only.refl (w.heap.size + 1) w_u).setCell 0 (.bool false)).setCell 1 (.slice A_u n_u c_u)).setCell 2 (.slice A' n' c')
  refine ⟨A_u, n_u, c_u, rfl, ⟨_, q, ZR.ofn (s := false) (u.nr.only' (u.nr.off3 Z) ho), (Q.more (Nat.le_add_right k j)).only' ((Q.more (Nat.le_add_right k j)).off3 Z) ho, HE.out.symm⟩, below_set3 hb (by omega) _ _ _⟩
theorem of_one (w : World) : Calls Try.prog 41 #[.int .u64 1] w (GivesN w 1 1) := of_nr 1 (by decide) w
theorem NR.more' {w : World} {A : Option Addr} {n c V k k1 : Nat} (h : NR w A n c V k) (hk : k ≤ k1) : NR w A n c V k1 := h.more hk
set_option maxRecDepth 100000 in
set_option maxHeartbeats 4000000 in
theorem inparts_q {w : World} {A : Option Addr} {n c R k : Nat} (h j K : Nat) (X : NR w A n c R k) (hk : k ≤ K) (hjK : j ≤ K) (hj : 2 ^ h < B64 ^ j) (hK : K ≤ 400) (hh : h ≤ 5000) :
    Calls Try.prog 36 #[.slice A n c, .int .i64 (h : Int)] w (GivesQE w (inQ R h) K) := by
  have HJ : Hid (1 * 2 ^ h < B64 ^ j) := by show _ < _; rw [Nat.one_mul]; exact hj
  have HE : Hid (Rat.divInt (iv false R) (iv false (1 * 2 ^ h)) = inQ R h) := by show _ = _; rw [Nat.one_mul]; rfl
  have H0 : Hid (iv false (1 * 2 ^ h) ≠ 0) := by
    show iv false (1 * 2 ^ h) ≠ 0
    rw [Nat.one_mul]
    have := Nat.two_pow_pos h
    show ((2 ^ h : Nat) : Int) ≠ 0
    omega
  clear hj
  go_enter Try.func36, Try.ntmps36
  go_wp2_with fail
  generalize hW : (w.alloc (Obj.cells #[Value.bool false, Value.slice none 0 0, Value.slice none 0 0] 26)) = W
  have hb : Below w.heap.size w W := by subst hW; exact ((Below.refl _ _).alloc (Nat.le_refl _) _)
  have Z : B3 W (w.heap.size) (Value.bool false) (Value.slice none 0 0) (Value.slice none 0 0) := by subst hW; exact B3.new' _ _ _ _ _ rfl
  have hzW : W.heap.size = w.heap.size + 1 := by subst hW; simp
  clear hW
  replace X := X.below hb
  go_wp2_with (first
      | (go_at_call 41; (with_reducible refine (of_one _).mono ?_); rintro e w_o ⟨A_o, n_o, c_o, rfl, o, hh⟩
         replace X := X.below hh
         replace Z := Z.below hh
         replace hb := bend hb hh)
      | (go_at_call 59; (with_reducible refine (shl_nr h j o.nr (by decide) (by omega) HJ.out).mono ?_); rintro e w_u ⟨A_u, n_u, c_u, rfl, u, hh'⟩; have hh := hh'
         try replace X := X.below hh
         try replace o := o.below hh
         try replace r := r.below hh
         try replace Z := Z.below hh
         replace hb := bend hb hh)
      | (go_at_call 21; (with_reducible refine (make_zr K (ZR.ofn (s := false) X) (ZR.ofn (s := false) u.nr) (by omega) (by omega) H0.out hk hjK).mono ?_); rintro e w_r ⟨s_r, A_r, n_r, c_r, B_r, m_r, d_r, rfl, r, hh⟩
         rw [HE.out] at r
         try replace X := X.below hh
         try replace o := o.below hh
         try replace u := u.below hh
         try replace Z := Z.below hh
         replace hb := bend hb hh
         have zf0 := Z.f0
         have zf1 := Z.f1
         have zf2 := Z.f2
         have z0 := Z.c0
         have z1 := Z.c1
         have z2 := Z.c2))
  have Z2 := Z.set3 (.bool s_r) (.slice A_r n_r c_r) (.slice B_r m_r d_r)
  have g0 := Z2.c0
  have g1 := Z2.c1
  have g2 := Z2.c2
  refine bodyPost_ret (v := .tuple #[.agg #[.bool s_r, .slice A_r n_r c_r, .slice B_r m_r d_r], .int .i64 0]) (by simp [results, Try.results36, go_sem, g0, g1, g2]) rfl ?_
  exact ⟨s_r, A_r, n_r, c_r, B_r, m_r, d_r, rfl, r.set3 Z _ _ _, below_set3 hb (by omega) _ _ _⟩
set_option maxRecDepth 100000 in
set_option maxHeartbeats 4000000 in
theorem fault_ok {w : World} {s : Bool} {A A' : Option Addr} {n c n' c' k : Nat} {v : Rat} (h : Nat) (X : QR w s A n c A' n' c' v k) (hv : 0 ≤ v) (hk : k ≤ 400) (hk1 : 1 ≤ k) (hh : h ≤ 4096) :
    Calls Try.prog 35 #[.agg #[.bool s, .slice A n c, .slice A' n' c'], .int .i64 (h : Int)] w fun e w' => e = .returned (.int .i64 0) ∧ Below w.heap.size w w' := by
  obtain ⟨g, hg, hg0⟩ : ∃ g, sgnQ v = g ∧ ¬ g < 0 := ⟨_, rfl, by unfold sgnQ; rw [if_neg (Rat.not_lt.2 hv)]; split <;> decide⟩
  have HG := Lib.hid hg
  have hh1 : ¬ (h : Int) < 0 := by omega
  have hh2 : ¬ 4096 < (h : Int) := by omega
  clear hg hv
  go_enter Try.func35, Try.ntmps35
  go_wp2_with fail
  generalize hW : (w.alloc (Obj.cells #[Value.bool s, Value.slice A n c, Value.slice A' n' c'] 26)) = W
  have hb : Below w.heap.size w W := by subst hW; exact ((Below.refl _ _).alloc (Nat.le_refl _) _)
  have XA : B3 W (w.heap.size) (Value.bool s) (Value.slice A n c) (Value.slice A' n' c') := by subst hW; exact B3.new' _ _ _ _ _ rfl
  have hzW : W.heap.size = w.heap.size + 1 := by subst hW; simp
  clear hW
  replace X := X.below hb
  have xa0 := XA.c0
  have xa1 := XA.c1
  have xa2 := XA.c2
  go_wp2_with (first
      | (go_at_call 15; (with_reducible refine (rsign_q X (by omega) hk1).mono ?_); rintro e w_z ⟨rfl, hh⟩
         rw [HG.out]
         try replace X := X.below hh
         try replace XA := XA.below hh
         replace hb := bend hb hh
         have xa0 := XA.c0
         have xa1 := XA.c1
         have xa2 := XA.c2))
  go_ret
  exact ⟨rfl, hb⟩
end Go.Proofs.Ytmcijgnbdnpanaa
