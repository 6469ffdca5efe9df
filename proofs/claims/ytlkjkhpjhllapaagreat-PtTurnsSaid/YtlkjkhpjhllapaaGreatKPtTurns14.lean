/- PtTurns: part 14. -/
import Derived.Test.YtlkjkhpjhllapaaGreatKPtTurns9
import Derived.Test.YtlkjkhpjhllapaaGreatKPtTurns10
import Derived.Test.YtlkjkhpjhllapaaGreatKPtTurns12
import Derived.Test.YtlkjkhpjhllapaaGreatKPtTurns13
set_option linter.unusedVariables false
namespace Go.Proofs.YtlkjkhpjhllapaaGreat
theorem txt_one {V d : Nat} (h : 0 < d) (h2 : d < 10) (hV : V = d) : txt V = [UInt8.ofNat (48 + d)] := by
  subst hV
  rw [txt, if_neg (by omega), limbs_small (by omega) h2 (by omega)]
  rfl
end Go.Proofs.YtlkjkhpjhllapaaGreat
namespace Go.Proofs.YtlkjkhpjhllapaaGreat
open Go Go.RowKit
theorem qtxt_i {v : Rat} {a : Nat} {l : List UInt8} (hn : v.num = (a : Int)) (hd : v.den = 1) (ha : txt a = l) : qtxt v = l := by
  unfold qtxt
  rw [if_pos hd, hn]
  unfold ztxt
  rw [if_neg (by omega), show ((a : Int)).natAbs = a by omega, ha]
theorem qtxt_m {v : Rat} {a : Nat} {l : List UInt8} (hn : v.num = -(a : Int)) (h0 : 0 < a) (hd : v.den = 1) (ha : txt a = l) : qtxt v = 45 :: l := by
  unfold qtxt
  rw [if_pos hd, hn]
  unfold ztxt
  rw [if_pos (by omega), show (-(a : Int)).natAbs = a by omega, ha]
theorem wk_seg : segQ (Rat.divInt 0 1) (Rat.divInt 1 1) (Rat.divInt (-1) 1) (Rat.divInt 0 1) (Rat.divInt 1 1) (Rat.divInt 0 1) = 1 := by decide +kernel
theorem wk_seg_txt : (⟨(qtxt (segQ (Rat.divInt 0 1) (Rat.divInt 1 1) (Rat.divInt (-1) 1) (Rat.divInt 0 1) (Rat.divInt 1 1) (Rat.divInt 0 1))).toArray⟩ : ByteArray) = ⟨#[49]⟩ := by
  rw [wk_seg, qtxt_i (a := 1) (by decide +kernel) (by decide +kernel) (txt_one (d := 1) (by decide) (by decide) rfl)]; rfl
theorem wk_cross_txt : (⟨(qtxt (Rat.divInt 1 1 * Rat.divInt 4 1 - Rat.divInt 2 1 * Rat.divInt 3 1)).toArray⟩ : ByteArray) = ⟨#[45, 50]⟩ := by
  rw [qtxt_m (a := 2) (by decide +kernel) (by decide) (by decide +kernel) (txt_one (d := 2) (by decide) (by decide) rfl)]; rfl
theorem wk_orient : orientQ (Rat.divInt 0 1) (Rat.divInt 0 1) (Rat.divInt 1 1) (Rat.divInt 0 1) (Rat.divInt 0 1) (Rat.divInt 1 1) = 1 := by decide +kernel
theorem wk_same : decide (Rat.divInt 1 1 + Rat.divInt 3 1 = Rat.divInt 4 1 ∧ Rat.divInt 2 1 + Rat.divInt 4 1 = Rat.divInt 6 1) = true := by decide +kernel
set_option maxRecDepth 100000 in
set_option maxHeartbeats 4000000 in
theorem pgood_p {w : World} {k : Nat} {x y : Rat} {s_p t_p : Bool} {A_p B_p E_p F_p : Option Addr} {n_p c_p m_p d_p i_p e_p j_p f_p : Nat} (p : PG w s_p A_p n_p c_p B_p m_p d_p t_p E_p i_p e_p F_p j_p f_p x y k) (hk : k ≤ 900) :
    Calls Tryz.prog 87 #[.agg #[.bool s_p, .slice A_p n_p c_p, .slice B_p m_p d_p, .bool t_p, .slice E_p i_p e_p, .slice F_p j_p f_p]] w fun e w' => e = .returned (.bool true) ∧ Below w.heap.size w w' := by
  go_enter Tryz.func87, Tryz.ntmps87
  go_wp2_with fail
  generalize hW : (w.alloc (Obj.cells #[Value.bool s_p, Value.slice A_p n_p c_p, Value.slice B_p m_p d_p, Value.bool t_p, Value.slice E_p i_p e_p, Value.slice F_p j_p f_p] 83)) = W
  have hb : Below w.heap.size w W := by subst hW; exact ((Below.refl _ _).alloc (Nat.le_refl _) _)
  have XA : B6 W (w.heap.size) (Value.bool s_p) (Value.slice A_p n_p c_p) (Value.slice B_p m_p d_p) (Value.bool t_p) (Value.slice E_p i_p e_p) (Value.slice F_p j_p f_p) := by subst hW; exact B6.new' _ _ _ _ _ _ _ _ rfl
  have hzW : W.heap.size = w.heap.size + 1 := by subst hW; simp
  clear hW
  replace p := p.below hb
  have xa0 := XA.c0
  have xa1 := XA.c1
  have xa2 := XA.c2
  have xa3 := XA.c3
  have xa4 := XA.c4
  have xa5 := XA.c5
  go_wp2_with (first
      | (go_at_call 35; (with_reducible refine (rgood_q p.qx hk).mono ?_); rintro e w_z ⟨rfl, hh⟩
         try replace p := p.below hh
         try replace XA := XA.below hh
         replace hb := bend hb hh
         have xa0 := XA.c0
         have xa1 := XA.c1
         have xa2 := XA.c2
         have xa3 := XA.c3
         have xa4 := XA.c4
         have xa5 := XA.c5)
      | (go_at_call 35; (with_reducible refine (rgood_q p.qy hk).mono ?_); rintro e w_z ⟨rfl, hh⟩
         try replace p := p.below hh
         try replace XA := XA.below hh
         replace hb := bend hb hh
         have xa0 := XA.c0
         have xa1 := XA.c1
         have xa2 := XA.c2
         have xa3 := XA.c3
         have xa4 := XA.c4
         have xa5 := XA.c5))
  go_ret
  exact ⟨rfl, hb⟩
set_option maxRecDepth 100000 in
set_option maxHeartbeats 8000000 in
theorem pwakes_any (w : World) : Calls Tryz.prog 67 #[] w fun e w' => e = .returned (.bool true) ∧ Below w.heap.size w w' := by
  have hb : Below w.heap.size w w := Below.refl _ _
  go_enter Tryz.func67, Tryz.ntmps67
  go_wp2_with (first
      | (go_at_call 94; (with_reducible refine (lawP 0 1 (by decide) (by decide) (by decide) (by decide) _).mono ?_); rintro e w_p1 ⟨s_p1, A_p1, n_p1, c_p1, B_p1, m_p1, d_p1, t_p1, E_p1, i_p1, e_p1, F_p1, j_p1, f_p1, rfl, p1, hh⟩
         try replace p2 := p2.below hh
         try replace p3 := p3.below hh
         try replace p4 := p4.below hh
         try replace p7 := p7.below hh
         try replace p8 := p8.below hh
         try replace a1 := a1.below hh
         replace hb := bend hb hh)
      | (go_at_call 94; (with_reducible refine (lawP (-1) 0 (by decide) (by decide) (by decide) (by decide) _).mono ?_); rintro e w_p2 ⟨s_p2, A_p2, n_p2, c_p2, B_p2, m_p2, d_p2, t_p2, E_p2, i_p2, e_p2, F_p2, j_p2, f_p2, rfl, p2, hh⟩
         try replace p1 := p1.below hh
         try replace p3 := p3.below hh
         try replace p4 := p4.below hh
         try replace p7 := p7.below hh
         try replace p8 := p8.below hh
         try replace a1 := a1.below hh
         replace hb := bend hb hh)
      | (go_at_call 94; (with_reducible refine (lawP 1 0 (by decide) (by decide) (by decide) (by decide) _).mono ?_); rintro e w_p3 ⟨s_p3, A_p3, n_p3, c_p3, B_p3, m_p3, d_p3, t_p3, E_p3, i_p3, e_p3, F_p3, j_p3, f_p3, rfl, p3, hh⟩
         try replace p1 := p1.below hh
         try replace p2 := p2.below hh
         try replace p4 := p4.below hh
         try replace p7 := p7.below hh
         try replace p8 := p8.below hh
         try replace a1 := a1.below hh
         replace hb := bend hb hh)
      | (go_at_call 92; (with_reducible refine (ptoseg_p p1.pr p2.pr p3.pr (by decide) (by decide) (by decide) (by decide)).mono ?_); rintro e w_q1 ⟨s_q1, A_q1, n_q1, c_q1, B_q1, m_q1, d_q1, rfl, q1, hh⟩
         replace hb := bend hb hh
         clear p1 p2 p3)
      | (go_at_call 40; (with_reducible refine (rtext_q q1.qr (by decide) (by decide)).mono ?_); rintro e w_z ⟨rfl, hh⟩
         rw [wk_seg_txt]; clear q1
         replace hb := bend hb hh)
      | (go_at_call 94; (with_reducible refine (lawP 0 0 (by decide) (by decide) (by decide) (by decide) _).mono ?_); rintro e w_p4 ⟨s_p4, A_p4, n_p4, c_p4, B_p4, m_p4, d_p4, t_p4, E_p4, i_p4, e_p4, F_p4, j_p4, f_p4, rfl, p4, hh⟩
         try replace p1 := p1.below hh
         try replace p2 := p2.below hh
         try replace p3 := p3.below hh
         try replace p7 := p7.below hh
         try replace p8 := p8.below hh
         try replace a1 := a1.below hh
         replace hb := bend hb hh)
      | (go_at_call 88; (with_reducible refine (porient_p p4.pr p3.pr p1.pr (by decide) (by decide)).mono ?_); rintro e w_z ⟨rfl, hh⟩
         rw [wk_orient]; clear p4 p3 p1
         replace hb := bend hb hh)
      | (go_at_call 94; (with_reducible refine (lawP 1 2 (by decide) (by decide) (by decide) (by decide) _).mono ?_); rintro e w_p7 ⟨s_p7, A_p7, n_p7, c_p7, B_p7, m_p7, d_p7, t_p7, E_p7, i_p7, e_p7, F_p7, j_p7, f_p7, rfl, p7, hh⟩
         try replace p1 := p1.below hh
         try replace p2 := p2.below hh
         try replace p3 := p3.below hh
         try replace p4 := p4.below hh
         try replace p8 := p8.below hh
         try replace a1 := a1.below hh
         replace hb := bend hb hh)
      | (go_at_call 94; (with_reducible refine (lawP 3 4 (by decide) (by decide) (by decide) (by decide) _).mono ?_); rintro e w_p8 ⟨s_p8, A_p8, n_p8, c_p8, B_p8, m_p8, d_p8, t_p8, E_p8, i_p8, e_p8, F_p8, j_p8, f_p8, rfl, p8, hh⟩
         try replace p1 := p1.below hh
         try replace p2 := p2.below hh
         try replace p3 := p3.below hh
         try replace p4 := p4.below hh
         try replace p7 := p7.below hh
         try replace a1 := a1.below hh
         replace hb := bend hb hh)
      | (go_at_call 73; (with_reducible refine (padd_p p7.pr p8.pr (by decide) (by decide) (.inl (by decide)) (by decide) (by decide)).mono ?_); rintro e w_a1 ⟨s_a1, A_a1, n_a1, c_a1, B_a1, m_a1, d_a1, t_a1, E_a1, i_a1, e_a1, F_a1, j_a1, f_a1, rfl, a1, hh⟩
         replace hb := bend hb hh
         clear p7 p8)
      | (go_at_call 94; (with_reducible refine (lawP 4 6 (by decide) (by decide) (by decide) (by decide) _).mono ?_); rintro e w_p9 ⟨s_p9, A_p9, n_p9, c_p9, B_p9, m_p9, d_p9, t_p9, E_p9, i_p9, e_p9, F_p9, j_p9, f_p9, rfl, p9, hh⟩
         try replace p1 := p1.below hh
         try replace p2 := p2.below hh
         try replace p3 := p3.below hh
         try replace p4 := p4.below hh
         try replace p7 := p7.below hh
         try replace p8 := p8.below hh
         try replace a1 := a1.below hh
         replace hb := bend hb hh)
      | (go_at_call 85; (with_reducible refine (psame_p a1.pr p9.pr (by decide) (by decide) (by decide) (by decide) true wk_same).mono ?_); rintro e w_z ⟨rfl, hh⟩
         replace hb := bend hb hh
         clear a1 p9)
      | (go_at_call 83; (with_reducible refine (pcross_p p7.pr p8.pr (by decide) (by decide) (by decide)).mono ?_); rintro e w_q2 ⟨s_q2, A_q2, n_q2, c_q2, B_q2, m_q2, d_q2, rfl, q2, hh⟩
         replace hb := bend hb hh
         clear p7 p8)
      | (go_at_call 40; (with_reducible refine (rtext_q q2.qr (by decide) (by decide)).mono ?_); rintro e w_z ⟨rfl, hh⟩
         rw [wk_cross_txt]; clear q2
         replace hb := bend hb hh)
      | (go_at_call 94; (with_reducible refine (lawP 1 1 (by decide) (by decide) (by decide) (by decide) _).mono ?_); rintro e w_pz ⟨s_pz, A_pz, n_pz, c_pz, B_pz, m_pz, d_pz, t_pz, E_pz, i_pz, e_pz, F_pz, j_pz, f_pz, rfl, pz, hh⟩
         try replace p1 := p1.below hh
         try replace p2 := p2.below hh
         try replace p3 := p3.below hh
         try replace p4 := p4.below hh
         try replace p7 := p7.below hh
         try replace p8 := p8.below hh
         try replace a1 := a1.below hh
         replace hb := bend hb hh)
      | (go_at_call 87; (with_reducible refine (pgood_p pz (by decide)).mono ?_); rintro e w_z ⟨rfl, hh⟩
         replace hb := bend hb hh))
  go_ret
  exact ⟨rfl, hb⟩
end Go.Proofs.YtlkjkhpjhllapaaGreat
namespace Go.Proofs.YtlkjkhpjhllapaaGreat
open Go Go.RowKit
theorem QR.of_rd {w : World} {s : Bool} {A A' : Option Addr} {n c n' c' k : Nat} {l l' : List Nat} (h : Rd .u64 w A n l) (hL : Lim B64 l) (hnc : n ≤ c) (h' : Rd .u64 w A' n' l') (hL' : Lim B64 l') (hnc' : n' ≤ c') (hk : n ≤ k) (hk' : n' ≤ k) :
    QR w s A n c A' n' c' (mkRat (iv s (val B64 l)) (den1 (val B64 l'))) k := ⟨_, _, ZR.of_rd h hL hnc hk, ⟨l', h', hL', rfl, hnc', hk'⟩, rfl⟩
end Go.Proofs.YtlkjkhpjhllapaaGreat
namespace Go.Proofs.YtlkjkhpjhllapaaGreat
open Go Go.RowKit
theorem cmp_sub (u v : Rat) : cmpQ u v = sgnQ (u - v) := by
  unfold cmpQ sgnQ
  have e1 : u - v < 0 ↔ u < v := by rw [← Rat.not_le, ← Rat.not_le, ← Rat.le_iff_sub_nonneg]
  have e2 : u - v = 0 ↔ u = v := by
    constructor
    · intro h; have : u = (u - v) + v := by grind
      rw [this, h, Rat.zero_add]
    · intro h; rw [h]; grind
  by_cases h1 : u < v
  · rw [if_pos h1, if_pos (e1.2 h1)]
  · rw [if_neg h1, if_neg (fun q => h1 (e1.1 q))]
    by_cases h2 : v < u
    · rw [if_pos h2, if_neg (fun q => by rw [e2.1 q] at h2; exact Rat.lt_irrefl h2)]
    · rw [if_neg h2, if_pos (e2.2 (Rat.le_antisymm (Rat.not_lt.1 h2) (Rat.not_lt.1 h1)))]
theorem sgnQ_neg (x : Rat) : sgnQ (-x) = -sgnQ x := by
  have h := cmp_sub 0 x
  have h2 := cmp_sub x 0
  rw [show (0 : Rat) - x = -x by grind] at h
  rw [show x - 0 = x by grind] at h2
  rw [← h, ← h2, cmpQ_swap]
theorem orient_eq {a b c d e f a' b' c' d' e' f' : Rat} (h : (c - a) * (f - b) - (d - b) * (e - a) = (c' - a') * (f' - b') - (d' - b') * (e' - a')) : orientQ a b c d e f = orientQ a' b' c' d' e' f' := by
  unfold orientQ; rw [cmp_sub, cmp_sub, h]
theorem orient_ne {a b c d e f a' b' c' d' e' f' : Rat} (h : (c - a) * (f - b) - (d - b) * (e - a) = -((c' - a') * (f' - b') - (d' - b') * (e' - a'))) : orientQ a b c d e f = -orientQ a' b' c' d' e' f' := by
  unfold orientQ; rw [cmp_sub, cmp_sub, h, sgnQ_neg]
theorem orient_abs (a b c d e f : Rat) : -1 ≤ orientQ a b c d e f ∧ orientQ a b c d e f ≤ 1 := cmpQ_abs _ _
theorem far_sym (x y x2 y2 : Rat) : farQ x y x2 y2 = farQ x2 y2 x y := by unfold farQ; grind
set_option maxRecDepth 100000 in
set_option maxHeartbeats 4000000 in
theorem turns_l {w : World} {s_p t_p : Bool} {A_p B_p E_p F_p : Option Addr} {n_p c_p m_p d_p i_p e_p j_p f_p : Nat} {s_q t_q : Bool} {A_q B_q E_q F_q : Option Addr} {n_q c_q m_q d_q i_q e_q j_q f_q : Nat} {s_r t_r : Bool} {A_r B_r E_r F_r : Option Addr} {n_r c_r m_r d_r i_r e_r j_r f_r : Nat} (h : ¬ (((n_p ≤ 6 ∧ m_p ≤ 6) ∧ i_p ≤ 6 ∧ j_p ≤ 6) ∧ ((n_q ≤ 6 ∧ m_q ≤ 6) ∧ i_q ≤ 6 ∧ j_q ≤ 6) ∧ ((n_r ≤ 6 ∧ m_r ≤ 6) ∧ i_r ≤ 6 ∧ j_r ≤ 6))) :
    Calls Tryz.prog 11 #[.agg #[.bool s_p, .slice A_p n_p c_p, .slice B_p m_p d_p, .bool t_p, .slice E_p i_p e_p, .slice F_p j_p f_p], .agg #[.bool s_q, .slice A_q n_q c_q, .slice B_q m_q d_q, .bool t_q, .slice E_q i_q e_q, .slice F_q j_q f_q], .agg #[.bool s_r, .slice A_r n_r c_r, .slice B_r m_r d_r, .bool t_r, .slice E_r i_r e_r, .slice F_r j_r f_r]] w fun e w' => e = .returned (.bool true) ∧ Below w.heap.size w w' := by
  have HL : Hid (decide (((n_p ≤ 6 ∧ m_p ≤ 6) ∧ i_p ≤ 6 ∧ j_p ≤ 6) ∧ ((n_q ≤ 6 ∧ m_q ≤ 6) ∧ i_q ≤ 6 ∧ j_q ≤ 6) ∧ ((n_r ≤ 6 ∧ m_r ≤ 6) ∧ i_r ≤ 6 ∧ j_r ≤ 6)) = false) := decide_eq_false h
  clear h
  go_enter Tryz.func11, Tryz.ntmps11
  go_wp2_with fail
  generalize hW : ((((w.alloc (Obj.cells #[Value.bool s_p, Value.slice A_p n_p c_p, Value.slice B_p m_p d_p, Value.bool t_p, Value.slice E_p i_p e_p, Value.slice F_p j_p f_p] 83)).alloc (Obj.cells #[Value.bool s_q, Value.slice A_q n_q c_q, Value.slice B_q m_q d_q, Value.bool t_q, Value.slice E_q i_q e_q, Value.slice F_q j_q f_q] 83)).alloc (Obj.cells #[Value.bool s_r, Value.slice A_r n_r c_r, Value.slice B_r m_r d_r, Value.bool t_r, Value.slice E_r i_r e_r, Value.slice F_r j_r f_r] 83)).alloc (Obj.cells #[Value.bool s_p, Value.slice A_p n_p c_p, Value.slice B_p m_p d_p, Value.bool t_p, Value.slice E_p i_p e_p, Value.slice F_p j_p f_p, Value.bool s_q, Value.slice A_q n_q c_q, Value.slice B_q m_q d_q, Value.bool t_q, Value.slice E_q i_q e_q, Value.slice F_q j_q f_q, Value.bool s_r, Value.slice A_r n_r c_r, Value.slice B_r m_r d_r, Value.bool t_r, Value.slice E_r i_r e_r, Value.slice F_r j_r f_r] 83)) = W
  have hb : Below w.heap.size w W := by subst hW; exact (((((Below.refl _ _).alloc (Nat.le_refl _) _).alloc (by simp) _).alloc (by simp; omega) _).alloc (by simp; omega) _)
  have XA : B6 W (w.heap.size) (Value.bool s_p) (Value.slice A_p n_p c_p) (Value.slice B_p m_p d_p) (Value.bool t_p) (Value.slice E_p i_p e_p) (Value.slice F_p j_p f_p) := by subst hW; exact (((B6.new' _ _ _ _ _ _ _ _ rfl).alloc _).alloc _).alloc _
  have XB : B6 W (w.heap.size + 1) (Value.bool s_q) (Value.slice A_q n_q c_q) (Value.slice B_q m_q d_q) (Value.bool t_q) (Value.slice E_q i_q e_q) (Value.slice F_q j_q f_q) := by subst hW; exact ((B6.new' _ _ _ _ _ _ _ _ (by simp)).alloc _).alloc _
  have XC : B6 W (w.heap.size + 1 + 1) (Value.bool s_r) (Value.slice A_r n_r c_r) (Value.slice B_r m_r d_r) (Value.bool t_r) (Value.slice E_r i_r e_r) (Value.slice F_r j_r f_r) := by subst hW; exact (B6.new' _ _ _ _ _ _ _ _ (by simp)).alloc _
  have XL : BL3 W (w.heap.size + 1 + 1 + 1) (Value.bool s_p) (Value.slice A_p n_p c_p) (Value.slice B_p m_p d_p) (Value.bool t_p) (Value.slice E_p i_p e_p) (Value.slice F_p j_p f_p) (Value.bool s_q) (Value.slice A_q n_q c_q) (Value.slice B_q m_q d_q) (Value.bool t_q) (Value.slice E_q i_q e_q) (Value.slice F_q j_q f_q) (Value.bool s_r) (Value.slice A_r n_r c_r) (Value.slice B_r m_r d_r) (Value.bool t_r) (Value.slice E_r i_r e_r) (Value.slice F_r j_r f_r) := by subst hW; exact BL3.new' _ _ _ _ _ _ _ _ _ _ _ _ _ _ _ _ _ _ _ _ (by simp)
  have hzW : W.heap.size = w.heap.size + 4 := by subst hW; simp
  clear hW
  go_wp2_with (first
      | (go_at_call 66; (with_reducible refine (fair3 XL false HL.out).mono ?_); rintro e w_z ⟨rfl, hh⟩
         replace hb := bend hb hh)
      | (go_at_call 67; (with_reducible refine (pwakes_any _).mono ?_); rintro e w_z ⟨rfl, hh⟩
         replace hb := bend hb hh))
  go_ret
  exact ⟨rfl, hb⟩
set_option maxRecDepth 100000 in
set_option maxHeartbeats 16000000 in
theorem turns_s {w : World} {s_p t_p : Bool} {A_p B_p E_p F_p : Option Addr} {n_p c_p m_p d_p i_p e_p j_p f_p : Nat} {s_q t_q : Bool} {A_q B_q E_q F_q : Option Addr} {n_q c_q m_q d_q i_q e_q j_q f_q : Nat} {s_r t_r : Bool} {A_r B_r E_r F_r : Option Addr} {n_r c_r m_r d_r i_r e_r j_r f_r : Nat} {ax ay bx by_ cx cy : Rat} (p : PR w s_p A_p n_p c_p B_p m_p d_p t_p E_p i_p e_p F_p j_p f_p ax ay 6) (q : PR w s_q A_q n_q c_q B_q m_q d_q t_q E_q i_q e_q F_q j_q f_q bx by_ 6) (r : PR w s_r A_r n_r c_r B_r m_r d_r t_r E_r i_r e_r F_r j_r f_r cx cy 6) (h : (((n_p ≤ 6 ∧ m_p ≤ 6) ∧ i_p ≤ 6 ∧ j_p ≤ 6) ∧ ((n_q ≤ 6 ∧ m_q ≤ 6) ∧ i_q ≤ 6 ∧ j_q ≤ 6) ∧ ((n_r ≤ 6 ∧ m_r ≤ 6) ∧ i_r ≤ 6 ∧ j_r ≤ 6))) :
    Calls Tryz.prog 11 #[.agg #[.bool s_p, .slice A_p n_p c_p, .slice B_p m_p d_p, .bool t_p, .slice E_p i_p e_p, .slice F_p j_p f_p], .agg #[.bool s_q, .slice A_q n_q c_q, .slice B_q m_q d_q, .bool t_q, .slice E_q i_q e_q, .slice F_q j_q f_q], .agg #[.bool s_r, .slice A_r n_r c_r, .slice B_r m_r d_r, .bool t_r, .slice E_r i_r e_r, .slice F_r j_r f_r]] w fun e w' => e = .returned (.bool true) ∧ Below w.heap.size w w' := by
  have HL : Hid (decide (((n_p ≤ 6 ∧ m_p ≤ 6) ∧ i_p ≤ 6 ∧ j_p ≤ 6) ∧ ((n_q ≤ 6 ∧ m_q ≤ 6) ∧ i_q ≤ 6 ∧ j_q ≤ 6) ∧ ((n_r ≤ 6 ∧ m_r ≤ 6) ∧ i_r ≤ 6 ∧ j_r ≤ 6)) = true) := decide_eq_true h
  obtain ⟨K, hK⟩ : ∃ K, orientQ ax ay bx by_ cx cy = K := ⟨_, rfl⟩
  obtain ⟨K2, hK2⟩ : ∃ K2, -K = K2 := ⟨_, rfl⟩
  have hab := orient_abs ax ay bx by_ cx cy
  rw [hK] at hab
  have hKN : IntKind.i64.wrap (-K) = K2 := by rw [hK2]; exact IntWalk.i64_in _ (by omega)
  have H1 := Lib.hid hK
  have H2 : Hid (orientQ bx by_ cx cy ax ay = K) := (orient_eq (by grind)).trans hK
  have H3 : Hid (orientQ cx cy ax ay bx by_ = K) := (orient_eq (by grind)).trans hK
  have H4 : Hid (orientQ bx by_ ax ay cx cy = K2) := by show _ = _; rw [← hK2, ← hK]; exact orient_ne (by grind)
  have H5 : Hid (orientQ ax ay cx cy bx by_ = K2) := by show _ = _; rw [← hK2, ← hK]; exact orient_ne (by grind)
  have H6 : Hid (orientQ (ax + Rat.divInt 7 1) (ay + Rat.divInt (-3) 1) (bx + Rat.divInt 7 1) (by_ + Rat.divInt (-3) 1) (cx + Rat.divInt 7 1) (cy + Rat.divInt (-3) 1) = K) := (orient_eq (by grind)).trans hK
  have H7 : Hid (cmpQ (farQ ax ay bx by_) (farQ bx by_ ax ay) = 0) := cmpQ_nul.2 (far_sym _ _ _ _)
  clear h hK hK2 hab
  go_enter Tryz.func11, Tryz.ntmps11
  go_wp2_with fail
  generalize hW : ((((w.alloc (Obj.cells #[Value.bool s_p, Value.slice A_p n_p c_p, Value.slice B_p m_p d_p, Value.bool t_p, Value.slice E_p i_p e_p, Value.slice F_p j_p f_p] 83)).alloc (Obj.cells #[Value.bool s_q, Value.slice A_q n_q c_q, Value.slice B_q m_q d_q, Value.bool t_q, Value.slice E_q i_q e_q, Value.slice F_q j_q f_q] 83)).alloc (Obj.cells #[Value.bool s_r, Value.slice A_r n_r c_r, Value.slice B_r m_r d_r, Value.bool t_r, Value.slice E_r i_r e_r, Value.slice F_r j_r f_r] 83)).alloc (Obj.cells #[Value.bool s_p, Value.slice A_p n_p c_p, Value.slice B_p m_p d_p, Value.bool t_p, Value.slice E_p i_p e_p, Value.slice F_p j_p f_p, Value.bool s_q, Value.slice A_q n_q c_q, Value.slice B_q m_q d_q, Value.bool t_q, Value.slice E_q i_q e_q, Value.slice F_q j_q f_q, Value.bool s_r, Value.slice A_r n_r c_r, Value.slice B_r m_r d_r, Value.bool t_r, Value.slice E_r i_r e_r, Value.slice F_r j_r f_r] 83)) = W
  have hb : Below w.heap.size w W := by subst hW; exact (((((Below.refl _ _).alloc (Nat.le_refl _) _).alloc (by simp) _).alloc (by simp; omega) _).alloc (by simp; omega) _)
  have XA : B6 W (w.heap.size) (Value.bool s_p) (Value.slice A_p n_p c_p) (Value.slice B_p m_p d_p) (Value.bool t_p) (Value.slice E_p i_p e_p) (Value.slice F_p j_p f_p) := by subst hW; exact (((B6.new' _ _ _ _ _ _ _ _ rfl).alloc _).alloc _).alloc _
  have XB : B6 W (w.heap.size + 1) (Value.bool s_q) (Value.slice A_q n_q c_q) (Value.slice B_q m_q d_q) (Value.bool t_q) (Value.slice E_q i_q e_q) (Value.slice F_q j_q f_q) := by subst hW; exact ((B6.new' _ _ _ _ _ _ _ _ (by simp)).alloc _).alloc _
  have XC : B6 W (w.heap.size + 1 + 1) (Value.bool s_r) (Value.slice A_r n_r c_r) (Value.slice B_r m_r d_r) (Value.bool t_r) (Value.slice E_r i_r e_r) (Value.slice F_r j_r f_r) := by subst hW; exact (B6.new' _ _ _ _ _ _ _ _ (by simp)).alloc _
  have XL : BL3 W (w.heap.size + 1 + 1 + 1) (Value.bool s_p) (Value.slice A_p n_p c_p) (Value.slice B_p m_p d_p) (Value.bool t_p) (Value.slice E_p i_p e_p) (Value.slice F_p j_p f_p) (Value.bool s_q) (Value.slice A_q n_q c_q) (Value.slice B_q m_q d_q) (Value.bool t_q) (Value.slice E_q i_q e_q) (Value.slice F_q j_q f_q) (Value.bool s_r) (Value.slice A_r n_r c_r) (Value.slice B_r m_r d_r) (Value.bool t_r) (Value.slice E_r i_r e_r) (Value.slice F_r j_r f_r) := by subst hW; exact BL3.new' _ _ _ _ _ _ _ _ _ _ _ _ _ _ _ _ _ _ _ _ (by simp)
  have hzW : W.heap.size = w.heap.size + 4 := by subst hW; simp
  clear hW
  replace p := p.below hb
  replace q := q.below hb
  replace r := r.below hb
  have xa0 := XA.c0
  have xa1 := XA.c1
  have xa2 := XA.c2
  have xa3 := XA.c3
  have xa4 := XA.c4
  have xa5 := XA.c5
  have xb0 := XB.c0
  have xb1 := XB.c1
  have xb2 := XB.c2
  have xb3 := XB.c3
  have xb4 := XB.c4
  have xb5 := XB.c5
  have xc0 := XC.c0
  have xc1 := XC.c1
  have xc2 := XC.c2
  have xc3 := XC.c3
  have xc4 := XC.c4
  have xc5 := XC.c5
  go_upto_region 5 with (first
      | (go_at_call 66; (with_reducible refine (fair3 XL true HL.out).mono ?_); rintro e w_z ⟨rfl, hh⟩
         clear XL
         try replace p := p.below hh
         try replace q := q.below hh
         try replace r := r.below hh
         try replace XA := XA.below hh
         try replace XB := XB.below hh
         try replace XC := XC.below hh
         replace hb := bend hb hh
         have xa0 := XA.c0
         have xa1 := XA.c1
         have xa2 := XA.c2
         have xa3 := XA.c3
         have xa4 := XA.c4
         have xa5 := XA.c5
         have xb0 := XB.c0
         have xb1 := XB.c1
         have xb2 := XB.c2
         have xb3 := XB.c3
         have xb4 := XB.c4
         have xb5 := XB.c5
         have xc0 := XC.c0
         have xc1 := XC.c1
         have xc2 := XC.c2
         have xc3 := XC.c3
         have xc4 := XC.c4
         have xc5 := XC.c5)
      | (go_at_call 88; (with_reducible refine (porient_p p q r (by decide) (by decide)).mono ?_); rintro e w_z ⟨rfl, hh⟩
         rw [H1.out]
         try replace p := p.below hh
         try replace q := q.below hh
         try replace r := r.below hh
         try replace XA := XA.below hh
         try replace XB := XB.below hh
         try replace XC := XC.below hh
         replace hb := bend hb hh
         have xa0 := XA.c0
         have xa1 := XA.c1
         have xa2 := XA.c2
         have xa3 := XA.c3
         have xa4 := XA.c4
         have xa5 := XA.c5
         have xb0 := XB.c0
         have xb1 := XB.c1
         have xb2 := XB.c2
         have xb3 := XB.c3
         have xb4 := XB.c4
         have xb5 := XB.c5
         have xc0 := XC.c0
         have xc1 := XC.c1
         have xc2 := XC.c2
         have xc3 := XC.c3
         have xc4 := XC.c4
         have xc5 := XC.c5)
      | (go_at_call 94; (with_reducible refine (lawP 7 (-3) (by decide) (by decide) (by decide) (by decide) _).mono ?_); rintro e w_g ⟨s_g, A_g, n_g, c_g, B_g, m_g, d_g, t_g, E_g, i_g, e_g, F_g, j_g, f_g, rfl, g, hh⟩
         try replace p := p.below hh
         try replace q := q.below hh
         try replace r := r.below hh
         try replace XA := XA.below hh
         try replace XB := XB.below hh
         try replace XC := XC.below hh
         replace hb := bend hb hh
         have xa0 := XA.c0
         have xa1 := XA.c1
         have xa2 := XA.c2
         have xa3 := XA.c3
         have xa4 := XA.c4
         have xa5 := XA.c5
         have xb0 := XB.c0
         have xb1 := XB.c1
         have xb2 := XB.c2
         have xb3 := XB.c3
         have xb4 := XB.c4
         have xb5 := XB.c5
         have xc0 := XC.c0
         have xc1 := XC.c1
         have xc2 := XC.c2
         have xc3 := XC.c3
         have xc4 := XC.c4
         have xc5 := XC.c5))
  generalize hW : (w_g.alloc (Obj.cells #[Value.bool s_g, Value.slice A_g n_g c_g, Value.slice B_g m_g d_g, Value.bool t_g, Value.slice E_g i_g e_g, Value.slice F_g j_g f_g] 83)) = W2
  have hh : Below w_g.heap.size w_g W2 := by subst hW; exact ((Below.refl _ _).alloc (Nat.le_refl _) _)
  have XM : B6 W2 (w_g.heap.size) (Value.bool s_g) (Value.slice A_g n_g c_g) (Value.slice B_g m_g d_g) (Value.bool t_g) (Value.slice E_g i_g e_g) (Value.slice F_g j_g f_g) := by subst hW; exact B6.new' _ _ _ _ _ _ _ _ rfl
  have hzW2 : W2.heap.size = w_g.heap.size + 1 := by subst hW; simp
  clear hW
  try replace p := p.below hh
  try replace q := q.below hh
  try replace r := r.below hh
  try replace XA := XA.below hh
  try replace XB := XB.below hh
  try replace XC := XC.below hh
  try replace g := g.below hh
  replace hb := bend hb hh
  replace p := p.below (Below.refl _ _).drew
  replace q := q.below (Below.refl _ _).drew
  replace r := r.below (Below.refl _ _).drew
  replace XA := XA.below (Below.refl _ _).drew
  replace XB := XB.below (Below.refl _ _).drew
  replace XC := XC.below (Below.refl _ _).drew
  replace g := g.below (Below.refl _ _).drew
  replace XM := XM.below (Below.refl _ _).drew
  replace hb := hb.drew
  go_region_held3 (fun w' => w'.cell? ⟨w.heap.size, 0, none⟩ = some (.bool s_p) ∧ w'.cell? ⟨w.heap.size, 1, none⟩ = some (.slice A_p n_p c_p) ∧ w'.cell? ⟨w.heap.size, 2, none⟩ = some (.slice B_p m_p d_p) ∧ w'.cell? ⟨w.heap.size, 3, none⟩ = some (.bool t_p) ∧ w'.cell? ⟨w.heap.size, 4, none⟩ = some (.slice E_p i_p e_p) ∧ w'.cell? ⟨w.heap.size, 5, none⟩ = some (.slice F_p j_p f_p) ∧ w'.cell? ⟨w.heap.size + 1, 0, none⟩ = some (.bool s_q) ∧ w'.cell? ⟨w.heap.size + 1, 1, none⟩ = some (.slice A_q n_q c_q) ∧ w'.cell? ⟨w.heap.size + 1, 2, none⟩ = some (.slice B_q m_q d_q) ∧ w'.cell? ⟨w.heap.size + 1, 3, none⟩ = some (.bool t_q) ∧ w'.cell? ⟨w.heap.size + 1, 4, none⟩ = some (.slice E_q i_q e_q) ∧ w'.cell? ⟨w.heap.size + 1, 5, none⟩ = some (.slice F_q j_q f_q) ∧ w'.cell? ⟨w.heap.size + 1 + 1, 0, none⟩ = some (.bool s_r) ∧ w'.cell? ⟨w.heap.size + 1 + 1, 1, none⟩ = some (.slice A_r n_r c_r) ∧ w'.cell? ⟨w.heap.size + 1 + 1, 2, none⟩ = some (.slice B_r m_r d_r) ∧ w'.cell? ⟨w.heap.size + 1 + 1, 3, none⟩ = some (.bool t_r) ∧ w'.cell? ⟨w.heap.size + 1 + 1, 4, none⟩ = some (.slice E_r i_r e_r) ∧ w'.cell? ⟨w.heap.size + 1 + 1, 5, none⟩ = some (.slice F_r j_r f_r) ∧ w'.cell? ⟨w_g.heap.size, 0, none⟩ = some (.bool s_g) ∧ w'.cell? ⟨w_g.heap.size, 1, none⟩ = some (.slice A_g n_g c_g) ∧ w'.cell? ⟨w_g.heap.size, 2, none⟩ = some (.slice B_g m_g d_g) ∧ w'.cell? ⟨w_g.heap.size, 3, none⟩ = some (.bool t_g) ∧ w'.cell? ⟨w_g.heap.size, 4, none⟩ = some (.slice E_g i_g e_g) ∧ w'.cell? ⟨w_g.heap.size, 5, none⟩ = some (.slice F_g j_g f_g))
    (first | with_reducible exact ⟨XA.c0, XA.c1, XA.c2, XA.c3, XA.c4, XA.c5, XB.c0, XB.c1, XB.c2, XB.c3, XB.c4, XB.c5, XC.c0, XC.c1, XC.c2, XC.c3, XC.c4, XC.c5, XM.c0, XM.c1, XM.c2, XM.c3, XM.c4, XM.c5⟩)
    (first
    | (go_at_call 88; (with_reducible refine (porient_p q r p (by decide) (by decide)).mono ?_); rintro e w_z ⟨rfl, hh⟩
       rw [H2.out]
       try replace p := p.below hh
       try replace q := q.below hh
       try replace r := r.below hh
       try replace XA := XA.below hh
       try replace XB := XB.below hh
       try replace XC := XC.below hh
       try replace g := g.below hh
       try replace XM := XM.below hh
       replace hb := bend hb hh)
    | (go_at_call 88; (with_reducible refine (porient_p r p q (by decide) (by decide)).mono ?_); rintro e w_z ⟨rfl, hh⟩
       rw [H3.out]
       try replace p := p.below hh
       try replace q := q.below hh
       try replace r := r.below hh
       try replace XA := XA.below hh
       try replace XB := XB.below hh
       try replace XC := XC.below hh
       try replace g := g.below hh
       try replace XM := XM.below hh
       replace hb := bend hb hh)
    | (go_at_call 88; (with_reducible refine (porient_p q p r (by decide) (by decide)).mono ?_); rintro e w_z ⟨rfl, hh⟩
       rw [H4.out]
       try replace p := p.below hh
       try replace q := q.below hh
       try replace r := r.below hh
       try replace XA := XA.below hh
       try replace XB := XB.below hh
       try replace XC := XC.below hh
       try replace g := g.below hh
       try replace XM := XM.below hh
       replace hb := bend hb hh)
    | (go_at_call 88; (with_reducible refine (porient_p p r q (by decide) (by decide)).mono ?_); rintro e w_z ⟨rfl, hh⟩
       rw [H5.out]
       try replace p := p.below hh
       try replace q := q.below hh
       try replace r := r.below hh
       try replace XA := XA.below hh
       try replace XB := XB.below hh
       try replace XC := XC.below hh
       try replace g := g.below hh
       try replace XM := XM.below hh
       replace hb := bend hb hh)
    | (go_at_call 73; (with_reducible refine (padd_p p g.pr (by decide) (by decide) (.inl (by decide)) (by decide) (by decide)).mono ?_); rintro e w_s1 ⟨s_s1, A_s1, n_s1, c_s1, B_s1, m_s1, d_s1, t_s1, E_s1, i_s1, e_s1, F_s1, j_s1, f_s1, rfl, s1, hh⟩
       try replace p := p.below hh
       try replace q := q.below hh
       try replace r := r.below hh
       try replace XA := XA.below hh
       try replace XB := XB.below hh
       try replace XC := XC.below hh
       try replace g := g.below hh
       try replace XM := XM.below hh
       replace hb := bend hb hh)
    | (go_at_call 73; (with_reducible refine (padd_p q g.pr (by decide) (by decide) (.inl (by decide)) (by decide) (by decide)).mono ?_); rintro e w_s2 ⟨s_s2, A_s2, n_s2, c_s2, B_s2, m_s2, d_s2, t_s2, E_s2, i_s2, e_s2, F_s2, j_s2, f_s2, rfl, s2, hh⟩
       try replace p := p.below hh
       try replace q := q.below hh
       try replace r := r.below hh
       try replace XA := XA.below hh
       try replace XB := XB.below hh
       try replace XC := XC.below hh
       try replace g := g.below hh
       try replace XM := XM.below hh
       try replace s1 := s1.below hh
       replace hb := bend hb hh)
    | (go_at_call 73; (with_reducible refine (padd_p r g.pr (by decide) (by decide) (.inl (by decide)) (by decide) (by decide)).mono ?_); rintro e w_s3 ⟨s_s3, A_s3, n_s3, c_s3, B_s3, m_s3, d_s3, t_s3, E_s3, i_s3, e_s3, F_s3, j_s3, f_s3, rfl, s3, hh⟩
       try replace p := p.below hh
       try replace q := q.below hh
       try replace r := r.below hh
       try replace XA := XA.below hh
       try replace XB := XB.below hh
       try replace XC := XC.below hh
       try replace g := g.below hh
       try replace XM := XM.below hh
       try replace s1 := s1.below hh
       try replace s2 := s2.below hh
       replace hb := bend hb hh)
    | (go_at_call 88; (with_reducible refine (porient_p s1.pr s2.pr s3.pr (by decide) (by decide)).mono ?_); rintro e w_z ⟨rfl, hh⟩
       rw [H6.out]; clear s1 s2 s3
       try replace p := p.below hh
       try replace q := q.below hh
       try replace r := r.below hh
       try replace XA := XA.below hh
       try replace XB := XB.below hh
       try replace XC := XC.below hh
       try replace g := g.below hh
       try replace XM := XM.below hh
       replace hb := bend hb hh)
    | (go_at_call 90; (with_reducible refine (pfar_p p q (by decide) (by decide) (by decide)).mono ?_); rintro e w_f1 ⟨s_f1, A_f1, n_f1, c_f1, B_f1, m_f1, d_f1, rfl, f1, hh⟩
       try replace p := p.below hh
       try replace q := q.below hh
       try replace r := r.below hh
       try replace XA := XA.below hh
       try replace XB := XB.below hh
       try replace XC := XC.below hh
       try replace g := g.below hh
       try replace XM := XM.below hh
       replace hb := bend hb hh)
    | (go_at_call 90; (with_reducible refine (pfar_p q p (by decide) (by decide) (by decide)).mono ?_); rintro e w_f2 ⟨s_f2, A_f2, n_f2, c_f2, B_f2, m_f2, d_f2, rfl, f2, hh⟩
       try replace p := p.below hh
       try replace q := q.below hh
       try replace r := r.below hh
       try replace XA := XA.below hh
       try replace XB := XB.below hh
       try replace XC := XC.below hh
       try replace g := g.below hh
       try replace XM := XM.below hh
       try replace f1 := f1.below hh
       replace hb := bend hb hh)
    | (go_at_call 28; (with_reducible refine (rcmp_q f1.qr f2.qr (by decide) (by decide) (.inl (by decide)) (by decide) (by decide)).mono ?_); rintro e w_z ⟨rfl, hh⟩
       rw [H7.out]; clear f1 f2
       try replace XA := XA.below hh
       try replace XB := XB.below hh
       try replace XC := XC.below hh
       try replace XM := XM.below hh
       replace hb := bend hb hh)
    | (go_at_call 67; (with_reducible refine (pwakes_any _).mono ?_); rintro e w_z ⟨rfl, hh⟩
       try replace XA := XA.below hh
       try replace XB := XB.below hh
       try replace XC := XC.below hh
       try replace XM := XM.below hh
       replace hb := bend hb hh))
  go_wp2_with fail
  go_ret
  exact ⟨rfl, hb⟩
theorem law_turns6 {w : World} {s_p t_p : Bool} {A_p B_p E_p F_p : Option Addr} {n_p c_p m_p d_p i_p e_p j_p f_p : Nat} {s_q t_q : Bool} {A_q B_q E_q F_q : Option Addr} {n_q c_q m_q d_q i_q e_q j_q f_q : Nat} {s_r t_r : Bool} {A_r B_r E_r F_r : Option Addr} {n_r c_r m_r d_r i_r e_r j_r f_r : Nat} {lap lbp lcp ldp : List Nat} {laq lbq lcq ldq : List Nat} {lar lbr lcr ldr : List Nat} (ap : Rd .u64 w A_p n_p lap) (bp : Rd .u64 w B_p m_p lbp) (up : Rd .u64 w E_p i_p lcp) (vp : Rd .u64 w F_p j_p ldp) (tap : Lim B64 lap) (tbp : Lim B64 lbp) (tcp : Lim B64 lcp) (tdp : Lim B64 ldp) (cap : n_p ≤ c_p) (cbp : m_p ≤ d_p) (ccp : i_p ≤ e_p) (cdp : j_p ≤ f_p) (aq : Rd .u64 w A_q n_q laq) (bq : Rd .u64 w B_q m_q lbq) (uq : Rd .u64 w E_q i_q lcq) (vq : Rd .u64 w F_q j_q ldq) (taq : Lim B64 laq) (tbq : Lim B64 lbq) (tcq : Lim B64 lcq) (tdq : Lim B64 ldq) (caq : n_q ≤ c_q) (cbq : m_q ≤ d_q) (ccq : i_q ≤ e_q) (cdq : j_q ≤ f_q) (ar : Rd .u64 w A_r n_r lar) (br : Rd .u64 w B_r m_r lbr) (ur : Rd .u64 w E_r i_r lcr) (vr : Rd .u64 w F_r j_r ldr) (tar : Lim B64 lar) (tbr : Lim B64 lbr) (tcr : Lim B64 lcr) (tdr : Lim B64 ldr) (car : n_r ≤ c_r) (cbr : m_r ≤ d_r) (ccr : i_r ≤ e_r) (cdr : j_r ≤ f_r) :
    Calls Tryz.prog 11 #[.agg #[.bool s_p, .slice A_p n_p c_p, .slice B_p m_p d_p, .bool t_p, .slice E_p i_p e_p, .slice F_p j_p f_p], .agg #[.bool s_q, .slice A_q n_q c_q, .slice B_q m_q d_q, .bool t_q, .slice E_q i_q e_q, .slice F_q j_q f_q], .agg #[.bool s_r, .slice A_r n_r c_r, .slice B_r m_r d_r, .bool t_r, .slice E_r i_r e_r, .slice F_r j_r f_r]] w fun e w' => e = .returned (.bool true) ∧ Below w.heap.size w w' := by
  by_cases h : (((n_p ≤ 6 ∧ m_p ≤ 6) ∧ i_p ≤ 6 ∧ j_p ≤ 6) ∧ ((n_q ≤ 6 ∧ m_q ≤ 6) ∧ i_q ≤ 6 ∧ j_q ≤ 6) ∧ ((n_r ≤ 6 ∧ m_r ≤ 6) ∧ i_r ≤ 6 ∧ j_r ≤ 6))
  · have p : PR w s_p A_p n_p c_p B_p m_p d_p t_p E_p i_p e_p F_p j_p f_p (mkRat (iv s_p (val B64 lap)) (den1 (val B64 lbp))) (mkRat (iv t_p (val B64 lcp)) (den1 (val B64 ldp))) 6 := ⟨QR.of_rd ap tap cap bp tbp cbp h.1.1.1 h.1.1.2, QR.of_rd up tcp ccp vp tdp cdp h.1.2.1 h.1.2.2⟩
    have q : PR w s_q A_q n_q c_q B_q m_q d_q t_q E_q i_q e_q F_q j_q f_q (mkRat (iv s_q (val B64 laq)) (den1 (val B64 lbq))) (mkRat (iv t_q (val B64 lcq)) (den1 (val B64 ldq))) 6 := ⟨QR.of_rd aq taq caq bq tbq cbq h.2.1.1.1 h.2.1.1.2, QR.of_rd uq tcq ccq vq tdq cdq h.2.1.2.1 h.2.1.2.2⟩
    have r : PR w s_r A_r n_r c_r B_r m_r d_r t_r E_r i_r e_r F_r j_r f_r (mkRat (iv s_r (val B64 lar)) (den1 (val B64 lbr))) (mkRat (iv t_r (val B64 lcr)) (den1 (val B64 ldr))) 6 := ⟨QR.of_rd ar tar car br tbr cbr h.2.2.1.1 h.2.2.1.2, QR.of_rd ur tcr ccr vr tdr cdr h.2.2.2.1 h.2.2.2.2⟩
    exact turns_s p q r h
  · exact turns_l h
end Go.Proofs.YtlkjkhpjhllapaaGreat
