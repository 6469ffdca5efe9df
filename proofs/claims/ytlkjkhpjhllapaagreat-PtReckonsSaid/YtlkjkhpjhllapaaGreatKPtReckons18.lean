/- PtReckons: part 18. -/
import Derived.Test.YtlkjkhpjhllapaaGreatKPtReckons11
import Derived.Test.YtlkjkhpjhllapaaGreatKPtReckons15
import Derived.Test.YtlkjkhpjhllapaaGreatKPtReckons17
set_option linter.unusedVariables false
namespace Go.Proofs.YtlkjkhpjhllapaaGreat
theorem txt_one {V d : Nat} (h : 0 < d) (h2 : d < 10) (hV : V = d) : txt V = [UInt8.ofNat (48 + d)] := by
  subst hV
  rw [txt, if_neg (by omega), limbs_small (by omega) h2 (by omega)]
  rfl
end Go.Proofs.YtlkjkhpjhllapaaGreat
namespace Go.Proofs.YtlkjkhpjhllapaaGreat
open Go Go.RowKit
theorem qtxt_i {v : Rat} {a : Nat} {l : List UInt8} (hn : v.num = (a : Int)) (hd : v.den = 1) (ha : txt a = l) : qtxt v = l := by
  unfold qtxt
  rw [if_pos hd, hn]
  unfold ztxt
  rw [if_neg (by omega), show ((a : Int)).natAbs = a by omega, ha]
theorem qtxt_m {v : Rat} {a : Nat} {l : List UInt8} (hn : v.num = -(a : Int)) (h0 : 0 < a) (hd : v.den = 1) (ha : txt a = l) : qtxt v = 45 :: l := by
  unfold qtxt
  rw [if_pos hd, hn]
  unfold ztxt
  rw [if_pos (by omega), show (-(a : Int)).natAbs = a by omega, ha]
theorem wk_seg : segQ (Rat.divInt 0 1) (Rat.divInt 1 1) (Rat.divInt (-1) 1) (Rat.divInt 0 1) (Rat.divInt 1 1) (Rat.divInt 0 1) = 1 := by decide +kernel
theorem wk_seg_txt : (⟨(qtxt (segQ (Rat.divInt 0 1) (Rat.divInt 1 1) (Rat.divInt (-1) 1) (Rat.divInt 0 1) (Rat.divInt 1 1) (Rat.divInt 0 1))).toArray⟩ : ByteArray) = ⟨#[49]⟩ := by
  rw [wk_seg, qtxt_i (a := 1) (by decide +kernel) (by decide +kernel) (txt_one (d := 1) (by decide) (by decide) rfl)]; rfl
theorem wk_cross_txt : (⟨(qtxt (Rat.divInt 1 1 * Rat.divInt 4 1 - Rat.divInt 2 1 * Rat.divInt 3 1)).toArray⟩ : ByteArray) = ⟨#[45, 50]⟩ := by
  rw [qtxt_m (a := 2) (by decide +kernel) (by decide) (by decide +kernel) (txt_one (d := 2) (by decide) (by decide) rfl)]; rfl
theorem wk_orient : orientQ (Rat.divInt 0 1) (Rat.divInt 0 1) (Rat.divInt 1 1) (Rat.divInt 0 1) (Rat.divInt 0 1) (Rat.divInt 1 1) = 1 := by decide +kernel
theorem wk_same : decide (Rat.divInt 1 1 + Rat.divInt 3 1 = Rat.divInt 4 1 ∧ Rat.divInt 2 1 + Rat.divInt 4 1 = Rat.divInt 6 1) = true := by decide +kernel
set_option maxRecDepth 100000 in
set_option maxHeartbeats 4000000 in
theorem pgood_p {w : World} {k : Nat} {x y : Rat} {s_p t_p : Bool} {A_p B_p E_p F_p : Option Addr} {n_p c_p m_p d_p i_p e_p j_p f_p : Nat} (p : PG w s_p A_p n_p c_p B_p m_p d_p t_p E_p i_p e_p F_p j_p f_p x y k) (hk : k ≤ 900) :
    Calls Tryz.prog 87 #[.agg #[.bool s_p, .slice A_p n_p c_p, .slice B_p m_p d_p, .bool t_p, .slice E_p i_p e_p, .slice F_p j_p f_p]] w fun e w' => e = .returned (.bool true) ∧ Below w.heap.size w w' := by
  go_enter Tryz.func87, Tryz.ntmps87
  go_wp2_with fail
  generalize hW : (w.alloc (Obj.cells #[Value.bool s_p, Value.slice A_p n_p c_p, Value.slice B_p m_p d_p, Value.bool t_p, Value.slice E_p i_p e_p, Value.slice F_p j_p f_p] 83)) = W
  have hb : Below w.heap.size w W := by subst hW; exact ((Below.refl _ _).alloc (Nat.le_refl _) _)
  have XA : B6 W (w.heap.size) (Value.bool s_p) (Value.slice A_p n_p c_p) (Value.slice B_p m_p d_p) (Value.bool t_p) (Value.slice E_p i_p e_p) (Value.slice F_p j_p f_p) := by subst hW; exact B6.new' _ _ _ _ _ _ _ _ rfl
  have hzW : W.heap.size = w.heap.size + 1 := by subst hW; simp
  clear hW
  replace p := p.below hb
  have xa0 := XA.c0
  have xa1 := XA.c1
  have xa2 := XA.c2
  have xa3 := XA.c3
  have xa4 := XA.c4
  have xa5 := XA.c5
  go_wp2_with (first
      | (go_at_call 35; (with_reducible refine (rgood_q p.qx hk).mono ?_); rintro e w_z ⟨rfl, hh⟩
         try replace p := p.below hh
         try replace XA := XA.below hh
         replace hb := bend hb hh
         have xa0 := XA.c0
         have xa1 := XA.c1
         have xa2 := XA.c2
         have xa3 := XA.c3
         have xa4 := XA.c4
         have xa5 := XA.c5)
      | (go_at_call 35; (with_reducible refine (rgood_q p.qy hk).mono ?_); rintro e w_z ⟨rfl, hh⟩
         try replace p := p.below hh
         try replace XA := XA.below hh
         replace hb := bend hb hh
         have xa0 := XA.c0
         have xa1 := XA.c1
         have xa2 := XA.c2
         have xa3 := XA.c3
         have xa4 := XA.c4
         have xa5 := XA.c5))
  go_ret
  exact ⟨rfl, hb⟩
set_option maxRecDepth 100000 in
set_option maxHeartbeats 8000000 in
theorem pwakes_any (w : World) : Calls Tryz.prog 67 #[] w fun e w' => e = .returned (.bool true) ∧ Below w.heap.size w w' := by
  have hb : Below w.heap.size w w := Below.refl _ _
  go_enter Tryz.func67, Tryz.ntmps67
  go_wp2_with (first
      | (go_at_call 94; (with_reducible refine (lawP 0 1 (by decide) (by decide) (by decide) (by decide) _).mono ?_); rintro e w_p1 ⟨s_p1, A_p1, n_p1, c_p1, B_p1, m_p1, d_p1, t_p1, E_p1, i_p1, e_p1, F_p1, j_p1, f_p1, rfl, p1, hh⟩
         try replace p2 := p2.below hh
         try replace p3 := p3.below hh
         try replace p4 := p4.below hh
         try replace p7 := p7.below hh
         try replace p8 := p8.below hh
         try replace a1 := a1.below hh
         replace hb := bend hb hh)
      | (go_at_call 94; (with_reducible refine (lawP (-1) 0 (by decide) (by decide) (by decide) (by decide) _).mono ?_); rintro e w_p2 ⟨s_p2, A_p2, n_p2, c_p2, B_p2, m_p2, d_p2, t_p2, E_p2, i_p2, e_p2, F_p2, j_p2, f_p2, rfl, p2, hh⟩
         try replace p1 := p1.below hh
         try replace p3 := p3.below hh
         try replace p4 := p4.below hh
         try replace p7 := p7.below hh
         try replace p8 := p8.below hh
         try replace a1 := a1.below hh
         replace hb := bend hb hh)
      | (go_at_call 94; (with_reducible refine (lawP 1 0 (by decide) (by decide) (by decide) (by decide) _).mono ?_); rintro e w_p3 ⟨s_p3, A_p3, n_p3, c_p3, B_p3, m_p3, d_p3, t_p3, E_p3, i_p3, e_p3, F_p3, j_p3, f_p3, rfl, p3, hh⟩
         try replace p1 := p1.below hh
         try replace p2 := p2.below hh
         try replace p4 := p4.below hh
         try replace p7 := p7.below hh
         try replace p8 := p8.below hh
         try replace a1 := a1.below hh
         replace hb := bend hb hh)
      | (go_at_call 92; (with_reducible refine (ptoseg_p p1.pr p2.pr p3.pr (by decide) (by decide) (by decide) (by decide)).mono ?_); rintro e w_q1 ⟨s_q1, A_q1, n_q1, c_q1, B_q1, m_q1, d_q1, rfl, q1, hh⟩
         replace hb := bend hb hh
         clear p1 p2 p3)
      | (go_at_call 40; (with_reducible refine (rtext_q q1.qr (by decide) (by decide)).mono ?_); rintro e w_z ⟨rfl, hh⟩
         rw [wk_seg_txt]; clear q1
         replace hb := bend hb hh)
      | (go_at_call 94; (with_reducible refine (lawP 0 0 (by decide) (by decide) (by decide) (by decide) _).mono ?_); rintro e w_p4 ⟨s_p4, A_p4, n_p4, c_p4, B_p4, m_p4, d_p4, t_p4, E_p4, i_p4, e_p4, F_p4, j_p4, f_p4, rfl, p4, hh⟩
         try replace p1 := p1.below hh
         try replace p2 := p2.below hh
         try replace p3 := p3.below hh
         try replace p7 := p7.below hh
         try replace p8 := p8.below hh
         try replace a1 := a1.below hh
         replace hb := bend hb hh)
      | (go_at_call 88; (with_reducible refine (porient_p p4.pr p3.pr p1.pr (by decide) (by decide)).mono ?_); rintro e w_z ⟨rfl, hh⟩
         rw [wk_orient]; clear p4 p3 p1
         replace hb := bend hb hh)
      | (go_at_call 94; (with_reducible refine (lawP 1 2 (by decide) (by decide) (by decide) (by decide) _).mono ?_); rintro e w_p7 ⟨s_p7, A_p7, n_p7, c_p7, B_p7, m_p7, d_p7, t_p7, E_p7, i_p7, e_p7, F_p7, j_p7, f_p7, rfl, p7, hh⟩
         try replace p1 := p1.below hh
         try replace p2 := p2.below hh
         try replace p3 := p3.below hh
         try replace p4 := p4.below hh
         try replace p8 := p8.below hh
         try replace a1 := a1.below hh
         replace hb := bend hb hh)
      | (go_at_call 94; (with_reducible refine (lawP 3 4 (by decide) (by decide) (by decide) (by decide) _).mono ?_); rintro e w_p8 ⟨s_p8, A_p8, n_p8, c_p8, B_p8, m_p8, d_p8, t_p8, E_p8, i_p8, e_p8, F_p8, j_p8, f_p8, rfl, p8, hh⟩
         try replace p1 := p1.below hh
         try replace p2 := p2.below hh
         try replace p3 := p3.below hh
         try replace p4 := p4.below hh
         try replace p7 := p7.below hh
         try replace a1 := a1.below hh
         replace hb := bend hb hh)
      | (go_at_call 73; (with_reducible refine (padd_p p7.pr p8.pr (by decide) (by decide) (.inl (by decide)) (by decide) (by decide)).mono ?_); rintro e w_a1 ⟨s_a1, A_a1, n_a1, c_a1, B_a1, m_a1, d_a1, t_a1, E_a1, i_a1, e_a1, F_a1, j_a1, f_a1, rfl, a1, hh⟩
         replace hb := bend hb hh
         clear p7 p8)
      | (go_at_call 94; (with_reducible refine (lawP 4 6 (by decide) (by decide) (by decide) (by decide) _).mono ?_); rintro e w_p9 ⟨s_p9, A_p9, n_p9, c_p9, B_p9, m_p9, d_p9, t_p9, E_p9, i_p9, e_p9, F_p9, j_p9, f_p9, rfl, p9, hh⟩
         try replace p1 := p1.below hh
         try replace p2 := p2.below hh
         try replace p3 := p3.below hh
         try replace p4 := p4.below hh
         try replace p7 := p7.below hh
         try replace p8 := p8.below hh
         try replace a1 := a1.below hh
         replace hb := bend hb hh)
      | (go_at_call 85; (with_reducible refine (psame_p a1.pr p9.pr (by decide) (by decide) (by decide) (by decide) true wk_same).mono ?_); rintro e w_z ⟨rfl, hh⟩
         replace hb := bend hb hh
         clear a1 p9)
      | (go_at_call 83; (with_reducible refine (pcross_p p7.pr p8.pr (by decide) (by decide) (by decide)).mono ?_); rintro e w_q2 ⟨s_q2, A_q2, n_q2, c_q2, B_q2, m_q2, d_q2, rfl, q2, hh⟩
         replace hb := bend hb hh
         clear p7 p8)
      | (go_at_call 40; (with_reducible refine (rtext_q q2.qr (by decide) (by decide)).mono ?_); rintro e w_z ⟨rfl, hh⟩
         rw [wk_cross_txt]; clear q2
         replace hb := bend hb hh)
      | (go_at_call 94; (with_reducible refine (lawP 1 1 (by decide) (by decide) (by decide) (by decide) _).mono ?_); rintro e w_pz ⟨s_pz, A_pz, n_pz, c_pz, B_pz, m_pz, d_pz, t_pz, E_pz, i_pz, e_pz, F_pz, j_pz, f_pz, rfl, pz, hh⟩
         try replace p1 := p1.below hh
         try replace p2 := p2.below hh
         try replace p3 := p3.below hh
         try replace p4 := p4.below hh
         try replace p7 := p7.below hh
         try replace p8 := p8.below hh
         try replace a1 := a1.below hh
         replace hb := bend hb hh)
      | (go_at_call 87; (with_reducible refine (pgood_p pz (by decide)).mono ?_); rintro e w_z ⟨rfl, hh⟩
         replace hb := bend hb hh))
  go_ret
  exact ⟨rfl, hb⟩
end Go.Proofs.YtlkjkhpjhllapaaGreat
namespace Go.Proofs.YtlkjkhpjhllapaaGreat
open Go Go.RowKit
theorem QR.of_rd {w : World} {s : Bool} {A A' : Option Addr} {n c n' c' k : Nat} {l l' : List Nat} (h : Rd .u64 w A n l) (hL : Lim B64 l) (hnc : n ≤ c) (h' : Rd .u64 w A' n' l') (hL' : Lim B64 l') (hnc' : n' ≤ c') (hk : n ≤ k) (hk' : n' ≤ k) :
    QR w s A n c A' n' c' (mkRat (iv s (val B64 l)) (den1 (val B64 l'))) k := ⟨_, _, ZR.of_rd h hL hnc hk, ⟨l', h', hL', rfl, hnc', hk'⟩, rfl⟩
end Go.Proofs.YtlkjkhpjhllapaaGreat
