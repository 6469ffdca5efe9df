/- The law NatLaws: sums and products go in any order, and through each other; a common divisor divides both, and what is left has no other one. -/
import Derived.Test.YtpnckmofmjefpaaNR
import Derived.Test.YtpnckmofmjefpaaWakes
namespace Go.Proofs.Ytpnckmofmjefpaa
open Go.RowKit

theorem lit1 (W : World) : NR (W.alloc b1) (some ⟨W.heap.size, 0, none⟩) 1 1 1 1 := ⟨[1], rd_1 W, lim1 (by decide), rfl, Nat.le_refl _, Nat.le_refl _⟩

set_option maxRecDepth 100000 in
set_option maxHeartbeats 4000000 in
theorem law_laws (la lb lc : List Nat) (A B C : Option Addr) (n c' m d p f : Nat) (w : World) (ha : Rd .u64 w A n la) (hb0 : Rd .u64 w B m lb) (hc0 : Rd .u64 w C p lc) (La : Lim B64 la) (Lb : Lim B64 lb) (Lc : Lim B64 lc) (hnc : n ≤ c') (hmd : m ≤ d) (hpf : p ≤ f) (_hcm : c' ≤ maxLen) (_hdm : d ≤ maxLen) (_hfm : f ≤ maxLen) :
    Calls Try.prog 8 #[.slice A n c', .slice B m d, .slice C p f] w fun e w' => e = .returned (.bool true) ∧ Below w.heap.size w w' := by
  have hb : Below w.heap.size w w := Below.refl _ _
  by_cases h20 : n ≤ 20 ∧ m ≤ 20 ∧ p ≤ 20
  · obtain ⟨h1, h2, h3⟩ := h20
    have a : NR w A n c' (val B64 la) 20 := ⟨la, ha, La, rfl, hnc, h1⟩
    have b : NR w B m d (val B64 lb) 20 := ⟨lb, hb0, Lb, rfl, hmd, h2⟩
    have c : NR w C p f (val B64 lc) 20 := ⟨lc, hc0, Lc, rfl, hpf, h3⟩
    generalize val B64 la = U at a
    generalize val B64 lb = V at b
    generalize val B64 lc = T at c
    clear ha hb0 hc0 La Lb Lc
    have H1 : Hid (cmpN (U + V) (V + U) = 0) := cmpN_eq (Nat.add_comm _ _)
    have H2 : Hid (cmpN (U * V) (V * U) = 0) := cmpN_eq (Nat.mul_comm _ _)
    have H3 : Hid (cmpN (U * (V + T)) (U * V + U * T) = 0) := cmpN_eq (Nat.mul_add _ _ _)
    have H4 : Hid (cmpN (U * (V * T)) (U * V * T) = 0) := cmpN_eq (Nat.mul_assoc _ _ _).symm
    by_cases hG : Nat.gcd U V = 0
    · have HG := Lib.hid hG
      have HU : Hid (cmpN U 0 = 0) := cmpN_eq (Nat.eq_zero_of_gcd_eq_zero_left hG)
      have HV : Hid (cmpN V 0 = 0) := cmpN_eq (Nat.eq_zero_of_gcd_eq_zero_right hG)
      clear hG
      go_enter Try.func8, Try.ntmps8
      go_wp2_with (first
      | (go_at_call 22; (with_reducible refine (add_nr 21 a b (by omega) (by omega) (by omega)).mono ?_); rintro e w_sab ⟨A_sab, n_sab, c_sab, rfl, t_sab, hh⟩
         try replace a := a.below hh
         try replace b := b.below hh
         try replace c := c.below hh
         try replace sab := sab.below hh
         try replace sba := sba.below hh
         try replace mab := mab.below hh
         try replace mba := mba.below hh
         try replace sbc := sbc.below hh
         try replace m1 := m1.below hh
         try replace mac := mac.below hh
         try replace s2 := s2.below hh
         try replace mbc := mbc.below hh
         try replace p1 := p1.below hh
         try replace p2 := p2.below hh
         try replace g := g.below hh
         try replace x := x.below hh
         try replace y := y.below hh
         try replace g_x := g_x.below hh
         try replace g_y := g_y.below hh
         replace hb := bend hb hh
         have g_sab := t_sab
         have sab := t_sab.nr)
      | (go_at_call 22; (with_reducible refine (add_nr 21 b a (by omega) (by omega) (by omega)).mono ?_); rintro e w_sba ⟨A_sba, n_sba, c_sba, rfl, t_sba, hh⟩
         try replace a := a.below hh
         try replace b := b.below hh
         try replace c := c.below hh
         try replace sab := sab.below hh
         try replace sba := sba.below hh
         try replace mab := mab.below hh
         try replace mba := mba.below hh
         try replace sbc := sbc.below hh
         try replace m1 := m1.below hh
         try replace mac := mac.below hh
         try replace s2 := s2.below hh
         try replace mbc := mbc.below hh
         try replace p1 := p1.below hh
         try replace p2 := p2.below hh
         try replace g := g.below hh
         try replace x := x.below hh
         try replace y := y.below hh
         try replace g_x := g_x.below hh
         try replace g_y := g_y.below hh
         replace hb := bend hb hh
         have g_sba := t_sba
         have sba := t_sba.nr)
      | (go_at_call 26; (with_reducible refine (cmp_nr sab sba (by omega) (by omega)).mono ?_); rintro e w_2 ⟨rfl, hh⟩
         try replace a := a.below hh
         try replace b := b.below hh
         try replace c := c.below hh
         try replace sab := sab.below hh
         try replace sba := sba.below hh
         try replace mab := mab.below hh
         try replace mba := mba.below hh
         try replace sbc := sbc.below hh
         try replace m1 := m1.below hh
         try replace mac := mac.below hh
         try replace s2 := s2.below hh
         try replace mbc := mbc.below hh
         try replace p1 := p1.below hh
         try replace p2 := p2.below hh
         try replace g := g.below hh
         try replace x := x.below hh
         try replace y := y.below hh
         try replace g_x := g_x.below hh
         try replace g_y := g_y.below hh
         replace hb := bend hb hh
         rw [H1.out])
      | (go_at_call 24; (with_reducible refine (mul_nr 40 a b (by omega) (by omega) (by omega)).mono ?_); rintro e w_mab ⟨A_mab, n_mab, c_mab, rfl, t_mab, hh⟩
         try replace a := a.below hh
         try replace b := b.below hh
         try replace c := c.below hh
         try replace sab := sab.below hh
         try replace sba := sba.below hh
         try replace mab := mab.below hh
         try replace mba := mba.below hh
         try replace sbc := sbc.below hh
         try replace m1 := m1.below hh
         try replace mac := mac.below hh
         try replace s2 := s2.below hh
         try replace mbc := mbc.below hh
         try replace p1 := p1.below hh
         try replace p2 := p2.below hh
         try replace g := g.below hh
         try replace x := x.below hh
         try replace y := y.below hh
         try replace g_x := g_x.below hh
         try replace g_y := g_y.below hh
         replace hb := bend hb hh
         have g_mab := t_mab
         have mab := t_mab.nr)
      | (go_at_call 24; (with_reducible refine (mul_nr 40 b a (by omega) (by omega) (by omega)).mono ?_); rintro e w_mba ⟨A_mba, n_mba, c_mba, rfl, t_mba, hh⟩
         try replace a := a.below hh
         try replace b := b.below hh
         try replace c := c.below hh
         try replace sab := sab.below hh
         try replace sba := sba.below hh
         try replace mab := mab.below hh
         try replace mba := mba.below hh
         try replace sbc := sbc.below hh
         try replace m1 := m1.below hh
         try replace mac := mac.below hh
         try replace s2 := s2.below hh
         try replace mbc := mbc.below hh
         try replace p1 := p1.below hh
         try replace p2 := p2.below hh
         try replace g := g.below hh
         try replace x := x.below hh
         try replace y := y.below hh
         try replace g_x := g_x.below hh
         try replace g_y := g_y.below hh
         replace hb := bend hb hh
         have g_mba := t_mba
         have mba := t_mba.nr)
      | (go_at_call 26; (with_reducible refine (cmp_nr mab mba (by omega) (by omega)).mono ?_); rintro e w_5 ⟨rfl, hh⟩
         try replace a := a.below hh
         try replace b := b.below hh
         try replace c := c.below hh
         try replace sab := sab.below hh
         try replace sba := sba.below hh
         try replace mab := mab.below hh
         try replace mba := mba.below hh
         try replace sbc := sbc.below hh
         try replace m1 := m1.below hh
         try replace mac := mac.below hh
         try replace s2 := s2.below hh
         try replace mbc := mbc.below hh
         try replace p1 := p1.below hh
         try replace p2 := p2.below hh
         try replace g := g.below hh
         try replace x := x.below hh
         try replace y := y.below hh
         try replace g_x := g_x.below hh
         try replace g_y := g_y.below hh
         replace hb := bend hb hh
         rw [H2.out])
      | (go_at_call 22; (with_reducible refine (add_nr 21 b c (by omega) (by omega) (by omega)).mono ?_); rintro e w_sbc ⟨A_sbc, n_sbc, c_sbc, rfl, t_sbc, hh⟩
         try replace a := a.below hh
         try replace b := b.below hh
         try replace c := c.below hh
         try replace sab := sab.below hh
         try replace sba := sba.below hh
         try replace mab := mab.below hh
         try replace mba := mba.below hh
         try replace sbc := sbc.below hh
         try replace m1 := m1.below hh
         try replace mac := mac.below hh
         try replace s2 := s2.below hh
         try replace mbc := mbc.below hh
         try replace p1 := p1.below hh
         try replace p2 := p2.below hh
         try replace g := g.below hh
         try replace x := x.below hh
         try replace y := y.below hh
         try replace g_x := g_x.below hh
         try replace g_y := g_y.below hh
         replace hb := bend hb hh
         have g_sbc := t_sbc
         have sbc := t_sbc.nr)
      | (go_at_call 24; (with_reducible refine (mul_nr 41 a sbc (by omega) (by omega) (by omega)).mono ?_); rintro e w_m1 ⟨A_m1, n_m1, c_m1, rfl, t_m1, hh⟩
         try replace a := a.below hh
         try replace b := b.below hh
         try replace c := c.below hh
         try replace sab := sab.below hh
         try replace sba := sba.below hh
         try replace mab := mab.below hh
         try replace mba := mba.below hh
         try replace sbc := sbc.below hh
         try replace m1 := m1.below hh
         try replace mac := mac.below hh
         try replace s2 := s2.below hh
         try replace mbc := mbc.below hh
         try replace p1 := p1.below hh
         try replace p2 := p2.below hh
         try replace g := g.below hh
         try replace x := x.below hh
         try replace y := y.below hh
         try replace g_x := g_x.below hh
         try replace g_y := g_y.below hh
         replace hb := bend hb hh
         have g_m1 := t_m1
         have m1 := t_m1.nr)
      | (go_at_call 24; (with_reducible refine (mul_nr 40 a c (by omega) (by omega) (by omega)).mono ?_); rintro e w_mac ⟨A_mac, n_mac, c_mac, rfl, t_mac, hh⟩
         try replace a := a.below hh
         try replace b := b.below hh
         try replace c := c.below hh
         try replace sab := sab.below hh
         try replace sba := sba.below hh
         try replace mab := mab.below hh
         try replace mba := mba.below hh
         try replace sbc := sbc.below hh
         try replace m1 := m1.below hh
         try replace mac := mac.below hh
         try replace s2 := s2.below hh
         try replace mbc := mbc.below hh
         try replace p1 := p1.below hh
         try replace p2 := p2.below hh
         try replace g := g.below hh
         try replace x := x.below hh
         try replace y := y.below hh
         try replace g_x := g_x.below hh
         try replace g_y := g_y.below hh
         replace hb := bend hb hh
         have g_mac := t_mac
         have mac := t_mac.nr)
      | (go_at_call 22; (with_reducible refine (add_nr 41 mab mac (by omega) (by omega) (by omega)).mono ?_); rintro e w_s2 ⟨A_s2, n_s2, c_s2, rfl, t_s2, hh⟩
         try replace a := a.below hh
         try replace b := b.below hh
         try replace c := c.below hh
         try replace sab := sab.below hh
         try replace sba := sba.below hh
         try replace mab := mab.below hh
         try replace mba := mba.below hh
         try replace sbc := sbc.below hh
         try replace m1 := m1.below hh
         try replace mac := mac.below hh
         try replace s2 := s2.below hh
         try replace mbc := mbc.below hh
         try replace p1 := p1.below hh
         try replace p2 := p2.below hh
         try replace g := g.below hh
         try replace x := x.below hh
         try replace y := y.below hh
         try replace g_x := g_x.below hh
         try replace g_y := g_y.below hh
         replace hb := bend hb hh
         have g_s2 := t_s2
         have s2 := t_s2.nr)
      | (go_at_call 26; (with_reducible refine (cmp_nr m1 s2 (by omega) (by omega)).mono ?_); rintro e w_10 ⟨rfl, hh⟩
         try replace a := a.below hh
         try replace b := b.below hh
         try replace c := c.below hh
         try replace sab := sab.below hh
         try replace sba := sba.below hh
         try replace mab := mab.below hh
         try replace mba := mba.below hh
         try replace sbc := sbc.below hh
         try replace m1 := m1.below hh
         try replace mac := mac.below hh
         try replace s2 := s2.below hh
         try replace mbc := mbc.below hh
         try replace p1 := p1.below hh
         try replace p2 := p2.below hh
         try replace g := g.below hh
         try replace x := x.below hh
         try replace y := y.below hh
         try replace g_x := g_x.below hh
         try replace g_y := g_y.below hh
         replace hb := bend hb hh
         rw [H3.out])
      | (go_at_call 24; (with_reducible refine (mul_nr 40 b c (by omega) (by omega) (by omega)).mono ?_); rintro e w_mbc ⟨A_mbc, n_mbc, c_mbc, rfl, t_mbc, hh⟩
         try replace a := a.below hh
         try replace b := b.below hh
         try replace c := c.below hh
         try replace sab := sab.below hh
         try replace sba := sba.below hh
         try replace mab := mab.below hh
         try replace mba := mba.below hh
         try replace sbc := sbc.below hh
         try replace m1 := m1.below hh
         try replace mac := mac.below hh
         try replace s2 := s2.below hh
         try replace mbc := mbc.below hh
         try replace p1 := p1.below hh
         try replace p2 := p2.below hh
         try replace g := g.below hh
         try replace x := x.below hh
         try replace y := y.below hh
         try replace g_x := g_x.below hh
         try replace g_y := g_y.below hh
         replace hb := bend hb hh
         have g_mbc := t_mbc
         have mbc := t_mbc.nr)
      | (go_at_call 24; (with_reducible refine (mul_nr 60 a mbc (by omega) (by omega) (by omega)).mono ?_); rintro e w_p1 ⟨A_p1, n_p1, c_p1, rfl, t_p1, hh⟩
         try replace a := a.below hh
         try replace b := b.below hh
         try replace c := c.below hh
         try replace sab := sab.below hh
         try replace sba := sba.below hh
         try replace mab := mab.below hh
         try replace mba := mba.below hh
         try replace sbc := sbc.below hh
         try replace m1 := m1.below hh
         try replace mac := mac.below hh
         try replace s2 := s2.below hh
         try replace mbc := mbc.below hh
         try replace p1 := p1.below hh
         try replace p2 := p2.below hh
         try replace g := g.below hh
         try replace x := x.below hh
         try replace y := y.below hh
         try replace g_x := g_x.below hh
         try replace g_y := g_y.below hh
         replace hb := bend hb hh
         have g_p1 := t_p1
         have p1 := t_p1.nr)
      | (go_at_call 24; (with_reducible refine (mul_nr 60 mab c (by omega) (by omega) (by omega)).mono ?_); rintro e w_p2 ⟨A_p2, n_p2, c_p2, rfl, t_p2, hh⟩
         try replace a := a.below hh
         try replace b := b.below hh
         try replace c := c.below hh
         try replace sab := sab.below hh
         try replace sba := sba.below hh
         try replace mab := mab.below hh
         try replace mba := mba.below hh
         try replace sbc := sbc.below hh
         try replace m1 := m1.below hh
         try replace mac := mac.below hh
         try replace s2 := s2.below hh
         try replace mbc := mbc.below hh
         try replace p1 := p1.below hh
         try replace p2 := p2.below hh
         try replace g := g.below hh
         try replace x := x.below hh
         try replace y := y.below hh
         try replace g_x := g_x.below hh
         try replace g_y := g_y.below hh
         replace hb := bend hb hh
         have g_p2 := t_p2
         have p2 := t_p2.nr)
      | (go_at_call 26; (with_reducible refine (cmp_nr p1 p2 (by omega) (by omega)).mono ?_); rintro e w_14 ⟨rfl, hh⟩
         try replace a := a.below hh
         try replace b := b.below hh
         try replace c := c.below hh
         try replace sab := sab.below hh
         try replace sba := sba.below hh
         try replace mab := mab.below hh
         try replace mba := mba.below hh
         try replace sbc := sbc.below hh
         try replace m1 := m1.below hh
         try replace mac := mac.below hh
         try replace s2 := s2.below hh
         try replace mbc := mbc.below hh
         try replace p1 := p1.below hh
         try replace p2 := p2.below hh
         try replace g := g.below hh
         try replace x := x.below hh
         try replace y := y.below hh
         try replace g_x := g_x.below hh
         try replace g_y := g_y.below hh
         replace hb := bend hb hh
         rw [H4.out])
      | (go_at_call 31; (with_reducible refine (gcd_nr a b (by omega)).mono ?_); rintro e w_g ⟨A_g, n_g, c_g, rfl, t_g, hh⟩
         try replace a := a.below hh
         try replace b := b.below hh
         try replace c := c.below hh
         try replace sab := sab.below hh
         try replace sba := sba.below hh
         try replace mab := mab.below hh
         try replace mba := mba.below hh
         try replace sbc := sbc.below hh
         try replace m1 := m1.below hh
         try replace mac := mac.below hh
         try replace s2 := s2.below hh
         try replace mbc := mbc.below hh
         try replace p1 := p1.below hh
         try replace p2 := p2.below hh
         try replace g := g.below hh
         try replace x := x.below hh
         try replace y := y.below hh
         try replace g_x := g_x.below hh
         try replace g_y := g_y.below hh
         replace hb := bend hb hh
         have g := t_g.nr
         obtain rfl : n_g = 0 := t_g.zero HG.out)
      | (go_at_call 26; (with_reducible refine (cmp_nr a (NR.nil _ 0) (by omega) (by omega)).mono ?_); rintro e w_16 ⟨rfl, hh⟩
         try replace a := a.below hh
         try replace b := b.below hh
         try replace c := c.below hh
         try replace sab := sab.below hh
         try replace sba := sba.below hh
         try replace mab := mab.below hh
         try replace mba := mba.below hh
         try replace sbc := sbc.below hh
         try replace m1 := m1.below hh
         try replace mac := mac.below hh
         try replace s2 := s2.below hh
         try replace mbc := mbc.below hh
         try replace p1 := p1.below hh
         try replace p2 := p2.below hh
         try replace g := g.below hh
         try replace x := x.below hh
         try replace y := y.below hh
         try replace g_x := g_x.below hh
         try replace g_y := g_y.below hh
         replace hb := bend hb hh
         rw [HU.out])
      | (go_at_call 26; (with_reducible refine (cmp_nr b (NR.nil _ 0) (by omega) (by omega)).mono ?_); rintro e w_17 ⟨rfl, hh⟩
         try replace a := a.below hh
         try replace b := b.below hh
         try replace c := c.below hh
         try replace sab := sab.below hh
         try replace sba := sba.below hh
         try replace mab := mab.below hh
         try replace mba := mba.below hh
         try replace sbc := sbc.below hh
         try replace m1 := m1.below hh
         try replace mac := mac.below hh
         try replace s2 := s2.below hh
         try replace mbc := mbc.below hh
         try replace p1 := p1.below hh
         try replace p2 := p2.below hh
         try replace g := g.below hh
         try replace x := x.below hh
         try replace y := y.below hh
         try replace g_x := g_x.below hh
         try replace g_y := g_y.below hh
         replace hb := bend hb hh
         rw [HV.out])
      | (go_at_call 15; (with_reducible refine (wakes_any _).mono ?_); rintro e w_18 ⟨rfl, hh⟩
         try replace a := a.below hh
         try replace b := b.below hh
         try replace c := c.below hh
         try replace sab := sab.below hh
         try replace sba := sba.below hh
         try replace mab := mab.below hh
         try replace mba := mba.below hh
         try replace sbc := sbc.below hh
         try replace m1 := m1.below hh
         try replace mac := mac.below hh
         try replace s2 := s2.below hh
         try replace mbc := mbc.below hh
         try replace p1 := p1.below hh
         try replace p2 := p2.below hh
         try replace g := g.below hh
         try replace x := x.below hh
         try replace y := y.below hh
         try replace g_x := g_x.below hh
         try replace g_y := g_y.below hh
         replace hb := bend hb hh))
      go_ret
      exact ⟨rfl, hb⟩
    · have HG := Lib.hid hG
      have HR : Hid (U % Nat.gcd U V = 0) := Nat.mod_eq_zero_of_dvd (Nat.gcd_dvd_left _ _)
      have HS : Hid (V % Nat.gcd U V = 0) := Nat.mod_eq_zero_of_dvd (Nat.gcd_dvd_right _ _)
      have H1G : Hid (cmpN (Nat.gcd (U / Nat.gcd U V) (V / Nat.gcd U V)) 1 = 0) := cmpN_eq (by rw [Nat.gcd_div (Nat.gcd_dvd_left _ _) (Nat.gcd_dvd_right _ _), Nat.div_self (Nat.pos_of_ne_zero hG)])
      clear hG
      go_enter Try.func8, Try.ntmps8
      go_wp2_with (first
      | (go_at_call 22; (with_reducible refine (add_nr 21 a b (by omega) (by omega) (by omega)).mono ?_); rintro e w_sab ⟨A_sab, n_sab, c_sab, rfl, t_sab, hh⟩
         try replace a := a.below hh
         try replace b := b.below hh
         try replace c := c.below hh
         try replace sab := sab.below hh
         try replace sba := sba.below hh
         try replace mab := mab.below hh
         try replace mba := mba.below hh
         try replace sbc := sbc.below hh
         try replace m1 := m1.below hh
         try replace mac := mac.below hh
         try replace s2 := s2.below hh
         try replace mbc := mbc.below hh
         try replace p1 := p1.below hh
         try replace p2 := p2.below hh
         try replace g := g.below hh
         try replace x := x.below hh
         try replace y := y.below hh
         try replace g_x := g_x.below hh
         try replace g_y := g_y.below hh
         replace hb := bend hb hh
         have g_sab := t_sab
         have sab := t_sab.nr)
      | (go_at_call 22; (with_reducible refine (add_nr 21 b a (by omega) (by omega) (by omega)).mono ?_); rintro e w_sba ⟨A_sba, n_sba, c_sba, rfl, t_sba, hh⟩
         try replace a := a.below hh
         try replace b := b.below hh
         try replace c := c.below hh
         try replace sab := sab.below hh
         try replace sba := sba.below hh
         try replace mab := mab.below hh
         try replace mba := mba.below hh
         try replace sbc := sbc.below hh
         try replace m1 := m1.below hh
         try replace mac := mac.below hh
         try replace s2 := s2.below hh
         try replace mbc := mbc.below hh
         try replace p1 := p1.below hh
         try replace p2 := p2.below hh
         try replace g := g.below hh
         try replace x := x.below hh
         try replace y := y.below hh
         try replace g_x := g_x.below hh
         try replace g_y := g_y.below hh
         replace hb := bend hb hh
         have g_sba := t_sba
         have sba := t_sba.nr)
      | (go_at_call 26; (with_reducible refine (cmp_nr sab sba (by omega) (by omega)).mono ?_); rintro e w_2 ⟨rfl, hh⟩
         try replace a := a.below hh
         try replace b := b.below hh
         try replace c := c.below hh
         try replace sab := sab.below hh
         try replace sba := sba.below hh
         try replace mab := mab.below hh
         try replace mba := mba.below hh
         try replace sbc := sbc.below hh
         try replace m1 := m1.below hh
         try replace mac := mac.below hh
         try replace s2 := s2.below hh
         try replace mbc := mbc.below hh
         try replace p1 := p1.below hh
         try replace p2 := p2.below hh
         try replace g := g.below hh
         try replace x := x.below hh
         try replace y := y.below hh
         try replace g_x := g_x.below hh
         try replace g_y := g_y.below hh
         replace hb := bend hb hh
         rw [H1.out])
      | (go_at_call 24; (with_reducible refine (mul_nr 40 a b (by omega) (by omega) (by omega)).mono ?_); rintro e w_mab ⟨A_mab, n_mab, c_mab, rfl, t_mab, hh⟩
         try replace a := a.below hh
         try replace b := b.below hh
         try replace c := c.below hh
         try replace sab := sab.below hh
         try replace sba := sba.below hh
         try replace mab := mab.below hh
         try replace mba := mba.below hh
         try replace sbc := sbc.below hh
         try replace m1 := m1.below hh
         try replace mac := mac.below hh
         try replace s2 := s2.below hh
         try replace mbc := mbc.below hh
         try replace p1 := p1.below hh
         try replace p2 := p2.below hh
         try replace g := g.below hh
         try replace x := x.below hh
         try replace y := y.below hh
         try replace g_x := g_x.below hh
         try replace g_y := g_y.below hh
         replace hb := bend hb hh
         have g_mab := t_mab
         have mab := t_mab.nr)
      | (go_at_call 24; (with_reducible refine (mul_nr 40 b a (by omega) (by omega) (by omega)).mono ?_); rintro e w_mba ⟨A_mba, n_mba, c_mba, rfl, t_mba, hh⟩
         try replace a := a.below hh
         try replace b := b.below hh
         try replace c := c.below hh
         try replace sab := sab.below hh
         try replace sba := sba.below hh
         try replace mab := mab.below hh
         try replace mba := mba.below hh
         try replace sbc := sbc.below hh
         try replace m1 := m1.below hh
         try replace mac := mac.below hh
         try replace s2 := s2.below hh
         try replace mbc := mbc.below hh
         try replace p1 := p1.below hh
         try replace p2 := p2.below hh
         try replace g := g.below hh
         try replace x := x.below hh
         try replace y := y.below hh
         try replace g_x := g_x.below hh
         try replace g_y := g_y.below hh
         replace hb := bend hb hh
         have g_mba := t_mba
         have mba := t_mba.nr)
      | (go_at_call 26; (with_reducible refine (cmp_nr mab mba (by omega) (by omega)).mono ?_); rintro e w_5 ⟨rfl, hh⟩
         try replace a := a.below hh
         try replace b := b.below hh
         try replace c := c.below hh
         try replace sab := sab.below hh
         try replace sba := sba.below hh
         try replace mab := mab.below hh
         try replace mba := mba.below hh
         try replace sbc := sbc.below hh
         try replace m1 := m1.below hh
         try replace mac := mac.below hh
         try replace s2 := s2.below hh
         try replace mbc := mbc.below hh
         try replace p1 := p1.below hh
         try replace p2 := p2.below hh
         try replace g := g.below hh
         try replace x := x.below hh
         try replace y := y.below hh
         try replace g_x := g_x.below hh
         try replace g_y := g_y.below hh
         replace hb := bend hb hh
         rw [H2.out])
      | (go_at_call 22; (with_reducible refine (add_nr 21 b c (by omega) (by omega) (by omega)).mono ?_); rintro e w_sbc ⟨A_sbc, n_sbc, c_sbc, rfl, t_sbc, hh⟩
         try replace a := a.below hh
         try replace b := b.below hh
         try replace c := c.below hh
         try replace sab := sab.below hh
         try replace sba := sba.below hh
         try replace mab := mab.below hh
         try replace mba := mba.below hh
         try replace sbc := sbc.below hh
         try replace m1 := m1.below hh
         try replace mac := mac.below hh
         try replace s2 := s2.below hh
         try replace mbc := mbc.below hh
         try replace p1 := p1.below hh
         try replace p2 := p2.below hh
         try replace g := g.below hh
         try replace x := x.below hh
         try replace y := y.below hh
         try replace g_x := g_x.below hh
         try replace g_y := g_y.below hh
         replace hb := bend hb hh
         have g_sbc := t_sbc
         have sbc := t_sbc.nr)
      | (go_at_call 24; (with_reducible refine (mul_nr 41 a sbc (by omega) (by omega) (by omega)).mono ?_); rintro e w_m1 ⟨A_m1, n_m1, c_m1, rfl, t_m1, hh⟩
         try replace a := a.below hh
         try replace b := b.below hh
         try replace c := c.below hh
         try replace sab := sab.below hh
         try replace sba := sba.below hh
         try replace mab := mab.below hh
         try replace mba := mba.below hh
         try replace sbc := sbc.below hh
         try replace m1 := m1.below hh
         try replace mac := mac.below hh
         try replace s2 := s2.below hh
         try replace mbc := mbc.below hh
         try replace p1 := p1.below hh
         try replace p2 := p2.below hh
         try replace g := g.below hh
         try replace x := x.below hh
         try replace y := y.below hh
         try replace g_x := g_x.below hh
         try replace g_y := g_y.below hh
         replace hb := bend hb hh
         have g_m1 := t_m1
         have m1 := t_m1.nr)
      | (go_at_call 24; (with_reducible refine (mul_nr 40 a c (by omega) (by omega) (by omega)).mono ?_); rintro e w_mac ⟨A_mac, n_mac, c_mac, rfl, t_mac, hh⟩
         try replace a := a.below hh
         try replace b := b.below hh
         try replace c := c.below hh
         try replace sab := sab.below hh
         try replace sba := sba.below hh
         try replace mab := mab.below hh
         try replace mba := mba.below hh
         try replace sbc := sbc.below hh
         try replace m1 := m1.below hh
         try replace mac := mac.below hh
         try replace s2 := s2.below hh
         try replace mbc := mbc.below hh
         try replace p1 := p1.below hh
         try replace p2 := p2.below hh
         try replace g := g.below hh
         try replace x := x.below hh
         try replace y := y.below hh
         try replace g_x := g_x.below hh
         try replace g_y := g_y.below hh
         replace hb := bend hb hh
         have g_mac := t_mac
         have mac := t_mac.nr)
      | (go_at_call 22; (with_reducible refine (add_nr 41 mab mac (by omega) (by omega) (by omega)).mono ?_); rintro e w_s2 ⟨A_s2, n_s2, c_s2, rfl, t_s2, hh⟩
         try replace a := a.below hh
         try replace b := b.below hh
         try replace c := c.below hh
         try replace sab := sab.below hh
         try replace sba := sba.below hh
         try replace mab := mab.below hh
         try replace mba := mba.below hh
         try replace sbc := sbc.below hh
         try replace m1 := m1.below hh
         try replace mac := mac.below hh
         try replace s2 := s2.below hh
         try replace mbc := mbc.below hh
         try replace p1 := p1.below hh
         try replace p2 := p2.below hh
         try replace g := g.below hh
         try replace x := x.below hh
         try replace y := y.below hh
         try replace g_x := g_x.below hh
         try replace g_y := g_y.below hh
         replace hb := bend hb hh
         have g_s2 := t_s2
         have s2 := t_s2.nr)
      | (go_at_call 26; (with_reducible refine (cmp_nr m1 s2 (by omega) (by omega)).mono ?_); rintro e w_10 ⟨rfl, hh⟩
         try replace a := a.below hh
         try replace b := b.below hh
         try replace c := c.below hh
         try replace sab := sab.below hh
         try replace sba := sba.below hh
         try replace mab := mab.below hh
         try replace mba := mba.below hh
         try replace sbc := sbc.below hh
         try replace m1 := m1.below hh
         try replace mac := mac.below hh
         try replace s2 := s2.below hh
         try replace mbc := mbc.below hh
         try replace p1 := p1.below hh
         try replace p2 := p2.below hh
         try replace g := g.below hh
         try replace x := x.below hh
         try replace y := y.below hh
         try replace g_x := g_x.below hh
         try replace g_y := g_y.below hh
         replace hb := bend hb hh
         rw [H3.out])
      | (go_at_call 24; (with_reducible refine (mul_nr 40 b c (by omega) (by omega) (by omega)).mono ?_); rintro e w_mbc ⟨A_mbc, n_mbc, c_mbc, rfl, t_mbc, hh⟩
         try replace a := a.below hh
         try replace b := b.below hh
         try replace c := c.below hh
         try replace sab := sab.below hh
         try replace sba := sba.below hh
         try replace mab := mab.below hh
         try replace mba := mba.below hh
         try replace sbc := sbc.below hh
         try replace m1 := m1.below hh
         try replace mac := mac.below hh
         try replace s2 := s2.below hh
         try replace mbc := mbc.below hh
         try replace p1 := p1.below hh
         try replace p2 := p2.below hh
         try replace g := g.below hh
         try replace x := x.below hh
         try replace y := y.below hh
         try replace g_x := g_x.below hh
         try replace g_y := g_y.below hh
         replace hb := bend hb hh
         have g_mbc := t_mbc
         have mbc := t_mbc.nr)
      | (go_at_call 24; (with_reducible refine (mul_nr 60 a mbc (by omega) (by omega) (by omega)).mono ?_); rintro e w_p1 ⟨A_p1, n_p1, c_p1, rfl, t_p1, hh⟩
         try replace a := a.below hh
         try replace b := b.below hh
         try replace c := c.below hh
         try replace sab := sab.below hh
         try replace sba := sba.below hh
         try replace mab := mab.below hh
         try replace mba := mba.below hh
         try replace sbc := sbc.below hh
         try replace m1 := m1.below hh
         try replace mac := mac.below hh
         try replace s2 := s2.below hh
         try replace mbc := mbc.below hh
         try replace p1 := p1.below hh
         try replace p2 := p2.below hh
         try replace g := g.below hh
         try replace x := x.below hh
         try replace y := y.below hh
         try replace g_x := g_x.below hh
         try replace g_y := g_y.below hh
         replace hb := bend hb hh
         have g_p1 := t_p1
         have p1 := t_p1.nr)
      | (go_at_call 24; (with_reducible refine (mul_nr 60 mab c (by omega) (by omega) (by omega)).mono ?_); rintro e w_p2 ⟨A_p2, n_p2, c_p2, rfl, t_p2, hh⟩
         try replace a := a.below hh
         try replace b := b.below hh
         try replace c := c.below hh
         try replace sab := sab.below hh
         try replace sba := sba.below hh
         try replace mab := mab.below hh
         try replace mba := mba.below hh
         try replace sbc := sbc.below hh
         try replace m1 := m1.below hh
         try replace mac := mac.below hh
         try replace s2 := s2.below hh
         try replace mbc := mbc.below hh
         try replace p1 := p1.below hh
         try replace p2 := p2.below hh
         try replace g := g.below hh
         try replace x := x.below hh
         try replace y := y.below hh
         try replace g_x := g_x.below hh
         try replace g_y := g_y.below hh
         replace hb := bend hb hh
         have g_p2 := t_p2
         have p2 := t_p2.nr)
      | (go_at_call 26; (with_reducible refine (cmp_nr p1 p2 (by omega) (by omega)).mono ?_); rintro e w_14 ⟨rfl, hh⟩
         try replace a := a.below hh
         try replace b := b.below hh
         try replace c := c.below hh
         try replace sab := sab.below hh
         try replace sba := sba.below hh
         try replace mab := mab.below hh
         try replace mba := mba.below hh
         try replace sbc := sbc.below hh
         try replace m1 := m1.below hh
         try replace mac := mac.below hh
         try replace s2 := s2.below hh
         try replace mbc := mbc.below hh
         try replace p1 := p1.below hh
         try replace p2 := p2.below hh
         try replace g := g.below hh
         try replace x := x.below hh
         try replace y := y.below hh
         try replace g_x := g_x.below hh
         try replace g_y := g_y.below hh
         replace hb := bend hb hh
         rw [H4.out])
      | (go_at_call 31; (with_reducible refine (gcd_nr a b (by omega)).mono ?_); rintro e w_g ⟨A_g, n_g, c_g, rfl, t_g, hh⟩
         try replace a := a.below hh
         try replace b := b.below hh
         try replace c := c.below hh
         try replace sab := sab.below hh
         try replace sba := sba.below hh
         try replace mab := mab.below hh
         try replace mba := mba.below hh
         try replace sbc := sbc.below hh
         try replace m1 := m1.below hh
         try replace mac := mac.below hh
         try replace s2 := s2.below hh
         try replace mbc := mbc.below hh
         try replace p1 := p1.below hh
         try replace p2 := p2.below hh
         try replace g := g.below hh
         try replace x := x.below hh
         try replace y := y.below hh
         try replace g_x := g_x.below hh
         try replace g_y := g_y.below hh
         replace hb := bend hb hh
         have g := t_g.nr
         have hgp := t_g.pos HG.out
         have hgz : ((n_g : Int) == 0) = false := by (simp; omega))
      | (go_at_call 29; (with_reducible refine (dm_nr a g (by omega) (by omega) HG.out).mono ?_); rintro e w_x ⟨A_x, n_x, c_x, A_r, n_r, c_r, rfl, t_x, t_r, hh⟩
         try replace a := a.below hh
         try replace b := b.below hh
         try replace c := c.below hh
         try replace sab := sab.below hh
         try replace sba := sba.below hh
         try replace mab := mab.below hh
         try replace mba := mba.below hh
         try replace sbc := sbc.below hh
         try replace m1 := m1.below hh
         try replace mac := mac.below hh
         try replace s2 := s2.below hh
         try replace mbc := mbc.below hh
         try replace p1 := p1.below hh
         try replace p2 := p2.below hh
         try replace g := g.below hh
         try replace x := x.below hh
         try replace y := y.below hh
         try replace g_x := g_x.below hh
         try replace g_y := g_y.below hh
         replace hb := bend hb hh
         have x := t_x.nr
         obtain rfl : n_r = 0 := t_r.zero HR.out)
      | (go_at_call 29; (with_reducible refine (dm_nr b g (by omega) (by omega) HG.out).mono ?_); rintro e w_y ⟨A_y, n_y, c_y, A_s, n_s, c_s, rfl, t_y, t_s, hh⟩
         try replace a := a.below hh
         try replace b := b.below hh
         try replace c := c.below hh
         try replace sab := sab.below hh
         try replace sba := sba.below hh
         try replace mab := mab.below hh
         try replace mba := mba.below hh
         try replace sbc := sbc.below hh
         try replace m1 := m1.below hh
         try replace mac := mac.below hh
         try replace s2 := s2.below hh
         try replace mbc := mbc.below hh
         try replace p1 := p1.below hh
         try replace p2 := p2.below hh
         try replace g := g.below hh
         try replace x := x.below hh
         try replace y := y.below hh
         try replace g_x := g_x.below hh
         try replace g_y := g_y.below hh
         replace hb := bend hb hh
         have y := t_y.nr
         obtain rfl : n_s = 0 := t_s.zero HS.out)
      | (go_at_call 31; (with_reducible refine (gcd_nr x y (by omega)).mono ?_); rintro e w_z ⟨A_z, n_z, c_z, rfl, t_z, hh⟩
         try replace a := a.below hh
         try replace b := b.below hh
         try replace c := c.below hh
         try replace sab := sab.below hh
         try replace sba := sba.below hh
         try replace mab := mab.below hh
         try replace mba := mba.below hh
         try replace sbc := sbc.below hh
         try replace m1 := m1.below hh
         try replace mac := mac.below hh
         try replace s2 := s2.below hh
         try replace mbc := mbc.below hh
         try replace p1 := p1.below hh
         try replace p2 := p2.below hh
         try replace g := g.below hh
         try replace x := x.below hh
         try replace y := y.below hh
         try replace g_x := g_x.below hh
         try replace g_y := g_y.below hh
         replace hb := bend hb hh
         have z := t_z.nr)
      | (go_at_call 26; (with_reducible refine (cmp_nr (z.below ((Below.refl _ _).alloc (Nat.le_refl _) b1)) (lit1 w_z) (by omega) (by omega)).mono ?_); rintro e w_q ⟨rfl, hq⟩
         rw [H1G.out]
         replace hb := bend hb (((Below.refl w_z.heap.size w_z).alloc (Nat.le_refl _) b1).trans (hq.mono (by simp))))
      | (go_at_call 15; (with_reducible refine (wakes_any _).mono ?_); rintro e w_20 ⟨rfl, hh⟩
         try replace a := a.below hh
         try replace b := b.below hh
         try replace c := c.below hh
         try replace sab := sab.below hh
         try replace sba := sba.below hh
         try replace mab := mab.below hh
         try replace mba := mba.below hh
         try replace sbc := sbc.below hh
         try replace m1 := m1.below hh
         try replace mac := mac.below hh
         try replace s2 := s2.below hh
         try replace mbc := mbc.below hh
         try replace p1 := p1.below hh
         try replace p2 := p2.below hh
         try replace g := g.below hh
         try replace x := x.below hh
         try replace y := y.below hh
         try replace g_x := g_x.below hh
         try replace g_y := g_y.below hh
         replace hb := bend hb hh))
      go_ret
      exact ⟨rfl, hb⟩
  · by_cases hn : 20 < n
    · have hn1 : (20 : Int) < (n : Int) := by omega
      go_enter Try.func8, Try.ntmps8
      go_wp2_with (go_at_call 15; ((with_reducible refine (wakes_any _).mono ?_); rintro e w' ⟨rfl, h1⟩))
      go_ret
      exact ⟨rfl, h1⟩
    · by_cases hm : 20 < m
      · have hm1 : (20 : Int) < (m : Int) := by omega
        go_enter Try.func8, Try.ntmps8
        go_wp2_with (go_at_call 15; ((with_reducible refine (wakes_any _).mono ?_); rintro e w' ⟨rfl, h1⟩))
        go_ret
        exact ⟨rfl, h1⟩
      · have hp1 : (20 : Int) < (p : Int) := by omega
        go_enter Try.func8, Try.ntmps8
        go_wp2_with (go_at_call 15; ((with_reducible refine (wakes_any _).mono ?_); rintro e w' ⟨rfl, h1⟩))
        go_ret
        exact ⟨rfl, h1⟩
end Go.Proofs.Ytpnckmofmjefpaa
