/- The law NatBack: what is divided and multiplied again is as it was; shifts there and back; a number's digits; the root. -/
import Derived.Test.YtpnckmofmjefpaaRoot
import Derived.Test.YtpnckmofmjefpaaTextL
import Derived.Test.YtpnckmofmjefpaaLDiv
import Derived.Test.YtpnckmofmjefpaaLShift
import Derived.Test.YtpnckmofmjefpaaLLaws
namespace Go.Proofs.Ytpnckmofmjefpaa
open Go.RowKit

theorem dec_rev : ∀ (l : List Nat), (∀ x, x ∈ l → x < 10) → dec (l.reverse.map fun x => UInt8.ofNat (48 + x)) = val 10 l ∧ Digits (l.reverse.map fun x => UInt8.ofNat (48 + x)) := by
  intro l
  induction l with
  | nil => exact fun _ => ⟨rfl, fun c hc => by cases hc⟩
  | cons x l ih =>
    intro h
    have hx : x < 10 := h x (by simp)
    obtain ⟨h1, h2⟩ := ih (fun y hy => h y (by simp [hy]))
    have e : (UInt8.ofNat (48 + x)).toNat = 48 + x := by rw [UInt8.toNat_ofNat']; omega
    rw [List.reverse_cons, List.map_append]
    refine ⟨?_, fun c hc => ?_⟩
    · rw [show (List.map (fun x => UInt8.ofNat (48 + x)) [x]) = [UInt8.ofNat (48 + x)] from rfl, dec_snoc, h1, e, val_cons]; omega
    · rcases List.mem_append.1 hc with h3 | h3
      · exact h2 c h3
      · simp only [List.map_cons, List.map_nil, List.mem_singleton] at h3
        subst h3
        exact ⟨by rw [e]; omega, by rw [e]; omega⟩
theorem txt_dec (V : Nat) : dec (txt V) = V ∧ Digits (txt V) := by
  by_cases h : V = 0
  · subst h; exact ⟨rfl, fun c hc => by simp only [txt, if_pos, List.mem_singleton] at hc; subst hc; exact ⟨by decide, by decide⟩⟩
  · rw [txt, if_neg h]
    have := dec_rev (limbs 10 V) (lim_limbs (by decide) V)
    rw [val_limbs (by decide)] at this
    exact this
theorem txt_is (V : Nat) : isTextB (txt V) = true := by
  by_cases h : V = 0
  · subst h; rfl
  · have hd := (txt_dec V).2
    have hne : limbs 10 V ≠ [] := fun e => h ((limbs_eq_nil (by decide)).1 e)
    have hl := limbs_last (B := 10) (by decide) V
    rw [txt, if_neg h] at hd ⊢
    refine isTextB_true (by simpa using hne) (.inl ?_) hd
    rw [List.head?_map, List.head?_reverse]
    cases hx : (limbs 10 V).getLast? with
    | none => exact absurd (List.getLast?_eq_none_iff.1 hx) hne
    | some x =>
      rw [hx] at hl
      have hx10 : x < 10 := lim_limbs (B := 10) (by decide) V x (List.mem_of_getLast? hx)
      intro e
      simp only [Option.map_some, Option.some.injEq] at e
      have e2 : (UInt8.ofNat (48 + x)).toNat = 48 := by rw [e]; rfl
      rw [UInt8.toNat_ofNat'] at e2
      exact hl (by rw [show x = 0 by omega])
theorem txt_len {V k : Nat} (hV : V < B64 ^ k) (hk : k ≤ 900) : (txt V).length ≤ 20000 := by
  by_cases h : V = 0
  · subst h; exact (by decide : 1 ≤ 20000)
  · rw [txt, if_neg h, List.length_map, List.length_reverse]
    have h1 := @length_limbs10 V
    have h2 : bl V ≤ 64 * k := bl_le (by rw [← pow64]; exact hV)
    omega
theorem text_nr {w : World} {A : Option Addr} {n c V : Nat} (X : NR w A n c V 78) :
    Calls Try.prog 45 #[.slice A n c] w fun e w' => e = .returned (.string ⟨(txt V).toArray⟩) ∧ Below w.heap.size w w' := by
  obtain ⟨la, a1, a2, rfl, a4, a5⟩ := X
  exact text_any la A n c w a1 a2 a5 a4
theorem parse_txt (k : Nat) (w : World) {V : Nat} (hV : V < B64 ^ k) (hk : k ≤ 900 := by omega) :
    Calls Try.prog 43 #[.string ⟨(txt V).toArray⟩] w fun e w' => ∃ A n c, e = .returned (.tuple #[.slice A n c, .int .i64 0]) ∧ NG w' A n c V k ∧ Below w.heap.size w w' := by
  have h := parse_ok ⟨(txt V).toArray⟩ w (by show (txt V).toArray.size ≤ 20000; rw [List.size_toArray]; exact txt_len hV hk) (txt_is V)
  refine h.mono fun e w' g => ?_
  have e1 : dec (⟨(txt V).toArray⟩ : ByteArray).data.toList = V := (txt_dec V).1
  rw [e1] at g
  exact g.ng hV
theorem NG.tight {w : World} {A : Option Addr} {n c V k k1 : Nat} (h : NG w A n c V k) (hV : V < B64 ^ k1) : NG w A n c V k1 :=
  ⟨h.1, h.2.1, by rw [← h.1.1]; exact length_limbs_le B64_two hV⟩
theorem root_lt {U R : Nat} (hU : U < B64 ^ 40) (h : IsRoot U R) : R < B64 ^ 20 := by
  refine Nat.not_le.1 fun h2 => ?_
  have h3 := Nat.mul_le_mul h2 h2
  rw [← Nat.pow_add] at h3
  have h4 := h.1
  have h5 : B64 ^ 40 ≤ R * R := h3
  omega
theorem cmpN_le {a b : Nat} (h : a ≤ b) : cmpN a b ≤ 0 := by
  unfold cmpN
  split
  · decide
  · rw [if_neg (by omega)]; decide
theorem shl_fit {V k : Nat} (hV : V < B64 ^ 40) (hk : k ≤ 3000) : V * 2 ^ k < B64 ^ 88 := by
  have h0 : ∀ q, k ≤ 64 * q → 2 ^ k ≤ B64 ^ q := fun q hq => by rw [pow64]; exact Nat.pow_le_pow_right (by decide) hq
  have h1 := h0 48 (by omega)
  rw [show B64 ^ 88 = B64 ^ 40 * B64 ^ 48 by rw [← Nat.pow_add]]
  exact Nat.lt_of_le_of_lt (Nat.mul_le_mul_left _ h1) (Nat.mul_lt_mul_of_pos_right hV (Nat.pow_pos (by decide)))

set_option maxRecDepth 100000 in
set_option maxHeartbeats 4000000 in
theorem back_zero (k : Nat) (hk : k < 3000) (A B : Option Addr) (n c' m d U V : Nat) (w : World) (a : NR w A n c' U 40) (b : NR w B m d V 40) (hn : n ≤ 40) (hm : m ≤ 40) (ki : Int) (hki : ki % 3000 = (k : Int)) (hk0 : 0 ≤ ki) (hk1 : ki ≤ 65535) (hV : V = 0) :
    Calls Try.prog 7 #[.slice A n c', .slice B m d, .int .u16 ki] w fun e w' => e = .returned (.bool true) ∧ Below w.heap.size w w' := by
  have hb : Below w.heap.size w w := Below.refl _ _
  have HF : Hid (U * 2 ^ k < B64 ^ 88) := shl_fit a.lt (by omega)
  have HU := Lib.hid a.lt
  have HV := Lib.hid hV
  have H3 : Hid (cmpN (U * 2 ^ k / 2 ^ k) U = 0) := cmpN_eq (Nat.mul_div_cancel _ (Nat.two_pow_pos k))
  have H4 : Hid (cmpN U U = 0) := cmpN_eq rfl
  have hk2 : k ≤ 1048576 := by omega
  clear hV
  go_enter Try.func7, Try.ntmps7
  go_wp2_with (first
      | (go_at_call 29; (with_reducible refine (dmz_nr a b (by omega) (by omega) HV.out).mono ?_); rintro e w_q ⟨rfl, hh⟩
         try replace a := a.below hh
         try replace b := b.below hh
         try replace q := q.below hh
         try replace r := r.below hh
         try replace qb := qb.below hh
         try replace sm := sm.below hh
         try replace l := l.below hh
         try replace s := s.below hh
         try replace p := p.below hh
         try replace t := t.below hh
         try replace gs := gs.below hh
         try replace rr := rr.below hh
         replace hb := bend hb hh)
      | (go_at_call 33; (with_reducible refine (shl_nr k 88 a (by omega) hk2 HF.out).mono ?_); rintro e w_l ⟨A_l, n_l, c_l, rfl, t_l, hh⟩
         try replace a := a.below hh
         try replace b := b.below hh
         try replace q := q.below hh
         try replace r := r.below hh
         try replace qb := qb.below hh
         try replace sm := sm.below hh
         try replace s := s.below hh
         try replace p := p.below hh
         try replace t := t.below hh
         try replace gs := gs.below hh
         try replace rr := rr.below hh
         replace hb := bend hb hh
         have l := t_l.nr)
      | (go_at_call 34; (with_reducible refine (shr_nr k l (by omega) hk2).mono ?_); rintro e w_s ⟨A_s, n_s, c_s, rfl, t_s, hh⟩
         try replace a := a.below hh
         try replace b := b.below hh
         try replace q := q.below hh
         try replace r := r.below hh
         try replace qb := qb.below hh
         try replace sm := sm.below hh
         try replace l := l.below hh
         try replace p := p.below hh
         try replace t := t.below hh
         try replace gs := gs.below hh
         try replace rr := rr.below hh
         replace hb := bend hb hh
         have s := t_s.nr)
      | (go_at_call 45; (with_reducible refine (text_nr (a.more (show 40 ≤ 78 by omega))).mono ?_); rintro e w_x ⟨rfl, hh⟩
         try replace a := a.below hh
         try replace b := b.below hh
         try replace q := q.below hh
         try replace r := r.below hh
         try replace qb := qb.below hh
         try replace sm := sm.below hh
         try replace l := l.below hh
         try replace s := s.below hh
         try replace p := p.below hh
         try replace t := t.below hh
         try replace gs := gs.below hh
         try replace rr := rr.below hh
         replace hb := bend hb hh)
      | (go_at_call 43; (with_reducible refine (parse_txt 40 _ HU.out).mono ?_); rintro e w_p ⟨A_p, n_p, c_p, rfl, t_p, hh⟩
         try replace a := a.below hh
         try replace b := b.below hh
         try replace q := q.below hh
         try replace r := r.below hh
         try replace qb := qb.below hh
         try replace sm := sm.below hh
         try replace l := l.below hh
         try replace s := s.below hh
         try replace t := t.below hh
         try replace gs := gs.below hh
         try replace rr := rr.below hh
         replace hb := bend hb hh
         have p := t_p.nr)
      | (go_at_call 39; (with_reducible refine (sqrt_nr (a.more (show 40 ≤ 78 by omega))).mono ?_); rintro e w_t ⟨R, hr, A_t, n_t, c_t, rfl, t_t, hh⟩
         try replace a := a.below hh
         try replace b := b.below hh
         try replace q := q.below hh
         try replace r := r.below hh
         try replace qb := qb.below hh
         try replace sm := sm.below hh
         try replace l := l.below hh
         try replace s := s.below hh
         try replace p := p.below hh
         try replace gs := gs.below hh
         try replace rr := rr.below hh
         replace hb := bend hb hh
         have t := (t_t.tight (root_lt HU.out hr)).nr
         obtain ⟨K5, hK5, hK50⟩ : ∃ K, cmpN (R * R) U = K ∧ K ≤ 0 := ⟨_, rfl, cmpN_le hr.1⟩
         have H5 := Lib.hid hK5
         have H6 : Hid (cmpN ((R + 1) * (R + 1)) U = 1) := cmpN_gt hr.2
         clear hK5 hr)
      | (go_at_call 22; (with_reducible refine (add_nr 21 (t.below ((Below.refl _ _).alloc (Nat.le_refl _) b1)) (lit1 w_t) (by omega) (by omega) (by omega)).mono ?_); rintro e w_g ⟨A_g, n_g, c_g, rfl, t_g, h0⟩
         have hh : Below w_t.heap.size w_t w_g := ((Below.refl w_t.heap.size w_t).alloc (Nat.le_refl _) b1).trans (h0.mono (by simp))
         try replace a := a.below hh
         try replace b := b.below hh
         try replace q := q.below hh
         try replace r := r.below hh
         try replace qb := qb.below hh
         try replace sm := sm.below hh
         try replace l := l.below hh
         try replace s := s.below hh
         try replace p := p.below hh
         try replace t := t.below hh
         try replace rr := rr.below hh
         replace hb := bend hb hh
         have gs := t_g.nr)
      | (go_at_call 26; (with_reducible refine (cmp_nr s a (by omega) (by omega)).mono ?_); rintro e w_7 ⟨rfl, hh⟩
         try replace a := a.below hh
         try replace b := b.below hh
         try replace q := q.below hh
         try replace r := r.below hh
         try replace qb := qb.below hh
         try replace sm := sm.below hh
         try replace l := l.below hh
         try replace s := s.below hh
         try replace p := p.below hh
         try replace t := t.below hh
         try replace gs := gs.below hh
         try replace rr := rr.below hh
         replace hb := bend hb hh
         rw [H3.out])
      | (go_at_call 26; (with_reducible refine (cmp_nr p a (by omega) (by omega)).mono ?_); rintro e w_8 ⟨rfl, hh⟩
         try replace a := a.below hh
         try replace b := b.below hh
         try replace q := q.below hh
         try replace r := r.below hh
         try replace qb := qb.below hh
         try replace sm := sm.below hh
         try replace l := l.below hh
         try replace s := s.below hh
         try replace p := p.below hh
         try replace t := t.below hh
         try replace gs := gs.below hh
         try replace rr := rr.below hh
         replace hb := bend hb hh
         rw [H4.out])
      | (go_at_call 24; (with_reducible refine (mul_nr 40 t t (by omega) (by omega) (by omega)).mono ?_); rintro e w_rr ⟨A_rr, n_rr, c_rr, rfl, t_rr, hh⟩
         try replace a := a.below hh
         try replace b := b.below hh
         try replace q := q.below hh
         try replace r := r.below hh
         try replace qb := qb.below hh
         try replace sm := sm.below hh
         try replace l := l.below hh
         try replace s := s.below hh
         try replace p := p.below hh
         try replace t := t.below hh
         try replace gs := gs.below hh
         replace hb := bend hb hh
         have rr := t_rr.nr)
      | (go_at_call 26; (with_reducible refine (cmp_nr rr a (by omega) (by omega)).mono ?_); rintro e w_10 ⟨rfl, hh⟩
         try replace a := a.below hh
         try replace b := b.below hh
         try replace q := q.below hh
         try replace r := r.below hh
         try replace qb := qb.below hh
         try replace sm := sm.below hh
         try replace l := l.below hh
         try replace s := s.below hh
         try replace p := p.below hh
         try replace t := t.below hh
         try replace gs := gs.below hh
         try replace rr := rr.below hh
         replace hb := bend hb hh
         rw [H5.out])
      | (go_at_call 24; (with_reducible refine (mul_nr 42 gs gs (by omega) (by omega) (by omega)).mono ?_); rintro e w_rr ⟨A_rr, n_rr, c_rr, rfl, t_rr, hh⟩
         try replace a := a.below hh
         try replace b := b.below hh
         try replace q := q.below hh
         try replace r := r.below hh
         try replace qb := qb.below hh
         try replace sm := sm.below hh
         try replace l := l.below hh
         try replace s := s.below hh
         try replace p := p.below hh
         try replace t := t.below hh
         try replace gs := gs.below hh
         replace hb := bend hb hh
         have rr := t_rr.nr)
      | (go_at_call 26; (with_reducible refine (cmp_nr rr a (by omega) (by omega)).mono ?_); rintro e w_12 ⟨rfl, hh⟩
         try replace a := a.below hh
         try replace b := b.below hh
         try replace q := q.below hh
         try replace r := r.below hh
         try replace qb := qb.below hh
         try replace sm := sm.below hh
         try replace l := l.below hh
         try replace s := s.below hh
         try replace p := p.below hh
         try replace t := t.below hh
         try replace gs := gs.below hh
         try replace rr := rr.below hh
         replace hb := bend hb hh
         rw [H6.out])
      | (go_at_call 15; (with_reducible refine (wakes_any _).mono ?_); rintro e w_z ⟨rfl, hh⟩
         replace hb := bend hb hh))
  go_ret
  exact ⟨rfl, hb⟩

set_option maxRecDepth 100000 in
set_option maxHeartbeats 4000000 in
theorem back_div (k : Nat) (hk : k < 3000) (A B : Option Addr) (n c' m d U V : Nat) (w : World) (a : NR w A n c' U 40) (b : NR w B m d V 40) (hn : n ≤ 40) (hm : m ≤ 40) (ki : Int) (hki : ki % 3000 = (k : Int)) (hk0 : 0 ≤ ki) (hk1 : ki ≤ 65535) (hV : V ≠ 0) :
    Calls Try.prog 7 #[.slice A n c', .slice B m d, .int .u16 ki] w fun e w' => e = .returned (.bool true) ∧ Below w.heap.size w w' := by
  have hb : Below w.heap.size w w := Below.refl _ _
  have HF : Hid (U * 2 ^ k < B64 ^ 88) := shl_fit a.lt (by omega)
  have HU := Lib.hid a.lt
  have HV := Lib.hid hV
  have H3 : Hid (cmpN (U * 2 ^ k / 2 ^ k) U = 0) := cmpN_eq (Nat.mul_div_cancel _ (Nat.two_pow_pos k))
  have H4 : Hid (cmpN U U = 0) := cmpN_eq rfl
  have H1 : Hid (cmpN (U / V * V + U % V) U = 0) := cmpN_eq (by rw [Nat.mul_comm]; exact Nat.div_add_mod U V)
  have H2 : Hid (cmpN (U % V) V = -1) := cmpN_lt (Nat.mod_lt _ (Nat.pos_of_ne_zero hV))
  have hk2 : k ≤ 1048576 := by omega
  clear hV
  go_enter Try.func7, Try.ntmps7
  go_wp2_with (first
      | (go_at_call 29; (with_reducible refine (dm_nr a b (by omega) (by omega) HV.out).mono ?_); rintro e w_q ⟨A_q, n_q, c_q, A_r, n_r, c_r, rfl, t_q, t_r, hh⟩
         try replace a := a.below hh
         try replace b := b.below hh
         try replace qb := qb.below hh
         try replace sm := sm.below hh
         try replace l := l.below hh
         try replace s := s.below hh
         try replace p := p.below hh
         try replace t := t.below hh
         try replace gs := gs.below hh
         try replace rr := rr.below hh
         replace hb := bend hb hh
         have q := t_q.nr
         have r := t_r.nr)
      | (go_at_call 24; (with_reducible refine (mul_nr 80 q b (by omega) (by omega) (by omega)).mono ?_); rintro e w_qb ⟨A_qb, n_qb, c_qb, rfl, t_qb, hh⟩
         try replace a := a.below hh
         try replace b := b.below hh
         try replace q := q.below hh
         try replace r := r.below hh
         try replace sm := sm.below hh
         try replace l := l.below hh
         try replace s := s.below hh
         try replace p := p.below hh
         try replace t := t.below hh
         try replace gs := gs.below hh
         try replace rr := rr.below hh
         replace hb := bend hb hh
         have qb := t_qb.nr)
      | (go_at_call 22; (with_reducible refine (add_nr 81 qb r (by omega) (by omega) (by omega)).mono ?_); rintro e w_sm ⟨A_sm, n_sm, c_sm, rfl, t_sm, hh⟩
         try replace a := a.below hh
         try replace b := b.below hh
         try replace q := q.below hh
         try replace r := r.below hh
         try replace qb := qb.below hh
         try replace l := l.below hh
         try replace s := s.below hh
         try replace p := p.below hh
         try replace t := t.below hh
         try replace gs := gs.below hh
         try replace rr := rr.below hh
         replace hb := bend hb hh
         have sm := t_sm.nr)
      | (go_at_call 26; (with_reducible refine (cmp_nr sm a (by omega) (by omega)).mono ?_); rintro e w_3 ⟨rfl, hh⟩
         try replace a := a.below hh
         try replace b := b.below hh
         try replace q := q.below hh
         try replace r := r.below hh
         try replace qb := qb.below hh
         try replace sm := sm.below hh
         try replace l := l.below hh
         try replace s := s.below hh
         try replace p := p.below hh
         try replace t := t.below hh
         try replace gs := gs.below hh
         try replace rr := rr.below hh
         replace hb := bend hb hh
         rw [H1.out])
      | (go_at_call 26; (with_reducible refine (cmp_nr r b (by omega) (by omega)).mono ?_); rintro e w_4 ⟨rfl, hh⟩
         try replace a := a.below hh
         try replace b := b.below hh
         try replace q := q.below hh
         try replace r := r.below hh
         try replace qb := qb.below hh
         try replace sm := sm.below hh
         try replace l := l.below hh
         try replace s := s.below hh
         try replace p := p.below hh
         try replace t := t.below hh
         try replace gs := gs.below hh
         try replace rr := rr.below hh
         replace hb := bend hb hh
         rw [H2.out])
      | (go_at_call 33; (with_reducible refine (shl_nr k 88 a (by omega) hk2 HF.out).mono ?_); rintro e w_l ⟨A_l, n_l, c_l, rfl, t_l, hh⟩
         try replace a := a.below hh
         try replace b := b.below hh
         try replace q := q.below hh
         try replace r := r.below hh
         try replace qb := qb.below hh
         try replace sm := sm.below hh
         try replace s := s.below hh
         try replace p := p.below hh
         try replace t := t.below hh
         try replace gs := gs.below hh
         try replace rr := rr.below hh
         replace hb := bend hb hh
         have l := t_l.nr)
      | (go_at_call 34; (with_reducible refine (shr_nr k l (by omega) hk2).mono ?_); rintro e w_s ⟨A_s, n_s, c_s, rfl, t_s, hh⟩
         try replace a := a.below hh
         try replace b := b.below hh
         try replace q := q.below hh
         try replace r := r.below hh
         try replace qb := qb.below hh
         try replace sm := sm.below hh
         try replace l := l.below hh
         try replace p := p.below hh
         try replace t := t.below hh
         try replace gs := gs.below hh
         try replace rr := rr.below hh
         replace hb := bend hb hh
         have s := t_s.nr)
      | (go_at_call 45; (with_reducible refine (text_nr (a.more (show 40 ≤ 78 by omega))).mono ?_); rintro e w_x ⟨rfl, hh⟩
         try replace a := a.below hh
         try replace b := b.below hh
         try replace q := q.below hh
         try replace r := r.below hh
         try replace qb := qb.below hh
         try replace sm := sm.below hh
         try replace l := l.below hh
         try replace s := s.below hh
         try replace p := p.below hh
         try replace t := t.below hh
         try replace gs := gs.below hh
         try replace rr := rr.below hh
         replace hb := bend hb hh)
      | (go_at_call 43; (with_reducible refine (parse_txt 40 _ HU.out).mono ?_); rintro e w_p ⟨A_p, n_p, c_p, rfl, t_p, hh⟩
         try replace a := a.below hh
         try replace b := b.below hh
         try replace q := q.below hh
         try replace r := r.below hh
         try replace qb := qb.below hh
         try replace sm := sm.below hh
         try replace l := l.below hh
         try replace s := s.below hh
         try replace t := t.below hh
         try replace gs := gs.below hh
         try replace rr := rr.below hh
         replace hb := bend hb hh
         have p := t_p.nr)
      | (go_at_call 39; (with_reducible refine (sqrt_nr (a.more (show 40 ≤ 78 by omega))).mono ?_); rintro e w_t ⟨R, hr, A_t, n_t, c_t, rfl, t_t, hh⟩
         try replace a := a.below hh
         try replace b := b.below hh
         try replace q := q.below hh
         try replace r := r.below hh
         try replace qb := qb.below hh
         try replace sm := sm.below hh
         try replace l := l.below hh
         try replace s := s.below hh
         try replace p := p.below hh
         try replace gs := gs.below hh
         try replace rr := rr.below hh
         replace hb := bend hb hh
         have t := (t_t.tight (root_lt HU.out hr)).nr
         obtain ⟨K5, hK5, hK50⟩ : ∃ K, cmpN (R * R) U = K ∧ K ≤ 0 := ⟨_, rfl, cmpN_le hr.1⟩
         have H5 := Lib.hid hK5
         have H6 : Hid (cmpN ((R + 1) * (R + 1)) U = 1) := cmpN_gt hr.2
         clear hK5 hr)
      | (go_at_call 22; (with_reducible refine (add_nr 21 (t.below ((Below.refl _ _).alloc (Nat.le_refl _) b1)) (lit1 w_t) (by omega) (by omega) (by omega)).mono ?_); rintro e w_g ⟨A_g, n_g, c_g, rfl, t_g, h0⟩
         have hh : Below w_t.heap.size w_t w_g := ((Below.refl w_t.heap.size w_t).alloc (Nat.le_refl _) b1).trans (h0.mono (by simp))
         try replace a := a.below hh
         try replace b := b.below hh
         try replace q := q.below hh
         try replace r := r.below hh
         try replace qb := qb.below hh
         try replace sm := sm.below hh
         try replace l := l.below hh
         try replace s := s.below hh
         try replace p := p.below hh
         try replace t := t.below hh
         try replace rr := rr.below hh
         replace hb := bend hb hh
         have gs := t_g.nr)
      | (go_at_call 26; (with_reducible refine (cmp_nr s a (by omega) (by omega)).mono ?_); rintro e w_11 ⟨rfl, hh⟩
         try replace a := a.below hh
         try replace b := b.below hh
         try replace q := q.below hh
         try replace r := r.below hh
         try replace qb := qb.below hh
         try replace sm := sm.below hh
         try replace l := l.below hh
         try replace s := s.below hh
         try replace p := p.below hh
         try replace t := t.below hh
         try replace gs := gs.below hh
         try replace rr := rr.below hh
         replace hb := bend hb hh
         rw [H3.out])
      | (go_at_call 26; (with_reducible refine (cmp_nr p a (by omega) (by omega)).mono ?_); rintro e w_12 ⟨rfl, hh⟩
         try replace a := a.below hh
         try replace b := b.below hh
         try replace q := q.below hh
         try replace r := r.below hh
         try replace qb := qb.below hh
         try replace sm := sm.below hh
         try replace l := l.below hh
         try replace s := s.below hh
         try replace p := p.below hh
         try replace t := t.below hh
         try replace gs := gs.below hh
         try replace rr := rr.below hh
         replace hb := bend hb hh
         rw [H4.out])
      | (go_at_call 24; (with_reducible refine (mul_nr 40 t t (by omega) (by omega) (by omega)).mono ?_); rintro e w_rr ⟨A_rr, n_rr, c_rr, rfl, t_rr, hh⟩
         try replace a := a.below hh
         try replace b := b.below hh
         try replace q := q.below hh
         try replace r := r.below hh
         try replace qb := qb.below hh
         try replace sm := sm.below hh
         try replace l := l.below hh
         try replace s := s.below hh
         try replace p := p.below hh
         try replace t := t.below hh
         try replace gs := gs.below hh
         replace hb := bend hb hh
         have rr := t_rr.nr)
      | (go_at_call 26; (with_reducible refine (cmp_nr rr a (by omega) (by omega)).mono ?_); rintro e w_14 ⟨rfl, hh⟩
         try replace a := a.below hh
         try replace b := b.below hh
         try replace q := q.below hh
         try replace r := r.below hh
         try replace qb := qb.below hh
         try replace sm := sm.below hh
         try replace l := l.below hh
         try replace s := s.below hh
         try replace p := p.below hh
         try replace t := t.below hh
         try replace gs := gs.below hh
         try replace rr := rr.below hh
         replace hb := bend hb hh
         rw [H5.out])
      | (go_at_call 24; (with_reducible refine (mul_nr 42 gs gs (by omega) (by omega) (by omega)).mono ?_); rintro e w_rr ⟨A_rr, n_rr, c_rr, rfl, t_rr, hh⟩
         try replace a := a.below hh
         try replace b := b.below hh
         try replace q := q.below hh
         try replace r := r.below hh
         try replace qb := qb.below hh
         try replace sm := sm.below hh
         try replace l := l.below hh
         try replace s := s.below hh
         try replace p := p.below hh
         try replace t := t.below hh
         try replace gs := gs.below hh
         replace hb := bend hb hh
         have rr := t_rr.nr)
      | (go_at_call 26; (with_reducible refine (cmp_nr rr a (by omega) (by omega)).mono ?_); rintro e w_16 ⟨rfl, hh⟩
         try replace a := a.below hh
         try replace b := b.below hh
         try replace q := q.below hh
         try replace r := r.below hh
         try replace qb := qb.below hh
         try replace sm := sm.below hh
         try replace l := l.below hh
         try replace s := s.below hh
         try replace p := p.below hh
         try replace t := t.below hh
         try replace gs := gs.below hh
         try replace rr := rr.below hh
         replace hb := bend hb hh
         rw [H6.out])
      | (go_at_call 15; (with_reducible refine (wakes_any _).mono ?_); rintro e w_z ⟨rfl, hh⟩
         replace hb := bend hb hh))
  go_ret
  exact ⟨rfl, hb⟩

set_option maxRecDepth 100000 in
theorem law_back (ki : Int) (la lb : List Nat) (A B : Option Addr) (n c' m d : Nat) (w : World) (ha : Rd .u64 w A n la) (hb0 : Rd .u64 w B m lb) (La : Lim B64 la) (Lb : Lim B64 lb) (hnc : n ≤ c') (hmd : m ≤ d) (hk0 : 0 ≤ ki) (hk1 : ki ≤ 65535) :
    Calls Try.prog 7 #[.slice A n c', .slice B m d, .int .u16 ki] w fun e w' => e = .returned (.bool true) ∧ Below w.heap.size w w' := by
  by_cases h40 : n ≤ 40 ∧ m ≤ 40
  · obtain ⟨h1, h2⟩ := h40
    have a : NR w A n c' (val B64 la) 40 := ⟨la, ha, La, rfl, hnc, h1⟩
    have b : NR w B m d (val B64 lb) 40 := ⟨lb, hb0, Lb, rfl, hmd, h2⟩
    have hki : ki % 3000 = ((ki % 3000).toNat : Int) := by omega
    by_cases hV : val B64 lb = 0
    · exact back_zero _ (by omega) A B n c' m d _ _ w a b h1 h2 ki hki hk0 hk1 hV
    · exact back_div _ (by omega) A B n c' m d _ _ w a b h1 h2 ki hki hk0 hk1 hV
  · by_cases hn : 40 < n
    · have hn1 : (40 : Int) < (n : Int) := by omega
      go_enter Try.func7, Try.ntmps7
      go_wp2_with (go_at_call 15; ((with_reducible refine (wakes_any _).mono ?_); rintro e w' ⟨rfl, h1⟩))
      go_ret
      exact ⟨rfl, h1⟩
    · have hn1 : ¬ (40 : Int) < (n : Int) := by omega
      have hm1 : (40 : Int) < (m : Int) := by omega
      go_enter Try.func7, Try.ntmps7
      go_wp2_with (go_at_call 15; ((with_reducible refine (wakes_any _).mono ?_); rintro e w' ⟨rfl, h1⟩))
      go_ret
      exact ⟨rfl, h1⟩
end Go.Proofs.Ytpnckmofmjefpaa
