/- The law RootExact: the root of a square is what was squared, without its sign; a fraction that has a root has it between all its brackets. -/
import Derived.Test.YtmcijgnbdnpanaaRootW
import Derived.Test.YtmcijgnbdnpanaaSmallM
import Derived.Test.YtmcijgnbdnpanaaRatL
namespace Go.Proofs.Ytmcijgnbdnpanaa
open Go Go.RowKit

set_option maxRecDepth 100000 in
set_option maxHeartbeats 4000000 in
theorem exact_large {w : World} {s : Bool} {A A' : Option Addr} {n c n' c' : Nat} (k : Nat) (hl : decide (n ≤ 8 ∧ n' ≤ 8) = false) :
    Calls Try.prog 3 #[.agg #[.bool s, .slice A n c, .slice A' n' c'], .int .u8 (k : Int)] w fun e w' => e = .returned (.bool true) ∧ Below w.heap.size w w' := by
  have HL := Lib.hid hl
  clear hl
  go_enter Try.func3, Try.ntmps3
  go_wp2_with fail
  generalize hW : (w.alloc (Obj.cells #[Value.bool s, Value.slice A n c, Value.slice A' n' c'] 26)) = W
  have hb : Below w.heap.size w W := by subst hW; exact ((Below.refl _ _).alloc (Nat.le_refl _) _)
  have XA : B3 W (w.heap.size) (Value.bool s) (Value.slice A n c) (Value.slice A' n' c') := by subst hW; exact B3.new' _ _ _ _ _ rfl
  have hzW : W.heap.size = w.heap.size + 1 := by subst hW; simp
  clear hW
  have xa0 := XA.c0
  have xa1 := XA.c1
  have xa2 := XA.c2
  go_wp2_with (first
      | (go_at_call 7; (with_reducible refine (small_8 _ false HL.out).mono ?_); rintro e w_z ⟨rfl, hh⟩
         try replace a := a.below hh
         try replace m := m.below hh
         try replace q := q.below hh
         try replace ab := ab.below hh
         try replace l := l.below hh
         try replace h := h.below hh
         try replace XA := XA.below hh
         try replace XQ := XQ.below hh
         try replace XL := XL.below hh
         try replace XH := XH.below hh
         replace hb := bend hb hh
         have xa0 := XA.c0
         have xa1 := XA.c1
         have xa2 := XA.c2)
      | (go_at_call 8; (with_reducible refine (rwakes_any _).mono ?_); rintro e w_z ⟨rfl, hh⟩
         try replace a := a.below hh
         try replace m := m.below hh
         try replace q := q.below hh
         try replace ab := ab.below hh
         try replace l := l.below hh
         try replace h := h.below hh
         try replace XA := XA.below hh
         try replace XQ := XQ.below hh
         try replace XL := XL.below hh
         try replace XH := XH.below hh
         replace hb := bend hb hh))
  go_ret
  exact ⟨rfl, hb⟩

set_option maxRecDepth 100000 in
set_option maxHeartbeats 8000000 in
theorem exact_small {w : World} {s : Bool} {A A' : Option Addr} {n c n' c' : Nat} {va : Rat} (k g : Nat) (a : QR w s A n c A' n' c' va 8) (hk : k ≤ 255) (hl : decide (n ≤ 8 ∧ n' ≤ 8) = true) (hg : k % 100 = g) :
    Calls Try.prog 3 #[.agg #[.bool s, .slice A n c, .slice A' n' c'], .int .u8 (k : Int)] w fun e w' => e = .returned (.bool true) ∧ Below w.heap.size w w' := by
  have HL := Lib.hid hl
  have hgI : (k : Int) % 100 = (g : Int) := by omega
  have hg400 : g ≤ 400 := by omega
  have HGI := Lib.hid hgI
  have H4 := Lib.hid hg400
  have HV : Hid (0 ≤ va * va) := sq_nn va
  have HU : Hid (0 ≤ va.abs) := abs_ge va
  have HE : Hid (va * va = va.abs * va.abs) := (abs_sq va).symm
  have HC : Hid (cmpQ va.abs va.abs = 0) := cmpQ_self _
  clear hl hgI hg400 hg
  go_enter Try.func3, Try.ntmps3
  go_wp2_with fail
  generalize hW : (w.alloc (Obj.cells #[Value.bool s, Value.slice A n c, Value.slice A' n' c'] 26)) = W
  have hb : Below w.heap.size w W := by subst hW; exact ((Below.refl _ _).alloc (Nat.le_refl _) _)
  have XA : B3 W (w.heap.size) (Value.bool s) (Value.slice A n c) (Value.slice A' n' c') := by subst hW; exact B3.new' _ _ _ _ _ rfl
  have hzW : W.heap.size = w.heap.size + 1 := by subst hW; simp
  clear hW
  replace a := a.below hb
  have xa0 := XA.c0
  have xa1 := XA.c1
  have xa2 := XA.c2
  go_upto_region 4 with (first
      | (go_at_call 7; (with_reducible refine (small_8 _ true HL.out).mono ?_); rintro e w_z ⟨rfl, hh⟩
         try replace a := a.below hh
         try replace m := m.below hh
         try replace q := q.below hh
         try replace ab := ab.below hh
         try replace l := l.below hh
         try replace h := h.below hh
         try replace XA := XA.below hh
         try replace XQ := XQ.below hh
         try replace XL := XL.below hh
         try replace XH := XH.below hh
         replace hb := bend hb hh
         have xa0 := XA.c0
         have xa1 := XA.c1
         have xa2 := XA.c2)
      | (go_at_call 10; (with_reducible refine (rmul_q a a (by decide) (by decide) (by decide) (by decide) (by decide)).mono ?_); rintro e w_m ⟨s_m, A_m, n_m, c_m, B_m, m_m, d_m, rfl, m, hh⟩
         try replace a := a.below hh
         try replace q := q.below hh
         try replace ab := ab.below hh
         try replace l := l.below hh
         try replace h := h.below hh
         try replace XA := XA.below hh
         try replace XQ := XQ.below hh
         try replace XL := XL.below hh
         try replace XH := XH.below hh
         replace hb := bend hb hh
         have xa0 := XA.c0
         have xa1 := XA.c1
         have xa2 := XA.c2)
      | (go_at_call 9; (with_reducible refine (exact_sq m.qr HU.out HE.out (by decide) (by decide)).mono ?_); rintro e w_q ⟨s_q, A_q, n_q, c_q, B_q, m_q, d_q, rfl, q, hh⟩
         try replace a := a.below hh
         try replace m := m.below hh
         try replace ab := ab.below hh
         try replace l := l.below hh
         try replace h := h.below hh
         try replace XA := XA.below hh
         try replace XQ := XQ.below hh
         try replace XL := XL.below hh
         try replace XH := XH.below hh
         replace hb := bend hb hh
         have xa0 := XA.c0
         have xa1 := XA.c1
         have xa2 := XA.c2))
  clear m
  generalize hW : (w_q.alloc (Obj.cells #[Value.bool s_q, Value.slice A_q n_q c_q, Value.slice B_q m_q d_q] 26)) = W2
  have hh : Below w_q.heap.size w_q W2 := by subst hW; exact ((Below.refl _ _).alloc (Nat.le_refl _) _)
  have XQ : B3 W2 (w_q.heap.size) (Value.bool s_q) (Value.slice A_q n_q c_q) (Value.slice B_q m_q d_q) := by subst hW; exact B3.new' _ _ _ _ _ rfl
  have hzW2 : W2.heap.size = w_q.heap.size + 1 := by subst hW; simp
  clear hW
  try replace a := a.below hh
  try replace q := q.below hh
  try replace XA := XA.below hh
  replace hb := bend hb hh
  replace a := a.below (Below.refl _ _).drew
  replace q := q.below (Below.refl _ _).drew
  replace XA := XA.below (Below.refl _ _).drew
  replace XQ := XQ.below (Below.refl _ _).drew
  replace hb := hb.drew
  go_region_held3 (fun w' => w'.cell? ⟨w.heap.size, 0, none⟩ = some (.bool s) ∧ w'.cell? ⟨w.heap.size, 1, none⟩ = some (.slice A n c) ∧ w'.cell? ⟨w.heap.size, 2, none⟩ = some (.slice A' n' c') ∧ w'.cell? ⟨w_q.heap.size, 0, none⟩ = some (.bool s_q) ∧ w'.cell? ⟨w_q.heap.size, 1, none⟩ = some (.slice A_q n_q c_q) ∧ w'.cell? ⟨w_q.heap.size, 2, none⟩ = some (.slice B_q m_q d_q))
    (first | with_reducible exact ⟨XA.c0, XA.c1, XA.c2, XQ.c0, XQ.c1, XQ.c2⟩)
    (first
    | (go_at_call 12; (with_reducible refine (rabs_q a (by decide) (by decide)).mono ?_); rintro e w_ab ⟨s_ab, A_ab, n_ab, c_ab, B_ab, m_ab, d_ab, rfl, ab, hh⟩
       try replace a := a.below hh
       try replace m := m.below hh
       try replace q := q.below hh
       try replace l := l.below hh
       try replace h := h.below hh
       try replace XA := XA.below hh
       try replace XQ := XQ.below hh
       try replace XL := XL.below hh
       try replace XH := XH.below hh
       replace hb := bend hb hh)
    | (go_at_call 11; (with_reducible refine (rcmp_q q.qr ab.qr (by decide) (by decide) (.inr (by decide)) (by decide) (by decide)).mono ?_); rintro e w_z ⟨rfl, hh⟩
       rw [HC.out]
       try replace a := a.below hh
       try replace m := m.below hh
       try replace q := q.below hh
       try replace ab := ab.below hh
       try replace l := l.below hh
       try replace h := h.below hh
       try replace XA := XA.below hh
       try replace XQ := XQ.below hh
       try replace XL := XL.below hh
       try replace XH := XH.below hh
       replace hb := bend hb hh))
  clear ab
  have xa0 := XA.c0
  have xa1 := XA.c1
  have xa2 := XA.c2
  have hgI := HGI.out
  go_upto_region 7 with (first
      | (go_at_call 10; (with_reducible refine (rmul_q a a (by decide) (by decide) (by decide) (by decide) (by decide)).mono ?_); rintro e w_m ⟨s_m, A_m, n_m, c_m, B_m, m_m, d_m, rfl, m, hh⟩
         try replace a := a.below hh
         try replace q := q.below hh
         try replace ab := ab.below hh
         try replace l := l.below hh
         try replace h := h.below hh
         try replace XA := XA.below hh
         try replace XQ := XQ.below hh
         try replace XL := XL.below hh
         try replace XH := XH.below hh
         replace hb := bend hb hh
         have xa0 := XA.c0
         have xa1 := XA.c1
         have xa2 := XA.c2)
      | (go_at_call 13; (with_reducible refine (low_s g m.qr HV.out (by decide) (by decide) H4.out).mono ?_); rintro e w_l ⟨Rl, hRl, s_l, A_l, n_l, c_l, B_l, m_l, d_l, rfl, l, hh⟩
         have HRl := Lib.hid hRl
         clear hRl
         try replace a := a.below hh
         try replace m := m.below hh
         try replace q := q.below hh
         try replace ab := ab.below hh
         try replace h := h.below hh
         try replace XA := XA.below hh
         try replace XQ := XQ.below hh
         try replace XL := XL.below hh
         try replace XH := XH.below hh
         replace hb := bend hb hh
         have xa0 := XA.c0
         have xa1 := XA.c1
         have xa2 := XA.c2))
  clear m
  generalize hW : (w_l.alloc (Obj.cells #[Value.bool s_l, Value.slice A_l n_l c_l, Value.slice B_l m_l d_l] 26)) = W3
  have hh : Below w_l.heap.size w_l W3 := by subst hW; exact ((Below.refl _ _).alloc (Nat.le_refl _) _)
  have XL : B3 W3 (w_l.heap.size) (Value.bool s_l) (Value.slice A_l n_l c_l) (Value.slice B_l m_l d_l) := by subst hW; exact B3.new' _ _ _ _ _ rfl
  have hzW3 : W3.heap.size = w_l.heap.size + 1 := by subst hW; simp
  clear hW
  try replace a := a.below hh
  try replace q := q.below hh
  try replace l := l.below hh
  try replace XA := XA.below hh
  try replace XQ := XQ.below hh
  replace hb := bend hb hh
  have xa0 := XA.c0
  have xa1 := XA.c1
  have xa2 := XA.c2
  go_upto_region 8 with (first
      | (go_at_call 10; (with_reducible refine (rmul_q a a (by decide) (by decide) (by decide) (by decide) (by decide)).mono ?_); rintro e w_m ⟨s_m, A_m, n_m, c_m, B_m, m_m, d_m, rfl, m, hh⟩
         try replace a := a.below hh
         try replace q := q.below hh
         try replace ab := ab.below hh
         try replace l := l.below hh
         try replace h := h.below hh
         try replace XA := XA.below hh
         try replace XQ := XQ.below hh
         try replace XL := XL.below hh
         try replace XH := XH.below hh
         replace hb := bend hb hh
         have xa0 := XA.c0
         have xa1 := XA.c1
         have xa2 := XA.c2)
      | (go_at_call 14; (with_reducible refine (high_s g m.qr HV.out (by decide) (by decide) H4.out).mono ?_); rintro e w_h ⟨Rh, hRh, s_h, A_h, n_h, c_h, B_h, m_h, d_h, rfl, h, hh⟩
         have HRh := Lib.hid hRh
         clear hRh
         try replace a := a.below hh
         try replace m := m.below hh
         try replace q := q.below hh
         try replace ab := ab.below hh
         try replace l := l.below hh
         try replace XA := XA.below hh
         try replace XQ := XQ.below hh
         try replace XL := XL.below hh
         try replace XH := XH.below hh
         replace hb := bend hb hh
         have xa0 := XA.c0
         have xa1 := XA.c1
         have xa2 := XA.c2))
  clear m hgI
  generalize hW : (w_h.alloc (Obj.cells #[Value.bool s_h, Value.slice A_h n_h c_h, Value.slice B_h m_h d_h] 26)) = W4
  have hh : Below w_h.heap.size w_h W4 := by subst hW; exact ((Below.refl _ _).alloc (Nat.le_refl _) _)
  have XH : B3 W4 (w_h.heap.size) (Value.bool s_h) (Value.slice A_h n_h c_h) (Value.slice B_h m_h d_h) := by subst hW; exact B3.new' _ _ _ _ _ rfl
  have hzW4 : W4.heap.size = w_h.heap.size + 1 := by subst hW; simp
  clear hW
  try replace q := q.below hh
  try replace l := l.below hh
  try replace h := h.below hh
  try replace XQ := XQ.below hh
  try replace XL := XL.below hh
  replace hb := bend hb hh
  have e1 := HRl.out
  have e2 := HRh.out
  rw [HE.out] at e1 e2
  obtain ⟨K1, hK1, hK10⟩ : ∃ K, cmpQ (inQ Rl g) va.abs = K ∧ K ≤ 0 := ⟨_, rfl, by rw [cmpQ_le]; exact e1.root HU.out⟩
  obtain ⟨K2, hK2, hK20⟩ : ∃ K, cmpQ va.abs (inQ Rh g) = K ∧ K ≤ 0 := ⟨_, rfl, by rw [cmpQ_le]; exact e2.root HU.out⟩
  have HK1 := Lib.hid hK1
  have HK2 := Lib.hid hK2
  clear hK1 hK2 e1 e2
  have xq0 := XQ.c0
  have xq1 := XQ.c1
  have xq2 := XQ.c2
  have xl0 := XL.c0
  have xl1 := XL.c1
  have xl2 := XL.c2
  have xh0 := XH.c0
  have xh1 := XH.c1
  have xh2 := XH.c2
  go_wp2_with (first
      | (go_at_call 11; (with_reducible refine (rcmp_q l.qr q.qr (by decide) (by decide) (.inl (by decide)) (by decide) (by decide)).mono ?_); rintro e w_z ⟨rfl, hh⟩
         rw [HK1.out]
         try replace a := a.below hh
         try replace m := m.below hh
         try replace q := q.below hh
         try replace ab := ab.below hh
         try replace l := l.below hh
         try replace h := h.below hh
         try replace XA := XA.below hh
         try replace XQ := XQ.below hh
         try replace XL := XL.below hh
         try replace XH := XH.below hh
         replace hb := bend hb hh
         have xq0 := XQ.c0
         have xq1 := XQ.c1
         have xq2 := XQ.c2
         have xl0 := XL.c0
         have xl1 := XL.c1
         have xl2 := XL.c2
         have xh0 := XH.c0
         have xh1 := XH.c1
         have xh2 := XH.c2)
      | (go_at_call 11; (with_reducible refine (rcmp_q q.qr h.qr (by decide) (by decide) (.inl (by decide)) (by decide) (by decide)).mono ?_); rintro e w_z ⟨rfl, hh⟩
         rw [HK2.out]
         try replace a := a.below hh
         try replace m := m.below hh
         try replace q := q.below hh
         try replace ab := ab.below hh
         try replace l := l.below hh
         try replace h := h.below hh
         try replace XA := XA.below hh
         try replace XQ := XQ.below hh
         try replace XL := XL.below hh
         try replace XH := XH.below hh
         replace hb := bend hb hh
         have xq0 := XQ.c0
         have xq1 := XQ.c1
         have xq2 := XQ.c2
         have xl0 := XL.c0
         have xl1 := XL.c1
         have xl2 := XL.c2
         have xh0 := XH.c0
         have xh1 := XH.c1
         have xh2 := XH.c2)
      | (go_at_call 8; (with_reducible refine (rwakes_any _).mono ?_); rintro e w_z ⟨rfl, hh⟩
         try replace a := a.below hh
         try replace m := m.below hh
         try replace q := q.below hh
         try replace ab := ab.below hh
         try replace l := l.below hh
         try replace h := h.below hh
         try replace XA := XA.below hh
         try replace XQ := XQ.below hh
         try replace XL := XL.below hh
         try replace XH := XH.below hh
         replace hb := bend hb hh))
  go_ret
  exact ⟨rfl, hb⟩
theorem law_exact {w : World} (s : Bool) (A A' : Option Addr) (n c n' c' k : Nat) (l l' : List Nat) (r1 : Rd .u64 w A n l) (r2 : Rd .u64 w A' n' l') (t1 : Lim B64 l) (t2 : Lim B64 l') (e1 : n ≤ c) (e2 : n' ≤ c') (hk : k ≤ 255) :
    Calls Try.prog 3 #[.agg #[.bool s, .slice A n c, .slice A' n' c'], .int .u8 (k : Int)] w fun e w' => e = .returned (.bool true) ∧ Below w.heap.size w w' := by
  by_cases h : n ≤ 8 ∧ n' ≤ 8
  · exact exact_small k _ (QR.of_rd (s := s) r1 t1 e1 r2 t2 e2 h.1 h.2) hk (decide_eq_true h) rfl
  · exact exact_large k (decide_eq_false h)
end Go.Proofs.Ytmcijgnbdnpanaa
