/- The law FixBack: a number of parts is that number again; the nearest number is no more than half a part away; a byte as a color is that byte. -/
import Derived.Test.YtmcijgnbdnpanaaFixW
import Derived.Test.YtmcijgnbdnpanaaRatL
import Derived.IntWalk
namespace Go.Proofs.Ytmcijgnbdnpanaa
open Go Go.RowKit

/-- Block g holds an array of two numbers. -/
def Bw (W : World) (g : Nat) (x y : Value) : Prop := W.heap[g]? = some (.cells #[x, y] 42 (0, 0))
section
variable {W W' : World} {g : Nat} {x y : Value}
theorem Bw.c0 (h : Bw W g x y) : W.cell? ⟨g, 0, none⟩ = some x := by rw [cell_of_row W g 0 _ _ (0, 0) h]; rfl
theorem Bw.c1 (h : Bw W g x y) : W.cell? ⟨g, 1, none⟩ = some y := by rw [cell_of_row W g 1 _ _ (0, 0) h]; rfl
theorem Bw.lt (h : Bw W g x y) : g < W.heap.size := World.block_lt_of_cell? W _ h.c0
theorem Bw.below (h : Bw W g x y) (hb : Below W.heap.size W W') : Bw W' g x y := (hb.block g h.lt).trans h
theorem Bw.alloc (h : Bw W g x y) (o : Obj) : Bw (W.alloc o) g x y := (Below.heap_alloc W o g h.lt).trans h
theorem Bw.new' (W : World) (x y : Value) (g : Nat) (hg : g = W.heap.size) : Bw (W.alloc (.cells #[x, y] 42)) g x y := by subst hg; exact heap_alloc_new W _
end

set_option maxRecDepth 100000 in
set_option maxHeartbeats 8000000 in
theorem back_large {w : World} {s : Bool} {A A' : Option Addr} {n c n' c' : Nat} (v : Int) (p q : Nat) (hl : decide (n ≤ 12 ∧ n' ≤ 12) = false) :
    Calls Try.prog 5 #[.int .i64 v, .agg #[.int .u16 (p : Int), .int .u16 (q : Int)], .agg #[.bool s, .slice A n c, .slice A' n' c']] w fun e w' => e = .returned (.bool true) ∧ Below w.heap.size w w' := by
  have HL := Lib.hid hl
  clear hl
  go_enter Try.func5, Try.ntmps5
  go_wp2_with fail
  generalize hW : ((w.alloc (Obj.cells #[Value.int .u16 (p : Int), Value.int .u16 (q : Int)] 42)).alloc (Obj.cells #[Value.bool s, Value.slice A n c, Value.slice A' n' c'] 26)) = W
  have hb : Below w.heap.size w W := by subst hW; exact (((Below.refl _ _).alloc (Nat.le_refl _) _).alloc (by simp) _)
  have XW : Bw W (w.heap.size) (Value.int .u16 (p : Int)) (Value.int .u16 (q : Int)) := by subst hW; exact (Bw.new' _ _ _ _ rfl).alloc _
  have XA : B3 W (w.heap.size + 1) (Value.bool s) (Value.slice A n c) (Value.slice A' n' c') := by subst hW; exact B3.new' _ _ _ _ _ (by simp)
  have hzW : W.heap.size = w.heap.size + 2 := by subst hW; simp
  clear hW
  have xw0 := XW.c0
  have xw1 := XW.c1
  replace XW := XW.below (Below.refl _ _).drew
  replace XA := XA.below (Below.refl _ _).drew
  replace hb := hb.drew
  go_region_held3 (fun w' => w'.cell? ⟨w.heap.size, 0, none⟩ = some (.int .u16 (p : Int)) ∧ w'.cell? ⟨w.heap.size, 1, none⟩ = some (.int .u16 (q : Int)))
    (first | with_reducible exact ⟨XW.c0, XW.c1⟩)
    (fail)
  have xa0 := XA.c0
  have xa1 := XA.c1
  have xa2 := XA.c2
  go_wp2_with (first
      | (go_at_call 7; (with_reducible refine (small_k _ false HL.out).mono ?_); rintro e w_z ⟨rfl, hh⟩
         try replace a := a.below hh
         try replace f := f.below hh
         try replace t := t.below hh
         try replace g := g.below hh
         try replace m := m.below hh
         try replace o := o.below hh
         try replace d := d.below hh
         try replace sb := sb.below hh
         try replace x1 := x1.below hh
         try replace x2 := x2.below hh
         try replace x3 := x3.below hh
         try replace XA := XA.below hh
         try replace XM := XM.below hh
         try replace XD := XD.below hh
         replace hb := bend hb hh
         have xa0 := XA.c0
         have xa1 := XA.c1
         have xa2 := XA.c2)
      | (go_at_call 17; (with_reducible refine (fwakes_any _).mono ?_); rintro e w_z ⟨rfl, hh⟩
         try replace a := a.below hh
         try replace f := f.below hh
         try replace t := t.below hh
         try replace g := g.below hh
         try replace m := m.below hh
         try replace o := o.below hh
         try replace d := d.below hh
         try replace sb := sb.below hh
         try replace x1 := x1.below hh
         try replace x2 := x2.below hh
         try replace x3 := x3.below hh
         try replace XA := XA.below hh
         try replace XM := XM.below hh
         try replace XD := XD.below hh
         replace hb := bend hb hh))
  go_ret
  exact ⟨rfl, hb⟩

set_option maxRecDepth 100000 in
set_option maxHeartbeats 8000000 in
theorem back_small {w : World} {s : Bool} {A A' : Option Addr} {n c n' c' : Nat} {va : Rat} (v : Int) (p q : Nat) (U : Int) (b : Nat) (a : QR w s A n c A' n' c' va 12) (hp : p < 65536) (hl : decide (n ≤ 12 ∧ n' ≤ 12) = true) (hU : (p : Int) + 1 = U) (hbq : q % 256 = b) (hv1 : -9223372036854775808 ≤ v) (hv2 : v < 9223372036854775808) :
    Calls Try.prog 5 #[.int .i64 v, .agg #[.int .u16 (p : Int), .int .u16 (q : Int)], .agg #[.bool s, .slice A n c, .slice A' n' c']] w fun e w' => e = .returned (.bool true) ∧ Below w.heap.size w w' := by
  have hU1 : 1 ≤ U := by omega
  have hU2 : U ≤ 65536 := by omega
  have hb1 : b ≤ 255 := by omega
  have hnear := to_near va hU1
  obtain ⟨K1, hK1, hK10⟩ : ∃ K, cmpQ ((Rat.divInt (toQ va U) U - va) * Rat.divInt (2 * U) 1) (Rat.divInt 1 1) = K ∧ K ≤ 0 := ⟨_, rfl, by rw [cmpQ_le, one1]; exact hnear.1⟩
  obtain ⟨K2, hK2, hK20⟩ : ∃ K, cmpQ ((Rat.divInt (toQ va U) U - va) * Rat.divInt (2 * U) 1) (Rat.divInt (-1) 1) = K ∧ 0 ≤ K := ⟨_, rfl, by rw [cmp_ge, show Rat.divInt (-1) 1 = -1 by decide +kernel]; exact hnear.2⟩
  have HK1 := Lib.hid hK1
  have HK2 := Lib.hid hK2
  have HL := Lib.hid hl
  have HF : Hid (toQ (Rat.divInt v U) U = v) := to_from hU1
  have HB : Hid (byteQ (Rat.divInt (b : Int) 255) = (b : Int)) := byte_back (by omega) (by omega)
  have hfit : fitsB v = true := by unfold fitsB; simp; omega
  have HFI := Lib.hid hfit
  have hUm : U < 9223372036854775808 := by omega
  have hUn : -9223372036854775808 ≤ U := by omega
  have hU0 : U ≠ 0 := by omega
  have h2U : -9223372036854775808 ≤ 2 * U := by omega
  have h2U2 : 2 * U < 9223372036854775808 := by omega
  have H1 := Lib.hid hU1
  have H2 := Lib.hid hUm
  have H2n := Lib.hid hUn
  have H0 := Lib.hid hU0
  have H3 := Lib.hid hv1
  have H4 := Lib.hid hv2
  have H5 := Lib.hid h2U
  have H6 := Lib.hid h2U2
  have hbI : (-9223372036854775808 : Int) ≤ (b : Int) := by omega
  have hbI2 : (b : Int) < 9223372036854775808 := by omega
  have H7 := Lib.hid hbI
  have H8 := Lib.hid hbI2
  have hbq2 : IntKind.u8.wrap (q : Int) = (b : Int) := by rw [IntKind.wrap_u8]; omega
  have HU := Lib.hid hU
  have HQ := Lib.hid hbq2
  clear hnear hK1 hK2 hl hfit hUm hUn hU0 hv1 hv2 h2U h2U2 hbI hbI2 hbq hbq2 hU
  go_enter Try.func5, Try.ntmps5
  go_wp2_with fail
  generalize hW : ((w.alloc (Obj.cells #[Value.int .u16 (p : Int), Value.int .u16 (q : Int)] 42)).alloc (Obj.cells #[Value.bool s, Value.slice A n c, Value.slice A' n' c'] 26)) = W
  have hb : Below w.heap.size w W := by subst hW; exact (((Below.refl _ _).alloc (Nat.le_refl _) _).alloc (by simp) _)
  have XW : Bw W (w.heap.size) (Value.int .u16 (p : Int)) (Value.int .u16 (q : Int)) := by subst hW; exact (Bw.new' _ _ _ _ rfl).alloc _
  have XA : B3 W (w.heap.size + 1) (Value.bool s) (Value.slice A n c) (Value.slice A' n' c') := by subst hW; exact B3.new' _ _ _ _ _ (by simp)
  have hzW : W.heap.size = w.heap.size + 2 := by subst hW; simp
  clear hW
  replace a := a.below hb
  have xw0 := XW.c0
  have xw1 := XW.c1
  replace a := a.below (Below.refl _ _).drew
  replace XW := XW.below (Below.refl _ _).drew
  replace XA := XA.below (Below.refl _ _).drew
  replace hb := hb.drew
  have hbq2 := HQ.out
  go_region_held3 (fun w' => w'.cell? ⟨w.heap.size, 0, none⟩ = some (.int .u16 (p : Int)) ∧ w'.cell? ⟨w.heap.size, 1, none⟩ = some (.int .u16 (q : Int)))
    (first | with_reducible exact ⟨XW.c0, XW.c1⟩)
    (fail)
  have xa0 := XA.c0
  have xa1 := XA.c1
  have xa2 := XA.c2
  go_upto_region 4 with (first
      | (go_at_call 7; (with_reducible refine (small_k _ true HL.out).mono ?_); rintro e w_z ⟨rfl, hh⟩
         try replace a := a.below hh
         try replace f := f.below hh
         try replace t := t.below hh
         try replace g := g.below hh
         try replace m := m.below hh
         try replace o := o.below hh
         try replace d := d.below hh
         try replace sb := sb.below hh
         try replace x1 := x1.below hh
         try replace x2 := x2.below hh
         try replace x3 := x3.below hh
         try replace XA := XA.below hh
         try replace XM := XM.below hh
         try replace XD := XD.below hh
         replace hb := bend hb hh
         have xa0 := XA.c0
         have xa1 := XA.c1
         have xa2 := XA.c2))
  clear hbq2 XW xw0 xw1
  have hU := HU.out
  go_upto_region 5 with (fail)
  clear hU
  go_upto_region 6 with (first
      | (go_at_call 20; (with_reducible refine (from_q v U H1.out H2.out H3.out H4.out _).mono ?_); rintro e w_f ⟨s_f, A_f, n_f, c_f, B_f, m_f, d_f, rfl, f, hh⟩
         try replace a := a.below hh
         try replace t := t.below hh
         try replace g := g.below hh
         try replace m := m.below hh
         try replace o := o.below hh
         try replace d := d.below hh
         try replace sb := sb.below hh
         try replace x1 := x1.below hh
         try replace x2 := x2.below hh
         try replace x3 := x3.below hh
         try replace XA := XA.below hh
         try replace XM := XM.below hh
         try replace XD := XD.below hh
         replace hb := bend hb hh
         have xa0 := XA.c0
         have xa1 := XA.c1
         have xa2 := XA.c2)
      | (go_at_call 19; (with_reducible refine (to_q U f.qr (by decide) (by decide) H1.out H2.out).mono ?_); rintro e w_t ⟨s_t, A_t, n_t, c_t, rfl, t, hh⟩
         rw [HF.out] at t
         try replace a := a.below hh
         try replace f := f.below hh
         try replace g := g.below hh
         try replace m := m.below hh
         try replace o := o.below hh
         try replace d := d.below hh
         try replace sb := sb.below hh
         try replace x1 := x1.below hh
         try replace x2 := x2.below hh
         try replace x3 := x3.below hh
         try replace XA := XA.below hh
         try replace XM := XM.below hh
         try replace XD := XD.below hh
         replace hb := bend hb hh
         have xa0 := XA.c0
         have xa1 := XA.c1
         have xa2 := XA.c2)
      | (go_at_call 18; (with_reducible refine (small_zr t.zr (by decide) HFI.out).mono ?_); rintro e w_z ⟨rfl, hh⟩
         try replace a := a.below hh
         try replace f := f.below hh
         try replace t := t.below hh
         try replace g := g.below hh
         try replace m := m.below hh
         try replace o := o.below hh
         try replace d := d.below hh
         try replace sb := sb.below hh
         try replace x1 := x1.below hh
         try replace x2 := x2.below hh
         try replace x3 := x3.below hh
         try replace XA := XA.below hh
         try replace XM := XM.below hh
         try replace XD := XD.below hh
         replace hb := bend hb hh
         have xa0 := XA.c0
         have xa1 := XA.c1
         have xa2 := XA.c2))
  clear t f
  go_upto_region 7 with (first
      | (go_at_call 19; (with_reducible refine (to_q U a (by decide) (by decide) H1.out H2.out).mono ?_); rintro e w_g ⟨s_g, A_g, n_g, c_g, rfl, g, hh⟩
         try replace a := a.below hh
         try replace f := f.below hh
         try replace t := t.below hh
         try replace m := m.below hh
         try replace o := o.below hh
         try replace d := d.below hh
         try replace sb := sb.below hh
         try replace x1 := x1.below hh
         try replace x2 := x2.below hh
         try replace x3 := x3.below hh
         try replace XA := XA.below hh
         try replace XM := XM.below hh
         try replace XD := XD.below hh
         replace hb := bend hb hh
         have xa0 := XA.c0
         have xa1 := XA.c1
         have xa2 := XA.c2)
      | (go_at_call 22; (with_reducible refine (zof_zr U H2n.out H2.out _).mono ?_); rintro e w_o ⟨s_o, A_o, n_o, c_o, rfl, o, hh⟩
         try replace a := a.below hh
         try replace f := f.below hh
         try replace t := t.below hh
         try replace g := g.below hh
         try replace m := m.below hh
         try replace d := d.below hh
         try replace sb := sb.below hh
         try replace x1 := x1.below hh
         try replace x2 := x2.below hh
         try replace x3 := x3.below hh
         try replace XA := XA.below hh
         try replace XM := XM.below hh
         try replace XD := XD.below hh
         replace hb := bend hb hh
         have xa0 := XA.c0
         have xa1 := XA.c1
         have xa2 := XA.c2)
      | (go_at_call 21; (with_reducible refine (make_zr 16 g.zr o (by decide) (by decide) H0.out (by decide) (by decide)).mono ?_); rintro e w_m ⟨s_m, A_m, n_m, c_m, B_m, m_m, d_m, rfl, m, hh⟩
         try replace a := a.below hh
         try replace f := f.below hh
         try replace t := t.below hh
         try replace g := g.below hh
         try replace o := o.below hh
         try replace d := d.below hh
         try replace sb := sb.below hh
         try replace x1 := x1.below hh
         try replace x2 := x2.below hh
         try replace x3 := x3.below hh
         try replace XA := XA.below hh
         try replace XM := XM.below hh
         try replace XD := XD.below hh
         replace hb := bend hb hh
         have xa0 := XA.c0
         have xa1 := XA.c1
         have xa2 := XA.c2))
  clear g o
  generalize hW : (w_m.alloc (Obj.cells #[Value.bool s_m, Value.slice A_m n_m c_m, Value.slice B_m m_m d_m] 26)) = W2
  have hh : Below w_m.heap.size w_m W2 := by subst hW; exact ((Below.refl _ _).alloc (Nat.le_refl _) _)
  have XM : B3 W2 (w_m.heap.size) (Value.bool s_m) (Value.slice A_m n_m c_m) (Value.slice B_m m_m d_m) := by subst hW; exact B3.new' _ _ _ _ _ rfl
  have hzW2 : W2.heap.size = w_m.heap.size + 1 := by subst hW; simp
  clear hW
  try replace a := a.below hh
  try replace m := m.below hh
  try replace XA := XA.below hh
  replace hb := bend hb hh
  have xa0 := XA.c0
  have xa1 := XA.c1
  have xa2 := XA.c2
  have xm0 := XM.c0
  have xm1 := XM.c1
  have xm2 := XM.c2
  go_upto_region 8 with (first
      | (go_at_call 23; (with_reducible refine (rsub_q m.qr a (by decide) (by decide) (.inl (by decide)) (by decide) (by decide)).mono ?_); rintro e w_sb ⟨s_sb, A_sb, n_sb, c_sb, B_sb, m_sb, d_sb, rfl, sb, hh⟩
         try replace a := a.below hh
         try replace f := f.below hh
         try replace t := t.below hh
         try replace g := g.below hh
         try replace m := m.below hh
         try replace o := o.below hh
         try replace d := d.below hh
         try replace x1 := x1.below hh
         try replace x2 := x2.below hh
         try replace x3 := x3.below hh
         try replace XA := XA.below hh
         try replace XM := XM.below hh
         try replace XD := XD.below hh
         replace hb := bend hb hh
         have xa0 := XA.c0
         have xa1 := XA.c1
         have xa2 := XA.c2
         have xm0 := XM.c0
         have xm1 := XM.c1
         have xm2 := XM.c2)
      | (go_at_call 16; (with_reducible refine (rof_q (2 * U) 1 H5.out H6.out (by decide) (by decide) (by decide) _).mono ?_); rintro e w_x1 ⟨s_x1, A_x1, n_x1, c_x1, B_x1, m_x1, d_x1, rfl, x1, hh⟩
         try replace a := a.below hh
         try replace f := f.below hh
         try replace t := t.below hh
         try replace g := g.below hh
         try replace m := m.below hh
         try replace o := o.below hh
         try replace d := d.below hh
         try replace sb := sb.below hh
         try replace x2 := x2.below hh
         try replace x3 := x3.below hh
         try replace XA := XA.below hh
         try replace XM := XM.below hh
         try replace XD := XD.below hh
         replace hb := bend hb hh
         have xa0 := XA.c0
         have xa1 := XA.c1
         have xa2 := XA.c2
         have xm0 := XM.c0
         have xm1 := XM.c1
         have xm2 := XM.c2)
      | (go_at_call 10; (with_reducible refine (rmul_q sb.qr x1.qr (by decide) (by decide) (.inr (by decide)) (by decide) (by decide)).mono ?_); rintro e w_d ⟨s_d, A_d, n_d, c_d, B_d, m_d, d_d, rfl, d, hh⟩
         try replace a := a.below hh
         try replace f := f.below hh
         try replace t := t.below hh
         try replace g := g.below hh
         try replace m := m.below hh
         try replace o := o.below hh
         try replace sb := sb.below hh
         try replace x1 := x1.below hh
         try replace x2 := x2.below hh
         try replace x3 := x3.below hh
         try replace XA := XA.below hh
         try replace XM := XM.below hh
         try replace XD := XD.below hh
         replace hb := bend hb hh
         have xa0 := XA.c0
         have xa1 := XA.c1
         have xa2 := XA.c2
         have xm0 := XM.c0
         have xm1 := XM.c1
         have xm2 := XM.c2))
  clear sb x1
  generalize hW : (w_d.alloc (Obj.cells #[Value.bool s_d, Value.slice A_d n_d c_d, Value.slice B_d m_d d_d] 26)) = W3
  have hh : Below w_d.heap.size w_d W3 := by subst hW; exact ((Below.refl _ _).alloc (Nat.le_refl _) _)
  have XD : B3 W3 (w_d.heap.size) (Value.bool s_d) (Value.slice A_d n_d c_d) (Value.slice B_d m_d d_d) := by subst hW; exact B3.new' _ _ _ _ _ rfl
  have hzW3 : W3.heap.size = w_d.heap.size + 1 := by subst hW; simp
  clear hW
  try replace d := d.below hh
  replace hb := bend hb hh
  replace d := d.below (Below.refl _ _).drew
  replace XD := XD.below (Below.refl _ _).drew
  replace hb := hb.drew
  have hwb : IntKind.i64.wrap (b : Int) = (b : Int) := IntWalk.i64_in _ (by omega)
  go_region_held3 (fun w' => w'.cell? ⟨w_d.heap.size, 0, none⟩ = some (.bool s_d) ∧ w'.cell? ⟨w_d.heap.size, 1, none⟩ = some (.slice A_d n_d c_d) ∧ w'.cell? ⟨w_d.heap.size, 2, none⟩ = some (.slice B_d m_d d_d))
    (first | with_reducible exact ⟨XD.c0, XD.c1, XD.c2⟩)
    (first
    | (go_at_call 16; (with_reducible refine (rof_q 1 1 (by decide) (by decide) (by decide) (by decide) (by decide) _).mono ?_); rintro e w_x1 ⟨s_x1, A_x1, n_x1, c_x1, B_x1, m_x1, d_x1, rfl, x1, hh⟩
       try replace a := a.below hh
       try replace f := f.below hh
       try replace t := t.below hh
       try replace g := g.below hh
       try replace m := m.below hh
       try replace o := o.below hh
       try replace d := d.below hh
       try replace sb := sb.below hh
       try replace x2 := x2.below hh
       try replace x3 := x3.below hh
       try replace XA := XA.below hh
       try replace XM := XM.below hh
       try replace XD := XD.below hh
       replace hb := bend hb hh)
    | (go_at_call 11; (with_reducible refine (rcmp_q d.qr x1.qr (by decide) (by decide) (.inr (by decide)) (by decide) (by decide)).mono ?_); rintro e w_z ⟨rfl, hh⟩
       rw [HK1.out]
       try replace a := a.below hh
       try replace f := f.below hh
       try replace t := t.below hh
       try replace g := g.below hh
       try replace m := m.below hh
       try replace o := o.below hh
       try replace d := d.below hh
       try replace sb := sb.below hh
       try replace x1 := x1.below hh
       try replace x2 := x2.below hh
       try replace x3 := x3.below hh
       try replace XA := XA.below hh
       try replace XM := XM.below hh
       try replace XD := XD.below hh
       replace hb := bend hb hh)
    | (go_at_call 16; (with_reducible refine (rof_q (-1) 1 (by decide) (by decide) (by decide) (by decide) (by decide) _).mono ?_); rintro e w_x2 ⟨s_x2, A_x2, n_x2, c_x2, B_x2, m_x2, d_x2, rfl, x2, hh⟩
       try replace a := a.below hh
       try replace f := f.below hh
       try replace t := t.below hh
       try replace g := g.below hh
       try replace m := m.below hh
       try replace o := o.below hh
       try replace d := d.below hh
       try replace sb := sb.below hh
       try replace x1 := x1.below hh
       try replace x3 := x3.below hh
       try replace XA := XA.below hh
       try replace XM := XM.below hh
       try replace XD := XD.below hh
       replace hb := bend hb hh)
    | (go_at_call 11; (with_reducible refine (rcmp_q d.qr x2.qr (by decide) (by decide) (.inr (by decide)) (by decide) (by decide)).mono ?_); rintro e w_z ⟨rfl, hh⟩
       rw [HK2.out]
       try replace a := a.below hh
       try replace f := f.below hh
       try replace t := t.below hh
       try replace g := g.below hh
       try replace m := m.below hh
       try replace o := o.below hh
       try replace d := d.below hh
       try replace sb := sb.below hh
       try replace x1 := x1.below hh
       try replace x2 := x2.below hh
       try replace x3 := x3.below hh
       try replace XA := XA.below hh
       try replace XM := XM.below hh
       try replace XD := XD.below hh
       replace hb := bend hb hh)
    | (go_at_call 16; (with_reducible refine (rof_q b 255 H7.out H8.out (by decide) (by decide) (by decide) _).mono ?_); rintro e w_x3 ⟨s_x3, A_x3, n_x3, c_x3, B_x3, m_x3, d_x3, rfl, x3, hh⟩
       try replace a := a.below hh
       try replace f := f.below hh
       try replace t := t.below hh
       try replace g := g.below hh
       try replace m := m.below hh
       try replace o := o.below hh
       try replace d := d.below hh
       try replace sb := sb.below hh
       try replace x1 := x1.below hh
       try replace x2 := x2.below hh
       try replace XA := XA.below hh
       try replace XM := XM.below hh
       try replace XD := XD.below hh
       replace hb := bend hb hh)
    | (go_at_call 24; (with_reducible refine (byte_q x3.qr (by decide) (by decide)).mono ?_); rintro e w_z ⟨rfl, hh⟩
       rw [HB.out]
       try replace a := a.below hh
       try replace f := f.below hh
       try replace t := t.below hh
       try replace g := g.below hh
       try replace m := m.below hh
       try replace o := o.below hh
       try replace d := d.below hh
       try replace sb := sb.below hh
       try replace x1 := x1.below hh
       try replace x2 := x2.below hh
       try replace x3 := x3.below hh
       try replace XA := XA.below hh
       try replace XM := XM.below hh
       try replace XD := XD.below hh
       replace hb := bend hb hh)
    | (go_at_call 17; (with_reducible refine (fwakes_any _).mono ?_); rintro e w_z ⟨rfl, hh⟩
       try replace a := a.below hh
       try replace f := f.below hh
       try replace t := t.below hh
       try replace g := g.below hh
       try replace m := m.below hh
       try replace o := o.below hh
       try replace d := d.below hh
       try replace sb := sb.below hh
       try replace x1 := x1.below hh
       try replace x2 := x2.below hh
       try replace x3 := x3.below hh
       try replace XA := XA.below hh
       try replace XM := XM.below hh
       try replace XD := XD.below hh
       replace hb := bend hb hh))
  go_wp2_with fail
  go_ret
  exact ⟨rfl, hb⟩
theorem law_back {w : World} (v : Int) (p q : Nat) (s : Bool) (A A' : Option Addr) (n c n' c' : Nat) (l k : List Nat) (r1 : Rd .u64 w A n l) (r2 : Rd .u64 w A' n' k) (t1 : Lim B64 l) (t2 : Lim B64 k) (e1 : n ≤ c) (e2 : n' ≤ c') (hp : p < 65536) (hv1 : -9223372036854775808 ≤ v) (hv2 : v < 9223372036854775808) :
    Calls Try.prog 5 #[.int .i64 v, .agg #[.int .u16 (p : Int), .int .u16 (q : Int)], .agg #[.bool s, .slice A n c, .slice A' n' c']] w fun e w' => e = .returned (.bool true) ∧ Below w.heap.size w w' := by
  by_cases h : n ≤ 12 ∧ n' ≤ 12
  · exact back_small v p q _ _ (QR.of_rd (s := s) r1 t1 e1 r2 t2 e2 h.1 h.2) hp (decide_eq_true h) rfl rfl hv1 hv2
  · exact back_large v p q (decide_eq_false h)
end Go.Proofs.Ytmcijgnbdnpanaa
