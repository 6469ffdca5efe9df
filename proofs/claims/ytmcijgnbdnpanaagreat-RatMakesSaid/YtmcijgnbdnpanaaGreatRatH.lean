/- rat.Parse of what is a fraction's text with a lower number. -/
import Derived.Test.YtmcijgnbdnpanaaGreatRatG
import Derived.IntWalk
namespace Go.Proofs.YtmcijgnbdnpanaaGreat
open Go Go.RowKit

set_option maxHeartbeats 2000000 in
theorem lcut_hit (s : ByteArray) (i : Nat) (hi : Lib.indexByte s.data.toList 47 = (i : Int)) (hlt : i < s.size) (hm : s.size ≤ maxLen) (w : World) :
    Calls Tryz.prog 142 #[.string s, .string ⟨#[47]⟩] w fun e w' => e = .returned (.tuple #[.string (s.extract 0 i), .string (s.extract (i + 1) s.size), .bool true]) ∧ ∃ n, w' = w.drewN n := by
  unfold maxLen at hm
  have c1 : (0 : Int) ≤ (i : Int) := by omega
  have c2 : (i : Int) ≤ (s.size : Int) := by omega
  have c3 : (0 : Int) ≤ (i : Int) + 1 := by omega
  have c4 : (i : Int) + 1 ≤ (s.size : Int) := by omega
  have c5 : IntKind.i64.wrap ((i : Int) + 1) = (i : Int) + 1 := IntWalk.i64_in _ (by omega)
  have c6 : ((i : Int) + 1).toNat = i + 1 := by omega
  have HI := Lib.hid hi
  clear hi
  go_enter Tryz.func142, Tryz.ntmps142
  go_wp2_with (go_at_call 170; ((with_reducible refine (Tryz.stringslite_Index_one s 47 _).mono ?_); rintro e w' ⟨rfl, rfl⟩; rw [HI.out]))
  go_region
  go_wp2_with fail
  go_ret3
  exact ⟨rfl, 1, rfl⟩
theorem scut_hit (s : ByteArray) (i : Nat) (hi : Lib.indexByte s.data.toList 47 = (i : Int)) (hlt : i < s.size) (hm : s.size ≤ maxLen) (w : World) :
    Calls Tryz.prog 101 #[.string s, .string ⟨#[47]⟩] w fun e w' => e = .returned (.tuple #[.string (s.extract 0 i), .string (s.extract (i + 1) s.size), .bool true]) ∧ ∃ n, w' = w.drewN n := by
  go_enter Tryz.func101, Tryz.ntmps101
  go_wp2_with (go_at_call 142; ((with_reducible refine (lcut_hit s i hi hlt hm _).mono ?_); rintro e w' ⟨rfl, n, rfl⟩))
  go_ret3
  exact ⟨rfl, n, rfl⟩

set_option maxRecDepth 100000 in
set_option maxHeartbeats 4000000 in
theorem rparse_hit (s : ByteArray) (i k : Nat) (w : World) (hs : s.size ≤ 20000) (hi : Lib.indexByte s.data.toList 47 = (i : Int)) (hlt : i < s.size)
    (hz : zbad (s.extract 0 i).data.toList = false) (ht : isTextB (s.extract (i + 1) s.size).data.toList = true)
    (p : Int) (hp : zval (s.extract 0 i).data.toList = p) (hpk : p.natAbs < B64 ^ k)
    (q : Nat) (hq : dec (s.extract (i + 1) s.size).data.toList = q) (hqk : q < B64 ^ k) (hq2 : 2 ≤ q) (hg : Nat.gcd p.natAbs q = 1) (hs1 : (s.extract 0 i).size ≤ 20000) (hs2 : (s.extract (i + 1) s.size).size ≤ 20000) (hk : k ≤ 900) :
    Calls Tryz.prog 46 #[.string s] w (GivesQE w (mkRat p q) k) := by
  have hle : ¬ (20000 : Int) < (s.size : Int) := by omega
  have HM : Hid (s.size ≤ maxLen) := by show s.size ≤ maxLen; unfold maxLen; omega
  have HI := Lib.hid hi
  have HLT := Lib.hid hlt
  have HZ := Lib.hid hz
  have HT := Lib.hid ht
  have HP := Lib.hid hp
  have HPK := Lib.hid hpk
  have HQ := Lib.hid hq
  have HQK := Lib.hid hqk
  have HG : Hid (decide (Nat.gcd p.natAbs q = 1) = true) := decide_eq_true hg
  have HGG := Lib.hid hg
  have hbl : ¬ ((bl q : Nat) : Int) < 2 := by
    have h1 := bl_mono hq2
    rw [show bl 2 = 2 from bl_eq (k := 1) (by decide) (by decide)] at h1
    omega
  have HB := Lib.hid hbl
  have HQ0 : Hid (q ≠ 0) := by show q ≠ 0; omega
  have HS1 := Lib.hid hs1
  have HS2 := Lib.hid hs2
  obtain ⟨u1, hu1⟩ : ∃ u, s.extract 0 i = u := ⟨_, rfl⟩
  obtain ⟨u2, hu2⟩ : ∃ u, s.extract (i + 1) s.size = u := ⟨_, rfl⟩
  rw [hu1] at HZ HP HS1
  rw [hu2] at HT HQ HS2
  have HU1 := Lib.hid hu1
  have HU2 := Lib.hid hu2
  clear hs hi hlt hz ht hp hpk hq hqk hq2 hg hbl hs1 hs2 hu1 hu2
  go_enter Tryz.func46, Tryz.ntmps46
  go_wp2_with fail
  generalize hW : (w.alloc (Obj.cells #[Value.bool false, Value.slice none 0 0, Value.slice none 0 0] 26)) = W
  have hb : Below w.heap.size w W := by subst hW; exact ((Below.refl _ _).alloc (Nat.le_refl _) _)
  have Z : B3 W (w.heap.size) (Value.bool false) (Value.slice none 0 0) (Value.slice none 0 0) := by subst hW; exact B3.new' _ _ _ _ _ rfl
  have hzW : W.heap.size = w.heap.size + 1 := by subst hW; simp
  clear hW
  go_upto_region 5 with (first
      | (go_at_call 101; (with_reducible refine (scut_hit s i HI.out HLT.out HM.out _).mono ?_); rintro e w_c ⟨rfl, nn, rfl⟩
         rw [HU1.out, HU2.out]
         replace Z := Z.below (below_drawn (Below.refl _ _) nn)
         replace hb := below_drawn hb nn)
      | (go_at_call 102; (with_reducible refine (zparse_ok u1 _ HS1.out HZ.out k (by rw [HP.out]; exact HPK.out)).mono ?_); rintro e w_n ⟨A_x, n_x, c_x, rfl, x0, hxk, xr, hh⟩
         rw [HP.out] at x0 xr
         have x : ZG w_n (decide (p < 0)) A_x n_x c_x p k := ⟨rfl, xr, by obtain ⟨l, _, _, _, p4, _⟩ := x0; exact p4, hxk⟩
         clear x0 xr hxk
         rw [HP.out]
         replace Z := Z.below hh
         replace hb := bend hb hh))
  generalize hW : (w_n.alloc (Obj.cells #[Value.bool (decide (p < 0)), Value.slice A_x n_x c_x] 24)) = W2
  have hh : Below w_n.heap.size w_n W2 := by subst hW; exact ((Below.refl _ _).alloc (Nat.le_refl _) _)
  have XN : Bx W2 (w_n.heap.size) (Value.bool (decide (p < 0))) (Value.slice A_x n_x c_x) := by subst hW; exact Bx.new' _ _ _ _ rfl
  have hzW2 : W2.heap.size = w_n.heap.size + 1 := by subst hW; simp
  clear hW
  try replace x := x.below hh
  try replace Z := Z.below hh
  replace hb := bend hb hh
  have xn0 := XN.c0
  have xn1 := XN.c1
  have hbl := HB.out
  have xz := x.zr
  go_wp2_with (first
      | (go_at_call 104; (with_reducible refine (parse_nr u2 _ HS2.out HT.out).mono ?_); rintro e w_q ⟨B_y, m_y, d_y, rfl, y0, hh⟩
         rw [HQ.out] at y0
         have y := y0.tight HQK.out
         have yr := y.nr
         clear y0
         replace x := x.below hh
         replace xz := xz.below hh
         replace XN := XN.below hh
         replace Z := Z.below hh
         replace hb := bend hb hh
         have xn0 := XN.c0
         have xn1 := XN.c1)
      | (go_at_call 95; (with_reducible refine (bits_nr yr (by omega)).mono ?_); rintro e w_b ⟨rfl, rfl⟩)
      | (go_at_call 92; (with_reducible refine (coprime_q xz yr (by omega)).mono ?_); rintro e w_z ⟨rfl, hh⟩
         rw [HG.out]
         replace x := x.below hh
         replace y := y.below hh
         replace XN := XN.below hh
         replace Z := Z.below hh
         replace hb := bend hb hh
         have xn0 := XN.c0
         have xn1 := XN.c1
         have zf0 := Z.f0
         have zf1 := Z.f1
         have zf2 := Z.f2
         have z0 := Z.c0
         have z1 := Z.c1
         have z2 := Z.c2))
  have Z2 := Z.set3 (.bool (decide (p < 0))) (.slice A_x n_x c_x) (.slice B_y m_y d_y)
  have g0 := Z2.c0
  have g1 := Z2.c1
  have g2 := Z2.c2
  refine bodyPost_ret (v := .tuple #[.agg #[.bool (decide (p < 0)), .slice A_x n_x c_x, .slice B_y m_y d_y], .int .i64 0]) (by simp [results, Tryz.results46, go_sem, g0, g1, g2]) rfl ?_
  have hmk := mk_cond HQ0.out HGG.out
  have r : QG w_z (decide (p < 0)) A_x n_x c_x B_y m_y d_y (mkRat p q) k := ⟨by rw [hmk.1]; exact x, by rw [hmk.2]; exact y⟩
  exact ⟨_, A_x, n_x, c_x, B_y, m_y, d_y, rfl, r.set3 Z _ _ _, below_set3 hb (by omega) _ _ _⟩
end Go.Proofs.YtmcijgnbdnpanaaGreat
