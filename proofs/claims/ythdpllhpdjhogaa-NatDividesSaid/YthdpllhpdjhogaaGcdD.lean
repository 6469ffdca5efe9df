/- nat.mix: two combinations at once, each written over a number. -/
import Derived.Test.YthdpllhpdjhogaaGcdC
import Derived.Test.YthdpllhpdjhogaaTakeP
namespace Go.Proofs.Ythdpllhpdjhogaa
open Go.RowKit

theorem mix_step {lx ly P : List Nat} {k x y p q cp cq b : Nat} (hP : P.length = k) (hx : lx[k]? = some x) (hy : ly[k]? = some y) (hb : b ≤ 1)
    (h : val B64 P + q * val B64 (ly.take k) + B64 ^ k * cp = p * val B64 (lx.take k) + B64 ^ k * (cq + b)) :
    val B64 (P ++ [subLo (maLo x p cp) (maLo y q cq) b]) + q * val B64 (ly.take (k + 1)) + B64 ^ (k + 1) * maHi x p cp = p * val B64 (lx.take (k + 1)) + B64 ^ (k + 1) * (maHi y q cq + subHi (maLo x p cp) (maLo y q cq) b) := by
  have hs := sub_parts (maLo_lt x p cp) (maLo_lt y q cq) hb
  have h1 := ma_parts x p cp
  have h2 := ma_parts y q cq
  rw [val_snoc, val_take_succ hx, val_take_succ hy, hP, Nat.pow_succ]
  generalize subLo (maLo x p cp) (maLo y q cq) b = sl at *
  generalize subHi (maLo x p cp) (maLo y q cq) b = sh at *
  generalize maLo x p cp = lo at *
  generalize maHi x p cp = hi at *
  generalize maLo y q cq = lo2 at *
  generalize maHi y q cq = hi2 at *
  grind
theorem mod_same {N a b c d : Nat} (ha : a < N) (hb : b < N) (h : a + N * c = b + N * d) : a = b := by
  have h1 : (a + N * c) % N = a := by rw [Nat.add_mul_mod_self_left, Nat.mod_eq_of_lt ha]
  have h2 : (b + N * d) % N = b := by rw [Nat.add_mul_mod_self_left, Nat.mod_eq_of_lt hb]
  rw [← h1, ← h2, h]
/-- What mix leaves is the true difference, where that fits. -/
theorem mix_end {N p q x y vP cp c T : Nat} (h : vP + q * y + N * cp = p * (x % N) + N * c) (ht : p * x = q * y + T) (hP : vP < N) (hT : T < N) : vP = T := by
  have hd := Nat.div_add_mod x N
  have e : p * x = p * (x % N) + N * (p * (x / N)) := by
    conv => lhs; rw [← hd]
    grind
  refine mod_same (c := cp + p * (x / N)) (d := c) hP hT ?_
  rw [Nat.mul_add]
  omega

/-- A store into a slice of the call's own, where the numbers before are done. -/
theorem Fr.done1 {w : World} {B n c k v : Nat} {A : Option Addr} {P l : List Nat} (h : Fr .u64 34 w B A n c (P ++ l.drop k)) (hk : k < l.length) (hP : P.length = k) (hl : l.length = n) :
    ∃ g, A = some ⟨g, 0, none⟩ ∧ B ≤ g ∧ (∀ x, l[k]? = some x → w.cell? ⟨g, k, none⟩ = some (.int .u64 (x : Int))) ∧ w.frozen? ⟨g, k, none⟩ = false ∧
      Fr .u64 34 (w.setCell ⟨g, k, none⟩ (.int .u64 (v : Int))) B A n c ((P ++ [v]) ++ l.drop (k + 1)) := by
  obtain ⟨g, R, hA, hg, hvw, hc1, hc2, hR⟩ := h.opened (by omega)
  refine ⟨g, hA, hg, ?_, hvw.frozen k, ?_⟩
  · intro x hx
    refine hvw.cell ?_
    rw [List.getElem?_append_left (by rw [length_nums, List.length_append, List.length_drop]; omega), nums_get, List.getElem?_append_right (by omega), List.getElem?_drop, hP]
    rw [show k + (k - k) = k by omega, hx]; rfl
  · subst hA
    have hst := hvw.set_ k (.int .u64 (v : Int))
    refine Fr.shut (R := R) ?_ hg ?_ hR hc2
    · refine cast (congrArg (Vow _ _ g) ?_) hst
      rw [List.set_append_left _ _ (by rw [length_nums, List.length_append, List.length_drop]; omega), ← nums_set, List.set_append_right _ _ (by omega), hP, Nat.sub_self,
        List.drop_eq_getElem_cons hk, List.set_cons_zero, List.append_assoc]
      rfl
    · simp; omega

set_option maxRecDepth 100000 in
set_option maxHeartbeats 2000000 in
theorem mix_any (lx ly : List Nat) (gx gy n c d p q r s B : Nat) (w : World) (hx : Fr .u64 34 w B (some ⟨gx, 0, none⟩) n c lx) (hy : Fr .u64 34 w B (some ⟨gy, 0, none⟩) n d ly) (hne : gx ≠ gy) (hgx : B ≤ gx) (hgy : B ≤ gy)
    (Lx : Lim B64 lx) (Ly : Lim B64 ly) (hp : p < B64) (hq : q < B64) (hr : r < B64) (hs : s < B64) (hn : n ≤ 35184372088832) :
    Calls Try.prog 81 #[.slice (some ⟨gx, 0, none⟩) n c, .slice (some ⟨gy, 0, none⟩) n d, .int .u64 (p : Int), .int .u64 (q : Int), .int .u64 (r : Int), .int .u64 (s : Int)] w fun e w' =>
      e = .returned (.tuple #[]) ∧ (∃ (P Q : List Nat) (c1 c2 c3 c4 : Nat), P.length = n ∧ Q.length = n ∧ Lim B64 P ∧ Lim B64 Q ∧
        val B64 P + q * val B64 ly + B64 ^ n * c1 = p * val B64 lx + B64 ^ n * c2 ∧ val B64 Q + r * val B64 lx + B64 ^ n * c3 = s * val B64 ly + B64 ^ n * c4 ∧
        Fr .u64 34 w' B (some ⟨gx, 0, none⟩) n c P ∧ Fr .u64 34 w' B (some ⟨gy, 0, none⟩) n d Q) ∧ Below B w w' := by
  have hsub := sub64_run
  have HX := Lib.hid hx.1
  have HY := Lib.hid hy.1
  have hn1 : n ≤ 2 ^ 45 := by omega
  go_enter Try.func81, Try.ntmps81
  go_wp2_with fail
  go_loopw [16, 17, 18, 19, 20, 21, 25] (fun t1 t2 t3 t4 t5 t6 i wr => ∃ (k : Nat) (P Q : List Nat) (cp cq cr cs bx by' : Nat), k ≤ n ∧ i = .int .i64 k ∧ t1 = .int .u64 (cp : Int) ∧ t2 = .int .u64 (cq : Int) ∧ t3 = .int .u64 (cr : Int) ∧ t4 = .int .u64 (cs : Int) ∧ t5 = .int .u64 (bx : Int) ∧ t6 = .int .u64 (by' : Int) ∧
      bx ≤ 1 ∧ by' ≤ 1 ∧ Fr .u64 34 wr B (some ⟨gx, 0, none⟩) n c (P ++ lx.drop k) ∧ Fr .u64 34 wr B (some ⟨gy, 0, none⟩) n d (Q ++ ly.drop k) ∧ Below B w wr ∧
      Hid (P.length = k ∧ Q.length = k ∧ cp < B64 ∧ cq < B64 ∧ cr < B64 ∧ cs < B64 ∧ Lim B64 P ∧ Lim B64 Q ∧ val B64 P + q * val B64 (ly.take k) + B64 ^ k * cp = p * val B64 (lx.take k) + B64 ^ k * (cq + bx) ∧
        val B64 Q + r * val B64 (lx.take k) + B64 ^ k * cs = s * val B64 (ly.take k) + B64 ^ k * (cr + by'))) (fun _ _ _ _ _ _ i _ => n - (intOf i).toNat)
  case atStart => exact ⟨0, [], [], 0, 0, 0, 0, 0, 0, Nat.zero_le _, rfl, rfl, rfl, rfl, rfl, rfl, rfl, Nat.zero_le _, Nat.zero_le _, hx, hy, Below.refl _ _, rfl, rfl, by decide, by decide, by decide, by decide, Lim.nil, Lim.nil, by simp, by simp⟩
  case round =>
    obtain ⟨k, P, Q, cp, cq, cr, cs, bx, by', hk, rfl, rfl, rfl, rfl, rfl, rfl, rfl, hbx, hby, hfx, hfy, hbl, HV⟩ := hrel
    by_cases hlt : k < n
    · obtain ⟨h1, h2, h3, h4, h5, h6, h7, h8, h9, h10⟩ := HV.out
      obtain ⟨x, hxk⟩ : ∃ x, lx[k]? = some x := ⟨_, List.getElem?_eq_getElem (by have := HX.out; omega)⟩
      obtain ⟨y, hyk⟩ : ∃ y, ly[k]? = some y := ⟨_, List.getElem?_eq_getElem (by have := HY.out; omega)⟩
      obtain ⟨g1, hA1, _, hc1, hf1, hd1⟩ := hfx.done1 (v := subLo (maLo x p cp) (maLo y q cq) bx) (by have := HX.out; omega) h1 HX.out
      obtain ⟨g2, hA2, _, hc2, hf2, hd2⟩ := hfy.done1 (v := subLo (maLo y s cs) (maLo x r cr) by') (by have := HY.out; omega) h2 HY.out
      cases hA1
      cases hA2
      have cx := hc1 x hxk
      have cy := hc2 y hyk
      have lxB := Lx.get hxk
      have lyB := Ly.get hyk
      have HD1 := Lib.hid hd1
      have hfy1 : Fr .u64 34 (wr.setCell ⟨gx, k, none⟩ (.int .u64 (subLo (maLo x p cp) (maLo y q cq) bx : Nat))) B (some ⟨gy, 0, none⟩) n d (Q ++ ly.drop k) :=
        Fr.only (g := gx) hfy ((Only.refl gx wr).setCell k _) (fun ad e => by cases e; exact Ne.symm hne)
      obtain ⟨g3, hA3, _, _, _, hd3⟩ := hfy1.done1 (v := subLo (maLo y s cs) (maLo x r cr) by') (by have := HY.out; omega) h2 HY.out
      cases hA3
      have HD2 := Lib.hid hd3
      have HXK := Lib.hid hxk
      have HYK := Lib.hid hyk
      clear hc1 hc2 hd1 hd2 hd3 hfy1 hxk hyk h1 h2 h7 h8 h9 h10
      go_wp2_with (first
        | (go_at_call 84; (with_reducible refine (mulAdd_any x p cp lxB hp h3 _).mono ?_); rintro e w' ⟨rfl, rfl⟩)
        | (go_at_call 84; (with_reducible refine (mulAdd_any y q cq lyB hq h4 _).mono ?_); rintro e w' ⟨rfl, rfl⟩)
        | (go_at_call 84; (with_reducible refine (mulAdd_any x r cr lxB hr h5 _).mono ?_); rintro e w' ⟨rfl, rfl⟩)
        | (go_at_call 84; (with_reducible refine (mulAdd_any y s cs lyB hs h6 _).mono ?_); rintro e w' ⟨rfl, rfl⟩))
      go_roundw
      case rel =>
        obtain ⟨h1, h2, h3, h4, h5, h6, h7, h8, h9, h10⟩ := HV.out
        exact ⟨k + 1, P ++ [subLo (maLo x p cp) (maLo y q cq) bx], Q ++ [subLo (maLo y s cs) (maLo x r cr) by'], _, _, _, _, _, _, by omega, by go_num, rfl, rfl, rfl, rfl, rfl, rfl, subHi_le _ _ _, subHi_le _ _ _,
          Fr.only (g := gy) HD1.out ((Only.refl gy _).setCell k _) (fun ad e => by cases e; exact hne), HD2.out, (hbl.setCell (p := ⟨gx, k, none⟩) hgx _).setCell (p := ⟨gy, k, none⟩) hgy _,
          by rw [List.length_append, h1]; rfl, by rw [List.length_append, h2]; rfl, maHi_lt lxB hp h3, maHi_lt lyB hq h4, maHi_lt lxB hr h5, maHi_lt lyB hs h6, h7.snoc (subLo_lt _ _ _), h8.snoc (subLo_lt _ _ _),
          mix_step h1 HXK.out HYK.out hbx h9, mix_step h2 HYK.out HXK.out hby h10⟩
      case measure => simp [intOf]; omega
    · obtain rfl : k = n := by omega
      obtain ⟨h1, h2, h3, h4, h5, h6, h7, h8, h9, h10⟩ := HV.out
      rw [List.take_of_length_le (l := lx) (by have := HX.out; omega), List.take_of_length_le (l := ly) (by have := HY.out; omega)] at h9
      rw [List.take_of_length_le (l := lx) (by have := HX.out; omega), List.take_of_length_le (l := ly) (by have := HY.out; omega)] at h10
      rw [List.drop_of_length_le (by have := HX.out; omega), List.append_nil] at hfx
      rw [List.drop_of_length_le (by have := HY.out; omega), List.append_nil] at hfy
      have HE := Lib.hid (And.intro h9 h10)
      have HLL := Lib.hid (And.intro h1 h2)
      clear h9 h10 h1 h2 HV
      go_wp2_with fail
      go_end0
      exact ⟨rfl, ⟨P, Q, _, _, _, _, HLL.out.1, HLL.out.2, h7, h8, HE.out.1, HE.out.2, hfx, hfy⟩, hbl⟩
end Go.Proofs.Ythdpllhpdjhogaa
