/- gessolaw11.PathTexts. -/
import Derived.Test.YtaoobmcdbkipiaaDoorPathT4
import Derived.Test.YtaoobmcdbkipiaaDoorPathBk
namespace Go.Proofs.YtaoobmcdbkipiaaDoor
open Go Go.RowKit

theorem rtext_any {w : World} {A : Option Addr} {n c : Nat} {l : List Sg} (hv : SGV w A l) (hn : l.length = n) (hg : goodL l = true) :
    Calls Tryd.prog 10 #[.slice A n c] w fun e w' => e = .returned (.tuple #[.string ⟨(textP l).toArray⟩, .int .i64 0]) ∧ Below w.heap.size w w' := rtext_go hv hn hg
theorem rgood_b {w : World} {A : Option Addr} {n c : Nat} {l : List Sg} {b : Bool} (hv : SGV w A l) (hn : l.length = n) (hg : goodL l = b) : Calls Tryd.prog 12 #[.slice A n c] w fun e w' => e = .returned (.bool b) ∧ Below w.heap.size w w' := by
  refine (rgood_any (c := c) hv hn).mono fun e w' h => ?_
  obtain ⟨he, hw⟩ := h
  subst hw
  exact ⟨by rw [he, hg], Below.refl _ _⟩
theorem good_b {w : World} {A : Option Addr} {n c : Nat} {l : List Sg} {b : Bool} (hl : LtIn w) (hv : SGV w A l) (hn : l.length = n) (hg : goodL l = b) : Calls Tryd.prog 11 #[.slice A n c] w fun e w' => e = .returned (.bool b) ∧ Below w.heap.size w w' := by
  have := good_any (c := c) hl hv hn
  rw [hg] at this
  exact this
theorem sg_one (l : List Sg) : ∀ u ∈ sgCells l, u.oneCell' = true := fun u hu => by
  obtain ⟨s, _, h⟩ := List.mem_flatMap.1 hu
  simp [Sg.v] at h
  rcases h with rfl | rfl | rfl | rfl | rfl | rfl | rfl | rfl <;> rfl
theorem sg_len (l : List Sg) : (sgCells l).length = l.length * 8 := by
  induction l with
  | nil => rfl
  | cons s l ih =>
    show (s.v ++ sgCells l).length = _
    rw [List.length_append, ih]
    simp [Sg.v]
    omega
theorem app_none (W : World) (g c : Nat) (A : Option Addr) : (Builtin.append_ #[22, 22] 22 #[.slice (some ⟨g, 0, none⟩) 0 0, .slice A 0 c]).run Tryd.prog W = .ok (.slice (some ⟨g, 0, none⟩) 0 0) W := by
  obtain ⟨i0, hi, hz0, hz1, hz2⟩ := info_parts info_seg
  cases A <;> simp [Builtin.append_, run_underlying Tryd.underlying22, sizeOf, typeInfo, hi, storeCells, Builtin.lenOf, Builtin.firstCells, go_sem]
theorem wpList_app_none {ops : Array Oper} {rest : List Oper} {o : Oper} {a : Act} {w : World} {Q : Exit → Act → World → Prop} (hgd : o.guard = none) (s x : Operand)
    (ho : o.op = .call { callee := .builtin .append, args := #[s, x], argTypes := #[22, 22] }) (ht : o.type = 22) (g c : Nat) (A : Option Addr) (hs : a.eval s = .slice (some ⟨g, 0, none⟩) 0 0) (hx : a.eval x = .slice A 0 c)
    (h : wpList Tryd.prog ops Q rest (a.put o.dst (.slice (some ⟨g, 0, none⟩) 0 0)) w) : wpList Tryd.prog ops Q (o :: rest) a w :=
  wpList_plain hgd fun _ hK => by
    have hr := app_none w g c A
    unfold Oper.wp execOp
    simp only [ho, ht, resolve, invoke, builtin, Sem.run_bind, Sem.run_pure, Result.andThen_ok, List.map_toArray, List.map_cons, List.map_nil, hs, hx, hr]
    exact hK _ _ h
theorem SGV.none {w : World} {A : Option Addr} : SGV w A [] := Or.inl rfl
theorem add_at' (g o j : Nat) : (⟨g, o, none⟩ : Addr).add j = ⟨g, o + j, none⟩ := by unfold Addr.add; split <;> simp_all
theorem sg_news {w : World} {g o : Nat} {l : List Sg} (h : SGV w (some ⟨g, o, none⟩) l) : ∀ j u, (sgCells l)[j]? = some u → w.cell? ((⟨g, o, none⟩ : Addr).add j) = some u := fun j u hu => by
  have hj := (List.getElem?_eq_some_iff.1 hu).1
  rw [sg_len] at hj
  have hi : j / 8 < l.length := by omega
  have hs := List.getElem?_eq_getElem hi
  have he : j = j / 8 * 8 + j % 8 := by omega
  have h2 := sgCells_get l (j / 8) _ hs (j % 8) (by omega)
  rw [← he, hu] at h2
  rw [add_at']
  rcases h with q | ⟨g', o', e, _, h⟩
  · subst q; cases hi
  · cases e
    have := h _ _ _ _ hs h2.symm
    rwa [Nat.add_assoc, ← he] at this
set_option maxRecDepth 100000 in
set_option maxHeartbeats 4000000 in
theorem tx_many {w : World} {A : Option Addr} {c n : Nat} (hd : LD w) (hn : 300 < n) (_hm : n ≤ maxLen) :
    Calls Tryd.prog 3 #[.slice A n c] w fun e w' => e = .returned (.bool true) ∧ Below w.heap.size w w' := by
  have HD0 := Lib.hid hd
  clear hd
  go_enter Tryd.func3, Tryd.ntmps3
  go_wp2_with (go_at_call 8; (with_reducible refine (wakes11 HD0.out).mono ?_); rintro e w1 ⟨rfl, hb⟩)
  go_ret
  exact ⟨rfl, hb⟩
set_option maxRecDepth 100000 in
set_option maxHeartbeats 4000000 in
theorem tx_none {w : World} {A : Option Addr} {c : Nat} (hd : LD w) :
    Calls Tryd.prog 3 #[.slice A 0 c] w fun e w' => e = .returned (.bool true) ∧ Below w.heap.size w w' := by
  have HG := Lib.hid (show goodL [] = false from rfl)
  have HD0 := Lib.hid hd
  have HB0 := Lib.hid (Below.refl w.heap.size w)
  have HD1 := Lib.hid (hd.below ((Below.refl w.heap.size w).alloc (Nat.le_refl _) (.cells #[] 36)))
  have HB1 := Lib.hid ((Below.refl w.heap.size w).alloc (Nat.le_refl _) (.cells #[] 36))
  clear hd
  go_enter Tryd.func3, Tryd.ntmps3
  go_wp2_with (first
    | (at_builtin; refine wpList_app_none rfl (.tmp 12) (.tmp 13) rfl rfl w.heap.size c A (by simp [Act.eval]) (by simp [Act.eval]) ?_)
    | (go_at_call 9; (with_reducible refine (text_bad (n := 0) (l := []) HD1.out.l SGV.none rfl HG.out).mono ?_); rintro e w2 ⟨rfl, hb⟩; have HB2 := Lib.hid (HB1.out.trans (hb.mono HB1.out.size)); have HD2 := Lib.hid (HD1.out.below hb); clear hb)
    | (go_at_call 10; (with_reducible refine (rtext_bad (n := 0) (l := []) SGV.none rfl HG.out).mono ?_); rintro e w3 ⟨rfl, hb⟩; have HB3 := Lib.hid (HB2.out.trans (hb.mono HB2.out.size)); have HD3 := Lib.hid (HD2.out.below hb); clear hb)
    | (go_at_call 11; (with_reducible refine (good_b (n := 0) (l := []) HD3.out.l SGV.none rfl HG.out).mono ?_); rintro e w4 ⟨rfl, hb⟩; have HB4 := Lib.hid (HB3.out.trans (hb.mono HB3.out.size)); have HD4 := Lib.hid (HD3.out.below hb); clear hb)
    | (go_at_call 12; (with_reducible refine (rgood_b (n := 0) (l := []) SGV.none rfl HG.out).mono ?_); rintro e w5 ⟨rfl, hb⟩; have HB5 := Lib.hid (HB4.out.trans (hb.mono HB4.out.size)); have HD5 := Lib.hid (HD4.out.below hb); clear hb)
    | (go_at_call 13; (with_reducible refine (bk_same (n := 0) (l := []) SGV.none SGV.none rfl (by decide)).mono ?_); rintro e w6 ⟨rfl, hb⟩; have HB6 := Lib.hid (HB5.out.trans (hb.mono HB5.out.size)); have HD6 := Lib.hid (HD5.out.below hb); clear hb)
    | (go_at_call 8; (with_reducible refine (wakes11 HD6.out).mono ?_); rintro e w7 ⟨rfl, hb⟩; have HB7 := Lib.hid (HB6.out.trans (hb.mono HB6.out.size)); have HD7 := Lib.hid (HD6.out.below hb); clear hb))
  go_ret
  exact ⟨rfl, HB7.out⟩
set_option maxRecDepth 100000 in
set_option maxHeartbeats 4000000 in
theorem tx_good {w : World} {A : Option Addr} {c : Nat} {l : List Sg} (hd : LD w) (hv : SGV w A l) (hn : l.length ≤ 300) (hpos : 0 < l.length) (hg : goodL l = true) :
    Calls Tryd.prog 3 #[.slice A l.length c] w fun e w' => e = .returned (.bool true) ∧ Below w.heap.size w w' := by
  have HL := Lib.hid (Nat.le_trans hn (show 300 ≤ 4096 by decide))
  obtain ⟨s, hs⟩ : ∃ s, l[0]? = some s := ⟨_, List.getElem?_eq_getElem hpos⟩
  obtain ⟨g, o, rfl, hg0, -⟩ := hv.at_ hs
  have HG := Lib.hid hg
  have HD0 := Lib.hid hd
  have HV0 := Lib.hid hv
  have HB0 := Lib.hid (Below.refl w.heap.size w)
  have HV0' := Lib.hid (hv.below ((Below.refl w.heap.size w).alloc (Nat.le_refl _) (.cells #[] 36)))
  have HR0 := Lib.hid (World.ownsRow_made (e := 36) (size := 8) w (base := w.heap.size) #[] 0 (Nat.le_refl _) (by decide) rfl)
  obtain ⟨i0, hi, hz0, hz1, hz2⟩ := info_parts info_seg
  clear hd hv hg hs
  go_enter Tryd.func3, Tryd.ntmps3
  go_wp2_with (first
    | (at_builtin; refine wpList_append_lies _ rfl (.tmp 12) (.tmp 13) 22 rfl w.heap.size 36 i0 _ 8 64 Tryd.underlying22 hi hz0 hz1 hz2 rfl (by decide) (.slice (some ⟨w.heap.size, 0, none⟩) 0 0) 0 [] (by simp [Act.eval]) HR0.out ⟨g, o, none⟩ l.length c (sgCells l) (by simp [Act.eval]) (sg_len l) (sg_news HV0'.out) (sg_one l) hpos (by unfold maxLen; omega) (by omega) (by simp) _ rfl ?_; intro g3 cap3 w1 hown3 hgr3 _ _
       have hb := (Below.alloc (Below.refl w.heap.size w) (Nat.le_refl _) _).trans (own_below HR0.out hgr3 (by simp))
       have HB1 := Lib.hid hb
       have HD1 := Lib.hid (HD0.out.below hb)
       have HV1 := Lib.hid (HV0.out.below hb)
       have HA1 := Lib.hid (SGV.of_row (n := 0 + l.length) hown3 (Nat.zero_add _))
       rw [Nat.zero_add]
       clear hown3 hgr3 hb)
    | (go_at_call 9; (with_reducible refine (text_go (c := cap3) HD1.out.l HD1.out.t HA1.out rfl HG.out).mono ?_); rintro e w2 ⟨rfl, hb⟩; have HB2 := Lib.hid (HB1.out.trans (hb.mono HB1.out.size)); have HD2 := Lib.hid (HD1.out.below hb); have HV2 := Lib.hid (HV1.out.below hb); have HA2 := Lib.hid (HA1.out.below hb); clear hb)
    | (go_at_call 10; (with_reducible refine (rtext_any HV2.out rfl HG.out).mono ?_); rintro e w3 ⟨rfl, hb⟩; have HB3 := Lib.hid (HB2.out.trans (hb.mono HB2.out.size)); have HD3 := Lib.hid (HD2.out.below hb); have HV3 := Lib.hid (HV2.out.below hb); have HA3 := Lib.hid (HA2.out.below hb); clear hb)
    | (go_at_call 11; (with_reducible refine (good_b HD3.out.l HA3.out rfl HG.out).mono ?_); rintro e w4 ⟨rfl, hb⟩; have HB4 := Lib.hid (HB3.out.trans (hb.mono HB3.out.size)); have HD4 := Lib.hid (HD3.out.below hb); have HV4 := Lib.hid (HV3.out.below hb); have HA4 := Lib.hid (HA3.out.below hb); clear hb)
    | (go_at_call 12; (with_reducible refine (rgood_b HV4.out rfl HG.out).mono ?_); rintro e w5 ⟨rfl, hb⟩; have HB5 := Lib.hid (HB4.out.trans (hb.mono HB4.out.size)); have HD5 := Lib.hid (HD4.out.below hb); have HV5 := Lib.hid (HV4.out.below hb); have HA5 := Lib.hid (HA4.out.below hb); clear hb)
    | (go_at_call 13; (with_reducible refine (bk_same HA5.out HV5.out rfl HL.out).mono ?_); rintro e w6 ⟨rfl, hb⟩; have HB6 := Lib.hid (HB5.out.trans (hb.mono HB5.out.size)); have HD6 := Lib.hid (HD5.out.below hb); clear hb)
    | (go_at_call 8; (with_reducible refine (wakes11 HD6.out).mono ?_); rintro e w7 ⟨rfl, hb⟩; have HB7 := Lib.hid (HB6.out.trans (hb.mono HB6.out.size)); have HD7 := Lib.hid (HD6.out.below hb); clear hb))
  go_ret
  exact ⟨rfl, HB7.out⟩
set_option maxRecDepth 100000 in
set_option maxHeartbeats 4000000 in
theorem tx_bad {w : World} {A : Option Addr} {c : Nat} {l : List Sg} (hd : LD w) (hv : SGV w A l) (hn : l.length ≤ 300) (hpos : 0 < l.length) (hg : goodL l = false) :
    Calls Tryd.prog 3 #[.slice A l.length c] w fun e w' => e = .returned (.bool true) ∧ Below w.heap.size w w' := by
  have HL := Lib.hid (Nat.le_trans hn (show 300 ≤ 4096 by decide))
  obtain ⟨s, hs⟩ : ∃ s, l[0]? = some s := ⟨_, List.getElem?_eq_getElem hpos⟩
  obtain ⟨g, o, rfl, hg0, -⟩ := hv.at_ hs
  have HG := Lib.hid hg
  have HD0 := Lib.hid hd
  have HV0 := Lib.hid hv
  have HB0 := Lib.hid (Below.refl w.heap.size w)
  have HV0' := Lib.hid (hv.below ((Below.refl w.heap.size w).alloc (Nat.le_refl _) (.cells #[] 36)))
  have HR0 := Lib.hid (World.ownsRow_made (e := 36) (size := 8) w (base := w.heap.size) #[] 0 (Nat.le_refl _) (by decide) rfl)
  obtain ⟨i0, hi, hz0, hz1, hz2⟩ := info_parts info_seg
  clear hd hv hg hs
  go_enter Tryd.func3, Tryd.ntmps3
  go_wp2_with (first
    | (at_builtin; refine wpList_append_lies _ rfl (.tmp 12) (.tmp 13) 22 rfl w.heap.size 36 i0 _ 8 64 Tryd.underlying22 hi hz0 hz1 hz2 rfl (by decide) (.slice (some ⟨w.heap.size, 0, none⟩) 0 0) 0 [] (by simp [Act.eval]) HR0.out ⟨g, o, none⟩ l.length c (sgCells l) (by simp [Act.eval]) (sg_len l) (sg_news HV0'.out) (sg_one l) hpos (by unfold maxLen; omega) (by omega) (by simp) _ rfl ?_; intro g3 cap3 w1 hown3 hgr3 _ _
       have hb := (Below.alloc (Below.refl w.heap.size w) (Nat.le_refl _) _).trans (own_below HR0.out hgr3 (by simp))
       have HB1 := Lib.hid hb
       have HD1 := Lib.hid (HD0.out.below hb)
       have HV1 := Lib.hid (HV0.out.below hb)
       have HA1 := Lib.hid (SGV.of_row (n := 0 + l.length) hown3 (Nat.zero_add _))
       rw [Nat.zero_add]
       clear hown3 hgr3 hb)
    | (go_at_call 9; (with_reducible refine (text_bad (c := cap3) HD1.out.l HA1.out rfl HG.out).mono ?_); rintro e w2 ⟨rfl, hb⟩; have HB2 := Lib.hid (HB1.out.trans (hb.mono HB1.out.size)); have HD2 := Lib.hid (HD1.out.below hb); have HV2 := Lib.hid (HV1.out.below hb); have HA2 := Lib.hid (HA1.out.below hb); clear hb)
    | (go_at_call 10; (with_reducible refine (rtext_bad HV2.out rfl HG.out).mono ?_); rintro e w3 ⟨rfl, hb⟩; have HB3 := Lib.hid (HB2.out.trans (hb.mono HB2.out.size)); have HD3 := Lib.hid (HD2.out.below hb); have HV3 := Lib.hid (HV2.out.below hb); have HA3 := Lib.hid (HA2.out.below hb); clear hb)
    | (go_at_call 11; (with_reducible refine (good_b HD3.out.l HA3.out rfl HG.out).mono ?_); rintro e w4 ⟨rfl, hb⟩; have HB4 := Lib.hid (HB3.out.trans (hb.mono HB3.out.size)); have HD4 := Lib.hid (HD3.out.below hb); have HV4 := Lib.hid (HV3.out.below hb); have HA4 := Lib.hid (HA3.out.below hb); clear hb)
    | (go_at_call 12; (with_reducible refine (rgood_b HV4.out rfl HG.out).mono ?_); rintro e w5 ⟨rfl, hb⟩; have HB5 := Lib.hid (HB4.out.trans (hb.mono HB4.out.size)); have HD5 := Lib.hid (HD4.out.below hb); have HV5 := Lib.hid (HV4.out.below hb); have HA5 := Lib.hid (HA4.out.below hb); clear hb)
    | (go_at_call 13; (with_reducible refine (bk_same HA5.out HV5.out rfl HL.out).mono ?_); rintro e w6 ⟨rfl, hb⟩; have HB6 := Lib.hid (HB5.out.trans (hb.mono HB5.out.size)); have HD6 := Lib.hid (HD5.out.below hb); clear hb)
    | (go_at_call 8; (with_reducible refine (wakes11 HD6.out).mono ?_); rintro e w7 ⟨rfl, hb⟩; have HB7 := Lib.hid (HB6.out.trans (hb.mono HB6.out.size)); have HD7 := Lib.hid (HD6.out.below hb); clear hb))
  go_ret
  exact ⟨rfl, HB7.out⟩
theorem tx_all {w : World} {A : Option Addr} {c n : Nat} {l : List Sg} (hd : LD w) (hv : SGV w A l) (hn : l.length = n) (hm : n ≤ maxLen) :
    Calls Tryd.prog 3 #[.slice A n c] w fun e w' => e = .returned (.bool true) ∧ Below w.heap.size w w' := by
  rcases Nat.lt_or_ge 300 n with h | h
  · exact tx_many hd h hm
  rcases Nat.eq_zero_or_pos n with k | k
  · subst k; exact tx_none hd
  subst hn
  cases hg : goodL l with
  | true => exact tx_good hd hv h k hg
  | false => exact tx_bad hd hv h k hg
end Go.Proofs.YtaoobmcdbkipiaaDoor
