/- The document's own answers: Text. -/
import Derived.Test.YtmcijgnbdnpanaaGreatRefRoot
import Derived.Test.YtmcijgnbdnpanaaGreatTextF
namespace Go.Proofs.YtmcijgnbdnpanaaGreat
open Go.RowKit

/-- The decimal digits of V, L of them, as a text. -/
def dstr (V L : Nat) : ByteArray := ⟨((decs V L).map fun x => UInt8.ofNat x).toArray⟩
theorem dstr_size (V L : Nat) : (dstr V L).size = L := by
  show ((decs V L).map fun x => UInt8.ofNat x).toArray.size = L
  rw [List.size_toArray, List.length_map, length_decs]
theorem dstr_cat (V i j : Nat) : dstr (V / 10 ^ j) i ++ dstr V j = dstr V (i + j) := by
  apply ByteArray.ext
  rw [ByteArray.data_append]
  show ((decs (V / 10 ^ j) i).map fun x => UInt8.ofNat x).toArray ++ ((decs V j).map fun x => UInt8.ofNat x).toArray = ((decs V (i + j)).map fun x => UInt8.ofNat x).toArray
  rw [decs_add, List.map_append]
  simp
theorem dstr_mod (V : Nat) {L k : Nat} (h : L ≤ k) : dstr (V % 10 ^ k) L = dstr V L := by unfold dstr; rw [decs_mod V h]
theorem dstr_zero (V : Nat) : dstr V 0 = ⟨#[]⟩ := rfl
theorem ex1 (l : List UInt8) (K D : Nat) (h : l.length = D) : (⟨l.toArray⟩ : ByteArray).extract K D = ⟨(l.drop K).toArray⟩ := by
  apply ByteArray.ext
  rw [ByteArray.data_extract]
  subst h
  simp [List.take_of_length_le]
theorem get1 (l : List UInt8) (f : Nat) (x : UInt8) (h : l[f]? = some x) (hf : f < (⟨l.toArray⟩ : ByteArray).size) : (⟨l.toArray⟩ : ByteArray)[f] = x := by
  have h2 : f < l.length := hf
  rw [List.getElem?_eq_getElem h2, Option.some.injEq] at h
  rw [← h]; rfl
theorem dstr_get {V D f x : Nat} (h : (decs V D)[f]? = some x) (hx : x < 256) (hf : f < (dstr V D).size) : (dstr V D)[f].toNat = x := by
  have h2 := get1 ((decs V D).map fun x => UInt8.ofNat x) f (UInt8.ofNat x) (by rw [List.getElem?_map, h]; rfl) hf
  have h3 : (dstr V D)[f] = UInt8.ofNat x := h2
  rw [h3, UInt8.toNat_ofNat', Nat.mod_eq_of_lt hx]
theorem dstr_text {V D K : Nat} (hV : V ≠ 0) (hD : V < 10 ^ D) (hK : K = D - (limbs 10 V).length) : (dstr V D).extract K D = ⟨(txt V).toArray⟩ := by
  have h := ex1 ((decs V D).map fun x => UInt8.ofNat x) K D (by rw [List.length_map, length_decs])
  rw [← List.map_drop, hK, txt_drop hV hD] at h
  rw [hK]; exact h
theorem lit_c0 (w : World) (a b : Value) (t : TypeId) : (w.alloc (.cells #[a, b] t)).cell? ⟨w.heap.size, 0, none⟩ = some a := by
  rw [cell_of_row _ _ _ _ _ _ (heap_alloc_new w _)]; rfl
theorem digit_str {r : Nat} (h : r < 10) : (⟨#[48, 49, 50, 51, 52, 53, 54, 55, 56, 57]⟩ : ByteArray).extract r (r + 1) = dstr r 1 := by
  rcases (by omega : r = 0 ∨ r = 1 ∨ r = 2 ∨ r = 3 ∨ r = 4 ∨ r = 5 ∨ r = 6 ∨ r = 7 ∨ r = 8 ∨ r = 9) with h | h | h | h | h | h | h | h | h | h <;> subst h <;> rfl
theorem dstr_one {t L v : Nat} (hv : v = t / 10 ^ L) : dstr (v % 10) 1 ++ dstr t L = dstr t (L + 1) := by
  have h := dstr_mod v (L := 1) (k := 1) (Nat.le_refl _)
  rw [Nat.pow_one] at h
  rw [h, hv, dstr_cat, Nat.add_comm 1 L]

set_option maxRecDepth 100000 in
set_option maxHeartbeats 2000000 in
theorem rtext_any {w : World} {A : Option Addr} {n c V k : Nat} (X : RN w A n c V k) (hk : k ≤ 2000) :
    Calls Tryz.prog 110 #[.slice A n c] w fun e w' => e = .returned (.string ⟨(txt V).toArray⟩) ∧ Below w.heap.size w w' := by
  have hfd0 : ∀ (A : Option Addr) (n c : Nat) (A' : Option Addr) (n' c' : Nat) (w : World), (Instr.field 159 (.agg #[.slice A n c, .slice A' n' c']) 0).run Tryz.prog w = .ok (.slice A n c) w := fun _ _ _ _ _ _ _ => by kernel_rfl
  by_cases hV : V = 0
  · subst hV
    have hz : n = 0 := by have := X.1.1; rw [limbs_zero] at this; exact this.symm
    subst hz
    go_enter Tryz.func110, Tryz.ntmps110
    go_wp2_with fail
    go_ret
    exact ⟨rfl, Below.refl _ _⟩
  · have hn0 : 0 < n := by
      have := X.1.1
      rw [limbs_pos B32_two hV] at this
      simp at this; omega
    have hn45 : n ≤ 2000 := Nat.le_trans X.2.2 hk
    have hnz : ((n : Int) == 0) = false := by simp; omega
    have HV := Lib.hid hV
    clear hV
    go_enter Tryz.func110, Tryz.ntmps110
    go_wp2_with fail
    go_loopw [0, 3] (fun ta ts wr => ∃ (A' : Option Addr) (n' c' j : Nat), ta = .slice A' n' c' ∧ ts = .string (dstr V (9 * j)) ∧ RN wr A' n' c' (V / 10 ^ (9 * j)) k ∧ Below w.heap.size w wr ∧ 9 * j ≤ 30000) (fun ta _ wr => rd32 wr ta)
    case atStart => exact ⟨A, n, c, 0, rfl, rfl, by rw [Nat.mul_zero, Nat.pow_zero, Nat.div_one]; exact X, Below.refl _ _, by omega⟩
    case round =>
      obtain ⟨A', n', c', j, rfl, rfl, hu, hbw, hj⟩ := hrel
      have hn' : n' ≤ 2 ^ 45 := by have := hu.2.2; omega
      obtain ⟨v, hv⟩ : ∃ v, v = V / 10 ^ (9 * j) := ⟨_, rfl⟩
      have hu0 := hu
      rw [← hv] at hu
      by_cases h0 : v = 0
      · have hD : Hid (V < 10 ^ (9 * j)) := by
          show _ < _
          rcases Nat.div_eq_zero_iff.1 (hv.symm.trans h0) with h | h
          · exact absurd h (Nat.ne_of_gt (Nat.pow_pos (by decide)))
          · exact h
        subst h0
        have hz : n' = 0 := by have := hu.1.1; rw [limbs_zero] at this; exact this.symm
        subst hz
        obtain ⟨D, hDD⟩ : ∃ D, D = 9 * j := ⟨_, rfl⟩
        rw [← hDD] at hD hj ⊢
        have hpos : 0 < (limbs 10 V).length := by
          rcases Nat.eq_zero_or_pos (limbs 10 V).length with h0 | h0
          · exact absurd ((limbs_eq_nil (by omega)).1 (List.eq_nil_of_length_eq_zero h0)) HV.out
          · exact h0
        have hlenD : (limbs 10 V).length ≤ D := length_limbs_le (by decide) hD.out
        obtain ⟨K, hK⟩ : ∃ K, K = D - (limbs 10 V).length := ⟨_, rfl⟩
        have hKD : K < D := by omega
        have HK := Lib.hid hK
        obtain ⟨S, hS⟩ : ∃ S, S = dstr V D := ⟨_, rfl⟩
        have hsz : S.size = D := by rw [hS]; exact dstr_size V D
        have HS := Lib.hid hS
        rw [← hS]
        clear hv hu hu0 hDD hpos hlenD hK hS
        go_wp2_with fail
        go_loop [8] (fun ti => ∃ f : Nat, f ≤ K ∧ ti = .int .i64 (f : Int)) (fun ti => D - (intOf ti).toNat)
        case atStart => exact ⟨0, Nat.zero_le _, rfl⟩
        case round =>
          obtain ⟨f, hf, rfl⟩ := hrel
          by_cases hlt : f < K
          · have hfD : (f : Int) < (D : Int) - 1 := by omega
            have HB : Hid (∀ h : f < S.size, S[f].toNat = 48) := by
              intro h
              have h0 := HS.out
              subst h0
              exact dstr_get (decs_nought hD.out (by rw [← HK.out]; exact hlt)) (by decide) h
            go_wp2_with fail
            · go_round
              case rel => exact ⟨f + 1, by omega, by go_num⟩
              case measure => simp [intOf]; omega
            · rename_i hq
              exfalso
              have h1 := HB.out (by omega)
              rw [h1] at hq
              exact absurd hq (by decide)
          · obtain rfl : f = K := by omega
            have HX : Hid (S.extract f D = ⟨(txt V).toArray⟩) := by
              have h0 := HS.out
              subst h0
              exact dstr_text HV.out hD.out HK.out
            by_cases hl1 : f + 1 < D
            · have hfD : (f : Int) < (D : Int) - 1 := by omega
              have HB : Hid (∀ h : f < S.size, (S[f].toNat : Int) ≠ 48) := by
                intro h
                have h0 := HS.out
                subst h0
                obtain ⟨x, h1, h2⟩ := decs_top HV.out hD.out
                rw [← HK.out] at h1
                have h3 := decs_range V D x (List.mem_of_getElem? h1)
                rw [dstr_get h1 (by omega) h]
                omega
              go_wp2_with fail
              · rename_i hq
                exfalso
                have h1 := HB.out (by omega)
                simp at hq
                exact h1 (by omega)
              · go_ret
                exact ⟨by rw [← HX.out]; rfl, hbw⟩
            · have hfD : ¬ (f : Int) < (D : Int) - 1 := by omega
              go_wp2_with fail
              go_ret
              exact ⟨by rw [← HX.out]; rfl, hbw⟩
      · have hpos : 0 < n' := by
          have := hu.1.1
          rw [limbs_pos B32_two h0] at this
          simp at this; omega
        have H0 := Lib.hid h0
        clear h0
        obtain ⟨R, hR⟩ : ∃ R, R = v % 1000000000 := ⟨_, rfl⟩
        have hRlt : R < 1000000000 := by rw [hR]; exact Nat.mod_lt _ (by decide)
        have HR := Lib.hid hR
        have HV2 := Lib.hid hv
        have hfin : ∀ (w3 : World) (A1 : Option Addr) (n1 c1 : Nat), n1 ≤ c1 → Rd .u32 w3 A1 n1 (limbs B32 (v / 1000000000)) → RN w3 A1 n1 c1 (V / 10 ^ (9 * (j + 1))) k := fun w3 A1 n1 c1 h1 h2 => by
          have e : v / 1000000000 = V / 10 ^ (9 * (j + 1)) := by
            rw [HV2.out, Nat.div_div_eq_div_mul, show (1000000000 : Nat) = 10 ^ 9 from rfl, ← Nat.pow_add, show 9 * j + 9 = 9 * (j + 1) by omega]
          rw [← e]
          exact RN.of h2 h1 (Nat.lt_of_le_of_lt (Nat.div_le_self _ _) hu.lt)
        have hshort := short_any v 1000000000 A' n' c' wr hu.1 (by have := hu.2.2; omega) (by decide) (by decide)
        rw [← hR] at hshort
        have HFIN := Lib.hid hfin
        have HCC : Hid (dstr R 9 ++ dstr V (9 * j) = dstr V (9 * (j + 1))) := by
          show _ = _
          have h1 := dstr_mod v (L := 9) (k := 9) (Nat.le_refl _)
          rw [HR.out, show (1000000000 : Nat) = 10 ^ 9 from rfl, h1, hv, dstr_cat, show 9 + 9 * j = 9 * (j + 1) by omega]
        have HLT : Hid (V / 10 ^ (9 * (j + 1)) < V / 10 ^ (9 * j)) := by
          show _ < _
          rw [show 9 * (j + 1) = 9 * j + 9 by omega, Nat.pow_add, ← Nat.div_div_eq_div_mul, ← hv]
          exact Nat.div_lt_self (by have := H0.out; omega) (by decide)
        have HJB : Hid (9 * (j + 1) ≤ 30000) := by
          show _ ≤ _
          have h1 : 10 ^ (9 * j) ≤ V := by
            refine Nat.not_lt.1 fun h => H0.out ?_
            rw [hv]; exact Nat.div_eq_of_lt h
          have h2 := X.lt
          rw [b32_two] at h2
          have h3 : 2 ^ (3 * (9 * j)) ≤ 10 ^ (9 * j) := by rw [Nat.pow_mul]; exact Nat.pow_le_pow_left (by decide) _
          have h4 : 3 * (9 * j) < 32 * k := by
            refine Nat.not_le.1 fun h => ?_
            have := Nat.pow_le_pow_right (n := 2) (by decide) h
            omega
          omega
        clear hR hv hfin
        by_cases hr : R = 0
        · subst hr
          go_wp2_with (go_at_call 150; (refine hshort.mono ?_); rintro e w3 ⟨A1, n1, c1, A2, n2, c2, rfl, p1, p2, p3, p4, p5, p6, p7⟩
                       obtain rfl : n2 = 0 := by have := p4.1; rw [limbs_zero] at this; exact this.symm)
          have hb3 : Below w.heap.size w (w3.alloc (.cells #[.slice A1 n1 c1, .slice A2 0 c2] 159)) := (bend hbw p5).alloc (bend hbw p5).size _
          have q1 := HFIN.out _ _ _ _ p1 (p3.alloc (.cells #[.slice A1 n1 c1, .slice A2 0 c2] 159))
          have hc1 : (w3.alloc (.cells #[.slice A1 n1 c1, .slice A2 0 c2] 159)).cell? ⟨w3.heap.size, 0, none⟩ = some (.slice A1 n1 c1) := lit_c0 _ _ _ _
          go_loop [5, 6, 7] (fun tv td ti => ∃ L t : Nat, L ≤ 9 ∧ ti = .int .i64 (L : Int) ∧ tv = .int .u64 (t : Int) ∧ td = .string (dstr 0 L) ∧ t < 1000000000 ∧ Hid (t = 0 / 10 ^ L)) (fun _ _ ti => 9 - (intOf ti).toNat)
          case atStart => exact ⟨0, 0, by omega, rfl, rfl, rfl, hRlt, by show _ = _; rw [Nat.pow_zero, Nat.div_one]⟩
          case round =>
            obtain ⟨L, t, hL, rfl, rfl, rfl, ht, HTT⟩ := hrel
            by_cases hlt : L < 9
            · obtain ⟨r, hr1⟩ : ∃ r, r = t % 10 := ⟨_, rfl⟩
              have hr2 : (t : Int) % 10 = (r : Int) := by omega
              have hr3 : r < 10 := by omega
              have hex := digit_str hr3
              have hcat : dstr r 1 ++ dstr 0 L = dstr 0 (L + 1) := by rw [hr1]; exact dstr_one HTT.out
              have HCAT := Lib.hid hcat
              have z1 := dstr_size r 1
              have z2 := dstr_size 0 L
              clear hcat hr1
              go_wp2_with fail
              go_round
              case rel => exact ⟨L + 1, t / 10, by omega, by go_num, by go_num, by rw [HCAT.out], by omega, by show _ = _; rw [HTT.out, Nat.div_div_eq_div_mul, Nat.pow_succ]⟩
              case measure => simp [intOf]; omega
            · obtain rfl : L = 9 := by omega
              have z1 := dstr_size 0 9
              have z2 := dstr_size V (9 * j)
              go_wp2_with fail
              go_roundw
              case rel => exact ⟨A1, n1, c1, j + 1, rfl, by rw [HCC.out], q1, hb3, HJB.out⟩
              case measure =>
                rw [rd32_eq q1.1, rd32_eq hu.1, val_limbs B32_two, val_limbs B32_two, HV2.out]
                exact HLT.out
        · go_wp2_with (go_at_call 150; (refine hshort.mono ?_); rintro e w3 ⟨A1, n1, c1, A2, n2, c2, rfl, p1, p2, p3, p4, p5, p6, p7⟩
                       rw [limbs_small B32_two (by unfold B32; omega) hr] at p4
                       obtain rfl : n2 = 1 := p4.1.symm
                       obtain ⟨b, o, rfl, hc⟩ := (p4.alloc (.cells #[.slice A1 n1 c1, .slice A2 1 c2] 159)).2 (by omega)
                       have hc0 := hc 0 R rfl
                       rw [Nat.add_zero] at hc0
                       clear hc)
          have hb3 : Below w.heap.size w (w3.alloc (.cells #[.slice A1 n1 c1, .slice (some ⟨b, o, none⟩) 1 c2] 159)) := (bend hbw p5).alloc (bend hbw p5).size _
          have q1 := HFIN.out _ _ _ _ p1 (p3.alloc (.cells #[.slice A1 n1 c1, .slice (some ⟨b, o, none⟩) 1 c2] 159))
          have hc1 : (w3.alloc (.cells #[.slice A1 n1 c1, .slice (some ⟨b, o, none⟩) 1 c2] 159)).cell? ⟨w3.heap.size, 0, none⟩ = some (.slice A1 n1 c1) := lit_c0 _ _ _ _
          go_loop [5, 6, 7] (fun tv td ti => ∃ L t : Nat, L ≤ 9 ∧ ti = .int .i64 (L : Int) ∧ tv = .int .u64 (t : Int) ∧ td = .string (dstr R L) ∧ t < 1000000000 ∧ Hid (t = R / 10 ^ L)) (fun _ _ ti => 9 - (intOf ti).toNat)
          case atStart => exact ⟨0, R, by omega, rfl, rfl, rfl, hRlt, by show _ = _; rw [Nat.pow_zero, Nat.div_one]⟩
          case round =>
            obtain ⟨L, t, hL, rfl, rfl, rfl, ht, HTT⟩ := hrel
            by_cases hlt : L < 9
            · obtain ⟨r, hr1⟩ : ∃ r, r = t % 10 := ⟨_, rfl⟩
              have hr2 : (t : Int) % 10 = (r : Int) := by omega
              have hr3 : r < 10 := by omega
              have hex := digit_str hr3
              have hcat : dstr r 1 ++ dstr R L = dstr R (L + 1) := by rw [hr1]; exact dstr_one HTT.out
              have HCAT := Lib.hid hcat
              have z1 := dstr_size r 1
              have z2 := dstr_size R L
              clear hcat hr1
              go_wp2_with fail
              go_round
              case rel => exact ⟨L + 1, t / 10, by omega, by go_num, by go_num, by rw [HCAT.out], by omega, by show _ = _; rw [HTT.out, Nat.div_div_eq_div_mul, Nat.pow_succ]⟩
              case measure => simp [intOf]; omega
            · obtain rfl : L = 9 := by omega
              have z1 := dstr_size R 9
              have z2 := dstr_size V (9 * j)
              go_wp2_with fail
              go_roundw
              case rel => exact ⟨A1, n1, c1, j + 1, rfl, by rw [HCC.out], q1, hb3, HJB.out⟩
              case measure =>
                rw [rd32_eq q1.1, rd32_eq hu.1, val_limbs B32_two, val_limbs B32_two, HV2.out]
                exact HLT.out
end Go.Proofs.YtmcijgnbdnpanaaGreat
