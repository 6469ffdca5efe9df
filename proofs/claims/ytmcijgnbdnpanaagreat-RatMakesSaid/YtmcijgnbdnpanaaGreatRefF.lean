/- The document's own answers, sixth part: gessoref01.Mul. -/
import Derived.Test.YtmcijgnbdnpanaaGreatRefAdds
import Derived.Test.YtmcijgnbdnpanaaGreatSums
namespace Go.Proofs.YtmcijgnbdnpanaaGreat
open Go.RowKit

/-- make(Nat, n): a block of n zeros. -/
theorem wpList_make32 (w : World) {ops : Array Oper} {rest : List Oper} {o : Oper} {a : Act} {Q : Exit → Act → World → Prop}
    (hg : o.guard = none) (l c : Operand) (hop : o.op = Op.makeSlice 30 l c) (kl kc : IntKind) (L C : Int) (n : Nat) (hl : a.eval l = .int kl L) (hc : a.eval c = .int kc C)
    (hL : L = (n : Int)) (hC : C = (n : Int)) (hn : n ≤ 35184372088832)
    (hK : ∀ w', Own .u32 133 w' w.heap.size (List.replicate n 0) → Below w.heap.size w w' → wpList Tryz.prog ops Q rest (a.put o.dst (.slice (some ⟨w.heap.size, 0, none⟩) n n)) w') :
    wpList Tryz.prog ops Q (o :: rest) a w := by
  obtain ⟨i0, hi, hz0, hz1, hz2⟩ := info_parts info_u32
  refine wpList_make_full w hg l c 30 hop w.heap.size 133 i0 (.int .u32 0) 1 Tryz.underlying30 hi hz0 hz1 kl kc L C n hl hc hL hC (by rw [hz2]; omega) (by unfold maxLen; omega) (Nat.le_refl _) ?_
  intro w' hown hgrow
  refine hK w' ?_ ((Below.refl _ _).grown hgrow (Nat.le_refl _) (by simp))
  have e : (madeCells (Value.int .u32 0).cells (n * 1)).toList = nums .u32 (List.replicate n 0) := by
    rw [nums_zeros, Nat.mul_one]
    exact toList_madeCells_one _ _
  rw [e] at hown
  exact (Own.of_row hown).1

theorem wrap64_small (n : Nat) (h : n < B64) : IntKind.u64.wrap (n : Int) = (n : Int) := by
  have := wrap_nat n
  rwa [Nat.mod_eq_of_lt h] at this
theorem only_drawn' {g : Nat} {w w' : World} (h : Only g w w') (q : Nat) : Only g w (w'.drewN q) := ⟨h.os, h.tape, h.output, h.size, h.block⟩
theorem rm_expr {u x z y : Nat} (hu : u < B32) (hx : x < B32) (hz : z < B32) (hy : y < B32) :
    IntKind.u64.wrap (IntKind.u64.wrap (IntKind.u64.wrap (u : Int) + IntKind.u64.wrap (IntKind.u64.wrap (x : Int) * IntKind.u64.wrap (z : Int))) + (y : Int)) = ((u + x * z + y : Nat) : Int) := by
  have hb : B32 < B64 := by decide
  have h1 : x * z ≤ (B32 - 1) * (B32 - 1) := Nat.mul_le_mul (by omega) (by omega)
  have h2 : (B32 - 1) * (B32 - 1) + (B32 - 1) + (B32 - 1) < B64 := by decide
  rw [wrap64_small u (by omega), wrap64_small x (by omega), wrap64_small z (by omega), ← Int.natCast_mul, wrap64_small (x * z) (by omega), ← Int.natCast_add, wrap64_small (u + x * z) (by omega), ← Int.natCast_add, wrap64_small _ (by omega)]
theorem rm_step {seg lb S : List Nat} {k u x z y : Nat} (hS : S.length = k) (hu : seg[k]? = some u) (hz : lb[k]? = some z) (h : val B32 S + B32 ^ k * y = val B32 (seg.take k) + x * val B32 (lb.take k)) :
    val B32 (S ++ [(u + x * z + y) % B32]) + B32 ^ (k + 1) * ((u + x * z + y) / B32) = val B32 (seg.take (k + 1)) + x * val B32 (lb.take (k + 1)) := by
  have hp := Nat.mod_add_div (u + x * z + y) B32
  rw [val_snoc, val_take_succ hu, val_take_succ hz, hS, Nat.pow_succ]
  generalize (u + x * z + y) % B32 = lo at *
  generalize (u + x * z + y) / B32 = hi at *
  grind
theorem rl_step {P S : List Nat} {i m x y : Nat} {la lb : List Nat} (hP : P.length = m + i) (hS : S.length = m) (hx : la[i]? = some x)
    (h : val B32 P = val B32 (la.take i) * val B32 lb) (hs : val B32 S + B32 ^ m * y = val B32 (P.drop i) + x * val B32 lb) :
    val B32 ((P.take i ++ S) ++ [y]) = val B32 (la.take (i + 1)) * val B32 lb := by
  rw [val_take_succ hx, val_snoc, val_append, List.length_append, List.length_take, Nat.min_eq_left (by omega), hS, Nat.pow_add, Nat.add_mul, ← h]
  have hp := val_take_drop (B := B32) P i (by omega)
  rw [hp]
  generalize val B32 (P.take i) = p at *
  generalize val B32 (P.drop i) = q at *
  generalize val B32 S = s at *
  generalize val B32 lb = a at *
  generalize B32 ^ i = b at *
  generalize B32 ^ m = c at *
  grind
theorem rm_bound {u x z y : Nat} (hu : u < B32) (hx : x < B32) (hz : z < B32) (hy : y < B32) : u + x * z + y < B64 ∧ x * z < B64 ∧ u + x * z < B64 ∧ (u + x * z + y) / B32 < B32 := by
  have h1 : x * z ≤ (B32 - 1) * (B32 - 1) := Nat.mul_le_mul (by omega) (by omega)
  have h2 : (B32 - 1) * (B32 - 1) + (B32 - 1) + (B32 - 1) < B64 := by decide
  refine ⟨by omega, by omega, by omega, ?_⟩
  rw [Nat.div_lt_iff_lt_mul (by decide), show B32 * B32 = B64 from rfl]; omega

set_option maxRecDepth 100000 in
set_option maxHeartbeats 2000000 in
theorem rmul_any (la lb : List Nat) (A B : Option Addr) (n c m d : Nat) (w : World) (ha : Rd .u32 w A n la) (hb : Rd .u32 w B m lb) (La : Lim B32 la) (Lb : Lim B32 lb) (hn0 : n ≤ 1000000) (hm0 : m ≤ 1000000) :
    Calls Tryz.prog 79 #[.slice A n c, .slice B m d] w (GivesS .u32 133 w (limbs B32 (val B32 la * val B32 lb))) := by
  have hnb : n ≤ 1000000 := hn0
  have hmb : m ≤ 1000000 := hm0
  have HLA := Lib.hid ha.1
  have HLB := Lib.hid hb.1
  clear hn0 hm0
  go_enter Tryz.func79, Tryz.ntmps79
  go_wp2_with (at_make; refine wpList_make32 _ rfl (.tmp 14) (.tmp 14) rfl .i64 .i64 _ _ (n + m) rfl rfl (by omega) (by omega) (by omega) ?_; intro w1 hown1 hb1)
  go_loopw [6] (fun i wr => ∃ (j : Nat) (P : List Nat), j ≤ n ∧ i = .int .i64 j ∧ Hid (P.length = m + j) ∧ Own .u32 133 wr w.heap.size (P ++ List.replicate (n - j) 0) ∧ Only w.heap.size w1 wr ∧
      Hid (Lim B32 P ∧ val B32 P = val B32 (la.take j) * val B32 lb)) (fun i _ => n - (intOf i).toNat)
  case atStart => exact ⟨0, List.replicate m 0, Nat.zero_le _, rfl, by show _ = _; simp, by rw [List.replicate_append_replicate, Nat.sub_zero, Nat.add_comm]; exact hown1, Only.refl _ _, Lim.zeros _ (by decide), by rw [val_zeros]; simp⟩
  case round =>
    obtain ⟨j, P, hj, rfl, HP, hown, hon, HV⟩ := hrel
    by_cases hlt : j < n
    · have hb2 : Below w.heap.size w wr := Below.only hb1 (Nat.le_refl _) hb1.size hon
      have ha' := ha.below hb2
      obtain ⟨ba, oa, hA, hca⟩ := ha'.at_ (by omega)
      obtain ⟨x, hx, hcx⟩ := hca j hlt
      have hxB := La.get hx
      have hz0 : Seg .u32 133 wr w.heap.size (P.take j) [] (P.drop j) (List.replicate (n - j) 0) := Seg.start (by rw [← List.append_assoc, List.take_append_drop]; exact hown)
      have hl1 : Hid ((P.take j).length = j) := by show _ = _; rw [List.length_take, HP.out]; omega
      have hl2 : Hid ((P.drop j).length = m) := by show _ = _; rw [List.length_drop, HP.out]; omega
      have HX := Lib.hid hx
      have HXB := Lib.hid hxB
      subst hA
      clear hca hx hxB hown hcx
      go_wp2_with fail
      go_loopw [7, 8] (fun b i w2 => ∃ (k y : Nat) (S : List Nat), k ≤ m ∧ i = .int .i64 k ∧ b = .int .u64 (y : Int) ∧ Hid (S.length = k) ∧ Seg .u32 133 w2 w.heap.size (P.take j) S (P.drop j) (List.replicate (n - j) 0) ∧ Only w.heap.size w1 w2 ∧
        Hid (y < B32 ∧ Lim B32 S ∧ val B32 S + B32 ^ k * y = val B32 ((P.drop j).take k) + x * val B32 (lb.take k))) (fun _ i _ => m - (intOf i).toNat)
      case atStart => exact ⟨0, 0, [], Nat.zero_le _, rfl, rfl, rfl, hz0, hon, by decide, Lim.nil, by simp⟩
      case round =>
        clear hon
        obtain ⟨k, y, S, hk, rfl, rfl, HSl, hsg, hon, HVV⟩ := hrel
        have hb3 : Below w.heap.size w wr := Below.only hb1 (Nat.le_refl _) hb1.size hon
        by_cases hlt2 : k < m
        · obtain ⟨bb, ob, hB, hcb⟩ := (hb.below hb3).at_ (by omega)
          obtain ⟨z, hz, hcz⟩ := hcb k hlt2
          obtain ⟨_, _, hA2, hca⟩ := (ha.below hb3).at_ (by omega)
          cases hA2
          obtain ⟨x2, hx2, hcx⟩ := hca j hlt
          obtain rfl : x2 = x := by have := HX.out.symm.trans hx2; injection this with this; exact this.symm
          have hks : k < (P.drop j).length := by have := hl2.out; omega
          obtain ⟨u, hu⟩ : ∃ u, (P.drop j)[k]? = some u := ⟨_, List.getElem?_eq_getElem hks⟩
          have hcu := hsg.cell hl1.out HSl.out hks hu
          have hfz := Own.frozen hsg (j + k)
          have huB : u < B32 := (HV.out.1.drop j).get hu
          obtain ⟨q1, q2, q3, q4⟩ := rm_bound huB HXB.out (Lb.get hz) HVV.out.1
          have HE := Lib.hid (rm_expr huB HXB.out (Lb.get hz) HVV.out.1)
          obtain ⟨v, hvv⟩ : ∃ v, v = u + x2 * z + y := ⟨_, rfl⟩
          have hst := rm_step HSl.out hu hz HVV.out.2.2
          rw [← hvv] at hst q4
          have HVE := Lib.hid hvv
          have HST := Lib.hid hst
          have HHI := Lib.hid q4
          have HKS := Lib.hid hks
          subst hB
          clear hst hu hz hks hcb hca hx2 huB q1 q2 q3 q4 hvv
          go_wp2_with fail
          go_quiet (fail)
          go_wp2_with fail
          go_roundw
          case rel =>
            have e5 : (v : Int) / 4294967296 = ((v / B32 : Nat) : Int) := by rw [show B32 = 4294967296 from rfl]; omega
            have e6 : (v : Int) % 4294967296 = ((v % B32 : Nat) : Int) := by rw [show B32 = 4294967296 from rfl]; omega
            rw [HE.out, ← HVE.out, e5, e6]
            exact ⟨k + 1, v / B32, S ++ [v % B32], by omega, by go_num, rfl, by show _ = _; rw [List.length_append, HSl.out]; rfl, Seg.store (w := wr.drewN nq) hsg hl1.out HSl.out HKS.out _, (only_drawn' hon nq).setCell _ _, HHI.out, HVV.out.2.1.append (Lim.cons (Nat.mod_lt _ (by decide)) Lim.nil), HST.out⟩
          case measure => simp [intOf]; omega
        · obtain rfl : k = m := by omega
          have fin := hsg.done (by have := HSl.out; have := hl2.out; omega)
          rw [zeros_succ hlt, ← List.append_assoc] at fin
          have hQ : (P.take j ++ S).length = j + k := by rw [List.length_append, hl1.out, HSl.out]
          have hcz := fin.cell_len hQ
          have hfz := Own.frozen fin (j + k)
          have HQ := Lib.hid hQ
          have hyI : IntKind.u32.wrap (y : Int) = (y : Int) := by have := wrap32_nat y; rwa [Nat.mod_eq_of_lt HVV.out.1] at this
          clear hQ
          go_wp2_with fail
          go_roundw
          case rel =>
            obtain ⟨v1, v2, v3⟩ := HVV.out
            rw [List.take_of_length_le (l := lb) (by have := HLB.out; omega), List.take_of_length_le (l := P.drop j) (by have := hl2.out; omega)] at v3
            refine ⟨j + 1, (P.take j ++ S) ++ [y], by omega, by go_num, ?_, fin.store_len HQ.out y, hon.setCell _ _, ((HV.out.1.take _).append v2).snoc v1, rl_step HP.out HSl.out HX.out HV.out.2 v3⟩
            show _ = _
            rw [List.length_append, HQ.out]; simp; omega
          case measure => simp [intOf]; omega
    · obtain rfl : j = n := by omega
      have hlP : P.length = j + m := by rw [HP.out]; omega
      have hownP : Own .u32 133 wr w.heap.size P := by simpa using hown
      have hv := HV.out.2
      rw [List.take_of_length_le (by have := HLA.out; omega)] at hv
      have HVF := Lib.hid hv
      have HLP := Lib.hid hlP
      clear hv hlP
      go_wp2_with (go_at_call 125; refine (rtrim_any P _ (j + m) (j + m) wr (hownP.rd HLP.out (fun i x hx => by rw [Nat.zero_add]; exact hx)) HV.out.1 (by unfold maxLen; omega) (Nat.le_refl _)).mono ?_; rintro e w' ⟨⟨q, hq, rfl, hj2, hj3⟩, rfl⟩)
      go_ret
      have hfr := Fr.of_own hownP (B := w.heap.size) (Nat.le_refl _) (k := q) (by rw [HLP.out]; exact hq) (by rw [HLP.out]; unfold maxLen; omega)
      rw [← hj2, HVF.out, HLP.out] at hfr
      exact ⟨_, _, _, rfl, hq, by unfold maxLen; omega, hfr, Below.only hb1 (Nat.le_refl _) hb1.size hon⟩
end Go.Proofs.YtmcijgnbdnpanaaGreat
