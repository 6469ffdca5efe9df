/- nat.write, nat.squaresOfTen and nat.Text at numbers of 16 limbs at most. -/
import Derived.Test.YtflcgeehpboldaaWrite
import Derived.Test.YtflcgeehpboldaaBits
namespace Go.Proofs.Ytflcgeehpboldaa
open Go.RowKit

set_option maxRecDepth 100000 in
theorem write_small (la pre seg post : List Nat) (gd o d cd n c : Nat) (A : Option Addr) (S : Value) (w : World) (hd : Own .u8 5 w gd (pre ++ (seg ++ post))) (ho : pre.length = o) (hs : seg.length = d)
    (ha : Rd .u64 w A n la) (La : Lim B64 la) (hd0 : d ≤ 17592186044415) (hcd : d ≤ cd) (hn : n ≤ 16) :
    Calls Try.prog 85 #[.slice (some ⟨gd, o, none⟩) d cd, .slice A n c, S] w fun e w' => e = .returned (.tuple #[]) ∧ Own .u8 5 w' gd (pre ++ (decs (val B64 la) d ++ post)) ∧ Only gd w w' := by
  have HD := Lib.hid hd
  have HO := Lib.hid ho
  have HS := Lib.hid hs
  have HD0 := Lib.hid hd0
  have hlt := hd.lt
  clear hd ho hs hd0
  go_enter Try.func85, Try.ntmps85
  go_wp2_with (first
    | (go_at_call 68; refine (fresh_any la A n c w ha (by omega)).mono ?_; rintro e w1 ⟨rfl, hown1, hb1⟩)
    | (go_at_call 100; refine (writeLimbs_any la [] pre seg post gd w.heap.size o d cd n n _ w1 (Own.below HD.out hb1 hlt) HO.out HS.out (by simpa using hown1) ha.1 La rfl (by omega) HD0.out hcd (by omega) (Nat.le_refl _)).mono ?_; rintro e w2 ⟨rfl, h2, h3⟩))
  refine bodyPost_ret (results_none rfl _ _ _) rfl ?_
  refine ⟨rfl, h2, ⟨h3.os.trans hb1.os, h3.tape.trans hb1.tape, h3.output.trans hb1.output, Nat.le_trans hb1.size h3.size, fun k hk hne => ?_⟩⟩
  rw [h3.block k (Nat.lt_of_lt_of_le hk hb1.size) (by rintro (h | h) <;> omega)]
  exact hb1.block k hk

theorem squares_small (n : Nat) (w : World) (hn : n ≤ 16) :
    Calls Try.prog 86 #[.int .i64 (n : Int)] w fun e w' => e = .returned (.slice none 0 0) ∧ w = w' := by
  go_enter Try.func86, Try.ntmps86
  go_wp2_with fail
  go_ret
  exact ⟨rfl, rfl⟩

/-- A number's text. -/
def txt (V : Nat) : List UInt8 := if V = 0 then [48] else (limbs 10 V).reverse.map fun x => UInt8.ofNat (48 + x)
theorem decs_limbs (L V : Nat) (h : V < 10 ^ L) : decs V L = List.replicate (L - (limbs 10 V).length) 48 ++ (limbs 10 V).reverse.map (48 + ·) := by
  induction L generalizing V with
  | zero => have : V = 0 := by simpa using h
            subst this; rw [limbs_zero]; rfl
  | succ L ih =>
    by_cases h0 : V = 0
    · subst h0
      have := ih 0 (Nat.pow_pos (by omega))
      rw [limbs_zero] at this ⊢
      rw [decs, show 0 / 10 = 0 from rfl, this]
      simp [List.replicate_succ']
    · rw [decs, ih (V / 10) (by rw [Nat.div_lt_iff_lt_mul (by omega)]; rw [Nat.pow_succ] at h; exact h), limbs_pos (by omega) h0]
      simp
theorem two_ten : (2 : Nat) ^ 100000 ≤ 10 ^ 30103 := by decide +kernel
theorem pow_bits {P Q b D : Nat} (h2 : 2 ^ P ≤ 10 ^ Q) (hP : P ≠ 0) (h3 : b * Q ≤ D * P) : 2 ^ b ≤ 10 ^ D := by
  have h4 : (2 ^ b) ^ P ≤ (10 ^ D) ^ P := by
    rw [← Nat.pow_mul, ← Nat.pow_mul, Nat.mul_comm b, Nat.pow_mul]
    refine Nat.le_trans (Nat.pow_le_pow_left h2 b) ?_
    rw [← Nat.pow_mul]
    exact Nat.pow_le_pow_right (by omega) (by rw [Nat.mul_comm]; exact h3)
  rcases Nat.lt_or_ge (10 ^ D) (2 ^ b) with h5 | h5
  · have := Nat.pow_lt_pow_left h5 hP
    omega
  · exact h5
theorem ten_bits {V : Nat} : V < 10 ^ (bl V * 30103 / 100000 + 1) :=
  Nat.lt_of_lt_of_le (lt_bl V) (pow_bits two_ten (by omega) (by omega))
theorem length_limbs10 {V : Nat} : (limbs 10 V).length ≤ bl V * 30103 / 100000 + 1 := length_limbs_le (by omega) ten_bits

/-- string(b) of bytes in a block that is known whole. -/
theorem run_string_of (L : List Nat) (g o n c : Nat) (w : World) (h : Own .u8 5 w g L) (hn : o + n = L.length) :
    (convert 111 9 (.slice (some ⟨g, o, none⟩) n c)).run Try.prog w = .ok (.string ⟨((L.drop o).map fun x => UInt8.ofNat x).toArray⟩) w := by
  rw [run_convert_bytes_string w 111 9 5 _ n c Try.underlying111 Try.underlying5 Try.underlying9]
  have hl : ((L.drop o).map fun x : Nat => Value.int .u8 (x : Int)).length = n := by simp; omega
  have hc := run_loadCells_list (P := Try.prog) w ⟨g, o, none⟩ ((L.drop o).map fun x : Nat => Value.int .u8 (x : Int)) (fun j v hv => by
    rw [add_at, h.cell]
    rw [List.getElem?_map, List.getElem?_drop] at hv
    exact hv)
  rw [hl] at hc
  have e : ((L.drop o).map fun x : Nat => Value.int .u8 (x : Int)) = ((L.drop o).map fun x : Nat => (x : Int)).map (Value.int .u8) := by rw [List.map_map]; rfl
  rw [e] at hc
  rw [run_bytesToString w ⟨g, o, none⟩ n c _ hc]
  congr 2
  generalize L.drop o = M
  have key : ∀ (M : List Nat) (s : ByteArray), (M.map fun x : Nat => (x : Int)).foldl (fun r n => r.push (UInt8.ofNat n.toNat)) s = ⟨(s.data.toList ++ M.map fun x => UInt8.ofNat x).toArray⟩ := by
    intro M
    induction M with
    | nil => intro s; simp
    | cons x M ih =>
      intro s
      rw [List.map_cons, List.foldl_cons, ih]
      simp [ByteArray.push]
  rw [key]
  rfl

theorem info_u8 : (Try.prog.info? 5).map (fun i => (i.zero, i.size, i.bytes)) = some (some (.int .u8 0), 1, 1) := by kernel_rfl
/-- make([]byte, n): a block of n zeros. -/
theorem wpList_make8 (w : World) {ops : Array Oper} {rest : List Oper} {o : Oper} {a : Act} {Q : Exit → Act → World → Prop}
    (hg : o.guard = none) (l c : Operand) (hop : o.op = Op.makeSlice 111 l c) (kl kc : IntKind) (L C : Int) (n : Nat) (hl : a.eval l = .int kl L) (hc : a.eval c = .int kc C)
    (hL : L = (n : Int)) (hC : C = (n : Int)) (hn : n ≤ 35184372088832)
    (hK : ∀ w', Own .u8 5 w' w.heap.size (List.replicate n 0) → Below w.heap.size w w' → wpList Try.prog ops Q rest (a.put o.dst (.slice (some ⟨w.heap.size, 0, none⟩) n n)) w') :
    wpList Try.prog ops Q (o :: rest) a w := by
  obtain ⟨i0, hi, hz0, hz1, hz2⟩ := info_parts info_u8
  refine wpList_make_full w hg l c 111 hop w.heap.size 5 i0 (.int .u8 0) 1 Try.underlying111 hi hz0 hz1 kl kc L C n hl hc hL hC (by rw [hz2]; omega) (by unfold maxLen; omega) (Nat.le_refl _) ?_
  intro w' hown hgrow
  refine hK w' ?_ ((Below.refl _ _).grown hgrow (Nat.le_refl _) (by simp))
  have e : (madeCells (Value.int .u8 0).cells (n * 1)).toList = nums .u8 (List.replicate n 0) := by
    rw [nums_zeros, Nat.mul_one]
    exact toList_madeCells_one _ _
  rw [e] at hown
  exact (Own.of_row hown).1

theorem txt_drop {V D : Nat} (hV : V ≠ 0) (hD : V < 10 ^ D) : ((decs V D).drop (D - (limbs 10 V).length)).map (fun x => UInt8.ofNat x) = txt V := by
  rw [decs_limbs D V hD, List.drop_left' (by simp), List.map_map, txt, if_neg hV]
  rfl
theorem decs_nought {V D j : Nat} (hD : V < 10 ^ D) (hj : j < D - (limbs 10 V).length) : (decs V D)[j]? = some 48 := by
  rw [decs_limbs D V hD, List.getElem?_append_left (by simpa using hj), List.getElem?_replicate, if_pos hj]
theorem decs_top {V D : Nat} (hV : V ≠ 0) (hD : V < 10 ^ D) : ∃ x, (decs V D)[D - (limbs 10 V).length]? = some x ∧ x ≠ 48 := by
  have hne : limbs 10 V ≠ [] := fun e => hV ((limbs_eq_nil (by omega)).1 e)
  have hl := limbs_last (B := 10) (by omega) V
  rw [decs_limbs D V hD, List.getElem?_append_right (by simp), List.length_replicate, Nat.sub_self, ← List.head?_eq_getElem?, List.head?_map, List.head?_reverse]
  cases h : (limbs 10 V).getLast? with
  | none => exact absurd (List.getLast?_eq_none_iff.1 h) hne
  | some x =>
    refine ⟨48 + x, rfl, ?_⟩
    rw [h] at hl
    intro e
    have : x = 0 := by omega
    subst this; exact hl rfl

set_option maxRecDepth 100000 in
set_option maxHeartbeats 1000000 in
theorem text_small (l : List Nat) (A : Option Addr) (n c : Nat) (w : World) (h : Rd .u64 w A n l) (hL : Lim B64 l) (hn : n ≤ 16) (hnc : n ≤ c) :
    Calls Try.prog 63 #[.slice A n c] w fun e w' => e = .returned (.string ⟨(txt (val B64 l)).toArray⟩) ∧ Below w.heap.size w w' := by
  have HN : Hid (n ≤ maxLen) := by show n ≤ maxLen; unfold maxLen; omega
  generalize hX : limbs B64 (val B64 l) = xs
  have LX : Lim B64 xs := by rw [← hX]; exact lim_limbs B64_two _
  have HR : Hid (limbs B64 (val B64 l) = xs) := hX
  by_cases hV : val B64 l = 0
  · have HX : Hid (xs = []) := by show _ = _; rw [← hX, hV, limbs_zero]
    have HV := Lib.hid hV
    clear hX hV
    go_enter Try.func63, Try.ntmps63
    go_wp2_with (go_at_call 66; ((with_reducible refine (trim_any l A n c _ h hL HN.out hnc).mono ?_); rintro e w' ⟨⟨k, hk, rfl, hka⟩, rfl⟩; rw [HR.out] at hka; obtain rfl : k = 0 := by (have := hka.1; rw [HX.out] at this; exact this.symm)))
    go_ret
    rw [HV.out]
    exact ⟨rfl, Below.refl _ _⟩
  · have hvx : val B64 xs = val B64 l := by rw [← hX, val_limbs B64_two]
    have hlen : 0 < xs.length := by
      rcases Nat.eq_zero_or_pos xs.length with h0 | h0
      · exact absurd ((limbs_eq_nil B64_two).1 (by rw [hX]; exact List.eq_nil_of_length_eq_zero h0)) hV
      · exact h0
    obtain ⟨V, hVV⟩ : ∃ V, V = val B64 l := ⟨_, rfl⟩
    rw [← hVV] at hvx hV ⊢
    have hb : bl V ≤ 1024 := by
      refine bl_le ?_
      have h1 := val_lt hL
      rw [h.1, ← hVV] at h1
      refine Nat.lt_of_lt_of_le h1 ?_
      rw [show (2 : Nat) ^ 1024 = B64 ^ 16 by decide +kernel]
      exact Nat.pow_le_pow_right (by decide) hn
    obtain ⟨b, hbb⟩ : ∃ b, b = bl V := ⟨_, rfl⟩
    have hD := @ten_bits V
    have hDl := @length_limbs10 V
    rw [← hbb] at hb hD hDl
    obtain ⟨D, hDD⟩ : ∃ D, D = b * 30103 / 100000 + 1 := ⟨_, rfl⟩
    rw [← hDD] at hD hDl
    have hD1024 : D ≤ 1024 := by omega
    have hDe : (b : Int) * 30103 / 100000 + 1 = (D : Int) := by omega
    have HVX := Lib.hid hvx
    have HLN := Lib.hid hlen
    have HBB := Lib.hid hbb
    have HD := Lib.hid hD
    have HDl := Lib.hid hDl
    have HV := Lib.hid hV
    clear hX hvx hlen hbb hD hDl hDD hVV hV
    go_enter Try.func63, Try.ntmps63
    go_wp2_with (first
      | (go_at_call 66; (with_reducible refine (trim_any l A n c _ h hL HN.out hnc).mono ?_); rintro e w' ⟨⟨k, hk, rfl, hka⟩, rfl⟩
         rw [HR.out] at hka
         have hkl := hka.1
         have hk0 : 0 < k := by have := HLN.out; omega
         have hkz : ((k : Int) == 0) = false := by simp; omega
         have HKL := Lib.hid hkl
         clear hkl)
      | (go_at_call 61; refine (bits_any xs A k c _ hka LX (by omega) (by omega)).mono ?_; rintro e w' ⟨rfl, rfl⟩; rw [HVX.out, ← HBB.out])
      | (at_make; refine wpList_make8 _ rfl (.tmp 14) (.tmp 14) rfl .i64 .i64 _ _ D rfl rfl rfl rfl (by omega) ?_; intro w1 hown1 hb1)
      | (go_at_call 86; refine (squares_small k _ (by omega)).mono ?_; rintro e w' ⟨rfl, rfl⟩)
      | (go_at_call 85; refine (write_small xs [] (List.replicate D 0) [] w.heap.size 0 D D k c A _ w1 (by simpa using hown1) rfl (by simp) (hka.below hb1) LX (by omega) (Nat.le_refl _) (by omega)).mono ?_; rintro e w2 ⟨rfl, h2, h3⟩))
    have h2' : Own .u8 5 w2 w.heap.size (decs V D) := by rw [← HVX.out]; simpa using h2
    have hpos : Hid (0 < (limbs 10 V).length) := by
      show 0 < _
      rcases Nat.eq_zero_or_pos (limbs 10 V).length with h0 | h0
      · exact absurd ((limbs_eq_nil (by omega)).1 (List.eq_nil_of_length_eq_zero h0)) HV.out
      · exact h0
    obtain ⟨K, hK⟩ : ∃ K, K = D - (limbs 10 V).length := ⟨_, rfl⟩
    have hKD : K < D := by have := hpos.out; have := HDl.out; omega
    have HK := Lib.hid hK
    clear hK h2
    go_loop [4] (fun i => ∃ f : Nat, f ≤ K ∧ i = .int .i64 f) (fun i => D - (intOf i).toNat)
    case atStart => exact ⟨0, Nat.zero_le _, rfl⟩
    case round =>
      obtain ⟨f, hf, rfl⟩ := hrel
      by_cases hlt : f < K
      · have hcz := h2'.cell_at (decs_nought HD.out (by rw [← HK.out]; exact hlt))
        go_wp2_with fail
        go_round
        case rel => exact ⟨f + 1, by omega, by go_num⟩
        case measure => simp [intOf]; omega
      · obtain rfl : f = K := by omega
        obtain ⟨x, hx, hx48⟩ := decs_top HV.out HD.out
        rw [← HK.out] at hx
        have hcz := h2'.cell_at hx
        have hne : ((x : Int) == 48) = false := by simp; omega
        have hcv := run_string_of (decs V D) w.heap.size f (D - f) (D - f) w2 h2' (by rw [length_decs]; omega)
        have htx : Hid (((decs V D).drop f).map (fun x => UInt8.ofNat x) = txt V) := by
          show _ = _
          rw [HK.out]; exact txt_drop HV.out HD.out
        rw [htx.out] at hcv
        have HX := Lib.hid hx
        clear hx hx48
        go_wp2_with fail
        go_ret
        exact ⟨rfl, Below.only hb1 (Nat.le_refl _) hb1.size h3⟩
end Go.Proofs.Ytflcgeehpboldaa
