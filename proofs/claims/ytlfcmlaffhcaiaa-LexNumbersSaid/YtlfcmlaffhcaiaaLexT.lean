/- The law LexNumbers. -/
import Derived.IntWalk
import Derived.Lib.SlBytesRow
import Derived.Test.YtlfcmlaffhcaiaaLexR
namespace Go.Proofs.Ytlfcmlaffhcaiaa
open Go Go.RowKit

theorem foldl_base (l : List UInt8) : ∀ n : Nat, l.foldl (fun n c => 10 * n + (c.toNat - 48)) n = n * 10 ^ l.length + lval l := by
  induction l with
  | nil => intro n; simp [lval]
  | cons c r ih =>
    intro n
    show r.foldl _ (10 * n + (c.toNat - 48)) = n * 10 ^ (r.length + 1) + r.foldl _ (10 * 0 + (c.toNat - 48))
    rw [show 10 * 0 + (c.toNat - 48) = c.toNat - 48 by omega, ih (10 * n + (c.toNat - 48)), ih (c.toNat - 48), Nat.pow_succ]
    have : n * (10 ^ r.length * 10) = 10 * n * 10 ^ r.length := by rw [Nat.mul_comm (10 ^ r.length) 10, ← Nat.mul_assoc, Nat.mul_comm n 10]
    rw [this, Nat.add_mul]
    omega
theorem lval_cons (c : UInt8) (l : List UInt8) : lval (c :: l) = (c.toNat - 48) * 10 ^ l.length + lval l := by
  show l.foldl _ (10 * 0 + (c.toNat - 48)) = _
  rw [foldl_base]; simp
theorem lval_app (l m : List UInt8) : lval (l ++ m) = lval l * 10 ^ m.length + lval m := by
  unfold lval; rw [List.foldl_append, foldl_base]; rfl
/-- Digits, one behind the other, that come to d. -/
def Tells (l : List UInt8) (d : Nat) : Prop := l ≠ [] ∧ (∀ x ∈ l, isD x = true) ∧ lval l = d
theorem Tells.cut {l : List UInt8} {d : Nat} (h : Tells l d) : lcut 0 l = .ok [⟨2, [], cap62 d, 0⟩] := by
  obtain ⟨h0, h1, h2⟩ := h
  cases l with
  | nil => exact absurd rfl h0
  | cons c r =>
    have hr := lrun_full isD r (fun x hx => h1 x (List.mem_cons_of_mem _ hx))
    rw [lcut_cons, first_d (h1 c (List.mem_cons_self ..)) hr]
    simp only [List.take_length, List.drop_length, lcut_nil, h2]
    rfl
theorem Tells.cutm {l : List UInt8} {d : Nat} (h : Tells l d) : lcut 0 (45 :: l) = .ok [⟨2, [], -(cap62 d : Int), 0⟩] := by
  obtain ⟨h0, h1, h2⟩ := h
  have hr := lrun_full isD l h1
  have hl : 0 < l.length := by
    cases l with
    | nil => exact absurd rfl h0
    | cons c r => simp
  rw [lcut_cons, first_m (by decide) hr hl]
  simp only [List.take_length, List.drop_length, lcut_nil, h2]
  rfl
def zeros : List UInt8 := [48, 48, 48, 48, 48, 48, 48, 48, 48, 48, 48, 48, 48, 48, 48, 48, 48, 48, 48, 48, 48, 48]
theorem Tells.far {l : List UInt8} {d : Nat} (h : Tells l d) : Tells (l ++ zeros) (d * 10 ^ 22) := by
  obtain ⟨h0, h1, h2⟩ := h
  refine ⟨by simp [h0], fun x hx => ?_, ?_⟩
  · rcases List.mem_append.1 hx with hx | hx
    · exact h1 x hx
    · have : ∀ y ∈ zeros, isD y = true := by decide
      exact this x hx
  · have hz : lval zeros = 0 := by decide
    have hl : zeros.length = 22 := rfl
    rw [lval_app, h2, hz, hl, Nat.add_zero]
theorem Tells.nought {l : List UInt8} {d : Nat} (h : Tells l d) : Tells (48 :: l) d := by
  obtain ⟨h0, h1, h2⟩ := h
  refine ⟨by simp, fun x hx => ?_, ?_⟩
  · rcases List.mem_cons.1 hx with rfl | hx
    · decide
    · exact h1 x hx
  · rw [lval_cons, h2]; simp
theorem cap_far {d : Nat} (h : 0 < d) : cap62 (d * 10 ^ 22) = 4611686018427387904 := by
  refine cap62_big ?_
  unfold mst
  have h2 : 1 * 10 ^ 22 ≤ d * 10 ^ 22 := Nat.mul_le_mul_right _ h
  exact Nat.le_trans (by decide) h2
/-- While the digits are told: what is left, and those that stand. -/
def Way (d v : Nat) (l : List UInt8) : Prop := (∀ x ∈ l, isD x = true) ∧ v * 10 ^ l.length + lval l = d ∧ (l = [] ∨ 1 ≤ v)
theorem Way.start (d : Nat) : Way d d [] := ⟨(fun x h => by cases h), by simp [lval], .inl rfl⟩
def dig8 (v : Nat) : UInt8 := UInt8.ofNat (48 + v % 10)
theorem dig8_nat (v : Nat) : (dig8 v).toNat = 48 + v % 10 := by
  unfold dig8
  rw [UInt8.toNat_ofNat']
  omega
theorem Way.more {d v : Nat} {l : List UInt8} (h : Way d v l) (hv : 10 ≤ v) : Way d (v / 10) (dig8 v :: l) := by
  obtain ⟨h1, h2, _⟩ := h
  refine ⟨fun x hx => ?_, ?_, .inr (by omega)⟩
  · rcases List.mem_cons.1 hx with rfl | hx
    · exact isD_iff.2 (by rw [dig8_nat]; omega)
    · exact h1 x hx
  · rw [lval_cons, dig8_nat, ← h2, List.length_cons, Nat.pow_succ]
    have : v = v / 10 * 10 + v % 10 := by omega
    have e : v * 10 ^ l.length = (v / 10 * 10) * 10 ^ l.length + v % 10 * 10 ^ l.length := by rw [← Nat.add_mul, ← this]
    rw [e, show 48 + v % 10 - 48 = v % 10 by omega, show v / 10 * (10 ^ l.length * 10) = v / 10 * 10 * 10 ^ l.length by rw [Nat.mul_comm (10 ^ l.length) 10, Nat.mul_assoc]]
    omega
theorem Way.last {d v : Nat} {l : List UInt8} (h : Way d v l) (hv : v < 10) : Tells (dig8 v :: l) d := by
  obtain ⟨h1, h2, _⟩ := h
  refine ⟨by simp, fun x hx => ?_, ?_⟩
  · rcases List.mem_cons.1 hx with rfl | hx
    · exact isD_iff.2 (by rw [dig8_nat]; omega)
    · exact h1 x hx
  · rw [lval_cons, dig8_nat, ← h2, show 48 + v % 10 - 48 = v by omega]
theorem Way.short {d v : Nat} {l : List UInt8} (h : Way d v l) (hd : d < 10 ^ 20) : l.length < 20 := by
  rcases h.2.2 with h0 | h0
  · rw [h0]; decide
  · rcases Nat.lt_or_ge l.length 20 with h3 | h3
    · exact h3
    · have h4 : 10 ^ 20 ≤ 10 ^ l.length := Nat.pow_le_pow_right (by decide) h3
      have h5 : 1 * 10 ^ l.length ≤ v * 10 ^ l.length := Nat.mul_le_mul_right _ h0
      have := h.2.1
      omega
theorem conv_dig (w : World) (v : Nat) : (convert 36 9 (.slice (some ⟨w.heap.size, 0, none⟩) 1 1)).run Try.prog (w.alloc (.cells #[.int .u8 (48 + (v : Int) % 10)] 5)) = .ok (.string ⟨#[dig8 v]⟩) (w.alloc (.cells #[.int .u8 (48 + (v : Int) % 10)] 5)) := by
  have hn := dig8_nat v
  refine Lib.run_convert_whole (P := Try.prog) (w.alloc (.cells #[.int .u8 (48 + (v : Int) % 10)] 5)) 36 5 9 Try.underlying36 Try.underlying5 Try.underlying9 w.heap.size 0 ⟨#[dig8 v]⟩ ?_ 1
  intro i h
  have hi : i = 0 := by have h2 : i < 1 := h; omega
  subst hi
  have hh := World.alloc_heap_new w (.cells #[.int .u8 (48 + (v : Int) % 10)] 5)
  unfold World.cell?
  rw [show ({ block := w.heap.size, off := 0 + 0, spot := none } : Addr).block = w.heap.size from rfl, hh]
  show some _ = some (Value.int .u8 (((dig8 v).toNat : Nat) : Int))
  rw [hn]
  rfl
theorem one_tok {w : World} {A : Option Addr} {t : Tk} (h : TV w A [t]) : ∃ g, A = some ⟨g, 0, none⟩ ∧ g < w.heap.size ∧ w.cell? ⟨g, 0, none⟩ = some (.int .i64 t.k) ∧ w.cell? ⟨g, 2, none⟩ = some (.int .i64 t.n) := by
  obtain ⟨g, hA, T⟩ := h.get (k := 0) (t := t) rfl
  refine ⟨g, hA, T.lt, ?_, ?_⟩
  · have := T.k; rwa [Nat.zero_mul] at this
  · have := T.n; rwa [Nat.zero_mul, Nat.zero_add] at this
theorem cut_num {s : ByteArray} {x : Int} (h : lcut 0 s.data.toList = .ok [⟨2, [], x, 0⟩]) (hs : s.size ≤ 1048576) (w : World) : Calls Try.prog 8 #[.string s] w fun e w' => ∃ g c, e = .returned (.tuple #[.slice (some ⟨g, 0, none⟩) 1 c, .int .i64 0, .int .i64 0]) ∧ g < w'.heap.size ∧ w'.cell? ⟨g, 0, none⟩ = some (.int .i64 2) ∧ w'.cell? ⟨g, 2, none⟩ = some (.int .i64 x) ∧ Below w.heap.size w w' := by
  refine (cut_ok h hs w).mono ?_
  rintro e w' ⟨A, c, rfl, hv, _, hb⟩
  obtain ⟨g, rfl, h1, h2, h3⟩ := one_tok hv
  exact ⟨g, c, rfl, h1, h2, h3, hb⟩
theorem zeros_str (s : ByteArray) : (s ++ (⟨#[48, 48, 48, 48, 48, 48, 48, 48, 48, 48, 48, 48, 48, 48, 48, 48, 48, 48, 48, 48, 48, 48]⟩ : ByteArray)).data.toList = s.data.toList ++ zeros := by
  simp [ByteArray.data_append, zeros]
theorem zeros_size (s : ByteArray) : (s ++ (⟨#[48, 48, 48, 48, 48, 48, 48, 48, 48, 48, 48, 48, 48, 48, 48, 48, 48, 48, 48, 48, 48, 48]⟩ : ByteArray)).size = s.size + 22 := by
  rw [ByteArray.size_append]; rfl
theorem num_chain {w wr w1 w2 w4 : World} {o : Obj} (h0 : Below w.heap.size w wr) (h1 : Below (wr.alloc o).heap.size (wr.alloc o) w1) (h2 : Below w1.heap.size w1 w2) (h4 : Below w2.heap.size w2 w4) : Below w.heap.size w w4 := by
  have z0 := h0.size
  have z1 := h1.size
  have z2 := h2.size
  rw [World.size_alloc] at z1
  exact (((h0.alloc z0 o).trans (h1.mono (by simp; omega))).trans (h2.mono (by omega))).trans (h4.mono (by omega))
set_option maxRecDepth 100000 in
set_option maxHeartbeats 8000000 in
theorem numbers_pos (d k : Nat) (w : World) (hd : d < 9223372036854775808) (hk : k < 256) : Calls Try.prog 5 #[.int .i64 (d : Int), .int .u8 (k : Int)] w fun e w' => e = .returned (.bool true) ∧ Below w.heap.size w w' := by
  have hneg : ¬ (d : Int) < 0 := by omega
  go_enter Try.func5, Try.ntmps5
  go_wp2
  go_loopw [7, 8] (fun ss vv wr => ∃ (s : ByteArray) (v : Nat), ss = .string s ∧ vv = .int .u64 (v : Int) ∧ Way d v s.data.toList ∧ v ≤ d ∧ Below w.heap.size w wr) (fun _ vv _ => (intOf vv).toNat)
  case atStart => exact ⟨⟨#[]⟩, d, rfl, rfl, Way.start d, Nat.le_refl _, Below.refl _ _⟩
  case round =>
    obtain ⟨s, v, rfl, rfl, hway, hvd, hbw⟩ := hrel
    have hss := hway.short (by omega)
    have hsz : s.size < 20 := by simpa using hss
    have HW := Lib.hid hway
    have HB := Lib.hid hbw
    have hsb := hbw.size
    have hcv := conv_dig wr v
    have hap : ((⟨#[dig8 v]⟩ : ByteArray) ++ s).data.toList = dig8 v :: s.data.toList := by simp [ByteArray.data_append]
    have HAP := Lib.hid hap
    have hapz : ((⟨#[dig8 v]⟩ : ByteArray) ++ s).size = s.size + 1 := by rw [ByteArray.size_append, show (⟨#[dig8 v]⟩ : ByteArray).size = 1 from rfl]; omega
    have HAZ := Lib.hid hapz
    clear hway hbw hss hap hapz
    by_cases hv : v < 10
    · have hv' : (v : Int) < 10 := by omega
      go_wp2
      go_loop [7, 9] (fun ss jj => ∃ (S : ByteArray) (j : Nat), ss = .string S ∧ jj = .int .i64 (j : Int) ∧ j ≤ 4 ∧ Tells S.data.toList d ∧ S.size ≤ 20 + j) (fun _ jj => 4 - (intOf jj).toNat)
      case atStart => exact ⟨_, 0, rfl, rfl, Nat.zero_le _, by rw [HAP.out]; exact HW.out.last hv, by rw [HAZ.out]; omega⟩
      case round =>
        obtain ⟨S, j, rfl, rfl, hj, hT, hSz⟩ := hrel
        have HT := Lib.hid hT
        clear hT
        by_cases hjk : j < k % 5
        · have hjk' : (j : Int) < (k : Int) % 5 := by omega
          have hp48 : ((⟨#[48]⟩ : ByteArray) ++ S).data.toList = 48 :: S.data.toList := by simp [ByteArray.data_append]
          have H48 := Lib.hid hp48
          have h48z : ((⟨#[48]⟩ : ByteArray) ++ S).size = S.size + 1 := by rw [ByteArray.size_append, show (⟨#[48]⟩ : ByteArray).size = 1 from rfl]; omega
          have H48Z := Lib.hid h48z
          clear hp48 h48z
          go_wp2
          go_round
          case rel => exact ⟨_, j + 1, rfl, by go_num, by omega, by rw [H48.out]; exact HT.out.nought, by rw [H48Z.out]; omega⟩
          case measure => simp [intOf]; omega
        · have hjk' : ¬ (j : Int) < (k : Int) % 5 := by omega
          clear hjk
          by_cases h0 : d = 0
          · have hc : d ≤ 4611686018427387904 := by omega
            have CA := Lib.hid (fun W => cut_num (x := (d : Int)) (s := S) (by have := HT.out.cut; rw [cap62_small (by unfold mst; omega)] at this; exact this) (by omega) W)
            have CB := Lib.hid (fun W => cut_num (x := 0) (s := S ++ ⟨#[48, 48, 48, 48, 48, 48, 48, 48, 48, 48, 48, 48, 48, 48, 48, 48, 48, 48, 48, 48, 48, 48]⟩) (by rw [zeros_str]; have := HT.out.far.cut; rw [show d * 10 ^ 22 = 0 by rw [h0, Nat.zero_mul], cap62_small (by decide)] at this; exact this) (by rw [zeros_size]; omega) W)
            have t0 : ((d : Int) == 0) = true := by rw [h0]; rfl
            have t2 : ¬ (4611686018427387904 : Int) < (d : Int) := by omega
            clear h0 hc
            go_wp2_with (first
              | (go_at_call 8; (with_reducible refine (CA.out _).mono ?_); rintro e w1 ⟨g, c, rfl, hg, a0, a2, hb1⟩; clear CA; replace hb1 := Lib.hid hb1)
              | (go_at_call 8; (with_reducible refine (CB.out _).mono ?_); rintro e w2 ⟨g', c', rfl, hg', b0, b2, hb2⟩; clear CB; have d0 := (hb2.cell (p := ⟨g, 0, none⟩) hg).trans a0; have d2 := (hb2.cell (p := ⟨g, 2, none⟩) hg).trans a2; clear a0 a2; replace hb2 := Lib.hid hb2)
              | (go_at_call 7; refine (wakes_any _).mono ?_; rintro e w4 ⟨rfl, hb4⟩))
            go_ret
            exact ⟨rfl, num_chain HB.out hb1.out hb2.out hb4⟩
          · by_cases hc : d ≤ 4611686018427387904
            · have CA := Lib.hid (fun W => cut_num (x := (d : Int)) (s := S) (by have := HT.out.cut; rw [cap62_small (by unfold mst; omega)] at this; exact this) (by omega) W)
              have CB := Lib.hid (fun W => cut_num (x := 4611686018427387904) (s := S ++ ⟨#[48, 48, 48, 48, 48, 48, 48, 48, 48, 48, 48, 48, 48, 48, 48, 48, 48, 48, 48, 48, 48, 48]⟩) (by rw [zeros_str]; have := HT.out.far.cut; rw [cap_far (by omega)] at this; exact this) (by rw [zeros_size]; omega) W)
              have t0 : ((d : Int) == 0) = false := by rw [beq_eq_false_iff_ne]; omega
              have t1 : (0 : Int) < (d : Int) := by omega
              have t2 : ¬ (4611686018427387904 : Int) < (d : Int) := by omega
              clear h0 hc
              go_wp2_with (first
                | (go_at_call 8; (with_reducible refine (CA.out _).mono ?_); rintro e w1 ⟨g, c, rfl, hg, a0, a2, hb1⟩; clear CA; replace hb1 := Lib.hid hb1)
                | (go_at_call 8; (with_reducible refine (CB.out _).mono ?_); rintro e w2 ⟨g', c', rfl, hg', b0, b2, hb2⟩; clear CB; have d0 := (hb2.cell (p := ⟨g, 0, none⟩) hg).trans a0; have d2 := (hb2.cell (p := ⟨g, 2, none⟩) hg).trans a2; clear a0 a2; replace hb2 := Lib.hid hb2)
                | (go_at_call 7; refine (wakes_any _).mono ?_; rintro e w4 ⟨rfl, hb4⟩))
              go_ret
              exact ⟨rfl, num_chain HB.out hb1.out hb2.out hb4⟩
            · have CA := Lib.hid (fun W => cut_num (x := 4611686018427387904) (s := S) (by have := HT.out.cut; rw [cap62_big (by unfold mst; omega)] at this; exact this) (by omega) W)
              have CB := Lib.hid (fun W => cut_num (x := 4611686018427387904) (s := S ++ ⟨#[48, 48, 48, 48, 48, 48, 48, 48, 48, 48, 48, 48, 48, 48, 48, 48, 48, 48, 48, 48, 48, 48]⟩) (by rw [zeros_str]; have := HT.out.far.cut; rw [cap_far (by omega)] at this; exact this) (by rw [zeros_size]; omega) W)
              have t0 : ((d : Int) == 0) = false := by rw [beq_eq_false_iff_ne]; omega
              have t1 : (0 : Int) < (d : Int) := by omega
              have t2 : (4611686018427387904 : Int) < (d : Int) := by omega
              clear h0 hc
              go_wp2_with (first
                | (go_at_call 8; (with_reducible refine (CA.out _).mono ?_); rintro e w1 ⟨g, c, rfl, hg, a0, a2, hb1⟩; clear CA; replace hb1 := Lib.hid hb1)
                | (go_at_call 8; (with_reducible refine (CB.out _).mono ?_); rintro e w2 ⟨g', c', rfl, hg', b0, b2, hb2⟩; clear CB; have d0 := (hb2.cell (p := ⟨g, 0, none⟩) hg).trans a0; have d2 := (hb2.cell (p := ⟨g, 2, none⟩) hg).trans a2; clear a0 a2; replace hb2 := Lib.hid hb2)
                | (go_at_call 7; refine (wakes_any _).mono ?_; rintro e w4 ⟨rfl, hb4⟩))
              go_ret
              exact ⟨rfl, num_chain HB.out hb1.out hb2.out hb4⟩
    · have hv' : ¬ (v : Int) < 10 := by omega
      go_wp2
      refine ⟨⟨_, v / 10, rfl, by go_num, by rw [HAP.out]; exact HW.out.more (by omega), by omega, HB.out.alloc hsb _⟩, by simp [intOf]; omega⟩
set_option maxRecDepth 100000 in
set_option maxHeartbeats 8000000 in
theorem numbers_neg (d k : Nat) (w : World) (hd0 : 1 ≤ d) (hd : d ≤ 9223372036854775808) (hk : k < 256) : Calls Try.prog 5 #[.int .i64 (-(d : Int)), .int .u8 (k : Int)] w fun e w' => e = .returned (.bool true) ∧ Below w.heap.size w w' := by
  have hneg : (-(d : Int)) < 0 := by omega
  have hdt : decide (0 < d) = true := decide_eq_true hd0
  go_enter Try.func5, Try.ntmps5
  go_wp2
  have he : -(-(d : Int) + 1) + 1 = (d : Int) := by omega
  go_loopw [7, 8] (fun ss vv wr => ∃ (s : ByteArray) (v : Nat), ss = .string s ∧ vv = .int .u64 (v : Int) ∧ Way d v s.data.toList ∧ v ≤ d ∧ Below w.heap.size w wr) (fun _ vv _ => (intOf vv).toNat)
  case atStart => exact ⟨⟨#[]⟩, d, rfl, by congr 1, Way.start d, Nat.le_refl _, Below.refl _ _⟩
  case round =>
    obtain ⟨s, v, rfl, rfl, hway, hvd, hbw⟩ := hrel
    have hss := hway.short (by omega)
    have hsz : s.size < 20 := by simpa using hss
    have HW := Lib.hid hway
    have HB := Lib.hid hbw
    have hsb := hbw.size
    have hcv := conv_dig wr v
    have hap : ((⟨#[dig8 v]⟩ : ByteArray) ++ s).data.toList = dig8 v :: s.data.toList := by simp [ByteArray.data_append]
    have HAP := Lib.hid hap
    have hapz : ((⟨#[dig8 v]⟩ : ByteArray) ++ s).size = s.size + 1 := by rw [ByteArray.size_append, show (⟨#[dig8 v]⟩ : ByteArray).size = 1 from rfl]; omega
    have HAZ := Lib.hid hapz
    clear hway hbw hss hap hapz
    by_cases hv : v < 10
    · have hv' : (v : Int) < 10 := by omega
      go_wp2
      go_loop [7, 9] (fun ss jj => ∃ (S : ByteArray) (j : Nat), ss = .string S ∧ jj = .int .i64 (j : Int) ∧ j ≤ 4 ∧ Tells S.data.toList d ∧ S.size ≤ 20 + j) (fun _ jj => 4 - (intOf jj).toNat)
      case atStart => exact ⟨_, 0, rfl, rfl, Nat.zero_le _, by rw [HAP.out]; exact HW.out.last hv, by rw [HAZ.out]; omega⟩
      case round =>
        obtain ⟨S, j, rfl, rfl, hj, hT, hSz⟩ := hrel
        have HT := Lib.hid hT
        clear hT
        by_cases hjk : j < k % 5
        · have hjk' : (j : Int) < (k : Int) % 5 := by omega
          have hp48 : ((⟨#[48]⟩ : ByteArray) ++ S).data.toList = 48 :: S.data.toList := by simp [ByteArray.data_append]
          have H48 := Lib.hid hp48
          have h48z : ((⟨#[48]⟩ : ByteArray) ++ S).size = S.size + 1 := by rw [ByteArray.size_append, show (⟨#[48]⟩ : ByteArray).size = 1 from rfl]; omega
          have H48Z := Lib.hid h48z
          clear hp48 h48z
          go_wp2
          go_round
          case rel => exact ⟨_, j + 1, rfl, by go_num, by omega, by rw [H48.out]; exact HT.out.nought, by rw [H48Z.out]; omega⟩
          case measure => simp [intOf]; omega
        · have hjk' : ¬ (j : Int) < (k : Int) % 5 := by omega
          clear hjk
          by_cases h0 : d = 0
          · exact absurd h0 (by omega)
          · by_cases hc : d ≤ 4611686018427387904
            · have hm45 : ((⟨#[45]⟩ : ByteArray) ++ S).data.toList = 45 :: S.data.toList := by simp [ByteArray.data_append]
              have hm45z : ((⟨#[45]⟩ : ByteArray) ++ S).size = S.size + 1 := by rw [ByteArray.size_append, show (⟨#[45]⟩ : ByteArray).size = 1 from rfl]; omega
              have CA := Lib.hid (fun W => cut_num (x := (-(d : Int))) (s := ((⟨#[45]⟩ : ByteArray) ++ S)) (by rw [hm45]; have := HT.out.cutm; rw [cap62_small (by unfold mst; omega)] at this; exact this) (by rw [hm45z]; omega) W)
              have CB := Lib.hid (fun W => cut_num (x := (-4611686018427387904)) (s := ((⟨#[45]⟩ : ByteArray) ++ S) ++ ⟨#[48, 48, 48, 48, 48, 48, 48, 48, 48, 48, 48, 48, 48, 48, 48, 48, 48, 48, 48, 48, 48, 48]⟩) (by rw [zeros_str, hm45, List.cons_append]; have := HT.out.far.cutm; rw [cap_far (by omega)] at this; exact this) (by rw [zeros_size, hm45z]; omega) W)
              clear hm45 hm45z
              have t0 : ((-(d : Int)) == 0) = false := by rw [beq_eq_false_iff_ne]; omega
              have t1 : ¬ (0 : Int) < -(d : Int) := by omega
              have t2 : ¬ (4611686018427387904 : Int) < (d : Int) := by omega
              clear h0 hc
              go_wp2_with (first
                | (go_at_call 8; (with_reducible refine (CA.out _).mono ?_); rintro e w1 ⟨g, c, rfl, hg, a0, a2, hb1⟩; clear CA; replace hb1 := Lib.hid hb1)
                | (go_at_call 8; (with_reducible refine (CB.out _).mono ?_); rintro e w2 ⟨g', c', rfl, hg', b0, b2, hb2⟩; clear CB; have d0 := (hb2.cell (p := ⟨g, 0, none⟩) hg).trans a0; have d2 := (hb2.cell (p := ⟨g, 2, none⟩) hg).trans a2; clear a0 a2; replace hb2 := Lib.hid hb2)
                | (go_at_call 7; refine (wakes_any _).mono ?_; rintro e w4 ⟨rfl, hb4⟩))
              go_ret
              exact ⟨rfl, num_chain HB.out hb1.out hb2.out hb4⟩
            · have hm45 : ((⟨#[45]⟩ : ByteArray) ++ S).data.toList = 45 :: S.data.toList := by simp [ByteArray.data_append]
              have hm45z : ((⟨#[45]⟩ : ByteArray) ++ S).size = S.size + 1 := by rw [ByteArray.size_append, show (⟨#[45]⟩ : ByteArray).size = 1 from rfl]; omega
              have CA := Lib.hid (fun W => cut_num (x := (-4611686018427387904)) (s := ((⟨#[45]⟩ : ByteArray) ++ S)) (by rw [hm45]; have := HT.out.cutm; rw [cap62_big (by unfold mst; omega)] at this; exact this) (by rw [hm45z]; omega) W)
              have CB := Lib.hid (fun W => cut_num (x := (-4611686018427387904)) (s := ((⟨#[45]⟩ : ByteArray) ++ S) ++ ⟨#[48, 48, 48, 48, 48, 48, 48, 48, 48, 48, 48, 48, 48, 48, 48, 48, 48, 48, 48, 48, 48, 48]⟩) (by rw [zeros_str, hm45, List.cons_append]; have := HT.out.far.cutm; rw [cap_far (by omega)] at this; exact this) (by rw [zeros_size, hm45z]; omega) W)
              clear hm45 hm45z
              have t0 : ((-(d : Int)) == 0) = false := by rw [beq_eq_false_iff_ne]; omega
              have t1 : ¬ (0 : Int) < -(d : Int) := by omega
              have t2 : (4611686018427387904 : Int) < (d : Int) := by omega
              clear h0 hc
              go_wp2_with (first
                | (go_at_call 8; (with_reducible refine (CA.out _).mono ?_); rintro e w1 ⟨g, c, rfl, hg, a0, a2, hb1⟩; clear CA; replace hb1 := Lib.hid hb1)
                | (go_at_call 8; (with_reducible refine (CB.out _).mono ?_); rintro e w2 ⟨g', c', rfl, hg', b0, b2, hb2⟩; clear CB; have d0 := (hb2.cell (p := ⟨g, 0, none⟩) hg).trans a0; have d2 := (hb2.cell (p := ⟨g, 2, none⟩) hg).trans a2; clear a0 a2; replace hb2 := Lib.hid hb2)
                | (go_at_call 7; refine (wakes_any _).mono ?_; rintro e w4 ⟨rfl, hb4⟩))
              go_ret
              exact ⟨rfl, num_chain HB.out hb1.out hb2.out hb4⟩
    · have hv' : ¬ (v : Int) < 10 := by omega
      go_wp2
      refine ⟨⟨_, v / 10, rfl, by go_num, by rw [HAP.out]; exact HW.out.more (by omega), by omega, HB.out.alloc hsb _⟩, by simp [intOf]; omega⟩
theorem law_numbers (n k : Int) (w : World) (hn : -9223372036854775808 ≤ n ∧ n < 9223372036854775808) (hk : 0 ≤ k ∧ k < 256) : Calls Try.prog 5 #[.int .i64 n, .int .u8 k] w fun e w' => e = .returned (.bool true) ∧ Below w.heap.size w w' := by
  obtain ⟨k', rfl⟩ : ∃ k' : Nat, k = (k' : Int) := ⟨k.toNat, by omega⟩
  by_cases h : 0 ≤ n
  · obtain ⟨d, rfl⟩ : ∃ d : Nat, n = (d : Int) := ⟨n.toNat, by omega⟩
    exact numbers_pos d k' w (by omega) (by omega)
  · obtain ⟨d, rfl⟩ : ∃ d : Nat, n = -(d : Int) := ⟨(-n).toNat, by omega⟩
    exact numbers_neg d k' w (by omega) (by omega) (by omega)
end Go.Proofs.Ytlfcmlaffhcaiaa
