/- The document's own answers, second part: limbs of 64 bits by limbs of 32 bits and back; a copy; gessolaw01.same. -/
import Derived.Test.YthdpllhpdjhogaaRefA
import Derived.Test.YthdpllhpdjhogaaWord
import Derived.Test.YthdpllhpdjhogaaParse
import Derived.Laws.AppendOwnNone
import Derived.Deep.RegionLaw
namespace Go.Proofs.Ythdpllhpdjhogaa
open Go.RowKit

theorem info_u32 : (Try.prog.info? 62).map (fun i => (i.zero, i.size, i.bytes)) = some (some (.int .u32 0), 1, 4) := by kernel_rfl

/-- append(a, x...): a nil or the call's own, x whatever. -/
theorem wpList_appendR (K : IntKind) (T E : TypeId) (bytes : Nat) (z : Value) (hz1 : z.cells.size = 1) (ht : Try.prog.underlying T = some (.slice E)) (hinfo : (Try.prog.info? E).map (fun i => (i.zero, i.size, i.bytes)) = some (some z, 1, bytes)) (hby : bytes ≤ 8)
    (w : World) {ops : Array Oper} {rest : List Oper} {o : Oper} {a : Act} {Q : Exit → Act → World → Prop} (hgd : o.guard = none) (s x : Operand)
    (ho : o.op = .call { callee := .builtin .append, args := #[s, x], argTypes := #[T, T] })
    (B : Nat) (A : Option Addr) (n c : Nat) (l : List Nat) (hs : a.eval s = .slice A n c) (hfr : Fr K E w B A n c l) (hnc : n ≤ c) (hcm : c ≤ maxLen) (X : Option Addr) (m d : Nat) (ys : List Nat) (hx : a.eval x = .slice X m d) (hX : X = none → d = 0) (hr : Rd K w X m ys)
    (hn : n + m ≤ 17592186044415) (hB : B ≤ w.heap.size)
    (h : ∀ A' c' w', Fr K E w' B A' (n + m) c' (l ++ ys) → n + m ≤ c' → c' ≤ maxLen → Below B w w' → w.grownBy w' (Value.slice A n c).ownBlock → wpList Try.prog ops Q rest (a.put o.dst (.slice A' (n + m) c')) w') :
    wpList Try.prog ops Q (o :: rest) a w := by
  obtain ⟨i0, hi, hz0, hzs, hzb⟩ := info_parts hinfo
  cases X with
  | none =>
    obtain rfl : d = 0 := hX rfl
    have hm : m = 0 := by
      rcases Nat.eq_zero_or_pos m with h0 | h0
      · exact h0
      · obtain ⟨b, o, e, _⟩ := hr.2 h0; cases e
    subst hm
    obtain rfl : ys = [] := List.eq_nil_of_length_eq_zero hr.1
    refine wpList_append_own_none hgd s x T ho B E i0 1 ht hi _ n (nums K l) hs hfr.2 hx ?_
    have := h A c w (by simpa using hfr) hnc hcm (Below.refl _ _) (World.grownBy.refl _ _)
    exact this
  | some ad =>
    refine wpList_append_own w hgd s x T ho B E i0 z 1 bytes ht hi hz0 hzs hzb hz1 (by omega) _ n (nums K l) hs hfr.2 ad m d (nums K ys) hx (by rw [length_nums, hr.1, Nat.mul_one]) ?_ (nums_one _ _) (by unfold maxLen; omega) ?_ hB ?_
    · intro j u hu
      rw [nums_get] at hu
      obtain ⟨y, hy, rfl⟩ := Option.map_eq_some_iff.1 hu
      have hj : j < m := by have := (List.getElem?_eq_some_iff.1 hy).1; have := hr.1; omega
      obtain ⟨b, o, e, hc⟩ := hr.2 (by omega)
      cases e
      rw [add_at]; exact hc j y hy
    · calc (n + m) * bytes ≤ (n + m) * 8 := Nat.mul_le_mul_left _ hby
        _ ≤ _ := by omega
    · intro v' w' hown hgrow hnil
      have hown' : w'.ownsRow B E 1 v' (n + m) (nums K (l ++ ys)) := by rw [nums_append]; exact hown
      have hbl : Below B w w' := (Below.refl _ _).grown hgrow hB (fun k hk => (hfr.2.lt k hk).1)
      obtain ⟨h1, h2⟩ := hown'
      rcases h2 with ⟨h2, h3⟩ | ⟨g2, cap, cur, hv, hg, hh, hc1, hc2, hs2, ht2⟩
      · obtain ⟨h4, h5⟩ := hnil.1 h2
        subst h2
        have e0 : n + m = 0 := h3
        have := h none 0 w' ⟨by rw [List.length_append, hfr.1, hr.1], h1, .inl ⟨by rw [e0], e0⟩⟩ (by omega) (Nat.zero_le _) hbl hgrow
        rw [e0] at this
        exact this
      · subst hv
        exact h _ _ w' ⟨by rw [List.length_append, hfr.1, hr.1], h1, .inr ⟨g2, cap, cur, rfl, hg, hh, hc1, hc2, hs2, ht2⟩⟩ hc1 hc2 hbl hgrow

/-- The same as one step of a region that draws its order; x some slice. -/
theorem step_appendS (K : IntKind) (T E : TypeId) (bytes : Nat) (z : Value) (hz1 : z.cells.size = 1) (ht : Try.prog.underlying T = some (.slice E)) (hinfo : (Try.prog.info? E).map (fun i => (i.zero, i.size, i.bytes)) = some (some z, 1, bytes)) (hby : bytes ≤ 8)
    (w : World) {ops : Array Oper} {o : Oper} {a : Act} {G : Act → World → Prop} {Q : Exit → Act → World → Prop} {F : Prop} (hgd : o.guard = none) (s x : Operand)
    (ho : o.op = .call { callee := .builtin .append, args := #[s, x], argTypes := #[T, T] })
    (B : Nat) (A : Option Addr) (n c : Nat) (l : List Nat) (hs : a.eval s = .slice A n c) (hfr : Fr K E w B A n c l) (ad : Addr) (m d : Nat) (ys : List Nat) (hx : a.eval x = .slice (some ad) m d) (hr : Rd K w (some ad) m ys) (hm0 : 0 < m)
    (hn : n + m ≤ 17592186044415) (hB : B ≤ w.heap.size)
    (h : ∀ A' c' w', Fr K E w' B A' (n + m) c' (l ++ ys) → n + m ≤ c' → c' ≤ maxLen → Below B w w' → G (a.put o.dst (.slice A' (n + m) c')) w') :
    if Region.wanted o (yielded ops a.tmps) = true then Oper.wp Try.prog o a w G Q else F := by
  have hw : Region.wanted o (yielded ops a.tmps) = true := by simp [Region.wanted, hgd]
  rw [if_pos hw]
  obtain ⟨i0, hi, hz0, hzs, hzb⟩ := info_parts hinfo
  refine wp_append_own w s x T ho B E i0 z 1 bytes ht hi hz0 hzs hzb hz1 (by omega) _ n (nums K l) hs hfr.2 ad m d (nums K ys) hx (by rw [length_nums, hr.1, Nat.mul_one]) ?_ (nums_one _ _) (by unfold maxLen; omega) ?_ hB ?_
  · intro j u hu
    rw [nums_get] at hu
    obtain ⟨y, hy, rfl⟩ := Option.map_eq_some_iff.1 hu
    obtain ⟨b, o, e, hc⟩ := hr.2 (by omega)
    cases e
    rw [add_at]; exact hc j y hy
  · calc (n + m) * bytes ≤ (n + m) * 8 := Nat.mul_le_mul_left _ hby
      _ ≤ _ := by omega
  · intro v' w' hown hgrow hnil
    have hown' : w'.ownsRow B E 1 v' (n + m) (nums K (l ++ ys)) := by rw [nums_append]; exact hown
    have hbl : Below B w w' := (Below.refl _ _).grown hgrow hB (fun k hk => (hfr.2.lt k hk).1)
    obtain ⟨h1, h2⟩ := hown'
    rcases h2 with ⟨h2, h3⟩ | ⟨g2, cap, cur, hv, hg, hh, hc1, hc2, hs2, ht2⟩
    · omega
    · subst hv
      exact h _ _ w' ⟨by rw [List.length_append, hfr.1, hr.1], h1, .inr ⟨g2, cap, cur, rfl, hg, hh, hc1, hc2, hs2, ht2⟩⟩ hc1 hc2 hbl

/-- gessokeep.Nat: a copy. -/
theorem keepNat_any (l : List Nat) (A : Option Addr) (n c : Nat) (w : World) (h : Rd .u64 w A n l) (hA : A = none → c = 0) (hn : n ≤ 17592186044415) :
    Calls Try.prog 12 #[.slice A n c] w (GivesS .u64 34 w l) := by
  have hfr0 : Fr .u64 34 (w.alloc (.cells #[] 34)) w.heap.size (some ⟨w.heap.size, 0, none⟩) 0 0 [] :=
    Fr.of_own (L := []) (k := 0) (heap_alloc_new w _) (Nat.le_refl _) (Nat.le_refl _) (Nat.zero_le _)
  have HF := Lib.hid hfr0
  have HA := Lib.hid hA
  clear hfr0 hA
  go_enter Try.func12, Try.ntmps12
  go_wp2_with (at_builtin; refine wpList_appendR .u64 22 34 8 (.int .u64 0) rfl Try.underlying22 info_u64 (by omega) _ rfl (.tmp 3) (.tmp 4) rfl w.heap.size _ 0 0 [] rfl HF.out (Nat.le_refl _) (Nat.zero_le _) A n c l rfl HA.out (h.alloc _) (by omega) (by simp) ?_; intro A' c' w' p1 p2 p3 p4 p5)
  go_ret
  rw [Nat.zero_add] at p1 p2
  exact ⟨_, _, _, rfl, p2, p3, p1, ((Below.refl _ _).alloc (Nat.le_refl _) _).trans p4⟩

theorem lit2_rd {K : IntKind} {e : TypeId} (w : World) (L : List Nat) (n : Nat) (hn : L.length = n) : Rd K (w.alloc (.cells (nums K L).toArray e)) (some ⟨w.heap.size, 0, none⟩) n L :=
  Own.rd (heap_alloc_new w _) hn (fun j x hx => by rw [Nat.zero_add]; exact hx)
theorem wrap32_nat (x : Nat) : IntKind.u32.wrap (x : Int) = ((x % B32 : Nat) : Int) := by
  rw [IntKind.wrap_u32, show B32 = 4294967296 from rfl]; omega
theorem wrap32_hi {x : Nat} (hx : x < B64) : IntKind.u32.wrap ((x : Int) / 4294967296) = ((x / B32 : Nat) : Int) := by
  have h : x / B32 < B32 := by rw [Nat.div_lt_iff_lt_mul (by decide)]; exact hx
  have := wrap32_nat (x / B32)
  rw [Nat.mod_eq_of_lt h] at this
  exact this
theorem Fr.cut {K : IntKind} {e : TypeId} {w : World} {B n c k : Nat} {A : Option Addr} {l : List Nat} (h : Fr K e w B A n c l) (hk : k ≤ n) : Fr K e w B A k c (l.take k) := by
  refine ⟨by rw [List.length_take, h.1]; omega, by rw [length_nums, List.length_take, h.1]; omega, ?_⟩
  rcases h.2.2 with ⟨h1, h2⟩ | ⟨g, cap, cur, hv, hg, hh, hc1, hc2, hs, ht⟩
  · injection h1 with ha hb hc
    exact .inl ⟨by rw [ha, hc, show k = 0 by omega], by omega⟩
  · injection hv with ha _ hc
    refine .inr ⟨g, cap, cur, by rw [ha, hc], hg, hh, by omega, hc2, hs, ?_⟩
    rw [nums_take, ← ht, List.take_take, Nat.mul_one, Nat.mul_one, Nat.min_eq_left hk]
/-- Limbs of 64 bits by limbs of 32 bits. -/
def cut32 : List Nat → List Nat
  | [] => []
  | x :: l => x % B32 :: x / B32 :: cut32 l
theorem cut32_val (l : List Nat) : val B32 (cut32 l) = val B64 l := by
  induction l with
  | nil => rfl
  | cons x l ih =>
    rw [cut32, val_cons, val_cons, val_cons, ih]
    have h1 := Nat.mod_add_div x B32
    have h2 : B64 = B32 * B32 := rfl
    rw [h2]
    grind
theorem cut32_lim {l : List Nat} (h : Lim B64 l) : Lim B32 (cut32 l) := by
  induction l with
  | nil => exact Lim.nil
  | cons x l ih =>
    refine Lim.cons (Nat.mod_lt _ (by decide)) (Lim.cons ?_ (ih h.tail))
    rw [Nat.div_lt_iff_lt_mul (by decide)]; exact h.head
theorem cut32_append (a b : List Nat) : cut32 (a ++ b) = cut32 a ++ cut32 b := by
  induction a with
  | nil => rfl
  | cons x a ih => simp [cut32, ih]
theorem cut32_length (l : List Nat) : (cut32 l).length = 2 * l.length := by
  induction l with
  | nil => rfl
  | cons x l ih => simp [cut32, ih]; omega

set_option maxRecDepth 100000 in
set_option maxHeartbeats 1000000 in
theorem rin_any (l : List Nat) (A : Option Addr) (n c : Nat) (w : World) (h : Rd .u64 w A n l) (hL : Lim B64 l) (hn0 : n ≤ 1000000) :
    Calls Try.prog 11 #[.slice A n c] w (GivesS .u32 62 w (limbs B32 (val B64 l))) := by
  have hn : n ≤ 1000000 := hn0
  have HL := Lib.hid h.1
  clear hn0
  go_enter Try.func11, Try.ntmps11
  go_wp2_with fail
  go_loopw [3, 4] (fun v i wr => ∃ (k c' : Nat) (A' : Option Addr), k ≤ n ∧ i = .int .i64 k ∧ v = .slice A' (2 * k) c' ∧ 2 * k ≤ c' ∧ Hid (c' ≤ maxLen) ∧ Fr .u32 62 wr w.heap.size A' (2 * k) c' (cut32 (l.take k)) ∧ Below w.heap.size w wr) (fun _ i _ => n - (intOf i).toNat)
  case atStart => exact ⟨0, 0, none, Nat.zero_le _, rfl, rfl, Nat.le_refl _, by show 0 ≤ maxLen; decide, Fr.nil, Below.refl _ _⟩
  case round =>
    obtain ⟨k, c', A', hk, rfl, rfl, hkc, HC, hfr, hbl⟩ := hrel
    by_cases hlt : k < n
    · have h' := h.below hbl
      obtain ⟨b, o, rfl, hc⟩ := h'.at_ (by omega)
      obtain ⟨x, hx, hcx⟩ := hc k hlt
      have HX := Lib.hid hx
      obtain ⟨lo, hlo⟩ : ∃ lo, lo = x % B32 := ⟨_, rfl⟩
      obtain ⟨hi, hhi⟩ : ∃ hi, hi = x / B32 := ⟨_, rfl⟩
      have hxB := hL.get hx
      have e1 : IntKind.u32.wrap (x : Int) = (lo : Int) := by rw [hlo]; exact wrap32_nat x
      have e2 : IntKind.u32.wrap ((x : Int) / 4294967296) = (hi : Int) := by rw [hhi]; exact wrap32_hi hxB
      have hfr2 : Fr .u32 62 (wr.alloc (.cells #[.int .u32 (lo : Int), .int .u32 (hi : Int)] 62)).drew w.heap.size A' (2 * k) c' (cut32 (l.take k)) := by
        have := hfr.below (B' := wr.heap.size) ((Below.refl wr.heap.size wr).alloc (Nat.le_refl _) (.cells #[.int .u32 (lo : Int), .int .u32 (hi : Int)] 62)) (Nat.le_refl _)
        exact ⟨this.1, this.2⟩
      have hlit : Rd .u32 (wr.alloc (.cells #[.int .u32 (lo : Int), .int .u32 (hi : Int)] 62)).drew (some ⟨wr.heap.size, 0, none⟩) 2 [lo, hi] := (lit2_rd wr [lo, hi] 2 rfl).drew
      have hsz2 : w.heap.size ≤ ((wr.alloc (.cells #[.int .u32 (lo : Int), .int .u32 (hi : Int)] 62)).drew).heap.size := by (have := hbl.size; simp; omega)
      have HLO := Lib.hid hlo
      have HHI := Lib.hid hhi
      clear hc hx hlo hhi
      go_wp2_with fail
      go_region_law (first
        | (refine step_appendS .u32 25 62 4 (.int .u32 0) rfl Try.underlying25 info_u32 (by omega) _ rfl (.tmp 11) (.tmp 23) rfl w.heap.size A' (2 * k) c' (cut32 (l.take k)) rfl hfr2 ⟨wr.heap.size, 0, none⟩ 2 2 [lo, hi] rfl hlit (by omega) (by omega) hsz2 ?_
           intro A2 c2 w2 p1 p2 p3 p4))
      all_goals
        go_wp2_with fail
        go_roundw
        case rel =>
          have hkl : k < l.length := by have := HL.out; omega
          have ht : l.take (k + 1) = l.take k ++ [x] := by rw [List.take_succ_eq_append_getElem hkl, (List.getElem?_eq_some_iff.1 HX.out).2]
          have hc2 : cut32 (l.take (k + 1)) = cut32 (l.take k) ++ [lo, hi] := by rw [ht, cut32_append, HLO.out, HHI.out]; rfl
          refine ⟨k + 1, c2, A2, by omega, by go_num, rfl, p2, p3, ?_, (show Below w.heap.size w (wr.alloc (.cells #[.int .u32 (lo : Int), .int .u32 (hi : Int)] 62)).drew from (hbl.alloc hbl.size _).drew).trans p4⟩
          rw [hc2]; exact p1
        case measure => simp [intOf]; omega
    · obtain rfl : k = n := by omega
      have hfr3 := hfr
      rw [List.take_of_length_le (by have := HL.out; omega)] at hfr3
      go_wp2_with (go_at_call 42; refine (rtrim_any (cut32 l) A' (2 * k) c' wr hfr3.rd (cut32_lim hL) (by unfold maxLen; omega) hkc).mono ?_; rintro e w' ⟨⟨j, hj, rfl, hj2, hj3⟩, rfl⟩)
      go_ret
      have hcut := hfr3.cut hj
      rw [← hj2, cut32_val] at hcut
      exact ⟨_, _, _, rfl, by omega, HC.out, hcut, hbl⟩
end Go.Proofs.Ythdpllhpdjhogaa
