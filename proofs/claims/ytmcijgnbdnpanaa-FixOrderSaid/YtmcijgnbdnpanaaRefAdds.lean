/- The document's own answers, first part: gessoref01.trim, Cmp. The document's own answers, second part: limbs of 64 bits by limbs of 32 bits and back; a copy; gessolaw01.same. The document's own answers, third part: back to limbs of 64 bits; gessolaw01.same. The document's own answers, fourth part: gessoref01.Add. The document's own answers, fifth part: gessoref01.Sub. -/
import Derived.Test.YtmcijgnbdnpanaaSums
import Derived.Test.YtmcijgnbdnpanaaBase
import Derived.Test.YtmcijgnbdnpanaaParseF
import Derived.Laws.AppendOwnNone
import Derived.Deep.RegionLaw
namespace Go.Proofs.Ytmcijgnbdnpanaa
open Go.RowKit

theorem rcmp_of_length {a b : Nat} (h : (limbs B32 a).length < (limbs B32 b).length) : a < b :=
  Nat.lt_of_lt_of_le (lt_pow_limbs B32_two a) (pow_le_of_length B32_two h)

end Go.Proofs.Ytmcijgnbdnpanaa
namespace Go.Proofs.Ytmcijgnbdnpanaa
open Go.RowKit

theorem info_u32 : (Try.prog.info? 138).map (fun i => (i.zero, i.size, i.bytes)) = some (some (.int .u32 0), 1, 4) := by kernel_rfl

/-- append(a, x...): a nil or the call's own, x whatever. -/
theorem wpList_appendR (K : IntKind) (T E : TypeId) (bytes : Nat) (z : Value) (hz1 : z.cells.size = 1) (ht : Try.prog.underlying T = some (.slice E)) (hinfo : (Try.prog.info? E).map (fun i => (i.zero, i.size, i.bytes)) = some (some z, 1, bytes)) (hby : bytes ≤ 8)
    (w : World) {ops : Array Oper} {rest : List Oper} {o : Oper} {a : Act} {Q : Exit → Act → World → Prop} (hgd : o.guard = none) (s x : Operand)
    (ho : o.op = .call { callee := .builtin .append, args := #[s, x], argTypes := #[T, T] })
    (B : Nat) (A : Option Addr) (n c : Nat) (l : List Nat) (hs : a.eval s = .slice A n c) (hfr : Fr K E w B A n c l) (hnc : n ≤ c) (hcm : c ≤ maxLen) (X : Option Addr) (m d : Nat) (ys : List Nat) (hx : a.eval x = .slice X m d) (hX : X = none → d = 0) (hr : Rd K w X m ys)
    (hn : n + m ≤ 17592186044415) (hB : B ≤ w.heap.size)
    (h : ∀ A' c' w', Fr K E w' B A' (n + m) c' (l ++ ys) → n + m ≤ c' → c' ≤ maxLen → Below B w w' → w.grownBy w' (Value.slice A n c).ownBlock → wpList Try.prog ops Q rest (a.put o.dst (.slice A' (n + m) c')) w') :
    wpList Try.prog ops Q (o :: rest) a w := by
  obtain ⟨i0, hi, hz0, hzs, hzb⟩ := info_parts hinfo
  cases X with
  | none =>
    obtain rfl : d = 0 := hX rfl
    have hm : m = 0 := by
      rcases Nat.eq_zero_or_pos m with h0 | h0
      · exact h0
      · obtain ⟨b, o, e, _⟩ := hr.2 h0; cases e
    subst hm
    obtain rfl : ys = [] := List.eq_nil_of_length_eq_zero hr.1
    refine wpList_append_own_none hgd s x T ho B E i0 1 ht hi _ n (nums K l) hs hfr.2 hx ?_
    have := h A c w (by simpa using hfr) hnc hcm (Below.refl _ _) (World.grownBy.refl _ _)
    exact this
  | some ad =>
    refine wpList_append_own w hgd s x T ho B E i0 z 1 bytes ht hi hz0 hzs hzb hz1 (by omega) _ n (nums K l) hs hfr.2 ad m d (nums K ys) hx (by rw [length_nums, hr.1, Nat.mul_one]) ?_ (nums_one _ _) (by unfold maxLen; omega) ?_ hB ?_
    · intro j u hu
      rw [nums_get] at hu
      obtain ⟨y, hy, rfl⟩ := Option.map_eq_some_iff.1 hu
      have hj : j < m := by have := (List.getElem?_eq_some_iff.1 hy).1; have := hr.1; omega
      obtain ⟨b, o, e, hc⟩ := hr.2 (by omega)
      cases e
      rw [add_at]; exact hc j y hy
    · calc (n + m) * bytes ≤ (n + m) * 8 := Nat.mul_le_mul_left _ hby
        _ ≤ _ := by omega
    · intro v' w' hown hgrow hnil
      have hown' : w'.ownsRow B E 1 v' (n + m) (nums K (l ++ ys)) := by rw [nums_append]; exact hown
      have hbl : Below B w w' := (Below.refl _ _).grown hgrow hB (fun k hk => (hfr.2.lt k hk).1)
      obtain ⟨h1, h2⟩ := hown'
      rcases h2 with ⟨h2, h3⟩ | ⟨g2, cap, cur, hv, hg, hh, hc1, hc2, hs2, ht2⟩
      · obtain ⟨h4, h5⟩ := hnil.1 h2
        subst h2
        have e0 : n + m = 0 := h3
        have := h none 0 w' ⟨by rw [List.length_append, hfr.1, hr.1], h1, .inl ⟨by rw [e0], e0⟩⟩ (by omega) (Nat.zero_le _) hbl hgrow
        rw [e0] at this
        exact this
      · subst hv
        exact h _ _ w' ⟨by rw [List.length_append, hfr.1, hr.1], h1, .inr ⟨g2, cap, cur, rfl, hg, hh, hc1, hc2, hs2, ht2⟩⟩ hc1 hc2 hbl hgrow

/-- The same as one step of a region that draws its order; x some slice. -/
theorem step_appendS (K : IntKind) (T E : TypeId) (bytes : Nat) (z : Value) (hz1 : z.cells.size = 1) (ht : Try.prog.underlying T = some (.slice E)) (hinfo : (Try.prog.info? E).map (fun i => (i.zero, i.size, i.bytes)) = some (some z, 1, bytes)) (hby : bytes ≤ 8)
    (w : World) {ops : Array Oper} {o : Oper} {a : Act} {G : Act → World → Prop} {Q : Exit → Act → World → Prop} {F : Prop} (hgd : o.guard = none) (s x : Operand)
    (ho : o.op = .call { callee := .builtin .append, args := #[s, x], argTypes := #[T, T] })
    (B : Nat) (A : Option Addr) (n c : Nat) (l : List Nat) (hs : a.eval s = .slice A n c) (hfr : Fr K E w B A n c l) (ad : Addr) (m d : Nat) (ys : List Nat) (hx : a.eval x = .slice (some ad) m d) (hr : Rd K w (some ad) m ys) (hm0 : 0 < m)
    (hn : n + m ≤ 17592186044415) (hB : B ≤ w.heap.size)
    (h : ∀ A' c' w', Fr K E w' B A' (n + m) c' (l ++ ys) → n + m ≤ c' → c' ≤ maxLen → Below B w w' → G (a.put o.dst (.slice A' (n + m) c')) w') :
    if Region.wanted o (yielded ops a.tmps) = true then Oper.wp Try.prog o a w G Q else F := by
  have hw : Region.wanted o (yielded ops a.tmps) = true := by simp [Region.wanted, hgd]
  rw [if_pos hw]
  obtain ⟨i0, hi, hz0, hzs, hzb⟩ := info_parts hinfo
  refine wp_append_own w s x T ho B E i0 z 1 bytes ht hi hz0 hzs hzb hz1 (by omega) _ n (nums K l) hs hfr.2 ad m d (nums K ys) hx (by rw [length_nums, hr.1, Nat.mul_one]) ?_ (nums_one _ _) (by unfold maxLen; omega) ?_ hB ?_
  · intro j u hu
    rw [nums_get] at hu
    obtain ⟨y, hy, rfl⟩ := Option.map_eq_some_iff.1 hu
    obtain ⟨b, o, e, hc⟩ := hr.2 (by omega)
    cases e
    rw [add_at]; exact hc j y hy
  · calc (n + m) * bytes ≤ (n + m) * 8 := Nat.mul_le_mul_left _ hby
      _ ≤ _ := by omega
  · intro v' w' hown hgrow hnil
    have hown' : w'.ownsRow B E 1 v' (n + m) (nums K (l ++ ys)) := by rw [nums_append]; exact hown
    have hbl : Below B w w' := (Below.refl _ _).grown hgrow hB (fun k hk => (hfr.2.lt k hk).1)
    obtain ⟨h1, h2⟩ := hown'
    rcases h2 with ⟨h2, h3⟩ | ⟨g2, cap, cur, hv, hg, hh, hc1, hc2, hs2, ht2⟩
    · omega
    · subst hv
      exact h _ _ w' ⟨by rw [List.length_append, hfr.1, hr.1], h1, .inr ⟨g2, cap, cur, rfl, hg, hh, hc1, hc2, hs2, ht2⟩⟩ hc1 hc2 hbl

theorem lit2_rd {K : IntKind} {e : TypeId} (w : World) (L : List Nat) (n : Nat) (hn : L.length = n) : Rd K (w.alloc (.cells (nums K L).toArray e)) (some ⟨w.heap.size, 0, none⟩) n L :=
  Own.rd (heap_alloc_new w _) hn (fun j x hx => by rw [Nat.zero_add]; exact hx)
theorem wrap32_nat (x : Nat) : IntKind.u32.wrap (x : Int) = ((x % B32 : Nat) : Int) := by
  rw [IntKind.wrap_u32, show B32 = 4294967296 from rfl]; omega
theorem wrap32_hi {x : Nat} (hx : x < B64) : IntKind.u32.wrap ((x : Int) / 4294967296) = ((x / B32 : Nat) : Int) := by
  have h : x / B32 < B32 := by rw [Nat.div_lt_iff_lt_mul (by decide)]; exact hx
  have := wrap32_nat (x / B32)
  rw [Nat.mod_eq_of_lt h] at this
  exact this
theorem Fr.cut {K : IntKind} {e : TypeId} {w : World} {B n c k : Nat} {A : Option Addr} {l : List Nat} (h : Fr K e w B A n c l) (hk : k ≤ n) : Fr K e w B A k c (l.take k) := by
  refine ⟨by rw [List.length_take, h.1]; omega, by rw [length_nums, List.length_take, h.1]; omega, ?_⟩
  rcases h.2.2 with ⟨h1, h2⟩ | ⟨g, cap, cur, hv, hg, hh, hc1, hc2, hs, ht⟩
  · injection h1 with ha hb hc
    exact .inl ⟨by rw [ha, hc, show k = 0 by omega], by omega⟩
  · injection hv with ha _ hc
    refine .inr ⟨g, cap, cur, by rw [ha, hc], hg, hh, by omega, hc2, hs, ?_⟩
    rw [nums_take, ← ht, List.take_take, Nat.mul_one, Nat.mul_one, Nat.min_eq_left hk]
/-- Limbs of 64 bits by limbs of 32 bits. -/
def cut32 : List Nat → List Nat
  | [] => []
  | x :: l => x % B32 :: x / B32 :: cut32 l
theorem cut32_val (l : List Nat) : val B32 (cut32 l) = val B64 l := by
  induction l with
  | nil => rfl
  | cons x l ih =>
    rw [cut32, val_cons, val_cons, val_cons, ih]
    have h1 := Nat.mod_add_div x B32
    have h2 : B64 = B32 * B32 := rfl
    rw [h2]
    grind
theorem cut32_lim {l : List Nat} (h : Lim B64 l) : Lim B32 (cut32 l) := by
  induction l with
  | nil => exact Lim.nil
  | cons x l ih =>
    refine Lim.cons (Nat.mod_lt _ (by decide)) (Lim.cons ?_ (ih h.tail))
    rw [Nat.div_lt_iff_lt_mul (by decide)]; exact h.head
theorem cut32_append (a b : List Nat) : cut32 (a ++ b) = cut32 a ++ cut32 b := by
  induction a with
  | nil => rfl
  | cons x a ih => simp [cut32, ih]
theorem cut32_length (l : List Nat) : (cut32 l).length = 2 * l.length := by
  induction l with
  | nil => rfl
  | cons x l ih => simp [cut32, ih]; omega

end Go.Proofs.Ytmcijgnbdnpanaa
namespace Go.Proofs.Ytmcijgnbdnpanaa
open Go.RowKit

/-- Limbs of 32 bits, two by two. -/
def join32 : List Nat → List Nat
  | [] => []
  | [x] => [x]
  | x :: y :: l => (x + B32 * y) :: join32 l
theorem join32_val : ∀ l : List Nat, val B64 (join32 l) = val B32 l
  | [] => rfl
  | [x] => rfl
  | x :: y :: l => by
    rw [join32, val_cons, val_cons, val_cons, join32_val l]
    have h2 : B64 = B32 * B32 := rfl
    rw [h2]; grind
theorem join32_lim : ∀ {l : List Nat}, Lim B32 l → Lim B64 (join32 l)
  | [], _ => Lim.nil
  | [x], h => Lim.cons (Nat.lt_trans h.head (by decide)) Lim.nil
  | x :: y :: l, h => by
    refine Lim.cons ?_ (join32_lim h.tail.tail)
    have h1 := h.head
    have h2 := h.tail.head
    have h3 := Nat.mul_le_mul_left B32 (show y + 1 ≤ B32 from h2)
    have h4 : B64 = B32 * B32 := rfl
    rw [Nat.mul_add] at h3
    omega
theorem join32_append : ∀ (a b : List Nat), a.length % 2 = 0 → join32 (a ++ b) = join32 a ++ join32 b
  | [], _, _ => rfl
  | [x], _, h => by simp at h
  | x :: y :: a, b, h => by
    rw [List.cons_append, List.cons_append, join32, join32, join32_append a b (by simp at h; omega)]; rfl
theorem join32_length : ∀ l : List Nat, (join32 l).length = (l.length + 1) / 2
  | [] => by simp [join32]
  | [x] => by simp [join32]
  | x :: y :: l => by rw [join32, List.length_cons, join32_length l]; simp; omega
theorem join32_limbs (V : Nat) : join32 (limbs B32 V) = limbs B64 V := by
  have hL := join32_lim (lim_limbs B32_two V)
  have hv : val B64 (join32 (limbs B32 V)) = V := by rw [join32_val, val_limbs B32_two]
  have hlen : (join32 (limbs B32 V)).length = 0 ∨ B64 ^ ((join32 (limbs B32 V)).length - 1) ≤ val B64 (join32 (limbs B32 V)) := by
    rw [hv, join32_length]
    rcases Nat.eq_zero_or_pos (limbs B32 V).length with h | h
    · left; omega
    · right
      have h1 := pow_le_of_length B32_two (n := V) (k := (limbs B32 V).length - 1) (by omega)
      refine Nat.le_trans ?_ h1
      rw [show B64 = B32 ^ 2 from rfl, ← Nat.pow_mul]
      exact Nat.pow_le_pow_right (by decide) (by omega)
  exact (limbs_of_full hL rfl hlen).trans (by rw [hv])

end Go.Proofs.Ytmcijgnbdnpanaa
namespace Go.Proofs.Ytmcijgnbdnpanaa
open Go.RowKit

theorem radd_step {la lb P : List Nat} {k x z y : Nat} (hP : P.length = k) (hx : val B32 (la.take (k + 1)) = val B32 (la.take k) + B32 ^ k * x) (hz : val B32 (lb.take (k + 1)) = val B32 (lb.take k) + B32 ^ k * z)
    (h : val B32 P + B32 ^ k * y = val B32 (la.take k) + val B32 (lb.take k)) :
    val B32 (P ++ [(y + x + z) % B32]) + B32 ^ (k + 1) * ((y + x + z) / B32) = val B32 (la.take (k + 1)) + val B32 (lb.take (k + 1)) := by
  have hp := Nat.mod_add_div (y + x + z) B32
  rw [val_snoc, hx, hz, hP, Nat.pow_succ]
  generalize (y + x + z) % B32 = lo at *
  generalize (y + x + z) / B32 = hi at *
  grind
theorem take_past {l : List Nat} {k : Nat} (h : l.length ≤ k) : val B32 (l.take (k + 1)) = val B32 (l.take k) + B32 ^ k * 0 := by
  rw [List.take_of_length_le h, List.take_of_length_le (by omega)]; simp

end Go.Proofs.Ytmcijgnbdnpanaa
namespace Go.Proofs.Ytmcijgnbdnpanaa
open Go.RowKit

theorem rsub_step {la lb P : List Nat} {k x z y d t : Nat} (hP : P.length = k) (hx : la[k]? = some x) (hz : val B32 (lb.take (k + 1)) = val B32 (lb.take k) + B32 ^ k * z)
    (h : val B32 P + val B32 (lb.take k) = val B32 (la.take k) + B32 ^ k * y) (hd : d + (y + z) = x + B32 * t) :
    val B32 (P ++ [d]) + val B32 (lb.take (k + 1)) = val B32 (la.take (k + 1)) + B32 ^ (k + 1) * t := by
  rw [val_snoc, hz, val_take_succ hx, hP, Nat.pow_succ]
  grind

end Go.Proofs.Ytmcijgnbdnpanaa
