/- A slice of the call's own with spare room: opened to its block, shut again; append of one number. -/
import Derived.Test.YthdpllhpdjhogaaMake
namespace Go.Proofs.Ythdpllhpdjhogaa
open Go.RowKit

/-- Block g holds just the values V, none frozen. -/
def Vow (e : TypeId) (w : World) (g : Nat) (V : List Value) : Prop := w.heap[g]? = some (.cells V.toArray e (0, 0))

section
variable {K : IntKind} {e : TypeId} {w w' : World} {g : Nat} {V : List Value}
theorem Vow.cell (h : Vow e w g V) {i : Nat} {u : Value} (hu : V[i]? = some u) : w.cell? ⟨g, i, none⟩ = some u := by
  rw [cell_of_row w g i _ e (0, 0) h, List.getElem?_toArray, hu]
theorem Vow.frozen (h : Vow e w g V) (i : Nat) : w.frozen? ⟨g, i, none⟩ = false := frozen_of_row w g i _ e h
theorem Vow.set_ (h : Vow e w g V) (i : Nat) (u : Value) : Vow e (w.setCell ⟨g, i, none⟩ u) g (V.set i u) := by
  unfold Vow at h ⊢
  simp [World.setCell, Array.getElem?_modify, h]
theorem Fr.opened {B n c : Nat} {A : Option Addr} {l : List Nat} (h : Fr K e w B A n c l) (hn : 0 < n) :
    ∃ g R, A = some ⟨g, 0, none⟩ ∧ B ≤ g ∧ Vow e w g (nums K l ++ R) ∧ n ≤ c ∧ c ≤ maxLen ∧ R.length + n = c := by
  obtain ⟨h0, h1, h2⟩ := h
  rcases h2 with ⟨h2, h3⟩ | ⟨g, cap, cur, hv, hg, hh, hc1, hc2, hs, ht⟩
  · omega
  · injection hv with ha _ hc
    subst ha; subst hc
    rw [Nat.mul_one] at ht hs
    refine ⟨g, cur.toList.drop n, rfl, hg, ?_, hc1, hc2, ?_⟩
    · unfold Vow
      rw [← ht, List.take_append_drop]
      exact hh
    · rw [List.length_drop, Array.length_toList]; omega
theorem Fr.shut {B n c : Nat} {l : List Nat} {R : List Value} (h : Vow e w g (nums K l ++ R)) (hB : B ≤ g) (hl : l.length = n) (hR : R.length + n = c) (hc : c ≤ maxLen) :
    Fr K e w B (some ⟨g, 0, none⟩) n c l := by
  refine ⟨hl, by rw [length_nums]; omega, .inr ⟨g, c, _, rfl, hB, h, by omega, hc, ?_, ?_⟩⟩
  · simp [length_nums]; omega
  · rw [Nat.mul_one, List.toList_toArray, List.take_left' (by rw [length_nums]; exact hl)]
theorem Fr.cap {B n c : Nat} {A : Option Addr} {l : List Nat} (h : Fr K e w B A n c l) (hn : 0 < n) : n ≤ c ∧ c ≤ maxLen := by
  obtain ⟨_, _, _, _, _, h1, h2, _⟩ := h.opened hn
  exact ⟨h1, h2⟩
end

/-- append(a, x) of one number: a nil or the call's own. -/
theorem wpList_append1 (K : IntKind) (T E : TypeId) (bytes : Nat) (z : Value) (hz1 : z.cells.size = 1) (ht : Try.prog.underlying T = some (.slice E)) (hinfo : (Try.prog.info? E).map (fun i => (i.zero, i.size, i.bytes)) = some (some z, 1, bytes)) (hby : bytes ≤ 8)
    (w : World) {ops : Array Oper} {rest : List Oper} {o : Oper} {a : Act} {Q : Exit → Act → World → Prop} (hgd : o.guard = none) (s x : Operand)
    (ho : o.op = .call { callee := .builtin .append, args := #[s, x], argTypes := #[T, T] })
    (B : Nat) (A : Option Addr) (n c : Nat) (l : List Nat) (hs : a.eval s = .slice A n c) (hfr : Fr K E w B A n c l) (g d : Nat) (y : Nat) (hx : a.eval x = .slice (some ⟨g, 0, none⟩) 1 d) (hc : w.cell? ⟨g, 0, none⟩ = some (.int K (y : Int)))
    (hn : n ≤ 17592186044415) (hB : B ≤ w.heap.size)
    (h : ∀ A' c' w', Fr K E w' B A' (n + 1) c' (l ++ [y]) → n + 1 ≤ c' → c' ≤ maxLen → Below B w w' → w.grownBy w' (Value.slice A n c).ownBlock → wpList Try.prog ops Q rest (a.put o.dst (.slice A' (n + 1) c')) w') :
    wpList Try.prog ops Q (o :: rest) a w := by
  obtain ⟨i0, hi, hz0, hzs, hzb⟩ := info_parts hinfo
  refine wpList_append_own w hgd s x T ho B E i0 z 1 bytes ht hi hz0 hzs hzb hz1 (by omega) _ n (nums K l) hs hfr.2 ⟨g, 0, none⟩ 1 d [.int K (y : Int)] hx rfl ?_ ?_ (by unfold maxLen; omega) ?_ hB ?_
  · intro j u hu
    match j, hu with
    | 0, hu => simp at hu; subst hu; exact hc
  · intro u hu; simp at hu; subst hu; rfl
  · calc (n + 1) * bytes ≤ (n + 1) * 8 := Nat.mul_le_mul_left _ hby
      _ ≤ _ := by omega
  · intro v' w' hown hgrow hnil
    have hown' : w'.ownsRow B E 1 v' (n + 1) (nums K (l ++ [y])) := by rw [nums_append]; exact hown
    obtain ⟨h1, h2⟩ := hown'
    rcases h2 with ⟨h2, h3⟩ | ⟨g2, cap, cur, hv, hg, hh, hc1, hc2, hs2, ht2⟩
    · omega
    · subst hv
      refine h _ _ w' ⟨by have := hfr.1; simp [this], h1, .inr ⟨g2, cap, cur, rfl, hg, hh, hc1, hc2, hs2, ht2⟩⟩ hc1 hc2 ?_ hgrow
      refine (Below.refl _ _).grown hgrow hB ?_
      intro k hk
      exact (hfr.2.lt k hk).1
end Go.Proofs.Ythdpllhpdjhogaa
