/- Words for memory: a slice that reads as numbers, a block of numbers that the call itself made, what a call may have changed. Plain facts on worlds; no function of the program is walked here. -/
import Derived.WalkKit
import Derived.WalkSpells
import Derived.Lib.Hide
import Derived.Laws.CopyOwn
import Derived.Deep.AppendLies
import Derived.Deep.Draws
import Derived.Deep.QuietTactic
import Derived.Test.YtflcgeehpboldaaNum
namespace Go.Proofs.Ytflcgeehpboldaa
open Go.RowKit

theorem block_of_add (a : Addr) (n : Nat) : (a.add n).block = a.block := by unfold Addr.add; split <;> rfl
theorem add_of_add (a : Addr) (i j : Nat) : (a.add i).add j = a.add (i + j) := by
  unfold Addr.add
  by_cases hi : i = 0 <;> by_cases hj : j = 0 <;> simp [hi, hj, Nat.add_assoc]
theorem add_at (g o j : Nat) : (⟨g, o, none⟩ : Addr).add j = ⟨g, o + j, none⟩ := by
  unfold Addr.add; split
  · subst_vars; rfl
  · rfl

/-- The numbers l as values of kind K. -/
def nums (K : IntKind) (l : List Nat) : List Value := l.map fun (x : Nat) => Value.int K (x : Int)
theorem length_nums (K : IntKind) (l : List Nat) : (nums K l).length = l.length := by simp [nums]
theorem nums_get (K : IntKind) (l : List Nat) (j : Nat) : (nums K l)[j]? = (l[j]?).map fun (x : Nat) => Value.int K (x : Int) := by simp [nums]
theorem nums_append (K : IntKind) (a b : List Nat) : nums K (a ++ b) = nums K a ++ nums K b := by simp [nums]
theorem nums_take (K : IntKind) (l : List Nat) (k : Nat) : nums K (l.take k) = (nums K l).take k := by simp [nums, List.map_take]
theorem nums_drop (K : IntKind) (l : List Nat) (k : Nat) : nums K (l.drop k) = (nums K l).drop k := by simp [nums, List.map_drop]
theorem nums_one (K : IntKind) (l : List Nat) : ∀ u ∈ nums K l, u.oneCell' = true := by
  intro u hu; simp only [nums, List.mem_map] at hu; obtain ⟨x, _, rfl⟩ := hu; rfl
theorem nums_zeros (K : IntKind) (n : Nat) : nums K (List.replicate n 0) = List.replicate n (Value.int K 0) := by simp [nums]
theorem nums_set (K : IntKind) (l : List Nat) (i v : Nat) : nums K (l.set i v) = (nums K l).set i (.int K (v : Int)) := by simp [nums, List.map_set]

/-- The slice of address A and length n reads as the numbers l, of kind K. -/
def Rd (K : IntKind) (w : World) (A : Option Addr) (n : Nat) (l : List Nat) : Prop :=
  l.length = n ∧ (0 < n → ∃ b o : Nat, A = some ⟨b, o, none⟩ ∧ ∀ j x : Nat, l[j]? = some x → w.cell? ⟨b, o + j, none⟩ = some (.int K (x : Int)))
/-- The slice does not lie in block g, where it has elements. -/
def Off (A : Option Addr) (n g : Nat) : Prop := 0 < n → ∀ ad, A = some ad → ad.block ≠ g
/-- Only block g has changed; there may be new blocks. -/
structure Only (g : Nat) (w w' : World) : Prop where
  os : w'.os = w.os
  tape : w'.tape = w.tape
  output : w'.output = w.output
  size : w.heap.size ≤ w'.heap.size
  block : ∀ k, k < w.heap.size → k ≠ g → w'.heap[k]? = w.heap[k]?

section
variable {K : IntKind} {w w' : World} {A : Option Addr} {n g : Nat} {l : List Nat}
theorem Rd.nil : Rd K w A 0 [] := ⟨rfl, fun h => absurd h (by omega)⟩
theorem Rd.at_ (h : Rd K w A n l) (hn : 0 < n) : ∃ b o : Nat, A = some ⟨b, o, none⟩ ∧ ∀ k, k < n → ∃ x : Nat, l[k]? = some x ∧ w.cell? ⟨b, o + k, none⟩ = some (.int K (x : Int)) := by
  obtain ⟨b, o, e, hc⟩ := h.2 hn
  refine ⟨b, o, e, fun k hk => ?_⟩
  have hl : k < l.length := by have := h.1; omega
  exact ⟨l[k], List.getElem?_eq_getElem hl, hc k _ (List.getElem?_eq_getElem hl)⟩
theorem Rd.keep (h : Rd K w A n l) (hk : 0 < n → ∀ ad, A = some ad → ∀ p : Addr, p.block = ad.block → w'.cell? p = w.cell? p) : Rd K w' A n l :=
  ⟨h.1, fun hn => by
    obtain ⟨b, o, e, hc⟩ := h.2 hn
    exact ⟨b, o, e, fun j u hu => (hk hn _ e ⟨b, o + j, none⟩ rfl).trans (hc j u hu)⟩⟩
theorem Rd.lt (h : Rd K w A n l) (hn : 0 < n) : ∀ ad, A = some ad → ad.block < w.heap.size := by
  intro ad e
  obtain ⟨b, o, e', hx⟩ := h.at_ hn
  obtain ⟨x, _, hc⟩ := hx 0 hn
  rw [e] at e'; cases e'
  exact World.block_lt_of_cell? w _ hc
theorem Rd.below (h : Rd K w A n l) (hb : Below w.heap.size w w') : Rd K w' A n l :=
  h.keep fun hn ad e p hp => hb.cell (by rw [hp]; exact h.lt hn ad e)
theorem Rd.below_of {w0 : World} (h : Rd K w A n l) (h0 : Rd K w0 A n l) (hb : Below w0.heap.size w w') : Rd K w' A n l :=
  h.keep fun hn ad e p hp => hb.cell (by rw [hp]; exact h0.lt hn ad e)
theorem Rd.drew (h : Rd K w A n l) : Rd K w.drew A n l := ⟨h.1, h.2⟩
theorem Rd.drewN (h : Rd K w A n l) (k : Nat) : Rd K (w.drewN k) A n l := ⟨h.1, h.2⟩
theorem Rd.only (h : Rd K w A n l) (hg : Off A n g) (hb : Only g w w') : Rd K w' A n l :=
  h.keep fun hn ad e p hp => World.cell?_of_block (hb.block p.block (by rw [hp]; exact h.lt hn ad e) (by rw [hp]; exact hg hn ad e))
theorem Rd.alloc (h : Rd K w A n l) (o : Obj) : Rd K (w.alloc o) A n l :=
  h.keep fun hn ad e p hp => World.cell?_alloc_lt w o p (by rw [hp]; exact h.lt hn ad e)
theorem Rd.take (h : Rd K w A n l) {k : Nat} (hk : k ≤ n) : Rd K w A k (l.take k) := by
  refine ⟨by rw [List.length_take, h.1]; omega, fun hn => ?_⟩
  obtain ⟨b, o, e, hc⟩ := h.2 (by omega)
  refine ⟨b, o, e, fun j u hu => hc j u ?_⟩
  rw [List.getElem?_take] at hu
  split at hu
  · exact hu
  · cases hu
theorem Rd.drop (h : Rd K w A n l) {k : Nat} (hk : k ≤ n) {A' : Option Addr} (hA : k < n → A' = A.map (·.add k)) : Rd K w A' (n - k) (l.drop k) := by
  refine ⟨by rw [List.length_drop, h.1], fun hn => ?_⟩
  obtain ⟨b, o, rfl, hcell⟩ := h.2 (by omega)
  refine ⟨b, o + k, by rw [hA (by omega)]; simp [add_at], fun j u hu => ?_⟩
  rw [Nat.add_assoc]
  exact hcell _ u (by rw [← hu, List.getElem?_drop])
theorem Off.take (h : Off A n g) {k : Nat} (hk : k ≤ n) : Off A k g := fun hn => h (by omega)
theorem Off.of_lt (h : Rd K w A n l) (hg : w.heap.size ≤ g) : Off A n g := fun hn ad e => by have := h.lt hn ad e; omega
theorem Only.refl (g : Nat) (w : World) : Only g w w := ⟨rfl, rfl, rfl, Nat.le_refl _, fun _ _ _ => rfl⟩
theorem Only.trans {w0 : World} (h : Only g w0 w) (k : Only g w w') : Only g w0 w' :=
  ⟨k.os.trans h.os, k.tape.trans h.tape, k.output.trans h.output, Nat.le_trans h.size k.size, fun i hi hg => (k.block i (Nat.lt_of_lt_of_le hi h.size) hg).trans (h.block i hi hg)⟩
theorem Only.drew {w0 : World} (h : Only g w0 w) : Only g w0 w.drew := ⟨h.os, h.tape, h.output, h.size, h.block⟩
theorem Only.setCell {w0 : World} (h : Only g w0 w) (i : Nat) (u : Value) : Only g w0 (w.setCell ⟨g, i, none⟩ u) :=
  h.trans ⟨rfl, rfl, rfl, by simp, fun k _ hk => Below.heap_setCell _ _ _ _ hk⟩
theorem Below.only {B : Nat} {w0 : World} (h : Below B w0 w) (hB : B ≤ g) (hb : B ≤ w.heap.size) (k : Only g w w') : Below B w0 w' :=
  h.trans ⟨k.os, k.tape, k.output, k.size, fun i hi => k.block i (by omega) (by omega)⟩
theorem Below.to_only {B : Nat} (h : Below B w w') (hB : w.heap.size ≤ B) : Only g w w' :=
  ⟨h.os, h.tape, h.output, h.size, fun i hi _ => h.block i (by omega)⟩
end

/-- Block g holds just the numbers L (elements of type e), none of it frozen. -/
def Own (K : IntKind) (e : TypeId) (w : World) (g : Nat) (L : List Nat) : Prop := w.heap[g]? = some (.cells (nums K L).toArray e (0, 0))

section
variable {K : IntKind} {e : TypeId} {w w' : World} {g : Nat} {L : List Nat}
theorem Own.lt (h : Own K e w g L) : g < w.heap.size := by
  rcases Nat.lt_or_ge g w.heap.size with hlt | hge
  · exact hlt
  · unfold Own at h; rw [Array.getElem?_eq_none hge] at h; cases h
theorem Own.cell (h : Own K e w g L) (i : Nat) : w.cell? ⟨g, i, none⟩ = (L[i]?).map fun (x : Nat) => Value.int K (x : Int) := by
  rw [cell_of_row w g i _ e (0, 0) h, List.getElem?_toArray, nums_get]
theorem Own.cell_at (h : Own K e w g L) {i x : Nat} (hx : L[i]? = some x) : w.cell? ⟨g, i, none⟩ = some (.int K (x : Int)) := by rw [h.cell, hx]; rfl
theorem Own.frozen (h : Own K e w g L) (i : Nat) : w.frozen? ⟨g, i, none⟩ = false := frozen_of_row w g i _ e h
theorem Own.drew (h : Own K e w g L) : Own K e w.drew g L := h
theorem Own.alloc (h : Own K e w g L) (o : Obj) : Own K e (w.alloc o) g L := (Below.heap_alloc w o g h.lt).trans h
theorem Own.set_ (h : Own K e w g L) (i v : Nat) : Own K e (w.setCell ⟨g, i, none⟩ (.int K (v : Int))) g (L.set i v) := by
  unfold Own at h ⊢
  rw [nums_set]
  simp [World.setCell, Array.getElem?_modify, h]
theorem Own.below {B : Nat} (h : Own K e w g L) (hb : Below B w w') (hg : g < B) : Own K e w' g L := (hb.block g hg).trans h
theorem Own.only {g' : Nat} (h : Own K e w g L) (hb : Only g' w w') (hg : g ≠ g') : Own K e w' g L := (hb.block g h.lt hg).trans h
theorem Own.rd (h : Own K e w g L) {o n : Nat} {l : List Nat} (hl : l.length = n) (hL : ∀ j x : Nat, l[j]? = some x → L[o + j]? = some x) : Rd K w (some ⟨g, o, none⟩) n l :=
  ⟨hl, fun _ => ⟨_, _, rfl, fun j x hx => h.cell_at (hL j x hx)⟩⟩
theorem Own.of_row {B n : Nat} (h : w.ownsRow B e 1 (.slice (some ⟨g, 0, none⟩) n n) n (nums K L)) : Own K e w g L ∧ B ≤ g ∧ L.length = n := by
  obtain ⟨h1, h2⟩ := h
  rw [length_nums] at h1
  rcases h2 with ⟨h2, _⟩ | ⟨g', cap, cur, hv, hg, hh, _, _, hs, ht⟩
  · cases h2
  · injection hv with ha _ hc
    injection ha with ha
    injection ha with ha
    subst ha; subst hc
    have hcur : cur = (nums K L).toArray := by
      rw [← ht, List.take_of_length_le (by simp; omega)]
    rw [hcur] at hh
    exact ⟨hh, hg, by omega⟩
end

/-- A slice of the call's own, at the head of a block from B on: it holds the numbers l. -/
def Fr (K : IntKind) (e : TypeId) (w : World) (B : Nat) (A : Option Addr) (n c : Nat) (l : List Nat) : Prop :=
  l.length = n ∧ w.ownsRow B e 1 (.slice A n c) n (nums K l)

section
variable {K : IntKind} {e : TypeId} {w w' : World} {B n c : Nat} {A : Option Addr} {l : List Nat}
theorem Fr.nil : Fr K e w B none 0 0 [] := ⟨rfl, World.ownsRow_nil _ _ _ _⟩
theorem Fr.rd (h : Fr K e w B A n c l) : Rd K w A n l := by
  refine ⟨h.1, fun hn => ?_⟩
  obtain ⟨g, cap, hv, _, hlt⟩ := h.2.form hn
  have hA : A = some ⟨g, 0, none⟩ := by injection hv
  subst hA
  refine ⟨_, _, rfl, fun j x hx => ?_⟩
  have := h.2.cells (g := g) rfl j (.int K (x : Int)) (by rw [nums_get, hx]; rfl)
  rwa [add_at] at this
theorem Fr.more {B' : Nat} (h : Fr K e w B A n c l) (hB : B' ≤ B) : Fr K e w B' A n c l := by
  refine ⟨h.1, h.2.1, ?_⟩
  rcases h.2.2 with h2 | ⟨g, cap, cur, hv, hg, r⟩
  · exact .inl h2
  · exact .inr ⟨g, cap, cur, hv, by omega, r⟩
theorem Fr.of_own {L : List Nat} {g k : Nat} (h : Own K e w g L) (hB : B ≤ g) (hk : k ≤ L.length) (hm : L.length ≤ maxLen) : Fr K e w B (some ⟨g, 0, none⟩) k L.length (L.take k) := by
  refine ⟨by rw [List.length_take]; omega, ?_, .inr ⟨g, L.length, _, rfl, hB, h, hk, hm, ?_, ?_⟩⟩
  · rw [length_nums, List.length_take]; omega
  · simp [length_nums]
  · simp [nums_take]
/-- Such a slice is nil, or the first ones of a block that is known whole. -/
theorem Fr.own (h : Fr K e w B A n c l) (hn : 0 < n) : ∃ g, A = some ⟨g, 0, none⟩ ∧ B ≤ g ∧ g < w.heap.size := by
  obtain ⟨g, cap, hv, hb, hlt⟩ := h.2.form hn
  exact ⟨g, by injection hv, hb, hlt⟩
theorem Fr.only {g : Nat} (h : Fr K e w B A n c l) (ho : Only g w w') (hne : ∀ ad, A = some ad → ad.block ≠ g) : Fr K e w' B A n c l := by
  refine ⟨h.1, h.2.1, ?_⟩
  rcases h.2.2 with h2 | ⟨g', cap, cur, hv, hg, hh, r⟩
  · exact .inl h2
  · refine .inr ⟨g', cap, cur, hv, hg, ?_, r⟩
    have hlt : g' < w.heap.size := by
      rcases Nat.lt_or_ge g' w.heap.size with hlt | hge
      · exact hlt
      · rw [Array.getElem?_eq_none hge] at hh; cases hh
    rw [ho.block g' hlt (hne _ (by injection hv))]
    exact hh
theorem Fr.below {B' : Nat} (h : Fr K e w B A n c l) (ho : Below B' w w') (hB : w.heap.size ≤ B') : Fr K e w' B A n c l := by
  refine ⟨h.1, h.2.1, ?_⟩
  rcases h.2.2 with h2 | ⟨g', cap, cur, hv, hg, hh, r⟩
  · exact .inl h2
  · refine .inr ⟨g', cap, cur, hv, hg, ?_, r⟩
    have hlt : g' < w.heap.size := by
      rcases Nat.lt_or_ge g' w.heap.size with hlt | hge
      · exact hlt
      · rw [Array.getElem?_eq_none hge] at hh; cases hh
    rw [ho.block g' (by omega)]
    exact hh
end

theorem below_bare {W w1 : World} (hb : Below W.heap.size W w1) : (∀ b o, b < W.heap.size → w1.cell? ⟨b, o, none⟩ = W.cell? ⟨b, o, none⟩) ∧ (∀ b o, b < W.heap.size → w1.frozen? ⟨b, o, none⟩ = W.frozen? ⟨b, o, none⟩) :=
  ⟨fun b o h => hb.cell (p := ⟨b, o, none⟩) h, fun b o h => hb.frozen (p := ⟨b, o, none⟩) h⟩
theorem ret_eq {a b : Value} (h : a = b) : Ending.returned a = .returned b := by rw [h]
theorem ret_bool {a b : Bool} (h : a = b) : Ending.returned (.bool a) = .returned (.bool b) := by rw [h]
theorem ret_two {k k' : IntKind} {a a' b b' : Int} (h : a = a') (h' : b = b') : Ending.returned (.tuple #[.int k a, .int k' b]) = .returned (.tuple #[.int k a', .int k' b']) := by rw [h, h']
theorem ret_int {k : IntKind} {a b : Int} (h : a = b) : Ending.returned (.int k a) = .returned (.int k b) := by rw [h]
/-- The length of a slice's value. -/
def sLen : Value → Nat
  | .slice _ n _ => n
  | _ => 0
/-- The base of limbs of 64 bits, of 32 bits. -/
def B64 : Nat := 18446744073709551616
def B32 : Nat := 4294967296
theorem B64_two : 2 ≤ B64 := by decide
theorem B32_two : 2 ≤ B32 := by decide
theorem quiet_add {P : Program} {f : FuncId} {args : Array Value} {w : World} {a n : Nat} {v : Value}
    (h : Calls P f args (w.drewN (a + n)) fun e w' => e = .returned v ∧ ∃ m, w' = (w.drewN (a + n)).drewN m) :
    Calls P f args (w.drewN (a + n)) fun e w'' => e = .returned v ∧ ∃ m, w'' = w.drewN (a + m) :=
  h.mono fun _ _ ⟨he, m, hm⟩ => ⟨he, n + m, by rw [hm, World.drewN_drewN, Nat.add_assoc]⟩
theorem quiet_add_same {P : Program} {f : FuncId} {args : Array Value} {w : World} {a n : Nat} {v : Value}
    (h : Calls P f args (w.drewN (a + n)) fun e w' => e = .returned v ∧ w' = w.drewN (a + n)) :
    Calls P f args (w.drewN (a + n)) fun e w'' => e = .returned v ∧ ∃ m, w'' = w.drewN (a + m) :=
  h.mono fun _ _ ⟨he, hm⟩ => ⟨he, n, hm⟩
theorem drewN2 (w : World) (a b : Nat) : ∃ k, (w.drewN a).drewN b = w.drewN k := ⟨_, World.drewN_drewN _ _ _⟩
theorem drewN3 (w : World) (a b c : Nat) : ∃ k, ((w.drewN a).drewN b).drewN c = w.drewN k := ⟨a + b + c, by rw [World.drewN_drewN, World.drewN_drewN, Nat.add_assoc]⟩
end Go.Proofs.Ytflcgeehpboldaa
