/- The mathematics of paths: letters, parts, what a pen draws. -/
import Derived.Test.YtnapannphldglaaDoorLexM
import GoSem.Claim
namespace Go.Proofs.YtnapannphldglaaDoor
open Go

/-- A letter: its name, its kind, its points, its numbers, what its first point is, the letter again. -/
structure Lt where
  n : Int
  k : Int
  p : Int
  h : ByteArray
  f : Int
  a : Int
def Lt.v (x : Lt) : List Value := [.int .u8 x.n, .int .i64 x.k, .int .i64 x.p, .string x.h, .int .i64 x.f, .int .u8 x.a]
def ltZ : Lt := ⟨0, 0, 0, ⟨#[]⟩, 0, 0⟩
def ltT : List Lt := [⟨77, 1, 1, ⟨#[48, 49]⟩, 0, 76⟩, ⟨76, 2, 1, ⟨#[48, 49]⟩, 0, 76⟩, ⟨72, 2, 1, ⟨#[48]⟩, 1, 72⟩, ⟨86, 2, 1, ⟨#[49]⟩, 1, 86⟩, ⟨81, 3, 2, ⟨#[48, 49, 50, 51]⟩, 0, 81⟩,
  ⟨67, 4, 3, ⟨#[48, 49, 50, 51, 52, 53]⟩, 0, 67⟩, ⟨83, 4, 3, ⟨#[50, 51, 52, 53]⟩, 2, 83⟩, ⟨84, 3, 2, ⟨#[50, 51]⟩, 2, 84⟩, ⟨75, 5, 2, ⟨#[119, 48, 49, 50, 51]⟩, 0, 75⟩, ⟨90, 6, 0, ⟨#[]⟩, 0, 0⟩]
def ltC : List Value := ltT.flatMap Lt.v
def letterOf (c : Int) : Option Lt := ltT.find? fun x => x.n == c
def letterK (k : Int) : Option Lt := ltT.find? fun x => x.k == k && x.f == 0
theorem ltT_len : ltT.length = 10 := rfl
theorem lt_at {k : Nat} (h : k < 10) : ∃ x, ltT[k]? = some x := ⟨_, List.getElem?_eq_getElem (by rw [ltT_len]; exact h)⟩
theorem letterOf_hit {c : Int} {k : Nat} {x : Lt} (hx : ltT[k]? = some x) (hc : x.n = c) (hb : ∀ y ∈ ltT.take k, ¬ y.n = c) : letterOf c = some x := by
  unfold letterOf
  rw [List.find?_eq_some_iff_getElem]
  obtain ⟨hl, he⟩ := List.getElem?_eq_some_iff.1 hx
  refine ⟨by simpa using hc, k, hl, he, fun j hj => ?_⟩
  have := hb (ltT[j]) (List.mem_take_iff_getElem.2 ⟨j, by omega, rfl⟩)
  simpa using this
theorem letterOf_none {c : Int} (h : ∀ y ∈ ltT.take 10, ¬ y.n = c) : letterOf c = none := by
  unfold letterOf
  rw [List.find?_eq_none]
  intro x hx
  have := h x hx
  simpa using this
theorem letterK_hit {c : Int} {k : Nat} {x : Lt} (hx : ltT[k]? = some x) (hc : x.k = c ∧ x.f = 0) (hb : ∀ y ∈ ltT.take k, ¬ (y.k = c ∧ y.f = 0)) : letterK c = some x := by
  unfold letterK
  rw [List.find?_eq_some_iff_getElem]
  obtain ⟨hl, he⟩ := List.getElem?_eq_some_iff.1 hx
  refine ⟨by simpa using hc, k, hl, he, fun j hj => ?_⟩
  have := hb (ltT[j]) (List.mem_take_iff_getElem.2 ⟨j, by omega, rfl⟩)
  by_cases q : ltT[j].k = c
  · simp [q]; exact fun e => this ⟨q, e⟩
  · simp [q]
theorem letterK_none {c : Int} (h : ∀ y ∈ ltT.take 10, ¬ (y.k = c ∧ y.f = 0)) : letterK c = none := by
  unfold letterK
  rw [List.find?_eq_none]
  intro x hx
  have := h x hx
  simpa using this
theorem take_snoc {α : Type} {P : α → Prop} {l : List α} {k : Nat} {x : α} (hx : l[k]? = some x) (h : ∀ y ∈ l.take k, P y) (hp : P x) : ∀ y ∈ l.take (k + 1), P y := by
  obtain ⟨hl, he⟩ := List.getElem?_eq_some_iff.1 hx
  rw [List.take_succ_eq_append_getElem hl, he]
  intro y hy
  rcases List.mem_append.1 hy with hy | hy
  · exact h y hy
  · rw [List.mem_singleton.1 hy]; exact hp
theorem letterOf_mem {c : Int} {x : Lt} (h : letterOf c = some x) : x ∈ ltT := List.mem_of_find?_eq_some h
theorem letterK_mem {c : Int} {x : Lt} (h : letterK c = some x) : x ∈ ltT := List.mem_of_find?_eq_some h

/-! ### What is read -/
structure Nm where
  n : Int
  p : Int
def Nm.v (x : Nm) : List Value := [.int .i64 x.n, .int .i64 x.p]
/-- A letter with its numbers. -/
structure Pa where
  L : Lt
  s : Bool
  p : Int
  ns : List Nm
abbrev RSt := List Pa × Pa
def lacks (x : Pa) : Bool := decide (x.ns.length < x.L.h.size)
def keepL (l : List Pa) (x : Pa) : List Pa := if !lacks x && decide (l.length ≤ 4096) then l ++ [x] else l
def beginR (S : RSt) (y : Pa) : RSt := (keepL S.1 y, y)
def followsK (x : Pa) (k : Int) : Bool := if x.L.k = 0 then decide (k = 1) else !decide (k = 6) || !decide (x.L.k = 6)
def isSm (c : Int) : Bool := decide (97 ≤ c) && decide (c ≤ 122)
def greatB (c : Int) : Int := if isSm c then c - 32 else c
def letterR (S : RSt) (c p : Int) : Option RSt := match letterOf (greatB c) with
  | none => none
  | some x => if lacks S.2 || !followsK S.2 x.k then none else some (beginR S ⟨x, isSm c, p, []⟩)
def addN (S : RSt) (n : Nm) : RSt := (keepL S.1 { S.2 with ns := S.2.ns ++ [n] }, { S.2 with ns := S.2.ns ++ [n] })
def numberR (S : RSt) (n : Nm) : Option RSt := if lacks S.2 then some (addN S n) else match letterOf S.2.L.a with
  | none => none
  | some x => some (addN (beginR S ⟨x, S.2.s, n.p, []⟩) n)
def wordR (S : RSt) (p : Int) : List UInt8 → Except Int RSt
  | [] => .ok S
  | c :: r => match letterR S c.toNat p with
    | none => .error p
    | some S' => wordR S' (p + 1) r
def tokR (S : RSt) (t : Tk) : Except Int RSt :=
  if t.k = 2 then (match numberR S ⟨t.n, t.p⟩ with | none => .error t.p | some S' => .ok S')
  else if t.k = 1 ∧ ¬ t.s = [] then wordR S t.p t.s else .error t.p
def readR (S : RSt) : List Tk → Except Int RSt
  | [] => .ok S
  | t :: r => match tokR S t with
    | .error p => .error p
    | .ok S' => readR S' r
def pa0 : Pa := ⟨ltZ, false, 0, []⟩
def readP (ts : List Tk) (a : Int) : Except Int (List Pa) := match readR ([], pa0) ts with
  | .error p => .error p
  | .ok S => if decide (S.2.L.k = 0) || lacks S.2 then .error a else .ok S.1
theorem again_lacks {x y : Lt} (hx : x ∈ ltZ :: ltT) (h : letterOf x.a = some y) : 0 < y.h.size := by
  have hd : ∀ a ∈ (ltZ :: ltT).map (·.a), ∀ y ∈ letterOf a, 0 < y.h.size := by decide
  exact hd x.a (List.mem_map_of_mem hx) y h
end Go.Proofs.YtnapannphldglaaDoor
