/- lex.pieces by value: a text cut into pieces, for every body of a loop over them. -/
import Derived.RangeFuncNested
import Derived.RangeFuncBound
import Derived.RangeFuncCalls
import Derived.RangeFuncLeaves
import Derived.Shelf.Abstract
import Derived.Shelf.RegionOpen
import Derived.WalkKit
import Derived.OwnWalkIn
import Derived.TacticsInMore
import Derived.LoopNIn
import Derived.LoopIn
import Derived.Lib.DecodeN
import Derived.Test.YtnapannphldglaaDoorLexB
namespace Go.Proofs.YtnapannphldglaaDoor
open Go Go.RowKit Go.Shelf
attribute [local go_sem] Oper.semAt_some

/-- A piece as it comes: its place, its bytes. -/
structure Pc where
  p : Nat
  b : ByteArray
  c : UInt8
  r : List UInt8
  hb : b.data.toList = c :: r
  hl : p + b.size ≤ 1048576
  hd : Digs c r
abbrev Pc.encs (x : Pc) : Array Value := #[.int .i64 (x.p : Int), .string x.b]
def Pc.raw (x : Pc) : Nat × List UInt8 := (x.p, x.c :: x.r)

theorem width_fits (s : ByteArray) (k : Nat) (h : k < s.size) : k + (Utf8.decode s k).2 ≤ s.size := by
  have : (Lib.decodeN (s.size - k) (s.get! k).toNat (s.get! (k + 1)).toNat (s.get! (k + 2)).toNat (s.get! (k + 3)).toNat).2 ≤ s.size - k := by
    unfold Lib.decodeN
    repeat' split
    all_goals (simp only; omega)
  rw [← Lib.decode_at] at this
  omega
theorem drop_get (s : ByteArray) (k : Nat) (h : k < s.size) : s.data.toList.drop k = s[k]'h :: s.data.toList.drop (k + 1) := by
  rw [List.drop_eq_getElem_cons (by simpa using h)]; rfl
theorem digs_of {c : UInt8} {r : List UInt8} {m : Nat} (h : c.toNat < 128 → m = lext c r) : Digs c (r.take m) := by
  intro hc
  have hL : isL c = false := isL_no.2 (by rcases hc with hc | hc; (have := isD_iff.1 hc; omega); omega)
  have hm := h (by rcases hc with hc | hc; (have := isD_iff.1 hc; omega); omega)
  have : lext c r = lrun isD r := by
    unfold lext
    rcases hc with hc | hc <;> simp [hL, hc]
  rw [hm, this]
  exact lrun_all _ _
/-- A piece out of a text. -/
def pcOf (s : ByteArray) (k j m : Nat) (c : UInt8) (r : List UInt8) (hs : s.size ≤ 1048576) (hd : s.data.toList.drop k = c :: r) (hj : j = k + 1 + m) (h : c.toNat < 128 → m = lext c r) : Pc where
  p := k
  b := s.extract k j
  c := c
  r := r.take m
  hb := by
    have h2 : (s.extract k j).data.toList = (s.data.toList.drop k).take (j - k) := by simp [ByteArray.data_extract]
    rw [h2, hd, show j - k = m + 1 by omega, List.take_succ_cons]
  hl := by
    have := congrArg List.length hd
    simp at this
    simp
    omega
  hd := digs_of h

theorem pcs_snoc {s : ByteArray} {k j m : Nat} {c : UInt8} {r : List UInt8} (hs : s.size ≤ 1048576) (hd : s.data.toList.drop k = c :: r) (hj : j = k + 1 + m) (hm : m ≤ r.length) (h : c.toNat < 128 → m = lext c r) {pre : List Pc}
    (hp : Pcs s.data.toList k (pre.map Pc.raw)) : Pcs s.data.toList j ((pre ++ [pcOf s k j m c r hs hd hj h]).map Pc.raw) := by
  subst hj
  rw [List.map_append]
  exact Pcs.snoc hp hd hm h

/-- How far the text has been gone through: from f on, up to k, is one piece so far; K: its last one's kind. -/
def Inv (l : List UInt8) (f k : Nat) (K : Int) : Prop := (f = 0 ∧ k = 0 ∧ K = 0) ∨ ∃ c r m, l.drop f = c :: r ∧ k = f + 1 + m ∧ Runs c r m K

/-- What a round keeps: objects that are gone through, and the text's box. -/
def KpL (Bn : Nat) (A B : World) : Prop := KeepsWalks A B ∧ B.heap[Bn]? = A.heap[Bn]?
theorem kpL_t {Bn : Nat} {A B C : World} (h : KpL Bn A B) (k : KpL Bn B C) : KpL Bn A C := ⟨h.1.trans k.1, k.2.trans h.2⟩
theorem kpL_b {Bn : Nat} {w : World} (hB : Bn < w.heap.size) (W : World) (l : Nat) (o o' : Obj) (hl : w.heap.size ≤ l) (h : W.heap[l]? = some o) (_ : o.isCells = false) (hw : o.isWalk = false) : KpL Bn W (W.putObj l o') :=
  ⟨KeepsWalks.putObj _ h hw, World.putObj_heap_other (by omega)⟩
theorem grownBy_iter (W : World) (k : Nat) (s : ByteArray) (pos : Nat) : W.grownBy (W.iterAt k s pos) (some k) :=
  ⟨rfl, rfl, rfl, by rw [Lib.iterAt_size]; exact Nat.le_refl _, fun i _ hne => Lib.iterAt_other W k i s pos (fun e => hne (by rw [e]))⟩

theorem kindR_bits (s : ByteArray) (k : Nat) (hp : k < s.size) :
    ((s[k]'hp).toNat < 128 ∧ (Utf8.decode s k).2 = 1 ∧ kindR ((Utf8.decode s k).1 : Int) = kindB (s[k]'hp)) ∨ (128 ≤ (s[k]'hp).toNat ∧ kindR ((Utf8.decode s k).1 : Int) = 0) := by
  by_cases h : (s[k]'hp).toNat < 128
  · left
    rw [decode_ascii s k hp h]
    exact ⟨h, rfl, kindR_byte _⟩
  · right
    have := (decode_high s k hp (by omega)).1
    exact ⟨by omega, kindR_high (by omega)⟩
theorem width_ge (s : ByteArray) (k : Nat) (hp : k < s.size) : 1 ≤ (Utf8.decode s k).2 := by
  by_cases h : (s[k]'hp).toNat < 128
  · rw [decode_ascii s k hp h]; exact Nat.le_refl _
  · exact (decode_high s k hp (by omega)).2
/-- A new piece begins. -/
theorem inv_new (s : ByteArray) (k : Nat) (hp : k < s.size) : Inv s.data.toList k (k + (Utf8.decode s k).2) (kindR ((Utf8.decode s k).1 : Int)) := by
  have hw := width_ge s k hp
  have hf := width_fits s k hp
  refine .inr ⟨s[k]'hp, s.data.toList.drop (k + 1), (Utf8.decode s k).2 - 1, drop_get s k hp, by omega, ?_⟩
  rcases kindR_bits s k hp with ⟨h1, h2, h3⟩ | ⟨h1, h2⟩
  · rw [h2, h3]; exact Runs.start _ _ h1
  · rw [h2]; exact Runs.high _ _ h1 _ (by simp; omega)
theorem isL_kind {x : UInt8} (h : isL x = true) : kindB x = 2 := by
  have : isP x = false := isP_no.2 (by have := isL_iff.1 h; omega)
  simp [kindB, this, h]
theorem isD_kind {x : UInt8} (h : isD x = true) : kindB x = 3 := by
  have h1 : isP x = false := isP_no.2 (by have := isD_iff.1 h; omega)
  have h2 : isL x = false := isL_no.2 (by have := isD_iff.1 h; omega)
  simp [kindB, h1, h2, h]
theorem kind2 {x : UInt8} (h : kindB x = 2) : isL x = true := by
  unfold kindB at h
  split at h
  · omega
  · split at h
    · assumption
    · split at h
      · omega
      · split at h
        · omega
        · split at h <;> omega
theorem kind3 {x : UInt8} (h : kindB x = 3) : isD x = true := by
  unfold kindB at h
  split at h
  · omega
  · split at h
    · omega
    · split at h
      · assumption
      · split at h
        · omega
        · split at h <;> omega
/-- The piece goes on. -/
theorem inv_more (s : ByteArray) (f k : Nat) (K : Int) (hp : k < s.size) (hf : f < k) (h : Inv s.data.toList f k K) (ho : onK K (kindR ((Utf8.decode s k).1 : Int)) = true) :
    Inv s.data.toList f (k + (Utf8.decode s k).2) (kindR ((Utf8.decode s k).1 : Int)) := by
  rcases h with ⟨h0, h1, _⟩ | ⟨c, r, m, hd, hk, hr⟩
  · omega
  · rcases kindR_bits s k hp with ⟨h1, h2, h3⟩ | ⟨h1, h2⟩
    · rw [h2, h3]
      rw [h3] at ho
      refine .inr ⟨c, r, m + 1, hd, by omega, hr.more (x := s[k]'hp) ?_ ?_⟩
      · have e : (s.data.toList.drop f)[m + 1]? = some (s[k]'hp) := by
          rw [List.getElem?_drop, show f + (m + 1) = k by omega, List.getElem?_eq_getElem (by simpa using hp)]; rfl
        rw [hd] at e
        simpa using e
      · unfold onK at ho
        simp only [Bool.or_eq_true, Bool.and_eq_true, decide_eq_true_eq] at ho
        rcases ho with ⟨a, b⟩ | ⟨a, b⟩
        · exact .inl ⟨kind2 a, b⟩
        · exact .inr ⟨kind3 a, b⟩
    · rw [h2] at ho
      simp [onK] at ho
/-- A piece has ended: it is one. -/
theorem inv_ends (s : ByteArray) (f k : Nat) (K : Int) (hf : f < k) (_hks : k ≤ s.size) (h : Inv s.data.toList f k K) (ho : ∀ _hp : k < s.size, onK K (kindR ((Utf8.decode s k).1 : Int)) = false) :
    ∃ c r m, s.data.toList.drop f = c :: r ∧ k = f + 1 + m ∧ m ≤ r.length ∧ (c.toNat < 128 → m = lext c r) := by
  rcases h with ⟨h0, h1, _⟩ | ⟨c, r, m, hd, hk, hr⟩
  · omega
  · refine ⟨c, r, m, hd, hk, hr.ends ?_⟩
    intro x hx
    have e : (s.data.toList.drop f)[m + 1]? = some x := by rw [hd]; simpa using hx
    rw [List.getElem?_drop, show f + (m + 1) = k by omega] at e
    have hp : k < s.size := by
      have := (List.getElem?_eq_some_iff.1 e).1
      simpa using this
    have ex : x = s[k]'hp := by
      rw [List.getElem?_eq_getElem (by simpa using hp)] at e
      exact (Option.some.inj e).symm
    have ho := ho hp
    rcases kindR_bits s k hp with ⟨h1, _, h3⟩ | ⟨h1, _⟩
    · rw [h3, ← ex] at ho
      unfold onK at ho
      simp only [Bool.or_eq_false_iff, Bool.and_eq_false_iff, decide_eq_false_iff_not] at ho
      refine ⟨fun hh => ?_, fun hh => ?_⟩
      · have := isL_kind hh.1; omega
      · have := isD_kind hh.1; omega
    · rw [← ex] at h1
      refine ⟨fun hh => ?_, fun hh => ?_⟩
      · have := isL_iff.1 hh.1; omega
      · have := isD_iff.1 hh.1; omega
end Go.Proofs.YtnapannphldglaaDoor
