/- What read leaves; the parts drawn one behind the other. -/
import Derived.Test.YtnapannphldglaaDoorPathO
namespace Go.Proofs.YtnapannphldglaaDoor
open Go Go.RowKit

structure RInv (S : RSt) : Prop where
  l : ∀ x ∈ S.1, PaOk x
  z : S.2 = pa0 ∨ PaOk S.2
  e : S.1 = [] → S.2 = pa0 ∨ (S.2.L.k = 1 ∧ lacks S.2 = true)
  h : ∀ x, S.1.head? = some x → x.L.k = 1
theorem keepL_mem {l : List Pa} {y x : Pa} (h : x ∈ keepL l y) : x ∈ l ∨ x = y := by
  unfold keepL at h
  split at h
  · simpa using h
  · exact .inl h
theorem keepL_nil {l : List Pa} {y : Pa} (h : keepL l y = []) : l = [] ∧ lacks y = true := by
  unfold keepL at h
  split at h
  · simp at h
  · rename_i hc
    subst h
    refine ⟨rfl, ?_⟩
    simpa using hc
theorem keepL_head {l : List Pa} {y x : Pa} (h : (keepL l y).head? = some x) : l.head? = some x ∨ (l = [] ∧ x = y) := by
  unfold keepL at h
  split at h
  · cases l with
    | nil => right; simpa using h.symm
    | cons a r => left; simpa using h
  · exact .inl h
theorem RInv.start : RInv ([], pa0) := ⟨fun x hx => (by cases hx), .inl rfl, fun _ => .inl rfl, fun x hx => (by cases hx)⟩
theorem RInv.begin {S : RSt} (h : RInv S) {y : Pa} (hL : y.L ∈ ltT) (hn : y.ns = []) (he : S.1 = [] → y.L.k = 1) : RInv (beginR S y) := by
  have hy : PaOk y := ⟨hL, by rw [hn]; exact Nat.zero_le _, fun n hm => by rw [hn] at hm; cases hm⟩
  refine ⟨fun x hx => ?_, .inr hy, fun e => .inr ?_, fun x hx => ?_⟩
  · rcases keepL_mem hx with q | rfl
    · exact h.l x q
    · exact hy
  · have := keepL_nil e
    exact ⟨he this.1, this.2⟩
  · rcases keepL_head hx with q | ⟨q, rfl⟩
    · exact h.h x q
    · exact he q
def nmOk (n : Nm) : Prop := -4611686018427387904 ≤ n.n ∧ n.n ≤ 4611686018427387904
theorem lacks_pa0 : lacks pa0 = false := rfl
theorem RInv.add {S : RSt} (h : RInv S) {n : Nm} (hl : lacks S.2 = true) (hn : nmOk n) : RInv (addN S n) := by
  have hz : PaOk S.2 := by
    rcases h.z with q | q
    · rw [q, lacks_pa0] at hl; cases hl
    · exact q
  have hlt : S.2.ns.length < S.2.L.h.size := by simpa [lacks] using hl
  have hy : PaOk { S.2 with ns := S.2.ns ++ [n] } := ⟨hz.L, by simp; omega, fun m hm => by
    rcases List.mem_append.1 hm with q | q
    · exact hz.m m q
    · rw [List.mem_singleton.1 q]; exact hn⟩
  refine ⟨fun x hx => ?_, .inr hy, fun e => .inr ?_, fun x hx => ?_⟩
  · rcases keepL_mem hx with q | rfl
    · exact h.l x q
    · exact hy
  · have := keepL_nil e
    refine ⟨?_, this.2⟩
    rcases h.e this.1 with q | q
    · rw [q, lacks_pa0] at hl; cases hl
    · exact q.1
  · rcases keepL_head hx with q | ⟨q, rfl⟩
    · exact h.h x q
    · rcases h.e q with p | p
      · rw [p, lacks_pa0] at hl; cases hl
      · exact p.1
theorem RInv.empty {S : RSt} (h : RInv S) (hl : lacks S.2 = false) (he : S.1 = []) : S.2 = pa0 := by
  rcases h.e he with q | q
  · exact q
  · rw [hl] at q; cases q.2
theorem RInv.letter {S S' : RSt} {c p : Int} (h : RInv S) (hn : letterR S c p = some S') : RInv S' := by
  unfold letterR at hn
  cases hy : letterOf (greatB c) with
  | none => rw [hy] at hn; cases hn
  | some y =>
    rw [hy] at hn
    simp only at hn
    split at hn
    · cases hn
    · rename_i hc
      simp only [Bool.or_eq_true, not_or, Bool.not_eq_true, Bool.not_eq_true', Bool.not_eq_false] at hc
      cases hn
      refine h.begin (letterOf_mem hy) rfl fun e => ?_
      have := h.empty hc.1 e
      have h2 := hc.2
      rw [this] at h2
      simpa [followsK, pa0, ltZ] using h2
theorem RInv.number {S S' : RSt} {n : Nm} (h : RInv S) (hk : nmOk n) (hn : numberR S n = some S') : RInv S' := by
  unfold numberR at hn
  cases hl : lacks S.2 with
  | true => rw [hl, if_pos rfl] at hn; cases hn; exact h.add hl hk
  | false =>
    rw [hl, if_neg (by decide)] at hn
    cases hy : letterOf S.2.L.a with
    | none => rw [hy] at hn; cases hn
    | some y =>
      rw [hy] at hn; cases hn
      have hm : S.2.L ∈ ltZ :: ltT := by
        rcases h.z with q | q
        · rw [q]; exact List.mem_cons_self
        · exact List.mem_cons_of_mem _ q.L
      have hs := again_lacks hm hy
      refine RInv.add (h.begin (letterOf_mem hy) rfl fun e => ?_) ?_ hk
      · have := h.empty hl e
        rw [this] at hy
        cases hy
      · show decide _ = true
        exact decide_eq_true hs
theorem RInv.word : ∀ {l : List UInt8} {S S' : RSt} {p : Int}, RInv S → wordR S p l = .ok S' → RInv S'
  | [], S, S', p, h, hn => by cases hn; exact h
  | c :: l, S, S', p, h, hn => by
    rw [wordR] at hn
    cases hq : letterR S c.toNat p with
    | none => rw [hq] at hn; cases hn
    | some S1 => rw [hq] at hn; exact RInv.word (h.letter hq) hn
theorem RInv.tok {S S' : RSt} {t : Tk} (h : RInv S) (hk : nmOk ⟨t.n, t.p⟩) (hn : tokR S t = .ok S') : RInv S' := by
  unfold tokR at hn
  split at hn
  · cases hq : numberR S ⟨t.n, t.p⟩ with
    | none => rw [hq] at hn; cases hn
    | some S1 => rw [hq] at hn; cases hn; exact h.number hk hq
  · split at hn
    · exact h.word hn
    · cases hn
theorem RInv.all : ∀ {ts : List Tk} {S S' : RSt}, RInv S → (∀ t ∈ ts, nmOk ⟨t.n, t.p⟩) → readR S ts = .ok S' → RInv S'
  | [], S, S', h, _, hn => by cases hn; exact h
  | t :: ts, S, S', h, hk, hn => by
    rw [readR] at hn
    cases hq : tokR S t with
    | error q => rw [hq] at hn; cases hn
    | ok S1 => rw [hq] at hn; exact RInv.all (h.tok (hk t List.mem_cons_self) hq) (fun t ht => hk t (List.mem_cons_of_mem _ ht)) hn
theorem kind1_first : ∀ L ∈ ltT, L.k = 1 → ¬ L.f = 2 := by decide
theorem readP_ok {ts : List Tk} {a : Int} {l : List Pa} (hk : ∀ t ∈ ts, nmOk ⟨t.n, t.p⟩) (h : readP ts a = .ok l) : (∀ x ∈ l, PaOk x) ∧ ∀ x, l.head? = some x → ¬ x.L.f = 2 := by
  unfold readP at h
  cases hr : readR ([], pa0) ts with
  | error q => rw [hr] at h; cases h
  | ok S =>
    rw [hr] at h
    simp only at h
    split at h
    · cases h
    · cases h
      have hi := RInv.all RInv.start hk hr
      exact ⟨hi.l, fun x hx => kind1_first _ (hi.l x (List.mem_of_mem_head? hx)).L (hi.h x hx)⟩

/-! ### Drawn one behind the other -/
def drawsP (P : Pn) : List Pa → Except (Int × Int) Pn
  | [] => .ok P
  | x :: r => match drawP P x with
    | .error q => .error q
    | .ok P' => drawsP P' r
def pen0 : Pn := ⟨[], 0, 0, 0, 0⟩
def parseP (ts : List Tk) (a : Int) : Except (Int × Int) (List Sg) := match readP ts a with
  | .error q => .error (q, 20)
  | .ok l => match drawsP pen0 l with
    | .error q => .error q
    | .ok P => .ok P.l
theorem drawsP_app (m : List Pa) : ∀ (l : List Pa) (P : Pn), drawsP P (l ++ m) = match drawsP P l with
    | .error q => .error q
    | .ok P' => drawsP P' m
  | [], P => rfl
  | t :: l, P => by
    rw [List.cons_append, drawsP, drawsP]
    cases drawP P t with
    | error q => rfl
    | ok P' => exact drawsP_app m l P'
theorem drawsP_hit {P P1 P2 : Pn} {l : List Pa} {k : Nat} {t : Pa} (h : drawsP P (l.take k) = .ok P1) (hc : l[k]? = some t) (hn : drawP P1 t = .ok P2) : drawsP P (l.take (k + 1)) = .ok P2 := by
  obtain ⟨hl, he⟩ := List.getElem?_eq_some_iff.1 hc
  rw [List.take_succ_eq_append_getElem hl, he, drawsP_app, h]
  simp [drawsP, hn]
theorem drawsP_miss {P P1 : Pn} {l : List Pa} {k : Nat} {t : Pa} {q : Int × Int} (h : drawsP P (l.take k) = .ok P1) (hc : l[k]? = some t) (hn : drawP P1 t = .error q) : drawsP P l = .error q := by
  obtain ⟨hl, he⟩ := List.getElem?_eq_some_iff.1 hc
  conv => lhs; rw [← List.take_append_drop k l]
  rw [drawsP_app, h, List.drop_eq_getElem_cons hl, he]
  simp [drawsP, hn]
theorem inC_0 : inC 0 := ⟨by decide, by decide⟩
theorem set_in {s : Sg} {j : Nat} {n : Int} (h : ∀ i, inC (s.get i)) (hn : inC n) : ∀ i, inC ((s.set j n).get i) := by
  intro i
  have h0 := h 0; have h1 := h 1; have h2 := h 2; have h3 := h 3; have h4 := h 4; have h5 := h 5
  unfold Sg.set
  unfold Sg.get at *
  simp only at h0 h1 h2 h3 h4 h5
  repeat' split
  all_goals (first | assumption | simp_all)
theorem numsD_in {sm : Bool} {P : Pn} : ∀ {l : List (UInt8 × Nm)} {s s' : Sg}, (∀ i, inC (s.get i)) → numsD sm P s l = .ok s' → ∀ i, inC (s'.get i)
  | [], s, s', h, hn => by cases hn; exact h
  | t :: l, s, s', h, hn => by
    rw [numsD] at hn
    cases hq : numD sm P t.1.toNat t.2 s with
    | error q => rw [hq] at hn; cases hn
    | ok s1 =>
      rw [hq] at hn
      refine numsD_in ?_ hn
      unfold numD at hq
      split at hq
      · split at hq
        · cases hq; exact h
        · cases hq
      · split at hq
        · rename_i hc
          cases hq
          exact set_in h (isC_in.1 hc)
        · cases hq
theorem moveP_ok {P : Pn} {s : Sg} {p : Int} (h : PnOk P) (hs : ∀ i, inC (s.get i)) : PnOk (moveP P s p) := by
  unfold moveP
  split
  · exact ⟨h.c, h.d, h.c, h.d, h.l⟩
  · split
    · exact ⟨hs _, hs _, hs _, hs _, h.l⟩
    · exact ⟨hs _, hs _, h.c, h.d, h.l⟩
theorem moveP_l {P : Pn} {s : Sg} {p : Int} : (moveP P s p).l = P.l := by
  unfold moveP
  split
  · rfl
  · split <;> rfl
theorem drawP_ok {P P' : Pn} {x : Pa} (h : PnOk P) (hd : drawP P x = .ok P') : PnOk P' ∧ ∃ s, P'.l = P.l ++ [s] := by
  unfold drawP at hd
  split at hd
  · cases hd
  · split at hd
    · rename_i hc
      rw [Bool.and_eq_true] at hc
      cases hq : numsD x.s P (seg0 P x) (pairsP x) with
      | error q => rw [hq] at hd; cases hd
      | ok s =>
        rw [hq] at hd; cases hd
        have hs := numsD_in (s := seg0 P x) (fun i => by
          unfold seg0 Sg.get
          split
          · exact isC_in.1 hc.1
          · exact isC_in.1 hc.2
          all_goals exact inC_0) hq
        refine ⟨moveP_ok ⟨h.a, h.b, h.c, h.d, fun t ht => ?_⟩ hs, s, moveP_l⟩
        rcases List.mem_append.1 ht with q | q
        · exact h.l t q
        · rw [List.mem_singleton.1 q]; exact hs
    · cases hd
theorem drawP_err {P : Pn} {x : Pa} {z : Int × Int} (hd : drawP P x = .error z) : ¬ z.2 = 0 := by
  unfold drawP at hd
  split at hd
  · cases hd; simp
  · split at hd
    · cases hq : numsD x.s P (seg0 P x) (pairsP x) with
      | error q => rw [hq] at hd; cases hd; simp
      | ok s => rw [hq] at hd; cases hd
    · cases hd; simp
theorem pen0_ok : PnOk pen0 := ⟨inC_0, inC_0, inC_0, inC_0, fun s hs => (by cases hs)⟩
end Go.Proofs.YtnapannphldglaaDoor
