/- The mathematics of a path: what is parsed is good. -/
import Derived.Test.YtnapannphldglaaDoorPathR2
namespace Go.Proofs.YtnapannphldglaaDoor
open Go Go.RowKit

def zk (a : Int) : List Int → Bool
  | [] => true
  | k :: r => !(decide (k = 6) && decide (a = 6)) && zk k r
theorem zk_snoc (k : Int) : ∀ (l : List Int) (a : Int), zk a (l ++ [k]) = (zk a l && !(decide (k = 6) && decide (l.getLast?.getD a = 6)))
  | [], a => by simp only [List.nil_append, zk, List.getLast?_nil, Option.getD_none, Bool.and_true, Bool.true_and]; rfl
  | x :: l, a => by
    rw [List.cons_append, zk, zk, zk_snoc k l x]
    cases l with
    | nil => simp only [zk, List.getLast?_nil, Option.getD_none, List.getLast?_singleton, Option.getD_some, Bool.and_true, Bool.true_and]; rfl
    | cons y l =>
      rw [List.getLast?_cons_cons]
      cases h : (y :: l).getLast? with
      | none => simp at h
      | some z => simp [Bool.and_assoc]
structure RJ (S : RSt) : Prop where
  f : ∀ y ∈ S.1, lacks y = false
  p : S.2.L.k = 0 → S.1 = []
  t : S.1.length ≤ 4096 → lacks S.2 = false → S.2.L.k = 0 ∨ S.1.getLast? = some S.2
  z : S.1.length ≤ 4096 → zk 0 (S.1.map (·.L.k)) = true
theorem kind_pos : ∀ x ∈ ltT, ¬ x.k = 0 := by decide
theorem keepL_len {l : List Pa} {y : Pa} : l.length ≤ (keepL l y).length := by
  unfold keepL
  split <;> simp
theorem RJ.start : RJ ([], pa0) := ⟨fun x hx => (by cases hx), fun _ => rfl, fun _ _ => .inl rfl, fun _ => rfl⟩
theorem RJ.begin {S : RSt} (h : RJ S) {y : Pa} (hk : lacks S.2 = false) (hL : y.L ∈ ltT) (hc : y.L.k = 6 → ¬ S.2.L.k = 6) : RJ (beginR S y) := by
  refine ⟨fun x hx => ?_, fun e => absurd e (kind_pos _ hL), fun hl hy => .inr ?_, fun hl => ?_⟩
  · unfold beginR keepL at hx
    simp only at hx
    split at hx
    · rename_i hq
      rcases List.mem_append.1 hx with q | q
      · exact h.f x q
      · rw [List.mem_singleton.1 q]
        rw [Bool.and_eq_true] at hq
        simpa using hq.1
    · exact h.f x hx
  · have h1 : S.1.length ≤ 4096 := Nat.le_trans (keepL_len (y := y)) hl
    show (keepL S.1 y).getLast? = some y
    have hy' : lacks y = false := hy
    rw [keepL_yes hy' h1]; simp
  · have h1 : S.1.length ≤ 4096 := Nat.le_trans (keepL_len (y := y)) hl
    show zk 0 ((keepL S.1 y).map _) = true
    cases hy : lacks y with
    | true => rw [keepL_no (.inl hy)]; exact h.z h1
    | false =>
      rw [keepL_yes hy h1, List.map_append, List.map_cons, List.map_nil, zk_snoc, h.z h1, Bool.true_and]
      by_cases h6 : y.L.k = 6
      · have hn := hc h6
        have : ¬ (S.1.map (·.L.k)).getLast?.getD 0 = 6 := by
          rcases h.t h1 hk with q | q
          · rw [h.p q]; simp
          · rw [List.getLast?_map, q]; exact hn
        rw [decide_eq_false this, Bool.and_false]; rfl
      · rw [decide_eq_false h6, Bool.false_and]; rfl
theorem lacks_no6 {y : Pa} (hm : y.L ∈ ltZ :: ltT) (h : lacks y = true) : ¬ y.L.k = 6 ∧ ¬ y.L.k = 0 := by
  have hd : ∀ x ∈ ltZ :: ltT, 0 < x.h.size → ¬ x.k = 6 ∧ ¬ x.k = 0 := by decide
  refine hd _ hm ?_
  have : y.ns.length < y.L.h.size := by simpa [lacks] using h
  omega
theorem RJ.add {S : RSt} (h : RJ S) (hk : lacks S.2 = true) (hm : S.2.L ∈ ltZ :: ltT) (n : Nm) : RJ (addN S n) := by
  obtain ⟨h6, h0⟩ := lacks_no6 hm hk
  refine ⟨fun x hx => ?_, fun e => absurd e h0, fun hl hy => .inr ?_, fun hl => ?_⟩
  · unfold addN keepL at hx
    simp only at hx
    split at hx
    · rename_i hq
      rcases List.mem_append.1 hx with q | q
      · exact h.f x q
      · rw [List.mem_singleton.1 q]
        rw [Bool.and_eq_true] at hq
        simpa using hq.1
    · exact h.f x hx
  · have h1 : S.1.length ≤ 4096 := Nat.le_trans keepL_len hl
    show (keepL S.1 _).getLast? = some _
    have hy' : lacks { S.2 with ns := S.2.ns ++ [n] } = false := hy
    rw [keepL_yes hy' h1]; simp; rfl
  · have h1 : S.1.length ≤ 4096 := Nat.le_trans keepL_len hl
    show zk 0 ((keepL S.1 _).map _) = true
    cases hy : lacks { S.2 with ns := S.2.ns ++ [n] } with
    | true => rw [keepL_no (.inl hy)]; exact h.z h1
    | false =>
      rw [keepL_yes hy h1, List.map_append, List.map_cons, List.map_nil, zk_snoc, h.z h1, Bool.true_and]
      rw [decide_eq_false (show ¬ ({ S.2 with ns := S.2.ns ++ [n] } : Pa).L.k = 6 from h6), Bool.false_and]; rfl
theorem again_no6 : ∀ x ∈ ltZ :: ltT, ∀ y ∈ letterOf x.a, ¬ y.k = 6 := by decide
structure RK (S : RSt) : Prop where
  i : RInv S
  j : RJ S
theorem RInv.mem {S : RSt} (h : RInv S) : S.2.L ∈ ltZ :: ltT := by
  rcases h.z with q | q
  · rw [q]; exact List.mem_cons_self
  · exact List.mem_cons_of_mem _ q.L
theorem RK.letter {S S' : RSt} {c p : Int} (h : RK S) (hn : letterR S c p = some S') : RK S' := by
  refine ⟨h.i.letter hn, ?_⟩
  unfold letterR at hn
  cases hy : letterOf (greatB c) with
  | none => rw [hy] at hn; cases hn
  | some y =>
    rw [hy] at hn
    simp only at hn
    split at hn
    · cases hn
    · rename_i hc
      simp only [Bool.or_eq_true, not_or, Bool.not_eq_true, Bool.not_eq_true', Bool.not_eq_false] at hc
      cases hn
      refine h.j.begin hc.1 (letterOf_mem hy) fun e1 e2 => ?_
      have h2 := hc.2
      unfold followsK at h2
      rw [e2] at h2
      have e1' : y.k = 6 := e1
      rw [e1'] at h2
      simp at h2
theorem RK.number {S S' : RSt} {n : Nm} (h : RK S) (hk : nmOk n) (hn : numberR S n = some S') : RK S' := by
  refine ⟨h.i.number hk hn, ?_⟩
  unfold numberR at hn
  cases hl : lacks S.2 with
  | true => rw [hl, if_pos rfl] at hn; cases hn; exact h.j.add hl h.i.mem n
  | false =>
    rw [hl, if_neg (by decide)] at hn
    cases hy : letterOf S.2.L.a with
    | none => rw [hy] at hn; cases hn
    | some y =>
      rw [hy] at hn; cases hn
      have hs := again_lacks h.i.mem hy
      have h6 := again_no6 _ h.i.mem y hy
      refine RJ.add (h.j.begin hl (letterOf_mem hy) fun e => absurd e h6) ?_ (List.mem_cons_of_mem _ (letterOf_mem hy)) n
      show decide _ = true
      exact decide_eq_true hs
theorem RK.word : ∀ {l : List UInt8} {S S' : RSt} {p : Int}, RK S → wordR S p l = .ok S' → RK S'
  | [], S, S', p, h, hn => by cases hn; exact h
  | c :: l, S, S', p, h, hn => by
    rw [wordR] at hn
    cases hq : letterR S c.toNat p with
    | none => rw [hq] at hn; cases hn
    | some S1 => rw [hq] at hn; exact RK.word (h.letter hq) hn
theorem RK.tok {S S' : RSt} {t : Tk} (h : RK S) (hk : nmOk ⟨t.n, t.p⟩) (hn : tokR S t = .ok S') : RK S' := by
  unfold tokR at hn
  split at hn
  · cases hq : numberR S ⟨t.n, t.p⟩ with
    | none => rw [hq] at hn; cases hn
    | some S1 => rw [hq] at hn; cases hn; exact h.number hk hq
  · split at hn
    · exact h.word hn
    · cases hn
theorem RK.all : ∀ {ts : List Tk} {S S' : RSt}, RK S → (∀ t ∈ ts, nmOk ⟨t.n, t.p⟩) → readR S ts = .ok S' → RK S'
  | [], S, S', h, _, hn => by cases hn; exact h
  | t :: ts, S, S', h, hk, hn => by
    rw [readR] at hn
    cases hq : tokR S t with
    | error q => rw [hq] at hn; cases hn
    | ok S1 => rw [hq] at hn; exact RK.all (h.tok (hk t List.mem_cons_self) hq) (fun t ht => hk t (List.mem_cons_of_mem _ ht)) hn
theorem readP_good {ts : List Tk} {a : Int} {l : List Pa} (hk : ∀ t ∈ ts, nmOk ⟨t.n, t.p⟩) (h : readP ts a = .ok l) : (∀ x ∈ l, PaOk x ∧ lacks x = false) ∧ (∀ x, l.head? = some x → x.L.k = 1) ∧ (l.length ≤ 4096 → l ≠ [] ∧ zk 0 (l.map (·.L.k)) = true) := by
  unfold readP at h
  cases hr : readR ([], pa0) ts with
  | error q => rw [hr] at h; cases h
  | ok S =>
    rw [hr] at h
    simp only at h
    split at h
    · cases h
    · rename_i hc
      simp only [Bool.or_eq_true, not_or, Bool.not_eq_true, decide_eq_true_eq] at hc
      cases h
      have hi := RK.all ⟨RInv.start, RJ.start⟩ hk hr
      refine ⟨fun x hx => ⟨hi.i.l x hx, hi.j.f x hx⟩, hi.i.h, fun hl => ⟨?_, hi.j.z hl⟩⟩
      rcases hi.j.t hl hc.2 with q | q
      · exact absurd q hc.1
      · intro e; rw [e] at q; cases q
/-! ### What is drawn is good -/
theorem get_set_ne {s : Sg} {i j : Nat} {n : Int} (hi : i < 6) (hj : j < 6) (h : ¬ i = j) : (s.set j n).get i = s.get i := by
  match j, hj with
  | 0, _ => match i, hi with
    | 0, _ => exact absurd rfl h
    | 1, _ => rfl
    | 2, _ => rfl
    | 3, _ => rfl
    | 4, _ => rfl
    | 5, _ => rfl
  | 1, _ => match i, hi with
    | 1, _ => exact absurd rfl h
    | 0, _ => rfl
    | 2, _ => rfl
    | 3, _ => rfl
    | 4, _ => rfl
    | 5, _ => rfl
  | 2, _ => match i, hi with
    | 2, _ => exact absurd rfl h
    | 0, _ => rfl
    | 1, _ => rfl
    | 3, _ => rfl
    | 4, _ => rfl
    | 5, _ => rfl
  | 3, _ => match i, hi with
    | 3, _ => exact absurd rfl h
    | 0, _ => rfl
    | 1, _ => rfl
    | 2, _ => rfl
    | 4, _ => rfl
    | 5, _ => rfl
  | 4, _ => match i, hi with
    | 4, _ => exact absurd rfl h
    | 0, _ => rfl
    | 1, _ => rfl
    | 2, _ => rfl
    | 3, _ => rfl
    | 5, _ => rfl
  | 5, _ => match i, hi with
    | 5, _ => exact absurd rfl h
    | 0, _ => rfl
    | 1, _ => rfl
    | 2, _ => rfl
    | 3, _ => rfl
    | 4, _ => rfl
theorem set_w {s : Sg} {j : Nat} {n : Int} : (s.set j n).w = s.w := by
  unfold Sg.set
  split <;> rfl
theorem numsD_inv {sm : Bool} {P : Pn} : ∀ {l : List (UInt8 × Nm)} {s s' : Sg}, (∀ z ∈ l, z.1.toNat = 119 ∨ z.1.toNat - 48 < 6) → numsD sm P s l = .ok s' →
    (∀ i, i < 6 → (∀ z ∈ l, z.1.toNat = 119 ∨ ¬ i = z.1.toNat - 48) → s'.get i = s.get i) ∧ ((∀ z ∈ l, ¬ z.1.toNat = 119) → s'.w = s.w) ∧ ((isW s.w = true ∨ ∃ z ∈ l, z.1.toNat = 119) → isW s'.w = true)
  | [], s, s', _, hn => by
    cases hn
    exact ⟨fun _ _ _ => rfl, fun _ => rfl, fun h => by rcases h with q | ⟨z, hz, _⟩; exact q; cases hz⟩
  | t :: l, s, s', hl, hn => by
    rw [numsD] at hn
    cases hq : numD sm P t.1.toNat t.2 s with
    | error q => rw [hq] at hn; cases hn
    | ok s1 =>
      rw [hq] at hn
      obtain ⟨h1, h2, h3⟩ := numsD_inv (l := l) (fun z hz => hl z (List.mem_cons_of_mem _ hz)) hn
      unfold numD at hq
      split at hq
      · rename_i h119
        split at hq
        · rename_i hw
          cases hq
          refine ⟨fun i hi hz => h1 i hi fun z hz2 => hz z (List.mem_cons_of_mem _ hz2), fun hz => absurd h119 (hz t List.mem_cons_self), fun _ => h3 (.inl hw)⟩
        · cases hq
      · rename_i h119
        split at hq
        · cases hq
          have ht6 : t.1.toNat - 48 < 6 := by rcases hl t List.mem_cons_self with q | q; exact absurd q h119; exact q
          refine ⟨fun i hi hz => ?_, fun hz => ?_, fun hz => h3 ?_⟩
          · rw [h1 i hi fun z hz2 => hz z (List.mem_cons_of_mem _ hz2)]
            refine get_set_ne hi ht6 ?_
            rcases hz t List.mem_cons_self with q | q
            · exact absurd q h119
            · exact q
          · rw [h2 fun z hz2 => hz z (List.mem_cons_of_mem _ hz2), set_w]
          · rcases hz with q | ⟨z, hz1, hz2⟩
            · left; rw [set_w]; exact q
            · rcases List.mem_cons.1 hz1 with rfl | q
              · exact absurd hz2 h119
              · exact .inr ⟨z, q, hz2⟩
        · cases hq
theorem lt_slots : ∀ x ∈ ltT, (∀ c ∈ x.h.data.toList, c.toNat = 119 ∨ (c.toNat - 48 < 6 ∧ ((c.toNat - 48 : Nat) : Int) < 2 * x.p)) ∧ (letterK x.k).map (·.p) = some x.p ∧ (x.k = 5 → (119 : UInt8) ∈ x.h.data.toList) ∧ (¬ x.k = 5 → ∀ c ∈ x.h.data.toList, ¬ c.toNat = 119) ∧ (x.p = 0 → x.f = 0) := by decide
theorem drawn_good {P P' : Pn} {y : Pa} (h : PnOk P) (hy : PaOk y) (hk : lacks y = false) (hd : drawP P y = .ok P') : ∃ s, P'.l = P.l ++ [s] ∧ s.k = y.L.k ∧ goodS s = true ∧ P.l.length ≠ 4096 := by
  obtain ⟨hok, s', hs'⟩ := drawP_ok h hd
  have hfull : y.ns.length = y.L.h.size := by
    have h1 : ¬ y.ns.length < y.L.h.size := by simpa [lacks] using hk
    have := hy.n
    omega
  obtain ⟨l1, l2, l3, l4, l5⟩ := lt_slots y.L hy.L
  unfold drawP at hd
  split at hd
  · cases hd
  · rename_i hne
    split at hd
    · cases hq : numsD y.s P (seg0 P y) (pairsP y) with
      | error q => rw [hq] at hd; cases hd
      | ok s =>
        rw [hq] at hd; cases hd
        rw [moveP_l] at hs'
        have hss : s = s' := by
          have := List.append_cancel_left hs'
          simpa using this
        subst hss
        have hin : ∀ i, inC (s.get i) := hok.l s (by rw [moveP_l]; simp)
        have hkd : s.k = y.L.k := numsD_kind hq
        have hmem : ∀ z ∈ pairsP y, z.1 ∈ y.L.h.data.toList := fun z hz => (List.of_mem_zip (by unfold pairsP at hz; exact hz)).1
        obtain ⟨i1, i2, i3⟩ := numsD_inv (fun z hz => by
          rcases l1 z.1 (hmem z hz) with q | q
          · exact .inl q
          · exact .inr q.1) hq
        refine ⟨s, by rw [moveP_l], hkd, ?_, hne⟩
        unfold goodS
        rw [hkd]
        cases hx : letterK y.L.k with
        | none => rw [hx] at l2; cases l2
        | some x =>
          rw [hx] at l2
          have hp : x.p = y.L.p := by simpa using l2
          simp only [Bool.and_eq_true, List.all_eq_true]
          refine ⟨fun i hi => decide_eq_true ⟨isC_in.2 (hin i), ?_⟩, ?_⟩
          · have hi6 := List.mem_range.1 hi
            by_cases hlt : (i : Int) < 2 * x.p
            · exact .inr hlt
            · left
              rw [i1 i hi6 fun z hz => by
                rcases l1 z.1 (hmem z hz) with q | q
                · exact .inl q
                · right; intro e; rw [hp] at hlt; rw [e] at hlt; exact hlt q.2]
              unfold seg0
              have h0 : i = 0 ∨ i = 1 → firstP P y.L = (0, 0) := by
                intro e
                have : y.L.p = 0 := by
                  have := (lt_pts y.L hy.L).1
                  rw [hp] at hlt
                  rcases e with rfl | rfl
                  · omega
                  · omega
                unfold firstP
                rw [if_pos (l5 this)]
              match i, hi6, h0 with
              | 0, _, h0 => rw [h0 (.inl rfl)]; rfl
              | 1, _, h0 => rw [h0 (.inr rfl)]; rfl
              | 2, _, _ => rfl
              | 3, _, _ => rfl
              | 4, _, _ => rfl
              | 5, _, _ => rfl
          · by_cases h5 : y.L.k = 5
            · rw [if_pos h5]
              refine i3 (.inr ?_)
              obtain ⟨j, hj⟩ := List.getElem?_of_mem (l3 h5)
              have hjl := (List.getElem?_eq_some_iff.1 hj).1
              have hjs : j < y.ns.length := by rw [hfull]; simpa using hjl
              refine ⟨(119, y.ns[j]), ?_, rfl⟩
              unfold pairsP
              refine List.mem_of_getElem? (i := j) ?_
              rw [List.getElem?_zip_eq_some]
              exact ⟨hj, List.getElem?_eq_getElem hjs⟩
            · rw [if_neg h5]
              refine decide_eq_true ?_
              rw [i2 fun z hz => l4 h5 z.1 (hmem z hz)]
              rfl
    · cases hd
theorem draws_good : ∀ (ys : List Pa) (P P' : Pn), PnOk P → (∀ y ∈ ys, PaOk y ∧ lacks y = false) → P.l.length ≤ 4096 → drawsP P ys = .ok P' → ∃ r, P'.l = P.l ++ r ∧ r.map (·.k) = ys.map (·.L.k) ∧ (∀ s ∈ r, goodS s = true) ∧ P'.l.length ≤ 4096
  | [], P, P', _, _, hl, hd => by
    cases hd
    exact ⟨[], by simp, rfl, fun s hs => (by cases hs), hl⟩
  | y :: ys, P, P', h, hy, hl, hd => by
    rw [drawsP] at hd
    cases hq : drawP P y with
    | error q => rw [hq] at hd; cases hd
    | ok P1 =>
      rw [hq] at hd
      obtain ⟨hy1, hy2⟩ := hy y List.mem_cons_self
      obtain ⟨s, h1, h2, h3, h4⟩ := drawn_good h hy1 hy2 hq
      obtain ⟨r, h5, h6, h7, h8⟩ := draws_good ys P1 P' (drawP_ok h hq).1 (fun y hy' => hy y (List.mem_cons_of_mem _ hy')) (by rw [h1]; simp; omega) hd
      refine ⟨s :: r, by rw [h5, h1]; simp, by simp [h2, h6], fun t ht => ?_, h8⟩
      rcases List.mem_cons.1 ht with rfl | q
      · exact h3
      · exact h7 t q
theorem goodF_zk : ∀ {r : List Sg} {a : Int}, (∀ s ∈ r, goodS s = true) → zk a (r.map (·.k)) = true → goodF a r = true
  | [], a, _, _ => rfl
  | s :: r, a, h, hz => by
    rw [List.map_cons, zk, Bool.and_eq_true] at hz
    rw [goodF, h s List.mem_cons_self, Bool.true_and, hz.1, Bool.true_and]
    exact goodF_zk (fun t ht => h t (List.mem_cons_of_mem _ ht)) hz.2
/-- What is parsed is good. -/
theorem of_good {l : List UInt8} {a : List Sg} (h : ofP l = .ok a) : goodL a = true := by
  unfold ofP at h
  cases hc : lcut 0 l with
  | error p => rw [hc] at h; cases h
  | ok ts =>
    rw [hc] at h
    simp only at h
    have hb := lcut_bound _ 0 _ _ (Nat.le_refl _) hc
    unfold parseP at h
    cases hr : readP ts (l.length : Int) with
    | error q => rw [hr] at h; cases h
    | ok ys =>
      rw [hr] at h
      simp only at h
      obtain ⟨h1, h2, h3⟩ := readP_good (fun t ht => (hb t ht).1) hr
      cases hd : drawsP pen0 ys with
      | error q => rw [hd] at h; cases h
      | ok P =>
        rw [hd] at h
        cases h
        obtain ⟨r, h4, h5, h6, h7⟩ := draws_good ys pen0 P pen0_ok h1 (by decide) hd
        have h4' : P.l = r := by rw [h4]; rfl
        rw [h4'] at h7 ⊢
        have hlen : ys.length = r.length := by have := congrArg List.length h5; simpa using this.symm
        obtain ⟨h8, h9⟩ := h3 (by rw [hlen]; exact h7)
        cases r with
        | nil => exact absurd (List.eq_nil_of_length_eq_zero hlen) h8
        | cons s r =>
          have eg : goodL (s :: r) = (decide ((s :: r).length ≤ 4096) && decide (s.k = 1) && goodF 0 (s :: r)) := rfl
          rw [eg, decide_eq_true h7, goodF_zk h6 (by rw [h5]; exact h9)]
          cases ys with
          | nil => simp at hlen
          | cons y ys =>
            have hk := h2 y rfl
            have : s.k = y.L.k := by simp at h5; exact h5.1
            rw [this, hk]
            rfl
end Go.Proofs.YtnapannphldglaaDoor
