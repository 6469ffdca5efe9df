/- path.read by value. -/
import Derived.Test.YtnapannphldglaaDoorPathH
import Derived.Test.YtnapannphldglaaDoorLexR
namespace Go.Proofs.YtnapannphldglaaDoor
open Go Go.RowKit

theorem readR_app (m : List Tk) : ∀ (l : List Tk) (S : RSt), readR S (l ++ m) = match readR S l with
    | .error q => .error q
    | .ok S' => readR S' m
  | [], S => rfl
  | t :: l, S => by
    rw [List.cons_append, readR, readR]
    cases tokR S t with
    | error q => rfl
    | ok S' => exact readR_app m l S'
theorem readR_hit {S S1 S2 : RSt} {ts : List Tk} {k : Nat} {t : Tk} (h : readR S (ts.take k) = .ok S1) (hc : ts[k]? = some t) (hn : tokR S1 t = .ok S2) : readR S (ts.take (k + 1)) = .ok S2 := by
  obtain ⟨hl, he⟩ := List.getElem?_eq_some_iff.1 hc
  rw [List.take_succ_eq_append_getElem hl, he, readR_app, h]
  simp [readR, hn]
theorem readR_miss {S S1 : RSt} {ts : List Tk} {k : Nat} {t : Tk} {q : Int} (h : readR S (ts.take k) = .ok S1) (hc : ts[k]? = some t) (hn : tokR S1 t = .error q) : readR S ts = .error q := by
  obtain ⟨hl, he⟩ := List.getElem?_eq_some_iff.1 hc
  conv => lhs; rw [← List.take_append_drop k ts]
  rw [readR_app, h, List.drop_eq_getElem_cons hl, he]
  simp [readR, hn]
/-- Parts, as they lie in a slice. -/
structure PL (w : World) (B : Nat) (lv : Value) (ps : List Pq) : Prop where
  own : w.ownsRow B 104 9 lv ps.length (pqCells ps)
  most : ps.length ≤ 4097
  nums : ∀ q ∈ ps, NV w q.A q.x.ns ∧ ∀ a, q.A = some a → a.block < w.heap.size
def GivesRd (w : World) (R : Except Int (List Pa)) (e : Ending) (w' : World) : Prop := (match R with
  | .error q => e = .returned (.tuple #[.slice none 0 0, .int .i64 q, .bool false])
  | .ok l => ∃ lv ps, e = .returned (.tuple #[lv, .int .i64 0, .bool true]) ∧ l = ps.map (·.x) ∧ PL w' w.heap.size lv ps) ∧ Below w.heap.size w w'
theorem rs_new {w : World} (hl : LtIn w) : RS (w.alloc (.cells #[.slice none 0 0, .int .u8 0, .int .i64 0, .int .i64 0, .string ⟨#[]⟩, .int .i64 0, .int .u8 0, .bool false, .int .i64 0, .slice none 0 0] 128)) w.heap.size w.heap.size ([], pa0) :=
  ⟨[], .slice none 0 0, none, 0, rfl, heap_alloc_new w _, Nat.le_refl _, hl.lt, World.ownsRow_nil _ _ _ _, by decide, List.mem_cons_self, fun q hq => (by cases hq), .inl rfl, fun a ha => (by cases ha), fun e => by cases e⟩
theorem RS.kind {w : World} {r B : Nat} {S : RSt} (h : RS w r B S) : w.cell? ⟨r, 2, none⟩ = some (.int .i64 S.2.L.k) := by
  obtain ⟨_, _, _, _, _, h⟩ := h; exact h.c2
theorem RS.listc {w : World} {r B : Nat} {S : RSt} (h : RS w r B S) : ∃ A n c ps, w.cell? ⟨r, 0, none⟩ = some (.slice A n c) ∧ S.1 = ps.map (·.x) ∧ PL w B (.slice A n c) ps := by
  obtain ⟨ps, lv, A, c, hps, h⟩ := h
  obtain ⟨A0, c0, rfl⟩ := row_sl h.own
  exact ⟨A0, _, c0, ps, h.c0, hps, h.own, h.most, h.nums⟩
theorem rlacks_any {w : World} {r B : Nat} {S : RSt} (h : RS w r B S) :
    Calls Tryd.prog 58 #[.pointer (some ⟨r, 0, none⟩)] w fun e w' => e = .returned (.bool (lacks S.2)) ∧ ∃ q, w' = w.drewN q := by
  obtain ⟨_, _, _, _, _, h⟩ := h; exact lacks_any h
set_option maxRecDepth 100000 in
set_option maxHeartbeats 4000000 in
theorem read_any {w : World} {A : Option Addr} {n c : Nat} {ts : List Tk} (hv : TV w A ts) (hn : ts.length = n) (hm : n ≤ maxLen) (hl : LtIn w) (hsz : ∀ t ∈ ts, t.p + t.s.length ≤ 4000000000000) (a : Int) :
    Calls Tryd.prog 37 #[.slice A n c, .int .i64 a] w (GivesRd w (readP ts a)) := by
  have HM := Lib.hid hm
  have HN := Lib.hid hn
  have HSZ := Lib.hid hsz
  clear hn hsz hm
  go_enter Tryd.func37, Tryd.ntmps37
  go_upto_region 2 with (fail)
  have hrs := rs_new hl
  have hbl : Below w.heap.size w (w.alloc (.cells #[.slice none 0 0, .int .u8 0, .int .i64 0, .int .i64 0, .string ⟨#[]⟩, .int .i64 0, .int .u8 0, .bool false, .int .i64 0, .slice none 0 0] 128)) := (Below.refl _ w).alloc (Nat.le_refl _) _
  have HV := Lib.hid hv
  have h00 := hl.lt
  replace hl := hl.below hbl h00
  have hz : w.heap.size < (w.alloc (.cells #[.slice none 0 0, .int .u8 0, .int .i64 0, .int .i64 0, .string ⟨#[]⟩, .int .i64 0, .int .u8 0, .bool false, .int .i64 0, .slice none 0 0] 128)).heap.size := by simp
  generalize w.alloc (.cells #[.slice none 0 0, .int .u8 0, .int .i64 0, .int .i64 0, .string ⟨#[]⟩, .int .i64 0, .int .u8 0, .bool false, .int .i64 0, .slice none 0 0] 128) = W at *
  have hmx : (n : Int) ≤ 9223372036854775807 := by have := HM.out; unfold maxLen at this; omega
  clear hv
  go_wp2
  go_loopw [14] (fun i wr => ∃ k : Nat, k ≤ n ∧ i = .int .i64 (k : Int) ∧ ∃ S1, readR ([], pa0) (ts.take k) = .ok S1 ∧ RS wr w.heap.size w.heap.size S1 ∧ LtIn wr ∧ Below w.heap.size w wr) (fun i _ => n - (intOf i).toNat)
  case atStart => exact ⟨0, Nat.zero_le _, rfl, _, rfl, hrs, hl, hbl⟩
  case round =>
    obtain ⟨k, hk, rfl, S1, hs1, hrs1, hl1, hb1⟩ := hrel
    clear hrs hl hbl hz
    by_cases hlt : k < n
    · obtain ⟨t, ht⟩ : ∃ t, ts[k]? = some t := ⟨_, List.getElem?_eq_getElem (by rw [HN.out]; exact hlt)⟩
      obtain ⟨g, rfl, TA⟩ := (HV.out.below hb1).get ht
      have hsz := HSZ.out t (List.mem_of_getElem? ht)
      obtain ⟨a0, a1, a2, a3⟩ := TA
      have HT := Lib.hid ht
      have HS1 := Lib.hid hs1
      have HRS := Lib.hid hrs1
      have HL := Lib.hid hl1
      have HB := Lib.hid hb1
      have HZ := Lib.hid hsz
      have hz1 := hb1.size
      clear ht hs1 hrs1 hl1 hb1 hsz
      cases hq : tokR S1 t with
      | error q =>
        have HQ := Lib.hid hq
        clear hq
        go_wp2_with (go_at_call 57; refine (rtoken_any t (HRS.out.below ((Below.refl _ wr).alloc (Nat.le_refl _) (.cells #[.int .i64 t.k, .string ⟨t.s.toArray⟩, .int .i64 t.n, .int .i64 (t.p : Int)] 91))) h00 (HL.out.below ((Below.refl _ wr).alloc (Nat.le_refl _) (.cells #[.int .i64 t.k, .string ⟨t.s.toArray⟩, .int .i64 t.n, .int .i64 (t.p : Int)] 91)) HL.out.lt) HZ.out).mono ?_; rw [HQ.out]; rintro e w3 ⟨rfl, hb3, hk3⟩)
        go_ret3
        refine ⟨?_, (HB.out.alloc hz1 _).trans hb3⟩
        unfold readP
        rw [readR_miss HS1.out HT.out HQ.out]
        rfl
      | ok S2 =>
        have HQ := Lib.hid hq
        clear hq
        go_wp2_with (go_at_call 57; refine (rtoken_any t (HRS.out.below ((Below.refl _ wr).alloc (Nat.le_refl _) (.cells #[.int .i64 t.k, .string ⟨t.s.toArray⟩, .int .i64 t.n, .int .i64 (t.p : Int)] 91))) h00 (HL.out.below ((Below.refl _ wr).alloc (Nat.le_refl _) (.cells #[.int .i64 t.k, .string ⟨t.s.toArray⟩, .int .i64 t.n, .int .i64 (t.p : Int)] 91)) HL.out.lt) HZ.out).mono ?_; rw [HQ.out]; rintro e w3 ⟨⟨z, rfl, hrs3⟩, hb3, hk3⟩)
        exact ⟨⟨k + 1, hlt, by go_num, S2, readR_hit HS1.out HT.out HQ.out, hrs3, HL.out.below (((Below.refl w.heap.size wr).alloc hz1 _).trans hb3) h00, (HB.out.alloc hz1 _).trans hb3⟩, by simp [intOf]; omega⟩
    · have : k = n := by omega
      subst this
      rw [List.take_of_length_le (by rw [HN.out]; exact Nat.le_refl _)] at hs1
      have HS1 := Lib.hid hs1
      have HB := Lib.hid hb1
      have HRS := Lib.hid hrs1
      have k0 := hrs1.kind
      clear hs1 hb1 hrs1 hl1
      have hP : readP ts a = if decide (S1.2.L.k = 0) || lacks S1.2 then .error a else .ok S1.1 := by unfold readP; rw [HS1.out]
      have HP := Lib.hid hP
      clear hP
      by_cases hk0 : S1.2.L.k = 0
      · rw [hk0] at k0
        have HK0 := Lib.hid hk0
        clear hk0
        go_wp2
        go_ret3
        refine ⟨?_, HB.out⟩
        rw [HP.out, HK0.out]
        rfl
      · cases hlk : lacks S1.2 with
        | true =>
          have K := Lib.hid (rlacks_any HRS.out)
          rw [hlk] at K
          have HK1 := Lib.hid hlk
          clear hlk
          go_wp2_with (go_at_call 58; refine K.out.mono ?_; rintro e w3 ⟨rfl, q, rfl⟩)
          go_ret3
          refine ⟨?_, drewN_bel HB.out⟩
          rw [HP.out, HK1.out, Bool.or_true]
          rfl
        | false =>
          have K := Lib.hid (rlacks_any HRS.out)
          rw [hlk] at K
          have HK1 := Lib.hid hlk
          have HK2 := Lib.hid hk0
          clear hlk
          go_wp2_with (go_at_call 58; refine K.out.mono ?_; rintro e w3 ⟨rfl, q, rfl⟩; obtain ⟨A5, n5, c5, ps5, l0, lps, lpl⟩ := (HRS.out.heap (w' := wr.drewN q) rfl).listc)
          go_ret3
          refine ⟨?_, drewN_bel HB.out⟩
          rw [HP.out, HK1.out, decide_eq_false HK2.out]
          exact ⟨_, ps5, rfl, lps, lpl⟩
end Go.Proofs.YtnapannphldglaaDoor
