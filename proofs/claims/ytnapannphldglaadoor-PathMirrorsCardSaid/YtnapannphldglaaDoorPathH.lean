/- The reader takes a word; all tokens. -/
import Derived.Test.YtnapannphldglaaDoorPathG
namespace Go.Proofs.YtnapannphldglaaDoor
open Go Go.RowKit

/-- What a word leaves. -/
def GivesW (w : World) (r B : Nat) (R : Except Int RSt) (e : Ending) (w' : World) : Prop := (match R with
  | .error q => e = .returned (.tuple #[.int .i64 q, .bool false])
  | .ok S' => e = .returned (.tuple #[.int .i64 0, .bool true]) ∧ RS w' r B S') ∧ Below B w w' ∧ Kt ktN w w'
set_option maxRecDepth 100000 in
set_option maxHeartbeats 4000000 in
theorem token_w {w : World} {r B : Nat} {S : RSt} (t : Tk) (h : RS w r B S) (hB : 1 < B) (hBr : B ≤ r) (hrw : r < w.heap.size) (hl : LtIn w) (hk : t.k = 1) (hn : ¬ t.s = []) (hsz : t.p + t.s.length ≤ 4000000000000) :
    Calls Tryd.prog 57 #[.pointer (some ⟨r, 0, none⟩), .agg #[.int .i64 t.k, .string ⟨t.s.toArray⟩, .int .i64 t.n, .int .i64 (t.p : Int)]] w (GivesW w r B (wordR S t.p t.s)) := by
  have HKK := Lib.hid hk
  have HN := Lib.hid hn
  clear hk hn
  go_enter Tryd.func57, Tryd.ntmps57
  go_upto_region 1 with (fail)
  have hx := TB.new w t
  have hbl : Below B w (w.alloc (.cells #[.int .i64 t.k, .string ⟨t.s.toArray⟩, .int .i64 t.n, .int .i64 (t.p : Int)] 91)) := (Below.refl _ w).alloc (by omega) _
  replace h := h.below ((Below.refl _ w).alloc (Nat.le_refl _) (.cells #[.int .i64 t.k, .string ⟨t.s.toArray⟩, .int .i64 t.n, .int .i64 (t.p : Int)] 91))
  have hkt : Kt ktN w (w.alloc (.cells #[.int .i64 t.k, .string ⟨t.s.toArray⟩, .int .i64 t.n, .int .i64 (t.p : Int)] 91)) := Kt.of_below ((Below.refl _ w).alloc (Nat.le_refl _) _)
  replace hl := hl.below hbl hB
  generalize w.alloc (.cells #[.int .i64 t.k, .string ⟨t.s.toArray⟩, .int .i64 t.n, .int .i64 (t.p : Int)] 91) = W at *
  have H := Lib.hid h
  have HB := Lib.hid hbl
  have HL := Lib.hid hl
  have HX := Lib.hid hx
  have HK := Lib.hid hkt
  have t0 := hx.c0
  have t1 := hx.c1
  have t2 := hx.c2
  have t3 := hx.c3
  clear h hbl hl hx hkt
  rw [HKK.out] at t0
  have HSZ := Lib.hid hsz
  obtain ⟨sb, hsb⟩ : ∃ sb : ByteArray, sb = ⟨t.s.toArray⟩ := ⟨_, rfl⟩
  have HSB : Hid (sb.data.toList = t.s) := by show _ = _; rw [hsb]
  have hn0 : sb.size = t.s.length := by rw [hsb]; simp [ByteArray.size]
  have e1 : sb.toList.isEmpty = false := by
    rw [ByteArray.toList_eq, HSB.out]
    cases e : t.s with
    | nil => exact absurd e HN.out
    | cons x y => rfl
  rw [← hsb] at t1
  have HN0 := Lib.hid hn0
  have HSBE := Lib.hid hsb
  clear hsb hsz hn0
  go_wp2
  go_loopw [33] (fun i wr => ∃ k : Nat, k ≤ sb.size ∧ i = .int .i64 (k : Int) ∧ ∃ S1, wordR S t.p (t.s.take k) = .ok S1 ∧ RS wr r B S1 ∧ TB wr w.heap.size t ∧ LtIn wr ∧ Below B w wr ∧ Kt ktN w wr) (fun i _ => sb.size - (intOf i).toNat)
  case atStart => exact ⟨0, Nat.zero_le _, rfl, S, rfl, H.out, HX.out, HL.out, HB.out, HK.out⟩
  case round =>
    obtain ⟨k, hk, rfl, S1, hs1, hrs, htb, hlt, hbw, hkw⟩ := hrel
    clear t0 t1 t2 t3 H HB HL HX HK
    by_cases hlt2 : k < sb.size
    · have hget : t.s[k]? = some (sb[k]'hlt2) := by
        rw [← HSB.out, List.getElem?_eq_getElem (by simpa using hlt2)]; rfl
      have t0 := htb.c0
      have t1 : wr.cell? ⟨w.heap.size, 1, none⟩ = some (.string sb) := by rw [htb.c1, HSBE.out]
      have t3 := htb.c3
      have hpk : (t.p : Int) + (k : Int) ≤ 4000000000000 := by have := HSZ.out; have := HN0.out; omega
      have hby := (sb[k]'hlt2).toNat_lt
      have HRS := Lib.hid hrs
      have HTB := Lib.hid htb
      have HLT := Lib.hid hlt
      have HBW := Lib.hid hbw
      have HKW := Lib.hid hkw
      have HS1 := Lib.hid hs1
      have HG := Lib.hid hget
      clear hrs htb hlt hbw hkw hs1 hget
      cases hn : letterR S1 ((sb[k]'hlt2).toNat : Int) ((t.p : Int) + (k : Int)) with
      | none =>
        have HN1 := Lib.hid hn
        clear hn
        go_wp2_with (go_at_call 71; refine (letter_no _ hby _ HRS.out HLT.out HN1.out).mono ?_; rintro e w3 ⟨rfl, hb3, hk3⟩)
        go_ret2
        refine ⟨?_, HBW.out.trans hb3, HKW.out.trans (ktA_N hk3)⟩
        rw [wordR_miss HS1.out HG.out HN1.out]
        rfl
      | some S2 =>
        have HN1 := Lib.hid hn
        clear hn
        go_wp2_with (go_at_call 71; refine (letter_ok _ hby _ HRS.out HLT.out HN1.out).mono ?_; rintro e w3 ⟨rfl, hrs3, hb3, hk3⟩)
        exact ⟨⟨k + 1, hlt2, by go_num, S2, wordR_hit HS1.out HG.out HN1.out, hrs3, HTB.out.kt hk3 (by decide), HLT.out.below hb3 hB, HBW.out.trans hb3, HKW.out.trans (ktA_N hk3)⟩, by simp [intOf]; omega⟩
    · have : k = sb.size := by omega
      subst this
      go_wp2
      go_ret2
      refine ⟨?_, hbw, hkw⟩
      rw [HN0.out, List.take_length] at hs1
      rw [hs1]
      exact ⟨rfl, hrs⟩
set_option maxRecDepth 100000 in
set_option maxHeartbeats 4000000 in
theorem token_e1 {w : World} {r B : Nat} {S : RSt} (t : Tk) (h : RS w r B S) (hB : 1 < B) (hBr : B ≤ r) (hrw : r < w.heap.size) (hl : LtIn w) (hk : t.k = 1) (hn : t.s = []) :
    Calls Tryd.prog 57 #[.pointer (some ⟨r, 0, none⟩), .agg #[.int .i64 t.k, .string ⟨t.s.toArray⟩, .int .i64 t.n, .int .i64 (t.p : Int)]] w fun e w' => e = .returned (.tuple #[.int .i64 (t.p : Int), .bool false]) ∧ Below B w w' ∧ Kt ktN w w' := by
  have HKK := Lib.hid hk
  have HN := Lib.hid hn
  clear hk hn
  go_enter Tryd.func57, Tryd.ntmps57
  go_upto_region 1 with (fail)
  have hx := TB.new w t
  have hbl : Below B w (w.alloc (.cells #[.int .i64 t.k, .string ⟨t.s.toArray⟩, .int .i64 t.n, .int .i64 (t.p : Int)] 91)) := (Below.refl _ w).alloc (by omega) _
  replace h := h.below ((Below.refl _ w).alloc (Nat.le_refl _) (.cells #[.int .i64 t.k, .string ⟨t.s.toArray⟩, .int .i64 t.n, .int .i64 (t.p : Int)] 91))
  have hkt : Kt ktN w (w.alloc (.cells #[.int .i64 t.k, .string ⟨t.s.toArray⟩, .int .i64 t.n, .int .i64 (t.p : Int)] 91)) := Kt.of_below ((Below.refl _ w).alloc (Nat.le_refl _) _)
  replace hl := hl.below hbl hB
  generalize w.alloc (.cells #[.int .i64 t.k, .string ⟨t.s.toArray⟩, .int .i64 t.n, .int .i64 (t.p : Int)] 91) = W at *
  have H := Lib.hid h
  have HB := Lib.hid hbl
  have HL := Lib.hid hl
  have HX := Lib.hid hx
  have HK := Lib.hid hkt
  have t0 := hx.c0
  have t1 := hx.c1
  have t2 := hx.c2
  have t3 := hx.c3
  clear h hbl hl hx hkt
  rw [HKK.out] at t0
  rw [HN.out] at t1
  go_wp2
  go_ret2
  exact ⟨rfl, HB.out, HK.out⟩
set_option maxRecDepth 100000 in
set_option maxHeartbeats 4000000 in
theorem token_e2 {w : World} {r B : Nat} {S : RSt} (t : Tk) (h : RS w r B S) (hB : 1 < B) (hBr : B ≤ r) (hrw : r < w.heap.size) (hl : LtIn w) (hk : ¬ t.k = 2) (hn : ¬ t.k = 1) :
    Calls Tryd.prog 57 #[.pointer (some ⟨r, 0, none⟩), .agg #[.int .i64 t.k, .string ⟨t.s.toArray⟩, .int .i64 t.n, .int .i64 (t.p : Int)]] w fun e w' => e = .returned (.tuple #[.int .i64 (t.p : Int), .bool false]) ∧ Below B w w' ∧ Kt ktN w w' := by
  have HKK := Lib.hid hk
  have HN := Lib.hid hn
  clear hk hn
  go_enter Tryd.func57, Tryd.ntmps57
  go_upto_region 1 with (fail)
  have hx := TB.new w t
  have hbl : Below B w (w.alloc (.cells #[.int .i64 t.k, .string ⟨t.s.toArray⟩, .int .i64 t.n, .int .i64 (t.p : Int)] 91)) := (Below.refl _ w).alloc (by omega) _
  replace h := h.below ((Below.refl _ w).alloc (Nat.le_refl _) (.cells #[.int .i64 t.k, .string ⟨t.s.toArray⟩, .int .i64 t.n, .int .i64 (t.p : Int)] 91))
  have hkt : Kt ktN w (w.alloc (.cells #[.int .i64 t.k, .string ⟨t.s.toArray⟩, .int .i64 t.n, .int .i64 (t.p : Int)] 91)) := Kt.of_below ((Below.refl _ w).alloc (Nat.le_refl _) _)
  replace hl := hl.below hbl hB
  generalize w.alloc (.cells #[.int .i64 t.k, .string ⟨t.s.toArray⟩, .int .i64 t.n, .int .i64 (t.p : Int)] 91) = W at *
  have H := Lib.hid h
  have HB := Lib.hid hbl
  have HL := Lib.hid hl
  have HX := Lib.hid hx
  have HK := Lib.hid hkt
  have t0 := hx.c0
  have t1 := hx.c1
  have t2 := hx.c2
  have t3 := hx.c3
  clear h hbl hl hx hkt
  have hk := HKK.out
  have hn := HN.out
  go_wp2
  go_ret2
  exact ⟨rfl, HB.out, HK.out⟩
theorem rtoken_any {w : World} {r B : Nat} {S : RSt} (t : Tk) (h : RS w r B S) (hB : 1 < B) (hl : LtIn w) (hsz : t.p + t.s.length ≤ 4000000000000) :
    Calls Tryd.prog 57 #[.pointer (some ⟨r, 0, none⟩), .agg #[.int .i64 t.k, .string ⟨t.s.toArray⟩, .int .i64 t.n, .int .i64 (t.p : Int)]] w fun e w' => (match tokR S t with
      | .error q => e = .returned (.tuple #[.int .i64 q, .bool false])
      | .ok S' => ∃ z, e = .returned (.tuple #[.int .i64 z, .bool true]) ∧ RS w' r B S') ∧ Below B w w' ∧ Kt ktN w w' := by
  have hBr : B ≤ r := by obtain ⟨_, _, _, _, _, q⟩ := h; exact q.hB
  have hrw : r < w.heap.size := by obtain ⟨_, _, _, _, _, q⟩ := h; exact q.lt
  unfold tokR
  by_cases h2 : t.k = 2
  · rw [if_pos h2]
    cases hn : numberR S ⟨t.n, t.p⟩ with
    | none => exact (token_nn t h hB hBr hrw hl h2 hn)
    | some S' => exact (token_ny t h hB hBr hrw hl h2 hn).mono fun e w' ⟨a, b, c, d⟩ => ⟨⟨_, a, b⟩, c, d⟩
  · rw [if_neg h2]
    by_cases h1 : t.k = 1
    · by_cases hs : t.s = []
      · rw [if_neg (fun q => q.2 hs)]
        exact token_e1 t h hB hBr hrw hl h1 hs
      · rw [if_pos ⟨h1, hs⟩]
        refine (token_w t h hB hBr hrw hl h1 hs hsz).mono fun e w' ⟨a, b, c⟩ => ⟨?_, b, c⟩
        cases hw : wordR S t.p t.s with
        | error q => rw [hw] at a; exact a
        | ok S' => rw [hw] at a; exact ⟨_, a.1, a.2⟩
    · rw [if_neg (fun q => h1 q.1)]
      exact token_e2 t h hB hBr hrw hl h2 h1
end Go.Proofs.YtnapannphldglaaDoor
