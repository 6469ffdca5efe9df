/- lex.token by value. -/
import Derived.Test.YtnapannphldglaaDoorLexA
namespace Go.Proofs.YtnapannphldglaaDoor
open Go Go.RowKit

theorem tail_str {s : ByteArray} {c : UInt8} {r : List UInt8} (h : s.data.toList = c :: r) : (s.extract 1 s.size).data.toList = r := by
  have : s.data.size = r.length + 1 := by rw [← Array.length_toList, h]; rfl
  simp [ByteArray.size, h, this]
set_option maxRecDepth 100000 in
set_option maxHeartbeats 4000000 in
theorem token_minus (s : ByteArray) (c : UInt8) (r : List UInt8) (w : World) (hs : s.data.toList = c :: r) (hl : s.size ≤ 1048576) (hc : c.toNat = 45) (hd : ∀ x ∈ r, isD x = true) (hr : 0 < r.length) :
    Calls Tryd.prog 36 #[.string s] w fun e w' => e = .returned (tokV (tokOf 0 (c :: r))) ∧ Below w.heap.size w w' := by
  obtain ⟨h0, hc0, hlen⟩ := str_head hs
  have h45 : c.toNat = 45 := hc
  have hP : isP c = false := isP_no.2 (by omega)
  have hL : isL c = false := isL_no.2 (by omega)
  have hD : isD c = false := isD_no.2 (by omega)
  have hk : kindB c = 4 := by simp [kindB, hP, hL, hD, h45]
  have hr0 : ¬ r.length = 0 := by omega
  have ht : tokV (tokOf 0 (c :: r)) = .tuple #[.agg #[.int .i64 2, .string ⟨#[]⟩, .int .i64 (-(cap62 (lval r) : Int)), .int .i64 0], .bool true] := by
    simp only [tokOf, hP, hL, hD, h45, hr0, if_true, if_false, tokV, tkN, Bool.false_eq_true]
  have HT := Lib.hid ht
  have hts := tail_str hs
  have htl : (s.extract 1 s.size).size = r.length := by rw [← hts]; simp
  have HV : Hid ((cap62 (lval (s.extract 1 s.size).data.toList) : Int) = cap62 (lval r)) := by show _ = _; rw [hts]
  have HD : Hid (∀ x ∈ (s.extract 1 s.size).data.toList, isD x = true) := by
    show ∀ x ∈ (s.extract 1 s.size).data.toList, isD x = true
    rw [hts]; exact hd
  have hcp := cap62_le (lval (s.extract 1 s.size).data.toList)
  unfold mst at hcp
  have hlt : (s.extract 1 s.size).size ≤ 1048576 := by omega
  have e1 : (s.extract 1 s.size).toList.isEmpty = false := by
    rw [ByteArray.toList_eq, hts]
    cases r with
    | nil => simp at hr
    | cons x y => rfl
  obtain ⟨N, hN⟩ : ∃ N, N = cap62 (lval r) := ⟨_, rfl⟩
  have HN := Lib.hid (fun W => number_any (s.extract 1 s.size) W hlt HD.out)
  rw [hts, ← hN] at HN
  rw [hts, ← hN] at hcp
  rw [← hN] at ht
  replace HT := Lib.hid ht
  clear hd hP hL hD h45 hc hts htl hr0 hr hlt hN HV HD
  have HK := Lib.hid hk
  have HC0 := Lib.hid hc0
  have HS := Lib.hid hs
  clear hk hc0 ht hs hlen
  go_enter Tryd.func36, Tryd.ntmps36
  go_wp2_with (first
    | (go_at_call 35; refine (firstOf_any s _ h0).mono ?_; rintro e w' ⟨rfl, rfl⟩; rw [HC0.out, HK.out])
    | (go_at_call 56; refine (HN.out _).mono ?_; rintro e w' ⟨rfl, hb⟩; have hz : w.heap.size + 1 ≤ w'.heap.size := (by simpa using hb.size); obtain ⟨hcl, hfr⟩ := bcell hb))
  refine bodyPost_ret (v := .tuple #[.agg #[.int .i64 2, .string ⟨#[]⟩,  .int .i64 (-(N : Int)), .int .i64 0], .bool true]) ?_ rfl ⟨HT.out.symm ▸ rfl, ?_⟩
  · simp [results, Tryd.results36, go_sem, hcl]
  · iterate 4 refine Below.setCell (B := w.heap.size) (p := ⟨w.heap.size, _, none⟩) ?_ (Nat.le_refl _) _
    exact ((Below.refl _ _).alloc (Nat.le_refl _) _).trans (hb.mono (by simp))
set_option maxRecDepth 100000 in
set_option maxHeartbeats 4000000 in
theorem token_sole (s : ByteArray) (c : UInt8) (r : List UInt8) (w : World) (hs : s.data.toList = c :: r) (hc : c.toNat = 45) (hr : r.length = 0) :
    Calls Tryd.prog 36 #[.string s] w fun e w' => e = .returned (tokV (tokOf 0 (c :: r))) ∧ Below w.heap.size w w' := by
  obtain ⟨h0, hc0, hlen⟩ := str_head hs
  have h45 : c.toNat = 45 := hc
  have hP : isP c = false := isP_no.2 (by omega)
  have hL : isL c = false := isL_no.2 (by omega)
  have hD : isD c = false := isD_no.2 (by omega)
  have hk : kindB c = 4 := by simp [kindB, hP, hL, hD, h45]
  have ht : tokV (tokOf 0 (c :: r)) = .tuple #[.agg #[.int .i64 0, .string ⟨#[]⟩, .int .i64 0, .int .i64 0], .bool false] := by
    simp [tokOf, hP, hL, hD, h45, hr, tokV]
  have HT := Lib.hid ht
  have e1 : (s.extract 1 s.size).toList.isEmpty = true := by
    rw [ByteArray.toList_eq, tail_str hs]
    cases r with
    | nil => rfl
    | cons x y => simp at hr
  clear hP hL hD h45 hc hr
  have HK := Lib.hid hk
  have HC0 := Lib.hid hc0
  have HS := Lib.hid hs
  clear hk hc0 ht hs hlen
  go_enter Tryd.func36, Tryd.ntmps36
  go_wp2_with (first
    | (go_at_call 35; refine (firstOf_any s _ h0).mono ?_; rintro e w' ⟨rfl, rfl⟩; rw [HC0.out, HK.out]))
  refine bodyPost_ret (v := .tuple #[.agg #[.int .i64 0, .string ⟨#[]⟩, .int .i64 0, .int .i64 0], .bool false]) ?_ rfl ⟨HT.out.symm ▸ rfl, ?_⟩
  · simp [results, Tryd.results36, go_sem]
  · skip
    exact (Below.refl _ _).alloc (Nat.le_refl _) _
set_option maxRecDepth 100000 in
set_option maxHeartbeats 4000000 in
theorem token_end (s : ByteArray) (c : UInt8) (r : List UInt8) (w : World) (hs : s.data.toList = c :: r) (hc : c.toNat = 10) :
    Calls Tryd.prog 36 #[.string s] w fun e w' => e = .returned (tokV (tokOf 0 (c :: r))) ∧ Below w.heap.size w w' := by
  obtain ⟨h0, hc0, hlen⟩ := str_head hs
  have hP : isP c = false := isP_no.2 (by omega)
  have hL : isL c = false := isL_no.2 (by omega)
  have hD : isD c = false := isD_no.2 (by omega)
  have hk : kindB c = 5 := by simp [kindB, hP, hL, hD, hc]
  have ht : tokV (tokOf 0 (c :: r)) = .tuple #[.agg #[.int .i64 3, .string ⟨#[]⟩, .int .i64 0, .int .i64 0], .bool true] := by
    simp [tokOf, hP, hL, hD, hc, tokV, tkE]
  have HT := Lib.hid ht
  clear hP hL hD hc
  have HK := Lib.hid hk
  have HC0 := Lib.hid hc0
  have HS := Lib.hid hs
  clear hk hc0 ht hs hlen
  go_enter Tryd.func36, Tryd.ntmps36
  go_wp2_with (first
    | (go_at_call 35; refine (firstOf_any s _ h0).mono ?_; rintro e w' ⟨rfl, rfl⟩; rw [HC0.out, HK.out]))
  refine bodyPost_ret (v := .tuple #[.agg #[.int .i64 3, .string ⟨#[]⟩, .int .i64 0, .int .i64 0], .bool true]) ?_ rfl ⟨HT.out.symm ▸ rfl, ?_⟩
  · simp [results, Tryd.results36, go_sem]
  · skip
    exact (Below.refl _ _).alloc (Nat.le_refl _) _
set_option maxRecDepth 100000 in
set_option maxHeartbeats 4000000 in
theorem token_none (s : ByteArray) (c : UInt8) (r : List UInt8) (w : World) (hs : s.data.toList = c :: r) (hP : isP c = false) (hL : isL c = false) (hD : isD c = false) (h45 : ¬ c.toNat = 45) (h10 : ¬ c.toNat = 10) :
    Calls Tryd.prog 36 #[.string s] w fun e w' => e = .returned (tokV (tokOf 0 (c :: r))) ∧ Below w.heap.size w w' := by
  obtain ⟨h0, hc0, hlen⟩ := str_head hs
  have hk : kindB c = 0 := by simp [kindB, hP, hL, hD, h45, h10]
  have ht : tokV (tokOf 0 (c :: r)) = .tuple #[.agg #[.int .i64 0, .string ⟨#[]⟩, .int .i64 0, .int .i64 0], .bool false] := by
    simp [tokOf, hP, hL, hD, h45, h10, tokV]
  have HT := Lib.hid ht
  clear hP hL hD h45 h10
  have HK := Lib.hid hk
  have HC0 := Lib.hid hc0
  have HS := Lib.hid hs
  clear hk hc0 ht hs hlen
  go_enter Tryd.func36, Tryd.ntmps36
  go_wp2_with (first
    | (go_at_call 35; refine (firstOf_any s _ h0).mono ?_; rintro e w' ⟨rfl, rfl⟩; rw [HC0.out, HK.out]))
  refine bodyPost_ret (v := .tuple #[.agg #[.int .i64 0, .string ⟨#[]⟩, .int .i64 0, .int .i64 0], .bool false]) ?_ rfl ⟨HT.out.symm ▸ rfl, ?_⟩
  · simp [results, Tryd.results36, go_sem]
  · skip
    exact (Below.refl _ _).alloc (Nat.le_refl _) _
/-- A piece: its bytes behind the first one are digits, where it begins with one or a minus. -/
def Digs (c : UInt8) (r : List UInt8) : Prop := (isD c = true ∨ c.toNat = 45) → ∀ x ∈ r, isD x = true
theorem token_any (s : ByteArray) (c : UInt8) (r : List UInt8) (w : World) (hs : s.data.toList = c :: r) (hl : s.size ≤ 1048576) (hd : Digs c r) (hP : isP c = false) :
    Calls Tryd.prog 36 #[.string s] w fun e w' => e = .returned (tokV (tokOf 0 (c :: r))) ∧ Below w.heap.size w w' := by
  by_cases hL : isL c = true
  · exact token_word s c r w hs hl hL
  · have hL : isL c = false := by simpa using hL
    by_cases hD : isD c = true
    · exact token_digit s c r w hs hl hD (hd (.inl hD))
    · have hD : isD c = false := by simpa using hD
      by_cases h45 : c.toNat = 45
      · by_cases hr : r.length = 0
        · exact token_sole s c r w hs h45 hr
        · exact token_minus s c r w hs hl h45 (hd (.inr h45)) (by omega)
      · by_cases h10 : c.toNat = 10
        · exact token_end s c r w hs h10
        · exact token_none s c r w hs hP hL hD h45 h10
end Go.Proofs.YtnapannphldglaaDoor
