/- gessoref11.End by value; a part's text in small letters. -/
import Derived.Test.YtnapannphldglaaDoorPathP2
import Derived.Test.YtnapannphldglaaDoorPathT4
namespace Go.Proofs.YtnapannphldglaaDoor
open Go Go.RowKit

def endP (s : Sg) (sx sy : Int) : Int × Int := if s.k = 1 ∨ s.k = 2 then (s.v0, s.v1) else if s.k = 3 ∨ s.k = 5 then (s.v2, s.v3) else if s.k = 4 then (s.v4, s.v5) else (sx, sy)
set_option maxRecDepth 100000 in
set_option maxHeartbeats 4000000 in
theorem end_1 {w : World} (v0 v1 v2 v3 v4 v5 wt sx sy : Int) :
    Calls Tryd.prog 13 #[.agg #[.int .i64 1, .int .i64 v0, .int .i64 v1, .int .i64 v2, .int .i64 v3, .int .i64 v4, .int .i64 v5, .int .i64 wt], .int .i64 sx, .int .i64 sy] w fun e w' => e = .returned (.tuple #[.int .i64 v0, .int .i64 v1]) ∧ Below w.heap.size w w' := by
  have hS := SB.new w ⟨1, v0, v1, v2, v3, v4, v5, wt⟩
  have c0 := hS.c0
  have c1 := hS.c1
  have c2 := hS.c2
  have c3 := hS.c3
  have c4 := hS.c4
  have c5 := hS.c5
  have c6 := hS.c6
  simp only at c0 c1 c2 c3 c4 c5 c6
  clear hS
  go_enter Tryd.func13, Tryd.ntmps13
  go_wp2
  go_region
  go_wp2
  go_ret2
  exact ⟨rfl, (Below.alloc (Below.refl _ _) (Nat.le_refl _) _).drew⟩
set_option maxRecDepth 100000 in
set_option maxHeartbeats 4000000 in
theorem end_2 {w : World} (v0 v1 v2 v3 v4 v5 wt sx sy : Int) :
    Calls Tryd.prog 13 #[.agg #[.int .i64 2, .int .i64 v0, .int .i64 v1, .int .i64 v2, .int .i64 v3, .int .i64 v4, .int .i64 v5, .int .i64 wt], .int .i64 sx, .int .i64 sy] w fun e w' => e = .returned (.tuple #[.int .i64 v0, .int .i64 v1]) ∧ Below w.heap.size w w' := by
  have hS := SB.new w ⟨2, v0, v1, v2, v3, v4, v5, wt⟩
  have c0 := hS.c0
  have c1 := hS.c1
  have c2 := hS.c2
  have c3 := hS.c3
  have c4 := hS.c4
  have c5 := hS.c5
  have c6 := hS.c6
  simp only at c0 c1 c2 c3 c4 c5 c6
  clear hS
  go_enter Tryd.func13, Tryd.ntmps13
  go_wp2
  go_region
  go_wp2
  go_ret2
  exact ⟨rfl, (Below.alloc (Below.refl _ _) (Nat.le_refl _) _).drew⟩
set_option maxRecDepth 100000 in
set_option maxHeartbeats 4000000 in
theorem end_3 {w : World} (v0 v1 v2 v3 v4 v5 wt sx sy : Int) :
    Calls Tryd.prog 13 #[.agg #[.int .i64 3, .int .i64 v0, .int .i64 v1, .int .i64 v2, .int .i64 v3, .int .i64 v4, .int .i64 v5, .int .i64 wt], .int .i64 sx, .int .i64 sy] w fun e w' => e = .returned (.tuple #[.int .i64 v2, .int .i64 v3]) ∧ Below w.heap.size w w' := by
  have hS := SB.new w ⟨3, v0, v1, v2, v3, v4, v5, wt⟩
  have c0 := hS.c0
  have c1 := hS.c1
  have c2 := hS.c2
  have c3 := hS.c3
  have c4 := hS.c4
  have c5 := hS.c5
  have c6 := hS.c6
  simp only at c0 c1 c2 c3 c4 c5 c6
  clear hS
  go_enter Tryd.func13, Tryd.ntmps13
  go_wp2
  go_region
  go_wp2
  go_ret2
  exact ⟨rfl, (Below.alloc (Below.refl _ _) (Nat.le_refl _) _).drew⟩
set_option maxRecDepth 100000 in
set_option maxHeartbeats 4000000 in
theorem end_4 {w : World} (v0 v1 v2 v3 v4 v5 wt sx sy : Int) :
    Calls Tryd.prog 13 #[.agg #[.int .i64 4, .int .i64 v0, .int .i64 v1, .int .i64 v2, .int .i64 v3, .int .i64 v4, .int .i64 v5, .int .i64 wt], .int .i64 sx, .int .i64 sy] w fun e w' => e = .returned (.tuple #[.int .i64 v4, .int .i64 v5]) ∧ Below w.heap.size w w' := by
  have hS := SB.new w ⟨4, v0, v1, v2, v3, v4, v5, wt⟩
  have c0 := hS.c0
  have c1 := hS.c1
  have c2 := hS.c2
  have c3 := hS.c3
  have c4 := hS.c4
  have c5 := hS.c5
  have c6 := hS.c6
  simp only at c0 c1 c2 c3 c4 c5 c6
  clear hS
  go_enter Tryd.func13, Tryd.ntmps13
  go_wp2
  go_region
  go_wp2
  go_ret2
  exact ⟨rfl, (Below.alloc (Below.refl _ _) (Nat.le_refl _) _).drew⟩
set_option maxRecDepth 100000 in
set_option maxHeartbeats 4000000 in
theorem end_5 {w : World} (v0 v1 v2 v3 v4 v5 wt sx sy : Int) :
    Calls Tryd.prog 13 #[.agg #[.int .i64 5, .int .i64 v0, .int .i64 v1, .int .i64 v2, .int .i64 v3, .int .i64 v4, .int .i64 v5, .int .i64 wt], .int .i64 sx, .int .i64 sy] w fun e w' => e = .returned (.tuple #[.int .i64 v2, .int .i64 v3]) ∧ Below w.heap.size w w' := by
  have hS := SB.new w ⟨5, v0, v1, v2, v3, v4, v5, wt⟩
  have c0 := hS.c0
  have c1 := hS.c1
  have c2 := hS.c2
  have c3 := hS.c3
  have c4 := hS.c4
  have c5 := hS.c5
  have c6 := hS.c6
  simp only at c0 c1 c2 c3 c4 c5 c6
  clear hS
  go_enter Tryd.func13, Tryd.ntmps13
  go_wp2
  go_region
  go_wp2
  go_ret2
  exact ⟨rfl, (Below.alloc (Below.refl _ _) (Nat.le_refl _) _).drew⟩
set_option maxRecDepth 100000 in
set_option maxHeartbeats 4000000 in
theorem end_6 {w : World} (v0 v1 v2 v3 v4 v5 wt sx sy : Int) :
    Calls Tryd.prog 13 #[.agg #[.int .i64 6, .int .i64 v0, .int .i64 v1, .int .i64 v2, .int .i64 v3, .int .i64 v4, .int .i64 v5, .int .i64 wt], .int .i64 sx, .int .i64 sy] w fun e w' => e = .returned (.tuple #[.int .i64 sx, .int .i64 sy]) ∧ Below w.heap.size w w' := by
  have hS := SB.new w ⟨6, v0, v1, v2, v3, v4, v5, wt⟩
  have c0 := hS.c0
  have c1 := hS.c1
  have c2 := hS.c2
  have c3 := hS.c3
  have c4 := hS.c4
  have c5 := hS.c5
  have c6 := hS.c6
  simp only at c0 c1 c2 c3 c4 c5 c6
  clear hS
  go_enter Tryd.func13, Tryd.ntmps13
  go_wp2
  go_ret2
  exact ⟨rfl, (Below.refl _ _).alloc (Nat.le_refl _) _⟩
theorem end11 {w : World} {s : Sg} (sx sy : Int) (h1 : 1 ≤ s.k) (h6 : s.k ≤ 6) :
    Calls Tryd.prog 13 #[.agg #[.int .i64 s.k, .int .i64 s.v0, .int .i64 s.v1, .int .i64 s.v2, .int .i64 s.v3, .int .i64 s.v4, .int .i64 s.v5, .int .i64 s.w], .int .i64 sx, .int .i64 sy] w fun e w' => e = .returned (.tuple #[.int .i64 (endP s sx sy).1, .int .i64 (endP s sx sy).2]) ∧ Below w.heap.size w w' := by
  obtain ⟨k, v0, v1, v2, v3, v4, v5, wt⟩ := s
  simp only at h1 h6
  rcases (by omega : k = 1 ∨ k = 2 ∨ k = 3 ∨ k = 4 ∨ k = 5 ∨ k = 6) with rfl | rfl | rfl | rfl | rfl | rfl
  · exact end_1 v0 v1 v2 v3 v4 v5 wt sx sy
  · exact end_2 v0 v1 v2 v3 v4 v5 wt sx sy
  · exact end_3 v0 v1 v2 v3 v4 v5 wt sx sy
  · exact end_4 v0 v1 v2 v3 v4 v5 wt sx sy
  · exact end_5 v0 v1 v2 v3 v4 v5 wt sx sy
  · exact end_6 v0 v1 v2 v3 v4 v5 wt sx sy
/-- Where a part in small letters leaves the pen. -/
theorem step_end {P : Pn} {s : Sg} {x : Lt} (hx : letterK s.k = some x) : ∀ c d, c = (if s.k = 1 then s.v0 else P.c) → d = (if s.k = 1 then s.v1 else P.d) → stepS P s = ⟨P.l ++ [s], (endP s c d).1, (endP s c d).2, c, d⟩ := by
  intro c d hc hd
  obtain ⟨hk, hf⟩ := k_kind hx
  have hp : ∀ y ∈ ltT, y.f = 0 → (y.k = 1 ∧ y.p = 1) ∨ (y.k = 2 ∧ y.p = 1) ∨ (y.k = 3 ∧ y.p = 2) ∨ (y.k = 4 ∧ y.p = 3) ∨ (y.k = 5 ∧ y.p = 2) ∨ (y.k = 6 ∧ y.p = 0) := by decide
  unfold stepS moveP endP
  rw [hx]
  simp only
  rcases hp x (letterK_mem hx) hf with ⟨a, b⟩ | ⟨a, b⟩ | ⟨a, b⟩ | ⟨a, b⟩ | ⟨a, b⟩ | ⟨a, b⟩ <;> rw [hk] at a <;> rw [b] <;> simp [a] at hc hd ⊢ <;> simp [hc, hd, Sg.get]
def numsS (P : Pn) (s : Sg) (m : Nat) : List UInt8 := (List.range m).flatMap fun j => 32 :: Lib.itoa (s.get j - (if j % 2 = 0 then P.a else P.b))
theorem numsS_s (P : Pn) (s : Sg) (m : Nat) : numsS P s (m + 1) = numsS P s m ++ 32 :: Lib.itoa (s.get m - (if m % 2 = 0 then P.a else P.b)) := by
  simp [numsS, List.range_succ]
def headS (s : Sg) : List UInt8 := smB s.k :: (if s.k = 5 then Lib.itoa s.w else [])
theorem part_sm {P : Pn} {s : Sg} {x : Lt} (hx : letterK s.k = some x) : smP P s = headS s ++ numsS P s (used s.k).toNat := by
  have hu := used_letter hx
  obtain ⟨hk, hf⟩ := k_kind hx
  have hm := letterK_mem hx
  unfold smP headS numsS smQ
  rw [hx, hu]
  rcases f0_letters x hm hf with ⟨hp, hh, h5⟩ | ⟨hp, hh, h5⟩ | ⟨hp, hh, h5⟩ | ⟨hp, hh, h5⟩ | ⟨hp, hh, h5⟩ <;> rw [hk] at h5 <;> simp only [hp, hh] <;> simp [gnB, relT, h5, List.range, List.range.loop]
theorem small_cut {k : Int} (h1 : 1 ≤ k) (h6 : k ≤ 6) (W : World) : (Instr.slice 9 (.string ⟨#[63, 109, 108, 113, 99, 107, 122]⟩) (some (.int .i64 k)) (some (.int .i64 (k + 1))) none).run Tryd.prog W = .ok (.string ⟨#[smB k]⟩) W := by
  have h : k = 1 ∨ k = 2 ∨ k = 3 ∨ k = 4 ∨ k = 5 ∨ k = 6 := by omega
  rcases h with rfl | rfl | rfl | rfl | rfl | rfl <;> rw [run_slice_string (P := Tryd.prog) W 9 _ .i64 .i64 _ _ Tryd.underlying9 (by decide) (by decide) (by decide)] <;> rfl
theorem pens_in {l : List Sg} (h : ∀ s ∈ l, goodS s = true) : ∀ {P : Pn}, (inC P.a ∧ inC P.b ∧ inC P.c ∧ inC P.d) → inC (pens P l).a ∧ inC (pens P l).b ∧ inC (pens P l).c ∧ inC (pens P l).d := by
  induction l with
  | nil => exact fun h => h
  | cons s l ih => exact fun hP => ih (fun x hx => h x (List.mem_cons_of_mem _ hx)) (stepS_ok hP (h s List.mem_cons_self))
theorem good_in {s : Sg} (h : goodS s = true) (j : Nat) : inC (s.get j) := by
  obtain ⟨x, hx⟩ := goodS_letter h
  obtain ⟨hv, _⟩ := goodS_v hx h
  rcases Nat.lt_or_ge j 6 with q | q
  · exact isC_iff.1 (hv j q).1
  · have e : s.get j = s.get 5 := by
      match j, q with
      | j + 6, _ => rfl
    rw [e]; exact isC_iff.1 (hv 5 (by decide)).1
theorem rel_len {s : Sg} {P : Pn} (h : goodS s = true) (hP : inC P.a ∧ inC P.b ∧ inC P.c ∧ inC P.d) (j : Nat) : (Lib.itoa (s.get j - (if j % 2 = 0 then P.a else P.b))).length ≤ 20 := by
  have h1 := good_in h j
  obtain ⟨a, b, _, _⟩ := hP
  unfold inC at *
  exact itoa_len _ (by split <;> omega)
theorem numsS_len {s : Sg} {P : Pn} (h : goodS s = true) (hP : inC P.a ∧ inC P.b ∧ inC P.c ∧ inC P.d) (m : Nat) : (numsS P s m).length ≤ 21 * m := by
  induction m with
  | zero => simp [numsS]
  | succ m ih =>
    have h3 := rel_len h hP m
    rw [numsS_s, List.length_append, List.length_cons]
    omega
theorem headS_len (s : Sg) (h : goodS s = true) : (headS s).length ≤ 21 := by
  unfold headS
  by_cases h5 : s.k = 5
  · have h2 := good_w5 h h5
    have h3 := itoa_len s.w (by omega)
    rw [if_pos h5]
    simp only [List.length_cons]
    omega
  · rw [if_neg h5]; simp
theorem smP_len {s : Sg} {P : Pn} (h : goodS s = true) (hP : inC P.a ∧ inC P.b ∧ inC P.c ∧ inC P.d) : (smP P s).length ≤ 147 := by
  obtain ⟨x, hx⟩ := goodS_letter h
  obtain ⟨U, hU, hU6⟩ := used_nat hx
  rw [part_sm hx, hU, List.length_append, Int.toNat_natCast]
  have h1 := headS_len s h
  have h2 := numsS_len h hP U
  omega
theorem smallT_len : ∀ {l : List Sg} {P : Pn}, (∀ s ∈ l, goodS s = true) → (inC P.a ∧ inC P.b ∧ inC P.c ∧ inC P.d) → (smallT P l).length ≤ 147 * l.length
  | [], P, _, _ => by simp [smallT]
  | s :: l, P, h, hP => by
    have h1 := smP_len (h s List.mem_cons_self) hP
    have h2 := smallT_len (l := l) (fun x hx => h x (List.mem_cons_of_mem _ hx)) (stepS_ok hP (h s List.mem_cons_self))
    rw [smallT, List.length_append, List.length_cons]
    omega
end Go.Proofs.YtnapannphldglaaDoor
