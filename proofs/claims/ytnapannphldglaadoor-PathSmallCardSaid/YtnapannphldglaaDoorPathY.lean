/- path.Text by value. -/
import Derived.Laws.IdiomStrings
import Derived.Test.YtnapannphldglaaDoorPathX
namespace Go.Proofs.YtnapannphldglaaDoor
open Go Go.RowKit

def partT (s : Sg) : List UInt8 := match letterK s.k with
  | some x => partX x s
  | none => []
def textP (l : List Sg) : List UInt8 := match l with
  | [] => []
  | s :: r => partT s ++ r.flatMap fun s => 32 :: partT s
theorem textP_0 {l : List Sg} {s : Sg} (h : l[0]? = some s) : textP (l.take 1) = partT s := by
  cases l with
  | nil => cases h
  | cons a r =>
    have : a = s := by simpa using h
    subst this
    simp [textP]
theorem textP_s {l : List Sg} {k : Nat} {s : Sg} (h : l[k]? = some s) (hk : 0 < k) : textP (l.take (k + 1)) = textP (l.take k) ++ 32 :: partT s := by
  obtain ⟨hl, he⟩ := List.getElem?_eq_some_iff.1 h
  rw [List.take_succ_eq_append_getElem hl, he]
  cases l with
  | nil => simp at hl
  | cons a r =>
    obtain ⟨j, rfl⟩ : ∃ j, k = j + 1 := ⟨k - 1, by omega⟩
    simp [textP]
theorem goodF_mem : ∀ {l : List Sg} {a : Int}, goodF a l = true → ∀ s ∈ l, goodS s = true
  | [], a, h, s, hs => by cases hs
  | t :: l, a, h, s, hs => by
    rw [goodF, Bool.and_eq_true, Bool.and_eq_true] at h
    rcases List.mem_cons.1 hs with rfl | q
    · exact h.1.1
    · exact goodF_mem h.2 s q
theorem goodL_mem {l : List Sg} (h : goodL l = true) : (∀ s ∈ l, goodS s = true) ∧ l.length ≤ 4096 := by
  cases l with
  | nil => cases h
  | cons s r =>
    have eg : goodL (s :: r) = (decide ((s :: r).length ≤ 4096) && decide (s.k = 1) && goodF 0 (s :: r)) := rfl
    rw [eg, Bool.and_eq_true, Bool.and_eq_true] at h
    exact ⟨goodF_mem h.2, of_decide_eq_true h.1.1⟩
theorem goodS_letter {s : Sg} (h : goodS s = true) : ∃ x, letterK s.k = some x := by
  unfold goodS at h
  cases hk : letterK s.k with
  | none => rw [hk] at h; cases h
  | some x => exact ⟨x, rfl⟩
theorem partT_len {s : Sg} (h : goodS s = true) : (partT s).length ≤ 127 := by
  obtain ⟨x, hx⟩ := goodS_letter h
  have h1 := numX_len s (goodS_b hx h) x.h.data.toList
  have h2 := lt_small x (letterK_mem hx)
  have h3 : x.h.data.toList.length = x.h.size := by simp
  unfold partT
  rw [hx]
  unfold partX
  simp only [List.length_cons]
  omega
theorem textP_len {l : List Sg} (h : ∀ s ∈ l, goodS s = true) : (textP l).length ≤ 128 * l.length := by
  cases l with
  | nil => exact Nat.le_refl _
  | cons s r =>
    have h1 := partT_len (h s List.mem_cons_self)
    have h2 : ∀ r : List Sg, (∀ s ∈ r, goodS s = true) → (r.flatMap fun s => 32 :: partT s).length ≤ 128 * r.length := by
      intro r
      induction r with
      | nil => intro _; exact Nat.le_refl _
      | cons t r ih =>
        intro hr
        have := partT_len (hr t List.mem_cons_self)
        have := ih fun s hs => hr s (List.mem_cons_of_mem _ hs)
        rw [List.flatMap_cons, List.length_append, List.length_cons, List.length_cons]
        omega
    have := h2 r fun s hs => h s (List.mem_cons_of_mem _ hs)
    show (partT s ++ _).length ≤ _
    rw [List.length_append, List.length_cons]
    omega
theorem textP_pos {l : List Sg} (h : ∀ s ∈ l, goodS s = true) (hl : 0 < l.length) : 0 < (textP l).length := by
  cases l with
  | nil => simp at hl
  | cons s r =>
    obtain ⟨x, hx⟩ := goodS_letter (h s List.mem_cons_self)
    have : partT s = partX x s := by unfold partT; rw [hx]
    show 0 < (partT s ++ _).length
    rw [this]
    simp [partX]
theorem row_bytes {w : World} {B g c n : Nat} {l : List UInt8} (h : w.ownsRow B 5 1 (.slice (some ⟨g, 0, none⟩) n c) n (Lib.byteCells l)) (_hn : l.length = n) : ∀ j (b : UInt8), l[j]? = some b → w.cell? ((⟨g, 0, none⟩ : Addr).add j) = some (.int .u8 (b.toNat : Int)) := by
  intro j b hb
  have := h.cells (g := g) rfl j (.int .u8 (b.toNat : Int)) (by simp [Lib.byteCells, hb])
  exact this
set_option maxRecDepth 100000 in
set_option maxHeartbeats 4000000 in
theorem text_bad {w : World} {A : Option Addr} {n c : Nat} {l : List Sg} (hl : LtIn w) (hv : SGV w A l) (hn : l.length = n) (hg : goodL l = false) :
    Calls Tryd.prog 23 #[.slice A n c] w fun e w' => e = .returned (.tuple #[.string ⟨#[]⟩, .int .i64 11]) ∧ Below w.heap.size w w' := by
  have C := Lib.hid (good_any (c := c) hl hv hn)
  rw [hg] at C
  clear hl hv hn hg
  go_enter Tryd.func23, Tryd.ntmps23
  go_wp2_with (go_at_call 24; refine C.out.mono ?_; rintro e w1 ⟨rfl, hb1⟩)
  go_ret2
  exact ⟨rfl, hb1⟩
set_option maxRecDepth 100000 in
set_option maxHeartbeats 4000000 in
theorem text_go {w : World} {A : Option Addr} {n c : Nat} {l : List Sg} (hl : LtIn w) (ht : Lib.TabBelow Tryd.prog w.heap.size w "internal/strconv.uint64pow10" .u64 Lib.pow10Tab) (hv : SGV w A l) (hn : l.length = n) (hg : goodL l = true) :
    Calls Tryd.prog 23 #[.slice A n c] w fun e w' => e = .returned (.tuple #[.string ⟨(textP l).toArray⟩, .int .i64 0]) ∧ Below w.heap.size w w' := by
  have C := Lib.hid (good_any (c := c) hl hv hn)
  rw [hg] at C
  have HN := Lib.hid hn
  have HG := Lib.hid hg
  have HL := Lib.hid hl
  have HV := Lib.hid hv
  have HT := Lib.hid ht
  obtain ⟨hgm, hln⟩ := goodL_mem hg
  have HGM := Lib.hid hgm
  have htl := textP_len hgm
  have hne : l ≠ [] := by rintro rfl; cases hg
  have hpos : 0 < n := by rw [← hn]; exact List.length_pos_iff.2 hne
  rw [hn] at hln
  obtain ⟨i0, hi, hz0, hz1, hz2⟩ := info_parts info_u8
  clear hl hv hn hg hgm ht htl hne
  go_enter Tryd.func23, Tryd.ntmps23
  go_upto_region 5 with (go_at_call 24; refine C.out.mono ?_; rintro e w1 ⟨rfl, hb1⟩)
  have HB1 := Lib.hid hb1
  have hzz := hb1.size
  clear hb1
  go_loopw [4, 12] (fun t i wr => ∃ k : Nat, k ≤ n ∧ i = .int .i64 (k : Int) ∧ wr.ownsRow w.heap.size 5 1 t (textP (l.take k)).length (Lib.byteCells (textP (l.take k))) ∧ Below w.heap.size w wr) (fun _ i _ => n - (intOf i).toNat)
  case atStart => exact ⟨0, Nat.zero_le _, rfl, World.ownsRow_nil _ _ _ _, HB1.out⟩
  case round =>
    obtain ⟨k, hk, rfl, hr, hbw⟩ := hrel
    obtain ⟨At, ct, rfl⟩ := row_sl hr
    have htl : (textP (l.take k)).length ≤ 128 * 4096 := by
      have := textP_len (l := l.take k) fun s hs => HGM.out s (List.mem_of_mem_take hs)
      have h2 : (l.take k).length ≤ 4096 := by simp only [List.length_take]; omega
      omega
    have HR := Lib.hid hr
    have HBW := Lib.hid hbw
    have hzr := hbw.size
    clear hr hbw
    obtain ⟨N, hN⟩ : ∃ N, (textP (l.take k)).length = N := ⟨_, rfl⟩
    rw [hN] at HR htl
    simp only [hN]
    have HNN := Lib.hid hN
    clear hN
    by_cases hlt : k < n
    · obtain ⟨s, hs⟩ : ∃ s, l[k]? = some s := ⟨_, List.getElem?_eq_getElem (by rw [HN.out]; exact hlt)⟩
      obtain ⟨g, o, rfl, hg, d0, d1, d2, d3, d4, d5, d6, d7⟩ := (HV.out.below HBW.out).at_ hs
      have hgs := HGM.out s (List.mem_of_getElem? hs)
      obtain ⟨x, hx⟩ := goodS_letter hgs
      have HS := Lib.hid hs
      have HGS := Lib.hid hgs
      have HX := Lib.hid hx
      clear hs hgs hx
      by_cases hk0 : 0 < k
      · have hk0' : (0 : Int) < (k : Int) := by omega
        go_wp2_with (first
          | (at_builtin; refine wpList_append_lies _ rfl (.tmp 19) (.tmp 20) 56 rfl w.heap.size 5 i0 _ 1 1 Tryd.underlying56 hi hz0 hz1 hz2 rfl (by decide) (.slice At N ct) N (Lib.byteCells (textP (l.take k))) (by simp [Act.eval]) ((HR.out.alloc _).alloc _) ⟨wr.heap.size + 1, 0, none⟩ 1 1 [.int .u8 32] (by simp [Act.eval]) rfl (World.news_of_block (by rw [← World.size_alloc wr]; exact heap_alloc_new _ _)) (by simp [Value.oneCell']) (by decide) (by unfold maxLen; omega) (by omega) (by simp; omega) _ rfl ?_; intro g3 cap3 w3 hown3 hgr3 _ _
             have hkt0 := kt_grow ((HR.out.alloc _).alloc _) hgr3
             have hsb3 : SB w3 wr.heap.size s := hkt0 _ _ _ _ ((heap_alloc_old _ _ (by simp)).trans (SB.new wr s)) (by decide)
             have hbb3 := Lib.hid (show Below w.heap.size w w3 from ((HBW.out.alloc (by omega) _).alloc (by simp; omega) _).trans (own_below ((HR.out.alloc _).alloc _) hgr3 (by simp; omega)))
             replace hown3 := Lib.hid hown3
             have hz3 := hbb3.out.size
             have s0 := SB.c0 hsb3
             have s1 := SB.c1 hsb3
             have s2 := SB.c2 hsb3
             have s3 := SB.c3 hsb3
             have s4 := SB.c4 hsb3
             have s5 := SB.c5 hsb3
             have s6 := SB.c6 hsb3
             have s7 := SB.c7 hsb3
             replace hsb3 := Lib.hid hsb3
             clear hgr3 hkt0)
          | (go_at_call 32; refine (apart_any HX.out HGS.out (HL.out.below hbb3.out HL.out.lt) (HT.out.on hbb3.out) (Nat.zero_lt_of_lt HL.out.lt) (by omega) hown3.out (by omega)).mono ?_; rintro e w4 ⟨v4, rfl, hown4, hb4⟩))
        refine ⟨⟨k + 1, hlt, by go_num, ?_, hbb3.out.trans hb4⟩, by simp [intOf]; omega⟩
        rw [textP_s HS.out hk0]
        have ep : partT s = partX x s := by unfold partT; rw [HX.out]
        have e1 : (textP (l.take k) ++ 32 :: partT s).length = N + 1 + (partX x s).length := by rw [← HNN.out, ep]; simp; omega
        have e2 : Lib.byteCells (textP (l.take k) ++ 32 :: partT s) = Lib.byteCells (textP (l.take k)) ++ [.int .u8 32] ++ Lib.byteCells (partX x s) := by rw [ep]; simp [Lib.byteCells]
        rw [e1, e2]
        exact hown4
      · have hkz : k = 0 := by omega
        subst hkz
        have hN0 : N = 0 := by rw [← HNN.out]; rfl
        subst hN0
        rw [Nat.zero_mul, Nat.add_zero] at d0 d1 d2 d3 d4 d5 d6 d7
        go_wp2_with (go_at_call 32; refine (apart_any (n := 0) HX.out HGS.out (HL.out.below (HBW.out.alloc hzr _) HL.out.lt) (HT.out.on (HBW.out.alloc hzr _)) (Nat.zero_lt_of_lt HL.out.lt) (by simp; omega) (HR.out.alloc _) (by decide)).mono ?_; rintro e w4 ⟨v4, rfl, hown4, hb4⟩)
        refine ⟨⟨1, hlt, by go_num, ?_, (HBW.out.alloc hzr _).trans hb4⟩, by simp [intOf]; omega⟩
        rw [textP_0 HS.out]
        have ep : partT s = partX x s := by unfold partT; rw [HX.out]
        rw [ep]
        have h9 := hown4
        rw [Nat.zero_add] at h9
        exact h9
    · have : k = n := by omega
      subst this
      have hall : l.take k = l := List.take_of_length_le (by rw [HN.out]; exact Nat.le_refl _)
      rw [hall] at HR HNN
      have hNp : 0 < N := by rw [← HNN.out]; exact textP_pos HGM.out (by rw [HN.out]; exact hpos)
      obtain ⟨g9, c9, hv9, _, _⟩ := HR.out.form hNp
      cases hv9
      have hcv : (convert 56 9 (.slice (some ⟨g9, 0, none⟩) N ct)).run Tryd.prog wr = .ok (.string ⟨(textP l).toArray⟩) wr := by
        have h := run_convert_bytes_back (P := Tryd.prog) wr 56 9 5 ⟨g9, 0, none⟩ ct (textP l) Tryd.underlying56 Tryd.underlying5 Tryd.underlying9 fun j hj => row_bytes HR.out HNN.out j _ (List.getElem?_eq_getElem hj)
        rwa [HNN.out] at h
      go_wp2
      go_ret2
      exact ⟨rfl, HBW.out⟩
end Go.Proofs.YtnapannphldglaaDoor
