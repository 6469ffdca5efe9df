/- path.Parse by value. -/
import Derived.Test.YtnapannphldglaaDoorPathQ
namespace Go.Proofs.YtnapannphldglaaDoor
open Go Go.RowKit

theorem pqCells_get : ∀ (l : List Pq) (i : Nat) (q : Pq), l[i]? = some q → ∀ f, f < 9 → (pqCells l)[i * 9 + f]? = q.cells[f]?
  | [], i, s, h, _, _ => by simp at h
  | x :: l, 0, s, h, f, hf => by
    have : x = s := by simpa using h
    subst this
    show (x.cells ++ pqCells l)[0 * 9 + f]? = _
    rw [List.getElem?_append_left (by simp [Pq.cells, paCells]; omega)]
    simp
  | x :: l, i + 1, s, h, f, hf => by
    have := pqCells_get l i s (by simpa using h) f hf
    show (x.cells ++ pqCells l)[(i + 1) * 9 + f]? = _
    rw [List.getElem?_append_right (by simp [Pq.cells, paCells]; omega), ← this]
    congr 1
    simp [Pq.cells, paCells]
    omega
theorem PL.at_ {w : World} {B : Nat} {A : Option Addr} {n c : Nat} {ps : List Pq} {i : Nat} {q : Pq} (h : PL w B (.slice A n c) ps) (hi : ps[i]? = some q) : ∃ b, A = some ⟨b, 0, none⟩ ∧ b < w.heap.size ∧ ∀ f u, q.cells[f]? = some u → w.cell? ⟨b, i * 9 + f, none⟩ = some u := by
  have hlt : i < ps.length := (List.getElem?_eq_some_iff.1 hi).1
  rcases h.own.2 with ⟨hv, h0⟩ | ⟨b, cap, cur, hv, _⟩
  · omega
  · have hA : A = some ⟨b, 0, none⟩ := by injection hv
    have hn : n = ps.length := by injection hv
    have hc : c = cap := by injection hv
    subst hA hn hc
    refine ⟨b, rfl, (h.own.lt b rfl).2, fun f u hu => ?_⟩
    have hf : f < 9 := by
      have := (List.getElem?_eq_some_iff.1 hu).1
      simpa [Pq.cells, paCells] using this
    exact (h.own.cellAt (i * 9 + f) (by omega)).trans ((pqCells_get _ _ _ hi f hf).trans hu)
theorem PL.len {w : World} {B : Nat} {A : Option Addr} {n c : Nat} {ps : List Pq} (h : PL w B (.slice A n c) ps) : n = ps.length := by
  rcases h.own.2 with ⟨hv, h0⟩ | ⟨b, cap, cur, hv, _⟩
  · rw [h0]; injection hv
  · injection hv
/-- What Parse leaves. -/
def GivesPs (w : World) (R : Except (Int × Int) (List Sg)) (e : Ending) (w' : World) : Prop := (match R with
  | .error q => e = .returned (.tuple #[.slice none 0 0, .int .i64 q.1, .int .i64 q.2])
  | .ok l => l.length ≤ 4096 ∧ ∃ A c, e = .returned (.tuple #[.slice A l.length c, .int .i64 0, .int .i64 0]) ∧ w'.ownsRow w.heap.size 27 8 (.slice A l.length c) l.length (sgCells l)) ∧ Below w.heap.size w w'
theorem psf_new (w : World) : PSF (w.alloc (.cells #[.slice none 0 0, .int .i64 0, .int .i64 0, .int .i64 0, .int .i64 0] 99)) w.heap.size w.heap.size pen0 none 0 :=
  ⟨heap_alloc_new w _, Nat.le_refl _, World.ownsRow_nil _ _ _ _, by decide⟩
theorem row_base {w : World} {B B' n k : Nat} {T : TypeId} {v : Value} {xs : List Value} (h : w.ownsRow B T k v n xs) (hb : B' ≤ B) : w.ownsRow B' T k v n xs := by
  refine ⟨h.1, ?_⟩
  rcases h.2 with hn | ⟨g, cap, cur, rfl, h1, h2⟩
  · exact .inl hn
  · exact .inr ⟨g, cap, cur, rfl, Nat.le_trans hb h1, h2⟩
set_option maxRecDepth 100000 in
set_option maxHeartbeats 4000000 in
theorem parse_bad {w : World} {A : Option Addr} {n c : Nat} {ts : List Tk} {a q : Int} (hv : TV w A ts) (hn : ts.length = n) (hm : n ≤ maxLen) (hl : LtIn w) (hsz : ∀ t ∈ ts, t.p + t.s.length ≤ 4000000000000) (hr : readP ts a = .error q) :
    Calls Tryd.prog 26 #[.slice A n c, .int .i64 a] w (GivesPs w (parseP ts a)) := by
  have hP : parseP ts a = .error (q, 20) := by unfold parseP; rw [hr]
  rw [hP]
  have C := Lib.hid (read_any (c := c) hv hn hm hl hsz a)
  rw [hr] at C
  clear hv hn hm hl hsz hr hP
  go_enter Tryd.func26, Tryd.ntmps26
  go_wp2_with (go_at_call 37; refine C.out.mono ?_; rintro e w1 ⟨rfl, hb1⟩)
  go_ret3
  exact ⟨rfl, hb1⟩
set_option maxRecDepth 100000 in
set_option maxHeartbeats 4000000 in
theorem parse_go {w : World} {A : Option Addr} {n c : Nat} {ts : List Tk} {a : Int} {l : List Pa} (hv : TV w A ts) (hn : ts.length = n) (hm : n ≤ maxLen) (hl : LtIn w) (hsz : ∀ t ∈ ts, t.p + t.s.length ≤ 4000000000000) (hk : ∀ t ∈ ts, nmOk ⟨t.n, t.p⟩) (hr : readP ts a = .ok l) :
    Calls Tryd.prog 26 #[.slice A n c, .int .i64 a] w (GivesPs w (parseP ts a)) := by
  have hP : parseP ts a = match drawsP pen0 l with
    | .error q => .error q
    | .ok P => .ok P.l := by unfold parseP; rw [hr]; rfl
  generalize parseP ts a = R at *
  have HR := Lib.hid hP
  obtain ⟨hpa, hhd⟩ := readP_ok hk hr
  have C := Lib.hid (read_any (c := c) hv hn hm hl hsz a)
  rw [hr] at C
  have HPA := Lib.hid hpa
  have HHD := Lib.hid hhd
  clear hv hn hm hl hsz hr hP hpa hhd hk
  go_enter Tryd.func26, Tryd.ntmps26
  go_upto_region 5 with (go_at_call 37; refine C.out.mono ?_; rintro e w1 ⟨⟨lv, ps, rfl, hps, hpl⟩, hb1⟩; obtain ⟨A1, c1, rfl⟩ := row_sl hpl.own)
  have hps0 := psf_new w1
  have hb0 : Below w1.heap.size w1 (w1.alloc (.cells #[.slice none 0 0, .int .i64 0, .int .i64 0, .int .i64 0, .int .i64 0] 99)) := (Below.refl _ w1).alloc (Nat.le_refl _) _
  have hz0 : w1.heap.size < (w1.alloc (.cells #[.slice none 0 0, .int .i64 0, .int .i64 0, .int .i64 0, .int .i64 0] 99)).heap.size := by simp
  generalize w1.alloc (.cells #[.slice none 0 0, .int .i64 0, .int .i64 0, .int .i64 0, .int .i64 0] 99) = W at *
  have HPL := Lib.hid hpl
  have HPS := Lib.hid hps
  have HB1 := Lib.hid hb1
  have hmx := hpl.most
  have hzz := hb1.size
  have hln : l.length = ps.length := by rw [hps]; simp
  have HLN := Lib.hid hln
  clear hpl hps hb1 hln C
  obtain ⟨m, hm⟩ : ∃ m, ps.length = m := ⟨_, rfl⟩
  rw [hm] at hmx
  simp only [hm] at HPL HLN ⊢
  have HM := Lib.hid hm
  clear hm
  go_wp2
  go_loopw [27] (fun i wr => ∃ k : Nat, k ≤ m ∧ i = .int .i64 (k : Int) ∧ ∃ P A2 c2, drawsP pen0 (l.take k) = .ok P ∧ PnOk P ∧ P.l.length = k ∧ PSF wr w1.heap.size w1.heap.size P A2 c2 ∧ Below w1.heap.size w1 wr) (fun i _ => m - (intOf i).toNat)
  case atStart => exact ⟨0, Nat.zero_le _, rfl, pen0, none, 0, rfl, pen0_ok, rfl, hps0, hb0⟩
  case round =>
    obtain ⟨k, hk, rfl, P, A2, c2, hd, hpk, hlk, hpsf, hbw⟩ := hrel
    clear hps0 hb0
    have HPSF := Lib.hid hpsf
    have HD := Lib.hid hd
    have HBW := Lib.hid hbw
    have HPK := Lib.hid hpk
    have HLK := Lib.hid hlk
    clear hpsf hd hbw hpk hlk
    by_cases hlt : k < m
    · obtain ⟨q, hq⟩ : ∃ q, ps[k]? = some q := ⟨_, List.getElem?_eq_getElem (by rw [HM.out]; exact hlt)⟩
      have hlq : l[k]? = some q.x := by rw [HPS.out, List.getElem?_map, hq]; rfl
      obtain ⟨b, rfl, hbs, hc⟩ := HPL.out.at_ hq
      have hc' : ∀ f u, q.cells[f]? = some u → wr.cell? ⟨b, k * 9 + f, none⟩ = some u := fun f u hu => (HBW.out.cell (p := ⟨b, _, none⟩) hbs).trans (hc f u hu)
      have d0 := hc' 0 _ rfl
      have d1 := hc' 1 _ rfl
      have d2 := hc' 2 _ rfl
      have d3 := hc' 3 _ rfl
      have d4 := hc' 4 _ rfl
      have d5 := hc' 5 _ rfl
      have d6 := hc' 6 _ rfl
      have d7 := hc' 7 _ rfl
      have d8 := hc' 8 _ rfl
      rw [Nat.add_zero] at d0
      have hqx := HPA.out q.x (List.mem_of_getElem? hlq)
      have hne : q.x.L.f = 2 → P.l ≠ [] := by
        intro e hp
        have hk0 : k = 0 := by rw [← HLK.out, hp]; rfl
        subst hk0
        exact HHD.out q.x (by rw [List.head?_eq_getElem?]; exact hlq) e
      have hnv : NV wr q.A q.x.ns := (HPL.out.nums q (List.mem_of_getElem? hq)).1.kept fun b _ hb _ => HBW.out.block b hb
      have HQX := Lib.hid hqx
      have HNE := Lib.hid hne
      have HNV := Lib.hid hnv
      have HLQ := Lib.hid hlq
      have hzr := HBW.out.size
      clear hc hc' hqx hne hnv hlq hq
      cases hdr : drawP P q.x with
      | error z =>
        have HDR := Lib.hid hdr
        have hz2 := drawP_err hdr
        clear hdr
        go_wp2_with (go_at_call 38; refine (draw_any (HPSF.out.below ((Below.refl _ wr).alloc (Nat.le_refl _) _)) HPK.out HQX.out (HNV.out.kept fun b _ hb _ => heap_alloc_old _ _ hb) HNE.out).mono ?_; rw [HDR.out]; rintro e w3 ⟨rfl, hb3⟩)
        refine bodyPost_ret (v := .tuple #[.slice none 0 0, .int .i64 z.1, .int .i64 z.2]) (by simp [results, Tryd.results26, go_sem]) rfl ⟨?_, ?_⟩
        · rw [HR.out, drawsP_miss HD.out HLQ.out HDR.out]
        · exact HB1.out.trans (Below.mono (B := w1.heap.size) ((HBW.out.alloc hzr _).trans hb3) hzz)
      | ok P' =>
        have HDR := Lib.hid hdr
        clear hdr
        go_wp2_with (go_at_call 38; refine (draw_any (HPSF.out.below ((Below.refl _ wr).alloc (Nat.le_refl _) _)) HPK.out HQX.out (HNV.out.kept fun b _ hb _ => heap_alloc_old _ _ hb) HNE.out).mono ?_; rw [HDR.out]; rintro e w3 ⟨⟨rfl, A3, c3, hps3⟩, hb3⟩)
        obtain ⟨hk3, s3, hl3⟩ := drawP_ok HPK.out HDR.out
        exact ⟨⟨k + 1, hlt, by go_num, P', A3, c3, drawsP_hit HD.out HLQ.out HDR.out, hk3, by rw [hl3, List.length_append, HLK.out]; rfl, hps3, (HBW.out.alloc hzr _).trans hb3⟩, by simp [intOf]; omega⟩
    · have : k = m := by omega
      subst this
      have p0 := HPSF.out.c0
      have hd := HD.out
      rw [List.take_of_length_le (by rw [HLN.out]; exact Nat.le_refl _)] at hd
      have HD2 := Lib.hid hd
      clear hd
      go_wp2
      refine bodyPost_ret (v := .tuple #[.slice A2 P.l.length c2, .int .i64 0, .int .i64 0]) (by simp [results, Tryd.results26, go_sem]) rfl ⟨?_, ?_⟩
      · rw [HR.out, HD2.out]
        exact ⟨HPSF.out.most, A2, c2, rfl, row_base HPSF.out.own hzz⟩
      · exact HB1.out.trans (HBW.out.mono hzz)
end Go.Proofs.YtnapannphldglaaDoor
