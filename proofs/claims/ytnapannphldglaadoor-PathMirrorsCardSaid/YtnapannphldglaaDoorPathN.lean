/- The pen draws a part: its walk. -/
import Derived.Test.YtnapannphldglaaDoorPathL
namespace Go.Proofs.YtnapannphldglaaDoor
open Go Go.RowKit

theorem slot_j {i : Nat} (hi : i < 6) (w : World) : Calls Tryd.prog 48 #[.int .u8 (48 + (i : Int))] w fun e w' => e = .returned (.int .i64 (i : Int)) ∧ w = w' := slot_i (c := 48 + i) rfl hi w
theorem PSF.listed {W w1 : World} {o : Obj} {g B : Nat} {P : Pn} {A : Option Addr} {c b cap : Nat} {s : Sg} (h : PSF W g B P A c) (hm : P.l.length < 4096)
    (hg : (W.alloc o).drew.grownBy w1 (Value.slice A P.l.length c).ownBlock) (hat : (Value.slice A P.l.length c).ownBlock = some b ∨ b = (W.alloc o).drew.heap.size)
    (hown : w1.ownsRow B 27 8 (.slice (some ⟨b, 0, none⟩) (P.l.length + 1) cap) (P.l.length + 1) (sgCells P.l ++ s.v)) :
    PSF (w1.setCell ⟨g, 0, none⟩ (.slice (some ⟨b, 0, none⟩) (P.l.length + 1) cap)) g B { P with l := P.l ++ [s] } (some ⟨b, 0, none⟩) cap := by
  have hlt := h.lt
  have hrow : (Value.slice A P.l.length c).ownBlock ≠ some g := row_ne h.own h.box (by decide)
  have hbg : b ≠ g := by
    intro e
    rcases hat with q | q
    · exact hrow (by rw [q, e])
    · have : (W.alloc o).drew.heap.size = W.heap.size + 1 := by show (W.alloc o).heap.size = _; simp
      omega
  have hr : w1.heap[g]? = W.heap[g]? := grown_block hg hlt hrow
  have hnl : (P.l ++ [s]).length = P.l.length + 1 := by simp
  refine ⟨?_, h.hB, ?_, by show (P.l ++ [s]).length ≤ _; omega⟩
  · have := heap_setCell_same w1 g 0 _ _ (.slice (some ⟨b, 0, none⟩) (P.l.length + 1) cap) (hr.trans h.box)
    rw [this]
    show _ = some (Obj.cells #[.slice (some ⟨b, 0, none⟩) (P.l ++ [s]).length cap, .int .i64 P.a, .int .i64 P.b, .int .i64 P.c, .int .i64 P.d] _ _)
    rw [hnl]; rfl
  · show World.ownsRow _ B _ 8 (.slice (some ⟨b, 0, none⟩) (P.l ++ [s]).length cap) (P.l ++ [s]).length (sgCells (P.l ++ [s]))
    rw [hnl, sgCells_snoc]
    refine row_kept hown fun k hk _ _ => Below.heap_setCell _ _ _ _ ?_
    have : b = k := by simpa [Value.ownBlock] using hk
    subst this; exact hbg
theorem info_seg : (Tryd.prog.info? 27).map (fun i => (i.zero, i.size, i.bytes)) = some (some (.agg #[.int .i64 0, .int .i64 0, .int .i64 0, .int .i64 0, .int .i64 0, .int .i64 0, .int .i64 0, .int .i64 0]), 8, 64) := by kernel_rfl
theorem move_any {w : World} {g B : Nat} {P : Pn} {A : Option Addr} {c : Nat} {s : Sg} {L : Lt} (h : PSF w g B P A c) (hL : L ∈ ltT) (hk : s.k = L.k) :
    Calls Tryd.prog 61 #[.pointer (some ⟨g, 0, none⟩), .agg #[.int .i64 s.k, .int .i64 s.v0, .int .i64 s.v1, .int .i64 s.v2, .int .i64 s.v3, .int .i64 s.v4, .int .i64 s.v5, .int .i64 s.w], .int .i64 L.p] w fun e w' => e = .returned (.tuple #[]) ∧ PSF w' g B (moveP P s L.p) A c ∧ Below B w w' := by
  by_cases h6 : s.k = 6
  · exact move_6 L.p h h6
  · obtain ⟨j, hj, hj5⟩ := lt_point hL (by rw [← hk]; exact h6)
    by_cases h1 : s.k = 1
    · exact move_1 L.p j h hj hj5 h1
    · exact move_o L.p j h h6 hj hj5 h1
theorem numD_kind {sm : Bool} {P : Pn} {c : Nat} {n : Nm} {s s' : Sg} (h : numD sm P c n s = .ok s') : s'.k = s.k := by
  unfold numD at h
  split at h
  · split at h
    · cases h; rfl
    · cases h
  · split at h
    · cases h
      unfold Sg.set
      split <;> rfl
    · cases h
theorem numsD_kind {sm : Bool} {P : Pn} : ∀ {l : List (UInt8 × Nm)} {s s' : Sg}, numsD sm P s l = .ok s' → s'.k = s.k
  | [], s, s', h => by cases h; rfl
  | t :: l, s, s', h => by
    rw [numsD] at h
    cases hn : numD sm P t.1.toNat t.2 s with
    | error q => rw [hn] at h; cases h
    | ok s1 => rw [hn] at h; exact (numsD_kind h).trans (numD_kind hn)
theorem draw_facts {w wr w1 : World} {g B : Nat} {P : Pn} {A : Option Addr} {c : Nat} {x : Pa} {An : Option Addr} {cn b cap : Nat} {s : Sg} {o : Obj} (H0 : Hid (PSF w g B P A c)) (HP : Hid (PSF wr g B P A c)) (HSB : Hid (SB wr (w.heap.size + 1) s)) (HPB : Hid (PB wr w.heap.size x An cn)) (HBW : Hid (Below w.heap.size w wr)) (hBw : B ≤ w.heap.size) (hml : P.l.length < 4096)
    (hgr : (wr.alloc o).drew.grownBy w1 (Value.slice A P.l.length c).ownBlock) (hat : (Value.slice A P.l.length c).ownBlock = some b ∨ b = (wr.alloc o).drew.heap.size)
    (hown : w1.ownsRow B 27 8 (.slice (some ⟨b, 0, none⟩) (P.l.length + 1) cap) (P.l.length + 1) (sgCells P.l ++ s.v)) :
    w1.cell? ⟨w.heap.size + 1, 0, none⟩ = some (.int .i64 s.k) ∧ w1.cell? ⟨w.heap.size + 1, 1, none⟩ = some (.int .i64 s.v0) ∧ w1.cell? ⟨w.heap.size + 1, 2, none⟩ = some (.int .i64 s.v1) ∧ w1.cell? ⟨w.heap.size + 1, 3, none⟩ = some (.int .i64 s.v2) ∧ w1.cell? ⟨w.heap.size + 1, 4, none⟩ = some (.int .i64 s.v3) ∧ w1.cell? ⟨w.heap.size + 1, 5, none⟩ = some (.int .i64 s.v4) ∧ w1.cell? ⟨w.heap.size + 1, 6, none⟩ = some (.int .i64 s.v5) ∧ w1.cell? ⟨w.heap.size + 1, 7, none⟩ = some (.int .i64 s.w) ∧
    w1.cell? ⟨g, 0, none⟩ = some (.slice A P.l.length c) ∧ w1.frozen? ⟨g, 0, none⟩ = false ∧
    w1.cell? ⟨w.heap.size, 2, none⟩ = some (.int .i64 x.L.p) ∧ PSF (w1.setCell ⟨g, 0, none⟩ (.slice (some ⟨b, 0, none⟩) (P.l.length + 1) cap)) g B { P with l := P.l ++ [s] } (some ⟨b, 0, none⟩) cap ∧
    Below B w (w1.setCell ⟨g, 0, none⟩ (.slice (some ⟨b, 0, none⟩) (P.l.length + 1) cap)) := by
  have hrow : ∀ k, w.heap.size ≤ k → (Value.slice A P.l.length c).ownBlock ≠ some k := fun k hk e => by have := (H0.out.own.lt k e).2; omega
  have hs : SB w1 (w.heap.size + 1) s := (grown_block hgr HSB.out.lt (hrow _ (by omega))).trans HSB.out
  have hp : PB w1 w.heap.size x An cn := (grown_block hgr HPB.out.lt (hrow _ (by omega))).trans HPB.out
  have hr : w1.heap[g]? = wr.heap[g]? := grown_block hgr HP.out.lt (row_ne HP.out.own HP.out.box (by decide))
  refine ⟨hs.c0, hs.c1, hs.c2, hs.c3, hs.c4, hs.c5, hs.c6, hs.c7, (World.cell?_of_block hr).trans HP.out.c0, (World.frozen?_of_block hr).trans (HP.out.fz 0), hp.c2, PSF.listed HP.out hml hgr hat hown, ?_⟩
  refine Below.setCell ?_ HP.out.hB _
  have hz := HBW.out.size
  refine ((HBW.out.mono hBw).trans ((Below.refl _ wr).mono (Nat.le_refl _) |>.alloc (by omega) o)).trans ?_
  exact ⟨hgr.os, hgr.tape, hgr.output, hgr.size, fun i hi => hgr.block i (by show i < (wr.alloc o).heap.size; simp; omega) (fun e => by
      have := (HP.out.own.lt i e.symm).1; omega)⟩
/-- What draw leaves. -/
def GivesD (w : World) (g B : Nat) (R : Except (Int × Int) Pn) (e : Ending) (w' : World) : Prop := (match R with
  | .error q => e = .returned (.tuple #[.int .i64 q.1, .int .i64 q.2])
  | .ok P' => e = .returned (.tuple #[.int .i64 0, .int .i64 0]) ∧ ∃ A' c', PSF w' g B P' A' c') ∧ Below B w w'
set_option maxRecDepth 100000 in
set_option maxHeartbeats 4000000 in
theorem draw_go {w : World} {g B : Nat} {P : Pn} {A : Option Addr} {c : Nat} {x : Pa} {An : Option Addr} {cn : Nat} (h : PSF w g B P A c) (ok : PnOk P) (hx : PaOk x) (hv : NV w An x.ns) (hne : x.L.f = 2 → P.l ≠ []) (hl : ¬ P.l.length = 4096)
    {f0 f1 : Int} (hF : firstP P x.L = (f0, f1)) (hf0 : isC f0 = true) (hf1 : isC f1 = true) :
    Calls Tryd.prog 38 #[.pointer (some ⟨g, 0, none⟩), .agg #[.int .u8 x.L.n, .int .i64 x.L.k, .int .i64 x.L.p, .string x.L.h, .int .i64 x.L.f, .int .u8 x.L.a, .bool x.s, .int .i64 x.p, .slice An x.ns.length cn]] w (GivesD w g B (drawP P x)) := by
  have hD : drawP P x = match numsD x.s P ⟨x.L.k, f0, f1, 0, 0, 0, 0, 0⟩ (pairsP x) with
    | .error q => .error (q, 21)
    | .ok s => .ok (moveP { P with l := P.l ++ [s] } s x.L.p) := by
    unfold drawP seg0
    rw [if_neg hl, hF, hf0, hf1]
    rfl
  generalize drawP P x = R at *
  have HD := Lib.hid hD
  have hl' : ¬ (P.l.length : Int) = 4096 := by omega
  have hlt := h.lt
  have p0 := h.c0
  have HF := Lib.hid hF
  have HL := Lib.hid hl
  clear hD hF hl
  go_enter Tryd.func38, Tryd.ntmps38
  go_upto_region 4 with (fail)
  have hpb := (PB.new w x An cn)
  have hb0 : Below w.heap.size w (w.alloc (.cells #[.int .u8 x.L.n, .int .i64 x.L.k, .int .i64 x.L.p, .string x.L.h, .int .i64 x.L.f, .int .u8 x.L.a, .bool x.s, .int .i64 x.p, .slice An x.ns.length cn] 104)) := (Below.refl _ w).alloc (Nat.le_refl _) _
  have hz0 : (w.alloc (.cells #[.int .u8 x.L.n, .int .i64 x.L.k, .int .i64 x.L.p, .string x.L.h, .int .i64 x.L.f, .int .u8 x.L.a, .bool x.s, .int .i64 x.p, .slice An x.ns.length cn] 104)).heap.size = w.heap.size + 1 := by simp
  have hb1 : Below w.heap.size w ((w.alloc (.cells #[.int .u8 x.L.n, .int .i64 x.L.k, .int .i64 x.L.p, .string x.L.h, .int .i64 x.L.f, .int .u8 x.L.a, .bool x.s, .int .i64 x.p, .slice An x.ns.length cn] 104)).alloc (.cells #[.int .i64 x.L.k, .int .i64 0, .int .i64 0, .int .i64 0, .int .i64 0, .int .i64 0, .int .i64 0, .int .i64 0] 27)) := hb0.alloc (by omega) _
  have hsb : SB ((w.alloc (.cells #[.int .u8 x.L.n, .int .i64 x.L.k, .int .i64 x.L.p, .string x.L.h, .int .i64 x.L.f, .int .u8 x.L.a, .bool x.s, .int .i64 x.p, .slice An x.ns.length cn] 104)).alloc (.cells #[.int .i64 x.L.k, .int .i64 0, .int .i64 0, .int .i64 0, .int .i64 0, .int .i64 0, .int .i64 0, .int .i64 0] 27)) (w.heap.size + 1) ⟨x.L.k, 0, 0, 0, 0, 0, 0, 0⟩ := by rw [← hz0]; exact heap_alloc_new _ _
  have hz1 : ((w.alloc (.cells #[.int .u8 x.L.n, .int .i64 x.L.k, .int .i64 x.L.p, .string x.L.h, .int .i64 x.L.f, .int .u8 x.L.a, .bool x.s, .int .i64 x.p, .slice An x.ns.length cn] 104)).alloc (.cells #[.int .i64 x.L.k, .int .i64 0, .int .i64 0, .int .i64 0, .int .i64 0, .int .i64 0, .int .i64 0, .int .i64 0] 27)).heap.size = w.heap.size + 2 := by rw [World.size_alloc, hz0]
  have hpb1 : PB ((w.alloc (.cells #[.int .u8 x.L.n, .int .i64 x.L.k, .int .i64 x.L.p, .string x.L.h, .int .i64 x.L.f, .int .u8 x.L.a, .bool x.s, .int .i64 x.p, .slice An x.ns.length cn] 104)).alloc (.cells #[.int .i64 x.L.k, .int .i64 0, .int .i64 0, .int .i64 0, .int .i64 0, .int .i64 0, .int .i64 0, .int .i64 0] 27)) w.heap.size x An cn := (heap_alloc_old _ _ (by omega)).trans hpb
  generalize (w.alloc (.cells #[.int .u8 x.L.n, .int .i64 x.L.k, .int .i64 x.L.p, .string x.L.h, .int .i64 x.L.f, .int .u8 x.L.a, .bool x.s, .int .i64 x.p, .slice An x.ns.length cn] 104)).alloc (.cells #[.int .i64 x.L.k, .int .i64 0, .int .i64 0, .int .i64 0, .int .i64 0, .int .i64 0, .int .i64 0, .int .i64 0] 27) = W1 at *
  clear hb0 hz0 hpb p0
  have H0 := Lib.hid h
  have HV0 := Lib.hid hv
  have H1 := Lib.hid (h.below hb1)
  have HV1 := Lib.hid (hv.kept fun b _ hb _ => hb1.block b hb)
  have HB1 := Lib.hid hb1
  have HSB := Lib.hid hsb
  have HPB := Lib.hid hpb1
  have q0 := hpb1.c0
  have q1 := hpb1.c1
  have q2 := hpb1.c2
  have q3 := hpb1.c3
  have q4 := hpb1.c4
  have q5 := hpb1.c5
  clear h hv hb1 hsb hpb1
  go_upto_region 7 with (first
    | (go_at_call 59; refine (first_any H1.out hx.L hne ok).mono ?_; rw [HF.out]; rintro e w3 ⟨rfl, hb3⟩
       have hz3 := Lib.hid hb3.size
       have hs3 := Lib.hid (HSB.out.below hb3 HSB.out.lt)
       have s1 := hs3.out.c1
       have s2 := hs3.out.c2
       have sf1 := hs3.out.fz 1
       have sf2 := hs3.out.fz 2)
    | (go_at_call 50; refine (isC_any _ _).mono ?_; rintro e w4 ⟨rfl, rfl⟩))
  have hgs : W1.heap.size = w.heap.size + 2 := hz1
  have hb5 : Below w.heap.size w ((w3.setCell ⟨w.heap.size + 1, 1, none⟩ (.int .i64 f0)).setCell ⟨w.heap.size + 1, 2, none⟩ (.int .i64 f1)) :=
    (((HB1.out.trans (hb3.mono (by omega))).setCell (p := ⟨w.heap.size + 1, 1, none⟩) (Nat.le_succ _) _).setCell (p := ⟨w.heap.size + 1, 2, none⟩) (Nat.le_succ _) _)
  have hs5 : SB ((w3.setCell ⟨w.heap.size + 1, 1, none⟩ (.int .i64 f0)).setCell ⟨w.heap.size + 1, 2, none⟩ (.int .i64 f1)) (w.heap.size + 1) ⟨x.L.k, f0, f1, 0, 0, 0, 0, 0⟩ := (hs3.out.put (i := 0) (by decide) f0).put (i := 1) (by decide) f1
  have hp5 : PB ((w3.setCell ⟨w.heap.size + 1, 1, none⟩ (.int .i64 f0)).setCell ⟨w.heap.size + 1, 2, none⟩ (.int .i64 f1)) w.heap.size x An cn := by
    have := HPB.out.below hb3 HPB.out.lt
    unfold PB
    rw [Below.heap_setCell _ _ _ _ (by simp), Below.heap_setCell _ _ _ _ (by simp)]
    exact this
  generalize (w3.setCell ⟨w.heap.size + 1, 1, none⟩ (.int .i64 f0)).setCell ⟨w.heap.size + 1, 2, none⟩ (.int .i64 f1) = W5 at *
  clear q0 q1 q2 q3 q4 q5 s1 s2 sf1 sf2 hs3 hb3 hz3 HSB HPB H1 HV1 HB1 hf0 hf1 HF
  have q8 := hp5.c8
  go_wp2
  generalize hnn : x.ns.length = nn at *
  have HNN := Lib.hid hnn
  clear hnn q8
  have hx6 := hx.n
  have hBw : B ≤ w.heap.size := by have := H0.out.hB; omega
  have hsm := lt_small _ hx.L
  rw [HNN.out] at hx6
  go_loopw [50] (fun i wr => ∃ k : Nat, k ≤ nn ∧ i = .int .i64 (k : Int) ∧ ∃ s, numsD x.s P ⟨x.L.k, f0, f1, 0, 0, 0, 0, 0⟩ ((pairsP x).take k) = .ok s ∧ SB wr (w.heap.size + 1) s ∧ PB wr w.heap.size x An cn ∧ Below w.heap.size w wr) (fun i _ => nn - (intOf i).toNat)
  case atStart => exact ⟨0, Nat.zero_le _, rfl, _, rfl, hs5, hp5, hb5⟩
  case round =>
    obtain ⟨k, hk, rfl, s, hnd, hsb, hpb, hbw⟩ := hrel
    clear hs5 hp5 hb5
    by_cases hlt2 : k < nn
    · obtain ⟨nm, hnm⟩ : ∃ nm, x.ns[k]? = some nm := ⟨_, List.getElem?_eq_getElem (by rw [HNN.out]; exact hlt2)⟩
      have hkh : k < x.L.h.size := by omega
      obtain ⟨b, rfl, hbb, n0, n1⟩ := (HV0.out.kept fun b _ hb _ => hbw.block b hb).at_ hnm
      have hpr := pairs_at hkh hnm
      have hmb := hx.m nm (List.mem_of_getElem? hnm)
      have q3 := hpb.c3
      have q6 := hpb.c6
      have s7 := hsb.c7
      have s7f := hsb.fz 7
      have hsl := hsb.lt
      have hpl := hpb.lt
      have HP := Lib.hid (H0.out.below hbw)
      have HND := Lib.hid hnd
      have HSB := Lib.hid hsb
      have HPB := Lib.hid hpb
      have HBW := Lib.hid hbw
      have HPR := Lib.hid hpr
      have HMB := Lib.hid hmb
      have hz1 := hbw.size
      clear hnd hsb hpb hbw hpr hmb hnm
      rcases lt_byte hx.L hkh with hc | ⟨i, hi, hc⟩
      · have HC := Lib.hid hc
        cases hw : isW nm.n with
        | false =>
          have HW := Lib.hid hw
          go_wp2_with (go_at_call 51; refine (isW_any _ _).mono ?_; rintro e w4 ⟨rfl, rfl⟩)
          refine bodyPost_ret (v := .tuple #[.int .i64 nm.p, .int .i64 21]) (by simp [results, Tryd.results38, go_sem]) rfl ⟨?_, ?_⟩
          · rw [HD.out, numsD_miss HND.out HPR.out (q := nm.p) (by unfold numD; rw [if_pos HC.out, HW.out]; rfl)]
          · exact Below.mono (B := w.heap.size) (((HBW.out.setCell (p := ⟨w.heap.size + 1, 7, none⟩) (Nat.le_succ _) _).alloc (by simp [World.setCell]; omega) _)) hBw
        | true =>
          have HW := Lib.hid hw
          go_wp2_with (go_at_call 51; refine (isW_any _ _).mono ?_; rintro e w4 ⟨rfl, rfl⟩)
          refine ⟨⟨k + 1, hlt2, by go_num, { s with w := nm.n }, numsD_hit HND.out HPR.out (by unfold numD; rw [if_pos HC.out, HW.out]; rfl), ?_, ?_, ?_⟩, by simp [intOf]; omega⟩
          · exact (heap_alloc_old _ _ (by simp [World.setCell]; exact hsl)).trans (HSB.out.putw nm.n)
          · unfold PB
            rw [heap_alloc_old _ _ (by simp [World.setCell]; exact hpl), Below.heap_setCell _ _ _ _ (by simp)]
            exact HPB.out
          · exact (HBW.out.setCell (p := ⟨w.heap.size + 1, 7, none⟩) (Nat.le_succ _) _).alloc (by simp [World.setCell]; omega) _
      · have HC := Lib.hid hc
        have sv := HSB.out.get hi
        have svf := HSB.out.fz (1 + i)
        have hci : ¬ x.L.h[k].toNat = 119 := by omega
        obtain ⟨V, hV⟩ : ∃ V, coordP P nm.n (((i : Nat) : Int) % 2) x.s = V := ⟨_, rfl⟩
        have hax : ((i : Nat) : Int) % 2 = 0 ∨ ((i : Nat) : Int) % 2 = 1 := by omega
        have HV := Lib.hid hV
        have HAX := Lib.hid hax
        clear hV hax
        have hnd2 : ∀ r, numD x.s P (x.L.h[k]'hkh).toNat nm s = r ↔ (if isC V then .ok (s.set i V) else .error nm.p) = r := by
          intro r
          unfold numD
          rw [if_neg (by omega), show (x.L.h[k]'hkh).toNat - 48 = i by omega, HV.out]
        have HN2 := Lib.hid hnd2
        clear hnd2
        cases hw : isC V with
        | false =>
          have HW := Lib.hid hw
          go_wp2_with (first
            | (go_at_call 48; refine (slot_j hi _).mono ?_; rintro e w4 ⟨rfl, rfl⟩)
            | (go_at_call 60; refine (coord_any nm.n _ x.s (HP.out.below ((Below.refl _ wr).alloc (Nat.le_refl _) (.cells #[.int .i64 nm.n, .int .i64 nm.p] 134))) HAX.out ok.a ok.b HMB.out).mono ?_; rw [HV.out]; rintro e w4 ⟨rfl, rfl⟩)
            | (go_at_call 50; refine (isC_any _ _).mono ?_; rintro e w4 ⟨rfl, rfl⟩))
          refine bodyPost_ret (v := .tuple #[.int .i64 nm.p, .int .i64 21]) (by simp [results, Tryd.results38, go_sem]) rfl ⟨?_, ?_⟩
          · rw [HD.out, numsD_miss HND.out HPR.out (q := nm.p) ((HN2.out _).2 (by rw [HW.out]; rfl))]
          · exact Below.mono (B := w.heap.size) (((HBW.out.setCell (p := ⟨w.heap.size + 1, 1 + i, none⟩) (Nat.le_succ _) _).alloc (by simp [World.setCell]; omega) _)) hBw
        | true =>
          have HW := Lib.hid hw
          go_wp2_with (first
            | (go_at_call 48; refine (slot_j hi _).mono ?_; rintro e w4 ⟨rfl, rfl⟩)
            | (go_at_call 60; refine (coord_any nm.n _ x.s (HP.out.below ((Below.refl _ wr).alloc (Nat.le_refl _) (.cells #[.int .i64 nm.n, .int .i64 nm.p] 134))) HAX.out ok.a ok.b HMB.out).mono ?_; rw [HV.out]; rintro e w4 ⟨rfl, rfl⟩)
            | (go_at_call 50; refine (isC_any _ _).mono ?_; rintro e w4 ⟨rfl, rfl⟩))
          refine ⟨⟨k + 1, hlt2, by go_num, s.set i V, numsD_hit HND.out HPR.out ((HN2.out _).2 (by rw [HW.out]; rfl)), ?_, ?_, ?_⟩, by simp [intOf]; omega⟩
          · exact (heap_alloc_old _ _ (by simp [World.setCell]; exact hsl)).trans (HSB.out.put hi V)
          · unfold PB
            rw [heap_alloc_old _ _ (by simp [World.setCell]; exact hpl), Below.heap_setCell _ _ _ _ (by simp)]
            exact HPB.out
          · exact (HBW.out.setCell (p := ⟨w.heap.size + 1, 1 + i, none⟩) (Nat.le_succ _) _).alloc (by simp [World.setCell]; omega) _
    · have : k = nn := by omega
      subst this
      rw [List.take_of_length_le (by rw [pairs_len hx.n, HNN.out]; exact Nat.le_refl _)] at hnd
      have HND := Lib.hid hnd
      have HP := Lib.hid (H0.out.below hbw)
      have HSB := Lib.hid hsb
      have HPB := Lib.hid hpb
      have HBW := Lib.hid hbw
      have q2 := hpb.c2
      have s0 := hsb.c0
      have s1 := hsb.c1
      have s2 := hsb.c2
      have s3 := hsb.c3
      have s4 := hsb.c4
      have s5 := hsb.c5
      have s6 := hsb.c6
      have s7 := hsb.c7
      have p0 := HP.out.c0
      have pf0 := HP.out.fz 0
      have hsl := hsb.lt
      have hpl := hpb.lt
      have hgl := HP.out.lt
      have hm := HP.out.most
      clear hnd hsb hpb hbw
      have hk6 : s.k = x.L.k := numsD_kind HND.out
      have HKK := Lib.hid hk6
      clear hk6
      obtain ⟨i0, hi, hz0, hz1, hz2⟩ := info_parts info_seg
      have hBW : B ≤ wr.heap.size := by omega
      have hml : P.l.length < 4096 := by omega
      have hgn1 : ¬ w.heap.size + 1 = g := by omega
      have hgn0 : ¬ w.heap.size = g := by omega
      go_wp2
      go_region_law (refine step_append_lies _ rfl (.tmp 100) (.tmp 102) 22 rfl B 27 i0 _ 8 64 Tryd.underlying22 hi hz0 hz1 hz2 rfl (by decide) (.slice A P.l.length c) P.l.length (sgCells P.l) (by simp [Act.eval]) (row_kept HP.out.own fun g _ hg _ => heap_alloc_old _ _ hg) ⟨wr.heap.size, 0, none⟩ 1 1 s.v (by simp [Act.eval]) rfl (World.news_of_block (heap_alloc_new _ _)) (by simp [Sg.v, Value.oneCell']) (by decide) (by unfold maxLen; omega) (by omega) (Nat.le_trans hBW (by simp)) _ rfl ?_; intro b cap w1 hown hgr hat hb1; obtain ⟨t0, t1, t2, t3, t4, t5, t6, t7, k0, kf, u2, l2, l3⟩ := draw_facts (H0 := H0) (HP := HP) (HSB := HSB) (HPB := HPB) (HBW := HBW) hBw hml hgr hat hown; replace l2 := Lib.hid l2; replace l3 := Lib.hid l3; clear hown hgr hat hb1)
      all_goals
        go_wp2_with (go_at_call 61; refine (move_any l2.out hx.L HKK.out).mono ?_; rintro e w5 ⟨rfl, hps, hb5⟩)
        refine bodyPost_ret (v := .tuple #[.int .i64 0, .int .i64 0]) (by simp [results, Tryd.results38, go_sem]) rfl ⟨?_, ?_⟩
        · rw [HD.out, HND.out]
          exact ⟨rfl, _, _, hps⟩
        · exact l3.out.trans hb5
end Go.Proofs.YtnapannphldglaaDoor
