/- The pen draws a part: all ways. -/
import Derived.Test.YtnapannphldglaaDoorPathN
namespace Go.Proofs.YtnapannphldglaaDoor
open Go Go.RowKit

set_option maxRecDepth 100000 in
set_option maxHeartbeats 4000000 in
theorem draw_far {w : World} {g B : Nat} {P : Pn} {A : Option Addr} {c : Nat} {x : Pa} {An : Option Addr} {cn : Nat} (h : PSF w g B P A c) (ok : PnOk P) (hx : PaOk x) (hv : NV w An x.ns) (hne : x.L.f = 2 → P.l ≠ []) (hl : ¬ P.l.length = 4096)
    {f0 f1 : Int} (hF : firstP P x.L = (f0, f1)) (hf : (isC f0 && isC f1) = false) :
    Calls Tryd.prog 38 #[.pointer (some ⟨g, 0, none⟩), .agg #[.int .u8 x.L.n, .int .i64 x.L.k, .int .i64 x.L.p, .string x.L.h, .int .i64 x.L.f, .int .u8 x.L.a, .bool x.s, .int .i64 x.p, .slice An x.ns.length cn]] w (GivesD w g B (drawP P x)) := by
  have hD : drawP P x = .error (x.p, 21) := by
    unfold drawP
    rw [if_neg hl, hF, hf]
    rfl
  generalize drawP P x = R at *
  have HD := Lib.hid hD
  clear hD
  have hl' : ¬ (P.l.length : Int) = 4096 := by omega
  have hlt := h.lt
  have p0 := h.c0
  have HF := Lib.hid hF
  have HL := Lib.hid hl
  clear hF hl
  go_enter Tryd.func38, Tryd.ntmps38
  go_upto_region 4 with (fail)
  have hpb := (PB.new w x An cn)
  have hb0 : Below w.heap.size w (w.alloc (.cells #[.int .u8 x.L.n, .int .i64 x.L.k, .int .i64 x.L.p, .string x.L.h, .int .i64 x.L.f, .int .u8 x.L.a, .bool x.s, .int .i64 x.p, .slice An x.ns.length cn] 104)) := (Below.refl _ w).alloc (Nat.le_refl _) _
  have hz0 : (w.alloc (.cells #[.int .u8 x.L.n, .int .i64 x.L.k, .int .i64 x.L.p, .string x.L.h, .int .i64 x.L.f, .int .u8 x.L.a, .bool x.s, .int .i64 x.p, .slice An x.ns.length cn] 104)).heap.size = w.heap.size + 1 := by simp
  have hb1 : Below w.heap.size w ((w.alloc (.cells #[.int .u8 x.L.n, .int .i64 x.L.k, .int .i64 x.L.p, .string x.L.h, .int .i64 x.L.f, .int .u8 x.L.a, .bool x.s, .int .i64 x.p, .slice An x.ns.length cn] 104)).alloc (.cells #[.int .i64 x.L.k, .int .i64 0, .int .i64 0, .int .i64 0, .int .i64 0, .int .i64 0, .int .i64 0, .int .i64 0] 27)) := hb0.alloc (by omega) _
  have hsb : SB ((w.alloc (.cells #[.int .u8 x.L.n, .int .i64 x.L.k, .int .i64 x.L.p, .string x.L.h, .int .i64 x.L.f, .int .u8 x.L.a, .bool x.s, .int .i64 x.p, .slice An x.ns.length cn] 104)).alloc (.cells #[.int .i64 x.L.k, .int .i64 0, .int .i64 0, .int .i64 0, .int .i64 0, .int .i64 0, .int .i64 0, .int .i64 0] 27)) (w.heap.size + 1) ⟨x.L.k, 0, 0, 0, 0, 0, 0, 0⟩ := by rw [← hz0]; exact heap_alloc_new _ _
  have hz1 : ((w.alloc (.cells #[.int .u8 x.L.n, .int .i64 x.L.k, .int .i64 x.L.p, .string x.L.h, .int .i64 x.L.f, .int .u8 x.L.a, .bool x.s, .int .i64 x.p, .slice An x.ns.length cn] 104)).alloc (.cells #[.int .i64 x.L.k, .int .i64 0, .int .i64 0, .int .i64 0, .int .i64 0, .int .i64 0, .int .i64 0, .int .i64 0] 27)).heap.size = w.heap.size + 2 := by rw [World.size_alloc, hz0]
  have hpb1 : PB ((w.alloc (.cells #[.int .u8 x.L.n, .int .i64 x.L.k, .int .i64 x.L.p, .string x.L.h, .int .i64 x.L.f, .int .u8 x.L.a, .bool x.s, .int .i64 x.p, .slice An x.ns.length cn] 104)).alloc (.cells #[.int .i64 x.L.k, .int .i64 0, .int .i64 0, .int .i64 0, .int .i64 0, .int .i64 0, .int .i64 0, .int .i64 0] 27)) w.heap.size x An cn := (heap_alloc_old _ _ (by omega)).trans hpb
  generalize (w.alloc (.cells #[.int .u8 x.L.n, .int .i64 x.L.k, .int .i64 x.L.p, .string x.L.h, .int .i64 x.L.f, .int .u8 x.L.a, .bool x.s, .int .i64 x.p, .slice An x.ns.length cn] 104)).alloc (.cells #[.int .i64 x.L.k, .int .i64 0, .int .i64 0, .int .i64 0, .int .i64 0, .int .i64 0, .int .i64 0, .int .i64 0] 27) = W1 at *
  clear hb0 hz0 hpb p0
  have H0 := Lib.hid h
  have H1 := Lib.hid (h.below hb1)
  have HV1 := Lib.hid (hv.kept fun b _ hb _ => hb1.block b hb)
  have HB1 := Lib.hid hb1
  have HSB := Lib.hid hsb
  have HPB := Lib.hid hpb1
  have q0 := hpb1.c0
  have q1 := hpb1.c1
  have q2 := hpb1.c2
  have q3 := hpb1.c3
  have q4 := hpb1.c4
  have q5 := hpb1.c5
  clear h hv hb1 hsb hpb1
  cases hf0 : isC f0
  case' true =>
    have hf1 : isC f1 = false := by rw [hf0] at hf; simpa using hf
  all_goals
   go_wp2_with (first
    | (go_at_call 59; refine (first_any H1.out hx.L hne ok).mono ?_; rw [HF.out]; rintro e w3 ⟨rfl, hb3⟩
       have hz3 := Lib.hid hb3.size
       have hs3 := Lib.hid (HSB.out.below hb3 HSB.out.lt)
       have s1 := hs3.out.c1
       have r7 := (HPB.out.below hb3 HPB.out.lt).c7
       have s2 := hs3.out.c2
       have sf1 := hs3.out.fz 1
       have sf2 := hs3.out.fz 2)
    | (go_at_call 50; refine (isC_any _ _).mono ?_; rintro e w4 ⟨rfl, rfl⟩))
   refine bodyPost_ret (v := .tuple #[.int .i64 x.p, .int .i64 21]) (by simp [results, Tryd.results38, go_sem]) rfl ⟨?_, ?_⟩
   · rw [HD.out]
   · exact Below.mono (B := w.heap.size) (Below.setCell (p := ⟨w.heap.size + 1, 2, none⟩) (Below.setCell (p := ⟨w.heap.size + 1, 1, none⟩) (HB1.out.trans (hb3.mono (by omega))) (Nat.le_succ _) _) (Nat.le_succ _) _) (by have := H0.out.hB; omega)
theorem draw_any {w : World} {g B : Nat} {P : Pn} {A : Option Addr} {c : Nat} {x : Pa} {An : Option Addr} {cn : Nat} (h : PSF w g B P A c) (ok : PnOk P) (hx : PaOk x) (hv : NV w An x.ns) (hne : x.L.f = 2 → P.l ≠ []) :
    Calls Tryd.prog 38 #[.pointer (some ⟨g, 0, none⟩), .agg #[.int .u8 x.L.n, .int .i64 x.L.k, .int .i64 x.L.p, .string x.L.h, .int .i64 x.L.f, .int .u8 x.L.a, .bool x.s, .int .i64 x.p, .slice An x.ns.length cn]] w (GivesD w g B (drawP P x)) := by
  by_cases hl : P.l.length = 4096
  · refine (draw_lim h hl).mono fun e w' ⟨he, hb⟩ => ⟨?_, hb.mono (by have := h.hB; have := h.lt; omega)⟩
    unfold drawP
    rw [if_pos hl]
    exact he
  · obtain ⟨f0, f1, hF⟩ : ∃ f0 f1, firstP P x.L = (f0, f1) := ⟨_, _, rfl⟩
    cases hf : isC f0 && isC f1 with
    | false => exact draw_far h ok hx hv hne hl hF hf
    | true =>
      rw [Bool.and_eq_true] at hf
      exact draw_go h ok hx hv hne hl hF hf.1 hf.2
end Go.Proofs.YtnapannphldglaaDoor
