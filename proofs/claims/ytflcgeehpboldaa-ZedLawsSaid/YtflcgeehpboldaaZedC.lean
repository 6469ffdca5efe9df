/- zed.Sign: a map of method values. -/
import Derived.Test.YtflcgeehpboldaaZedB
import Derived.MapKept
import Derived.Carry
namespace Go.Proofs.Ytflcgeehpboldaa
open Go.RowKit Go.MapKept

abbrev tSigns : TypeId := 75
abbrev tBool : TypeId := 4
theorem und_signs : Try.prog.underlying tSigns = some (.map tBool 41) := by kernel_rfl
theorem und_bool : Try.prog.underlying tBool = some .bool := by kernel_rfl

/-- Block r holds a map with these entries. -/
def setMap (w : World) (r : Nat) (es : Array MapEntry) (clock : Nat) : World := { w with heap := w.heap.setIfInBounds r (.map es clock) }
theorem setMap_at {w : World} {r : Nat} {es : Array MapEntry} {clock : Nat} (h : r < w.heap.size) : (setMap w r es clock).heap[r]? = some (.map es clock) := by
  simp [setMap, h]
theorem below_setMap {B : Nat} {a w : World} (h : Below B a w) {r : Nat} (hr : B ≤ r) (es : Array MapEntry) (clock : Nat) : Below B a (setMap w r es clock) :=
  ⟨h.os, h.tape, h.output, by simpa [setMap] using h.size, fun k hk => by
    show (w.heap.setIfInBounds r _)[k]? = _
    rw [Array.getElem?_setIfInBounds_ne (by omega)]; exact h.block k hk⟩

theorem run_upd {w : World} {r : Nat} {es : Array MapEntry} {clock : Nat} (b : Bool) (v : Value) (hb : w.heap[r]? = some (.map es clock)) (h1 : Instr.findNow .bool (.bool b) es.toList 0 = some none) :
    (Instr.mapUpdate tSigns (.map (some r)) (.bool b) v).run Try.prog w = .ok () (setMap w r (es.push { key := .bool b, val := v, born := clock }) (clock + 1)) := by
  have hk : IsKey .bool (.bool b) := trivial
  simp [Instr.mapUpdate, run_underlying und_signs, Go.MapKept.run_getObj_map hb, run_checkKey und_bool hk, run_findKey und_bool h1, run_setObj_map _ hb, Result.andThen, setMap]
theorem run_look {w : World} {r : Nat} {es : Array MapEntry} {clock : Nat} (b : Bool) (i : Nat) (v : Value) (hb : w.heap[r]? = some (.map es clock)) (h1 : Instr.findNow .bool (.bool b) es.toList 0 = some (some (i, v))) :
    (Instr.lookup tSigns (.map (some r)) (.bool b) false).run Try.prog w = .ok v w := by
  have hk : IsKey .bool (.bool b) := trivial
  simp [Instr.lookup, run_underlying und_signs, Go.MapKept.run_getObj_map hb, run_checkKey und_bool hk, run_findKey und_bool h1, Result.andThen]

/-- The two entries that Sign looks up. -/
def signEs (x : Value) : Array MapEntry := #[{ key := .bool false, val := .func (.func 73) #[x] #[], born := 0 }, { key := .bool true, val := .func (.func 74) #[x] #[], born := 1 }]

set_option maxRecDepth 100000 in
theorem signs_any (A : Option Addr) (n c : Nat) (w : World) :
    Calls Try.prog 53 #[.slice A n c] w fun e w' => e = .returned (.map (some w.heap.size)) ∧ w'.heap[w.heap.size]? = some (.map (signEs (.slice A n c)) 2) ∧ Below w.heap.size w w' := by
  have hmm := @run_makeMap Try.prog
  have h0 : (w.alloc (.map #[] 0)).heap[w.heap.size]? = some (.map #[] 0) := heap_alloc_new w _
  have hi0 := run_upd false (.func (.func 73) #[.slice A n c] #[]) h0 rfl
  have h1 : (setMap (w.alloc (.map #[] 0)) w.heap.size #[{ key := .bool false, val := .func (.func 73) #[.slice A n c] #[], born := 0 }] 1).heap[w.heap.size]? = _ := setMap_at (by simp)
  have hi1 := run_upd true (.func (.func 74) #[.slice A n c] #[]) h1 rfl
  go_enter Try.func53, Try.ntmps53
  go_wp2
  go_returns
  exact ⟨rfl, setMap_at (by simp [setMap]), below_setMap (below_setMap ((Below.refl _ _).alloc (Nat.le_refl _) _) (Nat.le_refl _) _ _) (Nat.le_refl _) _ _⟩

/-- The call of a method value. -/
def sgn (v : Int) : Int := if v < 0 then -1 else if v = 0 then 0 else 1
theorem cmpN_zero (V : Nat) : cmpN V 0 = sgn (iv false V) := by
  rcases Nat.eq_zero_or_pos V with h0 | h0
  · subst h0; rfl
  · have h1 : ¬ ((V : Int) < 0) := by omega
    have h2 : ¬ (V = 0) := by omega
    simp [cmpN, sgn, iv, h1, h2]
theorem sgn_neg (V : Nat) : wrap64 (-(sgn (iv false V))) = sgn (iv true V) := by
  rcases Nat.eq_zero_or_pos V with h0 | h0
  · subst h0; decide +kernel
  · have h1 : sgn (iv false V) = 1 := by
      have h1 : ¬ ((V : Int) < 0) := by omega
      have h2 : ¬ (V = 0) := by omega
      simp [sgn, iv, h1, h2]
    have h2 : sgn (iv true V) = -1 := by
      have h3 : 0 < V := h0
      simp [sgn, iv, h3]
    rw [h1, h2]; decide +kernel
theorem up_any (l : List Nat) (A : Option Addr) (n c : Nat) (w : World) (h : Rd .u64 w A n l) (hL : Lim B64 l) (hn : n ≤ maxLen) (hnc : n ≤ c) :
    Calls Try.prog 73 #[.slice A n c] w fun e w' => e = .returned (.int .i64 (sgn (iv false (val B64 l)))) ∧ ∃ q, w' = w.drewN q := by
  go_enter Try.func73, Try.ntmps73
  go_wp2_with (first
    | (go_at_call 52; (with_reducible refine (cmp_any l [] _ _ _ _ _ _ _ h Rd.nil hL Lim.nil hn (Nat.zero_le _) hnc (Nat.le_refl _)).mono ?_); rintro e w' ⟨rfl, q, rfl⟩))
  go_ret
  exact ⟨by rw [← cmpN_zero]; rfl, q, rfl⟩
theorem down_any (l : List Nat) (A : Option Addr) (n c : Nat) (w : World) (h : Rd .u64 w A n l) (hL : Lim B64 l) (hn : n ≤ maxLen) (hnc : n ≤ c) :
    Calls Try.prog 74 #[.slice A n c] w fun e w' => e = .returned (.int .i64 (sgn (iv true (val B64 l)))) ∧ ∃ q, w' = w.drewN q := by
  go_enter Try.func74, Try.ntmps74
  go_wp2_with (first
    | (go_at_call 73; (with_reducible refine (up_any l _ _ _ _ h hL hn hnc).mono ?_); rintro e w' ⟨rfl, q, rfl⟩))
  go_ret
  exact ⟨ret_int (sgn_neg _), q, rfl⟩

theorem run_look_s {w : World} {r : Nat} {x : Value} (s : Bool) (hm : w.heap[r]? = some (.map (signEs x) 2)) :
    (Instr.lookup tSigns (.map (some r)) (.bool s) false).run Try.prog w = .ok (.func (.func (if s then 74 else 73)) #[x] #[]) w := by
  cases s
  · exact run_look _ 0 _ hm rfl
  · exact run_look _ 1 _ hm rfl

set_option maxRecDepth 100000 in
set_option maxHeartbeats 1000000 in
theorem sign_any (s : Bool) (l : List Nat) (A : Option Addr) (n c : Nat) (w : World) (h : Rd .u64 w A n l) (hL : Lim B64 l) (hn : n ≤ maxLen) (hnc : n ≤ c) :
    Calls Try.prog 24 #[.agg #[.bool s, .slice A n c]] w fun e w' => e = .returned (.int .i64 (sgn (iv s (val B64 l)))) ∧ Below w.heap.size w w' := by
  cases s
  · go_enter Try.func24, Try.ntmps24
    go_wp2_with fail
    generalize hW : w.alloc (Obj.cells #[Value.bool false, Value.slice A n c] 24) = W
    have hb0 : Below w.heap.size w W := by subst hW; exact (Below.refl _ _).alloc (Nat.le_refl _) _
    have X : Bx W w.heap.size (.bool false) (.slice A n c) := by subst hW; exact Bx.new w _ _
    clear hW
    have c0 := X.c0
    have c1 := X.c1
    go_region_held3 (fun w' => w'.cell? ⟨w.heap.size, 0, none⟩ = some (.bool false) ∧ w'.cell? ⟨w.heap.size, 1, none⟩ = some (.slice A n c))
      (first | exact ⟨c0, c1⟩ | exact ⟨X1.c0, X1.c1⟩ | exact ⟨X2.c0, X2.c1⟩)
      (first
        | (go_at_call 53; (with_reducible refine (signs_any _ _ _ _).mono ?_); rintro e w1 ⟨rfl, hm, p4⟩
           have p5 : Below W.heap.size W w1 := (Below.refl _ W).drew.trans p4
           have X1 := X.below p5
           have hl := run_look_s false (r := W.heap.size) hm
           have hl2 := run_look_s (w := w1.drew) false (r := W.heap.size) hm)
        | (go_at_call 73; (with_reducible refine (up_any l _ _ _ _ ((h.below hb0).below p5) hL hn hnc).mono ?_); rintro e w2 ⟨rfl, q, rfl⟩)
        | (go_at_call 73; (with_reducible refine (up_any l _ _ _ _ (((h.below hb0).below p5).drew) hL hn hnc).mono ?_); rintro e w2 ⟨rfl, q, rfl⟩)
        | (go_at_call 74; (with_reducible refine (down_any l _ _ _ _ ((h.below hb0).below p5) hL hn hnc).mono ?_); rintro e w2 ⟨rfl, q, rfl⟩)
        | (go_at_call 74; (with_reducible refine (down_any l _ _ _ _ (((h.below hb0).below p5).drew) hL hn hnc).mono ?_); rintro e w2 ⟨rfl, q, rfl⟩))
    go_wp2
    go_ret
    exact ⟨rfl, below_drawn (hb0.trans (p5.mono hb0.size)) q⟩
  · go_enter Try.func24, Try.ntmps24
    go_wp2_with fail
    generalize hW : w.alloc (Obj.cells #[Value.bool true, Value.slice A n c] 24) = W
    have hb0 : Below w.heap.size w W := by subst hW; exact (Below.refl _ _).alloc (Nat.le_refl _) _
    have X : Bx W w.heap.size (.bool true) (.slice A n c) := by subst hW; exact Bx.new w _ _
    clear hW
    have c0 := X.c0
    have c1 := X.c1
    go_region_held3 (fun w' => w'.cell? ⟨w.heap.size, 0, none⟩ = some (.bool true) ∧ w'.cell? ⟨w.heap.size, 1, none⟩ = some (.slice A n c))
      (first | exact ⟨c0, c1⟩ | exact ⟨X1.c0, X1.c1⟩ | exact ⟨X2.c0, X2.c1⟩)
      (first
        | (go_at_call 53; (with_reducible refine (signs_any _ _ _ _).mono ?_); rintro e w1 ⟨rfl, hm, p4⟩
           have p5 : Below W.heap.size W w1 := (Below.refl _ W).drew.trans p4
           have X1 := X.below p5
           have hl := run_look_s true (r := W.heap.size) hm
           have hl2 := run_look_s (w := w1.drew) true (r := W.heap.size) hm)
        | (go_at_call 73; (with_reducible refine (up_any l _ _ _ _ ((h.below hb0).below p5) hL hn hnc).mono ?_); rintro e w2 ⟨rfl, q, rfl⟩)
        | (go_at_call 73; (with_reducible refine (up_any l _ _ _ _ (((h.below hb0).below p5).drew) hL hn hnc).mono ?_); rintro e w2 ⟨rfl, q, rfl⟩)
        | (go_at_call 74; (with_reducible refine (down_any l _ _ _ _ ((h.below hb0).below p5) hL hn hnc).mono ?_); rintro e w2 ⟨rfl, q, rfl⟩)
        | (go_at_call 74; (with_reducible refine (down_any l _ _ _ _ (((h.below hb0).below p5).drew) hL hn hnc).mono ?_); rintro e w2 ⟨rfl, q, rfl⟩))
    go_wp2
    go_ret
    exact ⟨rfl, below_drawn (hb0.trans (p5.mono hb0.size)) q⟩
end Go.Proofs.Ytflcgeehpboldaa
