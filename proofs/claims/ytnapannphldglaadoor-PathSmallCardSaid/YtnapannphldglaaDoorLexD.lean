/- lex.pieces by value: the closure, for every body of a loop over it. -/
import Derived.Test.YtnapannphldglaaDoorLexC
namespace Go.Proofs.YtnapannphldglaaDoor
open Go Go.RowKit Go.Shelf
attribute [local go_sem] Oper.semAt_some

set_option maxRecDepth 100000 in
set_option maxHeartbeats 4000000 in
theorem pieces1_in (n : Nat) (hn : 2 ≤ n) (l Bn : Nat) (s : ByteArray) (hs : s.size ≤ 1048576) (J Jx : List Pc → World → Prop)
    (hY : ∀ pre x W, J pre W → pre.length < s.size → YieldAt Fence.wide (n - 1) Tryd.prog l (Pc.encs x) W fun e W' =>
      (e = .returned (.bool true) ∧ J (pre ++ [x]) W' ∧ KpL Bn W W') ∨ (e = .returned (.bool false) ∧ Jx (pre ++ [x]) W'))
    (W : World) (hJ : AbidesFrom W.heap.size J) (hBn : Boxed W Bn 9 (.string s)) (h0 : J [] W) :
    CallsIn Fence.wide n Tryd.prog 52 #[.func (.yield l) #[] #[], .pointer (some ⟨Bn, 0, none⟩)] W fun e W' => (∃ v, e = .returned v) ∧
      ((∃ ys, Pcs s.data.toList s.size (ys.map Pc.raw) ∧ J ys W') ∨ (∃ pre, (∃ k, Pcs s.data.toList k (pre.map Pc.raw)) ∧ Jx pre W')) := by
  have h1n : 1 ≤ n := by omega
  have hc0 := hBn.cell
  have hBlt := hBn.lt
  have HB := Lib.hid hBn
  clear hBn
  refine callsIn_of_wp Tryd.func52 rfl trivial ?_ rfl
  simp only [Tryd.ntmps52, List.size_toArray, List.length_cons, List.length_nil, Nat.reduceAdd, Nat.reduceSub, Array.replicate_succ, Array.replicate_zero, List.push_toArray, List.append_toArray, List.nil_append, List.cons_append]
  gi_wp2
  gi_loopw [3, 4] (fun ff aa wr => ∃ (f k : Nat) (K : Int) (pre : List Pc), ff = .int .i64 (f : Int) ∧ aa = .int .i64 K ∧ f ≤ k ∧ k ≤ s.size ∧ Inv s.data.toList f k K ∧ Pcs s.data.toList f (pre.map Pc.raw) ∧ wr.heap[W.heap.size]? = some (.stringIter s k) ∧ Boxed wr Bn 9 (.string s) ∧ J pre wr)
    (fun _ _ wr => s.size - wr.iterPos W.heap.size)
  case atStart =>
    refine ⟨0, 0, 0, [], rfl, rfl, Nat.le_refl _, Nat.zero_le _, .inl ⟨rfl, rfl, rfl⟩, Pcs.nil, World.iter_heap W s 0, HB.out.alloc _, ?_⟩
    exact hJ [] W _ none h0 (World.grownBy_alloc W _ none) (fun r e => by cases e)
  case round =>
    obtain ⟨f, k, K, pre, rfl, rfl, hfk, hks, hinv, hpcs, hit, hbx, hJs⟩ := hrel
    have hsz : W.heap.size < wr.heap.size := (Array.getElem?_eq_some_iff.1 hit).1
    have hplen : pre.length ≤ f := by have := hpcs.le.2; simpa using this
    by_cases hp : k < s.size
    · have hnx : ∀ ty, (Instr.next (.pointer (some ⟨W.heap.size, 0, none⟩)) true ty).run Tryd.prog wr = _ := fun ty => Lib.run_next_any_at wr W.heap.size s k ty hit hp
      have hnew := inv_new s k hp
      have hmor := inv_more s f k K hp
      have hend := inv_ends s f k K
      have hw1 := width_ge s k hp
      have hwf := width_fits s k hp
      obtain ⟨R, hR⟩ : ∃ R, R = (Utf8.decode s k).1 := ⟨_, rfl⟩
      obtain ⟨D, hD⟩ : ∃ D, D = (Utf8.decode s k).2 := ⟨_, rfl⟩
      rw [← hR] at hnx hnew hmor hend
      rw [← hD] at hnx hnew hmor hw1 hwf
      obtain ⟨K2, hK2⟩ : ∃ K2, K2 = kindR (R : Int) := ⟨_, rfl⟩
      rw [← hK2] at hnew hmor hend
      have HK2 : Hid (kindR (R : Int) = K2) := hK2.symm
      clear hK2 hR hD
      have hit2 := Lib.iterAt_heap wr W.heap.size s k (k + D) hit
      have hbx2 : Boxed (wr.iterAt W.heap.size s (k + D)) Bn 9 (.string s) := hbx.kept (grownBy_iter wr W.heap.size s (k + D)) (by intro e; injection e; omega)
      have hJ2 : J pre (wr.iterAt W.heap.size s (k + D)) := hJ pre wr _ (some W.heap.size) hJs (grownBy_iter wr W.heap.size s (k + D)) (fun r e => by cases e; exact ⟨Nat.le_refl _, _, hit, rfl⟩)
      have hc2 := hbx2.cell
      have HIT := Lib.hid hit
      have HIT2 := Lib.hid hit2
      have HBX := Lib.hid hbx
      have HBX2 := Lib.hid hbx2
      have HNEW := Lib.hid hnew
      have HPC := Lib.hid hpcs
      clear hit hit2 hbx hbx2 hnew hpcs
      by_cases hz : f < k
      · have hz' : (f : Int) < (k : Int) := by omega
        cases ho : onK K K2 with
        | false =>
          obtain ⟨c, r, m, hd, hk2, hm, hx⟩ := hend hz hks hinv (fun _ => ho)
          have hY1 := hY pre (pcOf s f k m c r hs hd hk2 hx) _ hJ2 (by omega)
          obtain ⟨X, hX⟩ : ∃ X, X = pcOf s f k m c r hs hd hk2 hx := ⟨_, rfl⟩
          have hPX : Pcs s.data.toList k ((pre ++ [X]).map Pc.raw) := by
            rw [hX]
            exact pcs_snoc hs hd hk2 hm hx HPC.out
          have hXe : Pc.encs X = #[.int .i64 (f : Int), .string (s.extract f k)] := by rw [hX]; rfl
          rw [← hX] at hY1
          obtain ⟨fn, tmps, assign, body, hy, hRR⟩ := hY1
          rw [hXe] at hy
          have HO := Lib.hid ho
          have HPX := Lib.hid hPX
          clear hXe hX hd hk2 hm hx ho hPX hend hmor hinv
          gi_wp2_with (first
            | (refine ⟨trivial, ?_⟩; gi_at_call 53; refine (callsIn_wide.2 (kindOf_any _ _)).mono ?_; rintro e w' ⟨rfl, rfl⟩; rw [HK2.out])
            | (refine ⟨trivial, ?_⟩; gi_at_call 54; refine (callsIn_wide.2 (goesOn_any _ _ _)).mono ?_; rintro e w' ⟨rfl, rfl⟩; rw [HO.out]))
          refine hRR.mono ?_
          rintro e W3 (⟨rfl, hJ3, hk3⟩ | ⟨rfl, hJx3⟩)
          · gi_wp2
            have hit3 := hk3.1.same _ _ HIT2.out rfl
            go_roundw
            case rel => exact ⟨k, k + D, K2, pre ++ [X], rfl, rfl, by omega, hwf, HNEW.out, HPX.out, hit3, hk3.2.trans HBX2.out, hJ3⟩
            case measure => simp only [World.iterPos, hit3, HIT.out]; omega
          · gi_wp2
            refine bodyPost_ret (results_none rfl _ _ _) rfl ?_
            exact ⟨⟨_, rfl⟩, .inr ⟨pre ++ [X], ⟨k, HPX.out⟩, hJx3⟩⟩
        | true =>
          have hm2 := hmor hz hinv ho
          have HM2 := Lib.hid hm2
          have HO := Lib.hid ho
          clear hend hmor hinv ho hm2
          gi_wp2_with (first
            | (refine ⟨trivial, ?_⟩; gi_at_call 53; refine (callsIn_wide.2 (kindOf_any _ _)).mono ?_; rintro e w' ⟨rfl, rfl⟩; rw [HK2.out])
            | (refine ⟨trivial, ?_⟩; gi_at_call 54; refine (callsIn_wide.2 (goesOn_any _ _ _)).mono ?_; rintro e w' ⟨rfl, rfl⟩; rw [HO.out]))
          go_roundw
          case rel => exact ⟨f, k + D, K2, pre, rfl, rfl, by omega, hwf, HM2.out, HPC.out, HIT2.out, HBX2.out, hJ2⟩
          case measure => simp only [World.iterPos, HIT2.out, HIT.out]; omega
      · have hz' : ¬ (f : Int) < (k : Int) := by omega
        have hk0 : f = 0 ∧ k = 0 := by
          rcases hinv with ⟨a, b, _⟩ | ⟨c, r, m, _, b, _⟩
          · exact ⟨a, b⟩
          · omega
        have HN2 : Hid (Inv s.data.toList f (k + D) K2) := by
          have := HNEW.out
          have e : f = k := by omega
          rw [← e] at this
          rw [← e]
          exact this
        clear hend hmor hinv hk0 HNEW
        gi_wp2_with (refine ⟨trivial, ?_⟩; gi_at_call 53; refine (callsIn_wide.2 (kindOf_any _ _)).mono ?_; rintro e w' ⟨rfl, rfl⟩; rw [HK2.out])
        refine ⟨trivial, ?_⟩
        gi_wp2
        go_roundw
        case rel => exact ⟨f, k + D, K2, pre, rfl, rfl, by omega, hwf, HN2.out, HPC.out, HIT2.out, HBX2.out, hJ2⟩
        case measure => simp only [World.iterPos, HIT2.out, HIT.out]; omega
    · have hks2 : k = s.size := by omega
      subst hks2
      have hnx : ∀ ty, (Instr.next (.pointer (some ⟨W.heap.size, 0, none⟩)) true ty).run Tryd.prog wr = _ := fun ty => Lib.run_next_end_at wr W.heap.size s s.size ty hit hp
      have hc2 := hbx.cell
      have HIT := Lib.hid hit
      have HBX := Lib.hid hbx
      have HPC := Lib.hid hpcs
      clear hit hbx hpcs
      by_cases hz : f < s.size
      · obtain ⟨c, r, m, hd, hk2, hm, hx⟩ := inv_ends s f s.size K hz (Nat.le_refl _) hinv (fun h => absurd h hp)
        have hY1 := hY pre (pcOf s f s.size m c r hs hd hk2 hx) _ hJs (by omega)
        obtain ⟨X, hX⟩ : ∃ X, X = pcOf s f s.size m c r hs hd hk2 hx := ⟨_, rfl⟩
        have hPX : Pcs s.data.toList s.size ((pre ++ [X]).map Pc.raw) := by
          rw [hX]
          exact pcs_snoc hs hd hk2 hm hx HPC.out
        have hXe : Pc.encs X = #[.int .i64 (f : Int), .string (s.extract f s.size)] := by rw [hX]; rfl
        rw [← hX] at hY1
        obtain ⟨fn, tmps, assign, body, hy, hRR⟩ := hY1
        rw [hXe] at hy
        have HPX := Lib.hid hPX
        clear hXe hX hd hk2 hm hx hPX hinv
        gi_wp2
        refine hRR.mono ?_
        rintro e W3 (⟨rfl, hJ3, hk3⟩ | ⟨rfl, hJx3⟩)
        · gi_wp2
          go_end0
          exact ⟨⟨_, rfl⟩, .inl ⟨pre ++ [X], HPX.out, hJ3⟩⟩
        · gi_wp2
          go_end0
          exact ⟨⟨_, rfl⟩, .inr ⟨pre ++ [X], ⟨_, HPX.out⟩, hJx3⟩⟩
      · have hf : f = s.size := by omega
        subst hf
        gi_wp2
        go_end0
        exact ⟨⟨_, rfl⟩, .inl ⟨pre, HPC.out, hJs⟩⟩

theorem pieces_stops (n : Nat) (hn : 2 ≤ n) (Bn : Nat) (s : ByteArray) (hs : s.size ≤ 1048576) (w : World) (hBn : Boxed w Bn 9 (.string s)) :
    SeqStopsK Fence.wide n Tryd.prog 52 #[.pointer (some ⟨Bn, 0, none⟩)] Pc.encs (KpL Bn) (fun ys => Pcs s.data.toList s.size (ys.map Pc.raw)) (fun pre => ∃ k, Pcs s.data.toList k (pre.map Pc.raw)) s.size w := fun l J Jx W hW hJ _ hY h0 =>
  pieces1_in n hn l Bn s hs J Jx hY W hJ ((hW.block Bn hBn.lt).trans hBn) h0
set_option maxHeartbeats 1000000 in
theorem pieces_any (s : ByteArray) (w : World) : Calls Tryd.prog 34 #[.string s] w fun e w' => e = .returned (.func (.func 52) #[] #[.pointer (some ⟨w.heap.size, 0, none⟩)]) ∧ w' = w.alloc (.cells #[.string s] 9) := by
  go_enter Tryd.func34, Tryd.ntmps34
  go_wp2
  go_ret
  exact ⟨rfl, rfl⟩
end Go.Proofs.YtnapannphldglaaDoor
