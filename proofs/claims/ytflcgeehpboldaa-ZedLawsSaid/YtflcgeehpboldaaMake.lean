/- make([]uint64, n), and nat.fresh. -/
import Derived.Test.YtflcgeehpboldaaCmp
import Derived.Test.YtflcgeehpboldaaWord
import Derived.OwnWalk
namespace Go.Proofs.Ytflcgeehpboldaa
open Go.RowKit

theorem info_u64 : (Try.prog.info? 82).map (fun i => (i.zero, i.size, i.bytes)) = some (some (.int .u64 0), 1, 8) := by kernel_rfl

/-- make([]uint64, n): a block of n zeros. -/
theorem wpList_make64 (w : World) {ops : Array Oper} {rest : List Oper} {o : Oper} {a : Act} {Q : Exit → Act → World → Prop}
    (hg : o.guard = none) (l c : Operand) (hop : o.op = Op.makeSlice 22 l c) (kl kc : IntKind) (L C : Int) (n : Nat) (hl : a.eval l = .int kl L) (hc : a.eval c = .int kc C)
    (hL : L = (n : Int)) (hC : C = (n : Int)) (hn : n ≤ 35184372088832)
    (hK : ∀ w', Own .u64 82 w' w.heap.size (List.replicate n 0) → Below w.heap.size w w' → wpList Try.prog ops Q rest (a.put o.dst (.slice (some ⟨w.heap.size, 0, none⟩) n n)) w') :
    wpList Try.prog ops Q (o :: rest) a w := by
  obtain ⟨i0, hi, hz0, hz1, hz2⟩ := info_parts info_u64
  refine wpList_make_full w hg l c 22 hop w.heap.size 82 i0 (.int .u64 0) 1 Try.underlying22 hi hz0 hz1 kl kc L C n hl hc hL hC (by rw [hz2]; omega) (by unfold maxLen; omega) (Nat.le_refl _) ?_
  intro w' hown hgrow
  refine hK w' ?_ ((Below.refl _ _).grown hgrow (Nat.le_refl _) (by simp))
  have e : (madeCells (Value.int .u64 0).cells (n * 1)).toList = nums .u64 (List.replicate n 0) := by
    rw [nums_zeros, Nat.mul_one]
    exact toList_madeCells_one _ _
  rw [e] at hown
  exact (Own.of_row hown).1

/-- copy into a block that is known whole, as many as the source has. -/
theorem wpList_copy64 (w : World) {ops : Array Oper} {rest : List Oper} {o : Oper} {a : Act} {Q : Exit → Act → World → Prop}
    (hgd : o.guard = none) (d s : Operand) (ho : o.op = .call { callee := .builtin .copy, args := #[d, s], argTypes := #[22, 22] })
    (g off dLen dCap m sCap : Nat) (A : Option Addr) (hd : a.eval d = .slice (some ⟨g, off, none⟩) dLen dCap) (hs : a.eval s = .slice A m sCap)
    (pre seg post ls : List Nat) (hown : Own .u64 82 w g (pre ++ (seg ++ post))) (hpre : pre.length = off) (hseg : seg.length = m) (hm : m ≤ dLen) (hx : Rd .u64 w A m ls)
    (hK : ∀ w', Own .u64 82 w' g (pre ++ (ls ++ post)) → Only g w w' → wpList Try.prog ops Q rest (a.put o.dst (goInt m)) w') :
    wpList Try.prog ops Q (o :: rest) a w := by
  have hsz : (Try.prog.info? 82).map (·.size) = some 1 := by kernel_rfl
  have hmin : Nat.min m dLen = m := Nat.min_eq_left hm
  by_cases h0 : m = 0
  · subst h0
    refine wpList_copy_nothing hgd d s _ _ ho 82 Try.underlying22 hsz _ A dLen dCap 0 sCap hd hs hmin ?_
    obtain rfl : seg = [] := List.eq_nil_of_length_eq_zero hseg
    obtain rfl : ls = [] := List.eq_nil_of_length_eq_zero hx.1
    exact hK w hown (Only.refl _ _)
  · obtain ⟨b, o', rfl, hc⟩ := hx.2 (by omega)
    refine wpList_copy_own hgd d s _ _ ho 82 Try.underlying22 hsz g off dLen dCap ⟨b, o', none⟩ m sCap hd hs _ _ hown (nums .u64 ls) (by rw [length_nums, hx.1, hmin]) ?_ ?_ (nums_one _ _) ?_
    · intro j v hv
      rw [nums_get] at hv
      obtain ⟨x, hxj, rfl⟩ := Option.map_eq_some_iff.1 hv
      rw [add_at]
      exact hc j x hxj
    · rw [length_nums, hx.1]
      simp [length_nums]; omega
    · have e1 : (nums .u64 (pre ++ (seg ++ post))).toArray.toList.take off = nums .u64 pre := by
        rw [List.toList_toArray, ← nums_take, List.take_left' hpre]
      have e2 : (nums .u64 (pre ++ (seg ++ post))).toArray.toList.drop (off + m) = nums .u64 post := by
        rw [List.toList_toArray, ← nums_drop, ← List.append_assoc, List.drop_left' (by rw [List.length_append]; omega)]
      rw [length_nums, hx.1, e1, e2, ← nums_append, ← nums_append]
      refine hK _ ?_ ⟨rfl, rfl, rfl, by simp, fun k _ hk => setRow_other w g k _ (by omega)⟩
      exact setRow_heap w g _ _ _ _ hown

set_option maxHeartbeats 1000000 in
theorem fresh_any (l : List Nat) (A : Option Addr) (n c : Nat) (w : World) (h : Rd .u64 w A n l) (hn : n ≤ 35184372088832) :
    Calls Try.prog 68 #[.slice A n c] w fun e w' => e = .returned (.slice (some ⟨w.heap.size, 0, none⟩) n n) ∧ Own .u64 82 w' w.heap.size l ∧ Below w.heap.size w w' := by
  go_enter Try.func68, Try.ntmps68
  go_wp2_with (first
    | (refine wpList_make64 _ rfl (.tmp 5) (.tmp 5) rfl .i64 .i64 n n n rfl rfl rfl rfl hn ?_; intro w1 hown1 hb1)
    | (refine wpList_copy64 _ rfl (.tmp 7) (.tmp 8) rfl w.heap.size 0 n n n c A rfl rfl [] (List.replicate n 0) [] l (by simpa using hown1) rfl (by simp) (Nat.le_refl _) (h.below hb1) ?_; intro w2 hown2 ho2))
  go_ret
  exact ⟨rfl, by simpa using hown2, Below.only hb1 (Nat.le_refl _) hb1.size ho2⟩
end Go.Proofs.Ytflcgeehpboldaa
