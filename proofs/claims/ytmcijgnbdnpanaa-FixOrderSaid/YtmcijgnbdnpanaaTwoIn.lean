/- 'x, y := In(a), In(b)' of the document's whole numbers: whatever order is drawn. -/
import Derived.Test.YtmcijgnbdnpanaaInv
import Derived.Test.YtmcijgnbdnpanaaRuns
namespace Go.Proofs.Ytmcijgnbdnpanaa
open Go Go.RowKit

theorem wpOp_plain {P : Program} {ops : Array Oper} {Q : Exit → Act → World → Prop} {i : Nat} {o : Oper} {K : Act → World → Prop} {a : Act} {w : World} (hi : ops[i]? = some o) (hg : Region.wanted o (yielded ops a.tmps) = true) (h : o.wp P a w K Q) : wpOp P ops Q i K a w := by
  unfold wpOp
  simp only [hi, hg, if_true]
  exact .inl h
theorem put_none (a : Act) (x : Value) : a.put none x = a := rfl
theorem eval_putAll_not {t : Nat} {v : Nat → Value} : ∀ (l : List Nat) (a : Act), t ∉ l → (putAll a l v).eval (.tmp t) = a.eval (.tmp t)
  | [], _, _ => rfl
  | d :: l, a, h => by
    rw [putAll, eval_putAll_not l _ (fun q => h (by simp [q]))]
    have hne : d ≠ t := fun q => h (by simp [q])
    simp [Act.eval, Act.put, Array.getD_eq_getD_getElem?, hne]
theorem eval_putAll_mem {t : Nat} {v : Nat → Value} : ∀ (l : List Nat) (a : Act), l.Nodup → t ∈ l → t < a.tmps.size → (putAll a l v).eval (.tmp t) = v t
  | [], _, _, h, _ => by cases h
  | d :: l, a, hn, h, hs => by
    have hn' := List.nodup_cons.1 hn
    rw [putAll]
    by_cases hd : d = t
    · subst hd
      rw [eval_putAll_not l _ hn'.1]
      simp [Act.eval, Act.put, hs]
    · have hm : t ∈ l := by
        cases h with
        | head => exact absurd rfl hd
        | tail _ h => exact h
      exact eval_putAll_mem l _ hn'.2 hm (by simpa [Act.put] using hs)

/-- The value is the good form of x. -/
def IsG (w : World) (v : Value) (x : Int) (k : Nat) : Prop := ∃ s A n c, v = .agg #[.bool s, .slice A n c] ∧ RG w s A n c x k
theorem IsG.below {w w' : World} {v : Value} {x : Int} {k : Nat} (h : IsG w v x k) (hb : Below w.heap.size w w') : IsG w' v x k := by
  obtain ⟨s, A, n, c, h1, h2⟩ := h; exact ⟨s, A, n, c, h1, h2.below hb⟩
end Go.Proofs.Ytmcijgnbdnpanaa
