/- gessolaw11.PathBack. -/
import Derived.Test.YtnapannphldglaaDoorPathWk
import Derived.Test.YtnapannphldglaaDoorPathR2
import Derived.Test.YtnapannphldglaaDoorPathR3
namespace Go.Proofs.YtnapannphldglaaDoor
open Go Go.RowKit

theorem drawsP_err : ∀ {l : List Pa} {P : Pn} {q : Int × Int}, drawsP P l = .error q → ¬ q.2 = 0
  | [], P, q, h => (by cases h)
  | x :: r, P, q, h => by
    unfold drawsP at h
    cases hd : drawP P x with
    | error z => rw [hd] at h; cases h; exact drawP_err hd
    | ok P' => rw [hd] at h; exact drawsP_err h
theorem ofP_err {l : List UInt8} {q : Int × Int} (h : ofP l = .error q) : ¬ q.2 = 0 := by
  unfold ofP at h
  cases hc : lcut 0 l with
  | error p => rw [hc] at h; cases h; simp
  | ok ts =>
    rw [hc] at h
    simp only [parseP] at h
    cases hr : readP ts (l.length : Int) with
    | error p => rw [hr] at h; cases h; simp
    | ok ys =>
      rw [hr] at h
      simp only at h
      cases hd : drawsP pen0 ys with
      | error z => rw [hd] at h; cases h; exact drawsP_err hd
      | ok P => rw [hd] at h; cases h
theorem bk_of {w : World} {s : ByteArray} {a : List Sg} (hs : s.size ≤ 1048576) (h : LtIn w) (ha : ofP s.data.toList = .ok a) :
    Calls Tryd.prog 14 #[.string s] w fun e w' => ∃ A c, e = .returned (.tuple #[.slice A a.length c, .int .i64 0, .int .i64 0]) ∧ SGV w' A a ∧ Below w.heap.size w w' := by
  refine (of11 hs h).mono fun e w' hg => ?_
  rw [ha] at hg
  obtain ⟨⟨_, A, c, he, hr⟩, hb⟩ := hg
  exact ⟨A, c, he, SGV.of_row hr rfl, hb⟩
theorem bk_err {w : World} {s : ByteArray} {q : Int × Int} (hs : s.size ≤ 1048576) (h : LtIn w) (ha : ofP s.data.toList = .error q) :
    Calls Tryd.prog 14 #[.string s] w fun e w' => e = .returned (.tuple #[.slice none 0 0, .int .i64 q.1, .int .i64 q.2]) ∧ Below w.heap.size w w' := by
  refine (of11 hs h).mono fun e w' hg => ?_
  rw [ha] at hg
  exact hg
theorem bk_txt {w : World} {l : List Sg} (hg : goodL l = true) (h : LtIn w) :
    Calls Tryd.prog 14 #[.string ⟨(textP l).toArray⟩] w fun e w' => ∃ A c, e = .returned (.tuple #[.slice A l.length c, .int .i64 0, .int .i64 0]) ∧ SGV w' A l ∧ Below w.heap.size w w' := by
  obtain ⟨hm, hl⟩ := goodL_mem hg
  have h1 := textP_len hm
  have h2 : (⟨(textP l).toArray⟩ : ByteArray).size = (textP l).length := by simp [ByteArray.size]
  exact bk_of (by rw [h2]; omega) h (of_text hg)
theorem bk_same {w : World} {A B : Option Addr} {c d n : Nat} {l : List Sg} (ha : SGV w A l) (hb : SGV w B l) (hn : l.length = n) (hl : l.length ≤ 4096) :
    Calls Tryd.prog 15 #[.slice A n c, .slice B n d] w fun e w' => e = .returned (.bool true) ∧ Below w.heap.size w w' := by
  refine (segs_same A B c d n l w ha hb hn (by omega)).mono fun e w' hg => ?_
  obtain ⟨he, q, rfl⟩ := hg
  exact ⟨he, rfl, rfl, rfl, Nat.le_refl _, fun _ _ => rfl⟩
theorem bk_good {w : World} {A : Option Addr} {n c : Nat} {l : List Sg} (hl : LtIn w) (hv : SGV w A l) (hn : l.length = n) (hg : goodL l = true) :
    Calls Tryd.prog 24 #[.slice A n c] w fun e w' => e = .returned (.bool true) ∧ Below w.heap.size w w' := by
  have := good_any (c := c) hl hv hn
  rw [hg] at this
  exact this
end Go.Proofs.YtnapannphldglaaDoor
