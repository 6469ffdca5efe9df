/- The mathematics of mirrored control points, and of numbers that come again. -/
import Derived.Test.YtnapannphldglaaDoorPathP2
namespace Go.Proofs.YtnapannphldglaaDoor
open Go Go.RowKit

/-- Small numbers: of 16 bits. -/
def i16 (v : Int) : Prop := -32768 ≤ v ∧ v ≤ 32767
theorem i16.b {v : Int} (h : i16 v) : bd62 v := by unfold i16 at h; unfold bd62; omega
theorem isC_4 {v : Int} (h1 : -200000 ≤ v) (h2 : v ≤ 200000) : isC v = true := isC_iff.2 ⟨by omega, by omega⟩
def qs0 (a b : Int) : List Gn := [([], a), ([32], b)]
theorem gnOk_cons {g : List UInt8} {v : Int} {l : List Gn} (h1 : ∀ d ∈ g, isP d = true) (h2 : bd62 v) (h3 : gnOk l) : gnOk ((g, v) :: l) := fun q hq => by
  rcases List.mem_cons.1 hq with rfl | hq
  · exact ⟨h1, h2⟩
  · exact h3 q hq
theorem gnOk_nil : gnOk [] := fun q hq => by cases hq
theorem p_nil : ∀ d ∈ ([] : List UInt8), isP d = true := fun d hd => by cases hd
theorem p_32 : ∀ d ∈ ([32] : List UInt8), isP d = true := by decide
theorem p_44 : ∀ d ∈ ([44] : List UInt8), isP d = true := by decide
theorem bd_0 : bd62 0 := by unfold bd62; omega
theorem bd_1 : bd62 1 := by unfold bd62; omega
theorem bd_2 : bd62 2 := by unfold bd62; omega
abbrev LM : Lt := ⟨77, 1, 1, ⟨#[48, 49]⟩, 0, 76⟩
abbrev LL : Lt := ⟨76, 2, 1, ⟨#[48, 49]⟩, 0, 76⟩
abbrev LH : Lt := ⟨72, 2, 1, ⟨#[48]⟩, 1, 72⟩
abbrev LV : Lt := ⟨86, 2, 1, ⟨#[49]⟩, 1, 86⟩
abbrev LQ : Lt := ⟨81, 3, 2, ⟨#[48, 49, 50, 51]⟩, 0, 81⟩
abbrev LC : Lt := ⟨67, 4, 3, ⟨#[48, 49, 50, 51, 52, 53]⟩, 0, 67⟩
abbrev LS : Lt := ⟨83, 4, 3, ⟨#[50, 51, 52, 53]⟩, 2, 83⟩
abbrev LT' : Lt := ⟨84, 3, 2, ⟨#[50, 51]⟩, 2, 84⟩
/-- Where the pen stands behind M 0 0. -/
def penM (x y : Int) : Pn := ⟨[⟨1, x, y, 0, 0, 0, 0, 0⟩], x, y, x, y⟩
theorem m_rd {Q : RSt → Prop} {r : List UInt8} (hr : noD r) (small : Bool) {x y : Int} (hx : i16 x) (hy : i16 y)
    (hq : ∀ (L' : List Pa) (y' : Pa), y'.L = LM → y'.s = small → lacks y' = false → L'.length = 1 → drawsP pen0 L' = .ok (penM x y) → ∀ p', RdTo (L', y') p' r Q) : RdTo ([], pa0) 0 ((if small then 109 else 77) :: (gnB (qs0 x y) ++ r)) Q := by
  have cx : isC x = true := by unfold i16 at hx; exact isC_4 (by omega) (by omega)
  have cy : isC y = true := by unfold i16 at hy; exact isC_4 (by omega) (by omega)
  refine go_rd hr (if small then 109 else 77) LM (P := pen0) (P' := penM x y) rfl (by cases small <;> rfl) (by cases small <;> rfl) rfl rfl rfl (gnOk_cons p_nil hx.b (gnOk_cons p_32 hy.b gnOk_nil)) (fun q hq => by rw [List.mem_singleton.1 hq]; simp) (by simp) (fun y' h1 h2 h3 => ?_) fun L' y' h1 h2 h3 h4 h5 p' => hq L' y' h1 (by rw [h2]; cases small <;> rfl) h3 h4 h5 p'
  refine drawP_of (s := ⟨1, x, y, 0, 0, 0, 0, 0⟩) h1 h2 h3 (by decide) (by decide) (by decide) ?_
  cases small <;> simp [numsV, numV, coordP, qs0, pen0, firstP, cx, cy, Sg.set, isSm]
/-- A line to a point, in great or small letters, told or not. -/
def penL (P : Pn) (x y : Int) : Pn := { P with l := P.l ++ [⟨2, x, y, 0, 0, 0, 0, 0⟩], a := x, b := y }
theorem l_draw {P : Pn} {y' : Pa} {small : Bool} {x y : Int} (hl : P.l.length < 4096) (h1 : y'.L = LL) (h2 : y'.s = small) (h3 : y'.ns.map (·.n) = [x, y]) (cx : isC (coordP P x 0 small) = true) (cy : isC (coordP P y 1 small) = true) :
    drawP P y' = .ok (penL P (coordP P x 0 small) (coordP P y 1 small)) := by
  refine drawP_of (s := ⟨2, coordP P x 0 small, coordP P y 1 small, 0, 0, 0, 0, 0⟩) h1 h2 h3 hl rfl rfl ?_
  simp [numsV, numV, firstP, cx, cy, Sg.set]
theorem h_draw {P : Pn} {y' : Pa} {small : Bool} {x : Int} (hl : P.l.length < 4096) (h1 : y'.L = LH) (h2 : y'.s = small) (h3 : y'.ns.map (·.n) = [x]) (ca : isC P.a = true) (cb : isC P.b = true) (cx : isC (coordP P x 0 small) = true) :
    drawP P y' = .ok (penL P (coordP P x 0 small) P.b) := by
  refine drawP_of (s := ⟨2, coordP P x 0 small, P.b, 0, 0, 0, 0, 0⟩) h1 h2 h3 hl (by simpa [firstP] using ca) (by simpa [firstP] using cb) ?_
  simp [numsV, numV, firstP, cx, Sg.set]
theorem v_draw {P : Pn} {y' : Pa} {small : Bool} {x : Int} (hl : P.l.length < 4096) (h1 : y'.L = LV) (h2 : y'.s = small) (h3 : y'.ns.map (·.n) = [x]) (ca : isC P.a = true) (cb : isC P.b = true) (cx : isC (coordP P x 1 small) = true) :
    drawP P y' = .ok (penL P P.a (coordP P x 1 small)) := by
  refine drawP_of (s := ⟨2, P.a, coordP P x 1 small, 0, 0, 0, 0, 0⟩) h1 h2 h3 hl (by simpa [firstP] using ca) (by simpa [firstP] using cb) ?_
  simp [numsV, numV, firstP, cx, Sg.set]

/-! ### Numbers that come again -/
def rl (small : Bool) (a b : Int) : Int := if small then a + b else b
/-- The three points' path. -/
def agL (small : Bool) (n : Nat → Int) : List Sg := [⟨1, n 0, n 1, 0, 0, 0, 0, 0⟩, ⟨2, rl small (n 0) (n 2), rl small (n 1) (n 3), 0, 0, 0, 0, 0⟩, ⟨2, rl small (rl small (n 0) (n 2)) (n 4), rl small (rl small (n 1) (n 3)) (n 5), 0, 0, 0, 0, 0⟩]
def cM (small : Bool) : UInt8 := if small then 109 else 77
def cL (small : Bool) : UInt8 := if small then 108 else 76
def cH (small : Bool) : UInt8 := if small then 104 else 72
def cV (small : Bool) : UInt8 := if small then 118 else 86
def agA (small : Bool) (n : Nat → Int) : List UInt8 := cM small :: (gnB (qs0 (n 0) (n 1)) ++ (gnB [([32], n 2), ([32], n 3)] ++ (gnB [([44], n 4), ([32], n 5)] ++ [])))
def agB (small : Bool) (n : Nat → Int) : List UInt8 := cM small :: (gnB (qs0 (n 0) (n 1)) ++ (cL small :: (gnB (qs0 (n 2) (n 3)) ++ (cL small :: (gnB (qs0 (n 4) (n 5)) ++ [])))))
def agC (small : Bool) (n : Nat → Int) : List UInt8 := cM small :: (gnB (qs0 (n 0) (n 1)) ++ (cL small :: (gnB (qs0 (n 2) (n 3)) ++ (gnB [([32], n 4), ([32], n 5)] ++ []))))
def agH (small : Bool) (n : Nat → Int) : List UInt8 := cM small :: (gnB (qs0 (n 0) (n 1)) ++ (cH small :: (gnB [([], n 2)] ++ (cV small :: (gnB [([], n 3)] ++ [])))))
theorem noD_32 {v : Int} {l : List Gn} {r : List UInt8} : noD (gnB (([32], v) :: l) ++ r) := by rw [gnB_cons]; exact noD.cons (by decide)
theorem noD_44 {v : Int} {l : List Gn} {r : List UInt8} : noD (gnB (([44], v) :: l) ++ r) := by rw [gnB_cons]; exact noD.cons (by decide)
theorem sep_1 {g : List UInt8} {v : Int} (hg : g ≠ []) : gnSep [(g, v)] := fun q hq => by rw [List.mem_singleton.1 hq]; exact hg
theorem sep_0 : gnSep [] := fun q hq => by cases hq
theorem co_0 (P : Pn) (x : Int) (small : Bool) : coordP P x 0 small = rl small P.a x := by cases small <;> rfl
theorem co_1 (P : Pn) (x : Int) (small : Bool) : coordP P x 1 small = rl small P.b x := by cases small <;> rfl
theorem rl_b {small : Bool} {a b : Int} {k m : Int} (ha : -k ≤ a ∧ a ≤ k) (hb : -m ≤ b ∧ b ≤ m) (hk : 0 ≤ k) : -(k + m) ≤ rl small a b ∧ rl small a b ≤ k + m := by
  unfold rl; split <;> omega
theorem i16.k {v : Int} (h : i16 v) : -32768 ≤ v ∧ v ≤ 32768 := by unfold i16 at h; omega
theorem ll_rd {Q : RSt → Prop} {r : List UInt8} (hr : noD r) {small : Bool} {L : List Pa} {y : Pa} {p : Nat} {P : Pn} (hP : drawsP pen0 L = .ok P) (hk : lacks y = false) (h1 : y.L.k = 1 ∨ y.L.k = 2) (hm : L.length ≤ 4095) (hl : P.l.length < 4096) {x z : Int} (hx : i16 x) (hz : i16 z) (cx : isC (rl small P.a x) = true) (cz : isC (rl small P.b z) = true)
    (hq : ∀ (L' : List Pa) (y' : Pa), y'.L = LL → y'.s = small → lacks y' = false → L'.length = L.length + 1 → drawsP pen0 L' = .ok (penL P (rl small P.a x) (rl small P.b z)) → ∀ p', RdTo (L', y') p' r Q) : RdTo (L, y) p (cL small :: (gnB (qs0 x z) ++ r)) Q := by
  refine go_rd hr (cL small) LL hP (by cases small <;> rfl) (by cases small <;> rfl) hk ?_ rfl (gnOk_cons p_nil hx.b (gnOk_cons p_32 hz.b gnOk_nil)) (sep_1 (by simp)) hm (fun y' g1 g2 g3 => ?_) fun L' y' g1 g2 g3 g4 g5 p' => hq L' y' g1 (by rw [g2]; cases small <;> rfl) g3 g4 g5 p'
  · unfold followsK
    rcases h1 with e | e <;> rw [e] <;> rfl
  · rw [← co_0, ← co_1]
    exact l_draw hl g1 (by rw [g2]; cases small <;> rfl) g3 (by rw [co_0]; exact cx) (by rw [co_1]; exact cz)
theorem la_rd {Q : RSt → Prop} {r : List UInt8} (hr : noD r) {small : Bool} {L : List Pa} {y : Pa} {p : Nat} {P : Pn} (hP : drawsP pen0 L = .ok P) (hk : lacks y = false) (h1 : y.L.a = 76) (hy : y.s = small) (hm : L.length ≤ 4095) (hl : P.l.length < 4096) {g : List UInt8} (hg : ∀ d ∈ g, isP d = true) {x z : Int} (hx : i16 x) (hz : i16 z) (cx : isC (rl small P.a x) = true) (cz : isC (rl small P.b z) = true)
    (hq : ∀ (L' : List Pa) (y' : Pa), y'.L = LL → y'.s = small → lacks y' = false → L'.length = L.length + 1 → drawsP pen0 L' = .ok (penL P (rl small P.a x) (rl small P.b z)) → ∀ p', RdTo (L', y') p' r Q) : RdTo (L, y) p (gnB [(g, x), ([32], z)] ++ r) Q := by
  refine go_ag hr LL hP (by rw [h1]; rfl) hk rfl (by simp) (gnOk_cons hg hx.b (gnOk_cons p_32 hz.b gnOk_nil)) (sep_1 (by simp)) hm (fun y' g1 g2 g3 => ?_) fun L' y' g1 g2 g3 g4 g5 p' => hq L' y' g1 (g2.trans hy) g3 g4 g5 p'
  rw [← co_0, ← co_1]
  exact l_draw hl g1 (g2.trans hy) g3 (by rw [co_0]; exact cx) (by rw [co_1]; exact cz)
section
variable {n : Nat → Int} (h : ∀ i, i16 (n i)) (small : Bool)
include h
theorem ag_bounds : isC (rl small (n 0) (n 2)) = true ∧ isC (rl small (n 1) (n 3)) = true ∧ isC (rl small (rl small (n 0) (n 2)) (n 4)) = true ∧ isC (rl small (rl small (n 1) (n 3)) (n 5)) = true := by
  have h0 := (h 0).k; have h1 := (h 1).k; have h2 := (h 2).k; have h3 := (h 3).k; have h4 := (h 4).k; have h5 := (h 5).k
  have a := rl_b (small := small) h0 h2 (by omega)
  have b := rl_b (small := small) h1 h3 (by omega)
  have c := rl_b (small := small) a h4 (by omega)
  have d := rl_b (small := small) b h5 (by omega)
  exact ⟨isC_4 (by omega) (by omega), isC_4 (by omega) (by omega), isC_4 (by omega) (by omega), isC_4 (by omega) (by omega)⟩
theorem of_agA : ofP (agA small n) = .ok (agL small n) := by
  obtain ⟨b1, b2, b3, b4⟩ := ag_bounds h small
  refine ofP_rd (m_rd noD_32 small (h 0) (h 1) fun L1 y1 e1 s1 k1 l1 d1 p1 => ?_)
  refine la_rd noD_44 d1 k1 (by rw [e1]) s1 (by omega) (by simp [penM]) p_32 (h 2) (h 3) b1 b2 fun L2 y2 e2 s2 k2 l2 d2 p2 => ?_
  refine la_rd noD.nil d2 k2 (by rw [e2]) s2 (by omega) (by simp [penM, penL]) p_44 (h 4) (h 5) b3 b4 fun L3 y3 e3 s3 k3 l3 d3 p3 => ?_
  exact rd_end d3 k3 (by rw [e3]; decide) rfl
theorem of_agB : ofP (agB small n) = .ok (agL small n) := by
  obtain ⟨b1, b2, b3, b4⟩ := ag_bounds h small
  refine ofP_rd (m_rd (noD.cons (by cases small <;> rfl)) small (h 0) (h 1) fun L1 y1 e1 s1 k1 l1 d1 p1 => ?_)
  refine ll_rd (noD.cons (by cases small <;> rfl)) d1 k1 (.inl (by rw [e1])) (by omega) (by simp [penM]) (h 2) (h 3) b1 b2 fun L2 y2 e2 s2 k2 l2 d2 p2 => ?_
  refine ll_rd noD.nil d2 k2 (.inr (by rw [e2])) (by omega) (by simp [penM, penL]) (h 4) (h 5) b3 b4 fun L3 y3 e3 s3 k3 l3 d3 p3 => ?_
  exact rd_end d3 k3 (by rw [e3]; decide) rfl
theorem of_agC : ofP (agC small n) = .ok (agL small n) := by
  obtain ⟨b1, b2, b3, b4⟩ := ag_bounds h small
  refine ofP_rd (m_rd (noD.cons (by cases small <;> rfl)) small (h 0) (h 1) fun L1 y1 e1 s1 k1 l1 d1 p1 => ?_)
  refine ll_rd noD_32 d1 k1 (.inl (by rw [e1])) (by omega) (by simp [penM]) (h 2) (h 3) b1 b2 fun L2 y2 e2 s2 k2 l2 d2 p2 => ?_
  refine la_rd noD.nil d2 k2 (by rw [e2]) s2 (by omega) (by simp [penM, penL]) p_32 (h 4) (h 5) b3 b4 fun L3 y3 e3 s3 k3 l3 d3 p3 => ?_
  exact rd_end d3 k3 (by rw [e3]; decide) rfl
theorem of_agH : ofP (agH small n) = .ok [⟨1, n 0, n 1, 0, 0, 0, 0, 0⟩, ⟨2, rl small (n 0) (n 2), n 1, 0, 0, 0, 0, 0⟩, ⟨2, rl small (n 0) (n 2), rl small (n 1) (n 3), 0, 0, 0, 0, 0⟩] := by
  obtain ⟨b1, b2, _, _⟩ := ag_bounds h small
  have c0 := (h 0).k; have c1 := (h 1).k
  have f0 : isC (n 0) = true := isC_4 (by omega) (by omega)
  have f1 : isC (n 1) = true := isC_4 (by omega) (by omega)
  refine ofP_rd (m_rd (noD.cons (by cases small <;> rfl)) small (h 0) (h 1) fun L1 y1 e1 s1 k1 l1 d1 p1 => ?_)
  refine go_rd (noD.cons (by cases small <;> rfl)) (cH small) LH d1 (by cases small <;> rfl) (by cases small <;> rfl) k1 (by unfold followsK; rw [e1]; rfl) rfl (gnOk_cons p_nil (h 2).b gnOk_nil) sep_0 (by omega) (P' := penL (penM (n 0) (n 1)) (rl small (n 0) (n 2)) (n 1)) (fun y' g1 g2 g3 => ?_) fun L2 y2 e2 s2 k2 l2 d2 p2 => ?_
  · have hs : y'.s = small := by rw [g2]; cases small <;> rfl
    have := h_draw (P := penM (n 0) (n 1)) (small := small) (x := n 2) (by simp [penM]) g1 hs g3 f0 f1 (by rw [co_0]; exact b1)
    rw [co_0] at this
    exact this
  refine go_rd noD.nil (cV small) LV d2 (by cases small <;> rfl) (by cases small <;> rfl) k2 (by unfold followsK; rw [e2]; rfl) rfl (gnOk_cons p_nil (h 3).b gnOk_nil) sep_0 (by omega) (P' := penL (penL (penM (n 0) (n 1)) (rl small (n 0) (n 2)) (n 1)) (rl small (n 0) (n 2)) (rl small (n 1) (n 3))) (fun y' g1 g2 g3 => ?_) fun L3 y3 e3 s3 k3 l3 d3 p3 => ?_
  · have hs : y'.s = small := by rw [g2]; cases small <;> rfl
    have := v_draw (P := penL (penM (n 0) (n 1)) (rl small (n 0) (n 2)) (n 1)) (small := small) (x := n 3) (by simp [penM, penL]) g1 hs g3 b1 f1 (by rw [co_1]; exact b2)
    rw [co_1] at this
    exact this
  exact rd_end d3 k3 (by rw [e3]; decide) rfl
end

/-! ### Mirrored control points -/
/-- The letter ahead, its numbers, its part. -/
def mqA (n : Nat → Int) (j : Nat) : List Gn := if j = 0 then [([], n 0), ([32], n 1), ([32], n 2), ([32], n 3), ([32], n 4), ([32], n 5)] else if j = 1 then [([], n 2), ([32], n 3), ([32], n 4), ([32], n 5)] else [([], n 4), ([32], n 5)]
def mcA (j : Nat) : UInt8 := if j = 0 then 67 else if j = 1 then 81 else 76
def mlA (j : Nat) : Lt := if j = 0 then LC else if j = 1 then LQ else LL
def msA (n : Nat → Int) (j : Nat) : Sg := if j = 0 then ⟨4, n 0, n 1, n 2, n 3, n 4, n 5, 0⟩ else if j = 1 then ⟨3, n 2, n 3, n 4, n 5, 0, 0, 0⟩ else ⟨2, n 4, n 5, 0, 0, 0, 0, 0⟩
def mqZ (n : Nat → Int) (t : Bool) : List Gn := if t then [([], n 6), ([32], n 7)] else [([], 1), ([32], 2), ([32], n 6), ([32], n 7)]
def mcZ (t : Bool) : UInt8 := if t then 84 else 83
def mlZ (t : Bool) : Lt := if t then LT' else LS
def mir (j : Nat) (t : Bool) : Bool := (decide (j = 0) && !t) || (decide (j = 1) && t)
def mX (n : Nat → Int) (j : Nat) (t : Bool) : Int := if mir j t then 2 * n 4 - n 2 else n 4
def mY (n : Nat → Int) (j : Nat) (t : Bool) : Int := if mir j t then 2 * n 5 - n 3 else n 5
def msZ (n : Nat → Int) (j : Nat) (t : Bool) : Sg := if t then ⟨3, mX n j t, mY n j t, n 6, n 7, 0, 0, 0⟩ else ⟨4, mX n j t, mY n j t, 1, 2, n 6, n 7, 0⟩
def mirT (n : Nat → Int) (j : Nat) (t : Bool) : List UInt8 := 77 :: (gnB (qs0 0 0) ++ (mcA j :: (gnB (mqA n j) ++ (mcZ t :: (gnB (mqZ n t) ++ [])))))
theorem of_mir {n : Nat → Int} (h : ∀ i, i16 (n i)) {j : Nat} (hj : j < 3) (t : Bool) : ofP (mirT n j t) = .ok [⟨1, 0, 0, 0, 0, 0, 0, 0⟩, msA n j, msZ n j t] := by
  have g0 := (h 0).k; have g1 := (h 1).k; have g2 := (h 2).k; have g3 := (h 3).k; have g4 := (h 4).k; have g5 := (h 5).k; have g6 := (h 6).k; have g7 := (h 7).k
  have c0 : isC (n 0) = true := isC_4 (by omega) (by omega)
  have c1 : isC (n 1) = true := isC_4 (by omega) (by omega)
  have c2 : isC (n 2) = true := isC_4 (by omega) (by omega)
  have c3 : isC (n 3) = true := isC_4 (by omega) (by omega)
  have c4 : isC (n 4) = true := isC_4 (by omega) (by omega)
  have c5 : isC (n 5) = true := isC_4 (by omega) (by omega)
  have c6 : isC (n 6) = true := isC_4 (by omega) (by omega)
  have c7 : isC (n 7) = true := isC_4 (by omega) (by omega)
  have cx : isC (2 * n 4 - n 2) = true := isC_4 (by omega) (by omega)
  have cy : isC (2 * n 5 - n 3) = true := isC_4 (by omega) (by omega)
  have u1 : isC 1 = true := rfl
  have u2 : isC 2 = true := rfl
  refine ofP_rd (m_rd (small := false) (x := 0) (y := 0) (noD.cons ?_) ⟨by decide, by decide⟩ ⟨by decide, by decide⟩ fun L1 y1 e1 s1 k1 l1 d1 p1 => ?_)
  · unfold mcA; split; · rfl
    split <;> rfl
  refine go_rd (noD.cons (by cases t <;> rfl)) (mcA j) (mlA j) (P' := ⟨[⟨1, 0, 0, 0, 0, 0, 0, 0⟩, msA n j], n 4, n 5, 0, 0⟩) d1 ?_ ?_ k1 ?_ ?_ ?_ ?_ (by omega) (fun y' g1 g2 g3 => ?_) fun L2 y2 e2 s2 k2 l2 d2 p2 => ?_
  · unfold mcA; split; · rfl
    split <;> rfl
  · unfold mcA mlA; split; · rfl
    split <;> rfl
  · unfold followsK; rw [e1]; rcases (by omega : j = 0 ∨ j = 1 ∨ j = 2) with rfl | rfl | rfl <;> rfl
  · unfold mqA mlA; split; · rfl
    split <;> rfl
  · unfold mqA
    split
    · exact gnOk_cons p_nil (h 0).b (gnOk_cons p_32 (h 1).b (gnOk_cons p_32 (h 2).b (gnOk_cons p_32 (h 3).b (gnOk_cons p_32 (h 4).b (gnOk_cons p_32 (h 5).b gnOk_nil)))))
    split
    · exact gnOk_cons p_nil (h 2).b (gnOk_cons p_32 (h 3).b (gnOk_cons p_32 (h 4).b (gnOk_cons p_32 (h 5).b gnOk_nil)))
    · exact gnOk_cons p_nil (h 4).b (gnOk_cons p_32 (h 5).b gnOk_nil)
  · unfold mqA gnSep
    repeat' split
    all_goals simp
  · rcases (by omega : j = 0 ∨ j = 1 ∨ j = 2) with rfl | rfl | rfl
    · exact drawP_of (s := msA n 0) (x := LC) g1 g2 g3 (by simp [penM]) rfl rfl (by simp [numsV, numV, coordP, mqA, msA, firstP, isSm, mcA, Sg.set, c0, c1, c2, c3, c4, c5])
    · exact drawP_of (s := msA n 1) (x := LQ) g1 g2 g3 (by simp [penM]) rfl rfl (by simp [numsV, numV, coordP, mqA, msA, firstP, isSm, mcA, Sg.set, c2, c3, c4, c5])
    · exact drawP_of (s := msA n 2) (x := LL) g1 g2 g3 (by simp [penM]) rfl rfl (by simp [numsV, numV, coordP, mqA, msA, firstP, isSm, mcA, Sg.set, c4, c5])
  refine go_rd noD.nil (mcZ t) (mlZ t) (P' := moveP ⟨[⟨1, 0, 0, 0, 0, 0, 0, 0⟩, msA n j, msZ n j t], n 4, n 5, 0, 0⟩ (msZ n j t) (mlZ t).p) d2 (by cases t <;> rfl) (by cases t <;> rfl) k2 ?_ (by cases t <;> rfl) ?_ ?_ (by omega) (fun y' g1 g2 g3 => ?_) fun L3 y3 e3 s3 k3 l3 d3 p3 => ?_
  · unfold followsK; rw [e2]; rcases (by omega : j = 0 ∨ j = 1 ∨ j = 2) with rfl | rfl | rfl <;> cases t <;> rfl
  · cases t
    · exact gnOk_cons p_nil bd_1 (gnOk_cons p_32 bd_2 (gnOk_cons p_32 (h 6).b (gnOk_cons p_32 (h 7).b gnOk_nil)))
    · exact gnOk_cons p_nil (h 6).b (gnOk_cons p_32 (h 7).b gnOk_nil)
  · cases t <;> simp [mqZ, gnSep]
  · rcases (by omega : j = 0 ∨ j = 1 ∨ j = 2) with rfl | rfl | rfl <;> cases t
    all_goals
      refine drawP_of (s := msZ n _ _) g1 g2 g3 (by simp) ?_ ?_ ?_
      · simp [firstP, lastK, mlZ, msA, Sg.get, cx, c4]
      · simp [firstP, lastK, mlZ, msA, Sg.get, cy, c5]
      · simp [numsV, numV, coordP, mqZ, msZ, mX, mY, mir, mlZ, firstP, lastK, msA, Sg.get, isSm, mcZ, Sg.set, c6, c7, u1, u2]
  · exact rd_end d3 k3 (by rw [e3]; cases t <;> decide) (by rw [moveP_l])
end Go.Proofs.YtnapannphldglaaDoor
