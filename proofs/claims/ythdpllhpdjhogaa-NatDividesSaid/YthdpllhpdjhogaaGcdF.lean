/- nat.Gcd: the greatest number that divides both, or the other one, if one is 0. -/
import Derived.Test.YthdpllhpdjhogaaGcdE
namespace Go.Proofs.Ythdpllhpdjhogaa
open Go.RowKit

/-- The number that a slice's value holds, read off the memory. -/
def rdVal (w : World) : Value → Nat
  | .slice (some a) n _ => val B64 ((List.range n).map fun i => match w.cell? (a.add i) with | some (.int _ x) => x.toNat | _ => 0)
  | _ => 0
theorem rdVal_eq {w : World} {A : Option Addr} {n c : Nat} {l : List Nat} (h : Rd .u64 w A n l) : rdVal w (.slice A n c) = val B64 l := by
  rcases Nat.eq_zero_or_pos n with h0 | h0
  · subst h0
    have : l = [] := List.eq_nil_of_length_eq_zero h.1
    subst this
    cases A <;> simp [rdVal]
  · obtain ⟨b, o, rfl, hc⟩ := h.2 h0
    show val B64 _ = _
    congr 1
    apply List.ext_getElem
    · simp [h.1]
    · intro i h1 h2
      simp only [List.getElem_map, List.getElem_range, add_at]
      rw [hc i _ (List.getElem?_eq_getElem h2)]
      simp

/-- What the loop of Gcd keeps: two numbers, each in memory of the call's own, V not above U, with the same common divisors as at first. -/
def GState (w0 wr : World) (G : Nat) (A : Option Addr) (n c : Nat) (A' : Option Addr) (n' c' : Nat) (U V : Nat) : Prop :=
  Fr .u64 34 wr w0.heap.size A n c (limbs B64 U) ∧ Fr .u64 34 wr w0.heap.size A' n' c' (limbs B64 V) ∧ n ≤ c ∧ c ≤ maxLen ∧ n' ≤ c' ∧ c' ≤ maxLen ∧ n ≤ 35184372088830 ∧
    (∀ a a', A = some a → A' = some a' → a.block ≠ a'.block) ∧ Hid (V ≤ U ∧ Nat.gcd U V = G)

theorem Fr.len0 {w : World} {B n c V : Nat} {A : Option Addr} (h : Fr .u64 34 w B A n c (limbs B64 V)) (hn : n = 0) : V = 0 := by
  have := h.1
  exact (limbs_eq_nil B64_two).1 (List.eq_nil_of_length_eq_zero (by omega))
theorem Fr.len1 {w : World} {B n c V : Nat} {A : Option Addr} (h : Fr .u64 34 w B A n c (limbs B64 V)) (hn : n = 1) : V < B64 ∧ V ≠ 0 ∧ limbs B64 V = [V] := by
  have hl := h.1
  have h1 := lt_pow_limbs B64_two V
  rw [hl, hn, Nat.pow_one] at h1
  have h0 : V ≠ 0 := by
    intro e; subst e; rw [limbs_zero] at hl; simp at hl; omega
  exact ⟨h1, h0, limbs_small B64_two h1 h0⟩

theorem Fr.baseg {K : IntKind} {e : TypeId} {w : World} {B n c : Nat} {A : Option Addr} {l : List Nat} (h : Fr K e w B A n c l) : ∀ ad, A = some ad → B ≤ ad.block := by
  intro ad hA
  rcases h.2.2 with ⟨h2, _⟩ | ⟨g, cap, cur, hv, hg, r⟩
  · subst hA; cases h2
  · subst hA
    injection hv with ha
    injection ha with ha
    subst ha
    exact hg

theorem Own.fr {w : World} {g B n : Nat} {L : List Nat} (h : Own .u64 34 w g L) (hB : B ≤ g) (hn : L.length = n) (hm : n ≤ maxLen) : Fr .u64 34 w B (some ⟨g, 0, none⟩) n n L := by
  have := Fr.of_own h hB (k := n) (by omega) (by omega)
  rwa [List.take_of_length_le (by omega), hn] at this
theorem lim_val {V : Nat} : limbs B64 (val B64 (limbs B64 V)) = limbs B64 V := by rw [val_limbs B64_two]

theorem apply_any (lx ly : List Nat) (gx gy n m c d u0 v0 u1 v1 B X Y : Nat) (ev : Bool) (w : World) (hx : Fr .u64 34 w B (some ⟨gx, 0, none⟩) n c lx) (hy : Fr .u64 34 w B (some ⟨gy, 0, none⟩) m d ly) (hne : gx ≠ gy) (hgx : B ≤ gx) (hgy : B ≤ gy) (hB : B ≤ w.heap.size)
    (Lx : Lim B64 lx) (Ly : Lim B64 ly) (hu0 : u0 < B64) (hv0 : v0 < B64) (hu1 : u1 < B64) (hv1 : v1 < B64) (hm : m ≤ n) (hn : n ≤ 35184372088830) (hnc : n ≤ c) (hmd : m ≤ d) (hc : c ≤ maxLen) (hd : d ≤ maxLen)
    (hst : Steps (val B64 lx) (val B64 ly) u0 v0 u1 v1 ev X Y) :
    Calls Try.prog 56 #[.agg #[.int .u64 (u0 : Int), .int .u64 (v0 : Int), .int .u64 (u1 : Int), .int .u64 (v1 : Int), .bool ev], .slice (some ⟨gx, 0, none⟩) n c, .slice (some ⟨gy, 0, none⟩) m d] w (GivesAB w B X Y) := by
  cases ev
  · exact apply_odd lx ly gx gy n m c d u0 v0 u1 v1 B X Y w hx hy hne hgx hgy hB Lx Ly hu0 hv0 hu1 hv1 hm hn hnc hmd hc hd hst
  · exact apply_even lx ly gx gy n m c d u0 v0 u1 v1 B X Y w hx hy hne hgx hgy hB Lx Ly hu0 hv0 hu1 hv1 hm hn hnc hmd hc hd hst

set_option maxRecDepth 100000 in
set_option maxHeartbeats 2000000 in
theorem gcd_any (la lb : List Nat) (A B : Option Addr) (n c m d : Nat) (w : World) (ha : Rd .u64 w A n la) (hb : Rd .u64 w B m lb) (La : Lim B64 la) (Lb : Lim B64 lb) (hn0 : n ≤ 35184372088830) (hm0 : m ≤ 35184372088830)
    (hnc : n ≤ c) (hmd : m ≤ d) :
    Calls Try.prog 26 #[.slice A n c, .slice B m d] w (GivesS .u64 34 w (limbs B64 (Nat.gcd (val B64 la) (val B64 lb)))) := by
  have HN : Hid (n ≤ maxLen ∧ m ≤ maxLen) := ⟨by unfold maxLen; omega, by unfold maxLen; omega⟩
  generalize hU : val B64 la = U
  generalize hV : val B64 lb = V
  have LX : Lim B64 (limbs B64 U) := lim_limbs B64_two _
  have LY : Lim B64 (limbs B64 V) := lim_limbs B64_two _
  have HC : Hid (cmpN (val B64 (limbs B64 U)) (val B64 (limbs B64 V)) = cmpN U V) := by show _ = _; rw [val_limbs B64_two, val_limbs B64_two]
  have HU := Lib.hid hU
  have HV := Lib.hid hV
  clear hU hV
  by_cases hlt : U < V
  · have hcm : decide (cmpN U V < 0) = true := by rw [cmpN_lt hlt]; rfl
    go_enter Try.func26, Try.ntmps26
    go_wp2_with (first
      | (go_at_call 43; (with_reducible refine (trim_any la A n c w ha La HN.out.1 hnc).mono ?_); rintro e w' ⟨⟨k, hk, rfl, hka⟩, rfl⟩; rw [HU.out] at hka)
      | (go_at_call 44; (with_reducible refine (fresh_any (limbs B64 U) A k c w hka (by omega)).mono ?_); rintro e w1 ⟨rfl, hown1, hb1⟩)
      | (go_at_call 43; (with_reducible refine (trim_any lb B m d w1 (hb.below hb1) Lb HN.out.2 hmd).mono ?_); rintro e w' ⟨⟨k2, hk2, rfl, hkb⟩, rfl⟩; rw [HV.out] at hkb)
      | (go_at_call 44; (with_reducible refine (fresh_any (limbs B64 V) B k2 d w1 hkb (by omega)).mono ?_); rintro e w2 ⟨rfl, hown2, hb2⟩
         have hown1' := hown1.below hb2 hown1.lt)
      | (go_at_call 21; (refine (cmp_any (limbs B64 U) (limbs B64 V) _ _ k k k2 k2 w2 (hown1'.rd hka.1 (fun j x hx => by simpa using hx)) (hown2.rd hkb.1 (fun j x hx => by simpa using hx)) LX LY (by have := HN.out; omega) (by have := HN.out; omega) (Nat.le_refl _) (Nat.le_refl _)).mono ?_); rintro e w' ⟨rfl, q, rfl⟩; rw [HC.out]))
    go_loopw [5, 6] (fun tx ty wr => ∃ (X : Option Addr) (nx cx : Nat) (Y : Option Addr) (ny cy u v : Nat), tx = .slice X nx cx ∧ ty = .slice Y ny cy ∧ GState w wr (Nat.gcd U V) X nx cx Y ny cy u v ∧ Below w.heap.size w wr) (fun _ ty wr => rdVal wr ty)
    case atStart =>
      have hz : (w2.drewN q).heap.size = w2.heap.size := rfl
      refine ⟨some ⟨w1.heap.size, 0, none⟩, k2, k2, some ⟨w.heap.size, 0, none⟩, k, k, V, U, rfl, rfl, ⟨?_, ?_, Nat.le_refl _, by have := HN.out; omega, Nat.le_refl _, by have := HN.out; omega, by omega, ?_, ⟨by omega, Nat.gcd_comm _ _⟩⟩, ?_⟩
      · exact (show Own .u64 34 (w2.drewN q) w1.heap.size (limbs B64 V) from hown2).fr hb1.size hkb.1 (by have := HN.out; omega)
      · exact (show Own .u64 34 (w2.drewN q) w.heap.size (limbs B64 U) from hown1').fr (Nat.le_refl _) hka.1 (by have := HN.out; omega)
      · intro a a' h1 h2
        cases h1; cases h2
        exact Nat.ne_of_gt hown1.lt
      · exact below_drawn (hb1.trans (hb2.mono hb1.size)) q
    case round =>
      clear hown1 hown2 hown1' hka hkb hb1 hb2
      obtain ⟨X, nx, cx, Y, ny, cy, u, v, rfl, rfl, ⟨fx, fy, e1, e2, e3, e4, e5, e6, HG⟩, hbw⟩ := hrel
      have rx := fx.rd
      have ry := fy.rd
      have HLX := Lib.hid fx.1
      have HLY := Lib.hid fy.1
      have hnyx : ny ≤ nx := by
        have := length_limbs_mono B64_two HG.out.1
        have := HLX.out
        have := HLY.out
        omega
      by_cases hny : 1 < ny
      · go_wp2_with fail
        refine (foresee_any (limbs B64 u) (limbs B64 v) X Y nx cx ny cy _ rx ry (lim_limbs B64_two _) (lim_limbs B64_two _) lim_val (by omega) hnyx e5 (by rw [val_limbs B64_two, val_limbs B64_two]; exact HG.out.1)).mono ?_
        rintro e wf ⟨⟨u0, v0, u1, v1, ev, rfl, b0, b1, b2, b3, hsteps⟩, hbf⟩
        rw [val_limbs B64_two, val_limbs B64_two] at hsteps
        have hbwf : Below w.heap.size w wf := hbw.trans (hbf.mono hbw.size)
        by_cases hv0 : v0 = 0
        · subst hv0
          clear hsteps
          have fx1 := fx.below hbf (Nat.le_refl _)
          have fy1 := fy.below hbf (Nat.le_refl _)
          have hbg : Below w.heap.size w (wf.alloc (.cells #[.int .u64 (u0 : Int), .int .u64 ((0 : Nat) : Int), .int .u64 (u1 : Int), .int .u64 (v1 : Int), .bool ev] tSteps)) := hbwf.alloc hbwf.size _
          have fx2 := fx1.below (B' := wf.heap.size) ((Below.refl _ _).alloc (Nat.le_refl _) (.cells #[.int .u64 (u0 : Int), .int .u64 ((0 : Nat) : Int), .int .u64 (u1 : Int), .int .u64 (v1 : Int), .bool ev] tSteps)) (Nat.le_refl _)
          have fy2 := fy1.below (B' := wf.heap.size) ((Below.refl _ _).alloc (Nat.le_refl _) (.cells #[.int .u64 (u0 : Int), .int .u64 ((0 : Nat) : Int), .int .u64 (u1 : Int), .int .u64 (v1 : Int), .bool ev] tSteps)) (Nat.le_refl _)
          have hvne : Hid (val B64 (limbs B64 v) ≠ 0) := by
            show _ ≠ _
            rw [val_limbs B64_two]
            intro h0
            have := HLY.out
            rw [h0, limbs_zero] at this
            simp at this
            omega
          obtain ⟨gy, rfl, hgy, hgy2⟩ := fy.own (by omega)
          go_wp2_with (first
            | (go_at_call 24
               refine (divmod_any (limbs B64 u) (limbs B64 v) X _ nx cx ny cy _ fx2.rd fy2.rd (lim_limbs B64_two _) (lim_limbs B64_two _) e5 (by omega) e1 e3 hvne.out).mono ?_
               rw [val_limbs B64_two, val_limbs B64_two]
               rintro e w7 ⟨Aq, nq, cq, Ar, nr, cr, rfl, p1, p2, p3, p4, p5, p6, p7⟩))
          go_roundw
          case rel =>
            have hs1 : (wf.alloc (.cells #[.int .u64 (u0 : Int), .int .u64 ((0 : Nat) : Int), .int .u64 (u1 : Int), .int .u64 (v1 : Int), .bool ev] tSteps)).heap.size = wf.heap.size + 1 := by simp
            have hs2 := hbf.size
            refine ⟨_, _, _, _, _, _, v, u % v, rfl, rfl, ⟨fy2.below p7 (Nat.le_refl _), p6.more hbg.size, e3, e4, p3, p4, by omega, ?_, ?_⟩, hbg.trans (p7.mono hbg.size)⟩
            · intro a a' h1 h2
              cases h1
              have := Fr.baseg p6 a' h2
              rw [hs1] at this
              show gy ≠ a'.block
              omega
            · refine ⟨Nat.le_of_lt (Nat.mod_lt _ ?_), ?_⟩
              · have := hvne.out; rw [val_limbs B64_two] at this; omega
              · rw [← HG.out.2, Nat.gcd_comm v, ← Nat.gcd_rec, Nat.gcd_comm]
          case measure =>
            rw [rdVal_eq p6.rd, rdVal_eq ry, val_limbs B64_two, val_limbs B64_two]
            refine Nat.mod_lt _ ?_
            have := hvne.out; rw [val_limbs B64_two] at this; omega
        · have hne0 : ((v0 : Int) != 0) = true := by simp; omega
          obtain ⟨X', Y', hst⟩ := hsteps hv0
          obtain ⟨gx, rfl, hgx, hgx2⟩ := fx.own (by omega)
          obtain ⟨gy, rfl, hgy, hgy2⟩ := fy.own (by omega)
          have hgne : gx ≠ gy := e6 _ _ rfl rfl
          have fx1 := fx.below hbf (Nat.le_refl _)
          have fy1 := fy.below hbf (Nat.le_refl _)
          have hbg : Below w.heap.size w (wf.alloc (.cells #[.int .u64 (u0 : Int), .int .u64 (v0 : Int), .int .u64 (u1 : Int), .int .u64 (v1 : Int), .bool ev] tSteps)) := hbwf.alloc hbwf.size _
          have fx2 := fx1.below (B' := wf.heap.size) ((Below.refl _ _).alloc (Nat.le_refl _) (.cells #[.int .u64 (u0 : Int), .int .u64 (v0 : Int), .int .u64 (u1 : Int), .int .u64 (v1 : Int), .bool ev] tSteps)) (Nat.le_refl _)
          have fy2 := fy1.below (B' := wf.heap.size) ((Below.refl _ _).alloc (Nat.le_refl _) (.cells #[.int .u64 (u0 : Int), .int .u64 (v0 : Int), .int .u64 (u1 : Int), .int .u64 (v1 : Int), .bool ev] tSteps)) (Nat.le_refl _)
          have HST : Hid (Y' < X' ∧ X' ≤ v ∧ Nat.gcd X' Y' = Nat.gcd u v) := ⟨hst.2.1, hst.2.2.1, hst.2.2.2⟩
          have hst2 : Steps (val B64 (limbs B64 u)) (val B64 (limbs B64 v)) u0 v0 u1 v1 ev X' Y' := by rw [val_limbs B64_two, val_limbs B64_two]; exact hst
          have HS2 := Lib.hid hst2
          clear hst hst2 hsteps
          go_wp2_with (first
            | (go_at_call 56
               refine (apply_any (limbs B64 u) (limbs B64 v) gx gy nx ny cx cy u0 v0 u1 v1 w.heap.size X' Y' ev _ fx2 fy2 hgne hgx hgy hbg.size (lim_limbs B64_two _) (lim_limbs B64_two _) b0 b1 b2 b3 hnyx e5 e1 e3 e2 e4 HS2.out).mono ?_
               rintro e w7 ⟨g1, k1, c1, g2, k2', c2, rfl, q1, q2, q3, q4, q5, q6, q7, q8⟩))
          go_roundw
          case rel =>
            have hl1 : k1 ≤ ny := by
              have h1 := length_limbs_mono B64_two HST.out.2.1
              have h2 := q6.1
              have h3 := HLY.out
              omega
            exact ⟨_, _, _, _, _, _, X', Y', rfl, rfl, ⟨q6, q7, q2, q3, q4, q5, by omega, (fun a a' h1 h2 => by cases h1; cases h2; exact q1), ⟨Nat.le_of_lt HST.out.1, by rw [HST.out.2.2]; exact HG.out.2⟩⟩, hbg.trans (q8.mono (Nat.le_refl _))⟩
          case measure =>
            rw [rdVal_eq q7.rd, rdVal_eq ry, val_limbs B64_two, val_limbs B64_two]
            have := HST.out
            omega
      · by_cases hny0 : ny = 0
        · subst hny0
          obtain rfl : v = 0 := fy.len0 rfl
          have HG0 := HG.out.2
          rw [Nat.gcd_zero_right] at HG0
          have HGG := Lib.hid HG0
          clear HG0
          go_wp2_with fail
          go_ret
          rw [← HGG.out]
          exact ⟨_, _, _, rfl, e1, e2, fx, hbw⟩
        · obtain rfl : ny = 1 := by omega
          obtain ⟨hvB, hv0, hvl⟩ := fy.len1 rfl
          obtain ⟨gy, rfl, hgy, hgy2⟩ := fy.own (by omega)
          have hcy : wr.cell? ⟨gy, 0, none⟩ = some (.int .u64 (v : Int)) := by
            obtain ⟨b', o', e0, hc0⟩ := ry.2 (by omega)
            cases e0
            exact hc0 0 v (by rw [hvl]; rfl)
          have hcy2 : wr.drew.cell? ⟨gy, 0, none⟩ = some (.int .u64 (v : Int)) := hcy
          have HVL := Lib.hid hvl
          have hv1 : 0 < v := by omega
          have hoff : ∀ a, X = some a → a.block ≠ gy := fun a h => e6 a _ h rfl
          clear hvl
          go_wp2_with fail
          go_region_held3 (fun w' => w'.cell? ⟨gy, 0, none⟩ = some (.int .u64 (v : Int)))
            (first | with_reducible exact hcy | with_reducible exact hcy2 | with_reducible exact hcy3 | with_reducible exact hcy4 | with_reducible exact hcy5)
            (first
              | (go_at_call 51; (refine (byLimb_fr (limbs B64 u) v nx cx w.heap.size X wr.drew (show Fr .u64 34 wr.drew w.heap.size X nx cx (limbs B64 u) from fx) (lim_limbs B64_two _) hv1 hvB (by omega)).mono ?_); rintro e w7 ⟨rfl, _, hb7, hoth7⟩
                 rw [val_limbs B64_two]
                 have hb7sz : wr.heap.size ≤ w7.heap.size := hb7.size
                 have hcy3 : w7.cell? ⟨gy, 0, none⟩ = some (.int .u64 (v : Int)) := (World.cell?_of_block (hoth7 gy hoff)).trans hcy2)
              | (go_at_call 57; (refine (limbGcd_any v (u % v) w7 hvB (Nat.lt_trans (Nat.mod_lt _ hv1) hvB)).mono ?_); rintro e w8 ⟨rfl, q8, rfl⟩
                 have hcy4 : (w7.drewN q8).cell? ⟨gy, 0, none⟩ = some (.int .u64 (v : Int)) := hcy3)
              | (go_at_call 36; (refine (of_any (Nat.gcd v (u % v)) (Nat.lt_of_le_of_lt (Nat.gcd_le_left _ hv1) hvB) (w7.drewN q8)).mono ?_); rintro e w9 ⟨A9, n9, c9, rfl, o1, o2, o3, o4⟩
                 have hcy5 : w9.cell? ⟨gy, 0, none⟩ = some (.int .u64 (v : Int)) := (o4.cell (p := ⟨gy, 0, none⟩) (Nat.lt_of_lt_of_le hgy2 hb7sz)).trans hcy4))
          go_wp2
          go_ret
          have hgcd : Nat.gcd v (u % v) = Nat.gcd U V := by rw [← HG.out.2, Nat.gcd_comm v, ← Nat.gcd_rec, Nat.gcd_comm]
          rw [hgcd] at o3
          have hbz : Below w.heap.size w (w7.drewN q8) := below_drawn ((hbw.trans ((Below.refl _ _).drew)).trans hb7) q8
          exact ⟨A9, n9, c9, rfl, o1, o2, o3.more hbz.size, hbz.trans (o4.mono hbz.size)⟩
  · have hcm : decide (cmpN U V < 0) = false := by
      rcases Nat.lt_or_eq_of_le (Nat.not_lt.1 hlt) with h | h
      · rw [cmpN_gt h]; rfl
      · rw [cmpN_eq h.symm]; rfl
    go_enter Try.func26, Try.ntmps26
    go_wp2_with (first
      | (go_at_call 43; (with_reducible refine (trim_any la A n c w ha La HN.out.1 hnc).mono ?_); rintro e w' ⟨⟨k, hk, rfl, hka⟩, rfl⟩; rw [HU.out] at hka)
      | (go_at_call 44; (with_reducible refine (fresh_any (limbs B64 U) A k c w hka (by omega)).mono ?_); rintro e w1 ⟨rfl, hown1, hb1⟩)
      | (go_at_call 43; (with_reducible refine (trim_any lb B m d w1 (hb.below hb1) Lb HN.out.2 hmd).mono ?_); rintro e w' ⟨⟨k2, hk2, rfl, hkb⟩, rfl⟩; rw [HV.out] at hkb)
      | (go_at_call 44; (with_reducible refine (fresh_any (limbs B64 V) B k2 d w1 hkb (by omega)).mono ?_); rintro e w2 ⟨rfl, hown2, hb2⟩
         have hown1' := hown1.below hb2 hown1.lt)
      | (go_at_call 21; (refine (cmp_any (limbs B64 U) (limbs B64 V) _ _ k k k2 k2 w2 (hown1'.rd hka.1 (fun j x hx => by simpa using hx)) (hown2.rd hkb.1 (fun j x hx => by simpa using hx)) LX LY (by have := HN.out; omega) (by have := HN.out; omega) (Nat.le_refl _) (Nat.le_refl _)).mono ?_); rintro e w' ⟨rfl, q, rfl⟩; rw [HC.out]))
    go_loopw [5, 6] (fun tx ty wr => ∃ (X : Option Addr) (nx cx : Nat) (Y : Option Addr) (ny cy u v : Nat), tx = .slice X nx cx ∧ ty = .slice Y ny cy ∧ GState w wr (Nat.gcd U V) X nx cx Y ny cy u v ∧ Below w.heap.size w wr) (fun _ ty wr => rdVal wr ty)
    case atStart =>
      have hz : (w2.drewN q).heap.size = w2.heap.size := rfl
      refine ⟨some ⟨w.heap.size, 0, none⟩, k, k, some ⟨w1.heap.size, 0, none⟩, k2, k2, U, V, rfl, rfl, ⟨?_, ?_, Nat.le_refl _, by have := HN.out; omega, Nat.le_refl _, by have := HN.out; omega, by omega, ?_, ⟨by omega, rfl⟩⟩, ?_⟩
      · exact (show Own .u64 34 (w2.drewN q) w.heap.size (limbs B64 U) from hown1').fr (Nat.le_refl _) hka.1 (by have := HN.out; omega)
      · exact (show Own .u64 34 (w2.drewN q) w1.heap.size (limbs B64 V) from hown2).fr hb1.size hkb.1 (by have := HN.out; omega)
      · intro a a' h1 h2
        cases h1; cases h2
        exact Nat.ne_of_lt hown1.lt
      · exact below_drawn (hb1.trans (hb2.mono hb1.size)) q
    case round =>
      clear hown1 hown2 hown1' hka hkb hb1 hb2
      obtain ⟨X, nx, cx, Y, ny, cy, u, v, rfl, rfl, ⟨fx, fy, e1, e2, e3, e4, e5, e6, HG⟩, hbw⟩ := hrel
      have rx := fx.rd
      have ry := fy.rd
      have HLX := Lib.hid fx.1
      have HLY := Lib.hid fy.1
      have hnyx : ny ≤ nx := by
        have := length_limbs_mono B64_two HG.out.1
        have := HLX.out
        have := HLY.out
        omega
      by_cases hny : 1 < ny
      · go_wp2_with fail
        refine (foresee_any (limbs B64 u) (limbs B64 v) X Y nx cx ny cy _ rx ry (lim_limbs B64_two _) (lim_limbs B64_two _) lim_val (by omega) hnyx e5 (by rw [val_limbs B64_two, val_limbs B64_two]; exact HG.out.1)).mono ?_
        rintro e wf ⟨⟨u0, v0, u1, v1, ev, rfl, b0, b1, b2, b3, hsteps⟩, hbf⟩
        rw [val_limbs B64_two, val_limbs B64_two] at hsteps
        have hbwf : Below w.heap.size w wf := hbw.trans (hbf.mono hbw.size)
        by_cases hv0 : v0 = 0
        · subst hv0
          clear hsteps
          have fx1 := fx.below hbf (Nat.le_refl _)
          have fy1 := fy.below hbf (Nat.le_refl _)
          have hbg : Below w.heap.size w (wf.alloc (.cells #[.int .u64 (u0 : Int), .int .u64 ((0 : Nat) : Int), .int .u64 (u1 : Int), .int .u64 (v1 : Int), .bool ev] tSteps)) := hbwf.alloc hbwf.size _
          have fx2 := fx1.below (B' := wf.heap.size) ((Below.refl _ _).alloc (Nat.le_refl _) (.cells #[.int .u64 (u0 : Int), .int .u64 ((0 : Nat) : Int), .int .u64 (u1 : Int), .int .u64 (v1 : Int), .bool ev] tSteps)) (Nat.le_refl _)
          have fy2 := fy1.below (B' := wf.heap.size) ((Below.refl _ _).alloc (Nat.le_refl _) (.cells #[.int .u64 (u0 : Int), .int .u64 ((0 : Nat) : Int), .int .u64 (u1 : Int), .int .u64 (v1 : Int), .bool ev] tSteps)) (Nat.le_refl _)
          have hvne : Hid (val B64 (limbs B64 v) ≠ 0) := by
            show _ ≠ _
            rw [val_limbs B64_two]
            intro h0
            have := HLY.out
            rw [h0, limbs_zero] at this
            simp at this
            omega
          obtain ⟨gy, rfl, hgy, hgy2⟩ := fy.own (by omega)
          go_wp2_with (first
            | (go_at_call 24
               refine (divmod_any (limbs B64 u) (limbs B64 v) X _ nx cx ny cy _ fx2.rd fy2.rd (lim_limbs B64_two _) (lim_limbs B64_two _) e5 (by omega) e1 e3 hvne.out).mono ?_
               rw [val_limbs B64_two, val_limbs B64_two]
               rintro e w7 ⟨Aq, nq, cq, Ar, nr, cr, rfl, p1, p2, p3, p4, p5, p6, p7⟩))
          go_roundw
          case rel =>
            have hs1 : (wf.alloc (.cells #[.int .u64 (u0 : Int), .int .u64 ((0 : Nat) : Int), .int .u64 (u1 : Int), .int .u64 (v1 : Int), .bool ev] tSteps)).heap.size = wf.heap.size + 1 := by simp
            have hs2 := hbf.size
            refine ⟨_, _, _, _, _, _, v, u % v, rfl, rfl, ⟨fy2.below p7 (Nat.le_refl _), p6.more hbg.size, e3, e4, p3, p4, by omega, ?_, ?_⟩, hbg.trans (p7.mono hbg.size)⟩
            · intro a a' h1 h2
              cases h1
              have := Fr.baseg p6 a' h2
              rw [hs1] at this
              show gy ≠ a'.block
              omega
            · refine ⟨Nat.le_of_lt (Nat.mod_lt _ ?_), ?_⟩
              · have := hvne.out; rw [val_limbs B64_two] at this; omega
              · rw [← HG.out.2, Nat.gcd_comm v, ← Nat.gcd_rec, Nat.gcd_comm]
          case measure =>
            rw [rdVal_eq p6.rd, rdVal_eq ry, val_limbs B64_two, val_limbs B64_two]
            refine Nat.mod_lt _ ?_
            have := hvne.out; rw [val_limbs B64_two] at this; omega
        · have hne0 : ((v0 : Int) != 0) = true := by simp; omega
          obtain ⟨X', Y', hst⟩ := hsteps hv0
          obtain ⟨gx, rfl, hgx, hgx2⟩ := fx.own (by omega)
          obtain ⟨gy, rfl, hgy, hgy2⟩ := fy.own (by omega)
          have hgne : gx ≠ gy := e6 _ _ rfl rfl
          have fx1 := fx.below hbf (Nat.le_refl _)
          have fy1 := fy.below hbf (Nat.le_refl _)
          have hbg : Below w.heap.size w (wf.alloc (.cells #[.int .u64 (u0 : Int), .int .u64 (v0 : Int), .int .u64 (u1 : Int), .int .u64 (v1 : Int), .bool ev] tSteps)) := hbwf.alloc hbwf.size _
          have fx2 := fx1.below (B' := wf.heap.size) ((Below.refl _ _).alloc (Nat.le_refl _) (.cells #[.int .u64 (u0 : Int), .int .u64 (v0 : Int), .int .u64 (u1 : Int), .int .u64 (v1 : Int), .bool ev] tSteps)) (Nat.le_refl _)
          have fy2 := fy1.below (B' := wf.heap.size) ((Below.refl _ _).alloc (Nat.le_refl _) (.cells #[.int .u64 (u0 : Int), .int .u64 (v0 : Int), .int .u64 (u1 : Int), .int .u64 (v1 : Int), .bool ev] tSteps)) (Nat.le_refl _)
          have HST : Hid (Y' < X' ∧ X' ≤ v ∧ Nat.gcd X' Y' = Nat.gcd u v) := ⟨hst.2.1, hst.2.2.1, hst.2.2.2⟩
          have hst2 : Steps (val B64 (limbs B64 u)) (val B64 (limbs B64 v)) u0 v0 u1 v1 ev X' Y' := by rw [val_limbs B64_two, val_limbs B64_two]; exact hst
          have HS2 := Lib.hid hst2
          clear hst hst2 hsteps
          go_wp2_with (first
            | (go_at_call 56
               refine (apply_any (limbs B64 u) (limbs B64 v) gx gy nx ny cx cy u0 v0 u1 v1 w.heap.size X' Y' ev _ fx2 fy2 hgne hgx hgy hbg.size (lim_limbs B64_two _) (lim_limbs B64_two _) b0 b1 b2 b3 hnyx e5 e1 e3 e2 e4 HS2.out).mono ?_
               rintro e w7 ⟨g1, k1, c1, g2, k2', c2, rfl, q1, q2, q3, q4, q5, q6, q7, q8⟩))
          go_roundw
          case rel =>
            have hl1 : k1 ≤ ny := by
              have h1 := length_limbs_mono B64_two HST.out.2.1
              have h2 := q6.1
              have h3 := HLY.out
              omega
            exact ⟨_, _, _, _, _, _, X', Y', rfl, rfl, ⟨q6, q7, q2, q3, q4, q5, by omega, (fun a a' h1 h2 => by cases h1; cases h2; exact q1), ⟨Nat.le_of_lt HST.out.1, by rw [HST.out.2.2]; exact HG.out.2⟩⟩, hbg.trans (q8.mono (Nat.le_refl _))⟩
          case measure =>
            rw [rdVal_eq q7.rd, rdVal_eq ry, val_limbs B64_two, val_limbs B64_two]
            have := HST.out
            omega
      · by_cases hny0 : ny = 0
        · subst hny0
          obtain rfl : v = 0 := fy.len0 rfl
          have HG0 := HG.out.2
          rw [Nat.gcd_zero_right] at HG0
          have HGG := Lib.hid HG0
          clear HG0
          go_wp2_with fail
          go_ret
          rw [← HGG.out]
          exact ⟨_, _, _, rfl, e1, e2, fx, hbw⟩
        · obtain rfl : ny = 1 := by omega
          obtain ⟨hvB, hv0, hvl⟩ := fy.len1 rfl
          obtain ⟨gy, rfl, hgy, hgy2⟩ := fy.own (by omega)
          have hcy : wr.cell? ⟨gy, 0, none⟩ = some (.int .u64 (v : Int)) := by
            obtain ⟨b', o', e0, hc0⟩ := ry.2 (by omega)
            cases e0
            exact hc0 0 v (by rw [hvl]; rfl)
          have hcy2 : wr.drew.cell? ⟨gy, 0, none⟩ = some (.int .u64 (v : Int)) := hcy
          have HVL := Lib.hid hvl
          have hv1 : 0 < v := by omega
          have hoff : ∀ a, X = some a → a.block ≠ gy := fun a h => e6 a _ h rfl
          clear hvl
          go_wp2_with fail
          go_region_held3 (fun w' => w'.cell? ⟨gy, 0, none⟩ = some (.int .u64 (v : Int)))
            (first | with_reducible exact hcy | with_reducible exact hcy2 | with_reducible exact hcy3 | with_reducible exact hcy4 | with_reducible exact hcy5)
            (first
              | (go_at_call 51; (refine (byLimb_fr (limbs B64 u) v nx cx w.heap.size X wr.drew (show Fr .u64 34 wr.drew w.heap.size X nx cx (limbs B64 u) from fx) (lim_limbs B64_two _) hv1 hvB (by omega)).mono ?_); rintro e w7 ⟨rfl, _, hb7, hoth7⟩
                 rw [val_limbs B64_two]
                 have hb7sz : wr.heap.size ≤ w7.heap.size := hb7.size
                 have hcy3 : w7.cell? ⟨gy, 0, none⟩ = some (.int .u64 (v : Int)) := (World.cell?_of_block (hoth7 gy hoff)).trans hcy2)
              | (go_at_call 57; (refine (limbGcd_any v (u % v) w7 hvB (Nat.lt_trans (Nat.mod_lt _ hv1) hvB)).mono ?_); rintro e w8 ⟨rfl, q8, rfl⟩
                 have hcy4 : (w7.drewN q8).cell? ⟨gy, 0, none⟩ = some (.int .u64 (v : Int)) := hcy3)
              | (go_at_call 36; (refine (of_any (Nat.gcd v (u % v)) (Nat.lt_of_le_of_lt (Nat.gcd_le_left _ hv1) hvB) (w7.drewN q8)).mono ?_); rintro e w9 ⟨A9, n9, c9, rfl, o1, o2, o3, o4⟩
                 have hcy5 : w9.cell? ⟨gy, 0, none⟩ = some (.int .u64 (v : Int)) := (o4.cell (p := ⟨gy, 0, none⟩) (Nat.lt_of_lt_of_le hgy2 hb7sz)).trans hcy4))
          go_wp2
          go_ret
          have hgcd : Nat.gcd v (u % v) = Nat.gcd U V := by rw [← HG.out.2, Nat.gcd_comm v, ← Nat.gcd_rec, Nat.gcd_comm]
          rw [hgcd] at o3
          have hbz : Below w.heap.size w (w7.drewN q8) := below_drawn ((hbw.trans ((Below.refl _ _).drew)).trans hb7) q8
          exact ⟨A9, n9, c9, rfl, o1, o2, o3.more hbz.size, hbz.trans (o4.mono hbz.size)⟩
end Go.Proofs.Ythdpllhpdjhogaa
