/- zed.Text (16 limbs at most), zed.Cmp, zed.Good. -/
import Derived.Test.YtflcgeehpboldaaZedD
namespace Go.Proofs.Ytflcgeehpboldaa
open Go.RowKit

/-- The decimal digits of an integer. -/
def ztxt (v : Int) : List UInt8 := if v < 0 then 45 :: txt v.natAbs else txt v.natAbs

theorem txt_len {V : Nat} (h : V < B64 ^ 16) : (txt V).length ≤ 400 := by
  have h10 : B64 ^ 16 ≤ 10 ^ 400 := by decide +kernel
  have := length_limbs_le (B := 10) (by omega) (n := V) (k := 400) (Nat.lt_of_lt_of_le h h10)
  rw [txt]
  split
  · simp
  · simpa using this

set_option maxHeartbeats 1000000 in
theorem ztext_small (s : Bool) (l : List Nat) (A : Option Addr) (n c : Nat) (w : World) (h : Rd .u64 w A n l) (hL : Lim B64 l) (hn : n ≤ 16) (hnc : n ≤ c) :
    Calls Try.prog 35 #[.agg #[.bool s, .slice A n c]] w fun e w' => e = .returned (.string ⟨(ztxt (iv s (val B64 l))).toArray⟩) ∧ Below w.heap.size w w' := by
  go_enter Try.func35, Try.ntmps35
  go_wp2_with fail
  generalize hW : w.alloc (Obj.cells #[Value.bool s, Value.slice A n c] 24) = W
  have hb0 : Below w.heap.size w W := by subst hW; exact (Below.refl _ _).alloc (Nat.le_refl _) _
  have X : Bx W w.heap.size (.bool s) (.slice A n c) := by subst hW; exact Bx.new w _ _
  clear hW
  refine (sign_any s l _ _ _ _ (h.below hb0) hL (by unfold maxLen; omega) hnc).mono ?_
  rintro e w1 ⟨rfl, p4⟩
  have X1 := X.below p4
  have c0 := X1.c0
  have c1 := X1.c1
  have hb1 : Below w.heap.size w w1 := hb0.trans (p4.mono hb0.size)
  generalize hV : iv s (val B64 l) = v
  have hva : v.natAbs = val B64 l := by rw [← hV, iv_natAbs]
  have hw1 : Rd .u64 w1 A n l := h.below hb1
  have hlen : ¬ (9223372036854775807 < 1 + (txt (val B64 l)).length) := by
    have h1 := val_lt hL
    have h2 := Nat.pow_le_pow_right (n := B64) (by decide) (show l.length ≤ 16 by rw [h.1]; exact hn)
    have := txt_len (Nat.lt_of_lt_of_le h1 h2)
    omega
  by_cases hv : v < 0
  · have hs : sgn v = -1 := by simp [sgn, hv]
    have HV := Lib.hid hv
    clear hv
    rw [hs]
    go_wp2_with (first
      | (go_at_call 63; (with_reducible refine (text_small l _ _ _ _ hw1 hL hn hnc).mono ?_); rintro e w2 ⟨rfl, q4⟩))
    go_ret
    refine ⟨?_, hb1.trans (q4.mono hb1.size)⟩
    refine ret_eq ?_
    show Value.string (⟨#[45]⟩ ++ ⟨(txt (val B64 l)).toArray⟩) = _
    rw [hV, ztxt, if_pos HV.out, hva]
    congr 1
  · have hs : decide (sgn v < 0) = false := by unfold sgn; rw [if_neg hv]; split <;> simp
    have HV : Hid (¬ v < 0) := hv
    clear hv
    go_wp2_with (first
      | (go_at_call 63; (with_reducible refine (text_small l _ _ _ _ hw1 hL hn hnc).mono ?_); rintro e w2 ⟨rfl, q4⟩))
    go_ret
    refine ⟨?_, hb1.trans (q4.mono hb1.size)⟩
    refine ret_eq ?_
    show Value.string ⟨(txt (val B64 l)).toArray⟩ = _
    rw [hV, ztxt, if_neg (Int.not_lt.2 HV.out), hva]

/-- -1, 0, 1: a is below b, is b, is above it. -/
def cmpZ (a b : Int) : Int := if a < b then -1 else if b < a then 1 else 0
theorem compareInt_cmpZ (a b : Int) : Lib.compareInt a b = cmpZ a b := by
  unfold Lib.compareInt cmpZ; rfl

set_option maxHeartbeats 1000000 in
theorem zcmp_unlike (s : Bool) (la lb : List Nat) (A B : Option Addr) (n c m d : Nat) (w : World) (ha : Rd .u64 w A n la) (hb : Rd .u64 w B m lb) (La : Lim B64 la) (Lb : Lim B64 lb)
    (hnc : n ≤ c) (hmd : m ≤ d) (hn : n ≤ maxLen) (hm : m ≤ maxLen) :
    Calls Try.prog 22 #[.agg #[.bool s, .slice A n c], .agg #[.bool (!s), .slice B m d]] w fun e w' => e = .returned (.int .i64 (cmpZ (sgn (iv s (val B64 la))) (sgn (iv (!s) (val B64 lb))))) ∧ Below w.heap.size w w' := by
  have hne : (s != !s) = true := by cases s <;> rfl
  go_enter Try.func22, Try.ntmps22
  go_wp2_with fail
  generalize hW : (w.alloc (Obj.cells #[Value.bool s, Value.slice A n c] 24)).alloc (Obj.cells #[Value.bool (!s), Value.slice B m d] 24) = W
  have hb0 : Below w.heap.size w W := by subst hW; exact ((Below.refl _ _).alloc (Nat.le_refl _) _).alloc (by simp) _
  have X : Bx W w.heap.size (.bool s) (.slice A n c) := by subst hW; exact (Bx.new w _ _).alloc _
  have Y : Bx W (w.heap.size + 1) (.bool (!s)) (.slice B m d) := by subst hW; exact Bx.new' _ _ _ _ (by simp)
  clear hW
  have c0 := X.c0
  have c1 := X.c1
  have d0 := Y.c0
  have d1 := Y.c1
  have hx0 : Below W.heap.size W W.drew := (Below.refl _ _).drew
  go_region_held3 (fun w' => w'.cell? ⟨w.heap.size, 0, none⟩ = some (.bool s) ∧ w'.cell? ⟨w.heap.size, 1, none⟩ = some (.slice A n c) ∧ w'.cell? ⟨w.heap.size + 1, 0, none⟩ = some (.bool (!s)) ∧ w'.cell? ⟨w.heap.size + 1, 1, none⟩ = some (.slice B m d))
    (first | exact ⟨c0, c1, d0, d1⟩ | exact ⟨X2.c0, X2.c1, Y2.c0, Y2.c1⟩ | exact ⟨X1.c0, X1.c1, Y1.c0, Y1.c1⟩)
    (first
      | (go_at_call 24; (with_reducible refine (sign_any s la _ _ _ _ (ha.below hb0).drew La hn hnc).mono ?_); rintro e w1 ⟨rfl, p4⟩
         have p5 : Below W.heap.size W w1 := (Below.refl _ W).drew.trans p4
         have X1 := X.below p5
         have Y1 := Y.below p5)
      | (go_at_call 24; (with_reducible refine (sign_any (!s) lb _ _ _ _ ((hb.below hb0).below p5) Lb hm hmd).mono ?_); rintro e w2 ⟨rfl, q4⟩
         have X2 := X1.below q4
         have Y2 := Y1.below q4)
      | (go_at_call 51; (with_reducible refine (Try.cmp_Compare_int _ _ _).mono ?_); rintro e w3 ⟨rfl, rfl⟩))
  go_wp2
  go_ret
  exact ⟨ret_int (compareInt_cmpZ _ _), hb0.trans ((p5.mono hb0.size).trans (q4.mono (Nat.le_trans hb0.size p5.size)))⟩

theorem cmpZ_sgn (s : Bool) (a b : Nat) : cmpZ (sgn (iv s a)) (sgn (iv (!s) b)) = cmpZ (iv s a) (iv (!s) b) := by
  cases s <;> simp only [cmpZ, sgn, iv, Bool.not_true, Bool.not_false, if_true, Bool.false_eq_true, if_false] <;> (repeat' split) <;> omega

theorem cmpN_cmpZ_f (a b : Nat) : cmpN a b = cmpZ (iv false a) (iv false b) := by
  unfold cmpN cmpZ iv; simp
theorem cmpN_cmpZ_t (a b : Nat) : cmpN b a = cmpZ (iv true a) (iv true b) := by
  unfold cmpN cmpZ iv; simp
set_option maxHeartbeats 1000000 in
theorem zcmp_alike (s : Bool) (la lb : List Nat) (A B : Option Addr) (n c m d : Nat) (w : World) (ha : Rd .u64 w A n la) (hb : Rd .u64 w B m lb) (La : Lim B64 la) (Lb : Lim B64 lb)
    (hnc : n ≤ c) (hmd : m ≤ d) (hn : n ≤ maxLen) (hm : m ≤ maxLen) :
    Calls Try.prog 22 #[.agg #[.bool s, .slice A n c], .agg #[.bool s, .slice B m d]] w fun e w' => e = .returned (.int .i64 (cmpZ (iv s (val B64 la)) (iv s (val B64 lb)))) ∧ Below w.heap.size w w' := by
  have hn1 := Lib.hid hn
  have hm1 := Lib.hid hm
  clear hn hm
  cases s
  · go_enter Try.func22, Try.ntmps22
    go_wp2_with fail
    have hb1 : Below w.heap.size w _ := ((Below.refl w.heap.size w).alloc (Nat.le_refl _) (Obj.cells #[Value.bool false, Value.slice A n c] 24)).alloc (by simp) (Obj.cells #[Value.bool false, Value.slice B m d] 24)
    refine (cmp_any la lb _ _ _ _ _ _ _ (ha.below hb1) (hb.below hb1) La Lb hn1.out hm1.out hnc hmd).mono ?_
    rintro e w' ⟨rfl, q, rfl⟩
    go_wp2
    go_ret
    exact ⟨ret_int (cmpN_cmpZ_f _ _), below_drawn hb1 q⟩
  · go_enter Try.func22, Try.ntmps22
    go_wp2_with fail
    have hb1 : Below w.heap.size w _ := ((Below.refl w.heap.size w).alloc (Nat.le_refl _) (Obj.cells #[Value.bool true, Value.slice B m d] 24)).alloc (by simp) (Obj.cells #[Value.bool true, Value.slice A n c] 24)
    refine (cmp_any lb la _ _ _ _ _ _ _ (hb.below hb1) (ha.below hb1) Lb La hm1.out hn1.out hmd hnc).mono ?_
    rintro e w' ⟨rfl, q, rfl⟩
    go_wp2
    go_ret
    exact ⟨ret_int (cmpN_cmpZ_t _ _), below_drawn hb1 q⟩

theorem zcmp_any (s t : Bool) (la lb : List Nat) (A B : Option Addr) (n c m d : Nat) (w : World) (ha : Rd .u64 w A n la) (hb : Rd .u64 w B m lb) (La : Lim B64 la) (Lb : Lim B64 lb)
    (hnc : n ≤ c) (hmd : m ≤ d) (hn : n ≤ maxLen) (hm : m ≤ maxLen) :
    Calls Try.prog 22 #[.agg #[.bool s, .slice A n c], .agg #[.bool t, .slice B m d]] w fun e w' => e = .returned (.int .i64 (cmpZ (iv s (val B64 la)) (iv t (val B64 lb)))) ∧ Below w.heap.size w w' := by
  by_cases hst : s = t
  · subst hst
    exact zcmp_alike s la lb A B n c m d w ha hb La Lb hnc hmd hn hm
  · have ht : t = !s := by cases s <;> cases t <;> simp_all
    have := zcmp_unlike s la lb A B n c m d w ha hb La Lb hnc hmd hn hm
    rw [cmpZ_sgn] at this
    rw [ht]
    exact this

/-- Is the struct good? -/
def goodZ (s : Bool) (l : List Nat) : Bool := goodB l && !(s && decide (l.length = 0))

set_option maxHeartbeats 1000000 in
theorem zgood_any (s : Bool) (l : List Nat) (A : Option Addr) (n c : Nat) (w : World) (h : Rd .u64 w A n l) (hn : n ≤ maxLen) :
    Calls Try.prog 28 #[.agg #[.bool s, .slice A n c]] w fun e w' => e = .returned (.bool (goodZ s l)) ∧ Below w.heap.size w w' := by
  have hb1 : Below w.heap.size w _ := (Below.refl w.heap.size w).alloc (Nat.le_refl _) (Obj.cells #[Value.bool s, Value.slice A n c] 24)
  have hn1 := Lib.hid hn
  have hl : decide (l.length = 0) = ((n : Int) == 0) := by rw [h.1]; by_cases h0 : n = 0 <;> simp [h0]
  generalize hg : goodB l = G
  have HG : Hid (goodZ s l = (G && !(s && ((n : Int) == 0)))) := by show _ = _; rw [goodZ, hg, hl]
  clear hl hn
  cases G <;> cases s
  all_goals
    go_enter Try.func28, Try.ntmps28
    go_wp2_with (first
      | (go_at_call 54; (refine (good_any l _ _ _ _ (h.below hb1) hn1.out).mono ?_); rintro e w' ⟨rfl, rfl⟩; rw [hg]))
    go_ret
    exact ⟨ret_bool (by rw [HG.out]; simp), hb1⟩
end Go.Proofs.Ytflcgeehpboldaa
