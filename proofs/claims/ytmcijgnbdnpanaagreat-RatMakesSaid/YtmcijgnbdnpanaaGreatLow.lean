/- nat.lowered, nat.raised, nat.Shr, nat.Shl. -/
import Derived.Test.YtmcijgnbdnpanaaGreatBase
namespace Go.Proofs.YtmcijgnbdnpanaaGreat
open Go.RowKit

set_option maxRecDepth 100000 in
theorem lowered_any (l : List Nat) (A : Option Addr) (n c sh : Nat) (w : World) (h : Rd .u64 w A n l) (hL : Lim B64 l) (hn0 : n ≤ 35184372088832) (hnc : n ≤ c) (hsh0 : sh ≤ maxLen) :
    Calls Tryz.prog 179 #[.slice A n c, .int .i64 (sh : Int)] w (GivesS .u64 91 w (limbs B64 (val B64 l / 2 ^ sh))) := by
  have hn : n ≤ maxLen := by unfold maxLen; omega
  have HN := Lib.hid hn
  have HN0 := Lib.hid hn0
  have hsh := hsh0
  unfold maxLen at hn hsh
  clear hn0 hsh0
  go_enter Tryz.func179, Tryz.ntmps179
  generalize hX : limbs B64 (val B64 l) = xs
  have LX : Lim B64 xs := by rw [← hX]; exact lim_limbs B64_two _
  have HX := Lib.hid hX
  clear hX
  go_wp2_with (first
    | (go_at_call 138; ((with_reducible refine (trim_any l A n c _ h hL HN.out hnc).mono ?_); rintro e w' ⟨⟨k, hk, rfl, hka⟩, rfl⟩; rw [HX.out] at hka))
    | (at_make
       have hlt : (sh : Int) / 64 < (k : Int) := by assumption
       have hq : sh / 64 < k := by omega
       refine wpList_make64 _ rfl (.tmp 17) (.tmp 17) rfl .i64 .i64 _ _ (k - sh / 64) rfl rfl (by omega) (by omega) (by have := HN0.out; omega) ?_
       intro w1 hown1 hb1
       have hka1 := hka.below hb1
       obtain ⟨b, o, hA, hc⟩ := hka1.2 (by omega)
       subst hA
       clear hc)
    | (go_at_call 189
       have hS : (sh : Int) % 64 = ((sh % 64 : Nat) : Int) := by omega
       have hdr := hka1.drop (k := sh / 64) (A' := some ⟨b, o + sh / 64, none⟩) (by omega) (by simp [add_at])
       have hof : Off (some ⟨b, o + sh / 64, none⟩) (k - sh / 64) w.heap.size := fun _ ad e => by
         cases e
         have hbl := hka.lt (by omega) _ rfl
         show b ≠ w.heap.size
         exact Nat.ne_of_lt hbl
       have hkn : k - sh / 64 ≤ maxLen := by have := HN.out; omega
       refine (shiftDown_at ((sh : Int) % 64) _ _ (sh % 64) w.heap.size _ (k - sh / 64) _ _ w1 hown1 (by simp) hdr hof (LX.drop _) (by omega) rfl hkn hS).mono ?_
       rintro e w2 ⟨rfl, ⟨P, hP1, hP2, hP3, hP4⟩, ho2⟩
       have HP3 := Lib.hid hP3
       have HP1 := Lib.hid hP1
       have HS := Lib.hid hS
       have HKN := Lib.hid hkn
       clear hP3 hP1 hS hdr hof hkn)
    | (go_at_call 138
       refine (trim_own P w.heap.size _ w.heap.size w2 hP4 (Nat.le_refl _) HP1.out hP2 HKN.out).mono ?_
       rintro e w' ⟨⟨k2, hk2, rfl, hfr⟩, rfl⟩))
  · have hge : (k : Int) ≤ (sh : Int) / 64 := by assumption
    go_ret
    have hlen : (limbs B64 (val B64 l)).length = k := by rw [HX.out]; exact hka.1
    have e := low_zero (sh := sh) hlen (by omega)
    rw [e, limbs_zero]
    exact ⟨none, 0, 0, rfl, Nat.le_refl _, by decide, Fr.nil, Below.refl _ _⟩
  · have hq : sh / 64 < k := by omega
    go_ret
    have e := low_parts HX.out hka.1 hq
    rw [HP3.out, e] at hfr
    exact ⟨_, _, _, rfl, hk2, HKN.out, hfr, Below.only hb1 (Nat.le_refl _) hb1.size ho2⟩

set_option maxRecDepth 100000 in
theorem raised_any (l : List Nat) (A : Option Addr) (n c sh : Nat) (w : World) (h : Rd .u64 w A n l) (hL : Lim B64 l) (hn0 : n + sh / 64 + 1 ≤ 35184372088832) (hnc : n ≤ c) (hsh0 : sh ≤ maxLen) :
    Calls Tryz.prog 177 #[.slice A n c, .int .i64 (sh : Int)] w (GivesS .u64 91 w (limbs B64 (val B64 l * 2 ^ sh))) := by
  have hn : n + sh / 64 + 1 ≤ maxLen := by unfold maxLen; omega
  have HN : Hid (n ≤ maxLen) := by show _ ≤ _; omega
  have HN0 := Lib.hid hn0
  have hsh := hsh0
  unfold maxLen at hn hsh
  clear hn0 hsh0
  generalize hX : limbs B64 (val B64 l) = xs
  have LX : Lim B64 xs := by rw [← hX]; exact lim_limbs B64_two _
  have HX := Lib.hid hX
  clear hX
  go_enter Tryz.func177, Tryz.ntmps177
  go_wp2_with (first
    | (go_at_call 138; ((with_reducible refine (trim_any l A n c _ h hL HN.out hnc).mono ?_); rintro e w' ⟨⟨k, hk, rfl, hka⟩, rfl⟩; rw [HX.out] at hka))
    | (at_make
       refine wpList_make64 _ rfl (.tmp 16) (.tmp 16) rfl .i64 .i64 _ _ (sh / 64 + k + 1) rfl rfl (by omega) (by omega) (by have := HN0.out; omega) ?_
       intro w1 hown1 hb1
       have hka1 := hka.below hb1)
    | (go_at_call 187
       have hS : (sh : Int) % 64 = ((sh % 64 : Nat) : Int) := by omega
       have hz : Own .u64 91 w1 w.heap.size (List.replicate (sh / 64) 0 ++ List.replicate (k + 1) 0) := by
         rw [List.replicate_append_replicate]; exact hown1
       have hkn : sh / 64 + k + 1 - sh / 64 ≤ maxLen := by have := HN.out; have := HN0.out; unfold maxLen; omega
       refine (shiftUp_at ((sh : Int) % 64) xs _ _ (sh % 64) w.heap.size (sh / 64) _ _ k _ _ w1 hz (by simp) (by simp; omega) hka1 (Off.of_lt hka (Nat.le_refl _)) LX (by omega) (Or.inr (by omega)) hkn hS).mono ?_
       rintro e w2 ⟨rfl, ⟨P, hP1, hP2, hP3, hP4⟩, ho2⟩
       have HP3 := Lib.hid hP3
       have HP1 := Lib.hid hP1
       clear hP3 hP1 hS hkn hz)
    | (go_at_call 138
       have hl2 : (List.replicate (sh / 64) 0 ++ P).length = sh / 64 + k + 1 := by rw [List.length_append, List.length_replicate, HP1.out]; omega
       have hkn : sh / 64 + k + 1 ≤ maxLen := by have := HN0.out; unfold maxLen; omega
       refine (trim_own _ w.heap.size _ w.heap.size w2 hP4 (Nat.le_refl _) hl2 ((Lim.zeros _ (by decide)).append hP2) hkn).mono ?_
       rintro e w' ⟨⟨k2, hk2, rfl, hfr⟩, rfl⟩
       have HKN := Lib.hid hkn
       clear hl2 hkn))
  · have hq : ((k : Int) == 0) = true := by assumption
    have hk0 : k = 0 := by simp at hq; omega
    go_ret
    have hlen : (limbs B64 (val B64 l)).length = 0 := by rw [HX.out, hka.1, hk0]
    have e : val B64 l = 0 := (limbs_eq_nil B64_two).1 (List.eq_nil_of_length_eq_zero hlen)
    rw [e, Nat.zero_mul, limbs_zero]
    exact ⟨none, 0, 0, rfl, Nat.le_refl _, by decide, Fr.nil, Below.refl _ _⟩
  · go_ret
    have e := up_parts (val B64 xs) sh _ rfl P HP3.out
    rw [e, ← HX.out, val_limbs B64_two] at hfr
    exact ⟨_, _, _, rfl, hk2, HKN.out, hfr, Below.only hb1 (Nat.le_refl _) hb1.size ho2⟩

theorem shl_bad (A : Option Addr) (n c : Nat) (sh : Int) (w : World) (hs : sh < 0 ∨ 1048576 < sh) :
    Calls Tryz.prog 152 #[.slice A n c, .int .i64 sh] w fun e w' => e = .returned (.tuple #[.slice none 0 0, .int .i64 1]) ∧ w = w' := by
  rcases hs with hs | hs
  · go_enter Tryz.func152, Tryz.ntmps152
    go_wp2_with fail
    go_ret2
    exact ⟨rfl, rfl⟩
  · have h0 : 0 ≤ sh := by omega
    go_enter Tryz.func152, Tryz.ntmps152
    go_wp2_with fail
    go_ret2
    exact ⟨rfl, rfl⟩

set_option maxRecDepth 100000 in
theorem shl_any (l : List Nat) (A : Option Addr) (n c sh : Nat) (w : World) (h : Rd .u64 w A n l) (hL : Lim B64 l) (hn0 : n ≤ 35184372072432) (hnc : n ≤ c) (hs : sh ≤ 1048576) :
    Calls Tryz.prog 152 #[.slice A n c, .int .i64 (sh : Int)] w (GivesE .u64 91 w (limbs B64 (val B64 l * 2 ^ sh)) 0) := by
  have HN0 := Lib.hid hn0
  clear hn0
  go_enter Tryz.func152, Tryz.ntmps152
  go_wp2_with (go_at_call 177; refine (raised_any l A n c sh w h hL (by have := HN0.out; omega) hnc (by unfold maxLen; omega)).mono ?_; rintro e w' ⟨A2, n2, c2, rfl, h1, h2, h3, h4⟩)
  go_ret2
  exact ⟨_, _, _, rfl, h1, h2, h3, h4⟩

end Go.Proofs.YtmcijgnbdnpanaaGreat
