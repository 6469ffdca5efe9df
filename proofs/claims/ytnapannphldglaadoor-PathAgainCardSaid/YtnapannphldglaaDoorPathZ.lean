/- gessokeep.Segs of the same parts; gessolaw11.wakes. -/
import Derived.Test.YtnapannphldglaaDoorPathY
namespace Go.Proofs.YtnapannphldglaaDoor
open Go Go.RowKit

set_option maxRecDepth 100000 in
theorem v_same (W : World) (a b c d e f : Int) : (Op.equalIn 10000 25 (.agg #[.int .i64 a, .int .i64 b, .int .i64 c, .int .i64 d, .int .i64 e, .int .i64 f]) (.agg #[.int .i64 a, .int .i64 b, .int .i64 c, .int .i64 d, .int .i64 e, .int .i64 f])).run Tryd.prog W = .ok true W := by
  have hs : (sizeOf 2).run Tryd.prog W = .ok 1 W := by kernel_rfl
  have h2 : ∀ (x : Int) W, (Op.equalIn 9999 2 (.int .i64 x) (.int .i64 x)).run Tryd.prog W = .ok true W := fun x W => by
    rw [run_equalIn_int (P := Tryd.prog) W 9998 2 .i64 .i64 x x Tryd.underlying2]; simp
  show (Op.equalIn (9999 + 1) _ _ _).run _ _ = _
  unfold Op.equalIn
  simp [run_underlying Tryd.underlying25, hs, h2, go_sem, Std.Legacy.Range.forIn_eq_forIn_range', List.range', part]
set_option maxRecDepth 100000 in
set_option maxHeartbeats 4000000 in
theorem segs_same (A B : Option Addr) (c d n : Nat) (l : List Sg) (w : World) (ha : SGV w A l) (hb : SGV w B l) (hn : l.length = n) (hl : n ≤ 4096) :
    Calls Tryd.prog 15 #[.slice A n c, .slice B n d] w fun e w' => e = .returned (.bool true) ∧ ∃ q, w' = w.drewN q := by
  have HN := Lib.hid hn
  have HA := Lib.hid ha
  have HB := Lib.hid hb
  clear hn ha hb
  go_enter Tryd.func15, Tryd.ntmps15
  go_wp2
  go_loopw [5] (fun i wr => ∃ k : Nat, k ≤ n ∧ i = .int .i64 (k : Int) ∧ ∃ q, wr = w.drewN q) (fun i _ => n - (intOf i).toNat)
  case atStart => exact ⟨0, Nat.zero_le _, rfl, 0, rfl⟩
  case round =>
    obtain ⟨k, hk, rfl, q, rfl⟩ := hrel
    by_cases hlt : k < n
    · obtain ⟨s, hs⟩ : ∃ s, l[k]? = some s := ⟨_, List.getElem?_eq_getElem (by rw [HN.out]; exact hlt)⟩
      obtain ⟨g, o, rfl, hg, c0, c1, c2, c3, c4, c5, c6, c7⟩ := HA.out.at_ hs
      obtain ⟨g', o', rfl, hg', d0, d1, d2, d3, d4, d5, d6, d7⟩ := HB.out.at_ hs
      clear hs
      have hq := fun W => v_same W s.v0 s.v1 s.v2 s.v3 s.v4 s.v5
      go_wp2
      go_quiet (fail)
      go_wp2
      exact ⟨⟨k + 1, hlt, by go_num, _, rfl⟩, by simp [intOf]; omega⟩
    · go_wp2
      go_ret
      exact ⟨rfl, _, rfl⟩
/-- The tables that the program reads. -/
structure LD (w : World) : Prop where
  l : LtIn w
  t : Lib.TabBelow Tryd.prog w.heap.size w "internal/strconv.uint64pow10" .u64 Lib.pow10Tab
theorem LD.below {w w' : World} (h : LD w) (hb : Below w.heap.size w w') : LD w' :=
  ⟨h.l.below hb h.l.lt, fun w2 h2 => h.t w2 (hb.trans (h2.mono hb.size))⟩
theorem itoa_0 : Lib.itoa 0 = [48] := by unfold Lib.itoa; simp [Lib.decDigits_one]
theorem itoa_64 : Lib.itoa 64 = [54, 52] := by unfold Lib.itoa; simp [Lib.decDigits_two]
def wkL : List Sg := [⟨1, 0, 0, 0, 0, 0, 0, 0⟩, ⟨2, 64, 0, 0, 0, 0, 0, 0⟩, ⟨6, 0, 0, 0, 0, 0, 0, 0⟩]
theorem wk_1 : ofP (⟨#[77, 48, 32, 48, 108, 54, 52, 32, 48, 122]⟩ : ByteArray).data.toList = .ok wkL := by rfl
theorem wk_2 : ofP (⟨#[77, 48, 32, 48, 32, 76, 53]⟩ : ByteArray).data.toList = .error (7, 20) := by rfl
theorem wk_3 : ofP (⟨#[77, 48, 32, 50, 49, 52, 55, 52, 56, 51, 54, 52, 56]⟩ : ByteArray).data.toList = .error (3, 21) := by rfl
theorem wk_g : goodL wkL = true := by decide
theorem wk_t : textP wkL = [77, 32, 48, 32, 48, 32, 76, 32, 54, 52, 32, 48, 32, 90] := by
  simp [textP, wkL, partT, partX, numX, numT, letterK, ltT, Lt.nb, Sg.get, itoa_0, itoa_64]
end Go.Proofs.YtnapannphldglaaDoor
