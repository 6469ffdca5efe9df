/- The document's own answers: Text. -/
import Derived.Test.YtmcijgnbdnpanaaRefRoot
import Derived.Test.YtmcijgnbdnpanaaTextF
namespace Go.Proofs.Ytmcijgnbdnpanaa
open Go.RowKit

/-- The decimal digits of V, L of them, as a text. -/
def dstr (V L : Nat) : ByteArray := ⟨((decs V L).map fun x => UInt8.ofNat x).toArray⟩
theorem dstr_size (V L : Nat) : (dstr V L).size = L := by
  show ((decs V L).map fun x => UInt8.ofNat x).toArray.size = L
  rw [List.size_toArray, List.length_map, length_decs]
theorem dstr_cat (V i j : Nat) : dstr (V / 10 ^ j) i ++ dstr V j = dstr V (i + j) := by
  apply ByteArray.ext
  rw [ByteArray.data_append]
  show ((decs (V / 10 ^ j) i).map fun x => UInt8.ofNat x).toArray ++ ((decs V j).map fun x => UInt8.ofNat x).toArray = ((decs V (i + j)).map fun x => UInt8.ofNat x).toArray
  rw [decs_add, List.map_append]
  simp
theorem dstr_mod (V : Nat) {L k : Nat} (h : L ≤ k) : dstr (V % 10 ^ k) L = dstr V L := by unfold dstr; rw [decs_mod V h]
theorem dstr_zero (V : Nat) : dstr V 0 = ⟨#[]⟩ := rfl
theorem ex1 (l : List UInt8) (K D : Nat) (h : l.length = D) : (⟨l.toArray⟩ : ByteArray).extract K D = ⟨(l.drop K).toArray⟩ := by
  apply ByteArray.ext
  rw [ByteArray.data_extract]
  subst h
  simp [List.take_of_length_le]
theorem get1 (l : List UInt8) (f : Nat) (x : UInt8) (h : l[f]? = some x) (hf : f < (⟨l.toArray⟩ : ByteArray).size) : (⟨l.toArray⟩ : ByteArray)[f] = x := by
  have h2 : f < l.length := hf
  rw [List.getElem?_eq_getElem h2, Option.some.injEq] at h
  rw [← h]; rfl
theorem dstr_get {V D f x : Nat} (h : (decs V D)[f]? = some x) (hx : x < 256) (hf : f < (dstr V D).size) : (dstr V D)[f].toNat = x := by
  have h2 := get1 ((decs V D).map fun x => UInt8.ofNat x) f (UInt8.ofNat x) (by rw [List.getElem?_map, h]; rfl) hf
  have h3 : (dstr V D)[f] = UInt8.ofNat x := h2
  rw [h3, UInt8.toNat_ofNat', Nat.mod_eq_of_lt hx]
theorem dstr_text {V D K : Nat} (hV : V ≠ 0) (hD : V < 10 ^ D) (hK : K = D - (limbs 10 V).length) : (dstr V D).extract K D = ⟨(txt V).toArray⟩ := by
  have h := ex1 ((decs V D).map fun x => UInt8.ofNat x) K D (by rw [List.length_map, length_decs])
  rw [← List.map_drop, hK, txt_drop hV hD] at h
  rw [hK]; exact h
theorem lit_c0 (w : World) (a b : Value) (t : TypeId) : (w.alloc (.cells #[a, b] t)).cell? ⟨w.heap.size, 0, none⟩ = some a := by
  rw [cell_of_row _ _ _ _ _ _ (heap_alloc_new w _)]; rfl
theorem digit_str {r : Nat} (h : r < 10) : (⟨#[48, 49, 50, 51, 52, 53, 54, 55, 56, 57]⟩ : ByteArray).extract r (r + 1) = dstr r 1 := by
  rcases (by omega : r = 0 ∨ r = 1 ∨ r = 2 ∨ r = 3 ∨ r = 4 ∨ r = 5 ∨ r = 6 ∨ r = 7 ∨ r = 8 ∨ r = 9) with h | h | h | h | h | h | h | h | h | h <;> subst h <;> rfl
theorem dstr_one {t L v : Nat} (hv : v = t / 10 ^ L) : dstr (v % 10) 1 ++ dstr t L = dstr t (L + 1) := by
  have h := dstr_mod v (L := 1) (k := 1) (Nat.le_refl _)
  rw [Nat.pow_one] at h
  rw [h, hv, dstr_cat, Nat.add_comm 1 L]

end Go.Proofs.Ytmcijgnbdnpanaa
