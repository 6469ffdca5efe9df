/- Small helpers for calls at written-out numbers. -/
import Derived.Test.YtflcgeehpboldaaTextS
import Derived.Test.YtflcgeehpboldaaSmall
namespace Go.Proofs.Ytflcgeehpboldaa
open Go.RowKit

def topN : Nat := 18446744073709551615
def topM : Nat := 18446744073709551614
theorem lit_own {K : IntKind} {e : TypeId} (w : World) (L : List Nat) : Own K e (w.alloc (.cells (nums K L).toArray e)) w.heap.size L := heap_alloc_new w _
theorem Own.rd0 {K : IntKind} {e : TypeId} {w : World} {g n : Nat} {L : List Nat} (h : Own K e w g L) (hn : L.length = n) : Rd K w (some ⟨g, 0, none⟩) n L :=
  h.rd hn (fun j x hx => by rw [Nat.zero_add]; exact hx)
theorem lit_rd {K : IntKind} {e : TypeId} (w : World) (L : List Nat) (n : Nat) (hn : L.length = n) : Rd K (w.alloc (.cells (nums K L).toArray e)) (some ⟨w.heap.size, 0, none⟩) n L := (lit_own w L).rd0 hn
theorem limbs_lit {B V : Nat} {l : List Nat} (hB : 2 ≤ B) (hL : Lim B l) (ht : l.getLast? ≠ some 0) (hv : val B l = V) : limbs B V = l := by rw [← hv]; exact limbs_val hB hL ht
theorem lim1 {a : Nat} (h : a < B64) : Lim B64 [a] := Lim.cons h Lim.nil
theorem lim2 {a b : Nat} (h : a < B64) (h2 : b < B64) : Lim B64 [a, b] := Lim.cons h (lim1 h2)
theorem lim3 {a b c : Nat} (h : a < B64) (h2 : b < B64) (h3 : c < B64) : Lim B64 [a, b, c] := Lim.cons h (lim2 h2 h3)
theorem txt_lit {V : Nat} {l : List Nat} (h : limbs 10 V = l) (h0 : V ≠ 0) : txt V = l.reverse.map fun x => UInt8.ofNat (48 + x) := by rw [txt, if_neg h0, h]
theorem nats_true (la lb : List Nat) (A B : Option Addr) (n c m d : Nat) (w : World) (ha : Rd .u64 w A n la) (hb : Rd .u64 w B m lb) (hn : n ≤ maxLen) (he : la = lb) :
    Calls Try.prog 41 #[.slice A n c, .slice B m d] w fun e w' => e = .returned (.bool true) ∧ ∃ k, w' = w.drewN k :=
  (nats_any la lb A B n c m d w ha hb hn).mono fun e w' ⟨h1, h2⟩ => ⟨by rw [h1, decide_eq_true he], h2⟩
end Go.Proofs.Ytflcgeehpboldaa
