/- FlatNear: part 0. -/
import Derived.BigQuiet
import Derived.BigRegion
import Derived.Deep.AppendLies
import Derived.Deep.Draws
import Derived.Deep.QuietTactic
import Derived.Ground.Names2Prog
import Derived.Laws.BitsAllLaws
import Derived.Laws.CopyOwn
import Derived.Lib.Hide
import Derived.Lib.SmallJoins
import Derived.LoopTactic
import Derived.OpenShut
import Derived.OwnWalk
import Derived.RegionTactic
import Derived.Shelf.Bits.Mul64
import Derived.Shelf.Slices.SearchI
import Derived.Shelf.Small.Bits
import Derived.Shelf.Small.Wraps
import Derived.Shelf.Strconv.Itoa0
import Derived.Test.YtlpogecpdfdggaaGreatProg
import Derived.WalkKit
import Derived.WalkSpells
set_option linter.unusedVariables false
set_option maxRecDepth 100000
set_option maxHeartbeats 16000000
variable {w:Go.World}
namespace Go.Proofs
open Go.Shelf
def Tryz.lays134_ren:Go.Shelf.Ren:=⟨fun | 134=>156 | 129=>117 | n=>n,fun | 53=>74 | 3=>3 | 4=>4 | 46=>114 | 5=>5 | 9=>9 | n=>n,fun | n=>n⟩
theorem Tryz.lays134:Go.Proofs.Lays.n134 Tryz.prog Tryz.lays134_ren:={
 mixed:=by kernel_rfl
 f129:=Tryz.func117.trans (congrArg some (by kernel_rfl))
 f134:=Tryz.func156.trans (congrArg some (by kernel_rfl))
 t3:=Tryz.underlying3
 a3:=Tryz.isAgg3
 z3:=Tryz.sizeOf3
 v3:=Tryz.zeroValue3
 t4:=Tryz.underlying4
 a4:=Tryz.isAgg4
 z4:=Tryz.sizeOf4
 v4:=Tryz.zeroValue4
 t5:=Tryz.underlying5
 a5:=Tryz.isAgg5
 z5:=Tryz.sizeOf5
 v5:=Tryz.zeroValue5
 t9:=Tryz.underlying9
 a9:=Tryz.isAgg9
 z9:=Tryz.sizeOf9
 v9:=Tryz.zeroValue9
 t46:=Tryz.underlying114
 a46:=Tryz.isAgg114
 z46:=Tryz.sizeOf114
 v46:=Tryz.zeroValue114
 t53:=Tryz.underlying74
 a53:=Tryz.isAgg74
 z53:=Tryz.sizeOf74
 v53:=Tryz.zeroValue74}
theorem Tryz.bits_LeadingZeros64 (x:Int) (w:World) (h0:0≤x) (h1:x≤18446744073709551615) :
 Calls Tryz.prog 156 #[.int .u64 x] w fun e w'=>e=.returned (.int .i64 (64 - (Lib.bitLen x.toNat:Int)))∧w'=w:=Any.bits_LeadingZeros64 Tryz.lays134 x w h0 h1
open Go.RowKit in
def Tryz.lays122_ren:Go.Shelf.Ren:=⟨fun | 122=>94 | 215=>122 | n=>n,fun | 3=>3 | 4=>4 | n=>n,fun | n=>n⟩
theorem Tryz.lays122:Go.Proofs.Lays.n122 Tryz.prog Tryz.lays122_ren:={
 mixed:=by kernel_rfl
 f122:=Tryz.func94.trans (congrArg some (by kernel_rfl))
 f215:=Tryz.func122.trans (congrArg some (by kernel_rfl))
 t3:=Tryz.underlying3
 a3:=Tryz.isAgg3
 z3:=Tryz.sizeOf3
 v3:=Tryz.zeroValue3
 t4:=Tryz.underlying4
 a4:=Tryz.isAgg4
 z4:=Tryz.sizeOf4
 v4:=Tryz.zeroValue4}
open Go.RowKit in
theorem Tryz.cmp_Compare_int (x y:Int) (w:World) :
 Calls Tryz.prog 94 #[.int .i64 x,.int .i64 y] w fun e w'=>e=.returned (.int .i64 (Lib.compareInt x y))∧w'=w:=Any.cmp_Compare_int Tryz.lays122 x y w
def Tryz.lays129_ren:Go.Shelf.Ren:=⟨fun | 129=>117 | n=>n,fun | 53=>74 | 3=>3 | 4=>4 | 46=>114 | 5=>5 | 9=>9 | n=>n,fun | n=>n⟩
theorem Tryz.lays129:Go.Proofs.Lays.n129 Tryz.prog Tryz.lays129_ren:={
 mixed:=by kernel_rfl
 f129:=Tryz.func117.trans (congrArg some (by kernel_rfl))
 t3:=Tryz.underlying3
 a3:=Tryz.isAgg3
 z3:=Tryz.sizeOf3
 v3:=Tryz.zeroValue3
 t4:=Tryz.underlying4
 a4:=Tryz.isAgg4
 z4:=Tryz.sizeOf4
 v4:=Tryz.zeroValue4
 t5:=Tryz.underlying5
 a5:=Tryz.isAgg5
 z5:=Tryz.sizeOf5
 v5:=Tryz.zeroValue5
 t9:=Tryz.underlying9
 a9:=Tryz.isAgg9
 z9:=Tryz.sizeOf9
 v9:=Tryz.zeroValue9
 t46:=Tryz.underlying114
 a46:=Tryz.isAgg114
 z46:=Tryz.sizeOf114
 v46:=Tryz.zeroValue114
 t53:=Tryz.underlying74
 a53:=Tryz.isAgg74
 z53:=Tryz.sizeOf74
 v53:=Tryz.zeroValue74}
theorem Tryz.bits_Len64 (x:Int) (w:World) (h0:0≤x) (h1:x≤18446744073709551615) :
 Calls Tryz.prog 117 #[.int .u64 x] w fun e w'=>e=.returned (.int .i64 (Lib.bitLen x.toNat))∧w'=w:=Any.bits_Len64 Tryz.lays129 x w h0 h1
def Tryz.lays264_ren:Go.Shelf.Ren:=⟨fun | 264=>166 | n=>n,fun | 53=>74 | 46=>114 | n=>n,fun | n=>n⟩
theorem Tryz.lays264:Go.Proofs.Lays.n264 Tryz.prog Tryz.lays264_ren:={
 mixed:=by kernel_rfl
 f264:=Tryz.func166.trans (congrArg some (by kernel_rfl))
 t46:=Tryz.underlying114
 a46:=Tryz.isAgg114
 z46:=Tryz.sizeOf114
 v46:=Tryz.zeroValue114
 t53:=Tryz.underlying74
 a53:=Tryz.isAgg74
 z53:=Tryz.sizeOf74
 v53:=Tryz.zeroValue74}
open Go.RowKit Go.Lib in
theorem Tryz.bits_Mul64 (x y:Nat) (hx:x < 18446744073709551616) (hy:y < 18446744073709551616) (w:World) :
 Calls Tryz.prog 166 #[.int .u64 x,.int .u64 y] w fun e w'=>e=.returned (.tuple #[.int .u64 ((x*y / 18446744073709551616:Nat):Int),.int .u64 ((x*y % 18446744073709551616:Nat):Int)])∧w'=w:=Any.bits_Mul64 Tryz.lays264 x y hx hy w
end Go.Proofs
namespace Go.Proofs.YtlpogecpdfdggaaGreat
section
open Nat
def val (B:Nat):List Nat→Nat
 | []=>0
 | x :: l=>x+B*val B l
def Lim (B:Nat) (l:List Nat):Prop:=∀ x,x ∈ l→x < B
def limbs (B:Nat) (n:Nat):List Nat :=
 if _h:n=0 ∨ B < 2 then [] else n % B :: limbs B (n / B)
termination_by n
decreasing_by exact Nat.div_lt_self (by omega) (by omega)
section
variable {B:Nat}
@[simp] theorem val_nil:val B []=0:=rfl
@[simp] theorem val_cons (x:Nat) (l:List Nat):val B (x :: l)=x+B*val B l:=rfl
theorem val_append (a b:List Nat):val B (a ++ b)=val B a+B ^ a.length*val B b:=by
 induction a with
 | nil=>simp
 | cons x a ih =>
   simp only [List.cons_append,val_cons,ih,List.length_cons,Nat.pow_succ,Nat.mul_add,Nat.add_assoc]
   rw [Nat.mul_comm (B ^ a.length) B,Nat.mul_assoc]
theorem val_snoc (a:List Nat) (x:Nat):val B (a ++ [x])=val B a+B ^ a.length*x:=by
 rw [val_append];simp
theorem Lim.nil:Lim B []:=fun _ h=>by cases h
theorem Lim.cons {x:Nat} {l:List Nat} (hx:x < B) (h:Lim B l):Lim B (x :: l):=by
 intro y hy;rcases List.mem_cons.1 hy with rfl | hy
 · exact hx
 · exact h y hy
theorem Lim.head {x:Nat} {l:List Nat} (h:Lim B (x :: l)):x < B:=h x (by simp)
theorem Lim.tail {x:Nat} {l:List Nat} (h:Lim B (x :: l)):Lim B l:=fun y hy=>h y (by simp [hy])
theorem Lim.take {l:List Nat} (h:Lim B l) (k:Nat):Lim B (l.take k):=fun y hy=>h y (List.mem_of_mem_take hy)
theorem Lim.drop {l:List Nat} (h:Lim B l) (k:Nat):Lim B (l.drop k):=fun y hy=>h y (List.mem_of_mem_drop hy)
theorem Lim.append {a b:List Nat} (ha:Lim B a) (hb:Lim B b):Lim B (a ++ b):=by
 intro y hy;rcases List.mem_append.1 hy with hy | hy
 · exact ha y hy
 · exact hb y hy
theorem Lim.get {l:List Nat} (h:Lim B l) {k x:Nat} (hx:l[k]?=some x):x < B:=h x (List.mem_of_getElem? hx)
theorem Lim.zeros (n:Nat) (hB:0 < B):Lim B (List.replicate n 0):=by
 intro y hy;rw [List.eq_of_mem_replicate hy];exact hB
theorem val_zeros (n:Nat):val B (List.replicate n 0)=0:=by
 induction n with
 | zero=>rfl
 | succ n ih=>rw [List.replicate_succ,val_cons,ih];simp
theorem val_lt {l:List Nat} (h:Lim B l):val B l < B ^ l.length:=by
 induction l with
 | nil=>simp
 | cons x l ih =>
   have h1:=h.head;have h2:=ih h.tail
   rw [val_cons,List.length_cons,Nat.pow_succ,Nat.mul_comm (B ^ l.length)]
   calc x+B*val B l < B+B*val B l:=by omega
    _=B*(val B l+1):=by rw [Nat.mul_add];omega
    _≤B*B ^ l.length:=Nat.mul_le_mul_left _ h2
theorem val_take_drop (l:List Nat) (k:Nat) (hk:k≤l.length):val B l=val B (l.take k)+B ^ k*val B (l.drop k):=by
 have:=val_append (B:=B) (l.take k) (l.drop k)
 rw [List.take_append_drop,List.length_take,Nat.min_eq_left hk] at this
 exact this
theorem val_take {l:List Nat} (h:Lim B l) (k:Nat) (hk:k≤l.length):val B (l.take k)=val B l % B ^ k:=by
 have h1:=val_take_drop (B:=B) l k hk
 have h2:=val_lt (h.take k)
 rw [List.length_take,Nat.min_eq_left hk] at h2
 rw [h1,Nat.add_mul_mod_self_left,Nat.mod_eq_of_lt h2]
theorem val_drop {l:List Nat} (h:Lim B l) (k:Nat) (hk:k≤l.length) (hB:0 < B):val B (l.drop k)=val B l / B ^ k:=by
 have h1:=val_take_drop (B:=B) l k hk
 have h2:=val_lt (h.take k)
 rw [List.length_take,Nat.min_eq_left hk] at h2
 rw [h1,Nat.add_mul_div_left _ _ (Nat.pow_pos hB),Nat.div_eq_of_lt h2,Nat.zero_add]
theorem limbs_zero:limbs B 0=[]:=by rw [limbs];simp
theorem limbs_pos (hB:2≤B) {n:Nat} (h:n ≠ 0):limbs B n=n % B :: limbs B (n / B):=by
 rw [limbs,dif_neg (by omega)]
theorem val_limbs (hB:2≤B) (n:Nat):val B (limbs B n)=n:=by
 induction n using Nat.strongRecOn with
 | ind n ih =>
   by_cases h:n=0
   · subst h;rw [limbs_zero];rfl
   · rw [limbs_pos hB h,val_cons,ih _ (Nat.div_lt_self (by omega) (by omega))]
     exact Nat.mod_add_div n B
theorem lim_limbs (hB:2≤B) (n:Nat):Lim B (limbs B n):=by
 induction n using Nat.strongRecOn with
 | ind n ih =>
   by_cases h:n=0
   · subst h;rw [limbs_zero];exact Lim.nil
   · rw [limbs_pos hB h]
     exact Lim.cons (Nat.mod_lt _ (by omega)) (ih _ (Nat.div_lt_self (by omega) (by omega)))
theorem limbs_eq_nil (hB:2≤B) {n:Nat}:limbs B n=[] ↔ n=0:=by
 constructor
 · intro h
   by_cases h0:n=0
   · exact h0
   · rw [limbs_pos hB h0] at h;cases h
 · rintro rfl;exact limbs_zero
theorem limbs_last (hB:2≤B) (n:Nat):(limbs B n).getLast? ≠ some 0:=by
 induction n using Nat.strongRecOn with
 | ind n ih =>
   by_cases h:n=0
   · subst h;rw [limbs_zero];simp
   · rw [limbs_pos hB h]
     by_cases h2:n / B=0
     · rw [h2,limbs_zero]
       have:n % B=n:=Nat.mod_eq_of_lt (by rcases Nat.div_eq_zero_iff.1 h2 with h | h <;> omega)
       rw [this];simpa using h
     · have h3:=ih _ (Nat.div_lt_self (by omega) (by omega):n / B < n)
       have h4:limbs B (n / B) ≠ []:=fun e=>h2 ((limbs_eq_nil hB).1 e)
       rw [List.getLast?_cons]
       cases h5:(limbs B (n / B)).getLast? with
       | none=>exact absurd (List.getLast?_eq_none_iff.1 h5) h4
       | some x=>rw [h5] at h3;simpa using h3
theorem limbs_val (hB:2≤B) {l:List Nat} (h:Lim B l) (ht:l.getLast? ≠ some 0):limbs B (val B l)=l:=by
 induction l with
 | nil=>exact limbs_zero
 | cons x l ih =>
   have hx:=h.head
   have hne:val B (x :: l) ≠ 0:=by
    intro e
    have ht2:=ht;rw [val_cons] at e
    have hx0:x=0:=by omega
    have hl0:val B l=0:=by
     rcases Nat.mul_eq_zero.1 (show B*val B l=0 by omega) with h | h
     · omega
     · exact h
    cases l with
    | nil=>subst hx0;simp at ht
    | cons y m =>
      have:=ih h.tail (by rw [List.getLast?_cons] at ht;rw [List.getLast?_cons] at *;simpa using ht)
      rw [hl0,limbs_zero] at this
      cases this
   rw [limbs_pos hB hne,val_cons]
   have e1:(x+B*val B l) % B=x:=by rw [Nat.add_mul_mod_self_left,Nat.mod_eq_of_lt hx]
   have e2:(x+B*val B l) / B=val B l:=by
    rw [Nat.add_mul_div_left _ _ (by omega),Nat.div_eq_of_lt hx,Nat.zero_add]
   rw [e1,e2]
   cases l with
   | nil=>simp [limbs_zero]
   | cons y m =>
     rw [ih h.tail (by rw [List.getLast?_cons] at ht;rw [List.getLast?_cons] at *;simpa using ht)]
theorem val_snoc_zeros (l:List Nat) (n:Nat):val B (l ++ List.replicate n 0)=val B l:=by
 rw [val_append,val_zeros];simp
theorem limbs_prefix (hB:2≤B) {l:List Nat} (h:Lim B l):l=limbs B (val B l) ++ List.replicate (l.length - (limbs B (val B l)).length) 0∧(limbs B (val B l)).length≤l.length:=by
 induction l with
 | nil=>simp [limbs_zero]
 | cons x l ih =>
   obtain ⟨h1,h2⟩:=ih h.tail
   have hx:=h.head
   by_cases hne:val B (x :: l)=0
   · rw [hne,limbs_zero]
     rw [val_cons] at hne
     have hx0:x=0:=by omega
     have hl0:val B l=0:=by
      rcases Nat.mul_eq_zero.1 (show B*val B l=0 by omega) with h | h
      · omega
      · exact h
     rw [hl0,limbs_zero] at h1
     constructor
     · subst hx0
       simp only [List.nil_append,List.length_nil,Nat.sub_zero,List.length_cons,List.replicate_succ] at h1 ⊢
       rw [← h1]
     · simp
   · rw [limbs_pos hB hne,val_cons]
     have e1:(x+B*val B l) % B=x:=by rw [Nat.add_mul_mod_self_left,Nat.mod_eq_of_lt hx]
     have e2:(x+B*val B l) / B=val B l:=by
      rw [Nat.add_mul_div_left _ _ (by omega),Nat.div_eq_of_lt hx,Nat.zero_add]
     rw [e1,e2]
     constructor
     · simp only [List.cons_append,List.length_cons,Nat.add_sub_add_right]
       rw [← h1]
     · simpa using h2
theorem limbs_take (hB:2≤B) {l:List Nat} (h:Lim B l):l.take (limbs B (val B l)).length=limbs B (val B l):=by
 obtain ⟨h1,_⟩:=limbs_prefix hB h
 exact (congrArg (List.take _) h1).trans List.take_left
theorem length_limbs_le (hB:2≤B) {n k:Nat} (h:n < B ^ k):(limbs B n).length≤k:=by
 induction k generalizing n with
 | zero => have : n = 0 := by simpa using h
           subst this;simp [limbs_zero]
 | succ k ih =>
   by_cases h0:n=0
   · subst h0;simp [limbs_zero]
   · rw [limbs_pos hB h0,List.length_cons]
     have:n / B < B ^ k:=by
      rw [Nat.div_lt_iff_lt_mul (by omega)]
      rw [Nat.pow_succ] at h;exact h
     have:=ih this
     omega
theorem lt_pow_limbs (hB:2≤B) (n:Nat):n < B ^ (limbs B n).length:=by
 have:=val_lt (lim_limbs hB n)
 rwa [val_limbs hB] at this
theorem pow_le_of_length (hB:2≤B) {n k:Nat} (h:k < (limbs B n).length):B ^ k≤n:=by
 rcases Nat.lt_or_ge n (B ^ k) with h1 | h1
 · have:=length_limbs_le hB h1;omega
 · exact h1
theorem length_limbs_mono (hB:2≤B) {m n:Nat} (h:m≤n):(limbs B m).length≤(limbs B n).length :=
 length_limbs_le hB (Nat.lt_of_le_of_lt h (lt_pow_limbs hB n))
end
end
section
open Go.RowKit
theorem add_at (g o j:Nat):(⟨g,o,none⟩:Addr).add j=⟨g,o+j,none⟩:=by
 unfold Addr.add;split
 · subst_vars;rfl
 · rfl
def nums (K:IntKind) (l:List Nat):List Value:=l.map fun (x:Nat)=>Value.int K (x:Int)
theorem length_nums (K:IntKind) (l:List Nat):(nums K l).length=l.length:=by simp [nums]
theorem nums_get (K:IntKind) (l:List Nat) (j:Nat):(nums K l)[j]?=(l[j]?).map fun (x:Nat)=>Value.int K (x:Int):=by simp [nums]
theorem nums_append (K:IntKind) (a b:List Nat):nums K (a ++ b)=nums K a ++ nums K b:=by simp [nums]
theorem nums_take (K:IntKind) (l:List Nat) (k:Nat):nums K (l.take k)=(nums K l).take k:=by simp [nums,List.map_take]
theorem nums_drop (K:IntKind) (l:List Nat) (k:Nat):nums K (l.drop k)=(nums K l).drop k:=by simp [nums,List.map_drop]
theorem nums_one (K:IntKind) (l:List Nat):∀ u ∈ nums K l,u.oneCell'=true:=by
 intro u hu;simp only [nums,List.mem_map] at hu;obtain ⟨x,_,rfl⟩:=hu;rfl
theorem nums_zeros (K:IntKind) (n:Nat):nums K (List.replicate n 0)=List.replicate n (Value.int K 0):=by simp [nums]
theorem nums_set (K:IntKind) (l:List Nat) (i v:Nat):nums K (l.set i v)=(nums K l).set i (.int K (v:Int)):=by simp [nums,List.map_set]
def Rd (K:IntKind) (w:World) (A:Option Addr) (n:Nat) (l:List Nat):Prop :=
 l.length=n∧(0 < n→∃ b o:Nat,A=some ⟨b,o,none⟩∧∀ j x:Nat,l[j]?=some x→w.cell? ⟨b,o+j,none⟩=some (.int K (x:Int)))
def Off (A:Option Addr) (n g:Nat):Prop:=0 < n→∀ ad,A=some ad→ad.block ≠ g
structure Only (g:Nat) (w w':World):Prop where
 os:w'.os=w.os
 tape:w'.tape=w.tape
 output:w'.output=w.output
 size:w.heap.size≤w'.heap.size
 block:∀ k,k < w.heap.size→k ≠ g→w'.heap[k]?=w.heap[k]?
section
variable {K:IntKind} {w w':World} {A:Option Addr} {n g:Nat} {l:List Nat}
theorem Rd.nil:Rd K w A 0 []:=⟨rfl,fun h=>absurd h (by omega)⟩
theorem Rd.at_ (h:Rd K w A n l) (hn:0 < n):∃ b o:Nat,A=some ⟨b,o,none⟩∧∀ k,k < n→∃ x:Nat,l[k]?=some x∧w.cell? ⟨b,o+k,none⟩=some (.int K (x:Int)):=by
 obtain ⟨b,o,e,hc⟩:=h.2 hn
 refine ⟨b,o,e,fun k hk=>?_⟩
 have hl:k < l.length:=by have:=h.1;omega
 exact ⟨l[k],List.getElem?_eq_getElem hl,hc k _ (List.getElem?_eq_getElem hl)⟩
theorem Rd.keep (h:Rd K w A n l) (hk:0 < n→∀ ad,A=some ad→∀ p:Addr,p.block=ad.block→w'.cell? p=w.cell? p):Rd K w' A n l :=
 ⟨h.1,fun hn=>by
  obtain ⟨b,o,e,hc⟩:=h.2 hn
  exact ⟨b,o,e,fun j u hu=>(hk hn _ e ⟨b,o+j,none⟩ rfl).trans (hc j u hu)⟩⟩
theorem Rd.lt (h:Rd K w A n l) (hn:0 < n):∀ ad,A=some ad→ad.block < w.heap.size:=by
 intro ad e
 obtain ⟨b,o,e',hx⟩:=h.at_ hn
 obtain ⟨x,_,hc⟩:=hx 0 hn
 rw [e] at e';cases e'
 exact World.block_lt_of_cell? w _ hc
theorem Rd.below (h:Rd K w A n l) (hb:Below w.heap.size w w'):Rd K w' A n l :=
 h.keep fun hn ad e p hp=>hb.cell (by rw [hp];exact h.lt hn ad e)
theorem Rd.drew (h:Rd K w A n l):Rd K w.drew A n l:=⟨h.1,h.2⟩
theorem Rd.drewN (h:Rd K w A n l) (k:Nat):Rd K (w.drewN k) A n l:=⟨h.1,h.2⟩
theorem Rd.only (h:Rd K w A n l) (hg:Off A n g) (hb:Only g w w'):Rd K w' A n l :=
 h.keep fun hn ad e p hp=>World.cell?_of_block (hb.block p.block (by rw [hp];exact h.lt hn ad e) (by rw [hp];exact hg hn ad e))
theorem Rd.alloc (h:Rd K w A n l) (o:Obj):Rd K (w.alloc o) A n l :=
 h.keep fun hn ad e p hp=>World.cell?_alloc_lt w o p (by rw [hp];exact h.lt hn ad e)
theorem Rd.take (h:Rd K w A n l) {k:Nat} (hk:k≤n):Rd K w A k (l.take k):=by
 refine ⟨by rw [List.length_take,h.1];omega,fun hn=>?_⟩
 obtain ⟨b,o,e,hc⟩:=h.2 (by omega)
 refine ⟨b,o,e,fun j u hu=>hc j u ?_⟩
 rw [List.getElem?_take] at hu
 split at hu
 · exact hu
 · cases hu
theorem Rd.drop (h:Rd K w A n l) {k:Nat} (hk:k≤n) {A':Option Addr} (hA:k < n→A'=A.map (·.add k)):Rd K w A' (n - k) (l.drop k):=by
 refine ⟨by rw [List.length_drop,h.1],fun hn=>?_⟩
 obtain ⟨b,o,rfl,hcell⟩:=h.2 (by omega)
 refine ⟨b,o+k,by rw [hA (by omega)];simp [add_at],fun j u hu=>?_⟩
 rw [Nat.add_assoc]
 exact hcell _ u (by rw [← hu,List.getElem?_drop])
theorem Off.take (h:Off A n g) {k:Nat} (hk:k≤n):Off A k g:=fun hn=>h (by omega)
theorem Off.of_lt (h:Rd K w A n l) (hg:w.heap.size≤g):Off A n g:=fun hn ad e=>by have:=h.lt hn ad e;omega
theorem Only.refl (g:Nat) (w:World):Only g w w:=⟨rfl,rfl,rfl,Nat.le_refl _,fun _ _ _=>rfl⟩
theorem Only.trans {w0:World} (h:Only g w0 w) (k:Only g w w'):Only g w0 w' :=
 ⟨k.os.trans h.os,k.tape.trans h.tape,k.output.trans h.output,Nat.le_trans h.size k.size,fun i hi hg=>(k.block i (Nat.lt_of_lt_of_le hi h.size) hg).trans (h.block i hi hg)⟩
theorem Only.drew {w0:World} (h:Only g w0 w):Only g w0 w.drew:=⟨h.os,h.tape,h.output,h.size,h.block⟩
theorem Only.setCell {w0:World} (h:Only g w0 w) (i:Nat) (u:Value):Only g w0 (w.setCell ⟨g,i,none⟩ u) :=
 h.trans ⟨rfl,rfl,rfl,by simp,fun k _ hk=>Below.heap_setCell _ _ _ _ hk⟩
theorem Below.only {B:Nat} {w0:World} (h:Below B w0 w) (hB:B≤g) (hb:B≤w.heap.size) (k:Only g w w'):Below B w0 w' :=
 h.trans ⟨k.os,k.tape,k.output,k.size,fun i hi=>k.block i (by omega) (by omega)⟩
theorem Below.to_only {B:Nat} (h:Below B w w') (hB:w.heap.size≤B):Only g w w' :=
 ⟨h.os,h.tape,h.output,h.size,fun i hi _=>h.block i (by omega)⟩
end
def Own (K:IntKind) (e:TypeId) (w:World) (g:Nat) (L:List Nat):Prop:=w.heap[g]?=some (.cells (nums K L).toArray e (0,0))
section
variable {K:IntKind} {e:TypeId} {w w':World} {g:Nat} {L:List Nat}
theorem Own.lt (h:Own K e w g L):g < w.heap.size:=by
 rcases Nat.lt_or_ge g w.heap.size with hlt | hge
 · exact hlt
 · unfold Own at h;rw [Array.getElem?_eq_none hge] at h;cases h
theorem Own.cell (h:Own K e w g L) (i:Nat):w.cell? ⟨g,i,none⟩=(L[i]?).map fun (x:Nat)=>Value.int K (x:Int):=by
 rw [cell_of_row w g i _ e (0,0) h,List.getElem?_toArray,nums_get]
theorem Own.cell_at (h:Own K e w g L) {i x:Nat} (hx:L[i]?=some x):w.cell? ⟨g,i,none⟩=some (.int K (x:Int)):=by rw [h.cell,hx];rfl
theorem Own.frozen (h:Own K e w g L) (i:Nat):w.frozen? ⟨g,i,none⟩=false:=frozen_of_row w g i _ e h
theorem Own.drew (h:Own K e w g L):Own K e w.drew g L:=h
theorem Own.alloc (h:Own K e w g L) (o:Obj):Own K e (w.alloc o) g L:=(Below.heap_alloc w o g h.lt).trans h
theorem Own.set_ (h:Own K e w g L) (i v:Nat):Own K e (w.setCell ⟨g,i,none⟩ (.int K (v:Int))) g (L.set i v):=by
 unfold Own at h ⊢
 rw [nums_set]
 simp [World.setCell,Array.getElem?_modify,h]
theorem Own.below {B:Nat} (h:Own K e w g L) (hb:Below B w w') (hg:g < B):Own K e w' g L:=(hb.block g hg).trans h
theorem Own.only {g':Nat} (h:Own K e w g L) (hb:Only g' w w') (hg:g ≠ g'):Own K e w' g L:=(hb.block g h.lt hg).trans h
theorem Own.rd (h:Own K e w g L) {o n:Nat} {l:List Nat} (hl:l.length=n) (hL:∀ j x:Nat,l[j]?=some x→L[o+j]?=some x):Rd K w (some ⟨g,o,none⟩) n l :=
 ⟨hl,fun _=>⟨_,_,rfl,fun j x hx=>h.cell_at (hL j x hx)⟩⟩
theorem Own.of_row {B n:Nat} (h:w.ownsRow B e 1 (.slice (some ⟨g,0,none⟩) n n) n (nums K L)):Own K e w g L∧B≤g∧L.length=n:=by
 obtain ⟨h1,h2⟩:=h
 rw [length_nums] at h1
 rcases h2 with ⟨h2,_⟩ | ⟨g',cap,cur,hv,hg,hh,_,_,hs,ht⟩
 · cases h2
 · injection hv with ha _ hc
   injection ha with ha
   injection ha with ha
   subst ha;subst hc
   have hcur:cur=(nums K L).toArray:=by
    rw [← ht,List.take_of_length_le (by simp;omega)]
   rw [hcur] at hh
   exact ⟨hh,hg,by omega⟩
end
def Fr (K:IntKind) (e:TypeId) (w:World) (B:Nat) (A:Option Addr) (n c:Nat) (l:List Nat):Prop :=
 l.length=n∧w.ownsRow B e 1 (.slice A n c) n (nums K l)
section
variable {K:IntKind} {e:TypeId} {w w':World} {B n c:Nat} {A:Option Addr} {l:List Nat}
theorem Fr.nil:Fr K e w B none 0 0 []:=⟨rfl,World.ownsRow_nil _ _ _ _⟩
theorem Fr.rd (h:Fr K e w B A n c l):Rd K w A n l:=by
 refine ⟨h.1,fun hn=>?_⟩
 obtain ⟨g,cap,hv,_,hlt⟩:=h.2.form hn
 have hA:A=some ⟨g,0,none⟩:=by injection hv
 subst hA
 refine ⟨_,_,rfl,fun j x hx=>?_⟩
 have:=h.2.cells (g:=g) rfl j (.int K (x:Int)) (by rw [nums_get,hx];rfl)
 rwa [add_at] at this
theorem Fr.more {B':Nat} (h:Fr K e w B A n c l) (hB:B'≤B):Fr K e w B' A n c l:=by
 refine ⟨h.1,h.2.1,?_⟩
 rcases h.2.2 with h2 | ⟨g,cap,cur,hv,hg,r⟩
 · exact .inl h2
 · exact .inr ⟨g,cap,cur,hv,by omega,r⟩
theorem Fr.of_own {L:List Nat} {g k:Nat} (h:Own K e w g L) (hB:B≤g) (hk:k≤L.length) (hm:L.length≤maxLen):Fr K e w B (some ⟨g,0,none⟩) k L.length (L.take k):=by
 refine ⟨by rw [List.length_take];omega,?_,.inr ⟨g,L.length,_,rfl,hB,h,hk,hm,?_,?_⟩⟩
 · rw [length_nums,List.length_take];omega
 · simp [length_nums]
 · simp [nums_take]
theorem Fr.own (h:Fr K e w B A n c l) (hn:0 < n):∃ g,A=some ⟨g,0,none⟩∧B≤g∧g < w.heap.size:=by
 obtain ⟨g,cap,hv,hb,hlt⟩:=h.2.form hn
 exact ⟨g,by injection hv,hb,hlt⟩
theorem Fr.only {g:Nat} (h:Fr K e w B A n c l) (ho:Only g w w') (hne:∀ ad,A=some ad→ad.block ≠ g):Fr K e w' B A n c l:=by
 refine ⟨h.1,h.2.1,?_⟩
 rcases h.2.2 with h2 | ⟨g',cap,cur,hv,hg,hh,r⟩
 · exact .inl h2
 · refine .inr ⟨g',cap,cur,hv,hg,?_,r⟩
   have hlt:g' < w.heap.size:=by
    rcases Nat.lt_or_ge g' w.heap.size with hlt | hge
    · exact hlt
    · rw [Array.getElem?_eq_none hge] at hh;cases hh
   rw [ho.block g' hlt (hne _ (by injection hv))]
   exact hh
theorem Fr.below {B':Nat} (h:Fr K e w B A n c l) (ho:Below B' w w') (hB:w.heap.size≤B'):Fr K e w' B A n c l:=by
 refine ⟨h.1,h.2.1,?_⟩
 rcases h.2.2 with h2 | ⟨g',cap,cur,hv,hg,hh,r⟩
 · exact .inl h2
 · refine .inr ⟨g',cap,cur,hv,hg,?_,r⟩
   have hlt:g' < w.heap.size:=by
    rcases Nat.lt_or_ge g' w.heap.size with hlt | hge
    · exact hlt
    · rw [Array.getElem?_eq_none hge] at hh;cases hh
   rw [ho.block g' (by omega)]
   exact hh
end
theorem ret_eq {a b:Value} (h:a=b):Ending.returned a=.returned b:=by rw [h]
theorem ret_two {k k':IntKind} {a a' b b':Int} (h:a=a') (h':b=b'):Ending.returned (.tuple #[.int k a,.int k' b])=.returned (.tuple #[.int k a',.int k' b']):=by rw [h,h']
theorem ret_int {k:IntKind} {a b:Int} (h:a=b):Ending.returned (.int k a)=.returned (.int k b):=by rw [h]
def sLen:Value→Nat
 | .slice _ n _=>n
 | _=>0
def B64:Nat:=18446744073709551616
def B32:Nat:=4294967296
theorem B64_two:2≤B64:=by decide
theorem B32_two:2≤B32:=by decide
theorem quiet_add_same {P:Program} {f:FuncId} {args:Array Value} {a n:Nat} {v:Value}
 (h:Calls P f args (w.drewN (a+n)) fun e w'=>e=.returned v∧w'=w.drewN (a+n)) :
 Calls P f args (w.drewN (a+n)) fun e w''=>e=.returned v∧∃ m,w''=w.drewN (a+m) :=
 h.mono fun _ _ ⟨he,hm⟩=>⟨he,n,hm⟩
theorem drewN3 (w:World) (a b c:Nat):∃ k,((w.drewN a).drewN b).drewN c=w.drewN k:=⟨a+b+c,by rw [World.drewN_drewN,World.drewN_drewN,Nat.add_assoc]⟩
end
section
open Go.RowKit
theorem B64_eq:B64=18446744073709551616:=rfl
theorem split64 {s:Nat} (hs:s≤64):B64=2 ^ s*2 ^ (64 - s):=by
 rw [← Nat.pow_add,show s+(64 - s)=64 by omega];rfl
theorem wrap_nat (n:Nat):IntKind.u64.wrap (n:Int)=((n % B64:Nat):Int):=by
 rw [IntKind.wrap_u64,B64_eq];omega
theorem wrap_add (a b:Nat) (h:a+b < B64):IntKind.u64.wrap ((a:Int)+(b:Int))=((a+b:Nat):Int):=by
 have:=wrap_nat (a+b)
 rw [Nat.mod_eq_of_lt h] at this
 exact this
theorem shr_nat (v k:Nat):((v:Int) / 2 ^ k)=((v / 2 ^ k:Nat):Int):=by simp
theorem shl_wrap (v s:Nat):IntKind.u64.wrap ((v:Int)*2 ^ s)=((v*2 ^ s % B64:Nat):Int):=by
 rw [← wrap_nat];congr 1
theorem shl_mod {s:Nat} (hs:s≤64) (v:Nat):v*2 ^ s % B64=2 ^ s*(v % 2 ^ (64 - s)):=by
 rw [split64 hs,Nat.mul_comm v,Nat.mul_mod_mul_left]
theorem shl_div {s:Nat} (hs:s≤64) (v:Nat):v*2 ^ s / B64=v / 2 ^ (64 - s):=by
 rw [split64 hs,Nat.mul_comm v,Nat.mul_div_mul_left _ _ (Nat.two_pow_pos s)]
theorem shl_parts {s:Nat} (hs:s≤64) (v:Nat):v*2 ^ s=v*2 ^ s % B64+B64*(v / 2 ^ (64 - s)):=by
 rw [← shl_div hs];exact (Nat.mod_add_div _ _).symm
theorem or_low {s:Nat} (a b:Nat) (hb:b < 2 ^ s):(2 ^ s*a) ||| b=2 ^ s*a+b:=(Nat.two_pow_add_eq_or_of_lt hb a).symm
theorem shl_low {s y:Nat} (hs:s≤64) (v:Nat) (hy:y < 2 ^ s):v*2 ^ s % B64+y < B64:=by
 rw [shl_mod hs]
 have h1:v % 2 ^ (64 - s)+1≤2 ^ (64 - s):=Nat.mod_lt _ (Nat.two_pow_pos _)
 have h2:=Nat.mul_le_mul_left (2 ^ s) h1
 rw [← split64 hs,Nat.mul_add] at h2
 omega
theorem or_up {s y:Nat} (hs:s≤64) (v:Nat) (hy:y < 2 ^ s) :
 bits .or .u64 (IntKind.u64.wrap ((v:Int)*2 ^ s)) (y:Int)=((v*2 ^ s % B64+y:Nat):Int):=by
 have h:=shl_low hs v hy
 rw [shl_wrap,u64_or_nat _ _ (by rw [← B64_eq];omega) (by rw [← B64_eq];omega),shl_mod hs,or_low _ _ hy]
theorem shr_lt {s v:Nat} (hs:s≤64) (hv:v < B64):v / 2 ^ (64 - s) < 2 ^ s:=by
 rw [Nat.div_lt_iff_lt_mul (Nat.two_pow_pos _),← split64 hs];exact hv
theorem or_down {s:Nat} (hs:s≤64) (x u:Nat) (hx:x < B64) :
 bits .or .u64 ((x / 2 ^ s:Nat):Int) (IntKind.u64.wrap ((u:Int)*2 ^ (64 - s)))=((x / 2 ^ s+u*2 ^ (64 - s) % B64:Nat):Int):=by
 have hl:x / 2 ^ s < 2 ^ (64 - s):=by
  have:=shr_lt (s:=64 - s) (by omega) hx
  rwa [show 64 - (64 - s)=s by omega] at this
 have h1:x / 2 ^ s < B64:=Nat.lt_of_le_of_lt (Nat.div_le_self _ _) hx
 have h2:u*2 ^ (64 - s) % B64 < B64:=Nat.mod_lt _ (by decide)
 rw [shl_wrap,u64_or_nat _ _ (by rw [← B64_eq];omega) (by rw [← B64_eq];omega),Nat.or_comm,shl_mod (by omega),or_low _ _ hl,Nat.add_comm]
theorem down_lt {s x:Nat} (hs:s≤64) (hx:x < B64) (u:Nat):x / 2 ^ s+u*2 ^ (64 - s) % B64 < B64:=by
 have hl:x / 2 ^ s < 2 ^ (64 - s):=by
  have:=shr_lt (s:=64 - s) (by omega) hx
  rwa [show 64 - (64 - s)=s by omega] at this
 have:=shl_low (s:=64 - s) (by omega) u hl
 omega
/-! ### shifts of limbs -/
theorem up_start {lx:List Nat} {s:Nat}:val B64 ([]:List Nat)+B64 ^ 0*0=val B64 (lx.take 0)*2 ^ s:=by simp
theorem val_take_succ {B:Nat} {l:List Nat} {k v:Nat} (hv:l[k]?=some v):val B (l.take (k+1))=val B (l.take k)+B ^ k*v:=by
 have hk:=(List.getElem?_eq_some_iff.1 hv).1
 rw [List.take_succ_eq_append_getElem hk,val_snoc,List.length_take,Nat.min_eq_left (by omega),(List.getElem?_eq_some_iff.1 hv).2]
theorem up_step {lx P:List Nat} {s k v y:Nat} (hs:s≤64) (hP:P.length=k) (hv:lx[k]?=some v) (h:val B64 P+B64 ^ k*y=val B64 (lx.take k)*2 ^ s) :
 val B64 (P ++ [v*2 ^ s % B64+y])+B64 ^ (k+1)*(v / 2 ^ (64 - s))=val B64 (lx.take (k+1))*2 ^ s:=by
 have hp:=shl_parts hs v
 rw [val_snoc,val_take_succ hv,hP,Nat.pow_succ]
 grind
theorem down_step {l:List Nat} {s k x:Nat} (hs:s≤64) (hx:l[k]?=some x) :
 val B64 (l.drop k) / 2 ^ s=(x / 2 ^ s+(l[k+1]?.getD 0)*2 ^ (64 - s) % B64)+B64*(val B64 (l.drop (k+1)) / 2 ^ s):=by
 have hk:=(List.getElem?_eq_some_iff.1 hx).1
 rw [List.drop_eq_getElem_cons hk,(List.getElem?_eq_some_iff.1 hx).2,val_cons]
 have hm:(l[k+1]?.getD 0)*2 ^ (64 - s) % B64=2 ^ (64 - s)*(val B64 (l.drop (k+1)) % 2 ^ s):=by
  rw [shl_mod (by omega),show 64 - (64 - s)=s by omega]
  congr 1
  by_cases h:k+1 < l.length
  · rw [List.getElem?_eq_getElem h,Option.getD_some,List.drop_eq_getElem_cons h,val_cons,split64 hs,Nat.mul_assoc,Nat.add_mul_mod_self_left]
  · rw [List.getElem?_eq_none (by omega),List.drop_of_length_le (by omega)];simp
 rw [hm]
 generalize val B64 (l.drop (k+1))=D
 have hD:=Nat.mod_add_div D (2 ^ s)
 have e:x+B64*D=x+2 ^ s*(2 ^ (64 - s)*D):=by rw [split64 hs,Nat.mul_assoc]
 rw [e,Nat.add_mul_div_left _ _ (Nat.two_pow_pos s),split64 hs]
 generalize 2 ^ (64 - s)=t at *
 generalize 2 ^ s=p at *
 have:t*D=t*(D % p)+p*t*(D / p):=by
  conv=>lhs;rw [← hD]
  grind
 omega
end
section
open Go.RowKit
def Above0 (l:List Nat) (k:Nat):Prop:=∀ j x:Nat,k≤j→l[j]?=some x→x=0
theorem Above0.down {l:List Nat} {k:Nat} (h:Above0 l k) (hk:0 < k) (h0:l[k - 1]?=some 0):Above0 l (k - 1):=by
 intro j x hj hx
 by_cases e:j=k - 1
 · subst e;rw [h0] at hx;cases hx;rfl
 · exact h j x (by omega) hx
theorem Above0.eq {l:List Nat} {k:Nat} (h:Above0 l k):l=l.take k ++ List.replicate (l.length - k) 0:=by
 have:l.drop k=List.replicate (l.length - k) 0:=by
  apply List.ext_getElem (by simp)
  intro i h1 h2
  rw [List.getElem_replicate]
  refine h (k+i) _ (by omega) ?_
  rw [← List.getElem?_drop]
  exact List.getElem?_eq_getElem h1
 conv=>lhs;rw [← List.take_append_drop k l,this]
theorem trimmed {B:Nat} (hB:2≤B) {l:List Nat} {k:Nat} (hL:Lim B l) (hk:k≤l.length) (h:Above0 l k) (hx:∀ x,0 < k→l[k - 1]?=some x→x ≠ 0):l.take k=limbs B (val B l):=by
 have e:val B l=val B (l.take k):=by
  conv=>lhs;rw [h.eq]
  exact val_snoc_zeros _ _
 rw [e]
 refine (limbs_val hB (hL.take k) ?_).symm
 intro hc
 rw [List.getLast?_eq_getElem?,List.length_take,Nat.min_eq_left hk] at hc
 by_cases h0:k=0
 · subst h0;simp at hc
 · rw [List.getElem?_take,if_pos (by omega)] at hc
   exact hx 0 (by omega) hc rfl
theorem trim_any (l:List Nat) (A:Option Addr) (n c:Nat) (w:World) (h:Rd .u64 w A n l) (hL:Lim B64 l) (hn:n≤maxLen) (hnc:n≤c) :
 Calls Tryz.prog 103 #[.slice A n c] w fun e w'=>(∃ k,k≤n∧e=.returned (.slice A k c)∧Rd .u64 w A k (limbs B64 (val B64 l)))∧w=w':=by
 unfold maxLen at hn
 have hlen:=h.1
 have fin:∀ k,k≤n→Above0 l k→(∀ x,0 < k→l[k - 1]?=some x→x ≠ 0)→Rd .u64 w A k (limbs B64 (val B64 l)):=by
  intro k hk h0 hx
  rw [← trimmed B64_two hL (by omega) h0 hx]
  exact h.take hk
 have HL:=Lib.hid hlen;clear hlen
 go_enter Tryz.func103,Tryz.ntmps103
 go_wp2
 go_loop [0] (fun a=>∃ k,k≤n∧Above0 l k∧a=.slice A k c) (fun a=>sLen a)
 case atStart=>exact ⟨n,Nat.le_refl _,fun j x hj hx=>absurd (List.getElem?_eq_some_iff.1 hx).1 (by have:=HL.out;omega),rfl⟩
 case round =>
  obtain ⟨k,hk,h0,rfl⟩:=hrel
  by_cases hk0:0 < k
  · obtain ⟨b,o,rfl,hc⟩:=h.at_ (by omega)
    obtain ⟨x,hx,hcx⟩:=hc (k - 1) (by omega)
    have hkc:(k:Int) - 1≤(c:Int):=by omega
    go_wp2
    · go_round
      case rel =>
       have hx0 : x = 0 := by have hq : ((x : Int) == 0) = true := by assumption
                              simpa using hq
       subst hx0
       exact ⟨k - 1,by omega,h0.down hk0 hx,rfl⟩
      case measure=>simp [sLen];omega
    · have hx0 : x ≠ 0 := by have hq : ((x : Int) == 0) = false := by assumption
                             simpa using hq
      go_ret
      exact ⟨⟨k,hk,rfl,fin k hk h0 (fun y _ hy=>by rw [hx] at hy;cases hy;exact hx0)⟩,rfl⟩
  · obtain rfl:k=0:=by omega
    go_wp2
    go_ret
    exact ⟨⟨0,hk,rfl,fin 0 hk h0 (fun y hy _=>absurd hy (by omega))⟩,rfl⟩
end
section
open Go.RowKit
def GivesS (K:IntKind) (t:TypeId) (w:World) (l:List Nat) (e:Ending) (w':World):Prop :=
 ∃ A n c,e=.returned (.slice A n c)∧n≤c∧c≤maxLen∧Fr K t w' w.heap.size A n c l∧Below w.heap.size w w'
theorem limbs_small {B v:Nat} (hB:2≤B) (hv:v < B) (h0:v ≠ 0):limbs B v=[v]:=by
 rw [limbs_pos hB h0,Nat.mod_eq_of_lt hv,Nat.div_eq_of_lt hv,limbs_zero]
theorem of_any (v:Nat) (hv:v < B64) (w:World) :
 Calls Tryz.prog 90 #[.int .u64 (v:Int)] w (GivesS .u64 74 w (limbs B64 v)):=by
 by_cases h0:v=0
 · subst h0
   go_enter Tryz.func90,Tryz.ntmps90
   go_wp2
   go_ret
   exact ⟨_,_,_,rfl,Nat.le_refl _,by decide,by rw [limbs_zero];exact Fr.nil,Below.refl _ _⟩
 · have hne:((v:Int) == 0)=false:=by simp;omega
   go_enter Tryz.func90,Tryz.ntmps90
   go_wp2
   go_ret
   refine ⟨_,_,_,rfl,Nat.le_refl _,by decide,?_,(Below.refl _ _).alloc (Nat.le_refl _) _⟩
   rw [limbs_small B64_two hv h0]
   exact Fr.of_own (L:=[v]) (k:=1) (heap_alloc_new w _) (Nat.le_refl _) (by simp) (show 1≤maxLen by decide)
end
section
open Go.RowKit
def cmpN (a b:Nat):Int:=if a < b then -1 else if b < a then 1 else 0
theorem cmpN_lt {a b:Nat} (h:a < b):cmpN a b=-1:=by rw [cmpN,if_pos h]
theorem cmpN_gt {a b:Nat} (h:b < a):cmpN a b=1:=by rw [cmpN,if_neg (by omega),if_pos h]
theorem cmpN_eq {a b:Nat} (h:a=b):cmpN a b=0:=by rw [cmpN,if_neg (by omega),if_neg (by omega)]
theorem compareInt_cmpN (a b:Nat):Lib.compareInt (a:Int) (b:Int)=cmpN a b:=by
 unfold Lib.compareInt cmpN
 by_cases h:a < b
 · rw [if_pos (by omega),if_pos h]
 · rw [if_neg (by omega),if_neg h]
   by_cases h2:b < a
   · rw [if_pos (by omega),if_pos h2]
   · rw [if_neg (by omega),if_neg h2]
theorem val_lt_of {B:Nat} {a b:List Nat} (ha:Lim B a) (hl:a.length=b.length) {i x y:Nat} (hx:a[i]?=some x) (hy:b[i]?=some y) (hxy:x < y)
 (he:∀ j,i < j→a[j]?=b[j]?):val B a < val B b:=by
 have hia:i < a.length:=(List.getElem?_eq_some_iff.1 hx).1
 have hib:i < b.length:=by omega
 have ea:=val_take_drop (B:=B) a i (by omega)
 have eb:=val_take_drop (B:=B) b i (by omega)
 have da:a.drop i=x :: a.drop (i+1):=by
  rw [List.drop_eq_getElem_cons hia];congr 1
  exact (List.getElem?_eq_some_iff.1 hx).2
 have db:b.drop i=y :: b.drop (i+1):=by
  rw [List.drop_eq_getElem_cons hib];congr 1
  exact (List.getElem?_eq_some_iff.1 hy).2
 have e1:a.drop (i+1)=b.drop (i+1):=by
  apply List.ext_getElem?
  intro j
  rw [List.getElem?_drop,List.getElem?_drop]
  exact he _ (by omega)
 rw [da,val_cons] at ea
 rw [db,val_cons,← e1] at eb
 have ht:=val_lt (ha.take i)
 rw [List.length_take,Nat.min_eq_left (by omega)] at ht
 rw [ea,eb]
 have:B ^ i*(x+B*val B (a.drop (i+1)))+B ^ i≤B ^ i*(y+B*val B (a.drop (i+1))):=by
  rw [show B ^ i*(x+B*val B (a.drop (i+1)))+B ^ i=B ^ i*(x+B*val B (a.drop (i+1))+1) by rw [Nat.mul_add (B ^ i) _ 1];omega]
  exact Nat.mul_le_mul_left _ (by omega)
 omega
theorem cmp64_any (x y:Nat) (w:World) :
 Calls Tryz.prog 123 #[.int .u64 (x:Int),.int .u64 (y:Int)] w fun e w'=>e=.returned (.int .i64 (cmpN x y))∧w'=w:=by
 by_cases h1:x < y
 · rw [cmpN_lt h1]
   go_enter Tryz.func123,Tryz.ntmps123
   go_wp2
   go_ret
   exact ⟨rfl,rfl⟩
 · by_cases h2:y < x
   · rw [cmpN_gt h2]
     go_enter Tryz.func123,Tryz.ntmps123
     go_wp2
     go_ret
     exact ⟨rfl,rfl⟩
   · obtain rfl:x=y:=by omega
     rw [cmpN_eq rfl];clear h1 h2
     go_enter Tryz.func123,Tryz.ntmps123
     go_wp2
     go_ret
     exact ⟨rfl,rfl⟩
theorem cmpint_any (x y:Nat) (w:World) :
 Calls Tryz.prog 94 #[.int .i64 (x:Int),.int .i64 (y:Int)] w fun e w'=>e=.returned (.int .i64 (cmpN x y))∧w=w' :=
 (Tryz.cmp_Compare_int (x:Int) (y:Int) w).mono fun _ _ ⟨he,hw⟩=>⟨by rw [he,compareInt_cmpN],hw.symm⟩
theorem cmp_of_length {a b:Nat} (h:(limbs B64 a).length < (limbs B64 b).length):a < b :=
 Nat.lt_of_lt_of_le (lt_pow_limbs B64_two a) (pow_le_of_length B64_two h)
theorem cmpN_length {a b:Nat} {k m:Nat} (ha:(limbs B64 a).length=k) (hb:(limbs B64 b).length=m) (h:((k:Int) != (m:Int))=true):cmpN k m=cmpN a b:=by
 have hne:k ≠ m:=by simp at h;omega
 rcases Nat.lt_or_ge k m with h1 | h1
 · rw [cmpN_lt h1,cmpN_lt (cmp_of_length (by omega))]
 · rw [cmpN_gt (by omega),cmpN_gt (cmp_of_length (by omega))]
theorem cmp_any (la lb:List Nat) (A B:Option Addr) (n c m d:Nat) (w:World) (ha:Rd .u64 w A n la) (hb:Rd .u64 w B m lb) (La:Lim B64 la) (Lb:Lim B64 lb)
 (hn:n≤maxLen) (hm:m≤maxLen) (hnc:n≤c) (hmd:m≤d) :
 Calls Tryz.prog 95 #[.slice A n c,.slice B m d] w fun e w'=>e=.returned (.int .i64 (cmpN (val B64 la) (val B64 lb)))∧∃ q,w'=w.drewN q:=by
 have HN:=Lib.hid hn;have HM:=Lib.hid hm
 unfold maxLen at hn hm
 go_enter Tryz.func95,Tryz.ntmps95
 go_wp2_with (first | (go_at_call 103;((with_reducible refine (trim_any la A n c _ ha La HN.out hnc).mono ?_);rintro e w' ⟨⟨k,hk,rfl,hka⟩,rfl⟩)) | (go_at_call 103;((with_reducible refine (trim_any lb B m d _ hb Lb HM.out hmd).mono ?_);rintro e w' ⟨⟨k2,hk2,rfl,hkb⟩,rfl⟩)) | (go_at_call 94;((with_reducible refine (cmpint_any _ _ _).mono ?_);rintro e w' ⟨rfl,rfl⟩)))
 · go_ret
   exact ⟨ret_int (cmpN_length hka.1 hkb.1 (by assumption)),0,rfl⟩
 · have hkk : k = k2 := by
     have hq:((k:Int) != (k2:Int))=false:=by assumption
     simp at hq;omega
   generalize hX:limbs B64 (val B64 la)=xs at hka
   generalize hY:limbs B64 (val B64 lb)=ys at hkb
   have HX:=Lib.hid hX;have HY:=Lib.hid hY
   have LX:Lim B64 xs:=by rw [← hX];exact lim_limbs B64_two _
   have LY:Lim B64 ys:=by rw [← hY];exact lim_limbs B64_two _
   have vX:Hid (val B64 xs=val B64 la):=by show _=_;rw [← hX,val_limbs B64_two]
   have vY:Hid (val B64 ys=val B64 lb):=by show _=_;rw [← hY,val_limbs B64_two]
   clear hX hY
   go_loopw [5] (fun i wr=>∃ j:Nat,j≤k∧i=.int .i64 ((j:Int) - 1)∧(∀ t,j≤t→xs[t]?=ys[t]?)∧∃ q,wr=w.drewN q) (fun i _=>(intOf i+1).toNat)
   case atStart =>
    refine ⟨k,Nat.le_refl _,by go_num,fun t ht=>?_,0,rfl⟩
    rw [List.getElem?_eq_none (by have:=hka.1;omega),List.getElem?_eq_none (by have:=hkb.1;omega)]
   case round =>
    obtain ⟨j,hj,rfl,heq,q,rfl⟩:=hrel
    by_cases hj0:0 < j
    · obtain ⟨b,o,rfl,hc⟩:=hka.at_ (by omega)
      obtain ⟨x,hx,hcx⟩:=hc (j - 1) (by omega)
      obtain ⟨b',o',rfl,hc'⟩:=hkb.at_ (by omega)
      obtain ⟨y,hy,hcy⟩:=hc' (j - 1) (by omega)
      have HQ:=Lib.hid heq;have Hx:=Lib.hid hx;have Hy:=Lib.hid hy
      clear heq hx hy hc hc'
      go_wp2
      go_quiet (fail)
      go_wp2
      · have hq:((x:Int) != (y:Int))=true:=by assumption
        go_quiet ((go_at_call 123;exact quiet_add_same (cmp64_any _ _ _)))
        go_wp2
        go_ret
        refine ⟨ret_int ?_,drewN3 _ _ _ _⟩
        have hne:x ≠ y:=by simp at hq;omega
        have hl:xs.length=ys.length:=by have:=hka.1;have:=hkb.1;omega
        have heq2:∀ t,j - 1 < t→xs[t]?=ys[t]?:=fun t ht=>HQ.out t (by omega)
        rw [← vX.out,← vY.out]
        rcases Nat.lt_or_ge x y with h1 | h1
        · rw [cmpN_lt h1,cmpN_lt (val_lt_of LX hl Hx.out Hy.out h1 heq2)]
        · rw [cmpN_gt (by omega),cmpN_gt (val_lt_of LY hl.symm Hy.out Hx.out (by omega) (fun t ht=>(heq2 t ht).symm))]
      · have hq:((x:Int) != (y:Int))=false:=by assumption
        have hxy:x=y:=by simp at hq;omega
        go_roundw
        case rel =>
         refine ⟨j - 1,by omega,by go_num,fun t ht=>?_,_,rfl⟩
         by_cases htj:t=j - 1
         · rw [htj,Hx.out,Hy.out,hxy]
         · exact HQ.out t (by omega)
        case measure=>simp [intOf];omega
    · go_wp2
      go_ret
      refine ⟨ret_int ?_,q,rfl⟩
      rw [cmpN_eq]
      rw [← vX.out,← vY.out]
      congr 1
      apply List.ext_getElem?
      intro t
      exact heq t (by omega)
end
section
open Go.RowKit
def Seg (K:IntKind) (e:TypeId) (w:World) (g:Nat) (pre P seg post:List Nat):Prop:=Own K e w g (pre ++ (P ++ (seg.drop P.length ++ post)))
section
variable {K:IntKind} {e:TypeId} {w w':World} {g:Nat} {pre P seg post:List Nat}
theorem Seg.cell {o k x:Nat} (h:Seg K e w g pre P seg post) (ho:pre.length=o) (hP:P.length=k) (hk:k < seg.length) (hx:seg[k]?=some x):w.cell? ⟨g,o+k,none⟩=some (.int K (x:Int)):=by
 refine Own.cell_at h ?_
 rw [List.getElem?_append_right (by omega),List.getElem?_append_right (by omega),List.getElem?_append_left (by simp;omega),List.getElem?_drop]
 rw [show P.length+(o+k - pre.length - P.length)=k by omega]
 exact hx
theorem Seg.store {o k:Nat} (h:Seg K e w g pre P seg post) (ho:pre.length=o) (hP:P.length=k) (hk:k < seg.length) (v:Nat) :
 Seg K e (w.setCell ⟨g,o+k,none⟩ (.int K (v:Int))) g pre (P ++ [v]) seg post:=by
 have:=Own.set_ h (o+k) v
 unfold Seg
 refine cast (congrArg (Own K e _ g) ?_) this
 rw [List.set_append_right _ _ (by omega),List.set_append_right _ _ (by omega),show o+k - pre.length - P.length=0 by omega]
 rw [List.drop_eq_getElem_cons (by omega:P.length < seg.length),List.cons_append,List.set_cons_zero,List.append_assoc,List.length_append]
 rfl
end
theorem Seg.done {K:IntKind} {e:TypeId} {g:Nat} {pre P seg post:List Nat} (h:Seg K e w g pre P seg post) (hP:P.length=seg.length):Own K e w g (pre ++ (P ++ post)):=by
 unfold Seg at h
 rwa [List.drop_of_length_le (by omega),List.nil_append] at h
theorem Seg.start {K:IntKind} {e:TypeId} {g:Nat} {pre seg post:List Nat} (h:Own K e w g (pre ++ (seg ++ post))):Seg K e w g pre [] seg post:=by
 unfold Seg;simpa using h
theorem Lim.snoc {B x:Nat} {P:List Nat} (h:Lim B P) (hx:x < B):Lim B (P ++ [x]):=h.append (Lim.cons hx Lim.nil)
theorem shiftUp_any (lx pre seg post:List Nat) (s g o n cz m c:Nat) (X:Option Addr) (w:World) (hz:Own .u64 74 w g (pre ++ (seg ++ post))) (ho:pre.length=o) (hn:seg.length=n)
 (hx:Rd .u64 w X m lx) (hoff:Off X m g) (Lx:Lim B64 lx) (hs:s < 64) (hmn:n=m∧val B64 lx*2 ^ s < B64 ^ m ∨ n=m+1) (hm:n≤maxLen) :
 Calls Tryz.prog 157 #[.slice (some ⟨g,o,none⟩) n cz,.slice X m c,.int .u64 (s:Int)] w fun e w'=>e=.returned (.tuple #[]) ∧
  (∃ P,P.length=n∧Lim B64 P∧val B64 P=val B64 lx*2 ^ s∧Own .u64 74 w' g (pre ++ (P ++ post)))∧Only g w w':=by
 have HM:=Lib.hid hm;have HS:=Lib.hid hn;have HO:=Lib.hid ho;have HX:=Lib.hid hx.1;have HMN:=Lib.hid hmn
 have hmn':m≤n:=by omega
 have hs64:s≤64:=by omega
 have hz0:=Seg.start hz;clear hn ho hmn
 unfold maxLen at hm
 go_enter Tryz.func157,Tryz.ntmps157
 go_wp2
 go_loopw [6,11] (fun b i wr=>∃ (k:Nat) (P:List Nat) (y:Nat),k≤m∧Hid (P.length=k)∧i=.int .i64 k∧b=.int .u64 (y:Int)∧Seg .u64 74 wr g pre P seg post∧Only g w wr ∧
  Hid (y < 2 ^ s∧Lim B64 P∧val B64 P+B64 ^ k*y=val B64 (lx.take k)*2 ^ s)) (fun _ i _=>m - (intOf i).toNat)
 case atStart=>exact ⟨0,[],0,Nat.zero_le _,rfl,rfl,rfl,hz0,Only.refl _ _,Nat.two_pow_pos s,Lim.nil,up_start⟩
 case round =>
  obtain ⟨k,P,y,hk,HP,rfl,rfl,hsg,hon,HV⟩:=hrel
  by_cases hlt:k < m
  · have hx':=hx.only hoff hon
    obtain ⟨b,o',rfl,hc⟩:=hx'.at_ (by omega)
    obtain ⟨v,hv,hcv⟩:=hc k hlt
    have hks:k < seg.length:=by have:=HS.out;omega
    obtain ⟨u,hu⟩:∃ u,seg[k]?=some u:=⟨_,List.getElem?_eq_getElem hks⟩
    have hcz:=hsg.cell HO.out HP.out hks hu
    have hfz:=Own.frozen hsg (o+k)
    have HVX:=Lib.hid hv;have HKS:=Lib.hid hks;clear hc hv hu hks
    go_wp2
    go_roundw
    case rel =>
     obtain ⟨hy,hL,hval⟩:=HV.out
     rw [or_up hs64 v hy,shr_nat]
     exact ⟨k+1,_,_,by omega,by show _=_;rw [List.length_append,HP.out];rfl,by go_num,rfl,hsg.store HO.out HP.out HKS.out _,hon.setCell _ _,
      shr_lt hs64 (Lx.get HVX.out),hL.snoc (shl_low hs64 v hy),up_step hs64 HP.out HVX.out hval⟩
    case measure=>simp [intOf];omega
  · obtain rfl:k=m:=by omega
    obtain ⟨hy,hL,hval⟩:=HV.out
    have hxl:=HX.out
    rw [List.take_of_length_le (by omega)] at hval
    rcases HMN.out with ⟨e,hb⟩ | e
    · have hy0 : y = 0 := by
        rcases Nat.eq_zero_or_pos y with h | h
        · exact h
        · have:=Nat.mul_le_mul_left (B64 ^ k) h
          omega
      have fin:=hsg.done (by have:=HP.out;have:=HS.out;omega)
      have hP:=HP.out;have HD:=Lib.hid hval;have HB:=Lib.hid hb;clear HV HMN hval hb hsg hxl
      obtain rfl:k=n:=by omega
      go_wp2
      go_end0
      refine ⟨rfl,⟨P,hP,hL,?_,fin⟩,hon⟩
      have:=HD.out
      rw [hy0] at this
      simpa using this
    · have hks:k < seg.length:=by have:=HS.out;omega
      obtain ⟨u,hu⟩:∃ u,seg[k]?=some u:=⟨_,List.getElem?_eq_getElem hks⟩
      have hcz:=hsg.cell HO.out HP.out hks hu
      have hfz:=Own.frozen hsg (o+k)
      have hst:=hsg.store HO.out HP.out hks y;have HD:=Lib.hid hval;have HKS:=Lib.hid hks;have HE:=Lib.hid e
      have hkn:k < n:=by omega
      clear HV HMN hval hu hks hxl e
      go_wp2
      go_end0
      refine ⟨rfl,⟨P ++ [y],?_,hL.snoc (Nat.lt_of_lt_of_le hy ?_),?_,hst.done ?_⟩,hon.setCell _ _⟩
      · have:=HP.out;have:=HE.out;simp;omega
      · exact Nat.pow_le_pow_right (by omega) hs64
      · rw [val_snoc,HP.out];exact HD.out
      · have:=HP.out;have:=HE.out;have:=HS.out;simp;omega
end
section
open Go.RowKit
theorem Seg.again {K:IntKind} {e:TypeId} {g o k a:Nat} {pre P seg post:List Nat} (h:Seg K e w g pre (P ++ [a]) seg post) (ho:pre.length=o) (hP:P.length=k) (v:Nat) :
 Seg K e (w.setCell ⟨g,o+k,none⟩ (.int K (v:Int))) g pre (P ++ [v]) seg post:=by
 have:=Own.set_ h (o+k) v
 unfold Seg
 refine cast (congrArg (Own K e _ g) ?_) this
 rw [List.set_append_right _ _ (by omega),List.append_assoc,List.set_append_right _ _ (by omega),show o+k - pre.length - P.length=0 by omega,List.append_assoc]
 simp
def Ahead (w:World) (g:Nat) (pre seg post:List Nat) (X:Option Addr) (m:Nat) (lx:List Nat):Prop :=
 lx.length=m∧(0 < m→∃ b o':Nat,X=some ⟨b,o',none⟩∧∀ (wr:World) (P:List Nat),Seg .u64 74 wr g pre P seg post→Only g w wr→∀ k v:Nat,P.length≤k→lx[k]?=some v→wr.cell? ⟨b,o'+k,none⟩=some (.int .u64 (v:Int)))
theorem Ahead.far {g m:Nat} {pre seg post lx:List Nat} {X:Option Addr} (hx:Rd .u64 w X m lx) (hoff:Off X m g):Ahead w g pre seg post X m lx:=by
 refine ⟨hx.1,fun hm=>?_⟩
 obtain ⟨b,o',e,_⟩:=hx.2 hm
 refine ⟨b,o',e,fun wr P _ ho k v _ hv=>?_⟩
 obtain ⟨b2,o2,e2,hc⟩:=(hx.only hoff ho).2 hm
 rw [e] at e2;cases e2
 exact hc k v hv
theorem Ahead.same {g:Nat} {pre seg post:List Nat}:Ahead w g pre seg post (some ⟨g,pre.length,none⟩) seg.length seg:=by
 refine ⟨rfl,fun _=>⟨_,_,rfl,fun wr P hs _ k v hk hv=>Own.cell_at hs ?_⟩⟩
 have:=(List.getElem?_eq_some_iff.1 hv).1
 rw [List.getElem?_append_right (by omega),List.getElem?_append_right (by omega),List.getElem?_append_left (by simp;omega),List.getElem?_drop]
 rw [show P.length+(pre.length+k - pre.length - P.length)=k by omega]
 exact hv
theorem shiftDown_any (lx pre seg post:List Nat) (s g o n cz m c:Nat) (X:Option Addr) (w:World) (hz:Own .u64 74 w g (pre ++ (seg ++ post))) (ho:pre.length=o) (hn:seg.length=m)
 (hx:Ahead w g pre seg post X m lx) (Lx:Lim B64 lx) (hs:s < 64) (hmn:n=m) (hm:m≤maxLen) :
 Calls Tryz.prog 159 #[.slice (some ⟨g,o,none⟩) n cz,.slice X m c,.int .u64 (s:Int)] w fun e w'=>e=.returned (.tuple #[]) ∧
  (∃ P,P.length=m∧Lim B64 P∧val B64 P=val B64 lx / 2 ^ s∧Own .u64 74 w' g (pre ++ (P ++ post)))∧Only g w w':=by
 subst hmn
 have HS:=Lib.hid hn;have HO:=Lib.hid ho;have HX:=Lib.hid hx.1
 have hs64:s≤64:=by omega
 have hz0:=Seg.start hz;clear hn ho
 unfold maxLen at hm
 go_enter Tryz.func159,Tryz.ntmps159
 go_wp2
 go_loopw [9] (fun i wr=>∃ (k:Nat) (P:List Nat),k≤n∧Hid (P.length=k)∧i=.int .i64 k∧Seg .u64 74 wr g pre P seg post∧Only g w wr ∧
  Hid (Lim B64 P∧val B64 P+B64 ^ k*(val B64 (lx.drop k) / 2 ^ s)=val B64 lx / 2 ^ s)) (fun i _=>n - (intOf i).toNat)
 case atStart=>exact ⟨0,[],Nat.zero_le _,rfl,rfl,hz0,Only.refl _ _,Lim.nil,by simp⟩
 case round =>
  obtain ⟨k,P,hk,HP,rfl,hsg,hon,HV⟩:=hrel
  by_cases hlt:k < n
  · obtain ⟨b,o',rfl,hc⟩:=hx.2 (by omega)
    obtain ⟨v,hv⟩:∃ v,lx[k]?=some v:=⟨_,List.getElem?_eq_getElem (by have:=HX.out;omega)⟩
    have hcv:=hc wr P hsg hon k v (by have:=HP.out;omega) hv
    have hks:k < seg.length:=by have:=HS.out;omega
    obtain ⟨u,hu⟩:∃ u,seg[k]?=some u:=⟨_,List.getElem?_eq_getElem hks⟩
    have hcz:=hsg.cell HO.out HP.out hks hu
    have hfz:=Own.frozen hsg (o+k)
    have hst:=hsg.store HO.out HP.out hks (v / 2 ^ s)
    by_cases hlt1:k+1 < n
    · obtain ⟨v1,hv1⟩:∃ v,lx[k+1]?=some v:=⟨_,List.getElem?_eq_getElem (by have:=HX.out;omega)⟩
      have hcv1:=hc _ _ hst (hon.setCell _ _) (k+1) v1 (by have:=HP.out;simp;omega) hv1
      rw [← shr_nat] at hcv1;have HVX:=Lib.hid hv;have HVX1:=Lib.hid hv1;have HKS:=Lib.hid hks;clear hc hv hu hks hst hv1
      go_wp2
      go_region
      go_wp2
      go_roundw
      case rel =>
       obtain ⟨hL,hval⟩:=HV.out
       rw [shr_nat,or_down hs64 v v1 (Lx.get HVX.out)]
       have hd:=down_step hs64 HVX.out
       rw [HVX1.out,Option.getD_some] at hd
       refine ⟨k+1,_,by omega,by show _=_;rw [List.length_append,HP.out];rfl,by go_num,(hsg.store HO.out HP.out HKS.out _).again HO.out HP.out _,((hon.setCell _ _).setCell _ _).drew,hL.snoc (down_lt hs64 (Lx.get HVX.out) v1),?_⟩
       rw [val_snoc,HP.out,Nat.pow_succ,← hval,hd]
       grind
      case measure=>simp [intOf];omega
    · have HVX:=Lib.hid hv
      have HKS:=Lib.hid hks;clear hc hv hu hks hst
      go_wp2
      go_roundw
      case rel =>
       obtain ⟨hL,hval⟩:=HV.out
       rw [shr_nat];have hd:=down_step hs64 HVX.out
       rw [List.getElem?_eq_none (by have:=HX.out;omega),Option.getD_none,Nat.zero_mul,Nat.zero_mod,Nat.add_zero] at hd
       refine ⟨k+1,_,by omega,by show _=_;rw [List.length_append,HP.out];rfl,by go_num,hsg.store HO.out HP.out HKS.out _,hon.setCell _ _,hL.snoc (Nat.lt_of_le_of_lt (Nat.div_le_self _ _) (Lx.get HVX.out)),?_⟩
       rw [val_snoc,HP.out,Nat.pow_succ,← hval,hd]
       grind
      case measure=>simp [intOf];omega
  · obtain rfl:k=n:=by omega
    have fin:=hsg.done (by have:=HP.out;have:=HS.out;omega)
    obtain ⟨hL,hval⟩:=HV.out
    rw [List.drop_of_length_le (by have:=HX.out;omega)] at hval
    have HD:=Lib.hid hval;clear hval HV
    go_wp2
    go_end0
    refine ⟨rfl,⟨P,HP.out,hL,?_,fin⟩,hon⟩
    simpa using HD.out
end
section
open Go.RowKit
theorem info_u64:(Tryz.prog.info? 74).map (fun i=>(i.zero,i.size,i.bytes))=some (some (.int .u64 0),1,8):=by kernel_rfl
theorem wpList_make64 (w:World) {ops:Array Oper} {rest:List Oper} {o:Oper} {a:Act} {Q:Exit→Act→World→Prop}
 (hg:o.guard=none) (l c:Operand) (hop:o.op=Op.makeSlice 23 l c) (kl kc:IntKind) (L C:Int) (n:Nat) (hl:a.eval l=.int kl L) (hc:a.eval c=.int kc C)
 (hL:L=(n:Int)) (hC:C=(n:Int)) (hn:n≤35184372088832)
 (hK:∀ w',Own .u64 74 w' w.heap.size (List.replicate n 0)→Below w.heap.size w w'→wpList Tryz.prog ops Q rest (a.put o.dst (.slice (some ⟨w.heap.size,0,none⟩) n n)) w') :
 wpList Tryz.prog ops Q (o :: rest) a w:=by
 obtain ⟨i0,hi,hz0,hz1,hz2⟩:=info_parts info_u64
 refine wpList_make_full w hg l c 23 hop w.heap.size 74 i0 (.int .u64 0) 1 Tryz.underlying23 hi hz0 hz1 kl kc L C n hl hc hL hC (by rw [hz2];omega) (by unfold maxLen;omega) (Nat.le_refl _) ?_
 intro w' hown hgrow
 refine hK w' ?_ ((Below.refl _ _).grown hgrow (Nat.le_refl _) (by simp))
 have e:(madeCells (Value.int .u64 0).cells (n*1)).toList=nums .u64 (List.replicate n 0):=by
  rw [nums_zeros,Nat.mul_one]
  exact toList_madeCells_one _ _
 rw [e] at hown
 exact (Own.of_row hown).1
theorem wpList_copy64 (w:World) {ops:Array Oper} {rest:List Oper} {o:Oper} {a:Act} {Q:Exit→Act→World→Prop}
 (hgd:o.guard=none) (d s:Operand) (ho:o.op=.call ⟨.builtin .copy,#[d,s],#[23,23]⟩)
 (g off dLen dCap m sCap:Nat) (A:Option Addr) (hd:a.eval d=.slice (some ⟨g,off,none⟩) dLen dCap) (hs:a.eval s=.slice A m sCap)
 (pre seg post ls:List Nat) (hown:Own .u64 74 w g (pre ++ (seg ++ post))) (hpre:pre.length=off) (hseg:seg.length=m) (hm:m≤dLen) (hx:Rd .u64 w A m ls)
 (hK:∀ w',Own .u64 74 w' g (pre ++ (ls ++ post))→Only g w w'→wpList Tryz.prog ops Q rest (a.put o.dst (goInt m)) w') :
 wpList Tryz.prog ops Q (o :: rest) a w:=by
 have hsz:(Tryz.prog.info? 74).map (·.size)=some 1:=by kernel_rfl
 have hmin:Nat.min m dLen=m:=Nat.min_eq_left hm
 by_cases h0:m=0
 · subst h0
   refine wpList_copy_nothing hgd d s _ _ ho 74 Tryz.underlying23 hsz _ A dLen dCap 0 sCap hd hs hmin ?_
   obtain rfl:seg=[]:=List.eq_nil_of_length_eq_zero hseg
   obtain rfl:ls=[]:=List.eq_nil_of_length_eq_zero hx.1
   exact hK w hown (Only.refl _ _)
 · obtain ⟨b,o',rfl,hc⟩:=hx.2 (by omega)
   refine wpList_copy_own hgd d s _ _ ho 74 Tryz.underlying23 hsz g off dLen dCap ⟨b,o',none⟩ m sCap hd hs _ _ hown (nums .u64 ls) (by rw [length_nums,hx.1,hmin]) ?_ ?_ (nums_one _ _) ?_
   · intro j v hv
     rw [nums_get] at hv
     obtain ⟨x,hxj,rfl⟩:=Option.map_eq_some_iff.1 hv
     rw [add_at]
     exact hc j x hxj
   · rw [length_nums,hx.1]
     simp [length_nums];omega
   · have e1 : (nums .u64 (pre ++ (seg ++ post))).toArray.toList.take off = nums .u64 pre := by
       rw [List.toList_toArray,← nums_take,List.take_left' hpre]
     have e2:(nums .u64 (pre ++ (seg ++ post))).toArray.toList.drop (off+m)=nums .u64 post:=by
      rw [List.toList_toArray,← nums_drop,← List.append_assoc,List.drop_left' (by rw [List.length_append];omega)]
     rw [length_nums,hx.1,e1,e2,← nums_append,← nums_append]
     refine hK _ ?_ ⟨rfl,rfl,rfl,by simp,fun k _ hk=>setRow_other w g k _ (by omega)⟩
     exact setRow_heap w g _ _ _ _ hown
theorem fresh_any (l:List Nat) (A:Option Addr) (n c:Nat) (w:World) (h:Rd .u64 w A n l) (hn:n≤35184372088832) :
 Calls Tryz.prog 131 #[.slice A n c] w fun e w'=>e=.returned (.slice (some ⟨w.heap.size,0,none⟩) n n)∧Own .u64 74 w' w.heap.size l∧Below w.heap.size w w':=by
 go_enter Tryz.func131,Tryz.ntmps131
 go_wp2_with (first
  | (refine wpList_make64 _ rfl (.tmp 5) (.tmp 5) rfl .i64 .i64 n n n rfl rfl rfl rfl hn ?_;intro w1 hown1 hb1)
  | (refine wpList_copy64 _ rfl (.tmp 7) (.tmp 8) rfl w.heap.size 0 n n n c A rfl rfl [] (List.replicate n 0) [] l (by simpa using hown1) rfl (by simp) (Nat.le_refl _) (h.below hb1) ?_;intro w2 hown2 ho2))
 go_ret
 exact ⟨rfl,by simpa using hown2,Below.only hb1 (Nat.le_refl _) hb1.size ho2⟩
end
section
open Go.RowKit
theorem trim_own (L:List Nat) (g n B:Nat) (w:World) (h:Own .u64 74 w g L) (hB:B≤g) (hl:L.length=n) (hL:Lim B64 L) (hn:n≤maxLen) :
 Calls Tryz.prog 103 #[.slice (some ⟨g,0,none⟩) n n] w fun e w'=>(∃ k,k≤n∧e=.returned (.slice (some ⟨g,0,none⟩) k n)∧Fr .u64 74 w B (some ⟨g,0,none⟩) k n (limbs B64 (val B64 L)))∧w=w':=by
 refine (trim_any L (some ⟨g,0,none⟩) n n w (h.rd hl (fun j x hx=>by simpa using hx)) hL hn (Nat.le_refl _)).mono ?_
 rintro e w' ⟨⟨k,hk,rfl,hr⟩,rfl⟩
 refine ⟨⟨k,hk,rfl,?_⟩,rfl⟩
 have hk':(limbs B64 (val B64 L)).length=k:=hr.1
 have:=Fr.of_own h hB (k:=k) (by omega) (by omega)
 rw [← hk',limbs_take B64_two hL,hl,hk'] at this
 exact this
theorem pow64 (q:Nat):B64 ^ q=2 ^ (64*q):=by rw [Nat.pow_mul];rfl
theorem shiftUp_at (S:Int) (lx seg pre:List Nat) (s g o n cz m c:Nat) (X:Option Addr) (w:World) (hz:Own .u64 74 w g (pre ++ seg)) (ho:pre.length=o) (hn:seg.length=n)
 (hx:Rd .u64 w X m lx) (hoff:Off X m g) (Lx:Lim B64 lx) (hs:s < 64) (hmn:n=m∧val B64 lx*2 ^ s < B64 ^ m ∨ n=m+1) (hm:n≤maxLen) (hS:S=(s:Int)) :
 Calls Tryz.prog 157 #[.slice (some ⟨g,o,none⟩) n cz,.slice X m c,.int .u64 S] w fun e w'=>e=.returned (.tuple #[]) ∧
  (∃ P,P.length=n∧Lim B64 P∧val B64 P=val B64 lx*2 ^ s∧Own .u64 74 w' g (pre ++ P))∧Only g w w':=by
 subst hS
 refine (shiftUp_any lx pre seg [] s g o n cz m c X w (by simpa using hz) ho hn hx hoff Lx hs hmn hm).mono ?_
 rintro e w' ⟨he,⟨P,h1,h2,h3,h4⟩,ho⟩
 exact ⟨he,⟨P,h1,h2,h3,by simpa using h4⟩,ho⟩
def GivesE (K:IntKind) (t:TypeId) (w:World) (l:List Nat) (err:Nat) (e:Ending) (w':World):Prop :=
 ∃ A n c,e=.returned (.tuple #[.slice A n c,.int .i64 (err:Int)])∧n≤c∧c≤maxLen∧Fr K t w' w.heap.size A n c l∧Below w.heap.size w w'
end
section
open Go.RowKit
theorem B64_eq':B64=18446744073709551616:=rfl
theorem rd_of_row {a:Option Addr} {len cap:Nat} {zs:List Int}
 (h:(a=none∧len=0∧cap=0∧zs=[]) ∨
  ∃ x,a=some x∧len≤cap∧cap≤maxLen∧zs.length=cap∧(∀ i,i < zs.length→w.cell? (x.add i)=some (.int .u64 (zs.getD i 0)))∧∀ n ∈ zs,(Lit.int .u64 n).wf=true) :
 ∃ l:List Nat,Rd .u64 w a len l∧Lim B64 l∧len≤cap∧cap≤maxLen:=by
 rcases h with ⟨rfl,rfl,rfl,rfl⟩ | ⟨x,rfl,hl,hm,hz,hc,hw⟩
 · exact ⟨[],Rd.nil,Lim.nil,Nat.le_refl _,Nat.zero_le _⟩
 · refine ⟨(zs.take len).map Int.toNat,⟨by simp;omega,fun hn=>?_⟩,?_,hl,hm⟩
   · obtain ⟨b,o,spot⟩:=x
     have h0:=hc 0 (by omega)
     have hspot:spot=none:=by simpa [Addr.add] using World.cell?_spot h0
     subst hspot
     refine ⟨b,o,rfl,fun j y hy=>?_⟩
     have hj:j < len:=by
      have:=(List.getElem?_eq_some_iff.1 hy).1
      simp at this;omega
     have:=hc j (by omega)
     rw [add_at] at this;rw [this]
     rw [List.getElem?_map,List.getElem?_take,if_pos hj,List.getElem?_eq_getElem (by omega)] at hy
     simp only [Option.map_some,Option.some.injEq] at hy
     have hb:=bounds_u64 (hw _ (List.getElem_mem (show j < zs.length by omega)))
     rw [List.getD_eq_getElem?_getD,List.getElem?_eq_getElem (by omega),Option.getD_some,← hy,Int.toNat_of_nonneg hb.1]
   · intro y hy
     obtain ⟨z,hz2,rfl⟩:=List.mem_map.1 hy
     have hb:=bounds_u64 (hw z (List.mem_of_mem_take hz2))
     rw [B64_eq']
     omega
end
section
open Go.RowKit Go.ChangeShapes Go.WideShapes
def IsRow64 (w:World) (a:Option Addr) (len cap:Nat) (zs:List Int):Prop :=
 (a=none∧len=0∧cap=0∧zs=[]) ∨
 ∃ x,a=some x∧len≤cap∧cap≤maxLen∧zs.length=cap∧(∀ i,i < zs.length→w.cell? (x.add i)=some (.int .u64 (zs.getD i 0)))∧∀ n ∈ zs,(Lit.int .u64 n).wf=true
theorem IsRow64.rd {a:Option Addr} {len cap:Nat} {zs:List Int} (h:IsRow64 w a len cap zs):∃ l:List Nat,Rd .u64 w a len l∧Lim B64 l∧len≤cap∧cap≤maxLen:=rd_of_row h
theorem IsRow64.nil {a:Option Addr} {len cap:Nat} {zs:List Int} (h:IsRow64 w a len cap zs):a=none→cap=0:=by
 rcases h with ⟨_,_,h,_⟩ | ⟨x,h,_⟩
 · exact fun _=>h
 · rw [h];exact fun e=>by cases e
end
end Go.Proofs.YtlpogecpdfdggaaGreat
