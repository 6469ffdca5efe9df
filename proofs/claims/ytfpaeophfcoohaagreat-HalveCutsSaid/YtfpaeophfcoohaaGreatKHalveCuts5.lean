/- HalveCuts: part 5. -/
import Derived.Deep.RegionLaw
import Derived.Laws.AppendOwnNone
import Derived.Test.YtfpaeophfcoohaaGreatKHalveCuts0
import Derived.Test.YtfpaeophfcoohaaGreatKHalveCuts1
import Derived.Test.YtfpaeophfcoohaaGreatKHalveCuts2
set_option linter.unusedVariables false
set_option maxRecDepth 100000
set_option maxHeartbeats 16000000
variable {w:Go.World}
namespace Go.Proofs.YtfpaeophfcoohaaGreat
section
open Go.RowKit
theorem rtrim_any (l:List Nat) (A:Option Addr) (n c:Nat) (w:World) (h:Rd .u32 w A n l) (hL:Lim B32 l) (hn:n≤maxLen) (hnc:n≤c) :
 Calls Tryz.prog 121 #[.slice A n c] w fun e w'=>(∃ k,k≤n∧e=.returned (.slice A k c)∧limbs B32 (val B32 l)=l.take k∧Rd .u32 w A k (limbs B32 (val B32 l)))∧w=w':=by
 unfold maxLen at hn
 have hlen:=h.1
 have fin:∀ k,k≤n→Above0 l k→(∀ x,0 < k→l[k - 1]?=some x→x ≠ 0)→limbs B32 (val B32 l)=l.take k∧Rd .u32 w A k (limbs B32 (val B32 l)):=by
  intro k hk h0 hx
  rw [← trimmed B32_two hL (by omega) h0 hx]
  exact ⟨rfl,h.take hk⟩
 have HL:=Lib.hid hlen;clear hlen
 go_enter Tryz.func121,Tryz.ntmps121
 go_wp2
 go_loop [3] (fun a=>∃ k:Nat,k≤n∧Above0 l k∧a=.int .i64 k) (fun a=>(intOf a).toNat)
 case atStart=>exact ⟨n,Nat.le_refl _,fun j x hj hx=>absurd (List.getElem?_eq_some_iff.1 hx).1 (by have:=HL.out;omega),rfl⟩
 case round =>
  obtain ⟨k,hk,h0,rfl⟩:=hrel
  have hkc:(k:Int)≤(c:Int):=by omega
  by_cases hk0:0 < k
  · obtain ⟨b,o,rfl,hc⟩:=h.at_ (by omega)
    obtain ⟨x,hx,hcx⟩:=hc (k - 1) (by omega)
    go_wp2
    · go_round
      case rel =>
       have hx0 : x = 0 := by have hq : ((x : Int) == 0) = true := by assumption
                              simpa using hq
       subst hx0
       exact ⟨k - 1,by omega,h0.down hk0 hx,by go_num⟩
      case measure=>simp [intOf];omega
    · have hx0 : x ≠ 0 := by have hq : ((x : Int) == 0) = false := by assumption
                             simpa using hq
      go_ret
      exact ⟨⟨k,hk,rfl,fin k hk h0 (fun y _ hy=>by rw [hx] at hy;cases hy;exact hx0)⟩,rfl⟩
  · obtain rfl:k=0:=by omega
    go_wp2
    go_ret
    exact ⟨⟨0,hk,rfl,fin 0 hk h0 (fun y hy _=>absurd hy (by omega))⟩,rfl⟩
theorem rcmp_of_length {a b:Nat} (h:(limbs B32 a).length < (limbs B32 b).length):a < b :=
 Nat.lt_of_lt_of_le (lt_pow_limbs B32_two a) (pow_le_of_length B32_two h)
theorem rcmp_any (U V:Nat) (A B:Option Addr) (k c k2 d:Nat) (w:World) (hka:Rd .u32 w A k (limbs B32 U)) (hkb:Rd .u32 w B k2 (limbs B32 V)) (hk:k≤maxLen) :
 Calls Tryz.prog 140 #[.slice A k c,.slice B k2 d] w fun e w'=>e=.returned (.int .i64 (cmpN U V))∧∃ q,w'=w.drewN q:=by
 unfold maxLen at hk
 by_cases hne:k=k2
 · subst hne
   generalize hX:limbs B32 U=xs at hka
   generalize hY:limbs B32 V=ys at hkb
   have LX:Lim B32 xs:=by rw [← hX];exact lim_limbs B32_two _
   have LY:Lim B32 ys:=by rw [← hY];exact lim_limbs B32_two _
   have vX:Hid (val B32 xs=U):=by show _=_;rw [← hX,val_limbs B32_two]
   have vY:Hid (val B32 ys=V):=by show _=_;rw [← hY,val_limbs B32_two]
   clear hX hY
   go_enter Tryz.func140,Tryz.ntmps140
   go_wp2_with fail
   go_loopw [5] (fun i wr=>∃ j:Nat,j≤k∧i=.int .i64 ((j:Int) - 1)∧(∀ t,j≤t→xs[t]?=ys[t]?)∧∃ q,wr=w.drewN q) (fun i _=>(intOf i+1).toNat)
   case atStart =>
    refine ⟨k,Nat.le_refl _,by go_num,fun t ht=>?_,0,rfl⟩
    rw [List.getElem?_eq_none (by have:=hka.1;omega),List.getElem?_eq_none (by have:=hkb.1;omega)]
   case round =>
    obtain ⟨j,hj,rfl,heq,q,rfl⟩:=hrel
    by_cases hj0:0 < j
    · obtain ⟨b,o,rfl,hc⟩:=hka.at_ (by omega)
      obtain ⟨x,hx,hcx⟩:=hc (j - 1) (by omega)
      obtain ⟨b',o',rfl,hc'⟩:=hkb.at_ (by omega)
      obtain ⟨y,hy,hcy⟩:=hc' (j - 1) (by omega)
      have HQ:=Lib.hid heq;have Hx:=Lib.hid hx;have Hy:=Lib.hid hy
      have hl:Hid (xs.length=ys.length):=by show _=_;have:=hka.1;have:=hkb.1;omega
      have heq2:Hid (∀ t,j - 1 < t→xs[t]?=ys[t]?):=fun t ht=>HQ.out t (by omega)
      clear heq hx hy hc hc'
      rcases Nat.lt_trichotomy x y with hlt | hxy | hgt
      · have hn1:((x:Int) != (y:Int))=true:=by simp;omega
        go_wp2_with fail
        go_quiet (fail)
        go_wp2_with fail
        go_quiet (fail)
        go_wp2_with fail
        go_ret
        refine ⟨ret_int ?_,drewN3 _ _ _ _⟩
        rw [← vX.out,← vY.out,cmpN_lt (val_lt_of LX hl.out Hx.out Hy.out hlt heq2.out)]
      · subst hxy
        go_wp2_with fail
        go_quiet (fail)
        go_wp2_with fail
        go_roundw
        case rel =>
         refine ⟨j - 1,by omega,by go_num,fun t ht=>?_,_,rfl⟩
         by_cases htj:t=j - 1
         · rw [htj,Hx.out,Hy.out]
         · exact HQ.out t (by omega)
        case measure=>simp [intOf];omega
      · have hn1:((x:Int) != (y:Int))=true:=by simp;omega
        go_wp2_with fail
        go_quiet (fail)
        go_wp2_with fail
        go_quiet (fail)
        go_wp2_with fail
        go_ret
        refine ⟨ret_int ?_,drewN3 _ _ _ _⟩
        rw [← vX.out,← vY.out,cmpN_gt (val_lt_of LY hl.out.symm Hy.out Hx.out hgt (fun t ht=>(heq2.out t ht).symm))]
    · go_wp2_with fail
      go_ret
      refine ⟨ret_int ?_,q,rfl⟩
      rw [← vX.out,← vY.out,cmpN_eq]
      congr 1
      apply List.ext_getElem?
      intro t
      exact heq t (by omega)
 · have hn1:((k:Int) != (k2:Int))=true:=by simp;omega
   have hl1:=hka.1;have hl2:=hkb.1
   rcases Nat.lt_or_ge k k2 with h1 | h1
   · have HC:Hid (cmpN U V=-1):=cmpN_lt (rcmp_of_length (by omega))
     clear hl1 hl2 hne
     go_enter Tryz.func140,Tryz.ntmps140
     go_wp2_with fail
     go_ret
     exact ⟨ret_int HC.out.symm,0,rfl⟩
   · have HC:Hid (cmpN U V=1):=cmpN_gt (rcmp_of_length (by omega))
     clear hl1 hl2 hne
     go_enter Tryz.func140,Tryz.ntmps140
     go_wp2_with fail
     go_ret
     exact ⟨ret_int HC.out.symm,0,rfl⟩
end
section
open Go.RowKit
theorem info_u32:(Tryz.prog.info? 173).map (fun i=>(i.zero,i.size,i.bytes))=some (some (.int .u32 0),1,4):=by kernel_rfl
theorem wpList_appendR (K:IntKind) (T E:TypeId) (bytes:Nat) (z:Value) (hz1:z.cells.size=1) (ht:Tryz.prog.underlying T=some (.slice E)) (hinfo:(Tryz.prog.info? E).map (fun i=>(i.zero,i.size,i.bytes))=some (some z,1,bytes)) (hby:bytes≤8)
 (w:World) {ops:Array Oper} {rest:List Oper} {o:Oper} {a:Act} {Q:Exit→Act→World→Prop} (hgd:o.guard=none) (s x:Operand)
 (ho:o.op=.call ⟨.builtin .append,#[s,x],#[T,T]⟩)
 (B:Nat) (A:Option Addr) (n c:Nat) (l:List Nat) (hs:a.eval s=.slice A n c) (hfr:Fr K E w B A n c l) (hnc:n≤c) (hcm:c≤maxLen) (X:Option Addr) (m d:Nat) (ys:List Nat) (hx:a.eval x=.slice X m d) (hX:X=none→d=0) (hr:Rd K w X m ys)
 (hn:n+m≤17592186044415) (hB:B≤w.heap.size)
 (h:∀ A' c' w',Fr K E w' B A' (n+m) c' (l ++ ys)→n+m≤c'→c'≤maxLen→Below B w w'→w.grownBy w' (Value.slice A n c).ownBlock→wpList Tryz.prog ops Q rest (a.put o.dst (.slice A' (n+m) c')) w') :
 wpList Tryz.prog ops Q (o :: rest) a w:=by
 obtain ⟨i0,hi,hz0,hzs,hzb⟩:=info_parts hinfo
 cases X with
 | none =>
   obtain rfl:d=0:=hX rfl
   have hm:m=0:=by
    rcases Nat.eq_zero_or_pos m with h0 | h0
    · exact h0
    · obtain ⟨b,o,e,_⟩:=hr.2 h0;cases e
   subst hm
   obtain rfl:ys=[]:=List.eq_nil_of_length_eq_zero hr.1
   refine wpList_append_own_none hgd s x T ho B E i0 1 ht hi _ n (nums K l) hs hfr.2 hx ?_
   have:=h A c w (by simpa using hfr) hnc hcm (Below.refl _ _) (World.grownBy.refl _ _)
   exact this
 | some ad =>
   refine wpList_append_own w hgd s x T ho B E i0 z 1 bytes ht hi hz0 hzs hzb hz1 (by omega) _ n (nums K l) hs hfr.2 ad m d (nums K ys) hx (by rw [length_nums,hr.1,Nat.mul_one]) ?_ (nums_one _ _) (by unfold maxLen;omega) ?_ hB ?_
   · intro j u hu
     rw [nums_get] at hu
     obtain ⟨y,hy,rfl⟩:=Option.map_eq_some_iff.1 hu
     have hj:j < m:=by have:=(List.getElem?_eq_some_iff.1 hy).1;have:=hr.1;omega
     obtain ⟨b,o,e,hc⟩:=hr.2 (by omega)
     cases e
     rw [add_at];exact hc j y hy
   · calc (n + m) * bytes ≤ (n + m) * 8 := Nat.mul_le_mul_left _ hby
       _≤_:=by omega
   · intro v' w' hown hgrow hnil
     have hown':w'.ownsRow B E 1 v' (n+m) (nums K (l ++ ys)):=by rw [nums_append];exact hown
     have hbl:Below B w w':=(Below.refl _ _).grown hgrow hB (fun k hk=>(hfr.2.lt k hk).1)
     obtain ⟨h1,h2⟩:=hown'
     rcases h2 with ⟨h2,h3⟩ | ⟨g2,cap,cur,hv,hg,hh,hc1,hc2,hs2,ht2⟩
     · obtain ⟨h4,h5⟩:=hnil.1 h2
       subst h2
       have e0:n+m=0:=h3
       have:=h none 0 w' ⟨by rw [List.length_append,hfr.1,hr.1],h1,.inl ⟨by rw [e0],e0⟩⟩ (by omega) (Nat.zero_le _) hbl hgrow
       rw [e0] at this
       exact this
     · subst hv
       exact h _ _ w' ⟨by rw [List.length_append,hfr.1,hr.1],h1,.inr ⟨g2,cap,cur,rfl,hg,hh,hc1,hc2,hs2,ht2⟩⟩ hc1 hc2 hbl hgrow
theorem step_appendS (K:IntKind) (T E:TypeId) (bytes:Nat) (z:Value) (hz1:z.cells.size=1) (ht:Tryz.prog.underlying T=some (.slice E)) (hinfo:(Tryz.prog.info? E).map (fun i=>(i.zero,i.size,i.bytes))=some (some z,1,bytes)) (hby:bytes≤8)
 (w:World) {ops:Array Oper} {o:Oper} {a:Act} {G:Act→World→Prop} {Q:Exit→Act→World→Prop} {F:Prop} (hgd:o.guard=none) (s x:Operand)
 (ho:o.op=.call ⟨.builtin .append,#[s,x],#[T,T]⟩)
 (B:Nat) (A:Option Addr) (n c:Nat) (l:List Nat) (hs:a.eval s=.slice A n c) (hfr:Fr K E w B A n c l) (ad:Addr) (m d:Nat) (ys:List Nat) (hx:a.eval x=.slice (some ad) m d) (hr:Rd K w (some ad) m ys) (hm0:0 < m)
 (hn:n+m≤17592186044415) (hB:B≤w.heap.size)
 (h:∀ A' c' w',Fr K E w' B A' (n+m) c' (l ++ ys)→n+m≤c'→c'≤maxLen→Below B w w'→G (a.put o.dst (.slice A' (n+m) c')) w') :
 if Region.wanted o (yielded ops a.tmps)=true then Oper.wp Tryz.prog o a w G Q else F:=by
 have hw:Region.wanted o (yielded ops a.tmps)=true:=by simp [Region.wanted,hgd]
 rw [if_pos hw]
 obtain ⟨i0,hi,hz0,hzs,hzb⟩:=info_parts hinfo
 refine wp_append_own w s x T ho B E i0 z 1 bytes ht hi hz0 hzs hzb hz1 (by omega) _ n (nums K l) hs hfr.2 ad m d (nums K ys) hx (by rw [length_nums,hr.1,Nat.mul_one]) ?_ (nums_one _ _) (by unfold maxLen;omega) ?_ hB ?_
 · intro j u hu
   rw [nums_get] at hu
   obtain ⟨y,hy,rfl⟩:=Option.map_eq_some_iff.1 hu
   obtain ⟨b,o,e,hc⟩:=hr.2 (by omega)
   cases e
   rw [add_at];exact hc j y hy
 · calc (n + m) * bytes ≤ (n + m) * 8 := Nat.mul_le_mul_left _ hby
     _≤_:=by omega
 · intro v' w' hown hgrow hnil
   have hown':w'.ownsRow B E 1 v' (n+m) (nums K (l ++ ys)):=by rw [nums_append];exact hown
   have hbl:Below B w w':=(Below.refl _ _).grown hgrow hB (fun k hk=>(hfr.2.lt k hk).1)
   obtain ⟨h1,h2⟩:=hown'
   rcases h2 with ⟨h2,h3⟩ | ⟨g2,cap,cur,hv,hg,hh,hc1,hc2,hs2,ht2⟩
   · omega
   · subst hv
     exact h _ _ w' ⟨by rw [List.length_append,hfr.1,hr.1],h1,.inr ⟨g2,cap,cur,rfl,hg,hh,hc1,hc2,hs2,ht2⟩⟩ hc1 hc2 hbl
theorem lit2_rd {K:IntKind} {e:TypeId} (w:World) (L:List Nat) (n:Nat) (hn:L.length=n):Rd K (w.alloc (.cells (nums K L).toArray e)) (some ⟨w.heap.size,0,none⟩) n L :=
 Own.rd (heap_alloc_new w _) hn (fun j x hx=>by rw [Nat.zero_add];exact hx)
theorem wrap32_nat (x:Nat):IntKind.u32.wrap (x:Int)=((x % B32:Nat):Int):=by
 rw [IntKind.wrap_u32,show B32=4294967296 from rfl];omega
theorem wrap32_hi {x:Nat} (hx:x < B64):IntKind.u32.wrap ((x:Int) / 4294967296)=((x / B32:Nat):Int):=by
 have h:x / B32 < B32:=by rw [Nat.div_lt_iff_lt_mul (by decide)];exact hx
 have:=wrap32_nat (x / B32)
 rw [Nat.mod_eq_of_lt h] at this
 exact this
theorem Fr.cut {K:IntKind} {e:TypeId} {B n c k:Nat} {A:Option Addr} {l:List Nat} (h:Fr K e w B A n c l) (hk:k≤n):Fr K e w B A k c (l.take k):=by
 refine ⟨by rw [List.length_take,h.1];omega,by rw [length_nums,List.length_take,h.1];omega,?_⟩
 rcases h.2.2 with ⟨h1,h2⟩ | ⟨g,cap,cur,hv,hg,hh,hc1,hc2,hs,ht⟩
 · injection h1 with ha hb hc
   exact .inl ⟨by rw [ha,hc,show k=0 by omega],by omega⟩
 · injection hv with ha _ hc
   refine .inr ⟨g,cap,cur,by rw [ha,hc],hg,hh,by omega,hc2,hs,?_⟩
   rw [nums_take,← ht,List.take_take,Nat.mul_one,Nat.mul_one,Nat.min_eq_left hk]
def cut32:List Nat→List Nat
 | []=>[]
 | x :: l=>x % B32 :: x / B32 :: cut32 l
theorem cut32_val (l:List Nat):val B32 (cut32 l)=val B64 l:=by
 induction l with
 | nil=>rfl
 | cons x l ih =>
   rw [cut32,val_cons,val_cons,val_cons,ih]
   have h1:=Nat.mod_add_div x B32
   have h2:B64=B32*B32:=rfl
   rw [h2]
   grind
theorem cut32_lim {l:List Nat} (h:Lim B64 l):Lim B32 (cut32 l):=by
 induction l with
 | nil=>exact Lim.nil
 | cons x l ih =>
   refine Lim.cons (Nat.mod_lt _ (by decide)) (Lim.cons ?_ (ih h.tail))
   rw [Nat.div_lt_iff_lt_mul (by decide)];exact h.head
theorem cut32_append (a b:List Nat):cut32 (a ++ b)=cut32 a ++ cut32 b:=by
 induction a with
 | nil=>rfl
 | cons x a ih=>simp [cut32,ih]
theorem rin_any (l:List Nat) (A:Option Addr) (n c:Nat) (w:World) (h:Rd .u64 w A n l) (hL:Lim B64 l) (hn0:n≤1000000) :
 Calls Tryz.prog 81 #[.slice A n c] w (GivesS .u32 173 w (limbs B32 (val B64 l))):=by
 have hn:n≤1000000:=hn0
 have HL:=Lib.hid h.1;clear hn0
 go_enter Tryz.func81,Tryz.ntmps81
 go_wp2_with fail
 go_loopw [3,4] (fun v i wr=>∃ (k c':Nat) (A':Option Addr),k≤n∧i=.int .i64 k∧v=.slice A' (2*k) c'∧2*k≤c'∧Hid (c'≤maxLen)∧Fr .u32 173 wr w.heap.size A' (2*k) c' (cut32 (l.take k))∧Below w.heap.size w wr) (fun _ i _=>n - (intOf i).toNat)
 case atStart=>exact ⟨0,0,none,Nat.zero_le _,rfl,rfl,Nat.le_refl _,by show 0≤maxLen;decide,Fr.nil,Below.refl _ _⟩
 case round =>
  obtain ⟨k,c',A',hk,rfl,rfl,hkc,HC,hfr,hbl⟩:=hrel
  by_cases hlt:k < n
  · have h':=h.below hbl
    obtain ⟨b,o,rfl,hc⟩:=h'.at_ (by omega)
    obtain ⟨x,hx,hcx⟩:=hc k hlt
    have HX:=Lib.hid hx
    obtain ⟨lo,hlo⟩:∃ lo,lo=x % B32:=⟨_,rfl⟩
    obtain ⟨hi,hhi⟩:∃ hi,hi=x / B32:=⟨_,rfl⟩
    have hxB:=hL.get hx
    have e1:IntKind.u32.wrap (x:Int)=(lo:Int):=by rw [hlo];exact wrap32_nat x
    have e2:IntKind.u32.wrap ((x:Int) / 4294967296)=(hi:Int):=by rw [hhi];exact wrap32_hi hxB
    have hfr2:Fr .u32 173 (wr.alloc (.cells #[.int .u32 (lo:Int),.int .u32 (hi:Int)] 173)).drew w.heap.size A' (2*k) c' (cut32 (l.take k)):=by
     have:=hfr.below (B':=wr.heap.size) ((Below.refl wr.heap.size wr).alloc (Nat.le_refl _) (.cells #[.int .u32 (lo:Int),.int .u32 (hi:Int)] 173)) (Nat.le_refl _)
     exact ⟨this.1,this.2⟩
    have hlit:Rd .u32 (wr.alloc (.cells #[.int .u32 (lo:Int),.int .u32 (hi:Int)] 173)).drew (some ⟨wr.heap.size,0,none⟩) 2 [lo,hi]:=(lit2_rd wr [lo,hi] 2 rfl).drew
    have hsz2:w.heap.size≤((wr.alloc (.cells #[.int .u32 (lo:Int),.int .u32 (hi:Int)] 173)).drew).heap.size:=by (have:=hbl.size;simp;omega)
    have HLO:=Lib.hid hlo;have HHI:=Lib.hid hhi;clear hc hx hlo hhi
    go_wp2_with fail
    go_region_law (first
     | (refine step_appendS .u32 45 173 4 (.int .u32 0) rfl Tryz.underlying45 info_u32 (by omega) _ rfl (.tmp 11) (.tmp 23) rfl w.heap.size A' (2*k) c' (cut32 (l.take k)) rfl hfr2 ⟨wr.heap.size,0,none⟩ 2 2 [lo,hi] rfl hlit (by omega) (by omega) hsz2 ?_
        intro A2 c2 w2 p1 p2 p3 p4))
    all_goals
     go_wp2_with fail
     go_roundw
     case rel =>
      have hkl:k < l.length:=by have:=HL.out;omega
      have ht:l.take (k+1)=l.take k ++ [x]:=by rw [List.take_succ_eq_append_getElem hkl,(List.getElem?_eq_some_iff.1 HX.out).2]
      have hc2:cut32 (l.take (k+1))=cut32 (l.take k) ++ [lo,hi]:=by rw [ht,cut32_append,HLO.out,HHI.out];rfl
      refine ⟨k+1,c2,A2,by omega,by go_num,rfl,p2,p3,?_,(show Below w.heap.size w (wr.alloc (.cells #[.int .u32 (lo:Int),.int .u32 (hi:Int)] 173)).drew from (hbl.alloc hbl.size _).drew).trans p4⟩
      rw [hc2];exact p1
     case measure=>simp [intOf];omega
  · obtain rfl:k=n:=by omega
    have hfr3:=hfr
    rw [List.take_of_length_le (by have:=HL.out;omega)] at hfr3
    go_wp2_with (go_at_call 121;refine (rtrim_any (cut32 l) A' (2*k) c' wr hfr3.rd (cut32_lim hL) (by unfold maxLen;omega) hkc).mono ?_;rintro e w' ⟨⟨j,hj,rfl,hj2,hj3⟩,rfl⟩)
    go_ret;have hcut:=hfr3.cut hj
    rw [← hj2,cut32_val] at hcut
    exact ⟨_,_,_,rfl,by omega,HC.out,hcut,hbl⟩
end
section
open Go.RowKit
def join32:List Nat→List Nat
 | []=>[]
 | [x]=>[x]
 | x :: y :: l=>(x+B32*y) :: join32 l
theorem join32_val:∀ l:List Nat,val B64 (join32 l)=val B32 l
 | []=>rfl
 | [x]=>rfl
 | x :: y :: l=>by
   rw [join32,val_cons,val_cons,val_cons,join32_val l]
   have h2:B64=B32*B32:=rfl
   rw [h2];grind
theorem join32_lim:∀ {l:List Nat},Lim B32 l→Lim B64 (join32 l)
 | [],_=>Lim.nil
 | [x],h=>Lim.cons (Nat.lt_trans h.head (by decide)) Lim.nil
 | x :: y :: l,h=>by
   refine Lim.cons ?_ (join32_lim h.tail.tail)
   have h1:=h.head;have h2:=h.tail.head
   have h3:=Nat.mul_le_mul_left B32 (show y+1≤B32 from h2)
   have h4:B64=B32*B32:=rfl
   rw [Nat.mul_add] at h3
   omega
theorem join32_append:∀ (a b:List Nat),a.length % 2=0→join32 (a ++ b)=join32 a ++ join32 b
 | [],_,_=>rfl
 | [x],_,h=>by simp at h
 | x :: y :: a,b,h=>by
   rw [List.cons_append,List.cons_append,join32,join32,join32_append a b (by simp at h;omega)];rfl
theorem join32_length:∀ l:List Nat,(join32 l).length=(l.length+1) / 2
 | []=>by simp [join32]
 | [x]=>by simp [join32]
 | x :: y :: l=>by rw [join32,List.length_cons,join32_length l];simp;omega
theorem join32_limbs (V:Nat):join32 (limbs B32 V)=limbs B64 V:=by
 have hL:=join32_lim (lim_limbs B32_two V)
 have hv:val B64 (join32 (limbs B32 V))=V:=by rw [join32_val,val_limbs B32_two]
 have hlen:(join32 (limbs B32 V)).length=0 ∨ B64 ^ ((join32 (limbs B32 V)).length - 1)≤val B64 (join32 (limbs B32 V)):=by
  rw [hv,join32_length]
  rcases Nat.eq_zero_or_pos (limbs B32 V).length with h | h
  · left;omega
  · right
    have h1:=pow_le_of_length B32_two (n:=V) (k:=(limbs B32 V).length - 1) (by omega)
    refine Nat.le_trans ?_ h1
    rw [show B64=B32 ^ 2 from rfl,← Nat.pow_mul]
    exact Nat.pow_le_pow_right (by decide) (by omega)
 exact (limbs_of_full hL rfl hlen).trans (by rw [hv])
theorem rout_any (l:List Nat) (A:Option Addr) (m c:Nat) (w:World) (h:Rd .u32 w A m l) (hL:Lim B32 l) (hm0:m≤2000000) :
 Calls Tryz.prog 86 #[.slice A m c] w (GivesS .u64 140 w (join32 l)):=by
 have hm:m≤2000000:=hm0
 have HL:=Lib.hid h.1;clear hm0
 go_enter Tryz.func86,Tryz.ntmps86
 go_wp2_with fail
 go_loopw [3,4] (fun v i wr=>∃ (k n' c':Nat) (A':Option Addr),2*k≤m+1∧i=.int .i64 ((2*k:Nat):Int)∧v=.slice A' n' c'∧n'≤k∧n'≤c'∧Hid (c'≤maxLen)∧Fr .u64 140 wr w.heap.size A' n' c' (join32 (l.take (2*k)))∧Below w.heap.size w wr) (fun _ i _=>m+1 - (intOf i).toNat)
 case atStart=>exact ⟨0,0,0,none,by omega,rfl,rfl,Nat.le_refl _,Nat.le_refl _,by show 0≤maxLen;decide,Fr.nil,Below.refl _ _⟩
 case round =>
  obtain ⟨k,n',c',A',hk,rfl,rfl,hnk,hnc,HC,hfr,hbl⟩:=hrel
  obtain ⟨i0,hi0⟩:∃ i0,i0=2*k:=⟨_,rfl⟩
  have hni:n'≤i0:=by omega
  rw [← hi0] at hk hfr ⊢
  by_cases hlt:i0 < m
  · have h':=h.below hbl
    obtain ⟨b,o,rfl,hc⟩:=h'.at_ (by omega)
    obtain ⟨x,hx,hcx⟩:=hc i0 hlt
    have hxB:=hL.get hx
    have hxB':x≤4294967295:=by have:B32=4294967296:=rfl;omega
    have hkl:i0 < l.length:=by have:=HL.out;omega
    have hpar:(l.take i0).length % 2=0:=by rw [List.length_take];omega
    by_cases hlt1:i0+1 < m
    · obtain ⟨y,hy,hcy⟩:=hc (i0+1) hlt1
      have hyB:=hL.get hy
      have hyB':y≤4294967295:=by have:B32=4294967296:=rfl;omega
      obtain ⟨v,hv⟩:∃ v,v=x+B32*y:=⟨_,rfl⟩
      have hve:(x:Int)+(y:Int)*4294967296=(v:Int):=by rw [hv,show B32=4294967296 from rfl];omega
      have hl2:Hid (join32 (l.take (i0+2))=join32 (l.take i0) ++ [v]):=by
       show _=_
       have hkl1:i0+1 < l.length:=by have:=HL.out;omega
       rw [List.take_succ_eq_append_getElem hkl1,List.take_succ_eq_append_getElem hkl,List.append_assoc,join32_append _ _ hpar,(List.getElem?_eq_some_iff.1 hx).2,(List.getElem?_eq_some_iff.1 hy).2,hv]
       rfl
      have hfr2:Fr .u64 140 (wr.alloc (.cells #[.int .u64 (v:Int)] 140)) w.heap.size A' n' c' (join32 (l.take i0)):=hfr.below (B':=wr.heap.size) ((Below.refl _ _).alloc (Nat.le_refl _) _) (Nat.le_refl _)
      have hcell:(wr.alloc (.cells #[.int .u64 (v:Int)] 140)).cell? ⟨wr.heap.size,0,none⟩=some (.int .u64 (v:Int)):=by rw [World.cell?_alloc_new];rfl
      have HCL:=Lib.hid hcell;have HI:=Lib.hid hi0;clear hc hx hy hxB hyB hcell hkl hpar hv hi0
      go_wp2_with (at_builtin;refine wpList_append1 .u64 22 140 8 (.int .u64 0) rfl Tryz.underlying22 info_u64 (by omega) _ rfl (.tmp 31) (.tmp 33) rfl w.heap.size A' n' c' (join32 (l.take i0)) rfl hfr2 wr.heap.size 1 v rfl HCL.out (by omega) (Nat.le_trans hbl.size (by simp)) ?_;intro A2 c2 w2 p1 p2 p3 p4 p5)
      go_roundw
      case rel =>
       have hik:=HI.out
       refine ⟨k+1,n'+1,c2,A2,by omega,by rw [hik];go_num,rfl,by omega,p2,p3,?_,(hbl.alloc hbl.size _).trans p4⟩
       rw [show 2*(k+1)=i0+2 by omega,hl2.out];exact p1
      case measure=>simp [intOf];omega
    · have hl2 : Hid (join32 (l.take (i0 + 2)) = join32 (l.take i0) ++ [x]) := by
        show _=_
        have hkl1:l.length=i0+1:=by have:=HL.out;omega
        have e:l=l.take i0 ++ [x]:=by
         have:=List.take_succ_eq_append_getElem hkl
         rw [(List.getElem?_eq_some_iff.1 hx).2,List.take_of_length_le (by omega)] at this
         exact this
        rw [List.take_of_length_le (by omega)]
        conv=>lhs;rw [e,join32_append _ _ hpar]
        rfl
      have hfr2:Fr .u64 140 (wr.alloc (.cells #[.int .u64 (x:Int)] 140)) w.heap.size A' n' c' (join32 (l.take i0)):=hfr.below (B':=wr.heap.size) ((Below.refl _ _).alloc (Nat.le_refl _) _) (Nat.le_refl _)
      have hcell:(wr.alloc (.cells #[.int .u64 (x:Int)] 140)).cell? ⟨wr.heap.size,0,none⟩=some (.int .u64 (x:Int)):=by rw [World.cell?_alloc_new];rfl
      have HCL:=Lib.hid hcell;have HI:=Lib.hid hi0;clear hc hx hxB hcell hkl hpar hi0
      go_wp2_with (at_builtin;refine wpList_append1 .u64 22 140 8 (.int .u64 0) rfl Tryz.underlying22 info_u64 (by omega) _ rfl (.tmp 31) (.tmp 33) rfl w.heap.size A' n' c' (join32 (l.take i0)) rfl hfr2 wr.heap.size 1 x rfl HCL.out (by omega) (Nat.le_trans hbl.size (by simp)) ?_;intro A2 c2 w2 p1 p2 p3 p4 p5)
      go_roundw
      case rel =>
       have hik:=HI.out
       refine ⟨k+1,n'+1,c2,A2,by omega,by rw [hik];go_num,rfl,by omega,p2,p3,?_,(hbl.alloc hbl.size _).trans p4⟩
       rw [show 2*(k+1)=i0+2 by omega,hl2.out];exact p1
      case measure=>simp [intOf];omega
  · have hle:m≤i0:=by omega
    go_wp2_with fail
    go_ret
    rw [List.take_of_length_le (by have:=HL.out;omega)] at hfr
    exact ⟨_,_,_,rfl,hnc,HC.out,hfr,hbl⟩
end
section
open Go.RowKit
theorem radd_step {la lb P:List Nat} {k x z y:Nat} (hP:P.length=k) (hx:val B32 (la.take (k+1))=val B32 (la.take k)+B32 ^ k*x) (hz:val B32 (lb.take (k+1))=val B32 (lb.take k)+B32 ^ k*z)
 (h:val B32 P+B32 ^ k*y=val B32 (la.take k)+val B32 (lb.take k)) :
 val B32 (P ++ [(y+x+z) % B32])+B32 ^ (k+1)*((y+x+z) / B32)=val B32 (la.take (k+1))+val B32 (lb.take (k+1)):=by
 have hp:=Nat.mod_add_div (y+x+z) B32
 rw [val_snoc,hx,hz,hP,Nat.pow_succ]
 generalize (y+x+z) % B32=lo at *
 generalize (y+x+z) / B32=hi at *
 grind
theorem take_past {l:List Nat} {k:Nat} (h:l.length≤k):val B32 (l.take (k+1))=val B32 (l.take k)+B32 ^ k*0:=by
 rw [List.take_of_length_le h,List.take_of_length_le (by omega)];simp
theorem radd_any (la lb:List Nat) (A B:Option Addr) (n c m d:Nat) (w:World) (ha:Rd .u32 w A n la) (hb:Rd .u32 w B m lb) (La:Lim B32 la) (Lb:Lim B32 lb) (hn0:n≤1000000) (hm0:m≤1000000) :
 Calls Tryz.prog 145 #[.slice A n c,.slice B m d] w (GivesS .u32 173 w (limbs B32 (val B32 la+val B32 lb))):=by
 obtain ⟨M,hM⟩:∃ M,M=max n m:=⟨_,rfl⟩
 have hnM:n≤M:=by omega
 have hmM:m≤M:=by omega
 have hMb:M≤1000000:=by omega
 have hmx:max (n:Int) (m:Int)=(M:Int):=by omega
 have HLA:=Lib.hid ha.1;have HLB:=Lib.hid hb.1
 obtain ⟨i0,hi,hz0,hz1,hz2⟩:=info_parts info_u32
 clear hM hn0 hm0
 go_enter Tryz.func145,Tryz.ntmps145
 go_wp2_with (at_make;refine wpList_make_own _ rfl (.const (.int .i64 0)) (.tmp 14) 45 rfl w.heap.size 173 i0 (.int .u32 0) 1 Tryz.underlying45 hi hz0 hz1 .i64 .i64 _ (M+1) rfl rfl (by omega) (by rw [hz2];omega) (by unfold maxLen;omega) (Nat.le_refl _) ?_;intro w1 hown1 hgrow1)
 have hb1:Below w.heap.size w w1:=(Below.refl _ _).grown hgrow1 (Nat.le_refl _) (by simp)
 have hfr1:Fr .u32 173 w1 w.heap.size (some ⟨w.heap.size,0,none⟩) 0 (M+1) []:=⟨rfl,hown1⟩
 go_loopw [5,6,7] (fun v b i wr=>∃ (k y c':Nat) (A':Option Addr) (P:List Nat),k≤M+1∧y≤1∧(k=M+1→y=0)∧i=.int .i64 k∧b=.int .u64 (y:Int)∧v=.slice A' k c'∧k≤c'∧Hid (c'≤maxLen)∧Fr .u32 173 wr w.heap.size A' k c' P∧Below w.heap.size w wr ∧
  Hid (Lim B32 P∧val B32 P+B32 ^ k*y=val B32 (la.take k)+val B32 (lb.take k))) (fun _ b i _=>2*(M+1 - (intOf i).toNat)+(intOf b).toNat)
 case atStart=>exact ⟨0,0,M+1,_,[],by omega,by omega,fun _=>rfl,rfl,rfl,rfl,by omega,by show M+1≤maxLen;unfold maxLen;omega,hfr1,hb1,Lim.nil,by simp⟩
 case round =>
  obtain ⟨k,y,c',A',P,hk,hy,hky,rfl,rfl,rfl,hkc,HC,hfr,hbl,HV⟩:=hrel
  by_cases hgo:k < M ∨ 0 < y
  · have HF:=Lib.hid hfr.1
    have ha':=ha.below hbl
    have hb':=hb.below hbl
    obtain ⟨x,hxB,hxt,hxc⟩:∃ x,x < B32∧val B32 (la.take (k+1))=val B32 (la.take k)+B32 ^ k*x∧(k < n∧(∃ b o,A=some ⟨b,o,none⟩∧wr.cell? ⟨b,o+k,none⟩=some (.int .u32 (x:Int))) ∨ ¬ k < n∧x=0):=by
     by_cases hkn:k < n
     · obtain ⟨b,o,e,hc⟩:=ha'.at_ (by omega)
       obtain ⟨x,hx,hcx⟩:=hc k hkn
       exact ⟨x,La.get hx,val_take_succ hx,.inl ⟨hkn,b,o,e,hcx⟩⟩
     · exact ⟨0,by decide,take_past (by have:=HLA.out;omega),.inr ⟨hkn,rfl⟩⟩
    obtain ⟨z,hzB,hzt,hzc⟩:∃ z,z < B32∧val B32 (lb.take (k+1))=val B32 (lb.take k)+B32 ^ k*z∧(k < m∧(∃ b o,B=some ⟨b,o,none⟩∧wr.cell? ⟨b,o+k,none⟩=some (.int .u32 (z:Int))) ∨ ¬ k < m∧z=0):=by
     by_cases hkm:k < m
     · obtain ⟨b,o,e,hc⟩:=hb'.at_ (by omega)
       obtain ⟨z,hz,hcz⟩:=hc k hkm
       exact ⟨z,Lb.get hz,val_take_succ hz,.inl ⟨hkm,b,o,e,hcz⟩⟩
     · exact ⟨0,by decide,take_past (by have:=HLB.out;omega),.inr ⟨hkm,rfl⟩⟩
    have hxB':x≤4294967295:=by have:B32=4294967296:=rfl;omega
    have hzB':z≤4294967295:=by have:B32=4294967296:=rfl;omega
    obtain ⟨lo,hlo⟩:∃ lo,lo=(y+x+z) % B32:=⟨_,rfl⟩
    obtain ⟨hi2,hhi⟩:∃ hi,hi=(y+x+z) / B32:=⟨_,rfl⟩
    have e1:IntKind.u32.wrap ((y:Int)+(x:Int)+(z:Int))=(lo:Int):=by rw [hlo];exact wrap32_nat (y+x+z)
    have e2:((y:Int)+(x:Int)+(z:Int)) / 4294967296=(hi2:Int):=by rw [hhi,show B32=4294967296 from rfl];omega
    have hhi1:hi2≤1:=by rw [hhi,show B32=4294967296 from rfl];omega
    have hlim:Lim B32 (P ++ [lo]):=HV.out.1.append (Lim.cons (by rw [hlo];exact Nat.mod_lt _ (by decide)) Lim.nil)
    have hst:=radd_step hfr.1 hxt hzt HV.out.2
    rw [← hlo,← hhi] at hst
    have hfr2:Fr .u32 173 (wr.alloc (.cells #[.int .u32 (lo:Int)] 173)) w.heap.size A' k c' P:=hfr.below (B':=wr.heap.size) ((Below.refl _ _).alloc (Nat.le_refl _) _) (Nat.le_refl _)
    have hcell:(wr.alloc (.cells #[.int .u32 (lo:Int)] 173)).cell? ⟨wr.heap.size,0,none⟩=some (.int .u32 (lo:Int)):=by rw [World.cell?_alloc_new];rfl
    have hend:k=M→k+1=M+1→hi2=0:=by
     intro h1 _
     have hx0:x=0:=by
      rcases hxc with ⟨h2,_⟩ | ⟨_,h2⟩
      · omega
      · exact h2
     have hz0':z=0:=by
      rcases hzc with ⟨h2,_⟩ | ⟨_,h2⟩
      · omega
      · exact h2
     rw [hhi,hx0,hz0',show B32=4294967296 from rfl];omega
    have HCL:=Lib.hid hcell
    have HST:=Lib.hid (And.intro hlim hst)
    have HEND:=Lib.hid hend;clear hcell hst hlim hend hlo hhi hxt hzt hxB hzB
    have hgo2:(k:Int) < (M:Int) ∨ ¬ (k:Int) < (M:Int)∧(0:Int) < (y:Int):=by omega
    have hkM:k≤M:=by
     rcases Nat.lt_or_ge M k with h | h
     · have:=hky (by omega);omega
     · exact h
    clear hgo hky
    rcases hgo2 with hg | ⟨hg,hg2⟩
    all_goals
     rcases hxc with ⟨hkn,b,o,hA,hcx⟩ | ⟨hkn,hx0⟩
     all_goals
      rcases hzc with ⟨hkm,b2,o2,hB,hcz⟩ | ⟨hkm,hz0'⟩
      all_goals
       first
        | (subst hA;subst hB)
        | (subst hA;subst hz0')
        | (subst hx0;subst hB)
        | (subst hx0;subst hz0')
       try simp only [Int.natCast_zero,Int.add_zero] at e1 e2
       first | (exfalso;omega) | skip
       all_goals go_wp2_with (at_builtin;refine wpList_append1 .u32 45 173 4 (.int .u32 0) rfl Tryz.underlying45 info_u32 (by omega) _ rfl (.tmp 52) (.tmp 55) rfl w.heap.size A' k c' P rfl hfr2 wr.heap.size 1 lo rfl HCL.out (by omega) (Nat.le_trans hbl.size (by simp)) ?_;intro A2 c2 w2 p1 p2 p3 p4 p5)
       all_goals
        go_roundw
        case rel=>exact ⟨k+1,hi2,c2,A2,P ++ [lo],by omega,hhi1,fun h=>HEND.out (by omega) h,by go_num,rfl,rfl,p2,p3,p1,(hbl.alloc hbl.size _).trans p4,HST.out.1,HST.out.2⟩
        case measure=>simp [intOf];omega
  · have hy0:y=0:=by omega
    subst hy0
    have hkM:M≤k:=by omega
    clear hgo
    go_wp2_with (go_at_call 121;refine (rtrim_any P A' k c' wr hfr.rd HV.out.1 (by unfold maxLen;omega) hkc).mono ?_;rintro e w' ⟨⟨j,hj,rfl,hj2,hj3⟩,rfl⟩)
    go_ret;have hv:=HV.out.2
    rw [List.take_of_length_le (by have:=HLA.out;omega),List.take_of_length_le (by have:=HLB.out;omega),Nat.mul_zero,Nat.add_zero] at hv
    have hcut:=hfr.cut hj
    rw [← hj2,hv] at hcut
    exact ⟨_,_,_,rfl,by omega,HC.out,hcut,hbl⟩
end
section
open Go.RowKit
theorem rsub_step {la lb P:List Nat} {k x z y d t:Nat} (hP:P.length=k) (hx:la[k]?=some x) (hz:val B32 (lb.take (k+1))=val B32 (lb.take k)+B32 ^ k*z)
 (h:val B32 P+val B32 (lb.take k)=val B32 (la.take k)+B32 ^ k*y) (hd:d+(y+z)=x+B32*t) :
 val B32 (P ++ [d])+val B32 (lb.take (k+1))=val B32 (la.take (k+1))+B32 ^ (k+1)*t:=by
 rw [val_snoc,hz,val_take_succ hx,hP,Nat.pow_succ]
 grind
theorem rsub_any (la lb:List Nat) (A B:Option Addr) (n c m d:Nat) (w:World) (ha:Rd .u32 w A n la) (hb:Rd .u32 w B m lb) (La:Lim B32 la) (Lb:Lim B32 lb) (hn0:n≤1000000) (hmn:m≤n) (hle0:val B32 lb≤val B32 la) :
 Calls Tryz.prog 143 #[.slice A n c,.slice B m d] w (GivesS .u32 173 w (limbs B32 (val B32 la - val B32 lb))):=by
 have hnb:n≤1000000:=hn0
 have HLA:=Lib.hid ha.1;have HLB:=Lib.hid hb.1;have HLE:=Lib.hid hle0
 obtain ⟨i0,hi,hz0,hz1,hz2⟩:=info_parts info_u32
 clear hn0 hle0
 go_enter Tryz.func143,Tryz.ntmps143
 go_wp2_with (at_make;refine wpList_make_own _ rfl (.const (.int .i64 0)) (.tmp 11) 45 rfl w.heap.size 173 i0 (.int .u32 0) 1 Tryz.underlying45 hi hz0 hz1 .i64 .i64 _ n rfl rfl rfl (by rw [hz2];omega) (by unfold maxLen;omega) (Nat.le_refl _) ?_;intro w1 hown1 hgrow1)
 have hb1:Below w.heap.size w w1:=(Below.refl _ _).grown hgrow1 (Nat.le_refl _) (by simp)
 have hfr1:Fr .u32 173 w1 w.heap.size (some ⟨w.heap.size,0,none⟩) 0 n []:=⟨rfl,hown1⟩
 go_loopw [5,6,7] (fun v b i wr=>∃ (k y c':Nat) (A':Option Addr) (P:List Nat),k≤n∧y≤1∧i=.int .i64 k∧b=.int .u64 (y:Int)∧v=.slice A' k c'∧k≤c'∧Hid (c'≤maxLen)∧Fr .u32 173 wr w.heap.size A' k c' P∧Below w.heap.size w wr ∧
  Hid (Lim B32 P∧val B32 P+val B32 (lb.take k)=val B32 (la.take k)+B32 ^ k*y)) (fun _ _ i _=>n - (intOf i).toNat)
 case atStart=>exact ⟨0,0,n,_,[],by omega,by omega,rfl,rfl,rfl,by omega,by show n≤maxLen;unfold maxLen;omega,hfr1,hb1,Lim.nil,by simp⟩
 case round =>
  obtain ⟨k,y,c',A',P,hk,hy,rfl,rfl,rfl,hkc,HC,hfr,hbl,HV⟩:=hrel
  by_cases hlt:k < n
  · have ha':=ha.below hbl
    have hb':=hb.below hbl
    obtain ⟨b,o,hA,hc⟩:=ha'.at_ (by omega)
    obtain ⟨x,hx,hcx⟩:=hc k hlt
    obtain ⟨z,hzB,hzt,hzc⟩:∃ z,z < B32∧val B32 (lb.take (k+1))=val B32 (lb.take k)+B32 ^ k*z∧(k < m∧(∃ b o,B=some ⟨b,o,none⟩∧wr.cell? ⟨b,o+k,none⟩=some (.int .u32 (z:Int))) ∨ ¬ k < m∧z=0):=by
     by_cases hkm:k < m
     · obtain ⟨b,o,e,hc⟩:=hb'.at_ (by omega)
       obtain ⟨z,hz,hcz⟩:=hc k hkm
       exact ⟨z,Lb.get hz,val_take_succ hz,.inl ⟨hkm,b,o,e,hcz⟩⟩
     · exact ⟨0,by decide,take_past (by have:=HLB.out;omega),.inr ⟨hkm,rfl⟩⟩
    have hxB:=La.get hx
    have hxB':x≤4294967295:=by have:B32=4294967296:=rfl;omega
    have hzB':z≤4294967295:=by have:B32=4294967296:=rfl;omega
    obtain ⟨t,ht⟩:∃ t,t=if x < y+z then 1 else 0:=⟨_,rfl⟩
    obtain ⟨dd,hdd⟩:∃ dd,dd+(y+z)=x+B32*t:=⟨x+B32*t - (y+z),by rw [show B32=4294967296 from rfl];split at ht <;> omega⟩
    have hddB:dd < B32:=by rw [show B32=4294967296 from rfl] at hdd ⊢;split at ht <;> omega
    have hst:=rsub_step hfr.1 hx hzt HV.out.2 hdd
    have hlim:Lim B32 (P ++ [dd]):=HV.out.1.append (Lim.cons hddB Lim.nil)
    have hfr2:Fr .u32 173 (wr.alloc (.cells #[.int .u32 (dd:Int)] 173)) w.heap.size A' k c' P:=hfr.below (B':=wr.heap.size) ((Below.refl _ _).alloc (Nat.le_refl _) _) (Nat.le_refl _)
    have hcell:(wr.alloc (.cells #[.int .u32 (dd:Int)] 173)).cell? ⟨wr.heap.size,0,none⟩=some (.int .u32 (dd:Int)):=by rw [World.cell?_alloc_new];rfl
    have HCL:=Lib.hid hcell
    have HST:=Lib.hid (And.intro hlim hst)
    have hddI:IntKind.u32.wrap (dd:Int)=(dd:Int):=by have:=wrap32_nat dd;rwa [Nat.mod_eq_of_lt hddB] at this
    rw [show B32=4294967296 from rfl] at hdd
    clear hcell hst hlim hzt hzB hxB hx hc hddB
    rcases hzc with ⟨hkm,b2,o2,hB,hcz⟩ | ⟨hkm,hz0'⟩
    all_goals
     by_cases hlt2:(x:Int) < (y:Int)+(z:Int)
     all_goals
      first
       | (have ht1:t=1:=by (rw [ht,if_pos (by omega)])
          have e1:IntKind.u32.wrap ((x:Int)+4294967296 - ((y:Int)+(z:Int)))=(dd:Int):=by (rw [← hddI];congr 1;omega))
       | (have ht1:t=0:=by (rw [ht,if_neg (by omega)])
          have e1:IntKind.u32.wrap ((x:Int) - ((y:Int)+(z:Int)))=(dd:Int):=by (rw [← hddI];congr 1;omega))
      first
       | (subst hA;subst hB)
       | (subst hA;subst hz0')
      have HDI:=Lib.hid hddI
      subst ht1
      clear ht hdd hddI
      try simp only [Int.natCast_zero,Int.add_zero] at e1 hlt2
      go_wp2_with (at_builtin;refine wpList_append1 .u32 45 173 4 (.int .u32 0) rfl Tryz.underlying45 info_u32 (by omega) _ rfl (.tmp 41) (.tmp 46) rfl w.heap.size A' k c' P rfl hfr2 wr.heap.size 1 dd rfl HCL.out (by omega) (Nat.le_trans hbl.size (by simp)) ?_;intro A2 c2 w2 p1 p2 p3 p4 p5)
      go_roundw
      case rel =>
       first
        | exact ⟨k+1,1,c2,A2,P ++ [dd],by omega,by omega,by go_num,rfl,rfl,p2,p3,p1,(hbl.alloc hbl.size _).trans p4,HST.out.1,HST.out.2⟩
        | exact ⟨k+1,0,c2,A2,P ++ [dd],by omega,by omega,by go_num,rfl,rfl,p2,p3,p1,(hbl.alloc hbl.size _).trans p4,HST.out.1,HST.out.2⟩
      case measure=>simp [intOf];omega
  · obtain rfl:k=n:=by omega
    go_wp2_with (go_at_call 121;refine (rtrim_any P A' k c' wr hfr.rd HV.out.1 (by unfold maxLen;omega) hkc).mono ?_;rintro e w' ⟨⟨j,hj,rfl,hj2,hj3⟩,rfl⟩)
    go_ret;have hv:=HV.out.2
    rw [List.take_of_length_le (l:=lb) (by have:=HLB.out;omega),List.take_of_length_le (l:=la) (by have:=HLA.out;omega)] at hv
    have hPl:=val_lt HV.out.1;rw [hfr.1] at hPl
    have hv2:val B32 P=val B32 la - val B32 lb:=by
     have hle:=HLE.out
     rcases Nat.eq_zero_or_pos y with h0 | h0
     · subst h0;omega
     · have:=Nat.mul_le_mul_left (B32 ^ k) h0
       omega
    have hcut:=hfr.cut hj
    rw [← hj2,hv2] at hcut
    exact ⟨_,_,_,rfl,by omega,HC.out,hcut,hbl⟩
end
section
open Go.RowKit
theorem wpList_make32 (w:World) {ops:Array Oper} {rest:List Oper} {o:Oper} {a:Act} {Q:Exit→Act→World→Prop}
 (hg:o.guard=none) (l c:Operand) (hop:o.op=Op.makeSlice 45 l c) (kl kc:IntKind) (L C:Int) (n:Nat) (hl:a.eval l=.int kl L) (hc:a.eval c=.int kc C)
 (hL:L=(n:Int)) (hC:C=(n:Int)) (hn:n≤35184372088832)
 (hK:∀ w',Own .u32 173 w' w.heap.size (List.replicate n 0)→Below w.heap.size w w'→wpList Tryz.prog ops Q rest (a.put o.dst (.slice (some ⟨w.heap.size,0,none⟩) n n)) w') :
 wpList Tryz.prog ops Q (o :: rest) a w:=by
 obtain ⟨i0,hi,hz0,hz1,hz2⟩:=info_parts info_u32
 refine wpList_make_full w hg l c 45 hop w.heap.size 173 i0 (.int .u32 0) 1 Tryz.underlying45 hi hz0 hz1 kl kc L C n hl hc hL hC (by rw [hz2];omega) (by unfold maxLen;omega) (Nat.le_refl _) ?_
 intro w' hown hgrow
 refine hK w' ?_ ((Below.refl _ _).grown hgrow (Nat.le_refl _) (by simp))
 have e:(madeCells (Value.int .u32 0).cells (n*1)).toList=nums .u32 (List.replicate n 0):=by
  rw [nums_zeros,Nat.mul_one]
  exact toList_madeCells_one _ _
 rw [e] at hown
 exact (Own.of_row hown).1
theorem wrap64_small (n:Nat) (h:n < B64):IntKind.u64.wrap (n:Int)=(n:Int):=by
 have:=wrap_nat n
 rwa [Nat.mod_eq_of_lt h] at this
theorem only_drawn' {g:Nat} {w w':World} (h:Only g w w') (q:Nat):Only g w (w'.drewN q):=⟨h.os,h.tape,h.output,h.size,h.block⟩
theorem rm_expr {u x z y:Nat} (hu:u < B32) (hx:x < B32) (hz:z < B32) (hy:y < B32) :
 IntKind.u64.wrap (IntKind.u64.wrap (IntKind.u64.wrap (u:Int)+IntKind.u64.wrap (IntKind.u64.wrap (x:Int)*IntKind.u64.wrap (z:Int)))+(y:Int))=((u+x*z+y:Nat):Int):=by
 have hb:B32 < B64:=by decide
 have h1:x*z≤(B32 - 1)*(B32 - 1):=Nat.mul_le_mul (by omega) (by omega)
 have h2:(B32 - 1)*(B32 - 1)+(B32 - 1)+(B32 - 1) < B64:=by decide
 rw [wrap64_small u (by omega),wrap64_small x (by omega),wrap64_small z (by omega),← Int.natCast_mul,wrap64_small (x*z) (by omega),← Int.natCast_add,wrap64_small (u+x*z) (by omega),← Int.natCast_add,wrap64_small _ (by omega)]
theorem rm_step {seg lb S:List Nat} {k u x z y:Nat} (hS:S.length=k) (hu:seg[k]?=some u) (hz:lb[k]?=some z) (h:val B32 S+B32 ^ k*y=val B32 (seg.take k)+x*val B32 (lb.take k)) :
 val B32 (S ++ [(u+x*z+y) % B32])+B32 ^ (k+1)*((u+x*z+y) / B32)=val B32 (seg.take (k+1))+x*val B32 (lb.take (k+1)):=by
 have hp:=Nat.mod_add_div (u+x*z+y) B32
 rw [val_snoc,val_take_succ hu,val_take_succ hz,hS,Nat.pow_succ]
 generalize (u+x*z+y) % B32=lo at *
 generalize (u+x*z+y) / B32=hi at *
 grind
theorem rl_step {P S:List Nat} {i m x y:Nat} {la lb:List Nat} (hP:P.length=m+i) (hS:S.length=m) (hx:la[i]?=some x)
 (h:val B32 P=val B32 (la.take i)*val B32 lb) (hs:val B32 S+B32 ^ m*y=val B32 (P.drop i)+x*val B32 lb) :
 val B32 ((P.take i ++ S) ++ [y])=val B32 (la.take (i+1))*val B32 lb:=by
 rw [val_take_succ hx,val_snoc,val_append,List.length_append,List.length_take,Nat.min_eq_left (by omega),hS,Nat.pow_add,Nat.add_mul,← h]
 have hp:=val_take_drop (B:=B32) P i (by omega)
 rw [hp]
 generalize val B32 (P.take i)=p at *
 generalize val B32 (P.drop i)=q at *
 generalize val B32 S=s at *
 generalize val B32 lb=a at *
 generalize B32 ^ i=b at *
 generalize B32 ^ m=c at *
 grind
theorem rm_bound {u x z y:Nat} (hu:u < B32) (hx:x < B32) (hz:z < B32) (hy:y < B32):u+x*z+y < B64∧x*z < B64∧u+x*z < B64∧(u+x*z+y) / B32 < B32:=by
 have h1:x*z≤(B32 - 1)*(B32 - 1):=Nat.mul_le_mul (by omega) (by omega)
 have h2:(B32 - 1)*(B32 - 1)+(B32 - 1)+(B32 - 1) < B64:=by decide
 refine ⟨by omega,by omega,by omega,?_⟩
 rw [Nat.div_lt_iff_lt_mul (by decide),show B32*B32=B64 from rfl];omega
theorem rmul_any (la lb:List Nat) (A B:Option Addr) (n c m d:Nat) (w:World) (ha:Rd .u32 w A n la) (hb:Rd .u32 w B m lb) (La:Lim B32 la) (Lb:Lim B32 lb) (hn0:n≤1000000) (hm0:m≤1000000) :
 Calls Tryz.prog 119 #[.slice A n c,.slice B m d] w (GivesS .u32 173 w (limbs B32 (val B32 la*val B32 lb))):=by
 have hnb:n≤1000000:=hn0
 have hmb:m≤1000000:=hm0
 have HLA:=Lib.hid ha.1;have HLB:=Lib.hid hb.1;clear hn0 hm0
 go_enter Tryz.func119,Tryz.ntmps119
 go_wp2_with (at_make;refine wpList_make32 _ rfl (.tmp 14) (.tmp 14) rfl .i64 .i64 _ _ (n+m) rfl rfl (by omega) (by omega) (by omega) ?_;intro w1 hown1 hb1)
 go_loopw [6] (fun i wr=>∃ (j:Nat) (P:List Nat),j≤n∧i=.int .i64 j∧Hid (P.length=m+j)∧Own .u32 173 wr w.heap.size (P ++ List.replicate (n - j) 0)∧Only w.heap.size w1 wr ∧
  Hid (Lim B32 P∧val B32 P=val B32 (la.take j)*val B32 lb)) (fun i _=>n - (intOf i).toNat)
 case atStart=>exact ⟨0,List.replicate m 0,Nat.zero_le _,rfl,by show _=_;simp,by rw [List.replicate_append_replicate,Nat.sub_zero,Nat.add_comm];exact hown1,Only.refl _ _,Lim.zeros _ (by decide),by rw [val_zeros];simp⟩
 case round =>
  obtain ⟨j,P,hj,rfl,HP,hown,hon,HV⟩:=hrel
  by_cases hlt:j < n
  · have hb2:Below w.heap.size w wr:=Below.only hb1 (Nat.le_refl _) hb1.size hon
    have ha':=ha.below hb2
    obtain ⟨ba,oa,hA,hca⟩:=ha'.at_ (by omega)
    obtain ⟨x,hx,hcx⟩:=hca j hlt
    have hxB:=La.get hx
    have hz0:Seg .u32 173 wr w.heap.size (P.take j) [] (P.drop j) (List.replicate (n - j) 0):=Seg.start (by rw [← List.append_assoc,List.take_append_drop];exact hown)
    have hl1:Hid ((P.take j).length=j):=by show _=_;rw [List.length_take,HP.out];omega
    have hl2:Hid ((P.drop j).length=m):=by show _=_;rw [List.length_drop,HP.out];omega
    have HX:=Lib.hid hx;have HXB:=Lib.hid hxB
    subst hA
    clear hca hx hxB hown hcx
    go_wp2_with fail
    go_loopw [7,8] (fun b i w2=>∃ (k y:Nat) (S:List Nat),k≤m∧i=.int .i64 k∧b=.int .u64 (y:Int)∧Hid (S.length=k)∧Seg .u32 173 w2 w.heap.size (P.take j) S (P.drop j) (List.replicate (n - j) 0)∧Only w.heap.size w1 w2 ∧
     Hid (y < B32∧Lim B32 S∧val B32 S+B32 ^ k*y=val B32 ((P.drop j).take k)+x*val B32 (lb.take k))) (fun _ i _=>m - (intOf i).toNat)
    case atStart=>exact ⟨0,0,[],Nat.zero_le _,rfl,rfl,rfl,hz0,hon,by decide,Lim.nil,by simp⟩
    case round =>
     clear hon
     obtain ⟨k,y,S,hk,rfl,rfl,HSl,hsg,hon,HVV⟩:=hrel
     have hb3:Below w.heap.size w wr:=Below.only hb1 (Nat.le_refl _) hb1.size hon
     by_cases hlt2:k < m
     · obtain ⟨bb,ob,hB,hcb⟩:=(hb.below hb3).at_ (by omega)
       obtain ⟨z,hz,hcz⟩:=hcb k hlt2
       obtain ⟨_,_,hA2,hca⟩:=(ha.below hb3).at_ (by omega)
       cases hA2
       obtain ⟨x2,hx2,hcx⟩:=hca j hlt
       obtain rfl:x2=x:=by have:=HX.out.symm.trans hx2;injection this with this;exact this.symm
       have hks:k < (P.drop j).length:=by have:=hl2.out;omega
       obtain ⟨u,hu⟩:∃ u,(P.drop j)[k]?=some u:=⟨_,List.getElem?_eq_getElem hks⟩
       have hcu:=hsg.cell hl1.out HSl.out hks hu
       have hfz:=Own.frozen hsg (j+k)
       have huB:u < B32:=(HV.out.1.drop j).get hu
       obtain ⟨q1,q2,q3,q4⟩:=rm_bound huB HXB.out (Lb.get hz) HVV.out.1
       have HE:=Lib.hid (rm_expr huB HXB.out (Lb.get hz) HVV.out.1)
       obtain ⟨v,hvv⟩:∃ v,v=u+x2*z+y:=⟨_,rfl⟩
       have hst:=rm_step HSl.out hu hz HVV.out.2.2
       rw [← hvv] at hst q4
       have HVE:=Lib.hid hvv;have HST:=Lib.hid hst;have HHI:=Lib.hid q4;have HKS:=Lib.hid hks
       subst hB
       clear hst hu hz hks hcb hca hx2 huB q1 q2 q3 q4 hvv
       go_wp2_with fail
       go_quiet (fail)
       go_wp2_with fail
       go_roundw
       case rel =>
        have e5:(v:Int) / 4294967296=((v / B32:Nat):Int):=by rw [show B32=4294967296 from rfl];omega
        have e6:(v:Int) % 4294967296=((v % B32:Nat):Int):=by rw [show B32=4294967296 from rfl];omega
        rw [HE.out,← HVE.out,e5,e6]
        exact ⟨k+1,v / B32,S ++ [v % B32],by omega,by go_num,rfl,by show _=_;rw [List.length_append,HSl.out];rfl,Seg.store (w:=wr.drewN nq) hsg hl1.out HSl.out HKS.out _,(only_drawn' hon nq).setCell _ _,HHI.out,HVV.out.2.1.append (Lim.cons (Nat.mod_lt _ (by decide)) Lim.nil),HST.out⟩
       case measure=>simp [intOf];omega
     · obtain rfl:k=m:=by omega
       have fin:=hsg.done (by have:=HSl.out;have:=hl2.out;omega)
       rw [zeros_succ hlt,← List.append_assoc] at fin
       have hQ:(P.take j ++ S).length=j+k:=by rw [List.length_append,hl1.out,HSl.out]
       have hcz:=fin.cell_len hQ
       have hfz:=Own.frozen fin (j+k)
       have HQ:=Lib.hid hQ
       have hyI:IntKind.u32.wrap (y:Int)=(y:Int):=by have:=wrap32_nat y;rwa [Nat.mod_eq_of_lt HVV.out.1] at this
       clear hQ
       go_wp2_with fail
       go_roundw
       case rel =>
        obtain ⟨v1,v2,v3⟩:=HVV.out
        rw [List.take_of_length_le (l:=lb) (by have:=HLB.out;omega),List.take_of_length_le (l:=P.drop j) (by have:=hl2.out;omega)] at v3
        refine ⟨j+1,(P.take j ++ S) ++ [y],by omega,by go_num,?_,fin.store_len HQ.out y,hon.setCell _ _,((HV.out.1.take _).append v2).snoc v1,rl_step HP.out HSl.out HX.out HV.out.2 v3⟩
        show _=_
        rw [List.length_append,HQ.out];simp;omega
       case measure=>simp [intOf];omega
  · obtain rfl:j=n:=by omega
    have hlP:P.length=j+m:=by rw [HP.out];omega
    have hownP:Own .u32 173 wr w.heap.size P:=by simpa using hown
    have hv:=HV.out.2
    rw [List.take_of_length_le (by have:=HLA.out;omega)] at hv
    have HVF:=Lib.hid hv;have HLP:=Lib.hid hlP;clear hv hlP
    go_wp2_with (go_at_call 121;refine (rtrim_any P _ (j+m) (j+m) wr (hownP.rd HLP.out (fun i x hx=>by rw [Nat.zero_add];exact hx)) HV.out.1 (by unfold maxLen;omega) (Nat.le_refl _)).mono ?_;rintro e w' ⟨⟨q,hq,rfl,hj2,hj3⟩,rfl⟩)
    go_ret
    have hfr:=Fr.of_own hownP (B:=w.heap.size) (Nat.le_refl _) (k:=q) (by rw [HLP.out];exact hq) (by rw [HLP.out];unfold maxLen;omega)
    rw [← hj2,HVF.out,HLP.out] at hfr
    exact ⟨_,_,_,rfl,hq,by unfold maxLen;omega,hfr,Below.only hb1 (Nat.le_refl _) hb1.size hon⟩
end
end Go.Proofs.YtfpaeophfcoohaaGreat
