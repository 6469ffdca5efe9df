/- FlatNear: part 3. -/
import Derived.Test.YtlpogecpdfdggaaGreatKFlatNear0
import Derived.Test.YtlpogecpdfdggaaGreatKFlatNear1
import Derived.Test.YtlpogecpdfdggaaGreatKFlatNear2
set_option linter.unusedVariables false
set_option maxRecDepth 100000
set_option maxHeartbeats 16000000
variable {w:Go.World}
namespace Go.Proofs.YtlpogecpdfdggaaGreat
section
open Go.RowKit
def decs (V:Nat):Nat→List Nat
 | 0=>[]
 | L+1=>decs (V / 10) L ++ [48+V % 10]
theorem length_decs (V L:Nat):(decs V L).length=L:=by
 induction L generalizing V with
 | zero=>rfl
 | succ L ih=>rw [decs,List.length_append,ih];rfl
theorem decs_add (V i j:Nat):decs V (i+j)=decs (V / 10 ^ j) i ++ decs V j:=by
 induction j generalizing V with
 | zero=>simp [decs]
 | succ j ih =>
   rw [← Nat.add_assoc,decs,ih,decs,← List.append_assoc,Nat.pow_succ,Nat.mul_comm,← Nat.div_div_eq_div_mul]
theorem decs_mod (V:Nat) {L k:Nat} (h:L≤k):decs (V % 10 ^ k) L=decs V L:=by
 induction L generalizing V k with
 | zero=>rfl
 | succ L ih =>
   obtain ⟨m,rfl⟩:∃ m,k=m+1:=⟨k - 1,by omega⟩
   rw [decs,decs]
   have h1:V % 10 ^ (m+1) / 10=V / 10 % 10 ^ m:=by
    rw [Nat.pow_succ,Nat.mul_comm,Nat.mod_mul_right_div_self]
   have h2:V % 10 ^ (m+1) % 10=V % 10:=by
    rw [Nat.pow_succ,Nat.mod_mul_left_mod]
   rw [h1,h2,ih _ (by omega)]
theorem decs_one (V L:Nat):decs V (L+1)=(48+V / 10 ^ L % 10) :: decs V L:=by
 rw [Nat.add_comm,decs_add];rfl
structure OnlyS (S:Nat→Prop) (w w':World):Prop where
 os:w'.os=w.os
 tape:w'.tape=w.tape
 output:w'.output=w.output
 size:w.heap.size≤w'.heap.size
 block:∀ k,k < w.heap.size→¬ S k→w'.heap[k]?=w.heap[k]?
section
variable {S:Nat→Prop} {w w1 w':World}
theorem OnlyS.refl (S:Nat→Prop) (w:World):OnlyS S w w:=⟨rfl,rfl,rfl,Nat.le_refl _,fun _ _ _=>rfl⟩
theorem OnlyS.trans (h:OnlyS S w w1) (k:OnlyS S w1 w'):OnlyS S w w' :=
 ⟨k.os.trans h.os,k.tape.trans h.tape,k.output.trans h.output,Nat.le_trans h.size k.size,fun i hi hg=>(k.block i (Nat.lt_of_lt_of_le hi h.size) hg).trans (h.block i hi hg)⟩
theorem OnlyS.only {g:Nat} (h:OnlyS S w w1) (hg:S g) (k:Only g w1 w'):OnlyS S w w' :=
 h.trans ⟨k.os,k.tape,k.output,k.size,fun i hi hs=>k.block i hi (fun e=>hs (by rw [e];exact hg))⟩
theorem OnlyS.setCell {g:Nat} (h:OnlyS S w w1) (hg:S g) (i:Nat) (u:Value):OnlyS S w (w1.setCell ⟨g,i,none⟩ u):=h.only hg ((Only.refl _ _).setCell i u)
end
end
section
open Go.RowKit
theorem e_ten {t:Nat} (h:t < B64):Value.int .u64 (IntKind.u64.wrap ((t:Int) / 10))=.int .u64 ((t / 10:Nat):Int):=by
 have:=e_quo (U:=t) (Y1:=10) h
 exact congrArg _ this
theorem writeLimbs_any (la rest pre seg post:List Nat) (gd ga o d cd n c V:Nat) (w:World) (hd:Own .u8 5 w gd (pre ++ (seg ++ post))) (ho:pre.length=o) (hs:seg.length=d)
 (ha:Own .u64 74 w ga (la ++ rest)) (hl:la.length=n) (La:Lim B64 la) (hV:val B64 la=V) (hne:gd ≠ ga) (hd0:d≤17592186044415) (hcd:d≤cd) (hn:n≤17592186044415) (hnc:n≤c) :
 Calls Tryz.prog 130 #[.slice (some ⟨gd,o,none⟩) d cd,.slice (some ⟨ga,0,none⟩) n c] w fun e w'=>e=.returned (.tuple #[]) ∧
  Own .u8 5 w' gd (pre ++ (decs V d ++ post))∧OnlyS (fun k=>k=gd ∨ k=ga) w w':=by
 have HO:=Lib.hid ho;have HS:=Lib.hid hs;have HN:=Lib.hid hn;have HV:=Lib.hid hV;have HL:=Lib.hid hl
 have hd45:d≤2 ^ 45:=by omega
 have h19:(0:Nat) < tenTo 19:=by decide
 have H19:=Lib.hid h19;clear ho hs hn hV hl hd0 h19
 go_enter Tryz.func130,Tryz.ntmps130
 go_wp2_with (go_at_call 132;refine (powerOfTen_any 19 w (by omega)).mono ?_;rintro e w' ⟨rfl,hw⟩;obtain rfl:=hw.symm)
 go_loopw [0,1] (fun t a wr=>∃ (j n':Nat) (l r:List Nat),t=.slice (some ⟨gd,o,none⟩) j cd∧a=.slice (some ⟨ga,0,none⟩) n' c∧j≤d∧n'≤n∧Hid (Own .u8 5 wr gd (pre ++ (seg.take j ++ (decs V (d - j) ++ post)))) ∧
  Hid (Own .u64 74 wr ga (l ++ r)∧l.length=n'∧Lim B64 l∧(j=0 ∨ val B64 l=V / 10 ^ (d - j)))∧OnlyS (fun k=>k=gd ∨ k=ga) w wr) (fun t _ _=>sLen t)
 case atStart=>exact ⟨d,n,la,rest,rfl,rfl,Nat.le_refl _,Nat.le_refl _,by show Own _ _ _ _ _;rw [List.take_of_length_le (by have:=HS.out;omega),Nat.sub_self];exact hd,⟨ha,HL.out,La,Or.inr (by rw [Nat.sub_self,HV.out];simp)⟩,OnlyS.refl _ _⟩
 case round =>
  obtain ⟨j,n',l,r,rfl,rfl,hj,hn',HD,HA,hon⟩:=hrel
  by_cases hj0:0 < j
  · obtain ⟨E,hE⟩:∃ E,E=j - 19:=⟨_,rfl⟩
    have hEj:E < j:=by omega
    have hE19:j - E≤19:=by omega
    have hEc:E=0 ∨ j - E=19:=by omega
    have hmax:max (0:Int) ((j:Int) - 19)=(E:Int):=by omega
    have hEd:(E:Int)≤(cd:Int):=by omega
    have HEC:=Lib.hid hEc
    obtain ⟨T,hT⟩:∃ T,T=val B64 l % tenTo 19:=⟨_,rfl⟩
    have hTe:(val B64 l:Int) % (tenTo 19:Int)=(T:Int):=by rw [hT,Int.natCast_emod]
    have hTB:Hid (T < B64):=by (show T < B64;rw [hT];exact Nat.lt_trans (Nat.mod_lt _ H19.out) (tenTo_lt (by omega)))
    have HT:=Lib.hid hT;clear hE hEc hT
    go_wp2_with (first
     | (go_at_call 142;refine (byLimb_any l r (tenTo 19) ga n' c wr HA.out.1 HA.out.2.1 HA.out.2.2.1 H19.out (tenTo_lt (by omega)) (by have:=HN.out;unfold maxLen;omega)).mono ?_;rintro e w1 ⟨rfl,⟨Q,hQ1,hQ2,hQ3,hQ4⟩,ho1⟩
        have HQ1:=Lib.hid hQ1;have HQ3:=Lib.hid hQ3;clear hQ1 hQ3)
     | (go_at_call 103;refine (trim_any Q (some ⟨ga,0,none⟩) n' c w1 (hQ4.rd HQ1.out (fun i x hx=>by rw [Nat.zero_add,List.getElem?_append_left (List.getElem?_eq_some_iff.1 hx).1];exact hx)) hQ2 (by have:=HN.out;unfold maxLen;omega) (by omega)).mono ?_;rintro e w' ⟨⟨k,hk,rfl,hrk⟩,rfl⟩))
    have hD1:Own .u8 5 w1 gd (pre ++ (seg.take j ++ (decs V (d - j) ++ post))):=HD.out.only ho1 hne
    go_loopw [5,7] (fun v i w2=>∃ i0 t:Nat,i0≤j∧E≤i0∧i=.int .i64 ((i0:Int) - 1)∧v=.int .u64 (t:Int)∧Own .u8 5 w2 gd (pre ++ (seg.take i0 ++ (decs T (j - i0) ++ (decs V (d - j) ++ post))))∧Hid (t < B64∧t=T / 10 ^ (j - i0))∧Only gd w1 w2) (fun _ i _=>(intOf i+1).toNat)
    case atStart=>exact ⟨j,T,Nat.le_refl _,by omega,rfl,rfl,by rw [Nat.sub_self];exact hD1,⟨hTB.out,by rw [Nat.sub_self];simp⟩,Only.refl _ _⟩
    case round =>
     obtain ⟨i0,t,hi0,hEi,rfl,rfl,hown,HTT,hon2⟩:=hrel
     by_cases hlt:E < i0
     · have hks:i0 - 1 < seg.length:=by have:=HS.out;omega
       obtain ⟨x,hx⟩:∃ x,seg[i0 - 1]?=some x:=⟨_,List.getElem?_eq_getElem hks⟩
       have ht:seg.take i0=seg.take (i0 - 1) ++ [x]:=by
        have:=List.take_succ_eq_append_getElem hks
        rw [show i0 - 1+1=i0 by omega] at this
        rw [this,(List.getElem?_eq_some_iff.1 hx).2]
       have hlen:(pre ++ seg.take (i0 - 1)).length=o+(i0 - 1):=by rw [List.length_append,List.length_take,HO.out];omega
       rw [ht,List.append_assoc,← List.append_assoc pre] at hown
       have hcz:=hown.cell_len hlen
       have hfz:=Own.frozen hown (o+(i0 - 1))
       have HLN:=Lib.hid hlen;clear hks hx ht hlen
       go_wp2_with fail
       go_roundw
       case rel =>
        refine ⟨i0 - 1,t / 10,by omega,by omega,by go_num,?_,?_,?_,hon2.setCell _ _⟩
        · exact e_ten HTT.out.1
        · have hst:=hown.store_len HLN.out (48+t % 10)
          rw [show ((48+t % 10:Nat):Int)=48+(t:Int) % 10 by omega] at hst
          have hj1:j - (i0 - 1)=(j - i0)+1:=by omega
          rw [hj1,decs_one,← HTT.out.2]
          rw [List.append_assoc,List.append_assoc] at hst
          exact hst
        · refine ⟨Nat.lt_of_le_of_lt (Nat.div_le_self _ _) HTT.out.1,?_⟩
          rw [show j - (i0 - 1)=(j - i0)+1 by omega,Nat.pow_succ,← Nat.div_div_eq_div_mul,← HTT.out.2]
       case measure=>simp [intOf];omega
     · obtain rfl:i0=E:=by omega
       go_wp2_with fail
       go_roundw
       case rel =>
        obtain ⟨hA1,hA2,hA3,hA4⟩:=HA.out
        have hkl:(limbs B64 (val B64 Q)).length=k:=hrk.1
        have htk:Q.take k=limbs B64 (val B64 Q):=by rw [← hkl];exact limbs_take B64_two hQ2
        have hvl:val B64 l=V / 10 ^ (d - j):=by rcases hA4 with h | h <;> first | omega | exact h
        refine ⟨i0,k,Q.take k,Q.drop k ++ r,rfl,rfl,by omega,by omega,?_,⟨?_,?_,hQ2.take _,?_⟩,?_⟩
        · show Own _ _ _ _ _
          have e1:decs V (d - i0)=decs T (j - i0) ++ decs V (d - j):=by
           rw [show d - i0=(j - i0)+(d - j) by omega,decs_add,← hvl,HT.out]
           unfold tenTo
           rw [decs_mod _ hE19]
          rw [e1,List.append_assoc]
          exact hown
        · rw [← List.append_assoc,List.take_append_drop]
          exact hQ4.only hon2 (Ne.symm hne)
        · rw [htk,hkl]
        · rcases HEC.out with h | h
          · left;exact h
          · right
            rw [htk,val_limbs B64_two,HQ3.out,hvl,Nat.div_div_eq_div_mul]
            unfold tenTo
            rw [← Nat.pow_add]
            congr 2;omega
        · exact (hon.only (Or.inr rfl) ho1).only (Or.inl rfl) hon2
       case measure=>simp [sLen];omega
  · obtain rfl:j=0:=by omega
    go_wp2_with fail
    go_end0
    exact ⟨rfl,by simpa using HD.out,hon⟩
end
section
open Go.RowKit
theorem write_small (la pre seg post:List Nat) (gd o d cd n c:Nat) (A:Option Addr) (S:Value) (w:World) (hd:Own .u8 5 w gd (pre ++ (seg ++ post))) (ho:pre.length=o) (hs:seg.length=d)
 (ha:Rd .u64 w A n la) (La:Lim B64 la) (hd0:d≤17592186044415) (hcd:d≤cd) (hn:n≤16) :
 Calls Tryz.prog 104 #[.slice (some ⟨gd,o,none⟩) d cd,.slice A n c,S] w fun e w'=>e=.returned (.tuple #[])∧Own .u8 5 w' gd (pre ++ (decs (val B64 la) d ++ post))∧Only gd w w':=by
 have HD:=Lib.hid hd;have HO:=Lib.hid ho;have HS:=Lib.hid hs;have HD0:=Lib.hid hd0;have hlt:=hd.lt;clear hd ho hs hd0
 go_enter Tryz.func104,Tryz.ntmps104
 go_wp2_with (first
  | (go_at_call 131;refine (fresh_any la A n c w ha (by omega)).mono ?_;rintro e w1 ⟨rfl,hown1,hb1⟩)
  | (go_at_call 130;refine (writeLimbs_any la [] pre seg post gd w.heap.size o d cd n n _ w1 (Own.below HD.out hb1 hlt) HO.out HS.out (by simpa using hown1) ha.1 La rfl (by omega) HD0.out hcd (by omega) (Nat.le_refl _)).mono ?_;rintro e w2 ⟨rfl,h2,h3⟩))
 refine bodyPost_ret (results_none rfl _ _ _) rfl ?_
 refine ⟨rfl,h2,⟨h3.os.trans hb1.os,h3.tape.trans hb1.tape,h3.output.trans hb1.output,Nat.le_trans hb1.size h3.size,fun k hk hne=>?_⟩⟩
 rw [h3.block k (Nat.lt_of_lt_of_le hk hb1.size) (by rintro (h | h) <;> omega)]
 exact hb1.block k hk
theorem squares_small (n:Nat) (w:World) (hn:n≤16) :
 Calls Tryz.prog 105 #[.int .i64 (n:Int)] w fun e w'=>e=.returned (.slice none 0 0)∧w=w':=by
 go_enter Tryz.func105,Tryz.ntmps105
 go_wp2_with fail
 go_ret
 exact ⟨rfl,rfl⟩
def txt (V:Nat):List UInt8:=if V=0 then [48] else (limbs 10 V).reverse.map fun x=>UInt8.ofNat (48+x)
theorem decs_limbs (L V:Nat) (h:V < 10 ^ L):decs V L=List.replicate (L - (limbs 10 V).length) 48 ++ (limbs 10 V).reverse.map (48+·):=by
 induction L generalizing V with
 | zero => have : V = 0 := by simpa using h
           subst this;rw [limbs_zero];rfl
 | succ L ih =>
   by_cases h0:V=0
   · subst h0
     have:=ih 0 (Nat.pow_pos (by omega))
     rw [limbs_zero] at this ⊢
     rw [decs,show 0 / 10=0 from rfl,this]
     simp [List.replicate_succ']
   · rw [decs,ih (V / 10) (by rw [Nat.div_lt_iff_lt_mul (by omega)];rw [Nat.pow_succ] at h;exact h),limbs_pos (by omega) h0]
     simp
theorem two_ten:(2:Nat) ^ 100000≤10 ^ 30103:=by decide +kernel
theorem pow_bits {P Q b D:Nat} (h2:2 ^ P≤10 ^ Q) (hP:P ≠ 0) (h3:b*Q≤D*P):2 ^ b≤10 ^ D:=by
 have h4:(2 ^ b) ^ P≤(10 ^ D) ^ P:=by
  rw [← Nat.pow_mul,← Nat.pow_mul,Nat.mul_comm b,Nat.pow_mul]
  refine Nat.le_trans (Nat.pow_le_pow_left h2 b) ?_
  rw [← Nat.pow_mul]
  exact Nat.pow_le_pow_right (by omega) (by rw [Nat.mul_comm];exact h3)
 rcases Nat.lt_or_ge (10 ^ D) (2 ^ b) with h5 | h5
 · have:=Nat.pow_lt_pow_left h5 hP
   omega
 · exact h5
theorem ten_bits {V:Nat}:V < 10 ^ (bl V*30103 / 100000+1) :=
 Nat.lt_of_lt_of_le (lt_bl V) (pow_bits two_ten (by omega) (by omega))
theorem length_limbs10 {V:Nat}:(limbs 10 V).length≤bl V*30103 / 100000+1:=length_limbs_le (by omega) ten_bits
theorem run_string_of (L:List Nat) (g o n c:Nat) (w:World) (h:Own .u8 5 w g L) (hn:o+n=L.length) :
 (convert 147 9 (.slice (some ⟨g,o,none⟩) n c)).run Tryz.prog w=.ok (.string ⟨((L.drop o).map fun x=>UInt8.ofNat x).toArray⟩) w:=by
 rw [run_convert_bytes_string w 147 9 5 _ n c Tryz.underlying147 Tryz.underlying5 Tryz.underlying9]
 have hl:((L.drop o).map fun x:Nat=>Value.int .u8 (x:Int)).length=n:=by simp;omega
 have hc:=run_loadCells_list (P:=Tryz.prog) w ⟨g,o,none⟩ ((L.drop o).map fun x:Nat=>Value.int .u8 (x:Int)) (fun j v hv=>by
  rw [add_at,h.cell]
  rw [List.getElem?_map,List.getElem?_drop] at hv
  exact hv)
 rw [hl] at hc
 have e:((L.drop o).map fun x:Nat=>Value.int .u8 (x:Int))=((L.drop o).map fun x:Nat=>(x:Int)).map (Value.int .u8):=by rw [List.map_map];rfl
 rw [e] at hc
 rw [run_bytesToString w ⟨g,o,none⟩ n c _ hc]
 congr 2
 generalize L.drop o=M
 have key:∀ (M:List Nat) (s:ByteArray),(M.map fun x:Nat=>(x:Int)).foldl (fun r n=>r.push (UInt8.ofNat n.toNat)) s=⟨(s.data.toList ++ M.map fun x=>UInt8.ofNat x).toArray⟩:=by
  intro M
  induction M with
  | nil=>intro s;simp
  | cons x M ih =>
    intro s
    rw [List.map_cons,List.foldl_cons,ih]
    simp [ByteArray.push]
 rw [key]
 rfl
theorem info_u8:(Tryz.prog.info? 5).map (fun i=>(i.zero,i.size,i.bytes))=some (some (.int .u8 0),1,1):=by kernel_rfl
theorem wpList_make8 (w:World) {ops:Array Oper} {rest:List Oper} {o:Oper} {a:Act} {Q:Exit→Act→World→Prop}
 (hg:o.guard=none) (l c:Operand) (hop:o.op=Op.makeSlice 147 l c) (kl kc:IntKind) (L C:Int) (n:Nat) (hl:a.eval l=.int kl L) (hc:a.eval c=.int kc C)
 (hL:L=(n:Int)) (hC:C=(n:Int)) (hn:n≤35184372088832)
 (hK:∀ w',Own .u8 5 w' w.heap.size (List.replicate n 0)→Below w.heap.size w w'→wpList Tryz.prog ops Q rest (a.put o.dst (.slice (some ⟨w.heap.size,0,none⟩) n n)) w') :
 wpList Tryz.prog ops Q (o :: rest) a w:=by
 obtain ⟨i0,hi,hz0,hz1,hz2⟩:=info_parts info_u8
 refine wpList_make_full w hg l c 147 hop w.heap.size 5 i0 (.int .u8 0) 1 Tryz.underlying147 hi hz0 hz1 kl kc L C n hl hc hL hC (by rw [hz2];omega) (by unfold maxLen;omega) (Nat.le_refl _) ?_
 intro w' hown hgrow
 refine hK w' ?_ ((Below.refl _ _).grown hgrow (Nat.le_refl _) (by simp))
 have e:(madeCells (Value.int .u8 0).cells (n*1)).toList=nums .u8 (List.replicate n 0):=by
  rw [nums_zeros,Nat.mul_one]
  exact toList_madeCells_one _ _
 rw [e] at hown
 exact (Own.of_row hown).1
theorem txt_drop {V D:Nat} (hV:V ≠ 0) (hD:V < 10 ^ D):((decs V D).drop (D - (limbs 10 V).length)).map (fun x=>UInt8.ofNat x)=txt V:=by
 rw [decs_limbs D V hD,List.drop_left' (by simp),List.map_map,txt,if_neg hV]
 rfl
theorem decs_nought {V D j:Nat} (hD:V < 10 ^ D) (hj:j < D - (limbs 10 V).length):(decs V D)[j]?=some 48:=by
 rw [decs_limbs D V hD,List.getElem?_append_left (by simpa using hj),List.getElem?_replicate,if_pos hj]
theorem decs_top {V D:Nat} (hV:V ≠ 0) (hD:V < 10 ^ D):∃ x,(decs V D)[D - (limbs 10 V).length]?=some x∧x ≠ 48:=by
 have hne:limbs 10 V ≠ []:=fun e=>hV ((limbs_eq_nil (by omega)).1 e)
 have hl:=limbs_last (B:=10) (by omega) V
 rw [decs_limbs D V hD,List.getElem?_append_right (by simp),List.length_replicate,Nat.sub_self,← List.head?_eq_getElem?,List.head?_map,List.head?_reverse]
 cases h:(limbs 10 V).getLast? with
 | none=>exact absurd (List.getLast?_eq_none_iff.1 h) hne
 | some x =>
   refine ⟨48+x,rfl,?_⟩
   rw [h] at hl
   intro e
   have:x=0:=by omega
   subst this;exact hl rfl
end
section
open Go.RowKit
theorem lim1 {a:Nat} (h:a < B64):Lim B64 [a]:=Lim.cons h Lim.nil
end
end Go.Proofs.YtlpogecpdfdggaaGreat
