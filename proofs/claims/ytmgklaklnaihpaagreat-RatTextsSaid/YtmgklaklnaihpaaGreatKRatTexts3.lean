/- RatTexts: part 3. -/
import Derived.Deep.RegionWith
import Derived.Lib.Strings
import Derived.WalkLawsBesides
import Derived.Test.YtmgklaklnaihpaaGreatKRatTexts0
import Derived.Test.YtmgklaklnaihpaaGreatKRatTexts1
import Derived.Test.YtmgklaklnaihpaaGreatKRatTexts2
set_option linter.unusedVariables false
set_option maxRecDepth 100000
set_option maxHeartbeats 16000000
variable {w:Go.World}
namespace Go.Proofs.YtmgklaklnaihpaaGreat
section
open Go.RowKit
theorem ta_step {l P:List Nat} {k x v y cc:Nat} (hP:P.length=k) (hx:l[k]?=some x) (h:val B64 P+B64 ^ k*y=val B64 (l.take k)*v+cc) :
 val B64 (P ++ [maLo x v y])+B64 ^ (k+1)*maHi x v y=val B64 (l.take (k+1))*v+cc:=by
 have hp:=ma_parts x v y
 rw [val_snoc,val_take_succ hx,hP,Nat.pow_succ]
 generalize maLo x v y=lo at *
 generalize maHi x v y=hi at *
 grind
theorem timesAnd_any (l:List Nat) (A:Option Addr) (n c v cc B:Nat) (w:World) (h:Fr .u64 93 w B A n c l) (hL:Lim B64 l) (hv:v < B64) (hcc:cc < B64) (hB:B≤w.heap.size) (hn0:n≤17592186044415) (hnc:n≤c) (hc:c≤maxLen) :
 Calls Tryz.prog 114 #[.slice A n c,.int .u64 (v:Int),.int .u64 (cc:Int)] w fun e w' =>
  ∃ A' n' c' l',e=.returned (.slice A' n' c')∧Fr .u64 93 w' B A' n' c' l'∧n'≤c'∧c'≤maxLen∧Lim B64 l'∧val B64 l'=val B64 l*v+cc∧(n'=n ∨ n'=n+1∧B64 ^ n≤val B64 l')∧Below B w w':=by
 have hn:n≤2 ^ 45:=by omega
 have HN:=Lib.hid hn0;have HL:=Lib.hid h.1;clear hn0
 go_enter Tryz.func114,Tryz.ntmps114
 go_wp2_with fail
 go_loopw [2,10] (fun b i wr=>∃ (k:Nat) (P:List Nat) (y:Nat),k≤n∧i=.int .i64 k∧b=.int .u64 (y:Int)∧Fr .u64 93 wr B A n c (P ++ l.drop k)∧Below B w wr ∧
  Hid (P.length=k∧y < B64∧Lim B64 P∧val B64 P+B64 ^ k*y=val B64 (l.take k)*v+cc)) (fun _ i _=>n - (intOf i).toNat)
 case atStart=>exact ⟨0,[],cc,Nat.zero_le _,rfl,rfl,h,Below.refl _ _,rfl,hcc,Lim.nil,by simp⟩
 case round =>
  obtain ⟨k,P,y,hk,rfl,rfl,hfr,hbl,HV⟩:=hrel
  by_cases hlt:k < n
  · obtain ⟨g,R,hA,hg,hvw,hc1,hc2,hR⟩:=hfr.opened (by omega)
    subst hA
    obtain ⟨x,hx⟩:∃ x,l[k]?=some x:=⟨_,List.getElem?_eq_getElem (by have:=HL.out;omega)⟩
    have hkl:k < l.length:=by have:=HL.out;omega
    have hcz:wr.cell? ⟨g,k,none⟩=some (.int .u64 (x:Int)):=by
     refine hvw.cell ?_
     rw [List.getElem?_append_left (by rw [length_nums,List.length_append,List.length_drop];have:=HV.out.1;omega),nums_get,List.getElem?_append_right (by have:=HV.out.1;omega),List.getElem?_drop,HV.out.1]
     rw [show k+(k - k)=k by omega,hx];rfl
    have hfz:=hvw.frozen k
    have hst:=hvw.set_ k (.int .u64 (maLo x v y:Nat))
    have hnew:Hid (Vow 93 (wr.setCell ⟨g,k,none⟩ (.int .u64 (maLo x v y:Nat))) g (nums .u64 ((P ++ [maLo x v y]) ++ l.drop (k+1)) ++ R)):=by
     show Vow _ _ _ _
     refine cast (congrArg (Vow _ _ g) ?_) hst
     rw [List.set_append_left _ _ (by rw [length_nums,List.length_append,List.length_drop];have:=HV.out.1;omega),← nums_set,List.set_append_right _ _ (by have:=HV.out.1;omega),HV.out.1,Nat.sub_self,
      List.drop_eq_getElem_cons hkl,List.set_cons_zero,List.append_assoc]
     rfl
    have HX:=Lib.hid hx;have HR:=Lib.hid hR;have HF:=Lib.hid hfr.1;clear hst hx hR hfr hkl
    go_wp2_with (go_at_call 165;(with_reducible refine (mulAdd_any x v y (hL.get HX.out) hv HV.out.2.1 _).mono ?_);rintro e w' ⟨rfl,rfl⟩)
    go_roundw
    case rel =>
     obtain ⟨h1,h2,h3,h4⟩:=HV.out
     refine ⟨k+1,P ++ [maLo x v y],maHi x v y,by omega,by go_num,rfl,Fr.shut hnew.out hg ?_ HR.out hc2,hbl.setCell (p:=⟨g,k,none⟩) hg _,by simp;omega,maHi_lt (hL.get HX.out) hv h2,h3.append (Lim.cons (maLo_lt _ _ _) Lim.nil),ta_step h1 HX.out h4⟩
     have:=HL.out
     simp;omega
    case measure=>simp [intOf];omega
  · obtain rfl:k=n:=by omega
    obtain ⟨h1,h2,h3,h4⟩:=HV.out
    rw [List.take_of_length_le (by have:=HL.out;omega)] at h4
    rw [List.drop_of_length_le (by have:=HL.out;omega),List.append_nil] at hfr
    have H:=Lib.hid h4;have HP:=Lib.hid h1;clear h4 h1 HV
    by_cases hy:y=0
    · subst hy
      go_wp2_with fail
      go_ret
      exact ⟨_,_,_,P,rfl,hfr,hnc,hc,h3,by have:=H.out;omega,Or.inl rfl,hbl⟩
    · have hne:((y:Int) == 0)=false:=by simp;omega
      have hB':B≤wr.heap.size:=Nat.le_trans hB hbl.size
      have hfr2:Fr .u64 93 (wr.alloc (.cells #[.int .u64 (y:Int)] 93)) B A k c P:=hfr.below (B':=wr.heap.size) ((Below.refl _ _).alloc (Nat.le_refl _) _) (Nat.le_refl _)
      have hbl2:Below B w (wr.alloc (.cells #[.int .u64 (y:Int)] 93)):=hbl.alloc hB' _
      have hcell:(wr.alloc (.cells #[.int .u64 (y:Int)] 93)).cell? ⟨wr.heap.size,0,none⟩=some (.int .u64 (y:Int)):=by rw [World.cell?_alloc_new];rfl
      have HC:=Lib.hid hcell;clear hcell
      go_wp2_with (first
       | (at_builtin
          refine wpList_append1 .u64 22 93 8 (.int .u64 0) rfl Tryz.underlying22 info_u64 (by omega) _ rfl (.tmp 30) (.tmp 32) rfl B A k c P rfl hfr2 wr.heap.size 1 y rfl HC.out HN.out (Nat.le_trans hB hbl2.size) ?_
          intro A' c' w' hfr3 h5 h6 hb3 hgrow))
      go_ret
      have hv2:val B64 (P ++ [y])=val B64 l*v+cc:=by rw [val_snoc,HP.out];exact H.out
      refine ⟨_,_,_,P ++ [y],rfl,hfr3,h5,h6,h3.append (Lim.cons h2 Lim.nil),hv2,Or.inr ⟨rfl,?_⟩,hbl2.trans hb3⟩
      rw [val_snoc,HP.out]
      have:=Nat.mul_le_mul_left (B64 ^ k) (show 1≤y by omega)
      omega
end
section
open Go.RowKit
def tenTo (k:Nat):Nat:=10 ^ k
theorem tenTo_lt {k:Nat} (h:k≤19):tenTo k < B64:=Nat.lt_of_le_of_lt (Nat.pow_le_pow_right (by omega) h) (show 10 ^ 19 < B64 by decide)
theorem ten_le {k:Nat} (h:k≤19):10 ^ k≤10000000000000000000:=Nat.pow_le_pow_right (by omega) h
theorem powerOfTen_any (k:Nat) (w:World) (hk:k≤19) :
 Calls Tryz.prog 115 #[.int .i64 (k:Int)] w fun e w'=>e=.returned (.int .u64 (tenTo k:Nat))∧w'=w:=by
 go_enter Tryz.func115,Tryz.ntmps115
 go_wp2_with fail
 go_loop [3,5] (fun p i=>∃ j t:Nat,j≤k∧Hid (t=10 ^ j)∧i=.int .i64 j∧p=.int .u64 (t:Int)) (fun _ i=>k - (intOf i).toNat)
 case atStart=>exact ⟨0,1,Nat.zero_le _,rfl,rfl,rfl⟩
 case round =>
  obtain ⟨j,t,hj,HT,rfl,rfl⟩:=hrel
  by_cases hlt:j < k
  · go_wp2_with fail
    go_round
    case rel =>
     refine ⟨j+1,t*10,by omega,?_,by go_num,?_⟩
     · show _=_;rw [HT.out,Nat.pow_succ]
     · have h1:=ten_le (k:=j+1) (by omega)
       rw [Nat.pow_succ,← HT.out] at h1
       have h2:=wrap_nat (t*10)
       rw [Nat.mod_eq_of_lt (by rw [B64_eq];omega)] at h2
       rw [← h2]
       rfl
    case measure=>simp [intOf];omega
  · obtain rfl:j=k:=by omega
    go_wp2_with fail
    go_ret
    exact ⟨ret_int (by rw [HT.out];rfl),rfl⟩
def dec (l:List UInt8):Nat:=l.foldl (fun v c=>10*v+(c.toNat - 48)) 0
theorem dec_snoc (l:List UInt8) (c:UInt8):dec (l ++ [c])=10*dec l+(c.toNat - 48):=by unfold dec;rw [List.foldl_append];rfl
def Digit (c:UInt8):Prop:=48≤c.toNat∧c.toNat≤57
def Digits (l:List UInt8):Prop:=∀ c,c ∈ l→Digit c
theorem dec_lt {l:List UInt8} (h:Digits l):dec l < 10 ^ l.length:=by
 suffices ∀ (m:Nat) (l:List UInt8),l.length=m→Digits l→dec l < 10 ^ m from this _ l rfl h
 intro m
 induction m with
 | zero=>intro l hl _;obtain rfl:=List.eq_nil_of_length_eq_zero hl;decide
 | succ m ih =>
   intro l hl h
   have hne:l ≠ []:=by intro e;subst e;cases hl
   obtain ⟨a,c,rfl⟩:∃ a c,l=a ++ [c]:=⟨l.dropLast,l.getLast hne,(List.dropLast_concat_getLast hne).symm⟩
   have h1:=ih a (by simpa using hl) (fun x hx=>h x (by simp [hx]))
   have h2:=h c (by simp)
   rw [dec_snoc,Nat.pow_succ]
   unfold Digit at h2
   omega
theorem dec_append (a b:List UInt8):dec (a ++ b)=dec a*10 ^ b.length+dec b:=by
 suffices ∀ (m:Nat) (b:List UInt8),b.length=m→dec (a ++ b)=dec a*10 ^ m+dec b from this _ b rfl
 intro m
 induction m with
 | zero=>intro b hb;obtain rfl:=List.eq_nil_of_length_eq_zero hb;simp [dec]
 | succ m ih =>
   intro b hb
   have hne:b ≠ []:=by intro e;subst e;cases hb
   obtain ⟨d,c,rfl⟩:∃ a c,b=a ++ [c]:=⟨b.dropLast,b.getLast hne,(List.dropLast_concat_getLast hne).symm⟩
   rw [← List.append_assoc,dec_snoc,dec_snoc,ih d (by simpa using hb),Nat.pow_succ]
   grind
theorem take_snoc8 (s:ByteArray) (k:Nat) (h:k < s.size):s.data.toList.take (k+1)=s.data.toList.take k ++ [s[k]]:=by
 rw [List.take_succ_eq_append_getElem (by simpa using h)];rfl
theorem digit_step {t c:Nat} (h:10*t+(c - 48) < 10000000000000000000) (h1:48≤c) (h2:c≤57) :
 IntKind.u64.wrap (IntKind.u64.wrap (10*(t:Int))+((c:Int) - 48) % 256)=((10*t+(c - 48):Nat):Int):=by
 simp only [IntKind.wrap_u64]
 omega
theorem limbOf_any (s:ByteArray) (w:World) (hs:s.size≤19) (hd:Digits s.data.toList) :
 Calls Tryz.prog 116 #[.string s] w fun e w'=>e=.returned (.int .u64 (dec s.data.toList:Nat))∧w'=w:=by
 have HD:=Lib.hid hd;clear hd
 go_enter Tryz.func116,Tryz.ntmps116
 go_wp2_with fail
 go_loop [3,7] (fun p i=>∃ j t:Nat,j≤s.size∧Hid (t=dec (s.data.toList.take j))∧i=.int .i64 j∧p=.int .u64 (t:Int)) (fun _ i=>s.size - (intOf i).toNat)
 case atStart=>exact ⟨0,0,Nat.zero_le _,rfl,rfl,rfl⟩
 case round =>
  obtain ⟨j,t,hj,HT,rfl,rfl⟩:=hrel
  by_cases hlt:j < s.size
  · go_wp2_with fail
    go_round
    case rel =>
     have hts:=take_snoc8 s j hlt
     have hdg:Digits (s.data.toList.take (j+1)):=fun c hc=>HD.out c (List.mem_of_mem_take hc)
     have hc:Digit s[j]:=by rw [hts] at hdg;exact hdg _ (by simp)
     have hlen:(s.data.toList.take (j+1)).length=j+1:=by rw [List.length_take];simp;omega
     have hlt2:=dec_lt hdg;rw [hlen] at hlt2
     have h1:=ten_le (k:=j+1) (by omega)
     unfold Digit at hc
     rw [hts,dec_snoc,← HT.out] at hlt2
     refine ⟨j+1,10*t+(s[j].toNat - 48),by omega,?_,by go_num,?_⟩
     · show _=_;rw [hts,dec_snoc,HT.out]
     · exact congrArg _ (digit_step (by omega) hc.1 hc.2)
    case measure=>simp [intOf];omega
  · obtain rfl:j=s.size:=by omega
    go_wp2_with fail
    go_ret
    exact ⟨ret_int (by rw [HT.out,List.take_of_length_le (by simp)]),rfl⟩
def isTextB (l:List UInt8):Bool:=!(l.isEmpty) && !(l.head? == some 48 && l != [48]) && l.all fun c=>48≤c && c≤57
theorem isTextB_digits {l:List UInt8} (h:isTextB l=true):Digits l:=by
 unfold isTextB at h
 intro c hc
 simp only [Bool.and_eq_true,List.all_eq_true] at h
 have:=h.2 c hc
 simp only [decide_eq_true_eq,UInt8.le_iff_toNat_le] at this
 exact this
theorem isTextB_false {l:List UInt8} {c:UInt8} (h:c ∈ l) (hc:¬ Digit c):isTextB l=false:=by
 cases e:isTextB l with
 | false=>rfl
 | true=>exact absurd (isTextB_digits e c h) hc
theorem isTextB_true {l:List UInt8} (h0:l ≠ []) (h1:l.head? ≠ some 48 ∨ l=[48]) (h:Digits l):isTextB l=true:=by
 unfold isTextB
 simp only [Bool.and_eq_true,Bool.not_eq_true',List.all_eq_true,decide_eq_true_eq,UInt8.le_iff_toNat_le]
 refine ⟨⟨by simpa using h0,?_⟩,fun c hc=>h c hc⟩
 rcases h1 with h1 | h1
 · simp [h1]
 · subst h1;rfl
theorem isText_any (s:ByteArray) (w:World) (hs:s.size≤20000) :
 Calls Tryz.prog 113 #[.string s] w fun e w'=>e=.returned (.bool (isTextB s.data.toList))∧w'=w:=by
 have hd:=Lib.toList_data s;have hz:=Lib.size_eq s
 by_cases h0:s.size=0
 · have hl:s.data.toList=[]:=List.eq_nil_of_length_eq_zero (by omega)
   have e1:s.toList=[]:=by rw [hd,hl]
   have e2:s.toList.isEmpty=true:=by rw [e1];rfl
   rw [hl];clear hd hz hl
   go_enter Tryz.func113,Tryz.ntmps113
   go_wp2_with fail
   go_ret
   exact ⟨rfl,rfl⟩
 · have hp:0 < s.size:=by omega
   have hne:s.data.toList ≠ []:=by intro e;rw [e,List.length_nil] at hz;exact h0 hz
   have e1:s.toList.isEmpty=false:=by rw [hd];simpa using hne
   have e1':¬ s.toList=[]:=by rw [hd];exact hne
   have hhead:s.data.toList.head?=some s[0]:=by
    rw [List.head?_eq_getElem?,List.getElem?_eq_getElem (by rw [← hz];exact hp)];rfl
   by_cases hb:s[0].toNat=48∧s.data.toList ≠ [48]
   · have e2:(s[0].toNat:Int)=48:=by omega
     have e3:(s.toList == [48])=false:=by rw [hd];simpa using hb.2
     have e4:((s[0].toNat:Int) == 48)=true:=by simpa using e2
     have HF:Hid (isTextB s.data.toList=false):=by
      show _=_
      have h48:s[0]=48:=UInt8.toNat_inj.1 (by simpa using hb.1)
      unfold isTextB
      rw [hhead,h48]
      simp [hb.2]
     clear hd hz hb hhead hne
     go_enter Tryz.func113,Tryz.ntmps113
     go_wp2_with fail
     go_ret
     exact ⟨ret_bool (by rw [HF.out]),rfl⟩
   · have HH : Hid (s.data.toList ≠ [] ∧ (s.data.toList.head? ≠ some 48 ∨ s.data.toList = [48])) := by
       refine ⟨hne,?_⟩
       by_cases hc:s[0].toNat=48
       · right
         rcases Classical.em (s.data.toList=[48]) with h | h
         · exact h
         · exact absurd ⟨hc,h⟩ hb
       · left
         rw [hhead]
         intro e;injection e with e;rw [e] at hc;exact hc rfl
     have HZ:=Lib.hid hz
     by_cases hc:s[0].toNat=48
     all_goals
      have e3:((s[0].toNat:Int) == 48)=true∧(s.toList == [48])=true ∨ ((s[0].toNat:Int) == 48)=false:=by
       first
        | (right;simp;omega)
        | (left;refine ⟨by simp;omega,?_⟩
           rcases Classical.em (s.data.toList=[48]) with h | h
           · rw [hd,h];rfl
           · exact absurd ⟨hc,h⟩ hb)
      have e5:(s[0].toNat:Int)=48 ∨ ¬ (s[0].toNat:Int)=48:=Classical.em _
      clear hd hz hb hhead hne hc
      rcases e3 with ⟨e3,e4⟩ | e3
      all_goals
       go_enter Tryz.func113,Tryz.ntmps113
       go_wp2_with fail
     all_goals
      clear e1 e1' e5
      go_loop [3,17] (fun u i=>∃ j:Nat,j≤s.size∧i=.int .i64 j∧Hid (Digits (s.data.toList.take j))) (fun _ i=>s.size - (intOf i).toNat)
      case atStart=>exact ⟨0,Nat.zero_le _,rfl,fun c hc=>by simp at hc⟩
      case round =>
       obtain ⟨j,hj,rfl,HD⟩:=hrel
       by_cases hlt:j < s.size
       · have hmem : Hid (s[j] ∈ s.data.toList) := by
           show _ ∈ _
           exact List.mem_of_getElem? (i:=j) (by rw [List.getElem?_eq_getElem (by rw [← HZ.out];exact hlt)];rfl)
         by_cases h1:(s[j].toNat:Int) < 48
         · go_wp2_with fail
           go_ret
           exact ⟨ret_bool (isTextB_false hmem.out (by unfold Digit;omega)).symm,rfl⟩
         · by_cases h2:(57:Int) < (s[j].toNat:Int)
           · go_wp2_with fail
             go_ret
             exact ⟨ret_bool (isTextB_false hmem.out (by unfold Digit;omega)).symm,rfl⟩
           · go_wp2_with fail
             go_round
             case rel =>
              refine ⟨j+1,by omega,by go_num,?_⟩
              show Digits _
              rw [take_snoc8 s j hlt]
              intro c hc
              rcases List.mem_append.1 hc with hc | hc
              · exact HD.out c hc
              · rw [List.mem_singleton] at hc;subst hc;unfold Digit;omega
             case measure=>simp [intOf];omega
       · obtain rfl:j=s.size:=by omega
         go_wp2_with fail
         go_ret;have hD:=HD.out
         rw [List.take_of_length_le (by rw [← HZ.out];exact Nat.le_refl _)] at hD
         exact ⟨ret_bool (isTextB_true HH.out.1 HH.out.2 hD).symm,rfl⟩
end
section
open Go.RowKit
theorem limbs_of_full {l:List Nat} {n:Nat} (hL:Lim B64 l) (hl:l.length=n) (h:n=0 ∨ B64 ^ (n - 1)≤val B64 l):l=limbs B64 (val B64 l):=by
 obtain ⟨h1,h2⟩:=limbs_prefix B64_two hL
 have h3:n≤(limbs B64 (val B64 l)).length:=by
  rcases h with h | h
  · omega
  · rcases Nat.lt_or_ge (limbs B64 (val B64 l)).length n with h4 | h4
    · have:=lt_pow_limbs B64_two (val B64 l)
      have h5:=Nat.pow_le_pow_right (n:=B64) (by decide) (show (limbs B64 (val B64 l)).length≤n - 1 by omega)
      omega
    · exact h4
 have h4:l.length - (limbs B64 (val B64 l)).length=0:=by omega
 rw [h4,List.replicate_zero,List.append_nil] at h1
 exact h1
theorem parse_form (s:ByteArray) (w:World) (h:s.size≤20000) (ht:isTextB s.data.toList=false) :
 Calls Tryz.prog 53 #[.string s] w fun e w'=>e=.returned (.tuple #[.slice none 0 0,.int .i64 11])∧w=w':=by
 have H:=Lib.hid ht;clear ht
 go_enter Tryz.func53,Tryz.ntmps53
 go_wp2_with (go_at_call 113;refine (isText_any s w h).mono ?_;rintro e w' ⟨rfl,hw⟩;obtain rfl:=hw.symm;rw [H.out])
 go_ret2
 exact ⟨rfl,rfl⟩
def sSize:Value→Nat
 | .string s=>s.size
 | _=>0
theorem parse_ok (s:ByteArray) (w:World) (h:s.size≤20000) (ht:isTextB s.data.toList=true) :
 Calls Tryz.prog 53 #[.string s] w (GivesE .u64 93 w (limbs B64 (dec s.data.toList)) 0):=by
 have HD:=Lib.hid (isTextB_digits ht)
 have H:=Lib.hid ht
 have HS:=Lib.hid (Lib.size_eq s)
 clear ht
 obtain ⟨i0,hi,hz0,hz1,hz2⟩:=info_parts info_u64
 go_enter Tryz.func53,Tryz.ntmps53
 go_wp2_with (first
  | (go_at_call 113;refine (isText_any s w h).mono ?_;rintro e w' ⟨rfl,hw⟩;obtain rfl:=hw.symm;rw [H.out])
  | (at_make
     refine wpList_make_own _ rfl (.const (.int .i64 0)) (.tmp 15) 22 rfl w.heap.size 93 i0 (.int .u64 0) 1 Tryz.underlying22 hi hz0 hz1 .i64 .i64 _ (s.size / 19+1) rfl rfl (by omega) (by rw [hz2];omega) (by unfold maxLen;omega) (Nat.le_refl _) ?_
     intro w1 hown1 hgrow1))
 have hb1:Below w.heap.size w w1:=(Below.refl _ _).grown hgrow1 (Nat.le_refl _) (by simp)
 have hc1:s.size / 19+1≤20000:=by omega
 have hfr1:Fr .u64 93 w1 w.heap.size (some ⟨w.heap.size,0,none⟩) 0 (s.size / 19+1) []:=⟨rfl,hown1⟩
 go_loopw [0,4] (fun t v wr=>∃ (r:ByteArray) (A:Option Addr) (n c:Nat) (l:List Nat),t=.string r∧v=.slice A n c∧r.size≤s.size∧n+r.size≤20000∧n≤c∧Hid (c≤maxLen)∧Fr .u64 93 wr w.heap.size A n c l∧Below w.heap.size w wr ∧
  Hid (∃ p,s.data.toList=p ++ r.data.toList∧l=limbs B64 (dec p)∧n≤p.length)) (fun t _ _=>sSize t)
 case atStart=>exact ⟨s,_,0,_,[],rfl,rfl,Nat.le_refl _,by omega,Nat.zero_le _,by show _≤_;unfold maxLen;omega,hfr1,hb1,[],rfl,by rw [show dec []=0 from rfl,limbs_zero],Nat.le_refl _⟩
 case round =>
  obtain ⟨r,A,n,c,l,rfl,rfl,hr,hnr,hnc,HC,hfr,hbl,HV⟩:=hrel
  by_cases hr0:0 < r.size
  · obtain ⟨m,hm⟩:∃ m,m=(r.size - 1) % 19+1:=⟨_,rfl⟩
    have hm1:1≤m:=by omega
    have hm19:m≤19:=by omega
    have hmr:m≤r.size:=by omega
    have hme:((r.size:Int) - 1) % 19+1=(m:Int):=by omega
    clear hm
    have hdg:Hid (Digits r.data.toList):=by
     obtain ⟨p,hp,_⟩:=HV.out
     intro x hx
     exact HD.out x (by rw [hp];simp [hx])
    have hxs:(r.extract 0 m).size≤19:=by rw [ByteArray.size_extract];omega
    have hxd:Digits (r.extract 0 m).data.toList:=by
     rw [Lib.extract_data]
     intro x hx
     exact hdg.out x (List.mem_of_mem_drop (List.mem_of_mem_take hx))
    have hfd:Fr .u64 93 wr.drew w.heap.size A n c l:=⟨hfr.1,hfr.2⟩
    have HLL:Hid (Lim B64 l):=by
     obtain ⟨p,_,hl,_⟩:=HV.out
     show Lim B64 l
     rw [hl];exact lim_limbs B64_two _
    have HDB:Hid (dec (r.data.toList.take m) < B64):=by
     show _ < _
     have h1:=dec_lt (l:=r.data.toList.take m) (fun x hx=>hdg.out x (List.mem_of_mem_take hx))
     have h2:(r.data.toList.take m).length≤19:=by rw [List.length_take];omega
     exact Nat.lt_of_lt_of_le h1 (Nat.le_trans (Nat.pow_le_pow_right (by omega) h2) (show 10 ^ 19≤B64 by decide))
    have HNB:Hid (n≤17592186044415):=by show n≤_;omega
    have HXS:=Lib.hid hxs;have HXD:=Lib.hid hxd;clear hxs hxd
    go_wp2_with fail
    go_region_with (first
     | (go_at_call 115;refine (powerOfTen_any m _ hm19).mono ?_;rintro e w' ⟨rfl,rfl⟩)
     | (go_at_call 116;refine (limbOf_any (r.extract 0 m) _ HXS.out HXD.out).mono ?_;rintro e w' ⟨rfl,rfl⟩)
     | (go_at_call 114;refine (timesAnd_any l A n c (tenTo m) (dec (r.data.toList.take m)) w.heap.size wr.drew hfd HLL.out (tenTo_lt hm19) HDB.out hbl.size HNB.out hnc HC.out).mono ?_;rintro e w' ⟨A',n',c',l',rfl,hq1,hq2,hq3,hq4,hq5,hq6,hq7⟩))
    all_goals
     have HQ3:=Lib.hid hq3;have HQ4:=Lib.hid hq4;have HQ5:=Lib.hid hq5;have HQ6:=Lib.hid hq6;clear hq3 hq4 hq5 hq6
     go_wp2_with fail
     go_roundw
     case rel =>
      obtain ⟨p,hp1,hp2,hp3⟩:=HV.out
      have hsz:(r.extract m r.size).size=r.size - m:=by rw [ByteArray.size_extract];omega
      have hrl:r.data.toList.length=r.size:=(Lib.size_eq r).symm
      have hval:val B64 l'=dec (p ++ r.data.toList.take m):=by
       rw [dec_append,HQ5.out,hp2,val_limbs B64_two,List.length_take,hrl,Nat.min_eq_left hmr];rfl
      have hll:l'=limbs B64 (dec (p ++ r.data.toList.take m)):=by
       rw [← hval]
       refine limbs_of_full HQ4.out hq1.1 ?_
       have hlen:(limbs B64 (dec p)).length=n:=by rw [← hp2];exact hfr.1
       rcases HQ6.out with h5 | ⟨h5,h6⟩
       · rcases Nat.eq_zero_or_pos n with h7 | h7
         · left;omega
         · right
           rw [h5]
           have h8:=pow_le_of_length B64_two (n:=dec p) (k:=n - 1) (by omega)
           refine Nat.le_trans h8 ?_
           rw [hval,dec_append]
           have:=Nat.mul_le_mul_left (dec p) (show 1≤10 ^ (r.data.toList.take m).length from Nat.pow_pos (by omega))
           omega
       · right;rw [h5,Nat.add_sub_cancel];exact h6
      refine ⟨r.extract m r.size,A',n',c',l',rfl,rfl,?_,?_,hq2,HQ3.out,hq1,(show Below w.heap.size w wr.drew from hbl.drew).trans hq7,p ++ r.data.toList.take m,?_,hll,?_⟩
      · rw [hsz];omega
      · rw [hsz];rcases HQ6.out with h5 | ⟨h5,_⟩ <;> omega
      · rw [Lib.extract_data,List.append_assoc,List.take_of_length_le (l:=r.data.toList.drop m) (by rw [List.length_drop];omega),List.take_append_drop]
        exact hp1
      · rw [List.length_append,List.length_take];rcases HQ6.out with h5 | ⟨h5,_⟩ <;> omega
     case measure =>
      have hsz:(r.extract m r.size).size=r.size - m:=by rw [ByteArray.size_extract];omega
      show (r.extract m r.size).size < r.size
      omega
  · go_wp2_with fail
    go_ret2
    obtain ⟨p,hp1,hp2,hp3⟩:=HV.out
    have hrl:r.data.toList=[]:=List.eq_nil_of_length_eq_zero (by rw [← Lib.size_eq];omega)
    rw [hrl,List.append_nil] at hp1
    rw [hp1,← hp2]
    exact ⟨_,_,_,rfl,hnc,HC.out,hfr,hbl⟩
end
section
open Go.RowKit
def decs (V:Nat):Nat→List Nat
 | 0=>[]
 | L+1=>decs (V / 10) L ++ [48+V % 10]
theorem length_decs (V L:Nat):(decs V L).length=L:=by
 induction L generalizing V with
 | zero=>rfl
 | succ L ih=>rw [decs,List.length_append,ih];rfl
theorem decs_add (V i j:Nat):decs V (i+j)=decs (V / 10 ^ j) i ++ decs V j:=by
 induction j generalizing V with
 | zero=>simp [decs]
 | succ j ih =>
   rw [← Nat.add_assoc,decs,ih,decs,← List.append_assoc,Nat.pow_succ,Nat.mul_comm,← Nat.div_div_eq_div_mul]
theorem decs_mod (V:Nat) {L k:Nat} (h:L≤k):decs (V % 10 ^ k) L=decs V L:=by
 induction L generalizing V k with
 | zero=>rfl
 | succ L ih =>
   obtain ⟨m,rfl⟩:∃ m,k=m+1:=⟨k - 1,by omega⟩
   rw [decs,decs]
   have h1:V % 10 ^ (m+1) / 10=V / 10 % 10 ^ m:=by
    rw [Nat.pow_succ,Nat.mul_comm,Nat.mod_mul_right_div_self]
   have h2:V % 10 ^ (m+1) % 10=V % 10:=by
    rw [Nat.pow_succ,Nat.mod_mul_left_mod]
   rw [h1,h2,ih _ (by omega)]
theorem decs_one (V L:Nat):decs V (L+1)=(48+V / 10 ^ L % 10) :: decs V L:=by
 rw [Nat.add_comm,decs_add];rfl
theorem decs_range (V L:Nat):∀ x,x ∈ decs V L→48≤x∧x≤57:=by
 induction L generalizing V with
 | zero=>intro x hx;cases hx
 | succ L ih =>
   intro x hx
   rw [decs] at hx
   rcases List.mem_append.1 hx with hx | hx
   · exact ih _ x hx
   · rw [List.mem_singleton] at hx;omega
structure OnlyS (S:Nat→Prop) (w w':World):Prop where
 os:w'.os=w.os
 tape:w'.tape=w.tape
 output:w'.output=w.output
 size:w.heap.size≤w'.heap.size
 block:∀ k,k < w.heap.size→¬ S k→w'.heap[k]?=w.heap[k]?
section
variable {S:Nat→Prop} {w w1 w':World}
theorem OnlyS.refl (S:Nat→Prop) (w:World):OnlyS S w w:=⟨rfl,rfl,rfl,Nat.le_refl _,fun _ _ _=>rfl⟩
theorem OnlyS.trans (h:OnlyS S w w1) (k:OnlyS S w1 w'):OnlyS S w w' :=
 ⟨k.os.trans h.os,k.tape.trans h.tape,k.output.trans h.output,Nat.le_trans h.size k.size,fun i hi hg=>(k.block i (Nat.lt_of_lt_of_le hi h.size) hg).trans (h.block i hi hg)⟩
theorem OnlyS.only {g:Nat} (h:OnlyS S w w1) (hg:S g) (k:Only g w1 w'):OnlyS S w w' :=
 h.trans ⟨k.os,k.tape,k.output,k.size,fun i hi hs=>k.block i hi (fun e=>hs (by rw [e];exact hg))⟩
theorem OnlyS.setCell {g:Nat} (h:OnlyS S w w1) (hg:S g) (i:Nat) (u:Value):OnlyS S w (w1.setCell ⟨g,i,none⟩ u):=h.only hg ((Only.refl _ _).setCell i u)
end
end
section
open Go.RowKit
theorem e_ten {t:Nat} (h:t < B64):Value.int .u64 (IntKind.u64.wrap ((t:Int) / 10))=.int .u64 ((t / 10:Nat):Int):=by
 have:=e_quo (U:=t) (Y1:=10) h
 exact congrArg _ this
theorem writeLimbs_any (la rest pre seg post:List Nat) (gd ga o d cd n c V:Nat) (w:World) (hd:Own .u8 5 w gd (pre ++ (seg ++ post))) (ho:pre.length=o) (hs:seg.length=d)
 (ha:Own .u64 93 w ga (la ++ rest)) (hl:la.length=n) (La:Lim B64 la) (hV:val B64 la=V) (hne:gd ≠ ga) (hd0:d≤17592186044415) (hcd:d≤cd) (hn:n≤17592186044415) (hnc:n≤c) :
 Calls Tryz.prog 174 #[.slice (some ⟨gd,o,none⟩) d cd,.slice (some ⟨ga,0,none⟩) n c] w fun e w'=>e=.returned (.tuple #[]) ∧
  Own .u8 5 w' gd (pre ++ (decs V d ++ post))∧OnlyS (fun k=>k=gd ∨ k=ga) w w':=by
 have HO:=Lib.hid ho;have HS:=Lib.hid hs;have HN:=Lib.hid hn;have HV:=Lib.hid hV;have HL:=Lib.hid hl
 have hd45:d≤2 ^ 45:=by omega
 have h19:(0:Nat) < tenTo 19:=by decide
 have H19:=Lib.hid h19;clear ho hs hn hV hl hd0 h19
 go_enter Tryz.func174,Tryz.ntmps174
 go_wp2_with (go_at_call 115;refine (powerOfTen_any 19 w (by omega)).mono ?_;rintro e w' ⟨rfl,hw⟩;obtain rfl:=hw.symm)
 go_loopw [0,1] (fun t a wr=>∃ (j n':Nat) (l r:List Nat),t=.slice (some ⟨gd,o,none⟩) j cd∧a=.slice (some ⟨ga,0,none⟩) n' c∧j≤d∧n'≤n∧Hid (Own .u8 5 wr gd (pre ++ (seg.take j ++ (decs V (d - j) ++ post)))) ∧
  Hid (Own .u64 93 wr ga (l ++ r)∧l.length=n'∧Lim B64 l∧(j=0 ∨ val B64 l=V / 10 ^ (d - j)))∧OnlyS (fun k=>k=gd ∨ k=ga) w wr) (fun t _ _=>sLen t)
 case atStart=>exact ⟨d,n,la,rest,rfl,rfl,Nat.le_refl _,Nat.le_refl _,by show Own _ _ _ _ _;rw [List.take_of_length_le (by have:=HS.out;omega),Nat.sub_self];exact hd,⟨ha,HL.out,La,Or.inr (by rw [Nat.sub_self,HV.out];simp)⟩,OnlyS.refl _ _⟩
 case round =>
  obtain ⟨j,n',l,r,rfl,rfl,hj,hn',HD,HA,hon⟩:=hrel
  by_cases hj0:0 < j
  · obtain ⟨E,hE⟩:∃ E,E=j - 19:=⟨_,rfl⟩
    have hEj:E < j:=by omega
    have hE19:j - E≤19:=by omega
    have hEc:E=0 ∨ j - E=19:=by omega
    have hmax:max (0:Int) ((j:Int) - 19)=(E:Int):=by omega
    have hEd:(E:Int)≤(cd:Int):=by omega
    have HEC:=Lib.hid hEc
    obtain ⟨T,hT⟩:∃ T,T=val B64 l % tenTo 19:=⟨_,rfl⟩
    have hTe:(val B64 l:Int) % (tenTo 19:Int)=(T:Int):=by rw [hT,Int.natCast_emod]
    have hTB:Hid (T < B64):=by (show T < B64;rw [hT];exact Nat.lt_trans (Nat.mod_lt _ H19.out) (tenTo_lt (by omega)))
    have HT:=Lib.hid hT;clear hE hEc hT
    go_wp2_with (first
     | (go_at_call 170;refine (byLimb_any l r (tenTo 19) ga n' c wr HA.out.1 HA.out.2.1 HA.out.2.2.1 H19.out (tenTo_lt (by omega)) (by have:=HN.out;unfold maxLen;omega)).mono ?_;rintro e w1 ⟨rfl,⟨Q,hQ1,hQ2,hQ3,hQ4⟩,ho1⟩
        have HQ1:=Lib.hid hQ1;have HQ3:=Lib.hid hQ3;clear hQ1 hQ3)
     | (go_at_call 117;refine (trim_any Q (some ⟨ga,0,none⟩) n' c w1 (hQ4.rd HQ1.out (fun i x hx=>by rw [Nat.zero_add,List.getElem?_append_left (List.getElem?_eq_some_iff.1 hx).1];exact hx)) hQ2 (by have:=HN.out;unfold maxLen;omega) (by omega)).mono ?_;rintro e w' ⟨⟨k,hk,rfl,hrk⟩,rfl⟩))
    have hD1:Own .u8 5 w1 gd (pre ++ (seg.take j ++ (decs V (d - j) ++ post))):=HD.out.only ho1 hne
    go_loopw [5,7] (fun v i w2=>∃ i0 t:Nat,i0≤j∧E≤i0∧i=.int .i64 ((i0:Int) - 1)∧v=.int .u64 (t:Int)∧Own .u8 5 w2 gd (pre ++ (seg.take i0 ++ (decs T (j - i0) ++ (decs V (d - j) ++ post))))∧Hid (t < B64∧t=T / 10 ^ (j - i0))∧Only gd w1 w2) (fun _ i _=>(intOf i+1).toNat)
    case atStart=>exact ⟨j,T,Nat.le_refl _,by omega,rfl,rfl,by rw [Nat.sub_self];exact hD1,⟨hTB.out,by rw [Nat.sub_self];simp⟩,Only.refl _ _⟩
    case round =>
     obtain ⟨i0,t,hi0,hEi,rfl,rfl,hown,HTT,hon2⟩:=hrel
     by_cases hlt:E < i0
     · have hks:i0 - 1 < seg.length:=by have:=HS.out;omega
       obtain ⟨x,hx⟩:∃ x,seg[i0 - 1]?=some x:=⟨_,List.getElem?_eq_getElem hks⟩
       have ht:seg.take i0=seg.take (i0 - 1) ++ [x]:=by
        have:=List.take_succ_eq_append_getElem hks
        rw [show i0 - 1+1=i0 by omega] at this
        rw [this,(List.getElem?_eq_some_iff.1 hx).2]
       have hlen:(pre ++ seg.take (i0 - 1)).length=o+(i0 - 1):=by rw [List.length_append,List.length_take,HO.out];omega
       rw [ht,List.append_assoc,← List.append_assoc pre] at hown
       have hcz:=hown.cell_len hlen
       have hfz:=Own.frozen hown (o+(i0 - 1))
       have HLN:=Lib.hid hlen;clear hks hx ht hlen
       go_wp2_with fail
       go_roundw
       case rel =>
        refine ⟨i0 - 1,t / 10,by omega,by omega,by go_num,?_,?_,?_,hon2.setCell _ _⟩
        · exact e_ten HTT.out.1
        · have hst:=hown.store_len HLN.out (48+t % 10)
          rw [show ((48+t % 10:Nat):Int)=48+(t:Int) % 10 by omega] at hst
          have hj1:j - (i0 - 1)=(j - i0)+1:=by omega
          rw [hj1,decs_one,← HTT.out.2]
          rw [List.append_assoc,List.append_assoc] at hst
          exact hst
        · refine ⟨Nat.lt_of_le_of_lt (Nat.div_le_self _ _) HTT.out.1,?_⟩
          rw [show j - (i0 - 1)=(j - i0)+1 by omega,Nat.pow_succ,← Nat.div_div_eq_div_mul,← HTT.out.2]
       case measure=>simp [intOf];omega
     · obtain rfl:i0=E:=by omega
       go_wp2_with fail
       go_roundw
       case rel =>
        obtain ⟨hA1,hA2,hA3,hA4⟩:=HA.out
        have hkl:(limbs B64 (val B64 Q)).length=k:=hrk.1
        have htk:Q.take k=limbs B64 (val B64 Q):=by rw [← hkl];exact limbs_take B64_two hQ2
        have hvl:val B64 l=V / 10 ^ (d - j):=by rcases hA4 with h | h <;> first | omega | exact h
        refine ⟨i0,k,Q.take k,Q.drop k ++ r,rfl,rfl,by omega,by omega,?_,⟨?_,?_,hQ2.take _,?_⟩,?_⟩
        · show Own _ _ _ _ _
          have e1:decs V (d - i0)=decs T (j - i0) ++ decs V (d - j):=by
           rw [show d - i0=(j - i0)+(d - j) by omega,decs_add,← hvl,HT.out]
           unfold tenTo
           rw [decs_mod _ hE19]
          rw [e1,List.append_assoc]
          exact hown
        · rw [← List.append_assoc,List.take_append_drop]
          exact hQ4.only hon2 (Ne.symm hne)
        · rw [htk,hkl]
        · rcases HEC.out with h | h
          · left;exact h
          · right
            rw [htk,val_limbs B64_two,HQ3.out,hvl,Nat.div_div_eq_div_mul]
            unfold tenTo
            rw [← Nat.pow_add]
            congr 2;omega
        · exact (hon.only (Or.inr rfl) ho1).only (Or.inl rfl) hon2
       case measure=>simp [sLen];omega
  · obtain rfl:j=0:=by omega
    go_wp2_with fail
    go_end0
    exact ⟨rfl,by simpa using HD.out,hon⟩
end
section
open Go.RowKit
theorem write_small (la pre seg post:List Nat) (gd o d cd n c:Nat) (A:Option Addr) (S:Value) (w:World) (hd:Own .u8 5 w gd (pre ++ (seg ++ post))) (ho:pre.length=o) (hs:seg.length=d)
 (ha:Rd .u64 w A n la) (La:Lim B64 la) (hd0:d≤17592186044415) (hcd:d≤cd) (hn:n≤16) :
 Calls Tryz.prog 127 #[.slice (some ⟨gd,o,none⟩) d cd,.slice A n c,S] w fun e w'=>e=.returned (.tuple #[])∧Own .u8 5 w' gd (pre ++ (decs (val B64 la) d ++ post))∧Only gd w w':=by
 have HD:=Lib.hid hd;have HO:=Lib.hid ho;have HS:=Lib.hid hs;have HD0:=Lib.hid hd0;have hlt:=hd.lt;clear hd ho hs hd0
 go_enter Tryz.func127,Tryz.ntmps127
 go_wp2_with (first
  | (go_at_call 166;refine (fresh_any la A n c w ha (by omega)).mono ?_;rintro e w1 ⟨rfl,hown1,hb1⟩)
  | (go_at_call 174;refine (writeLimbs_any la [] pre seg post gd w.heap.size o d cd n n _ w1 (Own.below HD.out hb1 hlt) HO.out HS.out (by simpa using hown1) ha.1 La rfl (by omega) HD0.out hcd (by omega) (Nat.le_refl _)).mono ?_;rintro e w2 ⟨rfl,h2,h3⟩))
 refine bodyPost_ret (results_none rfl _ _ _) rfl ?_
 refine ⟨rfl,h2,⟨h3.os.trans hb1.os,h3.tape.trans hb1.tape,h3.output.trans hb1.output,Nat.le_trans hb1.size h3.size,fun k hk hne=>?_⟩⟩
 rw [h3.block k (Nat.lt_of_lt_of_le hk hb1.size) (by rintro (h | h) <;> omega)]
 exact hb1.block k hk
theorem squares_small (n:Nat) (w:World) (hn:n≤16) :
 Calls Tryz.prog 128 #[.int .i64 (n:Int)] w fun e w'=>e=.returned (.slice none 0 0)∧w=w':=by
 go_enter Tryz.func128,Tryz.ntmps128
 go_wp2_with fail
 go_ret
 exact ⟨rfl,rfl⟩
def txt (V:Nat):List UInt8:=if V=0 then [48] else (limbs 10 V).reverse.map fun x=>UInt8.ofNat (48+x)
theorem decs_limbs (L V:Nat) (h:V < 10 ^ L):decs V L=List.replicate (L - (limbs 10 V).length) 48 ++ (limbs 10 V).reverse.map (48+·):=by
 induction L generalizing V with
 | zero => have : V = 0 := by simpa using h
           subst this;rw [limbs_zero];rfl
 | succ L ih =>
   by_cases h0:V=0
   · subst h0
     have:=ih 0 (Nat.pow_pos (by omega))
     rw [limbs_zero] at this ⊢
     rw [decs,show 0 / 10=0 from rfl,this]
     simp [List.replicate_succ']
   · rw [decs,ih (V / 10) (by rw [Nat.div_lt_iff_lt_mul (by omega)];rw [Nat.pow_succ] at h;exact h),limbs_pos (by omega) h0]
     simp
theorem two_ten:(2:Nat) ^ 100000≤10 ^ 30103:=by decide +kernel
theorem pow_bits {P Q b D:Nat} (h2:2 ^ P≤10 ^ Q) (hP:P ≠ 0) (h3:b*Q≤D*P):2 ^ b≤10 ^ D:=by
 have h4:(2 ^ b) ^ P≤(10 ^ D) ^ P:=by
  rw [← Nat.pow_mul,← Nat.pow_mul,Nat.mul_comm b,Nat.pow_mul]
  refine Nat.le_trans (Nat.pow_le_pow_left h2 b) ?_
  rw [← Nat.pow_mul]
  exact Nat.pow_le_pow_right (by omega) (by rw [Nat.mul_comm];exact h3)
 rcases Nat.lt_or_ge (10 ^ D) (2 ^ b) with h5 | h5
 · have:=Nat.pow_lt_pow_left h5 hP
   omega
 · exact h5
theorem ten_bits {V:Nat}:V < 10 ^ (bl V*30103 / 100000+1) :=
 Nat.lt_of_lt_of_le (lt_bl V) (pow_bits two_ten (by omega) (by omega))
theorem length_limbs10 {V:Nat}:(limbs 10 V).length≤bl V*30103 / 100000+1:=length_limbs_le (by omega) ten_bits
theorem run_string_of (L:List Nat) (g o n c:Nat) (w:World) (h:Own .u8 5 w g L) (hn:o+n=L.length) :
 (convert 166 9 (.slice (some ⟨g,o,none⟩) n c)).run Tryz.prog w=.ok (.string ⟨((L.drop o).map fun x=>UInt8.ofNat x).toArray⟩) w:=by
 rw [run_convert_bytes_string w 166 9 5 _ n c Tryz.underlying166 Tryz.underlying5 Tryz.underlying9]
 have hl:((L.drop o).map fun x:Nat=>Value.int .u8 (x:Int)).length=n:=by simp;omega
 have hc:=run_loadCells_list (P:=Tryz.prog) w ⟨g,o,none⟩ ((L.drop o).map fun x:Nat=>Value.int .u8 (x:Int)) (fun j v hv=>by
  rw [add_at,h.cell]
  rw [List.getElem?_map,List.getElem?_drop] at hv
  exact hv)
 rw [hl] at hc
 have e:((L.drop o).map fun x:Nat=>Value.int .u8 (x:Int))=((L.drop o).map fun x:Nat=>(x:Int)).map (Value.int .u8):=by rw [List.map_map];rfl
 rw [e] at hc
 rw [run_bytesToString w ⟨g,o,none⟩ n c _ hc]
 congr 2
 generalize L.drop o=M
 have key:∀ (M:List Nat) (s:ByteArray),(M.map fun x:Nat=>(x:Int)).foldl (fun r n=>r.push (UInt8.ofNat n.toNat)) s=⟨(s.data.toList ++ M.map fun x=>UInt8.ofNat x).toArray⟩:=by
  intro M
  induction M with
  | nil=>intro s;simp
  | cons x M ih =>
    intro s
    rw [List.map_cons,List.foldl_cons,ih]
    simp [ByteArray.push]
 rw [key]
 rfl
theorem info_u8:(Tryz.prog.info? 5).map (fun i=>(i.zero,i.size,i.bytes))=some (some (.int .u8 0),1,1):=by kernel_rfl
theorem wpList_make8 (w:World) {ops:Array Oper} {rest:List Oper} {o:Oper} {a:Act} {Q:Exit→Act→World→Prop}
 (hg:o.guard=none) (l c:Operand) (hop:o.op=Op.makeSlice 166 l c) (kl kc:IntKind) (L C:Int) (n:Nat) (hl:a.eval l=.int kl L) (hc:a.eval c=.int kc C)
 (hL:L=(n:Int)) (hC:C=(n:Int)) (hn:n≤35184372088832)
 (hK:∀ w',Own .u8 5 w' w.heap.size (List.replicate n 0)→Below w.heap.size w w'→wpList Tryz.prog ops Q rest (a.put o.dst (.slice (some ⟨w.heap.size,0,none⟩) n n)) w') :
 wpList Tryz.prog ops Q (o :: rest) a w:=by
 obtain ⟨i0,hi,hz0,hz1,hz2⟩:=info_parts info_u8
 refine wpList_make_full w hg l c 166 hop w.heap.size 5 i0 (.int .u8 0) 1 Tryz.underlying166 hi hz0 hz1 kl kc L C n hl hc hL hC (by rw [hz2];omega) (by unfold maxLen;omega) (Nat.le_refl _) ?_
 intro w' hown hgrow
 refine hK w' ?_ ((Below.refl _ _).grown hgrow (Nat.le_refl _) (by simp))
 have e:(madeCells (Value.int .u8 0).cells (n*1)).toList=nums .u8 (List.replicate n 0):=by
  rw [nums_zeros,Nat.mul_one]
  exact toList_madeCells_one _ _
 rw [e] at hown
 exact (Own.of_row hown).1
theorem txt_drop {V D:Nat} (hV:V ≠ 0) (hD:V < 10 ^ D):((decs V D).drop (D - (limbs 10 V).length)).map (fun x=>UInt8.ofNat x)=txt V:=by
 rw [decs_limbs D V hD,List.drop_left' (by simp),List.map_map,txt,if_neg hV]
 rfl
theorem decs_nought {V D j:Nat} (hD:V < 10 ^ D) (hj:j < D - (limbs 10 V).length):(decs V D)[j]?=some 48:=by
 rw [decs_limbs D V hD,List.getElem?_append_left (by simpa using hj),List.getElem?_replicate,if_pos hj]
theorem decs_top {V D:Nat} (hV:V ≠ 0) (hD:V < 10 ^ D):∃ x,(decs V D)[D - (limbs 10 V).length]?=some x∧x ≠ 48:=by
 have hne:limbs 10 V ≠ []:=fun e=>hV ((limbs_eq_nil (by omega)).1 e)
 have hl:=limbs_last (B:=10) (by omega) V
 rw [decs_limbs D V hD,List.getElem?_append_right (by simp),List.length_replicate,Nat.sub_self,← List.head?_eq_getElem?,List.head?_map,List.head?_reverse]
 cases h:(limbs 10 V).getLast? with
 | none=>exact absurd (List.getLast?_eq_none_iff.1 h) hne
 | some x =>
   refine ⟨48+x,rfl,?_⟩
   rw [h] at hl
   intro e
   have:x=0:=by omega
   subst this;exact hl rfl
end
section
open Go.RowKit
theorem lim1 {a:Nat} (h:a < B64):Lim B64 [a]:=Lim.cons h Lim.nil
end
end Go.Proofs.YtmgklaklnaihpaaGreat
