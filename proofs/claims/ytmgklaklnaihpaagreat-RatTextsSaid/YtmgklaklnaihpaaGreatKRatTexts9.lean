/- RatTexts: part 9. -/
import Derived.BigRegion
import Derived.Deep.Cut
import Derived.Deep.CutRange
import Derived.Deep.RegionHeld3
import Derived.Test.YtmgklaklnaihpaaGreatKRatTexts0
import Derived.Test.YtmgklaklnaihpaaGreatKRatTexts6
import Derived.Test.YtmgklaklnaihpaaGreatKRatTexts8
set_option linter.unusedVariables false
set_option maxRecDepth 100000
set_option maxHeartbeats 16000000
variable {w:Go.World}
namespace Go.Proofs.YtmgklaklnaihpaaGreat
section
open Go.RowKit
theorem rof32_rn (v:Nat) (hv:v < B32) (w:World):Calls Tryz.prog 57 #[.int .u64 (v:Int)] w (GivesR w v 1) :=
 (rof_any v (Nat.lt_trans hv (by decide)) w).mono fun _ _ g=>g.r (by rw [Nat.pow_one];exact hv)
theorem b32_pos (k:Nat):0 < B32 ^ k:=Nat.pow_pos (by decide)
theorem lt_mul32 {x:Nat} (h:0 < x):x < x*B32:=by
 have:=Nat.mul_le_mul_left x (show 2≤B32 by decide)
 omega
theorem RN.zero (w:World) (k:Nat):RN w none 0 0 0 k:=RN.of (by rw [limbs_zero];exact Rd.nil) (Nat.le_refl _) (b32_pos _)
theorem lt_succ32 {x j k:Nat} (h:x < B32 ^ k) (hj:j=k+1):x < B32 ^ j:=by
 rw [hj,Nat.pow_succ]
 exact Nat.lt_trans h (lt_mul32 (b32_pos k))
theorem prod_fit32 {a p v j k:Nat} (h:a*p+v < B32 ^ k) (hj:j=k+1):a*p < B32 ^ j:=Nat.lt_of_le_of_lt (Nat.le_add_right _ _) (lt_succ32 h hj)
theorem lt_64of32 {x j k:Nat} (h:x < B32 ^ j) (hj:j=2*k):x < B64 ^ k:=by rw [hj,b32_pow] at h;exact h
theorem dec_fit {l:List UInt8} (h:Digits l) (hl:l.length≤20000):dec l < B32 ^ 2500:=by
 refine Nat.lt_of_lt_of_le (dec_lt h) ?_
 have h0:∀ q,l.length≤8*q→10 ^ l.length≤B32 ^ q:=fun q hq=>by
  rw [b32_two]
  refine Nat.le_trans (Nat.pow_le_pow_left (show 10≤2 ^ 4 by decide) _) ?_
  rw [← Nat.pow_mul]
  exact Nat.pow_le_pow_right (by decide) (by omega)
 exact h0 2500 (by omega)
def RParsed (s:ByteArray) (w:World) (e:Ending) (w':World):Prop :=
 (isTextB s.data.toList=false∧e=.returned (.tuple #[.slice none 0 0,.int .i64 11])∧w=w') ∨
 (isTextB s.data.toList=true∧∃ A n c,e=.returned (.tuple #[.slice A n c,.int .i64 0])∧RN w' A n c (dec s.data.toList) 2500∧Below w.heap.size w w')
theorem rparse_any (s:ByteArray) (w:World) (hs:s.size≤20000):Calls Tryz.prog 58 #[.string s] w (RParsed s w):=by
 have hd:=Lib.toList_data s;have hz:=Lib.size_eq s
 by_cases h0:s.size=0
 · have hl:s.data.toList=[]:=List.eq_nil_of_length_eq_zero (by omega)
   have e1:s.toList=[]:=by rw [hd,hl]
   have e2:s.toList.isEmpty=true:=by rw [e1];rfl
   have HF:Hid (isTextB s.data.toList=false):=by show _=_;rw [hl];rfl
   clear hd hz hl
   go_enter Tryz.func58,Tryz.ntmps58
   go_wp2_with fail
   go_ret2
   exact .inl ⟨HF.out,rfl,rfl⟩
 · have hp:0 < s.size:=by omega
   have hne:s.data.toList ≠ []:=by intro e;rw [e,List.length_nil] at hz;exact h0 hz
   have e1:s.toList.isEmpty=false:=by rw [hd];simpa using hne
   have e1':¬ s.toList=[]:=by rw [hd];exact hne
   have hhead:s.data.toList.head?=some s[0]:=by
    rw [List.head?_eq_getElem?,List.getElem?_eq_getElem (by rw [← hz];exact hp)];rfl
   by_cases hb:s[0].toNat=48∧1 < s.size
   · have e2:(s[0].toNat:Int)=48:=by omega
     have e4:((s[0].toNat:Int) == 48)=true:=by simpa using e2
     have e5:(1:Int) < (s.size:Int):=by omega
     have HF:Hid (isTextB s.data.toList=false):=by
      show _=_
      have h48:s[0]=48:=UInt8.toNat_inj.1 (by simpa using hb.1)
      have hn48:s.data.toList ≠ [48]:=fun e=>by rw [e] at hz;simp at hz;omega
      unfold isTextB
      rw [hhead,h48]
      simp [hn48]
     clear hd hz hb hhead hne
     go_enter Tryz.func58,Tryz.ntmps58
     go_wp2_with fail
     go_ret2
     exact .inl ⟨HF.out,rfl,rfl⟩
   · have HH : Hid (s.data.toList ≠ [] ∧ (s.data.toList.head? ≠ some 48 ∨ s.data.toList = [48])) := by
       refine ⟨hne,?_⟩
       by_cases hc:s[0].toNat=48
       · right
         have h1:s.data.toList.length=1:=by omega
         obtain ⟨x,hx⟩:=List.length_eq_one_iff.1 h1
         rw [hx] at hhead ⊢
         have:x=s[0]:=by simpa using hhead
         rw [this,UInt8.toNat_inj.1 (show s[0].toNat=(48:UInt8).toNat from hc)]
       · left
         rw [hhead]
         intro e;injection e with e;rw [e] at hc;exact hc rfl
     have HZ:=Lib.hid hz
     have e3:((s[0].toNat:Int) == 48)=false ∨ ((s[0].toNat:Int) == 48)=true∧¬ (1:Int) < (s.size:Int):=by
      by_cases hc:s[0].toNat=48
      · right;exact ⟨by simp;omega,by omega⟩
      · left;simp;omega
     clear hd hz hb hhead hne
     rcases e3 with e3 | ⟨e3,e4⟩
     all_goals
      go_enter Tryz.func58,Tryz.ntmps58
      go_wp2_with fail
     all_goals
      clear e1 e1'
      go_loop [5] (fun i=>∃ j:Nat,j≤s.size∧i=.int .i64 j∧Hid (Digits (s.data.toList.take j))) (fun i=>s.size - (intOf i).toNat)
      case atStart=>exact ⟨0,Nat.zero_le _,rfl,fun c hc=>by simp at hc⟩
      case round =>
       obtain ⟨j,hj,rfl,HD⟩:=hrel
       by_cases hlt:j < s.size
       · have hmem : Hid (s[j] ∈ s.data.toList) := by
           show _ ∈ _
           exact List.mem_of_getElem? (i:=j) (by rw [List.getElem?_eq_getElem (by rw [← HZ.out];exact hlt)];rfl)
         by_cases h1:(s[j].toNat:Int) < 48
         · go_wp2_with fail
           go_ret2
           exact .inl ⟨isTextB_false hmem.out (by unfold Digit;omega),rfl,rfl⟩
         · by_cases h2:(57:Int) < (s[j].toNat:Int)
           · go_wp2_with fail
             go_ret2
             exact .inl ⟨isTextB_false hmem.out (by unfold Digit;omega),rfl,rfl⟩
           · go_wp2_with fail
             go_round
             case rel =>
              refine ⟨j+1,by omega,by go_num,?_⟩
              show Digits _
              rw [take_snoc8 s j hlt]
              intro c hc
              rcases List.mem_append.1 hc with hc | hc
              · exact HD.out c hc
              · rw [List.mem_singleton] at hc;subst hc;unfold Digit;omega
             case measure=>simp [intOf];omega
       · obtain rfl:j=s.size:=by omega
         have hD:=HD.out
         rw [List.take_of_length_le (by rw [← HZ.out];exact Nat.le_refl _)] at hD
         have HDD:=Lib.hid hD
         have HT:Hid (isTextB s.data.toList=true):=isTextB_true HH.out.1 HH.out.2 hD
         clear hD
         go_wp2_with fail
         go_loopw [4,6] (fun ta ti wr=>∃ (i:Nat) (A:Option Addr) (n c:Nat),ti=.int .i64 (i:Int)∧ta=.slice A n c∧RN wr A n c (dec (s.data.toList.take i)) 2500∧Below w.heap.size w wr∧i≤20020) (fun _ ti _=>20020 - (intOf ti).toNat)
         case atStart=>exact ⟨0,none,0,0,rfl,rfl,RN.zero w 2500,Below.refl _ _,by omega⟩
         case round =>
          obtain ⟨i,A,n,c,rfl,rfl,X,hbw,hi⟩:=hrel
          by_cases hil:i < s.size
          · obtain ⟨E,hE⟩:∃ E,E=min (i+9) s.size:=⟨_,rfl⟩
            have hEI:min ((i:Int)+9) (s.size:Int)=(E:Int):=by omega
            have hE1:E≤s.size:=by omega
            have hE2:E≤i+9:=by omega
            have hE3:i≤E:=by omega
            have HE:Hid (s.data.toList.take (i+9)=s.data.toList.take E):=by
             show _=_
             rcases Nat.le_total (i+9) s.size with h | h
             · rw [show E=i+9 by omega]
             · rw [show E=s.size by omega,HZ.out,List.take_of_length_le (by have:=HZ.out;omega),List.take_of_length_le (Nat.le_refl _)]
            have HJ:Hid (∀ L,i+L≤s.size→dec (s.data.toList.take (i+L))=dec (s.data.toList.take i)*10 ^ L+dec ((s.data.toList.drop i).take L)∧dec ((s.data.toList.drop i).take L) < 10 ^ L):=fun L hL=>by
             have hz:=HZ.out
             have hl:((s.data.toList.drop i).take L).length=L:=by rw [List.length_take,List.length_drop];omega
             refine ⟨?_,?_⟩
             · rw [List.take_add,dec_append,hl]
             · have:=dec_lt (l:=(s.data.toList.drop i).take L) (fun c hc=>HDD.out c (List.mem_of_mem_drop (List.mem_of_mem_take hc)))
               rw [hl] at this;exact this
            clear hE
            go_wp2_with fail
            go_loop [7,8,9] (fun tp tv tk=>∃ k P v:Nat,i≤k∧k≤E∧tk=.int .i64 (k:Int)∧tp=.int .u64 (P:Int)∧tv=.int .u64 (v:Int)∧P≤1000000000∧v < 1000000000∧Hid (P=10 ^ (k - i)∧v=dec ((s.data.toList.drop i).take (k - i)))) (fun _ _ tk=>20020 - (intOf tk).toNat)
            case atStart=>exact ⟨i,1,0,Nat.le_refl _,hE3,rfl,rfl,rfl,by omega,by omega,by rw [Nat.sub_self],by rw [Nat.sub_self];rfl⟩
            case round =>
             obtain ⟨k,P,v,hk1,hk2,rfl,rfl,rfl,hP,hv,HI⟩:=hrel
             by_cases hkE:k < E
             · have hks:k < s.size:=by omega
               have hdg:=HDD.out s[k] (List.mem_of_getElem? (i:=k) (by rw [List.getElem?_eq_getElem (by rw [← HZ.out];exact hks)];rfl))
               unfold Digit at hdg
               obtain ⟨x,hx⟩:∃ x,x=s[k].toNat - 48:=⟨_,rfl⟩
               have hxI:(s[k].toNat:Int) - 48=(x:Int):=by omega
               have hx9:x≤9:=by omega
               have HX:Hid (dec ((s.data.toList.drop i).take (k+1 - i))=v*10+x):=by
                show _=_
                have hz:=HZ.out
                have hl:k - i < (s.data.toList.drop i).length:=by rw [List.length_drop];omega
                rw [show k+1 - i=(k - i)+1 by omega,List.take_succ_eq_append_getElem hl,dec_snoc,← HI.out.2,List.getElem_drop,hx]
                have e:s.data.toList[i+(k - i)]'(by omega)=s[k]:=by
                 have:i+(k - i)=k:=by omega
                 simp only [this];rfl
                rw [e];omega
               have HL9:Hid (10 ^ (k+1 - i)=P*10∧P*10≤1000000000∧v*10+x < 1000000000):=by
                have h1:=(HJ.out (k+1 - i) (by omega)).2
                rw [HX.out] at h1
                have h2:10 ^ (k+1 - i)≤10 ^ 9:=Nat.pow_le_pow_right (by decide) (by omega)
                have h3:10 ^ (k+1 - i)=P*10:=by rw [show k+1 - i=(k - i)+1 by omega,Nat.pow_succ,← HI.out.1]
                exact ⟨h3,by omega,by omega⟩
               clear hx hdg
               go_wp2_with fail
               go_round
               case rel=>exact ⟨k+1,P*10,v*10+x,by omega,by omega,by go_num,by go_num,by go_num,HL9.out.2.1,HL9.out.2.2,HL9.out.1.symm,HX.out.symm⟩
               case measure=>simp [intOf];omega
             · obtain rfl:k=E:=by omega
               have hj:=HJ.out (k - i) (by omega)
               rw [show i+(k - i)=k by omega,← HI.out.1,← HI.out.2] at hj
               have HS:=Lib.hid hj.1
               have hf:=dec_fit (l:=s.data.toList.take k) (fun c hc=>HDD.out c (List.mem_of_mem_take hc)) (by rw [List.length_take];omega)
               rw [hj.1] at hf;have HF:=Lib.hid hf
               have hf2:=prod_fit32 (j:=2501) hf rfl
               have HF2:=Lib.hid hf2
               have hP32:P < B32:=by unfold B32;omega
               have hv32:v < B32:=by unfold B32;omega
               clear hj hf hf2
               go_wp2_with (first
                | (go_at_call 57;(with_reducible refine (rof32_rn P hP32 _).mono ?_);rintro e w2 ⟨A2,n2,c2,rfl,x2,b2⟩
                   replace X:=X.below b2;replace hbw:=bend hbw b2)
                | (go_at_call 122;(with_reducible refine (rmul_rn 2501 X x2 (by omega) (by omega) HF2.out).mono ?_);rintro e w3 ⟨A3,n3,c3,rfl,x3,b3⟩
                   replace hbw:=bend hbw b3)
                | (go_at_call 57;(with_reducible refine (rof32_rn v hv32 _).mono ?_);rintro e w4 ⟨A4,n4,c4,rfl,x4,b4⟩
                   replace x3:=x3.below b4;replace hbw:=bend hbw b4)
                | (go_at_call 121;(with_reducible refine (radd_rn 2500 x3 x4 (by omega) (by omega) HF.out).mono ?_);rintro e w5 ⟨A5,n5,c5,rfl,x5,b5⟩
                   replace hbw:=bend hbw b5))
               go_roundw
               case rel=>exact ⟨i+9,A5,n5,c5,by go_num,rfl,by rw [HE.out,HS.out];exact x5,hbw,by omega⟩
               case measure=>simp [intOf];omega
          · go_wp2_with fail
            go_ret2
            rw [List.take_of_length_le (by have:=HZ.out;omega)] at X
            exact .inr ⟨HT.out,A,n,c,rfl,X,hbw⟩
theorem rparse_no (s:ByteArray) (w:World) (hs:s.size≤20000) (ht:isTextB s.data.toList=false) :
 Calls Tryz.prog 58 #[.string s] w fun e w'=>e=.returned (.tuple #[.slice none 0 0,.int .i64 11])∧w=w':=by
 refine (rparse_any s w hs).mono ?_
 rintro e w' (⟨_,h⟩ | ⟨h,_⟩)
 · exact h
 · rw [ht] at h;cases h
theorem rparse_yes (s:ByteArray) (w:World) (hs:s.size≤20000) (ht:isTextB s.data.toList=true) :
 Calls Tryz.prog 58 #[.string s] w fun e w'=>∃ A n c,e=.returned (.tuple #[.slice A n c,.int .i64 0])∧RN w' A n c (dec s.data.toList) 2500∧Below w.heap.size w w':=by
 refine (rparse_any s w hs).mono ?_
 rintro e w' (⟨h,_⟩ | ⟨_,h⟩)
 · rw [ht] at h;cases h
 · exact h
theorem parse_nr (s:ByteArray) (w:World) (hs:s.size≤20000) (ht:isTextB s.data.toList=true) :
 Calls Tryz.prog 53 #[.string s] w fun e w'=>∃ A n c,e=.returned (.tuple #[.slice A n c,.int .i64 0])∧NG w' A n c (dec s.data.toList) 1250∧Below w.heap.size w w':=by
 have h:=dec_fit (isTextB_digits ht) (by rw [← Lib.size_eq s];exact hs)
 have h9:=lt_64of32 (k:=1250) h rfl
 exact (parse_ok s w hs ht).mono fun e w' g=>g.ng h9
end
section
open Go.RowKit
def By (W:World) (g:Nat) (x y:Value):Prop:=W.heap[g]?=some (.cells #[x,y] 35 (0,0))
section
variable {W W':World} {g:Nat} {x y:Value}
theorem By.c0 (h:By W g x y):W.cell? ⟨g,0,none⟩=some x:=by rw [cell_of_row W g 0 _ _ (0,0) h];rfl
theorem By.c1 (h:By W g x y):W.cell? ⟨g,1,none⟩=some y:=by rw [cell_of_row W g 1 _ _ (0,0) h];rfl
theorem By.all (h:By W g x y):W.cell? ⟨g,0,none⟩=some x∧W.cell? ⟨g,1,none⟩=some y:=⟨h.c0,h.c1⟩
theorem By.f0 (h:By W g x y):W.frozen? ⟨g,0,none⟩=false:=frozen_of_row W g 0 _ _ h
theorem By.f1 (h:By W g x y):W.frozen? ⟨g,1,none⟩=false:=frozen_of_row W g 1 _ _ h
theorem By.lt (h:By W g x y):g < W.heap.size:=World.block_lt_of_cell? W _ h.c0
theorem By.below (h:By W g x y) (hb:Below W.heap.size W W'):By W' g x y:=(hb.block g h.lt).trans h
theorem By.drew (h:By W g x y):By W.drew g x y:=h
theorem By.alloc (h:By W g x y) (o:Obj):By (W.alloc o) g x y:=(Below.heap_alloc W o g h.lt).trans h
theorem By.new (W:World) (x y:Value):By (W.alloc (.cells #[x,y] 35)) W.heap.size x y:=heap_alloc_new W _
theorem By.new' (W:World) (x y:Value) (g:Nat) (hg:g=W.heap.size):By (W.alloc (.cells #[x,y] 35)) g x y:=by subst hg;exact By.new W x y
theorem By.set2 (h:By W g x y) (u v:Value):By ((W.setCell ⟨g,0,none⟩ u).setCell ⟨g,1,none⟩ v) g u v:=by
 unfold By at h ⊢
 simp [World.setCell,Array.getElem?_modify,h]
theorem By.off {s:Bool} {A' A:Option Addr} {n' c' n:Nat} {K:IntKind} {l:List Nat} (h:By W g (.bool s) (.slice A' n' c')) (hr:Rd K W A n l):Off A n g:=by
 intro hn ad e hg
 obtain ⟨b,o,eA,hc⟩:=hr.at_ hn
 obtain ⟨x,_,hx⟩:=hc 0 hn
 rw [eA] at e
 cases e
 have hg2:b=g:=hg
 subst hg2
 rw [cell_of_row W b (o+0) _ _ (0,0) h] at hx
 match o,hx with
 | 0,hx=>cases hx
 | 1,hx=>cases hx
 | o+2,hx=>cases hx
end
def RZ (w:World) (s:Bool) (A:Option Addr) (n c:Nat) (v:Int) (k:Nat):Prop:=∃ U,RN w A n c U k∧iv s U=v
def RG (w:World) (s:Bool) (A:Option Addr) (n c:Nat) (v:Int) (k:Nat):Prop:=s=decide (v < 0)∧RN w A n c v.natAbs k
def GivesRZ (w:World) (v:Int) (k:Nat) (e:Ending) (w':World):Prop :=
 ∃ s A n c,e=.returned (.agg #[.bool s,.slice A n c])∧RG w' s A n c v k∧Below w.heap.size w w'
theorem iv_canon (v:Int):iv (decide (v < 0)) v.natAbs=v:=by
 unfold iv
 by_cases h:v < 0
 · simp [h];omega
 · simp [h];omega
theorem RG.below {w w':World} {s:Bool} {A:Option Addr} {n c k:Nat} {v:Int} (h:RG w s A n c v k) (hb:Below w.heap.size w w'):RG w' s A n c v k:=⟨h.1,h.2.below hb⟩
theorem RZ.below {w w':World} {s:Bool} {A:Option Addr} {n c k:Nat} {v:Int} (h:RZ w s A n c v k) (hb:Below w.heap.size w w'):RZ w' s A n c v k:=by
 obtain ⟨U,h1,h2⟩:=h
 exact ⟨U,h1.below hb,h2⟩
theorem rn_pos {A:Option Addr} {n c V k:Nat} (h:RN w A n c V k):decide (0 < n)=decide (0 < V):=by
 have hl:=h.1.1
 by_cases h0:V=0
 · rw [h0,limbs_zero] at hl
   rw [h0,← hl];rfl
 · rw [limbs_pos B32_two h0] at hl
   simp at hl
   rw [decide_eq_true (by omega:0 < n),decide_eq_true (by omega:0 < V)]
theorem close_rz {w W:World} {g k:Nat} {s z:Bool} {A A':Option Addr} {n c n' c' V:Nat} {v:Int} (hb:Below w.heap.size w W) (hg:w.heap.size≤g) (Z:By W g (.bool z) (.slice A' n' c')) (X:RN W A n c V k) (hv:v=iv s V) (u x:Value) :
 GivesRZ w v k (.returned (.agg #[.bool (s && decide (0 < n)),.slice A n c])) ((W.setCell ⟨g,0,none⟩ u).setCell ⟨g,1,none⟩ x):=by
 subst hv
 refine ⟨_,A,n,c,rfl,⟨?_,?_⟩,(hb.setCell hg _).setCell hg _⟩
 · rw [iv_neg,rn_pos X]
 · rw [iv_natAbs]
   exact ⟨X.1.only (Z.off X.1) (((Only.refl g W).setCell 0 u).setCell 1 x),X.2⟩
theorem made_any (neg:Bool) (A:Option Addr) (n c:Nat) (w:World) :
 Calls Tryz.prog 120 #[.bool neg,.slice A n c] w fun e w'=>e=.returned (.agg #[.bool (neg && decide (0 < n)),.slice A n c])∧Below w.heap.size w w':=by
 cases neg
 · go_enter Tryz.func120,Tryz.ntmps120
   go_wp2
   go_returns
   exact ⟨rfl,(Below.refl _ _).alloc (Nat.le_refl _) _⟩
 · go_enter Tryz.func120,Tryz.ntmps120
   go_wp2
   go_returns
   exact ⟨by simp,(Below.refl _ _).alloc (Nat.le_refl _) _⟩
theorem mkbx4_9 {w W:World} {x0 x1 x2 x3:Value} (h:((w.alloc (Obj.cells #[x0,x1] 24)).alloc (Obj.cells #[x2,x3] 35))=W):Below w.heap.size w W∧Bx W (w.heap.size) x0 x1∧By W (w.heap.size+1) x2 x3∧W.heap.size=w.heap.size+2:=by subst h;exact ⟨by exact (((Below.refl _ _).alloc (Nat.le_refl _) _).alloc (by simp) _),by exact (Bx.new w _ _).alloc _,by exact By.new' _ _ _ _ (by simp),by simp⟩
theorem rin2 {s:Bool} {A:Option Addr} {n c k:Nat} {v:Int} (X0:ZR w s A n c v k) (hk:k≤1000) :
 Calls Tryz.prog 69 #[.agg #[.bool s,.slice A n c]] w (GivesRZ w (v) (2*k)):=by
 obtain ⟨V,X,hv⟩:∃ V,NR w A n c V k∧iv s V=v:=by
  obtain ⟨l,h1,h2,h3,h4,h5,h6⟩:=X0
  exact ⟨_,⟨l,h1,h2,rfl,h4,h5⟩,h3⟩
 subst hv
 clear X0
 go_enter Tryz.func69,Tryz.ntmps69
 go_wp2_with fail
 generalize hW:World.alloc _ _=W
 obtain ⟨hb,XA,Z,hz⟩:=mkbx4_9 hW;clear hW;replace X:=X.below hb
 replace X:=X.below (Below.refl _ _).drew
 replace XA:=XA.below (Below.refl _ _).drew
 replace Z:=Z.below (Below.refl _ _).drew
 replace hb:=hb.drew
 go_region_held3 (fun w'=>w'.cell? ⟨w.heap.size,0,none⟩=some (Value.bool s)∧w'.cell? ⟨w.heap.size,1,none⟩=some (Value.slice A n c))
  (first | with_reducible exact ⟨XA.c0,XA.c1⟩ | with_reducible exact ⟨(set2_cell _ _ _ _ _ _ (by omega)).trans XA.c0,(set2_cell _ _ _ _ _ _ (by omega)).trans XA.c1⟩)
  (first
  | (go_at_call 68;(with_reducible refine (rin_nr (2*k) X (by omega) rfl).mono ?_);rintro e w_x ⟨A_x,n_x,c_x,rfl,x,hh⟩
     (try replace X:=X.below hh);(try replace Y:=Y.below hh);(try replace XA:=XA.below hh);(try replace XB:=XB.below hh);(try replace Z:=Z.below hh);(try replace T:=T.below hh);replace hb:=bend hb hh)
  | (go_at_call 120;(with_reducible refine (made_any _ _ _ _ _).mono ?_);rintro e w_m ⟨rfl,hh⟩
     (try replace X:=X.below hh);(try replace Y:=Y.below hh);(try replace x:=x.below hh);(try replace XA:=XA.below hh);(try replace XB:=XB.below hh);(try replace Z:=Z.below hh);(try replace T:=T.below hh);replace hb:=bend hb hh;obtain ⟨r0,r1⟩:=Z.all;have r2:=Z.f0;have r3:=Z.f1))
 go_wp2
 have hf0:=(Z.set2 (.bool (s && decide (0 < n_x))) (.slice A_x n_x c_x)).c0
 have hf1:=(Z.set2 (.bool (s && decide (0 < n_x))) (.slice A_x n_x c_x)).c1
 refine bodyPost_ret (v:=.agg #[.bool (s && decide (0 < n_x)),.slice A_x n_x c_x]) (by simp [results,Tryz.results69,go_sem,hf0,hf1]) rfl ?_
 exact close_rz (s:=s) (g:=w.heap.size+1) hb (by omega) Z x rfl _ _
theorem RN.more {A:Option Addr} {n c V k k1:Nat} (h:RN w A n c V k) (hk:k≤k1):RN w A n c V k1:=⟨h.1,h.2.1,Nat.le_trans h.2.2 hk⟩
end
section
open Go.RowKit
def zneg (l:List UInt8):Bool:=Lib.hasPrefix l [45]
def zdig (l:List UInt8):List UInt8:=Lib.trimPrefix l [45]
theorem zdig_len (l:List UInt8):(zdig l).length≤l.length:=by
 unfold zdig Lib.trimPrefix
 split
 · rw [List.length_drop];omega
 · exact Nat.le_refl _
def GivesZE (w:World) (v:Int) (k:Nat) (e:Ending) (w':World):Prop :=
 ∃ A n c,e=.returned (.tuple #[.agg #[.bool (decide (v < 0)),.slice A n c],.int .i64 0])∧ZR w' (decide (v < 0)) A n c v k∧n≤k∧Rd .u64 w' A n (limbs B64 v.natAbs)∧Below w.heap.size w w'
theorem GivesI.ze {w w':World} {v:Int} {k n c:Nat} {s:Bool} {A:Option Addr} (hk:v.natAbs < B64 ^ k) (h:GivesI w v (.returned (.agg #[.bool s,.slice A n c])) w'):GivesZE w v k (.returned (.tuple #[.agg #[.bool s,.slice A n c],.int .i64 0])) w':=by
 obtain ⟨A',n',c',he,h1,h2,h3,h4⟩:=h
 have e:=Ending.returned.inj he;rw [e]
 exact ⟨A',n',c',rfl,ZR.of_fr h3 h1 hk,by rw [← h3.1];exact length_limbs_le B64_two hk,h3.rd,h4⟩
def zbad (l:List UInt8):Bool:=!(isTextB (zdig l)) || (zneg l && decide (dec (zdig l)=0))
def zval (l:List UInt8):Int:=iv (zneg l) (dec (zdig l))
theorem zparse_form (s:ByteArray) (w:World) (h:s.size≤20000) (ht:zbad s.data.toList=true) :
 Calls Tryz.prog 51 #[.string s] w fun e w'=>e=.returned (.tuple #[.agg #[.bool false,.slice none 0 0],.int .i64 11])∧Below w.heap.size w w':=by
 have hlen:=zdig_len s.data.toList;rw [← Lib.size_eq s] at hlen
 obtain ⟨b,hbn⟩:∃ b,Lib.hasPrefix s.data.toList (⟨#[45]⟩:ByteArray).data.toList=b:=⟨_,rfl⟩
 obtain ⟨D,hDD⟩:∃ D:ByteArray,(⟨(Lib.trimPrefix s.data.toList (⟨#[45]⟩:ByteArray).data.toList).toArray⟩:ByteArray)=D:=⟨_,rfl⟩
 have hDl:D.data.toList=zdig s.data.toList:=by rw [← hDD];rfl
 have hDs:D.size≤20000:=by rw [Lib.size_eq,hDl];omega
 have hzn:zneg s.data.toList=b:=hbn
 have HN:=Lib.hid hbn;have HD:=Lib.hid hDD
 unfold zbad at ht
 rw [← hDl,hzn] at ht
 clear hbn hDD hDl hzn hlen
 cases hT:isTextB D.data.toList with
 | false =>
   have HT:=Lib.hid hT;clear hT ht
   go_enter Tryz.func51,Tryz.ntmps51
   go_wp2_with fail
   generalize hW:w.alloc (Obj.cells #[Value.bool false,Value.slice none 0 0] 24)=W
   have hb0:Below w.heap.size w W:=by subst hW;exact (Below.refl _ _).alloc (Nat.le_refl _) _
   have Z:Bx W w.heap.size (.bool false) (.slice none 0 0):=by subst hW;exact Bx.new w _ _
   have hz:w.heap.size < W.heap.size:=Z.lt
   clear hW
   go_wp2_with (first
    | (go_at_call 112;(with_reducible refine (Tryz.strings_CutPrefix s _ _).mono ?_);rintro e w' ⟨rfl,rfl⟩;rw [HN.out,HD.out])
    | (go_at_call 53;(with_reducible refine (parse_form D _ hDs HT.out).mono ?_);rintro e w1 ⟨rfl,rfl⟩
       obtain ⟨r0,r1⟩:=Z.all;have r2:=Z.f0;have r3:=Z.f1))
   have hf0:=(Z.set2 (.bool false) (.slice none 0 0)).c0
   have hf1:=(Z.set2 (.bool false) (.slice none 0 0)).c1
   refine bodyPost_ret (v:=.tuple #[.agg #[.bool false,.slice none 0 0],.int .i64 11]) (by simp [results,Tryz.results51,go_sem,hf0,hf1]) rfl ?_
   exact ⟨rfl,(hb0.setCell (Nat.le_refl _) _).setCell (Nat.le_refl _) _⟩
 | true =>
   have HT:=Lib.hid hT;rw [hT] at ht
   have hb:b=true:=by cases b <;> simp_all
   subst hb
   have hV:dec D.data.toList=0:=by simpa using ht
   have HV:=Lib.hid hV;clear hT ht hV
   go_enter Tryz.func51,Tryz.ntmps51
   go_wp2_with fail
   generalize hW:w.alloc (Obj.cells #[Value.bool false,Value.slice none 0 0] 24)=W
   have hb0:Below w.heap.size w W:=by subst hW;exact (Below.refl _ _).alloc (Nat.le_refl _) _
   have Z:Bx W w.heap.size (.bool false) (.slice none 0 0):=by subst hW;exact Bx.new w _ _
   have hz:w.heap.size < W.heap.size:=Z.lt
   clear hW
   go_wp2_with (first
    | (go_at_call 112;(with_reducible refine (Tryz.strings_CutPrefix s _ _).mono ?_);rintro e w' ⟨rfl,rfl⟩;rw [HN.out,HD.out])
    | (go_at_call 53;(with_reducible refine (parse_ok D _ hDs HT.out).mono ?_);rintro e w1 ⟨A1,n1,k1,rfl,p1,p2,p3,p4⟩
       rw [HV.out,limbs_zero] at p3
       obtain rfl:n1=0:=p3.1.symm
       have Z1:=Z.below p4;have hb1:=bend hb0 p4;obtain ⟨r0,r1⟩:=Z1.all;have r2:=Z1.f0;have r3:=Z1.f1))
   have hf0:=(Z1.set2 (.bool false) (.slice none 0 0)).c0
   have hf1:=(Z1.set2 (.bool false) (.slice none 0 0)).c1
   refine bodyPost_ret (v:=.tuple #[.agg #[.bool false,.slice none 0 0],.int .i64 11]) (by simp [results,Tryz.results51,go_sem,hf0,hf1]) rfl ?_
   exact ⟨rfl,(hb1.setCell (Nat.le_refl _) _).setCell (Nat.le_refl _) _⟩
theorem zparse_ok (s:ByteArray) (w:World) (h:s.size≤20000) (ht:zbad s.data.toList=false) (k:Nat) (hk:(zval s.data.toList).natAbs < B64 ^ k) :
 Calls Tryz.prog 51 #[.string s] w (GivesZE w (zval s.data.toList) k):=by
 have hlen:=zdig_len s.data.toList;rw [← Lib.size_eq s] at hlen
 obtain ⟨b,hbn⟩:∃ b,Lib.hasPrefix s.data.toList (⟨#[45]⟩:ByteArray).data.toList=b:=⟨_,rfl⟩
 obtain ⟨D,hDD⟩:∃ D:ByteArray,(⟨(Lib.trimPrefix s.data.toList (⟨#[45]⟩:ByteArray).data.toList).toArray⟩:ByteArray)=D:=⟨_,rfl⟩
 have hDl:D.data.toList=zdig s.data.toList:=by rw [← hDD];rfl
 have hDs:D.size≤20000:=by rw [Lib.size_eq,hDl];omega
 have hzn:zneg s.data.toList=b:=hbn
 have HN:=Lib.hid hbn;have HD:=Lib.hid hDD
 unfold zbad at ht
 unfold zval at hk ⊢
 rw [← hDl,hzn] at ht hk
 rw [← hDl,hzn]
 have hT:isTextB D.data.toList=true:=by cases hh:isTextB D.data.toList <;> simp_all
 have hV:b=true→dec D.data.toList ≠ 0:=by rintro rfl e;simp [hT,e] at ht
 have HT:=Lib.hid hT
 obtain ⟨V,hVV⟩:∃ V,V=dec D.data.toList:=⟨_,rfl⟩
 have HVV:=Lib.hid hVV
 rw [← hVV] at hV hk ⊢
 have HK:=Lib.hid hk;clear hbn hDD hDl hzn hlen hT ht hk hVV
 cases b
 · go_enter Tryz.func51,Tryz.ntmps51
   go_wp2_with fail
   generalize hW:w.alloc (Obj.cells #[Value.bool false,Value.slice none 0 0] 24)=W
   have hb0:Below w.heap.size w W:=by subst hW;exact (Below.refl _ _).alloc (Nat.le_refl _) _
   have Z:Bx W w.heap.size (.bool false) (.slice none 0 0):=by subst hW;exact Bx.new w _ _
   have hz:w.heap.size < W.heap.size:=Z.lt
   clear hW
   go_wp2_with (first
    | (go_at_call 112;(with_reducible refine (Tryz.strings_CutPrefix s _ _).mono ?_);rintro e w' ⟨rfl,rfl⟩;rw [HN.out,HD.out])
    | (go_at_call 53;(with_reducible refine (parse_ok D _ hDs HT.out).mono ?_);rintro e w1 ⟨A1,n1,k1,rfl,p1,p2,p3,p4⟩
       rw [← HVV.out] at p3;have Z1:=Z.below p4)
    | (go_at_call 77;(with_reducible refine (number_any _ _ _ _ _).mono ?_);rintro e w2 ⟨rfl,q4⟩
       have Z2:=Z1.below q4;obtain ⟨r0,r1⟩:=Z2.all;have r2:=Z2.f0;have r3:=Z2.f1))
   have hf0:=(Z2.set2 (.bool (false && decide (0 < n1))) (.slice A1 n1 k1)).c0
   have hf1:=(Z2.set2 (.bool (false && decide (0 < n1))) (.slice A1 n1 k1)).c1
   simp only [Bool.false_and] at hf0 hf1
   refine bodyPost_ret (v:=.tuple #[.agg #[.bool (false && decide (0 < n1)),.slice A1 n1 k1],.int .i64 0]) (by simp [results,Tryz.results51,go_sem,hf0,hf1]) rfl ?_
   exact (close_i (s:=false) (g:=w.heap.size) hb0 (Nat.le_refl _) hz rfl p1 p2 p3 p4 q4 _ _).ze HK.out
 · have hV0:=hV rfl
   have HV0:=Lib.hid hV0;clear hV hV0
   go_enter Tryz.func51,Tryz.ntmps51
   go_wp2_with fail
   generalize hW:w.alloc (Obj.cells #[Value.bool false,Value.slice none 0 0] 24)=W
   have hb0:Below w.heap.size w W:=by subst hW;exact (Below.refl _ _).alloc (Nat.le_refl _) _
   have Z:Bx W w.heap.size (.bool false) (.slice none 0 0):=by subst hW;exact Bx.new w _ _
   have hz:w.heap.size < W.heap.size:=Z.lt
   clear hW
   go_wp2_with (first
    | (go_at_call 112;(with_reducible refine (Tryz.strings_CutPrefix s _ _).mono ?_);rintro e w' ⟨rfl,rfl⟩;rw [HN.out,HD.out])
    | (go_at_call 53;(with_reducible refine (parse_ok D _ hDs HT.out).mono ?_);rintro e w1 ⟨A1,n1,k1,rfl,p1,p2,p3,p4⟩
       rw [← HVV.out] at p3
       have hn1:0 < n1:=by
        have:=p3.1
        rw [limbs_pos B64_two HV0.out] at this
        simp at this;omega
       have hnz:((n1:Int) == 0)=false:=by (simp;omega)
       clear hn1;have Z1:=Z.below p4)
    | (go_at_call 77;(with_reducible refine (number_any _ _ _ _ _).mono ?_);rintro e w2 ⟨rfl,q4⟩
       have Z2:=Z1.below q4;obtain ⟨r0,r1⟩:=Z2.all;have r2:=Z2.f0;have r3:=Z2.f1))
   have hf0:=(Z2.set2 (.bool (true && decide (0 < n1))) (.slice A1 n1 k1)).c0
   have hf1:=(Z2.set2 (.bool (true && decide (0 < n1))) (.slice A1 n1 k1)).c1
   simp only [Bool.true_and] at hf0 hf1
   refine bodyPost_ret (v:=.tuple #[.agg #[.bool (true && decide (0 < n1)),.slice A1 n1 k1],.int .i64 0]) (by simp [results,Tryz.results51,go_sem,hf0,hf1]) rfl ?_
   exact (close_i (s:=true) (g:=w.heap.size) hb0 (Nat.le_refl _) hz rfl p1 p2 p3 p4 q4 _ _).ze HK.out
end
section
open Go.RowKit
theorem ztxt_num (v:Int):zbad (ztxt v)=false∧zval (ztxt v)=v:=by
 obtain ⟨h1,h2⟩:=txt_dec v.natAbs
 have h3:=txt_is v.natAbs
 by_cases hv:v < 0
 · have e1:ztxt v=45 :: txt v.natAbs:=if_pos hv
   have e2:zneg (ztxt v)=true:=by rw [e1];simp [zneg,Lib.hasPrefix]
   have e3:zdig (ztxt v)=txt v.natAbs:=by rw [e1];simp [zdig,Lib.trimPrefix,Lib.hasPrefix]
   refine ⟨?_,?_⟩
   · unfold zbad;rw [e2,e3,h3,h1];simp;omega
   · unfold zval;rw [e2,e3,h1];simp [iv];omega
 · have e1:ztxt v=txt v.natAbs:=if_neg hv
   have hne:txt v.natAbs ≠ []:=fun e=>by rw [e] at h3;cases h3
   have e2:zneg (ztxt v)=false:=by
    rw [e1]
    cases hx:txt v.natAbs with
    | nil=>exact absurd hx hne
    | cons x l =>
      have hd:=h2 x (by rw [hx];simp)
      unfold Digit at hd
      have:(45:UInt8) ≠ x:=fun e=>by rw [← e] at hd;exact absurd hd.1 (by decide)
      show (((45:UInt8) == x) && List.isPrefixOf [] l)=false
      rw [beq_false_of_ne this];rfl
   have e3:zdig (ztxt v)=txt v.natAbs:=by
    have:Lib.hasPrefix (ztxt v) [45]=false:=e2
    unfold zdig Lib.trimPrefix
    rw [this,e1];rfl
   refine ⟨?_,?_⟩
   · unfold zbad;rw [e2,e3,h3];rfl
   · unfold zval;rw [e2,e3,h1];simp [iv];omega
end
section
open Go.RowKit
def ZG (w:World) (s:Bool) (A:Option Addr) (n c:Nat) (v:Int) (k:Nat):Prop:=s=decide (v < 0)∧Rd .u64 w A n (limbs B64 v.natAbs)∧n≤c∧n≤k
theorem ZG.below {w w':World} {s:Bool} {A:Option Addr} {n c k:Nat} {v:Int} (h:ZG w s A n c v k) (hb:Below w.heap.size w w'):ZG w' s A n c v k:=⟨h.1,h.2.1.below hb,h.2.2⟩
theorem ZG.zr {s:Bool} {A:Option Addr} {n c k:Nat} {v:Int} (h:ZG w s A n c v k):ZR w s A n c v k:=by
 obtain ⟨h1,h2,h3,h4⟩:=h
 have hl:=val_lt (lim_limbs B64_two v.natAbs)
 rw [val_limbs B64_two,h2.1] at hl
 exact ⟨_,h2,lim_limbs B64_two _,by rw [val_limbs B64_two,h1,iv_canon],h3,h4,Nat.lt_of_lt_of_le hl (Nat.pow_le_pow_right (by decide) h4)⟩
def GivesZG (w:World) (v:Int) (k:Nat) (e:Ending) (w':World):Prop :=
 ∃ s A n c,e=.returned (.agg #[.bool s,.slice A n c])∧ZG w' s A n c v k∧Below w.heap.size w w'
theorem GivesI.zg {v:Int} {k:Nat} (hk:v.natAbs < B64 ^ k) {e:Ending} {w':World} (h:GivesI w v e w'):GivesZG w v k e w':=by
 obtain ⟨A,n,c,rfl,h1,h2,h3,h4⟩:=h
 exact ⟨_,A,n,c,rfl,⟨rfl,h3.rd,h1,by rw [← h3.1];exact length_limbs_le B64_two hk⟩,h4⟩
theorem GivesQZ.zg {q r:Int} {k1 k2:Nat} (h1:q.natAbs < B64 ^ k1) (h2:r.natAbs < B64 ^ k2) {e:Ending} {w':World} (h:GivesQZ w q r e w') :
 ∃ s A n c t B m d,e=.returned (.tuple #[.agg #[.bool s,.slice A n c],.agg #[.bool t,.slice B m d],.int .i64 0])∧ZG w' s A n c q k1∧ZG w' t B m d r k2∧Below w.heap.size w w':=by
 obtain ⟨A,n,c,A',n',c',rfl,p1,p2,p3,p4,p5,p6,p7⟩:=h
 exact ⟨_,A,n,c,_,A',n',c',rfl,⟨rfl,p5.rd,p1,by rw [← p5.1];exact length_limbs_le B64_two h1⟩,⟨rfl,p6.rd,p3,by rw [← p6.1];exact length_limbs_le B64_two h2⟩,p7⟩
theorem zdm_zg {s t:Bool} {A B:Option Addr} {n c m d k1 k2:Nat} {v u:Int} (k:Nat) (X:ZR w s A n c v k1) (Y:ZR w t B m d u k2) (hu:u ≠ 0) (hk0:1≤k1) (hk:k1+1≤k) (hk1:k≤1000) (hk2:k2≤1000) :
 Calls Tryz.prog 110 #[.agg #[.bool s,.slice A n c],.agg #[.bool t,.slice B m d]] w (fun e w'=>∃ s A n c t B m d,e=.returned (.tuple #[.agg #[.bool s,.slice A n c],.agg #[.bool t,.slice B m d],.int .i64 0])∧ZG w' s A n c (v.fdiv u) k∧ZG w' t B m d (v.fmod u) k2∧Below w.heap.size w w'):=by
 obtain ⟨la,a1,a2,rfl,a4,a5,a6⟩:=X
 obtain ⟨lb,b1,b2,rfl,b4,b5,b6⟩:=Y
 rw [iv_natAbs] at a6 b6
 have hb0:val B64 lb ≠ 0:=fun h=>hu (by rw [h];cases t <;> rfl)
 have hdm:=dm_all la lb A B n c m d a2 b2 (by omega) (by omega) a4 b4 hb0
 have hr:=Nat.mod_lt (val B64 la) (show val B64 lb > 0 by omega)
 have hq:=Nat.div_le_self (val B64 la) (val B64 lb)
 have h1:1 < B64 ^ k1:=Nat.lt_of_lt_of_le (show 1 < B64 ^ 1 by decide) (Nat.pow_le_pow_right (by decide) hk0)
 have hq1:=pow_sum a6 h1 hk hk
 by_cases hst:t=s
 · subst hst
   refine (zdm_alike t la lb A B n c m d w a1 b1 hdm).mono fun e w' h=>?_
   rw [(fdiv_alike t _ _).1,(fdiv_alike t _ _).2] at h
   refine h.zg ?_ ?_
   · rw [← (fdiv_alike t _ _).1,iv_natAbs];omega
   · rw [← (fdiv_alike t _ _).2,iv_natAbs];omega
 · have ht:t=!s:=by cases s <;> cases t <;> simp_all
   subst ht
   have hdiv:=Nat.div_add_mod (val B64 la) (val B64 lb)
   by_cases hr0:val B64 la % val B64 lb=0
   · refine (zdm_whole s la lb A B n c m d w a1 b1 hdm hr0).mono fun e w' h=>?_
     have hf:=fdiv_unlike (s:=s) (a:=val B64 la) (b:=val B64 lb) (q:=val B64 la / val B64 lb) (r:=val B64 la % val B64 lb) (by
      rw [hr0,Nat.add_zero] at hdiv
      rw [hr0,Int.mul_neg,← Int.natCast_mul,hdiv];simp) hr
     rw [hf.1,hf.2] at h
     refine h.zg ?_ ?_
     · rw [← hf.1,iv_natAbs];omega
     · rw [← hf.2,iv_natAbs];omega
   · refine (zdm_rest s la lb A B n c m d w a1 b1 hdm a2 b2 b4 (by omega) (by omega) hb0 hr0).mono fun e w' h=>?_
     have hf:=fdiv_unlike (s:=s) (a:=val B64 la) (b:=val B64 lb) (q:=val B64 la / val B64 lb+1) (r:=val B64 lb - val B64 la % val B64 lb) (by
      exact rest_up hdiv (by omega)) (by omega)
     rw [hf.1,hf.2] at h
     refine h.zg ?_ ?_
     · rw [← hf.1,iv_natAbs];omega
     · rw [← hf.2,iv_natAbs];omega
theorem Bx.offx {W:World} {g:Nat} {s:Bool} {A' A:Option Addr} {n' c' n:Nat} {K:IntKind} {l:List Nat} (h:Bx W g (.bool s) (.slice A' n' c')) (hr:Rd K W A n l):Off A n g:=by
 intro hn ad e hg
 obtain ⟨b,o,eA,hc⟩:=hr.at_ hn
 obtain ⟨x,_,hx⟩:=hc 0 hn
 rw [eA] at e
 cases e
 have hg2:b=g:=hg
 subst hg2
 rw [cell_of_row W b (o+0) _ _ (0,0) h] at hx
 match o,hx with
 | 0,hx=>cases hx
 | 1,hx=>cases hx
 | o+2,hx=>cases hx
theorem mkbx5_9 {w W:World} {x0 x1 x2 x3:Value} (h:((w.alloc (Obj.cells #[x0,x1] 24)).alloc (Obj.cells #[x2,x3] 24))=W):Below w.heap.size w W∧Bx W (w.heap.size) x0 x1∧Bx W (w.heap.size+1) x2 x3∧W.heap.size=w.heap.size+2:=by subst h;exact ⟨by exact (((Below.refl _ _).alloc (Nat.le_refl _) _).alloc (by simp) _),by exact (Bx.new w _ _).alloc _,by exact Bx.new' _ _ _ _ (by simp),by simp⟩
theorem ints_any (s t:Bool) (la lb:List Nat) (A B:Option Addr) (n c m d:Nat) (w:World) (ha:Rd .u64 w A n la) (hbb:Rd .u64 w B m lb) (hn:n≤maxLen) :
 Calls Tryz.prog 79 #[.agg #[.bool s,.slice A n c],.agg #[.bool t,.slice B m d]] w fun e w'=>e=.returned (.bool (s == t && decide (la=lb)))∧Below w.heap.size w w':=by
 by_cases h:s=t
 · subst h
   have h1:(s == s)=true:=by cases s <;> rfl
   rw [h1,Bool.true_and]
   go_enter Tryz.func79,Tryz.ntmps79
   go_wp2_with fail
   generalize hW:World.alloc _ _=W
   obtain ⟨hb,XA,XB,hz⟩:=mkbx5_9 hW;clear hW;have ha:=ha.below hb;have hbb:=hbb.below hb;obtain ⟨xa0,xa1⟩:=XA.all;obtain ⟨xb0,xb1⟩:=XB.all
   go_wp2_with (first
    | (go_at_call 80;(with_reducible refine (nats_any la lb A B n c m d _ ha hbb hn).mono ?_);rintro e' w' ⟨rfl,q,rfl⟩))
   go_ret
   exact ⟨rfl,below_drawn hb q⟩
 · have h1:(s == t)=false:=by cases s <;> cases t <;> simp_all
   rw [h1,Bool.false_and]
   go_enter Tryz.func79,Tryz.ntmps79
   go_wp2_with fail
   generalize hW:World.alloc _ _=W
   obtain ⟨hb,XA,XB,hz⟩:=mkbx5_9 hW;clear hW;have ha:=ha.below hb;have hbb:=hbb.below hb;obtain ⟨xa0,xa1⟩:=XA.all;obtain ⟨xb0,xb1⟩:=XB.all
   go_wp2_with fail
   go_ret;exact ⟨rfl,hb⟩
theorem mkbx6_9 {w W:World} {x0 x1 x2 x3:Value} (h:((w.alloc (Obj.cells #[x0,x1] 35)).alloc (Obj.cells #[x2,x3] 24))=W):Below w.heap.size w W∧By W (w.heap.size) x0 x1∧Bx W (w.heap.size+1) x2 x3∧W.heap.size=w.heap.size+2:=by subst h;exact ⟨by exact (((Below.refl _ _).alloc (Nat.le_refl _) _).alloc (by simp) _),by exact (By.new w _ _).alloc _,by exact Bx.new' _ _ _ _ (by simp),by simp⟩
theorem out2 {t:Bool} {B:Option Addr} {m d k:Nat} {v:Int} (Y:RG w t B m d v k) (hk:k≤200000) :
 Calls Tryz.prog 126 #[.agg #[.bool t,.slice B m d]] w fun e w'=>∃ A n c,e=.returned (.agg #[.bool t,.slice A n c])∧Rd .u64 w' A n (limbs B64 v.natAbs)∧Below w.heap.size w w':=by
 have hJ:=join32_limbs v.natAbs;have HJ:=Lib.hid hJ
 have hm:m≤2000000:=Nat.le_trans Y.2.2.2 (by omega)
 have hY:=Y.2.1;clear hJ
 go_enter Tryz.func126,Tryz.ntmps126
 go_wp2_with fail
 generalize hW:World.alloc _ _=W
 obtain ⟨hb,XB,Z,hz⟩:=mkbx6_9 hW;clear hW;replace hY:=hY.below hb
 replace hY:=hY.below (Below.refl _ _).drew
 replace XB:=XB.drew;replace Z:=Z.drew;replace hb:=hb.drew
 go_region_held3 (fun w'=>w'.cell? ⟨w.heap.size,0,none⟩=some (Value.bool t)∧w'.cell? ⟨w.heap.size,1,none⟩=some (Value.slice B m d))
  (first | with_reducible exact ⟨XB.c0,XB.c1⟩ | with_reducible exact ⟨(set2_cell _ _ _ _ _ _ (by omega)).trans XB.c0,(set2_cell _ _ _ _ _ _ (by omega)).trans XB.c1⟩)
  (first
  | (go_at_call 125;(with_reducible refine (rout_any (limbs B32 v.natAbs) B m d _ hY (lim_limbs B32_two _) hm).mono ?_);rintro e w1 ⟨A1,n1,c1,rfl,p1,p2,p3,hh⟩
     rw [HJ.out] at p3;replace XB:=XB.below hh;replace Z:=Z.below hh;replace hb:=bend hb hh;obtain ⟨r0,r1⟩:=Z.all;have r2:=Z.f0;have r3:=Z.f1))
 go_wp2
 have hf0:=(Z.set2 (.bool t) (.slice A1 n1 c1)).c0
 have hf1:=(Z.set2 (.bool t) (.slice A1 n1 c1)).c1
 refine bodyPost_ret (v:=.agg #[.bool t,.slice A1 n1 c1]) (by simp [results,Tryz.results126,go_sem,hf0,hf1]) rfl ?_
 refine ⟨A1,n1,c1,rfl,?_,(hb.setCell (by show w.heap.size≤_;simp) _).setCell (by show w.heap.size≤_;simp) _⟩
 exact p3.rd.only (Z.offx p3.rd) (((Only.refl (w.heap.size+1) w1).setCell 0 _).setCell 1 _)
end
section
open Go.RowKit
section
variable {W W':World} {g:Nat} {x y z u:Value}
end
theorem below_set2 {B g:Nat} {w W:World} (h:Below B w W) (hg:B≤g) (x y:Value):Below B w ((W.setCell ⟨g,0,none⟩ x).setCell ⟨g,1,none⟩ y):=(h.setCell hg _).setCell hg _
theorem RG.set2 {W:World} {g:Nat} {s0 s:Bool} {A1 A:Option Addr} {n1 c1 n c k:Nat} {v:Int} (X:RG W s A n c v k) (Z:By W g (.bool s0) (.slice A1 n1 c1)) (x y:Value):RG ((W.setCell ⟨g,0,none⟩ x).setCell ⟨g,1,none⟩ y) s A n c v k :=
 ⟨X.1,X.2.1.only (Z.off X.2.1) (((Only.refl g W).setCell 0 x).setCell 1 y),X.2.2⟩
theorem RN.set2 {W:World} {g:Nat} {s0:Bool} {A1 A:Option Addr} {n1 c1 n c V k:Nat} (X:RN W A n c V k) (Z:By W g (.bool s0) (.slice A1 n1 c1)) (x y:Value):RN ((W.setCell ⟨g,0,none⟩ x).setCell ⟨g,1,none⟩ y) A n c V k :=
 ⟨X.1.only (Z.off X.1) (((Only.refl g W).setCell 0 x).setCell 1 y),X.2⟩
theorem By.other {W:World} {g k:Nat} {x y:Value} (h:By W g x y) (hne:g ≠ k) (u v:Value):By ((W.setCell ⟨k,0,none⟩ u).setCell ⟨k,1,none⟩ v) g x y:=by
 unfold By at h ⊢
 rw [Below.heap_setCell _ _ _ _ hne,Below.heap_setCell _ _ _ _ hne];exact h
end
section
open Go Go.RowKit
def B3 (W:World) (g:Nat) (x y z:Value):Prop:=W.heap[g]?=some (.cells #[x,y,z] 26 (0,0))
section
variable {W W':World} {g:Nat} {x y z:Value}
theorem B3.c0 (h:B3 W g x y z):W.cell? ⟨g,0,none⟩=some x:=by rw [cell_of_row W g 0 _ _ (0,0) h];rfl
theorem B3.c1 (h:B3 W g x y z):W.cell? ⟨g,1,none⟩=some y:=by rw [cell_of_row W g 1 _ _ (0,0) h];rfl
theorem B3.c2 (h:B3 W g x y z):W.cell? ⟨g,2,none⟩=some z:=by rw [cell_of_row W g 2 _ _ (0,0) h];rfl
theorem B3.all (h:B3 W g x y z):W.cell? ⟨g,0,none⟩=some x∧W.cell? ⟨g,1,none⟩=some y∧W.cell? ⟨g,2,none⟩=some z:=⟨h.c0,h.c1,h.c2⟩
theorem B3.f0 (h:B3 W g x y z):W.frozen? ⟨g,0,none⟩=false:=frozen_of_row W g 0 _ _ h
theorem B3.f1 (h:B3 W g x y z):W.frozen? ⟨g,1,none⟩=false:=frozen_of_row W g 1 _ _ h
theorem B3.f2 (h:B3 W g x y z):W.frozen? ⟨g,2,none⟩=false:=frozen_of_row W g 2 _ _ h
theorem B3.lt (h:B3 W g x y z):g < W.heap.size:=World.block_lt_of_cell? W _ h.c0
theorem B3.below (h:B3 W g x y z) (hb:Below W.heap.size W W'):B3 W' g x y z:=(hb.block g h.lt).trans h
theorem B3.drew (h:B3 W g x y z):B3 W.drew g x y z:=h
theorem B3.alloc (h:B3 W g x y z) (o:Obj):B3 (W.alloc o) g x y z:=(Below.heap_alloc W o g h.lt).trans h
theorem B3.new' (W:World) (x y z:Value) (g:Nat) (hg:g=W.heap.size):B3 (W.alloc (.cells #[x,y,z] 26)) g x y z:=by subst hg;exact heap_alloc_new W _
theorem B3.set3 (h:B3 W g x y z) (a b c:Value):B3 (((W.setCell ⟨g,0,none⟩ a).setCell ⟨g,1,none⟩ b).setCell ⟨g,2,none⟩ c) g a b c:=by
 unfold B3 at h ⊢
 simp [World.setCell,Array.getElem?_modify,h]
theorem B3.offx {s:Bool} {A A1 A2:Option Addr} {n n1 n2 c1 c2:Nat} {K:IntKind} {l:List Nat} (h:B3 W g (.bool s) (.slice A1 n1 c1) (.slice A2 n2 c2)) (hr:Rd K W A n l):Off A n g:=by
 intro hn ad e hg
 obtain ⟨b,o,eA,hc⟩:=hr.at_ hn
 obtain ⟨x,_,hx⟩:=hc 0 hn
 rw [eA] at e
 cases e
 have hg2:b=g:=hg
 subst hg2
 rw [cell_of_row W b (o+0) _ _ (0,0) h] at hx
 match o,hx with
 | 0,hx=>cases hx
 | 1,hx=>cases hx
 | 2,hx=>cases hx
 | o+3,hx=>cases hx
end
theorem set3_cell (W:World) (g k o:Nat) (x y z:Value) (h:k ≠ g):(((W.setCell ⟨g,0,none⟩ x).setCell ⟨g,1,none⟩ y).setCell ⟨g,2,none⟩ z).cell? ⟨k,o,none⟩=W.cell? ⟨k,o,none⟩:=by
 rw [World.cell?_of_block (Below.heap_setCell _ _ _ _ h),World.cell?_of_block (Below.heap_setCell _ _ _ _ h),World.cell?_of_block (Below.heap_setCell _ _ _ _ h)]
theorem below_set3 {B g:Nat} {w W:World} (h:Below B w W) (hg:B≤g) (x y z:Value):Below B w (((W.setCell ⟨g,0,none⟩ x).setCell ⟨g,1,none⟩ y).setCell ⟨g,2,none⟩ z):=((h.setCell hg _).setCell hg _).setCell hg _
def QR (w:World) (s:Bool) (A:Option Addr) (n c:Nat) (A':Option Addr) (n' c':Nat) (v:Rat) (k:Nat):Prop :=
 ∃ p q,ZR w s A n c p k∧NR w A' n' c' q k∧v=mkRat p (den1 q)
def QG (w:World) (s:Bool) (A:Option Addr) (n c:Nat) (A':Option Addr) (n' c':Nat) (v:Rat) (k:Nat):Prop :=
 ZG w s A n c v.num k∧NG w A' n' c' v.den k
section
variable {w w':World} {s:Bool} {A A':Option Addr} {n c n' c' k k1:Nat} {v:Rat}
theorem QR.below (h:QR w s A n c A' n' c' v k) (hb:Below w.heap.size w w'):QR w' s A n c A' n' c' v k:=by
 obtain ⟨p,q,h1,h2,h3⟩:=h;exact ⟨p,q,h1.below hb,h2.below hb,h3⟩
theorem QG.below (h:QG w s A n c A' n' c' v k) (hb:Below w.heap.size w w'):QG w' s A n c A' n' c' v k:=⟨h.1.below hb,h.2.below hb⟩
theorem QG.qr (h:QG w s A n c A' n' c' v k):QR w s A n c A' n' c' v k :=
 ⟨v.num,v.den,h.1.zr,h.2.nr,by rw [den1_of v.den_nz,Rat.mkRat_self]⟩
theorem QG.set3 {g:Nat} {t:Bool} {A1 A2:Option Addr} {n1 c1 n2 c2:Nat} (h:QG w s A n c A' n' c' v k) (Z:B3 w g (.bool t) (.slice A1 n1 c1) (.slice A2 n2 c2)) (x y z:Value) :
 QG (((w.setCell ⟨g,0,none⟩ x).setCell ⟨g,1,none⟩ y).setCell ⟨g,2,none⟩ z) s A n c A' n' c' v k:=by
 have ho:Only g w (((w.setCell ⟨g,0,none⟩ x).setCell ⟨g,1,none⟩ y).setCell ⟨g,2,none⟩ z):=(((Only.refl g w).setCell 0 _).setCell 1 _).setCell 2 _
 exact ⟨⟨h.1.1,h.1.2.1.only (Z.offx h.1.2.1) ho,h.1.2.2⟩,⟨h.2.1.only (Z.offx h.2.1) ho,h.2.2⟩⟩
theorem ZR.set2x {g:Nat} {t:Bool} {A1:Option Addr} {n1 c1:Nat} {p:Int} (h:ZR w s A n c p k) (Z:Bx w g (.bool t) (.slice A1 n1 c1)) (x y:Value) :
 ZR ((w.setCell ⟨g,0,none⟩ x).setCell ⟨g,1,none⟩ y) s A n c p k:=by
 obtain ⟨l,h1,h2⟩:=h
 exact ⟨l,h1.only (Z.offx h1) (((Only.refl g w).setCell 0 _).setCell 1 _),h2⟩
theorem ZG.set2x {g:Nat} {t:Bool} {A1:Option Addr} {n1 c1:Nat} {p:Int} (h:ZG w s A n c p k) (Z:Bx w g (.bool t) (.slice A1 n1 c1)) (x y:Value) :
 ZG ((w.setCell ⟨g,0,none⟩ x).setCell ⟨g,1,none⟩ y) s A n c p k :=
 ⟨h.1,h.2.1.only (Z.offx h.2.1) (((Only.refl g w).setCell 0 _).setCell 1 _),h.2.2⟩
end
def GivesQ (w:World) (v:Rat) (k:Nat) (e:Ending) (w':World):Prop :=
 ∃ s A n c A' n' c',e=.returned (.agg #[.bool s,.slice A n c,.slice A' n' c'])∧QG w' s A n c A' n' c' v k∧Below w.heap.size w w'
theorem isone_nr {A:Option Addr} {n c V k:Nat} (X:NR w A n c V k) (hk:k≤100000) :
 Calls Tryz.prog 63 #[.slice A n c] w fun e w'=>e=.returned (.bool (decide (V=1)))∧w=w':=by
 have HB:=Lib.hid (bl_is1 V)
 go_enter Tryz.func63,Tryz.ntmps63
 go_wp2_with (go_at_call 54;((with_reducible refine (bits_nr X (by omega)).mono ?_);rintro e w' ⟨rfl,rfl⟩))
 go_ret;rw [HB.out]
 exact ⟨rfl,rfl⟩
def GivesL (w:World) (U V k1 k2:Nat) (e:Ending) (w':World):Prop :=
 ∃ A n c A' n' c',e=.returned (.tuple #[.slice A n c,.slice A' n' c'])∧NG w' A n c U k1∧NG w' A' n' c' V k2∧Below w.heap.size w w'
theorem lowest_nr {A B:Option Addr} {n c m d U V k1 k2:Nat} (X:NR w A n c U k1) (Y:NR w B m d V k2) (h1:k1≤1000) (h2:k2≤1000) (hV:V ≠ 0) :
 Calls Tryz.prog 76 #[.slice A n c,.slice B m d] w (GivesL w (U / Nat.gcd U V) (V / Nat.gcd U V) k1 k2):=by
 have hb:Below w.heap.size w w:=Below.refl _ _
 have hg:Nat.gcd U V ≠ 0:=by have:=Nat.gcd_pos_of_pos_right U (show 0 < V by omega);omega
 have HG:=Lib.hid hg;clear hg hV
 go_enter Tryz.func76,Tryz.ntmps76
 go_wp2_with (first
  | (go_at_call 119;(with_reducible refine (gcd_nr (k:=k1+k2) (X.more (by omega)) (Y.more (by omega)) (by omega)).mono ?_);rintro e w_g ⟨A_g,n_g,c_g,rfl,g,hh⟩
     (try replace X:=X.below hh);(try replace Y:=Y.below hh);replace hb:=bend hb hh)
  | (go_at_call 136;(with_reducible refine (dm_nr X g.nr (by omega) (by omega) HG.out).mono ?_);rintro e w_x ⟨A_x,n_x,c_x,A_r,n_r,c_r,rfl,x,r,hh⟩
     (try replace X:=X.below hh);(try replace Y:=Y.below hh);(try replace g:=g.below hh);replace hb:=bend hb hh)
  | (go_at_call 136;(with_reducible refine (dm_nr Y g.nr (by omega) (by omega) HG.out).mono ?_);rintro e w_y ⟨A_y,n_y,c_y,A_t,n_t,c_t,rfl,y,t,hh⟩
     (try replace X:=X.below hh);(try replace Y:=Y.below hh);(try replace g:=g.below hh);(try replace x:=x.below hh);(try replace r:=r.below hh);replace hb:=bend hb hh))
 go_ret2
 exact ⟨A_x,n_x,c_x,A_y,n_y,c_y,rfl,x,y,hb⟩
theorem ZR.nr {s:Bool} {A:Option Addr} {n c k:Nat} {v:Int} (h:ZR w s A n c v k):NR w A n c v.natAbs k:=by
 obtain ⟨l,h1,h2,rfl,h4,h5,h6⟩:=h
 exact ⟨l,h1,h2,(iv_natAbs _ _).symm,h4,h5⟩
theorem ZR.uv {s:Bool} {A:Option Addr} {n c k:Nat} {v:Int} (h:ZR w s A n c v k):v=iv s v.natAbs:=by
 obtain ⟨l,h1,h2,rfl,h4,h5,h6⟩:=h
 rw [iv_natAbs]
theorem ZR.ofn {s:Bool} {A:Option Addr} {n c k V:Nat} (h:NR w A n c V k):ZR w s A n c (iv s V) k:=by
 have:=h.lt
 obtain ⟨l,h1,h2,rfl,h4,h5⟩:=h
 exact ⟨l,h1,h2,rfl,h4,h5,by rw [iv_natAbs];exact this⟩
theorem mkbx7_9 {w W:World} {x0 x1 x2 x3 x4 x5 x6:Value} (h:(((w.alloc (Obj.cells #[x0,x1] 24)).alloc (Obj.cells #[x2,x3] 24)).alloc (Obj.cells #[x4,x5,x6] 26))=W):Below w.heap.size w W∧Bx W (w.heap.size) x0 x1∧Bx W (w.heap.size+1) x2 x3∧B3 W (w.heap.size+1+1) x4 x5 x6∧W.heap.size=w.heap.size+3:=by subst h;exact ⟨by exact ((((Below.refl _ _).alloc (Nat.le_refl _) _).alloc (by simp) _).alloc (by simp;omega) _),by exact ((Bx.new' _ _ _ _ rfl).alloc _).alloc _,by exact (Bx.new' _ _ _ _ (by simp)).alloc _,by exact B3.new' _ _ _ _ _ (by simp),by simp⟩
theorem make_zero {s t:Bool} {A B:Option Addr} {n c m d k:Nat} {q:Int} (Y:ZR w t B m d q k) (hk:k≤1000) (hq:q=0) :
 Calls Tryz.prog 25 #[.agg #[.bool s,.slice A n c],.agg #[.bool t,.slice B m d]] w fun e w'=>e=.returned (.tuple #[.agg #[.bool false,.slice none 0 0,.slice none 0 0],.int .i64 12])∧Below w.heap.size w w':=by
 have HB:Hid ((((bl q.natAbs:Nat):Int) == 0)=true):=by show _=true;rw [bl_is0,hq];rfl
 clear hq
 go_enter Tryz.func25,Tryz.ntmps25
 go_wp2_with fail
 generalize hW:World.alloc _ _=W
 obtain ⟨hb,XA,XB,Z,hzW⟩:=mkbx7_9 hW;clear hW;replace Y:=Y.below hb;obtain ⟨xa0,xa1⟩:=XA.all;obtain ⟨xb0,xb1⟩:=XB.all;obtain ⟨z0,z1,z2⟩:=Z.all;have zf0:=Z.f0;have zf1:=Z.f1;have zf2:=Z.f2
 go_wp2_with (go_at_call 54;((with_reducible refine (bits_nr Y.nr (by omega)).mono ?_);rintro e w' ⟨rfl,rfl⟩;rw [show (((bl q.natAbs:Nat):Int))=0 from by simpa using HB.out]))
 have Z2:=Z.set3 (.bool false) (.slice none 0 0) (.slice none 0 0)
 obtain ⟨g0,g1,g2⟩:=Z2.all
 refine bodyPost_ret (v:=.tuple #[.agg #[.bool false,.slice none 0 0,.slice none 0 0],.int .i64 12]) (by simp [results,Tryz.results25,go_sem,g0,g1,g2]) rfl ?_
 exact ⟨rfl,below_set3 hb (by omega) _ _ _⟩
def GivesQE (w:World) (v:Rat) (k:Nat) (e:Ending) (w':World):Prop :=
 ∃ s A n c A' n' c',e=.returned (.tuple #[.agg #[.bool s,.slice A n c,.slice A' n' c'],.int .i64 0])∧QG w' s A n c A' n' c' v k∧Below w.heap.size w w'
theorem close_q {s t:Bool} {A B:Option Addr} {n c m d U V k1 k2 k:Nat} (hV:V ≠ 0) (x:NG w A n c (U / Nat.gcd U V) k1) (y:NG w B m d (V / Nat.gcd U V) k2) (h1:k1≤k) (h2:k2≤k) :
 QG w ((s != t) && decide (0 < n)) A n c B m d (Rat.divInt (iv s U) (iv t V)) k:=by
 have hq:iv t V ≠ 0:=by cases t <;> simp [iv] <;> omega
 have e1:=div_num (p:=iv s U) hq
 have e2:=div_den (p:=iv s U) hq
 rw [iv_natAbs,iv_natAbs] at e1 e2
 have h3:decide (0 < n)=decide (0 < U / Nat.gcd U V):=by
  have h5:=limbs_len_pos (V:=U / Nat.gcd U V) (n:=n) (x.rd.1)
  exact h5
 have hxn:=x.more h1;have hyn:=y.more h2;rw [← e1] at hxn;rw [← e2] at hyn
 exact ⟨⟨by rw [div_neg hV,h3],hxn.1,hxn.2⟩,hyn⟩
theorem make_same {s:Bool} {A B:Option Addr} {n c m d U V k1 k2:Nat} (X:NR w A n c U k1) (Y:NR w B m d V k2) (h1:k1≤1000) (h2:k2≤1000) (hV:V ≠ 0) (k:Nat) (hk1:k1≤k) (hk2:k2≤k) :
 Calls Tryz.prog 25 #[.agg #[.bool s,.slice A n c],.agg #[.bool s,.slice B m d]] w (GivesQE w (Rat.divInt (iv s U) (iv s V)) k):=by
 have hne:(s != s)=false:=by cases s <;> rfl
 have HB:Hid ((((bl V:Nat):Int) == 0)=false):=by show _=false;rw [bl_is0];exact decide_eq_false hV
 have HV:=Lib.hid hV;clear hV
 go_enter Tryz.func25,Tryz.ntmps25
 go_wp2_with fail
 generalize hW:World.alloc _ _=W
 obtain ⟨hb,XA,XB,Z,hzW⟩:=mkbx7_9 hW;clear hW;replace X:=X.below hb;replace Y:=Y.below hb;obtain ⟨xa0,xa1⟩:=XA.all;obtain ⟨xb0,xb1⟩:=XB.all;have hbl:=HB.out
 go_upto_region 4 with (first
  | (go_at_call 54;(with_reducible refine (bits_nr Y (by omega)).mono ?_);rintro e w_b ⟨rfl,rfl⟩)
  | (go_at_call 76;(with_reducible refine (lowest_nr X Y h1 h2 HV.out).mono ?_);rintro e w_l ⟨A_x,n_x,c_x,A_y,n_y,c_y,rfl,x,y,hh⟩
     clear hbl;(try replace X:=X.below hh);(try replace Y:=Y.below hh);(try replace XA:=XA.below hh);(try replace XB:=XB.below hh);(try replace Z:=Z.below hh);replace hb:=bend hb hh;obtain ⟨xa0,xa1⟩:=XA.all;obtain ⟨xb0,xb1⟩:=XB.all;obtain ⟨z0,z1,z2⟩:=Z.all))
 have zf0:=Z.f0;have zf1:=Z.f1;have zf2:=Z.f2
 go_wp2_with fail
 have Z2:=Z.set3 (.bool (false)) (.slice A_x n_x c_x) (.slice A_y n_y c_y)
 obtain ⟨g0,g1,g2⟩:=Z2.all
 refine bodyPost_ret (v:=.tuple #[.agg #[.bool (false),.slice A_x n_x c_x,.slice A_y n_y c_y],.int .i64 0]) (by simp [results,Tryz.results25,go_sem,g0,g1,g2]) rfl ?_
 have hc:=close_q (s:=s) (t:=s) HV.out x y hk1 hk2
 rw [hne] at hc
 refine ⟨_,A_x,n_x,c_x,A_y,n_y,c_y,rfl,?_,below_set3 hb (by omega) _ _ _⟩
 have:=hc.set3 Z (.bool (false)) (.slice A_x n_x c_x) (.slice A_y n_y c_y)
 simpa using this
theorem make_diff {s:Bool} {A B:Option Addr} {n c m d U V k1 k2:Nat} (X:NR w A n c U k1) (Y:NR w B m d V k2) (h1:k1≤1000) (h2:k2≤1000) (hV:V ≠ 0) (k:Nat) (hk1:k1≤k) (hk2:k2≤k) :
 Calls Tryz.prog 25 #[.agg #[.bool s,.slice A n c],.agg #[.bool (!s),.slice B m d]] w (GivesQE w (Rat.divInt (iv s U) (iv (!s) V)) k):=by
 have hne:(s != (!s))=true:=by cases s <;> rfl
 have HB:Hid ((((bl V:Nat):Int) == 0)=false):=by show _=false;rw [bl_is0];exact decide_eq_false hV
 have HV:=Lib.hid hV;clear hV
 go_enter Tryz.func25,Tryz.ntmps25
 go_wp2_with fail
 generalize hW:World.alloc _ _=W
 obtain ⟨hb,XA,XB,Z,hzW⟩:=mkbx7_9 hW;clear hW;replace X:=X.below hb;replace Y:=Y.below hb;obtain ⟨xa0,xa1⟩:=XA.all;obtain ⟨xb0,xb1⟩:=XB.all;have hbl:=HB.out
 go_upto_region 4 with (first
  | (go_at_call 54;(with_reducible refine (bits_nr Y (by omega)).mono ?_);rintro e w_b ⟨rfl,rfl⟩)
  | (go_at_call 76;(with_reducible refine (lowest_nr X Y h1 h2 HV.out).mono ?_);rintro e w_l ⟨A_x,n_x,c_x,A_y,n_y,c_y,rfl,x,y,hh⟩
     clear hbl;(try replace X:=X.below hh);(try replace Y:=Y.below hh);(try replace XA:=XA.below hh);(try replace XB:=XB.below hh);(try replace Z:=Z.below hh);replace hb:=bend hb hh;obtain ⟨xa0,xa1⟩:=XA.all;obtain ⟨xb0,xb1⟩:=XB.all;obtain ⟨z0,z1,z2⟩:=Z.all))
 have zf0:=Z.f0;have zf1:=Z.f1;have zf2:=Z.f2
 go_wp2_with fail
 have Z2:=Z.set3 (.bool (decide (0 < n_x))) (.slice A_x n_x c_x) (.slice A_y n_y c_y)
 obtain ⟨g0,g1,g2⟩:=Z2.all
 refine bodyPost_ret (v:=.tuple #[.agg #[.bool (decide (0 < n_x)),.slice A_x n_x c_x,.slice A_y n_y c_y],.int .i64 0]) (by simp [results,Tryz.results25,go_sem,g0,g1,g2]) rfl ?_
 have hc:=close_q (s:=s) (t:=(!s)) HV.out x y hk1 hk2
 rw [hne] at hc
 refine ⟨_,A_x,n_x,c_x,A_y,n_y,c_y,rfl,?_,below_set3 hb (by omega) _ _ _⟩
 have:=hc.set3 Z (.bool (decide (0 < n_x))) (.slice A_x n_x c_x) (.slice A_y n_y c_y)
 simpa using this
theorem bool_not {s t:Bool} (h:¬ t=s):t=!s:=by cases s <;> cases t <;> simp_all
theorem ZR.more {s:Bool} {A:Option Addr} {n c k k1:Nat} {v:Int} (h:ZR w s A n c v k) (hk:k≤k1):ZR w s A n c v k1:=by
 obtain ⟨l,a1,a2,a3,a4,a5,a6⟩:=h
 exact ⟨l,a1,a2,a3,a4,by omega,Nat.lt_of_lt_of_le a6 (Nat.pow_le_pow_right (by decide) hk)⟩
theorem make_zr {s t:Bool} {A B:Option Addr} {n c m d k1 k2:Nat} {p q:Int} (k:Nat) (X:ZR w s A n c p k1) (Y:ZR w t B m d q k2) (h1:k1≤1000) (h2:k2≤1000) (hq:q ≠ 0) (hk1:k1≤k) (hk2:k2≤k) :
 Calls Tryz.prog 25 #[.agg #[.bool s,.slice A n c],.agg #[.bool t,.slice B m d]] w (GivesQE w (Rat.divInt p q) k):=by
 have hp:=X.uv;have hqq:=Y.uv
 by_cases ht:t=s
 · subst ht
   have:=make_same (s:=t) X.nr Y.nr h1 h2 (by omega) k hk1 hk2
   rwa [← hp,← hqq] at this
 · have ht':t=!s:=bool_not ht
   subst ht'
   have:=make_diff (s:=s) X.nr Y.nr h1 h2 (by omega) k hk1 hk2
   rwa [← hp,← hqq] at this
end
section
open Go Go.RowKit
def GivesP (w:World) (p q:Int) (k:Nat) (e:Ending) (w':World):Prop :=
 ∃ s A n c t B m d,e=.returned (.tuple #[.agg #[.bool s,.slice A n c],.agg #[.bool t,.slice B m d]])∧ZR w' s A n c p k∧ZR w' t B m d q k∧Below w.heap.size w w'
theorem two_set {w W:World} {g1 g2 n c m d k n1 c1 n2 c2:Nat} {s t a b:Bool} {A B A1 A2:Option Addr} {p q:Int} (hb:Below w.heap.size w W) (h1:w.heap.size≤g1) (h2:w.heap.size≤g2) (hne:g1 ≠ g2)
 (Z1:Bx W g1 (.bool a) (.slice A1 n1 c1)) (Z2:Bx W g2 (.bool b) (.slice A2 n2 c2)) (X:ZR W s A n c p k) (Y:ZR W t B m d q k) (x y z u:Value) :
 ZR ((((W.setCell ⟨g1,0,none⟩ x).setCell ⟨g1,1,none⟩ y).setCell ⟨g2,0,none⟩ z).setCell ⟨g2,1,none⟩ u) s A n c p k ∧
 ZR ((((W.setCell ⟨g1,0,none⟩ x).setCell ⟨g1,1,none⟩ y).setCell ⟨g2,0,none⟩ z).setCell ⟨g2,1,none⟩ u) t B m d q k ∧
 Below w.heap.size w ((((W.setCell ⟨g1,0,none⟩ x).setCell ⟨g1,1,none⟩ y).setCell ⟨g2,0,none⟩ z).setCell ⟨g2,1,none⟩ u):=by
 have Z3:=Z2.other (k:=g1) (Ne.symm hne) x y
 exact ⟨(X.set2x Z1 x y).set2x Z3 z u,(Y.set2x Z1 x y).set2x Z3 z u,(((hb.setCell h1 _).setCell h1 _).setCell h2 _).setCell h2 _⟩
theorem mkbx8_9 {w W:World} {x0 x1 x2 x3 x4 x5 x6:Value} (h:(((w.alloc (Obj.cells #[x0,x1,x2] 26)).alloc (Obj.cells #[x3,x4] 24)).alloc (Obj.cells #[x5,x6] 24))=W):Below w.heap.size w W∧B3 W (w.heap.size) x0 x1 x2∧Bx W (w.heap.size+1) x3 x4∧Bx W (w.heap.size+1+1) x5 x6∧W.heap.size=w.heap.size+3:=by subst h;exact ⟨by exact ((((Below.refl _ _).alloc (Nat.le_refl _) _).alloc (by simp) _).alloc (by simp;omega) _),by exact ((B3.new' _ _ _ _ _ rfl).alloc _).alloc _,by exact (Bx.new' _ _ _ _ (by simp)).alloc _,by exact Bx.new' _ _ _ _ (by simp),by simp⟩
theorem parts_zero {s:Bool} {A A':Option Addr} {n c n' c' k q:Nat} {p:Int} (X:ZR w s A n c p k) (Q:NR w A' n' c' q k) (hk:k≤1000) (hk1:1≤k) (hq:q=0) :
 Calls Tryz.prog 62 #[.agg #[.bool s,.slice A n c,.slice A' n' c']] w (GivesP w p 1 k):=by
 have HB:Hid ((((bl q:Nat):Int) == 0)=true):=by show _=true;rw [bl_is0,hq];rfl
 clear hq
 go_enter Tryz.func62,Tryz.ntmps62
 go_wp2_with fail
 generalize hW:World.alloc _ _=W
 obtain ⟨hb,XA,Z1,Z2,hzW⟩:=mkbx8_9 hW;clear hW;replace X:=X.below hb;replace Q:=Q.below hb;obtain ⟨xa0,xa1,xa2⟩:=XA.all;have hbl:=HB.out
 go_upto_region 2 with ((go_at_call 54;((with_reducible refine (bits_nr Q (by omega)).mono ?_);rintro e w' ⟨rfl,rfl⟩)))
 clear hbl
 replace X:=X.below (Below.refl _ _).drew
 replace XA:=XA.below (Below.refl _ _).drew
 replace Z1:=Z1.below (Below.refl _ _).drew
 replace Z2:=Z2.below (Below.refl _ _).drew
 replace hb:=hb.drew
 go_region_held3 (fun w'=>w'.cell? ⟨w.heap.size,0,none⟩=some (Value.bool s)∧w'.cell? ⟨w.heap.size,1,none⟩=some (Value.slice A n c)∧w'.cell? ⟨w.heap.size,2,none⟩=some (Value.slice A' n' c'))
  (first | with_reducible exact ⟨XA.c0,XA.c1,XA.c2⟩ | with_reducible exact ⟨(set2_cell _ _ _ _ _ _ (by omega)).trans (XA.c0),(set2_cell _ _ _ _ _ _ (by omega)).trans (XA.c1),(set2_cell _ _ _ _ _ _ (by omega)).trans (XA.c2)⟩ | with_reducible exact ⟨(set2_cell _ _ _ _ _ _ (by omega)).trans ((set2_cell _ _ _ _ _ _ (by omega)).trans (XA.c0)),(set2_cell _ _ _ _ _ _ (by omega)).trans ((set2_cell _ _ _ _ _ _ (by omega)).trans (XA.c1)),(set2_cell _ _ _ _ _ _ (by omega)).trans ((set2_cell _ _ _ _ _ _ (by omega)).trans (XA.c2))⟩)
  (first
  | (go_at_call 27;(with_reducible refine (zof_zr 1 (by decide) (by decide) _).mono ?_);rintro e w_o ⟨s_o,A_o,n_o,c_o,rfl,o,hh⟩
     (try replace X:=X.below hh);(try replace XA:=XA.below hh);(try replace Z1:=Z1.below hh);(try replace Z2:=Z2.below hh);replace hb:=bend hb hh;obtain ⟨z0,z1⟩:=Z1.all;have z2:=Z1.f0;have z3:=Z1.f1;obtain ⟨y0,y1⟩:=Z2.all;have y2:=Z2.f0;have y3:=Z2.f1
     have Z2o:=Z2.other (k:=w.heap.size+1) (by omega) (.bool s) (.slice A n c)
     obtain ⟨zo0,zo1⟩:=Z2o.all;have zo2:=Z2o.f0;have zo3:=Z2o.f1))
 replace o:=o.more (show 1≤k from hk1)
 have Y:=o
 go_wp2_with fail
 have G1:=(Z1.set2 (.bool s) (.slice A n c)).other (k:=w.heap.size+1+1) (by omega) (.bool s_o) (.slice A_o n_o c_o)
 have G2:=(Z2.other (k:=w.heap.size+1) (by omega) (.bool s) (.slice A n c)).set2 (.bool s_o) (.slice A_o n_o c_o)
 obtain ⟨g0,g1⟩:=G1.all;have g2:=G2.c0;have g3:=G2.c1
 have HT:=two_set hb (by omega) (by omega) (by omega) Z1 Z2 X Y (.bool s) (.slice A n c) (.bool s_o) (.slice A_o n_o c_o)
 refine bodyPost_ret (v:=.tuple #[.agg #[.bool s,.slice A n c],.agg #[.bool s_o,.slice A_o n_o c_o]]) (by simp [results,Tryz.results62,go_sem,g0,g1,g2,g3]) rfl ?_
 exact ⟨s,A,n,c,_,_,_,_,rfl,HT.1,HT.2.1,HT.2.2⟩
theorem parts_pos {s:Bool} {A A':Option Addr} {n c n' c' k q:Nat} {p:Int} (X:ZR w s A n c p k) (Q:NR w A' n' c' q k) (hk:k≤1000) (hq:q ≠ 0) :
 Calls Tryz.prog 62 #[.agg #[.bool s,.slice A n c,.slice A' n' c']] w (GivesP w p (q:Int) k):=by
 have HB:Hid ((((bl q:Nat):Int) == 0)=false):=by show _=false;rw [bl_is0];exact decide_eq_false hq
 clear hq
 go_enter Tryz.func62,Tryz.ntmps62
 go_wp2_with fail
 generalize hW:World.alloc _ _=W
 obtain ⟨hb,XA,Z1,Z2,hzW⟩:=mkbx8_9 hW;clear hW;replace X:=X.below hb;replace Q:=Q.below hb;obtain ⟨xa0,xa1,xa2⟩:=XA.all;have hbl:=HB.out
 go_upto_region 3 with ((go_at_call 54;((with_reducible refine (bits_nr Q (by omega)).mono ?_);rintro e w' ⟨rfl,rfl⟩)))
 clear hbl;obtain ⟨z0,z1⟩:=Z1.all;have z2:=Z1.f0;have z3:=Z1.f1;obtain ⟨y0,y1⟩:=Z2.all;have y2:=Z2.f0;have y3:=Z2.f1
 have Z2o:=Z2.other (k:=w.heap.size+1) (by omega) (.bool s) (.slice A n c)
 obtain ⟨zo0,zo1⟩:=Z2o.all;have zo2:=Z2o.f0;have zo3:=Z2o.f1
 go_region
 have Y:=ZR.ofn (s:=false) Q
 rw [show iv false q=(q:Int) from rfl] at Y
 go_wp2_with fail
 have G1:=(Z1.set2 (.bool s) (.slice A n c)).other (k:=w.heap.size+1+1) (by omega) (.bool false) (.slice A' n' c')
 have G2:=(Z2.other (k:=w.heap.size+1) (by omega) (.bool s) (.slice A n c)).set2 (.bool false) (.slice A' n' c')
 obtain ⟨g0,g1⟩:=G1.all;have g2:=G2.c0;have g3:=G2.c1
 have HT:=two_set hb (by omega) (by omega) (by omega) Z1 Z2 X Y (.bool s) (.slice A n c) (.bool false) (.slice A' n' c')
 refine bodyPost_ret (v:=.tuple #[.agg #[.bool s,.slice A n c],Value.agg #[.bool false,.slice A' n' c']]) (by simp [results,Tryz.results62,go_sem,g0,g1,g2,g3]) rfl ?_
 exact ⟨s,A,n,c,_,_,_,_,rfl,HT.1.drew,HT.2.1.drew,HT.2.2.drew⟩
theorem parts_any {s:Bool} {A A':Option Addr} {n c n' c' k q:Nat} {p:Int} (X:ZR w s A n c p k) (Q:NR w A' n' c' q k) (hk:k≤1000) (hk1:1≤k) :
 Calls Tryz.prog 62 #[.agg #[.bool s,.slice A n c,.slice A' n' c']] w (GivesP w p (den1 q:Int) k):=by
 by_cases hq:q=0
 · have h:=parts_zero X Q hk hk1 hq
   rw [hq];exact h
 · rw [den1_of hq];exact parts_pos X Q hk hq
theorem mkbx9_9 {w W:World} {x0 x1 x2:Value} (h:(w.alloc (Obj.cells #[x0,x1,x2] 26))=W):Below w.heap.size w W∧B3 W (w.heap.size) x0 x1 x2∧W.heap.size=w.heap.size+1:=by subst h;exact ⟨by exact ((Below.refl _ _).alloc (Nat.le_refl _) _),by exact B3.new' _ _ _ _ _ rfl,by simp⟩
theorem by_zr {s t:Bool} {A B:Option Addr} {n c m d k1 k2:Nat} {p q:Int} (k:Nat) (X:ZR w s A n c p k1) (Y:ZR w t B m d q k2) (h1:k1≤1000) (h2:k2≤1000) (hq:q ≠ 0) (hk1:k1≤k) (hk2:k2≤k) :
 Calls Tryz.prog 61 #[.agg #[.bool s,.slice A n c],.agg #[.bool t,.slice B m d]] w (GivesQ w (Rat.divInt p q) k):=by
 have HQ:=Lib.hid hq;clear hq
 go_enter Tryz.func61,Tryz.ntmps61
 go_wp2_with fail
 generalize hW:World.alloc _ _=W
 obtain ⟨hb,XA,XB,Z,hzW⟩:=mkbx7_9 hW;clear hW;replace X:=X.below hb;replace Y:=Y.below hb;obtain ⟨xa0,xa1⟩:=XA.all;obtain ⟨xb0,xb1⟩:=XB.all
 go_upto_region 2 with (first
  | (go_at_call 25;(with_reducible refine (make_zr k X Y h1 h2 HQ.out hk1 hk2).mono ?_);rintro e w_r ⟨s_r,A_r,n_r,c_r,B_r,m_r,d_r,rfl,r,hh⟩
     (try replace XA:=XA.below hh);(try replace XB:=XB.below hh);(try replace Z:=Z.below hh);replace hb:=bend hb hh))
 generalize hW:World.alloc _ _=W2
 obtain ⟨hh,R,hzW2⟩:=mkbx9_9 hW;clear hW;(try replace r:=r.below hh);(try replace Z:=Z.below hh);replace hb:=bend hb hh;obtain ⟨r0,r1,r2⟩:=R.all;have zf0:=Z.f0;have zf1:=Z.f1;have zf2:=Z.f2;obtain ⟨z0,z1,z2⟩:=Z.all
 go_wp2_with fail
 have Z2:=Z.set3 (.bool s_r) (.slice A_r n_r c_r) (.slice B_r m_r d_r)
 obtain ⟨g0,g1,g2⟩:=Z2.all
 refine bodyPost_ret (v:=.agg #[.bool s_r,.slice A_r n_r c_r,.slice B_r m_r d_r]) (by simp [results,Tryz.results61,go_sem,g0,g1,g2]) rfl ?_
 exact ⟨s_r,A_r,n_r,c_r,B_r,m_r,d_r,rfl,r.set3 Z _ _ _,below_set3 hb (by omega) _ _ _⟩
end
section
open Go Go.RowKit
theorem den1_i (q:Nat):(den1 q:Int) ≠ 0:=by have:=den1_ne q;omega
theorem mkbx10_9 {w W:World} {x0 x1 x2 x3 x4:Value} (h:((w.alloc (Obj.cells #[x0,x1,x2] 26)).alloc (Obj.cells #[x3,x4] 24))=W):Below w.heap.size w W∧B3 W (w.heap.size) x0 x1 x2∧Bx W (w.heap.size+1) x3 x4∧W.heap.size=w.heap.size+2:=by subst h;exact ⟨by exact (((Below.refl _ _).alloc (Nat.le_refl _) _).alloc (by simp) _),by exact (B3.new' _ _ _ _ _ rfl).alloc _,by exact Bx.new' _ _ _ _ (by simp),by simp⟩
theorem rfloor_q {s:Bool} {A A':Option Addr} {n c n' c' k:Nat} {v:Rat} (X0:QR w s A n c A' n' c' v k) (hk:k≤900) (hk1:1≤k) :
 Calls Tryz.prog 49 #[.agg #[.bool s,.slice A n c,.slice A' n' c']] w (GivesZG w v.floor (k+1)):=by
 obtain ⟨p,q,X,Q,rfl⟩:=X0
 have HE:Hid (p.fdiv (den1 q:Int)=(mkRat p (den1 q)).floor):=(mk_floor (den1_ne q)).symm
 go_enter Tryz.func49,Tryz.ntmps49
 go_wp2_with fail
 generalize hW:World.alloc _ _=W
 obtain ⟨hb,XA,Z,hzW⟩:=mkbx10_9 hW;clear hW;replace X:=X.below hb;replace Q:=Q.below hb;obtain ⟨xa0,xa1,xa2⟩:=XA.all
 go_upto_region 2 with (first
  | (go_at_call 62;(with_reducible refine (parts_any X Q (by omega) hk1).mono ?_);rintro e w_p ⟨s_x,A_x,n_x,c_x,s_y,A_y,n_y,c_y,rfl,x,y,hh⟩
     (try replace X:=X.below hh);(try replace Q:=Q.below hh);(try replace q1:=q1.below hh);(try replace r1:=r1.below hh);(try replace XA:=XA.below hh);(try replace Z:=Z.below hh);(try replace XP:=XP.below hh);(try replace XQ:=XQ.below hh);replace hb:=bend hb hh))
 have hp1:=Z.lt
 generalize hW:World.alloc _ _=W2
 obtain ⟨hh,XP,XQ,hzW2⟩:=mkbx5_9 hW;clear hW;(try replace x:=x.below hh);(try replace y:=y.below hh);(try replace Z:=Z.below hh);replace hb:=bend hb hh;obtain ⟨xp0,xp1⟩:=XP.all;obtain ⟨xq0,xq1⟩:=XQ.all
 go_upto_region 3 with (first
  | (go_at_call 110;(with_reducible refine (zdm_zg (k+1) x y (den1_i q) hk1 (by omega) (by omega) (by omega)).mono ?_);rintro e w_q ⟨s_a,A_a,n_a,c_a,s_b,A_b,n_b,c_b,rfl,q1,r1,hh⟩
     rw [HE.out] at q1;(try replace X:=X.below hh);(try replace Q:=Q.below hh);(try replace x:=x.below hh);(try replace y:=y.below hh);(try replace XA:=XA.below hh);(try replace Z:=Z.below hh);(try replace XP:=XP.below hh);(try replace XQ:=XQ.below hh);replace hb:=bend hb hh))
 generalize hW:World.alloc _ _=W3
 obtain ⟨hh,XC,XD,hzW3⟩:=mkbx5_9 hW;clear hW;(try replace q1:=q1.below hh);(try replace Z:=Z.below hh);replace hb:=bend hb hh;obtain ⟨xc0,xc1⟩:=XC.all;obtain ⟨z0,z1⟩:=Z.all;have z2:=Z.f0;have z3:=Z.f1
 go_wp2_with fail
 have Z2:=Z.set2 (.bool s_a) (.slice A_a n_a c_a)
 obtain ⟨g0,g1⟩:=Z2.all
 refine bodyPost_ret (v:=.agg #[.bool s_a,.slice A_a n_a c_a]) (by simp [results,Tryz.results49,go_sem,g0,g1]) rfl ?_
 exact ⟨s_a,A_a,n_a,c_a,rfl,q1.set2x Z _ _,below_set2 hb (by omega) _ _⟩
theorem cmpQ_signs {s t:Bool} {a b:Nat} {q q2:Nat} (hq:q ≠ 0) (hq2:q2 ≠ 0) (h:¬ s=t):cmpZ (iv s a) (iv t b)=cmpQ (mkRat (iv s a) q) (mkRat (iv t b) q2):=by
 rw [cmpQ_mk hq hq2]
 have h1:(0:Int) < q:=by omega
 have h2:(0:Int) < q2:=by omega
 cases s <;> cases t <;> simp at h
 · have e1:iv false a=(a:Int):=rfl
   have e2:iv true b=-(b:Int):=rfl
   rw [e1,e2]
   have e3:(0:Int)≤a*q2:=Int.mul_nonneg (by omega) (by omega)
   have e4:(0:Int)≤b*q:=Int.mul_nonneg (by omega) (by omega)
   have e5:(a:Int)*q2=0 ↔ (a:Int)=0:=by rw [Int.mul_eq_zero];omega
   have e6:(b:Int)*q=0 ↔ (b:Int)=0:=by rw [Int.mul_eq_zero];omega
   rw [Int.neg_mul]
   unfold cmpZ
   by_cases ha:(a:Int)=0 <;> by_cases hb:(b:Int)=0 <;> (repeat' split) <;> omega
 · have e1:iv true a=-(a:Int):=rfl
   have e2:iv false b=(b:Int):=rfl
   rw [e1,e2]
   have e3:(0:Int)≤a*q2:=Int.mul_nonneg (by omega) (by omega)
   have e4:(0:Int)≤b*q:=Int.mul_nonneg (by omega) (by omega)
   have e5:(a:Int)*q2=0 ↔ (a:Int)=0:=by rw [Int.mul_eq_zero];omega
   have e6:(b:Int)*q=0 ↔ (b:Int)=0:=by rw [Int.mul_eq_zero];omega
   rw [Int.neg_mul]
   unfold cmpZ
   by_cases ha:(a:Int)=0 <;> by_cases hb:(b:Int)=0 <;> (repeat' split) <;> omega
theorem cmpZ_zero {a b:Int} (h:cmpZ a b=0):a=b:=by
 unfold cmpZ at h
 (repeat' split at h) <;> omega
end
section
open Go Go.RowKit
theorem mkbx11_9 {w W:World} {x0 x1 x2 x3 x4 x5:Value} (h:((w.alloc (Obj.cells #[x0,x1,x2] 26)).alloc (Obj.cells #[x3,x4,x5] 26))=W):Below w.heap.size w W∧B3 W (w.heap.size) x0 x1 x2∧B3 W (w.heap.size+1) x3 x4 x5∧W.heap.size=w.heap.size+2:=by subst h;exact ⟨by exact (((Below.refl _ _).alloc (Nat.le_refl _) _).alloc (by simp) _),by exact (B3.new' _ _ _ _ _ rfl).alloc _,by exact B3.new' _ _ _ _ _ (by simp),by simp⟩
theorem rcmp_q {s t:Bool} {A A' B B':Option Addr} {n c n' c' m d m' d' k k2:Nat} {v0 u0:Rat} (X0:QR w s A n c A' n' c' v0 k) (Y0:QR w t B m d B' m' d' u0 k2) (hk:k≤400) (hkb:k2≤400) (h40:k≤400 ∨ k2≤400) (hk1:1≤k) (hk3:1≤k2) :
 Calls Tryz.prog 45 #[.agg #[.bool s,.slice A n c,.slice A' n' c'],.agg #[.bool t,.slice B m d,.slice B' m' d']] w fun e w'=>e=.returned (.int .i64 (cmpQ v0 u0))∧Below w.heap.size w w':=by
 obtain ⟨p,q,X,Q,rfl⟩:=X0
 obtain ⟨p2,q2,Y,R,rfl⟩:=Y0
 go_enter Tryz.func45,Tryz.ntmps45
 go_wp2_with fail
 generalize hW:World.alloc _ _=W
 obtain ⟨hb,XA,XB,hzW⟩:=mkbx11_9 hW;clear hW;replace X:=X.below hb;replace Q:=Q.below hb;replace Y:=Y.below hb;replace R:=R.below hb;obtain ⟨xa0,xa1,xa2⟩:=XA.all;obtain ⟨xb0,xb1,xb2⟩:=XB.all
 go_upto_region 2 with (first
  | (go_at_call 62;(with_reducible refine (parts_any X Q (by omega) hk1).mono ?_);rintro e w_p ⟨s_x,A_x,n_x,c_x,s_y,A_y,n_y,c_y,rfl,x,y,hh⟩
     (try replace X:=X.below hh);(try replace Q:=Q.below hh);(try replace Y:=Y.below hh);(try replace R:=R.below hh);(try replace u:=u.below hh);(try replace v:=v.below hh);(try replace m1:=m1.below hh);(try replace m2:=m2.below hh);(try replace m3:=m3.below hh);(try replace XA:=XA.below hh);(try replace XB:=XB.below hh);(try replace Z:=Z.below hh);(try replace Z1:=Z1.below hh);(try replace Z2:=Z2.below hh);(try replace Z3:=Z3.below hh);(try replace XP:=XP.below hh);(try replace XQ:=XQ.below hh);(try replace XU:=XU.below hh);(try replace XV:=XV.below hh);replace hb:=bend hb hh))
 have hp1:=XB.lt
 generalize hW:World.alloc _ _=W2
 obtain ⟨hh,XP,XQ,hzW2⟩:=mkbx5_9 hW;clear hW;(try replace X:=X.below hh);(try replace Q:=Q.below hh);(try replace Y:=Y.below hh);(try replace R:=R.below hh);(try replace x:=x.below hh);(try replace y:=y.below hh);(try replace XA:=XA.below hh);(try replace XB:=XB.below hh);replace hb:=bend hb hh;obtain ⟨xb0,xb1,xb2⟩:=XB.all
 go_upto_region 3 with (first
  | (go_at_call 62;(with_reducible refine (parts_any Y R (by omega) hk3).mono ?_);rintro e w_u ⟨s_u,A_u,n_u,c_u,s_v,A_v,n_v,c_v,rfl,u,v,hh⟩
     (try replace X:=X.below hh);(try replace Q:=Q.below hh);(try replace Y:=Y.below hh);(try replace R:=R.below hh);(try replace x:=x.below hh);(try replace y:=y.below hh);(try replace m1:=m1.below hh);(try replace m2:=m2.below hh);(try replace m3:=m3.below hh);(try replace XA:=XA.below hh);(try replace XB:=XB.below hh);(try replace Z:=Z.below hh);(try replace Z1:=Z1.below hh);(try replace Z2:=Z2.below hh);(try replace Z3:=Z3.below hh);(try replace XP:=XP.below hh);(try replace XQ:=XQ.below hh);(try replace XU:=XU.below hh);(try replace XV:=XV.below hh);replace hb:=bend hb hh))
 have hu1:=XQ.lt
 generalize hW:World.alloc _ _=W3
 obtain ⟨hh,XU,XV,hzW3⟩:=mkbx5_9 hW;clear hW;(try replace x:=x.below hh);(try replace y:=y.below hh);(try replace u:=u.below hh);(try replace v:=v.below hh);(try replace XP:=XP.below hh);(try replace XQ:=XQ.below hh);replace hb:=bend hb hh;obtain ⟨xp0,xp1⟩:=XP.all;obtain ⟨xq0,xq1⟩:=XQ.all;obtain ⟨xu0,xu1⟩:=XU.all;obtain ⟨xv0,xv1⟩:=XV.all
 by_cases hst:s_u=s_x
 · have hst2:=hst.symm
   clear hst
   subst hst2
   by_cases heq:den1 q=den1 q2
   · have HE:Hid (cmpZ p p2=cmpQ (mkRat p (den1 q)) (mkRat p2 (den1 q2))):=by show _=_;rw [← heq];exact (cmpQ_same (den1_ne q)).symm
     have HC:Hid (cmpZ (den1 q:Int) (den1 q2:Int)=0):=by show _=_;rw [heq];exact cmpZ_self _
     have hne:(s_x != s_x)=false:=by cases s_x <;> rfl
     clear heq
     go_wp2_with (first
     | (go_at_call 106;(with_reducible refine (zcmp_zr y v (by omega)).mono ?_);rintro e w_z ⟨rfl,hh⟩
        rw [HC.out];(try replace X:=X.below hh);(try replace Q:=Q.below hh);(try replace Y:=Y.below hh);(try replace R:=R.below hh);(try replace x:=x.below hh);(try replace y:=y.below hh);(try replace u:=u.below hh);(try replace v:=v.below hh);(try replace m1:=m1.below hh);(try replace m2:=m2.below hh);(try replace m3:=m3.below hh);(try replace XA:=XA.below hh);(try replace XB:=XB.below hh);(try replace Z:=Z.below hh);(try replace Z1:=Z1.below hh);(try replace Z2:=Z2.below hh);(try replace Z3:=Z3.below hh);(try replace XP:=XP.below hh);(try replace XQ:=XQ.below hh);(try replace XU:=XU.below hh);(try replace XV:=XV.below hh);replace hb:=bend hb hh;obtain ⟨xp0,xp1⟩:=XP.all;obtain ⟨xq0,xq1⟩:=XQ.all;obtain ⟨xu0,xu1⟩:=XU.all;obtain ⟨xv0,xv1⟩:=XV.all)
     | (go_at_call 106;(with_reducible refine (zcmp_zr x u (by omega)).mono ?_);rintro e w_z ⟨rfl,hh⟩
        rw [HE.out];(try replace X:=X.below hh);(try replace Q:=Q.below hh);(try replace Y:=Y.below hh);(try replace R:=R.below hh);(try replace x:=x.below hh);(try replace y:=y.below hh);(try replace u:=u.below hh);(try replace v:=v.below hh);(try replace m1:=m1.below hh);(try replace m2:=m2.below hh);(try replace m3:=m3.below hh);(try replace XA:=XA.below hh);(try replace XB:=XB.below hh);(try replace Z:=Z.below hh);(try replace Z1:=Z1.below hh);(try replace Z2:=Z2.below hh);(try replace Z3:=Z3.below hh);(try replace XP:=XP.below hh);(try replace XQ:=XQ.below hh);(try replace XU:=XU.below hh);(try replace XV:=XV.below hh);replace hb:=bend hb hh;obtain ⟨xp0,xp1⟩:=XP.all;obtain ⟨xq0,xq1⟩:=XQ.all;obtain ⟨xu0,xu1⟩:=XU.all;obtain ⟨xv0,xv1⟩:=XV.all))
     go_ret;exact ⟨rfl,hb⟩
   · have HE:Hid (cmpZ (p*(den1 q2:Int)) (p2*(den1 q:Int))=cmpQ (mkRat p (den1 q)) (mkRat p2 (den1 q2))):=(cmpQ_mk (den1_ne q) (den1_ne q2)).symm
     obtain ⟨K,hK,hK0⟩:∃ K,cmpZ (den1 q:Int) (den1 q2:Int)=K∧((K:Int) == 0)=false:=⟨_,rfl,by
      rw [beq_eq_false_iff_ne];intro h;exact heq (by have:=cmpZ_zero h;omega)⟩
     have HC:=Lib.hid hK
     have hne:(s_x != s_x)=false:=by cases s_x <;> rfl
     clear heq hK
     go_upto_region 5 with (first
     | (go_at_call 106;(with_reducible refine (zcmp_zr y v (by omega)).mono ?_);rintro e w_z ⟨rfl,hh⟩
        rw [HC.out];(try replace X:=X.below hh);(try replace Q:=Q.below hh);(try replace Y:=Y.below hh);(try replace R:=R.below hh);(try replace x:=x.below hh);(try replace y:=y.below hh);(try replace u:=u.below hh);(try replace v:=v.below hh);(try replace m1:=m1.below hh);(try replace m2:=m2.below hh);(try replace m3:=m3.below hh);(try replace XA:=XA.below hh);(try replace XB:=XB.below hh);(try replace Z:=Z.below hh);(try replace Z1:=Z1.below hh);(try replace Z2:=Z2.below hh);(try replace Z3:=Z3.below hh);(try replace XP:=XP.below hh);(try replace XQ:=XQ.below hh);(try replace XU:=XU.below hh);(try replace XV:=XV.below hh);replace hb:=bend hb hh;obtain ⟨xp0,xp1⟩:=XP.all;obtain ⟨xq0,xq1⟩:=XQ.all;obtain ⟨xu0,xu1⟩:=XU.all;obtain ⟨xv0,xv1⟩:=XV.all))
     replace x:=x.below (Below.refl _ _).drew
     replace y:=y.below (Below.refl _ _).drew
     replace u:=u.below (Below.refl _ _).drew
     replace v:=v.below (Below.refl _ _).drew
     replace XP:=XP.below (Below.refl _ _).drew
     replace XQ:=XQ.below (Below.refl _ _).drew
     replace XU:=XU.below (Below.refl _ _).drew
     replace XV:=XV.below (Below.refl _ _).drew
     replace hb:=hb.drew
     go_region_held3 (fun w'=>w'.cell? ⟨w_p.heap.size,0,none⟩=some (.bool s_x)∧w'.cell? ⟨w_p.heap.size,1,none⟩=some (.slice A_x n_x c_x)∧w'.cell? ⟨w_p.heap.size+1,0,none⟩=some (.bool s_y)∧w'.cell? ⟨w_p.heap.size+1,1,none⟩=some (.slice A_y n_y c_y)∧w'.cell? ⟨w_u.heap.size,0,none⟩=some (.bool s_x)∧w'.cell? ⟨w_u.heap.size,1,none⟩=some (.slice A_u n_u c_u)∧w'.cell? ⟨w_u.heap.size+1,0,none⟩=some (.bool s_v)∧w'.cell? ⟨w_u.heap.size+1,1,none⟩=some (.slice A_v n_v c_v))
      (first | with_reducible exact ⟨XP.c0,XP.c1,XQ.c0,XQ.c1,XU.c0,XU.c1,XV.c0,XV.c1⟩)
      (first
      | (go_at_call 26;(with_reducible refine (zmul_zr (k+k2) x v (by omega) (by omega) (by omega)).mono ?_);rintro e w_m1 ⟨s_m1,A_m1,n_m1,c_m1,rfl,m1,hh⟩
         (try replace X:=X.below hh);(try replace Q:=Q.below hh);(try replace Y:=Y.below hh);(try replace R:=R.below hh);(try replace x:=x.below hh);(try replace y:=y.below hh);(try replace u:=u.below hh);(try replace v:=v.below hh);(try replace m2:=m2.below hh);(try replace m3:=m3.below hh);(try replace XA:=XA.below hh);(try replace XB:=XB.below hh);(try replace Z:=Z.below hh);(try replace Z1:=Z1.below hh);(try replace Z2:=Z2.below hh);(try replace Z3:=Z3.below hh);(try replace XP:=XP.below hh);(try replace XQ:=XQ.below hh);(try replace XU:=XU.below hh);(try replace XV:=XV.below hh);replace hb:=bend hb hh)
      | (go_at_call 26;(with_reducible refine (zmul_zr (k+k2) u y (by omega) (by omega) (by omega)).mono ?_);rintro e w_m2 ⟨s_m2,A_m2,n_m2,c_m2,rfl,m2,hh⟩
         (try replace X:=X.below hh);(try replace Q:=Q.below hh);(try replace Y:=Y.below hh);(try replace R:=R.below hh);(try replace x:=x.below hh);(try replace y:=y.below hh);(try replace u:=u.below hh);(try replace v:=v.below hh);(try replace m1:=m1.below hh);(try replace m3:=m3.below hh);(try replace XA:=XA.below hh);(try replace XB:=XB.below hh);(try replace Z:=Z.below hh);(try replace Z1:=Z1.below hh);(try replace Z2:=Z2.below hh);(try replace Z3:=Z3.below hh);(try replace XP:=XP.below hh);(try replace XQ:=XQ.below hh);(try replace XU:=XU.below hh);(try replace XV:=XV.below hh);replace hb:=bend hb hh)
      | (go_at_call 106;(with_reducible refine (zcmp_zr m1 m2 (by omega)).mono ?_);rintro e w_z ⟨rfl,hh⟩
         rw [HE.out];(try replace X:=X.below hh);(try replace Q:=Q.below hh);(try replace Y:=Y.below hh);(try replace R:=R.below hh);(try replace x:=x.below hh);(try replace y:=y.below hh);(try replace u:=u.below hh);(try replace v:=v.below hh);(try replace m1:=m1.below hh);(try replace m2:=m2.below hh);(try replace m3:=m3.below hh);(try replace XA:=XA.below hh);(try replace XB:=XB.below hh);(try replace Z:=Z.below hh);(try replace Z1:=Z1.below hh);(try replace Z2:=Z2.below hh);(try replace Z3:=Z3.below hh);(try replace XP:=XP.below hh);(try replace XQ:=XQ.below hh);(try replace XU:=XU.below hh);(try replace XV:=XV.below hh);replace hb:=bend hb hh))
     go_wp2_with fail
     go_ret;exact ⟨rfl,hb⟩
 · have HE : Hid (cmpZ p p2 = cmpQ (mkRat p (den1 q)) (mkRat p2 (den1 q2))) := by
     have:=cmpQ_signs (a:=p.natAbs) (b:=p2.natAbs) (den1_ne q) (den1_ne q2) (fun h=>hst h.symm)
     rw [← x.uv,← u.uv] at this
     exact this
   have hs:=bool_not hst;clear hst
   subst hs
   have hne:(s_x != (!s_x))=true:=by cases s_x <;> rfl
   go_wp2_with (first
    | (go_at_call 106;(with_reducible refine (zcmp_zr x u (by omega)).mono ?_);rintro e w_z ⟨rfl,hh⟩
       rw [HE.out];(try replace X:=X.below hh);(try replace Q:=Q.below hh);(try replace Y:=Y.below hh);(try replace R:=R.below hh);(try replace x:=x.below hh);(try replace y:=y.below hh);(try replace u:=u.below hh);(try replace v:=v.below hh);(try replace m1:=m1.below hh);(try replace m2:=m2.below hh);(try replace m3:=m3.below hh);(try replace XA:=XA.below hh);(try replace XB:=XB.below hh);(try replace Z:=Z.below hh);(try replace Z1:=Z1.below hh);(try replace Z2:=Z2.below hh);(try replace Z3:=Z3.below hh);(try replace XP:=XP.below hh);(try replace XQ:=XQ.below hh);(try replace XU:=XU.below hh);(try replace XV:=XV.below hh);replace hb:=bend hb hh;obtain ⟨xp0,xp1⟩:=XP.all;obtain ⟨xq0,xq1⟩:=XQ.all;obtain ⟨xu0,xu1⟩:=XU.all;obtain ⟨xv0,xv1⟩:=XV.all))
   go_ret;exact ⟨rfl,hb⟩
end
end Go.Proofs.YtmgklaklnaihpaaGreat
