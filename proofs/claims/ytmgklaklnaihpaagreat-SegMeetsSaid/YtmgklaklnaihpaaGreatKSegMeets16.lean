/- SegMeets: part 16. -/
import Derived.Deep.LoopGhost
import Derived.WalkMore
import Derived.Test.YtmgklaklnaihpaaGreatKSegMeets15
set_option linter.unusedVariables false
set_option maxRecDepth 100000
set_option maxHeartbeats 16000000
variable {w:Go.World}
variable {s_p t_p:Bool} {A_p B_p E_p F_p:Option Go.Addr} {n_p c_p m_p d_p i_p e_p j_p f_p:Nat}
variable {s_q t_q:Bool} {A_q B_q E_q F_q:Option Go.Addr} {n_q c_q m_q d_q i_q e_q j_q f_q:Nat}
variable {s_r t_r:Bool} {A_r B_r E_r F_r:Option Go.Addr} {n_r c_r m_r d_r i_r e_r j_r f_r:Nat}
variable {s_u t_u:Bool} {A_u B_u E_u F_u:Option Go.Addr} {n_u c_u m_u d_u i_u e_u j_u f_u:Nat}
namespace Go.Proofs.YtmgklaklnaihpaaGreat
open Go Go.RowKit
section
variable {w w':World} {s t:Bool} {A B E F:Option Addr} {n c m d i e j f k:Nat} {x y:Rat}
theorem PR.box {T:TypeId} {g:Nat} {cs:Array Value} (h:PR w s A n c B m d t E i e F j f x y k) (Z:BoxAt T w g cs) (ho:Only g w w'):PR w' s A n c B m d t E i e F j f x y k:=⟨h.1.box Z ho,h.2.box Z ho⟩
theorem B6.rest {g k:Nat} {x y z u v t:Value} (h:B6 w g x y z u v t) (hne:g ≠ k) (ho:Only k w w'):B6 w' g x y z u v t:=(ho.block g h.lt hne).trans h
end
theorem only6 (w:World) (g:Nat) (a b c d e f:Value):Only g w ((((((w.setCell ⟨g,0,none⟩ a).setCell ⟨g,1,none⟩ b).setCell ⟨g,2,none⟩ c).setCell ⟨g,3,none⟩ d).setCell ⟨g,4,none⟩ e).setCell ⟨g,5,none⟩ f) :=
 (((((((Only.refl g w).setCell 0 a).setCell 1 b).setCell 2 c).setCell 3 d).setCell 4 e).setCell 5 f)
theorem box_of {g:Nat} {s t:Bool} {A B E F:Option Addr} {n c m d i e j f:Nat} (h:B6 w g (.bool s) (.slice A n c) (.slice B m d) (.bool t) (.slice E i e) (.slice F j f)):BoxAt 56 w g #[.bool s,.slice A n c,.slice B m d,.bool t,.slice E i e,.slice F j f]:=⟨h,free6 _ _ _ _ _ _ _ _ _ _ _ _ _ _⟩
theorem Ln.of {T:TypeId} {base g n c:Nat} {L:List PV} (h:Ln T base w (.slice (some ⟨g,0,none⟩) n c) L) {i:Nat} {p:PV} (hi:L[i]?=some p):i < n∧g < w.heap.size ∧
 w.cell? ⟨g,i*6,none⟩=some (.bool p.s)∧w.cell? ⟨g,i*6+1,none⟩=some (.slice p.A p.n p.c)∧w.cell? ⟨g,i*6+2,none⟩=some (.slice p.B p.m p.d) ∧
 w.cell? ⟨g,i*6+3,none⟩=some (.bool p.t)∧w.cell? ⟨g,i*6+4,none⟩=some (.slice p.E p.i p.e)∧w.cell? ⟨g,i*6+5,none⟩=some (.slice p.F p.j p.f):=by
 obtain ⟨g',c',hv,h1,_,h2,h3⟩:=h.at_ hi
 have e:g'=g∧n=L.length:=by
  simp only [Value.slice.injEq,Option.some.injEq,Addr.mk.injEq] at hv
  exact ⟨hv.1.1.symm,hv.2.1⟩
 obtain ⟨rfl,hn⟩:=e
 exact ⟨hn ▸ h1,h2,h3⟩
theorem wp_append_at {P:Program} {o:Oper} {a:Act} {K:Act→World→Prop} {Q:Exit→Act→World→Prop} {w w':World} {t:TypeId} (s x:Operand) {v u v':Value} (ho:o.op=.call ⟨.builtin .append,#[s,x],#[t,t]⟩) (hs:a.eval s=v) (hx:a.eval x=u)
 (hr:(Builtin.append_ #[t,t] o.type #[v,u]).run P w=.ok v' w') (hK:K (a.put o.dst v') w'):o.wp P a w K Q:=by
 unfold Oper.wp execOp
 simp only [ho,resolve,invoke,builtin,Sem.run_bind,Sem.run_pure,Result.andThen_ok,List.map_toArray,List.map_cons,List.map_nil,hs,hx,hr]
 exact hK
theorem wpList_push {ops:Array Oper} {rest:List Oper} {o:Oper} {a:Act} {Q:Exit→Act→World→Prop} {T tS:TypeId} (ht:Tryz.prog.underlying tS=some (.slice T)) (hinfo:(Tryz.prog.info? T).map (fun i=>(i.zero,i.size,i.bytes))=some (some zpt,6,112))
 (hgd:o.guard=none) (s x:Operand) (ho:o.op=.call ⟨.builtin .append,#[s,x],#[tS,tS]⟩) {base b:Nat} {v:Value} {L:List PV} {p:PV} {k0:Nat} (hs:a.eval s=v) (hx:a.eval x=.slice (some ⟨b,0,none⟩) 1 k0)
 (h:Ln T base w v L) (hbase:base≤w.heap.size) (hL:L.length≤1000000) (hb:w.heap[b]?=some (.cells p.cells.toArray T (0,0)))
 (hK:∀ v' w',Ln T base w' v' (L ++ [p])→w.grownBy w' v.ownBlock→wpList Tryz.prog ops Q rest (a.put o.dst v') w'):wpList Tryz.prog ops Q (o :: rest) a w :=
 wpList_plain hgd fun K hK2=>by
  obtain ⟨v',w',hr,h2,h3⟩:=run_push (ty:=o.type) (k0:=k0) ht hinfo h hbase hL hb
  exact wp_append_at s x ho hs hx hr (hK2 _ _ (hK v' w' h2 h3))
noncomputable def picks (K:Rat × Rat→Prop) (V:List (Rat × Rat)) (m:Nat):List (Rat × Rat):=(V.take m).foldl (pick K) []
theorem picks_succ {K:Rat × Rat→Prop} {V:List (Rat × Rat)} {m:Nat} {v:Rat × Rat} (h:V[m]?=some v):picks K V (m+1)=pick K (picks K V m) v:=by
 unfold picks
 obtain ⟨hm,hv⟩:=List.getElem?_eq_some_iff.1 h
 rw [List.take_succ_eq_append_getElem hm,List.foldl_append,hv];rfl
def Each (G:World→PV→Rat × Rat→Nat→Prop) (w:World) (L:List PV) (l:List (Rat × Rat)) (k:Nat):Prop :=
 L.length=l.length∧∀ (i:Nat) (p:PV) (u:Rat × Rat),L[i]?=some p→l[i]?=some u→G w p u k
theorem Each.nil {G:World→PV→Rat × Rat→Nat→Prop} {k:Nat}:Each G w [] [] k:=⟨rfl,fun i p u h=>by cases h⟩
theorem Each.push {G:World→PV→Rat × Rat→Nat→Prop} {w w':World} {L:List PV} {l:List (Rat × Rat)} {k:Nat} {p:PV} {u:Rat × Rat} (h:Each G w L l k) (hw:∀ p u,G w p u k→G w' p u k) (hp:G w' p u k):Each G w' (L ++ [p]) (l ++ [u]) k:=by
 refine ⟨by rw [List.length_append,List.length_append,h.1];rfl,fun i q v hq hv=>?_⟩
 rcases Nat.lt_or_ge i L.length with hi | hi
 · rw [List.getElem?_append_left hi] at hq
   rw [List.getElem?_append_left (by rw [← h.1];exact hi)] at hv
   exact hw _ _ (h.2 i q v hq hv)
 · rw [List.getElem?_append_right hi] at hq
   rw [List.getElem?_append_right (by rw [← h.1];exact hi)] at hv
   have:i - L.length=0:=by
    have:=(List.getElem?_eq_some_iff.1 hq).1
    simp at this;omega
   rw [this] at hq
   rw [show i - l.length=0 by rw [← h.1];exact this] at hv
   obtain rfl:p=q:=by simpa using hq
   obtain rfl:u=v:=by simpa using hv
   exact hp
theorem Each.imp {G:World→PV→Rat × Rat→Nat→Prop} {w w':World} {L:List PV} {l:List (Rat × Rat)} {k:Nat} (h:Each G w L l k) (hw:∀ p u,G w p u k→G w' p u k):Each G w' L l k:=⟨h.1,fun i p u hp hu=>hw _ _ (h.2 i p u hp hu)⟩
theorem Each.at_ {G:World→PV→Rat × Rat→Nat→Prop} {L:List PV} {l:List (Rat × Rat)} {k:Nat} (h:Each G w L l k) {i:Nat} (hi:i < L.length):∃ p u,L[i]?=some p∧l[i]?=some u∧G w p u k :=
 ⟨_,_,List.getElem?_eq_getElem hi,List.getElem?_eq_getElem (by rw [← h.1];exact hi),h.2 i _ _ (List.getElem?_eq_getElem hi) (List.getElem?_eq_getElem (by rw [← h.1];exact hi))⟩
theorem Each.below {w w':World} {L:List PV} {l:List (Rat × Rat)} {k:Nat} (h:Each PV.PG w L l k) (hb:Below w.heap.size w w'):Each PV.PG w' L l k:=h.imp fun _ _ hp=>PG.below hp hb
theorem Each.stays {T:TypeId} {base:Nat} {w w':World} {v:Value} {M L:List PV} {l:List (Rat × Rat)} {k:Nat} (h:Each PV.PG w L l k) (hn:Ln T base w v M) (hg:w.grownBy w' v.ownBlock):∀ p u,PV.PG w p u k→PV.PG w' p u k:=fun p u hp=>by
 rcases hn.stays hg with q | ⟨g,cs,hB,_,ho⟩
 · exact PG.below hp q
 · exact PG.box hp hB ho
theorem Ln.under {T:TypeId} {base:Nat} {w0 w w':World} {v:Value} {M:List PV} (hn:Ln T base w v M) (hg:w.grownBy w' v.ownBlock) (hb:Below w0.heap.size w0 w) (hb0:w0.heap.size≤base):Below w0.heap.size w0 w':=by
 rcases hn.stays hg with q | ⟨g,cs,hB,hg2,ho⟩
 · exact bend hb q
 · exact Below.only hb (Nat.le_trans hb0 hg2) hb.size ho
theorem on_yes {k:Nat} {px py ax ay bx by_:Rat} (p:PR w s_p A_p n_p c_p B_p m_p d_p t_p E_p i_p e_p F_p j_p f_p px py k) (q:PR w s_q A_q n_q c_q B_q m_q d_q t_q E_q i_q e_q F_q j_q f_q ax ay k) (r:PR w s_r A_r n_r c_r B_r m_r d_r t_r E_r i_r e_r F_r j_r f_r bx by_ k) (hk:k≤40) (h1:1≤k) (h:onS px py ax ay bx by_) :
 Calls Tryz.prog 36 #[.agg #[.bool s_p,.slice A_p n_p c_p,.slice B_p m_p d_p,.bool t_p,.slice E_p i_p e_p,.slice F_p j_p f_p],.agg #[.bool s_q,.slice A_q n_q c_q,.slice B_q m_q d_q,.bool t_q,.slice E_q i_q e_q,.slice F_q j_q f_q],.agg #[.bool s_r,.slice A_r n_r c_r,.slice B_r m_r d_r,.bool t_r,.slice E_r i_r e_r,.slice F_r j_r f_r]] w fun e w'=>e=.returned (.bool true)∧Below w.heap.size w w':=on_p p q r hk h1 true ⟨fun _=>h,fun _=>rfl⟩
theorem on_no {k:Nat} {px py ax ay bx by_:Rat} (p:PR w s_p A_p n_p c_p B_p m_p d_p t_p E_p i_p e_p F_p j_p f_p px py k) (q:PR w s_q A_q n_q c_q B_q m_q d_q t_q E_q i_q e_q F_q j_q f_q ax ay k) (r:PR w s_r A_r n_r c_r B_r m_r d_r t_r E_r i_r e_r F_r j_r f_r bx by_ k) (hk:k≤40) (h1:1≤k) (h:¬ onS px py ax ay bx by_) :
 Calls Tryz.prog 36 #[.agg #[.bool s_p,.slice A_p n_p c_p,.slice B_p m_p d_p,.bool t_p,.slice E_p i_p e_p,.slice F_p j_p f_p],.agg #[.bool s_q,.slice A_q n_q c_q,.slice B_q m_q d_q,.bool t_q,.slice E_q i_q e_q,.slice F_q j_q f_q],.agg #[.bool s_r,.slice A_r n_r c_r,.slice B_r m_r d_r,.bool t_r,.slice E_r i_r e_r,.slice F_r j_r f_r]] w fun e w'=>e=.returned (.bool false)∧Below w.heap.size w w':=on_p p q r hk h1 false ⟨fun e=>(by cases e),fun e=>absurd e h⟩
def GivesLn (w:World) (l:List (Rat × Rat)) (k:Nat) (en:Ending) (w':World):Prop :=
 ∃ v L,en=.returned v∧Ln 56 w.heap.size w' v L∧Each PV.PG w' L l k∧Below w.heap.size w w'
theorem mkbx44_16 {w W:World} {x0 x1 x2 x3 x4 x5 x6 x7 x8 x9 x10 x11 x12 x13 x14 x15 x16 x17 x18 x19 x20 x21 x22 x23:Value} (h:((((w.alloc (Obj.cells #[x0,x1,x2,x3,x4,x5] 56)).alloc (Obj.cells #[x6,x7,x8,x9,x10,x11] 56)).alloc (Obj.cells #[x12,x13,x14,x15,x16,x17] 56)).alloc (Obj.cells #[x18,x19,x20,x21,x22,x23] 56))=W):Below w.heap.size w W∧B6 W (w.heap.size) x0 x1 x2 x3 x4 x5∧B6 W (w.heap.size+1) x6 x7 x8 x9 x10 x11∧B6 W (w.heap.size+1+1) x12 x13 x14 x15 x16 x17∧B6 W (w.heap.size+1+1+1) x18 x19 x20 x21 x22 x23∧W.heap.size=w.heap.size+4:=by subst h;exact ⟨by exact (((((Below.refl _ _).alloc (Nat.le_refl _) _).alloc (by simp) _).alloc (by simp;omega) _).alloc (by simp;omega) _),by exact (((B6.new' _ _ _ _ _ _ _ _ rfl).alloc _).alloc _).alloc _,by exact ((B6.new' _ _ _ _ _ _ _ _ (by simp)).alloc _).alloc _,by exact (B6.new' _ _ _ _ _ _ _ _ (by simp)).alloc _,by exact B6.new' _ _ _ _ _ _ _ _ (by simp),by simp⟩
theorem ends_keep {k:Nat} {ax ay bx by_ cx cy dx dy:Rat} (p:PR w s_p A_p n_p c_p B_p m_p d_p t_p E_p i_p e_p F_p j_p f_p ax ay k) (q:PR w s_q A_q n_q c_q B_q m_q d_q t_q E_q i_q e_q F_q j_q f_q bx by_ k) (r:PR w s_r A_r n_r c_r B_r m_r d_r t_r E_r i_r e_r F_r j_r f_r cx cy k) (u:PR w s_u A_u n_u c_u B_u m_u d_u t_u E_u i_u e_u F_u j_u f_u dx dy k) (hk:k≤40) (h1:1≤k) (hf:¬ farQ ax ay dx dy < farQ ax ay cx cy) :
 Calls Tryz.prog 88 #[.agg #[.bool s_p,.slice A_p n_p c_p,.slice B_p m_p d_p,.bool t_p,.slice E_p i_p e_p,.slice F_p j_p f_p],.agg #[.bool s_q,.slice A_q n_q c_q,.slice B_q m_q d_q,.bool t_q,.slice E_q i_q e_q,.slice F_q j_q f_q],.agg #[.bool s_r,.slice A_r n_r c_r,.slice B_r m_r d_r,.bool t_r,.slice E_r i_r e_r,.slice F_r j_r f_r],.agg #[.bool s_u,.slice A_u n_u c_u,.slice B_u m_u d_u,.bool t_u,.slice E_u i_u e_u,.slice F_u j_u f_u]] w (GivesLn w (picks (bothP ax ay bx by_ cx cy dx dy) [(ax,ay),(cx,cy),(dx,dy),(bx,by_)] 4) (k+2)):=by
 obtain ⟨T,hT,hT0⟩:∃ T,cmpQ (farQ ax ay dx dy) (farQ ax ay cx cy)=T∧decide (T < 0)=false:=⟨_,rfl,by unfold cmpQ;rw [if_neg hf];split <;> rfl⟩
 have HT:=Lib.hid hT;clear hT hf
 go_enter Tryz.func88,Tryz.ntmps88
 go_upto_region 1 with (fail)
 generalize hW:World.alloc _ _=W
 obtain ⟨hb,XA,XB,XC,XD,hzW⟩:=mkbx44_16 hW;clear hW;replace p:=p.below hb;replace q:=q.below hb;replace r:=r.below hb;replace u:=u.below hb
 go_step3
 go_upto_region 1 with (fail)
 replace p:=p.below (Below.refl _ _).drew
 replace q:=q.below (Below.refl _ _).drew
 replace r:=r.below (Below.refl _ _).drew
 replace u:=u.below (Below.refl _ _).drew
 replace XA:=XA.below (Below.refl _ _).drew
 replace XB:=XB.below (Below.refl _ _).drew
 replace XC:=XC.below (Below.refl _ _).drew
 replace XD:=XD.below (Below.refl _ _).drew
 replace hb:=hb.drew
 go_region_held3 (fun w'=>w'.cell? ⟨w.heap.size,0,none⟩=some (.bool s_p)∧w'.cell? ⟨w.heap.size,1,none⟩=some (.slice A_p n_p c_p)∧w'.cell? ⟨w.heap.size,2,none⟩=some (.slice B_p m_p d_p)∧w'.cell? ⟨w.heap.size,3,none⟩=some (.bool t_p)∧w'.cell? ⟨w.heap.size,4,none⟩=some (.slice E_p i_p e_p)∧w'.cell? ⟨w.heap.size,5,none⟩=some (.slice F_p j_p f_p)∧w'.cell? ⟨w.heap.size+1,0,none⟩=some (.bool s_q)∧w'.cell? ⟨w.heap.size+1,1,none⟩=some (.slice A_q n_q c_q)∧w'.cell? ⟨w.heap.size+1,2,none⟩=some (.slice B_q m_q d_q)∧w'.cell? ⟨w.heap.size+1,3,none⟩=some (.bool t_q)∧w'.cell? ⟨w.heap.size+1,4,none⟩=some (.slice E_q i_q e_q)∧w'.cell? ⟨w.heap.size+1,5,none⟩=some (.slice F_q j_q f_q)∧w'.cell? ⟨w.heap.size+1+1,0,none⟩=some (.bool s_r)∧w'.cell? ⟨w.heap.size+1+1,1,none⟩=some (.slice A_r n_r c_r)∧w'.cell? ⟨w.heap.size+1+1,2,none⟩=some (.slice B_r m_r d_r)∧w'.cell? ⟨w.heap.size+1+1,3,none⟩=some (.bool t_r)∧w'.cell? ⟨w.heap.size+1+1,4,none⟩=some (.slice E_r i_r e_r)∧w'.cell? ⟨w.heap.size+1+1,5,none⟩=some (.slice F_r j_r f_r)∧w'.cell? ⟨w.heap.size+1+1+1,0,none⟩=some (.bool s_u)∧w'.cell? ⟨w.heap.size+1+1+1,1,none⟩=some (.slice A_u n_u c_u)∧w'.cell? ⟨w.heap.size+1+1+1,2,none⟩=some (.slice B_u m_u d_u)∧w'.cell? ⟨w.heap.size+1+1+1,3,none⟩=some (.bool t_u)∧w'.cell? ⟨w.heap.size+1+1+1,4,none⟩=some (.slice E_u i_u e_u)∧w'.cell? ⟨w.heap.size+1+1+1,5,none⟩=some (.slice F_u j_u f_u))
  (first | with_reducible exact ⟨XA.c0,XA.c1,XA.c2,XA.c3,XA.c4,XA.c5,XB.c0,XB.c1,XB.c2,XB.c3,XB.c4,XB.c5,XC.c0,XC.c1,XC.c2,XC.c3,XC.c4,XC.c5,XD.c0,XD.c1,XD.c2,XD.c3,XD.c4,XD.c5⟩)
  (first
  | (go_at_call 142;(with_reducible refine (pfar_p p u (by omega) h1 h1).mono ?_);rintro e w_f ⟨s_f,A_f,n_f,c_f,B_f,m_f,d_f,rfl,f,hh⟩
     (try replace p:=p.below hh);(try replace q:=q.below hh);(try replace r:=r.below hh);(try replace u:=u.below hh);(try replace XA:=XA.below hh);(try replace XB:=XB.below hh);(try replace XC:=XC.below hh);(try replace XD:=XD.below hh);replace hb:=bend hb hh)
  | (go_at_call 142;(with_reducible refine (pfar_p p r (by omega) h1 h1).mono ?_);rintro e w_g ⟨s_g,A_g,n_g,c_g,B_g,m_g,d_g,rfl,g,hh⟩
     (try replace p:=p.below hh);(try replace q:=q.below hh);(try replace r:=r.below hh);(try replace u:=u.below hh);(try replace XA:=XA.below hh);(try replace XB:=XB.below hh);(try replace XC:=XC.below hh);(try replace XD:=XD.below hh);(try replace f:=f.below hh);replace hb:=bend hb hh)
  | (go_at_call 45;(with_reducible refine (rcmp_q f.qr g.qr (by omega) (by omega) (.inl (by omega)) (by omega) (by omega)).mono ?_);rintro e w_z ⟨rfl,hh⟩
     rw [HT.out];(try replace p:=p.below hh);(try replace q:=q.below hh);(try replace r:=r.below hh);(try replace u:=u.below hh);(try replace XA:=XA.below hh);(try replace XB:=XB.below hh);(try replace XC:=XC.below hh);(try replace XD:=XD.below hh);replace hb:=bend hb hh;clear f g))
 go_upto_region 3 with (fail)
 generalize w_z=W2 at *
 obtain ⟨xa0,xa1,xa2,xa3,xa4,xa5⟩:=XA.all;obtain ⟨xb0,xb1,xb2,xb3,xb4,xb5⟩:=XB.all;obtain ⟨xc0,xc1,xc2,xc3,xc4,xc5⟩:=XC.all;obtain ⟨xd0,xd1,xd2,xd3,xd4,xd5⟩:=XD.all
 go_wp2_with fail
 go_step3
 go_wp2_with fail
 have LL:Ln 56 W2.heap.size (W2.alloc (Obj.cells #[Value.bool s_p,Value.slice A_p n_p c_p,Value.slice B_p m_p d_p,Value.bool t_p,Value.slice E_p i_p e_p,Value.slice F_p j_p f_p,Value.bool s_r,Value.slice A_r n_r c_r,Value.slice B_r m_r d_r,Value.bool t_r,Value.slice E_r i_r e_r,Value.slice F_r j_r f_r,Value.bool s_u,Value.slice A_u n_u c_u,Value.slice B_u m_u d_u,Value.bool t_u,Value.slice E_u i_u e_u,Value.slice F_u j_u f_u,Value.bool s_q,Value.slice A_q n_q c_q,Value.slice B_q m_q d_q,Value.bool t_q,Value.slice E_q i_q e_q,Value.slice F_q j_q f_q] 56)) (.slice (some ⟨W2.heap.size,0,none⟩) 4 4) [(PV.mk s_p A_p n_p c_p B_p m_p d_p t_p E_p i_p e_p F_p j_p f_p),(PV.mk s_r A_r n_r c_r B_r m_r d_r t_r E_r i_r e_r F_r j_r f_r),(PV.mk s_u A_u n_u c_u B_u m_u d_u t_u E_u i_u e_u F_u j_u f_u),(PV.mk s_q A_q n_q c_q B_q m_q d_q t_q E_q i_q e_q F_q j_q f_q)]:=Ln.lit W2 [(PV.mk s_p A_p n_p c_p B_p m_p d_p t_p E_p i_p e_p F_p j_p f_p),(PV.mk s_r A_r n_r c_r B_r m_r d_r t_r E_r i_r e_r F_r j_r f_r),(PV.mk s_u A_u n_u c_u B_u m_u d_u t_u E_u i_u e_u F_u j_u f_u),(PV.mk s_q A_q n_q c_q B_q m_q d_q t_q E_q i_q e_q F_q j_q f_q)] (Nat.le_refl _) (show 4≤1000000 by decide)
 have hh:Below W2.heap.size W2 (W2.alloc (Obj.cells #[Value.bool s_p,Value.slice A_p n_p c_p,Value.slice B_p m_p d_p,Value.bool t_p,Value.slice E_p i_p e_p,Value.slice F_p j_p f_p,Value.bool s_r,Value.slice A_r n_r c_r,Value.slice B_r m_r d_r,Value.bool t_r,Value.slice E_r i_r e_r,Value.slice F_r j_r f_r,Value.bool s_u,Value.slice A_u n_u c_u,Value.slice B_u m_u d_u,Value.bool t_u,Value.slice E_u i_u e_u,Value.slice F_u j_u f_u,Value.bool s_q,Value.slice A_q n_q c_q,Value.slice B_q m_q d_q,Value.bool t_q,Value.slice E_q i_q e_q,Value.slice F_q j_q f_q] 56)):=(Below.refl _ _).alloc (Nat.le_refl _) _
 replace p:=p.below hh;replace q:=q.below hh;replace r:=r.below hh;replace u:=u.below hh;replace XA:=XA.below hh;replace XB:=XB.below hh;replace XC:=XC.below hh;replace XD:=XD.below hh;replace hb:=bend hb hh;clear hh
 generalize (W2.alloc (Obj.cells #[Value.bool s_p,Value.slice A_p n_p c_p,Value.slice B_p m_p d_p,Value.bool t_p,Value.slice E_p i_p e_p,Value.slice F_p j_p f_p,Value.bool s_r,Value.slice A_r n_r c_r,Value.slice B_r m_r d_r,Value.bool t_r,Value.slice E_r i_r e_r,Value.slice F_r j_r f_r,Value.bool s_u,Value.slice A_u n_u c_u,Value.slice B_u m_u d_u,Value.bool t_u,Value.slice E_u i_u e_u,Value.slice F_u j_u f_u,Value.bool s_q,Value.slice A_q n_q c_q,Value.slice B_q m_q d_q,Value.bool t_q,Value.slice E_q i_q e_q,Value.slice F_q j_q f_q] 56))=W5 at LL p q r u XA XB XC XD hb ⊢
 generalize W2.heap.size=gL at LL ⊢
 generalize hLL:[(PV.mk s_p A_p n_p c_p B_p m_p d_p t_p E_p i_p e_p F_p j_p f_p),(PV.mk s_r A_r n_r c_r B_r m_r d_r t_r E_r i_r e_r F_r j_r f_r),(PV.mk s_u A_u n_u c_u B_u m_u d_u t_u E_u i_u e_u F_u j_u f_u),(PV.mk s_q A_q n_q c_q B_q m_q d_q t_q E_q i_q e_q F_q j_q f_q)]=LP at LL
 generalize hVV:[(ax,ay),(cx,cy),(dx,dy),(bx,by_)]=VV
 have HLP:Hid (LP.length=4):=by rw [← hLL];rfl
 have HE:Hid (∀ wr,Below W5.heap.size W5 wr→Each PV.PR wr LP VV k):=by
  intro wr hB
  subst hLL hVV
  refine ⟨rfl,fun i P v hP hv=>?_⟩
  match i,hP,hv with
  | 0,hP,hv=>cases hP;cases hv;exact PR.below p hB
  | 1,hP,hv=>cases hP;cases hv;exact PR.below r hB
  | 2,hP,hv=>cases hP;cases hv;exact PR.below u hB
  | 3,hP,hv=>cases hP;cases hv;exact PR.below q hB
  | i+4,hP,hv=>cases hP
 clear hLL;have hb5:=hb.size;clear hzW
 go_loopg [9,30] 4 (fun gk told ix wr=>∃ (L:List PV) (l:List (Rat × Rat)) (m:Nat),Hid (gk+m=4)∧ix=.int .i64 (m:Int)∧Hid (l=picks (bothP ax ay bx by_ cx cy dx dy) VV m)∧l.length≤m∧Ln 56 W5.heap.size wr told L∧Hid (Each PV.PG wr L l (k+2))∧Below W5.heap.size W5 wr)
 case atStart=>exact ⟨[],[],0,rfl,rfl,rfl,Nat.le_refl _,Ln.nil _ _ _,Each.nil,Below.refl _ _⟩
 case round =>
  obtain ⟨L,l,m,HG,rfl,HP,hlm,LT,HQ,hB⟩:=hrel
  have hG:=HG.out
  have hb6:Below w.heap.size w wr:=bend hb hB
  by_cases hm:m < 4
  · obtain ⟨P,v,hP,hv,x⟩:=(HE.out wr hB).at_ (i:=m) (by rw [HLP.out];exact hm)
    obtain ⟨_,hgL,hc0,hc1,hc2,hc3,hc4,hc5⟩:=(LL.below hB).of hP
    replace p:=p.below hB;replace q:=q.below hB;replace r:=r.below hB;replace u:=u.below hB;replace XA:=XA.below hB;replace XB:=XB.below hB;replace XC:=XC.below hB;replace XD:=XD.below hB
    have hix:=idx_pt (g:=gL) (n:=4) (c:=4) hm
    have hlt:(m:Int) < 4:=by omega
    have HV:=Lib.hid hv
    obtain ⟨vx,vy⟩:=v
    obtain ⟨s_x,A_x,n_x,c_x,B_x,m_x,d_x,t_x,E_x,i_x,e_x,F_x,j_x,f_x⟩:=P
    replace x:PR wr s_x A_x n_x c_x B_x m_x d_x t_x E_x i_x e_x F_x j_x f_x vx vy k:=x
    simp only at hc0 hc1 hc2 hc3 hc4 hc5
    have hLm:L.length≤4:=by have:=HQ.out.1;omega
    clear hb hP hv hG hgL
    go_upto_region 7 with (fail)
    generalize hW:World.alloc _ _=W6
    obtain ⟨hh,XE,hzW6⟩:=mkbx18_10 hW;clear hW;replace p:=p.below hh;replace q:=q.below hh;replace r:=r.below hh;replace u:=u.below hh;replace XA:=XA.below hh;replace XB:=XB.below hh;replace XC:=XC.below hh;replace XD:=XD.below hh;replace x:=x.below hh;replace LT:=LT.below hh;replace hb6:=bend hb6 hh
    replace hB6:Below W5.heap.size W5 W6:=bend hB hh
    replace HQ:Hid (Each PV.PG W6 L l (k+2)):=Each.below HQ.out hh
    obtain ⟨xe0,xe1,xe2,xe3,xe4,xe5⟩:=XE.all;obtain ⟨xa0,xa1,xa2,xa3,xa4,xa5⟩:=XA.all;obtain ⟨xb0,xb1,xb2,xb3,xb4,xb5⟩:=XB.all;obtain ⟨xc0,xc1,xc2,xc3,xc4,xc5⟩:=XC.all;obtain ⟨xd0,xd1,xd2,xd3,xd4,xd5⟩:=XD.all
    by_cases g1:onS vx vy ax ay bx by_
    · have H1:=Lib.hid g1
      by_cases g2:onS vx vy cx cy dx dy
      · have H2:=Lib.hid g2
        have HK:Hid ((bothP ax ay bx by_ cx cy dx dy) (vx,vy)):=⟨g1,g2⟩
        clear g1 g2
        go_upto_region 8 with (first
    | (go_at_call 36;(with_reducible refine (on_yes x p q hk h1 H1.out).mono ?_);rintro e w_z ⟨rfl,hh⟩
       (try replace p:=p.below hh);(try replace q:=q.below hh);(try replace r:=r.below hh);(try replace u:=u.below hh);(try replace XA:=XA.below hh);(try replace XB:=XB.below hh);(try replace XC:=XC.below hh);(try replace XD:=XD.below hh);(try replace x:=x.below hh);(try replace XE:=XE.below hh);(try replace LT:=LT.below hh);replace hb6:=bend hb6 hh;replace hB6:=bend hB6 hh
       replace HQ:=Lib.hid (Each.below HQ.out hh)
       obtain ⟨xe0,xe1,xe2,xe3,xe4,xe5⟩:=XE.all;obtain ⟨xa0,xa1,xa2,xa3,xa4,xa5⟩:=XA.all;obtain ⟨xb0,xb1,xb2,xb3,xb4,xb5⟩:=XB.all;obtain ⟨xc0,xc1,xc2,xc3,xc4,xc5⟩:=XC.all;obtain ⟨xd0,xd1,xd2,xd3,xd4,xd5⟩:=XD.all)
    | (go_at_call 36;(with_reducible refine (on_yes x r u hk h1 H2.out).mono ?_);rintro e w_z ⟨rfl,hh⟩
       (try replace p:=p.below hh);(try replace q:=q.below hh);(try replace r:=r.below hh);(try replace u:=u.below hh);(try replace XA:=XA.below hh);(try replace XB:=XB.below hh);(try replace XC:=XC.below hh);(try replace XD:=XD.below hh);(try replace x:=x.below hh);(try replace XE:=XE.below hh);(try replace LT:=LT.below hh);replace hb6:=bend hb6 hh;replace hB6:=bend hB6 hh
       replace HQ:=Lib.hid (Each.below HQ.out hh)
       obtain ⟨xe0,xe1,xe2,xe3,xe4,xe5⟩:=XE.all;obtain ⟨xa0,xa1,xa2,xa3,xa4,xa5⟩:=XA.all;obtain ⟨xb0,xb1,xb2,xb3,xb4,xb5⟩:=XB.all;obtain ⟨xc0,xc1,xc2,xc3,xc4,xc5⟩:=XC.all;obtain ⟨xd0,xd1,xd2,xd3,xd4,xd5⟩:=XD.all))
        obtain ⟨A0,c0,rfl,hLc,hA0⟩:=LT.form
        go_wp2_with fail
        obtain ⟨go,hgo⟩:∃ go,go=gk:=⟨gk,rfl⟩
        have HGO:=Lib.hid hgo;clear hgo
        go_loopg [48] L.length (fun gj jx wj=>∃ j:Nat,Hid (gj+j=L.length)∧jx=.int .i64 (j:Int)∧Hid (∀ i,i < j→l[i]? ≠ some (vx,vy))∧Below w_z.heap.size w_z wj)
        case atStart=>exact ⟨0,Nat.add_zero _,rfl,fun i hi=>absurd hi (by omega),Below.refl _ _⟩
        case round =>
         obtain ⟨j,HJ,rfl,HN,hB7⟩:=hrel
         replace p:=p.below hB7;replace q:=q.below hB7;replace r:=r.below hB7;replace u:=u.below hB7;replace XA:=XA.below hB7;replace XB:=XB.below hB7;replace XC:=XC.below hB7;replace XD:=XD.below hB7;replace x:=x.below hB7;replace XE:=XE.below hB7;replace LT:=LT.below hB7
         have hb8:Below w.heap.size w wr:=bend hb6 hB7
         have hB8:Below W5.heap.size W5 wr:=bend hB6 hB7
         replace HQ:=Lib.hid (Each.below HQ.out hB7)
         obtain ⟨xe0,xe1,xe2,xe3,xe4,xe5⟩:=XE.all
         by_cases hj:j < L.length
         · obtain ⟨Q,v2,hQ,hv2,y⟩:=HQ.out.at_ hj
           obtain ⟨g,c1_,hv_,_,_,_,hd0,hd1,hd2,hd3,hd4,hd5⟩:=LT.at_ hQ
           have hA:A0=some ⟨g,0,none⟩:=by
            simp only [Value.slice.injEq] at hv_
            exact hv_.1
           subst hA
           have hix2:=idx_pt (g:=g) (n:=L.length) (c:=c0) hj
           have hltj:(j:Int) < (L.length:Int):=by omega
           have HV2:=Lib.hid hv2
           obtain ⟨ux,uy⟩:=v2
           obtain ⟨s_y,A_y,n_y,c_y,B_y,m_y,d_y,t_y,E_y,i_y,e_y,F_y,j_y,f_y⟩:=Q
           replace y:PG wr s_y A_y n_y c_y B_y m_y d_y t_y E_y i_y e_y F_y j_y f_y ux uy (k+2):=y
           simp only at hd0 hd1 hd2 hd3 hd4 hd5
           clear hv_ hQ hv2 hj
           go_upto_region 11 with (fail)
           generalize hW:World.alloc _ _=W8
           obtain ⟨hh,XF,hzW8⟩:=mkbx18_10 hW;clear hW;replace p:=p.below hh;replace q:=q.below hh;replace r:=r.below hh;replace u:=u.below hh;replace XA:=XA.below hh;replace XB:=XB.below hh;replace XC:=XC.below hh;replace XD:=XD.below hh;replace x:=x.below hh;replace XE:=XE.below hh;replace LT:=LT.below hh;replace y:=y.below hh;replace hb8:=bend hb8 hh
           replace hB8:Below W5.heap.size W5 W8:=bend hB8 hh
           have hB9:Below w_z.heap.size w_z W8:=bend hB7 hh
           replace HQ:Hid (Each PV.PG W8 L l (k+2)):=Each.below HQ.out hh
           obtain ⟨xe0,xe1,xe2,xe3,xe4,xe5⟩:=XE.all;obtain ⟨xf0,xf1,xf2,xf3,xf4,xf5⟩:=XF.all
           by_cases hs:vx=ux∧vy=uy
           · have HS:Hid (decide (vx=ux∧vy=uy)=true):=decide_eq_true hs
             have HM:Hid ((vx,vy) ∈ l):=List.mem_of_getElem? (HV2.out.trans (by rw [hs.1,hs.2]))
             clear hs
             go_wp2_with (first
             | (go_at_call 43;(with_reducible refine (psame_p x y.pr (by omega) (by omega) h1 (by omega) true HS.out).mono ?_);rintro e w_y ⟨rfl,hh⟩
                (try replace p:=p.below hh);(try replace q:=q.below hh);(try replace r:=r.below hh);(try replace u:=u.below hh);(try replace XA:=XA.below hh);(try replace XB:=XB.below hh);(try replace XC:=XC.below hh);(try replace XD:=XD.below hh);(try replace x:=x.below hh);(try replace XE:=XE.below hh);(try replace LT:=LT.below hh);replace hb8:=bend hb8 hh;replace hB8:=bend hB8 hh;replace hB9:=bend hB9 hh
                replace HQ:=Lib.hid (Each.below HQ.out hh)))
             go_roundg (go - 1)
             case measure=>have:=HG.out;have:=HGO.out;omega
             case rel =>
              refine ⟨L,l,m+1,by have:=HG.out;have:=HGO.out;show _=_;omega,by go_num,?_,by omega,LT,HQ.out,hB8⟩
              show _=_
              rw [picks_succ HV.out,← HP.out,pick_old HM.out]
           · have HS:Hid (decide (vx=ux∧vy=uy)=false):=decide_eq_false hs
             have HM:Hid ((ux,uy) ≠ (vx,vy)):=fun e=>hs ⟨(congrArg Prod.fst e).symm,(congrArg Prod.snd e).symm⟩
             clear hs
             go_wp2_with (first
             | (go_at_call 43;(with_reducible refine (psame_p x y.pr (by omega) (by omega) h1 (by omega) false HS.out).mono ?_);rintro e w_y ⟨rfl,hh⟩
                (try replace p:=p.below hh);(try replace q:=q.below hh);(try replace r:=r.below hh);(try replace u:=u.below hh);(try replace XA:=XA.below hh);(try replace XB:=XB.below hh);(try replace XC:=XC.below hh);(try replace XD:=XD.below hh);(try replace x:=x.below hh);(try replace XE:=XE.below hh);(try replace LT:=LT.below hh);replace hb8:=bend hb8 hh;replace hB8:=bend hB8 hh;replace hB9:=bend hB9 hh
                replace HQ:=Lib.hid (Each.below HQ.out hh)))
             go_roundg (gk - 1)
             case measure=>have:=HJ.out;omega
             case rel =>
              refine ⟨j+1,by have:=HJ.out;show _=_;omega,by go_num,fun i hi=>?_,hB9⟩
              rcases Nat.lt_or_ge i j with h | h
              · exact HN.out i h
              · obtain rfl:i=j:=by omega
                rw [HV2.out]
                exact fun e=>HM.out (Option.some.inj e)
         · have hltj:¬ (j:Int) < (L.length:Int):=by omega
           have HM:Hid ((vx,vy) ∉ l):=by
            intro e
            obtain ⟨i,hi⟩:=List.getElem?_of_mem e
            have h2:=(List.getElem?_eq_some_iff.1 hi).1
            exact HN.out i (by have:=HQ.out.1;omega) hi
           clear hj
           go_wp2_with (first
            | (go_at_call 143;(with_reducible refine (fresh_p x (by omega) h1).mono ?_);rintro e w_r ⟨s_rr,A_rr,n_rr,c_rr,B_rr,m_rr,d_rr,t_rr,E_rr,i_rr,e_rr,F_rr,j_rr,f_rr,rfl,rr,hh⟩
               (try replace p:=p.below hh);(try replace q:=q.below hh);(try replace r:=r.below hh);(try replace u:=u.below hh);(try replace XA:=XA.below hh);(try replace XB:=XB.below hh);(try replace XC:=XC.below hh);(try replace XD:=XD.below hh);(try replace x:=x.below hh);(try replace XE:=XE.below hh);(try replace LT:=LT.below hh);replace hb8:=bend hb8 hh;replace hB8:=bend hB8 hh
               replace HQ:=Lib.hid (Each.below HQ.out hh))
            | (at_builtin
               have hal:Below w_r.heap.size w_r (w_r.alloc (Obj.cells #[Value.bool s_rr,Value.slice A_rr n_rr c_rr,Value.slice B_rr m_rr d_rr,Value.bool t_rr,Value.slice E_rr i_rr e_rr,Value.slice F_rr j_rr f_rr] 56)):=(Below.refl _ _).alloc (Nat.le_refl _) _
               refine wpList_push Tryz.underlying64 info_pt rfl (.tmp 56) (.tmp 59) rfl (p:=(PV.mk s_rr A_rr n_rr c_rr B_rr m_rr d_rr t_rr E_rr i_rr e_rr F_rr j_rr f_rr)) (k0:=1) (b:=w_r.heap.size) rfl rfl (LT.below hal) (Nat.le_trans hB8.size hal.size) (by omega) (heap_alloc_new w_r _) ?_
               intro v3 w3 hn3 hg3))
           have hE3:Each PV.PG (w_r.alloc (Obj.cells #[Value.bool s_rr,Value.slice A_rr n_rr c_rr,Value.slice B_rr m_rr d_rr,Value.bool t_rr,Value.slice E_rr i_rr e_rr,Value.slice F_rr j_rr f_rr] 56)) L l (k+2):=Each.below HQ.out hal
           have hp3:PV.PG (w_r.alloc (Obj.cells #[Value.bool s_rr,Value.slice A_rr n_rr c_rr,Value.slice B_rr m_rr d_rr,Value.bool t_rr,Value.slice E_rr i_rr e_rr,Value.slice F_rr j_rr f_rr] 56)) (PV.mk s_rr A_rr n_rr c_rr B_rr m_rr d_rr t_rr E_rr i_rr e_rr F_rr j_rr f_rr) (vx,vy) (k+2):=PG.below rr hal
           have hst:=Each.stays hE3 (LT.below hal) hg3
           have hB9:=Ln.under (LT.below hal) hg3 (bend hB8 hal) (Nat.le_refl _)
           go_roundg (go - 1)
           case measure=>have:=HG.out;have:=HGO.out;omega
           case rel =>
            refine ⟨L ++ [(PV.mk s_rr A_rr n_rr c_rr B_rr m_rr d_rr t_rr E_rr i_rr e_rr F_rr j_rr f_rr)],l ++ [(vx,vy)],m+1,by have:=HG.out;have:=HGO.out;show _=_;omega,by go_num,?_,by rw [List.length_append];show l.length+1≤_;omega,hn3,Each.push hE3 hst (hst _ _ hp3),hB9⟩
            show _=_
            rw [picks_succ HV.out,← HP.out,pick_yes HK.out HM.out]
      · have H2:=Lib.hid g2
        have HK:Hid (¬ (bothP ax ay bx by_ cx cy dx dy) (vx,vy)):=fun e=>g2 e.2
        clear g1 g2
        go_wp2_with (first
    | (go_at_call 36;(with_reducible refine (on_yes x p q hk h1 H1.out).mono ?_);rintro e w_z ⟨rfl,hh⟩
       (try replace p:=p.below hh);(try replace q:=q.below hh);(try replace r:=r.below hh);(try replace u:=u.below hh);(try replace XA:=XA.below hh);(try replace XB:=XB.below hh);(try replace XC:=XC.below hh);(try replace XD:=XD.below hh);(try replace x:=x.below hh);(try replace XE:=XE.below hh);(try replace LT:=LT.below hh);replace hb6:=bend hb6 hh;replace hB6:=bend hB6 hh
       replace HQ:=Lib.hid (Each.below HQ.out hh)
       obtain ⟨xe0,xe1,xe2,xe3,xe4,xe5⟩:=XE.all;obtain ⟨xa0,xa1,xa2,xa3,xa4,xa5⟩:=XA.all;obtain ⟨xb0,xb1,xb2,xb3,xb4,xb5⟩:=XB.all;obtain ⟨xc0,xc1,xc2,xc3,xc4,xc5⟩:=XC.all;obtain ⟨xd0,xd1,xd2,xd3,xd4,xd5⟩:=XD.all)
    | (go_at_call 36;(with_reducible refine (on_no x r u hk h1 H2.out).mono ?_);rintro e w_z ⟨rfl,hh⟩
       (try replace p:=p.below hh);(try replace q:=q.below hh);(try replace r:=r.below hh);(try replace u:=u.below hh);(try replace XA:=XA.below hh);(try replace XB:=XB.below hh);(try replace XC:=XC.below hh);(try replace XD:=XD.below hh);(try replace x:=x.below hh);(try replace XE:=XE.below hh);(try replace LT:=LT.below hh);replace hb6:=bend hb6 hh;replace hB6:=bend hB6 hh
       replace HQ:=Lib.hid (Each.below HQ.out hh)
       obtain ⟨xe0,xe1,xe2,xe3,xe4,xe5⟩:=XE.all;obtain ⟨xa0,xa1,xa2,xa3,xa4,xa5⟩:=XA.all;obtain ⟨xb0,xb1,xb2,xb3,xb4,xb5⟩:=XB.all;obtain ⟨xc0,xc1,xc2,xc3,xc4,xc5⟩:=XC.all;obtain ⟨xd0,xd1,xd2,xd3,xd4,xd5⟩:=XD.all))
        go_roundg (gk - 1)
        case measure=>have:=HG.out;omega
        case rel =>
         refine ⟨L,l,m+1,by have:=HG.out;show _=_;omega,by go_num,?_,by omega,LT,HQ.out,hB6⟩
         show _=_
         rw [picks_succ HV.out,← HP.out,pick_no HK.out]
    · have H1:=Lib.hid g1
      have HK:Hid (¬ (bothP ax ay bx by_ cx cy dx dy) (vx,vy)):=fun e=>g1 e.1
      clear g1
      go_wp2_with (first
    | (go_at_call 36;(with_reducible refine (on_no x p q hk h1 H1.out).mono ?_);rintro e w_z ⟨rfl,hh⟩
       (try replace p:=p.below hh);(try replace q:=q.below hh);(try replace r:=r.below hh);(try replace u:=u.below hh);(try replace XA:=XA.below hh);(try replace XB:=XB.below hh);(try replace XC:=XC.below hh);(try replace XD:=XD.below hh);(try replace x:=x.below hh);(try replace XE:=XE.below hh);(try replace LT:=LT.below hh);replace hb6:=bend hb6 hh;replace hB6:=bend hB6 hh
       replace HQ:=Lib.hid (Each.below HQ.out hh)
       obtain ⟨xe0,xe1,xe2,xe3,xe4,xe5⟩:=XE.all;obtain ⟨xa0,xa1,xa2,xa3,xa4,xa5⟩:=XA.all;obtain ⟨xb0,xb1,xb2,xb3,xb4,xb5⟩:=XB.all;obtain ⟨xc0,xc1,xc2,xc3,xc4,xc5⟩:=XC.all;obtain ⟨xd0,xd1,xd2,xd3,xd4,xd5⟩:=XD.all))
      go_roundg (gk - 1)
      case measure=>have:=HG.out;omega
      case rel =>
       refine ⟨L,l,m+1,by have:=HG.out;show _=_;omega,by go_num,?_,by omega,LT,HQ.out,hB6⟩
       show _=_
       rw [picks_succ HV.out,← HP.out,pick_no HK.out]
  · have hlt:¬ (m:Int) < 4:=by omega
    obtain rfl:m=4:=by omega
    clear hlm hG
    go_wp2_with fail
    (try rw [Exit.noGoto_ret])
    go_ret
    exact ⟨_,L,rfl,LT.base_le hb5,by rw [← HP.out];exact HQ.out,hb6⟩
theorem ends_swap {k:Nat} {ax ay bx by_ cx cy dx dy:Rat} (p:PR w s_p A_p n_p c_p B_p m_p d_p t_p E_p i_p e_p F_p j_p f_p ax ay k) (q:PR w s_q A_q n_q c_q B_q m_q d_q t_q E_q i_q e_q F_q j_q f_q bx by_ k) (r:PR w s_r A_r n_r c_r B_r m_r d_r t_r E_r i_r e_r F_r j_r f_r cx cy k) (u:PR w s_u A_u n_u c_u B_u m_u d_u t_u E_u i_u e_u F_u j_u f_u dx dy k) (hk:k≤40) (h1:1≤k) (hf:farQ ax ay dx dy < farQ ax ay cx cy) :
 Calls Tryz.prog 88 #[.agg #[.bool s_p,.slice A_p n_p c_p,.slice B_p m_p d_p,.bool t_p,.slice E_p i_p e_p,.slice F_p j_p f_p],.agg #[.bool s_q,.slice A_q n_q c_q,.slice B_q m_q d_q,.bool t_q,.slice E_q i_q e_q,.slice F_q j_q f_q],.agg #[.bool s_r,.slice A_r n_r c_r,.slice B_r m_r d_r,.bool t_r,.slice E_r i_r e_r,.slice F_r j_r f_r],.agg #[.bool s_u,.slice A_u n_u c_u,.slice B_u m_u d_u,.bool t_u,.slice E_u i_u e_u,.slice F_u j_u f_u]] w (GivesLn w (picks (bothP ax ay bx by_ dx dy cx cy) [(ax,ay),(dx,dy),(cx,cy),(bx,by_)] 4) (k+2)):=by
 obtain ⟨T,hT,hT0⟩:∃ T,cmpQ (farQ ax ay dx dy) (farQ ax ay cx cy)=T∧decide (T < 0)=true:=⟨_,rfl,by unfold cmpQ;rw [if_pos hf];rfl⟩
 have HT:=Lib.hid hT;clear hT hf
 go_enter Tryz.func88,Tryz.ntmps88
 go_upto_region 1 with (fail)
 generalize hW:World.alloc _ _=W
 obtain ⟨hb,XA,XB,XC,XD,hzW⟩:=mkbx44_16 hW;clear hW;replace p:=p.below hb;replace q:=q.below hb;replace r:=r.below hb;replace u:=u.below hb
 go_step3
 go_upto_region 1 with (fail)
 replace p:=p.below (Below.refl _ _).drew
 replace q:=q.below (Below.refl _ _).drew
 replace r:=r.below (Below.refl _ _).drew
 replace u:=u.below (Below.refl _ _).drew
 replace XA:=XA.below (Below.refl _ _).drew
 replace XB:=XB.below (Below.refl _ _).drew
 replace XC:=XC.below (Below.refl _ _).drew
 replace XD:=XD.below (Below.refl _ _).drew
 replace hb:=hb.drew
 go_region_held3 (fun w'=>w'.cell? ⟨w.heap.size,0,none⟩=some (.bool s_p)∧w'.cell? ⟨w.heap.size,1,none⟩=some (.slice A_p n_p c_p)∧w'.cell? ⟨w.heap.size,2,none⟩=some (.slice B_p m_p d_p)∧w'.cell? ⟨w.heap.size,3,none⟩=some (.bool t_p)∧w'.cell? ⟨w.heap.size,4,none⟩=some (.slice E_p i_p e_p)∧w'.cell? ⟨w.heap.size,5,none⟩=some (.slice F_p j_p f_p)∧w'.cell? ⟨w.heap.size+1,0,none⟩=some (.bool s_q)∧w'.cell? ⟨w.heap.size+1,1,none⟩=some (.slice A_q n_q c_q)∧w'.cell? ⟨w.heap.size+1,2,none⟩=some (.slice B_q m_q d_q)∧w'.cell? ⟨w.heap.size+1,3,none⟩=some (.bool t_q)∧w'.cell? ⟨w.heap.size+1,4,none⟩=some (.slice E_q i_q e_q)∧w'.cell? ⟨w.heap.size+1,5,none⟩=some (.slice F_q j_q f_q)∧w'.cell? ⟨w.heap.size+1+1,0,none⟩=some (.bool s_r)∧w'.cell? ⟨w.heap.size+1+1,1,none⟩=some (.slice A_r n_r c_r)∧w'.cell? ⟨w.heap.size+1+1,2,none⟩=some (.slice B_r m_r d_r)∧w'.cell? ⟨w.heap.size+1+1,3,none⟩=some (.bool t_r)∧w'.cell? ⟨w.heap.size+1+1,4,none⟩=some (.slice E_r i_r e_r)∧w'.cell? ⟨w.heap.size+1+1,5,none⟩=some (.slice F_r j_r f_r)∧w'.cell? ⟨w.heap.size+1+1+1,0,none⟩=some (.bool s_u)∧w'.cell? ⟨w.heap.size+1+1+1,1,none⟩=some (.slice A_u n_u c_u)∧w'.cell? ⟨w.heap.size+1+1+1,2,none⟩=some (.slice B_u m_u d_u)∧w'.cell? ⟨w.heap.size+1+1+1,3,none⟩=some (.bool t_u)∧w'.cell? ⟨w.heap.size+1+1+1,4,none⟩=some (.slice E_u i_u e_u)∧w'.cell? ⟨w.heap.size+1+1+1,5,none⟩=some (.slice F_u j_u f_u))
  (first | with_reducible exact ⟨XA.c0,XA.c1,XA.c2,XA.c3,XA.c4,XA.c5,XB.c0,XB.c1,XB.c2,XB.c3,XB.c4,XB.c5,XC.c0,XC.c1,XC.c2,XC.c3,XC.c4,XC.c5,XD.c0,XD.c1,XD.c2,XD.c3,XD.c4,XD.c5⟩)
  (first
  | (go_at_call 142;(with_reducible refine (pfar_p p u (by omega) h1 h1).mono ?_);rintro e w_f ⟨s_f,A_f,n_f,c_f,B_f,m_f,d_f,rfl,f,hh⟩
     (try replace p:=p.below hh);(try replace q:=q.below hh);(try replace r:=r.below hh);(try replace u:=u.below hh);(try replace XA:=XA.below hh);(try replace XB:=XB.below hh);(try replace XC:=XC.below hh);(try replace XD:=XD.below hh);replace hb:=bend hb hh)
  | (go_at_call 142;(with_reducible refine (pfar_p p r (by omega) h1 h1).mono ?_);rintro e w_g ⟨s_g,A_g,n_g,c_g,B_g,m_g,d_g,rfl,g,hh⟩
     (try replace p:=p.below hh);(try replace q:=q.below hh);(try replace r:=r.below hh);(try replace u:=u.below hh);(try replace XA:=XA.below hh);(try replace XB:=XB.below hh);(try replace XC:=XC.below hh);(try replace XD:=XD.below hh);(try replace f:=f.below hh);replace hb:=bend hb hh)
  | (go_at_call 45;(with_reducible refine (rcmp_q f.qr g.qr (by omega) (by omega) (.inl (by omega)) (by omega) (by omega)).mono ?_);rintro e w_z ⟨rfl,hh⟩
     rw [HT.out];(try replace p:=p.below hh);(try replace q:=q.below hh);(try replace r:=r.below hh);(try replace u:=u.below hh);(try replace XA:=XA.below hh);(try replace XB:=XB.below hh);(try replace XC:=XC.below hh);(try replace XD:=XD.below hh);replace hb:=bend hb hh;clear f g))
 obtain ⟨xc0,xc1,xc2,xc3,xc4,xc5⟩:=XC.all;obtain ⟨xd0,xd1,xd2,xd3,xd4,xd5⟩:=XD.all;have xcf0:=XC.f0;have xcf1:=XC.f1;have xcf2:=XC.f2;have xcf3:=XC.f3;have xcf4:=XC.f4;have xcf5:=XC.f5;have xdf0:=XD.f0;have xdf1:=XD.f1;have xdf2:=XD.f2;have xdf3:=XD.f3;have xdf4:=XD.f4;have xdf5:=XD.f5
 go_upto_region 3 with (fail)
 have ho:=only6 w_z (w.heap.size+1+1) (.bool s_u) (.slice A_u n_u c_u) (.slice B_u m_u d_u) (.bool t_u) (.slice E_u i_u e_u) (.slice F_u j_u f_u)
 replace p:=p.box (box_of XC) ho
 replace q:=q.box (box_of XC) ho
 replace r:=r.box (box_of XC) ho
 replace u:=u.box (box_of XC) ho
 replace XA:=XA.rest (by omega) ho
 replace XB:=XB.rest (by omega) ho
 replace XD:=XD.rest (by omega) ho
 replace hb:=below_set6 hb (show w.heap.size≤w.heap.size+1+1 by omega) (.bool s_u) (.slice A_u n_u c_u) (.slice B_u m_u d_u) (.bool t_u) (.slice E_u i_u e_u) (.slice F_u j_u f_u)
 replace XC:=XC.set6 (.bool s_u) (.slice A_u n_u c_u) (.slice B_u m_u d_u) (.bool t_u) (.slice E_u i_u e_u) (.slice F_u j_u f_u)
 clear ho
 generalize hWn:(((((((w_z.setCell ⟨w.heap.size+1+1,0,none⟩ (.bool s_u)).setCell ⟨w.heap.size+1+1,1,none⟩ (.slice A_u n_u c_u)).setCell ⟨w.heap.size+1+1,2,none⟩ (.slice B_u m_u d_u)).setCell ⟨w.heap.size+1+1,3,none⟩ (.bool t_u)).setCell ⟨w.heap.size+1+1,4,none⟩ (.slice E_u i_u e_u)).setCell ⟨w.heap.size+1+1,5,none⟩ (.slice F_u j_u f_u)))=W1 at *
 clear hWn
 have ho:=only6 W1 (w.heap.size+1+1+1) (.bool s_r) (.slice A_r n_r c_r) (.slice B_r m_r d_r) (.bool t_r) (.slice E_r i_r e_r) (.slice F_r j_r f_r)
 replace p:=p.box (box_of XD) ho
 replace q:=q.box (box_of XD) ho
 replace r:=r.box (box_of XD) ho
 replace u:=u.box (box_of XD) ho
 replace XA:=XA.rest (by omega) ho
 replace XB:=XB.rest (by omega) ho
 replace XC:=XC.rest (by omega) ho
 replace hb:=below_set6 hb (show w.heap.size≤w.heap.size+1+1+1 by omega) (.bool s_r) (.slice A_r n_r c_r) (.slice B_r m_r d_r) (.bool t_r) (.slice E_r i_r e_r) (.slice F_r j_r f_r)
 replace XD:=XD.set6 (.bool s_r) (.slice A_r n_r c_r) (.slice B_r m_r d_r) (.bool t_r) (.slice E_r i_r e_r) (.slice F_r j_r f_r)
 clear ho
 generalize hWn:(((((((W1.setCell ⟨w.heap.size+1+1+1,0,none⟩ (.bool s_r)).setCell ⟨w.heap.size+1+1+1,1,none⟩ (.slice A_r n_r c_r)).setCell ⟨w.heap.size+1+1+1,2,none⟩ (.slice B_r m_r d_r)).setCell ⟨w.heap.size+1+1+1,3,none⟩ (.bool t_r)).setCell ⟨w.heap.size+1+1+1,4,none⟩ (.slice E_r i_r e_r)).setCell ⟨w.heap.size+1+1+1,5,none⟩ (.slice F_r j_r f_r)))=W2 at *
 clear hWn;obtain ⟨xa0,xa1,xa2,xa3,xa4,xa5⟩:=XA.all;obtain ⟨xb0,xb1,xb2,xb3,xb4,xb5⟩:=XB.all;obtain ⟨xc0,xc1,xc2,xc3,xc4,xc5⟩:=XC.all;obtain ⟨xd0,xd1,xd2,xd3,xd4,xd5⟩:=XD.all
 go_wp2_with fail
 go_step3
 go_wp2_with fail
 have LL:Ln 56 W2.heap.size (W2.alloc (Obj.cells #[Value.bool s_p,Value.slice A_p n_p c_p,Value.slice B_p m_p d_p,Value.bool t_p,Value.slice E_p i_p e_p,Value.slice F_p j_p f_p,Value.bool s_u,Value.slice A_u n_u c_u,Value.slice B_u m_u d_u,Value.bool t_u,Value.slice E_u i_u e_u,Value.slice F_u j_u f_u,Value.bool s_r,Value.slice A_r n_r c_r,Value.slice B_r m_r d_r,Value.bool t_r,Value.slice E_r i_r e_r,Value.slice F_r j_r f_r,Value.bool s_q,Value.slice A_q n_q c_q,Value.slice B_q m_q d_q,Value.bool t_q,Value.slice E_q i_q e_q,Value.slice F_q j_q f_q] 56)) (.slice (some ⟨W2.heap.size,0,none⟩) 4 4) [(PV.mk s_p A_p n_p c_p B_p m_p d_p t_p E_p i_p e_p F_p j_p f_p),(PV.mk s_u A_u n_u c_u B_u m_u d_u t_u E_u i_u e_u F_u j_u f_u),(PV.mk s_r A_r n_r c_r B_r m_r d_r t_r E_r i_r e_r F_r j_r f_r),(PV.mk s_q A_q n_q c_q B_q m_q d_q t_q E_q i_q e_q F_q j_q f_q)]:=Ln.lit W2 [(PV.mk s_p A_p n_p c_p B_p m_p d_p t_p E_p i_p e_p F_p j_p f_p),(PV.mk s_u A_u n_u c_u B_u m_u d_u t_u E_u i_u e_u F_u j_u f_u),(PV.mk s_r A_r n_r c_r B_r m_r d_r t_r E_r i_r e_r F_r j_r f_r),(PV.mk s_q A_q n_q c_q B_q m_q d_q t_q E_q i_q e_q F_q j_q f_q)] (Nat.le_refl _) (show 4≤1000000 by decide)
 have hh:Below W2.heap.size W2 (W2.alloc (Obj.cells #[Value.bool s_p,Value.slice A_p n_p c_p,Value.slice B_p m_p d_p,Value.bool t_p,Value.slice E_p i_p e_p,Value.slice F_p j_p f_p,Value.bool s_u,Value.slice A_u n_u c_u,Value.slice B_u m_u d_u,Value.bool t_u,Value.slice E_u i_u e_u,Value.slice F_u j_u f_u,Value.bool s_r,Value.slice A_r n_r c_r,Value.slice B_r m_r d_r,Value.bool t_r,Value.slice E_r i_r e_r,Value.slice F_r j_r f_r,Value.bool s_q,Value.slice A_q n_q c_q,Value.slice B_q m_q d_q,Value.bool t_q,Value.slice E_q i_q e_q,Value.slice F_q j_q f_q] 56)):=(Below.refl _ _).alloc (Nat.le_refl _) _
 replace p:=p.below hh;replace q:=q.below hh;replace r:=r.below hh;replace u:=u.below hh;replace XA:=XA.below hh;replace XB:=XB.below hh;replace XC:=XC.below hh;replace XD:=XD.below hh;replace hb:=bend hb hh;clear hh
 generalize (W2.alloc (Obj.cells #[Value.bool s_p,Value.slice A_p n_p c_p,Value.slice B_p m_p d_p,Value.bool t_p,Value.slice E_p i_p e_p,Value.slice F_p j_p f_p,Value.bool s_u,Value.slice A_u n_u c_u,Value.slice B_u m_u d_u,Value.bool t_u,Value.slice E_u i_u e_u,Value.slice F_u j_u f_u,Value.bool s_r,Value.slice A_r n_r c_r,Value.slice B_r m_r d_r,Value.bool t_r,Value.slice E_r i_r e_r,Value.slice F_r j_r f_r,Value.bool s_q,Value.slice A_q n_q c_q,Value.slice B_q m_q d_q,Value.bool t_q,Value.slice E_q i_q e_q,Value.slice F_q j_q f_q] 56))=W5 at LL p q r u XA XB XC XD hb ⊢
 generalize W2.heap.size=gL at LL ⊢
 generalize hLL:[(PV.mk s_p A_p n_p c_p B_p m_p d_p t_p E_p i_p e_p F_p j_p f_p),(PV.mk s_u A_u n_u c_u B_u m_u d_u t_u E_u i_u e_u F_u j_u f_u),(PV.mk s_r A_r n_r c_r B_r m_r d_r t_r E_r i_r e_r F_r j_r f_r),(PV.mk s_q A_q n_q c_q B_q m_q d_q t_q E_q i_q e_q F_q j_q f_q)]=LP at LL
 generalize hVV:[(ax,ay),(dx,dy),(cx,cy),(bx,by_)]=VV
 have HLP:Hid (LP.length=4):=by rw [← hLL];rfl
 have HE:Hid (∀ wr,Below W5.heap.size W5 wr→Each PV.PR wr LP VV k):=by
  intro wr hB
  subst hLL hVV
  refine ⟨rfl,fun i P v hP hv=>?_⟩
  match i,hP,hv with
  | 0,hP,hv=>cases hP;cases hv;exact PR.below p hB
  | 1,hP,hv=>cases hP;cases hv;exact PR.below u hB
  | 2,hP,hv=>cases hP;cases hv;exact PR.below r hB
  | 3,hP,hv=>cases hP;cases hv;exact PR.below q hB
  | i+4,hP,hv=>cases hP
 clear hLL;have hb5:=hb.size;clear hzW
 go_loopg [9,30] 4 (fun gk told ix wr=>∃ (L:List PV) (l:List (Rat × Rat)) (m:Nat),Hid (gk+m=4)∧ix=.int .i64 (m:Int)∧Hid (l=picks (bothP ax ay bx by_ dx dy cx cy) VV m)∧l.length≤m∧Ln 56 W5.heap.size wr told L∧Hid (Each PV.PG wr L l (k+2))∧Below W5.heap.size W5 wr)
 case atStart=>exact ⟨[],[],0,rfl,rfl,rfl,Nat.le_refl _,Ln.nil _ _ _,Each.nil,Below.refl _ _⟩
 case round =>
  obtain ⟨L,l,m,HG,rfl,HP,hlm,LT,HQ,hB⟩:=hrel
  have hG:=HG.out
  have hb6:Below w.heap.size w wr:=bend hb hB
  by_cases hm:m < 4
  · obtain ⟨P,v,hP,hv,x⟩:=(HE.out wr hB).at_ (i:=m) (by rw [HLP.out];exact hm)
    obtain ⟨_,hgL,hc0,hc1,hc2,hc3,hc4,hc5⟩:=(LL.below hB).of hP
    replace p:=p.below hB;replace q:=q.below hB;replace r:=r.below hB;replace u:=u.below hB;replace XA:=XA.below hB;replace XB:=XB.below hB;replace XC:=XC.below hB;replace XD:=XD.below hB
    have hix:=idx_pt (g:=gL) (n:=4) (c:=4) hm
    have hlt:(m:Int) < 4:=by omega
    have HV:=Lib.hid hv
    obtain ⟨vx,vy⟩:=v
    obtain ⟨s_x,A_x,n_x,c_x,B_x,m_x,d_x,t_x,E_x,i_x,e_x,F_x,j_x,f_x⟩:=P
    replace x:PR wr s_x A_x n_x c_x B_x m_x d_x t_x E_x i_x e_x F_x j_x f_x vx vy k:=x
    simp only at hc0 hc1 hc2 hc3 hc4 hc5
    have hLm:L.length≤4:=by have:=HQ.out.1;omega
    clear hb hP hv hG hgL
    go_upto_region 7 with (fail)
    generalize hW:World.alloc _ _=W6
    obtain ⟨hh,XE,hzW6⟩:=mkbx18_10 hW;clear hW;replace p:=p.below hh;replace q:=q.below hh;replace r:=r.below hh;replace u:=u.below hh;replace XA:=XA.below hh;replace XB:=XB.below hh;replace XC:=XC.below hh;replace XD:=XD.below hh;replace x:=x.below hh;replace LT:=LT.below hh;replace hb6:=bend hb6 hh
    replace hB6:Below W5.heap.size W5 W6:=bend hB hh
    replace HQ:Hid (Each PV.PG W6 L l (k+2)):=Each.below HQ.out hh
    obtain ⟨xe0,xe1,xe2,xe3,xe4,xe5⟩:=XE.all;obtain ⟨xa0,xa1,xa2,xa3,xa4,xa5⟩:=XA.all;obtain ⟨xb0,xb1,xb2,xb3,xb4,xb5⟩:=XB.all;obtain ⟨xc0,xc1,xc2,xc3,xc4,xc5⟩:=XC.all;obtain ⟨xd0,xd1,xd2,xd3,xd4,xd5⟩:=XD.all
    by_cases g1:onS vx vy ax ay bx by_
    · have H1:=Lib.hid g1
      by_cases g2:onS vx vy dx dy cx cy
      · have H2:=Lib.hid g2
        have HK:Hid ((bothP ax ay bx by_ dx dy cx cy) (vx,vy)):=⟨g1,g2⟩
        clear g1 g2
        go_upto_region 8 with (first
    | (go_at_call 36;(with_reducible refine (on_yes x p q hk h1 H1.out).mono ?_);rintro e w_z ⟨rfl,hh⟩
       (try replace p:=p.below hh);(try replace q:=q.below hh);(try replace r:=r.below hh);(try replace u:=u.below hh);(try replace XA:=XA.below hh);(try replace XB:=XB.below hh);(try replace XC:=XC.below hh);(try replace XD:=XD.below hh);(try replace x:=x.below hh);(try replace XE:=XE.below hh);(try replace LT:=LT.below hh);replace hb6:=bend hb6 hh;replace hB6:=bend hB6 hh
       replace HQ:=Lib.hid (Each.below HQ.out hh)
       obtain ⟨xe0,xe1,xe2,xe3,xe4,xe5⟩:=XE.all;obtain ⟨xa0,xa1,xa2,xa3,xa4,xa5⟩:=XA.all;obtain ⟨xb0,xb1,xb2,xb3,xb4,xb5⟩:=XB.all;obtain ⟨xc0,xc1,xc2,xc3,xc4,xc5⟩:=XC.all;obtain ⟨xd0,xd1,xd2,xd3,xd4,xd5⟩:=XD.all)
    | (go_at_call 36;(with_reducible refine (on_yes x u r hk h1 H2.out).mono ?_);rintro e w_z ⟨rfl,hh⟩
       (try replace p:=p.below hh);(try replace q:=q.below hh);(try replace r:=r.below hh);(try replace u:=u.below hh);(try replace XA:=XA.below hh);(try replace XB:=XB.below hh);(try replace XC:=XC.below hh);(try replace XD:=XD.below hh);(try replace x:=x.below hh);(try replace XE:=XE.below hh);(try replace LT:=LT.below hh);replace hb6:=bend hb6 hh;replace hB6:=bend hB6 hh
       replace HQ:=Lib.hid (Each.below HQ.out hh)
       obtain ⟨xe0,xe1,xe2,xe3,xe4,xe5⟩:=XE.all;obtain ⟨xa0,xa1,xa2,xa3,xa4,xa5⟩:=XA.all;obtain ⟨xb0,xb1,xb2,xb3,xb4,xb5⟩:=XB.all;obtain ⟨xc0,xc1,xc2,xc3,xc4,xc5⟩:=XC.all;obtain ⟨xd0,xd1,xd2,xd3,xd4,xd5⟩:=XD.all))
        obtain ⟨A0,c0,rfl,hLc,hA0⟩:=LT.form
        go_wp2_with fail
        obtain ⟨go,hgo⟩:∃ go,go=gk:=⟨gk,rfl⟩
        have HGO:=Lib.hid hgo;clear hgo
        go_loopg [48] L.length (fun gj jx wj=>∃ j:Nat,Hid (gj+j=L.length)∧jx=.int .i64 (j:Int)∧Hid (∀ i,i < j→l[i]? ≠ some (vx,vy))∧Below w_z.heap.size w_z wj)
        case atStart=>exact ⟨0,Nat.add_zero _,rfl,fun i hi=>absurd hi (by omega),Below.refl _ _⟩
        case round =>
         obtain ⟨j,HJ,rfl,HN,hB7⟩:=hrel
         replace p:=p.below hB7;replace q:=q.below hB7;replace r:=r.below hB7;replace u:=u.below hB7;replace XA:=XA.below hB7;replace XB:=XB.below hB7;replace XC:=XC.below hB7;replace XD:=XD.below hB7;replace x:=x.below hB7;replace XE:=XE.below hB7;replace LT:=LT.below hB7
         have hb8:Below w.heap.size w wr:=bend hb6 hB7
         have hB8:Below W5.heap.size W5 wr:=bend hB6 hB7
         replace HQ:=Lib.hid (Each.below HQ.out hB7)
         obtain ⟨xe0,xe1,xe2,xe3,xe4,xe5⟩:=XE.all
         by_cases hj:j < L.length
         · obtain ⟨Q,v2,hQ,hv2,y⟩:=HQ.out.at_ hj
           obtain ⟨g,c1_,hv_,_,_,_,hd0,hd1,hd2,hd3,hd4,hd5⟩:=LT.at_ hQ
           have hA:A0=some ⟨g,0,none⟩:=by
            simp only [Value.slice.injEq] at hv_
            exact hv_.1
           subst hA
           have hix2:=idx_pt (g:=g) (n:=L.length) (c:=c0) hj
           have hltj:(j:Int) < (L.length:Int):=by omega
           have HV2:=Lib.hid hv2
           obtain ⟨ux,uy⟩:=v2
           obtain ⟨s_y,A_y,n_y,c_y,B_y,m_y,d_y,t_y,E_y,i_y,e_y,F_y,j_y,f_y⟩:=Q
           replace y:PG wr s_y A_y n_y c_y B_y m_y d_y t_y E_y i_y e_y F_y j_y f_y ux uy (k+2):=y
           simp only at hd0 hd1 hd2 hd3 hd4 hd5
           clear hv_ hQ hv2 hj
           go_upto_region 11 with (fail)
           generalize hW:World.alloc _ _=W8
           obtain ⟨hh,XF,hzW8⟩:=mkbx18_10 hW;clear hW;replace p:=p.below hh;replace q:=q.below hh;replace r:=r.below hh;replace u:=u.below hh;replace XA:=XA.below hh;replace XB:=XB.below hh;replace XC:=XC.below hh;replace XD:=XD.below hh;replace x:=x.below hh;replace XE:=XE.below hh;replace LT:=LT.below hh;replace y:=y.below hh;replace hb8:=bend hb8 hh
           replace hB8:Below W5.heap.size W5 W8:=bend hB8 hh
           have hB9:Below w_z.heap.size w_z W8:=bend hB7 hh
           replace HQ:Hid (Each PV.PG W8 L l (k+2)):=Each.below HQ.out hh
           obtain ⟨xe0,xe1,xe2,xe3,xe4,xe5⟩:=XE.all;obtain ⟨xf0,xf1,xf2,xf3,xf4,xf5⟩:=XF.all
           by_cases hs:vx=ux∧vy=uy
           · have HS:Hid (decide (vx=ux∧vy=uy)=true):=decide_eq_true hs
             have HM:Hid ((vx,vy) ∈ l):=List.mem_of_getElem? (HV2.out.trans (by rw [hs.1,hs.2]))
             clear hs
             go_wp2_with (first
             | (go_at_call 43;(with_reducible refine (psame_p x y.pr (by omega) (by omega) h1 (by omega) true HS.out).mono ?_);rintro e w_y ⟨rfl,hh⟩
                (try replace p:=p.below hh);(try replace q:=q.below hh);(try replace r:=r.below hh);(try replace u:=u.below hh);(try replace XA:=XA.below hh);(try replace XB:=XB.below hh);(try replace XC:=XC.below hh);(try replace XD:=XD.below hh);(try replace x:=x.below hh);(try replace XE:=XE.below hh);(try replace LT:=LT.below hh);replace hb8:=bend hb8 hh;replace hB8:=bend hB8 hh;replace hB9:=bend hB9 hh
                replace HQ:=Lib.hid (Each.below HQ.out hh)))
             go_roundg (go - 1)
             case measure=>have:=HG.out;have:=HGO.out;omega
             case rel =>
              refine ⟨L,l,m+1,by have:=HG.out;have:=HGO.out;show _=_;omega,by go_num,?_,by omega,LT,HQ.out,hB8⟩
              show _=_
              rw [picks_succ HV.out,← HP.out,pick_old HM.out]
           · have HS:Hid (decide (vx=ux∧vy=uy)=false):=decide_eq_false hs
             have HM:Hid ((ux,uy) ≠ (vx,vy)):=fun e=>hs ⟨(congrArg Prod.fst e).symm,(congrArg Prod.snd e).symm⟩
             clear hs
             go_wp2_with (first
             | (go_at_call 43;(with_reducible refine (psame_p x y.pr (by omega) (by omega) h1 (by omega) false HS.out).mono ?_);rintro e w_y ⟨rfl,hh⟩
                (try replace p:=p.below hh);(try replace q:=q.below hh);(try replace r:=r.below hh);(try replace u:=u.below hh);(try replace XA:=XA.below hh);(try replace XB:=XB.below hh);(try replace XC:=XC.below hh);(try replace XD:=XD.below hh);(try replace x:=x.below hh);(try replace XE:=XE.below hh);(try replace LT:=LT.below hh);replace hb8:=bend hb8 hh;replace hB8:=bend hB8 hh;replace hB9:=bend hB9 hh
                replace HQ:=Lib.hid (Each.below HQ.out hh)))
             go_roundg (gk - 1)
             case measure=>have:=HJ.out;omega
             case rel =>
              refine ⟨j+1,by have:=HJ.out;show _=_;omega,by go_num,fun i hi=>?_,hB9⟩
              rcases Nat.lt_or_ge i j with h | h
              · exact HN.out i h
              · obtain rfl:i=j:=by omega
                rw [HV2.out]
                exact fun e=>HM.out (Option.some.inj e)
         · have hltj:¬ (j:Int) < (L.length:Int):=by omega
           have HM:Hid ((vx,vy) ∉ l):=by
            intro e
            obtain ⟨i,hi⟩:=List.getElem?_of_mem e
            have h2:=(List.getElem?_eq_some_iff.1 hi).1
            exact HN.out i (by have:=HQ.out.1;omega) hi
           clear hj
           go_wp2_with (first
            | (go_at_call 143;(with_reducible refine (fresh_p x (by omega) h1).mono ?_);rintro e w_r ⟨s_rr,A_rr,n_rr,c_rr,B_rr,m_rr,d_rr,t_rr,E_rr,i_rr,e_rr,F_rr,j_rr,f_rr,rfl,rr,hh⟩
               (try replace p:=p.below hh);(try replace q:=q.below hh);(try replace r:=r.below hh);(try replace u:=u.below hh);(try replace XA:=XA.below hh);(try replace XB:=XB.below hh);(try replace XC:=XC.below hh);(try replace XD:=XD.below hh);(try replace x:=x.below hh);(try replace XE:=XE.below hh);(try replace LT:=LT.below hh);replace hb8:=bend hb8 hh;replace hB8:=bend hB8 hh
               replace HQ:=Lib.hid (Each.below HQ.out hh))
            | (at_builtin
               have hal:Below w_r.heap.size w_r (w_r.alloc (Obj.cells #[Value.bool s_rr,Value.slice A_rr n_rr c_rr,Value.slice B_rr m_rr d_rr,Value.bool t_rr,Value.slice E_rr i_rr e_rr,Value.slice F_rr j_rr f_rr] 56)):=(Below.refl _ _).alloc (Nat.le_refl _) _
               refine wpList_push Tryz.underlying64 info_pt rfl (.tmp 56) (.tmp 59) rfl (p:=(PV.mk s_rr A_rr n_rr c_rr B_rr m_rr d_rr t_rr E_rr i_rr e_rr F_rr j_rr f_rr)) (k0:=1) (b:=w_r.heap.size) rfl rfl (LT.below hal) (Nat.le_trans hB8.size hal.size) (by omega) (heap_alloc_new w_r _) ?_
               intro v3 w3 hn3 hg3))
           have hE3:Each PV.PG (w_r.alloc (Obj.cells #[Value.bool s_rr,Value.slice A_rr n_rr c_rr,Value.slice B_rr m_rr d_rr,Value.bool t_rr,Value.slice E_rr i_rr e_rr,Value.slice F_rr j_rr f_rr] 56)) L l (k+2):=Each.below HQ.out hal
           have hp3:PV.PG (w_r.alloc (Obj.cells #[Value.bool s_rr,Value.slice A_rr n_rr c_rr,Value.slice B_rr m_rr d_rr,Value.bool t_rr,Value.slice E_rr i_rr e_rr,Value.slice F_rr j_rr f_rr] 56)) (PV.mk s_rr A_rr n_rr c_rr B_rr m_rr d_rr t_rr E_rr i_rr e_rr F_rr j_rr f_rr) (vx,vy) (k+2):=PG.below rr hal
           have hst:=Each.stays hE3 (LT.below hal) hg3
           have hB9:=Ln.under (LT.below hal) hg3 (bend hB8 hal) (Nat.le_refl _)
           go_roundg (go - 1)
           case measure=>have:=HG.out;have:=HGO.out;omega
           case rel =>
            refine ⟨L ++ [(PV.mk s_rr A_rr n_rr c_rr B_rr m_rr d_rr t_rr E_rr i_rr e_rr F_rr j_rr f_rr)],l ++ [(vx,vy)],m+1,by have:=HG.out;have:=HGO.out;show _=_;omega,by go_num,?_,by rw [List.length_append];show l.length+1≤_;omega,hn3,Each.push hE3 hst (hst _ _ hp3),hB9⟩
            show _=_
            rw [picks_succ HV.out,← HP.out,pick_yes HK.out HM.out]
      · have H2:=Lib.hid g2
        have HK:Hid (¬ (bothP ax ay bx by_ dx dy cx cy) (vx,vy)):=fun e=>g2 e.2
        clear g1 g2
        go_wp2_with (first
    | (go_at_call 36;(with_reducible refine (on_yes x p q hk h1 H1.out).mono ?_);rintro e w_z ⟨rfl,hh⟩
       (try replace p:=p.below hh);(try replace q:=q.below hh);(try replace r:=r.below hh);(try replace u:=u.below hh);(try replace XA:=XA.below hh);(try replace XB:=XB.below hh);(try replace XC:=XC.below hh);(try replace XD:=XD.below hh);(try replace x:=x.below hh);(try replace XE:=XE.below hh);(try replace LT:=LT.below hh);replace hb6:=bend hb6 hh;replace hB6:=bend hB6 hh
       replace HQ:=Lib.hid (Each.below HQ.out hh)
       obtain ⟨xe0,xe1,xe2,xe3,xe4,xe5⟩:=XE.all;obtain ⟨xa0,xa1,xa2,xa3,xa4,xa5⟩:=XA.all;obtain ⟨xb0,xb1,xb2,xb3,xb4,xb5⟩:=XB.all;obtain ⟨xc0,xc1,xc2,xc3,xc4,xc5⟩:=XC.all;obtain ⟨xd0,xd1,xd2,xd3,xd4,xd5⟩:=XD.all)
    | (go_at_call 36;(with_reducible refine (on_no x u r hk h1 H2.out).mono ?_);rintro e w_z ⟨rfl,hh⟩
       (try replace p:=p.below hh);(try replace q:=q.below hh);(try replace r:=r.below hh);(try replace u:=u.below hh);(try replace XA:=XA.below hh);(try replace XB:=XB.below hh);(try replace XC:=XC.below hh);(try replace XD:=XD.below hh);(try replace x:=x.below hh);(try replace XE:=XE.below hh);(try replace LT:=LT.below hh);replace hb6:=bend hb6 hh;replace hB6:=bend hB6 hh
       replace HQ:=Lib.hid (Each.below HQ.out hh)
       obtain ⟨xe0,xe1,xe2,xe3,xe4,xe5⟩:=XE.all;obtain ⟨xa0,xa1,xa2,xa3,xa4,xa5⟩:=XA.all;obtain ⟨xb0,xb1,xb2,xb3,xb4,xb5⟩:=XB.all;obtain ⟨xc0,xc1,xc2,xc3,xc4,xc5⟩:=XC.all;obtain ⟨xd0,xd1,xd2,xd3,xd4,xd5⟩:=XD.all))
        go_roundg (gk - 1)
        case measure=>have:=HG.out;omega
        case rel =>
         refine ⟨L,l,m+1,by have:=HG.out;show _=_;omega,by go_num,?_,by omega,LT,HQ.out,hB6⟩
         show _=_
         rw [picks_succ HV.out,← HP.out,pick_no HK.out]
    · have H1:=Lib.hid g1
      have HK:Hid (¬ (bothP ax ay bx by_ dx dy cx cy) (vx,vy)):=fun e=>g1 e.1
      clear g1
      go_wp2_with (first
    | (go_at_call 36;(with_reducible refine (on_no x p q hk h1 H1.out).mono ?_);rintro e w_z ⟨rfl,hh⟩
       (try replace p:=p.below hh);(try replace q:=q.below hh);(try replace r:=r.below hh);(try replace u:=u.below hh);(try replace XA:=XA.below hh);(try replace XB:=XB.below hh);(try replace XC:=XC.below hh);(try replace XD:=XD.below hh);(try replace x:=x.below hh);(try replace XE:=XE.below hh);(try replace LT:=LT.below hh);replace hb6:=bend hb6 hh;replace hB6:=bend hB6 hh
       replace HQ:=Lib.hid (Each.below HQ.out hh)
       obtain ⟨xe0,xe1,xe2,xe3,xe4,xe5⟩:=XE.all;obtain ⟨xa0,xa1,xa2,xa3,xa4,xa5⟩:=XA.all;obtain ⟨xb0,xb1,xb2,xb3,xb4,xb5⟩:=XB.all;obtain ⟨xc0,xc1,xc2,xc3,xc4,xc5⟩:=XC.all;obtain ⟨xd0,xd1,xd2,xd3,xd4,xd5⟩:=XD.all))
      go_roundg (gk - 1)
      case measure=>have:=HG.out;omega
      case rel =>
       refine ⟨L,l,m+1,by have:=HG.out;show _=_;omega,by go_num,?_,by omega,LT,HQ.out,hB6⟩
       show _=_
       rw [picks_succ HV.out,← HP.out,pick_no HK.out]
  · have hlt:¬ (m:Int) < 4:=by omega
    obtain rfl:m=4:=by omega
    clear hlm hG
    go_wp2_with fail
    (try rw [Exit.noGoto_ret])
    go_ret
    exact ⟨_,L,rfl,LT.base_le hb5,by rw [← HP.out];exact HQ.out,hb6⟩
end Go.Proofs.YtmgklaklnaihpaaGreat
