import Derived.RangeFuncBound
import Derived.RangeFuncCalls
import Derived.Shelf.Abstract
import Derived.Shelf.RegionOpen
import Derived.OwnWalkIn
import Derived.TacticsInMore
import Derived.LoopNIn
import Derived.LoopIn
import Derived.Test.YtbmcofdodfcnnaaGreatDoorGXA
set_option linter.all false
set_option maxHeartbeats 0
set_option maxRecDepth 100000
namespace Go
open Proofs Proofs.Tryz RowKit Shelf
attribute [local go_sem] Oper.semAt_some
def Ic (c:q7):Prop:=(0<=c.num/\c.num<4294967296)/\(c.size=1\/c.size=2\/c.size=4)
def AK (l) (h:l≠[]):Ic (cO l)/\(cO l).size<=l.length:=by
 have q:0<l.length:=List.length_pos_iff.2 h;have j:=kM (l.take 2);have v:=kM (l.take 4);have u:=kM l;have A:(2:Int)^(8*(l.take 2).length)<=2^32:=gU (by simp;omega)
 have C:(2:Int)^(8*(l.take 4).length)<=2^32:=gU (by simp;omega)
 have e:(2:Int)^32=4294967296:=by decide
 unfold cO
 split
 .have w:l.length=1:=by omega
  have y:(2:Int)^(8*l.length)<=2^32:=gU (by omega)
  exact ⟨⟨⟨u.1,by simp only;omega⟩,.inl w⟩,by simp only;omega⟩
 split
 .exact ⟨⟨⟨j.1,by simp only;omega⟩,.inr (.inl rfl)⟩,by simp only;omega⟩
 split
 .exact ⟨⟨⟨v.1,by simp only;omega⟩,.inr (.inr rfl)⟩,by simp only;omega⟩
 exact ⟨⟨⟨j.1,by simp only;omega⟩,.inr (.inl rfl)⟩,by simp only;omega⟩
abbrev CK:Type:={ p:Nat×q7 // Ic p.2 }
def tC (x:CK):Array Value:=#[.int .i64 x.1.1,.agg #[.int .i64 x.1.2.size,.int .i64 x.1.2.num,.int .i64 x.1.2.ins.op,.int .i64 x.1.2.ins.rd,.int .i64 x.1.2.ins.rs1,.int .i64 x.1.2.ins.rs2,.int .i64 x.1.2.ins.imm]]
def gY:Nat->Nat->List UInt8->List CK
 | 0,_,_=>[]
 | n+1,k,l=>if h:l=[] then [] else ⟨(k,cO l),(AK l h).1⟩::gY n (k+(cO l).size) (l.drop (cO l).size)
def mK (n k):gY n k []=[]:=by cases n<;>simp[gY]
def Ds:∀(n m k:Nat) (l:List UInt8),l.length<=n->l.length<=m->gY n k l=gY m k l
 | 0,m,k,l,h,_=>by
  have:l=[]:=List.eq_nil_of_length_eq_zero (by omega)
  rw[this,mK,mK]
 | n+1,0,k,l,_,h=>by
  have:l=[]:=List.eq_nil_of_length_eq_zero (by omega)
  rw[this,mK,mK]
 | n+1,m+1,k,l,h1,h2=>by
  by_cases j:l=[]
  .rw[j,mK,mK]
  have u:1<=(cO l).size:=by rcases (AK l j).1.2 with e|e|e<;>omega
  have q:=List.length_pos_iff.2 j;simp only[gY,dif_neg j];rw[Ds n m _ (l.drop (cO l).size) (by simp;omega) (by simp;omega)]
def lT (W W':World):Prop:=W.heap.size<=W'.heap.size/\∀(k:Nat) (cs:Array Value) (t:TypeId) (fr:Nat×Nat),W.heap[k]?=some (Obj.cells cs t fr)->(t=139\/t=9)->W'.heap[k]?=some (Obj.cells cs t fr)
def tv {A B C:World} (h:lT A B) (k:lT B C):lT A C:=⟨Nat.le_trans h.1 k.1,λ i cs t fr hi j=>k.2 i cs t fr (h.2 i cs t fr hi j) j⟩
def uB {A B:World} (h:Below A.heap.size A B):lT A B:=⟨h.size,λ k _ _ _ j _=>(h.block k (Array.getElem?_eq_some_iff.1 j).1).trans j⟩
def IJ (W) (l) (o o') (j:W.heap[l]?=some o) (q:o.isCells=false):lT W (W.putObj l o'):=by
 refine ⟨by simp,λ k cs t fr h _=>?_⟩
 by_cases e:k=l
 .subst e
  rw[j]at h;cases h
  simp[Obj.isCells]at q
 exact (World.putObj_heap_other e).trans h
def Ky {A B:World} (h:Below A.heap.size A B):A.grownBy B none:=⟨h.os,h.tape,h.output,h.size,λ k j _=>h.block k j⟩
def LC (n) (hn:1<=n) (l Bn) (s) (hs:s.size<=2000000) (J Jx:List CK->World->Prop) (W) (hJ:AbidesFrom W.heap.size J) (hY:∀j x W1,J j W1->j.length<s.size->YieldAt Fence.wide (n-1) prog l (tC x) W1 λ e M=>
      (e=.returned (.bool true)/\J (j++[x]) M/\lT W1 M)\/(e=.returned (.bool false)/\Jx (j++[x]) M)) (ai:W.heap[Bn]?=some (.cells #[.string s] 9 (0,0))) (h0:J [] W):
    CallsIn Fence.wide n prog 137 #[.func (.yield l) #[] #[],.pointer (some ⟨Bn,0,none⟩)] W λ e M=>(∃v,e=.returned v)/\
     ((∃ys,ys=gY s.size 0 s.data.toList/\J ys M)\/(∃j,j <+:gY s.size 0 s.data.toList/\Jx j M)):=by
 have HY:=aA hY;clear hY;refine callsIn_of_wp func137 rfl trivial ?_ rfl;simp only[ntmps137,List.size_toArray,List.length_cons,List.length_nil,Nat.reduceAdd,Nat.reduceSub,Array.replicate_succ,Array.replicate_zero,List.push_toArray,List.append_toArray,List.nil_append,List.cons_append];gi_wp2
 gi_loopw [3] (λ p wr=>∃(j:List CK) (k:Nat),p=.int .i64 k/\k<=s.size/\j.length<=k/\gY s.size 0 s.data.toList=j++gY (s.size-k) k (s.data.toList.drop k)/\wr.heap[Bn]?=some (.cells #[.string s] 9 (0,0))/\W.heap.size<=wr.heap.size/\J j wr)
  (λ p _=>s.size-(intOf p).toNat)
 case atStart=>exact ⟨[],0,rfl,Nat.zero_le _,Nat.zero_le _,by simp,ai,zn,h0⟩
 case round=>
  obtain ⟨j,k,rfl,hk,ba,hx,hb,am,T⟩:=hrel;have HX:=aA hx;clear hx;have cb:wr.cell? ⟨Bn,0,none⟩=some (.string s):=by rw[Lib.cell_of_heap hb];rfl
  by_cases a8:k<s.size
  .have ak:(k:Int)<s.size:=by omega
   have aw:(k:Int)<=s.size:=by omega
   have L:s.data.toList.drop k≠[]:=by
    intro e;have:=congrArg List.length e;rw[List.length_drop,pu]at this;simp at this;omega
   have E:=AK (s.data.toList.drop k) L;have he:(s.extract k s.size).data.toList=s.data.toList.drop k:=Lib.extract_to_end s k;(have O:=aA (λ w'=>JK (s.extract k s.size) w'));rw[he]at O
   have P:Hid (gY (s.size-k) k (s.data.toList.drop k)=⟨(k,cO (s.data.toList.drop k)),E.1⟩::gY (s.size-(k+(cO (s.data.toList.drop k)).size)) (k+(cO (s.data.toList.drop k)).size) (s.data.toList.drop (k+(cO (s.data.toList.drop k)).size))):=aA (by
    (obtain ⟨m,hm⟩:∃m,s.size-k=m+1:=⟨s.size-k-1,by omega⟩);rw[hm];simp only[gY,dif_neg L,List.drop_drop];(have hd:(s.data.toList.drop (k+(cO (s.data.toList.drop k)).size)).length=s.size-(k+(cO (s.data.toList.drop k)).size):=by rw[List.length_drop,pu]);rw[Ds m (s.size-(k+(cO (s.data.toList.drop k)).size)) _ _ (by rw[hd];rcases E.1.2 with e|e|e<;>omega) (by rw[hd];exact zn)])
   have al:1<=(cO (s.data.toList.drop k)).size/\k+(cO (s.data.toList.drop k)).size<=s.size:=by
    have h2:=E.2;rw[List.length_drop,pu]at h2;rcases E.1.2 with e|e|e<;>omega
   generalize hC:cO (s.data.toList.drop k)=C at *;clear hC he L;obtain ⟨h,u,⟨A,D,w,y,q⟩⟩:=C;unfold gC at O;simp only at O al;gi_wp2_with fail;refine ⟨trivial,(callsIn_wide.2 (O.out _)).mono ?_⟩;rintro e N ⟨rfl,H⟩;have F:Below wr.heap.size wr (N.alloc (.cells #[.int .i64 h,.int .i64 u,.int .i64 A,.int .i64 D,.int .i64 w,.int .i64 y,.int .i64 q] 139)):=H.alloc H.size _;(have Q:J j (N.alloc (.cells #[.int .i64 h,.int .i64 u,.int .i64 A,.int .i64 D,.int .i64 w,.int .i64 y,.int .i64 q] 139)):=hJ j wr _ none T (Ky F) (λ r e=>by cases e));have U:=uB F;have X:(N.alloc (.cells #[.int .i64 h,.int .i64 u,.int .i64 A,.int .i64 D,.int .i64 w,.int .i64 y,.int .i64 q] 139)).heap[N.heap.size]?=some (.cells #[.int .i64 h,.int .i64 u,.int .i64 A,.int .i64 D,.int .i64 w,.int .i64 y,.int .i64 q] 139 (0,0)):=heap_alloc_new N _;(obtain ⟨fn,ax,Z,ao,hy,hR⟩:=HY.out j ⟨(k,⟨h,u,⟨A,D,w,y,q⟩⟩),E.1⟩ _ Q (by omega));dsimp only[tC]at hy;have az:=aA F;have ae:=aA U;have ab:=aA X;clear F Q U X H O;gi_wp2_with fail;refine hR.mono ?_;rintro e W3 (⟨rfl,R,I⟩|⟨rfl,G⟩)
   .have K:=tv ae.out I
    have V:=K.2 Bn _ _ _ hb (.inr rfl);have Y:=I.2 _ _ _ _ ab.out (.inl rfl);(have c3:W3.cell? ⟨N.heap.size,0,none⟩=some (.int .i64 h):=by rw[Lib.cell_of_heap Y];rfl);(have wa:IntKind.i64.wrap ((k:Int)+h)=(k:Int)+h:=zw _ (by omega));have aj:=aA R;have af:=aA K.1;have aa:=aA V;clear I K Y V R;gi_wp2_with fail;go_roundw
    case rel=>
     (refine ⟨j++[⟨(k,⟨h,u,⟨A,D,w,y,q⟩⟩),E.1⟩],k+h,by go_num,by omega,by simp;omega,?_,aa.out,Nat.le_trans am af.out,aj.out⟩);rw[HX.out,P.out];simp
    case measure=>simp[intOf];omega
   have ac:=aA G;clear G;gi_wp2_with fail;refine zp (results_none rfl _ _ _) rfl ?_;refine ⟨⟨_,rfl⟩,.inr ⟨_,?_,ac.out⟩⟩;rw[HX.out,P.out];exact ⟨gY (s.size-(k+h)) (k+h) (s.data.toList.drop (k+h)),by simp⟩
  have ak:¬(k:Int)<s.size:=by omega
  have a7:k=s.size:=by omega
  gi_wp2;go_end0;refine ⟨⟨_,rfl⟩,.inl ?_⟩
  have e:gY s.size 0 s.data.toList=j:=by
   (rw[HX.out,show s.size-k=0 by omega]);simp[gY]
  rw[e];exact T
def BN (n) (C:1<=n) (Bn) (s) (D:s.size<=2000000) (w) (h:w.heap[Bn]?=some (.cells #[.string s] 9 (0,0))):
    SeqStopsK Fence.wide n prog 137 #[.pointer (some ⟨Bn,0,none⟩)] tC lT (λ E=>E=gY s.size 0 s.data.toList) (λ j=>j <+:gY s.size 0 s.data.toList) s.size w:=λ l J q W y v _ A u=>
 LC n C l Bn s D J q W v A ((y.block Bn (Array.getElem?_eq_some_iff.1 h).1).trans h) u
def Dt (n) (s) (w):
    CallsIn Fence.wide n prog 75 #[.string s] w λ e w'=>e=.returned (.func (.func 137) #[] #[.pointer (some ⟨w.heap.size,0,none⟩)])/\w'=w.alloc (.cells #[.string s] 9):=by
 refine callsIn_of_wp func75 rfl trivial ?_ rfl;simp only[ntmps75,List.size_toArray,List.length_cons,List.length_nil,Nat.reduceAdd,Nat.reduceSub,Array.replicate_succ,Array.replicate_zero,List.push_toArray,List.append_toArray,List.nil_append,List.cons_append];gi_wp2;go_ret;exact ⟨rfl,rfl⟩
def JT (B b) (bs) (s) (w) (h:Lib.IsBuilder 134 5 B b bs w) (ab:bs.length+s.size<=140737488355328) (ai:B<=w.heap.size):
    Calls prog 76 #[.pointer (some ⟨b,0,none⟩),.string s] w λ e w'=>e=.returned (.tuple #[.int .i64 s.size,.nilIface])/\Lib.BuilderAt 134 5 B b (.pointer (some ⟨b,0,none⟩)) (bs++Lib.strCells s) w'/\Below B w w'/\KeepsOthers w w'/\lT w w':=by
 obtain ⟨i0,hi,T,U,V⟩:=info_parts Tryz.infoByte
 have HC:Hid (Calls prog 139 #[.pointer (some ⟨b,0,none⟩)] w λ e w'=>e=.returned (.tuple #[])/\Lib.BuilderAt 134 5 B b (.pointer (some ⟨b,0,none⟩)) bs w'/\Below B w w'/\KeepsOthers w w'/\lT w w'):=aA (by
  rcases h with h|h
  .refine (BW b w h.cell0 h.shape h.frozen0).mono λ e w' ⟨he,hw⟩=>?_
   subst hw;refine ⟨he,h.used _,(Below.refl B w).setCell (p:=⟨b,0,none⟩) h.1 _,KeepsOthers.setCell _ _ _,?_⟩;obtain ⟨_,v,hb,_⟩:=h;refine ⟨by simp[World.setCell],λ k cs t fr q L=>?_⟩
   have G:k≠b:=λ e=>by
    subst e;rw[hb]at q;(cases q);rcases L with h|h<;>exact absurd h (by decide)
   exact (Below.heap_setCell _ _ _ _ (λ e=>G e)).trans q
  refine (CE b w h.cell0).mono λ e w' ⟨he,hw⟩=>?_
  subst hw;exact ⟨he,h,Below.refl B _,KeepsOthers.refl _,zn,λ _ _ _ _ q _=>q⟩)
 go_in;go_wp2_with fail;refine HC.out.mono ?_;rintro e W ⟨rfl,Z,J,D,E⟩;have P:=Z.lt;obtain ⟨hB,v,F,C,Q⟩:=Z;have c1:W.cell? ⟨b,1,none⟩=some v:=by rw[Lib.cell_of_heap F];rfl
 have al:=J.size;go_wp2_with (at_builtin;refine Lib.wpList_append_own_string _ rfl _ _ 65 9 rfl B 5 i0 underlying65 underlying9 hi T U V _ _ _ rfl C s rfl ?c3 ?c4 ?c5 ?_);case c3=>unfold maxLen;omega
 case c4=>omega
 case c5=>omega
 intro M H y j _;have A:H.heap[b]?=some (.cells #[.pointer (some ⟨b,0,none⟩),v] 134 (0,0)):=(j.block b P (λ e=>Q e.symm)).trans F
 have d1:H.cell? ⟨b,1,none⟩=some v:=by rw[Lib.cell_of_heap A];rfl
 have df:H.frozen? ⟨b,1,none⟩=false:=by simp[World.frozen?,A]
 have I:=aA (Lib.BuilderAt.put (p:=.pointer (some ⟨b,0,none⟩)) (bs':=bs++Lib.strCells s) hB A (by simpa[Lib.strCells_length] using y) (by decide:134≠5))
 have N:=aA ((J.grown j (by omega) (λ k q=>(C.lt k q).1)).setCell (p:=⟨b,1,none⟩) hB M)
 have u:∀r,v.ownBlock=some r->∃cs fr,W.heap[r]?=some (.cells cs 5 fr):=λ r hr=>by
  obtain ⟨_,⟨rfl,_⟩|⟨g,cap,O,rfl,_,K,_⟩⟩:=C
  .simp[Value.ownBlock]at hr
  have:g=r:=by simpa[Value.ownBlock] using hr
  subst this;exact ⟨_,_,K⟩
 have X:Hid (KeepsOthers w (H.setCell ⟨b,1,none⟩ M)/\lT w (H.setCell ⟨b,1,none⟩ M)):=aA (by
  refine ⟨D.trans ((?_:KeepsOthers W H).trans (KeepsOthers.setCell _ _ _)),tv E ?_⟩
  .refine ⟨j.size,λ k o q ho=>(j.block k (Array.getElem?_eq_some_iff.1 q).1 (λ e=>?_)).trans q⟩
   obtain ⟨cs,fr,K⟩:=u k e.symm;rw[K]at q;(cases q);simp[Obj.isCells]at ho
  refine ⟨by simpa[World.setCell] using j.size,λ k cs t fr q L=>?_⟩
  have G:k≠b:=λ e=>by
   subst e;rw[F]at q;(cases q);rcases L with h|h<;>exact absurd h (by decide)
  refine (Below.heap_setCell _ _ _ _ (λ e=>G e)).trans ((j.block k (Array.getElem?_eq_some_iff.1 q).1 (λ e=>?_)).trans q)
  obtain ⟨ag,ah,K⟩:=u k e.symm;rw[K]at q;cases q
  rcases L with h|h<;>exact absurd h (by decide))
 obtain ⟨Y,n',cap,rfl⟩:∃Y n' cap,M=.slice Y n' cap:=by
  rcases y.2 with ⟨R,_⟩|⟨g,cap,O,R,_⟩
  .exact ⟨_,_,_,R⟩
  exact ⟨_,_,_,R⟩
 clear y j u D E;go_wp2;go_ret2;exact ⟨rfl,I.out,N.out,X.out.1,X.out.2⟩
attribute [local go_sem] Oper.semAt_some
def jn (xs:List CK):List UInt8:=xs.flatMap λ x=>gB x.1.2++[10]
def Mz (h:List CK) (x:CK):jn (h++[x])=jn h++(gB x.1.2++[10]):=by simp[jn]
def Nz (n) (h:0<=n) (j:n<4294967296):(Lib.itoa n).length<=40:=by
 have:=Lib.itoa_length_le n (by omega) (by omega)
 omega
def Oh (x:CK):(gB x.1.2).length<=2100:=by
 obtain ⟨⟨k,c⟩,⟨h,j⟩,q⟩:=x;have u:=vC c.ins;have v:=Nz c.num h j;simp only at q ⊢;unfold gB
 repeat' split
 all_goals simp
 all_goals omega
def Eo (h:List CK):(jn h).length<=2101*h.length:=by
 induction h with
 | nil=>simp[jn]
 | cons x h ih=>
  have:=Oh x;have e:jn (x::h)=(gB x.1.2++[10])++jn h:=by simp[jn]
  rw[e];simp only[List.length_append,List.length_cons,List.length_nil];omega
def rJ (s:ByteArray):List UInt8:=jn (gY s.size 0 s.data.toList)
def SO {T e:TypeId} {B b:Nat} {f:List CK->List Value} (n):OwnFrom n (λ G W=>Lib.IsBuilder T e B b (f G) W):=λ s A W row M H I=>by
 have w:∀p,Lib.BuilderAt T e B b p (f s) A->Lib.BuilderAt T e B b p (f s) W:=λ p h=>by
  obtain ⟨L,v,y,F,E⟩:=h;have C:=(Array.getElem?_eq_some_iff.1 y).1;refine ⟨L,v,(H.block b C (λ e=>?_)).trans y,le F (λ g q=>H.block g (F.lt g q).2 (λ e=>?_)),E⟩
  .obtain ⟨_,o,j,D⟩:=I b e.symm
   rw[y]at j;(cases j);simp[Obj.isCells]at D
  obtain ⟨_,o,j,D⟩:=I g e.symm;obtain ⟨_,⟨rfl,_⟩|⟨K,cap,J,rfl,_,u,_⟩⟩:=F
  .simp[Value.ownBlock]at q
  have:K=g:=by simpa[Value.ownBlock] using q
  subst this;rw[u]at j;cases j
  simp[Obj.isCells]at D
 rcases M with h|h
 .exact .inl (w _ h)
 exact .inr (w _ h)
def Jv (s) (w) (hE:aS w) (hs:s.size<=1024):
    aG prog 41 #[.string s] w (.tuple #[.string ⟨(rJ s).toArray⟩,.int .i64 0]):=by
 unfold aG;have bk:(s.size:Int)<=1024:=by omega
 have HE:=aA hE;clear hE;refine (callsIn_wide (n:=6)).1 ?_;refine callsIn_of_wp_marks func41 rfl trivial ?_ rfl;simp only[ntmps41,List.size_toArray,List.length_cons,List.length_nil,Nat.reduceAdd,Nat.reduceSub,Array.replicate_succ,Array.replicate_zero,List.push_toArray,List.append_toArray,List.nil_append,List.cons_append];gi_wp2_with fail;refine ⟨trivial,(Dt _ s _).mono ?_⟩;rintro e w1 ⟨rfl,rfl⟩;gi_wp2_with fail;have bm:((w.alloc (.cells #[.pointer none,.slice none 0 0] 134)).alloc (.cells #[.string s] 9)).heap.size=w.heap.size+2:=by simp
 have ac:Below w.heap.size w ((w.alloc (.cells #[.pointer none,.slice none 0 0] 134)).alloc (.cells #[.string s] 9)):=aJ.alloc (by rw[za];omega) _
 have ah:((w.alloc (.cells #[.pointer none,.slice none 0 0] 134)).alloc (.cells #[.string s] 9)).heap[w.heap.size+1]?=some (.cells #[.string s] 9 (0,0)):=by
  have:=heap_alloc_new (w.alloc (.cells #[.pointer none,.slice none 0 0] 134)) (.cells #[.string s] 9);rwa[za]at this
 have ag:Lib.IsBuilder 134 5 w.heap.size w.heap.size (Lib.byteCells (jn [])) ((w.alloc (.cells #[.pointer none,.slice none 0 0] 134)).alloc (.cells #[.string s] 9)):=.inl ⟨zn,.slice none 0 0,(Below.heap_alloc _ _ _ (by simp)).trans (heap_alloc_new w _),World.ownsRow_nil _ _ _ _,by simp[Value.ownBlock]⟩
 generalize (w.alloc (.cells #[.pointer none,.slice none 0 0] 134)).alloc (.cells #[.string s] 9)=W0 at *
 refine wpIn_rangeFunc_ownH rfl (by omega) (gf:=137) (lb:=#[.pointer (some ⟨w.heap.size+1,0,none⟩)]) rfl trivial (enters_of func137 (by kernel_rfl) rfl)
  (BN (6-1) (by omega) (w.heap.size+1) s (by omega) W0 ah) tv (λ W l o o' _ hl ho _=>IJ W l o o' hl ho) aU (λ _=>rfl)
  (λ j W=>Lib.IsBuilder 134 5 w.heap.size w.heap.size (Lib.byteCells (jn j)) W/\Below w.heap.size w W)
  (λ _ _ _=>False)
  (OwnFrom.and (SO (f:=λ j=>Lib.byteCells (jn j)) _) (ownFrom_below zn (by omega)))
  (λ _ _ _ _ _ hs _ _=>hs)
  ⟨ag,ac⟩
  (λ x a' W=>∃P,W.heap[P]?=some (.cells (gC x.1.2).toArray 139 (0,0))/\a' = { tmps:=#[.string s,undef,.string ⟨#[]⟩,.int .i64 0,.pointer (some ⟨w.heap.size,0,none⟩),undef,.pointer (some ⟨P,0,none⟩),.string s,.int .i64 s.size,.bool (decide (1024<(s.size:Int))),.string s,.func (.func 137) #[] #[.pointer (some ⟨w.heap.size+1,0,none⟩)],.int .i64 x.1.1,.agg (gC x.1.2).toArray,undef,undef,undef,undef,undef],defers:=[] })
  (λ x a' _ X Y row hs hg hr=>by
   obtain ⟨P,h1,h3⟩:=hs;(refine ⟨P,(hg.block P (Array.getElem?_eq_some_iff.1 h1).1 (λ e=>?_)).trans h1,h3⟩);obtain ⟨_,o,ho,hc⟩:=hr P e.symm;rw[h1]at ho;(cases ho);simp[Obj.isCells]at hc)
  ?assign ?body ?done ?stop
 case assign=>
  rintro l j ⟨⟨k,⟨u,A,⟨J,L,C,E,y⟩⟩⟩,a0⟩ W K ⟨I,F⟩ hK;unfold gC at hK;unfold tC;gi_wp2;have V:Below W.heap.size W (W.alloc (.cells #[.int .i64 u,.int .i64 A,.int .i64 J,.int .i64 L,.int .i64 C,.int .i64 E,.int .i64 y] 139)):=aJ;exact hK _ _ ((KeepsOthers.alloc _ _).from _) (uB V) ⟨A6 I V,F.trans (V.mono F.size)⟩ ⟨W.heap.size,heap_alloc_new W _,rfl⟩
 case body=>
  rintro l j x a' W hl ⟨r,hr⟩ ⟨I,F⟩ ⟨P,O,rfl⟩ bi;have bb:=aA (Eo j);have ab:=aA (Mz j x);have N:=aA (λ w' h=>Qk x.1.2 w' h x.2.1.1 x.2.1.2 x.2.2)
  have aw:=aA (λ (U:ByteArray) (W':World) (h:Lib.IsBuilder 134 5 w.heap.size w.heap.size (Lib.byteCells (jn j)) W') (h1:U.size<=2100) (h2:w.heap.size<=W'.heap.size)=>
   JT w.heap.size w.heap.size (Lib.byteCells (jn j)) (U++⟨#[10]⟩) W' h (by
    have h3:=Eo j;rw[Lib.byteCells_length,ByteArray.size_append];have e1:(⟨#[10]⟩:ByteArray).size=1:=rfl;rw[e1];omega) h2)
  obtain ⟨⟨k,⟨u,A,⟨J,L,C,E,y⟩⟩⟩,a0⟩:=x;unfold gC at O N;simp only at O N ab
  have cell:∀q v,(#[.int .i64 u,.int .i64 A,.int .i64 J,.int .i64 L,.int .i64 C,.int .i64 E,.int .i64 y]:Array Value)[q]?=some v->W.cell? ⟨P,q,none⟩=some v:=λ q v h=>by
   rw[Lib.cell_of_heap O];exact h
  have y0:=cell 0 _ rfl;have y1:=cell 1 _ rfl;have y2:=cell 2 _ rfl;have y3:=cell 3 _ rfl;have y4:=cell 4 _ rfl;have y5:=cell 5 _ rfl;have y6:=cell 6 _ rfl;have M:=aA F;have aq:=aA I;clear cell O I F ag ac ah;unfold gC;simp only;gi_wp2_with fail;refine ⟨trivial,(CallsIn.inRound l (callsIn_wide.2 (N.out W (HE.out.below M.out HE.out.1)))).mono ?_⟩;rintro e w1 ⟨U,rfl,a1,av,G⟩;have H:=aA G;have Z:=aA (A6 aq.out G);have a2:w.heap.size<=w1.heap.size:=Nat.le_trans M.out.size G.size;have hq:¬9223372036854775807<U.size+1:=by omega
  have bj:¬(9223372036854775807:Int)<U.size+1:=by omega
  clear G y0 y1 y2 y3 y4 y5 y6 N;gi_wp2_with fail;refine ⟨trivial,(CallsIn.inRound l (callsIn_wide.2 (aw.out U w1 Z.out a1 a2))).mono ?_⟩;rintro e w3 ⟨rfl,Q,ae,R,T⟩;have aa:=aA Q;have ao:=aA (M.out.trans ((H.out.mono M.out.size).trans ae));have ar:=aA (KeepsOthers.trans (⟨H.out.size,λ k o hk _=>(H.out.block k (Array.getElem?_eq_some_iff.1 hk).1).trans hk⟩:KeepsOthers W w1) R)
  have au:=aA (tv (uB H.out) T);clear Q ae R T;gi_wp2_with fail;refine ⟨ar.out.from _,au.out,?_,ao.out⟩
  have e:Lib.byteCells (jn j)++Lib.strCells (U++⟨#[10]⟩)=Lib.byteCells (jn j++(gB ⟨u,A,⟨J,L,C,E,y⟩⟩++[10])):=by
   have e2:Lib.strCells (U++⟨#[10]⟩)=Lib.byteCells (gB ⟨u,A,⟨J,L,C,E,y⟩⟩++[10]):=by
    rw[<-av.out];simp[Lib.strCells,Lib.byteCells]
   rw[e2];simp[Lib.byteCells]
  have hb:=aa.out;rw[e,<-ab.out]at hb;exact .inr hb
 case done=>
  rintro D zs W hD rfl ⟨I,F⟩ hK;have az:=F.size;gi_wp2_with fail;refine ⟨trivial,(callsIn_wide.2 (Builder_String_any_k w.heap.size w.heap.size (rJ s) W (Lib.IsBuilderF.of I) az)).mono ?_⟩;rintro e w2 ⟨rfl,_,G,ai⟩;have af:w2.heap[D]?=some (.deferred (some [])):=ai D _ hK (λ e=>by injection e with e;omega) (λ c fz e=>by cases e)
  have H:=aA (F.trans G);clear ai G;gi_wp2_with fail;refine ⟨by simp,.inl ⟨_,_,rfl,run_takeDeferred af,?_⟩⟩
  refine ⟨.tuple #[.string ⟨(rJ s).toArray⟩,.int .i64 0],by simp[results,results41,go_sem],rfl,?_⟩
  exact H.out.trans (belowK_b (w:=w) zn w2 D _ _ (by omega) af rfl rfl)
 case stop=>
  rintro D c j W _ _ h _;exact h.elim
def Jz (s) (w) (j:1024<s.size):
    aG prog 41 #[.string s] w (.tuple #[.string ⟨#[]⟩,.int .i64 8]):=by
 unfold aG;have h:(1024:Int)<s.size:=by omega
 refine (callsIn_wide (n:=6)).1 ?_;refine callsIn_of_wp_marks func41 rfl trivial ?_ rfl;simp only[ntmps41,List.size_toArray,List.length_cons,List.length_nil,Nat.reduceAdd,Nat.reduceSub,Array.replicate_succ,Array.replicate_zero,List.push_toArray,List.append_toArray,List.nil_append,List.cons_append];gi_wp2_with fail;exact ⟨.tuple #[.string ⟨#[]⟩,.int .i64 8],by simp[results,results41,go_sem],rfl,aU⟩
def lK (s:ByteArray):List UInt8×Int:=if 1024<s.size then ([],8) else (rJ s,0)
def JB (s) (w) (j:aS w):
    aG prog 41 #[.string s] w (.tuple #[.string ⟨(lK s).1.toArray⟩,.int .i64 (lK s).2]):=by
 unfold aG;by_cases h:1024<s.size
 .have e:lK s=([],8):=by unfold lK;rw[zt h]
  rw[e];exact Jz s w h
 have e:lK s=(rJ s,0):=by unfold lK;rw[aC h]
 rw[e];exact Jv s w j (by omega)
