import Derived.Test.YtbmcofdodfcnnaaGreatDoorGLC
set_option linter.all false
set_option maxHeartbeats 0
set_option maxRecDepth 100000
namespace Go
open Proofs.Tryz RowKit
variable {w w2 w0 W w' : World} {base cp g o n : Nat} {xs : List Value} {ao ao' a : Option Addr} {t : List UInt8}
def pH {e:TypeId} {size m:Nat} {v:Value} (h:w.ownsRow base e size v m xs) (c q) (u) (C:c<base):(w.setCell ⟨c,q,none⟩ u).ownsRow base e size v m xs:=
 le h (λ k j=>Below.heap_setCell _ _ _ _ (λ e=>by have A:=(h.lt k j).1;have y:k=c:=e;omega))
def OI {e:TypeId} {size:Nat} {ln:Nat} (h:w.ownsRow base e size (.slice ao ln cp) 0 xs):ln=0:=by
 obtain ⟨_,⟨j,_⟩|⟨g,cap,q,j,_⟩⟩:=h
 .simp at j;exact j.2.1
 simp at j;exact j.2.1
def UB (l c):(Lib.cut l c).1.length<=l.length:=by
 unfold Lib.cut;split
 .simp;omega
 simp
def rj {v:Value} {A:List Pc} (u:w2.ownsRow base 131 2 v A.length (A.flatMap jD)) (J:0<A.length) (C:∀q∈A,q.2.length<=2000):∃g cap,v=.slice (some ⟨g,0,none⟩) A.length cap/\A.length<=cap/\base<=g/\g<w2.heap.size/\
      (∀k q,A[k]?=some q->w2.cell? ⟨g,k*2,none⟩=some (.int .i64 q.1)/\w2.cell? ⟨g,k*2+1,none⟩=some (.string ⟨q.2.toArray⟩))/\∀k,gN (some ⟨g,k*2,none⟩) (A.drop k) w2.heap.size w2:=by
 have I:=u;obtain ⟨_,M|⟨g,cap,K,H,N,Q,G,_⟩⟩:=u
 .have:=M.2;omega
 have D:g<w2.heap.size:=(I.lt g (by rw[H];rfl)).2
 have E:∀k j q,j<2->A[k]?=some q->w2.cell? ⟨g,k*2+j,none⟩=(jD q)[j]?:=λ k j q O w=>by
  have P:k<A.length:=by
   rcases Nat.lt_or_ge k A.length with h|h
   .exact h
   rw[List.getElem?_eq_none h]at w;cases w
  have F:=jF jD 2 (λ _=>rfl) A k j O P
  rw[w]at F;have hx:(jD q)[j]?=some ((jD q)[j]'(by simp[jD];omega)):=zg _
  simp only[zd]at F;have:=I.cells (g:=g) (by rw[H];rfl) (2*k+j) _ (F.trans hx)
  rw[hx,<-this]
  have e:(⟨g,0,none⟩:Addr).add (2*k+j)=⟨g,k*2+j,none⟩:=by
   simp only[Addr.add];rw[Nat.mul_comm 2 k];simp;omega
  rw[e]
 have at':∀k q,A[k]?=some q->w2.cell? ⟨g,k*2,none⟩=some (.int .i64 q.1)/\w2.cell? ⟨g,k*2+1,none⟩=some (.string ⟨q.2.toArray⟩):=λ k q w=>⟨E k 0 q (by omega) w,E k 1 q (by omega) w⟩
 refine ⟨g,cap,by rw[H],by simpa using G,N,D,at',λ k i q hi=>?_⟩
 have y:A[k+i]?=some q:=by rw[<-hi];simp
 obtain ⟨e0,L⟩:=at' (k+i) q y;refine ⟨g,k*2,rfl,D,by omega,C q (List.mem_of_getElem? y),?_,?_⟩
 .have:k*2+i*2=(k+i)*2:=by omega
  rw[this];exact e0
 have:k*2+i*2+1=(k+i)*2+1:=by omega
 rw[this];exact L
structure LG (w0:World) (B:Nat) (name:List UInt8) (ao:Option Addr) (g o:Nat) (t:List UInt8) (l:List Pc) (W:World):Prop where
 env:aS W
 pcs:gN ao l W.heap.size W
 res:aF w0.heap.size lz W
 ln:aF B [.string ⟨name.toArray⟩,.slice none 0 0] W
 below:Below w0.heap.size w0 W
 lt:g<W.heap.size
 text:W.cell? ⟨g,o,none⟩=some (.string ⟨t.toArray⟩)
def LG.next {B:Nat} {name:List UInt8} {l:List Pc} {q:World} (h:LG w0 B name ao g o t l W) (j:Below W.heap.size W q):LG w0 B name ao g o t l q:=
 ⟨h.env.below j h.env.1,h.pcs.move j _ j.size,h.res.next j,h.ln.next j,h.below.trans (j.mono h.below.size),zl h.lt j.size,(j.cell (p:=⟨g,o,none⟩) h.lt).trans h.text⟩
def LG.name {B:Nat} {l:List Pc} (h:LG w0 B [] ao g o t l W) (J:Below W.heap.size W w2) (name) (G:B≠w0.heap.size) (H:B≠g) (I:w0.heap.size<B) (K:8<=w0.heap.size) (C:∀(i:Nat) (p:Pc),l[i]?=some p->∀j w,ao=some ⟨j,w,none⟩->j≠B):
    LG w0 B name ao g o t l (w2.setCell ⟨B,0,none⟩ (.string ⟨name.toArray⟩)).drew:=by
 have q:=h.next J;have y:Below B w2 (w2.setCell ⟨B,0,none⟩ (.string ⟨name.toArray⟩)).drew:=((Below.refl B w2).setCell zn _).drew;have u:bS B none w2 (w2.setCell ⟨B,0,none⟩ (.string ⟨name.toArray⟩)).drew:=(bS.setCell B none w2 0 _).trans (bS.of_below (aU.drew));have D:w0.heap.size<B:=I;have v:aF B [.string ⟨name.toArray⟩,.slice none 0 0] (w2.setCell ⟨B,0,none⟩ (.string ⟨name.toArray⟩)):=q.ln.set 0 _ (by simp)
 refine ⟨q.env.below y (by have:=q.env.1;have:=h.below.size;omega),?_,q.res.keeps u (λ e=>G e.symm) (by simp),v,?_,zl q.lt u.size,?_⟩
 .intro i p hi
  obtain ⟨j,w,E,F,O,L,M,N⟩:=q.pcs i p hi;have A:j≠B:=C i p hi j w E;have e:=u.block j F A (by simp)
  exact ⟨j,w,E,zl F u.size,by have:=u.size;omega,L,(World.cell?_of_block (a:=⟨j,_,none⟩) e).trans M,(World.cell?_of_block (a:=⟨j,_,none⟩) e).trans N⟩
 .exact u.below q.below (Nat.le_of_lt D) (λ _ h=>by cases h) zn
 have e:=u.block g q.lt (λ e=>H e.symm) (by simp)
 exact (World.cell?_of_block (a:=⟨g,o,none⟩) e).trans q.text
structure LQ (v:Value) (ps:List cQ) (lo:Nat) (W:World):Prop where
 o:W.ownsRow lo 193 7 v ps.length (ps.flatMap cY)
def tU (nm) (cp) {B:Nat} {name:List UInt8} {l:List Pc} (h:LG w0 B name ao g o t l W) (u:l.length=n):
    Calls prog 227 #[.string nm,.slice ao n cp] W λ e w'=>∃ao' q j,e=.returned (.tuple #[.slice ao' q j,.int .i64 (cL nm l).2])/\LQ (.slice ao' q j) (cL nm l).1 W.heap.size w'/\LG w0 B name ao g o t l w':=by
 subst u;exact (Jh nm l ao cp W h.env h.pcs).mono λ _ _ ⟨a,b,c,he,hO,hB⟩=>⟨a,b,c,he,⟨hO⟩,h.next hB⟩
def mV (nm:List UInt8) (ps:List cQ) (er:Int) (w:World) (e:Ending) (w':World):Prop:=
 ∃ao n cp,e=.returned (.tuple #[.agg #[.string ⟨nm.toArray⟩,.slice ao n cp],.int .i64 er])/\w'.ownsRow w.heap.size 193 7 (.slice ao n cp) ps.length (ps.flatMap cY)/\Below w.heap.size w w'
def ny {nm:List UInt8} {er:Int} (h:Below w.heap.size w w'):mV nm [] er w (.returned (.tuple #[.agg #[.string ⟨nm.toArray⟩,.slice none 0 0],.int .i64 er])) w':=⟨_,_,_,rfl,World.ownsRow_nil _ _ _ _,h⟩
def vv {j:World} {v E:Nat} {name F:List UInt8} {l l':List Pc} {q:List cQ} (u:LG w j.heap.size name ao g o t l W) (h:LG w j.heap.size name ao' v E F l' w') (C:LQ (.slice a n cp) q W.heap.size w') (D:w.heap.size<j.heap.size) (x y z):
    (((w'.setCell ⟨j.heap.size,1,none⟩ x).setCell ⟨w.heap.size,0,none⟩ y).setCell ⟨w.heap.size,1,none⟩ z).ownsRow w.heap.size 193 7 (.slice a n cp) q.length (q.flatMap cY)/\Below w.heap.size w (((w'.setCell ⟨j.heap.size,1,none⟩ x).setCell ⟨w.heap.size,0,none⟩ y).setCell ⟨w.heap.size,1,none⟩ z):=by
 have A:=u.below.size;have G:=u.ln.1;exact ⟨sC (pH (pH (pH C.o _ _ _ (by omega)) _ _ _ (by omega)) _ _ _ (by omega)) A,((h.below.setCell (Nat.le_of_lt D) _).setCell zn _).setCell zn _⟩
def JR (s) (w) (C:s.size<=2000) (y:aS w) (hcut:aZ (Lib.cut s.data.toList [35]).1 0 []=none):
    Calls prog 193 #[.string s] w λ e w'=>mV (bH s.data.toList).1 (bH s.data.toList).2.1 (bH s.data.toList).2.2 w e w':=by
 have A:Hid (bH s.data.toList=([],[],4)):=aA (by unfold bH;rw[hcut])
 have u:=aA (nO s (w.alloc (.cells #[.string ⟨#[]⟩,.slice none 0 0] 255)) C (y.below aJ y.1));rw[hcut]at u;go_in;go_wp2_with fail;refine zK u.out λ G h=>?_;have j:=aA ((aF.new w lz 255).next h);obtain ⟨E,s1⟩:=bE j.out.2.2;have F:=j.out.2.1;have D:=j.out.1;have q:=aA (aJ.trans (h.mono (by simp)))
 clear h u j;go_wp2;refine zp (v:=.tuple #[.agg #[.string ⟨#[]⟩,.slice none 0 0],.int .i64 4]) (by simp[results,results193,go_sem,E,s1]) rfl ?_
 rw[A.out];exact ny ((q.out.setCell zn _).setCell zn _)
def K9 (s) (w) (G:s.size<=2000) (D:aS w) (hcut:aZ (Lib.cut s.data.toList [35]).1 0 []=some []):
    Calls prog 193 #[.string s] w λ e w'=>mV (bH s.data.toList).1 (bH s.data.toList).2.1 (bH s.data.toList).2.2 w e w':=by
 have E:Hid (bH s.data.toList=([],[],0)):=aA (by unfold bH;rw[hcut];rfl)
 have y:=aA (nO s (w.alloc (.cells #[.string ⟨#[]⟩,.slice none 0 0] 255)) G (D.below aJ D.1));rw[hcut]at y;go_in;go_wp2_with fail;refine y.out.mono ?_;rintro e I ⟨⟨v,rfl,h⟩,j⟩;obtain ⟨ao,ln,cp,rfl,_⟩:=mF h;have A:ln=0:=OI h;subst A;have q:=aA ((aF.new w lz 255).next j);obtain ⟨H,s1⟩:=bE q.out.2.2;have J:=q.out.2.1;have C:=q.out.1;have u:=aA (aJ.trans (j.mono (by simp)))
 clear j y q h;have F:w.heap.size≠I.heap.size:=by omega
 go_wp2;refine zp (v:=.tuple #[.agg #[.string ⟨#[]⟩,.slice none 0 0],.int .i64 0]) (by simp[results,results193,go_sem,H,s1,C]) rfl ?_
 rw[E.out];exact ny (((u.out.setCell zn _).setCell zn _).alloc (by simp[World.setCell];omega) _)
def JM (s) (w) (hs:s.size<=2000) (N:aS w) (k) (t) (hcut:aZ (Lib.cut s.data.toList [35]).1 0 []=some ([(k,t)])) (H:∀q∈[(k,t)],q.2.length<=2000) (ps:List cQ) (er) (F:cL ⟨t.toArray⟩ []=(ps,er)):
    Calls prog 193 #[.string s] w λ e w'=>mV (bH s.data.toList).1 (bH s.data.toList).2.1 (bH s.data.toList).2.2 w e w':=by
 by_cases C:er=0
 all_goals
  have M:=aA (λ (B g o cp:Nat) (ao:Option Addr) (W:World) (h:LG w B [] ao g o t [] W)=>tU ⟨t.toArray⟩ cp h rfl)
  rw[F]at M
  first
  | ((have hq:er≠0:=C);have HV:Hid (bH s.data.toList=([],[],er)):=aA (by unfold bH;rw[hcut];simp[iK,eV,F,C]);(have ac:(er==0)=false:=by simpa using C);(have G:(er != 0)=true:=by simpa using C))
  | (have HV:Hid (bH s.data.toList=([],ps,0)):=aA (by unfold bH;rw[hcut];simp[iK,eV,F,C]);subst C)
  clear F;have U:=aA (nO s (w.alloc (.cells #[.string ⟨#[]⟩,.slice none 0 0] 255)) hs (N.below aJ N.1));rw[hcut]at U;go_in;go_wp2_with fail;refine U.out.mono ?_;rintro e D ⟨⟨v,rfl,I⟩,A⟩;obtain ⟨g,cap,rfl,Q,Y,Z,P,T⟩:=rj I (by simp) H
  have O:aS D:=(N.below aJ N.1).below A (by simp;have:=N.1;omega)
  have aa:w.heap.size<D.heap.size:=by have:=A.size;simp at this;omega
  simp at Y
  have K:∀ao',Hid (LG w D.heap.size [] ao' g 1 t [] (D.alloc (.cells lz.toArray 255))):=λ ao'=>aA (by
   have E:Below D.heap.size D (D.alloc (.cells lz.toArray 255)):=aJ;exact ⟨O.below E O.1,λ i q hi=>by simp at hi,((aF.new w lz 255).next A).next E,aF.new D lz 255,(aJ.trans (A.mono (by simp))).trans (E.mono (by have:=A.size;simp at this;omega)),by have:=E.size;omega,(E.cell (p:=⟨g,1,none⟩) Z).trans (P 0 _ rfl).2⟩)
  have J:=(K none).out.text;have u:=λ ao'=>(K ao').out
  clear K I A T U H P hcut;have an:g≠D.heap.size:=by omega
  have ae:D.heap.size≠g:=by omega
  have au:w.heap.size≠D.heap.size:=by omega
  have ah:D.heap.size≠w.heap.size:=by omega
  have aq:g≠w.heap.size:=by omega
  have af:w.heap.size≠g:=by omega
  unfold lz at u J;simp only[List.length_cons,List.length_nil]at Q;by_cases X:cap=1
  all_goals
   first|subst X|(have am:(1:Int)<=cap:=by omega)
   go_wp2_with fail;generalize D.alloc _=W at u J ⊢
   go_region_held3 (λ w'=>w'.cell? ⟨g,1,none⟩=some (.string ⟨t.toArray⟩)) (first|(exact LG.text (by assumption))|go_keep)
    (first|(go_at_call 227;refine (M.out _ _ _ _ _ _ (by first|assumption|exact LG.next (u _) (aU.drew)|exact LG.next (u _) (mL _ _))).mono ?_;rintro e w' ⟨a2,n2,V,rfl,R,j⟩;obtain ⟨x0,x1,x2⟩:=j.ln;obtain ⟨y0,y1⟩:=bE x2;have t':=j.text;clear x2))
   obtain ⟨r0,r1,r2⟩:=j.res;obtain ⟨s0,s1⟩:=bE r2;(have L:=aA (λ x y z=>vv (LG.next (u none) (aU.drew)) j R aa x y z));clear r2 j R;go_wp2_with fail
   first
   | (have hq:=G;refine zp (v:=.tuple #[.agg #[.string ⟨#[]⟩,.slice none 0 0],.int .i64 er]) (by simp[results,results193,go_sem,s0,s1]) rfl ?_)
   | (refine zp (v:=.tuple #[.agg #[.string ⟨[].toArray⟩,.slice a2 n2 V],.int .i64 0]) (by simp[results,results193,go_sem,s0,s1]) rfl ?_)
   rw[HV.out]
   first
   | (have hq:=G;exact ny (L.out _ _ _).2)
   | (exact ⟨_,_,_,rfl,L.out _ _ _⟩)
def JL (s) (w) (hs:s.size<=2000) (Q:aS w) (k k2) (t t2) (l:List Pc) (M:t2≠[58]) (hcut:aZ (Lib.cut s.data.toList [35]).1 0 []=some ((k,t)::(k2,t2)::l)) (H:∀q∈(k,t)::(k2,t2)::l,q.2.length<=2000) (ps:List cQ) (er) (F:cL ⟨t.toArray⟩ ((k2,t2)::l)=(ps,er)):
    Calls prog 193 #[.string s] w λ e w'=>mV (bH s.data.toList).1 (bH s.data.toList).2.1 (bH s.data.toList).2.2 w e w':=by
 by_cases D:er=0
 all_goals
  have P:=aA (λ (B g o cp:Nat) (ao:Option Addr) (W:World) (h:LG w B [] ao g o t ((k2,t2)::l) W)=>tU ⟨t.toArray⟩ cp h rfl)
  rw[F]at P
  first
  | ((have hq:er≠0:=D);have HV:Hid (bH s.data.toList=([],[],er)):=aA (by unfold bH;rw[hcut];simp[iK,eV,M,F,D]);(have ah:(er==0)=false:=by simpa using D);(have G:(er != 0)=true:=by simpa using D))
  | (have HV:Hid (bH s.data.toList=([],ps,0)):=aA (by unfold bH;rw[hcut];simp[iK,eV,M,F,D]);subst D)
  clear F;have V:=aA (nO s (w.alloc (.cells #[.string ⟨#[]⟩,.slice none 0 0] 255)) hs (Q.below aJ Q.1));rw[hcut]at V;go_in;go_wp2_with fail;refine V.out.mono ?_;rintro e u ⟨⟨v,rfl,I⟩,C⟩;obtain ⟨g,cap,rfl,T,ab,ac,N,J⟩:=rj I (by simp) H
  have R:aS u:=(Q.below aJ Q.1).below C (by simp;have:=Q.1;omega)
  have af:w.heap.size<u.heap.size:=by have:=C.size;simp at this;omega
  simp at ab;have aa:Below u.heap.size u (u.alloc (.cells lz.toArray 255)):=aJ
  have L:Hid (LG w u.heap.size [] (some ⟨g,2,none⟩) g 1 t ((k2,t2)::l) (u.alloc (.cells lz.toArray 255))):=aA (by
   have A:Below u.heap.size u (u.alloc (.cells lz.toArray 255)):=aJ;exact ⟨R.below A R.1,(J 1).move A _ A.size,((aF.new w lz 255).next C).next A,aF.new u lz 255,(aJ.trans (C.mono (by simp))).trans (A.mono (by have:=C.size;simp at this;omega)),by have:=A.size;omega,(A.cell (p:=⟨g,1,none⟩) ac).trans (N 0 _ rfl).2⟩)
  have K:=L.out.text;have E:=L.out;obtain ⟨X,Y⟩:=N 1 _ rfl;simp only[Nat.reduceMul,Nat.reduceAdd]at X Y;have hq:(t2==[58])=false:=by simpa using M
  clear L I C J V H N hcut aa;have az:g≠u.heap.size:=by omega
  have ai:u.heap.size≠g:=by omega
  have a3:w.heap.size≠u.heap.size:=by omega
  have ak:u.heap.size≠w.heap.size:=by omega
  have a0:g≠w.heap.size:=by omega
  have aj:w.heap.size≠g:=by omega
  unfold lz at E K;simp only[List.length_cons]at T;have ar:(1:Int)<=(l.length:Int)+1+1:=by omega
  have au:((l.length+1+1:Nat):Int)<=cap:=by omega
  have av:¬cap=1:=by omega
  have aw:(0:Int)<(l.length:Int)+1+1:=by omega
  have ax:(0:Int)<((l.length+1+1:Nat):Int):=by omega
  have ay:(1:Int)<=((l.length+1+1:Nat):Int):=by omega
  go_wp2_with fail;generalize u.alloc _=W at E K ⊢
  go_region_held3 (λ w'=>w'.cell? ⟨g,1,none⟩=some (.string ⟨t.toArray⟩)) (first|(exact LG.text (by assumption))|go_keep)
   (first|(go_at_call 227;refine (P.out _ _ _ _ _ _ (by first|assumption|exact LG.next (E) (aU.drew)|exact LG.next (E) (mL _ _))).mono ?_;rintro e w' ⟨a2,n2,Z,rfl,U,j⟩;obtain ⟨x0,x1,x2⟩:=j.ln;obtain ⟨y0,y1⟩:=bE x2;have t':=j.text;clear x2))
  obtain ⟨r0,r1,r2⟩:=j.res;obtain ⟨s0,s1⟩:=bE r2;have O:=aA (λ x y z=>vv (LG.next (E) (aU.drew)) j U af x y z)
  clear r2 j U;go_wp2_with fail
  first
  | (have hq:=G;refine zp (v:=.tuple #[.agg #[.string ⟨#[]⟩,.slice none 0 0],.int .i64 er]) (by simp[results,results193,go_sem,s0,s1]) rfl ?_)
  | (refine zp (v:=.tuple #[.agg #[.string ⟨[].toArray⟩,.slice a2 n2 Z],.int .i64 0]) (by simp[results,results193,go_sem,s0,s1]) rfl ?_)
  rw[HV.out]
  first
  | (have hq:=G;exact ny (O.out _ _ _).2)
  | (exact ⟨_,_,_,rfl,O.out _ _ _⟩)
def Jo (s) (w) (hs:s.size<=2000) (G:aS w) (k k2) (t) (l:List Pc) (hcut:aZ (Lib.cut s.data.toList [35]).1 0 []=some ((k,t)::(k2,[58])::l)) (u:∀q∈(k,t)::(k2,[58])::l,q.2.length<=2000) (I:eX k t=false):
    Calls prog 193 #[.string s] w λ e w'=>mV (bH s.data.toList).1 (bH s.data.toList).2.1 (bH s.data.toList).2.2 w e w':=by
 have U:Hid (bH s.data.toList=([],[],4)):=aA (by unfold bH;rw[hcut];simp[iK,I])
 have C:=aA (λ w'=>qk k ⟨t.toArray⟩ w' (by have:=u (k,t) (by simp);simpa[ByteArray.size] using this))
 simp only[I]at C;have K:=aA (nO s (w.alloc (.cells #[.string ⟨#[]⟩,.slice none 0 0] 255)) hs (G.below aJ G.1));rw[hcut]at K;go_in;go_wp2_with fail;refine K.out.mono ?_;rintro e A ⟨⟨v,rfl,y⟩,j⟩;obtain ⟨g,cap,rfl,H,N,af,E,J⟩:=rj y (by simp) u
 have ae:aS A:=(G.below aJ G.1).below j (by simp;have:=G.1;omega)
 have O:w.heap.size<A.heap.size:=by have:=j.size;simp at this;omega
 simp at N;have F:=aA (((aF.new w lz 255).next j).alloc (.cells lz.toArray 255));have h:=aA ((aJ.trans (j.mono (by simp))).alloc (Nat.le_of_lt O) (.cells lz.toArray 255))
 have P:=aA (aF.new A lz 255);unfold lz at F h P;obtain ⟨V,X⟩:=E 0 _ rfl;obtain ⟨L,M⟩:=E 1 _ rfl;simp only[Nat.reduceMul,Nat.reduceAdd]at V X L M;simp only[List.length_cons]at H;have Y:(1:Int)<=(l.length:Int)+1+1:=by omega
 have Z:((l.length+1+1:Nat):Int)<=cap:=by omega
 have aa:(0:Int)<(l.length:Int)+1+1:=by omega
 have ab:(0:Int)<((l.length+1+1:Nat):Int):=by omega
 have ac:(1:Int)<=((l.length+1+1:Nat):Int):=by omega
 clear y j J K u E hcut;have ag:g≠A.heap.size:=by omega
 have Q:A.heap.size≠g:=by omega
 have aj:w.heap.size≠A.heap.size:=by omega
 have T:A.heap.size≠w.heap.size:=by omega
 have ah:g≠w.heap.size:=by omega
 have R:w.heap.size≠g:=by omega
 go_wp2_with fail;generalize A.alloc _=W at *;refine zK (C.out _) λ w2 D=>?_;have F:=aA (F.out.next D);have h:=aA (h.out.trans (D.mono h.out.size));obtain ⟨s0,s1⟩:=bE F.out.2.2;have sf:=F.out.2.1;clear D C P;go_wp2;refine zp (v:=.tuple #[.agg #[.string ⟨#[]⟩,.slice none 0 0],.int .i64 4]) (by simp[results,results193,go_sem,s0,s1]) rfl ?_
 rw[U.out];exact ny ((h.out.setCell zn _).setCell zn _)
def JH (s) (w) (hs:s.size<=2000) (M:aS w) (k k2) (t) (hcut:aZ (Lib.cut s.data.toList [35]).1 0 []=some [(k,t),(k2,[58])]) (A:∀q∈[(k,t),(k2,[58])],q.2.length<=2000) (P:eX k t=true):
    Calls prog 193 #[.string s] w λ e w'=>mV (bH s.data.toList).1 (bH s.data.toList).2.1 (bH s.data.toList).2.2 w e w':=by
 have Y:Hid (bH s.data.toList=(t,[],0)):=aA (by unfold bH;rw[hcut];simp[iK,eV,P])
 have D:=aA (λ w'=>qk k ⟨t.toArray⟩ w' (by have:=A (k,t) (by simp);simpa[ByteArray.size] using this))
 simp only[P]at D;have R:=aA (nO s (w.alloc (.cells #[.string ⟨#[]⟩,.slice none 0 0] 255)) hs (M.below aJ M.1));rw[hcut]at R;go_in;go_wp2_with fail;refine R.out.mono ?_;rintro e j ⟨⟨v,rfl,C⟩,u⟩;obtain ⟨g,cap,rfl,N,V,X,E,Q⟩:=rj C (by simp) A
 have ag:aS j:=(M.below aJ M.1).below u (by simp;have:=M.1;omega)
 have F:w.heap.size<j.heap.size:=by have:=u.size;simp at this;omega
 simp at V;have I:=aA (((aF.new w lz 255).next u).alloc (.cells lz.toArray 255));have h:=aA ((aJ.trans (u.mono (by simp))).alloc (Nat.le_of_lt F) (.cells lz.toArray 255))
 have G:=aA (aF.new j lz 255);unfold lz at I h G;have L:Below j.heap.size j (j.alloc (.cells lz.toArray 255)):=aJ;obtain ⟨Z,T⟩:=E 0 _ rfl;obtain ⟨J,K⟩:=E 1 _ rfl;simp only[Nat.reduceMul,Nat.reduceAdd]at Z T J K;have H:=aA ((L.cell (p:=⟨g,1,none⟩) X).trans T);unfold lz at H;simp only[List.length_cons,List.length_nil]at N;have af:(2:Int)<=cap:=by omega
 have O:g<(j.alloc (.cells lz.toArray 255)).heap.size:=by simp;omega
 unfold lz at O;clear C u Q R A E hcut L;have ah:g≠j.heap.size:=by omega
 have aa:j.heap.size≠g:=by omega
 have ak:w.heap.size≠j.heap.size:=by omega
 have ac:j.heap.size≠w.heap.size:=by omega
 have ai:g≠w.heap.size:=by omega
 have ab:w.heap.size≠g:=by omega
 go_wp2_with fail;generalize j.alloc _=W at *;refine zK (D.out _) λ w2 y=>?_;have I:=aA (I.out.next y);have h:=aA (h.out.trans (y.mono h.out.size));have G:=aA (G.out.next y);obtain ⟨s0,s1⟩:=bE I.out.2.2;have sf:=I.out.2.1;obtain ⟨n0,n1⟩:=bE G.out.2.2;have nf:=G.out.2.1;have b1:=(y.cell (p:=⟨g,1,none⟩) O).trans H.out;clear y D G Z T J K;by_cases U:cap=2
 .subst U
  go_wp2_with fail;go_region
  all_goals
   go_wp2;(refine zp (v:=.tuple #[.agg #[.string ⟨t.toArray⟩,.slice none 0 0],.int .i64 0]) (by simp[results,results193,go_sem,s0,s1]) rfl ?_);rw[Y.out];exact ny (((h.out.setCell (Nat.le_of_lt F) _).drew.setCell zn _).setCell zn _)
 go_wp2_with fail;go_region
 all_goals
  go_wp2;refine zp (v:=.tuple #[.agg #[.string ⟨t.toArray⟩,.slice none 0 0],.int .i64 0]) (by simp[results,results193,go_sem,s0,s1]) rfl ?_
  rw[Y.out];exact ny (((h.out.setCell (Nat.le_of_lt F) _).drew.setCell zn _).setCell zn _)
def Jm (s) (w) (hs:s.size<=2000) (P:aS w) (k k2 k3) (t t3) (hcut:aZ (Lib.cut s.data.toList [35]).1 0 []=some ((k,t)::(k2,[58])::(k3,t3)::[])) (H:∀q∈(k,t)::(k2,[58])::(k3,t3)::[],q.2.length<=2000) (O:eX k t=true) (ps:List cQ) (er) (J:cL ⟨t3.toArray⟩ []=(ps,er)):
    Calls prog 193 #[.string s] w λ e w'=>mV (bH s.data.toList).1 (bH s.data.toList).2.1 (bH s.data.toList).2.2 w e w':=by
 by_cases C:er=0
 all_goals
  first
  | ((have hq:er≠0:=C);have HV:Hid (bH s.data.toList=([],[],er)):=aA (by unfold bH;rw[hcut];simp[iK,eV,O,J,C]))
  | (have HV:Hid (bH s.data.toList=(t,ps,0)):=aA (by unfold bH;rw[hcut];simp[iK,eV,O,J,C]))
  have R:=aA (λ (B g o cp:Nat) (ao:Option Addr) (W:World) (h:LG w B t ao g o t3 [] W)=>tU ⟨t3.toArray⟩ cp h rfl)
  rw[J]at R
  first
  | ((have hq:er≠0:=C);((have av:(er==0)=false:=by simpa using C);(have K:(er != 0)=true:=by simpa using C)))
  | (subst C)
  clear J;have N:=aA (λ w'=>qk k ⟨t.toArray⟩ w' (by have:=H (k,t) (by simp);simpa[ByteArray.size] using this))
  simp only[O]at N;have HC:=aA (nO s (w.alloc (.cells #[.string ⟨#[]⟩,.slice none 0 0] 255)) hs (P.below aJ P.1));rw[hcut]at HC;go_in;go_wp2_with fail;refine HC.out.mono ?_;rintro e A ⟨⟨v,rfl,L⟩,E⟩;obtain ⟨g,cap,rfl,Y,am,Z,I,ae⟩:=rj L (by simp) H
  have X:aS A:=(P.below aJ P.1).below E (by simp;have:=P.1;omega)
  have ag:w.heap.size<A.heap.size:=by have:=E.size;simp at this;omega
  simp at am;have V:Below A.heap.size A (A.alloc (.cells lz.toArray 255)):=aJ
  have j:∀ao',Hid (LG w A.heap.size [] ao' g 5 t3 [] (A.alloc (.cells lz.toArray 255))):=λ ao'=>aA (by
   have G:Below A.heap.size A (A.alloc (.cells lz.toArray 255)):=aJ;exact ⟨X.below G X.1,λ i q hi=>by simp at hi,((aF.new w lz 255).next E).next G,aF.new A lz 255,(aJ.trans (E.mono (by simp))).trans (G.mono (by have:=E.size;simp at this;omega)),by have:=G.size;omega,(G.cell (p:=⟨g,5,none⟩) Z).trans (I 2 _ rfl).2⟩)
  obtain ⟨a0,a1⟩:=I 0 _ rfl;obtain ⟨T,U⟩:=I 1 _ rfl;simp only[Nat.reduceMul,Nat.reduceAdd]at a0 a1 T U;have M:=aA ((V.cell (p:=⟨g,1,none⟩) Z).trans a1);have aa:g<(A.alloc (.cells lz.toArray 255)).heap.size:=by simp;omega
  unfold lz at M aa j;clear L E ae HC H I hcut V;simp only[List.length_cons,List.length_nil]at Y;have a6:g≠A.heap.size:=by omega
  have ab:A.heap.size≠g:=by omega
  have ba:w.heap.size≠A.heap.size:=by omega
  have ah:A.heap.size≠w.heap.size:=by omega
  have a7:g≠w.heap.size:=by omega
  have aw:w.heap.size≠g:=by omega
  have a5:(3:Int)<=cap:=by omega
  go_wp2_with fail;generalize A.alloc _=W at *;refine zK (N.out _) λ w2 F=>?_;have n0:=((j none).out.next F).ln.2.2 0 _ rfl;have nf:=((j none).out.next F).ln.2.1 0;have j:=λ ao'=>aA ((j ao').out.name F t ah ab ag P.1 (λ i p h=>by simp at h))
  have a8:=(j none).out.ln.1;have b1:=(F.cell (p:=⟨g,1,none⟩) aa).trans M.out;clear F N M a0 a1 T U;have af:=(j none).out.text;have D:=λ ao'=>(j ao').out
  clear j;by_cases al:cap=3
  all_goals
   first|subst al|(have au:¬cap-2=1:=by omega)
   go_wp2_with fail;go_region
   all_goals
    generalize (w2.setCell _ _).drew=W3 at D af ⊢;clear n0 nf b1;go_wp2_with fail
    go_region_held3 (λ w'=>w'.cell? ⟨g,5,none⟩=some (.string ⟨t3.toArray⟩)) (first|(exact LG.text (by assumption))|go_keep)
     (first|(go_at_call 227;refine (R.out _ _ _ _ _ _ (by first|assumption|exact LG.next (D _) (aU.drew)|exact LG.next (D _) (mL _ _))).mono ?_;rintro e w' ⟨a2,n2,ak,rfl,ac,u⟩;obtain ⟨x0,x1,x2⟩:=u.ln;obtain ⟨y0,y1⟩:=bE x2;have t':=u.text;clear x2))
    obtain ⟨r0,r1,r2⟩:=u.res;obtain ⟨s0,s1⟩:=bE r2;(have Q:=aA (λ x y z=>vv (LG.next (D none) (aU.drew)) u ac ag x y z));clear r2 u ac;go_wp2_with fail
    first
    | (have hq:=K;refine zp (v:=.tuple #[.agg #[.string ⟨#[]⟩,.slice none 0 0],.int .i64 er]) (by simp[results,results193,go_sem,s0,s1]) rfl ?_)
    | (refine zp (v:=.tuple #[.agg #[.string ⟨t.toArray⟩,.slice a2 n2 ak],.int .i64 0]) (by simp[results,results193,go_sem,s0,s1]) rfl ?_)
    rw[HV.out]
    first
    | (have hq:=K;exact ny (Q.out _ _ _).2)
    | (exact ⟨_,_,_,rfl,Q.out _ _ _⟩)
def Jd (s) (w) (hs:s.size<=2000) (Q:aS w) (k k2 k3) (t t3) (k4) (t4) (l:List Pc) (hcut:aZ (Lib.cut s.data.toList [35]).1 0 []=some ((k,t)::(k2,[58])::(k3,t3)::(k4,t4)::l)) (G:∀q∈(k,t)::(k2,[58])::(k3,t3)::(k4,t4)::l,q.2.length<=2000) (P:eX k t=true) (ps:List cQ) (er) (J:cL ⟨t3.toArray⟩ ((k4,t4)::l)=(ps,er)):
    Calls prog 193 #[.string s] w λ e w'=>mV (bH s.data.toList).1 (bH s.data.toList).2.1 (bH s.data.toList).2.2 w e w':=by
 by_cases D:er=0
 all_goals
  first
  | ((have hq:er≠0:=D);have HV:Hid (bH s.data.toList=([],[],er)):=aA (by unfold bH;rw[hcut];simp[iK,eV,P,J,D]))
  | (have HV:Hid (bH s.data.toList=(t,ps,0)):=aA (by unfold bH;rw[hcut];simp[iK,eV,P,J,D]))
  have T:=aA (λ (B g o cp:Nat) (ao:Option Addr) (W:World) (h:LG w B t ao g o t3 ((k4,t4)::l) W)=>tU ⟨t3.toArray⟩ cp h rfl)
  rw[J]at T
  first
  | ((have hq:er≠0:=D);((have aw:(er==0)=false:=by simpa using D);(have K:(er != 0)=true:=by simpa using D)))
  | (subst D)
  clear J;have O:=aA (λ w'=>qk k ⟨t.toArray⟩ w' (by have:=G (k,t) (by simp);simpa[ByteArray.size] using this))
  simp only[P]at O;have HC:=aA (nO s (w.alloc (.cells #[.string ⟨#[]⟩,.slice none 0 0] 255)) hs (Q.below aJ Q.1));rw[hcut]at HC;go_in;go_wp2_with fail;refine HC.out.mono ?_;rintro e A ⟨⟨v,rfl,L⟩,E⟩;obtain ⟨g,cap,rfl,Z,al,aa,I,M⟩:=rj L (by simp) G
  have Y:aS A:=(Q.below aJ Q.1).below E (by simp;have:=Q.1;omega)
  have ag:w.heap.size<A.heap.size:=by have:=E.size;simp at this;omega
  simp at al;have X:Below A.heap.size A (A.alloc (.cells lz.toArray 255)):=aJ
  have j:Hid (LG w A.heap.size [] (some ⟨g,6,none⟩) g 5 t3 ((k4,t4)::l) (A.alloc (.cells lz.toArray 255))):=aA (by
   have C:Below A.heap.size A (A.alloc (.cells lz.toArray 255)):=aJ;exact ⟨Y.below C Y.1,(M 3).move C _ C.size,((aF.new w lz 255).next E).next C,aF.new A lz 255,(aJ.trans (E.mono (by simp))).trans (C.mono (by have:=E.size;simp at this;omega)),by have:=C.size;omega,(C.cell (p:=⟨g,5,none⟩) aa).trans (I 2 _ rfl).2⟩)
  obtain ⟨a0,a1⟩:=I 0 _ rfl;obtain ⟨U,V⟩:=I 1 _ rfl;simp only[Nat.reduceMul,Nat.reduceAdd]at a0 a1 U V;have N:=aA ((X.cell (p:=⟨g,1,none⟩) aa).trans a1);have ab:g<(A.alloc (.cells lz.toArray 255)).heap.size:=by simp;omega
  unfold lz at N ab j;clear L E M HC G I hcut X;simp only[List.length_cons]at Z;have am:g≠A.heap.size:=by omega
  have ac:A.heap.size≠g:=by omega
  have bp:w.heap.size≠A.heap.size:=by omega
  have ah:A.heap.size≠w.heap.size:=by omega
  have bm:g≠w.heap.size:=by omega
  have ax:w.heap.size≠g:=by omega
  have bb:(1:Int)<=(l.length:Int)+1+1:=by omega
  have bc:((l.length+1+1+1+1:Nat):Int)<=cap:=by omega
  have av:(l.length:Int)+1+1+1+1<=cap:=by omega
  have bd:(0:Int)<(l.length:Int)+1+1:=by omega
  have be:(0:Int)<((l.length+1+1:Nat):Int):=by omega
  have bf:(1:Int)<=((l.length+1+1:Nat):Int):=by omega
  have bg:(2:Int)<=((l.length+1+1+1+1:Nat):Int):=by omega
  have bh:(2:Int)<=(l.length:Int)+1+1+1+1:=by omega
  have bi:¬cap=2:=by omega
  have bj:¬cap=3:=by omega
  have bk:¬cap-2=1:=by omega
  have a6:(1:Int)<=(l.length:Int)+2:=by omega
  have a7:((l.length+2:Nat):Int)<=((cap-2:Nat):Int):=by omega
  have au:(l.length:Int)+2<=((cap-2:Nat):Int):=by omega
  have a8:(0:Int)<(l.length:Int)+2:=by omega
  have a9:(0:Int)<((l.length+2:Nat):Int):=by omega
  have ba:(1:Int)<=((l.length+2:Nat):Int):=by omega
  go_wp2_with fail;generalize A.alloc _=W at *;refine zK (O.out _) λ w2 F=>?_;have n0:=(j.out.next F).ln.2.2 0 _ rfl;have nf:=(j.out.next F).ln.2.1 0;have j:=aA (j.out.name F t ah ac ag Q.1 (λ _ _ _ gg oo e=>by cases e;exact am))
  have bn:=j.out.ln.1;have b1:=(F.cell (p:=⟨g,1,none⟩) ab).trans N.out;clear F O N a0 a1 U V;have af:=j.out.text;have H:=j.out;clear j;go_wp2_with fail;go_region
  all_goals
   generalize (w2.setCell _ _).drew=W3 at H af ⊢;clear n0 nf b1;go_wp2_with fail
   go_region_held3 (λ w'=>w'.cell? ⟨g,5,none⟩=some (.string ⟨t3.toArray⟩)) (first|(exact LG.text (by assumption))|go_keep)
    (first|(go_at_call 227;refine (T.out _ _ _ _ _ _ (by first|assumption|exact LG.next (H) (aU.drew)|exact LG.next (H) (mL _ _))).mono ?_;rintro e w' ⟨a2,n2,ak,rfl,ae,u⟩;obtain ⟨x0,x1,x2⟩:=u.ln;obtain ⟨y0,y1⟩:=bE x2;have t':=u.text;clear x2))
   obtain ⟨r0,r1,r2⟩:=u.res;obtain ⟨s0,s1⟩:=bE r2;(have R:=aA (λ x y z=>vv (LG.next (H) (aU.drew)) u ae ag x y z));clear r2 u ae;go_wp2_with fail
   first
   | (have hq:=K;refine zp (v:=.tuple #[.agg #[.string ⟨#[]⟩,.slice none 0 0],.int .i64 er]) (by simp[results,results193,go_sem,s0,s1]) rfl ?_)
   | (refine zp (v:=.tuple #[.agg #[.string ⟨t.toArray⟩,.slice a2 n2 ak],.int .i64 0]) (by simp[results,results193,go_sem,s0,s1]) rfl ?_)
   rw[HV.out]
   first
   | (have hq:=K;exact ny (R.out _ _ _).2)
   | (exact ⟨_,_,_,rfl,R.out _ _ _⟩)
def uf (s) (w) (v:s.size<=2000) (u:aS w):
    Calls prog 193 #[.string s] w λ e w'=>mV (bH s.data.toList).1 (bH s.data.toList).2.1 (bH s.data.toList).2.2 w e w':=by
 cases hcut:aZ (Lib.cut s.data.toList [35]).1 0 [] with
 | none=>exact JR s w v u hcut
 | some A=>
  have h:∀q∈A,q.2.length<=2000:=λ q F=>by
   have E:=vc _ _ _ _ hcut q F;have G:=UB s.data.toList [35];have H:s.data.toList.length=s.size:=(Lib.size_eq s).symm;simp at E;omega
  match A,hcut,h with
  | [],hcut,h=>exact K9 s w v u hcut
  | [(k,t)],hcut,h=>
   generalize y:cL ⟨t.toArray⟩ []=X;obtain ⟨C,er⟩:=X;exact JM s w v u k t hcut h C er y
  | (k,t)::(k2,t2)::l,hcut,h=>
   by_cases D:t2=[58]
   .subst D
    by_cases j:eX k t=true
    .match l,hcut,h with
     | [],hcut,h=>exact JH s w v u k k2 t hcut h j
     | [(k3,t3)],hcut,h=>
      generalize y:cL ⟨t3.toArray⟩ []=X;obtain ⟨C,er⟩:=X;exact Jm s w v u k k2 k3 t t3 hcut h j C er y
     | (k3,t3)::(k4,t4)::l,hcut,h=>
      generalize y:cL ⟨t3.toArray⟩ ((k4,t4)::l)=X;obtain ⟨C,er⟩:=X;exact Jd s w v u k k2 k3 t t3 k4 t4 l hcut h j C er y
    exact Jo s w v u k k2 t l hcut h (by simpa using j)
   generalize y:cL ⟨t.toArray⟩ ((k2,t2)::l)=X;obtain ⟨C,er⟩:=X;exact JL s w v u k k2 t t2 l D hcut h C er y
