import Derived.BigRegionIn
import Derived.Sort.CutIn
import Derived.Test.YtbmcofdodfcnnaaGreatDoorGV27
set_option linter.all false
set_option maxHeartbeats 0
set_option maxRecDepth 100000
namespace Go
open Proofs Proofs.Tryz RowKit Shelf
variable {V w w0 A : World} {b base cp n id gf N g : Nat} {cs lb : Array Value} {ty T : TypeId} {ao : Option Addr} {s : ByteArray}
attribute [local go_sem] Oper.semAt_some
def NL (f:Fn) (lb) (w):(binOp .eql 46 (.func f #[] lb) .nilFunc).run prog w=.ok (.bool false) w:=by
 have h:∀d,(Op.equalIn (d+1) 46 (.func f #[] lb) .nilFunc).run prog w=.ok false w:=λ d=>by
  simp[Op.equalIn,run_underlying underlying46]
 have j:=h 9999;simp only[binOp,Op.equal,Op.maxDepth];simp[j]
def lO (h:V.heap[b]?=some (.cells cs ty (0,0))) (q):V.frozen? ⟨b,q,none⟩=false:=by
 unfold World.frozen?;rw[show ({ block:=b,off:=q }:Addr).block=b from rfl,h]
 simp
def qp (h:V.heap[b]?=some (.cells cs ty (0,0))) (q) (v) {B:Nat}:KeepsFrom B V (V.setCell ⟨b,q,none⟩ v):=by
 refine ⟨by simp[World.setCell],λ k o y j w=>?_⟩
 by_cases e:k=b
 .subst e
  rw[h]at j;cases j
  simp[Obj.isCells]at w
 exact (Below.heap_setCell _ _ _ _ (λ u=>e u)).trans j
def yR (h:V.heap[b]?=some (.cells cs ty (0,0))) (A:¬(ty=139\/ty=9\/ty=153)) (q) (v):jA V (V.setCell ⟨b,q,none⟩ v):=by
 refine ⟨by simp[World.setCell],λ k w t fr j u=>?_⟩
 by_cases e:k=b
 .subst e
  rw[h]at j;cases j
  exact absurd u A
 exact (Below.heap_setCell _ _ _ _ (λ y=>e y)).trans j
def EB (c:Int) (m:Nat) (h:0<=c) (u:0<m):∃r:Nat,c.tmod m=r/\r<m:=by
 rw[Int.tmod_eq_emod_of_nonneg h];have j:=Int.emod_nonneg c (b:=(m:Int)) (by omega)
 have q:=Int.emod_lt_of_pos c (b:=(m:Int)) (by omega)
 exact ⟨(c%m).toNat,by omega,by omega⟩
def ED (c:Int) (m:Nat) (w:World) (y:m<=4294967295) (u:-9223372036854775808<=c/\c<9223372036854775808):
    Calls prog 56 #[.int .i64 c,.int .i64 ((m:Int)+1)] w λ e w'=>(∃r:Nat,e=.returned (.int .i64 r)/\r<=m)/\w'=w:=by
 obtain ⟨c0,c1⟩:=u;have v:¬(m:Int)+1=0:=by omega
 by_cases h:c<0
 .have A:wrap64 (c+1)=c+1:=by rw[aH];exact zw _ (by omega)
  have C:wrap64 (-(c+1))=-(c+1):=by rw[aH];exact zw _ (by omega)
  obtain ⟨r,j,q⟩:=EB (-(c+1)) (m+1) (by omega) (by omega)
  rw[show ((m+1:Nat):Int)=(m:Int)+1 by omega]at j
  go_in;go_wp2;go_ret;exact ⟨⟨r,rfl,by omega⟩,rfl⟩
 obtain ⟨r,j,q⟩:=EB c (m+1) (by omega) (by omega)
 rw[show ((m+1:Nat):Int)=(m:Int)+1 by omega]at j
 go_in;go_wp2;go_ret;exact ⟨⟨r,rfl,by omega⟩,rfl⟩
def Z0 (l:List UInt8):∀(m k:Nat),(iG l m k).length<=m
 | 0,k=>by rw[iG];exact zn
 | m+1,k=>by
  rw[iG]
  split
  .split
   .simp
   have:=Z0 l m (k+(bV l k).2.toNat);simp;omega
  simp
def MZ (s):(cV s).length<=s.size:=by
 rw[<-E5 s];exact Z0 _ _ _
def Ug {ln:Nat} {l:List IT} (h:w.ownsRow base 244 6 (.slice ao ln cp) l.length (l.flatMap nr)):
    ∃g o,(0<l.length->ao=some ⟨g,0,none⟩/\base<=g/\w.heap[g]?=some o)/\∀V:World,V.heap[g]?=some o->∀k x,l[k]?=some x->∀j u,(nr x)[j]?=some u->V.cell? ⟨g,k*6+j,none⟩=some u:=by
 have E:=h;obtain ⟨L,⟨D,K⟩|⟨g,cap,G,D,I,N,M⟩⟩:=h
 .refine ⟨0,.cells #[] 0,λ q=>by omega,λ V _ k x y=>?_⟩
  have:=(List.getElem?_eq_some_iff.1 y).1;omega
 simp at D;obtain ⟨rfl,rfl,rfl⟩:=D;have v:=(E.lt g rfl).2;refine ⟨g,w.heap[g]'v,λ _=>⟨rfl,I,Array.getElem?_eq_getElem v⟩,λ V H k x y j u F=>?_⟩
 have C:k<l.length:=(List.getElem?_eq_some_iff.1 y).1
 have J:j<6:=by
  have:=(List.getElem?_eq_some_iff.1 F).1;simpa[nr] using this
 have A:=jF nr 6 (λ _=>rfl) l k j J C
 rw[y]at A;simp only[zd]at A;have:=E.cells (g:=g) rfl (6*k+j) _ (A.trans F)
 have e:(⟨g,0,none⟩:Addr).add (6*k+j)=⟨g,k*6+j,none⟩:=by
  simp only[Addr.add];rw[Nat.mul_comm 6 k];simp;omega
 rw[e]at this;rw[<-this];unfold World.cell?;simp only;rw[H,Array.getElem?_eq_getElem v]
def LM {F:Fence} {P:Program} {α:Type} {g:Operand} {ps:Array Tmp} {q G:Code} {Q:Exit->Act->World->Prop} {a:Act} (af:F.round=none) (h1:1<=n) (hg:a.eval g=.func (.func gf) #[] lb) (Y:F.fn gf) (eg:∀args w,(callFunc gf args).run P w=.ok (.enter gf args) w) {u:α->Array Value} {J:World->World->Prop} {S Sp:List α->Prop} (R:Bo F (n-1) P gf lb u J S Sp N w0) (ab:∀{A B C:World},J A B->J B C->J A C) (aa:∀(W:World) (l:Nat) (o o':Obj),W.heap[l]?=some o->o.isCells=false->J W (W.putObj l o')) (ac:Below w0.heap.size w0 w) (ae:∀x,(u x).size=ps.size) (I:List α->World->Prop) (U:Code->List α->World->Prop) (E:World->Prop) (hI:OwnFrom w.heap.size I) (Z:∀c,OwnFrom w.heap.size (U c)) (h0:I [] w) (T:α->Act->World->Prop) (X:∀x L,OwnFrom w.heap.size (λ (_:Unit) W=>T x L W)) (y:∀(l:Nat) (j:List α) (x:α) (W:World) (K:Act->World->Prop),I j W->(∀L O,KeepsFrom w.heap.size W O->J W O->I j O->T x L O->K L O)->
      q.wpIn (F.inRound l) (n-1-1) P (Exit.then K (λ _ _ _=>False)) { tmps:=(ps.zip (u x)).foldl (λ t (p,v)=>t.setIfInBounds p v) a.tmps,defers:=[] } W) (M:∀(l:Nat) (j:List α) (x:α) (L:Act) (W:World),I j W->T x L W->j.length<N->G.wpIn (F.inRound l) (n-1-1) P (ownPostG w.heap.size J I U (j++[x]) W) L W) (hE:∀V W,S V->I V W->E W) (hX:∀c j W,Sp j->U c j W->c=.exit id/\E W) (H:∀(D:Nat) (W:World),w.heap.size<=D->E W->W.heap[D]?=some (.deferred (some []))->Q .normal { a with defers:={ target:=.collected D,args:=#[] }::a.defers } W):
    (Code.rangeFunc g ps q G).wpIn F n P (Exit.inBlock id Q) a w:=by
 refine C7 af h1 hg Y eg R ab aa ac ae I U hI Z h0 T X y M (λ D V W q1 q2 q3 q4=>H D W q1 (hE V W q2 q3) q4) (λ D c j W q1 q2 q3 q4=>?_)
 obtain ⟨rfl,h⟩:=hX c j W q2 q3;refine wpIn_exit ?_;simp only[Exit.inBlock,if_true];exact H D W q1 h q4
structure jN (s:ByteArray) (ao:Option Addr) (cp:Nat) (g:Nat) (o:Obj) (B most:Nat) (w:World) (n:Nat) (V:World):Prop where
 cl:V.heap[B]?=some (.cells #[.slice ao (cV s).length cp] 241 (0,0))
 cm:V.heap[B+1]?=some (.cells #[.int .i64 most] 3 (0,0))
 ci:V.heap[B+1+1]?=some (.cells #[.string s] 9 (0,0))
 cn:V.heap[B+1+1+1]?=some (.cells #[.int .i64 n] 3 (0,0))
 co:V.heap[B+1+1+1+1]?=some (.cells #[.bool true] 4 (0,0))
 cg:0<(cV s).length->V.heap[g]?=some o
 cr:V.heap[w.heap.size]?=some (.cells #[.bool false] 4 (0,0))
 bel:Below w.heap.size w V
def jN.own {o:Obj} {B most:Nat} (h:jN s ao cp g o B most w n A) (j:∀(k:Nat) (q:Obj),k<b->A.heap[k]?=some q->V.heap[k]?=some q) (v:B+1+1+1+1<b) (y:0<(cV s).length->g<b) (C:w.heap.size<b) (u:Below w.heap.size w V):jN s ao cp g o B most w n V:=
 ⟨j _ _ (by omega) h.cl,j _ _ (by omega) h.cm,j _ _ (by omega) h.ci,j _ _ (by omega) h.cn,j _ _ v h.co,λ q=>j _ _ (y q) (h.cg q),j _ _ C h.cr,u⟩
def jN.next {o:Obj} {B most:Nat} (h:jN s ao cp g o B most w n A) (u:Below A.heap.size A V):jN s ao cp g o B most w n V:=by
 have j:∀(k:Nat) (o:Obj),A.heap[k]?=some o->V.heap[k]?=some o:=λ k o h=>(u.block k (Array.getElem?_eq_some_iff.1 h).1).trans h
 exact ⟨j _ _ h.cl,j _ _ h.cm,j _ _ h.ci,j _ _ h.cn,j _ _ h.co,λ q=>j _ _ (h.cg q),j _ _ h.cr,h.bel.trans (u.mono h.bel.size)⟩
def yt {o:Obj} {B most:Nat} (h:jN s ao cp g o B most w n V) (E:0<(cV s).length->g<B) (N:w.heap.size<B) (b) (Z):
    (V.setCell ⟨B+1+1+1+1,0,none⟩ (.bool b)).cell? ⟨B+1+1+1,0,none⟩=some (.int .i64 n)/\(V.setCell ⟨B+1+1+1+1,0,none⟩ (.bool b)).frozen? ⟨B+1+1+1,0,none⟩=false/\
    ((V.setCell ⟨B+1+1+1+1,0,none⟩ (.bool b)).setCell ⟨B+1+1+1,0,none⟩ (.int .i64 ((n:Int)+1))).cell? ⟨B+1+1+1+1,0,none⟩=some (.bool b)/\
    KeepsFrom Z V ((V.setCell ⟨B+1+1+1+1,0,none⟩ (.bool b)).setCell ⟨B+1+1+1,0,none⟩ (.int .i64 ((n:Int)+1)))/\jA V ((V.setCell ⟨B+1+1+1+1,0,none⟩ (.bool b)).setCell ⟨B+1+1+1,0,none⟩ (.int .i64 ((n:Int)+1)))/\
    (b=true->jN s ao cp g o B most w (n+1) ((V.setCell ⟨B+1+1+1+1,0,none⟩ (.bool b)).setCell ⟨B+1+1+1,0,none⟩ (.int .i64 ((n:Int)+1)))):=by
 have F:∀j,j≠B+1+1+1+1->(V.setCell ⟨B+1+1+1+1,0,none⟩ (.bool b)).heap[j]?=V.heap[j]?:=λ j C=>Below.heap_setCell _ _ _ _ (λ e=>C e)
 have s1:=heap_setCell_same V (B+1+1+1+1) 0 _ 4 (.bool b) h.co;have v:=(F (B+1+1+1) (by omega)).trans h.cn
 have G:KeepsFrom Z V (V.setCell ⟨B+1+1+1+1,0,none⟩ (.bool b)):=qp h.co _ _;have I:jA V (V.setCell ⟨B+1+1+1+1,0,none⟩ (.bool b)):=yR h.co (by decide) _ _
 have y:Below w.heap.size w (V.setCell ⟨B+1+1+1+1,0,none⟩ (.bool b)):=h.bel.setCell (by show w.heap.size<=B+1+1+1+1;omega) _
 generalize V.setCell ⟨B+1+1+1+1,0,none⟩ (.bool b)=u at *;have D:∀j,j≠B+1+1+1->(u.setCell ⟨B+1+1+1,0,none⟩ (.int .i64 ((n:Int)+1))).heap[j]?=u.heap[j]?:=λ j C=>Below.heap_setCell _ _ _ _ (λ e=>C e)
 have s2:=heap_setCell_same u (B+1+1+1) 0 _ 3 (.int .i64 ((n:Int)+1)) v;have H:KeepsFrom Z u (u.setCell ⟨B+1+1+1,0,none⟩ (.int .i64 ((n:Int)+1))):=qp v _ _;have J:jA u (u.setCell ⟨B+1+1+1,0,none⟩ (.int .i64 ((n:Int)+1))):=yR v (by decide) _ _
 have A:Below w.heap.size w (u.setCell ⟨B+1+1+1,0,none⟩ (.int .i64 ((n:Int)+1))):=y.setCell (by show w.heap.size<=B+1+1+1;omega) _
 refine ⟨by rw[Lib.cell_of_heap v];rfl,lO v 0,?_,G.trans H,tz I J,λ e=>?_⟩
 .rw[Lib.cell_of_heap ((D _ (by omega)).trans s1)];rfl
 subst e;have lo:∀j,j≠B+1+1+1->j≠B+1+1+1+1->∀q,V.heap[j]?=some q->(u.setCell ⟨B+1+1+1,0,none⟩ (.int .i64 ((n:Int)+1))).heap[j]?=some q:=λ j K L q M=>(D j K).trans ((F j L).trans M)
 refine ⟨lo _ (by omega) (by omega) _ h.cl,lo _ (by omega) (by omega) _ h.cm,lo _ (by omega) (by omega) _ h.ci,?_,?_,λ q=>lo _ (by have:=E q;omega) (by have:=E q;omega) _ (h.cg q),lo _ (by omega) (by omega) _ h.cr,A⟩
 .rw[s2];rfl
 rw[D _ (by omega),s1];rfl
def Ei {L j:List IT} {x:IT} (h:j <+:L) (hx:L[j.length]?=some x):j++[x] <+:L:=by
 obtain ⟨t,rfl⟩:=h;rw[List.getElem?_append_right zn,Nat.sub_self]at hx
 cases t with
 | nil=>simp at hx
 | cons y t=>
  simp at hx;subst hx;exact ⟨t,by simp⟩
def vU {L j:List IT} {x:IT} (h:j++[x] <+:L):L[j.length]?=some x:=by
 obtain ⟨t,rfl⟩:=h;simp
def Gp {o:Obj} {B most:Nat} (h:jN s ao cp g o B most w n V) (y:0<(cV s).length->g<B) (F:w.heap.size<B) (m:Nat) (Z:Nat):
    KeepsFrom Z V (V.setCell ⟨B+1+1+1,0,none⟩ (.int .i64 m))/\jA V (V.setCell ⟨B+1+1+1,0,none⟩ (.int .i64 m))/\jN s ao cp g o B most w m (V.setCell ⟨B+1+1+1,0,none⟩ (.int .i64 m))/\
    (∀(D:Nat) (q:Obj),B+5<=D->V.heap[D]?=some q->(V.setCell ⟨B+1+1+1,0,none⟩ (.int .i64 m)).heap[D]?=some q):=by
 have u:∀j,j≠B+1+1+1->(V.setCell ⟨B+1+1+1,0,none⟩ (.int .i64 m)).heap[j]?=V.heap[j]?:=λ j A=>Below.heap_setCell _ _ _ _ (λ e=>A e)
 have s2:=heap_setCell_same V (B+1+1+1) 0 _ 3 (.int .i64 m) h.cn;have v:Below w.heap.size w (V.setCell ⟨B+1+1+1,0,none⟩ (.int .i64 m)):=h.bel.setCell (by show w.heap.size<=B+1+1+1;omega) _
 refine ⟨qp h.cn _ _,yR h.cn (by decide) _ _,⟨(u _ (by omega)).trans h.cl,(u _ (by omega)).trans h.cm,(u _ (by omega)).trans h.ci,by rw[s2];rfl,(u _ (by omega)).trans h.co,λ q=>(u _ (by have:=y q;omega)).trans (h.cg q),(u _ (by omega)).trans h.cr,v⟩,λ D q E C=>(u D (by omega)).trans C⟩
def dQ {x:Value} {f:Nat×Nat} (h:V.heap[b]?=some (.cells #[x] T f)):V.cell? ⟨b,0,none⟩=some x:=by rw[Lib.cell_of_heap h];rfl
def J4 {x y z u v:Value} {f:Nat×Nat} (h:V.heap[b]?=some (.cells #[x,y,z,u,v] T f)):V.cell? ⟨b,0,none⟩=some x/\V.cell? ⟨b,1,none⟩=some y/\V.cell? ⟨b,2,none⟩=some z/\V.cell? ⟨b,3,none⟩=some u/\V.cell? ⟨b,4,none⟩=some v:=by simp only[Lib.cell_of_heap h];exact ⟨rfl,rfl,rfl,rfl,rfl⟩
def S0 (s) (c) (w) (hs:s.size<=2000000) (hc:-9223372036854775808<=c/\c<9223372036854775808):
    aG prog 100 #[.string s,.int .i64 c] w (.bool true):=by
 unfold aG;have be:=aA (λ w'=>OW s w' hs)
 rw[E5 s]at be;refine (callsIn_wide (n:=8)).1 ?_;refine callsIn_of_wp_marks func100 rfl trivial ?_ rfl;simp only[ntmps100,List.size_toArray,List.length_cons,List.length_nil,Nat.reduceAdd,Nat.reduceSub,Array.replicate_succ,Array.replicate_zero,List.push_toArray,List.append_toArray,List.nil_append,List.cons_append];gi_wp2_with fail;have a9:Hid (Below w.heap.size w (w.alloc (.cells #[.bool false] 4))):=aA aJ;have a3:Hid ((w.alloc (.cells #[.bool false] 4)).heap[w.heap.size]?=some (.cells #[.bool false] 4 (0,0))):=aA (heap_alloc_new w _);generalize w.alloc (.cells #[.bool false] 4)=W0 at *;refine ⟨trivial,(callsIn_wide.2 (be.out W0)).mono ?_⟩;rintro e w1 ⟨ao,n,cp,rfl,ay,bm⟩;obtain ⟨ef,eh,hv⟩:=lm ay;cases hv
 obtain ⟨g,o,hg,hG⟩:=Ug ay;have hL:=MZ s;have a2:Hid (0<(cV s).length->ao=some ⟨g,0,none⟩/\W0.heap.size<=g/\w1.heap[g]?=some o):=aA hg;have HG:=aA hG;have bg:=aA ((bm.block _ (Array.getElem?_eq_some_iff.1 a3.out).1).trans a3.out);have ba:=aA (a9.out.trans (bm.mono a9.out.size));have cb:w.heap.size<W0.heap.size:=(Array.getElem?_eq_some_iff.1 a3.out).1;have ee:Hid (w.heap.size<W0.heap.size):=aA cb;clear bm a3 a9 ay hg hG be cb;have dv:wrap64 (((cV s).length:Int)+1)=((cV s).length:Int)+1:=by rw[aH];exact zw _ (by omega)
 have b4:=aA (λ w'=>ED c (cV s).length w' (by omega) hc)
 have dj:=aA (xV (8-1) (by omega))
 gi_wp2_with fail;refine ⟨trivial,(callsIn_wide.2 (b4.out _)).mono ?_⟩;rintro e w2 ⟨⟨most,rfl,F⟩,rfl⟩;gi_wp2_with fail;refine ⟨trivial,(Np 7 (by omega) s _).mono ?_⟩
 rintro e w5 ⟨rfl,rfl⟩;gi_wp2_with fail;rw[NL];gi_wp2_with fail;generalize R:w1.heap.size=B at *;obtain ⟨W5,ax⟩:∃W5,((((w1.alloc (.cells #[.slice ao (cV s).length cp] 241)).alloc (.cells #[.int .i64 most] 3)).alloc (.cells #[.string s] 9)).alloc (.cells #[.int .i64 0] 3)).alloc (.cells #[.bool true] 4)=W5:=⟨_,rfl⟩;have aa:W5.heap.size=B+5:=by rw[<-ax,<-R];simp
 have L:0<(cV s).length->g<B:=λ q=>by rw[<-R];exact (Array.getElem?_eq_some_iff.1 (a2.out q).2.2).1
 have P:w.heap.size<B:=by rw[<-R];exact (Array.getElem?_eq_some_iff.1 bg.out).1
 have U:Hid (jN s ao cp g o B most w 0 W5):=aA (by
  have lo:∀k q,w1.heap[k]?=some q->W5.heap[k]?=some q:=λ k q h=>by
   have:=(Array.getElem?_eq_some_iff.1 h).1;rw[<-ax];(rw[Below.heap_alloc _ _ _ (by simp;omega),Below.heap_alloc _ _ _ (by simp;omega),Below.heap_alloc _ _ _ (by simp;omega),Below.heap_alloc _ _ _ (by simp;omega),Below.heap_alloc _ _ _ (by omega)]);exact h
  refine ⟨?_,?_,?_,?_,?_,λ q=>lo _ _ (a2.out q).2.2,lo _ _ bg.out,?_⟩
  all_goals rw[<-ax]
  .rw[Below.heap_alloc _ _ _ (by simp;omega),Below.heap_alloc _ _ _ (by simp;omega),Below.heap_alloc _ _ _ (by simp;omega),Below.heap_alloc _ _ _ (by simp;omega),<-R]
   exact heap_alloc_new _ _
  .rw[Below.heap_alloc _ _ _ (by simp;omega),Below.heap_alloc _ _ _ (by simp;omega),Below.heap_alloc _ _ _ (by simp;omega),show B+1=(w1.alloc (.cells #[.slice ao (cV s).length cp] 241)).heap.size by simp[R]]
   exact heap_alloc_new _ _
  .rw[Below.heap_alloc _ _ _ (by simp;omega),Below.heap_alloc _ _ _ (by simp;omega),show B+1+1=((w1.alloc (.cells #[.slice ao (cV s).length cp] 241)).alloc (.cells #[.int .i64 most] 3)).heap.size by simp[R]]
   exact heap_alloc_new _ _
  .rw[Below.heap_alloc _ _ _ (by simp;omega),show B+1+1+1=(((w1.alloc (.cells #[.slice ao (cV s).length cp] 241)).alloc (.cells #[.int .i64 most] 3)).alloc (.cells #[.string s] 9)).heap.size by simp[R]]
   exact heap_alloc_new _ _
  .rw[show B+1+1+1+1=((((w1.alloc (.cells #[.slice ao (cV s).length cp] 241)).alloc (.cells #[.int .i64 most] 3)).alloc (.cells #[.string s] 9)).alloc (.cells #[.int .i64 0] 3)).heap.size by simp[R]]
   exact heap_alloc_new _ _
  have hz:=ba.out.size;exact ((((ba.out.alloc hz _).alloc (by simp;omega) _).alloc (by simp;omega) _).alloc (by simp;omega) _).alloc (by simp;omega) _)
 rw[ax];have a1:Hid (0<(cV s).length->ao=some ⟨g,0,none⟩):=aA (λ q=>(a2.out q).1)
 clear ax a2 bg ba b4 dj dv
 refine LM (α:=IT) rfl (by omega) (gf:=83) (lb:=#[.pointer (some ⟨B+1+1,0,none⟩)]) rfl trivial (enters_of func83 (by kernel_rfl) rfl)
  (xV (8-1) (by omega) (B+1+1) s hs W5 U.out.ci) tz Il aU (λ _=>rfl)
  (λ j V=>(j <+:cV s/\j.length<=most)/\jN s ao cp g o B most w j.length V)
  (λ c j V=>c=.exit 0/\(j <+:cV s->jN s ao cp g o B most w most V))
  (λ V=>jN s ao cp g o B most w most V)
  ?oI ?oX ⟨⟨List.nil_prefix,Nat.zero_le _⟩,U.out⟩
  (λ x a' V=>∃Bx,V.heap[Bx]?=some (.cells #[.int .i64 x.2.op,.int .i64 x.2.rd,.int .i64 x.2.rs1,.int .i64 x.2.rs2,.int .i64 x.2.imm] 26 (0,0))/\a' = { tmps:=#[.string s,.int .i64 c,undef,undef,.pointer (some ⟨w.heap.size,0,none⟩),.pointer (some ⟨B,0,none⟩),.pointer (some ⟨B+1,0,none⟩),.func (.func 83) #[] #[.pointer (some ⟨B+1+1,0,none⟩)],.pointer (some ⟨B+1+1+1,0,none⟩),.pointer (some ⟨B+1+1+1+1,0,none⟩),.int .i64 x.1,.pointer (some ⟨Bx,0,none⟩),undef,undef,.string s,.slice ao (cV s).length cp,.int .i64 c,.slice ao (cV s).length cp,.int .i64 (cV s).length,.int .i64 ((cV s).length+1),.int .i64 most,.string s,.func (.func 83) #[] #[.pointer (some ⟨B+1+1,0,none⟩)],.func (.func 83) #[] #[.pointer (some ⟨B+1+1,0,none⟩)],.bool false,.func (.func 83) #[] #[.pointer (some ⟨B+1+1,0,none⟩)],.int .i64 x.1,.agg #[.int .i64 x.2.op,.int .i64 x.2.rd,.int .i64 x.2.rs1,.int .i64 x.2.rs2,.int .i64 x.2.imm],undef,undef,undef,undef,undef,undef,undef,undef,undef,undef,undef,undef,undef,undef,undef,undef,undef,undef,undef,undef,undef,undef,undef,undef,undef,undef,undef,undef,undef,undef,undef,undef,undef,undef,undef,undef,undef,undef,undef,undef,undef,undef,undef,undef,undef,undef,undef,undef,undef,undef,undef,undef,undef,undef,undef,undef,undef,undef,undef,undef,undef,undef,undef,undef,undef,undef,undef,undef,undef,undef],defers:=[] })
  ?oA ?assign ?body ?hE ?hX ?rest
 case oI=>
  rintro j A V row ⟨W,Z⟩ hg hr;exact ⟨W,Z.own (b:=W5.heap.size) (λ k q hk h=>nE (β:=Unit) (B:=W5.heap.size) hk () A V row h hg hr) (by omega) (λ q=>by have:=L q;omega) (by omega) (ownFrom_below (β:=Unit) zn (by omega) () A V row Z.bel hg hr)⟩
 case oX=>
  rintro cc j A V row ⟨W,Z⟩ hg hr;exact ⟨W,λ T=>(Z T).own (b:=W5.heap.size) (λ k q hk h=>nE (β:=Unit) (B:=W5.heap.size) hk () A V row h hg hr) (by omega) (λ q=>by have:=L q;omega) (by omega) (ownFrom_below (β:=Unit) zn (by omega) () A V row (Z T).bel hg hr)⟩
 case oA=>
  intro x a' _ X Y row hs hg hr;obtain ⟨Bx,W,h3⟩:=hs;refine ⟨Bx,(hg.block Bx (Array.getElem?_eq_some_iff.1 W).1 (λ e=>?_)).trans W,h3⟩
  obtain ⟨_,o,ho,hc⟩:=hr Bx e.symm;rw[W]at ho;cases ho
  simp[Obj.isCells]at hc
 case hE=>
  rintro xs V rfl ⟨⟨W,Z⟩,h3⟩;have:(cV s).length=most:=by omega
  rw[this]at h3;exact h3
 case hX=>
  rintro cc j V T ⟨W,Z⟩;exact ⟨W,Z T⟩
 case assign=>
  rintro l2 j ⟨k,⟨ai,aj,N,O,M⟩⟩ V K hI hK;have HI:=aA hI;have HK:=aA hK;clear hI hK;unfold tJ;gi_wp2;have am:Below V.heap.size V (V.alloc (.cells #[.int .i64 ai,.int .i64 aj,.int .i64 N,.int .i64 O,.int .i64 M] 26)):=aJ;exact HK.out _ _ ((KeepsOthers.alloc _ _).from _) (qA am) ⟨HI.out.1,HI.out.2.next am⟩ ⟨V.heap.size,heap_alloc_new V _,rfl⟩
 case body=>
  rintro l2 j ⟨k,⟨ai,aj,N,O,M⟩⟩ a' V ⟨⟨T,hl⟩,C⟩ ⟨Bx,ak,rfl⟩ ab;have C:=aA C;simp only at ak;have cn:=dQ C.out.cn;have cm:=dQ C.out.cm;have co:=dQ C.out.co;have cl:=dQ C.out.cl;have Q:=aA ak;have HP:=aA T;have dz:=aA aa;have bc:=aA L;clear ak T U L aa;by_cases cw:j.length=most
  .have cx:(j.length:Int)=most:=by omega
   clear hl ab;gi_wp2_with fail;exact ⟨⟨zn,λ _ _ _ h _=>h⟩,rfl,λ _=>cw ▸ C.out⟩
  have cx:¬(j.length:Int)=most:=by omega
  have H:=aA (And.intro hl (And.intro ab (And.intro F (And.intro hL (And.intro P hs)))));clear hl ab F hL P R hs;gi_upto_region 12 with fail;obtain ⟨hl,ab,F,hL,P,hs⟩:=H.out;have ac:j.length<(cV s).length:=by omega
  have cq:(j.length:Int)<(cV s).length:=by omega
  obtain ⟨⟨yk,⟨yo,yd,y1,y2,ym⟩⟩,hy⟩:∃y,(cV s)[j.length]?=some y:=⟨_,zg ac⟩;obtain rfl:=a1.out (by omega)
  have cells:=HG.out V (C.out.cg (by omega)) j.length _ hy
  have c0:V.cell? ⟨g,j.length*6,none⟩=some (.int .i64 yk):=cells 0 _ rfl;have c1:V.cell? ⟨g,j.length*6+1,none⟩=some (.int .i64 yo):=cells 1 _ rfl;have c2:V.cell? ⟨g,j.length*6+2,none⟩=some (.int .i64 yd):=cells 2 _ rfl;have c3:V.cell? ⟨g,j.length*6+3,none⟩=some (.int .i64 y1):=cells 3 _ rfl;have c4:V.cell? ⟨g,j.length*6+4,none⟩=some (.int .i64 y2):=cells 4 _ rfl;have c5:V.cell? ⟨g,j.length*6+5,none⟩=some (.int .i64 ym):=cells 5 _ rfl;obtain ⟨x0,x1,x2,x3,x4⟩:=J4 Q.out;have fo:=lO C.out.co 0;have HY:=aA hy;have du:(0:Int)<=j.length:=by omega
  have cj:j.length<most:=by omega
  have dh:=aA cj;clear cells hy hl ab ac F hL P a1 cw hs cj;by_cases hk:(k:Int)=yk
  .by_cases hx:ai=yo/\aj=yd/\N=y1/\O=y2/\M=ym
   .obtain ⟨rfl,rfl,rfl,rfl,rfl⟩:=hx
    (refine xc (by simp) rfl (by kernel_rfl) (by kernel_rfl) (by kernel_rfl) (by kernel_rfl) (by kernel_rfl) ?_);simp only[List.dropLast,List.getLast]
    repeat (gi_big_quiet_step (fail))
    refine wpQuietIn_nil ?_;intro _ I;obtain ⟨nq,E⟩:=I;subst E;refine ⟨trivial,?_⟩;(have v:Below V.heap.size V (V.drewN nq):=⟨rfl,rfl,rfl,zn,λ _ _=>rfl⟩);have u:=aA (C.out.next v);(have G:Hid (KeepsFrom W5.heap.size V (V.drewN nq)/\jA V (V.drewN nq)):=aA ⟨⟨zn,λ _ _ _ h _=>h⟩,qA v⟩);clear v c0 c1 c2 c3 c4 c5 x0 x1 x2 x3 x4 cn cm co cl fo C Q;generalize V.drewN nq=V1 at *;obtain ⟨t1,t2,t3,t4,t5,t6⟩:=yt u.out bc.out H.out.2.2.2.2.1 true W5.heap.size;have J:=aA (And.intro t4 (And.intro t5 (t6 rfl)));have b5:=dQ u.out.co;have b7:=lO u.out.co 0;(have wn:IntKind.i64.wrap ((j.length:Int)+1)=(j.length:Int)+1:=zw _ (by have:=H.out.2.1;have:=H.out.2.2.2.2.2;omega));clear t4 t5 t6;go_simp;gi_wp2_with fail;(have bq:k=yk:=by omega);exact ⟨G.out.1.trans J.out.1,tz G.out.2 J.out.2.1,⟨Ei HP.out (by rw[bq];exact HY.out),by have:=dh.out;simp;omega⟩,by rw[List.length_append];exact J.out.2.2⟩
   (refine xc (by simp) rfl (by kernel_rfl) (by kernel_rfl) (by kernel_rfl) (by kernel_rfl) (by kernel_rfl) ?_);simp only[List.dropLast,List.getLast]
   repeat (gi_big_quiet_step (fail))
   gi_big_quiet_want;gi_big_quiet_op;(refine ⟨.bool false,λ _=>by (repeat' split)<;>simp_all,?_⟩);go_big_quiet_on
   repeat (gi_big_quiet_step (fail))
   refine wpQuietIn_nil ?_;intro _ I;obtain ⟨nq,E⟩:=I;subst E;refine ⟨trivial,?_⟩;(have v:Below V.heap.size V (V.drewN nq):=⟨rfl,rfl,rfl,zn,λ _ _=>rfl⟩);have u:=aA (C.out.next v);(have G:Hid (KeepsFrom W5.heap.size V (V.drewN nq)/\jA V (V.drewN nq)):=aA ⟨⟨zn,λ _ _ _ h _=>h⟩,qA v⟩);clear v c0 c1 c2 c3 c4 c5 x0 x1 x2 x3 x4 cn cm co cl fo C Q;generalize V.drewN nq=V1 at *;obtain ⟨t1,t2,t3,t4,t5,t6⟩:=yt u.out bc.out H.out.2.2.2.2.1 false W5.heap.size;have J:=aA t4;have b5:=dQ u.out.co;have b7:=lO u.out.co 0;(have wn:IntKind.i64.wrap ((j.length:Int)+1)=(j.length:Int)+1:=zw _ (by have:=H.out.2.1;have:=H.out.2.2.2.2.2;omega));clear t4 t5 t6;go_simp;gi_wp2_with fail;exact ⟨G.out.1.trans J.out,rfl,λ T=>absurd (Option.some.inj ((vU T).symm.trans HY.out)) (λ q=>by cases q;exact hx ⟨rfl,rfl,rfl,rfl,rfl⟩)⟩
  have dt:((k:Int)==(yk:Int))=false:=by simpa using hk
  refine xc (by simp) rfl (by kernel_rfl) (by kernel_rfl) (by kernel_rfl) (by kernel_rfl) (by kernel_rfl) ?_
  simp only[List.dropLast,List.getLast]
  repeat (gi_big_quiet_step (fail))
  refine wpQuietIn_nil ?_;intro _ I;obtain ⟨nq,E⟩:=I;subst E;refine ⟨trivial,?_⟩;have v:Below V.heap.size V (V.drewN nq):=⟨rfl,rfl,rfl,zn,λ _ _=>rfl⟩
  have u:=aA (C.out.next v);have G:Hid (KeepsFrom W5.heap.size V (V.drewN nq)/\jA V (V.drewN nq)):=aA ⟨⟨zn,λ _ _ _ h _=>h⟩,qA v⟩
  clear v c0 c1 c2 c3 c4 c5 x0 x1 x2 x3 x4 cn cm co cl fo C Q;generalize V.drewN nq=V1 at *;obtain ⟨t1,t2,t3,t4,t5,t6⟩:=yt u.out bc.out H.out.2.2.2.2.1 false W5.heap.size;have J:=aA t4;have b5:=dQ u.out.co;have b7:=lO u.out.co 0;have wn:IntKind.i64.wrap ((j.length:Int)+1)=(j.length:Int)+1:=zw _ (by have:=H.out.2.1;have:=H.out.2.2.2.2.2;omega)
  clear t4 t5 t6;go_simp;gi_wp2_with fail;exact ⟨G.out.1.trans J.out,rfl,λ T=>absurd (Option.some.inj ((vU T).symm.trans HY.out)) (λ q=>by cases q;exact hk rfl)⟩
 case rest=>
  rintro D V hD C hK;have C:=aA C;have HK:=aA hK;have cn:=dQ C.out.cn;have cm:=dQ C.out.cm;have co:=dQ C.out.co;have fn:=lO C.out.cn 0;have H:=aA (And.intro hs (And.intro hL (And.intro F (And.intro L (And.intro P (And.intro aa hD))))));clear hs hL F L P aa hD hK R U;gi_wp2_with fail;obtain ⟨hs,hL,F,L,P,aa,hD⟩:=H.out;obtain ⟨_,_,a4,b9⟩:=Gp C.out L P 0 0;have ar:=b9 D _ (by omega) HK.out
  have a4:jN s ao cp g o B most w 0 (V.setCell ⟨B+1+1+1,0,none⟩ (.int .i64 0)):=a4;have ar:(V.setCell ⟨B+1+1+1,0,none⟩ (.int .i64 0)).heap[D]?=some (.deferred (some [])):=ar;generalize V.setCell ⟨B+1+1+1,0,none⟩ (.int .i64 0)=W6 at *;have bf:D<W6.heap.size:=(Array.getElem?_eq_some_iff.1 ar).1;have U:=aA a4;have bb:=aA ar;clear C HK cn cm co fn b9 ar a4
  refine C7 (α:=IT) rfl (by omega) (gf:=83) (lb:=#[.pointer (some ⟨B+1+1,0,none⟩)]) rfl trivial (enters_of func83 (by kernel_rfl) rfl)
   (xV (8-1) (by omega) (B+1+1) s hs W6 U.out.ci) tz Il aU (λ _=>rfl)
   (λ j V=>j <+:cV s/\jN s ao cp g o B most w j.length V/\V.heap[D]?=some (.deferred (some [])))
   (λ c j _=>c=.ret/\¬j <+:cV s)
   ?oI (λ _ _ _ _ _ h _ _=>h) ⟨List.nil_prefix,U.out,bb.out⟩
   (λ x a' V=>∃Bx,V.heap[Bx]?=some (.cells #[.int .i64 x.2.op,.int .i64 x.2.rd,.int .i64 x.2.rs1,.int .i64 x.2.rs2,.int .i64 x.2.imm] 26 (0,0))/\a' = { tmps:=#[.string s,.int .i64 c,undef,undef,.pointer (some ⟨w.heap.size,0,none⟩),.pointer (some ⟨B,0,none⟩),.pointer (some ⟨B+1,0,none⟩),.func (.func 83) #[] #[.pointer (some ⟨B+1+1,0,none⟩)],.pointer (some ⟨B+1+1+1,0,none⟩),.pointer (some ⟨B+1+1+1+1,0,none⟩),undef,undef,.int .i64 x.1,.pointer (some ⟨Bx,0,none⟩),.string s,.slice ao (cV s).length cp,.int .i64 c,.slice ao (cV s).length cp,.int .i64 (cV s).length,.int .i64 ((cV s).length+1),.int .i64 most,.string s,.func (.func 83) #[] #[.pointer (some ⟨B+1+1,0,none⟩)],.func (.func 83) #[] #[.pointer (some ⟨B+1+1,0,none⟩)],.bool false,.func (.func 83) #[] #[.pointer (some ⟨B+1+1,0,none⟩)],undef,undef,undef,undef,undef,undef,undef,undef,undef,undef,undef,undef,undef,undef,undef,undef,undef,undef,undef,undef,undef,undef,undef,undef,undef,undef,undef,undef,undef,undef,undef,undef,undef,undef,.bool true,.bool false,.bool false,.int .i64 most,.int .i64 most,.bool false,.bool false,.func (.func 83) #[] #[.pointer (some ⟨B+1+1,0,none⟩)],.int .i64 x.1,.agg #[.int .i64 x.2.op,.int .i64 x.2.rd,.int .i64 x.2.rs1,.int .i64 x.2.rs2,.int .i64 x.2.imm],undef,undef,undef,undef,undef,undef,undef,undef,undef,undef,undef,undef,undef,undef,undef,undef,undef,undef,undef,undef,undef,undef,undef,undef,undef,undef,undef,undef],defers:=[] })
   ?oA ?assign ?body ?done ?stop
  case oI=>
   rintro j A V row ⟨W,Z,h3⟩ hg hr;exact ⟨W,Z.own (b:=W6.heap.size) (λ k q hk h=>nE (β:=Unit) (B:=W6.heap.size) hk () A V row h hg hr) (by omega) (λ q=>by have:=L q;omega) (by omega) (ownFrom_below (β:=Unit) zn (by omega) () A V row Z.bel hg hr),nE (β:=Unit) (B:=W6.heap.size) bf () A V row h3 hg hr⟩
  case oA=>
   intro x a' _ X Y row hs hg hr;obtain ⟨Bx,W,h3⟩:=hs;(refine ⟨Bx,(hg.block Bx (Array.getElem?_eq_some_iff.1 W).1 (λ e=>?_)).trans W,h3⟩);obtain ⟨_,o,ho,hc⟩:=hr Bx e.symm;rw[W]at ho;(cases ho);simp[Obj.isCells]at hc
  case assign=>
   rintro l2 j ⟨k,⟨ai,aj,N,O,M⟩⟩ V K hI hK;have HI:=aA hI;have HK:=aA hK;clear hI hK;unfold tJ;gi_wp2;have am:Below V.heap.size V (V.alloc (.cells #[.int .i64 ai,.int .i64 aj,.int .i64 N,.int .i64 O,.int .i64 M] 26)):=aJ;exact HK.out _ _ ((KeepsOthers.alloc _ _).from _) (qA am) ⟨HI.out.1,HI.out.2.1.next am,(am.block _ (Array.getElem?_eq_some_iff.1 HI.out.2.2).1).trans HI.out.2.2⟩ ⟨V.heap.size,heap_alloc_new V _,rfl⟩
  case body=>
   rintro l2 j ⟨k,⟨ai,aj,N,O,M⟩⟩ a' V ⟨T,C,hd⟩ ⟨Bx,ak,rfl⟩ ab;have C:=aA C;have au:=aA hd;simp only at ak;have cn:=dQ C.out.cn;have cl:=dQ C.out.cl;have cr:=dQ C.out.cr;have fr:=lO C.out.cr 0;have Q:=aA ak;have HP:=aA T;have al:=aA (And.intro L (And.intro P (And.intro aa (And.intro hD (And.intro ab hs)))));clear ak T U bb L hL F P aa hD ab hs H bf hd;(have du:(0:Int)<=j.length:=by omega);by_cases ac:j.length<(cV s).length
   .have cq:(j.length:Int)<(cV s).length:=by omega
    (have cu:¬((cV s).length:Int)<=j.length:=by omega);obtain ⟨⟨yk,⟨yo,yd,y1,y2,ym⟩⟩,hy⟩:∃y,(cV s)[j.length]?=some y:=⟨_,zg ac⟩;(obtain rfl:=a1.out (by omega));(have cells:=HG.out V (C.out.cg (by omega)) j.length _ hy);have c0:V.cell? ⟨g,j.length*6,none⟩=some (.int .i64 yk):=cells 0 _ rfl;have c1:V.cell? ⟨g,j.length*6+1,none⟩=some (.int .i64 yo):=cells 1 _ rfl;have c2:V.cell? ⟨g,j.length*6+2,none⟩=some (.int .i64 yd):=cells 2 _ rfl;have c3:V.cell? ⟨g,j.length*6+3,none⟩=some (.int .i64 y1):=cells 3 _ rfl;have c4:V.cell? ⟨g,j.length*6+4,none⟩=some (.int .i64 y2):=cells 4 _ rfl;have c5:V.cell? ⟨g,j.length*6+5,none⟩=some (.int .i64 ym):=cells 5 _ rfl;obtain ⟨x0,x1,x2,x3,x4⟩:=J4 Q.out;have HY:=aA hy;clear cells hy ac a1;gi_upto_region 21 with fail;dsimp only;by_cases hk:(k:Int)=yk
    .by_cases hx:ai=yo/\aj=yd/\N=y1/\O=y2/\M=ym
     .obtain ⟨rfl,rfl,rfl,rfl,rfl⟩:=hx
      refine tP rfl (by kernel_rfl) (by kernel_rfl) (by kernel_rfl) ?_
      repeat (gi_big_quiet_step (fail))
      refine wpQuietIn_nil ?_;intro _ I;obtain ⟨nq,E⟩:=I;subst E;(have v:Below V.heap.size V (V.drewN nq):=⟨rfl,rfl,rfl,zn,λ _ _=>rfl⟩);have u:=aA (C.out.next v);have df:Hid ((V.drewN nq).heap[D]?=some (.deferred (some []))):=aA au.out;(have G:Hid (KeepsFrom W6.heap.size V (V.drewN nq)/\jA V (V.drewN nq)):=aA ⟨⟨zn,λ _ _ _ h _=>h⟩,qA v⟩);clear v c0 c1 c2 c3 c4 c5 x0 x1 x2 x3 x4 cn cl cr fr C Q au;generalize V.drewN nq=V1 at *;obtain ⟨t4,t5,t6,t7⟩:=Gp u.out al.out.1 al.out.2.1 (j.length+1) W6.heap.size;(have J:=aA (And.intro t4 (And.intro t5 (And.intro t6 (t7 D _ (by have:=al.out.2.2.1;have:=al.out.2.2.2.1;omega) df.out)))));have eg:=dQ u.out.cn;have ej:=lO u.out.cn 0;(have wn:IntKind.i64.wrap ((j.length:Int)+1)=(j.length:Int)+1:=zw _ (by have:=al.out.2.2.2.2.1;have:=al.out.2.2.2.2.2;omega));clear t4 t5 t6 t7;gi_wp2_with fail;(have bq:k=yk:=by omega);exact ⟨G.out.1.trans J.out.1,tz G.out.2 J.out.2.1,Ei HP.out (by rw[bq];exact HY.out),by rw[List.length_append];exact J.out.2.2.1,J.out.2.2.2⟩
     refine tP rfl (by kernel_rfl) (by kernel_rfl) (by kernel_rfl) ?_
     repeat (gi_big_quiet_step (fail))
     gi_big_quiet_want;gi_big_quiet_op;(refine ⟨.bool true,λ _=>by (repeat' split)<;>simp_all,?_⟩);go_big_quiet_on
     repeat (gi_big_quiet_step (fail))
     clear c0 c1 c2 c3 c4 c5 x0 x1 x2 x3 x4;refine wpQuietIn_nil ?_;intro _ I;obtain ⟨nq,E⟩:=I;subst E;(have v:Below V.heap.size V (V.drewN nq):=⟨rfl,rfl,rfl,zn,λ _ _=>rfl⟩);have u:=aA (C.out.next v);(have G:Hid (KeepsFrom W6.heap.size V (V.drewN nq)):=aA ⟨zn,λ _ _ _ h _=>h⟩);clear v cn cl cr fr C Q au;generalize V.drewN nq=V1 at *;have b6:=dQ u.out.cr;have b8:=lO u.out.cr 0;gi_wp2_with fail;exact ⟨G.out.trans (qp u.out.cr _ _),rfl,λ T=>absurd (Option.some.inj ((vU T).symm.trans HY.out)) (λ q=>by cases q;exact hx ⟨rfl,rfl,rfl,rfl,rfl⟩)⟩
    (have ek:((k:Int) != (yk:Int))=true:=by simpa using hk);(have dt:((k:Int)==(yk:Int))=false:=by simpa using hk);refine tP rfl (by kernel_rfl) (by kernel_rfl) (by kernel_rfl) ?_
    repeat (gi_big_quiet_step (fail))
    clear c0 c1 c2 c3 c4 c5 x0 x1 x2 x3 x4;refine wpQuietIn_nil ?_;intro _ I;obtain ⟨nq,E⟩:=I;subst E;(have v:Below V.heap.size V (V.drewN nq):=⟨rfl,rfl,rfl,zn,λ _ _=>rfl⟩);have u:=aA (C.out.next v);(have G:Hid (KeepsFrom W6.heap.size V (V.drewN nq)):=aA ⟨zn,λ _ _ _ h _=>h⟩);clear v cn cl cr fr C Q au;generalize V.drewN nq=V1 at *;have b6:=dQ u.out.cr;have b8:=lO u.out.cr 0;gi_wp2_with fail;exact ⟨G.out.trans (qp u.out.cr _ _),rfl,λ T=>absurd (Option.some.inj ((vU T).symm.trans HY.out)) (λ q=>by cases q;exact hk rfl)⟩
   (have cu:((cV s).length:Int)<=j.length:=by omega);gi_upto_region 21 with fail;dsimp only;refine tP rfl (by kernel_rfl) (by kernel_rfl) (by kernel_rfl) ?_
   repeat (gi_big_quiet_step (fail))
   refine wpQuietIn_nil ?_;intro _ I;obtain ⟨nq,E⟩:=I;subst E;(have v:Below V.heap.size V (V.drewN nq):=⟨rfl,rfl,rfl,zn,λ _ _=>rfl⟩);have u:=aA (C.out.next v);(have G:Hid (KeepsFrom W6.heap.size V (V.drewN nq)):=aA ⟨zn,λ _ _ _ h _=>h⟩);clear v cn cl cr fr C Q au;generalize V.drewN nq=V1 at *;have b6:=dQ u.out.cr;have b8:=lO u.out.cr 0;gi_wp2_with fail;exact ⟨G.out.trans (qp u.out.cr _ _),rfl,λ T=>by have:=T.length_le;simp at this;omega⟩
  case done=>
   rintro D2 xs V ds rfl ⟨W,Z,h3⟩ bo;have C:=aA Z;have cn:=dQ Z.cn;have cl:=dQ Z.cl;have cr:=dQ Z.cr;have fr:=lO Z.cr 0;(have bp:D≠w.heap.size:=by omega);(have aw:D2≠w.heap.size:=by omega);(have bn:D2≠D:=by omega);(have e1:(V.setCell ⟨w.heap.size,0,none⟩ (.bool true)).heap[D2]?=some (.deferred (some [])):=(Below.heap_setCell _ _ _ _ (λ e=>aw e)).trans bo);(have e2:(V.setCell ⟨w.heap.size,0,none⟩ (.bool true)).heap[D]?=some (.deferred (some [])):=(Below.heap_setCell _ _ _ _ (λ e=>bp e)).trans h3);have c6:=heap_setCell_same V w.heap.size 0 _ 4 (.bool true) C.out.cr
   have dn:Hid (∀o o',(((V.setCell ⟨w.heap.size,0,none⟩ (.bool true)).putObj D2 o).putObj D o').cell? ⟨w.heap.size,0,none⟩=some (.bool true)):=aA (λ o o'=>by
    rw[Lib.cell_of_heap ((World.putObj_heap_other (λ e=>bp e.symm)).trans ((World.putObj_heap_other (λ e=>aw e.symm)).trans c6))];rfl)
   have dm:Hid (Below w.heap.size w (((V.setCell ⟨w.heap.size,0,none⟩ (.bool true)).putObj D2 (.deferred none)).putObj D (.deferred none))):=aA (by
    (refine (show Below w.heap.size w (V.setCell ⟨w.heap.size,0,none⟩ (.bool true)) from C.out.bel.setCell zn _).trans ?_);(refine (belowK_b (w:=w) zn (V.setCell ⟨w.heap.size,0,none⟩ (.bool true)) D2 (.deferred (some [])) (.deferred none) (by omega) e1 rfl rfl).trans ?_);exact belowK_b (w:=w) zn _ D (.deferred (some [])) (.deferred none) (by omega) ((World.putObj_heap_other (λ e=>bn e.symm)).trans e2) rfl rfl)
   have dk:=aA e1;(have dl:Hid (∀o,((V.setCell ⟨w.heap.size,0,none⟩ (.bool true)).putObj D2 o).heap[D]?=some (.deferred (some []))):=aA (λ o=>(World.putObj_heap_other (λ e=>bn e.symm)).trans e2));clear W Z h3 bo e1 e2 U bb hs hL F L P aa hD H bf bp aw bn c6;gi_wp2_with fail;(refine ⟨by simp,.inl ⟨_,_,rfl,run_takeDeferred dk.out,?_⟩⟩);(refine ⟨by simp,.inl ⟨_,_,rfl,run_takeDeferred (dl.out _),?_⟩⟩);(refine ⟨.bool true,by simp[results,results100,go_sem,dn.out],rfl,?_⟩);exact dm.out
  case stop=>
   rintro D2 cc j V ds cz ⟨rfl,hx⟩ bo;exact absurd cz hx
def cG.ok (o:cG):Prop:=o.s.size<=2000000/\(-9223372036854775808<=o.on/\o.on<9223372036854775808)/\(-9223372036854775808<=o.a/\o.a<9223372036854775808)/\(-9223372036854775808<=o.b/\o.b<9223372036854775808)
def Rd:∀o∈jJ,o.ok:=by
 intro o h;simp only[jJ,List.mem_cons,List.not_mem_nil,or_false]at h;rcases h with rfl|rfl|rfl|rfl|rfl|rfl|rfl|rfl|rfl|rfl|rfl<;>exact ⟨by decide,⟨by decide,by decide⟩,⟨by decide,by decide⟩,by decide,by decide⟩
def NK (on a b op rd rs1 rs2 imm) (s) (sh) (w) (u:s.size<=2000000) (q:-9223372036854775808<=a/\a<9223372036854775808):
    aG prog 53 #[.agg (cM 9 on a b op rd rs1 rs2 imm s sh).toArray] w (.bool true):=by
 unfold aG;have v:=aB (λ w'=>S0 s a w' u q)
 clear u q;unfold cM;go_in;go_wp2_with fail;refine zK (v.out _) λ y h=>?_;have j:=aB (aJ.trans (h.mono (by simp)))
 clear h;go_wp2;go_ret;exact ⟨rfl,j.out⟩
def Ni (o:cG) (w) (u:aS w) (h:1<=o.kd) (q:o.kd<=6):aG prog 52 #[.agg o.cells.toArray] w (.bool true):=by
 unfold aG;by_cases j:o.kd<=4
 .exact Ej o w u h j
 obtain ⟨kd,on,a,b,op,rd,rs1,rs2,imm,s,sh⟩:=o;simp only at h j q;have:kd=5\/kd=6:=by omega
 rcases this with rfl|rfl
 .exact Se on a b op rd rs1 rs2 imm s sh w
 exact Rz on a b op rd rs1 rs2 imm s sh w
def KU (o:cG) (w) (h:aS w) (u:7<=o.kd) (v:o.kd<=9) (y:o.ok):aG prog 53 #[.agg o.cells.toArray] w (.bool true):=by
 unfold aG;obtain ⟨kd,on,a,b,op,rd,rs1,rs2,imm,s,sh⟩:=o;obtain ⟨q,_,j,_⟩:=y;simp only at u v q j;have:kd=7\/kd=8\/kd=9:=by omega
 rcases this with rfl|rfl|rfl
 .exact N2 on a b op rd rs1 rs2 imm s sh w h
 .exact MS on a b op rd rs1 rs2 imm s sh w h
 exact NK on a b op rd rs1 rs2 imm s sh w q j
def Qa (o:cG) (p) (w) (q:aS w) (A:o.kd<=9) (C:o.ok):aG prog 33 #[p,.agg o.cells.toArray] w (.bool true):=by
 unfold aG;by_cases v:o.kd<=4
 .exact Sd o p w q v
 have D:=aB (λ o=>q.alloc o)
 by_cases y:o.kd<=6
 .have u:=aB (λ (w:World) (q:aS w)=>Ni o w q (by omega) y)
  clear C;obtain ⟨kd,on,a,b,op,rd,rs1,rs2,imm,s,sh⟩:=o;simp only at v y A;unfold cG.cells cM at *;simp only at u ⊢;have E:1<=kd:=by omega
  go_in;go_wp2_with fail;refine zK (u.out _ (D.out _)) λ F h=>?_;have j:=aB (aJ.trans (h.mono (by simp)))
  clear h;go_wp2;go_ret;exact ⟨rfl,j.out⟩
 have u:=aB (λ (w:World) (q:aS w)=>KU o w q (by omega) A C)
 clear C;obtain ⟨kd,on,a,b,op,rd,rs1,rs2,imm,s,sh⟩:=o;simp only at v y A;unfold cG.cells cM at *;simp only at u ⊢;have E:1<=kd:=by omega
 have G:7<=kd:=by omega
 go_in;go_wp2_with fail;refine zK (u.out _ (D.out _)) λ F h=>?_;have j:=aB (aJ.trans (h.mono (by simp)))
 clear h;go_wp2;go_ret;exact ⟨rfl,j.out⟩
