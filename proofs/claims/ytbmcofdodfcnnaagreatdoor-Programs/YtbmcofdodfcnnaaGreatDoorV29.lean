import Derived.Deep.RegionHeld3
import Derived.Deep.DeepCutAuto
import Derived.Deep.CutRange
import Derived.BigRegionIn
import Derived.Sort.CutIn
import Derived.Sort.QuietIn
import Derived.Test.YtbmcofdodfcnnaaGreatDoorGV27
import Derived.Test.YtbmcofdodfcnnaaGreatDoorGK
set_option linter.all false
set_option maxHeartbeats 400000000
set_option maxRecDepth 100000
namespace Go.Proofs.YtbmcofdodfcnnaaGreatDoor
open Pn
open Go.Proofs.Tryz
open Go.RowKit Go.Shelf
attribute [local go_sem] Oper.semAt_some
theorem b9A (f:Fn) (lb:Array Value) (w:World):(binOp .eql 46 (.func f #[] lb) .nilFunc).run prog w=.ok (.bool false) w:=by
 have h:∀d,(Op.equalIn (d+1) 46 (.func f #[] lb) .nilFunc).run prog w=.ok false w:=fun d=>by
  simp[Op.equalIn,run_underlying underlying46]
 have h2:=h 9999;simp only[binOp,Op.equal,Op.maxDepth];simp[h2]
theorem b6t {V:World} {b:Nat} {cs:Array Value} {ty:TypeId} (h:V.heap[b]?=some (.cells cs ty (0,0))) (q:Nat):V.frozen? ⟨b,q,none⟩=false:=by
 unfold World.frozen?;rw[show ({ block:=b,off:=q }:Addr).block=b from rfl,h]
 simp
theorem a2T {V:World} {b:Nat} {cs:Array Value} {ty:TypeId} (h:V.heap[b]?=some (.cells cs ty (0,0))) (q:Nat) (v:Value) {B:Nat}:KeepsFrom B V (V.setCell ⟨b,q,none⟩ v):=by
 refine ⟨by simp[World.setCell],fun k o hk ho hc=>?_⟩
 by_cases e:k=b
 ·subst e
  rw[h]at ho;cases ho
  simp[Obj.isCells]at hc
 ·exact (Below.heap_setCell _ _ _ _ (fun e'=>e e')).trans ho
theorem b0V {V:World} {b:Nat} {cs:Array Value} {ty:TypeId} (h:V.heap[b]?=some (.cells cs ty (0,0))) (ht:¬(ty=139\/ty=9\/ty=153)) (q:Nat) (v:Value):KpI V (V.setCell ⟨b,q,none⟩ v):=by
 refine ⟨by simp[World.setCell],fun k cs' t fr hk htt=>?_⟩
 by_cases e:k=b
 ·subst e
  rw[h]at hk;cases hk
  exact absurd htt ht
 ·exact (Below.heap_setCell _ _ _ _ (fun e'=>e e')).trans hk
theorem b5e (c:Int) (m:Nat) (h:0<=c) (hm:0<m):∃r:Nat,c.tmod m=r/\r<m:=by
 rw[Int.tmod_eq_emod_of_nonneg h];have h1:=Int.emod_nonneg c (b:=(m:Int)) (by omega)
 have h2:=Int.emod_lt_of_pos c (b:=(m:Int)) (by omega)
 exact ⟨(c%m).toNat,by omega,by omega⟩
theorem c0e (c:Int) (m:Nat) (w:World) (hm2:m<=4294967295) (hc:-9223372036854775808<=c/\c<9223372036854775808):
    Calls prog 56 #[.int .i64 c,.int .i64 ((m:Int)+1)] w fun e w'=>(∃r:Nat,e=.returned (.int .i64 r)/\r<=m)/\w'=w:=by
 obtain ⟨c0,c1⟩:=hc;have hm0:¬(m:Int)+1=0:=by omega
 by_cases h:c<0
 ·have h1:wrap64 (c+1)=c+1:=by rw[a6d];exact IntWalk.i64_in _ (by omega)
  have h2:wrap64 (-(c+1))=-(c+1):=by rw[a6d];exact IntWalk.i64_in _ (by omega)
  obtain ⟨r,hr,hr2⟩:=b5e (-(c+1)) (m+1) (by omega) (by omega)
  rw[show ((m+1:Nat):Int)=(m:Int)+1 by omega]at hr
  go_enter func56,ntmps56;go_wp2;go_ret;exact ⟨⟨r,rfl,by omega⟩,rfl⟩
 ·obtain ⟨r,hr,hr2⟩:=b5e c (m+1) (by omega) (by omega)
  rw[show ((m+1:Nat):Int)=(m:Int)+1 by omega]at hr
  go_enter func56,ntmps56;go_wp2;go_ret;exact ⟨⟨r,rfl,by omega⟩,rfl⟩
theorem b8H (l:List UInt8):∀(m k:Nat),(a9s l m k).length<=m
 | 0,k=>by rw[a9s];exact Nat.le_refl _
 | m+1,k=>by
  rw[a9s]
  split
  ·split
   ·simp
   ·have:=b8H l m (k+(Pn.itR l k).2.toNat);simp;omega
  ·simp
theorem b9K (s:ByteArray):(a0z s).length<=s.size:=by
 rw[<-b46 s];exact b8H _ _ _
theorem c7k {w:World} {base:Nat} {ao:Option Addr} {ln cp:Nat} {l:List IT} (h:w.ownsRow base 244 6 (.slice ao ln cp) l.length (l.flatMap itC)):
    ∃g o,(0<l.length->ao=some ⟨g,0,none⟩/\base<=g/\w.heap[g]?=some o)/\∀V:World,V.heap[g]?=some o->∀k x,l[k]?=some x->∀j u,(itC x)[j]?=some u->V.cell? ⟨g,k*6+j,none⟩=some u:=by
 have h':=h;obtain ⟨h1,⟨hv,h0⟩|⟨g,cap,cur,hv,hg,hc,h3⟩⟩:=h
 ·refine ⟨0,.cells #[] 0,fun q=>by omega,fun V _ k x hk=>?_⟩
  have:=(List.getElem?_eq_some_iff.1 hk).1;omega
 ·simp at hv
  obtain ⟨rfl,rfl,rfl⟩:=hv;have hlt:=(h'.lt g rfl).2;refine ⟨g,w.heap[g]'hlt,fun _=>⟨rfl,hg,Array.getElem?_eq_getElem hlt⟩,fun V hV k x hk j u hu=>?_⟩
  have hkl:k<l.length:=(List.getElem?_eq_some_iff.1 hk).1
  have hj:j<6:=by
   have:=(List.getElem?_eq_some_iff.1 hu).1;simpa[itC] using this
  have hf:=a1j itC 6 (fun _=>rfl) l k j hj hkl
  rw[hk]at hf;simp only[Option.bind_some]at hf;have:=h'.cells (g:=g) rfl (6*k+j) _ (hf.trans hu)
  have e:(⟨g,0,none⟩:Addr).add (6*k+j)=⟨g,k*6+j,none⟩:=by
   simp only[Addr.add];rw[Nat.mul_comm 6 k];simp;omega
  rw[e]at this;rw[<-this];unfold World.cell?;simp only;rw[hV,Array.getElem?_eq_getElem hlt]
theorem b54 {F:Fence} {n:Nat} {P:Program} {α:Type} {g:Operand} {ps:Array Tmp} {assign body:Code} {Q:Exit->Act->World->Prop} {a:Act} {w:World} {id:Nat}
    (hro:F.round=none) (h1:1<=n) {gf:Nat} {lb:Array Value} (hg:a.eval g=.func (.func gf) #[] lb) (hFg:F.fn gf) (eg:∀args w,(callFunc gf args).run P w=.ok (.enter gf args) w)
    {encs:α->Array Value} {Kp:World->World->Prop} {S Sp:List α->Prop} {N:Nat} {w0:World} (hseq:c89 F (n-1) P gf lb encs Kp S Sp N w0)
    (hKt:∀{A B C:World},Kp A B->Kp B C->Kp A C) (hKb:∀(W:World) (l:Nat) (o o':Obj),W.heap[l]?=some o->o.isCells=false->Kp W (W.putObj l o')) (hb0:Below w0.heap.size w0 w) (hps:∀x,(encs x).size=ps.size)
    (I:List α->World->Prop) (Ix:Code->List α->World->Prop) (E:World->Prop) (hI:OwnFrom w.heap.size I) (hIx:∀c,OwnFrom w.heap.size (Ix c)) (h0:I [] w) (Ax:α->Act->World->Prop) (hAx:∀x a',OwnFrom w.heap.size (fun (_:Unit) W=>Ax x a' W))
    (hassign:∀(l:Nat) (pre:List α) (x:α) (W:World) (K:Act->World->Prop),I pre W->(∀a' W',KeepsFrom w.heap.size W W'->Kp W W'->I pre W'->Ax x a' W'->K a' W')->
     assign.wpIn (F.inRound l) (n-1-1) P (Exit.then K (fun _ _ _=>False)) { tmps:=(ps.zip (encs x)).foldl (fun t (p,v)=>t.setIfInBounds p v) a.tmps,defers:=[] } W)
    (hbody:∀(l:Nat) (pre:List α) (x:α) (a':Act) (W:World),I pre W->Ax x a' W->pre.length<N->body.wpIn (F.inRound l) (n-1-1) P (ownPostG w.heap.size Kp I Ix (pre++[x]) W) a' W)
    (hE:∀xs W,S xs->I xs W->E W) (hX:∀c pre W,Sp pre->Ix c pre W->c=.exit id/\E W)
    (hend:∀(D:Nat) (W:World),w.heap.size<=D->E W->W.heap[D]?=some (.deferred (some []))->Q .normal { a with defers:={ target:=.collected D,args:=#[] }::a.defers } W):
    (Code.rangeFunc g ps assign body).wpIn F n P (Exit.inBlock id Q) a w:=by
 refine a9p hro h1 hg hFg eg hseq hKt hKb hb0 hps I Ix hI hIx h0 Ax hAx hassign hbody (fun D xs W q1 q2 q3 q4=>hend D W q1 (hE xs W q2 q3) q4) (fun D c pre W q1 q2 q3 q4=>?_)
 obtain ⟨rfl,h⟩:=hX c pre W q2 q3;refine wpIn_exit ?_;simp only[Exit.inBlock,if_true];exact hend D W q1 h q4
structure TdS (s:ByteArray) (ao:Option Addr) (cp:Nat) (g:Nat) (o:Obj) (B most:Nat) (w:World) (n:Nat) (V:World):Prop where
 cl:V.heap[B]?=some (.cells #[.slice ao (a0z s).length cp] 241 (0,0))
 cm:V.heap[B+1]?=some (.cells #[.int .i64 most] 3 (0,0))
 ci:V.heap[B+1+1]?=some (.cells #[.string s] 9 (0,0))
 cn:V.heap[B+1+1+1]?=some (.cells #[.int .i64 n] 3 (0,0))
 co:V.heap[B+1+1+1+1]?=some (.cells #[.bool true] 4 (0,0))
 cg:0<(a0z s).length->V.heap[g]?=some o
 cr:V.heap[w.heap.size]?=some (.cells #[.bool false] 4 (0,0))
 bel:Below w.heap.size w V
theorem TdS.own {s:ByteArray} {ao:Option Addr} {cp g:Nat} {o:Obj} {B most:Nat} {w:World} {n:Nat} {A V:World} {b:Nat} (h:TdS s ao cp g o B most w n A) (hb:∀(k:Nat) (q:Obj),k<b->A.heap[k]?=some q->V.heap[k]?=some q) (hB:B+1+1+1+1<b) (hg:0<(a0z s).length->g<b) (hw:w.heap.size<b) (hbel:Below w.heap.size w V):TdS s ao cp g o B most w n V:=
 ⟨hb _ _ (by omega) h.cl,hb _ _ (by omega) h.cm,hb _ _ (by omega) h.ci,hb _ _ (by omega) h.cn,hb _ _ hB h.co,fun q=>hb _ _ (hg q) (h.cg q),hb _ _ hw h.cr,hbel⟩
theorem TdS.next {s:ByteArray} {ao:Option Addr} {cp g:Nat} {o:Obj} {B most:Nat} {w:World} {n:Nat} {A V:World} (h:TdS s ao cp g o B most w n A) (hB:Below A.heap.size A V):TdS s ao cp g o B most w n V:=by
 have ob:∀(k:Nat) (o:Obj),A.heap[k]?=some o->V.heap[k]?=some o:=fun k o h=>(hB.block k (Array.getElem?_eq_some_iff.1 h).1).trans h
 exact ⟨ob _ _ h.cl,ob _ _ h.cm,ob _ _ h.ci,ob _ _ h.cn,ob _ _ h.co,fun q=>ob _ _ (h.cg q),ob _ _ h.cr,h.bel.trans (hB.mono h.bel.size)⟩
theorem b0j {s:ByteArray} {ao:Option Addr} {cp g:Nat} {o:Obj} {B most:Nat} {w:World} {n:Nat} {V:World} (h:TdS s ao cp g o B most w n V) (hg:0<(a0z s).length->g<B) (hw:w.heap.size<B) (b:Bool) (Z:Nat):
    (V.setCell ⟨B+1+1+1+1,0,none⟩ (.bool b)).cell? ⟨B+1+1+1,0,none⟩=some (.int .i64 n)/\(V.setCell ⟨B+1+1+1+1,0,none⟩ (.bool b)).frozen? ⟨B+1+1+1,0,none⟩=false/\
    ((V.setCell ⟨B+1+1+1+1,0,none⟩ (.bool b)).setCell ⟨B+1+1+1,0,none⟩ (.int .i64 ((n:Int)+1))).cell? ⟨B+1+1+1+1,0,none⟩=some (.bool b)/\
    KeepsFrom Z V ((V.setCell ⟨B+1+1+1+1,0,none⟩ (.bool b)).setCell ⟨B+1+1+1,0,none⟩ (.int .i64 ((n:Int)+1)))/\KpI V ((V.setCell ⟨B+1+1+1+1,0,none⟩ (.bool b)).setCell ⟨B+1+1+1,0,none⟩ (.int .i64 ((n:Int)+1)))/\
    (b=true->TdS s ao cp g o B most w (n+1) ((V.setCell ⟨B+1+1+1+1,0,none⟩ (.bool b)).setCell ⟨B+1+1+1,0,none⟩ (.int .i64 ((n:Int)+1)))):=by
 have o1:∀j,j≠B+1+1+1+1->(V.setCell ⟨B+1+1+1+1,0,none⟩ (.bool b)).heap[j]?=V.heap[j]?:=fun j hj=>Below.heap_setCell _ _ _ _ (fun e=>hj e)
 have s1:=heap_setCell_same V (B+1+1+1+1) 0 _ 4 (.bool b) h.co;have n1:=(o1 (B+1+1+1) (by omega)).trans h.cn
 have K1:KeepsFrom Z V (V.setCell ⟨B+1+1+1+1,0,none⟩ (.bool b)):=a2T h.co _ _;have P1:KpI V (V.setCell ⟨B+1+1+1+1,0,none⟩ (.bool b)):=b0V h.co (by decide) _ _
 have hb1:Below w.heap.size w (V.setCell ⟨B+1+1+1+1,0,none⟩ (.bool b)):=h.bel.setCell (by show w.heap.size<=B+1+1+1+1;omega) _
 generalize V.setCell ⟨B+1+1+1+1,0,none⟩ (.bool b)=V1 at *;have o2:∀j,j≠B+1+1+1->(V1.setCell ⟨B+1+1+1,0,none⟩ (.int .i64 ((n:Int)+1))).heap[j]?=V1.heap[j]?:=fun j hj=>Below.heap_setCell _ _ _ _ (fun e=>hj e)
 have s2:=heap_setCell_same V1 (B+1+1+1) 0 _ 3 (.int .i64 ((n:Int)+1)) n1;have K2:KeepsFrom Z V1 (V1.setCell ⟨B+1+1+1,0,none⟩ (.int .i64 ((n:Int)+1))):=a2T n1 _ _;have P2:KpI V1 (V1.setCell ⟨B+1+1+1,0,none⟩ (.int .i64 ((n:Int)+1))):=b0V n1 (by decide) _ _
 have hb2:Below w.heap.size w (V1.setCell ⟨B+1+1+1,0,none⟩ (.int .i64 ((n:Int)+1))):=hb1.setCell (by show w.heap.size<=B+1+1+1;omega) _
 refine ⟨by rw[Lib.cell_of_heap n1];rfl,b6t n1 0,?_,K1.trans K2,b6W P1 P2,fun e=>?_⟩
 ·rw[Lib.cell_of_heap ((o2 _ (by omega)).trans s1)];rfl
 ·subst e
  have lo:∀j,j≠B+1+1+1->j≠B+1+1+1+1->∀q,V.heap[j]?=some q->(V1.setCell ⟨B+1+1+1,0,none⟩ (.int .i64 ((n:Int)+1))).heap[j]?=some q:=fun j h1 h2 q hq=>(o2 j h1).trans ((o1 j h2).trans hq)
  refine ⟨lo _ (by omega) (by omega) _ h.cl,lo _ (by omega) (by omega) _ h.cm,lo _ (by omega) (by omega) _ h.ci,?_,?_,fun q=>lo _ (by have:=hg q;omega) (by have:=hg q;omega) _ (h.cg q),lo _ (by omega) (by omega) _ h.cr,hb2⟩
  ·rw[s2];rfl
  ·rw[o2 _ (by omega),s1];rfl
theorem b4Z {L pre:List IT} {x:IT} (h:pre <+:L) (hx:L[pre.length]?=some x):pre++[x] <+:L:=by
 obtain ⟨t,rfl⟩:=h;rw[List.getElem?_append_right (Nat.le_refl _),Nat.sub_self]at hx
 cases t with
 | nil=>simp at hx
 | cons y t=>
  simp at hx;subst hx;exact ⟨t,by simp⟩
theorem b4j {L pre:List IT} {x:IT} (h:pre++[x] <+:L):L[pre.length]?=some x:=by
 obtain ⟨t,rfl⟩:=h;simp
theorem b8y {s:ByteArray} {ao:Option Addr} {cp g:Nat} {o:Obj} {B most:Nat} {w:World} {n:Nat} {V:World} (h:TdS s ao cp g o B most w n V) (hg:0<(a0z s).length->g<B) (hw:w.heap.size<B) (m:Nat) (Z:Nat):
    KeepsFrom Z V (V.setCell ⟨B+1+1+1,0,none⟩ (.int .i64 m))/\KpI V (V.setCell ⟨B+1+1+1,0,none⟩ (.int .i64 m))/\TdS s ao cp g o B most w m (V.setCell ⟨B+1+1+1,0,none⟩ (.int .i64 m))/\
    (∀(D:Nat) (q:Obj),B+5<=D->V.heap[D]?=some q->(V.setCell ⟨B+1+1+1,0,none⟩ (.int .i64 m)).heap[D]?=some q):=by
 have o2:∀j,j≠B+1+1+1->(V.setCell ⟨B+1+1+1,0,none⟩ (.int .i64 m)).heap[j]?=V.heap[j]?:=fun j hj=>Below.heap_setCell _ _ _ _ (fun e=>hj e)
 have s2:=heap_setCell_same V (B+1+1+1) 0 _ 3 (.int .i64 m) h.cn;have hb2:Below w.heap.size w (V.setCell ⟨B+1+1+1,0,none⟩ (.int .i64 m)):=h.bel.setCell (by show w.heap.size<=B+1+1+1;omega) _
 refine ⟨a2T h.cn _ _,b0V h.cn (by decide) _ _,⟨(o2 _ (by omega)).trans h.cl,(o2 _ (by omega)).trans h.cm,(o2 _ (by omega)).trans h.ci,by rw[s2];rfl,(o2 _ (by omega)).trans h.co,fun q=>(o2 _ (by have:=hg q;omega)).trans (h.cg q),(o2 _ (by omega)).trans h.cr,hb2⟩,fun D q hD hq=>(o2 D (by omega)).trans hq⟩
theorem c3W (s:ByteArray) (c:Int) (w:World) (hs:s.size<=2000000) (hc:-9223372036854775808<=c/\c<9223372036854775808):
    Calls prog 100 #[.string s,.int .i64 c] w fun e w'=>e=.returned (.bool true)/\Below w.heap.size w w':=by
 have HIT:=hid (fun w'=>c0u s w' hs)
 rw[b46 s]at HIT;refine (callsIn_wide (n:=8)).1 ?_;refine callsIn_of_wp_marks func100 rfl trivial ?_ rfl;simp only[ntmps100,List.size_toArray,List.length_cons,List.length_nil,Nat.reduceAdd,Nat.reduceSub,Array.replicate_succ,Array.replicate_zero,List.push_toArray,List.append_toArray,List.nil_append,List.cons_append];gi_wp2_with fail;have HB0:Hid (Below w.heap.size w (w.alloc (.cells #[.bool false] 4))):=hid ((Below.refl _ _).alloc (Nat.le_refl _) _);have HR0:Hid ((w.alloc (.cells #[.bool false] 4)).heap[w.heap.size]?=some (.cells #[.bool false] 4 (0,0))):=hid (heap_alloc_new w _);generalize w.alloc (.cells #[.bool false] 4)=W0 at *;refine ⟨trivial,(callsIn_wide.2 (HIT.out W0)).mono ?_⟩;rintro e w1 ⟨ao,n,cp,rfl,hown,hB1⟩;obtain ⟨ao',cp',hv⟩:=a10 hown;cases hv
 obtain ⟨g,o,hg,hG⟩:=c7k hown;have hL:=b9K s;have HGo:Hid (0<(a0z s).length->ao=some ⟨g,0,none⟩/\W0.heap.size<=g/\w1.heap[g]?=some o):=hid hg;have HG:=hid hG;have HR1:=hid ((hB1.block _ (Array.getElem?_eq_some_iff.1 HR0.out).1).trans HR0.out);have HB1:=hid (HB0.out.trans (hB1.mono HB0.out.size));have hLT:w.heap.size<W0.heap.size:=(Array.getElem?_eq_some_iff.1 HR0.out).1;have HRG:Hid (w.heap.size<W0.heap.size):=hid hLT;clear hB1 HR0 HB0 hown hg hG HIT hLT;have hw1:wrap64 (((a0z s).length:Int)+1)=((a0z s).length:Int)+1:=by rw[a6d];exact IntWalk.i64_in _ (by omega)
 have HPK:=hid (fun w'=>c0e c (a0z s).length w' (by omega) hc)
 have HSQ:=hid (a7V (8-1) (by omega))
 gi_wp2_with fail;refine ⟨trivial,(callsIn_wide.2 (HPK.out _)).mono ?_⟩;rintro e w2 ⟨⟨most,rfl,hmost⟩,rfl⟩;gi_wp2_with fail;refine ⟨trivial,(b75 7 (by omega) s _).mono ?_⟩
 rintro e w5 ⟨rfl,rfl⟩;gi_wp2_with fail;rw[b9A];gi_wp2_with fail;generalize hBB:w1.heap.size=B at *;obtain ⟨W5,hW5⟩:∃W5,((((w1.alloc (.cells #[.slice ao (a0z s).length cp] 241)).alloc (.cells #[.int .i64 most] 3)).alloc (.cells #[.string s] 9)).alloc (.cells #[.int .i64 0] 3)).alloc (.cells #[.bool true] 4)=W5:=⟨_,rfl⟩;have HS5:W5.heap.size=B+5:=by rw[<-hW5,<-hBB];simp
 have hgB:0<(a0z s).length->g<B:=fun q=>by rw[<-hBB];exact (Array.getElem?_eq_some_iff.1 (HGo.out q).2.2).1
 have hwB:w.heap.size<B:=by rw[<-hBB];exact (Array.getElem?_eq_some_iff.1 HR1.out).1
 have HT0:Hid (TdS s ao cp g o B most w 0 W5):=hid (by
  have lo:∀k q,w1.heap[k]?=some q->W5.heap[k]?=some q:=fun k q h=>by
   have:=(Array.getElem?_eq_some_iff.1 h).1;rw[<-hW5];(rw[Below.heap_alloc _ _ _ (by simp;omega),Below.heap_alloc _ _ _ (by simp;omega),Below.heap_alloc _ _ _ (by simp;omega),Below.heap_alloc _ _ _ (by simp;omega),Below.heap_alloc _ _ _ (by omega)]);exact h
  refine ⟨?_,?_,?_,?_,?_,fun q=>lo _ _ (HGo.out q).2.2,lo _ _ HR1.out,?_⟩
  all_goals rw[<-hW5]
  ·rw[Below.heap_alloc _ _ _ (by simp;omega),Below.heap_alloc _ _ _ (by simp;omega),Below.heap_alloc _ _ _ (by simp;omega),Below.heap_alloc _ _ _ (by simp;omega),<-hBB]
   exact heap_alloc_new _ _
  ·rw[Below.heap_alloc _ _ _ (by simp;omega),Below.heap_alloc _ _ _ (by simp;omega),Below.heap_alloc _ _ _ (by simp;omega),show B+1=(w1.alloc (.cells #[.slice ao (a0z s).length cp] 241)).heap.size by simp[hBB]]
   exact heap_alloc_new _ _
  ·rw[Below.heap_alloc _ _ _ (by simp;omega),Below.heap_alloc _ _ _ (by simp;omega),show B+1+1=((w1.alloc (.cells #[.slice ao (a0z s).length cp] 241)).alloc (.cells #[.int .i64 most] 3)).heap.size by simp[hBB]]
   exact heap_alloc_new _ _
  ·rw[Below.heap_alloc _ _ _ (by simp;omega),show B+1+1+1=(((w1.alloc (.cells #[.slice ao (a0z s).length cp] 241)).alloc (.cells #[.int .i64 most] 3)).alloc (.cells #[.string s] 9)).heap.size by simp[hBB]]
   exact heap_alloc_new _ _
  ·rw[show B+1+1+1+1=((((w1.alloc (.cells #[.slice ao (a0z s).length cp] 241)).alloc (.cells #[.int .i64 most] 3)).alloc (.cells #[.string s] 9)).alloc (.cells #[.int .i64 0] 3)).heap.size by simp[hBB]]
   exact heap_alloc_new _ _
  ·have hz:=HB1.out.size
   exact ((((HB1.out.alloc hz _).alloc (by simp;omega) _).alloc (by simp;omega) _).alloc (by simp;omega) _).alloc (by simp;omega) _)
 rw[hW5];have HAO:Hid (0<(a0z s).length->ao=some ⟨g,0,none⟩):=hid (fun q=>(HGo.out q).1)
 clear hW5 HGo HR1 HB1 HPK HSQ hw1
 refine b54 (α:=IT) rfl (by omega) (gf:=83) (lb:=#[.pointer (some ⟨B+1+1,0,none⟩)]) rfl trivial (enters_of func83 (by kernel_rfl) rfl)
  (a7V (8-1) (by omega) (B+1+1) s hs W5 HT0.out.ci) b6W c7s (Below.refl _ _) (fun _=>rfl)
  (fun pre V=>(pre <+:a0z s/\pre.length<=most)/\TdS s ao cp g o B most w pre.length V)
  (fun c pre V=>c=.exit 0/\(pre <+:a0z s->TdS s ao cp g o B most w most V))
  (fun V=>TdS s ao cp g o B most w most V)
  ?oI ?oX ⟨⟨List.nil_prefix,Nat.zero_le _⟩,HT0.out⟩
  (fun x a' V=>∃Bx,V.heap[Bx]?=some (.cells #[.int .i64 x.2.op,.int .i64 x.2.rd,.int .i64 x.2.rs1,.int .i64 x.2.rs2,.int .i64 x.2.imm] 26 (0,0))/\a' = { tmps:=#[.string s,.int .i64 c,undef,undef,.pointer (some ⟨w.heap.size,0,none⟩),.pointer (some ⟨B,0,none⟩),.pointer (some ⟨B+1,0,none⟩),.func (.func 83) #[] #[.pointer (some ⟨B+1+1,0,none⟩)],.pointer (some ⟨B+1+1+1,0,none⟩),.pointer (some ⟨B+1+1+1+1,0,none⟩),.int .i64 x.1,.pointer (some ⟨Bx,0,none⟩),undef,undef,.string s,.slice ao (a0z s).length cp,.int .i64 c,.slice ao (a0z s).length cp,.int .i64 (a0z s).length,.int .i64 ((a0z s).length+1),.int .i64 most,.string s,.func (.func 83) #[] #[.pointer (some ⟨B+1+1,0,none⟩)],.func (.func 83) #[] #[.pointer (some ⟨B+1+1,0,none⟩)],.bool false,.func (.func 83) #[] #[.pointer (some ⟨B+1+1,0,none⟩)],.int .i64 x.1,.agg #[.int .i64 x.2.op,.int .i64 x.2.rd,.int .i64 x.2.rs1,.int .i64 x.2.rs2,.int .i64 x.2.imm],undef,undef,undef,undef,undef,undef,undef,undef,undef,undef,undef,undef,undef,undef,undef,undef,undef,undef,undef,undef,undef,undef,undef,undef,undef,undef,undef,undef,undef,undef,undef,undef,undef,undef,undef,undef,undef,undef,undef,undef,undef,undef,undef,undef,undef,undef,undef,undef,undef,undef,undef,undef,undef,undef,undef,undef,undef,undef,undef,undef,undef,undef,undef,undef,undef,undef,undef,undef,undef,undef],defers:=[] })
  ?oA ?assign ?body ?hE ?hX ?rest
 case oI=>
  rintro pre A V row ⟨h1,h2⟩ hg hr;exact ⟨h1,h2.own (b:=W5.heap.size) (fun k q hk h=>a2i (β:=Unit) (B:=W5.heap.size) hk () A V row h hg hr) (by omega) (fun q=>by have:=hgB q;omega) (by omega) (ownFrom_below (β:=Unit) (Nat.le_refl _) (by omega) () A V row h2.bel hg hr)⟩
 case oX=>
  rintro cc pre A V row ⟨h1,h2⟩ hg hr;exact ⟨h1,fun hp=>(h2 hp).own (b:=W5.heap.size) (fun k q hk h=>a2i (β:=Unit) (B:=W5.heap.size) hk () A V row h hg hr) (by omega) (fun q=>by have:=hgB q;omega) (by omega) (ownFrom_below (β:=Unit) (Nat.le_refl _) (by omega) () A V row (h2 hp).bel hg hr)⟩
 case oA=>
  intro x a' _ X Y row hs hg hr;obtain ⟨Bx,h1,h3⟩:=hs;refine ⟨Bx,(hg.block Bx (Array.getElem?_eq_some_iff.1 h1).1 (fun e=>?_)).trans h1,h3⟩
  obtain ⟨_,o,ho,hc⟩:=hr Bx e.symm;rw[h1]at ho;cases ho
  simp[Obj.isCells]at hc
 case hE=>
  rintro xs V rfl ⟨⟨h1,h2⟩,h3⟩;have:(a0z s).length=most:=by omega
  rw[this]at h3;exact h3
 case hX=>
  rintro cc pre V hp ⟨h1,h2⟩;exact ⟨h1,h2 hp⟩
 case assign=>
  rintro l2 pre ⟨k,⟨cop,crd,crs1,crs2,cimm⟩⟩ V K hI hK;have HI:=hid hI;have HK:=hid hK;clear hI hK;unfold itE;gi_wp2;have hBW:Below V.heap.size V (V.alloc (.cells #[.int .i64 cop,.int .i64 crd,.int .i64 crs1,.int .i64 crs2,.int .i64 cimm] 26)):=(Below.refl _ _).alloc (Nat.le_refl _) _;exact HK.out _ _ ((KeepsOthers.alloc _ _).from _) (a3U hBW) ⟨HI.out.1,HI.out.2.next hBW⟩ ⟨V.heap.size,heap_alloc_new V _,rfl⟩
 case body=>
  rintro l2 pre ⟨k,⟨cop,crd,crs1,crs2,cimm⟩⟩ a' V ⟨⟨hp,hl⟩,HT⟩ ⟨Bx,hBx,rfl⟩ hlt;have HT:=hid HT;simp only at hBx;have cn:V.cell? ⟨B+1+1+1,0,none⟩=some (.int .i64 pre.length):=by rw[Lib.cell_of_heap HT.out.cn];rfl
  have cm:V.cell? ⟨B+1,0,none⟩=some (.int .i64 most):=by rw[Lib.cell_of_heap HT.out.cm];rfl
  have co:V.cell? ⟨B+1+1+1+1,0,none⟩=some (.bool true):=by rw[Lib.cell_of_heap HT.out.co];rfl
  have cl:V.cell? ⟨B,0,none⟩=some (.slice ao (a0z s).length cp):=by rw[Lib.cell_of_heap HT.out.cl];rfl
  have HBx:=hid hBx;have HP:=hid hp;have HS5x:=hid HS5;have HGB:=hid hgB;clear hBx hp HT0 hgB HS5;by_cases hnm:pre.length=most
  ·have hnm':(pre.length:Int)=most:=by omega
   clear hl hlt;gi_wp2_with fail;exact ⟨⟨Nat.le_refl _,fun _ _ _ h _=>h⟩,rfl,fun _=>hnm ▸ HT.out⟩
  ·have hnm':¬(pre.length:Int)=most:=by omega
   have HNU:=hid (And.intro hl (And.intro hlt (And.intro hmost (And.intro hL (And.intro hwB hs)))));clear hl hlt hmost hL hwB hBB hs;gi_upto_region 12 with fail;obtain ⟨hl,hlt,hmost,hL,hwB,hs⟩:=HNU.out;(have hlt2:pre.length<(a0z s).length:=by omega);(have hlt3:(pre.length:Int)<(a0z s).length:=by omega);obtain ⟨⟨yk,⟨yo,yd,y1,y2,ym⟩⟩,hy⟩:∃y,(a0z s)[pre.length]?=some y:=⟨_,List.getElem?_eq_getElem hlt2⟩;(obtain rfl:=HAO.out (by omega));(have cells:=HG.out V (HT.out.cg (by omega)) pre.length _ hy);have c0:V.cell? ⟨g,pre.length*6,none⟩=some (.int .i64 yk):=cells 0 _ rfl;have c1:V.cell? ⟨g,pre.length*6+1,none⟩=some (.int .i64 yo):=cells 1 _ rfl;have c2:V.cell? ⟨g,pre.length*6+2,none⟩=some (.int .i64 yd):=cells 2 _ rfl;have c3:V.cell? ⟨g,pre.length*6+3,none⟩=some (.int .i64 y1):=cells 3 _ rfl;have c4:V.cell? ⟨g,pre.length*6+4,none⟩=some (.int .i64 y2):=cells 4 _ rfl;have c5:V.cell? ⟨g,pre.length*6+5,none⟩=some (.int .i64 ym):=cells 5 _ rfl;(have x0:V.cell? ⟨Bx,0,none⟩=some (.int .i64 cop):=by rw[Lib.cell_of_heap HBx.out];rfl);(have x1:V.cell? ⟨Bx,1,none⟩=some (.int .i64 crd):=by rw[Lib.cell_of_heap HBx.out];rfl);(have x2:V.cell? ⟨Bx,2,none⟩=some (.int .i64 crs1):=by rw[Lib.cell_of_heap HBx.out];rfl);(have x3:V.cell? ⟨Bx,3,none⟩=some (.int .i64 crs2):=by rw[Lib.cell_of_heap HBx.out];rfl);(have x4:V.cell? ⟨Bx,4,none⟩=some (.int .i64 cimm):=by rw[Lib.cell_of_heap HBx.out];rfl);have fo:=b6t HT.out.co 0;have HY:=hid hy;(have hn0:(0:Int)<=pre.length:=by omega);(have hln:pre.length<most:=by omega);have HLN:=hid hln;clear cells hy hl hlt hlt2 hmost hL hwB HAO hnm hs hln;by_cases hk:(k:Int)=yk
   ·by_cases hx:cop=yo/\crd=yd/\crs1=y1/\crs2=y2/\cimm=ym
    ·obtain ⟨rfl,rfl,rfl,rfl,rfl⟩:=hx
     (refine a2r (by simp) rfl (by kernel_rfl) (by kernel_rfl) (by kernel_rfl) (by kernel_rfl) (by kernel_rfl) ?_);simp only[List.dropLast,List.getLast]
     repeat (gi_big_quiet_step (fail))
     refine wpQuietIn_nil ?_;intro _ hw';obtain ⟨nq,hw''⟩:=hw';subst hw'';refine ⟨trivial,?_⟩;(have hBd:Below V.heap.size V (V.drewN nq):=⟨rfl,rfl,rfl,Nat.le_refl _,fun _ _=>rfl⟩);have HT1:=hid (HT.out.next hBd);(have HKd:Hid (KeepsFrom W5.heap.size V (V.drewN nq)/\KpI V (V.drewN nq)):=hid ⟨⟨Nat.le_refl _,fun _ _ _ h _=>h⟩,a3U hBd⟩);clear hBd c0 c1 c2 c3 c4 c5 x0 x1 x2 x3 x4 cn cm co cl fo HT HBx;generalize V.drewN nq=V1 at *;obtain ⟨t1,t2,t3,t4,t5,t6⟩:=b0j HT1.out HGB.out HNU.out.2.2.2.2.1 true W5.heap.size;have HST:=hid (And.intro t4 (And.intro t5 (t6 rfl)));(have co1:V1.cell? ⟨B+1+1+1+1,0,none⟩=some (.bool true):=by rw[Lib.cell_of_heap HT1.out.co];rfl);have fo1:=b6t HT1.out.co 0;(have wn:IntKind.i64.wrap ((pre.length:Int)+1)=(pre.length:Int)+1:=IntWalk.i64_in _ (by have:=HNU.out.2.1;have:=HNU.out.2.2.2.2.2;omega));clear t4 t5 t6;go_simp;gi_wp2_with fail;(have hkk:k=yk:=by omega);exact ⟨HKd.out.1.trans HST.out.1,b6W HKd.out.2 HST.out.2.1,⟨b4Z HP.out (by rw[hkk];exact HY.out),by have:=HLN.out;simp;omega⟩,by rw[List.length_append];exact HST.out.2.2⟩
    ·refine a2r (by simp) rfl (by kernel_rfl) (by kernel_rfl) (by kernel_rfl) (by kernel_rfl) (by kernel_rfl) ?_
     simp only[List.dropLast,List.getLast]
     repeat (gi_big_quiet_step (fail))
     gi_big_quiet_want;gi_big_quiet_op;(refine ⟨.bool false,fun _=>by (repeat' split)<;>simp_all,?_⟩);go_big_quiet_on
     repeat (gi_big_quiet_step (fail))
     refine wpQuietIn_nil ?_;intro _ hw';obtain ⟨nq,hw''⟩:=hw';subst hw'';refine ⟨trivial,?_⟩;(have hBd:Below V.heap.size V (V.drewN nq):=⟨rfl,rfl,rfl,Nat.le_refl _,fun _ _=>rfl⟩);have HT1:=hid (HT.out.next hBd);(have HKd:Hid (KeepsFrom W5.heap.size V (V.drewN nq)/\KpI V (V.drewN nq)):=hid ⟨⟨Nat.le_refl _,fun _ _ _ h _=>h⟩,a3U hBd⟩);clear hBd c0 c1 c2 c3 c4 c5 x0 x1 x2 x3 x4 cn cm co cl fo HT HBx;generalize V.drewN nq=V1 at *;obtain ⟨t1,t2,t3,t4,t5,t6⟩:=b0j HT1.out HGB.out HNU.out.2.2.2.2.1 false W5.heap.size;have HST:=hid t4;(have co1:V1.cell? ⟨B+1+1+1+1,0,none⟩=some (.bool true):=by rw[Lib.cell_of_heap HT1.out.co];rfl);have fo1:=b6t HT1.out.co 0;(have wn:IntKind.i64.wrap ((pre.length:Int)+1)=(pre.length:Int)+1:=IntWalk.i64_in _ (by have:=HNU.out.2.1;have:=HNU.out.2.2.2.2.2;omega));clear t4 t5 t6;go_simp;gi_wp2_with fail;exact ⟨HKd.out.1.trans HST.out,rfl,fun hp=>absurd (Option.some.inj ((b4j hp).symm.trans HY.out)) (fun q=>by cases q;exact hx ⟨rfl,rfl,rfl,rfl,rfl⟩)⟩
   ·have hkb:((k:Int)==(yk:Int))=false:=by simpa using hk
    (refine a2r (by simp) rfl (by kernel_rfl) (by kernel_rfl) (by kernel_rfl) (by kernel_rfl) (by kernel_rfl) ?_);simp only[List.dropLast,List.getLast]
    repeat (gi_big_quiet_step (fail))
    refine wpQuietIn_nil ?_;intro _ hw';obtain ⟨nq,hw''⟩:=hw';subst hw'';refine ⟨trivial,?_⟩;(have hBd:Below V.heap.size V (V.drewN nq):=⟨rfl,rfl,rfl,Nat.le_refl _,fun _ _=>rfl⟩);have HT1:=hid (HT.out.next hBd);(have HKd:Hid (KeepsFrom W5.heap.size V (V.drewN nq)/\KpI V (V.drewN nq)):=hid ⟨⟨Nat.le_refl _,fun _ _ _ h _=>h⟩,a3U hBd⟩);clear hBd c0 c1 c2 c3 c4 c5 x0 x1 x2 x3 x4 cn cm co cl fo HT HBx;generalize V.drewN nq=V1 at *;obtain ⟨t1,t2,t3,t4,t5,t6⟩:=b0j HT1.out HGB.out HNU.out.2.2.2.2.1 false W5.heap.size;have HST:=hid t4;(have co1:V1.cell? ⟨B+1+1+1+1,0,none⟩=some (.bool true):=by rw[Lib.cell_of_heap HT1.out.co];rfl);have fo1:=b6t HT1.out.co 0;(have wn:IntKind.i64.wrap ((pre.length:Int)+1)=(pre.length:Int)+1:=IntWalk.i64_in _ (by have:=HNU.out.2.1;have:=HNU.out.2.2.2.2.2;omega));clear t4 t5 t6;go_simp;gi_wp2_with fail;exact ⟨HKd.out.1.trans HST.out,rfl,fun hp=>absurd (Option.some.inj ((b4j hp).symm.trans HY.out)) (fun q=>by cases q;exact hk rfl)⟩
 case rest=>
  rintro D V hD HT hK;have HT:=hid HT;have HK:=hid hK;have cn:V.cell? ⟨B+1+1+1,0,none⟩=some (.int .i64 most):=by rw[Lib.cell_of_heap HT.out.cn];rfl
  have cm:V.cell? ⟨B+1,0,none⟩=some (.int .i64 most):=by rw[Lib.cell_of_heap HT.out.cm];rfl
  have co:V.cell? ⟨B+1+1+1+1,0,none⟩=some (.bool true):=by rw[Lib.cell_of_heap HT.out.co];rfl
  have fn:=b6t HT.out.cn 0;have HNU:=hid (And.intro hs (And.intro hL (And.intro hmost (And.intro hgB (And.intro hwB (And.intro HS5 hD))))));clear hs hL hmost hgB hwB HS5 hD hK hBB HT0;gi_wp2_with fail;obtain ⟨hs,hL,hmost,hgB,hwB,HS5,hD⟩:=HNU.out;obtain ⟨_,_,HT6,hD6⟩:=b8y HT.out hgB hwB 0 0;have HD6:=hD6 D _ (by omega) HK.out
  have HT6:TdS s ao cp g o B most w 0 (V.setCell ⟨B+1+1+1,0,none⟩ (.int .i64 0)):=HT6;have HD6:(V.setCell ⟨B+1+1+1,0,none⟩ (.int .i64 0)).heap[D]?=some (.deferred (some [])):=HD6;generalize V.setCell ⟨B+1+1+1,0,none⟩ (.int .i64 0)=W6 at *;have HLD:D<W6.heap.size:=(Array.getElem?_eq_some_iff.1 HD6).1;have HT0:=hid HT6;have HD0:=hid HD6;clear HT HK cn cm co fn hD6 HD6 HT6
  refine a9p (α:=IT) rfl (by omega) (gf:=83) (lb:=#[.pointer (some ⟨B+1+1,0,none⟩)]) rfl trivial (enters_of func83 (by kernel_rfl) rfl)
   (a7V (8-1) (by omega) (B+1+1) s hs W6 HT0.out.ci) b6W c7s (Below.refl _ _) (fun _=>rfl)
   (fun pre V=>pre <+:a0z s/\TdS s ao cp g o B most w pre.length V/\V.heap[D]?=some (.deferred (some [])))
   (fun c pre _=>c=.ret/\¬pre <+:a0z s)
   ?oI (fun _ _ _ _ _ h _ _=>h) ⟨List.nil_prefix,HT0.out,HD0.out⟩
   (fun x a' V=>∃Bx,V.heap[Bx]?=some (.cells #[.int .i64 x.2.op,.int .i64 x.2.rd,.int .i64 x.2.rs1,.int .i64 x.2.rs2,.int .i64 x.2.imm] 26 (0,0))/\a' = { tmps:=#[.string s,.int .i64 c,undef,undef,.pointer (some ⟨w.heap.size,0,none⟩),.pointer (some ⟨B,0,none⟩),.pointer (some ⟨B+1,0,none⟩),.func (.func 83) #[] #[.pointer (some ⟨B+1+1,0,none⟩)],.pointer (some ⟨B+1+1+1,0,none⟩),.pointer (some ⟨B+1+1+1+1,0,none⟩),undef,undef,.int .i64 x.1,.pointer (some ⟨Bx,0,none⟩),.string s,.slice ao (a0z s).length cp,.int .i64 c,.slice ao (a0z s).length cp,.int .i64 (a0z s).length,.int .i64 ((a0z s).length+1),.int .i64 most,.string s,.func (.func 83) #[] #[.pointer (some ⟨B+1+1,0,none⟩)],.func (.func 83) #[] #[.pointer (some ⟨B+1+1,0,none⟩)],.bool false,.func (.func 83) #[] #[.pointer (some ⟨B+1+1,0,none⟩)],undef,undef,undef,undef,undef,undef,undef,undef,undef,undef,undef,undef,undef,undef,undef,undef,undef,undef,undef,undef,undef,undef,undef,undef,undef,undef,undef,undef,undef,undef,undef,undef,undef,undef,.bool true,.bool false,.bool false,.int .i64 most,.int .i64 most,.bool false,.bool false,.func (.func 83) #[] #[.pointer (some ⟨B+1+1,0,none⟩)],.int .i64 x.1,.agg #[.int .i64 x.2.op,.int .i64 x.2.rd,.int .i64 x.2.rs1,.int .i64 x.2.rs2,.int .i64 x.2.imm],undef,undef,undef,undef,undef,undef,undef,undef,undef,undef,undef,undef,undef,undef,undef,undef,undef,undef,undef,undef,undef,undef,undef,undef,undef,undef,undef,undef],defers:=[] })
   ?oA ?assign ?body ?done ?stop
  case oI=>
   rintro pre A V row ⟨h1,h2,h3⟩ hg hr;exact ⟨h1,h2.own (b:=W6.heap.size) (fun k q hk h=>a2i (β:=Unit) (B:=W6.heap.size) hk () A V row h hg hr) (by omega) (fun q=>by have:=hgB q;omega) (by omega) (ownFrom_below (β:=Unit) (Nat.le_refl _) (by omega) () A V row h2.bel hg hr),a2i (β:=Unit) (B:=W6.heap.size) HLD () A V row h3 hg hr⟩
  case oA=>
   intro x a' _ X Y row hs hg hr;obtain ⟨Bx,h1,h3⟩:=hs;(refine ⟨Bx,(hg.block Bx (Array.getElem?_eq_some_iff.1 h1).1 (fun e=>?_)).trans h1,h3⟩);obtain ⟨_,o,ho,hc⟩:=hr Bx e.symm;rw[h1]at ho;(cases ho);simp[Obj.isCells]at hc
  case assign=>
   rintro l2 pre ⟨k,⟨cop,crd,crs1,crs2,cimm⟩⟩ V K hI hK;have HI:=hid hI;have HK:=hid hK;clear hI hK;unfold itE;gi_wp2;have hBW:Below V.heap.size V (V.alloc (.cells #[.int .i64 cop,.int .i64 crd,.int .i64 crs1,.int .i64 crs2,.int .i64 cimm] 26)):=(Below.refl _ _).alloc (Nat.le_refl _) _;exact HK.out _ _ ((KeepsOthers.alloc _ _).from _) (a3U hBW) ⟨HI.out.1,HI.out.2.1.next hBW,(hBW.block _ (Array.getElem?_eq_some_iff.1 HI.out.2.2).1).trans HI.out.2.2⟩ ⟨V.heap.size,heap_alloc_new V _,rfl⟩
  case body=>
   rintro l2 pre ⟨k,⟨cop,crd,crs1,crs2,cimm⟩⟩ a' V ⟨hp,HT,hd⟩ ⟨Bx,hBx,rfl⟩ hlt;have HT:=hid HT;have HDD:=hid hd;simp only at hBx;(have cn:V.cell? ⟨B+1+1+1,0,none⟩=some (.int .i64 pre.length):=by rw[Lib.cell_of_heap HT.out.cn];rfl);(have cl:V.cell? ⟨B,0,none⟩=some (.slice ao (a0z s).length cp):=by rw[Lib.cell_of_heap HT.out.cl];rfl);(have cr:V.cell? ⟨w.heap.size,0,none⟩=some (.bool false):=by rw[Lib.cell_of_heap HT.out.cr];rfl);have fr:=b6t HT.out.cr 0;have HBx:=hid hBx;have HP:=hid hp;have HNV:=hid (And.intro hgB (And.intro hwB (And.intro HS5 (And.intro hD (And.intro hlt hs)))));clear hBx hp HT0 HD0 hgB hL hmost hwB HS5 hD hlt hs HNU HLD hd;(have hn0:(0:Int)<=pre.length:=by omega);by_cases hlt2:pre.length<(a0z s).length
   ·have hlt3:(pre.length:Int)<(a0z s).length:=by omega
    (have hlt4:¬((a0z s).length:Int)<=pre.length:=by omega);obtain ⟨⟨yk,⟨yo,yd,y1,y2,ym⟩⟩,hy⟩:∃y,(a0z s)[pre.length]?=some y:=⟨_,List.getElem?_eq_getElem hlt2⟩;(obtain rfl:=HAO.out (by omega));(have cells:=HG.out V (HT.out.cg (by omega)) pre.length _ hy);have c0:V.cell? ⟨g,pre.length*6,none⟩=some (.int .i64 yk):=cells 0 _ rfl;have c1:V.cell? ⟨g,pre.length*6+1,none⟩=some (.int .i64 yo):=cells 1 _ rfl;have c2:V.cell? ⟨g,pre.length*6+2,none⟩=some (.int .i64 yd):=cells 2 _ rfl;have c3:V.cell? ⟨g,pre.length*6+3,none⟩=some (.int .i64 y1):=cells 3 _ rfl;have c4:V.cell? ⟨g,pre.length*6+4,none⟩=some (.int .i64 y2):=cells 4 _ rfl;have c5:V.cell? ⟨g,pre.length*6+5,none⟩=some (.int .i64 ym):=cells 5 _ rfl;(have x0:V.cell? ⟨Bx,0,none⟩=some (.int .i64 cop):=by rw[Lib.cell_of_heap HBx.out];rfl);(have x1:V.cell? ⟨Bx,1,none⟩=some (.int .i64 crd):=by rw[Lib.cell_of_heap HBx.out];rfl);(have x2:V.cell? ⟨Bx,2,none⟩=some (.int .i64 crs1):=by rw[Lib.cell_of_heap HBx.out];rfl);(have x3:V.cell? ⟨Bx,3,none⟩=some (.int .i64 crs2):=by rw[Lib.cell_of_heap HBx.out];rfl);(have x4:V.cell? ⟨Bx,4,none⟩=some (.int .i64 cimm):=by rw[Lib.cell_of_heap HBx.out];rfl);have HY:=hid hy;clear cells hy hlt2 HAO;gi_upto_region 21 with fail;dsimp only;by_cases hk:(k:Int)=yk
    ·by_cases hx:cop=yo/\crd=yd/\crs1=y1/\crs2=y2/\cimm=ym
     ·obtain ⟨rfl,rfl,rfl,rfl,rfl⟩:=hx
      refine a1u rfl (by kernel_rfl) (by kernel_rfl) (by kernel_rfl) ?_
      repeat (gi_big_quiet_step (fail))
      refine wpQuietIn_nil ?_;intro _ hw';obtain ⟨nq,hw''⟩:=hw';subst hw'';(have hBd:Below V.heap.size V (V.drewN nq):=⟨rfl,rfl,rfl,Nat.le_refl _,fun _ _=>rfl⟩);have HT1:=hid (HT.out.next hBd);have HD1:Hid ((V.drewN nq).heap[D]?=some (.deferred (some []))):=hid HDD.out;(have HKd:Hid (KeepsFrom W6.heap.size V (V.drewN nq)/\KpI V (V.drewN nq)):=hid ⟨⟨Nat.le_refl _,fun _ _ _ h _=>h⟩,a3U hBd⟩);clear hBd c0 c1 c2 c3 c4 c5 x0 x1 x2 x3 x4 cn cl cr fr HT HBx HDD;generalize V.drewN nq=V1 at *;obtain ⟨t4,t5,t6,t7⟩:=b8y HT1.out HNV.out.1 HNV.out.2.1 (pre.length+1) W6.heap.size;(have HST:=hid (And.intro t4 (And.intro t5 (And.intro t6 (t7 D _ (by have:=HNV.out.2.2.1;have:=HNV.out.2.2.2.1;omega) HD1.out)))));(have cn1:V1.cell? ⟨B+1+1+1,0,none⟩=some (.int .i64 pre.length):=by rw[Lib.cell_of_heap HT1.out.cn];rfl);have fn1:=b6t HT1.out.cn 0;(have wn:IntKind.i64.wrap ((pre.length:Int)+1)=(pre.length:Int)+1:=IntWalk.i64_in _ (by have:=HNV.out.2.2.2.2.1;have:=HNV.out.2.2.2.2.2;omega));clear t4 t5 t6 t7;gi_wp2_with fail;(have hkk:k=yk:=by omega);exact ⟨HKd.out.1.trans HST.out.1,b6W HKd.out.2 HST.out.2.1,b4Z HP.out (by rw[hkk];exact HY.out),by rw[List.length_append];exact HST.out.2.2.1,HST.out.2.2.2⟩
     ·refine a1u rfl (by kernel_rfl) (by kernel_rfl) (by kernel_rfl) ?_
      repeat (gi_big_quiet_step (fail))
      gi_big_quiet_want;gi_big_quiet_op;(refine ⟨.bool true,fun _=>by (repeat' split)<;>simp_all,?_⟩);go_big_quiet_on
      repeat (gi_big_quiet_step (fail))
      clear c0 c1 c2 c3 c4 c5 x0 x1 x2 x3 x4;refine wpQuietIn_nil ?_;intro _ hw';obtain ⟨nq,hw''⟩:=hw';subst hw'';(have hBd:Below V.heap.size V (V.drewN nq):=⟨rfl,rfl,rfl,Nat.le_refl _,fun _ _=>rfl⟩);have HT1:=hid (HT.out.next hBd);(have HKd:Hid (KeepsFrom W6.heap.size V (V.drewN nq)):=hid ⟨Nat.le_refl _,fun _ _ _ h _=>h⟩);clear hBd cn cl cr fr HT HBx HDD;generalize V.drewN nq=V1 at *;(have cr1:V1.cell? ⟨w.heap.size,0,none⟩=some (.bool false):=by rw[Lib.cell_of_heap HT1.out.cr];rfl);have fr1:=b6t HT1.out.cr 0;gi_wp2_with fail;exact ⟨HKd.out.trans (a2T HT1.out.cr _ _),rfl,fun hp=>absurd (Option.some.inj ((b4j hp).symm.trans HY.out)) (fun q=>by cases q;exact hx ⟨rfl,rfl,rfl,rfl,rfl⟩)⟩
    ·have hkn:((k:Int) != (yk:Int))=true:=by simpa using hk
     (have hkb:((k:Int)==(yk:Int))=false:=by simpa using hk);refine a1u rfl (by kernel_rfl) (by kernel_rfl) (by kernel_rfl) ?_
     repeat (gi_big_quiet_step (fail))
     clear c0 c1 c2 c3 c4 c5 x0 x1 x2 x3 x4;refine wpQuietIn_nil ?_;intro _ hw';obtain ⟨nq,hw''⟩:=hw';subst hw'';(have hBd:Below V.heap.size V (V.drewN nq):=⟨rfl,rfl,rfl,Nat.le_refl _,fun _ _=>rfl⟩);have HT1:=hid (HT.out.next hBd);(have HKd:Hid (KeepsFrom W6.heap.size V (V.drewN nq)):=hid ⟨Nat.le_refl _,fun _ _ _ h _=>h⟩);clear hBd cn cl cr fr HT HBx HDD;generalize V.drewN nq=V1 at *;(have cr1:V1.cell? ⟨w.heap.size,0,none⟩=some (.bool false):=by rw[Lib.cell_of_heap HT1.out.cr];rfl);have fr1:=b6t HT1.out.cr 0;gi_wp2_with fail;exact ⟨HKd.out.trans (a2T HT1.out.cr _ _),rfl,fun hp=>absurd (Option.some.inj ((b4j hp).symm.trans HY.out)) (fun q=>by cases q;exact hk rfl)⟩
   ·have hlt4:((a0z s).length:Int)<=pre.length:=by omega
    gi_upto_region 21 with fail;dsimp only;refine a1u rfl (by kernel_rfl) (by kernel_rfl) (by kernel_rfl) ?_
    repeat (gi_big_quiet_step (fail))
    refine wpQuietIn_nil ?_;intro _ hw';obtain ⟨nq,hw''⟩:=hw';subst hw'';(have hBd:Below V.heap.size V (V.drewN nq):=⟨rfl,rfl,rfl,Nat.le_refl _,fun _ _=>rfl⟩);have HT1:=hid (HT.out.next hBd);(have HKd:Hid (KeepsFrom W6.heap.size V (V.drewN nq)):=hid ⟨Nat.le_refl _,fun _ _ _ h _=>h⟩);clear hBd cn cl cr fr HT HBx HDD;generalize V.drewN nq=V1 at *;(have cr1:V1.cell? ⟨w.heap.size,0,none⟩=some (.bool false):=by rw[Lib.cell_of_heap HT1.out.cr];rfl);have fr1:=b6t HT1.out.cr 0;gi_wp2_with fail;exact ⟨HKd.out.trans (a2T HT1.out.cr _ _),rfl,fun hp=>by have:=hp.length_le;simp at this;omega⟩
  case done=>
   rintro D2 xs V hD2 rfl ⟨h1,h2,h3⟩ hK2;have HT:=hid h2;(have cn:V.cell? ⟨B+1+1+1,0,none⟩=some (.int .i64 (a0z s).length):=by rw[Lib.cell_of_heap h2.cn];rfl);(have cl:V.cell? ⟨B,0,none⟩=some (.slice ao (a0z s).length cp):=by rw[Lib.cell_of_heap h2.cl];rfl);(have cr:V.cell? ⟨w.heap.size,0,none⟩=some (.bool false):=by rw[Lib.cell_of_heap h2.cr];rfl);have fr:=b6t h2.cr 0;(have hRD:D≠w.heap.size:=by omega);(have hRD2:D2≠w.heap.size:=by omega);(have hDD:D2≠D:=by omega);(have e1:(V.setCell ⟨w.heap.size,0,none⟩ (.bool true)).heap[D2]?=some (.deferred (some [])):=(Below.heap_setCell _ _ _ _ (fun e=>hRD2 e)).trans hK2);(have e2:(V.setCell ⟨w.heap.size,0,none⟩ (.bool true)).heap[D]?=some (.deferred (some [])):=(Below.heap_setCell _ _ _ _ (fun e=>hRD e)).trans h3);have hx2:=heap_setCell_same V w.heap.size 0 _ 4 (.bool true) HT.out.cr
   have HXC:Hid (∀o o',(((V.setCell ⟨w.heap.size,0,none⟩ (.bool true)).putObj D2 o).putObj D o').cell? ⟨w.heap.size,0,none⟩=some (.bool true)):=hid (fun o o'=>by
    rw[Lib.cell_of_heap ((World.putObj_heap_other (fun e=>hRD e.symm)).trans ((World.putObj_heap_other (fun e=>hRD2 e.symm)).trans hx2))];rfl)
   have HXB:Hid (Below w.heap.size w (((V.setCell ⟨w.heap.size,0,none⟩ (.bool true)).putObj D2 (.deferred none)).putObj D (.deferred none))):=hid (by
    (refine (show Below w.heap.size w (V.setCell ⟨w.heap.size,0,none⟩ (.bool true)) from HT.out.bel.setCell (Nat.le_refl _) _).trans ?_);(refine (belowK_b (w:=w) (Nat.le_refl _) (V.setCell ⟨w.heap.size,0,none⟩ (.bool true)) D2 (.deferred (some [])) (.deferred none) (by omega) e1 rfl rfl).trans ?_);exact belowK_b (w:=w) (Nat.le_refl _) _ D (.deferred (some [])) (.deferred none) (by omega) ((World.putObj_heap_other (fun e=>hDD e.symm)).trans e2) rfl rfl)
   have HX1:=hid e1;(have HX2:Hid (∀o,((V.setCell ⟨w.heap.size,0,none⟩ (.bool true)).putObj D2 o).heap[D]?=some (.deferred (some []))):=hid (fun o=>(World.putObj_heap_other (fun e=>hDD e.symm)).trans e2));clear h1 h2 h3 hK2 e1 e2 HT0 HD0 hs hL hmost hgB hwB HS5 hD HNU HLD hRD hRD2 hDD hx2;gi_wp2_with fail;(refine ⟨by simp,.inl ⟨_,_,rfl,run_takeDeferred HX1.out,?_⟩⟩);(refine ⟨by simp,.inl ⟨_,_,rfl,run_takeDeferred (HX2.out _),?_⟩⟩);(refine ⟨.bool true,by simp[results,results100,go_sem,HXC.out],rfl,?_⟩);exact HXB.out
  case stop=>
   rintro D2 cc pre V hD2 hpre ⟨rfl,hx⟩ hK2;exact absurd hpre hx
