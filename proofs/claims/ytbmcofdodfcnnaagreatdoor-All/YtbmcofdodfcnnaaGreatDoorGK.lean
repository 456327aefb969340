import Derived.WalkKit
import Derived.Deep.WholeRow
import Derived.Below
import Derived.Deep.AppendLies
import Derived.Lib.BufferWrite
import Derived.OwnWalk
import Derived.RangeFuncNested
import Derived.RangeFuncLeaves
import Derived.Sort.QuietIn
import Derived.TacticsIn
set_option linter.all false
set_option maxHeartbeats 0
set_option maxRecDepth 100000
namespace Go
variable {args Z lb : Array Value} {s m c base B' gf N i id r : Nat} {t e : TypeId} {o st : Oper} {vs xs : List Value} {w' w0 : World} {g : Option Nat} {a : Act} {l : List UInt8}
def zn {n:Nat}:n<=n:=Nat.le_refl _
def aJ {w:Go.World} {o:Obj}:Go.RowKit.Below w.heap.size w (w.alloc o):=(Go.RowKit.Below.refl _ _).alloc (Nat.le_refl _) _
def aU {B:Nat} {w:Go.World}:Go.RowKit.Below B w w:=Go.RowKit.Below.refl _ _
def aG (P:Program) (f:Nat) (a:Array Value) (w:Go.World) (v:Value):Prop:=Calls P f a w λ e w'=>e=.returned v/\Go.RowKit.Below w.heap.size w w'
def zS (P:Program) (f:Nat) (a:Array Value) (w:Go.World) (v:Value):Prop:=Calls P f a w λ e w'=>e=.returned v/\w'=w
def zg {α:Type _} {l:List α} {i:Nat} (h:i<l.length):l[i]?=some l[i]:=List.getElem?_eq_getElem h
def zi {a:Int} (h:0<=a):∃n:Nat,a=n:=Int.eq_ofNat_of_zero_le h
def zd {α:Type _} {β:Type _} (a:α) (f:α->Option β):(some a).bind f=f a:=rfl
def zw (n:Int) (h:-9223372036854775808<=n/\n<=9223372036854775807):IntKind.i64.wrap n=n:=Go.IntWalk.i64_in n h
def za (w:Go.World) (o:Obj):(w.alloc o).heap.size=w.heap.size+1:=Go.World.size_alloc w o
def zp {P:Program} {q:Func} {R:Ending->Go.World->Prop} {a:Act} {w:Go.World} {v:Value} (h:Sem.run P (results q a.tmps) w=.ok v w) (k:a.defers=[]) (j:R (.returned v) w):bodyPost P q R .ret a w:=bodyPost_ret h k j
def aC {c:Prop} {d:Decidable c} (h:¬c) {α:Sort _} {t e:α}:@ite α c d t e=e:=if_neg h
def zt {c:Prop} {d:Decidable c} (h:c) {α:Sort _} {t e:α}:@ite α c d t e=t:=if_pos h
def zm {α:Type _} {β:Type _} (a:α) (f:α->β):(some a).map f=some (f a):=rfl
def zl {n m k:Nat} (h:n<m) (j:m<=k):n<k:=Nat.lt_of_lt_of_le h j
def zc {p:Prop} (h:¬¬p):p:=Classical.not_not.1 h
def zG {α:Type _} {l:List α} {i:Nat} {a:α}:l.getD i a=l[i]?.getD a:=List.getD_eq_getElem?_getD
def zk {P:Program} {f:Nat} {a:Array Value} {w y:Go.World} {v:Value} {Q:Ending->Go.World->Prop} (h:Calls P f a w λ e x=>e=.returned v/\x=y) (k:Q (.returned v) y):Calls P f a w Q:=Calls.mono h λ _ _ x=>by obtain ⟨rfl,rfl⟩:=x;exact k
def zK {P:Program} {f:Nat} {a:Array Value} {w:Go.World} {v:Value} {R:Go.World->Prop} {Q:Ending->Go.World->Prop} (h:Calls P f a w λ e x=>e=.returned v/\R x) (k:∀x,R x->Q (.returned v) x):Calls P f a w Q:=Calls.mono h λ _ x y=>by obtain ⟨rfl,y⟩:=y;exact k x y
def zo (n:Int):IntKind.i64.wrap n=(n+9223372036854775808)%18446744073709551616-9223372036854775808:=IntKind.wrap_i64 n
def bE {P:Nat->Value->Prop} {a b:Value} {l:List Value} (k:∀j v,(a::b::l)[j]?=some v->P j v):P 0 a/\P 1 b:=⟨k 0 _ rfl,k 1 _ rfl⟩
def tL {P:Nat->Value->Prop} {a b c:Value} {l:List Value} (k:∀j v,(a::b::c::l)[j]?=some v->P j v):P 0 a/\P 1 b/\P 2 c:=⟨k 0 _ rfl,k 1 _ rfl,k 2 _ rfl⟩
def kt {P:Nat->Value->Prop} {a b c d:Value} {l:List Value} (k:∀j v,(a::b::c::d::l)[j]?=some v->P j v):P 0 a/\P 1 b/\P 2 c/\P 3 d:=⟨k 0 _ rfl,k 1 _ rfl,k 2 _ rfl,k 3 _ rfl⟩
def bF {P:Nat->Value->Prop} {a b c d e:Value} {l:List Value} (k:∀j v,(a::b::c::d::e::l)[j]?=some v->P j v):P 0 a/\P 1 b/\P 2 c/\P 3 d/\P 4 e:=⟨k 0 _ rfl,k 1 _ rfl,k 2 _ rfl,k 3 _ rfl,k 4 _ rfl⟩
def z6 {P:Nat->Value->Prop} {a b c d e f:Value} {l:List Value} (k:∀j v,(a::b::c::d::e::f::l)[j]?=some v->P j v):P 0 a/\P 1 b/\P 2 c/\P 3 d/\P 4 e/\P 5 f:=⟨k 0 _ rfl,k 1 _ rfl,k 2 _ rfl,k 3 _ rfl,k 4 _ rfl,k 5 _ rfl⟩
def fT {P:Nat->Value->Prop} {a b c d e f g:Value} {l:List Value} (k:∀j v,(a::b::c::d::e::f::g::l)[j]?=some v->P j v):P 0 a/\P 1 b/\P 2 c/\P 3 d/\P 4 e/\P 5 f/\P 6 g:=⟨k 0 _ rfl,k 1 _ rfl,k 2 _ rfl,k 3 _ rfl,k 4 _ rfl,k 5 _ rfl,k 6 _ rfl⟩
def z8 {P:Nat->Value->Prop} {a b c d e f g h:Value} {l:List Value} (k:∀j v,(a::b::c::d::e::f::g::h::l)[j]?=some v->P j v):P 0 a/\P 1 b/\P 2 c/\P 3 d/\P 4 e/\P 5 f/\P 6 g/\P 7 h:=⟨k 0 _ rfl,k 1 _ rfl,k 2 _ rfl,k 3 _ rfl,k 4 _ rfl,k 5 _ rfl,k 6 _ rfl,k 7 _ rfl⟩
section
def jP (P:Program) (ops:Array Oper):List Nat->Act->World->Option (Act×World)
 | [],a,w=>some (a,w)
 | i::rest,a,w=>
  match ops[i]? with
  | none=>jP P ops rest a w
  | some o=>
   if Region.wanted o (yielded ops a.tmps) then
    match (execOp a.eval o).run P w with
    | .ok (.value v) w'=>jP P ops rest (a.put o.dst v) w'
    | .ok .skip w'=>jP P ops rest (a.put o.dst undef) w'
    | _=>none
   else jP P ops rest (a.put o.dst undef) w
def qz {P:Program} {ops:Array Oper} {Q:Exit->Act->World->Prop}:∀(is:List Nat) (a:Act) (w:World) (j:Act) (w':World),
    jP P ops is a w=some (j,w')->Q .normal j w'->wpOps P ops Q is a w
 | [],a,w,j,w',h,q=>by simp[jP]at h;obtain ⟨rfl,rfl⟩:=h;exact q
 | i::rest,a,w,j,w',h,q=>by
  unfold wpOps;unfold jP at h
  cases ho:ops[i]? with
  | none=>simp only[ho]at h ⊢;exact qz rest _ _ _ _ h q
  | some o=>
   simp only[ho]at h ⊢;by_cases u:Region.wanted o (yielded ops a.tmps)=true
   .simp only[u,if_true]at h ⊢
    refine Or.inl ?_;unfold Oper.wp Oper.upon
    split at h
    .rename_i v w1 hr;rw[hr];exact qz rest _ _ _ _ h q
    .rename_i w1 hr;rw[hr];exact qz rest _ _ _ _ h q
    simp at h
   simp only[u,if_false,Bool.false_eq_true]at h ⊢;exact qz rest _ _ _ _ h q
def ik (P:Program):Code->Act->World->Option (Exit×Act×World)
 | .skip,a,w=>some (.normal,a,w)
 | .region _ ops false,a,w=>
  match jP P ops (List.range ops.size) a w with
  | some (a',w')=>some (.normal,a',w')
  | none=>none
 | .seq x y,a,w=>
  match ik P x a w with
  | some (.normal,a',w')=>ik P y a' w'
  | r=>r
 | .cond c x y,a,w=>
  match a.eval c with
  | .bool true=>ik P x a w
  | .bool false=>ik P y a w
  | _=>none
 | .block id c,a,w=>
  match ik P c a w with
  | some (.exit id',a',w')=>if id'=id then some (.normal,a',w') else some (.exit id',a',w')
  | r=>r
 | .exit id,a,w=>some (.exit id,a,w)
 | .ret,a,w=>some (.ret,a,w)
 | _,_,_=>none
def oD {P:Program}:∀(c:Code) {Q:Exit->Act->World->Prop} (a:Act) (w:World) (e:Exit) (j:Act) (w':World),
    ik P c a w=some (e,j,w')->Q e j w'->c.wp P Q a w
 | .skip,Q,a,w,e,j,w',h,q=>by simp[ik]at h;obtain ⟨rfl,rfl,rfl⟩:=h;exact wp_skip q
 | .region _ ops false,Q,a,w,e,j,w',h,q=>by
  simp only[ik]at h
  split at h
  .rename_i a1 w1 hr
   simp at h;obtain ⟨rfl,rfl,rfl⟩:=h;exact wp_region (qz _ _ _ _ _ hr q)
  simp at h
 | .region _ ops true,Q,a,w,e,j,w',h,q=>by simp[ik]at h
 | .seq x y,Q,a,w,e,j,w',h,q=>by
  simp only[ik]at h;refine wp_seq ?_
  split at h
  .rename_i a1 w1 hr
   exact oD x a w _ a1 w1 hr (oD y a1 w1 e j w' h q)
  rename_i hn;refine oD x a w e j w' h ?_
  cases e with
  | normal=>exact absurd h (hn j w')
  | _=>exact q
 | .cond c x y,Q,a,w,e,j,w',h,q=>by
  simp only[ik]at h
  split at h
  .rename_i hc;exact wp_cond_true hc (oD x a w e j w' h q)
  .rename_i hc;exact wp_cond_false hc (oD y a w e j w' h q)
  simp at h
 | .block id c,Q,a,w,e,j,w',h,q=>by
  simp only[ik]at h;refine wp_block ?_
  split at h
  .rename_i id' a1 w1 hr
   refine oD c a w _ a1 w1 hr ?_;unfold Exit.inBlock
   split at h
   .simp at h;obtain ⟨rfl,rfl,rfl⟩:=h;rename_i hi;simp[hi];exact q
   simp at h;obtain ⟨rfl,rfl,rfl⟩:=h;rename_i hi;simp[hi];exact q
  rename_i hn;refine oD c a w e j w' h ?_
  cases e with
  | exit id'=>exact absurd h (hn id' j w')
  | _=>exact q
 | .exit id,Q,a,w,e,j,w',h,q=>by simp[ik]at h;obtain ⟨rfl,rfl,rfl⟩:=h;exact wp_exit q
 | .ret,Q,a,w,e,j,w',h,q=>by simp[ik]at h;obtain ⟨rfl,rfl,rfl⟩:=h;exact wp_ret q
 | .loop _,Q,a,w,e,j,w',h,q=>by simp[ik]at h
 | .rangeFunc ..,Q,a,w,e,j,w',h,q=>by simp[ik]at h
 | .scope _,Q,a,w,e,j,w',h,q=>by simp[ik]at h
 | .label _,Q,a,w,e,j,w',h,q=>by simp[ik]at h
 | .goto _,Q,a,w,e,j,w',h,q=>by simp[ik]at h
 | .refuse _,Q,a,w,e,j,w',h,q=>by simp[ik]at h
def DE {P:Program} {f:FuncId} {j:Func} {c:Code} {w:World} (v) (w') (D:P.funcs[f]?=some j) (C:j.body=some c) (h:(ik P c { tmps:=args++Array.replicate (j.ntmps-args.size) undef,defers:=[] } w).map (λ r=>(r.1,r.2.1.defers,r.2.2,(results j r.2.1.tmps).run P r.2.2))=some (.ret,[],w',.ok v w')):
    Calls P f args w λ e E=>e=.returned v/\E=w':=by
 refine calls_of_wp D C ?_
 cases hr:ik P c { tmps:=args++Array.replicate (j.ntmps-args.size) undef,defers:=[] } w with
 | none=>simp[hr]at h
 | some r=>
  simp only[hr,zm,Option.some.injEq,Prod.mk.injEq]at h;obtain ⟨u,y,q,A⟩:=h;refine oD c _ w r.1 r.2.1 r.2.2 hr ?_;rw[u];exact ⟨y,v,by rw[A,q],rfl,q⟩
def rV {P:Program} {ops:Array Oper} {Q:Exit->Act->World->Prop} {j:List Nat}:∀(is:List Nat) (a:Act) (w:World) (u:Act) (w':World),
    jP P ops is a w=some (u,w')->wpOps P ops Q j u w'->wpOps P ops Q (is++j) a w
 | [],a,w,u,w',h,q=>by simp[jP]at h;obtain ⟨rfl,rfl⟩:=h;exact q
 | i::rest,a,w,u,w',h,q=>by
  rw[List.cons_append];unfold wpOps;unfold jP at h
  cases ho:ops[i]? with
  | none=>simp only[ho]at h ⊢;exact rV rest _ _ _ _ h q
  | some o=>
   simp only[ho]at h ⊢;by_cases y:Region.wanted o (yielded ops a.tmps)=true
   .simp only[y,if_true]at h ⊢
    refine Or.inl ?_;unfold Oper.wp Oper.upon
    split at h
    .rename_i v w1 hr;rw[hr];exact rV rest _ _ _ _ h q
    .rename_i w1 hr;rw[hr];exact rV rest _ _ _ _ h q
    simp at h
   simp only[y,if_false,Bool.false_eq_true]at h ⊢;exact rV rest _ _ _ _ h q
def JS {P:Program} {q:Func} (h:q.results=#[.cell s t]) (tmps) (a) (w') (v) (u:tmps.getD s undef=.pointer (some a)) (w:(loadVar t a).run P w'=.ok v w'):(results q tmps).run P w'=.ok v w':=by
 unfold results;rw[h];have j:tmps[s]?.getD undef=.pointer (some a):=by simpa using u
 simp[j,w,asAddr]
def xv {P:Program} {f:FuncId} {u:Func} {H I:Nat} {j q:Array Oper} {n:Nat} {y:Nat} {C:Array Value} {w:World} (R:P.funcs[f]?=some u) (O:u.body=some (.seq (.region H j false) (.seq (.region I q false) .ret))) (h:((jP P j (List.range j.size) { tmps:=Array.replicate u.ntmps undef,defers:=[] } w).bind λ D=>
        (jP P q (List.range n) D.1 D.2).map λ r=>(r.1.tmps.getD s undef,r.1.tmps.getD y undef,r.1.defers,r.2))=some (.pointer (some ⟨w.heap.size,0,none⟩),.agg C,[],w.alloc (.cells Z t))) (U:q.size=n+1) (V:q[n]?=some o) (G:o.op=.store t (.tmp s) (.tmp y)) (T:o.guard=none) (Q:o.dst=none) (W:u.results=#[.cell s t]) (hi:(P.info? t).map (·.size)=some C.size) (hz:Z.size=C.size) (N:C.all (·.oneCell')=true) (X:P.underlying t=some (.array m e)):
    Calls P f #[] w λ e E=>e=.returned (.agg C)/\E=w.alloc (.cells C t):=by
 refine calls_of_wp R O ?_
 cases h0:jP P j (List.range j.size) { tmps:=Array.replicate u.ntmps undef,defers:=[] } w with
 | none=>simp[h0]at h
 | some D=>
  obtain ⟨J,E⟩:=D;simp only[h0,zd]at h
  cases h2:jP P q (List.range n) J E with
  | none=>simp[h2]at h
  | some r=>
   obtain ⟨v,w2⟩:=r;simp only[h2,zm,Option.some.injEq,Prod.mk.injEq]at h;obtain ⟨K,L,M,rfl⟩:=h;refine wp_seq (wp_region ?_)
   have F:jP P j (List.range j.size) { tmps:=#[]++Array.replicate (u.ntmps-(#[]:Array Value).size) undef,defers:=[] } w=some (J,E):=by
    simpa using h0
   refine qz _ _ _ _ _ F ?_;refine wp_seq (wp_region ?_);rw[U,List.range_succ];refine rV _ _ _ _ _ h2 ?_;unfold wpOps;simp only[V];(have Y:Region.wanted o (yielded q v.tmps)=true:=by simp[Region.wanted,T]);simp only[Y,if_true];refine Or.inl ?_;unfold Oper.wp Oper.upon
   have hx:(execOp v.eval o).run P (w.alloc (.cells Z t))=.ok .skip (w.alloc (.cells C t)):=by
    have:=run_storeAt_new (P:=P) w t Z C hi hz N;unfold execOp;rw[G];simp[Act.eval,K,L,this]
   rw[hx];(have A:v.put o.dst undef=v:=by rw[Q];rfl);show wpOps P q _ [] (v.put o.dst undef) (w.alloc (.cells C t));rw[A];unfold wpOps;refine wp_ret ?_;exact ⟨M,.agg C,JS W _ _ _ _ K (run_loadVar_new w t C m e X hi),rfl,rfl⟩
open RowKit
def aF (b:Nat) (vs:List Value) (w:World):Prop:=b<w.heap.size/\(∀q,w.frozen? ⟨b,q,none⟩=false)/\∀j v,vs[j]?=some v->w.cell? ⟨b,j,none⟩=some v
def aF.step {b:Nat} {w:World} {B:Nat} (h:aF b vs w) (u:Below B w w') (y:b<B):aF b vs w':=
 ⟨by have:=u.size;have:=h.1;omega,λ q=>(u.frozen (p:=⟨b,q,none⟩) y).trans (h.2.1 q),λ j v A=>(u.cell (p:=⟨b,j,none⟩) y).trans (h.2.2 j v A)⟩
def aF.next {b:Nat} {w:World} (h:aF b vs w) (j:Below w.heap.size w w'):aF b vs w':=h.step j h.1
def aF.alloc {b:Nat} {w:World} (h:aF b vs w) (o):aF b vs (w.alloc o):=h.next aJ
def aF.new (w:World) (vs:List Value) (t:TypeId):aF w.heap.size vs (w.alloc (.cells vs.toArray t)):=by
 refine ⟨by simp,λ q=>?_,λ j v h=>?_⟩
 .unfold World.frozen?
  have:({ block:=w.heap.size,off:=q }:Addr).block=w.heap.size:=rfl;rw[this,heap_alloc_last];simp
 rw[cell_of_row _ _ j _ t (0,0) (heap_alloc_last w _)];simpa using h
structure bS (c:Nat) (g:Option Nat) (w w':World):Prop where
 os:w'.os=w.os
 tape:w'.tape=w.tape
 output:w'.output=w.output
 size:w.heap.size<=w'.heap.size
 block:∀b,b<w.heap.size->b≠c->g≠some b->w'.heap[b]?=w.heap[b]?
def bS.refl (c) (g:Option Nat) (w):bS c g w w:=⟨rfl,rfl,rfl,zn,λ _ _ _ _=>rfl⟩
def bS.of_below {w:World} (h:Below w.heap.size w w'):bS c g w w':=⟨h.os,h.tape,h.output,h.size,λ b j _ _=>h.block b j⟩
def bS.of_grown {w:World} (h:w.grownBy w' g):bS c g w w':=⟨h.os,h.tape,h.output,h.size,λ b j _ q=>h.block b j (λ e=>q e.symm)⟩
def bS.trans {a b d:World} (h:bS c g a b) (k:bS c g b d):bS c g a d:=
 ⟨k.os.trans h.os,k.tape.trans h.tape,k.output.trans h.output,Nat.le_trans h.size k.size,λ i hi j q=>(k.block i (zl hi h.size) j q).trans (h.block i hi j q)⟩
def bS.setCell (c) (g:Option Nat) (w) (q) (v):bS c g w (w.setCell ⟨c,q,none⟩ v):=by
 refine ⟨rfl,rfl,rfl,?_,λ b _ h _=>Below.heap_setCell _ _ _ _ (λ e=>h e)⟩
 simp[World.setCell]
def bS.below {B:Nat} {w:World} (h:bS c g w w') (j:Below B w0 w) (y:B<=c) (v:∀b,g=some b->B<=b) (u:B<=w0.heap.size):Below B w0 w':=
 ⟨h.os.trans j.os,h.tape.trans j.tape,h.output.trans j.output,Nat.le_trans j.size h.size,λ k q=>by
  rw[h.block k (zl (zl q u) j.size) (by omega) (λ e=>by have:=v k e;omega)];exact j.block k q⟩
def aF.keeps {w:World} {b:Nat} (h:aF b vs w) (u:bS c g w w') (y:b≠c) (A:g≠some b):aF b vs w':=by
 have e:=u.block b h.1 y A;exact ⟨zl h.1 u.size,λ q=>(World.frozen?_of_block (a:=⟨b,q,none⟩) e).trans (h.2.1 q),λ j v C=>(World.cell?_of_block (a:=⟨b,j,none⟩) e).trans (h.2.2 j v C)⟩
def le {w:World} {size:Nat} {v:Value} {n:Nat} (h:w.ownsRow base e size v n xs) (C:∀g,v.ownBlock=some g->w'.heap[g]?=w.heap[g]?):w'.ownsRow base e size v n xs:=by
 obtain ⟨q,y|⟨g,cap,j,u,E,D,A⟩⟩:=h
 .exact ⟨q,.inl y⟩
 exact ⟨q,.inr ⟨g,cap,j,u,E,(C g (by rw[u];rfl)).trans D,A⟩⟩
def aF.set {b:Nat} {w:World} (h:aF b vs w) (q) (v) (A:q<vs.length):aF b (vs.set q v) (w.setCell ⟨b,q,none⟩ v):=by
 refine ⟨by simpa[World.setCell] using h.1,λ p=>?_,λ j u y=>?_⟩
 .rw[World.frozen?_setCell];exact h.2.1 p
 by_cases e:j=q
 .subst e
  rw[List.getElem?_set_self A]at y;cases y
  exact World.cell?_setCell_same _ _ _ (h.2.2 j _ (zg A))
 rw[List.getElem?_set_ne (λ C=>e C.symm)]at y
 rw[World.cell?_setCell_other _ _ _ _ (by intro D;exact e (by injection D with _ h2;exact h2.symm))]
 exact h.2.2 j u y
def eI (mem regs:List Int) (pc:Int):List Value:=mem.map (.int .u8)++(regs.map (.int .i64)++[.int .i64 pc])
structure aK (T:TypeId) (b:Nat) (mem regs:List Int) (pc:Int) (w:World):Prop where
 row:w.heap[b]?=some (.cells (eI mem regs pc).toArray T (0,0))
 mlen:mem.length=4096
 rlen:regs.length=32
 byte:∀x∈mem,0<=x/\x<256
def xH {mem regs:List Int} {pc:Int} (h:mem.length=4096) (j:regs.length=32):(eI mem regs pc).length=4129:=by
 simp[eI,h,j]
def LH {mem regs:List Int} {pc:Int} (k) (h:k<mem.length):(eI mem regs pc)[k]?=some (.int .u8 (mem.getD k 0)):=by
 unfold eI;rw[List.getElem?_append_left (by simpa using h),List.getElem?_map]
 simp[h]
def Lv {mem regs:List Int} {pc:Int} (k) (j:mem.length=4096) (h:k<regs.length):(eI mem regs pc)[4096+k]?=some (.int .i64 (regs.getD k 0)):=by
 unfold eI;rw[List.getElem?_append_right (by simp;omega),List.getElem?_append_left (by simp;omega),List.getElem?_map]
 have:4096+k-(List.map (Value.int .u8) mem).length=k:=by simp;omega
 rw[this];simp[h]
def MX {mem regs:List Int} {pc:Int} (h:mem.length=4096) (j:regs.length=32):(eI mem regs pc)[4128]?=some (.int .i64 pc):=by
 unfold eI;rw[List.getElem?_append_right (by simp;omega),List.getElem?_append_right (by simp;omega)]
 simp[h,j]
variable {T : TypeId} {b : Nat} {mem regs : List Int} {pc : Int} {w : World}
def aK.lt (h:aK T b mem regs pc w):b<w.heap.size:=by
 have:=h.row;rcases Nat.lt_or_ge b w.heap.size with h|h
 .exact h
 rw[Array.getElem?_eq_none h]at this;cases this
def aK.frozen (h:aK T b mem regs pc w) (q):w.frozen? ⟨b,q,none⟩=false:=by
 unfold World.frozen?;rw[show ({ block:=b,off:=q }:Addr).block=b from rfl,h.row]
 simp
def aK.cell (h:aK T b mem regs pc w) (q):w.cell? ⟨b,q,none⟩=(eI mem regs pc)[q]?:=by
 rw[cell_of_row _ _ q _ T (0,0) h.row];simp
def aK.cellM (h:aK T b mem regs pc w) (k) (j:k<4096):w.cell? ⟨b,k,none⟩=some (.int .u8 (mem.getD k 0)):=by
 rw[h.cell,LH k (by rw[h.mlen];exact j)]
def aK.cellR (h:aK T b mem regs pc w) (k) (j:k<32):w.cell? ⟨b,4096+k,none⟩=some (.int .i64 (regs.getD k 0)):=by
 rw[h.cell,Lv k h.mlen (by rw[h.rlen];exact j)]
def aK.cellP (h:aK T b mem regs pc w):w.cell? ⟨b,4128,none⟩=some (.int .i64 pc):=by
 rw[h.cell,MX h.mlen h.rlen]
def aK.step {B:Nat} (h:aK T b mem regs pc w) (j:Below B w w') (q:b<B):aK T b mem regs pc w':=
 ⟨(j.block b q).trans h.row,h.mlen,h.rlen,h.byte⟩
def aK.next (h:aK T b mem regs pc w) (j:Below w.heap.size w w'):aK T b mem regs pc w':=h.step j h.lt
def OM {mem regs:List Int} {pc:Int} (k) (v) (j:mem.length=4096) (h:k<regs.length):(eI mem regs pc).set (4096+k) (.int .i64 v)=eI mem (regs.set k v) pc:=by
 unfold eI;rw[List.set_append_right _ _ (by simp;omega),List.set_append_left _ _ (by simp;omega)]
 have:4096+k-(List.map (Value.int .u8) mem).length=k:=by simp;omega
 rw[this,List.map_set]
def SQ {mem regs:List Int} {pc:Int} (v) (h:mem.length=4096) (j:regs.length=32):(eI mem regs pc).set 4128 (.int .i64 v)=eI mem regs v:=by
 unfold eI;rw[List.set_append_right _ _ (by simp;omega),List.set_append_right _ _ (by simp;omega)]
 simp[h,j]
def aK.setCell (h:aK T b mem regs pc w) (q) (v):(w.setCell ⟨b,q,none⟩ v).heap[b]?=some (.cells ((eI mem regs pc).set q v).toArray T (0,0)):=by
 rw[heap_setCell_same w b q _ T v h.row];simp
def aK.setR (h:aK T b mem regs pc w) (k) (j:k<32) (v):aK T b mem (regs.set k v) pc (w.setCell ⟨b,4096+k,none⟩ (.int .i64 v)):=
 ⟨by rw[h.setCell,OM k v h.mlen (by rw[h.rlen];exact j)],h.mlen,by simpa using h.rlen,h.byte⟩
def aK.setP (h:aK T b mem regs pc w) (v):aK T b mem regs v (w.setCell ⟨b,4128,none⟩ (.int .i64 v)):=
 ⟨by rw[h.setCell,SQ v h.mlen h.rlen],h.mlen,h.rlen,h.byte⟩
structure aN (b:Nat) (w w':World):Prop where
 os:w'.os=w.os
 tape:w'.tape=w.tape
 output:w'.output=w.output
 size:w.heap.size<=w'.heap.size
 block:∀k,k<w.heap.size->k≠b->w'.heap[k]?=w.heap[k]?
def aN.refl (b) (w):aN b w w:=⟨rfl,rfl,rfl,zn,λ _ _ _=>rfl⟩
def aN.of_below {w:World} (h:Below w.heap.size w w') (b):aN b w w':=⟨h.os,h.tape,h.output,h.size,λ k j _=>h.block k j⟩
def aN.trans {b:Nat} {x y z:World} (h:aN b x y) (k:aN b y z):aN b x z:=
 ⟨k.os.trans h.os,k.tape.trans h.tape,k.output.trans h.output,Nat.le_trans h.size k.size,λ i hi j=>(k.block i (zl hi h.size) j).trans (h.block i hi j)⟩
def aN.setCell (b) (w) (q) (v):aN b w (w.setCell ⟨b,q,none⟩ v):=by
 refine ⟨rfl,rfl,rfl,?_,λ k _ h=>Below.heap_setCell _ _ _ _ (λ e=>h e)⟩
 simp[World.setCell]
def aN.below {b B:Nat} {w:World} (h:aN b w w') (j:Below B w0 w) (v:B<=b) (u:B<=w0.heap.size):Below B w0 w':=
 ⟨h.os.trans j.os,h.tape.trans j.tape,h.output.trans j.output,Nat.le_trans j.size h.size,λ k q=>by
  rw[h.block k (zl (zl q u) j.size) (by omega)];exact j.block k q⟩
def BB {P:Program} (w) (dT sT ty elem) (g o dLen dCap) (s) (cur) (t) (v:P.underlying dT=some (.slice elem)) (u:(P.info? elem).map (·.size)=some 1) (q:w.heap[g]?=some (.cells cur t (0,0))) (j:s.size<=dLen) (h:o+s.size<=cur.size):
    (Builtin.copy_ #[dT,sT] ty #[.slice (some ⟨g,o,none⟩) dLen dCap,.string s]).run P w =
     .ok (goInt s.size) (w.setRow g (cur.toList.take o++Lib.byteCells s.data.toList++cur.toList.drop (o+s.size)).toArray):=Lib.run_copy_row_string w dT sT ty elem g o dLen dCap s cur t v u q j h
def eH (mem:List Int) (a:Nat) (l:List UInt8):List Int:=mem.take a++l.map (λ b=>(b.toNat:Int))++mem.drop (a+l.length)
def NU {mem:List Int} {a:Nat} (h:a+l.length<=mem.length):(eH mem a l).length=mem.length:=by
 simp[eH];omega
def Mb {mem:List Int} {a:Nat} (h:∀x∈mem,0<=x/\x<256):∀x∈eH mem a l,0<=x/\x<256:=by
 intro x hx;simp only[eH,List.mem_append,List.mem_map]at hx;rcases hx with (hx|⟨b,_,rfl⟩)|hx
 .exact h x (List.mem_of_mem_take hx)
 .have:=b.toNat_lt;omega
 exact h x (List.mem_of_mem_drop hx)
def LX {mem regs:List Int} {pc:Int} {a:Nat} (h:a+l.length<=mem.length):
    (eI mem regs pc).take a++Lib.byteCells l++(eI mem regs pc).drop (a+l.length)=eI (eH mem a l) regs pc:=by
 unfold eI eH;rw[List.take_append_of_le_length (by simp;omega),List.drop_append_of_le_length (by simpa using h)]
 simp[Lib.byteCells,Function.comp_def]
def aK.put {T:TypeId} {b:Nat} {mem regs:List Int} {pc:Int} {w:World} (h:aK T b mem regs pc w) (a) (l) (j:a+l.length<=4096):
    aK T b (eH mem a l) regs pc (w.setRow b ((eI mem regs pc).toArray.toList.take a++Lib.byteCells l++(eI mem regs pc).toArray.toList.drop (a+l.length)).toArray):=by
 refine ⟨?_,(NU (by rw[h.mlen];exact j)).trans h.mlen,h.rlen,Mb h.byte⟩
 have e:((eI mem regs pc).toArray.toList.take a++Lib.byteCells l++(eI mem regs pc).toArray.toList.drop (a+l.length))=eI (eH mem a l) regs pc:=LX (by rw[h.mlen];exact j)
 rw[e];simp only[World.setRow];rw[Array.getElem?_modify];simp[h.row]
def aN.setRow (b) (w) (c):aN b w (w.setRow b c):=by
 refine ⟨rfl,rfl,rfl,by simp[World.setRow],λ k _ h=>?_⟩
 simp only[World.setRow];rw[Array.getElem?_modify,aC (λ e=>h e.symm)]
variable {F : Fence} {n : Nat} {P : Program}
def Bo {α:Type} (F:Fence) (n:Nat) (P:Program) (g:Nat) (lb:Array Value) (encs:α->Array Value) (Kp:World->World->Prop) (S Sp:List α->Prop) (N:Nat) (w:World):Prop:=
 ∀(l:Nat) (J Jx:List α->World->Prop) (W:World),Below w.heap.size w W->OwnFrom W.heap.size J->OwnFrom W.heap.size Jx->
  (∀pre x W1,J pre W1->pre.length<N->YieldAt F (n-1) P l (encs x) W1 λ e W'=>
   (e=.returned (.bool true)/\J (pre++[x]) W'/\Kp W1 W'/\KeepsFrom W.heap.size W1 W')\/(e=.returned (.bool false)/\Jx (pre++[x]) W'/\KeepsFrom W.heap.size W1 W'))->
  J [] W->
  CallsIn F n P g (#[.func (.yield l) #[] #[]]++lb) W λ e W'=>(∃v,e=.returned v)/\((∃xs,S xs/\J xs W')\/(∃pre,Sp pre/\Jx pre W'))
def nE {β:Type} {B k:Nat} {o:Obj} (u:k<B):OwnFrom B (λ (_:β) W=>W.heap[k]?=some o):=λ _ A W row h j q=>
 (j.block k (Array.getElem?_eq_some_iff.1 h).1 (λ e=>by have:=(q k e.symm).1;omega)).trans h
def VJ {β:Type} {B:Nat} {γ:Type} {I:γ->β->World->Prop} (h:∀c,OwnFrom B (I c)):OwnFrom B (λ s W=>∃c,I c s W):=λ s A W row ⟨c,hc⟩ hg hr=>⟨c,h c s A W row hc hg hr⟩
def sN {β:Type} {B:Nat} {I:β->World->Prop} (h:OwnFrom B I) (q:B<=B'):OwnFrom B' I:=λ s A W row v u j=>h s A W row v u (λ r e=>⟨Nat.le_trans q (j r e).1,(j r e).2⟩)
def uj {B:Nat} {W j:World} (h:KeepsFrom B W j) (q:B<=B'):KeepsFrom B' W j:=⟨h.size,λ k o u=>h.same k o (Nat.le_trans q u)⟩
def Dn {B l:Nat} (W) (o') (h:l<B):KeepsFrom B W (W.putObj l o'):=KeepsFrom.of_grownBy (grownBy_putObj' W l o') (λ j e=>by cases e;exact h)
def C7 {α:Type} {g:Operand} {ps:Array Tmp} {assign body:Code} {Q:Exit->Act->World->Prop} {w:World} (bb:F.round=none) (h1:1<=n) (hg:a.eval g=.func (.func gf) #[] lb) (a2:F.fn gf) (eg:∀args w,(callFunc gf args).run P w=.ok (.enter gf args) w) {y:α->Array Value} {T:World->World->Prop} {S Sp:List α->Prop} (ar:Bo F (n-1) P gf lb y T S Sp N w0) (X:∀{A B C:World},T A B->T B C->T A C) (am:∀(W:World) (l:Nat) (o M:Obj),W.heap[l]?=some o->o.isCells=false->T W (W.putObj l M)) (an:Below w0.heap.size w0 w) (ba:∀x,(y x).size=ps.size) (I:List α->World->Prop) (Ix:Code->List α->World->Prop) (hI:OwnFrom w.heap.size I) (H:∀c,OwnFrom w.heap.size (Ix c)) (h0:I [] w) (Ax:α->Act->World->Prop) (a0:∀x L,OwnFrom w.heap.size (λ (_:Unit) W=>Ax x L W)) (J:∀(l:Nat) (h:List α) (x:α) (W:World) (K:Act->World->Prop),I h W->(∀L W',KeepsFrom w.heap.size W W'->T W W'->I h W'->Ax x L W'->K L W')->
      assign.wpIn (F.inRound l) (n-1-1) P (Exit.then K (λ _ _ _=>False)) { tmps:=(ps.zip (y x)).foldl (λ t (p,v)=>t.setIfInBounds p v) a.tmps,defers:=[] } W) (aa:∀(l:Nat) (h:List α) (x:α) (L:Act) (W:World),I h W->Ax x L W->h.length<N->body.wpIn (F.inRound l) (n-1-1) P (ownPostG w.heap.size T I Ix (h++[x]) W) L W) (ab:∀(D:Nat) (xs:List α) (W:World),w.heap.size<=D->S xs->I xs W->W.heap[D]?=some (.deferred (some []))->Q .normal { a with defers:={ target:=.collected D,args:=#[] }::a.defers } W) (af:∀(D:Nat) (c:Code) (h:List α) (W:World),w.heap.size<=D->Sp h->Ix c h W->W.heap[D]?=some (.deferred (some []))->c.wpIn F n P Q { a with defers:={ target:=.collected D,args:=#[] }::a.defers } W):
    (Code.rangeFunc g ps assign body).wpIn F n P Q a w:=by
 refine wpIn_rangeFunc λ fn a6=>?_
 rw[bb];obtain ⟨R,O⟩:∃R:LoopState->Option Code->Loop,R=λ st pe=>{ state:=st,pending:=pe,fn,tmps:=a.tmps,params:=ps,assign,body,defers:=w.heap.size }:=⟨_,rfl⟩
 obtain ⟨V,hV⟩:∃V,(w.alloc (.deferred (some []))).alloc (.loop (R .ready none))=V:=⟨_,rfl⟩;have bm:V.heap.size=w.heap.size+2:=by rw[<-hV];simp
 have vL:V.heap[w.heap.size+1]?=some (.loop (R .ready none)):=by
  rw[<-hV];have:=World.alloc_heap_new (w.alloc (.deferred (some []))) (.loop (R .ready none));rwa[za]at this
 have vD:V.heap[w.heap.size]?=some (.deferred (some [])):=by
  rw[<-hV];exact (Below.heap_alloc _ _ _ (by simp)).trans (World.alloc_heap_new w _)
 have vI:I [] V:=by rw[<-hV];exact hI.alloc _ (hI.alloc _ h0)
 have vB:Below w0.heap.size w0 V:=by
  rw[<-hV];exact an.trans ((((Below.refl _ w).alloc zn _).alloc (by simp) _).mono an.size)
 refine ⟨w.heap.size+1,[{ target:=.collected w.heap.size,args:=#[] }],V,{ target:=.fn (.func gf) lb,args:=#[.func (.yield (w.heap.size+1)) #[] #[]] },V,gf,
  #[.func (.yield (w.heap.size+1)) #[] #[]]++lb,V,?_,?_,?_,?_,λ _=>h1,?_⟩
 .rw[<-hV,O];exact run_enterLoop_outer _ _ _ _ _
 .simp only[resolve,hg]
  simp[go_sem]
 .intro f' ao;simp[Target.leads]at ao;subst ao;exact a2
 .simp[invoke,go_sem,eg]
 have oI:OwnFrom V.heap.size (λ (h:List α) W=>I h W/\W.heap[w.heap.size+1]?=some (.loop (R .ready none))/\W.heap[w.heap.size]?=some (.deferred (some []))):=
  OwnFrom.and (sN hI (by omega)) (OwnFrom.and (nE (by omega)) (nE (by omega)))
 have oX:OwnFrom V.heap.size (λ (h:List α) W=>∃c,Ix c h W/\W.heap[w.heap.size+1]?=some (.loop (R .done (some c)))/\W.heap[w.heap.size]?=some (.deferred (some []))):=
  VJ λ c=>OwnFrom.and (sN (H c) (by omega)) (OwnFrom.and (nE (by omega)) (nE (by omega)))
 refine (ar (w.heap.size+1) _ _ V vB oI oX (λ h x W ⟨hi,U,hk⟩ hlen=>?_) ⟨vI,vL,vD⟩).mono ?_
 ·-- one round
  have hy:=run_yield (P:=P) (args:=y x) U (by rw[O];exact ba x)
  rw[O]at hy;refine ⟨fn,_,assign,body,hy,roundIn_of_wpIn a6 (J _ h x W _ hi λ L Z ac a8 a7 a5=>?_)⟩
  have zL:=ac.same _ _ (by omega) U rfl
  have zD:=ac.same _ _ zn hk rfl;have bc:w.heap.size+1<Z.heap.size:=(Array.getElem?_eq_some_iff.1 zL).1;refine ⟨_,run_beginRound zL (by rw[O]),?_⟩
  have bL:(Z.putObj (w.heap.size+1) (.loop { R .ready none with state:=.busy })).heap[w.heap.size+1]?=some (.loop { R .ready none with state:=.busy }):=World.putObj_heap_same bc
  have bD:(Z.putObj (w.heap.size+1) (.loop { R .ready none with state:=.busy })).heap[w.heap.size]?=some (.deferred (some [])):=(World.putObj_heap_other (by omega)).trans zD
  have bK:T Z (Z.putObj (w.heap.size+1) (.loop { R .ready none with state:=.busy })):=am _ _ _ _ zL rfl
  refine wpIn_mono (aa _ h x L _ (hI.putObj _ a7 (by omega) zL rfl) ((a0 x L).putObj (s:=()) _ a5 (by omega) zL rfl) hlen) ?_
  have E:∀(Y:World) (M:Obj),KeepsFrom w.heap.size (Z.putObj (w.heap.size+1) (.loop { R .ready none with state:=.busy })) Y->KeepsFrom V.heap.size W (Y.putObj (w.heap.size+1) M):=λ Y M hY=>
   (uj ac (by omega)).trans ((Dn _ _ (by omega)).trans ((uj hY (by omega)).trans (Dn _ _ (by omega))))
  have fin:∀(j:Option Code) (Y:World),KeepsFrom w.heap.size (Z.putObj (w.heap.size+1) (.loop { R .ready none with state:=.busy })) Y->
      Y.heap[w.heap.size+1]?=some (.loop { R .ready none with state:=.busy })/\∃Y',Y'=Y.putObj (w.heap.size+1) (.loop (R (if j.isNone then .ready else .done) j))/\(Instr.endRound (w.heap.size+1) j).run P Y=.ok (.bool j.isNone) Y'/\
       Y'.heap[w.heap.size+1]?=some (.loop (R (if j.isNone then .ready else .done) j))/\Y'.heap[w.heap.size]?=some (.deferred (some [])):=λ j Y hY=>by
   (have G:=hY.same _ _ (by omega) bL rfl);(refine ⟨G,_,rfl,?_,World.putObj_heap_same (Array.getElem?_eq_some_iff.1 G).1,(World.putObj_heap_other (by omega)).trans (hY.same _ _ zn bD rfl)⟩);have:=run_endRound (P:=P) j G;rw[O]at this ⊢;exact this
  rintro e a3 Y hp
  cases e with
  | normal=>
   obtain ⟨q,a9,u⟩:=hp;obtain ⟨G,_,rfl,hr,rL,rD⟩:=fin none Y q;exact ⟨_,_,hr,.inl ⟨rfl,⟨hI.putObj _ u (by omega) G rfl,rL,rD⟩,X a8 (X (X bK a9) (am _ _ _ _ G rfl)),E _ _ q⟩⟩
  | ret=>
   obtain ⟨q,u⟩:=hp;obtain ⟨G,_,rfl,hr,rL,rD⟩:=fin (some .ret) Y q;exact ⟨_,_,hr,.inr ⟨rfl,⟨.ret,(H _).putObj _ u (by omega) G rfl,rL,rD⟩,E _ _ q⟩⟩
  | exit id=>
   obtain ⟨q,u⟩:=hp;obtain ⟨G,_,rfl,hr,rL,rD⟩:=fin (some (.exit id)) Y q;exact ⟨_,_,hr,.inr ⟨rfl,⟨.exit id,(H _).putObj _ u (by omega) G rfl,rL,rD⟩,E _ _ q⟩⟩
  | goto t=>
   obtain ⟨q,u⟩:=hp;obtain ⟨G,_,rfl,hr,rL,rD⟩:=fin (some (.goto t)) Y q;exact ⟨_,_,hr,.inr ⟨rfl,⟨.goto t,(H _).putObj _ u (by omega) G rfl,rL,rD⟩,E _ _ q⟩⟩
  | panic ch=>exact hp.elim
  | outgrown=>exact hp.elim
 -- behind the iterator
 rintro e Y ⟨⟨v,rfl⟩,(⟨xs,hS,hi,U,hk⟩|⟨h,a4,c,hi,U,hk⟩)⟩
 .obtain ⟨M,hE⟩:∃M,(Instr.endLoop (w.heap.size+1)).run P Y=.ok none (Y.putObj (w.heap.size+1) M):=⟨_,by
   (have:=run_endLoop (P:=P) U (by rw[O];simp));rw[O]at this;exact this⟩
  exact ⟨none,_,hE,ab _ xs _ zn hS (hI.putObj _ hi (by omega) U rfl) ((World.putObj_heap_other (by omega)).trans hk)⟩
 obtain ⟨M,hE⟩:∃M,(Instr.endLoop (w.heap.size+1)).run P Y=.ok (some c) (Y.putObj (w.heap.size+1) M):=⟨_,by
  have:=run_endLoop (P:=P) U (by rw[O];simp)
  rw[O]at this;exact this⟩
 exact ⟨some c,_,hE,af _ c h _ zn a4 ((H c).putObj _ hi (by omega) U rfl) ((World.putObj_heap_other (by omega)).trans hk)⟩
section
variable {F : Fence} {n : Nat} {P : Program} {ops : Array Oper} {md : Region.Mode} {C : World → Prop}
def MM (r:Option Nat) (ρ:Operand->Value) (o:Oper) (h:∀c,o.op≠.defer c):Oper.semAt r ρ o=execOp ρ o:=by
 cases r with
 | none=>exact Oper.semAt_none ..
 | some l=>exact Oper.semAt_some l _ _ h
def KN {o:Oper} {a:Act} {K:Act->World->Prop} {Q:Exit->Act->World->Prop} {w:World} {v:Value} (l:Nat):∀r,Oper.quietUponIn F n P C w v r->o.uponIn F n P a K Q r->o.uponIn (F.inRound l) n P a K Q r
 | .ok x _,hq,h=>by
  cases x with
  | value _=>exact h
  | skip=>exact h
  | enter _ _=>exact h
  | _=>simp only[Oper.quietUponIn]at hq
 | .halt _ _,hq,_=>by simp only[Oper.quietUponIn]at hq
def Oper.wpIn_of_quietR {K:Act->Prop} {q:Act->World->Prop} {y:Exit->Act->World->Prop} {w:World} (l) (u:F.round=none) (H:∀c,o.op≠.defer c) (E:C w) (h:∀a w',C w'->K a->q a w') (G:o.askedIn F P a C) (D:o.quietIn F n P a C K):o.wpIn (F.inRound l) n P a w q y:=by
 have j:o.wpIn F n P a w q y:=Oper.wpIn_of_quiet u E h G D;obtain ⟨v,I,_⟩:=D;have A:=I w E;unfold Oper.quietAtIn at A;unfold Oper.wpIn at j ⊢;rw[MM _ _ _ H]at j ⊢;exact ⟨j.1,KN l _ A j.2⟩
def Oper.plainB (o:Oper):Bool:=match o.op with | .defer _=>false|_=>true
def lC (l:List Oper):Nat->Bool
 | 0=>true
 | i+1=>lC l i&&match l[i]? with
  | none=>false
  | some o=>o.plainB&&o.after.all (λ e=>decide (e.on<i))&&(match o.guard with|none=>true|some (j,_)=>decide (j<i))
def pF {l:List Oper}:∀{m:Nat},lC l m=true->∀i,i<m->∃o,l[i]?=some o/\(∀c,o.op≠.defer c)/\(∀e∈o.after,e.on<i)/\∀j b,o.guard=some (j,b)->j<i
 | 0,_,i,hi=>by omega
 | m+1,h,i,hi=>by
  rw[lC,Bool.and_eq_true]at h;rcases Nat.lt_or_ge i m with u|A
  .exact pF h.1 i u
  have e:i=m:=by omega
  subst e;have q:=h.2
  split at q
  .cases q
  rename_i o ho;simp only[Bool.and_eq_true]at q;refine ⟨o,ho,λ c v=>?_,λ e w=>?_,λ j b y=>?_⟩
  .have:=q.1.1;unfold Oper.plainB at this;rw[v]at this;cases this
  .have:=Array.all_eq_true_iff_forall_mem.1 q.1.2 e w;simpa using this
  have:=q.2;rw[y]at this;simpa using this
structure lU (m:Nat) (L L':Array Bool):Prop where
 s1:L.size=m+1
 s2:L'.size=m
 at1:∀i,i<m->L[i]?=L'[i]?
 last:L[m]?=some false
def lU.set {L L':Array Bool} (h:lU m L L') (i) (hi:i<m):lU m (L.setIfInBounds i true) (L'.setIfInBounds i true):=by
 refine ⟨by simp[h.s1],by simp[h.s2],λ j q=>?_,?_⟩
 .have:=h.at1 j q
  simp only[Array.getElem?_setIfInBounds,h.s1,h.s2];by_cases e:i=j
  .subst e;simp[hi,Nat.lt_succ_of_lt hi]
  simp[e,this]
 rw[Array.getElem?_setIfInBounds];rw[aC (by omega)]
 exact h.last
def lU.getD {L L':Array Bool} (h:lU m L L') (i) (hi:i<m) (d):L.getD i d=L'.getD i d:=by
 have:=h.at1 i hi;have j:i<L.size:=by rw[h.s1];omega
 have q:i<L'.size:=by rw[h.s2];omega
 rw[Array.getElem?_eq_getElem j,Array.getElem?_eq_getElem q]at this;simp[Array.getD,j,q,Option.some.inj this]
def lW {md:Region.Mode} {ops:Array Oper} {L:Array Bool}:i∈Region.ready md ops L↔i<ops.size/\L.getD i true=false/\∃o,ops[i]?=some o/\∀e∈o.after,Region.binds md e=true->L.getD e.on false=true:=by
 unfold Region.ready;rw[List.mem_filter,List.mem_range];simp only[Bool.and_eq_true,Bool.not_eq_true'];refine and_congr_right λ hi=>and_congr_right λ _=>?_
 rw[Array.getElem?_eq_getElem hi];simp only[zm,Option.getD_some,Option.some.injEq,exists_eq_left',Array.all_eq_true_iff_forall_mem,Bool.or_eq_true,Bool.not_eq_true']
 exact ⟨λ h e q j=>(h e q).resolve_left (by simp[j]),λ h e q=>by
  cases j:Region.binds md e
  .exact .inl rfl
  exact .inr (h e q j)⟩
def Cc {md:Region.Mode} {l:List Oper} {L:Array Bool} (C:L.size=l.length) (v:lC l l.length=true) (h:Region.ready md l.toArray L=[]):∀i,i<l.length->L.getD i true=true:=by
 intro i
 induction i using Nat.strongRecOn with
 | _ i ih=>
  intro hi
  cases hL:L.getD i true with
  | true=>rfl
  | false=>
   exfalso;obtain ⟨o,A,_,w,_⟩:=pF v i hi
   have:i∈Region.ready md l.toArray L:=lW.2 ⟨by simpa using hi,hL,o,by simpa using A,λ e y _=>by
    have q:=w e y;(have j:=ih e.on q (by omega));(have u:e.on<L.size:=by omega);simp[Array.getD,u]at j ⊢;exact j⟩
   rw[h]at this;cases this
def A0 (md:Region.Mode) (st:Oper) (m:Nat):Bool:=(List.range m).all λ i=>st.after.any λ e=>Region.binds md e&&e.on==i
def M3 {l:List Oper} {md:Region.Mode} {Q:Exit->Act->World->Prop} (r) (ah:F.round=none) (hb:lC (l++[st]) (l.length+1)=true) (E:lC l l.length=true) (ai:A0 md st l.length=true):
    ∀(u:Nat) (L L':Array Bool) (a:Act) (w:World),lU l.length L L'->C w->
     wpAnyQIn F n P md l.toArray C (λ a'=>∀w',C w'->wpOpIn (F.inRound r) n P (l++[st]).toArray Q l.length (λ a w=>Q .normal a w) a' w') u L' a->
     wpAnyIn (F.inRound r) n P md (l++[st]).toArray Q (u+1) L a w:=by
 have ab:∀{L L':Array Bool} {i:Nat},lU l.length L L'->i<l.length->i∈Region.ready md (l++[st]).toArray L->i∈Region.ready md l.toArray L':=λ {L L' i} v hi W=>by
  obtain ⟨_,A,o,H,D⟩:=lW.1 W;obtain ⟨o',I,_,U,_⟩:=pF E i hi
  have e:o=o':=by
   (have:(l++[st])[i]?=some o:=by simpa using H);rw[List.getElem?_append_left hi,I]at this;exact (Option.some.inj this).symm
  subst e;refine lW.2 ⟨by simpa using hi,by rw[<-v.getD i hi];exact A,o,by simpa using I,λ e V T=>?_⟩
  rw[<-v.getD e.on (by have:=U e V;omega)]
  exact D e V T
 have new:∀{L L':Array Bool} {i:Nat},lU l.length L L'->i∈Region.ready md l.toArray L'->i<l.length/\i∈Region.ready md (l++[st]).toArray L:=λ {L L' i} v W=>by
  obtain ⟨hi,A,o,H,D⟩:=lW.1 W;have hi:i<l.length:=by simpa using hi
  obtain ⟨o',I,_,U,_⟩:=pF E i hi
  have e:o=o':=by
   (have:l[i]?=some o:=by simpa using H);rw[I]at this;exact (Option.some.inj this).symm
  subst e;refine ⟨hi,lW.2 ⟨by simp;omega,by rw[v.getD i hi];exact A,o,by simp only[List.getElem?_toArray];rw[List.getElem?_append_left hi];exact I,λ e V T=>?_⟩⟩
  rw[v.getD e.on (by have:=U e V;omega)]
  exact D e V T
 have J:∀{L L':Array Bool},lU l.length L L'->(l.length∈Region.ready md (l++[st]).toArray L↔∀i,i<l.length->L'.getD i true=true):=λ {L L'} v=>by
  rw[lW]
  constructor
  .rintro ⟨_,_,o,H,h⟩ i hi
   have e:o=st:=by
    (have:(l++[st])[l.length]?=some o:=by simpa using H);rw[List.getElem?_append_right zn]at this;simpa using this.symm
   subst e;have A:=List.all_eq_true.1 ai i (List.mem_range.2 hi);obtain ⟨k,hk,D⟩:=Array.any_eq_true.1 A;simp only[Bool.and_eq_true,beq_iff_eq]at D;have R:=h _ (Array.getElem_mem hk) D.1;rw[D.2,v.getD i hi]at R;(have h4:i<L'.size:=by rw[v.s2];exact hi);simp[Array.getD,h4]at R ⊢;exact R
  intro h;refine ⟨by simp,?_,st,by simp,λ e V _=>?_⟩
  .have A:l.length<L.size:=by rw[v.s1];omega
   have:=v.last;rw[Array.getElem?_eq_getElem A]at this;simp[Array.getD,A,Option.some.inj this]
  obtain ⟨o,H,_,U,_⟩:=pF hb l.length (by omega)
  have e2:o=st:=by
   rw[List.getElem?_append_right zn]at H;simpa using H.symm
  subst e2;have A:=U e V;have D:=h e.on A;rw[v.getD e.on A];have h4:e.on<L'.size:=by rw[v.s2];exact A
  simp[Array.getD,h4]at D ⊢;exact D
 have size:∀{L L':Array Bool} {i:Nat},i∈Region.ready md (l++[st]).toArray L->i<l.length\/i=l.length:=λ {L L' i} h=>by
  have:=(lW.1 h).1;simp at this;omega
 have M:∀{L L':Array Bool},lU l.length L L'->(∀i,i<l.length->L'.getD i true=true)->Region.ready md (l++[st]).toArray (L.setIfInBounds l.length true)=[]:=λ {L L'} v y=>by
  refine List.eq_nil_iff_forall_not_mem.2 λ i hi=>?_
  obtain ⟨O,A,_⟩:=lW.1 hi;have O:i<l.length+1:=by simpa using O
  have D:i<L.size:=by rw[v.s1];exact O
  by_cases e:i=l.length
  .subst e
   simp[Array.getD,D]at A
  have R:=y i (by omega)
  rw[<-v.getD i (by omega)]at R
  have e':¬l.length=i:=λ q=>e q.symm
  simp[Array.getD,D]at A R;rw[Array.getElem_setIfInBounds D,aC e']at A;rw[R]at A;cases A
 have fin:∀{L L':Array Bool} (u:Nat) (a:Act) (w:World),lU l.length L L'->(∀i,i<l.length->L'.getD i true=true)->wpOpIn (F.inRound r) n P (l++[st]).toArray Q l.length (λ a w=>Q .normal a w) a w->wpAnyIn (F.inRound r) n P md (l++[st]).toArray Q (u+1) L a w:=λ {L L'} u a w v y K=>by
  refine ⟨λ O=>?_,λ i hi=>?_⟩
  .have:=(J v).2 y
   rw[O]at this;cases this
  rcases size (L':=L') hi with h|h
  .have A:=(lW.1 (ab v h hi)).2.1
   rw[y i h]at A;cases A
  subst h;refine wpOpIn_mono (λ a' w' aa=>?_) K
  cases u with
  | zero=>exact ⟨M v y,aa⟩
  | succ u=>exact ⟨λ _=>aa,λ i hi=>by rw[M v y]at hi;cases hi⟩
 intro u
 induction u with
 | zero=>
  intro L L' a w v Y h;exact fin 0 a w v (Cc v.s2 E h.1) (h.2 w Y)
 | succ u ih=>
  intro L L' a w v Y h;by_cases W:Region.ready md l.toArray L'=[]
  .exact fin (u+1) a w v (Cc v.s2 E W) (h.1 W w Y)
  obtain ⟨j,hj⟩:=List.exists_mem_of_ne_nil _ W;refine ⟨λ O=>?_,λ i hi=>?_⟩
  .have:=(new v hj).2
   rw[O]at this;cases this
  rcases size (L':=L') hi with G|U
  .have K:=h.2 i (ab v G hi)
   obtain ⟨o,H,hd,_,hg⟩:=pF E i G;(have o1:l.toArray[i]?=some o:=by simpa using H);have o2:(l++[st]).toArray[i]?=some o:=by simp only[List.getElem?_toArray];rw[List.getElem?_append_left G];exact H
   have X:Region.wanted o (yielded (l++[st]).toArray a.tmps)=Region.wanted o (yielded l.toArray a.tmps):=by
    unfold Region.wanted
    cases hgd:o.guard with
    | none=>rfl
    | some jb=>
     obtain ⟨j,b⟩:=jb;have au:=hg j b hgd
     have:yielded (l++[st]).toArray a.tmps j=yielded l.toArray a.tmps j:=by
      unfold yielded;simp only[List.getElem?_toArray];rw[List.getElem?_append_left (by omega)]
     simp only[this]
   unfold qOpIn at K;unfold wpOpIn;simp only[o1]at K;simp only[o2];rw[X];obtain ⟨N,K⟩:=K
   split
   .rename_i hw1
    simp only[hw1,if_true]at K;exact Oper.wpIn_of_quietR r ah hd Y (λ a' w' aj hk=>ih _ _ a' w' (v.set i G) aj hk) N K
   rename_i hw1;simp only[hw1]at K;exact ⟨N w Y,ih _ _ _ w (v.set i G) Y K⟩
  subst U;have y:=(J v).1 hi;obtain ⟨af,Z,_⟩:=lW.1 hj;rw[y j (by simpa using af)]at Z
  cases Z
def xz {Q q:Act->Prop} (h:∀a,Q a->q a):∀(l:List Oper) (a:Act),wpQuietIn F n P ops C Q l a->wpQuietIn F n P ops C q l a
 | [],a,hq=>h a hq
 | o::l,a,hq=>by
  refine ⟨hq.1,?_⟩;have j:=hq.2
  split
  .rename_i hw
   simp only[hw,if_true]at j;exact Oper.quietIn_mono (λ u=>xz h l u) j
  rename_i hw;simp only[hw]at j;exact xz h l _ j
def Ji {Q:Exit->Act->World->Prop} {w:World} (l:List Oper) (st:Oper) {X:List Oper} (A:X=l++[st]) (u:F.round=none) (E:P.follows .mixedOrders=true) (j:Region.lexB .any l.toArray=true) (D:lC (l++[st]) (l.length+1)=true) (q:lC l l.length=true) (v:A0 .any st l.length=true) (h:wpQuietIn F n P l.toArray (λ w'=>∃n,w'=w.drewN n) (λ y=>∀w',(∃n,w'=w.drewN n)->wpOpIn (F.inRound r) n P (l++[st]).toArray Q l.length (λ a w=>Q .normal a w) y w') l a):(Code.region id X.toArray true).wpIn (F.inRound r) n P Q a w:=by
 subst A;simp only[Region.lexB,Bool.and_eq_true]at j;refine wpIn_region_any E ?_;have G:=wpAnyQIn_lex (F:=F) (n:=n) (P:=P) (C:=λ w'=>∃n,w'=w.drewN n) (md:=.any) j.1 l 0 (Array.replicate l.length false) a (by simp) (by simpa using j.2) h
 have H:(l++[st]).toArray.size=l.length+1:=by simp
 rw[H];refine M3 r u D q v l.length _ _ a _ ⟨by simp,by simp,λ i hi=>?_,?_⟩ ⟨1,rfl⟩ G
 .simp[hi,Nat.lt_succ_of_lt hi]
 simp
def xc {Q:Exit->Act->World->Prop} {w:World} {X:List Oper} (j:X≠[]) (v:F.round=none) (I:P.follows .mixedOrders=true) (E:Region.lexB .any X.dropLast.toArray=true) (G:lC X (X.dropLast.length+1)=true) (u:lC X.dropLast X.dropLast.length=true) (y:A0 .any (X.getLast j) X.dropLast.length=true) (h:wpQuietIn F n P X.dropLast.toArray (λ w'=>∃n,w'=w.drewN n) (λ q=>∀w',(∃n,w'=w.drewN n)->(X.getLast j).guard=none/\(X.getLast j).wpIn (F.inRound r) n P q w' (λ a w=>Q .normal a w) Q) X.dropLast a):(Code.region id X.toArray true).wpIn (F.inRound r) n P Q a w:=by
 have e:X.dropLast++[X.getLast j]=X:=List.dropLast_concat_getLast j;refine Ji X.dropLast (X.getLast j) e.symm v I E (by rw[e];exact G) u y ?_
 refine xz (λ q C w' A=>?_) _ _ h
 obtain ⟨H,D⟩:=C w' A;unfold wpOpIn;have:(X.dropLast++[X.getLast j]).toArray[X.dropLast.length]?=some (X.getLast j):=by simp
 rw[this]
 have J:Region.wanted (X.getLast j) (yielded (X.dropLast++[X.getLast j]).toArray q.tmps)=true:=by
  unfold Region.wanted;rw[H]
 simp only[J,if_true];exact D
def xm {l:List Oper} {md:Region.Mode} {Q:Exit->Act->World->Prop} {G:Act->Prop} (r:Nat) (v:F.round=none) (A:lC l l.length=true) (y:∀a w,C w->G a->Q .normal a w):∀(j:Nat) (L:Array Bool) (a:Act) (w:World),C w->
    wpAnyQIn F n P md l.toArray C G j L a->wpAnyIn (F.inRound r) n P md l.toArray Q j L a w
 | 0,_,_,_,hw,h=>⟨h.1,y _ _ hw h.2⟩
 | j+1,L,a,w,hw,h=>by
  refine ⟨λ I=>y _ _ hw (h.1 I),λ i hi=>?_⟩
  have u:=h.2 i hi;have D:i<l.length:=by simpa using (lW.1 hi).1
  obtain ⟨o,M,J,_,_⟩:=pF A i D;have N:l.toArray[i]?=some o:=by simpa using M
  unfold qOpIn at u;unfold wpOpIn;simp only[N]at u ⊢;obtain ⟨q,u⟩:=u
  split
  .rename_i hw1
   simp only[hw1,if_true]at u;exact Oper.wpIn_of_quietR r v J hw (λ H w' E K=>xm r v A y j _ H w' E K) q u
  rename_i hw1;simp only[hw1]at u;exact ⟨q w hw,xm r v A y j _ _ w hw u⟩
def tP {Q:Exit->Act->World->Prop} {w:World} {X:List Oper} (q:F.round=none) (D:P.follows .mixedOrders=true) (j:Region.lexB .any X.toArray=true) (y:lC X X.length=true) (h:wpQuietIn F n P X.toArray (λ w'=>∃n,w'=w.drewN n) (λ v=>∀w',(∃n,w'=w.drewN n)->Q .normal v w') X a):(Code.region id X.toArray true).wpIn (F.inRound r) n P Q a w:=by
 simp only[Region.lexB,Bool.and_eq_true]at j;refine wpIn_region_any D ?_;have E:=wpAnyQIn_lex (F:=F) (n:=n) (P:=P) (C:=λ w'=>∃n,w'=w.drewN n) (md:=.any) j.1 X 0 (Array.replicate X.length false) a (by simp) (by simpa using j.2) h
 have G:X.toArray.size=X.length:=by simp
 rw[G];exact xm (C:=λ w'=>∃n,w'=w.drewN n) r q y (λ v w' u A=>A w' u) X.length _ a _ ⟨1,rfl⟩ E
end
end
