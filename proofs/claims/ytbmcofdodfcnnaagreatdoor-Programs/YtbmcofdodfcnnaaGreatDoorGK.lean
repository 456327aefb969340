import Derived.WalkKit
import Derived.Deep.WholeRow
import Derived.Below
import Derived.Deep.AppendLies
import Derived.Lib.BufferWrite
import Derived.RangeFuncNested
import Derived.RangeFuncLeaves
import Derived.Sort.QuietIn
import Derived.TacticsIn
set_option linter.all false
set_option maxHeartbeats 400000000
set_option maxRecDepth 100000
namespace Go
def a2O (P:Program) (ops:Array Oper):List Nat->Act->World->Option (Act×World)
 | [],a,w=>some (a,w)
 | i::rest,a,w=>
  match ops[i]? with
  | none=>a2O P ops rest a w
  | some o=>
   if Region.wanted o (yielded ops a.tmps) then
    match (execOp a.eval o).run P w with
    | .ok (.value v) w'=>a2O P ops rest (a.put o.dst v) w'
    | .ok .skip w'=>a2O P ops rest (a.put o.dst undef) w'
    | _=>none
   else a2O P ops rest (a.put o.dst undef) w
theorem a3P {P:Program} {ops:Array Oper} {Q:Exit->Act->World->Prop}:∀(is:List Nat) (a:Act) (w:World) (a':Act) (w':World),
    a2O P ops is a w=some (a',w')->Q .normal a' w'->wpOps P ops Q is a w
 | [],a,w,a',w',h,q=>by simp[a2O]at h;obtain ⟨rfl,rfl⟩:=h;exact q
 | i::rest,a,w,a',w',h,q=>by
  unfold wpOps;unfold a2O at h
  cases ho:ops[i]? with
  | none=>simp only[ho]at h ⊢;exact a3P rest _ _ _ _ h q
  | some o=>
   simp only[ho]at h ⊢;by_cases hw:Region.wanted o (yielded ops a.tmps)=true
   ·simp only[hw,if_true]at h ⊢
    refine Or.inl ?_;unfold Oper.wp Oper.upon
    split at h
    ·rename_i v w1 hr;rw[hr];exact a3P rest _ _ _ _ h q
    ·rename_i w1 hr;rw[hr];exact a3P rest _ _ _ _ h q
    ·simp at h
   ·simp only[hw,if_false,Bool.false_eq_true]at h ⊢
    exact a3P rest _ _ _ _ h q
def a07 (P:Program):Code->Act->World->Option (Exit×Act×World)
 | .skip,a,w=>some (.normal,a,w)
 | .region _ ops false,a,w=>
  match a2O P ops (List.range ops.size) a w with
  | some (a',w')=>some (.normal,a',w')
  | none=>none
 | .seq x y,a,w=>
  match a07 P x a w with
  | some (.normal,a',w')=>a07 P y a' w'
  | r=>r
 | .cond c x y,a,w=>
  match a.eval c with
  | .bool true=>a07 P x a w
  | .bool false=>a07 P y a w
  | _=>none
 | .block id c,a,w=>
  match a07 P c a w with
  | some (.exit id',a',w')=>if id'=id then some (.normal,a',w') else some (.exit id',a',w')
  | r=>r
 | .exit id,a,w=>some (.exit id,a,w)
 | .ret,a,w=>some (.ret,a,w)
 | _,_,_=>none
theorem a6Z {P:Program}:∀(c:Code) {Q:Exit->Act->World->Prop} (a:Act) (w:World) (e:Exit) (a':Act) (w':World),
    a07 P c a w=some (e,a',w')->Q e a' w'->c.wp P Q a w
 | .skip,Q,a,w,e,a',w',h,q=>by simp[a07]at h;obtain ⟨rfl,rfl,rfl⟩:=h;exact wp_skip q
 | .region _ ops false,Q,a,w,e,a',w',h,q=>by
  simp only[a07]at h
  split at h
  ·rename_i a1 w1 hr
   simp at h;obtain ⟨rfl,rfl,rfl⟩:=h;exact wp_region (a3P _ _ _ _ _ hr q)
  ·simp at h
 | .region _ ops true,Q,a,w,e,a',w',h,q=>by simp[a07]at h
 | .seq x y,Q,a,w,e,a',w',h,q=>by
  simp only[a07]at h;refine wp_seq ?_
  split at h
  ·rename_i a1 w1 hr
   exact a6Z x a w _ a1 w1 hr (a6Z y a1 w1 e a' w' h q)
  ·rename_i hn
   refine a6Z x a w e a' w' h ?_
   cases e with
   | normal=>exact absurd h (hn a' w')
   | _=>exact q
 | .cond c x y,Q,a,w,e,a',w',h,q=>by
  simp only[a07]at h
  split at h
  ·rename_i hc;exact wp_cond_true hc (a6Z x a w e a' w' h q)
  ·rename_i hc;exact wp_cond_false hc (a6Z y a w e a' w' h q)
  ·simp at h
 | .block id c,Q,a,w,e,a',w',h,q=>by
  simp only[a07]at h;refine wp_block ?_
  split at h
  ·rename_i id' a1 w1 hr
   refine a6Z c a w _ a1 w1 hr ?_;unfold Exit.inBlock
   split at h
   ·simp at h;obtain ⟨rfl,rfl,rfl⟩:=h;rename_i hi;simp[hi];exact q
   ·simp at h;obtain ⟨rfl,rfl,rfl⟩:=h;rename_i hi;simp[hi];exact q
  ·rename_i hn
   refine a6Z c a w e a' w' h ?_
   cases e with
   | exit id'=>exact absurd h (hn id' a' w')
   | _=>exact q
 | .exit id,Q,a,w,e,a',w',h,q=>by simp[a07]at h;obtain ⟨rfl,rfl,rfl⟩:=h;exact wp_exit q
 | .ret,Q,a,w,e,a',w',h,q=>by simp[a07]at h;obtain ⟨rfl,rfl,rfl⟩:=h;exact wp_ret q
 | .loop _,Q,a,w,e,a',w',h,q=>by simp[a07]at h
 | .rangeFunc ..,Q,a,w,e,a',w',h,q=>by simp[a07]at h
 | .scope _,Q,a,w,e,a',w',h,q=>by simp[a07]at h
 | .label _,Q,a,w,e,a',w',h,q=>by simp[a07]at h
 | .goto _,Q,a,w,e,a',w',h,q=>by simp[a07]at h
 | .refuse _,Q,a,w,e,a',w',h,q=>by simp[a07]at h
theorem b2v {P:Program} {f:FuncId} {fn:Func} {c:Code} {args:Array Value} {w:World} (v:Value) (w':World)
    (hf:P.funcs[f]?=some fn) (hb:fn.body=some c)
    (h:(a07 P c { tmps:=args++Array.replicate (fn.ntmps-args.size) undef,defers:=[] } w).map (fun r=>(r.1,r.2.1.defers,r.2.2,(results fn r.2.1.tmps).run P r.2.2))=some (.ret,[],w',.ok v w')):
    Calls P f args w fun e w1=>e=.returned v/\w1=w':=by
 refine calls_of_wp hf hb ?_
 cases hr:a07 P c { tmps:=args++Array.replicate (fn.ntmps-args.size) undef,defers:=[] } w with
 | none=>simp[hr]at h
 | some r=>
  simp only[hr,Option.map_some,Option.some.injEq,Prod.mk.injEq]at h;obtain ⟨h1,h2,h3,h4⟩:=h;refine a6Z c _ w r.1 r.2.1 r.2.2 hr ?_;rw[h1];exact ⟨h2,v,by rw[h4,h3],rfl,h3⟩
theorem a1Q {P:Program} {ops:Array Oper} {Q:Exit->Act->World->Prop} {is2:List Nat}:∀(is:List Nat) (a:Act) (w:World) (a':Act) (w':World),
    a2O P ops is a w=some (a',w')->wpOps P ops Q is2 a' w'->wpOps P ops Q (is++is2) a w
 | [],a,w,a',w',h,q=>by simp[a2O]at h;obtain ⟨rfl,rfl⟩:=h;exact q
 | i::rest,a,w,a',w',h,q=>by
  rw[List.cons_append];unfold wpOps;unfold a2O at h
  cases ho:ops[i]? with
  | none=>simp only[ho]at h ⊢;exact a1Q rest _ _ _ _ h q
  | some o=>
   simp only[ho]at h ⊢;by_cases hw:Region.wanted o (yielded ops a.tmps)=true
   ·simp only[hw,if_true]at h ⊢
    refine Or.inl ?_;unfold Oper.wp Oper.upon
    split at h
    ·rename_i v w1 hr;rw[hr];exact a1Q rest _ _ _ _ h q
    ·rename_i w1 hr;rw[hr];exact a1Q rest _ _ _ _ h q
    ·simp at h
   ·simp only[hw,if_false,Bool.false_eq_true]at h ⊢
    exact a1Q rest _ _ _ _ h q
theorem b0D {P:Program} {fn:Func} {s:Nat} {t:TypeId} (h:fn.results=#[.cell s t]) (tmps:Array Value) (a:Addr) (w':World) (v:Value) (ht:tmps.getD s undef=.pointer (some a)) (hv:(loadVar t a).run P w'=.ok v w'):(results fn tmps).run P w'=.ok v w':=by
 unfold results;rw[h];have ht':tmps[s]?.getD undef=.pointer (some a):=by simpa using ht
 simp[ht',hv,asAddr]
theorem a5s {P:Program} {f:FuncId} {fn:Func} {id0 id1:Nat} {ops0 ops1:Array Oper} {n:Nat} {o:Oper} {t:TypeId} {y s:Nat} {m:Nat} {e:TypeId} {C Z:Array Value} {w:World}
    (hf:P.funcs[f]?=some fn) (hb:fn.body=some (.seq (.region id0 ops0 false) (.seq (.region id1 ops1 false) .ret)))
    (h:((a2O P ops0 (List.range ops0.size) { tmps:=Array.replicate fn.ntmps undef,defers:=[] } w).bind fun r0=>
        (a2O P ops1 (List.range n) r0.1 r0.2).map fun r=>(r.1.tmps.getD s undef,r.1.tmps.getD y undef,r.1.defers,r.2))=some (.pointer (some ⟨w.heap.size,0,none⟩),.agg C,[],w.alloc (.cells Z t)))
    (hn:ops1.size=n+1) (ho:ops1[n]?=some o) (hop:o.op=.store t (.tmp s) (.tmp y)) (hg:o.guard=none) (hd:o.dst=none)
    (hr:fn.results=#[.cell s t])
    (hi:(P.info? t).map (·.size)=some C.size) (hz:Z.size=C.size) (h1:C.all (·.oneCell')=true) (hu:P.underlying t=some (.array m e)):
    Calls P f #[] w fun e w1=>e=.returned (.agg C)/\w1=w.alloc (.cells C t):=by
 refine calls_of_wp hf hb ?_
 cases h0:a2O P ops0 (List.range ops0.size) { tmps:=Array.replicate fn.ntmps undef,defers:=[] } w with
 | none=>simp[h0]at h
 | some r0=>
  obtain ⟨a1,w1⟩:=r0;simp only[h0,Option.bind_some]at h
  cases h2:a2O P ops1 (List.range n) a1 w1 with
  | none=>simp[h2]at h
  | some r=>
   obtain ⟨a2,w2⟩:=r;simp only[h2,Option.map_some,Option.some.injEq,Prod.mk.injEq]at h;obtain ⟨e1,e2,e3,rfl⟩:=h;refine wp_seq (wp_region ?_)
   have h0':a2O P ops0 (List.range ops0.size) { tmps:=#[]++Array.replicate (fn.ntmps-(#[]:Array Value).size) undef,defers:=[] } w=some (a1,w1):=by
    simpa using h0
   refine a3P _ _ _ _ _ h0' ?_;refine wp_seq (wp_region ?_);rw[hn,List.range_succ];refine a1Q _ _ _ _ _ h2 ?_;unfold wpOps;simp only[ho];(have hw:Region.wanted o (yielded ops1 a2.tmps)=true:=by simp[Region.wanted,hg]);simp only[hw,if_true];refine Or.inl ?_;unfold Oper.wp Oper.upon
   have hx:(execOp a2.eval o).run P (w.alloc (.cells Z t))=.ok .skip (w.alloc (.cells C t)):=by
    have:=run_storeAt_new (P:=P) w t Z C hi hz h1;unfold execOp;rw[hop];simp[Act.eval,e1,e2,this]
   rw[hx];(have hput:a2.put o.dst undef=a2:=by rw[hd];rfl);show wpOps P ops1 _ [] (a2.put o.dst undef) (w.alloc (.cells C t));rw[hput];unfold wpOps;refine wp_ret ?_;exact ⟨e3,.agg C,b0D hr _ _ _ _ e1 (run_loadVar_new w t C m e hu hi),rfl,rfl⟩
open Go.RowKit
def CellsAt (b:Nat) (vs:List Value) (w:World):Prop:=b<w.heap.size/\(∀q,w.frozen? ⟨b,q,none⟩=false)/\∀j v,vs[j]?=some v->w.cell? ⟨b,j,none⟩=some v
theorem CellsAt.step {b:Nat} {vs:List Value} {w w':World} {B:Nat} (h:CellsAt b vs w) (hB:Below B w w') (hb:b<B):CellsAt b vs w':=
 ⟨by have:=hB.size;have:=h.1;omega,fun q=>(hB.frozen (p:=⟨b,q,none⟩) hb).trans (h.2.1 q),fun j v hj=>(hB.cell (p:=⟨b,j,none⟩) hb).trans (h.2.2 j v hj)⟩
theorem CellsAt.next {b:Nat} {vs:List Value} {w w':World} (h:CellsAt b vs w) (hB:Below w.heap.size w w'):CellsAt b vs w':=h.step hB h.1
theorem CellsAt.alloc {b:Nat} {vs:List Value} {w:World} (h:CellsAt b vs w) (o:Obj):CellsAt b vs (w.alloc o):=h.next ((Below.refl _ _).alloc (Nat.le_refl _) _)
theorem CellsAt.new (w:World) (vs:List Value) (t:TypeId):CellsAt w.heap.size vs (w.alloc (.cells vs.toArray t)):=by
 refine ⟨by simp,fun q=>?_,fun j v hj=>?_⟩
 ·unfold World.frozen?
  have:({ block:=w.heap.size,off:=q }:Addr).block=w.heap.size:=rfl;rw[this,heap_alloc_last];simp
 ·rw[cell_of_row _ _ j _ t (0,0) (heap_alloc_last w _)]
  simpa using hj
structure a3c (c:Nat) (g:Option Nat) (w w':World):Prop where
 os:w'.os=w.os
 tape:w'.tape=w.tape
 output:w'.output=w.output
 size:w.heap.size<=w'.heap.size
 block:∀b,b<w.heap.size->b≠c->g≠some b->w'.heap[b]?=w.heap[b]?
theorem a3c.refl (c:Nat) (g:Option Nat) (w:World):a3c c g w w:=⟨rfl,rfl,rfl,Nat.le_refl _,fun _ _ _ _=>rfl⟩
theorem a3c.of_below {c:Nat} {g:Option Nat} {w w':World} (h:Below w.heap.size w w'):a3c c g w w':=⟨h.os,h.tape,h.output,h.size,fun b hb _ _=>h.block b hb⟩
theorem a3c.of_grown {c:Nat} {g:Option Nat} {w w':World} (h:w.grownBy w' g):a3c c g w w':=⟨h.os,h.tape,h.output,h.size,fun b hb _ hg=>h.block b hb (fun e=>hg e.symm)⟩
theorem a3c.trans {c:Nat} {g:Option Nat} {a b d:World} (h:a3c c g a b) (k:a3c c g b d):a3c c g a d:=
 ⟨k.os.trans h.os,k.tape.trans h.tape,k.output.trans h.output,Nat.le_trans h.size k.size,fun i hi hc hg=>(k.block i (Nat.lt_of_lt_of_le hi h.size) hc hg).trans (h.block i hi hc hg)⟩
theorem a3c.setCell (c:Nat) (g:Option Nat) (w:World) (q:Nat) (v:Value):a3c c g w (w.setCell ⟨c,q,none⟩ v):=by
 refine ⟨rfl,rfl,rfl,?_,fun b _ hc _=>Below.heap_setCell _ _ _ _ (fun e=>hc e)⟩
 simp[World.setCell]
theorem a3c.below {c:Nat} {g:Option Nat} {B:Nat} {w0 w w':World} (h:a3c c g w w') (h0:Below B w0 w) (hc:B<=c) (hg:∀b,g=some b->B<=b) (hB:B<=w0.heap.size):Below B w0 w':=
 ⟨h.os.trans h0.os,h.tape.trans h0.tape,h.output.trans h0.output,Nat.le_trans h0.size h.size,fun k hk=>by
  rw[h.block k (Nat.lt_of_lt_of_le (Nat.lt_of_lt_of_le hk hB) h0.size) (by omega) (fun e=>by have:=hg k e;omega)];exact h0.block k hk⟩
theorem CellsAt.keeps {c:Nat} {g:Option Nat} {w w':World} {b:Nat} {vs:List Value} (h:CellsAt b vs w) (hk:a3c c g w w') (hc:b≠c) (hg:g≠some b):CellsAt b vs w':=by
 have e:=hk.block b h.1 hc hg;exact ⟨Nat.lt_of_lt_of_le h.1 hk.size,fun q=>(World.frozen?_of_block (a:=⟨b,q,none⟩) e).trans (h.2.1 q),fun j v hj=>(World.cell?_of_block (a:=⟨b,j,none⟩) e).trans (h.2.2 j v hj)⟩
theorem a0u {w w':World} {base:Nat} {e:TypeId} {size:Nat} {v:Value} {n:Nat} {xs:List Value} (h:w.ownsRow base e size v n xs) (hb:∀g,v.ownBlock=some g->w'.heap[g]?=w.heap[g]?):w'.ownsRow base e size v n xs:=by
 obtain ⟨h1,h2|⟨g,cap,cur,hv,hg,hc,h3⟩⟩:=h
 ·exact ⟨h1,.inl h2⟩
 ·exact ⟨h1,.inr ⟨g,cap,cur,hv,hg,(hb g (by rw[hv];rfl)).trans hc,h3⟩⟩
theorem CellsAt.set {b:Nat} {vs:List Value} {w:World} (h:CellsAt b vs w) (q:Nat) (v:Value) (hq:q<vs.length):CellsAt b (vs.set q v) (w.setCell ⟨b,q,none⟩ v):=by
 refine ⟨by simpa[World.setCell] using h.1,fun p=>?_,fun j u hj=>?_⟩
 ·rw[World.frozen?_setCell];exact h.2.1 p
 ·by_cases e:j=q
  ·subst e
   rw[List.getElem?_set_self hq]at hj;(cases hj);exact World.cell?_setCell_same _ _ _ (h.2.2 j _ (List.getElem?_eq_getElem hq))
  ·rw[List.getElem?_set_ne (fun e'=>e e'.symm)]at hj
   (rw[World.cell?_setCell_other _ _ _ _ (by intro h';exact e (by injection h' with _ h2;exact h2.symm))]);exact h.2.2 j u hj
variable {T : TypeId} {b : Nat} {mem regs : List Int} {pc : Int} {w : World}
structure Kept (b:Nat) (w w':World):Prop where
 os:w'.os=w.os
 tape:w'.tape=w.tape
 output:w'.output=w.output
 size:w.heap.size<=w'.heap.size
 block:∀k,k<w.heap.size->k≠b->w'.heap[k]?=w.heap[k]?
theorem Kept.refl (b:Nat) (w:World):Kept b w w:=⟨rfl,rfl,rfl,Nat.le_refl _,fun _ _ _=>rfl⟩
theorem Kept.of_below {w w':World} (h:Below w.heap.size w w') (b:Nat):Kept b w w':=⟨h.os,h.tape,h.output,h.size,fun k hk _=>h.block k hk⟩
theorem Kept.trans {b:Nat} {x y z:World} (h:Kept b x y) (k:Kept b y z):Kept b x z:=
 ⟨k.os.trans h.os,k.tape.trans h.tape,k.output.trans h.output,Nat.le_trans h.size k.size,fun i hi hb=>(k.block i (Nat.lt_of_lt_of_le hi h.size) hb).trans (h.block i hi hb)⟩
theorem Kept.setCell (b:Nat) (w:World) (q:Nat) (v:Value):Kept b w (w.setCell ⟨b,q,none⟩ v):=by
 refine ⟨rfl,rfl,rfl,?_,fun k _ hk=>Below.heap_setCell _ _ _ _ (fun e=>hk e)⟩
 simp[World.setCell]
theorem Kept.below {b B:Nat} {w0 w w':World} (h:Kept b w w') (h0:Below B w0 w) (hb:B<=b) (hB:B<=w0.heap.size):Below B w0 w':=
 ⟨h.os.trans h0.os,h.tape.trans h0.tape,h.output.trans h0.output,Nat.le_trans h0.size h.size,fun k hk=>by
  rw[h.block k (Nat.lt_of_lt_of_le (Nat.lt_of_lt_of_le hk hB) h0.size) (by omega)];exact h0.block k hk⟩
variable {F : Fence} {n : Nat} {P : Program}
def c89 {α:Type} (F:Fence) (n:Nat) (P:Program) (g:Nat) (lb:Array Value) (encs:α->Array Value) (Kp:World->World->Prop) (S Sp:List α->Prop) (N:Nat) (w:World):Prop:=
 ∀(l:Nat) (J Jx:List α->World->Prop) (W:World),Below w.heap.size w W->OwnFrom W.heap.size J->OwnFrom W.heap.size Jx->
  (∀pre x W1,J pre W1->pre.length<N->YieldAt F (n-1) P l (encs x) W1 fun e W'=>
   (e=.returned (.bool true)/\J (pre++[x]) W'/\Kp W1 W'/\KeepsFrom W.heap.size W1 W')\/(e=.returned (.bool false)/\Jx (pre++[x]) W'/\KeepsFrom W.heap.size W1 W'))->
  J [] W->
  CallsIn F n P g (#[.func (.yield l) #[] #[]]++lb) W fun e W'=>(∃v,e=.returned v)/\((∃xs,S xs/\J xs W')\/(∃pre,Sp pre/\Jx pre W'))
theorem a2i {β:Type} {B k:Nat} {o:Obj} (hk:k<B):OwnFrom B (fun (_:β) W=>W.heap[k]?=some o):=fun _ A W row h hg hr=>
 (hg.block k (Array.getElem?_eq_some_iff.1 h).1 (fun e=>by have:=(hr k e.symm).1;omega)).trans h
theorem c5p {β:Type} {B:Nat} {γ:Type} {I:γ->β->World->Prop} (h:∀c,OwnFrom B (I c)):OwnFrom B (fun s W=>∃c,I c s W):=fun s A W row ⟨c,hc⟩ hg hr=>⟨c,h c s A W row hc hg hr⟩
theorem a5F {β:Type} {B B':Nat} {I:β->World->Prop} (h:OwnFrom B I) (hB:B<=B'):OwnFrom B' I:=fun s A W row hs hg hr=>h s A W row hs hg (fun r e=>⟨Nat.le_trans hB (hr r e).1,(hr r e).2⟩)
theorem a5k {B B':Nat} {W W':World} (h:KeepsFrom B W W') (hB:B<=B'):KeepsFrom B' W W':=⟨h.size,fun k o hk=>h.same k o (Nat.le_trans hB hk)⟩
theorem b1X {B l:Nat} (W:World) (o':Obj) (hl:l<B):KeepsFrom B W (W.putObj l o'):=KeepsFrom.of_grownBy (grownBy_putObj' W l o') (fun j e=>by cases e;exact hl)
theorem a9p {α:Type} {g:Operand} {ps:Array Tmp} {assign body:Code} {Q:Exit->Act->World->Prop} {a:Act} {w:World}
    (hro:F.round=none) (h1:1<=n) {gf:Nat} {lb:Array Value} (hg:a.eval g=.func (.func gf) #[] lb) (hFg:F.fn gf) (eg:∀args w,(callFunc gf args).run P w=.ok (.enter gf args) w)
    {encs:α->Array Value} {Kp:World->World->Prop} {S Sp:List α->Prop} {N:Nat} {w0:World} (hseq:c89 F (n-1) P gf lb encs Kp S Sp N w0)
    (hKt:∀{A B C:World},Kp A B->Kp B C->Kp A C) (hKb:∀(W:World) (l:Nat) (o o':Obj),W.heap[l]?=some o->o.isCells=false->Kp W (W.putObj l o')) (hb0:Below w0.heap.size w0 w) (hps:∀x,(encs x).size=ps.size)
    (I:List α->World->Prop) (Ix:Code->List α->World->Prop) (hI:OwnFrom w.heap.size I) (hIx:∀c,OwnFrom w.heap.size (Ix c)) (h0:I [] w) (Ax:α->Act->World->Prop) (hAx:∀x a',OwnFrom w.heap.size (fun (_:Unit) W=>Ax x a' W))
    (hassign:∀(l:Nat) (pre:List α) (x:α) (W:World) (K:Act->World->Prop),I pre W->(∀a' W',KeepsFrom w.heap.size W W'->Kp W W'->I pre W'->Ax x a' W'->K a' W')->
     assign.wpIn (F.inRound l) (n-1-1) P (Exit.then K (fun _ _ _=>False)) { tmps:=(ps.zip (encs x)).foldl (fun t (p,v)=>t.setIfInBounds p v) a.tmps,defers:=[] } W)
    (hbody:∀(l:Nat) (pre:List α) (x:α) (a':Act) (W:World),I pre W->Ax x a' W->pre.length<N->body.wpIn (F.inRound l) (n-1-1) P (ownPostG w.heap.size Kp I Ix (pre++[x]) W) a' W)
    (hdone:∀(D:Nat) (xs:List α) (W:World),w.heap.size<=D->S xs->I xs W->W.heap[D]?=some (.deferred (some []))->Q .normal { a with defers:={ target:=.collected D,args:=#[] }::a.defers } W)
    (hstop:∀(D:Nat) (c:Code) (pre:List α) (W:World),w.heap.size<=D->Sp pre->Ix c pre W->W.heap[D]?=some (.deferred (some []))->c.wpIn F n P Q { a with defers:={ target:=.collected D,args:=#[] }::a.defers } W):
    (Code.rangeFunc g ps assign body).wpIn F n P Q a w:=by
 refine wpIn_rangeFunc fun fn hfn=>?_
 rw[hro];obtain ⟨R,hR⟩:∃R:LoopState->Option Code->Loop,R=fun st pe=>{ state:=st,pending:=pe,fn,tmps:=a.tmps,params:=ps,assign,body,defers:=w.heap.size }:=⟨_,rfl⟩
 obtain ⟨V,hV⟩:∃V,(w.alloc (.deferred (some []))).alloc (.loop (R .ready none))=V:=⟨_,rfl⟩;have hVs:V.heap.size=w.heap.size+2:=by rw[<-hV];simp
 have vL:V.heap[w.heap.size+1]?=some (.loop (R .ready none)):=by
  rw[<-hV];have:=World.alloc_heap_new (w.alloc (.deferred (some []))) (.loop (R .ready none));rwa[World.size_alloc]at this
 have vD:V.heap[w.heap.size]?=some (.deferred (some [])):=by
  rw[<-hV];exact (Below.heap_alloc _ _ _ (by simp)).trans (World.alloc_heap_new w _)
 have vI:I [] V:=by rw[<-hV];exact hI.alloc _ (hI.alloc _ h0)
 have vB:Below w0.heap.size w0 V:=by
  rw[<-hV];exact hb0.trans ((((Below.refl _ w).alloc (Nat.le_refl _) _).alloc (by simp) _).mono hb0.size)
 refine ⟨w.heap.size+1,[{ target:=.collected w.heap.size,args:=#[] }],V,{ target:=.fn (.func gf) lb,args:=#[.func (.yield (w.heap.size+1)) #[] #[]] },V,gf,
  #[.func (.yield (w.heap.size+1)) #[] #[]]++lb,V,?_,?_,?_,?_,fun _=>h1,?_⟩
 ·rw[<-hV,hR];exact run_enterLoop_outer _ _ _ _ _
 ·simp only[resolve,hg]
  simp[go_sem]
 ·intro f' hf';simp[Target.leads]at hf';subst hf';exact hFg
 ·simp[invoke,go_sem,eg]
 have oI:OwnFrom V.heap.size (fun (pre:List α) W=>I pre W/\W.heap[w.heap.size+1]?=some (.loop (R .ready none))/\W.heap[w.heap.size]?=some (.deferred (some []))):=
  OwnFrom.and (a5F hI (by omega)) (OwnFrom.and (a2i (by omega)) (a2i (by omega)))
 have oX:OwnFrom V.heap.size (fun (pre:List α) W=>∃c,Ix c pre W/\W.heap[w.heap.size+1]?=some (.loop (R .done (some c)))/\W.heap[w.heap.size]?=some (.deferred (some []))):=
  c5p fun c=>OwnFrom.and (a5F (hIx c) (by omega)) (OwnFrom.and (a2i (by omega)) (a2i (by omega)))
 refine (hseq (w.heap.size+1) _ _ V vB oI oX (fun pre x W ⟨hi,hl,hk⟩ hlen=>?_) ⟨vI,vL,vD⟩).mono ?_
 ·-- one round
  have hy:=run_yield (P:=P) (args:=encs x) hl (by rw[hR];exact hps x)
  rw[hR]at hy;refine ⟨fn,_,assign,body,hy,roundIn_of_wpIn hfn (hassign _ pre x W _ hi fun a' Z hkf hkp hiZ hax=>?_)⟩
  have zL:=hkf.same _ _ (by omega) hl rfl
  have zD:=hkf.same _ _ (Nat.le_refl _) hk rfl;have zlt:w.heap.size+1<Z.heap.size:=(Array.getElem?_eq_some_iff.1 zL).1;refine ⟨_,run_beginRound zL (by rw[hR]),?_⟩
  have bL:(Z.putObj (w.heap.size+1) (.loop { R .ready none with state:=.busy })).heap[w.heap.size+1]?=some (.loop { R .ready none with state:=.busy }):=World.putObj_heap_same zlt
  have bD:(Z.putObj (w.heap.size+1) (.loop { R .ready none with state:=.busy })).heap[w.heap.size]?=some (.deferred (some [])):=(World.putObj_heap_other (by omega)).trans zD
  have bK:Kp Z (Z.putObj (w.heap.size+1) (.loop { R .ready none with state:=.busy })):=hKb _ _ _ _ zL rfl
  refine wpIn_mono (hbody _ pre x a' _ (hI.putObj _ hiZ (by omega) zL rfl) ((hAx x a').putObj (s:=()) _ hax (by omega) zL rfl) hlen) ?_
  have keep:∀(Y:World) (o':Obj),KeepsFrom w.heap.size (Z.putObj (w.heap.size+1) (.loop { R .ready none with state:=.busy })) Y->KeepsFrom V.heap.size W (Y.putObj (w.heap.size+1) o'):=fun Y o' hY=>
   (a5k hkf (by omega)).trans ((b1X _ _ (by omega)).trans ((a5k hY (by omega)).trans (b1X _ _ (by omega))))
  have fin:∀(jump:Option Code) (Y:World),KeepsFrom w.heap.size (Z.putObj (w.heap.size+1) (.loop { R .ready none with state:=.busy })) Y->
      Y.heap[w.heap.size+1]?=some (.loop { R .ready none with state:=.busy })/\∃Y',Y'=Y.putObj (w.heap.size+1) (.loop (R (if jump.isNone then .ready else .done) jump))/\(Instr.endRound (w.heap.size+1) jump).run P Y=.ok (.bool jump.isNone) Y'/\
       Y'.heap[w.heap.size+1]?=some (.loop (R (if jump.isNone then .ready else .done) jump))/\Y'.heap[w.heap.size]?=some (.deferred (some [])):=fun jump Y hY=>by
   (have yL:=hY.same _ _ (by omega) bL rfl);(refine ⟨yL,_,rfl,?_,World.putObj_heap_same (Array.getElem?_eq_some_iff.1 yL).1,(World.putObj_heap_other (by omega)).trans (hY.same _ _ (Nat.le_refl _) bD rfl)⟩);have:=run_endRound (P:=P) jump yL;rw[hR]at this ⊢;exact this
  rintro e a3 Y hp
  cases e with
  | normal=>
   obtain ⟨hkY,hpY,hiY⟩:=hp;obtain ⟨yL,_,rfl,hr,rL,rD⟩:=fin none Y hkY;exact ⟨_,_,hr,.inl ⟨rfl,⟨hI.putObj _ hiY (by omega) yL rfl,rL,rD⟩,hKt hkp (hKt (hKt bK hpY) (hKb _ _ _ _ yL rfl)),keep _ _ hkY⟩⟩
  | ret=>
   obtain ⟨hkY,hiY⟩:=hp;obtain ⟨yL,_,rfl,hr,rL,rD⟩:=fin (some .ret) Y hkY;exact ⟨_,_,hr,.inr ⟨rfl,⟨.ret,(hIx _).putObj _ hiY (by omega) yL rfl,rL,rD⟩,keep _ _ hkY⟩⟩
  | exit id=>
   obtain ⟨hkY,hiY⟩:=hp;obtain ⟨yL,_,rfl,hr,rL,rD⟩:=fin (some (.exit id)) Y hkY;exact ⟨_,_,hr,.inr ⟨rfl,⟨.exit id,(hIx _).putObj _ hiY (by omega) yL rfl,rL,rD⟩,keep _ _ hkY⟩⟩
  | goto t=>
   obtain ⟨hkY,hiY⟩:=hp;obtain ⟨yL,_,rfl,hr,rL,rD⟩:=fin (some (.goto t)) Y hkY;exact ⟨_,_,hr,.inr ⟨rfl,⟨.goto t,(hIx _).putObj _ hiY (by omega) yL rfl,rL,rD⟩,keep _ _ hkY⟩⟩
  | panic ch=>exact hp.elim
  | outgrown=>exact hp.elim
 ·-- behind the iterator
  rintro e Y ⟨⟨v,rfl⟩,(⟨xs,hS,hi,hl,hk⟩|⟨pre,hSp,c,hi,hl,hk⟩)⟩
  ·obtain ⟨o',hE⟩:∃o',(Instr.endLoop (w.heap.size+1)).run P Y=.ok none (Y.putObj (w.heap.size+1) o'):=⟨_,by
    (have:=run_endLoop (P:=P) hl (by rw[hR];simp));rw[hR]at this;exact this⟩
   exact ⟨none,_,hE,hdone _ xs _ (Nat.le_refl _) hS (hI.putObj _ hi (by omega) hl rfl) ((World.putObj_heap_other (by omega)).trans hk)⟩
  ·obtain ⟨o',hE⟩:∃o',(Instr.endLoop (w.heap.size+1)).run P Y=.ok (some c) (Y.putObj (w.heap.size+1) o'):=⟨_,by
    (have:=run_endLoop (P:=P) hl (by rw[hR];simp));rw[hR]at this;exact this⟩
   exact ⟨some c,_,hE,hstop _ c pre _ (Nat.le_refl _) hSp ((hIx c).putObj _ hi (by omega) hl rfl) ((World.putObj_heap_other (by omega)).trans hk)⟩
section
variable {F : Fence} {n : Nat} {P : Program} {ops : Array Oper} {md : Region.Mode} {C : World → Prop}
theorem b6T (r:Option Nat) (ρ:Operand->Value) (o:Oper) (h:∀c,o.op≠.defer c):Oper.semAt r ρ o=execOp ρ o:=by
 cases r with
 | none=>exact Oper.semAt_none ..
 | some l=>exact Oper.semAt_some l _ _ h
theorem b2Z {o:Oper} {a:Act} {K:Act->World->Prop} {Q:Exit->Act->World->Prop} {w:World} {v:Value} (l:Nat):∀r,Oper.quietUponIn F n P C w v r->o.uponIn F n P a K Q r->o.uponIn (F.inRound l) n P a K Q r
 | .ok x _,hq,h=>by
  cases x with
  | value _=>exact h
  | skip=>exact h
  | enter _ _=>exact h
  | _=>simp only[Oper.quietUponIn]at hq
 | .halt _ _,hq,_=>by simp only[Oper.quietUponIn]at hq
theorem Oper.wpIn_of_quietR {o:Oper} {a:Act} {K:Act->Prop} {K':Act->World->Prop} {Q':Exit->Act->World->Prop} {w:World} (l:Nat) (hro:F.round=none) (hd:∀c,o.op≠.defer c) (hw:C w) (h:∀a w',C w'->K a->K' a w')
    (ha:o.askedIn F P a C) (hh:o.quietIn F n P a C K):o.wpIn (F.inRound l) n P a w K' Q':=by
 have h1:o.wpIn F n P a w K' Q':=Oper.wpIn_of_quiet hro hw h ha hh;obtain ⟨v,hv,_⟩:=hh;have h2:=hv w hw;unfold Oper.quietAtIn at h2;unfold Oper.wpIn at h1 ⊢;rw[b6T _ _ _ hd]at h1 ⊢;exact ⟨h1.1,b2Z l _ h2 h1.2⟩
def Oper.plainB (o:Oper):Bool:=match o.op with | .defer _=>false|_=>true
def a7e (l:List Oper):Nat->Bool
 | 0=>true
 | i+1=>a7e l i&&match l[i]? with
  | none=>false
  | some o=>o.plainB&&o.after.all (fun e=>decide (e.on<i))&&(match o.guard with|none=>true|some (j,_)=>decide (j<i))
theorem a4f {l:List Oper}:∀{m:Nat},a7e l m=true->∀i,i<m->∃o,l[i]?=some o/\(∀c,o.op≠.defer c)/\(∀e∈o.after,e.on<i)/\∀j b,o.guard=some (j,b)->j<i
 | 0,_,i,hi=>by omega
 | m+1,h,i,hi=>by
  rw[a7e,Bool.and_eq_true]at h;rcases Nat.lt_or_ge i m with hlt|hge
  ·exact a4f h.1 i hlt
  ·have e:i=m:=by omega
   subst e;have h2:=h.2
   split at h2
   ·cases h2
   ·rename_i o ho
    simp only[Bool.and_eq_true]at h2;refine ⟨o,ho,fun c hc=>?_,fun e he=>?_,fun j b hg=>?_⟩
    ·have:=h2.1.1;unfold Oper.plainB at this;rw[hc]at this;cases this
    ·have:=Array.all_eq_true_iff_forall_mem.1 h2.1.2 e he;simpa using this
    ·have:=h2.2;rw[hg]at this;simpa using this
structure Lst (m:Nat) (L L':Array Bool):Prop where
 s1:L.size=m+1
 s2:L'.size=m
 at1:∀i,i<m->L[i]?=L'[i]?
 last:L[m]?=some false
theorem Lst.set {m:Nat} {L L':Array Bool} (h:Lst m L L') (i:Nat) (hi:i<m):Lst m (L.setIfInBounds i true) (L'.setIfInBounds i true):=by
 refine ⟨by simp[h.s1],by simp[h.s2],fun j hj=>?_,?_⟩
 ·have:=h.at1 j hj
  simp only[Array.getElem?_setIfInBounds,h.s1,h.s2];by_cases e:i=j
  ·subst e;simp[hi,Nat.lt_succ_of_lt hi]
  ·simp[e,this]
 ·rw[Array.getElem?_setIfInBounds]
  rw[if_neg (by omega)]
  exact h.last
theorem Lst.getD {m:Nat} {L L':Array Bool} (h:Lst m L L') (i:Nat) (hi:i<m) (d:Bool):L.getD i d=L'.getD i d:=by
 have:=h.at1 i hi;have h1:i<L.size:=by rw[h.s1];omega
 have h2:i<L'.size:=by rw[h.s2];omega
 rw[Array.getElem?_eq_getElem h1,Array.getElem?_eq_getElem h2]at this;simp[Array.getD,h1,h2,Option.some.inj this]
theorem a1F {md:Region.Mode} {ops:Array Oper} {L:Array Bool} {i:Nat}:i∈Region.ready md ops L↔i<ops.size/\L.getD i true=false/\∃o,ops[i]?=some o/\∀e∈o.after,Region.binds md e=true->L.getD e.on false=true:=by
 unfold Region.ready;rw[List.mem_filter,List.mem_range];simp only[Bool.and_eq_true,Bool.not_eq_true'];refine and_congr_right fun hi=>and_congr_right fun _=>?_
 rw[Array.getElem?_eq_getElem hi];simp only[Option.map_some,Option.getD_some,Option.some.injEq,exists_eq_left',Array.all_eq_true_iff_forall_mem,Bool.or_eq_true,Bool.not_eq_true']
 exact ⟨fun h e he hb=>(h e he).resolve_left (by simp[hb]),fun h e he=>by
  cases hb:Region.binds md e
  ·exact .inl rfl
  ·exact .inr (h e he hb)⟩
theorem a9w {md:Region.Mode} {l:List Oper} {L:Array Bool} (hs:L.size=l.length) (hb:a7e l l.length=true) (h:Region.ready md l.toArray L=[]):∀i,i<l.length->L.getD i true=true:=by
 intro i
 induction i using Nat.strongRecOn with
 | _ i ih=>
  intro hi
  cases hL:L.getD i true with
  | true=>rfl
  | false=>
   exfalso;obtain ⟨o,ho,_,he,_⟩:=a4f hb i hi
   have:i∈Region.ready md l.toArray L:=a1F.2 ⟨by simpa using hi,hL,o,by simpa using ho,fun e hm _=>by
    have h1:=he e hm;(have h2:=ih e.on h1 (by omega));(have h3:e.on<L.size:=by omega);simp[Array.getD,h3]at h2 ⊢;exact h2⟩
   rw[h]at this;cases this
def b22 (md:Region.Mode) (st:Oper) (m:Nat):Bool:=(List.range m).all fun i=>st.after.any fun e=>Region.binds md e&&e.on==i
theorem b5P {l:List Oper} {st:Oper} {md:Region.Mode} {Q:Exit->Act->World->Prop} (r:Nat) (hro:F.round=none) (hb:a7e (l++[st]) (l.length+1)=true) (hb':a7e l l.length=true) (hst:b22 md st l.length=true):
    ∀(fuel:Nat) (L L':Array Bool) (a:Act) (w:World),Lst l.length L L'->C w->
     wpAnyQIn F n P md l.toArray C (fun a'=>∀w',C w'->wpOpIn (F.inRound r) n P (l++[st]).toArray Q l.length (fun a w=>Q .normal a w) a' w') fuel L' a->
     wpAnyIn (F.inRound r) n P md (l++[st]).toArray Q (fuel+1) L a w:=by
 have old:∀{L L':Array Bool} {i:Nat},Lst l.length L L'->i<l.length->i∈Region.ready md (l++[st]).toArray L->i∈Region.ready md l.toArray L':=fun {L L' i} hL hi hr=>by
  obtain ⟨_,h1,o,ho,h2⟩:=a1F.1 hr;obtain ⟨o',ho',_,he,_⟩:=a4f hb' i hi
  have e:o=o':=by
   (have:(l++[st])[i]?=some o:=by simpa using ho);rw[List.getElem?_append_left hi,ho']at this;exact (Option.some.inj this).symm
  subst e;refine a1F.2 ⟨by simpa using hi,by rw[<-hL.getD i hi];exact h1,o,by simpa using ho',fun e hm hbd=>?_⟩
  rw[<-hL.getD e.on (by have:=he e hm;omega)]
  exact h2 e hm hbd
 have new:∀{L L':Array Bool} {i:Nat},Lst l.length L L'->i∈Region.ready md l.toArray L'->i<l.length/\i∈Region.ready md (l++[st]).toArray L:=fun {L L' i} hL hr=>by
  obtain ⟨hi,h1,o,ho,h2⟩:=a1F.1 hr;have hi:i<l.length:=by simpa using hi
  obtain ⟨o',ho',_,he,_⟩:=a4f hb' i hi
  have e:o=o':=by
   (have:l[i]?=some o:=by simpa using ho);rw[ho']at this;exact (Option.some.inj this).symm
  subst e;refine ⟨hi,a1F.2 ⟨by simp;omega,by rw[hL.getD i hi];exact h1,o,by simp only[List.getElem?_toArray];rw[List.getElem?_append_left hi];exact ho',fun e hm hbd=>?_⟩⟩
  rw[hL.getD e.on (by have:=he e hm;omega)]
  exact h2 e hm hbd
 have lastR:∀{L L':Array Bool},Lst l.length L L'->(l.length∈Region.ready md (l++[st]).toArray L↔∀i,i<l.length->L'.getD i true=true):=fun {L L'} hL=>by
  rw[a1F]
  constructor
  ·rintro ⟨_,_,o,ho,h⟩ i hi
   have e:o=st:=by
    (have:(l++[st])[l.length]?=some o:=by simpa using ho);rw[List.getElem?_append_right (Nat.le_refl _)]at this;simpa using this.symm
   subst e;have h1:=List.all_eq_true.1 hst i (List.mem_range.2 hi);obtain ⟨k,hk,h2⟩:=Array.any_eq_true.1 h1;simp only[Bool.and_eq_true,beq_iff_eq]at h2;have h3:=h _ (Array.getElem_mem hk) h2.1;rw[h2.2,hL.getD i hi]at h3;(have h4:i<L'.size:=by rw[hL.s2];exact hi);simp[Array.getD,h4]at h3 ⊢;exact h3
  ·intro h
   refine ⟨by simp,?_,st,by simp,fun e hm _=>?_⟩
   ·have h1:l.length<L.size:=by rw[hL.s1];omega
    have:=hL.last;rw[Array.getElem?_eq_getElem h1]at this;simp[Array.getD,h1,Option.some.inj this]
   ·obtain ⟨o,ho,_,he,_⟩:=a4f hb l.length (by omega)
    have e2:o=st:=by
     rw[List.getElem?_append_right (Nat.le_refl _)]at ho;simpa using ho.symm
    subst e2;have h1:=he e hm;have h2:=h e.on h1;rw[hL.getD e.on h1];(have h4:e.on<L'.size:=by rw[hL.s2];exact h1);simp[Array.getD,h4]at h2 ⊢;exact h2
 have size:∀{L L':Array Bool} {i:Nat},i∈Region.ready md (l++[st]).toArray L->i<l.length\/i=l.length:=fun {L L' i} h=>by
  have:=(a1F.1 h).1;simp at this;omega
 have empt:∀{L L':Array Bool},Lst l.length L L'->(∀i,i<l.length->L'.getD i true=true)->Region.ready md (l++[st]).toArray (L.setIfInBounds l.length true)=[]:=fun {L L'} hL hall=>by
  refine List.eq_nil_iff_forall_not_mem.2 fun i hi=>?_
  obtain ⟨h0,h1,_⟩:=a1F.1 hi;have h0:i<l.length+1:=by simpa using h0
  have h2:i<L.size:=by rw[hL.s1];exact h0
  by_cases e:i=l.length
  ·subst e
   simp[Array.getD,h2]at h1
  ·have h3:=hall i (by omega)
   (rw[<-hL.getD i (by omega)]at h3);(have e':¬l.length=i:=fun q=>e q.symm);simp[Array.getD,h2]at h1 h3;rw[Array.getElem_setIfInBounds h2,if_neg e']at h1;rw[h3]at h1;cases h1
 have fin:∀{L L':Array Bool} (fuel:Nat) (a:Act) (w:World),Lst l.length L L'->(∀i,i<l.length->L'.getD i true=true)->wpOpIn (F.inRound r) n P (l++[st]).toArray Q l.length (fun a w=>Q .normal a w) a w->wpAnyIn (F.inRound r) n P md (l++[st]).toArray Q (fuel+1) L a w:=fun {L L'} fuel a w hL hall hq=>by
  refine ⟨fun h0=>?_,fun i hi=>?_⟩
  ·have:=(lastR hL).2 hall
   rw[h0]at this;cases this
  ·rcases size (L':=L') hi with h|h
   ·have h1:=(a1F.1 (old hL h hi)).2.1
    rw[hall i h]at h1;cases h1
   ·subst h
    refine wpOpIn_mono (fun a' w' hq'=>?_) hq
    cases fuel with
    | zero=>exact ⟨empt hL hall,hq'⟩
    | succ fuel=>exact ⟨fun _=>hq',fun i hi=>by rw[empt hL hall]at hi;cases hi⟩
 intro fuel
 induction fuel with
 | zero=>
  intro L L' a w hL hw h;exact fin 0 a w hL (a9w hL.s2 hb' h.1) (h.2 w hw)
 | succ fuel ih=>
  intro L L' a w hL hw h;by_cases hr:Region.ready md l.toArray L'=[]
  ·exact fin (fuel+1) a w hL (a9w hL.s2 hb' hr) (h.1 hr w hw)
  ·obtain ⟨j,hj⟩:=List.exists_mem_of_ne_nil _ hr
   refine ⟨fun h0=>?_,fun i hi=>?_⟩
   ·have:=(new hL hj).2
    rw[h0]at this;cases this
   ·rcases size (L':=L') hi with hlt|he
    ·have hq:=h.2 i (old hL hlt hi)
     obtain ⟨o,ho,hd,_,hg⟩:=a4f hb' i hlt;(have o1:l.toArray[i]?=some o:=by simpa using ho);have o2:(l++[st]).toArray[i]?=some o:=by simp only[List.getElem?_toArray];rw[List.getElem?_append_left hlt];exact ho
     have hwant:Region.wanted o (yielded (l++[st]).toArray a.tmps)=Region.wanted o (yielded l.toArray a.tmps):=by
      unfold Region.wanted
      cases hgd:o.guard with
      | none=>rfl
      | some jb=>
       obtain ⟨j,b⟩:=jb;have hji:=hg j b hgd
       have:yielded (l++[st]).toArray a.tmps j=yielded l.toArray a.tmps j:=by
        unfold yielded;simp only[List.getElem?_toArray];rw[List.getElem?_append_left (by omega)]
       simp only[this]
     unfold qOpIn at hq;unfold wpOpIn;simp only[o1]at hq;simp only[o2];rw[hwant];obtain ⟨hask,hq⟩:=hq
     split
     ·rename_i hw1
      simp only[hw1,if_true]at hq;exact Oper.wpIn_of_quietR r hro hd hw (fun a' w' hw' hk=>ih _ _ a' w' (hL.set i hlt) hw' hk) hask hq
     ·rename_i hw1
      simp only[hw1]at hq;exact ⟨hask w hw,ih _ _ _ w (hL.set i hlt) hw hq⟩
    ·subst he
     have hall:=(lastR hL).1 hi;obtain ⟨hj1,hj2,_⟩:=a1F.1 hj;(rw[hall j (by simpa using hj1)]at hj2);cases hj2
theorem a4H {Q Q':Act->Prop} (h:∀a,Q a->Q' a):∀(l:List Oper) (a:Act),wpQuietIn F n P ops C Q l a->wpQuietIn F n P ops C Q' l a
 | [],a,hq=>h a hq
 | o::l,a,hq=>by
  refine ⟨hq.1,?_⟩;have h2:=hq.2
  split
  ·rename_i hw
   simp only[hw,if_true]at h2;exact Oper.quietIn_mono (fun a'=>a4H h l a') h2
  ·rename_i hw
   simp only[hw]at h2;exact a4H h l _ h2
theorem a7f {id:Nat} {Q:Exit->Act->World->Prop} {a:Act} {w:World} {r:Nat} (l:List Oper) (st:Oper) {X:List Oper} (hX:X=l++[st]) (hro:F.round=none) (hm:P.follows .mixedOrders=true) (hB:Region.lexB .any l.toArray=true)
    (hb:a7e (l++[st]) (l.length+1)=true) (hb':a7e l l.length=true) (hst:b22 .any st l.length=true)
    (h:wpQuietIn F n P l.toArray (fun w'=>∃n,w'=w.drewN n) (fun a'=>∀w',(∃n,w'=w.drewN n)->wpOpIn (F.inRound r) n P (l++[st]).toArray Q l.length (fun a w=>Q .normal a w) a' w') l a):(Code.region id X.toArray true).wpIn (F.inRound r) n P Q a w:=by
 subst hX;simp only[Region.lexB,Bool.and_eq_true]at hB;refine wpIn_region_any hm ?_;have hq:=wpAnyQIn_lex (F:=F) (n:=n) (P:=P) (C:=fun w'=>∃n,w'=w.drewN n) (md:=.any) hB.1 l 0 (Array.replicate l.length false) a (by simp) (by simpa using hB.2) h
 have hs:(l++[st]).toArray.size=l.length+1:=by simp
 rw[hs];refine b5P r hro hb hb' hst l.length _ _ a _ ⟨by simp,by simp,fun i hi=>?_,?_⟩ ⟨1,rfl⟩ hq
 ·simp[hi,Nat.lt_succ_of_lt hi]
 ·simp
theorem a2r {id:Nat} {Q:Exit->Act->World->Prop} {a:Act} {w:World} {r:Nat} {X:List Oper} (hne:X≠[]) (hro:F.round=none) (hm:P.follows .mixedOrders=true) (hB:Region.lexB .any X.dropLast.toArray=true)
    (hb:a7e X (X.dropLast.length+1)=true) (hb':a7e X.dropLast X.dropLast.length=true) (hst:b22 .any (X.getLast hne) X.dropLast.length=true)
    (h:wpQuietIn F n P X.dropLast.toArray (fun w'=>∃n,w'=w.drewN n) (fun a'=>∀w',(∃n,w'=w.drewN n)->(X.getLast hne).guard=none/\(X.getLast hne).wpIn (F.inRound r) n P a' w' (fun a w=>Q .normal a w) Q) X.dropLast a):(Code.region id X.toArray true).wpIn (F.inRound r) n P Q a w:=by
 have e:X.dropLast++[X.getLast hne]=X:=List.dropLast_concat_getLast hne;refine a7f X.dropLast (X.getLast hne) e.symm hro hm hB (by rw[e];exact hb) hb' hst ?_
 refine a4H (fun a' h' w' hw'=>?_) _ _ h
 obtain ⟨hg,h1⟩:=h' w' hw';unfold wpOpIn;have:(X.dropLast++[X.getLast hne]).toArray[X.dropLast.length]?=some (X.getLast hne):=by simp
 rw[this]
 have hw:Region.wanted (X.getLast hne) (yielded (X.dropLast++[X.getLast hne]).toArray a'.tmps)=true:=by
  unfold Region.wanted;rw[hg]
 simp only[hw,if_true];exact h1
theorem a4T {l:List Oper} {md:Region.Mode} {Q:Exit->Act->World->Prop} {Qc:Act->Prop} (r:Nat) (hro:F.round=none) (hb:a7e l l.length=true) (hQ:∀a w,C w->Qc a->Q .normal a w):∀(fuel:Nat) (L:Array Bool) (a:Act) (w:World),C w->
    wpAnyQIn F n P md l.toArray C Qc fuel L a->wpAnyIn (F.inRound r) n P md l.toArray Q fuel L a w
 | 0,_,_,_,hw,h=>⟨h.1,hQ _ _ hw h.2⟩
 | fuel+1,L,a,w,hw,h=>by
  refine ⟨fun h0=>hQ _ _ hw (h.1 h0),fun i hi=>?_⟩
  have hq:=h.2 i hi;have hlt:i<l.length:=by simpa using (a1F.1 hi).1
  obtain ⟨o,ho,hd,_,_⟩:=a4f hb i hlt;have o1:l.toArray[i]?=some o:=by simpa using ho
  unfold qOpIn at hq;unfold wpOpIn;simp only[o1]at hq ⊢;obtain ⟨hask,hq⟩:=hq
  split
  ·rename_i hw1
   simp only[hw1,if_true]at hq;exact Oper.wpIn_of_quietR r hro hd hw (fun a' w' hw' hk=>a4T r hro hb hQ fuel _ a' w' hw' hk) hask hq
  ·rename_i hw1
   simp only[hw1]at hq;exact ⟨hask w hw,a4T r hro hb hQ fuel _ _ w hw hq⟩
theorem a1u {id:Nat} {Q:Exit->Act->World->Prop} {a:Act} {w:World} {r:Nat} {X:List Oper} (hro:F.round=none) (hm:P.follows .mixedOrders=true) (hB:Region.lexB .any X.toArray=true) (hb:a7e X X.length=true)
    (h:wpQuietIn F n P X.toArray (fun w'=>∃n,w'=w.drewN n) (fun a'=>∀w',(∃n,w'=w.drewN n)->Q .normal a' w') X a):(Code.region id X.toArray true).wpIn (F.inRound r) n P Q a w:=by
 simp only[Region.lexB,Bool.and_eq_true]at hB;refine wpIn_region_any hm ?_;have hq:=wpAnyQIn_lex (F:=F) (n:=n) (P:=P) (C:=fun w'=>∃n,w'=w.drewN n) (md:=.any) hB.1 X 0 (Array.replicate X.length false) a (by simp) (by simpa using hB.2) h
 have hs:X.toArray.size=X.length:=by simp
 rw[hs];exact a4T (C:=fun w'=>∃n,w'=w.drewN n) r hro hb (fun a' w' hw' hk=>hk w' hw') X.length _ a _ ⟨1,rfl⟩ hq
end
