import Derived.Test.YtbmcofdodfcnnaaGreatDoorGXC
import Derived.Test.YtbmcofdodfcnnaaGreatDoorGNN
import Derived.Test.YtbmcofdodfcnnaaGreatDoorGK
import Derived.Test.YtbmcofdodfcnnaaGreatDoorGAW
set_option linter.all false
set_option maxHeartbeats 400000000
set_option maxRecDepth 100000
namespace Pn
open Go
theorem c24:∀(T r:List UInt8) (c:UInt8),(∀x∈T,x≠c)->Lib.index (T++c::r) [c]=T.length
 | [],r,c,_=>by simp[Lib.index]
 | x::T,r,c,h=>by
  have hx:x≠c:=h x (by simp)
  have ih:=c24 T r c (fun y hy=>h y (by simp[hy]))
  simp only[List.cons_append];unfold Lib.index;simp[ih];exact fun e=>absurd e.symm hx
end Pn
namespace Go.Proofs.YtbmcofdodfcnnaaGreatDoor
open Pn
open Go.Proofs.Tryz
open Go.RowKit Go.Maps
open Go.RowKit Go.Shelf
attribute [local go_sem] Oper.semAt_some
abbrev IT:Type:=Nat×Pn.Ins
def itE (x:IT):Array Value:=#[.int .i64 x.1,.agg #[.int .i64 x.2.op,.int .i64 x.2.rd,.int .i64 x.2.rs1,.int .i64 x.2.rs2,.int .i64 x.2.imm]]
def b9V (x:CK):IT:=(x.1.1,x.1.2.ins)
def zB (i:Pn.Ins):Bool:=(i.op==0)&&(i.rd==0)&&(i.rs1==0)&&(i.rs2==0)&&(i.imm==0)
def a0z (s:ByteArray):List IT:=((a7t s.size 0 s.data.toList).takeWhile fun x=>!zB x.1.2.ins).map b9V
def KpI (W W':World):Prop:=W.heap.size<=W'.heap.size/\∀(k:Nat) (cs:Array Value) (t:TypeId) (fr:Nat×Nat),W.heap[k]?=some (Obj.cells cs t fr)->(t=139\/t=9\/t=153)->W'.heap[k]?=some (Obj.cells cs t fr)
theorem b6W {A B C:World} (h:KpI A B) (k:KpI B C):KpI A C:=⟨Nat.le_trans h.1 k.1,fun i cs t fr hi ht=>k.2 i cs t fr (h.2 i cs t fr hi ht) ht⟩
theorem a3U {A B:World} (h:Below A.heap.size A B):KpI A B:=⟨h.size,fun k _ _ _ hk _=>(h.block k (Array.getElem?_eq_some_iff.1 hk).1).trans hk⟩
theorem c9d {A B:World} (h:KpI A B):KpC A B:=⟨h.1,fun i cs t fr hi ht=>h.2 i cs t fr hi (by rcases ht with e|e;exact .inl e;exact .inr (.inl e))⟩
theorem c7s (W:World) (l:Nat) (o o':Obj) (hl:W.heap[l]?=some o) (ho:o.isCells=false):KpI W (W.putObj l o'):=by
 refine ⟨by simp[World.putObj],fun k cs t fr hk _=>?_⟩
 by_cases e:k=l
 ·subst e
  rw[hl]at hk;cases hk
  simp[Obj.isCells]at ho
 ·exact (World.putObj_heap_other e).trans hk
theorem b7B {α:Type} {p:α->Bool}:∀xs:List α,(∀x∈xs,p x=true)->xs.takeWhile p=xs
 | [],_=>rfl
 | x::xs,h=>by rw[List.takeWhile_cons,if_pos (h x List.mem_cons_self),b7B xs fun y hy=>h y (List.mem_cons_of_mem _ hy)]
theorem b8E {m m' l l2:Nat} {P:Program} {f:FuncId} {tmps:Array Value} {assign body:Code} {w:World} {R:Ending->World->Prop} (h:RoundIn Fence.wide m P l f tmps assign body w R):RoundIn (Fence.wide.inRound l2) m' P l f tmps assign body w R:=
 ⟨h.1,fun c cs _=>h.2 c cs (by simp[Fence.room,Fence.wide])⟩
theorem b9O (n:Nat) (hn:4<=n) (l Bn:Nat) (s:ByteArray) (hs:s.size<=2000000) (J Jx:List IT->World->Prop) (W:World) (hJ:OwnFrom W.heap.size J) (hJx:OwnFrom W.heap.size Jx)
    (hY:∀pre x W1,J pre W1->pre.length<s.size->YieldAt Fence.wide (n-1) prog l (itE x) W1 fun e W'=>
     (e=.returned (.bool true)/\J (pre++[x]) W'/\KpI W1 W'/\KeepsFrom W.heap.size W1 W')\/(e=.returned (.bool false)/\Jx (pre++[x]) W'/\KeepsFrom W.heap.size W1 W'))
    (hBn:W.heap[Bn]?=some (.cells #[.string s] 9 (0,0))) (h0:J [] W):
    CallsIn Fence.wide n prog 83 #[.func (.yield l) #[] #[],.pointer (some ⟨Bn,0,none⟩)] W fun e W'=>(∃v,e=.returned v)/\
     ((∃ys,ys=a0z s/\J ys W')\/(∃pre,pre <+:a0z s/\Jx pre W')):=by
 have HY:=hid hY;have cb:W.cell? ⟨Bn,0,none⟩=some (.string s):=by rw[Lib.cell_of_heap hBn];rfl
 have hbl:=(Array.getElem?_eq_some_iff.1 hBn).1;have cb2:(W.alloc (.cells #[.func (.yield l) #[] #[]] 153)).cell? ⟨Bn,0,none⟩=some (.string s):=(World.cell?_alloc_some _ _ _ (by rw[cb];rfl)).trans cb
 clear hY;refine callsIn_of_wp_marks func83 rfl trivial ?_ rfl;simp only[ntmps83,List.size_toArray,List.length_cons,List.length_nil,Nat.reduceAdd,Nat.reduceSub,Array.replicate_succ,Array.replicate_zero,List.push_toArray,List.append_toArray,List.nil_append,List.cons_append];gi_wp2_with fail;refine ⟨trivial,fun _=>by omega,(b1D _ s _).mono ?_⟩
 rintro e w1 ⟨rfl,rfl⟩;gi_wp2_with fail;have hsz:((W.alloc (.cells #[.func (.yield l) #[] #[]] 153)).alloc (.cells #[.string s] 9)).heap.size=W.heap.size+2:=by simp
 have hB0:Below W.heap.size W ((W.alloc (.cells #[.func (.yield l) #[] #[]] 153)).alloc (.cells #[.string s] 9)):=((Below.refl _ _).alloc (Nat.le_refl _) _).alloc (by rw[World.size_alloc];omega) _
 have hbx:((W.alloc (.cells #[.func (.yield l) #[] #[]] 153)).alloc (.cells #[.string s] 9)).heap[W.heap.size+1]?=some (.cells #[.string s] 9 (0,0)):=by
  have:=heap_alloc_new (W.alloc (.cells #[.func (.yield l) #[] #[]] 153)) (.cells #[.string s] 9);rwa[World.size_alloc]at this
 have hyb:((W.alloc (.cells #[.func (.yield l) #[] #[]] 153)).alloc (.cells #[.string s] 9)).heap[W.heap.size]?=some (.cells #[.func (.yield l) #[] #[]] 153 (0,0)):=(Below.heap_alloc _ _ _ (by simp)).trans (heap_alloc_new W _)
 have hJ0:J [] ((W.alloc (.cells #[.func (.yield l) #[] #[]] 153)).alloc (.cells #[.string s] 9)):=hJ.alloc _ (hJ.alloc _ h0);generalize (W.alloc (.cells #[.func (.yield l) #[] #[]] 153)).alloc (.cells #[.string s] 9)=W0 at *
 refine wpIn_rangeFunc_ownH rfl (by omega) (gf:=137) (lb:=#[.pointer (some ⟨W.heap.size+1,0,none⟩)]) rfl trivial (enters_of func137 (by kernel_rfl) rfl)
  (a62 (n-1) (by omega) (W.heap.size+1) s hs W0 hbx) b82 (fun W l o o' _ hl ho _=>c7u W l o o' hl ho) (Below.refl _ _) (fun _=>rfl)
  (fun pre V=>(J (pre.map b9V) V/\V.heap[W.heap.size]?=some (.cells #[.func (.yield l) #[] #[]] 153 (0,0)))/\∀x∈pre,zB x.1.2.ins=false)
  (fun c pre V=>c=.ret/\((∃pre' x,pre=pre'++[x]/\zB x.1.2.ins=true/\(∀y∈pre',zB y.1.2.ins=false)/\J (pre'.map b9V) V)\/((∀y∈pre,zB y.1.2.ins=false)/\Jx (pre.map b9V) V)))
  ?oI ?oX ⟨⟨hJ0,hyb⟩,fun x hx=>by cases hx⟩
  (fun x a' V=>∃Bx,V.heap[Bx]?=some (.cells (a6q x.1.2).toArray 139 (0,0))/\a' = { tmps:=#[.func (.yield l) #[] #[],.pointer (some ⟨Bn,0,none⟩),.pointer (some ⟨W.heap.size,0,none⟩),.int .i64 x.1.1,.pointer (some ⟨Bx,0,none⟩),.string s,.func (.func 137) #[] #[.pointer (some ⟨W.heap.size+1,0,none⟩)],.int .i64 x.1.1,.agg (a6q x.1.2).toArray,undef,undef,undef,undef,undef,undef,undef,undef,undef,undef,undef,undef],defers:=[] })
  ?oA ?assign ?body ?done ?stop
 case oI=>
  exact fun pre A V row hs hg hr=>⟨⟨a5F hJ (by omega) _ A V row hs.1.1 hg hr,a2i (β:=Unit) (B:=W0.heap.size) (by omega) () A V row hs.1.2 hg hr⟩,hs.2⟩
 case oX=>
  rintro c pre A V row ⟨rfl,hs⟩ hg hr;refine ⟨rfl,?_⟩;rcases hs with ⟨pre',x,h1,h2,h3,h4⟩|⟨h1,h2⟩
  ·exact .inl ⟨pre',x,h1,h2,h3,a5F hJ (by omega) _ A V row h4 hg hr⟩
  ·exact .inr ⟨h1,a5F hJx (by omega) _ A V row h2 hg hr⟩
 case oA=>
  intro x a' _ X Y row hs hg hr;obtain ⟨Bx,h1,h3⟩:=hs;refine ⟨Bx,(hg.block Bx (Array.getElem?_eq_some_iff.1 h1).1 (fun e=>?_)).trans h1,h3⟩
  obtain ⟨_,o,ho,hc⟩:=hr Bx e.symm;rw[h1]at ho;cases ho
  simp[Obj.isCells]at hc
 case assign=>
  rintro l2 pre ⟨⟨k,⟨csize,cnum,⟨cop,crd,crs1,crs2,cimm⟩⟩⟩,hok⟩ V K ⟨⟨hj1,hy1⟩,hz1⟩ hK;unfold a6q at hK;unfold ckE;gi_wp2;have hBW:Below V.heap.size V (V.alloc (.cells #[.int .i64 csize,.int .i64 cnum,.int .i64 cop,.int .i64 crd,.int .i64 crs1,.int .i64 crs2,.int .i64 cimm] 139)):=(Below.refl _ _).alloc (Nat.le_refl _) _;exact hK _ _ ((KeepsOthers.alloc _ _).from _) (a6e hBW) ⟨⟨hJ.alloc _ hj1,(hBW.block _ (Array.getElem?_eq_some_iff.1 hy1).1).trans hy1⟩,hz1⟩ ⟨V.heap.size,heap_alloc_new V _,rfl⟩
 case body=>
  rintro l2 pre x a' V hl ⟨r,hr⟩ ⟨⟨hj1,hy1⟩,hz1⟩ ⟨Bx,hBx,rfl⟩ hlt;obtain ⟨fn,tmps,assign,body,hy,hR⟩:=HY.out (pre.map b9V) (b9V x) V hj1 (by rw[List.length_map];exact hlt)
  have HR:=hid hR;clear hR;have cy:V.cell? ⟨W.heap.size,0,none⟩=some (.func (.yield l) #[] #[]):=by rw[Lib.cell_of_heap hy1];rfl
  have HJ1:=hid hj1;have HZ1:=hid hz1;have HHY:=hid hy1;obtain ⟨⟨k,⟨csize,cnum,⟨cop,crd,crs1,crs2,cimm⟩⟩⟩,hok⟩:=x;unfold a6q at hBx;simp only at hBx
  have cell:∀q v,(#[.int .i64 csize,.int .i64 cnum,.int .i64 cop,.int .i64 crd,.int .i64 crs1,.int .i64 crs2,.int .i64 cimm]:Array Value)[q]?=some v->V.cell? ⟨Bx,q,none⟩=some v:=fun q v h=>by
   rw[Lib.cell_of_heap hBx];exact h
  have y0:=cell 0 _ rfl;have y1:=cell 1 _ rfl;have y2:=cell 2 _ rfl;have y3:=cell 3 _ rfl;have y4:=cell 4 _ rfl;have y5:=cell 5 _ rfl;have y6:=cell 6 _ rfl;clear cell hBx hj1 hz1 hy1 hJ0 hyb hbx hB0 HY;unfold a6q;simp only;dsimp only[itE,b9V]at hy;gi_wp2_with fail
  all_goals first
   | (subst_vars
      (refine ⟨fun _ h=>(by cases h),?_⟩);gi_wp2_with fail;refine ⟨KeepsFrom.refl _ _,rfl,.inl ⟨pre,_,rfl,by simp[zB],HZ1.out,HJ1.out⟩⟩)
   | (have hnz:zB ⟨cop,crd,crs1,crs2,cimm⟩=false:=by simp[zB, *]
      have HNZ:=hid hnz;clear hnz
      subst_vars
      try rw[hy]
      gi_wp2_with fail;(refine ⟨fun _=>by omega,(b8E HR.out).mono ?_⟩);rintro e W3 (⟨rfl,hJ3,hk3,hf3⟩|⟨rfl,hJx3,hf3⟩)
      ·have HJ3:=hid hJ3
       have HK3:=hid hk3;have HF3:=hid hf3;clear hJ3 hk3 hf3;gi_wp2_with fail;refine ⟨a5k HF3.out (by omega),c9d HK3.out,⟨?_,?_⟩,?_⟩
       ·rw[List.map_append];exact HJ3.out
       ·exact HK3.out.2 _ _ _ _ HHY.out (.inr (.inr rfl))
       ·intro y hy'
        rcases List.mem_append.1 hy' with h|h
        ·exact HZ1.out y h
        ·rw[List.mem_singleton]at h;rw[h];exact HNZ.out
      ·have HJ3:=hid hJx3
       have HF3:=hid hf3;clear hJx3 hf3;gi_wp2_with fail;refine ⟨a5k HF3.out (by omega),rfl,.inr ⟨?_,?_⟩⟩
       ·intro y hy'
        rcases List.mem_append.1 hy' with h|h
        ·exact HZ1.out y h
        ·rw[List.mem_singleton]at h;rw[h];exact HNZ.out
       ·rw[List.map_append];exact HJ3.out)
 case done=>
  rintro D zs V hD rfl ⟨⟨hj1,hy1⟩,hz1⟩ hK;have HJ:=hid hj1;have HZ:=hid hz1;have HJP:=hid (fun o'=>hJ.putObj (l:=D) o' hj1 (by omega) hK rfl)
  clear hj1 hz1 hy1;gi_wp2_with fail;refine ⟨by simp,.inl ⟨_,_,rfl,run_takeDeferred hK,?_⟩⟩
  refine ⟨_,results_none rfl _ _ _,⟨_,rfl⟩,.inl ⟨_,?_,HJP.out _⟩⟩;unfold a0z;rw[b7B _ fun x hx=>(by rw[HZ.out x hx];rfl)]
 case stop=>
  rintro D c pre V hD hpre ⟨rfl,hx⟩ hK;have HX:=hid hx;have HP:=hid hpre;clear hx hpre;gi_wp2_with fail;refine ⟨by simp,.inl ⟨_,_,rfl,run_takeDeferred hK,?_⟩⟩
  refine ⟨_,results_none rfl _ _ _,⟨_,rfl⟩,?_⟩;obtain ⟨t,ht⟩:=HP.out;rcases HX.out with ⟨pre',x,rfl,hz,hz',hj⟩|⟨hz',hj⟩
  ·refine .inl ⟨_,?_,hJ.putObj (l:=D) _ hj (by omega) hK rfl⟩
   unfold a0z;(rw[<-ht,List.append_assoc,List.takeWhile_append_of_pos (fun y hy=>by rw[hz' y hy];rfl)]);simp[hz]
  ·refine .inr ⟨_,?_,hJx.putObj (l:=D) _ hj (by omega) hK rfl⟩
   unfold a0z;(rw[<-ht,List.takeWhile_append_of_pos (fun y hy=>by rw[hz' y hy];rfl),List.map_append]);exact ⟨_,rfl⟩
theorem a7V (n:Nat) (hn:4<=n) (Bn:Nat) (s:ByteArray) (hs:s.size<=2000000) (w:World) (hBn:w.heap[Bn]?=some (.cells #[.string s] 9 (0,0))):
    c89 Fence.wide n prog 83 #[.pointer (some ⟨Bn,0,none⟩)] itE KpI (fun ys=>ys=a0z s) (fun pre=>pre <+:a0z s) s.size w:=fun l J Jx W hW hJ hJx hY h0=>
 b9O n hn l Bn s hs J Jx W hJ hJx hY ((hW.block Bn (Array.getElem?_eq_some_iff.1 hBn).1).trans hBn) h0
theorem b6L (n:Nat) (s:ByteArray) (w:World):
    CallsIn Fence.wide n prog 44 #[.string s] w fun e w'=>e=.returned (.func (.func 83) #[] #[.pointer (some ⟨w.heap.size,0,none⟩)])/\w'=w.alloc (.cells #[.string s] 9):=by
 refine callsIn_of_wp func44 rfl trivial ?_ rfl;simp only[ntmps44,List.size_toArray,List.length_cons,List.length_nil,Nat.reduceAdd,Nat.reduceSub,Array.replicate_succ,Array.replicate_zero,List.push_toArray,List.append_toArray,List.nil_append,List.cons_append];gi_wp2;go_ret;exact ⟨rfl,rfl⟩
theorem b75 (n:Nat) (hn:1<=n) (s:ByteArray) (w:World):
    CallsIn Fence.wide n prog 23 #[.string s] w fun e w'=>e=.returned (.func (.func 83) #[] #[.pointer (some ⟨w.heap.size,0,none⟩)])/\w'=w.alloc (.cells #[.string s] 9):=by
 refine callsIn_of_wp func23 rfl trivial ?_ rfl;have HN:=hid hn;clear hn;simp only[ntmps23,List.size_toArray,List.length_cons,List.length_nil,Nat.reduceAdd,Nat.reduceSub,Array.replicate_succ,Array.replicate_zero,List.push_toArray,List.append_toArray,List.nil_append,List.cons_append];gi_wp2_with fail;refine ⟨trivial,fun _=>HN.out,(b6L _ s _).mono ?_⟩
 rintro e w1 ⟨rfl,rfl⟩;gi_wp2_with fail;go_ret;exact ⟨rfl,rfl⟩
open Go.RowKit
theorem b0b (s:ByteArray) (short:Bool) (w:World) (hE:Env w):
    Calls prog 21 #[.string s,.bool short] w fun e w'=>e=.returned (.tuple #[.string ⟨(b3O s short).1.toArray⟩,.agg #[.int .i64 (b3O s short).2.1,.int .i64 (b3O s short).2.2]])/\Below w.heap.size w w':=by
 have HF:Hid (CellsAt w.heap.size [.int .i64 0,.int .i64 0] (w.alloc (.cells #[.int .i64 0,.int .i64 0] 39))):=hid (CellsAt.new w [.int .i64 0,.int .i64 0] 39);have HB:Hid (Below w.heap.size w (w.alloc (.cells #[.int .i64 0,.int .i64 0] 39))):=hid ((Below.refl _ _).alloc (Nat.le_refl _) _);have H:=hid (fun w' h=>b2a s short w' h)
 have HE:=hid (hE.below HB.out hE.1);generalize b3O s short=X at *;obtain ⟨x1,x2,x3⟩:=X;simp only at H;clear hE;go_enter func21,ntmps21;go_wp2_with fail;generalize w.alloc _=W at *;refine (H.out _ HE.out).mono ?_;rintro e w1 ⟨rfl,hB1⟩;have HF:=hid (HF.out.next hB1);have HB:=hid (HB.out.trans (hB1.mono HB.out.size));have q0:=HF.out.2.2 0 _ rfl;have q1:=HF.out.2.2 1 _ rfl;have qf:=HF.out.2.1;clear hB1;go_wp2_with fail;refine bodyPost_ret (v:=.tuple #[.string ⟨x1.toArray⟩,.agg #[.int .i64 x2,.int .i64 x3]]) (by simp[results,results21,go_sem,q0,q1]) rfl ⟨rfl,?_⟩
 exact (HB.out.setCell (by simp) _).setCell (by simp) _
theorem a69 (s:ByteArray) (w:World) (hE:Env w):
    Calls prog 20 #[.string s] w fun e w'=>e=.returned (.tuple #[.string ⟨(b6x s).1.toArray⟩,.int .i64 (b6x s).2])/\Below w.heap.size w w':=by
 have H:=hid (a8s s w hE);generalize b6x s=X at *;obtain ⟨x1,x2⟩:=X;simp only at H;clear hE;go_enter func20,ntmps20;go_wp2_with fail;refine H.out.mono ?_;rintro e w1 ⟨rfl,hB1⟩;have HB:=hid hB1;clear hB1;go_wp2_with fail;go_ret2;exact ⟨rfl,HB.out⟩
