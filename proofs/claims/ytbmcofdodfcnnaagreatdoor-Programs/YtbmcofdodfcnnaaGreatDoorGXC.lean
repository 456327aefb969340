import Derived.RangeFuncNested
import Derived.RangeFuncBound
import Derived.RangeFuncCalls
import Derived.RangeFuncLeaves
import Derived.Shelf.Abstract
import Derived.Shelf.RegionOpen
import Derived.WalkKit
import Derived.OwnWalkIn
import Derived.TacticsInMore
import Derived.LoopNIn
import Derived.LoopIn
import Derived.Test.YtbmcofdodfcnnaaGreatDoorGXA
import Derived.Test.YtbmcofdodfcnnaaGreatDoorGAG
set_option linter.all false
set_option maxHeartbeats 400000000
set_option maxRecDepth 100000
namespace Go.Proofs.YtbmcofdodfcnnaaGreatDoor
open Pn
open Go.Proofs.Tryz
open Go.RowKit Go.Shelf
attribute [local go_sem] Oper.semAt_some
def c66 (c:Pn.Chk):Prop:=(0<=c.num/\c.num<4294967296)/\(c.size=1\/c.size=2\/c.size=4)
theorem b8o (l:List UInt8) (h:l≠[]):c66 (Pn.chk l)/\(Pn.chk l).size<=l.length:=by
 have hpos:0<l.length:=List.length_pos_iff.2 h;have h2:=a4D (l.take 2);have h4:=a4D (l.take 4);have h1:=a4D l;have e2:(2:Int)^(8*(l.take 2).length)<=2^32:=a0M (by simp;omega)
 have e4:(2:Int)^(8*(l.take 4).length)<=2^32:=a0M (by simp;omega)
 have e:(2:Int)^32=4294967296:=by decide
 unfold Pn.chk
 split
 ·have hl:l.length=1:=by omega
  have e1:(2:Int)^(8*l.length)<=2^32:=a0M (by omega)
  exact ⟨⟨⟨h1.1,by simp only;omega⟩,.inl hl⟩,by simp only;omega⟩
 ·split
  ·exact ⟨⟨⟨h2.1,by simp only;omega⟩,.inr (.inl rfl)⟩,by simp only;omega⟩
  ·split
   ·exact ⟨⟨⟨h4.1,by simp only;omega⟩,.inr (.inr rfl)⟩,by simp only;omega⟩
   ·exact ⟨⟨⟨h2.1,by simp only;omega⟩,.inr (.inl rfl)⟩,by simp only;omega⟩
abbrev CK:Type:={ p:Nat×Pn.Chk // c66 p.2 }
def ckE (x:CK):Array Value:=#[.int .i64 x.1.1,.agg #[.int .i64 x.1.2.size,.int .i64 x.1.2.num,.int .i64 x.1.2.ins.op,.int .i64 x.1.2.ins.rd,.int .i64 x.1.2.ins.rs1,.int .i64 x.1.2.ins.rs2,.int .i64 x.1.2.ins.imm]]
def a7t:Nat->Nat->List UInt8->List CK
 | 0,_,_=>[]
 | n+1,k,l=>if h:l=[] then [] else ⟨(k,Pn.chk l),(b8o l h).1⟩::a7t n (k+(Pn.chk l).size) (l.drop (Pn.chk l).size)
theorem a2w (n k:Nat):a7t n k []=[]:=by cases n<;>simp[a7t]
theorem b1f:∀(n m k:Nat) (l:List UInt8),l.length<=n->l.length<=m->a7t n k l=a7t m k l
 | 0,m,k,l,h,_=>by
  have:l=[]:=List.eq_nil_of_length_eq_zero (by omega)
  rw[this,a2w,a2w]
 | n+1,0,k,l,_,h=>by
  have:l=[]:=List.eq_nil_of_length_eq_zero (by omega)
  rw[this,a2w,a2w]
 | n+1,m+1,k,l,h1,h2=>by
  by_cases hl:l=[]
  ·rw[hl,a2w,a2w]
  ·have hp:1<=(Pn.chk l).size:=by rcases (b8o l hl).1.2 with e|e|e<;>omega
   have hlp:=List.length_pos_iff.2 hl;simp only[a7t,dif_neg hl];rw[b1f n m _ (l.drop (Pn.chk l).size) (by simp;omega) (by simp;omega)]
def KpC (W W':World):Prop:=W.heap.size<=W'.heap.size/\∀(k:Nat) (cs:Array Value) (t:TypeId) (fr:Nat×Nat),W.heap[k]?=some (Obj.cells cs t fr)->(t=139\/t=9)->W'.heap[k]?=some (Obj.cells cs t fr)
theorem b82 {A B C:World} (h:KpC A B) (k:KpC B C):KpC A C:=⟨Nat.le_trans h.1 k.1,fun i cs t fr hi ht=>k.2 i cs t fr (h.2 i cs t fr hi ht) ht⟩
theorem a6e {A B:World} (h:Below A.heap.size A B):KpC A B:=⟨h.size,fun k _ _ _ hk _=>(h.block k (Array.getElem?_eq_some_iff.1 hk).1).trans hk⟩
theorem c7u (W:World) (l:Nat) (o o':Obj) (hl:W.heap[l]?=some o) (ho:o.isCells=false):KpC W (W.putObj l o'):=by
 refine ⟨by simp,fun k cs t fr hk _=>?_⟩
 by_cases e:k=l
 ·subst e
  rw[hl]at hk;cases hk
  simp[Obj.isCells]at ho
 ·exact (World.putObj_heap_other e).trans hk
theorem b3B {A B:World} (h:Below A.heap.size A B):A.grownBy B none:=⟨h.os,h.tape,h.output,h.size,fun k hk _=>h.block k hk⟩
theorem b6m (n:Nat) (hn:1<=n) (l Bn:Nat) (s:ByteArray) (hs:s.size<=2000000) (J Jx:List CK->World->Prop) (W:World) (hJ:AbidesFrom W.heap.size J)
    (hY:∀pre x W1,J pre W1->pre.length<s.size->YieldAt Fence.wide (n-1) prog l (ckE x) W1 fun e W'=>
     (e=.returned (.bool true)/\J (pre++[x]) W'/\KpC W1 W')\/(e=.returned (.bool false)/\Jx (pre++[x]) W'))
    (hBn:W.heap[Bn]?=some (.cells #[.string s] 9 (0,0))) (h0:J [] W):
    CallsIn Fence.wide n prog 137 #[.func (.yield l) #[] #[],.pointer (some ⟨Bn,0,none⟩)] W fun e W'=>(∃v,e=.returned v)/\
     ((∃ys,ys=a7t s.size 0 s.data.toList/\J ys W')\/(∃pre,pre <+:a7t s.size 0 s.data.toList/\Jx pre W')):=by
 have HY:=hid hY;clear hY;refine callsIn_of_wp func137 rfl trivial ?_ rfl;simp only[ntmps137,List.size_toArray,List.length_cons,List.length_nil,Nat.reduceAdd,Nat.reduceSub,Array.replicate_succ,Array.replicate_zero,List.push_toArray,List.append_toArray,List.nil_append,List.cons_append];gi_wp2
 gi_loopw [3] (fun p wr=>∃(pre:List CK) (k:Nat),p=.int .i64 k/\k<=s.size/\pre.length<=k/\a7t s.size 0 s.data.toList=pre++a7t (s.size-k) k (s.data.toList.drop k)/\wr.heap[Bn]?=some (.cells #[.string s] 9 (0,0))/\W.heap.size<=wr.heap.size/\J pre wr)
  (fun p _=>s.size-(intOf p).toNat)
 case atStart=>exact ⟨[],0,rfl,Nat.zero_le _,Nat.zero_le _,by simp,hBn,Nat.le_refl _,h0⟩
 case round=>
  obtain ⟨pre,k,rfl,hk,hpk,hx,hb,hws,hJs⟩:=hrel;have HX:=hid hx;clear hx;have cb:wr.cell? ⟨Bn,0,none⟩=some (.string s):=by rw[Lib.cell_of_heap hb];rfl
  by_cases hlt:k<s.size
  ·have hki:(k:Int)<s.size:=by omega
   have hki2:(k:Int)<=s.size:=by omega
   have hne:s.data.toList.drop k≠[]:=by
    intro e;have:=congrArg List.length e;rw[List.length_drop,a3e]at this;simp at this;omega
   have hok:=b8o (s.data.toList.drop k) hne;have he:(s.extract k s.size).data.toList=s.data.toList.drop k:=Lib.extract_to_end s k;(have HF:=hid (fun w'=>a9W (s.extract k s.size) w'));rw[he]at HF
   have HNX:Hid (a7t (s.size-k) k (s.data.toList.drop k)=⟨(k,Pn.chk (s.data.toList.drop k)),hok.1⟩::a7t (s.size-(k+(Pn.chk (s.data.toList.drop k)).size)) (k+(Pn.chk (s.data.toList.drop k)).size) (s.data.toList.drop (k+(Pn.chk (s.data.toList.drop k)).size))):=hid (by
    (obtain ⟨m,hm⟩:∃m,s.size-k=m+1:=⟨s.size-k-1,by omega⟩);rw[hm];simp only[a7t,dif_neg hne,List.drop_drop];(have hd:(s.data.toList.drop (k+(Pn.chk (s.data.toList.drop k)).size)).length=s.size-(k+(Pn.chk (s.data.toList.drop k)).size):=by rw[List.length_drop,a3e]);rw[b1f m (s.size-(k+(Pn.chk (s.data.toList.drop k)).size)) _ _ (by rw[hd];rcases hok.1.2 with e|e|e<;>omega) (by rw[hd];exact Nat.le_refl _)])
   have hsz:1<=(Pn.chk (s.data.toList.drop k)).size/\k+(Pn.chk (s.data.toList.drop k)).size<=s.size:=by
    have h2:=hok.2;rw[List.length_drop,a3e]at h2;rcases hok.1.2 with e|e|e<;>omega
   generalize hC:Pn.chk (s.data.toList.drop k)=C at *;clear hC he hne;obtain ⟨csize,cnum,⟨cop,crd,crs1,crs2,cimm⟩⟩:=C;unfold a6q at HF;simp only at HF hsz;gi_wp2_with fail;refine ⟨trivial,(callsIn_wide.2 (HF.out _)).mono ?_⟩;rintro e w1 ⟨rfl,hB1⟩;have hBx:Below wr.heap.size wr (w1.alloc (.cells #[.int .i64 csize,.int .i64 cnum,.int .i64 cop,.int .i64 crd,.int .i64 crs1,.int .i64 crs2,.int .i64 cimm] 139)):=hB1.alloc hB1.size _;(have hJ1:J pre (w1.alloc (.cells #[.int .i64 csize,.int .i64 cnum,.int .i64 cop,.int .i64 crd,.int .i64 crs1,.int .i64 crs2,.int .i64 cimm] 139)):=hJ pre wr _ none hJs (b3B hBx) (fun r e=>by cases e));have hK1:=a6e hBx;have hbx:(w1.alloc (.cells #[.int .i64 csize,.int .i64 cnum,.int .i64 cop,.int .i64 crd,.int .i64 crs1,.int .i64 crs2,.int .i64 cimm] 139)).heap[w1.heap.size]?=some (.cells #[.int .i64 csize,.int .i64 cnum,.int .i64 cop,.int .i64 crd,.int .i64 crs1,.int .i64 crs2,.int .i64 cimm] 139 (0,0)):=heap_alloc_new w1 _;(obtain ⟨fn,tmps,assign,body,hy,hR⟩:=HY.out pre ⟨(k,⟨csize,cnum,⟨cop,crd,crs1,crs2,cimm⟩⟩),hok.1⟩ _ hJ1 (by omega));dsimp only[ckE]at hy;have HB1:=hid hBx;have HK1:=hid hK1;have HBX:=hid hbx;clear hBx hJ1 hK1 hbx hB1 HF;gi_wp2_with fail;refine hR.mono ?_;rintro e W3 (⟨rfl,hJ3,hk3⟩|⟨rfl,hJx3⟩)
   ·have hk4:=b82 HK1.out hk3
    have hb3:=hk4.2 Bn _ _ _ hb (.inr rfl);have hx3:=hk3.2 _ _ _ _ HBX.out (.inl rfl);(have c3:W3.cell? ⟨w1.heap.size,0,none⟩=some (.int .i64 csize):=by rw[Lib.cell_of_heap hx3];rfl);(have wa:IntKind.i64.wrap ((k:Int)+csize)=(k:Int)+csize:=IntWalk.i64_in _ (by omega));have hJ4:=hid hJ3;have HS3:=hid hk4.1;have HB3:=hid hb3;clear hk3 hk4 hx3 hb3 hJ3;gi_wp2_with fail;go_roundw
    case rel=>
     (refine ⟨pre++[⟨(k,⟨csize,cnum,⟨cop,crd,crs1,crs2,cimm⟩⟩),hok.1⟩],k+csize,by go_num,by omega,by simp;omega,?_,HB3.out,Nat.le_trans hws HS3.out,hJ4.out⟩);rw[HX.out,HNX.out];simp
    case measure=>simp[intOf];omega
   ·have HJX:=hid hJx3
    clear hJx3;gi_wp2_with fail;refine bodyPost_ret (results_none rfl _ _ _) rfl ?_;refine ⟨⟨_,rfl⟩,.inr ⟨_,?_,HJX.out⟩⟩;rw[HX.out,HNX.out];exact ⟨a7t (s.size-(k+csize)) (k+csize) (s.data.toList.drop (k+csize)),by simp⟩
  ·have hki:¬(k:Int)<s.size:=by omega
   (have hkk:k=s.size:=by omega);gi_wp2;go_end0;refine ⟨⟨_,rfl⟩,.inl ?_⟩
   have e:a7t s.size 0 s.data.toList=pre:=by
    (rw[HX.out,show s.size-k=0 by omega]);simp[a7t]
   rw[e];exact hJs
theorem a62 (n:Nat) (hn:1<=n) (Bn:Nat) (s:ByteArray) (hs:s.size<=2000000) (w:World) (hBn:w.heap[Bn]?=some (.cells #[.string s] 9 (0,0))):
    SeqStopsK Fence.wide n prog 137 #[.pointer (some ⟨Bn,0,none⟩)] ckE KpC (fun ys=>ys=a7t s.size 0 s.data.toList) (fun pre=>pre <+:a7t s.size 0 s.data.toList) s.size w:=fun l J Jx W hW hJ _ hY h0=>
 b6m n hn l Bn s hs J Jx W hJ hY ((hW.block Bn (Array.getElem?_eq_some_iff.1 hBn).1).trans hBn) h0
theorem b1D (n:Nat) (s:ByteArray) (w:World):
    CallsIn Fence.wide n prog 75 #[.string s] w fun e w'=>e=.returned (.func (.func 137) #[] #[.pointer (some ⟨w.heap.size,0,none⟩)])/\w'=w.alloc (.cells #[.string s] 9):=by
 refine callsIn_of_wp func75 rfl trivial ?_ rfl;simp only[ntmps75,List.size_toArray,List.length_cons,List.length_nil,Nat.reduceAdd,Nat.reduceSub,Array.replicate_succ,Array.replicate_zero,List.push_toArray,List.append_toArray,List.nil_append,List.cons_append];gi_wp2;go_ret;exact ⟨rfl,rfl⟩
theorem a94 (B b:Nat) (bs:List Value) (s:ByteArray) (w:World) (h:Lib.IsBuilder 134 5 B b bs w) (hlen:bs.length+s.size<=140737488355328) (hBw:B<=w.heap.size):
    Calls prog 76 #[.pointer (some ⟨b,0,none⟩),.string s] w fun e w'=>e=.returned (.tuple #[.int .i64 s.size,.nilIface])/\Lib.BuilderAt 134 5 B b (.pointer (some ⟨b,0,none⟩)) (bs++Lib.strCells s) w'/\Below B w w'/\KeepsOthers w w'/\KpC w w':=by
 obtain ⟨i0,hi,hz0,hz1,hz2⟩:=info_parts Tryz.infoByte
 have HC:Hid (Calls prog 139 #[.pointer (some ⟨b,0,none⟩)] w fun e w'=>e=.returned (.tuple #[])/\Lib.BuilderAt 134 5 B b (.pointer (some ⟨b,0,none⟩)) bs w'/\Below B w w'/\KeepsOthers w w'/\KpC w w'):=hid (by
  rcases h with h|h
  ·refine (a8j b w h.cell0 h.shape h.frozen0).mono fun e w' ⟨he,hw⟩=>?_
   subst hw;refine ⟨he,h.used _,(Below.refl B w).setCell (p:=⟨b,0,none⟩) h.1 _,KeepsOthers.setCell _ _ _,?_⟩;obtain ⟨_,v,hb,_⟩:=h;refine ⟨by simp[World.setCell],fun k cs t fr hk ht=>?_⟩
   have hkb:k≠b:=fun e=>by
    subst e;rw[hb]at hk;(cases hk);rcases ht with h|h<;>exact absurd h (by decide)
   exact (Below.heap_setCell _ _ _ _ (fun e=>hkb e)).trans hk
  ·refine (a9b b w h.cell0).mono fun e w' ⟨he,hw⟩=>?_
   subst hw;exact ⟨he,h,Below.refl B _,KeepsOthers.refl _,Nat.le_refl _,fun _ _ _ _ hk _=>hk⟩)
 go_enter func76,ntmps76;go_wp2_with fail;refine HC.out.mono ?_;rintro e w1 ⟨rfl,h1,hb1,hko1,hkp1⟩;have hlt:=h1.lt;obtain ⟨hB,v,hbk,hown,hne⟩:=h1;have c1:w1.cell? ⟨b,1,none⟩=some v:=by rw[Lib.cell_of_heap hbk];rfl
 have hs1:=hb1.size;go_wp2_with (at_builtin;refine Lib.wpList_append_own_string _ rfl _ _ 65 9 rfl B 5 i0 underlying65 underlying9 hi hz0 hz1 hz2 _ _ _ rfl hown s rfl ?c3 ?c4 ?c5 ?_);case c3=>unfold maxLen;omega
 case c4=>omega
 case c5=>omega
 intro v' w2 hown' hgrow _;have hbk2:w2.heap[b]?=some (.cells #[.pointer (some ⟨b,0,none⟩),v] 134 (0,0)):=(hgrow.block b hlt (fun e=>hne e.symm)).trans hbk
 have d1:w2.cell? ⟨b,1,none⟩=some v:=by rw[Lib.cell_of_heap hbk2];rfl
 have df:w2.frozen? ⟨b,1,none⟩=false:=by simp[World.frozen?,hbk2]
 have HPUT:=hid (Lib.BuilderAt.put (p:=.pointer (some ⟨b,0,none⟩)) (bs':=bs++Lib.strCells s) hB hbk2 (by simpa[Lib.strCells_length] using hown') (by decide:134≠5))
 have HB2:=hid ((hb1.grown hgrow (by omega) (fun k hk=>(hown.lt k hk).1)).setCell (p:=⟨b,1,none⟩) hB v')
 have hcell:∀r,v.ownBlock=some r->∃cs fr,w1.heap[r]?=some (.cells cs 5 fr):=fun r hr=>by
  obtain ⟨_,⟨rfl,_⟩|⟨g,cap,cur,rfl,_,hc,_⟩⟩:=hown
  ·simp[Value.ownBlock]at hr
  ·have:g=r:=by simpa[Value.ownBlock] using hr
   subst this;exact ⟨_,_,hc⟩
 have HK:Hid (KeepsOthers w (w2.setCell ⟨b,1,none⟩ v')/\KpC w (w2.setCell ⟨b,1,none⟩ v')):=hid (by
  refine ⟨hko1.trans ((?_:KeepsOthers w1 w2).trans (KeepsOthers.setCell _ _ _)),b82 hkp1 ?_⟩
  ·refine ⟨hgrow.size,fun k o hk ho=>(hgrow.block k (Array.getElem?_eq_some_iff.1 hk).1 (fun e=>?_)).trans hk⟩
   obtain ⟨cs,fr,hc⟩:=hcell k e.symm;rw[hc]at hk;(cases hk);simp[Obj.isCells]at ho
  ·refine ⟨by simpa[World.setCell] using hgrow.size,fun k cs t fr hk ht=>?_⟩
   have hkb:k≠b:=fun e=>by
    subst e;rw[hbk]at hk;(cases hk);rcases ht with h|h<;>exact absurd h (by decide)
   (refine (Below.heap_setCell _ _ _ _ (fun e=>hkb e)).trans ((hgrow.block k (Array.getElem?_eq_some_iff.1 hk).1 (fun e=>?_)).trans hk));obtain ⟨cs',fr',hc⟩:=hcell k e.symm;rw[hc]at hk;(cases hk);rcases ht with h|h<;>exact absurd h (by decide))
 obtain ⟨ao,n',cap,rfl⟩:∃ao n' cap,v'=.slice ao n' cap:=by
  rcases hown'.2 with ⟨hv,_⟩|⟨g,cap,cur,hv,_⟩
  ·exact ⟨_,_,_,hv⟩
  ·exact ⟨_,_,_,hv⟩
 clear hown' hgrow hcell hko1 hkp1;go_wp2_with fail;go_ret2;exact ⟨rfl,HPUT.out,HB2.out,HK.out.1,HK.out.2⟩
attribute [local go_sem] Oper.semAt_some
def b0Z (xs:List CK):List UInt8:=xs.flatMap fun x=>a6K x.1.2++[10]
theorem b8i (pre:List CK) (x:CK):b0Z (pre++[x])=b0Z pre++(a6K x.1.2++[10]):=by simp[b0Z]
theorem b6M (n:Int) (h0:0<=n) (h1:n<4294967296):(Lib.itoa n).length<=40:=by
 have:=Lib.itoa_length_le n (by omega) (by omega)
 omega
theorem c1T (x:CK):(a6K x.1.2).length<=2100:=by
 obtain ⟨⟨k,c⟩,⟨h0,h1⟩,hs⟩:=x;have h2:=a9P c.ins;have h3:=b6M c.num h0 h1;simp only at hs ⊢;unfold a6K
 repeat' split
 all_goals simp
 all_goals omega
theorem b3N (xs:List CK):(b0Z xs).length<=2101*xs.length:=by
 induction xs with
 | nil=>simp[b0Z]
 | cons x xs ih=>
  have:=c1T x;have e:b0Z (x::xs)=(a6K x.1.2++[10])++b0Z xs:=by simp[b0Z]
  rw[e];simp only[List.length_append,List.length_cons,List.length_nil];omega
def c49 (s:ByteArray):List UInt8:=b0Z (a7t s.size 0 s.data.toList)
theorem c4U {T e:TypeId} {B b:Nat} {f:List CK->List Value} (n:Nat):OwnFrom n (fun pre W=>Lib.IsBuilder T e B b (f pre) W):=fun s A W row hs hg hr=>by
 have key:∀p,Lib.BuilderAt T e B b p (f s) A->Lib.BuilderAt T e B b p (f s) W:=fun p h=>by
  obtain ⟨h1,v,hb,ho,hne⟩:=h;have hbl:=(Array.getElem?_eq_some_iff.1 hb).1;refine ⟨h1,v,(hg.block b hbl (fun e=>?_)).trans hb,a0u ho (fun g hgv=>hg.block g (ho.lt g hgv).2 (fun e=>?_)),hne⟩
  ·obtain ⟨_,o,ho',hc⟩:=hr b e.symm
   rw[hb]at ho';(cases ho');simp[Obj.isCells]at hc
  ·obtain ⟨_,o,ho',hc⟩:=hr g e.symm
   obtain ⟨_,⟨rfl,_⟩|⟨g',cap,cur,rfl,_,hcur,_⟩⟩:=ho
   ·simp[Value.ownBlock]at hgv
   ·have:g'=g:=by simpa[Value.ownBlock] using hgv
    subst this;rw[hcur]at ho';(cases ho');simp[Obj.isCells]at hc
 rcases hs with h|h
 ·exact .inl (key _ h)
 ·exact .inr (key _ h)
theorem a87 (s:ByteArray) (w:World) (hE:Env w) (hs:s.size<=1024):
    Calls prog 41 #[.string s] w fun e w'=>e=.returned (.tuple #[.string ⟨(c49 s).toArray⟩,.int .i64 0])/\Below w.heap.size w w':=by
 have hsi:(s.size:Int)<=1024:=by omega
 have HE:=hid hE;clear hE;refine (callsIn_wide (n:=6)).1 ?_;refine callsIn_of_wp_marks func41 rfl trivial ?_ rfl;simp only[ntmps41,List.size_toArray,List.length_cons,List.length_nil,Nat.reduceAdd,Nat.reduceSub,Array.replicate_succ,Array.replicate_zero,List.push_toArray,List.append_toArray,List.nil_append,List.cons_append];gi_wp2_with fail;refine ⟨trivial,(b1D _ s _).mono ?_⟩;rintro e w1 ⟨rfl,rfl⟩;gi_wp2_with fail;have hsz:((w.alloc (.cells #[.pointer none,.slice none 0 0] 134)).alloc (.cells #[.string s] 9)).heap.size=w.heap.size+2:=by simp
 have hB0:Below w.heap.size w ((w.alloc (.cells #[.pointer none,.slice none 0 0] 134)).alloc (.cells #[.string s] 9)):=((Below.refl _ _).alloc (Nat.le_refl _) _).alloc (by rw[World.size_alloc];omega) _
 have hbx:((w.alloc (.cells #[.pointer none,.slice none 0 0] 134)).alloc (.cells #[.string s] 9)).heap[w.heap.size+1]?=some (.cells #[.string s] 9 (0,0)):=by
  have:=heap_alloc_new (w.alloc (.cells #[.pointer none,.slice none 0 0] 134)) (.cells #[.string s] 9);rwa[World.size_alloc]at this
 have hbd:Lib.IsBuilder 134 5 w.heap.size w.heap.size (Lib.byteCells (b0Z [])) ((w.alloc (.cells #[.pointer none,.slice none 0 0] 134)).alloc (.cells #[.string s] 9)):=.inl ⟨Nat.le_refl _,.slice none 0 0,(Below.heap_alloc _ _ _ (by simp)).trans (heap_alloc_new w _),World.ownsRow_nil _ _ _ _,by simp[Value.ownBlock]⟩
 generalize (w.alloc (.cells #[.pointer none,.slice none 0 0] 134)).alloc (.cells #[.string s] 9)=W0 at *
 refine wpIn_rangeFunc_ownH rfl (by omega) (gf:=137) (lb:=#[.pointer (some ⟨w.heap.size+1,0,none⟩)]) rfl trivial (enters_of func137 (by kernel_rfl) rfl)
  (a62 (6-1) (by omega) (w.heap.size+1) s (by omega) W0 hbx) b82 (fun W l o o' _ hl ho _=>c7u W l o o' hl ho) (Below.refl _ _) (fun _=>rfl)
  (fun pre W=>Lib.IsBuilder 134 5 w.heap.size w.heap.size (Lib.byteCells (b0Z pre)) W/\Below w.heap.size w W)
  (fun _ _ _=>False)
  (OwnFrom.and (c4U (f:=fun pre=>Lib.byteCells (b0Z pre)) _) (ownFrom_below (Nat.le_refl _) (by omega)))
  (fun _ _ _ _ _ hs _ _=>hs)
  ⟨hbd,hB0⟩
  (fun x a' W=>∃Bx,W.heap[Bx]?=some (.cells (a6q x.1.2).toArray 139 (0,0))/\a' = { tmps:=#[.string s,undef,.string ⟨#[]⟩,.int .i64 0,.pointer (some ⟨w.heap.size,0,none⟩),undef,.pointer (some ⟨Bx,0,none⟩),.string s,.int .i64 s.size,.bool (decide (1024<(s.size:Int))),.string s,.func (.func 137) #[] #[.pointer (some ⟨w.heap.size+1,0,none⟩)],.int .i64 x.1.1,.agg (a6q x.1.2).toArray,undef,undef,undef,undef,undef],defers:=[] })
  (fun x a' _ X Y row hs hg hr=>by
   obtain ⟨Bx,h1,h3⟩:=hs;(refine ⟨Bx,(hg.block Bx (Array.getElem?_eq_some_iff.1 h1).1 (fun e=>?_)).trans h1,h3⟩);obtain ⟨_,o,ho,hc⟩:=hr Bx e.symm;rw[h1]at ho;(cases ho);simp[Obj.isCells]at hc)
  ?assign ?body ?done ?stop
 case assign=>
  rintro l pre ⟨⟨k,⟨csize,cnum,⟨cop,crd,crs1,crs2,cimm⟩⟩⟩,hok⟩ W K ⟨hb1,hB1⟩ hK;unfold a6q at hK;unfold ckE;gi_wp2;have hBW:Below W.heap.size W (W.alloc (.cells #[.int .i64 csize,.int .i64 cnum,.int .i64 cop,.int .i64 crd,.int .i64 crs1,.int .i64 crs2,.int .i64 cimm] 139)):=(Below.refl _ _).alloc (Nat.le_refl _) _;exact hK _ _ ((KeepsOthers.alloc _ _).from _) (a6e hBW) ⟨b2I hb1 hBW,hB1.trans (hBW.mono hB1.size)⟩ ⟨W.heap.size,heap_alloc_new W _,rfl⟩
 case body=>
  rintro l pre x a' W hl ⟨r,hr⟩ ⟨hb1,hB1⟩ ⟨Bx,hBx,rfl⟩ hlt;have HLE:=hid (b3N pre);have HSN:=hid (b8i pre x);have HSH:=hid (fun w' h=>c0x x.1.2 w' h x.2.1.1 x.2.1.2 x.2.2)
  have HWS:=hid (fun (st:ByteArray) (W':World) (h:Lib.IsBuilder 134 5 w.heap.size w.heap.size (Lib.byteCells (b0Z pre)) W') (h1:st.size<=2100) (h2:w.heap.size<=W'.heap.size)=>
   a94 w.heap.size w.heap.size (Lib.byteCells (b0Z pre)) (st++⟨#[10]⟩) W' h (by
    have h3:=b3N pre;rw[Lib.byteCells_length,ByteArray.size_append];have e1:(⟨#[10]⟩:ByteArray).size=1:=rfl;rw[e1];omega) h2)
  obtain ⟨⟨k,⟨csize,cnum,⟨cop,crd,crs1,crs2,cimm⟩⟩⟩,hok⟩:=x;unfold a6q at hBx HSH;simp only at hBx HSH HSN
  have cell:∀q v,(#[.int .i64 csize,.int .i64 cnum,.int .i64 cop,.int .i64 crd,.int .i64 crs1,.int .i64 crs2,.int .i64 cimm]:Array Value)[q]?=some v->W.cell? ⟨Bx,q,none⟩=some v:=fun q v h=>by
   rw[Lib.cell_of_heap hBx];exact h
  have y0:=cell 0 _ rfl;have y1:=cell 1 _ rfl;have y2:=cell 2 _ rfl;have y3:=cell 3 _ rfl;have y4:=cell 4 _ rfl;have y5:=cell 5 _ rfl;have y6:=cell 6 _ rfl;have HB1:=hid hB1;have HBD:=hid hb1;clear cell hBx hb1 hB1 hbd hB0 hbx;unfold a6q;simp only;gi_wp2_with fail;refine ⟨trivial,(CallsIn.inRound l (callsIn_wide.2 (HSH.out W (HE.out.below HB1.out HE.out.1)))).mono ?_⟩;rintro e w1 ⟨st,rfl,hst,HST,hB2⟩;have HB2:=hid hB2;have HBD2:=hid (b2I HBD.out hB2);have hw1:w.heap.size<=w1.heap.size:=Nat.le_trans HB1.out.size hB2.size;have hq:¬9223372036854775807<st.size+1:=by omega
  have hqi:¬(9223372036854775807:Int)<st.size+1:=by omega
  clear hB2 y0 y1 y2 y3 y4 y5 y6 HSH;gi_wp2_with fail;refine ⟨trivial,(CallsIn.inRound l (callsIn_wide.2 (HWS.out st w1 HBD2.out hst hw1))).mono ?_⟩;rintro e w3 ⟨rfl,hbd3,hB3,hko3,hkp3⟩;have HBD3:=hid hbd3;have HB3:=hid (HB1.out.trans ((HB2.out.mono HB1.out.size).trans hB3));have HKO:=hid (KeepsOthers.trans (⟨HB2.out.size,fun k o hk _=>(HB2.out.block k (Array.getElem?_eq_some_iff.1 hk).1).trans hk⟩:KeepsOthers W w1) hko3)
  have HKP:=hid (b82 (a6e HB2.out) hkp3);clear hbd3 hB3 hko3 hkp3;gi_wp2_with fail;refine ⟨HKO.out.from _,HKP.out,?_,HB3.out⟩
  have e:Lib.byteCells (b0Z pre)++Lib.strCells (st++⟨#[10]⟩)=Lib.byteCells (b0Z pre++(a6K ⟨csize,cnum,⟨cop,crd,crs1,crs2,cimm⟩⟩++[10])):=by
   have e2:Lib.strCells (st++⟨#[10]⟩)=Lib.byteCells (a6K ⟨csize,cnum,⟨cop,crd,crs1,crs2,cimm⟩⟩++[10]):=by
    rw[<-HST.out];simp[Lib.strCells,Lib.byteCells]
   rw[e2];simp[Lib.byteCells]
  have hb:=HBD3.out;rw[e,<-HSN.out]at hb;exact .inr hb
 case done=>
  rintro D zs W hD rfl ⟨hb1,hB1⟩ hK;have hBs:=hB1.size;gi_wp2_with fail;refine ⟨trivial,(callsIn_wide.2 (Tryz.Builder_String_any_k w.heap.size w.heap.size (c49 s) W (Lib.IsBuilderF.of hb1) hBs)).mono ?_⟩;rintro e w2 ⟨rfl,_,hB2,hko⟩;have hK2:w2.heap[D]?=some (.deferred (some [])):=hko D _ hK (fun e=>by injection e with e;omega) (fun c fz e=>by cases e)
  have HB2:=hid (hB1.trans hB2);clear hko hB2;gi_wp2_with fail;refine ⟨by simp,.inl ⟨_,_,rfl,run_takeDeferred hK2,?_⟩⟩
  refine ⟨.tuple #[.string ⟨(c49 s).toArray⟩,.int .i64 0],by simp[results,results41,go_sem],rfl,?_⟩
  exact HB2.out.trans (belowK_b (w:=w) (Nat.le_refl _) w2 D _ _ (by omega) hK2 rfl rfl)
 case stop=>
  rintro D c pre W _ _ h _;exact h.elim
theorem a8q (s:ByteArray) (w:World) (hs:1024<s.size):
    Calls prog 41 #[.string s] w fun e w'=>e=.returned (.tuple #[.string ⟨#[]⟩,.int .i64 8])/\Below w.heap.size w w':=by
 have hsi:(1024:Int)<s.size:=by omega
 refine (callsIn_wide (n:=6)).1 ?_;refine callsIn_of_wp_marks func41 rfl trivial ?_ rfl;simp only[ntmps41,List.size_toArray,List.length_cons,List.length_nil,Nat.reduceAdd,Nat.reduceSub,Array.replicate_succ,Array.replicate_zero,List.push_toArray,List.append_toArray,List.nil_append,List.cons_append];gi_wp2_with fail;exact ⟨.tuple #[.string ⟨#[]⟩,.int .i64 8],by simp[results,results41,go_sem],rfl,Below.refl _ _⟩
def b6x (s:ByteArray):List UInt8×Int:=if 1024<s.size then ([],8) else (c49 s,0)
theorem a8s (s:ByteArray) (w:World) (hE:Env w):
    Calls prog 41 #[.string s] w fun e w'=>e=.returned (.tuple #[.string ⟨(b6x s).1.toArray⟩,.int .i64 (b6x s).2])/\Below w.heap.size w w':=by
 by_cases h:1024<s.size
 ·have e:b6x s=([],8):=by unfold b6x;rw[if_pos h]
  rw[e];exact a8q s w h
 ·have e:b6x s=(c49 s,0):=by unfold b6x;rw[if_neg h]
  rw[e];exact a87 s w hE (by omega)
