import Derived.Lib.OthersKept
import Derived.Test.YtbmcofdodfcnnaaGreatDoorGP
import Derived.Test.YtbmcofdodfcnnaaGreatDoorGK
import Derived.Test.YtbmcofdodfcnnaaGreatDoorGV
import Derived.Test.YtbmcofdodfcnnaaGreatDoorGV6
import Derived.Test.YtbmcofdodfcnnaaGreatDoorShelf
set_option linter.all false
set_option maxHeartbeats 400000000
set_option maxRecDepth 100000
namespace Pn
open Go
structure Fm where
 half:List UInt8
 order:List UInt8
 signed:Bool
 op:Int
 rd:Int
 rs1:Int
 rs2:Int
 hold:Nat
def fmL:List Fm:=[
 ⟨[48,48,48,105,105,105,105,105,105,105,105,100,100,100,48,48],[53,52,57,56,55,54,50,51],false,29,100,2,0,3⟩,
 ⟨[48,49,48,105,105,105,115,115,115,105,105,100,100,100,48,48],[53,52,51,50,54],false,44,100,115,0,0⟩,
 ⟨[48,49,49,105,105,105,115,115,115,105,105,100,100,100,48,48],[53,52,51,55,54],false,45,100,115,0,0⟩,
 ⟨[49,49,48,105,105,105,115,115,115,105,105,116,116,116,48,48],[53,52,51,50,54],false,52,0,115,116,0⟩,
 ⟨[49,49,49,105,105,105,115,115,115,105,105,116,116,116,48,48],[53,52,51,55,54],false,53,0,115,116,0⟩,
 ⟨[48,48,48,105,100,100,100,100,100,105,105,105,105,105,48,49],[53,52,51,50,49,48],true,29,100,100,0,6⟩,
 ⟨[48,48,49,105,100,100,100,100,100,105,105,105,105,105,48,49],[53,52,51,50,49,48],true,38,100,100,0,1⟩,
 ⟨[48,49,48,105,100,100,100,100,100,105,105,105,105,105,48,49],[53,52,51,50,49,48],true,29,100,0,0,1⟩,
 ⟨[48,49,49,105,48,48,48,49,48,105,105,105,105,105,48,49],[57,52,54,56,55,53],true,29,2,2,0,3⟩,
 ⟨[48,49,49,105,100,100,100,100,100,105,105,105,105,105,48,49],[53,52,51,50,49,48],true,60,100,0,0,7⟩,
 ⟨[49,48,48,105,48,48,100,100,100,105,105,105,105,105,48,49],[53,52,51,50,49,48],false,36,100,100,0,3⟩,
 ⟨[49,48,48,105,48,49,100,100,100,105,105,105,105,105,48,49],[53,52,51,50,49,48],false,37,100,100,0,3⟩,
 ⟨[49,48,48,105,49,48,100,100,100,105,105,105,105,105,48,49],[53,52,51,50,49,48],true,34,100,100,0,0⟩,
 ⟨[49,48,48,48,49,49,100,100,100,48,48,116,116,116,48,49],[],false,2,100,100,116,0⟩,
 ⟨[49,48,48,48,49,49,100,100,100,48,49,116,116,116,48,49],[],false,6,100,100,116,0⟩,
 ⟨[49,48,48,48,49,49,100,100,100,49,48,116,116,116,48,49],[],false,9,100,100,116,0⟩,
 ⟨[49,48,48,48,49,49,100,100,100,49,49,116,116,116,48,49],[],false,10,100,100,116,0⟩,
 ⟨[49,48,48,49,49,49,100,100,100,48,48,116,116,116,48,49],[],false,20,100,100,116,0⟩,
 ⟨[49,48,48,49,49,49,100,100,100,48,49,116,116,116,48,49],[],false,19,100,100,116,0⟩,
 ⟨[49,48,49,105,105,105,105,105,105,105,105,105,105,105,48,49],[98,52,57,56,97,54,55,51,50,49,53],true,62,0,0,0,0⟩,
 ⟨[49,49,48,105,105,105,115,115,115,105,105,105,105,105,48,49],[56,52,51,55,54,50,49,53],true,54,0,115,0,0⟩,
 ⟨[49,49,49,105,105,105,115,115,115,105,105,105,105,105,48,49],[56,52,51,55,54,50,49,53],true,55,0,115,0,0⟩,
 ⟨[48,48,48,105,100,100,100,100,100,105,105,105,105,105,49,48],[53,52,51,50,49,48],false,35,100,100,0,5⟩,
 ⟨[48,49,48,105,100,100,100,100,100,105,105,105,105,105,49,48],[53,52,51,50,55,54],false,44,100,2,0,1⟩,
 ⟨[48,49,49,105,100,100,100,100,100,105,105,105,105,105,49,48],[53,52,51,56,55,54],false,45,100,2,0,1⟩,
 ⟨[49,48,48,48,115,115,115,115,115,48,48,48,48,48,49,48],[],false,49,0,115,0,2⟩,
 ⟨[49,48,48,48,100,100,100,100,100,116,116,116,116,116,49,48],[],false,1,100,0,116,4⟩,
 ⟨[49,48,48,49,48,48,48,48,48,48,48,48,48,48,49,48],[],false,64,0,0,0,0⟩,
 ⟨[49,48,48,49,115,115,115,115,115,48,48,48,48,48,49,48],[],false,49,1,115,0,2⟩,
 ⟨[49,48,48,49,100,100,100,100,100,116,116,116,116,116,49,48],[],false,1,100,100,116,4⟩,
 ⟨[49,49,48,105,105,105,105,105,105,116,116,116,116,116,49,48],[53,52,51,50,55,54],false,52,0,2,116,0⟩,
 ⟨[49,49,49,105,105,105,105,105,105,116,116,116,116,116,49,48],[53,52,51,56,55,54],false,53,0,2,116,0⟩]
def fm0:Fm:=⟨[],[],false,0,0,0,0,0⟩
def fm (k:Nat):Fm:=fmL.getD k fm0
end Pn
namespace Go.Proofs.YtbmcofdodfcnnaaGreatDoor
open Pn
open Go.Proofs.Tryz
open Go.RowKit
def a2s (h:Nat):FuncId:=[115,117,120,114,121,119,116,118].getD h 0
def a0T (f:Pn.Fm):List Value:=[.string ⟨f.half.toArray⟩,.string ⟨f.order.toArray⟩,.bool f.signed,.int .i64 f.op,.int .i64 f.rd,.int .i64 f.rs1,.int .i64 f.rs2,.func (.func (a2s f.hold)) #[] #[]]
def c5f (k:Nat):List Value:=a0T (Pn.fm k)
def c9q:List Value:=[.string ⟨#[]⟩,.string ⟨#[]⟩,.bool false,.int .i64 0,.int .i64 0,.int .i64 0,.int .i64 0,.nilFunc]
def c09:Array Value:=((List.range 32).flatMap c5f).toArray
def c8m:Array Value:=((List.range 32).flatMap fun _=>c9q).toArray
theorem b4I (w:World):
    Calls prog 64 #[] w fun e w'=>e=.returned (.agg c09)/\w'=w.alloc (.cells c09 115):=
 a5s (n:=33) (s:=0) (y:=33) (Z:=c8m) (m:=32) (e:=114) func64 rfl (by kernel_rfl) rfl rfl rfl rfl rfl (by kernel_rfl) (by kernel_rfl) (by kernel_rfl) (by kernel_rfl) (by kernel_rfl)
end Go.Proofs.YtbmcofdodfcnnaaGreatDoor
namespace Pn
def pl (l:List UInt8) (c:Int):Nat->List Int
 | 0=>[]
 | j+1=>pl l c j++(if ((l.getD j 0).toNat:Int)=c then [15-(j:Int)] else [])
theorem a8d (l:List UInt8) (c:Int) (j:Nat):(pl l c j).length<=j:=by
 induction j with
 | zero=>simp[pl]
 | succ j ih=>simp only[pl];split<;>simp<;>omega
def places (l:List UInt8) (c:Int):List Int:=pl l c l.length
end Pn
namespace Go.Proofs.YtbmcofdodfcnnaaGreatDoor
open Pn
open Go.Proofs.Tryz
open Go.RowKit
theorem hid {p:Prop} (h:p):Hid p:=h
theorem Tryz.infoInt:(prog.info? 3).map (fun i=>(i.zero,i.size,i.bytes))=some (some (.int .i64 0),1,8):=by kernel_rfl
def b6z (l:List Int):List Value:=l.map (.int .i64)
theorem b2i (w:World) (k:Nat) (s:ByteArray) (p:Nat) {B:Nat} {w0:World} (h:Below B w0 w) (hk:B<=k):Below B w0 (w.iterAt k s p):=
 ⟨h.os,h.tape,h.output,by rw[Lib.iterAt_size];exact h.size,fun b hb=>(Lib.iterAt_other w k b s p (by omega)).trans (h.block b hb)⟩
theorem c1F {w:World} {base:Nat} {e:TypeId} {v:Value} {n:Nat} {xs:List Value} (h:w.ownsRow base e 1 v n xs) (k:Nat) (s:ByteArray) (p:Nat) (hk:k<base):(w.iterAt k s p).ownsRow base e 1 v n xs:=
 a0u h (fun g hg=>Lib.iterAt_other w k g s p (by have:=(h.lt g hg).1;omega))
theorem a4a (f:Pn.Fm) (c:Int) (w:World) (hA:∀x∈f.half,x.toNat<128) (hl:f.half.length<=16):
    Calls prog 123 #[.agg (a0T f).toArray,.int .i32 c] w fun e w'=>∃v,e=.returned v/\w'.ownsRow (w.heap.size+2) 3 1 v (Pn.places f.half c).length (b6z (Pn.places f.half c))/\Below w.heap.size w w':=by
 obtain ⟨i0,hi,hz0,hz1,hz2⟩:=info_parts Tryz.infoInt;obtain ⟨half,order,signed,op,rd,rs1,rs2,hold⟩:=f;simp only at hA hl ⊢;generalize hS:(⟨half.toArray⟩:ByteArray)=S;have HS:=hid hS;have hSz:S.size=half.length:=by rw[<-hS];simp[ByteArray.size]
 have HD:Hid (S.data.toList=half):=(show _=_ from by rw[<-hS])
 unfold a0T;simp only[hS];clear hS;go_enter func123,ntmps123;go_wp2_with fail;have e1:(w.alloc (.cells #[.string S,.string ⟨order.toArray⟩,.bool signed,.int .i64 op,.int .i64 rd,.int .i64 rs1,.int .i64 rs2,.func (.func (a2s hold)) #[] #[]] 114)).heap.size=w.heap.size+1:=by simp
 go_loopw [5] (fun v wr=>∃j:Nat,j<=S.size/\wr.heap[w.heap.size+1]?=some (.stringIter S j)/\wr.ownsRow (w.heap.size+2) 3 1 v (Pn.pl half c j).length (b6z (Pn.pl half c j))/\Below w.heap.size w wr/\w.heap.size+2<=wr.heap.size) (fun _ wr=>S.size-wr.iterPos (w.heap.size+1))
 case atStart=>
  refine ⟨0,Nat.zero_le _,?_,World.ownsRow_nil _ _ _ _,((Below.refl _ _).alloc (Nat.le_refl _) _).alloc (by rw[World.size_alloc];omega) _,by show _<=(World.alloc _ _).heap.size;rw[World.size_alloc,World.size_alloc];omega⟩
  have:=heap_alloc_last (w.alloc (.cells #[.string S,.string ⟨order.toArray⟩,.bool signed,.int .i64 op,.int .i64 rd,.int .i64 rs1,.int .i64 rs2,.func (.func (a2s hold)) #[] #[]] 114)) (.stringIter S 0);rw[e1]at this;exact this
 case round=>
  obtain ⟨j,hj,hit,hown,hB,hsz⟩:=hrel;clear e1;by_cases hlt:j<S.size
  ·have hjh:j<half.length:=by omega
   have hSj:(S[j]'hlt)=half.getD j 0:=by
    (have:S[j]'hlt=S.data.toList[j]'(by simpa using hlt):=rfl);rw[this];simp[HD.out,hjh]
   have hasc:(S[j]'hlt).toNat<128:=by
    rw[hSj,List.getD_eq_getElem?_getD,List.getElem?_eq_getElem hjh];exact hA _ (List.getElem_mem hjh)
   have hnx:∀ty,(Instr.next (.pointer (some ⟨w.heap.size+1,0,none⟩)) true ty).run prog wr=.ok (.tuple #[.bool true,.int .i64 j,.int .i32 (S[j]'hlt).toNat]) (wr.iterAt (w.heap.size+1) S (j+1)):=fun ty=>
    Lib.run_next_ascii_at wr (w.heap.size+1) S j ty hit hlt hasc
   (have HO:=hid (c1F hown (w.heap.size+1) S (j+1) (by omega)));(have HB:=hid (b2i wr (w.heap.size+1) S (j+1) hB (by omega)));have HIT:=hid (Lib.iterAt_heap wr (w.heap.size+1) S j (j+1) hit);have HIT0:=hid hit;have hsz':(wr.iterAt (w.heap.size+1) S (j+1)).heap.size=wr.heap.size:=Lib.iterAt_size _ _ _ _;(have HPL:Hid (Pn.pl half c (j+1)=Pn.pl half c j++(if ((S[j]'hlt).toNat:Int)=c then [15-(j:Int)] else [])):=(show _=_ from by rw[hSj];rfl));have hpl:=a8d half c j;(have hsz2:w.heap.size+2<=(wr.iterAt (w.heap.size+1) S (j+1)).heap.size:=by omega);(have HMS:Hid (wr.iterPos (w.heap.size+1)=j):=(show _=_ from by simp[World.iterPos,hit]));clear hit hown hB hsz hsz';generalize hr:((S[j]'hlt).toNat:Int)=r at *;clear hr hSj hasc;generalize wr.iterAt (w.heap.size+1) S (j+1)=W at *;by_cases hc:r=c
   ·have hjj:(0:Int)<=15-j:=by omega
    go_wp2_with (first
     | (at_builtin;refine wpList_append_own _ rfl _ _ 49 rfl (w.heap.size+2) 3 i0 (.int .i64 0) 1 8 underlying49 hi hz0 hz1 hz2 rfl (by decide) _ _ _ rfl (HO.out.alloc _) ⟨W.heap.size,0,none⟩ 1 1 [.int .i64 (15-(j:Int))] rfl rfl ?c1 ?c2 ?c3 ?c4 ?c5 ?_)
     | go_in)
    case c1=>
     intro j' u hj'
     match j',hj' with
     | 0,hj'=>simp at hj';subst hj';simp[Addr.add]
    (case c2=>intro u hu;simp at hu;subst hu;rfl);(case c3=>unfold maxLen;omega);(case c4=>omega);case c5=>rw[World.size_alloc];omega
    ·intro v' w1 hown' hgrow _
     have hB1:Below w.heap.size w w1:=(HB.out.alloc (by omega) _).grown hgrow (by rw[World.size_alloc];omega) (fun g hg=>by have:=(HO.out.lt g hg).1;omega)
     have hit1:w1.heap[w.heap.size+1]?=some (.stringIter S (j+1)):=by
      (rw[hgrow.block _ (by rw[World.size_alloc];omega) (fun e=>by have:=(HO.out.lt _ e.symm).1;omega)]);exact (Below.block ((Below.refl W.heap.size W).alloc (Nat.le_refl _) _) _ (by omega)).trans HIT.out
     (have hs1:w.heap.size+2<=w1.heap.size:=by have:=hgrow.size;rw[World.size_alloc]at this;omega);have HO1:=hid hown';clear hown' hgrow;go_wp2_with fail;go_roundw
     case rel=>
      (refine ⟨j+1,by omega,hit1,?_,hB1,hs1⟩);rw[HPL.out,if_pos hc];simpa[b6z] using HO1.out
     case measure=>
      simp[World.iterPos,hit1,HIT0.out];omega
   ·go_wp2_with fail
    go_roundw;case rel=>exact ⟨j+1,by omega,HIT.out,by rw[HPL.out,if_neg hc,List.append_nil];exact HO.out,HB.out,hsz2⟩
    case measure=>
     simp[World.iterPos,HIT.out,HIT0.out];omega
  ·have hje:j=S.size:=by omega
   have hnx:∀ty,(Instr.next (.pointer (some ⟨w.heap.size+1,0,none⟩)) true ty).run prog wr=.ok (.tuple #[.bool false]) wr:=fun ty=>
    Lib.run_next_end_at wr (w.heap.size+1) S j ty hit hlt
   have HO:=hid hown;go_wp2_with fail;go_ret;refine ⟨_,rfl,?_,hB⟩;unfold Pn.places;rw[<-hSz,<-hje];exact HO.out
end Go.Proofs.YtbmcofdodfcnnaaGreatDoor
namespace Pn
def b9Y (l:List UInt8) (n:Int) (j:Nat):Bool:=
 if (l.getD j 0).toNat=48\/(l.getD j 0).toNat=49 then decide (a0c n (15-j) (15-j)=((l.getD j 0).toNat:Int)-48) else true
def a8h (l:List UInt8) (n:Int):Bool:=(List.range l.length).all (b9Y l n)
theorem c4E {l:List UInt8} {n:Int} {j:Nat} (hj:j<l.length) (h:b9Y l n j=false):a8h l n=false:=by
 unfold a8h;rw[List.all_eq_false];exact ⟨j,by simpa using hj,by simp[h]⟩
theorem c0Y {l:List UInt8} {n:Int} (h:∀j,j<l.length->b9Y l n j=true):a8h l n=true:=by
 unfold a8h;rw[List.all_eq_true];intro j hj;exact h j (by simpa using hj)
end Pn
namespace Go.Proofs.YtbmcofdodfcnnaaGreatDoor
open Pn
open Go.Proofs.Tryz
open Go.RowKit
theorem a8Q (w:World):∀k,(w.drewN k).heap=w.heap
 | 0=>rfl
 | k+1=>by show (World.drewN _ k).heap=_;exact a8Q _ k
def a9h (r:Int):Bool:=r==48||r==49
theorem b4Q (r:Int) (w:World):Calls prog 182 #[.int .i32 r] w fun e w'=>e=.returned (.bool (a9h r))/\w'=w:=by
 by_cases h:r=48
 ·subst h
  go_enter func182,ntmps182;go_wp2;go_ret;exact ⟨rfl,rfl⟩
 ·go_enter func182,ntmps182
  go_wp2;go_ret;exact ⟨by simp[a9h],rfl⟩
theorem c0R (f:Pn.Fm) (n:Int) (w:World) (hA:∀x∈f.half,x.toNat<128) (hl:f.half.length<=16):
    Calls prog 125 #[.agg (a0T f).toArray,.int .i64 n] w fun e w'=>e=.returned (.bool (a8h f.half n))/\Below w.heap.size w w':=by
 obtain ⟨half,order,signed,op,rd,rs1,rs2,hold⟩:=f;simp only at hA hl ⊢;generalize hS:(⟨half.toArray⟩:ByteArray)=S;have hSz:S.size=half.length:=by rw[<-hS];simp[ByteArray.size]
 have HD:Hid (S.data.toList=half):=(show _=_ from by rw[<-hS])
 unfold a0T;simp only[hS];clear hS;go_enter func125,ntmps125;go_wp2_with fail;have e1:(w.alloc (.cells #[.string S,.string ⟨order.toArray⟩,.bool signed,.int .i64 op,.int .i64 rd,.int .i64 rs1,.int .i64 rs2,.func (.func (a2s hold)) #[] #[]] 114)).heap.size=w.heap.size+1:=by simp
 go_loopw [] (fun wr=>∃j:Nat,j<=S.size/\wr.heap[w.heap.size+1]?=some (.stringIter S j)/\(∀i,i<j->b9Y half n i=true)/\Below w.heap.size w wr) (fun wr=>S.size-wr.iterPos (w.heap.size+1))
 case atStart=>
  refine ⟨0,Nat.zero_le _,?_,fun i h=>by omega,((Below.refl _ _).alloc (Nat.le_refl _) _).alloc (by rw[World.size_alloc];omega) _⟩
  have:=heap_alloc_last (w.alloc (.cells #[.string S,.string ⟨order.toArray⟩,.bool signed,.int .i64 op,.int .i64 rd,.int .i64 rs1,.int .i64 rs2,.func (.func (a2s hold)) #[] #[]] 114)) (.stringIter S 0);rw[e1]at this;exact this
 case round=>
  obtain ⟨j,hj,hit,hall,hB⟩:=hrel;clear e1;have HALL:=hid hall;clear hall;by_cases hlt:j<S.size
  ·have hjh:j<half.length:=by omega
   have hSj:(S[j]'hlt)=half.getD j 0:=by
    (have:S[j]'hlt=S.data.toList[j]'(by simpa using hlt):=rfl);rw[this];simp[HD.out,hjh]
   have hasc:(S[j]'hlt).toNat<128:=by
    rw[hSj,List.getD_eq_getElem?_getD,List.getElem?_eq_getElem hjh];exact hA _ (List.getElem_mem hjh)
   have hnx:∀ty,(Instr.next (.pointer (some ⟨w.heap.size+1,0,none⟩)) true ty).run prog wr=.ok (.tuple #[.bool true,.int .i64 j,.int .i32 (S[j]'hlt).toNat]) (wr.iterAt (w.heap.size+1) S (j+1)):=fun ty=>
    Lib.run_next_ascii_at wr (w.heap.size+1) S j ty hit hlt hasc
   (have HB:=hid (b2i wr (w.heap.size+1) S (j+1) hB (by omega)));have HIT:=hid (Lib.iterAt_heap wr (w.heap.size+1) S j (j+1) hit);have HIT0:=hid hit;have HSJ:=hid hSj;have hasz:(w.heap.size+1)<(wr.iterAt (w.heap.size+1) S (j+1)).heap.size:=(Array.getElem?_eq_some_iff.1 HIT.out).1;clear hit hB;generalize hr:(S[j]'hlt).toNat=r at *;have HR:=hid hr;clear hr hSj;generalize wr.iterAt (w.heap.size+1) S (j+1)=W at *;by_cases hc:a9h (r:Int)=true
   ·have hjj:(0:Int)<=15-j:=by omega
    (have hr2:(r:Int)=48\/(r:Int)=49:=by simpa[a9h] using hc);have hr0:(48:Int)<=r:=by omega
    go_wp2_with (first
     | (go_at_call 182;refine (b4Q _ _).mono ?_;rintro e w' ⟨rfl,rfl⟩)
     | (go_at_call 112;refine (a3m n (15-(j:Int)) 1 _ (by omega) (by omega) (by decide) (by decide)).mono ?_;rintro e w' ⟨rfl,nk,rfl⟩))
    ·have hx:(a0c n (15-(j:Int)) (15-(j:Int)) != (r:Int)-48)=true:=by assumption
     have HF:Hid (a8h half n=false):=hid (c4E hjh (by
      unfold b9Y;(rw[<-HSJ.out,HR.out,if_pos (by omega)]);simpa using hx))
     go_ret;exact ⟨by rw[HF.out];rfl,below_drewN HB.out _⟩
    ·have hx:(a0c n (15-(j:Int)) (15-(j:Int)) != (r:Int)-48)=false:=by assumption
     have hh:(w'.drewN nk).heap=w'.heap:=a8Q w' nk;refine ⟨⟨j+1,by omega,by rw[hh];exact HIT.out,fun i hi=>?_,below_drewN HB.out _⟩,?_⟩
     ·by_cases hij:i<j
      ·exact HALL.out i hij
      ·obtain rfl:i=j:=by omega
       unfold b9Y;(rw[<-HSJ.out,HR.out,if_pos (by omega)]);simpa using hx
     ·simp[World.iterPos,HIT.out,HIT0.out]
      omega
   ·have hc':a9h (r:Int)=false:=by simpa using hc
    go_wp2_with (go_at_call 182;refine (b4Q _ _).mono ?_;rintro e w' ⟨rfl,rfl⟩);go_roundw
    case rel=>
     (refine ⟨j+1,by omega,HIT.out,fun i hi=>?_,HB.out⟩);by_cases hij:i<j
     ·exact HALL.out i hij
     ·obtain rfl:i=j:=by omega
      (have:¬(r=48\/r=49):=by intro h;rcases h with rfl|rfl<;>simp[a9h]at hc);unfold b9Y;rw[<-HSJ.out,HR.out,if_neg this]
    case measure=>
     simp[World.iterPos,HIT.out,HIT0.out];omega
  ·have hje:j=S.size:=by omega
   have hnx:∀ty,(Instr.next (.pointer (some ⟨w.heap.size+1,0,none⟩)) true ty).run prog wr=.ok (.tuple #[.bool false]) wr:=fun ty=>
    Lib.run_next_end_at wr (w.heap.size+1) S j ty hit hlt
   (have HF:Hid (a8h half n=true):=hid (c0Y fun i hi=>HALL.out i (by omega)));go_wp2_with fail;go_ret;exact ⟨by rw[HF.out];rfl,hB⟩
end Go.Proofs.YtbmcofdodfcnnaaGreatDoor
namespace Pn
def bt (n p:Int):Int:=a0c n p p
theorem c2o (n p:Int):0<=bt n p/\bt n p<=1:=by
 have:=a0K n p p;unfold bt;have e:(2:Int)^(p.toNat-p.toNat+1)=2:=by simp
 rw[e]at this;omega
theorem b6k (l:List UInt8) (c:Int) (j:Nat) (hj:j<=16):∀x∈pl l c j,0<=x/\x<=15:=by
 induction j with
 | zero=>intro x hx;simp[pl]at hx
 | succ j ih=>
  intro x hx;simp only[pl,List.mem_append]at hx;rcases hx with hx|hx
  ·exact ih (by omega) x hx
  ·split at hx
   ·simp at hx;omega
   ·simp at hx
theorem a42 (a b:Int) (a0:0<=a) (a1:a<65536) (b0:0<=b) (b1:b<65536):0<=orz a b/\orz a b<65536:=b8M a b 16 (by decide) a0 a1 b0 b1
def wrR (p:List Int) (r:Int):Nat->Int
 | 0=>0
 | j+1=>orz (wrR p r j) (bt r (p.length-1-j)*2^(p.getD j 0).toNat)
theorem b8O (n q x:Int) (h:0<=x/\x<=15):0<=bt n q*2^x.toNat/\bt n q*2^x.toNat<65536:=by
 have hb:=c2o n q;have hp:(2:Int)^x.toNat<=2^15:=a0M (by omega)
 have hp0:=pow_pos x.toNat;have e:(2:Int)^15=32768:=by decide
 rcases (show bt n q=0\/bt n q=1 by omega) with h|h<;>rw[h]<;>omega
theorem c2x (p:List Int) (r:Int) (hp:∀x∈p,0<=x/\x<=15) (j:Nat) (hj:j<=p.length):0<=wrR p r j/\wrR p r j<65536:=by
 induction j with
 | zero=>simp[wrR]
 | succ j ih=>
  have h:=ih (by omega)
  have hx:0<=p.getD j 0/\p.getD j 0<=15:=hp _ (by rw[List.getD_eq_getElem?_getD,List.getElem?_eq_getElem (by omega)];exact List.getElem_mem _)
  have hb:=b8O r (p.length-1-j) (p.getD j 0) hx;exact a42 _ _ h.1 h.2 hb.1 hb.2
end Pn
namespace Go.Proofs.YtbmcofdodfcnnaaGreatDoor
open Pn
open Go.Proofs.Tryz
open Go.RowKit
structure IA (ao:Option Addr) (l:List Int) (base:Nat) (w:World):Prop where
 at':∀j,j<l.length->∃g,ao=some ⟨g,0,none⟩/\base<=g/\g<w.heap.size/\w.cell? ⟨g,j,none⟩=some (.int .i64 (l.getD j 0))
theorem IA.next {ao:Option Addr} {l:List Int} {base:Nat} {w w':World} (h:IA ao l base w) (hB:Below w.heap.size w w'):IA ao l base w':=
 ⟨fun j hj=>by obtain ⟨g,h1,h2,h3,h4⟩:=h.at' j hj;exact ⟨g,h1,h2,by have:=hB.size;omega,(hB.cell (p:=⟨g,j,none⟩) h3).trans h4⟩⟩
theorem a4h {w:World} {base:Nat} {v:Value} {l:List Int} (h:w.ownsRow base 3 1 v l.length (b6z l)):∃ao cap,v=.slice ao l.length cap/\IA ao l base w:=by
 have h':=h;obtain ⟨h1,⟨rfl,h0⟩|⟨g,cap,cur,rfl,hg,hc,h3⟩⟩:=h
 ·exact ⟨none,0,by rw[h0],⟨fun j hj=>by omega⟩⟩
 ·refine ⟨_,cap,rfl,⟨fun j hj=>⟨g,rfl,hg,(h'.lt g rfl).2,?_⟩⟩⟩
  have:=h'.cells rfl j (.int .i64 (l.getD j 0)) (by simp[b6z,List.getElem?_eq_getElem hj])
  have hadd:(⟨g,0,none⟩:Addr).add j=⟨g,j,none⟩:=by unfold Addr.add;split<;>simp_all
  rw[hadd]at this;exact this
theorem a7g (f:Pn.Fm) (c r:Int) (w:World) (hA:∀x∈f.half,x.toNat<128) (hl:f.half.length<=16):
    Calls prog 122 #[.agg (a0T f).toArray,.int .i32 c,.int .i64 r] w fun e w'=>e=.returned (.int .i64 (Pn.wrR (Pn.places f.half c) r (Pn.places f.half c).length))/\Below w.heap.size w w':=by
 have HPl:=hid (a4a f c (w.alloc (.cells (a0T f).toArray 114)) hA hl);have HIN:=hid (b6k f.half c f.half.length hl);have hpl:=a8d f.half c f.half.length;unfold a0T at *;go_enter func122,ntmps122;go_wp2_with fail;refine HPl.out.mono ?_;rintro e w1 ⟨v,rfl,hown,hB1⟩;obtain ⟨ao,cap,rfl,hIA⟩:=a4h hown;have HB1:Hid (Below w.heap.size w w1):=hid (((Below.refl _ _).alloc (Nat.le_refl _) _).trans (hB1.mono (by simp)))
 have HIA:=hid hIA;clear hown hB1 HPl
 change Hid (∀x∈Pn.places f.half c,0<=x/\x<=15) at HIN
 change (Pn.places f.half c).length<=f.half.length at hpl
 generalize hP:Pn.places f.half c=P at *;have HP:=hid hP;clear hP;have hpl2:P.length<=16:=by omega
 go_wp2_with fail;go_loopw [7,16] (fun a i wr=>∃j:Nat,j<=P.length/\i=.int .i64 j/\a=.int .i64 (Pn.wrR P r j)/\Below w1.heap.size w1 wr) (fun _ i _=>P.length-(intOf i).toNat)
 case atStart=>exact ⟨0,Nat.zero_le _,rfl,rfl,Below.refl _ _⟩
 case round=>
  obtain ⟨j,hj,rfl,rfl,hB⟩:=hrel;have HB:=hid hB;by_cases hlt:j<P.length
  ·obtain ⟨g,rfl,hg1,hg2,hgc⟩:=(HIA.out.next hB).at' j hlt
   (have hx:=HIN.out (P.getD j 0) (by rw[List.getD_eq_getElem?_getD,List.getElem?_eq_getElem hlt];exact List.getElem_mem _));(have hbd:=c2x P r HIN.out j (by omega));have hb16:=b8O r (P.length-1-j) (P.getD j 0) hx;have HW:Hid (Pn.wrR P r (j+1)=Pn.orz (Pn.wrR P r j) (Pn.bt r (P.length-1-j)*2^(P.getD j 0).toNat)):=hid rfl;(have hlt2:(j:Int)<P.length:=by omega);clear hB;generalize P.getD j 0=X at *;generalize Pn.wrR P r j=Y at *;(go_wp2_with (go_at_call 112;refine (a3m r ((P.length:Int)-1-j) 1 _ (by omega) (by omega) (by decide) (by decide)).mono ?_;rintro e w' ⟨rfl,nk,rfl⟩));(refine ⟨⟨j+1,by omega,by go_num,?_,below_drewN HB.out _⟩,by simp[intOf];omega⟩);(have e:wrap64 (a0c r ((P.length:Int)-1-j) ((P.length:Int)-1-j)*2^X.toNat)=Pn.bt r (P.length-1-j)*2^X.toNat:=w64 _ (by unfold Pn.bt at hb16;omega));rw[HW.out,e];rfl
  ·have hjn:j=P.length:=by omega
   subst hjn;go_wp2_with fail;go_ret;exact ⟨by rw[HP.out];rfl,HB1.out.trans (HB.out.mono HB1.out.size)⟩
end Go.Proofs.YtbmcofdodfcnnaaGreatDoor
namespace Pn
def rgR (p:List Int) (n:Int):Nat->Int
 | 0=>0
 | j+1=>orz (rgR p n j*2) (bt n (p.getD j 0))
theorem b7M (p:List Int) (n:Int) (j:Nat) (hj:j<=16):0<=rgR p n j/\rgR p n j<2^j:=by
 induction j with
 | zero=>simp[rgR]
 | succ j ih=>
  have h:=ih (by omega)
  have hb:=c2o n (p.getD j 0);have hp:=pow_pos j;have e:=b2t j;have hq:(1:Int)<=2^j:=by omega
  exact b8M _ _ (j+1) (by omega) (by omega) (by omega) (by omega) (by omega)
def imB (order:List UInt8) (k:Nat):Int:=Go.Lib.indexByte [48,49,50,51,52,53,54,55,56,57,97,98] (order.getD k 0)
def b01 (half:List UInt8) (from' n:Int):Int:=
 if from'<=31 then from' else rgR (places half from') n (places half from').length+(if (places half from').length=3 then 8 else 0)
end Pn
namespace Go.Proofs.YtbmcofdodfcnnaaGreatDoor
open Pn
open Go.Proofs.Tryz
open Go.RowKit
theorem a8a (f:Pn.Fm) (c n:Int) (w:World) (hA:∀x∈f.half,x.toNat<128) (hl:f.half.length<=16) (c0:0<=c) (c1:c<=200):
    Calls prog 126 #[.agg (a0T f).toArray,.int .i64 c,.int .i64 n] w fun e w'=>e=.returned (.int .i64 (b01 f.half c n))/\Below w.heap.size w w':=by
 by_cases hc:c<=31
 ·have HR:Hid (b01 f.half c n=c):=hid (by unfold b01;rw[if_pos hc])
  unfold a0T;go_enter func126,ntmps126;go_wp2_with fail;go_ret;exact ⟨by rw[HR.out];rfl,(Below.refl _ _).alloc (Nat.le_refl _) _⟩
 ·have HPl:=hid (a4a f c (w.alloc (.cells (a0T f).toArray 114)) hA hl)
  have HIN:=hid (b6k f.half c f.half.length hl);have hpl:=a8d f.half c f.half.length;have HR:Hid (b01 f.half c n=Pn.rgR (Pn.places f.half c) n (Pn.places f.half c).length+(if (Pn.places f.half c).length=3 then 8 else 0)):=hid (by unfold b01;rw[if_neg hc])
  have hw32:IntKind.i32.wrap c=c:=by rw[IntKind.wrap_i32];omega
  unfold a0T at *;go_enter func126,ntmps126;go_wp2_with fail;refine HPl.out.mono ?_;rintro e w1 ⟨v,rfl,hown,hB1⟩;obtain ⟨ao,cap,rfl,hIA⟩:=a4h hown;have HB1:Hid (Below w.heap.size w w1):=hid (((Below.refl _ _).alloc (Nat.le_refl _) _).trans (hB1.mono (by simp)))
  have HIA:=hid hIA;clear hown hB1 HPl hIA
  change Hid (∀x∈Pn.places f.half c,0<=x/\x<=15) at HIN
  change (Pn.places f.half c).length<=f.half.length at hpl
  generalize Pn.places f.half c=P at *;have hpl2:P.length<=16:=by omega
  go_wp2_with fail;go_loopw [8,20] (fun a i wr=>∃j:Nat,j<=P.length/\i=.int .i64 j/\a=.int .i64 (Pn.rgR P n j)/\Below w1.heap.size w1 wr) (fun _ i _=>P.length-(intOf i).toNat)
  case atStart=>exact ⟨0,Nat.zero_le _,rfl,rfl,Below.refl _ _⟩
  case round=>
   obtain ⟨j,hj,rfl,rfl,hB⟩:=hrel;have HB:=hid hB;have hbd:=b7M P n j (by omega)
   have hp16:(2:Int)^j<=65536:=by
    (have:=a0M (show j<=16 by omega));(have e:(2:Int)^16=65536:=by decide);omega
   by_cases hlt:j<P.length
   ·obtain ⟨g,rfl,hg1,hg2,hgc⟩:=(HIA.out.next hB).at' j hlt
    (have hx:=HIN.out (P.getD j 0) (by rw[List.getD_eq_getElem?_getD,List.getElem?_eq_getElem hlt];exact List.getElem_mem _));have HW:Hid (Pn.rgR P n (j+1)=Pn.orz (Pn.rgR P n j*2) (Pn.bt n (P.getD j 0))):=hid rfl;(have hlt2:(j:Int)<P.length:=by omega);clear hB hg1;generalize P.getD j 0=X at *;generalize Pn.rgR P n j=Y at *;(have hY:0<=Y/\Y<65536:=by omega);clear hbd hp16;(go_wp2_with (go_at_call 112;refine (a3m n X 1 _ (by omega) (by omega) (by decide) (by decide)).mono ?_;rintro e w' ⟨rfl,nk,rfl⟩));exact ⟨⟨j+1,by omega,by go_num,by rw[HW.out];rfl,below_drewN HB.out _⟩,by simp[intOf];omega⟩
   ·have hjn:j=P.length:=by omega
    subst hjn;by_cases h3:P.length=3
    ·go_wp2_with fail
     go_ret;(have hb3:=b7M P n 3 (by decide));exact ⟨c9S (by rw[HR.out,if_pos h3,h3];exact w64 _ (by simp at hb3;omega)),HB1.out.trans (HB.out.mono HB1.out.size)⟩
    ·have h3':¬(P.length:Int)=3:=by omega
     go_wp2_with fail;go_ret;exact ⟨by rw[HR.out,if_neg h3,Int.add_zero];rfl,HB1.out.trans (HB.out.mono HB1.out.size)⟩
theorem b2w (f:Pn.Fm) (k:Nat) (w:World) (hk:k<f.order.length):
    Calls prog 124 #[.agg (a0T f).toArray,.int .i64 k] w fun e w'=>e=.returned (.int .i64 (Pn.imB f.order k))/\Below w.heap.size w w':=by
 obtain ⟨half,order,signed,op,rd,rs1,rs2,hold⟩:=f;simp only at hk ⊢
 have HS:Hid (∀(h:k<(⟨order.toArray⟩:ByteArray).size),(⟨order.toArray⟩:ByteArray)[k]'h=order.getD k 0):=hid (fun h=>by
  have:(⟨order.toArray⟩:ByteArray)[k]'h=order[k]:=rfl;rw[this];simp[hk])
 have hsz:(⟨order.toArray⟩:ByteArray).size=order.length:=by simp[ByteArray.size]
 have hkk:k<(⟨order.toArray⟩:ByteArray).size:=by omega
 have hki:(k:Int)<order.length:=by omega
 have HB:Hid (Pn.imB order k=Lib.indexByte [48,49,50,51,52,53,54,55,56,57,97,98] (order.getD k 0)):=hid rfl;unfold a0T;simp only;generalize (⟨order.toArray⟩:ByteArray)=O at *;go_enter func124,ntmps124;go_wp2_with (go_at_call 181;refine (Tryz.strings_IndexByte _ _ _).mono ?_;rintro e w' ⟨rfl,rfl⟩);go_ret;exact ⟨c9S (by rw[HB.out,<-HS.out hkk]),(Below.refl _ _).alloc (Nat.le_refl _) _⟩
end Go.Proofs.YtbmcofdodfcnnaaGreatDoor
namespace Pn
def b5d (f:Fm) (p:List Int) (n:Int) (j:Nat):Int:=
 if j=0/\f.signed=true then -(bt n (p.getD j 0)*2^(imB f.order j).toNat) else bt n (p.getD j 0)*2^(imB f.order j).toNat
def imR (f:Fm) (p:List Int) (n:Int):Nat->Int
 | 0=>0
 | j+1=>orz (imR f p n j) (b5d f p n j)
def b9X (f:Fm) (n:Int):Int:=imR f (places f.half 105) n (places f.half 105).length
structure Fok (f:Fm):Prop where
 asc:∀x∈f.half,x.toNat<128
 len:f.half.length<=16
 ord:(places f.half 105).length=f.order.length
 bit:∀k,k<f.order.length->0<=imB f.order k/\imB f.order k<=11
theorem c8G (n q x:Int) (h:0<=x/\x<=11):0<=bt n q*2^x.toNat/\bt n q*2^x.toNat<65536:=b8O n q x ⟨h.1,by omega⟩
end Pn
namespace Go.Proofs.YtbmcofdodfcnnaaGreatDoor
open Pn
open Go.Proofs.Tryz
open Go.RowKit
theorem c27 (f:Pn.Fm) (n:Int) (w:World) (hf:Pn.Fok f):
    Calls prog 127 #[.agg (a0T f).toArray,.int .i64 n] w fun e w'=>e=.returned (.int .i64 (b9X f n))/\Below w.heap.size w w':=by
 have hA:=hf.asc;have hl:=hf.len;have HPl:=hid (a4a f 105 (w.alloc (.cells (a0T f).toArray 114)) hA hl);have HIN:=hid (b6k f.half 105 f.half.length hl);have hpl:=a8d f.half 105 f.half.length;have HFR:=hid (CellsAt.new w (a0T f) 114);have HR:Hid (b9X f n=Pn.imR f (Pn.places f.half 105) n (Pn.places f.half 105).length):=hid rfl;have hord:=hf.ord;have HBI:=hid hf.bit;have HIMB:=hid (fun k w' hk=>b2w f k w' hk)
 unfold a0T at *;go_enter func127,ntmps127;go_wp2_with fail;refine HPl.out.mono ?_;rintro e w1 ⟨v,rfl,hown,hB1⟩;obtain ⟨ao,cap,rfl,hIA⟩:=a4h hown;have HB1:Hid (Below w.heap.size w w1):=hid (((Below.refl _ _).alloc (Nat.le_refl _) _).trans (hB1.mono (by simp)))
 have HIA:=hid hIA;have HFC:=hid (HFR.out.next hB1);clear hown hB1 HPl hIA HFR
 change Hid (∀x∈Pn.places f.half 105,0<=x/\x<=15) at HIN
 change (Pn.places f.half 105).length<=f.half.length at hpl
 generalize Pn.places f.half 105=P at *;have hpl2:P.length<=16:=by omega
 go_wp2_with fail;go_loopw [5,12] (fun a i wr=>∃j:Nat,j<=P.length/\i=.int .i64 j/\a=.int .i64 (Pn.imR f P n j)/\Below w1.heap.size w1 wr) (fun _ i _=>P.length-(intOf i).toNat)
 case atStart=>exact ⟨0,Nat.zero_le _,rfl,rfl,Below.refl _ _⟩
 case round=>
  obtain ⟨j,hj,rfl,rfl,hB⟩:=hrel;have HB:=hid hB;by_cases hlt:j<P.length
  ·obtain ⟨g,rfl,hg1,hg2,hgc⟩:=(HIA.out.next hB).at' j hlt
   (have hx:=HIN.out (P.getD j 0) (by rw[List.getD_eq_getElem?_getD,List.getElem?_eq_getElem hlt];exact List.getElem_mem _));(have hbi:=HBI.out j (by omega));have hb:=c8G n (P.getD j 0) (Pn.imB f.order j) hbi;have HW:Hid (Pn.imR f P n (j+1)=Pn.orz (Pn.imR f P n j) (b5d f P n j)):=hid rfl;have HT:Hid (b5d f P n j=if j=0/\f.signed=true then -(Pn.bt n (P.getD j 0)*2^(Pn.imB f.order j).toNat) else Pn.bt n (P.getD j 0)*2^(Pn.imB f.order j).toNat):=hid rfl;(have hlt2:(j:Int)<P.length:=by omega);have hFr:=HFC.out.next hB;have c0:=cell_regrown (hFr.2.2 0 _ rfl);have c1:=cell_regrown (hFr.2.2 1 _ rfl);have c2:=cell_regrown (hFr.2.2 2 _ rfl);have c3:=cell_regrown (hFr.2.2 3 _ rfl);have c4:=cell_regrown (hFr.2.2 4 _ rfl);have c5:=cell_regrown (hFr.2.2 5 _ rfl);have c6:=cell_regrown (hFr.2.2 6 _ rfl);have c7:=cell_regrown (hFr.2.2 7 _ rfl);(have HIMB':=hid (fun w'=>HIMB.out j w' (by omega)));clear hB hg1 hFr;generalize P.getD j 0=X at *;generalize Pn.imR f P n j=Y at *;generalize Pn.imB f.order j=Z at *;(have wa:IntKind.i64.wrap (a0c n X X*2^Z.toNat)=a0c n X X*2^Z.toNat:=IntWalk.i64_in _ (by unfold Pn.bt at hb;omega));go_wp2_with fail;refine wp_region_quiet_below (by kernel_rfl) (by kernel_rfl) ?_
   repeat (quiet_step (first
    | (go_at_call 112;exact Calls.regrown_of ((a3m n X 1 _ (by omega) (by omega) (by decide) (by decide)).mono (by rintro e w' ⟨rfl,nk,rfl⟩;exact ⟨rfl,below_drewN (Below.refl _ _) _⟩)))
    | (go_at_call 124;exact Calls.regrown_of (HIMB'.out _))))
   refine wpQuiet_nil ?_;intro _ hw';obtain ⟨⟨dq,osq⟩,hw''⟩:=hw';subst hw'';by_cases h0:j=0
   ·subst h0
    by_cases hsg:f.signed=true
    ·go_wp2_with fail
     (refine ⟨⟨1,by omega,rfl,?_,HB.out.trans ((below_regrown wr dq osq).mono HB.out.size)⟩,by simp[intOf];omega⟩);(have e:wrap64 (-(a0c n X X*2^Z.toNat))=-(Pn.bt n X*2^Z.toNat):=w64 _ (by unfold Pn.bt at hb;omega));rw[HW.out,HT.out,if_pos ⟨rfl,hsg⟩,e];rfl
    ·have hsg':f.signed=false:=by simpa using hsg
     go_wp2_with fail;(refine ⟨⟨1,by omega,rfl,?_,HB.out.trans ((below_regrown wr dq osq).mono HB.out.size)⟩,by simp[intOf];omega⟩);(rw[HW.out,HT.out,if_neg (fun h=>hsg h.2)]);rfl
   ·have h0':¬(j:Int)=0:=by omega
    go_wp2_with fail;(refine ⟨⟨j+1,by omega,by go_num,?_,HB.out.trans ((below_regrown wr dq osq).mono HB.out.size)⟩,by simp[intOf];omega⟩);(rw[HW.out,HT.out,if_neg (fun h=>h0 h.1)]);rfl
  ·have hjn:j=P.length:=by omega
   subst hjn;go_wp2_with fail;go_ret;exact ⟨by rw[HR.out];rfl,HB1.out.trans (HB.out.mono HB1.out.size)⟩
end Go.Proofs.YtbmcofdodfcnnaaGreatDoor
namespace Pn
def b2C (l:List UInt8):Nat->Int
 | 0=>0
 | j+1=>if (l.getD j 0).toNat=49 then orz (b2C l j) (2^(15-(j:Int)).toNat) else b2C l j
theorem b3d (l:List UInt8) (j:Nat) (hj:j<=16):0<=b2C l j/\b2C l j<65536:=by
 induction j with
 | zero=>simp[b2C]
 | succ j ih=>
  have h:=ih (by omega)
  simp only[b2C]
  split
  ·have hp:(2:Int)^(15-(j:Int)).toNat<=2^15:=a0M (by omega)
   (have e:(2:Int)^15=32768:=by decide);have hp0:=pow_pos (15-(j:Int)).toNat;exact a42 _ _ h.1 h.2 (by omega) (by omega)
  ·exact h
def wiR (f:Fm) (p:List Int) (imm:Int) (h0:Int):Nat->Int
 | 0=>h0
 | j+1=>orz (wiR f p imm h0 j) (bt imm (imB f.order j)*2^(p.getD j 0).toNat)
theorem c6N (f:Fm) (p:List Int) (imm h0:Int) (b0:0<=h0) (b1:h0<65536) (hp:∀x∈p,0<=x/\x<=15) (j:Nat) (hj:j<=p.length):0<=wiR f p imm h0 j/\wiR f p imm h0 j<65536:=by
 induction j with
 | zero=>exact ⟨b0,b1⟩
 | succ j ih=>
  have h:=ih (by omega)
  have hx:0<=p.getD j 0/\p.getD j 0<=15:=hp _ (by rw[List.getD_eq_getElem?_getD,List.getElem?_eq_getElem (by omega)];exact List.getElem_mem _)
  have hb:=b8O imm (imB f.order j) (p.getD j 0) hx;exact a42 _ _ h.1 h.2 hb.1 hb.2
def b9Z (f:Fm) (c r:Int):Int:=wrR (places f.half c) r (places f.half c).length
theorem b3o (f:Fm) (hf:Fok f) (c r:Int):0<=b9Z f c r/\b9Z f c r<65536:=c2x _ _ (b6k f.half c f.half.length hf.len) _ (Nat.le_refl _)
def b12 (f:Fm) (i:Ins):Int:=orz (b2C f.half f.half.length) (orz (orz (b9Z f 100 i.rd) (b9Z f 115 i.rs1)) (b9Z f 116 i.rs2))
theorem b5n (f:Fm) (hf:Fok f) (i:Ins):0<=b12 f i/\b12 f i<65536:=by
 have h0:=b3d f.half f.half.length hf.len;have h1:=b3o f hf 100 i.rd;have h2:=b3o f hf 115 i.rs1;have h3:=b3o f hf 116 i.rs2;have h4:=a42 _ _ h1.1 h1.2 h2.1 h2.2;have h5:=a42 _ _ h4.1 h4.2 h3.1 h3.2;exact a42 _ _ h0.1 h0.2 h5.1 h5.2
def a2J (f:Fm) (i:Ins):Int:=wiR f (places f.half 105) i.imm (b12 f i) (places f.half 105).length
end Pn
namespace Go.Proofs.YtbmcofdodfcnnaaGreatDoor
open Pn
open Go.Proofs.Tryz
open Go.RowKit
structure WSt (w0:World) (fr ic:List Value) (w:World):Prop where
 f:CellsAt w0.heap.size fr w
 i:CellsAt (w0.heap.size+1) ic w
 b:Below w0.heap.size w0 w
theorem WSt.next {w0:World} {fr ic:List Value} {w w':World} (h:WSt w0 fr ic w) (hB:Below w.heap.size w w'):WSt w0 fr ic w':=
 ⟨h.f.next hB,h.i.next hB,h.b.trans (hB.mono h.b.size)⟩
theorem WSt.iter {w0:World} {fr ic:List Value} {w:World} (h:WSt w0 fr ic w) (s:ByteArray) (p:Nat):WSt w0 fr ic (w.iterAt (w0.heap.size+2) s p):=
 ⟨h.f.step (b2i w (w0.heap.size+2) s p (Below.refl (w0.heap.size+2) w) (Nat.le_refl _)) (by omega),h.i.step (b2i w (w0.heap.size+2) s p (Below.refl (w0.heap.size+2) w) (Nat.le_refl _)) (by omega),b2i w _ s p h.b (by omega)⟩
theorem b68 (f:Pn.Fm) (i:Pn.Ins) (w:World) (hf:Pn.Fok f):
    Calls prog 65 #[.agg (a0T f).toArray,i.val] w fun e w'=>e=.returned (.int .i64 (a2J f i))/\Below w.heap.size w w':=by
 have hA:=hf.asc;have hl:=hf.len;obtain ⟨iop,ird,irs1,irs2,iimm⟩:=i;have HW:Hid (a2J f ⟨iop,ird,irs1,irs2,iimm⟩=Pn.wiR f (Pn.places f.half 105) iimm (b12 f ⟨iop,ird,irs1,irs2,iimm⟩) (Pn.places f.half 105).length):=hid rfl;have HWB:Hid (b12 f ⟨iop,ird,irs1,irs2,iimm⟩=Pn.orz (b2C f.half f.half.length) (Pn.orz (Pn.orz (b9Z f 100 ird) (b9Z f 115 irs1)) (b9Z f 116 irs2))):=hid rfl;have HBD:=hid (b5n f hf ⟨iop,ird,irs1,irs2,iimm⟩);generalize b12 f ⟨iop,ird,irs1,irs2,iimm⟩=WB at *;have HPl:=hid (fun w'=>a4a f 105 w' hA hl)
 have HIN:=hid (b6k f.half 105 f.half.length hl);have hpl:=a8d f.half 105 f.half.length;have hord:=hf.ord;have HBI:=hid hf.bit;have HIMB:=hid (fun k w' hk=>b2w f k w' hk)
 have HWR:=hid (fun c r w'=>(show Calls prog 122 #[.agg (a0T f).toArray,.int .i32 c,.int .i64 r] w' fun e w''=>e=.returned (.int .i64 (b9Z f c r))/\Below w'.heap.size w' w'' from a7g f c r w' hA hl))
 have HFR:=hid (CellsAt.new w (a0T f) 114);unfold Pn.Ins.val;unfold a0T at *;simp only at *;generalize hS:(⟨f.half.toArray⟩:ByteArray)=S at *;have HS:Hid (S.data.toList=f.half):=hid (by rw[<-hS])
 have hSz:S.size=f.half.length:=by rw[<-hS];simp[ByteArray.size]
 clear hS;go_enter func65,ntmps65;go_wp2_with fail;go_loopw [5] (fun a wr=>∃j:Nat,j<=S.size/\a=.int .i64 (b2C f.half j)/\wr.heap[w.heap.size+2]?=some (.stringIter S j)/\WSt w [.string S,.string ⟨f.order.toArray⟩,.bool f.signed,.int .i64 f.op,.int .i64 f.rd,.int .i64 f.rs1,.int .i64 f.rs2,.func (.func (a2s f.hold)) #[] #[]] [.int .i64 iop,.int .i64 ird,.int .i64 irs1,.int .i64 irs2,.int .i64 iimm] wr) (fun _ wr=>S.size-wr.iterPos (w.heap.size+2))
 case atStart=>
  have e2:((w.alloc (.cells #[.string S,.string ⟨f.order.toArray⟩,.bool f.signed,.int .i64 f.op,.int .i64 f.rd,.int .i64 f.rs1,.int .i64 f.rs2,.func (.func (a2s f.hold)) #[] #[]] 114)).alloc (.cells #[.int .i64 iop,.int .i64 ird,.int .i64 irs1,.int .i64 irs2,.int .i64 iimm] 26)).heap.size=w.heap.size+2:=by simp
  have e3:=heap_alloc_last ((w.alloc (.cells #[.string S,.string ⟨f.order.toArray⟩,.bool f.signed,.int .i64 f.op,.int .i64 f.rd,.int .i64 f.rs1,.int .i64 f.rs2,.func (.func (a2s f.hold)) #[] #[]] 114)).alloc (.cells #[.int .i64 iop,.int .i64 ird,.int .i64 irs1,.int .i64 irs2,.int .i64 iimm] 26)) (.stringIter S 0);rw[e2]at e3;have e4:=CellsAt.new (w.alloc (.cells #[.string S,.string ⟨f.order.toArray⟩,.bool f.signed,.int .i64 f.op,.int .i64 f.rd,.int .i64 f.rs1,.int .i64 f.rs2,.func (.func (a2s f.hold)) #[] #[]] 114)) [.int .i64 iop,.int .i64 ird,.int .i64 irs1,.int .i64 irs2,.int .i64 iimm] 26;rw[World.size_alloc]at e4;exact ⟨0,Nat.zero_le _,rfl,e3,⟨(HFR.out.alloc _).alloc _,e4.alloc _,(((Below.refl _ _).alloc (Nat.le_refl _) _).alloc (by rw[World.size_alloc];omega) _).alloc (by rw[World.size_alloc,World.size_alloc];omega) _⟩⟩
 case round=>
  obtain ⟨j,hj,rfl,hit,hw⟩:=hrel;by_cases hlt:j<S.size
  ·have hjh:j<f.half.length:=by omega
   have hSj:(S[j]'hlt)=f.half.getD j 0:=by
    (have:S[j]'hlt=S.data.toList[j]'(by simpa using hlt):=rfl);rw[this,List.getElem_of_eq HS.out];simp[hjh]
   have hasc:(S[j]'hlt).toNat<128:=by
    rw[hSj,List.getD_eq_getElem?_getD,List.getElem?_eq_getElem hjh];exact hA _ (List.getElem_mem hjh)
   have hnx:∀ty,(Instr.next (.pointer (some ⟨w.heap.size+1+1,0,none⟩)) true ty).run prog wr=.ok (.tuple #[.bool true,.int .i64 j,.int .i32 (S[j]'hlt).toNat]) (wr.iterAt (w.heap.size+2) S (j+1)):=fun ty=>
    Lib.run_next_ascii_at wr (w.heap.size+2) S j ty hit hlt hasc
   have HWS:=hid (hw.iter S (j+1));have HIT:=hid (Lib.iterAt_heap wr (w.heap.size+2) S j (j+1) hit);have HIT0:=hid hit;(have hbd:=b3d f.half j (by omega));(have HO:Hid (b2C f.half (j+1)=if (S[j]'hlt).toNat=49 then Pn.orz (b2C f.half j) (2^(15-(j:Int)).toNat) else b2C f.half j):=hid (by rw[hSj];rfl));clear hit hw;generalize (S[j]'hlt).toNat=r at *;clear hSj hasc;generalize b2C f.half j=Y at *;generalize wr.iterAt (w.heap.size+2) S (j+1)=W at *;by_cases hc:r=49
   ·subst hc
    have HP:Hid (wrap64 (2^(15-j))=2^(15-(j:Int)).toNat):=hid (by
     (have hp:(2:Int)^(15-j)<=2^15:=a0M (by omega));(have hp1:(2:Int)^15=32768:=by decide);have hp0:=Pn.pow_pos (15-j);(rw[show (15-(j:Int)).toNat=15-j by omega]);exact w64 _ (by omega))
    go_wp2_with fail;refine ⟨⟨j+1,by omega,?_,HIT.out,HWS.out⟩,?_⟩
    ·rw[HO.out,if_pos rfl,HP.out]
     rfl
    ·simp[World.iterPos,HIT.out,HIT0.out]
     omega
   ·have hc':¬(r:Int)=49:=by omega
    go_wp2_with fail;go_roundw;case rel=>exact ⟨j+1,by omega,by rw[HO.out,if_neg hc],HIT.out,HWS.out⟩
    case measure=>
     simp[World.iterPos,HIT.out,HIT0.out];omega
  ·have hje:j=S.size:=by omega
   have hnx:∀ty,(Instr.next (.pointer (some ⟨w.heap.size+1+1,0,none⟩)) true ty).run prog wr=.ok (.tuple #[.bool false]) wr:=fun ty=>
    Lib.run_next_end_at wr (w.heap.size+2) S j ty hit hlt
   subst hje;(have hbd:=b3d f.half S.size (by omega));rw[hSz]at hbd ⊢;have HWS:=hid hw;clear hw hit;generalize b2C f.half f.half.length=Y at *;have c0:=cell_regrown (HWS.out.f.2.2 0 _ rfl);have c1:=cell_regrown (HWS.out.f.2.2 1 _ rfl);have c2:=cell_regrown (HWS.out.f.2.2 2 _ rfl);have c3:=cell_regrown (HWS.out.f.2.2 3 _ rfl);have c4:=cell_regrown (HWS.out.f.2.2 4 _ rfl);have c5:=cell_regrown (HWS.out.f.2.2 5 _ rfl);have c6:=cell_regrown (HWS.out.f.2.2 6 _ rfl);have c7:=cell_regrown (HWS.out.f.2.2 7 _ rfl);have d1:=cell_regrown (HWS.out.i.2.2 1 _ rfl);have d2:=cell_regrown (HWS.out.i.2.2 2 _ rfl);have d3:=cell_regrown (HWS.out.i.2.2 3 _ rfl);go_wp2_with fail;refine wp_region_quiet_below (by kernel_rfl) (by kernel_rfl) ?_
   repeat (quiet_step (first
    | (go_at_call 122;exact Calls.regrown_of (HWR.out _ _ _))))
   refine wpQuiet_nil ?_;intro _ hw';obtain ⟨⟨dq,osq⟩,hw''⟩:=hw';subst hw'';have HE:=HWB.out.symm;unfold Pn.orz at HE;rw[HE];have HW3:=hid (HWS.out.next (below_regrown wr dq osq))
   change Hid (∀x∈Pn.places f.half 105,0<=x/\x<=15) at HIN
   change (Pn.places f.half 105).length<=f.half.length at hpl
   clear c0 c1 c2 c3 c4 c5 c6 c7 d1 d2 d3 HE HWB HWR HWS HFR;simp only at *;generalize Go.Sort.grow (redrawn wr dq) osq=W3 at *;have c0:=HW3.out.f.2.2 0 _ rfl;have c1:=HW3.out.f.2.2 1 _ rfl;have c2:=HW3.out.f.2.2 2 _ rfl;have c3:=HW3.out.f.2.2 3 _ rfl;have c4:=HW3.out.f.2.2 4 _ rfl;have c5:=HW3.out.f.2.2 5 _ rfl;have c6:=HW3.out.f.2.2 6 _ rfl;have c7:=HW3.out.f.2.2 7 _ rfl;go_wp2_with fail;refine (HPl.out _).mono ?_;rintro e w4 ⟨v,rfl,hown,hB4⟩;obtain ⟨ao,cap,rfl,hIA⟩:=a4h hown;have HIA:=hid hIA;have HW4:=hid (HW3.out.next hB4);clear hown hB4 hIA HW3 HPl c0 c1 c2 c3 c4 c5 c6 c7;generalize Pn.places f.half 105=P at *;(have hpl2:P.length<=16:=by omega);go_wp2_with fail;(go_loopw [5,43] (fun a i wr=>∃j:Nat,j<=P.length/\i=.int .i64 j/\a=.int .i64 (Pn.wiR f P iimm WB j)/\Below w4.heap.size w4 wr) (fun _ i _=>P.length-(intOf i).toNat));case atStart=>exact ⟨0,Nat.zero_le _,rfl,rfl,Below.refl _ _⟩
   case round=>
    obtain ⟨j,hj2,rfl,rfl,hB⟩:=hrel;have HB:=hid hB;by_cases hlt2:j<P.length
    ·obtain ⟨g,rfl,hg1,hg2,hgc⟩:=(HIA.out.next hB).at' j hlt2
     (have hx:=HIN.out (P.getD j 0) (by rw[List.getD_eq_getElem?_getD,List.getElem?_eq_getElem hlt2];exact List.getElem_mem _));(have hbi:=HBI.out j (by omega));have hb:=b8O iimm (Pn.imB f.order j) (P.getD j 0) hx;have HWW:Hid (Pn.wiR f P iimm WB (j+1)=Pn.orz (Pn.wiR f P iimm WB j) (Pn.bt iimm (Pn.imB f.order j)*2^(P.getD j 0).toNat)):=hid rfl;(have hlt3:(j:Int)<P.length:=by omega);have HW5:=hid (HW4.out.next hB);have c0:=cell_regrown (HW5.out.f.2.2 0 _ rfl);have c1:=cell_regrown (HW5.out.f.2.2 1 _ rfl);have c2:=cell_regrown (HW5.out.f.2.2 2 _ rfl);have c3:=cell_regrown (HW5.out.f.2.2 3 _ rfl);have c4:=cell_regrown (HW5.out.f.2.2 4 _ rfl);have c5:=cell_regrown (HW5.out.f.2.2 5 _ rfl);have c6:=cell_regrown (HW5.out.f.2.2 6 _ rfl);have c7:=cell_regrown (HW5.out.f.2.2 7 _ rfl);have d4:=cell_regrown (HW5.out.i.2.2 4 _ rfl);(have HIMB':=hid (fun w'=>HIMB.out j w' (by omega)));clear hB hg1;generalize P.getD j 0=X at *;generalize Pn.wiR f P iimm WB j=Y2 at *;generalize Pn.imB f.order j=Z at *;(have wa:IntKind.i64.wrap (a0c iimm Z Z*2^X.toNat)=a0c iimm Z Z*2^X.toNat:=IntWalk.i64_in _ (by unfold Pn.bt at hb;omega));go_wp2_with fail;refine wp_region_quiet_below (by kernel_rfl) (by kernel_rfl) ?_
     repeat (quiet_step (first
      | (go_at_call 112;exact Calls.regrown_of ((a3m iimm Z 1 _ (by omega) (by omega) (by decide) (by decide)).mono (by rintro e w' ⟨rfl,nk,rfl⟩;exact ⟨rfl,below_drewN (Below.refl _ _) _⟩)))
      | (go_at_call 124;exact Calls.regrown_of (HIMB'.out _))))
     refine wpQuiet_nil ?_;intro _ hw';obtain ⟨⟨dq,osq⟩,hw''⟩:=hw';subst hw'';go_wp2_with fail;(refine ⟨⟨j+1,by omega,by go_num,?_,HB.out.trans ((below_regrown wr dq osq).mono HB.out.size)⟩,by simp[intOf];omega⟩);rw[HWW.out];rfl
    ·have hjn:j=P.length:=by omega
     subst hjn;go_wp2_with fail;go_ret;exact ⟨by rw[HW.out];rfl,HW4.out.b.trans (HB.out.mono HW4.out.b.size)⟩
end Go.Proofs.YtbmcofdodfcnnaaGreatDoor
namespace Pn
def a11 (h:Nat) (i:Ins):Bool:=match h with
 | 0=>true
 | 1=>i.rd != 0
 | 2=>i.rs1 != 0
 | 3=>i.imm != 0
 | 4=>i.rd != 0&&i.rs2 != 0
 | 5=>i.rd != 0&&i.imm != 0
 | 6=>(i.rd != 0)==(i.imm != 0)
 | 7=>i.rd != 0&&i.imm != 0&&i.rd != 2
 | _=>false
def a01 (f:Fm) (n:Int):Ins:=⟨f.op,b01 f.half f.rd n,b01 f.half f.rs1 n,b01 f.half f.rs2 n,b9X f n⟩
def a2n (f:Fm) (n:Int):Ins×Bool:=if a8h f.half n then (a01 f n,a11 f.hold (a01 f n)) else (⟨0,0,0,0,0⟩,false)
end Pn
namespace Go.Proofs.YtbmcofdodfcnnaaGreatDoor
open Pn
open Go.Proofs.Tryz
open Go.RowKit
theorem c7Q (i:Pn.Ins) (w:World):Calls prog 115 #[i.val] w fun e w'=>e=.returned (.bool (a11 0 i))/\Below w.heap.size w w':=by
 obtain ⟨op,rd,rs1,rs2,imm⟩:=i;unfold Pn.Ins.val;go_enter func115,ntmps115;go_wp2_with fail
 all_goals
  go_ret;exact ⟨by first|rfl|simp_all[a11],(Below.refl _ _).alloc (Nat.le_refl _) _⟩
theorem c7o (i:Pn.Ins) (w:World):Calls prog 117 #[i.val] w fun e w'=>e=.returned (.bool (a11 1 i))/\Below w.heap.size w w':=by
 obtain ⟨op,rd,rs1,rs2,imm⟩:=i;unfold Pn.Ins.val;go_enter func117,ntmps117;go_wp2_with fail
 all_goals
  go_ret;exact ⟨by first|rfl|simp_all[a11],(Below.refl _ _).alloc (Nat.le_refl _) _⟩
theorem c7c (i:Pn.Ins) (w:World):Calls prog 120 #[i.val] w fun e w'=>e=.returned (.bool (a11 2 i))/\Below w.heap.size w w':=by
 obtain ⟨op,rd,rs1,rs2,imm⟩:=i;unfold Pn.Ins.val;go_enter func120,ntmps120;go_wp2_with fail
 all_goals
  go_ret;exact ⟨by first|rfl|simp_all[a11],(Below.refl _ _).alloc (Nat.le_refl _) _⟩
theorem c7N (i:Pn.Ins) (w:World):Calls prog 114 #[i.val] w fun e w'=>e=.returned (.bool (a11 3 i))/\Below w.heap.size w w':=by
 obtain ⟨op,rd,rs1,rs2,imm⟩:=i;unfold Pn.Ins.val;go_enter func114,ntmps114;go_wp2_with fail
 all_goals
  go_ret;exact ⟨by first|rfl|simp_all[a11],(Below.refl _ _).alloc (Nat.le_refl _) _⟩
theorem c79 (i:Pn.Ins) (w:World):Calls prog 121 #[i.val] w fun e w'=>e=.returned (.bool (a11 4 i))/\Below w.heap.size w w':=by
 obtain ⟨op,rd,rs1,rs2,imm⟩:=i;unfold Pn.Ins.val;go_enter func121,ntmps121;go_wp2_with fail
 all_goals
  go_ret;exact ⟨by first|rfl|simp_all[a11],(Below.refl _ _).alloc (Nat.le_refl _) _⟩
theorem c3a (i:Pn.Ins) (w:World):Calls prog 119 #[i.val] w fun e w'=>e=.returned (.bool (a11 5 i))/\Below w.heap.size w w':=by
 obtain ⟨op,rd,rs1,rs2,imm⟩:=i;unfold Pn.Ins.val;go_enter func119,ntmps119;go_wp2_with fail
 all_goals
  go_ret;exact ⟨by first|rfl|simp_all[a11],(Below.refl _ _).alloc (Nat.le_refl _) _⟩
theorem c7e (i:Pn.Ins) (w:World):Calls prog 116 #[i.val] w fun e w'=>e=.returned (.bool (a11 6 i))/\Below w.heap.size w w':=by
 obtain ⟨op,rd,rs1,rs2,imm⟩:=i;unfold Pn.Ins.val;go_enter func116,ntmps116;go_wp2_with fail
 all_goals
  go_ret;exact ⟨by first|rfl|simp_all[a11],(Below.refl _ _).alloc (Nat.le_refl _) _⟩
theorem c7Y (i:Pn.Ins) (w:World):Calls prog 118 #[i.val] w fun e w'=>e=.returned (.bool (a11 7 i))/\Below w.heap.size w w':=by
 have H5:=hid (fun w'=>c3a i w')
 have HV:Hid (a11 7 i=(a11 5 i&&i.rd != 2)):=hid rfl;generalize a11 5 i=X at *;obtain ⟨op,rd,rs1,rs2,imm⟩:=i;unfold Pn.Ins.val at *;simp only at *;go_enter func118,ntmps118;go_wp2_with fail;refine (H5.out _).mono ?_;rintro e w1 ⟨rfl,hB1⟩;have hs:=hB1.size;obtain ⟨hi0,hi1,hic⟩:=(CellsAt.new w [.int .i64 op,.int .i64 rd,.int .i64 rs1,.int .i64 rs2,.int .i64 imm] 26).next hB1;have c1:=hic 1 _ rfl;have HB:Hid (Below w.heap.size w w1):=hid (((Below.refl _ _).alloc (Nat.le_refl _) _).trans (hB1.mono (by simp)))
 clear hB1 hic hs;cases X
 ·go_wp2_with fail
  all_goals
   go_ret;exact ⟨by rw[HV.out];rfl,HB.out⟩
 ·go_wp2_with fail
  all_goals
   go_ret;exact ⟨by rw[HV.out];rfl,HB.out⟩
theorem c1m (h:Nat) (hh:h<8) (i:Pn.Ins) (w:World):Calls prog (a2s h) #[i.val] w fun e w'=>e=.returned (.bool (a11 h i))/\Below w.heap.size w w':=by
 match h,hh with
 | 0,_=>exact c7Q i w
 | 1,_=>exact c7o i w
 | 2,_=>exact c7c i w
 | 3,_=>exact c7N i w
 | 4,_=>exact c79 i w
 | 5,_=>exact c3a i w
 | 6,_=>exact c7e i w
 | 7,_=>exact c7Y i w
