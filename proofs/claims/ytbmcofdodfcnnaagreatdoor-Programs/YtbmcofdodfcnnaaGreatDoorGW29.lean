import Derived.Deep.CutRange
import Derived.Test.YtbmcofdodfcnnaaGreatDoorGM55
import Derived.Test.YtbmcofdodfcnnaaGreatDoorGXA
set_option linter.all false
set_option maxHeartbeats 400000000
set_option maxRecDepth 100000
namespace Pn
open Go
def rdN (l:List UInt8) (k:Nat):Int:=
 if (itR l k).2=2 then (if (a0S (itR l k).1).2=0/\(a0S (itR l k).1).1=a0Q ((l.drop k).take 2) then 2 else 0) else (itR l k).2
def rdX (l:List UInt8) (k:Nat):List UInt8×Int:=
 if rdN l k=0 then (if k+2<=l.length then ([46,104,97,108,102,32]++Lib.itoa (a0Q ((l.drop k).take 2)),2) else ([46,98,121,116,101,32]++Lib.itoa (a0Q ((l.drop k).take 1)),1))
 else ((if (itR l k).2=2 then [99,46]++(shw (itR l k).1).1 else (shw (itR l k).1).1),rdN l k)
theorem b8B (l:List UInt8) (k:Nat):(itR l k).2=0\/((itR l k).2=2/\k+2<=l.length)\/((itR l k).2=4/\k+4<=l.length):=by
 unfold itR
 split
 ·exact .inl rfl
 ·split
  ·split
   ·exact .inr (.inl ⟨rfl,by omega⟩)
   ·exact .inl rfl
  ·split
   ·exact .inl rfl
   ·split
    ·exact .inr (.inr ⟨rfl,by omega⟩)
    ·exact .inl rfl
theorem c9y (l:List UInt8) (k:Nat):rdN l k=0\/(rdN l k=2/\k+2<=l.length)\/(rdN l k=4/\k+4<=l.length):=by
 have h:=b8B l k;unfold rdN;by_cases h2:(itR l k).2=2
 ·rw[if_pos h2]
  by_cases hc:(a0S (itR l k).1).2=0/\(a0S (itR l k).1).1=a0Q ((l.drop k).take 2)
  ·rw[if_pos hc];omega
  ·rw[if_neg hc];omega
 ·rw[if_neg h2];omega
theorem b94 (l:List UInt8) (k:Nat) (hk:k<l.length):1<=(rdX l k).2/\(rdX l k).2<=4/\(k:Int)+(rdX l k).2<=l.length:=by
 have h:=c9y l k;unfold rdX;by_cases h0:rdN l k=0
 ·rw[if_pos h0]
  by_cases h2:k+2<=l.length
  ·rw[if_pos h2]
   exact ⟨by omega,by omega,by omega⟩
  ·rw[if_neg h2]
   exact ⟨by omega,by omega,by omega⟩
 ·rw[if_neg h0]
  exact ⟨by simp only;omega,by simp only;omega,by simp only;omega⟩
def rdF (l:List UInt8):Nat->Nat->List UInt8
 | 0,_=>[]
 | m+1,k=>if k<l.length then (rdX l k).1++[10]++rdF l m (k+(rdX l k).2.toNat) else []
theorem c4j (l:List UInt8) (k:Nat) (hk:k<l.length):(rdX l k).1.length<=2100:=by
 have a1:=a4D ((l.drop k).take 2);have a2:=a4D ((l.drop k).take 1);have p1:(2:Int)^(8*((l.drop k).take 2).length)<=2^32:=a0M (by rw[List.length_take];omega)
 have p2:(2:Int)^(8*((l.drop k).take 1).length)<=2^32:=a0M (by rw[List.length_take];omega)
 have p3:(2:Int)^32=4294967296:=by decide
 have i1:=Lib.itoa_length_le (a0Q ((l.drop k).take 2)) (by omega) (by omega)
 have i2:=Lib.itoa_length_le (a0Q ((l.drop k).take 1)) (by omega) (by omega)
 have s1:=a9P (itR l k).1;unfold rdX;by_cases h0:rdN l k=0
 ·rw[if_pos h0]
  by_cases h2:k+2<=l.length
  ·rw[if_pos h2]
   simp only[List.length_append,List.length_cons,List.length_nil];omega
  ·rw[if_neg h2]
   simp only[List.length_append,List.length_cons,List.length_nil];omega
 ·rw[if_neg h0]
  by_cases h2:(itR l k).2=2
  ·rw[if_pos h2]
   simp only[List.length_append,List.length_cons,List.length_nil];omega
  ·rw[if_neg h2]
   simp only;omega
theorem b0S (l:List UInt8):∀(m k:Nat),l.length-k<=m->rdF l m k=rdF l (l.length-k) k
 | 0,k,h=>by rw[show l.length-k=0 by omega]
 | m+1,k,h=>by
  by_cases hk:k<l.length
  ·have hn:=b94 l k hk
   (obtain ⟨q,hq⟩:∃q,l.length-k=q+1:=⟨l.length-k-1,by omega⟩);rw[hq,rdF,rdF,if_pos hk,if_pos hk,b0S l m _ (by omega),b0S l q _ (by omega)]
  ·rw[show l.length-k=0 by omega,rdF,rdF,if_neg hk]
theorem c1b (l:List UInt8) {k:Nat} (hk:k<l.length):rdF l (l.length-k) k=(rdX l k).1++[10]++rdF l (l.length-(k+(rdX l k).2.toNat)) (k+(rdX l k).2.toNat):=by
 have hn:=b94 l k hk;obtain ⟨q,hq⟩:∃q,l.length-k=q+1:=⟨l.length-k-1,by omega⟩
 rw[hq,rdF,if_pos hk,b0S l q _ (by omega)]
def c3A (i:Ins) (n0 X:Int):Int:=if n0=2 then (if (a0S i).2=0/\(a0S i).1=X then 2 else 0) else n0
def c70 (len k:Nat) (i:Ins) (n0 X Y:Int):List UInt8×Int:=
 if c3A i n0 X=0 then (if k+2<=len then ([46,104,97,108,102,32]++Lib.itoa X,2) else ([46,98,121,116,101,32]++Lib.itoa Y,1))
 else ((if n0=2 then [99,46]++(shw i).1 else (shw i).1),c3A i n0 X)
theorem c6e (l:List UInt8) (k:Nat):rdX l k=c70 l.length k (itR l k).1 (itR l k).2 (a0Q ((l.drop k).take 2)) (a0Q ((l.drop k).take 1)):=rfl
end Pn
namespace Go.Proofs.YtbmcofdodfcnnaaGreatDoor
open Pn
open Go.Proofs.Tryz
open Go.RowKit
theorem a8R (s:ByteArray) (w:World) (hE:Env w) (hs:s.size<=1024):
    Calls prog 99 #[.string s] w fun e w'=>e=.returned (.tuple #[.string ⟨(Pn.rdF s.data.toList s.size 0).toArray⟩,.int .i64 0])/\Below w.heap.size w w':=by
 have hsz:s.data.toList.length=s.size:=(Lib.size_eq s).symm;have HE:=a0a hE;have hsi:¬(1024:Int)<s.size:=by omega
 clear hE;go_enter func99,ntmps99;go_wp2_with fail;go_loopw [4,5] (fun o a wr=>∃(k:Nat) (t:ByteArray),o=.string t/\a=.int .i64 k/\k<=s.size/\t.size<=2101*k/\Hid (t.data.toList++Pn.rdF s.data.toList (s.size-k) k=Pn.rdF s.data.toList s.size 0)/\Hid (Below w.heap.size w wr)) (fun _ a _=>s.size-(intOf a).toNat)
 case atStart=>exact ⟨0,_,rfl,rfl,by omega,by simp[ByteArray.size],a0a (by simp),a0a (Below.refl _ _)⟩
 case round=>
  obtain ⟨k,t,rfl,rfl,hk,ht,HT,HB⟩:=hrel;by_cases hlt:k<s.size
  ·have hki:(k:Int)<s.size:=by omega
   (have HIT:=a0a (c1n s k wr (by omega) hk));have hn0:=b8B s.data.toList k;have HXX:=a0a (c6e s.data.toList k);(have HXN:=a0a (b94 s.data.toList k (by omega)));(have HXL:=a0a (c4j s.data.toList k (by omega)));(have HST:=a0a (c1b s.data.toList (k:=k) (by omega)));generalize Pn.itR s.data.toList k=IT at *;obtain ⟨⟨iop,ird,irs1,irs2,iimm⟩,n0⟩:=IT;unfold Pn.Ins.val at HIT;simp only at HIT hn0;(have HSH:=a0a (fun w' (h:Env w')=>b4V ⟨iop,ird,irs1,irs2,iimm⟩ w' h));unfold Pn.Ins.val at HSH;simp only at HSH;go_wp2_with fail;refine HIT.out.mono ?_;rintro e w1 ⟨rfl,hB1⟩;have HB1:=a0a (HB.out.trans (hB1.mono HB.out.size));have HI:=a0a (CellsAt.new w1 [.int .i64 iop,.int .i64 ird,.int .i64 irs1,.int .i64 irs2,.int .i64 iimm] 26);have HB2:=a0a (HB1.out.alloc HB1.out.size (.cells #[.int .i64 iop,.int .i64 ird,.int .i64 irs1,.int .i64 irs2,.int .i64 iimm] 26));clear hB1 HIT HB HB1;go_upto_region 7 with fail;generalize w1.alloc _=W2 at *;have i0:=HI.out.2.2 0 _ rfl;have i1:=HI.out.2.2 1 _ rfl;have i2:=HI.out.2.2 2 _ rfl;have i3:=HI.out.2.2 3 _ rfl;have i4:=HI.out.2.2 4 _ rfl;go_wp2_with fail;refine (HSH.out W2 (HE.out.below HB2.out HE.out.1)).mono ?_;rintro e w3 ⟨rfl,hB3⟩;have HB3:=a0a (HB2.out.trans (hB3.mono HB2.out.size));have HI3:=a0a (HI.out.next hB3);have hsl:=a9P ⟨iop,ird,irs1,irs2,iimm⟩;clear hB3 HI HB2 HSH i0 i1 i2 i3 i4;(have HSR:=a0a (fun w'=>a2U ⟨iop,ird,irs1,irs2,iimm⟩ w'));unfold Pn.Ins.val at HSR;simp only at HSR HXX;(have HN2:=a0a (fun w' (h:k+2<=s.size)=>a23 (s.extract k (k+2)) w' (by rw[a5f s k (k+2) h];omega)));(rw[a5c,show k+2-k=2 by omega]at HN2);(have HN1:=a0a (fun w'=>a23 (s.extract k (k+1)) w' (by rw[a5f s k (k+1) (by omega)];omega)));(rw[a5c,show k+1-k=1 by omega]at HN1);(have hX:=b1r (l:=(s.data.toList.drop k).take 2) (by rw[List.length_take];omega));(have hY:=b1r (l:=(s.data.toList.drop k).take 1) (by rw[List.length_take];omega));rw[hsz]at HXX hn0;unfold c70 c3A at HXX;generalize a0Q ((s.data.toList.drop k).take 2)=X at *;generalize a0Q ((s.data.toList.drop k).take 1)=Y at *;generalize (Pn.shw ⟨iop,ird,irs1,irs2,iimm⟩).1=TX at *;generalize a0S ⟨iop,ird,irs1,irs2,iimm⟩=SR at *;obtain ⟨sh,se⟩:=SR;simp only at HSR HXX;(have htx:(⟨TX.toArray⟩:ByteArray).size=TX.length:=by simp[ByteArray.size]);(have htd:(⟨TX.toArray⟩:ByteArray).data.toList=TX:=by simp);generalize (⟨TX.toArray⟩:ByteArray)=tx at *;go_upto_if 31 with fail;go_cut [7,8] from 80 to 80 (fun vn vt wx=>∃(n:Int) (tt:ByteArray),vn=.int .i64 n/\vt=.string tt/\(n=0\/(n=2/\k+2<=s.size)\/(n=4/\k+4<=s.size))/\tt.size<=2002/\Hid (n=(if n0=2 then (if se=0/\sh=X then 2 else 0) else n0)/\(¬n=0->tt.data.toList=(if n0=2 then [99,46]++TX else TX)))/\Hid (Below w.heap.size w wx))
   case first=>
    by_cases h2:n0=2
    ·subst h2
     (have hk2:k+2<=s.size:=by omega);have i0:=HI3.out.2.2 0 _ rfl;have i1:=HI3.out.2.2 1 _ rfl;have i2:=HI3.out.2.2 2 _ rfl;have i3:=HI3.out.2.2 3 _ rfl;have i4:=HI3.out.2.2 4 _ rfl;go_wp2_with fail;refine (HSR.out w3).mono ?_;rintro e w4 ⟨rfl,hB4⟩;have HB4:=a0a (HB3.out.trans (hB4.mono HB3.out.size));clear hB4 i0 i1 i2 i3 i4 HB3 HI3 HSR;(have q1:¬(9223372036854775807:Int)<2+tx.size:=by omega);(have q2:¬9223372036854775807<2+tx.size:=by omega);(have hk2i:(k:Int)+2<=s.size:=by omega);(have w2:IntKind.i64.wrap ((k:Int)+2)=(k:Int)+2:=IntWalk.i64_in _ (by omega));(have HN2:=a0a (fun w'=>HN2.out w' hk2));by_cases hse:se=0
     ·subst hse
      go_wp2_with fail;refine (HN2.out w4).mono ?_;rintro e w5 ⟨rfl,rfl⟩;by_cases hsh:sh=X
      ·subst hsh
       go_wp2_with fail;go_meet;case rel=>exact ⟨2,⟨#[99,46]⟩++tx,rfl,rfl,by omega,by rw[ByteArray.size_append];have e2:(⟨#[99,46]⟩:ByteArray).size=2:=rfl;omega,a0a ⟨by simp,fun _=>by simp[htd]⟩,HB4⟩
      ·go_wp2_with fail
       go_meet;case rel=>exact ⟨0,⟨#[99,46]⟩++tx,rfl,rfl,by omega,by rw[ByteArray.size_append];have e2:(⟨#[99,46]⟩:ByteArray).size=2:=rfl;omega,a0a ⟨by simp[hsh],fun _=>by simp[htd]⟩,HB4⟩
     ·go_wp2_with fail
      go_meet;case rel=>exact ⟨0,⟨#[99,46]⟩++tx,rfl,rfl,by omega,by rw[ByteArray.size_append];have e2:(⟨#[99,46]⟩:ByteArray).size=2:=rfl;omega,a0a ⟨by simp[hse],fun _=>by simp[htd]⟩,HB4⟩
    ·go_wp2_with fail
     go_meet;case rel=>exact ⟨n0,tx,rfl,rfl,by omega,by omega,a0a ⟨by rw[if_neg h2],fun _=>by rw[if_neg h2,htd]⟩,HB3⟩
   case rest=>
    obtain ⟨n,tt,rfl,rfl,hn,htt,HNT,HBw⟩:=hcut
    have HX1:Hid (Pn.rdX s.data.toList k=if n=0 then (if k+2<=s.size then ([46,104,97,108,102,32]++Lib.itoa X,2) else ([46,98,121,116,101,32]++Lib.itoa Y,1)) else (tt.data.toList,n)):=a0a (by
     rw[HXX.out,<-HNT.out.1];by_cases hz:n=0
     ·rw[if_pos hz,if_pos hz]
     ·rw[if_neg hz,if_neg hz,HNT.out.2 hz])
    clear HXX HNT HI3 HB3 HSR hn0 htx htd hsl;generalize Pn.rdX s.data.toList k=RX at *;obtain ⟨rt,rn⟩:=RX;simp only at HXN HXL HST;go_upto_block 2 with fail;go_cut [7,8] from 80 to 80 (fun vn vt wx=>∃tt:ByteArray,vn=.int .i64 rn/\vt=.string tt/\Hid (tt.data.toList=rt)/\Hid (Below w.heap.size w wx))
    case first=>
     by_cases hz:n=0
     ·subst hz
      by_cases h2:k+2<=s.size
      ·have h2i:(k:Int)+2<=s.size:=by omega
       (have hx2:(rt,rn)=([46,104,97,108,102,32]++Lib.itoa X,(2:Int)):=by rw[HX1.out,if_pos rfl,if_pos h2]);(injection hx2 with e1 e2);subst e2;have HE1:=a0a e1;(have w2:IntKind.i64.wrap ((k:Int)+2)=(k:Int)+2:=IntWalk.i64_in _ (by omega));clear e1;go_wp2_with fail;refine (HN2.out _ h2).mono ?_;rintro e w5 ⟨rfl,rfl⟩;go_wp2_with fail;(refine (a2q X _ (by omega) (by omega) (HE.out.below HBw.out HE.out.1)).mono ?_);rintro e w6 ⟨q,rfl,hq,HQ,hB6⟩;have HB6:=a0a (HBw.out.trans (hB6.mono HBw.out.size));(have q1:¬(9223372036854775807:Int)<6+q.size:=by omega);(have q2:¬9223372036854775807<6+q.size:=by omega);clear hB6;go_wp2_with fail;go_meet;case rel=>exact ⟨_,rfl,rfl,a0a (by rw[HE1.out,<-HQ.out];simp),HB6⟩
      ·have h2i:¬(k:Int)+2<=s.size:=by omega
       (have hx2:(rt,rn)=([46,98,121,116,101,32]++Lib.itoa Y,(1:Int)):=by rw[HX1.out,if_pos rfl,if_neg h2]);(injection hx2 with e1 e2);subst e2;have HE1:=a0a e1;(have w1:IntKind.i64.wrap ((k:Int)+1)=(k:Int)+1:=IntWalk.i64_in _ (by omega));(have w2:IntKind.i64.wrap ((k:Int)+2)=(k:Int)+2:=IntWalk.i64_in _ (by omega));(have h1i:(k:Int)+1<=s.size:=by omega);clear e1;go_wp2_with fail;refine (HN1.out _).mono ?_;rintro e w5 ⟨rfl,rfl⟩;go_wp2_with fail;(refine (a2q Y _ (by omega) (by omega) (HE.out.below HBw.out HE.out.1)).mono ?_);rintro e w6 ⟨q,rfl,hq,HQ,hB6⟩;have HB6:=a0a (HBw.out.trans (hB6.mono HBw.out.size));(have q1:¬(9223372036854775807:Int)<6+q.size:=by omega);(have q2:¬9223372036854775807<6+q.size:=by omega);clear hB6;go_wp2_with fail;go_meet;case rel=>exact ⟨_,rfl,rfl,a0a (by rw[HE1.out,<-HQ.out];simp),HB6⟩
     ·have hx2:(rt,rn)=(tt.data.toList,n):=by rw[HX1.out,if_neg hz]
      (injection hx2 with e1 e2);subst e2;have HE1:=a0a e1;clear e1;go_wp2_with fail;go_meet;case rel=>exact ⟨tt,rfl,rfl,a0a HE1.out.symm,HBw⟩
    case rest=>
     obtain ⟨t2,rfl,rfl,HT2,HBz⟩:=hcut;(have ht2:t2.size=rt.length:=by rw[<-HT2.out];exact (Lib.size_eq t2));have hxl:=HXL.out;have hxn:=HXN.out;(obtain ⟨m,hm⟩:=Int.eq_ofNat_of_zero_le (show 0<=rn by omega));subst hm;(have q1:¬(9223372036854775807:Int)<t.size+t2.size:=by omega);(have q2:¬9223372036854775807<t.size+t2.size:=by omega);(have q3:¬(9223372036854775807:Int)<t.size+t2.size+1:=by omega);(have q4:¬9223372036854775807<t.size+t2.size+1:=by omega);(have wm:IntKind.i64.wrap ((k:Int)+m)=(k:Int)+m:=IntWalk.i64_in _ (by omega));go_wp2_with fail;go_roundw
     case rel=>
      refine ⟨k+m,_,rfl,by go_num,by omega,?_,a0a ?_,HBz⟩
      ·simp only[ByteArray.size_append];have e2:(⟨#[10]⟩:ByteArray).size=1:=rfl;omega
      ·rw[<-HT.out,<-hsz,HST.out,<-HT2.out];simp
     case measure=>simp[intOf];omega
  ·have hke:k=s.size:=by omega
   subst hke;clear hlt hk;go_wp2_with fail;go_ret2;have e:=HT.out;rw[Nat.sub_self]at e;have e2:Pn.rdF s.data.toList 0 s.size=[]:=rfl;rw[e2,List.append_nil]at e;exact ⟨by rw[<-e];cases t;simp,HB.out⟩
end Go.Proofs.YtbmcofdodfcnnaaGreatDoor
namespace Pn
def b1x (s:List UInt8):List UInt8×Int:=if 1024<s.length then ([],8) else (rdF s s.length 0,0)
end Pn
namespace Go.Proofs.YtbmcofdodfcnnaaGreatDoor
open Pn
open Go.Proofs.Tryz
open Go.RowKit
theorem a7h (s:ByteArray) (w:World) (hE:Env w):
    Calls prog 99 #[.string s] w fun e w'=>e=.returned (.tuple #[.string ⟨(b1x s.data.toList).1.toArray⟩,.int .i64 (b1x s.data.toList).2])/\Below w.heap.size w w':=by
 have hsz:s.data.toList.length=s.size:=(Lib.size_eq s).symm;by_cases h:1024<s.size
 ·have e:b1x s.data.toList=([],8):=by unfold b1x;rw[hsz,if_pos h]
  rw[e];have hi:(1024:Int)<s.size:=by omega
  clear e;go_enter func99,ntmps99;go_wp2_with fail;go_ret2;exact ⟨rfl,Below.refl _ _⟩
 ·have e:b1x s.data.toList=(Pn.rdF s.data.toList s.size 0,0):=by unfold b1x;rw[hsz,if_neg h]
  rw[e];exact a8R s w hE (by omega)
end Go.Proofs.YtbmcofdodfcnnaaGreatDoor
namespace Pn
def plR (sz:List Int):Nat->Int
 | 0=>0
 | k+1=>plR sz k+sz.getD k 0
theorem a65 {sz:List Int} (h:∀x∈sz,0<=x/\x<=4):∀k,0<=plR sz k/\plR sz k<=4*k
 | 0=>by simp[plR]
 | k+1=>by
  have ih:=a65 h k;rw[plR]
  have h2:0<=sz.getD k 0/\sz.getD k 0<=4:=by
   by_cases hk:k<sz.length
   ·have e:sz.getD k 0=sz[k]:=by simp[List.getD,hk]
    rw[e];exact h _ (List.getElem_mem hk)
   ·have e:sz.getD k 0=0:=by simp[List.getD,Nat.le_of_not_lt hk]
    rw[e];decide
  omega
def fdR (sz:List Int) (nm:List (ByteArray×Nat)) (s:ByteArray):Int:=match nm.find? (fun x=>x.1.toList==s.toList) with|some x=>Pn.plR sz x.2|none=>-1
end Pn
namespace Go.Proofs.YtbmcofdodfcnnaaGreatDoor
open Pn
open Go.Proofs.Tryz
open Go.RowKit
theorem b1m (la:Option Addr) (cap:Nat) (sz:List Int) (a:Nat) (w:World) (ha:a<=sz.length) (hl:sz.length<=1000000) (hs:∀x∈sz,0<=x/\x<=4)
    (hc:∀i,i<sz.length->∃B:Nat,la=some ⟨B,0,none⟩/\w.cell? ⟨B,i*10+9,none⟩=some (.int .i64 (sz.getD i 0))):
    Calls prog 172 #[.slice la sz.length cap,.int .i64 a] w fun e w'=>e=.returned (.int .i64 (Pn.plR sz a))/\w'=w:=by
 have HC:=a0a hc;clear hc;go_enter func172,ntmps172;go_wp2_with fail;go_loop [5,6] (fun n i=>∃j:Nat,j<=a/\i=.int .i64 j/\n=.int .i64 (Pn.plR sz j)) (fun _ i=>a-(intOf i).toNat)
 case atStart=>exact ⟨0,by omega,rfl,rfl⟩
 case round=>
  obtain ⟨j,hj,rfl,rfl⟩:=hrel;by_cases hlt:j<a
  ·have hlti:(j:Int)<a:=by omega
   (have hl2:(j:Int)<sz.length:=by omega);(obtain ⟨B,rfl,y⟩:=HC.out j (by omega));have h1:=a65 hs j;have h2:=a65 hs (j+1);have HP:Hid (Pn.plR sz (j+1)=Pn.plR sz j+sz.getD j 0):=a0a rfl;(have wj:IntKind.i64.wrap ((j:Int)+1)=(j:Int)+1:=IntWalk.i64_in _ (by omega));(have wp:IntKind.i64.wrap (Pn.plR sz j+sz.getD j 0)=Pn.plR sz j+sz.getD j 0:=IntWalk.i64_in _ (by have e:=HP.out;omega));(have wp2:wrap64 (Pn.plR sz j+sz.getD j 0)=Pn.plR sz j+sz.getD j 0:=a22 (by have e:=HP.out;omega));generalize sz.getD j 0=z at *;go_wp2_with fail;exact ⟨⟨j+1,by omega,by go_num,by rw[HP.out]⟩,by simp[intOf];omega⟩
  ·have hje:j=a:=by omega
   subst hje;go_wp2_with fail;go_ret;exact ⟨rfl,rfl⟩
theorem b4b {α:Type} {p:α->Bool}:∀{l:List α} {k:Nat} {x:α},l[k]?=some x->(∀j y,j<k->l[j]?=some y->p y=false)->p x=true->l.find? p=some x
 | [],k,x,h,_,_=>by simp at h
 | a::l,0,x,h,_,hx=>by
  simp at h;subst h;simp[hx]
 | a::l,k+1,x,h,hn,hx=>by
  have h0:=hn 0 a (by omega) rfl
  rw[List.find?_cons,h0];exact b4b (k:=k) (by simpa using h) (fun j y hj hy=>hn (j+1) y (by omega) (by simpa using hy)) hx
theorem b90 (la:Option Addr) (cap:Nat) (sz:List Int) (na:Option Addr) (ncap:Nat) (nm:List (ByteArray×Nat)) (s:ByteArray) (w:World) (hl:sz.length<=1000000) (hs:∀x∈sz,0<=x/\x<=4) (hnl:nm.length<=1000000) (hna:∀x∈nm,x.2<=sz.length)
    (hc:∀i,i<sz.length->∃B:Nat,la=some ⟨B,0,none⟩/\w.cell? ⟨B,i*10+9,none⟩=some (.int .i64 (sz.getD i 0)))
    (hn:∀i x,nm[i]?=some x->∃B:Nat,na=some ⟨B,0,none⟩/\w.cell? ⟨B,i*2,none⟩=some (.string x.1)/\w.cell? ⟨B,i*2+1,none⟩=some (.int .i64 x.2)):
    Calls prog 170 #[.slice la sz.length cap,.slice na nm.length ncap,.string s] w fun e w'=>e=.returned (.int .i64 (Pn.fdR sz nm s))/\w'=w:=by
 have HP:=a0a (fun a ha=>b1m la cap sz a w ha hl hs hc)
 have HN:=a0a hn;clear hn hc;go_enter func170,ntmps170;go_wp2_with fail;go_loop [7] (fun i=>∃j:Nat,j<=nm.length/\i=.int .i64 j/\Hid (∀q y,q<j->nm[q]?=some y->(y.1.toList==s.toList)=false)) (fun i=>nm.length-(intOf i).toNat)
 case atStart=>exact ⟨0,by omega,rfl,a0a (fun q y h=>by omega)⟩
 case round=>
  obtain ⟨j,hj,rfl,HNO⟩:=hrel;by_cases hlt:j<nm.length
  ·have hlti:(j:Int)<nm.length:=by omega
   have hx:nm[j]?=some nm[j]:=List.getElem?_eq_getElem hlt;generalize nm[j]=x at hx;obtain ⟨B,rfl,y0,y1⟩:=HN.out j x hx;have hxa:=hna x (List.mem_of_getElem? hx);have HPx:=a0a (HP.out x.2 hxa);(have wj:IntKind.i64.wrap ((j:Int)+1)=(j:Int)+1:=IntWalk.i64_in _ (by omega));by_cases he:(x.1.toList==s.toList)=true
   ·have HF:Hid (Pn.fdR sz nm s=Pn.plR sz x.2):=a0a (by unfold Pn.fdR;rw[b4b hx (fun q y hq hy=>HNO.out q y hq hy) he])
    go_wp2_with fail;refine HPx.out.mono ?_;rintro e w1 ⟨rfl,rfl⟩;go_wp2_with fail;go_ret;exact ⟨by rw[HF.out];rfl,rfl⟩
   ·have he':(x.1.toList==s.toList)=false:=by simpa using he
    have HE:=a0a he';go_wp2_with fail;(refine ⟨⟨j+1,by omega,by go_num,a0a (fun q y hq hy=>?_)⟩,by simp[intOf];omega⟩);by_cases e:q=j
    ·subst e
     rw[hx]at hy;(cases hy);exact HE.out
    ·exact HNO.out q y (by omega) hy
  ·have hje:j=nm.length:=by omega
   subst hje
   have HF:Hid (Pn.fdR sz nm s=-1):=a0a (by
    unfold Pn.fdR
    have e:nm.find? (fun x=>x.1.toList==s.toList)=none:=by
     rw[List.find?_eq_none];intro y hy;obtain ⟨q,hq⟩:=List.getElem?_of_mem hy;simp[HNO.out q y (List.getElem?_eq_some_iff.1 hq).1 hq]
    rw[e])
   go_wp2_with fail;go_ret;exact ⟨by rw[HF.out];rfl,rfl⟩
