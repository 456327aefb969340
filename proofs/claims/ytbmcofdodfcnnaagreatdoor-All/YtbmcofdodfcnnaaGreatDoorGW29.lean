import Derived.Test.YtbmcofdodfcnnaaGreatDoorGM55
import Derived.Test.YtbmcofdodfcnnaaGreatDoorGXA
set_option linter.all false
set_option maxHeartbeats 0
set_option maxRecDepth 100000
namespace Go
open Proofs.Tryz
def ka (l:List UInt8) (k:Nat):Int:=
 if (bV l k).2=2 then (if (eM (bV l k).1).2=0/\(eM (bV l k).1).1=aP ((l.drop k).take 2) then 2 else 0) else (bV l k).2
def iV (l:List UInt8) (k:Nat):List UInt8×Int:=
 if ka l k=0 then (if k+2<=l.length then ([46,104,97,108,102,32]++Lib.itoa (aP ((l.drop k).take 2)),2) else ([46,98,121,116,101,32]++Lib.itoa (aP ((l.drop k).take 1)),1))
 else ((if (bV l k).2=2 then [99,46]++(gZ (bV l k).1).1 else (gZ (bV l k).1).1),ka l k)
def tp (l) (k):(bV l k).2=0\/((bV l k).2=2/\k+2<=l.length)\/((bV l k).2=4/\k+4<=l.length):=by
 unfold bV
 split
 .exact .inl rfl
 split
 .split
  .exact .inr (.inl ⟨rfl,by omega⟩)
  exact .inl rfl
 split
 .exact .inl rfl
 split
 .exact .inr (.inr ⟨rfl,by omega⟩)
 exact .inl rfl
def WH (l) (k):ka l k=0\/(ka l k=2/\k+2<=l.length)\/(ka l k=4/\k+4<=l.length):=by
 have h:=tp l k;unfold ka;by_cases j:(bV l k).2=2
 .rw[zt j]
  by_cases q:(eM (bV l k).1).2=0/\(eM (bV l k).1).1=aP ((l.drop k).take 2)
  .rw[zt q];omega
  rw[aC q];omega
 rw[aC j];omega
def wK (l) (k) (u:k<l.length):1<=(iV l k).2/\(iV l k).2<=4/\(k:Int)+(iV l k).2<=l.length:=by
 have h:=WH l k;unfold iV;by_cases j:ka l k=0
 .rw[zt j]
  by_cases q:k+2<=l.length
  .rw[zt q]
   exact ⟨by omega,by omega,by omega⟩
  rw[aC q];exact ⟨by omega,by omega,by omega⟩
 rw[aC j];exact ⟨by simp only;omega,by simp only;omega,by simp only;omega⟩
def jy (l:List UInt8):Nat->Nat->List UInt8
 | 0,_=>[]
 | m+1,k=>if k<l.length then (iV l k).1++[10]++jy l m (k+(iV l k).2.toNat) else []
def RB (l) (k) (v:k<l.length):(iV l k).1.length<=2100:=by
 have q:=kM ((l.drop k).take 2);have u:=kM ((l.drop k).take 1);have A:(2:Int)^(8*((l.drop k).take 2).length)<=2^32:=gU (by rw[List.length_take];omega)
 have C:(2:Int)^(8*((l.drop k).take 1).length)<=2^32:=gU (by rw[List.length_take];omega)
 have D:(2:Int)^32=4294967296:=by decide
 have w:=Lib.itoa_length_le (aP ((l.drop k).take 2)) (by omega) (by omega)
 have y:=Lib.itoa_length_le (aP ((l.drop k).take 1)) (by omega) (by omega)
 have s1:=vC (bV l k).1;unfold iV;by_cases j:ka l k=0
 .rw[zt j]
  by_cases h:k+2<=l.length
  .rw[zt h]
   simp only[List.length_append,List.length_cons,List.length_nil];omega
  rw[aC h];simp only[List.length_append,List.length_cons,List.length_nil];omega
 rw[aC j];by_cases h:(bV l k).2=2
 .rw[zt h]
  simp only[List.length_append,List.length_cons,List.length_nil];omega
 rw[aC h];simp only;omega
def yP (l:List UInt8):∀(m k:Nat),l.length-k<=m->jy l m k=jy l (l.length-k) k
 | 0,k,h=>by rw[show l.length-k=0 by omega]
 | m+1,k,h=>by
  by_cases j:k<l.length
  .have v:=wK l k j
   (obtain ⟨q,u⟩:∃q,l.length-k=q+1:=⟨l.length-k-1,by omega⟩);rw[u,jy,jy,zt j,zt j,yP l m _ (by omega),yP l q _ (by omega)]
  rw[show l.length-k=0 by omega,jy,jy,aC j]
def PV (l) {k:Nat} (h:k<l.length):jy l (l.length-k) k=(iV l k).1++[10]++jy l (l.length-(k+(iV l k).2.toNat)) (k+(iV l k).2.toNat):=by
 have u:=wK l k h;obtain ⟨q,j⟩:∃q,l.length-k=q+1:=⟨l.length-k-1,by omega⟩
 rw[j,jy,zt h,yP l q _ (by omega)]
def B6 (i:aE) (n0 X:Int):Int:=if n0=2 then (if (eM i).2=0/\(eM i).1=X then 2 else 0) else n0
def Is (len k:Nat) (i:aE) (n0 X Y:Int):List UInt8×Int:=
 if B6 i n0 X=0 then (if k+2<=len then ([46,104,97,108,102,32]++Lib.itoa X,2) else ([46,98,121,116,101,32]++Lib.itoa Y,1))
 else ((if n0=2 then [99,46]++(gZ i).1 else (gZ i).1),B6 i n0 X)
def UF (l) (k):iV l k=Is l.length k (bV l k).1 (bV l k).2 (aP ((l.drop k).take 2)) (aP ((l.drop k).take 1)):=rfl
open RowKit
def Jy (s) (w) (hE:aS w) (hs:s.size<=1024):
    aG prog 99 #[.string s] w (.tuple #[.string ⟨(jy s.data.toList s.size 0).toArray⟩,.int .i64 0]):=by
 unfold aG;have ar:s.data.toList.length=s.size:=(Lib.size_eq s).symm;have HE:=aB hE;have b2:¬(1024:Int)<s.size:=by omega
 clear hE;go_in;go_wp2_with fail;go_loopw [4,5] (λ o a wr=>∃(k:Nat) (t:ByteArray),o=.string t/\a=.int .i64 k/\k<=s.size/\t.size<=2101*k/\Hid (t.data.toList++jy s.data.toList (s.size-k) k=jy s.data.toList s.size 0)/\Hid (Below w.heap.size w wr)) (λ _ a _=>s.size-(intOf a).toNat)
 case atStart=>exact ⟨0,_,rfl,rfl,by omega,by simp[ByteArray.size],aB (by simp),aB aU⟩
 case round=>
  obtain ⟨k,t,rfl,rfl,hk,ht,HT,HB⟩:=hrel;by_cases a4:k<s.size
  .have bz:(k:Int)<s.size:=by omega
   (have O:=aB (GD s k wr (by omega) hk));have ae:=tp s.data.toList k;have E:=aB (UF s.data.toList k);(have al:=aB (wK s.data.toList k (by omega)));(have ak:=aB (RB s.data.toList k (by omega)));(have ai:=aB (PV s.data.toList (k:=k) (by omega)));generalize bV s.data.toList k=IT at *;obtain ⟨⟨A,C,u,v,j⟩,n0⟩:=IT;unfold aE.val at O;simp only at O ae;(have P:=aB (λ w' (h:aS w')=>EG ⟨A,C,u,v,j⟩ w' h));unfold aE.val at P;simp only at P;go_wp2_with fail;refine zK O.out λ w1 am=>?_;have R:=aB (HB.out.trans (am.mono HB.out.size));have HI:=aB (aF.new w1 [.int .i64 A,.int .i64 C,.int .i64 u,.int .i64 v,.int .i64 j] 26);have N:=aB (R.out.alloc R.out.size (.cells #[.int .i64 A,.int .i64 C,.int .i64 u,.int .i64 v,.int .i64 j] 26));clear am O HB R;go_upto_region 7 with fail;generalize w1.alloc _=W2 at *;obtain ⟨i0,i1,i2,i3,i4⟩:=bF HI.out.2.2;go_wp2_with fail;refine zK (P.out W2 (HE.out.below N.out HE.out.1)) λ w3 ac=>?_;have F:=aB (N.out.trans (ac.mono N.out.size));have V:=aB (HI.out.next ac);have a5:=vC ⟨A,C,u,v,j⟩;clear ac HI N P i0 i1 i2 i3 i4;(have D:=aB (λ w'=>qu ⟨A,C,u,v,j⟩ w'));unfold aE.val at D;simp only at D E;(have H:=aB (λ w' (h:k+2<=s.size)=>ub (s.extract k (k+2)) w' (by rw[ul s k (k+2) h];omega)));(rw[ui,show k+2-k=2 by omega]at H);(have ah:=aB (λ w'=>ub (s.extract k (k+1)) w' (by rw[ul s k (k+1) (by omega)];omega)));(rw[ui,show k+1-k=1 by omega]at ah);(have hX:=ro (l:=(s.data.toList.drop k).take 2) (by rw[List.length_take];omega));(have hY:=ro (l:=(s.data.toList.drop k).take 1) (by rw[List.length_take];omega));rw[ar]at E ae;unfold Is B6 at E;generalize aP ((s.data.toList.drop k).take 2)=X at *;generalize aP ((s.data.toList.drop k).take 1)=Y at *;generalize (gZ ⟨A,C,u,v,j⟩).1=TX at *;generalize eM ⟨A,C,u,v,j⟩=SR at *;obtain ⟨sh,se⟩:=SR;simp only at D E;(have a6:(⟨TX.toArray⟩:ByteArray).size=TX.length:=by simp[ByteArray.size]);(have K:(⟨TX.toArray⟩:ByteArray).data.toList=TX:=by simp);generalize (⟨TX.toArray⟩:ByteArray)=tx at *;go_upto_if 31 with fail;go_cut [7,8] from 80 to 80 (λ vn vt wx=>∃(n:Int) (M:ByteArray),vn=.int .i64 n/\vt=.string M/\(n=0\/(n=2/\k+2<=s.size)\/(n=4/\k+4<=s.size))/\M.size<=2002/\Hid (n=(if n0=2 then (if se=0/\sh=X then 2 else 0) else n0)/\(¬n=0->M.data.toList=(if n0=2 then [99,46]++TX else TX)))/\Hid (Below w.heap.size w wx))
   case first=>
    by_cases h2:n0=2
    .subst h2
     (have a2:k+2<=s.size:=by omega);obtain ⟨i0,i1,i2,i3,i4⟩:=bF V.out.2.2;go_wp2_with fail;refine zK (D.out w3) λ w4 an=>?_;have T:=aB (F.out.trans (an.mono F.out.size));clear an i0 i1 i2 i3 i4 F V D;(have q1:¬(9223372036854775807:Int)<2+tx.size:=by omega);(have q2:¬9223372036854775807<2+tx.size:=by omega);(have bm:(k:Int)+2<=s.size:=by omega);(have w2:IntKind.i64.wrap ((k:Int)+2)=(k:Int)+2:=zw _ (by omega));(have H:=aB (λ w'=>H.out w' a2));by_cases ao:se=0
     .subst ao
      go_wp2_with fail;refine (H.out w4).mono ?_;rintro e w5 ⟨rfl,rfl⟩;by_cases aq:sh=X
      .subst aq
       go_wp2_with fail;go_meet;case rel=>exact ⟨2,⟨#[99,46]⟩++tx,rfl,rfl,by omega,by rw[ByteArray.size_append];have I:(⟨#[99,46]⟩:ByteArray).size=2:=rfl;omega,aB ⟨by simp,λ _=>by simp[K]⟩,T⟩
      go_wp2_with fail;go_meet;case rel=>exact ⟨0,⟨#[99,46]⟩++tx,rfl,rfl,by omega,by rw[ByteArray.size_append];have I:(⟨#[99,46]⟩:ByteArray).size=2:=rfl;omega,aB ⟨by simp[aq],λ _=>by simp[K]⟩,T⟩
     go_wp2_with fail;go_meet;case rel=>exact ⟨0,⟨#[99,46]⟩++tx,rfl,rfl,by omega,by rw[ByteArray.size_append];have I:(⟨#[99,46]⟩:ByteArray).size=2:=rfl;omega,aB ⟨by simp[ao],λ _=>by simp[K]⟩,T⟩
    go_wp2_with fail;go_meet;case rel=>exact ⟨n0,tx,rfl,rfl,by omega,by omega,aB ⟨by rw[aC h2],λ _=>by rw[aC h2,K]⟩,F⟩
   case rest=>
    obtain ⟨n,M,rfl,rfl,hn,b4,W,y⟩:=hcut
    have Z:Hid (iV s.data.toList k=if n=0 then (if k+2<=s.size then ([46,104,97,108,102,32]++Lib.itoa X,2) else ([46,98,121,116,101,32]++Lib.itoa Y,1)) else (M.data.toList,n)):=aB (by
     rw[E.out,<-W.out.1];by_cases Q:n=0
     .rw[zt Q,zt Q]
     rw[aC Q,aC Q,W.out.2 Q])
    clear E W V F D ae a6 K a5;generalize iV s.data.toList k=RX at *;obtain ⟨rt,rn⟩:=RX;simp only at al ak ai;go_upto_block 2 with fail;go_cut [7,8] from 80 to 80 (λ vn vt wx=>∃M:ByteArray,vn=.int .i64 rn/\vt=.string M/\Hid (M.data.toList=rt)/\Hid (Below w.heap.size w wx))
    case first=>
     by_cases Q:n=0
     .subst Q
      by_cases h2:k+2<=s.size
      .have a1:(k:Int)+2<=s.size:=by omega
       (have L:(rt,rn)=([46,104,97,108,102,32]++Lib.itoa X,(2:Int)):=by rw[Z.out,zt rfl,zt h2]);(injection L with e1 I);subst I;have G:=aB e1;(have w2:IntKind.i64.wrap ((k:Int)+2)=(k:Int)+2:=zw _ (by omega));clear e1;go_wp2_with fail;refine (H.out _ h2).mono ?_;rintro e w5 ⟨rfl,rfl⟩;go_wp2_with fail;(refine (kL X _ (by omega) (by omega) (HE.out.below y.out HE.out.1)).mono ?_);rintro e w6 ⟨q,rfl,hq,HQ,J⟩;have U:=aB (y.out.trans (J.mono y.out.size));(have q1:¬(9223372036854775807:Int)<6+q.size:=by omega);(have q2:¬9223372036854775807<6+q.size:=by omega);clear J;go_wp2_with fail;go_meet;case rel=>exact ⟨_,rfl,rfl,aB (by rw[G.out,<-HQ.out];simp),U⟩
      (have a1:¬(k:Int)+2<=s.size:=by omega);(have L:(rt,rn)=([46,98,121,116,101,32]++Lib.itoa Y,(1:Int)):=by rw[Z.out,zt rfl,aC h2]);(injection L with e1 I);subst I;have G:=aB e1;(have w1:IntKind.i64.wrap ((k:Int)+1)=(k:Int)+1:=zw _ (by omega));(have w2:IntKind.i64.wrap ((k:Int)+2)=(k:Int)+2:=zw _ (by omega));(have bv:(k:Int)+1<=s.size:=by omega);clear e1;go_wp2_with fail;refine (ah.out _).mono ?_;rintro e w5 ⟨rfl,rfl⟩;go_wp2_with fail;(refine (kL Y _ (by omega) (by omega) (HE.out.below y.out HE.out.1)).mono ?_);rintro e w6 ⟨q,rfl,hq,HQ,J⟩;have U:=aB (y.out.trans (J.mono y.out.size));(have q1:¬(9223372036854775807:Int)<6+q.size:=by omega);(have q2:¬9223372036854775807<6+q.size:=by omega);clear J;go_wp2_with fail;go_meet;case rel=>exact ⟨_,rfl,rfl,aB (by rw[G.out,<-HQ.out];simp),U⟩
     (have L:(rt,rn)=(M.data.toList,n):=by rw[Z.out,aC Q]);(injection L with e1 I);subst I;have G:=aB e1;clear e1;go_wp2_with fail;go_meet;case rel=>exact ⟨M,rfl,rfl,aB G.out.symm,y⟩
    case rest=>
     obtain ⟨t2,rfl,rfl,aj,ay⟩:=hcut;(have b3:t2.size=rt.length:=by rw[<-aj.out];exact (Lib.size_eq t2));have b5:=ak.out;have b6:=al.out;(obtain ⟨m,hm⟩:=zi (show 0<=rn by omega));subst hm;(have q1:¬(9223372036854775807:Int)<t.size+t2.size:=by omega);(have q2:¬9223372036854775807<t.size+t2.size:=by omega);(have q3:¬(9223372036854775807:Int)<t.size+t2.size+1:=by omega);(have q4:¬9223372036854775807<t.size+t2.size+1:=by omega);(have wm:IntKind.i64.wrap ((k:Int)+m)=(k:Int)+m:=zw _ (by omega));go_wp2;go_roundw
     case rel=>
      refine ⟨k+m,_,rfl,by go_num,by omega,?_,aB ?_,ay⟩
      .simp only[ByteArray.size_append];have I:(⟨#[10]⟩:ByteArray).size=1:=rfl;omega
      rw[<-HT.out,<-ar,ai.out,<-aj.out];simp
     case measure=>simp[intOf];omega
  have a3:k=s.size:=by omega
  subst a3;clear a4 hk;go_wp2;go_ret2;have e:=HT.out;rw[Nat.sub_self]at e;have I:jy s.data.toList 0 s.size=[]:=rfl;rw[I,List.append_nil]at e;exact ⟨by rw[<-e];cases t;simp,HB.out⟩
def oN (s:List UInt8):List UInt8×Int:=if 1024<s.length then ([],8) else (jy s s.length 0,0)
def Jl (s) (w) (q:aS w):
    aG prog 99 #[.string s] w (.tuple #[.string ⟨(oN s.data.toList).1.toArray⟩,.int .i64 (oN s.data.toList).2]):=by
 unfold aG;have j:s.data.toList.length=s.size:=(Lib.size_eq s).symm;by_cases h:1024<s.size
 .have e:oN s.data.toList=([],8):=by unfold oN;rw[j,zt h]
  rw[e];have hi:(1024:Int)<s.size:=by omega
  clear e;go_in;go_wp2;go_ret2;exact ⟨rfl,aU⟩
 have e:oN s.data.toList=(jy s.data.toList s.size 0,0):=by unfold oN;rw[j,aC h]
 rw[e];exact Jy s w q (by omega)
def eF (sz:List Int):Nat->Int
 | 0=>0
 | k+1=>eF sz k+sz.getD k 0
def oE {sz:List Int} (h:∀x∈sz,0<=x/\x<=4):∀k,0<=eF sz k/\eF sz k<=4*k
 | 0=>by simp[eF]
 | k+1=>by
  have ih:=oE h k;rw[eF]
  have q:0<=sz.getD k 0/\sz.getD k 0<=4:=by
   by_cases j:k<sz.length
   .have e:sz.getD k 0=sz[k]:=by simp[List.getD,j]
    rw[e];exact h _ (List.getElem_mem j)
   (have e:sz.getD k 0=0:=by simp[List.getD,Nat.le_of_not_lt j]);rw[e];decide
  omega
def jK (sz:List Int) (nm:List (ByteArray×Nat)) (s:ByteArray):Int:=match nm.find? (λ x=>x.1.toList==s.toList) with|some x=>eF sz x.2|none=>-1
def CS (C:Option Addr) (cap:Nat) (sz:List Int) (a:Nat) (w:World) (J:a<=sz.length) (L:sz.length<=1000000) (A:∀x∈sz,0<=x/\x<=4)
    (u:∀i,i<sz.length->∃B:Nat,C=some ⟨B,0,none⟩/\w.cell? ⟨B,i*10+9,none⟩=some (.int .i64 (sz.getD i 0))):
    zS prog 172 #[.slice C sz.length cap,.int .i64 a] w (.int .i64 (eF sz a)):=by
 unfold zS;have D:=aB u;clear u;go_in;go_wp2_with fail;go_loop [5,6] (λ n i=>∃j:Nat,j<=a/\i=.int .i64 j/\n=.int .i64 (eF sz j)) (λ _ i=>a-(intOf i).toNat)
 case atStart=>exact ⟨0,by omega,rfl,rfl⟩
 case round=>
  obtain ⟨j,K,rfl,rfl⟩:=hrel;by_cases F:j<a
  .have v:(j:Int)<a:=by omega
   (have E:(j:Int)<sz.length:=by omega);(obtain ⟨B,rfl,y⟩:=D.out j (by omega));have H:=oE A j;have I:=oE A (j+1);have h:Hid (eF sz (j+1)=eF sz j+sz.getD j 0):=aB rfl;(have M:IntKind.i64.wrap ((j:Int)+1)=(j:Int)+1:=zw _ (by omega));(have N:IntKind.i64.wrap (eF sz j+sz.getD j 0)=eF sz j+sz.getD j 0:=zw _ (by have e:=h.out;omega));(have G:wrap64 (eF sz j+sz.getD j 0)=eF sz j+sz.getD j 0:=qt (by have e:=h.out;omega));generalize sz.getD j 0=z at *;go_wp2_with fail;exact ⟨⟨j+1,by omega,by go_num,by rw[h.out]⟩,by simp[intOf];omega⟩
  have q:j=a:=by omega
  subst q;go_wp2;go_ret;exact ⟨rfl,rfl⟩
def wg {α:Type} {p:α->Bool}:∀{l:List α} {k:Nat} {x:α},l[k]?=some x->(∀j y,j<k->l[j]?=some y->p y=false)->p x=true->l.find? p=some x
 | [],k,x,h,_,_=>by simp at h
 | a::l,0,x,h,_,hx=>by
  simp at h;subst h;simp[hx]
 | a::l,k+1,x,h,hn,hx=>by
  have q:=hn 0 a (by omega) rfl
  rw[List.find?_cons,q];exact wg (k:=k) (by simpa using h) (λ j y u hy=>hn (j+1) y (by omega) (by simpa using hy)) hx
def Pj (la) (cap) (sz) (na) (ncap) (nm:List (ByteArray×Nat)) (s) (w) (Q:sz.length<=1000000) (T:∀x∈sz,0<=x/\x<=4) (R:nm.length<=1000000) (G:∀x∈nm,x.2<=sz.length) (I:∀i,i<sz.length->∃B:Nat,la=some ⟨B,0,none⟩/\w.cell? ⟨B,i*10+9,none⟩=some (.int .i64 (sz.getD i 0))) (L:∀i x,nm[i]?=some x->∃B:Nat,na=some ⟨B,0,none⟩/\w.cell? ⟨B,i*2,none⟩=some (.string x.1)/\w.cell? ⟨B,i*2+1,none⟩=some (.int .i64 x.2)):
    zS prog 170 #[.slice la sz.length cap,.slice na nm.length ncap,.string s] w (.int .i64 (jK sz nm s)):=by
 unfold zS;have O:=aB (λ a P=>CS la cap sz a w P Q T I)
 have N:=aB L;clear L I;go_in;go_wp2_with fail;go_loop [7] (λ i=>∃j:Nat,j<=nm.length/\i=.int .i64 j/\Hid (∀q y,q<j->nm[q]?=some y->(y.1.toList==s.toList)=false)) (λ i=>nm.length-(intOf i).toNat)
 case atStart=>exact ⟨0,by omega,rfl,aB (λ q y h=>by omega)⟩
 case round=>
  obtain ⟨j,U,rfl,u⟩:=hrel;by_cases F:j<nm.length
  .have K:(j:Int)<nm.length:=by omega
   have hx:nm[j]?=some nm[j]:=zg F;generalize nm[j]=x at hx;obtain ⟨B,rfl,X,Y⟩:=N.out j x hx;have H:=G x (List.mem_of_getElem? hx);have C:=aB (O.out x.2 H);(have W:IntKind.i64.wrap ((j:Int)+1)=(j:Int)+1:=zw _ (by omega));by_cases J:(x.1.toList==s.toList)=true
   .have A:Hid (jK sz nm s=eF sz x.2):=aB (by unfold jK;rw[wg hx (λ q y v hy=>u.out q y v hy) J])
    go_wp2_with fail;refine C.out.mono ?_;rintro e V ⟨rfl,rfl⟩;go_wp2;go_ret;exact ⟨by rw[A.out];rfl,rfl⟩
   (have D:(x.1.toList==s.toList)=false:=by simpa using J);have M:=aB D;go_wp2_with fail;(refine ⟨⟨j+1,by omega,by go_num,aB (λ q y v hy=>?_)⟩,by simp[intOf];omega⟩);by_cases e:q=j
   .subst e
    rw[hx]at hy;(cases hy);exact M.out
   exact u.out q y (by omega) hy
  have E:j=nm.length:=by omega
  subst E
  have A:Hid (jK sz nm s=-1):=aB (by
   unfold jK
   have e:nm.find? (λ x=>x.1.toList==s.toList)=none:=by
    rw[List.find?_eq_none];intro y hy;obtain ⟨q,v⟩:=List.getElem?_of_mem hy;simp[u.out q y (List.getElem?_eq_some_iff.1 v).1 v]
   rw[e])
  go_wp2;go_ret;exact ⟨by rw[A.out];rfl,rfl⟩
