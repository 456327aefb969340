import Derived.Test.YtbmcofdodfcnnaaGreatDoorGAG
set_option linter.all false
set_option maxHeartbeats 0
set_option maxRecDepth 100000
namespace Go
open Proofs.Tryz
def other (l:List UInt8):Option (aE×List UInt8):=
 if l=[110,111,112] then some (⟨29,0,0,0,0⟩,[])
 else if l=[109,118] then some (⟨29,0,0,0,0⟩,[100,44,115])
 else if l=[110,111,116] then some (⟨32,0,0,0,-1⟩,[100,44,115])
 else if l=[110,101,103] then some (⟨2,0,0,0,0⟩,[100,44,116])
 else if l=[115,101,113,122] then some (⟨31,0,0,0,1⟩,[100,44,115])
 else if l=[115,110,101,122] then some (⟨5,0,0,0,0⟩,[100,44,116])
 else if l=[98,101,113,122] then some (⟨54,0,0,0,0⟩,[115,44,112])
 else if l=[98,110,101,122] then some (⟨55,0,0,0,0⟩,[115,44,112])
 else if l=[106] then some (⟨62,0,0,0,0⟩,[112])
 else if l=[114,101,116] then some (⟨49,0,1,0,0⟩,[])
 else none
def eY (nm:ByteArray):Option (aE×List UInt8):=
 match (List.range 64).find? (gW nm) with
 | some k=>some (⟨k+1,0,0,0,0⟩,eQ (row k).kind)
 | none=>other nm.data.toList
def LK {l:List UInt8} {s:aE×List UInt8} (h:other l=some s):(∀r∈s.2,gQ r)/\s.2.length<=6:=by
 unfold other at h;unfold gQ
 repeat' split at h
 all_goals first
  | (injection h with h;subst h;decide)
  | cases h
def yD {nm:ByteArray} {s:aE×List UInt8} (h:eY nm=some s):(∀r∈s.2,gQ r)/\s.2.length<=6:=by
 unfold eY at h
 split at h
 .rename_i k hk
  injection h with h;subst h
  have j:k<64:=by rw[List.find?_range_eq_some]at hk;simpa using hk.2.1
  exact ⟨qC (iH k j),vy _⟩
 exact LK h
structure cQ where
 data:List UInt8
 ins:aE
 tg:List UInt8
def cI:aE:=⟨0,0,0,0,0⟩
def jZ:cQ:=⟨[],cI,[]⟩
def cY (p:cQ):List Value:=[.string ⟨p.data.toArray⟩,.int .i64 p.ins.op,.int .i64 p.ins.rd,.int .i64 p.ins.rs1,.int .i64 p.ins.rs2,.int .i64 p.ins.imm,.string ⟨p.tg.toArray⟩]
def cN (nm:ByteArray) (l:List Pc):cQ×Int:=
 match eY nm with
 | none=>(jZ,4)
 | some s=>match bM s.2 l s.1 [] with
  | none=>(jZ,4)
  | some t=>if right t.1 then (⟨[],t.1,t.2⟩,0) else (jZ,5)
def lu (nm:ByteArray) (l:List Pc):List cQ×Int:=
 if (eR nm l).2=0 then (if (bQ (eR nm l).1).2=0 then ([⟨bR 2 (bQ (eR nm l).1).1,cI,[]⟩],0) else ([],5)) else ([],(eR nm l).2)
def iy (size:Nat) (l:List Pc):List cQ×Int:=
 match bM [105] l cI [] with
 | none=>([],4)
 | some s=>if s.1.imm<0\/2^(8*size)<=s.1.imm then ([],5) else ([⟨bR size s.1.imm,cI,[]⟩],0)
def fS (n:Int):Int:=(n+2048)%4096-2048
def wB (n:Int):Int:=if (n-fS n)/4096=524288 then -524288 else (n-fS n)/4096
def j7 (r n:Int):List cQ:=
 if fS n=n then [⟨[],⟨29,r,0,0,n⟩,[]⟩]
 else ⟨[],⟨60,r,0,0,wB n⟩,[]⟩::(if fS n=0 then [] else [⟨[],⟨38,r,r,0,fS n⟩,[]⟩])
def j8 (l:List Pc):List cQ×Int:=
 match bM [100,44,105] l cI [] with
 | none=>([],4)
 | some s=>if s.1.imm < -2147483648\/2147483647<s.1.imm then ([],5) else (j7 s.1.rd s.1.imm,0)
def cL (nm:ByteArray) (l:List Pc):List cQ×Int:=
 if Lib.hasPrefix nm.data.toList [99,46] then lu ⟨(Lib.trimPrefix nm.data.toList [99,46]).toArray⟩ l
 else if fK nm.data.toList≠0 then iy (fK nm.data.toList).toNat l
 else if nm.data.toList=[108,105] then j8 l
 else if (cN nm l).2=0 then ([(cN nm l).1],0) else ([],(cN nm l).2)
def eV (nm:List UInt8):List Pc->List UInt8×List cQ×Int
 | []=>(nm,[],0)
 | p::l=>if (cL ⟨p.2.toArray⟩ l).2=0 then (nm,(cL ⟨p.2.toArray⟩ l).1,0) else ([],[],(cL ⟨p.2.toArray⟩ l).2)
def iK:List Pc->List UInt8×List cQ×Int
 | p::q::l=>if q.2=[58] then (if eX p.1 p.2 then eV p.2 l else ([],[],4)) else eV [] (p::q::l)
 | l=>eV [] l
def bH (s:List UInt8):List UInt8×List cQ×Int:=
 match aZ (Lib.cut s [35]).1 0 [] with
 | none=>([],[],4)
 | some l=>iK l
open RowKit
def qW (o:Option (aE×List UInt8)):Value:=match o with|some s=>.tuple #[s.1.val,.string ⟨s.2.toArray⟩,.bool true]|none=>.tuple #[cI.val,.string ⟨#[]⟩,.bool false]
def tr (nm:ByteArray) (l:List UInt8):(nm.data.toList=l)=((nm.toList==l)=true):=by rw[ByteArray.toList_eq];simp
def Kd (nm) (w) (C:(List.range 64).find? (gW nm)=none):
    aG prog 189 #[.string nm] w (qW (other nm.data.toList)):=by
 unfold aG;have A:=aA (λ w=>yy nm w)
 rw[C]at A;clear C;generalize u:other nm.data.toList=O;unfold other at u
 repeat' split at u
 all_goals
  subst u;simp only[tr,Bool.not_eq_true]at *;go_in;go_wp2_with fail;refine zK (A.out _) λ E h=>?_;have q:=aA ((aF.new w zI 26).next h);have y:w.heap.size<E.heap.size:=q.out.1;have j:=aA (aJ.trans (h.mono (by simp)))
  obtain ⟨_,K,D⟩:=q.out;obtain ⟨F,G,H,I,J⟩:=bF D;clear D h q;unfold eW gV gX;go_wp2;refine zp (v:=qW _) (by simp[results,results189,go_sem,F,G,H,I,J,y,aE.val,qW,cI]) rfl ⟨rfl,?_⟩
  exact (kf j.out _ _ _ _ _).alloc (by have:=j.out.size;simp[World.setCell];omega) _
def Dk (nm) (w):aG prog 189 #[.string nm] w (qW (eY nm)):=by
 unfold aG
 cases hf:(List.range 64).find? (gW nm) with
 | none=>
  have e:eY nm=other nm.data.toList:=by simp only[eY,hf]
  rw[e];exact Kd nm w hf
 | some k=>
  have e:eY nm=some (⟨k+1,0,0,0,0⟩,eQ (row k).kind):=by simp only[eY,hf]
  rw[e];exact EC nm k w (Gz hf) hf
def MD {nm:ByteArray} {l:List Pc} {s:aE×List UInt8} (j:eY nm=some s) (h:bM s.2 l s.1 []=none):cN nm l=(jZ,4):=by simp[cN,j,h]
def QU {nm:ByteArray} {l:List Pc} {s t:aE×List UInt8} (j:eY nm=some s) (h:bM s.2 l s.1 []=some t) (q:right t.1=true):cN nm l=(⟨[],t.1,t.2⟩,0):=by simp[cN,j,h,q]
def Sm {nm:ByteArray} {l:List Pc} {s t:aE×List UInt8} (j:eY nm=some s) (h:bM s.2 l s.1 []=some t) (q:right t.1=false):cN nm l=(jZ,5):=by simp[cN,j,h,q]
def Nn {nm:ByteArray} {l:List Pc} (h:eY nm=none):cN nm l=(jZ,4):=by simp[cN,h]
def Ja (nm) (aop ard ars1 ars2 aimm) (sh) (l:List Pc) (ao) (cp) (w) (hf:eY nm=some (⟨aop,ard,ars1,ars2,aimm⟩,sh)) (hE:aS w) (hl:gN ao l w.heap.size w):
    aG prog 136 #[.string nm,.slice ao l.length cp] w (.tuple #[.agg (cY (cN nm l).1).toArray,.int .i64 (cN nm l).2]):=by
 unfold aG;have HL:=aB hl;have HE:=aB hE;have N:=aB (yD hf);have A:=aB hf;have be:=hE.1;clear hl;go_in;go_wp2_with fail;refine zK (Dk nm _) λ q H=>?_;rw[A.out];unfold qW;clear hf;have G:=aB ((aF.new w kO 193).next H);have E:=aB (aJ.trans (H.mono (by simp)))
 have bg:w.heap.size<q.heap.size:=G.out.1;clear H;unfold aE.val;simp only;go_wp2_with fail
 have I:Below q.heap.size q ((q.alloc (.cells #[.int .i64 aop,.int .i64 ard,.int .i64 ars1,.int .i64 ars2,.int .i64 aimm] 26)).alloc (.cells #[.string ⟨#[]⟩,.int .i64 aop,.int .i64 ard,.int .i64 ars1,.int .i64 ars2,.int .i64 aimm,.string ⟨#[]⟩] 193)):=
  aJ.alloc (by simp) _
 have U:aF (q.heap.size+1) (dD ⟨aop,ard,ars1,ars2,aimm⟩ []) ((q.alloc (.cells #[.int .i64 aop,.int .i64 ard,.int .i64 ars1,.int .i64 ars2,.int .i64 aimm] 26)).alloc (.cells #[.string ⟨#[]⟩,.int .i64 aop,.int .i64 ard,.int .i64 ars1,.int .i64 ars2,.int .i64 aimm,.string ⟨#[]⟩] 193)):=by
  have:=aF.new (q.alloc (.cells #[.int .i64 aop,.int .i64 ard,.int .i64 ars1,.int .i64 ars2,.int .i64 aimm] 26)) (dD ⟨aop,ard,ars1,ars2,aimm⟩ []) 193;rw[za]at this;exact this
 have al:=aB (aF.next G.out I);have C:=E.out.trans (I.mono E.out.size);have V:=aS.below HE.out C HE.out.1;have X:=gN.move HL.out C (q.heap.size+1) (by omega)
 have aj:=aB C;have R:Hid ((ByteArray.mk (sh).toArray).data.toList=sh):=by show _=_;simp
 clear I C E G;generalize ((q.alloc (.cells #[.int .i64 aop,.int .i64 ard,.int .i64 ars1,.int .i64 ars2,.int .i64 aimm] 26)).alloc (.cells #[.string ⟨#[]⟩,.int .i64 aop,.int .i64 ard,.int .i64 ars1,.int .i64 ars2,.int .i64 aimm,.string ⟨#[]⟩] 193))=W at *;refine (tX _ (by rw[R.out];exact N.out.1) (by simpa[ByteArray.size] using N.out.2) (q.heap.size+1) ⟨aop,ard,ars1,ars2,aimm⟩ [] l ao cp W V (by omega) U X).mono ?_
 rintro e w3 ⟨rfl,J,K⟩;rw[R.out]at K ⊢;have T:=aB (aF.keeps al.out J (by omega) (by simp))
 have F:=aB (J.below aj.out (by omega) (λ _ h=>by cases h) zn)
 have Q:=aB K;obtain ⟨D,yf,yc⟩:=T.out;obtain ⟨y0,y1,y2,y3,y4,y5,y6⟩:=fT yc;clear J K U V X yc
 cases hps:bM (sh) l ⟨aop,ard,ars1,ars2,aimm⟩ [] with
 | none=>
  have P:=aB (MD A.out hps);simp only[Option.isSome];go_wp2;refine zp (v:=.tuple #[.agg kO.toArray,.int .i64 4]) (by simp[results,results136,go_sem,y0,y1,y2,y3,y4,y5,y6,kO]) rfl ⟨by rw[P.out];rfl,ly F.out _ _ _ _ _ _ _⟩
 | some s=>
  obtain ⟨⟨op,rd,rs1,rs2,imm⟩,tg⟩:=s;have O:=aB hps;obtain ⟨Z,_,pc⟩:=Q.out _ hps;obtain ⟨p0,p1,p2,p3,p4,p5,p6⟩:=fT pc;simp only at p1 p2 p3 p4 p5 p6;have ak:=aB pc;clear hps pc Q;simp only[Option.isSome];go_wp2_with fail;refine zK (iI ⟨op,rd,rs1,rs2,imm⟩ _) λ w4 u=>?_;have am:=aB (aF.next T.out u);have y:=aB (F.out.trans (u.mono F.out.size));have Y:∀j v,(dD ⟨op,rd,rs1,rs2,imm⟩ tg)[j]?=some v->w4.cell? ⟨q.heap.size+1,j,none⟩=some v:=λ j v hj=>(u.cell (p:=⟨q.heap.size+1,j,none⟩) Z).trans (ak.out j v hj)
  obtain ⟨P0,P1,P2,P3,P4,P5,P6⟩:=fT Y;simp only at P1 P2 P3 P4 P5 P6;have aw:q.heap.size+1<w4.heap.size:=zl Z u.size;clear y0 y1 y2 y3 y4 y5 y6 yf D p0 p1 p2 p3 p4 p5 p6 u Y;obtain ⟨D,yf,yc⟩:=am.out;obtain ⟨y0,y1,y2,y3,y4,y5,y6⟩:=fT yc;clear yc;by_cases L:right ⟨op,rd,rs1,rs2,imm⟩=true
  .have bf:1<=op/\op<=64:=by
    apply Classical.byContradiction;intro hn;rw[lY _ hn]at L;cases L
   (obtain ⟨kk,rfl⟩:∃kk:Nat,op=kk+1:=⟨(op-1).toNat,by omega⟩);have P:=aB (QU A.out O.out L);rw[qr L];unfold dE bO;clear L;go_wp2;(refine zp (v:=.tuple #[.agg (dD ⟨kk+1,rd,rs1,rs2,imm⟩ tg).toArray,.int .i64 0]) (by simp[results,results136,go_sem,y0,y1,y2,y3,y4,y5,y6,D,dD]) rfl ⟨by rw[P.out];rfl,?_⟩);exact (ly y.out _ _ _ _ _ _ _).alloc (by have:=y.out.size;simp[World.setCell];omega) _
  have M:right ⟨op,rd,rs1,rs2,imm⟩=false:=by simpa using L
  have P:=aB (Sm A.out O.out M);rw[ob M];unfold gV gX;clear L M;go_wp2;refine zp (v:=.tuple #[.agg kO.toArray,.int .i64 5]) (by simp[results,results136,go_sem,y0,y1,y2,y3,y4,y5,y6,D,kO]) rfl ⟨by rw[P.out];rfl,?_⟩
  exact (ly y.out _ _ _ _ _ _ _).alloc (by have:=y.out.size;simp[World.setCell];omega) _
def J9 (nm) (l:List Pc) (ao) (cp) (w) (u:eY nm=none):
    aG prog 136 #[.string nm,.slice ao l.length cp] w (.tuple #[.agg (cY (cN nm l).1).toArray,.int .i64 (cN nm l).2]):=by
 unfold aG;have C:=aB (Nn (l:=l) u);go_in;go_wp2_with fail;refine zK (Dk nm _) λ D q=>?_;rw[u];have j:=aB ((aF.new w kO 193).next q);have h:=aB (aJ.trans (q.mono (by simp)))
 have y:w.heap.size<D.heap.size:=j.out.1;obtain ⟨_,L,A⟩:=j.out;obtain ⟨E,F,G,H,I,J,K⟩:=fT A;clear q j A u;unfold qW aE.val cI;simp only;go_wp2;refine zp (v:=.tuple #[.agg kO.toArray,.int .i64 4]) (by simp[results,results136,go_sem,E,F,G,H,I,J,K,kO,y]) rfl ⟨by rw[C.out];rfl,?_⟩
 exact ((ly h.out _ _ _ _ _ _ _).alloc (by have:=h.out.size;simp[World.setCell];omega) _).alloc (by have:=h.out.size;simp[World.setCell];omega) _
def J7 (nm) (l:List Pc) (ao) (cp) (w) (h:aS w) (j:gN ao l w.heap.size w):
    aG prog 136 #[.string nm,.slice ao l.length cp] w (.tuple #[.agg (cY (cN nm l).1).toArray,.int .i64 (cN nm l).2]):=by
 unfold aG
 cases hf:eY nm with
 | none=>exact J9 nm l ao cp w hf
 | some s=>
  obtain ⟨⟨a,b,c,d,e⟩,sh⟩:=s;exact Ja nm a b c d e sh l ao cp w hf h j
