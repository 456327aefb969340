import Derived.Test.YtbmcofdodfcnnaaGreatDoorGW39
set_option linter.all false
set_option maxHeartbeats 0
set_option maxRecDepth 100000
namespace Go
open Proofs.Tryz
variable {j m k f N base : Nat} {w wx : World} {la na ao : Option Addr}
def ml (ps:List Pz) (nm:List (ByteArray×Nat)) (p:Pz):Bool:=!p.1.tg.isEmpty&&decide (jK (dM ps) nm ⟨p.1.tg.toArray⟩<0)
def iu (short:Bool) (p:Rp):Int:=if p.bt≠[] then p.bt.length else if p.sh||(short&&(!p.tg.isEmpty||(eM p.ins).2==0)) then 2 else 4
def kh (ps:List Pz) (nm:List (ByteArray×Nat)) (k:Nat) (p:Pz):Bool:=!p.1.tg.isEmpty&&(p.2.2 != 4&&(eM (eA ps nm p.1 k)).2 != 0)
def dI (ps:List Pz) (nm:List (ByteArray×Nat)) (m:Nat):List Nat:=(List.range m).filter λ k=>match ps[k]? with|some p=>kh ps nm k p|none=>false
def gF (ps:List Pz) (k:Nat):List Pz:=match ps[k]? with|some p=>ps.set k (p.1,p.2.1,4)|none=>ps
def eS (ps:List Pz) (l:List Nat):List Pz:=l.foldl gF ps
def pW (i:Nat):Value:=.int .i64 (i:Int)
def fG (nm:List (ByteArray×Nat)):Nat->List Pz->List Pz
 | 0,ps=>ps
 | f+1,ps=>if dI ps nm ps.length=[] then ps else fG nm f (eS ps (dI ps nm ps.length))
def kU (ps:List Pz) (nm:List (ByteArray×Nat)):Nat->List Pz->List UInt8->List UInt8×Int×Int
 | _,[],acc=>(acc,0,0)
 | k,p::rest,acc=>if p.1.bt≠[] then kU ps nm (k+1) rest (acc++p.1.bt)
  else if (eA ps nm p.1 k).imm%2≠0/\p.1.tg≠[] then ([],5,p.2.1)
  else kU ps nm (k+1) rest (acc++bR p.2.2.toNat (if p.2.2=2 then (eM (eA ps nm p.1 k)).1 else (bB (eA ps nm p.1 k)).1))
def rG (nm:List (ByteArray×Nat)) (f:Nat) (ps:List Pz):List UInt8×Int×Int:=
 if 1024<eF (dM (fG nm f ps)) (fG nm f ps).length then ([],8,0) else kU (fG nm f ps) nm 0 (fG nm f ps) []
def rK (short:Bool) (ps:List (Rp×Int)) (nm:List (ByteArray×Nat)):List UInt8×Int×Int:=
 match (ps.map λ p=>((p.1,p.2,0):Pz)).find? (ml (ps.map λ p=>(p.1,p.2,0)) nm) with
 | some p=>([],7,p.2.1)
 | none=>rG nm (ps.length+1) (ps.map λ p=>(p.1,p.2,iu short p.1))
def lG (short:Bool) (s:List UInt8):List UInt8×Int×Int:=
 if 2000<s.length then ([],3,0)
 else match fD (eE [] s) 0 [] [] with
 | ((ps,nm),c,ln)=>if c=0 then rK short ps nm else ([],c,ln)
def gI (short:Bool) (P:List Pz):List Pz:=P.map λ p=>(p.1,p.2.1,iu short p.1)
def UC {P:List Pz} (short) (h:j<P.length):(gI short (P.take j)++P.drop j)[j]?=some P[j]:=by
 have e:(gI short (P.take j)).length=j:=by simp[gI];omega
 rw[List.getElem?_append_right (by omega),e,Nat.sub_self,List.getElem?_drop,Nat.add_zero,zg h]
def Q3 {P:List Pz} (short) (h:j<P.length):(gI short (P.take j)++P.drop j).set j (P[j].1,P[j].2.1,iu short P[j].1)=gI short (P.take (j+1))++P.drop (j+1):=by
 have e:(gI short (P.take j)).length=j:=by simp[gI];omega
 rw[List.set_append_right _ _ (by omega),e,Nat.sub_self,List.drop_eq_getElem_cons h,List.set_cons_zero,List.take_add_one,zg h]
 unfold gI;rw[List.map_append];simp only[Option.toList_some,List.map_cons,List.map_nil,List.append_assoc,List.singleton_append]
def GM (short) {p:Rp} (h:p.bt.length<=4):0<=iu short p/\iu short p<=4:=by
 unfold iu
 split
 .omega
 split<;>omega
def mz (P:List Pz) (i:Nat):Int:=(P[i]?.map λ p=>p.2.2).getD 0
def c4 (P:List Pz):Nat:=(List.range P.length).countP λ i=>mz P i != 4
def AY (P:List Pz):c4 P<=P.length:=by
 have:=List.countP_le_length (p:=λ i=>mz P i != 4) (l:=List.range P.length)
 rw[List.length_range]at this;exact this
def CQ {p q:Nat->Bool}:∀(l:List Nat),(∀i∈l,p i=true->q i=true)->l.countP p<=l.countP q/\((∃i∈l,q i=true/\p i=false)->l.countP p<l.countP q)
 | [],_=>⟨by simp,λ ⟨_,h,_⟩=>by cases h⟩
 | a::l,h=>by
  obtain ⟨v,u⟩:=CQ l (λ i hi=>h i (by simp[hi]))
  have j:=h a (by simp)
  rw[List.countP_cons,List.countP_cons];refine ⟨?_,λ ⟨i,hi,hq,hp⟩=>?_⟩
  .cases hpa:p a
   .cases q a<;>simp<;>omega
   rw[j hpa];simp;omega
  rcases List.mem_cons.1 hi with rfl|hi
  .rw[hq,hp];simp;omega
  have:=u ⟨i,hi,hq,hp⟩;cases hpa:p a
  .cases q a<;>simp<;>omega
  rw[j hpa];simp;omega
def sB (P:List Pz) (k):(gF P k).length=P.length:=by
 unfold gF
 split<;>simp
def ET (P:List Pz) (k i):mz (gF P k) i=if i=k/\k<P.length then 4 else mz P i:=by
 unfold gF mz;by_cases j:k<P.length
 .rw[zg j]
  simp only;by_cases e:i=k
  .subst e
   rw[List.getElem?_set_self j,zt ⟨rfl,j⟩];rfl
  rw[List.getElem?_set_ne (λ h=>e h.symm),aC (λ h=>e h.1)]
 have q:P[k]?=none:=List.getElem?_eq_none (by omega)
 rw[q,aC (λ h=>j h.2)]
def FX (P:List Pz) (k):c4 (gF P k)<=c4 P/\(k<P.length->mz P k≠4->c4 (gF P k)<c4 P):=by
 unfold c4;rw[sB]
 have h:=CQ (p:=λ i=>mz (gF P k) i != 4) (q:=λ i=>mz P i != 4) (List.range P.length) (λ i _ j=>by
  rw[ET]at j
  split at j
  .simp at j
  exact j)
 refine ⟨h.1,λ u v=>h.2 ⟨k,by simpa using u,by simpa using v,?_⟩⟩
 rw[ET,zt ⟨rfl,u⟩];rfl
def F7:∀(l:List Nat) (P:List Pz),c4 (eS P l)<=c4 P
 | [],P=>by simp[eS]
 | k::l,P=>by
  show c4 (eS (gF P k) l)<=c4 P;have:=F7 l (gF P k);have:=(FX P k).1;omega
def sw:∀(l:List Nat) (P:List Pz),(eS P l).length=P.length
 | [],P=>rfl
 | k::l,P=>by
  show (eS (gF P k) l).length=_;rw[sw l,sB]
def CH (P:List Pz) (nm:List (ByteArray×Nat)) (m):(dI P nm m).length<=m:=by
 unfold dI;have:=List.length_filter_le (λ k=>match P[k]? with|some p=>kh P nm k p|none=>false) (List.range m)
 rw[List.length_range]at this;exact this
def Dv {P:List Pz} {nm:List (ByteArray×Nat)} (h:k∈dI P nm m):k<m/\∃p,P[k]?=some p/\kh P nm k p=true:=by
 unfold dI at h;rw[List.mem_filter]at h;refine ⟨by simpa using h.1,?_⟩
 have j:=h.2
 split at j
 .rename_i p hp
  exact ⟨p,hp,j⟩
 cases j
def zY {P:List Pz} {nm:List (ByteArray×Nat)} (h:dI P nm P.length≠[]):c4 (eS P (dI P nm P.length))<c4 P:=by
 cases hg:dI P nm P.length with
 | nil=>exact absurd hg h
 | cons k l=>
  obtain ⟨q,p,u,j⟩:=Dv (show k∈dI P nm P.length by rw[hg];simp)
  show c4 (eS (gF P k) l)<c4 P;have v:=F7 l (gF P k)
  have w:=(FX P k).2 q (by
   unfold mz;rw[u];unfold kh at j;simp only[Bool.and_eq_true,bne_iff_ne]at j;exact j.2.1)
  omega
def yg {nm:List (ByteArray×Nat)} {P:List Pz} (j:0<f) (h:dI P nm P.length=[]):fG nm f P=P:=by
 match f,j with
 | f+1,_=>rw[fG,zt h]
def xD {nm:List (ByteArray×Nat)} {P:List Pz} (j:0<f) (h:dI P nm P.length≠[]):fG nm f P=fG nm (f-1) (eS P (dI P nm P.length)):=by
 match f,j with
 | f+1,_=>rw[fG,aC h];rfl
def LO {P:List Pz} {nm:List (ByteArray×Nat)} {p:Pz} (h:P[j]?=some p):dI P nm (j+1)=dI P nm j++(if kh P nm j p then [j] else []):=by
 unfold dI;rw[List.range_succ,List.filter_append];simp only[List.filter_cons,List.filter_nil,h]
def ND (i):0<=(eM i).1/\(eM i).1<=65535:=by
 rw[li];unfold bQ
 split
 .split
  .rename_i k hk
   (have h:k<32:=by have:=List.mem_of_find?_eq_some hk;simpa using this);have:=yw h i;exact ⟨this.1,by omega⟩
  exact ⟨by decide,by decide⟩
 exact ⟨by decide,by decide⟩
def V9 (i):0<=(bB i).1/\(bB i).1<4294967296:=by
 by_cases h:right i=true
 .exact (Sc h).2.2.2
 rw[A7 (by simpa using h)]
 exact ⟨by decide,by decide⟩
def uR (n:Int):n.tmod 2=0↔n%2=0:=
 ⟨λ h=>Int.emod_eq_zero_of_dvd (Int.dvd_of_tmod_eq_zero h),λ h=>Int.tmod_eq_zero_of_dvd (Int.dvd_of_emod_eq_zero h)⟩
def Nh {P:List Pz} {p:Pz} (h:p∈gF P k):∃q∈P,q.1=p.1:=by
 unfold gF at h
 split at h
 .rename_i x hx
  rcases List.mem_or_eq_of_mem_set h with h|rfl
  .exact ⟨p,h,rfl⟩
  exact ⟨x,List.mem_of_getElem? hx,rfl⟩
 exact ⟨p,h,rfl⟩
def CD:∀(l:List Nat) {P:List Pz} {p:Pz},p∈eS P l->∃q∈P,q.1=p.1
 | [],P,p,h=>⟨p,h,rfl⟩
 | k::l,P,p,h=>by
  obtain ⟨q,u,e⟩:=CD l (P:=gF P k) h;obtain ⟨r,v,j⟩:=Nh u;exact ⟨r,v,j.trans e⟩
def C8 (nm:List (ByteArray×Nat)):∀(f:Nat) {P:List Pz} {p:Pz},p∈fG nm f P->∃q∈P,q.1=p.1
 | 0,P,p,h=>⟨p,h,rfl⟩
 | f+1,P,p,h=>by
  rw[fG]at h
  split at h
  .exact ⟨p,h,rfl⟩
  obtain ⟨q,u,e⟩:=C8 nm f h;obtain ⟨r,v,j⟩:=CD _ u;exact ⟨r,v,j.trans e⟩
def Au (T:List aI):∀p∈(cZ T).1,p.bt.length<=4:=by
 match T with
 | []=>intro p h;cases h
 | t::l=>
  intro p h;simp only[cZ]at h;have one:∀{q:Rp},q.bt=[]->p∈[q]->p.bt.length<=4:=λ j v=>by rw[List.mem_singleton.1 v,j];simp
  unfold fO at h
  split at h
  .split at h
   .unfold cR at h
    split at h
    .split at h
     .exact one rfl h
     cases h
    cases h
   cases h
  unfold kb at h
  split at h
  .exact one rfl h
  split at h
  .cases h
  unfold hU at h
  split at h
  .unfold jI at h
   split at h
   .cases h
   split at h
   .cases h
   rename_i u l _ _;unfold iA at h
   split at h
   .cases h
   split at h
   .cases h
   split at h
   .cases h
   rw[List.mem_singleton.1 h,kw];unfold lH
   split
   .omega
   split
   .omega
   split<;>omega
  unfold cU at h
  split at h
  .cases h
  unfold kR at h
  split at h
  .cases h
  split at h
  .split at h
   .unfold kN at h
    split at h
    .cases h
    obtain ⟨x,hx,rfl⟩:=List.mem_map.1 h;unfold j7 at hx
    split at hx
    .rw[List.mem_singleton.1 hx];simp[pU]
    rcases List.mem_cons.1 hx with rfl|hx
    .simp[pU]
    split at hx
    .cases hx
    rw[List.mem_singleton.1 hx];simp[pU]
   split at h
   .exact one rfl h
   cases h
  cases h
def Kx (L) (n) (h:List (ByteArray×Nat)):(∀p∈(dY L n h).1.1,p.bt.length<=4)/\(dY L n h).1.1.length<=2/\((dY L n h).1.2=h\/∃s,(dY L n h).1.2=h++[(s,n)]):=by
 unfold dY
 split
 .exact ⟨λ p j=>(by cases j),by simp,Or.inl rfl⟩
 split
 .split
  .exact ⟨Au _,Ad _,Or.inl rfl⟩
  exact ⟨λ p j=>(by cases j),by simp,Or.inl rfl⟩
 split
 .exact ⟨λ p j=>(by cases j),by simp,Or.inl rfl⟩
 split
 .split
  .exact ⟨λ p j=>(by cases j),by simp,Or.inl rfl⟩
  exact ⟨Au _,Ad _,Or.inr ⟨_,rfl⟩⟩
 exact ⟨λ p j=>(by cases j),by simp,Or.inl rfl⟩
def xI:∀(A:List (List UInt8)) (n:Nat) (j:List (Rp×Int)) (h:List (ByteArray×Nat)),(∀p∈j,p.1.bt.length<=4)->(∀x∈h,x.2<=j.length)->
    (∀p∈(fD A n j h).1.1,p.1.bt.length<=4)/\(∀x∈(fD A n j h).1.2,x.2<=(fD A n j h).1.1.length)/\(fD A n j h).1.1.length<=j.length+2*A.length/\(fD A n j h).1.2.length<=h.length+A.length
 | [],n,j,h,h1,h2=>⟨h1,h2,by simp[fD],by simp[fD]⟩
 | L::A,n,j,h,h1,h2=>by
  obtain ⟨f1,f2,f3⟩:=Kx L j.length h;rw[fD]
  split
  .generalize dY L j.length h=X at *
   obtain ⟨⟨q,nms'⟩,er⟩:=X;simp only at f1 f2 f3 ⊢
   have v:∀p∈j++q.map λ p=>(p,(n:Int)+1),p.1.bt.length<=4:=λ p u=>by
    rcases List.mem_append.1 u with u|u
    .exact h1 p u
    obtain ⟨x,hx,rfl⟩:=List.mem_map.1 u;exact f1 x hx
   have w:∀x∈nms',x.2<=(j++q.map λ p=>(p,(n:Int)+1)).length:=λ x hx=>by
    rw[List.length_append];rcases f3 with rfl|⟨s,rfl⟩
    .have:=h2 x hx;omega
    rcases List.mem_append.1 hx with hx|hx
    .have:=h2 x hx;omega
    rw[List.mem_singleton.1 hx];simp
   have ih:=xI A (n+1) _ nms' v w;refine ⟨ih.1,ih.2.1,?_,?_⟩
   .have:=ih.2.2.1
    simp at this ⊢;omega
   have:=ih.2.2.2;(have y:nms'.length<=h.length+1:=by rcases f3 with rfl|⟨s,rfl⟩<;>simp);simp at this ⊢;omega
  exact ⟨λ p u=>(by cases u),λ p u=>(by cases u),by simp,by simp⟩
open RowKit
def jG (w:World) (la na:Option Addr) (nm:List (ByteArray×Nat)) (P:List Pz) (wx:World):Prop:=
 rM (w.heap.size+1) la P wx/\rq na nm wx/\oQ w.heap.size wx/\Below w.heap.size w wx/\w.heap.size<wx.heap.size
def jG.below {nm:List (ByteArray×Nat)} {P:List Pz} {q:World} (h:jG w la na nm P wx) (j:Below wx.heap.size wx q):jG w la na nm P q:=
 ⟨uV h.1 j,uy h.2.1 j,h.2.2.1.below j h.2.2.2.2,h.2.2.2.1.trans (j.mono (Nat.le_of_lt h.2.2.2.2)),by have:=h.2.2.2.2;have:=j.size;omega⟩
def jG.set {nm:List (ByteArray×Nat)} {P:List Pz} {B:Nat} {p:Pz} (h:jG w la na nm P wx) (A:∀B v:Nat,la=some ⟨B,0,none⟩->na=some ⟨v,0,none⟩->B≠v) (u:la=some ⟨B,0,none⟩) (O:P[k]?=some p) (n):
    jG w la na nm (P.set k (p.1,p.2.1,n)) (wx.setCell ⟨B,k*10+9,none⟩ (.int .i64 n)):=by
 obtain ⟨D,I,⟨J,K,L⟩,M,N⟩:=h;have Q:=(D.2 B u).1;have E:(wx.setCell ⟨B,k*10+9,none⟩ (.int .i64 n)).heap.size=wx.heap.size:=by simp[World.setCell]
 refine ⟨Vp D u O n,λ i x hx=>?_,⟨?_,?_,λ q=>?_⟩,M.setCell (p:=⟨B,k*10+9,none⟩) (show w.heap.size<=B by omega) _,by rw[E];exact N⟩
 .obtain ⟨v,C,F,G,H⟩:=I i x hx
  have y:B≠v:=A B v u C;exact ⟨v,C,by rw[E];exact F,(World.cell?_setCell_other _ _ _ _ (by intro j;injection j with j;exact y j)).trans G,(World.cell?_setCell_other _ _ _ _ (by intro j;injection j with j;exact y j)).trans H⟩
 .exact (World.cell?_setCell_other _ _ _ _ (by intro j;injection j with j;omega)).trans J
 .exact (World.cell?_setCell_other _ _ _ _ (by intro j;injection j with j;omega)).trans K
 rw[World.frozen?_setCell];exact L q
def Bi (la:Option Addr) (i:Nat) (w:World):Int:=match la with
 | some a=>(match w.cell? ⟨a.block,i*10+9,none⟩ with|some (.int _ n)=>n|_=>0)
 | none=>0
def AW (la:Option Addr) (N:Nat) (w:World):Nat:=(List.range N).countP λ i=>Bi la i w != 4
def N1:Value->Nat
 | .bool true=>1
 | _=>0
def H7 {nm:List (ByteArray×Nat)} {P:List Pz} (h:jG w la na nm P wx) (q:P.length=N):AW la N wx=c4 P:=by
 unfold AW c4;rw[q];refine List.countP_congr (λ i hi=>?_)
 have j:i<P.length:=by rw[q];simpa using hi
 obtain ⟨B,e,_,u⟩:=h.1.1 i P[i] (by simp[j])
 have:Bi la i wx=mz P i:=by
  unfold Bi mz;rw[e];simp only;rw[u 9 _ rfl];simp[j]
 rw[this]
def Pv {P:List Pz} {nm:List (ByteArray×Nat)} (h:Lay P nm) (k):Lay (gF P k) nm:=
 ⟨by rw[sB];exact h.len,h.nlen,λ p j=>by
  unfold gF at j
  split at j
  .rcases List.mem_or_eq_of_mem_set j with j|rfl
   .exact h.sz p j
   exact ⟨show (0:Int)<=4 by decide,show (4:Int)<=4 by decide⟩
  exact h.sz p j,λ x hx=>by rw[sB];exact h.at' x hx⟩
def Dc {nm:List (ByteArray×Nat)}:∀{P:List Pz},Lay P nm->∀l:List Nat,Lay (eS P l) nm
 | _,h,[]=>h
 | _,h,k::l=>Dc (Pv h k) l
def X7 (w:World) (la na:Option Addr) (nm:List (ByteArray×Nat)) (N:Nat) (P1:List Pz) (mv:Value) (wr:World):Prop:=
 ∃(b:Bool) (P:List Pz) (f:Nat),mv=.bool b/\Hid (jG w la na nm P wr)/\P.length=N/\Hid (Lay P nm)/\Hid (fG nm (N+1) P1=fG nm f P)/\c4 P<f/\(b=false->dI P nm P.length=[])
def Af {e:TypeId} {size:Nat} {n j:Nat} {y:List Value} (h:w.ownsRow base e size (.slice ao m j) n y):n<=j:=by
 obtain ⟨_,⟨q,A⟩|⟨g,cap,u,q,_,_,v,_⟩⟩:=h
 .omega
 injection q with _ _ h3
 omega
def Tq (s) (short) (w):
    aG prog 98 #[.string s,.bool short] w (.tuple #[.string ⟨(lG short s.data.toList).1.toArray⟩,.agg #[.int .i64 (lG short s.data.toList).2.1,.int .i64 (lG short s.data.toList).2.2]]):=by
 unfold aG;obtain ⟨k0,g6,g3,g4,g5⟩:=info_parts infoInt;have e7:s.data.toList.length=s.size:=by show s.data.toList.length=s.data.size;rw[Array.length_toList]
 by_cases hs:s.size<=2000
 .have HV:Hid (lG short s.data.toList=match fD (eE [] s.data.toList) 0 [] [] with|((ps,nm),c,ln)=>if c=0 then rK short ps nm else ([],c,ln)):=aB (by unfold lG;rw[aC (by omega)])
  have HS:=aB (λ W=>Ml s W hs)
  have ha:(s.size:Int)<=2000:=by omega
  have V:=aB (xI (eE [] s.data.toList) 0 [] [] (λ p hp=>(by cases hp)) (λ p hp=>(by cases hp)))
  have dr:=vi s.data.toList [];generalize fD (eE [] s.data.toList) 0 [] []=SR at *;obtain ⟨⟨ps,nm⟩,c,ln⟩:=SR;have ds:ps.length<=5000:=by have:=V.out.2.2.1;simp at this dr;omega
  have e4:nm.length<=5000:=by have:=V.out.2.2.2;simp at this dr;omega
  replace V:Hid ((∀p∈ps,p.1.bt.length<=4)/\(∀x∈nm,x.2<=ps.length)/\True):=aB ⟨V.out.1,V.out.2.1,trivial⟩;clear dr;replace HV:Hid (lG short s.data.toList=if c=0 then rK short ps nm else ([],c,ln)):=HV;generalize lG short s.data.toList=R at *;clear e7;go_in;go_wp2_with fail;refine (HS.out _).mono ?_;rintro e w1 ⟨la,n,cap,na,n',a1,rfl,ba,a9,ca⟩;simp only at ba a9;obtain ⟨jt,h6,ak⟩:=lm ba;injection ak with hs1 Q cf
  subst hs1 Q cf;obtain ⟨ju,hm,ak⟩:=lm a9;injection ak with hs1 Q cf
  subst hs1 Q cf;have es:oQ w.heap.size w1:=oQ.below (w:=w.alloc (.cells #[.int .i64 0,.int .i64 0] 39)) ⟨by go_simp,by go_simp,λ q=>by go_simp⟩ ca (by simp)
  have du:w.heap.size<w1.heap.size:=by have:=ca.size;simp at this;omega
  have U:Hid (Below w.heap.size w w1):=aB (aJ.trans (ca.mono (by simp)))
  have en:=aB (TS ba);have em:=aB (Tp a9);have ew:ps.length<=cap:=Af ba;have g7:nm.length<=a1:=Af a9;have eh:=aB es;obtain ⟨f0,f1,ff⟩:=es
  have a3:Hid (∀B Bn:Nat,la=some ⟨B,0,none⟩->na=some ⟨Bn,0,none⟩->B≠Bn):=aB (λ B Bn e1 e2 e3=>by
   subst e1 e2 e3;rcases ut ba a9 (by decide) with h|h
   .cases h
   exact h rfl)
  clear HS ba a9 ca;by_cases hc:c=0
  .subst hc
   replace HV:Hid (R=rK short ps nm):=HV;go_upto_block 0 with fail;have L:Below w1.heap.size w1 (w1.alloc (.cells #[.int .i64 0,.int .i64 ln] 39)):=aJ;have aq:=aB (uV en.out L);have bh:=aB (uy em.out.1 L);have db:=aB (eh.out.below L du);have bd:=aB (U.out.trans (L.mono (Nat.le_of_lt du)));(have cp:w.heap.size<(w1.alloc (.cells #[.int .i64 0,.int .i64 ln] 39)).heap.size:=by simp;omega);(have e5:(w.alloc (.cells #[.int .i64 0,.int .i64 0] 39)).heap.size=w.heap.size+1:=by simp);rw[e5]at aq;clear L en em eh U f0 f1 ff du e5;generalize w1.alloc (.cells #[.int .i64 0,.int .i64 ln] 39)=w2 at *;(have b4:∀{W:World} (a b:Value),Below w.heap.size w W->Below w.heap.size w ((W.setCell ⟨w.heap.size,0,none⟩ a).setCell ⟨w.heap.size,1,none⟩ b):=λ a b h=>(h.setCell (p:=⟨w.heap.size,0,none⟩) zn a).setCell (p:=⟨w.heap.size,1,none⟩) zn b);(have bk:(ps.map λ p=>((p.1,p.2,0):Pz)).length=ps.length:=by simp);(have ej:Hid (Lay (ps.map λ p=>((p.1,p.2,0):Pz)) nm):=aB ⟨by rw[bk];exact ds,e4,λ p hp=>by obtain ⟨x,_,rfl⟩:=List.mem_map.1 hp;exact ⟨Int.le_refl _,show (0:Int)<=4 by decide⟩,λ x hx=>by rw[bk];exact V.out.2.1 x hx⟩);(have b9:Hid (R=match (ps.map λ p=>((p.1,p.2,0):Pz)).find? (ml (ps.map λ p=>(p.1,p.2,0)) nm) with|some p=>([],7,p.2.1)|none=>rG nm (ps.length+1) (ps.map λ p=>(p.1,p.2,iu short p.1))):=HV);clear HV;(generalize et:(ps.map λ p=>((p.1,p.2,0):Pz))=C at *);have b8:=aB et;rw[<-bk]at ew ds;have ce:ps.length=C.length:=bk.symm;rw[ce];clear et bk;go_cut [9] (λ _ wx=>Hid (∀i p,i<C.length->C[i]?=some p->ml C nm p=false)/\Below w2.heap.size w2 wx)
   case first=>
    go_wp2_with fail;(go_loopw [9] (λ kk wr=>∃j:Nat,j<=C.length/\kk=.int .i64 j/\Below w2.heap.size w2 wr/\Hid (∀i p,i<j->C[i]?=some p->ml C nm p=false)) (λ kk _=>C.length-(intOf kk).toNat));case atStart=>exact ⟨0,by omega,rfl,aU,aB (λ i p h=>by omega)⟩
    case round=>
     obtain ⟨j,hj,rfl,a8,a4⟩:=hrel;have jr:w2.heap.size<=wr.heap.size:=a8.size;have bc:=aB a8;by_cases Z:j<C.length
     .have E:C[j]?=some C[j]:=by simp[Z]
      obtain ⟨B,rfl,M,A⟩:=(uV aq.out a8).1 j C[j] E
      have di:Hid (∀b,ml C nm C[j]=b->(b=true->R=([],7,C[j].2.1))/\(b=false->∀i p,i<j+1->C[i]?=some p->ml C nm p=false)):=aB (λ b hb=>⟨λ e=>(by rw[b9.out,wg E a4.out (hb.trans e)]),λ e i p hi hp=>by
          by_cases h:i<j
          .exact a4.out i p h hp
          (have:i=j:=by omega);subst this;rw[E]at hp;(injection hp with hp);rw[<-hp];exact hb.trans e⟩)
      (have gd:=aB (λ W (hB:Below w2.heap.size w2 W)=>Gt ej.out (uV aq.out hB).1 (uy bh.out hB) cap a1 ⟨(C[j]).1.tg.toArray⟩));have y5:=A 5 _ rfl;have y8:=A 8 _ rfl;have dh:Hid (ml C nm C[j]=(!(C[j]).1.tg.isEmpty&&decide (jK (dM C) nm ⟨(C[j]).1.tg.toArray⟩<0))):=aB rfl;generalize C[j]=pj at *;obtain ⟨⟨I,tg,sh,bt⟩,lj,sj⟩:=pj;simp only at *;generalize jK (dM C) nm ⟨tg.toArray⟩=FD at *;obtain ⟨x0,x1,xf⟩:=db.out.below a8 cp;(have az:(j:Int)<C.length:=by omega);clear a8 A E b9
      cases hte:tg.isEmpty with
      | true=>
       (have al:tg=[]:=by simpa using hte);subst al;(have HQ:=(di.out false (by rw[dh.out];rfl)).2 rfl);go_wp2;go_roundw;(case rel=>exact ⟨j+1,by omega,by go_num,bc.out,aB HQ⟩);case measure=>simp[intOf];omega
      | false=>
       go_wp2_with fail;refine (gd.out _ bc.out).mono ?_;rintro e w3 ⟨rfl,rfl⟩;by_cases ey:FD<0
       .have HQ:=(di.out true (by rw[dh.out,hte,decide_eq_true ey];rfl)).1 rfl
        subst HQ;go_wp2_with fail;go_region;go_wp2;refine zp (v:=.tuple #[.string ⟨#[]⟩,.agg #[.int .i64 7,.int .i64 lj]]) (by simp[results,results98,go_sem,x0,x1,xf]) rfl ⟨rfl,below_drewN (b4 _ _ (bd.out.trans (bc.out.mono (Nat.le_of_lt cp)))) 1⟩
       (have HQ:=aB ((di.out false (by rw[dh.out,decide_eq_false ey,Bool.and_false])).2 rfl));go_wp2;go_roundw;(case rel=>exact ⟨j+1,by omega,by go_num,bc.out,HQ⟩);case measure=>simp[intOf];omega
     (have aj:j=C.length:=by omega);subst aj;clear a8;go_wp2_with fail;go_meet;case rel=>exact ⟨a4,bc.out⟩
   case rest=>
    obtain ⟨a4,er⟩:=hcut;have dz:Hid (jG w la na nm C wc):=aB (jG.below ⟨aq.out,bh.out,db.out,bd.out,cp⟩ er)
    have HG:Hid (R=rG nm (C.length+1) (gI short C)):=aB (by
     rw[b9.out,List.find?_eq_none.2 (λ p hp=>by
      obtain ⟨i,hi,e⟩:=List.getElem_of_mem hp;(rw[a4.out i p hi (by rw[zg hi,e])]);decide)]
     rw[ce];unfold gI;rw[<-b8.out,List.map_map];rfl)
    clear er a4 b9 aq bh db bd cp;go_upto_block 2 with fail;go_cut [10] (λ _ wx=>jG w la na nm (gI short C) wx)
    case first=>
     go_wp2_with fail;(go_loopw [10] (λ kk wr=>∃j:Nat,j<=C.length/\kk=.int .i64 j/\Hid (jG w la na nm (gI short (C.take j)++C.drop j) wr)) (λ kk _=>C.length-(intOf kk).toNat));case atStart=>exact ⟨0,by omega,rfl,aB (by simpa[gI] using dz.out)⟩
     case round=>
      obtain ⟨j,hj,rfl,HA⟩:=hrel;by_cases Z:j<C.length
      .have E:(gI short (C.take j)++C.drop j)[j]?=some C[j]:=UC short Z
       have a6:=aB (Q3 short Z);obtain ⟨B,rfl,M,A⟩:=HA.out.1.1 j C[j] E;obtain ⟨_,_,ez⟩:=HA.out.1.2 B rfl;generalize (gI short (C.take j)++C.drop j)=PJ at *;generalize C[j]=pj at *;obtain ⟨⟨I,tg,sh,bt⟩,lj,sj⟩:=pj;simp only at *;have y0:=A 0 _ rfl;rw[Nat.add_zero]at y0;have y1:=A 1 _ rfl;have y2:=A 2 _ rfl;have y3:=A 3 _ rfl;have y4:=A 4 _ rfl;have y5:=A 5 _ rfl;have y6:=A 6 _ rfl;have y7:=A 7 _ rfl;have y9:=A 9 _ rfl;(have az:(j:Int)<C.length:=by omega);have fr:=aB (HA.out.set a3.out rfl E 4);(have a7:=aB (λ W=>qu I W));generalize e6:eM I=SH at *;obtain ⟨hr,se⟩:=SH;(have J:Hid (iu short ⟨I,tg,sh,bt⟩=if bt≠[] then (bt.length:Int) else if sh||(short&&(!tg.isEmpty||se==0)) then 2 else 4):=aB (by unfold iu;rw[e6]));clear A e6;go_wp2_with fail;refine zK (a7.out _) λ T ah=>?_;have H:=aB (fr.out.below ah)
       have bn:(PJ.set j (⟨I,tg,sh,bt⟩,lj,4))[j]?=some (⟨I,tg,sh,bt⟩,lj,4):=by
        rw[List.getElem?_set_self];rcases Nat.lt_or_ge j PJ.length with h|h
        .exact h
        rw[List.getElem?_eq_none h]at E;cases E
       obtain ⟨B',e',ia,A⟩:=H.out.1.1 j _ bn;(injection e' with e');(injection e' with e');subst e';obtain ⟨_,_,ie⟩:=H.out.1.2 B rfl;clear y0 y1 y2 y3 y4 y5 y6 y7 y9 ez M ah;have y5:=A 5 _ rfl;have y6:=A 6 _ rfl;have y7:=A 7 _ rfl;have y9:=A 9 _ rfl;clear A
       cases hbe:bt.isEmpty with
       | false=>
        (have ai:bt≠[]:=by intro h;rw[h]at hbe;cases hbe);rw[zt ai]at J;clear ai;go_wp2;go_roundw;(case rel=>exact ⟨j+1,by omega,by go_num,aB (by have:=H.out.set a3.out rfl bn (bt.length:Int);rw[List.set_set]at this;rw[<-a6.out,J.out];exact this)⟩);case measure=>simp[intOf];omega
       | true=>
        (have ai:bt=[]:=by simpa using hbe);subst ai;(rw[aC (by simp)]at J);clear hbe
        cases sh with
        | true=>
         (rw[zt (by simp)]at J);go_wp2;go_roundw;(case rel=>exact ⟨j+1,by omega,by go_num,aB (by have:=H.out.set a3.out rfl bn 2;rw[List.set_set]at this;rw[<-a6.out,J.out];exact this)⟩);case measure=>simp[intOf];omega
        | false=>
         cases short with
         | false=>
          (rw[aC (by simp)]at J);go_wp2;go_roundw;(case rel=>exact ⟨j+1,by omega,by go_num,aB (by rw[<-a6.out,J.out];exact H.out)⟩);case measure=>simp[intOf];omega
         | true=>
          cases hte:tg.isEmpty with
          | false=>
           (rw[zt (by simp[hte])]at J);go_wp2;go_roundw;(case rel=>exact ⟨j+1,by omega,by go_num,aB (by have:=H.out.set a3.out rfl bn 2;rw[List.set_set]at this;rw[<-a6.out,J.out];exact this)⟩);case measure=>simp[intOf];omega
          | true=>
           (have al:tg=[]:=by simpa using hte);subst al;clear hte;by_cases ak:se=0
           .subst ak
            (rw[zt (by simp)]at J);go_wp2;go_roundw;(case rel=>exact ⟨j+1,by omega,by go_num,aB (by have:=H.out.set a3.out rfl bn 2;rw[List.set_set]at this;rw[<-a6.out,J.out];exact this)⟩);case measure=>simp[intOf];omega
           (have cj:(se==0)=false:=by simpa using ak);(rw[aC (by simp[cj])]at J);go_wp2;go_roundw;(case rel=>exact ⟨j+1,by omega,by go_num,aB (by rw[<-a6.out,J.out];exact H.out)⟩);case measure=>simp[intOf];omega
      (have aj:j=C.length:=by omega);subst aj;go_wp2_with fail;go_meet;case rel=>have:=HA.out;rw[List.take_length,List.drop_length,List.append_nil]at this;exact this
    case rest=>
     have ay:=aB hcut;have dn:(gI short C).length=C.length:=by simp[gI]
     have ek:Hid (Lay (gI short C) nm):=aB ⟨by rw[dn];exact ds,e4,λ p hp=>by
      obtain ⟨x,hx,rfl⟩:=List.mem_map.1 hp;rw[<-b8.out]at hx;obtain ⟨y,hy,rfl⟩:=List.mem_map.1 hx;exact GM short (V.out.1 y hy),λ x hx=>by rw[dn,<-ce];exact V.out.2.1 x hx⟩
     have fv:Hid (∀p∈gI short C,p.1.bt.length<=4):=aB (λ p hp=>by
      obtain ⟨x,hx,rfl⟩:=List.mem_map.1 hp;rw[<-b8.out]at hx;obtain ⟨y,hy,rfl⟩:=List.mem_map.1 hx;exact V.out.1 y hy)
     generalize gz:gI short C=P1 at *;generalize i7:C.length=N at *;clear dz hcut gz b8 V ce ej;go_upto_block 5 with fail;go_cut [13] (λ _ wx=>∃P,Hid (jG w la na nm P wx)/\Hid (P.length=N/\Lay P nm/\fG nm (N+1) P1=P))
     case first=>
      go_wp2_with fail;(go_loopw [13] (λ mv wr=>X7 w la na nm N P1 mv wr) (λ mv wr=>2*AW la N wr+N1 mv));case atStart=>exact ⟨true,P1,N+1,rfl,ay,dn,ek,aB rfl,by have:=AY P1;omega,λ h=>by cases h⟩
      case round=>
       obtain ⟨b,P,f,rfl,HA,O,HL,dc,hf,eu⟩:=hrel;have fx:=aB (H7 HA.out O)
       cases b with
       | false=>
        go_wp2_with fail;go_meet;case rel=>exact ⟨P,HA,aB ⟨O,HL.out,dc.out.trans (yg (by omega) (eu (by trivial)))⟩⟩
       | true=>
        clear eu;obtain ⟨w0,hg⟩:∃w0,w0=wr:=⟨_,rfl⟩;subst hg;go_upto_block 7 with fail;go_cut [14] (λ gv wx=>Hid (wx.ownsRow w0.heap.size 3 1 gv (dI P nm N).length ((dI P nm N).map pW))/\Below w0.heap.size w0 wx)
        case first=>
         go_wp2_with fail;(go_loopw [14,15] (λ gv kk wx=>∃j:Nat,j<=N/\kk=.int .i64 j/\Hid (wx.ownsRow w0.heap.size 3 1 gv (dI P nm j).length ((dI P nm j).map pW))/\Below w0.heap.size w0 wx) (λ _ kk _=>N-(intOf kk).toNat));case atStart=>exact ⟨0,by omega,rfl,aB (World.ownsRow_nil _ _ _ _),aU⟩
         case round=>
          obtain ⟨j,hj,rfl,bf,cb⟩:=hrel;have be:=aB cb;have hl:w0.heap.size<=wr.heap.size:=cb.size;by_cases Z:j<N
          .have E:P[j]?=some (P[j]'(by omega)):=zg _
           (generalize P[j]'(by omega)=pj at *);have b3:=HA.out.below cb;obtain ⟨B,rfl,M,A⟩:=b3.1.1 j pj E;(have a5:=aB (Cr _ na P nm cap a1 j pj wr HL.out b3.1.1 b3.2.1 E (by omega)));rw[O]at a5;have ao:=aB (LO (nm:=nm) E);(have a7:=aB (λ W=>qu (eA P nm pj.1 j) W));have b7:Hid (kh P nm j pj=(!pj.1.tg.isEmpty&&(pj.2.2 != 4&&(eM (eA P nm pj.1 j)).2 != 0))):=aB rfl;generalize kh P nm j pj=gb at *;generalize eM (eA P nm pj.1 j)=SH at *;generalize eA P nm pj.1 j=RI at *;obtain ⟨hr,se⟩:=SH;obtain ⟨⟨I,tg,sh,bt⟩,lj,sj⟩:=pj;simp only at *;have y5:=A 5 _ rfl;have y9:=A 9 _ rfl;(have az:(j:Int)<N:=by omega);(have gy:(dI P nm j).length<=5000:=by have:=CH P nm j;omega);clear cb A b3
           cases hte:tg.isEmpty with
           | true=>
            (have al:tg=[]:=by simpa using hte);subst al;rw[b7.out]at ao;go_wp2;go_roundw;(case rel=>exact ⟨j+1,by omega,by go_num,aB (by rw[ao.out];simpa using bf.out),be.out⟩);case measure=>simp[intOf];omega
           | false=>
            by_cases dt:sj=4
            .subst dt
             (have dp:gb=false:=by rw[b7.out,hte];rfl);rw[dp]at ao;go_wp2;go_roundw;(case rel=>exact ⟨j+1,by omega,by go_num,aB (by rw[ao.out];simpa using bf.out),be.out⟩);case measure=>simp[intOf];omega
            (have cj:(sj==4)=false:=by simpa using dt);(have bs:(sj != 4)=true:=by simpa using dt);go_wp2_with fail;refine zK a5.out λ T ah=>?_;have ei:=aB (lZ bf.out ah);have c7:Hid (Below w0.heap.size w0 T):=aB (be.out.trans (ah.mono hl));have hh:w0.heap.size<=T.heap.size:=c7.out.size;clear ah bf be y5 y9;go_wp2_with fail;refine zK (a7.out _) λ w6 dk=>?_;have b5:=aB (lZ ei.out dk);have c8:Hid (Below w0.heap.size w0 w6):=aB (c7.out.trans (dk.mono hh));have hk:w0.heap.size<=w6.heap.size:=c8.out.size;clear dk ei c7;by_cases ak:se=0
            .subst ak
             (have dp:gb=false:=by rw[b7.out,hte,bs];rfl);rw[dp]at ao;go_wp2;go_roundw;(case rel=>exact ⟨j+1,by omega,by go_num,aB (by rw[ao.out];simpa using b5.out),c8.out⟩);case measure=>simp[intOf];omega
            (have hd:(se != 0)=true:=by simpa using ak);(have g2:gb=true:=by rw[b7.out,hte,bs,hd];rfl);rw[g2]at ao;obtain ⟨ix,iz,rfl⟩:=lm b5.out;generalize gx:dI P nm j=GL at *;clear gx;(go_wp2_with (at_builtin;refine wpList_append_own _ rfl _ _ 49 rfl w0.heap.size 3 k0 _ 1 8 underlying49 g6 g3 g4 g5 rfl (by decide) _ _ _ rfl (b5.out.alloc _) ⟨w6.heap.size,0,none⟩ 1 1 [pW j] rfl rfl ?c1 ?c2 ?c3 ?c4 ?c5 ?_));(case c1=>exact nD w6 [pW j] 3);(case c2=>intro u hu;rw[List.mem_singleton.1 hu];rfl);(case c3=>unfold maxLen;omega);(case c4=>omega);(case c5=>simp;omega);intro v' w7 bp bo _;(have ge:Hid (w7.ownsRow w0.heap.size 3 1 v' (dI P nm (j+1)).length ((dI P nm (j+1)).map pW)):=aB (by rw[ao.out];simpa using bp));(have c9:Hid (Below w0.heap.size w0 w7):=aB ((c8.out.alloc hk _).grown bo (by simp;omega) (λ j hj=>by have:=(b5.out.lt j hj).1;omega)));clear bp bo;go_wp2;go_roundw;(case rel=>exact ⟨j+1,by omega,by go_num,ge,c9.out⟩);case measure=>simp[intOf];omega
          (have aj:j=N:=by omega);subst aj;go_wp2_with fail;go_meet;case rel=>exact ⟨bf,be.out⟩
        case rest=>
         obtain ⟨b6,dl⟩:=hcut;have eb:=aB (HA.out.below dl);have jq:w0.heap.size<=wc.heap.size:=dl.size;(have gf:Hid (∀i∈dI P nm N,i<N):=aB (λ i hi=>(Dv hi).1));(have gy:(dI P nm N).length<=5000:=by have:=CH P nm N;omega);(have bg:Hid (dI P nm P.length=dI P nm N):=aB (by rw[O]));obtain ⟨ga,gc,rfl⟩:=lm b6.out;have jg:=Af b6.out;generalize dI P nm N=G at *;clear dl;go_wp2_with fail;(go_loopw [13,18] (λ mv kk wx=>∃j:Nat,j<=G.length/\kk=.int .i64 j/\mv=.bool (decide (0<j))/\Hid (jG w la na nm (eS P (G.take j)) wx)/\Hid (wx.ownsRow w0.heap.size 3 1 (.slice ga G.length gc) G.length (G.map pW))) (λ _ kk _=>G.length-(intOf kk).toNat));case atStart=>exact ⟨0,by omega,rfl,by simp,eb,b6⟩
         case round=>
          obtain ⟨j,hj,rfl,rfl,F,dd⟩:=hrel;by_cases Z:j<G.length
          .obtain ⟨gg,h7,hv,jf,jh,_,ex⟩:=rX dd.out (by omega)
           (injection hv with hv1 _ hv3);subst hv1 hv3
           have c0:wr.cell? ⟨gg,j,none⟩=some (.int .i64 (G[j]:Nat)):=by
            (have:=ex j (pW G[j]) (by simp[Z]));rw[sG]at this;exact this
           have ji:=gf.out G[j] (List.getElem_mem Z);(have go:Hid (eS P (G.take (j+1))=gF (eS P (G.take j)) G[j]):=aB (by unfold eS;rw[List.take_add_one,zg Z,List.foldl_append];rfl));(have i6:(eS P (G.take j)).length=N:=by rw[sw,O]);generalize G[j]=gi at *;(have dq:(eS P (G.take j))[gi]?=some ((eS P (G.take j))[gi]'(by omega)):=zg _);(generalize (eS P (G.take j))[gi]'(by omega)=pi at *);obtain ⟨B,rfl,M,A⟩:=F.out.1.1 gi pi dq;obtain ⟨_,_,ez⟩:=F.out.1.2 B rfl;have gw:=(HA.out.1.2 B rfl).2.1;have y9:=A 9 _ rfl;have ft:=aB (F.out.set a3.out rfl dq 4);(have fz:Hid (gF (eS P (G.take j)) gi=(eS P (G.take j)).set gi (pi.1,pi.2.1,4)):=aB (by unfold gF;rw[dq]));have gh:=aB (ownsRow_setCell_below dd.out (a:=⟨B,gi*10+9,none⟩) gw (.int .i64 4));(have az:(j:Int)<G.length:=by omega);(have ig:(gi:Int)<N:=by omega);generalize eS P (G.take j)=PF at *;clear A ex;go_wp2;go_roundw;(case rel=>exact ⟨j+1,by omega,by go_num,by simp,aB (by rw[go.out,fz.out];exact ft.out),gh⟩);case measure=>simp[intOf];omega
          (have aj:j=G.length:=by omega);subst aj;(have cz:Hid (jG w la na nm (eS P G) wr):=aB (by have:=F.out;rw[List.take_length]at this;exact this));(have fy:=aB (H7 cz.out (by rw[sw,O])));(have ed:Hid (G≠[]->Go.c4 (eS P G)<Go.c4 P):=aB (λ h=>by have:=zY (P:=P) (nm:=nm) (by rw[bg.out];exact h);rw[bg.out]at this;exact this));clear F dd b6 eb;go_wp2;go_roundw
          case rel=>
           by_cases hG:G=[]
           .subst hG
            exact ⟨false,P,f,rfl,cz,O,HL,dc,hf,λ _=>bg.out⟩
           have bq:0<G.length:=List.length_pos_iff.2 hG;refine ⟨true,eS P G,f-1,by simp[bq],cz,by rw[sw,O],aB (Dc HL.out G),aB (dc.out.trans ?_),?_,λ h=>by cases h⟩
           .rw[xD (by omega) (by rw[bg.out];exact hG),bg.out]
           have:=ed.out hG;omega
          case measure=>
           rw[fy.out,fx.out];by_cases hG:G=[]
           .subst hG
            show 2*Go.c4 P+0<2*Go.c4 P+1;omega
           have h1:=ed.out hG;have bq:0<G.length:=List.length_pos_iff.2 hG;rw[decide_eq_true bq];show 2*Go.c4 (eS P G)+1<2*Go.c4 P+1;omega
     case rest=>
      obtain ⟨P,HA,HQ⟩:=hcut;obtain ⟨O,cc,dm⟩:=HQ.out;have HL:=aB cc
      have fw:Hid (∀p∈P,p.1.bt.length<=4):=aB (λ p hp=>by
       rw[<-dm]at hp;obtain ⟨q,hq,e⟩:=C8 nm _ hp;rw[<-e];exact fv.out q hq)
      (have HR:Hid (R=if 1024<eF (dM P) P.length then ([],8,0) else kU P nm 0 P []):=aB (by rw[HG.out];unfold rG;rw[dm]));have g8:=oE cc.szs P.length;(have dj:=aB (λ W (hB:Below wc.heap.size wc W)=>DS cc (uI HA.out.1.1 hB) cap P.length zn));obtain ⟨x0,x1,xf⟩:=HA.out.2.2.1;have U:=aB HA.out.2.2.2.1;generalize eF (dM P) P.length=gq at *;rw[O]at dj g8;clear HG HQ cc dm ay ek;go_wp2_with fail;refine (dj.out _ aU).mono ?_;rintro e w2 ⟨rfl,rfl⟩;by_cases eq:1024<gq
      .have HQ:R=([],8,0):=HR.out.trans (zt eq)
       subst HQ;go_wp2;refine zp (v:=.tuple #[.string ⟨#[]⟩,.agg #[.int .i64 8,.int .i64 0]]) (by simp[results,results98,go_sem,x0,x1,xf]) rfl ⟨rfl,b4 _ _ U.out⟩
      replace HR:Hid (R=kU P nm 0 P []):=aB (HR.out.trans (aC eq));clear dj U x0 x1 xf;go_wp2_with fail;(go_loopw [19,20] (λ ov kk wr=>∃(j:Nat) (K:List UInt8),j<=N/\kk=.int .i64 j/\ov=.string ⟨K.toArray⟩/\K.length<=4*j/\Hid (jG w la na nm P wr)/\Hid (R=kU P nm j (P.drop j) K)) (λ _ kk _=>N-(intOf kk).toNat));case atStart=>exact ⟨0,[],by omega,rfl,rfl,by simp,HA,HR⟩
      case round=>
       obtain ⟨j,K,hj,rfl,rfl,ib,F,Y⟩:=hrel;by_cases Z:j<N
       .have E:P[j]?=some (P[j]'(by omega)):=zg _
        (have ef:Hid (P.drop j=P[j]'(by omega)::P.drop (j+1)):=aB (List.drop_eq_getElem_cons _));rw[ef.out]at Y;(have he:=HL.out.sz (P[j]'(by omega)) (List.getElem_mem _));(have jb:=fw.out (P[j]'(by omega)) (List.getElem_mem _));(generalize P[j]'(by omega)=pj at *);obtain ⟨B,rfl,M,A⟩:=F.out.1.1 j pj E;(have a5:=aB (Cr _ na P nm cap a1 j pj wr HL.out F.out.1.1 F.out.2.1 E (by omega)));rw[O]at a5;obtain ⟨⟨I,tg,sh,bt⟩,lj,sj⟩:=pj;simp only[kU]at Y;simp only at *;have y5:=A 5 _ rfl;have y7:=A 7 _ rfl;have y8:=A 8 _ rfl;have y9:=A 9 _ rfl;(have az:(j:Int)<N:=by omega);clear A ef
        cases hbe:bt.isEmpty with
        | false=>
         (have ai:bt≠[]:=by intro h;rw[h]at hbe;cases hbe);rw[zt ai]at Y;clear ai;go_wp2;go_roundw;(case rel=>exact ⟨j+1,K++bt,by omega,by go_num,congrArg Value.string (ByteArray.ext (by simp)),by simp;omega,F,Y⟩);case measure=>simp[intOf];omega
        | true=>
         (have ai:bt=[]:=by simpa using hbe);subst ai;(rw[aC (by simp)]at Y);clear hbe;(have eg:=aB (λ W=>xK (eA P nm ⟨I,tg,sh,[]⟩ j) W));(have a7:=aB (λ W=>qu (eA P nm ⟨I,tg,sh,[]⟩ j) W));have g1:=V9 (eA P nm ⟨I,tg,sh,[]⟩ j);have cj:=ND (eA P nm ⟨I,tg,sh,[]⟩ j);generalize bB (eA P nm ⟨I,tg,sh,[]⟩ j)=EN at *;generalize eM (eA P nm ⟨I,tg,sh,[]⟩ j)=SH at *;generalize eA P nm ⟨I,tg,sh,[]⟩ j=RI at *;obtain ⟨ev,ee⟩:=EN;obtain ⟨sv,se⟩:=SH;obtain ⟨aa,ae,ab,ac,D⟩:=RI;simp only at *;go_wp2_with fail;refine zK a5.out λ T ah=>?_;have ay:=aB (F.out.below ah);clear y5 y7 y8 y9 M ah F a5;obtain ⟨B',e',M,A⟩:=ay.out.1.1 j _ E;(injection e' with e');(injection e' with e');subst e';have y5:=A 5 _ rfl;have y8:=A 8 _ rfl;have y9:=A 9 _ rfl;obtain ⟨x0,x1,xf⟩:=ay.out.2.2.1;clear A;unfold aE.val;go_upto_region 45 with fail;have L:Below T.heap.size T (T.alloc (.cells #[.int .i64 aa,.int .i64 ae,.int .i64 ab,.int .i64 ac,.int .i64 D] 26)):=aJ;have H:=aB (ay.out.below L);(have i0:(T.alloc (.cells #[.int .i64 aa,.int .i64 ae,.int .i64 ab,.int .i64 ac,.int .i64 D] 26)).cell? ⟨T.heap.size,0,none⟩=some (.int .i64 aa):=by go_simp);(have i1:(T.alloc (.cells #[.int .i64 aa,.int .i64 ae,.int .i64 ab,.int .i64 ac,.int .i64 D] 26)).cell? ⟨T.heap.size,1,none⟩=some (.int .i64 ae):=by go_simp);(have i2:(T.alloc (.cells #[.int .i64 aa,.int .i64 ae,.int .i64 ab,.int .i64 ac,.int .i64 D] 26)).cell? ⟨T.heap.size,2,none⟩=some (.int .i64 ab):=by go_simp);(have i3:(T.alloc (.cells #[.int .i64 aa,.int .i64 ae,.int .i64 ab,.int .i64 ac,.int .i64 D] 26)).cell? ⟨T.heap.size,3,none⟩=some (.int .i64 ac):=by go_simp);(have i4:(T.alloc (.cells #[.int .i64 aa,.int .i64 ae,.int .i64 ab,.int .i64 ac,.int .i64 D] 26)).cell? ⟨T.heap.size,4,none⟩=some (.int .i64 D):=by go_simp);(have bm:T.heap.size<(T.alloc (.cells #[.int .i64 aa,.int .i64 ae,.int .i64 ab,.int .i64 ac,.int .i64 D] 26)).heap.size:=by simp);replace y5:=(L.cell (p:=⟨B,j*10+5,none⟩) M).trans y5;replace y8:=(L.cell (p:=⟨B,j*10+8,none⟩) M).trans y8;replace y9:=(L.cell (p:=⟨B,j*10+9,none⟩) M).trans y9;obtain ⟨x0,x1,xf⟩:=H.out.2.2.1;(replace M:B<(T.alloc (.cells #[.int .i64 aa,.int .i64 ae,.int .i64 ab,.int .i64 ac,.int .i64 D] 26)).heap.size:=by have:=L.size;omega);have gj:=aB (And.intro i0 (And.intro i1 (And.intro i2 (And.intro i3 i4))));clear L ay;generalize T.alloc (.cells #[.int .i64 aa,.int .i64 ae,.int .i64 ab,.int .i64 ac,.int .i64 D] 26)=w6 at *;generalize T.heap.size=bI at *;go_cut [217] (λ b wx=>b=.bool (decide (D%2≠0/\tg≠[]))/\w6=wx)
         case first=>
          by_cases a0:D%2=0
          .have t1:D.tmod 2=0:=(uR D).2 a0
           (have t2:decide (D%2≠0/\tg≠[])=false:=by simp[a0]);have bi:=aB t2;clear t2;go_wp2_with fail;go_meet;case rel=>exact ⟨by rw[bi.out],rfl⟩
          have t1:(D.tmod 2 != 0)=true:=by simpa using λ h=>a0 ((uR D).1 h)
          cases hte:tg.isEmpty with
          | true=>
           (have al:tg=[]:=by simpa using hte);(have t2:decide (D%2≠0/\tg≠[])=false:=by simp[al]);have bi:=aB t2;clear t2;go_wp2_with fail;go_meet;case rel=>exact ⟨by rw[bi.out],rfl⟩
          | false=>
           (have al:tg≠[]:=by intro h;rw[h]at hte;cases hte);have t2:decide (D%2≠0/\tg≠[])=true:=decide_eq_true ⟨a0,al⟩;have bi:=aB t2;clear t2;go_wp2_with fail;go_meet;case rel=>exact ⟨by rw[bi.out],rfl⟩
         case rest=>
          obtain ⟨rfl,hw⟩:=hcut;subst hw;by_cases av:D%2≠0/\tg≠[]
          .have HQ:R=([],5,lj):=Y.out.trans (zt av)
           subst HQ;rw[decide_eq_true av];have U:=aB H.out.2.2.2.1;go_wp2_with fail;go_region;go_wp2;refine zp (v:=.tuple #[.string ⟨#[]⟩,.agg #[.int .i64 5,.int .i64 lj]]) (by simp[results,results98,go_sem,x0,x1,xf]) rfl ⟨rfl,below_drewN (b4 _ _ U.out) 1⟩
          rw[aC av]at Y;rw[decide_eq_false av];clear av;go_wp2_with fail;refine zK (eg.out _) λ w7 au=>?_;have ea:=aB (H.out.below au);replace i0:=(au.cell (p:=⟨bI,0,none⟩) bm).trans i0;replace i1:=(au.cell (p:=⟨bI,1,none⟩) bm).trans i1;replace i2:=(au.cell (p:=⟨bI,2,none⟩) bm).trans i2;replace i3:=(au.cell (p:=⟨bI,3,none⟩) bm).trans i3;replace i4:=(au.cell (p:=⟨bI,4,none⟩) bm).trans i4;replace y9:=(au.cell (p:=⟨B,j*10+9,none⟩) M).trans y9;clear y5 y8 x0 x1 xf au H gj;go_upto_if 234 with fail;go_cut [22] (λ wv wx=>wv=.int .i64 (if sj=2 then sv else ev)/\Below w7.heap.size w7 wx)
          case first=>
           by_cases Q:sj=2
           .subst Q
            go_wp2_with fail;refine zK (a7.out _) λ w8 bj=>?_;have c9:=aB bj;clear bj;go_wp2_with fail;go_meet;case rel=>exact ⟨rfl,c9.out⟩
           (have bs:(sj==2)=false:=by simpa using Q);go_wp2_with fail;go_meet;case rel=>exact ⟨by rw[aC Q],aU⟩
          case rest=>
           obtain ⟨rfl,bj⟩:=hcut;have fs:=aB (ea.out.below bj);(have hX:0<=(if sj=2 then sv else ev)/\(if sj=2 then sv else ev)<=4294967296:=by split<;>omega);generalize (if sj=2 then sv else ev)=X at *;obtain ⟨i9,ja⟩:=hX;clear bj ea i0 i1 i2 i3 i4 y9 a7 eg g1 cj;obtain ⟨z,hz⟩:=zi he.1;subst hz;(have jp:z<=4:=by omega);rw[Int.toNat_natCast]at Y;go_wp2_with fail;(go_loopw [19,22,24] (λ ov wv bv wx=>∃q:Nat,q<=z/\bv=.int .i64 q/\wv=.int .i64 (X/256^q)/\ov=.string ⟨(K++bR q X).toArray⟩/\Hid (jG w (some ⟨B,0,none⟩) na nm P wx)) (λ _ _ bv _=>z-(intOf bv).toNat));case atStart=>exact ⟨0,by omega,rfl,by simp,by simp[bR],fs⟩
           case round=>
            obtain ⟨q,hq,rfl,rfl,rfl,c6⟩:=hrel;obtain ⟨B',e',h9,A⟩:=c6.out.1.1 j _ E;(injection e' with e');(injection e' with e');subst e';have y9:=A 9 _ rfl;clear A;by_cases jk:q<z
            .obtain ⟨q0,q1,qs⟩:=C0 X q (by omega) (by omega)
             have gp:=aB qs;have gn:=aB (tZ q X);(have jj:(K++bR q X).length<=20010:=by rw[List.length_append,kw];omega);clear qs;generalize g0:X/256^q=x at *;(have jd:=BC wr (x%256) (by omega) (by omega));(have ec:Hid ((K++bR (q+1) X)=(K++bR q X)++[UInt8.ofNat (x%256).toNat]):=aB (by rw[gn.out,List.append_assoc]));have fu:=aB (c6.out.below (aU.alloc zn (.cells #[.int .u8 (x%256)] 5)));generalize K++bR q X=AC at *;(have ij:(q:Int)<z:=by omega);clear g0;go_wp2;go_roundw;(case rel=>exact ⟨q+1,by omega,by go_num,by rw[gp.out],by rw[ec.out];exact congrArg Value.string (ByteArray.ext (by simp)),fu⟩);case measure=>simp[intOf];omega
            (have g9:q=z:=by omega);subst g9;go_wp2;go_roundw;(case rel=>exact ⟨j+1,K++bR q X,by omega,by go_num,rfl,by rw[List.length_append,kw];omega,c6,Y⟩);case measure=>simp[intOf];omega
       (have aj:j=N:=by omega);subst aj;(have HQ:R=(K,0,0):=Y.out.trans (by rw[<-O,List.drop_length];rfl));subst HQ;obtain ⟨x0,x1,xf⟩:=F.out.2.2.1;have U:=aB F.out.2.2.2.1;go_wp2;refine zp (v:=.tuple #[.string ⟨K.toArray⟩,.agg #[.int .i64 0,.int .i64 0]]) (by simp[results,results98,go_sem,x0,x1,xf]) rfl ⟨rfl,b4 _ _ U.out⟩
  have HQ:R=([],c,ln):=HV.out.trans (aC hc);subst HQ;have jc:(c != 0)=true:=by simpa using hc
  clear HV hc;go_wp2_with fail;go_region;go_wp2_with fail;have e0:(((w1.setCell ⟨w.heap.size,0,none⟩ (.int .i64 c)).setCell ⟨w.heap.size,1,none⟩ (.int .i64 ln)).alloc (.cells #[.int .i64 c,.int .i64 ln] 39)).cell? ⟨w.heap.size,0,none⟩=some (.int .i64 c):=by go_simp
  have e1:(((w1.setCell ⟨w.heap.size,0,none⟩ (.int .i64 c)).setCell ⟨w.heap.size,1,none⟩ (.int .i64 ln)).alloc (.cells #[.int .i64 c,.int .i64 ln] 39)).cell? ⟨w.heap.size,1,none⟩=some (.int .i64 ln):=by go_simp
  refine zp (v:=.tuple #[.string ⟨#[]⟩,.agg #[.int .i64 c,.int .i64 ln]]) (by simp[results,results98,go_sem,e0,e1]) rfl ⟨rfl,below_drewN (((U.out.setCell (p:=⟨w.heap.size,0,none⟩) zn _).setCell (p:=⟨w.heap.size,1,none⟩) zn _).alloc (by simp[World.setCell];omega) _) 1⟩
 have HQ:Hid (lG short s.data.toList=([],3,0)):=aB (by unfold lG;rw[zt (by omega)])
 generalize lG short s.data.toList=R at *;have gm:=HQ.out;subst gm;have ha:(2000:Int)<s.size:=by omega
 have cf:2000<s.size:=by omega
 clear e7 hs HQ;go_in;go_wp2;refine zp (v:=.tuple #[.string ⟨#[]⟩,.agg #[.int .i64 3,.int .i64 0]]) (by simp[results,results98,go_sem]) rfl ⟨rfl,aJ⟩
