import Derived.Test.YtbmcofdodfcnnaaGreatDoorGRA
import Derived.Test.YtbmcofdodfcnnaaGreatDoorGXF
import Derived.Test.YtbmcofdodfcnnaaGreatDoorGW41
set_option linter.all false
set_option maxHeartbeats 0
set_option maxRecDepth 100000
namespace Go
variable {k j v : Nat} {n w : Int} {T F d t l : List UInt8}
def GH:∀(l j:List UInt8),(10:UInt8)∉l->eE j l=[j++l]
 | [],j,_=>by simp[eE]
 | c::l,j,h=>by
  have q:c≠10:=λ e=>h (by simp[e])
  rw[eE,aC q,GH l _ (λ e=>h (by simp[e]))]
  simp
def Hg:∀(T r j:List UInt8),(10:UInt8)∉T->eE j (T++10::r)=(j++T)::eE [] r
 | [],r,j,_=>by simp[eE]
 | c::T,r,j,h=>by
  have q:c≠10:=λ e=>h (by simp[e])
  rw[List.cons_append,eE,aC q,Hg T r _ (λ e=>h (by simp[e]))]
  simp
def E1:∀(l:List UInt8),(10:UInt8)∈l->∃T r,l=T++10::r/\(10:UInt8)∉T
 | [],h=>by cases h
 | c::l,h=>by
  by_cases j:c=10
  .exact ⟨[],l,by rw[j];rfl,by simp⟩
  have q:(10:UInt8)∈l:=by
   rcases List.mem_cons.1 h with e|e
   .exact absurd e.symm j
   exact e
  obtain ⟨T,r,e,u⟩:=E1 l q;refine ⟨c::T,r,by rw[e];rfl,λ v=>?_⟩
  rcases List.mem_cons.1 v with e|e
  .exact j e.symm
  exact u e
def Df:∀(n:Nat) (l:List UInt8),l.length<=n->Lib.splitK [10] 0 (Lib.count l [10]) l=eE [] l
 | 0,l,h=>by
  have:l=[]:=List.eq_nil_of_length_eq_zero (by omega)
  subst this;rw[Lib.count_one];rfl
 | n+1,l,h=>by
  by_cases j:(10:UInt8)∈l
  .obtain ⟨T,r,rfl,q⟩:=E1 l j
   (have u:∀c∈T,c≠10:=λ c v e=>q (by rw[<-e];exact v));have ih:=Df n r (by simp at h;omega)
   have v:Lib.count (T++10::r) [10]=Lib.count r [10]+1:=by
    rw[Lib.count_one,Lib.count_one,List.count_append,List.count_cons_self,List.count_eq_zero.2 q];omega
   (rw[v,Lib.splitK,GU T r 10 u,aC (by simp)]);(have w:(T++10::r).drop ((T.length:Int).toNat+([10]:List UInt8).length)=r:=by simp);rw[w,ih,Hg T r [] q];simp
  rw[Lib.count_one,List.count_eq_zero.2 j,GH l [] j];rfl
structure jX (p:Rp):Prop where
 bt:p.bt.length<=4
 sh:p.sh=true->p.tg=[]/\p.bt=[]/\(bQ p.ins).2=0
 da:p.bt≠[]->p.tg=[]
 tg:p.tg≠[]->∃k:Nat,k<64/\p.ins.op=(k:Int)+1/\((row k).kind=66\/(row k).kind=74)/\p.ins.imm=0/\right p.ins=true
 ri:p.bt=[]->right p.ins=true
def Uy (j:k<64) (h:(116:UInt8)∈fP (row k).kind):((row k).kind=66\/(row k).kind=74)/\∃G,fP (row k).kind=G++[116]/\∀f∈G,f≠105/\f≠116:=by
 rcases kinds k j with e|e|e|e|e|e|e|e|e|e
 all_goals rw[e]at h ⊢
 all_goals first
  | exact absurd h (by decide)
  | exact ⟨by decide,[114,44,114,44],rfl,by decide⟩
  | exact ⟨by decide,[114,44],rfl,by decide⟩
def DF {j:List Int} (h:(row k).kind=66\/(row k).kind=74):(fR k j 0).imm=0/\(fR k j 0).op=(k:Int)+1:=by
 unfold fR;rcases h with h|h<;>rw[h]<;>exact ⟨rfl,rfl⟩
def DJ {t:aI} {l:List aI} {tg:Bool} (h:(plain t l tg).2.2=0):jX ⟨(plain t l tg).1,(plain t l tg).2.1.data.toList,false,[]⟩/\right (plain t l tg).1=true:=by
 cases hf:(List.range 64).find? (named t) with
 | none=>rw[nz hf]at h;exact absurd h (show ¬((4:Int)=0) by decide)
 | some k=>
  have q:k<64:=by have:=List.mem_of_find?_eq_some hf;simpa using this
  cases hop:aL l (fP (row k).kind) [] 0 ⟨#[]⟩ with
  | none=>rw[qo hf hop]at h;exact absurd h (show ¬((4:Int)=0) by decide)
  | some x=>
   obtain ⟨A,n,nm⟩:=x
   have j:plain t l tg=(fR k A n,nm,0)/\right (fR k A n)=true:=by
    unfold plain at h ⊢;rw[hf]at h ⊢;simp only[hop]at h ⊢
    split at h
    .exact absurd h (show ¬((4:Int)=0) by decide)
    split at h
    .rename_i h1 h2
     rw[aC h1,zt h2];exact ⟨rfl,h2⟩
    exact absurd h (show ¬((5:Int)=0) by decide)
   rw[j.1];refine ⟨⟨by simp,λ h=>(by cases h),λ h=>absurd rfl h,λ y=>?_,λ _=>j.2⟩,j.2⟩
   have v:(116:UInt8)∈fP (row k).kind:=Classical.byContradiction (λ E=>y (by
    show nm.data.toList=[];rw[qQ _ _ _ _ _ _ _ _ hop E]))
   obtain ⟨u,G,D,w⟩:=Uy q v
   have C:n=0:=by
    rw[D]at hop;rcases qi _ G _ _ _ _ _ _ hop w with e|e
    .exact e
    exact absurd (by show nm.data.toList=[];rw[e]) y
   subst C;exact ⟨k,q,(DF u).2,u,(DF u).1,j.2⟩
def Cp {t:aI} {l:List aI} (h:(plain t l false).2.2=0):(plain t l false).2.1.data.toList=[]:=by
 unfold plain at h ⊢
 split at h
 .exact absurd h (show ¬((4:Int)=0) by decide)
 rename_i k hf
 split at h
 .exact absurd h (show ¬((4:Int)=0) by decide)
 rename_i rs n nm hop
 split at h
 .exact absurd h (show ¬((4:Int)=0) by decide)
 rename_i h1;have j:nm.data.toList=[]:=Classical.byContradiction (λ q=>h1 ⟨q,rfl⟩)
 simp only[j,ne_eq,not_true_eq_false,false_and,if_false]
 split<;>exact j
def Kf {r:Int} (C:0<=r/\r<=31) (A:¬(n < -2147483648\/2147483647<n)):∀p∈j7 r n,right p.ins=true/\p.tg=[]/\p.data=[]:=by
 have u:∀m:Int,-2048<=m/\m<=2047->right ⟨29,r,0,0,m⟩=true:=λ m y=>by
  show right ⟨(28:Nat)+1,r,0,0,m⟩=true;rw[dJ _ _ _ _ _ (by decide)]
  have j:(row 28).kind=73:=rfl;rw[j];simp[has,cK,cW,bU];omega
 have v:∀m:Int,-2048<=m/\m<=2047->right ⟨38,r,r,0,m⟩=true:=λ m y=>by
  show right ⟨(37:Nat)+1,r,r,0,m⟩=true;rw[dJ _ _ _ _ _ (by decide)]
  have j:(row 37).kind=73:=rfl;rw[j];simp[has,cK,cW,bU];omega
 have w:∀m:Int,-524288<=m/\m<=524287->right ⟨60,r,0,0,m⟩=true:=λ m y=>by
  show right ⟨(59:Nat)+1,r,0,0,m⟩=true;rw[dJ _ _ _ _ _ (by decide)]
  have j:(row 59).kind=85:=rfl;rw[j];simp[has,cK,cW,bU];omega
 intro p h;unfold j7 at h;have q:-2048<=fS n/\fS n<=2047:=by unfold fS;omega
 split at h
 .rename_i he
  rw[List.mem_singleton.1 h];exact ⟨u n (by omega),rfl,rfl⟩
 rcases List.mem_cons.1 h with rfl|h
 .refine ⟨w _ ?_,rfl,rfl⟩
  unfold wB;unfold fS at *
  split<;>omega
 split at h
 .cases h
 rw[List.mem_singleton.1 h];exact ⟨v _ q,rfl,rfl⟩
def Uq (h:lN T=some F) (j:(116:UInt8)∈F):(T=[98,101,113,122]\/T=[98,110,101,122]\/T=[106])/\∃G,F=G++[116]/\∀f∈G,f≠105/\f≠116:=by
 unfold lN at h
 repeat' split at h
 all_goals first
  | (injection h with h;subst h;first
      | exact absurd j (by decide)
      | exact ⟨Or.inl (by assumption),[114,44],rfl,by decide⟩
      | exact ⟨Or.inr (Or.inl (by assumption)),[114,44],rfl,by decide⟩
      | exact ⟨Or.inr (Or.inr (by assumption)),[],rfl,by decide⟩)
  | cases h
def UE (t:aI) (l:List aI):∀p∈(cU t l).1,jX p:=by
 intro p j;unfold cU at j
 split at j
 .cases j
 rename_i F hF
 cases hop:aL l F [] 0 ⟨#[]⟩ with
 | none=>rw[hop]at j;cases j
 | some x=>
  obtain ⟨N,n,nm⟩:=x;rw[hop]at j;by_cases C:t.kind=119
  .rw[kv C]at j
   split at j
   .unfold kN at j
    split at j
    .cases j
    rename_i u;obtain ⟨y,hy,rfl⟩:=List.mem_map.1 j;(have K:=uO _ _ _ _ _ _ _ _ hop (λ v M=>by cases M));obtain ⟨E,H,A⟩:=Kf (zQ K 0) u y hy;exact ⟨by show y.data.length<=4;rw[A];simp,λ h=>(by cases h),λ h=>absurd A h,λ h=>absurd H h,λ _=>E⟩
   split at j
   .rename_i hli hr
    rw[List.mem_singleton.1 j];refine ⟨by simp,λ h=>(by cases h),λ h=>absurd rfl h,λ u=>?_,λ _=>hr⟩
    have q:(116:UInt8)∈F:=Classical.byContradiction (λ L=>u (by
     show nm.data.toList=[];rw[qQ _ _ _ _ _ _ _ _ hop L]))
    obtain ⟨J,G,I,w⟩:=Uq hF q
    have D:n=0:=by
     rw[I]at hop;rcases qi _ G _ _ _ _ _ _ hop w with e|e
     .exact e
     exact absurd (by show nm.data.toList=[];rw[e]) u
    subst D;rcases J with e|e|e
    .refine ⟨53,by decide,?_,Or.inl rfl,?_,hr⟩<;>rw[e]<;>rfl
    .refine ⟨54,by decide,?_,Or.inl rfl,?_,hr⟩<;>rw[e]<;>rfl
    refine ⟨61,by decide,?_,Or.inr rfl,?_,hr⟩<;>rw[e]<;>rfl
   cases j
  rw[qT C]at j;cases j
def Hp (T:List aI):∀p∈(cZ T).1,jX p:=by
 match T with
 | []=>intro p j;cases j
 | t::l=>
  intro p j;have w:=Au (t::l) p j;simp only[cZ]at j;unfold fO at j
  split at j
  .split at j
   .rename_i u r
    unfold cR at j
    split at j
    .rename_i h0
     split at j
     .rename_i hs
      rw[List.mem_singleton.1 j];rw[li]at hs;obtain ⟨y,v⟩:=DJ h0;exact ⟨by simp,λ _=>⟨Cp h0,rfl,hs⟩,λ h=>absurd rfl h,λ h=>absurd (Cp h0) h,λ _=>v⟩
     cases j
    cases j
   cases j
  unfold kb at j
  split at j
  .rename_i h0
   rw[List.mem_singleton.1 j];exact (DJ h0).1
  split at j
  .cases j
  unfold hU at j
  split at j
  .unfold jI at j
   split at j
   .cases j
   split at j
   .cases j
   unfold iA at j
   split at j
   .cases j
   split at j
   .cases j
   split at j
   .cases j
   rename_i hz _;have q:=List.mem_singleton.1 j;subst q;(refine ⟨w,λ h=>(by cases h),λ _=>rfl,λ h=>absurd rfl h,λ h=>?_⟩);have h:=congrArg List.length h;simp only[kw,List.length_nil]at h;exact absurd h hz
  exact UE t l p j
def A8:∀(n:Nat) (L:List UInt8) (b:Bool) (T:List aI),j5 n L b=some T->∀t∈T,t.text≠[]
 | 0,l,b,T,h=>by
  injection h with h;subst h;intro t j;cases j
 | n+1,[],b,T,h=>by
  injection h with h;subst h;intro t j;cases j
 | n+1,c::r,b,T,h=>by
  simp only[j5]at h
  split at h
  .injection h with h;subst h;intro t j;cases j
  split at h
  .exact A8 n r true T h
  split at h
  .cases h
  rename_i k v m hk
  cases hT:j5 n (r.drop m) false with
  | none=>rw[hT]at h;cases h
  | some T'=>
   rw[hT]at h;(injection h with h);subst h;intro t j;rcases List.mem_cons.1 j with rfl|j
   .simp
   exact A8 n _ false T' hT t j
def Pq (L) (n) (h:List (ByteArray×Nat)):dY L n h =
    if (kV L).2.2=0 then (if (kV L).1=[] then (((kV L).2.1,h),0) else if h.any (λ x=>x.1.toList==(kV L).1) then (([],h),6) else (((kV L).2.1,h++[(⟨(kV L).1.toArray⟩,n)]),0)) else (([],h),(kV L).2.2):=by
 unfold dY kV
 cases hT:aW L false with
 | none=>rfl
 | some T=>
  simp only;unfold rO
  cases hl:n7 T with
  | mk o l=>
   cases o with
   | none=>simp only[if_true]
   | some t=>
    have j:t.text≠[]:=by
     refine A8 _ L false T hT t ?_
     match T,hl with
     | [],hl=>cases hl
     | [_],hl=>cases hl
     | a::c::l',hl=>
      simp only[n7]at hl
      split at hl
      .injection hl with hl _
       (injection hl with hl);rw[<-hl];simp
      (injection hl with hl _);cases hl
    simp only;by_cases h8:8<t.text.length
    .rw[zt h8,zt h8]
     rfl
    rw[aC h8,aC h8];by_cases q:(cZ l).2=0
    .simp only[zt q,if_true]
     rw[aC j];(have u:t.S.toList=t.text:=by rw[ByteArray.toList_eq];simp[aI.S]);rw[u];rfl
    simp only[aC q]
def eG (ps:List (Rp×Int)):List Qt:=ps.map λ p=>⟨dG p.1,p.2,0⟩
def dA (nms:List (ByteArray×Nat)):List (List UInt8×Nat):=nms.map λ x=>(x.1.data.toList,x.2)
def E7 (nm:List UInt8):∀h:List (ByteArray×Nat),((dA h).lookup nm).isSome=h.any λ x=>x.1.toList==nm
 | []=>rfl
 | x::h=>by
  have ih:=E7 nm h;unfold dA at ih ⊢;rw[List.map_cons,List.lookup_cons,List.any_cons]
  have e:(nm==x.1.data.toList)=(x.1.toList==nm):=by
   rw[ByteArray.toList_eq,Bool.eq_iff_iff];simp only[beq_iff_eq];exact eq_comm
  rw[e]
  cases x.1.toList==nm with
  | true=>rfl
  | false=>simpa using ih
def A1 (L:List UInt8) (n:Nat) (j:List (Rp×Int)) (h:List (ByteArray×Nat)):ip L ((n:Int)+1) (eG j) (dA h) =
    if (dY L j.length h).2=0 then (0,eG (j++(dY L j.length h).1.1.map λ p=>(p,(n:Int)+1)),dA (dY L j.length h).1.2) else ((dY L j.length h).2,eG j,dA h):=by
 rw[Pq];unfold ip;rw[OX];unfold pV;simp only;have v:(eG j).length=j.length:=by simp[eG]
 have A:∀q:List Rp,eG j++(q.map dG).map (λ p=>(⟨p,(n:Int)+1,0⟩:Qt))=eG (j++q.map λ p=>(p,(n:Int)+1)):=λ q=>by
  unfold eG;rw[List.map_append,List.map_map,List.map_map];rfl
 by_cases u:(kV L).2.2=0
 .rw[zt u,zt u]
  by_cases w:(kV L).1=[]
  .rw[zt w,zt w]
   simp only[if_true,A]
  rw[aC w,aC w,E7];by_cases y:(h.any λ x=>x.1.toList==(kV L).1)=true
  .rw[zt y,zt y]
   rfl
  rw[aC y,aC y];simp only[if_true,A,v];unfold dA;rw[List.map_append];simp
 rw[aC u,aC u];simp only[aC u]
def yA (A:List (List UInt8)):∀k,k<=A.length->(∀j,j<k->iq A j=0)->∃u q,eJ A k=(eG u,dA q)/\fD A 0 [] []=fD (A.drop k) k u q
 | 0,_,_=>⟨[],[],rfl,rfl⟩
 | k+1,hk,h=>by
  obtain ⟨u,q,y,D⟩:=yA A k (by omega) (λ j E=>h j (by omega))
  have w:=h k (by omega)
  unfold iq at w;have C:A.getD k []=A[k]'(by omega):=by rw[zG,zg (show k<A.length by omega)];rfl
  rw[y,C,A1]at w
  have v:(dY (A[k]'(by omega)) u.length q).2=0:=by
   by_cases v:(dY (A[k]'(by omega)) u.length q).2=0
   .exact v
   rw[aC v]at w;exact w
  refine ⟨u++(dY (A[k]'(by omega)) u.length q).1.1.map λ p=>(p,(k:Int)+1),(dY (A[k]'(by omega)) u.length q).1.2,?_,?_⟩
  .rw[eJ,y,C,A1,zt v]
  rw[D,List.drop_eq_getElem_cons (show k<A.length by omega),fD,zt v]
def Tk (A:List (List UInt8)) (u:j<A.length) (h:∀i,i<j->iq A i=0) (q:iq A j≠0):fD A 0 [] []=(([],[]),iq A j,(j:Int)+1):=by
 obtain ⟨C,v,D,E⟩:=yA A j (by omega) h
 have F:A.getD j []=A[j]'u:=by rw[zG,zg u];rfl
 have w:iq A j=(dY (A[j]'u) C.length v).2:=by
  unfold iq at q ⊢;rw[D,F,A1]at q ⊢;by_cases y:(dY (A[j]'u) C.length v).2=0
  .rw[zt y]at q
   exact absurd rfl q
  rw[aC y]
 rw[E,List.drop_eq_getElem_cons u,fD,aC (by rw[<-w];exact q),w]
def QG (A:List (List UInt8)) (h:∀i,i<A.length->iq A i=0):∃q j,eJ A A.length=(eG q,dA j)/\fD A 0 [] []=((q,j),0,0):=by
 obtain ⟨q,j,u,v⟩:=yA A A.length zn h;exact ⟨q,j,u,by rw[v,List.drop_length];rfl⟩
def Q8 (L) (n) (j:List (ByteArray×Nat)):∀p∈(dY L n j).1.1,jX p:=by
 unfold dY
 split
 .intro p h;cases h
 split
 .split
  .exact Hp _
  intro p h;cases h
 split
 .intro p h;cases h
 split
 .split
  .intro p h;cases h
  exact Hp _
 intro p h;cases h
def EF:∀(A:List (List UInt8)) (n:Nat) (u:List (Rp×Int)) (q:List (ByteArray×Nat)),(∀p∈u,jX p.1)->∀p∈(fD A n u q).1.1,jX p.1
 | [],n,u,q,h=>h
 | L::A,n,u,q,h=>by
  rw[fD]
  split
  .refine EF A (n+1) _ _ (λ p j=>?_)
   rcases List.mem_append.1 j with j|j
   .exact h p j
   obtain ⟨x,hx,rfl⟩:=List.mem_map.1 j;exact Q8 L _ _ x hx
  intro p j;cases j
def cC (P:List Pz):List Qt:=P.map λ p=>⟨dG p.1,p.2.1,p.2.2⟩
def nF (P:List Pz):(cC P).length=P.length:=by simp[cC]
def me (P:List Pz) (k:Nat):(cC P)[k]?=P[k]?.map λ p=>⟨dG p.1,p.2.1,p.2.2⟩:=by simp[cC]
def vT (P:List Pz):∀k,eZ (cC P) k=eF (dM P) k
 | 0=>rfl
 | k+1=>by
  rw[eZ,eF,vT P k,me];congr 1;rw[zG];unfold dM;rw[List.getElem?_map];cases P[k]?<;>rfl
def Db (t:List UInt8):∀nm:List (ByteArray×Nat),(dA nm).lookup t=(nm.find? λ x=>x.1.toList==t).map (·.2)
 | []=>rfl
 | x::nm=>by
  have ih:=Db t nm;unfold dA at ih ⊢;rw[List.map_cons,List.lookup_cons,List.find?_cons]
  have e:(t==x.1.data.toList)=(x.1.toList==t):=by
   rw[ByteArray.toList_eq,Bool.eq_iff_iff];simp only[beq_iff_eq];exact eq_comm
  rw[e]
  cases x.1.toList==t with
  | true=>rfl
  | false=>simpa using ih
def yF (sz) (nm:List (ByteArray×Nat)) (t):jK sz nm ⟨t.toArray⟩=match (dA nm).lookup t with|some v=>eF sz v|none=>-1:=by
 rw[Db];unfold jK;rw[pz];cases nm.find? λ x=>x.1.toList==t<;>rfl
structure jW (P:List Pz) (nm:List (ByteArray×Nat)):Prop where
 ok:∀p∈P,jX p.1
 sz:∀p∈P,p.1.tg≠[]->p.2.2=2\/p.2.2=4
 lab:∀p∈P,p.1.tg≠[]->∃v,(dA nm).lookup p.1.tg=some v/\v<=P.length
def zU {p:Rp} (h:jX p):(dG p).tg=p.tg:=by
 unfold dG
 split
 .rename_i hs
  exact (h.sh hs).1.symm
 rfl
def Gb {p:Rp} (h:jX p) (u:p.tg≠[]):dG p=⟨[],p.ins,p.tg⟩:=by
 have q:p.sh=false:=by
  cases q:p.sh with
  | false=>rfl
  | true=>exact absurd (h.sh q).1 u
 have j:p.bt=[]:=Classical.byContradiction (λ j=>u (h.da j))
 unfold dG;rw[q,j];rfl
def FL {P:List Pz} {nm:List (ByteArray×Nat)} (h:jW P nm) {p:Pz} (u:P[k]?=some p) (j:p.1.tg≠[]):gD (cX (cC P) (cC P).length) (dA nm) k (dG p.1)=eA P nm p.1 k:=by
 have w:=List.mem_of_getElem? u;have A:k<P.length:=(List.getElem?_eq_some_iff.1 u).1;obtain ⟨v,y,q⟩:=h.lab p w j;unfold gD eA;rw[Gb (h.ok p w) j];simp only;rw[aC j,aC j,yF,y];unfold Bp;rw[y];simp only[Option.getD_some];rw[oC _ _ _ (by rw[nF];exact q),oC _ _ _ (by rw[nF];omega),vT,vT]
def Cd {P:List Pz} {nm:List (ByteArray×Nat)} (h:jW P nm) {p:Pz} (q:P[k]?=some p):j6 (cX (cC P) (cC P).length) (dA nm) k ⟨dG p.1,p.2.1,p.2.2⟩=kh P nm k p:=by
 have u:=List.mem_of_getElem? q;unfold j6 kh;simp only;rw[zU (h.ok p u)];by_cases j:p.1.tg=[]
 .rw[j];rfl
 rw[FL h q j,li]
 have e:(p.2.2==2)=(p.2.2 != 4):=by
  rcases h.sz p u j with e|e<;>rw[e]<;>rfl
 rw[e,Bool.and_assoc];rfl
def G7 (P:List Pz) (g k):(gF P g)[k]?=P[k]?.map λ p=>if k=g then (p.1,p.2.1,4) else p:=by
 unfold gF;by_cases j:g<P.length
 .rw[zg j]
  simp only;by_cases e:k=g
  .subst e
   rw[List.getElem?_set_self j,zg j];simp
  rw[List.getElem?_set_ne (λ h=>e h.symm)]
  simp[e]
 have q:P[g]?=none:=List.getElem?_eq_none (by omega)
 rw[q];simp only;by_cases e:k=g
 .subst e
  rw[q];rfl
 simp[e]
def yI:∀(G:List Nat) (P:List Pz) (k:Nat),(eS P G)[k]?=P[k]?.map λ p=>if k∈G then (p.1,p.2.1,4) else p
 | [],P,k=>by simp[eS]
 | g::G,P,k=>by
  show (eS (gF P g) G)[k]?=_;rw[yI G (gF P g) k,G7,Option.map_map];congr 1;funext p;by_cases e:k=g<;>by_cases h:k∈G<;>simp[e,h]
  all_goals (subst e;simp[h])
def sk {P:List Pz} {nm:List (ByteArray×Nat)} {p:Pz} (j:P[k]?=some p):k∈dI P nm P.length↔kh P nm k p=true:=by
 have h:k<P.length:=(List.getElem?_eq_some_iff.1 j).1;unfold dI;rw[List.mem_filter,j];simp[h]
def GX {P:List Pz} {nm:List (ByteArray×Nat)} (h:jW P nm):cC (eS P (dI P nm P.length))=kX (dA nm) (cC P):=by
 apply List.ext_getElem?;intro k;rw[me,yI,Option.map_map]
 cases hk:P[k]? with
 | none=>
  have:(cC P)[k]?=none:=by rw[me,hk];rfl
  unfold kX grw;simp[this]
 | some p=>
  have u:(cC P)[k]?=some ⟨dG p.1,p.2.1,p.2.2⟩:=by rw[me,hk];rfl
  have q:k<P.length:=(List.getElem?_eq_some_iff.1 hk).1;unfold kX;rw[kB u,Cd h hk];simp only[zm,Function.comp];by_cases j:kh P nm k p=true
  .rw[zt ((sk hk).2 j),zt ⟨by rw[nF];exact q,j⟩]
  rw[aC (λ x=>j ((sk hk).1 x)),aC (λ x=>j x.2)]
def PP {P:List Pz} {nm:List (ByteArray×Nat)} (h:jW P nm) (v:dI P nm P.length=[]):done (dA nm) (cC P):=by
 unfold done kD;rw[List.any_eq_false];intro k u;rw[me];have q:k<P.length:=by rw[nF]at u;simpa using u
 have j:P[k]?=some P[k]:=zg q;rw[j];simp only[zm];rw[Cd h j];intro hx;have:=(sk (nm:=nm) j).2 hx;rw[v]at this;cases this
def S2 {P:List Pz} {nm:List (ByteArray×Nat)} (h:jW P nm) (g):jW (gF P g) nm:=by
 have y:∀p∈gF P g,∃q∈P,q.1=p.1/\(p.2.2=q.2.2\/p.2.2=4):=λ p w=>by
  obtain ⟨k,u⟩:=List.getElem?_of_mem w;rw[G7]at u
  cases j:P[k]? with
  | none=>rw[j]at u;cases u
  | some q=>
   rw[j]at u;(injection u with u);refine ⟨q,List.mem_of_getElem? j,?_⟩;subst u
   split
   .exact ⟨rfl,Or.inr rfl⟩
   exact ⟨rfl,Or.inl rfl⟩
 refine ⟨λ p w=>?_,λ p w C=>?_,λ p w C=>?_⟩
 .obtain ⟨q,j,e,_⟩:=y p w
  rw[<-e];exact h.ok q j
 .obtain ⟨q,j,e,A⟩:=y p w
  rcases A with A|A
  .rw[A];exact h.sz q j (by rw[e];exact C)
  exact Or.inr A
 obtain ⟨q,j,e,_⟩:=y p w;obtain ⟨v,E,D⟩:=h.lab q j (by rw[e];exact C)
 exact ⟨v,by rw[<-e];exact E,by rw[sB];exact D⟩
def DV {nm:List (ByteArray×Nat)}:∀(G:List Nat) {P:List Pz},jW P nm->jW (eS P G) nm
 | [],_,h=>h
 | g::G,_,h=>DV G (S2 h g)
def Ed {nm:List (ByteArray×Nat)}:∀(f:Nat) (P:List Pz),jW P nm->c4 P<f->(∃m,cC (fG nm f P)=rnds (dA nm) m (cC P)/\done (dA nm) (rnds (dA nm) m (cC P)))/\jW (fG nm f P) nm
 | 0,P,_,hf=>by omega
 | f+1,P,h,hf=>by
  by_cases j:dI P nm P.length=[]
  .rw[yg (by omega) j]
   exact ⟨⟨0,rfl,PP h j⟩,h⟩
  rw[xD (by omega) j]
  have w:=zY j;obtain ⟨⟨m,q,u⟩,v⟩:=Ed f (eS P (dI P nm P.length)) (DV _ h) (by omega)
  refine ⟨⟨m+1,?_,?_⟩,v⟩
  .show cC (fG nm f _)=rnds (dA nm) m (kX (dA nm) (cC P))
   rw[<-GX h];exact q
  show done (dA nm) (rnds (dA nm) m (kX (dA nm) (cC P)));rw[<-GX h];exact u
def EE {P:List Pz} (h:∀p∈P,0<=p.2.2/\p.2.2<=4):k9 (cC P):=λ x hx=>by
 obtain ⟨p,j,rfl⟩:=List.mem_map.1 hx;exact h p j
def OV {nm:List (ByteArray×Nat)} {P:List Pz} (h:jW P nm) (v:∀p∈P,0<=p.2.2/\p.2.2<=4):cC (fG nm (P.length+1) P)=kF (dA nm) (cC P)/\jW (fG nm (P.length+1) P) nm:=by
 obtain ⟨⟨m,j,q⟩,u⟩:=Ed (P.length+1) P h (by have:=AY P;omega)
 exact ⟨by rw[j];exact Hd (EE v) q,u⟩
def Uf (short) {p:Rp} (h:jX p):iS short (dG p)=iu short p:=by
 unfold iS iu
 cases hs:p.sh with
 | true=>
  obtain ⟨v,u,w⟩:=h.sh hs;have e:dG p=⟨bR 2 (bQ p.ins).1,cI,[]⟩:=by unfold dG;rw[hs];rfl
  rw[e,u];simp[bR]
 | false=>
  have e:dG p=⟨p.bt,p.ins,p.tg⟩:=by unfold dG;rw[hs];rfl
  rw[e];simp only;by_cases j:p.bt=[]
  .rw[zt j,aC (show ¬p.bt≠[] from λ x=>x j),li]
   have q:(short=true/\(p.tg≠[]\/(bQ p.ins).2=0))↔(false||(short&&(!p.tg.isEmpty||(bQ p.ins).2==0)))=true:=by
    cases short<;>simp
   by_cases hx:short=true/\(p.tg≠[]\/(bQ p.ins).2=0)
   .rw[zt hx,zt (q.1 hx)]
   rw[aC hx,aC (λ y=>hx (q.2 y))]
  rw[aC j,zt j]
def Ro (short) {P:List Pz} (h:∀p∈P,jX p.1):fszs short (cC P) (cC P).length=cC (gI short P):=by
 apply List.ext_getElem?;intro k
 have q:(cC (gI short P))[k]?=P[k]?.map λ p=>⟨dG p.1,p.2.1,iu short p.1⟩:=by
  rw[me];unfold gI;rw[List.getElem?_map,Option.map_map];rfl
 rw[q]
 cases hk:P[k]? with
 | none=>
  have:(cC P)[k]?=none:=by rw[me,hk];rfl
  unfold fszs;simp[this]
 | some p=>
  have u:(cC P)[k]?=some ⟨dG p.1,p.2.1,p.2.2⟩:=by rw[me,hk];rfl
  have j:k<P.length:=(List.getElem?_eq_some_iff.1 hk).1;rw[nI u,zt (by rw[nF];exact j)]
  simp only[zm];rw[Uf short (h p (List.mem_of_getElem? hk))]
def Lw (w:k<64) (u:(row k).kind=66\/(row k).kind=74) {i:aE} (y:i.op=(k:Int)+1) (v:i.imm=0) (j:right i=true) {d:Int} (d0:-1024<=d) (d1:d<=1024):
    right { i with imm:=d }=decide (d%2=0):=by
 obtain ⟨op,rd,rs1,rs2,imm⟩:=i;simp only at y v;subst y v;rw[dJ _ _ _ _ _ w]at j;show right ⟨(k:Int)+1,rd,rs1,rs2,d⟩=_;rw[dJ _ _ _ _ _ w];simp only[Bool.and_eq_true]at j;rw[j.1.1.1,j.1.1.2,j.1.2];simp only[Bool.true_and]
 have e:(d.tmod 2==0)=decide (d%2=0):=by
  by_cases h:d%2=0
  .rw[decide_eq_true h,beq_iff_eq];exact (uR d).2 h
  rw[decide_eq_false h,beq_eq_false_iff_ne];exact λ x=>h ((uR d).1 x)
 rcases u with q|q
 .rw[q]
  unfold cW;rw[aC (by decide),aC (by decide),aC (by decide),zt rfl,e]
  have:bU d (-4096) 4094=true:=by unfold bU;simp;omega
  rw[this,Bool.true_and]
 rw[q];unfold cW;rw[aC (by decide),aC (by decide),aC (by decide),aC (by decide),aC (by decide),zt rfl,e]
 have:bU d (-1048576) 1048574=true:=by unfold bU;simp;omega
 rw[this,Bool.true_and]
def vg (i):(bB i).2=0↔right i=true:=by
 unfold bB;by_cases h:right i=true
 .rw[zt h];exact ⟨λ _=>h,λ _=>rfl⟩
 rw[aC h];exact ⟨λ x=>absurd x (show ¬((1:Int)=0) by decide),λ x=>absurd x h⟩
def nw (p:Pz):Prop:=p.1.tg=[]->(p.1.sh=true->p.2.2=2)/\(p.1.bt=[]->p.1.sh=false->p.2.2=4\/(p.2.2=2/\(bQ p.1.ins).2=0))
def SW (short) {P:List Pz} (h:∀p∈P,jX p.1):∀p∈gI short P,nw p:=by
 intro p w u;obtain ⟨x,hx,rfl⟩:=List.mem_map.1 w;simp only at u ⊢;refine ⟨λ q=>?_,λ v q=>?_⟩
 .unfold iu
  rw[aC (show ¬x.1.bt≠[] from λ y=>y ((h x hx).sh q).2.1),q]
  rfl
 unfold iu;rw[aC (show ¬x.1.bt≠[] from λ y=>y v),q,u,li]
 by_cases j:(short&&(bQ x.1.ins).2==0)=true
 .right
  simp only[Bool.and_eq_true,beq_iff_eq]at j;refine ⟨?_,j.2⟩;rw[zt (by simp[j.1,j.2])]
 left
 rw[aC (by simpa using j)]
def NR {P:List Pz} {nm:List (ByteArray×Nat)} (h:∀p∈P,nw p):∀p∈eS P (dI P nm P.length),nw p:=by
 intro p w;obtain ⟨k,j⟩:=List.getElem?_of_mem w;rw[yI]at j
 cases hq:P[k]? with
 | none=>rw[hq]at j;cases j
 | some q=>
  rw[hq]at j;injection j with j
  subst j
  split
  .rename_i hm
   intro v;have u:=(sk hq).1 hm;unfold kh at u;simp only[Bool.and_eq_true,Bool.not_eq_true']at u;simp only at v;rw[v]at u;exact absurd u.1 (by decide)
  exact h q (List.mem_of_getElem? hq)
def Dp {nm:List (ByteArray×Nat)}:∀(f:Nat) {P:List Pz},(∀p∈P,nw p)->∀p∈fG nm f P,nw p
 | 0,P,h=>h
 | f+1,P,h=>by
  rw[fG]
  split
  .exact h
  exact Dp f (NR h)
def ze {sz:List Int} (h:∀x∈sz,0<=x/\x<=4):∀(m k:Nat),k<=m->eF sz k<=eF sz m
 | 0,k,j=>by rw[show k=0 by omega];omega
 | m+1,k,j=>by
  by_cases e:k=m+1
  .rw[e];omega
  have:=ze h m k (by omega)
  rw[eF]
  have q:0<=sz.getD m 0:=by
   by_cases j:m<sz.length
   .have e:sz.getD m 0=sz[m]:=by simp[List.getD,j]
    rw[e];exact (h _ (List.getElem_mem j)).1
   (have e:sz.getD m 0=0:=by simp[List.getD,Nat.le_of_not_lt j]);rw[e];decide
  omega
def I3 {P:List Pz} {nm:List (ByteArray×Nat)} (h:jW P nm) (U:∀p∈P,nw p) (Q:∀p∈P,0<=p.2.2/\p.2.2<=4) (Y:dI P nm P.length=[]) (W:eF (dM P) P.length<=1024) {p:Pz} (K:P[k]?=some p):
    mZ (cX (cC P) (cC P).length) (dA nm) k ⟨dG p.1,p.2.1,p.2.2⟩ =
     if p.1.bt≠[] then some p.1.bt else if (eA P nm p.1 k).imm%2≠0/\p.1.tg≠[] then none else some (bR p.2.2.toNat (if p.2.2=2 then (eM (eA P nm p.1 k)).1 else (bB (eA P nm p.1 k)).1)):=by
 have H:=List.mem_of_getElem? K;have Z:k<P.length:=(List.getElem?_eq_some_iff.1 K).1;have D:=h.ok p H;unfold mZ;simp only;by_cases E:p.1.bt=[]
 .rw[aC (show ¬p.1.bt≠[] from λ y=>y E)]
  by_cases A:p.1.tg=[]
  .have I:eA P nm p.1 k=p.1.ins:=by unfold eA;rw[zt A]
   rw[aC (show ¬((eA P nm p.1 k).imm%2≠0/\p.1.tg≠[]) from λ y=>y.2 A),I,li]
   cases w:p.1.sh with
   | true=>
    (have e:dG p.1=⟨bR 2 (bQ p.1.ins).1,cI,[]⟩:=by unfold dG;rw[w];rfl);have G:=(U p H A).1 w;rw[e,G];rfl
   | false=>
    (have e:dG p.1=⟨[],p.1.ins,[]⟩:=by unfold dG;rw[w,E,A];rfl);(have L:gD (cX (cC P) (cC P).length) (dA nm) k ⟨[],p.1.ins,[]⟩=p.1.ins:=by unfold gD;rw[zt rfl]);rw[e];simp only[if_true,L];rcases (U p H A).2 E w with M|⟨G,X⟩
    .rw[M,aC (by decide),zt ((vg _).2 (D.ri E)),aC (by decide)]
     rfl
    rw[G,zt rfl,zt X,zt rfl];rfl
  have e:=Gb D A;have L:=FL h K A;rw[e]at L;rw[e];simp only[if_true,L];obtain ⟨q,hq,ho,N,V,hr⟩:=D.tg A;obtain ⟨v,hv,T⟩:=h.lab p H A
  have u:∀x∈dM P,0<=x/\x<=4:=λ x hx=>by
   obtain ⟨y,hy,rfl⟩:=List.mem_map.1 hx;exact Q y hy
  have O:eA P nm p.1 k = { p.1.ins with imm:=eF (dM P) v-eF (dM P) k }:=by
   unfold eA;rw[aC A,yF,hv]
  have F:right (eA P nm p.1 k)=decide ((eA P nm p.1 k).imm%2=0):=by
   rw[O];have b1:=(oE u v).1;have b2:=(oE u k).1;have b3:=ze u P.length v T;(have b4:=ze u P.length k (by omega));exact Lw hq N ho V hr (by omega) (by omega)
  rcases h.sz p H A with G|M
  .have C:kh P nm k p=false:=by
    cases hg:kh P nm k p with
    | false=>rfl
    | true=>
     have:=(sk (nm:=nm) K).2 hg;rw[Y]at this;cases this
   have J:(bQ (eA P nm p.1 k)).2=0:=by
    unfold kh at C;rw[G,li]at C;(have R:p.1.tg.isEmpty=false:=by simpa using A);rw[R]at C;simpa using C
   have j:right (eA P nm p.1 k)=true:=by
    (have hx:bQ (eA P nm p.1 k)=((bQ (eA P nm p.1 k)).1,0):=by rw[<-J]);exact (DD hx).2.2.2.2
   rw[F,decide_eq_true_eq]at j;(rw[G,zt rfl,zt J,aC (λ y=>y.1 j),zt rfl,li]);rfl
  rw[M,aC (by decide)]
  by_cases hx:(eA P nm p.1 k).imm%2=0
  .rw[zt ((vg _).2 (by rw[F];exact decide_eq_true hx)),aC (λ y=>y.1 hx),aC (by decide)]
   rfl
  rw[aC (λ y=>by rw[vg,F,decide_eq_true_eq]at y;exact hx y),zt ⟨hx,A⟩]
 have w:p.1.sh=false:=by
  cases Q:p.1.sh with
  | false=>rfl
  | true=>exact absurd (D.sh Q).2.1 E
 have e:dG p.1=⟨p.1.bt,p.1.ins,p.1.tg⟩:=by unfold dG;rw[w];rfl
 rw[e,aC E,zt E]
def yu {P:List Pz} {nm:List (ByteArray×Nat)} (h:jW P nm) (C:∀p∈P,nw p) (G:∀p∈P,0<=p.2.2/\p.2.2<=4) (D:dI P nm P.length=[]) (u:eF (dM P) P.length<=1024):
    ∀j,j<=P.length->(∀i,i<j->mW (cX (cC P) (cC P).length) (dA nm) (cC P) i=false)->kU P nm 0 P []=kU P nm j (P.drop j) (kn (cX (cC P) (cC P).length) (dA nm) (cC P) j)
 | 0,_,_=>rfl
 | j+1,hj,hb=>by
  rw[yu h C G D u j (by omega) (λ i hi=>hb i (by omega))]
  have v:j<P.length:=by omega
  have E:P[j]?=some P[j]:=zg v;have F:(cC P)[j]?=some ⟨dG P[j].1,P[j].2.1,P[j].2.2⟩:=by rw[me,E];rfl
  have q:=hb j (by omega)
  unfold mW at q;rw[F]at q;simp only at q;have A:=I3 h C G D u E;rw[List.drop_eq_getElem_cons v,kU,kn,F];simp only;rw[A]at q ⊢;by_cases w:P[j].1.bt≠[]
  .rw[zt w,zt w];rfl
  rw[aC w]at q ⊢;rw[aC w];by_cases y:(eA P nm P[j].1 j).imm%2≠0/\P[j].1.tg≠[]
  .rw[zt y]at q;cases q
  rw[aC y,aC y];rfl
def UT {P:List Pz} {nm:List (ByteArray×Nat)} (h:jW P nm) (y:∀p∈P,nw p) (E:∀p∈P,0<=p.2.2/\p.2.2<=4) (C:dI P nm P.length=[]) (q:eF (dM P) P.length<=1024):
    kU P nm 0 P []=kQ (cX (cC P) (cC P).length) (dA nm) (cC P):=by
 unfold kQ
 cases hf:(List.range (cC P).length).find? (mW (cX (cC P) (cC P).length) (dA nm) (cC P)) with
 | none=>
  have u:∀i,i<P.length->mW (cX (cC P) (cC P).length) (dA nm) (cC P) i=false:=λ i hi=>by
   (have:=List.find?_eq_none.1 hf i (by rw[nF];simpa using hi));simpa using this
  rw[yu h y E C q P.length zn u,List.drop_length];rw[nF];rfl
 | some k=>
  rw[List.find?_range_eq_some]at hf;obtain ⟨j,w,D⟩:=hf;have v:k<P.length:=by rw[nF]at w;simpa using w
  have H:P[k]?=some P[k]:=zg v;have I:(cC P)[k]?=some ⟨dG P[k].1,P[k].2.1,P[k].2.2⟩:=by rw[me,H];rfl
  rw[yu h y E C q k (by omega) (λ i hi=>by simpa using D i hi)]
  unfold mW at j;rw[I]at j;simp only at j;have A:=I3 h y E C q H;rw[A]at j;show kU P nm k (P.drop k) _=([],5,match (cC P)[k]? with|some x=>x.line|none=>0)
  rw[I,List.drop_eq_getElem_cons v,kU];by_cases F:P[k].1.bt≠[]
  .rw[zt F]at j;cases j
  rw[aC F]at j ⊢;by_cases G:(eA P nm P[k].1 k).imm%2≠0/\P[k].1.tg≠[]
  .rw[zt G]
  rw[aC G]at j;cases j
def CF {nm:List (ByteArray×Nat)}:∀(f:Nat) (P:List Pz),c4 P<f->dI (fG nm f P) nm (fG nm f P).length=[]
 | 0,P,hf=>by omega
 | f+1,P,hf=>by
  by_cases h:dI P nm P.length=[]
  .rw[yg (by omega) h];exact h
  rw[xD (by omega) h]
  have j:=zY h;exact CF f _ (by omega)
def D7 {nm:List (ByteArray×Nat)}:∀(f:Nat) (P:List Pz),(fG nm f P).length=P.length
 | 0,P=>rfl
 | f+1,P=>by
  rw[fG]
  split
  .rfl
  rw[D7 f,sw]
def Ff (h:List (Rp×Int)):cC (h.map λ p=>((p.1,p.2,0):Pz))=eG h:=by
 unfold cC eG;rw[List.map_map];rfl
def F9:∀(sz:List Int) (k:Nat),(∀x∈sz,x=0)->eF sz k=0
 | sz,0,_=>rfl
 | sz,k+1,h=>by
  rw[eF,F9 sz k h]
  have:sz.getD k 0=0:=by
   by_cases j:k<sz.length
   .have e:sz.getD k 0=sz[k]:=by simp[List.getD,j]
    rw[e];exact h _ (List.getElem_mem j)
   simp[List.getD,Nat.le_of_not_lt j]
  rw[this];rfl
def yB {h:List (Rp×Int)} {nm:List (ByteArray×Nat)} (j:∀p∈h,jX p.1) {p:Pz} (q:(h.map λ p=>((p.1,p.2,0):Pz))[k]?=some p):
    kp (eG h) (dA nm) k=ml (h.map λ p=>(p.1,p.2,0)) nm p:=by
 unfold kp ml;rw[<-Ff,me,q];simp only[zm];have u:=List.mem_of_getElem? q;obtain ⟨x,hx,rfl⟩:=List.mem_map.1 u;simp only;rw[zU (j x hx),yF]
 have w:∀y∈dM (h.map λ p=>((p.1,p.2,0):Pz)),y=0:=λ y hy=>by
  unfold dM at hy;rw[List.map_map]at hy;obtain ⟨z,_,rfl⟩:=List.mem_map.1 hy;rfl
 cases (dA nm).lookup x.1.tg with
 | none=>rfl
 | some v=>
  simp only[Option.isNone_some];have:¬eF (dM (h.map λ p=>((p.1,p.2,0):Pz))) v<0:=by rw[F9 _ _ w];decide
  rw[decide_eq_false this]
def Nl {nm:List (ByteArray×Nat)} {n:Nat} (h:∀x∈nm,x.2<=n) (j:(dA nm).lookup t=some v):v<=n:=by
 have:=CA j;unfold dA at this;obtain ⟨x,hx,e⟩:=List.mem_map.1 this;injection e with _ e
 rw[<-e];exact h x hx
def QF {h:List (Rp×Int)} {nm:List (ByteArray×Nat)} (short) (u:∀p∈h,jX p.1) (Y:∀x∈nm,x.2<=h.length) (E:∀k,kp (eG h) (dA nm) k=false):
    rG nm (h.length+1) (h.map λ p=>(p.1,p.2,iu short p.1)) =
     if 1024<eZ (kF (dA nm) (fszs short (eG h) (eG h).length)) (eG h).length then ([],8,0)
     else kQ (cX (kF (dA nm) (fszs short (eG h) (eG h).length)) (eG h).length) (dA nm) (kF (dA nm) (fszs short (eG h) (eG h).length)):=by
 have K:(eG h).length=h.length:=by simp[eG]
 have C:∀p∈h.map λ p=>((p.1,p.2,0):Pz),jX p.1:=λ p w=>by
  obtain ⟨x,hx,rfl⟩:=List.mem_map.1 w;exact u x hx
 have G:=Ro short C;rw[Ff]at G;have O:gI short (h.map λ p=>((p.1,p.2,0):Pz))=h.map λ p=>(p.1,p.2,iu short p.1):=by unfold gI;rw[List.map_map];rfl
 rw[O]at G;rw[G];have P:=SW short C;rw[O]at P;have q:(h.map λ p=>((p.1,p.2,iu short p.1):Pz)).length=h.length:=by simp
 have R:∀p∈h.map λ p=>((p.1,p.2,iu short p.1):Pz),0<=p.2.2/\p.2.2<=4:=λ p w=>by
  obtain ⟨x,hx,rfl⟩:=List.mem_map.1 w;exact GM short (u x hx).bt
 have U:jW (h.map λ p=>((p.1,p.2,iu short p.1):Pz)) nm:=by
  refine ⟨λ p w=>?_,λ p w F=>?_,λ p w F=>?_⟩
  .obtain ⟨x,hx,rfl⟩:=List.mem_map.1 w
   exact u x hx
  .obtain ⟨x,hx,rfl⟩:=List.mem_map.1 w
   simp only at F ⊢;(have I:x.1.bt=[]:=Classical.byContradiction (λ I=>F ((u x hx).da I)));unfold iu;rw[aC (show ¬x.1.bt≠[] from λ y=>y I)]
   split
   .exact Or.inl rfl
   exact Or.inr rfl
  obtain ⟨x,hx,rfl⟩:=List.mem_map.1 w;simp only at F ⊢;obtain ⟨k,J⟩:=List.getElem?_of_mem hx;have X:(eG h)[k]?=some ⟨dG x.1,x.2,0⟩:=by unfold eG;rw[List.getElem?_map,J];rfl
  have:=E k;unfold kp at this;rw[X]at this;simp only at this;rw[zU (u x hx)]at this;have M:x.1.tg.isEmpty=false:=by simpa using F
  rw[M]at this
  cases hv:(dA nm).lookup x.1.tg with
  | none=>rw[hv]at this;cases this
  | some v=>exact ⟨v,rfl,by rw[q];exact Nl Y hv⟩
 generalize V:(h.map λ p=>((p.1,p.2,iu short p.1):Pz))=j at *
 rw[<-q];obtain ⟨N,T⟩:=OV U R;have W:=CF (nm:=nm) (j.length+1) j (by have:=AY j;omega)
 have H:∀p∈fG nm (j.length+1) j,nw p:=Dp _ P;have D:(fG nm (j.length+1) j).length=j.length:=D7 _ _
 have L:∀p∈fG nm (j.length+1) j,0<=p.2.2/\p.2.2<=4:=λ p w=>by
  have Q:(⟨dG p.1,p.2.1,p.2.2⟩:Qt)∈cC (fG nm (j.length+1) j):=List.mem_map.2 ⟨p,w,rfl⟩;rw[N]at Q;exact nK _ (EE R) _ Q
 unfold rG;rw[<-N,vT,K,<-q,D];by_cases A:1024<eF (dM (fG nm (j.length+1) j)) j.length
 .rw[zt A,zt A]
 rw[aC A,aC A];have:=UT T H L W (by rw[D];omega)
 rw[nF,D]at this;exact this
open RowKit
def Pa (s):vq s=eE [] s.data.toList:=by
 unfold vq;rw[Lib.splitB_data];have h:Lib.countB s ⟨#[10]⟩=Lib.count s.data.toList [10]:=by simp[Lib.countB]
 rw[h];exact Df _ _ zn
def Tg (s) (short):lG short s.data.toList=kE s short:=by
 unfold lG kE;have O:s.data.toList.length=s.size:=by show s.data.toList.length=s.data.size;rw[Array.length_toList]
 rw[O];by_cases H:2000<s.size
 .rw[zt H,zt H]
 rw[aC H,aC H,Pa];generalize eE [] s.data.toList=A;unfold oT
 cases hf:(List.range A.length).find? (λ j=>!(iq A j==0)) with
 | some j=>
  have G:cJ A=(iq A j,(j:Int)+1,[],[]):=by unfold cJ;rw[hf]
  rw[List.find?_range_eq_some]at hf;obtain ⟨K,J,C⟩:=hf;have R:j<A.length:=by simpa using J
  have P:iq A j≠0:=by simpa using K
  rw[Tk A R (λ i hi=>by simpa using C i hi) P,G]
  simp only[aC P]
 | none=>
  have D:∀i,i<A.length->iq A i=0:=λ i hi=>by
   (have:=List.find?_eq_none.1 hf i (by simpa using hi));simpa using this
  obtain ⟨h,q,Q,N⟩:=QG A D
  have u:∀p∈h,jX p.1:=by
   (have:=EF A 0 [] [] (λ p F=>by cases F));rw[N]at this;exact this
  have M:∀x∈q,x.2<=h.length:=by
   (have:=(xI A 0 [] [] (λ p F=>by cases F) (λ p F=>by cases F)).2.1);rw[N]at this;exact this
  rw[N];show (if (0:Int)=0 then rK short h q else ([],0,0))=_;rw[zt rfl];unfold rK;have L:(eG h).length=h.length:=by simp[eG]
  cases hg:(List.range (eG h).length).find? (kp (eG h) (dA q)) with
  | some k=>
   have G:cJ A=(7,(match (eG h)[k]? with|some x=>x.line|none=>0),[],[]):=by
    unfold cJ;rw[hf];simp only[Q,hg];rfl
   rw[List.find?_range_eq_some]at hg;obtain ⟨K,J,C⟩:=hg;(have I:k<h.length:=by rw[L]at J;simpa using J);have E:(h.map λ p=>((p.1,p.2,0):Pz))[k]?=some (h[k].1,h[k].2,0):=by rw[List.getElem?_map,zg I];rfl
   have w:(h.map λ p=>((p.1,p.2,0):Pz)).find? (ml (h.map λ p=>(p.1,p.2,0)) q)=some (h[k].1,h[k].2,0):=by
    refine wg E (λ i y hi hy=>?_) ?_
    .rw[<-yB u hy]
     simpa using C i hi
    rw[<-yB u E];exact K
   rw[w,G];(have T:(eG h)[k]?=some ⟨dG h[k].1,h[k].2,0⟩:=by unfold eG;rw[List.getElem?_map,zg I];rfl);rw[T];rfl
  | none=>
   have G:cJ A=(0,0,eG h,dA q):=by
    unfold cJ;rw[hf];simp only[Q,hg]
   have v:∀k,kp (eG h) (dA q) k=false:=λ k=>by
    by_cases I:k<(eG h).length
    .have:=List.find?_eq_none.1 hg k (by simpa using I)
     simpa using this
    unfold kp;rw[List.getElem?_eq_none (by omega)]
   have w:(h.map λ p=>((p.1,p.2,0):Pz)).find? (ml (h.map λ p=>(p.1,p.2,0)) q)=none:=by
    (refine List.find?_eq_none.2 (λ y hy=>?_));obtain ⟨i,hi⟩:=List.getElem?_of_mem hy;rw[<-yB u hi,v i];decide
   rw[w,G];simp only[if_true];exact QF short u M v
def SA:∀k,k<64->(row k).opc%4=3:=by decide
def Ah (h:(bW w).2=0):w%4=3/\right (bW w).1=true:=by
 unfold bW at h ⊢
 split at h
 .exact absurd h (show ¬((1:Int)=0) by decide)
 rename_i hw;rw[aC hw]
 split at h
 .rename_i k hk
  have q:k<64:=by have:=List.mem_of_find?_eq_some hk;simpa using this
  have j:=List.find?_some hk;unfold gL at j;simp only[Bool.and_eq_true,beq_iff_eq]at j
  have u:aD w 6 0=w%128:=by
   show w/2^0%2^7=_;omega
  have v:=SA k q;refine ⟨?_,(vg _).1 j.1.2⟩;rw[u]at j;have:=j.1.1;omega
 exact absurd h (show ¬((1:Int)=0) by decide)
def H5 (h:(cE n).2=0):n%4≠3/\right (cE n).1=true:=by
 have e:cE n=((cE n).1,0):=by rw[<-h]
 obtain ⟨v,u⟩:=Ma e;refine ⟨?_,(DD u).2.2.2.2⟩;unfold cE at h
 split at h
 .exact absurd h (show ¬((1:Int)=0) by decide)
 rename_i hn
 split at h
 .rename_i k hk
  have j:k<32:=by have:=List.mem_of_find?_eq_some hk;simpa using this
  obtain ⟨m,q⟩:=zi (show 0<=n by omega)
  subst q;have:=FW j (oy (List.find?_some hk)).1;omega
 exact absurd h (show ¬((1:Int)=0) by decide)
def Cb:(bQ cI).2≠0:=by decide
def MI (h:4<=d.length):aP (d.take 4)%4=aP (d.take 2)%4:=by
 match d,h with
 | a::b::c::e::r,_=>
  simp only[List.take_succ_cons,List.take_zero,aP];omega
def Hk (E:k<l.length):
    ((bV l k).2=0/\cO (l.drop k)=if k+2<=l.length then ⟨2,aP ((l.drop k).take 2),cI⟩ else ⟨1,aP ((l.drop k).take 1),cI⟩)\/
    ((bV l k).2=2/\cO (l.drop k)=⟨2,aP ((l.drop k).take 2),(bV l k).1⟩/\right (bV l k).1=true)\/
    ((bV l k).2=4/\cO (l.drop k)=⟨4,aP ((l.drop k).take 4),(bV l k).1⟩/\right (bV l k).1=true):=by
 have D:(l.drop k).length=l.length-k:=by simp
 by_cases v:l.length<k+2
 .have j:bV l k=(⟨0,0,0,0,0⟩,0):=by unfold bV;rw[zt v]
  have h:cO (l.drop k)=⟨1,aP ((l.drop k).take 1),cI⟩:=by
   (have e:(l.drop k).take 1=l.drop k:=List.take_of_length_le (by omega));unfold cO;rw[zt (by omega),e,show (l.drop k).length=1 by omega]
  rw[j,h,aC (show ¬k+2<=l.length by omega)]
  exact Or.inl ⟨rfl,rfl⟩
 have A:k+2<=l.length:=by omega
 rw[zt A];by_cases hx:(cE (aP ((l.drop k).take 2))).2=0
 .obtain ⟨u,C⟩:=H5 hx
  have j:bV l k=((cE (aP ((l.drop k).take 2))).1,2):=by unfold bV;rw[aC v,zt u,vr,zt hx]
  have h:cO (l.drop k)=⟨2,aP ((l.drop k).take 2),(cE (aP ((l.drop k).take 2))).1⟩:=by unfold cO;rw[aC (by omega),zt hx]
  rw[j,h];exact Or.inr (Or.inl ⟨rfl,rfl,C⟩)
 by_cases u:aP ((l.drop k).take 2)%4=3
 .by_cases w:l.length<k+4
  .have j:bV l k=(⟨0,0,0,0,0⟩,0):=by unfold bV;rw[aC v,aC (λ y=>y u),zt w]
   (have h:cO (l.drop k)=⟨2,aP ((l.drop k).take 2),cI⟩:=by unfold cO;rw[aC (by omega),aC hx,aC (λ y=>by omega)]);rw[j,h];exact Or.inl ⟨rfl,rfl⟩
  by_cases q:(bW (aP ((l.drop k).take 4))).2=0
  .have j:bV l k=((bW (aP ((l.drop k).take 4))).1,4):=by unfold bV;rw[aC v,aC (λ y=>y u),aC w,zt q]
   (have h:cO (l.drop k)=⟨4,aP ((l.drop k).take 4),(bW (aP ((l.drop k).take 4))).1⟩:=by unfold cO;rw[aC (by omega),aC hx,zt ⟨by omega,q⟩]);rw[j,h];exact Or.inr (Or.inr ⟨rfl,rfl,(Ah q).2⟩)
  have j:bV l k=(⟨0,0,0,0,0⟩,0):=by unfold bV;rw[aC v,aC (λ y=>y u),aC w,aC q]
  have h:cO (l.drop k)=⟨2,aP ((l.drop k).take 2),cI⟩:=by unfold cO;rw[aC (by omega),aC hx,aC (λ y=>q y.2)]
  rw[j,h];exact Or.inl ⟨rfl,rfl⟩
 have j:bV l k=(⟨0,0,0,0,0⟩,0):=by unfold bV;rw[aC v,zt u,vr,aC hx]
 have h:cO (l.drop k)=⟨2,aP ((l.drop k).take 2),cI⟩:=by
  unfold cO
  rw[aC (by omega),aC hx,aC (λ y=>by
   have:=(Ah y.2).1;(rw[MI (by omega)]at this);exact u this)]
 rw[j,h];exact Or.inl ⟨rfl,rfl⟩
def Hm (C:k<l.length):iV l k=(gB (cO (l.drop k)),((cO (l.drop k)).size:Int)):=by
 rcases Hk C with ⟨w,q⟩|⟨u,q,_⟩|⟨A,q,_⟩
 .have j:ka l k=0:=by unfold ka;rw[w,aC (by decide)]
  unfold iV;rw[zt j,q];by_cases h:k+2<=l.length
  .rw[zt h,zt h]
   have e:gB ⟨2,aP ((l.drop k).take 2),cI⟩=[46,104,97,108,102,32]++Lib.itoa (aP ((l.drop k).take 2)):=by
    unfold gB;rw[aC (show ¬(2:Nat)=4 by decide),aC (λ y=>Cb y.1),zt rfl]
   rw[e];rfl
  rw[aC h,aC h]
  have e:gB ⟨1,aP ((l.drop k).take 1),cI⟩=[46,98,121,116,101,32]++Lib.itoa (aP ((l.drop k).take 1)):=by
   unfold gB;rw[aC (show ¬(1:Nat)=4 by decide),aC (λ y=>Cb y.1),aC (show ¬(1:Nat)=2 by decide)]
  rw[e];rfl
 .have v:k+2<=l.length:=by
   rcases tp l k with e|e|e<;>omega
  rw[q];by_cases h:(bQ (bV l k).1).2=0/\(bQ (bV l k).1).1=aP ((l.drop k).take 2)
  .have j:ka l k=2:=by unfold ka;rw[zt u,li,zt h]
   have e:gB ⟨2,aP ((l.drop k).take 2),(bV l k).1⟩=[99,46]++(gZ (bV l k).1).1:=by
    unfold gB;rw[aC (show ¬(2:Nat)=4 by decide),zt ⟨h.1,h.2.symm⟩]
   unfold iV;(rw[aC (by rw[j];decide),zt u,j,e]);rfl
  have j:ka l k=0:=by unfold ka;rw[zt u,li,aC h]
  have e:gB ⟨2,aP ((l.drop k).take 2),(bV l k).1⟩=[46,104,97,108,102,32]++Lib.itoa (aP ((l.drop k).take 2)):=by
   unfold gB;rw[aC (show ¬(2:Nat)=4 by decide),aC (λ y=>h ⟨y.1,y.2.symm⟩),zt rfl]
  unfold iV;rw[zt j,zt v,e];rfl
 have j:ka l k=4:=by unfold ka;rw[aC (by omega),A]
 have e:gB ⟨4,aP ((l.drop k).take 4),(bV l k).1⟩=(gZ (bV l k).1).1:=by unfold gB;rw[zt rfl]
 unfold iV;rw[aC (by rw[j];decide),aC (by omega),j,q,e]
 rfl
def Hn (l:List UInt8):∀(m k:Nat),l.length-k<=m->k<=l.length->jy l m k=jn (gY m k (l.drop k))
 | 0,k,hm,hk=>by
  have:l.drop k=[]:=List.drop_eq_nil_iff.2 (by omega)
  rw[this,mK];rfl
 | m+1,k,hm,hk=>by
  rw[jy];by_cases h:k<l.length
  .have j:l.drop k≠[]:=λ e=>by have:=List.drop_eq_nil_iff.1 e;omega
   have q:=wK l k h;rw[Hm h]at q;simp only at q;rw[zt h,Hm h,gY,dif_neg j,List.drop_drop];simp only[Int.toNat_natCast];(rw[Hn l m (k+(cO (l.drop k)).size) (by omega) (by omega)]);simp[jn]
  have:l.drop k=[]:=List.drop_eq_nil_iff.2 (by omega)
  rw[aC h,this,mK];rfl
def RN (s):oN s.data.toList=lK s:=by
 unfold oN lK rJ;have h:s.data.toList.length=s.size:=by show s.data.toList.length=s.data.size;rw[Array.length_toList]
 rw[Hn _ _ 0 (by omega) (by omega),h]
 rfl
def iG (l:List UInt8):Nat->Nat->List IT
 | 0,_=>[]
 | m+1,k=>if k<l.length then (if (bV l k).2=0 then [] else (k,(bV l k).1)::iG l m (k+(bV l k).2.toNat)) else []
def I8 {i:aE} (h:right i=true):zB i=false:=by
 obtain ⟨k,_,j⟩:=Ga h;unfold zB;have:(i.op==0)=false:=by rw[j];simp;omega
 rw[this];rfl
def An (l:List UInt8):∀(m k:Nat),l.length-k<=m->k<=l.length->iG l m k=((gY m k (l.drop k)).takeWhile λ x=>!zB x.1.2.ins).map ng
 | 0,k,hm,hk=>by
  have:l.drop k=[]:=List.drop_eq_nil_iff.2 (by omega)
  rw[this,mK];rfl
 | m+1,k,hm,hk=>by
  rw[iG];by_cases h:k<l.length
  .have u:l.drop k≠[]:=λ e=>by have:=List.drop_eq_nil_iff.1 e;omega
   rw[zt h,gY,dif_neg u,List.drop_drop,List.takeWhile_cons];have D:=tp l k;rcases Hk h with ⟨y,j⟩|⟨A,j,v⟩|⟨C,j,v⟩
   .rw[zt y]
    (have q:zB (cO (l.drop k)).ins=true:=by rw[j];split<;>rfl);simp only[q];rfl
   .have q:zB (cO (l.drop k)).ins=false:=by rw[j];exact I8 v
    (have w:(cO (l.drop k)).size=2:=by rw[j]);simp only[q,w];(rw[aC (by omega),An l m _ (by omega) (by omega),A]);simp[ng,j]
   (have q:zB (cO (l.drop k)).ins=false:=by rw[j];exact I8 v);(have w:(cO (l.drop k)).size=4:=by rw[j]);simp only[q,w];(rw[aC (by omega),An l m _ (by omega) (by omega),C]);simp[ng,j]
  have:l.drop k=[]:=List.drop_eq_nil_iff.2 (by omega)
  rw[aC h,this,mK];rfl
def E5 (s):iG s.data.toList s.size 0=cV s:=by
 have h:s.data.toList.length=s.size:=by show s.data.toList.length=s.data.size;rw[Array.length_toList]
 rw[An _ _ 0 (by omega) (by omega)]
 rfl
