import Derived.Test.YtbmcofdodfcnnaaGreatDoorGW39
set_option linter.all false
set_option maxHeartbeats 0
set_option maxRecDepth 100000
namespace Go
variable {c : UInt8} {r T F W Z t b2 L : List UInt8} {n v : Int}
def Bc {A:List aI} (h:∀t∈A,dB t) (i):bM [100,44,115] (A.map conv) i []=(aL A [114,44,114] [] 0 ⟨#[]⟩).map λ x=>({ i with rd:=x.1.getD 0 0,rs1:=x.1.getD 1 0 },[]):=
 iU nR h λ _ _ h=>jx jS (by simp) h λ _ h=>iU oR h λ _ _ _=>jw rfl
def IE {A:List aI} (h:∀t∈A,dB t) (i):bM [100,44,116] (A.map conv) i []=(aL A [114,44,114] [] 0 ⟨#[]⟩).map λ x=>({ i with rd:=x.1.getD 0 0,rs2:=x.1.getD 1 0 },[]):=
 iU nR h λ _ _ h=>jx jS (by simp) h λ _ h=>iU tF h λ _ _ _=>jw rfl
def VV {A:List aI} (h:∀t∈A,dB t) (i):bM [100,44,105] (A.map conv) i []=(aL A [114,44,105] [] 0 ⟨#[]⟩).map λ x=>({ i with rd:=x.1.getD 0 0,imm:=x.2.1 },[]):=
 iU nR h λ _ _ h=>jx jS (by simp) h λ _ h=>rP h λ _ _ _=>jw rfl
def Xs {A:List aI} (h:∀t∈A,dB t) (i):bM [105] (A.map conv) i []=(aL A [105] [] 0 ⟨#[]⟩).map λ x=>({ i with imm:=x.2.1 },[]):=
 rP h λ _ _ _=>jw rfl
def Io {A:List aI} (h:∀t∈A,dB t) (i) (hi:i.imm=0):bM [115,44,112] (A.map conv) i []=(aL A [114,44,116] [] 0 ⟨#[]⟩).map λ x=>({ i with rs1:=x.1.getD 0 0,imm:=x.2.1 },x.2.2.data.toList):=
 iU oR h λ _ _ h=>jx jS (by simp) h λ _ h=>wS h (λ _ _=>jw (by simp only[hi];rfl)) λ _ _=>jw rfl
def X0 {A:List aI} (h:∀t∈A,dB t) (i) (hi:i.imm=0):bM [112] (A.map conv) i []=(aL A [116] [] 0 ⟨#[]⟩).map λ x=>({ i with imm:=x.2.1 },x.2.2.data.toList):=
 wS h (λ _ _=>jw (by simp only;rw[<-hi])) λ _ _=>jw rfl
def IQ {A:List aI} (i):bM [] (A.map conv) i []=(aL A [] [] 0 ⟨#[]⟩).map λ _=>(i,[]):=by
 cases A with
 | nil=>rw[Bs,tN];rfl
 | cons t A=>rw[Ct,CN];rfl
def dG (p:Rp):cQ:=if p.sh then ⟨bR 2 (bQ p.ins).1,cI,[]⟩ else ⟨p.bt,p.ins,p.tg⟩
def wW (p:cQ):dG (pU p)=p:=rfl
def OU (l:List cQ):(l.map pU).map dG=l:=by
 rw[List.map_map];exact List.map_id l
def uk {t:aI} (h:dB t):(46:UInt8)∉t.text:=by
 rcases h with ⟨_,h,_⟩|⟨_,h,_⟩|⟨u,c,h,q,_⟩
 .intro j
  have:=h 46 j
  revert this
  decide
 .exact C9 h
 rw[h];intro j;have:=List.mem_singleton.1 j;subst this;have e:((46:UInt8).toNat:Int)=46:=by decide
 omega
def m5 {t:aI} (h:dB t) (u:t.text=c::r) (q:bJ c.toNat=true):t.kind=119:=by
 rcases h with ⟨w,_⟩|⟨_,_,v,y,h,j⟩|⟨_,v,h,_,j⟩
 .exact w
 .rw[u]at h
  injection h with h _
  subst h;rw[q]at j;cases j
 rw[u]at h;injection h with h _
 subst h;rw[q]at j;cases j
def xQ {t:aI} (h:dB t):t.kind≠46:=by
 rcases h with ⟨j,_⟩|⟨j,_⟩|⟨j,_⟩<;>omega
def O5 {t:aI} {l:List aI} (h:∀u∈t::l,dB u):js t l=false:=by
 match l,h with
 | [],_=>rfl
 | [_],_=>rfl
 | d::u::r,h=>
  have:=xQ (h d (by simp))
  simp[js,this]
def L0:∀k,k<64->lN (row k).name=none/\(row k).name≠[108,105]/\other (row k).name=none:=by decide
def m8 (l):(⟨l.toArray⟩:ByteArray).data.toList=l:=by simp
def SK (h:(46:UInt8)∉T):Lib.hasPrefix T [99,46]=false:=by
 cases hp:Lib.hasPrefix T [99,46] with
 | false=>rfl
 | true=>
  exfalso;unfold Lib.hasPrefix at hp;obtain ⟨r,j⟩:=List.isPrefixOf_iff_prefix.1 hp;exact h (by rw[<-j];simp)
def QX (h:(46:UInt8)∉T):fK T=0:=by
 unfold fK;rw[aC (λ e=>h (by rw[e];simp)),aC (λ e=>h (by rw[e];simp)),aC (λ e=>h (by rw[e];simp))]
def uC (h:(46:UInt8)∉T) (l:List Pc):cL ⟨T.toArray⟩ l=if T=[108,105] then j8 l else if (cN ⟨T.toArray⟩ l).2=0 then ([(cN ⟨T.toArray⟩ l).1],0) else ([],(cN ⟨T.toArray⟩ l).2):=by
 unfold cL;rw[m8,SK h,QX h];simp
def F8 {A:List aI} {s:aE×List UInt8} (h:eY ⟨T.toArray⟩=some s) {g:List Int×Int×ByteArray->aE×List UInt8} (j:bM s.2 (A.map conv) s.1 []=(aL A F [] 0 ⟨#[]⟩).map g):
    (if (cN ⟨T.toArray⟩ (A.map conv)).2=0 then ([(cN ⟨T.toArray⟩ (A.map conv)).1],(0:Int)) else ([],(cN ⟨T.toArray⟩ (A.map conv)).2)) =
     match aL A F [] 0 ⟨#[]⟩ with|none=>([],4)|some x=>if right (g x).1 then ([⟨[],(g x).1,(g x).2⟩],0) else ([],5):=by
 unfold cN;rw[h];simp only[j]
 cases aL A F [] 0 ⟨#[]⟩ with
 | none=>rfl
 | some x=>
  simp only[zm];cases hr:right (g x).1<;>simp
def mR {A:List aI} {t:aI} {s:aE×List UInt8} {g:List Int×Int×ByteArray->aE×List UInt8} (w:∀u∈t::A,dB u) (y:(List.range 64).find? (gW ⟨t.text.toArray⟩)=none) (G:other t.text=some s) (hF:lN t.text=some F) (H:bM s.2 (A.map conv) s.1 []=(aL A F [] 0 ⟨#[]⟩).map g) (D:t.kind=119) (j:t.text≠[108,105]) (C:∀h n nm,aL A F [] 0 ⟨#[]⟩=some (h,n,nm)->(g (h,n,nm)).1=rB t.text h n/\(g (h,n,nm)).2=nm.data.toList):
    cL ⟨t.text.toArray⟩ (A.map conv)=((cU t A).1.map dG,(cU t A).2):=by
 rw[uC (uk (w t (by simp))),aC j]
 have E:eY ⟨t.text.toArray⟩=some s:=by unfold eY;rw[y];simp only[m8];exact G
 rw[F8 E H];unfold cU;rw[hF];simp only
 cases hop:aL A F [] 0 ⟨#[]⟩ with
 | none=>rfl
 | some x=>
  obtain ⟨h,n,nm⟩:=x;rw[kv D,aC j];obtain ⟨q,v⟩:=C h n nm hop;simp only[q,v];cases right (rB t.text h n)<;>rfl
def V3 {A:List aI} {t:aI} (h:∀u∈t::A,dB u) (j:t.text=[108,105]) (q:t.kind=119):cL ⟨t.text.toArray⟩ (A.map conv)=((cU t A).1.map dG,(cU t A).2):=by
 rw[uC (uk (h t (by simp))),zt j]
 unfold j8 cU;rw[j,VV (λ u v=>h u (by simp[v])) cI]
 show _=_
 cases hop:aL A [114,44,105] [] 0 ⟨#[]⟩ with
 | none=>
  have e:lN [108,105]=some [114,44,105]:=rfl;rw[e];simp only[hop];rfl
 | some x=>
  obtain ⟨w,n,nm⟩:=x;have e:lN [108,105]=some [114,44,105]:=rfl;rw[e];simp only[hop,zm];rw[kv q,zt rfl];unfold kN
  split
  .rfl
  simp only;rw[OU]
def pq {A:List aI} {j:List Int} {nm:ByteArray} (h:aL A F [] 0 ⟨#[]⟩=some (j,n,nm)) (hF:116∉F):nm.data.toList=[]:=by
 rw[qQ _ _ _ _ _ _ _ _ h hF]
def Q7 {A:List aI} {t:aI} (v:∀u∈t::A,dB u) (y:(List.range 64).find? (gW ⟨t.text.toArray⟩)=none):cL ⟨t.text.toArray⟩ (A.map conv)=((cU t A).1.map dG,(cU t A).2):=by
 have D:∀u∈A,dB u:=λ u R=>v u (by simp[R])
 have w:=v t (by simp)
 by_cases E:t.text=[109,118]
 .exact mR v y (s:=(⟨29,0,0,0,0⟩,[100,44,115])) (F:=[114,44,114]) (by rw[E];rfl) (by rw[E];rfl) (Bc D _) (m5 w E (by decide)) (by rw[E];decide) (λ C n nm h=>⟨by rw[E];rfl,(pq h (by decide)).symm⟩)
 by_cases G:t.text=[110,111,116]
 .exact mR v y (s:=(⟨32,0,0,0,-1⟩,[100,44,115])) (F:=[114,44,114]) (by rw[G];rfl) (by rw[G];rfl) (Bc D _) (m5 w G (by decide)) (by rw[G];decide) (λ C n nm h=>⟨by rw[G];rfl,(pq h (by decide)).symm⟩)
 by_cases H:t.text=[110,101,103]
 .exact mR v y (s:=(⟨2,0,0,0,0⟩,[100,44,116])) (F:=[114,44,114]) (by rw[H];rfl) (by rw[H];rfl) (IE D _) (m5 w H (by decide)) (by rw[H];decide) (λ C n nm h=>⟨by rw[H];rfl,(pq h (by decide)).symm⟩)
 by_cases I:t.text=[115,101,113,122]
 .exact mR v y (s:=(⟨31,0,0,0,1⟩,[100,44,115])) (F:=[114,44,114]) (by rw[I];rfl) (by rw[I];rfl) (Bc D _) (m5 w I (by decide)) (by rw[I];decide) (λ C n nm h=>⟨by rw[I];rfl,(pq h (by decide)).symm⟩)
 by_cases J:t.text=[115,110,101,122]
 .exact mR v y (s:=(⟨5,0,0,0,0⟩,[100,44,116])) (F:=[114,44,114]) (by rw[J];rfl) (by rw[J];rfl) (IE D _) (m5 w J (by decide)) (by rw[J];decide) (λ C n nm h=>⟨by rw[J];rfl,(pq h (by decide)).symm⟩)
 by_cases K:t.text=[98,101,113,122]
 .exact mR v y (s:=(⟨54,0,0,0,0⟩,[115,44,112])) (F:=[114,44,116]) (by rw[K];rfl) (by rw[K];rfl) (Io D _ rfl) (m5 w K (by decide)) (by rw[K];decide) (λ C n nm h=>⟨by rw[K];rfl,rfl⟩)
 by_cases L:t.text=[98,110,101,122]
 .exact mR v y (s:=(⟨55,0,0,0,0⟩,[115,44,112])) (F:=[114,44,116]) (by rw[L];rfl) (by rw[L];rfl) (Io D _ rfl) (m5 w L (by decide)) (by rw[L];decide) (λ C n nm h=>⟨by rw[L];rfl,rfl⟩)
 by_cases h8:t.text=[106]
 .exact mR v y (s:=(⟨62,0,0,0,0⟩,[112])) (F:=[116]) (by rw[h8];rfl) (by rw[h8];rfl) (X0 D _ rfl) (m5 w h8 (by decide)) (by rw[h8];decide) (λ C n nm h=>⟨by rw[h8];rfl,rfl⟩)
 by_cases M:t.text=[108,105]
 .exact V3 v M (m5 w M (by decide))
 by_cases j:t.text=[110,111,112]
 .exact mR v y (s:=(⟨29,0,0,0,0⟩,[])) (F:=[]) (by rw[j];rfl) (by rw[j];rfl) (IQ _) (m5 w j (by decide)) (by rw[j];decide) (λ C n nm h=>⟨by rw[j];rfl,(pq h (by decide)).symm⟩)
 by_cases q:t.text=[114,101,116]
 .exact mR v y (s:=(⟨49,0,1,0,0⟩,[])) (F:=[]) (by rw[q];rfl) (by rw[q];rfl) (IQ _) (m5 w q (by decide)) (by rw[q];decide) (λ C n nm h=>⟨by rw[q];rfl,(pq h (by decide)).symm⟩)
 have N:lN t.text=none:=by unfold lN;rw[aC E,aC G,aC H,aC I,aC J,aC K,aC L,aC h8,aC M,aC j,aC q]
 have O:other t.text=none:=by unfold other;rw[aC j,aC E,aC G,aC H,aC I,aC J,aC K,aC L,aC h8,aC q]
 rw[uC (uk w),aC M];have P:eY ⟨t.text.toArray⟩=none:=by unfold eY;rw[y];simp only[m8];exact O
 have Q:cN ⟨t.text.toArray⟩ (A.map conv)=(jZ,4):=by unfold cN;rw[P]
 rw[Q];unfold cU;rw[N];rfl
def SS {A:List aI} {t:aI} (v:∀u∈t::A,dB u):cL ⟨t.text.toArray⟩ (A.map conv)=((fO t A).1.map dG,(fO t A).2):=by
 have q:=v t (by simp)
 rw[mT (O5 v)];unfold kb
 cases hf:(List.range 64).find? (named t) with
 | none=>
  rw[nz hf];show _=((hU t A).1.map dG,(hU t A).2);unfold hU;rw[aC (xQ q)];exact Q7 v (by rw[<-xy q];exact hf)
 | some k=>
  have h:k<64:=by have:=List.mem_of_find?_eq_some hf;simpa using this
  have j:t.text=(row k).name:=by have:=List.find?_some hf;simp[named]at this;exact this.2
  obtain ⟨G,H,I⟩:=L0 k h;have w:(List.range 64).find? (gW ⟨t.text.toArray⟩)=some k:=by rw[<-xy q];exact hf
  have E:eY ⟨t.text.toArray⟩=some (⟨k+1,0,0,0,0⟩,eQ (row k).kind):=by unfold eY;rw[w]
  rw[uC (uk q),aC (by rw[j];exact H),F8 E (Fp h (λ u F=>v u (by simp[F])))]
  cases hop:aL A (fP (row k).kind) [] 0 ⟨#[]⟩ with
  | none=>
   rw[qo hf hop];show _=((hU t A).1.map dG,(hU t A).2);unfold hU cU;rw[aC (xQ q),j,G];rfl
  | some x=>
   obtain ⟨D,n,nm⟩:=x;rw[xB (tg:=true) hf hop (.inr rfl)];simp only[iw];by_cases C:right (fR k D n)=true
   .simp only[C,if_true];rfl
   (have y:right (fR k D n)=false:=by simpa using C);simp only[y,Bool.false_eq_true,if_false];rfl
def rO (T:List aI):List UInt8×List Rp×Int:=
 match n7 T with
 | (none,l)=>([],(cZ l).1,(cZ l).2)
 | (some t,l)=>if 8<t.text.length then ([],[],4) else if (cZ l).2=0 then (t.text,(cZ l).1,0) else ([],[],(cZ l).2)
def kV (L:List UInt8):List UInt8×List Rp×Int:=match aW L false with
 | none=>([],[],4)
 | some T=>rO T
def pV (x:List UInt8×List Rp×Int):List UInt8×List cQ×Int:=(x.1,x.2.1.map dG,x.2.2)
def Rl (t:aI) (l:List aI):(fO t l).2≠0->(fO t l).1=[]:=by
 unfold fO
 split
 .split
  .unfold cR
   split
   .split
    .intro h;exact absurd rfl h
    intro _;rfl
   intro _;rfl
  intro _;rfl
 unfold kb
 split
 .intro h;exact absurd rfl h
 split
 .intro _;rfl
 unfold hU
 split
 .unfold jI
  split
  .intro _;rfl
  split
  .intro _;rfl
  unfold iA
  split
  .intro _;rfl
  split
  .intro _;rfl
  split
  .intro _;rfl
  intro h;exact absurd rfl h
 unfold cU
 split
 .intro _;rfl
 unfold kR
 split
 .intro _;rfl
 split
 .split
  .unfold kN
   split
   .intro _;rfl
   intro h;exact absurd rfl h
  split
  .intro h;exact absurd rfl h
  intro _;rfl
 intro _;rfl
def Kk (h:lN T=some F):∀f∈F,f≠58/\f≠46:=by
 unfold lN at h
 repeat' split at h
 all_goals first
  | (injection h with h;subst h;decide)
  | cases h
def xZ (h:∃d∈T,bJ d.toNat=false):other T=none:=by
 cases j:other T with
 | none=>rfl
 | some s=>
  exfalso;obtain ⟨d,v,u⟩:=h
  have q:∀T s,other T=some s->∀d∈T,bJ d.toNat=true:=by
   intro T s j;unfold other at j
   repeat' split at j
   all_goals first
    | (rename_i e;subst e;decide)
    | cases j
    | (rename_i e;rw[e];decide)
  rw[q T s j d v]at u;cases u
def M7 {s:aE×List UInt8} (h:other T=some s):mD s.2:=by
 unfold other at h
 repeat' split at h
 all_goals first
  | (injection h with h;subst h;simp[mD,nV])
  | cases h
def Rr {nm:ByteArray} {s:aE×List UInt8} (h:eY nm=some s):mD s.2:=by
 unfold eY at h
 split at h
 .rename_i k hk
  have j:k<64:=by have:=List.mem_of_find?_eq_some hk;simpa using this
  injection h with h
  subst h;exact vo (iH k j)
 exact M7 h
def Tn {p:Pc} {l:List Pc} (F:qc (p::l)) (L:pb (p::l)):cL ⟨p.2.toArray⟩ l=([],4):=by
 obtain ⟨j,a,b,C,J,E,K⟩:=L;obtain ⟨c,r,u,v⟩:=F p (by simp)
 have y:qc l:=λ q N=>F q (by simp[N])
 cases j with
 | zero=>
  simp at C;subst C
  have w:bJ c.toNat=false/\c≠46/\c≠99:=by
   rw[E]at v;refine ⟨?_,?_,?_⟩
   .cases w:bJ c.toNat with
    | false=>rfl
    | true=>simp[bT,w]at v
   .rintro rfl;revert v;decide
   rintro rfl;revert v;decide
  have D:eY ⟨p.2.toArray⟩=none:=by
   unfold eY;(rw[qv ⟨c,by rw[u];simp,w.1⟩]);simp only[m8];exact xZ ⟨c,by rw[u];simp,w.1⟩
  unfold cL;rw[m8,u]
  have G:Lib.hasPrefix (c::r) [99,46]=false:=by
   unfold Lib.hasPrefix;simp[List.isPrefixOf,Ne.symm w.2.2]
  have H:fK (c::r)=0:=by
   unfold fK;rw[aC (λ e=>by injection e with e;exact w.2.1 e),aC (λ e=>by injection e with e;exact w.2.1 e),aC (λ e=>by injection e with e;exact w.2.1 e)]
  have I:c::r≠[108,105]:=by
   intro e;(injection e with e);subst e;exact absurd w.1 (by decide)
  have A:cN ⟨(c::r).toArray⟩ l=(jZ,4):=by
   rw[<-u];unfold cN;rw[D]
  rw[G,H,A];simp[I]
 | succ j=>
  have h:pb l:=⟨j,a,b,by simpa using C,by simpa using J,E,K⟩
  unfold cL
  split
  .unfold lu
   (rw[rU (λ k M=>oe _ _ _ _ (vo (iH k M)) y h)]);rfl
  split
  .unfold iy
   rw[oe _ _ _ _ (by simp[mD]) y h]
  split
  .unfold j8
   rw[oe _ _ _ _ (by simp[mD,nV]) y h]
  have A:cN ⟨p.2.toArray⟩ l=(jZ,4):=by
   unfold cN
   cases D:eY ⟨p.2.toArray⟩ with
   | none=>rfl
   | some s=>
    simp only;rw[oe _ _ _ _ (Rr D) y h]
  rw[A];rfl
def LJ (nm) {A:List aI} (h:∀u∈A,dB u):eV nm (A.map conv)=if (cZ A).2=0 then (nm,(cZ A).1.map dG,0) else ([],[],(cZ A).2):=by
 cases A with
 | nil=>rfl
 | cons t A=>
  simp only[List.map_cons,eV,conv,cZ];rw[SS h];rfl
def E4:List UInt8×List cQ×Int:=([],[],4)
def p9 (nm:List UInt8) (st:List Rp×Int):List UInt8×List cQ×Int:=if st.2=0 then (nm,st.1.map dG,0) else ([],[],st.2)
def PS (nm:List UInt8) (q:Option (List Pc)):List UInt8×List cQ×Int:=match q with
 | none=>E4
 | some l=>eV nm l
def RS (nm:List UInt8) (o:Option (List aI)):List UInt8×List cQ×Int:=match o with
 | none=>E4
 | some T=>p9 nm (cZ T)
def CY (h:aY c=true):aX 1 c.toNat=true:=by
 unfold aY at h;unfold aX;simp only[if_true];rw[h,Bool.true_or]
def FU (h:aX 1 c.toNat=true) (j:aY c=false):c=46:=by
 unfold aX at h;unfold aY at j;simp only[if_true,j,Bool.false_or,beq_iff_eq]at h;exact iM (n:=46) h
def UU (h:aX 1 c.toNat=false):aY c=false:=by
 cases ha:aY c with
 | false=>rfl
 | true=>rw[CY ha]at h;cases h
def rv:∀r:List UInt8,(46:UInt8)∉r.takeWhile (λ c=>aX 1 c.toNat)->r.takeWhile aY=r.takeWhile (λ c=>aX 1 c.toNat)/\r.dropWhile aY=r.dropWhile (λ c=>aX 1 c.toNat)
 | [],_=>⟨rfl,rfl⟩
 | c::r,h=>by
  cases hg:aX 1 c.toNat with
  | false=>simp[List.takeWhile_cons,List.dropWhile_cons,hg,UU hg]
  | true=>
   (have e:(c::r).takeWhile (λ c=>aX 1 c.toNat)=c::r.takeWhile (λ c=>aX 1 c.toNat):=by simp[List.takeWhile_cons,hg]);rw[e]at h
   have j:aY c=true:=by
    cases j:aY c with
    | true=>rfl
    | false=>exact absurd (by rw[FU hg j];simp) h
   (have ih:=rv r (λ q=>h (by simp[q])));simp[List.takeWhile_cons,List.dropWhile_cons,hg,j,ih.1,ih.2]
def AF:∀r:List UInt8,(46:UInt8)∈r.takeWhile (λ c=>aX 1 c.toNat)->∃q,r.dropWhile aY=46::q
 | [],h=>by cases h
 | c::r,h=>by
  cases hg:aX 1 c.toNat with
  | false=>simp[List.takeWhile_cons,hg]at h
  | true=>
   cases ha:aY c with
   | false=>
    have:=FU hg ha;subst this;exact ⟨r,by simp[List.dropWhile_cons,ha]⟩
   | true=>
    have j:c≠46:=by rintro rfl;exact absurd ha (by decide)
    have u:(46:UInt8)∈r.takeWhile (λ c=>aX 1 c.toNat):=by
     simp[List.takeWhile_cons,hg]at h;rcases h with h|h
     .exact absurd h.symm j
     exact h
    obtain ⟨q,v⟩:=AF r u;exact ⟨q,by simp[List.dropWhile_cons,ha,v]⟩
def DH:∀(n:Nat) (r:List UInt8) (u:aI) (T:List aI),r.length<=n->aW r true=some (u::T)->u.blank=true
 | n,[],u,T,_,h=>by rw[ol]at h;cases h
 | 0,c::r,_,_,h,_=>by simp at h
 | n+1,c::r,u,T,hl,h=>by
  by_cases j:c=35
  .rw[sq _ _ _ j]at h;cases h
  by_cases q:c=32\/c=9
  .rw[mH _ _ _ q]at h
   exact DH n r u T (by simpa using hl) h
  cases ht:cD c r with
  | none=>rw[iO _ _ _ j q ht]at h;cases h
  | some x=>
   obtain ⟨k,v,m⟩:=x;rw[jO _ _ _ j q _ _ _ ht]at h
   cases hT:aW (r.drop m) false with
   | none=>rw[hT]at h;cases h
   | some T'=>
    rw[hT]at h;(injection h with h);(injection h with h _);rw[<-h]
def DU {u:aI} {T:List aI} (q:(35:UInt8)∉r) (h:aW r false=some (u::T)) (y:u.blank=false):
    ∃d j k v m,r=d::j/\cD d j=some (k,v,m)/\u=⟨k,d::j.take m,v,false⟩/\aW (j.drop m) false=some T:=by
 match r,q,h with
 | [],_,h=>rw[ol]at h;cases h
 | d::j,q,h=>
  have A:d≠35:=λ e=>q (by simp[e])
  by_cases w:d=32\/d=9
  .rw[mH _ _ _ w]at h
   have:=DH j.length j u T zn h;rw[this]at y;cases y
  cases ht:cD d j with
  | none=>rw[iO _ _ _ A w ht]at h;cases h
  | some x=>
   obtain ⟨k,v,m⟩:=x;rw[jO _ _ _ A w _ _ _ ht]at h
   cases hT:aW (j.drop m) false with
   | none=>rw[hT]at h;cases h
   | some T'=>
    rw[hT]at h;(injection h with h);(injection h with h1 h2);subst h2;exact ⟨d,j,k,v,m,rfl,ht,h1.symm,hT⟩
def EO {m:Nat} (h:cD c r=some (119,v,m)):bJ c.toNat=true/\m=(r.takeWhile aY).length/\v=0:=by
 unfold cD at h
 split at h
 .rename_i hs
  injection h with h
  injection h with _ h
  injection h with h1 h2
  exact ⟨hs,h2.symm,h1.symm⟩
 split at h
 .split at h
  .cases h
  split at h
  .cases h
  injection h with h;injection h with h _;omega
 split at h
 .split at h
  .cases h
  split at h
  .cases h
  injection h with h;injection h with h _;omega
 split at h
 .rename_i hc
  injection h with h
  injection h with h _
  exfalso;rcases hc with rfl|rfl|rfl|rfl|rfl<;>revert h<;>decide
 cases h
def Dx {u:aI} {T:List aI} (w:(35:UInt8)∉r) (h:aW r false=some (u::T)) (K:u.blank=false) (D:u.kind=119):
    u.text=r.takeWhile aY/\aW (r.dropWhile aY) false=some T/\(∀c∈u.text,aY c=true)/\∃c q,u.text=c::q/\bJ c.toNat=true:=by
 obtain ⟨d,j,k,v,m,rfl,L,rfl,C⟩:=DU w h K;simp only at D;subst D;obtain ⟨F,E,_⟩:=EO L;have y:aY d=true:=by simp[aY,F]
 have G:(d::j).takeWhile aY=d::j.takeWhile aY:=by simp[List.takeWhile_cons,y]
 have H:(d::j).dropWhile aY=j.dropWhile aY:=by simp[List.dropWhile_cons,y]
 have I:j.take m=j.takeWhile aY:=by rw[E,ll]
 have J:j.drop m=j.dropWhile aY:=by rw[E,sV]
 rw[G,H];rw[J]at C;simp only[I];refine ⟨by first|trivial|rfl,C,λ c A=>?_,d,_,rfl,F⟩
 rcases List.mem_cons.1 A with rfl|A
 .exact y
 exact mi aY j c A
def yv (y:∀c∈W,aY c=true) (D:∃c q,W=c::q/\bJ c.toNat=true) (A:Z=[]\/∃c q,Z=c::q/\aY c=false) (b):aW (W++Z) b=(aW Z false).map (⟨119,W,0,b⟩::·):=by
 obtain ⟨c,q,rfl,u⟩:=D;have h:c≠35:=by rintro rfl;exact absurd u (by decide)
 have j:¬(c=32\/c=9):=by rintro (rfl|rfl)<;>exact absurd u (by decide)
 have w:(q++Z).takeWhile aY=q:=by
  have C:∀d∈q,aY d=true:=λ d v=>y d (by simp[v])
  rw[List.takeWhile_append_of_pos C];rcases A with rfl|⟨d,z,rfl,v⟩
  .simp
  simp[List.takeWhile_cons,v]
 rw[List.cons_append,jO c (q++Z) b h j 119 0 q.length (sy c _ u _ (by rw[w]))]
 simp
def vk (T):fK (46::T)=lH T:=by
 unfold fK lH;simp only[List.cons.injEq,true_and]
 split
 .rfl
 split
 .rfl
 split<;>rfl
def Md (o:Option (List Int×Int×ByteArray)):iA 0 o=([],4):=by
 cases o with
 | none=>rfl
 | some x=>rfl
def NC (h:fK (46::T)=0) (l:List Pc):cL ⟨(46::T).toArray⟩ l=([],4):=by
 have j:∃d∈(46::T:List UInt8),bJ d.toNat=false:=⟨46,by simp,by decide⟩
 have v:eY ⟨(46::T).toArray⟩=none:=by
  unfold eY;rw[qv j];simp only[m8];exact xZ j
 have q:Lib.hasPrefix (46::T) [99,46]=false:=by
  unfold Lib.hasPrefix;simp[List.isPrefixOf]
 have u:cN ⟨(46::T).toArray⟩ l=(jZ,4):=by unfold cN;rw[v]
 unfold cL;rw[m8,q,h,u];simp
def NG {t:aI} (h:t.kind=46) (j:t.text=[46]) (A:List aI):fO t A=jI A:=by
 have q:js t A=false:=by
  unfold js
  split
  .simp[j]
  rfl
 have u:(List.range 64).find? (named t)=none:=List.find?_eq_none.2 (λ k _=>by simp[named,h])
 rw[mT q,nz u];show hU t A=jI A;unfold hU;rw[zt h]
def rk {nm:List UInt8} {p:Pc} {q:Option (List Pc)} (h:∀l,q=some l->cL ⟨p.2.toArray⟩ l=([],4)):PS nm (q.map (p::·))=E4:=by
 cases q with
 | none=>rfl
 | some l=>
  show eV nm (p::l)=E4;simp only[eV];rw[h l rfl];rfl
def tm {nm:List UInt8} {o:Option (List aI)} (h:∀T,o=some T->cZ T=([],4)):RS nm o=E4:=by
 cases o with
 | none=>rfl
 | some T=>
  show p9 nm (cZ T)=E4;rw[h T rfl];rfl
def yq (h:bT c.toNat=some 1) (r):aZ (c::r) 0 []=(aZ (r.dropWhile λ c=>aX 1 c.toNat) 0 []).map ((1,c::r.takeWhile λ c=>aX 1 c.toNat)::·):=by
 rw[lh,h,zd,ot];have j:dO 1 ([c]++r.takeWhile λ c=>aX 1 c.toNat)=some [(1,c::r.takeWhile λ c=>aX 1 c.toNat)]:=pE rfl (by simp[jT])
 rw[j];rfl
def Pp {size:Nat} (j:size≠0) {A:List aI} (q:∀u∈A,dB u):iy size (A.map conv)=((iA size (aL A [105] [] 0 ⟨#[]⟩)).1.map dG,(iA size (aL A [105] [] 0 ⟨#[]⟩)).2):=by
 unfold iy;rw[Xs q cI]
 cases aL A [105] [] 0 ⟨#[]⟩ with
 | none=>rfl
 | some x=>
  obtain ⟨v,n,nm⟩:=x;simp only[zm];by_cases h:n<0\/2^(8*size)<=n
  .rw[zt h,xr j h]
   rfl
  rw[aC h,Cv j h];rfl
def yn {size:Nat} {l:List Pc} (h:bM [105] l cI []=none):iy size l=([],4):=by
 unfold iy;rw[h]
def Qp (r) (y:(35:UInt8)∉r) (b) (nm):PS nm (aZ (46::r) 0 [])=RS nm (aW (46::r) b):=by
 rw[yq (by decide) r,jO 46 r b (by decide) (by decide) 46 0 0 (qe 46 r (by simp))]
 simp only[List.drop_zero,List.take_zero];have F:∀T,cZ (⟨46,[46],0,b⟩::T)=jI T:=λ T=>NG rfl rfl T
 by_cases v:fK (46::r.takeWhile λ c=>aX 1 c.toNat)=0
 .rw[rk (λ l _=>NC v l)]
  refine (tm (λ T j=>?_)).symm
  cases D:aW r false with
  | none=>rw[D]at j;cases j
  | some T'=>
   rw[D]at j;(injection j with j);subst j;rw[F]
   match T',D with
   | [],_=>rfl
   | u::A,D=>
    unfold jI;by_cases N:u.blank=true\/u.kind≠119
    .simp only[zt N]
    simp only[aC N];have hk:u.kind=119:=Classical.byContradiction (λ h=>N (Or.inr h))
    have Q:u.blank=false:=by
     cases h:u.blank with
     | false=>rfl
     | true=>exact absurd (Or.inl h) N
    obtain ⟨h1,W,_,_⟩:=Dx y D Q hk;by_cases O:lH u.text=0
    .rw[O,Md]
    have hd:(46:UInt8)∈r.takeWhile (λ c=>aX 1 c.toNat):=Classical.byContradiction (λ hn=>by
     have e:=(rv r hn).1;rw[vk,<-e,<-h1]at v;exact O (by omega))
    obtain ⟨q,X⟩:=AF r hd;rw[X]at W;(have J:(35:UInt8)∉(46::q:List UInt8):=by rw[<-X];exact vX y);(rw[qH _ _ _ _ _ (oh _ _ _ _ zn (by simp) J W) (by decide)]);rfl
 have R:(46:UInt8)∉r.takeWhile (λ c=>aX 1 c.toNat):=by
  intro G;apply v;unfold fK;rw[aC (λ e=>by injection e with _ e;rw[e]at G;revert G;decide),aC (λ e=>by injection e with _ e;rw[e]at G;revert G;decide),aC (λ e=>by injection e with _ e;rw[e]at G;revert G;decide)]
 obtain ⟨P,Y⟩:=rv r R;have hW:∀c∈r.takeWhile aY,aY c=true:=mi aY r
 have V:∃c q,r.takeWhile aY=c::q/\bJ c.toNat=true:=by
  rw[<-P,vk]at v;unfold lH at v
  split at v
  .rename_i h;rw[h];exact ⟨_,_,rfl,by decide⟩
  split at v
  .rename_i h;rw[h];exact ⟨_,_,rfl,by decide⟩
  split at v
  .rename_i h;rw[h];exact ⟨_,_,rfl,by decide⟩
  exact absurd rfl v
 have D:aW r false=(aW (r.dropWhile aY) false).map (⟨119,r.takeWhile aY,0,false⟩::·):=by
  have:=yv hW V (vG aY r) false;rw[List.takeWhile_append_dropWhile]at this;exact this
 have w:(35:UInt8)∉r.dropWhile aY:=vX y
 have E:∀l,cL ⟨(46::r.takeWhile λ c=>aX 1 c.toNat).toArray⟩ l=iy (lH (r.takeWhile aY)) l:=λ l=>by
  unfold cL;rw[m8]
  have H:Lib.hasPrefix (46::r.takeWhile λ c=>aX 1 c.toNat) [99,46]=false:=by
   unfold Lib.hasPrefix;simp[List.isPrefixOf]
  rw[H,aC (by decide),zt v,vk,P,Int.toNat_natCast]
 have O:lH (r.takeWhile aY)≠0:=by rw[vk,<-P]at v;omega
 have L:∀A,jI (⟨119,r.takeWhile aY,0,false⟩::A)=iA (lH (r.takeWhile aY)) (aL A [105] [] 0 ⟨#[]⟩):=λ A=>by
  unfold jI;simp only[aC (show ¬(false=true\/(119:Int)≠119) by decide)]
 rw[D,<-Y];generalize r.dropWhile aY=Z at *;generalize lH (r.takeWhile aY)=size at *;by_cases C:(46:UInt8)∈Z
 .rw[rk (λ l M=>by
   rw[E];obtain ⟨p,hp,dQ,U⟩:=qK Z 0 [] l M (Or.inl C);exact yn (sc _ _ _ _ ⟨p,hp,λ x hx i tg=>by rw[dQ];exact zE U x (by rw[List.mem_singleton.1 hx];unfold gQ;simp) i tg⟩))]
  refine (tm (λ T j=>?_)).symm
  cases K:aW Z false with
  | none=>rw[K]at j;cases j
  | some A=>
   rw[K]at j;(injection j with j);subst j;simp only[F];(rw[L,qH _ _ _ _ _ (oh _ _ _ _ zn C w K) (by decide)]);rfl
 rcases qJ Z.length Z false zn C w with ⟨A,H,I,K⟩|⟨H,I|⟨ps,I,ha⟩⟩
 .rw[H,I]
  show eV nm ((1,46::r.takeWhile λ c=>aX 1 c.toNat)::A.map conv)=p9 nm (cZ (⟨46,[46],0,b⟩::⟨119,r.takeWhile aY,0,false⟩::A))
  simp only[eV];rw[F,L,E,Pp O K];rfl
 .rw[H,I];rfl
 rw[H,I]
 rw[rk (λ l M=>by
  injection M with M
  subst M;rw[E];exact yn (oe _ _ _ _ (by simp[mD]) (pI Z 0 [] ps I (Or.inl rfl)) ha))]
 rfl
def On:∀k,k<64->(row k).name≠[99]:=by decide
def I2 {t:aI} (j:t.text=[99]) (v:t.kind=119) {A:List aI} (q:js t A=false):fO t A=([],4):=by
 have u:(List.range 64).find? (named t)=none:=List.find?_eq_none.2 (λ k h=>by
  have:(row k).name≠[99]:=On k (by simpa using h)
  simp[named,j,v,Ne.symm this])
 rw[mT q,nz u];show hU t A=([],4);unfold hU;rw[aC (by omega)]
 unfold cU;rw[j];rfl
def uN {nm:ByteArray} {l:List Pc} (h:eR nm l=(⟨0,0,0,0,0⟩,4)):lu nm l=([],4):=by
 unfold lu;rw[h];rfl
def Mt:∀k,k<64->(∀c∈(row k).name,aY c=true)/\(46:UInt8)∉(row k).name/\∃c q,(row k).name=c::q/\bJ c.toNat=true:=λ k v=>by
 obtain ⟨j,h⟩:=Dg k v;refine ⟨λ c u=>by simp[aY,h c u],λ w=>absurd (h 46 w) (by decide),?_⟩
 cases hn:(row k).name with
 | nil=>exact absurd hn j
 | cons c q=>exact ⟨c,q,rfl,h c (by rw[hn];simp)⟩
def J3 {p:aE×ByteArray×Int} (h:p=(⟨0,0,0,0,0⟩,⟨#[]⟩,4)):cR p=([],4):=by rw[h];rfl
def Le {u:aI} {A:List aI} (h:∀v∈u::A,dB v):lu ⟨u.text.toArray⟩ (A.map conv)=((cR (plain u A false)).1.map dG,(cR (plain u A false)).2):=by
 unfold lu cR;rw[D8 h];by_cases j:(plain u A false).2.2=0
 .simp only[zt j,if_true]
  rw[li];by_cases q:(bQ (plain u A false).1).2=0
  .simp only[zt q]
   rfl
  simp only[aC q];rfl
 simp only[aC j];rfl
def Ts (r) (C:(35:UInt8)∉r) (b) (nm):PS nm (aZ (99::46::r) 0 [])=RS nm (aW (99::46::r) b):=by
 have K:aX 1 46=true:=by decide
 have R:aY 46=false:=by decide
 rw[yq (by decide) (46::r),jO 99 (46::r) b (by decide) (by decide) 119 0 0 (sy 99 _ (by decide) _ (by simp[List.takeWhile_cons,R]))]
 simp only[List.drop_zero,List.take_zero];rw[jO 46 r false (by decide) (by decide) 46 0 0 (qe 46 r (by simp))]
 simp only[List.drop_zero,List.take_zero];have eT:(46::r).takeWhile (λ c=>aX 1 c.toNat)=46::r.takeWhile (λ c=>aX 1 c.toNat):=by simp[List.takeWhile_cons,K]
 have eD:(46::r).dropWhile (λ c=>aX 1 c.toNat)=r.dropWhile (λ c=>aX 1 c.toNat):=by simp[List.dropWhile_cons,K]
 rw[eT,eD]
 have w:∀l,cL ⟨(99::46::r.takeWhile λ c=>aX 1 c.toNat).toArray⟩ l=lu ⟨(r.takeWhile λ c=>aX 1 c.toNat).toArray⟩ l:=λ l=>by
  unfold cL;rw[m8]
  have I:Lib.hasPrefix (99::46::r.takeWhile λ c=>aX 1 c.toNat) [99,46]=true:=by
   unfold Lib.hasPrefix;simp[List.isPrefixOf]
  rw[zt I];unfold Lib.trimPrefix;rw[zt I];rfl
 cases hP:(List.range 64).find? (gW ⟨(r.takeWhile λ c=>aX 1 c.toNat).toArray⟩) with
 | none=>
  rw[rk (λ l _=>by rw[w];exact uN (tR hP))]
  refine (tm (λ T h=>?_)).symm
  cases F:aW r false with
  | none=>rw[F]at h;cases h
  | some T'=>
   rw[F]at h;(injection h with h);subst h;show fO _ _=_
   match T',F with
   | [],_=>exact I2 rfl rfl rfl
   | u::A,F=>
    cases hub:u.blank with
    | true=>exact I2 rfl rfl (by simp[js,hub])
    | false=>
     (have e:fO ⟨119,[99],0,b⟩ (⟨46,[46],0,false⟩::u::A)=cR (plain u A false):=by unfold fO;rw[zt (by simp[js,hub])]);rw[e];apply J3
     cases hf:(List.range 64).find? (named u) with
     | none=>exact nz hf A false
     | some k=>
      have W:=List.find?_some hf;simp[named]at W;(have j:k<64:=by have:=List.mem_of_find?_eq_some hf;simpa using this);obtain ⟨h1,h2,_,_⟩:=Dx C F hub W.1
      have hd:(46:UInt8)∈r.takeWhile (λ c=>aX 1 c.toNat):=Classical.byContradiction (λ X=>by
       have e:=(rv r X).1;(have:=List.find?_eq_none.1 hP k (by simpa using j));apply this;unfold gW;rw[pz,<-e,<-h1,W.2];simp)
      obtain ⟨q,hq⟩:=AF r hd;rw[hq]at h2;(have L:(35:UInt8)∉(46::q:List UInt8):=by rw[<-hq];exact vX C);(obtain ⟨v,G,H⟩:=oh _ _ _ _ zn (by simp) L h2);exact xR ⟨v,by simp[G],H⟩
 | some k=>
  have j:k<64:=by have:=List.mem_of_find?_eq_some hP;simpa using this
  have E:r.takeWhile (λ c=>aX 1 c.toNat)=(row k).name:=by
   have:=List.find?_some hP;unfold gW at this;rw[pz]at this;exact (eq_of_beq this).symm
  obtain ⟨hW,M,P⟩:=Mt k j;obtain ⟨U,e2⟩:=rv r (by rw[E];exact M)
  rw[E]at U
  have F:aW r false=(aW (r.dropWhile aY) false).map (⟨119,(row k).name,0,false⟩::·):=by
   have:=yv hW P (vG aY r) false;rw[<-U,List.takeWhile_append_dropWhile]at this;rw[this,U]
  have y:(35:UInt8)∉r.dropWhile aY:=vX C;rw[F,<-e2];rw[E]at w ⊢;have Q:∀A,fO ⟨119,[99],0,b⟩ (⟨46,[46],0,false⟩::⟨119,(row k).name,0,false⟩::A)=cR (plain ⟨119,(row k).name,0,false⟩ A false):=λ A=>by unfold fO;rw[zt (by simp[js])]
  have V:dB ⟨119,(row k).name,0,false⟩:=Or.inl ⟨rfl,hW,P⟩;generalize r.dropWhile aY=Z at *;by_cases D:(46:UInt8)∈Z
  .rw[rk (λ l O=>by
    rw[w];obtain ⟨p,hp,dQ,Y⟩:=qK Z 0 [] l O (Or.inl D);exact uN (Ir (p:=(1,(row k).name)) ⟨p,by simp[hp],dQ,Y⟩))]
   refine (tm (λ T h=>?_)).symm
   cases N:aW Z false with
   | none=>rw[N]at h;cases h
   | some A=>
    rw[N]at h;(injection h with h);subst h;show fO _ _=_;rw[Q];obtain ⟨v,G,H⟩:=oh _ _ _ _ zn D y N;exact J3 (xR ⟨v,by simp[G],H⟩)
  rcases qJ Z.length Z false zn D y with ⟨A,I,J,N⟩|⟨I,J|⟨ps,J,ha⟩⟩
  .rw[I,J]
   show eV nm ((1,99::46::(row k).name)::A.map conv)=p9 nm (fO ⟨119,[99],0,b⟩ (⟨46,[46],0,false⟩::⟨119,(row k).name,0,false⟩::A));simp only[eV]
   rw[Q,w,Le (u:=⟨119,(row k).name,0,false⟩) (λ v G=>by
    rcases List.mem_cons.1 G with rfl|G
    .exact V
    exact N v G)]
   rfl
  .rw[I,J];rfl
  rw[I,J]
  rw[rk (λ l O=>by
   (injection O with O);subst O;rw[w];exact uN (rU (λ k hk=>oe _ _ _ _ (vo (iH k hk)) (pI Z 0 [] ps J (Or.inl rfl)) ha)))]
  rfl
def Sb {p:Pc} {l:List Pc} (v:Lib.hasPrefix p.2 [99,46]=false) (E:fK p.2=0) (h:∃q∈p::l,q.1=1/\(46:UInt8)∈q.2):cL ⟨p.2.toArray⟩ l=([],4):=by
 obtain ⟨q,G,D,u⟩:=h;unfold cL;rw[m8,v,E];simp only[Bool.false_eq_true,if_false,ne_eq,not_true_eq_false];have j:∀F:List UInt8,(∀x∈F,gQ x)->q∈l->∀i tg,bM F l i tg=none:=λ F hF w i tg=>sc _ _ _ _ ⟨q,w,λ x hx i tg=>by rw[D];exact zE u x (hF x hx) i tg⟩
 rcases List.mem_cons.1 G with rfl|w
 .have A:q.2≠[108,105]:=by intro e;rw[e]at u;revert u;decide
  have C:eY ⟨q.2.toArray⟩=none:=by
   unfold eY;(rw[qv ⟨46,u,by decide⟩]);simp only[m8];exact xZ ⟨46,u,by decide⟩
  have y:cN ⟨q.2.toArray⟩ l=(jZ,4):=by unfold cN;rw[C]
  rw[aC A,y];rfl
 split
 .unfold j8
  rw[j _ (by unfold gQ;decide) w]
 have y:cN ⟨p.2.toArray⟩ l=(jZ,4):=by
  unfold cN
  cases C:eY ⟨p.2.toArray⟩ with
  | none=>rfl
  | some s=>
   simp only;rw[j _ (yD C).1 w]
 rw[y];rfl
def Sg {t:aI} {A:List aI} (q:js t A=false) (v:t.kind≠46) (h:∃u∈A,u.kind=46):fO t A=([],4):=by
 have w:plain t A true=(⟨0,0,0,0,0⟩,⟨#[]⟩,4):=by
  cases j:(List.range 64).find? (named t) with
  | none=>exact nz j A true
  | some k=>exact qo j (qH _ _ _ _ _ h (BG _)) true
 rw[mT q,w];show hU t A=([],4);unfold hU;rw[aC v];unfold cU
 split
 .rfl
 rename_i F hF;rw[qH _ _ _ _ _ h (λ f j=>(Kk hF f j).2)]
 rfl
def yG {k:Int} {m:Nat} (h:cD c r=some (k,v,m)) (q:k≠119) (j:k≠105):(c.toNat:Int)=k/\m=0:=by
 unfold cD at h
 split at h
 .injection h with h;injection h with h _;omega
 split at h
 .split at h
  .cases h
  split at h
  .cases h
  injection h with h;injection h with h _;omega
 split at h
 .split at h
  .cases h
  split at h
  .cases h
  injection h with h;injection h with h _;omega
 split at h
 .injection h with h
  injection h with h1 h
  injection h with _ h
  exact ⟨h1,h.symm⟩
 cases h
def O3 (E:(35:UInt8)∉(c::r:List UInt8)) (F:¬(c=32\/c=9)) (h:c≠46) (I:¬(c=99/\∃q,r=46::q)) (G:(46:UInt8)∈r) (b) (nm):
    PS nm (aZ (c::r) 0 [])=RS nm (aW (c::r) b):=by
 have C:c≠35:=λ e=>E (by simp[e])
 have L:(35:UInt8)∉r:=λ e=>E (by simp[e])
 have Z:PS nm (aZ (c::r) 0 [])=E4:=by
  cases hq:aZ (c::r) 0 [] with
  | none=>rfl
  | some ps=>
   (have w:=qK (c::r) 0 [] ps hq (Or.inl (by simp[G])));rw[lh]at hq
   cases hb:bT c.toNat with
   | none=>rw[hb]at hq;cases hq
   | some j=>
    rw[hb,zd,ot]at hq
    have R:j≠0:=by
     rintro rfl;unfold bT at hb
     split at hb
     .injection hb with hb;omega
     split at hb
     .injection hb with hb;omega
     split at hb
     .injection hb with hb;omega
     split at hb
     .rename_i hx
      apply F;simp only[Bool.or_eq_true,beq_iff_eq]at hx;rcases hx with hx|hx
      .exact Or.inl (iM (n:=32) hx)
      exact Or.inr (iM (n:=9) hx)
     cases hb
    cases he:dO j ([c]++r.takeWhile λ c=>aX j c.toNat) with
    | none=>rw[he]at hq;cases hq
    | some es=>
     have P:es=[(j,c::r.takeWhile λ c=>aX j c.toNat)]:=by
      unfold dO at he;rw[aC R]at he
      split at he
      .injection he with he
       exact he.symm
      cases he
     rw[he,P,zd]at hq
     cases hz:aZ (r.dropWhile λ c=>aX j c.toNat) 0 [] with
     | none=>rw[hz]at hq;cases hq
     | some l=>
      rw[hz]at hq;(injection hq with hq);subst hq;(show eV nm ((j,c::r.takeWhile λ c=>aX j c.toNat)::l)=E4);simp only[eV]
      have hR:cL ⟨(c::r.takeWhile λ c=>aX j c.toNat).toArray⟩ l=([],4):=by
       refine Sb (p:=(j,c::r.takeWhile λ c=>aX j c.toNat)) ?_ ?_ w
       .cases hp:Lib.hasPrefix (c::r.takeWhile λ c=>aX j c.toNat) [99,46] with
        | false=>rfl
        | true=>
         exfalso;unfold Lib.hasPrefix at hp;obtain ⟨x,hx⟩:=List.isPrefixOf_iff_prefix.1 hp;(injection hx with hx1 hx2);apply I;refine ⟨hx1.symm,?_⟩
         match r,hx2 with
         | [],hx2=>cases hx2
         | d::Y,hx2=>
          simp only[List.takeWhile_cons]at hx2
          split at hx2
          .injection hx2 with hx2 _
           exact ⟨Y,by rw[<-hx2]⟩
          cases hx2
       unfold fK;rw[aC (λ e=>by injection e with e;exact h e),aC (λ e=>by injection e with e;exact h e),aC (λ e=>by injection e with e;exact h e)]
      rw[hR];rfl
 rw[Z];refine (tm (λ T y=>?_)).symm
 have w:=oh _ (c::r) b T zn (by simp[G]) E y
 cases ht:cD c r with
 | none=>rw[iO _ _ _ C F ht]at y;cases y
 | some x=>
  obtain ⟨k,v,m⟩:=x;rw[jO _ _ _ C F _ _ _ ht]at y
  cases hA:aW (r.drop m) false with
  | none=>rw[hA]at y;cases y
  | some A=>
   rw[hA]at y;(injection y with y);subst y
   have D:k≠46:=by
    rintro rfl;exact h (iM (n:=46) (yG ht (by decide) (by decide)).1)
   show fO _ A=_;refine Sg ?_ D ?_
   .cases hcf:js ⟨k,c::r.take m,v,b⟩ A with
    | false=>rfl
    | true=>
     exfalso
     match A,hA,hcf with
     | d::u::A',hA,hcf=>
      simp only[js,Bool.and_eq_true,decide_eq_true_eq,Bool.not_eq_true',List.cons.injEq]at hcf;obtain ⟨⟨⟨⟨H,W⟩,K⟩,O⟩,_⟩:=hcf;(obtain ⟨d',Y,j,v',m',e,V,N,_⟩:=DU (λ hx=>L (List.mem_of_mem_drop hx)) hA O);(have Q:j=46:=by rw[N]at K;exact K);subst Q;(have J:=iM (n:=46) (yG V (by decide) (by decide)).1);subst J;apply I;refine ⟨H,Y,?_⟩
      have U:r.drop m=r:=by
       match r,m,W with
       | [],_,_=>simp
       | x::r'',0,_=>rfl
      rw[U]at e;exact e
   obtain ⟨u,X,M⟩:=w;rcases List.mem_cons.1 X with rfl|X
   .exact absurd M D
   exact ⟨u,X,M⟩
def AE:∀(n:Nat) (S:List UInt8) (b:Bool) (nm:List UInt8),S.length<=n->(35:UInt8)∉S->PS nm (aZ S 0 [])=RS nm (aW S b)
 | n,[],b,nm,_,_=>by
  rw[ol];rfl
 | 0,c::r,_,_,h,_=>by simp at h
 | n+1,c::r,b,nm,hl,h35=>by
  have K:r.length<=n:=by simpa using hl
  have y:(35:UInt8)∉r:=λ e=>h35 (by simp[e])
  by_cases w:c=32\/c=9
  .rw[mH _ _ _ w]
   (have J:bT c.toNat=some 0:=by rcases w with rfl|rfl<;>decide);rw[lh,J,zd,ur];exact AE n r true nm K y
  by_cases C:(46:UInt8)∈(c::r:List UInt8)
  .by_cases u:c=46
   .subst u
    exact Qp r y b nm
   have D:(46:UInt8)∈r:=by
    rcases List.mem_cons.1 C with e|e
    .exact absurd e.symm u
    exact e
   by_cases F:c=99/\∃q,r=46::q
   .obtain ⟨rfl,q,rfl⟩:=F
    exact Ts q (λ e=>y (by simp[e])) b nm
   exact O3 h35 w u F D b nm
  rcases qJ (c::r).length (c::r) b zn C h35 with ⟨A,G,v,I⟩|⟨G,v|⟨L,v,E⟩⟩
  .rw[G,v]
   exact LJ nm I
  .rw[G,v]
   rfl
  rw[G,v]
  match L,v,E with
  | [],_,E=>obtain ⟨j,a,b,H,_⟩:=E;simp at H
  | p::l,v,E=>
   show eV nm (p::l)=E4;simp only[eV];rw[Tn (pI _ 0 [] _ v (Or.inl rfl)) E];rfl
def nu (c:UInt8):Prop:=c=32\/c=9
def xL:∀(n:Nat) (L:List UInt8) (b:Bool) (t:aI) (T:List aI),L.length<=n->(35:UInt8)∉L->aW L b=some (t::T)->
    ∃bl d r k v m,L=bl++d::r/\(∀c∈bl,nu c)/\cD d r=some (k,v,m)/\t.kind=k/\t.text=d::r.take m/\aW (r.drop m) false=some T
 | n,[],b,t,T,_,_,h=>by rw[ol]at h;cases h
 | 0,c::r,_,_,_,h,_,_=>by simp at h
 | n+1,c::r,b,t,T,hl,h35,h=>by
  have q:c≠35:=λ e=>h35 (by simp[e])
  have A:(35:UInt8)∉r:=λ e=>h35 (by simp[e])
  by_cases j:c=32\/c=9
  .rw[mH _ _ _ j]at h
   (obtain ⟨bl,d,E,k,v,m,e,D,u,w,y,C⟩:=xL n r true t T (by simpa using hl) A h);(refine ⟨c::bl,d,E,k,v,m,by rw[e];rfl,λ x hx=>?_,u,w,y,C⟩);rcases List.mem_cons.1 hx with rfl|hx
   .exact j
   exact D x hx
  cases u:cD c r with
  | none=>rw[iO _ _ _ q j u]at h;cases h
  | some x=>
   obtain ⟨k,v,m⟩:=x;rw[jO _ _ _ q j _ _ _ u]at h
   cases hT:aW (r.drop m) false with
   | none=>rw[hT]at h;cases h
   | some T'=>
    rw[hT]at h;(injection h with h);(injection h with w y);subst y;exact ⟨[],c,r,k,v,m,rfl,λ x hx=>(by cases hx),u,by rw[<-w],by rw[<-w],hT⟩
def zR:∀(n:Nat) (L:List UInt8) (p:Pc) (q:List Pc),L.length<=n->aZ L 0 []=some (p::q)->
    ∃bl d r k,L=bl++d::r/\(∀c∈bl,nu c)/\¬nu d/\bT d.toNat=some k/\p=(k,d::r.takeWhile λ c=>aX k c.toNat)/\aZ (r.dropWhile λ c=>aX k c.toNat) 0 []=some q
 | n,[],p,q,_,h=>by cases h
 | 0,c::r,_,_,h,_=>by simp at h
 | n+1,c::r,p,q,hl,h=>by
  rw[lh]at h
  cases hb:bT c.toNat with
  | none=>rw[hb]at h;cases h
  | some k'=>
   rw[hb,zd]at h;by_cases j:c=32\/c=9
   .have w:bT c.toNat=some 0:=by rcases j with rfl|rfl<;>decide
    rw[w]at hb;(injection hb with hb);subst hb;rw[ur]at h;(obtain ⟨bl,d,F,k,e,u,v,C,D,E⟩:=zR n r p q (by simpa using hl) h);(refine ⟨c::bl,d,F,k,by rw[e];rfl,λ x hx=>?_,v,C,D,E⟩);rcases List.mem_cons.1 hx with rfl|hx
    .exact j
    exact u x hx
   have A:k'≠0:=by
    rintro rfl;unfold bT at hb
    split at hb
    .injection hb with hb;omega
    split at hb
    .injection hb with hb;omega
    split at hb
    .injection hb with hb;omega
    split at hb
    .rename_i hx
     apply j;simp only[Bool.or_eq_true,beq_iff_eq]at hx;rcases hx with hx|hx
     .exact Or.inl (iM (n:=32) hx)
     exact Or.inr (iM (n:=9) hx)
    cases hb
   rw[ot]at h
   cases he:dO k' ([c]++r.takeWhile λ c=>aX k' c.toNat) with
   | none=>rw[he]at h;cases h
   | some es=>
    have y:es=[(k',c::r.takeWhile λ c=>aX k' c.toNat)]:=by
     unfold dO at he;rw[aC A]at he
     split at he
     .injection he with he
      exact he.symm
     cases he
    rw[he,y,zd]at h
    cases hz:aZ (r.dropWhile λ c=>aX k' c.toNat) 0 [] with
    | none=>rw[hz]at h;cases h
    | some l=>
     rw[hz]at h;(injection h with h);(injection h with u v);exact ⟨[],c,r,k',rfl,λ x hx=>(by cases hx),j,hb,u.symm,by rw[hz,<-v];rfl⟩
def Q0 (h:(46:UInt8)∈t):eX 1 t=false:=by
 have:=Lib.contains_iff_indexByte t 46;have j:t.contains 46=true:=by simpa using h
 rw[j]at this;simp[eX,<-this]
def rS (L W S:List UInt8):Prop:=∃b1 b2,L=b1++(W++(b2++58::S))/\(∀c∈b1,nu c)/\(∀c∈b2,nu c)/\(∀c∈W,aY c=true)/\∃c q,W=c::q/\bJ c.toNat=true
def xX:∀(bl L:List UInt8) (b:Bool),(∀c∈bl,nu c)->∃j,aW (bl++L) b=aW L j
 | [],L,b,_=>⟨b,rfl⟩
 | c::bl,L,b,h=>by
  obtain ⟨j,e⟩:=xX bl L true (λ x hx=>h x (by simp[hx]))
  exact ⟨j,by rw[List.cons_append,mH _ _ _ (h c (by simp)),e]⟩
def zr:∀(bl L:List UInt8),(∀c∈bl,nu c)->aZ (bl++L) 0 []=aZ L 0 []
 | [],L,_=>rfl
 | c::bl,L,h=>by
  have j:bT c.toNat=some 0:=by rcases h c (by simp) with rfl|rfl<;>decide
  rw[List.cons_append,lh,j,zd,ur];exact zr bl L (λ x hx=>h x (by simp[hx]))
def VP (h:nu c):aX 1 c.toNat=false/\aY c=false:=by
 rcases h with rfl|rfl<;>decide
def E0 {S:List UInt8} (h:∀c∈b2,nu c):∃c q,b2++58::S=c::q/\aX 1 c.toNat=false/\aY c=false:=by
 match b2,h with
 | [],_=>exact ⟨58,S,rfl,by decide,by decide⟩
 | c::b2,h=>exact ⟨c,_,rfl,VP (h c (by simp))⟩
def Qw {S:List UInt8} (h:rS L W S) (b):∃u b2,aW L b=(aW S false).map λ T=>⟨119,W,0,u⟩::⟨58,[58],0,b2⟩::T:=by
 obtain ⟨bl,b2,rfl,w,j,A,E⟩:=h;obtain ⟨x,e⟩:=xX bl (W++(b2++58::S)) b w;obtain ⟨y,v⟩:=xX b2 (58::S) false j;obtain ⟨c,q,D,_,C⟩:=E0 (S:=S) j;refine ⟨x,y,?_⟩;rw[e,yv A E (Or.inr ⟨c,q,D,C⟩) x,v,jO 58 S y (by decide) (by decide) 58 0 0 (qe 58 S (by simp))]
 simp only[List.drop_zero,List.take_zero];cases aW S false<;>rfl
def R8 {S:List UInt8} (h:rS L W S):aZ L 0 []=(aZ S 0 []).map λ T=>(1,W)::(3,[58])::T:=by
 obtain ⟨bl,b2,rfl,C,j,D,c,q,rfl,F⟩:=h;obtain ⟨d,z,u,v,_⟩:=E0 (S:=S) j;have w:∀x∈q,aX 1 x.toNat=true:=λ x hx=>CY (D x (by simp[hx]))
 have y:(q++(b2++58::S)).takeWhile (λ c=>aX 1 c.toNat)=q:=by
  rw[List.takeWhile_append_of_pos w,u];simp[List.takeWhile_cons,v]
 have A:(q++(b2++58::S)).dropWhile (λ c=>aX 1 c.toNat)=b2++58::S:=by
  rw[List.dropWhile_append_of_pos w,u];simp[List.dropWhile_cons,v]
 have E:bT c.toNat=some 1:=by simp[bT,F]
 rw[zr bl _ C,List.cons_append,yq E,y,A,zr b2 _ j,lh,show bT ((58:UInt8).toNat:Int)=some 3 by decide,zd,ot,(uM S).1,(uM S).2]
 have G:dO 3 ([58]++[])=some [(3,[58])]:=by decide
 rw[G,zd];cases aZ S 0 []<;>rfl
def Kg {b:Bool} {t c:aI} {l:List aI} (j:(35:UInt8)∉L) (h:aW L b=some (t::c::l)) (J:t.kind=119) (K:c.kind=58):∃S,rS L t.text S:=by
 obtain ⟨bl,d,r,k,v,m,rfl,N,P,F,w,M⟩:=xL _ L b t (c::l) zn j h;have O:k=119:=by rw[<-F,J]
 subst O;obtain ⟨E,u,_⟩:=EO P;have q:(35:UInt8)∉r.drop m:=λ e=>j (by have:=List.mem_of_mem_drop e;simp[this])
 obtain ⟨b2,d2,r2,Q,T,R,G,y,D,H,_,_⟩:=xL _ (r.drop m) false c l zn q M;have C:Q=58:=by rw[<-H,K]
 subst C;have A:=iM (n:=58) (yG D (by decide) (by decide)).1
 subst A
 have I:r=r.takeWhile aY++(b2++58::r2):=by
  have:r=r.takeWhile aY++r.dropWhile aY:=(List.takeWhile_append_dropWhile).symm;rw[<-sV,<-u,G]at this;exact this
 refine ⟨r2,bl,b2,?_,N,y,?_,?_⟩
 .rw[w,u,ll]
  conv=>lhs;rw[I]
  rfl
 .rw[w,u,ll]
  intro x hx;rcases List.mem_cons.1 hx with rfl|hx
  .simp[aY,E]
  exact mi aY r x hx
 rw[w,u,ll];exact ⟨d,_,rfl,E⟩
def Lx {p q:Pc} {l:List Pc} (h:aZ L 0 []=some (p::q::l)) (u:eX p.1 p.2=true) (C:q.2=[58]):∃S,rS L p.2 S:=by
 obtain ⟨bl,d,r,k,rfl,H,J,j,rfl,G⟩:=zR _ L p (q::l) zn h;simp only at u
 have A:k=1:=by
  unfold eX at u;simp only[Bool.and_eq_true,beq_iff_eq]at u;exact u.1.1
 subst A
 have v:(46:UInt8)∉(d::r.takeWhile λ c=>aX 1 c.toNat:List UInt8):=λ I=>by
  rw[Q0 I]at u;cases u
 have D:bJ d.toNat=true:=by
  unfold bT at j
  split at j
  .rename_i hx
   simp only[Bool.or_eq_true,beq_iff_eq]at hx;rcases hx with hx|hx
   .exact hx
   exact absurd (by rw[iM (n:=46) hx];simp) v
  split at j
  .injection j with j;omega
  split at j
  .injection j with j;omega
  split at j
  .injection j with j;omega
  cases j
 obtain ⟨E,M⟩:=rv r (λ e=>v (by simp[e]))
 obtain ⟨b2,d2,r2,N,F,w,_,_,K,_⟩:=zR _ _ q l zn G
 have y:d2=58:=by
  rw[K]at C;injection C
 subst y;refine ⟨r2,bl,b2,?_,H,w,?_,d,_,rfl,D⟩
 .have:r=r.takeWhile (λ c=>aX 1 c.toNat)++r.dropWhile (λ c=>aX 1 c.toNat):=(List.takeWhile_append_dropWhile).symm
  rw[F]at this
  conv=>lhs;rw[this]
  rfl
 rw[<-E];intro x hx;rcases List.mem_cons.1 hx with rfl|hx
 .simp[aY,D]
 exact mi aY r x hx
def Lh (r) (h:gQ r) (i) (tg):dF r 3 [58] i tg=none:=by
 rcases h with rfl|rfl|rfl|rfl|rfl|rfl|rfl|rfl<;>rfl
def N4 {nm:ByteArray} {l:List Pc} {q:Pc} (y:q∈l) (u:q.1=3) (v:q.2=[58]):cL nm l=([],4):=by
 have h:∀F:List UInt8,(∀x∈F,gQ x)->∀i tg,bM F l i tg=none:=λ F hF i tg=>sc _ _ _ _ ⟨q,y,λ x hx i tg=>by rw[u,v];exact Lh x (hF x hx) i tg⟩
 unfold cL
 split
 .exact uN (rU (λ k w=>h _ (qC (iH k w)) _ _))
 split
 .exact yn (h _ (by unfold gQ;decide) _ _)
 split
 .unfold j8
  rw[h _ (by unfold gQ;decide)]
 have j:cN nm l=(jZ,4):=by
  unfold cN
  cases hn:eY nm with
  | none=>rfl
  | some s=>
   simp only;rw[h _ (yD hn).1]
 rw[j];rfl
def Sr (T:List aI):pV ([],(cZ T).1,(cZ T).2)=p9 [] (cZ T):=by
 unfold p9;by_cases h:(cZ T).2=0
 .rw[zt h];unfold pV;rw[h]
 rw[aC h]
 have:(cZ T).1=[]:=by
  cases T with
  | nil=>rfl
  | cons t T=>exact Rl t T h
 unfold pV;rw[this];rfl
def PO (L) (b) (u:(35:UInt8)∉L):
    (match aZ L 0 [] with|none=>([],[],4)|some l=>iK l)=pV (match aW L b with|none=>([],[],4)|some T=>rO T):=by
 by_cases H:∃W S,rS L W S
 .obtain ⟨W,S,F⟩:=H
  obtain ⟨D,b2,A⟩:=Qw F b;rw[R8 F,A]
  have C:(35:UInt8)∉S:=by
   obtain ⟨x,y,rfl,_⟩:=F;exact λ e=>u (by simp[e])
  obtain ⟨_,_,_,_,_,P,Q⟩:=F;have J:=AE S.length S false W zn C;have K:(⟨119,W,0,D⟩:aI).S.size=W.length:=by show W.toArray.size=_;simp
  have v:eX 1 W=decide ((119:Int)=119/\(⟨119,W,0,D⟩:aI).S.size<=8):=GA (t:=⟨119,W,0,D⟩) (Or.inl ⟨rfl,P,Q⟩);rw[K]at v;have N:∀T,rO (⟨119,W,0,D⟩::⟨58,[58],0,b2⟩::T)=if 8<W.length then ([],[],4) else if (cZ T).2=0 then (W,(cZ T).1,0) else ([],[],(cZ T).2):=λ T=>rfl
  by_cases h8:8<W.length
  .have w:eX 1 W=false:=by rw[v];exact decide_eq_false (λ h=>by omega)
   have M:∀o:Option (List Pc),(match o.map λ T=>((1,W):Pc)::(3,[58])::T with|none=>(([],[],4):List UInt8×List cQ×Int)|some l=>iK l)=([],[],4):=λ o=>by
    cases o with
    | none=>rfl
    | some l=>
     simp only[zm,iK];rw[w];rfl
   refine (M _).trans ?_
   cases aW S false with
   | none=>rfl
   | some T=>
    simp only[zm];rw[N,zt h8];rfl
  have w:eX 1 W=true:=by rw[v];exact decide_eq_true ⟨rfl,by omega⟩
  have M:∀o:Option (List Pc),(match o.map λ T=>((1,W):Pc)::(3,[58])::T with|none=>(([],[],4):List UInt8×List cQ×Int)|some l=>iK l)=PS W o:=λ o=>by
   cases o with
   | none=>rfl
   | some l=>
    simp only[zm,iK];rw[w];rfl
  refine (M _).trans ?_;rw[J]
  cases aW S false with
  | none=>rfl
  | some T=>
   simp only[zm];rw[N,aC h8];show p9 W (cZ T)=_;unfold p9
   split<;>rfl
 have O:pV (match aW L b with|none=>([],[],4)|some T=>rO T)=RS [] (aW L b):=by
  cases hT:aW L b with
  | none=>rfl
  | some T=>
   simp only
   have e:n7 T=(none,T):=by
    match T,hT with
    | [],_=>rfl
    | [t],_=>rfl
    | t::c::l,hT=>
     simp only[n7];rw[aC (λ q=>H (by obtain ⟨S,G⟩:=Kg u hT q.1 q.2;exact ⟨_,S,G⟩))]
   unfold rO;rw[e];exact Sr T
 rw[O,<-AE L.length L b [] zn u]
 cases hq:aZ L 0 [] with
 | none=>rfl
 | some ps=>
  show iK ps=eV [] ps
  match ps,hq with
  | [],_=>rfl
  | [p],_=>rfl
  | p::q::l,hq=>
   simp only[iK];by_cases j:q.2=[58]
   .rw[zt j]
    have v:eX p.1 p.2=false:=by
     cases v:eX p.1 p.2 with
     | false=>rfl
     | true=>exact absurd (by obtain ⟨S,G⟩:=Lx hq v j;exact ⟨_,S,G⟩) H
    have I:q.1=3:=by
     (obtain ⟨c,r,E,A⟩:=pI L 0 [] _ hq (Or.inl rfl) q (by simp));rw[j]at E;(injection E with E _);subst E;(have:bT ((58:UInt8).toNat:Int)=some 3:=by decide);rw[this]at A;(injection A with A);exact A.symm
    rw[v];simp only[eV];(rw[N4 (q:=q) (by simp) I j]);rfl
   rw[aC j]
def OX (L):bH L=pV (kV L):=by
 obtain ⟨j,e,u,h⟩:=EI L
 have q:aW L false=aW (Lib.cut L [35]).1 false:=by
  conv=>lhs;rw[e]
  exact vf u _ _ false zn
 unfold bH kV;rw[q];exact PO _ false h
