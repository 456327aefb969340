import Derived.Lib.ItoaMem
import Derived.Lib.IndexAny
import Derived.Lib.IndexLaws
import Derived.Test.YtbmcofdodfcnnaaGreatDoorGQ
set_option linter.all false
set_option maxHeartbeats 0
set_option maxRecDepth 100000
namespace Go
variable {rest r l T t : List UInt8} {c x : UInt8} {v num : Int} {b : Bool} {m kd : Nat}
def Aj {P:UInt8->Bool} (h:P 35=false) {rest:List UInt8} (u:rest=[]\/∃q,rest=35::q):∀L:List UInt8,(L++rest).takeWhile P=L.takeWhile P
 | []=>by rcases u with rfl|⟨q,rfl⟩<;>simp[h]
 | c::L=>by
  by_cases j:P c=true
  .simp[j,Aj h u L]
  simp[j]
def Ek {f:UInt8->Bool} (h:f 35=false) (j:rest=[]\/∃q,rest=35::q) (L):((L++rest).head?.map f=some true)↔(L.head?.map f=some true):=by
 cases L with
 | nil=>rcases j with rfl|⟨q,rfl⟩<;>simp[h]
 | cons c L=>simp
def AJ (P:UInt8->Bool) (L:List UInt8):(L.takeWhile P).length<=L.length:=List.Sublist.length_le (List.takeWhile_sublist _)
def Fc (h:rest=[]\/∃q,rest=35::q) (c) (L):cD c (L++rest)=cD c L:=by
 have j:=Aj (P:=aY) rfl h L;have u:=Aj (P:=dig) rfl h L;have v:=Ek (f:=dig) rfl h L;have w:=Ek (f:=λ d=>bJ d.toNat) rfl h (L.drop (L.takeWhile dig).length)
 have y:(L++rest).drop (L.takeWhile dig).length=L.drop (L.takeWhile dig).length++rest:=List.drop_append_of_le_length (AJ _ _);unfold cD;simp only[j,u,v,y,w]
def QH {k:Int} {n:Nat} (h:cD c r=some (k,v,n)):n<=r.length:=by
 unfold cD at h;have j:=AJ aY r;have q:=AJ dig r
 repeat' split at h
 all_goals first|(cases h;done)|(simp only[Option.some.injEq,Prod.mk.injEq]at h;omega)
def vf {rest:List UInt8} (w:rest=[]\/∃q,rest=35::q):∀(n:Nat) (L:List UInt8) (b:Bool),L.length<=n->aW (L++rest) b=aW L b
 | n,[],b,_=>by
  rcases w with rfl|⟨q,rfl⟩
  .rfl
  simp only[List.nil_append];rw[sq 35 q b rfl,ol]
 | 0,c::L,b,h=>by simp at h
 | n+1,c::L,b,h=>by
  have A:L.length<=n:=by simpa using h
  by_cases j:c=35
  .rw[List.cons_append,sq _ _ _ j,sq _ _ _ j]
  by_cases u:c=32\/c=9
  .rw[List.cons_append,mH _ _ _ u,mH _ _ _ u,vf w n L true A]
  cases ht:cD c L with
  | none=>rw[List.cons_append,iO _ _ _ j u (by rw[Fc w];exact ht),iO _ _ _ j u ht]
  | some x=>
   obtain ⟨k,v,m⟩:=x;have y:=QH ht
   rw[List.cons_append,jO _ _ _ j u k v m (by rw[Fc w];exact ht),jO _ _ _ j u k v m ht,List.drop_append_of_le_length y,List.take_append_of_le_length y,
    vf w n (L.drop m) false (by simp;omega)]
def E3 (k:Int):∀(l t:List UInt8),aZ l k t=aZ (l.dropWhile λ c=>aX k c.toNat) k (t++l.takeWhile λ c=>aX k c.toNat)
 | [],t=>by simp
 | c::l,t=>by
  by_cases h:aX k c.toNat=true
  .rw[su h,E3 k l (t++[c])]
   simp[h]
  simp[h]
def yp (r):aX 0 r=false:=by simp[aX]
def Lb (r):aX 3 r=false:=by simp[aX]
def ur (l t):aZ l 0 t=aZ l 0 []:=by
 cases l with
 | nil=>rfl
 | cons c l=>simp[aZ,yp,dO]
def Nf (k) (l t) (h:l=[]\/∃c r,l=c::r/\aX k c.toNat=false):aZ l k t=(dO k t).bind λ j=>(aZ l 0 []).map (j++·):=by
 rcases h with rfl|⟨c,r,rfl,q⟩
 .simp only[aZ,uA]
  cases dO k t<;>simp
 simp only[aZ,q,yp,uA,Bool.false_eq_true,if_false,Option.bind_some,List.nil_append]
 cases dO k t with
 | none=>rfl
 | some j=>
  simp only[Option.bind_some]
  cases bT c.toNat with
  | none=>rfl
  | some k'=>simp
def vG (p:UInt8->Bool):∀l:List UInt8,l.dropWhile p=[]\/∃c r,l.dropWhile p=c::r/\p c=false
 | []=>.inl rfl
 | c::l=>by
  by_cases h:p c=true
  .simp only[List.dropWhile_cons,h,if_true];exact vG p l
  right;exact ⟨c,l,by simp[h],by simpa using h⟩
def ot (k) (l t):aZ l k t=(dO k (t++l.takeWhile λ c=>aX k c.toNat)).bind λ h=>(aZ (l.dropWhile λ c=>aX k c.toNat) 0 []).map (h++·):=by
 rw[E3,Nf _ _ _ (vG _ l)]
def lh (c) (r):aZ (c::r) 0 []=(bT c.toNat).bind λ h=>aZ r h [c]:=by
 simp only[aZ,yp,uA,Bool.false_eq_true,if_false,Option.bind_some,List.nil_append]
 cases bT c.toNat with
 | none=>rfl
 | some h=>simp
def qK:∀(l:List UInt8) (k:Int) (t:List UInt8) (A:List Pc),aZ l k t=some A->(46∈l\/(46∈t/\k=1))->∃p∈A,p.1=1/\(46:UInt8)∈p.2
 | [],k,t,A,h,j=>by
  rcases j with j|⟨j,rfl⟩
  .simp at j
  simp only[aZ,dO]at h;simp[jT]at h;subst h;exact ⟨_,List.mem_singleton_self _,rfl,j⟩
 | c::l,k,t,A,h,j=>by
  by_cases q:aX k c.toNat=true
  .rw[su q]at h
   refine qK l k (t++[c]) A h ?_;rcases j with j|⟨j,rfl⟩
   .rcases List.mem_cons.1 j with rfl|j
    .right
     (refine ⟨by simp,?_⟩);unfold aX at q
     split at q
     .assumption
     split at q
     .simp[cA]at q
     cases q
    exact .inl j
   exact .inr ⟨by simp[j],rfl⟩
  have u:aX k c.toNat=false:=by simpa using q
  cases he:dO k t with
  | none=>rw[v8 u he]at h;cases h
  | some ps=>
   cases hb:bT c.toNat with
   | none=>rw[uU u hb]at h;cases h
   | some k'=>
    rw[uw u he hb]at h
    cases hc:aZ l k' [c] with
    | none=>rw[hc]at h;cases h
    | some B=>
     rw[hc]at h;simp only[Option.map_some,Option.some.injEq]at h;subst h;rcases j with j|⟨j,rfl⟩
     .have:46∈l\/((46:UInt8)∈[c]/\k'=1):=by
       rcases List.mem_cons.1 j with rfl|j
       .right
        (refine ⟨by simp,?_⟩);(have e:bT ((46:UInt8).toNat)=some 1:=by decide);rw[e]at hb;cases hb;rfl
       exact .inl j
      obtain ⟨p,y,v,w⟩:=qK l k' [c] B hc this;exact ⟨p,List.mem_append_right _ y,v,w⟩
     simp[dO,jT]at he;subst he;exact ⟨(1,t),by simp,rfl,j⟩
def ck (k:Int):Int:=if k=119 then 1 else if k=105 then 2 else 3
def conv (t:aI):Pc:=(ck t.kind,t.text)
def dB (t:aI):Prop:=
 (t.kind=119/\(∀c∈t.text,aY c=true)/\∃c r,t.text=c::r/\bJ c.toNat=true)\/
 (t.kind=105/\Lib.atoiAll t.text=.ok t.num/\∃c r,t.text=c::r/\bJ c.toNat=false)\/
 ((t.kind=44\/t.kind=40\/t.kind=41\/t.kind=58)/\∃c:UInt8,t.text=[c]/\(c.toNat:Int)=t.kind/\bJ c.toNat=false)
def pb (ps:List Pc):Prop:=∃i a b,ps[i]?=some a/\ps[i+1]?=some b/\a.1=2/\b.1=1
def QB {p:Pc} {j:List Pc} (h:pb j):pb (p::j):=by
 obtain ⟨i,a,b,q,u,v,w⟩:=h;exact ⟨i+1,a,b,by simpa using q,by simpa using u,v,w⟩
def qb (o:Option (List aI)) (q:Option (List Pc)):Prop:=
 (∃A,o=some A/\q=some (A.map conv)/\∀t∈A,dB t)\/(o=none/\(q=none\/∃ps,q=some ps/\pb ps))
def zv {o:Option (List aI)} {q:Option (List Pc)} {t:aI} (y:dB t) (h:qb o q):qb (o.map (t::·)) (q.map (conv t::·)):=by
 rcases h with ⟨A,rfl,rfl,v⟩|⟨rfl,rfl|⟨C,rfl,w⟩⟩
 .left
  exact ⟨t::A,rfl,rfl,λ u j=>by rcases List.mem_cons.1 j with rfl|j;exact y;exact v u j⟩
 .right;exact ⟨rfl,.inl rfl⟩
 right;exact ⟨rfl,.inr ⟨_,rfl,QB w⟩⟩
def Cn:∀(l:List UInt8) (j:Nat) (m:Nat),(∀c∈l,dig c=true)->l.length<=m->j<10^(10-m)->m<=10->∃u:Nat,Lib.parseUint10 j l=.ok u/\(u:Int)=gt j l/\u<10^10
 | [],j,m,_,_,ha,hm=>⟨j,rfl,rfl,Nat.lt_of_lt_of_le ha (Nat.pow_le_pow_right (by omega) (by omega))⟩
 | c::l,j,m,hd,hl,ha,hm=>by
  have w:dig c=true:=hd c (by simp)
  have E:48<=c.toNat/\c.toNat<=57:=by
   unfold dig cA at w;simp at w;omega
  obtain ⟨q,rfl⟩:∃q,m=q+1:=⟨m-1,by simp at hl;omega⟩
  have v:j*10+(c.toNat-48)<10^(10-q):=by
   (have e:10-q=(10-(q+1))+1:=by omega);rw[e,Nat.pow_succ];omega
  have F:10^(10-q)<=10^10:=Nat.pow_le_pow_right (by omega) (by omega)
  obtain ⟨u,A,C,D⟩:=Cn l (j*10+(c.toNat-48)) q (λ d h=>hd d (by simp[h])) (by simpa using hl) v (by omega)
  refine ⟨u,?_,?_,D⟩
  .have G:(10:Nat)^10=10000000000:=by decide
   (have y:10^(10-(q+1))<=10^10:=Nat.pow_le_pow_right (by omega) (by omega));rw[<-A];simp only[Lib.parseUint10];rw[if_pos E,if_neg (by omega),if_neg (by omega)]
  rw[C];simp only[gt];congr 1;omega
def ES (l) (q:∀c∈l,dig c=true) (h:l≠[]) (j:l.length<=10):∃u:Nat,Lib.parseMag l=.ok u/\(u:Int)=gt 0 l/\u<10000000000:=by
 obtain ⟨u,a,b,c⟩:=Cn l 0 10 q j (by decide) (by omega)
 exact ⟨u,by unfold Lib.parseMag;rw[if_neg h];exact a,b,c⟩
def Mq (c) (l) (h:cA c.toNat=true) (q:∀d∈l,dig d=true) (j:l.length+1<=10):Lib.atoiAll (c::l)=.ok (gt 0 (c::l)):=by
 obtain ⟨u,a,b,d⟩:=ES (c::l) (λ x hx=>by rcases List.mem_cons.1 hx with rfl|hx;exact h;exact q x hx) (by simp) (by simpa using j)
 have v:48<=c.toNat/\c.toNat<=57:=by simp[cA]at h;omega
 unfold Lib.atoiAll;simp only[if_neg (show ¬(c.toNat=43\/c.toNat=45) by omega),a]
 rw[if_neg (by omega),if_neg (by omega),if_neg (by omega),b]
def Ll (l) (q:∀d∈l,dig d=true) (h:l≠[]) (j:l.length<=10):Lib.atoiAll (45::l)=.ok (- gt 0 l):=by
 obtain ⟨u,a,b,d⟩:=ES l q h j;have e:((45:UInt8).toNat)=45:=rfl;unfold Lib.atoiAll;simp only[e,or_true,if_true,a];rw[if_neg (by omega),if_neg (by omega),b]
def mi (p:UInt8->Bool) (l:List UInt8):∀c∈l.takeWhile p,p c=true:=λ c h=>by
 have:=List.all_takeWhile (p:=p) (l:=l);exact (List.all_eq_true.1 this) c h
def ll (p:UInt8->Bool) (l:List UInt8):l.take (l.takeWhile p).length=l.takeWhile p:=(List.prefix_iff_eq_take.1 (List.takeWhile_prefix _)).symm
def sV (p:UInt8->Bool):∀l:List UInt8,l.drop (l.takeWhile p).length=l.dropWhile p
 | []=>rfl
 | c::l=>by
  by_cases h:p c=true
  .simp[h,sV p l]
  simp[h]
def F0 (h:46∉l):(l.takeWhile λ c=>aX 1 c.toNat)=l.takeWhile aY/\(l.dropWhile λ c=>aX 1 c.toNat)=l.dropWhile aY:=by
 have v:∀c∈l,aX 1 c.toNat=aY c:=λ c j=>by
  have:c≠46:=λ e=>h (e ▸ j)
  have w:((c.toNat:Int)==46)=false:=by
   apply beq_false_of_ne;intro e;exact this (iM (n:=46) e)
  simp[aX,aY,w]
 clear h
 induction l with
 | nil=>exact ⟨rfl,rfl⟩
 | cons c l ih=>
  have u:=ih (λ d y=>v d (by simp[y]))
  have j:=v c (by simp)
  by_cases q:aY c=true
  .rw[q]at j;simp[q,j,u.1,u.2]
  rw[Bool.not_eq_true]at q;rw[q]at j;simp[q,j]
def Ea (l:List UInt8):(l.takeWhile λ c=>aX 2 c.toNat)=l.takeWhile dig/\(l.dropWhile λ c=>aX 2 c.toNat)=l.dropWhile dig:=⟨rfl,rfl⟩
def uM (l:List UInt8):(l.takeWhile λ c=>aX 3 c.toNat)=[]/\(l.dropWhile λ c=>aX 3 c.toNat)=l:=by
 cases l<;>simp[Lb]
def vX {p:UInt8->Bool} (h:x∉l):x∉l.dropWhile p:=λ hx=>h ((List.dropWhile_sublist p).subset hx)
def Gg (F:(r.takeWhile dig).length=m) (h:c≠35) (j:¬(c=32\/c=9)) (y:bT c.toNat=some 2) (H:bJ c.toNat=false) (w:lB (c::r.takeWhile dig)=false->cD c r=none) (C:lB (c::r.takeWhile dig)=true->((r.drop m).head?.map λ d=>bJ d.toNat)=some true->cD c r=none) (G:lB (c::r.takeWhile dig)=true->((r.drop m).head?.map λ d=>bJ d.toNat)≠some true->cD c r=some (105,num,m)/\Lib.atoiAll (c::r.takeWhile dig)=.ok num) (ih:∀b,qb (aW (r.drop m) b) (aZ (r.drop m) 0 [])):qb (aW (c::r) b) (aZ (c::r) 0 []):=by
 have u:r.drop m=r.dropWhile dig:=by rw[<-F];exact sV dig r
 have I:aZ (c::r) 0 []=(dO 2 (c::r.takeWhile dig)).bind λ J=>(aZ (r.drop m) 0 []).map (J++·):=by
  rw[lh,y,Option.bind_some,ot,(Ea r).1,(Ea r).2,u];rfl
 by_cases hi:lB (c::r.takeWhile dig)=true
 .have L:dO 2 (c::r.takeWhile dig)=some [(2,c::r.takeWhile dig)]:=pE rfl (by simp[jT,hi])
  rw[I,L,Option.bind_some];by_cases v:((r.drop m).head?.map λ d=>bJ d.toNat)=some true
  .rw[iO _ _ _ h j (C hi v)]
   right
   refine ⟨rfl,?_⟩
   cases hcm:aZ (r.drop m) 0 [] with
   | none=>left;rfl
   | some J=>
    right
    refine ⟨_,rfl,?_⟩
    cases hr:r.drop m with
    | nil=>rw[hr]at v;simp at v
    | cons d q=>
     rw[hr]at v hcm;simp at v;(have D:bT d.toNat=some 1:=by simp[bT,v]);rw[lh,D,Option.bind_some,ot]at hcm;(have E:∀t,dO 1 t=some [(1,t)]:=λ t=>pE rfl (by simp[jT]));rw[E,Option.bind_some]at hcm
     cases hq:aZ (q.dropWhile λ c=>aX 1 c.toNat) 0 [] with
     | none=>rw[hq]at hcm;cases hcm
     | some B=>
      rw[hq]at hcm;simp only[Option.map_some,Option.some.injEq]at hcm;subst hcm;exact ⟨0,_,_,rfl,rfl,rfl,rfl⟩
  obtain ⟨N,K⟩:=G hi v;rw[jO _ _ _ h j _ _ _ N]
  have M:dB ⟨105,c::r.take m,num,b⟩:=by
   right;left
   refine ⟨rfl,?_,c,_,rfl,H⟩;show Lib.atoiAll (c::r.take m)=.ok num;rw[<-F,ll];exact K
  have:=zv M (ih false)
  have e:conv ⟨105,c::r.take m,num,b⟩=(2,c::r.takeWhile dig):=by
   show (ck 105,c::r.take m)=_;rw[<-F,ll];rfl
  rw[e]at this;exact this
 have A:lB (c::r.takeWhile dig)=false:=by simpa using hi
 rw[I,zV rfl (by simp[jT,A]),iO _ _ _ h j (w A)]
 right;exact ⟨rfl,.inl rfl⟩
def QO (h:c≠45):Lib.trimPrefix (c::l) [45]=c::l:=by
 unfold Lib.trimPrefix Lib.hasPrefix;have:(45==c)=false:=beq_false_of_ne (λ e=>h e.symm)
 simp[List.isPrefixOf,this]
def Ld (l):Lib.trimPrefix (45::l) [45]=l:=by
 unfold Lib.trimPrefix Lib.hasPrefix;simp[List.isPrefixOf]
def qJ:∀(n:Nat) (L:List UInt8) (b:Bool),L.length<=n->46∉L->35∉L->qb (aW L b) (aZ L 0 [])
 | n,[],b,_,_,_=>by
  rw[ol];left;exact ⟨[],rfl,rfl,λ t h=>by simp at h⟩
 | 0,c::r,b,h,_,_=>by simp at h
 | n+1,c::r,b,h,h46,h35=>by
  have hr:r.length<=n:=by simpa using h
  have G:46∉r:=λ e=>h46 (by simp[e])
  have O:35∉r:=λ e=>h35 (by simp[e])
  have K:c≠46:=λ e=>h46 (by simp[e])
  have y:c≠35:=λ e=>h35 (by simp[e])
  have F:∀m b,qb (aW (r.drop m) b) (aZ (r.drop m) 0 []):=λ m b=>
   qJ n (r.drop m) b (by simp;omega) (λ e=>G (List.mem_of_mem_drop e)) (λ e=>O (List.mem_of_mem_drop e))
  by_cases u:c=32\/c=9
  .rw[mH _ _ _ u]
   (have E:bT c.toNat=some 0:=by rcases u with rfl|rfl<;>decide);rw[lh,E,Option.bind_some,ur];exact qJ n r true hr G O
  by_cases M:bJ c.toNat=true
  .have E:bT c.toNat=some 1:=by simp[bT,M]
   have N:cD c r=some (119,0,(r.takeWhile aY).length):=sy c r M _ rfl;rw[jO _ _ _ y u _ _ _ N,lh,E,Option.bind_some,ot,(F0 G).1,(F0 G).2];(have R:dO 1 ([c]++r.takeWhile aY)=some [(1,c::r.takeWhile aY)]:=pE rfl (by simp[jT]));rw[R,Option.bind_some]
   have T:dB ⟨119,c::r.take (r.takeWhile aY).length,0,b⟩:=by
    left
    refine ⟨rfl,?_,c,_,rfl,M⟩;show ∀d∈c::r.take (r.takeWhile aY).length,aY d=true;rw[ll];intro d w;rcases List.mem_cons.1 w with rfl|w
    .simp[aY,M]
    exact mi aY r d w
   have:=zv T (F (r.takeWhile aY).length false);rw[sV]at this ⊢
   have e:conv ⟨119,c::r.take (r.takeWhile aY).length,0,b⟩=(1,c::r.takeWhile aY):=by
    show (ck 119,c::r.take (r.takeWhile aY).length)=_;rw[ll];rfl
   rw[e]at this;exact this
  have j:bJ c.toNat=false:=by simpa using M
  have P:((c.toNat:Int)==46)=false:=beq_false_of_ne (λ e=>K (iM (n:=46) e))
  by_cases w:cA c.toNat=true
  .have E:bT c.toNat=some 2:=by simp[bT,j,P,w]
   have A:c≠45:=λ e=>by rw[e]at w;exact absurd w (by decide)
   have J:lB (c::r.takeWhile dig)=decide ((r.takeWhile dig).length+1<=10):=by
    unfold lB;rw[QO A];simp
   refine Gg (num:=gt 0 (c::r.take (r.takeWhile dig).length)) rfl y u E j (λ hi=>?_) (λ hi D=>?_) (λ hi D=>?_) (F _)
   .rw[J]at hi;exact xq c r j w _ rfl (by simp at hi;omega)
   .exact Bw c r j w _ rfl D
   rw[J]at hi;(have U:(r.takeWhile dig).length+1<=10:=by simpa using hi);(refine ⟨yr c r j w _ rfl (by omega) D,?_⟩);rw[ll];exact Mq c _ w (mi dig r) U
  have H:cA c.toNat=false:=by simpa using w
  by_cases A:c=45
  .subst A
   have J:lB (45::r.takeWhile dig)=(decide (1<=(r.takeWhile dig).length)&&decide ((r.takeWhile dig).length<=10)):=by
    unfold lB;rw[Ld]
   have I:1<=(r.takeWhile dig).length->r.head?.map dig=some true:=λ D=>by
    cases r with
    | nil=>simp at D
    | cons d q=>
     by_cases Q:dig d=true
     .simp[Q]
     simp[Q]at D
   refine Gg (num:=- gt 0 (r.take (r.takeWhile dig).length)) rfl y u (by decide) j (λ hi=>?_) (λ hi D=>?_) (λ hi D=>?_) (F _)
   .rw[J]at hi
    by_cases C:1<=(r.takeWhile dig).length
    .exact xp r (I C) _ rfl (by simp[C]at hi;omega)
    refine sF 45 r j H (λ hx=>?_) (by decide)
    cases r with
    | nil=>simp at hx
    | cons d q=>
     (have Q:dig d=true:=by simpa using hx.2);simp[Q]at C
   .rw[J]at hi
    (have C:1<=(r.takeWhile dig).length:=by simp at hi;omega);exact Bu r (I C) _ rfl D
   rw[J]at hi;(have C:1<=(r.takeWhile dig).length/\(r.takeWhile dig).length<=10:=by simpa using hi);(refine ⟨zH r (I C.1) _ rfl (by omega) D,?_⟩);rw[ll];exact Ll _ (mi dig r) (λ e=>by rw[e]at C;simp at C) C.2
  have V:((c.toNat:Int)==45)=false:=beq_false_of_ne (λ e=>A (iM (n:=45) e))
  by_cases v:c=44\/c=40\/c=41\/c=58
  .have E:bT c.toNat=some 3:=by rcases v with rfl|rfl|rfl|rfl<;>decide
   (have N:cD c r=some ((c.toNat:Int),0,0):=qe c r (by rcases v with h|h|h|h<;>simp[h]));rw[jO _ _ _ y u _ _ _ N,lh,E,Option.bind_some,ot,(uM r).1,(uM r).2];(have R:dO 3 ([c]++[])=some [(3,[c])]:=pE rfl (by simp[jT]));rw[R,Option.bind_some]
   have T:dB ⟨(c.toNat:Int),c::r.take 0,0,b⟩:=by
    right;right
    (refine ⟨?_,c,by simp,rfl,j⟩);show (c.toNat:Int)=44\/(c.toNat:Int)=40\/(c.toNat:Int)=41\/(c.toNat:Int)=58;rcases v with rfl|rfl|rfl|rfl<;>decide
   have:=zv T (F 0 false)
   have e:conv ⟨(c.toNat:Int),c::r.take 0,0,b⟩=(3,[c]):=by
    show (ck (c.toNat:Int),c::r.take 0)=_;(have:ck (c.toNat:Int)=3:=by rcases v with rfl|rfl|rfl|rfl<;>decide);rw[this];simp
   rw[e]at this;exact this
  have N:cD c r=none:=sF c r j H (λ hx=>A hx.1) (by rintro (h|h|h|h|h);exact v (.inl h);exact v (.inr (.inl h));exact v (.inr (.inr (.inl h)));exact v (.inr (.inr (.inr h)));exact K h)
  have ne:∀m:Nat,c≠UInt8.ofNat m->((c.toNat:Int)==(m:Int))=false:=λ m v=>beq_false_of_ne (λ e=>v (iM e))
  have E:bT c.toNat=none:=by
   (have W:((c.toNat:Int)==44)=false:=ne 44 (λ e=>v (.inl e)));(have X:((c.toNat:Int)==58)=false:=ne 58 (λ e=>v (.inr (.inr (.inr e)))));(have Y:((c.toNat:Int)==40)=false:=ne 40 (λ e=>v (.inr (.inl e))));(have Z:((c.toNat:Int)==41)=false:=ne 41 (λ e=>v (.inr (.inr (.inl e)))));(have a5:((c.toNat:Int)==32)=false:=ne 32 (λ e=>u (.inl e)));(have a6:((c.toNat:Int)==9)=false:=ne 9 (λ e=>u (.inr e)));simp only[bT,j,H,P,V,W,X,Y,Z,a5,a6,Bool.or_self,Bool.false_eq_true,if_false]
  rw[iO _ _ _ y u N,lh,E]
  right;exact ⟨rfl,.inl rfl⟩
def Lu {k:Int} (h:cD c r=some (k,v,m)):∀d∈r.take m,aY d=true\/dig d=true:=by
 unfold cD at h;intro d j
 repeat' split at h
 all_goals first
  | (cases h;done)
  | (simp only[Option.some.injEq,Prod.mk.injEq]at h
     obtain ⟨_,_,rfl⟩:=h
     first
     | (rw[ll]at j;exact .inl (mi _ _ d j))
     | (rw[ll]at j;exact .inr (mi _ _ d j))
     | simp at j)
def oh:∀(n:Nat) (L:List UInt8) (b:Bool) (A:List aI),L.length<=n->46∈L->35∉L->aW L b=some A->∃t∈A,t.kind=46
 | n,[],b,A,_,h,_,_=>by simp at h
 | 0,c::r,b,A,h,_,_,_=>by simp at h
 | n+1,c::r,b,A,h,h46,h35,ht=>by
  have G:r.length<=n:=by simpa using h
  have w:35∉r:=λ e=>h35 (by simp[e])
  have q:c≠35:=λ e=>h35 (by simp[e])
  by_cases j:c=32\/c=9
  .rw[mH _ _ _ j]at ht
   refine oh n r true A G ?_ w ht;rcases List.mem_cons.1 h46 with e|e
   .rcases j with h|h<;>(rw[h]at e;exact absurd e (by decide))
   exact e
  cases hq:cD c r with
  | none=>rw[iO _ _ _ q j hq]at ht;cases ht
  | some x=>
   obtain ⟨k,v,m⟩:=x;rw[jO _ _ _ q j _ _ _ hq]at ht
   cases hB:aW (r.drop m) false with
   | none=>rw[hB]at ht;cases ht
   | some B=>
    rw[hB]at ht;simp only[Option.map_some,Option.some.injEq]at ht;subst ht;by_cases C:c=46
    .subst C
     (rw[qe 46 r (by simp)]at hq);simp only[Option.some.injEq,Prod.mk.injEq]at hq;exact ⟨_,List.mem_cons_self ..,hq.1.symm⟩
    have u:46∈r:=by
     rcases List.mem_cons.1 h46 with e|e
     .exact absurd e.symm C
     exact e
    have y:(46:UInt8)∉r.take m:=λ hx=>by
     have:=Lu hq _ hx;rcases this with h|h<;>exact absurd h (by decide)
    have F:46∈r.drop m:=by
     have:=(List.take_append_drop m r).symm ▸ u;rcases List.mem_append.1 this with e|e
     .exact absurd e y
     exact e
    (obtain ⟨t,D,E⟩:=oh n (r.drop m) false B (by simp;omega) F (λ e=>w (List.mem_of_mem_drop e)) hB);exact ⟨t,by simp[D],E⟩
def Es:∀(l:List UInt8) (a:Int),(∀c∈l,dig c=true)->0<=a->0<=gt a l/\gt a l<(a+1)*10^l.length
 | [],a,_,h0=>by simp[gt];omega
 | c::l,a,h,h0=>by
  have j:=h c (by simp)
  unfold dig cA at j;simp at j;have ih:=Es l (10*a+c.toNat-48) (λ d q=>h d (by simp[q])) (by omega)
  have u:(0:Int)<=10^l.length:=Int.le_of_lt (Int.pow_pos (by decide))
  have v:(10*a+c.toNat-48+1)*10^l.length<=((a+1)*10)*10^l.length:=Int.mul_le_mul_of_nonneg_right (by omega) u
  rw[gt,List.length_cons,Int.pow_succ,Int.mul_comm (10^l.length) 10,<-Int.mul_assoc];omega
def EM (h:∀c∈l,dig c=true) (j:l.length<=10):0<=gt 0 l/\gt 0 l<=10000000000:=by
 have q:=Es l 0 h (by omega)
 have u:(10:Int)^l.length<=10^10:=by
  have:(10:Nat)^l.length<=10^10:=Nat.pow_le_pow_right (by decide) j
  exact_mod_cast this
 have e:(10:Int)^10=10000000000:=by decide
 omega
def Oe {k:Int} {n:Nat} (h:cD c r=some (k,v,n)):-10000000000<=v/\v<=10000000000:=by
 unfold cD at h
 split at h
 .injection h with h;injection h with _ h;injection h with h _;omega
 split at h
 .rename_i hd
  split at h
  .cases h
  split at h
  .cases h
  rename_i hn _;injection h with h;injection h with _ h;injection h with h _
  have:=EM (l:=c::r.takeWhile dig) (λ d j=>by
   rcases List.mem_cons.1 j with rfl|j
   .exact hd
   exact mi dig r d j) (by simp;omega)
  omega
 split at h
 .split at h
  .cases h
  split at h
  .cases h
  rename_i hn _;injection h with h;injection h with _ h;injection h with h _
  have:=EM (l:=r.takeWhile dig) (mi dig r) (by omega)
  omega
 split at h
 .injection h with h;injection h with _ h;injection h with h _;omega
 cases h
def xS:∀(n:Nat) (l:List UInt8) (b:Bool) (T:List aI),j5 n l b=some T->∀t∈T,-10000000000<=t.num/\t.num<=10000000000
 | 0,l,b,T,h=>by
  injection h with h;subst h;intro t j;cases j
 | n+1,[],b,T,h=>by
  injection h with h;subst h;intro t j;cases j
 | n+1,c::r,b,T,h=>by
  simp only[j5]at h
  split at h
  .injection h with h;subst h;intro t j;cases j
  split at h
  .exact xS n r true T h
  split at h
  .cases h
  rename_i k v m hk
  cases hT:j5 n (r.drop m) false with
  | none=>rw[hT]at h;cases h
  | some T'=>
   rw[hT]at h;(injection h with h);subst h;intro t j;rcases List.mem_cons.1 j with rfl|j
   .exact Oe hk
   exact xS n _ false T' hT t j
def xT:∀(n:Nat) (l:List UInt8) (b:Bool) (T:List aI),j5 n l b=some T->T.length<=l.length
 | 0,l,b,T,h=>by
  injection h with h;subst h;simp
 | n+1,[],b,T,h=>by
  injection h with h;subst h;simp
 | n+1,c::r,b,T,h=>by
  simp only[j5]at h
  split at h
  .injection h with h;subst h;simp
  split at h
  .have:=xT n r true T h
   simp;omega
  split at h
  .cases h
  rename_i k v m hk
  cases hT:j5 n (r.drop m) false with
  | none=>rw[hT]at h;cases h
  | some T'=>
   rw[hT]at h;(injection h with h);subst h;have:=xT n _ false T' hT;simp at this ⊢;omega
def Qb {T:List aI} (h:aW l b=some T):∀t∈T,-1099511627776<=t.num/\t.num<=1099511627776:=λ t j=>by
 have:=xS _ l b T h t j;omega
def Lj {T:List aI} (h:aW l b=some T):T.length<=l.length:=xT _ l b T h
def rg (v:Nat):List UInt8:=if v<10 then [120,UInt8.ofNat (48+v)] else [120,UInt8.ofNat (48+v/10),UInt8.ofNat (48+v%10)]
def Fl {v:Nat} (h:v<100):gP (v:Int)=rg v:=by
 unfold gP rg;rw[Lib.itoa_nonneg];by_cases j:v<10
 .rw[if_pos j,Lib.decDigits_one j]
 rw[if_neg j,Lib.decDigits_two j h]
def Rg:∀v,v<32->Lib.hasPrefix (rg v) [120]=true/\Lib.atoiAll (Lib.trimPrefix (rg v) [120])=.ok (v:Int):=by decide
def I1:∀v,v<32->gE 119 ⟨(rg v).toArray⟩=(v:Int):=by decide
def QZ {v:Nat} (h:v<32):dU (rg v)=some (v:Int):=by
 obtain ⟨j,q⟩:=Rg v h;unfold dU;rw[if_pos j,q];simp only;rw[if_pos ⟨by omega,Fl (by omega)⟩]
def GG (q:∀c∈T,aY c=true) (h:dU T=some v):∃u:Nat,u<32/\v=u/\T=rg u:=by
 unfold dU at h
 split at h
 .split at h
  .rename_i w hw
   split at h
   .rename_i hq
    have j:w=v:=Option.some.inj h;rw[j]at hq;by_cases A:0<=v
    .obtain ⟨u,rfl⟩:=Int.eq_ofNat_of_zero_le A
     exact ⟨u,by omega,rfl,by rw[<-hq.2,Fl (by omega)]⟩
    exfalso
    have y:(45:UInt8)∈T:=by
     rw[<-hq.2];unfold gP Lib.itoa;(rw[if_pos (by omega)]);simp
    exact absurd (q 45 y) (by decide)
   cases h
  cases h
 cases h
def Oz (h:¬gE 119 ⟨T.toArray⟩<0):∃u:Nat,u<32/\T=rg u:=by
 unfold gE at h
 split at h
 .rename_i w
  obtain ⟨_,G,H,F,y,I,J⟩:=w;have M:(ByteArray.mk T.toArray).size=T.length:=by simp[ByteArray.size]
  rw[M]at G H y I J
  match T,G,H with
  | [a,b],_,_=>
   have A:B ⟨[a,b].toArray⟩ 0=a:=rfl;rw[A]at F;(have C:a=120:=iM (n:=120) (by omega));(have j:=so y 1 (by omega) (by simp));have v:B ⟨[a,b].toArray⟩ 1=b:=rfl;rw[v]at j;have D:=uY j;(refine ⟨b.toNat-48,by omega,?_⟩);unfold rg;(rw[if_pos (by omega),C,show 48+(b.toNat-48)=b.toNat by omega]);simp
  | [a,b,c],_,_=>
   have A:B ⟨[a,b,c].toArray⟩ 0=a:=rfl;rw[A]at F;(have C:a=120:=iM (n:=120) (by omega));(have j:=so y 1 (by omega) (by simp));(have w:=so y 2 (by omega) (by simp));have v:B ⟨[a,b,c].toArray⟩ 1=b:=rfl;have K:B ⟨[a,b,c].toArray⟩ 2=c:=rfl;rw[v]at j;rw[K]at w;have D:=uY j;have L:=uY w
   have q:dX ⟨[a,b,c].toArray⟩ 1 3=10*(b.toNat-48)+c.toNat-48:=by
    show gt 0 [b,c]=_;simp only[gt];omega
   have E:dX ⟨[a,b,c].toArray⟩ 1 3<=31:=I;rw[q]at E;(have N:b.toNat≠48:=λ e=>J ⟨rfl,by rw[v];exact e⟩);(refine ⟨10*(b.toNat-48)+(c.toNat-48),by omega,?_⟩);unfold rg;(rw[if_neg (by omega),C,show 48+(10*(b.toNat-48)+(c.toNat-48))/10=b.toNat by omega,show 48+(10*(b.toNat-48)+(c.toNat-48))%10=c.toNat by omega]);simp
 exact absurd (by decide) h
def N3 (q:∀c∈T,aY c=true):dU T=if gE 119 ⟨T.toArray⟩<0 then none else some (gE 119 ⟨T.toArray⟩):=by
 by_cases h:gE 119 ⟨T.toArray⟩<0
 .rw[if_pos h]
  cases hp:dU T with
  | none=>rfl
  | some v=>
   obtain ⟨u,j,_,rfl⟩:=GG q hp;rw[I1 u j]at h;omega
 rw[if_neg h];obtain ⟨u,j,rfl⟩:=Oz h;rw[I1 u j];exact QZ j
def M8 {t:aI} (h:dB t):dU t.text=if gE t.kind t.S<0 then none else some (gE t.kind t.S):=by
 rcases h with ⟨j,w,_⟩|hx
 .rw[j];exact N3 w
 have j:t.kind≠119/\∃c r,t.text=c::r/\bJ c.toNat=false:=by
  rcases hx with ⟨j,_,c,r,q,u⟩|⟨j,c,q,_,u⟩
  .exact ⟨by omega,c,r,q,u⟩
  exact ⟨by omega,c,[],q,u⟩
 obtain ⟨j,c,r,A,v⟩:=j;have q:gE t.kind t.S=-1:=nH (λ hx=>j hx.1)
 rw[q,if_pos (by decide)]
 have y:Lib.hasPrefix t.text [120]=false:=by
  rw[A];have:(120==c)=false:=beq_false_of_ne (λ e=>by rw[<-e]at v;exact absurd v (by decide))
  simp[Lib.hasPrefix,List.isPrefixOf,this]
 simp[dU,y]
def DG {t:aI} (h:dB t):gO (ck t.kind) t.text=if t.kind=105 then some t.num else none:=by
 rcases h with ⟨j,_⟩|⟨j,q,_⟩|⟨j,_⟩
 .simp[j,ck,gO]
 .simp[j,ck,gO,q]
 have:ck t.kind=3:=by unfold ck;rw[if_neg (by omega),if_neg (by omega)]
 rw[this,if_neg (by omega)];rfl
def GA {t:aI} (h:dB t):eX (ck t.kind) t.text=decide (t.kind=119/\t.S.size<=8):=by
 have w:t.S.size=t.text.length:=by simp[aI.S,ByteArray.size]
 rw[w];rcases h with ⟨j,u,_⟩|hx
 .have q:(0<=Lib.indexByte t.text 46)=False:=by
   apply eq_false;intro hx;have:=Lib.contains_iff_indexByte t.text 46;rw[decide_eq_true hx]at this;(have v:(46:UInt8)∈t.text:=by simpa using this);exact absurd (u 46 v) (by decide)
  simp[eX,j,ck,q]
 have j:t.kind≠119:=by rcases hx with ⟨j,_⟩|⟨j,_⟩<;>omega
 have:ck t.kind≠1:=by unfold ck;rw[if_neg j];split<;>decide
 simp[eX,j,this]
def Mv {t:aI} (h:dB t) (f) (w:f=44\/f=40\/f=41):(t.text=[f])↔((f.toNat:Int)=t.kind):=by
 have j:bJ f.toNat=false/\((f.toNat:Int)≠119/\(f.toNat:Int)≠105):=by rcases w with rfl|rfl|rfl<;>decide
 rcases h with ⟨y,_,c,r,u,v⟩|⟨y,q,c,r,u,v⟩|⟨y,c,u,E,v⟩
 .constructor
  .intro e;rw[u]at e;cases e;rw[v]at j;exact absurd j.1 (by decide)
  intro e;omega
 .constructor
  .intro e
   rw[e]at q;(have A:(match Lib.atoiAll [44] with | .ok _=>false|_=>true)=true:=by decide);(have C:(match Lib.atoiAll [40] with | .ok _=>false|_=>true)=true:=by decide);(have D:(match Lib.atoiAll [41] with | .ok _=>false|_=>true)=true:=by decide);rcases w with rfl|rfl|rfl
   .rw[q]at A;cases A
   .rw[q]at C;cases C
   rw[q]at D;cases D
  intro e;omega
 rw[u]
 constructor
 .intro e;cases e;exact E
 intro e
 have:c=f:=by
  have:c.toNat=f.toNat:=by omega
  exact UInt8.toNat_inj.1 this
 rw[this]
def Jw {t:aI} (h:dB t) (l:List aI) (F) (rs) (n) (nm):aL (t::l) (114::F) rs n nm=(dU t.text).bind λ v=>aL l F (rs++[v]) n nm:=by
 rw[M8 h];by_cases j:gE t.kind t.S<0
 .rw[CV rfl _ _ _ _ _ _ j,if_pos j];rfl
 rw[Ao rfl _ _ _ _ _ _ j,if_neg j];rfl
def QN {t:aI} (h:dB t) (l:List aI) (F) (rs) (n) (nm):aL (t::l) (105::F) rs n nm=(gO (ck t.kind) t.text).bind λ v=>aL l F rs v nm:=by
 rw[DG h];by_cases j:t.kind=105
 .rw[qY (by decide) (.inl rfl) _ _ _ _ _ _ j,if_pos j];rfl
 rw[if_neg j];exact pJ (by decide) _ _ _ _ _ _ (λ x=>j x.2) (λ x=>absurd x.1 (by decide)) (λ x=>x.2 rfl)
def JC {t:aI} (h:dB t) (f) (j:f=44\/f=40\/f=41) (l:List aI) (F) (rs) (n) (nm):aL (t::l) (f::F) rs n nm=if t.text=[f] then aL l F rs n nm else none:=by
 have y:=Mv h f j;have u:f≠114:=by rcases j with rfl|rfl|rfl<;>decide
 have v:¬((f=105\/f=116)/\t.kind=105):=by rintro ⟨h|h,_⟩<;>(rw[h]at j;exact absurd j (by decide))
 have w:¬(f=116/\t.kind=119/\t.S.size<=8):=by rintro ⟨h,_⟩;rw[h]at j;exact absurd j (by decide)
 have A:f≠105:=by rcases j with rfl|rfl|rfl<;>decide
 by_cases q:t.text=[f]
 .rw[if_pos q,ti u _ _ _ _ _ _ v w (y.1 q) A]
 rw[if_neg q,pJ u _ _ _ _ _ _ v w (λ x=>q (y.2 x.1))]
def Vq {t:aI} (h:dB t) (l:List aI) (F) (rs) (n) (nm):
    aL (t::l) (116::F) rs n nm=if eX (ck t.kind) t.text then aL l F rs n t.S else (gO (ck t.kind) t.text).bind λ v=>aL l F rs v nm:=by
 rw[DG h,GA h];by_cases q:t.kind=105
 .rw[qY (by decide) (.inr rfl) _ _ _ _ _ _ q,if_pos q,decide_eq_false (by rintro ⟨a,_⟩;omega)];rfl
 by_cases j:t.kind=119/\t.S.size<=8
 .rw[Al rfl _ _ _ _ _ _ j.1 j.2,decide_eq_true j];rfl
 rw[decide_eq_false j,if_neg q];refine pJ (by decide) _ _ _ _ _ _ (λ x=>q x.2) (λ x=>j x.2) (λ x=>?_)
 have:t.kind=116:=by have:=x.1;simp at this;omega
 rcases h with ⟨u,_⟩|⟨u,_⟩|⟨u,_⟩<;>omega
def nR (k) (t) (i) (tg):dF 100 k t i tg=(dU t).map λ n=>({ i with rd:=n },tg):=rfl
def oR (k) (t) (i) (tg):dF 115 k t i tg=(dU t).map λ n=>({ i with rs1:=n },tg):=rfl
def tF (k) (t) (i) (tg):dF 116 k t i tg=(dU t).map λ n=>({ i with rs2:=n },tg):=rfl
def GF (k) (t) (i) (tg):dF 105 k t i tg=(gO k t).map λ n=>({ i with imm:=n },tg):=rfl
def II (k) (t) (i) (tg):dF 112 k t i tg=if eX k t then some (i,t) else (gO k t).map λ n=>({ i with imm:=n },tg):=rfl
def jS (k) (t) (i) (tg):dF 44 k t i tg=if t=[44] then some (i,tg) else none:=rfl
def wE (k) (t) (i) (tg):dF 40 k t i tg=if t=[40] then some (i,tg) else none:=rfl
def wI (k) (t) (i) (tg):dF 41 k t i tg=if t=[41] then some (i,tg) else none:=rfl
def iw (k:Nat) (x:List Int×Int×ByteArray):aE×List UInt8:=(fR k x.1 x.2.1,x.2.2.data.toList)
def tO (r) (F) (t:aI) (l:List aI) (i) (tg):bM (r::F) ((t::l).map conv) i tg=(dF r (ck t.kind) t.text i tg).bind λ s=>bM F (l.map conv) s.1 s.2:=rfl
def dC (f) (F) (rs) (n) (nm):aL [] (f::F) rs n nm=none:=by simp[aL]
def Ct (t:aI) (l:List aI) (rs) (n) (nm):aL (t::l) [] rs n nm=none:=by simp[aL]
def eP (r) (F) (i) (tg):bM (r::F) ([].map conv) i tg=none:=rfl
def CN (t:aI) (l:List aI) (i) (tg):bM [] ((t::l).map conv) i tg=none:=rfl
def tS (t:aI):t.S.data.toList=t.text:=by simp[aI.S]
def Bs (i) (tg):bM [] (([]:List aI).map conv) i tg=some (i,tg):=rfl
def PE (g:List Int×Int×ByteArray->aE×List UInt8) (S:List UInt8) (A:List aI) (i:aE) (tg:List UInt8) (F:List UInt8) (rs:List Int) (n:Int) (nm:ByteArray):Prop:=bM S (A.map conv) i tg=(aL A F rs n nm).map g
section
variable {k : Nat} {g : List Int × Int × ByteArray → aE × List UInt8} {S : List UInt8} {A : List aI} {i : aE} {tg F : List UInt8} {rs : List Int} {n : Int} {nm : ByteArray}
def iU {f:aE->Int->aE} (j:∀k t i tg,dF c k t i tg=(dU t).map λ n=>(f i n,tg)) (h:∀t∈A,dB t) (H:∀l v,(∀t∈l,dB t)->PE g S l (f i v) tg F (rs++[v]) n nm):PE g (c::S) A i tg (114::F) rs n nm:=by
 unfold PE
 match A,h with
 | [],_=>rw[dC,eP];rfl
 | t::l,h=>
  rw[tO,j,Jw (h t (by simp))]
  cases dU t.text with
  | none=>rfl
  | some v=>exact H l v λ x hx=>h x (by simp[hx])
def rP (h:∀t∈A,dB t) (H:∀l v,(∀t∈l,dB t)->PE g S l { i with imm:=v } tg F rs v nm):PE g (105::S) A i tg (105::F) rs n nm:=by
 unfold PE
 match A,h with
 | [],_=>rw[dC,eP];rfl
 | t::l,h=>
  rw[tO,GF,QN (h t (by simp))]
  cases gO (ck t.kind) t.text with
  | none=>rfl
  | some v=>exact H l v λ x hx=>h x (by simp[hx])
def jx (u:∀k t i tg,dF c k t i tg=if t=[c] then some (i,tg) else none) (q:c=44\/c=40\/c=41) (h:∀t∈A,dB t) (H:∀l,(∀t∈l,dB t)->PE g S l i tg F rs n nm):PE g (c::S) A i tg (c::F) rs n nm:=by
 unfold PE
 match A,h with
 | [],_=>rw[dC,eP];rfl
 | t::l,h=>
  rw[tO,u,JC (h t (by simp)) c q]
  by_cases j:t.text=[c]
  .rw[if_pos j,if_pos j];exact H l λ x hx=>h x (by simp[hx])
  rw[if_neg j,if_neg j];rfl
def wS (j:∀t∈A,dB t) (H:∀l s,PE g S l i s.data.toList F rs n s) (q:∀l v,PE g S l { i with imm:=v } tg F rs v nm):PE g (112::S) A i tg (116::F) rs n nm:=by
 unfold PE
 match A,j with
 | [],_=>rw[dC,eP];rfl
 | t::l,j=>
  rw[tO,II,Vq (j t (by simp))]
  by_cases h:eX (ck t.kind) t.text=true
  .rw[if_pos h,if_pos h,<-tS];exact H l t.S
  rw[if_neg h,if_neg h]
  cases gO (ck t.kind) t.text with
  | none=>rfl
  | some v=>exact q l v
def jw (h:(i,tg)=g (rs,n,nm)):PE g [] A i tg [] rs n nm:=by
 unfold PE
 cases A with
 | nil=>rw[Bs,tN];exact congrArg some h
 | cons t A=>rw[Ct,CN];rfl
def Bl (h:(row k).kind=73\/(row k).kind=72\/(row k).kind=87) (j:∀t∈A,dB t):PE (iw k) [100,44,115,44,105] A ⟨k+1,0,0,0,0⟩ [] [114,44,114,44,105] [] 0 ⟨#[]⟩:=
 iU nR j λ _ _ j=>jx jS (by simp) j λ _ j=>iU oR j λ _ _ j=>jx jS (by simp) j λ _ j=>rP j λ _ _ _=>jw (by unfold iw;rw[xP k _ _ (by omega)];rfl)
end
def Fp {k:Nat} {A:List aI} (q:k<64) (j:∀t∈A,dB t):bM (eQ (row k).kind) (A.map conv) ⟨k+1,0,0,0,0⟩ []=(aL A (fP (row k).kind) [] 0 ⟨#[]⟩).map (iw k):=by
 rcases kinds k q with h|h|h|h|h|h|h|h|h|h
 all_goals rw[h]
 .show PE (iw k) [100,44,115,44,116] A _ _ [114,44,114,44,114] _ _ _
  exact iU nR j λ _ _ j=>jx jS (by simp) j λ _ j=>iU oR j λ _ _ j=>jx jS (by simp) j λ _ j=>iU tF j λ _ _ _=>jw (by unfold iw;rw[G4 k _ _ h];rfl)
 .exact Bl (.inl h) j
 .show PE (iw k) [100,44,105,40,115,41] A _ _ [114,44,105,40,114,41] _ _ _
  exact iU nR j λ _ _ j=>jx jS (by simp) j λ _ j=>rP j λ _ _ j=>jx wE (by simp) j λ _ j=>iU oR j λ _ _ j=>jx wI (by simp) j λ _ _=>jw (by unfold iw;rw[xP k _ _ (by omega)];rfl)
 .exact Bl (.inr (.inl h)) j
 .exact Bl (.inr (.inr h)) j
 .show PE (iw k) [116,44,105,40,115,41] A _ _ [114,44,105,40,114,41] _ _ _
  exact iU tF j λ _ _ j=>jx jS (by simp) j λ _ j=>rP j λ _ _ j=>jx wE (by simp) j λ _ j=>iU oR j λ _ _ j=>jx wI (by simp) j λ _ _=>jw (by unfold iw;rw[Gc k _ _ h];rfl)
 .show PE (iw k) [115,44,116,44,112] A _ _ [114,44,114,44,116] _ _ _
  exact iU oR j λ _ _ j=>jx jS (by simp) j λ _ j=>iU tF j λ _ _ j=>jx jS (by simp) j λ _ j=>wS j (λ _ _=>jw (by unfold iw;rw[vw k _ _ h];rfl)) λ _ _=>jw (by unfold iw;rw[vw k _ _ h];rfl)
 .show PE (iw k) [100,44,105] A _ _ [114,44,105] _ _ _
  exact iU nR j λ _ _ j=>jx jS (by simp) j λ _ j=>rP j λ _ _ _=>jw (by unfold iw;rw[sU k _ _ (by omega)];rfl)
 .show PE (iw k) [100,44,112] A _ _ [114,44,116] _ _ _
  exact iU nR j λ _ _ j=>jx jS (by simp) j λ _ j=>wS j (λ _ _=>jw (by unfold iw;rw[sU k _ _ (by omega)];rfl)) λ _ _=>jw (by unfold iw;rw[sU k _ _ (by omega)];rfl)
 show PE (iw k) [] A _ _ [] _ _ _;exact jw (by unfold iw;rw[G0 k _ _ h])
def fin (x:aE×ByteArray×Int):aE×Int:=if x.2.2=0 then (x.1,0) else (⟨0,0,0,0,0⟩,x.2.2)
def Dg:∀k,k<64->(row k).name≠[]/\∀c∈(row k).name,bJ c.toNat=true:=by decide
def qv (h:∃d∈T,bJ d.toNat=false):(List.range 64).find? (gW ⟨T.toArray⟩)=none:=by
 obtain ⟨d,j,q⟩:=h;apply lX;intro k w;obtain ⟨_,v⟩:=Dg k w;unfold gW;apply beq_false_of_ne;intro e;rw[ByteArray.toList_eq]at e;have u:(row k).name=T:=by simpa using e
 rw[<-u]at j;rw[v d j]at q;cases q
def tR {nm:ByteArray} {l:List Pc} (h:(List.range 64).find? (gW nm)=none):eR nm l=(⟨0,0,0,0,0⟩,4):=by simp only[eR,h]
def rU {nm:ByteArray} {l:List Pc} (h:∀k,k<64->bM (eQ (row k).kind) l ⟨k+1,0,0,0,0⟩ []=none):eR nm l=(⟨0,0,0,0,0⟩,4):=by
 unfold eR
 cases hf:(List.range 64).find? (gW nm) with
 | none=>rfl
 | some k=>
  have j:k<64:=by rw[List.find?_range_eq_some]at hf;simpa using hf.2.1
  simp only[h k j]
def sc:∀(F:List UInt8) (l:List Pc) (i:aE) (tg:List UInt8),(∃p∈l,∀r∈F,∀i tg,dF r p.1 p.2 i tg=none)->bM F l i tg=none
 | [],[],_,_,h=>by obtain ⟨p,j,_⟩:=h;simp at j
 | [],q::l,_,_,_=>by simp[bM]
 | r::F,[],_,_,_=>by simp[bM]
 | r::F,(k,t)::l,i,tg,h=>by
  obtain ⟨p,j,u⟩:=h;simp only[bM];rcases List.mem_cons.1 j with rfl|j
  .rw[u r (by simp)];rfl
  cases dF r k t i tg with
  | none=>rfl
  | some s=>exact sc F l s.1 s.2 ⟨p,j,λ r v=>u r (by simp[v])⟩
def Cm:∀(l:List UInt8) (j u:Nat),Lib.parseUint10 j l=.ok u->∀c∈l,48<=c.toNat/\c.toNat<=57
 | [],_,_,_,c,q=>by simp at q
 | d::l,j,u,h,c,q=>by
  simp only[Lib.parseUint10]at h
  split at h
  .rename_i hd
   split at h
   .cases h
   split at h
   .cases h
   rcases List.mem_cons.1 q with rfl|q
   .exact hd
   exact Cm l _ u h c q
  cases h
def C9 (h:Lib.atoiAll l=.ok v):(46:UInt8)∉l:=by
 intro j;unfold Lib.atoiAll at h
 cases l with
 | nil=>simp at j
 | cons c r=>
  simp only at h
  have hx:(46:UInt8)∈(if c.toNat=43\/c.toNat=45 then r else c::r):=by
   split
   .rename_i hc
    rcases List.mem_cons.1 j with e|e
    .rw[<-e]at hc;exact absurd hc (by decide)
    exact e
   exact j
  generalize (if c.toNat=43\/c.toNat=45 then r else c::r)=x at h hx
  cases hp:Lib.parseMag x with
  | ok u=>
   unfold Lib.parseMag at hp
   split at hp
   .cases hp
   exact absurd (Cm _ _ _ hp 46 hx) (by decide)
  | _=>rw[hp]at h;cases h
def zE (h:(46:UInt8)∈t) (r) (C:gQ r) (i) (tg):dF r 1 t i tg=none:=by
 have j:dU t=none:=by
  unfold dU
  split
  .rename_i hp
   cases ha:Lib.atoiAll (Lib.trimPrefix t [120]) with
   | ok v=>
    exfalso;refine C9 ha ?_;unfold Lib.trimPrefix;rw[if_pos hp]
    cases t with
    | nil=>simp at h
    | cons c t=>
     rcases List.mem_cons.1 h with e|e
     .rw[<-e]at hp;exact absurd hp (by simp[Lib.hasPrefix,List.isPrefixOf])
     simpa using e
   | _=>rfl
  rfl
 have u:gO 1 t=none:=by simp[gO]
 have w:eX 1 t=false:=by
  have:=Lib.contains_iff_indexByte t 46;have y:t.contains 46=true:=by simpa using h
  rw[y]at this;simp[eX,<-this]
 have q:∀f:UInt8,f≠46->t≠[f]:=λ f A e=>by rw[e]at h;simp at h;exact A h.symm
 rcases C with rfl|rfl|rfl|rfl|rfl|rfl|rfl|rfl
 .rw[nR,j];rfl
 .rw[oR,j];rfl
 .rw[tF,j];rfl
 .rw[GF,u];rfl
 .rw[II,w,u];rfl
 .rw[jS,if_neg (q 44 (by decide))]
 .rw[wE,if_neg (q 40 (by decide))]
 rw[wI,if_neg (q 41 (by decide))]
def qc (ps:List Pc):Prop:=∀p∈ps,∃c r,p.2=c::r/\bT c.toNat=some p.1
def pI:∀(l:List UInt8) (k:Int) (t:List UInt8) (A:List Pc),aZ l k t=some A->(k=0\/∃c r,t=c::r/\bT c.toNat=some k)->qc A
 | [],k,t,A,h,ht=>by
  simp only[aZ,dO]at h
  split at h
  .cases h;intro p w;simp at w
  split at h
  .cases h
   intro p w;rw[List.mem_singleton.1 w];rcases ht with u|⟨c,r,j,v⟩
   .rename_i hk _;exact absurd u hk
   exact ⟨c,r,j,v⟩
  cases h
 | c::l,k,t,A,h,ht=>by
  by_cases y:aX k c.toNat=true
  .rw[su y]at h
   refine pI l k (t++[c]) A h ?_;rcases ht with u|⟨d,r,j,v⟩
   .exact .inl u
   exact .inr ⟨d,r++[c],by rw[j];rfl,v⟩
  have q:aX k c.toNat=false:=by simpa using y
  cases he:dO k t with
  | none=>rw[v8 q he]at h;cases h
  | some ps=>
   cases hb:bT c.toNat with
   | none=>rw[uU q hb]at h;cases h
   | some k'=>
    rw[uw q he hb]at h
    cases hc:aZ l k' [c] with
    | none=>rw[hc]at h;cases h
    | some B=>
     rw[hc]at h;simp only[Option.map_some,Option.some.injEq]at h;subst h;have D:=pI l k' [c] B hc (.inr ⟨c,[],rfl,hb⟩);intro p w;rcases List.mem_append.1 w with j|j
     .unfold dO at he
      split at he
      .cases he;simp at j
      split at he
      .cases he
       rw[List.mem_singleton.1 j];rcases ht with u|⟨d,r,v,C⟩
       .rename_i hk _;exact absurd u hk
       exact ⟨d,r,v,C⟩
      cases he
     exact D p j
abbrev nV (r:UInt8):Prop:=r=44\/r=40\/r=41
def mD:List UInt8->Prop
 | []=>True
 | [_]=>True
 | r::s::F=>(nV r\/nV s)/\mD (s::F)
def vo (h:nG kd):mD (eQ kd):=by
 rcases h with rfl|rfl|rfl|rfl|rfl|rfl|rfl|rfl|rfl|rfl<;>simp[eQ,mD,nV]
def DR {r:UInt8} (j:nV r) {k:Int} {i:aE} {tg:List UInt8} {s:aE×List UInt8} (h:dF r k t i tg=some s):t=[r]:=by
 rcases j with rfl|rfl|rfl
 .rw[jS]at h;split at h;assumption;cases h
 .rw[wE]at h;split at h;assumption;cases h
 rw[wI]at h;split at h;assumption;cases h
def F1 {r:UInt8} (h:nV r):bT r.toNat=some 3:=by rcases h with rfl|rfl|rfl<;>decide
def oe:∀(F:List UInt8) (l:List Pc) (i:aE) (tg:List UInt8),mD F->qc l->pb l->bM F l i tg=none
 | [],[],_,_,_,_,h=>by obtain ⟨j,a,b,w,_⟩:=h;simp at w
 | [],q::l,_,_,_,_,_=>by simp[bM]
 | r::F,[],_,_,_,_,_=>by simp[bM]
 | r::F,(k,t)::l,i,tg,hF,hw,ha=>by
  simp only[bM]
  cases hs:dF r k t i tg with
  | none=>rfl
  | some s=>
   simp only[Option.bind_some];obtain ⟨j,a,b,w,C,D,E⟩:=ha;have A:qc l:=λ p K=>hw p (by simp[K])
   cases j with
   | zero=>
    simp at w;have L:k=2:=by rw[<-w]at D;exact D
    have G:¬nV r:=λ y=>by
     have e:=DR y hs;(obtain ⟨c,q,u,v⟩:=hw (k,t) (by simp));simp only at u v;rw[e]at u;(cases u);rw[F1 y]at v;cases v;omega
    cases l with
    | nil=>simp at C
    | cons p l=>
     obtain ⟨H,I⟩:=p;simp at C;have J:H=1:=by rw[<-C]at E;exact E
     cases F with
     | nil=>rfl
     | cons r' F=>
      (have y:nV r':=by rcases hF.1 with h|h;exact absurd h G;exact h);simp only[bM]
      cases hs':dF r' H I s.1 s.2 with
      | none=>rfl
      | some s'=>
       exfalso;have e:=DR y hs';(obtain ⟨c,q,u,v⟩:=A (H,I) (by simp));simp only at u v;rw[e]at u;(cases u);rw[F1 y]at v;cases v;omega
   | succ j=>
    refine oe F l s.1 s.2 ?_ A ⟨j,a,b,by simpa using w,by simpa using C,D,E⟩
    cases F with
    | nil=>trivial
    | cons r' F=>exact hF.2
def Py {s:ByteArray} (h:¬2000<s.size) (j:¬0<=Lib.indexByte s.data.toList 10):iT s=match aZ (Lib.cut s.data.toList [35]).1 0 [] with
    | none=>(⟨0,0,0,0,0⟩,4)
    | some []=>(⟨0,0,0,0,0⟩,4)
    | some (p::l)=>eR ⟨p.2.toArray⟩ l:=by
 unfold iT;rw[if_neg (by rintro (a|a);exact h a;exact j a)]
 rfl
def VA {p:Pc} {l:List Pc} (y:qc (p::l)) (D:pb (p::l)):eR ⟨p.2.toArray⟩ l=(⟨0,0,0,0,0⟩,4):=by
 obtain ⟨j,a,b,u,A,w,C⟩:=D
 cases j with
 | zero=>
  simp at u;obtain ⟨c,r,v,h⟩:=y p (by simp)
  apply tR;apply qv;refine ⟨c,by rw[v];simp,?_⟩
  rw[u,w]at h
  cases hs:bJ c.toNat with
  | false=>rfl
  | true=>simp[bT,hs]at h
 | succ j=>
  apply rU;intro k E;exact oe _ _ _ _ (vo (iH k E)) (λ q F=>y q (by simp[F])) ⟨j,a,b,by simpa using u,by simpa using A,w,C⟩
def Ir {p:Pc} {l:List Pc} (h:∃q∈p::l,q.1=1/\(46:UInt8)∈q.2):eR ⟨p.2.toArray⟩ l=(⟨0,0,0,0,0⟩,4):=by
 obtain ⟨q,j,v,u⟩:=h;rcases List.mem_cons.1 j with rfl|j
 .apply tR
  apply qv;exact ⟨46,u,by decide⟩
 apply rU;intro k w;refine sc _ _ _ _ ⟨q,j,λ r y i tg=>?_⟩
 rw[v];exact zE u r (qC (iH k w) r y) i tg
def qH:∀(l:List aI) (F:List UInt8) (rs:List Int) (n:Int) (nm:ByteArray),(∃t∈l,t.kind=46)->(∀f∈F,f≠46)->aL l F rs n nm=none
 | [],_,_,_,_,h,_=>by obtain ⟨t,y,_⟩:=h;simp at y
 | t::l,[],_,_,_,_,_=>by simp[aL]
 | t::l,f::F,rs,n,nm,h,hF=>by
  obtain ⟨u,j,q⟩:=h;rcases List.mem_cons.1 j with rfl|j
  .have w:gE u.kind u.S=-1:=nH (λ hx=>by omega)
   simp only[aL]
   split
   .rw[if_pos (by rw[w];decide)]
   (rw[if_neg (λ x=>by omega),if_neg (λ x=>by omega),if_neg]);intro x;(have:f=46:=iM (n:=46) (by rw[x.1,q];rfl));exact hF f (by simp) this
  have ih:=λ rs n nm=>qH l F rs n nm ⟨u,j,q⟩ (λ g v=>hF g (by simp[v]))
  simp only[aL]
  repeat' split
  all_goals first|rfl|exact ih _ _ _
def BG (kd):∀f∈fP kd,f≠46:=by
 unfold fP
 repeat' split
 all_goals decide
def xR {t:aI} {A:List aI} (h:∃u∈t::A,u.kind=46):plain t A false=(⟨0,0,0,0,0⟩,⟨#[]⟩,4):=by
 obtain ⟨u,j,q⟩:=h
 cases hf:(List.range 64).find? (named t) with
 | none=>exact nz hf A false
 | some k=>
  rcases List.mem_cons.1 j with rfl|j
  .exfalso
   have:=List.find?_some hf;simp[named,q]at this
  exact qo hf (qH _ _ _ _ _ ⟨u,j,q⟩ (BG _)) false
def xy {t:aI} (h:dB t):(List.range 64).find? (named t)=(List.range 64).find? (gW ⟨t.text.toArray⟩):=by
 rcases h with ⟨j,_⟩|hx
 .congr 1
  funext k;unfold named gW;rw[j,ByteArray.toList_eq];have e:(ByteArray.mk t.text.toArray).data.toList=t.text:=by simp
  rw[e];simp only[beq_self_eq_true,Bool.true_and];exact BEq.comm
 have j:t.kind≠119/\∃d∈t.text,bJ d.toNat=false:=by
  rcases hx with ⟨j,_,c,r,q,u⟩|⟨j,c,q,_,u⟩
  .exact ⟨by omega,c,by rw[q];simp,u⟩
  exact ⟨by omega,c,by rw[q];simp,u⟩
 rw[qv j.2];apply lX;intro k _;have:(t.kind==119)=false:=beq_false_of_ne j.1;simp[named,this]
def wR (h:dU T=some v) (j:∀c∈T,aY c=true):0<=v/\v<=31:=by
 obtain ⟨u,q,rfl,_⟩:=GG j h;omega
def uO:∀(l:List aI) (F:List UInt8) (rs:List Int) (n:Int) (nm:ByteArray) (rs':List Int) (w:Int) (j:ByteArray),aL l F rs n nm=some (rs',w,j)->(∀v∈rs,0<=v/\v<=31)->(∀v∈rs',0<=v/\v<=31)
 | [],[],rs,n,nm,rs',w,j,h,hr=>by simp[aL]at h;rw[<-h.1];exact hr
 | [],f::F,_,_,_,_,_,_,h,_=>by simp[aL]at h
 | t::l,[],_,_,_,_,_,_,h,_=>by simp[aL]at h
 | t::l,f::F,rs,n,nm,rs',w,j,h,hr=>by
  simp only[aL]at h
  split at h
  .split at h
   .cases h
   rename_i hv;(refine uO l F _ _ _ _ _ _ h (λ v u=>?_));rcases List.mem_append.1 u with q|q
   .exact hr v q
   rw[List.mem_singleton.1 q];have:=Gs t.kind t.S;omega
  repeat' split at h
  all_goals first|exact uO l F _ _ _ _ _ _ h hr|cases h
def un:∀(l:List aI) (F:List UInt8) (rs:List Int) (n:Int) (nm:ByteArray) (rs':List Int) (u:Int) (j:ByteArray),aL l F rs n nm=some (rs',u,j)->(∀f∈F,f≠116)->j=nm
 | [],[],rs,n,nm,rs',u,j,h,_=>by simp[aL]at h;exact h.2.2.symm
 | [],f::F,_,_,_,_,_,_,h,_=>by simp[aL]at h
 | t::l,[],_,_,_,_,_,_,h,_=>by simp[aL]at h
 | t::l,f::F,rs,n,nm,rs',u,j,h,hF=>by
  have q:∀g∈F,g≠116:=λ g w=>hF g (by simp[w])
  have v:f≠116:=hF f (by simp)
  simp only[aL]at h
  split at h
  .split at h
   .cases h
   exact un l F _ _ _ _ _ _ h q
  split at h
  .exact un l F _ _ _ _ _ _ h q
  split at h
  .rename_i hx;exact absurd hx.1 v
  split at h
  .exact un l F _ _ _ _ _ _ h q
  cases h
def qi:∀(l:List aI) (G:List UInt8) (rs:List Int) (n:Int) (nm:ByteArray) (rs':List Int) (u:Int) (j:ByteArray),aL l (G++[116]) rs n nm=some (rs',u,j)->(∀f∈G,f≠105/\f≠116)->u=n\/j=nm
 | [],[],rs,n,nm,rs',u,j,h,_=>by simp[aL]at h
 | [],f::F,_,_,_,_,_,_,h,_=>by simp[aL]at h
 | t::l,[],rs,n,nm,rs',u,j,h,_=>by
  simp only[List.nil_append,aL]at h
  split at h
  .rename_i hx;exact absurd hx (by decide)
  split at h
  .cases l with
   | nil=>simp[aL]at h;exact .inr h.2.2.symm
   | cons a l=>simp[aL]at h
  split at h
  .cases l with
   | nil=>simp[aL]at h;exact .inl h.2.1.symm
   | cons a l=>simp[aL]at h
  split at h
  .cases l with
   | nil=>simp[aL]at h;exact .inl h.2.1.symm
   | cons a l=>simp[aL]at h
  cases h
 | t::l,f::G,rs,n,nm,rs',u,j,h,hG=>by
  have q:∀g∈G,g≠105/\g≠116:=λ g w=>hG g (by simp[w])
  have v:=hG f (by simp)
  simp only[List.cons_append,aL]at h
  split at h
  .split at h
   .cases h
   exact qi l G _ _ _ _ _ _ h q
  split at h
  .rename_i hx;rcases hx.1 with e|e;exact absurd e v.1;exact absurd e v.2
  split at h
  .rename_i hx;exact absurd hx.1 v.2
  split at h
  .exact qi l G _ _ _ _ _ _ h q
  cases h
def zQ {rs:List Int} (h:∀v∈rs,0<=v/\v<=31) (i):0<=rs.getD i 0/\rs.getD i 0<=31:=by
 rw[List.getD_eq_getElem?_getD]
 cases hq:rs[i]? with
 | none=>simp
 | some v=>exact h v (List.mem_of_getElem? hq)
def K2 {k:Nat} (C:k<64) {A:List aI} {rs:List Int} {n:Int} {nm:ByteArray} (h:aL A (fP (row k).kind) [] 0 ⟨#[]⟩=some (rs,n,nm)) (u:nm.data.toList≠[]):right (fR k rs n)=true:=by
 have D:=uO _ _ _ _ _ _ _ _ h (λ v E=>by simp at E)
 have F:=zQ D 0;have G:=zQ D 1
 have j:(∀f∈fP (row k).kind,f≠116)->False:=λ hF=>by
  have:=un _ _ _ _ _ _ _ _ h hF;rw[this]at u;exact u rfl
 rcases kinds k C with q|q|q|q|q|q|q|q|q|q
 .exact (j (by rw[q];decide)).elim
 .exact (j (by rw[q];decide)).elim
 .exact (j (by rw[q];decide)).elim
 .exact (j (by rw[q];decide)).elim
 .exact (j (by rw[q];decide)).elim
 .exact (j (by rw[q];decide)).elim
 .have w:n=0:=by
   rw[q]at h;rcases qi A [114,44,114,44] [] 0 ⟨#[]⟩ rs n nm h (by decide) with e|e
   .exact e
   rw[e]at u;exact absurd rfl u
  rw[vw k _ _ q,w,dJ _ _ _ _ _ C,q];generalize rs.getD 0 0=x at *;generalize rs.getD 1 0=y at *;simp[has,cK,bU,cW];omega
 .exact (j (by rw[q];decide)).elim
 .have w:n=0:=by
   rw[q]at h;rcases qi A [114,44] [] 0 ⟨#[]⟩ rs n nm h (by decide) with e|e
   .exact e
   rw[e]at u;exact absurd rfl u
  rw[sU k _ _ (.inr q),w,dJ _ _ _ _ _ C,q];generalize rs.getD 0 0=x at *;generalize rs.getD 1 0=y at *;simp[has,cK,bU,cW];omega
 exact (j (by rw[q];decide)).elim
def D8 {t:aI} {A:List aI} (h:∀u∈t::A,dB u):eR ⟨t.text.toArray⟩ (A.map conv)=(if (plain t A false).2.2=0 then ((plain t A false).1,0) else (⟨0,0,0,0,0⟩,(plain t A false).2.2)):=by
 have G:=h t (by simp)
 have F:∀u∈A,dB u:=λ u H=>h u (by simp[H])
 have E:=xy G
 cases hf:(List.range 64).find? (named t) with
 | none=>
  rw[nz hf A false,tR (by rw[<-E];exact hf)]
  rfl
 | some k=>
  have D:k<64:=by rw[List.find?_range_eq_some]at hf;simpa using hf.2.1
  have q:(List.range 64).find? (gW ⟨t.text.toArray⟩)=some k:=by rw[<-E];exact hf
  have w:=Fp D F
  cases hq:aL A (fP (row k).kind) [] 0 ⟨#[]⟩ with
  | none=>
   rw[hq]at w;rw[qo hf hq false];simp only[eR,q];rw[w];rfl
  | some x=>
   obtain ⟨rs,n,nm⟩:=x;rw[hq]at w;have v:bM (eQ (row k).kind) (A.map conv) ⟨k+1,0,0,0,0⟩ []=some (fR k rs n,nm.data.toList):=w;by_cases j:nm.data.toList=[]
   .have C:nm.toList.isEmpty=true:=by rw[ByteArray.toList_eq,j];rfl
    rw[xB hf hq (.inl C)];simp only[eR,q];rw[v];simp only[j,if_true];by_cases y:right (fR k rs n)=true
    .rw[if_pos y,if_pos y,if_pos rfl]
    rw[if_neg y,if_neg y,if_neg (by decide)]
   have C:nm.toList.isEmpty=false:=by
    rw[ByteArray.toList_eq]
    cases hl:nm.data.toList with
    | nil=>exact absurd hl j
    | cons a b=>rfl
   rw[BJ hf hq C];simp only[eR,q];rw[v];simp only;rw[if_pos (K2 D hq j),if_neg j];rfl
def G6 (s):(0<aR s 10 s.size)↔(10:UInt8)∈s.data.toList:=by
 have y:∀k,k<=s.size->((0<aR s 10 k)↔∃j,j<k/\B s j=10):=by
  intro k
  induction k with
  | zero=>intro _;simp[aR]
  | succ k ih=>
   intro E;(have v:=ih (by omega));have D:=(mh s 10 k).1;simp only[aR]
   constructor
   .intro h
    split at h
    .rename_i hq;exact ⟨k,by omega,iM (n:=10) hq⟩
    (obtain ⟨j,w,q⟩:=v.1 (by omega));exact ⟨j,by omega,q⟩
   rintro ⟨j,w,q⟩;by_cases e:j=k
   .subst e
    rw[if_pos (by rw[q];rfl)];omega
   have:=v.2 ⟨j,by omega,q⟩
   split<;>omega
 rw[y s.size (Nat.le_refl _)]
 constructor
 .rintro ⟨j,w,q⟩
  rw[<-iF s j w]at q;rw[<-q];show s.data[j]∈s.data.toList;exact Array.mem_toList_iff.2 (Array.getElem_mem _)
 intro h;obtain ⟨j,C,A⟩:=List.getElem_of_mem h;have u:j<s.size:=by simpa using C
 refine ⟨j,u,?_⟩;rw[<-iF s j u,<-A];rfl
def EI (l):∃rest,l=(Lib.cut l [35]).1++rest/\(rest=[]\/∃q,rest=35::q)/\(35:UInt8)∉(Lib.cut l [35]).1:=by
 unfold Lib.cut;rw[Lib.index_one];by_cases h:0<=Lib.indexByte l 35
 .rw[if_pos h]
  obtain ⟨o,D⟩:=Int.eq_ofNat_of_zero_le h;obtain ⟨v,E⟩:=Lib.indexByte_some D;rw[D];simp only[Int.toNat_natCast]
  have u:o<l.length:=by
   rcases Nat.lt_or_ge o l.length with h|h
   .exact h
   rw[List.getElem?_eq_none h]at v;cases v
  refine ⟨l.drop o,(List.take_append_drop o l).symm,.inr ⟨l.drop (o+1),?_⟩,λ C=>?_⟩
  .rw[List.drop_eq_getElem_cons u]
   rw[List.getElem?_eq_getElem u]at v;rw[Option.some.inj v]
  obtain ⟨j,y,w⟩:=List.getElem_of_mem C;have A:j<o:=by simp at y;omega
  refine E j A ?_;rw[List.getElem_take]at w;rw[List.getElem?_eq_getElem (by omega),w]
 rw[if_neg h];refine ⟨[],by simp,.inl rfl,λ C=>?_⟩
 have:=Lib.indexByte_ge l 35;have F:Lib.indexByte l 35=-1:=by omega
 obtain ⟨j,y,w⟩:=List.getElem_of_mem C;exact Lib.indexByte_none F j (by rw[List.getElem?_eq_getElem y,w])
def Ty (s):iT s=rd s:=by
 by_cases j:2000<s.size
 .rw[FJ j];unfold iT;rw[if_pos (.inl j)]
 by_cases C:0<=Lib.indexByte s.data.toList 10
 .have G:(10:UInt8)∈s.data.toList:=by
   have:=Lib.contains_iff_indexByte s.data.toList 10;rw[decide_eq_true C]at this;simpa using this
  have y:=(G6 s).2 G;have e:iT s=(⟨0,0,0,0,0⟩,4):=by unfold iT;rw[if_pos (.inr C)]
  rw[e]
  cases ht:aW s.data.toList false with
  | none=>rw[vH j ht]
  | some A=>
   cases A with
   | nil=>rw[wz j ht]
   | cons t l=>rw[Ip j ht y]
 have y:¬0<aR s 10 s.size:=λ hx=>by
  have G:=(G6 s).1 hx;have:=Lib.contains_iff_indexByte s.data.toList 10;rw[decide_eq_false C]at this;have F:s.data.toList.contains 10=true:=by simpa using G
  rw[F]at this;cases this
 rw[Py j C];obtain ⟨rest,M,N,v⟩:=EI s.data.toList
 have h:aW s.data.toList false=aW (Lib.cut s.data.toList [35]).1 false:=by
  conv=>lhs;rw[M]
  exact vf N _ _ _ (Nat.le_refl _)
 generalize (Lib.cut s.data.toList [35]).1=L at *;by_cases u:(46:UInt8)∈L
 .have H:rd s=(⟨0,0,0,0,0⟩,4):=by
   cases ht:aW L false with
   | none=>exact vH j (h.trans ht)
   | some A=>
    cases A with
    | nil=>exact wz j (h.trans ht)
    | cons t l=>
     have J:=xR (oh _ L false _ (Nat.le_refl _) u v ht);rw[Aw j (h.trans ht) y (by rw[J];decide),J]
  rw[H]
  cases hcm:aZ L 0 [] with
  | none=>rfl
  | some I=>
   cases I with
   | nil=>rfl
   | cons p l=>exact Ir (qK L 0 [] _ hcm (.inl u))
 rcases qJ _ L false (Nat.le_refl _) u v with ⟨A,w,q,K⟩|⟨w,q⟩
 .rw[q]
  cases A with
  | nil=>rw[wz j (h.trans w)];rfl
  | cons t l=>
   show eR ⟨t.text.toArray⟩ (l.map conv)=_;rw[D8 K];by_cases D:(plain t l false).2.2=0
   .rw[if_pos D,IC j (h.trans w) y D]
   rw[if_neg D,Aw j (h.trans w) y D]
 rw[vH j (h.trans w)];rcases q with q|⟨I,q,E⟩
 .rw[q]
 rw[q]
 cases I with
 | nil=>rfl
 | cons p l=>exact VA (pI L 0 [] _ q (.inl rfl)) E
