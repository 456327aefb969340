import Derived.Test.YtbmcofdodfcnnaaGreatDoorGRA
import Derived.Test.YtbmcofdodfcnnaaGreatDoorGXF
import Derived.Test.YtbmcofdodfcnnaaGreatDoorGW41
import Derived.Test.YtbmcofdodfcnnaaGreatDoorGW29
set_option linter.all false
set_option maxHeartbeats 400000000
set_option maxRecDepth 100000
namespace Pn
open Go
theorem c2B:∀(l cur:List UInt8),(10:UInt8)∉l->lnR cur l=[cur++l]
 | [],cur,_=>by simp[lnR]
 | c::l,cur,h=>by
  have hc:c≠10:=fun e=>h (by simp[e])
  rw[lnR,if_neg hc,c2B l _ (fun e=>h (by simp[e]))]
  simp
theorem c25:∀(T r cur:List UInt8),(10:UInt8)∉T->lnR cur (T++10::r)=(cur++T)::lnR [] r
 | [],r,cur,_=>by simp[lnR]
 | c::T,r,cur,h=>by
  have hc:c≠10:=fun e=>h (by simp[e])
  rw[List.cons_append,lnR,if_neg hc,c25 T r _ (fun e=>h (by simp[e]))]
  simp
theorem b4M:∀(l:List UInt8),(10:UInt8)∈l->∃T r,l=T++10::r/\(10:UInt8)∉T
 | [],h=>by cases h
 | c::l,h=>by
  by_cases hc:c=10
  ·exact ⟨[],l,by rw[hc];rfl,by simp⟩
  ·have h2:(10:UInt8)∈l:=by
    rcases List.mem_cons.1 h with e|e
    ·exact absurd e.symm hc
    ·exact e
   obtain ⟨T,r,e,hT⟩:=b4M l h2;(refine ⟨c::T,r,by rw[e];rfl,fun hm=>?_⟩);rcases List.mem_cons.1 hm with e|e
   ·exact hc e.symm
   ·exact hT e
theorem b2o:∀(n:Nat) (l:List UInt8),l.length<=n->Lib.splitK [10] 0 (Lib.count l [10]) l=lnR [] l
 | 0,l,h=>by
  have:l=[]:=List.eq_nil_of_length_eq_zero (by omega)
  subst this;rw[Lib.count_one];rfl
 | n+1,l,h=>by
  by_cases h10:(10:UInt8)∈l
  ·obtain ⟨T,r,rfl,hT⟩:=b4M l h10
   (have hT':∀c∈T,c≠10:=fun c hc e=>hT (by rw[<-e];exact hc));have ih:=b2o n r (by simp at h;omega)
   have hc:Lib.count (T++10::r) [10]=Lib.count r [10]+1:=by
    rw[Lib.count_one,Lib.count_one,List.count_append,List.count_cons_self,List.count_eq_zero.2 hT];omega
   (rw[hc,Lib.splitK,c24 T r 10 hT',if_neg (by simp)]);(have e2:(T++10::r).drop ((T.length:Int).toNat+([10]:List UInt8).length)=r:=by simp);rw[e2,ih,c25 T r [] hT];simp
  ·rw[Lib.count_one,List.count_eq_zero.2 h10,c2B l [] h10]
   rfl
structure b2A (p:Rp):Prop where
 bt:p.bt.length<=4
 sh:p.sh=true->p.tg=[]/\p.bt=[]/\(a0q p.ins).2=0
 da:p.bt≠[]->p.tg=[]
 tg:p.tg≠[]->∃k:Nat,k<64/\p.ins.op=(k:Int)+1/\((row k).kind=66\/(row k).kind=74)/\p.ins.imm=0/\right p.ins=true
 ri:p.bt=[]->right p.ins=true
theorem c5V {k:Nat} (hk:k<64) (h:(116:UInt8)∈a0B (row k).kind):((row k).kind=66\/(row k).kind=74)/\∃G,a0B (row k).kind=G++[116]/\∀f∈G,f≠105/\f≠116:=by
 rcases kinds k hk with e|e|e|e|e|e|e|e|e|e
 all_goals rw[e]at h ⊢
 all_goals first
  | exact absurd h (by decide)
  | exact ⟨by decide,[114,44,114,44],rfl,by decide⟩
  | exact ⟨by decide,[114,44],rfl,by decide⟩
theorem b1W {k:Nat} {rs:List Int} (h:(row k).kind=66\/(row k).kind=74):(a2m k rs 0).imm=0/\(a2m k rs 0).op=(k:Int)+1:=by
 unfold a2m;rcases h with h|h<;>rw[h]<;>exact ⟨rfl,rfl⟩
theorem b1j {t:Tok} {l:List Tok} {tg:Bool} (h:(plain t l tg).2.2=0):b2A ⟨(plain t l tg).1,(plain t l tg).2.1.data.toList,false,[]⟩/\right (plain t l tg).1=true:=by
 cases hf:(List.range 64).find? (named t) with
 | none=>rw[a1b hf]at h;exact absurd h (show ¬((4:Int)=0) by decide)
 | some k=>
  have hk64:k<64:=by have:=List.mem_of_find?_eq_some hf;simpa using this
  cases hop:a0r l (a0B (row k).kind) [] 0 ⟨#[]⟩ with
  | none=>rw[a2S hf hop]at h;exact absurd h (show ¬((4:Int)=0) by decide)
  | some x=>
   obtain ⟨rs,n,nm⟩:=x
   have hpl:plain t l tg=(a2m k rs n,nm,0)/\right (a2m k rs n)=true:=by
    unfold plain at h ⊢;rw[hf]at h ⊢;simp only[hop]at h ⊢
    split at h
    ·exact absurd h (show ¬((4:Int)=0) by decide)
    ·split at h
     ·rename_i h1 h2
      rw[if_neg h1,if_pos h2];exact ⟨rfl,h2⟩
     ·exact absurd h (show ¬((5:Int)=0) by decide)
   rw[hpl.1];refine ⟨⟨by simp,fun h=>(by cases h),fun h=>absurd rfl h,fun hn=>?_,fun _=>hpl.2⟩,hpl.2⟩
   have h116:(116:UInt8)∈a0B (row k).kind:=Classical.byContradiction (fun hc=>hn (by
    show nm.data.toList=[];rw[a5A _ _ _ _ _ _ _ _ hop hc]))
   obtain ⟨hkd,G,hG,hGn⟩:=c5V hk64 h116
   have h0:n=0:=by
    rw[hG]at hop;rcases a2p _ G _ _ _ _ _ _ hop hGn with e|e
    ·exact e
    ·exact absurd (by show nm.data.toList=[];rw[e]) hn
   subst h0;exact ⟨k,hk64,(b1W hkd).2,hkd,(b1W hkd).1,hpl.2⟩
theorem a8e {t:Tok} {l:List Tok} (h:(plain t l false).2.2=0):(plain t l false).2.1.data.toList=[]:=by
 unfold plain at h ⊢
 split at h
 ·exact absurd h (show ¬((4:Int)=0) by decide)
 ·rename_i k hf
  split at h
  ·exact absurd h (show ¬((4:Int)=0) by decide)
  ·rename_i rs n nm hop
   split at h
   ·exact absurd h (show ¬((4:Int)=0) by decide)
   ·rename_i h1
    (have hnm:nm.data.toList=[]:=Classical.byContradiction (fun hc=>h1 ⟨hc,rfl⟩));simp only[hnm,ne_eq,not_true_eq_false,false_and,if_false]
    split<;>exact hnm
theorem b2F {r n:Int} (hr:0<=r/\r<=31) (hn:¬(n < -2147483648\/2147483647<n)):∀p∈a4p r n,right p.ins=true/\p.tg=[]/\p.data=[]:=by
 have i29:∀m:Int,-2048<=m/\m<=2047->right ⟨29,r,0,0,m⟩=true:=fun m hm=>by
  show right ⟨(28:Nat)+1,r,0,0,m⟩=true;rw[a0d _ _ _ _ _ (by decide)]
  have hk:(row 28).kind=73:=rfl;rw[hk];simp[has,a0e,a0p,a0j];omega
 have i38:∀m:Int,-2048<=m/\m<=2047->right ⟨38,r,r,0,m⟩=true:=fun m hm=>by
  show right ⟨(37:Nat)+1,r,r,0,m⟩=true;rw[a0d _ _ _ _ _ (by decide)]
  have hk:(row 37).kind=73:=rfl;rw[hk];simp[has,a0e,a0p,a0j];omega
 have i60:∀m:Int,-524288<=m/\m<=524287->right ⟨60,r,0,0,m⟩=true:=fun m hm=>by
  show right ⟨(59:Nat)+1,r,0,0,m⟩=true;rw[a0d _ _ _ _ _ (by decide)]
  have hk:(row 59).kind=85:=rfl;rw[hk];simp[has,a0e,a0p,a0j];omega
 intro p hp;unfold a4p at hp;have hlo:-2048<=a5Z n/\a5Z n<=2047:=by unfold a5Z;omega
 split at hp
 ·rename_i he
  rw[List.mem_singleton.1 hp];exact ⟨i29 n (by omega),rfl,rfl⟩
 ·rcases List.mem_cons.1 hp with rfl|hp
  ·refine ⟨i60 _ ?_,rfl,rfl⟩
   unfold c1S;unfold a5Z at *
   split<;>omega
  ·split at hp
   ·cases hp
   ·rw[List.mem_singleton.1 hp]
    exact ⟨i38 _ hlo,rfl,rfl⟩
theorem c7I {T F:List UInt8} (h:b6y T=some F) (ht:(116:UInt8)∈F):(T=[98,101,113,122]\/T=[98,110,101,122]\/T=[106])/\∃G,F=G++[116]/\∀f∈G,f≠105/\f≠116:=by
 unfold b6y at h
 repeat' split at h
 all_goals first
  | (injection h with h;subst h;first
      | exact absurd ht (by decide)
      | exact ⟨Or.inl (by assumption),[114,44],rfl,by decide⟩
      | exact ⟨Or.inr (Or.inl (by assumption)),[114,44],rfl,by decide⟩
      | exact ⟨Or.inr (Or.inr (by assumption)),[],rfl,by decide⟩)
  | cases h
theorem c6R (t:Tok) (l:List Tok):∀p∈(a3d t l).1,b2A p:=by
 intro p hp;unfold a3d at hp
 split at hp
 ·cases hp
 ·rename_i F hF
  cases hop:a0r l F [] 0 ⟨#[]⟩ with
  | none=>rw[hop]at hp;cases hp
  | some x=>
   obtain ⟨rs,n,nm⟩:=x;rw[hop]at hp;by_cases hk:t.kind=119
   ·rw[a1y hk]at hp
    split at hp
    ·unfold a6y at hp
     split at hp
     ·cases hp
     ·rename_i hn
      obtain ⟨y,hy,rfl⟩:=List.mem_map.1 hp;(have hb:=a7M _ _ _ _ _ _ _ _ hop (fun v hv=>by cases hv));obtain ⟨h1,h2,h3⟩:=b2F (b28 hb 0) hn y hy;exact ⟨by show y.data.length<=4;rw[h3];simp,fun h=>(by cases h),fun h=>absurd h3 h,fun h=>absurd h2 h,fun _=>h1⟩
    ·split at hp
     ·rename_i hli hr
      rw[List.mem_singleton.1 hp];refine ⟨by simp,fun h=>(by cases h),fun h=>absurd rfl h,fun hn=>?_,fun _=>hr⟩
      have h116:(116:UInt8)∈F:=Classical.byContradiction (fun hc=>hn (by
       show nm.data.toList=[];rw[a5A _ _ _ _ _ _ _ _ hop hc]))
      obtain ⟨hT,G,hG,hGn⟩:=c7I hF h116
      have h0:n=0:=by
       rw[hG]at hop;rcases a2p _ G _ _ _ _ _ _ hop hGn with e|e
       ·exact e
       ·exact absurd (by show nm.data.toList=[];rw[e]) hn
      subst h0;rcases hT with e|e|e
      ·refine ⟨53,by decide,?_,Or.inl rfl,?_,hr⟩<;>rw[e]<;>rfl
      ·refine ⟨54,by decide,?_,Or.inl rfl,?_,hr⟩<;>rw[e]<;>rfl
      ·refine ⟨61,by decide,?_,Or.inr rfl,?_,hr⟩<;>rw[e]<;>rfl
     ·cases hp
   ·rw[a6x hk]at hp
    cases hp
theorem c2H (T:List Tok):∀p∈(stL T).1,b2A p:=by
 match T with
 | []=>intro p hp;cases hp
 | t::l=>
  intro p hp;have hb:=b8s (t::l) p hp;simp only[stL]at hp;unfold stR at hp
  split at hp
  ·split at hp
   ·rename_i u r
    unfold cR at hp
    split at hp
    ·rename_i h0
     split at hp
     ·rename_i hs
      rw[List.mem_singleton.1 hp];rw[a1p]at hs;obtain ⟨h1,h2⟩:=b1j h0;exact ⟨by simp,fun _=>⟨a8e h0,rfl,hs⟩,fun h=>absurd rfl h,fun h=>absurd (a8e h0) h,fun _=>h2⟩
     ·cases hp
    ·cases hp
   ·cases hp
  ·unfold stN at hp
   split at hp
   ·rename_i h0
    rw[List.mem_singleton.1 hp];exact (b1j h0).1
   ·split at hp
    ·cases hp
    ·unfold a7j at hp
     split at hp
     ·unfold b1L at hp
      split at hp
      ·cases hp
      ·split at hp
       ·cases hp
       ·unfold a6T at hp
        split at hp
        ·cases hp
        ·split at hp
         ·cases hp
         ·split at hp
          ·cases hp
          ·rename_i hz _
           have hp':=List.mem_singleton.1 hp;subst hp';(refine ⟨hb,fun h=>(by cases h),fun _=>rfl,fun h=>absurd rfl h,fun h=>?_⟩);have h:=congrArg List.length h;simp only[a2d,List.length_nil]at h;exact absurd h hz
     ·exact c6R t l p hp
theorem b3F:∀(n:Nat) (L:List UInt8) (b:Bool) (T:List Tok),a4t n L b=some T->∀t∈T,t.text≠[]
 | 0,l,b,T,h=>by
  injection h with h;subst h;intro t ht;cases ht
 | n+1,[],b,T,h=>by
  injection h with h;subst h;intro t ht;cases ht
 | n+1,c::r,b,T,h=>by
  simp only[a4t]at h
  split at h
  ·injection h with h;subst h;intro t ht;cases ht
  ·split at h
   ·exact b3F n r true T h
   ·split at h
    ·cases h
    ·rename_i k v m hk
     cases hT:a4t n (r.drop m) false with
     | none=>rw[hT]at h;cases h
     | some T'=>
      rw[hT]at h;(injection h with h);subst h;intro t ht;rcases List.mem_cons.1 ht with rfl|ht
      ·simp
      ·exact b3F n _ false T' hT t ht
theorem c0M (L:List UInt8) (n:Nat) (nms:List (ByteArray×Nat)):a1s L n nms =
    if (lnL L).2.2=0 then (if (lnL L).1=[] then (((lnL L).2.1,nms),0) else if nms.any (fun x=>x.1.toList==(lnL L).1) then (([],nms),6) else (((lnL L).2.1,nms++[(⟨(lnL L).1.toArray⟩,n)]),0)) else (([],nms),(lnL L).2.2):=by
 unfold a1s lnL
 cases hT:a00 L false with
 | none=>rfl
 | some T=>
  simp only;unfold lnT
  cases hl:b9W T with
  | mk o l=>
   cases o with
   | none=>simp only[if_true]
   | some t=>
    have htx:t.text≠[]:=by
     refine b3F _ L false T hT t ?_
     match T,hl with
     | [],hl=>cases hl
     | [_],hl=>cases hl
     | a::c::l',hl=>
      simp only[b9W]at hl
      split at hl
      ·injection hl with hl _
       (injection hl with hl);rw[<-hl];simp
      ·injection hl with hl _
       cases hl
    simp only;by_cases h8:8<t.text.length
    ·rw[if_pos h8,if_pos h8]
     rfl
    ·rw[if_neg h8,if_neg h8]
     by_cases h0:(stL l).2=0
     ·simp only[if_pos h0,if_true]
      rw[if_neg htx];(have hS:t.S.toList=t.text:=by rw[ByteArray.toList_eq];simp[Tok.S]);rw[hS];rfl
     ·simp only[if_neg h0]
def a4w (ps:List (Rp×Int)):List Qt:=ps.map fun p=>⟨a3D p.1,p.2,0⟩
def toN (nms:List (ByteArray×Nat)):List (List UInt8×Nat):=nms.map fun x=>(x.1.data.toList,x.2)
theorem b5l (nm:List UInt8):∀nms:List (ByteArray×Nat),((toN nms).lookup nm).isSome=nms.any fun x=>x.1.toList==nm
 | []=>rfl
 | x::nms=>by
  have ih:=b5l nm nms;unfold toN at ih ⊢;rw[List.map_cons,List.lookup_cons,List.any_cons]
  have e:(nm==x.1.data.toList)=(x.1.toList==nm):=by
   rw[ByteArray.toList_eq,Bool.eq_iff_iff];simp only[beq_iff_eq];exact eq_comm
  rw[e]
  cases x.1.toList==nm with
  | true=>rfl
  | false=>simpa using ih
theorem b3a (L:List UInt8) (n:Nat) (ps:List (Rp×Int)) (nms:List (ByteArray×Nat)):a8Y L ((n:Int)+1) (a4w ps) (toN nms) =
    if (a1s L ps.length nms).2=0 then (0,a4w (ps++(a1s L ps.length nms).1.1.map fun p=>(p,(n:Int)+1)),toN (a1s L ps.length nms).1.2) else ((a1s L ps.length nms).2,a4w ps,toN nms):=by
 rw[c0M];unfold a8Y;rw[c1Q];unfold c4T;simp only;have hlen:(a4w ps).length=ps.length:=by simp[a4w]
 have hm:∀q:List Rp,a4w ps++(q.map a3D).map (fun p=>(⟨p,(n:Int)+1,0⟩:Qt))=a4w (ps++q.map fun p=>(p,(n:Int)+1)):=fun q=>by
  unfold a4w;rw[List.map_append,List.map_map,List.map_map];rfl
 by_cases h0:(lnL L).2.2=0
 ·rw[if_pos h0,if_pos h0]
  by_cases h1:(lnL L).1=[]
  ·rw[if_pos h1,if_pos h1]
   simp only[if_true,hm]
  ·rw[if_neg h1,if_neg h1,b5l]
   by_cases h2:(nms.any fun x=>x.1.toList==(lnL L).1)=true
   ·rw[if_pos h2,if_pos h2]
    rfl
   ·rw[if_neg h2,if_neg h2]
    simp only[if_true,hm,hlen];unfold toN;rw[List.map_append];simp
 ·rw[if_neg h0,if_neg h0]
  simp only[if_neg h0]
theorem b0J (A:List (List UInt8)):∀k,k<=A.length->(∀j,j<k->a89 A j=0)->∃ps nms,a1G A k=(a4w ps,toN nms)/\a5r A 0 [] []=a5r (A.drop k) k ps nms
 | 0,_,_=>⟨[],[],rfl,rfl⟩
 | k+1,hk,h=>by
  obtain ⟨ps,nms,h1,h2⟩:=b0J A k (by omega) (fun j hj=>h j (by omega))
  have he:=h k (by omega)
  unfold a89 at he;have hg:A.getD k []=A[k]'(by omega):=by rw[List.getD_eq_getElem?_getD,List.getElem?_eq_getElem (show k<A.length by omega)];rfl
  rw[h1,hg,b3a]at he
  have hz:(a1s (A[k]'(by omega)) ps.length nms).2=0:=by
   by_cases hz:(a1s (A[k]'(by omega)) ps.length nms).2=0
   ·exact hz
   ·rw[if_neg hz]at he
    exact he
  refine ⟨ps++(a1s (A[k]'(by omega)) ps.length nms).1.1.map fun p=>(p,(k:Int)+1),(a1s (A[k]'(by omega)) ps.length nms).1.2,?_,?_⟩
  ·rw[a1G,h1,hg,b3a,if_pos hz]
  ·rw[h2,List.drop_eq_getElem_cons (show k<A.length by omega),a5r,if_pos hz]
theorem c3v (A:List (List UInt8)) {j:Nat} (hj:j<A.length) (h:∀i,i<j->a89 A i=0) (he:a89 A j≠0):a5r A 0 [] []=(([],[]),a89 A j,(j:Int)+1):=by
 obtain ⟨ps,nms,h1,h2⟩:=b0J A j (by omega) h
 have hg:A.getD j []=A[j]'hj:=by rw[List.getD_eq_getElem?_getD,List.getElem?_eq_getElem hj];rfl
 have hl:a89 A j=(a1s (A[j]'hj) ps.length nms).2:=by
  unfold a89 at he ⊢;rw[h1,hg,b3a]at he ⊢;by_cases hz:(a1s (A[j]'hj) ps.length nms).2=0
  ·rw[if_pos hz]at he
   exact absurd rfl he
  ·rw[if_neg hz]
 rw[h2,List.drop_eq_getElem_cons hj,a5r,if_neg (by rw[<-hl];exact he),hl]
theorem c0Z (A:List (List UInt8)) (h:∀i,i<A.length->a89 A i=0):∃ps nms,a1G A A.length=(a4w ps,toN nms)/\a5r A 0 [] []=((ps,nms),0,0):=by
 obtain ⟨ps,nms,h1,h2⟩:=b0J A A.length (Nat.le_refl _) h;exact ⟨ps,nms,h1,by rw[h2,List.drop_length];rfl⟩
theorem c0K (L:List UInt8) (n:Nat) (nms:List (ByteArray×Nat)):∀p∈(a1s L n nms).1.1,b2A p:=by
 unfold a1s
 split
 ·intro p hp;cases hp
 ·split
  ·split
   ·exact c2H _
   ·intro p hp;cases hp
  ·split
   ·intro p hp;cases hp
   ·split
    ·split
     ·intro p hp;cases hp
     ·exact c2H _
    ·intro p hp;cases hp
theorem b5i:∀(A:List (List UInt8)) (n:Nat) (ps:List (Rp×Int)) (nms:List (ByteArray×Nat)),(∀p∈ps,b2A p.1)->∀p∈(a5r A n ps nms).1.1,b2A p.1
 | [],n,ps,nms,h=>h
 | L::A,n,ps,nms,h=>by
  rw[a5r]
  split
  ·refine b5i A (n+1) _ _ (fun p hp=>?_)
   rcases List.mem_append.1 hp with hp|hp
   ·exact h p hp
   ·obtain ⟨x,hx,rfl⟩:=List.mem_map.1 hp
    exact c0K L _ _ x hx
  ·intro p hp;cases hp
def toQ (P:List Pz):List Qt:=P.map fun p=>⟨a3D p.1,p.2.1,p.2.2⟩
theorem a4j (P:List Pz):(toQ P).length=P.length:=by simp[toQ]
theorem a4B (P:List Pz) (k:Nat):(toQ P)[k]?=P[k]?.map fun p=>⟨a3D p.1,p.2.1,p.2.2⟩:=by simp[toQ]
theorem b5g (P:List Pz):∀k,plq (toQ P) k=plR (szL P) k
 | 0=>rfl
 | k+1=>by
  rw[plq,plR,b5g P k,a4B];congr 1;rw[List.getD_eq_getElem?_getD];unfold szL;rw[List.getElem?_map];cases P[k]?<;>rfl
theorem b1d (t:List UInt8):∀nm:List (ByteArray×Nat),(toN nm).lookup t=(nm.find? fun x=>x.1.toList==t).map (·.2)
 | []=>rfl
 | x::nm=>by
  have ih:=b1d t nm;unfold toN at ih ⊢;rw[List.map_cons,List.lookup_cons,List.find?_cons]
  have e:(t==x.1.data.toList)=(x.1.toList==t):=by
   rw[ByteArray.toList_eq,Bool.eq_iff_iff];simp only[beq_iff_eq];exact eq_comm
  rw[e]
  cases x.1.toList==t with
  | true=>rfl
  | false=>simpa using ih
theorem b0u (sz:List Int) (nm:List (ByteArray×Nat)) (t:List UInt8):fdR sz nm ⟨t.toArray⟩=match (toN nm).lookup t with|some v=>plR sz v|none=>-1:=by
 rw[b1d];unfold fdR;rw[a34];cases nm.find? fun x=>x.1.toList==t<;>rfl
structure b2B (P:List Pz) (nm:List (ByteArray×Nat)):Prop where
 ok:∀p∈P,b2A p.1
 sz:∀p∈P,p.1.tg≠[]->p.2.2=2\/p.2.2=4
 lab:∀p∈P,p.1.tg≠[]->∃v,(toN nm).lookup p.1.tg=some v/\v<=P.length
theorem b2T {p:Rp} (h:b2A p):(a3D p).tg=p.tg:=by
 unfold a3D
 split
 ·rename_i hs
  exact (h.sh hs).1.symm
 ·rfl
theorem b9q {p:Rp} (h:b2A p) (ht:p.tg≠[]):a3D p=⟨[],p.ins,p.tg⟩:=by
 have hs:p.sh=false:=by
  cases hs:p.sh with
  | false=>rfl
  | true=>exact absurd (h.sh hs).1 ht
 have hb:p.bt=[]:=Classical.byContradiction (fun hb=>ht (h.da hb))
 unfold a3D;rw[hs,hb];rfl
theorem b7l {P:List Pz} {nm:List (ByteArray×Nat)} (h:b2B P nm) {k:Nat} {p:Pz} (hk:P[k]?=some p) (ht:p.1.tg≠[]):a6w (a3h (toQ P) (toQ P).length) (toN nm) k (a3D p.1)=a4s P nm p.1 k:=by
 have hm:=List.mem_of_getElem? hk;have hkl:k<P.length:=(List.getElem?_eq_some_iff.1 hk).1;obtain ⟨v,hv,hvl⟩:=h.lab p hm ht;unfold a6w a4s;rw[b9q (h.ok p hm) ht];simp only;rw[if_neg ht,if_neg ht,b0u,hv];unfold nmI;rw[hv];simp only[Option.getD_some];rw[a4F _ _ _ (by rw[a4j];exact hvl),a4F _ _ _ (by rw[a4j];omega),b5g,b5g]
theorem a9n {P:List Pz} {nm:List (ByteArray×Nat)} (h:b2B P nm) {k:Nat} {p:Pz} (hk:P[k]?=some p):a4r (a3h (toQ P) (toQ P).length) (toN nm) k ⟨a3D p.1,p.2.1,p.2.2⟩=a5v P nm k p:=by
 have hm:=List.mem_of_getElem? hk;unfold a4r a5v;simp only;rw[b2T (h.ok p hm)];by_cases ht:p.1.tg=[]
 ·rw[ht];rfl
 ·rw[b7l h hk ht,a1p]
  have e:(p.2.2==2)=(p.2.2 != 4):=by
   rcases h.sz p hm ht with e|e<;>rw[e]<;>rfl
  rw[e,Bool.and_assoc];rfl
theorem b8Z (P:List Pz) (g k:Nat):(a6B P g)[k]?=P[k]?.map fun p=>if k=g then (p.1,p.2.1,4) else p:=by
 unfold a6B;by_cases hg:g<P.length
 ·rw[List.getElem?_eq_getElem hg]
  simp only;by_cases e:k=g
  ·subst e
   rw[List.getElem?_set_self hg,List.getElem?_eq_getElem hg];simp
  ·rw[List.getElem?_set_ne (fun h=>e h.symm)]
   simp[e]
 ·have hn:P[g]?=none:=List.getElem?_eq_none (by omega)
  rw[hn];simp only;by_cases e:k=g
  ·subst e
   rw[hn];rfl
  ·simp[e]
theorem a93:∀(G:List Nat) (P:List Pz) (k:Nat),(a1N P G)[k]?=P[k]?.map fun p=>if k∈G then (p.1,p.2.1,4) else p
 | [],P,k=>by simp[a1N]
 | g::G,P,k=>by
  show (a1N (a6B P g) G)[k]?=_;rw[a93 G (a6B P g) k,b8Z,Option.map_map];congr 1;funext p;by_cases e:k=g<;>by_cases hG:k∈G<;>simp[e,hG]
  all_goals (subst e;simp[hG])
theorem a4P {P:List Pz} {nm:List (ByteArray×Nat)} {k:Nat} {p:Pz} (hk:P[k]?=some p):k∈a1h P nm P.length↔a5v P nm k p=true:=by
 have hkl:k<P.length:=(List.getElem?_eq_some_iff.1 hk).1;unfold a1h;rw[List.mem_filter,hk];simp[hkl]
theorem c2E {P:List Pz} {nm:List (ByteArray×Nat)} (h:b2B P nm):toQ (a1N P (a1h P nm P.length))=rnd (toN nm) (toQ P):=by
 apply List.ext_getElem?;intro k;rw[a4B,a93,Option.map_map]
 cases hk:P[k]? with
 | none=>
  have:(toQ P)[k]?=none:=by rw[a4B,hk];rfl
  unfold rnd grw;simp[this]
 | some p=>
  have hq:(toQ P)[k]?=some ⟨a3D p.1,p.2.1,p.2.2⟩:=by rw[a4B,hk];rfl
  have hkl:k<P.length:=(List.getElem?_eq_some_iff.1 hk).1;unfold rnd;rw[a3x hq,a9n h hk];simp only[Option.map_some,Function.comp];by_cases hg:a5v P nm k p=true
  ·rw[if_pos ((a4P hk).2 hg),if_pos ⟨by rw[a4j];exact hkl,hg⟩]
  ·rw[if_neg (fun x=>hg ((a4P hk).1 x)),if_neg (fun x=>hg x.2)]
theorem c2q {P:List Pz} {nm:List (ByteArray×Nat)} (h:b2B P nm) (hg:a1h P nm P.length=[]):done (toN nm) (toQ P):=by
 unfold done b4c;rw[List.any_eq_false];intro k hk;rw[a4B];have hkl:k<P.length:=by rw[a4j]at hk;simpa using hk
 have hkp:P[k]?=some P[k]:=List.getElem?_eq_getElem hkl;rw[hkp];simp only[Option.map_some];rw[a9n h hkp];intro hx;have:=(a4P (nm:=nm) hkp).2 hx;rw[hg]at this;cases this
theorem c3u {P:List Pz} {nm:List (ByteArray×Nat)} (h:b2B P nm) (g:Nat):b2B (a6B P g) nm:=by
 have key:∀p∈a6B P g,∃q∈P,q.1=p.1/\(p.2.2=q.2.2\/p.2.2=4):=fun p hp=>by
  obtain ⟨k,hk⟩:=List.getElem?_of_mem hp;rw[b8Z]at hk
  cases hq:P[k]? with
  | none=>rw[hq]at hk;cases hk
  | some q=>
   rw[hq]at hk;(injection hk with hk);refine ⟨q,List.mem_of_getElem? hq,?_⟩;subst hk
   split
   ·exact ⟨rfl,Or.inr rfl⟩
   ·exact ⟨rfl,Or.inl rfl⟩
 refine ⟨fun p hp=>?_,fun p hp ht=>?_,fun p hp ht=>?_⟩
 ·obtain ⟨q,hq,e,_⟩:=key p hp
  rw[<-e];exact h.ok q hq
 ·obtain ⟨q,hq,e,hs⟩:=key p hp
  rcases hs with hs|hs
  ·rw[hs];exact h.sz q hq (by rw[e];exact ht)
  ·exact Or.inr hs
 ·obtain ⟨q,hq,e,_⟩:=key p hp
  obtain ⟨v,hv,hl⟩:=h.lab q hq (by rw[e];exact ht)
  exact ⟨v,by rw[<-e];exact hv,by rw[a5O];exact hl⟩
theorem b43 {nm:List (ByteArray×Nat)}:∀(G:List Nat) {P:List Pz},b2B P nm->b2B (a1N P G) nm
 | [],_,h=>h
 | g::G,_,h=>b43 G (c3u h g)
theorem b3W {nm:List (ByteArray×Nat)}:∀(f:Nat) (P:List Pz),b2B P nm->c4 P<f->(∃m,toQ (a12 nm f P)=rnds (toN nm) m (toQ P)/\done (toN nm) (rnds (toN nm) m (toQ P)))/\b2B (a12 nm f P) nm
 | 0,P,_,hf=>by omega
 | f+1,P,h,hf=>by
  by_cases hg:a1h P nm P.length=[]
  ·rw[a8B (by omega) hg]
   exact ⟨⟨0,rfl,c2q h hg⟩,h⟩
  ·rw[a6M (by omega) hg]
   have hc:=b3i hg;(obtain ⟨⟨m,h1,h2⟩,h3⟩:=b3W f (a1N P (a1h P nm P.length)) (b43 _ h) (by omega));refine ⟨⟨m+1,?_,?_⟩,h3⟩
   ·show toQ (a12 nm f _)=rnds (toN nm) m (rnd (toN nm) (toQ P))
    rw[<-c2E h];exact h1
   ·show done (toN nm) (rnds (toN nm) m (rnd (toN nm) (toQ P)))
    rw[<-c2E h];exact h2
theorem b3Y {P:List Pz} (h:∀p∈P,0<=p.2.2/\p.2.2<=4):b3f (toQ P):=fun x hx=>by
 obtain ⟨p,hp,rfl⟩:=List.mem_map.1 hx;exact h p hp
theorem c0q {nm:List (ByteArray×Nat)} {P:List Pz} (h:b2B P nm) (hs:∀p∈P,0<=p.2.2/\p.2.2<=4):toQ (a12 nm (P.length+1) P)=b4G (toN nm) (toQ P)/\b2B (a12 nm (P.length+1) P) nm:=by
 obtain ⟨⟨m,h1,h2⟩,h3⟩:=b3W (P.length+1) P h (by have:=c4R P;omega)
 exact ⟨by rw[h1];exact c2N (b3Y hs) h2,h3⟩
theorem c5n (short:Bool) {p:Rp} (h:b2A p):fsz short (a3D p)=sz0 short p:=by
 unfold fsz sz0
 cases hs:p.sh with
 | true=>
  obtain ⟨h1,h2,h3⟩:=h.sh hs;have e:a3D p=⟨a2I 2 (a0q p.ins).1,a1U,[]⟩:=by unfold a3D;rw[hs];rfl
  rw[e,h2];simp[a2I]
 | false=>
  have e:a3D p=⟨p.bt,p.ins,p.tg⟩:=by unfold a3D;rw[hs];rfl
  rw[e];simp only;by_cases hb:p.bt=[]
  ·rw[if_pos hb,if_neg (show ¬p.bt≠[] from fun x=>x hb),a1p]
   have hc:(short=true/\(p.tg≠[]\/(a0q p.ins).2=0))↔(false||(short&&(!p.tg.isEmpty||(a0q p.ins).2==0)))=true:=by
    cases short<;>simp
   by_cases hx:short=true/\(p.tg≠[]\/(a0q p.ins).2=0)
   ·rw[if_pos hx,if_pos (hc.1 hx)]
   ·rw[if_neg hx,if_neg (fun y=>hx (hc.2 y))]
  ·rw[if_neg hb,if_pos hb]
theorem c3h (short:Bool) {P:List Pz} (h:∀p∈P,b2A p.1):fszs short (toQ P) (toQ P).length=toQ (szA short P):=by
 apply List.ext_getElem?;intro k
 have e2:(toQ (szA short P))[k]?=P[k]?.map fun p=>⟨a3D p.1,p.2.1,sz0 short p.1⟩:=by
  rw[a4B];unfold szA;rw[List.getElem?_map,Option.map_map];rfl
 rw[e2]
 cases hk:P[k]? with
 | none=>
  have:(toQ P)[k]?=none:=by rw[a4B,hk];rfl
  unfold fszs;simp[this]
 | some p=>
  have hq:(toQ P)[k]?=some ⟨a3D p.1,p.2.1,p.2.2⟩:=by rw[a4B,hk];rfl
  have hkl:k<P.length:=(List.getElem?_eq_some_iff.1 hk).1;rw[a4e hq,if_pos (by rw[a4j];exact hkl)]
  simp only[Option.map_some];rw[c5n short (h p (List.mem_of_getElem? hk))]
theorem b53 {k:Nat} (hk:k<64) (hkd:(row k).kind=66\/(row k).kind=74) {i:Ins} (ho:i.op=(k:Int)+1) (h0:i.imm=0) (hr:right i=true) {d:Int} (d0:-1024<=d) (d1:d<=1024):
    right { i with imm:=d }=decide (d%2=0):=by
 obtain ⟨op,rd,rs1,rs2,imm⟩:=i;simp only at ho h0;subst ho h0;rw[a0d _ _ _ _ _ hk]at hr;show right ⟨(k:Int)+1,rd,rs1,rs2,d⟩=_;rw[a0d _ _ _ _ _ hk];simp only[Bool.and_eq_true]at hr;rw[hr.1.1.1,hr.1.1.2,hr.1.2];simp only[Bool.true_and]
 have e:(d.tmod 2==0)=decide (d%2=0):=by
  by_cases h:d%2=0
  ·rw[decide_eq_true h,beq_iff_eq];exact (a7y d).2 h
  ·rw[decide_eq_false h,beq_eq_false_iff_ne];exact fun x=>h ((a7y d).1 x)
 rcases hkd with q|q
 ·rw[q]
  unfold a0p;rw[if_neg (by decide),if_neg (by decide),if_neg (by decide),if_pos rfl,e]
  have:a0j d (-4096) 4094=true:=by unfold a0j;simp;omega
  rw[this,Bool.true_and]
 ·rw[q]
  unfold a0p;rw[if_neg (by decide),if_neg (by decide),if_neg (by decide),if_neg (by decide),if_neg (by decide),if_pos rfl,e]
  have:a0j d (-1048576) 1048574=true:=by unfold a0j;simp;omega
  rw[this,Bool.true_and]
theorem a7z (i:Ins):(enc i).2=0↔right i=true:=by
 unfold enc;by_cases h:right i=true
 ·rw[if_pos h];exact ⟨fun _=>h,fun _=>rfl⟩
 ·rw[if_neg h];exact ⟨fun x=>absurd x (show ¬((1:Int)=0) by decide),fun x=>absurd x h⟩
def SzT (p:Pz):Prop:=p.1.tg=[]->(p.1.sh=true->p.2.2=2)/\(p.1.bt=[]->p.1.sh=false->p.2.2=4\/(p.2.2=2/\(a0q p.1.ins).2=0))
theorem c40 (short:Bool) {P:List Pz} (h:∀p∈P,b2A p.1):∀p∈szA short P,SzT p:=by
 intro p hp ht;obtain ⟨x,hx,rfl⟩:=List.mem_map.1 hp;simp only at ht ⊢;refine ⟨fun hs=>?_,fun hb hs=>?_⟩
 ·unfold sz0
  rw[if_neg (show ¬x.1.bt≠[] from fun y=>y ((h x hx).sh hs).2.1),hs]
  rfl
 ·unfold sz0
  rw[if_neg (show ¬x.1.bt≠[] from fun y=>y hb),hs,ht,a1p]
  by_cases hc:(short&&(a0q x.1.ins).2==0)=true
  ·right
   simp only[Bool.and_eq_true,beq_iff_eq]at hc;refine ⟨?_,hc.2⟩;rw[if_pos (by simp[hc.1,hc.2])]
  ·left
   rw[if_neg (by simpa using hc)]
theorem b9D {P:List Pz} {nm:List (ByteArray×Nat)} (h:∀p∈P,SzT p):∀p∈a1N P (a1h P nm P.length),SzT p:=by
 intro p hp;obtain ⟨k,hk⟩:=List.getElem?_of_mem hp;rw[a93]at hk
 cases hq:P[k]? with
 | none=>rw[hq]at hk;cases hk
 | some q=>
  rw[hq]at hk;injection hk with hk
  subst hk
  split
  ·rename_i hm
   intro ht;have hg:=(a4P hq).1 hm;unfold a5v at hg;simp only[Bool.and_eq_true,Bool.not_eq_true']at hg;simp only at ht;rw[ht]at hg;exact absurd hg.1 (by decide)
  ·exact h q (List.mem_of_getElem? hq)
theorem b1K {nm:List (ByteArray×Nat)}:∀(f:Nat) {P:List Pz},(∀p∈P,SzT p)->∀p∈a12 nm f P,SzT p
 | 0,P,h=>h
 | f+1,P,h=>by
  rw[a12]
  split
  ·exact h
  ·exact b1K f (b9D h)
theorem b0R {sz:List Int} (h:∀x∈sz,0<=x/\x<=4):∀(m k:Nat),k<=m->plR sz k<=plR sz m
 | 0,k,hk=>by rw[show k=0 by omega];omega
 | m+1,k,hk=>by
  by_cases e:k=m+1
  ·rw[e];omega
  ·have:=b0R h m k (by omega)
   rw[plR]
   have h2:0<=sz.getD m 0:=by
    by_cases hk:m<sz.length
    ·have e:sz.getD m 0=sz[m]:=by simp[List.getD,hk]
     rw[e];exact (h _ (List.getElem_mem hk)).1
    ·have e:sz.getD m 0=0:=by simp[List.getD,Nat.le_of_not_lt hk]
     rw[e];decide
   omega
theorem c22 {P:List Pz} {nm:List (ByteArray×Nat)} (h:b2B P nm) (hT:∀p∈P,SzT p) (hs:∀p∈P,0<=p.2.2/\p.2.2<=4) (hd:a1h P nm P.length=[]) (h1k:plR (szL P) P.length<=1024) {k:Nat} {p:Pz} (hk:P[k]?=some p):
    byq (a3h (toQ P) (toQ P).length) (toN nm) k ⟨a3D p.1,p.2.1,p.2.2⟩ =
     if p.1.bt≠[] then some p.1.bt else if (a4s P nm p.1 k).imm%2≠0/\p.1.tg≠[] then none else some (a2I p.2.2.toNat (if p.2.2=2 then (a0S (a4s P nm p.1 k)).1 else (enc (a4s P nm p.1 k)).1)):=by
 have hm:=List.mem_of_getElem? hk;have hkl:k<P.length:=(List.getElem?_eq_some_iff.1 hk).1;have hok:=h.ok p hm;unfold byq;simp only;by_cases hb:p.1.bt=[]
 ·rw[if_neg (show ¬p.1.bt≠[] from fun y=>y hb)]
  by_cases ht:p.1.tg=[]
  ·have hres:a4s P nm p.1 k=p.1.ins:=by unfold a4s;rw[if_pos ht]
   rw[if_neg (show ¬((a4s P nm p.1 k).imm%2≠0/\p.1.tg≠[]) from fun y=>y.2 ht),hres,a1p]
   cases hsh:p.1.sh with
   | true=>
    (have e:a3D p.1=⟨a2I 2 (a0q p.1.ins).1,a1U,[]⟩:=by unfold a3D;rw[hsh];rfl);have h2:=(hT p hm ht).1 hsh;rw[e,h2];rfl
   | false=>
    (have e:a3D p.1=⟨[],p.1.ins,[]⟩:=by unfold a3D;rw[hsh,hb,ht];rfl);(have hp:a6w (a3h (toQ P) (toQ P).length) (toN nm) k ⟨[],p.1.ins,[]⟩=p.1.ins:=by unfold a6w;rw[if_pos rfl]);rw[e];simp only[if_true,hp];rcases (hT p hm ht).2 hb hsh with h4|⟨h2,h3⟩
    ·rw[h4,if_neg (by decide),if_pos ((a7z _).2 (hok.ri hb)),if_neg (by decide)]
     rfl
    ·rw[h2,if_pos rfl,if_pos h3,if_pos rfl]
     rfl
  ·have e:=b9q hok ht
   have hp:=b7l h hk ht;rw[e]at hp;rw[e];simp only[if_true,hp];obtain ⟨q,hq,ho,hkd,h0,hr⟩:=hok.tg ht;obtain ⟨v,hv,hvl⟩:=h.lab p hm ht
   have hszs:∀x∈szL P,0<=x/\x<=4:=fun x hx=>by
    obtain ⟨y,hy,rfl⟩:=List.mem_map.1 hx;exact hs y hy
   have hre:a4s P nm p.1 k = { p.1.ins with imm:=plR (szL P) v-plR (szL P) k }:=by
    unfold a4s;rw[if_neg ht,b0u,hv]
   have hev:right (a4s P nm p.1 k)=decide ((a4s P nm p.1 k).imm%2=0):=by
    rw[hre];have b1:=(a65 hszs v).1;have b2:=(a65 hszs k).1;have b3:=b0R hszs P.length v hvl;(have b4:=b0R hszs P.length k (by omega));exact b53 hq hkd ho h0 hr (by omega) (by omega)
   rcases h.sz p hm ht with h2|h4
   ·have hng:a5v P nm k p=false:=by
     cases hg:a5v P nm k p with
     | false=>rfl
     | true=>
      have:=(a4P (nm:=nm) hk).2 hg;rw[hd]at this;cases this
    have hsc:(a0q (a4s P nm p.1 k)).2=0:=by
     unfold a5v at hng;rw[h2,a1p]at hng;(have ht':p.1.tg.isEmpty=false:=by simpa using ht);rw[ht']at hng;simpa using hng
    have hright:right (a4s P nm p.1 k)=true:=by
     (have hx:a0q (a4s P nm p.1 k)=((a0q (a4s P nm p.1 k)).1,0):=by rw[<-hsc]);exact (b1M hx).2.2.2.2
    rw[hev,decide_eq_true_eq]at hright;(rw[h2,if_pos rfl,if_pos hsc,if_neg (fun y=>y.1 hright),if_pos rfl,a1p]);rfl
   ·rw[h4,if_neg (by decide)]
    by_cases hx:(a4s P nm p.1 k).imm%2=0
    ·rw[if_pos ((a7z _).2 (by rw[hev];exact decide_eq_true hx)),if_neg (fun y=>y.1 hx),if_neg (by decide)]
     rfl
    ·rw[if_neg (fun y=>by rw[a7z,hev,decide_eq_true_eq]at y;exact hx y),if_pos ⟨hx,ht⟩]
 ·have hsh:p.1.sh=false:=by
   cases hs:p.1.sh with
   | false=>rfl
   | true=>exact absurd (hok.sh hs).2.1 hb
  have e:a3D p.1=⟨p.1.bt,p.1.ins,p.1.tg⟩:=by unfold a3D;rw[hsh];rfl
  rw[e,if_neg hb,if_pos hb]
theorem a91 {P:List Pz} {nm:List (ByteArray×Nat)} (h:b2B P nm) (hT:∀p∈P,SzT p) (hs:∀p∈P,0<=p.2.2/\p.2.2<=4) (hd:a1h P nm P.length=[]) (h1k:plR (szL P) P.length<=1024):
    ∀j,j<=P.length->(∀i,i<j->a8X (a3h (toQ P) (toQ P).length) (toN nm) (toQ P) i=false)->b52 P nm 0 P []=b52 P nm j (P.drop j) (b3E (a3h (toQ P) (toQ P).length) (toN nm) (toQ P) j)
 | 0,_,_=>rfl
 | j+1,hj,hb=>by
  rw[a91 h hT hs hd h1k j (by omega) (fun i hi=>hb i (by omega))]
  have hjl:j<P.length:=by omega
  have hk:P[j]?=some P[j]:=List.getElem?_eq_getElem hjl;have hq:(toQ P)[j]?=some ⟨a3D P[j].1,P[j].2.1,P[j].2.2⟩:=by rw[a4B,hk];rfl
  have hbj:=hb j (by omega)
  unfold a8X at hbj;rw[hq]at hbj;simp only at hbj;have hby:=c22 h hT hs hd h1k hk;rw[List.drop_eq_getElem_cons hjl,b52,b3E,hq];simp only;rw[hby]at hbj ⊢;by_cases h1:P[j].1.bt≠[]
  ·rw[if_pos h1,if_pos h1];rfl
  ·rw[if_neg h1]at hbj ⊢
   rw[if_neg h1];by_cases h2:(a4s P nm P[j].1 j).imm%2≠0/\P[j].1.tg≠[]
   ·rw[if_pos h2]at hbj;cases hbj
   ·rw[if_neg h2,if_neg h2];rfl
theorem c7l {P:List Pz} {nm:List (ByteArray×Nat)} (h:b2B P nm) (hT:∀p∈P,SzT p) (hs:∀p∈P,0<=p.2.2/\p.2.2<=4) (hd:a1h P nm P.length=[]) (h1k:plR (szL P) P.length<=1024):
    b52 P nm 0 P []=b5Z (a3h (toQ P) (toQ P).length) (toN nm) (toQ P):=by
 unfold b5Z
 cases hf:(List.range (toQ P).length).find? (a8X (a3h (toQ P) (toQ P).length) (toN nm) (toQ P)) with
 | none=>
  have hall:∀i,i<P.length->a8X (a3h (toQ P) (toQ P).length) (toN nm) (toQ P) i=false:=fun i hi=>by
   (have:=List.find?_eq_none.1 hf i (by rw[a4j];simpa using hi));simpa using this
  rw[a91 h hT hs hd h1k P.length (Nat.le_refl _) hall,List.drop_length];rw[a4j];rfl
 | some k=>
  rw[List.find?_range_eq_some]at hf;obtain ⟨hbad,hkm,hno⟩:=hf;have hkl:k<P.length:=by rw[a4j]at hkm;simpa using hkm
  have hk:P[k]?=some P[k]:=List.getElem?_eq_getElem hkl;have hq:(toQ P)[k]?=some ⟨a3D P[k].1,P[k].2.1,P[k].2.2⟩:=by rw[a4B,hk];rfl
  rw[a91 h hT hs hd h1k k (by omega) (fun i hi=>by simpa using hno i hi)]
  unfold a8X at hbad;rw[hq]at hbad;simp only at hbad;have hby:=c22 h hT hs hd h1k hk;rw[hby]at hbad;show b52 P nm k (P.drop k) _=([],5,match (toQ P)[k]? with|some x=>x.line|none=>0)
  rw[hq,List.drop_eq_getElem_cons hkl,b52];by_cases h1:P[k].1.bt≠[]
  ·rw[if_pos h1]at hbad;cases hbad
  ·rw[if_neg h1]at hbad ⊢
   by_cases h2:(a4s P nm P[k].1 k).imm%2≠0/\P[k].1.tg≠[]
   ·rw[if_pos h2]
   ·rw[if_neg h2]at hbad;cases hbad
theorem a9i {nm:List (ByteArray×Nat)}:∀(f:Nat) (P:List Pz),c4 P<f->a1h (a12 nm f P) nm (a12 nm f P).length=[]
 | 0,P,hf=>by omega
 | f+1,P,hf=>by
  by_cases hg:a1h P nm P.length=[]
  ·rw[a8B (by omega) hg];exact hg
  ·rw[a6M (by omega) hg]
   have hc:=b3i hg;exact a9i f _ (by omega)
theorem b1B {nm:List (ByteArray×Nat)}:∀(f:Nat) (P:List Pz),(a12 nm f P).length=P.length
 | 0,P=>rfl
 | f+1,P=>by
  rw[a12]
  split
  ·rfl
  ·rw[b1B f,a4M]
theorem b3L (ps:List (Rp×Int)):toQ (ps.map fun p=>((p.1,p.2,0):Pz))=a4w ps:=by
 unfold toQ a4w;rw[List.map_map];rfl
theorem b4X:∀(sz:List Int) (k:Nat),(∀x∈sz,x=0)->plR sz k=0
 | sz,0,_=>rfl
 | sz,k+1,h=>by
  rw[plR,b4X sz k h]
  have:sz.getD k 0=0:=by
   by_cases hk:k<sz.length
   ·have e:sz.getD k 0=sz[k]:=by simp[List.getD,hk]
    rw[e];exact h _ (List.getElem_mem hk)
   ·simp[List.getD,Nat.le_of_not_lt hk]
  rw[this];rfl
theorem a92 {ps:List (Rp×Int)} {nm:List (ByteArray×Nat)} (hok:∀p∈ps,b2A p.1) {k:Nat} {p:Pz} (hk:(ps.map fun p=>((p.1,p.2,0):Pz))[k]?=some p):
    b27 (a4w ps) (toN nm) k=a8c (ps.map fun p=>(p.1,p.2,0)) nm p:=by
 unfold b27 a8c;rw[<-b3L,a4B,hk];simp only[Option.map_some];have hm:=List.mem_of_getElem? hk;obtain ⟨x,hx,rfl⟩:=List.mem_map.1 hm;simp only;rw[b2T (hok x hx),b0u]
 have hz:∀y∈szL (ps.map fun p=>((p.1,p.2,0):Pz)),y=0:=fun y hy=>by
  unfold szL at hy;rw[List.map_map]at hy;obtain ⟨z,_,rfl⟩:=List.mem_map.1 hy;rfl
 cases (toN nm).lookup x.1.tg with
 | none=>rfl
 | some v=>
  simp only[Option.isNone_some];have:¬plR (szL (ps.map fun p=>((p.1,p.2,0):Pz))) v<0:=by rw[b4X _ _ hz];decide
  rw[decide_eq_false this]
theorem b8V {nm:List (ByteArray×Nat)} {n:Nat} (h:∀x∈nm,x.2<=n) {t:List UInt8} {v:Nat} (hv:(toN nm).lookup t=some v):v<=n:=by
 have:=a9y hv;unfold toN at this;obtain ⟨x,hx,e⟩:=List.mem_map.1 this;injection e with _ e
 rw[<-e];exact h x hx
theorem c0X {ps:List (Rp×Int)} {nm:List (ByteArray×Nat)} (short:Bool) (hok:∀p∈ps,b2A p.1) (hn:∀x∈nm,x.2<=ps.length) (hlab:∀k,b27 (a4w ps) (toN nm) k=false):
    c44 nm (ps.length+1) (ps.map fun p=>(p.1,p.2,sz0 short p.1)) =
     if 1024<plq (b4G (toN nm) (fszs short (a4w ps) (a4w ps).length)) (a4w ps).length then ([],8,0)
     else b5Z (a3h (b4G (toN nm) (fszs short (a4w ps) (a4w ps).length)) (a4w ps).length) (toN nm) (b4G (toN nm) (fszs short (a4w ps) (a4w ps).length)):=by
 have hl0:(a4w ps).length=ps.length:=by simp[a4w]
 have hok0:∀p∈ps.map fun p=>((p.1,p.2,0):Pz),b2A p.1:=fun p hp=>by
  obtain ⟨x,hx,rfl⟩:=List.mem_map.1 hp;exact hok x hx
 have eF:=c3h short hok0;rw[b3L]at eF;have eP:szA short (ps.map fun p=>((p.1,p.2,0):Pz))=ps.map fun p=>(p.1,p.2,sz0 short p.1):=by unfold szA;rw[List.map_map];rfl
 rw[eP]at eF;rw[eF];have hT:=c40 short hok0;rw[eP]at hT;have hlen:(ps.map fun p=>((p.1,p.2,sz0 short p.1):Pz)).length=ps.length:=by simp
 have hs:∀p∈ps.map fun p=>((p.1,p.2,sz0 short p.1):Pz),0<=p.2.2/\p.2.2<=4:=fun p hp=>by
  obtain ⟨x,hx,rfl⟩:=List.mem_map.1 hp;exact c2Q short (hok x hx).bt
 have hL:b2B (ps.map fun p=>((p.1,p.2,sz0 short p.1):Pz)) nm:=by
  refine ⟨fun p hp=>?_,fun p hp ht=>?_,fun p hp ht=>?_⟩
  ·obtain ⟨x,hx,rfl⟩:=List.mem_map.1 hp
   exact hok x hx
  ·obtain ⟨x,hx,rfl⟩:=List.mem_map.1 hp
   simp only at ht ⊢;(have hb:x.1.bt=[]:=Classical.byContradiction (fun hb=>ht ((hok x hx).da hb)));unfold sz0;rw[if_neg (show ¬x.1.bt≠[] from fun y=>y hb)]
   split
   ·exact Or.inl rfl
   ·exact Or.inr rfl
  ·obtain ⟨x,hx,rfl⟩:=List.mem_map.1 hp
   simp only at ht ⊢;obtain ⟨k,hkx⟩:=List.getElem?_of_mem hx;(have hk:(a4w ps)[k]?=some ⟨a3D x.1,x.2,0⟩:=by unfold a4w;rw[List.getElem?_map,hkx];rfl);have:=hlab k;unfold b27 at this;rw[hk]at this;simp only at this;rw[b2T (hok x hx)]at this;(have ht':x.1.tg.isEmpty=false:=by simpa using ht);rw[ht']at this
   cases hv:(toN nm).lookup x.1.tg with
   | none=>rw[hv]at this;cases this
   | some v=>exact ⟨v,rfl,by rw[hlen];exact b8V hn hv⟩
 generalize hP1:(ps.map fun p=>((p.1,p.2,sz0 short p.1):Pz))=P1 at *
 rw[<-hlen];obtain ⟨e1,h2⟩:=c0q hL hs;have hd:=a9i (nm:=nm) (P1.length+1) P1 (by have:=c4R P1;omega)
 have hT2:∀p∈a12 nm (P1.length+1) P1,SzT p:=b1K _ hT;have hlf:(a12 nm (P1.length+1) P1).length=P1.length:=b1B _ _
 have hs2:∀p∈a12 nm (P1.length+1) P1,0<=p.2.2/\p.2.2<=4:=fun p hp=>by
  have hq:(⟨a3D p.1,p.2.1,p.2.2⟩:Qt)∈toQ (a12 nm (P1.length+1) P1):=List.mem_map.2 ⟨p,hp,rfl⟩;rw[e1]at hq;exact a4b _ (b3Y hs) _ hq
 unfold c44;rw[<-e1,b5g,hl0,<-hlen,hlf];by_cases h1k:1024<plR (szL (a12 nm (P1.length+1) P1)) P1.length
 ·rw[if_pos h1k,if_pos h1k]
 ·rw[if_neg h1k,if_neg h1k]
  have:=c7l h2 hT2 hs2 hd (by rw[hlf];omega)
  rw[a4j,hlf]at this;exact this
end Pn
namespace Go.Proofs.YtbmcofdodfcnnaaGreatDoor
open Pn
open Go.RowKit
theorem c1r (s:ByteArray):b0e s=Pn.lnR [] s.data.toList:=by
 unfold b0e;rw[Lib.splitB_data];have hc:Lib.countB s ⟨#[10]⟩=Lib.count s.data.toList [10]:=by simp[Lib.countB]
 rw[hc];exact b2o _ _ (Nat.le_refl _)
theorem c3e (s:ByteArray) (short:Bool):b6u short s.data.toList=b3O s short:=by
 unfold b6u b3O;have hsz:s.data.toList.length=s.size:=by show s.data.toList.length=s.data.size;rw[Array.length_toList]
 rw[hsz];by_cases h2:2000<s.size
 ·rw[if_pos h2,if_pos h2]
 ·rw[if_neg h2,if_neg h2,c1r]
  generalize Pn.lnR [] s.data.toList=A;unfold c3c
  cases hf:(List.range A.length).find? (fun j=>!(a89 A j==0)) with
  | some j=>
   (have hr:Pn.rdP A=(a89 A j,(j:Int)+1,[],[]):=by unfold Pn.rdP;rw[hf]);rw[List.find?_range_eq_some]at hf;obtain ⟨hb,hm,hno⟩:=hf;(have hj:j<A.length:=by simpa using hm);(have he:a89 A j≠0:=by simpa using hb);(rw[c3v A hj (fun i hi=>by simpa using hno i hi) he,hr]);simp only[if_neg he]
  | none=>
   have hall:∀i,i<A.length->a89 A i=0:=fun i hi=>by
    (have:=List.find?_eq_none.1 hf i (by simpa using hi));simpa using this
   obtain ⟨ps,nms,hu,hs⟩:=c0Z A hall
   have hok:∀p∈ps,b2A p.1:=by
    (have:=b5i A 0 [] [] (fun p hp=>by cases hp));rw[hs]at this;exact this
   have hnm:∀x∈nms,x.2<=ps.length:=by
    (have:=(a6v A 0 [] [] (fun p hp=>by cases hp) (fun p hp=>by cases hp)).2.1);rw[hs]at this;exact this
   rw[hs];show (if (0:Int)=0 then c47 short ps nms else ([],0,0))=_;rw[if_pos rfl];unfold c47;have hl0:(a4w ps).length=ps.length:=by simp[a4w]
   cases hg:(List.range (a4w ps).length).find? (b27 (a4w ps) (Pn.toN nms)) with
   | some k=>
    have hr:Pn.rdP A=(7,(match (a4w ps)[k]? with|some x=>x.line|none=>0),[],[]):=by
     unfold Pn.rdP;rw[hf];simp only[hu,hg];rfl
    rw[List.find?_range_eq_some]at hg;obtain ⟨hb,hm,hno⟩:=hg;(have hk:k<ps.length:=by rw[hl0]at hm;simpa using hm);have hkp:(ps.map fun p=>((p.1,p.2,0):Pn.Pz))[k]?=some (ps[k].1,ps[k].2,0):=by rw[List.getElem?_map,List.getElem?_eq_getElem hk];rfl
    have hfd:(ps.map fun p=>((p.1,p.2,0):Pn.Pz)).find? (a8c (ps.map fun p=>(p.1,p.2,0)) nms)=some (ps[k].1,ps[k].2,0):=by
     refine b4b hkp (fun i y hi hy=>?_) ?_
     ·rw[<-a92 hok hy]
      simpa using hno i hi
     ·rw[<-a92 hok hkp]
      exact hb
    rw[hfd,hr];(have hq:(a4w ps)[k]?=some ⟨a3D ps[k].1,ps[k].2,0⟩:=by unfold a4w;rw[List.getElem?_map,List.getElem?_eq_getElem hk];rfl);rw[hq];rfl
   | none=>
    have hr:Pn.rdP A=(0,0,a4w ps,Pn.toN nms):=by
     unfold Pn.rdP;rw[hf];simp only[hu,hg]
    have hlab:∀k,b27 (a4w ps) (Pn.toN nms) k=false:=fun k=>by
     by_cases hk:k<(a4w ps).length
     ·have:=List.find?_eq_none.1 hg k (by simpa using hk)
      simpa using this
     ·unfold b27
      rw[List.getElem?_eq_none (by omega)]
    have hfd:(ps.map fun p=>((p.1,p.2,0):Pn.Pz)).find? (a8c (ps.map fun p=>(p.1,p.2,0)) nms)=none:=by
     (refine List.find?_eq_none.2 (fun y hy=>?_));obtain ⟨i,hi⟩:=List.getElem?_of_mem hy;rw[<-a92 hok hi,hlab i];decide
    rw[hfd,hr];simp only[if_true];exact c0X short hok hnm hlab
end Go.Proofs.YtbmcofdodfcnnaaGreatDoor
namespace Pn
open Go
theorem c4W:∀k,k<64->(row k).opc%4=3:=by decide
theorem c2J {w:Int} (h:(dec w).2=0):w%4=3/\right (dec w).1=true:=by
 unfold dec at h ⊢
 split at h
 ·exact absurd h (show ¬((1:Int)=0) by decide)
 ·rename_i hw
  rw[if_neg hw]
  split at h
  ·rename_i k hk
   (have hk64:k<64:=by have:=List.mem_of_find?_eq_some hk;simpa using this);have hh:=List.find?_some hk;unfold a0R at hh;simp only[Bool.and_eq_true,beq_iff_eq]at hh
   have hm:a0c w 6 0=w%128:=by
    show w/2^0%2^7=_;omega
   have ho:=c4W k hk64;refine ⟨?_,(a7z _).1 hh.1.2⟩;rw[hm]at hh;have:=hh.1.1;omega
  ·exact absurd h (show ¬((1:Int)=0) by decide)
theorem c7i {n:Int} (h:(a4q n).2=0):n%4≠3/\right (a4q n).1=true:=by
 have e:a4q n=((a4q n).1,0):=by rw[<-h]
 obtain ⟨v,hv⟩:=b7L e;refine ⟨?_,(b1M hv).2.2.2.2⟩;unfold a4q at h
 split at h
 ·exact absurd h (show ¬((1:Int)=0) by decide)
 ·rename_i hn
  split at h
  ·rename_i k hk
   (have hk32:k<32:=by have:=List.mem_of_find?_eq_some hk;simpa using this);(obtain ⟨m,hm⟩:=Int.eq_ofNat_of_zero_le (show 0<=n by omega));subst hm;have:=b6B hk32 (a4X (List.find?_some hk)).1;omega
  ·exact absurd h (show ¬((1:Int)=0) by decide)
theorem a9F:(a0q a1U).2≠0:=by decide
theorem b7b {d:List UInt8} (h:4<=d.length):a0Q (d.take 4)%4=a0Q (d.take 2)%4:=by
 match d,h with
 | a::b::c::e::r,_=>
  simp only[List.take_succ_cons,List.take_zero,a0Q];omega
theorem c2T {l:List UInt8} {k:Nat} (hk:k<l.length):
    ((itR l k).2=0/\chk (l.drop k)=if k+2<=l.length then ⟨2,a0Q ((l.drop k).take 2),a1U⟩ else ⟨1,a0Q ((l.drop k).take 1),a1U⟩)\/
    ((itR l k).2=2/\chk (l.drop k)=⟨2,a0Q ((l.drop k).take 2),(itR l k).1⟩/\right (itR l k).1=true)\/
    ((itR l k).2=4/\chk (l.drop k)=⟨4,a0Q ((l.drop k).take 4),(itR l k).1⟩/\right (itR l k).1=true):=by
 have hd:(l.drop k).length=l.length-k:=by simp
 by_cases h2:l.length<k+2
 ·have eI:itR l k=(⟨0,0,0,0,0⟩,0):=by unfold itR;rw[if_pos h2]
  have eC:chk (l.drop k)=⟨1,a0Q ((l.drop k).take 1),a1U⟩:=by
   (have e:(l.drop k).take 1=l.drop k:=List.take_of_length_le (by omega));unfold chk;rw[if_pos (by omega),e,show (l.drop k).length=1 by omega]
  rw[eI,eC,if_neg (show ¬k+2<=l.length by omega)]
  exact Or.inl ⟨rfl,rfl⟩
 ·have hle:k+2<=l.length:=by omega
  rw[if_pos hle];by_cases hx:(a4q (a0Q ((l.drop k).take 2))).2=0
  ·obtain ⟨h3,hr⟩:=c7i hx
   (have eI:itR l k=((a4q (a0Q ((l.drop k).take 2))).1,2):=by unfold itR;rw[if_neg h2,if_pos h3,b3v,if_pos hx]);(have eC:chk (l.drop k)=⟨2,a0Q ((l.drop k).take 2),(a4q (a0Q ((l.drop k).take 2))).1⟩:=by unfold chk;rw[if_neg (by omega),if_pos hx]);rw[eI,eC];exact Or.inr (Or.inl ⟨rfl,rfl,hr⟩)
  ·by_cases h3:a0Q ((l.drop k).take 2)%4=3
   ·by_cases h4:l.length<k+4
    ·have eI:itR l k=(⟨0,0,0,0,0⟩,0):=by unfold itR;rw[if_neg h2,if_neg (fun y=>y h3),if_pos h4]
     (have eC:chk (l.drop k)=⟨2,a0Q ((l.drop k).take 2),a1U⟩:=by unfold chk;rw[if_neg (by omega),if_neg hx,if_neg (fun y=>by omega)]);rw[eI,eC];exact Or.inl ⟨rfl,rfl⟩
    ·by_cases hde:(dec (a0Q ((l.drop k).take 4))).2=0
     ·have eI:itR l k=((dec (a0Q ((l.drop k).take 4))).1,4):=by unfold itR;rw[if_neg h2,if_neg (fun y=>y h3),if_neg h4,if_pos hde]
      (have eC:chk (l.drop k)=⟨4,a0Q ((l.drop k).take 4),(dec (a0Q ((l.drop k).take 4))).1⟩:=by unfold chk;rw[if_neg (by omega),if_neg hx,if_pos ⟨by omega,hde⟩]);rw[eI,eC];exact Or.inr (Or.inr ⟨rfl,rfl,(c2J hde).2⟩)
     ·have eI:itR l k=(⟨0,0,0,0,0⟩,0):=by unfold itR;rw[if_neg h2,if_neg (fun y=>y h3),if_neg h4,if_neg hde]
      (have eC:chk (l.drop k)=⟨2,a0Q ((l.drop k).take 2),a1U⟩:=by unfold chk;rw[if_neg (by omega),if_neg hx,if_neg (fun y=>hde y.2)]);rw[eI,eC];exact Or.inl ⟨rfl,rfl⟩
   ·have eI:itR l k=(⟨0,0,0,0,0⟩,0):=by unfold itR;rw[if_neg h2,if_pos h3,b3v,if_neg hx]
    have eC:chk (l.drop k)=⟨2,a0Q ((l.drop k).take 2),a1U⟩:=by
     unfold chk
     rw[if_neg (by omega),if_neg hx,if_neg (fun y=>by
      have:=(c2J y.2).1;(rw[b7b (by omega)]at this);exact h3 this)]
    rw[eI,eC];exact Or.inl ⟨rfl,rfl⟩
theorem c2Y {l:List UInt8} {k:Nat} (hk:k<l.length):rdX l k=(a6K (chk (l.drop k)),((chk (l.drop k)).size:Int)):=by
 rcases c2T hk with ⟨h0,hc⟩|⟨h2,hc,_⟩|⟨h4,hc,_⟩
 ·have eN:rdN l k=0:=by unfold rdN;rw[h0,if_neg (by decide)]
  unfold rdX;rw[if_pos eN,hc];by_cases h:k+2<=l.length
  ·rw[if_pos h,if_pos h]
   have e:a6K ⟨2,a0Q ((l.drop k).take 2),a1U⟩=[46,104,97,108,102,32]++Lib.itoa (a0Q ((l.drop k).take 2)):=by
    unfold a6K;rw[if_neg (show ¬(2:Nat)=4 by decide),if_neg (fun y=>a9F y.1),if_pos rfl]
   rw[e];rfl
  ·rw[if_neg h,if_neg h]
   have e:a6K ⟨1,a0Q ((l.drop k).take 1),a1U⟩=[46,98,121,116,101,32]++Lib.itoa (a0Q ((l.drop k).take 1)):=by
    unfold a6K;rw[if_neg (show ¬(1:Nat)=4 by decide),if_neg (fun y=>a9F y.1),if_neg (show ¬(1:Nat)=2 by decide)]
   rw[e];rfl
 ·have hle:k+2<=l.length:=by
   rcases b8B l k with e|e|e<;>omega
  rw[hc];by_cases h:(a0q (itR l k).1).2=0/\(a0q (itR l k).1).1=a0Q ((l.drop k).take 2)
  ·have eN:rdN l k=2:=by unfold rdN;rw[if_pos h2,a1p,if_pos h]
   have e:a6K ⟨2,a0Q ((l.drop k).take 2),(itR l k).1⟩=[99,46]++(shw (itR l k).1).1:=by
    unfold a6K;rw[if_neg (show ¬(2:Nat)=4 by decide),if_pos ⟨h.1,h.2.symm⟩]
   unfold rdX;(rw[if_neg (by rw[eN];decide),if_pos h2,eN,e]);rfl
  ·have eN:rdN l k=0:=by unfold rdN;rw[if_pos h2,a1p,if_neg h]
   have e:a6K ⟨2,a0Q ((l.drop k).take 2),(itR l k).1⟩=[46,104,97,108,102,32]++Lib.itoa (a0Q ((l.drop k).take 2)):=by
    unfold a6K;rw[if_neg (show ¬(2:Nat)=4 by decide),if_neg (fun y=>h ⟨y.1,y.2.symm⟩),if_pos rfl]
   unfold rdX;rw[if_pos eN,if_pos hle,e];rfl
 ·have eN:rdN l k=4:=by unfold rdN;rw[if_neg (by omega),h4]
  have e:a6K ⟨4,a0Q ((l.drop k).take 4),(itR l k).1⟩=(shw (itR l k).1).1:=by unfold a6K;rw[if_pos rfl]
  unfold rdX;rw[if_neg (by rw[eN];decide),if_neg (by omega),eN,hc,e]
  rfl
end Pn
namespace Go.Proofs.YtbmcofdodfcnnaaGreatDoor
open Pn
open Go.RowKit
theorem c2W (l:List UInt8):∀(m k:Nat),l.length-k<=m->k<=l.length->Pn.rdF l m k=b0Z (a7t m k (l.drop k))
 | 0,k,hm,hk=>by
  have:l.drop k=[]:=List.drop_eq_nil_iff.2 (by omega)
  rw[this,a2w];rfl
 | m+1,k,hm,hk=>by
  rw[Pn.rdF];by_cases h:k<l.length
  ·have hne:l.drop k≠[]:=fun e=>by have:=List.drop_eq_nil_iff.1 e;omega
   have hb:=b94 l k h;rw[c2Y h]at hb;simp only at hb;rw[if_pos h,c2Y h,a7t,dif_neg hne,List.drop_drop];simp only[Int.toNat_natCast];(rw[c2W l m (k+(Pn.chk (l.drop k)).size) (by omega) (by omega)]);simp[b0Z]
  ·have:l.drop k=[]:=List.drop_eq_nil_iff.2 (by omega)
   rw[if_neg h,this,a2w];rfl
theorem c4F (s:ByteArray):b1x s.data.toList=b6x s:=by
 unfold b1x b6x c49;have hsz:s.data.toList.length=s.size:=by show s.data.toList.length=s.data.size;rw[Array.length_toList]
 rw[c2W _ _ 0 (by omega) (by omega),hsz]
 rfl
def a9s (l:List UInt8):Nat->Nat->List IT
 | 0,_=>[]
 | m+1,k=>if k<l.length then (if (Pn.itR l k).2=0 then [] else (k,(Pn.itR l k).1)::a9s l m (k+(Pn.itR l k).2.toNat)) else []
theorem c6a {i:Pn.Ins} (h:Pn.right i=true):zB i=false:=by
 obtain ⟨k,_,ho⟩:=b9E h;unfold zB;have:(i.op==0)=false:=by rw[ho];simp;omega
 rw[this];rfl
theorem b6N (l:List UInt8):∀(m k:Nat),l.length-k<=m->k<=l.length->a9s l m k=((a7t m k (l.drop k)).takeWhile fun x=>!zB x.1.2.ins).map b9V
 | 0,k,hm,hk=>by
  have:l.drop k=[]:=List.drop_eq_nil_iff.2 (by omega)
  rw[this,a2w];rfl
 | m+1,k,hm,hk=>by
  rw[a9s];by_cases h:k<l.length
  ·have hne:l.drop k≠[]:=fun e=>by have:=List.drop_eq_nil_iff.1 e;omega
   rw[if_pos h,a7t,dif_neg hne,List.drop_drop,List.takeWhile_cons];have hn:=b8B l k;rcases c2T h with ⟨h0,hc⟩|⟨h2,hc,hr⟩|⟨h4,hc,hr⟩
   ·rw[if_pos h0]
    (have hz:zB (Pn.chk (l.drop k)).ins=true:=by rw[hc];split<;>rfl);simp only[hz];rfl
   ·have hz:zB (Pn.chk (l.drop k)).ins=false:=by rw[hc];exact c6a hr
    (have hs:(Pn.chk (l.drop k)).size=2:=by rw[hc]);simp only[hz,hs];(rw[if_neg (by omega),b6N l m _ (by omega) (by omega),h2]);simp[b9V,hc]
   ·have hz:zB (Pn.chk (l.drop k)).ins=false:=by rw[hc];exact c6a hr
    (have hs:(Pn.chk (l.drop k)).size=4:=by rw[hc]);simp only[hz,hs];(rw[if_neg (by omega),b6N l m _ (by omega) (by omega),h4]);simp[b9V,hc]
  ·have:l.drop k=[]:=List.drop_eq_nil_iff.2 (by omega)
   rw[if_neg h,this,a2w];rfl
theorem b46 (s:ByteArray):a9s s.data.toList s.size 0=a0z s:=by
 have hsz:s.data.toList.length=s.size:=by show s.data.toList.length=s.data.size;rw[Array.length_toList]
 rw[b6N _ _ 0 (by omega) (by omega)]
 rfl
