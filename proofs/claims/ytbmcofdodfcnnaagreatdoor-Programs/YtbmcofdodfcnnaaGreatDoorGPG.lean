import Derived.Lib.ItoaMem
import Derived.Lib.IndexAny
import Derived.Lib.IndexLaws
import Derived.Test.YtbmcofdodfcnnaaGreatDoorGQ
set_option linter.all false
set_option maxHeartbeats 400000000
set_option maxRecDepth 100000
namespace Pn
open Go
theorem b7t {P:UInt8->Bool} (h:P 35=false) {rest:List UInt8} (hr:rest=[]\/∃q,rest=35::q):∀L:List UInt8,(L++rest).takeWhile P=L.takeWhile P
 | []=>by rcases hr with rfl|⟨q,rfl⟩<;>simp[h]
 | c::L=>by
  by_cases hc:P c=true
  ·simp[hc,b7t h hr L]
  ·simp[hc]
theorem b4J {f:UInt8->Bool} (h:f 35=false) {rest:List UInt8} (hr:rest=[]\/∃q,rest=35::q) (L:List UInt8):((L++rest).head?.map f=some true)↔(L.head?.map f=some true):=by
 cases L with
 | nil=>rcases hr with rfl|⟨q,rfl⟩<;>simp[h]
 | cons c L=>simp
theorem b8v (P:UInt8->Bool) (L:List UInt8):(L.takeWhile P).length<=L.length:=List.Sublist.length_le (List.takeWhile_sublist _)
theorem b3M {rest:List UInt8} (hr:rest=[]\/∃q,rest=35::q) (c:UInt8) (L:List UInt8):a2x c (L++rest)=a2x c L:=by
 have h1:=b7t (P:=a0s) rfl hr L;have h2:=b7t (P:=dig) rfl hr L;have h3:=b4J (f:=dig) rfl hr L;have h4:=b4J (f:=fun d=>a0o d.toNat) rfl hr (L.drop (L.takeWhile dig).length)
 have h5:(L++rest).drop (L.takeWhile dig).length=L.drop (L.takeWhile dig).length++rest:=List.drop_append_of_le_length (b8v _ _);unfold a2x;simp only[h1,h2,h3,h5,h4]
theorem c12 {c:UInt8} {r:List UInt8} {k v:Int} {n:Nat} (h:a2x c r=some (k,v,n)):n<=r.length:=by
 unfold a2x at h;have h1:=b8v a0s r;have h2:=b8v dig r
 repeat' split at h
 all_goals first|(cases h;done)|(simp only[Option.some.injEq,Prod.mk.injEq]at h;omega)
theorem a7q {rest:List UInt8} (hr:rest=[]\/∃q,rest=35::q):∀(n:Nat) (L:List UInt8) (b:Bool),L.length<=n->a00 (L++rest) b=a00 L b
 | n,[],b,_=>by
  rcases hr with rfl|⟨q,rfl⟩
  ·rfl
  ·simp only[List.nil_append];rw[a4K 35 q b rfl,a3o]
 | 0,c::L,b,h=>by simp at h
 | n+1,c::L,b,h=>by
  have hL:L.length<=n:=by simpa using h
  by_cases h35:c=35
  ·rw[List.cons_append,a4K _ _ _ h35,a4K _ _ _ h35]
  ·by_cases hb:c=32\/c=9
   ·rw[List.cons_append,a1q _ _ _ hb,a1q _ _ _ hb,a7q hr n L true hL]
   ·cases ht:a2x c L with
    | none=>rw[List.cons_append,a0v _ _ _ h35 hb (by rw[b3M hr];exact ht),a0v _ _ _ h35 hb ht]
    | some x=>
     obtain ⟨k,v,m⟩:=x;have hm:=c12 ht
     rw[List.cons_append,a0X _ _ _ h35 hb k v m (by rw[b3M hr];exact ht),a0X _ _ _ h35 hb k v m ht,List.drop_append_of_le_length hm,List.take_append_of_le_length hm,
      a7q hr n (L.drop m) false (by simp;omega)]
theorem b4U (k:Int):∀(l t:List UInt8),a1d l k t=a1d (l.dropWhile fun c=>goes k c.toNat) k (t++l.takeWhile fun c=>goes k c.toNat)
 | [],t=>by simp
 | c::l,t=>by
  by_cases h:goes k c.toNat=true
  ·rw[a4E h,b4U k l (t++[c])]
   simp[h]
  ·simp[h]
theorem a77 (r:Int):goes 0 r=false:=by simp[goes]
theorem b5E (r:Int):goes 3 r=false:=by simp[goes]
theorem a54 (l t:List UInt8):a1d l 0 t=a1d l 0 []:=by
 cases l with
 | nil=>rfl
 | cons c l=>simp[a1d,a77,a36]
theorem b8C (k:Int) (l t:List UInt8) (h:l=[]\/∃c r,l=c::r/\goes k c.toNat=false):a1d l k t=(a36 k t).bind fun ps=>(a1d l 0 []).map (ps++·):=by
 rcases h with rfl|⟨c,r,rfl,hg⟩
 ·simp only[a1d,a5R]
  cases a36 k t<;>simp
 ·simp only[a1d,hg,a77,a5R,Bool.false_eq_true,if_false,Option.bind_some,List.nil_append]
  cases a36 k t with
  | none=>rfl
  | some ps=>
   simp only[Option.bind_some]
   cases beg c.toNat with
   | none=>rfl
   | some k'=>simp
theorem b0M (p:UInt8->Bool):∀l:List UInt8,l.dropWhile p=[]\/∃c r,l.dropWhile p=c::r/\p c=false
 | []=>.inl rfl
 | c::l=>by
  by_cases h:p c=true
  ·simp only[List.dropWhile_cons,h,if_true];exact b0M p l
  ·right;exact ⟨c,l,by simp[h],by simpa using h⟩
theorem a3n (k:Int) (l t:List UInt8):a1d l k t=(a36 k (t++l.takeWhile fun c=>goes k c.toNat)).bind fun ps=>(a1d (l.dropWhile fun c=>goes k c.toNat) 0 []).map (ps++·):=by
 rw[b4U,b8C _ _ _ (b0M _ l)]
theorem a08 (c:UInt8) (r:List UInt8):a1d (c::r) 0 []=(beg c.toNat).bind fun k'=>a1d r k' [c]:=by
 simp only[a1d,a77,a5R,Bool.false_eq_true,if_false,Option.bind_some,List.nil_append]
 cases beg c.toNat with
 | none=>rfl
 | some k'=>simp
theorem a48:∀(l:List UInt8) (k:Int) (t:List UInt8) (A:List Pc),a1d l k t=some A->(46∈l\/(46∈t/\k=1))->∃p∈A,p.1=1/\(46:UInt8)∈p.2
 | [],k,t,A,h,hd=>by
  rcases hd with hd|⟨hd,rfl⟩
  ·simp at hd
  ·simp only[a1d,a36]at h
   simp[a5m]at h;subst h;exact ⟨_,List.mem_singleton_self _,rfl,hd⟩
 | c::l,k,t,A,h,hd=>by
  by_cases hg:goes k c.toNat=true
  ·rw[a4E hg]at h
   refine a48 l k (t++[c]) A h ?_;rcases hd with hd|⟨hd,rfl⟩
   ·rcases List.mem_cons.1 hd with rfl|hd
    ·right
     (refine ⟨by simp,?_⟩);unfold goes at hg
     split at hg
     ·assumption
     ·split at hg
      ·simp[a0t]at hg
      ·cases hg
    ·exact .inl hd
   ·exact .inr ⟨by simp[hd],rfl⟩
  ·have hg':goes k c.toNat=false:=by simpa using hg
   cases he:a36 k t with
   | none=>rw[a7o hg' he]at h;cases h
   | some ps=>
    cases hb:beg c.toNat with
    | none=>rw[a7I hg' hb]at h;cases h
    | some k'=>
     rw[a5J hg' he hb]at h
     cases hc:a1d l k' [c] with
     | none=>rw[hc]at h;cases h
     | some B=>
      rw[hc]at h;simp only[Option.map_some,Option.some.injEq]at h;subst h;rcases hd with hd|⟨hd,rfl⟩
      ·have:46∈l\/((46:UInt8)∈[c]/\k'=1):=by
        rcases List.mem_cons.1 hd with rfl|hd
        ·right
         (refine ⟨by simp,?_⟩);(have e:beg ((46:UInt8).toNat)=some 1:=by decide);rw[e]at hb;cases hb;rfl
        ·exact .inl hd
       obtain ⟨p,hp,h1,h2⟩:=a48 l k' [c] B hc this;exact ⟨p,List.mem_append_right _ hp,h1,h2⟩
      ·simp[a36,a5m]at he
       subst he;exact ⟨(1,t),by simp,rfl,hd⟩
def ck (k:Int):Int:=if k=119 then 1 else if k=105 then 2 else 3
def conv (t:Tok):Pc:=(ck t.kind,t.text)
def a3i (t:Tok):Prop:=
 (t.kind=119/\(∀c∈t.text,a0s c=true)/\∃c r,t.text=c::r/\a0o c.toNat=true)\/
 (t.kind=105/\Lib.atoiAll t.text=.ok t.num/\∃c r,t.text=c::r/\a0o c.toNat=false)\/
 ((t.kind=44\/t.kind=40\/t.kind=41\/t.kind=58)/\∃c:UInt8,t.text=[c]/\(c.toNat:Int)=t.kind/\a0o c.toNat=false)
def Adj (ps:List Pc):Prop:=∃i a b,ps[i]?=some a/\ps[i+1]?=some b/\a.1=2/\b.1=1
theorem c05 {p:Pc} {ps:List Pc} (h:Adj ps):Adj (p::ps):=by
 obtain ⟨i,a,b,h1,h2,h3,h4⟩:=h;exact ⟨i+1,a,b,by simpa using h1,by simpa using h2,h3,h4⟩
def Rel (o:Option (List Tok)) (q:Option (List Pc)):Prop:=
 (∃A,o=some A/\q=some (A.map conv)/\∀t∈A,a3i t)\/(o=none/\(q=none\/∃ps,q=some ps/\Adj ps))
theorem b0Q {o:Option (List Tok)} {q:Option (List Pc)} {t:Tok} (hg:a3i t) (h:Rel o q):Rel (o.map (t::·)) (q.map (conv t::·)):=by
 rcases h with ⟨A,rfl,rfl,hA⟩|⟨rfl,rfl|⟨ps,rfl,ha⟩⟩
 ·left
  exact ⟨t::A,rfl,rfl,fun u hu=>by rcases List.mem_cons.1 hu with rfl|hu;exact hg;exact hA u hu⟩
 ·right;exact ⟨rfl,.inl rfl⟩
 ·right;exact ⟨rfl,.inr ⟨_,rfl,c05 ha⟩⟩
theorem a9q:∀(l:List UInt8) (acc:Nat) (m:Nat),(∀c∈l,dig c=true)->l.length<=m->acc<10^(10-m)->m<=10->∃u:Nat,Lib.parseUint10 acc l=.ok u/\(u:Int)=a2t acc l/\u<10^10
 | [],acc,m,_,_,ha,hm=>⟨acc,rfl,rfl,Nat.lt_of_lt_of_le ha (Nat.pow_le_pow_right (by omega) (by omega))⟩
 | c::l,acc,m,hd,hl,ha,hm=>by
  have hc:dig c=true:=hd c (by simp)
  have hb:48<=c.toNat/\c.toNat<=57:=by
   unfold dig a0t at hc;simp at hc;omega
  obtain ⟨m',rfl⟩:∃m',m=m'+1:=⟨m-1,by simp at hl;omega⟩
  have hacc:acc*10+(c.toNat-48)<10^(10-m'):=by
   (have e:10-m'=(10-(m'+1))+1:=by omega);rw[e,Nat.pow_succ];omega
  have hle:10^(10-m')<=10^10:=Nat.pow_le_pow_right (by omega) (by omega)
  obtain ⟨u,h1,h2,h3⟩:=a9q l (acc*10+(c.toNat-48)) m' (fun d h=>hd d (by simp[h])) (by simpa using hl) hacc (by omega)
  refine ⟨u,?_,?_,h3⟩
  ·have hp:(10:Nat)^10=10000000000:=by decide
   (have hle2:10^(10-(m'+1))<=10^10:=Nat.pow_le_pow_right (by omega) (by omega));rw[<-h1];simp only[Lib.parseUint10];rw[if_pos hb,if_neg (by omega),if_neg (by omega)]
  ·rw[h2]
   simp only[a2t];congr 1;omega
theorem b32 (l:List UInt8) (hd:∀c∈l,dig c=true) (h1:l≠[]) (h2:l.length<=10):∃u:Nat,Lib.parseMag l=.ok u/\(u:Int)=a2t 0 l/\u<10000000000:=by
 obtain ⟨u,a,b,c⟩:=a9q l 0 10 hd h2 (by decide) (by omega)
 exact ⟨u,by unfold Lib.parseMag;rw[if_neg h1];exact a,b,c⟩
theorem b70 (c:UInt8) (l:List UInt8) (hc:a0t c.toNat=true) (hd:∀d∈l,dig d=true) (h2:l.length+1<=10):Lib.atoiAll (c::l)=.ok (a2t 0 (c::l)):=by
 obtain ⟨u,a,b,d⟩:=b32 (c::l) (fun x hx=>by rcases List.mem_cons.1 hx with rfl|hx;exact hc;exact hd x hx) (by simp) (by simpa using h2)
 have hb:48<=c.toNat/\c.toNat<=57:=by simp[a0t]at hc;omega
 unfold Lib.atoiAll;simp only[if_neg (show ¬(c.toNat=43\/c.toNat=45) by omega),a]
 rw[if_neg (by omega),if_neg (by omega),if_neg (by omega),b]
theorem b6p (l:List UInt8) (hd:∀d∈l,dig d=true) (h1:l≠[]) (h2:l.length<=10):Lib.atoiAll (45::l)=.ok (- a2t 0 l):=by
 obtain ⟨u,a,b,d⟩:=b32 l hd h1 h2;have e:((45:UInt8).toNat)=45:=rfl;unfold Lib.atoiAll;simp only[e,or_true,if_true,a];rw[if_neg (by omega),if_neg (by omega),b]
theorem a40 (p:UInt8->Bool) (l:List UInt8):∀c∈l.takeWhile p,p c=true:=fun c hc=>by
 have:=List.all_takeWhile (p:=p) (l:=l);exact (List.all_eq_true.1 this) c hc
theorem a2F (p:UInt8->Bool) (l:List UInt8):l.take (l.takeWhile p).length=l.takeWhile p:=(List.prefix_iff_eq_take.1 (List.takeWhile_prefix _)).symm
theorem a7U (p:UInt8->Bool):∀l:List UInt8,l.drop (l.takeWhile p).length=l.dropWhile p
 | []=>rfl
 | c::l=>by
  by_cases h:p c=true
  ·simp[h,a7U p l]
  ·simp[h]
theorem b3Z {l:List UInt8} (h:46∉l):(l.takeWhile fun c=>goes 1 c.toNat)=l.takeWhile a0s/\(l.dropWhile fun c=>goes 1 c.toNat)=l.dropWhile a0s:=by
 have key:∀c∈l,goes 1 c.toNat=a0s c:=fun c hc=>by
  have:c≠46:=fun e=>h (e ▸ hc)
  have h2:((c.toNat:Int)==46)=false:=by
   apply beq_false_of_ne;intro e;exact this (a3W (n:=46) e)
  simp[goes,a0s,h2]
 clear h
 induction l with
 | nil=>exact ⟨rfl,rfl⟩
 | cons c l ih=>
  have ih':=ih (fun d hd=>key d (by simp[hd]))
  have hc:=key c (by simp)
  by_cases ha:a0s c=true
  ·rw[ha]at hc;simp[ha,hc,ih'.1,ih'.2]
  ·rw[Bool.not_eq_true]at ha;rw[ha]at hc;simp[ha,hc]
theorem b5b (l:List UInt8):(l.takeWhile fun c=>goes 2 c.toNat)=l.takeWhile dig/\(l.dropWhile fun c=>goes 2 c.toNat)=l.dropWhile dig:=⟨rfl,rfl⟩
theorem a7R (l:List UInt8):(l.takeWhile fun c=>goes 3 c.toNat)=[]/\(l.dropWhile fun c=>goes 3 c.toNat)=l:=by
 cases l<;>simp[b5E]
theorem b3P {p:UInt8->Bool} {x:UInt8} {l:List UInt8} (h:x∉l):x∉l.dropWhile p:=fun hx=>h ((List.dropWhile_sublist p).subset hx)
theorem b6I {c:UInt8} {r:List UInt8} {b:Bool} {num:Int} {m:Nat} (hm:(r.takeWhile dig).length=m) (h35:c≠35) (hbl:¬(c=32\/c=9)) (hbeg:beg c.toNat=some 2) (hsm:a0o c.toNat=false)
    (hbad:a7k (c::r.takeWhile dig)=false->a2x c r=none)
    (hlet:a7k (c::r.takeWhile dig)=true->((r.drop m).head?.map fun d=>a0o d.toNat)=some true->a2x c r=none)
    (hok:a7k (c::r.takeWhile dig)=true->((r.drop m).head?.map fun d=>a0o d.toNat)≠some true->a2x c r=some (105,num,m)/\Lib.atoiAll (c::r.takeWhile dig)=.ok num)
    (ih:∀b,Rel (a00 (r.drop m) b) (a1d (r.drop m) 0 [])):Rel (a00 (c::r) b) (a1d (c::r) 0 []):=by
 have hdrop:r.drop m=r.dropWhile dig:=by rw[<-hm];exact a7U dig r
 have hc:a1d (c::r) 0 []=(a36 2 (c::r.takeWhile dig)).bind fun ps=>(a1d (r.drop m) 0 []).map (ps++·):=by
  rw[a08,hbeg,Option.bind_some,a3n,(b5b r).1,(b5b r).2,hdrop];rfl
 by_cases hi:a7k (c::r.takeWhile dig)=true
 ·have he:a36 2 (c::r.takeWhile dig)=some [(2,c::r.takeWhile dig)]:=a4l rfl (by simp[a5m,hi])
  rw[hc,he,Option.bind_some];by_cases hl:((r.drop m).head?.map fun d=>a0o d.toNat)=some true
  ·rw[a0v _ _ _ h35 hbl (hlet hi hl)]
   right
   refine ⟨rfl,?_⟩
   cases hcm:a1d (r.drop m) 0 [] with
   | none=>left;rfl
   | some ps=>
    right
    refine ⟨_,rfl,?_⟩
    cases hr:r.drop m with
    | nil=>rw[hr]at hl;simp at hl
    | cons d q=>
     rw[hr]at hl hcm;simp at hl;(have hb1:beg d.toNat=some 1:=by simp[beg,hl]);rw[a08,hb1,Option.bind_some,a3n]at hcm;(have he1:∀t,a36 1 t=some [(1,t)]:=fun t=>a4l rfl (by simp[a5m]));rw[he1,Option.bind_some]at hcm
     cases hq:a1d (q.dropWhile fun c=>goes 1 c.toNat) 0 [] with
     | none=>rw[hq]at hcm;cases hcm
     | some B=>
      rw[hq]at hcm;simp only[Option.map_some,Option.some.injEq]at hcm;subst hcm;exact ⟨0,_,_,rfl,rfl,rfl,rfl⟩
  ·obtain ⟨ht,ha⟩:=hok hi hl
   rw[a0X _ _ _ h35 hbl _ _ _ ht]
   have hg:a3i ⟨105,c::r.take m,num,b⟩:=by
    right;left
    refine ⟨rfl,?_,c,_,rfl,hsm⟩;show Lib.atoiAll (c::r.take m)=.ok num;rw[<-hm,a2F];exact ha
   have:=b0Q hg (ih false)
   have e:conv ⟨105,c::r.take m,num,b⟩=(2,c::r.takeWhile dig):=by
    show (ck 105,c::r.take m)=_;rw[<-hm,a2F];rfl
   rw[e]at this;exact this
 ·have hi':a7k (c::r.takeWhile dig)=false:=by simpa using hi
  rw[hc,b3J rfl (by simp[a5m,hi']),a0v _ _ _ h35 hbl (hbad hi')]
  right;exact ⟨rfl,.inl rfl⟩
theorem b93 {c:UInt8} {l:List UInt8} (h:c≠45):Lib.trimPrefix (c::l) [45]=c::l:=by
 unfold Lib.trimPrefix Lib.hasPrefix;have:(45==c)=false:=beq_false_of_ne (fun e=>h e.symm)
 simp[List.isPrefixOf,this]
theorem b58 (l:List UInt8):Lib.trimPrefix (45::l) [45]=l:=by
 unfold Lib.trimPrefix Lib.hasPrefix;simp[List.isPrefixOf]
theorem a5j:∀(n:Nat) (L:List UInt8) (b:Bool),L.length<=n->46∉L->35∉L->Rel (a00 L b) (a1d L 0 [])
 | n,[],b,_,_,_=>by
  rw[a3o];left;exact ⟨[],rfl,rfl,fun t h=>by simp at h⟩
 | 0,c::r,b,h,_,_=>by simp at h
 | n+1,c::r,b,h,h46,h35=>by
  have hr:r.length<=n:=by simpa using h
  have n46:46∉r:=fun e=>h46 (by simp[e])
  have n35:35∉r:=fun e=>h35 (by simp[e])
  have c46:c≠46:=fun e=>h46 (by simp[e])
  have c35:c≠35:=fun e=>h35 (by simp[e])
  have ihd:∀m b,Rel (a00 (r.drop m) b) (a1d (r.drop m) 0 []):=fun m b=>
   a5j n (r.drop m) b (by simp;omega) (fun e=>n46 (List.mem_of_mem_drop e)) (fun e=>n35 (List.mem_of_mem_drop e))
  by_cases hbl:c=32\/c=9
  ·rw[a1q _ _ _ hbl]
   (have hb:beg c.toNat=some 0:=by rcases hbl with rfl|rfl<;>decide);rw[a08,hb,Option.bind_some,a54];exact a5j n r true hr n46 n35
  ·by_cases hs:a0o c.toNat=true
   ·have hb:beg c.toNat=some 1:=by simp[beg,hs]
    have ht:a2x c r=some (119,0,(r.takeWhile a0s).length):=a4R c r hs _ rfl;rw[a0X _ _ _ c35 hbl _ _ _ ht,a08,hb,Option.bind_some,a3n,(b3Z n46).1,(b3Z n46).2];(have he:a36 1 ([c]++r.takeWhile a0s)=some [(1,c::r.takeWhile a0s)]:=a4l rfl (by simp[a5m]));rw[he,Option.bind_some]
    have hg:a3i ⟨119,c::r.take (r.takeWhile a0s).length,0,b⟩:=by
     left
     refine ⟨rfl,?_,c,_,rfl,hs⟩;show ∀d∈c::r.take (r.takeWhile a0s).length,a0s d=true;rw[a2F];intro d hd;rcases List.mem_cons.1 hd with rfl|hd
     ·simp[a0s,hs]
     ·exact a40 a0s r d hd
    have:=b0Q hg (ihd (r.takeWhile a0s).length false);rw[a7U]at this ⊢
    have e:conv ⟨119,c::r.take (r.takeWhile a0s).length,0,b⟩=(1,c::r.takeWhile a0s):=by
     show (ck 119,c::r.take (r.takeWhile a0s).length)=_;rw[a2F];rfl
    rw[e]at this;exact this
   ·have hs':a0o c.toNat=false:=by simpa using hs
    (have q46:((c.toNat:Int)==46)=false:=beq_false_of_ne (fun e=>c46 (a3W (n:=46) e)));by_cases hd:a0t c.toNat=true
    ·have hb:beg c.toNat=some 2:=by simp[beg,hs',q46,hd]
     have c45:c≠45:=fun e=>by rw[e]at hd;exact absurd hd (by decide)
     have hI:a7k (c::r.takeWhile dig)=decide ((r.takeWhile dig).length+1<=10):=by
      unfold a7k;rw[b93 c45];simp
     refine b6I (num:=a2t 0 (c::r.take (r.takeWhile dig).length)) rfl c35 hbl hb hs' (fun hi=>?_) (fun hi hl=>?_) (fun hi hl=>?_) (ihd _)
     ·rw[hI]at hi;exact a4d c r hs' hd _ rfl (by simp at hi;omega)
     ·exact a4O c r hs' hd _ rfl hl
     ·rw[hI]at hi
      (have hi':(r.takeWhile dig).length+1<=10:=by simpa using hi);(refine ⟨b0k c r hs' hd _ rfl (by omega) hl,?_⟩);rw[a2F];exact b70 c _ hd (a40 dig r) hi'
    ·have hd':a0t c.toNat=false:=by simpa using hd
     by_cases c45:c=45
     ·subst c45
      have hI:a7k (45::r.takeWhile dig)=(decide (1<=(r.takeWhile dig).length)&&decide ((r.takeWhile dig).length<=10)):=by
       unfold a7k;rw[b58]
      have hhd:1<=(r.takeWhile dig).length->r.head?.map dig=some true:=fun hl=>by
       cases r with
       | nil=>simp at hl
       | cons d q=>
        by_cases hq:dig d=true
        ·simp[hq]
        ·simp[hq]at hl
      refine b6I (num:=- a2t 0 (r.take (r.takeWhile dig).length)) rfl c35 hbl (by decide) hs' (fun hi=>?_) (fun hi hl=>?_) (fun hi hl=>?_) (ihd _)
      ·rw[hI]at hi
       by_cases h1:1<=(r.takeWhile dig).length
       ·exact a35 r (hhd h1) _ rfl (by simp[h1]at hi;omega)
       ·refine a5G 45 r hs' hd' (fun hx=>?_) (by decide)
        cases r with
        | nil=>simp at hx
        | cons d q=>
         (have hq:dig d=true:=by simpa using hx.2);simp[hq]at h1
      ·rw[hI]at hi
       (have h1:1<=(r.takeWhile dig).length:=by simp at hi;omega);exact a4Z r (hhd h1) _ rfl hl
      ·rw[hI]at hi
       (have h1:1<=(r.takeWhile dig).length/\(r.takeWhile dig).length<=10:=by simpa using hi);(refine ⟨b0z r (hhd h1.1) _ rfl (by omega) hl,?_⟩);rw[a2F];exact b6p _ (a40 dig r) (fun e=>by rw[e]at h1;simp at h1) h1.2
     ·have q45:((c.toNat:Int)==45)=false:=beq_false_of_ne (fun e=>c45 (a3W (n:=45) e))
      by_cases hm:c=44\/c=40\/c=41\/c=58
      ·have hb:beg c.toNat=some 3:=by rcases hm with rfl|rfl|rfl|rfl<;>decide
       (have ht:a2x c r=some ((c.toNat:Int),0,0):=a1S c r (by rcases hm with h|h|h|h<;>simp[h]));rw[a0X _ _ _ c35 hbl _ _ _ ht,a08,hb,Option.bind_some,a3n,(a7R r).1,(a7R r).2];(have he:a36 3 ([c]++[])=some [(3,[c])]:=a4l rfl (by simp[a5m]));rw[he,Option.bind_some]
       have hg:a3i ⟨(c.toNat:Int),c::r.take 0,0,b⟩:=by
        right;right
        (refine ⟨?_,c,by simp,rfl,hs'⟩);show (c.toNat:Int)=44\/(c.toNat:Int)=40\/(c.toNat:Int)=41\/(c.toNat:Int)=58;rcases hm with rfl|rfl|rfl|rfl<;>decide
       have:=b0Q hg (ihd 0 false)
       have e:conv ⟨(c.toNat:Int),c::r.take 0,0,b⟩=(3,[c]):=by
        show (ck (c.toNat:Int),c::r.take 0)=_;(have:ck (c.toNat:Int)=3:=by rcases hm with rfl|rfl|rfl|rfl<;>decide);rw[this];simp
       rw[e]at this;exact this
      ·have ht:a2x c r=none:=a5G c r hs' hd' (fun hx=>c45 hx.1) (by rintro (h|h|h|h|h);exact hm (.inl h);exact hm (.inr (.inl h));exact hm (.inr (.inr (.inl h)));exact hm (.inr (.inr (.inr h)));exact c46 h)
       have ne:∀m:Nat,c≠UInt8.ofNat m->((c.toNat:Int)==(m:Int))=false:=fun m hm=>beq_false_of_ne (fun e=>hm (a3W e))
       have hb:beg c.toNat=none:=by
        (have a1:((c.toNat:Int)==44)=false:=ne 44 (fun e=>hm (.inl e)));(have a2:((c.toNat:Int)==58)=false:=ne 58 (fun e=>hm (.inr (.inr (.inr e)))));(have a3:((c.toNat:Int)==40)=false:=ne 40 (fun e=>hm (.inr (.inl e))));(have a4:((c.toNat:Int)==41)=false:=ne 41 (fun e=>hm (.inr (.inr (.inl e)))));(have a5:((c.toNat:Int)==32)=false:=ne 32 (fun e=>hbl (.inl e)));(have a6:((c.toNat:Int)==9)=false:=ne 9 (fun e=>hbl (.inr e)));simp only[beg,hs',hd',q46,q45,a1,a2,a3,a4,a5,a6,Bool.or_self,Bool.false_eq_true,if_false]
       rw[a0v _ _ _ c35 hbl ht,a08,hb]
       right;exact ⟨rfl,.inl rfl⟩
theorem b5w {c:UInt8} {r:List UInt8} {k v:Int} {m:Nat} (h:a2x c r=some (k,v,m)):∀d∈r.take m,a0s d=true\/dig d=true:=by
 unfold a2x at h;intro d hd
 repeat' split at h
 all_goals first
  | (cases h;done)
  | (simp only[Option.some.injEq,Prod.mk.injEq]at h
     obtain ⟨_,_,rfl⟩:=h
     first
     | (rw[a2F]at hd;exact .inl (a40 _ _ d hd))
     | (rw[a2F]at hd;exact .inr (a40 _ _ d hd))
     | simp at hd)
theorem a3l:∀(n:Nat) (L:List UInt8) (b:Bool) (A:List Tok),L.length<=n->46∈L->35∉L->a00 L b=some A->∃t∈A,t.kind=46
 | n,[],b,A,_,h,_,_=>by simp at h
 | 0,c::r,b,A,h,_,_,_=>by simp at h
 | n+1,c::r,b,A,h,h46,h35,ht=>by
  have hr:r.length<=n:=by simpa using h
  have n35:35∉r:=fun e=>h35 (by simp[e])
  have c35:c≠35:=fun e=>h35 (by simp[e])
  by_cases hbl:c=32\/c=9
  ·rw[a1q _ _ _ hbl]at ht
   refine a3l n r true A hr ?_ n35 ht;rcases List.mem_cons.1 h46 with e|e
   ·rcases hbl with h|h<;>(rw[h]at e;exact absurd e (by decide))
   ·exact e
  ·cases hq:a2x c r with
   | none=>rw[a0v _ _ _ c35 hbl hq]at ht;cases ht
   | some x=>
    obtain ⟨k,v,m⟩:=x;rw[a0X _ _ _ c35 hbl _ _ _ hq]at ht
    cases hB:a00 (r.drop m) false with
    | none=>rw[hB]at ht;cases ht
    | some B=>
     rw[hB]at ht;simp only[Option.map_some,Option.some.injEq]at ht;subst ht;by_cases hc:c=46
     ·subst hc
      (rw[a1S 46 r (by simp)]at hq);simp only[Option.some.injEq,Prod.mk.injEq]at hq;exact ⟨_,List.mem_cons_self ..,hq.1.symm⟩
     ·have hmem:46∈r:=by
       rcases List.mem_cons.1 h46 with e|e
       ·exact absurd e.symm hc
       ·exact e
      have hnt:(46:UInt8)∉r.take m:=fun hx=>by
       have:=b5w hq _ hx;rcases this with h|h<;>exact absurd h (by decide)
      have hd:46∈r.drop m:=by
       have:=(List.take_append_drop m r).symm ▸ hmem;rcases List.mem_append.1 this with e|e
       ·exact absurd e hnt
       ·exact e
      (obtain ⟨t,h1,h2⟩:=a3l n (r.drop m) false B (by simp;omega) hd (fun e=>n35 (List.mem_of_mem_drop e)) hB);exact ⟨t,by simp[h1],h2⟩
theorem b4w:∀(l:List UInt8) (a:Int),(∀c∈l,dig c=true)->0<=a->0<=a2t a l/\a2t a l<(a+1)*10^l.length
 | [],a,_,h0=>by simp[a2t];omega
 | c::l,a,h,h0=>by
  have hc:=h c (by simp)
  unfold dig a0t at hc;simp at hc;have ih:=b4w l (10*a+c.toNat-48) (fun d hd=>h d (by simp[hd])) (by omega)
  have hp:(0:Int)<=10^l.length:=Int.le_of_lt (Int.pow_pos (by decide))
  have hm:(10*a+c.toNat-48+1)*10^l.length<=((a+1)*10)*10^l.length:=Int.mul_le_mul_of_nonneg_right (by omega) hp
  rw[a2t,List.length_cons,Int.pow_succ,Int.mul_comm (10^l.length) 10,<-Int.mul_assoc];omega
theorem b5h {l:List UInt8} (h:∀c∈l,dig c=true) (hl:l.length<=10):0<=a2t 0 l/\a2t 0 l<=10000000000:=by
 have hb:=b4w l 0 h (by omega)
 have hp:(10:Int)^l.length<=10^10:=by
  have:(10:Nat)^l.length<=10^10:=Nat.pow_le_pow_right (by decide) hl
  exact_mod_cast this
 have e:(10:Int)^10=10000000000:=by decide
 omega
theorem c1X {c:UInt8} {r:List UInt8} {k v:Int} {n:Nat} (h:a2x c r=some (k,v,n)):-10000000000<=v/\v<=10000000000:=by
 unfold a2x at h
 split at h
 ·injection h with h;injection h with _ h;injection h with h _;omega
 ·split at h
  ·rename_i hd
   split at h
   ·cases h
   ·split at h
    ·cases h
    ·rename_i hn _
     injection h with h;injection h with _ h;injection h with h _
     have:=b5h (l:=c::r.takeWhile dig) (fun d hd'=>by
      rcases List.mem_cons.1 hd' with rfl|hd'
      ·exact hd
      ·exact a40 dig r d hd') (by simp;omega)
     omega
  ·split at h
   ·split at h
    ·cases h
    ·split at h
     ·cases h
     ·rename_i hn _
      (injection h with h;injection h with _ h;injection h with h _);(have:=b5h (l:=r.takeWhile dig) (a40 dig r) (by omega));omega
   ·split at h
    ·injection h with h;injection h with _ h;injection h with h _;omega
    ·cases h
theorem a8A:∀(n:Nat) (l:List UInt8) (b:Bool) (T:List Tok),a4t n l b=some T->∀t∈T,-10000000000<=t.num/\t.num<=10000000000
 | 0,l,b,T,h=>by
  injection h with h;subst h;intro t ht;cases ht
 | n+1,[],b,T,h=>by
  injection h with h;subst h;intro t ht;cases ht
 | n+1,c::r,b,T,h=>by
  simp only[a4t]at h
  split at h
  ·injection h with h;subst h;intro t ht;cases ht
  ·split at h
   ·exact a8A n r true T h
   ·split at h
    ·cases h
    ·rename_i k v m hk
     cases hT:a4t n (r.drop m) false with
     | none=>rw[hT]at h;cases h
     | some T'=>
      rw[hT]at h;(injection h with h);subst h;intro t ht;rcases List.mem_cons.1 ht with rfl|ht
      ·exact c1X hk
      ·exact a8A n _ false T' hT t ht
theorem a8z:∀(n:Nat) (l:List UInt8) (b:Bool) (T:List Tok),a4t n l b=some T->T.length<=l.length
 | 0,l,b,T,h=>by
  injection h with h;subst h;simp
 | n+1,[],b,T,h=>by
  injection h with h;subst h;simp
 | n+1,c::r,b,T,h=>by
  simp only[a4t]at h
  split at h
  ·injection h with h;subst h;simp
  ·split at h
   ·have:=a8z n r true T h
    simp;omega
   ·split at h
    ·cases h
    ·rename_i k v m hk
     cases hT:a4t n (r.drop m) false with
     | none=>rw[hT]at h;cases h
     | some T'=>
      rw[hT]at h;(injection h with h);subst h;have:=a8z n _ false T' hT;simp at this ⊢;omega
theorem c0w {l:List UInt8} {b:Bool} {T:List Tok} (h:a00 l b=some T):∀t∈T,-1099511627776<=t.num/\t.num<=1099511627776:=fun t ht=>by
 have:=a8A _ l b T h t ht;omega
theorem b7W {l:List UInt8} {b:Bool} {T:List Tok} (h:a00 l b=some T):T.length<=l.length:=a8z _ l b T h
def rg (v:Nat):List UInt8:=if v<10 then [120,UInt8.ofNat (48+v)] else [120,UInt8.ofNat (48+v/10),UInt8.ofNat (48+v%10)]
theorem b9P {v:Nat} (h:v<100):a67 (v:Int)=rg v:=by
 unfold a67 rg;rw[Lib.itoa_nonneg];by_cases h1:v<10
 ·rw[if_pos h1,Lib.decDigits_one h1]
 ·rw[if_neg h1,Lib.decDigits_two h1 h]
theorem c4a:∀v,v<32->Lib.hasPrefix (rg v) [120]=true/\Lib.atoiAll (Lib.trimPrefix (rg v) [120])=.ok (v:Int):=by decide
theorem c2w:∀v,v<32->a6J 119 ⟨(rg v).toArray⟩=(v:Int):=by decide
theorem c4u {v:Nat} (h:v<32):a2l (rg v)=some (v:Int):=by
 obtain ⟨h1,h2⟩:=c4a v h;unfold a2l;rw[if_pos h1,h2];simp only;rw[if_pos ⟨by omega,b9P (by omega)⟩]
theorem c2k {T:List UInt8} {v:Int} (hT:∀c∈T,a0s c=true) (h:a2l T=some v):∃u:Nat,u<32/\v=u/\T=rg u:=by
 unfold a2l at h
 split at h
 ·split at h
  ·rename_i w hw
   split at h
   ·rename_i hq
    have hwv:w=v:=Option.some.inj h;rw[hwv]at hq;by_cases hv:0<=v
    ·obtain ⟨u,rfl⟩:=Int.eq_ofNat_of_zero_le hv
     exact ⟨u,by omega,rfl,by rw[<-hq.2,b9P (by omega)]⟩
    ·exfalso
     have hm:(45:UInt8)∈T:=by
      rw[<-hq.2];unfold a67 Lib.itoa;(rw[if_pos (by omega)]);simp
     exact absurd (hT 45 hm) (by decide)
   ·cases h
  ·cases h
 ·cases h
theorem c1l {T:List UInt8} (h:¬a6J 119 ⟨T.toArray⟩<0):∃u:Nat,u<32/\T=rg u:=by
 unfold a6J at h
 split at h
 ·rename_i hc
  obtain ⟨_,h2,h3,h0,hd,hn,hz⟩:=hc;have hs:(ByteArray.mk T.toArray).size=T.length:=by simp[ByteArray.size]
  rw[hs]at h2 h3 hd hn hz
  match T,h2,h3 with
  | [a,b],_,_=>
   have ea:B ⟨[a,b].toArray⟩ 0=a:=rfl;rw[ea]at h0;(have ha:a=120:=a3W (n:=120) (by omega));(have hb:=a4W hd 1 (by omega) (by simp));have eb:B ⟨[a,b].toArray⟩ 1=b:=rfl;rw[eb]at hb;have hb':=a7N hb;(refine ⟨b.toNat-48,by omega,?_⟩);unfold rg;(rw[if_pos (by omega),ha,show 48+(b.toNat-48)=b.toNat by omega]);simp
  | [a,b,c],_,_=>
   have ea:B ⟨[a,b,c].toArray⟩ 0=a:=rfl;rw[ea]at h0;(have ha:a=120:=a3W (n:=120) (by omega));(have hb:=a4W hd 1 (by omega) (by simp));(have hc:=a4W hd 2 (by omega) (by simp));have eb:B ⟨[a,b,c].toArray⟩ 1=b:=rfl;have ec:B ⟨[a,b,c].toArray⟩ 2=c:=rfl;rw[eb]at hb;rw[ec]at hc;have hb':=a7N hb;have hc':=a7N hc
   have hnum:a1t ⟨[a,b,c].toArray⟩ 1 3=10*(b.toNat-48)+c.toNat-48:=by
    show a2t 0 [b,c]=_;simp only[a2t];omega
   have hn':a1t ⟨[a,b,c].toArray⟩ 1 3<=31:=hn;rw[hnum]at hn';(have hz':b.toNat≠48:=fun e=>hz ⟨rfl,by rw[eb];exact e⟩);(refine ⟨10*(b.toNat-48)+(c.toNat-48),by omega,?_⟩);unfold rg;(rw[if_neg (by omega),ha,show 48+(10*(b.toNat-48)+(c.toNat-48))/10=b.toNat by omega,show 48+(10*(b.toNat-48)+(c.toNat-48))%10=c.toNat by omega]);simp
 ·exact absurd (by decide) h
theorem b6K {T:List UInt8} (hT:∀c∈T,a0s c=true):a2l T=if a6J 119 ⟨T.toArray⟩<0 then none else some (a6J 119 ⟨T.toArray⟩):=by
 by_cases h:a6J 119 ⟨T.toArray⟩<0
 ·rw[if_pos h]
  cases hp:a2l T with
  | none=>rfl
  | some v=>
   obtain ⟨u,hu,_,rfl⟩:=c2k hT hp;rw[c2w u hu]at h;omega
 ·rw[if_neg h]
  obtain ⟨u,hu,rfl⟩:=c1l h;rw[c2w u hu];exact c4u hu
theorem b8f {t:Tok} (h:a3i t):a2l t.text=if a6J t.kind t.S<0 then none else some (a6J t.kind t.S):=by
 rcases h with ⟨hk,ha,_⟩|hx
 ·rw[hk];exact b6K ha
 ·have hk:t.kind≠119/\∃c r,t.text=c::r/\a0o c.toNat=false:=by
   rcases hx with ⟨hk,_,c,r,h1,h2⟩|⟨hk,c,h1,_,h2⟩
   ·exact ⟨by omega,c,r,h1,h2⟩
   ·exact ⟨by omega,c,[],h1,h2⟩
  obtain ⟨hk,c,r,ht,hs⟩:=hk;have h1:a6J t.kind t.S=-1:=a4k (fun hx=>hk hx.1)
  rw[h1,if_pos (by decide)]
  have hp:Lib.hasPrefix t.text [120]=false:=by
   rw[ht];(have:(120==c)=false:=beq_false_of_ne (fun e=>by rw[<-e]at hs;exact absurd hs (by decide)));simp[Lib.hasPrefix,List.isPrefixOf,this]
  simp[a2l,hp]
theorem b1A {t:Tok} (h:a3i t):a4U (ck t.kind) t.text=if t.kind=105 then some t.num else none:=by
 rcases h with ⟨hk,_⟩|⟨hk,ha,_⟩|⟨hk,_⟩
 ·simp[hk,ck,a4U]
 ·simp[hk,ck,a4U,ha]
 ·have:ck t.kind=3:=by unfold ck;rw[if_neg (by omega),if_neg (by omega)]
  rw[this,if_neg (by omega)];rfl
theorem b8h {t:Tok} (h:a3i t):a4x (ck t.kind) t.text=decide (t.kind=119/\t.S.size<=8):=by
 have hs:t.S.size=t.text.length:=by simp[Tok.S,ByteArray.size]
 rw[hs];rcases h with ⟨hk,ha,_⟩|hx
 ·have h46:(0<=Lib.indexByte t.text 46)=False:=by
   apply eq_false;intro hx;have:=Lib.contains_iff_indexByte t.text 46;rw[decide_eq_true hx]at this;(have hm:(46:UInt8)∈t.text:=by simpa using this);exact absurd (ha 46 hm) (by decide)
  simp[a4x,hk,ck,h46]
 ·have hk:t.kind≠119:=by rcases hx with ⟨hk,_⟩|⟨hk,_⟩<;>omega
  have:ck t.kind≠1:=by unfold ck;rw[if_neg hk];split<;>decide
  simp[a4x,hk,this]
theorem b7j {t:Tok} (h:a3i t) (f:UInt8) (hf:f=44\/f=40\/f=41):(t.text=[f])↔((f.toNat:Int)=t.kind):=by
 have hfn:a0o f.toNat=false/\((f.toNat:Int)≠119/\(f.toNat:Int)≠105):=by rcases hf with rfl|rfl|rfl<;>decide
 rcases h with ⟨hk,_,c,r,ht,hs⟩|⟨hk,ha,c,r,ht,hs⟩|⟨hk,c,ht,hc,hs⟩
 ·constructor
  ·intro e;rw[ht]at e;cases e;rw[hs]at hfn;exact absurd hfn.1 (by decide)
  ·intro e;omega
 ·constructor
  ·intro e
   rw[e]at ha;(have q1:(match Lib.atoiAll [44] with | .ok _=>false|_=>true)=true:=by decide);(have q2:(match Lib.atoiAll [40] with | .ok _=>false|_=>true)=true:=by decide);(have q3:(match Lib.atoiAll [41] with | .ok _=>false|_=>true)=true:=by decide);rcases hf with rfl|rfl|rfl
   ·rw[ha]at q1;cases q1
   ·rw[ha]at q2;cases q2
   ·rw[ha]at q3;cases q3
  ·intro e;omega
 ·rw[ht]
  constructor
  ·intro e;cases e;exact hc
  ·intro e
   have:c=f:=by
    (have:c.toNat=f.toNat:=by omega);exact UInt8.toNat_inj.1 this
   rw[this]
theorem a8D {t:Tok} (h:a3i t) (l:List Tok) (F:List UInt8) (rs:List Int) (n:Int) (nm:ByteArray):a0r (t::l) (114::F) rs n nm=(a2l t.text).bind fun v=>a0r l F (rs++[v]) n nm:=by
 rw[b8f h];by_cases hr:a6J t.kind t.S<0
 ·rw[b1C rfl _ _ _ _ _ _ hr,if_pos hr];rfl
 ·rw[b9J rfl _ _ _ _ _ _ hr,if_neg hr];rfl
theorem c2P {t:Tok} (h:a3i t) (l:List Tok) (F:List UInt8) (rs:List Int) (n:Int) (nm:ByteArray):a0r (t::l) (105::F) rs n nm=(a4U (ck t.kind) t.text).bind fun v=>a0r l F rs v nm:=by
 rw[b1A h];by_cases hr:t.kind=105
 ·rw[a9B (by decide) (.inl rfl) _ _ _ _ _ _ hr,if_pos hr];rfl
 ·rw[if_neg hr]
  exact a5y (by decide) _ _ _ _ _ _ (fun x=>hr x.2) (fun x=>absurd x.1 (by decide)) (fun x=>x.2 rfl)
theorem a8U {t:Tok} (h:a3i t) (f:UInt8) (hf:f=44\/f=40\/f=41) (l:List Tok) (F:List UInt8) (rs:List Int) (n:Int) (nm:ByteArray):a0r (t::l) (f::F) rs n nm=if t.text=[f] then a0r l F rs n nm else none:=by
 have hm:=b7j h f hf;have h1:f≠114:=by rcases hf with rfl|rfl|rfl<;>decide
 have h2:¬((f=105\/f=116)/\t.kind=105):=by rintro ⟨h|h,_⟩<;>(rw[h]at hf;exact absurd hf (by decide))
 have h3:¬(f=116/\t.kind=119/\t.S.size<=8):=by rintro ⟨h,_⟩;rw[h]at hf;exact absurd hf (by decide)
 have h4:f≠105:=by rcases hf with rfl|rfl|rfl<;>decide
 by_cases hq:t.text=[f]
 ·rw[if_pos hq,b1T h1 _ _ _ _ _ _ h2 h3 (hm.1 hq) h4]
 ·rw[if_neg hq,a5y h1 _ _ _ _ _ _ h2 h3 (fun x=>hq (hm.2 x.1))]
theorem c8c {t:Tok} (h:a3i t) (l:List Tok) (F:List UInt8) (rs:List Int) (n:Int) (nm:ByteArray):
    a0r (t::l) (116::F) rs n nm=if a4x (ck t.kind) t.text then a0r l F rs n t.S else (a4U (ck t.kind) t.text).bind fun v=>a0r l F rs v nm:=by
 rw[b1A h,b8h h];by_cases h1:t.kind=105
 ·rw[a9B (by decide) (.inr rfl) _ _ _ _ _ _ h1,if_pos h1,decide_eq_false (by rintro ⟨a,_⟩;omega)];rfl
 ·by_cases h2:t.kind=119/\t.S.size<=8
  ·rw[b8e rfl _ _ _ _ _ _ h2.1 h2.2,decide_eq_true h2];rfl
  ·rw[decide_eq_false h2,if_neg h1]
   (refine a5y (by decide) _ _ _ _ _ _ (fun x=>h1 x.2) (fun x=>h2 x.2) (fun x=>?_));(have:t.kind=116:=by have:=x.1;simp at this;omega);rcases h with ⟨hk,_⟩|⟨hk,_⟩|⟨hk,_⟩<;>omega
theorem b6U (k:Int) (t:List UInt8) (i:Ins) (tg:List UInt8):a1i 100 k t i tg=(a2l t).map fun n=>({ i with rd:=n },tg):=rfl
theorem b9U (k:Int) (t:List UInt8) (i:Ins) (tg:List UInt8):a1i 115 k t i tg=(a2l t).map fun n=>({ i with rs1:=n },tg):=rfl
theorem c7T (k:Int) (t:List UInt8) (i:Ins) (tg:List UInt8):a1i 116 k t i tg=(a2l t).map fun n=>({ i with rs2:=n },tg):=rfl
theorem c02 (k:Int) (t:List UInt8) (i:Ins) (tg:List UInt8):a1i 105 k t i tg=(a4U k t).map fun n=>({ i with imm:=n },tg):=rfl
theorem c7V (k:Int) (t:List UInt8) (i:Ins) (tg:List UInt8):a1i 112 k t i tg=if a4x k t then some (i,t) else (a4U k t).map fun n=>({ i with imm:=n },tg):=rfl
theorem a3I (k:Int) (t:List UInt8) (i:Ins) (tg:List UInt8):a1i 44 k t i tg=if t=[44] then some (i,tg) else none:=rfl
theorem c2n (k:Int) (t:List UInt8) (i:Ins) (tg:List UInt8):a1i 40 k t i tg=if t=[40] then some (i,tg) else none:=rfl
theorem c2l (k:Int) (t:List UInt8) (i:Ins) (tg:List UInt8):a1i 41 k t i tg=if t=[41] then some (i,tg) else none:=rfl
def both (k:Nat) (x:List Int×Int×ByteArray):Ins×List UInt8:=(a2m k x.1 x.2.1,x.2.2.data.toList)
theorem a0m (r:UInt8) (F:List UInt8) (t:Tok) (l:List Tok) (i:Ins) (tg:List UInt8):a0i (r::F) ((t::l).map conv) i tg=(a1i r (ck t.kind) t.text i tg).bind fun s=>a0i F (l.map conv) s.1 s.2:=rfl
theorem a8m (t:Tok) (l:List Tok) (rs:List Int) (n:Int) (nm:ByteArray):a0r (t::l) [] rs n nm=none:=by simp[a0r]
theorem b1i (t:Tok) (l:List Tok) (i:Ins) (tg:List UInt8):a0i [] ((t::l).map conv) i tg=none:=rfl
theorem tS (t:Tok):t.S.data.toList=t.text:=by simp[Tok.S]
theorem a0G:∀(F:List UInt8) (l:List Pc) (i:Ins) (tg:List UInt8),l.length≠F.length->a0i F l i tg=none
 | [],[],_,_,h=>by simp at h
 | [],p::l,_,_,_=>by simp[a0i]
 | r::F,[],_,_,_=>by simp[a0i]
 | r::F,(k,t)::l,i,tg,h=>by
  simp only[a0i]
  cases a1i r k t i tg with
  | none=>rfl
  | some s=>exact a0G F l s.1 s.2 (by simpa using h)
theorem a1X (i:Ins) (tg:List UInt8):a0i [] (([]:List Tok).map conv) i tg=some (i,tg):=rfl
theorem c7Z {A:List Tok} (h:A.length=5):∃a b c d e,A=[a,b,c,d,e]:=by
 match A,h with
 | [a,b,c,d,e],_=>exact ⟨a,b,c,d,e,rfl⟩
theorem c9U {A:List Tok} (h:A.length=6):∃a b c d e f,A=[a,b,c,d,e,f]:=by
 match A,h with
 | [a,b,c,d,e,f],_=>exact ⟨a,b,c,d,e,f,rfl⟩
theorem c2r {A:List Tok} (h:A.length=3):∃a b c,A=[a,b,c]:=by
 match A,h with
 | [a,b,c],_=>exact ⟨a,b,c,rfl⟩
theorem c8n {k:Nat} {A:List Tok} (hA:∀t∈A,a3i t) (h:(row k).kind=82):a0i (shp (row k).kind) (A.map conv) ⟨k+1,0,0,0,0⟩ []=(a0r A (a0B (row k).kind) [] 0 ⟨#[]⟩).map (both k):=by
 rw[h,show shp 82=[100,44,115,44,116] from rfl,show a0B 82=[114,44,114,44,114] from rfl]
 by_cases hl:¬A.length=5
 ·rw[a1c _ _ _ _ _ (by simpa using hl),a0G _ _ _ _ (by simpa using hl)];rfl
 replace hl:=Classical.not_not.1 hl;obtain ⟨a,b,c,d,e,rfl⟩:=c7Z hl;rw[a0m,b6U,a8D (hA a (by simp))]
 cases a2l a.text with
 | none=>rfl
 | some v0=>
  simp only[Option.map_some,Option.bind_some];rw[a0m,a3I,a8U (hA b (by simp)) 44 (by simp)]
  by_cases hq1:¬b.text=[44]
  ·rw[if_neg hq1,if_neg hq1];rfl
  replace hq1:=Classical.not_not.1 hq1;rw[if_pos hq1,if_pos hq1,Option.bind_some];rw[a0m,b9U,a8D (hA c (by simp))]
  cases a2l c.text with
  | none=>rfl
  | some v2=>
   simp only[Option.map_some,Option.bind_some];(rw[a0m,a3I,a8U (hA d (by simp)) 44 (by simp)]);by_cases hq3:¬d.text=[44]
   ·rw[if_neg hq3,if_neg hq3];rfl
   replace hq3:=Classical.not_not.1 hq3;rw[if_pos hq3,if_pos hq3,Option.bind_some];rw[a0m,c7T,a8D (hA e (by simp))]
   cases a2l e.text with
   | none=>rfl
   | some v4=>
    simp only[Option.map_some,Option.bind_some];rw[a1X,a0J];show _=some (both k _);unfold both;rw[b7s k _ _ h];rfl
theorem c8E {k:Nat} {A:List Tok} (hA:∀t∈A,a3i t) (h:(row k).kind=73):a0i (shp (row k).kind) (A.map conv) ⟨k+1,0,0,0,0⟩ []=(a0r A (a0B (row k).kind) [] 0 ⟨#[]⟩).map (both k):=by
 rw[h,show shp 73=[100,44,115,44,105] from rfl,show a0B 73=[114,44,114,44,105] from rfl]
 by_cases hl:¬A.length=5
 ·rw[a1c _ _ _ _ _ (by simpa using hl),a0G _ _ _ _ (by simpa using hl)];rfl
 replace hl:=Classical.not_not.1 hl;obtain ⟨a,b,c,d,e,rfl⟩:=c7Z hl;rw[a0m,b6U,a8D (hA a (by simp))]
 cases a2l a.text with
 | none=>rfl
 | some v0=>
  simp only[Option.map_some,Option.bind_some];rw[a0m,a3I,a8U (hA b (by simp)) 44 (by simp)]
  by_cases hq1:¬b.text=[44]
  ·rw[if_neg hq1,if_neg hq1];rfl
  replace hq1:=Classical.not_not.1 hq1;rw[if_pos hq1,if_pos hq1,Option.bind_some];rw[a0m,b9U,a8D (hA c (by simp))]
  cases a2l c.text with
  | none=>rfl
  | some v2=>
   simp only[Option.map_some,Option.bind_some];(rw[a0m,a3I,a8U (hA d (by simp)) 44 (by simp)]);by_cases hq3:¬d.text=[44]
   ·rw[if_neg hq3,if_neg hq3];rfl
   replace hq3:=Classical.not_not.1 hq3;rw[if_pos hq3,if_pos hq3,Option.bind_some];rw[a0m,c02,c2P (hA e (by simp))]
   cases a4U (ck e.kind) e.text with
   | none=>rfl
   | some v4=>
    simp only[Option.map_some,Option.bind_some];rw[a1X,a0J];show _=some (both k _);unfold both;rw[a8b k _ _ (by omega)];rfl
theorem c8P {k:Nat} {A:List Tok} (hA:∀t∈A,a3i t) (h:(row k).kind=72):a0i (shp (row k).kind) (A.map conv) ⟨k+1,0,0,0,0⟩ []=(a0r A (a0B (row k).kind) [] 0 ⟨#[]⟩).map (both k):=by
 rw[h,show shp 72=[100,44,115,44,105] from rfl,show a0B 72=[114,44,114,44,105] from rfl]
 by_cases hl:¬A.length=5
 ·rw[a1c _ _ _ _ _ (by simpa using hl),a0G _ _ _ _ (by simpa using hl)];rfl
 replace hl:=Classical.not_not.1 hl;obtain ⟨a,b,c,d,e,rfl⟩:=c7Z hl;rw[a0m,b6U,a8D (hA a (by simp))]
 cases a2l a.text with
 | none=>rfl
 | some v0=>
  simp only[Option.map_some,Option.bind_some];rw[a0m,a3I,a8U (hA b (by simp)) 44 (by simp)]
  by_cases hq1:¬b.text=[44]
  ·rw[if_neg hq1,if_neg hq1];rfl
  replace hq1:=Classical.not_not.1 hq1;rw[if_pos hq1,if_pos hq1,Option.bind_some];rw[a0m,b9U,a8D (hA c (by simp))]
  cases a2l c.text with
  | none=>rfl
  | some v2=>
   simp only[Option.map_some,Option.bind_some];(rw[a0m,a3I,a8U (hA d (by simp)) 44 (by simp)]);by_cases hq3:¬d.text=[44]
   ·rw[if_neg hq3,if_neg hq3];rfl
   replace hq3:=Classical.not_not.1 hq3;rw[if_pos hq3,if_pos hq3,Option.bind_some];rw[a0m,c02,c2P (hA e (by simp))]
   cases a4U (ck e.kind) e.text with
   | none=>rfl
   | some v4=>
    simp only[Option.map_some,Option.bind_some];rw[a1X,a0J];show _=some (both k _);unfold both;rw[a8b k _ _ (by omega)];rfl
theorem c9w {k:Nat} {A:List Tok} (hA:∀t∈A,a3i t) (h:(row k).kind=87):a0i (shp (row k).kind) (A.map conv) ⟨k+1,0,0,0,0⟩ []=(a0r A (a0B (row k).kind) [] 0 ⟨#[]⟩).map (both k):=by
 rw[h,show shp 87=[100,44,115,44,105] from rfl,show a0B 87=[114,44,114,44,105] from rfl]
 by_cases hl:¬A.length=5
 ·rw[a1c _ _ _ _ _ (by simpa using hl),a0G _ _ _ _ (by simpa using hl)];rfl
 replace hl:=Classical.not_not.1 hl;obtain ⟨a,b,c,d,e,rfl⟩:=c7Z hl;rw[a0m,b6U,a8D (hA a (by simp))]
 cases a2l a.text with
 | none=>rfl
 | some v0=>
  simp only[Option.map_some,Option.bind_some];rw[a0m,a3I,a8U (hA b (by simp)) 44 (by simp)]
  by_cases hq1:¬b.text=[44]
  ·rw[if_neg hq1,if_neg hq1];rfl
  replace hq1:=Classical.not_not.1 hq1;rw[if_pos hq1,if_pos hq1,Option.bind_some];rw[a0m,b9U,a8D (hA c (by simp))]
  cases a2l c.text with
  | none=>rfl
  | some v2=>
   simp only[Option.map_some,Option.bind_some];(rw[a0m,a3I,a8U (hA d (by simp)) 44 (by simp)]);by_cases hq3:¬d.text=[44]
   ·rw[if_neg hq3,if_neg hq3];rfl
   replace hq3:=Classical.not_not.1 hq3;rw[if_pos hq3,if_pos hq3,Option.bind_some];rw[a0m,c02,c2P (hA e (by simp))]
   cases a4U (ck e.kind) e.text with
   | none=>rfl
   | some v4=>
    simp only[Option.map_some,Option.bind_some];rw[a1X,a0J];show _=some (both k _);unfold both;rw[a8b k _ _ (by omega)];rfl
theorem c9J {k:Nat} {A:List Tok} (hA:∀t∈A,a3i t) (h:(row k).kind=76):a0i (shp (row k).kind) (A.map conv) ⟨k+1,0,0,0,0⟩ []=(a0r A (a0B (row k).kind) [] 0 ⟨#[]⟩).map (both k):=by
 rw[h,show shp 76=[100,44,105,40,115,41] from rfl,show a0B 76=[114,44,105,40,114,41] from rfl]
 by_cases hl:¬A.length=6
 ·rw[a1c _ _ _ _ _ (by simpa using hl),a0G _ _ _ _ (by simpa using hl)];rfl
 replace hl:=Classical.not_not.1 hl;obtain ⟨a,b,c,d,e,f,rfl⟩:=c9U hl;rw[a0m,b6U,a8D (hA a (by simp))]
 cases a2l a.text with
 | none=>rfl
 | some v0=>
  simp only[Option.map_some,Option.bind_some];rw[a0m,a3I,a8U (hA b (by simp)) 44 (by simp)]
  by_cases hq1:¬b.text=[44]
  ·rw[if_neg hq1,if_neg hq1];rfl
  replace hq1:=Classical.not_not.1 hq1;rw[if_pos hq1,if_pos hq1,Option.bind_some];rw[a0m,c02,c2P (hA c (by simp))]
  cases a4U (ck c.kind) c.text with
  | none=>rfl
  | some v2=>
   simp only[Option.map_some,Option.bind_some];(rw[a0m,c2n,a8U (hA d (by simp)) 40 (by simp)]);by_cases hq3:¬d.text=[40]
   ·rw[if_neg hq3,if_neg hq3];rfl
   replace hq3:=Classical.not_not.1 hq3;rw[if_pos hq3,if_pos hq3,Option.bind_some];rw[a0m,b9U,a8D (hA e (by simp))]
   cases a2l e.text with
   | none=>rfl
   | some v4=>
    simp only[Option.map_some,Option.bind_some];(rw[a0m,c2l,a8U (hA f (by simp)) 41 (by simp)]);by_cases hq5:¬f.text=[41]
    ·rw[if_neg hq5,if_neg hq5];rfl
    replace hq5:=Classical.not_not.1 hq5;rw[if_pos hq5,if_pos hq5,Option.bind_some];rw[a1X,a0J];show _=some (both k _);unfold both;rw[a8b k _ _ (by omega)];rfl
theorem c9x {k:Nat} {A:List Tok} (hA:∀t∈A,a3i t) (h:(row k).kind=83):a0i (shp (row k).kind) (A.map conv) ⟨k+1,0,0,0,0⟩ []=(a0r A (a0B (row k).kind) [] 0 ⟨#[]⟩).map (both k):=by
 rw[h,show shp 83=[116,44,105,40,115,41] from rfl,show a0B 83=[114,44,105,40,114,41] from rfl]
 by_cases hl:¬A.length=6
 ·rw[a1c _ _ _ _ _ (by simpa using hl),a0G _ _ _ _ (by simpa using hl)];rfl
 replace hl:=Classical.not_not.1 hl;obtain ⟨a,b,c,d,e,f,rfl⟩:=c9U hl;rw[a0m,c7T,a8D (hA a (by simp))]
 cases a2l a.text with
 | none=>rfl
 | some v0=>
  simp only[Option.map_some,Option.bind_some];rw[a0m,a3I,a8U (hA b (by simp)) 44 (by simp)]
  by_cases hq1:¬b.text=[44]
  ·rw[if_neg hq1,if_neg hq1];rfl
  replace hq1:=Classical.not_not.1 hq1;rw[if_pos hq1,if_pos hq1,Option.bind_some];rw[a0m,c02,c2P (hA c (by simp))]
  cases a4U (ck c.kind) c.text with
  | none=>rfl
  | some v2=>
   simp only[Option.map_some,Option.bind_some];(rw[a0m,c2n,a8U (hA d (by simp)) 40 (by simp)]);by_cases hq3:¬d.text=[40]
   ·rw[if_neg hq3,if_neg hq3];rfl
   replace hq3:=Classical.not_not.1 hq3;rw[if_pos hq3,if_pos hq3,Option.bind_some];rw[a0m,b9U,a8D (hA e (by simp))]
   cases a2l e.text with
   | none=>rfl
   | some v4=>
    simp only[Option.map_some,Option.bind_some];(rw[a0m,c2l,a8U (hA f (by simp)) 41 (by simp)]);by_cases hq5:¬f.text=[41]
    ·rw[if_neg hq5,if_neg hq5];rfl
    replace hq5:=Classical.not_not.1 hq5;rw[if_pos hq5,if_pos hq5,Option.bind_some];rw[a1X,a0J];show _=some (both k _);unfold both;rw[b8X k _ _ h];rfl
theorem c9u {k:Nat} {A:List Tok} (hA:∀t∈A,a3i t) (h:(row k).kind=66):a0i (shp (row k).kind) (A.map conv) ⟨k+1,0,0,0,0⟩ []=(a0r A (a0B (row k).kind) [] 0 ⟨#[]⟩).map (both k):=by
 rw[h,show shp 66=[115,44,116,44,112] from rfl,show a0B 66=[114,44,114,44,116] from rfl]
 by_cases hl:¬A.length=5
 ·rw[a1c _ _ _ _ _ (by simpa using hl),a0G _ _ _ _ (by simpa using hl)];rfl
 replace hl:=Classical.not_not.1 hl;obtain ⟨a,b,c,d,e,rfl⟩:=c7Z hl;rw[a0m,b9U,a8D (hA a (by simp))]
 cases a2l a.text with
 | none=>rfl
 | some v0=>
  simp only[Option.map_some,Option.bind_some];rw[a0m,a3I,a8U (hA b (by simp)) 44 (by simp)]
  by_cases hq1:¬b.text=[44]
  ·rw[if_neg hq1,if_neg hq1];rfl
  replace hq1:=Classical.not_not.1 hq1;rw[if_pos hq1,if_pos hq1,Option.bind_some];rw[a0m,c7T,a8D (hA c (by simp))]
  cases a2l c.text with
  | none=>rfl
  | some v2=>
   simp only[Option.map_some,Option.bind_some];(rw[a0m,a3I,a8U (hA d (by simp)) 44 (by simp)]);by_cases hq3:¬d.text=[44]
   ·rw[if_neg hq3,if_neg hq3];rfl
   replace hq3:=Classical.not_not.1 hq3;rw[if_pos hq3,if_pos hq3,Option.bind_some];(rw[a0m,c7V,c8c (hA e (by simp))]);by_cases hn:a4x (ck e.kind) e.text=true
   ·rw[if_pos hn,if_pos hn,Option.bind_some]
    rw[a1X,a0J];show _=some (both k _);unfold both;rw[b0U k _ _ h,tS];rfl
   ·rw[if_neg hn,if_neg hn]
    cases a4U (ck e.kind) e.text with
    | none=>rfl
    | some v4=>
     simp only[Option.map_some,Option.bind_some];rw[a1X,a0J];show _=some (both k _);unfold both;rw[b0U k _ _ h];rfl
theorem c9N {k:Nat} {A:List Tok} (hA:∀t∈A,a3i t) (h:(row k).kind=85):a0i (shp (row k).kind) (A.map conv) ⟨k+1,0,0,0,0⟩ []=(a0r A (a0B (row k).kind) [] 0 ⟨#[]⟩).map (both k):=by
 rw[h,show shp 85=[100,44,105] from rfl,show a0B 85=[114,44,105] from rfl]
 by_cases hl:¬A.length=3
 ·rw[a1c _ _ _ _ _ (by simpa using hl),a0G _ _ _ _ (by simpa using hl)];rfl
 replace hl:=Classical.not_not.1 hl;obtain ⟨a,b,c,rfl⟩:=c2r hl;rw[a0m,b6U,a8D (hA a (by simp))]
 cases a2l a.text with
 | none=>rfl
 | some v0=>
  simp only[Option.map_some,Option.bind_some];rw[a0m,a3I,a8U (hA b (by simp)) 44 (by simp)]
  by_cases hq1:¬b.text=[44]
  ·rw[if_neg hq1,if_neg hq1];rfl
  replace hq1:=Classical.not_not.1 hq1;rw[if_pos hq1,if_pos hq1,Option.bind_some];rw[a0m,c02,c2P (hA c (by simp))]
  cases a4U (ck c.kind) c.text with
  | none=>rfl
  | some v2=>
   simp only[Option.map_some,Option.bind_some];rw[a1X,a0J];show _=some (both k _);unfold both;rw[a7Y k _ _ (by omega)];rfl
theorem c8z {k:Nat} {A:List Tok} (hA:∀t∈A,a3i t) (h:(row k).kind=74):a0i (shp (row k).kind) (A.map conv) ⟨k+1,0,0,0,0⟩ []=(a0r A (a0B (row k).kind) [] 0 ⟨#[]⟩).map (both k):=by
 rw[h,show shp 74=[100,44,112] from rfl,show a0B 74=[114,44,116] from rfl]
 by_cases hl:¬A.length=3
 ·rw[a1c _ _ _ _ _ (by simpa using hl),a0G _ _ _ _ (by simpa using hl)];rfl
 replace hl:=Classical.not_not.1 hl;obtain ⟨a,b,c,rfl⟩:=c2r hl;rw[a0m,b6U,a8D (hA a (by simp))]
 cases a2l a.text with
 | none=>rfl
 | some v0=>
  simp only[Option.map_some,Option.bind_some];rw[a0m,a3I,a8U (hA b (by simp)) 44 (by simp)]
  by_cases hq1:¬b.text=[44]
  ·rw[if_neg hq1,if_neg hq1];rfl
  replace hq1:=Classical.not_not.1 hq1;rw[if_pos hq1,if_pos hq1,Option.bind_some];rw[a0m,c7V,c8c (hA c (by simp))]
  by_cases hn:a4x (ck c.kind) c.text=true
  ·rw[if_pos hn,if_pos hn,Option.bind_some]
   rw[a1X,a0J];show _=some (both k _);unfold both;rw[a7Y k _ _ (by omega),tS];rfl
  ·rw[if_neg hn,if_neg hn]
   cases a4U (ck c.kind) c.text with
   | none=>rfl
   | some v2=>
    simp only[Option.map_some,Option.bind_some];rw[a1X,a0J];show _=some (both k _);unfold both;rw[a7Y k _ _ (by omega)];rfl
theorem c8g {k:Nat} {A:List Tok} (h:(row k).kind=78):a0i (shp (row k).kind) (A.map conv) ⟨k+1,0,0,0,0⟩ []=(a0r A (a0B (row k).kind) [] 0 ⟨#[]⟩).map (both k):=by
 rw[h,show shp 78=[] from rfl,show a0B 78=[] from rfl]
 cases A with
 | nil=>
  rw[a1X,a0J];show _=some (both k _);unfold both;rw[b62 k _ _ h]
 | cons t A=>rw[a8m,b1i];rfl
theorem b7y {k:Nat} {A:List Tok} (hk:k<64) (hA:∀t∈A,a3i t):a0i (shp (row k).kind) (A.map conv) ⟨k+1,0,0,0,0⟩ []=(a0r A (a0B (row k).kind) [] 0 ⟨#[]⟩).map (both k):=by
 rcases kinds k hk with h|h|h|h|h|h|h|h|h|h
 ·exact c8n hA h
 ·exact c8E hA h
 ·exact c9J hA h
 ·exact c8P hA h
 ·exact c9w hA h
 ·exact c9x hA h
 ·exact c9u hA h
 ·exact c9N hA h
 ·exact c8z hA h
 ·exact c8g h
theorem b2g:∀k,k<64->(row k).name≠[]/\∀c∈(row k).name,a0o c.toNat=true:=by decide
theorem a2Y {T:List UInt8} (h:∃d∈T,a0o d.toNat=false):(List.range 64).find? (a1v ⟨T.toArray⟩)=none:=by
 obtain ⟨d,hd,hs⟩:=h;apply a1I;intro k hk;obtain ⟨_,h2⟩:=b2g k hk;unfold a1v;apply beq_false_of_ne;intro e;rw[ByteArray.toList_eq]at e;have e':(row k).name=T:=by simpa using e
 rw[<-e']at hd;rw[h2 d hd]at hs;cases hs
theorem a2P {nm:ByteArray} {l:List Pc} (h:(List.range 64).find? (a1v nm)=none):a0W nm l=(⟨0,0,0,0,0⟩,4):=by simp only[a0W,h]
theorem a1V {nm:ByteArray} {l:List Pc} (h:∀k,k<64->a0i (shp (row k).kind) l ⟨k+1,0,0,0,0⟩ []=none):a0W nm l=(⟨0,0,0,0,0⟩,4):=by
 unfold a0W
 cases hf:(List.range 64).find? (a1v nm) with
 | none=>rfl
 | some k=>
  have hk:k<64:=by rw[List.find?_range_eq_some]at hf;simpa using hf.2.1
  simp only[h k hk]
theorem a3E:∀(F:List UInt8) (l:List Pc) (i:Ins) (tg:List UInt8),(∃p∈l,∀r∈F,∀i tg,a1i r p.1 p.2 i tg=none)->a0i F l i tg=none
 | [],[],_,_,h=>by obtain ⟨p,hp,_⟩:=h;simp at hp
 | [],q::l,_,_,_=>by simp[a0i]
 | r::F,[],_,_,_=>by simp[a0i]
 | r::F,(k,t)::l,i,tg,h=>by
  obtain ⟨p,hp,hb⟩:=h;simp only[a0i];rcases List.mem_cons.1 hp with rfl|hp
  ·rw[hb r (by simp)];rfl
  ·cases a1i r k t i tg with
   | none=>rfl
   | some s=>exact a3E F l s.1 s.2 ⟨p,hp,fun r hr=>hb r (by simp[hr])⟩
theorem a9L:∀(l:List UInt8) (acc u:Nat),Lib.parseUint10 acc l=.ok u->∀c∈l,48<=c.toNat/\c.toNat<=57
 | [],_,_,_,c,hc=>by simp at hc
 | d::l,acc,u,h,c,hc=>by
  simp only[Lib.parseUint10]at h
  split at h
  ·rename_i hd
   split at h
   ·cases h
   ·split at h
    ·cases h
    ·rcases List.mem_cons.1 hc with rfl|hc
     ·exact hd
     ·exact a9L l _ u h c hc
  ·cases h
theorem a9r {l:List UInt8} {v:Int} (h:Lib.atoiAll l=.ok v):(46:UInt8)∉l:=by
 intro hd;unfold Lib.atoiAll at h
 cases l with
 | nil=>simp at hd
 | cons c r=>
  simp only at h
  have hx:(46:UInt8)∈(if c.toNat=43\/c.toNat=45 then r else c::r):=by
   split
   ·rename_i hc
    rcases List.mem_cons.1 hd with e|e
    ·rw[<-e]at hc;exact absurd hc (by decide)
    ·exact e
   ·exact hd
  generalize (if c.toNat=43\/c.toNat=45 then r else c::r)=x at h hx
  cases hp:Lib.parseMag x with
  | ok u=>
   unfold Lib.parseMag at hp
   split at hp
   ·cases hp
   ·exact absurd (a9L _ _ _ hp 46 hx) (by decide)
  | _=>rw[hp]at h;cases h
theorem b0t {t:List UInt8} (h:(46:UInt8)∈t) (r:UInt8) (hr:a7b r) (i:Ins) (tg:List UInt8):a1i r 1 t i tg=none:=by
 have h1:a2l t=none:=by
  unfold a2l
  split
  ·rename_i hp
   cases ha:Lib.atoiAll (Lib.trimPrefix t [120]) with
   | ok v=>
    exfalso;refine a9r ha ?_;unfold Lib.trimPrefix;rw[if_pos hp]
    cases t with
    | nil=>simp at h
    | cons c t=>
     rcases List.mem_cons.1 h with e|e
     ·rw[<-e]at hp;exact absurd hp (by simp[Lib.hasPrefix,List.isPrefixOf])
     ·simpa using e
   | _=>rfl
  ·rfl
 have h2:a4U 1 t=none:=by simp[a4U]
 have h3:a4x 1 t=false:=by
  have:=Lib.contains_iff_indexByte t 46;have hc:t.contains 46=true:=by simpa using h
  rw[hc]at this;simp[a4x,<-this]
 have h4:∀f:UInt8,f≠46->t≠[f]:=fun f hf e=>by rw[e]at h;simp at h;exact hf h.symm
 rcases hr with rfl|rfl|rfl|rfl|rfl|rfl|rfl|rfl
 ·rw[b6U,h1];rfl
 ·rw[b9U,h1];rfl
 ·rw[c7T,h1];rfl
 ·rw[c02,h2];rfl
 ·rw[c7V,h3,h2];rfl
 ·rw[a3I,if_neg (h4 44 (by decide))]
 ·rw[c2n,if_neg (h4 40 (by decide))]
 ·rw[c2l,if_neg (h4 41 (by decide))]
def WfP (ps:List Pc):Prop:=∀p∈ps,∃c r,p.2=c::r/\beg c.toNat=some p.1
theorem a5x:∀(l:List UInt8) (k:Int) (t:List UInt8) (A:List Pc),a1d l k t=some A->(k=0\/∃c r,t=c::r/\beg c.toNat=some k)->WfP A
 | [],k,t,A,h,ht=>by
  simp only[a1d,a36]at h
  split at h
  ·cases h;intro p hp;simp at hp
  ·split at h
   ·cases h
    intro p hp;rw[List.mem_singleton.1 hp];rcases ht with h0|⟨c,r,h1,h2⟩
    ·rename_i hk _;exact absurd h0 hk
    ·exact ⟨c,r,h1,h2⟩
   ·cases h
 | c::l,k,t,A,h,ht=>by
  by_cases hg:goes k c.toNat=true
  ·rw[a4E hg]at h
   refine a5x l k (t++[c]) A h ?_;rcases ht with h0|⟨d,r,h1,h2⟩
   ·exact .inl h0
   ·exact .inr ⟨d,r++[c],by rw[h1];rfl,h2⟩
  ·have hg':goes k c.toNat=false:=by simpa using hg
   cases he:a36 k t with
   | none=>rw[a7o hg' he]at h;cases h
   | some ps=>
    cases hb:beg c.toNat with
    | none=>rw[a7I hg' hb]at h;cases h
    | some k'=>
     rw[a5J hg' he hb]at h
     cases hc:a1d l k' [c] with
     | none=>rw[hc]at h;cases h
     | some B=>
      rw[hc]at h;simp only[Option.map_some,Option.some.injEq]at h;subst h;have hB:=a5x l k' [c] B hc (.inr ⟨c,[],rfl,hb⟩);intro p hp;rcases List.mem_append.1 hp with h1|h1
      ·unfold a36 at he
       split at he
       ·cases he;simp at h1
       ·split at he
        ·cases he
         rw[List.mem_singleton.1 h1];rcases ht with h0|⟨d,r,h2,h3⟩
         ·rename_i hk _;exact absurd h0 hk
         ·exact ⟨d,r,h2,h3⟩
        ·cases he
      ·exact hB p h1
abbrev c0b (r:UInt8):Prop:=r=44\/r=40\/r=41
def Alt:List UInt8->Prop
 | []=>True
 | [_]=>True
 | r::s::F=>(c0b r\/c0b s)/\Alt (s::F)
theorem a99 {kd:Nat} (h:a4i kd):Alt (shp kd):=by
 rcases h with rfl|rfl|rfl|rfl|rfl|rfl|rfl|rfl|rfl|rfl<;>simp[shp,Alt,c0b]
theorem b13 {r:UInt8} (hr:c0b r) {k:Int} {t:List UInt8} {i:Ins} {tg:List UInt8} {s:Ins×List UInt8} (h:a1i r k t i tg=some s):t=[r]:=by
 rcases hr with rfl|rfl|rfl
 ·rw[a3I]at h;split at h;assumption;cases h
 ·rw[c2n]at h;split at h;assumption;cases h
 ·rw[c2l]at h;split at h;assumption;cases h
theorem b4B {r:UInt8} (hr:c0b r):beg r.toNat=some 3:=by rcases hr with rfl|rfl|rfl<;>decide
theorem a13:∀(F:List UInt8) (l:List Pc) (i:Ins) (tg:List UInt8),Alt F->WfP l->Adj l->a0i F l i tg=none
 | [],[],_,_,_,_,h=>by obtain ⟨j,a,b,h1,_⟩:=h;simp at h1
 | [],q::l,_,_,_,_,_=>by simp[a0i]
 | r::F,[],_,_,_,_,_=>by simp[a0i]
 | r::F,(k,t)::l,i,tg,hF,hw,ha=>by
  simp only[a0i]
  cases hs:a1i r k t i tg with
  | none=>rfl
  | some s=>
   simp only[Option.bind_some];obtain ⟨j,a,b,h1,h2,h3,h4⟩:=ha;have hwl:WfP l:=fun p hp=>hw p (by simp[hp])
   cases j with
   | zero=>
    simp at h1;have hk:k=2:=by rw[<-h1]at h3;exact h3
    have hnm:¬c0b r:=fun hm=>by
     have e:=b13 hm hs;(obtain ⟨c,q,hc1,hc2⟩:=hw (k,t) (by simp));simp only at hc1 hc2;rw[e]at hc1;(cases hc1);rw[b4B hm]at hc2;cases hc2;omega
    cases l with
    | nil=>simp at h2
    | cons p l=>
     obtain ⟨k',t'⟩:=p;simp at h2;have hk':k'=1:=by rw[<-h2]at h4;exact h4
     cases F with
     | nil=>rfl
     | cons r' F=>
      (have hm:c0b r':=by rcases hF.1 with h|h;exact absurd h hnm;exact h);simp only[a0i]
      cases hs':a1i r' k' t' s.1 s.2 with
      | none=>rfl
      | some s'=>
       exfalso;have e:=b13 hm hs';(obtain ⟨c,q,hc1,hc2⟩:=hwl (k',t') (by simp));simp only at hc1 hc2;rw[e]at hc1;(cases hc1);rw[b4B hm]at hc2;cases hc2;omega
   | succ j=>
    refine a13 F l s.1 s.2 ?_ hwl ⟨j,a,b,by simpa using h1,by simpa using h2,h3,h4⟩
    cases F with
    | nil=>trivial
    | cons r' F=>exact hF.2
theorem c1z {s:ByteArray} (h1:¬2000<s.size) (h2:¬0<=Lib.indexByte s.data.toList 10):prd s=match a1d (Lib.cut s.data.toList [35]).1 0 [] with
    | none=>(⟨0,0,0,0,0⟩,4)
    | some []=>(⟨0,0,0,0,0⟩,4)
    | some (p::l)=>a0W ⟨p.2.toArray⟩ l:=by
 unfold prd;rw[if_neg (by rintro (a|a);exact h1 a;exact h2 a)]
 rfl
theorem c8F {p:Pc} {l:List Pc} (hw:WfP (p::l)) (ha:Adj (p::l)):a0W ⟨p.2.toArray⟩ l=(⟨0,0,0,0,0⟩,4):=by
 obtain ⟨j,a,b,h1,h2,h3,h4⟩:=ha
 cases j with
 | zero=>
  simp at h1;obtain ⟨c,r,hc1,hc2⟩:=hw p (by simp)
  apply a2P;apply a2Y;refine ⟨c,by rw[hc1];simp,?_⟩
  rw[h1,h3]at hc2
  cases hs:a0o c.toNat with
  | false=>rfl
  | true=>simp[beg,hs]at hc2
 | succ j=>
  apply a1V;intro k hk;exact a13 _ _ _ _ (a99 (a02 k hk)) (fun q hq=>hw q (by simp[hq])) ⟨j,a,b,by simpa using h1,by simpa using h2,h3,h4⟩
theorem c55 {p:Pc} {l:List Pc} (h:∃q∈p::l,q.1=1/\(46:UInt8)∈q.2):a0W ⟨p.2.toArray⟩ l=(⟨0,0,0,0,0⟩,4):=by
 obtain ⟨q,hq,h1,h2⟩:=h;rcases List.mem_cons.1 hq with rfl|hq
 ·apply a2P
  apply a2Y;exact ⟨46,h2,by decide⟩
 ·apply a1V
  intro k hk;refine a3E _ _ _ _ ⟨q,hq,fun r hr i tg=>?_⟩
  rw[h1];exact b0t h2 r (a49 (a02 k hk) r hr) i tg
theorem a5a:∀(l:List Tok) (F:List UInt8) (rs:List Int) (n:Int) (nm:ByteArray),(∃t∈l,t.kind=46)->(∀f∈F,f≠46)->a0r l F rs n nm=none
 | [],_,_,_,_,h,_=>by obtain ⟨t,ht,_⟩:=h;simp at ht
 | t::l,[],_,_,_,_,_=>by simp[a0r]
 | t::l,f::F,rs,n,nm,h,hF=>by
  obtain ⟨u,hu,hk⟩:=h;rcases List.mem_cons.1 hu with rfl|hu
  ·have hr:a6J u.kind u.S=-1:=a4k (fun hx=>by omega)
   simp only[a0r]
   split
   ·rw[if_pos (by rw[hr];decide)]
   ·rw[if_neg (fun x=>by omega),if_neg (fun x=>by omega),if_neg]
    intro x;(have:f=46:=a3W (n:=46) (by rw[x.1,hk];rfl));exact hF f (by simp) this
  ·have ih:=fun rs n nm=>a5a l F rs n nm ⟨u,hu,hk⟩ (fun g hg=>hF g (by simp[hg]))
   simp only[a0r]
   repeat' split
   all_goals first|rfl|exact ih _ _ _
theorem a60 (kd:Nat):∀f∈a0B kd,f≠46:=by
 unfold a0B
 repeat' split
 all_goals decide
theorem a8g {t:Tok} {A:List Tok} (h:∃u∈t::A,u.kind=46):plain t A false=(⟨0,0,0,0,0⟩,⟨#[]⟩,4):=by
 obtain ⟨u,hu,hk⟩:=h
 cases hf:(List.range 64).find? (named t) with
 | none=>exact a1b hf A false
 | some k=>
  rcases List.mem_cons.1 hu with rfl|hu
  ·exfalso
   have:=List.find?_some hf;simp[named,hk]at this
  ·exact a2S hf (a5a _ _ _ _ _ ⟨u,hu,hk⟩ (a60 _)) false
theorem a4I {t:Tok} (h:a3i t):(List.range 64).find? (named t)=(List.range 64).find? (a1v ⟨t.text.toArray⟩):=by
 rcases h with ⟨hk,_⟩|hx
 ·congr 1
  funext k;unfold named a1v;rw[hk,ByteArray.toList_eq];have e:(ByteArray.mk t.text.toArray).data.toList=t.text:=by simp
  rw[e];simp only[beq_self_eq_true,Bool.true_and];exact BEq.comm
 ·have hk:t.kind≠119/\∃d∈t.text,a0o d.toNat=false:=by
   rcases hx with ⟨hk,_,c,r,h1,h2⟩|⟨hk,c,h1,_,h2⟩
   ·exact ⟨by omega,c,by rw[h1];simp,h2⟩
   ·exact ⟨by omega,c,by rw[h1];simp,h2⟩
  rw[a2Y hk.2];apply a1I;intro k _;have:(t.kind==119)=false:=beq_false_of_ne hk.1;simp[named,this]
theorem a7M:∀(l:List Tok) (F:List UInt8) (rs:List Int) (n:Int) (nm:ByteArray) (rs':List Int) (n':Int) (nm':ByteArray),a0r l F rs n nm=some (rs',n',nm')->(∀v∈rs,0<=v/\v<=31)->(∀v∈rs',0<=v/\v<=31)
 | [],[],rs,n,nm,rs',n',nm',h,hr=>by simp[a0r]at h;rw[<-h.1];exact hr
 | [],f::F,_,_,_,_,_,_,h,_=>by simp[a0r]at h
 | t::l,[],_,_,_,_,_,_,h,_=>by simp[a0r]at h
 | t::l,f::F,rs,n,nm,rs',n',nm',h,hr=>by
  simp only[a0r]at h
  split at h
  ·split at h
   ·cases h
   ·rename_i hv
    (refine a7M l F _ _ _ _ _ _ h (fun v hv'=>?_));rcases List.mem_append.1 hv' with h1|h1
    ·exact hr v h1
    ·rw[List.mem_singleton.1 h1]
     have:=b6Z t.kind t.S;omega
  ·repeat' split at h
   all_goals first|exact a7M l F _ _ _ _ _ _ h hr|cases h
theorem a41:∀(l:List Tok) (F:List UInt8) (rs:List Int) (n:Int) (nm:ByteArray) (rs':List Int) (n':Int) (nm':ByteArray),a0r l F rs n nm=some (rs',n',nm')->(∀f∈F,f≠116)->nm'=nm
 | [],[],rs,n,nm,rs',n',nm',h,_=>by simp[a0r]at h;exact h.2.2.symm
 | [],f::F,_,_,_,_,_,_,h,_=>by simp[a0r]at h
 | t::l,[],_,_,_,_,_,_,h,_=>by simp[a0r]at h
 | t::l,f::F,rs,n,nm,rs',n',nm',h,hF=>by
  have hF':∀g∈F,g≠116:=fun g hg=>hF g (by simp[hg])
  have hf:f≠116:=hF f (by simp)
  simp only[a0r]at h
  split at h
  ·split at h
   ·cases h
   ·exact a41 l F _ _ _ _ _ _ h hF'
  ·split at h
   ·exact a41 l F _ _ _ _ _ _ h hF'
   ·split at h
    ·rename_i hx;exact absurd hx.1 hf
    ·split at h
     ·exact a41 l F _ _ _ _ _ _ h hF'
     ·cases h
theorem a2p:∀(l:List Tok) (G:List UInt8) (rs:List Int) (n:Int) (nm:ByteArray) (rs':List Int) (n':Int) (nm':ByteArray),a0r l (G++[116]) rs n nm=some (rs',n',nm')->(∀f∈G,f≠105/\f≠116)->n'=n\/nm'=nm
 | [],[],rs,n,nm,rs',n',nm',h,_=>by simp[a0r]at h
 | [],f::F,_,_,_,_,_,_,h,_=>by simp[a0r]at h
 | t::l,[],rs,n,nm,rs',n',nm',h,_=>by
  simp only[List.nil_append,a0r]at h
  split at h
  ·rename_i hx;exact absurd hx (by decide)
  ·split at h
   ·cases l with
    | nil=>simp[a0r]at h;exact .inr h.2.2.symm
    | cons a l=>simp[a0r]at h
   ·split at h
    ·cases l with
     | nil=>simp[a0r]at h;exact .inl h.2.1.symm
     | cons a l=>simp[a0r]at h
    ·split at h
     ·cases l with
      | nil=>simp[a0r]at h;exact .inl h.2.1.symm
      | cons a l=>simp[a0r]at h
     ·cases h
 | t::l,f::G,rs,n,nm,rs',n',nm',h,hG=>by
  have hG':∀g∈G,g≠105/\g≠116:=fun g hg=>hG g (by simp[hg])
  have hf:=hG f (by simp)
  simp only[List.cons_append,a0r]at h
  split at h
  ·split at h
   ·cases h
   ·exact a2p l G _ _ _ _ _ _ h hG'
  ·split at h
   ·rename_i hx;rcases hx.1 with e|e;exact absurd e hf.1;exact absurd e hf.2
   ·split at h
    ·rename_i hx;exact absurd hx.1 hf.2
    ·split at h
     ·exact a2p l G _ _ _ _ _ _ h hG'
     ·cases h
theorem b28 {rs:List Int} (h:∀v∈rs,0<=v/\v<=31) (i:Nat):0<=rs.getD i 0/\rs.getD i 0<=31:=by
 rw[List.getD_eq_getElem?_getD]
 cases hq:rs[i]? with
 | none=>simp
 | some v=>exact h v (List.mem_of_getElem? hq)
theorem b09 {k:Nat} (hk:k<64) {A:List Tok} {rs:List Int} {n:Int} {nm:ByteArray} (h:a0r A (a0B (row k).kind) [] 0 ⟨#[]⟩=some (rs,n,nm)) (hn:nm.data.toList≠[]):right (a2m k rs n)=true:=by
 have hb:=a7M _ _ _ _ _ _ _ _ h (fun v hv=>by simp at hv)
 have g0:=b28 hb 0;have g1:=b28 hb 1
 have no:(∀f∈a0B (row k).kind,f≠116)->False:=fun hF=>by
  have:=a41 _ _ _ _ _ _ _ _ h hF;rw[this]at hn;exact hn rfl
 rcases kinds k hk with q|q|q|q|q|q|q|q|q|q
 ·exact (no (by rw[q];decide)).elim
 ·exact (no (by rw[q];decide)).elim
 ·exact (no (by rw[q];decide)).elim
 ·exact (no (by rw[q];decide)).elim
 ·exact (no (by rw[q];decide)).elim
 ·exact (no (by rw[q];decide)).elim
 ·have h0:n=0:=by
   rw[q]at h;rcases a2p A [114,44,114,44] [] 0 ⟨#[]⟩ rs n nm h (by decide) with e|e
   ·exact e
   ·rw[e]at hn;exact absurd rfl hn
  rw[b0U k _ _ q,h0,a0d _ _ _ _ _ hk,q];generalize rs.getD 0 0=x at *;generalize rs.getD 1 0=y at *;simp[has,a0e,a0j,a0p];omega
 ·exact (no (by rw[q];decide)).elim
 ·have h0:n=0:=by
   rw[q]at h;rcases a2p A [114,44] [] 0 ⟨#[]⟩ rs n nm h (by decide) with e|e
   ·exact e
   ·rw[e]at hn;exact absurd rfl hn
  rw[a7Y k _ _ (.inr q),h0,a0d _ _ _ _ _ hk,q];generalize rs.getD 0 0=x at *;generalize rs.getD 1 0=y at *;simp[has,a0e,a0j,a0p];omega
 ·exact (no (by rw[q];decide)).elim
theorem b17 {t:Tok} {A:List Tok} (h:∀u∈t::A,a3i u):a0W ⟨t.text.toArray⟩ (A.map conv)=(if (plain t A false).2.2=0 then ((plain t A false).1,0) else (⟨0,0,0,0,0⟩,(plain t A false).2.2)):=by
 have ht:=h t (by simp)
 have hA:∀u∈A,a3i u:=fun u hu=>h u (by simp[hu])
 have hn:=a4I ht
 cases hf:(List.range 64).find? (named t) with
 | none=>
  rw[a1b hf A false,a2P (by rw[<-hn];exact hf)]
  rfl
 | some k=>
  have hk:k<64:=by rw[List.find?_range_eq_some]at hf;simpa using hf.2.1
  have hf2:(List.range 64).find? (a1v ⟨t.text.toArray⟩)=some k:=by rw[<-hn];exact hf
  have ho:=b7y hk hA
  cases hq:a0r A (a0B (row k).kind) [] 0 ⟨#[]⟩ with
  | none=>
   rw[hq]at ho;rw[a2S hf hq false];simp only[a0W,hf2];rw[ho];rfl
  | some x=>
   obtain ⟨rs,n,nm⟩:=x;rw[hq]at ho;have ho':a0i (shp (row k).kind) (A.map conv) ⟨k+1,0,0,0,0⟩ []=some (a2m k rs n,nm.data.toList):=ho;by_cases hnm:nm.data.toList=[]
   ·have he:nm.toList.isEmpty=true:=by rw[ByteArray.toList_eq,hnm];rfl
    rw[a6L hf hq (.inl he)];simp only[a0W,hf2];rw[ho'];simp only[hnm,if_true];by_cases hr:right (a2m k rs n)=true
    ·rw[if_pos hr,if_pos hr,if_pos rfl]
    ·rw[if_neg hr,if_neg hr,if_neg (by decide)]
   ·have he:nm.toList.isEmpty=false:=by
     rw[ByteArray.toList_eq]
     cases hl:nm.data.toList with
     | nil=>exact absurd hl hnm
     | cons a b=>rfl
    rw[a6W hf hq he];simp only[a0W,hf2];rw[ho'];simp only;rw[if_pos (b09 hk hq hnm),if_neg hnm];rfl
theorem b8L (s:ByteArray):(0<cnt s 10 s.size)↔(10:UInt8)∈s.data.toList:=by
 have key:∀k,k<=s.size->((0<cnt s 10 k)↔∃j,j<k/\B s j=10):=by
  intro k
  induction k with
  | zero=>intro _;simp[cnt]
  | succ k ih=>
   intro hk;(have ih':=ih (by omega));have hb:=(a4z s 10 k).1;simp only[cnt]
   constructor
   ·intro h
    split at h
    ·rename_i hq;exact ⟨k,by omega,a3W (n:=10) hq⟩
    ·obtain ⟨j,h1,h2⟩:=ih'.1 (by omega)
     exact ⟨j,by omega,h2⟩
   ·rintro ⟨j,h1,h2⟩
    by_cases e:j=k
    ·subst e
     rw[if_pos (by rw[h2];rfl)];omega
    ·have:=ih'.2 ⟨j,by omega,h2⟩
     split<;>omega
 rw[key s.size (Nat.le_refl _)]
 constructor
 ·rintro ⟨j,h1,h2⟩
  rw[<-a9J s j h1]at h2;rw[<-h2];show s.data[j]∈s.data.toList;exact Array.mem_toList_iff.2 (Array.getElem_mem _)
 ·intro h
  obtain ⟨j,hj,he⟩:=List.getElem_of_mem h;have hj':j<s.size:=by simpa using hj
  refine ⟨j,hj',?_⟩;rw[<-a9J s j hj',<-he];rfl
theorem b34 (l:List UInt8):∃rest,l=(Lib.cut l [35]).1++rest/\(rest=[]\/∃q,rest=35::q)/\(35:UInt8)∉(Lib.cut l [35]).1:=by
 unfold Lib.cut;rw[Lib.index_one];by_cases h:0<=Lib.indexByte l 35
 ·rw[if_pos h]
  obtain ⟨o,ho⟩:=Int.eq_ofNat_of_zero_le h;obtain ⟨h1,h2⟩:=Lib.indexByte_some ho;rw[ho];simp only[Int.toNat_natCast]
  have hlt:o<l.length:=by
   rcases Nat.lt_or_ge o l.length with h|h
   ·exact h
   ·rw[List.getElem?_eq_none h]at h1;cases h1
  refine ⟨l.drop o,(List.take_append_drop o l).symm,.inr ⟨l.drop (o+1),?_⟩,fun hm=>?_⟩
  ·rw[List.drop_eq_getElem_cons hlt]
   rw[List.getElem?_eq_getElem hlt]at h1;rw[Option.some.inj h1]
  ·obtain ⟨j,hj,he⟩:=List.getElem_of_mem hm
   (have hjo:j<o:=by simp at hj;omega);refine h2 j hjo ?_;rw[List.getElem_take]at he;rw[List.getElem?_eq_getElem (by omega),he]
 ·rw[if_neg h]
  refine ⟨[],by simp,.inl rfl,fun hm=>?_⟩
  have:=Lib.indexByte_ge l 35;have hn:Lib.indexByte l 35=-1:=by omega
  obtain ⟨j,hj,he⟩:=List.getElem_of_mem hm;exact Lib.indexByte_none hn j (by rw[List.getElem?_eq_getElem hj,he])
theorem c7S (s:ByteArray):prd s=rd s:=by
 by_cases h1:2000<s.size
 ·rw[b6P h1];unfold prd;rw[if_pos (.inl h1)]
 ·by_cases h2:0<=Lib.indexByte s.data.toList 10
  ·have hm:(10:UInt8)∈s.data.toList:=by
    have:=Lib.contains_iff_indexByte s.data.toList 10;rw[decide_eq_true h2]at this;simpa using this
   have hc:=(b8L s).2 hm;(have e:prd s=(⟨0,0,0,0,0⟩,4):=by unfold prd;rw[if_pos (.inr h2)]);rw[e]
   cases ht:a00 s.data.toList false with
   | none=>rw[b0s h1 ht]
   | some A=>
    cases A with
    | nil=>rw[b42 h1 ht]
    | cons t l=>rw[c6n h1 ht hc]
  ·have hc:¬0<cnt s 10 s.size:=fun hx=>by
    have hm:=(b8L s).1 hx;have:=Lib.contains_iff_indexByte s.data.toList 10;rw[decide_eq_false h2]at this;(have hcc:s.data.toList.contains 10=true:=by simpa using hm);rw[hcc]at this;cases this
   rw[c1z h1 h2];obtain ⟨rest,hl,hr,h35⟩:=b34 s.data.toList
   have htk:a00 s.data.toList false=a00 (Lib.cut s.data.toList [35]).1 false:=by
    conv=>lhs;rw[hl]
    exact a7q hr _ _ _ (Nat.le_refl _)
   generalize (Lib.cut s.data.toList [35]).1=L at *;by_cases h46:(46:UInt8)∈L
   ·have hrd:rd s=(⟨0,0,0,0,0⟩,4):=by
     cases ht:a00 L false with
     | none=>exact b0s h1 (htk.trans ht)
     | some A=>
      cases A with
      | nil=>exact b42 h1 (htk.trans ht)
      | cons t l=>
       have hd:=a8g (a3l _ L false _ (Nat.le_refl _) h46 h35 ht);rw[b8G h1 (htk.trans ht) hc (by rw[hd];decide),hd]
    rw[hrd]
    cases hcm:a1d L 0 [] with
    | none=>rfl
    | some ps=>
     cases ps with
     | nil=>rfl
     | cons p l=>exact c55 (a48 L 0 [] _ hcm (.inl h46))
   ·rcases a5j _ L false (Nat.le_refl _) h46 h35 with ⟨A,ha,hb,hg⟩|⟨ha,hb⟩
    ·rw[hb]
     cases A with
     | nil=>rw[b42 h1 (htk.trans ha)];rfl
     | cons t l=>
      show a0W ⟨t.text.toArray⟩ (l.map conv)=_;rw[b17 hg];by_cases hz:(plain t l false).2.2=0
      ·rw[if_pos hz,c6J h1 (htk.trans ha) hc hz]
      ·rw[if_neg hz,b8G h1 (htk.trans ha) hc hz]
    ·rw[b0s h1 (htk.trans ha)]
     rcases hb with hb|⟨ps,hb,had⟩
     ·rw[hb]
     ·rw[hb]
      cases ps with
      | nil=>rfl
      | cons p l=>exact c8F (a5x L 0 [] _ hb (.inl rfl)) had
