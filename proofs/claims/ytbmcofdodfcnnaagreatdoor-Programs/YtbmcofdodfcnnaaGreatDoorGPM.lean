import Derived.Test.YtbmcofdodfcnnaaGreatDoorGLA
set_option linter.all false
set_option maxHeartbeats 400000000
set_option maxRecDepth 100000
namespace Pn
open Go
structure Qt where
 p:Prt
 line:Int
 size:Int
def qtC (x:Qt):List Value:=a3j x.p++[.int .i64 x.line,.int .i64 x.size]
def fsz (short:Bool) (p:Prt):Int:=if p.data=[] then (if short=true/\(p.tg≠[]\/(a0q p.ins).2=0) then 2 else 4) else p.data.length
def fszs (short:Bool) (l:List Qt) (j:Nat):List Qt:=l.mapIdx fun k x=>if k<j then ⟨x.p,x.line,fsz short x.p⟩ else x
theorem a2Q (short:Bool) (l:List Qt) (j:Nat):(fszs short l j).length=l.length:=by simp[fszs]
theorem a4e {short:Bool} {l:List Qt} {j k:Nat} {x:Qt} (h:l[k]?=some x):(fszs short l j)[k]?=some (if k<j then ⟨x.p,x.line,fsz short x.p⟩ else x):=by simp[fszs,h]
theorem b81 (short:Bool) (l:List Qt):fszs short l 0=l:=by
 apply List.ext_getElem?;intro k
 cases h:l[k]? with
 | none=>simp[fszs,h]
 | some x=>simp[fszs,h]
def plq:List Qt->Nat->Int
 | _,0=>0
 | l,k+1=>plq l k+(match l[k]? with|some x=>x.size|none=>0)
def a3h (l:List Qt) (j:Nat):List Int:=(List.range (j+1)).map (plq l)
theorem a1w (l:List Qt) (j:Nat):(a3h l j).length=j+1:=by simp[a3h]
theorem b83 (l:List Qt) (j:Nat):a3h l (j+1)=a3h l j++[plq l (j+1)]:=by simp[a3h,List.range_succ]
theorem a4F (l:List Qt) (j k:Nat) (h:k<=j):(a3h l j).getD k 0=plq l k:=by simp[a3h,List.getD,List.getElem?_range (show k<j+1 by omega)]
def nmI (N:List (List UInt8×Nat)) (t:List UInt8):Nat:=(N.lookup t).getD 0
def a6w (P:List Int) (N:List (List UInt8×Nat)) (k:Nat) (p:Prt):Ins:=if p.tg=[] then p.ins else ⟨p.ins.op,p.ins.rd,p.ins.rs1,p.ins.rs2,P.getD (nmI N p.tg) 0-P.getD k 0⟩
def a4r (P:List Int) (N:List (List UInt8×Nat)) (k:Nat) (x:Qt):Bool:=!x.p.tg.isEmpty&&(x.size==2)&&!((a0q (a6w P N k x.p)).2==0)
def grw (P:List Int) (N:List (List UInt8×Nat)) (l:List Qt) (j:Nat):List Qt:=l.mapIdx fun k x=>if k<j/\a4r P N k x=true then ⟨x.p,x.line,4⟩ else x
theorem a4g (P:List Int) (N:List (List UInt8×Nat)) (l:List Qt) (j:Nat):(grw P N l j).length=l.length:=by simp[grw]
theorem a3x {P:List Int} {N:List (List UInt8×Nat)} {l:List Qt} {j k:Nat} {x:Qt} (h:l[k]?=some x):(grw P N l j)[k]?=some (if k<j/\a4r P N k x=true then ⟨x.p,x.line,4⟩ else x):=by simp[grw,h]
theorem c0V (P:List Int) (N:List (List UInt8×Nat)) (l:List Qt):grw P N l 0=l:=by
 apply List.ext_getElem?;intro k
 cases h:l[k]? with
 | none=>simp[grw,h]
 | some x=>simp[grw,h]
theorem c4d {P:List Int} {N:List (List UInt8×Nat)} {l:List Qt} {j:Nat} {x:Qt} (h:l[j]?=some x) (hm:a4r P N j x=false):grw P N l (j+1)=grw P N l j:=by
 apply List.ext_getElem?;intro k
 cases hk:l[k]? with
 | none=>simp[grw,hk]
 | some y=>
  rw[a3x hk,a3x hk];by_cases e:k=j
  ·subst e
   rw[h]at hk;cases hk;simp[hm]
  ·have:k<j+1↔k<j:=by omega
   simp only[this]
def b4c (P:List Int) (N:List (List UInt8×Nat)) (l:List Qt) (j:Nat):Bool:=(List.range j).any fun k=>match l[k]? with|some x=>a4r P N k x|none=>false
theorem b1G (P:List Int) (N:List (List UInt8×Nat)) (l:List Qt) (j:Nat) {x:Qt} (h:l[j]?=some x):b4c P N l (j+1)=(b4c P N l j||a4r P N j x):=by simp[b4c,List.range_succ,h]
def rnd (N:List (List UInt8×Nat)) (l:List Qt):List Qt:=grw (a3h l l.length) N l l.length
def rnds (N:List (List UInt8×Nat)):Nat->List Qt->List Qt
 | 0,l=>l
 | m+1,l=>rnds N m (rnd N l)
def byq (P:List Int) (N:List (List UInt8×Nat)) (k:Nat) (x:Qt):Option (List UInt8):=
 if x.p.data=[] then
  (if x.size=2 then (if (a0q (a6w P N k x.p)).2=0 then some (a2I 2 (a0q (a6w P N k x.p)).1) else none)
   else (if (enc (a6w P N k x.p)).2=0 then some (a2I 4 (enc (a6w P N k x.p)).1) else none))
 else some x.p.data
def b3E (P:List Int) (N:List (List UInt8×Nat)) (l:List Qt):Nat->List UInt8
 | 0=>[]
 | j+1=>b3E P N l j++(match l[j]? with|some x=>(byq P N j x).getD []|none=>[])
def a8Y (s:List UInt8) (number:Int) (l:List Qt) (N:List (List UInt8×Nat)):Int×List Qt×List (List UInt8×Nat):=
 if (a0F s).2.2=0 then
  (if (a0F s).1=[] then (0,l++(a0F s).2.1.map (fun p=>⟨p,number,0⟩),N)
   else if (N.lookup (a0F s).1).isSome then (6,l,N)
   else (0,l++(a0F s).2.1.map (fun p=>⟨p,number,0⟩),N++[((a0F s).1,l.length)]))
 else ((a0F s).2.2,l,N)
def b3f (l:List Qt):Prop:=∀x∈l,0<=x.size/\x.size<=4
theorem b4f {l:List Qt} {k:Nat} {x:Qt} (h:l[k]?=some x):x∈l:=List.mem_of_getElem? h
theorem b3f.at' {l:List Qt} (h:b3f l) {k:Nat} {x:Qt} (hk:l[k]?=some x):0<=x.size/\x.size<=4:=h x (b4f hk)
theorem b8t {l:List Qt} (h:∀(k:Nat) (x:Qt),l[k]?=some x->0<=x.size/\x.size<=4):b3f l:=fun x hx=>by
 obtain ⟨k,hk⟩:=List.getElem?_of_mem hx;exact h k x hk
theorem a7W {l:List Qt} (h:b3f l) (k:Nat):0<=plq l k/\plq l k<=4*k:=by
 induction k with
 | zero=>simp[plq]
 | succ k ih=>
  simp only[plq]
  cases hk:l[k]? with
  | none=>simp only;omega
  | some x=>
   have:=h.at' hk;simp only;omega
theorem a8M {α:Type} {l m:List α} (hl:l.length=m.length) {k:Nat} {x:α} (h:l[k]?=some x):∃y,m[k]?=some y:=by
 have hk:=(List.getElem?_eq_some_iff.1 h).1;exact ⟨_,List.getElem?_eq_getElem (by omega)⟩
theorem b8J {short:Bool} {l:List Qt} (h:∀x∈l,x.p.data.length<=4):b3f (fszs short l l.length):=b8t fun k x hk=>by
 obtain ⟨y,hy⟩:=a8M (a2Q short l l.length) hk;rw[a4e hy,if_pos (List.getElem?_eq_some_iff.1 hy).1]at hk;cases hk
 have hd:=h y (b4f hy);simp only[fsz]
 split
 ·split<;>omega
 ·omega
theorem c7m {P:List Int} {N:List (List UInt8×Nat)} {l:List Qt} {j:Nat} (h:b3f l):b3f (grw P N l j):=b8t fun k x hk=>by
 obtain ⟨y,hy⟩:=a8M (a4g P N l j) hk;rw[a3x hy]at hk;cases hk
 have:=h.at' hy
 split
 ·simp
 ·exact this
theorem c3V (N:List (List UInt8×Nat)) (l:List Qt):(rnd N l).length=l.length:=a4g _ _ _ _
theorem a18 (N:List (List UInt8×Nat)):∀(m:Nat) (l:List Qt),(rnds N m l).length=l.length
 | 0,_=>rfl
 | m+1,l=>by rw[rnds,a18 N m,c3V]
theorem a4b {N:List (List UInt8×Nat)}:∀(m:Nat) {l:List Qt},b3f l->b3f (rnds N m l)
 | 0,_,h=>h
 | m+1,_,h=>a4b m (c7m h)
theorem a6c (N:List (List UInt8×Nat)):∀(m:Nat) (l:List Qt),rnds N (m+1) l=rnd N (rnds N m l)
 | 0,_=>rfl
 | m+1,l=>by rw[rnds,a6c N m (rnd N l)];rfl
theorem c6q {P:List Int} {N:List (List UInt8×Nat)} {l:List Qt} {j:Nat} (h:b3f l) (k:Nat):plq l k<=plq (grw P N l j) k:=by
 induction k with
 | zero=>simp[plq]
 | succ k ih=>
  simp only[plq]
  cases hk:l[k]? with
  | none=>
   (have:(grw P N l j)[k]?=none:=by simp[grw,hk]);rw[this];simp only;omega
  | some x=>
   have hx:=h.at' hk;rw[a3x hk];simp only
   split
   ·simp only;omega
   ·omega
theorem b4x {P:List Int} {N:List (List UInt8×Nat)} {l:List Qt} (h:b3f l) (k:Nat) (hk:k<=l.length) (ha:b4c P N l k=true):plq l k<plq (grw P N l l.length) k:=by
 induction k with
 | zero=>simp[b4c]at ha
 | succ k ih=>
  obtain ⟨x,hx⟩:∃x,l[k]?=some x:=⟨_,List.getElem?_eq_getElem (by omega)⟩
  rw[b1G P N l k hx]at ha;have hb:=h.at' hx;simp only[plq,hx,a3x hx];have hge:=c6q (P:=P) (N:=N) (j:=l.length) h k;by_cases hm:a4r P N k x=true
  ·have h2:x.size=2:=by
    simp only[a4r,Bool.and_eq_true,beq_iff_eq]at hm;exact hm.1.2
   (rw[if_pos ⟨by omega,hm⟩]);simp only;omega
  ·have hf:a4r P N k x=false:=by simpa using hm
   rw[hf,Bool.or_false]at ha;(rw[if_neg (fun h=>hm h.2)]);(have:=ih (by omega) ha);omega
theorem b48 {k:Int} {t:List UInt8} (h:a4x k t=true):t.length<=8:=by
 simp only[a4x,Bool.and_eq_true,decide_eq_true_eq]at h;exact h.1.2
theorem c0l {r:UInt8} {k:Int} {t:List UInt8} {i:Ins} {tg:List UInt8} {s:Ins×List UInt8} (h:a1i r k t i tg=some s) (ht:tg.length<=8):s.2.length<=8:=by
 unfold a1i at h
 split at h
 ·simp only[Option.map_eq_some_iff]at h;obtain ⟨_,_,rfl⟩:=h;exact ht
 ·split at h
  ·simp only[Option.map_eq_some_iff]at h;obtain ⟨_,_,rfl⟩:=h;exact ht
  ·split at h
   ·simp only[Option.map_eq_some_iff]at h;obtain ⟨_,_,rfl⟩:=h;exact ht
   ·split at h
    ·simp only[Option.map_eq_some_iff]at h;obtain ⟨_,_,rfl⟩:=h;exact ht
    ·split at h
     ·split at h
      ·rename_i hn
       (injection h with h;subst h);exact b48 hn
      ·simp only[Option.map_eq_some_iff]at h;obtain ⟨_,_,rfl⟩:=h;exact ht
     ·split at h
      ·injection h with h;subst h;exact ht
      ·cases h
theorem b1o:∀(F:List UInt8) (l:List Pc) (i:Ins) (tg:List UInt8) {s:Ins×List UInt8},a0i F l i tg=some s->tg.length<=8->s.2.length<=8
 | [],[],_,_,_,h,ht=>by simp only[a0i]at h;injection h with h;subst h;exact ht
 | [],_::_,_,_,_,h,_=>by simp[a0i]at h
 | _::_,[],_,_,_,h,_=>by simp[a0i]at h
 | r::F,(k,t)::l,i,tg,s,h,ht=>by
  simp only[a0i]at h
  cases hs:a1i r k t i tg with
  | none=>rw[hs]at h;cases h
  | some q=>
   rw[hs]at h;exact b1o F l q.1 q.2 h (c0l hs ht)
def b5t (p:Prt):Prop:=p.data.length<=4/\p.tg.length<=8/\(p.data≠[]->p.tg=[])
theorem c1u (r n:Int):(a4p r n).length<=2/\∀p∈a4p r n,b5t p:=by
 unfold a4p
 split
 ·exact ⟨by simp,fun p hp=>by simp at hp;subst hp;simp[b5t]⟩
 ·split
  ·exact ⟨by simp,fun p hp=>by simp at hp;subst hp;simp[b5t]⟩
  ·exact ⟨by simp,fun p hp=>by simp at hp;rcases hp with rfl|rfl<;>simp[b5t]⟩
theorem c2X (nm:ByteArray) (l:List Pc):(rst nm l).1.length<=2/\∀p∈(rst nm l).1,b5t p:=by
 unfold rst
 split
 ·unfold a4m
  split
  ·split
   ·exact ⟨by simp,fun p hp=>by simp at hp;subst hp;simp[b5t,a2d]⟩
   ·exact ⟨by simp,fun p hp=>by simp at hp⟩
  ·exact ⟨by simp,fun p hp=>by simp at hp⟩
 ·split
  ·have hd:(dsz nm.data.toList).toNat<=4:=by
    unfold dsz
    repeat' split
    all_goals decide
   unfold a3F
   split
   ·exact ⟨by simp,fun p hp=>by simp at hp⟩
   ·split
    ·exact ⟨by simp,fun p hp=>by simp at hp⟩
    ·exact ⟨by simp,fun p hp=>by simp at hp;subst hp;simp[b5t,a2d,hd]⟩
  ·split
   ·unfold a4u
    split
    ·exact ⟨by simp,fun p hp=>by simp at hp⟩
    ·split
     ·exact ⟨by simp,fun p hp=>by simp at hp⟩
     ·exact c1u _ _
   ·split
    ·refine ⟨by simp,fun p hp=>?_⟩
     (have e:p=(a2K nm l).1:=by simpa using hp);subst e;unfold a2K
     split
     ·simp[b5t,b2E]
     ·split
      ·simp[b5t,b2E]
      ·rename_i t ht
       split
       ·exact ⟨by simp,b1o _ _ _ _ ht (by simp),fun h=>absurd rfl h⟩
       ·simp[b5t,b2E]
    ·exact ⟨by simp,fun p hp=>by simp at hp⟩
theorem a7J (nm:List UInt8) (l:List Pc) (h:nm.length<=8):(a1O nm l).1.length<=8/\(a1O nm l).2.1.length<=2/\∀p∈(a1O nm l).2.1,b5t p:=by
 cases l with
 | nil=>exact ⟨h,by simp[a1O],fun p hp=>by simp[a1O]at hp⟩
 | cons q l=>
  simp only[a1O]
  split
  ·exact ⟨h,(c2X _ _).1,(c2X _ _).2⟩
  ·exact ⟨by simp,by simp,fun p hp=>by simp at hp⟩
theorem b47 (s:List UInt8):(a0F s).1.length<=8/\(a0F s).2.1.length<=2/\∀p∈(a0F s).2.1,b5t p:=by
 unfold a0F
 split
 ·exact ⟨by simp,by simp,fun p hp=>by simp at hp⟩
 ·rename_i l hl
  match l with
  | []=>exact a7J [] [] (by simp)
  | [p]=>exact a7J [] [p] (by simp)
  | p::q::l=>
   simp only[a2b]
   split
   ·split
    ·rename_i hn
     exact a7J _ _ (b48 hn)
    ·exact ⟨by simp,by simp,fun p hp=>by simp at hp⟩
   ·exact a7J [] _ (by simp)
def a1G (ss:List (List UInt8)):Nat->List Qt×List (List UInt8×Nat)
 | 0=>([],[])
 | j+1=>(a8Y (ss.getD j []) (j+1) (a1G ss j).1 (a1G ss j).2).2
structure c5k (j:Nat) (l:List Qt) (N:List (List UInt8×Nat)):Prop where
 len:l.length<=2*j
 nl:N.length<=j
 pt:∀x∈l,b5t x.p
 at':∀p∈N,p.2<=l.length
theorem c4s {j:Nat} {l:List Qt} {N:List (List UInt8×Nat)} (h:c5k j l N) (s:List UInt8) (n:Int):c5k (j+1) (a8Y s n l N).2.1 (a8Y s n l N).2.2:=by
 obtain ⟨h1,h2,h3⟩:=b47 s;have h4:=h.len;have h5:=h.nl;unfold a8Y
 split
 ·split
  ·refine ⟨by simp;omega,by simp only;omega,fun x hx=>?_,fun p hp=>?_⟩
   ·rcases List.mem_append.1 hx with hx|hx
    ·exact h.pt x hx
    ·obtain ⟨p,hp,rfl⟩:=List.mem_map.1 hx
     exact h3 p hp
   ·have:=h.at' p hp;simp;omega
  ·split
   ·exact ⟨by simp only;omega,by simp only;omega,h.pt,h.at'⟩
   ·refine ⟨by simp;omega,by simp;omega,fun x hx=>?_,fun p hp=>?_⟩
    ·rcases List.mem_append.1 hx with hx|hx
     ·exact h.pt x hx
     ·obtain ⟨p,hp,rfl⟩:=List.mem_map.1 hx
      exact h3 p hp
    ·rcases List.mem_append.1 hp with hp|hp
     ·have:=h.at' p hp;simp;omega
     ·have e:p=((a0F s).1,l.length):=by simpa using hp
      subst e;simp
 ·exact ⟨by simp only;omega,by simp only;omega,h.pt,h.at'⟩
theorem a7F (ss:List (List UInt8)):∀j,c5k j (a1G ss j).1 (a1G ss j).2
 | 0=>⟨by simp[a1G],by simp[a1G],fun x hx=>by simp[a1G]at hx,fun p hp=>by simp[a1G]at hp⟩
 | j+1=>c4s (a7F ss j) _ _
