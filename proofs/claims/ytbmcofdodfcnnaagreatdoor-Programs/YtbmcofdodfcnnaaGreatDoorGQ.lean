import Derived.Lib.ItoaNum
import Derived.Below
import Derived.Lib.Strings
import Derived.Lib.AtoiAll
import Derived.Lib.IndexMore
import Derived.Test.YtbmcofdodfcnnaaGreatDoorGP
set_option linter.all false
set_option maxHeartbeats 400000000
set_option maxRecDepth 100000
namespace Pn
open Go
def a67 (n:Int):List UInt8:=120::Lib.itoa n
def behind (kd:Nat) (d s t n:List UInt8):List UInt8:=
 if kd=82 then 32::d++[44,32]++s++[44,32]++t
 else if kd=73\/kd=72\/kd=87 then 32::d++[44,32]++s++[44,32]++n
 else if kd=76 then 32::d++[44,32]++n++[40]++s++[41]
 else if kd=83 then 32::t++[44,32]++n++[40]++s++[41]
 else if kd=66 then 32::s++[44,32]++t++[44,32]++n
 else if kd=85\/kd=74 then 32::d++[44,32]++n
 else []
def b3m (k:Nat) (rd rs1 rs2 imm:Int):List UInt8:=(row k).name++behind (row k).kind (a67 rd) (a67 rs1) (a67 rs2) (Lib.itoa imm)
def shw (i:Ins):List UInt8×Int:=if right i then (b3m (i.op-1).toNat i.rd i.rs1 i.rs2 i.imm,0) else ([],1)
theorem b2Q {i:Ins} (h:right i=false):shw i=([],1):=by unfold shw;simp[h]
theorem b2O {k:Nat} {rd rs1 rs2 imm:Int} (h:right ⟨k+1,rd,rs1,rs2,imm⟩=true):shw ⟨k+1,rd,rs1,rs2,imm⟩=(b3m k rd rs1 rs2 imm,0):=by
 unfold shw;have e:((k:Int)+1-1).toNat=k:=by omega
 simp only[h,if_true,e]
theorem b0H:∀k,k<64->(row k).name.length<=8:=by decide
def a0o (c:Int):Bool:=decide (97<=c)&&decide (c<=122)
def a0t (c:Int):Bool:=decide (48<=c)&&decide (c<=57)
structure Tok where
 kind:Int
 text:List UInt8
 num:Int
 blank:Bool
def a1a (t:Tok):List Value:=[.int .u8 t.kind,.string ⟨t.text.toArray⟩,.int .i64 t.num,.bool t.blank]
def a0s (c:UInt8):Bool:=a0o c.toNat||a0t c.toNat
def dig (c:UInt8):Bool:=a0t c.toNat
def a2t (a:Int):List UInt8->Int
 | []=>a
 | c::l=>a2t (10*a+c.toNat-48) l
def a2x (c:UInt8) (r:List UInt8):Option (Int×Int×Nat):=
 if a0o c.toNat then some (119,0,(r.takeWhile a0s).length)
 else if a0t c.toNat then
  if 10<(r.takeWhile dig).length+1 then none
  else if ((r.drop (r.takeWhile dig).length).head?.map fun d=>a0o d.toNat)=some true then none
  else some (105,a2t 0 (c::r.takeWhile dig),(r.takeWhile dig).length)
 else if c=45/\(r.head?.map dig)=some true then
  if 10<(r.takeWhile dig).length then none
  else if ((r.drop (r.takeWhile dig).length).head?.map fun d=>a0o d.toNat)=some true then none
  else some (105,- a2t 0 (r.takeWhile dig),(r.takeWhile dig).length)
 else if c=44\/c=40\/c=41\/c=58\/c=46 then some (c.toNat,0,0)
 else none
def a4t:Nat->List UInt8->Bool->Option (List Tok)
 | 0,_,_=>some []
 | n+1,l,b=>match l with
  | []=>some []
  | c::r=>
   if c=35 then some []
   else if c=32\/c=9 then a4t n r true
   else match a2x c r with
    | none=>none
    | some (k,v,m)=>(a4t n (r.drop m) false).map (⟨k,c::r.take m,v,b⟩::·)
def a00 (l:List UInt8) (b:Bool):Option (List Tok):=a4t (l.length+1) l b
theorem a6E:∀(n m:Nat) (l:List UInt8) (b:Bool),l.length<n->l.length<m->a4t n l b=a4t m l b
 | 0,_,_,_,h,_=>by omega
 | _+1,0,_,_,_,h=>by omega
 | n+1,m+1,[],b,_,_=>rfl
 | n+1,m+1,c::r,b,h,h2=>by
  have hn:r.length<n:=by simpa using h
  have hm:r.length<m:=by simpa using h2
  simp only[a4t];rw[a6E n m r true hn hm]
  split
  ·rfl
  ·split
   ·rfl
   ·split
    ·rfl
    ·rw[a6E n m _ false (by simp;omega) (by simp;omega)]
theorem c0i (n:Nat) (c:UInt8) (r:List UInt8) (b:Bool):a4t (n+1) (c::r) b =
    if c=35 then some []
    else if c=32\/c=9 then a4t n r true
    else match a2x c r with
     | none=>none
     | some (k,v,m)=>(a4t n (r.drop m) false).map (⟨k,c::r.take m,v,b⟩::·):=rfl
theorem a8o (c:UInt8) (r:List UInt8) (b:Bool):a00 (c::r) b =
    if c=35 then some []
    else if c=32\/c=9 then a00 r true
    else match a2x c r with
     | none=>none
     | some (k,v,m)=>(a00 (r.drop m) false).map (⟨k,c::r.take m,v,b⟩::·):=by
 unfold a00;rw[c0i]
 split
 ·rfl
 ·split
  ·rfl
  ·split
   ·rfl
   ·rw[a6E (c::r).length _ _ false (by simp;omega) (Nat.lt_succ_self _)]
def B (s:ByteArray) (q:Nat):UInt8:=s.data.toList.getD q 0
theorem a9J (s:ByteArray) (q:Nat) (h:q<s.size):s[q]=B s q:=by
 unfold B;rw[List.getD_eq_getElem?_getD,List.getElem?_eq_getElem (by simpa using h)]
 rfl
theorem a0N (s:ByteArray) (j:Nat) (h:j<s.size):s.data.toList.drop j=B s j::s.data.toList.drop (j+1):=by
 rw[<-a9J s j h,List.drop_eq_getElem_cons (by simpa using h)]
 rfl
theorem a3o (b:Bool):a00 [] b=some []:=by unfold a00;rfl
theorem a4K (c:UInt8) (r:List UInt8) (b:Bool) (h:c=35):a00 (c::r) b=some []:=by rw[a8o];simp[h]
theorem a1q (c:UInt8) (r:List UInt8) (b:Bool) (h:c=32\/c=9):a00 (c::r) b=a00 r true:=by
 rw[a8o];have:c≠35:=by rcases h with h|h<;>(rw[h];decide)
 simp[h,this]
theorem a0X (c:UInt8) (r:List UInt8) (b:Bool) (h:c≠35) (h':¬(c=32\/c=9)) (k v:Int) (n:Nat) (ht:a2x c r=some (k,v,n)):
    a00 (c::r) b=(a00 (r.drop n) false).map (⟨k,c::r.take n,v,b⟩::·):=by
 rw[a8o];rw[if_neg h,if_neg h',ht]
theorem a0v (c:UInt8) (r:List UInt8) (b:Bool) (h:c≠35) (h':¬(c=32\/c=9)) (ht:a2x c r=none):a00 (c::r) b=none:=by
 rw[a8o];rw[if_neg h,if_neg h',ht]
theorem a3W {c:UInt8} {n:Nat} (h:(c.toNat:Int)=(n:Int)):c=UInt8.ofNat n:=by
 have:c.toNat=n:=by omega
 rw[<-this];simp
theorem b5f {c:UInt8} {n:Nat} (hn:n<256) (h:((c.toNat:Int)==(n:Int))=false):c≠UInt8.ofNat n:=by
 rintro rfl;simp[Nat.mod_eq_of_lt hn]at h
theorem c3z (p:UInt8->Bool) (l:List UInt8) (m:Nat) (hm:m<=l.length) (h:∀q,q<m->p (l.getD q 0)=true) (he:m=l.length\/p (l.getD m 0)=false):(l.takeWhile p).length=m:=by
 induction l generalizing m with
 | nil=>simp at hm;simp[hm]
 | cons c l ih=>
  cases m with
  | zero=>
   rcases he with he|he
   ·simp at he
   ·simp at he;simp[he]
  | succ m=>
   (have h0:=h 0 (by omega));simp at h0;rw[List.takeWhile_cons,if_pos h0,List.length_cons,ih m (by simpa using hm) (fun q hq=>by have:=h (q+1) (by omega);simpa using this) (by rcases he with he|he;(left;simpa using he);(right;simpa using he))]
theorem a2W (p:UInt8->Bool) (s:ByteArray) (i n:Nat) (hn:1<=n) (hi:i+n<=s.size) (h:∀q,1<=q->q<n->p (B s (i+q))=true) (he:i+n=s.size\/p (B s (i+n))=false):
    ((s.data.toList.drop (i+1)).takeWhile p).length=n-1:=by
 have hl:s.data.toList.length=s.size:=by simp
 apply c3z
 ·rw[List.length_drop,hl];omega
 ·intro q hq
  have:=h (q+1) (by omega) (by omega)
  unfold B at this;rw[List.getD_eq_getElem?_getD,List.getElem?_drop];rw[List.getD_eq_getElem?_getD]at this;have e:i+1+q=i+(q+1):=by omega
  rw[e];exact this
 ·rcases he with he|he
  ·left;rw[List.length_drop,hl];omega
  ·right
   unfold B at he;rw[List.getD_eq_getElem?_getD,List.getElem?_drop];rw[List.getD_eq_getElem?_getD]at he;(have e:i+1+(n-1)=i+n:=by omega);rw[e];exact he
theorem b2x (s:ByteArray) (i n:Nat) (hn:1<=n) (h:i+n<=s.size):(s.extract i (i+n)).data.toList=B s i::(s.data.toList.drop (i+1)).take (n-1):=by
 have e:(s.extract i (i+n)).data.toList=(s.data.toList.drop i).take n:=by
  simp[ByteArray.data_extract,Array.toList_extract,List.extract_eq_take_drop]
 rw[e,a0N s i (by omega)]
 obtain ⟨m,rfl⟩:∃m,n=m+1:=⟨n-1,by omega⟩
 simp
open Go Go.RowKit
theorem a1S (c:UInt8) (r:List UInt8) (h:c=44\/c=40\/c=41\/c=58\/c=46):a2x c r=some ((c.toNat:Int),0,0):=by
 rcases h with rfl|rfl|rfl|rfl|rfl<;>simp[a2x,a0o,a0t]
theorem a4R (c:UInt8) (r:List UInt8) (h:a0o c.toNat=true) (n:Nat) (hn:(r.takeWhile a0s).length=n):a2x c r=some (119,0,n):=by
 unfold a2x;rw[if_pos h,hn]
theorem a5G (c:UInt8) (r:List UInt8) (h1:a0o c.toNat=false) (h2:a0t c.toNat=false) (h3:¬(c=45/\(r.head?.map dig)=some true)) (h4:¬(c=44\/c=40\/c=41\/c=58\/c=46)):a2x c r=none:=by
 unfold a2x;simp only[h1,h2,h3,h4,if_false,Bool.false_eq_true]
theorem a4d (c:UInt8) (r:List UInt8) (h1:a0o c.toNat=false) (h2:a0t c.toNat=true) (n:Nat) (hn:(r.takeWhile dig).length=n) (h:10<n+1):a2x c r=none:=by
 unfold a2x;simp only[h1,h2,hn,if_false,if_true,Bool.false_eq_true];rw[if_pos h]
theorem a4O (c:UInt8) (r:List UInt8) (h1:a0o c.toNat=false) (h2:a0t c.toNat=true) (n:Nat) (hn:(r.takeWhile dig).length=n) (h:((r.drop n).head?.map fun d=>a0o d.toNat)=some true):a2x c r=none:=by
 unfold a2x;simp only[h1,h2,hn,if_false,if_true,Bool.false_eq_true];rw[if_pos h];split<;>rfl
theorem b0k (c:UInt8) (r:List UInt8) (h1:a0o c.toNat=false) (h2:a0t c.toNat=true) (n:Nat) (hn:(r.takeWhile dig).length=n) (h10:¬10<n+1) (h:((r.drop n).head?.map fun d=>a0o d.toNat)≠some true):a2x c r=some (105,a2t 0 (c::r.take n),n):=by
 unfold a2x;simp only[h1,h2,hn,if_false,if_true,Bool.false_eq_true];rw[if_neg h10,if_neg h];have e:r.takeWhile dig=r.take n:=by rw[<-hn];exact (List.prefix_iff_eq_take.1 (List.takeWhile_prefix _))
 rw[e]
theorem a35 (r:List UInt8) (h3:(r.head?.map dig)=some true) (n:Nat) (hn:(r.takeWhile dig).length=n) (h:10<n):a2x 45 r=none:=by
 have a:a0o ((45:UInt8).toNat:Int)=false:=rfl;have b:a0t ((45:UInt8).toNat:Int)=false:=rfl;unfold a2x;simp only[a,b,hn,h3,if_false,if_true,Bool.false_eq_true,and_self];rw[if_pos h]
theorem a4Z (r:List UInt8) (h3:(r.head?.map dig)=some true) (n:Nat) (hn:(r.takeWhile dig).length=n) (h:((r.drop n).head?.map fun d=>a0o d.toNat)=some true):a2x 45 r=none:=by
 have a:a0o ((45:UInt8).toNat:Int)=false:=rfl;have b:a0t ((45:UInt8).toNat:Int)=false:=rfl;unfold a2x;simp only[a,b,hn,h3,if_false,if_true,Bool.false_eq_true,and_self];rw[if_pos h];split<;>rfl
theorem b0z (r:List UInt8) (h3:(r.head?.map dig)=some true) (n:Nat) (hn:(r.takeWhile dig).length=n) (h10:¬10<n) (h:((r.drop n).head?.map fun d=>a0o d.toNat)≠some true):a2x 45 r=some (105,- a2t 0 (r.take n),n):=by
 have a:a0o ((45:UInt8).toNat:Int)=false:=rfl;have b:a0t ((45:UInt8).toNat:Int)=false:=rfl;unfold a2x;simp only[a,b,hn,h3,if_false,if_true,Bool.false_eq_true,and_self];rw[if_neg h10,if_neg h];have e:r.takeWhile dig=r.take n:=by rw[<-hn];exact (List.prefix_iff_eq_take.1 (List.takeWhile_prefix _))
 rw[e]
theorem a9R (s:ByteArray) (q:Nat) (h:q<s.size):(s.data.toList.drop q).head?=some (B s q):=by rw[a0N s q h];rfl
theorem b4t (s:ByteArray) (q:Nat) (h:s.size<=q):(s.data.toList.drop q).head?=none:=by
 have:s.data.toList.drop q=[]:=by apply List.drop_eq_nil_of_le;simpa using h
 rw[this];rfl
def a1t (s:ByteArray) (f k:Nat):Int:=a2t 0 ((s.data.toList.drop f).take (k-f))
theorem b5R (a:Int) (l:List UInt8) (c:UInt8):a2t a (l++[c])=10*a2t a l+c.toNat-48:=by
 induction l generalizing a with
 | nil=>rfl
 | cons d l ih=>simp only[List.cons_append,a2t,ih]
theorem a2v (s:ByteArray) (f:Nat):a1t s f f=0:=by simp[a1t,a2t]
theorem a2Z (s:ByteArray) (f k:Nat) (hf:f<=k) (hk:k<s.size):a1t s f (k+1)=10*a1t s f k+(B s k).toNat-48:=by
 unfold a1t;have hl:k-f<(s.data.toList.drop f).length:=by simp;omega
 have e:k+1-f=(k-f)+1:=by omega
 rw[e,List.take_succ_eq_append_getElem hl,b5R]
 have:(s.data.toList.drop f)[k-f]=B s k:=by
  rw[List.getElem_drop,<-a9J s k hk];have:f+(k-f)=k:=by omega
  simp only[this];rfl
 rw[this]
theorem a7N {c:Int} (h:a0t c=true):48<=c/\c<=57:=by simpa[a0t] using h
theorem b4h (s:ByteArray) (f k:Nat) (hf:f<=k) (hk:k<=s.size) (hd:∀q,f<=q->q<k->a0t (B s q).toNat=true):0<=a1t s f k/\a1t s f k<10^(k-f):=by
 induction k with
 | zero=>have:f=0:=by omega
         subst this;rw[a2v];simp
 | succ k ih=>
  by_cases e:f=k+1
  ·subst e;rw[a2v];simp
  ·have h1:=ih (by omega) (by omega) (fun q a b=>hd q a (by omega))
   (have h2:=a7N (hd k (by omega) (by omega)));(rw[a2Z s f k (by omega) (by omega)]);(have e2:k+1-f=(k-f)+1:=by omega);rw[e2,Int.pow_succ];omega
theorem a3T (s:ByteArray) (f k:Nat) (hf:f<=k) (hk:k<=s.size) (h10:k-f<=10) (hd:∀q,f<=q->q<k->a0t (B s q).toNat=true):0<=a1t s f k/\a1t s f k<=10000000000:=by
 have h:=b4h s f k hf hk hd
 have hp:(10:Int)^(k-f)<=10^10:=by
  have:=Nat.pow_le_pow_right (n:=10) (by omega) h10
  exact_mod_cast this
 have e:(10:Int)^10=10000000000:=by decide
 omega
theorem a79 (s:ByteArray) (f n:Nat) (hf:f<s.size) (hn:1<=n):a1t s f (f+n)=a2t 0 (B s f::(s.data.toList.drop (f+1)).take (n-1)):=by
 unfold a1t;obtain ⟨m,rfl⟩:∃m,n=m+1:=⟨n-1,by omega⟩
 rw[a0N s f hf];have e:f+(m+1)-f=m+1:=by omega
 rw[e];simp
theorem c8Z (c:UInt8):c=35\/c=32\/c=9\/c=44\/c=40\/c=41\/c=58\/c=46\/c=45\/
    (((c.toNat:Int) != 35)=true/\((c.toNat:Int)==32)=false/\((c.toNat:Int)==9)=false/\((c.toNat:Int)==44)=false/\((c.toNat:Int)==40)=false/\((c.toNat:Int)==41)=false/\
      ((c.toNat:Int)==58)=false/\((c.toNat:Int)==46)=false/\((c.toNat:Int)==45)=false/\Hid (c≠35)/\Hid (¬(c=32\/c=9))/\Hid (¬(c=44\/c=40\/c=41\/c=58\/c=46))/\Hid (c≠45)):=by
 have key:∀n:Nat,n<256->c≠UInt8.ofNat n->(c.toNat:Int)≠(n:Int):=fun n hn h he=>h (a3W he)
 by_cases h1:c=35;· exact .inl h1
 by_cases h2:c=32;· exact .inr (.inl h2)
 by_cases h3:c=9;· exact .inr (.inr (.inl h3))
 by_cases h4:c=44;· exact .inr (.inr (.inr (.inl h4)))
 by_cases h5:c=40;· exact .inr (.inr (.inr (.inr (.inl h5))))
 by_cases h6:c=41;· exact .inr (.inr (.inr (.inr (.inr (.inl h6)))))
 by_cases h7:c=58;· exact .inr (.inr (.inr (.inr (.inr (.inr (.inl h7))))))
 by_cases h8:c=46;· exact .inr (.inr (.inr (.inr (.inr (.inr (.inr (.inl h8)))))))
 by_cases h9:c=45;· exact .inr (.inr (.inr (.inr (.inr (.inr (.inr (.inr (.inl h9))))))))
 refine .inr (.inr (.inr (.inr (.inr (.inr (.inr (.inr (.inr ?_))))))))
 refine ⟨bne_iff_ne.2 (key 35 (by omega) h1),beq_eq_false_iff_ne.2 (key 32 (by omega) h2),beq_eq_false_iff_ne.2 (key 9 (by omega) h3),beq_eq_false_iff_ne.2 (key 44 (by omega) h4),beq_eq_false_iff_ne.2 (key 40 (by omega) h5),
  beq_eq_false_iff_ne.2 (key 41 (by omega) h6),beq_eq_false_iff_ne.2 (key 58 (by omega) h7),beq_eq_false_iff_ne.2 (key 46 (by omega) h8),beq_eq_false_iff_ne.2 (key 45 (by omega) h9),h1,?_,?_,h9⟩
 ·rintro (h|h);exact h2 h;exact h3 h
 ·rintro (h|h|h|h|h);exact h4 h;exact h5 h;exact h6 h;exact h7 h;exact h8 h
theorem a7l {p:UInt8->Bool} {s:ByteArray} {i m:Nat} (h:∀q,1<=q->q<m->p (B s (i+q))=true) (hm:p (B s (i+m))=true):∀q,1<=q->q<m+1->p (B s (i+q))=true:=fun q h1 h2=>by
 by_cases e:q=m
 ·rw[e];exact hm
 ·exact h q h1 (by omega)
theorem c2Z (s:ByteArray) (j m:Nat) (hm:1<=m) (h:j+m<s.size) (hl:a0o (B s (j+m)).toNat=true):
    ((((s.data.toList.drop (j+1)).drop (m-1)).head?.map fun d=>a0o d.toNat)=some true):=by
 have e:j+1+(m-1)=j+m:=by omega
 rw[List.drop_drop,e,a9R s (j+m) h];simp[hl]
theorem b63 (s:ByteArray) (j m:Nat) (hm:1<=m) (h:j+m<s.size) (hl:a0o (B s (j+m)).toNat=false):
    ((((s.data.toList.drop (j+1)).drop (m-1)).head?.map fun d=>a0o d.toNat)≠some true):=by
 have e:j+1+(m-1)=j+m:=by omega
 rw[List.drop_drop,e,a9R s (j+m) h];simp[hl]
theorem b6G (s:ByteArray) (j m:Nat) (hm:1<=m) (h:s.size<=j+m):
    ((((s.data.toList.drop (j+1)).drop (m-1)).head?.map fun d=>a0o d.toNat)≠some true):=by
 have e:j+1+(m-1)=j+m:=by omega
 rw[List.drop_drop,e,b4t s (j+m) h];simp
theorem c1v (s:ByteArray) (j:Nat) (h:j+1<s.size) (hd:a0t (B s (j+1)).toNat=true):((s.data.toList.drop (j+1)).head?.map dig)=some true:=by
 rw[a9R s (j+1) h];simp[dig,hd]
theorem a9M {s:ByteArray} {j m:Nat} (h:∀q,1<=q->q<m->dig (B s (j+q))=true):∀q,j+1<=q->q<j+m->a0t (B s q).toNat=true:=fun q h1 h2=>by
 have:=h (q-j) (by omega) (by omega)
 have e:j+(q-j)=q:=by omega
 rw[e]at this;exact this
theorem b4C {s:ByteArray} {j m:Nat} (h0:a0t (B s j).toNat=true) (h:∀q,1<=q->q<m->dig (B s (j+q))=true):∀q,j<=q->q<j+m->a0t (B s q).toNat=true:=fun q h1 h2=>by
 by_cases e:q=j
 ·rw[e];exact h0
 ·exact a9M h q (by omega) h2
theorem b1v (s:ByteArray) (j m:Nat) (hm:1<=m):a1t s (j+1) (j+m)=a2t 0 ((s.data.toList.drop (j+1)).take (m-1)):=by
 unfold a1t;have e:j+m-(j+1)=m-1:=by omega
 rw[e]
def a7d (S:ByteArray) (k:Nat):Bool:=decide (∀q,q<k->1<=q->a0t (B S q).toNat=true)
def a6J (kd:Int) (S:ByteArray):Int:=
 if kd=119/\2<=S.size/\S.size<=3/\(B S 0).toNat=120/\a7d S S.size=true/\a1t S 1 S.size<=31/\¬(S.size=3/\(B S 1).toNat=48) then a1t S 1 S.size else -1
theorem a4k {kd:Int} {S:ByteArray} (h:¬(kd=119/\2<=S.size/\S.size<=3/\(B S 0).toNat=120/\a7d S S.size=true/\a1t S 1 S.size<=31/\¬(S.size=3/\(B S 1).toNat=48))):a6J kd S=-1:=by
 unfold a6J;rw[if_neg h]
theorem b6J (S:ByteArray):a7d S 1=true:=by
 unfold a7d;rw[decide_eq_true_eq];intro q h1 h2;omega
theorem b6h {S:ByteArray} {k:Nat} (h:a7d S k=true) (hd:a0t (B S k).toNat=true):a7d S (k+1)=true:=by
 unfold a7d at *;simp only[decide_eq_true_eq]at *;intro q h1 h2;by_cases e:q=k
 ·rw[e];exact hd
 ·exact h q (by omega) h2
theorem c0n {S:ByteArray} {k n:Nat} (hk:1<=k) (hn:k<n) (hd:a0t (B S k).toNat=false):a7d S n≠true:=by
 unfold a7d;rw[ne_eq,decide_eq_true_eq];intro h;have:=h k hn hk;rw[hd]at this;cases this
theorem a4W {S:ByteArray} {k:Nat} (h:a7d S k=true):∀q,1<=q->q<k->a0t (B S q).toNat=true:=by
 unfold a7d at h;simp only[decide_eq_true_eq]at h;exact fun q a b=>h q b a
theorem b6Z (kd:Int) (S:ByteArray):-1<=a6J kd S/\a6J kd S<=31:=by
 unfold a6J
 split
 ·rename_i h
  have:=b4h S 1 S.size (by omega) (by omega) (a4W h.2.2.2.2.1)
  omega
 ·omega
def Tok.S (t:Tok):ByteArray:=⟨t.text.toArray⟩
def a0r:List Tok->List UInt8->List Int->Int->ByteArray->Option (List Int×Int×ByteArray)
 | [],[],rs,n,nm=>some (rs,n,nm)
 | t::l,f::F,rs,n,nm=>
  if f=114 then (if a6J t.kind t.S<0 then none else a0r l F (rs++[a6J t.kind t.S]) n nm)
  else if (f=105\/f=116)/\t.kind=105 then a0r l F rs t.num nm
  else if f=116/\t.kind=119/\t.S.size<=8 then a0r l F rs n t.S
  else if (f.toNat:Int)=t.kind/\f≠105 then a0r l F rs n nm
  else none
 | _,_,_,_,_=>none
theorem a1c:∀(l:List Tok) (F:List UInt8) (rs:List Int) (n:Int) (nm:ByteArray),l.length≠F.length->a0r l F rs n nm=none
 | [],[],_,_,_,h=>by simp at h
 | [],f::F,_,_,_,_=>by simp[a0r]
 | t::l,[],_,_,_,_=>by simp[a0r]
 | t::l,f::F,rs,n,nm,h=>by
  have h':l.length≠F.length:=by simpa using h
  simp only[a0r]
  repeat' split
  all_goals first|rfl|exact a1c l F _ _ _ h'
theorem c8b {f:UInt8} {n:Nat} (h:((f.toNat:Int)==(n:Int))=true):f=UInt8.ofNat n:=a3W (by simpa using h)
theorem a0J (rs:List Int) (n:Int) (nm:ByteArray):a0r [] [] rs n nm=some (rs,n,nm):=by simp[a0r]
theorem b9J {f:UInt8} (hf:f=114) (t:Tok) (l:List Tok) (F:List UInt8) (rs:List Int) (n:Int) (nm:ByteArray) (h:¬a6J t.kind t.S<0):a0r (t::l) (f::F) rs n nm=a0r l F (rs++[a6J t.kind t.S]) n nm:=by
 subst hf;simp only[a0r,if_true];rw[if_neg h]
theorem b1C {f:UInt8} (hf:f=114) (t:Tok) (l:List Tok) (F:List UInt8) (rs:List Int) (n:Int) (nm:ByteArray) (h:a6J t.kind t.S<0):a0r (t::l) (f::F) rs n nm=none:=by
 subst hf;simp only[a0r,if_true];rw[if_pos h]
theorem a9B {f:UInt8} (hf:f≠114) (hf2:f=105\/f=116) (t:Tok) (l:List Tok) (F:List UInt8) (rs:List Int) (n:Int) (nm:ByteArray) (h:t.kind=105):a0r (t::l) (f::F) rs n nm=a0r l F rs t.num nm:=by
 simp only[a0r];rw[if_neg hf,if_pos ⟨hf2,h⟩]
theorem b8e {f:UInt8} (hf:f=116) (t:Tok) (l:List Tok) (F:List UInt8) (rs:List Int) (n:Int) (nm:ByteArray) (h:t.kind=119) (h8:t.S.size<=8):a0r (t::l) (f::F) rs n nm=a0r l F rs n t.S:=by
 subst hf;simp only[a0r];rw[if_neg (by decide),if_neg (by rw[h];omega),if_pos ⟨trivial,h,h8⟩]
theorem b1T {f:UInt8} (hf:f≠114) (t:Tok) (l:List Tok) (F:List UInt8) (rs:List Int) (n:Int) (nm:ByteArray) (h1:¬((f=105\/f=116)/\t.kind=105)) (h2:¬(f=116/\t.kind=119/\t.S.size<=8)) (h3:(f.toNat:Int)=t.kind) (h4:f≠105):a0r (t::l) (f::F) rs n nm=a0r l F rs n nm:=by
 simp only[a0r];rw[if_neg hf,if_neg h1,if_neg h2,if_pos ⟨h3,h4⟩]
theorem a5y {f:UInt8} (hf:f≠114) (t:Tok) (l:List Tok) (F:List UInt8) (rs:List Int) (n:Int) (nm:ByteArray) (h1:¬((f=105\/f=116)/\t.kind=105)) (h2:¬(f=116/\t.kind=119/\t.S.size<=8)) (h3:¬((f.toNat:Int)=t.kind/\f≠105)):a0r (t::l) (f::F) rs n nm=none:=by
 simp only[a0r];rw[if_neg hf,if_neg h1,if_neg h2,if_neg h3]
def a0B (kd:Nat):List UInt8:=
 if kd=82 then [114,44,114,44,114] else if kd=73\/kd=72\/kd=87 then [114,44,114,44,105] else if kd=76\/kd=83 then [114,44,105,40,114,41]
 else if kd=66 then [114,44,114,44,116] else if kd=85 then [114,44,105] else if kd=74 then [114,44,116] else []
def a2m (k:Nat) (rs:List Int) (n:Int):Ins:=
 if (row k).kind=82 then ⟨k+1,rs.getD 0 0,rs.getD 1 0,rs.getD 2 0,n⟩
 else if (row k).kind=73\/(row k).kind=72\/(row k).kind=87\/(row k).kind=76 then ⟨k+1,rs.getD 0 0,rs.getD 1 0,0,n⟩
 else if (row k).kind=83 then ⟨k+1,0,rs.getD 1 0,rs.getD 0 0,n⟩
 else if (row k).kind=66 then ⟨k+1,0,rs.getD 0 0,rs.getD 1 0,n⟩
 else if (row k).kind=85\/(row k).kind=74 then ⟨k+1,rs.getD 0 0,0,0,n⟩
 else ⟨k+1,0,0,0,n⟩
def named (t:Tok) (k:Nat):Bool:=(t.kind==119)&&(t.text==(row k).name)
def plain (t:Tok) (l:List Tok) (targets:Bool):Ins×ByteArray×Int:=
 match (List.range 64).find? (named t) with
 | none=>(⟨0,0,0,0,0⟩,⟨#[]⟩,4)
 | some k=>
  match a0r l (a0B (row k).kind) [] 0 ⟨#[]⟩ with
  | none=>(⟨0,0,0,0,0⟩,⟨#[]⟩,4)
  | some (rs,n,nm)=>
   if nm.data.toList≠[]/\targets=false then (⟨0,0,0,0,0⟩,⟨#[]⟩,4)
   else if right (a2m k rs n) then (a2m k rs n,nm,0) else (a2m k rs n,nm,5)
theorem a2B:∀(l:List Tok) (F:List UInt8) (rs:List Int) (n:Int) (nm:ByteArray) (rs':List Int) (n':Int) (nm':ByteArray),a0r l F rs n nm=some (rs',n',nm')->rs'.length=rs.length+F.count 114
 | [],[],rs,n,nm,rs',n',nm',h=>by simp[a0r]at h;simp[h.1]
 | [],f::F,_,_,_,_,_,_,h=>by simp[a0r]at h
 | t::l,[],_,_,_,_,_,_,h=>by simp[a0r]at h
 | t::l,f::F,rs,n,nm,rs',n',nm',h=>by
  simp only[a0r]at h
  split at h
  ·rename_i hf
   split at h
   ·cases h
   ·have:=a2B l F _ _ _ _ _ _ h
    simp[hf]at this ⊢;omega
  ·rename_i hf
   (have hc:(f::F).count 114=F.count 114:=by rw[List.count_cons];simp[hf]);rw[hc]
   repeat' split at h
   all_goals first|exact a2B l F _ _ _ _ _ _ h|cases h
theorem b5N {t:Tok} {k:Nat} (h:(t.kind != 119)=true):named t k=false:=by
 have:(t.kind==119)=false:=by simpa using h
 simp[named,this]
theorem a05 (t:Tok):t.S.toList=t.text:=by simp[Tok.S]
theorem b72 {t:Tok} {k:Nat} (h:(t.S.toList==(row k).name)=false):named t k=false:=by
 rw[a05]at h;simp[named,h]
theorem b80 {t:Tok} {k:Nat} (h:(t.kind != 119)=false) (h2:(t.S.toList==(row k).name)=true):named t k=true:=by
 rw[a05]at h2;have:(t.kind==119)=true:=by simpa using h
 simp only[named,this,h2,Bool.and_self]
theorem b8g {p:Nat->Bool} {k:Nat} (h:∀j,j<k->p j=false) (hk:p k=false):∀j,j<k+1->p j=false:=fun j hj=>by
 by_cases e:j=k
 ·rw[e];exact hk
 ·exact h j (by omega)
theorem a2S {t:Tok} {l:List Tok} {k:Nat} (h:(List.range 64).find? (named t)=some k) (ho:a0r l (a0B (row k).kind) [] 0 ⟨#[]⟩=none) (tg:Bool):plain t l tg=(⟨0,0,0,0,0⟩,⟨#[]⟩,4):=by
 simp only[plain,h,ho]
theorem a1b {t:Tok} (h:(List.range 64).find? (named t)=none) (l:List Tok) (tg:Bool):plain t l tg=(⟨0,0,0,0,0⟩,⟨#[]⟩,4):=by
 simp only[plain,h]
theorem a6W {t:Tok} {l:List Tok} {k:Nat} {rs:List Int} {n:Int} {nm:ByteArray} (h:(List.range 64).find? (named t)=some k) (ho:a0r l (a0B (row k).kind) [] 0 ⟨#[]⟩=some (rs,n,nm)) (h1:nm.toList.isEmpty=false):plain t l false=(⟨0,0,0,0,0⟩,⟨#[]⟩,4):=by
 rw[ByteArray.toList_eq]at h1;have:nm.data.toList≠[]:=by intro e;rw[e]at h1;cases h1
 simp only[plain,h,ho];rw[if_pos ⟨this,trivial⟩]
theorem a6L {t:Tok} {l:List Tok} {k:Nat} {rs:List Int} {n:Int} {nm:ByteArray} {tg:Bool} (h:(List.range 64).find? (named t)=some k) (ho:a0r l (a0B (row k).kind) [] 0 ⟨#[]⟩=some (rs,n,nm)) (h1:nm.toList.isEmpty=true\/tg=true):
    plain t l tg=(a2m k rs n,nm,if right (a2m k rs n) then 0 else 5):=by
 rw[ByteArray.toList_eq]at h1
 have:¬(nm.data.toList≠[]/\tg=false):=by
  rintro ⟨a,b⟩;rcases h1 with h1|h1
  ·exact a (by simpa using h1)
  ·rw[h1]at b;cases b
 simp only[plain,h,ho];rw[if_neg this];split<;>rfl
theorem b7s (k:Nat) (rs:List Int) (n:Int) (h:(row k).kind=82):a2m k rs n=⟨k+1,rs.getD 0 0,rs.getD 1 0,rs.getD 2 0,n⟩:=by
 unfold a2m;rw[if_pos (by omega)]
theorem a8b (k:Nat) (rs:List Int) (n:Int) (h:(row k).kind=73\/(row k).kind=72\/(row k).kind=87\/(row k).kind=76):a2m k rs n=⟨k+1,rs.getD 0 0,rs.getD 1 0,0,n⟩:=by
 unfold a2m;rw[if_neg (by omega),if_pos (by omega)]
theorem b8X (k:Nat) (rs:List Int) (n:Int) (h:(row k).kind=83):a2m k rs n=⟨k+1,0,rs.getD 1 0,rs.getD 0 0,n⟩:=by
 unfold a2m;rw[if_neg (by omega),if_neg (by omega),if_pos (by omega)]
theorem b0U (k:Nat) (rs:List Int) (n:Int) (h:(row k).kind=66):a2m k rs n=⟨k+1,0,rs.getD 0 0,rs.getD 1 0,n⟩:=by
 unfold a2m;rw[if_neg (by omega),if_neg (by omega),if_neg (by omega),if_pos (by omega)]
theorem a7Y (k:Nat) (rs:List Int) (n:Int) (h:(row k).kind=85\/(row k).kind=74):a2m k rs n=⟨k+1,rs.getD 0 0,0,0,n⟩:=by
 unfold a2m;rw[if_neg (by omega),if_neg (by omega),if_neg (by omega),if_neg (by omega),if_pos (by omega)]
theorem b62 (k:Nat) (rs:List Int) (n:Int) (h:(row k).kind=78):a2m k rs n=⟨k+1,0,0,0,n⟩:=by
 unfold a2m;rw[if_neg (by omega),if_neg (by omega),if_neg (by omega),if_neg (by omega),if_neg (by omega)]
def cnt (s:ByteArray) (c:Int):Nat->Int
 | 0=>0
 | k+1=>cnt s c k+if ((B s k).toNat:Int)=c then 1 else 0
theorem a4z (s:ByteArray) (c:Int):∀k,0<=cnt s c k/\cnt s c k<=k
 | 0=>by simp[cnt]
 | k+1=>by have:=a4z s c k;simp only[cnt];split<;>omega
theorem c3l {s:ByteArray} {c:Int} {k:Nat} (h:(((B s k).toNat:Int)==c)=true):cnt s c (k+1)=cnt s c k+1:=by
 simp only[cnt];rw[if_pos (by simpa using h)]
theorem c58 {s:ByteArray} {c:Int} {k:Nat} (h:(((B s k).toNat:Int)==c)=false):cnt s c (k+1)=cnt s c k:=by
 simp only[cnt];rw[if_neg (by simpa using h)];omega
theorem b0E:∀(n:Nat) (l:List UInt8) (b:Bool) (A:List Tok),l.length<=n->a00 l b=some A->A.length<=l.length
 | n,[],b,A,_,h=>by rw[a3o]at h;cases h;simp
 | 0,c::r,b,A,hn,_=>by simp at hn
 | n+1,c::r,b,A,hn,h=>by
  have hr:r.length<=n:=by simpa using hn
  rw[a8o]at h
  split at h
  ·cases h;simp
  ·split at h
   ·have:=b0E n r true A hr h
    simp;omega
   ·split at h
    ·cases h
    ·rename_i k v m _
     cases ht:a00 (r.drop m) false with
     | none=>rw[ht]at h;cases h
     | some A'=>
      rw[ht]at h;(have:=b0E n (r.drop m) false A' (by simp;omega) ht);simp only[Option.map_some,Option.some.injEq]at h;rw[<-h];simp at this ⊢;omega
def rd (s:ByteArray):Ins×Int:=
 if 2000<s.size then (⟨0,0,0,0,0⟩,4)
 else match a00 s.data.toList false with
  | none=>(⟨0,0,0,0,0⟩,4)
  | some []=>(⟨0,0,0,0,0⟩,4)
  | some (t::l)=>
   if 0<cnt s 10 s.size then (⟨0,0,0,0,0⟩,4)
   else if (plain t l false).2.2=0 then ((plain t l false).1,0) else (⟨0,0,0,0,0⟩,(plain t l false).2.2)
theorem b6P {s:ByteArray} (h:2000<s.size):rd s=(⟨0,0,0,0,0⟩,4):=by unfold rd;rw[if_pos h]
theorem b0s {s:ByteArray} (h:¬2000<s.size) (ht:a00 s.data.toList false=none):rd s=(⟨0,0,0,0,0⟩,4):=by unfold rd;rw[if_neg h,ht]
theorem b42 {s:ByteArray} (h:¬2000<s.size) (ht:a00 s.data.toList false=some []):rd s=(⟨0,0,0,0,0⟩,4):=by unfold rd;rw[if_neg h,ht]
theorem c6n {s:ByteArray} {t:Tok} {l:List Tok} (h:¬2000<s.size) (ht:a00 s.data.toList false=some (t::l)) (hc:0<cnt s 10 s.size):rd s=(⟨0,0,0,0,0⟩,4):=by
 unfold rd;rw[if_neg h,ht];simp only;rw[if_pos hc]
theorem c6J {s:ByteArray} {t:Tok} {l:List Tok} (h:¬2000<s.size) (ht:a00 s.data.toList false=some (t::l)) (hc:¬0<cnt s 10 s.size) (hp:(plain t l false).2.2=0):rd s=((plain t l false).1,0):=by
 unfold rd;rw[if_neg h,ht];simp only;rw[if_neg hc,if_pos hp]
theorem b8G {s:ByteArray} {t:Tok} {l:List Tok} (h:¬2000<s.size) (ht:a00 s.data.toList false=some (t::l)) (hc:¬0<cnt s 10 s.size) (hp:(plain t l false).2.2≠0):rd s=(⟨0,0,0,0,0⟩,(plain t l false).2.2):=by
 unfold rd;rw[if_neg h,ht];simp only;rw[if_neg hc,if_neg hp]
def shp (kd:Nat):List UInt8:=
 if kd=82 then [100,44,115,44,116] else if kd=73\/kd=72\/kd=87 then [100,44,115,44,105] else if kd=76 then [100,44,105,40,115,41] else if kd=83 then [116,44,105,40,115,41]
 else if kd=66 then [115,44,116,44,112] else if kd=85 then [100,44,105] else if kd=74 then [100,44,112] else []
def b2R (i:Ins) (r:UInt8):List UInt8:=
 if r=100 then a67 i.rd else if r=115 then a67 i.rs1 else if r=116 then a67 i.rs2 else if r=105\/r=112 then Lib.itoa i.imm else if r=44 then [44,32] else [r]
def a7b (r:UInt8):Prop:=r=100\/r=115\/r=116\/r=105\/r=112\/r=44\/r=40\/r=41
theorem a49 {kd:Nat} (h:a4i kd):∀r∈shp kd,a7b r:=by
 unfold a7b;rcases h with rfl|rfl|rfl|rfl|rfl|rfl|rfl|rfl|rfl|rfl<;>decide
theorem a90 (kd:Nat):(shp kd).length<=6:=by
 unfold shp
 repeat' split
 all_goals simp
theorem a6t {kd:Nat} (h:a4i kd) (i:Ins):(if shp kd=[] then [] else 32::(shp kd).flatMap (b2R i))=behind kd (a67 i.rd) (a67 i.rs1) (a67 i.rs2) (Lib.itoa i.imm):=by
 rcases h with rfl|rfl|rfl|rfl|rfl|rfl|rfl|rfl|rfl|rfl<;>simp[shp,behind,b2R]
def goes (k r:Int):Bool:=if k=1 then (a0o r||a0t r||(r==46)) else if k=2 then a0t r else false
def beg (r:Int):Option Int:=
 if a0o r||(r==46) then some 1 else if a0t r||(r==45) then some 2 else if (r==44)||(r==58)||(r==40)||(r==41) then some 3 else if (r==32)||(r==9) then some 0 else none
def a7k (t:List UInt8):Bool:=decide (1<=(Lib.trimPrefix t [45]).length)&&decide ((Lib.trimPrefix t [45]).length<=10)
def a5m (k:Int) (t:List UInt8):Bool:=(k != 2)||a7k t
abbrev Pc:=Int×List UInt8
def a1D (p:Pc):List Value:=[.int .i64 p.1,.string ⟨p.2.toArray⟩]
def a36 (k:Int) (t:List UInt8):Option (List Pc):=if k=0 then some [] else if a5m k t then some [(k,t)] else none
def a1d:List UInt8->Int->List UInt8->Option (List Pc)
 | [],k,t=>a36 k t
 | c::l,k,t=>if goes k c.toNat then a1d l k (t++[c]) else (a36 k t).bind fun ps=>(beg c.toNat).bind fun k'=>(a1d l k' [c]).map (ps++·)
theorem a4E {c:UInt8} {l:List UInt8} {k:Int} {t:List UInt8} (h:goes k c.toNat=true):a1d (c::l) k t=a1d l k (t++[c]):=by simp[a1d,h]
theorem a7o {c:UInt8} {l:List UInt8} {k:Int} {t:List UInt8} (h:goes k c.toNat=false) (he:a36 k t=none):a1d (c::l) k t=none:=by simp[a1d,h,he]
theorem a7I {c:UInt8} {l:List UInt8} {k:Int} {t:List UInt8} (h:goes k c.toNat=false) (hb:beg c.toNat=none):a1d (c::l) k t=none:=by
 simp[a1d,h,hb]
theorem a5J {c:UInt8} {l:List UInt8} {k k':Int} {t:List UInt8} {ps:List Pc} (h:goes k c.toNat=false) (he:a36 k t=some ps) (hb:beg c.toNat=some k'):a1d (c::l) k t=(a1d l k' [c]).map (ps++·):=by simp[a1d,h,he,hb]
theorem a8N {k r:Int} (h:128<=r):goes k r=false:=by
 have h1:a0o r=false:=by simp[a0o];omega
 have h2:a0t r=false:=by simp[a0t];omega
 have h3:(r==46)=false:=by simp;omega
 simp[goes,h1,h2,h3]
theorem b0q {r:Int} (h:128<=r):beg r=none:=by
 have h1:a0o r=false:=by simp[a0o];omega
 have h2:a0t r=false:=by simp[a0t];omega
 have q:∀n:Int,n<128->(r==n)=false:=fun n hn=>by simp;omega
 simp only[beg,h1,h2,q 46 (by decide),q 45 (by decide),q 44 (by decide),q 58 (by decide),q 40 (by decide),q 41 (by decide),q 32 (by decide),q 9 (by decide),Bool.or_self,Bool.false_eq_true,if_false]
theorem a5R (t:List UInt8):a36 0 t=some []:=rfl
theorem a4l {k:Int} {t:List UInt8} (h:(k==0)=false) (he:a5m k t=true):a36 k t=some [(k,t)]:=by
 have:¬k=0:=by simpa using h
 simp[a36,this,he]
theorem b3J {k:Int} {t:List UInt8} (h:(k==0)=false) (he:a5m k t=false):a36 k t=none:=by
 have:¬k=0:=by simpa using h
 simp[a36,this,he]
theorem b4W (L:ByteArray) (f j:Nat) (hf:f<=j) (hj:j<L.size):(L.extract f (j+1)).data.toList=(L.extract f j).data.toList++[L[j]'hj]:=by
 have e:∀m,(L.extract f m).data.toList=(L.data.toList.drop f).take (m-f):=fun m=>by simp[ByteArray.data_extract,Array.toList_extract,List.extract_eq_take_drop]
 rw[e,e,show j+1-f=(j-f)+1 by omega,List.take_add_one,List.getElem?_drop,show f+(j-f)=j by omega,List.getElem?_eq_getElem (by simpa using hj)]
 rfl
theorem c4K (L:ByteArray) (j:Nat) (hj:j<L.size):(L.extract j (j+1)).data.toList=[L[j]'hj]:=by
 rw[b4W L j j (Nat.le_refl _) hj];simp
def a4x (k:Int) (t:List UInt8):Bool:=(k==1)&&decide (t.length<=8)&&!decide (0<=Lib.indexByte t 46)
def a4U (k:Int) (t:List UInt8):Option Int:=if k=2 then (match Lib.atoiAll t with | .ok v=>some v|_=>none) else none
def a2l (t:List UInt8):Option Int:=
 if Lib.hasPrefix t [120] then (match Lib.atoiAll (Lib.trimPrefix t [120]) with | .ok v=>if v<=31/\a67 v=t then some v else none|_=>none) else none
theorem b5Q {l:List UInt8} {v:Int} (h:Lib.atoiAll l=.ok v):-9223372036854775808<=v/\v<=9223372036854775807:=by
 unfold Lib.atoiAll at h
 split at h
 ·cases h
 ·dsimp only at h
  split at h
  ·cases h
  ·cases h
  ·split at h
   ·cases h
   ·split at h
    ·cases h
    ·injection h with h
     rename_i h1 h2
     split at h<;>omega
def a0f (i:Ins) (tg:List UInt8):List Value:=[.string ⟨#[]⟩,.int .i64 i.op,.int .i64 i.rd,.int .i64 i.rs1,.int .i64 i.rs2,.int .i64 i.imm,.string ⟨tg.toArray⟩]
def a1i (r:UInt8) (k:Int) (t:List UInt8) (i:Ins) (tg:List UInt8):Option (Ins×List UInt8):=
 if r=100 then (a2l t).map fun n=>({ i with rd:=n },tg)
 else if r=115 then (a2l t).map fun n=>({ i with rs1:=n },tg)
 else if r=116 then (a2l t).map fun n=>({ i with rs2:=n },tg)
 else if r=105 then (a4U k t).map fun n=>({ i with imm:=n },tg)
 else if r=112 then (if a4x k t then some (i,t) else (a4U k t).map fun n=>({ i with imm:=n },tg))
 else if t=[r] then some (i,tg) else none
def a0i:List UInt8->List Pc->Ins->List UInt8->Option (Ins×List UInt8)
 | [],[],i,tg=>some (i,tg)
 | r::F,(k,t)::l,i,tg=>(a1i r k t i tg).bind fun s=>a0i F l s.1 s.2
 | _,_,_,_=>none
def rin (k:Nat) (l:List Pc):List Value×Int:=
 match a0i (shp (row k).kind) l ⟨k+1,0,0,0,0⟩ [] with
 | none=>(a0f ⟨0,0,0,0,0⟩ [],4)
 | some s=>if right s.1 then (a0f s.1 s.2,0) else (a0f ⟨0,0,0,0,0⟩ [],5)
theorem b3S {k:Nat} {l:List Pc} (h:a0i (shp (row k).kind) l ⟨k+1,0,0,0,0⟩ []=none):rin k l=(a0f ⟨0,0,0,0,0⟩ [],4):=by simp[rin,h]
theorem b61 {k:Nat} {l:List Pc} {s:Ins×List UInt8} (h:a0i (shp (row k).kind) l ⟨k+1,0,0,0,0⟩ []=some s) (hr:right s.1=true):rin k l=(a0f s.1 s.2,0):=by simp[rin,h,hr]
theorem c2V {k:Nat} {l:List Pc} {s:Ins×List UInt8} (h:a0i (shp (row k).kind) l ⟨k+1,0,0,0,0⟩ []=some s) (hr:right s.1=false):rin k l=(a0f ⟨0,0,0,0,0⟩ [],5):=by simp[rin,h,hr]
def a0W (nm:ByteArray) (l:List Pc):Ins×Int:=
 match (List.range 64).find? (a1v nm) with
 | none=>(⟨0,0,0,0,0⟩,4)
 | some k=>match a0i (shp (row k).kind) l ⟨k+1,0,0,0,0⟩ [] with
  | none=>(⟨0,0,0,0,0⟩,4)
  | some s=>if right s.1 then (if s.2=[] then (s.1,0) else (⟨0,0,0,0,0⟩,4)) else (⟨0,0,0,0,0⟩,5)
def prd (s:ByteArray):Ins×Int:=
 if 2000<s.size\/0<=Lib.indexByte s.data.toList 10 then (⟨0,0,0,0,0⟩,4)
 else match a1d (Lib.cut s.data.toList [35]).1 0 [] with
  | none=>(⟨0,0,0,0,0⟩,4)
  | some []=>(⟨0,0,0,0,0⟩,4)
  | some (p::l)=>a0W ⟨p.2.toArray⟩ l
theorem b4H {k:Int} {t:List UInt8} {ps:List Pc} (h:a36 k t=some ps):∀p∈ps,p.2.length<=t.length:=by
 unfold a36 at h
 split at h
 ·cases h;simp
 ·split at h
  ·cases h;simp
  ·cases h
theorem a7G:∀(l:List UInt8) (k:Int) (t:List UInt8) (A:List Pc),a1d l k t=some A->∀p∈A,p.2.length<=l.length+t.length
 | [],k,t,A,h,p,hp=>by
  simp only[a1d]at h;have:=b4H h p hp;simpa using this
 | c::l,k,t,A,h,p,hp=>by
  by_cases hg:goes k c.toNat=true
  ·rw[a4E hg]at h
   have:=a7G l k (t++[c]) A h p hp;simp at this ⊢;omega
  ·have hg':goes k c.toNat=false:=by simpa using hg
   cases he:a36 k t with
   | none=>rw[a7o hg' he]at h;cases h
   | some ps=>
    cases hb:beg c.toNat with
    | none=>rw[a7I hg' hb]at h;cases h
    | some k'=>
     rw[a5J hg' he hb]at h
     cases hc:a1d l k' [c] with
     | none=>rw[hc]at h;cases h
     | some B=>
      rw[hc]at h;simp only[Option.map_some,Option.some.injEq]at h;subst h;rcases List.mem_append.1 hp with h1|h1
      ·have:=b4H he p h1;simp;omega
      ·have:=a7G l k' [c] B hc p h1
       simp at this ⊢;omega
