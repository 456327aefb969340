import Derived.Lib.ItoaNum
import Derived.Below
import Derived.Lib.Strings
import Derived.Lib.AtoiAll
import Derived.Lib.IndexMore
import Derived.Test.YtbmcofdodfcnnaaGreatDoorGP
set_option linter.all false
set_option maxHeartbeats 0
set_option maxRecDepth 100000
namespace Go
variable {k n i m j kd : Nat} {c f : UInt8} {s F H : ByteArray} {rs : List Int} {l t : List UInt8} {r v : Int}
def gP (n:Int):List UInt8:=120::Lib.itoa n
def behind (kd:Nat) (d s t n:List UInt8):List UInt8:=
 if kd=82 then 32::d++[44,32]++s++[44,32]++t
 else if kd=73\/kd=72\/kd=87 then 32::d++[44,32]++s++[44,32]++n
 else if kd=76 then 32::d++[44,32]++n++[40]++s++[41]
 else if kd=83 then 32::t++[44,32]++n++[40]++s++[41]
 else if kd=66 then 32::s++[44,32]++t++[44,32]++n
 else if kd=85\/kd=74 then 32::d++[44,32]++n
 else []
def pO (k:Nat) (rd rs1 rs2 imm:Int):List UInt8:=(row k).name++behind (row k).kind (gP rd) (gP rs1) (gP rs2) (Lib.itoa imm)
def gZ (i:aE):List UInt8×Int:=if right i then (pO (i.op-1).toNat i.rd i.rs1 i.rs2 i.imm,0) else ([],1)
def Ab {i:aE} (h:right i=false):gZ i=([],1):=by unfold gZ;simp[h]
def zN {rd rs1 rs2 imm:Int} (h:right ⟨k+1,rd,rs1,rs2,imm⟩=true):gZ ⟨k+1,rd,rs1,rs2,imm⟩=(pO k rd rs1 rs2 imm,0):=by
 unfold gZ;have e:((k:Int)+1-1).toNat=k:=by omega
 simp only[h,if_true,e]
def yx:∀k,k<64->(row k).name.length<=8:=by decide
def bJ (c:Int):Bool:=decide (97<=c)&&decide (c<=122)
def cA (c:Int):Bool:=decide (48<=c)&&decide (c<=57)
structure aI where
 kind:Int
 text:List UInt8
 num:Int
 blank:Bool
def jE (t:aI):List Value:=[.int .u8 t.kind,.string ⟨t.text.toArray⟩,.int .i64 t.num,.bool t.blank]
def aY (c:UInt8):Bool:=bJ c.toNat||cA c.toNat
def dig (c:UInt8):Bool:=cA c.toNat
def gt (a:Int):List UInt8->Int
 | []=>a
 | c::l=>gt (10*a+c.toNat-48) l
def cD (c:UInt8) (r:List UInt8):Option (Int×Int×Nat):=
 if bJ c.toNat then some (119,0,(r.takeWhile aY).length)
 else if cA c.toNat then
  if 10<(r.takeWhile dig).length+1 then none
  else if ((r.drop (r.takeWhile dig).length).head?.map λ d=>bJ d.toNat)=some true then none
  else some (105,gt 0 (c::r.takeWhile dig),(r.takeWhile dig).length)
 else if c=45/\(r.head?.map dig)=some true then
  if 10<(r.takeWhile dig).length then none
  else if ((r.drop (r.takeWhile dig).length).head?.map λ d=>bJ d.toNat)=some true then none
  else some (105,- gt 0 (r.takeWhile dig),(r.takeWhile dig).length)
 else if c=44\/c=40\/c=41\/c=58\/c=46 then some (c.toNat,0,0)
 else none
def j5:Nat->List UInt8->Bool->Option (List aI)
 | 0,_,_=>some []
 | n+1,l,b=>match l with
  | []=>some []
  | c::r=>
   if c=35 then some []
   else if c=32\/c=9 then j5 n r true
   else match cD c r with
    | none=>none
    | some (k,v,m)=>(j5 n (r.drop m) false).map (⟨k,c::r.take m,v,b⟩::·)
def aW (l:List UInt8) (b:Bool):Option (List aI):=j5 (l.length+1) l b
def xM:∀(n m:Nat) (l:List UInt8) (b:Bool),l.length<n->l.length<m->j5 n l b=j5 m l b
 | 0,_,_,_,h,_=>by omega
 | _+1,0,_,_,_,h=>by omega
 | n+1,m+1,[],b,_,_=>rfl
 | n+1,m+1,c::r,b,h,h2=>by
  have q:r.length<n:=by simpa using h
  have j:r.length<m:=by simpa using h2
  simp only[j5];rw[xM n m r true q j]
  split
  .rfl
  split
  .rfl
  split
  .rfl
  rw[xM n m _ false (by simp;omega) (by simp;omega)]
def QQ (n:Nat) (c:UInt8) (r:List UInt8) (b:Bool):j5 (n+1) (c::r) b =
    if c=35 then some []
    else if c=32\/c=9 then j5 n r true
    else match cD c r with
     | none=>none
     | some (k,v,m)=>(j5 n (r.drop m) false).map (⟨k,c::r.take m,v,b⟩::·):=rfl
def sP (c:UInt8) (r:List UInt8) (b:Bool):aW (c::r) b =
    if c=35 then some []
    else if c=32\/c=9 then aW r true
    else match cD c r with
     | none=>none
     | some (k,v,m)=>(aW (r.drop m) false).map (⟨k,c::r.take m,v,b⟩::·):=by
 unfold aW;rw[QQ]
 split
 .rfl
 split
 .rfl
 split
 .rfl
 rw[xM (c::r).length _ _ false (by simp;omega) (Nat.lt_succ_self _)]
def B (s:ByteArray) (q:Nat):UInt8:=s.data.toList.getD q 0
def iF (s) (q) (h:q<s.size):s[q]=B s q:=by
 unfold B;rw[List.getD_eq_getElem?_getD,List.getElem?_eq_getElem (by simpa using h)]
 rfl
def iY (s) (j) (h:j<s.size):s.data.toList.drop j=B s j::s.data.toList.drop (j+1):=by
 rw[<-iF s j h,List.drop_eq_getElem_cons (by simpa using h)]
 rfl
def ol (b):aW [] b=some []:=by unfold aW;rfl
def sq (c) (r) (b) (h:c=35):aW (c::r) b=some []:=by rw[sP];simp[h]
def mH (c) (r) (b) (h:c=32\/c=9):aW (c::r) b=aW r true:=by
 rw[sP];have:c≠35:=by rcases h with h|h<;>(rw[h];decide)
 simp[h,this]
def jO (c) (r) (b) (h:c≠35) (j:¬(c=32\/c=9)) (k v) (n) (q:cD c r=some (k,v,n)):
    aW (c::r) b=(aW (r.drop n) false).map (⟨k,c::r.take n,v,b⟩::·):=by
 rw[sP];rw[if_neg h,if_neg j,q]
def iO (c) (r) (b) (h:c≠35) (j:¬(c=32\/c=9)) (q:cD c r=none):aW (c::r) b=none:=by
 rw[sP];rw[if_neg h,if_neg j,q]
def iM (h:(c.toNat:Int)=(n:Int)):c=UInt8.ofNat n:=by
 have:c.toNat=n:=by omega
 rw[<-this];simp
def vY (j:n<256) (h:((c.toNat:Int)==(n:Int))=false):c≠UInt8.ofNat n:=by
 rintro rfl;simp[Nat.mod_eq_of_lt j]at h
def Tj (p:UInt8->Bool) (l:List UInt8) (m:Nat) (u:m<=l.length) (h:∀q,q<m->p (l.getD q 0)=true) (j:m=l.length\/p (l.getD m 0)=false):(l.takeWhile p).length=m:=by
 induction l generalizing m with
 | nil=>simp at u;simp[u]
 | cons c l ih=>
  cases m with
  | zero=>
   rcases j with j|j
   .simp at j
   simp at j;simp[j]
  | succ m=>
   (have v:=h 0 (by omega));simp at v;rw[List.takeWhile_cons,if_pos v,List.length_cons,ih m (by simpa using u) (λ q w=>by have:=h (q+1) (by omega);simpa using this) (by rcases j with j|j;(left;simpa using j);(right;simpa using j))]
def qx (p:UInt8->Bool) (s) (i n) (v:1<=n) (hi:i+n<=s.size) (h:∀q,1<=q->q<n->p (B s (i+q))=true) (j:i+n=s.size\/p (B s (i+n))=false):
    ((s.data.toList.drop (i+1)).takeWhile p).length=n-1:=by
 have u:s.data.toList.length=s.size:=by simp
 apply Tj
 .rw[List.length_drop,u];omega
 .intro q w
  have:=h (q+1) (by omega) (by omega)
  unfold B at this;rw[List.getD_eq_getElem?_getD,List.getElem?_drop];rw[List.getD_eq_getElem?_getD]at this;have e:i+1+q=i+(q+1):=by omega
  rw[e];exact this
 rcases j with j|j
 .left;rw[List.length_drop,u];omega
 right
 unfold B at j;rw[List.getD_eq_getElem?_getD,List.getElem?_drop];rw[List.getD_eq_getElem?_getD]at j;have e:i+1+(n-1)=i+n:=by omega
 rw[e];exact j
def JZ (s) (i n) (j:1<=n) (h:i+n<=s.size):(s.extract i (i+n)).data.toList=B s i::(s.data.toList.drop (i+1)).take (n-1):=by
 have e:(s.extract i (i+n)).data.toList=(s.data.toList.drop i).take n:=by
  simp[ByteArray.data_extract,Array.toList_extract,List.extract_eq_take_drop]
 rw[e,iY s i (by omega)]
 obtain ⟨m,rfl⟩:∃m,n=m+1:=⟨n-1,by omega⟩
 simp
open RowKit
def qe (c) (r) (h:c=44\/c=40\/c=41\/c=58\/c=46):cD c r=some ((c.toNat:Int),0,0):=by
 rcases h with rfl|rfl|rfl|rfl|rfl<;>simp[cD,bJ,cA]
def sy (c) (r) (h:bJ c.toNat=true) (n) (j:(r.takeWhile aY).length=n):cD c r=some (119,0,n):=by
 unfold cD;rw[if_pos h,j]
def sF (c) (r) (h:bJ c.toNat=false) (j:cA c.toNat=false) (q:¬(c=45/\(r.head?.map dig)=some true)) (u:¬(c=44\/c=40\/c=41\/c=58\/c=46)):cD c r=none:=by
 unfold cD;simp only[h,j,q,u,if_false,Bool.false_eq_true]
def xq (c) (r) (j:bJ c.toNat=false) (q:cA c.toNat=true) (n) (u:(r.takeWhile dig).length=n) (h:10<n+1):cD c r=none:=by
 unfold cD;simp only[j,q,u,if_false,if_true,Bool.false_eq_true];rw[if_pos h]
def Bw (c) (r) (j:bJ c.toNat=false) (q:cA c.toNat=true) (n) (u:(r.takeWhile dig).length=n) (h:((r.drop n).head?.map λ d=>bJ d.toNat)=some true):cD c r=none:=by
 unfold cD;simp only[j,q,u,if_false,if_true,Bool.false_eq_true];rw[if_pos h];split<;>rfl
def yr (c) (r) (u:bJ c.toNat=false) (v:cA c.toNat=true) (n) (q:(r.takeWhile dig).length=n) (j:¬10<n+1) (h:((r.drop n).head?.map λ d=>bJ d.toNat)≠some true):cD c r=some (105,gt 0 (c::r.take n),n):=by
 unfold cD;simp only[u,v,q,if_false,if_true,Bool.false_eq_true];rw[if_neg j,if_neg h];have e:r.takeWhile dig=r.take n:=by rw[<-q];exact (List.prefix_iff_eq_take.1 (List.takeWhile_prefix _))
 rw[e]
def xp (r) (j:(r.head?.map dig)=some true) (n) (q:(r.takeWhile dig).length=n) (h:10<n):cD 45 r=none:=by
 have a:bJ ((45:UInt8).toNat:Int)=false:=rfl;have b:cA ((45:UInt8).toNat:Int)=false:=rfl;unfold cD;simp only[a,b,q,j,if_false,if_true,Bool.false_eq_true,and_self];rw[if_pos h]
def Bu (r) (j:(r.head?.map dig)=some true) (n) (q:(r.takeWhile dig).length=n) (h:((r.drop n).head?.map λ d=>bJ d.toNat)=some true):cD 45 r=none:=by
 have a:bJ ((45:UInt8).toNat:Int)=false:=rfl;have b:cA ((45:UInt8).toNat:Int)=false:=rfl;unfold cD;simp only[a,b,q,j,if_false,if_true,Bool.false_eq_true,and_self];rw[if_pos h];split<;>rfl
def zH (r) (u:(r.head?.map dig)=some true) (n) (q:(r.takeWhile dig).length=n) (j:¬10<n) (h:((r.drop n).head?.map λ d=>bJ d.toNat)≠some true):cD 45 r=some (105,- gt 0 (r.take n),n):=by
 have a:bJ ((45:UInt8).toNat:Int)=false:=rfl;have b:cA ((45:UInt8).toNat:Int)=false:=rfl;unfold cD;simp only[a,b,q,u,if_false,if_true,Bool.false_eq_true,and_self];rw[if_neg j,if_neg h];have e:r.takeWhile dig=r.take n:=by rw[<-q];exact (List.prefix_iff_eq_take.1 (List.takeWhile_prefix _))
 rw[e]
def vA (s) (q) (h:q<s.size):(s.data.toList.drop q).head?=some (B s q):=by rw[iY s q h];rfl
def Ev (s:ByteArray) (q:Nat) (h:s.size<=q):(s.data.toList.drop q).head?=none:=by
 have:s.data.toList.drop q=[]:=by apply List.drop_eq_nil_of_le;simpa using h
 rw[this];rfl
def dX (s:ByteArray) (f k:Nat):Int:=gt 0 ((s.data.toList.drop f).take (k-f))
def KQ (a) (l) (c):gt a (l++[c])=10*gt a l+c.toNat-48:=by
 induction l generalizing a with
 | nil=>rfl
 | cons d l ih=>simp only[List.cons_append,gt,ih]
def po (s) (f):dX s f f=0:=by simp[dX,gt]
def qw (s) (f k) (q:f<=k) (h:k<s.size):dX s f (k+1)=10*dX s f k+(B s k).toNat-48:=by
 unfold dX;have j:k-f<(s.data.toList.drop f).length:=by simp;omega
 have e:k+1-f=(k-f)+1:=by omega
 rw[e,List.take_succ_eq_append_getElem j,KQ]
 have:(s.data.toList.drop f)[k-f]=B s k:=by
  rw[List.getElem_drop,<-iF s k h];have:f+(k-f)=k:=by omega
  simp only[this];rfl
 rw[this]
def uY {c:Int} (h:cA c=true):48<=c/\c<=57:=by simpa[cA] using h
def Fa (s) (f k) (w:f<=k) (y:k<=s.size) (h:∀q,f<=q->q<k->cA (B s q).toNat=true):0<=dX s f k/\dX s f k<10^(k-f):=by
 induction k with
 | zero=>have:f=0:=by omega
         subst this;rw[po];simp
 | succ k ih=>
  by_cases e:f=k+1
  .subst e;rw[po];simp
  have u:=ih (by omega) (by omega) (λ q a b=>h q a (by omega))
  have v:=uY (h k (by omega) (by omega))
  rw[qw s f k (by omega) (by omega)]
  have j:k+1-f=(k-f)+1:=by omega
  rw[j,Int.pow_succ];omega
def rY (s) (f k) (v:f<=k) (w:k<=s.size) (j:k-f<=10) (u:∀q,f<=q->q<k->cA (B s q).toNat=true):0<=dX s f k/\dX s f k<=10000000000:=by
 have h:=Fa s f k v w u
 have y:(10:Int)^(k-f)<=10^10:=by
  have:=Nat.pow_le_pow_right (n:=10) (by omega) j
  exact_mod_cast this
 have e:(10:Int)^10=10000000000:=by decide
 omega
def BZ (s) (f n) (h:f<s.size) (j:1<=n):dX s f (f+n)=gt 0 (B s f::(s.data.toList.drop (f+1)).take (n-1)):=by
 unfold dX;obtain ⟨m,rfl⟩:∃m,n=m+1:=⟨n-1,by omega⟩
 rw[iY s f h];have e:f+(m+1)-f=m+1:=by omega
 rw[e];simp
def Wm (c:UInt8):c=35\/c=32\/c=9\/c=44\/c=40\/c=41\/c=58\/c=46\/c=45\/
    (((c.toNat:Int) != 35)=true/\((c.toNat:Int)==32)=false/\((c.toNat:Int)==9)=false/\((c.toNat:Int)==44)=false/\((c.toNat:Int)==40)=false/\((c.toNat:Int)==41)=false/\
      ((c.toNat:Int)==58)=false/\((c.toNat:Int)==46)=false/\((c.toNat:Int)==45)=false/\Hid (c≠35)/\Hid (¬(c=32\/c=9))/\Hid (¬(c=44\/c=40\/c=41\/c=58\/c=46))/\Hid (c≠45)):=by
 have j:∀n:Nat,n<256->c≠UInt8.ofNat n->(c.toNat:Int)≠(n:Int):=λ n F h E=>h (iM E)
 by_cases q:c=35;· exact .inl q
 by_cases u:c=32;· exact .inr (.inl u)
 by_cases v:c=9;· exact .inr (.inr (.inl v))
 by_cases w:c=44;· exact .inr (.inr (.inr (.inl w)))
 by_cases y:c=40;· exact .inr (.inr (.inr (.inr (.inl y))))
 by_cases A:c=41;· exact .inr (.inr (.inr (.inr (.inr (.inl A)))))
 by_cases C:c=58;· exact .inr (.inr (.inr (.inr (.inr (.inr (.inl C))))))
 by_cases h8:c=46;· exact .inr (.inr (.inr (.inr (.inr (.inr (.inr (.inl h8)))))))
 by_cases D:c=45;· exact .inr (.inr (.inr (.inr (.inr (.inr (.inr (.inr (.inl D))))))))
 refine .inr (.inr (.inr (.inr (.inr (.inr (.inr (.inr (.inr ?_))))))))
 refine ⟨bne_iff_ne.2 (j 35 (by omega) q),beq_eq_false_iff_ne.2 (j 32 (by omega) u),beq_eq_false_iff_ne.2 (j 9 (by omega) v),beq_eq_false_iff_ne.2 (j 44 (by omega) w),beq_eq_false_iff_ne.2 (j 40 (by omega) y),
  beq_eq_false_iff_ne.2 (j 41 (by omega) A),beq_eq_false_iff_ne.2 (j 58 (by omega) C),beq_eq_false_iff_ne.2 (j 46 (by omega) h8),beq_eq_false_iff_ne.2 (j 45 (by omega) D),q,?_,?_,D⟩
 .rintro (h|h);exact u h;exact v h
 rintro (h|h|h|h|h);exact w h;exact y h;exact A h;exact C h;exact h8 h
def uW {p:UInt8->Bool} (h:∀q,1<=q->q<m->p (B s (i+q))=true) (u:p (B s (i+m))=true):∀q,1<=q->q<m+1->p (B s (i+q))=true:=λ q j v=>by
 by_cases e:q=m
 .rw[e];exact u
 exact h q j (by omega)
def GJ (s) (j m) (u:1<=m) (h:j+m<s.size) (q:bJ (B s (j+m)).toNat=true):
    ((((s.data.toList.drop (j+1)).drop (m-1)).head?.map λ d=>bJ d.toNat)=some true):=by
 have e:j+1+(m-1)=j+m:=by omega
 rw[List.drop_drop,e,vA s (j+m) h];simp[q]
def FZ (s) (j m) (u:1<=m) (h:j+m<s.size) (q:bJ (B s (j+m)).toNat=false):
    ((((s.data.toList.drop (j+1)).drop (m-1)).head?.map λ d=>bJ d.toNat)≠some true):=by
 have e:j+1+(m-1)=j+m:=by omega
 rw[List.drop_drop,e,vA s (j+m) h];simp[q]
def G9 (s:ByteArray) (j m:Nat) (q:1<=m) (h:s.size<=j+m):
    ((((s.data.toList.drop (j+1)).drop (m-1)).head?.map λ d=>bJ d.toNat)≠some true):=by
 have e:j+1+(m-1)=j+m:=by omega
 rw[List.drop_drop,e,Ev s (j+m) h];simp
def Ph (s) (j) (h:j+1<s.size) (q:cA (B s (j+1)).toNat=true):((s.data.toList.drop (j+1)).head?.map dig)=some true:=by
 rw[vA s (j+1) h];simp[dig,q]
def zM (h:∀q,1<=q->q<m->dig (B s (j+q))=true):∀q,j+1<=q->q<j+m->cA (B s q).toNat=true:=λ q u v=>by
 have:=h (q-j) (by omega) (by omega)
 have e:j+(q-j)=q:=by omega
 rw[e]at this;exact this
def Ec (u:cA (B s j).toNat=true) (h:∀q,1<=q->q<m->dig (B s (j+q))=true):∀q,j<=q->q<j+m->cA (B s q).toNat=true:=λ q w v=>by
 by_cases e:q=j
 .rw[e];exact u
 exact zM h q (by omega) v
def Da (s) (j m) (h:1<=m):dX s (j+1) (j+m)=gt 0 ((s.data.toList.drop (j+1)).take (m-1)):=by
 unfold dX;have e:j+m-(j+1)=m-1:=by omega
 rw[e]
def lA (S:ByteArray) (k:Nat):Bool:=decide (∀q,q<k->1<=q->cA (B S q).toNat=true)
def gE (kd:Int) (S:ByteArray):Int:=
 if kd=119/\2<=S.size/\S.size<=3/\(B S 0).toNat=120/\lA S S.size=true/\dX S 1 S.size<=31/\¬(S.size=3/\(B S 1).toNat=48) then dX S 1 S.size else -1
def nH {kd:Int} {S:ByteArray} (h:¬(kd=119/\2<=S.size/\S.size<=3/\(B S 0).toNat=120/\lA S S.size=true/\dX S 1 S.size<=31/\¬(S.size=3/\(B S 1).toNat=48))):gE kd S=-1:=by
 unfold gE;rw[if_neg h]
def MT (S):lA S 1=true:=by
 unfold lA;rw[decide_eq_true_eq];intro q h j;omega
def Lf {S:ByteArray} (h:lA S k=true) (u:cA (B S k).toNat=true):lA S (k+1)=true:=by
 unfold lA at *;simp only[decide_eq_true_eq]at *;intro q v j;by_cases e:q=k
 .rw[e];exact u
 exact h q (by omega) j
def QJ {S:ByteArray} (q:1<=k) (u:k<n) (j:cA (B S k).toNat=false):lA S n≠true:=by
 unfold lA;rw[ne_eq,decide_eq_true_eq];intro h;have:=h k u q;rw[j]at this;cases this
def so {S:ByteArray} (h:lA S k=true):∀q,1<=q->q<k->cA (B S q).toNat=true:=by
 unfold lA at h;simp only[decide_eq_true_eq]at h;exact λ q a b=>h q b a
def Gs (kd) (S):-1<=gE kd S/\gE kd S<=31:=by
 unfold gE
 split
 .rename_i h
  have:=Fa S 1 S.size (by omega) (by omega) (so h.2.2.2.2.1)
  omega
 omega
def aI.S (t:aI):ByteArray:=⟨t.text.toArray⟩
def aL:List aI->List UInt8->List Int->Int->ByteArray->Option (List Int×Int×ByteArray)
 | [],[],rs,n,nm=>some (rs,n,nm)
 | t::l,f::F,rs,n,nm=>
  if f=114 then (if gE t.kind t.S<0 then none else aL l F (rs++[gE t.kind t.S]) n nm)
  else if (f=105\/f=116)/\t.kind=105 then aL l F rs t.num nm
  else if f=116/\t.kind=119/\t.S.size<=8 then aL l F rs n t.S
  else if (f.toNat:Int)=t.kind/\f≠105 then aL l F rs n nm
  else none
 | _,_,_,_,_=>none
def Bt:∀(l:List aI) (F:List UInt8) (rs:List Int) (n:Int) (nm:ByteArray),l.length≠F.length->aL l F rs n nm=none
 | [],[],_,_,_,h=>by simp at h
 | [],f::F,_,_,_,_=>by simp[aL]
 | t::l,[],_,_,_,_=>by simp[aL]
 | t::l,f::F,rs,n,nm,h=>by
  have j:l.length≠F.length:=by simpa using h
  simp only[aL]
  repeat' split
  all_goals first|rfl|exact Bt l F _ _ _ j
def wP (h:((f.toNat:Int)==(n:Int))=true):f=UInt8.ofNat n:=iM (by simpa using h)
def tN (rs) (n) (nm):aL [] [] rs n nm=some (rs,n,nm):=by simp[aL]
def Ao (j:f=114) (t:aI) (l:List aI) (F) (rs) (n) (nm) (h:¬gE t.kind t.S<0):aL (t::l) (f::F) rs n nm=aL l F (rs++[gE t.kind t.S]) n nm:=by
 subst j;simp only[aL,if_true];rw[if_neg h]
def CV (j:f=114) (t:aI) (l:List aI) (F) (rs) (n) (nm) (h:gE t.kind t.S<0):aL (t::l) (f::F) rs n nm=none:=by
 subst j;simp only[aL,if_true];rw[if_pos h]
def qY (q:f≠114) (j:f=105\/f=116) (t:aI) (l:List aI) (F) (rs) (n) (nm) (h:t.kind=105):aL (t::l) (f::F) rs n nm=aL l F rs t.num nm:=by
 simp only[aL];rw[if_neg q,if_pos ⟨j,h⟩]
def Al (j:f=116) (t:aI) (l:List aI) (F) (rs) (n) (nm) (h:t.kind=119) (h8:t.S.size<=8):aL (t::l) (f::F) rs n nm=aL l F rs n t.S:=by
 subst j;simp only[aL];rw[if_neg (by decide),if_neg (by rw[h];omega),if_pos ⟨trivial,h,h8⟩]
def ti (v:f≠114) (t:aI) (l:List aI) (F) (rs) (n) (nm) (h:¬((f=105\/f=116)/\t.kind=105)) (j:¬(f=116/\t.kind=119/\t.S.size<=8)) (q:(f.toNat:Int)=t.kind) (u:f≠105):aL (t::l) (f::F) rs n nm=aL l F rs n nm:=by
 simp only[aL];rw[if_neg v,if_neg h,if_neg j,if_pos ⟨q,u⟩]
def pJ (u:f≠114) (t:aI) (l:List aI) (F) (rs) (n) (nm) (h:¬((f=105\/f=116)/\t.kind=105)) (j:¬(f=116/\t.kind=119/\t.S.size<=8)) (q:¬((f.toNat:Int)=t.kind/\f≠105)):aL (t::l) (f::F) rs n nm=none:=by
 simp only[aL];rw[if_neg u,if_neg h,if_neg j,if_neg q]
def fP (kd:Nat):List UInt8:=
 if kd=82 then [114,44,114,44,114] else if kd=73\/kd=72\/kd=87 then [114,44,114,44,105] else if kd=76\/kd=83 then [114,44,105,40,114,41]
 else if kd=66 then [114,44,114,44,116] else if kd=85 then [114,44,105] else if kd=74 then [114,44,116] else []
def fR (k:Nat) (rs:List Int) (n:Int):aE:=
 if (row k).kind=82 then ⟨k+1,rs.getD 0 0,rs.getD 1 0,rs.getD 2 0,n⟩
 else if (row k).kind=73\/(row k).kind=72\/(row k).kind=87\/(row k).kind=76 then ⟨k+1,rs.getD 0 0,rs.getD 1 0,0,n⟩
 else if (row k).kind=83 then ⟨k+1,0,rs.getD 1 0,rs.getD 0 0,n⟩
 else if (row k).kind=66 then ⟨k+1,0,rs.getD 0 0,rs.getD 1 0,n⟩
 else if (row k).kind=85\/(row k).kind=74 then ⟨k+1,rs.getD 0 0,0,0,n⟩
 else ⟨k+1,0,0,0,n⟩
def named (t:aI) (k:Nat):Bool:=(t.kind==119)&&(t.text==(row k).name)
def plain (t:aI) (l:List aI) (targets:Bool):aE×ByteArray×Int:=
 match (List.range 64).find? (named t) with
 | none=>(⟨0,0,0,0,0⟩,⟨#[]⟩,4)
 | some k=>
  match aL l (fP (row k).kind) [] 0 ⟨#[]⟩ with
  | none=>(⟨0,0,0,0,0⟩,⟨#[]⟩,4)
  | some (rs,n,nm)=>
   if nm.data.toList≠[]/\targets=false then (⟨0,0,0,0,0⟩,⟨#[]⟩,4)
   else if right (fR k rs n) then (fR k rs n,nm,0) else (fR k rs n,nm,5)
def oa:∀(l:List aI) (F:List UInt8) (rs:List Int) (n:Int) (nm:ByteArray) (rs':List Int) (q:Int) (j:ByteArray),aL l F rs n nm=some (rs',q,j)->rs'.length=rs.length+F.count 114
 | [],[],rs,n,nm,rs',q,j,h=>by simp[aL]at h;simp[h.1]
 | [],f::F,_,_,_,_,_,_,h=>by simp[aL]at h
 | t::l,[],_,_,_,_,_,_,h=>by simp[aL]at h
 | t::l,f::F,rs,n,nm,rs',q,j,h=>by
  simp only[aL]at h
  split at h
  .rename_i hf
   split at h
   .cases h
   have:=oa l F _ _ _ _ _ _ h;simp[hf]at this ⊢;omega
  rename_i hf;have u:(f::F).count 114=F.count 114:=by rw[List.count_cons];simp[hf]
  rw[u]
  repeat' split at h
  all_goals first|exact oa l F _ _ _ _ _ _ h|cases h
def M1 {t:aI} (h:(t.kind != 119)=true):named t k=false:=by
 have:(t.kind==119)=false:=by simpa using h
 simp[named,this]
def Cu (t:aI):t.S.toList=t.text:=by simp[aI.S]
def MR {t:aI} (h:(t.S.toList==(row k).name)=false):named t k=false:=by
 rw[Cu]at h;simp[named,h]
def Ms {t:aI} (h:(t.kind != 119)=false) (j:(t.S.toList==(row k).name)=true):named t k=true:=by
 rw[Cu]at j;have:(t.kind==119)=true:=by simpa using h
 simp only[named,this,j,Bool.and_self]
def Gm {p:Nat->Bool} (h:∀j,j<k->p j=false) (q:p k=false):∀j,j<k+1->p j=false:=λ j u=>by
 by_cases e:j=k
 .rw[e];exact q
 exact h j (by omega)
def qo {t:aI} {l:List aI} (h:(List.range 64).find? (named t)=some k) (j:aL l (fP (row k).kind) [] 0 ⟨#[]⟩=none) (tg):plain t l tg=(⟨0,0,0,0,0⟩,⟨#[]⟩,4):=by
 simp only[plain,h,j]
def nz {t:aI} (h:(List.range 64).find? (named t)=none) (l:List aI) (tg):plain t l tg=(⟨0,0,0,0,0⟩,⟨#[]⟩,4):=by
 simp only[plain,h]
def BJ {t:aI} {l:List aI} {n:Int} {nm:ByteArray} (h:(List.range 64).find? (named t)=some k) (q:aL l (fP (row k).kind) [] 0 ⟨#[]⟩=some (rs,n,nm)) (j:nm.toList.isEmpty=false):plain t l false=(⟨0,0,0,0,0⟩,⟨#[]⟩,4):=by
 rw[ByteArray.toList_eq]at j;have:nm.data.toList≠[]:=by intro e;rw[e]at j;cases j
 simp only[plain,h,q];rw[if_pos ⟨this,trivial⟩]
def xB {t:aI} {l:List aI} {n:Int} {nm:ByteArray} {tg:Bool} (h:(List.range 64).find? (named t)=some k) (q:aL l (fP (row k).kind) [] 0 ⟨#[]⟩=some (rs,n,nm)) (j:nm.toList.isEmpty=true\/tg=true):
    plain t l tg=(fR k rs n,nm,if right (fR k rs n) then 0 else 5):=by
 rw[ByteArray.toList_eq]at j
 have:¬(nm.data.toList≠[]/\tg=false):=by
  rintro ⟨a,b⟩;rcases j with j|j
  .exact a (by simpa using j)
  rw[j]at b;cases b
 simp only[plain,h,q];rw[if_neg this];split<;>rfl
def G4 (k) (rs) (n) (h:(row k).kind=82):fR k rs n=⟨k+1,rs.getD 0 0,rs.getD 1 0,rs.getD 2 0,n⟩:=by
 unfold fR;rw[if_pos (by omega)]
def xP (k) (rs) (n) (h:(row k).kind=73\/(row k).kind=72\/(row k).kind=87\/(row k).kind=76):fR k rs n=⟨k+1,rs.getD 0 0,rs.getD 1 0,0,n⟩:=by
 unfold fR;rw[if_neg (by omega),if_pos (by omega)]
def Gc (k) (rs) (n) (h:(row k).kind=83):fR k rs n=⟨k+1,0,rs.getD 1 0,rs.getD 0 0,n⟩:=by
 unfold fR;rw[if_neg (by omega),if_neg (by omega),if_pos (by omega)]
def vw (k) (rs) (n) (h:(row k).kind=66):fR k rs n=⟨k+1,0,rs.getD 0 0,rs.getD 1 0,n⟩:=by
 unfold fR;rw[if_neg (by omega),if_neg (by omega),if_neg (by omega),if_pos (by omega)]
def sU (k) (rs) (n) (h:(row k).kind=85\/(row k).kind=74):fR k rs n=⟨k+1,rs.getD 0 0,0,0,n⟩:=by
 unfold fR;rw[if_neg (by omega),if_neg (by omega),if_neg (by omega),if_neg (by omega),if_pos (by omega)]
def G0 (k) (rs) (n) (h:(row k).kind=78):fR k rs n=⟨k+1,0,0,0,n⟩:=by
 unfold fR;rw[if_neg (by omega),if_neg (by omega),if_neg (by omega),if_neg (by omega),if_neg (by omega)]
def aR (s:ByteArray) (c:Int):Nat->Int
 | 0=>0
 | k+1=>aR s c k+if ((B s k).toNat:Int)=c then 1 else 0
def mh (s:ByteArray) (c:Int):∀k,0<=aR s c k/\aR s c k<=k
 | 0=>by simp[aR]
 | k+1=>by have:=mh s c k;simp only[aR];split<;>omega
def Rm {c:Int} (h:(((B s k).toNat:Int)==c)=true):aR s c (k+1)=aR s c k+1:=by
 simp only[aR];rw[if_pos (by simpa using h)]
def UN {c:Int} (h:(((B s k).toNat:Int)==c)=false):aR s c (k+1)=aR s c k:=by
 simp only[aR];rw[if_neg (by simpa using h)];omega
def zh:∀(n:Nat) (l:List UInt8) (b:Bool) (A:List aI),l.length<=n->aW l b=some A->A.length<=l.length
 | n,[],b,A,_,h=>by rw[ol]at h;cases h;simp
 | 0,c::r,b,A,hn,_=>by simp at hn
 | n+1,c::r,b,A,hn,h=>by
  have j:r.length<=n:=by simpa using hn
  rw[sP]at h
  split at h
  .cases h;simp
  split at h
  .have:=zh n r true A j h
   simp;omega
  split at h
  .cases h
  rename_i k v m _
  cases ht:aW (r.drop m) false with
  | none=>rw[ht]at h;cases h
  | some A'=>
   rw[ht]at h;(have:=zh n (r.drop m) false A' (by simp;omega) ht);simp only[Option.map_some,Option.some.injEq]at h;rw[<-h];simp at this ⊢;omega
def rd (s:ByteArray):aE×Int:=
 if 2000<s.size then (⟨0,0,0,0,0⟩,4)
 else match aW s.data.toList false with
  | none=>(⟨0,0,0,0,0⟩,4)
  | some []=>(⟨0,0,0,0,0⟩,4)
  | some (t::l)=>
   if 0<aR s 10 s.size then (⟨0,0,0,0,0⟩,4)
   else if (plain t l false).2.2=0 then ((plain t l false).1,0) else (⟨0,0,0,0,0⟩,(plain t l false).2.2)
def FJ (h:2000<s.size):rd s=(⟨0,0,0,0,0⟩,4):=by unfold rd;rw[if_pos h]
def vH (h:¬2000<s.size) (j:aW s.data.toList false=none):rd s=(⟨0,0,0,0,0⟩,4):=by unfold rd;rw[if_neg h,j]
def wz (h:¬2000<s.size) (j:aW s.data.toList false=some []):rd s=(⟨0,0,0,0,0⟩,4):=by unfold rd;rw[if_neg h,j]
def Ip {t:aI} {l:List aI} (h:¬2000<s.size) (q:aW s.data.toList false=some (t::l)) (j:0<aR s 10 s.size):rd s=(⟨0,0,0,0,0⟩,4):=by
 unfold rd;rw[if_neg h,q];simp only;rw[if_pos j]
def IC {t:aI} {l:List aI} (h:¬2000<s.size) (u:aW s.data.toList false=some (t::l)) (j:¬0<aR s 10 s.size) (q:(plain t l false).2.2=0):rd s=((plain t l false).1,0):=by
 unfold rd;rw[if_neg h,u];simp only;rw[if_neg j,if_pos q]
def Aw {t:aI} {l:List aI} (h:¬2000<s.size) (u:aW s.data.toList false=some (t::l)) (j:¬0<aR s 10 s.size) (q:(plain t l false).2.2≠0):rd s=(⟨0,0,0,0,0⟩,(plain t l false).2.2):=by
 unfold rd;rw[if_neg h,u];simp only;rw[if_neg j,if_neg q]
structure Bm where
 half:List UInt8
 op:Int
 rd:List UInt8
 rs1:List UInt8
 rs2:List UInt8
 sgn:Bool
 cond:List UInt8
def tH:List Bm:=[
 ⟨[48,48,48,70,69,74,73,72,71,67,68,100,100,100,48,48],29,[100],[50],[45],false,[105]⟩,
 ⟨[48,49,48,70,69,68,115,115,115,67,71,100,100,100,48,48],44,[100],[115],[45],false,[]⟩,
 ⟨[48,49,49,70,69,68,115,115,115,72,71,100,100,100,48,48],45,[100],[115],[45],false,[]⟩,
 ⟨[49,49,48,70,69,68,115,115,115,67,71,116,116,116,48,48],52,[45],[115],[116],false,[]⟩,
 ⟨[49,49,49,70,69,68,115,115,115,72,71,116,116,116,48,48],53,[45],[115],[116],false,[]⟩,
 ⟨[48,48,48,70,100,100,100,100,100,69,68,67,66,65,48,49],29,[100],[100],[45],true,[98,111,116,104]⟩,
 ⟨[48,48,49,70,100,100,100,100,100,69,68,67,66,65,48,49],38,[100],[100],[45],true,[100]⟩,
 ⟨[48,49,48,70,100,100,100,100,100,69,68,67,66,65,48,49],29,[100],[48],[45],true,[100]⟩,
 ⟨[48,49,49,74,48,48,48,49,48,69,71,73,72,70,48,49],29,[50],[50],[45],true,[105]⟩,
 ⟨[48,49,49,70,100,100,100,100,100,69,68,67,66,65,48,49],60,[100],[45],[45],true,[100,50,105]⟩,
 ⟨[49,48,48,70,48,48,100,100,100,69,68,67,66,65,48,49],36,[100],[100],[45],false,[105]⟩,
 ⟨[49,48,48,70,48,49,100,100,100,69,68,67,66,65,48,49],37,[100],[100],[45],false,[105]⟩,
 ⟨[49,48,48,70,49,48,100,100,100,69,68,67,66,65,48,49],34,[100],[100],[45],true,[]⟩,
 ⟨[49,48,48,48,49,49,100,100,100,48,48,116,116,116,48,49],2,[100],[100],[116],false,[]⟩,
 ⟨[49,48,48,48,49,49,100,100,100,48,49,116,116,116,48,49],6,[100],[100],[116],false,[]⟩,
 ⟨[49,48,48,48,49,49,100,100,100,49,48,116,116,116,48,49],9,[100],[100],[116],false,[]⟩,
 ⟨[49,48,48,48,49,49,100,100,100,49,49,116,116,116,48,49],10,[100],[100],[116],false,[]⟩,
 ⟨[49,48,48,49,49,49,100,100,100,48,48,116,116,116,48,49],20,[100],[100],[116],false,[]⟩,
 ⟨[49,48,48,49,49,49,100,100,100,48,49,116,116,116,48,49],19,[100],[100],[116],false,[]⟩,
 ⟨[49,48,49,76,69,74,73,75,71,72,68,67,66,70,48,49],62,[48],[45],[45],true,[]⟩,
 ⟨[49,49,48,73,69,68,115,115,115,72,71,67,66,70,48,49],54,[45],[115],[48],true,[]⟩,
 ⟨[49,49,49,73,69,68,115,115,115,72,71,67,66,70,48,49],55,[45],[115],[48],true,[]⟩,
 ⟨[48,48,48,70,100,100,100,100,100,69,68,67,66,65,49,48],35,[100],[100],[45],false,[100,105]⟩,
 ⟨[48,49,48,70,100,100,100,100,100,69,68,67,72,71,49,48],44,[100],[50],[45],false,[100]⟩,
 ⟨[48,49,49,70,100,100,100,100,100,69,68,73,72,71,49,48],45,[100],[50],[45],false,[100]⟩,
 ⟨[49,48,48,48,115,115,115,115,115,48,48,48,48,48,49,48],49,[48],[115],[45],false,[115]⟩,
 ⟨[49,48,48,48,100,100,100,100,100,116,116,116,116,116,49,48],1,[100],[48],[116],false,[100,116]⟩,
 ⟨[49,48,48,49,48,48,48,48,48,48,48,48,48,48,49,48],64,[45],[45],[45],false,[]⟩,
 ⟨[49,48,48,49,115,115,115,115,115,48,48,48,48,48,49,48],49,[49],[115],[45],false,[115]⟩,
 ⟨[49,48,48,49,100,100,100,100,100,116,116,116,116,116,49,48],1,[100],[100],[116],false,[100,116]⟩,
 ⟨[49,49,48,70,69,68,67,72,71,116,116,116,116,116,49,48],52,[45],[50],[116],false,[]⟩,
 ⟨[49,49,49,70,69,68,73,72,71,116,116,116,116,116,49,48],53,[45],[50],[116],false,[]⟩]
def pw (f:Bm):List Value:=[.string ⟨f.half.toArray⟩,.int .i64 f.op,.string ⟨f.rd.toArray⟩,.string ⟨f.rs1.toArray⟩,.string ⟨f.rs2.toArray⟩,.bool f.sgn,.string ⟨f.cond.toArray⟩]
def uo:Array Value:=(tH.flatMap pw).toArray
def Dr:tH.length=32:=rfl
def aQ (k:Nat):Bm:=tH.getD k ⟨[],0,[],[],[],false,[]⟩
def pm (k j) (h:k<32) (q:j<7):uo[7*k+j]?=(pw (aQ k))[j]?:=by
 unfold uo;rw[List.getElem?_toArray,jF pw 7 (λ _=>rfl) tH k j q (by rw[Dr];exact h)]
 have:tH[k]?=some (aQ k):=by
  unfold aQ;rw[List.getD_eq_getElem?_getD,List.getElem?_eq_getElem (by rw[Dr];exact h)];rfl
 rw[this];rfl
def vJ (C:Array Value):Prop:=∀k:Nat,k<32->C[k*7]?=some (.string ⟨(aQ k).half.toArray⟩)/\C[k*7+1]?=some (.int .i64 (aQ k).op)/\
 C[k*7+2]?=some (.string ⟨(aQ k).rd.toArray⟩)/\C[k*7+3]?=some (.string ⟨(aQ k).rs1.toArray⟩)/\C[k*7+4]?=some (.string ⟨(aQ k).rs2.toArray⟩)/\
 C[k*7+5]?=some (.bool (aQ k).sgn)/\C[k*7+6]?=some (.string ⟨(aQ k).cond.toArray⟩)
def Uo:vJ uo:=λ k h=>by
 rw[Nat.mul_comm k 7];exact ⟨pm k 0 h (by omega),pm k 1 h (by omega),pm k 2 h (by omega),pm k 3 h (by omega),pm k 4 h (by omega),pm k 5 h (by omega),pm k 6 h (by omega)⟩
def fI (F H:ByteArray) (c:Int):Nat->Int
 | 0=>0
 | i+1=>if ((B F i).toNat:Int)=c then 2*fI F H c i+(B H i).toNat-48 else fI F H c i
def Gf (F H:ByteArray) (c:Int):∀i:Nat,i<=16->-(256*2^i)+256<=fI F H c i/\fI F H c i<=256*2^i-256
 | 0,_=>by simp[fI]
 | i+1,h=>by
  have ih:=Gf F H c i (by omega)
  have q:=(B H i).toNat_lt;have j:(2:Int)^(i+1)=2*2^i:=by rw[Int.pow_succ];omega
  have u:(0:Int)<2^i:=Int.pow_pos (by omega)
  rw[j];generalize (2:Int)^i=p at *;simp only[fI]
  split<;>omega
def MO (F H) (c) (i) (hi:i<=16):-16777216<=fI F H c i/\fI F H c i<=16777216:=by
 have h:=Gf F H c i hi;have j:(2:Int)^i<=65536:=gU hi;generalize (2:Int)^i=p at *;omega
def O7 {c:Int} (h:(((B F i).toNat:Int)==c)=true):fI F H c (i+1)=2*fI F H c i+(B H i).toNat-48:=by
 have:((B F i).toNat:Int)=c:=by simpa using h
 simp[fI,this]
def T2 {c:Int} (h:(((B F i).toNat:Int)==c)=false):fI F H c (i+1)=fI F H c i:=by
 have:¬((B F i).toNat:Int)=c:=by simpa using h
 simp[fI,this]
def dV (F H:ByteArray) (c:Int):Int:=if aR F c F.size=3 then fI F H c 16+8 else fI F H c 16
def rp (H:ByteArray):Prop:=∀i,i<16->(B H i).toNat=48\/(B H i).toNat=49
def kC (F:ByteArray) (i:Nat):Bool:=decide (65<=((B F i).toNat:Int))&&decide (((B F i).toNat:Int)<=90)
def il (F H:ByteArray):Nat->Int
 | 0=>0
 | i+1=>if kC F i then il F H i+cB ((B F i).toNat-65)*((B H i).toNat-48) else il F H i
def gA (F:ByteArray):Nat->Int
 | 0=>0
 | i+1=>if kC F i then (if ((B F i).toNat:Int)-65+1>gA F i then (B F i).toNat-65+1 else gA F i) else gA F i
def Fi {k:Int} (j:0<=k) (q:k<=25):1<=cB k/\cB k<=33554432:=by
 unfold cB;have h:(2:Int)^k.toNat<=2^25:=gU (by omega)
 have:=pow_pos k.toNat;exact ⟨by omega,by simpa using h⟩
def Gw (F H:ByteArray) (j:rp H):∀i:Nat,i<=16->0<=il F H i/\il F H i<=33554432*i
 | 0,_=>by simp[il]
 | i+1,h=>by
  have ih:=Gw F H j i (by omega)
  simp only[il]
  split
  .rename_i hu
   simp[kC]at hu;(have q:=Fi (k:=((B F i).toNat:Int)-65) (by omega) (by omega));generalize cB (((B F i).toNat:Int)-65)=p at *;rcases j i (by omega) with e|e<;>rw[e]<;>omega
  omega
def Gl (F:ByteArray):∀i:Nat,0<=gA F i/\gA F i<=26
 | 0=>by simp[gA]
 | i+1=>by
  have ih:=Gl F i;simp only[gA]
  split
  .rename_i hu
   simp[kC]at hu
   split<;>omega
  omega
def Ot (h:kC F i=true):il F H (i+1)=il F H i+cB ((B F i).toNat-65)*((B H i).toNat-48):=by simp[il,h]
def Rv (h:kC F i=false):il F H (i+1)=il F H i:=by simp[il,h]
def SU (h:kC F i=false):gA F (i+1)=gA F i:=by simp[gA,h]
def Mj (h:kC F i=true) (j:((B F i).toNat:Int)-65+1>gA F i):gA F (i+1)=(B F i).toNat-65+1:=by simp only[gA,h,if_true];rw[if_pos j]
def MN (h:kC F i=true) (j:¬((B F i).toNat:Int)-65+1>gA F i):gA F (i+1)=gA F i:=by simp only[gA,h,if_true];rw[if_neg j]
def lM (F H:ByteArray) (sg:Bool):Int:=if sg=true/\0<gA F 16 then bG (il F H 16) (gA F 16) else il F H 16
def ii (F H s:ByteArray):Int:=
 if (s.toList==[45])=true then 0 else if (s.toList==[48])=true then 0 else if (s.toList==[49])=true then 1 else if (s.toList==[50])=true then 2 else dV F H (B s 0).toNat
def kj (d s t i:Int) (c:ByteArray):Bool:=
 if (c.toList==[105])=true then i != 0 else if (c.toList==[100])=true then d != 0 else if (c.toList==[98,111,116,104])=true then ((d != 0)==(i != 0))
 else if (c.toList==[100,50,105])=true then (d != 0&&d != 2&&i != 0) else if (c.toList==[100,105])=true then (d != 0&&i != 0)
 else if (c.toList==[115])=true then s != 0 else if (c.toList==[100,116])=true then (d != 0&&t != 0) else true
def Tm (d s t i) (c):kj d s t i c =
 if (c.toList==[105])=true then i != 0 else if (c.toList==[100])=true then d != 0 else if (c.toList==[98,111,116,104])=true then ((d != 0)==(i != 0))
 else if (c.toList==[100,50,105])=true then (d != 0&&d != 2&&i != 0) else if (c.toList==[100,105])=true then (d != 0&&i != 0)
 else if (c.toList==[115])=true then s != 0 else if (c.toList==[100,116])=true then (d != 0&&t != 0) else true:=rfl
def nW (h:Int):Nat->List UInt8
 | 0=>[]
 | j+1=>nW h j++[UInt8.ofNat (48+aD h (15-j) (15-j)).toNat]
def dP (h:Int) (j:Nat):ByteArray:=⟨(nW h j).toArray⟩
def sH (h:Int):∀j,(nW h j).length=j
 | 0=>rfl
 | j+1=>by simp[nW,sH h j]
def DC (h) (j):(dP h j).size=j:=by
 show (nW h j).toArray.size=j;simp[sH]
def Nc (h) (k):dP h (k+1)=dP h k++⟨#[UInt8.ofNat (48+aD h (15-k) (15-k)).toNat]⟩:=by
 apply ByteArray.ext;simp[dP,nW]
def eK (F H:ByteArray) (i:Nat):Bool:=(((B F i).toNat:Int)==48||((B F i).toNat:Int)==49)&&(((B F i).toNat:Int) != ((B H i).toNat:Int))
def kS (F H:ByteArray):Nat->Bool
 | 0=>true
 | i+1=>kS F H i&&!eK F H i
def Fy {F H:ByteArray} {i:Nat} (h:eK F H i=true):∀m,i<m->kS F H m=false
 | 0,hm=>by omega
 | m+1,hm=>by
  by_cases e:i=m
  .subst e;simp[kS,h]
  simp[kS,Fy h m (by omega)]
def sr (F H rd rs1 rs2:ByteArray) (op:Int) (sg:Bool):aE:=⟨op,ii F H rd,ii F H rs1,ii F H rs2,lM F H sg⟩
def pG (F H rd rs1 rs2 c:ByteArray) (op:Int) (sg:Bool):Option aE:=
 if kS F H 16=true then (if kj (dV F H 100) (dV F H 115) (dV F H 116) (lM F H sg) c=true then some (sr F H rd rs1 rs2 op sg) else none) else none
def lq:Option aE->Value
 | none=>.tuple #[aE.val ⟨0,0,0,0,0⟩,.bool false]
 | some i=>.tuple #[i.val,.bool true]
def eQ (kd:Nat):List UInt8:=
 if kd=82 then [100,44,115,44,116] else if kd=73\/kd=72\/kd=87 then [100,44,115,44,105] else if kd=76 then [100,44,105,40,115,41] else if kd=83 then [116,44,105,40,115,41]
 else if kd=66 then [115,44,116,44,112] else if kd=85 then [100,44,105] else if kd=74 then [100,44,112] else []
def pP (i:aE) (r:UInt8):List UInt8:=
 if r=100 then gP i.rd else if r=115 then gP i.rs1 else if r=116 then gP i.rs2 else if r=105\/r=112 then Lib.itoa i.imm else if r=44 then [44,32] else [r]
def gQ (r:UInt8):Prop:=r=100\/r=115\/r=116\/r=105\/r=112\/r=44\/r=40\/r=41
def qC (h:nG kd):∀r∈eQ kd,gQ r:=by
 unfold gQ;rcases h with rfl|rfl|rfl|rfl|rfl|rfl|rfl|rfl|rfl|rfl<;>decide
def vy (kd):(eQ kd).length<=6:=by
 unfold eQ
 repeat' split
 all_goals simp
def xO (h:nG kd) (i):(if eQ kd=[] then [] else 32::(eQ kd).flatMap (pP i))=behind kd (gP i.rd) (gP i.rs1) (gP i.rs2) (Lib.itoa i.imm):=by
 rcases h with rfl|rfl|rfl|rfl|rfl|rfl|rfl|rfl|rfl|rfl<;>simp[eQ,behind,pP]
def aX (k r:Int):Bool:=if k=1 then (bJ r||cA r||(r==46)) else if k=2 then cA r else false
def bT (r:Int):Option Int:=
 if bJ r||(r==46) then some 1 else if cA r||(r==45) then some 2 else if (r==44)||(r==58)||(r==40)||(r==41) then some 3 else if (r==32)||(r==9) then some 0 else none
def lB (t:List UInt8):Bool:=decide (1<=(Lib.trimPrefix t [45]).length)&&decide ((Lib.trimPrefix t [45]).length<=10)
def jT (k:Int) (t:List UInt8):Bool:=(k != 2)||lB t
abbrev Pc:=Int×List UInt8
def jD (p:Pc):List Value:=[.int .i64 p.1,.string ⟨p.2.toArray⟩]
def dO (k:Int) (t:List UInt8):Option (List Pc):=if k=0 then some [] else if jT k t then some [(k,t)] else none
def aZ:List UInt8->Int->List UInt8->Option (List Pc)
 | [],k,t=>dO k t
 | c::l,k,t=>if aX k c.toNat then aZ l k (t++[c]) else (dO k t).bind λ ps=>(bT c.toNat).bind λ k'=>(aZ l k' [c]).map (ps++·)
def su {k:Int} (h:aX k c.toNat=true):aZ (c::l) k t=aZ l k (t++[c]):=by simp[aZ,h]
def v8 {k:Int} (h:aX k c.toNat=false) (j:dO k t=none):aZ (c::l) k t=none:=by simp[aZ,h,j]
def uU {k:Int} (h:aX k c.toNat=false) (j:bT c.toNat=none):aZ (c::l) k t=none:=by
 simp[aZ,h,j]
def uw {k j:Int} {q:List Pc} (h:aX k c.toNat=false) (v:dO k t=some q) (u:bT c.toNat=some j):aZ (c::l) k t=(aZ l j [c]).map (q++·):=by simp[aZ,h,v,u]
def yh {k:Int} (h:128<=r):aX k r=false:=by
 have j:bJ r=false:=by simp[bJ];omega
 have q:cA r=false:=by simp[cA];omega
 have u:(r==46)=false:=by simp;omega
 simp[aX,j,q,u]
def zJ (h:128<=r):bT r=none:=by
 have j:bJ r=false:=by simp[bJ];omega
 have u:cA r=false:=by simp[cA];omega
 have q:∀n:Int,n<128->(r==n)=false:=λ n v=>by simp;omega
 simp only[bT,j,u,q 46 (by decide),q 45 (by decide),q 44 (by decide),q 58 (by decide),q 40 (by decide),q 41 (by decide),q 32 (by decide),q 9 (by decide),Bool.or_self,Bool.false_eq_true,if_false]
def uA (t):dO 0 t=some []:=rfl
def pE {k:Int} (h:(k==0)=false) (j:jT k t=true):dO k t=some [(k,t)]:=by
 have:¬k=0:=by simpa using h
 simp[dO,this,j]
def zV {k:Int} (h:(k==0)=false) (j:jT k t=false):dO k t=none:=by
 have:¬k=0:=by simpa using h
 simp[dO,this,j]
def E9 (L:ByteArray) (f j:Nat) (q:f<=j) (h:j<L.size):(L.extract f (j+1)).data.toList=(L.extract f j).data.toList++[L[j]'h]:=by
 have e:∀m,(L.extract f m).data.toList=(L.data.toList.drop f).take (m-f):=λ m=>by simp[ByteArray.data_extract,Array.toList_extract,List.extract_eq_take_drop]
 rw[e,e,show j+1-f=(j-f)+1 by omega,List.take_add_one,List.getElem?_drop,show f+(j-f)=j by omega,List.getElem?_eq_getElem (by simpa using h)]
 rfl
def Rs (L:ByteArray) (j:Nat) (h:j<L.size):(L.extract j (j+1)).data.toList=[L[j]'h]:=by
 rw[E9 L j j (Nat.le_refl _) h];simp
def eX (k:Int) (t:List UInt8):Bool:=(k==1)&&decide (t.length<=8)&&!decide (0<=Lib.indexByte t 46)
def gO (k:Int) (t:List UInt8):Option Int:=if k=2 then (match Lib.atoiAll t with | .ok v=>some v|_=>none) else none
def dU (t:List UInt8):Option Int:=
 if Lib.hasPrefix t [120] then (match Lib.atoiAll (Lib.trimPrefix t [120]) with | .ok v=>if v<=31/\gP v=t then some v else none|_=>none) else none
def Lg (h:Lib.atoiAll l=.ok v):-9223372036854775808<=v/\v<=9223372036854775807:=by
 unfold Lib.atoiAll at h
 split at h
 .cases h
 dsimp only at h
 split at h
 .cases h
 .cases h
 split at h
 .cases h
 split at h
 .cases h
 injection h with h
 rename_i h1 h2
 split at h<;>omega
def dD (i:aE) (tg:List UInt8):List Value:=[.string ⟨#[]⟩,.int .i64 i.op,.int .i64 i.rd,.int .i64 i.rs1,.int .i64 i.rs2,.int .i64 i.imm,.string ⟨tg.toArray⟩]
def dF (r:UInt8) (k:Int) (t:List UInt8) (i:aE) (tg:List UInt8):Option (aE×List UInt8):=
 if r=100 then (dU t).map λ n=>({ i with rd:=n },tg)
 else if r=115 then (dU t).map λ n=>({ i with rs1:=n },tg)
 else if r=116 then (dU t).map λ n=>({ i with rs2:=n },tg)
 else if r=105 then (gO k t).map λ n=>({ i with imm:=n },tg)
 else if r=112 then (if eX k t then some (i,t) else (gO k t).map λ n=>({ i with imm:=n },tg))
 else if t=[r] then some (i,tg) else none
def bM:List UInt8->List Pc->aE->List UInt8->Option (aE×List UInt8)
 | [],[],i,tg=>some (i,tg)
 | r::F,(k,t)::l,i,tg=>(dF r k t i tg).bind λ s=>bM F l s.1 s.2
 | _,_,_,_=>none
def oZ (k:Nat) (l:List Pc):List Value×Int:=
 match bM (eQ (row k).kind) l ⟨k+1,0,0,0,0⟩ [] with
 | none=>(dD ⟨0,0,0,0,0⟩ [],4)
 | some s=>if right s.1 then (dD s.1 s.2,0) else (dD ⟨0,0,0,0,0⟩ [],5)
def Em {l:List Pc} (h:bM (eQ (row k).kind) l ⟨k+1,0,0,0,0⟩ []=none):oZ k l=(dD ⟨0,0,0,0,0⟩ [],4):=by simp[oZ,h]
def Gj {l:List Pc} {s:aE×List UInt8} (h:bM (eQ (row k).kind) l ⟨k+1,0,0,0,0⟩ []=some s) (j:right s.1=true):oZ k l=(dD s.1 s.2,0):=by simp[oZ,h,j]
def I0 {l:List Pc} {s:aE×List UInt8} (h:bM (eQ (row k).kind) l ⟨k+1,0,0,0,0⟩ []=some s) (j:right s.1=false):oZ k l=(dD ⟨0,0,0,0,0⟩ [],5):=by simp[oZ,h,j]
def eR (nm:ByteArray) (l:List Pc):aE×Int:=
 match (List.range 64).find? (gW nm) with
 | none=>(⟨0,0,0,0,0⟩,4)
 | some k=>match bM (eQ (row k).kind) l ⟨k+1,0,0,0,0⟩ [] with
  | none=>(⟨0,0,0,0,0⟩,4)
  | some s=>if right s.1 then (if s.2=[] then (s.1,0) else (⟨0,0,0,0,0⟩,4)) else (⟨0,0,0,0,0⟩,5)
def iT (s:ByteArray):aE×Int:=
 if 2000<s.size\/0<=Lib.indexByte s.data.toList 10 then (⟨0,0,0,0,0⟩,4)
 else match aZ (Lib.cut s.data.toList [35]).1 0 [] with
  | none=>(⟨0,0,0,0,0⟩,4)
  | some []=>(⟨0,0,0,0,0⟩,4)
  | some (p::l)=>eR ⟨p.2.toArray⟩ l
def En {k:Int} {j:List Pc} (h:dO k t=some j):∀p∈j,p.2.length<=t.length:=by
 unfold dO at h
 split at h
 .cases h;simp
 split at h
 .cases h;simp
 cases h
def vc:∀(l:List UInt8) (k:Int) (t:List UInt8) (A:List Pc),aZ l k t=some A->∀p∈A,p.2.length<=l.length+t.length
 | [],k,t,A,h,p,hp=>by
  simp only[aZ]at h;have:=En h p hp;simpa using this
 | c::l,k,t,A,h,p,hp=>by
  by_cases u:aX k c.toNat=true
  .rw[su u]at h
   have:=vc l k (t++[c]) A h p hp;simp at this ⊢;omega
  have j:aX k c.toNat=false:=by simpa using u
  cases he:dO k t with
  | none=>rw[v8 j he]at h;cases h
  | some ps=>
   cases hb:bT c.toNat with
   | none=>rw[uU j hb]at h;cases h
   | some k'=>
    rw[uw j he hb]at h
    cases hc:aZ l k' [c] with
    | none=>rw[hc]at h;cases h
    | some B=>
     rw[hc]at h;simp only[Option.map_some,Option.some.injEq]at h;subst h;rcases List.mem_append.1 hp with q|q
     .have:=En he p q;simp;omega
     have:=vc l k' [c] B hc p q;simp at this ⊢;omega
