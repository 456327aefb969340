import Derived.WalkKit
import Derived.Laws.BitsLemmas
import Derived.Deep.WholeRow
set_option linter.all false
set_option maxHeartbeats 0
set_option maxRecDepth 100000
namespace Go
variable {a b c d t : Bool} {k kd j : Nat} {rs1 rs2 imm n w W x : Int}
def gU {a b:Nat} (h:a<=b):(2:Int)^a<=2^b:=by
 have:=Nat.pow_le_pow_right (n:=2) (by omega) h
 exact_mod_cast this
def pow_pos (a):(0:Int)<2^a:=Int.pow_pos (by omega)
def pr (a):(2:Int)^(a+1)=2*2^a:=by rw[Int.pow_succ];omega
def uZ {a:Nat} (h:a<=62):(2:Int)^a<=4611686018427387904:=gU h
def fE (n:Int) (hi lo:Nat):Int:=(n/2^lo)%2^(hi-lo+1)
def Su (n) (hi lo):0<=fE n hi lo:=Int.emod_nonneg _ (by have:=pow_pos (hi-lo+1);omega)
def RY (n) (hi lo):fE n hi lo<2^(hi-lo+1):=Int.emod_lt_of_pos _ (pow_pos _)
def BK (n:Int) (k:Nat):n/2^(k+1)=(n/2^k)/2:=by
 rw[Int.pow_succ,Int.ediv_ediv_of_nonneg (by have:=pow_pos k;omega)]
def JP (n) (k) (B) (h:-B<=n) (j:n<=B) (q:0<=B):-B<=n/2^k/\n/2^k<=B:=by
 induction k with
 | zero=>simp;omega
 | succ k ih=>rw[BK];omega
def PN (n:Int) (h:n<0):(n-1).tdiv 2=n/2:=by
 rw[Int.tdiv_eq_ediv];have:Int.sign 2=1:=rfl;rw[this]
 split<;>omega
def Ql (n m:Int) (j:0<m):(if n.tmod m<0 then n.tmod m+m else n.tmod m)=n%m:=by
 rw[Int.tmod_eq_emod];have q:=Int.emod_nonneg n (show m≠0 by omega)
 have u:=Int.emod_lt_of_pos n j;by_cases h:0<=n\/m ∣ n
 .simp[h];omega
 simp[h];rw[Int.natAbs_of_nonneg (by omega)];split<;>omega
def cB (i:Int):Int:=2^i.toNat
def aD (n hi lo:Int):Int:=fE n hi.toNat lo.toNat
def fV (n hi lo):0<=aD n hi lo/\aD n hi lo<2^(hi.toNat-lo.toNat+1):=⟨Su _ _ _,RY _ _ _⟩
structure wY where
 name:List UInt8
 kind:Nat
 opc:Int
 f:Int
 g:Int
def tI:List wY:=[
 ⟨[97,100,100],82,51,0,0⟩,
 ⟨[115,117,98],82,51,0,32⟩,
 ⟨[115,108,108],82,51,1,0⟩,
 ⟨[115,108,116],82,51,2,0⟩,
 ⟨[115,108,116,117],82,51,3,0⟩,
 ⟨[120,111,114],82,51,4,0⟩,
 ⟨[115,114,108],82,51,5,0⟩,
 ⟨[115,114,97],82,51,5,32⟩,
 ⟨[111,114],82,51,6,0⟩,
 ⟨[97,110,100],82,51,7,0⟩,
 ⟨[109,117,108],82,51,0,1⟩,
 ⟨[109,117,108,104],82,51,1,1⟩,
 ⟨[109,117,108,104,115,117],82,51,2,1⟩,
 ⟨[109,117,108,104,117],82,51,3,1⟩,
 ⟨[100,105,118],82,51,4,1⟩,
 ⟨[100,105,118,117],82,51,5,1⟩,
 ⟨[114,101,109],82,51,6,1⟩,
 ⟨[114,101,109,117],82,51,7,1⟩,
 ⟨[97,100,100,119],82,59,0,0⟩,
 ⟨[115,117,98,119],82,59,0,32⟩,
 ⟨[115,108,108,119],82,59,1,0⟩,
 ⟨[115,114,108,119],82,59,5,0⟩,
 ⟨[115,114,97,119],82,59,5,32⟩,
 ⟨[109,117,108,119],82,59,0,1⟩,
 ⟨[100,105,118,119],82,59,4,1⟩,
 ⟨[100,105,118,117,119],82,59,5,1⟩,
 ⟨[114,101,109,119],82,59,6,1⟩,
 ⟨[114,101,109,117,119],82,59,7,1⟩,
 ⟨[97,100,100,105],73,19,0,0⟩,
 ⟨[115,108,116,105],73,19,2,0⟩,
 ⟨[115,108,116,105,117],73,19,3,0⟩,
 ⟨[120,111,114,105],73,19,4,0⟩,
 ⟨[111,114,105],73,19,6,0⟩,
 ⟨[97,110,100,105],73,19,7,0⟩,
 ⟨[115,108,108,105],72,19,1,0⟩,
 ⟨[115,114,108,105],72,19,5,0⟩,
 ⟨[115,114,97,105],72,19,5,16⟩,
 ⟨[97,100,100,105,119],73,27,0,0⟩,
 ⟨[115,108,108,105,119],87,27,1,0⟩,
 ⟨[115,114,108,105,119],87,27,5,0⟩,
 ⟨[115,114,97,105,119],87,27,5,32⟩,
 ⟨[108,98],76,3,0,0⟩,
 ⟨[108,104],76,3,1,0⟩,
 ⟨[108,119],76,3,2,0⟩,
 ⟨[108,100],76,3,3,0⟩,
 ⟨[108,98,117],76,3,4,0⟩,
 ⟨[108,104,117],76,3,5,0⟩,
 ⟨[108,119,117],76,3,6,0⟩,
 ⟨[106,97,108,114],76,103,0,0⟩,
 ⟨[115,98],83,35,0,0⟩,
 ⟨[115,104],83,35,1,0⟩,
 ⟨[115,119],83,35,2,0⟩,
 ⟨[115,100],83,35,3,0⟩,
 ⟨[98,101,113],66,99,0,0⟩,
 ⟨[98,110,101],66,99,1,0⟩,
 ⟨[98,108,116],66,99,4,0⟩,
 ⟨[98,103,101],66,99,5,0⟩,
 ⟨[98,108,116,117],66,99,6,0⟩,
 ⟨[98,103,101,117],66,99,7,0⟩,
 ⟨[108,117,105],85,55,0,0⟩,
 ⟨[97,117,105,112,99],85,23,0,0⟩,
 ⟨[106,97,108],74,111,0,0⟩,
 ⟨[101,99,97,108,108],78,115,0,0⟩,
 ⟨[101,98,114,101,97,107],78,115,0,1⟩]
def zF (r:wY):List Value:=[.string ⟨r.name.toArray⟩,.int .u8 r.kind,.int .i64 r.opc,.int .i64 r.f,.int .i64 r.g]
def uD:Array Value:=(tI.flatMap zF).toArray
def Eg:tI.length=64:=rfl
def row (k:Nat):wY:=tI.getD k ⟨[],0,0,0,0⟩
def jF {α β:Type} (f:α->List β) (m:Nat) (h:∀a,(f a).length=m):∀(l:List α) (k j:Nat),j<m->k<l.length->
    (l.flatMap f)[m*k+j]?=(l[k]?.bind λ a=>(f a)[j]?)
 | [],k,j,_,hk=>by simp at hk
 | a::l,0,j,hj,_=>by simp[List.flatMap_cons,List.getElem?_append,h,hj]
 | a::l,k+1,j,hj,hk=>by
  have:=jF f m h l k j hj (by simpa using hk)
  rw[List.flatMap_cons,List.getElem?_append_right (by rw[h,Nat.mul_succ];omega),h]
  have e:m*(k+1)+j-m=m*k+j:=by rw[Nat.mul_succ];omega
  rw[e,this];simp
def rW (k j) (h:k<64) (q:j<5):uD[5*k+j]?=(zF (row k))[j]?:=by
 unfold uD;rw[List.getElem?_toArray,jF zF 5 (λ _=>rfl) tI k j q (by rw[Eg];exact h)]
 have:tI[k]?=some (row k):=by
  unfold row;rw[List.getD_eq_getElem?_getD,List.getElem?_eq_getElem (by rw[Eg];exact h)];rfl
 rw[this];rfl
def AX (C:Array Value):Prop:=∀k:Nat,k<64->C[k*5]?=some (.string ⟨(row k).name.toArray⟩)/\C[k*5+1]?=some (.int .u8 (row k).kind)/\
 C[k*5+2]?=some (.int .i64 (row k).opc)/\C[k*5+3]?=some (.int .i64 (row k).f)/\C[k*5+4]?=some (.int .i64 (row k).g)
def WE:AX uD:=λ k h=>by
 rw[Nat.mul_comm k 5];exact ⟨rW k 0 h (by omega),rW k 1 h (by omega),rW k 2 h (by omega),rW k 3 h (by omega),rW k 4 h (by omega)⟩
def has (k:Nat):Bool×Bool×Bool:=
 if k=82 then (true,true,true) else if k=83\/k=66 then (false,true,true) else if k=85\/k=74 then (true,false,false)
 else if k=78 then (false,false,false) else (true,true,false)
def bU (n lo hi:Int):Bool:=decide (lo<=n)&&decide (n<=hi)
def cW (k:Nat) (n:Int):Bool:=
 if k=73\/k=76\/k=83 then bU n (-2048) 2047 else if k=72 then bU n 0 63 else if k=87 then bU n 0 31
 else if k=66 then bU n (-4096) 4094&&(n.tmod 2==0) else if k=85 then bU n (-524288) 524287
 else if k=74 then bU n (-1048576) 1048574&&(n.tmod 2==0) else (n==0)
def cK (there:Bool) (n:Int):Bool:=if there then bU n 0 31 else (n==0)
structure aE where
 op:Int
 rd:Int
 rs1:Int
 rs2:Int
 imm:Int
def aE.val (i:aE):Value:=.agg #[.int .i64 i.op,.int .i64 i.rd,.int .i64 i.rs1,.int .i64 i.rs2,.int .i64 i.imm]
def right (i:aE):Bool:=
 decide (1<=i.op)&&decide (i.op<=64) &&
  (cK (has (row (i.op-1).toNat).kind).1 i.rd&&cK (has (row (i.op-1).toNat).kind).2.1 i.rs1
   && cK (has (row (i.op-1).toNat).kind).2.2 i.rs2&&cW (row (i.op-1).toNat).kind i.imm)
def dJ (k:Nat) (rd rs1 rs2 imm:Int) (h:k<64):right ⟨k+1,rd,rs1,rs2,imm⟩ =
    (cK (has (row k).kind).1 rd&&cK (has (row k).kind).2.1 rs1&&cK (has (row k).kind).2.2 rs2&&cW (row k).kind imm):=by
 unfold right;have e:((k:Int)+1-1).toNat=k:=by omega
 simp only[e];rw[decide_eq_true (by omega),decide_eq_true (by omega)]
 rfl
def lY (i) (h:¬(1<=i.op/\i.op<=64)):right i=false:=by
 unfold right;by_cases j:1<=i.op
 .rw[decide_eq_false (p:=i.op<=64) (by omega)];simp
 rw[decide_eq_false j];rfl
def WD (h:a=true) (j:b=true) (q:c=true):(a&&b&&c&&d)=d:=by subst h j q;rfl
def Iu (h:a=true) (j:b=true) (q:¬c=true):(a&&b&&c&&d)=false:=by cases c;(subst h j;rfl);exact absurd rfl q
def I5 (h:a=true) (j:¬b=true):(a&&b&&c&&d)=false:=by cases b;(subst h;rfl);exact absurd rfl j
def Iw (h:¬a=true):(a&&b&&c&&d)=false:=by cases a;rfl;exact absurd rfl h
def lk (k:Nat) (rd rs1 rs2:Int):Int:=(row k).opc+rd*128+rs1*32768+rs2*1048576
def iD (k:Nat) (rd rs1 rs2:Int):Int:=if (row k).kind≠85/\(row k).kind≠74 then lk k rd rs1 rs2+(row k).f*4096 else lk k rd rs1 rs2
def dS (k:Nat) (rd rs1 rs2 n:Int):Int:=
 if (row k).kind=82 then iD k rd rs1 rs2+(row k).g*33554432
 else if (row k).kind=73\/(row k).kind=76 then iD k rd rs1 rs2+aD n 11 0*1048576
 else if (row k).kind=72 then iD k rd rs1 rs2+n*1048576+(row k).g*67108864
 else if (row k).kind=87 then iD k rd rs1 rs2+n*1048576+(row k).g*33554432
 else if (row k).kind=83 then iD k rd rs1 rs2+aD n 11 5*33554432+aD n 4 0*128
 else if (row k).kind=66 then iD k rd rs1 rs2+aD n 12 12*2147483648+aD n 10 5*33554432+aD n 4 1*256+aD n 11 11*128
 else if (row k).kind=85 then iD k rd rs1 rs2+aD n 19 0*4096
 else if (row k).kind=74 then iD k rd rs1 rs2+aD n 20 20*2147483648+aD n 10 1*2097152+aD n 11 11*1048576+aD n 19 12*4096
 else if (row k).kind=78 then iD k rd rs1 rs2+(row k).g*1048576
 else iD k rd rs1 rs2
def kc:∀k,k<64->(0<=(row k).opc/\(row k).opc<=127/\0<=(row k).f/\(row k).f<=7/\0<=(row k).g/\(row k).g<=32/\(row k).kind<256):=by decide
def kinds:∀k,k<64->((row k).kind=82\/(row k).kind=73\/(row k).kind=76\/(row k).kind=72\/(row k).kind=87\/(row k).kind=83\/(row k).kind=66\/(row k).kind=85\/(row k).kind=74\/(row k).kind=78):=by decide
def wo (k) (rd rs1 rs2 n) (h:(row k).kind=82):dS k rd rs1 rs2 n=(row k).opc+rd*128+rs1*32768+rs2*1048576+(row k).f*4096+(row k).g*33554432:=by
 simp[dS,iD,lk,h]
def wh (k) (rd rs1 rs2 n) (h:(row k).kind=73):dS k rd rs1 rs2 n=(row k).opc+rd*128+rs1*32768+rs2*1048576+(row k).f*4096+aD n 11 0*1048576:=by
 simp[dS,iD,lk,h]
def ws (k) (rd rs1 rs2 n) (h:(row k).kind=76):dS k rd rs1 rs2 n=(row k).opc+rd*128+rs1*32768+rs2*1048576+(row k).f*4096+aD n 11 0*1048576:=by
 simp[dS,iD,lk,h]
def vR (k) (rd rs1 rs2 n) (h:(row k).kind=72):dS k rd rs1 rs2 n=(row k).opc+rd*128+rs1*32768+rs2*1048576+(row k).f*4096+n*1048576+(row k).g*67108864:=by
 simp[dS,iD,lk,h]
def vN (k) (rd rs1 rs2 n) (h:(row k).kind=87):dS k rd rs1 rs2 n=(row k).opc+rd*128+rs1*32768+rs2*1048576+(row k).f*4096+n*1048576+(row k).g*33554432:=by
 simp[dS,iD,lk,h]
def vO (k) (rd rs1 rs2 n) (h:(row k).kind=83):dS k rd rs1 rs2 n=(row k).opc+rd*128+rs1*32768+rs2*1048576+(row k).f*4096+aD n 11 5*33554432+aD n 4 0*128:=by
 simp[dS,iD,lk,h]
def vP (k) (rd rs1 rs2 n) (h:(row k).kind=66):dS k rd rs1 rs2 n=(row k).opc+rd*128+rs1*32768+rs2*1048576+(row k).f*4096+aD n 12 12*2147483648+aD n 10 5*33554432+aD n 4 1*256+aD n 11 11*128:=by
 simp[dS,iD,lk,h]
def vS (k) (rd rs1 rs2 n) (h:(row k).kind=85):dS k rd rs1 rs2 n=(row k).opc+rd*128+rs1*32768+rs2*1048576+aD n 19 0*4096:=by
 simp[dS,iD,lk,h]
def vQ (k) (rd rs1 rs2 n) (h:(row k).kind=74):dS k rd rs1 rs2 n=(row k).opc+rd*128+rs1*32768+rs2*1048576+aD n 20 20*2147483648+aD n 10 1*2097152+aD n 11 11*1048576+aD n 19 12*4096:=by
 simp[dS,iD,lk,h]
def ww (k) (rd rs1 rs2 n) (h:(row k).kind=78):dS k rd rs1 rs2 n=(row k).opc+rd*128+rs1*32768+rs2*1048576+(row k).f*4096+(row k).g*1048576:=by
 simp[dS,iD,lk,h]
def yU (n):0<=aD n 11 0/\aD n 11 0<=4095:=by
 have:=fV n 11 0;exact ⟨this.1,by have h:=this.2;simp at h;omega⟩
def Gi (n):0<=aD n 11 5/\aD n 11 5<=127:=by
 have:=fV n 11 5;exact ⟨this.1,by have h:=this.2;simp at h;omega⟩
def AL (n):0<=aD n 4 0/\aD n 4 0<=31:=by
 have:=fV n 4 0;exact ⟨this.1,by have h:=this.2;simp at h;omega⟩
def F4 (n):0<=aD n 12 12/\aD n 12 12<=1:=by
 have:=fV n 12 12;exact ⟨this.1,by have h:=this.2;simp at h;omega⟩
def FG (n):0<=aD n 10 5/\aD n 10 5<=63:=by
 have:=fV n 10 5;exact ⟨this.1,by have h:=this.2;simp at h;omega⟩
def GO (n):0<=aD n 4 1/\aD n 4 1<=15:=by
 have:=fV n 4 1;exact ⟨this.1,by have h:=this.2;simp at h;omega⟩
def ye (n):0<=aD n 11 11/\aD n 11 11<=1:=by
 have:=fV n 11 11;exact ⟨this.1,by have h:=this.2;simp at h;omega⟩
def FM (n):0<=aD n 19 0/\aD n 19 0<=1048575:=by
 have:=fV n 19 0;exact ⟨this.1,by have h:=this.2;simp at h;omega⟩
def qG (n):0<=aD n 20 20/\aD n 20 20<=1:=by
 have:=fV n 20 20;exact ⟨this.1,by have h:=this.2;simp at h;omega⟩
def FH (n):0<=aD n 10 1/\aD n 10 1<=1023:=by
 have:=fV n 10 1;exact ⟨this.1,by have h:=this.2;simp at h;omega⟩
def qE (n):0<=aD n 19 12/\aD n 19 12<=255:=by
 have:=fV n 19 12;exact ⟨this.1,by have h:=this.2;simp at h;omega⟩
def D5 {rd:Int} (j:k<64) (h:right ⟨k+1,rd,rs1,rs2,imm⟩=true):cW (row k).kind imm=true:=by
 rw[dJ _ _ _ _ _ j]at h;simp at h;exact h.2
def Cz {rd:Int} (q:k<64) (h:right ⟨k+1,rd,rs1,rs2,imm⟩=true) (j:(row k).kind=72):0<=imm/\imm<=63:=by
 have:=D5 q h;rw[j]at this;simpa[cW,bU] using this
def CB {rd:Int} (q:k<64) (h:right ⟨k+1,rd,rs1,rs2,imm⟩=true) (j:(row k).kind=87):0<=imm/\imm<=31:=by
 have:=D5 q h;rw[j]at this;simpa[cW,bU] using this
def AQ (h:cK t n=true):0<=n/\n<=31:=by
 cases t
 .simp[cK]at h;omega
 simpa[cK,bU] using h
def Ss (h:cW k n=true):-1048576<=n/\n<=1048576:=by
 unfold cW at h
 repeat' split at h
 all_goals (simp[bU]at h;omega)
def o6 {rd:Int} (w:k<64) (h:right ⟨k+1,rd,rs1,rs2,imm⟩=true):
    (0<=rd/\rd<=31)/\(0<=rs1/\rs1<=31)/\(0<=rs2/\rs2<=31)/\(-1048576<=imm/\imm<=1048576):=by
 rw[dJ _ _ _ _ _ w]at h;simp at h;obtain ⟨⟨⟨j,q⟩,u⟩,v⟩:=h;exact ⟨AQ j,AQ q,AQ u,Ss v⟩
def bB (i:aE):Int×Int:=if right i then (dS (i.op-1).toNat i.rd i.rs1 i.rs2 i.imm,0) else (0,1)
def A7 {i:aE} (h:right i=false):bB i=(0,1):=by unfold bB;simp[h]
def ky {rd:Int} (h:right ⟨k+1,rd,rs1,rs2,imm⟩=true):bB ⟨k+1,rd,rs1,rs2,imm⟩=(dS k rd rs1 rs2 imm,0):=by
 unfold bB;have e:((k:Int)+1-1).toNat=k:=by omega
 simp only[h,if_true,e]
def bG (n size:Int):Int:=if cB (size-1)<=n then n-cB size else n
def fL (kd:Nat) (w:Int):Int:=
 if kd=73\/kd=76 then bG (aD w 31 20) 12 else if kd=72 then aD w 25 20 else if kd=87 then aD w 24 20
 else if kd=83 then bG (aD w 31 25*32+aD w 11 7) 12
 else if kd=66 then bG (aD w 31 31*4096+aD w 7 7*2048+aD w 30 25*32+aD w 11 8*2) 13
 else if kd=85 then bG (aD w 31 12) 20
 else if kd=74 then bG (aD w 31 31*1048576+aD w 19 12*4096+aD w 20 20*2048+aD w 30 21*2) 21 else 0
def cH (k:Nat) (w:Int):aE:=
 ⟨k+1,if (has (row k).kind).1 then aD w 11 7 else 0,if (has (row k).kind).2.1 then aD w 19 15 else 0,if (has (row k).kind).2.2 then aD w 24 20 else 0,fL (row k).kind w⟩
def gL (w:Int) (k:Nat):Bool:=(aD w 6 0==(row k).opc)&&((bB (cH k w)).2==0)&&((bB (cH k w)).1==w)
def bW (w:Int):aE×Int:=
 if w<0\/4294967296<=w then (⟨0,0,0,0,0⟩,1)
 else match (List.range 64).find? (gL w) with
  | some k=>(cH k w,0)
  | none=>(⟨0,0,0,0,0⟩,1)
def pp (p:Nat->Bool) (n k) (u:k<n) (h:∀j,j<k->p j=false) (v:p k=true):(List.range n).find? p=some k:=by
 rw[List.find?_range_eq_some];exact ⟨v,by simpa using u,λ j q=>by simp[h j q]⟩
def lX (p:Nat->Bool) (n) (h:∀j,j<n->p j=false):(List.range n).find? p=none:=by
 rw[List.find?_eq_none];intro x hx;simp at hx;simp[h x hx]
def FC (v:0<=w) (y:w<4294967296) (q:k<64) (h:∀j,j<k->gL w j=false) (u:gL w k=true):bW w=(cH k w,0):=by
 unfold bW;rw[if_neg (by omega),pp _ _ _ q h u]
def Og (q:0<=w) (u:w<4294967296) (h:∀j,j<64->gL w j=false):bW w=(⟨0,0,0,0,0⟩,1):=by
 unfold bW;rw[if_neg (by omega),lX _ _ h]
def Ge (h:w<0\/4294967296<=w):bW w=(⟨0,0,0,0,0⟩,1):=by unfold bW;rw[if_pos h]
def wy (n):0<=aD n 7 7/\aD n 7 7<=1:=by
 have:=fV n 7 7;exact ⟨this.1,by have h:=this.2;simp at h;omega⟩
def ma (n):0<=aD n 11 7/\aD n 11 7<=31:=by
 have:=fV n 11 7;exact ⟨this.1,by have h:=this.2;simp at h;omega⟩
def vl (n):0<=aD n 11 8/\aD n 11 8<=15:=by
 have:=fV n 11 8;exact ⟨this.1,by have h:=this.2;simp at h;omega⟩
def pC (n):0<=aD n 19 15/\aD n 19 15<=31:=by
 have:=fV n 19 15;exact ⟨this.1,by have h:=this.2;simp at h;omega⟩
def qB (n):0<=aD n 24 20/\aD n 24 20<=31:=by
 have:=fV n 24 20;exact ⟨this.1,by have h:=this.2;simp at h;omega⟩
def yQ (n):0<=aD n 25 20/\aD n 25 20<=63:=by
 have:=fV n 25 20;exact ⟨this.1,by have h:=this.2;simp at h;omega⟩
def vb (n):0<=aD n 30 21/\aD n 30 21<=1023:=by
 have:=fV n 30 21;exact ⟨this.1,by have h:=this.2;simp at h;omega⟩
def uX (n):0<=aD n 30 25/\aD n 30 25<=63:=by
 have:=fV n 30 25;exact ⟨this.1,by have h:=this.2;simp at h;omega⟩
def yL (n):0<=aD n 31 12/\aD n 31 12<=1048575:=by
 have:=fV n 31 12;exact ⟨this.1,by have h:=this.2;simp at h;omega⟩
def qO (n):0<=aD n 31 20/\aD n 31 20<=4095:=by
 have:=fV n 31 20;exact ⟨this.1,by have h:=this.2;simp at h;omega⟩
def uQ (n):0<=aD n 31 25/\aD n 31 25<=127:=by
 have:=fV n 31 25;exact ⟨this.1,by have h:=this.2;simp at h;omega⟩
def om (n):0<=aD n 31 31/\aD n 31 31<=1:=by
 have:=fV n 31 31;exact ⟨this.1,by have h:=this.2;simp at h;omega⟩
def Nx (h:(aD n 6 0 != (row k).opc)=true):gL n k=false:=by
 have:(aD n 6 0==(row k).opc)=false:=by simpa using h
 simp[gL,this]
def LV {I:aE} {E:Int×Int} (h:(aD n 6 0 != (row k).opc)=false) (q:cH k n=I) (j:bB I=E) (v:(E.2==0)=true) (u:(E.1==n)=true):gL n k=true:=by
 have:(aD n 6 0==(row k).opc)=true:=by simpa using h
 simp only[gL,this,q,j,u,v,Bool.and_self]
def Dz {I:aE} {E:Int×Int} (j:cH k n=I) (h:bB I=E) (q:(E.2==0)=false\/(E.1==n)=false):gL n k=false:=by
 simp only[gL,j,h];rcases q with q|q
 .simp[q]
 simp[q]
def zZ (h:∀j,j<k->gL n j=false) (q:gL n k=false):∀j,j<k+1->gL n j=false:=λ j u=>by
 by_cases e:j=k
 .rw[e];exact q
 exact h j (by omega)
def zq (k) (n) (h:(row k).kind=82):cH k n=⟨k+1,aD n 11 7,aD n 19 15,aD n 24 20,0⟩:=by
 simp[cH,h,has,fL]
def yK (k) (n) (h:(row k).kind=73):cH k n=⟨k+1,aD n 11 7,aD n 19 15,0,bG (aD n 31 20) 12⟩:=by
 simp[cH,h,has,fL]
def yz (k) (n) (h:(row k).kind=76):cH k n=⟨k+1,aD n 11 7,aD n 19 15,0,bG (aD n 31 20) 12⟩:=by
 simp[cH,h,has,fL]
def zu (k) (n) (h:(row k).kind=72):cH k n=⟨k+1,aD n 11 7,aD n 19 15,0,aD n 25 20⟩:=by
 simp[cH,h,has,fL]
def yW (k) (n) (h:(row k).kind=87):cH k n=⟨k+1,aD n 11 7,aD n 19 15,0,aD n 24 20⟩:=by
 simp[cH,h,has,fL]
def yN (k) (n) (h:(row k).kind=83):cH k n=⟨k+1,0,aD n 19 15,aD n 24 20,bG (aD n 31 25*32+aD n 11 7) 12⟩:=by
 simp[cH,h,has,fL]
def yY (k) (n) (h:(row k).kind=66):cH k n=⟨k+1,0,aD n 19 15,aD n 24 20,bG (aD n 31 31*4096+aD n 7 7*2048+aD n 30 25*32+aD n 11 8*2) 13⟩:=by
 simp[cH,h,has,fL]
def zA (k) (n) (h:(row k).kind=85):cH k n=⟨k+1,aD n 11 7,0,0,bG (aD n 31 12) 20⟩:=by
 simp[cH,h,has,fL]
def zC (k) (n) (h:(row k).kind=74):cH k n=⟨k+1,aD n 11 7,0,0,bG (aD n 31 31*1048576+aD n 19 12*4096+aD n 20 20*2048+aD n 30 21*2) 21⟩:=by
 simp[cH,h,has,fL]
def yX (k) (n) (h:(row k).kind=78):cH k n=⟨k+1,0,0,0,0⟩:=by
 simp[cH,h,has,fL]
def aT (a b:Int):Int:=bits .or .i64 a b
def eO (a b:Int):Int:=bits .and .i64 a b
def uu (n) (h:0<=n) (j:n<2^62):IntKind.i64.wrap n=n:=by rw[IntKind.wrap_i64];omega
def nJ (a b:Nat) (h:a<2^62) (j:b<2^62):aT a b=((a ||| b:Nat):Int):=(bits_nat .i64 62 (by decide) uu a b h j).2
def vd (a b:Nat) (h:a<2^62) (j:b<2^62):eO a b=((a &&& b:Nat):Int):=(bits_nat .i64 62 (by decide) uu a b h j).1
def xU (x) (i) (hi:i<=60):eO x (2^i-1)=x%2^i:=by
 unfold eO;have h:0<2^i:=Nat.two_pow_pos i;have v:((2:Int)^i-1)=((2^i-1:Nat):Int):=by rw[Int.natCast_sub h];simp
 have j:2^i<=2^60:=Nat.pow_le_pow_right (by decide) hi
 have w:(2^i-1)%2^IntKind.i64.bits=2^i-1:=Nat.mod_eq_of_lt (Nat.lt_of_lt_of_le (Nat.sub_lt h (by decide)) (Nat.le_trans j (by decide)))
 rw[v];simp only[bits,BitVec.ofInt_natCast,BitVec.toNat_and,BitVec.toNat_ofNat,w];rw[Nat.and_two_pow_sub_one_eq_mod,uu _ (Int.natCast_nonneg _) ?_]
 .rw[BitVec.toNat_ofInt]
  show (((x%((2^64:Nat):Int)).toNat%2^i:Nat):Int)=_
  have e:(((x%((2^64:Nat):Int)).toNat%2^i:Nat):Int)=(x%((2^64:Nat):Int))%2^i:=by
   rw[Int.natCast_emod,Int.toNat_of_nonneg (Int.emod_nonneg _ (by decide))];simp
  rw[e]
  have d:((2:Int)^i) ∣ ((2^64:Nat):Int):=by
   (have:=Nat.pow_dvd_pow 2 (show i<=64 by omega));have u:=Int.natCast_dvd_natCast.2 this;simpa using u
  exact Int.emod_emod_of_dvd _ d
 have q:(BitVec.ofInt IntKind.i64.bits x).toNat%2^i<2^i:=Nat.mod_lt _ h;have:(BitVec.ofInt IntKind.i64.bits x).toNat%2^i<2^62:=Nat.lt_of_lt_of_le q (Nat.le_trans j (by decide))
 exact_mod_cast this
def Do (i a b A B) (h:a<2^i) (q:b<2^i):(a+2^i*A) ||| (b+2^i*B)=(a ||| b)+2^i*(A ||| B):=by
 apply Nat.eq_of_testBit_eq;intro j;rw[Nat.testBit_or,Nat.add_comm a,Nat.add_comm b,Nat.add_comm (a ||| b),Nat.testBit_two_pow_mul_add _ h,Nat.testBit_two_pow_mul_add _ q,Nat.testBit_two_pow_mul_add _ (Nat.or_lt_two_pow h q)]
 split
 .rw[Nat.testBit_or]
 rw[Nat.testBit_or]
def Lo (i a b A B) (q:a<2^i) (h:b<2^i):(a+2^i*A) &&& (b+2^i*B)=(a &&& b)+2^i*(A &&& B):=by
 apply Nat.eq_of_testBit_eq;intro j;rw[Nat.testBit_and,Nat.add_comm a,Nat.add_comm b,Nat.add_comm (a &&& b),Nat.testBit_two_pow_mul_add _ q,Nat.testBit_two_pow_mul_add _ h,Nat.testBit_two_pow_mul_add _ (Nat.and_lt_two_pow _ h)]
 split
 .rw[Nat.testBit_and]
 rw[Nat.testBit_and]
def Eh (a v i w) (C:v<2^w) (E:a/2^i%2^w=0):a ||| v*2^i=a+v*2^i:=by
 have q:a=a%2^i+2^i*(a/2^i):=(Nat.mod_add_div a (2^i)).symm
 have y:a/2^i=0+2^w*(a/2^i/2^w):=by
  have:=Nat.mod_add_div (a/2^i) (2^w);omega
 have A:v*2^i=0+2^i*(v+2^w*0):=by rw[Nat.mul_comm];simp
 have u:0<2^i:=Nat.two_pow_pos i;have D:0<2^w:=Nat.two_pow_pos w
 have h:(a%2^i+2^i*(0+2^w*(a/2^i/2^w))) ||| (0+2^i*(v+2^w*0))=a%2^i+2^i*(v+2^w*(a/2^i/2^w)):=by
  rw[Do i _ _ _ _ (Nat.mod_lt _ u) u,Do w _ _ _ _ D C];simp
 rw[<-A,<-y,<-q]at h;rw[h,Nat.mul_add,Nat.mul_comm v]
 have:a=a%2^i+2^i*(2^w*(a/2^i/2^w)):=by
  have j:2^w*(a/2^i/2^w)=a/2^i:=by omega
  rw[j];exact q
 omega
def dK (a v) (i w) (p q) (D:p=2^i:=by rfl) (E:q=2^w:=by rfl) (C:i+w<=60:=by decide) (y:0<=a:=by omega) (I:a<4611686018427387904:=by omega) (G:0<=v:=by omega) (H:v<q:=by omega) (h:a/p%q=0:=by omega):aT a (v*p)=a+v*p:=by
 subst D E;obtain ⟨a,rfl⟩:=Int.eq_ofNat_of_zero_le y;obtain ⟨v,rfl⟩:=Int.eq_ofNat_of_zero_le G;have A:a/2^i%2^w=0:=by exact_mod_cast h
 have j:v<2^w:=by exact_mod_cast H
 have e:((v:Int)*2^i)=((v*2^i:Nat):Int):=by simp
 have F:v*2^i<2^62:=by
  have u:v*2^i<2^w*2^i:=Nat.mul_lt_mul_of_pos_right j (Nat.two_pow_pos i);rw[<-Nat.pow_add]at u;exact Nat.lt_of_lt_of_le u (Nat.pow_le_pow_right (by decide) (by omega))
 rw[e,nJ _ _ (by omega) F,Eh a v i w j A]
 simp
def tT (a b c) (u:0<=a) (w:a<4611686018427387904) (v:0<=b) (y:b<4611686018427387904) (c0:0<=c) (c1:c<4611686018427387904):aT a (aT b c)=aT (aT a b) c:=by
 obtain ⟨a,rfl⟩:=Int.eq_ofNat_of_zero_le u;obtain ⟨b,rfl⟩:=Int.eq_ofNat_of_zero_le v;obtain ⟨c,rfl⟩:=Int.eq_ofNat_of_zero_le c0;have j:a<2^62:=by omega
 have h:b<2^62:=by omega
 have q:c<2^62:=by omega
 rw[nJ b c h q,nJ a b j h,nJ _ _ j (Nat.or_lt_two_pow h q),nJ _ _ (Nat.or_lt_two_pow j h) q,Nat.or_assoc]
def AP (a b) (j) (A:j<=62) (q:0<=a) (u:a<2^j) (w:0<=b) (y:b<2^j):0<=aT a b/\aT a b<2^j:=by
 obtain ⟨a,rfl⟩:=Int.eq_ofNat_of_zero_le q;obtain ⟨b,rfl⟩:=Int.eq_ofNat_of_zero_le w;have h:a<2^j:=by exact_mod_cast u
 have v:b<2^j:=by exact_mod_cast y
 have C:2^j<=2^62:=Nat.pow_le_pow_right (by decide) A
 rw[nJ a b (by omega) (by omega)]
 have:=Nat.or_lt_two_pow h v;exact ⟨by omega,by exact_mod_cast this⟩
def va (a b) (h:0<=a) (j:a<4611686018427387904) (q:0<=b) (u:b<4611686018427387904):0<=aT a b/\aT a b<4611686018427387904:=AP a b 62 (by decide) h j q u
def oq (a) (h:0<=a) (j:a<4611686018427387904):aT a 0=a:=by
 obtain ⟨a,rfl⟩:=Int.eq_ofNat_of_zero_le h;have:=nJ a 0 (by omega) (by decide)
 simpa using this
def m7 (a) (h:0<=a) (j:a<4611686018427387904):aT 0 a=a:=by
 obtain ⟨a,rfl⟩:=Int.eq_ofNat_of_zero_le h;have:=nJ 0 a (by decide) (by omega)
 simpa using this
def qn (a b) (i) (p) (E:p=2^i) (v:0<=a) (F:a<4611686018427387904) (w:0<=b) (G:b<4611686018427387904):eO a b=eO (a%p) (b%p)+p*eO (a/p) (b/p):=by
 subst E;obtain ⟨a,rfl⟩:=Int.eq_ofNat_of_zero_le v;obtain ⟨b,rfl⟩:=Int.eq_ofNat_of_zero_le w;have j:a<2^62:=by omega
 have q:b<2^62:=by omega
 have u:0<2^i:=Nat.two_pow_pos i;have h:=Lo i (a%2^i) (b%2^i) (a/2^i) (b/2^i) (Nat.mod_lt _ u) (Nat.mod_lt _ u);rw[Nat.mod_add_div,Nat.mod_add_div]at h;have y:((a:Int)%2^i)=((a%2^i:Nat):Int):=by simp
 have A:((b:Int)%2^i)=((b%2^i:Nat):Int):=by simp
 have C:((a:Int)/2^i)=((a/2^i:Nat):Int):=by simp
 have D:((b:Int)/2^i)=((b/2^i:Nat):Int):=by simp
 rw[y,A,C,D,vd a b j q,vd _ _ (Nat.lt_of_le_of_lt (Nat.mod_le _ _) j) (Nat.lt_of_le_of_lt (Nat.mod_le _ _) q),
  vd _ _ (Nat.lt_of_le_of_lt (Nat.div_le_self _ _) j) (Nat.lt_of_le_of_lt (Nat.div_le_self _ _) q),h]
 simp
def yl (a) (h:0<=a) (j:a<4611686018427387904):eO a 0=0:=by
 obtain ⟨a,rfl⟩:=Int.eq_ofNat_of_zero_le h;have:=vd a 0 (by omega) (by decide)
 simpa using this
def Ia (a b c d) (j:0<=a) (q:a<4611686018427387904) (u:0<=b) (v:b<4611686018427387904) (c0:0<=c) (c1:c<4611686018427387904) (d0:0<=d) (d1:d<4611686018427387904):
    aT a (aT (aT b c) d)=aT (aT (aT a b) c) d:=by
 have h:=va b c u v c0 c1;rw[tT a _ d j q h.1 h.2 d0 d1,tT a b c j q u v c0 c1]
def tj (a b) (h:0<=b) (j:b<4611686018427387904):aT a (aT 0 b)=aT a b:=by rw[m7 b h j]
def TG (a b c) (q:0<=a) (u:a<4611686018427387904) (h:0<=b) (j:b<4611686018427387904) (c0:0<=c) (c1:c<4611686018427387904):
    aT a (aT (aT 0 b) c)=aT (aT a b) c:=by
 rw[m7 b h j,tT a b c q u h j c0 c1]
def H3 (a b c d e) (u:0<=a) (v:a<4611686018427387904) (j:0<=b) (q:b<4611686018427387904) (c0:0<=c) (c1:c<4611686018427387904) (d0:0<=d) (d1:d<4611686018427387904) (e0:0<=e) (y:e<4611686018427387904):
    aT a (aT (aT (aT (aT 0 b) c) d) e)=aT (aT (aT (aT a b) c) d) e:=by
 have h:=va b c j q c0 c1;have w:=va _ d h.1 h.2 d0 d1;rw[m7 b j q,tT a _ e u v w.1 w.2 e0 y,Ia a b c d u v j q c0 c1 d0 d1]
def je (opc f g gp:Int):Int:=aT (aT opc (f*4096)) (g*gp)
def oL (rd rs1 rs2:Int):Int:=aT (aT (rd*128) (rs1*32768)) (rs2*1048576)
def AO (opc f rd rs1 rs2) (v:0<=opc) (w:opc<128) (f0:0<=f) (f1:f<8) (d0:0<=rd) (d1:rd<32) (y:0<=rs1) (s1:rs1<32) (t0:0<=rs2) (t1:rs2<32) (g gp) (q:0<=g*gp) (u:g*gp<4611686018427387904):aT (je opc f g gp) (oL rd rs1 rs2)=aT (aT (aT (aT (opc+f*4096) (g*gp)) (rd*128)) (rs1*32768)) (rs2*1048576):=by
 unfold je oL;have j:=dK opc f 12 3 4096 8;rw[j];have h:=va (opc+f*4096) (g*gp) (by omega) (by omega) q u
 rw[Ia _ _ _ _ h.1 h.2 (by omega) (by omega) (by omega) (by omega) (by omega) (by omega)]
def qS (opc f rd rs1 rs2) (h:0<=opc) (j:opc<128) (f0:0<=f) (f1:f<8) (d0:0<=rd) (d1:rd<32) (q:0<=rs1) (s1:rs1<32) (t0:0<=rs2) (t1:rs2<32):aT (je opc f 0 1) (oL rd rs1 rs2)=opc+f*4096+rd*128+rs1*32768+rs2*1048576:=by
 rw[AO opc f rd rs1 rs2 h j f0 f1 d0 d1 q s1 t0 t1 0 1 (by decide) (by decide),Int.zero_mul,oq _ (by omega) (by omega),
  dK _ rd 7 5 128 32,
  dK _ rs1 15 5 32768 32,
  dK _ rs2 20 5 1048576 32]
def Gq (opc f g rd rs1 rs2) (h:0<=opc) (j:opc<128) (f0:0<=f) (f1:f<8) (d0:0<=rd) (d1:rd<32) (q:0<=rs1) (s1:rs1<32) (t0:0<=rs2) (t1:rs2<32) (u:0<=g) (v:g<128):aT (je opc f g 33554432) (oL rd rs1 rs2)=opc+f*4096+g*33554432+rd*128+rs1*32768+rs2*1048576:=by
 rw[AO opc f rd rs1 rs2 h j f0 f1 d0 d1 q s1 t0 t1 g 33554432 (by omega) (by omega),
  dK _ g 25 7 33554432 128,
  dK _ rd 7 5 128 32,
  dK _ rs1 15 5 32768 32,
  dK _ rs2 20 5 1048576 32]
def RG (opc f g rd rs1 rs2) (h:0<=opc) (j:opc<128) (f0:0<=f) (f1:f<8) (d0:0<=rd) (d1:rd<32) (q:0<=rs1) (s1:rs1<32) (t0:0<=rs2) (t1:rs2<32) (u:0<=g) (v:g<64):aT (je opc f g 67108864) (oL rd rs1 rs2)=opc+f*4096+g*67108864+rd*128+rs1*32768+rs2*1048576:=by
 rw[AO opc f rd rs1 rs2 h j f0 f1 d0 d1 q s1 t0 t1 g 67108864 (by omega) (by omega),
  dK _ g 26 6 67108864 64,
  dK _ rd 7 5 128 32,
  dK _ rs1 15 5 32768 32,
  dK _ rs2 20 5 1048576 32]
def kK (x) (i) (p) (h:p=2^i-1) (hi:i<=60):eO x p=x%2^i:=by subst h;exact xU x i hi
def mX (w):eO w 127=w%128:=kK w 7 127 rfl (by decide)
def qR (w) (h:0<=w) (j:w<4294967296):eO w 28799=w%128+w/4096%8*4096:=by
 rw[qn w 28799 7 128 rfl h (by omega) (by decide) (by decide),qn (w/128) (28799/128) 5 32 rfl (by omega) (by omega) (by decide) (by decide)]
 have a:eO (w%128) (28799%128)=w%128%2^7:=kK _ 7 _ (by decide) (by decide)
 have b:eO (w/128%32) (28799/128%32)=0:=yl _ (by omega) (by omega)
 have c:eO (w/128/32) (28799/128/32)=w/128/32%2^3:=kK _ 3 _ (by decide) (by decide)
 rw[a,b,c];omega
def CI (w) (h:0<=w) (j:w<4294967296):eO w 4261441663=w%128+w/4096%8*4096+w/33554432*33554432:=by
 rw[qn w 4261441663 15 32768 rfl h (by omega) (by decide) (by decide),qn (w/32768) (4261441663/32768) 10 1024 rfl (by omega) (by omega) (by decide) (by decide)]
 have a:eO (w%32768) (4261441663%32768)=w%32768%128+w%32768/4096%8*4096:=qR _ (by omega) (by omega)
 have b:eO (w/32768%1024) (4261441663/32768%1024)=0:=yl _ (by omega) (by omega)
 have c:eO (w/32768/1024) (4261441663/32768/1024)=w/32768/1024%2^7:=kK _ 7 _ (by decide) (by decide)
 rw[a,b,c];omega
def Ng (w) (h:0<=w) (j:w<4294967296):eO w 4227887231=w%128+w/4096%8*4096+w/67108864*67108864:=by
 rw[qn w 4227887231 15 32768 rfl h (by omega) (by decide) (by decide),qn (w/32768) (4227887231/32768) 11 2048 rfl (by omega) (by omega) (by decide) (by decide)]
 have a:eO (w%32768) (4227887231%32768)=w%32768%128+w%32768/4096%8*4096:=qR _ (by omega) (by omega)
 have b:eO (w/32768%2048) (4227887231/32768%2048)=0:=yl _ (by omega) (by omega)
 have c:eO (w/32768/2048) (4227887231/32768/2048)=w/32768/2048%2^6:=kK _ 6 _ (by decide) (by decide)
 rw[a,b,c];omega
def VI (w) (h:0<=w) (j:w<4294967296):eO w 4294967295=w:=by
 rw[kK w 32 4294967295 (by decide) (by decide)];omega
def rh (opc f) (h:0<=opc) (j:opc<128) (f0:0<=f) (f1:f<8):je opc f 0 1=opc+f*4096:=by
 unfold je;rw[dK opc f 12 3 4096 8,Int.zero_mul,oq _ (by omega) (by omega)]
def GY (opc f g) (q:0<=opc) (u:opc<128) (f0:0<=f) (f1:f<8) (h:0<=g) (j:g<128):je opc f g 33554432=opc+f*4096+g*33554432:=by
 unfold je;rw[dK opc f 12 3 4096 8,dK _ g 25 7 33554432 128]
def V2 (opc f g) (q:0<=opc) (u:opc<128) (f0:0<=f) (f1:f<8) (h:0<=g) (j:g<64):je opc f g 67108864=opc+f*4096+g*67108864:=by
 unfold je;rw[dK opc f 12 3 4096 8,dK _ g 26 6 67108864 64]
def Hq (opc g) (q:0<=opc) (u:opc<128) (h:0<=g) (j:g<4096):je opc 0 g 1048576=opc+g*1048576:=by
 unfold je;rw[Int.zero_mul,oq _ (by omega) (by omega),dK _ g 20 12 1048576 4096]
def fX (kd:Nat):Int:=if kd=82\/kd=87 then 4261441663 else if kd=72 then 4227887231 else if kd=85\/kd=74 then 127 else if kd=78 then 4294967295 else 28799
def dL (kd:Nat):Nat:=if kd=82\/kd=87 then 25 else if kd=72 then 26 else if kd=78 then 20 else 0
def jC (k:Nat) (w:Int):Bool:=decide ((row k).opc=eO w 127)&&decide (eO w (fX (row k).kind)=je (row k).opc (row k).f (row k).g (2^dL (row k).kind))
def lc:∀k,k<64->(¬((row k).kind=82\/(row k).kind=87\/(row k).kind=72\/(row k).kind=78)->(row k).g=0)/\(((row k).kind=85\/(row k).kind=74\/(row k).kind=78)->(row k).f=0):=by decide
def Bz (n):aD n 6 0=n%128:=by simp[aD,fE]
def nx (n):aD n 11 7=n/128%32:=by simp[aD,fE]
def o5 (n):aD n 19 15=n/32768%32:=by simp[aD,fE]
def rZ (n):aD n 24 20=n/1048576%32:=by simp[aD,fE]
def yb (n):aD n 31 20=n/1048576%4096:=by simp[aD,fE]
def F5 (n):aD n 25 20=n/1048576%64:=by simp[aD,fE]
def Et (n):aD n 31 25=n/33554432%128:=by simp[aD,fE]
def vm (n):aD n 11 0=n%4096:=by simp[aD,fE]
def AA (n):aD n 4 0=n%32:=by simp[aD,fE]
def FE (n):aD n 11 5=n/32%128:=by simp[aD,fE]
def Ee (n):aD n 12 12=n/4096%2:=by simp[aD,fE]
def Fj (n):aD n 10 5=n/32%64:=by simp[aD,fE]
def GW (n):aD n 4 1=n/2%16:=by simp[aD,fE]
def uH (n):aD n 11 11=n/2048%2:=by simp[aD,fE]
def Fz (n):aD n 19 0=n%1048576:=by simp[aD,fE]
def v6 (n):aD n 20 20=n/1048576%2:=by simp[aD,fE]
def Fq (n):aD n 10 1=n/2%1024:=by simp[aD,fE]
def uJ (n):aD n 19 12=n/4096%256:=by simp[aD,fE]
def xG (n):aD n 31 31=n/2147483648%2:=by simp[aD,fE]
def GR (n):aD n 7 7=n/128%2:=by simp[aD,fE]
def Ep (n):aD n 30 25=n/33554432%64:=by simp[aD,fE]
def FR (n):aD n 11 8=n/256%16:=by simp[aD,fE]
def Eb (n):aD n 31 12=n/4096%1048576:=by simp[aD,fE]
def Ey (n):aD n 30 21=n/2097152%1024:=by simp[aD,fE]
def Hz (n):aD n 5 0=n%64:=by simp[aD,fE]
def lD (x):(2048<=x/\bG x 12=x-4096)\/(x<2048/\bG x 12=x):=by
 by_cases h:2048<=x
 .left;exact ⟨h,by unfold bG;rw[if_pos (by simpa[cB] using h)];simp[cB]⟩
 right;exact ⟨by omega,by unfold bG;rw[if_neg (by simpa[cB] using h)]⟩
def wA (x):(4096<=x/\bG x 13=x-8192)\/(x<4096/\bG x 13=x):=by
 by_cases h:4096<=x
 .left;exact ⟨h,by unfold bG;rw[if_pos (by simpa[cB] using h)];simp[cB]⟩
 right;exact ⟨by omega,by unfold bG;rw[if_neg (by simpa[cB] using h)]⟩
def wD (x):(524288<=x/\bG x 20=x-1048576)\/(x<524288/\bG x 20=x):=by
 by_cases h:524288<=x
 .left;exact ⟨h,by unfold bG;rw[if_pos (by simpa[cB] using h)];simp[cB]⟩
 right;exact ⟨by omega,by unfold bG;rw[if_neg (by simpa[cB] using h)]⟩
def wH (x):(1048576<=x/\bG x 21=x-2097152)\/(x<1048576/\bG x 21=x):=by
 by_cases h:1048576<=x
 .left;exact ⟨h,by unfold bG;rw[if_pos (by simpa[cB] using h)];simp[cB]⟩
 right;exact ⟨by omega,by unfold bG;rw[if_neg (by simpa[cB] using h)]⟩
def mS {I:aE} (j:cH k w=I) (h:bB I=(W,0)):gL w k=(decide (aD w 6 0=(row k).opc)&&decide (W=w)):=by
 unfold gL;rw[j,h];simp[Bool.beq_eq_decide_eq]
def mJ {p q r s:Prop} [Decidable p] [Decidable q] [Decidable r] [Decidable s] (h:(p/\q)↔(r/\s)):(decide p&&decide q)=(decide r&&decide s):=by
 rw[<-Bool.decide_and,<-Bool.decide_and];exact decide_eq_decide.2 h
def Ww {a b:Int} (j:0<=a/\a<=127) (q:0<=b/\b<=31) (h:(2048<=a*32+b/\x=a*32+b-4096)\/(a*32+b<2048/\x=a*32+b)):x/32%128=a/\x%32=b:=by omega
def Xj {a b c d:Int} (j:0<=a/\a<=1) (q:0<=b/\b<=1) (c0:0<=c/\c<=63) (d0:0<=d/\d<=15) (h:(4096<=a*4096+b*2048+c*32+d*2/\x=a*4096+b*2048+c*32+d*2-8192)\/(a*4096+b*2048+c*32+d*2<4096/\x=a*4096+b*2048+c*32+d*2)):
    x/4096%2=a/\x/32%64=c/\x/2%16=d/\x/2048%2=b:=⟨by omega,by omega,by omega,by omega⟩
def WC {a b c d:Int} (j:0<=a/\a<=1) (q:0<=b/\b<=255) (c0:0<=c/\c<=1) (d0:0<=d/\d<=1023) (h:(1048576<=a*1048576+b*4096+c*2048+d*2/\x=a*1048576+b*4096+c*2048+d*2-2097152)\/(a*1048576+b*4096+c*2048+d*2<1048576/\x=a*1048576+b*4096+c*2048+d*2)):
    x/1048576%2=a/\x/2%1024=d/\x/2048%2=c/\x/4096%256=b:=⟨by omega,by omega,by omega,by omega⟩
def P7 (w) (k) (j:k<64) (h:(row k).kind=82):right ⟨k+1,aD w 11 7,aD w 19 15,aD w 24 20,0⟩=true:=by
 rw[dJ _ _ _ _ _ j,h];have:=ma w;have:=pC w;have:=qB w;simp[has,cK,bU,cW];omega
def QD (w) (k) (j:k<64) (h:(row k).kind=73):right ⟨k+1,aD w 11 7,aD w 19 15,0,bG (aD w 31 20) 12⟩=true:=by
 rw[dJ _ _ _ _ _ j,h];have:=ma w;have:=pC w;have:=qO w;have q:=lD (aD w 31 20);generalize hx:bG (aD w 31 20) 12=x at *;simp[has,cK,bU,cW];omega
def Of (w) (k) (j:k<64) (h:(row k).kind=76):right ⟨k+1,aD w 11 7,aD w 19 15,0,bG (aD w 31 20) 12⟩=true:=by
 rw[dJ _ _ _ _ _ j,h];have:=ma w;have:=pC w;have:=qO w;have q:=lD (aD w 31 20);generalize hx:bG (aD w 31 20) 12=x at *;simp[has,cK,bU,cW];omega
def Qj (w) (k) (j:k<64) (h:(row k).kind=72):right ⟨k+1,aD w 11 7,aD w 19 15,0,aD w 25 20⟩=true:=by
 rw[dJ _ _ _ _ _ j,h];have:=ma w;have:=pC w;have:=yQ w;simp[has,cK,bU,cW];omega
def PW (w) (k) (j:k<64) (h:(row k).kind=87):right ⟨k+1,aD w 11 7,aD w 19 15,0,aD w 24 20⟩=true:=by
 rw[dJ _ _ _ _ _ j,h];have:=ma w;have:=pC w;have:=qB w;simp[has,cK,bU,cW];omega
def Q1 (w) (k) (j:k<64) (h:(row k).kind=83):right ⟨k+1,0,aD w 19 15,aD w 24 20,bG (aD w 31 25*32+aD w 11 7) 12⟩=true:=by
 rw[dJ _ _ _ _ _ j,h];have:=ma w;have:=pC w;have:=qB w;have:=uQ w;have q:=lD (aD w 31 25*32+aD w 11 7);generalize hx:bG (aD w 31 25*32+aD w 11 7) 12=x at *;simp[has,cK,bU,cW];omega
def Pu (w) (k) (j:k<64) (h:(row k).kind=66):right ⟨k+1,0,aD w 19 15,aD w 24 20,bG (aD w 31 31*4096+aD w 7 7*2048+aD w 30 25*32+aD w 11 8*2) 13⟩=true:=by
 rw[dJ _ _ _ _ _ j,h];have:=wy w;have:=vl w;have:=pC w;have:=qB w;have:=uX w;have:=om w;have u:=wA (aD w 31 31*4096+aD w 7 7*2048+aD w 30 25*32+aD w 11 8*2);generalize hx:bG (aD w 31 31*4096+aD w 7 7*2048+aD w 30 25*32+aD w 11 8*2) 13=x at *;have q:x.tmod 2=0:=by rw[Int.tmod_eq_emod];split<;>omega
 simp[has,cK,bU,cW,q];omega
def OR (w) (k) (j:k<64) (h:(row k).kind=85):right ⟨k+1,aD w 11 7,0,0,bG (aD w 31 12) 20⟩=true:=by
 rw[dJ _ _ _ _ _ j,h];have:=ma w;have:=yL w;have q:=wD (aD w 31 12);generalize hx:bG (aD w 31 12) 20=x at *;simp[has,cK,bU,cW];omega
def Ps (w) (k) (j:k<64) (h:(row k).kind=74):right ⟨k+1,aD w 11 7,0,0,bG (aD w 31 31*1048576+aD w 19 12*4096+aD w 20 20*2048+aD w 30 21*2) 21⟩=true:=by
 rw[dJ _ _ _ _ _ j,h];have:=ma w;have:=qE w;have:=qG w;have:=vb w;have:=om w;have u:=wH (aD w 31 31*1048576+aD w 19 12*4096+aD w 20 20*2048+aD w 30 21*2);generalize hx:bG (aD w 31 31*1048576+aD w 19 12*4096+aD w 20 20*2048+aD w 30 21*2) 21=x at *;have q:x.tmod 2=0:=by rw[Int.tmod_eq_emod];split<;>omega
 simp[has,cK,bU,cW,q];omega
def QT (q:Int) (k:Nat) (j:k<64) (h:(row k).kind=78):right ⟨k+1,0,0,0,0⟩=true:=by
 rw[dJ _ _ _ _ _ j,h];simp[has,cK,cW]
def sI (w) (k) (j:k<64) (y:0<=w) (A:w<4294967296):jC k w=gL w k:=by
 have G:=kc k j;have u:=lc k j;unfold jC;rcases kinds k j with h|h|h|h|h|h|h|h|h|h
 all_goals
  rw[h]at u
  first
  | (rw[mS (zq k w h) (ky (P7 w k j h)),wo _ _ _ _ _ h];apply mJ;rw[h,show fX 82=4261441663 from rfl,show dL 82=25 from rfl,mX,CI w y A,show (2:Int)^25=33554432 from rfl];rw[GY _ _ _ (by omega) (by omega) (by omega) (by omega) (by omega) (by omega)])
  | (rw[mS (yK k w h) (ky (QD w k j h)),wh _ _ _ _ _ h];apply mJ;have v:=lD (aD w 31 20);generalize hx:bG (aD w 31 20) 12=x at *;rw[vm x];rw[h,show fX 73=28799 from rfl,show dL 73=0 from rfl,mX,qR w y A,show (2:Int)^0=1 from rfl];(have q:(row k).g=0:=u.1 (by decide));rw[q];rw[rh _ _ (by omega) (by omega) (by omega) (by omega)])
  | (rw[mS (yz k w h) (ky (Of w k j h)),ws _ _ _ _ _ h];apply mJ;have v:=lD (aD w 31 20);generalize hx:bG (aD w 31 20) 12=x at *;rw[vm x];rw[h,show fX 76=28799 from rfl,show dL 76=0 from rfl,mX,qR w y A,show (2:Int)^0=1 from rfl];(have q:(row k).g=0:=u.1 (by decide));rw[q];rw[rh _ _ (by omega) (by omega) (by omega) (by omega)])
  | (rw[mS (zu k w h) (ky (Qj w k j h)),vR _ _ _ _ _ h];apply mJ;rw[h,show fX 72=4227887231 from rfl,show dL 72=26 from rfl,mX,Ng w y A,show (2:Int)^26=67108864 from rfl];rw[V2 _ _ _ (by omega) (by omega) (by omega) (by omega) (by omega) (by omega)])
  | (rw[mS (yW k w h) (ky (PW w k j h)),vN _ _ _ _ _ h];apply mJ;rw[h,show fX 87=4261441663 from rfl,show dL 87=25 from rfl,mX,CI w y A,show (2:Int)^25=33554432 from rfl];rw[GY _ _ _ (by omega) (by omega) (by omega) (by omega) (by omega) (by omega)])
  | (rw[mS (yN k w h) (ky (Q1 w k j h)),vO _ _ _ _ _ h];apply mJ;have v:=lD (aD w 31 25*32+aD w 11 7);generalize hx:bG (aD w 31 25*32+aD w 11 7) 12=x at *;obtain ⟨C,D⟩:=Ww (uQ w) (ma w) v;rw[FE x,AA x];rw[C,D];clear C D v hx;rw[h,show fX 83=28799 from rfl,show dL 83=0 from rfl,mX,qR w y A,show (2:Int)^0=1 from rfl];(have q:(row k).g=0:=u.1 (by decide));rw[q];rw[rh _ _ (by omega) (by omega) (by omega) (by omega)])
  | (rw[mS (yY k w h) (ky (Pu w k j h)),vP _ _ _ _ _ h];apply mJ;have v:=wA (aD w 31 31*4096+aD w 7 7*2048+aD w 30 25*32+aD w 11 8*2);generalize hx:bG (aD w 31 31*4096+aD w 7 7*2048+aD w 30 25*32+aD w 11 8*2) 13=x at *;obtain ⟨C,D,E,F⟩:=Xj (om w) (wy w) (uX w) (vl w) v;rw[Ee x,Fj x,GW x,uH x];rw[C,D,E,F];clear C D E F v hx;rw[h,show fX 66=28799 from rfl,show dL 66=0 from rfl,mX,qR w y A,show (2:Int)^0=1 from rfl];(have q:(row k).g=0:=u.1 (by decide));rw[q];rw[rh _ _ (by omega) (by omega) (by omega) (by omega)])
  | (rw[mS (zA k w h) (ky (OR w k j h)),vS _ _ _ _ _ h];apply mJ;have v:=wD (aD w 31 12);generalize hx:bG (aD w 31 12) 20=x at *;rw[Fz x];rw[h,show fX 85=127 from rfl,show dL 85=0 from rfl,mX,show (2:Int)^0=1 from rfl];(have q:(row k).g=0:=u.1 (by decide));rw[q];(have f0:(row k).f=0:=u.2 (by decide));rw[f0];rw[rh _ _ (by omega) (by omega) (by omega) (by omega)])
  | (rw[mS (zC k w h) (ky (Ps w k j h)),vQ _ _ _ _ _ h];apply mJ;have v:=wH (aD w 31 31*1048576+aD w 19 12*4096+aD w 20 20*2048+aD w 30 21*2);generalize hx:bG (aD w 31 31*1048576+aD w 19 12*4096+aD w 20 20*2048+aD w 30 21*2) 21=x at *;obtain ⟨C,D,E,F⟩:=WC (om w) (qE w) (qG w) (vb w) v;rw[v6 x,Fq x,uH x,uJ x];rw[C,D,E,F];clear C D E F v hx;rw[h,show fX 74=127 from rfl,show dL 74=0 from rfl,mX,show (2:Int)^0=1 from rfl];(have q:(row k).g=0:=u.1 (by decide));rw[q];(have f0:(row k).f=0:=u.2 (by decide));rw[f0];rw[rh _ _ (by omega) (by omega) (by omega) (by omega)])
  | (rw[mS (yX k w h) (ky (QT w k j h)),ww _ _ _ _ _ h];apply mJ;rw[h,show fX 78=4294967295 from rfl,show dL 78=20 from rfl,mX,VI w y A,show (2:Int)^20=1048576 from rfl];(have f0:(row k).f=0:=u.2 (by decide));rw[f0];rw[Hq _ _ (by omega) (by omega) (by omega) (by omega)])
  simp only[Bz,GR,nx,FR,uJ,o5,v6,rZ,F5,Ey,Ep,Eb,yb,Et,xG]at *;generalize (row k).opc=o at *;generalize (row k).f=f at *;generalize (row k).g=g at *;clear u h;omega
def bZ (kd:Nat):List (Int×Int×Int):=
 if kd=73\/kd=76 then [(0,12,20)] else if kd=72 then [(0,6,20)] else if kd=87 then [(0,5,20)] else if kd=83 then [(5,7,25),(0,5,7)]
 else if kd=66 then [(12,1,31),(5,6,25),(1,4,8),(11,1,7)] else if kd=85 then [(0,20,12)] else if kd=74 then [(20,1,31),(1,10,21),(11,1,20),(12,8,12)] else []
def j9 (n:Int) (ps:List (Int×Int×Int)) (a:Int):Int:=ps.foldl (λ a p=>aT a (aD n (p.1+p.2.1-1) p.1*2^p.2.2.toNat)) a
def gH (w:Int) (ps:List (Int×Int×Int)) (a:Int):Int:=ps.foldl (λ a p=>aT a (aD w (p.2.2+p.2.1-1) p.2.2*2^p.1.toNat)) a
def dZ (kd:Nat):Int:=if kd=73\/kd=76\/kd=83 then -2048 else if kd=66 then -4096 else if kd=85 then -524288 else if kd=74 then -1048576 else 0
def most (kd:Nat):Int:=if kd=73\/kd=76\/kd=83 then 2047 else if kd=72 then 63 else if kd=87 then 31 else if kd=66 then 4094 else if kd=85 then 524287 else if kd=74 then 1048574 else 0
def jH (kd:Nat):Bool:=decide (kd=66\/kd=74)
def Rh (n):0<=aD n 5 0/\aD n 5 0<=63:=by rw[Hz];omega
def SY {rd:Int} (w:k<64) (E:right ⟨k+1,rd,rs1,rs2,imm⟩=true):
    aT (aT (je (row k).opc (row k).f (row k).g (2^dL (row k).kind)) (oL rd rs1 rs2)) (j9 imm (bZ (row k).kind) 0)=dS k rd rs1 rs2 imm:=by
 obtain ⟨⟨d0,d1⟩,⟨Q,s1⟩,⟨t0,t1⟩,O,P⟩:=o6 w E;have N:=kc k w;have q:=lc k w;have J:=E;rw[dJ _ _ _ _ _ w]at J;rcases kinds k w with h|h|h|h|h|h|h|h|h|h
 all_goals
  rw[h]at q J;simp[has,cK,bU,cW]at J
  first
  | (rw[wo _ _ _ _ _ h,h,show dL 82=25 from rfl,show (2:Int)^25=33554432 from rfl];rw[show j9 imm (bZ 82) 0=0 from rfl];rw[Gq (row k).opc (row k).f (row k).g rd rs1 rs2 (by omega) (by omega) (by omega) (by omega) (by omega) (by omega) (by omega) (by omega) (by omega) (by omega) (by omega) (by omega)];rw[oq _ (by omega) (by omega)])
  | (rw[wh _ _ _ _ _ h,h,show dL 73=0 from rfl,show (2:Int)^0=1 from rfl];rw[show j9 imm (bZ 73) 0=aT (0) (aD imm 11 0*1048576) from rfl];have v:=yU imm;(have j:(row k).g=0:=q.1 (by decide));rw[j];rw[qS (row k).opc (row k).f rd rs1 rs2 (by omega) (by omega) (by omega) (by omega) (by omega) (by omega) (by omega) (by omega) (by omega) (by omega)];rw[tj _ _ (by omega) (by omega)];rw[dK _ (aD imm 11 0) 20 12 1048576 4096])
  | (rw[ws _ _ _ _ _ h,h,show dL 76=0 from rfl,show (2:Int)^0=1 from rfl];rw[show j9 imm (bZ 76) 0=aT (0) (aD imm 11 0*1048576) from rfl];have v:=yU imm;(have j:(row k).g=0:=q.1 (by decide));rw[j];rw[qS (row k).opc (row k).f rd rs1 rs2 (by omega) (by omega) (by omega) (by omega) (by omega) (by omega) (by omega) (by omega) (by omega) (by omega)];rw[tj _ _ (by omega) (by omega)];rw[dK _ (aD imm 11 0) 20 12 1048576 4096])
  | (rw[vR _ _ _ _ _ h,h,show dL 72=26 from rfl,show (2:Int)^26=67108864 from rfl];have hi:=Cz w E h;rw[show j9 imm (bZ 72) 0=aT (0) (aD imm 5 0*1048576) from rfl];have L:=Rh imm;rw[RG (row k).opc (row k).f (row k).g rd rs1 rs2 (by omega) (by omega) (by omega) (by omega) (by omega) (by omega) (by omega) (by omega) (by omega) (by omega) (by omega) (by omega)];rw[tj _ _ (by omega) (by omega)];rw[dK _ (aD imm 5 0) 20 6 1048576 64];rw[Hz]at *)
  | (rw[vN _ _ _ _ _ h,h,show dL 87=25 from rfl,show (2:Int)^25=33554432 from rfl];have hi:=CB w E h;rw[show j9 imm (bZ 87) 0=aT (0) (aD imm 4 0*1048576) from rfl];have y:=AL imm;rw[Gq (row k).opc (row k).f (row k).g rd rs1 rs2 (by omega) (by omega) (by omega) (by omega) (by omega) (by omega) (by omega) (by omega) (by omega) (by omega) (by omega) (by omega)];rw[tj _ _ (by omega) (by omega)];rw[dK _ (aD imm 4 0) 20 5 1048576 32];rw[AA]at *)
  | (rw[vO _ _ _ _ _ h,h,show dL 83=0 from rfl,show (2:Int)^0=1 from rfl];rw[show j9 imm (bZ 83) 0=aT (aT (0) (aD imm 11 5*33554432)) (aD imm 4 0*128) from rfl];have H:=Gi imm;have y:=AL imm;(have j:(row k).g=0:=q.1 (by decide));rw[j];rw[qS (row k).opc (row k).f rd rs1 rs2 (by omega) (by omega) (by omega) (by omega) (by omega) (by omega) (by omega) (by omega) (by omega) (by omega)];rw[TG _ _ _ (by omega) (by omega) (by omega) (by omega) (by omega) (by omega)];rw[dK _ (aD imm 11 5) 25 7 33554432 128];rw[dK _ (aD imm 4 0) 7 5 128 32])
  | (rw[vP _ _ _ _ _ h,h,show dL 66=0 from rfl,show (2:Int)^0=1 from rfl];rw[show j9 imm (bZ 66) 0=aT (aT (aT (aT (0) (aD imm 12 12*2147483648)) (aD imm 10 5*33554432)) (aD imm 4 1*256)) (aD imm 11 11*128) from rfl];have A:=F4 imm;have G:=FG imm;have K:=GO imm;have u:=ye imm;(have j:(row k).g=0:=q.1 (by decide));rw[j];rw[qS (row k).opc (row k).f rd rs1 rs2 (by omega) (by omega) (by omega) (by omega) (by omega) (by omega) (by omega) (by omega) (by omega) (by omega)];rw[H3 _ _ _ _ _ (by omega) (by omega) (by omega) (by omega) (by omega) (by omega) (by omega) (by omega) (by omega) (by omega)];rw[dK _ (aD imm 12 12) 31 1 2147483648 2];rw[dK _ (aD imm 10 5) 25 6 33554432 64];rw[dK _ (aD imm 4 1) 8 4 256 16];rw[dK _ (aD imm 11 11) 7 1 128 2])
  | (rw[vS _ _ _ _ _ h,h,show dL 85=0 from rfl,show (2:Int)^0=1 from rfl];rw[show j9 imm (bZ 85) 0=aT (0) (aD imm 19 0*4096) from rfl];have I:=FM imm;(have j:(row k).g=0:=q.1 (by decide));rw[j];(have f0:(row k).f=0:=q.2 (by decide));rw[f0];rw[qS (row k).opc 0 rd rs1 rs2 (by omega) (by omega) (by omega) (by omega) (by omega) (by omega) (by omega) (by omega) (by omega) (by omega)];rw[tj _ _ (by omega) (by omega)];rw[dK _ (aD imm 19 0) 12 20 4096 1048576])
  | (rw[vQ _ _ _ _ _ h,h,show dL 74=0 from rfl,show (2:Int)^0=1 from rfl];rw[show j9 imm (bZ 74) 0=aT (aT (aT (aT (0) (aD imm 20 20*2147483648)) (aD imm 10 1*2097152)) (aD imm 11 11*1048576)) (aD imm 19 12*4096) from rfl];have D:=qG imm;have F:=FH imm;have u:=ye imm;have C:=qE imm;(have j:(row k).g=0:=q.1 (by decide));rw[j];(have f0:(row k).f=0:=q.2 (by decide));rw[f0];rw[qS (row k).opc 0 rd rs1 rs2 (by omega) (by omega) (by omega) (by omega) (by omega) (by omega) (by omega) (by omega) (by omega) (by omega)];rw[H3 _ _ _ _ _ (by omega) (by omega) (by omega) (by omega) (by omega) (by omega) (by omega) (by omega) (by omega) (by omega)];rw[dK _ (aD imm 20 20) 31 1 2147483648 2];rw[dK _ (aD imm 10 1) 21 10 2097152 1024];rw[dK _ (aD imm 11 11) 20 1 1048576 2];rw[dK _ (aD imm 19 12) 12 8 4096 256])
  | (rw[ww _ _ _ _ _ h,h,show dL 78=20 from rfl,show (2:Int)^20=1048576 from rfl];rw[show j9 imm (bZ 78) 0=0 from rfl];(have f0:(row k).f=0:=q.2 (by decide));rw[f0];(have M:rd=0/\rs1=0/\rs2=0:=by omega);obtain ⟨rfl,rfl,rfl⟩:=M;rw[show oL 0 0 0=0 from by unfold oL;simp only[Int.zero_mul];rw[oq 0 (by decide) (by decide),oq 0 (by decide) (by decide)],Hq _ _ (by omega) (by omega) (by omega) (by omega)];rw[oq ((row k).opc+(row k).g*1048576) (by omega) (by omega)];rw[oq ((row k).opc+(row k).g*1048576) (by omega) (by omega)])
  omega
def wZ (kd:Nat) (w:Int):Int:=if most kd<gH w (bZ kd) 0 then gH w (bZ kd) 0+2*dZ kd else gH w (bZ kd) 0
def Ru (w) (k) (L:k<64):0<=gH w (bZ (row k).kind) 0/\gH w (bZ (row k).kind) 0<=2097152/\wZ (row k).kind w=fL (row k).kind w:=by
 rcases kinds k L with h|h|h|h|h|h|h|h|h|h
 all_goals
  rw[h];unfold wZ
 .have e:gH w (bZ 82) 0=0:=rfl
  rw[e];exact ⟨by decide,by decide,rfl⟩
 .have e:gH w (bZ 73) 0=aT (0) (aD w 31 20*1):=rfl
  have q:=qO w;have j:fL 73 w=bG (aD w 31 20) 12:=by simp[fL]
  have v:=lD (aD w 31 20);rw[j,show most 73=2047 from rfl,show dZ 73=-2048 from rfl,e,m7 _ (by omega) (by omega)]
  refine ⟨by omega,by omega,?_⟩
  split<;>omega
 .have e:gH w (bZ 76) 0=aT (0) (aD w 31 20*1):=rfl
  have q:=qO w;have j:fL 76 w=bG (aD w 31 20) 12:=by simp[fL]
  have v:=lD (aD w 31 20);rw[j,show most 76=2047 from rfl,show dZ 76=-2048 from rfl,e,m7 _ (by omega) (by omega)]
  refine ⟨by omega,by omega,?_⟩
  split<;>omega
 .have e:gH w (bZ 72) 0=aT (0) (aD w 25 20*1):=rfl
  have D:=yQ w;have j:fL 72 w=aD w 25 20:=by simp[fL]
  rw[j,show most 72=63 from rfl,show dZ 72=0 from rfl,e,m7 _ (by omega) (by omega)]
  refine ⟨by omega,by omega,?_⟩
  split<;>omega
 .have e:gH w (bZ 87) 0=aT (0) (aD w 24 20*1):=rfl
  have C:=qB w;have j:fL 87 w=aD w 24 20:=by simp[fL]
  rw[j,show most 87=31 from rfl,show dZ 87=0 from rfl,e,m7 _ (by omega) (by omega)]
  refine ⟨by omega,by omega,?_⟩
  split<;>omega
 .have e:gH w (bZ 83) 0=aT (aT (0) (aD w 31 25*32)) (aD w 11 7*1):=rfl
  have H:=uQ w;have I:=ma w;have j:fL 83 w=bG (aD w 31 25*32+aD w 11 7) 12:=by simp[fL]
  have v:=lD (aD w 31 25*32+aD w 11 7);rw[j,show most 83=2047 from rfl,show dZ 83=-2048 from rfl,e,m7 _ (by omega) (by omega)]
  rw[dK _ (aD w 11 7) 0 5 1 32];refine ⟨by omega,by omega,?_⟩
  split<;>omega
 .have e:gH w (bZ 66) 0=aT (aT (aT (aT (0) (aD w 31 31*4096)) (aD w 30 25*32)) (aD w 11 8*2)) (aD w 7 7*2048):=rfl
  have u:=om w;have F:=uX w;have J:=vl w;have K:=wy w;have j:fL 66 w=bG (aD w 31 31*4096+aD w 7 7*2048+aD w 30 25*32+aD w 11 8*2) 13:=by simp[fL]
  have v:=wA (aD w 31 31*4096+aD w 7 7*2048+aD w 30 25*32+aD w 11 8*2);rw[j,show most 66=4094 from rfl,show dZ 66=-4096 from rfl,e,m7 _ (by omega) (by omega)]
  rw[dK _ (aD w 30 25) 5 6 32 64];rw[dK _ (aD w 11 8) 1 4 2 16];rw[dK _ (aD w 7 7) 11 1 2048 2];refine ⟨by omega,by omega,?_⟩
  split<;>omega
 .have e:gH w (bZ 85) 0=aT (0) (aD w 31 12*1):=rfl
  have G:=yL w;have j:fL 85 w=bG (aD w 31 12) 20:=by simp[fL]
  have v:=wD (aD w 31 12);rw[j,show most 85=524287 from rfl,show dZ 85=-524288 from rfl,e,m7 _ (by omega) (by omega)]
  refine ⟨by omega,by omega,?_⟩
  split<;>omega
 .have e:gH w (bZ 74) 0=aT (aT (aT (aT (0) (aD w 31 31*1048576)) (aD w 30 21*2)) (aD w 20 20*2048)) (aD w 19 12*4096):=rfl
  have u:=om w;have E:=vb w;have A:=qG w;have y:=qE w;have j:fL 74 w=bG (aD w 31 31*1048576+aD w 19 12*4096+aD w 20 20*2048+aD w 30 21*2) 21:=by simp[fL]
  have v:=wH (aD w 31 31*1048576+aD w 19 12*4096+aD w 20 20*2048+aD w 30 21*2);rw[j,show most 74=1048574 from rfl,show dZ 74=-1048576 from rfl,e,m7 _ (by omega) (by omega)]
  rw[dK _ (aD w 30 21) 1 10 2 1024];rw[dK _ (aD w 20 20) 11 1 2048 2];rw[dK _ (aD w 19 12) 12 8 4096 256];refine ⟨by omega,by omega,?_⟩
  split<;>omega
 have e:gH w (bZ 78) 0=0:=rfl;rw[e];exact ⟨by decide,by decide,rfl⟩
def vj (x):-9223372036854775808<=IntKind.i64.wrap x/\IntKind.i64.wrap x<9223372036854775808:=by
 rw[IntKind.wrap_i64];omega
def Rx (x):-2147483648<=IntKind.i32.wrap x/\IntKind.i32.wrap x<2147483648:=by
 rw[IntKind.wrap_i32];omega
def lE (x):IntKind.u64.wrap x=x%18446744073709551616:=by rw[IntKind.wrap_u64]
def lQ (a b:Int):Int:=if b=0 then -1 else IntKind.i64.wrap (a.tdiv b)
def ms (a b:Int):Int:=if b=0 then a else a.tmod b
def lI (a b:Int):Int:=if b=0 then -1 else IntKind.i64.wrap ((a%18446744073709551616)/(b%18446744073709551616))
def lJ (a b:Int):Int:=if b=0 then a else IntKind.i64.wrap ((a%18446744073709551616)%(b%18446744073709551616))
def ID (b) (j:-9223372036854775808<=b) (q:b<9223372036854775808) (h:b≠0):0<b%18446744073709551616:=by omega
def mw (a b:Int):Int:=IntKind.i64.wrap ((a%18446744073709551616)*(b%18446744073709551616)/18446744073709551616)
def bP (x:Int):Int:=IntKind.i32.wrap x
def TL (x):-2147483648<=bP x/\bP x<2147483648:=Rx x
def Tr (a b):aT a b=IntKind.i64.wrap (((a%18446744073709551616).toNat ||| (b%18446744073709551616).toNat:Nat):Int):=by
 show IntKind.i64.wrap (((BitVec.ofInt 64 a ||| BitVec.ofInt 64 b).toNat:Nat):Int)=_;rw[BitVec.toNat_or,BitVec.toNat_ofInt,BitVec.toNat_ofInt];rfl
def E6 (a b):eO a b=IntKind.i64.wrap (((a%18446744073709551616).toNat &&& (b%18446744073709551616).toNat:Nat):Int):=by
 show IntKind.i64.wrap (((BitVec.ofInt 64 a &&& BitVec.ofInt 64 b).toNat:Nat):Int)=_;rw[BitVec.toNat_and,BitVec.toNat_ofInt,BitVec.toNat_ofInt];rfl
def aP:List UInt8->Int
 | []=>0
 | b::r=>b.toNat+256*aP r
def kM (l):0<=aP l/\aP l<2^(8*l.length):=by
 induction l with
 | nil=>simp[aP]
 | cons b r ih=>
  have:=b.toNat_lt
  have e:(2:Int)^(8*(r.length+1))=256*2^(8*r.length):=by
   rw[show 8*(r.length+1)=8*r.length+8 from by omega,Int.pow_add];simp;omega
  simp only[aP,List.length_cons,e];generalize (2:Int)^(8*r.length)=p at *;omega
def MU (l) (b):aP (l++[b])=aP l+b.toNat*2^(8*l.length):=by
 induction l with
 | nil=>simp[aP]
 | cons c r ih=>
  have e:(2:Int)^(8*(r.length+1))=256*2^(8*r.length):=by
   rw[show 8*(r.length+1)=8*r.length+8 from by omega,Int.pow_add];simp;omega
  simp only[aP,List.cons_append,List.length_cons,e,ih];generalize (2:Int)^(8*r.length)=p;have:(b.toNat:Int)*(256*p)=256*(b.toNat*p):=by rw[<-Int.mul_assoc,Int.mul_comm _ 256,Int.mul_assoc]
  omega
def PU (x v) (k) (H:k<=7) (F:0<=x) (G:x<2^(8*k)) (j:0<=v) (K:v<256):
    aT (IntKind.i64.wrap x) (IntKind.i64.wrap (v*2^(8*k)))=IntKind.i64.wrap (x+v*2^(8*k)):=by
 have I:(2:Int)^(8*k)<=2^56:=gU (by omega)
 have D:=pow_pos (8*k);have C:(2:Int)^56=72057594037927936:=by decide
 have J:v*2^(8*k)<=255*2^(8*k):=Int.mul_le_mul_of_nonneg_right (by omega) (by omega)
 have E:0<=v*2^(8*k):=Int.mul_nonneg j (by omega)
 rw[Tr];congr 1;have u:(IntKind.i64.wrap x)%18446744073709551616=x:=by rw[IntKind.wrap_i64];omega
 have w:(IntKind.i64.wrap (v*2^(8*k)))%18446744073709551616=v*2^(8*k):=by
  generalize v*2^(8*k)=y at *;rw[IntKind.wrap_i64];omega
 rw[u,w];obtain ⟨q,rfl⟩:=Int.eq_ofNat_of_zero_le F;obtain ⟨h,rfl⟩:=Int.eq_ofNat_of_zero_le j;have hx:q<2^(8*k):=by exact_mod_cast G
 have A:((h:Int)*2^(8*k)).toNat=h*2^(8*k):=by
  have:(h:Int)*2^(8*k)=((h*2^(8*k):Nat):Int):=by simp
  rw[this];rfl
 rw[A,Int.toNat_natCast];rw[Eh q h (8*k) 8 (by omega) (by rw[Nat.div_eq_of_lt hx])]
 simp
def bR:Nat->Int->List UInt8
 | 0,_=>[]
 | n+1,x=>UInt8.ofNat (x%256).toNat::bR n (x/256)
def kw (n) (x):(bR n x).length=n:=by
 induction n generalizing x with
 | zero=>rfl
 | succ n ih=>simp[bR,ih]
def FQ (x):((UInt8.ofNat (x%256).toNat).toNat:Int)=x%256:=by
 rw[UInt8.toNat_ofNat'];have:(x%256).toNat%2^8=(x%256).toNat:=Nat.mod_eq_of_lt (by omega)
 rw[this];omega
def tZ (n) (x):bR (n+1) x=bR n x++[UInt8.ofNat (x/256^n%256).toNat]:=by
 induction n generalizing x with
 | zero=>simp[bR]
 | succ n ih=>
  rw[bR,ih,bR,List.cons_append]
  have:x/256/256^n=x/256^(n+1):=by
   (rw[Int.ediv_ediv_of_nonneg (by decide)]);congr 1;rw[Int.pow_succ,Int.mul_comm]
  rw[this]
def fN (kd:Nat):Int:=if kd=82 then 0 else if kd=73 then 1 else if kd=72 then 2 else if kd=87 then 3 else if kd=76 then 4 else if kd=83 then 5 else if kd=66 then 6 else if kd=85 then 7 else if kd=74 then 8 else 9
def bO (k:Nat):List Value:=[.int .i64 (k+1),.string ⟨(row k).name.toArray⟩,.int .i64 (fN (row k).kind),.int .i64 (row k).opc,.int .i64 (row k).f,.int .i64 (row k).g]
def gX:List Value:=[.int .i64 0,.string ⟨#[]⟩,.int .i64 0,.int .i64 0,.int .i64 0,.int .i64 0]
def dE (k:Nat):Value:=.agg (bO k).toArray
def gV:Value:=.agg gX.toArray
def kT (from' n:Nat):Array Value:=((List.range n).flatMap λ i=>bO (from'+i)).toArray
def J0 (n:Nat):Array Value:=((List.range n).flatMap λ _=>gX).toArray
def nS (op:Int) (k:Nat):Bool:=((k:Int)+1==op)
def gW (nm:ByteArray) (k:Nat):Bool:=((row k).name==nm.toList)
def Px (f n i) (hi:i<n):(kT f n).extract (i*6) (i*6+6)=(bO (f+i)).toArray:=by
 apply Array.ext_getElem?;intro j;rw[Array.getElem?_extract]
 have h:(kT f n).size=n*6:=by
  have:∀m,((List.range m).flatMap λ i=>bO (f+i)).length=m*6:=λ m=>by
   induction m with
   | zero=>rfl
   | succ m ih=>rw[List.range_succ,List.flatMap_append,List.length_append,ih];simp[bO];omega
  simp[kT,this]
 by_cases q:j<6
 .rw[if_pos (by rw[h];omega)]
  unfold kT;rw[List.getElem?_toArray,Nat.mul_comm i 6,jF (λ i=>bO (f+i)) 6 (λ _=>rfl) (List.range n) i j q (by simpa using hi)]
  rw[List.getElem?_range hi];simp
 rw[if_neg (by rw[h];omega)]
 rw[List.getElem?_toArray,List.getElem?_eq_none (by simp[bO];omega)]
def yT (B:Nat) (ps:List (Int×Int×Int)) (sl:Value) (w:World):Prop:=
 ∃ao cap,sl=.slice ao ps.length cap/\(∀j p,ps[j]?=some p->∃b,ao=some ⟨b,0,none⟩/\B<=b/\b<w.heap.size/\ps.length<=cap/\
  w.cell? ⟨b,j*3,none⟩=some (.int .i64 p.1)/\w.cell? ⟨b,j*3+1,none⟩=some (.int .i64 p.2.1)/\w.cell? ⟨b,j*3+2,none⟩=some (.int .i64 p.2.2))
def cT (kd:Nat) (sl:Value):List Value:=
 [.bool (has kd).1,.bool (has kd).2.1,.bool (has kd).2.2,.int .i64 (dZ kd),.int .i64 (most kd),.bool (jH kd),sl,.int .i64 (dL kd),.int .i64 (fX kd)]
def tk (ev:Bool) (lo hi n:Int):Bool:=if ev&&(n.tmod 2 != 0) then false else decide (lo<=n)&&decide (n<=hi)
def takes (kd:Nat) (n:Int):Bool:=tk (jH kd) (dZ kd) (most kd) n
def nG (kd:Nat):Prop:=kd=82\/kd=73\/kd=76\/kd=72\/kd=87\/kd=83\/kd=66\/kd=85\/kd=74\/kd=78
def El (h:nG kd) (n):takes kd n=cW kd n:=by
 have e0:(decide (0<=n)&&decide (n<=0))=(n==0):=by
  rw[<-Bool.decide_and,Bool.beq_eq_decide_eq];exact decide_eq_decide.2 (by omega)
 rcases h with rfl|rfl|rfl|rfl|rfl|rfl|rfl|rfl|rfl|rfl
 all_goals (simp[takes,tk,jH,dZ,most,cW,bU,e0])
 all_goals (by_cases j:n.tmod 2=0<;>simp[j])
def uh (p:Int×Int×Int):List Value:=[.int .i64 p.1,.int .i64 p.2.1,.int .i64 p.2.2]
def CC (B) (w):yT B [] (.slice none 0 0) w:=⟨none,0,rfl,λ j p h=>by simp at h⟩
def od (B:Nat) (u:List (Int×Int×Int)) (w:World) (t:TypeId) (c:Nat) (C:u.length<=c) (A:B<=w.heap.size):yT B u (.slice (some ⟨w.heap.size,0,none⟩) u.length c) (w.alloc (.cells (u.flatMap uh).toArray t)):=by
 refine ⟨_,c,rfl,λ j p h=>?_⟩
 have D:j<u.length:=by
  rcases Nat.lt_or_ge j u.length with y|y
  .exact y
  rw[List.getElem?_eq_none y]at h;cases h
 have v:∀q,q<3->(w.alloc (.cells (u.flatMap uh).toArray t)).cell? ⟨w.heap.size,j*3+q,none⟩=(uh p)[q]?:=λ q E=>by
  have:=jF uh 3 (λ _=>rfl) u j q E D
  rw[h]at this;simp only[Option.bind_some]at this;rw[<-this,Nat.mul_comm 3 j,cell_of_row _ _ _ _ t (0,0) (heap_alloc_last w _),List.getElem?_toArray]
 exact ⟨_,rfl,A,by simp,C,v 0 (by omega),v 1 (by omega),v 2 (by omega)⟩
def My (k:Nat) (h:k<64):(List.range 64).find? (nS ((k:Int)+1))=some k:=
 pp _ _ _ h (λ j q=>by simp[nS];omega) (by simp[nS])
def Ns (op) (h:¬(1<=op/\op<=64)):(List.range 64).find? (nS op)=none:=
 lX _ _ (λ j q=>by simp[nS];omega)
def iH (k) (h:k<64):nG (row k).kind:=kinds k h
def iL (i:aE):Value:=if right i then .tuple #[dE (i.op-1).toNat,.bool true] else .tuple #[gV,.bool false]
def ob {i:aE} (h:right i=false):iL i=.tuple #[gV,.bool false]:=by simp[iL,h]
def qr {rd:Int} (h:right ⟨k+1,rd,rs1,rs2,imm⟩=true):iL ⟨k+1,rd,rs1,rs2,imm⟩=.tuple #[dE k,.bool true]:=by
 unfold iL;have e:((k:Int)+1-1).toNat=k:=by omega
 simp only[h,if_true,e]
def wQ (lo hi A:Int):Int:=if hi<A then A+2*lo else A
def RC (kd) (w):wQ (dZ kd) (most kd) (gH w (bZ kd) 0)=wZ kd w:=rfl
def PB (ps:List (Int×Int×Int)):Prop:=∀p∈ps,0<=p.1/\p.1<=20/\1<=p.2.1/\p.2.1<=20/\0<=p.2.2/\p.2.2<=31
def EJ (h:nG kd):PB (bZ kd):=by
 unfold PB;rcases h with rfl|rfl|rfl|rfl|rfl|rfl|rfl|rfl|rfl|rfl<;>decide
def Cg (kd):(bZ kd).length<=4:=by
 unfold bZ
 repeat' split
 all_goals simp
def Fo (kd):(dL kd:Int)<=40:=by
 unfold dL
 repeat' split
 all_goals simp
def Pd (kd):-1048576<=dZ kd/\dZ kd<=0:=by
 unfold dZ
 repeat' split
 all_goals decide
def CM {α:Type} {l:List α} {p:α} (h:l[j]?=some p):l.take (j+1)=l.take j++[p]:=by
 rw[List.take_add_one,h];rfl
def MA {q:List (Int×Int×Int)} {p:Int×Int×Int} (h:q[j]?=some p):
    j9 n (q.take (j+1)) 0=aT (j9 n (q.take j) 0) (aD n (p.1+p.2.1-1) p.1*2^p.2.2.toNat):=by
 rw[CM h];unfold j9;rw[List.foldl_append];rfl
def Nk {q:List (Int×Int×Int)} {p:Int×Int×Int} (h:q[j]?=some p):
    gH n (q.take (j+1)) 0=aT (gH n (q.take j) 0) (aD n (p.2.2+p.2.1-1) p.2.2*2^p.1.toNat):=by
 rw[CM h];unfold gH;rw[List.foldl_append];rfl
def Fu (n bP width) (q:0<=bP) (w0:1<=width) (u:width<=20):0<=aD n (bP+width-1) bP/\aD n (bP+width-1) bP<=1048576:=by
 have h:=fV n (bP+width-1) bP;have e:(bP+width-1).toNat-bP.toNat+1<=20:=by omega
 have:=gU e;have j:(2:Int)^20=1048576:=by decide
 omega
def Hf (b at':Int) (h:0<=b) (j:b<=1048576) (v:at'<=31):0<=b*2^at'.toNat/\b*2^at'.toNat<=2251799813685248:=by
 have w:=pow_pos at'.toNat;have u:(2:Int)^at'.toNat<=2^31:=gU (by omega)
 have q:(2:Int)^31=2147483648:=by decide
 refine ⟨Int.mul_nonneg h (by omega),?_⟩
 have:=Int.mul_le_mul j u (by omega) (by decide)
 rw[q]at this;omega
def wU (n at':Int) (t:Bool):Int:=if t then aD n (at'+5-1) at' else 0
def C6 (n) (u:0<=n) (v:n<4294967296):(List.range 64).find? (λ k=>jC k n)=(List.range 64).find? (gL n):=by
 cases h:(List.range 64).find? (gL n) with
 | none=>
  rw[List.find?_eq_none]at h ⊢;intro k q;have:=h k q;rw[sI n k (by simpa using q) u v]
  exact this
 | some k=>
  rw[List.find?_range_eq_some]at h ⊢;obtain ⟨y,w,A⟩:=h;have q:k<64:=by simpa using w
  refine ⟨by rw[sI n k q u v];exact y,w,λ j C=>?_⟩
  rw[sI n j (by omega) u v]
  exact A j C
def Pe (q:0<=n) (u:n<4294967296) (h:(List.range 64).find? (λ k=>jC k n)=some k):k<64/\bW n=(cH k n,0):=by
 rw[C6 n q u]at h;have j:=h;rw[List.find?_range_eq_some]at j;refine ⟨by simpa using j.2.1,?_⟩
 unfold bW;rw[if_neg (by omega),h]
def UL (j:0<=n) (q:n<4294967296) (h:(List.range 64).find? (λ k=>jC k n)=none):bW n=(⟨0,0,0,0,0⟩,1):=by
 rw[C6 n j q]at h;unfold bW;rw[if_neg (by omega),h]
