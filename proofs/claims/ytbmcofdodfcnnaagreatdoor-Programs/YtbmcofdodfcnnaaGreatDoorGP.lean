import Derived.WalkKit
import Derived.Laws.BitsLemmas
import Derived.Deep.WholeRow
set_option linter.all false
set_option maxHeartbeats 400000000
set_option maxRecDepth 100000
namespace Pn
theorem a0M {a b:Nat} (h:a<=b):(2:Int)^a<=2^b:=by
 have:=Nat.pow_le_pow_right (n:=2) (by omega) h
 exact_mod_cast this
theorem pow_pos (a:Nat):(0:Int)<2^a:=Int.pow_pos (by omega)
theorem b2t (a:Nat):(2:Int)^(a+1)=2*2^a:=by rw[Int.pow_succ];omega
theorem a7D {a:Nat} (h:a<=62):(2:Int)^a<=4611686018427387904:=a0M h
def bits (n:Int) (hi lo:Nat):Int:=(n/2^lo)%2^(hi-lo+1)
theorem c4f (n:Int) (hi lo:Nat):0<=bits n hi lo:=Int.emod_nonneg _ (by have:=pow_pos (hi-lo+1);omega)
theorem c31 (n:Int) (hi lo:Nat):bits n hi lo<2^(hi-lo+1):=Int.emod_lt_of_pos _ (pow_pos _)
theorem a6X (n:Int) (k:Nat):n/2^(k+1)=(n/2^k)/2:=by
 rw[Int.pow_succ,Int.ediv_ediv_of_nonneg (by have:=pow_pos k;omega)]
theorem b0w (n:Int) (k:Nat) (B:Int) (h0:-B<=n) (h1:n<=B) (hB:0<=B):-B<=n/2^k/\n/2^k<=B:=by
 induction k with
 | zero=>simp;omega
 | succ k ih=>rw[a6X];omega
theorem c07 (n:Int) (h:n<0):(n-1).tdiv 2=n/2:=by
 rw[Int.tdiv_eq_ediv];have:Int.sign 2=1:=rfl;rw[this]
 split<;>omega
theorem c1E (n m:Int) (hm:0<m):(if n.tmod m<0 then n.tmod m+m else n.tmod m)=n%m:=by
 rw[Int.tmod_eq_emod];have h1:=Int.emod_nonneg n (show m≠0 by omega)
 have h2:=Int.emod_lt_of_pos n hm;by_cases h:0<=n\/m ∣ n
 ·simp[h];omega
 ·simp[h];rw[Int.natAbs_of_nonneg (by omega)];split<;>omega
def a2A (i:Int):Int:=2^i.toNat
def a0c (n hi lo:Int):Int:=bits n hi.toNat lo.toNat
theorem a0K (n hi lo:Int):0<=a0c n hi lo/\a0c n hi lo<2^(hi.toNat-lo.toNat+1):=⟨c4f _ _ _,c31 _ _ _⟩
open Go
structure Row where
 name:List UInt8
 kind:Nat
 opc:Int
 f:Int
 g:Int
def c9P:List Row:=[
 ⟨[97,100,100],82,51,0,0⟩,
 ⟨[115,117,98],82,51,0,32⟩,
 ⟨[115,108,108],82,51,1,0⟩,
 ⟨[115,108,116],82,51,2,0⟩,
 ⟨[115,108,116,117],82,51,3,0⟩,
 ⟨[120,111,114],82,51,4,0⟩,
 ⟨[115,114,108],82,51,5,0⟩,
 ⟨[115,114,97],82,51,5,32⟩,
 ⟨[111,114],82,51,6,0⟩,
 ⟨[97,110,100],82,51,7,0⟩,
 ⟨[109,117,108],82,51,0,1⟩,
 ⟨[109,117,108,104],82,51,1,1⟩,
 ⟨[109,117,108,104,115,117],82,51,2,1⟩,
 ⟨[109,117,108,104,117],82,51,3,1⟩,
 ⟨[100,105,118],82,51,4,1⟩,
 ⟨[100,105,118,117],82,51,5,1⟩,
 ⟨[114,101,109],82,51,6,1⟩,
 ⟨[114,101,109,117],82,51,7,1⟩,
 ⟨[97,100,100,119],82,59,0,0⟩,
 ⟨[115,117,98,119],82,59,0,32⟩,
 ⟨[115,108,108,119],82,59,1,0⟩,
 ⟨[115,114,108,119],82,59,5,0⟩,
 ⟨[115,114,97,119],82,59,5,32⟩,
 ⟨[109,117,108,119],82,59,0,1⟩,
 ⟨[100,105,118,119],82,59,4,1⟩,
 ⟨[100,105,118,117,119],82,59,5,1⟩,
 ⟨[114,101,109,119],82,59,6,1⟩,
 ⟨[114,101,109,117,119],82,59,7,1⟩,
 ⟨[97,100,100,105],73,19,0,0⟩,
 ⟨[115,108,116,105],73,19,2,0⟩,
 ⟨[115,108,116,105,117],73,19,3,0⟩,
 ⟨[120,111,114,105],73,19,4,0⟩,
 ⟨[111,114,105],73,19,6,0⟩,
 ⟨[97,110,100,105],73,19,7,0⟩,
 ⟨[115,108,108,105],72,19,1,0⟩,
 ⟨[115,114,108,105],72,19,5,0⟩,
 ⟨[115,114,97,105],72,19,5,16⟩,
 ⟨[97,100,100,105,119],73,27,0,0⟩,
 ⟨[115,108,108,105,119],87,27,1,0⟩,
 ⟨[115,114,108,105,119],87,27,5,0⟩,
 ⟨[115,114,97,105,119],87,27,5,32⟩,
 ⟨[108,98],76,3,0,0⟩,
 ⟨[108,104],76,3,1,0⟩,
 ⟨[108,119],76,3,2,0⟩,
 ⟨[108,100],76,3,3,0⟩,
 ⟨[108,98,117],76,3,4,0⟩,
 ⟨[108,104,117],76,3,5,0⟩,
 ⟨[108,119,117],76,3,6,0⟩,
 ⟨[106,97,108,114],76,103,0,0⟩,
 ⟨[115,98],83,35,0,0⟩,
 ⟨[115,104],83,35,1,0⟩,
 ⟨[115,119],83,35,2,0⟩,
 ⟨[115,100],83,35,3,0⟩,
 ⟨[98,101,113],66,99,0,0⟩,
 ⟨[98,110,101],66,99,1,0⟩,
 ⟨[98,108,116],66,99,4,0⟩,
 ⟨[98,103,101],66,99,5,0⟩,
 ⟨[98,108,116,117],66,99,6,0⟩,
 ⟨[98,103,101,117],66,99,7,0⟩,
 ⟨[108,117,105],85,55,0,0⟩,
 ⟨[97,117,105,112,99],85,23,0,0⟩,
 ⟨[106,97,108],74,111,0,0⟩,
 ⟨[101,99,97,108,108],78,115,0,0⟩,
 ⟨[101,98,114,101,97,107],78,115,0,1⟩]
def a9Z (r:Row):List Value:=[.string ⟨r.name.toArray⟩,.int .u8 r.kind,.int .i64 r.opc,.int .i64 r.f,.int .i64 r.g]
def a5I:Array Value:=(c9P.flatMap a9Z).toArray
theorem b4R:c9P.length=64:=rfl
def row (k:Nat):Row:=c9P.getD k ⟨[],0,0,0,0⟩
theorem a1j {α β:Type} (f:α->List β) (m:Nat) (hf:∀a,(f a).length=m):∀(l:List α) (k j:Nat),j<m->k<l.length->
    (l.flatMap f)[m*k+j]?=(l[k]?.bind fun a=>(f a)[j]?)
 | [],k,j,_,hk=>by simp at hk
 | a::l,0,j,hj,_=>by simp[List.flatMap_cons,List.getElem?_append,hf,hj]
 | a::l,k+1,j,hj,hk=>by
  have:=a1j f m hf l k j hj (by simpa using hk)
  rw[List.flatMap_cons,List.getElem?_append_right (by rw[hf,Nat.mul_succ];omega),hf]
  have e:m*(k+1)+j-m=m*k+j:=by rw[Nat.mul_succ];omega
  rw[e,this];simp
theorem a2a (k j:Nat) (hk:k<64) (hj:j<5):a5I[5*k+j]?=(a9Z (row k))[j]?:=by
 unfold a5I;rw[List.getElem?_toArray,a1j a9Z 5 (fun _=>rfl) c9P k j hj (by rw[b4R];exact hk)]
 have:c9P[k]?=some (row k):=by
  unfold row;rw[List.getD_eq_getElem?_getD,List.getElem?_eq_getElem (by rw[b4R];exact hk)];rfl
 rw[this];rfl
def c3Y (C:Array Value):Prop:=∀k:Nat,k<64->C[k*5]?=some (.string ⟨(row k).name.toArray⟩)/\C[k*5+1]?=some (.int .u8 (row k).kind)/\
 C[k*5+2]?=some (.int .i64 (row k).opc)/\C[k*5+3]?=some (.int .i64 (row k).f)/\C[k*5+4]?=some (.int .i64 (row k).g)
theorem c8D:c3Y a5I:=fun k hk=>by
 rw[Nat.mul_comm k 5];exact ⟨a2a k 0 hk (by omega),a2a k 1 hk (by omega),a2a k 2 hk (by omega),a2a k 3 hk (by omega),a2a k 4 hk (by omega)⟩
def has (k:Nat):Bool×Bool×Bool:=
 if k=82 then (true,true,true) else if k=83\/k=66 then (false,true,true) else if k=85\/k=74 then (true,false,false)
 else if k=78 then (false,false,false) else (true,true,false)
def a0j (n lo hi:Int):Bool:=decide (lo<=n)&&decide (n<=hi)
def a0p (k:Nat) (n:Int):Bool:=
 if k=73\/k=76\/k=83 then a0j n (-2048) 2047 else if k=72 then a0j n 0 63 else if k=87 then a0j n 0 31
 else if k=66 then a0j n (-4096) 4094&&(n.tmod 2==0) else if k=85 then a0j n (-524288) 524287
 else if k=74 then a0j n (-1048576) 1048574&&(n.tmod 2==0) else (n==0)
def a0e (there:Bool) (n:Int):Bool:=if there then a0j n 0 31 else (n==0)
structure Ins where
 op:Int
 rd:Int
 rs1:Int
 rs2:Int
 imm:Int
def Ins.val (i:Ins):Value:=.agg #[.int .i64 i.op,.int .i64 i.rd,.int .i64 i.rs1,.int .i64 i.rs2,.int .i64 i.imm]
def right (i:Ins):Bool:=
 decide (1<=i.op)&&decide (i.op<=64) &&
  (a0e (has (row (i.op-1).toNat).kind).1 i.rd&&a0e (has (row (i.op-1).toNat).kind).2.1 i.rs1
   && a0e (has (row (i.op-1).toNat).kind).2.2 i.rs2&&a0p (row (i.op-1).toNat).kind i.imm)
theorem a0d (k:Nat) (rd rs1 rs2 imm:Int) (hk:k<64):right ⟨k+1,rd,rs1,rs2,imm⟩ =
    (a0e (has (row k).kind).1 rd&&a0e (has (row k).kind).2.1 rs1&&a0e (has (row k).kind).2.2 rs2&&a0p (row k).kind imm):=by
 unfold right;have e:((k:Int)+1-1).toNat=k:=by omega
 simp only[e];rw[decide_eq_true (by omega),decide_eq_true (by omega)]
 rfl
theorem a1C (i:Ins) (h:¬(1<=i.op/\i.op<=64)):right i=false:=by
 unfold right;by_cases h1:1<=i.op
 ·rw[decide_eq_false (p:=i.op<=64) (by omega)];simp
 ·rw[decide_eq_false h1];rfl
theorem c8x {a b c d:Bool} (ha:a=true) (hb:b=true) (hc:c=true):(a&&b&&c&&d)=d:=by subst ha hb hc;rfl
theorem c69 {a b c d:Bool} (ha:a=true) (hb:b=true) (hc:¬c=true):(a&&b&&c&&d)=false:=by cases c;(subst ha hb;rfl);exact absurd rfl hc
theorem c7X {a b c d:Bool} (ha:a=true) (hb:¬b=true):(a&&b&&c&&d)=false:=by cases b;(subst ha;rfl);exact absurd rfl hb
theorem c7y {a b c d:Bool} (ha:¬a=true):(a&&b&&c&&d)=false:=by cases a;rfl;exact absurd rfl ha
def a2E (k:Nat) (rd rs1 rs2:Int):Int:=(row k).opc+rd*128+rs1*32768+rs2*1048576
def a9u (k:Nat) (rd rs1 rs2:Int):Int:=if (row k).kind≠85/\(row k).kind≠74 then a2E k rd rs1 rs2+(row k).f*4096 else a2E k rd rs1 rs2
def a2M (k:Nat) (rd rs1 rs2 n:Int):Int:=
 if (row k).kind=82 then a9u k rd rs1 rs2+(row k).g*33554432
 else if (row k).kind=73\/(row k).kind=76 then a9u k rd rs1 rs2+a0c n 11 0*1048576
 else if (row k).kind=72 then a9u k rd rs1 rs2+n*1048576+(row k).g*67108864
 else if (row k).kind=87 then a9u k rd rs1 rs2+n*1048576+(row k).g*33554432
 else if (row k).kind=83 then a9u k rd rs1 rs2+a0c n 11 5*33554432+a0c n 4 0*128
 else if (row k).kind=66 then a9u k rd rs1 rs2+a0c n 12 12*2147483648+a0c n 10 5*33554432+a0c n 4 1*256+a0c n 11 11*128
 else if (row k).kind=85 then a9u k rd rs1 rs2+a0c n 19 0*4096
 else if (row k).kind=74 then a9u k rd rs1 rs2+a0c n 20 20*2147483648+a0c n 10 1*2097152+a0c n 11 11*1048576+a0c n 19 12*4096
 else if (row k).kind=78 then a9u k rd rs1 rs2+(row k).g*1048576
 else a9u k rd rs1 rs2
theorem a0Z:∀k,k<64->(0<=(row k).opc/\(row k).opc<=127/\0<=(row k).f/\(row k).f<=7/\0<=(row k).g/\(row k).g<=32/\(row k).kind<256):=by decide
theorem kinds:∀k,k<64->((row k).kind=82\/(row k).kind=73\/(row k).kind=76\/(row k).kind=72\/(row k).kind=87\/(row k).kind=83\/(row k).kind=66\/(row k).kind=85\/(row k).kind=74\/(row k).kind=78):=by decide
theorem b4s (k:Nat) (rd rs1 rs2 n:Int) (h:(row k).kind=82):a2M k rd rs1 rs2 n=(row k).opc+rd*128+rs1*32768+rs2*1048576+(row k).f*4096+(row k).g*33554432:=by
 simp[a2M,a9u,a2E,h]
theorem b44 (k:Nat) (rd rs1 rs2 n:Int) (h:(row k).kind=73):a2M k rd rs1 rs2 n=(row k).opc+rd*128+rs1*32768+rs2*1048576+(row k).f*4096+a0c n 11 0*1048576:=by
 simp[a2M,a9u,a2E,h]
theorem b4y (k:Nat) (rd rs1 rs2 n:Int) (h:(row k).kind=76):a2M k rd rs1 rs2 n=(row k).opc+rd*128+rs1*32768+rs2*1048576+(row k).f*4096+a0c n 11 0*1048576:=by
 simp[a2M,a9u,a2E,h]
theorem b4o (k:Nat) (rd rs1 rs2 n:Int) (h:(row k).kind=72):a2M k rd rs1 rs2 n=(row k).opc+rd*128+rs1*32768+rs2*1048576+(row k).f*4096+n*1048576+(row k).g*67108864:=by
 simp[a2M,a9u,a2E,h]
theorem b4A (k:Nat) (rd rs1 rs2 n:Int) (h:(row k).kind=87):a2M k rd rs1 rs2 n=(row k).opc+rd*128+rs1*32768+rs2*1048576+(row k).f*4096+n*1048576+(row k).g*33554432:=by
 simp[a2M,a9u,a2E,h]
theorem b33 (k:Nat) (rd rs1 rs2 n:Int) (h:(row k).kind=83):a2M k rd rs1 rs2 n=(row k).opc+rd*128+rs1*32768+rs2*1048576+(row k).f*4096+a0c n 11 5*33554432+a0c n 4 0*128:=by
 simp[a2M,a9u,a2E,h]
theorem b4i (k:Nat) (rd rs1 rs2 n:Int) (h:(row k).kind=66):a2M k rd rs1 rs2 n=(row k).opc+rd*128+rs1*32768+rs2*1048576+(row k).f*4096+a0c n 12 12*2147483648+a0c n 10 5*33554432+a0c n 4 1*256+a0c n 11 11*128:=by
 simp[a2M,a9u,a2E,h]
theorem b4D (k:Nat) (rd rs1 rs2 n:Int) (h:(row k).kind=85):a2M k rd rs1 rs2 n=(row k).opc+rd*128+rs1*32768+rs2*1048576+a0c n 19 0*4096:=by
 simp[a2M,a9u,a2E,h]
theorem b4r (k:Nat) (rd rs1 rs2 n:Int) (h:(row k).kind=74):a2M k rd rs1 rs2 n=(row k).opc+rd*128+rs1*32768+rs2*1048576+a0c n 20 20*2147483648+a0c n 10 1*2097152+a0c n 11 11*1048576+a0c n 19 12*4096:=by
 simp[a2M,a9u,a2E,h]
theorem b45 (k:Nat) (rd rs1 rs2 n:Int) (h:(row k).kind=78):a2M k rd rs1 rs2 n=(row k).opc+rd*128+rs1*32768+rs2*1048576+(row k).f*4096+(row k).g*1048576:=by
 simp[a2M,a9u,a2E,h]
theorem b0o (n:Int):0<=a0c n 11 0/\a0c n 11 0<=4095:=by
 have:=a0K n 11 0;exact ⟨this.1,by have h:=this.2;simp at h;omega⟩
theorem b9I (n:Int):0<=a0c n 11 5/\a0c n 11 5<=127:=by
 have:=a0K n 11 5;exact ⟨this.1,by have h:=this.2;simp at h;omega⟩
theorem b74 (n:Int):0<=a0c n 4 0/\a0c n 4 0<=31:=by
 have:=a0K n 4 0;exact ⟨this.1,by have h:=this.2;simp at h;omega⟩
theorem b3R (n:Int):0<=a0c n 12 12/\a0c n 12 12<=1:=by
 have:=a0K n 12 12;exact ⟨this.1,by have h:=this.2;simp at h;omega⟩
theorem b7S (n:Int):0<=a0c n 10 5/\a0c n 10 5<=63:=by
 have:=a0K n 10 5;exact ⟨this.1,by have h:=this.2;simp at h;omega⟩
theorem c2K (n:Int):0<=a0c n 4 1/\a0c n 4 1<=15:=by
 have:=a0K n 4 1;exact ⟨this.1,by have h:=this.2;simp at h;omega⟩
theorem a7C (n:Int):0<=a0c n 11 11/\a0c n 11 11<=1:=by
 have:=a0K n 11 11;exact ⟨this.1,by have h:=this.2;simp at h;omega⟩
theorem b6V (n:Int):0<=a0c n 19 0/\a0c n 19 0<=1048575:=by
 have:=a0K n 19 0;exact ⟨this.1,by have h:=this.2;simp at h;omega⟩
theorem a43 (n:Int):0<=a0c n 20 20/\a0c n 20 20<=1:=by
 have:=a0K n 20 20;exact ⟨this.1,by have h:=this.2;simp at h;omega⟩
theorem b7a (n:Int):0<=a0c n 10 1/\a0c n 10 1<=1023:=by
 have:=a0K n 10 1;exact ⟨this.1,by have h:=this.2;simp at h;omega⟩
theorem a5g (n:Int):0<=a0c n 19 12/\a0c n 19 12<=255:=by
 have:=a0K n 19 12;exact ⟨this.1,by have h:=this.2;simp at h;omega⟩
theorem b1s {k:Nat} {rd rs1 rs2 imm:Int} (hk:k<64) (h:right ⟨k+1,rd,rs1,rs2,imm⟩=true):a0p (row k).kind imm=true:=by
 rw[a0d _ _ _ _ _ hk]at h;simp at h;exact h.2
theorem a9D {k:Nat} {rd rs1 rs2 imm:Int} (hk:k<64) (h:right ⟨k+1,rd,rs1,rs2,imm⟩=true) (hd:(row k).kind=72):0<=imm/\imm<=63:=by
 have:=b1s hk h;rw[hd]at this;simpa[a0p,a0j] using this
theorem a9E {k:Nat} {rd rs1 rs2 imm:Int} (hk:k<64) (h:right ⟨k+1,rd,rs1,rs2,imm⟩=true) (hd:(row k).kind=87):0<=imm/\imm<=31:=by
 have:=b1s hk h;rw[hd]at this;simpa[a0p,a0j] using this
theorem b9w {t:Bool} {n:Int} (h:a0e t n=true):0<=n/\n<=31:=by
 cases t
 ·simp[a0e]at h;omega
 ·simpa[a0e,a0j] using h
theorem c3L {k:Nat} {n:Int} (h:a0p k n=true):-1048576<=n/\n<=1048576:=by
 unfold a0p at h
 repeat' split at h
 all_goals (simp[a0j]at h;omega)
theorem a1k {k:Nat} {rd rs1 rs2 imm:Int} (hk:k<64) (h:right ⟨k+1,rd,rs1,rs2,imm⟩=true):
    (0<=rd/\rd<=31)/\(0<=rs1/\rs1<=31)/\(0<=rs2/\rs2<=31)/\(-1048576<=imm/\imm<=1048576):=by
 rw[a0d _ _ _ _ _ hk]at h;simp at h;obtain ⟨⟨⟨h1,h2⟩,h3⟩,h4⟩:=h;exact ⟨b9w h1,b9w h2,b9w h3,c3L h4⟩
def enc (i:Ins):Int×Int:=if right i then (a2M (i.op-1).toNat i.rd i.rs1 i.rs2 i.imm,0) else (0,1)
theorem b3q {i:Ins} (h:right i=false):enc i=(0,1):=by unfold enc;simp[h]
theorem a19 {k:Nat} {rd rs1 rs2 imm:Int} (h:right ⟨k+1,rd,rs1,rs2,imm⟩=true):enc ⟨k+1,rd,rs1,rs2,imm⟩=(a2M k rd rs1 rs2 imm,0):=by
 unfold enc;have e:((k:Int)+1-1).toNat=k:=by omega
 simp only[h,if_true,e]
def a0E (n size:Int):Int:=if a2A (size-1)<=n then n-a2A size else n
def a0H (kd:Nat) (w:Int):Int:=
 if kd=73\/kd=76 then a0E (a0c w 31 20) 12 else if kd=72 then a0c w 25 20 else if kd=87 then a0c w 24 20
 else if kd=83 then a0E (a0c w 31 25*32+a0c w 11 7) 12
 else if kd=66 then a0E (a0c w 31 31*4096+a0c w 7 7*2048+a0c w 30 25*32+a0c w 11 8*2) 13
 else if kd=85 then a0E (a0c w 31 12) 20
 else if kd=74 then a0E (a0c w 31 31*1048576+a0c w 19 12*4096+a0c w 20 20*2048+a0c w 30 21*2) 21 else 0
def a0w (k:Nat) (w:Int):Ins:=
 ⟨k+1,if (has (row k).kind).1 then a0c w 11 7 else 0,if (has (row k).kind).2.1 then a0c w 19 15 else 0,if (has (row k).kind).2.2 then a0c w 24 20 else 0,a0H (row k).kind w⟩
def a0R (w:Int) (k:Nat):Bool:=(a0c w 6 0==(row k).opc)&&((enc (a0w k w)).2==0)&&((enc (a0w k w)).1==w)
def dec (w:Int):Ins×Int:=
 if w<0\/4294967296<=w then (⟨0,0,0,0,0⟩,1)
 else match (List.range 64).find? (a0R w) with
  | some k=>(a0w k w,0)
  | none=>(⟨0,0,0,0,0⟩,1)
theorem a2u (p:Nat->Bool) (n k:Nat) (hk:k<n) (h:∀j,j<k->p j=false) (hp:p k=true):(List.range n).find? p=some k:=by
 rw[List.find?_range_eq_some];exact ⟨hp,by simpa using hk,fun j hj=>by simp[h j hj]⟩
theorem a1I (p:Nat->Bool) (n:Nat) (h:∀j,j<n->p j=false):(List.range n).find? p=none:=by
 rw[List.find?_eq_none];intro x hx;simp at hx;simp[h x hx]
theorem b9F {w:Int} {k:Nat} (h0:0<=w) (h1:w<4294967296) (hk:k<64) (h:∀j,j<k->a0R w j=false) (hp:a0R w k=true):dec w=(a0w k w,0):=by
 unfold dec;rw[if_neg (by omega),a2u _ _ _ hk h hp]
theorem c0a {w:Int} (h0:0<=w) (h1:w<4294967296) (h:∀j,j<64->a0R w j=false):dec w=(⟨0,0,0,0,0⟩,1):=by
 unfold dec;rw[if_neg (by omega),a1I _ _ h]
theorem b79 {w:Int} (h:w<0\/4294967296<=w):dec w=(⟨0,0,0,0,0⟩,1):=by unfold dec;rw[if_pos h]
theorem b4T (n:Int):0<=a0c n 7 7/\a0c n 7 7<=1:=by
 have:=a0K n 7 7;exact ⟨this.1,by have h:=this.2;simp at h;omega⟩
theorem a26 (n:Int):0<=a0c n 11 7/\a0c n 11 7<=31:=by
 have:=a0K n 11 7;exact ⟨this.1,by have h:=this.2;simp at h;omega⟩
theorem a9T (n:Int):0<=a0c n 11 8/\a0c n 11 8<=15:=by
 have:=a0K n 11 8;exact ⟨this.1,by have h:=this.2;simp at h;omega⟩
theorem a39 (n:Int):0<=a0c n 19 15/\a0c n 19 15<=31:=by
 have:=a0K n 19 15;exact ⟨this.1,by have h:=this.2;simp at h;omega⟩
theorem a5e (n:Int):0<=a0c n 24 20/\a0c n 24 20<=31:=by
 have:=a0K n 24 20;exact ⟨this.1,by have h:=this.2;simp at h;omega⟩
theorem b0L (n:Int):0<=a0c n 25 20/\a0c n 25 20<=63:=by
 have:=a0K n 25 20;exact ⟨this.1,by have h:=this.2;simp at h;omega⟩
theorem a7r (n:Int):0<=a0c n 30 21/\a0c n 30 21<=1023:=by
 have:=a0K n 30 21;exact ⟨this.1,by have h:=this.2;simp at h;omega⟩
theorem a7E (n:Int):0<=a0c n 30 25/\a0c n 30 25<=63:=by
 have:=a0K n 30 25;exact ⟨this.1,by have h:=this.2;simp at h;omega⟩
theorem b0p (n:Int):0<=a0c n 31 12/\a0c n 31 12<=1048575:=by
 have:=a0K n 31 12;exact ⟨this.1,by have h:=this.2;simp at h;omega⟩
theorem a5i (n:Int):0<=a0c n 31 20/\a0c n 31 20<=4095:=by
 have:=a0K n 31 20;exact ⟨this.1,by have h:=this.2;simp at h;omega⟩
theorem a7n (n:Int):0<=a0c n 31 25/\a0c n 31 25<=127:=by
 have:=a0K n 31 25;exact ⟨this.1,by have h:=this.2;simp at h;omega⟩
theorem a3q (n:Int):0<=a0c n 31 31/\a0c n 31 31<=1:=by
 have:=a0K n 31 31;exact ⟨this.1,by have h:=this.2;simp at h;omega⟩
theorem b8K {n:Int} {k:Nat} (h:(a0c n 6 0 != (row k).opc)=true):a0R n k=false:=by
 have:(a0c n 6 0==(row k).opc)=false:=by simpa using h
 simp[a0R,this]
theorem b6r {n:Int} {k:Nat} {I:Ins} {E:Int×Int} (h:(a0c n 6 0 != (row k).opc)=false) (hI:a0w k n=I) (hE:enc I=E) (q2:(E.2==0)=true) (q1:(E.1==n)=true):a0R n k=true:=by
 have:(a0c n 6 0==(row k).opc)=true:=by simpa using h
 simp only[a0R,this,hI,hE,q1,q2,Bool.and_self]
theorem b2s {n:Int} {k:Nat} {I:Ins} {E:Int×Int} (hI:a0w k n=I) (hE:enc I=E) (q:(E.2==0)=false\/(E.1==n)=false):a0R n k=false:=by
 simp only[a0R,hI,hE];rcases q with q|q
 ·simp[q]
 ·simp[q]
theorem b3z {n:Int} {k:Nat} (h:∀j,j<k->a0R n j=false) (hk:a0R n k=false):∀j,j<k+1->a0R n j=false:=fun j hj=>by
 by_cases e:j=k
 ·rw[e];exact hk
 ·exact h j (by omega)
theorem b0h (k:Nat) (n:Int) (h:(row k).kind=82):a0w k n=⟨k+1,a0c n 11 7,a0c n 19 15,a0c n 24 20,0⟩:=by
 simp[a0w,h,has,a0H]
theorem b0a (k:Nat) (n:Int) (h:(row k).kind=73):a0w k n=⟨k+1,a0c n 11 7,a0c n 19 15,0,a0E (a0c n 31 20) 12⟩:=by
 simp[a0w,h,has,a0H]
theorem b0W (k:Nat) (n:Int) (h:(row k).kind=76):a0w k n=⟨k+1,a0c n 11 7,a0c n 19 15,0,a0E (a0c n 31 20) 12⟩:=by
 simp[a0w,h,has,a0H]
theorem b0N (k:Nat) (n:Int) (h:(row k).kind=72):a0w k n=⟨k+1,a0c n 11 7,a0c n 19 15,0,a0c n 25 20⟩:=by
 simp[a0w,h,has,a0H]
theorem b0K (k:Nat) (n:Int) (h:(row k).kind=87):a0w k n=⟨k+1,a0c n 11 7,a0c n 19 15,0,a0c n 24 20⟩:=by
 simp[a0w,h,has,a0H]
theorem b0y (k:Nat) (n:Int) (h:(row k).kind=83):a0w k n=⟨k+1,0,a0c n 19 15,a0c n 24 20,a0E (a0c n 31 25*32+a0c n 11 7) 12⟩:=by
 simp[a0w,h,has,a0H]
theorem b0v (k:Nat) (n:Int) (h:(row k).kind=66):a0w k n=⟨k+1,0,a0c n 19 15,a0c n 24 20,a0E (a0c n 31 31*4096+a0c n 7 7*2048+a0c n 30 25*32+a0c n 11 8*2) 13⟩:=by
 simp[a0w,h,has,a0H]
theorem b0F (k:Nat) (n:Int) (h:(row k).kind=85):a0w k n=⟨k+1,a0c n 11 7,0,0,a0E (a0c n 31 12) 20⟩:=by
 simp[a0w,h,has,a0H]
theorem b0r (k:Nat) (n:Int) (h:(row k).kind=74):a0w k n=⟨k+1,a0c n 11 7,0,0,a0E (a0c n 31 31*1048576+a0c n 19 12*4096+a0c n 20 20*2048+a0c n 30 21*2) 21⟩:=by
 simp[a0w,h,has,a0H]
theorem b0n (k:Nat) (n:Int) (h:(row k).kind=78):a0w k n=⟨k+1,0,0,0,0⟩:=by
 simp[a0w,h,has,a0H]
def orz (a b:Int):Int:=Go.bits .or .i64 a b
def a5E (a b:Int):Int:=Go.bits .and .i64 a b
theorem a5Y (n:Int) (h₀:0<=n) (h₁:n<2^62):IntKind.i64.wrap n=n:=by rw[IntKind.wrap_i64];omega
theorem a4c (a b:Nat) (ha:a<2^62) (hb:b<2^62):orz a b=((a ||| b:Nat):Int):=(bits_nat .i64 62 (by decide) a5Y a b ha hb).2
theorem a7L (a b:Nat) (ha:a<2^62) (hb:b<2^62):a5E a b=((a &&& b:Nat):Int):=(bits_nat .i64 62 (by decide) a5Y a b ha hb).1
theorem a8I (x:Int) (i:Nat) (hi:i<=60):a5E x (2^i-1)=x%2^i:=by
 unfold a5E;have hpos:0<2^i:=Nat.two_pow_pos i;have hc:((2:Int)^i-1)=((2^i-1:Nat):Int):=by rw[Int.natCast_sub hpos];simp
 have hle:2^i<=2^60:=Nat.pow_le_pow_right (by decide) hi
 have hm:(2^i-1)%2^IntKind.i64.bits=2^i-1:=Nat.mod_eq_of_lt (Nat.lt_of_lt_of_le (Nat.sub_lt hpos (by decide)) (Nat.le_trans hle (by decide)))
 rw[hc];simp only[Go.bits,BitVec.ofInt_natCast,BitVec.toNat_and,BitVec.toNat_ofNat,hm];rw[Nat.and_two_pow_sub_one_eq_mod,a5Y _ (Int.natCast_nonneg _) ?_]
 ·rw[BitVec.toNat_ofInt]
  show (((x%((2^64:Nat):Int)).toNat%2^i:Nat):Int)=_
  have e:(((x%((2^64:Nat):Int)).toNat%2^i:Nat):Int)=(x%((2^64:Nat):Int))%2^i:=by
   rw[Int.natCast_emod,Int.toNat_of_nonneg (Int.emod_nonneg _ (by decide))];simp
  rw[e]
  have d:((2:Int)^i) ∣ ((2^64:Nat):Int):=by
   (have:=Nat.pow_dvd_pow 2 (show i<=64 by omega));have h2:=Int.natCast_dvd_natCast.2 this;simpa using h2
  exact Int.emod_emod_of_dvd _ d
 ·have h1:(BitVec.ofInt IntKind.i64.bits x).toNat%2^i<2^i:=Nat.mod_lt _ hpos
  have:(BitVec.ofInt IntKind.i64.bits x).toNat%2^i<2^62:=Nat.lt_of_lt_of_le h1 (Nat.le_trans hle (by decide))
  exact_mod_cast this
theorem b2u (i a b A B:Nat) (ha:a<2^i) (hb:b<2^i):(a+2^i*A) ||| (b+2^i*B)=(a ||| b)+2^i*(A ||| B):=by
 apply Nat.eq_of_testBit_eq;intro j;rw[Nat.testBit_or,Nat.add_comm a,Nat.add_comm b,Nat.add_comm (a ||| b),Nat.testBit_two_pow_mul_add _ ha,Nat.testBit_two_pow_mul_add _ hb,Nat.testBit_two_pow_mul_add _ (Nat.or_lt_two_pow ha hb)]
 split
 ·rw[Nat.testBit_or]
 ·rw[Nat.testBit_or]
theorem b5C (i a b A B:Nat) (ha:a<2^i) (hb:b<2^i):(a+2^i*A) &&& (b+2^i*B)=(a &&& b)+2^i*(A &&& B):=by
 apply Nat.eq_of_testBit_eq;intro j;rw[Nat.testBit_and,Nat.add_comm a,Nat.add_comm b,Nat.add_comm (a &&& b),Nat.testBit_two_pow_mul_add _ ha,Nat.testBit_two_pow_mul_add _ hb,Nat.testBit_two_pow_mul_add _ (Nat.and_lt_two_pow _ hb)]
 split
 ·rw[Nat.testBit_and]
 ·rw[Nat.testBit_and]
theorem b31 (a v i w:Nat) (hv:v<2^w) (ha:a/2^i%2^w=0):a ||| v*2^i=a+v*2^i:=by
 have e1:a=a%2^i+2^i*(a/2^i):=(Nat.mod_add_div a (2^i)).symm
 have e2:a/2^i=0+2^w*(a/2^i/2^w):=by
  have:=Nat.mod_add_div (a/2^i) (2^w);omega
 have e3:v*2^i=0+2^i*(v+2^w*0):=by rw[Nat.mul_comm];simp
 have p1:0<2^i:=Nat.two_pow_pos i;have p2:0<2^w:=Nat.two_pow_pos w
 have key:(a%2^i+2^i*(0+2^w*(a/2^i/2^w))) ||| (0+2^i*(v+2^w*0))=a%2^i+2^i*(v+2^w*(a/2^i/2^w)):=by
  rw[b2u i _ _ _ _ (Nat.mod_lt _ p1) p1,b2u w _ _ _ _ p2 hv];simp
 rw[<-e3,<-e2,<-e1]at key;rw[key,Nat.mul_add,Nat.mul_comm v]
 have:a=a%2^i+2^i*(2^w*(a/2^i/2^w)):=by
  have e2':2^w*(a/2^i/2^w)=a/2^i:=by omega
  rw[e2'];exact e1
 omega
theorem a0h (a v:Int) (i w:Nat) (p q:Int) (hp:p=2^i:=by rfl) (hq:q=2^w:=by rfl) (hiw:i+w<=60:=by decide) (a0:0<=a:=by omega) (a1:a<4611686018427387904:=by omega) (v0:0<=v:=by omega) (v1:v<q:=by omega) (h:a/p%q=0:=by omega):orz a (v*p)=a+v*p:=by
 subst hp hq;obtain ⟨a,rfl⟩:=Int.eq_ofNat_of_zero_le a0;obtain ⟨v,rfl⟩:=Int.eq_ofNat_of_zero_le v0;have h':a/2^i%2^w=0:=by exact_mod_cast h
 have v1':v<2^w:=by exact_mod_cast v1
 have e:((v:Int)*2^i)=((v*2^i:Nat):Int):=by simp
 have hv:v*2^i<2^62:=by
  have h1:v*2^i<2^w*2^i:=Nat.mul_lt_mul_of_pos_right v1' (Nat.two_pow_pos i);rw[<-Nat.pow_add]at h1;exact Nat.lt_of_lt_of_le h1 (Nat.pow_le_pow_right (by decide) (by omega))
 rw[e,a4c _ _ (by omega) hv,b31 a v i w v1' h']
 simp
theorem a2y (a b c:Int) (a0:0<=a) (a1:a<4611686018427387904) (b0:0<=b) (b1:b<4611686018427387904) (c0:0<=c) (c1:c<4611686018427387904):orz a (orz b c)=orz (orz a b) c:=by
 obtain ⟨a,rfl⟩:=Int.eq_ofNat_of_zero_le a0;obtain ⟨b,rfl⟩:=Int.eq_ofNat_of_zero_le b0;obtain ⟨c,rfl⟩:=Int.eq_ofNat_of_zero_le c0;have a':a<2^62:=by omega
 have b':b<2^62:=by omega
 have c':c<2^62:=by omega
 rw[a4c b c b' c',a4c a b a' b',a4c _ _ a' (Nat.or_lt_two_pow b' c'),a4c _ _ (Nat.or_lt_two_pow a' b') c',Nat.or_assoc]
theorem b8M (a b:Int) (j:Nat) (hj:j<=62) (a0:0<=a) (a1:a<2^j) (b0:0<=b) (b1:b<2^j):0<=orz a b/\orz a b<2^j:=by
 obtain ⟨a,rfl⟩:=Int.eq_ofNat_of_zero_le a0;obtain ⟨b,rfl⟩:=Int.eq_ofNat_of_zero_le b0;have a':a<2^j:=by exact_mod_cast a1
 have b':b<2^j:=by exact_mod_cast b1
 have hle:2^j<=2^62:=Nat.pow_le_pow_right (by decide) hj
 rw[a4c a b (by omega) (by omega)]
 have:=Nat.or_lt_two_pow a' b';exact ⟨by omega,by exact_mod_cast this⟩
theorem a7m (a b:Int) (a0:0<=a) (a1:a<4611686018427387904) (b0:0<=b) (b1:b<4611686018427387904):0<=orz a b/\orz a b<4611686018427387904:=b8M a b 62 (by decide) a0 a1 b0 b1
theorem a3k (a:Int) (a0:0<=a) (a1:a<4611686018427387904):orz a 0=a:=by
 obtain ⟨a,rfl⟩:=Int.eq_ofNat_of_zero_le a0;have:=a4c a 0 (by omega) (by decide)
 simpa using this
theorem a2c (a:Int) (a0:0<=a) (a1:a<4611686018427387904):orz 0 a=a:=by
 obtain ⟨a,rfl⟩:=Int.eq_ofNat_of_zero_le a0;have:=a4c 0 a (by decide) (by omega)
 simpa using this
theorem a2X (a b:Int) (i:Nat) (p:Int) (hp:p=2^i) (a0:0<=a) (a1:a<4611686018427387904) (b0:0<=b) (b1:b<4611686018427387904):a5E a b=a5E (a%p) (b%p)+p*a5E (a/p) (b/p):=by
 subst hp;obtain ⟨a,rfl⟩:=Int.eq_ofNat_of_zero_le a0;obtain ⟨b,rfl⟩:=Int.eq_ofNat_of_zero_le b0;have a':a<2^62:=by omega
 have b':b<2^62:=by omega
 have p1:0<2^i:=Nat.two_pow_pos i;have key:=b5C i (a%2^i) (b%2^i) (a/2^i) (b/2^i) (Nat.mod_lt _ p1) (Nat.mod_lt _ p1);rw[Nat.mod_add_div,Nat.mod_add_div]at key;have e1:((a:Int)%2^i)=((a%2^i:Nat):Int):=by simp
 have e2:((b:Int)%2^i)=((b%2^i:Nat):Int):=by simp
 have e3:((a:Int)/2^i)=((a/2^i:Nat):Int):=by simp
 have e4:((b:Int)/2^i)=((b/2^i:Nat):Int):=by simp
 rw[e1,e2,e3,e4,a7L a b a' b',a7L _ _ (Nat.lt_of_le_of_lt (Nat.mod_le _ _) a') (Nat.lt_of_le_of_lt (Nat.mod_le _ _) b'),
  a7L _ _ (Nat.lt_of_le_of_lt (Nat.div_le_self _ _) a') (Nat.lt_of_le_of_lt (Nat.div_le_self _ _) b'),key]
 simp
theorem a74 (a:Int) (a0:0<=a) (a1:a<4611686018427387904):a5E a 0=0:=by
 obtain ⟨a,rfl⟩:=Int.eq_ofNat_of_zero_le a0;have:=a7L a 0 (by omega) (by decide)
 simpa using this
theorem c61 (a b c d:Int) (a0:0<=a) (a1:a<4611686018427387904) (b0:0<=b) (b1:b<4611686018427387904) (c0:0<=c) (c1:c<4611686018427387904) (d0:0<=d) (d1:d<4611686018427387904):
    orz a (orz (orz b c) d)=orz (orz (orz a b) c) d:=by
 have h:=a7m b c b0 b1 c0 c1;rw[a2y a _ d a0 a1 h.1 h.2 d0 d1,a2y a b c a0 a1 b0 b1 c0 c1]
theorem b2f (a b:Int) (b0:0<=b) (b1:b<4611686018427387904):orz a (orz 0 b)=orz a b:=by rw[a2c b b0 b1]
theorem c5B (a b c:Int) (a0:0<=a) (a1:a<4611686018427387904) (b0:0<=b) (b1:b<4611686018427387904) (c0:0<=c) (c1:c<4611686018427387904):
    orz a (orz (orz 0 b) c)=orz (orz a b) c:=by
 rw[a2c b b0 b1,a2y a b c a0 a1 b0 b1 c0 c1]
theorem c26 (a b c d e:Int) (a0:0<=a) (a1:a<4611686018427387904) (b0:0<=b) (b1:b<4611686018427387904) (c0:0<=c) (c1:c<4611686018427387904) (d0:0<=d) (d1:d<4611686018427387904) (e0:0<=e) (e1:e<4611686018427387904):
    orz a (orz (orz (orz (orz 0 b) c) d) e)=orz (orz (orz (orz a b) c) d) e:=by
 have h:=a7m b c b0 b1 c0 c1;have h2:=a7m _ d h.1 h.2 d0 d1;rw[a2c b b0 b1,a2y a _ e a0 a1 h2.1 h2.2 e0 e1,c61 a b c d a0 a1 b0 b1 c0 c1 d0 d1]
def a6o (opc f g gp:Int):Int:=orz (orz opc (f*4096)) (g*gp)
def b00 (rd rs1 rs2:Int):Int:=orz (orz (rd*128) (rs1*32768)) (rs2*1048576)
theorem b7D (opc f rd rs1 rs2:Int) (o0:0<=opc) (o1:opc<128) (f0:0<=f) (f1:f<8) (d0:0<=rd) (d1:rd<32) (s0:0<=rs1) (s1:rs1<32) (t0:0<=rs2) (t1:rs2<32) (g gp:Int) (g0:0<=g*gp) (g1:g*gp<4611686018427387904):orz (a6o opc f g gp) (b00 rd rs1 rs2)=orz (orz (orz (orz (opc+f*4096) (g*gp)) (rd*128)) (rs1*32768)) (rs2*1048576):=by
 unfold a6o b00;have e1:=a0h opc f 12 3 4096 8;rw[e1];have h:=a7m (opc+f*4096) (g*gp) (by omega) (by omega) g0 g1
 rw[c61 _ _ _ _ h.1 h.2 (by omega) (by omega) (by omega) (by omega) (by omega) (by omega)]
theorem a6z (opc f rd rs1 rs2:Int) (o0:0<=opc) (o1:opc<128) (f0:0<=f) (f1:f<8) (d0:0<=rd) (d1:rd<32) (s0:0<=rs1) (s1:rs1<32) (t0:0<=rs2) (t1:rs2<32):orz (a6o opc f 0 1) (b00 rd rs1 rs2)=opc+f*4096+rd*128+rs1*32768+rs2*1048576:=by
 rw[b7D opc f rd rs1 rs2 o0 o1 f0 f1 d0 d1 s0 s1 t0 t1 0 1 (by decide) (by decide),Int.zero_mul,a3k _ (by omega) (by omega),
  a0h _ rd 7 5 128 32,
  a0h _ rs1 15 5 32768 32,
  a0h _ rs2 20 5 1048576 32]
theorem b8m (opc f g rd rs1 rs2:Int) (o0:0<=opc) (o1:opc<128) (f0:0<=f) (f1:f<8) (d0:0<=rd) (d1:rd<32) (s0:0<=rs1) (s1:rs1<32) (t0:0<=rs2) (t1:rs2<32) (g0:0<=g) (g1:g<128):orz (a6o opc f g 33554432) (b00 rd rs1 rs2)=opc+f*4096+g*33554432+rd*128+rs1*32768+rs2*1048576:=by
 rw[b7D opc f rd rs1 rs2 o0 o1 f0 f1 d0 d1 s0 s1 t0 t1 g 33554432 (by omega) (by omega),
  a0h _ g 25 7 33554432 128,
  a0h _ rd 7 5 128 32,
  a0h _ rs1 15 5 32768 32,
  a0h _ rs2 20 5 1048576 32]
theorem c4B (opc f g rd rs1 rs2:Int) (o0:0<=opc) (o1:opc<128) (f0:0<=f) (f1:f<8) (d0:0<=rd) (d1:rd<32) (s0:0<=rs1) (s1:rs1<32) (t0:0<=rs2) (t1:rs2<32) (g0:0<=g) (g1:g<64):orz (a6o opc f g 67108864) (b00 rd rs1 rs2)=opc+f*4096+g*67108864+rd*128+rs1*32768+rs2*1048576:=by
 rw[b7D opc f rd rs1 rs2 o0 o1 f0 f1 d0 d1 s0 s1 t0 t1 g 67108864 (by omega) (by omega),
  a0h _ g 26 6 67108864 64,
  a0h _ rd 7 5 128 32,
  a0h _ rs1 15 5 32768 32,
  a0h _ rs2 20 5 1048576 32]
theorem a3G (x:Int) (i:Nat) (p:Int) (hp:p=2^i-1) (hi:i<=60):a5E x p=x%2^i:=by subst hp;exact a8I x i hi
theorem a8Z (w:Int):a5E w 127=w%128:=a3G w 7 127 rfl (by decide)
theorem a6G (w:Int) (h0:0<=w) (h1:w<4294967296):a5E w 28799=w%128+w/4096%8*4096:=by
 rw[a2X w 28799 7 128 rfl h0 (by omega) (by decide) (by decide),a2X (w/128) (28799/128) 5 32 rfl (by omega) (by omega) (by decide) (by decide)]
 have a:a5E (w%128) (28799%128)=w%128%2^7:=a3G _ 7 _ (by decide) (by decide)
 have b:a5E (w/128%32) (28799/128%32)=0:=a74 _ (by omega) (by omega)
 have c:a5E (w/128/32) (28799/128/32)=w/128/32%2^3:=a3G _ 3 _ (by decide) (by decide)
 rw[a,b,c];omega
theorem b1h (w:Int) (h0:0<=w) (h1:w<4294967296):a5E w 4261441663=w%128+w/4096%8*4096+w/33554432*33554432:=by
 rw[a2X w 4261441663 15 32768 rfl h0 (by omega) (by decide) (by decide),a2X (w/32768) (4261441663/32768) 10 1024 rfl (by omega) (by omega) (by decide) (by decide)]
 have a:a5E (w%32768) (4261441663%32768)=w%32768%128+w%32768/4096%8*4096:=a6G _ (by omega) (by omega)
 have b:a5E (w/32768%1024) (4261441663/32768%1024)=0:=a74 _ (by omega) (by omega)
 have c:a5E (w/32768/1024) (4261441663/32768/1024)=w/32768/1024%2^7:=a3G _ 7 _ (by decide) (by decide)
 rw[a,b,c];omega
theorem b9B (w:Int) (h0:0<=w) (h1:w<4294967296):a5E w 4227887231=w%128+w/4096%8*4096+w/67108864*67108864:=by
 rw[a2X w 4227887231 15 32768 rfl h0 (by omega) (by decide) (by decide),a2X (w/32768) (4227887231/32768) 11 2048 rfl (by omega) (by omega) (by decide) (by decide)]
 have a:a5E (w%32768) (4227887231%32768)=w%32768%128+w%32768/4096%8*4096:=a6G _ (by omega) (by omega)
 have b:a5E (w/32768%2048) (4227887231/32768%2048)=0:=a74 _ (by omega) (by omega)
 have c:a5E (w/32768/2048) (4227887231/32768/2048)=w/32768/2048%2^6:=a3G _ 6 _ (by decide) (by decide)
 rw[a,b,c];omega
theorem c6w (w:Int) (h0:0<=w) (h1:w<4294967296):a5E w 4294967295=w:=by
 rw[a3G w 32 4294967295 (by decide) (by decide)];omega
theorem a9k (opc f:Int) (o0:0<=opc) (o1:opc<128) (f0:0<=f) (f1:f<8):a6o opc f 0 1=opc+f*4096:=by
 unfold a6o;rw[a0h opc f 12 3 4096 8,Int.zero_mul,a3k _ (by omega) (by omega)]
theorem c2M (opc f g:Int) (o0:0<=opc) (o1:opc<128) (f0:0<=f) (f1:f<8) (g0:0<=g) (g1:g<128):a6o opc f g 33554432=opc+f*4096+g*33554432:=by
 unfold a6o;rw[a0h opc f 12 3 4096 8,a0h _ g 25 7 33554432 128]
theorem c5M (opc f g:Int) (o0:0<=opc) (o1:opc<128) (f0:0<=f) (f1:f<8) (g0:0<=g) (g1:g<64):a6o opc f g 67108864=opc+f*4096+g*67108864:=by
 unfold a6o;rw[a0h opc f 12 3 4096 8,a0h _ g 26 6 67108864 64]
theorem c2y (opc g:Int) (o0:0<=opc) (o1:opc<128) (g0:0<=g) (g1:g<4096):a6o opc 0 g 1048576=opc+g*1048576:=by
 unfold a6o;rw[Int.zero_mul,a3k _ (by omega) (by omega),a0h _ g 20 12 1048576 4096]
def a6n (kd:Nat):Int:=if kd=82\/kd=87 then 4261441663 else if kd=72 then 4227887231 else if kd=85\/kd=74 then 127 else if kd=78 then 4294967295 else 28799
def a2G (kd:Nat):Nat:=if kd=82\/kd=87 then 25 else if kd=72 then 26 else if kd=78 then 20 else 0
def a1A (k:Nat) (w:Int):Bool:=decide ((row k).opc=a5E w 127)&&decide (a5E w (a6n (row k).kind)=a6o (row k).opc (row k).f (row k).g (2^a2G (row k).kind))
theorem a06:∀k,k<64->(¬((row k).kind=82\/(row k).kind=87\/(row k).kind=72\/(row k).kind=78)->(row k).g=0)/\(((row k).kind=85\/(row k).kind=74\/(row k).kind=78)->(row k).f=0):=by decide
theorem a4C (n:Int):a0c n 6 0=n%128:=by simp[a0c,bits]
theorem a1M (n:Int):a0c n 11 7=n/128%32:=by simp[a0c,bits]
theorem a1x (n:Int):a0c n 19 15=n/32768%32:=by simp[a0c,bits]
theorem a3r (n:Int):a0c n 24 20=n/1048576%32:=by simp[a0c,bits]
theorem a7p (n:Int):a0c n 31 20=n/1048576%4096:=by simp[a0c,bits]
theorem b3U (n:Int):a0c n 25 20=n/1048576%64:=by simp[a0c,bits]
theorem b37 (n:Int):a0c n 31 25=n/33554432%128:=by simp[a0c,bits]
theorem b0C (n:Int):a0c n 11 0=n%4096:=by simp[a0c,bits]
theorem b8q (n:Int):a0c n 4 0=n%32:=by simp[a0c,bits]
theorem b88 (n:Int):a0c n 11 5=n/32%128:=by simp[a0c,bits]
theorem b5j (n:Int):a0c n 12 12=n/4096%2:=by simp[a0c,bits]
theorem b9t (n:Int):a0c n 10 5=n/32%64:=by simp[a0c,bits]
theorem c2F (n:Int):a0c n 4 1=n/2%16:=by simp[a0c,bits]
theorem a7x (n:Int):a0c n 11 11=n/2048%2:=by simp[a0c,bits]
theorem b78 (n:Int):a0c n 19 0=n%1048576:=by simp[a0c,bits]
theorem a7A (n:Int):a0c n 20 20=n/1048576%2:=by simp[a0c,bits]
theorem b9S (n:Int):a0c n 10 1=n/2%1024:=by simp[a0c,bits]
theorem a7v (n:Int):a0c n 19 12=n/4096%256:=by simp[a0c,bits]
theorem a7B (n:Int):a0c n 31 31=n/2147483648%2:=by simp[a0c,bits]
theorem c2L (n:Int):a0c n 7 7=n/128%2:=by simp[a0c,bits]
theorem b3Q (n:Int):a0c n 30 25=n/33554432%64:=by simp[a0c,bits]
theorem b6C (n:Int):a0c n 11 8=n/256%16:=by simp[a0c,bits]
theorem b4P (n:Int):a0c n 31 12=n/4096%1048576:=by simp[a0c,bits]
theorem b3V (n:Int):a0c n 30 21=n/2097152%1024:=by simp[a0c,bits]
theorem c2t (n:Int):a0c n 5 0=n%64:=by simp[a0c,bits]
theorem a7c (x:Int):(2048<=x/\a0E x 12=x-4096)\/(x<2048/\a0E x 12=x):=by
 by_cases h:2048<=x
 ·left;exact ⟨h,by unfold a0E;rw[if_pos (by simpa[a2A] using h)];simp[a2A]⟩
 ·right;exact ⟨by omega,by unfold a0E;rw[if_neg (by simpa[a2A] using h)]⟩
theorem c0B (x:Int):(4096<=x/\a0E x 13=x-8192)\/(x<4096/\a0E x 13=x):=by
 by_cases h:4096<=x
 ·left;exact ⟨h,by unfold a0E;rw[if_pos (by simpa[a2A] using h)];simp[a2A]⟩
 ·right;exact ⟨by omega,by unfold a0E;rw[if_neg (by simpa[a2A] using h)]⟩
theorem c1C (x:Int):(524288<=x/\a0E x 20=x-1048576)\/(x<524288/\a0E x 20=x):=by
 by_cases h:524288<=x
 ·left;exact ⟨h,by unfold a0E;rw[if_pos (by simpa[a2A] using h)];simp[a2A]⟩
 ·right;exact ⟨by omega,by unfold a0E;rw[if_neg (by simpa[a2A] using h)]⟩
theorem c1Y (x:Int):(1048576<=x/\a0E x 21=x-2097152)\/(x<1048576/\a0E x 21=x):=by
 by_cases h:1048576<=x
 ·left;exact ⟨h,by unfold a0E;rw[if_pos (by simpa[a2A] using h)];simp[a2A]⟩
 ·right;exact ⟨by omega,by unfold a0E;rw[if_neg (by simpa[a2A] using h)]⟩
theorem a3z {w:Int} {k:Nat} {I:Ins} {W:Int} (hI:a0w k w=I) (hE:enc I=(W,0)):a0R w k=(decide (a0c w 6 0=(row k).opc)&&decide (W=w)):=by
 unfold a0R;rw[hI,hE];simp[Bool.beq_eq_decide_eq]
theorem a2z {p q r s:Prop} [Decidable p] [Decidable q] [Decidable r] [Decidable s] (h:(p/\q)↔(r/\s)):(decide p&&decide q)=(decide r&&decide s):=by
 rw[<-Bool.decide_and,<-Bool.decide_and];exact decide_eq_decide.2 h
theorem c8L {x a b:Int} (a0:0<=a/\a<=127) (b0:0<=b/\b<=31) (h:(2048<=a*32+b/\x=a*32+b-4096)\/(a*32+b<2048/\x=a*32+b)):x/32%128=a/\x%32=b:=by omega
theorem c9f {x a b c d:Int} (a0:0<=a/\a<=1) (b0:0<=b/\b<=1) (c0:0<=c/\c<=63) (d0:0<=d/\d<=15) (h:(4096<=a*4096+b*2048+c*32+d*2/\x=a*4096+b*2048+c*32+d*2-8192)\/(a*4096+b*2048+c*32+d*2<4096/\x=a*4096+b*2048+c*32+d*2)):
    x/4096%2=a/\x/32%64=c/\x/2%16=d/\x/2048%2=b:=⟨by omega,by omega,by omega,by omega⟩
theorem c8o {x a b c d:Int} (a0:0<=a/\a<=1) (b0:0<=b/\b<=255) (c0:0<=c/\c<=1) (d0:0<=d/\d<=1023) (h:(1048576<=a*1048576+b*4096+c*2048+d*2/\x=a*1048576+b*4096+c*2048+d*2-2097152)\/(a*1048576+b*4096+c*2048+d*2<1048576/\x=a*1048576+b*4096+c*2048+d*2)):
    x/1048576%2=a/\x/2%1024=d/\x/2048%2=c/\x/4096%256=b:=⟨by omega,by omega,by omega,by omega⟩
theorem c04 (w:Int) (k:Nat) (hk:k<64) (h:(row k).kind=82):right ⟨k+1,a0c w 11 7,a0c w 19 15,a0c w 24 20,0⟩=true:=by
 rw[a0d _ _ _ _ _ hk,h];have:=a26 w;have:=a39 w;have:=a5e w;simp[has,a0e,a0j,a0p];omega
theorem c5t (w:Int) (k:Nat) (hk:k<64) (h0:0<=w) (h1:w<4294967296) (h:(row k).kind=82):a1A k w=a0R w k:=by
 have hb:=a0Z k hk;have hg:=a06 k hk;rw[h]at hg;unfold a1A;rw[a3z (b0h k w h) (a19 (c04 w k hk h)),b4s _ _ _ _ _ h];apply a2z;rw[h,show a6n 82=4261441663 from rfl,show a2G 82=25 from rfl,a8Z,b1h w h0 h1,show (2:Int)^25=33554432 from rfl]
 rw[c2M _ _ _ (by omega) (by omega) (by omega) (by omega) (by omega) (by omega)]
 simp only[a4C,a1M,a1x,a3r]at *;generalize (row k).opc=o at *;generalize (row k).f=f at *;generalize (row k).g=g at *;clear hg h;omega
theorem c2c (w:Int) (k:Nat) (hk:k<64) (h:(row k).kind=73):right ⟨k+1,a0c w 11 7,a0c w 19 15,0,a0E (a0c w 31 20) 12⟩=true:=by
 rw[a0d _ _ _ _ _ hk,h];have:=a26 w;have:=a39 w;have:=a5i w;have hs:=a7c (a0c w 31 20);generalize hx:a0E (a0c w 31 20) 12=x at *;simp[has,a0e,a0j,a0p];omega
theorem c7w (w:Int) (k:Nat) (hk:k<64) (h0:0<=w) (h1:w<4294967296) (h:(row k).kind=73):a1A k w=a0R w k:=by
 have hb:=a0Z k hk;have hg:=a06 k hk;rw[h]at hg;unfold a1A;rw[a3z (b0a k w h) (a19 (c2c w k hk h)),b44 _ _ _ _ _ h];apply a2z;have hs:=a7c (a0c w 31 20);generalize hx:a0E (a0c w 31 20) 12=x at *;rw[b0C x];rw[h,show a6n 73=28799 from rfl,show a2G 73=0 from rfl,a8Z,a6G w h0 h1,show (2:Int)^0=1 from rfl]
 have g0:(row k).g=0:=hg.1 (by decide)
 rw[g0];rw[a9k _ _ (by omega) (by omega) (by omega) (by omega)]
 simp only[a4C,a1M,a1x,a7p]at *;generalize (row k).opc=o at *;generalize (row k).f=f at *;generalize (row k).g=g at *;clear hg h;omega
theorem c2h (w:Int) (k:Nat) (hk:k<64) (h:(row k).kind=76):right ⟨k+1,a0c w 11 7,a0c w 19 15,0,a0E (a0c w 31 20) 12⟩=true:=by
 rw[a0d _ _ _ _ _ hk,h];have:=a26 w;have:=a39 w;have:=a5i w;have hs:=a7c (a0c w 31 20);generalize hx:a0E (a0c w 31 20) 12=x at *;simp[has,a0e,a0j,a0p];omega
theorem c8a (w:Int) (k:Nat) (hk:k<64) (h0:0<=w) (h1:w<4294967296) (h:(row k).kind=76):a1A k w=a0R w k:=by
 have hb:=a0Z k hk;have hg:=a06 k hk;rw[h]at hg;unfold a1A;rw[a3z (b0W k w h) (a19 (c2h w k hk h)),b4y _ _ _ _ _ h];apply a2z;have hs:=a7c (a0c w 31 20);generalize hx:a0E (a0c w 31 20) 12=x at *;rw[b0C x];rw[h,show a6n 76=28799 from rfl,show a2G 76=0 from rfl,a8Z,a6G w h0 h1,show (2:Int)^0=1 from rfl]
 have g0:(row k).g=0:=hg.1 (by decide)
 rw[g0];rw[a9k _ _ (by omega) (by omega) (by omega) (by omega)]
 simp only[a4C,a1M,a1x,a7p]at *;generalize (row k).opc=o at *;generalize (row k).f=f at *;generalize (row k).g=g at *;clear hg h;omega
theorem c0H (w:Int) (k:Nat) (hk:k<64) (h:(row k).kind=72):right ⟨k+1,a0c w 11 7,a0c w 19 15,0,a0c w 25 20⟩=true:=by
 rw[a0d _ _ _ _ _ hk,h];have:=a26 w;have:=a39 w;have:=b0L w;simp[has,a0e,a0j,a0p];omega
theorem c7f (w:Int) (k:Nat) (hk:k<64) (h0:0<=w) (h1:w<4294967296) (h:(row k).kind=72):a1A k w=a0R w k:=by
 have hb:=a0Z k hk;have hg:=a06 k hk;rw[h]at hg;unfold a1A;rw[a3z (b0N k w h) (a19 (c0H w k hk h)),b4o _ _ _ _ _ h];apply a2z;rw[h,show a6n 72=4227887231 from rfl,show a2G 72=26 from rfl,a8Z,b9B w h0 h1,show (2:Int)^26=67108864 from rfl]
 rw[c5M _ _ _ (by omega) (by omega) (by omega) (by omega) (by omega) (by omega)]
 simp only[a4C,a1M,a1x,b3U]at *;generalize (row k).opc=o at *;generalize (row k).f=f at *;generalize (row k).g=g at *;clear hg h;omega
theorem c1J (w:Int) (k:Nat) (hk:k<64) (h:(row k).kind=87):right ⟨k+1,a0c w 11 7,a0c w 19 15,0,a0c w 24 20⟩=true:=by
 rw[a0d _ _ _ _ _ hk,h];have:=a26 w;have:=a39 w;have:=a5e w;simp[has,a0e,a0j,a0p];omega
theorem c7U (w:Int) (k:Nat) (hk:k<64) (h0:0<=w) (h1:w<4294967296) (h:(row k).kind=87):a1A k w=a0R w k:=by
 have hb:=a0Z k hk;have hg:=a06 k hk;rw[h]at hg;unfold a1A;rw[a3z (b0K k w h) (a19 (c1J w k hk h)),b4A _ _ _ _ _ h];apply a2z;rw[h,show a6n 87=4261441663 from rfl,show a2G 87=25 from rfl,a8Z,b1h w h0 h1,show (2:Int)^25=33554432 from rfl]
 rw[c2M _ _ _ (by omega) (by omega) (by omega) (by omega) (by omega) (by omega)]
 simp only[a4C,a1M,a1x,a3r]at *;generalize (row k).opc=o at *;generalize (row k).f=f at *;generalize (row k).g=g at *;clear hg h;omega
theorem c0Q (w:Int) (k:Nat) (hk:k<64) (h:(row k).kind=83):right ⟨k+1,0,a0c w 19 15,a0c w 24 20,a0E (a0c w 31 25*32+a0c w 11 7) 12⟩=true:=by
 rw[a0d _ _ _ _ _ hk,h];have:=a26 w;have:=a39 w;have:=a5e w;have:=a7n w;have hs:=a7c (a0c w 31 25*32+a0c w 11 7);generalize hx:a0E (a0c w 31 25*32+a0c w 11 7) 12=x at *;simp[has,a0e,a0j,a0p];omega
theorem c77 (w:Int) (k:Nat) (hk:k<64) (h0:0<=w) (h1:w<4294967296) (h:(row k).kind=83):a1A k w=a0R w k:=by
 have hb:=a0Z k hk;have hg:=a06 k hk;rw[h]at hg;unfold a1A;rw[a3z (b0y k w h) (a19 (c0Q w k hk h)),b33 _ _ _ _ _ h];apply a2z;have hs:=a7c (a0c w 31 25*32+a0c w 11 7);generalize hx:a0E (a0c w 31 25*32+a0c w 11 7) 12=x at *;obtain ⟨q1,q2⟩:=c8L (a7n w) (a26 w) hs;rw[b88 x,b8q x];rw[q1,q2];clear q1 q2 hs hx;rw[h,show a6n 83=28799 from rfl,show a2G 83=0 from rfl,a8Z,a6G w h0 h1,show (2:Int)^0=1 from rfl]
 have g0:(row k).g=0:=hg.1 (by decide)
 rw[g0];rw[a9k _ _ (by omega) (by omega) (by omega) (by omega)]
 simp only[a4C,a1M,a1x,a3r,b37]at *;generalize (row k).opc=o at *;generalize (row k).f=f at *;generalize (row k).g=g at *;clear hg h;omega
theorem c08 (w:Int) (k:Nat) (hk:k<64) (h:(row k).kind=66):right ⟨k+1,0,a0c w 19 15,a0c w 24 20,a0E (a0c w 31 31*4096+a0c w 7 7*2048+a0c w 30 25*32+a0c w 11 8*2) 13⟩=true:=by
 rw[a0d _ _ _ _ _ hk,h];have:=b4T w;have:=a9T w;have:=a39 w;have:=a5e w;have:=a7E w;have:=a3q w;have hs:=c0B (a0c w 31 31*4096+a0c w 7 7*2048+a0c w 30 25*32+a0c w 11 8*2);generalize hx:a0E (a0c w 31 31*4096+a0c w 7 7*2048+a0c w 30 25*32+a0c w 11 8*2) 13=x at *;have hm:x.tmod 2=0:=by rw[Int.tmod_eq_emod];split<;>omega
 simp[has,a0e,a0j,a0p,hm];omega
theorem c5g (w:Int) (k:Nat) (hk:k<64) (h0:0<=w) (h1:w<4294967296) (h:(row k).kind=66):a1A k w=a0R w k:=by
 have hb:=a0Z k hk;have hg:=a06 k hk;rw[h]at hg;unfold a1A;rw[a3z (b0v k w h) (a19 (c08 w k hk h)),b4i _ _ _ _ _ h];apply a2z;have hs:=c0B (a0c w 31 31*4096+a0c w 7 7*2048+a0c w 30 25*32+a0c w 11 8*2);generalize hx:a0E (a0c w 31 31*4096+a0c w 7 7*2048+a0c w 30 25*32+a0c w 11 8*2) 13=x at *;obtain ⟨q1,q2,q3,q4⟩:=c9f (a3q w) (b4T w) (a7E w) (a9T w) hs;rw[b5j x,b9t x,c2F x,a7x x];rw[q1,q2,q3,q4];clear q1 q2 q3 q4 hs hx;rw[h,show a6n 66=28799 from rfl,show a2G 66=0 from rfl,a8Z,a6G w h0 h1,show (2:Int)^0=1 from rfl]
 have g0:(row k).g=0:=hg.1 (by decide)
 rw[g0];rw[a9k _ _ (by omega) (by omega) (by omega) (by omega)]
 simp only[a4C,c2L,b6C,a1x,a3r,b3Q,a7B]at *;generalize (row k).opc=o at *;generalize (row k).f=f at *;generalize (row k).g=g at *;clear hg h;omega
theorem c0g (w:Int) (k:Nat) (hk:k<64) (h:(row k).kind=85):right ⟨k+1,a0c w 11 7,0,0,a0E (a0c w 31 12) 20⟩=true:=by
 rw[a0d _ _ _ _ _ hk,h];have:=a26 w;have:=b0p w;have hs:=c1C (a0c w 31 12);generalize hx:a0E (a0c w 31 12) 20=x at *;simp[has,a0e,a0j,a0p];omega
theorem c7M (w:Int) (k:Nat) (hk:k<64) (h0:0<=w) (h1:w<4294967296) (h:(row k).kind=85):a1A k w=a0R w k:=by
 have hb:=a0Z k hk;have hg:=a06 k hk;rw[h]at hg;unfold a1A;rw[a3z (b0F k w h) (a19 (c0g w k hk h)),b4D _ _ _ _ _ h];apply a2z;have hs:=c1C (a0c w 31 12);generalize hx:a0E (a0c w 31 12) 20=x at *;rw[b78 x];rw[h,show a6n 85=127 from rfl,show a2G 85=0 from rfl,a8Z,show (2:Int)^0=1 from rfl]
 have g0:(row k).g=0:=hg.1 (by decide)
 rw[g0];have f0:(row k).f=0:=hg.2 (by decide)
 rw[f0];rw[a9k _ _ (by omega) (by omega) (by omega) (by omega)]
 simp only[a4C,a1M,b4P]at *;generalize (row k).opc=o at *;generalize (row k).f=f at *;generalize (row k).g=g at *;clear hg h;omega
theorem c1I (w:Int) (k:Nat) (hk:k<64) (h:(row k).kind=74):right ⟨k+1,a0c w 11 7,0,0,a0E (a0c w 31 31*1048576+a0c w 19 12*4096+a0c w 20 20*2048+a0c w 30 21*2) 21⟩=true:=by
 rw[a0d _ _ _ _ _ hk,h];have:=a26 w;have:=a5g w;have:=a43 w;have:=a7r w;have:=a3q w;have hs:=c1Y (a0c w 31 31*1048576+a0c w 19 12*4096+a0c w 20 20*2048+a0c w 30 21*2);generalize hx:a0E (a0c w 31 31*1048576+a0c w 19 12*4096+a0c w 20 20*2048+a0c w 30 21*2) 21=x at *;have hm:x.tmod 2=0:=by rw[Int.tmod_eq_emod];split<;>omega
 simp[has,a0e,a0j,a0p,hm];omega
theorem c5Z (w:Int) (k:Nat) (hk:k<64) (h0:0<=w) (h1:w<4294967296) (h:(row k).kind=74):a1A k w=a0R w k:=by
 have hb:=a0Z k hk;have hg:=a06 k hk;rw[h]at hg;unfold a1A;rw[a3z (b0r k w h) (a19 (c1I w k hk h)),b4r _ _ _ _ _ h];apply a2z;have hs:=c1Y (a0c w 31 31*1048576+a0c w 19 12*4096+a0c w 20 20*2048+a0c w 30 21*2);generalize hx:a0E (a0c w 31 31*1048576+a0c w 19 12*4096+a0c w 20 20*2048+a0c w 30 21*2) 21=x at *;obtain ⟨q1,q2,q3,q4⟩:=c8o (a3q w) (a5g w) (a43 w) (a7r w) hs;rw[a7A x,b9S x,a7x x,a7v x];rw[q1,q2,q3,q4];clear q1 q2 q3 q4 hs hx;rw[h,show a6n 74=127 from rfl,show a2G 74=0 from rfl,a8Z,show (2:Int)^0=1 from rfl]
 have g0:(row k).g=0:=hg.1 (by decide)
 rw[g0];have f0:(row k).f=0:=hg.2 (by decide)
 rw[f0];rw[a9k _ _ (by omega) (by omega) (by omega) (by omega)]
 simp only[a4C,a1M,a7v,a7A,b3V,a7B]at *;generalize (row k).opc=o at *;generalize (row k).f=f at *;generalize (row k).g=g at *;clear hg h;omega
theorem c0U (_w:Int) (k:Nat) (hk:k<64) (h:(row k).kind=78):right ⟨k+1,0,0,0,0⟩=true:=by
 rw[a0d _ _ _ _ _ hk,h];simp[has,a0e,a0p]
theorem c7F (w:Int) (k:Nat) (hk:k<64) (h0:0<=w) (h1:w<4294967296) (h:(row k).kind=78):a1A k w=a0R w k:=by
 have hb:=a0Z k hk;have hg:=a06 k hk;rw[h]at hg;unfold a1A;rw[a3z (b0n k w h) (a19 (c0U w k hk h)),b45 _ _ _ _ _ h];apply a2z;rw[h,show a6n 78=4294967295 from rfl,show a2G 78=20 from rfl,a8Z,c6w w h0 h1,show (2:Int)^20=1048576 from rfl]
 have f0:(row k).f=0:=hg.2 (by decide)
 rw[f0];rw[c2y _ _ (by omega) (by omega) (by omega) (by omega)]
 simp only[a4C]at *;generalize (row k).opc=o at *;generalize (row k).f=f at *;generalize (row k).g=g at *;clear hg h;omega
theorem a6a (w:Int) (k:Nat) (hk:k<64) (h0:0<=w) (h1:w<4294967296):a1A k w=a0R w k:=by
 rcases kinds k hk with h|h|h|h|h|h|h|h|h|h
 ·exact c5t w k hk h0 h1 h
 ·exact c7w w k hk h0 h1 h
 ·exact c8a w k hk h0 h1 h
 ·exact c7f w k hk h0 h1 h
 ·exact c7U w k hk h0 h1 h
 ·exact c77 w k hk h0 h1 h
 ·exact c5g w k hk h0 h1 h
 ·exact c7M w k hk h0 h1 h
 ·exact c5Z w k hk h0 h1 h
 ·exact c7F w k hk h0 h1 h
def a0g (kd:Nat):List (Int×Int×Int):=
 if kd=73\/kd=76 then [(0,12,20)] else if kd=72 then [(0,6,20)] else if kd=87 then [(0,5,20)] else if kd=83 then [(5,7,25),(0,5,7)]
 else if kd=66 then [(12,1,31),(5,6,25),(1,4,8),(11,1,7)] else if kd=85 then [(0,20,12)] else if kd=74 then [(20,1,31),(1,10,21),(11,1,20),(12,8,12)] else []
def a6p (n:Int) (ps:List (Int×Int×Int)) (a:Int):Int:=ps.foldl (fun a p=>orz a (a0c n (p.1+p.2.1-1) p.1*2^p.2.2.toNat)) a
def a3g (w:Int) (ps:List (Int×Int×Int)) (a:Int):Int:=ps.foldl (fun a p=>orz a (a0c w (p.2.2+p.2.1-1) p.2.2*2^p.1.toNat)) a
def least (kd:Nat):Int:=if kd=73\/kd=76\/kd=83 then -2048 else if kd=66 then -4096 else if kd=85 then -524288 else if kd=74 then -1048576 else 0
def most (kd:Nat):Int:=if kd=73\/kd=76\/kd=83 then 2047 else if kd=72 then 63 else if kd=87 then 31 else if kd=66 then 4094 else if kd=85 then 524287 else if kd=74 then 1048574 else 0
def a4N (kd:Nat):Bool:=decide (kd=66\/kd=74)
theorem c3Q (n:Int):0<=a0c n 5 0/\a0c n 5 0<=63:=by rw[c2t];omega
theorem b9s {k:Nat} {rd rs1 rs2 imm:Int} (hk:k<64) (hr:right ⟨k+1,rd,rs1,rs2,imm⟩=true) (h:(row k).kind=82):
    orz (orz (a6o (row k).opc (row k).f (row k).g (2^a2G (row k).kind)) (b00 rd rs1 rs2)) (a6p imm (a0g (row k).kind) 0)=a2M k rd rs1 rs2 imm:=by
 obtain ⟨⟨d0,d1⟩,⟨s0,s1⟩,⟨t0,t1⟩,i0,i1⟩:=a1k hk hr;have hb:=a0Z k hk;have hg:=a06 k hk;rw[h]at hg;have hz:=hr;rw[a0d _ _ _ _ _ hk,h]at hz;simp[has,a0e,a0j,a0p]at hz;rw[b4s _ _ _ _ _ h,h,show a2G 82=25 from rfl,show (2:Int)^25=33554432 from rfl]
 have e:a6p imm (a0g 82) 0=0:=rfl;rw[e];rw[b8m (row k).opc (row k).f (row k).g rd rs1 rs2 (by omega) (by omega) (by omega) (by omega) (by omega) (by omega) (by omega) (by omega) (by omega) (by omega) (by omega) (by omega)]
 rw[a3k _ (by omega) (by omega)]
 omega
theorem b7Z {k:Nat} {rd rs1 rs2 imm:Int} (hk:k<64) (hr:right ⟨k+1,rd,rs1,rs2,imm⟩=true) (h:(row k).kind=73):
    orz (orz (a6o (row k).opc (row k).f (row k).g (2^a2G (row k).kind)) (b00 rd rs1 rs2)) (a6p imm (a0g (row k).kind) 0)=a2M k rd rs1 rs2 imm:=by
 obtain ⟨⟨d0,d1⟩,⟨s0,s1⟩,⟨t0,t1⟩,i0,i1⟩:=a1k hk hr;have hb:=a0Z k hk;have hg:=a06 k hk;rw[h]at hg;have hz:=hr;rw[a0d _ _ _ _ _ hk,h]at hz;simp[has,a0e,a0j,a0p]at hz;rw[b44 _ _ _ _ _ h,h,show a2G 73=0 from rfl,show (2:Int)^0=1 from rfl]
 have e:a6p imm (a0g 73) 0=orz (0) (a0c imm 11 0*1048576):=rfl;rw[e];have b11_0:=b0o imm;have g0:(row k).g=0:=hg.1 (by decide)
 rw[g0];rw[a6z (row k).opc (row k).f rd rs1 rs2 (by omega) (by omega) (by omega) (by omega) (by omega) (by omega) (by omega) (by omega) (by omega) (by omega)]
 rw[b2f _ _ (by omega) (by omega)]
 rw[a0h _ (a0c imm 11 0) 20 12 1048576 4096];omega
theorem b9c {k:Nat} {rd rs1 rs2 imm:Int} (hk:k<64) (hr:right ⟨k+1,rd,rs1,rs2,imm⟩=true) (h:(row k).kind=76):
    orz (orz (a6o (row k).opc (row k).f (row k).g (2^a2G (row k).kind)) (b00 rd rs1 rs2)) (a6p imm (a0g (row k).kind) 0)=a2M k rd rs1 rs2 imm:=by
 obtain ⟨⟨d0,d1⟩,⟨s0,s1⟩,⟨t0,t1⟩,i0,i1⟩:=a1k hk hr;have hb:=a0Z k hk;have hg:=a06 k hk;rw[h]at hg;have hz:=hr;rw[a0d _ _ _ _ _ hk,h]at hz;simp[has,a0e,a0j,a0p]at hz;rw[b4y _ _ _ _ _ h,h,show a2G 76=0 from rfl,show (2:Int)^0=1 from rfl]
 have e:a6p imm (a0g 76) 0=orz (0) (a0c imm 11 0*1048576):=rfl;rw[e];have b11_0:=b0o imm;have g0:(row k).g=0:=hg.1 (by decide)
 rw[g0];rw[a6z (row k).opc (row k).f rd rs1 rs2 (by omega) (by omega) (by omega) (by omega) (by omega) (by omega) (by omega) (by omega) (by omega) (by omega)]
 rw[b2f _ _ (by omega) (by omega)]
 rw[a0h _ (a0c imm 11 0) 20 12 1048576 4096];omega
theorem b86 {k:Nat} {rd rs1 rs2 imm:Int} (hk:k<64) (hr:right ⟨k+1,rd,rs1,rs2,imm⟩=true) (h:(row k).kind=72):
    orz (orz (a6o (row k).opc (row k).f (row k).g (2^a2G (row k).kind)) (b00 rd rs1 rs2)) (a6p imm (a0g (row k).kind) 0)=a2M k rd rs1 rs2 imm:=by
 obtain ⟨⟨d0,d1⟩,⟨s0,s1⟩,⟨t0,t1⟩,i0,i1⟩:=a1k hk hr;have hb:=a0Z k hk;have hg:=a06 k hk;rw[h]at hg;have hz:=hr;rw[a0d _ _ _ _ _ hk,h]at hz;simp[has,a0e,a0j,a0p]at hz;have hi:=a9D hk hr h;rw[b4o _ _ _ _ _ h,h,show a2G 72=26 from rfl,show (2:Int)^26=67108864 from rfl]
 have e:a6p imm (a0g 72) 0=orz (0) (a0c imm 5 0*1048576):=rfl;rw[e];have b5_0:=c3Q imm;rw[c4B (row k).opc (row k).f (row k).g rd rs1 rs2 (by omega) (by omega) (by omega) (by omega) (by omega) (by omega) (by omega) (by omega) (by omega) (by omega) (by omega) (by omega)]
 rw[b2f _ _ (by omega) (by omega)]
 rw[a0h _ (a0c imm 5 0) 20 6 1048576 64];rw[c2t]at *;omega
theorem b7R {k:Nat} {rd rs1 rs2 imm:Int} (hk:k<64) (hr:right ⟨k+1,rd,rs1,rs2,imm⟩=true) (h:(row k).kind=87):
    orz (orz (a6o (row k).opc (row k).f (row k).g (2^a2G (row k).kind)) (b00 rd rs1 rs2)) (a6p imm (a0g (row k).kind) 0)=a2M k rd rs1 rs2 imm:=by
 obtain ⟨⟨d0,d1⟩,⟨s0,s1⟩,⟨t0,t1⟩,i0,i1⟩:=a1k hk hr;have hb:=a0Z k hk;have hg:=a06 k hk;rw[h]at hg;have hz:=hr;rw[a0d _ _ _ _ _ hk,h]at hz;simp[has,a0e,a0j,a0p]at hz;have hi:=a9E hk hr h;rw[b4A _ _ _ _ _ h,h,show a2G 87=25 from rfl,show (2:Int)^25=33554432 from rfl]
 have e:a6p imm (a0g 87) 0=orz (0) (a0c imm 4 0*1048576):=rfl;rw[e];have b4_0:=b74 imm;rw[b8m (row k).opc (row k).f (row k).g rd rs1 rs2 (by omega) (by omega) (by omega) (by omega) (by omega) (by omega) (by omega) (by omega) (by omega) (by omega) (by omega) (by omega)]
 rw[b2f _ _ (by omega) (by omega)]
 rw[a0h _ (a0c imm 4 0) 20 5 1048576 32];rw[b8q]at *;omega
theorem b85 {k:Nat} {rd rs1 rs2 imm:Int} (hk:k<64) (hr:right ⟨k+1,rd,rs1,rs2,imm⟩=true) (h:(row k).kind=83):
    orz (orz (a6o (row k).opc (row k).f (row k).g (2^a2G (row k).kind)) (b00 rd rs1 rs2)) (a6p imm (a0g (row k).kind) 0)=a2M k rd rs1 rs2 imm:=by
 obtain ⟨⟨d0,d1⟩,⟨s0,s1⟩,⟨t0,t1⟩,i0,i1⟩:=a1k hk hr;have hb:=a0Z k hk;have hg:=a06 k hk;rw[h]at hg;have hz:=hr;rw[a0d _ _ _ _ _ hk,h]at hz;simp[has,a0e,a0j,a0p]at hz;rw[b33 _ _ _ _ _ h,h,show a2G 83=0 from rfl,show (2:Int)^0=1 from rfl]
 have e:a6p imm (a0g 83) 0=orz (orz (0) (a0c imm 11 5*33554432)) (a0c imm 4 0*128):=rfl;rw[e];have b11_5:=b9I imm;have b4_0:=b74 imm;have g0:(row k).g=0:=hg.1 (by decide)
 rw[g0];rw[a6z (row k).opc (row k).f rd rs1 rs2 (by omega) (by omega) (by omega) (by omega) (by omega) (by omega) (by omega) (by omega) (by omega) (by omega)]
 rw[c5B _ _ _ (by omega) (by omega) (by omega) (by omega) (by omega) (by omega)]
 rw[a0h _ (a0c imm 11 5) 25 7 33554432 128];rw[a0h _ (a0c imm 4 0) 7 5 128 32];omega
theorem b7w {k:Nat} {rd rs1 rs2 imm:Int} (hk:k<64) (hr:right ⟨k+1,rd,rs1,rs2,imm⟩=true) (h:(row k).kind=66):
    orz (orz (a6o (row k).opc (row k).f (row k).g (2^a2G (row k).kind)) (b00 rd rs1 rs2)) (a6p imm (a0g (row k).kind) 0)=a2M k rd rs1 rs2 imm:=by
 obtain ⟨⟨d0,d1⟩,⟨s0,s1⟩,⟨t0,t1⟩,i0,i1⟩:=a1k hk hr;have hb:=a0Z k hk;have hg:=a06 k hk;rw[h]at hg;have hz:=hr;rw[a0d _ _ _ _ _ hk,h]at hz;simp[has,a0e,a0j,a0p]at hz;rw[b4i _ _ _ _ _ h,h,show a2G 66=0 from rfl,show (2:Int)^0=1 from rfl]
 have e:a6p imm (a0g 66) 0=orz (orz (orz (orz (0) (a0c imm 12 12*2147483648)) (a0c imm 10 5*33554432)) (a0c imm 4 1*256)) (a0c imm 11 11*128):=rfl;rw[e];have b12_12:=b3R imm;have b10_5:=b7S imm;have b4_1:=c2K imm;have b11_11:=a7C imm;have g0:(row k).g=0:=hg.1 (by decide)
 rw[g0];rw[a6z (row k).opc (row k).f rd rs1 rs2 (by omega) (by omega) (by omega) (by omega) (by omega) (by omega) (by omega) (by omega) (by omega) (by omega)]
 rw[c26 _ _ _ _ _ (by omega) (by omega) (by omega) (by omega) (by omega) (by omega) (by omega) (by omega) (by omega) (by omega)]
 rw[a0h _ (a0c imm 12 12) 31 1 2147483648 2];rw[a0h _ (a0c imm 10 5) 25 6 33554432 64];rw[a0h _ (a0c imm 4 1) 8 4 256 16];rw[a0h _ (a0c imm 11 11) 7 1 128 2];omega
theorem b9Q {k:Nat} {rd rs1 rs2 imm:Int} (hk:k<64) (hr:right ⟨k+1,rd,rs1,rs2,imm⟩=true) (h:(row k).kind=85):
    orz (orz (a6o (row k).opc (row k).f (row k).g (2^a2G (row k).kind)) (b00 rd rs1 rs2)) (a6p imm (a0g (row k).kind) 0)=a2M k rd rs1 rs2 imm:=by
 obtain ⟨⟨d0,d1⟩,⟨s0,s1⟩,⟨t0,t1⟩,i0,i1⟩:=a1k hk hr;have hb:=a0Z k hk;have hg:=a06 k hk;rw[h]at hg;have hz:=hr;rw[a0d _ _ _ _ _ hk,h]at hz;simp[has,a0e,a0j,a0p]at hz;rw[b4D _ _ _ _ _ h,h,show a2G 85=0 from rfl,show (2:Int)^0=1 from rfl]
 have e:a6p imm (a0g 85) 0=orz (0) (a0c imm 19 0*4096):=rfl;rw[e];have b19_0:=b6V imm;have g0:(row k).g=0:=hg.1 (by decide)
 rw[g0];have f0:(row k).f=0:=hg.2 (by decide)
 rw[f0];rw[a6z (row k).opc 0 rd rs1 rs2 (by omega) (by omega) (by omega) (by omega) (by omega) (by omega) (by omega) (by omega) (by omega) (by omega)]
 rw[b2f _ _ (by omega) (by omega)]
 rw[a0h _ (a0c imm 19 0) 12 20 4096 1048576];omega
theorem b6S {k:Nat} {rd rs1 rs2 imm:Int} (hk:k<64) (hr:right ⟨k+1,rd,rs1,rs2,imm⟩=true) (h:(row k).kind=74):
    orz (orz (a6o (row k).opc (row k).f (row k).g (2^a2G (row k).kind)) (b00 rd rs1 rs2)) (a6p imm (a0g (row k).kind) 0)=a2M k rd rs1 rs2 imm:=by
 obtain ⟨⟨d0,d1⟩,⟨s0,s1⟩,⟨t0,t1⟩,i0,i1⟩:=a1k hk hr;have hb:=a0Z k hk;have hg:=a06 k hk;rw[h]at hg;have hz:=hr;rw[a0d _ _ _ _ _ hk,h]at hz;simp[has,a0e,a0j,a0p]at hz;rw[b4r _ _ _ _ _ h,h,show a2G 74=0 from rfl,show (2:Int)^0=1 from rfl]
 have e:a6p imm (a0g 74) 0=orz (orz (orz (orz (0) (a0c imm 20 20*2147483648)) (a0c imm 10 1*2097152)) (a0c imm 11 11*1048576)) (a0c imm 19 12*4096):=rfl;rw[e];have b20_20:=a43 imm;have b10_1:=b7a imm;have b11_11:=a7C imm;have b19_12:=a5g imm;have g0:(row k).g=0:=hg.1 (by decide)
 rw[g0];have f0:(row k).f=0:=hg.2 (by decide)
 rw[f0];rw[a6z (row k).opc 0 rd rs1 rs2 (by omega) (by omega) (by omega) (by omega) (by omega) (by omega) (by omega) (by omega) (by omega) (by omega)]
 rw[c26 _ _ _ _ _ (by omega) (by omega) (by omega) (by omega) (by omega) (by omega) (by omega) (by omega) (by omega) (by omega)]
 rw[a0h _ (a0c imm 20 20) 31 1 2147483648 2];rw[a0h _ (a0c imm 10 1) 21 10 2097152 1024];rw[a0h _ (a0c imm 11 11) 20 1 1048576 2];rw[a0h _ (a0c imm 19 12) 12 8 4096 256];omega
theorem b8n {k:Nat} {rd rs1 rs2 imm:Int} (hk:k<64) (hr:right ⟨k+1,rd,rs1,rs2,imm⟩=true) (h:(row k).kind=78):
    orz (orz (a6o (row k).opc (row k).f (row k).g (2^a2G (row k).kind)) (b00 rd rs1 rs2)) (a6p imm (a0g (row k).kind) 0)=a2M k rd rs1 rs2 imm:=by
 obtain ⟨⟨d0,d1⟩,⟨s0,s1⟩,⟨t0,t1⟩,i0,i1⟩:=a1k hk hr;have hb:=a0Z k hk;have hg:=a06 k hk;rw[h]at hg;have hz:=hr;rw[a0d _ _ _ _ _ hk,h]at hz;simp[has,a0e,a0p]at hz;rw[b45 _ _ _ _ _ h,h,show a2G 78=20 from rfl,show (2:Int)^20=1048576 from rfl]
 have e:a6p imm (a0g 78) 0=0:=rfl;rw[e];have f0:(row k).f=0:=hg.2 (by decide)
 rw[f0];have zr:rd=0/\rs1=0/\rs2=0:=by omega
 obtain ⟨rfl,rfl,rfl⟩:=zr;rw[show b00 0 0 0=0 from by unfold b00;simp only[Int.zero_mul];rw[a3k 0 (by decide) (by decide),a3k 0 (by decide) (by decide)],c2y _ _ (by omega) (by omega) (by omega) (by omega)]
 rw[a3k ((row k).opc+(row k).g*1048576) (by omega) (by omega)]
 rw[a3k ((row k).opc+(row k).g*1048576) (by omega) (by omega)]
 omega
theorem c4h {k:Nat} {rd rs1 rs2 imm:Int} (hk:k<64) (hr:right ⟨k+1,rd,rs1,rs2,imm⟩=true):
    orz (orz (a6o (row k).opc (row k).f (row k).g (2^a2G (row k).kind)) (b00 rd rs1 rs2)) (a6p imm (a0g (row k).kind) 0)=a2M k rd rs1 rs2 imm:=by
 rcases kinds k hk with h|h|h|h|h|h|h|h|h|h
 ·exact b9s hk hr h
 ·exact b7Z hk hr h
 ·exact b9c hk hr h
 ·exact b86 hk hr h
 ·exact b7R hk hr h
 ·exact b85 hk hr h
 ·exact b7w hk hr h
 ·exact b9Q hk hr h
 ·exact b6S hk hr h
 ·exact b8n hk hr h
def a1m (kd:Nat) (w:Int):Int:=if most kd<a3g w (a0g kd) 0 then a3g w (a0g kd) 0+2*least kd else a3g w (a0g kd) 0
theorem c6l (w:Int):0<=a3g w (a0g 82) 0/\a3g w (a0g 82) 0<=2097152/\a1m 82 w=a0H 82 w:=by
 have e:a3g w (a0g 82) 0=0:=rfl;rw[e];exact ⟨by decide,by decide,rfl⟩
theorem c59 (w:Int):0<=a3g w (a0g 73) 0/\a3g w (a0g 73) 0<=2097152/\a1m 73 w=a0H 73 w:=by
 have e:a3g w (a0g 73) 0=orz (0) (a0c w 31 20*1):=rfl;have b31_20:=a5i w;have hd:a0H 73 w=a0E (a0c w 31 20) 12:=by simp[a0H]
 have hs:=a7c (a0c w 31 20);unfold a1m;rw[hd,show most 73=2047 from rfl,show least 73=-2048 from rfl,e,a2c _ (by omega) (by omega)]
 refine ⟨by omega,by omega,?_⟩
 split<;>omega
theorem c5T (w:Int):0<=a3g w (a0g 76) 0/\a3g w (a0g 76) 0<=2097152/\a1m 76 w=a0H 76 w:=by
 have e:a3g w (a0g 76) 0=orz (0) (a0c w 31 20*1):=rfl;have b31_20:=a5i w;have hd:a0H 76 w=a0E (a0c w 31 20) 12:=by simp[a0H]
 have hs:=a7c (a0c w 31 20);unfold a1m;rw[hd,show most 76=2047 from rfl,show least 76=-2048 from rfl,e,a2c _ (by omega) (by omega)]
 refine ⟨by omega,by omega,?_⟩
 split<;>omega
theorem c5Y (w:Int):0<=a3g w (a0g 72) 0/\a3g w (a0g 72) 0<=2097152/\a1m 72 w=a0H 72 w:=by
 have e:a3g w (a0g 72) 0=orz (0) (a0c w 25 20*1):=rfl;have b25_20:=b0L w;have hd:a0H 72 w=a0c w 25 20:=by simp[a0H]
 unfold a1m;rw[hd,show most 72=63 from rfl,show least 72=0 from rfl,e,a2c _ (by omega) (by omega)]
 refine ⟨by omega,by omega,?_⟩
 split<;>omega
theorem c6u (w:Int):0<=a3g w (a0g 87) 0/\a3g w (a0g 87) 0<=2097152/\a1m 87 w=a0H 87 w:=by
 have e:a3g w (a0g 87) 0=orz (0) (a0c w 24 20*1):=rfl;have b24_20:=a5e w;have hd:a0H 87 w=a0c w 24 20:=by simp[a0H]
 unfold a1m;rw[hd,show most 87=31 from rfl,show least 87=0 from rfl,e,a2c _ (by omega) (by omega)]
 refine ⟨by omega,by omega,?_⟩
 split<;>omega
theorem c5H (w:Int):0<=a3g w (a0g 83) 0/\a3g w (a0g 83) 0<=2097152/\a1m 83 w=a0H 83 w:=by
 have e:a3g w (a0g 83) 0=orz (orz (0) (a0c w 31 25*32)) (a0c w 11 7*1):=rfl;have b31_25:=a7n w;have b11_7:=a26 w;have hd:a0H 83 w=a0E (a0c w 31 25*32+a0c w 11 7) 12:=by simp[a0H]
 have hs:=a7c (a0c w 31 25*32+a0c w 11 7);unfold a1m;rw[hd,show most 83=2047 from rfl,show least 83=-2048 from rfl,e,a2c _ (by omega) (by omega)]
 rw[a0h _ (a0c w 11 7) 0 5 1 32];refine ⟨by omega,by omega,?_⟩
 split<;>omega
theorem c7h (w:Int):0<=a3g w (a0g 66) 0/\a3g w (a0g 66) 0<=2097152/\a1m 66 w=a0H 66 w:=by
 have e:a3g w (a0g 66) 0=orz (orz (orz (orz (0) (a0c w 31 31*4096)) (a0c w 30 25*32)) (a0c w 11 8*2)) (a0c w 7 7*2048):=rfl;have b31_31:=a3q w;have b30_25:=a7E w;have b11_8:=a9T w;have b7_7:=b4T w;have hd:a0H 66 w=a0E (a0c w 31 31*4096+a0c w 7 7*2048+a0c w 30 25*32+a0c w 11 8*2) 13:=by simp[a0H]
 have hs:=c0B (a0c w 31 31*4096+a0c w 7 7*2048+a0c w 30 25*32+a0c w 11 8*2);unfold a1m;rw[hd,show most 66=4094 from rfl,show least 66=-4096 from rfl,e,a2c _ (by omega) (by omega)]
 rw[a0h _ (a0c w 30 25) 5 6 32 64];rw[a0h _ (a0c w 11 8) 1 4 2 16];rw[a0h _ (a0c w 7 7) 11 1 2048 2];refine ⟨by omega,by omega,?_⟩
 split<;>omega
theorem c5W (w:Int):0<=a3g w (a0g 85) 0/\a3g w (a0g 85) 0<=2097152/\a1m 85 w=a0H 85 w:=by
 have e:a3g w (a0g 85) 0=orz (0) (a0c w 31 12*1):=rfl;have b31_12:=b0p w;have hd:a0H 85 w=a0E (a0c w 31 12) 20:=by simp[a0H]
 have hs:=c1C (a0c w 31 12);unfold a1m;rw[hd,show most 85=524287 from rfl,show least 85=-524288 from rfl,e,a2c _ (by omega) (by omega)]
 refine ⟨by omega,by omega,?_⟩
 split<;>omega
theorem c7z (w:Int):0<=a3g w (a0g 74) 0/\a3g w (a0g 74) 0<=2097152/\a1m 74 w=a0H 74 w:=by
 have e:a3g w (a0g 74) 0=orz (orz (orz (orz (0) (a0c w 31 31*1048576)) (a0c w 30 21*2)) (a0c w 20 20*2048)) (a0c w 19 12*4096):=rfl;have b31_31:=a3q w;have b30_21:=a7r w;have b20_20:=a43 w;have b19_12:=a5g w;have hd:a0H 74 w=a0E (a0c w 31 31*1048576+a0c w 19 12*4096+a0c w 20 20*2048+a0c w 30 21*2) 21:=by simp[a0H]
 have hs:=c1Y (a0c w 31 31*1048576+a0c w 19 12*4096+a0c w 20 20*2048+a0c w 30 21*2);unfold a1m;rw[hd,show most 74=1048574 from rfl,show least 74=-1048576 from rfl,e,a2c _ (by omega) (by omega)]
 rw[a0h _ (a0c w 30 21) 1 10 2 1024];rw[a0h _ (a0c w 20 20) 11 1 2048 2];rw[a0h _ (a0c w 19 12) 12 8 4096 256];refine ⟨by omega,by omega,?_⟩
 split<;>omega
theorem c6T (w:Int):0<=a3g w (a0g 78) 0/\a3g w (a0g 78) 0<=2097152/\a1m 78 w=a0H 78 w:=by
 have e:a3g w (a0g 78) 0=0:=rfl;rw[e];exact ⟨by decide,by decide,rfl⟩
theorem c3n (w:Int) (k:Nat) (hk:k<64):0<=a3g w (a0g (row k).kind) 0/\a3g w (a0g (row k).kind) 0<=2097152/\a1m (row k).kind w=a0H (row k).kind w:=by
 rcases kinds k hk with h|h|h|h|h|h|h|h|h|h
 ·rw[h];exact c6l w
 ·rw[h];exact c59 w
 ·rw[h];exact c5T w
 ·rw[h];exact c5Y w
 ·rw[h];exact c6u w
 ·rw[h];exact c5H w
 ·rw[h];exact c7h w
 ·rw[h];exact c5W w
 ·rw[h];exact c7z w
 ·rw[h];exact c6T w
theorem c30 (a b:Int):orz a b=IntKind.i64.wrap (((a%18446744073709551616).toNat ||| (b%18446744073709551616).toNat:Nat):Int):=by
 show IntKind.i64.wrap (((BitVec.ofInt 64 a ||| BitVec.ofInt 64 b).toNat:Nat):Int)=_;rw[BitVec.toNat_or,BitVec.toNat_ofInt,BitVec.toNat_ofInt];rfl
def a0Q:List UInt8->Int
 | []=>0
 | b::r=>b.toNat+256*a0Q r
theorem a4D (l:List UInt8):0<=a0Q l/\a0Q l<2^(8*l.length):=by
 induction l with
 | nil=>simp[a0Q]
 | cons b r ih=>
  have:=b.toNat_lt
  have e:(2:Int)^(8*(r.length+1))=256*2^(8*r.length):=by
   rw[show 8*(r.length+1)=8*r.length+8 from by omega,Int.pow_add];simp;omega
  simp only[a0Q,List.length_cons,e];generalize (2:Int)^(8*r.length)=p at *;omega
theorem b9j (l:List UInt8) (b:UInt8):a0Q (l++[b])=a0Q l+b.toNat*2^(8*l.length):=by
 induction l with
 | nil=>simp[a0Q]
 | cons c r ih=>
  have e:(2:Int)^(8*(r.length+1))=256*2^(8*r.length):=by
   rw[show 8*(r.length+1)=8*r.length+8 from by omega,Int.pow_add];simp;omega
  simp only[a0Q,List.cons_append,List.length_cons,e,ih];generalize (2:Int)^(8*r.length)=p;have:(b.toNat:Int)*(256*p)=256*(b.toNat*p):=by rw[<-Int.mul_assoc,Int.mul_comm _ 256,Int.mul_assoc]
  omega
theorem c1q (x v:Int) (k:Nat) (hk:k<=7) (x0:0<=x) (x1:x<2^(8*k)) (v0:0<=v) (v1:v<256):
    orz (IntKind.i64.wrap x) (IntKind.i64.wrap (v*2^(8*k)))=IntKind.i64.wrap (x+v*2^(8*k)):=by
 have hp:(2:Int)^(8*k)<=2^56:=a0M (by omega)
 have hp0:=pow_pos (8*k);have h56:(2:Int)^56=72057594037927936:=by decide
 have hv:v*2^(8*k)<=255*2^(8*k):=Int.mul_le_mul_of_nonneg_right (by omega) (by omega)
 have hv0:0<=v*2^(8*k):=Int.mul_nonneg v0 (by omega)
 rw[c30];congr 1;have e1:(IntKind.i64.wrap x)%18446744073709551616=x:=by rw[IntKind.wrap_i64];omega
 have e2:(IntKind.i64.wrap (v*2^(8*k)))%18446744073709551616=v*2^(8*k):=by
  generalize v*2^(8*k)=y at *;rw[IntKind.wrap_i64];omega
 rw[e1,e2];obtain ⟨x',rfl⟩:=Int.eq_ofNat_of_zero_le x0;obtain ⟨v',rfl⟩:=Int.eq_ofNat_of_zero_le v0;have hx:x'<2^(8*k):=by exact_mod_cast x1
 have e3:((v':Int)*2^(8*k)).toNat=v'*2^(8*k):=by
  have:(v':Int)*2^(8*k)=((v'*2^(8*k):Nat):Int):=by simp
  rw[this];rfl
 rw[e3,Int.toNat_natCast];rw[b31 x' v' (8*k) 8 (by omega) (by rw[Nat.div_eq_of_lt hx])]
 simp
def a2I:Nat->Int->List UInt8
 | 0,_=>[]
 | n+1,x=>UInt8.ofNat (x%256).toNat::a2I n (x/256)
theorem a2d (n:Nat) (x:Int):(a2I n x).length=n:=by
 induction n generalizing x with
 | zero=>rfl
 | succ n ih=>simp[a2I,ih]
theorem c4O (x:Int):((UInt8.ofNat (x%256).toNat).toNat:Int)=x%256:=by
 rw[UInt8.toNat_ofNat'];have:(x%256).toNat%2^8=(x%256).toNat:=Nat.mod_eq_of_lt (by omega)
 rw[this];omega
theorem a4Q (n:Nat) (x:Int):a2I (n+1) x=a2I n x++[UInt8.ofNat (x/256^n%256).toNat]:=by
 induction n generalizing x with
 | zero=>simp[a2I]
 | succ n ih=>
  rw[a2I,ih,a2I,List.cons_append]
  have:x/256/256^n=x/256^(n+1):=by
   (rw[Int.ediv_ediv_of_nonneg (by decide)]);congr 1;rw[Int.pow_succ,Int.mul_comm]
  rw[this]
def kdI (kd:Nat):Int:=if kd=82 then 0 else if kd=73 then 1 else if kd=72 then 2 else if kd=87 then 3 else if kd=76 then 4 else if kd=83 then 5 else if kd=66 then 6 else if kd=85 then 7 else if kd=74 then 8 else 9
def a3a (k:Nat):List Value:=[.int .i64 (k+1),.string ⟨(row k).name.toArray⟩,.int .i64 (kdI (row k).kind),.int .i64 (row k).opc,.int .i64 (row k).f,.int .i64 (row k).g]
def a1P:List Value:=[.int .i64 0,.string ⟨#[]⟩,.int .i64 0,.int .i64 0,.int .i64 0,.int .i64 0]
def a3y (k:Nat):Value:=.agg (a3a k).toArray
def a0U:Value:=.agg a1P.toArray
def b56 (from' n:Nat):Array Value:=((List.range n).flatMap fun i=>a3a (from'+i)).toArray
def c9V (n:Nat):Array Value:=((List.range n).flatMap fun _=>a1P).toArray
def c0c (op:Int) (k:Nat):Bool:=((k:Int)+1==op)
def a1v (nm:ByteArray) (k:Nat):Bool:=((row k).name==nm.toList)
theorem c2d (f n i:Nat) (hi:i<n):(b56 f n).extract (i*6) (i*6+6)=(a3a (f+i)).toArray:=by
 apply Array.ext_getElem?;intro j;rw[Array.getElem?_extract]
 have hs:(b56 f n).size=n*6:=by
  have:∀m,((List.range m).flatMap fun i=>a3a (f+i)).length=m*6:=fun m=>by
   induction m with
   | zero=>rfl
   | succ m ih=>rw[List.range_succ,List.flatMap_append,List.length_append,ih];simp[a3a];omega
  simp[b56,this]
 by_cases hj:j<6
 ·rw[if_pos (by rw[hs];omega)]
  unfold b56;rw[List.getElem?_toArray,Nat.mul_comm i 6,a1j (fun i=>a3a (f+i)) 6 (fun _=>rfl) (List.range n) i j hj (by simpa using hi)]
  rw[List.getElem?_range hi];simp
 ·rw[if_neg (by rw[hs];omega)]
  rw[List.getElem?_toArray,List.getElem?_eq_none (by simp[a3a];omega)]
def b0c (B:Nat) (ps:List (Int×Int×Int)) (sl:Value) (w:World):Prop:=
 ∃ao cap,sl=.slice ao ps.length cap/\(∀j p,ps[j]?=some p->∃b,ao=some ⟨b,0,none⟩/\B<=b/\b<w.heap.size/\ps.length<=cap/\
  w.cell? ⟨b,j*3,none⟩=some (.int .i64 p.1)/\w.cell? ⟨b,j*3+1,none⟩=some (.int .i64 p.2.1)/\w.cell? ⟨b,j*3+2,none⟩=some (.int .i64 p.2.2))
def a0l (kd:Nat) (sl:Value):List Value:=
 [.bool (has kd).1,.bool (has kd).2.1,.bool (has kd).2.2,.int .i64 (least kd),.int .i64 (most kd),.bool (a4N kd),sl,.int .i64 (a2G kd),.int .i64 (a6n kd)]
def tk (ev:Bool) (lo hi n:Int):Bool:=if ev&&(n.tmod 2 != 0) then false else decide (lo<=n)&&decide (n<=hi)
def takes (kd:Nat) (n:Int):Bool:=tk (a4N kd) (least kd) (most kd) n
def a4i (kd:Nat):Prop:=kd=82\/kd=73\/kd=76\/kd=72\/kd=87\/kd=83\/kd=66\/kd=85\/kd=74\/kd=78
theorem b4g {kd:Nat} (h:a4i kd) (n:Int):takes kd n=a0p kd n:=by
 have e0:(decide (0<=n)&&decide (n<=0))=(n==0):=by
  rw[<-Bool.decide_and,Bool.beq_eq_decide_eq];exact decide_eq_decide.2 (by omega)
 rcases h with rfl|rfl|rfl|rfl|rfl|rfl|rfl|rfl|rfl|rfl
 all_goals (simp[takes,tk,a4N,least,most,a0p,a0j,e0])
 all_goals (by_cases hn:n.tmod 2=0<;>simp[hn])
def a5d (p:Int×Int×Int):List Value:=[.int .i64 p.1,.int .i64 p.2.1,.int .i64 p.2.2]
theorem a9G (B:Nat) (w:World):b0c B [] (.slice none 0 0) w:=⟨none,0,rfl,fun j p h=>by simp at h⟩
theorem a14 (B:Nat) (ps:List (Int×Int×Int)) (w:World) (t:TypeId) (c:Nat) (hc:ps.length<=c) (hB:B<=w.heap.size):b0c B ps (.slice (some ⟨w.heap.size,0,none⟩) ps.length c) (w.alloc (.cells (ps.flatMap a5d).toArray t)):=by
 refine ⟨_,c,rfl,fun j p h=>?_⟩
 have hj:j<ps.length:=by
  rcases Nat.lt_or_ge j ps.length with h'|h'
  ·exact h'
  ·rw[List.getElem?_eq_none h']at h;cases h
 have key:∀q,q<3->(w.alloc (.cells (ps.flatMap a5d).toArray t)).cell? ⟨w.heap.size,j*3+q,none⟩=(a5d p)[q]?:=fun q hq=>by
  have:=a1j a5d 3 (fun _=>rfl) ps j q hq hj
  rw[h]at this;simp only[Option.bind_some]at this;rw[<-this,Nat.mul_comm 3 j,cell_of_row _ _ _ _ t (0,0) (heap_alloc_last w _),List.getElem?_toArray]
 exact ⟨_,rfl,hB,by simp,hc,key 0 (by omega),key 1 (by omega),key 2 (by omega)⟩
theorem b66 (k:Nat) (hk:k<64):(List.range 64).find? (c0c ((k:Int)+1))=some k:=
 a2u _ _ _ hk (fun j hj=>by simp[c0c];omega) (by simp[c0c])
theorem b9d (op:Int) (h:¬(1<=op/\op<=64)):(List.range 64).find? (c0c op)=none:=
 a1I _ _ (fun j hj=>by simp[c0c];omega)
theorem a02 (k:Nat) (hk:k<64):a4i (row k).kind:=kinds k hk
def a64 (i:Ins):Value:=if right i then .tuple #[a3y (i.op-1).toNat,.bool true] else .tuple #[a0U,.bool false]
theorem a2C {i:Ins} (h:right i=false):a64 i=.tuple #[a0U,.bool false]:=by simp[a64,h]
theorem a3S {k:Nat} {rd rs1 rs2 imm:Int} (h:right ⟨k+1,rd,rs1,rs2,imm⟩=true):a64 ⟨k+1,rd,rs1,rs2,imm⟩=.tuple #[a3y k,.bool true]:=by
 unfold a64;have e:((k:Int)+1-1).toNat=k:=by omega
 simp only[h,if_true,e]
def c8f (lo hi A:Int):Int:=if hi<A then A+2*lo else A
theorem c43 (kd:Nat) (w:Int):c8f (least kd) (most kd) (a3g w (a0g kd) 0)=a1m kd w:=rfl
def PB (ps:List (Int×Int×Int)):Prop:=∀p∈ps,0<=p.1/\p.1<=20/\1<=p.2.1/\p.2.1<=20/\0<=p.2.2/\p.2.2<=31
theorem b4m {kd:Nat} (h:a4i kd):PB (a0g kd):=by
 unfold PB;rcases h with rfl|rfl|rfl|rfl|rfl|rfl|rfl|rfl|rfl|rfl<;>decide
theorem a9c (kd:Nat):(a0g kd).length<=4:=by
 unfold a0g
 repeat' split
 all_goals simp
theorem b7o (kd:Nat):(a2G kd:Int)<=40:=by
 unfold a2G
 repeat' split
 all_goals simp
theorem c19 (kd:Nat):-1048576<=least kd/\least kd<=0:=by
 unfold least
 repeat' split
 all_goals decide
theorem b2p {α:Type} {l:List α} {j:Nat} {p:α} (h:l[j]?=some p):l.take (j+1)=l.take j++[p]:=by
 rw[List.take_add_one,h];rfl
theorem b6X {n:Int} {ps:List (Int×Int×Int)} {j:Nat} {p:Int×Int×Int} (h:ps[j]?=some p):
    a6p n (ps.take (j+1)) 0=orz (a6p n (ps.take j) 0) (a0c n (p.1+p.2.1-1) p.1*2^p.2.2.toNat):=by
 rw[b2p h];unfold a6p;rw[List.foldl_append];rfl
theorem b7c {n:Int} {ps:List (Int×Int×Int)} {j:Nat} {p:Int×Int×Int} (h:ps[j]?=some p):
    a3g n (ps.take (j+1)) 0=orz (a3g n (ps.take j) 0) (a0c n (p.2.2+p.2.1-1) p.2.2*2^p.1.toNat):=by
 rw[b2p h];unfold a3g;rw[List.foldl_append];rfl
theorem b8x (n low width:Int) (l0:0<=low) (w0:1<=width) (w1:width<=20):0<=a0c n (low+width-1) low/\a0c n (low+width-1) low<=1048576:=by
 have h:=a0K n (low+width-1) low;have e:(low+width-1).toNat-low.toNat+1<=20:=by omega
 have:=a0M e;have e2:(2:Int)^20=1048576:=by decide
 omega
theorem c2D (b at':Int) (b0:0<=b) (b1:b<=1048576) (a1:at'<=31):0<=b*2^at'.toNat/\b*2^at'.toNat<=2251799813685248:=by
 have p0:=pow_pos at'.toNat;have p1:(2:Int)^at'.toNat<=2^31:=a0M (by omega)
 have e2:(2:Int)^31=2147483648:=by decide
 refine ⟨Int.mul_nonneg b0 (by omega),?_⟩
 have:=Int.mul_le_mul b1 p1 (by omega) (by decide)
 rw[e2]at this;omega
def rgW (n at':Int) (t:Bool):Int:=if t then a0c n (at'+5-1) at' else 0
theorem a9e (n:Int) (n0:0<=n) (n1:n<4294967296):(List.range 64).find? (fun k=>a1A k n)=(List.range 64).find? (a0R n):=by
 cases h:(List.range 64).find? (a0R n) with
 | none=>
  rw[List.find?_eq_none]at h ⊢;intro k hk;have:=h k hk;rw[a6a n k (by simpa using hk) n0 n1]
  exact this
 | some k=>
  rw[List.find?_range_eq_some]at h ⊢;obtain ⟨h1,h2,h3⟩:=h;have hk:k<64:=by simpa using h2
  refine ⟨by rw[a6a n k hk n0 n1];exact h1,h2,fun j hj=>?_⟩
  rw[a6a n j (by omega) n0 n1]
  exact h3 j hj
theorem c1j {n:Int} {k:Nat} (n0:0<=n) (n1:n<4294967296) (h:(List.range 64).find? (fun k=>a1A k n)=some k):k<64/\dec n=(a0w k n,0):=by
 rw[a9e n n0 n1]at h;have h':=h;rw[List.find?_range_eq_some]at h';refine ⟨by simpa using h'.2.1,?_⟩
 unfold dec;rw[if_neg (by omega),h]
theorem c7L {n:Int} (n0:0<=n) (n1:n<4294967296) (h:(List.range 64).find? (fun k=>a1A k n)=none):dec n=(⟨0,0,0,0,0⟩,1):=by
 rw[a9e n n0 n1]at h;unfold dec;rw[if_neg (by omega),h]
