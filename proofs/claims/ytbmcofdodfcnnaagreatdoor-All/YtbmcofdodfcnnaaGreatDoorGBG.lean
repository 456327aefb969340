import Derived.Test.YtbmcofdodfcnnaaGreatDoorGQ
set_option linter.all false
set_option maxHeartbeats 0
set_option maxRecDepth 100000
namespace Go
variable {imm x rs1 rs2 w : Int} {k : Nat}
def mP:∀k,k<64->(row k).opc%4=3:=by decide
structure mc (k:Nat) (rd rs1 rs2 imm w:Int):Prop where
 lo:0<=w
 hi:w<4294967296
 m4:w%4=3
 op:w%128=(row k).opc
 de:cH k w=⟨k+1,rd,rs1,rs2,imm⟩
def VL (h:-2048<=imm/\imm<=2047) (j:(2048<=imm/32%128*32+imm%32/\x=imm/32%128*32+imm%32-4096)\/(imm/32%128*32+imm%32<2048/\x=imm/32%128*32+imm%32)):x=imm:=by
 have e:imm/32%128*32+imm%32=imm%4096:=by omega
 rw[e]at j;omega
def Un (h:-4096<=imm/\imm<=4094) (y:imm%2=0) (j:(4096<=imm/4096%2*4096+imm/2048%2*2048+imm/32%64*32+imm/2%16*2/\x=imm/4096%2*4096+imm/2048%2*2048+imm/32%64*32+imm/2%16*2-8192)\/(imm/4096%2*4096+imm/2048%2*2048+imm/32%64*32+imm/2%16*2<4096/\x=imm/4096%2*4096+imm/2048%2*2048+imm/32%64*32+imm/2%16*2)):x=imm:=by
 have e:imm/4096%2*4096+imm/2048%2*2048+imm/32%64*32+imm/2%16*2=imm%8192:=by
  have q:imm/2%16*2=imm%32:=by omega
  have u:imm/32%64*32+imm%32=imm%2048:=by omega
  have v:imm/2048%2*2048+imm%2048=imm%4096:=by omega
  have w:imm/4096%2*4096+imm%4096=imm%8192:=by omega
  omega
 rw[e]at j;omega
def TC (h:-1048576<=imm/\imm<=1048574) (y:imm%2=0) (j:(1048576<=imm/1048576%2*1048576+imm/4096%256*4096+imm/2048%2*2048+imm/2%1024*2/\x=imm/1048576%2*1048576+imm/4096%256*4096+imm/2048%2*2048+imm/2%1024*2-2097152)\/(imm/1048576%2*1048576+imm/4096%256*4096+imm/2048%2*2048+imm/2%1024*2<1048576/\x=imm/1048576%2*1048576+imm/4096%256*4096+imm/2048%2*2048+imm/2%1024*2)):x=imm:=by
 have e:imm/1048576%2*1048576+imm/4096%256*4096+imm/2048%2*2048+imm/2%1024*2=imm%2097152:=by
  have q:imm/2%1024*2=imm%2048:=by omega
  have u:imm/2048%2*2048+imm%2048=imm%4096:=by omega
  have v:imm/4096%256*4096+imm%4096=imm%1048576:=by omega
  have w:imm/1048576%2*1048576+imm%1048576=imm%2097152:=by omega
  omega
 rw[e]at j;omega
def TN {rd:Int} (j:k<64) (A:right ⟨k+1,rd,rs1,rs2,imm⟩=true) (h:(row k).kind=82):mc k rd rs1 rs2 imm (dS k rd rs1 rs2 imm):=by
 have C:=kc k j;have E:=mP k j;have y:=lc k j;rw[dJ _ _ _ _ _ j,h]at A;rw[h]at y;simp[has,cK,bU,cW]at A y;rw[wo _ _ _ _ _ h];have v:=λ w=>zq k w h
 simp only[nx,o5,rZ]at v;generalize q:cH k=D at *;generalize u:(row k).opc=o at *;generalize (row k).f=f at *;generalize (row k).g=g at *;refine ⟨by omega,by omega,by omega,by rw[u];omega,?_⟩
 rw[q,v];simp only[aE.mk.injEq,true_and];exact ⟨by omega,by omega,by omega,by omega⟩
def TY {rd:Int} (j:k<64) (A:right ⟨k+1,rd,rs1,rs2,imm⟩=true) (h:(row k).kind=73):mc k rd rs1 rs2 imm (dS k rd rs1 rs2 imm):=by
 have E:=kc k j;have F:=mP k j;have y:=lc k j;rw[dJ _ _ _ _ _ j,h]at A;rw[h]at y;simp[has,cK,bU,cW]at A y;rw[wh _ _ _ _ _ h];simp only[vm];have v:=λ w=>yK k w h
 simp only[nx,o5,yb]at v;generalize q:cH k=D at *;generalize u:(row k).opc=o at *;generalize (row k).f=f at *;generalize (row k).g=g at *;refine ⟨by omega,by omega,by omega,by rw[u];omega,?_⟩
 rw[q,v];simp only[aE.mk.injEq,true_and];have C:(o+rd*128+rs1*32768+rs2*1048576+f*4096+imm%4096*1048576)/1048576%4096=imm%4096:=by omega
 rw[C];have G:=lD (imm%4096);generalize bG (imm%4096) _=x at *;exact ⟨by omega,by omega,by omega,by omega⟩
def Ut {rd:Int} (j:k<64) (A:right ⟨k+1,rd,rs1,rs2,imm⟩=true) (h:(row k).kind=76):mc k rd rs1 rs2 imm (dS k rd rs1 rs2 imm):=by
 have E:=kc k j;have F:=mP k j;have y:=lc k j;rw[dJ _ _ _ _ _ j,h]at A;rw[h]at y;simp[has,cK,bU,cW]at A y;rw[ws _ _ _ _ _ h];simp only[vm];have v:=λ w=>yz k w h
 simp only[nx,o5,yb]at v;generalize q:cH k=D at *;generalize u:(row k).opc=o at *;generalize (row k).f=f at *;generalize (row k).g=g at *;refine ⟨by omega,by omega,by omega,by rw[u];omega,?_⟩
 rw[q,v];simp only[aE.mk.injEq,true_and];have C:(o+rd*128+rs1*32768+rs2*1048576+f*4096+imm%4096*1048576)/1048576%4096=imm%4096:=by omega
 rw[C];have G:=lD (imm%4096);generalize bG (imm%4096) _=x at *;exact ⟨by omega,by omega,by omega,by omega⟩
def TF {rd:Int} (j:k<64) (A:right ⟨k+1,rd,rs1,rs2,imm⟩=true) (h:(row k).kind=72):mc k rd rs1 rs2 imm (dS k rd rs1 rs2 imm):=by
 have C:=kc k j;have E:=mP k j;have y:=lc k j;rw[dJ _ _ _ _ _ j,h]at A;rw[h]at y;simp[has,cK,bU,cW]at A y;rw[vR _ _ _ _ _ h];have v:=λ w=>zu k w h
 simp only[nx,o5,F5]at v;generalize q:cH k=D at *;generalize u:(row k).opc=o at *;generalize (row k).f=f at *;generalize (row k).g=g at *;refine ⟨by omega,by omega,by omega,by rw[u];omega,?_⟩
 rw[q,v];simp only[aE.mk.injEq,true_and];exact ⟨by omega,by omega,by omega,by omega⟩
def Ve {rd:Int} (j:k<64) (A:right ⟨k+1,rd,rs1,rs2,imm⟩=true) (h:(row k).kind=87):mc k rd rs1 rs2 imm (dS k rd rs1 rs2 imm):=by
 have C:=kc k j;have E:=mP k j;have y:=lc k j;rw[dJ _ _ _ _ _ j,h]at A;rw[h]at y;simp[has,cK,bU,cW]at A y;rw[vN _ _ _ _ _ h];have v:=λ w=>yW k w h
 simp only[nx,o5,rZ]at v;generalize q:cH k=D at *;generalize u:(row k).opc=o at *;generalize (row k).f=f at *;generalize (row k).g=g at *;refine ⟨by omega,by omega,by omega,by rw[u];omega,?_⟩
 rw[q,v];simp only[aE.mk.injEq,true_and];exact ⟨by omega,by omega,by omega,by omega⟩
def Ur {rd:Int} (q:k<64) (G:right ⟨k+1,rd,rs1,rs2,imm⟩=true) (h:(row k).kind=83):mc k rd rs1 rs2 imm (dS k rd rs1 rs2 imm):=by
 have L:=kc k q;have M:=mP k q;have F:=lc k q;rw[dJ _ _ _ _ _ q,h]at G;rw[h]at F;simp[has,cK,bU,cW]at G F;rw[vO _ _ _ _ _ h];simp only[FE,AA];have E:=λ w=>yN k w h
 simp only[o5,rZ,Et,nx]at E;generalize u:cH k=D at *;generalize v:(row k).opc=o at *;generalize (row k).f=f at *;generalize (row k).g=g at *;have y:=lD (imm/32%128*32+imm%32);generalize hx:bG (imm/32%128*32+imm%32) _=x at y;have j:x=imm:=VL (by omega) y
 rw[j]at hx;clear y j;have J:0<=imm/32%128/\imm/32%128<=127:=by omega
 have K:0<=imm%32/\imm%32<=31:=by omega
 generalize imm/32%128=A at *;generalize imm%32=C at *;refine ⟨by omega,by omega,by omega,by rw[v];omega,?_⟩
 rw[u,E];simp only[aE.mk.injEq,true_and];have H:(o+rd*128+rs1*32768+rs2*1048576+f*4096+A*33554432+C*128)/33554432%128=A:=by omega
 have I:(o+rd*128+rs1*32768+rs2*1048576+f*4096+A*33554432+C*128)/128%32=C:=by omega
 rw[H,I,hx];exact ⟨by omega,by omega,by omega,rfl⟩
def UW {rd:Int} (q:k<64) (y:right ⟨k+1,rd,rs1,rs2,imm⟩=true) (h:(row k).kind=66):mc k rd rs1 rs2 imm (dS k rd rs1 rs2 imm):=by
 have U:=kc k q;have V:=mP k q;have I:=lc k q;rw[dJ _ _ _ _ _ q,h]at y;rw[h]at I;simp[has,cK,bU,cW]at y I;rw[vP _ _ _ _ _ h];simp only[Ee,Fj,GW,uH];have H:=λ w=>yY k w h
 simp only[o5,rZ,xG,GR,Ep,FR]at H;generalize u:cH k=D at *;generalize v:(row k).opc=o at *;generalize (row k).f=f at *;generalize (row k).g=g at *;have G:=wA (imm/4096%2*4096+imm/2048%2*2048+imm/32%64*32+imm/2%16*2);generalize hx:bG (imm/4096%2*4096+imm/2048%2*2048+imm/32%64*32+imm/2%16*2) _=x at G
 have K:imm%2=0:=by
  have J:imm.tmod 2=0:=by simp only[y]
  rw[Int.tmod_eq_emod]at J
  split at J<;>omega
 have j:x=imm:=Un (by omega) K G
 rw[j]at hx;clear G j;have P:0<=imm/4096%2/\imm/4096%2<=1:=by omega
 have Q:0<=imm/32%64/\imm/32%64<=63:=by omega
 have R:0<=imm/2%16/\imm/2%16<=15:=by omega
 have T:0<=imm/2048%2/\imm/2048%2<=1:=by omega
 generalize imm/4096%2=A at *;generalize imm/32%64=C at *;generalize imm/2%16=E at *;generalize imm/2048%2=F at *;refine ⟨by omega,by omega,by omega,by rw[v];omega,?_⟩
 rw[u,H];simp only[aE.mk.injEq,true_and];have L:(o+rd*128+rs1*32768+rs2*1048576+f*4096+A*2147483648+C*33554432+E*256+F*128)/2147483648%2=A:=by omega
 have M:(o+rd*128+rs1*32768+rs2*1048576+f*4096+A*2147483648+C*33554432+E*256+F*128)/128%2=F:=by omega
 have N:(o+rd*128+rs1*32768+rs2*1048576+f*4096+A*2147483648+C*33554432+E*256+F*128)/33554432%64=C:=by omega
 have O:(o+rd*128+rs1*32768+rs2*1048576+f*4096+A*2147483648+C*33554432+E*256+F*128)/256%16=E:=by omega
 rw[L,M,N,O,hx];exact ⟨by omega,by omega,by omega,rfl⟩
def Uz {rd:Int} (j:k<64) (A:right ⟨k+1,rd,rs1,rs2,imm⟩=true) (h:(row k).kind=85):mc k rd rs1 rs2 imm (dS k rd rs1 rs2 imm):=by
 have E:=kc k j;have F:=mP k j;have y:=lc k j;rw[dJ _ _ _ _ _ j,h]at A;rw[h]at y;simp[has,cK,bU,cW]at A y;rw[vS _ _ _ _ _ h];simp only[Fz];have v:=λ w=>zA k w h
 simp only[nx,Eb]at v;generalize q:cH k=D at *;generalize u:(row k).opc=o at *;generalize (row k).f=f at *;generalize (row k).g=g at *;refine ⟨by omega,by omega,by omega,by rw[u];omega,?_⟩
 rw[q,v];simp only[aE.mk.injEq,true_and];have C:(o+rd*128+rs1*32768+rs2*1048576+imm%1048576*4096)/4096%1048576=imm%1048576:=by omega
 rw[C];have G:=wD (imm%1048576);generalize bG (imm%1048576) _=x at *;exact ⟨by omega,by omega,by omega,by omega⟩
def U0 {rd:Int} (q:k<64) (y:right ⟨k+1,rd,rs1,rs2,imm⟩=true) (h:(row k).kind=74):mc k rd rs1 rs2 imm (dS k rd rs1 rs2 imm):=by
 have U:=kc k q;have V:=mP k q;have I:=lc k q;rw[dJ _ _ _ _ _ q,h]at y;rw[h]at I;simp[has,cK,bU,cW]at y I;rw[vQ _ _ _ _ _ h];simp only[v6,Fq,uH,uJ];have H:=λ w=>zC k w h
 simp only[nx,xG,uJ,v6,Ey]at H;generalize u:cH k=D at *;generalize v:(row k).opc=o at *;generalize (row k).f=f at *;generalize (row k).g=g at *;have G:=wH (imm/1048576%2*1048576+imm/4096%256*4096+imm/2048%2*2048+imm/2%1024*2);generalize hx:bG (imm/1048576%2*1048576+imm/4096%256*4096+imm/2048%2*2048+imm/2%1024*2) _=x at G
 have K:imm%2=0:=by
  have J:imm.tmod 2=0:=by simp only[y]
  rw[Int.tmod_eq_emod]at J
  split at J<;>omega
 have j:x=imm:=TC (by omega) K G
 rw[j]at hx;clear G j;have P:0<=imm/1048576%2/\imm/1048576%2<=1:=by omega
 have Q:0<=imm/2%1024/\imm/2%1024<=1023:=by omega
 have R:0<=imm/2048%2/\imm/2048%2<=1:=by omega
 have T:0<=imm/4096%256/\imm/4096%256<=255:=by omega
 generalize imm/1048576%2=A at *;generalize imm/2%1024=C at *;generalize imm/2048%2=E at *;generalize imm/4096%256=F at *;refine ⟨by omega,by omega,by omega,by rw[v];omega,?_⟩
 rw[u,H];simp only[aE.mk.injEq,true_and];have L:(o+rd*128+rs1*32768+rs2*1048576+A*2147483648+C*2097152+E*1048576+F*4096)/2147483648%2=A:=by omega
 have M:(o+rd*128+rs1*32768+rs2*1048576+A*2147483648+C*2097152+E*1048576+F*4096)/4096%256=F:=by omega
 have N:(o+rd*128+rs1*32768+rs2*1048576+A*2147483648+C*2097152+E*1048576+F*4096)/1048576%2=E:=by omega
 have O:(o+rd*128+rs1*32768+rs2*1048576+A*2147483648+C*2097152+E*1048576+F*4096)/2097152%1024=C:=by omega
 rw[L,M,N,O,hx];exact ⟨by omega,by omega,by omega,rfl⟩
def UD {rd:Int} (j:k<64) (y:right ⟨k+1,rd,rs1,rs2,imm⟩=true) (h:(row k).kind=78):mc k rd rs1 rs2 imm (dS k rd rs1 rs2 imm):=by
 have C:=kc k j;have E:=mP k j;have v:=lc k j;rw[dJ _ _ _ _ _ j,h]at y;rw[h]at v;simp[has,cK,cW]at y v;rw[ww _ _ _ _ _ h];have A:=λ w=>yX k w h
 generalize q:cH k=D at *;generalize u:(row k).opc=o at *;generalize (row k).f=f at *;generalize (row k).g=g at *;refine ⟨by omega,by omega,by omega,by rw[u];omega,?_⟩
 rw[q,A];simp only[aE.mk.injEq,true_and];exact ⟨by omega,by omega,by omega,by omega⟩
def T9 {rd:Int} (j:k<64) (q:right ⟨k+1,rd,rs1,rs2,imm⟩=true):mc k rd rs1 rs2 imm (dS k rd rs1 rs2 imm):=by
 rcases kinds k j with h|h|h|h|h|h|h|h|h|h
 .exact TN j q h
 .exact TY j q h
 .exact Ut j q h
 .exact TF j q h
 .exact Ve j q h
 .exact Ur j q h
 .exact UW j q h
 .exact Uz j q h
 .exact U0 j q h
 exact UD j q h
def mN (k:Nat):Nat:=(fX (row k).kind).toNat
def xN (k:Nat):Nat:=(je (row k).opc (row k).f (row k).g (2^dL (row k).kind)).toNat
def X4:∀j,j<64->∀k,k<64->j≠k->¬(xN j &&& mN k=xN k &&& mN j):=by decide +kernel
def Xn:∀k,k<64->mN k<2^62/\0<=fX (row k).kind:=by decide +kernel
def Ef (n k:Nat) (w:n<4294967296) (u:k<64) (h:jC k n=true):n &&& mN k=xN k:=by
 unfold jC at h;rw[Bool.and_eq_true,decide_eq_true_eq,decide_eq_true_eq]at h;have v:=Xn k u;have e:fX (row k).kind=((mN k:Nat):Int):=by unfold mN;omega
 have j:=h.2;rw[e]at j;have q:eO n (mN k:Int)=((n &&& mN k:Nat):Int):=(bits_nat .i64 62 (by decide) uu n (mN k) (by omega) v.1).1
 rw[q]at j;unfold xN;rw[<-j];simp
def Ov {j:Nat} (v:0<=w) (C:w<4294967296) (y:j<64) (A:k<64) (h:gL w j=true) (q:gL w k=true):j=k:=by
 obtain ⟨n,rfl⟩:=Int.eq_ofNat_of_zero_le v;rw[<-sI _ _ y v C]at h;rw[<-sI _ _ A v C]at q;have D:=Ef n j (by omega) y h
 have E:=Ef n k (by omega) A q
 by_cases u:j=k
 .exact u
 refine absurd ?_ (X4 j y k A u);rw[<-D,<-E,Nat.and_assoc,Nat.and_assoc,Nat.and_comm (mN j)]
def uK {i:aE} (h:right i=true):∃k:Nat,k<64/\i.op=k+1:=by
 by_cases j:1<=i.op/\i.op<=64
 .exact ⟨(i.op-1).toNat,by omega,by omega⟩
 rw[lY i j]at h;cases h
def Sc {i:aE} (h:right i=true):bW (bB i).1=(i,0)/\(bB i).2=0/\(bB i).1%4=3/\0<=(bB i).1/\(bB i).1<4294967296:=by
 obtain ⟨k,u,y⟩:=uK h;obtain ⟨op,rd,rs1,rs2,imm⟩:=i;simp only at y;subst y;have q:=T9 u h;rw[ky h];refine ⟨?_,rfl,q.m4,q.lo,q.hi⟩
 have w:gL (dS k rd rs1 rs2 imm) k=true:=by
  unfold gL;rw[q.de,ky h,Bz,q.op];simp
 rw[FC q.lo q.hi u (λ j A=>?_) w,q.de]
 by_cases v:gL (dS k rd rs1 rs2 imm) j=true
 .have:=Ov q.lo q.hi (by omega) u v w;omega
 simpa using v
def Tx (u:Nat):Lib.itoa (u:Int)=Lib.decDigits u:=by unfold Lib.itoa;rw[if_neg (by omega)];simp
def R9 (u:Nat) (h:1<=u):Lib.itoa (-(u:Int))=45::Lib.decDigits u:=by unfold Lib.itoa;rw[if_pos (by omega)];simp
def Fv (u) (h:u<10000000):1<=(Lib.decDigits u).length/\(Lib.decDigits u).length<=7:=by
 rw[Lib.decDigits_length];refine ⟨Lib.nDigits_pos u,?_⟩;have w:∀v,v<10->Lib.nDigits v=1:=λ v q=>Lib.nDigits_small q
 have j:∀v,Lib.nDigits v<=Lib.nDigits (v/10)+1:=λ v=>by
  by_cases q:v<10
  .rw[Lib.nDigits_small q];omega
  rw[Lib.nDigits_big q];omega
 have y:=j u;have A:=j (u/10);have C:=j (u/10/10);have D:=j (u/10/10/10);have E:=j (u/10/10/10/10);have F:=j (u/10/10/10/10/10);have G:=w (u/10/10/10/10/10/10) (by omega)
 omega
structure tM (i:aE):Prop where
 d:0<=i.rd/\i.rd<=31
 s:0<=i.rs1/\i.rs1<=31
 t:0<=i.rs2/\i.rs2<=31
 n:-10000000<i.imm/\i.imm<10000000
def vu (n) (j:-10000000<n) (q:n<10000000):(Lib.itoa n).length<=8:=by
 by_cases v:n<0
 .obtain ⟨u,h⟩:∃u:Nat,n=-(u:Int):=⟨n.natAbs,by omega⟩
  subst h;rw[R9 u (by omega)]
  have:=Fv u (by omega)
  simp;omega
 obtain ⟨u,h⟩:∃u:Nat,n=(u:Int):=⟨n.toNat,by omega⟩
 subst h;rw[Tx];have:=Fv u (by omega)
 omega
def Sj (i) (H:tM i) (r) (h:gQ r):(pP i r).length<=9:=by
 have j:=vu i.rd (by have:=H.d;omega) (by have:=H.d;omega)
 have q:=vu i.rs1 (by have:=H.s;omega) (by have:=H.s;omega)
 have u:=vu i.rs2 (by have:=H.t;omega) (by have:=H.t;omega)
 have v:=vu i.imm H.n.1 H.n.2;rcases h with rfl|rfl|rfl|rfl|rfl|rfl|rfl|rfl<;>simp[pP,gP]<;>omega
def FI (i:aE) (H:tM i):∀F:List UInt8,(∀r∈F,gQ r)->(F.flatMap (pP i)).length<=9*F.length
 | [],_=>by simp
 | r::F,h=>by
  have j:=Sj i H r (h r List.mem_cons_self);have q:=FI i H F (λ x hx=>h x (List.mem_cons_of_mem _ hx))
  simp only[List.flatMap_cons,List.length_append,List.length_cons];omega
def Rb (k) (j:k<64) (i) (H:tM i) (h:nG (row k).kind):((row k).name++behind (row k).kind (gP i.rd) (gP i.rs1) (gP i.rs2) (Lib.itoa i.imm)).length<=2000:=by
 rw[<-xO h i];have q:=yx k j;have u:=FI i H _ (qC h);have v:=vy (row k).kind
 split
 .simp;omega
 simp only[List.length_append,List.length_cons];omega
def TM {rd:Int} (j:k<64) (h:right ⟨k+1,rd,rs1,rs2,imm⟩=true):tM ⟨k+1,rd,rs1,rs2,imm⟩:=by
 obtain ⟨a,b,c,d⟩:=o6 j h;exact ⟨a,b,c,by simp only;omega⟩
