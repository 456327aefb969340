import Derived.Test.YtbmcofdodfcnnaaGreatDoorGP
import Derived.Test.YtbmcofdodfcnnaaGreatDoorGQ
set_option linter.all false
set_option maxHeartbeats 400000000
set_option maxRecDepth 100000
namespace Pn
open Go
theorem a3A:∀k,k<64->(row k).opc%4=3:=by decide
structure a4J (k:Nat) (rd rs1 rs2 imm w:Int):Prop where
 lo:0<=w
 hi:w<4294967296
 m4:w%4=3
 op:w%128=(row k).opc
 de:a0w k w=⟨k+1,rd,rs1,rs2,imm⟩
theorem c7p {imm x:Int} (h:-2048<=imm/\imm<=2047) (hs:(2048<=imm/32%128*32+imm%32/\x=imm/32%128*32+imm%32-4096)\/(imm/32%128*32+imm%32<2048/\x=imm/32%128*32+imm%32)):x=imm:=by
 have e:imm/32%128*32+imm%32=imm%4096:=by omega
 rw[e]at hs;omega
theorem c7D {imm x:Int} (h:-4096<=imm/\imm<=4094) (h2:imm%2=0) (hs:(4096<=imm/4096%2*4096+imm/2048%2*2048+imm/32%64*32+imm/2%16*2/\x=imm/4096%2*4096+imm/2048%2*2048+imm/32%64*32+imm/2%16*2-8192)\/(imm/4096%2*4096+imm/2048%2*2048+imm/32%64*32+imm/2%16*2<4096/\x=imm/4096%2*4096+imm/2048%2*2048+imm/32%64*32+imm/2%16*2)):x=imm:=by
 have e:imm/4096%2*4096+imm/2048%2*2048+imm/32%64*32+imm/2%16*2=imm%8192:=by
  have e1:imm/2%16*2=imm%32:=by omega
  have e2:imm/32%64*32+imm%32=imm%2048:=by omega
  have e3:imm/2048%2*2048+imm%2048=imm%4096:=by omega
  have e4:imm/4096%2*4096+imm%4096=imm%8192:=by omega
  omega
 rw[e]at hs;omega
theorem c5i {imm x:Int} (h:-1048576<=imm/\imm<=1048574) (h2:imm%2=0) (hs:(1048576<=imm/1048576%2*1048576+imm/4096%256*4096+imm/2048%2*2048+imm/2%1024*2/\x=imm/1048576%2*1048576+imm/4096%256*4096+imm/2048%2*2048+imm/2%1024*2-2097152)\/(imm/1048576%2*1048576+imm/4096%256*4096+imm/2048%2*2048+imm/2%1024*2<1048576/\x=imm/1048576%2*1048576+imm/4096%256*4096+imm/2048%2*2048+imm/2%1024*2)):x=imm:=by
 have e:imm/1048576%2*1048576+imm/4096%256*4096+imm/2048%2*2048+imm/2%1024*2=imm%2097152:=by
  have e1:imm/2%1024*2=imm%2048:=by omega
  have e2:imm/2048%2*2048+imm%2048=imm%4096:=by omega
  have e3:imm/4096%256*4096+imm%4096=imm%1048576:=by omega
  have e4:imm/1048576%2*1048576+imm%1048576=imm%2097152:=by omega
  omega
 rw[e]at hs;omega
theorem c7b {k:Nat} {rd rs1 rs2 imm:Int} (hk:k<64) (hr:right ⟨k+1,rd,rs1,rs2,imm⟩=true) (h:(row k).kind=82):a4J k rd rs1 rs2 imm (a2M k rd rs1 rs2 imm):=by
 have hb:=a0Z k hk;have ho:=a3A k hk;have hg:=a06 k hk;rw[a0d _ _ _ _ _ hk,h]at hr;rw[h]at hg;simp[has,a0e,a0j,a0p]at hr hg;rw[b4s _ _ _ _ _ h];have hd:=fun w=>b0h k w h
 simp only[a1M,a1x,a3r]at hd;generalize hdd:a0w k=D at *;generalize hoe:(row k).opc=o at *;generalize (row k).f=f at *;generalize (row k).g=g at *;refine ⟨by omega,by omega,by omega,by rw[hoe];omega,?_⟩
 rw[hdd,hd];simp only[Ins.mk.injEq,true_and];exact ⟨by omega,by omega,by omega,by omega⟩
theorem c7A {k:Nat} {rd rs1 rs2 imm:Int} (hk:k<64) (hr:right ⟨k+1,rd,rs1,rs2,imm⟩=true) (h:(row k).kind=73):a4J k rd rs1 rs2 imm (a2M k rd rs1 rs2 imm):=by
 have hb:=a0Z k hk;have ho:=a3A k hk;have hg:=a06 k hk;rw[a0d _ _ _ _ _ hk,h]at hr;rw[h]at hg;simp[has,a0e,a0j,a0p]at hr hg;rw[b44 _ _ _ _ _ h];simp only[b0C];have hd:=fun w=>b0a k w h
 simp only[a1M,a1x,a7p]at hd;generalize hdd:a0w k=D at *;generalize hoe:(row k).opc=o at *;generalize (row k).f=f at *;generalize (row k).g=g at *;refine ⟨by omega,by omega,by omega,by rw[hoe];omega,?_⟩
 rw[hdd,hd];simp only[Ins.mk.injEq,true_and];have q0:(o+rd*128+rs1*32768+rs2*1048576+f*4096+imm%4096*1048576)/1048576%4096=imm%4096:=by omega
 rw[q0];have hs:=a7c (imm%4096);generalize a0E (imm%4096) _=x at *;exact ⟨by omega,by omega,by omega,by omega⟩
theorem c7R {k:Nat} {rd rs1 rs2 imm:Int} (hk:k<64) (hr:right ⟨k+1,rd,rs1,rs2,imm⟩=true) (h:(row k).kind=76):a4J k rd rs1 rs2 imm (a2M k rd rs1 rs2 imm):=by
 have hb:=a0Z k hk;have ho:=a3A k hk;have hg:=a06 k hk;rw[a0d _ _ _ _ _ hk,h]at hr;rw[h]at hg;simp[has,a0e,a0j,a0p]at hr hg;rw[b4y _ _ _ _ _ h];simp only[b0C];have hd:=fun w=>b0W k w h
 simp only[a1M,a1x,a7p]at hd;generalize hdd:a0w k=D at *;generalize hoe:(row k).opc=o at *;generalize (row k).f=f at *;generalize (row k).g=g at *;refine ⟨by omega,by omega,by omega,by rw[hoe];omega,?_⟩
 rw[hdd,hd];simp only[Ins.mk.injEq,true_and];have q0:(o+rd*128+rs1*32768+rs2*1048576+f*4096+imm%4096*1048576)/1048576%4096=imm%4096:=by omega
 rw[q0];have hs:=a7c (imm%4096);generalize a0E (imm%4096) _=x at *;exact ⟨by omega,by omega,by omega,by omega⟩
theorem c50 {k:Nat} {rd rs1 rs2 imm:Int} (hk:k<64) (hr:right ⟨k+1,rd,rs1,rs2,imm⟩=true) (h:(row k).kind=72):a4J k rd rs1 rs2 imm (a2M k rd rs1 rs2 imm):=by
 have hb:=a0Z k hk;have ho:=a3A k hk;have hg:=a06 k hk;rw[a0d _ _ _ _ _ hk,h]at hr;rw[h]at hg;simp[has,a0e,a0j,a0p]at hr hg;rw[b4o _ _ _ _ _ h];have hd:=fun w=>b0N k w h
 simp only[a1M,a1x,b3U]at hd;generalize hdd:a0w k=D at *;generalize hoe:(row k).opc=o at *;generalize (row k).f=f at *;generalize (row k).g=g at *;refine ⟨by omega,by omega,by omega,by rw[hoe];omega,?_⟩
 rw[hdd,hd];simp only[Ins.mk.injEq,true_and];exact ⟨by omega,by omega,by omega,by omega⟩
theorem c78 {k:Nat} {rd rs1 rs2 imm:Int} (hk:k<64) (hr:right ⟨k+1,rd,rs1,rs2,imm⟩=true) (h:(row k).kind=87):a4J k rd rs1 rs2 imm (a2M k rd rs1 rs2 imm):=by
 have hb:=a0Z k hk;have ho:=a3A k hk;have hg:=a06 k hk;rw[a0d _ _ _ _ _ hk,h]at hr;rw[h]at hg;simp[has,a0e,a0j,a0p]at hr hg;rw[b4A _ _ _ _ _ h];have hd:=fun w=>b0K k w h
 simp only[a1M,a1x,a3r]at hd;generalize hdd:a0w k=D at *;generalize hoe:(row k).opc=o at *;generalize (row k).f=f at *;generalize (row k).g=g at *;refine ⟨by omega,by omega,by omega,by rw[hoe];omega,?_⟩
 rw[hdd,hd];simp only[Ins.mk.injEq,true_and];exact ⟨by omega,by omega,by omega,by omega⟩
theorem c7K {k:Nat} {rd rs1 rs2 imm:Int} (hk:k<64) (hr:right ⟨k+1,rd,rs1,rs2,imm⟩=true) (h:(row k).kind=83):a4J k rd rs1 rs2 imm (a2M k rd rs1 rs2 imm):=by
 have hb:=a0Z k hk;have ho:=a3A k hk;have hg:=a06 k hk;rw[a0d _ _ _ _ _ hk,h]at hr;rw[h]at hg;simp[has,a0e,a0j,a0p]at hr hg;rw[b33 _ _ _ _ _ h];simp only[b88,b8q];have hd:=fun w=>b0y k w h
 simp only[a1x,a3r,b37,a1M]at hd;generalize hdd:a0w k=D at *;generalize hoe:(row k).opc=o at *;generalize (row k).f=f at *;generalize (row k).g=g at *;have hs:=a7c (imm/32%128*32+imm%32);generalize hx:a0E (imm/32%128*32+imm%32) _=x at hs;have hxe:x=imm:=c7p (by omega) hs
 rw[hxe]at hx;clear hs hxe;have bA:0<=imm/32%128/\imm/32%128<=127:=by omega
 have bC:0<=imm%32/\imm%32<=31:=by omega
 generalize imm/32%128=A at *;generalize imm%32=C at *;refine ⟨by omega,by omega,by omega,by rw[hoe];omega,?_⟩
 rw[hdd,hd];simp only[Ins.mk.injEq,true_and];have q0:(o+rd*128+rs1*32768+rs2*1048576+f*4096+A*33554432+C*128)/33554432%128=A:=by omega
 have q1:(o+rd*128+rs1*32768+rs2*1048576+f*4096+A*33554432+C*128)/128%32=C:=by omega
 rw[q0,q1,hx];exact ⟨by omega,by omega,by omega,rfl⟩
theorem c6b {k:Nat} {rd rs1 rs2 imm:Int} (hk:k<64) (hr:right ⟨k+1,rd,rs1,rs2,imm⟩=true) (h:(row k).kind=66):a4J k rd rs1 rs2 imm (a2M k rd rs1 rs2 imm):=by
 have hb:=a0Z k hk;have ho:=a3A k hk;have hg:=a06 k hk;rw[a0d _ _ _ _ _ hk,h]at hr;rw[h]at hg;simp[has,a0e,a0j,a0p]at hr hg;rw[b4i _ _ _ _ _ h];simp only[b5j,b9t,c2F,a7x];have hd:=fun w=>b0v k w h
 simp only[a1x,a3r,a7B,c2L,b3Q,b6C]at hd;generalize hdd:a0w k=D at *;generalize hoe:(row k).opc=o at *;generalize (row k).f=f at *;generalize (row k).g=g at *;have hs:=c0B (imm/4096%2*4096+imm/2048%2*2048+imm/32%64*32+imm/2%16*2);generalize hx:a0E (imm/4096%2*4096+imm/2048%2*2048+imm/32%64*32+imm/2%16*2) _=x at hs
 have h2:imm%2=0:=by
  have ht:imm.tmod 2=0:=by simp only[hr]
  rw[Int.tmod_eq_emod]at ht
  split at ht<;>omega
 have hxe:x=imm:=c7D (by omega) h2 hs
 rw[hxe]at hx;clear hs hxe;have bA:0<=imm/4096%2/\imm/4096%2<=1:=by omega
 have bC:0<=imm/32%64/\imm/32%64<=63:=by omega
 have bE:0<=imm/2%16/\imm/2%16<=15:=by omega
 have bF:0<=imm/2048%2/\imm/2048%2<=1:=by omega
 generalize imm/4096%2=A at *;generalize imm/32%64=C at *;generalize imm/2%16=E at *;generalize imm/2048%2=F at *;refine ⟨by omega,by omega,by omega,by rw[hoe];omega,?_⟩
 rw[hdd,hd];simp only[Ins.mk.injEq,true_and];have q0:(o+rd*128+rs1*32768+rs2*1048576+f*4096+A*2147483648+C*33554432+E*256+F*128)/2147483648%2=A:=by omega
 have q1:(o+rd*128+rs1*32768+rs2*1048576+f*4096+A*2147483648+C*33554432+E*256+F*128)/128%2=F:=by omega
 have q2:(o+rd*128+rs1*32768+rs2*1048576+f*4096+A*2147483648+C*33554432+E*256+F*128)/33554432%64=C:=by omega
 have q3:(o+rd*128+rs1*32768+rs2*1048576+f*4096+A*2147483648+C*33554432+E*256+F*128)/256%16=E:=by omega
 rw[q0,q1,q2,q3,hx];exact ⟨by omega,by omega,by omega,rfl⟩
theorem c72 {k:Nat} {rd rs1 rs2 imm:Int} (hk:k<64) (hr:right ⟨k+1,rd,rs1,rs2,imm⟩=true) (h:(row k).kind=85):a4J k rd rs1 rs2 imm (a2M k rd rs1 rs2 imm):=by
 have hb:=a0Z k hk;have ho:=a3A k hk;have hg:=a06 k hk;rw[a0d _ _ _ _ _ hk,h]at hr;rw[h]at hg;simp[has,a0e,a0j,a0p]at hr hg;rw[b4D _ _ _ _ _ h];simp only[b78];have hd:=fun w=>b0F k w h
 simp only[a1M,b4P]at hd;generalize hdd:a0w k=D at *;generalize hoe:(row k).opc=o at *;generalize (row k).f=f at *;generalize (row k).g=g at *;refine ⟨by omega,by omega,by omega,by rw[hoe];omega,?_⟩
 rw[hdd,hd];simp only[Ins.mk.injEq,true_and];have q0:(o+rd*128+rs1*32768+rs2*1048576+imm%1048576*4096)/4096%1048576=imm%1048576:=by omega
 rw[q0];have hs:=c1C (imm%1048576);generalize a0E (imm%1048576) _=x at *;exact ⟨by omega,by omega,by omega,by omega⟩
theorem c5l {k:Nat} {rd rs1 rs2 imm:Int} (hk:k<64) (hr:right ⟨k+1,rd,rs1,rs2,imm⟩=true) (h:(row k).kind=74):a4J k rd rs1 rs2 imm (a2M k rd rs1 rs2 imm):=by
 have hb:=a0Z k hk;have ho:=a3A k hk;have hg:=a06 k hk;rw[a0d _ _ _ _ _ hk,h]at hr;rw[h]at hg;simp[has,a0e,a0j,a0p]at hr hg;rw[b4r _ _ _ _ _ h];simp only[a7A,b9S,a7x,a7v];have hd:=fun w=>b0r k w h
 simp only[a1M,a7B,a7v,a7A,b3V]at hd;generalize hdd:a0w k=D at *;generalize hoe:(row k).opc=o at *;generalize (row k).f=f at *;generalize (row k).g=g at *;have hs:=c1Y (imm/1048576%2*1048576+imm/4096%256*4096+imm/2048%2*2048+imm/2%1024*2);generalize hx:a0E (imm/1048576%2*1048576+imm/4096%256*4096+imm/2048%2*2048+imm/2%1024*2) _=x at hs
 have h2:imm%2=0:=by
  have ht:imm.tmod 2=0:=by simp only[hr]
  rw[Int.tmod_eq_emod]at ht
  split at ht<;>omega
 have hxe:x=imm:=c5i (by omega) h2 hs
 rw[hxe]at hx;clear hs hxe;have bA:0<=imm/1048576%2/\imm/1048576%2<=1:=by omega
 have bC:0<=imm/2%1024/\imm/2%1024<=1023:=by omega
 have bE:0<=imm/2048%2/\imm/2048%2<=1:=by omega
 have bF:0<=imm/4096%256/\imm/4096%256<=255:=by omega
 generalize imm/1048576%2=A at *;generalize imm/2%1024=C at *;generalize imm/2048%2=E at *;generalize imm/4096%256=F at *;refine ⟨by omega,by omega,by omega,by rw[hoe];omega,?_⟩
 rw[hdd,hd];simp only[Ins.mk.injEq,true_and];have q0:(o+rd*128+rs1*32768+rs2*1048576+A*2147483648+C*2097152+E*1048576+F*4096)/2147483648%2=A:=by omega
 have q1:(o+rd*128+rs1*32768+rs2*1048576+A*2147483648+C*2097152+E*1048576+F*4096)/4096%256=F:=by omega
 have q2:(o+rd*128+rs1*32768+rs2*1048576+A*2147483648+C*2097152+E*1048576+F*4096)/1048576%2=E:=by omega
 have q3:(o+rd*128+rs1*32768+rs2*1048576+A*2147483648+C*2097152+E*1048576+F*4096)/2097152%1024=C:=by omega
 rw[q0,q1,q2,q3,hx];exact ⟨by omega,by omega,by omega,rfl⟩
theorem c6g {k:Nat} {rd rs1 rs2 imm:Int} (hk:k<64) (hr:right ⟨k+1,rd,rs1,rs2,imm⟩=true) (h:(row k).kind=78):a4J k rd rs1 rs2 imm (a2M k rd rs1 rs2 imm):=by
 have hb:=a0Z k hk;have ho:=a3A k hk;have hg:=a06 k hk;rw[a0d _ _ _ _ _ hk,h]at hr;rw[h]at hg;simp[has,a0e,a0p]at hr hg;rw[b45 _ _ _ _ _ h];have hd:=fun w=>b0n k w h
 generalize hdd:a0w k=D at *;generalize hoe:(row k).opc=o at *;generalize (row k).f=f at *;generalize (row k).g=g at *;refine ⟨by omega,by omega,by omega,by rw[hoe];omega,?_⟩
 rw[hdd,hd];simp only[Ins.mk.injEq,true_and];exact ⟨by omega,by omega,by omega,by omega⟩
theorem c3x {k:Nat} {rd rs1 rs2 imm:Int} (hk:k<64) (hr:right ⟨k+1,rd,rs1,rs2,imm⟩=true):a4J k rd rs1 rs2 imm (a2M k rd rs1 rs2 imm):=by
 rcases kinds k hk with h|h|h|h|h|h|h|h|h|h
 ·exact c7b hk hr h
 ·exact c7A hk hr h
 ·exact c7R hk hr h
 ·exact c50 hk hr h
 ·exact c78 hk hr h
 ·exact c7K hk hr h
 ·exact c6b hk hr h
 ·exact c72 hk hr h
 ·exact c5l hk hr h
 ·exact c6g hk hr h
def mN (k:Nat):Nat:=(a6n (row k).kind).toNat
def xN (k:Nat):Nat:=(a6o (row k).opc (row k).f (row k).g (2^a2G (row k).kind)).toNat
theorem d0c:∀j,j<64->∀k,k<64->j≠k->¬(xN j &&& mN k=xN k &&& mN j):=by decide +kernel
theorem c9D:∀k,k<64->mN k<2^62/\0<=a6n (row k).kind:=by decide +kernel
theorem b4N (n k:Nat) (hn:n<4294967296) (hk:k<64) (h:a1A k n=true):n &&& mN k=xN k:=by
 unfold a1A at h;rw[Bool.and_eq_true,decide_eq_true_eq,decide_eq_true_eq]at h;have hm:=c9D k hk;have e:a6n (row k).kind=((mN k:Nat):Int):=by unfold mN;omega
 have h2:=h.2;rw[e]at h2;have ha:a5E n (mN k:Int)=((n &&& mN k:Nat):Int):=(bits_nat .i64 62 (by decide) a5Y n (mN k) (by omega) hm.1).1
 rw[ha]at h2;unfold xN;rw[<-h2];simp
theorem c1d {w:Int} {j k:Nat} (h0:0<=w) (h1:w<4294967296) (hj:j<64) (hk:k<64) (hhj:a0R w j=true) (hhk:a0R w k=true):j=k:=by
 obtain ⟨n,rfl⟩:=Int.eq_ofNat_of_zero_le h0;rw[<-a6a _ _ hj h0 h1]at hhj;rw[<-a6a _ _ hk h0 h1]at hhk;have ej:=b4N n j (by omega) hj hhj
 have ek:=b4N n k (by omega) hk hhk
 by_cases hjk:j=k
 ·exact hjk
 ·refine absurd ?_ (d0c j hj k hk hjk)
  rw[<-ej,<-ek,Nat.and_assoc,Nat.and_assoc,Nat.and_comm (mN j)]
theorem b4v {i:Ins} (h:right i=true):∃k:Nat,k<64/\i.op=k+1:=by
 by_cases hb:1<=i.op/\i.op<=64
 ·exact ⟨(i.op-1).toNat,by omega,by omega⟩
 ·rw[a1C i hb]at h;cases h
theorem c3j {i:Ins} (h:right i=true):dec (enc i).1=(i,0)/\(enc i).2=0/\(enc i).1%4=3/\0<=(enc i).1/\(enc i).1<4294967296:=by
 obtain ⟨k,hk,ho⟩:=b4v h;obtain ⟨op,rd,rs1,rs2,imm⟩:=i;simp only at ho;subst ho;have hw:=c3x hk h;rw[a19 h];refine ⟨?_,rfl,hw.m4,hw.lo,hw.hi⟩
 have hh:a0R (a2M k rd rs1 rs2 imm) k=true:=by
  unfold a0R;rw[hw.de,a19 h,a4C,hw.op];simp
 rw[b9F hw.lo hw.hi hk (fun j hj=>?_) hh,hw.de]
 by_cases hc:a0R (a2M k rd rs1 rs2 imm) j=true
 ·have:=c1d hw.lo hw.hi (by omega) hk hc hh;omega
 ·simpa using hc
theorem c3i (u:Nat):Lib.itoa (u:Int)=Lib.decDigits u:=by unfold Lib.itoa;rw[if_neg (by omega)];simp
theorem c3S (u:Nat) (h:1<=u):Lib.itoa (-(u:Int))=45::Lib.decDigits u:=by unfold Lib.itoa;rw[if_pos (by omega)];simp
theorem b8p (u:Nat) (h:u<10000000):1<=(Lib.decDigits u).length/\(Lib.decDigits u).length<=7:=by
 rw[Lib.decDigits_length];refine ⟨Lib.nDigits_pos u,?_⟩;have h7:∀v,v<10->Lib.nDigits v=1:=fun v hv=>Lib.nDigits_small hv
 have hb:∀v,Lib.nDigits v<=Lib.nDigits (v/10)+1:=fun v=>by
  by_cases hv:v<10
  ·rw[Lib.nDigits_small hv];omega
  ·rw[Lib.nDigits_big hv];omega
 have a1:=hb u;have a2:=hb (u/10);have a3:=hb (u/10/10);have a4:=hb (u/10/10/10);have a5:=hb (u/10/10/10/10);have a6:=hb (u/10/10/10/10/10);have a7:=h7 (u/10/10/10/10/10/10) (by omega)
 omega
structure Bnd (i:Ins):Prop where
 d:0<=i.rd/\i.rd<=31
 s:0<=i.rs1/\i.rs1<=31
 t:0<=i.rs2/\i.rs2<=31
 n:-10000000<i.imm/\i.imm<10000000
theorem b0d (n:Int) (h0:-10000000<n) (h1:n<10000000):(Lib.itoa n).length<=8:=by
 by_cases hn:n<0
 ·obtain ⟨u,hu⟩:∃u:Nat,n=-(u:Int):=⟨n.natAbs,by omega⟩
  subst hu;rw[c3S u (by omega)]
  have:=b8p u (by omega)
  simp;omega
 ·obtain ⟨u,hu⟩:∃u:Nat,n=(u:Int):=⟨n.toNat,by omega⟩
  subst hu;rw[c3i];have:=b8p u (by omega)
  omega
theorem c3J (i:Ins) (H:Bnd i) (r:UInt8) (h:a7b r):(b2R i r).length<=9:=by
 have a1:=b0d i.rd (by have:=H.d;omega) (by have:=H.d;omega)
 have a2:=b0d i.rs1 (by have:=H.s;omega) (by have:=H.s;omega)
 have a3:=b0d i.rs2 (by have:=H.t;omega) (by have:=H.t;omega)
 have a4:=b0d i.imm H.n.1 H.n.2;rcases h with rfl|rfl|rfl|rfl|rfl|rfl|rfl|rfl<;>simp[b2R,a67]<;>omega
theorem b8c (i:Ins) (H:Bnd i):∀F:List UInt8,(∀r∈F,a7b r)->(F.flatMap (b2R i)).length<=9*F.length
 | [],_=>by simp
 | r::F,h=>by
  have h1:=c3J i H r (h r List.mem_cons_self);have h2:=b8c i H F (fun x hx=>h x (List.mem_cons_of_mem _ hx))
  simp only[List.flatMap_cons,List.length_append,List.length_cons];omega
theorem c3w (k:Nat) (hk:k<64) (i:Ins) (H:Bnd i) (hko:a4i (row k).kind):((row k).name++behind (row k).kind (a67 i.rd) (a67 i.rs1) (a67 i.rs2) (Lib.itoa i.imm)).length<=2000:=by
 rw[<-a6t hko i];have h1:=b0H k hk;have h2:=b8c i H _ (a49 hko);have h3:=a90 (row k).kind
 split
 ·simp;omega
 ·simp only[List.length_append,List.length_cons];omega
theorem c7a {k:Nat} {rd rs1 rs2 imm:Int} (hk:k<64) (h:right ⟨k+1,rd,rs1,rs2,imm⟩=true):Bnd ⟨k+1,rd,rs1,rs2,imm⟩:=by
 obtain ⟨a,b,c,d⟩:=a1k hk h;exact ⟨a,b,c,by simp only;omega⟩
