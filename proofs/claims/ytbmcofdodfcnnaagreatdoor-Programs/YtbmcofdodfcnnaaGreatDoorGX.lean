import Derived.Test.YtbmcofdodfcnnaaGreatDoorGW
import Derived.Test.YtbmcofdodfcnnaaGreatDoorGP
set_option linter.all false
set_option maxHeartbeats 400000000
set_option maxRecDepth 100000
namespace Go.Proofs.YtbmcofdodfcnnaaGreatDoor
open Pn
open Go.Proofs.Tryz
open Go.RowKit
def b3p (w0:World) (b k kd:Nat) (rd rs1 rs2 imm:Int) (w:World):Prop:=
 w.cell? ⟨w0.heap.size,1,none⟩=some (.int .i64 rd)/\w.cell? ⟨w0.heap.size,2,none⟩=some (.int .i64 rs1)/\w.cell? ⟨w0.heap.size,3,none⟩=some (.int .i64 rs2)/\w.cell? ⟨w0.heap.size,4,none⟩=some (.int .i64 imm)/\
 w.cell? ⟨b,1,none⟩=some (.int .u8 kd)/\w.cell? ⟨b,2,none⟩=some (.int .i64 (Pn.row k).opc)/\w.cell? ⟨b,3,none⟩=some (.int .i64 (Pn.row k).f)/\w.cell? ⟨b,4,none⟩=some (.int .i64 (Pn.row k).g)/\Below w0.heap.size w0 w
theorem b3p.drewN {w0:World} {b k kd:Nat} {rd rs1 rs2 imm:Int} {w:World} (h:b3p w0 b k kd rd rs1 rs2 imm w) (n:Nat):b3p w0 b k kd rd rs1 rs2 imm (w.drewN n):=by
 obtain ⟨h1,h2,h3,h4,h5,h6,h7,h8,h9⟩:=h;exact ⟨h1,h2,h3,h4,h5,h6,h7,h8,below_drewN h9 n⟩
theorem b3p.below {w0:World} {b k kd:Nat} {rd rs1 rs2 imm:Int} {w:World} (h:b3p w0 b k kd rd rs1 rs2 imm w):Below w0.heap.size w0 w:=h.2.2.2.2.2.2.2.2
theorem a3R {a a' b b':Value} (h:a=a') (h':b=b'):Ending.returned (.tuple #[a,b])=.returned (.tuple #[a',b']):=by rw[h,h']
theorem b7v (k:Nat) (rd rs1 rs2 imm:Int) (w:World) (hk:k<64) (hr:Pn.right ⟨k+1,rd,rs1,rs2,imm⟩=true)
    (d0:0<=rd) (d1:rd<=31) (s0:0<=rs1) (s1:rs1<=31) (t0:0<=rs2) (t1:rs2<=31) (m0:-1048576<=imm) (m1:imm<=1048576):
    Calls prog 91 #[.agg #[.int .i64 (k+1),.int .i64 rd,.int .i64 rs1,.int .i64 rs2,.int .i64 imm]] w fun e w'=>
     e=.returned (.tuple #[.int .i64 (a2M k rd rs1 rs2 imm),.int .i64 0])/\Below w.heap.size w w':=by
 have hk2:(k:Int)<64:=by omega
 have hwr:IntKind.i64.wrap (k:Int)=(k:Int):=IntWalk.i64_in _ (by omega)
 have HR:Hid (Pn.right ⟨k+1,rd,rs1,rs2,imm⟩=true):=hr;clear hr;go_enter func91,ntmps91;go_wp2_with fail;refine (a0V ⟨k+1,rd,rs1,rs2,imm⟩ _).mono ?_;rintro e w1 ⟨rfl,hB1⟩;rw[HR.out];have i0:w1.cell? ⟨w.heap.size,0,none⟩=some (.int .i64 (k+1)):=(hB1.cell (p:=⟨w.heap.size,0,none⟩) (by simp)).trans (by go_simp)
 have i1:w1.cell? ⟨w.heap.size,1,none⟩=some (.int .i64 rd):=(hB1.cell (p:=⟨w.heap.size,1,none⟩) (by simp)).trans (by go_simp)
 have i2:w1.cell? ⟨w.heap.size,2,none⟩=some (.int .i64 rs1):=(hB1.cell (p:=⟨w.heap.size,2,none⟩) (by simp)).trans (by go_simp)
 have i3:w1.cell? ⟨w.heap.size,3,none⟩=some (.int .i64 rs2):=(hB1.cell (p:=⟨w.heap.size,3,none⟩) (by simp)).trans (by go_simp)
 have i4:w1.cell? ⟨w.heap.size,4,none⟩=some (.int .i64 imm):=(hB1.cell (p:=⟨w.heap.size,4,none⟩) (by simp)).trans (by go_simp)
 have hz1:w.heap.size<w1.heap.size:=by have:=hB1.size;simp at this;omega
 have HB1:Hid (Below w.heap.size w w1):=((Below.refl _ _).alloc (Nat.le_refl _) _).trans (hB1.mono (by simp))
 clear hB1;go_wp2_with fail;go_cut [5] (fun p wc=>b8k w1 k p wc)
 case first=>
  go_region_with (go_at_call 157;refine (a8S _).mono ?_;rintro e w' ⟨C,hC,rfl,rfl⟩;obtain ⟨c0,c1,c2,c3,c4⟩:=hC k hk)
  all_goals (go_wp2_with fail;go_meet)
  all_goals first|exact b3h _ k C _ _ _ rfl|exact b3H _ k C _ _ _ rfl
 case rest=>
  obtain ⟨b,rfl,hb1,hb2,c0,c1,c2,c3,c4,hB⟩:=hcut;have j1:=(hB.cell (p:=⟨w.heap.size,1,none⟩) hz1).trans i1;have j2:=(hB.cell (p:=⟨w.heap.size,2,none⟩) hz1).trans i2;have j3:=(hB.cell (p:=⟨w.heap.size,3,none⟩) hz1).trans i3;have j4:=(hB.cell (p:=⟨w.heap.size,4,none⟩) hz1).trans i4;have HB:Below w.heap.size w wc:=HB1.out.trans (hB.mono (by omega))
  obtain ⟨o0,o1,f0,f1,g0,g1,_⟩:=a0Z k hk;have p7:a2A 7=128:=rfl;have p8:a2A 8=256:=rfl;have p12:a2A 12=4096:=rfl;have p15:a2A 15=32768:=rfl;have p20:a2A 20=1048576:=rfl;have p21:a2A 21=2097152:=rfl;have p25:a2A 25=33554432:=rfl;have p26:a2A 26=67108864:=rfl;have p31:a2A 31=2147483648:=rfl;have HH0:b3p w b k (Pn.row k).kind rd rs1 rs2 imm wc:=⟨j1,j2,j3,j4,c1,c2,c3,c4,HB⟩;clear c0 i0 i1 i2 i3 i4 HB1 hB HB;go_wp2_with fail;go_quiet ((go_at_call 158;exact Calls.quiet_of_same (a0x _ _ (by decide) (by decide))))
  have HH1:=HH0.drewN nq;clear HH0 j1 j2 j3 j4 c1 c2 c3 c4 hb1 hb2;generalize wc.drewN nq=w2 at HH1 ⊢;have Hgoal:Hid (a2M k rd rs1 rs2 imm=a2M k rd rs1 rs2 imm):=rfl;clear Hgoal;rcases Pn.kinds k hk with hkd|hkd|hkd|hkd|hkd|hkd|hkd|hkd|hkd|hkd
  ·have HH:b3p w b k 82 rd rs1 rs2 imm w2:=by rw[<-hkd];exact HH1
   have HK:Hid ((Pn.row k).kind=82):=hkd;clear hkd HH1;obtain ⟨j1,j2,j3,j4,c1,c2,c3,c4,HB⟩:=id HH;go_wp2_with fail;(go_quiet ((go_at_call 158;exact Calls.quiet_of_same (a0x _ _ (by decide) (by decide)))));replace HH:=HH.drewN nq;clear j1 j2 j3 j4 c1 c2 c3 c4 HB;generalize w2.drewN nq=w3 at HH ⊢;obtain ⟨j1,j2,j3,j4,c1,c2,c3,c4,HB⟩:=id HH;go_wp2_with fail;(go_quiet ((go_at_call 158;exact Calls.quiet_of_same (a0x _ _ (by decide) (by decide)))));replace HH:=HH.drewN nq;go_wp2_with fail;go_ret2;exact ⟨a3R (congrArg (Value.int .i64) (b4s k rd rs1 rs2 imm HK.out).symm) rfl,HH.below⟩
  ·have HH:b3p w b k 73 rd rs1 rs2 imm w2:=by rw[<-hkd];exact HH1
   have HK:Hid ((Pn.row k).kind=73):=hkd;clear hkd HH1;have b11_0:=b0o imm;obtain ⟨j1,j2,j3,j4,c1,c2,c3,c4,HB⟩:=id HH;go_wp2_with fail;(go_quiet ((go_at_call 158;exact Calls.quiet_of_same (a0x _ _ (by decide) (by decide)))));replace HH:=HH.drewN nq;clear j1 j2 j3 j4 c1 c2 c3 c4 HB;generalize w2.drewN nq=w3 at HH ⊢;obtain ⟨j1,j2,j3,j4,c1,c2,c3,c4,HB⟩:=id HH
   go_wp2_with (first
    | (go_at_call 159;refine (a2g _ _ _ _ (by omega) (by omega) (by decide) (by decide) (by decide)).mono ?_;rintro e w' ⟨rfl,rfl⟩)
    | (go_at_call 158;refine (a0x _ _ (by decide) (by decide)).mono ?_;rintro e w' ⟨rfl,rfl⟩))
   go_ret2;exact ⟨a3R (congrArg (Value.int .i64) (b44 k rd rs1 rs2 imm HK.out).symm) rfl,HH.below⟩
  ·have HH:b3p w b k 76 rd rs1 rs2 imm w2:=by rw[<-hkd];exact HH1
   have HK:Hid ((Pn.row k).kind=76):=hkd;clear hkd HH1;have b11_0:=b0o imm;obtain ⟨j1,j2,j3,j4,c1,c2,c3,c4,HB⟩:=id HH;go_wp2_with fail;(go_quiet ((go_at_call 158;exact Calls.quiet_of_same (a0x _ _ (by decide) (by decide)))));replace HH:=HH.drewN nq;clear j1 j2 j3 j4 c1 c2 c3 c4 HB;generalize w2.drewN nq=w3 at HH ⊢;obtain ⟨j1,j2,j3,j4,c1,c2,c3,c4,HB⟩:=id HH
   go_wp2_with (first
    | (go_at_call 159;refine (a2g _ _ _ _ (by omega) (by omega) (by decide) (by decide) (by decide)).mono ?_;rintro e w' ⟨rfl,rfl⟩)
    | (go_at_call 158;refine (a0x _ _ (by decide) (by decide)).mono ?_;rintro e w' ⟨rfl,rfl⟩))
   go_ret2;exact ⟨a3R (congrArg (Value.int .i64) (b4y k rd rs1 rs2 imm HK.out).symm) rfl,HH.below⟩
  ·have HH:b3p w b k 72 rd rs1 rs2 imm w2:=by rw[<-hkd];exact HH1
   have HK:Hid ((Pn.row k).kind=72):=hkd;have hm:=a9D hk HR.out hkd;obtain ⟨hm0,hm1⟩:=hm;clear hkd HH1;obtain ⟨j1,j2,j3,j4,c1,c2,c3,c4,HB⟩:=id HH;go_wp2_with fail;(go_quiet ((go_at_call 158;exact Calls.quiet_of_same (a0x _ _ (by decide) (by decide)))));replace HH:=HH.drewN nq;clear j1 j2 j3 j4 c1 c2 c3 c4 HB;generalize w2.drewN nq=w3 at HH ⊢;obtain ⟨j1,j2,j3,j4,c1,c2,c3,c4,HB⟩:=id HH;go_wp2_with fail;(go_quiet ((go_at_call 158;exact Calls.quiet_of_same (a0x _ _ (by decide) (by decide)))));replace HH:=HH.drewN nq;go_wp2_with fail;go_ret2;exact ⟨a3R (congrArg (Value.int .i64) (b4o k rd rs1 rs2 imm HK.out).symm) rfl,HH.below⟩
  ·have HH:b3p w b k 87 rd rs1 rs2 imm w2:=by rw[<-hkd];exact HH1
   have HK:Hid ((Pn.row k).kind=87):=hkd;have hm:=a9E hk HR.out hkd;obtain ⟨hm0,hm1⟩:=hm;clear hkd HH1;obtain ⟨j1,j2,j3,j4,c1,c2,c3,c4,HB⟩:=id HH;go_wp2_with fail;(go_quiet ((go_at_call 158;exact Calls.quiet_of_same (a0x _ _ (by decide) (by decide)))));replace HH:=HH.drewN nq;clear j1 j2 j3 j4 c1 c2 c3 c4 HB;generalize w2.drewN nq=w3 at HH ⊢;obtain ⟨j1,j2,j3,j4,c1,c2,c3,c4,HB⟩:=id HH;go_wp2_with fail;(go_quiet ((go_at_call 158;exact Calls.quiet_of_same (a0x _ _ (by decide) (by decide)))));replace HH:=HH.drewN nq;go_wp2_with fail;go_ret2;exact ⟨a3R (congrArg (Value.int .i64) (b4A k rd rs1 rs2 imm HK.out).symm) rfl,HH.below⟩
  ·have HH:b3p w b k 83 rd rs1 rs2 imm w2:=by rw[<-hkd];exact HH1
   have HK:Hid ((Pn.row k).kind=83):=hkd;clear hkd HH1;have b11_5:=b9I imm;have b4_0:=b74 imm;obtain ⟨j1,j2,j3,j4,c1,c2,c3,c4,HB⟩:=id HH;go_wp2_with fail;(go_quiet ((go_at_call 158;exact Calls.quiet_of_same (a0x _ _ (by decide) (by decide)))));replace HH:=HH.drewN nq;clear j1 j2 j3 j4 c1 c2 c3 c4 HB;generalize w2.drewN nq=w3 at HH ⊢;obtain ⟨j1,j2,j3,j4,c1,c2,c3,c4,HB⟩:=id HH
   go_wp2_with (first
    | (go_at_call 159;refine (a2g _ _ _ _ (by omega) (by omega) (by decide) (by decide) (by decide)).mono ?_;rintro e w' ⟨rfl,rfl⟩)
    | (go_at_call 158;refine (a0x _ _ (by decide) (by decide)).mono ?_;rintro e w' ⟨rfl,rfl⟩))
   go_ret2;exact ⟨a3R (congrArg (Value.int .i64) (b33 k rd rs1 rs2 imm HK.out).symm) rfl,HH.below⟩
  ·have HH:b3p w b k 66 rd rs1 rs2 imm w2:=by rw[<-hkd];exact HH1
   have HK:Hid ((Pn.row k).kind=66):=hkd;clear hkd HH1;have b12_12:=b3R imm;have b10_5:=b7S imm;have b4_1:=c2K imm;have b11_11:=a7C imm;obtain ⟨j1,j2,j3,j4,c1,c2,c3,c4,HB⟩:=id HH;go_wp2_with fail;(go_quiet ((go_at_call 158;exact Calls.quiet_of_same (a0x _ _ (by decide) (by decide)))));replace HH:=HH.drewN nq;clear j1 j2 j3 j4 c1 c2 c3 c4 HB;generalize w2.drewN nq=w3 at HH ⊢;obtain ⟨j1,j2,j3,j4,c1,c2,c3,c4,HB⟩:=id HH
   go_wp2_with (first
    | (go_at_call 159;refine (a2g _ _ _ _ (by omega) (by omega) (by decide) (by decide) (by decide)).mono ?_;rintro e w' ⟨rfl,rfl⟩)
    | (go_at_call 158;refine (a0x _ _ (by decide) (by decide)).mono ?_;rintro e w' ⟨rfl,rfl⟩))
   go_ret2;exact ⟨a3R (congrArg (Value.int .i64) (b4i k rd rs1 rs2 imm HK.out).symm) rfl,HH.below⟩
  ·have HH:b3p w b k 85 rd rs1 rs2 imm w2:=by rw[<-hkd];exact HH1
   have HK:Hid ((Pn.row k).kind=85):=hkd;clear hkd HH1;have b19_0:=b6V imm;obtain ⟨j1,j2,j3,j4,c1,c2,c3,c4,HB⟩:=id HH;go_wp2_with fail
   go_wp2_with (first
    | (go_at_call 159;refine (a2g _ _ _ _ (by omega) (by omega) (by decide) (by decide) (by decide)).mono ?_;rintro e w' ⟨rfl,rfl⟩)
    | (go_at_call 158;refine (a0x _ _ (by decide) (by decide)).mono ?_;rintro e w' ⟨rfl,rfl⟩))
   go_ret2;exact ⟨a3R (congrArg (Value.int .i64) (b4D k rd rs1 rs2 imm HK.out).symm) rfl,HH.below⟩
  ·have HH:b3p w b k 74 rd rs1 rs2 imm w2:=by rw[<-hkd];exact HH1
   have HK:Hid ((Pn.row k).kind=74):=hkd;clear hkd HH1;have b20_20:=a43 imm;have b10_1:=b7a imm;have b11_11:=a7C imm;have b19_12:=a5g imm;obtain ⟨j1,j2,j3,j4,c1,c2,c3,c4,HB⟩:=id HH;go_wp2_with fail
   go_wp2_with (first
    | (go_at_call 159;refine (a2g _ _ _ _ (by omega) (by omega) (by decide) (by decide) (by decide)).mono ?_;rintro e w' ⟨rfl,rfl⟩)
    | (go_at_call 158;refine (a0x _ _ (by decide) (by decide)).mono ?_;rintro e w' ⟨rfl,rfl⟩))
   go_ret2;exact ⟨a3R (congrArg (Value.int .i64) (b4r k rd rs1 rs2 imm HK.out).symm) rfl,HH.below⟩
  ·have HH:b3p w b k 78 rd rs1 rs2 imm w2:=by rw[<-hkd];exact HH1
   have HK:Hid ((Pn.row k).kind=78):=hkd;clear hkd HH1;obtain ⟨j1,j2,j3,j4,c1,c2,c3,c4,HB⟩:=id HH;go_wp2_with fail;(go_quiet ((go_at_call 158;exact Calls.quiet_of_same (a0x _ _ (by decide) (by decide)))));replace HH:=HH.drewN nq;clear j1 j2 j3 j4 c1 c2 c3 c4 HB;generalize w2.drewN nq=w3 at HH ⊢;obtain ⟨j1,j2,j3,j4,c1,c2,c3,c4,HB⟩:=id HH;go_wp2_with fail;(go_quiet ((go_at_call 158;exact Calls.quiet_of_same (a0x _ _ (by decide) (by decide)))));replace HH:=HH.drewN nq;go_wp2_with fail;go_ret2;exact ⟨a3R (congrArg (Value.int .i64) (b45 k rd rs1 rs2 imm HK.out).symm) rfl,HH.below⟩
theorem b5A (i:Pn.Ins) (w:World) (h:Pn.right i=false):
    Calls prog 91 #[i.val] w fun e w'=>e=.returned (.tuple #[.int .i64 0,.int .i64 1])/\Below w.heap.size w w':=by
 have H:Hid (Pn.right i=false):=h;clear h;obtain ⟨op,rd,rs1,rs2,imm⟩:=i;unfold Pn.Ins.val;simp only;go_enter func91,ntmps91;go_wp2_with fail;refine (a0V ⟨op,rd,rs1,rs2,imm⟩ _).mono ?_;rintro e w1 ⟨rfl,hB1⟩;rw[H.out];have HB1:Hid (Below w.heap.size w w1):=((Below.refl _ _).alloc (Nat.le_refl _) _).trans (hB1.mono (by simp))
 clear hB1;go_wp2_with fail;go_ret2;exact ⟨rfl,HB1.out⟩
theorem a6I (i:Pn.Ins) (w:World):
    Calls prog 91 #[i.val] w fun e w'=>e=.returned (.tuple #[.int .i64 (Pn.enc i).1,.int .i64 (Pn.enc i).2])/\Below w.heap.size w w':=by
 by_cases h:Pn.right i=true
 ·obtain ⟨op,rd,rs1,rs2,imm⟩:=i
  have hop:1<=op/\op<=64:=by
   apply Classical.byContradiction;intro hn;rw[a1C _ hn]at h;cases h
  obtain ⟨k,rfl⟩:∃k:Nat,op=k+1:=⟨(op-1).toNat,by omega⟩
  have hk:k<64:=by omega
  obtain ⟨⟨a1,a2⟩,⟨a3,a4⟩,⟨a5,a6⟩,a7,a8⟩:=a1k hk h;rw[a19 h];exact b7v k rd rs1 rs2 imm w hk h a1 a2 a3 a4 a5 a6 a7 a8
 ·have h':Pn.right i=false:=by simpa using h
  rw[b3q h'];exact b5A i w h'
theorem a8E (n size:Int) (w:World) (n0:0<=n) (n1:n<=1099511627776) (l0:1<=size) (l1:size<=40):
    Calls prog 161 #[.int .i64 n,.int .i64 size] w fun e w'=>e=.returned (.int .i64 (a0E n size))/\w'=w:=by
 have q1:0<a2A (size-1)/\a2A (size-1)<=4611686018427387904:=⟨Pn.pow_pos _,a7D (by omega)⟩
 have q2:0<a2A size/\a2A size<=4611686018427387904:=⟨Pn.pow_pos _,a7D (by omega)⟩
 by_cases h:a2A (size-1)<=n
 ·go_enter func161,ntmps161
  go_wp2_with (go_at_call 158;refine (a0x _ _ (by omega) (by omega)).mono ?_;rintro e w' ⟨rfl,rfl⟩)
  go_ret;exact ⟨a0P (by unfold a0E;rw[if_pos h]),rfl⟩
 ·go_enter func161,ntmps161
  go_wp2_with (go_at_call 158;refine (a0x _ _ (by omega) (by omega)).mono ?_;rintro e w' ⟨rfl,rfl⟩)
  go_ret;exact ⟨a0P (by unfold a0E;rw[if_neg (by omega)]),rfl⟩
