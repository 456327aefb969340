import Derived.WalkSmall
import Derived.Lib.ItoaLen
import Derived.Deep.CutBlock
import Derived.OneCell
import Derived.Deep.DeepCutAuto
import Derived.Test.YtbmcofdodfcnnaaGreatDoorW6
import Derived.Test.YtbmcofdodfcnnaaGreatDoorShelf
import Derived.Test.YtbmcofdodfcnnaaGreatDoorGQ
set_option linter.all false
set_option maxHeartbeats 400000000
set_option maxRecDepth 100000
namespace Go.Proofs.YtbmcofdodfcnnaaGreatDoor
open Pn
open Go.Proofs.Tryz
open Go.RowKit
def Env (w:World):Prop:=
 8<=w.heap.size/\Lib.TabIs prog w "internal/strconv.uint64pow10" .u64 Lib.pow10Tab/\(∃m,w.cell? ⟨0,0,none⟩=some (.int .i64 m))/\
 (∃te pe,w.cell? ⟨6,0,none⟩=some (.iface te pe))/\(∃te pe,w.cell? ⟨7,0,none⟩=some (.iface te pe))
theorem Env.below {B:Nat} {w w':World} (h:Env w) (hB:Below B w w') (hb:8<=B):Env w':=by
 obtain ⟨h1,h2,⟨m,h3⟩,⟨te,pe,h4⟩,⟨tf,pf,h5⟩⟩:=h
 refine ⟨by have:=hB.size;omega,var?_below hB (show prog.globalNamed "internal/strconv.uint64pow10"=some 1 by kernel_rfl) (by omega) h2,⟨m,(hB.cell (p:=⟨0,0,none⟩) (by show 0<B;omega)).trans h3⟩,
  ⟨te,pe,(hB.cell (p:=⟨6,0,none⟩) (by show 6<B;omega)).trans h4⟩,⟨tf,pf,(hB.cell (p:=⟨7,0,none⟩) (by show 7<B;omega)).trans h5⟩⟩
theorem Env.alloc {w:World} (h:Env w) (o:Obj):Env (w.alloc o):=h.below ((Below.refl w.heap.size w).alloc (Nat.le_refl _) o) h.1
theorem b5V (w:World) (k:Nat) (os:Array Obj):Below w.heap.size w (Go.Sort.grow (w.drewN k) os):=by
 refine ⟨rfl,rfl,rfl,?_,fun i hi=>?_⟩
 ·show w.heap.size<=(w.heap++os).size
  simp
 ·show (w.heap++os)[i]?=w.heap[i]?
  rw[Array.getElem?_append_left hi]
theorem a2q (n:Int) (w:World) (h0:-9223372036854775808<=n) (h1:n<=9223372036854775807) (hE:Env w):
    Calls prog 43 #[.int .i64 n] w fun e w'=>∃s:ByteArray,e=.returned (.string s)/\s.size<=21/\Hid (s.data.toList=Lib.itoa n)/\Below w.heap.size w w':=by
 refine (Tryz.strconv_Itoa n h0 h1 w hE.2.1).mono ?_;rintro e w' ⟨rfl,k,os,rfl⟩;refine ⟨_,rfl,?_,?_,b5V _ _ _⟩
 ·have:=Lib.itoa_length_le n h0 h1
  simpa[ByteArray.size] using this
 ·simp[Hid]
def c3o (w0:World) (b k kd:Nat) (rd rs1 rs2 imm:Int) (w:World):Prop:=
 b3p w0 b k kd rd rs1 rs2 imm w/\w.cell? ⟨b,0,none⟩=some (.string ⟨(Pn.row k).name.toArray⟩)/\w0.heap.size<w.heap.size/\b<w.heap.size/\Env w
theorem c3o.step {w0:World} {b k kd:Nat} {rd rs1 rs2 imm:Int} {w w':World} (h:c3o w0 b k kd rd rs1 rs2 imm w) (hB:Below w.heap.size w w'):c3o w0 b k kd rd rs1 rs2 imm w':=by
 obtain ⟨⟨h1,h2,h3,h4,h5,h6,h7,h8,h9⟩,g1,g2,g3,g4⟩:=h
 exact ⟨⟨(hB.cell (p:=⟨w0.heap.size,1,none⟩) g2).trans h1,(hB.cell (p:=⟨w0.heap.size,2,none⟩) g2).trans h2,(hB.cell (p:=⟨w0.heap.size,3,none⟩) g2).trans h3,(hB.cell (p:=⟨w0.heap.size,4,none⟩) g2).trans h4,
  (hB.cell (p:=⟨b,1,none⟩) g3).trans h5,(hB.cell (p:=⟨b,2,none⟩) g3).trans h6,(hB.cell (p:=⟨b,3,none⟩) g3).trans h7,(hB.cell (p:=⟨b,4,none⟩) g3).trans h8,h9.trans (hB.mono (by omega))⟩,
  (hB.cell (p:=⟨b,0,none⟩) g3).trans g1,by have:=hB.size;omega,by have:=hB.size;omega,g4.below hB g4.1⟩
theorem a6O {a:ByteArray} {l:List UInt8} (h:a.data.toList=l):Value.string a=.string ⟨l.toArray⟩:=by
 subst h;rfl
theorem c18 (a b:ByteArray):(a++b).data.toList=a.data.toList++b.data.toList:=by
 simp[ByteArray.data_append]
theorem c36 (k:Nat) (rd rs1 rs2 imm:Int) (w:World) (hk:k<64) (hr:Pn.right ⟨k+1,rd,rs1,rs2,imm⟩=true)
    (d0:0<=rd) (d1:rd<=31) (s0:0<=rs1) (s1:rs1<=31) (t0:0<=rs2) (t1:rs2<=31) (m0:-1048576<=imm) (m1:imm<=1048576) (hE:Env w):
    Calls prog 94 #[.agg #[.int .i64 (k+1),.int .i64 rd,.int .i64 rs1,.int .i64 rs2,.int .i64 imm]] w fun e w'=>
     e=.returned (.tuple #[.string ⟨(b3m k rd rs1 rs2 imm).toArray⟩,.int .i64 0])/\Below w.heap.size w w':=by
 have hk2:(k:Int)<64:=by omega
 have hwr:IntKind.i64.wrap (k:Int)=(k:Int):=IntWalk.i64_in _ (by omega)
 have HR:Hid (Pn.right ⟨k+1,rd,rs1,rs2,imm⟩=true):=hr;clear hr;go_enter func94,ntmps94;go_wp2_with fail;refine (a0V ⟨k+1,rd,rs1,rs2,imm⟩ _).mono ?_;rintro e w1 ⟨rfl,hB1⟩;rw[HR.out];have i0:w1.cell? ⟨w.heap.size,0,none⟩=some (.int .i64 (k+1)):=(hB1.cell (p:=⟨w.heap.size,0,none⟩) (by simp)).trans (by go_simp)
 have i1:w1.cell? ⟨w.heap.size,1,none⟩=some (.int .i64 rd):=(hB1.cell (p:=⟨w.heap.size,1,none⟩) (by simp)).trans (by go_simp)
 have i2:w1.cell? ⟨w.heap.size,2,none⟩=some (.int .i64 rs1):=(hB1.cell (p:=⟨w.heap.size,2,none⟩) (by simp)).trans (by go_simp)
 have i3:w1.cell? ⟨w.heap.size,3,none⟩=some (.int .i64 rs2):=(hB1.cell (p:=⟨w.heap.size,3,none⟩) (by simp)).trans (by go_simp)
 have i4:w1.cell? ⟨w.heap.size,4,none⟩=some (.int .i64 imm):=(hB1.cell (p:=⟨w.heap.size,4,none⟩) (by simp)).trans (by go_simp)
 have hz1:w.heap.size<w1.heap.size:=by have:=hB1.size;simp at this;omega
 have HE1:Env w1:=(hE.alloc _).below hB1 (hE.alloc _).1;have HB1:Hid (Below w.heap.size w w1):=((Below.refl _ _).alloc (Nat.le_refl _) _).trans (hB1.mono (by simp))
 clear hB1;go_wp2_with fail;go_cut [5] (fun p wc=>b8k w1 k p wc)
 case first=>
  go_region_with (go_at_call 157;refine (a8S _).mono ?_;rintro e w' ⟨C,hC,rfl,rfl⟩;obtain ⟨c0,c1,c2,c3,c4⟩:=hC k hk)
  all_goals (go_wp2_with fail;go_meet)
  all_goals first|exact b3h _ k C _ _ _ rfl|exact b3H _ k C _ _ _ rfl
 case rest=>
  obtain ⟨b,rfl,hb1,hb2,c0,c1,c2,c3,c4,hB⟩:=hcut
  have HH:c3o w b k (Pn.row k).kind rd rs1 rs2 imm wc:=⟨⟨(hB.cell (p:=⟨w.heap.size,1,none⟩) hz1).trans i1,(hB.cell (p:=⟨w.heap.size,2,none⟩) hz1).trans i2,(hB.cell (p:=⟨w.heap.size,3,none⟩) hz1).trans i3,(hB.cell (p:=⟨w.heap.size,4,none⟩) hz1).trans i4,
   c1,c2,c3,c4,HB1.out.trans (hB.mono (by omega))⟩,c0,by omega,hb2,HE1.below hB HE1.1⟩
  clear c0 c1 c2 c3 c4 i0 i1 i2 i3 i4 HB1 hB HE1 hz1 hb1 hb2;obtain ⟨⟨j1,j2,j3,j4,c1,_⟩,c0,_⟩:=id HH;go_wp2_with fail;refine (a2q rd _ (by omega) (by omega) HH.2.2.2.2).mono ?_
  rintro e w2 ⟨D,rfl,hD,HD,hB2⟩;replace HH:=HH.step hB2;clear j1 j2 j3 j4 c0 c1 hB2;obtain ⟨⟨j1,j2,j3,j4,c1,_⟩,c0,_⟩:=id HH;go_wp2_with fail;refine (a2q rs1 _ (by omega) (by omega) HH.2.2.2.2).mono ?_
  rintro e w3 ⟨S,rfl,hS,HS,hB2⟩;replace HH:=HH.step hB2;clear j1 j2 j3 j4 c0 c1 hB2;obtain ⟨⟨j1,j2,j3,j4,c1,_⟩,c0,_⟩:=id HH;go_wp2_with fail;refine (a2q rs2 _ (by omega) (by omega) HH.2.2.2.2).mono ?_
  rintro e w4 ⟨T,rfl,hT,HT,hB2⟩;replace HH:=HH.step hB2;clear j1 j2 j3 j4 c0 c1 hB2;obtain ⟨⟨j1,j2,j3,j4,c1,_⟩,c0,_⟩:=id HH;go_wp2_with fail;refine (a2q imm _ (by omega) (by omega) HH.2.2.2.2).mono ?_
  rintro e w5 ⟨N,rfl,hN,HN,hB2⟩;replace HH:=HH.step hB2;clear j1 j2 j3 j4 c0 c1 hB2;obtain ⟨⟨j1,j2,j3,j4,c1,_⟩,c0,_⟩:=id HH;have hM:(ByteArray.mk (Pn.row k).name.toArray).size<=8:=by simpa[ByteArray.size] using b0H k hk
  generalize hMM:ByteArray.mk (Pn.row k).name.toArray=M at *;have HM:Hid (M.data.toList=(Pn.row k).name):=by rw[<-hMM];simp[Hid]
  clear hMM;go_wp2_with fail
  all_goals
   go_ret2;refine ⟨a3R (a6O ?_) rfl,HH.1.below⟩;have ed:D.data.toList=Lib.itoa rd:=HD;have es:S.data.toList=Lib.itoa rs1:=HS;have et:T.data.toList=Lib.itoa rs2:=HT;have en:N.data.toList=Lib.itoa imm:=HN;have em:M.data.toList=(Pn.row k).name:=HM;clear j1 j2 j3 j4 c0 c1 HH;simp only[beq_iff_eq,beq_eq_false_iff_ne,ne_eq]at *;unfold b3m Pn.behind
   first
   | rw[if_pos (by omega)]
   | rw[if_neg (by omega),if_pos (by omega)]
   | rw[if_neg (by omega),if_neg (by omega),if_pos (by omega)]
   | rw[if_neg (by omega),if_neg (by omega),if_neg (by omega),if_pos (by omega)]
   | rw[if_neg (by omega),if_neg (by omega),if_neg (by omega),if_neg (by omega),if_pos (by omega)]
   | rw[if_neg (by omega),if_neg (by omega),if_neg (by omega),if_neg (by omega),if_neg (by omega),if_pos (by omega)]
   | rw[if_neg (by omega),if_neg (by omega),if_neg (by omega),if_neg (by omega),if_neg (by omega),if_neg (by omega)]
   rw[<-em]
   try unfold a67
   try rw[<-ed]
   try rw[<-es]
   try rw[<-et]
   try rw[<-en]
   first|(rw[List.append_nil];done)|simp only[c18,List.append_assoc,List.cons_append,List.nil_append]
theorem c1c (i:Pn.Ins) (w:World) (h:Pn.right i=false):
    Calls prog 94 #[i.val] w fun e w'=>e=.returned (.tuple #[.string ⟨#[]⟩,.int .i64 1])/\Below w.heap.size w w':=by
 have H:Hid (Pn.right i=false):=h;clear h;obtain ⟨op,rd,rs1,rs2,imm⟩:=i;unfold Pn.Ins.val;simp only;go_enter func94,ntmps94;go_wp2_with fail;refine (a0V ⟨op,rd,rs1,rs2,imm⟩ _).mono ?_;rintro e w1 ⟨rfl,hB1⟩;rw[H.out];have HB1:Hid (Below w.heap.size w w1):=((Below.refl _ _).alloc (Nat.le_refl _) _).trans (hB1.mono (by simp))
 clear hB1;go_wp2_with fail;go_ret2;exact ⟨rfl,HB1.out⟩
theorem b4V (i:Pn.Ins) (w:World) (hE:Env w):
    Calls prog 94 #[i.val] w fun e w'=>e=.returned (.tuple #[.string ⟨(Pn.shw i).1.toArray⟩,.int .i64 (Pn.shw i).2])/\Below w.heap.size w w':=by
 by_cases h:Pn.right i=true
 ·obtain ⟨op,rd,rs1,rs2,imm⟩:=i
  have hop:1<=op/\op<=64:=by
   apply Classical.byContradiction;intro hn;rw[a1C _ hn]at h;cases h
  obtain ⟨k,rfl⟩:∃k:Nat,op=k+1:=⟨(op-1).toNat,by omega⟩
  have hk:k<64:=by omega
  obtain ⟨⟨a1,a2⟩,⟨a3,a4⟩,⟨a5,a6⟩,a7,a8⟩:=a1k hk h;rw[b2O h];exact c36 k rd rs1 rs2 imm w hk h a1 a2 a3 a4 a5 a6 a7 a8 hE
 ·have h':Pn.right i=false:=by simpa using h
  rw[b2Q h'];exact c1c i w h'
theorem b6d (n:Int) (w:World) (h:n<0\/4294967296<=n):
    Calls prog 93 #[.int .i64 n] w fun e w'=>e=.returned (.tuple #[(Pn.Ins.mk 0 0 0 0 0).val,.int .i64 1])/\Below w.heap.size w w':=by
 have p32:a2A 32=4294967296:=rfl;rcases h with h|h
 ·go_enter func93,ntmps93
  go_wp2_with fail;exact bodyPost_ret (v:=.tuple #[(Pn.Ins.mk 0 0 0 0 0).val,.int .i64 1]) (by simp[results,results93,go_sem,Pn.Ins.val]) rfl ⟨rfl,(Below.refl _ _).alloc (Nat.le_refl _) _⟩
 ·have h':¬n<0:=by omega
  go_enter func93,ntmps93;go_wp2_with (go_at_call 158;refine (a0x _ _ (by decide) (by decide)).mono ?_;rintro e w' ⟨rfl,rfl⟩)
  exact bodyPost_ret (v:=.tuple #[(Pn.Ins.mk 0 0 0 0 0).val,.int .i64 1]) (by simp[results,results93,go_sem,Pn.Ins.val]) rfl ⟨rfl,(Below.refl _ _).alloc (Nat.le_refl _) _⟩
theorem b6q (n:Int) (w:World):
    Calls prog 93 #[.int .i64 n] w fun e w'=>e=.returned (.tuple #[(Pn.dec n).1.val,.int .i64 (Pn.dec n).2])/\Below w.heap.size w w':=by
 by_cases h:n<0\/4294967296<=n
 ·rw[b79 h];exact b6d n w h
 ·exact a8P n w (by omega) (by omega)
theorem a0a {p:Prop} (h:p):Hid p:=h
theorem a0b {p:Prop} (h:Hid p):p:=h
theorem a0D (c:Int) (w:World):
    Calls prog 207 #[.int .u8 c] w fun e w'=>e=.returned (.bool (a0o c))/\w'=w:=by
 go_enter func207,ntmps207;go_wp2
 all_goals
  go_ret;refine ⟨a1r ?_,rfl⟩;unfold a0o
  first
  | (rw[decide_eq_true (p:=97<=c) (by omega)];rfl)
  | (rw[decide_eq_false (p:=97<=c) (by omega)];rfl)
theorem a0y (c:Int) (w:World):
    Calls prog 208 #[.int .u8 c] w fun e w'=>e=.returned (.bool (a0t c))/\w'=w:=by
 go_enter func208,ntmps208;go_wp2
 all_goals
  go_ret;refine ⟨a1r ?_,rfl⟩;unfold a0t
  first
  | (rw[decide_eq_true (p:=48<=c) (by omega)];rfl)
  | (rw[decide_eq_false (p:=48<=c) (by omega)];rfl)
