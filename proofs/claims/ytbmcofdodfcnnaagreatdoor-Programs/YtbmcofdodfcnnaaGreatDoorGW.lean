import Derived.Test.YtbmcofdodfcnnaaGreatDoorProg
import Derived.WalkKit
import Derived.WalkSpells
import Derived.WalkLawsBesides
import Derived.Deep.RegionWith
import Derived.Deep.QuietTactic
import Derived.BigQuiet
import Derived.Deep.DeepCutAuto
import Derived.IntWalk
import Derived.Test.YtbmcofdodfcnnaaGreatDoorGP
import Derived.Test.YtbmcofdodfcnnaaGreatDoorGK
set_option linter.all false
set_option maxHeartbeats 400000000
set_option maxRecDepth 100000
namespace Go.Proofs.YtbmcofdodfcnnaaGreatDoor
open Pn
open Go.Proofs.Tryz
open Go.RowKit
theorem a0P {k:IntKind} {a b:Int} (h:a=b):Ending.returned (.int k a)=.returned (.int k b):=by rw[h]
theorem b2k (i:Int) (w:World) (h0:0<=i) (h1:i<=62):
    Calls prog 158 #[.int .i64 i] w fun e w'=>e=.returned (.int .i64 (2^i.toNat))/\w'=w:=by
 obtain ⟨n,rfl⟩:=Int.eq_ofNat_of_zero_le h0;rw[Int.toNat_natCast];go_enter func158,ntmps158;go_wp2;go_loop [3,4] (fun m k=>∃j:Nat,j<=n/\k=.int .i64 j/\m=.int .i64 (2^j)) (fun _ k=>n-(intOf k).toNat)
 case atStart=>exact ⟨0,Nat.zero_le _,rfl,rfl⟩
 case round=>
  obtain ⟨j,hj,rfl,rfl⟩:=hrel;have hb:=a0M (show j<=62 by omega)
  have hp:(0:Int)<2^j:=Int.pow_pos (by omega)
  have hb':(2:Int)^j<=4611686018427387904:=hb;clear hb;by_cases hlt:j<n
  ·have hb2:=a0M (show j+1<=62 by omega)
   have hs:=b2t j
   have hle:(2:Int)^j<=2305843009213693952:=by
    have:(2:Int)^(j+1)<=4611686018427387904:=hb2;omega
   have HS:Hid ((2:Int)^(j+1)=2*2^j):=hs;clear hs hb2;go_wp2;go_round;(case rel=>exact ⟨j+1,by omega,by go_num,by rw[HS.out]⟩);case measure=>simp[intOf];omega
  ·go_wp2
   go_ret;(have:j=n:=by omega);subst this;exact ⟨rfl,rfl⟩
theorem a0x (i:Int) (w:World) (h0:0<=i) (h1:i<=62):
    Calls prog 158 #[.int .i64 i] w fun e w'=>e=.returned (.int .i64 (a2A i))/\w'=w:=b2k i w h0 h1
theorem c1N (n hi lo:Int) (w:World) (n0:-1099511627776<=n) (n1:n<=1099511627776) (l0:0<=lo) (l1:lo<=hi) (hh:hi<=60):
    Calls prog 159 #[.int .i64 n,.int .i64 hi,.int .i64 lo] w fun e w'=>e=.returned (.int .i64 (Pn.bits n hi.toNat lo.toNat))/\w'=w:=by
 obtain ⟨l,rfl⟩:=Int.eq_ofNat_of_zero_le l0;obtain ⟨h,rfl⟩:=Int.eq_ofNat_of_zero_le (show 0<=hi by omega)
 simp only[Int.toNat_natCast];go_enter func159,ntmps159;go_wp2;go_loop [0,7] (fun m k=>∃j:Nat,j<=l/\k=.int .i64 j/\m=.int .i64 (n/2^j)) (fun _ k=>l-(intOf k).toNat)
 case atStart=>exact ⟨0,Nat.zero_le _,rfl,by simp⟩
 case round=>
  obtain ⟨j,hj,rfl,rfl⟩:=hrel;have hb:=b0w n j 1099511627776 n0 n1 (by omega)
  have HS:Hid (n/2^(j+1)=(n/2^j)/2):=a6X n j;generalize hq:n/2^j=q at *;have HQ:Hid (n/2^j=q):=hq;clear hq;by_cases hlt:j<l
  ·by_cases hneg:q<0
   ·go_wp2
    go_round;(case rel=>exact ⟨j+1,by omega,by go_num,by rw[HS.out];first|go_num|(rw[c07 _ hneg])⟩);case measure=>simp[intOf];omega
   ·go_wp2
    go_round;(case rel=>exact ⟨j+1,by omega,by go_num,by rw[HS.out]⟩);case measure=>simp[intOf];omega
  ·have hjl:j=l:=by omega
   subst hjl;go_wp2_with fail;(refine (b2k _ _ (by omega) (by omega)).mono ?_);rintro e w' ⟨rfl,rfl⟩;(have e1:((h:Int)-(j:Int)+1).toNat=h-j+1:=by omega);rw[e1];have m0:=Pn.pow_pos (h-j+1);have m1:=a7D (show h-j+1<=62 by omega)
   have HR:Hid (Pn.bits n h j=if q.tmod (2^(h-j+1))<0 then q.tmod (2^(h-j+1))+2^(h-j+1) else q.tmod (2^(h-j+1))):=by
    rw[c1E _ _ m0,<-HQ.out];rfl
   clear e1;generalize (2:Int)^(h-j+1)=m at *;have t0:=Int.lt_tmod_of_pos q m0;have t1:=Int.tmod_lt_of_pos q m0;go_wp2
   all_goals
    go_ret;refine ⟨a0P ?_,rfl⟩;rw[HR.out]
    first|rw[if_pos ‹_›]|rw[if_neg (by omega)]
theorem a2g (n hi lo:Int) (w:World) (n0:-1099511627776<=n) (n1:n<=1099511627776) (l0:0<=lo) (l1:lo<=hi) (hh:hi<=60):
    Calls prog 159 #[.int .i64 n,.int .i64 hi,.int .i64 lo] w fun e w'=>e=.returned (.int .i64 (a0c n hi lo))/\w'=w:=c1N n hi lo w n0 n1 l0 l1 hh
theorem b97 (w:World):
    Calls prog 157 #[] w fun e w'=>e=.returned (.slice (some ⟨w.heap.size,0,none⟩) 64 64)/\w'=w.alloc (.cells a5I 214):=
 b2v _ _ func157 rfl (by kernel_rfl)
theorem a8S (w:World):
    Calls prog 157 #[] w fun e w'=>∃C,c3Y C/\e=.returned (.slice (some ⟨w.heap.size,0,none⟩) 64 64)/\w'=w.alloc (.cells C 214):=
 (b97 w).mono fun _ _ h=>⟨_,c8D,h⟩
theorem a1r {a b:Value} (h:a=b):Ending.returned a=.returned b:=by rw[h]
theorem b7r (k:Nat) (w:World):
    Calls prog 160 #[.int .u8 k] w fun e w'=>e=.returned (.tuple #[.bool (Pn.has k).1,.bool (Pn.has k).2.1,.bool (Pn.has k).2.2])/\w'=w:=by
 go_enter func160,ntmps160;go_wp2
 all_goals
  go_ret3;refine ⟨a1r ?_,rfl⟩;simp only[beq_iff_eq,beq_eq_false_iff_ne,ne_eq]at *;unfold Pn.has
  first
  | (rw[if_pos (by omega)];rfl)
  | (rw[if_neg (by omega),if_pos (by omega)];rfl)
  | (rw[if_neg (by omega),if_neg (by omega),if_pos (by omega)];rfl)
  | (rw[if_neg (by omega),if_neg (by omega),if_neg (by omega),if_pos (by omega)];rfl)
  | (rw[if_neg (by omega),if_neg (by omega),if_neg (by omega),if_neg (by omega)];rfl)
theorem a30 (n lo hi:Int) (w:World):
    Calls prog 240 #[.int .i64 n,.int .i64 lo,.int .i64 hi] w fun e w'=>e=.returned (.bool (a0j n lo hi))/\w'=w:=by
 go_enter func240,ntmps240;go_wp2
 all_goals
  go_ret;refine ⟨a1r ?_,rfl⟩;unfold a0j
  first
  | (rw[decide_eq_true (p:=lo<=n) (by omega)];rfl)
  | (rw[decide_eq_false (p:=lo<=n) (by omega)];rfl)
theorem b1q (t:Bool) (n:Int) (w:World):
    Calls prog 205 #[.bool t,.int .i64 n] w fun e w'=>e=.returned (.bool (a0e t n))/\w'=w:=by
 cases t
 ·go_enter func205,ntmps205
  go_wp2;go_ret;exact ⟨rfl,rfl⟩
 ·go_enter func205,ntmps205
  go_wp2_with (go_at_call 240;refine (a30 _ _ _ _).mono ?_;rintro e w' ⟨rfl,rfl⟩);go_ret;exact ⟨rfl,rfl⟩
theorem b24 (k:Nat) (n:Int) (w:World):
    Calls prog 206 #[.int .u8 k,.int .i64 n] w fun e w'=>e=.returned (.bool (a0p k n))/\w'=w:=by
 go_enter func206,ntmps206;go_wp2_with (go_at_call 240;refine (a30 _ _ _ _).mono ?_;rintro e w' ⟨rfl,rfl⟩)
 all_goals
  go_ret;refine ⟨a1r ?_,rfl⟩;simp only[beq_iff_eq,beq_eq_false_iff_ne,ne_eq,Bool.not_eq_true]at *;unfold a0p
  first
  | (rw[if_pos (by omega)];rfl)
  | (rw[if_neg (by omega),if_pos (by omega)];rfl)
  | (rw[if_neg (by omega),if_neg (by omega),if_pos (by omega)];rfl)
  | (rw[if_neg (by omega),if_neg (by omega),if_neg (by omega),if_pos (by omega),‹a0j _ _ _=_›];rfl)
  | (rw[if_neg (by omega),if_neg (by omega),if_neg (by omega),if_neg (by omega),if_pos (by omega)];rfl)
  | (rw[if_neg (by omega),if_neg (by omega),if_neg (by omega),if_neg (by omega),if_neg (by omega),if_pos (by omega),‹a0j _ _ _=_›];rfl)
  | (rw[if_neg (by omega),if_neg (by omega),if_neg (by omega),if_neg (by omega),if_neg (by omega),if_neg (by omega)];rfl)
def b8k (w0:World) (k:Nat) (p:Value) (wc:World):Prop:=
 ∃b,p=.pointer (some ⟨b,0,none⟩)/\w0.heap.size<=b/\b<wc.heap.size/\wc.cell? ⟨b,0,none⟩=some (.string ⟨(Pn.row k).name.toArray⟩)/\wc.cell? ⟨b,1,none⟩=some (.int .u8 (Pn.row k).kind)/\
  wc.cell? ⟨b,2,none⟩=some (.int .i64 (Pn.row k).opc)/\wc.cell? ⟨b,3,none⟩=some (.int .i64 (Pn.row k).f)/\wc.cell? ⟨b,4,none⟩=some (.int .i64 (Pn.row k).g)/\Below w0.heap.size w0 wc
theorem b3h (w0:World) (k:Nat) (C:Array Value) (t u N:Nat) (hN:w0.heap.size=N):b8k w0 k (.pointer (some ⟨N+1,0,none⟩))
    ((w0.alloc (.cells C t)).alloc (.cells #[.string ⟨(Pn.row k).name.toArray⟩,.int .u8 (Pn.row k).kind,.int .i64 (Pn.row k).opc,.int .i64 (Pn.row k).f,.int .i64 (Pn.row k).g] u)).drew:=by
 subst hN;refine ⟨_,rfl,by omega,by simp,by go_simp,by go_simp,by go_simp,by go_simp,by go_simp,(((Below.refl _ _).alloc (Nat.le_refl _) _).alloc (by simp) _).drew⟩
theorem b3H (w0:World) (k:Nat) (C:Array Value) (t u N:Nat) (hN:w0.heap.size=N):b8k w0 k (.pointer (some ⟨N,0,none⟩))
    ((w0.alloc (.cells #[.string ⟨(Pn.row k).name.toArray⟩,.int .u8 (Pn.row k).kind,.int .i64 (Pn.row k).opc,.int .i64 (Pn.row k).f,.int .i64 (Pn.row k).g] u)).alloc (.cells C t)).drew:=by
 subst hN;refine ⟨_,rfl,by omega,by simp;omega,by go_simp,by go_simp,by go_simp,by go_simp,by go_simp,(((Below.refl _ _).alloc (Nat.le_refl _) _).alloc (by simp) _).drew⟩
theorem a58 (w:World) (o:Obj):(w.alloc o).heap.size=w.heap.size+1:=by simp
theorem c0t (k:Nat) (rd rs1 rs2 imm:Int) (w:World) (hk:k<64):
    Calls prog 156 #[.agg #[.int .i64 (k+1),.int .i64 rd,.int .i64 rs1,.int .i64 rs2,.int .i64 imm]] w fun e w'=>e=.returned (.bool (Pn.right ⟨k+1,rd,rs1,rs2,imm⟩))/\Below w.heap.size w w':=by
 have hk2:(k:Int)<64:=by omega
 have hwr:IntKind.i64.wrap (k:Int)=(k:Int):=IntWalk.i64_in _ (by omega)
 go_enter func156,ntmps156;go_wp2_with fail;go_cut [3] (fun p wc=>b8k (w.alloc (.cells #[.int .i64 (k+1),.int .i64 rd,.int .i64 rs1,.int .i64 rs2,.int .i64 imm] 26)) k p wc)
 case first=>
  go_region_with (go_at_call 157;refine (a8S _).mono ?_;rintro e w' ⟨C,hC,rfl,rfl⟩;obtain ⟨c0,c1,c2,c3,c4⟩:=hC k hk)
  all_goals (go_wp2_with fail;go_meet)
  all_goals first|exact b3h _ k C _ _ _ (a58 _ _)|exact b3H _ k C _ _ _ (a58 _ _)
 case rest=>
  obtain ⟨b,rfl,hb1,hb2,c0,c1,c2,c3,c4,hB⟩:=hcut;simp only[World.size_alloc]at hb1;have i1:wc.cell? ⟨w.heap.size,1,none⟩=some (.int .i64 rd):=(hB.cell (p:=⟨w.heap.size,1,none⟩) (by simp)).trans (by go_simp)
  have i2:wc.cell? ⟨w.heap.size,2,none⟩=some (.int .i64 rs1):=(hB.cell (p:=⟨w.heap.size,2,none⟩) (by simp)).trans (by go_simp)
  have i3:wc.cell? ⟨w.heap.size,3,none⟩=some (.int .i64 rs2):=(hB.cell (p:=⟨w.heap.size,3,none⟩) (by simp)).trans (by go_simp)
  have i4:wc.cell? ⟨w.heap.size,4,none⟩=some (.int .i64 imm):=(hB.cell (p:=⟨w.heap.size,4,none⟩) (by simp)).trans (by go_simp)
  have HB:Hid (Below w.heap.size w wc):=((Below.refl _ _).alloc (Nat.le_refl _) _).trans (hB.mono (by simp))
  clear hB
  go_wp2_with (first
   | (go_at_call 160;refine (b7r _ _).mono ?_;rintro e w' ⟨rfl,rfl⟩)
   | (go_at_call 205;refine (b1q _ _ _).mono ?_;rintro e w' ⟨rfl,rfl⟩)
   | (go_at_call 206;refine (b24 _ _ _).mono ?_;rintro e w' ⟨rfl,rfl⟩))
  all_goals
   go_ret;refine ⟨a1r ?_,HB.out⟩;rw[a0d _ _ _ _ _ hk]
   first
   | (refine congrArg Value.bool (c8x ?_ ?_ ?_).symm<;>assumption)
   | (refine congrArg Value.bool (c69 ?_ ?_ ?_).symm<;>assumption)
   | (refine congrArg Value.bool (c7X ?_ ?_).symm<;>assumption)
   | (refine congrArg Value.bool (c7y ?_).symm<;>assumption)
theorem c11 (op rd rs1 rs2 imm:Int) (w:World) (h:op<1):
    Calls prog 156 #[.agg #[.int .i64 op,.int .i64 rd,.int .i64 rs1,.int .i64 rs2,.int .i64 imm]] w fun e w'=>e=.returned (.bool false)/\Below w.heap.size w w':=by
 go_enter func156,ntmps156;go_wp2_with fail;go_ret;exact ⟨rfl,(Below.refl _ _).alloc (Nat.le_refl _) _⟩
theorem c1D (op rd rs1 rs2 imm:Int) (w:World) (h:64<op):
    Calls prog 156 #[.agg #[.int .i64 op,.int .i64 rd,.int .i64 rs1,.int .i64 rs2,.int .i64 imm]] w fun e w'=>e=.returned (.bool false)/\Below w.heap.size w w':=by
 have h':¬op<1:=by omega
 go_enter func156,ntmps156;go_wp2_with fail;go_ret;exact ⟨rfl,(Below.refl _ _).alloc (Nat.le_refl _) _⟩
theorem a0V (i:Pn.Ins) (w:World):
    Calls prog 156 #[i.val] w fun e w'=>e=.returned (.bool (Pn.right i))/\Below w.heap.size w w':=by
 obtain ⟨op,rd,rs1,rs2,imm⟩:=i;unfold Pn.Ins.val;simp only;by_cases h1:op<1
 ·rw[a1C _ (by simp only;omega)];exact c11 _ _ _ _ _ _ h1
 ·by_cases h2:64<op
  ·rw[a1C _ (by simp only;omega)];exact c1D _ _ _ _ _ _ h2
  ·obtain ⟨k,rfl⟩:∃k:Nat,op=k+1:=⟨(op-1).toNat,by omega⟩
   exact c0t k rd rs1 rs2 imm w (by omega)
