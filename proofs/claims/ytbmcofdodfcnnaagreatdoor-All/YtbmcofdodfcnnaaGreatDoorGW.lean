import Derived.Test.YtbmcofdodfcnnaaGreatDoorProg
import Derived.WalkSpells
import Derived.WalkLawsBesides
import Derived.Deep.RegionWith
import Derived.Deep.QuietTactic
import Derived.BigQuiet
import Derived.Deep.DeepCutAuto
import Derived.IntWalk
import Derived.Test.YtbmcofdodfcnnaaGreatDoorGP
import Derived.Test.YtbmcofdodfcnnaaGreatDoorGK
set_option linter.all false
set_option maxHeartbeats 0
set_option maxRecDepth 100000
namespace Go
open Proofs.Tryz RowKit
variable {w0 w : World} {rs1 rs2 imm : Int}
def fZ {k:IntKind} {a b:Int} (h:a=b):Ending.returned (.int k a)=.returned (.int k b):=by rw[h]
def CP (i) (w) (y:0<=i) (E:i<=62):
    zS prog 158 #[.int .i64 i] w (.int .i64 (2^i.toNat)):=by
 unfold zS;obtain ⟨n,rfl⟩:=zi y;rw[Int.toNat_natCast];go_in;go_wp2;go_loop [3,4] (λ m k=>∃j:Nat,j<=n/\k=.int .i64 j/\m=.int .i64 (2^j)) (λ _ k=>n-(intOf k).toNat)
 case atStart=>exact ⟨0,Nat.zero_le _,rfl,rfl⟩
 case round=>
  obtain ⟨j,F,rfl,rfl⟩:=hrel;have q:=gU (show j<=62 by omega)
  have G:(0:Int)<2^j:=Int.pow_pos (by omega)
  have A:(2:Int)^j<=4611686018427387904:=q;clear q;by_cases D:j<n
  .have h:=gU (show j+1<=62 by omega)
   have u:=pr j
   have C:(2:Int)^j<=2305843009213693952:=by
    have:(2:Int)^(j+1)<=4611686018427387904:=h;omega
   have v:Hid ((2:Int)^(j+1)=2*2^j):=u;clear u h;go_wp2;go_round;(case rel=>exact ⟨j+1,by omega,by go_num,by rw[v.out]⟩);case measure=>simp[intOf];omega
  go_wp2;go_ret;have:j=n:=by omega
  subst this;exact ⟨rfl,rfl⟩
def ke (i) (w) (h:0<=i) (j:i<=62):
    zS prog 158 #[.int .i64 i] w (.int .i64 (cB i)):=CP i w h j
def Oy (n hi lo) (w) (I:-1099511627776<=n) (J:n<=1099511627776) (H:0<=lo) (N:lo<=hi) (L:hi<=60):
    zS prog 159 #[.int .i64 n,.int .i64 hi,.int .i64 lo] w (.int .i64 (fE n hi.toNat lo.toNat)):=by
 unfold zS;obtain ⟨l,rfl⟩:=zi H;obtain ⟨h,rfl⟩:=zi (show 0<=hi by omega)
 simp only[Int.toNat_natCast];go_in;go_wp2;go_loop [0,7] (λ m k=>∃j:Nat,j<=l/\k=.int .i64 j/\m=.int .i64 (n/2^j)) (λ _ k=>l-(intOf k).toNat)
 case atStart=>exact ⟨0,Nat.zero_le _,rfl,by simp⟩
 case round=>
  obtain ⟨j,M,rfl,rfl⟩:=hrel;have K:=JP n j 1099511627776 I J (by omega)
  have A:Hid (n/2^(j+1)=(n/2^j)/2):=BK n j;generalize D:n/2^j=q at *;have E:Hid (n/2^j=q):=D;clear D;by_cases G:j<l
  .by_cases u:q<0
   .go_wp2
    go_round;(case rel=>exact ⟨j+1,by omega,by go_num,by rw[A.out];first|go_num|(rw[PN _ u])⟩);case measure=>simp[intOf];omega
   go_wp2;go_round;(case rel=>exact ⟨j+1,by omega,by go_num,by rw[A.out]⟩);case measure=>simp[intOf];omega
  have v:j=l:=by omega
  subst v;go_wp2_with fail;refine (CP _ _ (by omega) (by omega)).mono ?_
  rintro e w' ⟨rfl,rfl⟩;have C:((h:Int)-(j:Int)+1).toNat=h-j+1:=by omega
  rw[C];have y:=pow_pos (h-j+1);have O:=uZ (show h-j+1<=62 by omega)
  have F:Hid (fE n h j=if q.tmod (2^(h-j+1))<0 then q.tmod (2^(h-j+1))+2^(h-j+1) else q.tmod (2^(h-j+1))):=by
   rw[Ql _ _ y,<-E.out];rfl
  clear C;generalize (2:Int)^(h-j+1)=m at *;have t0:=Int.lt_tmod_of_pos q y;have t1:=Int.tmod_lt_of_pos q y;go_wp2
  all_goals
   go_ret;refine ⟨fZ ?_,rfl⟩;rw[F.out]
   first|rw[zt ‹_›]|rw[aC (by omega)]
def nC (n hi lo) (w) (u:-1099511627776<=n) (v:n<=1099511627776) (j:0<=lo) (q:lo<=hi) (h:hi<=60):
    zS prog 159 #[.int .i64 n,.int .i64 hi,.int .i64 lo] w (.int .i64 (aD n hi lo)):=Oy n hi lo w u v j q h
def PM (w):
    Calls prog 157 #[] w λ e w'=>e=.returned (.slice (some ⟨w.heap.size,0,none⟩) 64 64)/\w'=w.alloc (.cells uD 214):=
 DE _ _ func157 rfl (by kernel_rfl)
def ox (w):
    Calls prog 157 #[] w λ e w'=>∃C,AX C/\e=.returned (.slice (some ⟨w.heap.size,0,none⟩) 64 64)/\w'=w.alloc (.cells C 214):=
 (PM w).mono λ _ _ h=>⟨_,WE,h⟩
def iZ {a b:Value} (h:a=b):Ending.returned a=.returned b:=by rw[h]
def Gv (k:Nat) (w:World):
    zS prog 160 #[.int .u8 k] w (.tuple #[.bool (has k).1,.bool (has k).2.1,.bool (has k).2.2]):=by
 unfold zS;go_in;go_wp2
 all_goals
  go_ret3;refine ⟨iZ ?_,rfl⟩;simp only[beq_iff_eq,beq_eq_false_iff_ne,ne_eq]at *;unfold has
  first
  | (rw[zt (by omega)];rfl)
  | (rw[aC (by omega),zt (by omega)];rfl)
  | (rw[aC (by omega),aC (by omega),zt (by omega)];rfl)
  | (rw[aC (by omega),aC (by omega),aC (by omega),zt (by omega)];rfl)
  | (rw[aC (by omega),aC (by omega),aC (by omega),aC (by omega)];rfl)
def uc (n lo hi) (w):
    zS prog 240 #[.int .i64 n,.int .i64 lo,.int .i64 hi] w (.bool (bU n lo hi)):=by
 unfold zS;go_in;go_wp2
 all_goals
  go_ret;refine ⟨iZ ?_,rfl⟩;unfold bU
  first
  | (rw[decide_eq_true (p:=lo<=n) (by omega)];rfl)
  | (rw[decide_eq_false (p:=lo<=n) (by omega)];rfl)
def K4 (t) (n) (w):
    zS prog 205 #[.bool t,.int .i64 n] w (.bool (cK t n)):=by
 unfold zS
 cases t
 .go_in
  go_wp2;go_ret;exact ⟨rfl,rfl⟩
 go_in;go_wp2_with (go_at_call 240;refine zk (uc _ _ _ _) ?_);go_ret;exact ⟨rfl,rfl⟩
def Kr (k:Nat) (n:Int) (w:World):
    zS prog 206 #[.int .u8 k,.int .i64 n] w (.bool (cW k n)):=by
 unfold zS;go_in;go_wp2_with (go_at_call 240;refine zk (uc _ _ _ _) ?_)
 all_goals
  go_ret;refine ⟨iZ ?_,rfl⟩;simp only[beq_iff_eq,beq_eq_false_iff_ne,ne_eq,Bool.not_eq_true]at *;unfold cW
  first
  | (rw[zt (by omega)];rfl)
  | (rw[aC (by omega),zt (by omega)];rfl)
  | (rw[aC (by omega),aC (by omega),zt (by omega)];rfl)
  | (rw[aC (by omega),aC (by omega),aC (by omega),zt (by omega),‹bU _ _ _=_›];rfl)
  | (rw[aC (by omega),aC (by omega),aC (by omega),aC (by omega),zt (by omega)];rfl)
  | (rw[aC (by omega),aC (by omega),aC (by omega),aC (by omega),aC (by omega),zt (by omega),‹bU _ _ _=_›];rfl)
  | (rw[aC (by omega),aC (by omega),aC (by omega),aC (by omega),aC (by omega),aC (by omega)];rfl)
def tq (w0:World) (k:Nat) (p:Value) (wc:World):Prop:=
 ∃b,p=.pointer (some ⟨b,0,none⟩)/\w0.heap.size<=b/\b<wc.heap.size/\wc.cell? ⟨b,0,none⟩=some (.string ⟨(row k).name.toArray⟩)/\wc.cell? ⟨b,1,none⟩=some (.int .u8 (row k).kind)/\
  wc.cell? ⟨b,2,none⟩=some (.int .i64 (row k).opc)/\wc.cell? ⟨b,3,none⟩=some (.int .i64 (row k).f)/\wc.cell? ⟨b,4,none⟩=some (.int .i64 (row k).g)/\Below w0.heap.size w0 wc
def A4 (w0) (k) (C) (t u N) (h:w0.heap.size=N):tq w0 k (.pointer (some ⟨N+1,0,none⟩))
    ((w0.alloc (.cells C t)).alloc (.cells #[.string ⟨(row k).name.toArray⟩,.int .u8 (row k).kind,.int .i64 (row k).opc,.int .i64 (row k).f,.int .i64 (row k).g] u)).drew:=by
 subst h;refine ⟨_,rfl,by omega,by simp,by go_simp,by go_simp,by go_simp,by go_simp,by go_simp,(aJ.alloc (by simp) _).drew⟩
def zW (w0) (k) (C) (t u N) (h:w0.heap.size=N):tq w0 k (.pointer (some ⟨N,0,none⟩))
    ((w0.alloc (.cells #[.string ⟨(row k).name.toArray⟩,.int .u8 (row k).kind,.int .i64 (row k).opc,.int .i64 (row k).f,.int .i64 (row k).g] u)).alloc (.cells C t)).drew:=by
 subst h;refine ⟨_,rfl,by omega,by simp;omega,by go_simp,by go_simp,by go_simp,by go_simp,by go_simp,(aJ.alloc (by simp) _).drew⟩
def mU (w:World) (o:Obj):(w.alloc o).heap.size=w.heap.size+1:=by simp
def NW (k:Nat) (rd rs1 rs2 imm:Int) (w:World) (q:k<64):
    aG prog 156 #[.agg #[.int .i64 (k+1),.int .i64 rd,.int .i64 rs1,.int .i64 rs2,.int .i64 imm]] w (.bool (right ⟨k+1,rd,rs1,rs2,imm⟩)):=by
 unfold aG;have D:(k:Int)<64:=by omega
 have E:IntKind.i64.wrap (k:Int)=(k:Int):=zw _ (by omega)
 go_in;go_wp2_with fail;go_cut [3] (λ p wc=>tq (w.alloc (.cells #[.int .i64 (k+1),.int .i64 rd,.int .i64 rs1,.int .i64 rs2,.int .i64 imm] 26)) k p wc)
 case first=>
  go_region_with (go_at_call 157;refine (ox _).mono ?_;rintro e w' ⟨C,y,rfl,rfl⟩;obtain ⟨c0,c1,c2,v,c4⟩:=y k q)
  all_goals (go_wp2_with fail;go_meet)
  all_goals first|exact A4 _ k C _ _ _ (mU _ _)|exact zW _ k C _ _ _ (mU _ _)
 case rest=>
  obtain ⟨b,rfl,j,A,c0,c1,c2,v,c4,h⟩:=hcut;simp only[za]at j;have F:wc.cell? ⟨w.heap.size,1,none⟩=some (.int .i64 rd):=(h.cell (p:=⟨w.heap.size,1,none⟩) (by simp)).trans (by go_simp)
  have G:wc.cell? ⟨w.heap.size,2,none⟩=some (.int .i64 rs1):=(h.cell (p:=⟨w.heap.size,2,none⟩) (by simp)).trans (by go_simp)
  have H:wc.cell? ⟨w.heap.size,3,none⟩=some (.int .i64 rs2):=(h.cell (p:=⟨w.heap.size,3,none⟩) (by simp)).trans (by go_simp)
  have I:wc.cell? ⟨w.heap.size,4,none⟩=some (.int .i64 imm):=(h.cell (p:=⟨w.heap.size,4,none⟩) (by simp)).trans (by go_simp)
  have u:Hid (Below w.heap.size w wc):=aJ.trans (h.mono (by simp))
  clear h
  go_wp2_with (first
   | (go_at_call 160;refine (Gv _ _).mono ?_;rintro e w' ⟨rfl,rfl⟩)
   | (go_at_call 205;refine (K4 _ _ _).mono ?_;rintro e w' ⟨rfl,rfl⟩)
   | (go_at_call 206;refine (Kr _ _ _).mono ?_;rintro e w' ⟨rfl,rfl⟩))
  all_goals
   go_ret;refine ⟨iZ ?_,u.out⟩;rw[dJ _ _ _ _ _ q]
   first
   | (refine congrArg Value.bool (WD ?_ ?_ ?_).symm<;>assumption)
   | (refine congrArg Value.bool (Iu ?_ ?_ ?_).symm<;>assumption)
   | (refine congrArg Value.bool (I5 ?_ ?_).symm<;>assumption)
   | (refine congrArg Value.bool (Iw ?_).symm<;>assumption)
def Qh (op rd rs1 rs2 imm) (w) (h:op<1):
    aG prog 156 #[.agg #[.int .i64 op,.int .i64 rd,.int .i64 rs1,.int .i64 rs2,.int .i64 imm]] w (.bool false):=by
 unfold aG;go_in;go_wp2;go_ret;exact ⟨rfl,aJ⟩
def Pl (op rd rs1 rs2 imm) (w) (h:64<op):
    aG prog 156 #[.agg #[.int .i64 op,.int .i64 rd,.int .i64 rs1,.int .i64 rs2,.int .i64 imm]] w (.bool false):=by
 unfold aG;have j:¬op<1:=by omega
 go_in;go_wp2;go_ret;exact ⟨rfl,aJ⟩
def lV (i) (w):
    aG prog 156 #[i.val] w (.bool (right i)):=by
 unfold aG;obtain ⟨op,rd,rs1,rs2,imm⟩:=i;unfold aE.val;simp only;by_cases h:op<1
 .rw[lY _ (by simp only;omega)];exact Qh _ _ _ _ _ _ h
 by_cases j:64<op
 .rw[lY _ (by simp only;omega)];exact Pl _ _ _ _ _ _ j
 obtain ⟨k,rfl⟩:∃k:Nat,op=k+1:=⟨(op-1).toNat,by omega⟩
 exact NW k rd rs1 rs2 imm w (by omega)
def pQ (w0:World) (b k kd:Nat) (rd rs1 rs2 imm:Int) (w:World):Prop:=
 w.cell? ⟨w0.heap.size,1,none⟩=some (.int .i64 rd)/\w.cell? ⟨w0.heap.size,2,none⟩=some (.int .i64 rs1)/\w.cell? ⟨w0.heap.size,3,none⟩=some (.int .i64 rs2)/\w.cell? ⟨w0.heap.size,4,none⟩=some (.int .i64 imm)/\
 w.cell? ⟨b,1,none⟩=some (.int .u8 kd)/\w.cell? ⟨b,2,none⟩=some (.int .i64 (row k).opc)/\w.cell? ⟨b,3,none⟩=some (.int .i64 (row k).f)/\w.cell? ⟨b,4,none⟩=some (.int .i64 (row k).g)/\Below w0.heap.size w0 w
def pQ.drewN {b k kd:Nat} {rd:Int} (h:pQ w0 b k kd rd rs1 rs2 imm w) (n):pQ w0 b k kd rd rs1 rs2 imm (w.drewN n):=by
 obtain ⟨j,q,u,v,y,A,C,h8,D⟩:=h;exact ⟨j,q,u,v,y,A,C,h8,below_drewN D n⟩
def pQ.below {b k kd:Nat} {rd:Int} (h:pQ w0 b k kd rd rs1 rs2 imm w):Below w0.heap.size w0 w:=h.2.2.2.2.2.2.2.2
def tW {a j b q:Value} (h:a=j) (u:b=q):Ending.returned (.tuple #[a,b])=.returned (.tuple #[j,q]):=by rw[h,u]
def Nm (k:Nat) (rd rs1 rs2 imm:Int) (w:World) (H:k<64) (hr:right ⟨k+1,rd,rs1,rs2,imm⟩=true)
    (d0:0<=rd) (d1:rd<=31) (s0:0<=rs1) (s1:rs1<=31) (t0:0<=rs2) (t1:rs2<=31) (m0:-1048576<=imm) (m1:imm<=1048576):
    Calls prog 91 #[.agg #[.int .i64 (k+1),.int .i64 rd,.int .i64 rs1,.int .i64 rs2,.int .i64 imm]] w λ e w'=>
     e=.returned (.tuple #[.int .i64 (dS k rd rs1 rs2 imm),.int .i64 0])/\Below w.heap.size w w':=by
 have al:(k:Int)<64:=by omega
 have am:IntKind.i64.wrap (k:Int)=(k:Int):=zw _ (by omega)
 have Q:Hid (right ⟨k+1,rd,rs1,rs2,imm⟩=true):=hr;clear hr;go_in;go_wp2_with fail;refine zK (lV ⟨k+1,rd,rs1,rs2,imm⟩ _) λ y q=>?_;rw[Q.out];have i0:y.cell? ⟨w.heap.size,0,none⟩=some (.int .i64 (k+1)):=(q.cell (p:=⟨w.heap.size,0,none⟩) (by simp)).trans (by go_simp)
 have i1:y.cell? ⟨w.heap.size,1,none⟩=some (.int .i64 rd):=(q.cell (p:=⟨w.heap.size,1,none⟩) (by simp)).trans (by go_simp)
 have i2:y.cell? ⟨w.heap.size,2,none⟩=some (.int .i64 rs1):=(q.cell (p:=⟨w.heap.size,2,none⟩) (by simp)).trans (by go_simp)
 have i3:y.cell? ⟨w.heap.size,3,none⟩=some (.int .i64 rs2):=(q.cell (p:=⟨w.heap.size,3,none⟩) (by simp)).trans (by go_simp)
 have i4:y.cell? ⟨w.heap.size,4,none⟩=some (.int .i64 imm):=(q.cell (p:=⟨w.heap.size,4,none⟩) (by simp)).trans (by go_simp)
 have v:w.heap.size<y.heap.size:=by have:=q.size;simp at this;omega
 have F:Hid (Below w.heap.size w y):=aJ.trans (q.mono (by simp))
 clear q;go_wp2_with fail;go_cut [5] (λ p wc=>tq y k p wc)
 case first=>
  go_region_with (go_at_call 157;refine (ox _).mono ?_;rintro e w' ⟨C,hC,rfl,rfl⟩;obtain ⟨c0,c1,c2,A,c4⟩:=hC k H)
  all_goals (go_wp2_with fail;go_meet)
  all_goals first|exact A4 _ k C _ _ _ rfl|exact zW _ k C _ _ _ rfl
 case rest=>
  obtain ⟨b,rfl,X,Y,c0,c1,c2,A,c4,D⟩:=hcut;have I:=(D.cell (p:=⟨w.heap.size,1,none⟩) v).trans i1;have J:=(D.cell (p:=⟨w.heap.size,2,none⟩) v).trans i2;have K:=(D.cell (p:=⟨w.heap.size,3,none⟩) v).trans i3;have L:=(D.cell (p:=⟨w.heap.size,4,none⟩) v).trans i4;have E:Below w.heap.size w wc:=F.out.trans (D.mono (by omega))
  obtain ⟨o0,o1,f0,f1,g0,g1,_⟩:=kc k H;have p7:cB 7=128:=rfl;have p8:cB 8=256:=rfl;have ao:cB 12=4096:=rfl;have aq:cB 15=32768:=rfl;have ar:cB 20=1048576:=rfl;have au:cB 21=2097152:=rfl;have av:cB 25=33554432:=rfl;have aw:cB 26=67108864:=rfl;have ax:cB 31=2147483648:=rfl;have G:pQ w b k (row k).kind rd rs1 rs2 imm wc:=⟨I,J,K,L,c1,c2,A,c4,E⟩;clear c0 i0 i1 i2 i3 i4 F D E;go_wp2_with fail;go_quiet ((go_at_call 158;exact Calls.quiet_of_same (ke _ _ (by decide) (by decide))))
  have j:=G.drewN nq;clear G I J K L c1 c2 A c4 X Y;generalize wc.drewN nq=w2 at j ⊢;have U:=yU imm;have V:=Gi imm;have ac:=AL imm;have N:=F4 imm;have T:=FG imm;have ae:=GO imm;have M:=ye imm;have W:=FM imm;have P:=qG imm;have R:=FH imm;have O:=qE imm;rcases kinds k H with h|h|h|h|h|h|h|h|h|h
  all_goals
   first
   | (have Z:=Cz H Q.out h;obtain ⟨aa,ab⟩:=Z)
   | (have Z:=CB H Q.out h;obtain ⟨aa,ab⟩:=Z)
   | skip
   rw[h]at j;have u:Hid _:=h;clear h;obtain ⟨I,J,K,L,c1,c2,A,c4,E⟩:=id j;go_wp2_with fail
   try
    (go_quiet ((go_at_call 158;exact Calls.quiet_of_same (ke _ _ (by decide) (by decide)))));replace j:=j.drewN nq;clear I J K L c1 c2 A c4 E;generalize w2.drewN nq=w3 at j ⊢;obtain ⟨I,J,K,L,c1,c2,A,c4,E⟩:=id j
   go_wp2_with (first
    | (go_at_call 159;refine (nC _ _ _ _ (by omega) (by omega) (by decide) (by decide) (by decide)).mono ?_;rintro e w' ⟨rfl,rfl⟩)
    | (go_at_call 158;refine (ke _ _ (by decide) (by decide)).mono ?_;rintro e w' ⟨rfl,rfl⟩))
   try
    (go_quiet ((go_at_call 158;exact Calls.quiet_of_same (ke _ _ (by decide) (by decide)))));replace j:=j.drewN nq;go_wp2
   go_ret2;exact ⟨tW (congrArg (Value.int .i64) (by first|exact (wo k rd rs1 rs2 imm u.out).symm|exact (wh k rd rs1 rs2 imm u.out).symm|exact (ws k rd rs1 rs2 imm u.out).symm|exact (vR k rd rs1 rs2 imm u.out).symm|exact (vN k rd rs1 rs2 imm u.out).symm|exact (vO k rd rs1 rs2 imm u.out).symm|exact (vP k rd rs1 rs2 imm u.out).symm|exact (vS k rd rs1 rs2 imm u.out).symm|exact (vQ k rd rs1 rs2 imm u.out).symm|exact (ww k rd rs1 rs2 imm u.out).symm)) rfl,j.below⟩
def Lp (i) (w) (h:right i=false):
    aG prog 91 #[i.val] w (.tuple #[.int .i64 0,.int .i64 1]):=by
 unfold aG;have H:Hid (right i=false):=h;clear h;obtain ⟨op,rd,rs1,rs2,imm⟩:=i;unfold aE.val;simp only;go_in;go_wp2_with fail;refine zK (lV ⟨op,rd,rs1,rs2,imm⟩ _) λ u j=>?_;rw[H.out];have q:Hid (Below w.heap.size w u):=aJ.trans (j.mono (by simp))
 clear j;go_wp2;go_ret2;exact ⟨rfl,q.out⟩
def xK (i) (w):
    aG prog 91 #[i.val] w (.tuple #[.int .i64 (bB i).1,.int .i64 (bB i).2]):=by
 unfold aG;by_cases h:right i=true
 .obtain ⟨op,rd,rs1,rs2,imm⟩:=i
  have H:1<=op/\op<=64:=by
   apply Classical.byContradiction;intro G;rw[lY _ G]at h;cases h
  obtain ⟨k,rfl⟩:∃k:Nat,op=k+1:=⟨(op-1).toNat,by omega⟩
  have q:k<64:=by omega
  obtain ⟨⟨u,v⟩,⟨y,A⟩,⟨C,D⟩,E,F⟩:=o6 q h;rw[ky h];exact Nm k rd rs1 rs2 imm w q h u v y A C D E F
 have j:right i=false:=by simpa using h
 rw[A7 j];exact Lp i w j
def si (n size) (w) (u:0<=n) (v:n<=1099511627776) (j:1<=size) (q:size<=40):
    zS prog 161 #[.int .i64 n,.int .i64 size] w (.int .i64 (bG n size)):=by
 unfold zS;have y:0<cB (size-1)/\cB (size-1)<=4611686018427387904:=⟨pow_pos _,uZ (by omega)⟩
 have A:0<cB size/\cB size<=4611686018427387904:=⟨pow_pos _,uZ (by omega)⟩
 by_cases h:cB (size-1)<=n
 .go_in
  go_wp2_with (go_at_call 158;refine zk (ke _ _ (by omega) (by omega)) ?_)
  go_ret;exact ⟨fZ (by unfold bG;rw[zt h]),rfl⟩
 go_in;go_wp2_with (go_at_call 158;refine zk (ke _ _ (by omega) (by omega)) ?_)
 go_ret;exact ⟨fZ (by unfold bG;rw[aC (by omega)]),rfl⟩
