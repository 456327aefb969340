import Derived.Test.YtbmcofdodfcnnaaGreatDoorProg
import Derived.WalkKit
import Derived.OwnWalk
import Derived.Laws.IdiomStrings
import Derived.Deep.RegionHeld3
import Derived.Deep.QuietTactic
import Derived.BigQuiet
import Derived.Laws.BytesArg
import Derived.Lib.QuietBelow
import Derived.Test.YtbmcofdodfcnnaaGreatDoorGK
import Derived.Test.YtbmcofdodfcnnaaGreatDoorGP
import Derived.Test.YtbmcofdodfcnnaaGreatDoorGV
import Derived.Test.YtbmcofdodfcnnaaGreatDoorShelf
set_option linter.all false
set_option maxHeartbeats 400000000
set_option maxRecDepth 100000
namespace Go.Proofs.YtbmcofdodfcnnaaGreatDoor
open Pn
open Go.Proofs.Tryz
open Go.RowKit
theorem a6d (n:Int):wrap64 n=IntKind.i64.wrap n:=by rw[IntKind.wrap_i64];unfold wrap64;rfl
theorem b5I (s:ByteArray) (k:Nat) (h:k<s.size):s.data.toList.take (k+1)=s.data.toList.take k++[s[k]]:=by
 rw[List.take_succ_eq_append_getElem (by simpa using h)];rfl
theorem b71 (s:ByteArray) (w:World) (hs:s.size<=8):
    Calls prog 148 #[.string s] w fun e w'=>e=.returned (.int .i64 (IntKind.i64.wrap (a0Q s.data.toList)))/\w'=w:=by
 go_enter func148,ntmps148;go_wp2;go_loop [3,7] (fun n i=>∃k:Nat,k<=s.size/\i=.int .i64 k/\n=.int .i64 (IntKind.i64.wrap (a0Q (s.data.toList.take k)))) (fun _ i=>s.size-(intOf i).toNat)
 case atStart=>exact ⟨0,Nat.zero_le _,rfl,rfl⟩
 case round=>
  obtain ⟨k,hk,rfl,rfl⟩:=hrel;have hl:(s.data.toList.take k).length=k:=by rw[List.length_take,<-Lib.size_eq];omega
  by_cases hlt:k<s.size
  ·have hb:=a4D (s.data.toList.take k)
   rw[hl]at hb;have hb0:=s[k].toNat_lt;have HS:Hid (a0Q (s.data.toList.take (k+1))=a0Q (s.data.toList.take k)+s[k].toNat*2^(8*k)):=by rw[b5I s k hlt,b9j,hl];exact rfl
   have HO:Hid (Pn.orz (IntKind.i64.wrap (a0Q (s.data.toList.take k))) (IntKind.i64.wrap (s[k].toNat*2^(8*k)))=IntKind.i64.wrap (a0Q (s.data.toList.take k)+s[k].toNat*2^(8*k))):=
    c1q _ _ k (by omega) hb.1 hb.2 (by omega) (by omega)
   clear hb;generalize IntKind.i64.wrap (a0Q (s.data.toList.take k))=x at *;go_wp2;go_round
   case rel=>
    (refine ⟨k+1,by omega,by go_num,?_⟩);rw[HS.out,<-HO.out];exact congrArg (fun z=>Value.int .i64 (Pn.orz x z)) (a6d _)
   case measure=>simp[intOf];omega
  ·go_wp2
   go_ret;exact ⟨by rw[List.take_of_length_le (by rw[<-Lib.size_eq];omega)];rfl,rfl⟩
theorem c6L (x:Int) (k:Nat):x/256^(k+1)=x/256^k/256:=by rw[Int.pow_succ,Int.ediv_ediv_of_nonneg (Int.le_of_lt (Int.pow_pos (by decide)))]
theorem Tryz.infoByte:(prog.info? 5).map (fun i=>(i.zero,i.size,i.bytes))=some (some (.int .u8 0),1,1):=by kernel_rfl
theorem a95 (l:List UInt8) (b:UInt8):Lib.byteCells (l++[b])=Lib.byteCells l++[.int .u8 b.toNat]:=by simp[Lib.byteCells]
theorem c0o {w:World} {base:Nat} {v:Value} {l:List UInt8} (h:w.ownsRow base 5 1 v l.length (Lib.byteCells l)):(convert 65 9 v).run prog w=.ok (.string ⟨l.toArray⟩) w:=by
 have h':=h;obtain ⟨h1,⟨rfl,h0⟩|⟨g,cap,cur,rfl,hg,hc,h3⟩⟩:=h
 ·have hl:l=[]:=List.eq_nil_of_length_eq_zero (by simpa using h0)
  subst hl;exact run_convert_bytes_nil w 65 5 underlying65 underlying5 0 0 _ underlying9
 ·refine run_convert_bytes_back w _ _ 5 _ _ _ underlying65 underlying5 underlying9 (fun j hj=>h'.cells rfl j _ (by simp[Lib.byteCells,hj]))
theorem a5b (x:Int) (n:Nat) (w:World) (hn:n<=8):
    Calls prog 195 #[.int .i64 x,.int .i64 n] w fun e w'=>e=.returned (.string ⟨(a2I n x).toArray⟩)/\Below w.heap.size w w':=by
 obtain ⟨i0,hi,hz0,hz1,hz2⟩:=info_parts Tryz.infoByte;go_enter func195,ntmps195;go_wp2;go_loopw [0,5,7] (fun m v i wr=>∃k:Nat,k<=n/\i=.int .i64 k/\m=.int .i64 (x/256^k)/\wr.ownsRow w.heap.size 5 1 v k (Lib.byteCells (a2I k x))/\Below w.heap.size w wr) (fun _ _ i _=>n-(intOf i).toNat)
 case atStart=>exact ⟨0,Nat.zero_le _,rfl,by simp,World.ownsRow_nil _ _ _ _,Below.refl _ _⟩
 case round=>
  obtain ⟨k,hk,rfl,rfl,hown,hB⟩:=hrel;by_cases hlt:k<n
  ·go_wp2_with (first
    | (at_builtin;refine wpList_append_own _ rfl _ _ 65 rfl w.heap.size 5 i0 (.int .u8 0) 1 1 underlying65 hi hz0 hz1 hz2 rfl (by decide) _ _ _ rfl (hown.alloc _) ⟨wr.heap.size,0,none⟩ 1 1 [.int .u8 ((x/256^k)%256)] rfl rfl ?c1 ?c2 ?c3 ?c4 ?c5 ?_)
    | go_in)
   case c1=>
    intro j u hj
    match j,hj with
    | 0,hj=>simp at hj;subst hj;simp[Addr.add]
   (case c2=>intro u hu;simp at hu;subst hu;rfl);(case c3=>unfold maxLen;omega);(case c4=>omega);case c5=>have:=hB.size;simp;omega
   ·intro v' w1 hown' hgrow _
    (have hB':Below w.heap.size w w1:=(hB.alloc hB.size _).grown hgrow (by have:=hB.size;simp;omega) (fun j hj=>(hown.lt j hj).1));clear hgrow hown hB;go_wp2;go_roundw;(case rel=>exact ⟨k+1,by omega,by go_num,by rw[c6L],by rw[a4Q,a95,c4O];exact hown',hB'⟩);case measure=>simp[intOf];omega
  ·have hkn:k=n:=by omega
   subst hkn;(have hcv:=c0o (l:=a2I k x) (by rw[a2d];exact hown));go_wp2;go_ret;exact ⟨rfl,hB⟩
theorem c9S {k:IntKind} {a b:Int} (h:a=b):Ending.returned (.int k a)=.returned (.int k b):=by rw[h]
theorem b59 (op rd rs1 rs2 imm:Int) (w:World) (h:¬(1<=op/\op<=64)):
    Calls prog 58 #[.agg #[.int .i64 op,.int .i64 rd,.int .i64 rs1,.int .i64 rs2,.int .i64 imm]] w fun e w'=>e=.returned (.tuple #[a0U,.bool false])/\Below w.heap.size w w':=by
 have HN:=(show Hid _ from b9d op h)
 clear h;go_enter func58,ntmps58;go_wp2_with fail;refine (a8f _ _).mono ?_;rintro e w1 ⟨rfl,hB1⟩;rw[HN.out];have hz:CellsAt (w.heap.size+1) a1P w1:=(by have:=CellsAt.new (w.alloc (.cells #[.int .i64 op,.int .i64 rd,.int .i64 rs1,.int .i64 rs2,.int .i64 imm] 26)) a1P 100;rw[World.size_alloc]at this;exact this.next hB1)
 obtain ⟨hz1,yf,yc⟩:=hz;have y0:=yc 0 _ rfl;have y1:=yc 1 _ rfl;have y2:=yc 2 _ rfl;have y3:=yc 3 _ rfl;have y4:=yc 4 _ rfl;have y5:=yc 5 _ rfl;have HB1:Hid (Below w.heap.size w w1):=(((Below.refl _ _).alloc (Nat.le_refl _) _).alloc (by simp) _).trans (hB1.mono (by simp;omega))
 clear hB1 yc;unfold a1e a0U a1P;go_wp2_with fail;refine bodyPost_ret (v:=.tuple #[a0U,.bool false]) (by simp[results,results58,go_sem,y0,y1,y2,y3,y4,y5,hz1,a0U,a1P]) rfl ⟨rfl,?_⟩
 exact (a4S HB1.out _ _ _ _ _ _).alloc (by have:=HB1.out.size;simp[World.setCell];omega) _
theorem b7J (k:Nat) (rd rs1 rs2 imm:Int) (w:World) (hk:k<64):
    Calls prog 58 #[.agg #[.int .i64 (k+1),.int .i64 rd,.int .i64 rs1,.int .i64 rs2,.int .i64 imm]] w fun e w'=>e=.returned (a64 ⟨k+1,rd,rs1,rs2,imm⟩)/\Below w.heap.size w w':=by
 have HF:=(show Hid _ from b66 k hk)
 have hwr:IntKind.i64.wrap (k:Int)=(k:Int):=IntWalk.i64_in _ (by omega)
 go_enter func58,ntmps58;go_wp2_with fail;refine (a8f _ _).mono ?_;rintro e w1 ⟨rfl,hB1⟩;rw[HF.out];have HI1:=(show Hid _ from ((CellsAt.new w [.int .i64 (k+1),.int .i64 rd,.int .i64 rs1,.int .i64 rs2,.int .i64 imm] 26).alloc (.cells a1P.toArray 100)).next hB1)
 have HZ1:Hid (CellsAt (w.heap.size+1) a1P w1):=(by have:=CellsAt.new (w.alloc (.cells #[.int .i64 (k+1),.int .i64 rd,.int .i64 rs1,.int .i64 rs2,.int .i64 imm] 26)) a1P 100;rw[World.size_alloc]at this;exact this.next hB1)
 have HB1:Hid (Below w.heap.size w w1):=(((Below.refl _ _).alloc (Nat.le_refl _) _).alloc (by simp) _).trans (hB1.mono (by simp;omega))
 clear hB1;unfold a1e a3y a3a;go_wp2_with fail;refine (a32 (Pn.row k).kind (a02 k hk) _).mono ?_;rintro e w2 ⟨sl,rfl,hP,hB2⟩;obtain ⟨ao,cap,rfl,_⟩:=hP;have HR2:=(show Hid _ from (CellsAt.new w1 (a3a k) 100).next hB2)
 obtain ⟨hi1,_,ic⟩:=CellsAt.next (CellsAt.alloc HI1.out _) hB2;obtain ⟨hz1,yf,yc⟩:=CellsAt.next (CellsAt.alloc HZ1.out _) hB2;obtain ⟨hr1,_,rc⟩:=HR2.out;have i1:=ic 1 _ rfl;have i2:=ic 2 _ rfl;have i3:=ic 3 _ rfl;have i4:=ic 4 _ rfl;have y0:=yc 0 _ rfl;have y1:=yc 1 _ rfl;have y2:=yc 2 _ rfl;have y3:=yc 3 _ rfl;have y4:=yc 4 _ rfl;have y5:=yc 5 _ rfl;have r0:=rc 0 _ rfl;have r1:=rc 1 _ rfl;have r2:=rc 2 _ rfl;have r3:=rc 3 _ rfl;have r4:=rc 4 _ rfl;have r5:=rc 5 _ rfl;have HB2:Hid (Below w.heap.size w w2):=(HB1.out.alloc HB1.out.size _).trans (hB2.mono (by have:=HB1.out.size;simp;omega))
 have hs1:=HB1.out.size;clear hB2 ic yc rc HB1;unfold a0l;go_wp2_with (go_at_call 110;refine (a7a _ _ _).mono ?_;rintro e w' ⟨rfl,rfl⟩)
 ·have HQ:Hid (a0e (Pn.has (Pn.row k).kind).1 rd=true/\a0e (Pn.has (Pn.row k).kind).2.1 rs1=true/\a0e (Pn.has (Pn.row k).kind).2.2 rs2=true):=⟨by assumption,by assumption,by assumption⟩
  refine (b1Q _ _ _ _ _ _ _ _ _ _ _ _ _).mono ?_;rintro e w3 ⟨rfl,hB3⟩;have hz3:w.heap.size+1<w3.heap.size:=by have:=hB3.size;simp at this;omega
  have yf3:∀q,w3.frozen? ⟨w.heap.size+1,q,none⟩=false:=fun q=>(hB3.frozen (p:=⟨w.heap.size+1,q,none⟩) (by simp;omega)).trans ((Below.frozen ((Below.refl w2.heap.size w2).alloc (Nat.le_refl _) _) (p:=⟨w.heap.size+1,q,none⟩) hz1).trans (yf q))
  have up:∀b j v,b<w2.heap.size->w2.cell? ⟨b,j,none⟩=some v->w3.cell? ⟨b,j,none⟩=some v:=fun b j v hb h=>(hB3.cell (p:=⟨b,j,none⟩) (by simp;omega)).trans ((Below.cell ((Below.refl w2.heap.size w2).alloc (Nat.le_refl _) _) (p:=⟨b,j,none⟩) hb).trans h)
  have Y0:=up _ _ _ hz1 y0;have Y1:=up _ _ _ hz1 y1;have Y2:=up _ _ _ hz1 y2;have Y3:=up _ _ _ hz1 y3;have Y4:=up _ _ _ hz1 y4;have Y5:=up _ _ _ hz1 y5;have R0:=up _ _ _ hr1 r0;have R1:=up _ _ _ hr1 r1;have R2:=up _ _ _ hr1 r2;have R3:=up _ _ _ hr1 r3;have R4:=up _ _ _ hr1 r4;have R5:=up _ _ _ hr1 r5;have HB3:Hid (Below w.heap.size w w3):=(HB2.out.alloc HB2.out.size _).trans (hB3.mono (by have:=HB2.out.size;simp;omega))
  clear hB3 up y0 y1 y2 y3 y4 y5 r0 r1 r2 r3 r4 r5 i1 i2 i3 i4 HB2 yf HI1 HZ1 HR2 hz1 hi1 hr1;by_cases ht:Pn.tk (a4N (Pn.row k).kind) (Pn.least (Pn.row k).kind) (Pn.most (Pn.row k).kind) imm=true
  ·have HV:=(show Hid _ from a3S (k:=k) (rd:=rd) (rs1:=rs1) (rs2:=rs2) (imm:=imm) (by
    rw[a0d _ _ _ _ _ hk];have:=b4g (a02 k hk) imm;unfold Pn.takes at this;rw[<-this,HQ.out.1,HQ.out.2.1,HQ.out.2.2,ht];rfl))
   rw[ht];clear ht;go_wp2_with fail;(refine bodyPost_ret (v:=.tuple #[a3y k,.bool true]) (by simp[results,results58,go_sem,Y0,Y1,Y2,Y3,Y4,Y5,a3y,a3a]) rfl ⟨by rw[HV.out],?_⟩);exact a4S HB3.out _ _ _ _ _ _
  ·have ht':Pn.tk (a4N (Pn.row k).kind) (Pn.least (Pn.row k).kind) (Pn.most (Pn.row k).kind) imm=false:=by simpa using ht
   have HV:=(show Hid _ from a2C (i:=⟨k+1,rd,rs1,rs2,imm⟩) (by
    rw[a0d _ _ _ _ _ hk];have:=b4g (a02 k hk) imm;unfold Pn.takes at this;rw[<-this,ht'];simp))
   rw[ht'];clear ht ht';go_wp2_with fail;(refine bodyPost_ret (v:=.tuple #[a0U,.bool false]) (by simp[results,results58,go_sem,Y0,Y1,Y2,Y3,Y4,Y5,a0U,a1P]) rfl ⟨by rw[HV.out],?_⟩);exact a4S HB3.out _ _ _ _ _ _
 all_goals
  have HV:=(show Hid _ from a2C (i:=⟨k+1,rd,rs1,rs2,imm⟩) (by
   rw[a0d _ _ _ _ _ hk]
   first
   | (refine c69 ?_ ?_ ?_<;>assumption)
   | (refine c7X ?_ ?_<;>assumption)
   | (refine c7y ?_<;>assumption)))
  refine bodyPost_ret (v:=.tuple #[a0U,.bool false]) (by simp[results,results58,go_sem,y0,y1,y2,y3,y4,y5,hz1,a0U,a1P]) rfl ⟨by rw[HV.out],?_⟩
  exact (a4S HB2.out _ _ _ _ _ _).alloc (by have:=HB2.out.size;simp[World.setCell];omega) _
theorem a15 (i:Pn.Ins) (w:World):
    Calls prog 58 #[i.val] w fun e w'=>e=.returned (a64 i)/\Below w.heap.size w w':=by
 obtain ⟨op,rd,rs1,rs2,imm⟩:=i;unfold Pn.Ins.val;simp only;by_cases h:1<=op/\op<=64
 ·obtain ⟨k,rfl⟩:∃k:Nat,op=k+1:=⟨(op-1).toNat,by omega⟩
  exact b7J k rd rs1 rs2 imm w (by omega)
 ·rw[a2C (a1C _ h)]
  exact b59 _ _ _ _ _ _ h
end Go.Proofs.YtbmcofdodfcnnaaGreatDoor
namespace Go
open Go.RowKit
theorem Kept.near {b:Nat} {w0 w:World} (h:Kept b w0 w) (q:Nat) (v:Value):Kept b w0 (w.setCell ⟨b,q,none⟩ v):=h.trans (Kept.setCell b w q v)
end Go
namespace Go.Proofs.YtbmcofdodfcnnaaGreatDoor
open Pn
open Go.Proofs.Tryz
open Go.RowKit
end Go.Proofs.YtbmcofdodfcnnaaGreatDoor
namespace Go
open Go.RowKit
theorem CellsAt.kept {b c:Nat} {vs:List Value} {w w':World} (h:CellsAt c vs w) (hk:Kept b w w') (hc:c≠b):CellsAt c vs w':=by
 have e:=hk.block c h.1 hc;exact ⟨Nat.lt_of_lt_of_le h.1 hk.size,fun q=>(World.frozen?_of_block (a:=⟨c,q,none⟩) e).trans (h.2.1 q),fun j v hj=>(World.cell?_of_block (a:=⟨c,j,none⟩) e).trans (h.2.2 j v hj)⟩
end Go
namespace Go.Proofs.YtbmcofdodfcnnaaGreatDoor
open Pn
open Go.Proofs.Tryz
open Go.RowKit
def c4g (ps:List (Int×Int×Int)) (ao:Option Addr) (cap:Nat) (w:World):Prop:=
 ∀j p,ps[j]?=some p->∃b,ao=some ⟨b,0,none⟩/\b<w.heap.size/\ps.length<=cap/\
  w.cell? ⟨b,j*3,none⟩=some (.int .i64 p.1)/\w.cell? ⟨b,j*3+1,none⟩=some (.int .i64 p.2.1)/\w.cell? ⟨b,j*3+2,none⟩=some (.int .i64 p.2.2)
theorem c4g.next {ps:List (Int×Int×Int)} {ao:Option Addr} {cap:Nat} {w w':World} (h:c4g ps ao cap w) (hB:Below w.heap.size w w'):c4g ps ao cap w':=fun j p hj=>by
 obtain ⟨b,h1,h2,h3,h4,h5,h6⟩:=h j p hj;exact ⟨b,h1,by have:=hB.size;omega,h3,(hB.cell (p:=⟨b,_,none⟩) h2).trans h4,(hB.cell (p:=⟨b,_,none⟩) h2).trans h5,(hB.cell (p:=⟨b,_,none⟩) h2).trans h6⟩
def c9Q (f:List (Int×Int×Int)->Int) (ps:List (Int×Int×Int)) (ao:Option Addr) (cap:Nat) (L:List Value) (w:World) (acc i:Value) (wr:World):Prop:=
 ∃j:Nat,j<=ps.length/\i=.int .i64 j/\acc=.int .i64 (f (ps.take j))/\c4g ps ao cap wr/\Below w.heap.size w wr/\CellsAt w.heap.size L wr
theorem a8l (a b c ev:Bool) (lo hi g fx n:Int) (ao:Option Addr) (ps:List (Int×Int×Int)) (cp:Nat) (w:World) (hp:Pn.PB ps) (hl:ps.length<=4) (hP:c4g ps ao cp w):
    Calls prog 61 #[.agg #[.bool a,.bool b,.bool c,.int .i64 lo,.int .i64 hi,.bool ev,.slice ao ps.length cp,.int .i64 g,.int .i64 fx],.int .i64 n] w fun e w'=>
     e=.returned (.int .i64 (a6p n ps 0))/\Below w.heap.size w w':=by
 have HP:=(show Hid _ from hP)
 have HPB:=(show Hid _ from hp)
 have hlen:(ps.length:Int)<=4:=by omega
 clear hP hp;go_enter func61,ntmps61;go_wp2_with fail;go_loopw [5,11] (fun acc i wr=>c9Q (fun q=>a6p n q 0) ps ao cp [.bool a,.bool b,.bool c,.int .i64 lo,.int .i64 hi,.bool ev,.slice ao ps.length cp,.int .i64 g,.int .i64 fx] w acc i wr) (fun _ i _=>ps.length-(intOf i).toNat)
 case atStart=>exact ⟨0,by omega,rfl,rfl,c4g.next HP.out ((Below.refl _ _).alloc (Nat.le_refl _) _),(Below.refl _ _).alloc (Nat.le_refl _) _,CellsAt.new w _ _⟩
 case round=>
  obtain ⟨j,hj,rfl,rfl,hpc,hB,hL⟩:=hrel;by_cases hlt:j<ps.length
  ·have hlt2:(j:Int)<ps.length:=by omega
   obtain ⟨p,hpj⟩:∃p,ps[j]?=some p:=⟨_,List.getElem?_eq_getElem hlt⟩;obtain ⟨b,hb,hb1,hb2,c0,c1,c2⟩:=hpc j p hpj;subst hb;have hbb:b<wr.heap.size:=hb1;obtain ⟨q1,q2,q3,q4,q5,q6⟩:=HPB.out p (List.mem_of_getElem? hpj);(have HM:=(show Hid _ from b6X (n:=n) hpj));(have HPC:=(show Hid _ from hpc));(have HB:=(show Hid _ from hB));(have HL:=(show Hid _ from hL));obtain ⟨p1,p2,p3⟩:=p;simp only at c0 c1 c2 q1 q2 q3 q4 q5 q6;have z:=b8x n p1 p2 q1 q3 q4;have z2:=c2D _ p3 z.1 z.2 q6;(have HW:=(show Hid _ from w64 (a0c n (p1+p2-1) p1*2^p3.toNat) (by omega)));clear hpc hB hL hpj z2;generalize hA:a6p n (ps.take j) 0=A at HM ⊢;go_wp2_with fail;(go_quiet ((go_at_call 112;exact Calls.quiet_of (a3m _ _ _ _ (by omega) (by omega) (by omega) (by omega)))));go_wp2_with fail;go_roundw
   case rel=>
    have hBn:Below wr.heap.size wr ((wr.alloc (.cells #[.int .i64 p1,.int .i64 p2,.int .i64 p3] 175)).drewN nq):=below_drewN ((Below.refl _ _).alloc (Nat.le_refl _) _) _;(refine ⟨j+1,by omega,by go_num,?_,c4g.next HPC.out hBn,Below.trans HB.out (hBn.mono HB.out.size),CellsAt.next HL.out hBn⟩);show _=Value.int IntKind.i64 (a6p n (List.take (j+1) ps) 0);rw[HM.out,HW.out];rfl
   case measure=>simp[intOf];omega
  ·have hje:j=ps.length:=by omega
   subst hje;rw[List.take_length];(have HB:=(show Hid _ from hB));go_wp2_with fail;go_ret;exact ⟨rfl,HB.out⟩
theorem a96 (a b c ev:Bool) (lo hi g fx n:Int) (ao:Option Addr) (ps:List (Int×Int×Int)) (cp:Nat) (w:World) (hp:Pn.PB ps) (hl:ps.length<=4) (hP:c4g ps ao cp w) (a0:0<=a3g n ps 0) (a1:a3g n ps 0<=2097152) (lo0:-1048576<=lo) (lo1:lo<=0):
    Calls prog 71 #[.agg #[.bool a,.bool b,.bool c,.int .i64 lo,.int .i64 hi,.bool ev,.slice ao ps.length cp,.int .i64 g,.int .i64 fx],.int .i64 n] w fun e w'=>
     e=.returned (.int .i64 (c8f lo hi (a3g n ps 0)))/\Below w.heap.size w w':=by
 have HP:=(show Hid _ from hP)
 have HPB:=(show Hid _ from hp)
 have hlen:(ps.length:Int)<=4:=by omega
 clear hP hp;go_enter func71,ntmps71;go_wp2_with fail;go_loopw [5,11] (fun acc i wr=>c9Q (fun q=>a3g n q 0) ps ao cp [.bool a,.bool b,.bool c,.int .i64 lo,.int .i64 hi,.bool ev,.slice ao ps.length cp,.int .i64 g,.int .i64 fx] w acc i wr) (fun _ i _=>ps.length-(intOf i).toNat)
 case atStart=>exact ⟨0,by omega,rfl,rfl,c4g.next HP.out ((Below.refl _ _).alloc (Nat.le_refl _) _),(Below.refl _ _).alloc (Nat.le_refl _) _,CellsAt.new w _ _⟩
 case round=>
  obtain ⟨j,hj,rfl,rfl,hpc,hB,hL⟩:=hrel;by_cases hlt:j<ps.length
  ·have hlt2:(j:Int)<ps.length:=by omega
   obtain ⟨p,hpj⟩:∃p,ps[j]?=some p:=⟨_,List.getElem?_eq_getElem hlt⟩;obtain ⟨b,hb,hb1,hb2,c0,c1,c2⟩:=hpc j p hpj;subst hb;have hbb:b<wr.heap.size:=hb1;obtain ⟨q1,q2,q3,q4,q5,q6⟩:=HPB.out p (List.mem_of_getElem? hpj);(have HM:=(show Hid _ from b7c (n:=n) hpj));(have HPC:=(show Hid _ from hpc));(have HB:=(show Hid _ from hB));(have HL:=(show Hid _ from hL));obtain ⟨p1,p2,p3⟩:=p;simp only at c0 c1 c2 q1 q2 q3 q4 q5 q6;have z:=b8x n p3 p2 q5 q3 q4;(have z2:=c2D _ p1 z.1 z.2 (by omega));(have HW:=(show Hid _ from w64 (a0c n (p3+p2-1) p3*2^p1.toNat) (by omega)));clear hpc hB hL hpj z2;generalize hA:a3g n (ps.take j) 0=A at HM ⊢;go_wp2_with fail;(go_quiet ((go_at_call 112;exact Calls.quiet_of (a3m _ _ _ _ (by omega) (by omega) (by omega) (by omega)))));go_wp2_with fail;go_roundw
   case rel=>
    have hBn:Below wr.heap.size wr ((wr.alloc (.cells #[.int .i64 p1,.int .i64 p2,.int .i64 p3] 175)).drewN nq):=below_drewN ((Below.refl _ _).alloc (Nat.le_refl _) _) _;(refine ⟨j+1,by omega,by go_num,?_,c4g.next HPC.out hBn,Below.trans HB.out (hBn.mono HB.out.size),CellsAt.next HL.out hBn⟩);show _=Value.int IntKind.i64 (a3g n (List.take (j+1) ps) 0);rw[HM.out,HW.out];rfl
   case measure=>simp[intOf];omega
  ·have hje:j=ps.length:=by omega
   subst hje;rw[List.take_length];(have HB:=(show Hid _ from hB));obtain ⟨hz,_,lc⟩:=hL;have l3:=lc 3 _ rfl;have l4:=lc 4 _ rfl;clear lc hB;generalize hA:a3g n ps 0=A at *;by_cases hm:hi<A
   ·go_wp2_with fail
    go_ret;refine ⟨a0P ?_,HB.out⟩;unfold c8f;rw[hA,if_pos hm]
   ·go_wp2_with fail
    go_ret;refine ⟨a0P ?_,HB.out⟩;unfold c8f;first|rw[hA,if_neg (by omega)]|rw[if_neg (by omega)]
theorem b3A (i:Pn.Ins) (w:World) (h:Pn.right i=false):
    Calls prog 35 #[i.val] w fun e w'=>e=.returned (.tuple #[.int .i64 0,.int .i64 1])/\Below w.heap.size w w':=by
 have HV:=(show Hid _ from a2C h)
 clear h;obtain ⟨op,rd,rs1,rs2,imm⟩:=i;unfold Pn.Ins.val;simp only;go_enter func35,ntmps35;go_wp2_with fail;refine (a15 ⟨op,rd,rs1,rs2,imm⟩ _).mono ?_;rintro e w1 ⟨rfl,hB1⟩;rw[HV.out];have HB1:Hid (Below w.heap.size w w1):=((Below.refl _ _).alloc (Nat.le_refl _) _).trans (hB1.mono (by simp))
 clear hB1;unfold a0U a1P;go_wp2_with fail;go_ret2;exact ⟨rfl,HB1.out.alloc HB1.out.size _⟩
theorem b5r (k:Nat) (rd rs1 rs2 imm:Int) (w:World) (hk:k<64) (hr:Pn.right ⟨k+1,rd,rs1,rs2,imm⟩=true):
    Calls prog 35 #[.agg #[.int .i64 (k+1),.int .i64 rd,.int .i64 rs1,.int .i64 rs2,.int .i64 imm]] w fun e w'=>
     e=.returned (.tuple #[.int .i64 (a2M k rd rs1 rs2 imm),.int .i64 0])/\Below w.heap.size w w':=by
 have HV:=(show Hid _ from a3S hr)
 obtain ⟨⟨d0,d1⟩,⟨s0,s1⟩,⟨t0,t1⟩,m0,m1⟩:=a1k hk hr;have HE:=(show Hid _ from c4h hk hr)
 clear hr;go_enter func35,ntmps35;go_wp2_with fail;refine (a15 ⟨k+1,rd,rs1,rs2,imm⟩ _).mono ?_;rintro e w1 ⟨rfl,hB1⟩;rw[HV.out];have HI1:=(show Hid _ from (CellsAt.new w [.int .i64 (k+1),.int .i64 rd,.int .i64 rs1,.int .i64 rs2,.int .i64 imm] 26).next hB1)
 have HB1:Hid (Below w.heap.size w w1):=((Below.refl _ _).alloc (Nat.le_refl _) _).trans (hB1.mono (by simp))
 clear hB1;unfold a3y a3a;go_wp2_with fail;refine (a32 (Pn.row k).kind (a02 k hk) _).mono ?_;rintro e w2 ⟨sl,rfl,hP,hB2⟩;obtain ⟨ao,cap,rfl,hpc⟩:=hP;obtain ⟨hr1,_,rc⟩:=(CellsAt.new w1 (a3a k) 100).next hB2;obtain ⟨hi1,_,ic⟩:=CellsAt.next (CellsAt.alloc HI1.out _) hB2
 have HP2:Hid (c4g (a0g (Pn.row k).kind) ao cap w2):=fun j p hj=>by
  obtain ⟨b,h1,_,h3⟩:=hpc j p hj;exact ⟨b,h1,h3⟩
 have i1:=ic 1 _ rfl;have i2:=ic 2 _ rfl;have i3:=ic 3 _ rfl;have i4:=ic 4 _ rfl;have r0:=rc 0 _ rfl;have r1:=rc 1 _ rfl;have r2:=rc 2 _ rfl;have r3:=rc 3 _ rfl;have r4:=rc 4 _ rfl;have r5:=rc 5 _ rfl;have HB2:Hid (Below w.heap.size w w2):=(HB1.out.alloc HB1.out.size _).trans (hB2.mono (by have:=HB1.out.size;simp;omega))
 clear hB2 ic rc HB1 HI1 hpc;unfold a0l;go_wp2_with fail;have hW:Below w2.heap.size w2 (w2.alloc (.cells (a0l (Pn.row k).kind (.slice ao (a0g (Pn.row k).kind).length cap)).toArray 105)):=(Below.refl _ _).alloc (Nat.le_refl _) _
 have up:∀b j v,b<w2.heap.size->w2.cell? ⟨b,j,none⟩=some v->∀d os,(Go.Sort.grow (redrawn (w2.alloc (.cells (a0l (Pn.row k).kind (.slice ao (a0g (Pn.row k).kind).length cap)).toArray 105)) d) os).cell? ⟨b,j,none⟩=some v:=
  fun b j v hb h d os=>cell_regrown ((hW.cell (p:=⟨b,j,none⟩) hb).trans h) d os
 have R0:=up _ _ _ hr1 r0;have R1:=up _ _ _ hr1 r1;have R2:=up _ _ _ hr1 r2;have R3:=up _ _ _ hr1 r3;have R4:=up _ _ _ hr1 r4;have R5:=up _ _ _ hr1 r5;have I4:=up _ _ _ hi1 i4;obtain ⟨hl1,_,lc⟩:=CellsAt.new w2 (a0l (Pn.row k).kind (.slice ao (a0g (Pn.row k).kind).length cap)) 105;have L0:=cell_regrown (lc 0 _ rfl);have L1:=cell_regrown (lc 1 _ rfl);have L2:=cell_regrown (lc 2 _ rfl);have L3:=cell_regrown (lc 3 _ rfl);have L4:=cell_regrown (lc 4 _ rfl);have L5:=cell_regrown (lc 5 _ rfl);have L6:=cell_regrown (lc 6 _ rfl);have L7:=cell_regrown (lc 7 _ rfl);have L8:=cell_regrown (lc 8 _ rfl);have HPW:=(show Hid _ from c4g.next HP2.out hW)
 have HBW:=(show Hid _ from Below.alloc HB2.out HB2.out.size (.cells (a0l (Pn.row k).kind (.slice ao (a0g (Pn.row k).kind).length cap)).toArray 105))
 clear lc up hW r0 r1 r2 r3 r4 r5 i1 i2 i3 i4;unfold a0l at L0 L1 L2 L3 L4 L5 L6 L7 L8 R0 R1 R2 R3 R4 R5 I4 HPW HBW;generalize w2.alloc _=W at L0 L1 L2 L3 L4 L5 L6 L7 L8 R0 R1 R2 R3 R4 R5 I4 HPW HBW hl1 ⊢;obtain ⟨f0,f1,f2,f3,f4,f5,f6⟩:=a0Z k hk;have HPB:=(show Hid _ from b4m (a02 k hk))
 have hln:(a0g (Pn.row k).kind).length<=4:=a9c _;have hgp:(a2G (Pn.row k).kind:Int)<=40:=b7o _;refine wp_region_quiet_below (by kernel_rfl) (by kernel_rfl) ?_
 repeat (quiet_step (first
  | (go_at_call 60;exact Calls.regrown_of (a5H _ _ _ _ _ _ _ _ _ _ _ _ _ _ _ _ _ _ (by omega) (by omega) (by omega) (by omega) (by omega) (by omega)))
  | (go_at_call 61;exact Calls.regrown_of (a8l _ _ _ _ _ _ _ _ _ _ _ _ _ HPB.out hln (c4g.next HPW.out (below_regrown _ _ _))))))
 refine wpQuiet_nil ?_;intro _ hw';obtain ⟨⟨dq,osq⟩,hw''⟩:=hw';subst hw'';go_wp2_with fail;go_ret2;refine ⟨?_,Below.trans HBW.out ((below_regrown W dq osq).mono HBW.out.size)⟩;rw[<-HE.out];rfl
theorem a8k (i:Pn.Ins) (w:World):
    Calls prog 35 #[i.val] w fun e w'=>e=.returned (.tuple #[.int .i64 (Pn.enc i).1,.int .i64 (Pn.enc i).2])/\Below w.heap.size w w':=by
 by_cases h:Pn.right i=true
 ·obtain ⟨op,rd,rs1,rs2,imm⟩:=i
  have hop:1<=op/\op<=64:=by
   apply Classical.byContradiction;intro hn;rw[a1C _ hn]at h;cases h
  obtain ⟨k,rfl⟩:∃k:Nat,op=k+1:=⟨(op-1).toNat,by omega⟩
  have hk:k<64:=by omega
  rw[a19 h];exact b5r k rd rs1 rs2 imm w hk h
 ·have h':Pn.right i=false:=by simpa using h
  rw[b3q h'];exact b3A i w h'
theorem b3b (i:Pn.Ins) (w:World):
    Calls prog 14 #[i.val] w fun e w'=>e=.returned (.tuple #[.int .i64 (Pn.enc i).1,.int .i64 (Pn.enc i).2])/\Below w.heap.size w w':=by
 obtain ⟨op,rd,rs1,rs2,imm⟩:=i;unfold Pn.Ins.val;simp only;go_enter func14,ntmps14;go_wp2_with fail;refine (a8k ⟨op,rd,rs1,rs2,imm⟩ _).mono ?_;rintro e w1 ⟨rfl,hB1⟩;have HB1:Hid (Below w.heap.size w w1):=((Below.refl _ _).alloc (Nat.le_refl _) _).trans (hB1.mono (by simp))
 clear hB1;go_wp2_with fail;go_ret2;exact ⟨rfl,HB1.out⟩
theorem a6H (n at':Int) (t:Bool) (w:World) (a0:0<=at') (a1:at'<=40):
    Calls prog 70 #[.int .i64 n,.int .i64 at',.bool t] w fun e w'=>e=.returned (.int .i64 (if t then a0c n (at'+5-1) at' else 0))/\∃k,w'=w.drewN k:=by
 cases t
 ·go_enter func70,ntmps70
  go_wp2_with fail;go_ret;exact ⟨rfl,0,rfl⟩
 ·go_enter func70,ntmps70
  go_wp2_with fail;refine (a3m _ _ _ _ a0 a1 (by decide) (by decide)).mono ?_
  rintro e w1 ⟨rfl,k,rfl⟩;go_wp2_with fail;go_ret;exact ⟨rfl,k,rfl⟩
theorem c4Z (k:Nat) (n:Int) (w:World) (hk:k<64):
    Calls prog 69 #[.agg (a3a k).toArray,.int .i64 n] w fun e w'=>e=.returned (.bool (a1A k n))/\Below w.heap.size w w':=by
 unfold a3a;by_cases ho:(Pn.row k).opc=a5E n 127
 ·have h1:((Pn.row k).opc != bits BinOp.and IntKind.i64 n 127)=false:=by
   have:a5E n 127=bits BinOp.and IntKind.i64 n 127:=rfl;rw[<-this];simpa using ho
  have HF:Hid (a1A k n=(bits BinOp.and IntKind.i64 n (a6n (Pn.row k).kind)==a6o (Pn.row k).opc (Pn.row k).f (Pn.row k).g (2^a2G (Pn.row k).kind))):=by
   show a1A k n=_;unfold a1A;rw[decide_eq_true ho,Bool.true_and,Bool.beq_eq_decide_eq];rfl
  clear ho;go_enter func69,ntmps69;go_wp2_with fail;refine (a32 (Pn.row k).kind (a02 k hk) _).mono ?_;rintro e w2 ⟨sl,rfl,hP,hB2⟩;obtain ⟨ao,cap,rfl,_⟩:=hP;obtain ⟨hr1,_,rc⟩:=(CellsAt.new w (a3a k) 100).next hB2;have HB2:Hid (Below w.heap.size w w2):=((Below.refl _ _).alloc (Nat.le_refl _) _).trans (hB2.mono (by simp))
  clear hB2;unfold a0l;go_wp2_with fail;have hW:Below w2.heap.size w2 (w2.alloc (.cells (a0l (Pn.row k).kind (.slice ao (a0g (Pn.row k).kind).length cap)).toArray 105)):=(Below.refl _ _).alloc (Nat.le_refl _) _
  have up:∀b j v,b<w2.heap.size->w2.cell? ⟨b,j,none⟩=some v->∀d os,(Go.Sort.grow (redrawn (w2.alloc (.cells (a0l (Pn.row k).kind (.slice ao (a0g (Pn.row k).kind).length cap)).toArray 105)) d) os).cell? ⟨b,j,none⟩=some v:=
   fun b j v hb h d os=>cell_regrown ((hW.cell (p:=⟨b,j,none⟩) hb).trans h) d os
  have R0:=up _ _ _ hr1 (rc 0 _ rfl);have R1:=up _ _ _ hr1 (rc 1 _ rfl);have R2:=up _ _ _ hr1 (rc 2 _ rfl);have R3:=up _ _ _ hr1 (rc 3 _ rfl);have R4:=up _ _ _ hr1 (rc 4 _ rfl);have R5:=up _ _ _ hr1 (rc 5 _ rfl);obtain ⟨hl1,_,lc⟩:=CellsAt.new w2 (a0l (Pn.row k).kind (.slice ao (a0g (Pn.row k).kind).length cap)) 105;have L0:=cell_regrown (lc 0 _ rfl);have L1:=cell_regrown (lc 1 _ rfl);have L2:=cell_regrown (lc 2 _ rfl);have L3:=cell_regrown (lc 3 _ rfl);have L4:=cell_regrown (lc 4 _ rfl);have L5:=cell_regrown (lc 5 _ rfl);have L6:=cell_regrown (lc 6 _ rfl);have L7:=cell_regrown (lc 7 _ rfl);have L8:=cell_regrown (lc 8 _ rfl);have HBW:=(show Hid _ from Below.alloc HB2.out HB2.out.size (.cells (a0l (Pn.row k).kind (.slice ao (a0g (Pn.row k).kind).length cap)).toArray 105))
  clear lc up hW rc;unfold a0l at L0 L1 L2 L3 L4 L5 L6 L7 L8 R0 R1 R2 R3 R4 R5 HBW;generalize w2.alloc _=W at L0 L1 L2 L3 L4 L5 L6 L7 L8 R0 R1 R2 R3 R4 R5 HBW hl1 ⊢;obtain ⟨f0,f1,f2,f3,f4,f5,f6⟩:=a0Z k hk;have hgp:(a2G (Pn.row k).kind:Int)<=40:=b7o _;refine wp_region_quiet_below (by kernel_rfl) (by kernel_rfl) ?_
  repeat (quiet_step (first
   | (go_at_call 60;exact Calls.regrown_of (a5H _ _ _ _ _ _ _ _ _ _ _ _ _ _ _ _ _ _ (by omega) (by omega) (by omega) (by omega) (by omega) (by omega)))))
  refine wpQuiet_nil ?_;intro _ hw';obtain ⟨⟨dq,osq⟩,hw''⟩:=hw';subst hw'';go_wp2_with fail;go_ret;refine ⟨?_,Below.trans HBW.out ((below_regrown W dq osq).mono HBW.out.size)⟩;rw[HF.out];rfl
 ·have h1:((Pn.row k).opc != bits BinOp.and IntKind.i64 n 127)=true:=by
   have:a5E n 127=bits BinOp.and IntKind.i64 n 127:=rfl;rw[<-this];simpa using ho
  have HF:Hid (a1A k n=false):=by
   show a1A k n=_;unfold a1A;rw[decide_eq_false ho,Bool.false_and]
  clear ho;go_enter func69,ntmps69;go_wp2_with fail;go_ret;exact ⟨by rw[HF.out];rfl,(Below.refl _ _).alloc (Nat.le_refl _) _⟩
theorem c3p (k b:Nat) (n:Int) (w:World) (hk:k<64) (hb:b<w.heap.size) (hc:w.cell? ⟨b,0,none⟩=some (.int .i64 n)):
    Calls prog 68 #[.agg (a3a k).toArray,.pointer (some ⟨b,0,none⟩)] w fun e w'=>e=.returned (.bool (a1A k n))/\Below w.heap.size w w':=by
 unfold a3a;go_enter func68,ntmps68;go_wp2_with fail;refine (c4Z k n _ hk).mono ?_;rintro e w1 ⟨rfl,hB1⟩;have HB1:Hid (Below w.heap.size w w1):=((Below.refl _ _).alloc (Nat.le_refl _) _).trans (hB1.mono (by simp))
 clear hB1;go_wp2_with fail;go_ret;exact ⟨rfl,HB1.out⟩
