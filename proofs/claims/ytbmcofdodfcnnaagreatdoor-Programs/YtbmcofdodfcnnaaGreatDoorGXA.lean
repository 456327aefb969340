import Derived.Lib.SplitLaws
import Derived.Test.YtbmcofdodfcnnaaGreatDoorGLA
import Derived.Test.YtbmcofdodfcnnaaGreatDoorGBG
import Derived.Test.YtbmcofdodfcnnaaGreatDoorGBC
import Derived.Test.YtbmcofdodfcnnaaGreatDoorGAW
import Derived.Test.YtbmcofdodfcnnaaGreatDoorGVF
set_option linter.all false
set_option maxHeartbeats 400000000
set_option maxRecDepth 100000
namespace Pn
open Go
structure Chk where
 size:Nat
 num:Int
 ins:Ins
def chk (l:List UInt8):Chk:=
 if l.length<2 then ⟨l.length,a0Q l,a1U⟩
 else if (a4q (a0Q (l.take 2))).2=0 then ⟨2,a0Q (l.take 2),(a4q (a0Q (l.take 2))).1⟩
 else if 4<=l.length/\(dec (a0Q (l.take 4))).2=0 then ⟨4,a0Q (l.take 4),(dec (a0Q (l.take 4))).1⟩
 else ⟨2,a0Q (l.take 2),a1U⟩
def a6K (c:Chk):List UInt8:=
 if c.size=4 then (shw c.ins).1
 else if (a0q c.ins).2=0/\c.num=(a0q c.ins).1 then [99,46]++(shw c.ins).1
 else if c.size=2 then [46,104,97,108,102,32]++Lib.itoa c.num
 else [46,98,121,116,101,32]++Lib.itoa c.num
theorem a9P (i:Ins):(shw i).1.length<=2000:=by
 by_cases h:right i=true
 ·obtain ⟨k,hk,ho⟩:=b4v h
  obtain ⟨op,rd,rs1,rs2,imm⟩:=i;simp only at ho;subst ho;rw[b2O h];exact c3w k hk ⟨k+1,rd,rs1,rs2,imm⟩ (c7a hk h) (a02 k hk)
 ·rw[b2Q (by simpa using h)];simp
end Pn
namespace Go.Proofs.YtbmcofdodfcnnaaGreatDoor
open Pn
open Go.Proofs.Tryz
open Go.RowKit
def a6q (c:Pn.Chk):List Value:=[.int .i64 c.size,.int .i64 c.num,.int .i64 c.ins.op,.int .i64 c.ins.rd,.int .i64 c.ins.rs1,.int .i64 c.ins.rs2,.int .i64 c.ins.imm]
theorem c0y {l:List UInt8} (h:l.length<=4):IntKind.i64.wrap (a0Q l)=a0Q l:=by
 have hb:=a4D l;have h2:(2:Int)^(8*l.length)<=2^32:=a0M (by omega)
 have e:(2:Int)^32=4294967296:=by decide
 exact IntWalk.i64_in _ (by omega)
theorem a8F (s:ByteArray) (w:World) (hs:s.size<=4):Calls prog 148 #[.string s] w fun e w'=>e=.returned (.int .i64 (a0Q s.data.toList))/\w'=w:=by
 have:=b71 s w (by omega)
 rwa[c0y (by rw[<-Lib.size_eq];exact hs)]at this
def z7:List Value:=[.int .i64 0,.int .i64 0,.int .i64 0,.int .i64 0,.int .i64 0,.int .i64 0,.int .i64 0]
theorem a5V (s:ByteArray) (n:Nat):(s.extract 0 n).data.toList=s.data.toList.take n:=Lib.extract_from_zero s n
theorem a3e (s:ByteArray):s.data.toList.length=s.size:=(Lib.size_eq s).symm
theorem c8u {s:ByteArray} (h:s.size<2):Pn.chk s.data.toList=⟨s.size,a0Q s.data.toList,Pn.a1U⟩:=by
 have hsz:=a3e s;unfold Pn.chk;rw[if_pos (by omega),hsz]
theorem c8K {s:ByteArray} {i:Pn.Ins} (h:¬s.size<2) (he:a4q (a0Q (s.extract 0 2).data.toList)=(i,0)):Pn.chk s.data.toList=⟨2,a0Q (s.extract 0 2).data.toList,i⟩:=by
 have hsz:=a3e s;unfold Pn.chk;rw[<-a5V,if_neg (by omega),he];simp
theorem c8H {s:ByteArray} {i:Pn.Ins} (h:¬s.size<4) (he:(a4q (a0Q (s.extract 0 2).data.toList)).2≠0) (hd:Pn.dec (a0Q (s.extract 0 4).data.toList)=(i,0)):Pn.chk s.data.toList=⟨4,a0Q (s.extract 0 4).data.toList,i⟩:=by
 have hsz:=a3e s;unfold Pn.chk;rw[<-a5V,<-a5V,if_neg (by omega),if_neg he,hd,if_pos ⟨by omega,rfl⟩]
theorem c9B {s:ByteArray} (h:¬s.size<2) (he:(a4q (a0Q (s.extract 0 2).data.toList)).2≠0) (hd:s.size<4\/(Pn.dec (a0Q (s.extract 0 4).data.toList)).2≠0):Pn.chk s.data.toList=⟨2,a0Q (s.extract 0 2).data.toList,Pn.a1U⟩:=by
 have hsz:=a3e s
 unfold Pn.chk;rw[<-a5V,<-a5V,if_neg (by omega),if_neg he,if_neg (fun h2=>by
  rcases hd with hd|hd
  ·omega
  ·exact hd h2.2)]
theorem a9W (s:ByteArray) (w:World):
    Calls prog 138 #[.string s] w fun e w'=>e=.returned (.agg (a6q (Pn.chk s.data.toList)).toArray)/\Below w.heap.size w w':=by
 have HZ:Hid (CellsAt w.heap.size z7 (w.alloc (.cells z7.toArray 139))):=hid (CellsAt.new w z7 139);have HB0:Hid (Below w.heap.size w (w.alloc (.cells z7.toArray 139))):=hid ((Below.refl _ _).alloc (Nat.le_refl _) _);unfold z7 at HZ HB0;by_cases h2:s.size<2
 ·have HV:=hid (c8u h2)
  have h2':(s.size:Int)<2:=by omega
  have HN:=hid (fun w'=>a8F s w' (by omega))
  generalize a0Q s.data.toList=N at *;go_enter func138,ntmps138;go_wp2_with fail;generalize w.alloc _=W at *;refine (HN.out _).mono ?_;rintro e w1 ⟨rfl,rfl⟩;have y0:=HZ.out.2.2 0 _ rfl;have y1:=HZ.out.2.2 1 _ rfl;have y2:=HZ.out.2.2 2 _ rfl;have y3:=HZ.out.2.2 3 _ rfl;have y4:=HZ.out.2.2 4 _ rfl;have y5:=HZ.out.2.2 5 _ rfl;have y6:=HZ.out.2.2 6 _ rfl;have yf:=HZ.out.2.1;go_wp2_with fail;refine bodyPost_ret (v:=.agg (a6q ⟨s.size,N,Pn.a1U⟩).toArray) (by simp[results,results138,go_sem,y0,y1,y2,y3,y4,y5,y6,a6q,Pn.a1U]) rfl ⟨by rw[HV.out],?_⟩
  exact a4o HB0.out _ _ _ _ _ _ _
 ·have h2':(2:Int)<=s.size:=by omega
  have h2n:¬(s.size:Int)<2:=by omega
  have HN:=hid (fun w'=>a8F (s.extract 0 2) w' (by simp;omega))
  have HX:=hid (fun w'=>a71 (a0Q (s.extract 0 2).data.toList) w')
  have HV2:=hid (fun i he=>c8K (s:=s) (i:=i) h2 he)
  have HVn:=hid (fun he hd=>c9B (s:=s) h2 he hd)
  have HV4:=hid (fun (h4:¬s.size<4) i he hd=>c8H (s:=s) (i:=i) h4 he hd)
  generalize a0Q (s.extract 0 2).data.toList=N at *;generalize a4q N=X at *;obtain ⟨⟨xop,xrd,xrs1,xrs2,ximm⟩,ex⟩:=X;unfold Pn.Ins.val at HX;simp only at HX;by_cases hex:ex=0
  ·subst hex
   have HV:=hid (HV2.out _ rfl);go_enter func138,ntmps138;go_wp2_with fail;generalize w.alloc _=W at *;refine (HN.out _).mono ?_;rintro e w1 ⟨rfl,rfl⟩;go_wp2_with fail;refine (HX.out _).mono ?_;rintro e w2 ⟨rfl,hB2⟩;have HZ:=hid (HZ.out.next hB2);have HB0:=hid (HB0.out.trans (hB2.mono HB0.out.size));clear hB2;have HZ:=hid (HZ.out.alloc (.cells #[.int .i64 xop,.int .i64 xrd,.int .i64 xrs1,.int .i64 xrs2,.int .i64 ximm] 26));have HB0:=hid (HB0.out.alloc HB0.out.size (.cells #[.int .i64 xop,.int .i64 xrd,.int .i64 xrs1,.int .i64 xrs2,.int .i64 ximm] 26));have y0:=HZ.out.2.2 0 _ rfl;have y1:=HZ.out.2.2 1 _ rfl;have y2:=HZ.out.2.2 2 _ rfl;have y3:=HZ.out.2.2 3 _ rfl;have y4:=HZ.out.2.2 4 _ rfl;have y5:=HZ.out.2.2 5 _ rfl;have y6:=HZ.out.2.2 6 _ rfl;have yf:=HZ.out.2.1;go_wp2_with fail;(refine bodyPost_ret (v:=.agg (a6q ⟨2,N,⟨xop,xrd,xrs1,xrs2,ximm⟩⟩).toArray) (by simp[results,results138,go_sem,y0,y1,y2,y3,y4,y5,y6,a6q]) rfl ⟨by rw[HV.out],?_⟩);exact a4o HB0.out _ _ _ _ _ _ _
  ·by_cases h4:s.size<4
   ·have h4':(s.size:Int)<4:=by omega
    have HV:=hid (HVn.out hex (.inl h4));go_enter func138,ntmps138;go_wp2_with fail;generalize w.alloc _=W at *;refine (HN.out _).mono ?_;rintro e w1 ⟨rfl,rfl⟩;go_wp2_with fail;refine (HX.out _).mono ?_;rintro e w2 ⟨rfl,hB2⟩;have HZ:=hid (HZ.out.next hB2);have HB0:=hid (HB0.out.trans (hB2.mono HB0.out.size));clear hB2;have HZ:=hid (HZ.out.alloc (.cells #[.int .i64 xop,.int .i64 xrd,.int .i64 xrs1,.int .i64 xrs2,.int .i64 ximm] 26));have HB0:=hid (HB0.out.alloc HB0.out.size (.cells #[.int .i64 xop,.int .i64 xrd,.int .i64 xrs1,.int .i64 xrs2,.int .i64 ximm] 26));have y0:=HZ.out.2.2 0 _ rfl;have y1:=HZ.out.2.2 1 _ rfl;have y2:=HZ.out.2.2 2 _ rfl;have y3:=HZ.out.2.2 3 _ rfl;have y4:=HZ.out.2.2 4 _ rfl;have y5:=HZ.out.2.2 5 _ rfl;have y6:=HZ.out.2.2 6 _ rfl;have yf:=HZ.out.2.1;go_wp2_with fail;(refine bodyPost_ret (v:=.agg (a6q ⟨2,N,Pn.a1U⟩).toArray) (by simp[results,results138,go_sem,y0,y1,y2,y3,y4,y5,y6,a6q,Pn.a1U]) rfl ⟨by rw[HV.out],?_⟩);exact a4o HB0.out _ _ _ _ _ _ _
   ·have h4':(4:Int)<=s.size:=by omega
    (have h4n:¬(s.size:Int)<4:=by omega);(have HM:=hid (fun w'=>a8F (s.extract 0 4) w' (by simp;omega)));(have HD:=hid (fun w'=>a8w (a0Q (s.extract 0 4).data.toList) w'));have HV4:=hid (HV4.out h4);(have HVn:=hid (fun hd=>HVn.out hex (.inr hd)));generalize a0Q (s.extract 0 4).data.toList=M at *;generalize Pn.dec M=X at *;obtain ⟨⟨dop,drd,drs1,drs2,dimm⟩,dx⟩:=X;unfold Pn.Ins.val at HD;simp only at HD HVn HV4;by_cases hdx:dx=0
    ·subst hdx
     have HV:=hid (HV4.out _ hex rfl);go_enter func138,ntmps138;go_wp2_with fail;generalize w.alloc _=W at *;refine (HN.out _).mono ?_;rintro e w1 ⟨rfl,rfl⟩;go_wp2_with fail;refine (HX.out _).mono ?_;rintro e w2 ⟨rfl,hB2⟩;have HZ:=hid (HZ.out.next hB2);have HB0:=hid (HB0.out.trans (hB2.mono HB0.out.size));clear hB2;have HZ:=hid (HZ.out.alloc (.cells #[.int .i64 xop,.int .i64 xrd,.int .i64 xrs1,.int .i64 xrs2,.int .i64 ximm] 26));have HB0:=hid (HB0.out.alloc HB0.out.size (.cells #[.int .i64 xop,.int .i64 xrd,.int .i64 xrs1,.int .i64 xrs2,.int .i64 ximm] 26));go_wp2_with fail;generalize w2.alloc _=W2 at *;refine (HM.out _).mono ?_;rintro e w3 ⟨rfl,rfl⟩;go_wp2_with fail;refine (HD.out _).mono ?_;rintro e w4 ⟨rfl,hB4⟩;have HZ:=hid (HZ.out.next hB4);have HB0:=hid (HB0.out.trans (hB4.mono HB0.out.size));clear hB4;have HZ:=hid (HZ.out.alloc (.cells #[.int .i64 dop,.int .i64 drd,.int .i64 drs1,.int .i64 drs2,.int .i64 dimm] 26));have HB0:=hid (HB0.out.alloc HB0.out.size (.cells #[.int .i64 dop,.int .i64 drd,.int .i64 drs1,.int .i64 drs2,.int .i64 dimm] 26));have y0:=HZ.out.2.2 0 _ rfl;have y1:=HZ.out.2.2 1 _ rfl;have y2:=HZ.out.2.2 2 _ rfl;have y3:=HZ.out.2.2 3 _ rfl;have y4:=HZ.out.2.2 4 _ rfl;have y5:=HZ.out.2.2 5 _ rfl;have y6:=HZ.out.2.2 6 _ rfl;have yf:=HZ.out.2.1;go_wp2_with fail;(refine bodyPost_ret (v:=.agg (a6q ⟨4,M,⟨dop,drd,drs1,drs2,dimm⟩⟩).toArray) (by simp[results,results138,go_sem,y0,y1,y2,y3,y4,y5,y6,a6q]) rfl ⟨by rw[HV.out],?_⟩);exact a4o HB0.out _ _ _ _ _ _ _
    ·have HV:=hid (HVn.out hdx)
     go_enter func138,ntmps138;go_wp2_with fail;generalize w.alloc _=W at *;refine (HN.out _).mono ?_;rintro e w1 ⟨rfl,rfl⟩;go_wp2_with fail;refine (HX.out _).mono ?_;rintro e w2 ⟨rfl,hB2⟩;have HZ:=hid (HZ.out.next hB2);have HB0:=hid (HB0.out.trans (hB2.mono HB0.out.size));clear hB2;have HZ:=hid (HZ.out.alloc (.cells #[.int .i64 xop,.int .i64 xrd,.int .i64 xrs1,.int .i64 xrs2,.int .i64 ximm] 26));have HB0:=hid (HB0.out.alloc HB0.out.size (.cells #[.int .i64 xop,.int .i64 xrd,.int .i64 xrs1,.int .i64 xrs2,.int .i64 ximm] 26));go_wp2_with fail;generalize w2.alloc _=W2 at *;refine (HM.out _).mono ?_;rintro e w3 ⟨rfl,rfl⟩;go_wp2_with fail;refine (HD.out _).mono ?_;rintro e w4 ⟨rfl,hB4⟩;have HZ:=hid (HZ.out.next hB4);have HB0:=hid (HB0.out.trans (hB4.mono HB0.out.size));clear hB4;have HZ:=hid (HZ.out.alloc (.cells #[.int .i64 dop,.int .i64 drd,.int .i64 drs1,.int .i64 drs2,.int .i64 dimm] 26));have HB0:=hid (HB0.out.alloc HB0.out.size (.cells #[.int .i64 dop,.int .i64 drd,.int .i64 drs1,.int .i64 drs2,.int .i64 dimm] 26));have y0:=HZ.out.2.2 0 _ rfl;have y1:=HZ.out.2.2 1 _ rfl;have y2:=HZ.out.2.2 2 _ rfl;have y3:=HZ.out.2.2 3 _ rfl;have y4:=HZ.out.2.2 4 _ rfl;have y5:=HZ.out.2.2 5 _ rfl;have y6:=HZ.out.2.2 6 _ rfl;have yf:=HZ.out.2.1;go_wp2_with fail;(refine bodyPost_ret (v:=.agg (a6q ⟨2,N,Pn.a1U⟩).toArray) (by simp[results,results138,go_sem,y0,y1,y2,y3,y4,y5,y6,a6q,Pn.a1U]) rfl ⟨by rw[HV.out],?_⟩);exact a4o HB0.out _ _ _ _ _ _ _
theorem c3M (t:List UInt8):(ByteArray.mk t.toArray).size=t.length:=by simp[ByteArray.size]
theorem c0x (c:Pn.Chk) (w:World) (hE:Env w) (h0:0<=c.num) (h1:c.num<4294967296) (hs:c.size=1\/c.size=2\/c.size=4):
    Calls prog 77 #[.agg (a6q c).toArray] w fun e w'=>∃s:ByteArray,e=.returned (.string s)/\s.size<=2100/\Hid (s.data.toList=a6K c)/\Below w.heap.size w w':=by
 obtain ⟨size,num,⟨op,rd,rs1,rs2,imm⟩⟩:=c;simp only at h0 h1 hs;have HC:Hid (CellsAt w.heap.size (a6q ⟨size,num,⟨op,rd,rs1,rs2,imm⟩⟩) (w.alloc (.cells (a6q ⟨size,num,⟨op,rd,rs1,rs2,imm⟩⟩).toArray 139))):=hid (CellsAt.new w _ 139);have HB0:Hid (Below w.heap.size w (w.alloc (.cells (a6q ⟨size,num,⟨op,rd,rs1,rs2,imm⟩⟩).toArray 139))):=hid ((Below.refl _ _).alloc (Nat.le_refl _) _);have HE:=hid hE;have HSW:=hid (fun w' (h:Env w')=>b1Y ⟨op,rd,rs1,rs2,imm⟩ w' h)
 have HST:=hid (fun w'=>a6k ⟨op,rd,rs1,rs2,imm⟩ w' a3O)
 have HV:Hid (a6K ⟨size,num,⟨op,rd,rs1,rs2,imm⟩⟩=if size=4 then (Pn.shw ⟨op,rd,rs1,rs2,imm⟩).1 else if (a0q ⟨op,rd,rs1,rs2,imm⟩).2=0/\num=(a0q ⟨op,rd,rs1,rs2,imm⟩).1 then [99,46]++(Pn.shw ⟨op,rd,rs1,rs2,imm⟩).1 else if size=2 then [46,104,97,108,102,32]++Lib.itoa num else [46,98,121,116,101,32]++Lib.itoa num):=hid rfl;have HL:=hid (a9P ⟨op,rd,rs1,rs2,imm⟩);clear hE;unfold a6q at *;simp only at *;generalize Pn.shw ⟨op,rd,rs1,rs2,imm⟩=T at *;generalize a0q ⟨op,rd,rs1,rs2,imm⟩=S at *;obtain ⟨t,te⟩:=T;obtain ⟨n,se⟩:=S;unfold Pn.Ins.val at HSW HST;simp only at *;go_enter func77,ntmps77;go_wp2_with fail;generalize w.alloc _=W at *;refine (HSW.out _ (HE.out.below HB0.out HE.out.1)).mono ?_;rintro e w1 ⟨rfl,hB1⟩;have HC:=hid (HC.out.next hB1);have HB0:=hid (HB0.out.trans (hB1.mono HB0.out.size));clear hB1;have y2:=HC.out.2.2 2 _ rfl;have y3:=HC.out.2.2 3 _ rfl;have y4:=HC.out.2.2 4 _ rfl;have y5:=HC.out.2.2 5 _ rfl;have y6:=HC.out.2.2 6 _ rfl;go_wp2_with fail;refine (HST.out _).mono ?_;rintro e w2 ⟨rfl,hB2⟩;have HC:=hid (HC.out.next hB2);have HB0:=hid (HB0.out.trans (hB2.mono HB0.out.size));clear hB2 y2 y3 y4 y5 y6;have y0:=HC.out.2.2 0 _ rfl;have y1:=HC.out.2.2 1 _ rfl;rcases hs with rfl|rfl|rfl
 ·by_cases hse:se=0
  ·subst hse
   by_cases hnn:num=n
   ·subst hnn
    (have HW:Hid (a6K ⟨1,num,⟨op,rd,rs1,rs2,imm⟩⟩=[99,46]++t):=hid (by rw[HV.out];simp));clear HSW HST HV;have htl:=HL.out;(have hti:¬(9223372036854775807:Int)<2+t.length:=by omega);(have htn:¬9223372036854775807<2+t.length:=by omega);go_wp2_with fail;go_ret;exact ⟨_,rfl,by rw[ByteArray.size_append];exact Nat.le_trans (Nat.add_le_add (Nat.le_of_eq rfl:_<=2) (Nat.le_of_eq (c3M t))) (by omega),hid (by rw[HW.out];simp),HB0.out⟩
   ·have hnb:(num==n)=false:=by simpa using hnn
    (have HW:Hid (a6K ⟨1,num,⟨op,rd,rs1,rs2,imm⟩⟩=[46,98,121,116,101,32]++Lib.itoa num):=hid (by rw[HV.out];simp[hnn]));clear HSW HST HV;go_wp2_with fail;(refine (a2q num _ (by omega) (by omega) (HE.out.below HB0.out HE.out.1)).mono ?_);rintro e w3 ⟨q,rfl,hq,HQ,hB3⟩;have HB0:=hid (HB0.out.trans (hB3.mono HB0.out.size));clear hB3;(have hqi:¬(9223372036854775807:Int)<6+q.size:=by omega);(have hqn:¬9223372036854775807<6+q.size:=by omega);go_wp2_with fail;go_ret;exact ⟨_,rfl,by rw[ByteArray.size_append];exact Nat.le_trans (Nat.add_le_add (Nat.le_of_eq rfl:_<=6) hq) (by omega),hid (by rw[HW.out,<-HQ.out];simp),HB0.out⟩
  ·have HW:Hid (a6K ⟨1,num,⟨op,rd,rs1,rs2,imm⟩⟩=[46,98,121,116,101,32]++Lib.itoa num):=hid (by rw[HV.out];simp[hse])
   clear HSW HST HV;go_wp2_with fail;(refine (a2q num _ (by omega) (by omega) (HE.out.below HB0.out HE.out.1)).mono ?_);rintro e w3 ⟨q,rfl,hq,HQ,hB3⟩;have HB0:=hid (HB0.out.trans (hB3.mono HB0.out.size));clear hB3;(have hqi:¬(9223372036854775807:Int)<6+q.size:=by omega);(have hqn:¬9223372036854775807<6+q.size:=by omega);go_wp2_with fail;go_ret;exact ⟨_,rfl,by rw[ByteArray.size_append];exact Nat.le_trans (Nat.add_le_add (Nat.le_of_eq rfl:_<=6) hq) (by omega),hid (by rw[HW.out,<-HQ.out];simp),HB0.out⟩
 ·by_cases hse:se=0
  ·subst hse
   by_cases hnn:num=n
   ·subst hnn
    (have HW:Hid (a6K ⟨2,num,⟨op,rd,rs1,rs2,imm⟩⟩=[99,46]++t):=hid (by rw[HV.out];simp));clear HSW HST HV;have htl:=HL.out;(have hti:¬(9223372036854775807:Int)<2+t.length:=by omega);(have htn:¬9223372036854775807<2+t.length:=by omega);go_wp2_with fail;go_ret;exact ⟨_,rfl,by rw[ByteArray.size_append];exact Nat.le_trans (Nat.add_le_add (Nat.le_of_eq rfl:_<=2) (Nat.le_of_eq (c3M t))) (by omega),hid (by rw[HW.out];simp),HB0.out⟩
   ·have hnb:(num==n)=false:=by simpa using hnn
    (have HW:Hid (a6K ⟨2,num,⟨op,rd,rs1,rs2,imm⟩⟩=[46,104,97,108,102,32]++Lib.itoa num):=hid (by rw[HV.out];simp[hnn]));clear HSW HST HV;go_wp2_with fail;(refine (a2q num _ (by omega) (by omega) (HE.out.below HB0.out HE.out.1)).mono ?_);rintro e w3 ⟨q,rfl,hq,HQ,hB3⟩;have HB0:=hid (HB0.out.trans (hB3.mono HB0.out.size));clear hB3;(have hqi:¬(9223372036854775807:Int)<6+q.size:=by omega);(have hqn:¬9223372036854775807<6+q.size:=by omega);go_wp2_with fail;go_ret;exact ⟨_,rfl,by rw[ByteArray.size_append];exact Nat.le_trans (Nat.add_le_add (Nat.le_of_eq rfl:_<=6) hq) (by omega),hid (by rw[HW.out,<-HQ.out];simp),HB0.out⟩
  ·have HW:Hid (a6K ⟨2,num,⟨op,rd,rs1,rs2,imm⟩⟩=[46,104,97,108,102,32]++Lib.itoa num):=hid (by rw[HV.out];simp[hse])
   clear HSW HST HV;go_wp2_with fail;(refine (a2q num _ (by omega) (by omega) (HE.out.below HB0.out HE.out.1)).mono ?_);rintro e w3 ⟨q,rfl,hq,HQ,hB3⟩;have HB0:=hid (HB0.out.trans (hB3.mono HB0.out.size));clear hB3;(have hqi:¬(9223372036854775807:Int)<6+q.size:=by omega);(have hqn:¬9223372036854775807<6+q.size:=by omega);go_wp2_with fail;go_ret;exact ⟨_,rfl,by rw[ByteArray.size_append];exact Nat.le_trans (Nat.add_le_add (Nat.le_of_eq rfl:_<=6) hq) (by omega),hid (by rw[HW.out,<-HQ.out];simp),HB0.out⟩
 ·have HW:Hid (a6K ⟨4,num,⟨op,rd,rs1,rs2,imm⟩⟩=t):=hid (by rw[HV.out];simp)
  clear HSW HST HV;have htl:=HL.out;go_wp2_with fail;go_ret;exact ⟨_,rfl,by rw[c3M];omega,hid (by rw[HW.out]),HB0.out⟩
