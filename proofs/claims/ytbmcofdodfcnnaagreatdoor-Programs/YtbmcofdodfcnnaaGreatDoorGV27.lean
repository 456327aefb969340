import Derived.Test.YtbmcofdodfcnnaaGreatDoorGRG
import Derived.Test.YtbmcofdodfcnnaaGreatDoorGW14
import Derived.Test.YtbmcofdodfcnnaaGreatDoorGAW
import Derived.Test.YtbmcofdodfcnnaaGreatDoorGW41
import Derived.Test.YtbmcofdodfcnnaaGreatDoorGXF
set_option linter.all false
set_option maxHeartbeats 400000000
set_option maxRecDepth 100000
namespace Go.Proofs.YtbmcofdodfcnnaaGreatDoor
open Pn
open Go.Proofs.Tryz
open Go.RowKit
theorem c34 (on a b op rd rs1 rs2 imm:Int) (s:ByteArray) (sh:Bool) (w:World):
    Calls prog 52 #[.agg (a0C 5 on a b op rd rs1 rs2 imm s sh).toArray] w fun e w'=>e=.returned (.bool true)/\Below w.heap.size w w':=by
 have HC:=a0a (CellsAt.new w (a0C 5 on a b op rd rs1 rs2 imm s sh) 74);unfold a0C;go_enter func52,ntmps52;go_wp2_with fail;refine (b55 a3O ⟨op,rd,rs1,rs2,imm⟩ _).mono ?_;rintro e w1 ⟨rfl,hB1⟩;have HC1:=a0a (CellsAt.next HC.out hB1);have HB1:=a0a (((Below.refl w.heap.size w).alloc (Nat.le_refl _) _).trans (hB1.mono (by simp)))
 obtain ⟨hz,_,cc⟩:=HC1.out;have c4:=cc 4 _ rfl;have c5:=cc 5 _ rfl;have c6:=cc 6 _ rfl;have c7:=cc 7 _ rfl;have c8:=cc 8 _ rfl;clear cc hB1;go_wp2_with fail;refine (a2U ⟨op,rd,rs1,rs2,imm⟩ _).mono ?_;rintro e w2 ⟨rfl,hB2⟩;have HB2:=a0a (HB1.out.trans (hB2.mono HB1.out.size));clear hB2 c4 c5 c6 c7 c8;rw[a1p];generalize a0q ⟨op,rd,rs1,rs2,imm⟩=E;go_wp2_with (go_at_call 92;refine (a8H _ _).mono ?_;rintro e w' ⟨rfl,rfl⟩);go_ret;exact ⟨rfl,HB2.out⟩
theorem c4H (on a b op rd rs1 rs2 imm:Int) (s:ByteArray) (sh:Bool) (w:World):
    Calls prog 52 #[.agg (a0C 6 on a b op rd rs1 rs2 imm s sh).toArray] w fun e w'=>e=.returned (.bool true)/\Below w.heap.size w w':=by
 have HC:=a0a (CellsAt.new w (a0C 6 on a b op rd rs1 rs2 imm s sh) 74);unfold a0C;go_enter func52,ntmps52;go_wp2_with fail;refine (b20 a _).mono ?_;rintro e w1 ⟨rfl,hB1⟩;have HC1:=a0a (CellsAt.next HC.out hB1);have HB1:=a0a (((Below.refl w.heap.size w).alloc (Nat.le_refl _) _).trans (hB1.mono (by simp)))
 have c2:=HC1.out.2.2 2 _ rfl;have hz:=HC1.out.1;clear hB1;generalize hD:a4q a=D;have HD:=a0a hD;clear hD;obtain ⟨⟨xo,xd,x1,x2,xi⟩,er⟩:=D;unfold Pn.Ins.val;simp only;go_wp2_with fail;refine (a5C a _).mono ?_;rintro e w2 ⟨rfl,hB2⟩;have HI:=a0a ((CellsAt.new w1 [.int .i64 xo,.int .i64 xd,.int .i64 x1,.int .i64 x2,.int .i64 xi] 26).next hB2);have HB2:=a0a ((HB1.out.alloc HB1.out.size (.cells #[.int .i64 xo,.int .i64 xd,.int .i64 x1,.int .i64 x2,.int .i64 xi] 26)).trans (hB2.mono (by have:=HB1.out.size;simp;omega)))
 rw[b3v,HD.out];unfold Pn.Ins.val;simp only;obtain ⟨hi,_,ic⟩:=HI.out;have i0:=ic 0 _ rfl;have i1:=ic 1 _ rfl;have i2:=ic 2 _ rfl;have i3:=ic 3 _ rfl;have i4:=ic 4 _ rfl;clear ic hB2 c2;go_wp2_with (go_at_call 92;refine (a8H _ _).mono ?_;rintro e w' ⟨rfl,rfl⟩);go_ret;exact ⟨rfl,HB2.out.alloc HB2.out.size _⟩
theorem b9k (on a b op rd rs1 rs2 imm:Int) (s:ByteArray) (sh:Bool) (w:World) (hE:Env w):
    Calls prog 53 #[.agg (a0C 7 on a b op rd rs1 rs2 imm s sh).toArray] w fun e w'=>e=.returned (.bool true)/\Below w.heap.size w w':=by
 have HC:=a0a (CellsAt.new w (a0C 7 on a b op rd rs1 rs2 imm s sh) 74);have HE:=a0a (fun o=>hE.alloc o)
 unfold a0C;go_enter func53,ntmps53;go_wp2_with fail;refine (b0b s sh _ (HE.out _)).mono ?_;rintro e w1 ⟨rfl,hB1⟩;have HC1:=a0a (CellsAt.next HC.out hB1);have HB1:=a0a (((Below.refl w.heap.size w).alloc (Nat.le_refl _) _).trans (hB1.mono (by simp)))
 have c9:=HC1.out.2.2 9 _ rfl;have c10:=HC1.out.2.2 10 _ rfl;have hz:=HC1.out.1;clear hB1;generalize hD:b3O s sh=D;have HD:=a0a hD;clear hD;obtain ⟨bs,er,ln⟩:=D;simp only;go_wp2_with fail;refine (c4x s sh _).mono ?_;rintro e w2 ⟨rfl,hB2⟩;have HI:=a0a ((CellsAt.new w1 [.int .i64 er,.int .i64 ln] 39).next hB2);have HB2:=a0a ((HB1.out.alloc HB1.out.size (.cells #[.int .i64 er,.int .i64 ln] 39)).trans (hB2.mono (by have:=HB1.out.size;simp;omega)))
 rw[c3e,HD.out];simp only;obtain ⟨hi,_,ic⟩:=HI.out;have i0:=ic 0 _ rfl;have i1:=ic 1 _ rfl;clear ic hB2 c9 c10;go_wp2_with fail;go_ret;exact ⟨rfl,HB2.out.alloc HB2.out.size _⟩
theorem b9v (on a b op rd rs1 rs2 imm:Int) (s:ByteArray) (sh:Bool) (w:World) (hE:Env w):
    Calls prog 53 #[.agg (a0C 8 on a b op rd rs1 rs2 imm s sh).toArray] w fun e w'=>e=.returned (.bool true)/\Below w.heap.size w w':=by
 have HC:=a0a (CellsAt.new w (a0C 8 on a b op rd rs1 rs2 imm s sh) 74);have HE:=a0a (fun o=>hE.alloc o)
 unfold a0C;go_enter func53,ntmps53;go_wp2_with fail;refine (a69 s _ (HE.out _)).mono ?_;rintro e w1 ⟨rfl,hB1⟩;have HC1:=a0a (CellsAt.next HC.out hB1);have HB1:=a0a (((Below.refl w.heap.size w).alloc (Nat.le_refl _) _).trans (hB1.mono (by simp)))
 have HE1:=a0a (hE.below HB1.out hE.1);have c9:=HC1.out.2.2 9 _ rfl;have hz:=HC1.out.1;clear hB1;generalize hD:b6x s=D;have HD:=a0a hD;clear hD;obtain ⟨bs,er⟩:=D;simp only;go_wp2_with fail;refine (a7h s _ HE1.out).mono ?_;rintro e w2 ⟨rfl,hB2⟩;have HB2:=a0a (HB1.out.trans (hB2.mono HB1.out.size));rw[c4F,HD.out];simp only;clear hB2 c9;go_wp2_with (go_at_call 92;refine (a8H _ _).mono ?_;rintro e w' ⟨rfl,rfl⟩);go_ret;exact ⟨rfl,HB2.out⟩
theorem b9z (s:ByteArray) (k:Nat) (w:World) (hs:s.size<=2000000) (hk:k<=s.size):
    Calls prog 173 #[.string s,.int .i64 k] w fun e w'=>e=.returned (.tuple #[(Pn.itR s.data.toList k).1.val,.int .i64 (Pn.itR s.data.toList k).2])/\Below w.heap.size w w':=by
 have hsz:s.data.toList.length=s.size:=(Lib.size_eq s).symm;by_cases h2:s.size<k+2
 ·have e:Pn.itR s.data.toList k=(⟨0,0,0,0,0⟩,0):=by unfold Pn.itR;rw[if_pos (by omega)]
  rw[e];have h2i:(s.size:Int)<(k:Int)+2:=by omega
  clear e;go_enter func173,ntmps173;go_wp2_with fail;refine bodyPost_ret (v:=.tuple #[(Pn.Ins.mk 0 0 0 0 0).val,.int .i64 0]) (by simp[results,results173,go_sem,Pn.Ins.val]) rfl ⟨rfl,?_⟩
  exact (Below.refl _ _).alloc (Nat.le_refl _) _
 ·have h2i:¬(s.size:Int)<(k:Int)+2:=by omega
  have hx2:(k:Int)+2<=s.size:=by omega
  have HN2:=a0a (fun w'=>a23 (s.extract k (k+2)) w' (by rw[a5f s k (k+2) (by omega)];omega))
  rw[a5c,show k+2-k=2 by omega]at HN2
  have HIT:Hid (Pn.itR s.data.toList k=if ¬a0Q ((s.data.toList.drop k).take 2)%4=3 then (if (a8T (a0Q ((s.data.toList.drop k).take 2))).2=0 then ((a8T (a0Q ((s.data.toList.drop k).take 2))).1,2) else (⟨0,0,0,0,0⟩,0)) else if s.data.toList.length<k+4 then (⟨0,0,0,0,0⟩,0) else if (Pn.dec (a0Q ((s.data.toList.drop k).take 4))).2=0 then ((Pn.dec (a0Q ((s.data.toList.drop k).take 4))).1,4) else (⟨0,0,0,0,0⟩,0)):=a0a (by unfold Pn.itR;rw[if_neg (by omega)])
  have hb2:=b1r (l:=(s.data.toList.drop k).take 2) (by rw[List.length_take];omega)
  have w2:IntKind.i64.wrap ((k:Int)+2)=(k:Int)+2:=IntWalk.i64_in _ (by omega)
  generalize a0Q ((s.data.toList.drop k).take 2)=X at *;have htm:X.tmod 4=X%4:=Int.tmod_eq_emod_of_nonneg hb2.1;by_cases h3:X%4=3
  ·replace HIT:=a0a (HIT.out.trans (if_neg (fun q=>q h3)))
   by_cases h4:s.size<k+4
   ·replace HIT:=a0a (HIT.out.trans (if_pos (by omega)))
    (have h4i:(s.size:Int)<(k:Int)+4:=by omega);(have w4:IntKind.i64.wrap ((k:Int)+4)=(k:Int)+4:=IntWalk.i64_in _ (by omega));go_enter func173,ntmps173;go_wp2_with fail;refine (HN2.out _).mono ?_;rintro e w1 ⟨rfl,rfl⟩;go_wp2_with fail;(refine bodyPost_ret (v:=.tuple #[(Pn.Ins.mk 0 0 0 0 0).val,.int .i64 0]) (by simp[results,results173,go_sem,Pn.Ins.val]) rfl ⟨by rw[HIT.out],?_⟩);exact (Below.refl _ _).alloc (Nat.le_refl _) _
   ·replace HIT:=a0a (HIT.out.trans (if_neg (by omega)))
    (have h4i:¬(s.size:Int)<(k:Int)+4:=by omega);(have hx4:(k:Int)+4<=s.size:=by omega);(have w4:IntKind.i64.wrap ((k:Int)+4)=(k:Int)+4:=IntWalk.i64_in _ (by omega));(have HN4:=a0a (fun w'=>a23 (s.extract k (k+4)) w' (by rw[a5f s k (k+4) (by omega)];omega)));(rw[a5c,show k+4-k=4 by omega]at HN4);(have hb4:=b1r (l:=(s.data.toList.drop k).take 4) (by rw[List.length_take];omega));generalize a0Q ((s.data.toList.drop k).take 4)=Y at *;(have HDC:=a0a (fun w'=>a8P Y w' hb4.1 hb4.2));generalize Pn.dec Y=EX at *;obtain ⟨⟨eop,erd,ers1,ers2,eimm⟩,ee⟩:=EX;unfold Pn.Ins.val at HDC;simp only at HDC HIT;go_enter func173,ntmps173;go_wp2_with fail;refine (HN2.out _).mono ?_;rintro e w1 ⟨rfl,rfl⟩;go_wp2_with fail;refine (HN4.out _).mono ?_;rintro e w1 ⟨rfl,rfl⟩;go_wp2_with fail;refine (HDC.out _).mono ?_;rintro e w2 ⟨rfl,hB2⟩;have HZ:=a0a ((CellsAt.new w [.int .i64 0,.int .i64 0,.int .i64 0,.int .i64 0,.int .i64 0] 26).next hB2);(have HB2:=a0a (((Below.refl _ w).alloc (Nat.le_refl _) (.cells #[.int .i64 0,.int .i64 0,.int .i64 0,.int .i64 0,.int .i64 0] 26)).trans (hB2.mono (by simp))));have HX:=a0a (CellsAt.new w2 [.int .i64 eop,.int .i64 erd,.int .i64 ers1,.int .i64 ers2,.int .i64 eimm] 26);have HZ3:=a0a (HZ.out.alloc (.cells #[.int .i64 eop,.int .i64 erd,.int .i64 ers1,.int .i64 ers2,.int .i64 eimm] 26));have HB3:=a0a (HB2.out.alloc HB2.out.size (.cells #[.int .i64 eop,.int .i64 erd,.int .i64 ers1,.int .i64 ers2,.int .i64 eimm] 26));clear hB2 HZ HB2;go_upto_region 12 with fail;generalize w2.alloc _=W3 at *;have z0:=HZ3.out.2.2 0 _ rfl;have z1:=HZ3.out.2.2 1 _ rfl;have z2:=HZ3.out.2.2 2 _ rfl;have z3:=HZ3.out.2.2 3 _ rfl;have z4:=HZ3.out.2.2 4 _ rfl;have zf:=HZ3.out.2.1;have x0:=HX.out.2.2 0 _ rfl;have x1:=HX.out.2.2 1 _ rfl;have x2:=HX.out.2.2 2 _ rfl;have x3:=HX.out.2.2 3 _ rfl;have x4:=HX.out.2.2 4 _ rfl;by_cases he:ee=0
    ·replace HIT:=a0a (HIT.out.trans (if_pos he))
     go_wp2_with fail;refine bodyPost_ret (v:=.tuple #[(Pn.Ins.mk eop erd ers1 ers2 eimm).val,.int .i64 4]) (by simp[results,results173,go_sem,Pn.Ins.val,z0,z1,z2,z3,z4]) rfl ⟨by rw[HIT.out],a2o HB3.out _ _ _ _ _⟩
    ·replace HIT:=a0a (HIT.out.trans (if_neg he))
     go_wp2_with fail;refine bodyPost_ret (v:=.tuple #[(Pn.Ins.mk 0 0 0 0 0).val,.int .i64 0]) (by simp[results,results173,go_sem,Pn.Ins.val,z0,z1,z2,z3,z4]) rfl ⟨by rw[HIT.out],a2o HB3.out _ _ _ _ _⟩
  ·replace HIT:=a0a (HIT.out.trans (if_pos h3))
   (have HEX:=a0a (fun w'=>a5C X w'));generalize a8T X=EX at *;obtain ⟨⟨eop,erd,ers1,ers2,eimm⟩,ee⟩:=EX;unfold Pn.Ins.val at HEX;simp only at HEX HIT;go_enter func173,ntmps173;go_wp2_with fail;refine (HN2.out _).mono ?_;rintro e w1 ⟨rfl,rfl⟩;go_wp2_with fail;refine (HEX.out _).mono ?_;rintro e w2 ⟨rfl,hB2⟩;have HZ:=a0a ((CellsAt.new w [.int .i64 0,.int .i64 0,.int .i64 0,.int .i64 0,.int .i64 0] 26).next hB2);(have HB2:=a0a (((Below.refl _ w).alloc (Nat.le_refl _) (.cells #[.int .i64 0,.int .i64 0,.int .i64 0,.int .i64 0,.int .i64 0] 26)).trans (hB2.mono (by simp))));have HX:=a0a (CellsAt.new w2 [.int .i64 eop,.int .i64 erd,.int .i64 ers1,.int .i64 ers2,.int .i64 eimm] 26);have HZ3:=a0a (HZ.out.alloc (.cells #[.int .i64 eop,.int .i64 erd,.int .i64 ers1,.int .i64 ers2,.int .i64 eimm] 26));have HB3:=a0a (HB2.out.alloc HB2.out.size (.cells #[.int .i64 eop,.int .i64 erd,.int .i64 ers1,.int .i64 ers2,.int .i64 eimm] 26));clear hB2 HZ HB2;go_upto_region 6 with fail;generalize w2.alloc _=W3 at *;have z0:=HZ3.out.2.2 0 _ rfl;have z1:=HZ3.out.2.2 1 _ rfl;have z2:=HZ3.out.2.2 2 _ rfl;have z3:=HZ3.out.2.2 3 _ rfl;have z4:=HZ3.out.2.2 4 _ rfl;have zf:=HZ3.out.2.1;have x0:=HX.out.2.2 0 _ rfl;have x1:=HX.out.2.2 1 _ rfl;have x2:=HX.out.2.2 2 _ rfl;have x3:=HX.out.2.2 3 _ rfl;have x4:=HX.out.2.2 4 _ rfl;by_cases he:ee=0
   ·replace HIT:=a0a (HIT.out.trans (if_pos he))
    go_wp2_with fail;refine bodyPost_ret (v:=.tuple #[(Pn.Ins.mk eop erd ers1 ers2 eimm).val,.int .i64 2]) (by simp[results,results173,go_sem,Pn.Ins.val,z0,z1,z2,z3,z4]) rfl ⟨by rw[HIT.out],a2o HB3.out _ _ _ _ _⟩
   ·replace HIT:=a0a (HIT.out.trans (if_neg he))
    go_wp2_with fail;refine bodyPost_ret (v:=.tuple #[(Pn.Ins.mk 0 0 0 0 0).val,.int .i64 0]) (by simp[results,results173,go_sem,Pn.Ins.val,z0,z1,z2,z3,z4]) rfl ⟨by rw[HIT.out],a2o HB3.out _ _ _ _ _⟩
theorem c5G:(prog.info? 244).map (fun i=>(i.zero,i.size,i.bytes))=some (some (.agg #[.int .i64 0,.int .i64 0,.int .i64 0,.int .i64 0,.int .i64 0,.int .i64 0]),6,48):=by kernel_rfl
def itC (x:IT):List Value:=[.int .i64 x.1,.int .i64 x.2.op,.int .i64 x.2.rd,.int .i64 x.2.rs1,.int .i64 x.2.rs2,.int .i64 x.2.imm]
def c87 (xs:List IT) (w:World) (e:Ending) (w':World):Prop:=
 ∃ao n cp,e=.returned (.slice ao n cp)/\w'.ownsRow w.heap.size 244 6 (.slice ao n cp) xs.length (xs.flatMap itC)/\Below w.heap.size w w'
def c8T (l:List UInt8) (w:World) (lv av:Value) (wr:World):Prop:=
 ∃(k m:Nat) (xs:List IT),k<=l.length/\xs.length<=k/\av=.int .i64 k/\Hid (wr.ownsRow w.heap.size 244 6 lv xs.length (xs.flatMap itC))/\Below w.heap.size w wr/\l.length-k<=m/\Hid (a9s l l.length 0=xs++a9s l m k)
theorem c0u (s:ByteArray) (w:World) (hs:s.size<=2000000):
    Calls prog 175 #[.string s] w fun e w'=>c87 (a9s s.data.toList s.size 0) w e w':=by
 obtain ⟨i0,hi,hz0,hz1,hz2⟩:=info_parts c5G;have hsz:s.data.toList.length=s.size:=(Lib.size_eq s).symm;have HIt:=a0a (fun (k:Nat) (hk:k<=s.size) (w':World)=>b9z s k w' hs hk)
 have HR:Hid (a9s s.data.toList s.size 0=a9s s.data.toList s.data.toList.length 0):=a0a (by rw[hsz])
 generalize a9s s.data.toList s.size 0=R at *;go_enter func175,ntmps175;go_wp2_with fail;go_loopw [3,4] (fun lv av wr=>c8T s.data.toList w lv av wr) (fun _ av _=>s.size-(intOf av).toNat)
 case atStart=>exact ⟨0,s.data.toList.length,[],by omega,by simp,rfl,a0a (World.ownsRow_nil _ _ _ _),Below.refl _ _,by omega,a0a rfl⟩
 case round=>
  obtain ⟨k,m,xs,hk,hxk,rfl,HO,hB,hm,HQ⟩:=hrel;have hzr:w.heap.size<=wr.heap.size:=hB.size;have HB:=a0a hB;clear hB;rw[hsz]at hk hm;by_cases hlt:k<s.size
  ·obtain ⟨m',rfl⟩:∃m',m=m'+1:=⟨m-1,by omega⟩
   (have HF:Hid (a9s s.data.toList (m'+1) k=if (Pn.itR s.data.toList k).2=0 then [] else (k,(Pn.itR s.data.toList k).1)::a9s s.data.toList m' (k+(Pn.itR s.data.toList k).2.toNat)):=a0a (by rw[a9s,if_pos (by omega)]));have hn:=b8B s.data.toList k;rw[hsz]at hn;(have hlt2:(k:Int)<s.size:=by omega);(have HI:=a0a (fun w'=>HIt.out k (by omega) w'));generalize Pn.itR s.data.toList k=IR at *;obtain ⟨⟨io,id,i1,i2,im⟩,nn⟩:=IR;unfold Pn.Ins.val at HI;simp only at *;go_wp2_with fail;refine (HI.out _).mono ?_;rintro e w1 ⟨rfl,hB1⟩;have HO1:=a0a (a1H HO.out hB1);have HB1:Hid (Below w.heap.size w w1):=a0a (HB.out.trans (hB1.mono hzr));have hz1':w.heap.size<=w1.heap.size:=HB1.out.size;clear hB1 HO HB;by_cases hn0:nn=0
   ·subst hn0
    (have HE:R=xs:=by rw[HR.out,HQ.out,HF.out,if_pos rfl,List.append_nil]);subst HE;obtain ⟨ao,cp,rfl⟩:=a10 HO1.out;go_wp2_with fail;go_ret;exact ⟨_,_,_,rfl,a57 (HO1.out.alloc _) (Nat.le_refl _),HB1.out.alloc hz1' _⟩
   ·have hnb:(nn==0)=false:=by simpa using hn0
    obtain ⟨ao,cp,rfl⟩:=a10 HO1.out;(go_wp2_with (at_builtin;refine wpList_append_own _ rfl _ _ 241 rfl w.heap.size 244 i0 _ 6 48 underlying241 hi hz0 hz1 hz2 rfl (by decide) _ _ _ rfl ((HO1.out.alloc _).alloc _) ⟨w1.heap.size+1,0,none⟩ 1 1 (itC ((k,(⟨io,id,i1,i2,im⟩:Pn.Ins)):Nat×Pn.Ins)) rfl rfl ?c1 ?c2 ?c3 ?c4 ?c5 ?_));(case c1=>have:=a2D (w1.alloc (.cells #[.int .i64 io,.int .i64 id,.int .i64 i1,.int .i64 i2,.int .i64 im] 26)) (itC ((k,(⟨io,id,i1,i2,im⟩:Pn.Ins)):Nat×Pn.Ins)) 244;rw[World.size_alloc]at this;exact this);(case c2=>intro u hu;simp[itC]at hu;rcases hu with rfl|rfl|rfl|rfl|rfl|rfl<;>rfl);(case c3=>unfold maxLen;omega);(case c4=>omega);(case c5=>simp;omega);intro v' w5 hown' hgrow _;(have HO5:Hid (w5.ownsRow w.heap.size 244 6 v' (xs++[((k,(⟨io,id,i1,i2,im⟩:Pn.Ins)):Nat×Pn.Ins)]).length ((xs++[((k,(⟨io,id,i1,i2,im⟩:Pn.Ins)):Nat×Pn.Ins)]).flatMap itC)):=a0a (by simpa using hown'));(have HB5:Hid (Below w.heap.size w w5):=a0a (((HB1.out.alloc hz1' _).alloc (by simp;omega) _).grown hgrow (by simp;omega) (fun j hj=>by have:=(HO1.out.lt j hj).1;omega)));(have hnn:0<=nn/\nn<=4/\(k:Int)+nn<=s.size/\2<=nn:=by omega);(have HQ5:Hid (a9s s.data.toList s.data.toList.length 0=(xs++[((k,(⟨io,id,i1,i2,im⟩:Pn.Ins)):Nat×Pn.Ins)])++a9s s.data.toList m' (k+nn.toNat)):=a0a (by rw[HQ.out,HF.out,if_neg hn0];simp));clear hown' hgrow HO1 hn;go_wp2_with fail;go_roundw;(case rel=>exact ⟨k+nn.toNat,m',xs++[((k,(⟨io,id,i1,i2,im⟩:Pn.Ins)):Nat×Pn.Ins)],by rw[hsz];omega,by simp;omega,by congr 1;omega,HO5,HB5.out,by rw[hsz];omega,HQ5⟩);case measure=>simp[intOf];omega
  ·have hke:k=s.size:=by omega
   subst hke
   have HE:R=xs:=by
    rw[HR.out,HQ.out]
    cases m with
    | zero=>rw[a9s,List.append_nil]
    | succ m=>rw[a9s,if_neg (by omega),List.append_nil]
   subst HE;obtain ⟨ao,cp,rfl⟩:=a10 HO.out;go_wp2_with fail;go_ret;exact ⟨_,_,_,rfl,HO.out,HB.out⟩
