import Derived.Test.YtbmcofdodfcnnaaGreatDoorW9
import Derived.Test.YtbmcofdodfcnnaaGreatDoorW12
import Derived.Test.YtbmcofdodfcnnaaGreatDoorGW10
import Derived.Test.YtbmcofdodfcnnaaGreatDoorGQ
import Derived.Test.YtbmcofdodfcnnaaGreatDoorGVC
import Derived.Test.YtbmcofdodfcnnaaGreatDoorGPG
set_option linter.all false
set_option maxHeartbeats 400000000
set_option maxRecDepth 100000
namespace Go.Proofs.YtbmcofdodfcnnaaGreatDoor
open Pn
open Go.Proofs.Tryz
open Go.RowKit
theorem a78 {w:World} {base:Nat} {v:Value} {t:Pn.Tok} {l:List Pn.Tok} (h:w.ownsRow base 268 4 v (t::l).length ((t::l).flatMap a1a)):
    ∃g cap,v=.slice (some ⟨g,0,none⟩) (l.length+1) cap/\g<w.heap.size/\l.length+1<=cap/\∀k u,(t::l)[k]?=some u->
     w.cell? ⟨g,0+k*4,none⟩=some (.int .u8 u.kind)/\w.cell? ⟨g,0+k*4+1,none⟩=some (.string u.S)/\w.cell? ⟨g,0+k*4+2,none⟩=some (.int .i64 u.num)/\w.cell? ⟨g,0+k*4+3,none⟩=some (.bool u.blank):=by
 have hh:=h;obtain ⟨_,h1|⟨g,cap,cur,hv,hg,hb,hle,_⟩⟩:=h
 ·have:=h1.2;simp at this
 ·refine ⟨g,cap,by rw[hv];rfl,(hh.lt g (by rw[hv];rfl)).2,by simpa using hle,fun k u hu=>?_⟩
  have hk:k<(t::l).length:=by
   rcases Nat.lt_or_ge k (t::l).length with h|h
   ·exact h
   ·rw[List.getElem?_eq_none h]at hu;cases hu
  have hc:∀j,j<4->w.cell? ⟨g,0+k*4+j,none⟩=(a1a u)[j]?:=fun j hj=>by
   (have hf:=a1j a1a 4 (fun _=>rfl) (t::l) k j hj hk);rw[hu]at hf;(have hx:(a1a u)[j]?=some ((a1a u)[j]'(by simp[a1a];omega)):=List.getElem?_eq_getElem _);simp only[Option.bind_some]at hf;(have:=hh.cells (g:=g) (by rw[hv];rfl) (4*k+j) _ (hf.trans hx));rw[hx,<-this]
   have e:(⟨g,0,none⟩:Addr).add (4*k+j)=⟨g,0+k*4+j,none⟩:=by
    simp only[Addr.add];rw[Nat.mul_comm 4 k];simp;omega
   rw[e]
  exact ⟨hc 0 (by omega),hc 1 (by omega),hc 2 (by omega),hc 3 (by omega)⟩
theorem c4P (s:ByteArray) (w:World) (hs:s.size<=2000):
    Calls prog 95 #[.string s] w fun e w'=>e=.returned (.tuple #[(Pn.rd s).1.val,.int .i64 (Pn.rd s).2])/\Below w.heap.size w w':=by
 have hs2:(s.size:Int)<=2000:=by omega
 have hsn:¬2000<s.size:=by omega
 go_enter func95,ntmps95;go_wp2_with fail;refine (b1J s _ hs).mono ?_;rintro e w1 ⟨ho,hB1⟩;have zf:∀q,w1.frozen? ⟨w.heap.size,q,none⟩=false:=fun q=>(hB1.frozen (p:=⟨w.heap.size,q,none⟩) (by simp)).trans (by go_simp)
 have z0:w1.cell? ⟨w.heap.size,0,none⟩=some (.int .i64 0):=(hB1.cell (p:=⟨w.heap.size,0,none⟩) (by simp)).trans (by go_simp)
 have z1:w1.cell? ⟨w.heap.size,1,none⟩=some (.int .i64 0):=(hB1.cell (p:=⟨w.heap.size,1,none⟩) (by simp)).trans (by go_simp)
 have z2:w1.cell? ⟨w.heap.size,2,none⟩=some (.int .i64 0):=(hB1.cell (p:=⟨w.heap.size,2,none⟩) (by simp)).trans (by go_simp)
 have z3:w1.cell? ⟨w.heap.size,3,none⟩=some (.int .i64 0):=(hB1.cell (p:=⟨w.heap.size,3,none⟩) (by simp)).trans (by go_simp)
 have z4:w1.cell? ⟨w.heap.size,4,none⟩=some (.int .i64 0):=(hB1.cell (p:=⟨w.heap.size,4,none⟩) (by simp)).trans (by go_simp)
 have hz1:w.heap.size<w1.heap.size:=by have:=hB1.size;simp at this;omega
 have HB1:Hid (Below w.heap.size w w1):=((Below.refl _ _).alloc (Nat.le_refl _) _).trans (hB1.mono (by simp))
 clear hB1
 cases ht:a00 s.data.toList false with
 | none=>
  rw[ht]at ho;have HD:=a0a (b0s hsn ht);clear ht;simp only[a8G]at ho;subst ho;go_wp2_with fail;refine bodyPost_ret (v:=.tuple #[(Pn.Ins.mk 0 0 0 0 0).val,.int .i64 4]) (by simp[results,results95,go_sem,z0,z1,z2,z3,z4,Pn.Ins.val]) rfl ⟨by rw[HD.out],a2o HB1.out _ _ _ _ _⟩
 | some A=>
  rw[ht]at ho;simp only[a8G]at ho;obtain ⟨v,he,hown⟩:=ho;subst he
  cases A with
  | nil=>
   have HD:=a0a (b42 hsn ht);clear ht
   have hv:∃ao cap,v=.slice ao 0 cap:=by
    obtain ⟨_,h1|⟨g,cap,cur,hv,_⟩⟩:=hown
    ·exact ⟨none,0,h1.1⟩
    ·exact ⟨_,_,hv⟩
   clear hown;obtain ⟨ao,cap,hv⟩:=hv;subst hv;go_wp2_with fail;refine bodyPost_ret (v:=.tuple #[(Pn.Ins.mk 0 0 0 0 0).val,.int .i64 4]) (by simp[results,results95,go_sem,z0,z1,z2,z3,z4,Pn.Ins.val]) rfl ⟨by rw[HD.out],a2o HB1.out _ _ _ _ _⟩
  | cons t l=>
   have hlen:=b0E _ _ _ _ (Nat.le_refl _) ht;(have hl:l.length<=1999:=by simp at hlen;omega);have HTT:=a0a ht;clear hlen ht;obtain ⟨g,cap,hv,hg,hcap,hcc⟩:=a78 hown;clear hown;subst hv;(have hnz:(((l.length+1:Nat):Int)==0)=false:=by simp;omega);(have hnz2:(((l.length:Int)+1)==0)=false:=by simp;omega);have HCC:=a0a hcc;clear hcc;have cb:=a4z s 10 s.size;by_cases hc:0<Pn.cnt s 10 s.size
   ·have HD:=a0a (c6n hsn (a0b HTT) hc)
    go_wp2_with (go_at_call 163;refine (a7K s 10 _ hs).mono ?_;rintro e w' ⟨rfl,rfl⟩);refine bodyPost_ret (v:=.tuple #[(Pn.Ins.mk 0 0 0 0 0).val,.int .i64 4]) (by simp[results,results95,go_sem,z0,z1,z2,z3,z4,Pn.Ins.val]) rfl ⟨by rw[HD.out],a2o HB1.out _ _ _ _ _⟩
   ·go_wp2_with (go_at_call 163;refine (a7K s 10 _ hs).mono ?_;rintro e w' ⟨rfl,rfl⟩)
    refine (b4S t l g 0 cap _ hl hg hcap (a0b HCC)).mono ?_;rintro e w2 ⟨rfl,hB2⟩;have x0:=(hB2.cell (p:=⟨w.heap.size,0,none⟩) hz1).trans z0;have x1:=(hB2.cell (p:=⟨w.heap.size,1,none⟩) hz1).trans z1;have x2:=(hB2.cell (p:=⟨w.heap.size,2,none⟩) hz1).trans z2;have x3:=(hB2.cell (p:=⟨w.heap.size,3,none⟩) hz1).trans z3;have x4:=(hB2.cell (p:=⟨w.heap.size,4,none⟩) hz1).trans z4;(have xf:∀q,w2.frozen? ⟨w.heap.size,q,none⟩=false:=fun q=>(hB2.frozen (p:=⟨w.heap.size,q,none⟩) hz1).trans (zf q));(have hz2:w.heap.size<w2.heap.size:=by have:=hB2.size;omega);(have HB2:Hid (Below w.heap.size w w2):=HB1.out.trans (hB2.mono (by omega)));(have HOK:=a0a (fun hp=>c6J hsn (a0b HTT) (by omega) hp));(have HNO:=a0a (fun hp=>b8G hsn (a0b HTT) (by omega) hp));clear hB2 z0 z1 z2 z3 z4 zf;generalize Pn.plain t l false=R at *;obtain ⟨I,nm,er⟩:=R;obtain ⟨op,rd,rs1,rs2,imm⟩:=I;unfold a0L;simp only;by_cases he:(er != 0)=false
    ·have HD:=a0a (a0b HOK (by simpa using he))
     clear HOK HNO;go_wp2_with fail;(refine bodyPost_ret (v:=.tuple #[(Pn.Ins.mk op rd rs1 rs2 imm).val,.int .i64 0]) (by simp[results,results95,go_sem,x0,x1,x2,x3,x4,hz2,Pn.Ins.val]) rfl ⟨by rw[HD.out],?_⟩);exact (a2o HB2.out _ _ _ _ _).alloc (by simp[World.setCell];omega) _
    ·have he':(er != 0)=true:=by simpa using he
     (have HD:=a0a (a0b HNO (by simpa using he')));clear HOK HNO he;go_wp2_with fail;(refine bodyPost_ret (v:=.tuple #[(Pn.Ins.mk 0 0 0 0 0).val,.int .i64 er]) (by simp[results,results95,go_sem,x0,x1,x2,x3,x4,hz2,Pn.Ins.val]) rfl ⟨by rw[HD.out],?_⟩);exact (a2o HB2.out _ _ _ _ _).alloc (by simp[World.setCell];omega) _
theorem b6O (s:ByteArray) (w:World) (hs:2000<s.size):
    Calls prog 95 #[.string s] w fun e w'=>e=.returned (.tuple #[(Pn.Ins.mk 0 0 0 0 0).val,.int .i64 4])/\Below w.heap.size w w':=by
 have hs2:(2000:Int)<s.size:=by omega
 go_enter func95,ntmps95;go_wp2_with fail;exact bodyPost_ret (v:=.tuple #[(Pn.Ins.mk 0 0 0 0 0).val,.int .i64 4]) (by simp[results,results95,go_sem,Pn.Ins.val]) rfl ⟨rfl,(Below.refl _ _).alloc (Nat.le_refl _) _⟩
theorem c0v (s:ByteArray) (w:World):
    Calls prog 95 #[.string s] w fun e w'=>e=.returned (.tuple #[(Pn.rd s).1.val,.int .i64 (Pn.rd s).2])/\Below w.heap.size w w':=by
 by_cases h:2000<s.size
 ·rw[b6P h];exact b6O s w h
 ·exact c4P s w (by omega)
theorem a8H (n:Int) (w:World):Calls prog 92 #[.int .i64 n] w fun e w'=>e=.returned (.int .i64 n)/\w'=w:=by
 go_enter func92,ntmps92;go_wp2;go_ret;exact ⟨rfl,rfl⟩
def a0C (kd on a b op rd rs1 rs2 imm:Int) (s:ByteArray) (sh:Bool):List Value:=
 [.int .i64 kd,.int .i64 on,.int .i64 a,.int .i64 b,.int .i64 op,.int .i64 rd,.int .i64 rs1,.int .i64 rs2,.int .i64 imm,.string s,.bool sh]
theorem c3s (on a b op rd rs1 rs2 imm:Int) (s:ByteArray) (sh:Bool) (w:World):
    Calls prog 52 #[.agg (a0C 1 on a b op rd rs1 rs2 imm s sh).toArray] w fun e w'=>e=.returned (.bool true)/\Below w.heap.size w w':=by
 have HC:=a0a (CellsAt.new w (a0C 1 on a b op rd rs1 rs2 imm s sh) 74);unfold a0C;go_enter func52,ntmps52;go_wp2_with fail;refine (b3b ⟨op,rd,rs1,rs2,imm⟩ _).mono ?_;rintro e w1 ⟨rfl,hB1⟩;have HC1:=a0a (CellsAt.next HC.out hB1);have HB1:=a0a (((Below.refl w.heap.size w).alloc (Nat.le_refl _) _).trans (hB1.mono (by simp)))
 obtain ⟨hz,_,cc⟩:=HC1.out;have c4:=cc 4 _ rfl;have c5:=cc 5 _ rfl;have c6:=cc 6 _ rfl;have c7:=cc 7 _ rfl;have c8:=cc 8 _ rfl;clear cc hB1;go_wp2_with fail;refine (a6I ⟨op,rd,rs1,rs2,imm⟩ _).mono ?_;rintro e w2 ⟨rfl,hB2⟩;have HB2:=a0a (HB1.out.trans (hB2.mono HB1.out.size));clear hB2 c4 c5 c6 c7 c8;generalize Pn.enc ⟨op,rd,rs1,rs2,imm⟩=E;go_wp2_with (go_at_call 92;refine (a8H _ _).mono ?_;rintro e w' ⟨rfl,rfl⟩);go_ret;exact ⟨rfl,HB2.out⟩
theorem c4V (on a b op rd rs1 rs2 imm:Int) (s:ByteArray) (sh:Bool) (w:World):
    Calls prog 52 #[.agg (a0C 2 on a b op rd rs1 rs2 imm s sh).toArray] w fun e w'=>e=.returned (.bool true)/\Below w.heap.size w w':=by
 have HC:=a0a (CellsAt.new w (a0C 2 on a b op rd rs1 rs2 imm s sh) 74);unfold a0C;go_enter func52,ntmps52;go_wp2_with fail;refine (b2J a _).mono ?_;rintro e w1 ⟨rfl,hB1⟩;have HC1:=a0a (CellsAt.next HC.out hB1);have HB1:=a0a (((Below.refl w.heap.size w).alloc (Nat.le_refl _) _).trans (hB1.mono (by simp)))
 have c2:=HC1.out.2.2 2 _ rfl;have hz:=HC1.out.1;clear hB1;generalize hD:Pn.dec a=D;have HD:=a0a hD;clear hD;obtain ⟨⟨xo,xd,x1,x2,xi⟩,er⟩:=D;unfold Pn.Ins.val;simp only;go_wp2_with fail;refine (b6q a _).mono ?_;rintro e w2 ⟨rfl,hB2⟩;have HI:=a0a ((CellsAt.new w1 [.int .i64 xo,.int .i64 xd,.int .i64 x1,.int .i64 x2,.int .i64 xi] 26).next hB2);have HB2:=a0a ((HB1.out.alloc HB1.out.size (.cells #[.int .i64 xo,.int .i64 xd,.int .i64 x1,.int .i64 x2,.int .i64 xi] 26)).trans (hB2.mono (by have:=HB1.out.size;simp;omega)))
 rw[HD.out];unfold Pn.Ins.val;simp only;obtain ⟨hi,_,ic⟩:=HI.out;have i0:=ic 0 _ rfl;have i1:=ic 1 _ rfl;have i2:=ic 2 _ rfl;have i3:=ic 3 _ rfl;have i4:=ic 4 _ rfl;clear ic hB2 c2;go_wp2_with (go_at_call 92;refine (a8H _ _).mono ?_;rintro e w' ⟨rfl,rfl⟩);go_ret;exact ⟨rfl,HB2.out.alloc HB2.out.size _⟩
theorem c4p (on a b op rd rs1 rs2 imm:Int) (s:ByteArray) (sh:Bool) (w:World) (hE:Env w):
    Calls prog 52 #[.agg (a0C 3 on a b op rd rs1 rs2 imm s sh).toArray] w fun e w'=>e=.returned (.bool true)/\Below w.heap.size w w':=by
 have HC:=a0a (CellsAt.new w (a0C 3 on a b op rd rs1 rs2 imm s sh) 74);have HE:=a0a (fun o=>hE.alloc o)
 unfold a0C;go_enter func52,ntmps52;go_wp2_with fail;refine (b65 ⟨op,rd,rs1,rs2,imm⟩ _ (HE.out _)).mono ?_;rintro e w1 ⟨rfl,hB1⟩;have HC1:=a0a (CellsAt.next HC.out hB1);have HB1:=a0a (((Below.refl w.heap.size w).alloc (Nat.le_refl _) _).trans (hB1.mono (by simp)))
 have HE1:Hid (Env w1):=Env.below (HE.out _) hB1 (HE.out _).1;obtain ⟨hz,_,cc⟩:=HC1.out;have c4:=cc 4 _ rfl;have c5:=cc 5 _ rfl;have c6:=cc 6 _ rfl;have c7:=cc 7 _ rfl;have c8:=cc 8 _ rfl;clear cc hB1;go_wp2_with fail;refine (b4V ⟨op,rd,rs1,rs2,imm⟩ _ HE1.out).mono ?_;rintro e w2 ⟨rfl,hB2⟩;have HB2:=a0a (HB1.out.trans (hB2.mono HB1.out.size));clear hB2 c4 c5 c6 c7 c8;generalize Pn.shw ⟨op,rd,rs1,rs2,imm⟩=E;go_wp2_with (go_at_call 92;refine (a8H _ _).mono ?_;rintro e w' ⟨rfl,rfl⟩);go_ret;exact ⟨rfl,HB2.out⟩
theorem c3m (on a b op rd rs1 rs2 imm:Int) (s:ByteArray) (sh:Bool) (w:World) (hE:Env w):
    Calls prog 52 #[.agg (a0C 4 on a b op rd rs1 rs2 imm s sh).toArray] w fun e w'=>e=.returned (.bool true)/\Below w.heap.size w w':=by
 have HC:=a0a (CellsAt.new w (a0C 4 on a b op rd rs1 rs2 imm s sh) 74);have HE:=a0a (fun o=>hE.alloc o)
 unfold a0C;go_enter func52,ntmps52;go_wp2_with fail;refine (b8U s _ (HE.out _)).mono ?_;rintro e w1 ⟨rfl,hB1⟩;have HC1:=a0a (CellsAt.next HC.out hB1);have HB1:=a0a (((Below.refl w.heap.size w).alloc (Nat.le_refl _) _).trans (hB1.mono (by simp)))
 have c9:=HC1.out.2.2 9 _ rfl;have hz:=HC1.out.1;clear hB1;rw[c7S];generalize hD:Pn.rd s=D;have HD:=a0a hD;clear hD;obtain ⟨⟨xo,xd,x1,x2,xi⟩,er⟩:=D;unfold Pn.Ins.val;simp only;go_wp2_with fail;refine (c0v s _).mono ?_;rintro e w2 ⟨rfl,hB2⟩;have HI:=a0a ((CellsAt.new w1 [.int .i64 xo,.int .i64 xd,.int .i64 x1,.int .i64 x2,.int .i64 xi] 26).next hB2);have HB2:=a0a ((HB1.out.alloc HB1.out.size (.cells #[.int .i64 xo,.int .i64 xd,.int .i64 x1,.int .i64 x2,.int .i64 xi] 26)).trans (hB2.mono (by have:=HB1.out.size;simp;omega)))
 rw[HD.out];unfold Pn.Ins.val;simp only;obtain ⟨hi,_,ic⟩:=HI.out;have i0:=ic 0 _ rfl;have i1:=ic 1 _ rfl;have i2:=ic 2 _ rfl;have i3:=ic 3 _ rfl;have i4:=ic 4 _ rfl;clear ic hB2 c9;go_wp2_with (go_at_call 92;refine (a8H _ _).mono ?_;rintro e w' ⟨rfl,rfl⟩);go_ret;exact ⟨rfl,HB2.out.alloc HB2.out.size _⟩
