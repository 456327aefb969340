import Derived.Laws.EntriesVeiled
import Derived.Test.YtbmcofdodfcnnaaGreatDoorGFA
import Derived.Test.YtbmcofdodfcnnaaGreatDoorGV6
set_option linter.all false
set_option maxHeartbeats 400000000
set_option maxRecDepth 100000
namespace Pn
def b92 (a b:Ins):Bool:=a.op==b.op&&(a.rd==b.rd&&(a.rs1==b.rs1&&(a.rs2==b.rs2&&a.imm==b.imm)))
def b2D (i:Ins) (k:Nat):Bool:=(fm k).op==i.op&&((a2n (fm k) (a2J (fm k) i)).2&&b92 (a2n (fm k) (a2J (fm k) i)).1 i)
def a0q (i:Ins):Int×Int:=if right i then (match (List.range 32).find? (b2D i) with|some k=>(a2J (fm k) i,0)|none=>(0,2)) else (0,1)
theorem b2X:∀k,k<32->Fok (fm k):=by
 have h1:∀k,k<32->∀x∈(fm k).half,x.toNat<128:=by decide
 have h2:∀k,k<32->(fm k).half.length<=16:=by decide
 have h3:∀k,k<32->(places (fm k).half 105).length=(fm k).order.length:=by decide
 have h4:∀k,k<32->∀j,j<(fm k).order.length->0<=imB (fm k).order j/\imB (fm k).order j<=11:=by decide
 exact fun k hk=>⟨h1 k hk,h2 k hk,h3 k hk,h4 k hk⟩
theorem b69 {i:Ins} {k:Nat} (hr:right i=true) (hk:k<32) (hno:∀j,j<k->b2D i j=false) (h:b2D i k=true):a0q i=(a2J (fm k) i,0):=by
 unfold a0q;rw[if_pos hr,a2u _ 32 k hk hno h]
theorem c1e {i:Ins} (hr:right i=true) (hno:∀j,j<32->b2D i j=false):a0q i=(0,2):=by
 unfold a0q;rw[if_pos hr,a1I _ 32 hno]
end Pn
namespace Go.Proofs.YtbmcofdodfcnnaaGreatDoor
open Pn
open Go.Proofs.Tryz
open Go.RowKit
def b49 (i:Pn.Ins):List Value:=[.int .i64 i.op,.int .i64 i.rd,.int .i64 i.rs1,.int .i64 i.rs2,.int .i64 i.imm]
theorem b7H:∀k,k<32->c09.extract (k*8) (k*8+8)=(c5f k).toArray
 | 0,_=>by kernel_rfl
 | 1,_=>by kernel_rfl
 | 2,_=>by kernel_rfl
 | 3,_=>by kernel_rfl
 | 4,_=>by kernel_rfl
 | 5,_=>by kernel_rfl
 | 6,_=>by kernel_rfl
 | 7,_=>by kernel_rfl
 | 8,_=>by kernel_rfl
 | 9,_=>by kernel_rfl
 | 10,_=>by kernel_rfl
 | 11,_=>by kernel_rfl
 | 12,_=>by kernel_rfl
 | 13,_=>by kernel_rfl
 | 14,_=>by kernel_rfl
 | 15,_=>by kernel_rfl
 | 16,_=>by kernel_rfl
 | 17,_=>by kernel_rfl
 | 18,_=>by kernel_rfl
 | 19,_=>by kernel_rfl
 | 20,_=>by kernel_rfl
 | 21,_=>by kernel_rfl
 | 22,_=>by kernel_rfl
 | 23,_=>by kernel_rfl
 | 24,_=>by kernel_rfl
 | 25,_=>by kernel_rfl
 | 26,_=>by kernel_rfl
 | 27,_=>by kernel_rfl
 | 28,_=>by kernel_rfl
 | 29,_=>by kernel_rfl
 | 30,_=>by kernel_rfl
 | 31,_=>by kernel_rfl
 | k+32,h=>absurd h (by omega)
theorem a9v (k:Nat) (w:World) (hk:k<32):
    (Instr.index 115 (.agg c09) (.int .i64 (k:Int))).run prog w=.ok (.agg (c5f k).toArray) w:=by
 have hu:prog.underlying 115=some (.array 32 114):=by kernel_rfl
 have hx:=b7H k hk;simp[Instr.index,asIntOf,underlying,hu,part,hx,go_sem];intro h;omega
def a6g:Prop:=∀k,k<32->∀n w,Calls prog 66 #[.agg (c5f k).toArray,.int .i64 n] w fun e w'=>e=.returned (.tuple #[(a2n (Pn.fm k) n).1.val,.bool (a2n (Pn.fm k) n).2])/\Below w.heap.size w w'
theorem a84 (i:Pn.Ins) (w:World) (hr:Pn.right i=false):
    Calls prog 37 #[i.val] w fun e w'=>e=.returned (.tuple #[.int .i64 (a0q i).1,.int .i64 (a0q i).2])/\Below w.heap.size w w':=by
 have HS:Hid (a0q i=(0,1)):=hid (by unfold a0q;rw[hr];rfl)
 have HR:=hid (fun w'=>a15 i w')
 rw[a2C hr]at HR;obtain ⟨iop,ird,irs1,irs2,iimm⟩:=i;unfold Pn.Ins.val at *;go_enter func37,ntmps37;go_wp2_with fail;refine (HR.out _).mono ?_;rintro e w1 ⟨rfl,hB1⟩;have HB1:Hid (Below w.heap.size w w1):=hid (((Below.refl _ _).alloc (Nat.le_refl _) _).trans (hB1.mono (by simp)))
 clear hB1 HR;unfold a0U a1P;go_wp2_with fail;refine bodyPost_ret (v:=.tuple #[.int .i64 0,.int .i64 1]) (by simp[results,results37,go_sem]) rfl ⟨by rw[HS.out],?_⟩
 exact HB1.out.alloc HB1.out.size _
theorem b2N (i:Pn.Ins) (w:World) (hr:Pn.right i=true) (hrd:a6g):
    Calls prog 37 #[i.val] w fun e w'=>e=.returned (.tuple #[.int .i64 (a0q i).1,.int .i64 (a0q i).2])/\Below w.heap.size w w':=by
 have HRD:=hid hrd;have HHit:=hid (fun k=>b69 (i:=i) (k:=k) hr)
 have HNo:=hid (c1e hr);have HR:=hid (fun w'=>a15 i w')
 have hrv:a64 i=.tuple #[a3y (i.op-1).toNat,.bool true]:=by unfold a64;rw[if_pos hr]
 rw[hrv]at HR;have HIC:Hid (CellsAt w.heap.size (b49 i) (w.alloc (.cells (b49 i).toArray 26))):=hid (CellsAt.new w (b49 i) 26);have HWr:=hid (fun k hk w'=>b68 (Pn.fm k) i w' (b2X k hk))
 have HSH:Hid (∀k,b2D i k=((Pn.fm k).op==i.op&&((a2n (Pn.fm k) (a2J (Pn.fm k) i)).2&&b92 (a2n (Pn.fm k) (a2J (Pn.fm k) i)).1 i))):=hid (fun k=>rfl)
 clear hr hrd hrv;generalize a0q i=X at *;obtain ⟨iop,ird,irs1,irs2,iimm⟩:=i;unfold Pn.Ins.val b49 at *;simp only at *;have hrow:∃a b c d e f,a3y (iop-1).toNat=.agg #[.int .i64 a,.string b,.int .i64 c,.int .i64 d,.int .i64 e,.int .i64 f]:=⟨_,_,_,_,_,_,rfl⟩;obtain ⟨ra,rb,rc,rdd,re,rf,hrow⟩:=hrow;rw[hrow]at HR;clear hrow;go_enter func37,ntmps37;go_wp2_with fail;refine (HR.out _).mono ?_;rintro e w1 ⟨rfl,hB1⟩;have HC1:=hid ((HIC.out.next hB1).alloc (.cells #[.int .i64 ra,.string rb,.int .i64 rc,.int .i64 rdd,.int .i64 re,.int .i64 rf] 100));have HB1:Hid (Below w.heap.size w (w1.alloc (.cells #[.int .i64 ra,.string rb,.int .i64 rc,.int .i64 rdd,.int .i64 re,.int .i64 rf] 100))):=hid (((((Below.refl _ _).alloc (Nat.le_refl _) _).trans (hB1.mono (by simp)))).alloc (by have:=hB1.size;simp at this;omega) _)
 clear hB1 HR HIC;go_wp2_with fail;generalize w1.alloc _=W1 at HC1 HB1 ⊢;refine (b4I _).mono ?_;rintro e w2 ⟨rfl,rfl⟩;have HC2:=hid (HC1.out.alloc (.cells c09 115));have HB2:=hid (HB1.out.alloc HB1.out.size (.cells c09 115));have HIX:=hid a9v;clear HC1 HB1;generalize W1.alloc _=W2 at HC2 HB2 ⊢;generalize c09=FT at HIX ⊢;go_wp2_with fail;go_loopw [19] (fun x wr=>∃k:Nat,k<=32/\x=.int .i64 k/\Hid (∀j,j<k->b2D ⟨iop,ird,irs1,irs2,iimm⟩ j=false)/\CellsAt w.heap.size [.int .i64 iop,.int .i64 ird,.int .i64 irs1,.int .i64 irs2,.int .i64 iimm] wr/\Below w.heap.size w wr) (fun x _=>32-(intOf x).toNat)
 case atStart=>exact ⟨0,by omega,rfl,hid (fun _ h=>by omega),HC2.out,HB2.out⟩
 case round=>
  obtain ⟨k,hk,rfl,hno,hC,hB⟩:=hrel;by_cases hlt:k<32
  ·have hlt2:(k:Int)<32:=by omega
   have HC:=hid hC;have HB:=hid hB;have i0:=hC.2.2 0 _ rfl;have i1:=hC.2.2 1 _ rfl;have i2:=hC.2.2 2 _ rfl;have i3:=hC.2.2 3 _ rfl;have i4:=hC.2.2 4 _ rfl;have hwl:=hC.1;(have hix:=fun w'=>HIX.out k w' hlt);(have HWk:=hid (fun w'=>HWr.out k hlt w'));(have HRk:=hid (fun w'=>HRD.out k hlt (a2J (Pn.fm k) ⟨iop,ird,irs1,irs2,iimm⟩) w'));have HSk:=hid (HSH.out k);have HHk:=hid (HHit.out k hlt hno.out);(have HNk:=hid (fun h=>b0A hno.out h));clear hC hB;generalize b2D ⟨iop,ird,irs1,irs2,iimm⟩ k=hit at HSk HHk HNk;unfold c5f at hix HRk;generalize a2J (Pn.fm k) ⟨iop,ird,irs1,irs2,iimm⟩=H at HWk HRk HSk HHk;generalize a2n (Pn.fm k) H=R at HRk HSk;generalize Pn.fm k=f at HWk HRk HSk hix;obtain ⟨⟨rop,rrd,rrs1,rrs2,rimm⟩,rok⟩:=R;unfold a0T at *;have HCf:Hid (CellsAt wr.heap.size [.string ⟨f.half.toArray⟩,.string ⟨f.order.toArray⟩,.bool f.signed,.int .i64 f.op,.int .i64 f.rd,.int .i64 f.rs1,.int .i64 f.rs2,.func (.func (a2s f.hold)) #[] #[]] (wr.alloc (.cells #[.string ⟨f.half.toArray⟩,.string ⟨f.order.toArray⟩,.bool f.signed,.int .i64 f.op,.int .i64 f.rd,.int .i64 f.rs1,.int .i64 f.rs2,.func (.func (a2s f.hold)) #[] #[]] 114))):=hid (CellsAt.new wr _ 114);have HCi:=hid (HC.out.alloc (.cells #[.string ⟨f.half.toArray⟩,.string ⟨f.order.toArray⟩,.bool f.signed,.int .i64 f.op,.int .i64 f.rd,.int .i64 f.rs1,.int .i64 f.rs2,.func (.func (a2s f.hold)) #[] #[]] 114));have HBi:=hid (HB.out.alloc HB.out.size (.cells #[.string ⟨f.half.toArray⟩,.string ⟨f.order.toArray⟩,.bool f.signed,.int .i64 f.op,.int .i64 f.rd,.int .i64 f.rs1,.int .i64 f.rs2,.func (.func (a2s f.hold)) #[] #[]] 114));by_cases hop:f.op=iop
   ·subst hop
    go_wp2_with fail;refine (HWk.out _).mono ?_;rintro e w3 ⟨rfl,hB3⟩;have HC3:=hid (HCf.out.next hB3);have HI3:=hid (HCi.out.next hB3);have HB3:=hid (HBi.out.trans (hB3.mono HBi.out.size));clear hB3 HCf HCi HBi HWk;have c0:=HC3.out.2.2 0 _ rfl;have c1:=HC3.out.2.2 1 _ rfl;have c2:=HC3.out.2.2 2 _ rfl;have c3:=HC3.out.2.2 3 _ rfl;have c4:=HC3.out.2.2 4 _ rfl;have c5:=HC3.out.2.2 5 _ rfl;have c6:=HC3.out.2.2 6 _ rfl;have c7:=HC3.out.2.2 7 _ rfl;have hwl3:=HI3.out.1;go_wp2_with fail;refine (HRk.out _).mono ?_;rintro e w4 ⟨rfl,hB4⟩;have HI4:=hid (HI3.out.next hB4);have HB4:=hid (HB3.out.trans (hB4.mono HB3.out.size));clear hB4 HC3 HI3 HB3 HRk c0 c1 c2 c3 c4 c5 c6 c7 hwl3;unfold Pn.Ins.val;simp only at *;have j0:=HI4.out.2.2 0 _ rfl;have j1:=HI4.out.2.2 1 _ rfl;have j2:=HI4.out.2.2 2 _ rfl;have j3:=HI4.out.2.2 3 _ rfl;have j4:=HI4.out.2.2 4 _ rfl;have hwl4:=HI4.out.1;(have HI5:=hid (fun o=>HI4.out.alloc o));(have HB5:=hid (fun o=>HB4.out.alloc HB4.out.size o));clear HI4 HB4
    cases rok with
    | false=>
     have hh:hit=false:=by
      rw[HSk.out];simp
     go_wp2_with fail;go_roundw;(case rel=>exact ⟨k+1,by omega,by go_num,hid (HNk.out hh),HI5.out _,HB5.out _⟩);case measure=>simp[intOf];omega
    | true=>
     by_cases heq:rop=f.op/\rrd=ird/\rrs1=irs1/\rrs2=irs2/\rimm=iimm
     ·obtain ⟨rfl,rfl,rfl,rfl,rfl⟩:=heq
      have hh:hit=true:=by
       rw[HSk.out];simp[b92]
      have HX:=hid (HHk.out hh);go_wp2_with fail;refine bodyPost_ret (v:=.tuple #[.int .i64 H,.int .i64 0]) (by simp[results,results37,go_sem]) rfl ⟨by rw[HX.out],HB5.out _⟩
     ·have hh:hit=false:=by
       rw[HSk.out]
       have:b92 ⟨rop,rrd,rrs1,rrs2,rimm⟩ ⟨f.op,ird,irs1,irs2,iimm⟩=false:=by
        rw[Bool.eq_false_iff];intro h;simp[b92]at h;exact heq h
       simp only[this,Bool.and_false]
      go_wp2_with fail
      all_goals first
       | (exfalso;exact heq ⟨by assumption,by assumption,by assumption,by assumption,by assumption⟩)
       | (go_roundw
          (case rel=>exact ⟨k+1,by omega,by go_num,hid (HNk.out hh),HI5.out _,HB5.out _⟩);case measure=>simp[intOf];omega)
   ·have hop':¬iop=f.op:=fun e=>hop e.symm
    have hh:hit=false:=by
     rw[HSk.out];(have:(f.op==iop)=false:=by simpa using hop);simp only[this,Bool.false_and]
    go_wp2_with fail;go_roundw;(case rel=>exact ⟨k+1,by omega,by go_num,hid (HNk.out hh),HCi.out,HBi.out⟩);case measure=>simp[intOf];omega
  ·have hk32:k=32:=by omega
   subst hk32;have HX:=hid (HNo.out hno.out);go_wp2_with fail;refine bodyPost_ret (v:=.tuple #[.int .i64 0,.int .i64 2]) (by simp[results,results37,go_sem]) rfl ⟨by rw[HX.out],hB⟩
theorem a6k (i:Pn.Ins) (w:World) (hrd:a6g):
    Calls prog 37 #[i.val] w fun e w'=>e=.returned (.tuple #[.int .i64 (a0q i).1,.int .i64 (a0q i).2])/\Below w.heap.size w w':=by
 by_cases h:Pn.right i=true
 ·exact b2N i w h hrd
 ·exact a84 i w (by simpa using h)
end Go.Proofs.YtbmcofdodfcnnaaGreatDoor
namespace Pn
def a9g (n:Int) (k:Nat):Bool:=(a2n (fm k) n).2
def a4q (n:Int):Ins×Int:=if n<0\/65535<n then (⟨0,0,0,0,0⟩,1) else (match (List.range 32).find? (a9g n) with|some k=>((a2n (fm k) n).1,0)|none=>(⟨0,0,0,0,0⟩,1))
theorem b7N {n:Int} {k:Nat} (hn:¬(n<0\/65535<n)) (hk:k<32) (hno:∀j,j<k->a9g n j=false) (h:a9g n k=true):a4q n=((a2n (fm k) n).1,0):=by
 unfold a4q;rw[if_neg hn,a2u _ 32 k hk hno h]
theorem c7W {n:Int} (hn:¬(n<0\/65535<n)) (hno:∀j,j<32->a9g n j=false):a4q n=(⟨0,0,0,0,0⟩,1):=by
 unfold a4q;rw[if_neg hn,a1I _ 32 hno]
end Pn
namespace Go.Proofs.YtbmcofdodfcnnaaGreatDoor
open Pn
open Go.Proofs.Tryz
open Go.RowKit
def z5:List Value:=[.int .i64 0,.int .i64 0,.int .i64 0,.int .i64 0,.int .i64 0]
theorem b50 (n:Int) (w:World) (hn:n<0\/65535<n):
    Calls prog 40 #[.int .i64 n] w fun e w'=>e=.returned (.tuple #[(a4q n).1.val,.int .i64 (a4q n).2])/\Below w.heap.size w w':=by
 have HX:Hid (a4q n=(⟨0,0,0,0,0⟩,1)):=hid (by unfold a4q;rw[if_pos hn])
 have HB:Hid (Below w.heap.size w (w.alloc (.cells z5.toArray 26))):=hid ((Below.refl _ _).alloc (Nat.le_refl _) _);unfold z5 at HB;rcases hn with hn|hn
 ·go_enter func40,ntmps40
  go_wp2_with fail;refine bodyPost_ret (v:=.tuple #[(Pn.Ins.mk 0 0 0 0 0).val,.int .i64 1]) (by simp[results,results40,go_sem,Pn.Ins.val]) rfl ⟨by rw[HX.out],?_⟩
  exact HB.out
 ·have h0:¬n<0:=by omega
  go_enter func40,ntmps40;go_wp2_with fail;refine bodyPost_ret (v:=.tuple #[(Pn.Ins.mk 0 0 0 0 0).val,.int .i64 1]) (by simp[results,results40,go_sem,Pn.Ins.val]) rfl ⟨by rw[HX.out],?_⟩
  exact HB.out
theorem b6F (n:Int) (w:World) (hn:¬(n<0\/65535<n)) (hrd:a6g):
    Calls prog 40 #[.int .i64 n] w fun e w'=>e=.returned (.tuple #[(a4q n).1.val,.int .i64 (a4q n).2])/\Below w.heap.size w w':=by
 have HRD:=hid hrd;have HHit:=hid (fun k=>b7N (n:=n) (k:=k) hn)
 have HNo:=hid (c7W hn);have HSH:Hid (∀k,a9g n k=(a2n (Pn.fm k) n).2):=hid (fun k=>rfl)
 have h0:¬n<0:=fun h=>hn (.inl h)
 have h1:¬65535<n:=fun h=>hn (.inr h)
 have HIC:Hid (CellsAt w.heap.size z5 (w.alloc (.cells z5.toArray 26))):=hid (CellsAt.new w z5 26);have HB0:Hid (Below w.heap.size w (w.alloc (.cells z5.toArray 26))):=hid ((Below.refl _ _).alloc (Nat.le_refl _) _);unfold z5 at HIC HB0;clear hn hrd;generalize a4q n=X at *;go_enter func40,ntmps40;go_wp2_with fail;generalize w.alloc _=W1 at *;refine (b4I _).mono ?_;rintro e w2 ⟨rfl,rfl⟩;have HC2:=hid (HIC.out.alloc (.cells c09 115));have HB2:=hid (HB0.out.alloc HB0.out.size (.cells c09 115));have HIX:=hid a9v;clear HIC HB0;generalize W1.alloc _=W2 at HC2 HB2 ⊢;generalize c09=FT at HIX ⊢;go_wp2_with fail;go_loopw [16] (fun x wr=>∃k:Nat,k<=32/\x=.int .i64 k/\Hid (∀j,j<k->a9g n j=false)/\CellsAt w.heap.size [.int .i64 0,.int .i64 0,.int .i64 0,.int .i64 0,.int .i64 0] wr/\Below w.heap.size w wr) (fun x _=>32-(intOf x).toNat)
 case atStart=>exact ⟨0,by omega,rfl,hid (fun _ h=>by omega),HC2.out,HB2.out⟩
 case round=>
  obtain ⟨k,hk,rfl,hno,hC,hB⟩:=hrel;by_cases hlt:k<32
  ·have hlt2:(k:Int)<32:=by omega
   have HC:=hid hC;have HB:=hid hB;have hwl:=hC.1;(have hix:=fun w'=>HIX.out k w' hlt);(have HRk:=hid (fun w'=>HRD.out k hlt n w'));have HSk:=hid (HSH.out k);have HHk:=hid (HHit.out k hlt hno.out);(have HNk:=hid (fun h=>b0A hno.out h));clear hC hB;generalize a9g n k=hit at HSk HHk HNk;unfold c5f at hix HRk;generalize a2n (Pn.fm k) n=R at HRk HSk HHk;generalize Pn.fm k=f at HRk hix;obtain ⟨⟨rop,rrd,rrs1,rrs2,rimm⟩,rok⟩:=R;unfold a0T at *;have HCi:=hid (HC.out.alloc (.cells #[.string ⟨f.half.toArray⟩,.string ⟨f.order.toArray⟩,.bool f.signed,.int .i64 f.op,.int .i64 f.rd,.int .i64 f.rs1,.int .i64 f.rs2,.func (.func (a2s f.hold)) #[] #[]] 114));have HBi:=hid (HB.out.alloc HB.out.size (.cells #[.string ⟨f.half.toArray⟩,.string ⟨f.order.toArray⟩,.bool f.signed,.int .i64 f.op,.int .i64 f.rd,.int .i64 f.rs1,.int .i64 f.rs2,.func (.func (a2s f.hold)) #[] #[]] 114));clear HC HB;go_wp2_with fail;refine (HRk.out _).mono ?_;rintro e w4 ⟨rfl,hB4⟩;have HI4:=hid (HCi.out.next hB4);have HB4:=hid (HBi.out.trans (hB4.mono HBi.out.size));clear hB4 HCi HBi HRk;unfold Pn.Ins.val;simp only at *;have hwl4:=HI4.out.1;have HI5:=hid (HI4.out.alloc (.cells #[.int .i64 rop,.int .i64 rrd,.int .i64 rrs1,.int .i64 rrs2,.int .i64 rimm] 26));have HB5:=hid (HB4.out.alloc HB4.out.size (.cells #[.int .i64 rop,.int .i64 rrd,.int .i64 rrs1,.int .i64 rrs2,.int .i64 rimm] 26))
   cases rok with
   | false=>
    (have hh:hit=false:=by rw[HSk.out]);go_wp2_with fail;go_roundw;(case rel=>exact ⟨k+1,by omega,by go_num,hid (HNk.out hh),HI5.out,HB5.out⟩);case measure=>simp[intOf];omega
   | true=>
    (have hh:hit=true:=by rw[HSk.out]);have HX:=hid (HHk.out hh);have y0:=HI4.out.2.2 0 _ rfl;have y1:=HI4.out.2.2 1 _ rfl;have y2:=HI4.out.2.2 2 _ rfl;have y3:=HI4.out.2.2 3 _ rfl;have y4:=HI4.out.2.2 4 _ rfl;have yf:=HI4.out.2.1;go_wp2_with fail;have HB6:=hid ((((((HB4.out.setCell (p:=⟨w.heap.size,0,none⟩) (Nat.le_refl _) (.int .i64 rop)).setCell (p:=⟨w.heap.size,1,none⟩) (Nat.le_refl _) (.int .i64 rrd)).setCell (p:=⟨w.heap.size,2,none⟩) (Nat.le_refl _) (.int .i64 rrs1)).setCell (p:=⟨w.heap.size,3,none⟩) (Nat.le_refl _) (.int .i64 rrs2)).setCell (p:=⟨w.heap.size,4,none⟩) (Nat.le_refl _) (.int .i64 rimm)));(have hC6:=((((HI4.out.set 0 (.int .i64 rop) (by simp)).set 1 (.int .i64 rrd) (by simp)).set 2 (.int .i64 rrs1) (by simp)).set 3 (.int .i64 rrs2) (by simp)).set 4 (.int .i64 rimm) (by simp));have hC7:=fun o=>hC6.alloc o
    refine bodyPost_ret (v:=.tuple #[(Pn.Ins.mk rop rrd rrs1 rrs2 rimm).val,.int .i64 0]) (by
     (have x0:=fun o=>(hC7 o).2.2 0 (.int .i64 rop) rfl);(have x1:=fun o=>(hC7 o).2.2 1 (.int .i64 rrd) rfl);(have x2:=fun o=>(hC7 o).2.2 2 (.int .i64 rrs1) rfl);(have x3:=fun o=>(hC7 o).2.2 3 (.int .i64 rrs2) rfl);(have x4:=fun o=>(hC7 o).2.2 4 (.int .i64 rimm) rfl);simp[results,results40,go_sem,x0,x1,x2,x3,x4,Pn.Ins.val]) rfl ⟨by rw[HX.out],?_⟩
    exact HB6.out.alloc HB6.out.size _
  ·have hk32:k=32:=by omega
   subst hk32;have HX:=hid (HNo.out hno.out);have HB:=hid hB;have y0:=hC.2.2 0 _ rfl;have y1:=hC.2.2 1 _ rfl;have y2:=hC.2.2 2 _ rfl;have y3:=hC.2.2 3 _ rfl;have y4:=hC.2.2 4 _ rfl;have yf:=hC.2.1;clear hC hB;go_wp2_with fail;(refine bodyPost_ret (v:=.tuple #[(Pn.Ins.mk 0 0 0 0 0).val,.int .i64 1]) (by simp[results,results40,go_sem,y0,y1,y2,y3,y4,Pn.Ins.val]) rfl ⟨by rw[HX.out],?_⟩);exact (((((HB.out.setCell (by simp) _).setCell (by simp) _).setCell (by simp) _).setCell (by simp) _).setCell (by simp) _)
