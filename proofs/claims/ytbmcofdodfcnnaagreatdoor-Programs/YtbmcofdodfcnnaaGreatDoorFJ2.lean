import Derived.Deep.RegionHeld3
import Derived.Test.YtbmcofdodfcnnaaGreatDoorGFA
set_option linter.all false
set_option maxHeartbeats 400000000
set_option maxRecDepth 100000
namespace Pn
structure c5b (f:Fm):Prop extends Fok f where
 r1:0<=f.rd/\f.rd<=200
 r2:0<=f.rs1/\f.rs1<=200
 r3:0<=f.rs2/\f.rs2<=200
 h8:f.hold<8
end Pn
namespace Go.Proofs.YtbmcofdodfcnnaaGreatDoor
open Pn
open Go.Proofs.Tryz
open Go.RowKit
def zIn:List Value:=[.int .i64 0,.int .i64 0,.int .i64 0,.int .i64 0,.int .i64 0]
structure RD (w0:World) (f:Pn.Fm) (w:World):Prop where
 f:CellsAt w0.heap.size (a0T f) w
 r:CellsAt (w0.heap.size+1) zIn w
 b:Below w0.heap.size w0 w
theorem RD.next {w0:World} {f:Pn.Fm} {w w':World} (h:RD w0 f w) (hB:Below w.heap.size w w'):RD w0 f w':=
 ⟨h.f.next hB,h.r.next hB,h.b.trans (hB.mono h.b.size)⟩
theorem RD.cells {w0:World} {f:Pn.Fm} {w:World} (h:RD w0 f w):
    w.cell? ⟨w0.heap.size,0,none⟩=some (.string ⟨f.half.toArray⟩)/\w.cell? ⟨w0.heap.size,1,none⟩=some (.string ⟨f.order.toArray⟩)/\w.cell? ⟨w0.heap.size,2,none⟩=some (.bool f.signed)/\w.cell? ⟨w0.heap.size,3,none⟩=some (.int .i64 f.op)/\
    w.cell? ⟨w0.heap.size,4,none⟩=some (.int .i64 f.rd)/\w.cell? ⟨w0.heap.size,5,none⟩=some (.int .i64 f.rs1)/\w.cell? ⟨w0.heap.size,6,none⟩=some (.int .i64 f.rs2)/\w.cell? ⟨w0.heap.size,7,none⟩=some (.func (.func (a2s f.hold)) #[] #[]):=
 ⟨h.f.2.2 0 _ rfl,h.f.2.2 1 _ rfl,h.f.2.2 2 _ rfl,h.f.2.2 3 _ rfl,h.f.2.2 4 _ rfl,h.f.2.2 5 _ rfl,h.f.2.2 6 _ rfl,h.f.2.2 7 _ rfl⟩
theorem RD.alloc {w0:World} {f:Pn.Fm} {w:World} (h:RD w0 f w) (o:Obj):RD w0 f (w.alloc o):=h.next ((Below.refl _ _).alloc (Nat.le_refl _) _)
structure ZA (w0:World) (b:Nat) (w:World):Prop where
 z:CellsAt b zIn w
 lt:w0.heap.size+1<b
theorem ZA.new {w0:World} {f:Pn.Fm} {w w':World} (h:RD w0 f w) (hB:Below (w.alloc (.cells #[.int .i64 0,.int .i64 0,.int .i64 0,.int .i64 0,.int .i64 0] 26)).heap.size (w.alloc (.cells #[.int .i64 0,.int .i64 0,.int .i64 0,.int .i64 0,.int .i64 0] 26)) w'):ZA w0 w.heap.size w':=
 ⟨(CellsAt.new w zIn 26).next hB,h.r.1⟩
theorem ZA.next {w0:World} {b:Nat} {w w':World} (h:ZA w0 b w) (hB:Below w.heap.size w w'):ZA w0 b w':=⟨h.z.next hB,h.lt⟩
theorem ZA.facts {w0:World} {b:Nat} {w:World} (h:ZA w0 b w):w.cell? ⟨b,0,none⟩=some (.int .i64 0)/\w.cell? ⟨b,1,none⟩=some (.int .i64 0)/\w.cell? ⟨b,2,none⟩=some (.int .i64 0)/\w.cell? ⟨b,3,none⟩=some (.int .i64 0)/\w.cell? ⟨b,4,none⟩=some (.int .i64 0)/\(∀q,w.frozen? ⟨b,q,none⟩=false)/\b≠w0.heap.size/\b≠w0.heap.size+1:=
 ⟨h.z.2.2 0 _ rfl,h.z.2.2 1 _ rfl,h.z.2.2 2 _ rfl,h.z.2.2 3 _ rfl,h.z.2.2 4 _ rfl,h.z.2.1,by have:=h.lt;omega,by have:=h.lt;omega⟩
structure RDA (w0:World) (f:Pn.Fm) (B:Nat) (w:World):Prop where
 d:RD w0 f w
 z:ZA w0 B w
theorem RDA.new {w0:World} {f:Pn.Fm} {w:World} (h:RD w0 f w):RDA w0 f w.heap.size (w.alloc (.cells #[.int .i64 0,.int .i64 0,.int .i64 0,.int .i64 0,.int .i64 0] 26)):=
 ⟨h.alloc _,ZA.new h (Below.refl _ _)⟩
def c3f (w0:World) (f:Pn.Fm) (v:Int) (e:Ending) (w':World):Prop:=e=.returned (.int .i64 v)/\RD w0 f w'
def c3C (w0:World) (f:Pn.Fm) (B:Nat) (v:Int) (e:Ending) (w':World):Prop:=e=.returned (.int .i64 v)/\RDA w0 f B w'/\w'.cell? ⟨B,0,none⟩=some (.int .i64 0)/\w'.cell? ⟨B,1,none⟩=some (.int .i64 0)/\w'.cell? ⟨B,2,none⟩=some (.int .i64 0)/\w'.cell? ⟨B,3,none⟩=some (.int .i64 0)/\w'.cell? ⟨B,4,none⟩=some (.int .i64 0)/\(∀q,w'.frozen? ⟨B,q,none⟩=false)
theorem c73 {w0:World} {f:Pn.Fm} {w w':World} {v:Int} {e:Ending} (h:RD w0 f w) (he:e=.returned (.int .i64 v)) (hB:Below w.heap.size w w'):c3f w0 f v e w':=by
 exact ⟨he,h.next hB⟩
theorem c6U {w0:World} {f:Pn.Fm} {B:Nat} {w w':World} {v:Int} {e:Ending} (h:RDA w0 f B w) (he:e=.returned (.int .i64 v)) (hB:Below w.heap.size w w'):c3C w0 f B v e w':=by
 obtain ⟨z0,z1,z2,z3,z4,zf,_,_⟩:=(h.z.next hB).facts;exact ⟨he,⟨h.d.next hB,h.z.next hB⟩,z0,z1,z2,z3,z4,zf⟩
theorem RD.allocD {w0:World} {f:Pn.Fm} {w:World} (h:RD w0 f w) (o:Obj):RD w0 f ((w.alloc o).drew):=(h.alloc o).next ((Below.refl _ _).drew)
theorem RDA.newD {w0:World} {f:Pn.Fm} {w:World} (h:RD w0 f w):RDA w0 f w.heap.size ((w.alloc (.cells #[.int .i64 0,.int .i64 0,.int .i64 0,.int .i64 0,.int .i64 0] 26)).drew):=
 ⟨h.allocD _,ZA.new h ((Below.refl _ _).drew)⟩
def icl (i:Pn.Ins):List Value:=[.int .i64 i.op,.int .i64 i.rd,.int .i64 i.rs1,.int .i64 i.rs2,.int .i64 i.imm]
structure RF (w0:World) (f:Pn.Fm) (B:Nat) (i:Pn.Ins) (w:World):Prop where
 f:CellsAt w0.heap.size (a0T f) w
 r:CellsAt (w0.heap.size+1) zIn w
 z:CellsAt B (icl i) w
 b:Below w0.heap.size w0 w
 n:w0.heap.size+1<B
theorem RF.next {w0:World} {f:Pn.Fm} {B:Nat} {i:Pn.Ins} {w w':World} (h:RF w0 f B i w) (hB:Below w.heap.size w w'):RF w0 f B i w':=
 ⟨h.f.next hB,h.r.next hB,h.z.next hB,h.b.trans (hB.mono h.b.size),h.n⟩
theorem RF.cells {w0:World} {f:Pn.Fm} {B:Nat} {i:Pn.Ins} {w:World} (h:RF w0 f B i w):
    w.cell? ⟨w0.heap.size,0,none⟩=some (.string ⟨f.half.toArray⟩)/\w.cell? ⟨w0.heap.size,1,none⟩=some (.string ⟨f.order.toArray⟩)/\w.cell? ⟨w0.heap.size,2,none⟩=some (.bool f.signed)/\w.cell? ⟨w0.heap.size,3,none⟩=some (.int .i64 f.op)/\
    w.cell? ⟨w0.heap.size,4,none⟩=some (.int .i64 f.rd)/\w.cell? ⟨w0.heap.size,5,none⟩=some (.int .i64 f.rs1)/\w.cell? ⟨w0.heap.size,6,none⟩=some (.int .i64 f.rs2)/\w.cell? ⟨w0.heap.size,7,none⟩=some (.func (.func (a2s f.hold)) #[] #[]):=
 ⟨h.f.2.2 0 _ rfl,h.f.2.2 1 _ rfl,h.f.2.2 2 _ rfl,h.f.2.2 3 _ rfl,h.f.2.2 4 _ rfl,h.f.2.2 5 _ rfl,h.f.2.2 6 _ rfl,h.f.2.2 7 _ rfl⟩
theorem a1T {b:Nat} {vs:List Value} {w:World} (h:CellsAt b vs w) (c q:Nat) (v:Value) (hc:c≠b):CellsAt b vs (w.setCell ⟨c,q,none⟩ v):=
 h.kept (Kept.setCell c w q v) (fun e=>hc e.symm)
theorem RDA.fin {w0:World} {f:Pn.Fm} {B:Nat} {w:World} (h:RDA w0 f B w) (a b c d e:Int):
    RF w0 f B ⟨a,b,c,d,e⟩ (((((w.setCell ⟨B,0,none⟩ (.int .i64 a)).setCell ⟨B,1,none⟩ (.int .i64 b)).setCell ⟨B,2,none⟩ (.int .i64 c)).setCell ⟨B,3,none⟩ (.int .i64 d)).setCell ⟨B,4,none⟩ (.int .i64 e)):=by
 have n:=h.z.lt;have n0:B≠w0.heap.size:=by omega
 have n1:B≠w0.heap.size+1:=by omega
 have hl:w0.heap.size<=B:=by omega
 refine ⟨?_,?_,?_,?_,n⟩
 ·exact a1T (a1T (a1T (a1T (a1T h.d.f _ _ _ n0) _ _ _ n0) _ _ _ n0) _ _ _ n0) _ _ _ n0
 ·exact a1T (a1T (a1T (a1T (a1T h.d.r _ _ _ n1) _ _ _ n1) _ _ _ n1) _ _ _ n1) _ _ _ n1
 ·have:=((((h.z.z.set 0 (.int .i64 a) (by decide)).set 1 (.int .i64 b) (by simp[zIn])).set 2 (.int .i64 c) (by simp[zIn])).set 3 (.int .i64 d) (by simp[zIn])).set 4 (.int .i64 e) (by simp[zIn])
  exact this
 ·exact ((((h.d.b.setCell hl _).setCell hl _).setCell hl _).setCell hl _).setCell hl _
theorem RD.fin {w0:World} {f:Pn.Fm} {w:World} (h:RD w0 f w) (a b c d e:Int):
    RF w0 f w.heap.size ⟨a,b,c,d,e⟩ (w.alloc (.cells #[.int .i64 a,.int .i64 b,.int .i64 c,.int .i64 d,.int .i64 e] 26)):=
 ⟨h.f.alloc _,h.r.alloc _,CellsAt.new w [.int .i64 a,.int .i64 b,.int .i64 c,.int .i64 d,.int .i64 e] 26,h.b.alloc h.b.size _,h.r.1⟩
theorem c9v {w0:World} {f:Pn.Fm} {w:World} (hf:c5b f) (c n:Int) (hc:c=f.rd\/c=f.rs1\/c=f.rs2) (h:RD w0 f w):
    Calls prog 126 #[.agg #[.string ⟨f.half.toArray⟩,.string ⟨f.order.toArray⟩,.bool f.signed,.int .i64 f.op,.int .i64 f.rd,.int .i64 f.rs1,.int .i64 f.rs2,.func (.func (a2s f.hold)) #[] #[]],.int .i64 c,.int .i64 n] w fun e w'=>c3f w0 f (b01 f.half c n) e w':=by
 have hb:0<=c/\c<=200:=by rcases hc with rfl|rfl|rfl;exact hf.r1;exact hf.r2;exact hf.r3
 exact (a8a f c n w hf.asc hf.len hb.1 hb.2).mono fun _ _ ⟨he,hB⟩=>c73 h he hB
theorem c3D {w0:World} {f:Pn.Fm} {B:Nat} {w:World} (hf:c5b f) (c n:Int) (hc:c=f.rd\/c=f.rs1\/c=f.rs2) (h:RDA w0 f B w):
    Calls prog 126 #[.agg #[.string ⟨f.half.toArray⟩,.string ⟨f.order.toArray⟩,.bool f.signed,.int .i64 f.op,.int .i64 f.rd,.int .i64 f.rs1,.int .i64 f.rs2,.func (.func (a2s f.hold)) #[] #[]],.int .i64 c,.int .i64 n] w fun e w'=>c3C w0 f B (b01 f.half c n) e w':=by
 have hb:0<=c/\c<=200:=by rcases hc with rfl|rfl|rfl;exact hf.r1;exact hf.r2;exact hf.r3
 exact (a8a f c n w hf.asc hf.len hb.1 hb.2).mono fun _ _ ⟨he,hB⟩=>c6U h he hB
theorem c8h {w0:World} {f:Pn.Fm} {w:World} (hf:c5b f) (n:Int) (h:RD w0 f w):
    Calls prog 127 #[.agg #[.string ⟨f.half.toArray⟩,.string ⟨f.order.toArray⟩,.bool f.signed,.int .i64 f.op,.int .i64 f.rd,.int .i64 f.rs1,.int .i64 f.rs2,.func (.func (a2s f.hold)) #[] #[]],.int .i64 n] w fun e w'=>c3f w0 f (b9X f n) e w':=
 (c27 f n w hf.toFok).mono fun _ _ ⟨he,hB⟩=>c73 h he hB
theorem c6K {w0:World} {f:Pn.Fm} {B:Nat} {w:World} (hf:c5b f) (n:Int) (h:RDA w0 f B w):
    Calls prog 127 #[.agg #[.string ⟨f.half.toArray⟩,.string ⟨f.order.toArray⟩,.bool f.signed,.int .i64 f.op,.int .i64 f.rd,.int .i64 f.rs1,.int .i64 f.rs2,.func (.func (a2s f.hold)) #[] #[]],.int .i64 n] w fun e w'=>c3C w0 f B (b9X f n) e w':=
 (c27 f n w hf.toFok).mono fun _ _ ⟨he,hB⟩=>c6U h he hB
theorem b67 (h:Nat) (hh:h<8) (args:Array Value) (w:World):(callFunc (a2s h) args).run prog w=.ok (.enter (a2s h) args) w:=by
 match h,hh with
 | 0,_=>show (callFunc 115 args).run prog w=.ok (.enter 115 args) w;go_simp
 | 1,_=>show (callFunc 117 args).run prog w=.ok (.enter 117 args) w;go_simp
 | 2,_=>show (callFunc 120 args).run prog w=.ok (.enter 120 args) w;go_simp
 | 3,_=>show (callFunc 114 args).run prog w=.ok (.enter 114 args) w;go_simp
 | 4,_=>show (callFunc 121 args).run prog w=.ok (.enter 121 args) w;go_simp
 | 5,_=>show (callFunc 119 args).run prog w=.ok (.enter 119 args) w;go_simp
 | 6,_=>show (callFunc 116 args).run prog w=.ok (.enter 116 args) w;go_simp
 | 7,_=>show (callFunc 118 args).run prog w=.ok (.enter 118 args) w;go_simp
 | k+8,h=>exact absurd h (by omega)
theorem b98 (f:Pn.Fm) (n:Int) (w:World) (hf:c5b f):
    Calls prog 66 #[.agg (a0T f).toArray,.int .i64 n] w fun e w'=>e=.returned (.tuple #[(a2n f n).1.val,.bool (a2n f n).2])/\Below w.heap.size w w':=by
 have HFit:=hid (fun w'=>c0R f n w' hf.asc hf.len)
 have HFR:Hid (CellsAt w.heap.size (a0T f) (w.alloc (.cells (a0T f).toArray 114))):=hid (CellsAt.new w (a0T f) 114)
 have HRD:Hid (RD w f ((w.alloc (.cells (a0T f).toArray 114)).alloc (.cells zIn.toArray 26))):=hid
  ⟨HFR.out.alloc _,by have:=CellsAt.new (w.alloc (.cells (a0T f).toArray 114)) zIn 26;rw[World.size_alloc]at this;exact this,((Below.refl _ _).alloc (Nat.le_refl _) _).alloc (by rw[World.size_alloc];omega) _⟩
 clear HFR;by_cases hfit:a8h f.half n=true
 ·have HR:Hid (a2n f n=(a01 f n,a11 f.hold (a01 f n))):=hid (by unfold a2n;rw[if_pos hfit])
  unfold a0T at HFit HRD ⊢;unfold zIn at HRD;go_enter func66,ntmps66;go_wp2_with fail;refine (HFit.out _).mono ?_;rintro e w1 ⟨rfl,hB1⟩;rw[hfit];have hrd:=HRD.out.next hB1;clear hB1 HFit HRD;obtain ⟨k0,k1,k2,k3,k4,k5,k6,k7⟩:=hrd.cells;have hs0:=hrd.r.1;have hn0:w1.heap.size≠w.heap.size:=by omega
  have hm0:w.heap.size≠w1.heap.size:=by omega
  go_wp2_with fail;have hrdd:RD w f w1.drew:=hrd.next ((Below.refl _ _).drew);rename_i K0 hK0
  have TAIL:∀(B:Nat) (W3:World) (x7 x8 x9 x10 x11 x12 x13 x14 x15 x16 x17 x18 x19 x20 x21 x22 x23 x24 x25 x26 x27 x28 x29 x30 x31 x32:Value),RF w f B (a01 f n) W3->K0 { tmps:=#[.agg #[.string ⟨f.half.toArray⟩,.string ⟨f.order.toArray⟩,.bool f.signed,.int .i64 f.op,.int .i64 f.rd,.int .i64 f.rs1,.int .i64 f.rs2,.func (.func (a2s f.hold)) #[] #[]],.int .i64 n,.pointer (some ⟨w.heap.size,0,none⟩),undef,.pointer (some ⟨w.heap.size+1,0,none⟩),.bool false,.pointer (some ⟨B,0,none⟩),x7,x8,x9,x10,x11,x12,x13,x14,x15,x16,x17,x18,x19,x20,x21,x22,x23,x24,x25,x26,x27,x28,x29,x30,x31,x32,undef,undef,undef,undef,undef],defers:=[] } W3:=by
   intro B W3 x7 x8 x9 x10 x11 x12 x13 x14 x15 x16 x17 x18 x19 x20 x21 x22 x23 x24 x25 x26 x27 x28 x29 x30 x31 x32 hRF;(have HH:=hid (fun w'=>c1m f.hold hf.h8 (a01 f n) w'));(have hcf:=fun args w'=>b67 f.hold hf.h8 args w');generalize a01 f n=i at HH HR hRF;generalize a11 f.hold i=hb at HH HR;obtain ⟨iop,ird,irs1,irs2,iimm⟩:=i;clear k0 k1 k2 k3 k4 k5 k6 k7 hs0 hn0 hm0 hrd hrdd hfit;unfold Pn.Ins.val at HH;simp only at HH;apply hK0;clear hK0;have z0:=hRF.z.2.2 0 _ rfl;have z1:=hRF.z.2.2 1 _ rfl;have z2:=hRF.z.2.2 2 _ rfl;have z3:=hRF.z.2.2 3 _ rfl;have z4:=hRF.z.2.2 4 _ rfl;have k7:=hRF.f.2.2 7 _ rfl;(have hb1:¬B=w.heap.size+1:=by have:=hRF.n;omega);(have hb2:¬w.heap.size+1=B:=by have:=hRF.n;omega);simp only at z0 z1 z2 z3 z4;generalize hFe:a2s f.hold=hF at *;have HFe:=hid hFe;clear hFe;go_wp2_with fail
   go_region_held3 (fun w'=>w'.cell? ⟨B,0,none⟩=some (.int .i64 iop)/\w'.cell? ⟨B,1,none⟩=some (.int .i64 ird)/\w'.cell? ⟨B,2,none⟩=some (.int .i64 irs1)/\w'.cell? ⟨B,3,none⟩=some (.int .i64 irs2)/\w'.cell? ⟨B,4,none⟩=some (.int .i64 iimm)/\w'.cell? ⟨w.heap.size,7,none⟩=some (.func (.func hF) #[] #[]))
    (first|(with_reducible assumption)|go_keep)
    (first
     | (refine (HH.out _).mono ?_;rintro e w' ⟨rfl,hB'⟩;have hRF':=(hRF.next ((Below.refl _ _).drew)).next hB';have hq:w'.cell? ⟨B,0,none⟩=some (.int .i64 iop)/\w'.cell? ⟨B,1,none⟩=some (.int .i64 ird)/\w'.cell? ⟨B,2,none⟩=some (.int .i64 irs1)/\w'.cell? ⟨B,3,none⟩=some (.int .i64 irs2)/\w'.cell? ⟨B,4,none⟩=some (.int .i64 iimm)/\w'.cell? ⟨w.heap.size,7,none⟩=some (.func (.func hF) #[] #[]):=⟨hRF'.z.2.2 0 _ rfl,hRF'.z.2.2 1 _ rfl,hRF'.z.2.2 2 _ rfl,hRF'.z.2.2 3 _ rfl,hRF'.z.2.2 4 _ rfl,hRF'.f.2.2 7 (.func (.func hF) #[] #[]) (by rw[<-HFe.out];rfl)⟩;have y0:=hRF'.r.2.2 0 _ rfl;have y1:=hRF'.r.2.2 1 _ rfl;have y2:=hRF'.r.2.2 2 _ rfl;have y3:=hRF'.r.2.2 3 _ rfl;have y4:=hRF'.r.2.2 4 _ rfl;have yf:=hRF'.r.2.1))
   have HB:=hid hRF'.b;clear hq hRF hRF' hB' hcf;go_wp2_with fail;(refine bodyPost_ret (v:=.tuple #[(Pn.Ins.mk iop ird irs1 irs2 iimm).val,.bool hb]) (by simp[results,results66,go_sem,y0,y1,y2,y3,y4,Pn.Ins.val]) rfl ⟨by rw[HR.out],?_⟩);exact (((((HB.out.setCell (by simp) _).setCell (by simp) _).setCell (by simp) _).setCell (by simp) _).setCell (by simp) _)
  have HT:=hid TAIL;clear TAIL hK0 k0 k1 k2 k3 k4 k5 k6 k7 hs0 hn0 hm0 hfit
  go_region_held3 (fun w'=>w'.cell? ⟨w.heap.size,0,none⟩=some (.string ⟨f.half.toArray⟩)/\w'.cell? ⟨w.heap.size,1,none⟩=some (.string ⟨f.order.toArray⟩)/\w'.cell? ⟨w.heap.size,2,none⟩=some (.bool f.signed)/\w'.cell? ⟨w.heap.size,3,none⟩=some (.int .i64 f.op)/\
      w'.cell? ⟨w.heap.size,4,none⟩=some (.int .i64 f.rd)/\w'.cell? ⟨w.heap.size,5,none⟩=some (.int .i64 f.rs1)/\w'.cell? ⟨w.heap.size,6,none⟩=some (.int .i64 f.rs2)/\w'.cell? ⟨w.heap.size,7,none⟩=some (.func (.func (a2s f.hold)) #[] #[]))
   (first|(with_reducible exact RD.cells (RDA.d (by with_reducible assumption)))|(with_reducible exact RD.cells (by with_reducible assumption))|(rename RDA w f _ _=>hz;with_reducible exact RF.cells (RDA.fin hz _ _ _ _ _))|(with_reducible exact RD.cells (RD.alloc (by with_reducible assumption) _))|(with_reducible exact RD.cells (RD.allocD (by with_reducible assumption) _))|go_keep)
   (first
    | (go_at_call 126;refine (c3D hf _ _ (by first|with_reducible exact Or.inl rfl|with_reducible exact Or.inr (Or.inl rfl)|with_reducible exact Or.inr (Or.inr rfl)) (by with_reducible assumption)).mono ?_;rintro e w' ⟨rfl,hra',z0,z1,z2,z3,z4,zf⟩)
    | (go_at_call 126;refine (c3D hf _ _ (by first|with_reducible exact Or.inl rfl|with_reducible exact Or.inr (Or.inl rfl)|with_reducible exact Or.inr (Or.inr rfl)) (by with_reducible exact RDA.new (by with_reducible assumption))).mono ?_;rintro e w' ⟨rfl,hra',z0,z1,z2,z3,z4,zf⟩)
    | (go_at_call 126;refine (c3D hf _ _ (by first|with_reducible exact Or.inl rfl|with_reducible exact Or.inr (Or.inl rfl)|with_reducible exact Or.inr (Or.inr rfl)) (by with_reducible exact RDA.newD (by with_reducible assumption))).mono ?_;rintro e w' ⟨rfl,hra',z0,z1,z2,z3,z4,zf⟩)
    | (go_at_call 126;refine (c9v hf _ _ (by first|with_reducible exact Or.inl rfl|with_reducible exact Or.inr (Or.inl rfl)|with_reducible exact Or.inr (Or.inr rfl)) (by with_reducible assumption)).mono ?_;rintro e w' ⟨rfl,hrd'⟩)
    | (go_at_call 127;refine (c6K hf _ (by with_reducible assumption)).mono ?_;rintro e w' ⟨rfl,hra',z0,z1,z2,z3,z4,zf⟩)
    | (go_at_call 127;refine (c6K hf _ (by with_reducible exact RDA.new (by with_reducible assumption))).mono ?_;rintro e w' ⟨rfl,hra',z0,z1,z2,z3,z4,zf⟩)
    | (go_at_call 127;refine (c8h hf _ (by with_reducible assumption)).mono ?_;rintro e w' ⟨rfl,hrd'⟩))
  all_goals first
   | exact HT.out _ _ _ _ _ _ _ _ _ _ _ _ _ _ _ _ _ _ _ _ _ _ _ _ _ _ _ _ (RDA.fin (by assumption) _ _ _ _ _)
   | exact HT.out _ _ _ _ _ _ _ _ _ _ _ _ _ _ _ _ _ _ _ _ _ _ _ _ _ _ _ _ (RD.fin (by assumption) _ _ _ _ _)
 ·have hfit':a8h f.half n=false:=by simpa using hfit
  have HR:Hid (a2n f n=(⟨0,0,0,0,0⟩,false)):=hid (by unfold a2n;rw[hfit'];rfl)
  unfold a0T at HFit HRD ⊢;unfold zIn at HRD;go_enter func66,ntmps66;go_wp2_with fail;refine (HFit.out _).mono ?_;rintro e w1 ⟨rfl,hB1⟩;rw[hfit'];have hrd:=HRD.out.next hB1;have y0:=hrd.r.2.2 0 _ rfl;have y1:=hrd.r.2.2 1 _ rfl;have y2:=hrd.r.2.2 2 _ rfl;have y3:=hrd.r.2.2 3 _ rfl;have y4:=hrd.r.2.2 4 _ rfl;have yf:=hrd.r.2.1;have HB:=hid hrd.b;clear hB1 HFit HRD hrd;go_wp2_with fail;refine bodyPost_ret (v:=.tuple #[(Pn.Ins.mk 0 0 0 0 0).val,.bool false]) (by simp[results,results66,go_sem,y0,y1,y2,y3,y4,Pn.Ins.val]) rfl ⟨by rw[HR.out],?_⟩
  exact (((((HB.out.setCell (by simp) _).setCell (by simp) _).setCell (by simp) _).setCell (by simp) _).setCell (by simp) _)
