import Derived.Deep.RegionHeld3
import Derived.Test.YtbmcofdodfcnnaaGreatDoorGV6
import Derived.Test.YtbmcofdodfcnnaaGreatDoorGP
set_option linter.all false
set_option maxHeartbeats 400000000
set_option maxRecDepth 100000
namespace Go.Proofs.YtbmcofdodfcnnaaGreatDoor
open Pn
open Go.Proofs.Tryz
open Go.RowKit
def zI:List Value:=[.int .i64 0,.int .i64 0,.int .i64 0,.int .i64 0,.int .i64 0]
def DA (w0:World) (n:Int) (k b c:Nat) (ao:Option Addr) (cap:Nat) (w':World):Prop:=
 CellsAt w0.heap.size [.int .i64 n] w'/\CellsAt (w0.heap.size+1) zI w'/\CellsAt b (a3a k) w'/\CellsAt c (a0l (Pn.row k).kind (.slice ao (a0g (Pn.row k).kind).length cap)) w'/\c4g (a0g (Pn.row k).kind) ao cap w'/\Below w0.heap.size w0 w'
theorem DA.next {w0:World} {n:Int} {k b c:Nat} {ao:Option Addr} {cap:Nat} {w w':World} (h:DA w0 n k b c ao cap w) (hB:Below w.heap.size w w'):DA w0 n k b c ao cap w':=
 ⟨h.1.next hB,h.2.1.next hB,h.2.2.1.next hB,h.2.2.2.1.next hB,h.2.2.2.2.1.next hB,h.2.2.2.2.2.trans (hB.mono h.2.2.2.2.2.size)⟩
theorem DA.cells {w0:World} {n:Int} {k b c:Nat} {ao:Option Addr} {cap:Nat} {w':World} (h:DA w0 n k b c ao cap w'):
    w'.cell? ⟨w0.heap.size,0,none⟩=some (.int .i64 n)/\w'.cell? ⟨b,0,none⟩=some (.int .i64 (k+1))/\
    w'.cell? ⟨c,0,none⟩=some (.bool (Pn.has (Pn.row k).kind).1)/\w'.cell? ⟨c,1,none⟩=some (.bool (Pn.has (Pn.row k).kind).2.1)/\w'.cell? ⟨c,2,none⟩=some (.bool (Pn.has (Pn.row k).kind).2.2)/\
    w'.cell? ⟨c,3,none⟩=some (.int .i64 (Pn.least (Pn.row k).kind))/\w'.cell? ⟨c,4,none⟩=some (.int .i64 (Pn.most (Pn.row k).kind))/\w'.cell? ⟨c,5,none⟩=some (.bool (a4N (Pn.row k).kind))/\
    w'.cell? ⟨c,6,none⟩=some (.slice ao (a0g (Pn.row k).kind).length cap)/\w'.cell? ⟨c,7,none⟩=some (.int .i64 (a2G (Pn.row k).kind))/\w'.cell? ⟨c,8,none⟩=some (.int .i64 (a6n (Pn.row k).kind)):=
 ⟨h.1.2.2 0 _ rfl,h.2.2.1.2.2 0 _ rfl,h.2.2.2.1.2.2 0 _ rfl,h.2.2.2.1.2.2 1 _ rfl,h.2.2.2.1.2.2 2 _ rfl,h.2.2.2.1.2.2 3 _ rfl,h.2.2.2.1.2.2 4 _ rfl,h.2.2.2.1.2.2 5 _ rfl,h.2.2.2.1.2.2 6 _ rfl,h.2.2.2.1.2.2 7 _ rfl,h.2.2.2.1.2.2 8 _ rfl⟩
theorem DA.res {w0:World} {n:Int} {k b c:Nat} {ao:Option Addr} {cap:Nat} {w':World} (h:DA w0 n k b c ao cap w'):
    w'.cell? ⟨w0.heap.size+1,0,none⟩=some (.int .i64 0)/\w'.cell? ⟨w0.heap.size+1,1,none⟩=some (.int .i64 0)/\w'.cell? ⟨w0.heap.size+1,2,none⟩=some (.int .i64 0)/\w'.cell? ⟨w0.heap.size+1,3,none⟩=some (.int .i64 0)/\w'.cell? ⟨w0.heap.size+1,4,none⟩=some (.int .i64 0)/\
    (∀q,w'.frozen? ⟨w0.heap.size+1,q,none⟩=false):=
 ⟨h.2.1.2.2 0 _ rfl,h.2.1.2.2 1 _ rfl,h.2.1.2.2 2 _ rfl,h.2.1.2.2 3 _ rfl,h.2.1.2.2 4 _ rfl,h.2.1.2.1⟩
theorem b8I {w w3:World} {b:Nat} (h:Below w.heap.size w w3) (x0 x1 x2 x3 x4:Value):
    Below w.heap.size w (((((w3.setCell ⟨w.heap.size+b,0,none⟩ x0).setCell ⟨w.heap.size+b,1,none⟩ x1).setCell ⟨w.heap.size+b,2,none⟩ x2).setCell ⟨w.heap.size+b,3,none⟩ x3).setCell ⟨w.heap.size+b,4,none⟩ x4):=
 ((((h.setCell (by simp) _).setCell (by simp) _).setCell (by simp) _).setCell (by simp) _).setCell (by simp) _
theorem a0I {w w3:World} (h:Below w.heap.size w w3) (a b c d e:Value):
    Below w.heap.size w (((((w3.setCell ⟨w.heap.size,0,none⟩ a).setCell ⟨w.heap.size,1,none⟩ b).setCell ⟨w.heap.size,2,none⟩ c).setCell ⟨w.heap.size,3,none⟩ d).setCell ⟨w.heap.size,4,none⟩ e):=
 ((((h.setCell (Nat.le_refl _) _).setCell (Nat.le_refl _) _).setCell (Nat.le_refl _) _).setCell (Nat.le_refl _) _).setCell (Nat.le_refl _) _
theorem a3b (w:World) (k:Nat):Below w.heap.size w (w.drewN k):=below_drewN (Below.refl _ _) k
theorem c4t (at':Int) (t:Bool) {w0:World} {n:Int} {k b c:Nat} {ao:Option Addr} {cap:Nat} {w:World} (h:DA w0 n k b c ao cap w) (a0:0<=at') (a1:at'<=40):
    Calls prog 70 #[.int .i64 n,.int .i64 at',.bool t] w fun e w'=>e=.returned (.int .i64 (Pn.rgW n at' t))/\DA w0 n k b c ao cap w':=
 (a6H n at' t w a0 a1).mono fun _ _ ⟨he,j,hw⟩=>⟨he,by rw[hw];exact h.next (a3b w j)⟩
theorem c4i {w0:World} {n:Int} {k b c:Nat} {ao:Option Addr} {cap:Nat} {w:World} (hk:k<64) (h:DA w0 n k b c ao cap w):
    Calls prog 71 #[.agg (a0l (Pn.row k).kind (.slice ao (a0g (Pn.row k).kind).length cap)).toArray,.int .i64 n] w fun e w'=>e=.returned (.int .i64 (a0H (Pn.row k).kind n))/\DA w0 n k b c ao cap w':=by
 have hi:=c3n n k hk;have hl:=c19 (Pn.row k).kind;refine (a96 _ _ _ _ _ _ _ _ _ _ _ _ _ (b4m (a02 k hk)) (a9c _) h.2.2.2.2.1 hi.1 hi.2.1 hl.1 hl.2).mono ?_;rintro e w' ⟨rfl,hB⟩;exact ⟨by rw[c43,hi.2.2],h.next hB⟩
theorem b6e (n:Int) (w:World) (n0:0<=n) (n1:n<4294967296):
    Calls prog 38 #[.int .i64 n] w fun e w'=>e=.returned (.tuple #[(Pn.dec n).1.val,.int .i64 (Pn.dec n).2])/\Below w.heap.size w w':=by
 go_enter func38,ntmps38;go_wp2_with fail;refine (b2G 68 _ (fun k=>a1A k n) _ Tryz.call68 (fun k hk w1 hB=>c3p k w.heap.size n w1 hk (by have:=hB.size;simp at this;omega) ((hB.cell (p:=⟨w.heap.size,0,none⟩) (by simp;omega)).trans (by go_simp)))).mono ?_
 rintro e w1 ⟨rfl,hB1⟩;have HN1:=(show Hid _ from ((CellsAt.new w [.int .i64 n] 3).alloc (.cells zI.toArray 26)).next hB1)
 have HZ1:Hid (CellsAt (w.heap.size+1) zI w1):=(by have:=CellsAt.new (w.alloc (.cells #[.int .i64 n] 3)) zI 26;rw[World.size_alloc]at this;exact this.next hB1)
 have HB1:Hid (Below w.heap.size w w1):=(((Below.refl _ _).alloc (Nat.le_refl _) _).alloc (by simp) _).trans (hB1.mono (by simp;omega))
 clear hB1;generalize hO:(List.range 64).find? (fun k=>a1A k n)=o
 have HO:=(show Hid _ from hO)
 clear hO
 cases o with
 | none=>
  have HD:=(show Hid _ from c7L n0 n1 HO.out)
  obtain ⟨hz1,yf,yc⟩:=HZ1.out;have y0:=yc 0 _ rfl;have y1:=yc 1 _ rfl;have y2:=yc 2 _ rfl;have y3:=yc 3 _ rfl;have y4:=yc 4 _ rfl;clear yc HZ1 HN1;unfold a1e a0U a1P;go_wp2_with fail;refine bodyPost_ret (v:=.tuple #[(Pn.Ins.mk 0 0 0 0 0).val,.int .i64 1]) (by simp[results,results38,go_sem,y0,y1,y2,y3,y4,hz1,Pn.Ins.val]) rfl ⟨by rw[HD.out],?_⟩
  exact (b8I HB1.out _ _ _ _ _).alloc (by have:=HB1.out.size;simp[World.setCell];omega) _
 | some k=>
  obtain ⟨hk,hD⟩:=c1j n0 n1 HO.out;have HD:=(show Hid _ from hD)
  clear hD;unfold a1e a3y a3a;go_wp2_with fail;refine (a32 (Pn.row k).kind (a02 k hk) _).mono ?_;rintro e w2 ⟨sl,rfl,hP,hB2⟩;obtain ⟨ao,cap,rfl,hpc⟩:=hP
  have hda:DA w n k w1.heap.size w2.heap.size ao cap (w2.alloc (.cells (a0l (Pn.row k).kind (.slice ao (a0g (Pn.row k).kind).length cap)).toArray 105)):=by
   (have hal:∀o,Below w2.heap.size w2 (w2.alloc o):=fun o=>(Below.refl _ _).alloc (Nat.le_refl _) _);refine ⟨(CellsAt.next (CellsAt.alloc HN1.out _) hB2).alloc _,(CellsAt.next (CellsAt.alloc HZ1.out _) hB2).alloc _,((CellsAt.new w1 (a3a k) 100).next hB2).alloc _,CellsAt.new w2 _ _,c4g.next (fun j p hj=>?_) (hal _),?_⟩
   ·obtain ⟨b,h1,_,h3⟩:=hpc j p hj
    exact ⟨b,h1,h3⟩
   ·exact ((HB1.out.alloc HB1.out.size _).trans (hB2.mono (by have:=HB1.out.size;simp;omega))).alloc (by have:=hB2.size;have:=HB1.out.size;simp at *;omega) _
  have hne1:¬w.heap.size+1=w1.heap.size:=by have:=HZ1.out.1;omega
  have hne2:¬w.heap.size+1=w2.heap.size:=by have:=HZ1.out.1;have:=hB2.size;simp at this;omega
  clear hB2 hpc HN1 HZ1 HB1;unfold a0l;go_wp2_with fail;unfold a0l at hda;generalize w2.alloc _=W at hda ⊢;obtain ⟨s0,s1,s2,s3,s4,s5,s6,s7,s8,s9,s10⟩:=hda.cells
  go_region_held3 (fun w'=>w'.cell? ⟨w.heap.size,0,none⟩=some (.int .i64 n)/\w'.cell? ⟨w1.heap.size,0,none⟩=some (.int .i64 (k+1))/\
   w'.cell? ⟨w2.heap.size,0,none⟩=some (.bool (Pn.has (Pn.row k).kind).1)/\w'.cell? ⟨w2.heap.size,1,none⟩=some (.bool (Pn.has (Pn.row k).kind).2.1)/\w'.cell? ⟨w2.heap.size,2,none⟩=some (.bool (Pn.has (Pn.row k).kind).2.2)/\
   w'.cell? ⟨w2.heap.size,3,none⟩=some (.int .i64 (Pn.least (Pn.row k).kind))/\w'.cell? ⟨w2.heap.size,4,none⟩=some (.int .i64 (Pn.most (Pn.row k).kind))/\w'.cell? ⟨w2.heap.size,5,none⟩=some (.bool (a4N (Pn.row k).kind))/\
   w'.cell? ⟨w2.heap.size,6,none⟩=some (.slice ao (a0g (Pn.row k).kind).length cap)/\w'.cell? ⟨w2.heap.size,7,none⟩=some (.int .i64 (a2G (Pn.row k).kind))/\w'.cell? ⟨w2.heap.size,8,none⟩=some (.int .i64 (a6n (Pn.row k).kind)))
   (first|(exact DA.cells (by assumption))|go_keep)
   (first
    | (go_at_call 70;refine (c4t _ _ (by first|assumption|exact DA.next hda (a3b _ _)) (by decide) (by decide)).mono ?_;rintro e w' ⟨rfl,hda'⟩)
    | (go_at_call 71;refine (c4i hk (by assumption)).mono ?_;rintro e w' ⟨rfl,hda'⟩;obtain ⟨x0,x1,x2,x3,x4,xf⟩:=DA.res hda'))
  have HB9:=(show Hid _ from hda'.2.2.2.2.2)
  clear hda hda' hne1 hne2;go_wp2_with fail
  refine bodyPost_ret (v:=.tuple #[.agg #[.int .i64 (k+1),.int .i64 (Pn.rgW n 7 (Pn.has (Pn.row k).kind).1),.int .i64 (Pn.rgW n 15 (Pn.has (Pn.row k).kind).2.1),.int .i64 (Pn.rgW n 20 (Pn.has (Pn.row k).kind).2.2),.int .i64 (a0H (Pn.row k).kind n)],.int .i64 0])
   (by simp[results,results38,go_sem,x0,x1,x2,x3,x4]) rfl ⟨by rw[HD.out];rfl,b8I HB9.out _ _ _ _ _⟩
theorem b25 (n:Int) (w:World) (h:n<0\/4294967296<=n):
    Calls prog 38 #[.int .i64 n] w fun e w'=>e=.returned (.tuple #[(Pn.Ins.mk 0 0 0 0 0).val,.int .i64 1])/\Below w.heap.size w w':=by
 rcases h with h|h
 ·go_enter func38,ntmps38
  go_wp2_with fail;exact bodyPost_ret (v:=.tuple #[(Pn.Ins.mk 0 0 0 0 0).val,.int .i64 1]) (by simp[results,results38,go_sem,Pn.Ins.val]) rfl ⟨rfl,((Below.refl _ _).alloc (Nat.le_refl _) _).alloc (by simp) _⟩
 ·have h':¬n<0:=by omega
  go_enter func38,ntmps38;go_wp2_with fail;exact bodyPost_ret (v:=.tuple #[(Pn.Ins.mk 0 0 0 0 0).val,.int .i64 1]) (by simp[results,results38,go_sem,Pn.Ins.val]) rfl ⟨rfl,((Below.refl _ _).alloc (Nat.le_refl _) _).alloc (by simp) _⟩
theorem a8w (n:Int) (w:World):
    Calls prog 38 #[.int .i64 n] w fun e w'=>e=.returned (.tuple #[(Pn.dec n).1.val,.int .i64 (Pn.dec n).2])/\Below w.heap.size w w':=by
 by_cases h:n<0\/4294967296<=n
 ·rw[b79 h];exact b25 n w h
 ·exact b6e n w (by omega) (by omega)
theorem b2J (n:Int) (w:World):
    Calls prog 17 #[.int .i64 n] w fun e w'=>e=.returned (.tuple #[(Pn.dec n).1.val,.int .i64 (Pn.dec n).2])/\Below w.heap.size w w':=by
 go_enter func17,ntmps17;go_wp2_with fail;refine (a8w n _).mono ?_;rintro e w1 ⟨rfl,hB1⟩;obtain ⟨hz1,yf,yc⟩:=(CellsAt.new w zI 26).next hB1;have y0:=yc 0 _ rfl;have y1:=yc 1 _ rfl;have y2:=yc 2 _ rfl;have y3:=yc 3 _ rfl;have y4:=yc 4 _ rfl;have HB1:Hid (Below w.heap.size w w1):=((Below.refl _ _).alloc (Nat.le_refl _) _).trans (hB1.mono (by simp))
 clear hB1 yc;generalize hD:Pn.dec n=D;have HD:=(show Hid _ from hD)
 clear hD;obtain ⟨⟨op,rd,rs1,rs2,imm⟩,er⟩:=D;unfold Pn.Ins.val;simp only;go_wp2_with fail;refine bodyPost_ret (v:=.tuple #[(Pn.Ins.mk op rd rs1 rs2 imm).val,.int .i64 er]) (by simp[results,results17,go_sem,y0,y1,y2,y3,y4,Pn.Ins.val]) rfl ⟨by rw[HD.out],a0I HB1.out _ _ _ _ _⟩
