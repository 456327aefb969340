import Derived.OwnWalk
import Derived.Test.YtbmcofdodfcnnaaGreatDoorGFK
import Derived.Test.YtbmcofdodfcnnaaGreatDoorGAG
import Derived.Test.YtbmcofdodfcnnaaGreatDoorGV6
import Derived.Test.YtbmcofdodfcnnaaGreatDoorV10
import Derived.Test.YtbmcofdodfcnnaaGreatDoorGK
import Derived.Test.YtbmcofdodfcnnaaGreatDoorFJ2
import Derived.Test.YtbmcofdodfcnnaaGreatDoorGVC
set_option linter.all false
set_option maxHeartbeats 400000000
set_option maxRecDepth 100000
namespace Pn
end Pn
namespace Go.Proofs.YtbmcofdodfcnnaaGreatDoor
open Pn
open Go.Proofs.Tryz
open Go.RowKit
theorem b55 (hrd:a6g) (i:Pn.Ins) (w:World):
    Calls prog 16 #[i.val] w fun e w'=>e=.returned (.tuple #[.int .i64 (a0q i).1,.int .i64 (a0q i).2])/\Below w.heap.size w w':=by
 obtain ⟨op,rd,rs1,rs2,imm⟩:=i;have H:=hid (fun w'=>a6k ⟨op,rd,rs1,rs2,imm⟩ w' hrd)
 unfold Pn.Ins.val at *;have HB:=hid ((Below.refl w.heap.size w).alloc (Nat.le_refl _) (.cells #[.int .i64 op,.int .i64 rd,.int .i64 rs1,.int .i64 rs2,.int .i64 imm] 26));go_enter func16,ntmps16;go_wp2_with fail;refine (H.out _).mono ?_;rintro e w1 ⟨rfl,hB⟩;have HB1:=hid (HB.out.trans (hB.mono (by simp)))
 clear hB;go_wp2_with fail;go_ret2;exact ⟨rfl,HB1.out⟩
end Go.Proofs.YtbmcofdodfcnnaaGreatDoor
namespace Pn
theorem c14:∀k,k<32->c5b (fm k):=by
 have h1:∀k,k<32->0<=(fm k).rd/\(fm k).rd<=200:=by decide
 have h2:∀k,k<32->0<=(fm k).rs1/\(fm k).rs1<=200:=by decide
 have h3:∀k,k<32->0<=(fm k).rs2/\(fm k).rs2<=200:=by decide
 have h4:∀k,k<32->(fm k).hold<8:=by decide
 exact fun k hk=>{ b2X k hk with r1:=h1 k hk,r2:=h2 k hk,r3:=h3 k hk,h8:=h4 k hk }
end Pn
namespace Go.Proofs.YtbmcofdodfcnnaaGreatDoor
open Pn
open Go.Proofs.Tryz
open Go.RowKit
theorem a3O:a6g:=fun k hk n w=>b98 (Pn.fm k) n w (c14 k hk)
theorem a71 (n:Int) (w:World):
    Calls prog 40 #[.int .i64 n] w fun e w'=>e=.returned (.tuple #[(a4q n).1.val,.int .i64 (a4q n).2])/\Below w.heap.size w w':=by
 by_cases h:n<0\/65535<n
 ·exact b50 n w h
 ·exact b6F n w h a3O
theorem b20 (n:Int) (w:World):
    Calls prog 19 #[.int .i64 n] w fun e w'=>e=.returned (.tuple #[(a4q n).1.val,.int .i64 (a4q n).2])/\Below w.heap.size w w':=by
 have H:=hid (fun w'=>a71 n w')
 have HC:Hid (CellsAt w.heap.size z5 (w.alloc (.cells z5.toArray 26))):=hid (CellsAt.new w z5 26);have HB:Hid (Below w.heap.size w (w.alloc (.cells z5.toArray 26))):=hid ((Below.refl _ _).alloc (Nat.le_refl _) _);unfold z5 at HC HB;generalize a4q n=X at *;obtain ⟨⟨iop,ird,irs1,irs2,iimm⟩,x2⟩:=X;unfold Pn.Ins.val at H;simp only at H;go_enter func19,ntmps19;go_wp2_with fail;refine (H.out _).mono ?_;rintro e w1 ⟨rfl,hB1⟩;have hC1:=HC.out.next hB1;have y0:=hC1.2.2 0 _ rfl;have y1:=hC1.2.2 1 _ rfl;have y2:=hC1.2.2 2 _ rfl;have y3:=hC1.2.2 3 _ rfl;have y4:=hC1.2.2 4 _ rfl;have yf:=hC1.2.1;have HB1:=hid (HB.out.trans (hB1.mono HB.out.size));clear hB1 HC HB hC1;go_wp2_with fail;refine bodyPost_ret (v:=.tuple #[(Pn.Ins.mk iop ird irs1 irs2 iimm).val,.int .i64 x2]) (by simp[results,results19,go_sem,y0,y1,y2,y3,y4,Pn.Ins.val]) rfl ⟨rfl,?_⟩
 exact (((((HB1.out.setCell (by simp) _).setCell (by simp) _).setCell (by simp) _).setCell (by simp) _).setCell (by simp) _)
