import Derived.Test.YtbmcofdodfcnnaaGreatDoorGX
import Derived.Test.YtbmcofdodfcnnaaGreatDoorGP
set_option linter.all false
set_option maxHeartbeats 400000000
set_option maxRecDepth 100000
namespace Go.Proofs.YtbmcofdodfcnnaaGreatDoor
open Pn
open Go.Proofs.Tryz
open Go.RowKit
def a1U:Obj:=.cells #[.int .i64 0,.int .i64 0,.int .i64 0,.int .i64 0,.int .i64 0] 26
def c5S (n:Int) (w:World) (C:Array Value) (i:Value) (wr:World):Prop:=
 ∃j:Nat,j<=64/\i=.int .i64 j/\Hid (∀j',j'<j->a0R n j'=false)/\Below (w.heap.size+2) ((w.alloc a1U).alloc (.cells C 214)) wr
theorem a66 {w wr:World} {C:Array Value} (hB:Below (w.heap.size+2) ((w.alloc a1U).alloc (.cells C 214)) wr):
    (∀o,o<5->wr.cell? ⟨w.heap.size,o,none⟩=some (.int .i64 0))/\(∀o,wr.frozen? ⟨w.heap.size,o,none⟩=false)/\(∀o,wr.cell? ⟨w.heap.size+1,o,none⟩=C[o]?)/\w.heap.size+2<=wr.heap.size:=by
 refine ⟨fun o ho=>(hB.cell (p:=⟨w.heap.size,o,none⟩) (by simp)).trans ?_,fun o=>(hB.frozen (p:=⟨w.heap.size,o,none⟩) (by simp)).trans ?_,fun o=>(hB.cell (p:=⟨w.heap.size+1,o,none⟩) (by simp)).trans ?_,by have:=hB.size;simp at this;omega⟩
 ·unfold a1U
  rcases o with _|_|_|_|_|o
  all_goals first|omega|go_simp
 ·unfold a1U;go_simp
 ·go_simp
def c6S (w:World) (C:Array Value) (b kd:Nat) (w2:World):Prop:=
 w2.cell? ⟨b,1,none⟩=some (.int .u8 kd)/\w.heap.size+2<=b/\b<w2.heap.size/\Below (w.heap.size+2) ((w.alloc a1U).alloc (.cells C 214)) w2
theorem c0A {w wr:World} {C:Array Value} (hB:Below (w.heap.size+2) ((w.alloc a1U).alloc (.cells C 214)) wr) (hz:w.heap.size+2<=wr.heap.size)
    (s:ByteArray) (kd:Nat) (a b c:Value) (t nq:Nat):c6S w C wr.heap.size kd ((wr.alloc (.cells #[.string s,.int .u8 kd,a,b,c] t)).drewN nq):=
 ⟨by go_simp,hz,by show wr.heap.size<(wr.alloc _).heap.size;simp,below_drewN (hB.alloc hz _) _⟩
theorem c16 {w w2 w3:World} {C:Array Value} (hB:Below (w.heap.size+2) ((w.alloc a1U).alloc (.cells C 214)) w2) (hz:w.heap.size+2<=w2.heap.size)
    {a b c d e:Value} {t:Nat} (hB3:Below (w2.alloc (.cells #[a,b,c,d,e] t)).heap.size (w2.alloc (.cells #[a,b,c,d,e] t)) w3):
    (w3.cell? ⟨w2.heap.size,0,none⟩=some a/\w3.cell? ⟨w2.heap.size,1,none⟩=some b/\w3.cell? ⟨w2.heap.size,2,none⟩=some c/\w3.cell? ⟨w2.heap.size,3,none⟩=some d/\w3.cell? ⟨w2.heap.size,4,none⟩=some e)/\
    Below (w.heap.size+2) ((w.alloc a1U).alloc (.cells C 214)) w3:=by
 refine ⟨⟨(hB3.cell (p:=⟨w2.heap.size,0,none⟩) (by simp)).trans (by go_simp),(hB3.cell (p:=⟨w2.heap.size,1,none⟩) (by simp)).trans (by go_simp),(hB3.cell (p:=⟨w2.heap.size,2,none⟩) (by simp)).trans (by go_simp),(hB3.cell (p:=⟨w2.heap.size,3,none⟩) (by simp)).trans (by go_simp),(hB3.cell (p:=⟨w2.heap.size,4,none⟩) (by simp)).trans (by go_simp)⟩,?_⟩
 exact (hB.alloc hz _).trans (hB3.mono (by simp;omega))
theorem c8S {a b:Value} {v:Value} (h:v=.tuple #[a,b]):Ending.returned v=.returned (.tuple #[a,b]):=by rw[h]
theorem a2o {w w3:World} (h:Below w.heap.size w w3) (a b c d e:Value):
    Below w.heap.size w (((((w3.setCell ⟨w.heap.size,0,none⟩ a).setCell ⟨w.heap.size,1,none⟩ b).setCell ⟨w.heap.size,2,none⟩ c).setCell ⟨w.heap.size,3,none⟩ d).setCell ⟨w.heap.size,4,none⟩ e):=
 ((((h.setCell (Nat.le_refl _) _).setCell (Nat.le_refl _) _).setCell (Nat.le_refl _) _).setCell (Nat.le_refl _) _).setCell (Nat.le_refl _) _
theorem a8P (n:Int) (w:World) (n0:0<=n) (n1:n<4294967296):
    Calls prog 93 #[.int .i64 n] w fun e w'=>e=.returned (.tuple #[(Pn.dec n).1.val,.int .i64 (Pn.dec n).2])/\Below w.heap.size w w':=by
 have p32:a2A 32=4294967296:=rfl;go_enter func93,ntmps93
 go_wp2_with (first
  | (go_at_call 158;refine (a0x _ _ (by decide) (by decide)).mono ?_;rintro e w' ⟨rfl,rfl⟩)
  | (go_at_call 157;refine (a8S _).mono ?_;rintro e w' ⟨C,hC,rfl,rfl⟩))
 go_loopw [5] (fun i wr=>c5S n w C i wr) (fun i _=>64-(intOf i).toNat)
 case atStart=>exact ⟨0,by omega,rfl,fun _ h=>by omega,Below.refl _ _⟩
 case round=>
  obtain ⟨k,hk,rfl,hno,hB⟩:=hrel;obtain ⟨z0,zf,tc,hz⟩:=a66 hB;by_cases hlt:k<64
  ·obtain ⟨r0,r1,r2,r3,r4⟩:=hC k hlt
   have t0:=(tc (k*5)).trans r0;have t1:=(tc (k*5+1)).trans r1;have t2:=(tc (k*5+2)).trans r2;have t3:=(tc (k*5+3)).trans r3;have t4:=(tc (k*5+4)).trans r4;have HC:Hid (c3Y C):=hC;have HB:Hid (Below (w.heap.size+2) ((w.alloc a1U).alloc (.cells C 214)) wr):=hB;(have y0:=z0 0 (by omega));(have y1:=z0 1 (by omega));(have y2:=z0 2 (by omega));(have y3:=z0 3 (by omega));(have y4:=z0 4 (by omega));(have hlt2:(k:Int)<64:=by omega);clear hC hB tc z0 r0 r1 r2 r3 r4;go_wp2_with fail;(go_quiet ((go_at_call 159;exact Calls.quiet_of_same (a2g _ _ _ _ (by omega) (by omega) (by decide) (by decide) (by decide)))));by_cases hop:(a0c n 6 0 != (Pn.row k).opc)=true
   ·go_wp2_with fail
    go_roundw;(case rel=>exact ⟨k+1,by omega,by go_num,b3z hno (b8K hop),below_drewN (HB.out.alloc hz _) _⟩);case measure=>simp[intOf];omega
   ·have hop':(a0c n 6 0 != (Pn.row k).opc)=false:=by simpa using hop
    clear hop;have HD:c6S w C wr.heap.size (Pn.row k).kind ((wr.alloc (Obj.cells #[Value.string { data:=(Pn.row k).name.toArray },Value.int IntKind.u8 ↑(Pn.row k).kind,Value.int IntKind.i64 (Pn.row k).opc,Value.int IntKind.i64 (Pn.row k).f,Value.int IntKind.i64 (Pn.row k).g] 214)).drewN nq):=c0A HB.out hz _ _ _ _ _ _ _;clear t0 t1 t2 t3 t4 y0 y1 y2 y3 y4 zf HB;generalize hb:wr.heap.size=b at *;clear hb;generalize (wr.alloc (Obj.cells #[Value.string { data:=(Pn.row k).name.toArray },Value.int IntKind.u8 ↑(Pn.row k).kind,Value.int IntKind.i64 (Pn.row k).opc,Value.int IntKind.i64 (Pn.row k).f,Value.int IntKind.i64 (Pn.row k).g] 214)).drewN nq=w2 at HD ⊢;rcases Pn.kinds k hlt with hkd|hkd|hkd|hkd|hkd|hkd|hkd|hkd|hkd|hkd
    all_goals
     first
     | ((have HI:Hid (a0w k n=⟨k+1,(a0c n 11 7),(a0c n 19 15),(a0c n 24 20),0⟩):=b0h k n hkd);(have hh:Pn.has 82=(true,true,true):=rfl))
     | ((have HI:Hid (a0w k n=⟨k+1,(a0c n 11 7),(a0c n 19 15),0,(a0E (a0c n 31 20) 12)⟩):=b0a k n hkd);(have hh:Pn.has 73=(true,true,false):=rfl);(have b31_20:=a5i n))
     | ((have HI:Hid (a0w k n=⟨k+1,(a0c n 11 7),(a0c n 19 15),0,(a0E (a0c n 31 20) 12)⟩):=b0W k n hkd);(have hh:Pn.has 76=(true,true,false):=rfl);(have b31_20:=a5i n))
     | ((have HI:Hid (a0w k n=⟨k+1,(a0c n 11 7),(a0c n 19 15),0,(a0c n 25 20)⟩):=b0N k n hkd);(have hh:Pn.has 72=(true,true,false):=rfl);(have b25_20:=b0L n))
     | ((have HI:Hid (a0w k n=⟨k+1,(a0c n 11 7),(a0c n 19 15),0,(a0c n 24 20)⟩):=b0K k n hkd);(have hh:Pn.has 87=(true,true,false):=rfl);(have b24_20:=a5e n))
     | ((have HI:Hid (a0w k n=⟨k+1,0,(a0c n 19 15),(a0c n 24 20),(a0E (a0c n 31 25*32+a0c n 11 7) 12)⟩):=b0y k n hkd);(have hh:Pn.has 83=(false,true,true):=rfl);(have b31_25:=a7n n);(have b11_7:=a26 n))
     | ((have HI:Hid (a0w k n=⟨k+1,0,(a0c n 19 15),(a0c n 24 20),(a0E (a0c n 31 31*4096+a0c n 7 7*2048+a0c n 30 25*32+a0c n 11 8*2) 13)⟩):=b0v k n hkd);(have hh:Pn.has 66=(false,true,true):=rfl);(have b31_31:=a3q n);(have b7_7:=b4T n);(have b30_25:=a7E n);(have b11_8:=a9T n))
     | ((have HI:Hid (a0w k n=⟨k+1,(a0c n 11 7),0,0,(a0E (a0c n 31 12) 20)⟩):=b0F k n hkd);(have hh:Pn.has 85=(true,false,false):=rfl);(have b31_12:=b0p n))
     | ((have HI:Hid (a0w k n=⟨k+1,(a0c n 11 7),0,0,(a0E (a0c n 31 31*1048576+a0c n 19 12*4096+a0c n 20 20*2048+a0c n 30 21*2) 21)⟩):=b0r k n hkd);(have hh:Pn.has 74=(true,false,false):=rfl);(have b31_31:=a3q n);(have b19_12:=a5g n);(have b20_20:=a43 n);(have b30_21:=a7r n))
     | ((have HI:Hid (a0w k n=⟨k+1,0,0,0,0⟩):=b0n k n hkd);(have hh:Pn.has 78=(false,false,false):=rfl))
     rw[hkd]at HD;clear hkd;obtain ⟨q1,hb1,hb2,hB⟩:=HD;have HB:Hid (Below (w.heap.size+2) ((w.alloc a1U).alloc (.cells C 214)) w2):=hB;clear hB;have p5:a2A 5=32:=rfl;have p11:a2A 11=2048:=rfl;have p12:a2A 12=4096:=rfl;have p20:a2A 20=1048576:=rfl
     go_wp2_with (first
      | (go_at_call 160;refine (b7r _ _).mono ?_;rintro e w' ⟨rfl,rfl⟩)
      | (go_at_call 159;refine (a2g _ _ _ _ (by omega) (by omega) (by decide) (by decide) (by decide)).mono ?_;rintro e w' ⟨rfl,rfl⟩)
      | (go_at_call 158;refine (a0x _ _ (by decide) (by decide)).mono ?_;rintro e w' ⟨rfl,rfl⟩)
      | (go_at_call 161;refine (a8E _ _ _ (by omega) (by omega) (by decide) (by decide)).mono ?_;rintro e w' ⟨rfl,rfl⟩))
     (have HEN:=fun (w':World)=>a6I (a0w k n) w');rw[HI.out]at HEN;refine (HEN _).mono ?_;clear HEN;obtain ⟨E,hE⟩:∃E,Pn.enc (a0w k n)=E:=⟨_,rfl⟩;rw[HI.out]at hE;rintro e w3 ⟨rfl,hB3⟩;rw[hE];(have HE:=(show Hid _ from hE));clear hE;(obtain ⟨⟨x0,x1,x2,x3,x4⟩,hB4⟩:=c16 HB.out (by omega) hB3);clear hB3 HB q1;obtain ⟨z0,zf,_,hz3⟩:=a66 hB4;have HB4:Hid (Below (w.heap.size+2) ((w.alloc a1U).alloc (.cells C 214)) w3):=hB4;clear hB4;(have y0:=z0 0 (by omega));(have y1:=z0 1 (by omega));(have y2:=z0 2 (by omega));(have y3:=z0 3 (by omega));(have y4:=z0 4 (by omega));clear z0;by_cases e2:(E.2==0)=true
     ·by_cases e1:(E.1==n)=true
      ·go_wp2_with fail
       refine bodyPost_ret (v:=.tuple #[(a0w k n).val,.int .i64 0]) (by rw[HI.out];simp[results,results93,go_sem,y0,y1,y2,y3,y4,Pn.Ins.val]) rfl ⟨?_,?_⟩
       ·rw[b9F n0 n1 hlt hno (b6r hop' HI.out HE.out e2 e1)]
       ·exact a2o (((Below.refl _ _).alloc (Nat.le_refl _) _).alloc (by simp) _ |>.trans (HB4.out.mono (by omega))) _ _ _ _ _
      ·have e1':(E.1==n)=false:=by simpa using e1
       go_wp2_with fail;go_roundw;(case rel=>exact ⟨k+1,by omega,by go_num,b3z hno (b2s HI.out HE.out (.inr e1')),HB4.out⟩);case measure=>simp[intOf];omega
     ·have e2':(E.2==0)=false:=by simpa using e2
      go_wp2_with fail;go_roundw;(case rel=>exact ⟨k+1,by omega,by go_num,b3z hno (b2s HI.out HE.out (.inl e2')),HB4.out⟩);case measure=>simp[intOf];omega
  ·have y0:=z0 0 (by omega)
   (have y1:=z0 1 (by omega));(have y2:=z0 2 (by omega));(have y3:=z0 3 (by omega));(have y4:=z0 4 (by omega));have HB:Hid (Below (w.heap.size+2) ((w.alloc a1U).alloc (.cells C 214)) wr):=hB;(have hk64:k=64:=by omega);(have HD:Hid (Pn.dec n=(⟨0,0,0,0,0⟩,1)):=c0a n0 n1 (fun j hj=>hno.out j (by omega)));clear hB tc z0 hk64;go_wp2_with fail;(refine bodyPost_ret (v:=.tuple #[(Pn.Ins.mk 0 0 0 0 0).val,.int .i64 1]) (by simp[results,results93,go_sem,y0,y1,y2,y3,y4,Pn.Ins.val]) rfl ⟨by rw[HD.out],?_⟩);exact a2o (((Below.refl _ _).alloc (Nat.le_refl _) _).alloc (by simp) _ |>.trans (HB.out.mono (by omega))) _ _ _ _ _
