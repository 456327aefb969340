import Derived.Test.YtbmcofdodfcnnaaGreatDoorGM50
import Derived.Test.YtbmcofdodfcnnaaGreatDoorGW10
import Derived.Test.YtbmcofdodfcnnaaGreatDoorGW
import Derived.Test.YtbmcofdodfcnnaaGreatDoorGX
import Derived.Test.YtbmcofdodfcnnaaGreatDoorGK
set_option linter.all false
set_option maxHeartbeats 400000000
set_option maxRecDepth 100000
namespace Go.Proofs.YtbmcofdodfcnnaaGreatDoor
open Pn
open Go.Proofs.Tryz
open Go.RowKit
theorem b8l (w:World):
    Calls prog 165 #[] w fun e w'=>e=.returned (.slice (some ⟨w.heap.size,0,none⟩) 32 32)/\w'=w.alloc (.cells a45 230):=
 b2v _ _ func165 rfl (by kernel_rfl)
theorem b1a (w:World):
    Calls prog 165 #[] w fun e w'=>∃C,b40 C/\e=.returned (.slice (some ⟨w.heap.size,0,none⟩) 32 32)/\w'=w.alloc (.cells C 230):=
 (b8l w).mono fun _ _ h=>⟨_,c6v,h⟩
theorem b2z (F H:ByteArray) (c:Int) (w:World) (hF:F.size=16) (hH:H.size=16):
    Calls prog 242 #[.string F,.string H,.int .u8 c] w fun e w'=>e=.returned (.int .i64 (a4n F H c))/\w'=w:=by
 have hBF:=a9J F;have hBH:=a9J H;have HC:=a0a (a7K F c w (by omega))
 go_enter func242,ntmps242;go_wp2_with fail;go_loop [7,8] (fun n i=>∃k:Nat,k<=16/\i=.int .i64 k/\n=.int .i64 (a5z F H c k)) (fun _ i=>16-(intOf i).toNat)
 case atStart=>exact ⟨0,by omega,rfl,rfl⟩
 case round=>
  obtain ⟨k,hk,rfl,rfl⟩:=hrel;have hb:=b7P F H c k hk;by_cases hlt:k<16
  ·have hu:=(Pn.B H k).toNat_lt
   by_cases hc:(((Pn.B F k).toNat:Int)==c)=true
   ·have HS:=a0a (c2e (H:=H) hc)
    generalize hN:a5z F H c k=N at *;have HN:=a0a hN;clear hN;go_wp2_with fail;go_round;(case rel=>exact ⟨k+1,by omega,by go_num,by rw[a0b HS]⟩);case measure=>simp[intOf];omega
   ·have hc':(((Pn.B F k).toNat:Int)==c)=false:=by simpa using hc
    clear hc;have HS:=a0a (c4X (H:=H) hc');generalize hN:a5z F H c k=N at *;have HN:=a0a hN;clear hN;go_wp2_with fail;go_round;(case rel=>exact ⟨k+1,by omega,by go_num,by rw[a0b HS]⟩);case measure=>simp[intOf];omega
  ·have hke:k=16:=by omega
   subst hke;(have HR:=a0a (show a4n F H c=if Pn.cnt F c F.size=3 then a5z F H c 16+8 else a5z F H c 16 from rfl));generalize hN:a5z F H c 16=N at *;have HN:=a0a hN;clear hN;go_wp2_with fail;refine HC.out.mono ?_;rintro e w' ⟨rfl,rfl⟩;by_cases h3:Pn.cnt F c F.size=3
   ·have h3':(Pn.cnt F c F.size==3)=true:=by simpa using h3
    have HR2:=a0a (HR.out.trans (if_pos h3));generalize Pn.cnt F c F.size=q at *;go_wp2_with fail;go_ret;exact ⟨a0P HR2.out.symm,rfl⟩
   ·have h3':(Pn.cnt F c F.size==3)=false:=by simpa using h3
    have HR2:=a0a (HR.out.trans (if_neg h3));generalize Pn.cnt F c F.size=q at *;go_wp2_with fail;go_ret;exact ⟨a0P HR2.out.symm,rfl⟩
theorem b7i (F H:ByteArray) (sg:Bool) (o a b c d:Value) (w:World) (hF:F.size=16) (hH:H.size=16) (h01:b5q H):
    Calls prog 212 #[.agg #[.string F,o,a,b,c,.bool sg,d],.string H] w fun e w'=>e=.returned (.int .i64 (b6s F H sg))/\Below w.heap.size w w':=by
 have hBF:=a9J F;have hBH:=a9J H;have HP:=a0a (fun k w h0 h1=>a0x k w h0 h1)
 have HS:=a0a (fun n s w h0 h1 h2 h3=>a8E n s w h0 h1 h2 h3)
 have c0:(w.alloc (.cells #[.string F,o,a,b,c,.bool sg,d] 230)).cell? ⟨w.heap.size,0,none⟩=some (.string F):=by go_simp
 have c5:(w.alloc (.cells #[.string F,o,a,b,c,.bool sg,d] 230)).cell? ⟨w.heap.size,5,none⟩=some (.bool sg):=by go_simp
 have hsz:w.heap.size<(w.alloc (.cells #[.string F,o,a,b,c,.bool sg,d] 230)).heap.size:=by simp
 have HB1:Hid (Below w.heap.size w (w.alloc (.cells #[.string F,o,a,b,c,.bool sg,d] 230))):=(Below.refl _ _).alloc (Nat.le_refl _) _;go_enter func212,ntmps212;go_wp2_with fail;generalize (w.alloc (.cells #[.string F,o,a,b,c,.bool sg,d] 230))=w1 at *;go_loopw [5,6,7] (fun n m i wr=>∃k:Nat,k<=16/\i=.int .i64 k/\n=.int .i64 (a8V F H k)/\m=.int .i64 (a6F F k)/\Below w1.heap.size w1 wr) (fun _ _ i _=>16-(intOf i).toNat)
 case atStart=>exact ⟨0,by omega,rfl,rfl,rfl,Below.refl _ _⟩
 case round=>
  obtain ⟨k,hk,rfl,rfl,rfl,hB⟩:=hrel;have d0:wr.cell? ⟨w.heap.size,0,none⟩=some (.string F):=(hB.cell (p:=⟨w.heap.size,0,none⟩) hsz).trans c0;have d5:wr.cell? ⟨w.heap.size,5,none⟩=some (.bool sg):=(hB.cell (p:=⟨w.heap.size,5,none⟩) hsz).trans c5;have HB:=a0a hB;clear hB c0 c5;have hb:=b9R F H h01 k hk;have hm:=b7Y F k;by_cases hlt:k<16
  ·have hd:=h01 k hlt
   by_cases hu:a5P F k=true
   ·have hu2:65<=((Pn.B F k).toNat:Int)/\((Pn.B F k).toNat:Int)<=90:=by simpa[a5P] using hu
    (have hp:=b9o (k:=((Pn.B F k).toNat:Int)-65) (by omega) (by omega));have HN1:=a0a (c0F (H:=H) hu);(have HM1:=a0a (fun h=>b8u hu h));(have HM2:=a0a (fun h=>b9H hu h));generalize hN:a8V F H k=N at *;generalize hM:a6F F k=M at *;have HN:=a0a hN;have HM:=a0a hM;clear hN hM;have h65:=hu2.1;have h90:=hu2.2
    have hx:0<=a2A (((Pn.B F k).toNat:Int)-65)*(((Pn.B H k).toNat:Int)-48)/\a2A (((Pn.B F k).toNat:Int)-65)*(((Pn.B H k).toNat:Int)-48)<=33554432:=by
     rcases hd with e|e<;>rw[e]<;>omega
    (have wa:IntKind.i64.wrap (((Pn.B H k).toNat:Int)-48)=((Pn.B H k).toNat:Int)-48:=IntWalk.i64_in _ (by omega));(have wb:IntKind.i64.wrap (a2A (((Pn.B F k).toNat:Int)-65)*(((Pn.B H k).toNat:Int)-48))=a2A (((Pn.B F k).toNat:Int)-65)*(((Pn.B H k).toNat:Int)-48):=IntWalk.i64_in _ (by omega));(have wc:IntKind.i64.wrap (N+a2A (((Pn.B F k).toNat:Int)-65)*(((Pn.B H k).toNat:Int)-48))=N+a2A (((Pn.B F k).toNat:Int)-65)*(((Pn.B H k).toNat:Int)-48):=IntWalk.i64_in _ (by omega));by_cases hmore:((Pn.B F k).toNat:Int)-65+1>M
    ·go_wp2_with fail
     (go_quiet ((go_at_call 158;exact Calls.quiet_of_same (a0x _ _ (by omega) (by omega)))));go_wp2_with fail;go_roundw;(case rel=>exact ⟨k+1,by omega,by go_num,by rw[a0b HN1],by rw[HM1.out hmore],below_drewN HB.out _⟩);case measure=>simp[intOf];omega
    ·go_wp2_with fail
     (go_quiet ((go_at_call 158;exact Calls.quiet_of_same (a0x _ _ (by omega) (by omega)))));go_wp2_with fail;go_roundw;(case rel=>exact ⟨k+1,by omega,by go_num,by rw[a0b HN1],by rw[HM2.out hmore],below_drewN HB.out _⟩);case measure=>simp[intOf];omega
   ·have hu':a5P F k=false:=by simpa using hu
    have hu2:¬65<=((Pn.B F k).toNat:Int)\/¬((Pn.B F k).toNat:Int)<=90:=by
     rcases Decidable.em (65<=((Pn.B F k).toNat:Int)) with h1|h1
     ·right;intro h2;rw[a5P,decide_eq_true h1,decide_eq_true h2]at hu';cases hu'
     ·exact .inl h1
    have HN1:=a0a (c4G (H:=H) hu');have HM1:=a0a (c3t hu');generalize hN:a8V F H k=N at *;generalize hM:a6F F k=M at *;have HN:=a0a hN;have HM:=a0a hM;clear hN hM;by_cases h65:65<=((Pn.B F k).toNat:Int)
    ·have h90:¬((Pn.B F k).toNat:Int)<=90:=by omega
     go_wp2_with fail;go_roundw;(case rel=>exact ⟨k+1,by omega,by go_num,by rw[a0b HN1],by rw[a0b HM1],HB.out⟩);case measure=>simp[intOf];omega
    ·go_wp2_with fail
     go_roundw;(case rel=>exact ⟨k+1,by omega,by go_num,by rw[a0b HN1],by rw[a0b HM1],HB.out⟩);case measure=>simp[intOf];omega
  ·have hke:k=16:=by omega
   subst hke;(have HR:=a0a (show b6s F H sg=if sg=true/\0<a6F F 16 then a0E (a8V F H 16) (a6F F 16) else a8V F H 16 from rfl));generalize hN:a8V F H 16=N at *;generalize hM:a6F F 16=M at *;have HN:=a0a hN;have HM:=a0a hM;clear hN hM;by_cases h0:0<M
   ·cases sg
    ·have HR2:=a0a (HR.out.trans (if_neg (by simp)))
     go_wp2_with fail;go_ret;exact ⟨a0P HR2.out.symm,HB1.out.trans (HB.out.mono HB1.out.size)⟩
    ·have HR2:=a0a (HR.out.trans (if_pos ⟨rfl,h0⟩))
     go_wp2_with fail;(refine (HS.out _ _ _ (by omega) (by omega) (by omega) (by omega)).mono ?_);rintro e w' ⟨rfl,rfl⟩;go_wp2_with fail;go_ret;exact ⟨a0P HR2.out.symm,HB1.out.trans (HB.out.mono HB1.out.size)⟩
   ·have HR2:=a0a (HR.out.trans (if_neg (by omega)))
    cases sg
    all_goals
     go_wp2_with fail;go_ret;exact ⟨a0P HR2.out.symm,HB1.out.trans (HB.out.mono HB1.out.size)⟩
theorem b0Y (F H s:ByteArray) (o a b c g d:Value) (w:World) (hF:F.size=16) (hH:H.size=16) (hs:0<s.size):
    Calls prog 211 #[.agg #[.string F,o,a,b,c,g,d],.string H,.string s] w fun e w'=>e=.returned (.int .i64 (a1L F H s))/\Below w.heap.size w w':=by
 have hBs:=a9J s;have HR:=a0a (show a1L F H s=_ from rfl)
 unfold a1L at HR;have hal:=fun (w:World) o=>(Below.refl w.heap.size w).alloc (Nat.le_refl _) o
 have HA:=a0a hal;clear hal;by_cases h1:(s.toList==[45])=true
 ·have HR2:=a0a (HR.out.trans (if_pos h1))
  go_enter func211,ntmps211;go_wp2_with fail;go_ret;exact ⟨a0P HR2.out.symm,HA.out _ _⟩
 ·have HR1:=a0a (HR.out.trans (if_neg h1))
  have h1':(s.toList==[45])=false:=by simpa using h1
  by_cases h2:(s.toList==[48])=true
  ·have HR2:=a0a (HR1.out.trans (if_pos h2))
   go_enter func211,ntmps211;go_wp2_with fail;go_ret;exact ⟨a0P HR2.out.symm,HA.out _ _⟩
  ·have HR3:=a0a (HR1.out.trans (if_neg h2))
   (have h2':(s.toList==[48])=false:=by simpa using h2);by_cases h3:(s.toList==[49])=true
   ·have HR2:=a0a (HR3.out.trans (if_pos h3))
    go_enter func211,ntmps211;go_wp2_with fail;go_ret;exact ⟨a0P HR2.out.symm,HA.out _ _⟩
   ·have HR4:=a0a (HR3.out.trans (if_neg h3))
    (have h3':(s.toList==[49])=false:=by simpa using h3);by_cases h4:(s.toList==[50])=true
    ·have HR2:=a0a (HR4.out.trans (if_pos h4))
     go_enter func211,ntmps211;go_wp2_with fail;go_ret;exact ⟨a0P HR2.out.symm,HA.out _ _⟩
    ·have HR5:=a0a (HR4.out.trans (if_neg h4))
     (have h4':(s.toList==[50])=false:=by simpa using h4);clear h1 h2 h3 h4;go_enter func211,ntmps211;go_wp2_with fail;go_quiet ((go_at_call 242;exact Calls.quiet_of_same (b2z F H _ _ hF hH)));go_wp2_with fail;go_ret;exact ⟨a0P HR5.out.symm,below_drewN (HA.out _ _) _⟩
theorem a3p {a b:Bool} (h:a=b):Ending.returned (.bool a)=.returned (.bool b):=by rw[h]
theorem c62 (F H c:ByteArray) (sg:Bool) (o a b g:Value) (w:World) (hF:F.size=16) (hH:H.size=16) (h01:b5q H):
    Calls prog 210 #[.agg #[.string F,o,a,b,g,.bool sg,.string c],.string H] w fun e w'=>
     e=.returned (.bool (b3y (a4n F H 100) (a4n F H 115) (a4n F H 116) (b6s F H sg) c))/\Below w.heap.size w w':=by
 have HL:=a0a (fun c w=>b2z F H c w hF hH)
 have HI:=a0a (fun o a b c d w=>b7i F H sg o a b c d w hF hH h01)
 have HA:=a0a (fun (w:World) o=>(Below.refl w.heap.size w).alloc (Nat.le_refl _) o)
 go_enter func210,ntmps210;go_wp2_with (first|(go_at_call 242;refine (HL.out _ _).mono ?_;rintro e w' ⟨rfl,rfl⟩));refine (HI.out _ _ _ _ _ _).mono ?_;rintro e w2 ⟨rfl,hB2⟩;have c6:w2.cell? ⟨w.heap.size,6,none⟩=some (.string c):=(hB2.cell (p:=⟨w.heap.size,6,none⟩) (by show w.heap.size<_;simp)).trans (by go_simp)
 have HB:=a0a ((HA.out w (.cells #[.string F,o,a,b,g,.bool sg,.string c] 230)).trans (hB2.mono (by simp)))
 clear hB2;generalize qD:a4n F H 100=D at *;generalize qT1:a4n F H 115=T1 at *;generalize qT2:a4n F H 116=T2 at *;generalize qN:b6s F H sg=N at *;have QD:=a0a qD;have Q1:=a0a qT1;have Q2:=a0a qT2;have QN:=a0a qN;clear qD qT1 qT2 qN;have HR:=a0a (c4N D T1 T2 N c);by_cases h0:(c.toList==[105])=true
 ·have HR0x:=a0a (HR.out.trans (if_pos h0))
  go_wp2_with fail
  all_goals
   go_ret;(refine ⟨a3p (Eq.trans ?_ (show b3y D T1 T2 N c=_ by rw[a0b QD,a0b Q1,a0b Q2,a0b QN])),HB.out⟩);rw[a0b HR0x]
   all_goals first|rfl|simp_all
 ·have HRn0:=a0a (HR.out.trans (if_neg h0))
  have h0:(c.toList==[105])=false:=by simpa using h0
  by_cases h1:(c.toList==[100])=true
  ·have HR1x:=a0a (HRn0.out.trans (if_pos h1))
   go_wp2_with fail
   all_goals
    go_ret;(refine ⟨a3p (Eq.trans ?_ (show b3y D T1 T2 N c=_ by rw[a0b QD,a0b Q1,a0b Q2,a0b QN])),HB.out⟩);rw[a0b HR1x]
    all_goals first|rfl|simp_all
  ·have HRn1:=a0a (HRn0.out.trans (if_neg h1))
   (have h1:(c.toList==[100])=false:=by simpa using h1);by_cases h2:(c.toList==[98,111,116,104])=true
   ·have HR2x:=a0a (HRn1.out.trans (if_pos h2))
    go_wp2_with fail
    all_goals
     go_ret;(refine ⟨a3p (Eq.trans ?_ (show b3y D T1 T2 N c=_ by rw[a0b QD,a0b Q1,a0b Q2,a0b QN])),HB.out⟩);rw[a0b HR2x]
     all_goals first|rfl|simp_all
   ·have HRn2:=a0a (HRn1.out.trans (if_neg h2))
    (have h2:(c.toList==[98,111,116,104])=false:=by simpa using h2);by_cases h3:(c.toList==[100,50,105])=true
    ·have HR3x:=a0a (HRn2.out.trans (if_pos h3))
     go_wp2_with fail
     all_goals
      go_ret;(refine ⟨a3p (Eq.trans ?_ (show b3y D T1 T2 N c=_ by rw[a0b QD,a0b Q1,a0b Q2,a0b QN])),HB.out⟩);rw[a0b HR3x]
      all_goals first|rfl|simp_all
    ·have HRn3:=a0a (HRn2.out.trans (if_neg h3))
     (have h3:(c.toList==[100,50,105])=false:=by simpa using h3);by_cases h4:(c.toList==[100,105])=true
     ·have HR4x:=a0a (HRn3.out.trans (if_pos h4))
      go_wp2_with fail
      all_goals
       go_ret;(refine ⟨a3p (Eq.trans ?_ (show b3y D T1 T2 N c=_ by rw[a0b QD,a0b Q1,a0b Q2,a0b QN])),HB.out⟩);rw[a0b HR4x]
       all_goals first|rfl|simp_all
     ·have HRn4:=a0a (HRn3.out.trans (if_neg h4))
      (have h4:(c.toList==[100,105])=false:=by simpa using h4);by_cases h5:(c.toList==[115])=true
      ·have HR5x:=a0a (HRn4.out.trans (if_pos h5))
       go_wp2_with fail
       all_goals
        go_ret;(refine ⟨a3p (Eq.trans ?_ (show b3y D T1 T2 N c=_ by rw[a0b QD,a0b Q1,a0b Q2,a0b QN])),HB.out⟩);rw[a0b HR5x]
        all_goals first|rfl|simp_all
      ·have HRn5:=a0a (HRn4.out.trans (if_neg h5))
       (have h5:(c.toList==[115])=false:=by simpa using h5);by_cases h6:(c.toList==[100,116])=true
       ·have HR6x:=a0a (HRn5.out.trans (if_pos h6))
        go_wp2_with fail
        all_goals
         go_ret;(refine ⟨a3p (Eq.trans ?_ (show b3y D T1 T2 N c=_ by rw[a0b QD,a0b Q1,a0b Q2,a0b QN])),HB.out⟩);rw[a0b HR6x]
         all_goals first|rfl|simp_all
       ·have HRn6:=a0a (HRn5.out.trans (if_neg h6))
        (have h6:(c.toList==[100,116])=false:=by simpa using h6);go_wp2_with fail
        all_goals
         go_ret;(refine ⟨a3p (Eq.trans ?_ (show b3y D T1 T2 N c=_ by rw[a0b QD,a0b Q1,a0b Q2,a0b QN])),HB.out⟩);rw[a0b HRn6]
         all_goals first|rfl|simp_all
theorem c2i (w:World) (q:Int) (h:0<=q/\q<=1):(convert 65 9 (.slice (some ⟨w.heap.size,0,none⟩) 1 1)).run prog (w.alloc (.cells #[.int .u8 (48+q)] 5)) =
    .ok (.string ⟨#[UInt8.ofNat (48+q).toNat]⟩) (w.alloc (.cells #[.int .u8 (48+q)] 5)):=
 run_convert_bytes_back _ 65 9 5 ⟨w.heap.size,0,none⟩ 1 [UInt8.ofNat (48+q).toNat] underlying65 underlying5 underlying9 (fun j hj=>by
  obtain rfl:j=0:=by simpa using hj
  have:q=0\/q=1:=by omega
  rcases this with rfl|rfl
  ·go_simp
  ·go_simp)
theorem b1z (h:Int) (w:World) (h0:0<=h) (h1:h<=65535):
    Calls prog 167 #[.int .i64 h] w fun e w'=>e=.returned (.string (a3X h 16))/\Below w.heap.size w w':=by
 go_enter func167,ntmps167;go_wp2_with fail;go_loopw [3,4] (fun s i wr=>∃k:Nat,k<=16/\i=.int .i64 (15-k)/\s=.string (a3X h k)/\Below w.heap.size w wr) (fun _ i _=>(intOf i+1).toNat)
 case atStart=>exact ⟨0,by omega,rfl,rfl,Below.refl _ _⟩
 case round=>
  obtain ⟨k,hk,rfl,rfl,hB⟩:=hrel;have HB:=a0a hB;clear hB;by_cases hlt:k<16
  ·have hq:=a0K h (15-k) (15-k)
   have hq1:0<=a0c h (15-k) (15-k)/\a0c h (15-k) (15-k)<=1:=by
    (have e:(15-(k:Int)).toNat-(15-(k:Int)).toNat+1=1:=by omega);rw[e]at hq;omega
   clear hq;go_wp2_with fail;(refine (a2g _ _ _ _ (by omega) (by omega) (by omega) (by omega) (by omega)).mono ?_);rintro e w1 ⟨rfl,rfl⟩;generalize hQ:a0c h (15-k) (15-k)=q at *;have HQ:=a0a hQ;clear hQ;have hcv:=c2i w1 q hq1;have HS:=a0a (b7C h k);have hsz:=b1c h k;go_wp2_with fail;go_roundw;(case rel=>exact ⟨k+1,by omega,by go_num,by rw[a0b HS,a0b HQ],HB.out.alloc HB.out.size _⟩);case measure=>simp[intOf];omega
  ·have hke:k=16:=by omega
   subst hke;go_wp2_with fail;go_ret;exact ⟨rfl,HB.out⟩
theorem a5Q {b c:Nat} {vs:List Value} {w:World} (h:CellsAt b vs w) (hc:b≠c) (q:Nat) (v:Value):CellsAt b vs (w.setCell ⟨c,q,none⟩ v):=by
 refine ⟨by simpa[World.setCell] using h.1,fun p=>?_,fun j u hj=>?_⟩
 ·rw[World.frozen?_setCell];exact h.2.1 p
 ·rw[World.cell?_setCell_other _ _ _ _ (by intro h';injection h' with h1;exact hc h1.symm)]
  exact h.2.2 j u hj
structure StD (w:World) (bx:Nat) (f x:List Value) (V:World):Prop where
 f:CellsAt w.heap.size f V
 z:CellsAt (w.heap.size+1) [.int .i64 0,.int .i64 0,.int .i64 0,.int .i64 0,.int .i64 0] V
 x:CellsAt bx x V
 b:Below w.heap.size w V
 lt:w.heap.size+1<bx
theorem StD.next {w V V':World} {bx:Nat} {f x:List Value} (h:StD w bx f x V) (hB:Below V.heap.size V V'):StD w bx f x V':=⟨h.f.next hB,h.z.next hB,h.x.next hB,h.b.trans (hB.mono h.b.size),h.lt⟩
theorem StD.set {w V:World} {bx:Nat} {f:List Value} {x0 x1 x2 x3 x4:Value} (h:StD w bx f [x0,x1,x2,x3,x4] V) (q:Nat) (v:Value) (hq:q<5:=by decide):StD w bx f ([x0,x1,x2,x3,x4].set q v) (V.setCell ⟨bx,q,none⟩ v):=
 ⟨a5Q h.f (by have:=h.lt;omega) _ _,a5Q h.z (by have:=h.lt;omega) _ _,h.x.set q v hq,h.b.setCell (by have:=h.lt;show w.heap.size<=bx;omega) _,h.lt⟩
theorem c1M {w w3:World} (h:Below w.heap.size w w3) (a b c d e:Value):Below w.heap.size w (((((w3.setCell ⟨w.heap.size+1,0,none⟩ a).setCell ⟨w.heap.size+1,1,none⟩ b).setCell ⟨w.heap.size+1,2,none⟩ c).setCell ⟨w.heap.size+1,3,none⟩ d).setCell ⟨w.heap.size+1,4,none⟩ e):=
 ((((h.setCell (Nat.le_succ _) a).setCell (Nat.le_succ _) b).setCell (Nat.le_succ _) c).setCell (Nat.le_succ _) d).setCell (Nat.le_succ _) e
theorem b7Q (F H rd rs1 rs2 c:ByteArray) (op:Int) (sg:Bool) (w:World) (hF:F.size=16) (hH:H.size=16) (h01:b5q H) (s1:0<rd.size) (s2:0<rs1.size) (s3:0<rs2.size):
    Calls prog 168 #[.agg #[.string F,.int .i64 op,.string rd,.string rs1,.string rs2,.bool sg,.string c],.string H] w fun e w'=>e=.returned (a3v (a5w F H rd rs1 rs2 c op sg))/\Below w.heap.size w w':=by
 have HM:=a0a (fun o a b g w'=>c62 F H c sg o a b g w' hF hH h01)
 have HB:=a0a (a9J F);have HB2:=a0a (a9J H);go_enter func168,ntmps168;go_wp2_with fail;obtain ⟨W1,hW1⟩:∃W1,(w.alloc (.cells #[.string F,.int .i64 op,.string rd,.string rs1,.string rs2,.bool sg,.string c] 230)).alloc (.cells #[.int .i64 0,.int .i64 0,.int .i64 0,.int .i64 0,.int .i64 0] 26)=W1:=⟨_,rfl⟩;have HC:Hid (CellsAt w.heap.size [.string F,.int .i64 op,.string rd,.string rs1,.string rs2,.bool sg,.string c] W1):=a0a (by rw[<-hW1];exact (CellsAt.new w [.string F,.int .i64 op,.string rd,.string rs1,.string rs2,.bool sg,.string c] 230).alloc _)
 have HX:Hid (CellsAt (w.heap.size+1) [.int .i64 0,.int .i64 0,.int .i64 0,.int .i64 0,.int .i64 0] W1):=a0a (by
  rw[<-hW1];have:=CellsAt.new (w.alloc (.cells #[.string F,.int .i64 op,.string rd,.string rs1,.string rs2,.bool sg,.string c] 230)) [.int .i64 0,.int .i64 0,.int .i64 0,.int .i64 0,.int .i64 0] 26;rwa[World.size_alloc]at this)
 have HB1:Hid (Below w.heap.size w W1):=a0a (by rw[<-hW1];exact ((Below.refl _ _).alloc (Nat.le_refl _) _).alloc (by rw[World.size_alloc];omega) _)
 rw[hW1];clear hW1;go_loopw [6] (fun v wr=>∃i:Nat,v=.int .i64 i/\i<=16/\b6o F H i=true/\Hid (Below W1.heap.size W1 wr)) (fun v _=>16-(intOf v).toNat)
 case atStart=>exact ⟨0,rfl,by omega,rfl,a0a (Below.refl _ _)⟩
 case round=>
  obtain ⟨i,rfl,hi,hfit,HBw⟩:=hrel;have HCw:=a0a (HC.out.next HBw.out);have k0:=HCw.out.2.2 0 _ rfl;by_cases hlt:i<16
  ·have hlti:(i:Int)<16:=by omega
   (have hiF:(i:Int)<F.size:=by omega);(have hiH:(i:Int)<H.size:=by omega);(have b1:((F[i]'(by omega)).toNat:Int)=((Pn.B F i).toNat:Int):=by rw[a9J F i (by omega)]);(have b2:((H[i]'(by omega)).toNat:Int)=((Pn.B H i).toNat:Int):=by rw[a9J H i (by omega)]);(have wi:IntKind.i64.wrap ((i:Int)+1)=(i:Int)+1:=IntWalk.i64_in _ (by omega));have hz:=HX.out.next HBw.out;have z0:=hz.2.2 0 _ rfl;have z1:=hz.2.2 1 _ rfl;have z2:=hz.2.2 2 _ rfl;have z3:=hz.2.2 3 _ rfl;have z4:=hz.2.2 4 _ rfl;have zf:=hz.2.1;have HMF:Hid (Pn.misfit F H i=((((Pn.B F i).toNat:Int)==48||((Pn.B F i).toNat:Int)==49)&&(((Pn.B F i).toNat:Int) != ((Pn.B H i).toNat:Int)))):=a0a rfl;have HNX:Hid (b6o F H (i+1)=(b6o F H i&&!Pn.misfit F H i)):=a0a rfl;(have HNO:=a0a (fun h=>b7f (F:=F) (H:=H) (i:=i) h 16 (by omega)));(have HST:Hid (b6o F H 16=false->a5w F H rd rs1 rs2 c op sg=none):=a0a (fun h=>by unfold a5w;rw[h,if_neg (by decide)]));have HBB:=a0a (HB1.out.trans (HBw.out.mono HB1.out.size));generalize ((Pn.B F i).toNat:Int)=x at *;generalize ((Pn.B H i).toNat:Int)=y at *;by_cases h48:x=48
   ·subst h48
    by_cases hy:y=48
    ·subst hy
     go_wp2_with fail;go_quiet (fail);go_wp2_with fail;go_roundw;(case rel=>exact ⟨i+1,by go_num,by omega,by rw[HNX.out,hfit,HMF.out];rfl,a0a (below_drewN HBw.out _)⟩);case measure=>simp[intOf];omega
    ·have hy2:¬48=y:=fun e=>hy e.symm
     go_wp2_with fail;go_quiet (fail);go_wp2_with fail;refine bodyPost_ret (v:=a3v none) (by simp[results,results168,go_sem,a3v,Pn.Ins.val,z0,z1,z2,z3,z4]) rfl ⟨by rw[HST.out (HNO.out (by rw[HMF.out];simp[hy2]))],c1M (below_drewN HBB.out _) _ _ _ _ _⟩
   ·by_cases h49:x=49
    ·subst h49
     by_cases hy:y=49
     ·subst hy
      go_wp2_with fail;go_quiet (fail);go_wp2_with fail;go_roundw;(case rel=>exact ⟨i+1,by go_num,by omega,by rw[HNX.out,hfit,HMF.out];rfl,a0a (below_drewN HBw.out _)⟩);case measure=>simp[intOf];omega
     ·have hy2:¬49=y:=fun e=>hy e.symm
      go_wp2_with fail;go_quiet (fail);go_wp2_with fail;refine bodyPost_ret (v:=a3v none) (by simp[results,results168,go_sem,a3v,Pn.Ins.val,z0,z1,z2,z3,z4]) rfl ⟨by rw[HST.out (HNO.out (by rw[HMF.out];simp[hy2]))],c1M (below_drewN HBB.out _) _ _ _ _ _⟩
    ·go_wp2_with fail
     go_quiet (fail);go_wp2_with fail;go_roundw;(case rel=>exact ⟨i+1,by go_num,by omega,by rw[HNX.out,hfit,HMF.out];simp[h48,h49],a0a (below_drewN HBw.out _)⟩);case measure=>simp[intOf];omega
  ·have hi16:i=16:=by omega
   subst hi16;have HBB:=a0a (HB1.out.trans (HBw.out.mono HB1.out.size));have hz:=HX.out.next HBw.out;have z0:=hz.2.2 0 _ rfl;have z1:=hz.2.2 1 _ rfl;have z2:=hz.2.2 2 _ rfl;have z3:=hz.2.2 3 _ rfl;have z4:=hz.2.2 4 _ rfl;have zf:=hz.2.1;have k1:=HCw.out.2.2 1 _ rfl;have k2:=HCw.out.2.2 2 _ rfl;have k3:=HCw.out.2.2 3 _ rfl;have k4:=HCw.out.2.2 4 _ rfl;have k5:=HCw.out.2.2 5 _ rfl;have k6:=HCw.out.2.2 6 _ rfl;(have HST:Hid (a5w F H rd rs1 rs2 c op sg=if b3y (a4n F H 100) (a4n F H 115) (a4n F H 116) (b6s F H sg) c=true then some (a4L F H rd rs1 rs2 op sg) else none):=a0a (by unfold a5w;rw[if_pos hfit]));clear hlt hi;go_wp2_with fail;refine (HM.out _ _ _ _ _).mono ?_;rintro e w2 ⟨rfl,hB2⟩;have HBB:=a0a (HBB.out.trans (hB2.mono HBB.out.size));have HC2:=a0a (HCw.out.next hB2);have HZ2:=a0a (hz.next hB2);clear hB2 HCw hz z0 z1 z2 z3 z4 zf k0 k1 k2 k3 k4 k5 k6 HBw HX HC HB1 HM;generalize b3y (a4n F H 100) (a4n F H 115) (a4n F H 116) (b6s F H sg) c=MB at *;have z0:=HZ2.out.2.2 0 _ rfl;have z1:=HZ2.out.2.2 1 _ rfl;have z2:=HZ2.out.2.2 2 _ rfl;have z3:=HZ2.out.2.2 3 _ rfl;have z4:=HZ2.out.2.2 4 _ rfl;have zf:=HZ2.out.2.1;cases MB
   ·go_wp2_with fail
    refine bodyPost_ret (v:=a3v none) (by simp[results,results168,go_sem,a3v,Pn.Ins.val,z0,z1,z2,z3,z4]) rfl ⟨by rw[HST.out];rfl,c1M HBB.out _ _ _ _ _⟩
   ·have k0:=HC2.out.2.2 0 _ rfl
    have k1:=HC2.out.2.2 1 _ rfl;have k2:=HC2.out.2.2 2 _ rfl;have k3:=HC2.out.2.2 3 _ rfl;have k4:=HC2.out.2.2 4 _ rfl;have k5:=HC2.out.2.2 5 _ rfl;have k6:=HC2.out.2.2 6 _ rfl;go_upto_region 10 with fail;(have HD:Hid (StD w w2.heap.size [.string F,.int .i64 op,.string rd,.string rs1,.string rs2,.bool sg,.string c] [.int .i64 op,.int .i64 0,.int .i64 0,.int .i64 0,.int .i64 0] (w2.alloc (.cells #[.int .i64 op,.int .i64 0,.int .i64 0,.int .i64 0,.int .i64 0] 26))):=a0a ⟨HC2.out.alloc _,HZ2.out.alloc _,CellsAt.new w2 [.int .i64 op,.int .i64 0,.int .i64 0,.int .i64 0,.int .i64 0] 26,HBB.out.alloc HBB.out.size _,by have:=HZ2.out.1;omega⟩);generalize w2.alloc _=W3 at *;generalize hbx:w2.heap.size=bx at *;(have hn1:¬w.heap.size=bx:=by have:=HC2.out.1;omega);(have hn2:¬bx=w.heap.size:=by have:=HC2.out.1;omega);(have hn3:¬w.heap.size+1=bx:=by have:=HZ2.out.1;omega);(have hn4:¬bx=w.heap.size+1:=by have:=HZ2.out.1;omega);clear z0 z1 z2 z3 z4 zf HC2 HZ2 HBB hbx;clear k0 k1 k2 k3 k4 k5 k6;have k0:=HD.out.f.2.2 0 _ rfl;have k1:=HD.out.f.2.2 1 _ rfl;have k2:=HD.out.f.2.2 2 _ rfl;have k3:=HD.out.f.2.2 3 _ rfl;have k4:=HD.out.f.2.2 4 _ rfl;have k5:=HD.out.f.2.2 5 _ rfl;have k6:=HD.out.f.2.2 6 _ rfl;have y0:=HD.out.x.2.2 0 _ rfl;have y1:=HD.out.x.2.2 1 _ rfl;have y2:=HD.out.x.2.2 2 _ rfl;have y3:=HD.out.x.2.2 3 _ rfl;have y4:=HD.out.x.2.2 4 _ rfl;have yf:=HD.out.x.2.1;go_wp2_with fail;refine (b0Y F H rd _ _ _ _ _ _ _ hF hH s1).mono ?_;rintro e w4 ⟨rfl,hB⟩;have HD:=a0a (HD.out.next hB);clear hB;have k0:=HD.out.f.2.2 0 _ rfl;have k1:=HD.out.f.2.2 1 _ rfl;have k2:=HD.out.f.2.2 2 _ rfl;have k3:=HD.out.f.2.2 3 _ rfl;have k4:=HD.out.f.2.2 4 _ rfl;have k5:=HD.out.f.2.2 5 _ rfl;have k6:=HD.out.f.2.2 6 _ rfl;have y0:=HD.out.x.2.2 0 _ rfl;have y1:=HD.out.x.2.2 1 _ rfl;have y2:=HD.out.x.2.2 2 _ rfl;have y3:=HD.out.x.2.2 3 _ rfl;have y4:=HD.out.x.2.2 4 _ rfl;have yf:=HD.out.x.2.1;go_upto_region 11 with fail;have HD:=a0a (HD.out.set 1 (.int .i64 (a1L F H rd)));generalize World.setCell w4 _ _=V4 at *;clear k0 k1 k2 k3 k4 k5 k6 y0 y1 y2 y3 y4 yf;have k0:=HD.out.f.2.2 0 _ rfl;have k1:=HD.out.f.2.2 1 _ rfl;have k2:=HD.out.f.2.2 2 _ rfl;have k3:=HD.out.f.2.2 3 _ rfl;have k4:=HD.out.f.2.2 4 _ rfl;have k5:=HD.out.f.2.2 5 _ rfl;have k6:=HD.out.f.2.2 6 _ rfl;have y0:=HD.out.x.2.2 0 _ rfl;have y1:=HD.out.x.2.2 1 _ rfl;have y2:=HD.out.x.2.2 2 _ rfl;have y3:=HD.out.x.2.2 3 _ rfl;have y4:=HD.out.x.2.2 4 _ rfl;have yf:=HD.out.x.2.1;go_wp2_with fail;refine (b0Y F H rs1 _ _ _ _ _ _ _ hF hH s2).mono ?_;rintro e w5 ⟨rfl,hB⟩;have HD:=a0a (HD.out.next hB);clear hB;have k0:=HD.out.f.2.2 0 _ rfl;have k1:=HD.out.f.2.2 1 _ rfl;have k2:=HD.out.f.2.2 2 _ rfl;have k3:=HD.out.f.2.2 3 _ rfl;have k4:=HD.out.f.2.2 4 _ rfl;have k5:=HD.out.f.2.2 5 _ rfl;have k6:=HD.out.f.2.2 6 _ rfl;have y0:=HD.out.x.2.2 0 _ rfl;have y1:=HD.out.x.2.2 1 _ rfl;have y2:=HD.out.x.2.2 2 _ rfl;have y3:=HD.out.x.2.2 3 _ rfl;have y4:=HD.out.x.2.2 4 _ rfl;have yf:=HD.out.x.2.1;go_upto_region 12 with fail;have HD:=a0a (HD.out.set 2 (.int .i64 (a1L F H rs1)));generalize World.setCell w5 _ _=V5 at *;clear k0 k1 k2 k3 k4 k5 k6 y0 y1 y2 y3 y4 yf;have k0:=HD.out.f.2.2 0 _ rfl;have k1:=HD.out.f.2.2 1 _ rfl;have k2:=HD.out.f.2.2 2 _ rfl;have k3:=HD.out.f.2.2 3 _ rfl;have k4:=HD.out.f.2.2 4 _ rfl;have k5:=HD.out.f.2.2 5 _ rfl;have k6:=HD.out.f.2.2 6 _ rfl;have y0:=HD.out.x.2.2 0 _ rfl;have y1:=HD.out.x.2.2 1 _ rfl;have y2:=HD.out.x.2.2 2 _ rfl;have y3:=HD.out.x.2.2 3 _ rfl;have y4:=HD.out.x.2.2 4 _ rfl;have yf:=HD.out.x.2.1;go_wp2_with fail;refine (b0Y F H rs2 _ _ _ _ _ _ _ hF hH s3).mono ?_;rintro e w6 ⟨rfl,hB⟩;have HD:=a0a (HD.out.next hB);clear hB;have k0:=HD.out.f.2.2 0 _ rfl;have k1:=HD.out.f.2.2 1 _ rfl;have k2:=HD.out.f.2.2 2 _ rfl;have k3:=HD.out.f.2.2 3 _ rfl;have k4:=HD.out.f.2.2 4 _ rfl;have k5:=HD.out.f.2.2 5 _ rfl;have k6:=HD.out.f.2.2 6 _ rfl;have y0:=HD.out.x.2.2 0 _ rfl;have y1:=HD.out.x.2.2 1 _ rfl;have y2:=HD.out.x.2.2 2 _ rfl;have y3:=HD.out.x.2.2 3 _ rfl;have y4:=HD.out.x.2.2 4 _ rfl;have yf:=HD.out.x.2.1;go_upto_region 13 with fail;have HD:=a0a (HD.out.set 3 (.int .i64 (a1L F H rs2)));generalize World.setCell w6 _ _=V6 at *;clear k0 k1 k2 k3 k4 k5 k6 y0 y1 y2 y3 y4 yf;have k0:=HD.out.f.2.2 0 _ rfl;have k1:=HD.out.f.2.2 1 _ rfl;have k2:=HD.out.f.2.2 2 _ rfl;have k3:=HD.out.f.2.2 3 _ rfl;have k4:=HD.out.f.2.2 4 _ rfl;have k5:=HD.out.f.2.2 5 _ rfl;have k6:=HD.out.f.2.2 6 _ rfl;have y0:=HD.out.x.2.2 0 _ rfl;have y1:=HD.out.x.2.2 1 _ rfl;have y2:=HD.out.x.2.2 2 _ rfl;have y3:=HD.out.x.2.2 3 _ rfl;have y4:=HD.out.x.2.2 4 _ rfl;have yf:=HD.out.x.2.1;go_wp2_with fail;refine (b7i F H sg _ _ _ _ _ _ hF hH h01).mono ?_;rintro e w7 ⟨rfl,hB⟩;have HD:=a0a (HD.out.next hB);clear hB;have k0:=HD.out.f.2.2 0 _ rfl;have k1:=HD.out.f.2.2 1 _ rfl;have k2:=HD.out.f.2.2 2 _ rfl;have k3:=HD.out.f.2.2 3 _ rfl;have k4:=HD.out.f.2.2 4 _ rfl;have k5:=HD.out.f.2.2 5 _ rfl;have k6:=HD.out.f.2.2 6 _ rfl;have y0:=HD.out.x.2.2 0 _ rfl;have y1:=HD.out.x.2.2 1 _ rfl;have y2:=HD.out.x.2.2 2 _ rfl;have y3:=HD.out.x.2.2 3 _ rfl;have y4:=HD.out.x.2.2 4 _ rfl;have yf:=HD.out.x.2.1;have z0:=HD.out.z.2.2 0 _ rfl;have z1:=HD.out.z.2.2 1 _ rfl;have z2:=HD.out.z.2.2 2 _ rfl;have z3:=HD.out.z.2.2 3 _ rfl;have z4:=HD.out.z.2.2 4 _ rfl;have zf:=HD.out.z.2.1;go_wp2_with fail;refine bodyPost_ret (v:=a3v (some ⟨op,a1L F H rd,a1L F H rs1,a1L F H rs2,b6s F H sg⟩)) (by simp[results,results168,go_sem,a3v,Pn.Ins.val,z0,z1,z2,z3,z4]) rfl ⟨by rw[HST.out,if_pos trivial];rfl,c1M (HD.out.b.setCell (by have:=HD.out.lt;show w.heap.size<=bx;omega) _) _ _ _ _ _⟩
end Go.Proofs.YtbmcofdodfcnnaaGreatDoor
namespace Pn
open Go
def stF (k:Nat) (H:ByteArray):Option Ins:=a5w ⟨(frm k).half.toArray⟩ H ⟨(frm k).rd.toArray⟩ ⟨(frm k).rs1.toArray⟩ ⟨(frm k).rs2.toArray⟩ ⟨(frm k).cond.toArray⟩ (frm k).op (frm k).sgn
def a8T (h:Int):Ins×Int:=if h<0\/65535<h then (⟨0,0,0,0,0⟩,1) else (match (List.range 32).findSome? (fun k=>stF k (a3X h 16)) with|some i=>(i,0)|none=>(⟨0,0,0,0,0⟩,1))
theorem b8R:∀k,k<32->(frm k).half.length=16/\0<(frm k).rd.length/\0<(frm k).rs1.length/\0<(frm k).rs2.length:=by decide
theorem b4E (h:Int):∀j i:Nat,i<j->(c1g h j)[i]?=some (UInt8.ofNat (48+a0c h (15-i) (15-i)).toNat)
 | 0,i,hi=>by omega
 | j+1,i,hi=>by
  rw[c1g];rcases Nat.lt_or_ge i j with q|q
  ·rw[List.getElem?_append_left (by rw[a6f];exact q)]
   exact b4E h j i q
  ·have e:i=j:=by omega
   subst e;(rw[List.getElem?_append_right (by rw[a6f];exact Nat.le_refl _),a6f]);simp
theorem a9x (h:Int) {i:Nat} (hi:i<16):((B (a3X h 16) i).toNat:Int)=48+a0c h (15-i) (15-i)/\0<=a0c h (15-i) (15-i)/\a0c h (15-i) (15-i)<=1:=by
 have hb:=a0K h (15-i) (15-i)
 have e:B (a3X h 16) i=UInt8.ofNat (48+a0c h (15-i) (15-i)).toNat:=by
  unfold B;have e2:(a3X h 16).data.toList=c1g h 16:=by simp[a3X]
  rw[e2,List.getD_eq_getElem?_getD,b4E h 16 i hi];rfl
 have h2:(2:Int)^(((15:Int)-i).toNat-((15:Int)-i).toNat+1)=2:=by simp
 rw[h2]at hb;rw[e,UInt8.toNat_ofNat'];omega
theorem c6W (h:Int):b5q (a3X h 16):=by
 intro i hi;have:=a9x h hi;omega
theorem b0T {α β:Type} {f:α->Option β}:∀{l:List α} {k:Nat} {x:α} {y:β},l[k]?=some x->(∀j z,j<k->l[j]?=some z->f z=none)->f x=some y->l.findSome? f=some y
 | [],k,x,y,h,_,_=>by simp at h
 | a::l,0,x,y,h,_,hy=>by
  simp at h;subst h;simp[List.findSome?,hy]
 | a::l,k+1,x,y,h,hn,hy=>by
  have h0:=hn 0 a (by omega) rfl
  rw[List.findSome?_cons,h0];exact b0T (k:=k) (by simpa using h) (fun j z hj hz=>hn (j+1) z (by omega) (by simpa using hz)) hy
theorem c0T {h:Int} (hr:¬(h<0\/65535<h)) {k:Nat} (hk:k<32) {i:Ins} (hn:∀j,j<k->stF j (a3X h 16)=none) (hi:stF k (a3X h 16)=some i):a8T h=(i,0):=by
 unfold a8T;rw[if_neg hr,b0T (k:=k) (x:=k) (y:=i) (List.getElem?_range hk) (fun j z hj hz=>?_) hi]
 rw[List.getElem?_range (by omega)]at hz
 cases hz
 exact hn j hj
theorem c3P {h:Int} (hr:¬(h<0\/65535<h)) (hn:∀j,j<32->stF j (a3X h 16)=none):a8T h=(⟨0,0,0,0,0⟩,1):=by
 unfold a8T
 have e:(List.range 32).findSome? (fun k=>stF k (a3X h 16))=none:=by
  rw[List.findSome?_eq_none_iff];intro k hk;exact hn k (List.mem_range.1 hk)
 rw[if_neg hr,e]
end Pn
namespace Go.Proofs.YtbmcofdodfcnnaaGreatDoor
open Pn
open Go.Proofs.Tryz
open Go.RowKit
theorem b4n (k:Nat) (hk:k<32) (h:Int) (w:World):
    Calls prog 168 #[.agg #[.string ⟨(Pn.frm k).half.toArray⟩,.int .i64 (Pn.frm k).op,.string ⟨(Pn.frm k).rd.toArray⟩,.string ⟨(Pn.frm k).rs1.toArray⟩,.string ⟨(Pn.frm k).rs2.toArray⟩,.bool (Pn.frm k).sgn,.string ⟨(Pn.frm k).cond.toArray⟩],.string (a3X h 16)] w fun e w'=>e=.returned (a3v (Pn.stF k (a3X h 16)))/\Below w.heap.size w w':=by
 obtain ⟨h1,h2,h3,h4⟩:=b8R k hk;have sz:∀l:List UInt8,(⟨l.toArray⟩:ByteArray).size=l.length:=fun l=>by simp[ByteArray.size]
 exact b7Q _ _ _ _ _ _ _ _ w (by rw[sz];exact h1) (b1c h 16) (c6W h) (by rw[sz];exact h2) (by rw[sz];exact h3) (by rw[sz];exact h4)
structure ExD (w V:World):Prop where
 z:CellsAt w.heap.size [.int .i64 0,.int .i64 0,.int .i64 0,.int .i64 0,.int .i64 0] V
 f:∀k,k<32->∀q v,(a29 (Pn.frm k))[q]?=some v->V.cell? ⟨w.heap.size+1,k*7+q,none⟩=some v
 lt:w.heap.size+1<V.heap.size
 b:Below w.heap.size w V
theorem ExD.next {w V V':World} (h:ExD w V) (hB:Below V.heap.size V V'):ExD w V':=
 ⟨h.z.next hB,fun k hk q v hv=>(hB.cell (p:=⟨w.heap.size+1,k*7+q,none⟩) h.lt).trans (h.f k hk q v hv),Nat.lt_of_lt_of_le h.lt hB.size,h.b.trans (hB.mono h.b.size)⟩
theorem c4C (w:World) {C:Array Value} (hC:b40 C):ExD w ((w.alloc (.cells #[.int .i64 0,.int .i64 0,.int .i64 0,.int .i64 0,.int .i64 0] 26)).alloc (.cells C 230)):=by
 have hs:(w.alloc (.cells #[.int .i64 0,.int .i64 0,.int .i64 0,.int .i64 0,.int .i64 0] 26)).heap.size=w.heap.size+1:=by simp
 have hn:=heap_alloc_new (w.alloc (.cells #[.int .i64 0,.int .i64 0,.int .i64 0,.int .i64 0,.int .i64 0] 26)) (.cells C 230);rw[hs]at hn;refine ⟨(CellsAt.new w [.int .i64 0,.int .i64 0,.int .i64 0,.int .i64 0,.int .i64 0] 26).alloc _,fun k hk q v hv=>?_,by simp,((Below.refl _ _).alloc (Nat.le_refl _) _).alloc (by rw[hs];omega) _⟩
 rw[Lib.cell_of_heap hn];obtain ⟨c0,c1,c2,c3,c4,c5,c6⟩:=hC k hk;unfold a29 at hv;rcases q with _|_|_|_|_|_|_|q
 ·simp at hv;subst hv;exact c0
 ·simp at hv;subst hv;exact c1
 ·simp at hv;subst hv;exact c2
 ·simp at hv;subst hv;exact c3
 ·simp at hv;subst hv;exact c4
 ·simp at hv;subst hv;exact c5
 ·simp at hv;subst hv;exact c6
 ·simp at hv
theorem b2V (h:Int) (w:World) (hr:h<0\/65535<h):
    Calls prog 97 #[.int .i64 h] w fun e w'=>e=.returned (.tuple #[(a8T h).1.val,.int .i64 (a8T h).2])/\Below w.heap.size w w':=by
 have e:a8T h=(⟨0,0,0,0,0⟩,1):=by unfold a8T;rw[if_pos hr]
 rw[e];rcases hr with hr|hr
 ·go_enter func97,ntmps97
  go_wp2_with fail;refine bodyPost_ret (v:=.tuple #[(Pn.Ins.mk 0 0 0 0 0).val,.int .i64 1]) (by simp[results,results97,go_sem,Pn.Ins.val]) rfl ⟨rfl,?_⟩
  exact (Below.refl _ _).alloc (Nat.le_refl _) _
 ·have h2:¬h<0:=by omega
  go_enter func97,ntmps97;go_wp2_with fail;refine bodyPost_ret (v:=.tuple #[(Pn.Ins.mk 0 0 0 0 0).val,.int .i64 1]) (by simp[results,results97,go_sem,Pn.Ins.val]) rfl ⟨rfl,?_⟩
  exact (Below.refl _ _).alloc (Nat.le_refl _) _
theorem b5x (h:Int) (w:World) (h0:0<=h) (h1:h<=65535):
    Calls prog 97 #[.int .i64 h] w fun e w'=>e=.returned (.tuple #[(a8T h).1.val,.int .i64 (a8T h).2])/\Below w.heap.size w w':=by
 have HH:=a0a (fun k i hk hn hi=>c0T (h:=h) (by omega) (k:=k) hk (i:=i) hn hi)
 have HN:=a0a (fun hn=>c3P (h:=h) (by omega) hn)
 have HS:=a0a (fun k hk w'=>b4n k hk h w')
 have HDg:=a0a (fun w'=>b1z h w' h0 h1)
 generalize a3X h 16=D at *;have h0':¬h<0:=by omega
 have h1':¬65535<h:=by omega
 clear h0 h1;go_enter func97,ntmps97;go_wp2_with fail;refine (b1a _).mono ?_;rintro e w1 ⟨C,hC,rfl,rfl⟩;have HD:=a0a (c4C w hC);clear hC;go_wp2_with fail;generalize World.alloc (w.alloc _) _=W1 at *;refine (HDg.out W1).mono ?_;rintro e w2 ⟨rfl,hB2⟩;have HD:=a0a (HD.out.next hB2);clear hB2 HDg;go_wp2_with fail;go_loopw [6] (fun v wr=>∃k:Nat,v=.int .i64 k/\k<=32/\Hid (∀j,j<k->Pn.stF j D=none)/\Hid (ExD w wr)) (fun v _=>32-(intOf v).toNat)
 case atStart=>exact ⟨0,rfl,by omega,a0a (fun j hj=>by omega),HD⟩
 case round=>
  clear HD;obtain ⟨k,rfl,hk,HNO,HD⟩:=hrel;by_cases hlt:k<32
  ·have hlti:(k:Int)<32:=by omega
   have y0:wr.cell? ⟨w.heap.size+1,k*7,none⟩=some (.string ⟨(Pn.frm k).half.toArray⟩):=HD.out.f k hlt 0 _ rfl;have y1:wr.cell? ⟨w.heap.size+1,k*7+1,none⟩=some (.int .i64 (Pn.frm k).op):=HD.out.f k hlt 1 _ rfl;have y2:wr.cell? ⟨w.heap.size+1,k*7+2,none⟩=some (.string ⟨(Pn.frm k).rd.toArray⟩):=HD.out.f k hlt 2 _ rfl;have y3:wr.cell? ⟨w.heap.size+1,k*7+3,none⟩=some (.string ⟨(Pn.frm k).rs1.toArray⟩):=HD.out.f k hlt 3 _ rfl;have y4:wr.cell? ⟨w.heap.size+1,k*7+4,none⟩=some (.string ⟨(Pn.frm k).rs2.toArray⟩):=HD.out.f k hlt 4 _ rfl;have y5:wr.cell? ⟨w.heap.size+1,k*7+5,none⟩=some (.bool (Pn.frm k).sgn):=HD.out.f k hlt 5 _ rfl;have y6:wr.cell? ⟨w.heap.size+1,k*7+6,none⟩=some (.string ⟨(Pn.frm k).cond.toArray⟩):=HD.out.f k hlt 6 _ rfl;(have wk:IntKind.i64.wrap ((k:Int)+1)=(k:Int)+1:=IntWalk.i64_in _ (by omega));have HSk:=a0a (HS.out k hlt);generalize hST:Pn.stF k D=ST at *;have HST:=a0a hST;clear hST;generalize (⟨(Pn.frm k).half.toArray⟩:ByteArray)=g0 at *;generalize (Pn.frm k).op=g1 at *;generalize (⟨(Pn.frm k).rd.toArray⟩:ByteArray)=g2 at *;generalize (⟨(Pn.frm k).rs1.toArray⟩:ByteArray)=g3 at *;generalize (⟨(Pn.frm k).rs2.toArray⟩:ByteArray)=g4 at *;generalize (Pn.frm k).sgn=g5 at *;generalize (⟨(Pn.frm k).cond.toArray⟩:ByteArray)=g6 at *;clear HS;go_wp2_with fail;refine (HSk.out wr).mono ?_;rintro e w3 ⟨rfl,hB3⟩;have HD:=a0a (HD.out.next hB3);clear hB3 HSk y0 y1 y2 y3 y4 y5 y6
   cases ST with
   | none=>
    unfold a3v Pn.Ins.val;simp only;go_wp2_with fail;go_roundw
    case rel=>
     (refine ⟨k+1,by go_num,by omega,a0a (fun j hj=>?_),a0a (HD.out.next ((Below.refl _ _).alloc (Nat.le_refl _) _))⟩);by_cases e:j=k
     ·rw[e];exact HST.out
     ·exact HNO.out j (by omega)
    case measure=>simp[intOf];omega
   | some i=>
    have HHt:=a0a (HH.out k i hlt HNO.out HST.out);obtain ⟨iop,ird,irs1,irs2,iimm⟩:=i;unfold a3v Pn.Ins.val;simp only;go_upto_region 10 with fail;have HX:=a0a (CellsAt.new w3 [.int .i64 iop,.int .i64 ird,.int .i64 irs1,.int .i64 irs2,.int .i64 iimm] 26);have HD:=a0a (HD.out.next ((Below.refl _ _).alloc (Nat.le_refl _) (.cells #[.int .i64 iop,.int .i64 ird,.int .i64 irs1,.int .i64 irs2,.int .i64 iimm] 26)));generalize w3.alloc _=W4 at *;have z0:=HD.out.z.2.2 0 _ rfl;have z1:=HD.out.z.2.2 1 _ rfl;have z2:=HD.out.z.2.2 2 _ rfl;have z3:=HD.out.z.2.2 3 _ rfl;have z4:=HD.out.z.2.2 4 _ rfl;have zf:=HD.out.z.2.1;have x0:=HX.out.2.2 0 _ rfl;have x1:=HX.out.2.2 1 _ rfl;have x2:=HX.out.2.2 2 _ rfl;have x3:=HX.out.2.2 3 _ rfl;have x4:=HX.out.2.2 4 _ rfl;go_wp2_with fail;refine bodyPost_ret (v:=.tuple #[(Pn.Ins.mk iop ird irs1 irs2 iimm).val,.int .i64 0]) (by simp[results,results97,go_sem,Pn.Ins.val,z0,z1,z2,z3,z4]) rfl ⟨by rw[HHt.out],a2o HD.out.b _ _ _ _ _⟩
  ·have hk32:k=32:=by omega
   subst hk32;have HNn:=a0a (HN.out HNO.out);have z0:=HD.out.z.2.2 0 _ rfl;have z1:=HD.out.z.2.2 1 _ rfl;have z2:=HD.out.z.2.2 2 _ rfl;have z3:=HD.out.z.2.2 3 _ rfl;have z4:=HD.out.z.2.2 4 _ rfl;have zf:=HD.out.z.2.1;clear hlt hk;go_wp2_with fail;refine bodyPost_ret (v:=.tuple #[(Pn.Ins.mk 0 0 0 0 0).val,.int .i64 1]) (by simp[results,results97,go_sem,Pn.Ins.val,z0,z1,z2,z3,z4]) rfl ⟨by rw[HNn.out],a2o HD.out.b _ _ _ _ _⟩
theorem a5C (h:Int) (w:World):
    Calls prog 97 #[.int .i64 h] w fun e w'=>e=.returned (.tuple #[(a8T h).1.val,.int .i64 (a8T h).2])/\Below w.heap.size w w':=by
 by_cases hr:h<0\/65535<h
 ·exact b2V h w hr
 ·exact b5x h w (by omega) (by omega)
