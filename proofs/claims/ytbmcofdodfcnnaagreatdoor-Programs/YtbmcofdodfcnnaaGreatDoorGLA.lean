import Derived.Test.YtbmcofdodfcnnaaGreatDoorGQ
import Derived.Test.YtbmcofdodfcnnaaGreatDoorGP
import Derived.Test.YtbmcofdodfcnnaaGreatDoorGFK
import Derived.Test.YtbmcofdodfcnnaaGreatDoorGAG
set_option linter.all false
set_option maxHeartbeats 400000000
set_option maxRecDepth 100000
namespace Pn
open Go
def other (l:List UInt8):Option (Ins×List UInt8):=
 if l=[110,111,112] then some (⟨29,0,0,0,0⟩,[])
 else if l=[109,118] then some (⟨29,0,0,0,0⟩,[100,44,115])
 else if l=[110,111,116] then some (⟨32,0,0,0,-1⟩,[100,44,115])
 else if l=[110,101,103] then some (⟨2,0,0,0,0⟩,[100,44,116])
 else if l=[115,101,113,122] then some (⟨31,0,0,0,1⟩,[100,44,115])
 else if l=[115,110,101,122] then some (⟨5,0,0,0,0⟩,[100,44,116])
 else if l=[98,101,113,122] then some (⟨54,0,0,0,0⟩,[115,44,112])
 else if l=[98,110,101,122] then some (⟨55,0,0,0,0⟩,[115,44,112])
 else if l=[106] then some (⟨62,0,0,0,0⟩,[112])
 else if l=[114,101,116] then some (⟨49,0,1,0,0⟩,[])
 else none
def nmd (nm:ByteArray):Option (Ins×List UInt8):=
 match (List.range 64).find? (a1v nm) with
 | some k=>some (⟨k+1,0,0,0,0⟩,shp (row k).kind)
 | none=>other nm.data.toList
theorem b6i {l:List UInt8} {s:Ins×List UInt8} (h:other l=some s):(∀r∈s.2,a7b r)/\s.2.length<=6:=by
 unfold other at h;unfold a7b
 repeat' split at h
 all_goals first
  | (injection h with h;subst h;decide)
  | cases h
theorem a9Y {nm:ByteArray} {s:Ins×List UInt8} (h:nmd nm=some s):(∀r∈s.2,a7b r)/\s.2.length<=6:=by
 unfold nmd at h
 split at h
 ·rename_i k hk
  injection h with h;subst h
  have hk':k<64:=by rw[List.find?_range_eq_some]at hk;simpa using hk.2.1
  exact ⟨a49 (a02 k hk'),a90 _⟩
 ·exact b6i h
structure Prt where
 data:List UInt8
 ins:Ins
 tg:List UInt8
def a1U:Ins:=⟨0,0,0,0,0⟩
def b2E:Prt:=⟨[],a1U,[]⟩
def a3j (p:Prt):List Value:=[.string ⟨p.data.toArray⟩,.int .i64 p.ins.op,.int .i64 p.ins.rd,.int .i64 p.ins.rs1,.int .i64 p.ins.rs2,.int .i64 p.ins.imm,.string ⟨p.tg.toArray⟩]
def a2K (nm:ByteArray) (l:List Pc):Prt×Int:=
 match nmd nm with
 | none=>(b2E,4)
 | some s=>match a0i s.2 l s.1 [] with
  | none=>(b2E,4)
  | some t=>if right t.1 then (⟨[],t.1,t.2⟩,0) else (b2E,5)
def a4m (nm:ByteArray) (l:List Pc):List Prt×Int:=
 if (a0W nm l).2=0 then (if (a0q (a0W nm l).1).2=0 then ([⟨a2I 2 (a0q (a0W nm l).1).1,a1U,[]⟩],0) else ([],5)) else ([],(a0W nm l).2)
def a3F (size:Nat) (l:List Pc):List Prt×Int:=
 match a0i [105] l a1U [] with
 | none=>([],4)
 | some s=>if s.1.imm<0\/2^(8*size)<=s.1.imm then ([],5) else ([⟨a2I size s.1.imm,a1U,[]⟩],0)
def a5Z (n:Int):Int:=(n+2048)%4096-2048
def c1S (n:Int):Int:=if (n-a5Z n)/4096=524288 then -524288 else (n-a5Z n)/4096
def a4p (r n:Int):List Prt:=
 if a5Z n=n then [⟨[],⟨29,r,0,0,n⟩,[]⟩]
 else ⟨[],⟨60,r,0,0,c1S n⟩,[]⟩::(if a5Z n=0 then [] else [⟨[],⟨38,r,r,0,a5Z n⟩,[]⟩])
def a4u (l:List Pc):List Prt×Int:=
 match a0i [100,44,105] l a1U [] with
 | none=>([],4)
 | some s=>if s.1.imm < -2147483648\/2147483647<s.1.imm then ([],5) else (a4p s.1.rd s.1.imm,0)
def rst (nm:ByteArray) (l:List Pc):List Prt×Int:=
 if Lib.hasPrefix nm.data.toList [99,46] then a4m ⟨(Lib.trimPrefix nm.data.toList [99,46]).toArray⟩ l
 else if dsz nm.data.toList≠0 then a3F (dsz nm.data.toList).toNat l
 else if nm.data.toList=[108,105] then a4u l
 else if (a2K nm l).2=0 then ([(a2K nm l).1],0) else ([],(a2K nm l).2)
def a1O (nm:List UInt8):List Pc->List UInt8×List Prt×Int
 | []=>(nm,[],0)
 | p::l=>if (rst ⟨p.2.toArray⟩ l).2=0 then (nm,(rst ⟨p.2.toArray⟩ l).1,0) else ([],[],(rst ⟨p.2.toArray⟩ l).2)
def a2b:List Pc->List UInt8×List Prt×Int
 | p::q::l=>if q.2=[58] then (if a4x p.1 p.2 then a1O p.2 l else ([],[],4)) else a1O [] (p::q::l)
 | l=>a1O [] l
def a0F (s:List UInt8):List UInt8×List Prt×Int:=
 match a1d (Lib.cut s [35]).1 0 [] with
 | none=>([],[],4)
 | some l=>a2b l
end Pn
namespace Go.Proofs.YtbmcofdodfcnnaaGreatDoor
open Pn
open Go.Proofs.Tryz
open Go.RowKit
def a6P (o:Option (Pn.Ins×List UInt8)):Value:=match o with|some s=>.tuple #[s.1.val,.string ⟨s.2.toArray⟩,.bool true]|none=>.tuple #[Pn.a1U.val,.string ⟨#[]⟩,.bool false]
theorem b3t (nm:ByteArray) (w:World) (hf:(List.range 64).find? (a1v nm)=none):
    Calls prog 189 #[.string nm] w fun e w'=>e=.returned (a6P (Pn.other nm.data.toList))/\Below w.heap.size w w':=by
 have ht:nm.toList=nm.data.toList:=ByteArray.toList_eq nm;have HN:=hid (fun w=>b0X nm w)
 rw[hf]at HN;clear hf;by_cases h0:nm.data.toList=[110,111,112]
 ·have HV:Hid (Pn.other nm.data.toList=some (⟨29,0,0,0,0⟩,[])):=hid (by unfold Pn.other;rw[if_pos h0])
  have q0:(nm.toList==[110,111,112])=true:=by rw[ht];simpa using h0
  clear h0;clear ht;go_enter func189,ntmps189;go_wp2_with fail;refine (HN.out _).mono ?_;rintro e w1 ⟨rfl,hB1⟩;have HZ:=hid ((CellsAt.new w zI 26).next hB1);have hz1:w.heap.size<w1.heap.size:=HZ.out.1;have HB1:=hid (((Below.refl w.heap.size w).alloc (Nat.le_refl _) _).trans (hB1.mono (by simp)))
  obtain ⟨_,yf,yc⟩:=HZ.out;have y0:=yc 0 _ rfl;have y1:=yc 1 _ rfl;have y2:=yc 2 _ rfl;have y3:=yc 3 _ rfl;have y4:=yc 4 _ rfl;clear yc hB1 HZ;unfold a1e a0U a1P;go_wp2_with fail;refine bodyPost_ret (v:=a6P (some (⟨29,0,0,0,0⟩,[]))) (by simp[results,results189,go_sem,y0,y1,y2,y3,y4,hz1,Pn.Ins.val,a6P]) rfl ⟨by rw[HV.out],?_⟩
  exact (a0I HB1.out _ _ _ _ _).alloc (by have:=HB1.out.size;simp[World.setCell];omega) _
 ·have q0:(nm.toList==[110,111,112])=false:=by rw[ht];simpa using h0
  by_cases h1:nm.data.toList=[109,118]
  ·have HV:Hid (Pn.other nm.data.toList=some (⟨29,0,0,0,0⟩,[100,44,115])):=hid (by unfold Pn.other;rw[if_neg h0,if_pos h1])
   (have q1:(nm.toList==[109,118])=true:=by rw[ht];simpa using h1);clear h0 h1;clear ht;go_enter func189,ntmps189;go_wp2_with fail;refine (HN.out _).mono ?_;rintro e w1 ⟨rfl,hB1⟩;have HZ:=hid ((CellsAt.new w zI 26).next hB1);have hz1:w.heap.size<w1.heap.size:=HZ.out.1;(have HB1:=hid (((Below.refl w.heap.size w).alloc (Nat.le_refl _) _).trans (hB1.mono (by simp))));obtain ⟨_,yf,yc⟩:=HZ.out;have y0:=yc 0 _ rfl;have y1:=yc 1 _ rfl;have y2:=yc 2 _ rfl;have y3:=yc 3 _ rfl;have y4:=yc 4 _ rfl;clear yc hB1 HZ;unfold a1e a0U a1P;go_wp2_with fail;(refine bodyPost_ret (v:=a6P (some (⟨29,0,0,0,0⟩,[100,44,115]))) (by simp[results,results189,go_sem,y0,y1,y2,y3,y4,hz1,Pn.Ins.val,a6P]) rfl ⟨by rw[HV.out],?_⟩);exact (a0I HB1.out _ _ _ _ _).alloc (by have:=HB1.out.size;simp[World.setCell];omega) _
  ·have q1:(nm.toList==[109,118])=false:=by rw[ht];simpa using h1
   by_cases h2:nm.data.toList=[110,111,116]
   ·have HV:Hid (Pn.other nm.data.toList=some (⟨32,0,0,0,-1⟩,[100,44,115])):=hid (by unfold Pn.other;rw[if_neg h0,if_neg h1,if_pos h2])
    (have q2:(nm.toList==[110,111,116])=true:=by rw[ht];simpa using h2);clear h0 h1 h2;clear ht;go_enter func189,ntmps189;go_wp2_with fail;refine (HN.out _).mono ?_;rintro e w1 ⟨rfl,hB1⟩;have HZ:=hid ((CellsAt.new w zI 26).next hB1);have hz1:w.heap.size<w1.heap.size:=HZ.out.1;(have HB1:=hid (((Below.refl w.heap.size w).alloc (Nat.le_refl _) _).trans (hB1.mono (by simp))));obtain ⟨_,yf,yc⟩:=HZ.out;have y0:=yc 0 _ rfl;have y1:=yc 1 _ rfl;have y2:=yc 2 _ rfl;have y3:=yc 3 _ rfl;have y4:=yc 4 _ rfl;clear yc hB1 HZ;unfold a1e a0U a1P;go_wp2_with fail;(refine bodyPost_ret (v:=a6P (some (⟨32,0,0,0,-1⟩,[100,44,115]))) (by simp[results,results189,go_sem,y0,y1,y2,y3,y4,hz1,Pn.Ins.val,a6P]) rfl ⟨by rw[HV.out],?_⟩);exact (a0I HB1.out _ _ _ _ _).alloc (by have:=HB1.out.size;simp[World.setCell];omega) _
   ·have q2:(nm.toList==[110,111,116])=false:=by rw[ht];simpa using h2
    by_cases h3:nm.data.toList=[110,101,103]
    ·have HV:Hid (Pn.other nm.data.toList=some (⟨2,0,0,0,0⟩,[100,44,116])):=hid (by unfold Pn.other;rw[if_neg h0,if_neg h1,if_neg h2,if_pos h3])
     (have q3:(nm.toList==[110,101,103])=true:=by rw[ht];simpa using h3);clear h0 h1 h2 h3;clear ht;go_enter func189,ntmps189;go_wp2_with fail;refine (HN.out _).mono ?_;rintro e w1 ⟨rfl,hB1⟩;have HZ:=hid ((CellsAt.new w zI 26).next hB1);have hz1:w.heap.size<w1.heap.size:=HZ.out.1;(have HB1:=hid (((Below.refl w.heap.size w).alloc (Nat.le_refl _) _).trans (hB1.mono (by simp))));obtain ⟨_,yf,yc⟩:=HZ.out;have y0:=yc 0 _ rfl;have y1:=yc 1 _ rfl;have y2:=yc 2 _ rfl;have y3:=yc 3 _ rfl;have y4:=yc 4 _ rfl;clear yc hB1 HZ;unfold a1e a0U a1P;go_wp2_with fail;(refine bodyPost_ret (v:=a6P (some (⟨2,0,0,0,0⟩,[100,44,116]))) (by simp[results,results189,go_sem,y0,y1,y2,y3,y4,hz1,Pn.Ins.val,a6P]) rfl ⟨by rw[HV.out],?_⟩);exact (a0I HB1.out _ _ _ _ _).alloc (by have:=HB1.out.size;simp[World.setCell];omega) _
    ·have q3:(nm.toList==[110,101,103])=false:=by rw[ht];simpa using h3
     by_cases h4:nm.data.toList=[115,101,113,122]
     ·have HV:Hid (Pn.other nm.data.toList=some (⟨31,0,0,0,1⟩,[100,44,115])):=hid (by unfold Pn.other;rw[if_neg h0,if_neg h1,if_neg h2,if_neg h3,if_pos h4])
      (have q4:(nm.toList==[115,101,113,122])=true:=by rw[ht];simpa using h4);clear h0 h1 h2 h3 h4;clear ht;go_enter func189,ntmps189;go_wp2_with fail;refine (HN.out _).mono ?_;rintro e w1 ⟨rfl,hB1⟩;have HZ:=hid ((CellsAt.new w zI 26).next hB1);have hz1:w.heap.size<w1.heap.size:=HZ.out.1;(have HB1:=hid (((Below.refl w.heap.size w).alloc (Nat.le_refl _) _).trans (hB1.mono (by simp))));obtain ⟨_,yf,yc⟩:=HZ.out;have y0:=yc 0 _ rfl;have y1:=yc 1 _ rfl;have y2:=yc 2 _ rfl;have y3:=yc 3 _ rfl;have y4:=yc 4 _ rfl;clear yc hB1 HZ;unfold a1e a0U a1P;go_wp2_with fail;(refine bodyPost_ret (v:=a6P (some (⟨31,0,0,0,1⟩,[100,44,115]))) (by simp[results,results189,go_sem,y0,y1,y2,y3,y4,hz1,Pn.Ins.val,a6P]) rfl ⟨by rw[HV.out],?_⟩);exact (a0I HB1.out _ _ _ _ _).alloc (by have:=HB1.out.size;simp[World.setCell];omega) _
     ·have q4:(nm.toList==[115,101,113,122])=false:=by rw[ht];simpa using h4
      by_cases h5:nm.data.toList=[115,110,101,122]
      ·have HV:Hid (Pn.other nm.data.toList=some (⟨5,0,0,0,0⟩,[100,44,116])):=hid (by unfold Pn.other;rw[if_neg h0,if_neg h1,if_neg h2,if_neg h3,if_neg h4,if_pos h5])
       (have q5:(nm.toList==[115,110,101,122])=true:=by rw[ht];simpa using h5);clear h0 h1 h2 h3 h4 h5;clear ht;go_enter func189,ntmps189;go_wp2_with fail;refine (HN.out _).mono ?_;rintro e w1 ⟨rfl,hB1⟩;have HZ:=hid ((CellsAt.new w zI 26).next hB1);have hz1:w.heap.size<w1.heap.size:=HZ.out.1;(have HB1:=hid (((Below.refl w.heap.size w).alloc (Nat.le_refl _) _).trans (hB1.mono (by simp))));obtain ⟨_,yf,yc⟩:=HZ.out;have y0:=yc 0 _ rfl;have y1:=yc 1 _ rfl;have y2:=yc 2 _ rfl;have y3:=yc 3 _ rfl;have y4:=yc 4 _ rfl;clear yc hB1 HZ;unfold a1e a0U a1P;go_wp2_with fail;(refine bodyPost_ret (v:=a6P (some (⟨5,0,0,0,0⟩,[100,44,116]))) (by simp[results,results189,go_sem,y0,y1,y2,y3,y4,hz1,Pn.Ins.val,a6P]) rfl ⟨by rw[HV.out],?_⟩);exact (a0I HB1.out _ _ _ _ _).alloc (by have:=HB1.out.size;simp[World.setCell];omega) _
      ·have q5:(nm.toList==[115,110,101,122])=false:=by rw[ht];simpa using h5
       by_cases h6:nm.data.toList=[98,101,113,122]
       ·have HV:Hid (Pn.other nm.data.toList=some (⟨54,0,0,0,0⟩,[115,44,112])):=hid (by unfold Pn.other;rw[if_neg h0,if_neg h1,if_neg h2,if_neg h3,if_neg h4,if_neg h5,if_pos h6])
        (have q6:(nm.toList==[98,101,113,122])=true:=by rw[ht];simpa using h6);clear h0 h1 h2 h3 h4 h5 h6;clear ht;go_enter func189,ntmps189;go_wp2_with fail;refine (HN.out _).mono ?_;rintro e w1 ⟨rfl,hB1⟩;have HZ:=hid ((CellsAt.new w zI 26).next hB1);have hz1:w.heap.size<w1.heap.size:=HZ.out.1;(have HB1:=hid (((Below.refl w.heap.size w).alloc (Nat.le_refl _) _).trans (hB1.mono (by simp))));obtain ⟨_,yf,yc⟩:=HZ.out;have y0:=yc 0 _ rfl;have y1:=yc 1 _ rfl;have y2:=yc 2 _ rfl;have y3:=yc 3 _ rfl;have y4:=yc 4 _ rfl;clear yc hB1 HZ;unfold a1e a0U a1P;go_wp2_with fail;(refine bodyPost_ret (v:=a6P (some (⟨54,0,0,0,0⟩,[115,44,112]))) (by simp[results,results189,go_sem,y0,y1,y2,y3,y4,hz1,Pn.Ins.val,a6P]) rfl ⟨by rw[HV.out],?_⟩);exact (a0I HB1.out _ _ _ _ _).alloc (by have:=HB1.out.size;simp[World.setCell];omega) _
       ·have q6:(nm.toList==[98,101,113,122])=false:=by rw[ht];simpa using h6
        by_cases h7:nm.data.toList=[98,110,101,122]
        ·have HV:Hid (Pn.other nm.data.toList=some (⟨55,0,0,0,0⟩,[115,44,112])):=hid (by unfold Pn.other;rw[if_neg h0,if_neg h1,if_neg h2,if_neg h3,if_neg h4,if_neg h5,if_neg h6,if_pos h7])
         (have q7:(nm.toList==[98,110,101,122])=true:=by rw[ht];simpa using h7);clear h0 h1 h2 h3 h4 h5 h6 h7;clear ht;go_enter func189,ntmps189;go_wp2_with fail;refine (HN.out _).mono ?_;rintro e w1 ⟨rfl,hB1⟩;have HZ:=hid ((CellsAt.new w zI 26).next hB1);have hz1:w.heap.size<w1.heap.size:=HZ.out.1;(have HB1:=hid (((Below.refl w.heap.size w).alloc (Nat.le_refl _) _).trans (hB1.mono (by simp))));obtain ⟨_,yf,yc⟩:=HZ.out;have y0:=yc 0 _ rfl;have y1:=yc 1 _ rfl;have y2:=yc 2 _ rfl;have y3:=yc 3 _ rfl;have y4:=yc 4 _ rfl;clear yc hB1 HZ;unfold a1e a0U a1P;go_wp2_with fail;(refine bodyPost_ret (v:=a6P (some (⟨55,0,0,0,0⟩,[115,44,112]))) (by simp[results,results189,go_sem,y0,y1,y2,y3,y4,hz1,Pn.Ins.val,a6P]) rfl ⟨by rw[HV.out],?_⟩);exact (a0I HB1.out _ _ _ _ _).alloc (by have:=HB1.out.size;simp[World.setCell];omega) _
        ·have q7:(nm.toList==[98,110,101,122])=false:=by rw[ht];simpa using h7
         by_cases h8:nm.data.toList=[106]
         ·have HV:Hid (Pn.other nm.data.toList=some (⟨62,0,0,0,0⟩,[112])):=hid (by unfold Pn.other;rw[if_neg h0,if_neg h1,if_neg h2,if_neg h3,if_neg h4,if_neg h5,if_neg h6,if_neg h7,if_pos h8])
          (have q8:(nm.toList==[106])=true:=by rw[ht];simpa using h8);clear h0 h1 h2 h3 h4 h5 h6 h7 h8;clear ht;go_enter func189,ntmps189;go_wp2_with fail;refine (HN.out _).mono ?_;rintro e w1 ⟨rfl,hB1⟩;have HZ:=hid ((CellsAt.new w zI 26).next hB1);have hz1:w.heap.size<w1.heap.size:=HZ.out.1;(have HB1:=hid (((Below.refl w.heap.size w).alloc (Nat.le_refl _) _).trans (hB1.mono (by simp))));obtain ⟨_,yf,yc⟩:=HZ.out;have y0:=yc 0 _ rfl;have y1:=yc 1 _ rfl;have y2:=yc 2 _ rfl;have y3:=yc 3 _ rfl;have y4:=yc 4 _ rfl;clear yc hB1 HZ;unfold a1e a0U a1P;go_wp2_with fail;(refine bodyPost_ret (v:=a6P (some (⟨62,0,0,0,0⟩,[112]))) (by simp[results,results189,go_sem,y0,y1,y2,y3,y4,hz1,Pn.Ins.val,a6P]) rfl ⟨by rw[HV.out],?_⟩);exact (a0I HB1.out _ _ _ _ _).alloc (by have:=HB1.out.size;simp[World.setCell];omega) _
         ·have q8:(nm.toList==[106])=false:=by rw[ht];simpa using h8
          by_cases h9:nm.data.toList=[114,101,116]
          ·have HV:Hid (Pn.other nm.data.toList=some (⟨49,0,1,0,0⟩,[])):=hid (by unfold Pn.other;rw[if_neg h0,if_neg h1,if_neg h2,if_neg h3,if_neg h4,if_neg h5,if_neg h6,if_neg h7,if_neg h8,if_pos h9])
           (have q9:(nm.toList==[114,101,116])=true:=by rw[ht];simpa using h9);clear h0 h1 h2 h3 h4 h5 h6 h7 h8 h9;clear ht;go_enter func189,ntmps189;go_wp2_with fail;refine (HN.out _).mono ?_;rintro e w1 ⟨rfl,hB1⟩;have HZ:=hid ((CellsAt.new w zI 26).next hB1);have hz1:w.heap.size<w1.heap.size:=HZ.out.1;(have HB1:=hid (((Below.refl w.heap.size w).alloc (Nat.le_refl _) _).trans (hB1.mono (by simp))));obtain ⟨_,yf,yc⟩:=HZ.out;have y0:=yc 0 _ rfl;have y1:=yc 1 _ rfl;have y2:=yc 2 _ rfl;have y3:=yc 3 _ rfl;have y4:=yc 4 _ rfl;clear yc hB1 HZ;unfold a1e a0U a1P;go_wp2_with fail;(refine bodyPost_ret (v:=a6P (some (⟨49,0,1,0,0⟩,[]))) (by simp[results,results189,go_sem,y0,y1,y2,y3,y4,hz1,Pn.Ins.val,a6P]) rfl ⟨by rw[HV.out],?_⟩);exact (a0I HB1.out _ _ _ _ _).alloc (by have:=HB1.out.size;simp[World.setCell];omega) _
          ·have q9:(nm.toList==[114,101,116])=false:=by rw[ht];simpa using h9
           (have HV:Hid (Pn.other nm.data.toList=none):=hid (by unfold Pn.other;rw[if_neg h0,if_neg h1,if_neg h2,if_neg h3,if_neg h4,if_neg h5,if_neg h6,if_neg h7,if_neg h8,if_neg h9]));clear h0 h1 h2 h3 h4 h5 h6 h7 h8 h9;clear ht;go_enter func189,ntmps189;go_wp2_with fail;refine (HN.out _).mono ?_;rintro e w1 ⟨rfl,hB1⟩;have HZ:=hid ((CellsAt.new w zI 26).next hB1);have hz1:w.heap.size<w1.heap.size:=HZ.out.1;(have HB1:=hid (((Below.refl w.heap.size w).alloc (Nat.le_refl _) _).trans (hB1.mono (by simp))));obtain ⟨_,yf,yc⟩:=HZ.out;have y0:=yc 0 _ rfl;have y1:=yc 1 _ rfl;have y2:=yc 2 _ rfl;have y3:=yc 3 _ rfl;have y4:=yc 4 _ rfl;clear yc hB1 HZ;unfold a1e a0U a1P;go_wp2_with fail;(refine bodyPost_ret (v:=a6P none) (by simp[results,results189,go_sem,y0,y1,y2,y3,y4,hz1,Pn.Ins.val,a6P,Pn.a1U]) rfl ⟨by rw[HV.out],?_⟩);exact (a0I HB1.out _ _ _ _ _).alloc (by have:=HB1.out.size;simp[World.setCell];omega) _
theorem b2e (nm:ByteArray) (w:World):Calls prog 189 #[.string nm] w fun e w'=>e=.returned (a6P (Pn.nmd nm))/\Below w.heap.size w w':=by
 cases hf:(List.range 64).find? (a1v nm) with
 | none=>
  have e:Pn.nmd nm=Pn.other nm.data.toList:=by simp only[Pn.nmd,hf]
  rw[e];exact b3t nm w hf
 | some k=>
  have e:Pn.nmd nm=some (⟨k+1,0,0,0,0⟩,Pn.shp (Pn.row k).kind):=by simp only[Pn.nmd,hf]
  rw[e];exact b4a nm k w (b7z hf) hf
end Go.Proofs.YtbmcofdodfcnnaaGreatDoor
namespace Pn
open Go
theorem b9N {nm:ByteArray} {l:List Pc} {s:Ins×List UInt8} (hn:nmd nm=some s) (h:a0i s.2 l s.1 []=none):a2K nm l=(b2E,4):=by simp[a2K,hn,h]
theorem c0W {nm:ByteArray} {l:List Pc} {s t:Ins×List UInt8} (hn:nmd nm=some s) (h:a0i s.2 l s.1 []=some t) (hr:right t.1=true):a2K nm l=(⟨[],t.1,t.2⟩,0):=by simp[a2K,hn,h,hr]
theorem c4D {nm:ByteArray} {l:List Pc} {s t:Ins×List UInt8} (hn:nmd nm=some s) (h:a0i s.2 l s.1 []=some t) (hr:right t.1=false):a2K nm l=(b2E,5):=by simp[a2K,hn,h,hr]
theorem b77 {nm:ByteArray} {l:List Pc} (hn:nmd nm=none):a2K nm l=(b2E,4):=by simp[a2K,hn]
end Pn
namespace Go.Proofs.YtbmcofdodfcnnaaGreatDoor
open Pn
open Go.Proofs.Tryz
open Go.RowKit
theorem a5n (nm:ByteArray) (aop ard ars1 ars2 aimm:Int) (sh:List UInt8) (l:List Pn.Pc) (ao:Option Addr) (cp:Nat) (w:World) (hf:Pn.nmd nm=some (⟨aop,ard,ars1,ars2,aimm⟩,sh)) (hE:Env w) (hl:a3Z ao l w.heap.size w):
    Calls prog 136 #[.string nm,.slice ao l.length cp] w fun e w'=>e=.returned (.tuple #[.agg (a3j (a2K nm l).1).toArray,.int .i64 (a2K nm l).2])/\Below w.heap.size w w':=by
 have HL:=a0a hl;have HE:=a0a hE;have HKO:=a0a (a9Y hf);have HNM:=a0a hf;have hng:=hE.1;clear hl;go_enter func136,ntmps136;go_wp2_with fail;refine (b2e nm _).mono ?_;rintro e w1 ⟨rfl,hB1⟩;rw[HNM.out];unfold a6P;clear hf;have HZ1:=a0a ((CellsAt.new w b1N 193).next hB1);have HB1:=a0a (((Below.refl w.heap.size w).alloc (Nat.le_refl _) _).trans (hB1.mono (by simp)))
 have hz1:w.heap.size<w1.heap.size:=HZ1.out.1;clear hB1;unfold Pn.Ins.val;simp only;go_wp2_with fail
 have hBW:Below w1.heap.size w1 ((w1.alloc (.cells #[.int .i64 aop,.int .i64 ard,.int .i64 ars1,.int .i64 ars2,.int .i64 aimm] 26)).alloc (.cells #[.string ⟨#[]⟩,.int .i64 aop,.int .i64 ard,.int .i64 ars1,.int .i64 ars2,.int .i64 aimm,.string ⟨#[]⟩] 193)):=
  ((Below.refl _ _).alloc (Nat.le_refl _) _).alloc (by simp) _
 have hC2:CellsAt (w1.heap.size+1) (a0f ⟨aop,ard,ars1,ars2,aimm⟩ []) ((w1.alloc (.cells #[.int .i64 aop,.int .i64 ard,.int .i64 ars1,.int .i64 ars2,.int .i64 aimm] 26)).alloc (.cells #[.string ⟨#[]⟩,.int .i64 aop,.int .i64 ard,.int .i64 ars1,.int .i64 ars2,.int .i64 aimm,.string ⟨#[]⟩] 193)):=by
  have:=CellsAt.new (w1.alloc (.cells #[.int .i64 aop,.int .i64 ard,.int .i64 ars1,.int .i64 ars2,.int .i64 aimm] 26)) (a0f ⟨aop,ard,ars1,ars2,aimm⟩ []) 193;rw[World.size_alloc]at this;exact this
 have HZ2:=a0a (CellsAt.next HZ1.out hBW);have hB2:=HB1.out.trans (hBW.mono HB1.out.size);have hE2:=Env.below HE.out hB2 HE.out.1;have hP2:=a3Z.move HL.out hB2 (w1.heap.size+1) (by omega)
 have HB2:=a0a hB2;have HSD:Hid ((ByteArray.mk (sh).toArray).data.toList=sh):=by show _=_;simp
 clear hBW hB2 HB1 HZ1;generalize ((w1.alloc (.cells #[.int .i64 aop,.int .i64 ard,.int .i64 ars1,.int .i64 ars2,.int .i64 aimm] 26)).alloc (.cells #[.string ⟨#[]⟩,.int .i64 aop,.int .i64 ard,.int .i64 ars1,.int .i64 ars2,.int .i64 aimm,.string ⟨#[]⟩] 193))=W at *;refine (a3s _ (by rw[HSD.out];exact HKO.out.1) (by simpa[ByteArray.size] using HKO.out.2) (w1.heap.size+1) ⟨aop,ard,ars1,ars2,aimm⟩ [] l ao cp W hE2 (by omega) hC2 hP2).mono ?_
 rintro e w3 ⟨rfl,hK3,hS3⟩;rw[HSD.out]at hS3 ⊢;have HZ3:=a0a (CellsAt.keeps HZ2.out hK3 (by omega) (by simp))
 have HB3:=a0a (hK3.below HB2.out (by omega) (fun _ h=>by cases h) (Nat.le_refl _))
 have HS3:=a0a hS3;obtain ⟨hzz,yf,yc⟩:=HZ3.out;have y0:=yc 0 _ rfl;have y1:=yc 1 _ rfl;have y2:=yc 2 _ rfl;have y3:=yc 3 _ rfl;have y4:=yc 4 _ rfl;have y5:=yc 5 _ rfl;have y6:=yc 6 _ rfl;clear hK3 hS3 hC2 hE2 hP2 yc
 cases hps:a0i (sh) l ⟨aop,ard,ars1,ars2,aimm⟩ [] with
 | none=>
  have HR:=a0a (b9N HNM.out hps);simp only[Option.isSome];go_wp2_with fail;refine bodyPost_ret (v:=.tuple #[.agg b1N.toArray,.int .i64 4]) (by simp[results,results136,go_sem,y0,y1,y2,y3,y4,y5,y6,b1N]) rfl ⟨by rw[HR.out];rfl,a4o HB3.out _ _ _ _ _ _ _⟩
 | some s=>
  obtain ⟨⟨op,rd,rs1,rs2,imm⟩,tg⟩:=s;have HPS:=a0a hps;obtain ⟨hpp,_,pc⟩:=HS3.out _ hps;have p0:=pc 0 _ rfl;have p1:=pc 1 _ rfl;have p2:=pc 2 _ rfl;have p3:=pc 3 _ rfl;have p4:=pc 4 _ rfl;have p5:=pc 5 _ rfl;have p6:=pc 6 _ rfl;simp only at p1 p2 p3 p4 p5 p6;have HPC:=a0a pc;clear hps pc HS3;simp only[Option.isSome];go_wp2_with fail;refine (a15 ⟨op,rd,rs1,rs2,imm⟩ _).mono ?_;rintro e w4 ⟨rfl,hB4⟩;have HZ4:=a0a (CellsAt.next HZ3.out hB4);have HB4:=a0a (HB3.out.trans (hB4.mono HB3.out.size));have hp4:∀j v,(a0f ⟨op,rd,rs1,rs2,imm⟩ tg)[j]?=some v->w4.cell? ⟨w1.heap.size+1,j,none⟩=some v:=fun j v hj=>(hB4.cell (p:=⟨w1.heap.size+1,j,none⟩) hpp).trans (HPC.out j v hj)
  have P0:=hp4 0 _ rfl;have P1:=hp4 1 _ rfl;have P2:=hp4 2 _ rfl;have P3:=hp4 3 _ rfl;have P4:=hp4 4 _ rfl;have P5:=hp4 5 _ rfl;have P6:=hp4 6 _ rfl;simp only at P1 P2 P3 P4 P5 P6;have hpp4:w1.heap.size+1<w4.heap.size:=Nat.lt_of_lt_of_le hpp hB4.size;clear y0 y1 y2 y3 y4 y5 y6 yf hzz p0 p1 p2 p3 p4 p5 p6 hB4 hp4;obtain ⟨hzz,yf,yc⟩:=HZ4.out;have y0:=yc 0 _ rfl;have y1:=yc 1 _ rfl;have y2:=yc 2 _ rfl;have y3:=yc 3 _ rfl;have y4:=yc 4 _ rfl;have y5:=yc 5 _ rfl;have y6:=yc 6 _ rfl;clear yc;by_cases hr:Pn.right ⟨op,rd,rs1,rs2,imm⟩=true
  ·have hop:1<=op/\op<=64:=by
    apply Classical.byContradiction;intro hn;rw[a1C _ hn]at hr;cases hr
   (obtain ⟨kk,rfl⟩:∃kk:Nat,op=kk+1:=⟨(op-1).toNat,by omega⟩);have HR:=a0a (c0W HNM.out HPS.out hr);rw[a3S hr];unfold a3y a3a;clear hr;go_wp2_with fail;(refine bodyPost_ret (v:=.tuple #[.agg (a0f ⟨kk+1,rd,rs1,rs2,imm⟩ tg).toArray,.int .i64 0]) (by simp[results,results136,go_sem,y0,y1,y2,y3,y4,y5,y6,hzz,a0f]) rfl ⟨by rw[HR.out];rfl,?_⟩);exact (a4o HB4.out _ _ _ _ _ _ _).alloc (by have:=HB4.out.size;simp[World.setCell];omega) _
  ·have hr':Pn.right ⟨op,rd,rs1,rs2,imm⟩=false:=by simpa using hr
   have HR:=a0a (c4D HNM.out HPS.out hr');rw[a2C hr'];unfold a0U a1P;clear hr hr';go_wp2_with fail;(refine bodyPost_ret (v:=.tuple #[.agg b1N.toArray,.int .i64 5]) (by simp[results,results136,go_sem,y0,y1,y2,y3,y4,y5,y6,hzz,b1N]) rfl ⟨by rw[HR.out];rfl,?_⟩);exact (a4o HB4.out _ _ _ _ _ _ _).alloc (by have:=HB4.out.size;simp[World.setCell];omega) _
theorem a5o (nm:ByteArray) (l:List Pn.Pc) (ao:Option Addr) (cp:Nat) (w:World) (hf:Pn.nmd nm=none):
    Calls prog 136 #[.string nm,.slice ao l.length cp] w fun e w'=>e=.returned (.tuple #[.agg (a3j (a2K nm l).1).toArray,.int .i64 (a2K nm l).2])/\Below w.heap.size w w':=by
 have HR:=a0a (b77 (l:=l) hf);go_enter func136,ntmps136;go_wp2_with fail;refine (b2e nm _).mono ?_;rintro e w1 ⟨rfl,hB1⟩;rw[hf];have HZ1:=a0a ((CellsAt.new w b1N 193).next hB1);have HB1:=a0a (((Below.refl w.heap.size w).alloc (Nat.le_refl _) _).trans (hB1.mono (by simp)))
 have hz1:w.heap.size<w1.heap.size:=HZ1.out.1;obtain ⟨_,yf,yc⟩:=HZ1.out;have y0:=yc 0 _ rfl;have y1:=yc 1 _ rfl;have y2:=yc 2 _ rfl;have y3:=yc 3 _ rfl;have y4:=yc 4 _ rfl;have y5:=yc 5 _ rfl;have y6:=yc 6 _ rfl;clear hB1 HZ1 yc hf;unfold a6P Pn.Ins.val Pn.a1U;simp only;go_wp2_with fail;refine bodyPost_ret (v:=.tuple #[.agg b1N.toArray,.int .i64 4]) (by simp[results,results136,go_sem,y0,y1,y2,y3,y4,y5,y6,b1N,hz1]) rfl ⟨by rw[HR.out];rfl,?_⟩
 exact ((a4o HB1.out _ _ _ _ _ _ _).alloc (by have:=HB1.out.size;simp[World.setCell];omega) _).alloc (by have:=HB1.out.size;simp[World.setCell];omega) _
theorem a5B (nm:ByteArray) (l:List Pn.Pc) (ao:Option Addr) (cp:Nat) (w:World) (hE:Env w) (hl:a3Z ao l w.heap.size w):
    Calls prog 136 #[.string nm,.slice ao l.length cp] w fun e w'=>e=.returned (.tuple #[.agg (a3j (a2K nm l).1).toArray,.int .i64 (a2K nm l).2])/\Below w.heap.size w w':=by
 cases hf:Pn.nmd nm with
 | none=>exact a5o nm l ao cp w hf
 | some s=>
  obtain ⟨⟨a,b,c,d,e⟩,sh⟩:=s;exact a5n nm a b c d e sh l ao cp w hf hE hl
