import Derived.Test.YtbmcofdodfcnnaaGreatDoorGQ
set_option linter.all false
set_option maxHeartbeats 400000000
set_option maxRecDepth 100000
namespace Pn
open Go
structure c8A where
 half:List UInt8
 op:Int
 rd:List UInt8
 rs1:List UInt8
 rs2:List UInt8
 sgn:Bool
 cond:List UInt8
def c5R:List c8A:=[
 ⟨[48,48,48,70,69,74,73,72,71,67,68,100,100,100,48,48],29,[100],[50],[45],false,[105]⟩,
 ⟨[48,49,48,70,69,68,115,115,115,67,71,100,100,100,48,48],44,[100],[115],[45],false,[]⟩,
 ⟨[48,49,49,70,69,68,115,115,115,72,71,100,100,100,48,48],45,[100],[115],[45],false,[]⟩,
 ⟨[49,49,48,70,69,68,115,115,115,67,71,116,116,116,48,48],52,[45],[115],[116],false,[]⟩,
 ⟨[49,49,49,70,69,68,115,115,115,72,71,116,116,116,48,48],53,[45],[115],[116],false,[]⟩,
 ⟨[48,48,48,70,100,100,100,100,100,69,68,67,66,65,48,49],29,[100],[100],[45],true,[98,111,116,104]⟩,
 ⟨[48,48,49,70,100,100,100,100,100,69,68,67,66,65,48,49],38,[100],[100],[45],true,[100]⟩,
 ⟨[48,49,48,70,100,100,100,100,100,69,68,67,66,65,48,49],29,[100],[48],[45],true,[100]⟩,
 ⟨[48,49,49,74,48,48,48,49,48,69,71,73,72,70,48,49],29,[50],[50],[45],true,[105]⟩,
 ⟨[48,49,49,70,100,100,100,100,100,69,68,67,66,65,48,49],60,[100],[45],[45],true,[100,50,105]⟩,
 ⟨[49,48,48,70,48,48,100,100,100,69,68,67,66,65,48,49],36,[100],[100],[45],false,[105]⟩,
 ⟨[49,48,48,70,48,49,100,100,100,69,68,67,66,65,48,49],37,[100],[100],[45],false,[105]⟩,
 ⟨[49,48,48,70,49,48,100,100,100,69,68,67,66,65,48,49],34,[100],[100],[45],true,[]⟩,
 ⟨[49,48,48,48,49,49,100,100,100,48,48,116,116,116,48,49],2,[100],[100],[116],false,[]⟩,
 ⟨[49,48,48,48,49,49,100,100,100,48,49,116,116,116,48,49],6,[100],[100],[116],false,[]⟩,
 ⟨[49,48,48,48,49,49,100,100,100,49,48,116,116,116,48,49],9,[100],[100],[116],false,[]⟩,
 ⟨[49,48,48,48,49,49,100,100,100,49,49,116,116,116,48,49],10,[100],[100],[116],false,[]⟩,
 ⟨[49,48,48,49,49,49,100,100,100,48,48,116,116,116,48,49],20,[100],[100],[116],false,[]⟩,
 ⟨[49,48,48,49,49,49,100,100,100,48,49,116,116,116,48,49],19,[100],[100],[116],false,[]⟩,
 ⟨[49,48,49,76,69,74,73,75,71,72,68,67,66,70,48,49],62,[48],[45],[45],true,[]⟩,
 ⟨[49,49,48,73,69,68,115,115,115,72,71,67,66,70,48,49],54,[45],[115],[48],true,[]⟩,
 ⟨[49,49,49,73,69,68,115,115,115,72,71,67,66,70,48,49],55,[45],[115],[48],true,[]⟩,
 ⟨[48,48,48,70,100,100,100,100,100,69,68,67,66,65,49,48],35,[100],[100],[45],false,[100,105]⟩,
 ⟨[48,49,48,70,100,100,100,100,100,69,68,67,72,71,49,48],44,[100],[50],[45],false,[100]⟩,
 ⟨[48,49,49,70,100,100,100,100,100,69,68,73,72,71,49,48],45,[100],[50],[45],false,[100]⟩,
 ⟨[49,48,48,48,115,115,115,115,115,48,48,48,48,48,49,48],49,[48],[115],[45],false,[115]⟩,
 ⟨[49,48,48,48,100,100,100,100,100,116,116,116,116,116,49,48],1,[100],[48],[116],false,[100,116]⟩,
 ⟨[49,48,48,49,48,48,48,48,48,48,48,48,48,48,49,48],64,[45],[45],[45],false,[]⟩,
 ⟨[49,48,48,49,115,115,115,115,115,48,48,48,48,48,49,48],49,[49],[115],[45],false,[115]⟩,
 ⟨[49,48,48,49,100,100,100,100,100,116,116,116,116,116,49,48],1,[100],[100],[116],false,[100,116]⟩,
 ⟨[49,49,48,70,69,68,67,72,71,116,116,116,116,116,49,48],52,[45],[50],[116],false,[]⟩,
 ⟨[49,49,49,70,69,68,73,72,71,116,116,116,116,116,49,48],53,[45],[50],[116],false,[]⟩]
def a29 (f:c8A):List Value:=[.string ⟨f.half.toArray⟩,.int .i64 f.op,.string ⟨f.rd.toArray⟩,.string ⟨f.rs1.toArray⟩,.string ⟨f.rs2.toArray⟩,.bool f.sgn,.string ⟨f.cond.toArray⟩]
def a45:Array Value:=(c5R.flatMap a29).toArray
theorem b1e:c5R.length=32:=rfl
def frm (k:Nat):c8A:=c5R.getD k ⟨[],0,[],[],[],false,[]⟩
theorem a1g (k j:Nat) (hk:k<32) (hj:j<7):a45[7*k+j]?=(a29 (frm k))[j]?:=by
 unfold a45;rw[List.getElem?_toArray,a1j a29 7 (fun _=>rfl) c5R k j hj (by rw[b1e];exact hk)]
 have:c5R[k]?=some (frm k):=by
  unfold frm;rw[List.getD_eq_getElem?_getD,List.getElem?_eq_getElem (by rw[b1e];exact hk)];rfl
 rw[this];rfl
def b40 (C:Array Value):Prop:=∀k:Nat,k<32->C[k*7]?=some (.string ⟨(frm k).half.toArray⟩)/\C[k*7+1]?=some (.int .i64 (frm k).op)/\
 C[k*7+2]?=some (.string ⟨(frm k).rd.toArray⟩)/\C[k*7+3]?=some (.string ⟨(frm k).rs1.toArray⟩)/\C[k*7+4]?=some (.string ⟨(frm k).rs2.toArray⟩)/\
 C[k*7+5]?=some (.bool (frm k).sgn)/\C[k*7+6]?=some (.string ⟨(frm k).cond.toArray⟩)
theorem c6v:b40 a45:=fun k hk=>by
 rw[Nat.mul_comm k 7];exact ⟨a1g k 0 hk (by omega),a1g k 1 hk (by omega),a1g k 2 hk (by omega),a1g k 3 hk (by omega),a1g k 4 hk (by omega),a1g k 5 hk (by omega),a1g k 6 hk (by omega)⟩
def a5z (F H:ByteArray) (c:Int):Nat->Int
 | 0=>0
 | i+1=>if ((B F i).toNat:Int)=c then 2*a5z F H c i+(B H i).toNat-48 else a5z F H c i
theorem b8A (F H:ByteArray) (c:Int):∀i:Nat,i<=16->-(256*2^i)+256<=a5z F H c i/\a5z F H c i<=256*2^i-256
 | 0,_=>by simp[a5z]
 | i+1,h=>by
  have ih:=b8A F H c i (by omega)
  have hb:=(B H i).toNat_lt;have hp:(2:Int)^(i+1)=2*2^i:=by rw[Int.pow_succ];omega
  have hq:(0:Int)<2^i:=Int.pow_pos (by omega)
  rw[hp];generalize (2:Int)^i=p at *;simp only[a5z]
  split<;>omega
theorem b7P (F H:ByteArray) (c:Int) (i:Nat) (hi:i<=16):-16777216<=a5z F H c i/\a5z F H c i<=16777216:=by
 have h:=b8A F H c i hi;have hp:(2:Int)^i<=65536:=a0M hi;generalize (2:Int)^i=p at *;omega
theorem c2e {F H:ByteArray} {c:Int} {i:Nat} (h:(((B F i).toNat:Int)==c)=true):a5z F H c (i+1)=2*a5z F H c i+(B H i).toNat-48:=by
 have:((B F i).toNat:Int)=c:=by simpa using h
 simp[a5z,this]
theorem c4X {F H:ByteArray} {c:Int} {i:Nat} (h:(((B F i).toNat:Int)==c)=false):a5z F H c (i+1)=a5z F H c i:=by
 have:¬((B F i).toNat:Int)=c:=by simpa using h
 simp[a5z,this]
def a4n (F H:ByteArray) (c:Int):Int:=if cnt F c F.size=3 then a5z F H c 16+8 else a5z F H c 16
def b5q (H:ByteArray):Prop:=∀i,i<16->(B H i).toNat=48\/(B H i).toNat=49
def a5P (F:ByteArray) (i:Nat):Bool:=decide (65<=((B F i).toNat:Int))&&decide (((B F i).toNat:Int)<=90)
def a8V (F H:ByteArray):Nat->Int
 | 0=>0
 | i+1=>if a5P F i then a8V F H i+a2A ((B F i).toNat-65)*((B H i).toNat-48) else a8V F H i
def a6F (F:ByteArray):Nat->Int
 | 0=>0
 | i+1=>if a5P F i then (if ((B F i).toNat:Int)-65+1>a6F F i then (B F i).toNat-65+1 else a6F F i) else a6F F i
theorem b9o {k:Int} (h0:0<=k) (h1:k<=25):1<=a2A k/\a2A k<=33554432:=by
 unfold a2A;have h:(2:Int)^k.toNat<=2^25:=a0M (by omega)
 have:=pow_pos k.toNat;exact ⟨by omega,by simpa using h⟩
theorem b9R (F H:ByteArray) (hH:b5q H):∀i:Nat,i<=16->0<=a8V F H i/\a8V F H i<=33554432*i
 | 0,_=>by simp[a8V]
 | i+1,h=>by
  have ih:=b9R F H hH i (by omega)
  simp only[a8V]
  split
  ·rename_i hu
   simp[a5P]at hu;(have hp:=b9o (k:=((B F i).toNat:Int)-65) (by omega) (by omega));generalize a2A (((B F i).toNat:Int)-65)=p at *;rcases hH i (by omega) with e|e<;>rw[e]<;>omega
  ·omega
theorem b7Y (F:ByteArray):∀i:Nat,0<=a6F F i/\a6F F i<=26
 | 0=>by simp[a6F]
 | i+1=>by
  have ih:=b7Y F i;simp only[a6F]
  split
  ·rename_i hu
   simp[a5P]at hu
   split<;>omega
  ·omega
theorem c0F {F H:ByteArray} {i:Nat} (h:a5P F i=true):a8V F H (i+1)=a8V F H i+a2A ((B F i).toNat-65)*((B H i).toNat-48):=by simp[a8V,h]
theorem c4G {F H:ByteArray} {i:Nat} (h:a5P F i=false):a8V F H (i+1)=a8V F H i:=by simp[a8V,h]
theorem c3t {F:ByteArray} {i:Nat} (h:a5P F i=false):a6F F (i+1)=a6F F i:=by simp[a6F,h]
theorem b8u {F:ByteArray} {i:Nat} (h:a5P F i=true) (h2:((B F i).toNat:Int)-65+1>a6F F i):a6F F (i+1)=(B F i).toNat-65+1:=by simp only[a6F,h,if_true];rw[if_pos h2]
theorem b9H {F:ByteArray} {i:Nat} (h:a5P F i=true) (h2:¬((B F i).toNat:Int)-65+1>a6F F i):a6F F (i+1)=a6F F i:=by simp only[a6F,h,if_true];rw[if_neg h2]
def b6s (F H:ByteArray) (sg:Bool):Int:=if sg=true/\0<a6F F 16 then a0E (a8V F H 16) (a6F F 16) else a8V F H 16
def a1L (F H s:ByteArray):Int:=
 if (s.toList==[45])=true then 0 else if (s.toList==[48])=true then 0 else if (s.toList==[49])=true then 1 else if (s.toList==[50])=true then 2 else a4n F H (B s 0).toNat
def b3y (d s t i:Int) (c:ByteArray):Bool:=
 if (c.toList==[105])=true then i != 0 else if (c.toList==[100])=true then d != 0 else if (c.toList==[98,111,116,104])=true then ((d != 0)==(i != 0))
 else if (c.toList==[100,50,105])=true then (d != 0&&d != 2&&i != 0) else if (c.toList==[100,105])=true then (d != 0&&i != 0)
 else if (c.toList==[115])=true then s != 0 else if (c.toList==[100,116])=true then (d != 0&&t != 0) else true
theorem c4N (d s t i:Int) (c:ByteArray):b3y d s t i c =
 if (c.toList==[105])=true then i != 0 else if (c.toList==[100])=true then d != 0 else if (c.toList==[98,111,116,104])=true then ((d != 0)==(i != 0))
 else if (c.toList==[100,50,105])=true then (d != 0&&d != 2&&i != 0) else if (c.toList==[100,105])=true then (d != 0&&i != 0)
 else if (c.toList==[115])=true then s != 0 else if (c.toList==[100,116])=true then (d != 0&&t != 0) else true:=rfl
def c1g (h:Int):Nat->List UInt8
 | 0=>[]
 | j+1=>c1g h j++[UInt8.ofNat (48+a0c h (15-j) (15-j)).toNat]
def a3X (h:Int) (j:Nat):ByteArray:=⟨(c1g h j).toArray⟩
theorem a6f (h:Int):∀j,(c1g h j).length=j
 | 0=>rfl
 | j+1=>by simp[c1g,a6f h j]
theorem b1c (h:Int) (j:Nat):(a3X h j).size=j:=by
 show (c1g h j).toArray.size=j;simp[a6f]
theorem b7C (h:Int) (k:Nat):a3X h (k+1)=a3X h k++⟨#[UInt8.ofNat (48+a0c h (15-k) (15-k)).toNat]⟩:=by
 apply ByteArray.ext;simp[a3X,c1g]
def misfit (F H:ByteArray) (i:Nat):Bool:=(((B F i).toNat:Int)==48||((B F i).toNat:Int)==49)&&(((B F i).toNat:Int) != ((B H i).toNat:Int))
def b6o (F H:ByteArray):Nat->Bool
 | 0=>true
 | i+1=>b6o F H i&&!misfit F H i
theorem b7f {F H:ByteArray} {i:Nat} (h:misfit F H i=true):∀m,i<m->b6o F H m=false
 | 0,hm=>by omega
 | m+1,hm=>by
  by_cases e:i=m
  ·subst e;simp[b6o,h]
  ·simp[b6o,b7f h m (by omega)]
def a4L (F H rd rs1 rs2:ByteArray) (op:Int) (sg:Bool):Ins:=⟨op,a1L F H rd,a1L F H rs1,a1L F H rs2,b6s F H sg⟩
def a5w (F H rd rs1 rs2 c:ByteArray) (op:Int) (sg:Bool):Option Ins:=
 if b6o F H 16=true then (if b3y (a4n F H 100) (a4n F H 115) (a4n F H 116) (b6s F H sg) c=true then some (a4L F H rd rs1 rs2 op sg) else none) else none
def a3v:Option Ins->Value
 | none=>.tuple #[Ins.val ⟨0,0,0,0,0⟩,.bool false]
 | some i=>.tuple #[i.val,.bool true]
