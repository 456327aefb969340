import Derived.Deep.CutRange
import Derived.Test.YtbmcofdodfcnnaaGreatDoorGM50
import Derived.Test.YtbmcofdodfcnnaaGreatDoorGBC
import Derived.Test.YtbmcofdodfcnnaaGreatDoorGW20
import Derived.Test.YtbmcofdodfcnnaaGreatDoorGFK
import Derived.Test.YtbmcofdodfcnnaaGreatDoorGP
set_option linter.all false
set_option maxHeartbeats 400000000
set_option maxRecDepth 100000
namespace Pn
def c2O (F:List UInt8):Nat->List (Int×Int)
 | 0=>[]
 | i+1=>c2O F i++(if 65<=((F.getD i 0).toNat:Int)/\((F.getD i 0).toNat:Int)<=90 then [(((F.getD i 0).toNat:Int)-65,15-(i:Int))] else [])
def b3x (h:Int):List (Int×Int)->Int->Int
 | [],a=>a
 | x::l,a=>due (a+btF h x.2*pwF x.1.toNat) fun a=>b3x h l a
def sgF (sg:Bool) (M a:Int):Int:=if sg=true/\0<M then (if pwF (M-1).toNat<=a then a-pwF M.toNat else a) else a
def okI (sg sg2:Bool) (pi q:List Int) (U:List (Int×Int)) (M:Int) (n:Nat):Bool:=
 due (imF sg q pi n pi.length) fun d=>decide (sgF sg2 M (b3x n U 0)=d)&&U.all fun x=>decide (btF d x.1=btF n x.2)
theorem c9I:a0k (okI false false [12,11,10,9,8,7,6,5] [5,4,9,8,7,6,2,3] [(5,12),(4,11),(9,10),(8,9),(7,8),(6,7),(2,6),(3,5)] 10) [48,48,48,105,105,105,105,105,105,105,105,48,48,48,48,48] 0=true:=by decide +kernel
theorem c8Y:a0k (okI false false [12,11,10,6,5] [5,4,3,2,6] [(5,12),(4,11),(3,10),(2,6),(6,5)] 7) [48,48,48,105,105,105,48,48,48,105,105,48,48,48,48,48] 0=true:=by decide +kernel
theorem c86:a0k (okI false false [12,11,10,6,5] [5,4,3,7,6] [(5,12),(4,11),(3,10),(7,6),(6,5)] 8) [48,48,48,105,105,105,48,48,48,105,105,48,48,48,48,48] 0=true:=by decide +kernel
theorem c8s:a0k (okI false false [12,11,10,6,5] [5,4,3,2,6] [(5,12),(4,11),(3,10),(2,6),(6,5)] 7) [48,48,48,105,105,105,48,48,48,105,105,48,48,48,48,48] 0=true:=by decide +kernel
theorem c8B:a0k (okI false false [12,11,10,6,5] [5,4,3,7,6] [(5,12),(4,11),(3,10),(7,6),(6,5)] 8) [48,48,48,105,105,105,48,48,48,105,105,48,48,48,48,48] 0=true:=by decide +kernel
theorem c8U:a0k (okI true true [12,6,5,4,3,2] [5,4,3,2,1,0] [(5,12),(4,6),(3,5),(2,4),(1,3),(0,2)] 6) [48,48,48,105,48,48,48,48,48,105,105,105,105,105,48,48] 0=true:=by decide +kernel
theorem c9G:a0k (okI true true [12,6,5,4,3,2] [5,4,3,2,1,0] [(5,12),(4,6),(3,5),(2,4),(1,3),(0,2)] 6) [48,48,48,105,48,48,48,48,48,105,105,105,105,105,48,48] 0=true:=by decide +kernel
theorem c9A:a0k (okI true true [12,6,5,4,3,2] [5,4,3,2,1,0] [(5,12),(4,6),(3,5),(2,4),(1,3),(0,2)] 6) [48,48,48,105,48,48,48,48,48,105,105,105,105,105,48,48] 0=true:=by decide +kernel
theorem c83:a0k (okI true true [12,6,5,4,3,2] [9,4,6,8,7,5] [(9,12),(4,6),(6,5),(8,4),(7,3),(5,2)] 10) [48,48,48,105,48,48,48,48,48,105,105,105,105,105,48,48] 0=true:=by decide +kernel
theorem c9t:a0k (okI true true [12,6,5,4,3,2] [5,4,3,2,1,0] [(5,12),(4,6),(3,5),(2,4),(1,3),(0,2)] 6) [48,48,48,105,48,48,48,48,48,105,105,105,105,105,48,48] 0=true:=by decide +kernel
theorem c6p:a0k (okI false false [12,6,5,4,3,2] [5,4,3,2,1,0] [(5,12),(4,6),(3,5),(2,4),(1,3),(0,2)] 6) [48,48,48,105,48,48,48,48,48,105,105,105,105,105,48,48] 0=true:=by decide +kernel
theorem c5x:a0k (okI false false [12,6,5,4,3,2] [5,4,3,2,1,0] [(5,12),(4,6),(3,5),(2,4),(1,3),(0,2)] 6) [48,48,48,105,48,48,48,48,48,105,105,105,105,105,48,48] 0=true:=by decide +kernel
theorem c5O:a0k (okI true true [12,6,5,4,3,2] [5,4,3,2,1,0] [(5,12),(4,6),(3,5),(2,4),(1,3),(0,2)] 6) [48,48,48,105,48,48,48,48,48,105,105,105,105,105,48,48] 0=true:=by decide +kernel
theorem c6h:a0k (okI false false [] [] [] 0) [48,48,48,48,48,48,48,48,48,48,48,48,48,48,48,48] 0=true:=by decide +kernel
theorem c6G:a0k (okI false false [] [] [] 0) [48,48,48,48,48,48,48,48,48,48,48,48,48,48,48,48] 0=true:=by decide +kernel
theorem c5w:a0k (okI false false [] [] [] 0) [48,48,48,48,48,48,48,48,48,48,48,48,48,48,48,48] 0=true:=by decide +kernel
theorem c6I:a0k (okI false false [] [] [] 0) [48,48,48,48,48,48,48,48,48,48,48,48,48,48,48,48] 0=true:=by decide +kernel
theorem c7q:a0k (okI false false [] [] [] 0) [48,48,48,48,48,48,48,48,48,48,48,48,48,48,48,48] 0=true:=by decide +kernel
theorem c63:a0k (okI false false [] [] [] 0) [48,48,48,48,48,48,48,48,48,48,48,48,48,48,48,48] 0=true:=by decide +kernel
theorem c57:a0k (okI true true [12,11,10,9,8,7,6,5,4,3,2] [11,4,9,8,10,6,7,3,2,1,5] [(11,12),(4,11),(9,10),(8,9),(10,8),(6,7),(7,6),(3,5),(2,4),(1,3),(5,2)] 12) [48,48,48,105,105,105,105,105,105,105,105,105,105,105,48,48] 0=true:=by decide +kernel
theorem c5m:a0k (okI true true [12,11,10,6,5,4,3,2] [8,4,3,7,6,2,1,5] [(8,12),(4,11),(3,10),(7,6),(6,5),(2,4),(1,3),(5,2)] 9) [48,48,48,105,105,105,48,48,48,105,105,105,105,105,48,48] 0=true:=by decide +kernel
theorem c5v:a0k (okI true true [12,11,10,6,5,4,3,2] [8,4,3,7,6,2,1,5] [(8,12),(4,11),(3,10),(7,6),(6,5),(2,4),(1,3),(5,2)] 9) [48,48,48,105,105,105,48,48,48,105,105,105,105,105,48,48] 0=true:=by decide +kernel
theorem c7O:a0k (okI false false [12,6,5,4,3,2] [5,4,3,2,1,0] [(5,12),(4,6),(3,5),(2,4),(1,3),(0,2)] 6) [48,48,48,105,48,48,48,48,48,105,105,105,105,105,48,48] 0=true:=by decide +kernel
theorem c7t:a0k (okI false false [12,6,5,4,3,2] [5,4,3,2,7,6] [(5,12),(4,6),(3,5),(2,4),(7,3),(6,2)] 8) [48,48,48,105,48,48,48,48,48,105,105,105,105,105,48,48] 0=true:=by decide +kernel
theorem c5o:a0k (okI false false [12,6,5,4,3,2] [5,4,3,8,7,6] [(5,12),(4,6),(3,5),(8,4),(7,3),(6,2)] 9) [48,48,48,105,48,48,48,48,48,105,105,105,105,105,48,48] 0=true:=by decide +kernel
theorem c5q:a0k (okI false false [] [] [] 0) [48,48,48,48,48,48,48,48,48,48,48,48,48,48,48,48] 0=true:=by decide +kernel
theorem c52:a0k (okI false false [] [] [] 0) [48,48,48,48,48,48,48,48,48,48,48,48,48,48,48,48] 0=true:=by decide +kernel
theorem c6H:a0k (okI false false [] [] [] 0) [48,48,48,48,48,48,48,48,48,48,48,48,48,48,48,48] 0=true:=by decide +kernel
theorem c5D:a0k (okI false false [] [] [] 0) [48,48,48,48,48,48,48,48,48,48,48,48,48,48,48,48] 0=true:=by decide +kernel
theorem c6Q:a0k (okI false false [] [] [] 0) [48,48,48,48,48,48,48,48,48,48,48,48,48,48,48,48] 0=true:=by decide +kernel
theorem c68:a0k (okI false false [12,11,10,9,8,7] [5,4,3,2,7,6] [(5,12),(4,11),(3,10),(2,9),(7,8),(6,7)] 8) [48,48,48,105,105,105,105,105,105,48,48,48,48,48,48,48] 0=true:=by decide +kernel
theorem c5j:a0k (okI false false [12,11,10,9,8,7] [5,4,3,8,7,6] [(5,12),(4,11),(3,10),(8,9),(7,8),(6,7)] 9) [48,48,48,105,105,105,105,105,105,48,48,48,48,48,48,48] 0=true:=by decide +kernel
open Go
theorem b14 (F:List UInt8) (i:Nat):B (⟨F.toArray⟩:ByteArray) i=F.getD i 0:=by
 unfold B;simp
theorem a9S (F H:ByteArray):∀m,b6o F H m=(List.range m).all (fun i=>!misfit F H i)
 | 0=>rfl
 | m+1=>by rw[b6o,List.range_succ,List.all_append,a9S F H m];simp
def c4Y (F half:List UInt8):Bool:=(List.range 16).all fun i=>if (F.getD i 0).toNat=48\/(F.getD i 0).toNat=49\/(half.getD i 0).toNat=48\/(half.getD i 0).toNat=49 then (F.getD i 0).toNat==(half.getD i 0).toNat else true
def b2h (F half:List UInt8) (c:Nat):Bool:=(List.range 16).all fun i=>((F.getD i 0).toNat==c)==((half.getD i 0).toNat==c)
theorem c2U {F half:List UInt8} (hh:half.length=16) (hs:c4Y F half=true) (h:Int):b6o ⟨F.toArray⟩ (a3X h 16) 16=a8h half h:=by
 rw[a9S];unfold a8h;rw[hh]
 have e:∀i∈List.range 16,(!misfit ⟨F.toArray⟩ (a3X h 16) i)=b9Y half h i:=fun i hi=>by
  have hi':=List.mem_range.1 hi;have hsi:=List.all_eq_true.1 hs i hi;obtain ⟨d1,d2,d3⟩:=a9x h hi';unfold misfit b9Y;rw[b14,d1]
  split at hsi
  ·rename_i hc
   (have he:(F.getD i 0).toNat=(half.getD i 0).toNat:=by simpa using hsi);rw[he]at hc ⊢;(rw[if_pos (by omega)]);rcases (show (half.getD i 0).toNat=48\/(half.getD i 0).toNat=49 by omega) with q|q
   ·rw[q]
    by_cases hb:a0c h (15-i) (15-i)=0
    ·rw[hb];decide
    ·have hb1:a0c h (15-i) (15-i)=1:=by omega
     rw[hb1];decide
   ·rw[q]
    by_cases hb:a0c h (15-i) (15-i)=0
    ·rw[hb];decide
    ·have hb1:a0c h (15-i) (15-i)=1:=by omega
     rw[hb1];decide
  ·rename_i hc
   (rw[if_neg (by omega)]);(have h1:((((F.getD i 0).toNat:Int))==48)=false:=beq_eq_false_iff_ne.2 (fun q=>hc (Or.inl (by omega))));(have h2:((((F.getD i 0).toNat:Int))==49)=false:=beq_eq_false_iff_ne.2 (fun q=>hc (Or.inr (Or.inl (by omega)))));rw[h1,h2];rfl
 rw[Bool.eq_iff_iff,List.all_eq_true,List.all_eq_true];exact ⟨fun q i hi=>by rw[<-e i hi];exact q i hi,fun q i hi=>by rw[e i hi];exact q i hi⟩
theorem c00 {a b:Int} (h0:0<=a) (h1:a<1000000) (b0:0<=b) (b1:b<=1):orz (a*2) b=2*a+b:=by
 have:=a0h (a*2) b 0 1 1 2 rfl rfl (by omega) (by omega) (by omega) b0 (by omega) (by omega)
 rw[Int.mul_one]at this;omega
theorem b4L (p:List Int) (q n:Int):∀j,j<=p.length->rgR (p++[q]) n j=rgR p n j
 | 0,_=>rfl
 | j+1,hj=>by
  have e:(p++[q]).getD j 0=p.getD j 0:=by rw[List.getD_eq_getElem?_getD,List.getElem?_append_left (show j<p.length by omega),List.getD_eq_getElem?_getD]
  rw[rgR,rgR,b4L p q n j (by omega),e]
theorem c29 {F half:List UInt8} {c:Nat} (hs:b2h F half c=true) (h:Int):∀i,i<=16->a5z ⟨F.toArray⟩ (a3X h 16) c i=rgR (pl half c i) h (pl half c i).length
 | 0,_=>rfl
 | i+1,hi=>by
  have ih:=c29 hs h i (by omega)
  have hsi:((F.getD i 0).toNat==c)=((half.getD i 0).toNat==c):=eq_of_beq (List.all_eq_true.1 hs i (List.mem_range.2 (by omega)))
  obtain ⟨d1,d2,d3⟩:=a9x h (show i<16 by omega)
  have hbd:=b7M (pl half c i) h (pl half c i).length (by have:=a8d half c i;omega)
  have hlen:=a8d half c i;rw[a5z,pl,b14,d1];by_cases hc:(F.getD i 0).toNat=c
  ·have hc2:(half.getD i 0).toNat=c:=by
    rw[beq_iff_eq.2 hc]at hsi;exact beq_iff_eq.1 hsi.symm
   (rw[if_pos (by omega),if_pos (by omega),List.length_append,List.length_singleton,rgR,b4L _ _ _ _ (Nat.le_refl _),ih]);(have e:(pl half c i++[15-(i:Int)]).getD (pl half c i).length 0=15-(i:Int):=by simp[List.getD]);(have hp:(2:Int)^(pl half c i).length<=2^16:=a0M (by omega));(have h16:(2:Int)^16=65536:=by decide);(rw[e,c00 hbd.1 (by omega) (c2o _ _).1 (c2o _ _).2]);unfold bt;omega
  ·have hc2:¬(half.getD i 0).toNat=c:=fun q=>hc (by
    rw[beq_iff_eq.2 q]at hsi;exact beq_iff_eq.1 hsi)
   (rw[if_neg (by omega),if_neg (by omega),List.append_nil]);exact ih
def b16 (F:ByteArray) (d s t imm:Int) (k:Nat):Int:=
 if ((B F k).toNat:Int)=49 then 1
 else if ((B F k).toNat:Int)=100 then a0c d (cnt F 100 16-cnt F 100 (k+1)) (cnt F 100 16-cnt F 100 (k+1))
 else if ((B F k).toNat:Int)=115 then a0c s (cnt F 115 16-cnt F 115 (k+1)) (cnt F 115 16-cnt F 115 (k+1))
 else if ((B F k).toNat:Int)=116 then a0c t (cnt F 116 16-cnt F 116 (k+1)) (cnt F 116 16-cnt F 116 (k+1))
 else if 65<=((B F k).toNat:Int)/\((B F k).toNat:Int)<=90 then a0c imm ((B F k).toNat-65) ((B F k).toNat-65) else 0
theorem b95 (F:ByteArray) (d s t imm:Int) (k:Nat) {C1 C2 C3:Int} (h1:cnt F 100 16=C1) (h2:cnt F 115 16=C2) (h3:cnt F 116 16=C3):b16 F d s t imm k=if ((B F k).toNat:Int)=49 then 1
 else if ((B F k).toNat:Int)=100 then a0c d (C1-cnt F 100 (k+1)) (C1-cnt F 100 (k+1))
 else if ((B F k).toNat:Int)=115 then a0c s (C2-cnt F 115 (k+1)) (C2-cnt F 115 (k+1))
 else if ((B F k).toNat:Int)=116 then a0c t (C3-cnt F 116 (k+1)) (C3-cnt F 116 (k+1))
 else if 65<=((B F k).toNat:Int)/\((B F k).toNat:Int)<=90 then a0c imm ((B F k).toNat-65) ((B F k).toNat-65) else 0:=by
 subst h1 h2 h3;rfl
def a3C (F:ByteArray) (d s t imm:Int):Nat->Int
 | 0=>0
 | k+1=>2*a3C F d s t imm k+b16 F d s t imm k
theorem a6V (n q:Int):0<=a0c n q q/\a0c n q q<=1:=by
 have h:=a0K n q q;have e:(2:Int)^(q.toNat-q.toNat+1)=2:=by simp
 rw[e]at h;omega
theorem c0d (F:ByteArray) (d s t imm:Int) (k:Nat):0<=b16 F d s t imm k/\b16 F d s t imm k<=1:=by
 unfold b16
 split
 ·omega
 ·split
  ·exact a6V _ _
  ·split
   ·exact a6V _ _
   ·split
    ·exact a6V _ _
    ·split
     ·exact a6V _ _
     ·omega
theorem a7u (F:ByteArray) (d s t imm:Int):∀k:Nat,0<=a3C F d s t imm k/\a3C F d s t imm k<2^k
 | 0=>by simp[a3C]
 | k+1=>by
  have h1:=a7u F d s t imm k;have h2:=c0d F d s t imm k;rw[a3C,Int.pow_succ];omega
theorem a7w (F:ByteArray) (c:Int) (j:Nat):∀d,cnt F c j<=cnt F c (j+d)
 | 0=>Int.le_refl _
 | d+1=>by
  have h:=a7w F c j d;rw[show j+(d+1)=(j+d)+1 by omega,cnt]
  split<;>omega
end Pn
namespace Go.Proofs.YtbmcofdodfcnnaaGreatDoor
open Pn
open Go.Proofs.Tryz
open Go.RowKit
theorem a22 {x:Int} (h:-9223372036854775808<=x/\x<9223372036854775808):wrap64 x=x:=by unfold wrap64;omega
structure FlD (w:World) (f i l:List Value) (V:World):Prop where
 f:CellsAt w.heap.size f V
 i:CellsAt (w.heap.size+1) i V
 l:CellsAt (w.heap.size+1+1) l V
 b:Below w.heap.size w V
theorem FlD.set {w V:World} {f i l:List Value} (h:FlD w f i l V) (q:Nat) (v:Value) (hq:q<l.length):FlD w f i (l.set q v) (V.setCell ⟨w.heap.size+1+1,q,none⟩ v):=
 ⟨a5Q h.f (by omega) _ _,a5Q h.i (by omega) _ _,h.l.set q v hq,h.b.setCell (by show w.heap.size<=w.heap.size+1+1;omega) _⟩
theorem c3K (w:World) (f i l:List Value) (t1 t2 t3:TypeId):FlD w f i l (((w.alloc (.cells f.toArray t1)).alloc (.cells i.toArray t2)).alloc (.cells l.toArray t3)):=by
 have e1:(w.alloc (.cells f.toArray t1)).heap.size=w.heap.size+1:=by simp
 have e2:((w.alloc (.cells f.toArray t1)).alloc (.cells i.toArray t2)).heap.size=w.heap.size+1+1:=by simp
 have h2:=CellsAt.new (w.alloc (.cells f.toArray t1)) i t2;have h3:=CellsAt.new ((w.alloc (.cells f.toArray t1)).alloc (.cells i.toArray t2)) l t3;rw[e1]at h2;rw[e2]at h3;exact ⟨((CellsAt.new w f t1).alloc _).alloc _,h2.alloc _,h3,(((Below.refl _ _).alloc (Nat.le_refl _) _).alloc (by rw[e1];omega) _).alloc (by rw[e2];omega) _⟩
theorem b87 (F:ByteArray) (op:Int) (o a b e1 c:Value) (iop d s t imm:Int) (w:World) (hF:F.size=16) (hd:0<=d/\d<=31) (hs:0<=s/\s<=31) (ht:0<=t/\t<=31) (hi:-1099511627776<=imm/\imm<=1099511627776):
    Calls prog 166 #[.agg #[.string F,.int .i64 op,o,a,b,e1,c],.agg #[.int .i64 iop,.int .i64 d,.int .i64 s,.int .i64 t,.int .i64 imm]] w fun e w'=>e=.returned (.int .i64 (a3C F d s t imm 16))/\Below w.heap.size w w':=by
 have HC:=a0a (fun ch w'=>a7K F ch w' (by omega))
 go_enter func166,ntmps166;go_wp2_with fail;have HD:=a0a (c3K w [.string F,.int .i64 op,o,a,b,e1,c] [.int .i64 iop,.int .i64 d,.int .i64 s,.int .i64 t,.int .i64 imm] [.int .i64 0,.int .i64 0,.int .i64 0] 230 26 272);generalize World.alloc (World.alloc (w.alloc _) _) _=W1 at *;have f0:=HD.out.f.2.2 0 _ rfl;have l0:=HD.out.l.2.2 0 _ rfl;have l1:=HD.out.l.2.2 1 _ rfl;have l2:=HD.out.l.2.2 2 _ rfl;have lf:=HD.out.l.2.1;have hc1:=HC.out 100;have hc2:=HC.out 115;have hc3:=HC.out 116;rw[hF]at hc1 hc2 hc3;have HC1:=a0a hc1;have HC2:=a0a hc2;have HC3:=a0a hc3;clear hc1 hc2 hc3 HC;generalize hC1:Pn.cnt F 100 16=C1 at *;generalize hC2:Pn.cnt F 115 16=C2 at *;generalize hC3:Pn.cnt F 116 16=C3 at *;refine (HC1.out W1).mono ?_;rintro e w' ⟨rfl,rfl⟩;go_upto_region 7 with fail;have HD:=a0a (HD.out.set 0 (.int .i64 C1) (by simp))
 generalize World.setCell w' _ _=W2 at *;clear f0 l0 l1 l2 lf;have f0:=HD.out.f.2.2 0 _ rfl;have l0:=HD.out.l.2.2 0 _ rfl;have l1:=HD.out.l.2.2 1 _ rfl;have l2:=HD.out.l.2.2 2 _ rfl;have lf:=HD.out.l.2.1;go_wp2_with fail;refine (HC2.out W2).mono ?_;rintro e w'' ⟨rfl,rfl⟩;go_upto_region 8 with fail;have HD:=a0a (HD.out.set 1 (.int .i64 C2) (by simp))
 generalize World.setCell w'' _ _=W3 at *;clear f0 l0 l1 l2 lf;have f0:=HD.out.f.2.2 0 _ rfl;have l0:=HD.out.l.2.2 0 _ rfl;have l1:=HD.out.l.2.2 1 _ rfl;have l2:=HD.out.l.2.2 2 _ rfl;have lf:=HD.out.l.2.1;go_wp2_with fail;refine (HC3.out W3).mono ?_;rintro e w3 ⟨rfl,rfl⟩;go_upto_region 9 with fail;have HD:=a0a (HD.out.set 2 (.int .i64 C3) (by simp))
 generalize World.setCell w3 _ _=W4 at *;clear f0 l0 l1 l2 lf;simp only[List.set_cons_zero,List.set_cons_succ]at HD;go_wp2_with fail
 have HK:Hid ((∀j,j<16->Pn.cnt F 100 (j+1)<=C1/\Pn.cnt F 115 (j+1)<=C2/\Pn.cnt F 116 (j+1)<=C3)/\C1<=16/\C2<=16/\C3<=16):=a0a (by
  refine ⟨fun j hj=>?_,?_,?_,?_⟩
  ·have m1:=a7w F 100 (j+1) (16-(j+1))
   have m2:=a7w F 115 (j+1) (16-(j+1));have m3:=a7w F 116 (j+1) (16-(j+1));(rw[show j+1+(16-(j+1))=16 by omega]at m1 m2 m3);rw[hC1]at m1;rw[hC2]at m2;rw[hC3]at m3;exact ⟨m1,m2,m3⟩
  ·have:=a4z F 100 16;omega
  ·have:=a4z F 115 16;omega
  ·have:=a4z F 116 16;omega)
 have HFB:=a0a (fun k=>b95 F d s t imm k hC1 hC2 hC3)
 have HCC:=a0a (And.intro hC1 (And.intro hC2 hC3));clear hC1 hC2 hC3 HC1 HC2 HC3;go_loopw [8,10] (fun h k wr=>∃j:Nat,h=.int .i64 (a3C F d s t imm j)/\k=.int .i64 j/\j<=16/\Hid (FlD w [.string F,.int .i64 op,o,a,b,e1,c] [.int .i64 iop,.int .i64 d,.int .i64 s,.int .i64 t,.int .i64 imm] [.int .i64 (C1-Pn.cnt F 100 j),.int .i64 (C2-Pn.cnt F 115 j),.int .i64 (C3-Pn.cnt F 116 j)] wr)) (fun _ k _=>16-(intOf k).toNat)
 case atStart=>exact ⟨0,rfl,rfl,by omega,by simpa[Pn.cnt] using HD⟩
 case round=>
  clear HD;obtain ⟨j,rfl,rfl,hj,HD⟩:=hrel;by_cases hlt:j<16
  ·have hlti:(j:Int)<16:=by omega
   (have hjF:(j:Int)<F.size:=by omega);have f0:=HD.out.f.2.2 0 _ rfl;have i4:=HD.out.i.2.2 4 _ rfl;have l0:=HD.out.l.2.2 0 _ rfl;have l1:=HD.out.l.2.2 1 _ rfl;have l2:=HD.out.l.2.2 2 _ rfl;have lf:=HD.out.l.2.1;(have b1:((F[j]'(by omega)).toNat:Int)=((Pn.B F j).toNat:Int):=by rw[a9J F j (by omega)]);(have wj:IntKind.i64.wrap ((j:Int)+1)=(j:Int)+1:=IntWalk.i64_in _ (by omega));have hN:=a7u F d s t imm j
   have hN2:a3C F d s t imm j<=65536:=by
    (have h2:(2:Int)^j<=2^16:=a0M (by omega));(have h3:(2:Int)^16=65536:=by decide);omega
   have hx:=HFB.out j;have HFN:Hid (a3C F d s t imm (j+1)=2*a3C F d s t imm j+b16 F d s t imm j):=a0a rfl;(have HCT:Hid (∀ch:Int,Pn.cnt F ch (j+1)=Pn.cnt F ch j+if ((Pn.B F j).toNat:Int)=ch then 1 else 0):=a0a (fun ch=>rfl));have hm:=HK.out.1 j hlt;(have hb8:((Pn.B F j).toNat:Int)<256:=by have:=(Pn.B F j).toNat_lt;omega);generalize a3C F d s t imm j=N1 at *;generalize ((Pn.B F j).toNat:Int)=x at *;by_cases h49:x=49
   ·as_aux_lemma=>
     subst h49;rw[if_pos rfl]at hx;rw[hx]at HFN;(have wn:IntKind.i64.wrap (2*N1)=2*N1:=IntWalk.i64_in _ (by omega));(have wm:IntKind.i64.wrap (2*N1+1)=2*N1+1:=IntWalk.i64_in _ (by omega));clear hx;go_wp2_with fail;go_roundw;(case rel=>exact ⟨j+1,by rw[HFN.out],by go_num,by omega,a0a (by have e:=HD.out;rw[HCT.out 100,HCT.out 115,HCT.out 116,if_neg (by omega),if_neg (by omega),if_neg (by omega)];simpa using e)⟩);case measure=>simp[intOf];omega
   ·by_cases h100:x=100
    ·as_aux_lemma=>
      subst h100;(rw[if_neg (by decide),if_pos rfl]at hx);rw[hx]at HFN;have hct:=HCT.out 100;rw[if_pos rfl]at hct;have hc0:=a4z F 100 j;have hbt:=a6V d (C1-Pn.cnt F 100 (j+1));rw[hct]at hm hbt HFN;have hk16:=HK.out.2.1;(have HBt:=a0a (fun w'=>a2g d (C1-(Pn.cnt F 100 j+1)) (C1-(Pn.cnt F 100 j+1)) w' (by omega) (by omega) (by omega) (by omega) (by omega)));(have wl:IntKind.i64.wrap (C1-Pn.cnt F 100 j-1)=C1-(Pn.cnt F 100 j+1):=by rw[IntWalk.i64_in _ (by omega)];omega);(have wl2:wrap64 (C1-Pn.cnt F 100 j-1)=C1-(Pn.cnt F 100 j+1):=(a22 (by omega)).trans (by omega));generalize a0c d (C1-(Pn.cnt F 100 j+1)) (C1-(Pn.cnt F 100 j+1))=bt at *;(have wn:IntKind.i64.wrap (2*N1)=2*N1:=IntWalk.i64_in _ (by omega));(have wm:IntKind.i64.wrap (2*N1+bt)=2*N1+bt:=IntWalk.i64_in _ (by omega));clear hx hct;go_wp2_with (go_at_call 159;refine (HBt.out _).mono ?_;rintro e w' ⟨rfl,rfl⟩);go_roundw;(case rel=>exact ⟨j+1,by rw[HFN.out],by go_num,by omega,a0a (by have e:=HD.out.set 0 (.int .i64 (C1-(Pn.cnt F 100 j+1))) (by simp);rw[HCT.out 100,HCT.out 115,HCT.out 116,if_pos rfl,if_neg (by decide),if_neg (by decide)];simpa using e)⟩);case measure=>simp[intOf];omega
    ·by_cases h115:x=115
     ·as_aux_lemma=>
       subst h115;(rw[if_neg (by decide),if_neg (by decide),if_pos rfl]at hx);rw[hx]at HFN;have hct:=HCT.out 115;rw[if_pos rfl]at hct;have hc0:=a4z F 115 j;have hbt:=a6V s (C2-Pn.cnt F 115 (j+1));rw[hct]at hm hbt HFN;have hk16:=HK.out.2.2.1;(have HBt:=a0a (fun w'=>a2g s (C2-(Pn.cnt F 115 j+1)) (C2-(Pn.cnt F 115 j+1)) w' (by omega) (by omega) (by omega) (by omega) (by omega)));(have wl:IntKind.i64.wrap (C2-Pn.cnt F 115 j-1)=C2-(Pn.cnt F 115 j+1):=by rw[IntWalk.i64_in _ (by omega)];omega);(have wl2:wrap64 (C2-Pn.cnt F 115 j-1)=C2-(Pn.cnt F 115 j+1):=(a22 (by omega)).trans (by omega));generalize a0c s (C2-(Pn.cnt F 115 j+1)) (C2-(Pn.cnt F 115 j+1))=bt at *;(have wn:IntKind.i64.wrap (2*N1)=2*N1:=IntWalk.i64_in _ (by omega));(have wm:IntKind.i64.wrap (2*N1+bt)=2*N1+bt:=IntWalk.i64_in _ (by omega));clear hx hct;go_wp2_with (go_at_call 159;refine (HBt.out _).mono ?_;rintro e w' ⟨rfl,rfl⟩);go_roundw;(case rel=>exact ⟨j+1,by rw[HFN.out],by go_num,by omega,a0a (by have e:=HD.out.set 1 (.int .i64 (C2-(Pn.cnt F 115 j+1))) (by simp);rw[HCT.out 100,HCT.out 115,HCT.out 116,if_neg (by decide),if_pos rfl,if_neg (by decide)];simpa using e)⟩);case measure=>simp[intOf];omega
     ·by_cases h116:x=116
      ·as_aux_lemma=>
        subst h116;(rw[if_neg (by decide),if_neg (by decide),if_neg (by decide),if_pos rfl]at hx);rw[hx]at HFN;have hct:=HCT.out 116;rw[if_pos rfl]at hct;have hc0:=a4z F 116 j;have hbt:=a6V t (C3-Pn.cnt F 116 (j+1));rw[hct]at hm hbt HFN;have hk16:=HK.out.2.2.2;(have HBt:=a0a (fun w'=>a2g t (C3-(Pn.cnt F 116 j+1)) (C3-(Pn.cnt F 116 j+1)) w' (by omega) (by omega) (by omega) (by omega) (by omega)));(have wl:IntKind.i64.wrap (C3-Pn.cnt F 116 j-1)=C3-(Pn.cnt F 116 j+1):=by rw[IntWalk.i64_in _ (by omega)];omega);(have wl2:wrap64 (C3-Pn.cnt F 116 j-1)=C3-(Pn.cnt F 116 j+1):=(a22 (by omega)).trans (by omega));generalize a0c t (C3-(Pn.cnt F 116 j+1)) (C3-(Pn.cnt F 116 j+1))=bt at *;(have wn:IntKind.i64.wrap (2*N1)=2*N1:=IntWalk.i64_in _ (by omega));(have wm:IntKind.i64.wrap (2*N1+bt)=2*N1+bt:=IntWalk.i64_in _ (by omega));clear hx hct;go_wp2_with (go_at_call 159;refine (HBt.out _).mono ?_;rintro e w' ⟨rfl,rfl⟩);go_roundw;(case rel=>exact ⟨j+1,by rw[HFN.out],by go_num,by omega,a0a (by have e:=HD.out.set 2 (.int .i64 (C3-(Pn.cnt F 116 j+1))) (by simp);rw[HCT.out 100,HCT.out 115,HCT.out 116,if_neg (by decide),if_neg (by decide),if_pos rfl];simpa using e)⟩);case measure=>simp[intOf];omega
      ·rw[if_neg h49,if_neg h100,if_neg h115,if_neg h116]at hx
       have HSM:Hid (FlD w [.string F,.int .i64 op,o,a,b,e1,c] [.int .i64 iop,.int .i64 d,.int .i64 s,.int .i64 t,.int .i64 imm] [.int .i64 (C1-Pn.cnt F 100 (j+1)),.int .i64 (C2-Pn.cnt F 115 (j+1)),.int .i64 (C3-Pn.cnt F 116 (j+1))] wr):=a0a (by
        have e:=HD.out;rw[HCT.out 100,HCT.out 115,HCT.out 116,if_neg h100,if_neg h115,if_neg h116];simpa using e)
       by_cases hup:65<=x/\x<=90
       ·as_aux_lemma=>
         rw[if_pos hup]at hx;rw[hx]at HFN;obtain ⟨u1,u2⟩:=hup;have hbt:=a6V imm (x-65);(have HBt:=a0a (fun w'=>a2g imm (x-65) (x-65) w' (by omega) (by omega) (by omega) (by omega) (by omega)));(have wl:IntKind.i64.wrap (x-65)=x-65:=IntWalk.i64_in _ (by omega));(have wx:IntKind.i64.wrap x=x:=IntWalk.i64_in _ (by omega));(have wl2:wrap64 (x-65)=x-65:=a22 (by omega));(have wx2:wrap64 x=x:=a22 (by omega));generalize a0c imm (x-65) (x-65)=bt at *;(have wn:IntKind.i64.wrap (2*N1)=2*N1:=IntWalk.i64_in _ (by omega));(have wm:IntKind.i64.wrap (2*N1+bt)=2*N1+bt:=IntWalk.i64_in _ (by omega));clear hx;go_wp2_with (go_at_call 159;refine (HBt.out _).mono ?_;rintro e w' ⟨rfl,rfl⟩);go_roundw;(case rel=>exact ⟨j+1,by rw[HFN.out],by go_num,by omega,HSM⟩);case measure=>simp[intOf];omega
       ·as_aux_lemma=>
         rw[if_neg hup]at hx;rw[hx]at HFN;(have wn:IntKind.i64.wrap (2*N1)=2*N1:=IntWalk.i64_in _ (by omega));(have wm:IntKind.i64.wrap (2*N1+0)=2*N1+0:=IntWalk.i64_in _ (by omega));(have HFN2:Hid (a3C F d s t imm (j+1)=2*N1):=a0a (by rw[HFN.out];omega));by_cases u1:65<=x
         ·have u2:¬x<=90:=fun h=>hup ⟨u1,h⟩
          clear hx hup;go_wp2_with fail;go_roundw;(case rel=>exact ⟨j+1,by rw[HFN2.out],by go_num,by omega,HSM⟩);case measure=>simp[intOf];omega
         ·clear hx hup
          go_wp2_with fail;go_roundw;(case rel=>exact ⟨j+1,by rw[HFN2.out],by go_num,by omega,HSM⟩);case measure=>simp[intOf];omega
  ·as_aux_lemma=>
    (have hj16:j=16:=by omega);subst hj16;have HDb:=a0a HD.out.b;clear hlt hj HD;go_wp2_with fail;go_ret;exact ⟨rfl,HDb.out⟩
end Go.Proofs.YtbmcofdodfcnnaaGreatDoor
namespace Pn
open Go
def eqI (a b:Ins):Bool:=a.op==b.op&&(a.rd==b.rd&&(a.rs1==b.rs1&&(a.rs2==b.rs2&&a.imm==b.imm)))
def c5a (o:Option Ins) (i:Ins):Bool:=match o with|some x=>eqI x i|none=>false
def shR (i:Ins) (k:Nat):Option Int:=
 if (frm k).op=i.op then (if c5a (stF k (a3X (a3C ⟨(frm k).half.toArray⟩ i.rd i.rs1 i.rs2 i.imm 16) 16)) i=true then some (a3C ⟨(frm k).half.toArray⟩ i.rd i.rs1 i.rs2 i.imm 16) else none) else none
theorem b9E {i:Ins} (h:right i=true):∃k:Nat,k<64/\i.op=(k:Int)+1:=by
 by_cases hc:1<=i.op/\i.op<=64
 ·exact ⟨(i.op-1).toNat,by omega,by omega⟩
 ·rw[a1C i hc]at h
  cases h
def a0S (i:Ins):Int×Int:=if right i=true then (match (List.range 32).findSome? (shR i) with|some h=>(h,0)|none=>(0,2)) else (0,1)
theorem b6l {i:Ins} (hr:right i=true) {k:Nat} (hk:k<32) {h:Int} (hn:∀j,j<k->shR i j=none) (hi:shR i k=some h):a0S i=(h,0):=by
 unfold a0S;rw[if_pos hr,b0T (k:=k) (x:=k) (y:=h) (List.getElem?_range hk) (fun j z hj hz=>?_) hi]
 rw[List.getElem?_range (by omega)]at hz
 cases hz
 exact hn j hj
theorem b7x {i:Ins} (hr:right i=true) (hn:∀j,j<32->shR i j=none):a0S i=(0,2):=by
 unfold a0S
 have e:(List.range 32).findSome? (shR i)=none:=by
  rw[List.findSome?_eq_none_iff];intro k hk;exact hn k (List.mem_range.1 hk)
 rw[if_pos hr,e]
end Pn
namespace Go.Proofs.YtbmcofdodfcnnaaGreatDoor
open Pn
open Go.Proofs.Tryz
open Go.RowKit
theorem c15 (k:Nat) (hk:k<32) (i:Pn.Ins) (w:World) (hr:Pn.right i=true):
    Calls prog 166 #[.agg #[.string ⟨(Pn.frm k).half.toArray⟩,.int .i64 (Pn.frm k).op,.string ⟨(Pn.frm k).rd.toArray⟩,.string ⟨(Pn.frm k).rs1.toArray⟩,.string ⟨(Pn.frm k).rs2.toArray⟩,.bool (Pn.frm k).sgn,.string ⟨(Pn.frm k).cond.toArray⟩],.agg #[.int .i64 i.op,.int .i64 i.rd,.int .i64 i.rs1,.int .i64 i.rs2,.int .i64 i.imm]] w fun e w'=>e=.returned (.int .i64 (a3C ⟨(Pn.frm k).half.toArray⟩ i.rd i.rs1 i.rs2 i.imm 16))/\Below w.heap.size w w':=by
 obtain ⟨o,ho,e⟩:=b9E hr;obtain ⟨op,rd,rs1,rs2,imm⟩:=i;simp only at e;subst e;have hb:=a1k ho hr;have sz:(⟨(Pn.frm k).half.toArray⟩:ByteArray).size=(Pn.frm k).half.length:=by simp[ByteArray.size]
 exact b87 _ _ _ _ _ _ _ _ rd rs1 rs2 imm w (by rw[sz];exact (b8R k hk).1) ⟨by omega,by omega⟩ ⟨by omega,by omega⟩ ⟨by omega,by omega⟩ ⟨by omega,by omega⟩
structure ShD (w:World) (bf:Nat) (i:List Value) (V:World):Prop where
 i:CellsAt w.heap.size i V
 f:∀k,k<32->∀q v,(a29 (Pn.frm k))[q]?=some v->V.cell? ⟨bf,k*7+q,none⟩=some v
 lt:bf<V.heap.size
 b:Below w.heap.size w V
theorem ShD.next {w V V':World} {bf:Nat} {i:List Value} (h:ShD w bf i V) (hB:Below V.heap.size V V'):ShD w bf i V':=
 ⟨h.i.next hB,fun k hk q v hv=>(hB.cell (p:=⟨bf,k*7+q,none⟩) h.lt).trans (h.f k hk q v hv),Nat.lt_of_lt_of_le h.lt hB.size,h.b.trans (hB.mono h.b.size)⟩
theorem c3H (w:World) {V:World} {i:List Value} (hi:CellsAt w.heap.size i V) (hb:Below w.heap.size w V) {C:Array Value} (hC:b40 C):ShD w V.heap.size i (V.alloc (.cells C 230)):=by
 have hn:=heap_alloc_new V (.cells C 230);refine ⟨hi.alloc _,fun k hk q v hv=>?_,by simp,hb.alloc hb.size _⟩
 rw[Lib.cell_of_heap hn];obtain ⟨c0,c1,c2,c3,c4,c5,c6⟩:=hC k hk;unfold a29 at hv;rcases q with _|_|_|_|_|_|_|q
 ·simp at hv;subst hv;exact c0
 ·simp at hv;subst hv;exact c1
 ·simp at hv;subst hv;exact c2
 ·simp at hv;subst hv;exact c3
 ·simp at hv;subst hv;exact c4
 ·simp at hv;subst hv;exact c5
 ·simp at hv;subst hv;exact c6
 ·simp at hv
theorem b9a (i:Pn.Ins) (w:World) (hr:Pn.right i=true):
    Calls prog 96 #[i.val] w fun e w'=>e=.returned (.tuple #[.int .i64 (a0S i).1,.int .i64 (a0S i).2])/\Below w.heap.size w w':=by
 have HR:=a0a (a0V i);rw[hr]at HR;have HH:=a0a (fun k h hk hn hi=>b6l hr (k:=k) hk (h:=h) hn hi)
 have HN:=a0a (b7x hr);have HF:=a0a (fun k hk w'=>c15 k hk i w' hr)
 obtain ⟨op,rd,rs1,rs2,imm⟩:=i;unfold Pn.Ins.val at HR ⊢;simp only at HR HF;clear hr;go_enter func96,ntmps96;go_wp2_with fail;refine (HR.out _).mono ?_;rintro e w1 ⟨rfl,hB1⟩;have HI:=a0a ((CellsAt.new w [.int .i64 op,.int .i64 rd,.int .i64 rs1,.int .i64 rs2,.int .i64 imm] 26).next hB1);have HB:=a0a (((Below.refl _ w).alloc (Nat.le_refl _) (.cells #[.int .i64 op,.int .i64 rd,.int .i64 rs1,.int .i64 rs2,.int .i64 imm] 26)).trans (hB1.mono (by simp)))
 clear hB1 HR;go_wp2_with fail;refine (b1a _).mono ?_;rintro e w2 ⟨C,hC,rfl,rfl⟩;have HD:=a0a (c3H w HI.out HB.out hC);generalize hbf:w1.heap.size=bf at *;clear hC HI HB hbf;go_wp2_with fail;generalize w1.alloc _=W3 at *;go_loopw [6] (fun v wr=>∃k:Nat,v=.int .i64 k/\k<=32/\Hid (∀j,j<k->Pn.shR ⟨op,rd,rs1,rs2,imm⟩ j=none)/\Hid (ShD w bf [.int .i64 op,.int .i64 rd,.int .i64 rs1,.int .i64 rs2,.int .i64 imm] wr)) (fun v _=>32-(intOf v).toNat)
 case atStart=>exact ⟨0,rfl,by omega,a0a (fun j hj=>by omega),HD⟩
 case round=>
  clear HD;obtain ⟨k,rfl,hk,HNO,HD⟩:=hrel;by_cases hlt:k<32
  ·have hlti:(k:Int)<32:=by omega
   have y0:wr.cell? ⟨bf,k*7,none⟩=some (.string ⟨(Pn.frm k).half.toArray⟩):=HD.out.f k hlt 0 _ rfl;have y1:wr.cell? ⟨bf,k*7+1,none⟩=some (.int .i64 (Pn.frm k).op):=HD.out.f k hlt 1 _ rfl;have y2:wr.cell? ⟨bf,k*7+2,none⟩=some (.string ⟨(Pn.frm k).rd.toArray⟩):=HD.out.f k hlt 2 _ rfl;have y3:wr.cell? ⟨bf,k*7+3,none⟩=some (.string ⟨(Pn.frm k).rs1.toArray⟩):=HD.out.f k hlt 3 _ rfl;have y4:wr.cell? ⟨bf,k*7+4,none⟩=some (.string ⟨(Pn.frm k).rs2.toArray⟩):=HD.out.f k hlt 4 _ rfl;have y5:wr.cell? ⟨bf,k*7+5,none⟩=some (.bool (Pn.frm k).sgn):=HD.out.f k hlt 5 _ rfl;have y6:wr.cell? ⟨bf,k*7+6,none⟩=some (.string ⟨(Pn.frm k).cond.toArray⟩):=HD.out.f k hlt 6 _ rfl;have z0:=HD.out.i.2.2 0 _ rfl;have z1:=HD.out.i.2.2 1 _ rfl;have z2:=HD.out.i.2.2 2 _ rfl;have z3:=HD.out.i.2.2 3 _ rfl;have z4:=HD.out.i.2.2 4 _ rfl;(have wk:IntKind.i64.wrap ((k:Int)+1)=(k:Int)+1:=IntWalk.i64_in _ (by omega));by_cases hop:(Pn.frm k).op=op
   ·have HSR:Hid (Pn.shR ⟨op,rd,rs1,rs2,imm⟩ k=if c5a (Pn.stF k (a3X (a3C ⟨(Pn.frm k).half.toArray⟩ rd rs1 rs2 imm 16) 16)) ⟨op,rd,rs1,rs2,imm⟩=true then some (a3C ⟨(Pn.frm k).half.toArray⟩ rd rs1 rs2 imm 16) else none):=a0a (by unfold Pn.shR;rw[if_pos hop])
    have HFk:=a0a (HF.out k hlt);have hbd:=a7u ⟨(Pn.frm k).half.toArray⟩ rd rs1 rs2 imm 16;(have e16:(2:Int)^16=65536:=by decide);rw[e16]at hbd;generalize hh:a3C ⟨(Pn.frm k).half.toArray⟩ rd rs1 rs2 imm 16=h at *;(have HDg:=a0a (fun w'=>b1z h w' (by omega) (by omega)));(have HSk:=a0a (fun w'=>b4n k hlt h w'));generalize a3X h 16=D at *;generalize Pn.stF k D=ST at *;rw[hop]at y1 HFk HSk;clear hh e16;generalize (⟨(Pn.frm k).half.toArray⟩:ByteArray)=g0 at *;generalize (⟨(Pn.frm k).rd.toArray⟩:ByteArray)=g2 at *;generalize (⟨(Pn.frm k).rs1.toArray⟩:ByteArray)=g3 at *;generalize (⟨(Pn.frm k).rs2.toArray⟩:ByteArray)=g4 at *;generalize (Pn.frm k).sgn=g5 at *;generalize (⟨(Pn.frm k).cond.toArray⟩:ByteArray)=g6 at *;clear HF hop;go_wp2_with fail;go_quiet (fail);generalize hW4:wr.drewN _=W4;(have HD4:Hid (ShD w bf [.int .i64 op,.int .i64 rd,.int .i64 rs1,.int .i64 rs2,.int .i64 imm] W4):=a0a (by rw[<-hW4];exact HD.out.next (below_drewN (Below.refl _ _) _)));(have yy:∀q v,wr.cell? ⟨bf,q,none⟩=some v->W4.cell? ⟨bf,q,none⟩=some v:=fun q v hv=>by rw[<-hW4];exact ((below_drewN (Below.refl wr.heap.size wr) _).cell (p:=⟨bf,q,none⟩) HD.out.lt).trans hv);have x0:=yy _ _ y0;have x1:=yy _ _ y1;have x2:=yy _ _ y2;have x3:=yy _ _ y3;have x4:=yy _ _ y4;have x5:=yy _ _ y5;have x6:=yy _ _ y6;clear yy y0 y1 y2 y3 y4 y5 y6 z0 z1 z2 z3 z4 hW4 HD;have z0:=HD4.out.i.2.2 0 _ rfl;have z1:=HD4.out.i.2.2 1 _ rfl;have z2:=HD4.out.i.2.2 2 _ rfl;have z3:=HD4.out.i.2.2 3 _ rfl;have z4:=HD4.out.i.2.2 4 _ rfl;go_wp2_with fail;go_cut [7] from 61 to 61 (fun v wx=>v=.int .i64 h/\Hid (ShD w bf [.int .i64 op,.int .i64 rd,.int .i64 rs1,.int .i64 rs2,.int .i64 imm] wx)/\Hid (∀q v,W4.cell? ⟨bf,q,none⟩=some v->wx.cell? ⟨bf,q,none⟩=some v))
    case first=>
     go_region_with (first|(go_at_call 166;refine (HFk.out _).mono ?_;rintro e w5 ⟨rfl,hB5⟩;have HD5:=a0a ((HD4.out.next ((Below.refl _ _).drew)).next hB5);have HY5:=a0a (fun q v (hv:W4.cell? ⟨bf,q,none⟩=some v)=>((hB5.cell (p:=⟨bf,q,none⟩) (HD4.out.next ((Below.refl _ _).drew)).lt).trans (((Below.refl W4.heap.size W4).drew.cell (p:=⟨bf,q,none⟩) HD4.out.lt).trans hv)));clear hB5))
     all_goals
      go_wp2_with fail;go_meet;case rel=>exact ⟨rfl,HD5,HY5⟩
    case rest=>
     obtain ⟨rfl,HD5,HY5⟩:=hcut;go_wp2_with fail;refine (HDg.out _).mono ?_;rintro e w6 ⟨rfl,hB6⟩;have HD6:=a0a (HD5.out.next hB6);(have yy:∀q v,W4.cell? ⟨bf,q,none⟩=some v->w6.cell? ⟨bf,q,none⟩=some v:=fun q v hv=>(hB6.cell (p:=⟨bf,q,none⟩) HD5.out.lt).trans (HY5.out q v hv));have y0:=yy _ _ x0;have y1:=yy _ _ x1;have y2:=yy _ _ x2;have y3:=yy _ _ x3;have y4:=yy _ _ x4;have y5:=yy _ _ x5;have y6:=yy _ _ x6;clear yy x0 x1 x2 x3 x4 x5 x6 z0 z1 z2 z3 z4 hB6 HDg HD4 HD5 HY5 HFk;go_wp2_with fail;refine (HSk.out _).mono ?_;rintro e w7 ⟨rfl,hB7⟩;have HD7:=a0a (HD6.out.next hB7);clear hB7 HSk HD6 y0 y1 y2 y3 y4 y5 y6
     cases ST with
     | none=>
      unfold a3v Pn.Ins.val;simp only;(have HNK:Hid (Pn.shR ⟨op,rd,rs1,rs2,imm⟩ k=none):=a0a (by rw[HSR.out];rfl));go_wp2_with fail;go_roundw
      case rel=>
       (refine ⟨k+1,by go_num,by omega,a0a (fun j hj=>?_),a0a (HD7.out.next ((Below.refl _ _).alloc (Nat.le_refl _) _))⟩);by_cases e:j=k
       ·rw[e];exact HNK.out
       ·exact HNO.out j (by omega)
      case measure=>simp[intOf];omega
     | some x=>
      obtain ⟨xop,xrd,xrs1,xrs2,ximm⟩:=x;unfold a3v Pn.Ins.val;simp only;go_upto_region 12 with fail;have HX:=a0a (CellsAt.new w7 [.int .i64 xop,.int .i64 xrd,.int .i64 xrs1,.int .i64 xrs2,.int .i64 ximm] 26);have HD8:=a0a (HD7.out.next ((Below.refl _ _).alloc (Nat.le_refl _) (.cells #[.int .i64 xop,.int .i64 xrd,.int .i64 xrs1,.int .i64 xrs2,.int .i64 ximm] 26)));generalize w7.alloc _=W8 at *;have z0:=HD8.out.i.2.2 0 _ rfl;have z1:=HD8.out.i.2.2 1 _ rfl;have z2:=HD8.out.i.2.2 2 _ rfl;have z3:=HD8.out.i.2.2 3 _ rfl;have z4:=HD8.out.i.2.2 4 _ rfl;have x0:=HX.out.2.2 0 _ rfl;have x1:=HX.out.2.2 1 _ rfl;have x2:=HX.out.2.2 2 _ rfl;have x3:=HX.out.2.2 3 _ rfl;have x4:=HX.out.2.2 4 _ rfl;go_wp2_with fail
      all_goals first
       | (have HHt:Hid (a0S ⟨op,rd,rs1,rs2,imm⟩=(h,0)):=a0a (HH.out k h hlt HNO.out (by rw[HSR.out,if_pos (by simp[c5a,Pn.eqI, *])]))
          have HDb:=a0a HD8.out.b;go_ret2;exact ⟨by rw[HHt.out];rfl,HDb.out⟩)
       | (have HNK:Hid (Pn.shR ⟨op,rd,rs1,rs2,imm⟩ k=none):=a0a (by rw[HSR.out,if_neg (by simp[c5a,Pn.eqI, *])])
          go_roundw
          case rel=>
           (refine ⟨k+1,by go_num,by omega,a0a (fun j hj=>?_),HD8⟩);by_cases e:j=k
           ·rw[e];exact HNK.out
           ·exact HNO.out j (by omega)
          case measure=>simp[intOf];omega)
   ·have HNK:Hid (Pn.shR ⟨op,rd,rs1,rs2,imm⟩ k=none):=a0a (by unfold Pn.shR;rw[if_neg hop])
    go_wp2_with fail;go_quiet (fail);go_wp2_with fail;go_roundw
    case rel=>
     (refine ⟨k+1,by go_num,by omega,a0a (fun j hj=>?_),a0a (HD.out.next (below_drewN (Below.refl _ _) _))⟩);by_cases e:j=k
     ·rw[e];exact HNK.out
     ·exact HNO.out j (by omega)
    case measure=>simp[intOf];omega
  ·have hk32:k=32:=by omega
   subst hk32;have HNn:=a0a (HN.out HNO.out);have HDb:=a0a HD.out.b;clear hlt hk;go_wp2_with fail;go_ret2;exact ⟨by rw[HNn.out];rfl,HDb.out⟩
theorem b5U (i:Pn.Ins) (w:World) (hr:Pn.right i=false):
    Calls prog 96 #[i.val] w fun e w'=>e=.returned (.tuple #[.int .i64 (a0S i).1,.int .i64 (a0S i).2])/\Below w.heap.size w w':=by
 have HR:=a0a (a0V i);rw[hr]at HR;have e:a0S i=(0,1):=by unfold a0S;rw[hr,if_neg (by decide)]
 rw[e];obtain ⟨op,rd,rs1,rs2,imm⟩:=i;unfold Pn.Ins.val at HR ⊢;simp only at HR;clear hr e;go_enter func96,ntmps96;go_wp2_with fail;refine (HR.out _).mono ?_;rintro e w1 ⟨rfl,hB1⟩;have HB:=a0a (((Below.refl _ w).alloc (Nat.le_refl _) (.cells #[.int .i64 op,.int .i64 rd,.int .i64 rs1,.int .i64 rs2,.int .i64 imm] 26)).trans (hB1.mono (by simp)))
 clear hB1 HR;go_wp2_with fail;go_ret2;exact ⟨rfl,HB.out⟩
theorem a2U (i:Pn.Ins) (w:World):
    Calls prog 96 #[i.val] w fun e w'=>e=.returned (.tuple #[.int .i64 (a0S i).1,.int .i64 (a0S i).2])/\Below w.heap.size w w':=by
 cases hr:Pn.right i with
 | true=>exact b9a i w hr
 | false=>exact b5U i w hr
end Go.Proofs.YtbmcofdodfcnnaaGreatDoor
namespace Pn
open Go
theorem b5c (h:Int):∀(l m:List (Int×Int)) (a:Int),b3x h (l++m) a=b3x h m (b3x h l a)
 | [],m,a=>rfl
 | x::l,m,a=>by simp only[List.cons_append,b3x,b1P];exact b5c h l m _
theorem b5a (F:List UInt8) (h:Int):∀i,i<=16->a8V ⟨F.toArray⟩ (a3X h 16) i=b3x h (c2O F i) 0
 | 0,_=>rfl
 | i+1,hi=>by
  have ih:=b5a F h i (by omega)
  obtain ⟨d1,_,_⟩:=a9x h (show i<16 by omega)
  rw[a8V,c2O,b5c,<-ih];unfold a5P;rw[b14,d1];by_cases hc:65<=((F.getD i 0).toNat:Int)/\((F.getD i 0).toNat:Int)<=90
  ·rw[if_pos (by rw[Bool.and_eq_true,decide_eq_true_eq,decide_eq_true_eq];exact hc),if_pos hc]
   simp only[b3x,b1P];have e1:btF h (15-(i:Int))=a0c h (15-i) (15-i):=(a5N h _).symm;(have e2:a2A (((F.getD i 0).toNat:Int)-65)=pwF (((F.getD i 0).toNat:Int)-65).toNat:=by unfold a2A;exact a6Y _);rw[e1,e2,show 48+a0c h (15-(i:Int)) (15-i)-48=a0c h (15-i) (15-i) by omega,Int.mul_comm]
  ·rw[if_neg (by rw[Bool.and_eq_true,decide_eq_true_eq,decide_eq_true_eq];exact hc),if_neg hc]
   rfl
theorem c0p (F:List UInt8) (h:Int) (sg:Bool):b6s ⟨F.toArray⟩ (a3X h 16) sg=sgF sg (a6F ⟨F.toArray⟩ 16) (b3x h (c2O F 16) 0):=by
 unfold b6s sgF a0E;rw[b5a F h 16 (Nat.le_refl _),<-a6Y,<-a6Y];rfl
theorem c4L {n k p:Nat} (h:k.testBit p=true):(n &&& k)/2^p%2=n/2^p%2:=by
 have e:=Nat.testBit_and n k p;rw[h,Bool.and_true,Nat.testBit_eq_decide_div_mod_eq,Nat.testBit_eq_decide_div_mod_eq,decide_eq_decide]at e;omega
theorem c0j {n k p:Nat} (h:k.testBit p=false):(n &&& k)/2^p%2=0:=by
 have e:=Nat.testBit_and n k p;rw[h,Bool.and_false,Nat.testBit_eq_decide_div_mod_eq,decide_eq_false_iff_not]at e;omega
theorem b9y (n p:Nat):btF (n:Int) (p:Int)=((n/2^p%2:Nat):Int):=by
 unfold btF pwF;rw[Int.toNat_natCast];omega
theorem b0I {n k:Nat} {p:Int} (h0:0<=p) (h:k.testBit p.toNat=true):btF ((n &&& k:Nat):Int) p=btF (n:Int) p:=by
 obtain ⟨q,rfl⟩:=Int.eq_ofNat_of_zero_le h0;rw[b9y,b9y,c4L (by simpa using h)]
theorem b4O (sg:Bool) (q p:List Int) {n m:Int} (h:∀x∈p,btF n x=btF m x):∀j,j<=p.length->imF sg q p n j=imF sg q p m j
 | 0,_=>rfl
 | j+1,hj=>by
  have hm:p.getD j 0∈p:=by
   (rw[List.getD_eq_getElem?_getD,List.getElem?_eq_getElem (show j<p.length by omega)]);exact List.getElem_mem _
  simp only[imF,b4O sg q p h j (by omega),h _ hm]
theorem b1p {n m:Int}:∀(U:List (Int×Int)) (a:Int),(∀x∈U,btF n x.2=btF m x.2)->b3x n U a=b3x m U a
 | [],_,_=>rfl
 | x::l,a,h=>by
  simp only[b3x,b1P,h x (by simp)]
  exact b1p l _ (fun y hy=>h y (by simp[hy]))
theorem c7r {sg sg2:Bool} {pi q:List Int} {U:List (Int×Int)} {M:Int} {pat:List UInt8} {mk:Nat} (h:a0k (okI sg sg2 pi q U M) pat 0=true) (hp:pat.length=16)
    (hm:∀j,j<16->pat.getD j 0≠49/\(pat.getD j 0=48->mk.testBit (15-j)=false)) (hpi:∀p∈pi,0<=p/\mk.testBit p.toNat=true) (hU:∀x∈U,0<=x.2/\mk.testBit x.2.toNat=true)
    (n:Nat) (hn:n<65536):sgF sg2 M (b3x n U 0)=imF sg q pi n pi.length/\∀x∈U,btF (imF sg q pi n pi.length) x.1=btF n x.2:=by
 have hlt:(n &&& mk)<65536:=Nat.lt_of_le_of_lt Nat.and_le_left hn
 have ok:=a27 _ pat 0 (n &&& mk) h (by rw[hp];omega) (fun j hj=>by
  rw[hp]at hj ⊢;obtain ⟨h1,h2⟩:=hm j hj;exact ⟨fun e=>c0j (h2 e),fun e=>absurd e h1⟩)
 unfold okI at ok;rw[b1P,Bool.and_eq_true,decide_eq_true_eq,List.all_eq_true]at ok;have c1:imF sg q pi ((n &&& mk:Nat):Int) pi.length=imF sg q pi n pi.length:=b4O sg q pi (fun x hx=>b0I (hpi x hx).1 (hpi x hx).2) _ (Nat.le_refl _)
 have c2:b3x ((n &&& mk:Nat):Int) U 0=b3x n U 0:=b1p U 0 (fun x hx=>b0I (hU x hx).1 (hU x hx).2)
 rw[c1,c2]at ok;refine ⟨ok.1,fun x hx=>?_⟩
 have:=ok.2 x hx;rw[decide_eq_true_eq,b0I (hU x hx).1 (hU x hx).2]at this;exact this
def ImK (k:Nat):Prop:=∀n:Nat,n<65536->b6s ⟨(frm k).half.toArray⟩ (a3X n 16) (frm k).sgn=b9X (fm k) n/\∀x∈c2O (frm k).half 16,btF (b9X (fm k) n) x.1=btF n x.2
theorem a03 {k:Nat} {sg sg2:Bool} {pi q:List Int} {U:List (Int×Int)} {M:Int} {pat:List UInt8} {mk:Nat} (h:a0k (okI sg sg2 pi q U M) pat 0=true) (hp:pat.length=16)
    (hm:∀j,j<16->pat.getD j 0≠49/\(pat.getD j 0=48->mk.testBit (15-j)=false)) (hpi:∀p∈pi,0<=p/\mk.testBit p.toNat=true) (hU:∀x∈U,0<=x.2/\mk.testBit x.2.toNat=true)
    (e1:(fm k).signed=sg) (e2:(frm k).sgn=sg2) (e3:places (fm k).half 105=pi) (hq:∀j,j<pi.length->imB (fm k).order j=q.getD j 0) (e4:c2O (frm k).half 16=U) (e5:a6F ⟨(frm k).half.toArray⟩ 16=M):ImK k:=by
 intro n hn;have h0:=c7r h hp hm hpi hU n hn;subst e1 e2 e3 e4 e5;have e:b9X (fm k) n=imF (fm k).signed q (places (fm k).half 105) n (places (fm k).half 105).length:=c2I _ _ _ _ _ hq;rw[c0p,e];exact h0
theorem c9L:ImK 0:=a03 (mk:=8160) c9I rfl (by decide +kernel) (by decide +kernel) (by decide +kernel) rfl rfl rfl (by decide +kernel) (by decide +kernel) (by decide +kernel)
theorem c9h:ImK 1:=a03 (mk:=7264) c8Y rfl (by decide +kernel) (by decide +kernel) (by decide +kernel) rfl rfl rfl (by decide +kernel) (by decide +kernel) (by decide +kernel)
theorem c8k:ImK 2:=a03 (mk:=7264) c86 rfl (by decide +kernel) (by decide +kernel) (by decide +kernel) rfl rfl rfl (by decide +kernel) (by decide +kernel) (by decide +kernel)
theorem c9j:ImK 3:=a03 (mk:=7264) c8s rfl (by decide +kernel) (by decide +kernel) (by decide +kernel) rfl rfl rfl (by decide +kernel) (by decide +kernel) (by decide +kernel)
theorem c8I:ImK 4:=a03 (mk:=7264) c8B rfl (by decide +kernel) (by decide +kernel) (by decide +kernel) rfl rfl rfl (by decide +kernel) (by decide +kernel) (by decide +kernel)
theorem c8X:ImK 5:=a03 (mk:=4220) c8U rfl (by decide +kernel) (by decide +kernel) (by decide +kernel) rfl rfl rfl (by decide +kernel) (by decide +kernel) (by decide +kernel)
theorem c9z:ImK 6:=a03 (mk:=4220) c9G rfl (by decide +kernel) (by decide +kernel) (by decide +kernel) rfl rfl rfl (by decide +kernel) (by decide +kernel) (by decide +kernel)
theorem c9l:ImK 7:=a03 (mk:=4220) c9A rfl (by decide +kernel) (by decide +kernel) (by decide +kernel) rfl rfl rfl (by decide +kernel) (by decide +kernel) (by decide +kernel)
theorem c9e:ImK 8:=a03 (mk:=4220) c83 rfl (by decide +kernel) (by decide +kernel) (by decide +kernel) rfl rfl rfl (by decide +kernel) (by decide +kernel) (by decide +kernel)
theorem c8t:ImK 9:=a03 (mk:=4220) c9t rfl (by decide +kernel) (by decide +kernel) (by decide +kernel) rfl rfl rfl (by decide +kernel) (by decide +kernel) (by decide +kernel)
theorem c6i:ImK 10:=a03 (mk:=4220) c6p rfl (by decide +kernel) (by decide +kernel) (by decide +kernel) rfl rfl rfl (by decide +kernel) (by decide +kernel) (by decide +kernel)
theorem c7v:ImK 11:=a03 (mk:=4220) c5x rfl (by decide +kernel) (by decide +kernel) (by decide +kernel) rfl rfl rfl (by decide +kernel) (by decide +kernel) (by decide +kernel)
theorem c5P:ImK 12:=a03 (mk:=4220) c5O rfl (by decide +kernel) (by decide +kernel) (by decide +kernel) rfl rfl rfl (by decide +kernel) (by decide +kernel) (by decide +kernel)
theorem c6y:ImK 13:=a03 (mk:=0) c6h rfl (by decide +kernel) (by decide +kernel) (by decide +kernel) rfl rfl rfl (by decide +kernel) (by decide +kernel) (by decide +kernel)
theorem c6Y:ImK 14:=a03 (mk:=0) c6G rfl (by decide +kernel) (by decide +kernel) (by decide +kernel) rfl rfl rfl (by decide +kernel) (by decide +kernel) (by decide +kernel)
theorem c6d:ImK 15:=a03 (mk:=0) c5w rfl (by decide +kernel) (by decide +kernel) (by decide +kernel) rfl rfl rfl (by decide +kernel) (by decide +kernel) (by decide +kernel)
theorem c6Z:ImK 16:=a03 (mk:=0) c6I rfl (by decide +kernel) (by decide +kernel) (by decide +kernel) rfl rfl rfl (by decide +kernel) (by decide +kernel) (by decide +kernel)
theorem c6D:ImK 17:=a03 (mk:=0) c7q rfl (by decide +kernel) (by decide +kernel) (by decide +kernel) rfl rfl rfl (by decide +kernel) (by decide +kernel) (by decide +kernel)
theorem c5z:ImK 18:=a03 (mk:=0) c63 rfl (by decide +kernel) (by decide +kernel) (by decide +kernel) rfl rfl rfl (by decide +kernel) (by decide +kernel) (by decide +kernel)
theorem c5U:ImK 19:=a03 (mk:=8188) c57 rfl (by decide +kernel) (by decide +kernel) (by decide +kernel) rfl rfl rfl (by decide +kernel) (by decide +kernel) (by decide +kernel)
theorem c5I:ImK 20:=a03 (mk:=7292) c5m rfl (by decide +kernel) (by decide +kernel) (by decide +kernel) rfl rfl rfl (by decide +kernel) (by decide +kernel) (by decide +kernel)
theorem c7G:ImK 21:=a03 (mk:=7292) c5v rfl (by decide +kernel) (by decide +kernel) (by decide +kernel) rfl rfl rfl (by decide +kernel) (by decide +kernel) (by decide +kernel)
theorem c6z:ImK 22:=a03 (mk:=4220) c7O rfl (by decide +kernel) (by decide +kernel) (by decide +kernel) rfl rfl rfl (by decide +kernel) (by decide +kernel) (by decide +kernel)
theorem c71:ImK 23:=a03 (mk:=4220) c7t rfl (by decide +kernel) (by decide +kernel) (by decide +kernel) rfl rfl rfl (by decide +kernel) (by decide +kernel) (by decide +kernel)
theorem c6B:ImK 24:=a03 (mk:=4220) c5o rfl (by decide +kernel) (by decide +kernel) (by decide +kernel) rfl rfl rfl (by decide +kernel) (by decide +kernel) (by decide +kernel)
theorem c6M:ImK 25:=a03 (mk:=0) c5q rfl (by decide +kernel) (by decide +kernel) (by decide +kernel) rfl rfl rfl (by decide +kernel) (by decide +kernel) (by decide +kernel)
theorem c6f:ImK 26:=a03 (mk:=0) c52 rfl (by decide +kernel) (by decide +kernel) (by decide +kernel) rfl rfl rfl (by decide +kernel) (by decide +kernel) (by decide +kernel)
theorem c6C:ImK 27:=a03 (mk:=0) c6H rfl (by decide +kernel) (by decide +kernel) (by decide +kernel) rfl rfl rfl (by decide +kernel) (by decide +kernel) (by decide +kernel)
theorem c67:ImK 28:=a03 (mk:=0) c5D rfl (by decide +kernel) (by decide +kernel) (by decide +kernel) rfl rfl rfl (by decide +kernel) (by decide +kernel) (by decide +kernel)
theorem c6m:ImK 29:=a03 (mk:=0) c6Q rfl (by decide +kernel) (by decide +kernel) (by decide +kernel) rfl rfl rfl (by decide +kernel) (by decide +kernel) (by decide +kernel)
theorem c7B:ImK 30:=a03 (mk:=8064) c68 rfl (by decide +kernel) (by decide +kernel) (by decide +kernel) rfl rfl rfl (by decide +kernel) (by decide +kernel) (by decide +kernel)
theorem c5J:ImK 31:=a03 (mk:=8064) c5j rfl (by decide +kernel) (by decide +kernel) (by decide +kernel) rfl rfl rfl (by decide +kernel) (by decide +kernel) (by decide +kernel)
theorem b7X:∀k,k<32->ImK k
 | 0,_=>c9L
 | 1,_=>c9h
 | 2,_=>c8k
 | 3,_=>c9j
 | 4,_=>c8I
 | 5,_=>c8X
 | 6,_=>c9z
 | 7,_=>c9l
 | 8,_=>c9e
 | 9,_=>c8t
 | 10,_=>c6i
 | 11,_=>c7v
 | 12,_=>c5P
 | 13,_=>c6y
 | 14,_=>c6Y
 | 15,_=>c6d
 | 16,_=>c6Z
 | 17,_=>c6D
 | 18,_=>c5z
 | 19,_=>c5U
 | 20,_=>c5I
 | 21,_=>c7G
 | 22,_=>c6z
 | 23,_=>c71
 | 24,_=>c6B
 | 25,_=>c6M
 | 26,_=>c6f
 | 27,_=>c6C
 | 28,_=>c67
 | 29,_=>c6m
 | 30,_=>c7B
 | 31,_=>c5J
 | k+32,h=>by omega
def whB (s:List UInt8) (c:Int):Bool:=(s==[45]&&c==0)||(s==[48]&&c==0)||(s==[49]&&c==1)||(s==[50]&&c==2)||(s==[100]&&c==100)||(s==[115]&&c==115)||(s==[116]&&c==116)
def coB (c:List UInt8) (h:Nat) (rd rs1 rs2:List UInt8):Bool:=(c==[]&&h==0)||(c==[100]&&(h==1&&rd==[100]))||(c==[115]&&(h==2&&rs1==[115]))||(c==[105]&&h==3)||(c==[100,116]&&(h==4&&(rd==[100]&&rs2==[116])))
 || (c==[100,105]&&(h==5&&rd==[100]))||(c==[98,111,116,104]&&(h==6&&rd==[100]))||(c==[100,50,105]&&(h==7&&rd==[100]))
def chB (F rd rs1 rs2:List UInt8):Bool:=(List.range 16).all fun j=>(F.getD j 0==48)||(F.getD j 0==49)||(F.getD j 0==100&&rd==[100])||(F.getD j 0==115&&rs1==[115])||(F.getD j 0==116&&rs2==[116])||(decide (65<=(F.getD j 0).toNat)&&decide ((F.getD j 0).toNat<=90))
structure c6r (k:Nat):Prop where
 dig:c4Y (frm k).half (fm k).half=true
 ld:b2h (frm k).half (fm k).half 100=true
 ls:b2h (frm k).half (fm k).half 115=true
 lt:b2h (frm k).half (fm k).half 116=true
 cd:cnt ⟨(frm k).half.toArray⟩ 100 16=(places (fm k).half 100).length
 cs:cnt ⟨(frm k).half.toArray⟩ 115 16=(places (fm k).half 115).length
 ct:cnt ⟨(frm k).half.toArray⟩ 116 16=(places (fm k).half 116).length
 op:(frm k).op=(fm k).op
 rd:whB (frm k).rd (fm k).rd=true
 rs1:whB (frm k).rs1 (fm k).rs1=true
 rs2:whB (frm k).rs2 (fm k).rs2=true
 co:coB (frm k).cond (fm k).hold (frm k).rd (frm k).rs1 (frm k).rs2=true
 ch:chB (frm k).half (frm k).rd (frm k).rs1 (frm k).rs2=true
theorem b7u (k:Nat) (hk:k<32):c6r k:=by
 have t1:∀k,k<32->c4Y (frm k).half (fm k).half=true:=by decide +kernel
 have t2:∀k,k<32->b2h (frm k).half (fm k).half 100=true:=by decide +kernel
 have t3:∀k,k<32->b2h (frm k).half (fm k).half 115=true:=by decide +kernel
 have t4:∀k,k<32->b2h (frm k).half (fm k).half 116=true:=by decide +kernel
 have t5:∀k,k<32->cnt ⟨(frm k).half.toArray⟩ 100 16=(places (fm k).half 100).length:=by decide +kernel
 have t6:∀k,k<32->cnt ⟨(frm k).half.toArray⟩ 115 16=(places (fm k).half 115).length:=by decide +kernel
 have t7:∀k,k<32->cnt ⟨(frm k).half.toArray⟩ 116 16=(places (fm k).half 116).length:=by decide +kernel
 have t8:∀k,k<32->(frm k).op=(fm k).op:=by decide +kernel
 have t9:∀k,k<32->whB (frm k).rd (fm k).rd=true:=by decide +kernel
 have ta:∀k,k<32->whB (frm k).rs1 (fm k).rs1=true:=by decide +kernel
 have tb:∀k,k<32->whB (frm k).rs2 (fm k).rs2=true:=by decide +kernel
 have tc:∀k,k<32->coB (frm k).cond (fm k).hold (frm k).rd (frm k).rs1 (frm k).rs2=true:=by decide +kernel
 have td:∀k,k<32->chB (frm k).half (frm k).rd (frm k).rs1 (frm k).rs2=true:=by decide +kernel
 exact ⟨t1 k hk,t2 k hk,t3 k hk,t4 k hk,t5 k hk,t6 k hk,t7 k hk,t8 k hk,t9 k hk,ta k hk,tb k hk,tc k hk,td k hk⟩
theorem a34 (l:List UInt8):(⟨l.toArray⟩:ByteArray).toList=l:=by rw[ByteArray.toList_eq]
theorem b21 {F half:List UInt8} {c:Nat} (hF:F.length=16) (hh:half.length=16) (hs:b2h F half c=true) (hc:cnt ⟨F.toArray⟩ c 16=(places half c).length) (h31:31<c) (h:Int):
    a4n ⟨F.toArray⟩ (a3X h 16) c=b01 half c h:=by
 have hsz:(⟨F.toArray⟩:ByteArray).size=16:=by show F.toArray.size=16;simpa using hF
 unfold a4n b01;rw[hsz,hc,c29 hs h 16 (Nat.le_refl _),if_neg (show ¬(c:Int)<=31 by omega)]
 unfold places;rw[hh]
 split
 ·rw[if_pos (by omega)]
 ·rw[if_neg (by omega)];omega
theorem c1t {s:List UInt8} {c:Int} (h:whB s c=true):(s=[45]/\c=0)\/(s=[48]/\c=0)\/(s=[49]/\c=1)\/(s=[50]/\c=2)\/(s=[100]/\c=100)\/(s=[115]/\c=115)\/(s=[116]/\c=116):=by
 simpa[whB,or_assoc] using h
theorem a3Q {k:Nat} (T:c6r k) (hF:(frm k).half.length=16) (hh:(fm k).half.length=16) {s:List UInt8} {c:Int} (hw:whB s c=true) (h:Int):
    a1L ⟨(frm k).half.toArray⟩ (a3X h 16) ⟨s.toArray⟩=b01 (fm k).half c h:=by
 unfold a1L;rw[a34];rcases c1t hw with ⟨rfl,rfl⟩|⟨rfl,rfl⟩|⟨rfl,rfl⟩|⟨rfl,rfl⟩|⟨rfl,rfl⟩|⟨rfl,rfl⟩|⟨rfl,rfl⟩
 ·rfl
 ·rfl
 ·rfl
 ·rfl
 ·exact b21 hF hh T.ld T.cd (by omega) h
 ·exact b21 hF hh T.ls T.cs (by omega) h
 ·exact b21 hF hh T.lt T.ct (by omega) h
theorem c1h {c:List UInt8} {h:Nat} {rd rs1 rs2:List UInt8} (hc:coB c h rd rs1 rs2=true):(c=[]/\h=0)\/(c=[100]/\h=1/\rd=[100])\/(c=[115]/\h=2/\rs1=[115])\/(c=[105]/\h=3)\/(c=[100,116]/\h=4/\rd=[100]/\rs2=[116])
    \/(c=[100,105]/\h=5/\rd=[100])\/(c=[98,111,116,104]/\h=6/\rd=[100])\/(c=[100,50,105]/\h=7/\rd=[100]):=by
 simpa[coB,or_assoc] using hc
theorem a3L (F H:ByteArray) {c:UInt8} (h1:c≠45) (h2:c≠48) (h3:c≠49) (h4:c≠50):a1L F H ⟨#[c]⟩=a4n F H c.toNat:=by
 unfold a1L;rw[a34];simp[h1,h2,h3,h4,B]
theorem c2j {F H rd rs1 rs2:List UInt8} {c:List UInt8} {h:Nat} {op i:Int} (hc:coB c h rd rs1 rs2=true) (F H:ByteArray):
    b3y (a4n F H 100) (a4n F H 115) (a4n F H 116) i ⟨c.toArray⟩=a11 h ⟨op,a1L F H ⟨rd.toArray⟩,a1L F H ⟨rs1.toArray⟩,a1L F H ⟨rs2.toArray⟩,i⟩:=by
 have ed:a1L F H ⟨[100].toArray⟩=a4n F H 100:=a3L F H (by decide) (by decide) (by decide) (by decide)
 have es:a1L F H ⟨[115].toArray⟩=a4n F H 115:=a3L F H (by decide) (by decide) (by decide) (by decide)
 have et:a1L F H ⟨[116].toArray⟩=a4n F H 116:=a3L F H (by decide) (by decide) (by decide) (by decide)
 unfold b3y;rw[a34];rcases c1h hc with ⟨rfl,rfl⟩|⟨rfl,rfl,rfl⟩|⟨rfl,rfl,rfl⟩|⟨rfl,rfl⟩|⟨rfl,rfl,rfl,rfl⟩|⟨rfl,rfl,rfl⟩|⟨rfl,rfl,rfl⟩|⟨rfl,rfl,rfl⟩
 ·rfl
 ·rw[ed];rfl
 ·rw[es];rfl
 ·rfl
 ·rw[ed,et];rfl
 ·rw[ed];rfl
 ·rw[ed];rfl
 ·rw[ed]
  simp only[a11];show (a4n F H 100 != 0&&a4n F H 100 != 2&&i != 0)=(a4n F H 100 != 0&&i != 0&&a4n F H 100 != 2);cases a4n F H 100 != 0<;>cases a4n F H 100 != 2<;>cases i != 0<;>rfl
theorem c5E:∀k,k<32->(frm k).half.length=16:=fun k hk=>(b8R k hk).1
theorem b3e {k:Nat} (hk:k<32) {n:Nat} (hn:n<65536):stF k (a3X n 16)=if (a2n (fm k) n).2=true then some (a2n (fm k) n).1 else none:=by
 have T:=b7u k hk;have hF:=c5E k hk;have hh:=a6S k hk;obtain ⟨hi,_⟩:=b7X k hk n hn;unfold stF a5w;rw[c2U hh T.dig];unfold a2n;by_cases hf:a8h (fm k).half n=true
 ·rw[if_pos hf,if_pos hf]
  have e:a4L ⟨(frm k).half.toArray⟩ (a3X n 16) ⟨(frm k).rd.toArray⟩ ⟨(frm k).rs1.toArray⟩ ⟨(frm k).rs2.toArray⟩ (frm k).op (frm k).sgn=a01 (fm k) n:=by
   unfold a4L a01;rw[a3Q T hF hh T.rd,a3Q T hF hh T.rs1,a3Q T hF hh T.rs2,T.op,hi]
  rw[c2j (F:=[]) (H:=[]) (op:=(frm k).op) T.co ⟨(frm k).half.toArray⟩ (a3X n 16)];unfold a4L at e ⊢;rw[e]
 ·rw[if_neg hf,if_neg hf]
  rfl
theorem b3v (h:Int):a8T h=a4q h:=by
 unfold a8T a4q;by_cases hc:h<0\/65535<h
 ·rw[if_pos hc,if_pos hc]
 ·rw[if_neg hc,if_neg hc]
  obtain ⟨n,rfl⟩:=Int.eq_ofNat_of_zero_le (show 0<=h by omega)
  have hn:n<65536:=by omega
  have hl:∀k∈List.range 32,k<32:=fun k hk=>by simpa using hk
  generalize List.range 32=l at hl ⊢
  induction l with
  | nil=>rfl
  | cons a l ih=>
   (rw[List.findSome?_cons,List.find?_cons,b3e (hl a (by simp)) hn]);by_cases hb:(a2n (fm a) n).2=true
   ·rw[if_pos hb]
    have:a9g n a=true:=hb;rw[this]
   ·rw[if_neg hb]
    (have:a9g n a=false:=by simpa[a9g] using hb);rw[this];exact ih (fun k hk=>hl k (by simp[hk]))
theorem a7Q (n p:Int):a0c n p p=n/2^p.toNat%2:=by
 have:=a5N n p;unfold bt btF at this;rw[this,a6Y]
theorem c4k {x d:Int} (j:Nat) (d0:0<=d) (d1:d<=1):(2*x+d)/2^(j+1)=x/2^j:=by
 rw[Int.pow_succ,Int.mul_comm (2^j) 2,<-Int.ediv_ediv_of_nonneg (by omega),show (2*x+d)/2=x by omega]
theorem b8S {F H:ByteArray} {c:Int} {i:Nat} (hc:((B F i).toNat:Int)=c) (hd:b5q H):∀m,i<m->m<=16->
    0<=cnt F c m-cnt F c (i+1)/\a0c (a5z F H c m) (cnt F c m-cnt F c (i+1)) (cnt F c m-cnt F c (i+1))=(B H i).toNat-48
 | 0,h,_=>by omega
 | m+1,h,h16=>by
  have hdm:=hd m (by omega)
  by_cases e:i=m
  ·subst e
   rw[Int.sub_self];(refine ⟨by omega,?_⟩);rw[a7Q,a5z,if_pos hc];simp;omega
  ·obtain ⟨h0,ih⟩:=b8S hc hd m (by omega) (by omega)
   by_cases hm:((B F m).toNat:Int)=c
   ·have ec:cnt F c (m+1)=cnt F c m+1:=by rw[cnt,if_pos hm]
    rw[a5z,if_pos hm,ec];(refine ⟨by omega,?_⟩);(have et:(cnt F c m+1-cnt F c (i+1)).toNat=(cnt F c m-cnt F c (i+1)).toNat+1:=by omega);rw[<-ih,a7Q,a7Q,et,show 2*a5z F H c m+((B H m).toNat:Int)-48=2*a5z F H c m+(((B H m).toNat:Int)-48) by omega,c4k _ (by omega) (by omega)]
   ·have ec:cnt F c (m+1)=cnt F c m:=by rw[cnt,if_neg hm];omega
    rw[a5z,if_neg hm,ec];exact ⟨h0,ih⟩
theorem a9V {F:List UInt8} {h:Int} {c:Nat} {i:Nat} (hF:F.length=16) (hi:i<16) (hc:(F.getD i 0).toNat=c):
    a0c (a4n ⟨F.toArray⟩ (a3X h 16) c) (cnt ⟨F.toArray⟩ c 16-cnt ⟨F.toArray⟩ c (i+1)) (cnt ⟨F.toArray⟩ c 16-cnt ⟨F.toArray⟩ c (i+1))=a0c h (15-i) (15-i):=by
 have hcB:((B ⟨F.toArray⟩ i).toNat:Int)=c:=by rw[b14,hc]
 obtain ⟨d1,_,_⟩:=a9x h hi;have hsz:(⟨F.toArray⟩:ByteArray).size=16:=by show F.toArray.size=16;simpa using hF
 obtain ⟨h0,h1⟩:=b8S hcB (c6W h) 16 hi (Nat.le_refl _);have e1:cnt ⟨F.toArray⟩ c (i+1)=cnt ⟨F.toArray⟩ c i+1:=by rw[cnt,if_pos hcB]
 have e2:=(a4z ⟨F.toArray⟩ c i).1;unfold a4n;rw[hsz];rw[d1]at h1
 split
 ·rename_i h3
  have hj:0<=cnt ⟨F.toArray⟩ c 16-cnt ⟨F.toArray⟩ c (i+1)/\cnt ⟨F.toArray⟩ c 16-cnt ⟨F.toArray⟩ c (i+1)<=2:=by omega
  clear h0 e1 e2 h3;generalize cnt ⟨F.toArray⟩ c 16-cnt ⟨F.toArray⟩ c (i+1)=j at *;generalize a5z ⟨F.toArray⟩ (a3X h 16) c 16=x at *;rw[a7Q]at h1 ⊢;rcases (show j=0\/j=1\/j=2 by omega) with rfl|rfl|rfl
  ·simp at h1 ⊢;omega
  ·simp at h1 ⊢;omega
  ·simp at h1 ⊢;omega
 ·omega
theorem b9g (F:List UInt8):∀(m i:Nat),i<m->65<=(F.getD i 0).toNat->(F.getD i 0).toNat<=90->(((F.getD i 0).toNat:Int)-65,15-(i:Int))∈c2O F m
 | 0,i,h,_,_=>by omega
 | m+1,i,h,h1,h2=>by
  rw[c2O,List.mem_append];by_cases e:i=m
  ·subst e
   (rw[if_pos (by omega)]);simp
  ·exact Or.inl (b9g F m i (by omega) h1 h2)
def c4l (n:Int):Nat->Int
 | 0=>0
 | k+1=>2*c4l n k+a0c n (15-k) (15-k)
theorem b4u (n:Nat) (hn:n<65536):∀k,k<=16->c4l n k=((n/2^(16-k):Nat):Int)
 | 0,_=>by rw[c4l,Nat.div_eq_of_lt (by simpa using hn)];rfl
 | k+1,hk=>by
  have ih:=b4u n hn k (by omega)
  have e:16-k=(16-(k+1))+1:=by omega
  rw[c4l,ih,b8Y n k (by omega),e,Nat.pow_succ,<-Nat.div_div_eq_div_mul,show 15-k=16-(k+1) by omega]
  omega
theorem c0G {n:Nat} (hn:n<65536):c4l n 16=n:=by
 rw[b4u n hn 16 (Nat.le_refl _)];simp
theorem b6Y {k:Nat} (hk:k<32) {n:Nat} (hn:n<65536) (hf:a8h (fm k).half n=true) {i:Ins} (hi:a01 (fm k) n=i):a3C ⟨(frm k).half.toArray⟩ i.rd i.rs1 i.rs2 i.imm 16=n:=by
 have T:=b7u k hk;have hF:=c5E k hk;have hh:=a6S k hk;obtain ⟨hi1,hi2⟩:=b7X k hk n hn;have hfu:b6o ⟨(frm k).half.toArray⟩ (a3X n 16) 16=true:=by rw[c2U hh T.dig];exact hf
 rw[a9S,List.all_eq_true]at hfu;have hch:=T.ch;unfold chB at hch;rw[List.all_eq_true]at hch
 have key:∀j,j<16->b16 ⟨(frm k).half.toArray⟩ i.rd i.rs1 i.rs2 i.imm j=a0c n (15-j) (15-j):=fun j hj=>by
  obtain ⟨d1,d2,d3⟩:=a9x (n:Int) hj;have hcj:=hch j (List.mem_range.2 hj);have hfj:=hfu j (List.mem_range.2 hj);unfold misfit at hfj;unfold b16;rw[b14]at hfj ⊢;rw[d1]at hfj;simp only[Bool.or_eq_true,Bool.and_eq_true,beq_iff_eq,decide_eq_true_eq,or_assoc]at hcj;rcases hcj with q|q|⟨q,r⟩|⟨q,r⟩|⟨q,r⟩|⟨q,r⟩
  ·rw[q]at hfj ⊢
   simp at hfj ⊢;omega
  ·rw[q]at hfj ⊢
   simp at hfj ⊢;omega
  ·have e:i.rd=a4n ⟨(frm k).half.toArray⟩ (a3X n 16) 100:=by
    rw[<-hi];show b01 (fm k).half (fm k).rd n=_;rw[<-a3Q T hF hh T.rd,r];exact a3L _ _ (by decide) (by decide) (by decide) (by decide)
   rw[q,e];exact a9V (c:=100) hF hj (by rw[q];rfl)
  ·have e:i.rs1=a4n ⟨(frm k).half.toArray⟩ (a3X n 16) 115:=by
    rw[<-hi];show b01 (fm k).half (fm k).rs1 n=_;rw[<-a3Q T hF hh T.rs1,r];exact a3L _ _ (by decide) (by decide) (by decide) (by decide)
   rw[q,e];exact a9V (c:=115) hF hj (by rw[q];rfl)
  ·have e:i.rs2=a4n ⟨(frm k).half.toArray⟩ (a3X n 16) 116:=by
    rw[<-hi];show b01 (fm k).half (fm k).rs2 n=_;rw[<-a3Q T hF hh T.rs2,r];exact a3L _ _ (by decide) (by decide) (by decide) (by decide)
   rw[q,e];exact a9V (c:=116) hF hj (by rw[q];rfl)
  ·have e:i.imm=b9X (fm k) n:=by rw[<-hi];rfl
   (rw[if_neg (by omega),if_neg (by omega),if_neg (by omega),if_neg (by omega),if_pos (by omega),e]);have:=hi2 _ (b9g (frm k).half 16 j hj q r);rw[<-a5N,<-a5N]at this;exact this
 have all:∀m,m<=16->a3C ⟨(frm k).half.toArray⟩ i.rd i.rs1 i.rs2 i.imm m=c4l n m:=fun m=>by
  induction m with
  | zero=>intro _;rfl
  | succ m ih=>intro hm;rw[a3C,c4l,ih (by omega),key m (by omega)]
 rw[all 16 (Nat.le_refl _),c0G hn]
theorem c1P (i:Ins):eqI i i=true:=by simp[eqI]
theorem c5r {a b:Ins} (h:eqI a b=true):a=b:=by
 obtain ⟨a1,a2,a3,a4,a5⟩:=a;obtain ⟨b1,b2,b3,b4,b5⟩:=b;simp[eqI]at h;obtain ⟨rfl,rfl,rfl,rfl,rfl⟩:=h;rfl
theorem c7H {k:Nat} (hk:k<32) (i:Ins):shR i k=if b2D i k=true then some (a2J (fm k) i) else none:=by
 have T:=b7u k hk;by_cases hs:b2D i k=true
 ·rw[if_pos hs]
  unfold b2D at hs;simp only[Bool.and_eq_true,beq_iff_eq]at hs;obtain ⟨h1,h2,h3⟩:=hs;have h3:=b64 h3;have hb:=b0m hk i;obtain ⟨n,hn⟩:=Int.eq_ofNat_of_zero_le hb.1;rw[hn]at h2 h3 hb ⊢;obtain ⟨hf,hh,hr⟩:=a4X (n:=n) (k:=k) h2;have h4:a01 (fm k) n=i:=by rw[hr]at h3;exact h3
  have hfill:=b6Y hk (by omega) hf h4
  unfold shR;rw[if_pos (by rw[T.op];exact h1),hfill,b3e hk (by omega),if_pos h2,h3]
  rw[if_pos (show c5a (some i) i=true from c1P i)]
 ·rw[if_neg hs]
  unfold shR;by_cases ho:(frm k).op=i.op
  ·rw[if_pos ho]
   have hb:=a7u ⟨(frm k).half.toArray⟩ i.rd i.rs1 i.rs2 i.imm 16;obtain ⟨n,hn⟩:=Int.eq_ofNat_of_zero_le hb.1;rw[hn]at hb ⊢;(have hn2:n<65536:=by have:=hb.2;simp at this;omega);rw[b3e hk hn2];by_cases h2:(a2n (fm k) n).2=true
   ·rw[if_pos h2]
    by_cases he:eqI (a2n (fm k) n).1 i=true
    ·exfalso
     apply hs;have e:=c5r he;obtain ⟨hf,hh,hr⟩:=a4X (n:=n) (k:=k) h2;have ok:=c2R hk hn2 hf;unfold a3V at ok;rw[Bool.and_eq_true,decide_eq_true_eq]at ok;(have hw:a2J (fm k) i=n:=by rw[hr]at e;rw[<-e];exact ok.1);unfold b2D;rw[hw,h2,e,b2n,<-T.op,ho];simp
    ·have he':eqI (a2n (fm k) n).1 i=false:=by simpa using he
     simp[c5a,he']
   ·rw[if_neg h2]
    rfl
  ·rw[if_neg ho]
theorem a1p (i:Ins):a0S i=a0q i:=by
 unfold a0S a0q;by_cases hr:right i=true
 ·rw[if_pos hr,if_pos hr]
  have hl:∀k∈List.range 32,k<32:=fun k hk=>by simpa using hk
  generalize List.range 32=l at hl ⊢
  induction l with
  | nil=>rfl
  | cons a l ih=>
   (rw[List.findSome?_cons,List.find?_cons,c7H (hl a (by simp))]);by_cases hb:b2D i a=true
   ·rw[if_pos hb,hb]
   ·rw[if_neg hb,Bool.eq_false_iff.2 hb]
    exact ih (fun k hk=>hl k (by simp[hk]))
 ·rw[if_neg hr,if_neg hr]
def itR (l:List UInt8) (k:Nat):Ins×Int:=
 if l.length<k+2 then (⟨0,0,0,0,0⟩,0)
 else if ¬a0Q ((l.drop k).take 2)%4=3 then (if (a8T (a0Q ((l.drop k).take 2))).2=0 then ((a8T (a0Q ((l.drop k).take 2))).1,2) else (⟨0,0,0,0,0⟩,0))
 else if l.length<k+4 then (⟨0,0,0,0,0⟩,0)
 else if (dec (a0Q ((l.drop k).take 4))).2=0 then ((dec (a0Q ((l.drop k).take 4))).1,4) else (⟨0,0,0,0,0⟩,0)
end Pn
namespace Go.Proofs.YtbmcofdodfcnnaaGreatDoor
open Pn
open Go.Proofs.Tryz
open Go.RowKit
theorem b1r {l:List UInt8} (h:l.length<=4):0<=a0Q l/\a0Q l<4294967296:=by
 have hb:=a4D l;have h2:(2:Int)^(8*l.length)<=2^32:=a0M (by omega)
 have h3:(2:Int)^32=4294967296:=by decide
 omega
theorem a23 (s:ByteArray) (w:World) (hs:s.size<=4):
    Calls prog 174 #[.string s] w fun e w'=>e=.returned (.int .i64 (a0Q s.data.toList))/\w'=w:=by
 have hsz:s.data.toList.length=s.size:=(Lib.size_eq s).symm;go_enter func174,ntmps174;go_wp2_with fail;go_loop [3,4] (fun n i=>∃j:Nat,j<=s.size/\i=.int .i64 ((j:Int)-1)/\n=.int .i64 (a0Q (s.data.toList.drop j))) (fun _ i=>(intOf i+1).toNat)
 case atStart=>exact ⟨s.size,Nat.le_refl _,by go_num,by rw[List.drop_eq_nil_of_le (by omega)];rfl⟩
 case round=>
  obtain ⟨j,hj,rfl,rfl⟩:=hrel;by_cases h0:j=0
  ·subst h0
   go_wp2_with fail;go_ret;exact ⟨rfl,rfl⟩
  ·obtain ⟨m,rfl⟩:∃m,j=m+1:=⟨j-1,by omega⟩
   (have hm:((m+1:Nat):Int)-1=(m:Int):=by omega);(have hbd:=b1r (l:=s.data.toList.drop (m+1)) (by rw[List.length_drop];omega));have hbd2:=b1r (l:=s.data.toList.drop m) (by rw[List.length_drop];omega)
   have hstep:a0Q (s.data.toList.drop m)=256*a0Q (s.data.toList.drop (m+1))+((s[m]'(by omega)).toNat:Int):=by
    (have hl:m<s.data.toList.length:=by omega);rw[List.drop_eq_getElem_cons hl,a0Q];(have e:s.data.toList[m]=s[m]'(by omega):=by simp[ByteArray.getElem_eq_getElem_data]);rw[e];omega
   rw[hm];(have hmi:(m:Int)<s.size:=by omega);have HST:=a0a hstep;(have hb:((s[m]'(by omega)).toNat:Int)<256:=by have:=(s[m]'(by omega)).toNat_lt;omega);clear hstep;generalize a0Q (s.data.toList.drop (m+1))=N at *;go_wp2_with fail;exact ⟨⟨m,by omega,rfl,by rw[HST.out]⟩,by simp[intOf]⟩
theorem a5c (s:ByteArray) (a b:Nat):(s.extract a b).data.toList=(s.data.toList.drop a).take (b-a):=by
 simp[List.take_drop,List.extract_eq_take_drop]
theorem a5f (s:ByteArray) (a b:Nat) (h:b<=s.size):(s.extract a b).size=b-a:=by
 rw[ByteArray.size_extract];omega
theorem c1n (s:ByteArray) (k:Nat) (w:World) (hs:s.size<=1000000) (hk:k<=s.size):
    Calls prog 173 #[.string s,.int .i64 k] w fun e w'=>e=.returned (.tuple #[(Pn.itR s.data.toList k).1.val,.int .i64 (Pn.itR s.data.toList k).2])/\Below w.heap.size w w':=by
 have hsz:s.data.toList.length=s.size:=(Lib.size_eq s).symm;by_cases h2:s.size<k+2
 ·have e:Pn.itR s.data.toList k=(⟨0,0,0,0,0⟩,0):=by unfold Pn.itR;rw[if_pos (by omega)]
  rw[e];have h2i:(s.size:Int)<(k:Int)+2:=by omega
  clear e;go_enter func173,ntmps173;go_wp2_with fail;refine bodyPost_ret (v:=.tuple #[(Pn.Ins.mk 0 0 0 0 0).val,.int .i64 0]) (by simp[results,results173,go_sem,Pn.Ins.val]) rfl ⟨rfl,?_⟩
  exact (Below.refl _ _).alloc (Nat.le_refl _) _
 ·have h2i:¬(s.size:Int)<(k:Int)+2:=by omega
  have hx2:(k:Int)+2<=s.size:=by omega
  have HN2:=a0a (fun w'=>a23 (s.extract k (k+2)) w' (by rw[a5f s k (k+2) (by omega)];omega))
  rw[a5c,show k+2-k=2 by omega]at HN2
  have HIT:Hid (Pn.itR s.data.toList k=if ¬a0Q ((s.data.toList.drop k).take 2)%4=3 then (if (a8T (a0Q ((s.data.toList.drop k).take 2))).2=0 then ((a8T (a0Q ((s.data.toList.drop k).take 2))).1,2) else (⟨0,0,0,0,0⟩,0)) else if s.data.toList.length<k+4 then (⟨0,0,0,0,0⟩,0) else if (Pn.dec (a0Q ((s.data.toList.drop k).take 4))).2=0 then ((Pn.dec (a0Q ((s.data.toList.drop k).take 4))).1,4) else (⟨0,0,0,0,0⟩,0)):=a0a (by unfold Pn.itR;rw[if_neg (by omega)])
  have hb2:=b1r (l:=(s.data.toList.drop k).take 2) (by rw[List.length_take];omega)
  have w2:IntKind.i64.wrap ((k:Int)+2)=(k:Int)+2:=IntWalk.i64_in _ (by omega)
  generalize a0Q ((s.data.toList.drop k).take 2)=X at *;have htm:X.tmod 4=X%4:=Int.tmod_eq_emod_of_nonneg hb2.1;by_cases h3:X%4=3
  ·replace HIT:=a0a (HIT.out.trans (if_neg (fun q=>q h3)))
   by_cases h4:s.size<k+4
   ·replace HIT:=a0a (HIT.out.trans (if_pos (by omega)))
    (have h4i:(s.size:Int)<(k:Int)+4:=by omega);(have w4:IntKind.i64.wrap ((k:Int)+4)=(k:Int)+4:=IntWalk.i64_in _ (by omega));go_enter func173,ntmps173;go_wp2_with fail;refine (HN2.out _).mono ?_;rintro e w1 ⟨rfl,rfl⟩;go_wp2_with fail;(refine bodyPost_ret (v:=.tuple #[(Pn.Ins.mk 0 0 0 0 0).val,.int .i64 0]) (by simp[results,results173,go_sem,Pn.Ins.val]) rfl ⟨by rw[HIT.out],?_⟩);exact (Below.refl _ _).alloc (Nat.le_refl _) _
   ·replace HIT:=a0a (HIT.out.trans (if_neg (by omega)))
    (have h4i:¬(s.size:Int)<(k:Int)+4:=by omega);(have hx4:(k:Int)+4<=s.size:=by omega);(have w4:IntKind.i64.wrap ((k:Int)+4)=(k:Int)+4:=IntWalk.i64_in _ (by omega));(have HN4:=a0a (fun w'=>a23 (s.extract k (k+4)) w' (by rw[a5f s k (k+4) (by omega)];omega)));(rw[a5c,show k+4-k=4 by omega]at HN4);(have hb4:=b1r (l:=(s.data.toList.drop k).take 4) (by rw[List.length_take];omega));generalize a0Q ((s.data.toList.drop k).take 4)=Y at *;(have HDC:=a0a (fun w'=>a8P Y w' hb4.1 hb4.2));generalize Pn.dec Y=EX at *;obtain ⟨⟨eop,erd,ers1,ers2,eimm⟩,ee⟩:=EX;unfold Pn.Ins.val at HDC;simp only at HDC HIT;go_enter func173,ntmps173;go_wp2_with fail;refine (HN2.out _).mono ?_;rintro e w1 ⟨rfl,rfl⟩;go_wp2_with fail;refine (HN4.out _).mono ?_;rintro e w1 ⟨rfl,rfl⟩;go_wp2_with fail;refine (HDC.out _).mono ?_;rintro e w2 ⟨rfl,hB2⟩;have HZ:=a0a ((CellsAt.new w [.int .i64 0,.int .i64 0,.int .i64 0,.int .i64 0,.int .i64 0] 26).next hB2);(have HB2:=a0a (((Below.refl _ w).alloc (Nat.le_refl _) (.cells #[.int .i64 0,.int .i64 0,.int .i64 0,.int .i64 0,.int .i64 0] 26)).trans (hB2.mono (by simp))));have HX:=a0a (CellsAt.new w2 [.int .i64 eop,.int .i64 erd,.int .i64 ers1,.int .i64 ers2,.int .i64 eimm] 26);have HZ3:=a0a (HZ.out.alloc (.cells #[.int .i64 eop,.int .i64 erd,.int .i64 ers1,.int .i64 ers2,.int .i64 eimm] 26));have HB3:=a0a (HB2.out.alloc HB2.out.size (.cells #[.int .i64 eop,.int .i64 erd,.int .i64 ers1,.int .i64 ers2,.int .i64 eimm] 26));clear hB2 HZ HB2;go_upto_region 12 with fail;generalize w2.alloc _=W3 at *;have z0:=HZ3.out.2.2 0 _ rfl;have z1:=HZ3.out.2.2 1 _ rfl;have z2:=HZ3.out.2.2 2 _ rfl;have z3:=HZ3.out.2.2 3 _ rfl;have z4:=HZ3.out.2.2 4 _ rfl;have zf:=HZ3.out.2.1;have x0:=HX.out.2.2 0 _ rfl;have x1:=HX.out.2.2 1 _ rfl;have x2:=HX.out.2.2 2 _ rfl;have x3:=HX.out.2.2 3 _ rfl;have x4:=HX.out.2.2 4 _ rfl;by_cases he:ee=0
    ·replace HIT:=a0a (HIT.out.trans (if_pos he))
     go_wp2_with fail;refine bodyPost_ret (v:=.tuple #[(Pn.Ins.mk eop erd ers1 ers2 eimm).val,.int .i64 4]) (by simp[results,results173,go_sem,Pn.Ins.val,z0,z1,z2,z3,z4]) rfl ⟨by rw[HIT.out],a2o HB3.out _ _ _ _ _⟩
    ·replace HIT:=a0a (HIT.out.trans (if_neg he))
     go_wp2_with fail;refine bodyPost_ret (v:=.tuple #[(Pn.Ins.mk 0 0 0 0 0).val,.int .i64 0]) (by simp[results,results173,go_sem,Pn.Ins.val,z0,z1,z2,z3,z4]) rfl ⟨by rw[HIT.out],a2o HB3.out _ _ _ _ _⟩
  ·replace HIT:=a0a (HIT.out.trans (if_pos h3))
   (have HEX:=a0a (fun w'=>a5C X w'));generalize a8T X=EX at *;obtain ⟨⟨eop,erd,ers1,ers2,eimm⟩,ee⟩:=EX;unfold Pn.Ins.val at HEX;simp only at HEX HIT;go_enter func173,ntmps173;go_wp2_with fail;refine (HN2.out _).mono ?_;rintro e w1 ⟨rfl,rfl⟩;go_wp2_with fail;refine (HEX.out _).mono ?_;rintro e w2 ⟨rfl,hB2⟩;have HZ:=a0a ((CellsAt.new w [.int .i64 0,.int .i64 0,.int .i64 0,.int .i64 0,.int .i64 0] 26).next hB2);(have HB2:=a0a (((Below.refl _ w).alloc (Nat.le_refl _) (.cells #[.int .i64 0,.int .i64 0,.int .i64 0,.int .i64 0,.int .i64 0] 26)).trans (hB2.mono (by simp))));have HX:=a0a (CellsAt.new w2 [.int .i64 eop,.int .i64 erd,.int .i64 ers1,.int .i64 ers2,.int .i64 eimm] 26);have HZ3:=a0a (HZ.out.alloc (.cells #[.int .i64 eop,.int .i64 erd,.int .i64 ers1,.int .i64 ers2,.int .i64 eimm] 26));have HB3:=a0a (HB2.out.alloc HB2.out.size (.cells #[.int .i64 eop,.int .i64 erd,.int .i64 ers1,.int .i64 ers2,.int .i64 eimm] 26));clear hB2 HZ HB2;go_upto_region 6 with fail;generalize w2.alloc _=W3 at *;have z0:=HZ3.out.2.2 0 _ rfl;have z1:=HZ3.out.2.2 1 _ rfl;have z2:=HZ3.out.2.2 2 _ rfl;have z3:=HZ3.out.2.2 3 _ rfl;have z4:=HZ3.out.2.2 4 _ rfl;have zf:=HZ3.out.2.1;have x0:=HX.out.2.2 0 _ rfl;have x1:=HX.out.2.2 1 _ rfl;have x2:=HX.out.2.2 2 _ rfl;have x3:=HX.out.2.2 3 _ rfl;have x4:=HX.out.2.2 4 _ rfl;by_cases he:ee=0
   ·replace HIT:=a0a (HIT.out.trans (if_pos he))
    go_wp2_with fail;refine bodyPost_ret (v:=.tuple #[(Pn.Ins.mk eop erd ers1 ers2 eimm).val,.int .i64 2]) (by simp[results,results173,go_sem,Pn.Ins.val,z0,z1,z2,z3,z4]) rfl ⟨by rw[HIT.out],a2o HB3.out _ _ _ _ _⟩
   ·replace HIT:=a0a (HIT.out.trans (if_neg he))
    go_wp2_with fail;refine bodyPost_ret (v:=.tuple #[(Pn.Ins.mk 0 0 0 0 0).val,.int .i64 0]) (by simp[results,results173,go_sem,Pn.Ins.val,z0,z1,z2,z3,z4]) rfl ⟨by rw[HIT.out],a2o HB3.out _ _ _ _ _⟩
