import Derived.Deep.CutRange
import Derived.Test.YtbmcofdodfcnnaaGreatDoorGBC
import Derived.Test.YtbmcofdodfcnnaaGreatDoorGW20
set_option linter.all false
set_option maxHeartbeats 0
set_option maxRecDepth 100000
namespace Go
open Proofs.Tryz
variable {F half l pat c s rs1 rs2 : List UInt8} {x h p M : Int} {w V : World} {i : List Value} {k bf n mk : Nat} {pi q : List Int}
def oS (F:List UInt8):Nat->List (Int×Int)
 | 0=>[]
 | i+1=>oS F i++(if 65<=((F.getD i 0).toNat:Int)/\((F.getD i 0).toNat:Int)<=90 then [(((F.getD i 0).toNat:Int)-65,15-(i:Int))] else [])
def ko (h:Int):List (Int×Int)->Int->Int
 | [],a=>a
 | x::l,a=>oK (a+gR h x.2*kW x.1.toNat) λ a=>ko h l a
def wV (sg:Bool) (M a:Int):Int:=if sg=true/\0<M then (if kW (M-1).toNat<=a then a-kW M.toNat else a) else a
def eL (sg sg2:Bool) (pi q:List Int) (U:List (Int×Int)) (M:Int) (n:Nat):Bool:=
 oK (kG sg q pi n pi.length) λ d=>decide (wV sg2 M (ko n U 0)=d)&&U.all λ x=>decide (gR d x.1=gR n x.2)
def Wr:bC (eL false false [12,11,10,9,8,7,6,5] [5,4,9,8,7,6,2,3] [(5,12),(4,11),(9,10),(8,9),(7,8),(6,7),(2,6),(3,5)] 10) [48,48,48,105,105,105,105,105,105,105,105,48,48,48,48,48] 0=true:=by decide +kernel
def Wk:bC (eL false false [12,11,10,6,5] [5,4,3,2,6] [(5,12),(4,11),(3,10),(2,6),(6,5)] 7) [48,48,48,105,105,105,48,48,48,105,105,48,48,48,48,48] 0=true:=by decide +kernel
def Vt:bC (eL false false [12,11,10,6,5] [5,4,3,7,6] [(5,12),(4,11),(3,10),(7,6),(6,5)] 8) [48,48,48,105,105,105,48,48,48,105,105,48,48,48,48,48] 0=true:=by decide +kernel
def Wz:bC (eL false false [12,11,10,6,5] [5,4,3,2,6] [(5,12),(4,11),(3,10),(2,6),(6,5)] 7) [48,48,48,105,105,105,48,48,48,105,105,48,48,48,48,48] 0=true:=by decide +kernel
def WG:bC (eL false false [12,11,10,6,5] [5,4,3,7,6] [(5,12),(4,11),(3,10),(7,6),(6,5)] 8) [48,48,48,105,105,105,48,48,48,105,105,48,48,48,48,48] 0=true:=by decide +kernel
def Vs:bC (eL true true [12,6,5,4,3,2] [5,4,3,2,1,0] [(5,12),(4,6),(3,5),(2,4),(1,3),(0,2)] 6) [48,48,48,105,48,48,48,48,48,105,105,105,105,105,48,48] 0=true:=by decide +kernel
def Xh:bC (eL true true [12,6,5,4,3,2] [5,4,3,2,1,0] [(5,12),(4,6),(3,5),(2,4),(1,3),(0,2)] 6) [48,48,48,105,48,48,48,48,48,105,105,105,105,105,48,48] 0=true:=by decide +kernel
def Wl:bC (eL true true [12,6,5,4,3,2] [5,4,3,2,1,0] [(5,12),(4,6),(3,5),(2,4),(1,3),(0,2)] 6) [48,48,48,105,48,48,48,48,48,105,105,105,105,105,48,48] 0=true:=by decide +kernel
def VS:bC (eL true true [12,6,5,4,3,2] [9,4,6,8,7,5] [(9,12),(4,6),(6,5),(8,4),(7,3),(5,2)] 10) [48,48,48,105,48,48,48,48,48,105,105,105,105,105,48,48] 0=true:=by decide +kernel
def Vh:bC (eL true true [12,6,5,4,3,2] [5,4,3,2,1,0] [(5,12),(4,6),(3,5),(2,4),(1,3),(0,2)] 6) [48,48,48,105,48,48,48,48,48,105,105,105,105,105,48,48] 0=true:=by decide +kernel
def UJ:bC (eL false false [12,6,5,4,3,2] [5,4,3,2,1,0] [(5,12),(4,6),(3,5),(2,4),(1,3),(0,2)] 6) [48,48,48,105,48,48,48,48,48,105,105,105,105,105,48,48] 0=true:=by decide +kernel
def U8:bC (eL false false [12,6,5,4,3,2] [5,4,3,2,1,0] [(5,12),(4,6),(3,5),(2,4),(1,3),(0,2)] 6) [48,48,48,105,48,48,48,48,48,105,105,105,105,105,48,48] 0=true:=by decide +kernel
def TO:bC (eL true true [12,6,5,4,3,2] [5,4,3,2,1,0] [(5,12),(4,6),(3,5),(2,4),(1,3),(0,2)] 6) [48,48,48,105,48,48,48,48,48,105,105,105,105,105,48,48] 0=true:=by decide +kernel
def U9:bC (eL false false [] [] [] 0) [48,48,48,48,48,48,48,48,48,48,48,48,48,48,48,48] 0=true:=by decide +kernel
def Ui:bC (eL false false [] [] [] 0) [48,48,48,48,48,48,48,48,48,48,48,48,48,48,48,48] 0=true:=by decide +kernel
def VE:bC (eL false false [] [] [] 0) [48,48,48,48,48,48,48,48,48,48,48,48,48,48,48,48] 0=true:=by decide +kernel
def TK:bC (eL false false [] [] [] 0) [48,48,48,48,48,48,48,48,48,48,48,48,48,48,48,48] 0=true:=by decide +kernel
def VB:bC (eL false false [] [] [] 0) [48,48,48,48,48,48,48,48,48,48,48,48,48,48,48,48] 0=true:=by decide +kernel
def VQ:bC (eL false false [] [] [] 0) [48,48,48,48,48,48,48,48,48,48,48,48,48,48,48,48] 0=true:=by decide +kernel
def V7:bC (eL true true [12,11,10,9,8,7,6,5,4,3,2] [11,4,9,8,10,6,7,3,2,1,5] [(11,12),(4,11),(9,10),(8,9),(10,8),(6,7),(7,6),(3,5),(2,4),(1,3),(5,2)] 12) [48,48,48,105,105,105,105,105,105,105,105,105,105,105,48,48] 0=true:=by decide +kernel
def VH:bC (eL true true [12,11,10,6,5,4,3,2] [8,4,3,7,6,2,1,5] [(8,12),(4,11),(3,10),(7,6),(6,5),(2,4),(1,3),(5,2)] 9) [48,48,48,105,105,105,48,48,48,105,105,105,105,105,48,48] 0=true:=by decide +kernel
def Ua:bC (eL true true [12,11,10,6,5,4,3,2] [8,4,3,7,6,2,1,5] [(8,12),(4,11),(3,10),(7,6),(6,5),(2,4),(1,3),(5,2)] 9) [48,48,48,105,105,105,48,48,48,105,105,105,105,105,48,48] 0=true:=by decide +kernel
def VM:bC (eL false false [12,6,5,4,3,2] [5,4,3,2,1,0] [(5,12),(4,6),(3,5),(2,4),(1,3),(0,2)] 6) [48,48,48,105,48,48,48,48,48,105,105,105,105,105,48,48] 0=true:=by decide +kernel
def UP:bC (eL false false [12,6,5,4,3,2] [5,4,3,2,7,6] [(5,12),(4,6),(3,5),(2,4),(7,3),(6,2)] 8) [48,48,48,105,48,48,48,48,48,105,105,105,105,105,48,48] 0=true:=by decide +kernel
def VK:bC (eL false false [12,6,5,4,3,2] [5,4,3,8,7,6] [(5,12),(4,6),(3,5),(8,4),(7,3),(6,2)] 9) [48,48,48,105,48,48,48,48,48,105,105,105,105,105,48,48] 0=true:=by decide +kernel
def TD:bC (eL false false [] [] [] 0) [48,48,48,48,48,48,48,48,48,48,48,48,48,48,48,48] 0=true:=by decide +kernel
def UM:bC (eL false false [] [] [] 0) [48,48,48,48,48,48,48,48,48,48,48,48,48,48,48,48] 0=true:=by decide +kernel
def UV:bC (eL false false [] [] [] 0) [48,48,48,48,48,48,48,48,48,48,48,48,48,48,48,48] 0=true:=by decide +kernel
def VD:bC (eL false false [] [] [] 0) [48,48,48,48,48,48,48,48,48,48,48,48,48,48,48,48] 0=true:=by decide +kernel
def UY:bC (eL false false [] [] [] 0) [48,48,48,48,48,48,48,48,48,48,48,48,48,48,48,48] 0=true:=by decide +kernel
def UR:bC (eL false false [12,11,10,9,8,7] [5,4,3,2,7,6] [(5,12),(4,11),(3,10),(2,9),(7,8),(6,7)] 8) [48,48,48,105,105,105,105,105,105,48,48,48,48,48,48,48] 0=true:=by decide +kernel
def UX:bC (eL false false [12,11,10,9,8,7] [5,4,3,8,7,6] [(5,12),(4,11),(3,10),(8,9),(7,8),(6,7)] 9) [48,48,48,105,105,105,105,105,105,48,48,48,48,48,48,48] 0=true:=by decide +kernel
def td (F:List UInt8) (i:Nat):B (⟨F.toArray⟩:ByteArray) i=F.getD i 0:=by
 unfold B;simp
def yM (F H:ByteArray):∀m,kS F H m=(List.range m).all (λ i=>!eK F H i)
 | 0=>rfl
 | m+1=>by rw[kS,List.range_succ,List.all_append,yM F H m];simp
def Bd (F half:List UInt8):Bool:=(List.range 16).all λ i=>if (F.getD i 0).toNat=48\/(F.getD i 0).toNat=49\/(half.getD i 0).toNat=48\/(half.getD i 0).toNat=49 then (F.getD i 0).toNat==(half.getD i 0).toNat else true
def oP (F half:List UInt8) (c:Nat):Bool:=(List.range 16).all λ i=>((F.getD i 0).toNat==c)==((half.getD i 0).toNat==c)
def Hl (D:half.length=16) (E:Bd F half=true) (h):kS ⟨F.toArray⟩ (dP h 16) 16=hZ half h:=by
 rw[yM];unfold hZ;rw[D]
 have e:∀i∈List.range 16,(!eK ⟨F.toArray⟩ (dP h 16) i)=nh half h i:=λ i hi=>by
  have w:=List.mem_range.1 hi;have u:=List.all_eq_true.1 E i hi;obtain ⟨d1,d2,d3⟩:=qZ h w;unfold eK nh;rw[td,d1]
  split at u
  .rename_i hc
   (have C:(F.getD i 0).toNat=(half.getD i 0).toNat:=by simpa using u);rw[C]at hc ⊢;(rw[zt (by omega)]);rcases (show (half.getD i 0).toNat=48\/(half.getD i 0).toNat=49 by omega) with q|q
   .rw[q]
    by_cases v:aD h (15-i) (15-i)=0
    .rw[v];decide
    (have j:aD h (15-i) (15-i)=1:=by omega);rw[j];decide
   rw[q];by_cases v:aD h (15-i) (15-i)=0
   .rw[v];decide
   (have j:aD h (15-i) (15-i)=1:=by omega);rw[j];decide
  rename_i hc;rw[aC (by omega)]
  have y:((((F.getD i 0).toNat:Int))==48)=false:=beq_eq_false_iff_ne.2 (λ q=>hc (Or.inl (by omega)))
  have A:((((F.getD i 0).toNat:Int))==49)=false:=beq_eq_false_iff_ne.2 (λ q=>hc (Or.inr (Or.inl (by omega))))
  rw[y,A];rfl
 rw[Bool.eq_iff_iff,List.all_eq_true,List.all_eq_true];exact ⟨λ q i hi=>by rw[<-e i hi];exact q i hi,λ q i hi=>by rw[e i hi];exact q i hi⟩
def OB {a b:Int} (q:0<=a) (u:a<1000000) (h:0<=b) (j:b<=1):aT (a*2) b=2*a+b:=by
 have:=dK (a*2) b 0 1 1 2 rfl rfl (by omega) (by omega) (by omega) h (by omega) (by omega)
 rw[Int.mul_one]at this;omega
def Fe (p:List Int) (q n:Int):∀j,j<=p.length->jz (p++[q]) n j=jz p n j
 | 0,_=>rfl
 | j+1,hj=>by
  have e:(p++[q]).getD j 0=p.getD j 0:=by rw[zG,List.getElem?_append_left (show j<p.length by omega),zG]
  rw[jz,jz,Fe p q n j (by omega),e]
def HU {F half:List UInt8} {c:Nat} (A:oP F half c=true) (h:Int):∀i,i<=16->fI ⟨F.toArray⟩ (dP h 16) c i=jz (pl half c i) h (pl half c i).length
 | 0,_=>rfl
 | i+1,hi=>by
  have ih:=HU A h i (by omega)
  have j:((F.getD i 0).toNat==c)=((half.getD i 0).toNat==c):=eq_of_beq (List.all_eq_true.1 A i (List.mem_range.2 (by omega)))
  obtain ⟨d1,d2,d3⟩:=qZ h (show i<16 by omega)
  have u:=Az (pl half c i) h (pl half c i).length (by have:=pK half c i;omega)
  have y:=pK half c i;rw[fI,pl,td,d1];by_cases w:(F.getD i 0).toNat=c
  .have v:(half.getD i 0).toNat=c:=by
    rw[beq_iff_eq.2 w]at j;exact beq_iff_eq.1 j.symm
   (rw[zt (by omega),zt (by omega),List.length_append,List.length_singleton,jz,Fe _ _ _ _ zn,ih]);(have e:(pl half c i++[15-(i:Int)]).getD (pl half c i).length 0=15-(i:Int):=by simp[List.getD]);(have D:(2:Int)^(pl half c i).length<=2^16:=gU (by omega));(have C:(2:Int)^16=65536:=by decide);(rw[e,OB u.1 (by omega) (wC _ _).1 (wC _ _).2]);unfold bt;omega
  have v:¬(half.getD i 0).toNat=c:=λ q=>w (by
   rw[beq_iff_eq.2 q]at j;exact beq_iff_eq.1 j)
  rw[aC (by omega),aC (by omega),List.append_nil]
  exact ih
def oO (F:ByteArray) (d s t imm:Int) (k:Nat):Int:=
 if ((B F k).toNat:Int)=49 then 1
 else if ((B F k).toNat:Int)=100 then aD d (aR F 100 16-aR F 100 (k+1)) (aR F 100 16-aR F 100 (k+1))
 else if ((B F k).toNat:Int)=115 then aD s (aR F 115 16-aR F 115 (k+1)) (aR F 115 16-aR F 115 (k+1))
 else if ((B F k).toNat:Int)=116 then aD t (aR F 116 16-aR F 116 (k+1)) (aR F 116 16-aR F 116 (k+1))
 else if 65<=((B F k).toNat:Int)/\((B F k).toNat:Int)<=90 then aD imm ((B F k).toNat-65) ((B F k).toNat-65) else 0
def Od (F) (d s t imm) (k) {h j q:Int} (u:aR F 100 16=h) (v:aR F 115 16=j) (w:aR F 116 16=q):oO F d s t imm k=if ((B F k).toNat:Int)=49 then 1
 else if ((B F k).toNat:Int)=100 then aD d (h-aR F 100 (k+1)) (h-aR F 100 (k+1))
 else if ((B F k).toNat:Int)=115 then aD s (j-aR F 115 (k+1)) (j-aR F 115 (k+1))
 else if ((B F k).toNat:Int)=116 then aD t (q-aR F 116 (k+1)) (q-aR F 116 (k+1))
 else if 65<=((B F k).toNat:Int)/\((B F k).toNat:Int)<=90 then aD imm ((B F k).toNat-65) ((B F k).toNat-65) else 0:=by
 subst u v w;rfl
def io (F:ByteArray) (d s t imm:Int):Nat->Int
 | 0=>0
 | k+1=>2*io F d s t imm k+oO F d s t imm k
def oF (n q):0<=aD n q q/\aD n q q<=1:=by
 have h:=fV n q q;have e:(2:Int)^(q.toNat-q.toNat+1)=2:=by simp
 rw[e]at h;omega
def Qx (F) (d s t imm) (k):0<=oO F d s t imm k/\oO F d s t imm k<=1:=by
 unfold oO
 split
 .omega
 split
 .exact oF _ _
 split
 .exact oF _ _
 split
 .exact oF _ _
 split
 .exact oF _ _
 omega
def uP (F:ByteArray) (d s t imm:Int):∀k:Nat,0<=io F d s t imm k/\io F d s t imm k<2^k
 | 0=>by simp[io]
 | k+1=>by
  have h:=uP F d s t imm k;have j:=Qx F d s t imm k;rw[io,Int.pow_succ];omega
def v7 (F:ByteArray) (c:Int) (j:Nat):∀d,aR F c j<=aR F c (j+d)
 | 0=>Int.le_refl _
 | d+1=>by
  have h:=v7 F c j d;rw[show j+(d+1)=(j+d)+1 by omega,aR]
  split<;>omega
open RowKit
def qt (h:-9223372036854775808<=x/\x<9223372036854775808):wrap64 x=x:=by unfold wrap64;omega
structure q9 (w:World) (f i l:List Value) (V:World):Prop where
 f:aF w.heap.size f V
 i:aF (w.heap.size+1) i V
 l:aF (w.heap.size+1+1) l V
 b:Below w.heap.size w V
def q9.set {f l:List Value} (h:q9 w f i l V) (q) (v) (j:q<l.length):q9 w f i (l.set q v) (V.setCell ⟨w.heap.size+1+1,q,none⟩ v):=
 ⟨uG h.f (by omega) _ _,uG h.i (by omega) _ _,h.l.set q v j,h.b.setCell (by show w.heap.size<=w.heap.size+1+1;omega) _⟩
def Re (w) (f i l) (t1 t2 t3):q9 w f i l (((w.alloc (.cells f.toArray t1)).alloc (.cells i.toArray t2)).alloc (.cells l.toArray t3)):=by
 have h:(w.alloc (.cells f.toArray t1)).heap.size=w.heap.size+1:=by simp
 have j:((w.alloc (.cells f.toArray t1)).alloc (.cells i.toArray t2)).heap.size=w.heap.size+1+1:=by simp
 have q:=aF.new (w.alloc (.cells f.toArray t1)) i t2;have u:=aF.new ((w.alloc (.cells f.toArray t1)).alloc (.cells i.toArray t2)) l t3;rw[h]at q;rw[j]at u;exact ⟨((aF.new w f t1).alloc _).alloc _,q.alloc _,u,(aJ.alloc (by rw[h];omega) _).alloc (by rw[j];omega) _⟩
def MH (F) (op) (o a b e1 c) (iop d s t imm) (w) (hF:F.size=16) (hd:0<=d/\d<=31) (hs:0<=s/\s<=31) (ht:0<=t/\t<=31) (hi:-1099511627776<=imm/\imm<=1099511627776):
    aG prog 166 #[.agg #[.string F,.int .i64 op,o,a,b,e1,c],.agg #[.int .i64 iop,.int .i64 d,.int .i64 s,.int .i64 t,.int .i64 imm]] w (.int .i64 (io F d s t imm 16)):=by
 unfold aG;have HC:=aB (λ ch w'=>vh F ch w' (by omega))
 go_in;go_wp2_with fail;have v:=aB (Re w [.string F,.int .i64 op,o,a,b,e1,c] [.int .i64 iop,.int .i64 d,.int .i64 s,.int .i64 t,.int .i64 imm] [.int .i64 0,.int .i64 0,.int .i64 0] 230 26 272);generalize World.alloc (World.alloc (w.alloc _) _) _=W1 at *;have f0:=v.out.f.2.2 0 _ rfl;obtain ⟨X,Y,Z⟩:=tL v.out.l.2.2;have lf:=v.out.l.2.1;have T:=HC.out 100;have U:=HC.out 115;have V:=HC.out 116;rw[hF]at T U V;have ab:=aB T;have ac:=aB U;have ae:=aB V;clear T U V HC;generalize M:aR F 100 16=C at *;generalize N:aR F 115 16=D at *;generalize O:aR F 116 16=E at *;refine (ab.out W1).mono ?_;rintro e w' ⟨rfl,rfl⟩;go_upto_region 7 with fail;have v:=aB (v.out.set 0 (.int .i64 C) (by simp))
 generalize World.setCell w' _ _=W2 at *;clear f0 X Y Z lf;have f0:=v.out.f.2.2 0 _ rfl;obtain ⟨X,Y,Z⟩:=tL v.out.l.2.2;have lf:=v.out.l.2.1;go_wp2_with fail;refine (ac.out W2).mono ?_;rintro e aw ⟨rfl,rfl⟩;go_upto_region 8 with fail;have v:=aB (v.out.set 1 (.int .i64 D) (by simp))
 generalize World.setCell aw _ _=W3 at *;clear f0 X Y Z lf;have f0:=v.out.f.2.2 0 _ rfl;obtain ⟨X,Y,Z⟩:=tL v.out.l.2.2;have lf:=v.out.l.2.1;go_wp2_with fail;refine (ae.out W3).mono ?_;rintro e w3 ⟨rfl,rfl⟩;go_upto_region 9 with fail;have v:=aB (v.out.set 2 (.int .i64 E) (by simp))
 generalize World.setCell w3 _ _=W4 at *;clear f0 X Y Z lf;simp only[List.set_cons_zero,List.set_cons_succ]at v;go_wp2_with fail
 have HK:Hid ((∀j,j<16->aR F 100 (j+1)<=C/\aR F 115 (j+1)<=D/\aR F 116 (j+1)<=E)/\C<=16/\D<=16/\E<=16):=aB (by
  refine ⟨λ j hj=>?_,?_,?_,?_⟩
  .have m1:=v7 F 100 (j+1) (16-(j+1))
   have m2:=v7 F 115 (j+1) (16-(j+1));have m3:=v7 F 116 (j+1) (16-(j+1));(rw[show j+1+(16-(j+1))=16 by omega]at m1 m2 m3);rw[M]at m1;rw[N]at m2;rw[O]at m3;exact ⟨m1,m2,m3⟩
  .have:=mh F 100 16;omega
  .have:=mh F 115 16;omega
  have:=mh F 116 16;omega)
 have ao:=aB (λ k=>Od F d s t imm k M N O)
 have a0:=aB (And.intro M (And.intro N O));clear M N O ab ac ae;go_loopw [8,10] (λ h k wr=>∃j:Nat,h=.int .i64 (io F d s t imm j)/\k=.int .i64 j/\j<=16/\Hid (q9 w [.string F,.int .i64 op,o,a,b,e1,c] [.int .i64 iop,.int .i64 d,.int .i64 s,.int .i64 t,.int .i64 imm] [.int .i64 (C-aR F 100 j),.int .i64 (D-aR F 115 j),.int .i64 (E-aR F 116 j)] wr)) (λ _ k _=>16-(intOf k).toNat)
 case atStart=>exact ⟨0,rfl,rfl,by omega,by simpa[aR] using v⟩
 case round=>
  clear v;obtain ⟨j,rfl,rfl,hj,v⟩:=hrel;by_cases ai:j<16
  .have az:(j:Int)<16:=by omega
   (have a6:(j:Int)<F.size:=by omega);have f0:=v.out.f.2.2 0 _ rfl;have i4:=v.out.i.2.2 4 _ rfl;obtain ⟨X,Y,Z⟩:=tL v.out.l.2.2;have lf:=v.out.l.2.1;(have b1:((F[j]'(by omega)).toNat:Int)=((B F j).toNat:Int):=by rw[iF F j (by omega)]);(have wj:IntKind.i64.wrap ((j:Int)+1)=(j:Int)+1:=zw _ (by omega));have hN:=uP F d s t imm j
   have a4:io F d s t imm j<=65536:=by
    (have h2:(2:Int)^j<=2^16:=gU (by omega));(have h3:(2:Int)^16=65536:=by decide);omega
   have hx:=ao.out j;have u:Hid (io F d s t imm (j+1)=2*io F d s t imm j+oO F d s t imm j):=aB rfl;(have q:Hid (∀ch:Int,aR F ch (j+1)=aR F ch j+if ((B F j).toNat:Int)=ch then 1 else 0):=aB (λ ch=>rfl));have hm:=HK.out.1 j ai;(have a5:((B F j).toNat:Int)<256:=by have:=(B F j).toNat_lt;omega);generalize io F d s t imm j=y at *;generalize ((B F j).toNat:Int)=x at *;by_cases af:x=49
   .as_aux_lemma=>
     subst af;rw[zt rfl]at hx;rw[hx]at u;(have wn:IntKind.i64.wrap (2*y)=2*y:=zw _ (by omega));(have wm:IntKind.i64.wrap (2*y+1)=2*y+1:=zw _ (by omega));clear hx;go_wp2;go_roundw;(case rel=>exact ⟨j+1,by rw[u.out],by go_num,by omega,aB (by have e:=v.out;rw[q.out 100,q.out 115,q.out 116,aC (by omega),aC (by omega),aC (by omega)];simpa using e)⟩);case measure=>simp[intOf];omega
   by_cases J:x=100
   .as_aux_lemma=>
     subst J;(rw[aC (by decide),zt rfl]at hx);rw[hx]at u;have A:=q.out 100;rw[zt rfl]at A;have ag:=mh F 100 j;have H:=oF d (C-aR F 100 (j+1));rw[A]at hm H u;have Q:=HK.out.2.1;(have G:=aB (λ w'=>nC d (C-(aR F 100 j+1)) (C-(aR F 100 j+1)) w' (by omega) (by omega) (by omega) (by omega) (by omega)));(have wl:IntKind.i64.wrap (C-aR F 100 j-1)=C-(aR F 100 j+1):=by rw[zw _ (by omega)];omega);(have W:wrap64 (C-aR F 100 j-1)=C-(aR F 100 j+1):=(qt (by omega)).trans (by omega));generalize aD d (C-(aR F 100 j+1)) (C-(aR F 100 j+1))=bt at *;(have wn:IntKind.i64.wrap (2*y)=2*y:=zw _ (by omega));(have wm:IntKind.i64.wrap (2*y+bt)=2*y+bt:=zw _ (by omega));clear hx A;go_wp2_with (go_at_call 159;refine (G.out _).mono ?_;rintro e w' ⟨rfl,rfl⟩);go_roundw;(case rel=>exact ⟨j+1,by rw[u.out],by go_num,by omega,aB (by have e:=v.out.set 0 (.int .i64 (C-(aR F 100 j+1))) (by simp);rw[q.out 100,q.out 115,q.out 116,zt rfl,aC (by decide),aC (by decide)];simpa using e)⟩);case measure=>simp[intOf];omega
   by_cases K:x=115
   .as_aux_lemma=>
     subst K;(rw[aC (by decide),aC (by decide),zt rfl]at hx);rw[hx]at u;have A:=q.out 115;rw[zt rfl]at A;have ag:=mh F 115 j;have H:=oF s (D-aR F 115 (j+1));rw[A]at hm H u;have Q:=HK.out.2.2.1;(have G:=aB (λ w'=>nC s (D-(aR F 115 j+1)) (D-(aR F 115 j+1)) w' (by omega) (by omega) (by omega) (by omega) (by omega)));(have wl:IntKind.i64.wrap (D-aR F 115 j-1)=D-(aR F 115 j+1):=by rw[zw _ (by omega)];omega);(have W:wrap64 (D-aR F 115 j-1)=D-(aR F 115 j+1):=(qt (by omega)).trans (by omega));generalize aD s (D-(aR F 115 j+1)) (D-(aR F 115 j+1))=bt at *;(have wn:IntKind.i64.wrap (2*y)=2*y:=zw _ (by omega));(have wm:IntKind.i64.wrap (2*y+bt)=2*y+bt:=zw _ (by omega));clear hx A;go_wp2_with (go_at_call 159;refine (G.out _).mono ?_;rintro e w' ⟨rfl,rfl⟩);go_roundw;(case rel=>exact ⟨j+1,by rw[u.out],by go_num,by omega,aB (by have e:=v.out.set 1 (.int .i64 (D-(aR F 115 j+1))) (by simp);rw[q.out 100,q.out 115,q.out 116,aC (by decide),zt rfl,aC (by decide)];simpa using e)⟩);case measure=>simp[intOf];omega
   by_cases L:x=116
   .as_aux_lemma=>
     subst L;(rw[aC (by decide),aC (by decide),aC (by decide),zt rfl]at hx);rw[hx]at u;have A:=q.out 116;rw[zt rfl]at A;have ag:=mh F 116 j;have H:=oF t (E-aR F 116 (j+1));rw[A]at hm H u;have Q:=HK.out.2.2.2;(have G:=aB (λ w'=>nC t (E-(aR F 116 j+1)) (E-(aR F 116 j+1)) w' (by omega) (by omega) (by omega) (by omega) (by omega)));(have wl:IntKind.i64.wrap (E-aR F 116 j-1)=E-(aR F 116 j+1):=by rw[zw _ (by omega)];omega);(have W:wrap64 (E-aR F 116 j-1)=E-(aR F 116 j+1):=(qt (by omega)).trans (by omega));generalize aD t (E-(aR F 116 j+1)) (E-(aR F 116 j+1))=bt at *;(have wn:IntKind.i64.wrap (2*y)=2*y:=zw _ (by omega));(have wm:IntKind.i64.wrap (2*y+bt)=2*y+bt:=zw _ (by omega));clear hx A;go_wp2_with (go_at_call 159;refine (G.out _).mono ?_;rintro e w' ⟨rfl,rfl⟩);go_roundw;(case rel=>exact ⟨j+1,by rw[u.out],by go_num,by omega,aB (by have e:=v.out.set 2 (.int .i64 (E-(aR F 116 j+1))) (by simp);rw[q.out 100,q.out 115,q.out 116,aC (by decide),aC (by decide),zt rfl];simpa using e)⟩);case measure=>simp[intOf];omega
   rw[aC af,aC J,aC K,aC L]at hx
   have R:Hid (q9 w [.string F,.int .i64 op,o,a,b,e1,c] [.int .i64 iop,.int .i64 d,.int .i64 s,.int .i64 t,.int .i64 imm] [.int .i64 (C-aR F 100 (j+1)),.int .i64 (D-aR F 115 (j+1)),.int .i64 (E-aR F 116 (j+1))] wr):=aB (by
    have e:=v.out;rw[q.out 100,q.out 115,q.out 116,aC J,aC K,aC L];simpa using e)
   by_cases I:65<=x/\x<=90
   .as_aux_lemma=>
     rw[zt I]at hx;rw[hx]at u;obtain ⟨u1,u2⟩:=I;have H:=oF imm (x-65);(have G:=aB (λ w'=>nC imm (x-65) (x-65) w' (by omega) (by omega) (by omega) (by omega) (by omega)));(have wl:IntKind.i64.wrap (x-65)=x-65:=zw _ (by omega));(have wx:IntKind.i64.wrap x=x:=zw _ (by omega));(have W:wrap64 (x-65)=x-65:=qt (by omega));(have a8:wrap64 x=x:=qt (by omega));generalize aD imm (x-65) (x-65)=bt at *;(have wn:IntKind.i64.wrap (2*y)=2*y:=zw _ (by omega));(have wm:IntKind.i64.wrap (2*y+bt)=2*y+bt:=zw _ (by omega));clear hx;go_wp2_with (go_at_call 159;refine (G.out _).mono ?_;rintro e w' ⟨rfl,rfl⟩);go_roundw;(case rel=>exact ⟨j+1,by rw[u.out],by go_num,by omega,R⟩);case measure=>simp[intOf];omega
   as_aux_lemma=>
    rw[aC I]at hx;rw[hx]at u;(have wn:IntKind.i64.wrap (2*y)=2*y:=zw _ (by omega));(have wm:IntKind.i64.wrap (2*y+0)=2*y+0:=zw _ (by omega));(have P:Hid (io F d s t imm (j+1)=2*y):=aB (by rw[u.out];omega));by_cases u1:65<=x
    .have u2:¬x<=90:=λ h=>I ⟨u1,h⟩
     clear hx I;go_wp2;go_roundw;(case rel=>exact ⟨j+1,by rw[P.out],by go_num,by omega,R⟩);case measure=>simp[intOf];omega
    clear hx I;go_wp2;go_roundw;(case rel=>exact ⟨j+1,by rw[P.out],by go_num,by omega,R⟩);case measure=>simp[intOf];omega
  as_aux_lemma=>
   (have ah:j=16:=by omega);subst ah;have an:=aB v.out.b;clear ai hj v;go_wp2;go_ret;exact ⟨rfl,an.out⟩
def nX (a b:aE):Bool:=a.op==b.op&&(a.rd==b.rd&&(a.rs1==b.rs1&&(a.rs2==b.rs2&&a.imm==b.imm)))
def rC (o:Option aE) (i:aE):Bool:=match o with|some x=>nX x i|none=>false
def ks (i:aE) (k:Nat):Option Int:=
 if (aQ k).op=i.op then (if rC (kY k (dP (io ⟨(aQ k).half.toArray⟩ i.rd i.rs1 i.rs2 i.imm 16) 16)) i=true then some (io ⟨(aQ k).half.toArray⟩ i.rd i.rs1 i.rs2 i.imm 16) else none) else none
def Ga {i:aE} (h:right i=true):∃k:Nat,k<64/\i.op=(k:Int)+1:=by
 by_cases j:1<=i.op/\i.op<=64
 .exact ⟨(i.op-1).toNat,by omega,by omega⟩
 rw[lY i j]at h;cases h
def eM (i:aE):Int×Int:=if right i=true then (match (List.range 32).findSome? (ks i) with|some h=>(h,0)|none=>(0,2)) else (0,1)
def M0 {i:aE} (A:right i=true) (v:k<32) (w:∀j,j<k->ks i j=none) (hi:ks i k=some h):eM i=(h,0):=by
 unfold eM;rw[zt A,zy (k:=k) (x:=k) (y:=h) (List.getElem?_range v) (λ j z u q=>?_) hi]
 rw[List.getElem?_range (by omega)]at q
 cases q
 exact w j u
def NF {i:aE} (u:right i=true) (q:∀j,j<32->ks i j=none):eM i=(0,2):=by
 unfold eM
 have e:(List.range 32).findSome? (ks i)=none:=by
  rw[List.findSome?_eq_none_iff];intro k h;exact q k (List.mem_range.1 h)
 rw[zt u,e]
def O0 (k) (j:k<32) (i) (w) (h:right i=true):
    aG prog 166 #[.agg #[.string ⟨(aQ k).half.toArray⟩,.int .i64 (aQ k).op,.string ⟨(aQ k).rd.toArray⟩,.string ⟨(aQ k).rs1.toArray⟩,.string ⟨(aQ k).rs2.toArray⟩,.bool (aQ k).sgn,.string ⟨(aQ k).cond.toArray⟩],.agg #[.int .i64 i.op,.int .i64 i.rd,.int .i64 i.rs1,.int .i64 i.rs2,.int .i64 i.imm]] w (.int .i64 (io ⟨(aQ k).half.toArray⟩ i.rd i.rs1 i.rs2 i.imm 16)):=by
 unfold aG;obtain ⟨o,q,e⟩:=Ga h;obtain ⟨op,rd,rs1,rs2,imm⟩:=i;simp only at e;subst e;have u:=o6 q h;have sz:(⟨(aQ k).half.toArray⟩:ByteArray).size=(aQ k).half.length:=by simp[ByteArray.size]
 exact MH _ _ _ _ _ _ _ _ rd rs1 rs2 imm w (by rw[sz];exact (AD k j).1) ⟨by omega,by omega⟩ ⟨by omega,by omega⟩ ⟨by omega,by omega⟩ ⟨by omega,by omega⟩
structure pg (w:World) (bf:Nat) (i:List Value) (V:World):Prop where
 i:aF w.heap.size i V
 f:∀k,k<32->∀q v,(pw (aQ k))[q]?=some v->V.cell? ⟨bf,k*7+q,none⟩=some v
 lt:bf<V.heap.size
 b:Below w.heap.size w V
def pg.next {u:World} (h:pg w bf i V) (j:Below V.heap.size V u):pg w bf i u:=
 ⟨h.i.next j,λ k y q v A=>(j.cell (p:=⟨bf,k*7+q,none⟩) h.lt).trans (h.f k y q v A),zl h.lt j.size,h.b.trans (j.mono h.b.size)⟩
def Rk (w) (hi:aF w.heap.size i V) (j:Below w.heap.size w V) {C:Array Value} (D:vJ C):pg w V.heap.size i (V.alloc (.cells C 230)):=by
 have F:=heap_alloc_new V (.cells C 230);refine ⟨hi.alloc _,λ k E q v h=>?_,by simp,j.alloc j.size _⟩
 rw[Lib.cell_of_heap F];obtain ⟨c0,c1,c2,u,c4,y,A⟩:=D k E;unfold pw at h;rcases q with _|_|_|_|_|_|_|q
 .simp at h;subst h;exact c0
 .simp at h;subst h;exact c1
 .simp at h;subst h;exact c2
 .simp at h;subst h;exact u
 .simp at h;subst h;exact c4
 .simp at h;subst h;exact y
 .simp at h;subst h;exact A
 simp at h
def NE (i) (w) (hr:right i=true):
    aG prog 96 #[i.val] w (.tuple #[.int .i64 (eM i).1,.int .i64 (eM i).2]):=by
 unfold aG;have HR:=aB (lV i);rw[hr]at HR;have HH:=aB (λ k h hk hn hi=>M0 hr (k:=k) hk (h:=h) hn hi)
 have HN:=aB (NF hr);have HF:=aB (λ k hk w'=>O0 k hk i w' hr)
 obtain ⟨op,rd,rs1,rs2,imm⟩:=i;unfold aE.val at HR ⊢;simp only at HR HF;clear hr;go_in;go_wp2_with fail;refine zK (HR.out _) λ w1 U=>?_;have HI:=aB ((aF.new w [.int .i64 op,.int .i64 rd,.int .i64 rs1,.int .i64 rs2,.int .i64 imm] 26).next U);have HB:=aB (((Below.refl _ w).alloc zn (.cells #[.int .i64 op,.int .i64 rd,.int .i64 rs1,.int .i64 rs2,.int .i64 imm] 26)).trans (U.mono (by simp)))
 clear U HR;go_wp2_with fail;refine (Dj _).mono ?_;rintro e w2 ⟨C,hC,rfl,rfl⟩;have A:=aB (Rk w HI.out HB.out hC);generalize a4:w1.heap.size=bf at *;clear hC HI HB a4;go_wp2_with fail;generalize w1.alloc _=W3 at *;go_loopw [6] (λ v wr=>∃k:Nat,v=.int .i64 k/\k<=32/\Hid (∀j,j<k->ks ⟨op,rd,rs1,rs2,imm⟩ j=none)/\Hid (pg w bf [.int .i64 op,.int .i64 rd,.int .i64 rs1,.int .i64 rs2,.int .i64 imm] wr)) (λ v _=>32-(intOf v).toNat)
 case atStart=>exact ⟨0,rfl,by omega,aB (λ j hj=>by omega),A⟩
 case round=>
  clear A;obtain ⟨k,rfl,hk,H,A⟩:=hrel;by_cases u:k<32
  .have be:(k:Int)<32:=by omega
   have y0:wr.cell? ⟨bf,k*7,none⟩=some (.string ⟨(aQ k).half.toArray⟩):=A.out.f k u 0 _ rfl;have y1:wr.cell? ⟨bf,k*7+1,none⟩=some (.int .i64 (aQ k).op):=A.out.f k u 1 _ rfl;have y2:wr.cell? ⟨bf,k*7+2,none⟩=some (.string ⟨(aQ k).rd.toArray⟩):=A.out.f k u 2 _ rfl;have y3:wr.cell? ⟨bf,k*7+3,none⟩=some (.string ⟨(aQ k).rs1.toArray⟩):=A.out.f k u 3 _ rfl;have y4:wr.cell? ⟨bf,k*7+4,none⟩=some (.string ⟨(aQ k).rs2.toArray⟩):=A.out.f k u 4 _ rfl;have y5:wr.cell? ⟨bf,k*7+5,none⟩=some (.bool (aQ k).sgn):=A.out.f k u 5 _ rfl;have y6:wr.cell? ⟨bf,k*7+6,none⟩=some (.string ⟨(aQ k).cond.toArray⟩):=A.out.f k u 6 _ rfl;obtain ⟨z0,z1,z2,z3,z4⟩:=bF A.out.i.2.2;(have wk:IntKind.i64.wrap ((k:Int)+1)=(k:Int)+1:=zw _ (by omega));by_cases J:(aQ k).op=op
   .have Q:Hid (ks ⟨op,rd,rs1,rs2,imm⟩ k=if rC (kY k (dP (io ⟨(aQ k).half.toArray⟩ rd rs1 rs2 imm 16) 16)) ⟨op,rd,rs1,rs2,imm⟩=true then some (io ⟨(aQ k).half.toArray⟩ rd rs1 rs2 imm 16) else none):=aB (by unfold ks;rw[zt J])
    have P:=aB (HF.out k u);have a3:=uP ⟨(aQ k).half.toArray⟩ rd rs1 rs2 imm 16;(have ac:(2:Int)^16=65536:=by decide);rw[ac]at a3;generalize hh:io ⟨(aQ k).half.toArray⟩ rd rs1 rs2 imm 16=h at *;(have aa:=aB (λ w'=>DB h w' (by omega) (by omega)));(have R:=aB (λ w'=>EH k u h w'));generalize dP h 16=D at *;generalize kY k D=ST at *;rw[J]at y1 P R;clear hh ac;generalize (⟨(aQ k).half.toArray⟩:ByteArray)=g0 at *;generalize (⟨(aQ k).rd.toArray⟩:ByteArray)=g2 at *;generalize (⟨(aQ k).rs1.toArray⟩:ByteArray)=g3 at *;generalize (⟨(aQ k).rs2.toArray⟩:ByteArray)=g4 at *;generalize (aQ k).sgn=g5 at *;generalize (⟨(aQ k).cond.toArray⟩:ByteArray)=g6 at *;clear HF J;go_wp2_with fail;go_quiet (fail);generalize X:wr.drewN _=T;(have E:Hid (pg w bf [.int .i64 op,.int .i64 rd,.int .i64 rs1,.int .i64 rs2,.int .i64 imm] T):=aB (by rw[<-X];exact A.out.next (below_drewN aU _)));(have y:∀q v,wr.cell? ⟨bf,q,none⟩=some v->T.cell? ⟨bf,q,none⟩=some v:=λ q v hv=>by rw[<-X];exact ((below_drewN (Below.refl wr.heap.size wr) _).cell (p:=⟨bf,q,none⟩) A.out.lt).trans hv);have x0:=y _ _ y0;have x1:=y _ _ y1;have x2:=y _ _ y2;have x3:=y _ _ y3;have x4:=y _ _ y4;have x5:=y _ _ y5;have x6:=y _ _ y6;clear y y0 y1 y2 y3 y4 y5 y6 z0 z1 z2 z3 z4 X A;obtain ⟨z0,z1,z2,z3,z4⟩:=bF E.out.i.2.2;go_wp2_with fail;go_cut [7] from 61 to 61 (λ v wx=>v=.int .i64 h/\Hid (pg w bf [.int .i64 op,.int .i64 rd,.int .i64 rs1,.int .i64 rs2,.int .i64 imm] wx)/\Hid (∀q v,T.cell? ⟨bf,q,none⟩=some v->wx.cell? ⟨bf,q,none⟩=some v))
    case first=>
     go_region_with (first|(go_at_call 166;refine zK (P.out _) λ w5 V=>?_;have F:=aB ((E.out.next (aU.drew)).next V);have I:=aB (λ q v (hv:T.cell? ⟨bf,q,none⟩=some v)=>((V.cell (p:=⟨bf,q,none⟩) (E.out.next (aU.drew)).lt).trans (((Below.refl T.heap.size T).drew.cell (p:=⟨bf,q,none⟩) E.out.lt).trans hv)));clear V))
     all_goals
      go_wp2_with fail;go_meet;case rel=>exact ⟨rfl,F,I⟩
    case rest=>
     obtain ⟨rfl,F,I⟩:=hcut;go_wp2_with fail;refine zK (aa.out _) λ w6 W=>?_;have Y:=aB (F.out.next W);(have y:∀q v,T.cell? ⟨bf,q,none⟩=some v->w6.cell? ⟨bf,q,none⟩=some v:=λ q v hv=>(W.cell (p:=⟨bf,q,none⟩) F.out.lt).trans (I.out q v hv));have y0:=y _ _ x0;have y1:=y _ _ x1;have y2:=y _ _ x2;have y3:=y _ _ x3;have y4:=y _ _ x4;have y5:=y _ _ x5;have y6:=y _ _ x6;clear y x0 x1 x2 x3 x4 x5 x6 z0 z1 z2 z3 z4 W aa E F I P;go_wp2_with fail;refine zK (R.out _) λ w7 ae=>?_;have Z:=aB (Y.out.next ae);clear ae R Y y0 y1 y2 y3 y4 y5 y6
     cases ST with
     | none=>
      unfold lq aE.val;simp only;(have G:Hid (ks ⟨op,rd,rs1,rs2,imm⟩ k=none):=aB (by rw[Q.out];rfl));go_wp2;go_roundw
      case rel=>
       (refine ⟨k+1,by go_num,by omega,aB (λ j hj=>?_),aB (Z.out.next aJ)⟩);by_cases e:j=k
       .rw[e];exact G.out
       exact H.out j (by omega)
      case measure=>simp[intOf];omega
     | some x=>
      obtain ⟨aj,ak,L,M,K⟩:=x;unfold lq aE.val;simp only;go_upto_region 12 with fail;have HX:=aB (aF.new w7 [.int .i64 aj,.int .i64 ak,.int .i64 L,.int .i64 M,.int .i64 K] 26);have N:=aB (Z.out.next (aU.alloc zn (.cells #[.int .i64 aj,.int .i64 ak,.int .i64 L,.int .i64 M,.int .i64 K] 26)));generalize w7.alloc _=W8 at *;obtain ⟨z0,z1,z2,z3,z4⟩:=bF N.out.i.2.2;obtain ⟨x0,x1,x2,x3,x4⟩:=bF HX.out.2.2;go_wp2_with fail
      all_goals first
       | (have a1:Hid (eM ⟨op,rd,rs1,rs2,imm⟩=(h,0)):=aB (HH.out k h u H.out (by rw[Q.out,zt (by simp[rC,nX, *])]))
          have O:=aB N.out.b;go_ret2;exact ⟨by rw[a1.out];rfl,O.out⟩)
       | (have G:Hid (ks ⟨op,rd,rs1,rs2,imm⟩ k=none):=aB (by rw[Q.out,aC (by simp[rC,nX, *])])
          go_roundw
          case rel=>
           (refine ⟨k+1,by go_num,by omega,aB (λ j hj=>?_),N⟩);by_cases e:j=k
           .rw[e];exact G.out
           exact H.out j (by omega)
          case measure=>simp[intOf];omega)
   (have G:Hid (ks ⟨op,rd,rs1,rs2,imm⟩ k=none):=aB (by unfold ks;rw[aC J]));go_wp2_with fail;go_quiet (fail);go_wp2;go_roundw
   case rel=>
    (refine ⟨k+1,by go_num,by omega,aB (λ j hj=>?_),aB (A.out.next (below_drewN aU _))⟩);by_cases e:j=k
    .rw[e];exact G.out
    exact H.out j (by omega)
   case measure=>simp[intOf];omega
  have ag:k=32:=by omega
  subst ag;have a2:=aB (HN.out H.out);have O:=aB A.out.b;clear u hk;go_wp2;go_ret2;exact ⟨by rw[a2.out];rfl,O.out⟩
def Lm (i) (w) (q:right i=false):
    aG prog 96 #[i.val] w (.tuple #[.int .i64 (eM i).1,.int .i64 (eM i).2]):=by
 unfold aG;have h:=aB (lV i);rw[q]at h;have e:eM i=(0,1):=by unfold eM;rw[q,aC (by decide)]
 rw[e];obtain ⟨op,rd,rs1,rs2,imm⟩:=i;unfold aE.val at h ⊢;simp only at h;clear q e;go_in;go_wp2_with fail;refine zK (h.out _) λ v j=>?_;have u:=aB (((Below.refl _ w).alloc zn (.cells #[.int .i64 op,.int .i64 rd,.int .i64 rs1,.int .i64 rs2,.int .i64 imm] 26)).trans (j.mono (by simp)))
 clear j h;go_wp2;go_ret2;exact ⟨rfl,u.out⟩
def qu (i) (w):
    aG prog 96 #[i.val] w (.tuple #[.int .i64 (eM i).1,.int .i64 (eM i).2]):=by
 unfold aG
 cases hr:right i with
 | true=>exact NE i w hr
 | false=>exact Lm i w hr
def EQ (h:Int):∀(l m:List (Int×Int)) (a:Int),ko h (l++m) a=ko h m (ko h l a)
 | [],m,a=>rfl
 | x::l,m,a=>by simp only[List.cons_append,ko,tf];exact EQ h l m _
def DW (F:List UInt8) (h:Int):∀i,i<=16->il ⟨F.toArray⟩ (dP h 16) i=ko h (oS F i) 0
 | 0,_=>rfl
 | i+1,hi=>by
  have ih:=DW F h i (by omega)
  obtain ⟨d1,_,_⟩:=qZ h (show i<16 by omega)
  rw[il,oS,EQ,<-ih];unfold kC;rw[td,d1];by_cases j:65<=((F.getD i 0).toNat:Int)/\((F.getD i 0).toNat:Int)<=90
  .rw[zt (by rw[Bool.and_eq_true,decide_eq_true_eq,decide_eq_true_eq];exact j),zt j]
   simp only[ko,tf];have q:gR h (15-(i:Int))=aD h (15-i) (15-i):=(nM h _).symm;(have u:cB (((F.getD i 0).toNat:Int)-65)=kW (((F.getD i 0).toNat:Int)-65).toNat:=by unfold cB;exact oG _);rw[q,u,show 48+aD h (15-(i:Int)) (15-i)-48=aD h (15-i) (15-i) by omega,Int.mul_comm]
  rw[aC (by rw[Bool.and_eq_true,decide_eq_true_eq,decide_eq_true_eq];exact j),aC j]
  rfl
def P9 (F) (h) (sg):lM ⟨F.toArray⟩ (dP h 16) sg=wV sg (gA ⟨F.toArray⟩ 16) (ko h (oS F 16) 0):=by
 unfold lM wV bG;rw[DW F h 16 zn,<-oG,<-oG];rfl
def Sq {p:Nat} (h:k.testBit p=true):(n &&& k)/2^p%2=n/2^p%2:=by
 have e:=Nat.testBit_and n k p;rw[h,Bool.and_true,Nat.testBit_eq_decide_div_mod_eq,Nat.testBit_eq_decide_div_mod_eq,decide_eq_decide]at e;omega
def Ow {p:Nat} (h:k.testBit p=false):(n &&& k)/2^p%2=0:=by
 have e:=Nat.testBit_and n k p;rw[h,Bool.and_false,Nat.testBit_eq_decide_div_mod_eq,decide_eq_false_iff_not]at e;omega
def FO (n p:Nat):gR (n:Int) (p:Int)=((n/2^p%2:Nat):Int):=by
 unfold gR kW;rw[Int.toNat_natCast];omega
def yJ (j:0<=p) (h:k.testBit p.toNat=true):gR ((n &&& k:Nat):Int) p=gR (n:Int) p:=by
 obtain ⟨q,rfl⟩:=zi j;rw[FO,FO,Sq (by simpa using h)]
def Ez (sg:Bool) (q p:List Int) {n m:Int} (h:∀x∈p,gR n x=gR m x):∀j,j<=p.length->kG sg q p n j=kG sg q p m j
 | 0,_=>rfl
 | j+1,hj=>by
  have u:p.getD j 0∈p:=by
   (rw[zG,zg (show j<p.length by omega)]);exact List.getElem_mem _
  simp only[kG,Ez sg q p h j (by omega),h _ u]
def Dh {n m:Int}:∀(U:List (Int×Int)) (a:Int),(∀x∈U,gR n x.2=gR m x.2)->ko n U a=ko m U a
 | [],_,_=>rfl
 | x::l,a,h=>by
  simp only[ko,tf,h x (by simp)]
  exact Dh l _ (λ y hy=>h y (by simp[hy]))
def U7 {sg v:Bool} {U:List (Int×Int)} (h:bC (eL sg v pi q U M) pat 0=true) (A:pat.length=16) (F:∀j,j<16->pat.getD j 0≠49/\(pat.getD j 0=48->mk.testBit (15-j)=false)) (u:∀p∈pi,0<=p/\mk.testBit p.toNat=true) (w:∀x∈U,0<=x.2/\mk.testBit x.2.toNat=true) (n:Nat) (G:n<65536):wV v M (ko n U 0)=kG sg q pi n pi.length/\∀x∈U,gR (kG sg q pi n pi.length) x.1=gR n x.2:=by
 have E:(n &&& mk)<65536:=Nat.lt_of_le_of_lt Nat.and_le_left G
 have ok:=py _ pat 0 (n &&& mk) h (by rw[A];omega) (λ j y=>by
  rw[A]at y ⊢;obtain ⟨C,D⟩:=F j y;exact ⟨λ e=>Ow (D e),λ e=>absurd e C⟩)
 unfold eL at ok;rw[tf,Bool.and_eq_true,decide_eq_true_eq,List.all_eq_true]at ok;have c1:kG sg q pi ((n &&& mk:Nat):Int) pi.length=kG sg q pi n pi.length:=Ez sg q pi (λ x hx=>yJ (u x hx).1 (u x hx).2) _ zn
 have c2:ko ((n &&& mk:Nat):Int) U 0=ko n U 0:=Dh U 0 (λ x hx=>yJ (w x hx).1 (w x hx).2)
 rw[c1,c2]at ok;refine ⟨ok.1,λ x hx=>?_⟩
 have:=ok.2 x hx;rw[decide_eq_true_eq,yJ (w x hx).1 (w x hx).2]at this;exact this
def Br (k:Nat):Prop:=∀n:Nat,n<65536->lM ⟨(aQ k).half.toArray⟩ (dP n 16) (aQ k).sgn=nc (fm k) n/\∀x∈oS (aQ k).half 16,gR (nc (fm k) n) x.1=gR n x.2
def fA {sg u:Bool} {U:List (Int×Int)} (h:bC (eL sg u pi q U M) pat 0=true) (J:pat.length=16) (w:(fm k).signed=sg) (y:(aQ k).sgn=u) (A:places (fm k).half 105=pi) (G:(∀j,j<16->pat.getD j 0≠49/\(pat.getD j 0=48->mk.testBit (15-j)=false))/\(∀p∈pi,0<=p/\mk.testBit p.toNat=true)/\(∀x∈U,0<=x.2/\mk.testBit x.2.toNat=true)/\(∀j,j<pi.length->im (fm k).order j=q.getD j 0)/\oS (aQ k).half 16=U/\gA ⟨(aQ k).half.toArray⟩ 16=M):Br k:=by
 obtain ⟨H,v,F,K,C,D⟩:=G;intro n I;have E:=U7 h J H v F n I;subst w y A C D;have e:nc (fm k) n=kG (fm k).signed q (places (fm k).half 105) n (places (fm k).half 105).length:=Ha _ _ _ _ _ K;rw[P9,e];exact E
def Ft:∀k,k<32->Br k
 | 0,_=>fA (mk:=8160) Wr rfl rfl rfl rfl (by decide +kernel)
 | 1,_=>fA (mk:=7264) Wk rfl rfl rfl rfl (by decide +kernel)
 | 2,_=>fA (mk:=7264) Vt rfl rfl rfl rfl (by decide +kernel)
 | 3,_=>fA (mk:=7264) Wz rfl rfl rfl rfl (by decide +kernel)
 | 4,_=>fA (mk:=7264) WG rfl rfl rfl rfl (by decide +kernel)
 | 5,_=>fA (mk:=4220) Vs rfl rfl rfl rfl (by decide +kernel)
 | 6,_=>fA (mk:=4220) Xh rfl rfl rfl rfl (by decide +kernel)
 | 7,_=>fA (mk:=4220) Wl rfl rfl rfl rfl (by decide +kernel)
 | 8,_=>fA (mk:=4220) VS rfl rfl rfl rfl (by decide +kernel)
 | 9,_=>fA (mk:=4220) Vh rfl rfl rfl rfl (by decide +kernel)
 | 10,_=>fA (mk:=4220) UJ rfl rfl rfl rfl (by decide +kernel)
 | 11,_=>fA (mk:=4220) U8 rfl rfl rfl rfl (by decide +kernel)
 | 12,_=>fA (mk:=4220) TO rfl rfl rfl rfl (by decide +kernel)
 | 13,_=>fA (mk:=0) U9 rfl rfl rfl rfl (by decide +kernel)
 | 14,_=>fA (mk:=0) Ui rfl rfl rfl rfl (by decide +kernel)
 | 15,_=>fA (mk:=0) VE rfl rfl rfl rfl (by decide +kernel)
 | 16,_=>fA (mk:=0) TK rfl rfl rfl rfl (by decide +kernel)
 | 17,_=>fA (mk:=0) VB rfl rfl rfl rfl (by decide +kernel)
 | 18,_=>fA (mk:=0) VQ rfl rfl rfl rfl (by decide +kernel)
 | 19,_=>fA (mk:=8188) V7 rfl rfl rfl rfl (by decide +kernel)
 | 20,_=>fA (mk:=7292) VH rfl rfl rfl rfl (by decide +kernel)
 | 21,_=>fA (mk:=7292) Ua rfl rfl rfl rfl (by decide +kernel)
 | 22,_=>fA (mk:=4220) VM rfl rfl rfl rfl (by decide +kernel)
 | 23,_=>fA (mk:=4220) UP rfl rfl rfl rfl (by decide +kernel)
 | 24,_=>fA (mk:=4220) VK rfl rfl rfl rfl (by decide +kernel)
 | 25,_=>fA (mk:=0) TD rfl rfl rfl rfl (by decide +kernel)
 | 26,_=>fA (mk:=0) UM rfl rfl rfl rfl (by decide +kernel)
 | 27,_=>fA (mk:=0) UV rfl rfl rfl rfl (by decide +kernel)
 | 28,_=>fA (mk:=0) VD rfl rfl rfl rfl (by decide +kernel)
 | 29,_=>fA (mk:=0) UY rfl rfl rfl rfl (by decide +kernel)
 | 30,_=>fA (mk:=8064) UR rfl rfl rfl rfl (by decide +kernel)
 | 31,_=>fA (mk:=8064) UX rfl rfl rfl rfl (by decide +kernel)
 | k+32,h=>by omega
def o4 (s:List UInt8) (c:Int):Bool:=(s==[45]&&c==0)||(s==[48]&&c==0)||(s==[49]&&c==1)||(s==[50]&&c==2)||(s==[100]&&c==100)||(s==[115]&&c==115)||(s==[116]&&c==116)
def tD (c:List UInt8) (h:Nat) (rd rs1 rs2:List UInt8):Bool:=(c==[]&&h==0)||(c==[100]&&(h==1&&rd==[100]))||(c==[115]&&(h==2&&rs1==[115]))||(c==[105]&&h==3)||(c==[100,116]&&(h==4&&(rd==[100]&&rs2==[116])))
 || (c==[100,105]&&(h==5&&rd==[100]))||(c==[98,111,116,104]&&(h==6&&rd==[100]))||(c==[100,50,105]&&(h==7&&rd==[100]))
def Bf (F rd rs1 rs2:List UInt8):Bool:=(List.range 16).all λ j=>(F.getD j 0==48)||(F.getD j 0==49)||(F.getD j 0==100&&rd==[100])||(F.getD j 0==115&&rs1==[115])||(F.getD j 0==116&&rs2==[116])||(decide (65<=(F.getD j 0).toNat)&&decide ((F.getD j 0).toNat<=90))
structure I9 (k:Nat):Prop where
 dig:Bd (aQ k).half (fm k).half=true
 ld:oP (aQ k).half (fm k).half 100=true
 ls:oP (aQ k).half (fm k).half 115=true
 lt:oP (aQ k).half (fm k).half 116=true
 cd:aR ⟨(aQ k).half.toArray⟩ 100 16=(places (fm k).half 100).length
 cs:aR ⟨(aQ k).half.toArray⟩ 115 16=(places (fm k).half 115).length
 ct:aR ⟨(aQ k).half.toArray⟩ 116 16=(places (fm k).half 116).length
 op:(aQ k).op=(fm k).op
 rd:o4 (aQ k).rd (fm k).rd=true
 rs1:o4 (aQ k).rs1 (fm k).rs1=true
 rs2:o4 (aQ k).rs2 (fm k).rs2=true
 co:tD (aQ k).cond (fm k).hold (aQ k).rd (aQ k).rs1 (aQ k).rs2=true
 ch:Bf (aQ k).half (aQ k).rd (aQ k).rs1 (aQ k).rs2=true
def As (k) (h:k<32):I9 k:=by
 have t1:∀k,k<32->Bd (aQ k).half (fm k).half=true:=by decide +kernel
 have t2:∀k,k<32->oP (aQ k).half (fm k).half 100=true:=by decide +kernel
 have t3:∀k,k<32->oP (aQ k).half (fm k).half 115=true:=by decide +kernel
 have t4:∀k,k<32->oP (aQ k).half (fm k).half 116=true:=by decide +kernel
 have t5:∀k,k<32->aR ⟨(aQ k).half.toArray⟩ 100 16=(places (fm k).half 100).length:=by decide +kernel
 have t6:∀k,k<32->aR ⟨(aQ k).half.toArray⟩ 115 16=(places (fm k).half 115).length:=by decide +kernel
 have t7:∀k,k<32->aR ⟨(aQ k).half.toArray⟩ 116 16=(places (fm k).half 116).length:=by decide +kernel
 have t8:∀k,k<32->(aQ k).op=(fm k).op:=by decide +kernel
 have t9:∀k,k<32->o4 (aQ k).rd (fm k).rd=true:=by decide +kernel
 have j:∀k,k<32->o4 (aQ k).rs1 (fm k).rs1=true:=by decide +kernel
 have q:∀k,k<32->o4 (aQ k).rs2 (fm k).rs2=true:=by decide +kernel
 have u:∀k,k<32->tD (aQ k).cond (fm k).hold (aQ k).rd (aQ k).rs1 (aQ k).rs2=true:=by decide +kernel
 have v:∀k,k<32->Bf (aQ k).half (aQ k).rd (aQ k).rs1 (aQ k).rs2=true:=by decide +kernel
 exact ⟨t1 k h,t2 k h,t3 k h,t4 k h,t5 k h,t6 k h,t7 k h,t8 k h,t9 k h,j k h,q k h,u k h,v k h⟩
def pz (l):(⟨l.toArray⟩:ByteArray).toList=l:=by rw[ByteArray.toList_eq]
def zX {c:Nat} (hF:F.length=16) (v:half.length=16) (w:oP F half c=true) (u:aR ⟨F.toArray⟩ c 16=(places half c).length) (q:31<c) (h):
    dV ⟨F.toArray⟩ (dP h 16) c=jl half c h:=by
 have j:(⟨F.toArray⟩:ByteArray).size=16:=by show F.toArray.size=16;simpa using hF
 unfold dV jl;rw[j,u,HU w h 16 zn,aC (show ¬(c:Int)<=31 by omega)]
 unfold places;rw[v]
 split
 .rw[zt (by omega)]
 rw[aC (by omega)];omega
def Qr {c:Int} (h:o4 s c=true):(s=[45]/\c=0)\/(s=[48]/\c=0)\/(s=[49]/\c=1)\/(s=[50]/\c=2)\/(s=[100]/\c=100)\/(s=[115]/\c=115)\/(s=[116]/\c=116):=by
 simpa[o4,or_assoc] using h
def qy (T:I9 k) (hF:(aQ k).half.length=16) (j:(fm k).half.length=16) {c:Int} (q:o4 s c=true) (h):
    ii ⟨(aQ k).half.toArray⟩ (dP h 16) ⟨s.toArray⟩=jl (fm k).half c h:=by
 unfold ii;rw[pz];rcases Qr q with ⟨rfl,rfl⟩|⟨rfl,rfl⟩|⟨rfl,rfl⟩|⟨rfl,rfl⟩|⟨rfl,rfl⟩|⟨rfl,rfl⟩|⟨rfl,rfl⟩
 .rfl
 .rfl
 .rfl
 .rfl
 .exact zX hF j T.ld T.cd (by omega) h
 .exact zX hF j T.ls T.cs (by omega) h
 exact zX hF j T.lt T.ct (by omega) h
def Q9 {h:Nat} {rd:List UInt8} (j:tD c h rd rs1 rs2=true):(c=[]/\h=0)\/(c=[100]/\h=1/\rd=[100])\/(c=[115]/\h=2/\rs1=[115])\/(c=[105]/\h=3)\/(c=[100,116]/\h=4/\rd=[100]/\rs2=[116])
    \/(c=[100,105]/\h=5/\rd=[100])\/(c=[98,111,116,104]/\h=6/\rd=[100])\/(c=[100,50,105]/\h=7/\rd=[100]):=by
 simpa[tD,or_assoc] using j
def qj (F H) {c:UInt8} (h:c≠45) (j:c≠48) (q:c≠49) (u:c≠50):ii F H ⟨#[c]⟩=dV F H c.toNat:=by
 unfold ii;rw[pz];simp[h,j,q,u,B]
def OH {rd:List UInt8} {h:Nat} {op i:Int} (v:tD c h rd rs1 rs2=true) (F H:ByteArray):
    kj (dV F H 100) (dV F H 115) (dV F H 116) i ⟨c.toArray⟩=fH h ⟨op,ii F H ⟨rd.toArray⟩,ii F H ⟨rs1.toArray⟩,ii F H ⟨rs2.toArray⟩,i⟩:=by
 have j:ii F H ⟨[100].toArray⟩=dV F H 100:=qj F H (by decide) (by decide) (by decide) (by decide)
 have q:ii F H ⟨[115].toArray⟩=dV F H 115:=qj F H (by decide) (by decide) (by decide) (by decide)
 have u:ii F H ⟨[116].toArray⟩=dV F H 116:=qj F H (by decide) (by decide) (by decide) (by decide)
 unfold kj;rw[pz];rcases Q9 v with ⟨rfl,rfl⟩|⟨rfl,rfl,rfl⟩|⟨rfl,rfl,rfl⟩|⟨rfl,rfl⟩|⟨rfl,rfl,rfl,rfl⟩|⟨rfl,rfl,rfl⟩|⟨rfl,rfl,rfl⟩|⟨rfl,rfl,rfl⟩
 .rfl
 .rw[j];rfl
 .rw[q];rfl
 .rfl
 .rw[j,u];rfl
 .rw[j];rfl
 .rw[j];rfl
 rw[j];simp only[fH];show (dV F H 100 != 0&&dV F H 100 != 2&&i != 0)=(dV F H 100 != 0&&i != 0&&dV F H 100 != 2);cases dV F H 100 != 0<;>cases dV F H 100 != 2<;>cases i != 0<;>rfl
def Iv:∀k,k<32->(aQ k).half.length=16:=λ k h=>(AD k h).1
def Ae (q:k<32) (u:n<65536):kY k (dP n 16)=if (fW (fm k) n).2=true then some (fW (fm k) n).1 else none:=by
 have T:=As k q;have hF:=Iv k q;have j:=oH k q;obtain ⟨hi,_⟩:=Ft k q n u;unfold kY pG;rw[Hl j T.dig];unfold fW;by_cases h:hZ (fm k).half n=true
 .rw[zt h,zt h]
  have e:sr ⟨(aQ k).half.toArray⟩ (dP n 16) ⟨(aQ k).rd.toArray⟩ ⟨(aQ k).rs1.toArray⟩ ⟨(aQ k).rs2.toArray⟩ (aQ k).op (aQ k).sgn=gS (fm k) n:=by
   unfold sr gS;rw[qy T hF j T.rd,qy T hF j T.rs1,qy T hF j T.rs2,T.op,hi]
  rw[OH (op:=(aQ k).op) T.co ⟨(aQ k).half.toArray⟩ (dP n 16)];unfold sr at e ⊢;rw[e]
 rw[aC h,aC h];rfl
def vr (h):iN h=cE h:=by
 unfold iN cE;by_cases q:h<0\/65535<h
 .rw[zt q,zt q]
 rw[aC q,aC q];obtain ⟨n,rfl⟩:=zi (show 0<=h by omega)
 have w:n<65536:=by omega
 have v:∀k∈List.range 32,k<32:=λ k u=>by simpa using u
 generalize List.range 32=l at v ⊢
 induction l with
 | nil=>rfl
 | cons a l ih=>
  rw[List.findSome?_cons,List.find?_cons,Ae (v a (by simp)) w]
  by_cases j:(fW (fm a) n).2=true
  .rw[zt j]
   have:iE n a=true:=j;rw[this]
  rw[aC j];have:iE n a=false:=by simpa[iE] using j
  rw[this];exact ih (λ k u=>v k (by simp[u]))
def uT (n p):aD n p p=n/2^p.toNat%2:=by
 have:=nM n p;unfold bt gR at this;rw[this,oG]
def Th {d:Int} (j) (d0:0<=d) (d1:d<=1):(2*x+d)/2^(j+1)=x/2^j:=by
 rw[Int.pow_succ,Int.mul_comm (2^j) 2,<-Int.ediv_ediv_of_nonneg (by omega),show (2*x+d)/2=x by omega]
def Gr {F H:ByteArray} {c:Int} {i:Nat} (u:((B F i).toNat:Int)=c) (v:rp H):∀m,i<m->m<=16->
    0<=aR F c m-aR F c (i+1)/\aD (fI F H c m) (aR F c m-aR F c (i+1)) (aR F c m-aR F c (i+1))=(B H i).toNat-48
 | 0,h,_=>by omega
 | m+1,h,h16=>by
  have A:=v m (by omega)
  by_cases e:i=m
  .subst e
   rw[Int.sub_self];(refine ⟨by omega,?_⟩);rw[uT,fI,zt u];simp;omega
  obtain ⟨y,ih⟩:=Gr u v m (by omega) (by omega)
  by_cases j:((B F m).toNat:Int)=c
  .have q:aR F c (m+1)=aR F c m+1:=by rw[aR,zt j]
   rw[fI,zt j,q];(refine ⟨by omega,?_⟩);(have w:(aR F c m+1-aR F c (i+1)).toNat=(aR F c m-aR F c (i+1)).toNat+1:=by omega);rw[<-ih,uT,uT,w,show 2*fI F H c m+((B H m).toNat:Int)-48=2*fI F H c m+(((B H m).toNat:Int)-48) by omega,Th _ (by omega) (by omega)]
  have q:aR F c (m+1)=aR F c m:=by rw[aR,aC j];omega
  rw[fI,aC j,q];exact ⟨y,ih⟩
def zx {c:Nat} {i:Nat} (hF:F.length=16) (hi:i<16) (C:(F.getD i 0).toNat=c):
    aD (dV ⟨F.toArray⟩ (dP h 16) c) (aR ⟨F.toArray⟩ c 16-aR ⟨F.toArray⟩ c (i+1)) (aR ⟨F.toArray⟩ c 16-aR ⟨F.toArray⟩ c (i+1))=aD h (15-i) (15-i):=by
 have u:((B ⟨F.toArray⟩ i).toNat:Int)=c:=by rw[td,C]
 obtain ⟨d1,_,_⟩:=qZ h hi;have v:(⟨F.toArray⟩:ByteArray).size=16:=by show F.toArray.size=16;simpa using hF
 obtain ⟨A,q⟩:=Gr u (IH h) 16 hi zn;have w:aR ⟨F.toArray⟩ c (i+1)=aR ⟨F.toArray⟩ c i+1:=by rw[aR,zt u]
 have y:=(mh ⟨F.toArray⟩ c i).1;unfold dV;rw[v];rw[d1]at q
 split
 .rename_i h3
  have D:0<=aR ⟨F.toArray⟩ c 16-aR ⟨F.toArray⟩ c (i+1)/\aR ⟨F.toArray⟩ c 16-aR ⟨F.toArray⟩ c (i+1)<=2:=by omega
  clear A w y h3;generalize aR ⟨F.toArray⟩ c 16-aR ⟨F.toArray⟩ c (i+1)=j at *;generalize fI ⟨F.toArray⟩ (dP h 16) c 16=x at *;rw[uT]at q ⊢;rcases (show j=0\/j=1\/j=2 by omega) with rfl|rfl|rfl
  .simp at q ⊢;omega
  .simp at q ⊢;omega
  simp at q ⊢;omega
 omega
def FK (F:List UInt8):∀(m i:Nat),i<m->65<=(F.getD i 0).toNat->(F.getD i 0).toNat<=90->(((F.getD i 0).toNat:Int)-65,15-(i:Int))∈oS F m
 | 0,i,h,_,_=>by omega
 | m+1,i,h,h1,h2=>by
  rw[oS,List.mem_append];by_cases e:i=m
  .subst e
   (rw[zt (by omega)]);simp
  exact Or.inl (FK F m i (by omega) h1 h2)
def pR (n:Int):Nat->Int
 | 0=>0
 | k+1=>2*pR n k+aD n (15-k) (15-k)
def F6 (n:Nat) (h:n<65536):∀k,k<=16->pR n k=((n/2^(16-k):Nat):Int)
 | 0,_=>by rw[pR,Nat.div_eq_of_lt (by simpa using h)];rfl
 | k+1,hk=>by
  have ih:=F6 n h k (by omega)
  have e:16-k=(16-(k+1))+1:=by omega
  rw[pR,ih,Ai n k (by omega),e,Nat.pow_succ,<-Nat.div_div_eq_div_mul,show 15-k=16-(k+1) by omega]
  omega
def Ox (h:n<65536):pR n 16=n:=by
 rw[F6 n h 16 zn];simp
def Mr (C:k<32) (G:n<65536) (H:hZ (fm k).half n=true) {i:aE} (hi:gS (fm k) n=i):io ⟨(aQ k).half.toArray⟩ i.rd i.rs1 i.rs2 i.imm 16=n:=by
 have T:=As k C;have hF:=Iv k C;have A:=oH k C;obtain ⟨I,E⟩:=Ft k C n G;have y:kS ⟨(aQ k).half.toArray⟩ (dP n 16) 16=true:=by rw[Hl A T.dig];exact H
 rw[yM,List.all_eq_true]at y;have u:=T.ch;unfold Bf at u;rw[List.all_eq_true]at u
 have F:∀j,j<16->oO ⟨(aQ k).half.toArray⟩ i.rd i.rs1 i.rs2 i.imm j=aD n (15-j) (15-j):=λ j v=>by
  obtain ⟨d1,d2,d3⟩:=qZ (n:Int) v;have w:=u j (List.mem_range.2 v);have h:=y j (List.mem_range.2 v);unfold eK at h;unfold oO;rw[td]at h ⊢;rw[d1]at h;simp only[Bool.or_eq_true,Bool.and_eq_true,beq_iff_eq,decide_eq_true_eq,or_assoc]at w;rcases w with q|q|⟨q,r⟩|⟨q,r⟩|⟨q,r⟩|⟨q,r⟩
  .rw[q]at h ⊢
   simp at h ⊢;omega
  .rw[q]at h ⊢
   simp at h ⊢;omega
  .have e:i.rd=dV ⟨(aQ k).half.toArray⟩ (dP n 16) 100:=by
    rw[<-hi];show jl (fm k).half (fm k).rd n=_;rw[<-qy T hF A T.rd,r];exact qj _ _ (by decide) (by decide) (by decide) (by decide)
   rw[q,e];exact zx (c:=100) hF v (by rw[q];rfl)
  .have e:i.rs1=dV ⟨(aQ k).half.toArray⟩ (dP n 16) 115:=by
    rw[<-hi];show jl (fm k).half (fm k).rs1 n=_;rw[<-qy T hF A T.rs1,r];exact qj _ _ (by decide) (by decide) (by decide) (by decide)
   rw[q,e];exact zx (c:=115) hF v (by rw[q];rfl)
  .have e:i.rs2=dV ⟨(aQ k).half.toArray⟩ (dP n 16) 116:=by
    rw[<-hi];show jl (fm k).half (fm k).rs2 n=_;rw[<-qy T hF A T.rs2,r];exact qj _ _ (by decide) (by decide) (by decide) (by decide)
   rw[q,e];exact zx (c:=116) hF v (by rw[q];rfl)
  have e:i.imm=nc (fm k) n:=by rw[<-hi];rfl
  rw[aC (by omega),aC (by omega),aC (by omega),aC (by omega),zt (by omega),e]
  have:=E _ (FK (aQ k).half 16 j v q r);rw[<-nM,<-nM]at this;exact this
 have D:∀m,m<=16->io ⟨(aQ k).half.toArray⟩ i.rd i.rs1 i.rs2 i.imm m=pR n m:=λ m=>by
  induction m with
  | zero=>intro _;rfl
  | succ m ih=>intro J;rw[io,pR,ih (by omega),F m (by omega)]
 rw[D 16 zn,Ox G]
def Oq (i):nX i i=true:=by simp[nX]
def VC {a b:aE} (h:nX a b=true):a=b:=by
 obtain ⟨j,q,u,v,w⟩:=a;obtain ⟨y,A,C,D,E⟩:=b;simp[nX]at h;obtain ⟨rfl,rfl,rfl,rfl,rfl⟩:=h;rfl
def Va (v:k<32) (i):ks i k=if jU i k=true then some (jR (fm k) i) else none:=by
 have T:=As k v;by_cases w:jU i k=true
 .rw[zt w]
  unfold jU at w;simp only[Bool.and_eq_true,beq_iff_eq]at w;obtain ⟨H,h,q⟩:=w;have q:=GB q;have u:=yw v i;obtain ⟨n,D⟩:=zi u.1;rw[D]at h q u ⊢;obtain ⟨C,J,F⟩:=oy (n:=n) (k:=k) h;have I:gS (fm k) n=i:=by rw[F]at q;exact q
  have j:=Mr v (by omega) C I
  unfold ks;rw[zt (by rw[T.op];exact H),j,Ae v (by omega),zt h,q]
  rw[zt (show rC (some i) i=true from Oq i)]
 rw[aC w];unfold ks;by_cases E:(aQ k).op=i.op
 .rw[zt E]
  have u:=uP ⟨(aQ k).half.toArray⟩ i.rd i.rs1 i.rs2 i.imm 16;obtain ⟨n,D⟩:=zi u.1;rw[D]at u ⊢;have y:n<65536:=by have:=u.2;simp at this;omega
  rw[Ae v y];by_cases h:(fW (fm k) n).2=true
  .rw[zt h]
   by_cases G:nX (fW (fm k) n).1 i=true
   .exfalso
    apply w;have e:=VC G;obtain ⟨C,J,F⟩:=oy (n:=n) (k:=k) h;have ok:=H2 v y C;unfold dN at ok;rw[Bool.and_eq_true,decide_eq_true_eq]at ok;(have K:jR (fm k) i=n:=by rw[F]at e;rw[<-e];exact ok.1);unfold jU;rw[K,h,e,Di,<-T.op,E];simp
   (have A:nX (fW (fm k) n).1 i=false:=by simpa using G);simp[rC,A]
  rw[aC h];rfl
 rw[aC E]
def li (i):eM i=bQ i:=by
 unfold eM bQ;by_cases j:right i=true
 .rw[zt j,zt j]
  have u:∀k∈List.range 32,k<32:=λ k q=>by simpa using q
  generalize List.range 32=l at u ⊢
  induction l with
  | nil=>rfl
  | cons a l ih=>
   (rw[List.findSome?_cons,List.find?_cons,Va (u a (by simp))]);by_cases h:jU i a=true
   .rw[zt h,h]
   rw[aC h,Bool.eq_false_iff.2 h];exact ih (λ k q=>u k (by simp[q]))
 rw[aC j,aC j]
def bV (l:List UInt8) (k:Nat):aE×Int:=
 if l.length<k+2 then (⟨0,0,0,0,0⟩,0)
 else if ¬aP ((l.drop k).take 2)%4=3 then (if (iN (aP ((l.drop k).take 2))).2=0 then ((iN (aP ((l.drop k).take 2))).1,2) else (⟨0,0,0,0,0⟩,0))
 else if l.length<k+4 then (⟨0,0,0,0,0⟩,0)
 else if (bW (aP ((l.drop k).take 4))).2=0 then ((bW (aP ((l.drop k).take 4))).1,4) else (⟨0,0,0,0,0⟩,0)
def ro (h:l.length<=4):0<=aP l/\aP l<4294967296:=by
 have u:=kM l;have j:(2:Int)^(8*l.length)<=2^32:=gU (by omega)
 have q:(2:Int)^32=4294967296:=by decide
 omega
def ub (s) (w) (H:s.size<=4):
    zS prog 174 #[.string s] w (.int .i64 (aP s.data.toList)):=by
 unfold zS;have E:s.data.toList.length=s.size:=(Lib.size_eq s).symm;go_in;go_wp2_with fail;go_loop [3,4] (λ n i=>∃j:Nat,j<=s.size/\i=.int .i64 ((j:Int)-1)/\n=.int .i64 (aP (s.data.toList.drop j))) (λ _ i=>(intOf i+1).toNat)
 case atStart=>exact ⟨s.size,zn,by go_num,by rw[List.drop_eq_nil_of_le (by omega)];rfl⟩
 case round=>
  obtain ⟨j,G,rfl,rfl⟩:=hrel;by_cases v:j=0
  .subst v
   go_wp2;go_ret;exact ⟨rfl,rfl⟩
  obtain ⟨m,rfl⟩:∃m,j=m+1:=⟨j-1,by omega⟩
  have C:((m+1:Nat):Int)-1=(m:Int):=by omega
  have y:=ro (l:=s.data.toList.drop (m+1)) (by rw[List.length_drop];omega)
  have u:=ro (l:=s.data.toList.drop m) (by rw[List.length_drop];omega)
  have h:aP (s.data.toList.drop m)=256*aP (s.data.toList.drop (m+1))+((s[m]'(by omega)).toNat:Int):=by
   (have A:m<s.data.toList.length:=by omega);rw[List.drop_eq_getElem_cons A,aP];(have e:s.data.toList[m]=s[m]'(by omega):=by simp[ByteArray.getElem_eq_getElem_data]);rw[e];omega
  rw[C];have D:(m:Int)<s.size:=by omega
  have q:=aB h;have F:((s[m]'(by omega)).toNat:Int)<256:=by have:=(s[m]'(by omega)).toNat_lt;omega
  clear h;generalize aP (s.data.toList.drop (m+1))=N at *;go_wp2_with fail;exact ⟨⟨m,by omega,rfl,by rw[q.out]⟩,by simp[intOf]⟩
def ui (s:ByteArray) (a b:Nat):(s.extract a b).data.toList=(s.data.toList.drop a).take (b-a):=by
 simp[List.take_drop,List.extract_eq_take_drop]
def ul (s:ByteArray) (a b:Nat) (h:b<=s.size):(s.extract a b).size=b-a:=by
 rw[ByteArray.size_extract];omega
def GD (s:ByteArray) (k:Nat) (w:World) (hs:s.size<=2000000) (hk:k<=s.size):
    aG prog 173 #[.string s,.int .i64 k] w (.tuple #[(bV s.data.toList k).1.val,.int .i64 (bV s.data.toList k).2]):=by
 unfold aG;have ah:s.data.toList.length=s.size:=(Lib.size_eq s).symm;by_cases h2:s.size<k+2
 .have e:bV s.data.toList k=(⟨0,0,0,0,0⟩,0):=by unfold bV;rw[zt (by omega)]
  rw[e];have aa:(s.size:Int)<(k:Int)+2:=by omega
  clear e;go_in;go_wp2;refine zp (v:=.tuple #[(aE.mk 0 0 0 0 0).val,.int .i64 0]) (by simp[results,results173,go_sem,aE.val]) rfl ⟨rfl,?_⟩
  exact aJ
 have aa:¬(s.size:Int)<(k:Int)+2:=by omega
 have aj:(k:Int)+2<=s.size:=by omega
 have H:=aB (λ w'=>ub (s.extract k (k+2)) w' (by rw[ul s k (k+2) (by omega)];omega))
 rw[ui,show k+2-k=2 by omega]at H
 have h:Hid (bV s.data.toList k=if ¬aP ((s.data.toList.drop k).take 2)%4=3 then (if (iN (aP ((s.data.toList.drop k).take 2))).2=0 then ((iN (aP ((s.data.toList.drop k).take 2))).1,2) else (⟨0,0,0,0,0⟩,0)) else if s.data.toList.length<k+4 then (⟨0,0,0,0,0⟩,0) else if (bW (aP ((s.data.toList.drop k).take 4))).2=0 then ((bW (aP ((s.data.toList.drop k).take 4))).1,4) else (⟨0,0,0,0,0⟩,0)):=aB (by unfold bV;rw[aC (by omega)])
 have ac:=ro (l:=(s.data.toList.drop k).take 2) (by rw[List.length_take];omega)
 have K:IntKind.i64.wrap ((k:Int)+2)=(k:Int)+2:=zw _ (by omega)
 generalize aP ((s.data.toList.drop k).take 2)=X at *;have ai:X.tmod 4=X%4:=Int.tmod_eq_emod_of_nonneg ac.1;by_cases h3:X%4=3
 .replace h:=aB (h.out.trans (aC (λ q=>q h3)))
  by_cases h4:s.size<k+4
  .replace h:=aB (h.out.trans (zt (by omega)))
   (have ab:(s.size:Int)<(k:Int)+4:=by omega);(have w4:IntKind.i64.wrap ((k:Int)+4)=(k:Int)+4:=zw _ (by omega));go_in;go_wp2_with fail;refine (H.out _).mono ?_;rintro e w1 ⟨rfl,rfl⟩;go_wp2;(refine zp (v:=.tuple #[(aE.mk 0 0 0 0 0).val,.int .i64 0]) (by simp[results,results173,go_sem,aE.val]) rfl ⟨by rw[h.out],?_⟩);exact aJ
  replace h:=aB (h.out.trans (aC (by omega)))
  have ab:¬(s.size:Int)<(k:Int)+4:=by omega
  have ak:(k:Int)+4<=s.size:=by omega
  have w4:IntKind.i64.wrap ((k:Int)+4)=(k:Int)+4:=zw _ (by omega)
  have L:=aB (λ w'=>ub (s.extract k (k+4)) w' (by rw[ul s k (k+4) (by omega)];omega))
  rw[ui,show k+4-k=4 by omega]at L
  have N:=ro (l:=(s.data.toList.drop k).take 4) (by rw[List.length_take];omega)
  generalize aP ((s.data.toList.drop k).take 4)=Y at *;have I:=aB (λ w'=>BQ Y w' N.1 N.2)
  generalize bW Y=V at *;obtain ⟨⟨A,C,u,y,j⟩,Z⟩:=V;unfold aE.val at I;simp only at I h;go_in;go_wp2_with fail;refine (H.out _).mono ?_;rintro e w1 ⟨rfl,rfl⟩;go_wp2_with fail;refine (L.out _).mono ?_;rintro e w1 ⟨rfl,rfl⟩;go_wp2_with fail;refine zK (I.out _) λ K E=>?_;have M:=aB ((aF.new w [.int .i64 0,.int .i64 0,.int .i64 0,.int .i64 0,.int .i64 0] 26).next E);have D:=aB (((Below.refl _ w).alloc zn (.cells #[.int .i64 0,.int .i64 0,.int .i64 0,.int .i64 0,.int .i64 0] 26)).trans (E.mono (by simp)))
  have W:=aB (aF.new K [.int .i64 A,.int .i64 C,.int .i64 u,.int .i64 y,.int .i64 j] 26);have G:=aB (M.out.alloc (.cells #[.int .i64 A,.int .i64 C,.int .i64 u,.int .i64 y,.int .i64 j] 26));have F:=aB (D.out.alloc D.out.size (.cells #[.int .i64 A,.int .i64 C,.int .i64 u,.int .i64 y,.int .i64 j] 26));clear E M D;go_upto_region 12 with fail;generalize K.alloc _=W3 at *;obtain ⟨P,Q,R,T,U⟩:=bF G.out.2.2;have zf:=G.out.2.1;obtain ⟨x0,x1,x2,x3,x4⟩:=bF W.out.2.2;by_cases O:Z=0
  .replace h:=aB (h.out.trans (zt O))
   go_wp2;refine zp (v:=.tuple #[(aE.mk A C u y j).val,.int .i64 4]) (by simp[results,results173,go_sem,aE.val,P,Q,R,T,U]) rfl ⟨by rw[h.out],kA F.out _ _ _ _ _⟩
  replace h:=aB (h.out.trans (aC O));go_wp2;refine zp (v:=.tuple #[(aE.mk 0 0 0 0 0).val,.int .i64 0]) (by simp[results,results173,go_sem,aE.val,P,Q,R,T,U]) rfl ⟨by rw[h.out],kA F.out _ _ _ _ _⟩
 replace h:=aB (h.out.trans (zt h3));have J:=aB (λ w'=>xn X w')
 generalize iN X=V at *;obtain ⟨⟨A,C,u,y,j⟩,Z⟩:=V;unfold aE.val at J;simp only at J h;go_in;go_wp2_with fail;refine (H.out _).mono ?_;rintro e w1 ⟨rfl,rfl⟩;go_wp2_with fail;refine zK (J.out _) λ K E=>?_;have M:=aB ((aF.new w [.int .i64 0,.int .i64 0,.int .i64 0,.int .i64 0,.int .i64 0] 26).next E);have D:=aB (((Below.refl _ w).alloc zn (.cells #[.int .i64 0,.int .i64 0,.int .i64 0,.int .i64 0,.int .i64 0] 26)).trans (E.mono (by simp)))
 have W:=aB (aF.new K [.int .i64 A,.int .i64 C,.int .i64 u,.int .i64 y,.int .i64 j] 26);have G:=aB (M.out.alloc (.cells #[.int .i64 A,.int .i64 C,.int .i64 u,.int .i64 y,.int .i64 j] 26));have F:=aB (D.out.alloc D.out.size (.cells #[.int .i64 A,.int .i64 C,.int .i64 u,.int .i64 y,.int .i64 j] 26));clear E M D;go_upto_region 6 with fail;generalize K.alloc _=W3 at *;obtain ⟨P,Q,R,T,U⟩:=bF G.out.2.2;have zf:=G.out.2.1;obtain ⟨x0,x1,x2,x3,x4⟩:=bF W.out.2.2;by_cases O:Z=0
 .replace h:=aB (h.out.trans (zt O))
  go_wp2;refine zp (v:=.tuple #[(aE.mk A C u y j).val,.int .i64 2]) (by simp[results,results173,go_sem,aE.val,P,Q,R,T,U]) rfl ⟨by rw[h.out],kA F.out _ _ _ _ _⟩
 replace h:=aB (h.out.trans (aC O));go_wp2;refine zp (v:=.tuple #[(aE.mk 0 0 0 0 0).val,.int .i64 0]) (by simp[results,results173,go_sem,aE.val,P,Q,R,T,U]) rfl ⟨by rw[h.out],kA F.out _ _ _ _ _⟩
