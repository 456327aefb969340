import Derived.Test.YtbmcofdodfcnnaaGreatDoorGLA
import Derived.Test.YtbmcofdodfcnnaaGreatDoorGBG
import Derived.Test.YtbmcofdodfcnnaaGreatDoorGBC
set_option linter.all false
set_option maxHeartbeats 0
set_option maxRecDepth 100000
namespace Go
open Proofs.Tryz
variable {s : ByteArray}
structure q7 where
 size:Nat
 num:Int
 ins:aE
def cO (l:List UInt8):q7:=
 if l.length<2 then ⟨l.length,aP l,cI⟩
 else if (cE (aP (l.take 2))).2=0 then ⟨2,aP (l.take 2),(cE (aP (l.take 2))).1⟩
 else if 4<=l.length/\(bW (aP (l.take 4))).2=0 then ⟨4,aP (l.take 4),(bW (aP (l.take 4))).1⟩
 else ⟨2,aP (l.take 2),cI⟩
def gB (c:q7):List UInt8:=
 if c.size=4 then (gZ c.ins).1
 else if (bQ c.ins).2=0/\c.num=(bQ c.ins).1 then [99,46]++(gZ c.ins).1
 else if c.size=2 then [46,104,97,108,102,32]++Lib.itoa c.num
 else [46,98,121,116,101,32]++Lib.itoa c.num
def vC (i):(gZ i).1.length<=2000:=by
 by_cases h:right i=true
 .obtain ⟨k,j,q⟩:=uK h
  obtain ⟨op,rd,rs1,rs2,imm⟩:=i;simp only at q;subst q;rw[zN h];exact Rb k j ⟨k+1,rd,rs1,rs2,imm⟩ (TM j h) (iH k j)
 rw[Ab (by simpa using h)];simp
open RowKit
def gC (c:q7):List Value:=[.int .i64 c.size,.int .i64 c.num,.int .i64 c.ins.op,.int .i64 c.ins.rd,.int .i64 c.ins.rs1,.int .i64 c.ins.rs2,.int .i64 c.ins.imm]
def Ou {l:List UInt8} (h:l.length<=4):IntKind.i64.wrap (aP l)=aP l:=by
 have q:=kM l;have j:(2:Int)^(8*l.length)<=2^32:=gU (by omega)
 have e:(2:Int)^32=4294967296:=by decide
 exact zw _ (by omega)
def ya (s) (w) (h:s.size<=4):zS prog 148 #[.string s] w (.int .i64 (aP s.data.toList)):=by
 unfold zS;have:=Dq s w (by omega)
 rwa[Ou (by rw[<-Lib.size_eq];exact h)]at this
def z7:List Value:=[.int .i64 0,.int .i64 0,.int .i64 0,.int .i64 0,.int .i64 0,.int .i64 0,.int .i64 0]
def sK (s:ByteArray) (n:Nat):(s.extract 0 n).data.toList=s.data.toList.take n:=Lib.extract_from_zero s n
def pu (s:ByteArray):s.data.toList.length=s.size:=(Lib.size_eq s).symm
def Xg (h:s.size<2):cO s.data.toList=⟨s.size,aP s.data.toList,cI⟩:=by
 have j:=pu s;unfold cO;rw[zt (by omega),j]
def Xi {i:aE} (h:¬s.size<2) (j:cE (aP (s.extract 0 2).data.toList)=(i,0)):cO s.data.toList=⟨2,aP (s.extract 0 2).data.toList,i⟩:=by
 have q:=pu s;unfold cO;rw[<-sK,aC (by omega),j];simp
def Vl {i:aE} (h:¬s.size<4) (q:(cE (aP (s.extract 0 2).data.toList)).2≠0) (j:bW (aP (s.extract 0 4).data.toList)=(i,0)):cO s.data.toList=⟨4,aP (s.extract 0 4).data.toList,i⟩:=by
 have u:=pu s;unfold cO;rw[<-sK,<-sK,aC (by omega),aC q,j,zt ⟨by omega,rfl⟩]
def VX (h:¬s.size<2) (u:(cE (aP (s.extract 0 2).data.toList)).2≠0) (j:s.size<4\/(bW (aP (s.extract 0 4).data.toList)).2≠0):cO s.data.toList=⟨2,aP (s.extract 0 2).data.toList,cI⟩:=by
 have v:=pu s
 unfold cO;rw[<-sK,<-sK,aC (by omega),aC u,aC (λ q=>by
  rcases j with j|j
  .omega
  exact j q.2)]
def JK (s) (w):
    aG prog 138 #[.string s] w (.agg (gC (cO s.data.toList)).toArray):=by
 unfold aG;have j:Hid (aF w.heap.size z7 (w.alloc (.cells z7.toArray 139))):=aA (aF.new w z7 139);have h:Hid (Below w.heap.size w (w.alloc (.cells z7.toArray 139))):=aA aJ;unfold z7 at j h;by_cases h2:s.size<2
 .have L:=aA (Xg h2)
  have an:(s.size:Int)<2:=by omega
  have HN:=aA (λ w'=>ya s w' (by omega))
  generalize aP s.data.toList=N at *;go_in;go_wp2_with fail;generalize w.alloc _=W at *;refine (HN.out _).mono ?_;rintro e w1 ⟨rfl,rfl⟩;obtain ⟨Q,R,T,U,V,Y,Z⟩:=fT j.out.2.2;have yf:=j.out.2.1;go_wp2;refine zp (v:=.agg (gC ⟨s.size,N,cI⟩).toArray) (by simp[results,results138,go_sem,Q,R,T,U,V,Y,Z,gC,cI]) rfl ⟨by rw[L.out],?_⟩
  exact ly h.out _ _ _ _ _ _ _
 have an:(2:Int)<=s.size:=by omega
 have aw:¬(s.size:Int)<2:=by omega
 have HN:=aA (λ w'=>ya (s.extract 0 2) w' (by simp;omega))
 have HX:=aA (λ w'=>xu (aP (s.extract 0 2).data.toList) w')
 have al:=aA (λ i he=>Xi (s:=s) (i:=i) h2 he)
 have I:=aA (λ he hd=>VX (s:=s) h2 he hd)
 have O:=aA (λ (h4:¬s.size<4) i he hd=>Vl (s:=s) (i:=i) h4 he hd)
 generalize aP (s.extract 0 2).data.toList=N at *;generalize cE N=X at *;obtain ⟨⟨C,D,y,A,u⟩,ex⟩:=X;unfold aE.val at HX;simp only at HX;by_cases P:ex=0
 .subst P
  have L:=aA (al.out _ rfl);go_in;go_wp2_with fail;generalize w.alloc _=W at *;refine (HN.out _).mono ?_;rintro e w1 ⟨rfl,rfl⟩;go_wp2_with fail;refine zK (HX.out _) λ w2 q=>?_;have j:=aA (j.out.next q);have h:=aA (h.out.trans (q.mono h.out.size));clear q;have j:=aA (j.out.alloc (.cells #[.int .i64 C,.int .i64 D,.int .i64 y,.int .i64 A,.int .i64 u] 26));have h:=aA (h.out.alloc h.out.size (.cells #[.int .i64 C,.int .i64 D,.int .i64 y,.int .i64 A,.int .i64 u] 26));obtain ⟨Q,R,T,U,V,Y,Z⟩:=fT j.out.2.2;have yf:=j.out.2.1;go_wp2;refine zp (v:=.agg (gC ⟨2,N,⟨C,D,y,A,u⟩⟩).toArray) (by simp[results,results138,go_sem,Q,R,T,U,V,Y,Z,gC]) rfl ⟨by rw[L.out],?_⟩
  exact ly h.out _ _ _ _ _ _ _
 by_cases h4:s.size<4
 .have ao:(s.size:Int)<4:=by omega
  have L:=aA (I.out P (.inl h4));go_in;go_wp2_with fail;generalize w.alloc _=W at *;refine (HN.out _).mono ?_;rintro e w1 ⟨rfl,rfl⟩;go_wp2_with fail;refine zK (HX.out _) λ w2 q=>?_;have j:=aA (j.out.next q);have h:=aA (h.out.trans (q.mono h.out.size));clear q;have j:=aA (j.out.alloc (.cells #[.int .i64 C,.int .i64 D,.int .i64 y,.int .i64 A,.int .i64 u] 26));have h:=aA (h.out.alloc h.out.size (.cells #[.int .i64 C,.int .i64 D,.int .i64 y,.int .i64 A,.int .i64 u] 26));obtain ⟨Q,R,T,U,V,Y,Z⟩:=fT j.out.2.2;have yf:=j.out.2.1;go_wp2;refine zp (v:=.agg (gC ⟨2,N,cI⟩).toArray) (by simp[results,results138,go_sem,Q,R,T,U,V,Y,Z,gC,cI]) rfl ⟨by rw[L.out],?_⟩
  exact ly h.out _ _ _ _ _ _ _
 have ao:(4:Int)<=s.size:=by omega
 have ax:¬(s.size:Int)<4:=by omega
 have HM:=aA (λ w'=>ya (s.extract 0 4) w' (by simp;omega))
 have HD:=aA (λ w'=>xx (aP (s.extract 0 4).data.toList) w')
 have O:=aA (O.out h4);have I:=aA (λ hd=>I.out P (.inr hd))
 generalize aP (s.extract 0 4).data.toList=M at *;generalize bW M=X at *;obtain ⟨⟨J,K,F,G,E⟩,dx⟩:=X;unfold aE.val at HD;simp only at HD I O;by_cases ae:dx=0
 .subst ae
  have L:=aA (O.out _ P rfl);go_in;go_wp2_with fail;generalize w.alloc _=W at *;refine (HN.out _).mono ?_;rintro e w1 ⟨rfl,rfl⟩;go_wp2_with fail;refine zK (HX.out _) λ w2 q=>?_;have j:=aA (j.out.next q);have h:=aA (h.out.trans (q.mono h.out.size));clear q;have j:=aA (j.out.alloc (.cells #[.int .i64 C,.int .i64 D,.int .i64 y,.int .i64 A,.int .i64 u] 26));have h:=aA (h.out.alloc h.out.size (.cells #[.int .i64 C,.int .i64 D,.int .i64 y,.int .i64 A,.int .i64 u] 26));go_wp2_with fail;generalize w2.alloc _=W2 at *;refine (HM.out _).mono ?_;rintro e w3 ⟨rfl,rfl⟩;go_wp2_with fail;refine zK (HD.out _) λ w4 H=>?_;have j:=aA (j.out.next H);have h:=aA (h.out.trans (H.mono h.out.size));clear H;have j:=aA (j.out.alloc (.cells #[.int .i64 J,.int .i64 K,.int .i64 F,.int .i64 G,.int .i64 E] 26));have h:=aA (h.out.alloc h.out.size (.cells #[.int .i64 J,.int .i64 K,.int .i64 F,.int .i64 G,.int .i64 E] 26));obtain ⟨Q,R,T,U,V,Y,Z⟩:=fT j.out.2.2;have yf:=j.out.2.1;go_wp2;refine zp (v:=.agg (gC ⟨4,M,⟨J,K,F,G,E⟩⟩).toArray) (by simp[results,results138,go_sem,Q,R,T,U,V,Y,Z,gC]) rfl ⟨by rw[L.out],?_⟩
  exact ly h.out _ _ _ _ _ _ _
 have L:=aA (I.out ae);go_in;go_wp2_with fail;generalize w.alloc _=W at *;refine (HN.out _).mono ?_;rintro e w1 ⟨rfl,rfl⟩;go_wp2_with fail;refine zK (HX.out _) λ w2 q=>?_;have j:=aA (j.out.next q);have h:=aA (h.out.trans (q.mono h.out.size));clear q;have j:=aA (j.out.alloc (.cells #[.int .i64 C,.int .i64 D,.int .i64 y,.int .i64 A,.int .i64 u] 26));have h:=aA (h.out.alloc h.out.size (.cells #[.int .i64 C,.int .i64 D,.int .i64 y,.int .i64 A,.int .i64 u] 26));go_wp2_with fail;generalize w2.alloc _=W2 at *;refine (HM.out _).mono ?_;rintro e w3 ⟨rfl,rfl⟩;go_wp2_with fail;refine zK (HD.out _) λ w4 H=>?_;have j:=aA (j.out.next H);have h:=aA (h.out.trans (H.mono h.out.size));clear H;have j:=aA (j.out.alloc (.cells #[.int .i64 J,.int .i64 K,.int .i64 F,.int .i64 G,.int .i64 E] 26));have h:=aA (h.out.alloc h.out.size (.cells #[.int .i64 J,.int .i64 K,.int .i64 F,.int .i64 G,.int .i64 E] 26));obtain ⟨Q,R,T,U,V,Y,Z⟩:=fT j.out.2.2;have yf:=j.out.2.1;go_wp2;refine zp (v:=.agg (gC ⟨2,N,cI⟩).toArray) (by simp[results,results138,go_sem,Q,R,T,U,V,Y,Z,gC,cI]) rfl ⟨by rw[L.out],?_⟩
 exact ly h.out _ _ _ _ _ _ _
def B4 (t:List UInt8):(ByteArray.mk t.toArray).size=t.length:=by simp[ByteArray.size]
def Qk (c:q7) (w) (V:aS w) (Z:0<=c.num) (h1:c.num<4294967296) (X:c.size=1\/c.size=2\/c.size=4):
    Calls prog 77 #[.agg (gC c).toArray] w λ e w'=>∃s:ByteArray,e=.returned (.string s)/\s.size<=2100/\Hid (s.data.toList=gB c)/\Below w.heap.size w w':=by
 obtain ⟨size,num,⟨op,rd,rs1,rs2,imm⟩⟩:=c;simp only at Z h1 X;have M:Hid (aF w.heap.size (gC ⟨size,num,⟨op,rd,rs1,rs2,imm⟩⟩) (w.alloc (.cells (gC ⟨size,num,⟨op,rd,rs1,rs2,imm⟩⟩).toArray 139))):=aA (aF.new w _ 139);have j:Hid (Below w.heap.size w (w.alloc (.cells (gC ⟨size,num,⟨op,rd,rs1,rs2,imm⟩⟩).toArray 139))):=aA aJ;have F:=aA V;have y:=aA (λ w' (h:aS w')=>D9 ⟨op,rd,rs1,rs2,imm⟩ w' h)
 have v:=aA (λ w'=>sL ⟨op,rd,rs1,rs2,imm⟩ w' qm)
 have C:Hid (gB ⟨size,num,⟨op,rd,rs1,rs2,imm⟩⟩=if size=4 then (gZ ⟨op,rd,rs1,rs2,imm⟩).1 else if (bQ ⟨op,rd,rs1,rs2,imm⟩).2=0/\num=(bQ ⟨op,rd,rs1,rs2,imm⟩).1 then [99,46]++(gZ ⟨op,rd,rs1,rs2,imm⟩).1 else if size=2 then [46,104,97,108,102,32]++Lib.itoa num else [46,98,121,116,101,32]++Lib.itoa num):=aA rfl;have O:=aA (vC ⟨op,rd,rs1,rs2,imm⟩);clear V;unfold gC at *;simp only at *;generalize gZ ⟨op,rd,rs1,rs2,imm⟩=T at *;generalize bQ ⟨op,rd,rs1,rs2,imm⟩=S at *;obtain ⟨t,te⟩:=T;obtain ⟨n,Y⟩:=S;unfold aE.val at y v;simp only at *;go_in;go_wp2_with fail;generalize w.alloc _=W at *;refine zK (y.out _ (F.out.below j.out F.out.1)) λ w1 H=>?_;have M:=aA (M.out.next H);have j:=aA (j.out.trans (H.mono j.out.size));clear H;obtain ⟨_,_,y2,y3,y4,y5,y6⟩:=fT M.out.2.2;go_wp2_with fail;refine zK (v.out _) λ w2 I=>?_;have M:=aA (M.out.next I);have j:=aA (j.out.trans (I.mono j.out.size));clear I y2 y3 y4 y5 y6;obtain ⟨y0,y1⟩:=bE M.out.2.2;rcases X with rfl|rfl|rfl
 .by_cases E:Y=0
  .subst E
   by_cases A:num=n
   .subst A
    (have D:Hid (gB ⟨1,num,⟨op,rd,rs1,rs2,imm⟩⟩=[99,46]++t):=aA (by rw[C.out];simp));clear y v C;have N:=O.out;(have Q:¬(9223372036854775807:Int)<2+t.length:=by omega);(have R:¬9223372036854775807<2+t.length:=by omega);go_wp2;go_ret;exact ⟨_,rfl,by rw[ByteArray.size_append];exact Nat.le_trans (Nat.add_le_add (Nat.le_of_eq rfl:_<=2) (Nat.le_of_eq (B4 t))) (by omega),aA (by rw[D.out];simp),j.out⟩
   (have P:(num==n)=false:=by simpa using A);(have D:Hid (gB ⟨1,num,⟨op,rd,rs1,rs2,imm⟩⟩=[46,98,121,116,101,32]++Lib.itoa num):=aA (by rw[C.out];simp[A]));clear y v C;go_wp2_with fail;(refine (kL num _ (by omega) (by omega) (F.out.below j.out F.out.1)).mono ?_);rintro e U ⟨q,rfl,J,G,u⟩;have j:=aA (j.out.trans (u.mono j.out.size));clear u;(have K:¬(9223372036854775807:Int)<6+q.size:=by omega);(have L:¬9223372036854775807<6+q.size:=by omega);go_wp2;go_ret;exact ⟨_,rfl,by rw[ByteArray.size_append];exact Nat.le_trans (Nat.add_le_add (Nat.le_of_eq rfl:_<=6) J) (by omega),aA (by rw[D.out,<-G.out];simp),j.out⟩
  have D:Hid (gB ⟨1,num,⟨op,rd,rs1,rs2,imm⟩⟩=[46,98,121,116,101,32]++Lib.itoa num):=aA (by rw[C.out];simp[E])
  clear y v C;go_wp2_with fail;refine (kL num _ (by omega) (by omega) (F.out.below j.out F.out.1)).mono ?_
  rintro e U ⟨q,rfl,J,G,u⟩;have j:=aA (j.out.trans (u.mono j.out.size));clear u;have K:¬(9223372036854775807:Int)<6+q.size:=by omega
  have L:¬9223372036854775807<6+q.size:=by omega
  go_wp2;go_ret;exact ⟨_,rfl,by rw[ByteArray.size_append];exact Nat.le_trans (Nat.add_le_add (Nat.le_of_eq rfl:_<=6) J) (by omega),aA (by rw[D.out,<-G.out];simp),j.out⟩
 .by_cases E:Y=0
  .subst E
   by_cases A:num=n
   .subst A
    (have D:Hid (gB ⟨2,num,⟨op,rd,rs1,rs2,imm⟩⟩=[99,46]++t):=aA (by rw[C.out];simp));clear y v C;have N:=O.out;(have Q:¬(9223372036854775807:Int)<2+t.length:=by omega);(have R:¬9223372036854775807<2+t.length:=by omega);go_wp2;go_ret;exact ⟨_,rfl,by rw[ByteArray.size_append];exact Nat.le_trans (Nat.add_le_add (Nat.le_of_eq rfl:_<=2) (Nat.le_of_eq (B4 t))) (by omega),aA (by rw[D.out];simp),j.out⟩
   (have P:(num==n)=false:=by simpa using A);(have D:Hid (gB ⟨2,num,⟨op,rd,rs1,rs2,imm⟩⟩=[46,104,97,108,102,32]++Lib.itoa num):=aA (by rw[C.out];simp[A]));clear y v C;go_wp2_with fail;(refine (kL num _ (by omega) (by omega) (F.out.below j.out F.out.1)).mono ?_);rintro e U ⟨q,rfl,J,G,u⟩;have j:=aA (j.out.trans (u.mono j.out.size));clear u;(have K:¬(9223372036854775807:Int)<6+q.size:=by omega);(have L:¬9223372036854775807<6+q.size:=by omega);go_wp2;go_ret;exact ⟨_,rfl,by rw[ByteArray.size_append];exact Nat.le_trans (Nat.add_le_add (Nat.le_of_eq rfl:_<=6) J) (by omega),aA (by rw[D.out,<-G.out];simp),j.out⟩
  have D:Hid (gB ⟨2,num,⟨op,rd,rs1,rs2,imm⟩⟩=[46,104,97,108,102,32]++Lib.itoa num):=aA (by rw[C.out];simp[E])
  clear y v C;go_wp2_with fail;refine (kL num _ (by omega) (by omega) (F.out.below j.out F.out.1)).mono ?_
  rintro e U ⟨q,rfl,J,G,u⟩;have j:=aA (j.out.trans (u.mono j.out.size));clear u;have K:¬(9223372036854775807:Int)<6+q.size:=by omega
  have L:¬9223372036854775807<6+q.size:=by omega
  go_wp2;go_ret;exact ⟨_,rfl,by rw[ByteArray.size_append];exact Nat.le_trans (Nat.add_le_add (Nat.le_of_eq rfl:_<=6) J) (by omega),aA (by rw[D.out,<-G.out];simp),j.out⟩
 have D:Hid (gB ⟨4,num,⟨op,rd,rs1,rs2,imm⟩⟩=t):=aA (by rw[C.out];simp)
 clear y v C;have N:=O.out;go_wp2;go_ret;exact ⟨_,rfl,by rw[B4];omega,aA (by rw[D.out]),j.out⟩
