import Derived.Lib.OthersKept
import Derived.Test.YtbmcofdodfcnnaaGreatDoorGV6
set_option linter.all false
set_option maxHeartbeats 0
set_option maxRecDepth 100000
namespace Go
open Proofs.Tryz
variable {w0 w w' : World} {base j : Nat} {xs fr ic : List Value} {l : List UInt8}
structure Fm where
 half:List UInt8
 order:List UInt8
 signed:Bool
 op:Int
 rd:Int
 rs1:Int
 rs2:Int
 hold:Nat
def Xy:List Fm:=[
 ⟨[48,48,48,105,105,105,105,105,105,105,105,100,100,100,48,48],[53,52,57,56,55,54,50,51],false,29,100,2,0,3⟩,
 ⟨[48,49,48,105,105,105,115,115,115,105,105,100,100,100,48,48],[53,52,51,50,54],false,44,100,115,0,0⟩,
 ⟨[48,49,49,105,105,105,115,115,115,105,105,100,100,100,48,48],[53,52,51,55,54],false,45,100,115,0,0⟩,
 ⟨[49,49,48,105,105,105,115,115,115,105,105,116,116,116,48,48],[53,52,51,50,54],false,52,0,115,116,0⟩,
 ⟨[49,49,49,105,105,105,115,115,115,105,105,116,116,116,48,48],[53,52,51,55,54],false,53,0,115,116,0⟩,
 ⟨[48,48,48,105,100,100,100,100,100,105,105,105,105,105,48,49],[53,52,51,50,49,48],true,29,100,100,0,6⟩,
 ⟨[48,48,49,105,100,100,100,100,100,105,105,105,105,105,48,49],[53,52,51,50,49,48],true,38,100,100,0,1⟩,
 ⟨[48,49,48,105,100,100,100,100,100,105,105,105,105,105,48,49],[53,52,51,50,49,48],true,29,100,0,0,1⟩,
 ⟨[48,49,49,105,48,48,48,49,48,105,105,105,105,105,48,49],[57,52,54,56,55,53],true,29,2,2,0,3⟩,
 ⟨[48,49,49,105,100,100,100,100,100,105,105,105,105,105,48,49],[53,52,51,50,49,48],true,60,100,0,0,7⟩,
 ⟨[49,48,48,105,48,48,100,100,100,105,105,105,105,105,48,49],[53,52,51,50,49,48],false,36,100,100,0,3⟩,
 ⟨[49,48,48,105,48,49,100,100,100,105,105,105,105,105,48,49],[53,52,51,50,49,48],false,37,100,100,0,3⟩,
 ⟨[49,48,48,105,49,48,100,100,100,105,105,105,105,105,48,49],[53,52,51,50,49,48],true,34,100,100,0,0⟩,
 ⟨[49,48,48,48,49,49,100,100,100,48,48,116,116,116,48,49],[],false,2,100,100,116,0⟩,
 ⟨[49,48,48,48,49,49,100,100,100,48,49,116,116,116,48,49],[],false,6,100,100,116,0⟩,
 ⟨[49,48,48,48,49,49,100,100,100,49,48,116,116,116,48,49],[],false,9,100,100,116,0⟩,
 ⟨[49,48,48,48,49,49,100,100,100,49,49,116,116,116,48,49],[],false,10,100,100,116,0⟩,
 ⟨[49,48,48,49,49,49,100,100,100,48,48,116,116,116,48,49],[],false,20,100,100,116,0⟩,
 ⟨[49,48,48,49,49,49,100,100,100,48,49,116,116,116,48,49],[],false,19,100,100,116,0⟩,
 ⟨[49,48,49,105,105,105,105,105,105,105,105,105,105,105,48,49],[98,52,57,56,97,54,55,51,50,49,53],true,62,0,0,0,0⟩,
 ⟨[49,49,48,105,105,105,115,115,115,105,105,105,105,105,48,49],[56,52,51,55,54,50,49,53],true,54,0,115,0,0⟩,
 ⟨[49,49,49,105,105,105,115,115,115,105,105,105,105,105,48,49],[56,52,51,55,54,50,49,53],true,55,0,115,0,0⟩,
 ⟨[48,48,48,105,100,100,100,100,100,105,105,105,105,105,49,48],[53,52,51,50,49,48],false,35,100,100,0,5⟩,
 ⟨[48,49,48,105,100,100,100,100,100,105,105,105,105,105,49,48],[53,52,51,50,55,54],false,44,100,2,0,1⟩,
 ⟨[48,49,49,105,100,100,100,100,100,105,105,105,105,105,49,48],[53,52,51,56,55,54],false,45,100,2,0,1⟩,
 ⟨[49,48,48,48,115,115,115,115,115,48,48,48,48,48,49,48],[],false,49,0,115,0,2⟩,
 ⟨[49,48,48,48,100,100,100,100,100,116,116,116,116,116,49,48],[],false,1,100,0,116,4⟩,
 ⟨[49,48,48,49,48,48,48,48,48,48,48,48,48,48,49,48],[],false,64,0,0,0,0⟩,
 ⟨[49,48,48,49,115,115,115,115,115,48,48,48,48,48,49,48],[],false,49,1,115,0,2⟩,
 ⟨[49,48,48,49,100,100,100,100,100,116,116,116,116,116,49,48],[],false,1,100,100,116,4⟩,
 ⟨[49,49,48,105,105,105,105,105,105,116,116,116,116,116,49,48],[53,52,51,50,55,54],false,52,0,2,116,0⟩,
 ⟨[49,49,49,105,105,105,105,105,105,116,116,116,116,116,49,48],[53,52,51,56,55,54],false,53,0,2,116,0⟩]
def Xx:Fm:=⟨[],[],false,0,0,0,0,0⟩
def fm (k:Nat):Fm:=Xy.getD k Xx
open RowKit
def gr (h:Nat):FuncId:=[115,117,120,114,121,119,116,118].getD h 0
def eN (f:Fm):List Value:=[.string ⟨f.half.toArray⟩,.string ⟨f.order.toArray⟩,.bool f.signed,.int .i64 f.op,.int .i64 f.rd,.int .i64 f.rs1,.int .i64 f.rs2,.func (.func (gr f.hold)) #[] #[]]
def rF (k:Nat):List Value:=eN (fm k)
def Xl:List Value:=[.string ⟨#[]⟩,.string ⟨#[]⟩,.bool false,.int .i64 0,.int .i64 0,.int .i64 0,.int .i64 0,.nilFunc]
def nj:Array Value:=((List.range 32).flatMap rF).toArray
def Wd:Array Value:=((List.range 32).flatMap λ _=>Xl).toArray
def EZ (w):
    Calls prog 64 #[] w λ e w'=>e=.returned (.agg nj)/\w'=w.alloc (.cells nj 115):=
 xv (n:=33) (s:=0) (y:=33) (Z:=Wd) (m:=32) (e:=114) func64 rfl (by kernel_rfl) rfl rfl rfl rfl rfl (by kernel_rfl) (by kernel_rfl) (by kernel_rfl) (by kernel_rfl) (by kernel_rfl)
def pl (l:List UInt8) (c:Int):Nat->List Int
 | 0=>[]
 | j+1=>pl l c j++(if ((l.getD j 0).toNat:Int)=c then [15-(j:Int)] else [])
def pK (l) (c) (j):(pl l c j).length<=j:=by
 induction j with
 | zero=>simp[pl]
 | succ j ih=>simp only[pl];split<;>simp<;>omega
def places (l:List UInt8) (c:Int):List Int:=pl l c l.length
def aA {p:Prop} (h:p):Hid p:=h
def Tryz.infoInt:(prog.info? 3).map (λ i=>(i.zero,i.size,i.bytes))=some (some (.int .i64 0),1,8):=by kernel_rfl
def lF (l:List Int):List Value:=l.map (.int .i64)
def tn (w) (k) (s) (p) {B:Nat} (h:Below B w0 w) (q:B<=k):Below B w0 (w.iterAt k s p):=
 ⟨h.os,h.tape,h.output,by rw[Lib.iterAt_size];exact h.size,λ b j=>(Lib.iterAt_other w k b s p (by omega)).trans (h.block b j)⟩
def NT {e:TypeId} {v:Value} {n:Nat} (h:w.ownsRow base e 1 v n xs) (k) (s) (p) (q:k<base):(w.iterAt k s p).ownsRow base e 1 v n xs:=
 le h (λ g j=>Lib.iterAt_other w k g s p (by have:=(h.lt g j).1;omega))
def ug (f:Fm) (c) (w) (hA:∀x∈f.half,x.toNat<128) (hl:f.half.length<=16):
    Calls prog 123 #[.agg (eN f).toArray,.int .i32 c] w λ e w'=>∃v,e=.returned v/\w'.ownsRow (w.heap.size+2) 3 1 v (places f.half c).length (lF (places f.half c))/\Below w.heap.size w w':=by
 obtain ⟨i0,hi,Z,aa,ab⟩:=info_parts Tryz.infoInt;obtain ⟨half,order,signed,op,rd,rs1,rs2,hold⟩:=f;simp only at hA hl ⊢;generalize M:(⟨half.toArray⟩:ByteArray)=S;have HS:=aA M;have T:S.size=half.length:=by rw[<-M];simp[ByteArray.size]
 have HD:Hid (S.data.toList=half):=(show _=_ from by rw[<-M])
 unfold eN;simp only[M];clear M;go_in;go_wp2_with fail;have e1:(w.alloc (.cells #[.string S,.string ⟨order.toArray⟩,.bool signed,.int .i64 op,.int .i64 rd,.int .i64 rs1,.int .i64 rs2,.func (.func (gr hold)) #[] #[]] 114)).heap.size=w.heap.size+1:=by simp
 go_loopw [5] (λ v wr=>∃j:Nat,j<=S.size/\wr.heap[w.heap.size+1]?=some (.stringIter S j)/\wr.ownsRow (w.heap.size+2) 3 1 v (pl half c j).length (lF (pl half c j))/\Below w.heap.size w wr/\w.heap.size+2<=wr.heap.size) (λ _ wr=>S.size-wr.iterPos (w.heap.size+1))
 case atStart=>
  refine ⟨0,Nat.zero_le _,?_,World.ownsRow_nil _ _ _ _,aJ.alloc (by rw[za];omega) _,by show _<=(World.alloc _ _).heap.size;rw[za,za];omega⟩
  have:=heap_alloc_last (w.alloc (.cells #[.string S,.string ⟨order.toArray⟩,.bool signed,.int .i64 op,.int .i64 rd,.int .i64 rs1,.int .i64 rs2,.func (.func (gr hold)) #[] #[]] 114)) (.stringIter S 0);rw[e1]at this;exact this
 case round=>
  obtain ⟨j,hj,hit,y,Q,Y⟩:=hrel;clear e1;by_cases q:j<S.size
  .have I:j<half.length:=by omega
   have H:(S[j]'q)=half.getD j 0:=by
    (have:S[j]'q=S.data.toList[j]'(by simpa using q):=rfl);rw[this];simp[HD.out,I]
   have E:(S[j]'q).toNat<128:=by
    rw[H,zG,zg I];exact hA _ (List.getElem_mem I)
   have V:∀J,(Instr.next (.pointer (some ⟨w.heap.size+1,0,none⟩)) true J).run prog wr=.ok (.tuple #[.bool true,.int .i64 j,.int .i32 (S[j]'q).toNat]) (wr.iterAt (w.heap.size+1) S (j+1)):=λ J=>
    Lib.run_next_ascii_at wr (w.heap.size+1) S j J hit q E
   (have K:=aA (NT y (w.heap.size+1) S (j+1) (by omega)));(have HB:=aA (tn wr (w.heap.size+1) S (j+1) Q (by omega)));have G:=aA (Lib.iterAt_heap wr (w.heap.size+1) S j (j+1) hit);have D:=aA hit;have N:(wr.iterAt (w.heap.size+1) S (j+1)).heap.size=wr.heap.size:=Lib.iterAt_size _ _ _ _;(have L:Hid (pl half c (j+1)=pl half c j++(if ((S[j]'q).toNat:Int)=c then [15-(j:Int)] else [])):=(show _=_ from by rw[H];rfl));have ao:=pK half c j;(have O:w.heap.size+2<=(wr.iterAt (w.heap.size+1) S (j+1)).heap.size:=by omega);(have ak:Hid (wr.iterPos (w.heap.size+1)=j):=(show _=_ from by simp[World.iterPos,hit]));clear hit y Q Y N;generalize hr:((S[j]'q).toNat:Int)=r at *;clear hr H E;generalize wr.iterAt (w.heap.size+1) S (j+1)=W at *;by_cases hc:r=c
   .have am:(0:Int)<=15-j:=by omega
    go_wp2_with (first
     | (at_builtin;refine wpList_append_own _ rfl _ _ 49 rfl (w.heap.size+2) 3 i0 (.int .i64 0) 1 8 underlying49 hi Z aa ab rfl (by decide) _ _ _ rfl (K.out.alloc _) ⟨W.heap.size,0,none⟩ 1 1 [.int .i64 (15-(j:Int))] rfl rfl ?c1 ?c2 ?c3 ?c4 ?c5 ?_)
     | go_in)
    case c1=>
     intro j' u C
     match j',C with
     | 0,C=>simp at C;subst C;simp[Addr.add]
    (case c2=>intro u hu;simp at hu;subst hu;rfl);(case c3=>unfold maxLen;omega);(case c4=>omega);(case c5=>rw[za];omega);intro v' w1 A h _;have R:Below w.heap.size w w1:=(HB.out.alloc (by omega) _).grown h (by rw[za];omega) (λ g hg=>by have:=(K.out.lt g hg).1;omega)
    have F:w1.heap[w.heap.size+1]?=some (.stringIter S (j+1)):=by
     (rw[h.block _ (by rw[za];omega) (λ e=>by have:=(K.out.lt _ e.symm).1;omega)]);exact (Below.block ((Below.refl W.heap.size W).alloc zn _) _ (by omega)).trans G.out
    (have X:w.heap.size+2<=w1.heap.size:=by have:=h.size;rw[za]at this;omega);have P:=aA A;clear A h;go_wp2;go_roundw
    case rel=>
     (refine ⟨j+1,by omega,F,?_,R,X⟩);rw[L.out,zt hc];simpa[lF] using P.out
    case measure=>
     simp[World.iterPos,F,D.out];omega
   go_wp2;go_roundw;case rel=>exact ⟨j+1,by omega,G.out,by rw[L.out,aC hc,List.append_nil];exact K.out,HB.out,O⟩
   case measure=>
    simp[World.iterPos,G.out,D.out];omega
  have U:j=S.size:=by omega
  have V:∀J,(Instr.next (.pointer (some ⟨w.heap.size+1,0,none⟩)) true J).run prog wr=.ok (.tuple #[.bool false]) wr:=λ J=>
   Lib.run_next_end_at wr (w.heap.size+1) S j J hit q
  have K:=aA y;go_wp2;go_ret;refine ⟨_,rfl,?_,Q⟩;unfold places;rw[<-T,<-U];exact K.out
def nh (l:List UInt8) (n:Int) (j:Nat):Bool:=
 if (l.getD j 0).toNat=48\/(l.getD j 0).toNat=49 then decide (aD n (15-j) (15-j)=((l.getD j 0).toNat:Int)-48) else true
def hZ (l:List UInt8) (n:Int):Bool:=(List.range l.length).all (nh l n)
def R7 {n:Int} (q:j<l.length) (h:nh l n j=false):hZ l n=false:=by
 unfold hZ;rw[List.all_eq_false];exact ⟨j,by simpa using q,by simp[h]⟩
def NX {n:Int} (h:∀j,j<l.length->nh l n j=true):hZ l n=true:=by
 unfold hZ;rw[List.all_eq_true];intro j q;exact h j (by simpa using q)
def Cq (w:World):∀k,(w.drewN k).heap=w.heap
 | 0=>rfl
 | k+1=>by show (World.drewN _ k).heap=_;exact Cq _ k
def qX (r:Int):Bool:=r==48||r==49
def Eu (r) (w):zS prog 182 #[.int .i32 r] w (.bool (qX r)):=by
 unfold zS;by_cases h:r=48
 .subst h
  go_in;go_wp2;go_ret;exact ⟨rfl,rfl⟩
 go_in;go_wp2;go_ret;exact ⟨by simp[qX],rfl⟩
def OC (f:Fm) (n) (w) (Q:∀x∈f.half,x.toNat<128) (hl:f.half.length<=16):
    aG prog 125 #[.agg (eN f).toArray,.int .i64 n] w (.bool (hZ f.half n)):=by
 unfold aG;obtain ⟨half,order,signed,op,rd,rs1,rs2,hold⟩:=f;simp only at Q hl ⊢;generalize I:(⟨half.toArray⟩:ByteArray)=S;have X:S.size=half.length:=by rw[<-I];simp[ByteArray.size]
 have V:Hid (S.data.toList=half):=(show _=_ from by rw[<-I])
 unfold eN;simp only[I];clear I;go_in;go_wp2_with fail;have P:(w.alloc (.cells #[.string S,.string ⟨order.toArray⟩,.bool signed,.int .i64 op,.int .i64 rd,.int .i64 rs1,.int .i64 rs2,.func (.func (gr hold)) #[] #[]] 114)).heap.size=w.heap.size+1:=by simp
 go_loopw [] (λ wr=>∃j:Nat,j<=S.size/\wr.heap[w.heap.size+1]?=some (.stringIter S j)/\(∀i,i<j->nh half n i=true)/\Below w.heap.size w wr) (λ wr=>S.size-wr.iterPos (w.heap.size+1))
 case atStart=>
  refine ⟨0,Nat.zero_le _,?_,λ i h=>by omega,aJ.alloc (by rw[za];omega) _⟩
  have:=heap_alloc_last (w.alloc (.cells #[.string S,.string ⟨order.toArray⟩,.bool signed,.int .i64 op,.int .i64 rd,.int .i64 rs1,.int .i64 rs2,.func (.func (gr hold)) #[] #[]] 114)) (.stringIter S 0);rw[P]at this;exact this
 case round=>
  obtain ⟨j,hj,hit,C,M⟩:=hrel;clear P;have u:=aA C;clear C;by_cases q:j<S.size
  .have y:j<half.length:=by omega
   have E:(S[j]'q)=half.getD j 0:=by
    (have:S[j]'q=S.data.toList[j]'(by simpa using q):=rfl);rw[this];simp[V.out,y]
   have H:(S[j]'q).toNat<128:=by
    rw[E,zG,zg y];exact Q _ (List.getElem_mem y)
   have O:∀G,(Instr.next (.pointer (some ⟨w.heap.size+1,0,none⟩)) true G).run prog wr=.ok (.tuple #[.bool true,.int .i64 j,.int .i32 (S[j]'q).toNat]) (wr.iterAt (w.heap.size+1) S (j+1)):=λ G=>
    Lib.run_next_ascii_at wr (w.heap.size+1) S j G hit q H
   (have J:=aA (tn wr (w.heap.size+1) S (j+1) M (by omega)));have v:=aA (Lib.iterAt_heap wr (w.heap.size+1) S j (j+1) hit);have A:=aA hit;have D:=aA E;have R:(w.heap.size+1)<(wr.iterAt (w.heap.size+1) S (j+1)).heap.size:=(Array.getElem?_eq_some_iff.1 v.out).1;clear hit M;generalize T:(S[j]'q).toNat=r at *;have L:=aA T;clear T E;generalize wr.iterAt (w.heap.size+1) S (j+1)=W at *;by_cases N:qX (r:Int)=true
   .have ab:(0:Int)<=15-j:=by omega
    (have af:(r:Int)=48\/(r:Int)=49:=by simpa[qX] using N);have ae:(48:Int)<=r:=by omega
    go_wp2_with (first
     | (go_at_call 182;refine (Eu _ _).mono ?_;rintro e w' ⟨rfl,rfl⟩)
     | (go_at_call 112;refine (oi n (15-(j:Int)) 1 _ (by omega) (by omega) (by decide) (by decide)).mono ?_;rintro e w' ⟨rfl,U,rfl⟩))
    .have hx:(aD n (15-(j:Int)) (15-(j:Int)) != (r:Int)-48)=true:=by assumption
     have K:Hid (hZ half n=false):=aA (R7 y (by
      unfold nh;(rw[<-D.out,L.out,zt (by omega)]);simpa using hx))
     go_ret;exact ⟨by rw[K.out];rfl,below_drewN J.out _⟩
    (have hx:(aD n (15-(j:Int)) (15-(j:Int)) != (r:Int)-48)=false:=by assumption);have Z:(w'.drewN U).heap=w'.heap:=Cq w' U;refine ⟨⟨j+1,by omega,by rw[Z];exact v.out,λ i hi=>?_,below_drewN J.out _⟩,?_⟩
    .by_cases F:i<j
     .exact u.out i F
     (obtain rfl:i=j:=by omega);unfold nh;(rw[<-D.out,L.out,zt (by omega)]);simpa using hx
    simp[World.iterPos,v.out,A.out];omega
   (have Y:qX (r:Int)=false:=by simpa using N);go_wp2_with (go_at_call 182;refine (Eu _ _).mono ?_;rintro e w' ⟨rfl,rfl⟩);go_roundw
   case rel=>
    (refine ⟨j+1,by omega,v.out,λ i hi=>?_,J.out⟩);by_cases F:i<j
    .exact u.out i F
    (obtain rfl:i=j:=by omega);(have:¬(r=48\/r=49):=by intro h;rcases h with rfl|rfl<;>simp[qX]at N);unfold nh;rw[<-D.out,L.out,aC this]
   case measure=>
    simp[World.iterPos,v.out,A.out];omega
  have aa:j=S.size:=by omega
  have O:∀G,(Instr.next (.pointer (some ⟨w.heap.size+1,0,none⟩)) true G).run prog wr=.ok (.tuple #[.bool false]) wr:=λ G=>
   Lib.run_next_end_at wr (w.heap.size+1) S j G hit q
  have K:Hid (hZ half n=true):=aA (NX λ i hi=>u.out i (by omega))
  go_wp2;go_ret;exact ⟨by rw[K.out];rfl,M⟩
def bt (n p:Int):Int:=aD n p p
def wC (n p):0<=bt n p/\bt n p<=1:=by
 have:=fV n p p;unfold bt;have e:(2:Int)^(p.toNat-p.toNat+1)=2:=by simp
 rw[e]at this;omega
def ry (l) (c) (j) (h:j<=16):∀x∈pl l c j,0<=x/\x<=15:=by
 induction j with
 | zero=>intro x hx;simp[pl]at hx
 | succ j ih=>
  intro x hx;simp only[pl,List.mem_append]at hx;rcases hx with hx|hx
  .exact ih (by omega) x hx
  split at hx
  .simp at hx;omega
  simp at hx
def qM (a b) (h:0<=a) (j:a<65536) (q:0<=b) (u:b<65536):0<=aT a b/\aT a b<65536:=AP a b 16 (by decide) h j q u
def lR (p:List Int) (r:Int):Nat->Int
 | 0=>0
 | j+1=>aT (lR p r j) (bt r (p.length-1-j)*2^(p.getD j 0).toNat)
def tu (n q x:Int) (h:0<=x/\x<=15):0<=bt n q*2^x.toNat/\bt n q*2^x.toNat<65536:=by
 have u:=wC n q;have v:(2:Int)^x.toNat<=2^15:=gU (by omega)
 have j:=pow_pos x.toNat;have e:(2:Int)^15=32768:=by decide
 rcases (show bt n q=0\/bt n q=1 by omega) with h|h<;>rw[h]<;>omega
def Hi (p) (r) (u:∀x∈p,0<=x/\x<=15) (j) (v:j<=p.length):0<=lR p r j/\lR p r j<65536:=by
 induction j with
 | zero=>simp[lR]
 | succ j ih=>
  have h:=ih (by omega)
  have hx:0<=p.getD j 0/\p.getD j 0<=15:=u _ (by rw[zG,zg (by omega)];exact List.getElem_mem _)
  have q:=tu r (p.length-1-j) (p.getD j 0) hx;exact qM _ _ h.1 h.2 q.1 q.2
structure IA (ao:Option Addr) (l:List Int) (base:Nat) (w:World):Prop where
 at':∀j,j<l.length->∃g,ao=some ⟨g,0,none⟩/\base<=g/\g<w.heap.size/\w.cell? ⟨g,j,none⟩=some (.int .i64 (l.getD j 0))
def IA.next {q:Option Addr} {l:List Int} (h:IA q l base w) (u:Below w.heap.size w w'):IA q l base w':=
 ⟨λ j D=>by obtain ⟨g,v,y,A,C⟩:=h.at' j D;exact ⟨g,v,y,by have:=u.size;omega,(u.cell (p:=⟨g,j,none⟩) A).trans C⟩⟩
def pB {v:Value} {l:List Int} (h:w.ownsRow base 3 1 v l.length (lF l)):∃u cap,v=.slice u l.length cap/\IA u l base w:=by
 have y:=h;obtain ⟨F,⟨rfl,D⟩|⟨g,cap,C,rfl,E,H,G⟩⟩:=h
 .exact ⟨none,0,by rw[D],⟨λ j A=>by omega⟩⟩
 refine ⟨_,cap,rfl,⟨λ j A=>⟨g,rfl,E,(y.lt g rfl).2,?_⟩⟩⟩
 have:=y.cells rfl j (.int .i64 (l.getD j 0)) (by simp[lF,zg A])
 have q:(⟨g,0,none⟩:Addr).add j=⟨g,j,none⟩:=by unfold Addr.add;split<;>simp_all
 rw[q]at this;exact this
def Jg (f:Fm) (c r) (w) (T:∀x∈f.half,x.toNat<128) (M:f.half.length<=16):
    aG prog 122 #[.agg (eN f).toArray,.int .i32 c,.int .i64 r] w (.int .i64 (lR (places f.half c) r (places f.half c).length)):=by
 unfold aG;have y:=aA (ug f c (w.alloc (.cells (eN f).toArray 114)) T M);have q:=aA (ry f.half c f.half.length M);have I:=pK f.half c f.half.length;unfold eN at *;go_in;go_wp2_with fail;refine y.out.mono ?_;rintro e J ⟨v,rfl,h,A⟩;obtain ⟨ao,cap,rfl,G⟩:=pB h;have u:Hid (Below w.heap.size w J):=aA (aJ.trans (A.mono (by simp)))
 have E:=aA G;clear h A y
 change Hid (∀x∈places f.half c,0<=x/\x<=15) at q
 change (places f.half c).length<=f.half.length at I
 generalize L:places f.half c=P at *;have Q:=aA L;clear L;have O:P.length<=16:=by omega
 go_wp2_with fail;go_loopw [7,16] (λ a i wr=>∃j:Nat,j<=P.length/\i=.int .i64 j/\a=.int .i64 (lR P r j)/\Below J.heap.size J wr) (λ _ i _=>P.length-(intOf i).toNat)
 case atStart=>exact ⟨0,Nat.zero_le _,rfl,rfl,aU⟩
 case round=>
  obtain ⟨j,hj,rfl,rfl,F⟩:=hrel;have K:=aA F;by_cases D:j<P.length
  .obtain ⟨g,rfl,V,W,Z⟩:=(E.out.next F).at' j D
   (have hx:=q.out (P.getD j 0) (by rw[zG,zg D];exact List.getElem_mem _));(have U:=Hi P r q.out j (by omega));have C:=tu r (P.length-1-j) (P.getD j 0) hx;have R:Hid (lR P r (j+1)=aT (lR P r j) (bt r (P.length-1-j)*2^(P.getD j 0).toNat)):=aA rfl;(have N:(j:Int)<P.length:=by omega);clear F;generalize P.getD j 0=X at *;generalize lR P r j=Y at *;(go_wp2_with (go_at_call 112;refine (oi r ((P.length:Int)-1-j) 1 _ (by omega) (by omega) (by decide) (by decide)).mono ?_;rintro e w' ⟨rfl,nk,rfl⟩));(refine ⟨⟨j+1,by omega,by go_num,?_,below_drewN K.out _⟩,by simp[intOf];omega⟩);(have e:wrap64 (aD r ((P.length:Int)-1-j) ((P.length:Int)-1-j)*2^X.toNat)=bt r (P.length-1-j)*2^X.toNat:=o3 _ (by unfold bt at C;omega));rw[R.out,e];rfl
  have H:j=P.length:=by omega
  subst H;go_wp2;go_ret;exact ⟨by rw[Q.out];rfl,u.out.trans (K.out.mono u.out.size)⟩
def jz (p:List Int) (n:Int):Nat->Int
 | 0=>0
 | j+1=>aT (jz p n j*2) (bt n (p.getD j 0))
def Az (p) (n) (j) (u:j<=16):0<=jz p n j/\jz p n j<2^j:=by
 induction j with
 | zero=>simp[jz]
 | succ j ih=>
  have h:=ih (by omega)
  have q:=wC n (p.getD j 0);have v:=pow_pos j;have e:=pr j;have w:(1:Int)<=2^j:=by omega
  exact AP _ _ (j+1) (by omega) (by omega) (by omega) (by omega) (by omega)
def im (order:List UInt8) (k:Nat):Int:=Go.Lib.indexByte [48,49,50,51,52,53,54,55,56,57,97,98] (order.getD k 0)
def jl (half:List UInt8) (from' n:Int):Int:=
 if from'<=31 then from' else jz (places half from') n (places half from').length+(if (places half from').length=3 then 8 else 0)
def C4 (f:Fm) (c n) (w) (hA:∀x∈f.half,x.toNat<128) (T:f.half.length<=16) (c0:0<=c) (c1:c<=200):
    aG prog 126 #[.agg (eN f).toArray,.int .i64 c,.int .i64 n] w (.int .i64 (jl f.half c n)):=by
 unfold aG;by_cases R:c<=31
 .have F:Hid (jl f.half c n=c):=aA (by unfold jl;rw[zt R])
  unfold eN;go_in;go_wp2;go_ret;exact ⟨by rw[F.out];rfl,aJ⟩
 have y:=aA (ug f c (w.alloc (.cells (eN f).toArray 114)) hA T);have u:=aA (ry f.half c f.half.length T);have O:=pK f.half c f.half.length;have F:Hid (jl f.half c n=jz (places f.half c) n (places f.half c).length+(if (places f.half c).length=3 then 8 else 0)):=aA (by unfold jl;rw[aC R])
 have W:IntKind.i32.wrap c=c:=by rw[IntKind.wrap_i32];omega
 unfold eN at *;go_in;go_wp2_with fail;refine y.out.mono ?_;rintro e Q ⟨v,rfl,q,A⟩;obtain ⟨ao,cap,rfl,C⟩:=pB q;have h:Hid (Below w.heap.size w Q):=aA (aJ.trans (A.mono (by simp)))
 have H:=aA C;clear q A y C
 change Hid (∀x∈places f.half c,0<=x/\x<=15) at u
 change (places f.half c).length<=f.half.length at O
 generalize places f.half c=P at *;have V:P.length<=16:=by omega
 go_wp2_with fail;go_loopw [8,20] (λ a i wr=>∃j:Nat,j<=P.length/\i=.int .i64 j/\a=.int .i64 (jz P n j)/\Below Q.heap.size Q wr) (λ _ i _=>P.length-(intOf i).toNat)
 case atStart=>exact ⟨0,Nat.zero_le _,rfl,rfl,aU⟩
 case round=>
  obtain ⟨j,hj,rfl,rfl,J⟩:=hrel;have G:=aA J;have L:=Az P n j (by omega)
  have E:(2:Int)^j<=65536:=by
   (have:=gU (show j<=16 by omega));(have e:(2:Int)^16=65536:=by decide);omega
  by_cases D:j<P.length
  .obtain ⟨g,rfl,M,ac,ae⟩:=(H.out.next J).at' j D
   (have hx:=u.out (P.getD j 0) (by rw[zG,zg D];exact List.getElem_mem _));have Z:Hid (jz P n (j+1)=aT (jz P n j*2) (bt n (P.getD j 0))):=aA rfl;(have U:(j:Int)<P.length:=by omega);clear J M;generalize P.getD j 0=X at *;generalize jz P n j=Y at *;(have hY:0<=Y/\Y<65536:=by omega);clear L E;(go_wp2_with (go_at_call 112;refine (oi n X 1 _ (by omega) (by omega) (by decide) (by decide)).mono ?_;rintro e w' ⟨rfl,nk,rfl⟩));exact ⟨⟨j+1,by omega,by go_num,by rw[Z.out];rfl,below_drewN G.out _⟩,by simp[intOf];omega⟩
  have N:j=P.length:=by omega
  subst N;by_cases I:P.length=3
  .go_wp2
   go_ret;(have K:=Az P n 3 (by decide));exact ⟨iB (by rw[F.out,zt I,I];exact o3 _ (by simp at K;omega)),h.out.trans (G.out.mono h.out.size)⟩
  have aa:¬(P.length:Int)=3:=by omega
  go_wp2;go_ret;exact ⟨by rw[F.out,aC I,Int.add_zero];rfl,h.out.trans (G.out.mono h.out.size)⟩
def D1 (f:Fm) (k) (w) (q:k<f.order.length):
    aG prog 124 #[.agg (eN f).toArray,.int .i64 k] w (.int .i64 (im f.order k)):=by
 unfold aG;obtain ⟨half,order,signed,op,rd,rs1,rs2,hold⟩:=f;simp only at q ⊢
 have v:Hid (∀(h:k<(⟨order.toArray⟩:ByteArray).size),(⟨order.toArray⟩:ByteArray)[k]'h=order.getD k 0):=aA (λ h=>by
  have:(⟨order.toArray⟩:ByteArray)[k]'h=order[k]:=rfl;rw[this];simp[q])
 have A:(⟨order.toArray⟩:ByteArray).size=order.length:=by simp[ByteArray.size]
 have j:k<(⟨order.toArray⟩:ByteArray).size:=by omega
 have y:(k:Int)<order.length:=by omega
 have u:Hid (im order k=Lib.indexByte [48,49,50,51,52,53,54,55,56,57,97,98] (order.getD k 0)):=aA rfl;unfold eN;simp only;generalize (⟨order.toArray⟩:ByteArray)=O at *;go_in;go_wp2_with (go_at_call 181;refine zk (strings_IndexByte _ _ _) ?_);go_ret;exact ⟨iB (by rw[u.out,<-v.out j]),aJ⟩
def vK (f:Fm) (p:List Int) (n:Int) (j:Nat):Int:=
 if j=0/\f.signed=true then -(bt n (p.getD j 0)*2^(im f.order j).toNat) else bt n (p.getD j 0)*2^(im f.order j).toNat
def nY (f:Fm) (p:List Int) (n:Int):Nat->Int
 | 0=>0
 | j+1=>aT (nY f p n j) (vK f p n j)
def nc (f:Fm) (n:Int):Int:=nY f (places f.half 105) n (places f.half 105).length
structure qa (f:Fm):Prop where
 asc:∀x∈f.half,x.toNat<128
 len:f.half.length<=16
 ord:(places f.half 105).length=f.order.length
 bit:∀k,k<f.order.length->0<=im f.order k/\im f.order k<=11
def Vo (n q x:Int) (h:0<=x/\x<=11):0<=bt n q*2^x.toNat/\bt n q*2^x.toNat<65536:=tu n q x ⟨h.1,by omega⟩
def Hc (f:Fm) (n) (w) (N:qa f):
    aG prog 127 #[.agg (eN f).toArray,.int .i64 n] w (.int .i64 (nc f n)):=by
 unfold aG;have hA:=N.asc;have hl:=N.len;have I:=aA (ug f 105 (w.alloc (.cells (eN f).toArray 114)) hA hl);have H:=aA (ry f.half 105 f.half.length hl);have ac:=pK f.half 105 f.half.length;have F:=aA (aF.new w (eN f) 114);have HR:Hid (nc f n=nY f (places f.half 105) n (places f.half 105).length):=aA rfl;have ak:=N.ord;have O:=aA N.bit;have G:=aA (λ k w' hk=>D1 f k w' hk)
 unfold eN at *;go_in;go_wp2_with fail;refine I.out.mono ?_;rintro e w1 ⟨v,rfl,u,C⟩;obtain ⟨ao,cap,rfl,J⟩:=pB u;have E:Hid (Below w.heap.size w w1):=aA (aJ.trans (C.mono (by simp)))
 have R:=aA J;have Q:=aA (F.out.next C);clear u C I J F
 change Hid (∀x∈places f.half 105,0<=x/\x<=15) at H
 change (places f.half 105).length<=f.half.length at ac
 generalize places f.half 105=P at *;have al:P.length<=16:=by omega
 go_wp2_with fail;go_loopw [5,12] (λ a i wr=>∃j:Nat,j<=P.length/\i=.int .i64 j/\a=.int .i64 (nY f P n j)/\Below w1.heap.size w1 wr) (λ _ i _=>P.length-(intOf i).toNat)
 case atStart=>exact ⟨0,Nat.zero_le _,rfl,rfl,aU⟩
 case round=>
  obtain ⟨j,hj,rfl,rfl,M⟩:=hrel;have y:=aA M;by_cases K:j<P.length
  .obtain ⟨g,rfl,aa,au,av⟩:=(R.out.next M).at' j K
   (have hx:=H.out (P.getD j 0) (by rw[zG,zg K];exact List.getElem_mem _));(have W:=O.out j (by omega));have hb:=Vo n (P.getD j 0) (im f.order j) W;have U:Hid (nY f P n (j+1)=aT (nY f P n j) (vK f P n j)):=aA rfl;have T:Hid (vK f P n j=if j=0/\f.signed=true then -(bt n (P.getD j 0)*2^(im f.order j).toNat) else bt n (P.getD j 0)*2^(im f.order j).toNat):=aA rfl;(have aj:(j:Int)<P.length:=by omega);have q:=Q.out.next M;have c0:=cell_regrown (q.2.2 0 _ rfl);have c1:=cell_regrown (q.2.2 1 _ rfl);have c2:=cell_regrown (q.2.2 2 _ rfl);have c3:=cell_regrown (q.2.2 3 _ rfl);have c4:=cell_regrown (q.2.2 4 _ rfl);have c5:=cell_regrown (q.2.2 5 _ rfl);have c6:=cell_regrown (q.2.2 6 _ rfl);have c7:=cell_regrown (q.2.2 7 _ rfl);(have A:=aA (λ w'=>G.out j w' (by omega)));clear M aa q;generalize P.getD j 0=X at *;generalize nY f P n j=Y at *;generalize im f.order j=Z at *;(have wa:IntKind.i64.wrap (aD n X X*2^Z.toNat)=aD n X X*2^Z.toNat:=zw _ (by unfold bt at hb;omega));go_wp2_with fail;refine wp_region_quiet_below (by kernel_rfl) (by kernel_rfl) ?_
   repeat (quiet_step (first
    | (go_at_call 112;exact Calls.regrown_of ((oi n X 1 _ (by omega) (by omega) (by decide) (by decide)).mono (by rintro e w' ⟨rfl,nk,rfl⟩;exact ⟨rfl,below_drewN aU _⟩)))
    | (go_at_call 124;exact Calls.regrown_of (A.out _))))
   refine wpQuiet_nil ?_;intro _ ae;obtain ⟨⟨V,osq⟩,L⟩:=ae;subst L;by_cases h0:j=0
   .subst h0
    by_cases D:f.signed=true
    .go_wp2_with fail
     (refine ⟨⟨1,by omega,rfl,?_,y.out.trans ((below_regrown wr V osq).mono y.out.size)⟩,by simp[intOf];omega⟩);(have e:wrap64 (-(aD n X X*2^Z.toNat))=-(bt n X*2^Z.toNat):=o3 _ (by unfold bt at hb;omega));rw[U.out,T.out,zt ⟨rfl,D⟩,e];rfl
    (have am:f.signed=false:=by simpa using D);go_wp2_with fail;(refine ⟨⟨1,by omega,rfl,?_,y.out.trans ((below_regrown wr V osq).mono y.out.size)⟩,by simp[intOf];omega⟩);(rw[U.out,T.out,aC (λ h=>D h.2)]);rfl
   (have aq:¬(j:Int)=0:=by omega);go_wp2_with fail;(refine ⟨⟨j+1,by omega,by go_num,?_,y.out.trans ((below_regrown wr V osq).mono y.out.size)⟩,by simp[intOf];omega⟩);(rw[U.out,T.out,aC (λ h=>h0 h.1)]);rfl
  have ab:j=P.length:=by omega
  subst ab;go_wp2;go_ret;exact ⟨by rw[HR.out];rfl,E.out.trans (y.out.mono E.out.size)⟩
def jV (l:List UInt8):Nat->Int
 | 0=>0
 | j+1=>if (l.getD j 0).toNat=49 then aT (jV l j) (2^(15-(j:Int)).toNat) else jV l j
def A2 (l) (j) (u:j<=16):0<=jV l j/\jV l j<65536:=by
 induction j with
 | zero=>simp[jV]
 | succ j ih=>
  have h:=ih (by omega)
  simp only[jV]
  split
  .have v:(2:Int)^(15-(j:Int)).toNat<=2^15:=gU (by omega)
   (have e:(2:Int)^15=32768:=by decide);have q:=pow_pos (15-(j:Int)).toNat;exact qM _ _ h.1 h.2 (by omega) (by omega)
  exact h
def mB (f:Fm) (p:List Int) (imm:Int) (h0:Int):Nat->Int
 | 0=>h0
 | j+1=>aT (mB f p imm h0 j) (bt imm (im f.order j)*2^(p.getD j 0).toNat)
def Ul (f:Fm) (p) (imm h0) (u:0<=h0) (v:h0<65536) (w:∀x∈p,0<=x/\x<=15) (j) (y:j<=p.length):0<=mB f p imm h0 j/\mB f p imm h0 j<65536:=by
 induction j with
 | zero=>exact ⟨u,v⟩
 | succ j ih=>
  have h:=ih (by omega)
  have hx:0<=p.getD j 0/\p.getD j 0<=15:=w _ (by rw[zG,zg (by omega)];exact List.getElem_mem _)
  have q:=tu imm (im f.order j) (p.getD j 0) hx;exact qM _ _ h.1 h.2 q.1 q.2
def ni (f:Fm) (c r:Int):Int:=lR (places f.half c) r (places f.half c).length
def A3 (f:Fm) (h:qa f) (c r):0<=ni f c r/\ni f c r<65536:=Hi _ _ (ry f.half c f.half.length h.len) _ zn
def oM (f:Fm) (i:aE):Int:=aT (jV f.half f.half.length) (aT (aT (ni f 100 i.rd) (ni f 115 i.rs1)) (ni f 116 i.rs2))
def DZ (f:Fm) (h:qa f) (i):0<=oM f i/\oM f i<65536:=by
 have j:=A2 f.half f.half.length h.len;have q:=A3 f h 100 i.rd;have u:=A3 f h 115 i.rs1;have v:=A3 f h 116 i.rs2;have w:=qM _ _ q.1 q.2 u.1 u.2;have y:=qM _ _ w.1 w.2 v.1 v.2;exact qM _ _ j.1 j.2 y.1 y.2
def jR (f:Fm) (i:aE):Int:=mB f (places f.half 105) i.imm (oM f i) (places f.half 105).length
structure pk (w0:World) (fr ic:List Value) (w:World):Prop where
 f:aF w0.heap.size fr w
 i:aF (w0.heap.size+1) ic w
 b:Below w0.heap.size w0 w
def pk.next (h:pk w0 fr ic w) (j:Below w.heap.size w w'):pk w0 fr ic w':=
 ⟨h.f.next j,h.i.next j,h.b.trans (j.mono h.b.size)⟩
def pk.iter (h:pk w0 fr ic w) (s) (p):pk w0 fr ic (w.iterAt (w0.heap.size+2) s p):=
 ⟨h.f.step (tn w (w0.heap.size+2) s p (Below.refl (w0.heap.size+2) w) zn) (by omega),h.i.step (tn w (w0.heap.size+2) s p (Below.refl (w0.heap.size+2) w) zn) (by omega),tn w _ s p h.b (by omega)⟩
def ML (f:Fm) (i) (w) (hf:qa f):
    aG prog 65 #[.agg (eN f).toArray,i.val] w (.int .i64 (jR f i)):=by
 unfold aG;have hA:=hf.asc;have hl:=hf.len;obtain ⟨E,A,u,y,h⟩:=i;have HW:Hid (jR f ⟨E,A,u,y,h⟩=mB f (places f.half 105) h (oM f ⟨E,A,u,y,h⟩) (places f.half 105).length):=aA rfl;have ac:Hid (oM f ⟨E,A,u,y,h⟩=aT (jV f.half f.half.length) (aT (aT (ni f 100 A) (ni f 115 u)) (ni f 116 y))):=aA rfl;have bi:=aA (DZ f hf ⟨E,A,u,y,h⟩);generalize oM f ⟨E,A,u,y,h⟩=WB at *;have ab:=aA (λ w'=>ug f 105 w' hA hl)
 have aa:=aA (ry f.half 105 f.half.length hl);have a8:=pK f.half 105 f.half.length;have bf:=hf.ord;have aw:=aA hf.bit;have V:=aA (λ k w' hk=>D1 f k w' hk)
 have ae:=aA (λ c r w'=>(show Calls prog 122 #[.agg (eN f).toArray,.int .i32 c,.int .i64 r] w' λ e a9=>e=.returned (.int .i64 (ni f c r))/\Below w'.heap.size w' a9 from Jg f c r w' hA hl))
 have U:=aA (aF.new w (eN f) 114);unfold aE.val;unfold eN at *;simp only at *;generalize hS:(⟨f.half.toArray⟩:ByteArray)=S at *;have HS:Hid (S.data.toList=f.half):=aA (by rw[<-hS])
 have a2:S.size=f.half.length:=by rw[<-hS];simp[ByteArray.size]
 clear hS;go_in;go_wp2_with fail;go_loopw [5] (λ a wr=>∃j:Nat,j<=S.size/\a=.int .i64 (jV f.half j)/\wr.heap[w.heap.size+2]?=some (.stringIter S j)/\pk w [.string S,.string ⟨f.order.toArray⟩,.bool f.signed,.int .i64 f.op,.int .i64 f.rd,.int .i64 f.rs1,.int .i64 f.rs2,.func (.func (gr f.hold)) #[] #[]] [.int .i64 E,.int .i64 A,.int .i64 u,.int .i64 y,.int .i64 h] wr) (λ _ wr=>S.size-wr.iterPos (w.heap.size+2))
 case atStart=>
  have e2:((w.alloc (.cells #[.string S,.string ⟨f.order.toArray⟩,.bool f.signed,.int .i64 f.op,.int .i64 f.rd,.int .i64 f.rs1,.int .i64 f.rs2,.func (.func (gr f.hold)) #[] #[]] 114)).alloc (.cells #[.int .i64 E,.int .i64 A,.int .i64 u,.int .i64 y,.int .i64 h] 26)).heap.size=w.heap.size+2:=by simp
  have e3:=heap_alloc_last ((w.alloc (.cells #[.string S,.string ⟨f.order.toArray⟩,.bool f.signed,.int .i64 f.op,.int .i64 f.rd,.int .i64 f.rs1,.int .i64 f.rs2,.func (.func (gr f.hold)) #[] #[]] 114)).alloc (.cells #[.int .i64 E,.int .i64 A,.int .i64 u,.int .i64 y,.int .i64 h] 26)) (.stringIter S 0);rw[e2]at e3;have e4:=aF.new (w.alloc (.cells #[.string S,.string ⟨f.order.toArray⟩,.bool f.signed,.int .i64 f.op,.int .i64 f.rd,.int .i64 f.rs1,.int .i64 f.rs2,.func (.func (gr f.hold)) #[] #[]] 114)) [.int .i64 E,.int .i64 A,.int .i64 u,.int .i64 y,.int .i64 h] 26;rw[za]at e4;exact ⟨0,Nat.zero_le _,rfl,e3,⟨(U.out.alloc _).alloc _,e4.alloc _,(aJ.alloc (by rw[za];omega) _).alloc (by rw[za,za];omega) _⟩⟩
 case round=>
  obtain ⟨j,hj,rfl,hit,hw⟩:=hrel;by_cases D:j<S.size
  .have Q:j<f.half.length:=by omega
   have O:(S[j]'D)=f.half.getD j 0:=by
    (have:S[j]'D=S.data.toList[j]'(by simpa using D):=rfl);rw[this,List.getElem_of_eq HS.out];simp[Q]
   have I:(S[j]'D).toNat<128:=by
    rw[O,zG,zg Q];exact hA _ (List.getElem_mem Q)
   have a7:∀T,(Instr.next (.pointer (some ⟨w.heap.size+1+1,0,none⟩)) true T).run prog wr=.ok (.tuple #[.bool true,.int .i64 j,.int .i32 (S[j]'D).toNat]) (wr.iterAt (w.heap.size+2) S (j+1)):=λ T=>
    Lib.run_next_ascii_at wr (w.heap.size+2) S j T hit D I
   have q:=aA (hw.iter S (j+1));have G:=aA (Lib.iterAt_heap wr (w.heap.size+2) S j (j+1) hit);have H:=aA hit;(have ah:=A2 f.half j (by omega));(have HO:Hid (jV f.half (j+1)=if (S[j]'D).toNat=49 then aT (jV f.half j) (2^(15-(j:Int)).toNat) else jV f.half j):=aA (by rw[O];rfl));clear hit hw;generalize (S[j]'D).toNat=r at *;clear O I;generalize jV f.half j=Y at *;generalize wr.iterAt (w.heap.size+2) S (j+1)=W at *;by_cases hc:r=49
   .subst hc
    have HP:Hid (wrap64 (2^(15-j))=2^(15-(j:Int)).toNat):=aA (by
     (have hp:(2:Int)^(15-j)<=2^15:=gU (by omega));(have dQ:(2:Int)^15=32768:=by decide);have b0:=pow_pos (15-j);(rw[show (15-(j:Int)).toNat=15-j by omega]);exact o3 _ (by omega))
    go_wp2_with fail;refine ⟨⟨j+1,by omega,?_,G.out,q.out⟩,?_⟩
    .rw[HO.out,zt rfl,HP.out]
     rfl
    simp[World.iterPos,G.out,H.out];omega
   (have bq:¬(r:Int)=49:=by omega);go_wp2;go_roundw;case rel=>exact ⟨j+1,by omega,by rw[HO.out,aC hc],G.out,q.out⟩
   case measure=>
    simp[World.iterPos,G.out,H.out];omega
  have a4:j=S.size:=by omega
  have a7:∀T,(Instr.next (.pointer (some ⟨w.heap.size+1+1,0,none⟩)) true T).run prog wr=.ok (.tuple #[.bool false]) wr:=λ T=>
   Lib.run_next_end_at wr (w.heap.size+2) S j T hit D
  subst a4;have ah:=A2 f.half S.size (by omega)
  rw[a2]at ah ⊢;have q:=aA hw;clear hw hit;generalize jV f.half f.half.length=Y at *;have c0:=cell_regrown (q.out.f.2.2 0 _ rfl);have c1:=cell_regrown (q.out.f.2.2 1 _ rfl);have c2:=cell_regrown (q.out.f.2.2 2 _ rfl);have c3:=cell_regrown (q.out.f.2.2 3 _ rfl);have c4:=cell_regrown (q.out.f.2.2 4 _ rfl);have c5:=cell_regrown (q.out.f.2.2 5 _ rfl);have c6:=cell_regrown (q.out.f.2.2 6 _ rfl);have c7:=cell_regrown (q.out.f.2.2 7 _ rfl);have d1:=cell_regrown (q.out.i.2.2 1 _ rfl);have d2:=cell_regrown (q.out.i.2.2 2 _ rfl);have d3:=cell_regrown (q.out.i.2.2 3 _ rfl);go_wp2_with fail;refine wp_region_quiet_below (by kernel_rfl) (by kernel_rfl) ?_
  repeat (quiet_step (first
   | (go_at_call 122;exact Calls.regrown_of (ae.out _ _ _))))
  refine wpQuiet_nil ?_;intro _ R;obtain ⟨⟨dq,osq⟩,F⟩:=R;subst F;have HE:=ac.out.symm;unfold aT at HE;rw[HE];have M:=aA (q.out.next (below_regrown wr dq osq))
  change Hid (∀x∈places f.half 105,0<=x/\x<=15) at aa
  change (places f.half 105).length<=f.half.length at a8
  clear c0 c1 c2 c3 c4 c5 c6 c7 d1 d2 d3 HE ac ae q U;simp only at *;generalize Go.Sort.grow (redrawn wr dq) osq=W3 at *;obtain ⟨c0,c1,c2,c3,c4,c5,c6,c7⟩:=z8 M.out.f.2.2;go_wp2_with fail;refine (ab.out _).mono ?_;rintro e w4 ⟨v,rfl,K,af⟩;obtain ⟨ao,cap,rfl,ag⟩:=pB K;have ay:=aA ag;have N:=aA (M.out.next af);clear K af ag M ab c0 c1 c2 c3 c4 c5 c6 c7;generalize places f.half 105=P at *;have bg:P.length<=16:=by omega
  go_wp2_with fail;go_loopw [5,43] (λ a i wr=>∃j:Nat,j<=P.length/\i=.int .i64 j/\a=.int .i64 (mB f P h WB j)/\Below w4.heap.size w4 wr) (λ _ i _=>P.length-(intOf i).toNat)
  case atStart=>exact ⟨0,Nat.zero_le _,rfl,rfl,aU⟩
  case round=>
   obtain ⟨j,bv,rfl,rfl,hB⟩:=hrel;have HB:=aA hB;by_cases J:j<P.length
   .obtain ⟨g,rfl,a3,bs,bu⟩:=(ay.out.next hB).at' j J
    (have hx:=aa.out (P.getD j 0) (by rw[zG,zg J];exact List.getElem_mem _));(have bp:=aw.out j (by omega));have hb:=tu h (im f.order j) (P.getD j 0) hx;have az:Hid (mB f P h WB (j+1)=aT (mB f P h WB j) (bt h (im f.order j)*2^(P.getD j 0).toNat)):=aA rfl;(have be:(j:Int)<P.length:=by omega);have C:=aA (N.out.next hB);have c0:=cell_regrown (C.out.f.2.2 0 _ rfl);have c1:=cell_regrown (C.out.f.2.2 1 _ rfl);have c2:=cell_regrown (C.out.f.2.2 2 _ rfl);have c3:=cell_regrown (C.out.f.2.2 3 _ rfl);have c4:=cell_regrown (C.out.f.2.2 4 _ rfl);have c5:=cell_regrown (C.out.f.2.2 5 _ rfl);have c6:=cell_regrown (C.out.f.2.2 6 _ rfl);have c7:=cell_regrown (C.out.f.2.2 7 _ rfl);have d4:=cell_regrown (C.out.i.2.2 4 _ rfl);(have L:=aA (λ w'=>V.out j w' (by omega)));clear hB a3;generalize P.getD j 0=X at *;generalize mB f P h WB j=Y2 at *;generalize im f.order j=Z at *;(have wa:IntKind.i64.wrap (aD h Z Z*2^X.toNat)=aD h Z Z*2^X.toNat:=zw _ (by unfold bt at hb;omega));go_wp2_with fail;refine wp_region_quiet_below (by kernel_rfl) (by kernel_rfl) ?_
    repeat (quiet_step (first
     | (go_at_call 112;exact Calls.regrown_of ((oi h Z 1 _ (by omega) (by omega) (by decide) (by decide)).mono (by rintro e w' ⟨rfl,nk,rfl⟩;exact ⟨rfl,below_drewN aU _⟩)))
     | (go_at_call 124;exact Calls.regrown_of (L.out _))))
    refine wpQuiet_nil ?_;intro _ R;obtain ⟨⟨dq,osq⟩,F⟩:=R;subst F;go_wp2_with fail;(refine ⟨⟨j+1,by omega,by go_num,?_,HB.out.trans ((below_regrown wr dq osq).mono HB.out.size)⟩,by simp[intOf];omega⟩);rw[az.out];rfl
   (have a5:j=P.length:=by omega);subst a5;go_wp2;go_ret;exact ⟨by rw[HW.out];rfl,N.out.b.trans (HB.out.mono N.out.b.size)⟩
def fH (h:Nat) (i:aE):Bool:=match h with
 | 0=>true
 | 1=>i.rd != 0
 | 2=>i.rs1 != 0
 | 3=>i.imm != 0
 | 4=>i.rd != 0&&i.rs2 != 0
 | 5=>i.rd != 0&&i.imm != 0
 | 6=>(i.rd != 0)==(i.imm != 0)
 | 7=>i.rd != 0&&i.imm != 0&&i.rd != 2
 | _=>false
def gS (f:Fm) (n:Int):aE:=⟨f.op,jl f.half f.rd n,jl f.half f.rs1 n,jl f.half f.rs2 n,nc f n⟩
def fW (f:Fm) (n:Int):aE×Bool:=if hZ f.half n then (gS f n,fH f.hold (gS f n)) else (⟨0,0,0,0,0⟩,false)
def TI (i) (w):aG prog 115 #[i.val] w (.bool (fH 0 i)):=by
 unfold aG;obtain ⟨op,rd,rs1,rs2,imm⟩:=i;unfold aE.val;go_in;go_wp2_with fail
 all_goals
  go_ret;exact ⟨by first|rfl|simp_all[fH],aJ⟩
def UZ (i) (w):aG prog 117 #[i.val] w (.bool (fH 1 i)):=by
 unfold aG;obtain ⟨op,rd,rs1,rs2,imm⟩:=i;unfold aE.val;go_in;go_wp2_with fail
 all_goals
  go_ret;exact ⟨by first|rfl|simp_all[fH],aJ⟩
def Uc (i) (w):aG prog 120 #[i.val] w (.bool (fH 2 i)):=by
 unfold aG;obtain ⟨op,rd,rs1,rs2,imm⟩:=i;unfold aE.val;go_in;go_wp2_with fail
 all_goals
  go_ret;exact ⟨by first|rfl|simp_all[fH],aJ⟩
def VN (i) (w):aG prog 114 #[i.val] w (.bool (fH 3 i)):=by
 unfold aG;obtain ⟨op,rd,rs1,rs2,imm⟩:=i;unfold aE.val;go_in;go_wp2_with fail
 all_goals
  go_ret;exact ⟨by first|rfl|simp_all[fH],aJ⟩
def U1 (i) (w):aG prog 121 #[i.val] w (.bool (fH 4 i)):=by
 unfold aG;obtain ⟨op,rd,rs1,rs2,imm⟩:=i;unfold aE.val;go_in;go_wp2_with fail
 all_goals
  go_ret;exact ⟨by first|rfl|simp_all[fH],aJ⟩
def Ho (i) (w):aG prog 119 #[i.val] w (.bool (fH 5 i)):=by
 unfold aG;obtain ⟨op,rd,rs1,rs2,imm⟩:=i;unfold aE.val;go_in;go_wp2_with fail
 all_goals
  go_ret;exact ⟨by first|rfl|simp_all[fH],aJ⟩
def TW (i) (w):aG prog 116 #[i.val] w (.bool (fH 6 i)):=by
 unfold aG;obtain ⟨op,rd,rs1,rs2,imm⟩:=i;unfold aE.val;go_in;go_wp2_with fail
 all_goals
  go_ret;exact ⟨by first|rfl|simp_all[fH],aJ⟩
def V8 (i) (w):aG prog 118 #[i.val] w (.bool (fH 7 i)):=by
 unfold aG;have v:=aA (λ w'=>Ho i w')
 have u:Hid (fH 7 i=(fH 5 i&&i.rd != 2)):=aA rfl;generalize fH 5 i=X at *;obtain ⟨op,rd,rs1,rs2,imm⟩:=i;unfold aE.val at *;simp only at *;go_in;go_wp2_with fail;refine zK (v.out _) λ D h=>?_;have C:=h.size;obtain ⟨y,A,j⟩:=(aF.new w [.int .i64 op,.int .i64 rd,.int .i64 rs1,.int .i64 rs2,.int .i64 imm] 26).next h;have c1:=j 1 _ rfl;have q:Hid (Below w.heap.size w D):=aA (aJ.trans (h.mono (by simp)))
 clear h j C;cases X
 .go_wp2_with fail
  all_goals
   go_ret;exact ⟨by rw[u.out];rfl,q.out⟩
 go_wp2_with fail
 all_goals
  go_ret;exact ⟨by rw[u.out];rfl,q.out⟩
def Pg (h) (j:h<8) (i) (w):Calls prog (gr h) #[i.val] w λ e w'=>e=.returned (.bool (fH h i))/\Below w.heap.size w w':=by
 match h,j with
 | 0,_=>exact TI i w
 | 1,_=>exact UZ i w
 | 2,_=>exact Uc i w
 | 3,_=>exact VN i w
 | 4,_=>exact U1 i w
 | 5,_=>exact Ho i w
 | 6,_=>exact TW i w
 | 7,_=>exact V8 i w
