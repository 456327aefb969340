import Derived.MakeChecks
import Derived.ProofKit
import Derived.OpenShut
import Derived.Deep.Slices
import Derived.Lib.LaidTab
import Derived.Shelf.Vars
import Derived.SizedLaws
import Derived.Lib.OthersKept
import Derived.Lib.SmallJoins
import Derived.Test.YtbmcofdodfcnnaaGreatDoorGY
import Derived.Test.YtbmcofdodfcnnaaGreatDoorRows
import Derived.Test.YtbmcofdodfcnnaaGreatDoorV10
set_option linter.all false
set_option maxHeartbeats 0
set_option maxRecDepth 100000
namespace Go
open Proofs Proofs.Tryz ChangeShapes WideShapes ChangeAt RowKit
variable {fuel n g f a p : Nat} {t u e : TypeId} {l xs : List Value} {c v : Value} {W w' W0 : World} {k r : Int} {L : ByteArray}
def EA {H:Type} {bB:TypeId×Value->H} {P:Program} {w:World} {base:Nat} {sp:Nat->Bool} {q:Array (String×TypeId)} {cs:List Value} {name:String} {d:DataW H} {p:List MemPlace} (j:P.underlying t=some (.interface q)) (h:DataW.trod bB P w base sp false fuel t cs=some (.iface name d,p)):∃u v,cs=[.iface u v]:=by
 cases fuel with
 | zero=>simp[DataW.trod]at h
 | succ n=>
  unfold DataW.trod at h;rw[j]at h
  cases cs with
  | nil=>simp at h
  | cons c cs=>
   cases cs with
   | cons c2 cs=>cases c<;>simp at h
   | nil=>
    cases c with
    | iface u v=>exact ⟨u,v,rfl⟩
    | _=>simp at h
def Ap:prog.cellsOf 3=1:=by kernel_rfl
def Ex:prog.cellsOf 9=1:=by kernel_rfl
def MV:prog.cellsOf 4=1:=by kernel_rfl
def OA:prog.cellsOf 26=5:=by kernel_rfl
def mj (h:l.length=n+1):∃c r,l=c::r/\r.length=n:=by
 cases l with
 | nil=>simp at h
 | cons c r=>exact ⟨c,r,rfl,by simpa using h⟩
section
variable {H : Type} {bB : TypeId × Value → H} {w : World} {base : Nat} {sp : Nat → Bool} {hd : Bool}
def nN {x:Option (DataW H×List MemPlace)} (h:DataW.trod bB prog w base sp hd fuel 3 [c]=x) (hx:x.isSome=true):∃k,c=.int .i64 k:=by
 obtain ⟨y,rfl⟩:=Option.isSome_iff_exists.1 hx;obtain ⟨k,e,_⟩:=DataW.trod_int underlying3 h;exact ⟨k,by simpa using e⟩
def Us {x:Option (DataW H×List MemPlace)} (h:DataW.trod bB prog w base sp hd fuel 9 [c]=x) (hx:x.isSome=true):∃k,c=.string k:=by
 obtain ⟨y,rfl⟩:=Option.isSome_iff_exists.1 hx;obtain ⟨k,e,_⟩:=DataW.trod_string underlying9 h;exact ⟨k,by simpa using e⟩
def RO {x:Option (DataW H×List MemPlace)} (h:DataW.trod bB prog w base sp hd fuel 4 [c]=x) (hx:x.isSome=true):∃k,c=.bool k:=by
 obtain ⟨y,rfl⟩:=Option.isSome_iff_exists.1 hx;obtain ⟨k,e,_⟩:=DataW.trod_bool underlying4 h;exact ⟨k,by simpa using e⟩
def UH {c0 c1 c2 j c4:Value} {x:Option (DataW H×List MemPlace)} (h:DataW.trod bB prog w base sp hd fuel 26 [c0,c1,c2,j,c4]=x) (hx:x.isSome=true):
    ∃C D E F G,c0=.int .i64 C/\c1=.int .i64 D/\c2=.int .i64 E/\j=.int .i64 F/\c4=.int .i64 G:=by
 obtain ⟨y,rfl⟩:=Option.isSome_iff_exists.1 hx;obtain ⟨xs,n,_,_,_,u,q⟩:=DataW.trod_struct underlying26 h;have A:xs.length=5:=u;have v:∀i,i<5->(xs[i]?).isSome=true:=λ i hi=>by rw[zg (by omega)];rfl
 have I:DataW.trod bB prog w base sp hd n 3 (([c0,c1,c2,j,c4].drop 0).take (prog.cellsOf 3))=xs[0]?:=q 0 _ rfl;have J:DataW.trod bB prog w base sp hd n 3 (([c0,c1,c2,j,c4].drop 1).take (prog.cellsOf 3))=xs[1]?:=q 1 _ rfl;have K:DataW.trod bB prog w base sp hd n 3 (([c0,c1,c2,j,c4].drop 2).take (prog.cellsOf 3))=xs[2]?:=q 2 _ rfl;have L:DataW.trod bB prog w base sp hd n 3 (([c0,c1,c2,j,c4].drop 3).take (prog.cellsOf 3))=xs[3]?:=q 3 _ rfl;have M:DataW.trod bB prog w base sp hd n 3 (([c0,c1,c2,j,c4].drop 4).take (prog.cellsOf 3))=xs[4]?:=q 4 _ rfl;rw[Ap]at I J K L M;obtain ⟨C,rfl⟩:=nN I (v 0 (by omega))
 obtain ⟨D,rfl⟩:=nN J (v 1 (by omega))
 obtain ⟨E,rfl⟩:=nN K (v 2 (by omega))
 obtain ⟨F,rfl⟩:=nN L (v 3 (by omega))
 obtain ⟨G,rfl⟩:=nN M (v 4 (by omega))
 exact ⟨C,D,E,F,G,rfl,rfl,rfl,rfl,rfl⟩
end
def own:ownKnob prog.godebug=none:=by kernel_rfl
def RW:laidOutB prog=true:=by kernel_rfl
def Xv:prog.globalNamed "internal/strconv.uint64pow10"=some 1:=by kernel_rfl
def IY:prog.globalNamed "strconv.ErrSyntax"=some 6:=by kernel_rfl
def IW:prog.globalNamed "strconv.ErrRange"=some 7:=by kernel_rfl
def Xu:(prog.globals[1]?).map (·.type)=some 288:=by kernel_rfl
def Xw:(prog.globals[6]?).map (·.type)=some 141:=by kernel_rfl
def Xt:(prog.globals[7]?).map (·.type)=some 141:=by kernel_rfl
def Qs:prog.cellsOf 62=1:=by kernel_rfl
def Qy:prog.cellsOf 288=20:=by kernel_rfl
def BE {w:World} {n:String} {cs:Array Value} (q:prog.globalNamed n=some g) (y:w.var? prog n=some cs) (e:cs.toList=[.iface u v]):w.cell? ⟨g,0,none⟩=some (.iface u v):=by
 have h:=World.var?_cell q y 0;obtain ⟨l⟩:=cs;have j:l=[.iface u v]:=e;subst j;simpa using h
def Ue (J:laidMetH prog Proofs.YtbmcofdodfcnnaaGreatDoor.Rows.codesRow.laid W) (Q:W.ShapedOpen prog):aS W:=by
 rw[MakeChecks.laidMetH_plain _ _ _ (by kernel_rfl)]at J
 obtain ⟨ps,h,_⟩:=J;obtain ⟨_,_,_,_,_,_,_,_,_,_,h,_⟩:=h;obtain ⟨_,_,_,_,_,_,_,_,_,_,h,_⟩:=h;obtain ⟨V,t2,q,f2,R,q2,y,D,G,u,h,_⟩:=h;obtain ⟨_,_,_,_,_,_,_,_,_,_,h,_⟩:=h;obtain ⟨X,t4,L,f4,p4,q4,A,E,H,v,h,_⟩:=h;obtain ⟨Y,t5,M,f5,p5,q5,C,F,I,w,_,_⟩:=h;obtain rfl:=Option.some.inj (Xv.symm.trans y);obtain rfl:=Option.some.inj (IW.symm.trans A);obtain rfl:=Option.some.inj (IY.symm.trans C);obtain rfl:=Option.some.inj (Xu.symm.trans D);obtain rfl:=Option.some.inj (Xt.symm.trans E);obtain rfl:=Option.some.inj (Xw.symm.trans F);have j:DataW.trod (λ _=>()) prog W 0 (λ _=>true) false f2 288 q.toList=some (Lib.tabData .u64 Lib.pow10Tab,R):=u
 have N:=Lib.cells_of_tab underlying288 underlying62 Qs Qy j;obtain ⟨u4,T,O⟩:=EA underlying141 v;obtain ⟨u5,U,P⟩:=EA underlying141 w;have c4:=BE IW H O;have K:=BE IY I P;refine ⟨?_,?_,?_,⟨u5,U,K⟩,⟨u4,T,c4⟩⟩
 .have Z:7<W.heap.size:=World.block_lt_of_cell? W _ c4
  omega
 .show W.var? prog _=_
  rw[G,<-N]
 exact cell_of_shapedOpen_int (t:=3) (zero:=#[.int .i64 0]) Q (of_decide_eq_true (by kernel_rfl)) (by kernel_rfl) rfl (by kernel_rfl) (by kernel_rfl) underlying3
def tV (n) (w) (u:-9223372036854775808<=n) (v:n<=9223372036854775807) (y:aS w):
    Calls prog 113 #[.int .i64 n] w λ e w'=>∃s:ByteArray,e=.returned (.string s)/\s.size<=22/\Hid (s.data.toList=gP n)/\Below w.heap.size w w':=by
 go_in;go_wp2_with fail;refine (kL n _ u v y).mono ?_;rintro e C ⟨s,rfl,A,q,h⟩;have j:=aB h;clear h;go_wp2;go_ret;refine ⟨_,rfl,?_,?_,j.out⟩
 .have:(⟨#[120]⟩++s:ByteArray).size=1+s.size:=by rw[ByteArray.size_append];rfl
  omega
 show (⟨#[120]⟩++s:ByteArray).data.toList=_;rw[wG,q.out];rfl
def KD (op rd rs1 rs2 imm) (r) (C:gQ r) (w) (A:aS w) (d0:0<=rd) (d1:rd<=31) (F:0<=rs1) (s1:rs1<=31) (t0:0<=rs2) (t1:rs2<=31) (D:-1048576<=imm) (E:imm<=1048576):
    Calls prog 63 #[.agg #[.int .i64 op,.int .i64 rd,.int .i64 rs1,.int .i64 rs2,.int .i64 imm],.int .i32 r.toNat] w λ e w'=>
     ∃s:ByteArray,e=.returned (.string s)/\s.size<=22/\Hid (s.data.toList=pP ⟨op,rd,rs1,rs2,imm⟩ r)/\Below w.heap.size w w':=by
 have j:=aB (λ o=>A.alloc o)
 rcases C with rfl|rfl|rfl|rfl|rfl|rfl|rfl|rfl
 .show Calls prog 63 #[_,.int .i32 100] w _
  go_in;go_wp2_with fail;refine (tV rd _ (by omega) (by omega) (j.out _)).mono ?_
  rintro e y ⟨s,rfl,v,u,h⟩;have q:=aB (aJ.trans (h.mono (by simp)))
  clear h;go_wp2;go_ret;exact ⟨s,rfl,v,u,q.out⟩
 .show Calls prog 63 #[_,.int .i32 115] w _
  go_in;go_wp2_with fail;refine (tV rs1 _ (by omega) (by omega) (j.out _)).mono ?_
  rintro e y ⟨s,rfl,v,u,h⟩;have q:=aB (aJ.trans (h.mono (by simp)))
  clear h;go_wp2;go_ret;exact ⟨s,rfl,v,u,q.out⟩
 .show Calls prog 63 #[_,.int .i32 116] w _
  go_in;go_wp2_with fail;refine (tV rs2 _ (by omega) (by omega) (j.out _)).mono ?_
  rintro e y ⟨s,rfl,v,u,h⟩;have q:=aB (aJ.trans (h.mono (by simp)))
  clear h;go_wp2;go_ret;exact ⟨s,rfl,v,u,q.out⟩
 .show Calls prog 63 #[_,.int .i32 105] w _
  go_in;go_wp2_with fail;refine (kL imm _ (by omega) (by omega) (j.out _)).mono ?_
  rintro e y ⟨s,rfl,v,u,h⟩;have q:=aB (aJ.trans (h.mono (by simp)))
  clear h;go_wp2;go_ret;exact ⟨s,rfl,by omega,u,q.out⟩
 .show Calls prog 63 #[_,.int .i32 112] w _
  go_in;go_wp2_with fail;refine (kL imm _ (by omega) (by omega) (j.out _)).mono ?_
  rintro e y ⟨s,rfl,v,u,h⟩;have q:=aB (aJ.trans (h.mono (by simp)))
  clear h;go_wp2;go_ret;exact ⟨s,rfl,by omega,u,q.out⟩
 .show Calls prog 63 #[_,.int .i32 44] w _
  go_in;go_wp2;go_ret;exact ⟨_,rfl,by decide,rfl,aJ⟩
 .show Calls prog 63 #[_,.int .i32 40] w _
  go_in;go_wp2;go_ret;exact ⟨_,rfl,by decide,rfl,aJ⟩
 show Calls prog 63 #[_,.int .i32 41] w _;go_in;go_wp2;go_ret;exact ⟨_,rfl,by decide,rfl,aJ⟩
def Ce (kd) (h:nG kd) (w):
    zS prog 62 #[.int .i64 (fN kd)] w (.string ⟨(eQ kd).toArray⟩):=by
 unfold zS;rcases h with rfl|rfl|rfl|rfl|rfl|rfl|rfl|rfl|rfl|rfl
 all_goals
  simp only[fN];go_in;go_wp2;go_ret;exact ⟨rfl,rfl⟩
def Na (i) (w) (h:right i=false):
    aG prog 36 #[i.val] w (.tuple #[.string ⟨#[]⟩,.int .i64 1]):=by
 unfold aG;have u:=(show Hid _ from ob h)
 clear h;obtain ⟨op,rd,rs1,rs2,imm⟩:=i;unfold aE.val;simp only;go_in;go_wp2_with fail;refine zK (iI ⟨op,rd,rs1,rs2,imm⟩ _) λ v q=>?_;rw[u.out];have j:Hid (Below w.heap.size w v):=aJ.trans (q.mono (by simp))
 clear q;unfold gV gX;go_wp2;go_ret2;exact ⟨rfl,j.out.alloc j.out.size _⟩
def WM (nm:List UInt8) (i:aE) (S:ByteArray) (w:World) (it:Nat) (t:Value) (wr:World):Prop:=
 ∃(j:Nat) (T:ByteArray),j<=S.size/\t=.string T/\T.size<=10+22*j/\Hid (T.data.toList=nm++[32]++(S.data.toList.take j).flatMap (pP i))/\wr.heap[it]?=some (.stringIter S j)/\
  aF w.heap.size [.int .i64 i.op,.int .i64 i.rd,.int .i64 i.rs1,.int .i64 i.rs2,.int .i64 i.imm] wr/\aS wr/\Below w.heap.size w wr/\w.heap.size<it
def xC (w) (k) (s) (pos):Below k w (w.iterAt k s pos):=Lib.below_iterAt aU zn s pos
def Oc (k:Nat) (rd rs1 rs2 imm:Int) (w:World) (hk:k<64) (hr:right ⟨k+1,rd,rs1,rs2,imm⟩=true) (hE:aS w):
    Calls prog 36 #[.agg #[.int .i64 (k+1),.int .i64 rd,.int .i64 rs1,.int .i64 rs2,.int .i64 imm]] w λ e w'=>
     e=.returned (.tuple #[.string ⟨(pO k rd rs1 rs2 imm).toArray⟩,.int .i64 0])/\Below w.heap.size w w':=by
 have HV:=(show Hid _ from qr hr)
 obtain ⟨⟨d0,d1⟩,⟨s0,s1⟩,⟨t0,t1⟩,m0,m1⟩:=o6 hk hr;clear hr;have C:=aB (iH k hk);go_in;go_wp2_with fail;refine zK (iI ⟨k+1,rd,rs1,rs2,imm⟩ _) λ q D=>?_;rw[HV.out];have Y:=(show Hid _ from (aF.new w [.int .i64 (k+1),.int .i64 rd,.int .i64 rs1,.int .i64 rs2,.int .i64 imm] 26).next D)
 have N:Hid (aS q):=(hE.alloc _).below D (hE.alloc _).1;have v:Hid (Below w.heap.size w q):=aJ.trans (D.mono (by simp))
 clear D hE;unfold dE bO;go_wp2_with fail;refine (Ce (row k).kind C.out _).mono ?_;rintro e w2 ⟨rfl,rfl⟩;have hM:(row k).name.length<=8:=yx k hk;by_cases V:eQ (row k).kind=[]
 .have P:=aB (xO C.out ⟨k+1,rd,rs1,rs2,imm⟩)
  rw[zt V]at P;rw[V];go_wp2;go_ret2;refine ⟨tW (qV ?_) rfl,v.out.alloc v.out.size _⟩;unfold pO;rw[<-P.out];simp
 have P:=aB (xO C.out ⟨k+1,rd,rs1,rs2,imm⟩);rw[aC V]at P
 have a0:(ByteArray.mk (eQ (row k).kind).toArray).toList.isEmpty=false:=by
  rw[ByteArray.toList_eq]
  cases hq:eQ (row k).kind with
  | nil=>exact absurd hq V
  | cons a l=>rfl
 have a2:(ByteArray.mk (eQ (row k).kind).toArray).size<=6:=by simpa[ByteArray.size] using vy (row k).kind
 have ab:Hid (∀r∈(ByteArray.mk (eQ (row k).kind).toArray).data.toList,gQ r):=by
  show ∀r∈_,_;simpa using qC C.out
 have ae:Hid ((ByteArray.mk (eQ (row k).kind).toArray).data.toList=eQ (row k).kind):=by show _=_;simp
 generalize ByteArray.mk (eQ (row k).kind).toArray=S at *;go_wp2_with fail;go_loopw [7] (λ t wr=>WM (row k).name ⟨k+1,rd,rs1,rs2,imm⟩ S w (q.heap.size+1) t wr) (λ _ wr=>S.size-wr.iterPos (q.heap.size+1))
 case atStart=>
  refine ⟨0,_,by omega,rfl,?_,?_,?_,?_,?_,?_,?_⟩
  .rw[ByteArray.size_append];simp[ByteArray.size];omega
  .show (_++_:ByteArray).data.toList=_
   rw[wG];simp
  .have:=World.iter_heap (q.alloc (.cells (bO k).toArray 100)) S 0
   rw[za]at this;exact this
  .exact aF.alloc (aF.alloc Y.out _) _
  .exact (aS.alloc (aS.alloc N.out _) _)
  .exact (v.out.alloc v.out.size _).alloc (by have:=v.out.size;simp;omega) _
  have:=v.out.size;omega
 case round=>
  obtain ⟨j,T,hj,rfl,az,HT,hit,hI,L,F,I⟩:=hrel;by_cases u:j<S.size
  .have U:gQ (S[j]'u):=ab.out _ (by show S.data[j]∈S.data.toList;exact Array.mem_toList_iff.2 (Array.getElem_mem _))
   have Q:(S[j]'u).toNat<128:=by rcases U with h|h|h|h|h|h|h|h<;>(rw[h];decide)
   have R:∀M,(Instr.next (.pointer (some ⟨q.heap.size+1,0,none⟩)) true M).run prog wr=.ok (.tuple #[.bool true,.int .i64 j,.int .i32 (S[j]'u).toNat]) (wr.iterAt (q.heap.size+1) S (j+1)):=λ M=>
    Lib.run_next_ascii_at wr (q.heap.size+1) S j M hit u Q
   have E:=xC wr (q.heap.size+1) S (j+1);have ai:=hI.step E I;have A:(wr.iterAt (q.heap.size+1) S (j+1)).heap[q.heap.size+1]?=some (.stringIter S (j+1)):=Lib.iterAt_heap wr _ S j (j+1) hit;(have G:aS (wr.iterAt (q.heap.size+1) S (j+1)):=L.below E (by have:=N.out.1;omega));(have K:Below w.heap.size w (wr.iterAt (q.heap.size+1) S (j+1)):=F.trans (E.mono (by omega)));have O:=aB hit;clear hI hit L F E;generalize wr.iterAt (q.heap.size+1) S (j+1)=W at *;obtain ⟨hz,_,ic⟩:=ai;obtain ⟨i0,i1,i2,i3,i4⟩:=bF ic;(have Z:Hid (aF w.heap.size [.int .i64 (k+1),.int .i64 rd,.int .i64 rs1,.int .i64 rs2,.int .i64 imm] W):=⟨hz,by assumption,ic⟩);clear ic;simp only at i0 i1 i2 i3 i4;go_wp2_with fail;refine (KD _ _ _ _ _ _ U _ G d0 d1 s0 s1 t0 t1 m0 m1).mono ?_;rintro e w3 ⟨s,rfl,a1,ac,y⟩;have aa:=aB (aF.next Z.out y);have X:=aB (G.below y G.1);have J:=aB (K.trans (y.mono K.size));have H:Hid (w3.heap[q.heap.size+1]?=some (.stringIter S (j+1))):=(y.block _ (Array.getElem?_eq_some_iff.1 A).1).trans A
   have af:Hid (S.data.toList.take (j+1)=S.data.toList.take j++[S[j]'u]):=by
    show _=_;(rw[List.take_add_one,zg (by simpa using u)]);rfl
   clear y G K A i0 i1 i2 i3 i4 R;(have ao:(T.size:Int)<=142:=by omega);(have aq:(s.size:Int)<=22:=by omega);go_wp2;go_roundw
   case rel=>
    refine ⟨j+1,T++s,by omega,rfl,?_,?_,H.out,aa.out,X.out,J.out,I⟩
    .rw[ByteArray.size_append];omega
    show (T++s).data.toList=_;rw[wG,HT.out,ac.out,af.out,List.flatMap_append];simp
   case measure=>
    simp[World.iterPos,H.out,O.out];omega
  have aj:j=S.size:=by omega
  have R:∀M,(Instr.next (.pointer (some ⟨q.heap.size+1,0,none⟩)) true M).run prog wr=.ok (.tuple #[.bool false]) wr:=λ M=>
   Lib.run_next_end_at wr (q.heap.size+1) S j M hit u
  have J:=aB F;clear hI hit L F;go_wp2;go_ret2;refine ⟨tW (qV ?_) rfl,J.out⟩;rw[HT.out,aj,List.take_of_length_le (by simp),ae.out]
  unfold pO;have:=P.out;rw[<-this];simp
def D9 (i) (w) (q:aS w):
    aG prog 36 #[i.val] w (.tuple #[.string ⟨(gZ i).1.toArray⟩,.int .i64 (gZ i).2]):=by
 unfold aG;by_cases h:right i=true
 .obtain ⟨op,rd,rs1,rs2,imm⟩:=i
  have y:1<=op/\op<=64:=by
   apply Classical.byContradiction;intro v;rw[lY _ v]at h;cases h
  obtain ⟨k,rfl⟩:∃k:Nat,op=k+1:=⟨(op-1).toNat,by omega⟩
  have u:k<64:=by omega
  rw[zN h];exact Oc k rd rs1 rs2 imm w u h q
 have j:right i=false:=by simpa using h
 rw[Ab j];exact Na i w j
def MC (i) (w) (u:aS w):
    aG prog 15 #[i.val] w (.tuple #[.string ⟨(gZ i).1.toArray⟩,.int .i64 (gZ i).2]):=by
 unfold aG;obtain ⟨op,rd,rs1,rs2,imm⟩:=i;unfold aE.val;simp only;have q:=aB (λ o=>u.alloc o)
 go_in;go_wp2_with fail;refine zK (D9 ⟨op,rd,rs1,rs2,imm⟩ _ (q.out _)) λ v h=>?_;have j:Hid (Below w.heap.size w v):=aJ.trans (h.mono (by simp))
 clear h;go_wp2;go_ret2;exact ⟨rfl,j.out⟩
def Co (r) (w):zS prog 185 #[.int .i32 r] w (.bool (bJ r)):=by
 unfold zS;go_in;go_wp2
 all_goals
  go_ret;refine ⟨iZ ?_,rfl⟩;unfold bJ
  first
  | (rw[decide_eq_true (p:=97<=r) (by omega)];rfl)
  | (rw[decide_eq_false (p:=97<=r) (by omega)];rfl)
def Ci (r) (w):zS prog 186 #[.int .i32 r] w (.bool (cA r)):=by
 unfold zS;go_in;go_wp2
 all_goals
  go_ret;refine ⟨iZ ?_,rfl⟩;unfold cA
  first
  | (rw[decide_eq_true (p:=48<=r) (by omega)];rfl)
  | (rw[decide_eq_false (p:=48<=r) (by omega)];rfl)
def OT (t) (w):zS prog 187 #[.string t] w (.bool (lB t.data.toList)):=by
 unfold zS;go_in;go_wp2_with fail;refine (strings_TrimPrefix t ⟨#[45]⟩ w).mono ?_;rintro e h ⟨rfl,rfl⟩;go_wp2_with fail
 all_goals
  go_ret;refine ⟨iZ (congrArg Value.bool ?_),rfl⟩;unfold lB
  first
  | (rw[decide_eq_true (p:=1<=(Lib.trimPrefix t.data.toList [45]).length) (by omega),Bool.true_and];exact decide_eq_decide.2 (by omega))
  | (rw[decide_eq_false (p:=1<=(Lib.trimPrefix t.data.toList [45]).length) (by omega),Bool.false_and])
def Du (c) (k f r) (L) (v) (w) (j:aF c [.string L,v,.int .i64 k,.int .i64 f] w):
    zS prog 132 #[.pointer (some ⟨c,0,none⟩),.int .i32 r] w (.bool (aX k r)):=by
 unfold zS;obtain ⟨_,_,h⟩:=j;have c2:=h 2 _ rfl;clear h;go_in
 go_wp2_with (first
  | (go_at_call 185;refine zk (Co _ _) ?_)
  | (go_at_call 186;refine zk (Ci _ _) ?_))
 all_goals
  go_ret;refine ⟨iZ (congrArg Value.bool ?_),rfl⟩;simp_all[aX]
def Qm (c) (k f at' r) (L) (ao) (ln cp) (w) (u:aF c [.string L,.slice ao ln cp,.int .i64 k,.int .i64 f] w):
    Calls prog 134 #[.pointer (some ⟨c,0,none⟩),.int .i64 at',.int .i32 r] w λ e w'=>e=.returned (.bool (bT r).isSome)/\(∀j,bT r=some j->w'=(w.setCell ⟨c,3,none⟩ (.int .i64 at')).setCell ⟨c,2,none⟩ (.int .i64 j))/\(bT r=none->w'=w.setCell ⟨c,3,none⟩ (.int .i64 at')):=by
 obtain ⟨A,y,q⟩:=u;obtain ⟨_,_,c2,v⟩:=kt q;clear q;go_in
 go_wp2_with (first
  | (go_at_call 185;refine zk (Co _ _) ?_)
  | (go_at_call 186;refine zk (Ci _ _) ?_))
 all_goals
  first
  | (have h:bT r=some 1:=(by simp_all[bT])
     go_ret;rw[h];exact ⟨rfl,λ j e=>(by cases e;rfl),λ e=>(by cases e)⟩)
  | (have h:bT r=some 2:=(by simp_all[bT])
     go_ret;rw[h];exact ⟨rfl,λ j e=>(by cases e;rfl),λ e=>(by cases e)⟩)
  | (have h:bT r=some 3:=(by simp_all[bT])
     go_ret;rw[h];exact ⟨rfl,λ j e=>(by cases e;rfl),λ e=>(by cases e)⟩)
  | (have h:bT r=some 0:=(by simp_all[bT])
     go_ret;rw[h];exact ⟨rfl,λ j e=>(by cases e;rfl),λ e=>(by cases e)⟩)
  | (have h:bT r=none:=(by simp_all[bT])
     go_ret;rw[h];exact ⟨rfl,λ j e=>(by cases e),λ _=>rfl⟩)
def Hu (c:Nat) (L:ByteArray) (v:Value) (n:Nat) (xs:List Value) (k:Int) (f a base:Nat) (w w':World):Prop:=
 ∃v',aF c [.string L,v',.int .i64 k,.int .i64 f] w'/\w'.ownsRow base 131 2 v' (n+1) (xs++[.int .i64 k,.string (L.extract f a)])/\
  (∀b,b<w.heap.size->v.ownBlock≠some b->v'.ownBlock≠some b)/\bS c v.ownBlock w w'
def Rf {c base C cap:Nat} {w D:World} {o:Obj} (M:Below w.heap.size w W) (R:W.heap.size=w.heap.size+1) (O:aF c [.string L,v,.int .i64 k,.int .i64 f] W) (F:v.ownBlock≠some c) (V:c<w.heap.size) (y:(W.alloc o).drew.grownBy D v.ownBlock) (E:v.ownBlock=some C\/C=W.heap.size+1) (G:D.ownsRow base 131 2 (.slice (some ⟨C,0,none⟩) (n+1) cap) (n+1) (xs++[.int .i64 k,.string (L.extract f a)])):
    Hu c L v n xs k f a base w (D.setCell ⟨c,1,none⟩ (.slice (some ⟨C,0,none⟩) (n+1) cap)):=by
 have I:C≠c:=by
  rcases E with h|h
  .exact λ e=>F (by rw[h,e])
  omega
 have J:bS c v.ownBlock w (W.alloc o).drew:=bS.of_below (M.trans ((((Below.refl W.heap.size W).alloc zn o).drew).mono M.size));have K:bS c v.ownBlock (W.alloc o).drew D:=bS.of_grown y;have A:aF c [.string L,v,.int .i64 k,.int .i64 f] (W.alloc o).drew:=O.next (((Below.refl W.heap.size W).alloc zn o).drew)
 have H:aF c [.string L,v,.int .i64 k,.int .i64 f] D:=by
  have e:=y.block c A.1 (λ e=>F e.symm)
  exact ⟨zl A.1 y.size,λ q=>(World.frozen?_of_block (a:=⟨c,q,none⟩) e).trans (A.2.1 q),λ j u Q=>(World.cell?_of_block (a:=⟨c,j,none⟩) e).trans (A.2.2 j u Q)⟩
 refine ⟨_,H.set 1 _ (by simp),le G (λ g P=>?_),λ b U T=>?_,(J.trans K).trans (bS.setCell c _ D 1 _)⟩
 .have:C=g:=by simpa[Value.ownBlock] using P
  subst this;exact Below.heap_setCell _ _ _ _ (λ e=>I e)
 show some C≠some b;intro e;have N:C=b:=by simpa using e
 rcases E with h|h
 .exact T (by rw[h,N])
 omega
def NQ:(prog.info? 131).map (λ i=>(i.zero,i.size,i.bytes))=some (some (.agg #[.int .i64 0,.string ⟨#[]⟩]),2,24):=by kernel_rfl
def Nr (c) (a f) (L) (v) (w) (j:aF c [.string L,v,.int .i64 0,.int .i64 f] w):
    zS prog 133 #[.pointer (some ⟨c,0,none⟩),.int .i64 a] w (.bool true):=by
 unfold zS;obtain ⟨u,q,h⟩:=j;have c2:=h 2 _ rfl;clear h;go_in;go_wp2;go_ret;exact ⟨rfl,rfl⟩
def Pf (c f a n base:Nat) (k:Int) (L:ByteArray) (v:Value) (xs:List Value) (w:World) (hk:(k==0)=false) (hC:aF c [.string L,v,.int .i64 k,.int .i64 f] w) (j:w.ownsRow base 131 2 v n xs)
    (q:v.ownBlock≠some c) (P:base<=w.heap.size) (hf:f<=a) (ha:a<=L.size) (hL:L.size<=2000) (hn:n<=2000):
    Calls prog 133 #[.pointer (some ⟨c,0,none⟩),.int .i64 a] w λ e w'=>e=.returned (.bool (jT k (L.extract f a).data.toList))/\Hu c L v n xs k f a base w w':=by
 obtain ⟨i0,hi,R,T,U⟩:=info_parts NQ;obtain ⟨hz,cf,J⟩:=hC;obtain ⟨c0,c1,c2,c3⟩:=kt J;have HC:=aB J;have HF:=aB cf;have Y:=aB j;clear J j;have f1:(f:Int)<=a:=by omega
 have a1:(a:Int)<=L.size:=by omega
 have a2:(L.size:Int)<=2000:=by omega
 have C:w.heap.size≠c:=by omega
 go_in;go_wp2_with fail;go_region_held3 (λ w'=>w'.cell? ⟨c,0,none⟩=some (.string L)/\w'.cell? ⟨c,2,none⟩=some (.int .i64 k)/\w'.cell? ⟨c,3,none⟩=some (.int .i64 f)) (go_keep) (fail)
 go_wp2_with fail;have w1:(w.alloc (.cells #[.int .i64 k,.string (L.extract f a)] 131)).drew.cell? ⟨c,1,none⟩=some v:=by go_simp
 have wf:(w.alloc (.cells #[.int .i64 k,.string (L.extract f a)] 131)).drew.frozen? ⟨c,1,none⟩=false:=by go_simp
 have V:(w.alloc (.cells #[.int .i64 k,.string (L.extract f a)] 131)).drew.cell? ⟨w.heap.size,0,none⟩=some (.int .i64 k):=by go_simp
 have X:(w.alloc (.cells #[.int .i64 k,.string (L.extract f a)] 131)).drew.cell? ⟨w.heap.size,1,none⟩=some (.string (L.extract f a)):=by go_simp
 have F:(w.alloc (.cells #[.int .i64 k,.string (L.extract f a)] 131)).drew.heap.size=w.heap.size+1:=by show (w.alloc _).heap.size=_;simp
 have H:=aB ((Y.out.alloc (.cells #[.int .i64 k,.string (L.extract f a)] 131)).drew);have y:Hid (Below w.heap.size w (w.alloc (.cells #[.int .i64 k,.string (L.extract f a)] 131)).drew):=aJ.drew;have G:Hid (aF c [.string L,v,.int .i64 k,.int .i64 f] (w.alloc (.cells #[.int .i64 k,.string (L.extract f a)] 131)).drew):=aF.next ⟨hz,HF.out,HC.out⟩ y.out;have D:v.ownBlock≠some w.heap.size:=λ e=>by have:=(Y.out.lt _ e).2;omega
 clear c0 c1 c2 c3 cf;generalize (w.alloc (.cells #[.int .i64 k,.string (L.extract f a)] 131)).drew=W at *;have I:=aB F;have Q:c<W.heap.size:=by omega
 have aj:w.heap.size<W.heap.size:=by omega
 have ah:base<=W.heap.size:=by omega
 clear F
 go_region_law
  ((refine step_append_lies _ (by rfl) _ _ _ (by rfl) base 131 i0 _ 2 24 underlying125 hi R T U rfl (by omega) v n xs (by rfl) ((H.out.alloc _).drew)
      ⟨W.heap.size,0,none⟩ 1 1 [.int .i64 k,.string (L.extract f a)] (by rfl) (by rfl) (World.news_of_block (cs:=#[.int .i64 k,.string (L.extract f a)]) (t:=131) (fr:=(0,0)) (heap_alloc_new W _)) (by simp[Value.oneCell'])
      (by omega) (by unfold maxLen;omega) (by omega) (by simp;omega) (W.heap.size+1) (by simp) ?_;intro K cap E u h O ai;have q1:E.cell? ⟨c,1,none⟩=some v:=(h.cell_far _ (by simp;omega) (Ne.symm q)).trans (by simp[w1,World.cell?_alloc_some]);have qf:E.frozen? ⟨c,1,none⟩=false:=(h.frozen_far _ (by simp;omega) (Ne.symm q)).trans (by simp[wf,World.frozen?_alloc_old,Nat.ne_of_lt Q])))
 all_goals
  have A:=aB (Rf y.out I.out G.out q hz h O u);have x0:(E.setCell ⟨c,1,none⟩ (.slice (some ⟨K,0,none⟩) (n+1) cap)).cell? ⟨w.heap.size,0,none⟩=some (.int .i64 k):=(World.cell?_setCell_far _ _ _ _ (λ e=>C e.symm)).trans ((h.cell_far _ (by simp;omega) (Ne.symm D)).trans (by simp[V,World.cell?_alloc_some]))
  have x1:(E.setCell ⟨c,1,none⟩ (.slice (some ⟨K,0,none⟩) (n+1) cap)).cell? ⟨w.heap.size,1,none⟩=some (.string (L.extract f a)):=(World.cell?_setCell_far _ _ _ _ (λ e=>C e.symm)).trans ((h.cell_far _ (by simp;omega) (Ne.symm D)).trans (by simp[X,World.cell?_alloc_some]))
  generalize E.setCell ⟨c,1,none⟩ (.slice (some ⟨K,0,none⟩) (n+1) cap)=Z at *;by_cases M:(k != 2)=true
  .go_wp2
   go_ret;refine ⟨iZ (congrArg Value.bool ?_),A.out⟩;unfold jT;rw[M,Bool.true_or]
  have N:(k != 2)=false:=by simpa using M
  clear M;go_wp2_with (go_at_call 187;refine (OT _ _).mono ?_;rintro e w' ⟨rfl,rfl⟩);go_ret;refine ⟨iZ (congrArg Value.bool ?_),A.out⟩;unfold jT;rw[N,Bool.false_or];have e:(L.extract f a).data.toList=List.take (a-f) (List.drop f L.data.toList):=by simp[ByteArray.data_extract,Array.toList_extract,List.extract_eq_take_drop]
  rw[e]
def vM (o:Option (List Pc)) (w:World) (e:Ending) (w':World):Prop:=
 match o with
 | none=>e=.returned (.tuple #[.slice none 0 0,.bool false])
 | some A=>∃v,e=.returned (.tuple #[v,.bool true])/\w'.ownsRow w.heap.size 131 2 v A.length (A.flatMap jD)
def Uh (L:ByteArray) (w:World) (wr:World):Prop:=
 ∃(j f:Nat) (k:Int) (A:List Pc) (ao:Option Addr) (ln cp:Nat),j<=L.size/\f<=j/\A.length<=j/\wr.heap[w.heap.size+1]?=some (.stringIter L j)/\aF w.heap.size [.string L,.slice ao ln cp,.int .i64 k,.int .i64 f] wr/\
  wr.ownsRow w.heap.size 131 2 (.slice ao ln cp) A.length (A.flatMap jD)/\(Value.slice ao ln cp).ownBlock≠some w.heap.size/\(Value.slice ao ln cp).ownBlock≠some (w.heap.size+1)/\
  Hid (aZ L.data.toList 0 []=(aZ (L.data.toList.drop j) k (L.extract f j).data.toList).map (A++·))/\Below w.heap.size w wr
def Te (L) (j) (h:j<L.size):∃(R:Int) (d:Nat),((Utf8.decode L j).1:Int)=R/\(Utf8.decode L j).2=d/\1<=d/\(∀k,aX k R=aX k (L[j]'h).toNat)/\bT R=bT (L[j]'h).toNat/\
    (((∃k,aX k (L[j]'h).toNat=true)\/(bT (L[j]'h).toNat).isSome=true)->d=1):=by
 by_cases v:(L[j]'h).toNat<128
 .rw[decode_ascii L j h v]
  exact ⟨_,_,rfl,rfl,zn,λ _=>rfl,rfl,λ _=>rfl⟩
 obtain ⟨w,u⟩:=decode_high L j h (by omega)
 refine ⟨_,_,rfl,rfl,u,λ k=>?_,?_,?_⟩
 .rw[yh (by omega),yh (by omega)]
 .rw[zJ (by omega),zJ (by omega)]
 rintro (⟨k,q⟩|q)
 .rw[yh (by omega)]at q;cases q
 rw[zJ (by omega)]at q;cases q
def OO {w:World} {base:Nat} {size:Nat} (h:w.ownsRow base e size v n xs) (k) (q:v.ownBlock≠some k) (s) (p):(w.iterAt k s p).ownsRow base e size v n xs:=
 le h (λ g j=>Lib.iterAt_other w k g s p (λ e=>q (by rw[j,e])))
def xw {s w:List UInt8} {e:Ending} (h:aZ s 0 []=none) (q:w=s) (j:e=.returned (.tuple #[.slice none 0 0,.bool false])) (_:W0.heap.size=W.heap.size):vM (aZ w 0 []) W e w':=by
 rw[q,h];exact j
def ru (L:ByteArray) (W0:World) (A:List Pc) (k:Int) (f p:Nat) (w:World):Prop:=
 ∃ao ln cp,aF W0.heap.size [.string L,.slice ao ln cp,.int .i64 k,.int .i64 f] w/\w.ownsRow W0.heap.size 131 2 (.slice ao ln cp) A.length (A.flatMap jD)/\
  (Value.slice ao ln cp).ownBlock≠some W0.heap.size/\(Value.slice ao ln cp).ownBlock≠some (W0.heap.size+1)/\w.heap[W0.heap.size+1]?=some (.stringIter L p)/\Below W0.heap.size W0 w
def mF {w:World} {base:Nat} {size:Nat} (h:w.ownsRow base e size v n xs):∃u ln y,v=.slice u ln y/\∀g,v.ownBlock=some g->base<=g:=by
 obtain ⟨_,⟨rfl,_⟩|⟨g,cap,A,rfl,q,_⟩⟩:=h
 .exact ⟨_,_,_,rfl,λ g q=>by simp[Value.ownBlock]at q⟩
 exact ⟨_,_,_,rfl,λ C j=>by simp[Value.ownBlock]at j;omega⟩
def G8 {A:List Pc} {w:World} (h:ru L W0 A k f p w) (hf:f<=a) (ha:a<=L.size) (Z:L.size<=2000) (Y:A.length<=2000):
    Calls prog 133 #[.pointer (some ⟨W0.heap.size,0,none⟩),.int .i64 a] w λ e w'=>e=.returned (.bool (dO k (L.extract f a).data.toList).isSome)/\Below W0.heap.size W0 w'/\
     ∀H,dO k (L.extract f a).data.toList=some H->ru L W0 (A++H) k f p w':=by
 obtain ⟨U,ln,V,G,u,K,M,hit,F⟩:=h;by_cases T:(k==0)=true
 .have P:k=0:=by simpa using T
  subst P;refine (Nr _ _ _ _ _ _ G).mono ?_;rintro e w' ⟨rfl,rfl⟩;refine ⟨rfl,F,λ H j=>?_⟩
  rw[uA]at j;cases j
  rw[List.append_nil];exact ⟨U,ln,V,G,u,K,M,hit,F⟩
 have q:(k==0)=false:=by simpa using T
 refine (Pf _ f a A.length W0.heap.size k L _ _ w q G u K F.size hf ha Z Y).mono ?_;rintro e w' ⟨rfl,v',N,v,E,D⟩;obtain ⟨I,Q,J,rfl,R⟩:=mF v;obtain ⟨_,_,_,_,O⟩:=mF u;have y:W0.heap.size+1<w.heap.size:=(Array.getElem?_eq_some_iff.1 hit).1;have C:Below W0.heap.size W0 w':=D.below F zn O zn;refine ⟨?_,C,λ H j=>?_⟩
 .cases he:jT k (L.extract f a).data.toList with
  | true=>rw[pE q he];rfl
  | false=>rw[zV q he];rfl
 cases he:jT k (L.extract f a).data.toList with
 | false=>rw[zV q he]at j;cases j
 | true=>
  rw[pE q he]at j;cases j
  refine ⟨I,Q,J,N,?_,E _ G.1 K,E _ y M,(D.block _ y (by omega) M).trans hit,C⟩
  have W:(A++[(k,(L.extract f a).data.toList)]).length=A.length+1:=by simp
  have X:(A++[(k,(L.extract f a).data.toList)]).flatMap jD=A.flatMap jD++[.int .i64 k,.string (L.extract f a)]:=by
   rw[List.flatMap_append];rfl
  rw[W,X];exact v
def Mk {A:List Pc} {w:World} (h:ru L W0 A k f p w):
    Calls prog 134 #[.pointer (some ⟨W0.heap.size,0,none⟩),.int .i64 a,.int .i32 r] w λ e w'=>e=.returned (.bool (bT r).isSome)/\Below W0.heap.size W0 w'/\
     ∀v,bT r=some v->ru L W0 A v a p w':=by
 obtain ⟨H,ln,I,F,j,D,J,hit,E⟩:=h;refine (Qm _ _ _ _ _ _ _ _ _ _ F).mono ?_;rintro e w' ⟨rfl,N,M⟩;obtain ⟨_,_,_,_,K⟩:=mF j;have u:W0.heap.size+1<w.heap.size:=(Array.getElem?_eq_some_iff.1 hit).1
 cases hb:bT r with
 | none=>
  rw[M hb];exact ⟨rfl,(bS.setCell W0.heap.size none w 3 _).below E zn (λ _ h=>by cases h) zn,λ _ h=>by cases h⟩
 | some v=>
  rw[N v hb];have C:bS W0.heap.size none w ((w.setCell ⟨W0.heap.size,3,none⟩ (.int .i64 a)).setCell ⟨W0.heap.size,2,none⟩ (.int .i64 v)):=(bS.setCell W0.heap.size none w 3 _).trans (bS.setCell W0.heap.size none _ 2 _);have q:=C.below E zn (λ _ h=>by cases h) zn
  refine ⟨rfl,q,λ O h=>?_⟩
  cases h
  refine ⟨H,ln,I,(F.set 3 _ (by simp)).set 2 _ (by simp),le j (λ g G=>?_),D,J,(C.block _ u (by omega) (by simp)).trans hit,q⟩
  have y:=(j.lt g G).2;exact C.block g y (λ e=>D (by rw[G,e])) (by simp)
def nO (s) (w) (hs:s.size<=2000) (hE:aS w):
    Calls prog 73 #[.string s] w λ e w'=>vM (aZ (Lib.cut s.data.toList [35]).1 0 []) w e w'/\Below w.heap.size w w':=by
 obtain ⟨m,hm⟩:=hE.2.2.1;go_in;go_wp2_with fail;refine (strings_Cut s ⟨#[35]⟩ m w (by omega) hm).mono ?_
 rintro e w1 ⟨rfl,nd,rfl⟩
 have ak:(Lib.cut s.data.toList [35]).1.length<=2000:=by
  have:(Lib.cut s.data.toList [35]).1.length<=s.data.toList.length:=by
   unfold Lib.cut;split
   .simp;omega
   simp
  have e:s.data.toList.length=s.size:=by simp
  omega
 have al:(ByteArray.mk (Lib.cut s.data.toList [35]).1.toArray).size<=2000:=by simpa[ByteArray.size] using ak
 have H:Hid ((ByteArray.mk (Lib.cut s.data.toList [35]).1.toArray).data.toList=(Lib.cut s.data.toList [35]).1):=by show _=_;simp
 clear ak;have ah:=sd w nd;have aw:(w.drewN nd).heap.size=w.heap.size:=rfl;generalize w.drewN nd=W0 at *;generalize ByteArray.mk (Lib.cut s.data.toList [35]).1.toArray=L at *;have q:=aB aw;have D:=aB ah;clear aw ah hm hE;go_wp2_with fail;go_loopw [] (λ wr=>Uh L W0 wr) (λ wr=>L.size-wr.iterPos (W0.heap.size+1))
 case atStart=>
  refine ⟨0,0,0,[],none,0,0,by omega,by omega,by simp,?_,?_,?_,by simp[Value.ownBlock],by simp[Value.ownBlock],?_,?_⟩
  .have:=World.iter_heap (W0.alloc (.cells #[.string L,.slice none 0 0,.int .i64 0,.int .i64 0] 188)) L 0
   rw[za]at this;exact this
  .exact aF.alloc (aF.new W0 _ _) _
  .exact ⟨rfl,.inl ⟨rfl,rfl⟩⟩
  .show _=_
   simp
  exact aJ.alloc (by simp) _
 case round=>
  obtain ⟨j,f,k,A,ao,ln,cp,hj,hf,hA,hit,hC,v,Q,K,U,hB⟩:=hrel;by_cases h:j<L.size
  .obtain ⟨R,d,hR,hd,bm,av,aq,ar⟩:=Te L j h
   have bb:∀T,(Instr.next (.pointer (some ⟨W0.heap.size+1,0,none⟩)) true T).run prog wr=.ok (.tuple #[.bool true,.int .i64 j,.int .i32 R]) (wr.iterAt (W0.heap.size+1) L (j+d)):=λ T=>by
    rw[Lib.run_next_any_at wr (W0.heap.size+1) L j T hit h,hR,hd]
   have u:Hid (L.data.toList.drop j=(L[j]'h)::L.data.toList.drop (j+1)):=by
    show _=_;rw[List.drop_eq_getElem_cons (by simpa using h)];rfl
   have P:=xC wr (W0.heap.size+1) L (j+d);(have aj:=hC.step P (by omega));have G:Hid ((wr.iterAt (W0.heap.size+1) L (j+d)).heap[W0.heap.size+1]?=some (.stringIter L (j+d))):=Lib.iterAt_heap wr _ L j (j+d) hit;have ab:=aB (OO v _ K L (j+d));(have V:Hid (Below W0.heap.size W0 (wr.iterAt (W0.heap.size+1) L (j+d))):=hB.trans (P.mono (by omega)));have bi:W0.heap.size+1<(wr.iterAt (W0.heap.size+1) L (j+d)).heap.size:=(Array.getElem?_eq_some_iff.1 G.out).1;have M:=aB hit;have F:=aB aj;have aa:=aB av;have X:=aB aq;have Y:=aB ar;clear hC v hit hB P hR hd av aq ar aj;generalize wr.iterAt (W0.heap.size+1) L (j+d)=W at *;by_cases hg:aX k (L[j]'h).toNat=true
   .have hd:d=1:=Y.out (.inl ⟨k,hg⟩)
    subst hd;have a9:aX k R=true:=(aa.out k).trans hg;go_wp2_with (go_at_call 132;refine zk (Du _ _ _ _ _ _ _ F.out) ?_);go_roundw
    case rel=>
     (refine ⟨j+1,f,k,A,ao,ln,cp,by omega,by omega,by omega,G.out,F.out,ab.out,Q,K,?_,V.out⟩);show _=_;rw[U.out,u.out,su hg,E9 L f j hf h]
    case measure=>
     simp[World.iterPos,G.out,M.out];omega
   (have J:aX k (L[j]'h).toNat=false:=by simpa using hg);have a9:aX k R=false:=(aa.out k).trans J;clear hg;have O:Hid (ru L W0 A k f (j+d) W):=⟨ao,ln,cp,F.out,ab.out,Q,K,G.out,V.out⟩;go_wp2_with (go_at_call 132;refine zk (Du _ _ _ _ _ _ _ F.out) ?_);(refine (G8 O.out hf (by omega) al (by omega)).mono ?_);rintro e w3 ⟨rfl,y,C⟩;have E:=aB y;have I:=aB C;clear y C
   cases hep:dO k (L.extract f j).data.toList with
   | none=>
    (have N:Hid (aZ L.data.toList 0 []=none):=by show _=_;rw[U.out,u.out,v8 J hep];rfl);simp only[Option.isSome];go_wp2;go_ret2;exact ⟨xw N.out H.out.symm rfl q.out,D.out.trans (E.out.mono (by rw[q.out];exact zn))⟩
   | some ps=>
    have a3:=aB (I.out ps hep);have Z:=aB hep;clear I hep;simp only[Option.isSome];go_wp2_with fail;refine (Mk a3.out).mono ?_;rintro e w4 ⟨rfl,ai,am⟩;have a2:=aB ai;have a4:=aB am;clear ai am
    cases hbp:bT R with
    | none=>
     (have N:Hid (aZ L.data.toList 0 []=none):=by show _=_;rw[U.out,u.out,uU J (X.out.symm.trans hbp)];rfl);simp only[Option.isSome];go_wp2;go_ret2;exact ⟨xw N.out H.out.symm rfl q.out,D.out.trans (a2.out.mono (by rw[q.out];exact zn))⟩
    | some k'=>
     have ac:=aB (a4.out k' hbp);have an:bT (L[j]'h).toNat=some k':=X.out.symm.trans hbp;(have hd:d=1:=Y.out (.inr (by rw[an];rfl)));subst hd;simp only[Option.isSome];go_wp2;go_roundw
     case rel=>
      obtain ⟨ae,ax,af,g1,g2,g3,g4,g5,g6⟩:=ac.out
      have bn:ps.length<=1:=by
       have:=Z.out;unfold dO at this
       split at this
       .cases this;simp
       split at this
       .cases this;simp
       cases this
      (refine ⟨j+1,j,k',A++ps,ae,ax,af,by omega,by omega,by simp;omega,g5,g1,g2,g3,g4,?_,g6⟩);show _=_;rw[U.out,u.out,uw J Z.out an,Rs L j h,Option.map_map];congr 1;funext x;simp
     case measure=>
      obtain ⟨_,_,_,_,_,_,_,g5,_⟩:=ac.out;simp[World.iterPos,g5,M.out];omega
  have ba:j=L.size:=by omega
  subst ba
  have bb:∀T,(Instr.next (.pointer (some ⟨W0.heap.size+1,0,none⟩)) true T).run prog wr=.ok (.tuple #[.bool false]) wr:=λ T=>
   Lib.run_next_end_at wr (W0.heap.size+1) L _ T hit h
  have O:Hid (ru L W0 A k f L.size wr):=⟨ao,ln,cp,hC,v,Q,K,hit,hB⟩;have u:Hid (L.data.toList.drop L.size=[]):=by show _=_;apply List.drop_eq_nil_of_le;simp
  clear hC v hit hB;go_wp2_with fail;refine (G8 O.out hf zn al (by omega)).mono ?_
  rintro e w3 ⟨rfl,y,C⟩;have E:=aB y;have I:=aB C;clear y C
  cases hep:dO k (L.extract f L.size).data.toList with
  | none=>
   have N:Hid (aZ L.data.toList 0 []=none):=by
    show _=_;rw[U.out,u.out];simp only[aZ];rw[hep];rfl
   simp only[Option.isSome];go_wp2;go_ret2;exact ⟨xw N.out H.out.symm rfl q.out,D.out.trans (E.out.mono (by rw[q.out];exact zn))⟩
  | some ps=>
   have N:Hid (aZ L.data.toList 0 []=some (A++ps)):=by
    show _=_;rw[U.out,u.out];simp only[aZ];rw[hep];rfl
   obtain ⟨ae,ax,af,g1,g2,g3,g4,g5,g6⟩:=I.out ps hep;have bk:=g1.2.2 1 _ rfl;have G2:=aB g2;clear hep g1 g2 g5 g6;simp only[Option.isSome];go_wp2;go_ret2;(refine ⟨?_,D.out.trans (E.out.mono (by rw[q.out];exact zn))⟩);rw[<-H.out,N.out];exact ⟨_,rfl,by rw[<-q.out];exact G2.out⟩
def qk (k) (t) (w) (j:t.size<=2000):
    aG prog 226 #[.agg #[.int .i64 k,.string t]] w (.bool (eX k t.data.toList)):=by
 unfold aG;have h:t.data.toList.length=t.size:=by simp
 go_in;go_wp2_with (go_at_call 72;refine zk (strings_Contains_one t 46 _) ?_)
 all_goals
  go_ret;refine ⟨iZ (congrArg Value.bool ?_),aJ⟩;unfold eX;rw[h]
  first
  | (rw[beq_false_of_ne ‹¬k=1›];rfl)
  | (rw[decide_eq_false (p:=t.size<=8) (by omega)];simp)
  | (rw[show (k==1)=true from beq_iff_eq.2 ‹k=1›,decide_eq_true (p:=t.size<=8) (by omega)];rfl)
def NY {w:World} (h:w'=w\/∃t,w'=Lib.bytesWorld w 5 t):Below w.heap.size w w':=by
 rcases h with rfl|⟨t,rfl⟩
 .exact aU
 exact Joins.below_bytesWorld _ _ _ _ zn
def DT (t) (w) (F:t.size<=2000) (q:aS w):
    Calls prog 272 #[.string t] w λ e w'=>∃n v,e=.returned (.tuple #[.int .i64 n,v])/\(-9223372036854775808<=n/\n<=9223372036854775807)/\Below w.heap.size w w'/\
     ((∃u,Lib.atoiAll t.data.toList=.ok u/\n=u/\v=.nilIface)\/((∀u,Lib.atoiAll t.data.toList≠.ok u)/\∃A y,v=.iface A y)):=by
 obtain ⟨A,y,C⟩:=q.2.2.2.1;obtain ⟨H,G,D⟩:=q.2.2.2.2;rcases ha:Lib.atoiAll t.data.toList with u|_|_
 .refine zK (strconv_Atoi_ok t (by omega) u ha w) λ w' E=>?_;exact ⟨u,_,rfl,Lg ha,NY E,.inl ⟨u,rfl,rfl,rfl⟩⟩
 .refine (strconv_Atoi_syntax t (by omega) ha _ w C (.inr ⟨_,_,rfl⟩)).mono ?_
  rintro e w' ⟨N,rfl,_,_,j⟩;exact ⟨0,_,rfl,by omega,j,.inr ⟨λ u h=>(by cases h),_,_,rfl⟩⟩
 refine (strconv_Atoi_range t (by omega) ha _ w D (.inr ⟨_,_,rfl⟩)).mono ?_
 rintro e w' ⟨N,rfl,_,_,j⟩;refine ⟨_,_,rfl,?_,j,.inr ⟨λ u h=>(by cases h),_,_,rfl⟩⟩
 unfold Lib.atoiSat
 split<;>omega
def BF (k) (t) (w) (J:t.size<=2000) (H:aS w):
    Calls prog 253 #[.agg #[.int .i64 k,.string t]] w λ e w'=>∃n:Int,e=.returned (.tuple #[.int .i64 n,.bool (gO k t.data.toList).isSome])/\(∀v,gO k t.data.toList=some v->n=v)/\Below w.heap.size w w':=by
 have G:=aB (λ o=>H.alloc o)
 by_cases C:(k != 2)=true
 .have F:gO k t.data.toList=none:=by
   (have:¬k=2:=by simpa using C);simp[gO,this]
  have j:=aB F;clear F;go_in;go_wp2;go_ret2;exact ⟨0,by rw[j.out];rfl,λ v h=>(by rw[j.out]at h;cases h),aJ⟩
 have I:(k != 2)=false:=by simpa using C
 have q:k=2:=by simpa using C
 clear C;go_in;go_wp2_with fail;refine (DT t _ J (G.out _)).mono ?_;rintro e O ⟨n,v,rfl,L,E,K⟩;have D:=aB (aJ.trans (E.mono (by simp)))
 clear E;rcases K with ⟨u,A,y,rfl⟩|⟨A,N,M,rfl⟩
 .have j:Hid (gO k t.data.toList=some n):=by show _=_;simp[gO,q,A,y]
  clear A y;go_wp2_with fail;go_quiet (fail);go_wp2;go_ret2;exact ⟨n,by rw[j.out];rfl,λ v h=>(by rw[j.out]at h;cases h;rfl),below_drewN D.out _⟩
 have j:Hid (gO k t.data.toList=none):=by
  show _=_
  cases h:Lib.atoiAll t.data.toList with
  | ok u=>exact absurd h (A u)
  | _=>simp[gO,q,h]
 clear A;go_wp2_with fail;go_quiet (fail);go_wp2;go_ret2;exact ⟨n,by rw[j.out];rfl,λ v h=>(by rw[j.out]at h;cases h),below_drewN D.out _⟩
def Bv (n) (w) (h:-9223372036854775808<=n) (j:n<=9223372036854775807) (q:aS w):
    aG prog 113 #[.int .i64 n] w (.string ⟨(gP n).toArray⟩):=
 (tV n w h j q).mono λ _ _ ⟨s,he,_,hs,hB⟩=>⟨by rw[he,qV hs.out],hB⟩
def xk (k) (t) (w) (X:t.size<=2000) (V:aS w):
    aG prog 252 #[.agg #[.int .i64 k,.string t]] w (.tuple #[.int .i64 ((dU t.data.toList).getD 0),.bool (dU t.data.toList).isSome]):=by
 unfold aG;have M:=aB (λ o=>V.alloc o)
 by_cases D:Lib.hasPrefix t.data.toList [120]=true
 .have Q:(Lib.trimPrefix t.data.toList [120]).length<=2000:=by
   (have e:t.data.toList.length=t.size:=by simp);(have T:(List.drop [(120:UInt8)].length t.data.toList).length<=t.data.toList.length:=by rw[List.length_drop];exact Nat.sub_le _ _);unfold Lib.trimPrefix
   split
   .exact Nat.le_trans T (by omega)
   omega
  go_in;go_wp2_with fail;refine (strings_CutPrefix t ⟨#[120]⟩ _).mono ?_;rintro e I ⟨rfl,rfl⟩;have E:Lib.hasPrefix t.data.toList (ByteArray.mk #[120]).data.toList=true:=D;rw[E];go_wp2_with fail;refine (DT _ _ (by simpa[ByteArray.size] using Q) (M.out _)).mono ?_
  rintro e I ⟨n,v,rfl,K,J,W⟩;have R:=aB ((aF.new w [.int .i64 k,.string t] 131).next J);have A:Hid (aS I):=aS.below (M.out _) J (M.out _).1;have G:=aB (aJ.trans (J.mono (by simp)))
  clear J;rcases W with ⟨u,C,O,rfl⟩|⟨C,Z,Y,rfl⟩
  .subst O
   by_cases U:31<n
   .have j:Hid (dU t.data.toList=none):=by
     show _=_;(have q:Lib.atoiAll (Lib.trimPrefix t.data.toList [120])=.ok n:=by simpa using C);(have:¬(n<=31/\gP n=t.data.toList):=by omega);simp only[dU,D,if_true,q,aC this]
    clear C;go_wp2_with fail;go_quiet (fail);go_wp2;go_ret2;exact ⟨by rw[j.out];rfl,below_drewN G.out _⟩
   (have H:n<=31:=by omega);have x1:=cell_regrown (R.out.2.2 1 _ rfl);(have q:Lib.atoiAll (Lib.trimPrefix t.data.toList [120])=.ok n:=by simpa using C);by_cases L:gP n=t.data.toList
   .have j:Hid (dU t.data.toList=some n):=by
     show _=_;simp only[dU,D,if_true,q,zt (And.intro H L)]
    (have P:(gP n==t.toList)=true:=by rw[ByteArray.toList_eq];simpa using L);clear C q;go_wp2_with fail;refine wp_region_quiet_below (by kernel_rfl) (by kernel_rfl) ?_
    repeat (quiet_step (first
     | (go_at_call 113;exact Calls.regrown_of (Bv n _ K.1 K.2 (aS.below A.out (below_regrown _ _ _) A.out.1)))))
    refine wpQuiet_nil ?_;intro _ F;obtain ⟨⟨N,osq⟩,y⟩:=F;subst y;go_wp2;go_ret2;exact ⟨by rw[j.out];rfl,Below.trans G.out ((below_regrown I N osq).mono G.out.size)⟩
   have j:Hid (dU t.data.toList=none):=by
    show _=_;(have:¬(n<=31/\gP n=t.data.toList):=λ h=>L h.2);simp only[dU,D,if_true,q,aC this]
   (have P:(gP n==t.toList)=false:=by rw[ByteArray.toList_eq];simpa using L);clear C q;go_wp2_with fail;refine wp_region_quiet_below (by kernel_rfl) (by kernel_rfl) ?_
   repeat (quiet_step (first
    | (go_at_call 113;exact Calls.regrown_of (Bv n _ K.1 K.2 (aS.below A.out (below_regrown _ _ _) A.out.1)))))
   refine wpQuiet_nil ?_;intro _ F;obtain ⟨⟨N,osq⟩,y⟩:=F;subst y;go_wp2;go_ret2;exact ⟨by rw[j.out];rfl,Below.trans G.out ((below_regrown I N osq).mono G.out.size)⟩
  have j:Hid (dU t.data.toList=none):=by
   show _=_;have q:∀u,Lib.atoiAll (Lib.trimPrefix t.data.toList [120])≠.ok u:=by simpa using C
   cases h:Lib.atoiAll (Lib.trimPrefix t.data.toList [120]) with
   | ok u=>exact absurd h (q u)
   | _=>simp[dU,D,h]
  clear C;go_wp2_with fail;go_quiet (fail);go_wp2;go_ret2;exact ⟨by rw[j.out];rfl,below_drewN G.out _⟩
 have E:Lib.hasPrefix t.data.toList (ByteArray.mk #[120]).data.toList=false:=by simpa using D
 have j:Hid (dU t.data.toList=none):=by
  show _=_;simp[dU,D]
 go_in;go_wp2_with fail;refine (strings_CutPrefix t ⟨#[120]⟩ _).mono ?_;rintro e I ⟨rfl,rfl⟩;rw[E];go_wp2;go_ret2;exact ⟨by rw[j.out];rfl,aJ⟩
