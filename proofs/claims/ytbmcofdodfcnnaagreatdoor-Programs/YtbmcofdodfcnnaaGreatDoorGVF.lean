import Derived.MakeChecks
import Derived.ProofKit
import Derived.OpenShut
import Derived.Deep.Slices
import Derived.Lib.LaidTab
import Derived.Shelf.Vars
import Derived.SizedLaws
import Derived.Lib.OthersKept
import Derived.Lib.SmallJoins
import Derived.Test.YtbmcofdodfcnnaaGreatDoorGY
import Derived.Test.YtbmcofdodfcnnaaGreatDoorRows
import Derived.Test.YtbmcofdodfcnnaaGreatDoorV10
import Derived.Test.YtbmcofdodfcnnaaGreatDoorGQ
import Derived.Test.YtbmcofdodfcnnaaGreatDoorGK
set_option linter.all false
set_option maxHeartbeats 400000000
set_option maxRecDepth 100000
namespace Go.Proofs.YtbmcofdodfcnnaaGreatDoor
open Pn
open Go.Proofs.Tryz
open Go.ChangeShapes Go.WideShapes Go.ChangeAt Go.RowKit
theorem b36 {H:Type} {enc:TypeId×Value->H} {P:Program} {w:World} {base:Nat} {sp:Nat->Bool} {fuel:Nat} {t:TypeId} {ms:Array (String×TypeId)} {cs:List Value} {name:String} {d:DataW H} {p:List MemPlace}
    (ht:P.underlying t=some (.interface ms)) (h:DataW.trod enc P w base sp false fuel t cs=some (.iface name d,p)):∃u v,cs=[.iface u v]:=by
 cases fuel with
 | zero=>simp[DataW.trod]at h
 | succ n=>
  unfold DataW.trod at h;rw[ht]at h
  cases cs with
  | nil=>simp at h
  | cons c cs=>
   cases cs with
   | cons c2 cs=>cases c<;>simp at h
   | nil=>
    cases c with
    | iface u v=>exact ⟨u,v,rfl⟩
    | _=>simp at h
theorem b7O:prog.cellsOf 3=1:=by kernel_rfl
theorem b39:prog.cellsOf 9=1:=by kernel_rfl
theorem b9m:prog.cellsOf 4=1:=by kernel_rfl
theorem c1B:prog.cellsOf 26=5:=by kernel_rfl
theorem a4y {n:Nat} {l:List Value} (h:l.length=n+1):∃c r,l=c::r/\r.length=n:=by
 cases l with
 | nil=>simp at h
 | cons c r=>exact ⟨c,r,rfl,by simpa using h⟩
section
variable {H : Type} {enc : TypeId × Value → H} {w : World} {base : Nat} {sp : Nat → Bool} {hd : Bool}
theorem a55 {fuel:Nat} {c:Value} {x:Option (DataW H×List MemPlace)} (h:DataW.trod enc prog w base sp hd fuel 3 [c]=x) (hx:x.isSome=true):∃k,c=.int .i64 k:=by
 obtain ⟨y,rfl⟩:=Option.isSome_iff_exists.1 hx;obtain ⟨k,e,_⟩:=DataW.trod_int underlying3 h;exact ⟨k,by simpa using e⟩
theorem c6X {fuel:Nat} {c:Value} {x:Option (DataW H×List MemPlace)} (h:DataW.trod enc prog w base sp hd fuel 9 [c]=x) (hx:x.isSome=true):∃k,c=.string k:=by
 obtain ⟨y,rfl⟩:=Option.isSome_iff_exists.1 hx;obtain ⟨k,e,_⟩:=DataW.trod_string underlying9 h;exact ⟨k,by simpa using e⟩
theorem c4z {fuel:Nat} {c:Value} {x:Option (DataW H×List MemPlace)} (h:DataW.trod enc prog w base sp hd fuel 4 [c]=x) (hx:x.isSome=true):∃k,c=.bool k:=by
 obtain ⟨y,rfl⟩:=Option.isSome_iff_exists.1 hx;obtain ⟨k,e,_⟩:=DataW.trod_bool underlying4 h;exact ⟨k,by simpa using e⟩
theorem c6c {fuel:Nat} {c0 c1 c2 c3 c4:Value} {x:Option (DataW H×List MemPlace)} (h:DataW.trod enc prog w base sp hd fuel 26 [c0,c1,c2,c3,c4]=x) (hx:x.isSome=true):
    ∃k0 k1 k2 k3 k4,c0=.int .i64 k0/\c1=.int .i64 k1/\c2=.int .i64 k2/\c3=.int .i64 k3/\c4=.int .i64 k4:=by
 obtain ⟨y,rfl⟩:=Option.isSome_iff_exists.1 hx;obtain ⟨xs,n,_,_,_,hlen,hf⟩:=DataW.trod_struct underlying26 h;have hlen5:xs.length=5:=hlen;have hs:∀i,i<5->(xs[i]?).isSome=true:=fun i hi=>by rw[List.getElem?_eq_getElem (by omega)];rfl
 have h0:DataW.trod enc prog w base sp hd n 3 (([c0,c1,c2,c3,c4].drop 0).take (prog.cellsOf 3))=xs[0]?:=hf 0 _ rfl;have h1:DataW.trod enc prog w base sp hd n 3 (([c0,c1,c2,c3,c4].drop 1).take (prog.cellsOf 3))=xs[1]?:=hf 1 _ rfl;have h2:DataW.trod enc prog w base sp hd n 3 (([c0,c1,c2,c3,c4].drop 2).take (prog.cellsOf 3))=xs[2]?:=hf 2 _ rfl;have h3:DataW.trod enc prog w base sp hd n 3 (([c0,c1,c2,c3,c4].drop 3).take (prog.cellsOf 3))=xs[3]?:=hf 3 _ rfl;have h4:DataW.trod enc prog w base sp hd n 3 (([c0,c1,c2,c3,c4].drop 4).take (prog.cellsOf 3))=xs[4]?:=hf 4 _ rfl;rw[b7O]at h0 h1 h2 h3 h4;obtain ⟨k0,rfl⟩:=a55 h0 (hs 0 (by omega))
 obtain ⟨k1,rfl⟩:=a55 h1 (hs 1 (by omega))
 obtain ⟨k2,rfl⟩:=a55 h2 (hs 2 (by omega))
 obtain ⟨k3,rfl⟩:=a55 h3 (hs 3 (by omega))
 obtain ⟨k4,rfl⟩:=a55 h4 (hs 4 (by omega))
 exact ⟨k0,k1,k2,k3,k4,rfl,rfl,rfl,rfl,rfl⟩
end
theorem own:ownKnob prog.godebug=none:=by kernel_rfl
theorem c3F:laidOutB prog=true:=by kernel_rfl
theorem d0l:prog.globalNamed "internal/strconv.uint64pow10"=some 1:=by kernel_rfl
theorem c93:prog.globalNamed "strconv.ErrSyntax"=some 6:=by kernel_rfl
theorem d0d:prog.globalNamed "strconv.ErrRange"=some 7:=by kernel_rfl
theorem d0k:(prog.globals[1]?).map (·.type)=some 288:=by kernel_rfl
theorem d0i:(prog.globals[6]?).map (·.type)=some 141:=by kernel_rfl
theorem d0j:(prog.globals[7]?).map (·.type)=some 141:=by kernel_rfl
theorem c1K:prog.cellsOf 62=1:=by kernel_rfl
theorem c1G:prog.cellsOf 288=20:=by kernel_rfl
theorem a5W {w:World} {n:String} {g:Nat} {cs:Array Value} {u:TypeId} {v:Value} (hg:prog.globalNamed n=some g) (hv:w.var? prog n=some cs) (e:cs.toList=[.iface u v]):w.cell? ⟨g,0,none⟩=some (.iface u v):=by
 have h:=World.var?_cell hg hv 0;obtain ⟨l⟩:=cs;have e2:l=[.iface u v]:=e;subst e2;simpa using h
theorem c6s {W:World} (hL:laidMetH prog Rows.codesRow.laid W) (hS:W.ShapedOpen prog):Env W:=by
 rw[MakeChecks.laidMetH_plain _ _ _ (by kernel_rfl)]at hL
 obtain ⟨ps,hv,_⟩:=hL;obtain ⟨_,_,_,_,_,_,_,_,_,_,hv,_⟩:=hv;obtain ⟨_,_,_,_,_,_,_,_,_,_,hv,_⟩:=hv;obtain ⟨g2,t2,cs2,f2,p2,q2,hg2,ht2,hv2,hd2,hv,_⟩:=hv;obtain ⟨_,_,_,_,_,_,_,_,_,_,hv,_⟩:=hv;obtain ⟨g4,t4,cs4,f4,p4,q4,hg4,ht4,hv4,hd4,hv,_⟩:=hv;obtain ⟨g5,t5,cs5,f5,p5,q5,hg5,ht5,hv5,hd5,_,_⟩:=hv;obtain rfl:=Option.some.inj (d0l.symm.trans hg2);obtain rfl:=Option.some.inj (d0d.symm.trans hg4);obtain rfl:=Option.some.inj (c93.symm.trans hg5);obtain rfl:=Option.some.inj (d0k.symm.trans ht2);obtain rfl:=Option.some.inj (d0j.symm.trans ht4);obtain rfl:=Option.some.inj (d0i.symm.trans ht5);have hd2':DataW.trod (fun _=>()) prog W 0 (fun _=>true) false f2 288 cs2.toList=some (Lib.tabData .u64 Lib.pow10Tab,p2):=hd2
 have e2:=Lib.cells_of_tab underlying288 underlying62 c1K c1G hd2';obtain ⟨u4,v4,e4⟩:=b36 underlying141 hd4;obtain ⟨u5,v5,e5⟩:=b36 underlying141 hd5;have c4:=a5W d0d hv4 e4;have c5:=a5W c93 hv5 e5;refine ⟨?_,?_,?_,⟨u5,v5,c5⟩,⟨u4,v4,c4⟩⟩
 ·have h7:7<W.heap.size:=World.block_lt_of_cell? W _ c4
  omega
 ·show W.var? prog _=_
  rw[hv2,<-e2]
 ·exact cell_of_shapedOpen_int (t:=3) (zero:=#[.int .i64 0]) hS (of_decide_eq_true (by kernel_rfl)) (by kernel_rfl) rfl (by kernel_rfl) (by kernel_rfl) underlying3
open Go.RowKit
theorem a2h (n:Int) (w:World) (h0:-9223372036854775808<=n) (h1:n<=9223372036854775807) (hE:Env w):
    Calls prog 113 #[.int .i64 n] w fun e w'=>∃s:ByteArray,e=.returned (.string s)/\s.size<=22/\Hid (s.data.toList=a67 n)/\Below w.heap.size w w':=by
 go_enter func113,ntmps113;go_wp2_with fail;refine (a2q n _ h0 h1 hE).mono ?_;rintro e w1 ⟨s,rfl,hs,HS,hB⟩;have HB:=a0a hB;clear hB;go_wp2_with fail;go_ret;refine ⟨_,rfl,?_,?_,HB.out⟩
 ·have:(⟨#[120]⟩++s:ByteArray).size=1+s.size:=by rw[ByteArray.size_append];rfl
  omega
 ·show (⟨#[120]⟩++s:ByteArray).data.toList=_
  rw[c18,HS.out];rfl
theorem b2M (op rd rs1 rs2 imm:Int) (r:UInt8) (hr:a7b r) (w:World) (hE:Env w) (d0:0<=rd) (d1:rd<=31) (s0:0<=rs1) (s1:rs1<=31) (t0:0<=rs2) (t1:rs2<=31) (m0:-1048576<=imm) (m1:imm<=1048576):
    Calls prog 63 #[.agg #[.int .i64 op,.int .i64 rd,.int .i64 rs1,.int .i64 rs2,.int .i64 imm],.int .i32 r.toNat] w fun e w'=>
     ∃s:ByteArray,e=.returned (.string s)/\s.size<=22/\Hid (s.data.toList=b2R ⟨op,rd,rs1,rs2,imm⟩ r)/\Below w.heap.size w w':=by
 have hE1:=a0a (fun o=>hE.alloc o)
 rcases hr with rfl|rfl|rfl|rfl|rfl|rfl|rfl|rfl
 ·show Calls prog 63 #[_,.int .i32 100] w _
  go_enter func63,ntmps63;go_wp2_with fail;refine (a2h rd _ (by omega) (by omega) (hE1.out _)).mono ?_
  rintro e w1 ⟨s,rfl,hs,HS,hB⟩;have HB:=a0a (((Below.refl w.heap.size w).alloc (Nat.le_refl _) _).trans (hB.mono (by simp)))
  clear hB;go_wp2_with fail;go_ret;exact ⟨s,rfl,hs,HS,HB.out⟩
 ·show Calls prog 63 #[_,.int .i32 115] w _
  go_enter func63,ntmps63;go_wp2_with fail;refine (a2h rs1 _ (by omega) (by omega) (hE1.out _)).mono ?_
  rintro e w1 ⟨s,rfl,hs,HS,hB⟩;have HB:=a0a (((Below.refl w.heap.size w).alloc (Nat.le_refl _) _).trans (hB.mono (by simp)))
  clear hB;go_wp2_with fail;go_ret;exact ⟨s,rfl,hs,HS,HB.out⟩
 ·show Calls prog 63 #[_,.int .i32 116] w _
  go_enter func63,ntmps63;go_wp2_with fail;refine (a2h rs2 _ (by omega) (by omega) (hE1.out _)).mono ?_
  rintro e w1 ⟨s,rfl,hs,HS,hB⟩;have HB:=a0a (((Below.refl w.heap.size w).alloc (Nat.le_refl _) _).trans (hB.mono (by simp)))
  clear hB;go_wp2_with fail;go_ret;exact ⟨s,rfl,hs,HS,HB.out⟩
 ·show Calls prog 63 #[_,.int .i32 105] w _
  go_enter func63,ntmps63;go_wp2_with fail;refine (a2q imm _ (by omega) (by omega) (hE1.out _)).mono ?_
  rintro e w1 ⟨s,rfl,hs,HS,hB⟩;have HB:=a0a (((Below.refl w.heap.size w).alloc (Nat.le_refl _) _).trans (hB.mono (by simp)))
  clear hB;go_wp2_with fail;go_ret;exact ⟨s,rfl,by omega,HS,HB.out⟩
 ·show Calls prog 63 #[_,.int .i32 112] w _
  go_enter func63,ntmps63;go_wp2_with fail;refine (a2q imm _ (by omega) (by omega) (hE1.out _)).mono ?_
  rintro e w1 ⟨s,rfl,hs,HS,hB⟩;have HB:=a0a (((Below.refl w.heap.size w).alloc (Nat.le_refl _) _).trans (hB.mono (by simp)))
  clear hB;go_wp2_with fail;go_ret;exact ⟨s,rfl,by omega,HS,HB.out⟩
 ·show Calls prog 63 #[_,.int .i32 44] w _
  go_enter func63,ntmps63;go_wp2_with fail;go_ret;exact ⟨_,rfl,by decide,rfl,(Below.refl _ _).alloc (Nat.le_refl _) _⟩
 ·show Calls prog 63 #[_,.int .i32 40] w _
  go_enter func63,ntmps63;go_wp2_with fail;go_ret;exact ⟨_,rfl,by decide,rfl,(Below.refl _ _).alloc (Nat.le_refl _) _⟩
 ·show Calls prog 63 #[_,.int .i32 41] w _
  go_enter func63,ntmps63;go_wp2_with fail;go_ret;exact ⟨_,rfl,by decide,rfl,(Below.refl _ _).alloc (Nat.le_refl _) _⟩
theorem a9C (kd:Nat) (hk:a4i kd) (w:World):
    Calls prog 62 #[.int .i64 (Pn.kdI kd)] w fun e w'=>e=.returned (.string ⟨(Pn.shp kd).toArray⟩)/\w'=w:=by
 rcases hk with rfl|rfl|rfl|rfl|rfl|rfl|rfl|rfl|rfl|rfl
 all_goals
  simp only[Pn.kdI];go_enter func62,ntmps62;go_wp2_with fail;go_ret;exact ⟨rfl,rfl⟩
theorem b7g (i:Pn.Ins) (w:World) (h:Pn.right i=false):
    Calls prog 36 #[i.val] w fun e w'=>e=.returned (.tuple #[.string ⟨#[]⟩,.int .i64 1])/\Below w.heap.size w w':=by
 have HV:=(show Hid _ from a2C h)
 clear h;obtain ⟨op,rd,rs1,rs2,imm⟩:=i;unfold Pn.Ins.val;simp only;go_enter func36,ntmps36;go_wp2_with fail;refine (a15 ⟨op,rd,rs1,rs2,imm⟩ _).mono ?_;rintro e w1 ⟨rfl,hB1⟩;rw[HV.out];have HB1:Hid (Below w.heap.size w w1):=((Below.refl _ _).alloc (Nat.le_refl _) _).trans (hB1.mono (by simp))
 clear hB1;unfold a0U a1P;go_wp2_with fail;go_ret2;exact ⟨rfl,HB1.out.alloc HB1.out.size _⟩
def c96 (nm:List UInt8) (i:Pn.Ins) (S:ByteArray) (w:World) (it:Nat) (t:Value) (wr:World):Prop:=
 ∃(j:Nat) (T:ByteArray),j<=S.size/\t=.string T/\T.size<=10+22*j/\Hid (T.data.toList=nm++[32]++(S.data.toList.take j).flatMap (b2R i))/\wr.heap[it]?=some (.stringIter S j)/\
  CellsAt w.heap.size [.int .i64 i.op,.int .i64 i.rd,.int .i64 i.rs1,.int .i64 i.rs2,.int .i64 i.imm] wr/\Env wr/\Below w.heap.size w wr/\w.heap.size<it
theorem a6A (w:World) (k:Nat) (s:ByteArray) (pos:Nat):Below k w (w.iterAt k s pos):=Lib.below_iterAt (Below.refl _ _) (Nat.le_refl _) s pos
theorem c0h (k:Nat) (rd rs1 rs2 imm:Int) (w:World) (hk:k<64) (hr:Pn.right ⟨k+1,rd,rs1,rs2,imm⟩=true) (hE:Env w):
    Calls prog 36 #[.agg #[.int .i64 (k+1),.int .i64 rd,.int .i64 rs1,.int .i64 rs2,.int .i64 imm]] w fun e w'=>
     e=.returned (.tuple #[.string ⟨(b3m k rd rs1 rs2 imm).toArray⟩,.int .i64 0])/\Below w.heap.size w w':=by
 have HV:=(show Hid _ from a3S hr)
 obtain ⟨⟨d0,d1⟩,⟨s0,s1⟩,⟨t0,t1⟩,m0,m1⟩:=a1k hk hr;clear hr;have HKO:=a0a (a02 k hk);go_enter func36,ntmps36;go_wp2_with fail;refine (a15 ⟨k+1,rd,rs1,rs2,imm⟩ _).mono ?_;rintro e w1 ⟨rfl,hB1⟩;rw[HV.out];have HI1:=(show Hid _ from (CellsAt.new w [.int .i64 (k+1),.int .i64 rd,.int .i64 rs1,.int .i64 rs2,.int .i64 imm] 26).next hB1)
 have HE1:Hid (Env w1):=(hE.alloc _).below hB1 (hE.alloc _).1;have HB1:Hid (Below w.heap.size w w1):=((Below.refl _ _).alloc (Nat.le_refl _) _).trans (hB1.mono (by simp))
 clear hB1 hE;unfold a3y a3a;go_wp2_with fail;refine (a9C (Pn.row k).kind HKO.out _).mono ?_;rintro e w2 ⟨rfl,rfl⟩;have hM:(Pn.row k).name.length<=8:=b0H k hk;by_cases hs:Pn.shp (Pn.row k).kind=[]
 ·have HS:=a0a (a6t HKO.out ⟨k+1,rd,rs1,rs2,imm⟩)
  rw[if_pos hs]at HS;rw[hs];go_wp2_with fail;go_ret2;refine ⟨a3R (a6O ?_) rfl,HB1.out.alloc HB1.out.size _⟩;unfold b3m;rw[<-HS.out];simp
 ·have HS:=a0a (a6t HKO.out ⟨k+1,rd,rs1,rs2,imm⟩)
  rw[if_neg hs]at HS
  have hne:(ByteArray.mk (Pn.shp (Pn.row k).kind).toArray).toList.isEmpty=false:=by
   rw[ByteArray.toList_eq]
   cases hq:Pn.shp (Pn.row k).kind with
   | nil=>exact absurd hq hs
   | cons a l=>rfl
  have hsz:(ByteArray.mk (Pn.shp (Pn.row k).kind).toArray).size<=6:=by simpa[ByteArray.size] using a90 (Pn.row k).kind
  have HLT:Hid (∀r∈(ByteArray.mk (Pn.shp (Pn.row k).kind).toArray).data.toList,a7b r):=by
   show ∀r∈_,_;simpa using a49 HKO.out
  have HSD:Hid ((ByteArray.mk (Pn.shp (Pn.row k).kind).toArray).data.toList=Pn.shp (Pn.row k).kind):=by show _=_;simp
  generalize ByteArray.mk (Pn.shp (Pn.row k).kind).toArray=S at *;go_wp2_with fail;go_loopw [7] (fun t wr=>c96 (Pn.row k).name ⟨k+1,rd,rs1,rs2,imm⟩ S w (w1.heap.size+1) t wr) (fun _ wr=>S.size-wr.iterPos (w1.heap.size+1))
  case atStart=>
   refine ⟨0,_,by omega,rfl,?_,?_,?_,?_,?_,?_,?_⟩
   ·rw[ByteArray.size_append];simp[ByteArray.size];omega
   ·show (_++_:ByteArray).data.toList=_
    rw[c18];simp
   ·have:=World.iter_heap (w1.alloc (.cells (a3a k).toArray 100)) S 0
    rw[World.size_alloc]at this;exact this
   ·exact CellsAt.alloc (CellsAt.alloc HI1.out _) _
   ·exact (Env.alloc (Env.alloc HE1.out _) _)
   ·exact (HB1.out.alloc HB1.out.size _).alloc (by have:=HB1.out.size;simp;omega) _
   ·have:=HB1.out.size;omega
  case round=>
   obtain ⟨j,T,hj,rfl,hTz,HT,hit,hI,hEn,hBn,hitz⟩:=hrel;by_cases hlt:j<S.size
   ·have hrl:a7b (S[j]'hlt):=HLT.out _ (by show S.data[j]∈S.data.toList;exact Array.mem_toList_iff.2 (Array.getElem_mem _))
    have hasc:(S[j]'hlt).toNat<128:=by rcases hrl with h|h|h|h|h|h|h|h<;>(rw[h];decide)
    have hnx:∀ty,(Instr.next (.pointer (some ⟨w1.heap.size+1,0,none⟩)) true ty).run prog wr=.ok (.tuple #[.bool true,.int .i64 j,.int .i32 (S[j]'hlt).toNat]) (wr.iterAt (w1.heap.size+1) S (j+1)):=fun ty=>
     Lib.run_next_ascii_at wr (w1.heap.size+1) S j ty hit hlt hasc
    have hBi:=a6A wr (w1.heap.size+1) S (j+1);have hI2:=hI.step hBi hitz;have hit2:(wr.iterAt (w1.heap.size+1) S (j+1)).heap[w1.heap.size+1]?=some (.stringIter S (j+1)):=Lib.iterAt_heap wr _ S j (j+1) hit;(have hE2:Env (wr.iterAt (w1.heap.size+1) S (j+1)):=hEn.below hBi (by have:=HE1.out.1;omega));(have hB2:Below w.heap.size w (wr.iterAt (w1.heap.size+1) S (j+1)):=hBn.trans (hBi.mono (by omega)));have HIT0:=a0a hit;clear hI hit hEn hBn hBi;generalize wr.iterAt (w1.heap.size+1) S (j+1)=W at *;obtain ⟨hz,_,ic⟩:=hI2;have i0:=ic 0 _ rfl;have i1:=ic 1 _ rfl;have i2:=ic 2 _ rfl;have i3:=ic 3 _ rfl;have i4:=ic 4 _ rfl;(have HI2:Hid (CellsAt w.heap.size [.int .i64 (k+1),.int .i64 rd,.int .i64 rs1,.int .i64 rs2,.int .i64 imm] W):=⟨hz,by assumption,ic⟩);clear ic;simp only at i0 i1 i2 i3 i4;go_wp2_with fail;refine (b2M _ _ _ _ _ _ hrl _ hE2 d0 d1 s0 s1 t0 t1 m0 m1).mono ?_;rintro e w3 ⟨s,rfl,hs3,HS3,hB3⟩;have HI3:=a0a (CellsAt.next HI2.out hB3);have HE3:=a0a (hE2.below hB3 hE2.1);have HB3:=a0a (hB2.trans (hB3.mono hB2.size));have HIT3:Hid (w3.heap[w1.heap.size+1]?=some (.stringIter S (j+1))):=(hB3.block _ (Array.getElem?_eq_some_iff.1 hit2).1).trans hit2
    have HTK:Hid (S.data.toList.take (j+1)=S.data.toList.take j++[S[j]'hlt]):=by
     show _=_;(rw[List.take_add_one,List.getElem?_eq_getElem (by simpa using hlt)]);rfl
    clear hB3 hE2 hB2 hit2 i0 i1 i2 i3 i4 hnx;(have hTz2:(T.size:Int)<=142:=by omega);(have hs3':(s.size:Int)<=22:=by omega);go_wp2_with fail;go_roundw
    case rel=>
     refine ⟨j+1,T++s,by omega,rfl,?_,?_,HIT3.out,HI3.out,HE3.out,HB3.out,hitz⟩
     ·rw[ByteArray.size_append];omega
     ·show (T++s).data.toList=_
      rw[c18,HT.out,HS3.out,HTK.out,List.flatMap_append];simp
    case measure=>
     simp[World.iterPos,HIT3.out,HIT0.out];omega
   ·have hje:j=S.size:=by omega
    have hnx:∀ty,(Instr.next (.pointer (some ⟨w1.heap.size+1,0,none⟩)) true ty).run prog wr=.ok (.tuple #[.bool false]) wr:=fun ty=>
     Lib.run_next_end_at wr (w1.heap.size+1) S j ty hit hlt
    have HB3:=a0a hBn;clear hI hit hEn hBn;go_wp2_with fail;go_ret2;refine ⟨a3R (a6O ?_) rfl,HB3.out⟩;(rw[HT.out,hje,List.take_of_length_le (by simp),HSD.out]);unfold b3m;have:=HS.out;rw[<-this];simp
theorem b1Y (i:Pn.Ins) (w:World) (hE:Env w):
    Calls prog 36 #[i.val] w fun e w'=>e=.returned (.tuple #[.string ⟨(Pn.shw i).1.toArray⟩,.int .i64 (Pn.shw i).2])/\Below w.heap.size w w':=by
 by_cases h:Pn.right i=true
 ·obtain ⟨op,rd,rs1,rs2,imm⟩:=i
  have hop:1<=op/\op<=64:=by
   apply Classical.byContradiction;intro hn;rw[a1C _ hn]at h;cases h
  obtain ⟨k,rfl⟩:∃k:Nat,op=k+1:=⟨(op-1).toNat,by omega⟩
  have hk:k<64:=by omega
  rw[b2O h];exact c0h k rd rs1 rs2 imm w hk h hE
 ·have h':Pn.right i=false:=by simpa using h
  rw[b2Q h'];exact b7g i w h'
theorem b65 (i:Pn.Ins) (w:World) (hE:Env w):
    Calls prog 15 #[i.val] w fun e w'=>e=.returned (.tuple #[.string ⟨(Pn.shw i).1.toArray⟩,.int .i64 (Pn.shw i).2])/\Below w.heap.size w w':=by
 obtain ⟨op,rd,rs1,rs2,imm⟩:=i;unfold Pn.Ins.val;simp only;have HE:=a0a (fun o=>hE.alloc o)
 go_enter func15,ntmps15;go_wp2_with fail;refine (b1Y ⟨op,rd,rs1,rs2,imm⟩ _ (HE.out _)).mono ?_;rintro e w1 ⟨rfl,hB1⟩;have HB1:Hid (Below w.heap.size w w1):=((Below.refl _ _).alloc (Nat.le_refl _) _).trans (hB1.mono (by simp))
 clear hB1;go_wp2_with fail;go_ret2;exact ⟨rfl,HB1.out⟩
theorem a8n (r:Int) (w:World):Calls prog 185 #[.int .i32 r] w fun e w'=>e=.returned (.bool (a0o r))/\w'=w:=by
 go_enter func185,ntmps185;go_wp2
 all_goals
  go_ret;refine ⟨a1r ?_,rfl⟩;unfold a0o
  first
  | (rw[decide_eq_true (p:=97<=r) (by omega)];rfl)
  | (rw[decide_eq_false (p:=97<=r) (by omega)];rfl)
theorem a9f (r:Int) (w:World):Calls prog 186 #[.int .i32 r] w fun e w'=>e=.returned (.bool (a0t r))/\w'=w:=by
 go_enter func186,ntmps186;go_wp2
 all_goals
  go_ret;refine ⟨a1r ?_,rfl⟩;unfold a0t
  first
  | (rw[decide_eq_true (p:=48<=r) (by omega)];rfl)
  | (rw[decide_eq_false (p:=48<=r) (by omega)];rfl)
theorem c0s (t:ByteArray) (w:World):Calls prog 187 #[.string t] w fun e w'=>e=.returned (.bool (a7k t.data.toList))/\w'=w:=by
 go_enter func187,ntmps187;go_wp2_with fail;refine (Tryz.strings_TrimPrefix t ⟨#[45]⟩ w).mono ?_;rintro e w1 ⟨rfl,rfl⟩;go_wp2_with fail
 all_goals
  go_ret;refine ⟨a1r (congrArg Value.bool ?_),rfl⟩;unfold a7k
  first
  | (rw[decide_eq_true (p:=1<=(Lib.trimPrefix t.data.toList [45]).length) (by omega),Bool.true_and];exact decide_eq_decide.2 (by omega))
  | (rw[decide_eq_false (p:=1<=(Lib.trimPrefix t.data.toList [45]).length) (by omega),Bool.false_and])
theorem b1l (c:Nat) (k f r:Int) (L:ByteArray) (v:Value) (w:World) (hC:CellsAt c [.string L,v,.int .i64 k,.int .i64 f] w):
    Calls prog 132 #[.pointer (some ⟨c,0,none⟩),.int .i32 r] w fun e w'=>e=.returned (.bool (Pn.goes k r))/\w'=w:=by
 obtain ⟨_,_,cc⟩:=hC;have c2:=cc 2 _ rfl;clear cc;go_enter func132,ntmps132
 go_wp2_with (first
  | (go_at_call 185;refine (a8n _ _).mono ?_;rintro e w' ⟨rfl,rfl⟩)
  | (go_at_call 186;refine (a9f _ _).mono ?_;rintro e w' ⟨rfl,rfl⟩))
 all_goals
  go_ret;refine ⟨a1r (congrArg Value.bool ?_),rfl⟩;simp_all[Pn.goes]
theorem c1y (c:Nat) (k f at' r:Int) (L:ByteArray) (ao:Option Addr) (ln cp:Nat) (w:World) (hC:CellsAt c [.string L,.slice ao ln cp,.int .i64 k,.int .i64 f] w):
    Calls prog 134 #[.pointer (some ⟨c,0,none⟩),.int .i64 at',.int .i32 r] w fun e w'=>e=.returned (.bool (Pn.beg r).isSome)/\(∀k',Pn.beg r=some k'->w'=(w.setCell ⟨c,3,none⟩ (.int .i64 at')).setCell ⟨c,2,none⟩ (.int .i64 k'))/\(Pn.beg r=none->w'=w.setCell ⟨c,3,none⟩ (.int .i64 at')):=by
 obtain ⟨hz,cf,cc⟩:=hC;have c2:=cc 2 _ rfl;have c3:=cc 3 _ rfl;clear cc;go_enter func134,ntmps134
 go_wp2_with (first
  | (go_at_call 185;refine (a8n _ _).mono ?_;rintro e w' ⟨rfl,rfl⟩)
  | (go_at_call 186;refine (a9f _ _).mono ?_;rintro e w' ⟨rfl,rfl⟩))
 all_goals
  first
  | (have hb:Pn.beg r=some 1:=(by simp_all[Pn.beg])
     go_ret;rw[hb];exact ⟨rfl,fun k' e=>(by cases e;rfl),fun e=>(by cases e)⟩)
  | (have hb:Pn.beg r=some 2:=(by simp_all[Pn.beg])
     go_ret;rw[hb];exact ⟨rfl,fun k' e=>(by cases e;rfl),fun e=>(by cases e)⟩)
  | (have hb:Pn.beg r=some 3:=(by simp_all[Pn.beg])
     go_ret;rw[hb];exact ⟨rfl,fun k' e=>(by cases e;rfl),fun e=>(by cases e)⟩)
  | (have hb:Pn.beg r=some 0:=(by simp_all[Pn.beg])
     go_ret;rw[hb];exact ⟨rfl,fun k' e=>(by cases e;rfl),fun e=>(by cases e)⟩)
  | (have hb:Pn.beg r=none:=(by simp_all[Pn.beg])
     go_ret;rw[hb];exact ⟨rfl,fun k' e=>(by cases e),fun _=>rfl⟩)
def c3b (c:Nat) (L:ByteArray) (v:Value) (n:Nat) (xs:List Value) (k:Int) (f a base:Nat) (w w':World):Prop:=
 ∃v',CellsAt c [.string L,v',.int .i64 k,.int .i64 f] w'/\w'.ownsRow base 131 2 v' (n+1) (xs++[.int .i64 k,.string (L.extract f a)])/\
  (∀b,b<w.heap.size->v.ownBlock≠some b->v'.ownBlock≠some b)/\a3c c v.ownBlock w w'
theorem c3k {c f a n base gg cap:Nat} {k:Int} {L:ByteArray} {v:Value} {xs:List Value} {w W w9:World} {o:Obj} (hB:Below w.heap.size w W) (hsz:W.heap.size=w.heap.size+1) (hC:CellsAt c [.string L,v,.int .i64 k,.int .i64 f] W)
    (hne:v.ownBlock≠some c) (hz:c<w.heap.size) (hgrow:(W.alloc o).drew.grownBy w9 v.ownBlock) (hat:v.ownBlock=some gg\/gg=W.heap.size+1)
    (hown:w9.ownsRow base 131 2 (.slice (some ⟨gg,0,none⟩) (n+1) cap) (n+1) (xs++[.int .i64 k,.string (L.extract f a)])):
    c3b c L v n xs k f a base w (w9.setCell ⟨c,1,none⟩ (.slice (some ⟨gg,0,none⟩) (n+1) cap)):=by
 have hgc:gg≠c:=by
  rcases hat with h|h
  ·exact fun e=>hne (by rw[h,e])
  ·omega
 have hk1:a3c c v.ownBlock w (W.alloc o).drew:=a3c.of_below (hB.trans ((((Below.refl W.heap.size W).alloc (Nat.le_refl _) o).drew).mono hB.size));have hk2:a3c c v.ownBlock (W.alloc o).drew w9:=a3c.of_grown hgrow;have hC2:CellsAt c [.string L,v,.int .i64 k,.int .i64 f] (W.alloc o).drew:=hC.next (((Below.refl W.heap.size W).alloc (Nat.le_refl _) o).drew)
 have hC9:CellsAt c [.string L,v,.int .i64 k,.int .i64 f] w9:=by
  have e:=hgrow.block c hC2.1 (fun e=>hne e.symm)
  exact ⟨Nat.lt_of_lt_of_le hC2.1 hgrow.size,fun q=>(World.frozen?_of_block (a:=⟨c,q,none⟩) e).trans (hC2.2.1 q),fun j u hj=>(World.cell?_of_block (a:=⟨c,j,none⟩) e).trans (hC2.2.2 j u hj)⟩
 refine ⟨_,hC9.set 1 _ (by simp),a0u hown (fun g hg=>?_),fun b hb hv=>?_,(hk1.trans hk2).trans (a3c.setCell c _ w9 1 _)⟩
 ·have:gg=g:=by simpa[Value.ownBlock] using hg
  subst this;exact Below.heap_setCell _ _ _ _ (fun e=>hgc e)
 ·show some gg≠some b
  intro e;have e':gg=b:=by simpa using e
  rcases hat with h|h
  ·exact hv (by rw[h,e'])
  ·omega
theorem b84:(prog.info? 131).map (fun i=>(i.zero,i.size,i.bytes))=some (some (.agg #[.int .i64 0,.string ⟨#[]⟩]),2,24):=by kernel_rfl
theorem c1V (c:Nat) (a f:Int) (L:ByteArray) (v:Value) (w:World) (hC:CellsAt c [.string L,v,.int .i64 0,.int .i64 f] w):
    Calls prog 133 #[.pointer (some ⟨c,0,none⟩),.int .i64 a] w fun e w'=>e=.returned (.bool true)/\w'=w:=by
 obtain ⟨hz,cf,cc⟩:=hC;have c2:=cc 2 _ rfl;clear cc;go_enter func133,ntmps133;go_wp2_with fail;go_ret;exact ⟨rfl,rfl⟩
theorem c1Z (c f a n base:Nat) (k:Int) (L:ByteArray) (v:Value) (xs:List Value) (w:World) (hk:(k==0)=false) (hC:CellsAt c [.string L,v,.int .i64 k,.int .i64 f] w) (hown:w.ownsRow base 131 2 v n xs)
    (hne:v.ownBlock≠some c) (hbase:base<=w.heap.size) (hf:f<=a) (ha:a<=L.size) (hL:L.size<=2000) (hn:n<=2000):
    Calls prog 133 #[.pointer (some ⟨c,0,none⟩),.int .i64 a] w fun e w'=>e=.returned (.bool (a5m k (L.extract f a).data.toList))/\c3b c L v n xs k f a base w w':=by
 obtain ⟨i0,hi,hz0,hz1,hz2⟩:=info_parts b84;obtain ⟨hz,cf,cc⟩:=hC;have c0:=cc 0 _ rfl;have c1:=cc 1 _ rfl;have c2:=cc 2 _ rfl;have c3:=cc 3 _ rfl;have HC:=a0a cc;have HF:=a0a cf;have HO:=a0a hown;clear cc hown;have f1:(f:Int)<=a:=by omega
 have a1:(a:Int)<=L.size:=by omega
 have a2:(L.size:Int)<=2000:=by omega
 have hcn:w.heap.size≠c:=by omega
 go_enter func133,ntmps133;go_wp2_with fail;go_region_held3 (fun w'=>w'.cell? ⟨c,0,none⟩=some (.string L)/\w'.cell? ⟨c,2,none⟩=some (.int .i64 k)/\w'.cell? ⟨c,3,none⟩=some (.int .i64 f)) (go_keep) (fail)
 go_wp2_with fail;have w1:(w.alloc (.cells #[.int .i64 k,.string (L.extract f a)] 131)).drew.cell? ⟨c,1,none⟩=some v:=by go_simp
 have wf:(w.alloc (.cells #[.int .i64 k,.string (L.extract f a)] 131)).drew.frozen? ⟨c,1,none⟩=false:=by go_simp
 have wp0:(w.alloc (.cells #[.int .i64 k,.string (L.extract f a)] 131)).drew.cell? ⟨w.heap.size,0,none⟩=some (.int .i64 k):=by go_simp
 have wp1:(w.alloc (.cells #[.int .i64 k,.string (L.extract f a)] 131)).drew.cell? ⟨w.heap.size,1,none⟩=some (.string (L.extract f a)):=by go_simp
 have wsz:(w.alloc (.cells #[.int .i64 k,.string (L.extract f a)] 131)).drew.heap.size=w.heap.size+1:=by show (w.alloc _).heap.size=_;simp
 have HOW:=a0a ((HO.out.alloc (.cells #[.int .i64 k,.string (L.extract f a)] 131)).drew);have HBW:Hid (Below w.heap.size w (w.alloc (.cells #[.int .i64 k,.string (L.extract f a)] 131)).drew):=((Below.refl _ _).alloc (Nat.le_refl _) _).drew;have HCW:Hid (CellsAt c [.string L,v,.int .i64 k,.int .i64 f] (w.alloc (.cells #[.int .i64 k,.string (L.extract f a)] 131)).drew):=CellsAt.next ⟨hz,HF.out,HC.out⟩ HBW.out;have hvP:v.ownBlock≠some w.heap.size:=fun e=>by have:=(HO.out.lt _ e).2;omega
 clear c0 c1 c2 c3 cf;generalize (w.alloc (.cells #[.int .i64 k,.string (L.extract f a)] 131)).drew=W at *;have HSZ:=a0a wsz;have hcW:c<W.heap.size:=by omega
 have hpW:w.heap.size<W.heap.size:=by omega
 have hbW:base<=W.heap.size:=by omega
 clear wsz
 go_region_law
  ((refine step_append_lies _ (by rfl) _ _ _ (by rfl) base 131 i0 _ 2 24 underlying125 hi hz0 hz1 hz2 rfl (by omega) v n xs (by rfl) ((HOW.out.alloc _).drew)
      ⟨W.heap.size,0,none⟩ 1 1 [.int .i64 k,.string (L.extract f a)] (by rfl) (by rfl) (World.news_of_block (cs:=#[.int .i64 k,.string (L.extract f a)]) (t:=131) (fr:=(0,0)) (heap_alloc_new W _)) (by simp[Value.oneCell'])
      (by omega) (by unfold maxLen;omega) (by omega) (by simp;omega) (W.heap.size+1) (by simp) ?_;intro gg cap w9 hown9 hgrow hat hlt;have q1:w9.cell? ⟨c,1,none⟩=some v:=(hgrow.cell_far _ (by simp;omega) (Ne.symm hne)).trans (by simp[w1,World.cell?_alloc_some]);have qf:w9.frozen? ⟨c,1,none⟩=false:=(hgrow.frozen_far _ (by simp;omega) (Ne.symm hne)).trans (by simp[wf,World.frozen?_alloc_old,Nat.ne_of_lt hcW])))
 all_goals
  have HEO:=a0a (c3k HBW.out HSZ.out HCW.out hne hz hgrow hat hown9);have x0:(w9.setCell ⟨c,1,none⟩ (.slice (some ⟨gg,0,none⟩) (n+1) cap)).cell? ⟨w.heap.size,0,none⟩=some (.int .i64 k):=(World.cell?_setCell_far _ _ _ _ (fun e=>hcn e.symm)).trans ((hgrow.cell_far _ (by simp;omega) (Ne.symm hvP)).trans (by simp[wp0,World.cell?_alloc_some]))
  have x1:(w9.setCell ⟨c,1,none⟩ (.slice (some ⟨gg,0,none⟩) (n+1) cap)).cell? ⟨w.heap.size,1,none⟩=some (.string (L.extract f a)):=(World.cell?_setCell_far _ _ _ _ (fun e=>hcn e.symm)).trans ((hgrow.cell_far _ (by simp;omega) (Ne.symm hvP)).trans (by simp[wp1,World.cell?_alloc_some]))
  generalize w9.setCell ⟨c,1,none⟩ (.slice (some ⟨gg,0,none⟩) (n+1) cap)=Z at *;by_cases h2:(k != 2)=true
  ·go_wp2_with fail
   go_ret;refine ⟨a1r (congrArg Value.bool ?_),HEO.out⟩;unfold a5m;rw[h2,Bool.true_or]
  ·have h2':(k != 2)=false:=by simpa using h2
   clear h2;go_wp2_with (go_at_call 187;refine (c0s _ _).mono ?_;rintro e w' ⟨rfl,rfl⟩);go_ret;refine ⟨a1r (congrArg Value.bool ?_),HEO.out⟩;unfold a5m;rw[h2',Bool.false_or];(have e:(L.extract f a).data.toList=List.take (a-f) (List.drop f L.data.toList):=by simp[ByteArray.data_extract,Array.toList_extract,List.extract_eq_take_drop]);rw[e]
def b4p (o:Option (List Pn.Pc)) (w:World) (e:Ending) (w':World):Prop:=
 match o with
 | none=>e=.returned (.tuple #[.slice none 0 0,.bool false])
 | some A=>∃v,e=.returned (.tuple #[v,.bool true])/\w'.ownsRow w.heap.size 131 2 v A.length (A.flatMap a1D)
def c5X (L:ByteArray) (w:World) (wr:World):Prop:=
 ∃(j f:Nat) (k:Int) (A:List Pn.Pc) (ao:Option Addr) (ln cp:Nat),j<=L.size/\f<=j/\A.length<=j/\wr.heap[w.heap.size+1]?=some (.stringIter L j)/\CellsAt w.heap.size [.string L,.slice ao ln cp,.int .i64 k,.int .i64 f] wr/\
  wr.ownsRow w.heap.size 131 2 (.slice ao ln cp) A.length (A.flatMap a1D)/\(Value.slice ao ln cp).ownBlock≠some w.heap.size/\(Value.slice ao ln cp).ownBlock≠some (w.heap.size+1)/\
  Hid (a1d L.data.toList 0 []=(a1d (L.data.toList.drop j) k (L.extract f j).data.toList).map (A++·))/\Below w.heap.size w wr
theorem c3Z (L:ByteArray) (j:Nat) (h:j<L.size):∃(R:Int) (d:Nat),((Utf8.decode L j).1:Int)=R/\(Utf8.decode L j).2=d/\1<=d/\(∀k,Pn.goes k R=Pn.goes k (L[j]'h).toNat)/\Pn.beg R=Pn.beg (L[j]'h).toNat/\
    (((∃k,Pn.goes k (L[j]'h).toNat=true)\/(Pn.beg (L[j]'h).toNat).isSome=true)->d=1):=by
 by_cases ha:(L[j]'h).toNat<128
 ·rw[decode_ascii L j h ha]
  exact ⟨_,_,rfl,rfl,Nat.le_refl _,fun _=>rfl,rfl,fun _=>rfl⟩
 ·obtain ⟨h1,h2⟩:=decode_high L j h (by omega)
  refine ⟨_,_,rfl,rfl,h2,fun k=>?_,?_,?_⟩
  ·rw[a8N (by omega),a8N (by omega)]
  ·rw[b0q (by omega),b0q (by omega)]
  ·rintro (⟨k,hk⟩|hk)
   ·rw[a8N (by omega)]at hk;cases hk
   ·rw[b0q (by omega)]at hk;cases hk
theorem c0k {w:World} {base:Nat} {e:TypeId} {size:Nat} {v:Value} {n:Nat} {xs:List Value} (h:w.ownsRow base e size v n xs) (k:Nat) (hk:v.ownBlock≠some k) (s:ByteArray) (p:Nat):(w.iterAt k s p).ownsRow base e size v n xs:=
 a0u h (fun g hg=>Lib.iterAt_other w k g s p (fun e=>hk (by rw[hg,e])))
theorem a5t {s w:List UInt8} {W:World} {e:Ending} {w':World} {W0:World} (h:a1d s 0 []=none) (hw:w=s) (he:e=.returned (.tuple #[.slice none 0 0,.bool false])) (_:W0.heap.size=W.heap.size):b4p (a1d w 0 []) W e w':=by
 rw[hw,h];exact he
def b5W (L:ByteArray) (W0:World) (A:List Pn.Pc) (k:Int) (f p:Nat) (w:World):Prop:=
 ∃ao ln cp,CellsAt W0.heap.size [.string L,.slice ao ln cp,.int .i64 k,.int .i64 f] w/\w.ownsRow W0.heap.size 131 2 (.slice ao ln cp) A.length (A.flatMap a1D)/\
  (Value.slice ao ln cp).ownBlock≠some W0.heap.size/\(Value.slice ao ln cp).ownBlock≠some (W0.heap.size+1)/\w.heap[W0.heap.size+1]?=some (.stringIter L p)/\Below W0.heap.size W0 w
theorem a1R {w:World} {base:Nat} {e:TypeId} {size:Nat} {v:Value} {n:Nat} {xs:List Value} (h:w.ownsRow base e size v n xs):∃ao ln cp,v=.slice ao ln cp/\∀g,v.ownBlock=some g->base<=g:=by
 obtain ⟨_,⟨rfl,_⟩|⟨g,cap,cur,rfl,hg,_⟩⟩:=h
 ·exact ⟨_,_,_,rfl,fun g hg=>by simp[Value.ownBlock]at hg⟩
 ·exact ⟨_,_,_,rfl,fun g' hg'=>by simp[Value.ownBlock]at hg';omega⟩
theorem b9r {L:ByteArray} {W0:World} {A:List Pn.Pc} {k:Int} {f p a:Nat} {w:World} (h:b5W L W0 A k f p w) (hf:f<=a) (ha:a<=L.size) (hL:L.size<=2000) (hA:A.length<=2000):
    Calls prog 133 #[.pointer (some ⟨W0.heap.size,0,none⟩),.int .i64 a] w fun e w'=>e=.returned (.bool (a36 k (L.extract f a).data.toList).isSome)/\Below W0.heap.size W0 w'/\
     ∀ps,a36 k (L.extract f a).data.toList=some ps->b5W L W0 (A++ps) k f p w':=by
 obtain ⟨ao,ln,cp,hC,hown,h1,h2,hit,hB⟩:=h;by_cases hk:(k==0)=true
 ·have hk0:k=0:=by simpa using hk
  subst hk0;refine (c1V _ _ _ _ _ _ hC).mono ?_;rintro e w' ⟨rfl,rfl⟩;refine ⟨rfl,hB,fun ps hps=>?_⟩
  rw[a5R]at hps;cases hps
  rw[List.append_nil];exact ⟨ao,ln,cp,hC,hown,h1,h2,hit,hB⟩
 ·have hk':(k==0)=false:=by simpa using hk
  refine (c1Z _ f a A.length W0.heap.size k L _ _ w hk' hC hown h1 hB.size hf ha hL hA).mono ?_;rintro e w' ⟨rfl,v',hC',hown',hnb,hke⟩;obtain ⟨ao',ln',cp',rfl,hgb'⟩:=a1R hown';obtain ⟨_,_,_,_,hgb⟩:=a1R hown;have hitl:W0.heap.size+1<w.heap.size:=(Array.getElem?_eq_some_iff.1 hit).1;have hB':Below W0.heap.size W0 w':=hke.below hB (Nat.le_refl _) hgb (Nat.le_refl _);refine ⟨?_,hB',fun ps hps=>?_⟩
  ·cases he:a5m k (L.extract f a).data.toList with
   | true=>rw[a4l hk' he];rfl
   | false=>rw[b3J hk' he];rfl
  ·cases he:a5m k (L.extract f a).data.toList with
   | false=>rw[b3J hk' he]at hps;cases hps
   | true=>
    rw[a4l hk' he]at hps;(cases hps);(refine ⟨ao',ln',cp',hC',?_,hnb _ hC.1 h1,hnb _ hitl h2,(hke.block _ hitl (by omega) h2).trans hit,hB'⟩);have e1:(A++[(k,(L.extract f a).data.toList)]).length=A.length+1:=by simp
    have e2:(A++[(k,(L.extract f a).data.toList)]).flatMap a1D=A.flatMap a1D++[.int .i64 k,.string (L.extract f a)]:=by
     rw[List.flatMap_append];rfl
    rw[e1,e2];exact hown'
theorem b9p {L:ByteArray} {W0:World} {A:List Pn.Pc} {k:Int} {f p a:Nat} {r:Int} {w:World} (h:b5W L W0 A k f p w):
    Calls prog 134 #[.pointer (some ⟨W0.heap.size,0,none⟩),.int .i64 a,.int .i32 r] w fun e w'=>e=.returned (.bool (Pn.beg r).isSome)/\Below W0.heap.size W0 w'/\
     ∀k',Pn.beg r=some k'->b5W L W0 A k' a p w':=by
 obtain ⟨ao,ln,cp,hC,hown,h1,h2,hit,hB⟩:=h;refine (c1y _ _ _ _ _ _ _ _ _ _ hC).mono ?_;rintro e w' ⟨rfl,hw,hn⟩;obtain ⟨_,_,_,_,hgb⟩:=a1R hown;have hitl:W0.heap.size+1<w.heap.size:=(Array.getElem?_eq_some_iff.1 hit).1
 cases hb:Pn.beg r with
 | none=>
  rw[hn hb];exact ⟨rfl,(a3c.setCell W0.heap.size none w 3 _).below hB (Nat.le_refl _) (fun _ h=>by cases h) (Nat.le_refl _),fun _ h=>by cases h⟩
 | some k'=>
  rw[hw k' hb];have hk:a3c W0.heap.size none w ((w.setCell ⟨W0.heap.size,3,none⟩ (.int .i64 a)).setCell ⟨W0.heap.size,2,none⟩ (.int .i64 k')):=(a3c.setCell W0.heap.size none w 3 _).trans (a3c.setCell W0.heap.size none _ 2 _);have hB':=hk.below hB (Nat.le_refl _) (fun _ h=>by cases h) (Nat.le_refl _)
  refine ⟨rfl,hB',fun k'' h=>?_⟩
  cases h
  refine ⟨ao,ln,cp,(hC.set 3 _ (by simp)).set 2 _ (by simp),a0u hown (fun g hg=>?_),h1,h2,(hk.block _ hitl (by omega) (by simp)).trans hit,hB'⟩
  have hgl:=(hown.lt g hg).2;exact hk.block g hgl (fun e=>h1 (by rw[hg,e])) (by simp)
theorem a50 (s:ByteArray) (w:World) (hs:s.size<=2000) (hE:Env w):
    Calls prog 73 #[.string s] w fun e w'=>b4p (a1d (Lib.cut s.data.toList [35]).1 0 []) w e w'/\Below w.heap.size w w':=by
 obtain ⟨m,hm⟩:=hE.2.2.1;go_enter func73,ntmps73;go_wp2_with fail;refine (Tryz.strings_Cut s ⟨#[35]⟩ m w (by omega) hm).mono ?_
 rintro e w1 ⟨rfl,nd,rfl⟩
 have hLL:(Lib.cut s.data.toList [35]).1.length<=2000:=by
  have:(Lib.cut s.data.toList [35]).1.length<=s.data.toList.length:=by
   unfold Lib.cut;split
   ·simp;omega
   ·simp
  have e:s.data.toList.length=s.size:=by simp
  omega
 have hLs:(ByteArray.mk (Lib.cut s.data.toList [35]).1.toArray).size<=2000:=by simpa[ByteArray.size] using hLL
 have HLD:Hid ((ByteArray.mk (Lib.cut s.data.toList [35]).1.toArray).data.toList=(Lib.cut s.data.toList [35]).1):=by show _=_;simp
 clear hLL;have hB0:=a3b w nd;have hsz:(w.drewN nd).heap.size=w.heap.size:=rfl;generalize w.drewN nd=W0 at *;generalize ByteArray.mk (Lib.cut s.data.toList [35]).1.toArray=L at *;have HSZ:=a0a hsz;have HB0:=a0a hB0;clear hsz hB0 hm hE;go_wp2_with fail;go_loopw [] (fun wr=>c5X L W0 wr) (fun wr=>L.size-wr.iterPos (W0.heap.size+1))
 case atStart=>
  refine ⟨0,0,0,[],none,0,0,by omega,by omega,by simp,?_,?_,?_,by simp[Value.ownBlock],by simp[Value.ownBlock],?_,?_⟩
  ·have:=World.iter_heap (W0.alloc (.cells #[.string L,.slice none 0 0,.int .i64 0,.int .i64 0] 188)) L 0
   rw[World.size_alloc]at this;exact this
  ·exact CellsAt.alloc (CellsAt.new W0 _ _) _
  ·exact ⟨rfl,.inl ⟨rfl,rfl⟩⟩
  ·show _=_
   simp
  ·exact ((Below.refl _ _).alloc (Nat.le_refl _) _).alloc (by simp) _
 case round=>
  obtain ⟨j,f,k,A,ao,ln,cp,hj,hf,hA,hit,hC,hown,hn1,hn2,HM,hB⟩:=hrel;by_cases hlt:j<L.size
  ·obtain ⟨R,d,hR,hd,hd1,hgo,hbe,hdd⟩:=c3Z L j hlt
   have hnx:∀ty,(Instr.next (.pointer (some ⟨W0.heap.size+1,0,none⟩)) true ty).run prog wr=.ok (.tuple #[.bool true,.int .i64 j,.int .i32 R]) (wr.iterAt (W0.heap.size+1) L (j+d)):=fun ty=>by
    rw[Lib.run_next_any_at wr (W0.heap.size+1) L j ty hit hlt,hR,hd]
   have HDR:Hid (L.data.toList.drop j=(L[j]'hlt)::L.data.toList.drop (j+1)):=by
    show _=_;rw[List.drop_eq_getElem_cons (by simpa using hlt)];rfl
   have hBi:=a6A wr (W0.heap.size+1) L (j+d);(have hCi:=hC.step hBi (by omega));have HIT:Hid ((wr.iterAt (W0.heap.size+1) L (j+d)).heap[W0.heap.size+1]?=some (.stringIter L (j+d))):=Lib.iterAt_heap wr _ L j (j+d) hit;have HOW:=a0a (c0k hown _ hn2 L (j+d));(have HB2:Hid (Below W0.heap.size W0 (wr.iterAt (W0.heap.size+1) L (j+d))):=hB.trans (hBi.mono (by omega)));have hszi:W0.heap.size+1<(wr.iterAt (W0.heap.size+1) L (j+d)).heap.size:=(Array.getElem?_eq_some_iff.1 HIT.out).1;have HIT0:=a0a hit;have HCi:=a0a hCi;have HGO:=a0a hgo;have HBE:=a0a hbe;have HDD:=a0a hdd;clear hC hown hit hB hBi hR hd hgo hbe hdd hCi;generalize wr.iterAt (W0.heap.size+1) L (j+d)=W at *;by_cases hg:Pn.goes k (L[j]'hlt).toNat=true
   ·have hd:d=1:=HDD.out (.inl ⟨k,hg⟩)
    subst hd;have hgR:Pn.goes k R=true:=(HGO.out k).trans hg;go_wp2_with (go_at_call 132;refine (b1l _ _ _ _ _ _ _ HCi.out).mono ?_;rintro e w' ⟨rfl,rfl⟩);go_roundw
    case rel=>
     (refine ⟨j+1,f,k,A,ao,ln,cp,by omega,by omega,by omega,HIT.out,HCi.out,HOW.out,hn1,hn2,?_,HB2.out⟩);show _=_;rw[HM.out,HDR.out,a4E hg,b4W L f j hf hlt]
    case measure=>
     simp[World.iterPos,HIT.out,HIT0.out];omega
   ·have hg':Pn.goes k (L[j]'hlt).toNat=false:=by simpa using hg
    have hgR:Pn.goes k R=false:=(HGO.out k).trans hg';clear hg;have HST:Hid (b5W L W0 A k f (j+d) W):=⟨ao,ln,cp,HCi.out,HOW.out,hn1,hn2,HIT.out,HB2.out⟩;go_wp2_with (go_at_call 132;refine (b1l _ _ _ _ _ _ _ HCi.out).mono ?_;rintro e w' ⟨rfl,rfl⟩);(refine (b9r HST.out hf (by omega) hLs (by omega)).mono ?_);rintro e w3 ⟨rfl,hB3,hS3⟩;have HB3:=a0a hB3;have HS3:=a0a hS3;clear hB3 hS3
    cases hep:a36 k (L.extract f j).data.toList with
    | none=>
     (have HN:Hid (a1d L.data.toList 0 []=none):=by show _=_;rw[HM.out,HDR.out,a7o hg' hep];rfl);simp only[Option.isSome];go_wp2_with fail;go_ret2;exact ⟨a5t HN.out HLD.out.symm rfl HSZ.out,HB0.out.trans (HB3.out.mono (by rw[HSZ.out];exact Nat.le_refl _))⟩
    | some ps=>
     have HS4:=a0a (HS3.out ps hep);have HEP:=a0a hep;clear HS3 hep;simp only[Option.isSome];go_wp2_with fail;refine (b9p HS4.out).mono ?_;rintro e w4 ⟨rfl,hB4,hS4⟩;have HB4:=a0a hB4;have HS5:=a0a hS4;clear hB4 hS4
     cases hbp:Pn.beg R with
     | none=>
      (have HN:Hid (a1d L.data.toList 0 []=none):=by show _=_;rw[HM.out,HDR.out,a7I hg' (HBE.out.symm.trans hbp)];rfl);simp only[Option.isSome];go_wp2_with fail;go_ret2;exact ⟨a5t HN.out HLD.out.symm rfl HSZ.out,HB0.out.trans (HB4.out.mono (by rw[HSZ.out];exact Nat.le_refl _))⟩
     | some k'=>
      have HS6:=a0a (HS5.out k' hbp);have hbc:Pn.beg (L[j]'hlt).toNat=some k':=HBE.out.symm.trans hbp;(have hd:d=1:=HDD.out (.inr (by rw[hbc];rfl)));subst hd;simp only[Option.isSome];go_wp2_with fail;go_roundw
      case rel=>
       obtain ⟨ao6,ln6,cp6,g1,g2,g3,g4,g5,g6⟩:=HS6.out
       have hps:ps.length<=1:=by
        have:=HEP.out;unfold a36 at this
        split at this
        ·cases this;simp
        ·split at this
         ·cases this;simp
         ·cases this
       (refine ⟨j+1,j,k',A++ps,ao6,ln6,cp6,by omega,by omega,by simp;omega,g5,g1,g2,g3,g4,?_,g6⟩);show _=_;rw[HM.out,HDR.out,a5J hg' HEP.out hbc,c4K L j hlt,Option.map_map];congr 1;funext x;simp
      case measure=>
       obtain ⟨_,_,_,_,_,_,_,g5,_⟩:=HS6.out;simp[World.iterPos,g5,HIT0.out];omega
  ·have hje:j=L.size:=by omega
   subst hje
   have hnx:∀ty,(Instr.next (.pointer (some ⟨W0.heap.size+1,0,none⟩)) true ty).run prog wr=.ok (.tuple #[.bool false]) wr:=fun ty=>
    Lib.run_next_end_at wr (W0.heap.size+1) L _ ty hit hlt
   have HST:Hid (b5W L W0 A k f L.size wr):=⟨ao,ln,cp,hC,hown,hn1,hn2,hit,hB⟩;(have HDR:Hid (L.data.toList.drop L.size=[]):=by show _=_;apply List.drop_eq_nil_of_le;simp);clear hC hown hit hB;go_wp2_with fail;(refine (b9r HST.out hf (Nat.le_refl _) hLs (by omega)).mono ?_);rintro e w3 ⟨rfl,hB3,hS3⟩;have HB3:=a0a hB3;have HS3:=a0a hS3;clear hB3 hS3
   cases hep:a36 k (L.extract f L.size).data.toList with
   | none=>
    have HN:Hid (a1d L.data.toList 0 []=none):=by
     show _=_;rw[HM.out,HDR.out];simp only[a1d];rw[hep];rfl
    simp only[Option.isSome];go_wp2_with fail;go_ret2;exact ⟨a5t HN.out HLD.out.symm rfl HSZ.out,HB0.out.trans (HB3.out.mono (by rw[HSZ.out];exact Nat.le_refl _))⟩
   | some ps=>
    have HN:Hid (a1d L.data.toList 0 []=some (A++ps)):=by
     show _=_;rw[HM.out,HDR.out];simp only[a1d];rw[hep];rfl
    obtain ⟨ao6,ln6,cp6,g1,g2,g3,g4,g5,g6⟩:=HS3.out ps hep;have g11:=g1.2.2 1 _ rfl;have G2:=a0a g2;clear hep g1 g2 g5 g6;simp only[Option.isSome];go_wp2_with fail;go_ret2;(refine ⟨?_,HB0.out.trans (HB3.out.mono (by rw[HSZ.out];exact Nat.le_refl _))⟩);rw[<-HLD.out,HN.out];exact ⟨_,rfl,by rw[<-HSZ.out];exact G2.out⟩
theorem a3K (k:Int) (t:ByteArray) (w:World) (ht:t.size<=2000):
    Calls prog 226 #[.agg #[.int .i64 k,.string t]] w fun e w'=>e=.returned (.bool (a4x k t.data.toList))/\Below w.heap.size w w':=by
 have hlen:t.data.toList.length=t.size:=by simp
 go_enter func226,ntmps226;go_wp2_with (go_at_call 72;refine (Tryz.strings_Contains_one t 46 _).mono ?_;rintro e w' ⟨rfl,rfl⟩)
 all_goals
  go_ret;refine ⟨a1r (congrArg Value.bool ?_),(Below.refl _ _).alloc (Nat.le_refl _) _⟩;unfold a4x;rw[hlen]
  first
  | (rw[beq_false_of_ne ‹¬k=1›];rfl)
  | (rw[decide_eq_false (p:=t.size<=8) (by omega)];simp)
  | (rw[show (k==1)=true from beq_iff_eq.2 ‹k=1›,decide_eq_true (p:=t.size<=8) (by omega)];rfl)
theorem c1R {w w':World} (h:w'=w\/∃t,w'=Lib.bytesWorld w 5 t):Below w.heap.size w w':=by
 rcases h with rfl|⟨t,rfl⟩
 ·exact Below.refl _ _
 ·exact Joins.below_bytesWorld _ _ _ _ (Nat.le_refl _)
theorem b4F (t:ByteArray) (w:World) (ht:t.size<=2000) (hE:Env w):
    Calls prog 272 #[.string t] w fun e w'=>∃n v,e=.returned (.tuple #[.int .i64 n,v])/\(-9223372036854775808<=n/\n<=9223372036854775807)/\Below w.heap.size w w'/\
     ((∃u,Lib.atoiAll t.data.toList=.ok u/\n=u/\v=.nilIface)\/((∀u,Lib.atoiAll t.data.toList≠.ok u)/\∃te pe,v=.iface te pe)):=by
 obtain ⟨te,pe,h4⟩:=hE.2.2.2.1;obtain ⟨tf,pf,h5⟩:=hE.2.2.2.2;rcases ha:Lib.atoiAll t.data.toList with u|_|_
 ·refine (Tryz.strconv_Atoi_ok t (by omega) u ha w).mono ?_
  rintro e w' ⟨rfl,hw⟩;exact ⟨u,_,rfl,b5Q ha,c1R hw,.inl ⟨u,rfl,rfl,rfl⟩⟩
 ·refine (Tryz.strconv_Atoi_syntax t (by omega) ha _ w h4 (.inr ⟨_,_,rfl⟩)).mono ?_
  rintro e w' ⟨N,rfl,_,_,hB⟩;exact ⟨0,_,rfl,by omega,hB,.inr ⟨fun u h=>(by cases h),_,_,rfl⟩⟩
 ·refine (Tryz.strconv_Atoi_range t (by omega) ha _ w h5 (.inr ⟨_,_,rfl⟩)).mono ?_
  rintro e w' ⟨N,rfl,_,_,hB⟩;refine ⟨_,_,rfl,?_,hB,.inr ⟨fun u h=>(by cases h),_,_,rfl⟩⟩
  unfold Lib.atoiSat
  split<;>omega
theorem a6l (k:Int) (t:ByteArray) (w:World) (ht:t.size<=2000) (hE:Env w):
    Calls prog 253 #[.agg #[.int .i64 k,.string t]] w fun e w'=>∃n:Int,e=.returned (.tuple #[.int .i64 n,.bool (a4U k t.data.toList).isSome])/\(∀v,a4U k t.data.toList=some v->n=v)/\Below w.heap.size w w':=by
 have HE:=a0a (fun o=>hE.alloc o)
 by_cases hk:(k != 2)=true
 ·have hp:a4U k t.data.toList=none:=by
   (have:¬k=2:=by simpa using hk);simp[a4U,this]
  have HPN:=a0a hp;clear hp;go_enter func253,ntmps253;go_wp2_with fail;go_ret2;exact ⟨0,by rw[HPN.out];rfl,fun v h=>(by rw[HPN.out]at h;cases h),(Below.refl _ _).alloc (Nat.le_refl _) _⟩
 ·have hk':(k != 2)=false:=by simpa using hk
  have hk2:k=2:=by simpa using hk
  clear hk;go_enter func253,ntmps253;go_wp2_with fail;refine (b4F t _ ht (HE.out _)).mono ?_;rintro e w1 ⟨n,v,rfl,hn,hB,hv⟩;have HB:=a0a (((Below.refl w.heap.size w).alloc (Nat.le_refl _) _).trans (hB.mono (by simp)))
  clear hB;rcases hv with ⟨u,hu,hnu,rfl⟩|⟨hu,te,pe,rfl⟩
  ·have HPN:Hid (a4U k t.data.toList=some n):=by show _=_;simp[a4U,hk2,hu,hnu]
   clear hu hnu;go_wp2_with fail;go_quiet (fail);go_wp2_with fail;go_ret2;exact ⟨n,by rw[HPN.out];rfl,fun v h=>(by rw[HPN.out]at h;cases h;rfl),below_drewN HB.out _⟩
  ·have HPN:Hid (a4U k t.data.toList=none):=by
    show _=_
    cases h:Lib.atoiAll t.data.toList with
    | ok u=>exact absurd h (hu u)
    | _=>simp[a4U,hk2,h]
   clear hu;go_wp2_with fail;go_quiet (fail);go_wp2_with fail;go_ret2;exact ⟨n,by rw[HPN.out];rfl,fun v h=>(by rw[HPN.out]at h;cases h),below_drewN HB.out _⟩
theorem a5q (n:Int) (w:World) (h0:-9223372036854775808<=n) (h1:n<=9223372036854775807) (hE:Env w):
    Calls prog 113 #[.int .i64 n] w fun e w'=>e=.returned (.string ⟨(a67 n).toArray⟩)/\Below w.heap.size w w':=
 (a2h n w h0 h1 hE).mono fun _ _ ⟨s,he,_,hs,hB⟩=>⟨by rw[he,a6O hs.out],hB⟩
theorem a3f (k:Int) (t:ByteArray) (w:World) (ht:t.size<=2000) (hE:Env w):
    Calls prog 252 #[.agg #[.int .i64 k,.string t]] w fun e w'=>e=.returned (.tuple #[.int .i64 ((a2l t.data.toList).getD 0),.bool (a2l t.data.toList).isSome])/\Below w.heap.size w w':=by
 have HE:=a0a (fun o=>hE.alloc o)
 by_cases hp:Lib.hasPrefix t.data.toList [120]=true
 ·have htl:(Lib.trimPrefix t.data.toList [120]).length<=2000:=by
   (have e:t.data.toList.length=t.size:=by simp);(have h2:(List.drop [(120:UInt8)].length t.data.toList).length<=t.data.toList.length:=by rw[List.length_drop];exact Nat.sub_le _ _);unfold Lib.trimPrefix
   split
   ·exact Nat.le_trans h2 (by omega)
   ·omega
  go_enter func252,ntmps252;go_wp2_with fail;refine (Tryz.strings_CutPrefix t ⟨#[120]⟩ _).mono ?_;rintro e w1 ⟨rfl,rfl⟩;have hp':Lib.hasPrefix t.data.toList (ByteArray.mk #[120]).data.toList=true:=hp;rw[hp'];go_wp2_with fail;refine (b4F _ _ (by simpa[ByteArray.size] using htl) (HE.out _)).mono ?_
  rintro e w1 ⟨n,v,rfl,hn,hB,hv⟩;have HC:=a0a ((CellsAt.new w [.int .i64 k,.string t] 131).next hB);have HE1:Hid (Env w1):=Env.below (HE.out _) hB (HE.out _).1;have HB:=a0a (((Below.refl w.heap.size w).alloc (Nat.le_refl _) _).trans (hB.mono (by simp)))
  clear hB;rcases hv with ⟨u,hu,hnu,rfl⟩|⟨hu,te,pe,rfl⟩
  ·subst hnu
   by_cases h31:31<n
   ·have HPN:Hid (a2l t.data.toList=none):=by
     show _=_;(have hu':Lib.atoiAll (Lib.trimPrefix t.data.toList [120])=.ok n:=by simpa using hu);(have:¬(n<=31/\a67 n=t.data.toList):=by omega);simp only[a2l,hp,if_true,hu',if_neg this]
    clear hu;go_wp2_with fail;go_quiet (fail);go_wp2_with fail;go_ret2;exact ⟨by rw[HPN.out];rfl,below_drewN HB.out _⟩
   ·have h31':n<=31:=by omega
    have x1:=cell_regrown (HC.out.2.2 1 _ rfl);(have hu':Lib.atoiAll (Lib.trimPrefix t.data.toList [120])=.ok n:=by simpa using hu);by_cases hq:a67 n=t.data.toList
    ·have HPN:Hid (a2l t.data.toList=some n):=by
      show _=_;simp only[a2l,hp,if_true,hu',if_pos (And.intro h31' hq)]
     (have hqq:(a67 n==t.toList)=true:=by rw[ByteArray.toList_eq];simpa using hq);clear hu hu';go_wp2_with fail;refine wp_region_quiet_below (by kernel_rfl) (by kernel_rfl) ?_
     repeat (quiet_step (first
      | (go_at_call 113;exact Calls.regrown_of (a5q n _ hn.1 hn.2 (Env.below HE1.out (below_regrown _ _ _) HE1.out.1)))))
     refine wpQuiet_nil ?_;intro _ hw';obtain ⟨⟨dq,osq⟩,hw''⟩:=hw';subst hw'';go_wp2_with fail;go_ret2;exact ⟨by rw[HPN.out];rfl,Below.trans HB.out ((below_regrown w1 dq osq).mono HB.out.size)⟩
    ·have HPN:Hid (a2l t.data.toList=none):=by
      show _=_;(have:¬(n<=31/\a67 n=t.data.toList):=fun h=>hq h.2);simp only[a2l,hp,if_true,hu',if_neg this]
     (have hqq:(a67 n==t.toList)=false:=by rw[ByteArray.toList_eq];simpa using hq);clear hu hu';go_wp2_with fail;refine wp_region_quiet_below (by kernel_rfl) (by kernel_rfl) ?_
     repeat (quiet_step (first
      | (go_at_call 113;exact Calls.regrown_of (a5q n _ hn.1 hn.2 (Env.below HE1.out (below_regrown _ _ _) HE1.out.1)))))
     refine wpQuiet_nil ?_;intro _ hw';obtain ⟨⟨dq,osq⟩,hw''⟩:=hw';subst hw'';go_wp2_with fail;go_ret2;exact ⟨by rw[HPN.out];rfl,Below.trans HB.out ((below_regrown w1 dq osq).mono HB.out.size)⟩
  ·have HPN:Hid (a2l t.data.toList=none):=by
    show _=_;have hu':∀u,Lib.atoiAll (Lib.trimPrefix t.data.toList [120])≠.ok u:=by simpa using hu
    cases h:Lib.atoiAll (Lib.trimPrefix t.data.toList [120]) with
    | ok u=>exact absurd h (hu' u)
    | _=>simp[a2l,hp,h]
   clear hu;go_wp2_with fail;go_quiet (fail);go_wp2_with fail;go_ret2;exact ⟨by rw[HPN.out];rfl,below_drewN HB.out _⟩
 ·have hp':Lib.hasPrefix t.data.toList (ByteArray.mk #[120]).data.toList=false:=by simpa using hp
  have HPN:Hid (a2l t.data.toList=none):=by
   show _=_;simp[a2l,hp]
  go_enter func252,ntmps252;go_wp2_with fail;refine (Tryz.strings_CutPrefix t ⟨#[120]⟩ _).mono ?_;rintro e w1 ⟨rfl,rfl⟩;rw[hp'];go_wp2_with fail;go_ret2;exact ⟨by rw[HPN.out];rfl,(Below.refl _ _).alloc (Nat.le_refl _) _⟩
