import Derived.WalkSmall
import Derived.Lib.ItoaLen
import Derived.Deep.CutBlock
import Derived.OneCell
import Derived.Test.YtbmcofdodfcnnaaGreatDoorGW
import Derived.Test.YtbmcofdodfcnnaaGreatDoorShelf
import Derived.Test.YtbmcofdodfcnnaaGreatDoorGQ
set_option linter.all false
set_option maxHeartbeats 0
set_option maxRecDepth 100000
namespace Go
open Proofs.Tryz RowKit
variable {w wr w3 w' w0 : World} {C : Array Value}
def lg:Obj:=.cells #[.int .i64 0,.int .i64 0,.int .i64 0,.int .i64 0,.int .i64 0] 26
def U6 (n:Int) (w:World) (C:Array Value) (i:Value) (wr:World):Prop:=
 ∃j:Nat,j<=64/\i=.int .i64 j/\Hid (∀j',j'<j->gL n j'=false)/\Below (w.heap.size+2) ((w.alloc lg).alloc (.cells C 214)) wr
def BM (h:Below (w.heap.size+2) ((w.alloc lg).alloc (.cells C 214)) wr):
    (∀o,o<5->wr.cell? ⟨w.heap.size,o,none⟩=some (.int .i64 0))/\(∀o,wr.frozen? ⟨w.heap.size,o,none⟩=false)/\(∀o,wr.cell? ⟨w.heap.size+1,o,none⟩=C[o]?)/\w.heap.size+2<=wr.heap.size:=by
 refine ⟨λ o j=>(h.cell (p:=⟨w.heap.size,o,none⟩) (by simp)).trans ?_,λ o=>(h.frozen (p:=⟨w.heap.size,o,none⟩) (by simp)).trans ?_,λ o=>(h.cell (p:=⟨w.heap.size+1,o,none⟩) (by simp)).trans ?_,by have:=h.size;simp at this;omega⟩
 .unfold lg
  rcases o with _|_|_|_|_|o
  all_goals first|omega|go_simp
 .unfold lg;go_simp
 go_simp
def Iq (w:World) (C:Array Value) (b kd:Nat) (w2:World):Prop:=
 w2.cell? ⟨b,1,none⟩=some (.int .u8 kd)/\w.heap.size+2<=b/\b<w2.heap.size/\Below (w.heap.size+2) ((w.alloc lg).alloc (.cells C 214)) w2
def OZ (j:Below (w.heap.size+2) ((w.alloc lg).alloc (.cells C 214)) wr) (h:w.heap.size+2<=wr.heap.size) (s) (kd) (a b c) (t nq):Iq w C wr.heap.size kd ((wr.alloc (.cells #[.string s,.int .u8 kd,a,b,c] t)).drewN nq):=
 ⟨by go_simp,h,by show wr.heap.size<(wr.alloc _).heap.size;simp,below_drewN (j.alloc h _) _⟩
def Q2 {h:World} (q:Below (w.heap.size+2) ((w.alloc lg).alloc (.cells C 214)) h) (u:w.heap.size+2<=h.heap.size) {a b c d e:Value} {t:Nat} (j:Below (h.alloc (.cells #[a,b,c,d,e] t)).heap.size (h.alloc (.cells #[a,b,c,d,e] t)) w3):
    (w3.cell? ⟨h.heap.size,0,none⟩=some a/\w3.cell? ⟨h.heap.size,1,none⟩=some b/\w3.cell? ⟨h.heap.size,2,none⟩=some c/\w3.cell? ⟨h.heap.size,3,none⟩=some d/\w3.cell? ⟨h.heap.size,4,none⟩=some e)/\
    Below (w.heap.size+2) ((w.alloc lg).alloc (.cells C 214)) w3:=by
 refine ⟨⟨(j.cell (p:=⟨h.heap.size,0,none⟩) (by simp)).trans (by go_simp),(j.cell (p:=⟨h.heap.size,1,none⟩) (by simp)).trans (by go_simp),(j.cell (p:=⟨h.heap.size,2,none⟩) (by simp)).trans (by go_simp),(j.cell (p:=⟨h.heap.size,3,none⟩) (by simp)).trans (by go_simp),(j.cell (p:=⟨h.heap.size,4,none⟩) (by simp)).trans (by go_simp)⟩,?_⟩
 exact (q.alloc u _).trans (j.mono (by simp;omega))
def kA (h:Below w.heap.size w w3) (a b c d e):
    Below w.heap.size w (((((w3.setCell ⟨w.heap.size,0,none⟩ a).setCell ⟨w.heap.size,1,none⟩ b).setCell ⟨w.heap.size,2,none⟩ c).setCell ⟨w.heap.size,3,none⟩ d).setCell ⟨w.heap.size,4,none⟩ e):=
 ((((h.setCell zn _).setCell zn _).setCell zn _).setCell zn _).setCell zn _
def BQ (n) (w) (n0:0<=n) (n1:n<4294967296):
    aG prog 93 #[.int .i64 n] w (.tuple #[(bW n).1.val,.int .i64 (bW n).2]):=by
 unfold aG;have a9:cB 32=4294967296:=rfl;go_in
 go_wp2_with (first
  | (go_at_call 158;refine (ke _ _ (by decide) (by decide)).mono ?_;rintro e w' ⟨rfl,rfl⟩)
  | (go_at_call 157;refine (ox _).mono ?_;rintro e w' ⟨C,hC,rfl,rfl⟩))
 go_loopw [5] (λ i wr=>U6 n w C i wr) (λ i _=>64-(intOf i).toNat)
 case atStart=>exact ⟨0,by omega,rfl,λ _ h=>by omega,aU⟩
 case round=>
  obtain ⟨k,hk,rfl,A,I⟩:=hrel;obtain ⟨u,zf,O,hz⟩:=BM I;by_cases M:k<64
  .obtain ⟨r0,r1,r2,r3,r4⟩:=hC k M
   have t0:=(O (k*5)).trans r0;have t1:=(O (k*5+1)).trans r1;have t2:=(O (k*5+2)).trans r2;have t3:=(O (k*5+3)).trans r3;have t4:=(O (k*5+4)).trans r4;have HC:Hid (AX C):=hC;have H:Hid (Below (w.heap.size+2) ((w.alloc lg).alloc (.cells C 214)) wr):=I;(have U:=u 0 (by omega));(have V:=u 1 (by omega));(have W:=u 2 (by omega));(have X:=u 3 (by omega));(have Y:=u 4 (by omega));(have av:(k:Int)<64:=by omega);clear hC I O u r0 r1 r2 r3 r4;go_wp2_with fail;(go_quiet ((go_at_call 159;exact Calls.quiet_of_same (nC _ _ _ _ (by omega) (by omega) (by decide) (by decide) (by decide)))));by_cases N:(aD n 6 0 != (row k).opc)=true
   .go_wp2
    go_roundw;(case rel=>exact ⟨k+1,by omega,by go_num,zZ A (Nx N),below_drewN (H.out.alloc hz _) _⟩);case measure=>simp[intOf];omega
   (have T:(aD n 6 0 != (row k).opc)=false:=by simpa using N);clear N;have P:Iq w C wr.heap.size (row k).kind ((wr.alloc (Obj.cells #[Value.string { data:=(row k).name.toArray },Value.int IntKind.u8 ↑(row k).kind,Value.int IntKind.i64 (row k).opc,Value.int IntKind.i64 (row k).f,Value.int IntKind.i64 (row k).g] 214)).drewN nq):=OZ H.out hz _ _ _ _ _ _ _;clear t0 t1 t2 t3 t4 U V W X Y zf H;generalize hb:wr.heap.size=b at *;clear hb;generalize (wr.alloc (Obj.cells #[Value.string { data:=(row k).name.toArray },Value.int IntKind.u8 ↑(row k).kind,Value.int IntKind.i64 (row k).opc,Value.int IntKind.i64 (row k).f,Value.int IntKind.i64 (row k).g] 214)).drewN nq=w2 at P ⊢;rcases kinds k M with q|q|q|q|q|q|q|q|q|q
   all_goals
    first
    | ((have y:Hid (cH k n=⟨k+1,(aD n 11 7),(aD n 19 15),(aD n 24 20),0⟩):=zq k n q);(have G:has 82=(true,true,true):=rfl))
    | ((have y:Hid (cH k n=⟨k+1,(aD n 11 7),(aD n 19 15),0,(bG (aD n 31 20) 12)⟩):=yK k n q);(have G:has 73=(true,true,false):=rfl);(have D:=qO n))
    | ((have y:Hid (cH k n=⟨k+1,(aD n 11 7),(aD n 19 15),0,(bG (aD n 31 20) 12)⟩):=yz k n q);(have G:has 76=(true,true,false):=rfl);(have D:=qO n))
    | ((have y:Hid (cH k n=⟨k+1,(aD n 11 7),(aD n 19 15),0,(aD n 25 20)⟩):=zu k n q);(have G:has 72=(true,true,false):=rfl);(have ac:=yQ n))
    | ((have y:Hid (cH k n=⟨k+1,(aD n 11 7),(aD n 19 15),0,(aD n 24 20)⟩):=yW k n q);(have G:has 87=(true,true,false):=rfl);(have ab:=qB n))
    | ((have y:Hid (cH k n=⟨k+1,0,(aD n 19 15),(aD n 24 20),(bG (aD n 31 25*32+aD n 11 7) 12)⟩):=yN k n q);(have G:has 83=(false,true,true):=rfl);(have ah:=uQ n);(have ak:=ma n))
    | ((have y:Hid (cH k n=⟨k+1,0,(aD n 19 15),(aD n 24 20),(bG (aD n 31 31*4096+aD n 7 7*2048+aD n 30 25*32+aD n 11 8*2) 13)⟩):=yY k n q);(have G:has 66=(false,true,true):=rfl);(have F:=om n);(have aq:=wy n);(have af:=uX n);(have al:=vl n))
    | ((have y:Hid (cH k n=⟨k+1,(aD n 11 7),0,0,(bG (aD n 31 12) 20)⟩):=zA k n q);(have G:has 85=(true,false,false):=rfl);(have ag:=yL n))
    | ((have y:Hid (cH k n=⟨k+1,(aD n 11 7),0,0,(bG (aD n 31 31*1048576+aD n 19 12*4096+aD n 20 20*2048+aD n 30 21*2) 21)⟩):=zC k n q);(have G:has 74=(true,false,false):=rfl);(have F:=om n);(have Z:=qE n);(have aa:=qG n);(have ae:=vb n))
    | ((have y:Hid (cH k n=⟨k+1,0,0,0,0⟩):=yX k n q);(have G:has 78=(false,false,false):=rfl))
    rw[q]at P;clear q;obtain ⟨q1,a3,a4,I⟩:=P;have H:Hid (Below (w.heap.size+2) ((w.alloc lg).alloc (.cells C 214)) w2):=I;clear I;have p5:cB 5=32:=rfl;have a6:cB 11=2048:=rfl;have a7:cB 12=4096:=rfl;have a8:cB 20=1048576:=rfl
    go_wp2_with (first
     | (go_at_call 160;refine (Gv _ _).mono ?_;rintro e w' ⟨rfl,rfl⟩)
     | (go_at_call 159;refine (nC _ _ _ _ (by omega) (by omega) (by decide) (by decide) (by decide)).mono ?_;rintro e w' ⟨rfl,rfl⟩)
     | (go_at_call 158;refine (ke _ _ (by decide) (by decide)).mono ?_;rintro e w' ⟨rfl,rfl⟩)
     | (go_at_call 161;refine (si _ _ _ (by omega) (by omega) (by decide) (by decide)).mono ?_;rintro e w' ⟨rfl,rfl⟩))
    (have K:=λ (w':World)=>xK (cH k n) w');rw[y.out]at K;refine (K _).mono ?_;clear K;obtain ⟨E,hE⟩:∃E,bB (cH k n)=E:=⟨_,rfl⟩;rw[y.out]at hE;rintro e w3 ⟨rfl,Q⟩;rw[hE];(have HE:=(show Hid _ from hE));clear hE;(obtain ⟨⟨x0,x1,x2,x3,x4⟩,L⟩:=Q2 H.out (by omega) Q);clear Q H q1;obtain ⟨u,zf,_,a5⟩:=BM L;have J:Hid (Below (w.heap.size+2) ((w.alloc lg).alloc (.cells C 214)) w3):=L;clear L;(have U:=u 0 (by omega));(have V:=u 1 (by omega));(have W:=u 2 (by omega));(have X:=u 3 (by omega));(have Y:=u 4 (by omega));clear u;by_cases e2:(E.2==0)=true
    .by_cases e1:(E.1==n)=true
     .go_wp2
      refine zp (v:=.tuple #[(cH k n).val,.int .i64 0]) (by rw[y.out];simp[results,results93,go_sem,U,V,W,X,Y,aE.val]) rfl ⟨?_,?_⟩
      .rw[FC n0 n1 M A (LV T y.out HE.out e2 e1)]
      exact kA (aJ.alloc (by simp) _ |>.trans (J.out.mono (by omega))) _ _ _ _ _
     (have am:(E.1==n)=false:=by simpa using e1);go_wp2;go_roundw;(case rel=>exact ⟨k+1,by omega,by go_num,zZ A (Dz y.out HE.out (.inr am)),J.out⟩);case measure=>simp[intOf];omega
    (have an:(E.2==0)=false:=by simpa using e2);go_wp2;go_roundw;(case rel=>exact ⟨k+1,by omega,by go_num,zZ A (Dz y.out HE.out (.inl an)),J.out⟩);case measure=>simp[intOf];omega
  have U:=u 0 (by omega)
  have V:=u 1 (by omega)
  have W:=u 2 (by omega)
  have X:=u 3 (by omega)
  have Y:=u 4 (by omega)
  have H:Hid (Below (w.heap.size+2) ((w.alloc lg).alloc (.cells C 214)) wr):=I;have R:k=64:=by omega
  have P:Hid (bW n=(⟨0,0,0,0,0⟩,1)):=Og n0 n1 (λ j hj=>A.out j (by omega))
  clear I O u R;go_wp2;refine zp (v:=.tuple #[(aE.mk 0 0 0 0 0).val,.int .i64 1]) (by simp[results,results93,go_sem,U,V,W,X,Y,aE.val]) rfl ⟨by rw[P.out],?_⟩
  exact kA (aJ.alloc (by simp) _ |>.trans (H.out.mono (by omega))) _ _ _ _ _
def aS (w:World):Prop:=
 8<=w.heap.size/\Lib.TabIs prog w "internal/strconv.uint64pow10" .u64 Lib.pow10Tab/\(∃m,w.cell? ⟨0,0,none⟩=some (.int .i64 m))/\
 (∃te pe,w.cell? ⟨6,0,none⟩=some (.iface te pe))/\(∃te pe,w.cell? ⟨7,0,none⟩=some (.iface te pe))
def aS.below {B:Nat} (h:aS w) (j:Below B w w') (G:8<=B):aS w':=by
 obtain ⟨F,q,⟨m,u⟩,⟨D,A,v⟩,⟨E,C,y⟩⟩:=h
 refine ⟨by have:=j.size;omega,var?_below j (show prog.globalNamed "internal/strconv.uint64pow10"=some 1 by kernel_rfl) (by omega) q,⟨m,(j.cell (p:=⟨0,0,none⟩) (by show 0<B;omega)).trans u⟩,
  ⟨D,A,(j.cell (p:=⟨6,0,none⟩) (by show 6<B;omega)).trans v⟩,⟨E,C,(j.cell (p:=⟨7,0,none⟩) (by show 7<B;omega)).trans y⟩⟩
def aS.alloc (h:aS w) (o):aS (w.alloc o):=h.below ((Below.refl w.heap.size w).alloc zn o) h.1
def LY (w) (k) (os:Array Obj):Below w.heap.size w (Go.Sort.grow (w.drewN k) os):=by
 refine ⟨rfl,rfl,rfl,?_,λ i hi=>?_⟩
 .show w.heap.size<=(w.heap++os).size
  simp
 show (w.heap++os)[i]?=w.heap[i]?;rw[Array.getElem?_append_left hi]
def kL (n) (w) (h:-9223372036854775808<=n) (j:n<=9223372036854775807) (q:aS w):
    Calls prog 43 #[.int .i64 n] w λ e w'=>∃s:ByteArray,e=.returned (.string s)/\s.size<=21/\Hid (s.data.toList=Lib.itoa n)/\Below w.heap.size w w':=by
 refine (strconv_Itoa n h j w q.2.1).mono ?_;rintro e w' ⟨rfl,k,os,rfl⟩;refine ⟨_,rfl,?_,?_,LY _ _ _⟩
 .have:=Lib.itoa_length_le n h j
  simpa[ByteArray.size] using this
 simp[Hid]
def wM (w0:World) (b k kd:Nat) (rd rs1 rs2 imm:Int) (w:World):Prop:=
 pQ w0 b k kd rd rs1 rs2 imm w/\w.cell? ⟨b,0,none⟩=some (.string ⟨(row k).name.toArray⟩)/\w0.heap.size<w.heap.size/\b<w.heap.size/\aS w
def wM.step {b k kd:Nat} {rd rs1 rs2 imm:Int} (h:wM w0 b k kd rd rs1 rs2 imm w) (j:Below w.heap.size w w'):wM w0 b k kd rd rs1 rs2 imm w':=by
 obtain ⟨⟨A,C,D,E,F,G,H,h8,I⟩,y,u,q,v⟩:=h
 exact ⟨⟨(j.cell (p:=⟨w0.heap.size,1,none⟩) u).trans A,(j.cell (p:=⟨w0.heap.size,2,none⟩) u).trans C,(j.cell (p:=⟨w0.heap.size,3,none⟩) u).trans D,(j.cell (p:=⟨w0.heap.size,4,none⟩) u).trans E,
  (j.cell (p:=⟨b,1,none⟩) q).trans F,(j.cell (p:=⟨b,2,none⟩) q).trans G,(j.cell (p:=⟨b,3,none⟩) q).trans H,(j.cell (p:=⟨b,4,none⟩) q).trans h8,I.trans (j.mono (by omega))⟩,
  (j.cell (p:=⟨b,0,none⟩) q).trans y,by have:=j.size;omega,by have:=j.size;omega,v.below j v.1⟩
def qV {a:ByteArray} {l:List UInt8} (h:a.data.toList=l):Value.string a=.string ⟨l.toArray⟩:=by
 subst h;rfl
def wG (a b:ByteArray):(a++b).data.toList=a.data.toList++b.data.toList:=by
 simp[ByteArray.data_append]
def RV (k:Nat) (rd rs1 rs2 imm:Int) (w:World) (Q:k<64) (R:right ⟨k+1,rd,rs1,rs2,imm⟩=true)
    (d0:0<=rd) (d1:rd<=31) (s0:0<=rs1) (s1:rs1<=31) (t0:0<=rs2) (t1:rs2<=31) (m0:-1048576<=imm) (m1:imm<=1048576) (P:aS w):
    Calls prog 94 #[.agg #[.int .i64 (k+1),.int .i64 rd,.int .i64 rs1,.int .i64 rs2,.int .i64 imm]] w λ e w'=>
     e=.returned (.tuple #[.string ⟨(pO k rd rs1 rs2 imm).toArray⟩,.int .i64 0])/\Below w.heap.size w w':=by
 have al:(k:Int)<64:=by omega
 have am:IntKind.i64.wrap (k:Int)=(k:Int):=zw _ (by omega)
 have HR:Hid (right ⟨k+1,rd,rs1,rs2,imm⟩=true):=R;clear R;go_in;go_wp2_with fail;refine zK (lV ⟨k+1,rd,rs1,rs2,imm⟩ _) λ F q=>?_;rw[HR.out];have i0:F.cell? ⟨w.heap.size,0,none⟩=some (.int .i64 (k+1)):=(q.cell (p:=⟨w.heap.size,0,none⟩) (by simp)).trans (by go_simp)
 have U:F.cell? ⟨w.heap.size,1,none⟩=some (.int .i64 rd):=(q.cell (p:=⟨w.heap.size,1,none⟩) (by simp)).trans (by go_simp)
 have V:F.cell? ⟨w.heap.size,2,none⟩=some (.int .i64 rs1):=(q.cell (p:=⟨w.heap.size,2,none⟩) (by simp)).trans (by go_simp)
 have W:F.cell? ⟨w.heap.size,3,none⟩=some (.int .i64 rs2):=(q.cell (p:=⟨w.heap.size,3,none⟩) (by simp)).trans (by go_simp)
 have X:F.cell? ⟨w.heap.size,4,none⟩=some (.int .i64 imm):=(q.cell (p:=⟨w.heap.size,4,none⟩) (by simp)).trans (by go_simp)
 have u:w.heap.size<F.heap.size:=by have:=q.size;simp at this;omega
 have G:aS F:=(P.alloc _).below q (P.alloc _).1;have I:Hid (Below w.heap.size w F):=aJ.trans (q.mono (by simp))
 clear q;go_wp2_with fail;go_cut [5] (λ p wc=>tq F k p wc)
 case first=>
  go_region_with (go_at_call 157;refine (ox _).mono ?_;rintro e w' ⟨C,hC,rfl,rfl⟩;obtain ⟨c0,c1,c2,L,c4⟩:=hC k Q)
  all_goals (go_wp2_with fail;go_meet)
  all_goals first|exact A4 _ k C _ _ _ rfl|exact zW _ k C _ _ _ rfl
 case rest=>
  obtain ⟨b,rfl,O,K,c0,c1,c2,L,c4,H⟩:=hcut
  have j:wM w b k (row k).kind rd rs1 rs2 imm wc:=⟨⟨(H.cell (p:=⟨w.heap.size,1,none⟩) u).trans U,(H.cell (p:=⟨w.heap.size,2,none⟩) u).trans V,(H.cell (p:=⟨w.heap.size,3,none⟩) u).trans W,(H.cell (p:=⟨w.heap.size,4,none⟩) u).trans X,
   c1,c2,L,c4,I.out.trans (H.mono (by omega))⟩,c0,by omega,K,G.below H G.1⟩
  clear c0 c1 c2 L c4 i0 U V W X I H G u O K;obtain ⟨⟨v,y,A,E,c1,_⟩,c0,_⟩:=id j;go_wp2_with fail;refine (kL rd _ (by omega) (by omega) j.2.2.2.2).mono ?_
  rintro e w2 ⟨D,rfl,hD,Y,h⟩;replace j:=j.step h;clear v y A E c0 c1 h;obtain ⟨⟨v,y,A,E,c1,_⟩,c0,_⟩:=id j;go_wp2_with fail;refine (kL rs1 _ (by omega) (by omega) j.2.2.2.2).mono ?_
  rintro e w3 ⟨S,rfl,hS,HS,h⟩;replace j:=j.step h;clear v y A E c0 c1 h;obtain ⟨⟨v,y,A,E,c1,_⟩,c0,_⟩:=id j;go_wp2_with fail;refine (kL rs2 _ (by omega) (by omega) j.2.2.2.2).mono ?_
  rintro e w4 ⟨T,rfl,hT,HT,h⟩;replace j:=j.step h;clear v y A E c0 c1 h;obtain ⟨⟨v,y,A,E,c1,_⟩,c0,_⟩:=id j;go_wp2_with fail;refine (kL imm _ (by omega) (by omega) j.2.2.2.2).mono ?_
  rintro e w5 ⟨N,rfl,hN,HN,h⟩;replace j:=j.step h;clear v y A E c0 c1 h;obtain ⟨⟨v,y,A,E,c1,_⟩,c0,_⟩:=id j;have hM:(ByteArray.mk (row k).name.toArray).size<=8:=by simpa[ByteArray.size] using yx k Q
  generalize J:ByteArray.mk (row k).name.toArray=M at *;have Z:Hid (M.data.toList=(row k).name):=by rw[<-J];simp[Hid]
  clear J;go_wp2_with fail
  all_goals
   go_ret2;refine ⟨tW (qV ?_) rfl,j.1.below⟩;have ed:D.data.toList=Lib.itoa rd:=Y;have es:S.data.toList=Lib.itoa rs1:=HS;have et:T.data.toList=Lib.itoa rs2:=HT;have en:N.data.toList=Lib.itoa imm:=HN;have em:M.data.toList=(row k).name:=Z;clear v y A E c0 c1 j;simp only[beq_iff_eq,beq_eq_false_iff_ne,ne_eq]at *;unfold pO behind
   first
   | rw[zt (by omega)]
   | rw[aC (by omega),zt (by omega)]
   | rw[aC (by omega),aC (by omega),zt (by omega)]
   | rw[aC (by omega),aC (by omega),aC (by omega),zt (by omega)]
   | rw[aC (by omega),aC (by omega),aC (by omega),aC (by omega),zt (by omega)]
   | rw[aC (by omega),aC (by omega),aC (by omega),aC (by omega),aC (by omega),zt (by omega)]
   | rw[aC (by omega),aC (by omega),aC (by omega),aC (by omega),aC (by omega),aC (by omega)]
   rw[<-em]
   try unfold gP
   try rw[<-ed]
   try rw[<-es]
   try rw[<-et]
   try rw[<-en]
   first|(rw[List.append_nil];done)|simp only[wG,List.append_assoc,List.cons_append,List.nil_append]
def Qo (i) (w) (h:right i=false):
    aG prog 94 #[i.val] w (.tuple #[.string ⟨#[]⟩,.int .i64 1]):=by
 unfold aG;have H:Hid (right i=false):=h;clear h;obtain ⟨op,rd,rs1,rs2,imm⟩:=i;unfold aE.val;simp only;go_in;go_wp2_with fail;refine zK (lV ⟨op,rd,rs1,rs2,imm⟩ _) λ u j=>?_;rw[H.out];have q:Hid (Below w.heap.size w u):=aJ.trans (j.mono (by simp))
 clear j;go_wp2;go_ret2;exact ⟨rfl,q.out⟩
def EG (i) (w) (G:aS w):
    aG prog 94 #[i.val] w (.tuple #[.string ⟨(gZ i).1.toArray⟩,.int .i64 (gZ i).2]):=by
 unfold aG;by_cases h:right i=true
 .obtain ⟨op,rd,rs1,rs2,imm⟩:=i
  have I:1<=op/\op<=64:=by
   apply Classical.byContradiction;intro H;rw[lY _ H]at h;cases h
  obtain ⟨k,rfl⟩:∃k:Nat,op=k+1:=⟨(op-1).toNat,by omega⟩
  have q:k<64:=by omega
  obtain ⟨⟨u,v⟩,⟨y,A⟩,⟨C,D⟩,E,F⟩:=o6 q h;rw[zN h];exact RV k rd rs1 rs2 imm w q h u v y A C D E F G
 have j:right i=false:=by simpa using h
 rw[Ab j];exact Qo i w j
def KY (n) (w) (h:n<0\/4294967296<=n):
    aG prog 93 #[.int .i64 n] w (.tuple #[(aE.mk 0 0 0 0 0).val,.int .i64 1]):=by
 unfold aG;have j:cB 32=4294967296:=rfl;rcases h with h|h
 .go_in
  go_wp2_with fail;exact zp (v:=.tuple #[(aE.mk 0 0 0 0 0).val,.int .i64 1]) (by simp[results,results93,go_sem,aE.val]) rfl ⟨rfl,aJ⟩
 have q:¬n<0:=by omega
 go_in;go_wp2_with (go_at_call 158;refine zk (ke _ _ (by decide) (by decide)) ?_)
 exact zp (v:=.tuple #[(aE.mk 0 0 0 0 0).val,.int .i64 1]) (by simp[results,results93,go_sem,aE.val]) rfl ⟨rfl,aJ⟩
def Cx (n) (w):
    aG prog 93 #[.int .i64 n] w (.tuple #[(bW n).1.val,.int .i64 (bW n).2]):=by
 unfold aG;by_cases h:n<0\/4294967296<=n
 .rw[Ge h];exact KY n w h
 exact BQ n w (by omega) (by omega)
def aB {p:Prop} (h:p):Hid p:=h
def aM {p:Prop} (h:Hid p):p:=h
def gT (c) (w):
    zS prog 207 #[.int .u8 c] w (.bool (bJ c)):=by
 unfold zS;go_in;go_wp2
 all_goals
  go_ret;refine ⟨iZ ?_,rfl⟩;unfold bJ
  first
  | (rw[decide_eq_true (p:=97<=c) (by omega)];rfl)
  | (rw[decide_eq_false (p:=97<=c) (by omega)];rfl)
def gG (c) (w):
    zS prog 208 #[.int .u8 c] w (.bool (cA c)):=by
 unfold zS;go_in;go_wp2
 all_goals
  go_ret;refine ⟨iZ ?_,rfl⟩;unfold cA
  first
  | (rw[decide_eq_true (p:=48<=c) (by omega)];rfl)
  | (rw[decide_eq_false (p:=48<=c) (by omega)];rfl)
