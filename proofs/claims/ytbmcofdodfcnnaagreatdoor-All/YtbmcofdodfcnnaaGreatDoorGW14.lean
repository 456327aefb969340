import Derived.Test.YtbmcofdodfcnnaaGreatDoorW9
import Derived.Test.YtbmcofdodfcnnaaGreatDoorW12
import Derived.Test.YtbmcofdodfcnnaaGreatDoorGVC
import Derived.Test.YtbmcofdodfcnnaaGreatDoorGPG
set_option linter.all false
set_option maxHeartbeats 0
set_option maxRecDepth 100000
namespace Go
open Proofs.Tryz RowKit
variable {w : World} {base k : Nat}
def yj {v:Value} {t:aI} {l:List aI} (h:w.ownsRow base 268 4 v (t::l).length ((t::l).flatMap jE)):
    ∃g cap,v=.slice (some ⟨g,0,none⟩) (l.length+1) cap/\g<w.heap.size/\l.length+1<=cap/\∀k u,(t::l)[k]?=some u->
     w.cell? ⟨g,0+k*4,none⟩=some (.int .u8 u.kind)/\w.cell? ⟨g,0+k*4+1,none⟩=some (.string u.S)/\w.cell? ⟨g,0+k*4+2,none⟩=some (.int .i64 u.num)/\w.cell? ⟨g,0+k*4+3,none⟩=some (.bool u.blank):=by
 have E:=h;obtain ⟨_,G|⟨g,cap,F,D,K,J,A,_⟩⟩:=h
 .have:=G.2;simp at this
 refine ⟨g,cap,by rw[D];rfl,(E.lt g (by rw[D];rfl)).2,by simpa using A,λ k u C=>?_⟩
 have I:k<(t::l).length:=by
  rcases Nat.lt_or_ge k (t::l).length with h|h
  .exact h
  rw[List.getElem?_eq_none h]at C;cases C
 have q:∀j,j<4->w.cell? ⟨g,0+k*4+j,none⟩=(jE u)[j]?:=λ j H=>by
  have y:=jF jE 4 (λ _=>rfl) (t::l) k j H I
  rw[C]at y;have hx:(jE u)[j]?=some ((jE u)[j]'(by simp[jE];omega)):=zg _
  simp only[zd]at y;have:=E.cells (g:=g) (by rw[D];rfl) (4*k+j) _ (y.trans hx)
  rw[hx,<-this]
  have e:(⟨g,0,none⟩:Addr).add (4*k+j)=⟨g,0+k*4+j,none⟩:=by
   simp only[Addr.add];rw[Nat.mul_comm 4 k];simp;omega
  rw[e]
 exact ⟨q 0 (by omega),q 1 (by omega),q 2 (by omega),q 3 (by omega)⟩
def Tc (s) (w) (hs:s.size<=2000):
    aG prog 95 #[.string s] w (.tuple #[(Go.rd s).1.val,.int .i64 (Go.rd s).2]):=by
 unfold aG;have ax:(s.size:Int)<=2000:=by omega
 have C:¬2000<s.size:=by omega
 go_in;go_wp2_with fail;refine (Dd s _ hs).mono ?_;rintro e G ⟨M,h⟩;have zf:∀q,G.frozen? ⟨w.heap.size,q,none⟩=false:=λ q=>(h.frozen (p:=⟨w.heap.size,q,none⟩) (by simp)).trans (by go_simp)
 have U:G.cell? ⟨w.heap.size,0,none⟩=some (.int .i64 0):=(h.cell (p:=⟨w.heap.size,0,none⟩) (by simp)).trans (by go_simp)
 have V:G.cell? ⟨w.heap.size,1,none⟩=some (.int .i64 0):=(h.cell (p:=⟨w.heap.size,1,none⟩) (by simp)).trans (by go_simp)
 have W:G.cell? ⟨w.heap.size,2,none⟩=some (.int .i64 0):=(h.cell (p:=⟨w.heap.size,2,none⟩) (by simp)).trans (by go_simp)
 have X:G.cell? ⟨w.heap.size,3,none⟩=some (.int .i64 0):=(h.cell (p:=⟨w.heap.size,3,none⟩) (by simp)).trans (by go_simp)
 have Y:G.cell? ⟨w.heap.size,4,none⟩=some (.int .i64 0):=(h.cell (p:=⟨w.heap.size,4,none⟩) (by simp)).trans (by go_simp)
 have y:w.heap.size<G.heap.size:=by have:=h.size;simp at this;omega
 have D:Hid (Below w.heap.size w G):=aJ.trans (h.mono (by simp))
 clear h
 cases ht:aW s.data.toList false with
 | none=>
  rw[ht]at M;have E:=aB (vH C ht);clear ht;simp only[pM]at M;subst M;go_wp2;refine zp (v:=.tuple #[(aE.mk 0 0 0 0 0).val,.int .i64 4]) (by simp[results,results95,go_sem,U,V,W,X,Y,aE.val]) rfl ⟨by rw[E.out],kA D.out _ _ _ _ _⟩
 | some A=>
  rw[ht]at M;simp only[pM]at M;obtain ⟨v,Q,u⟩:=M;subst Q
  cases A with
  | nil=>
   have E:=aB (wz C ht);clear ht
   have L:∃ao cap,v=.slice ao 0 cap:=by
    obtain ⟨_,h1|⟨g,cap,an,L,_⟩⟩:=u
    .exact ⟨none,0,h1.1⟩
    exact ⟨_,_,L⟩
   clear u;obtain ⟨ao,cap,L⟩:=L;subst L;go_wp2;refine zp (v:=.tuple #[(aE.mk 0 0 0 0 0).val,.int .i64 4]) (by simp[results,results95,go_sem,U,V,W,X,Y,aE.val]) rfl ⟨by rw[E.out],kA D.out _ _ _ _ _⟩
  | cons t l=>
   have F:=zh _ _ _ _ zn ht;(have hl:l.length<=1999:=by simp at F;omega);have K:=aB ht;clear F ht;obtain ⟨g,cap,L,hg,O,P⟩:=yj u;clear u;subst L;(have aw:(((l.length+1:Nat):Int)==0)=false:=by simp;omega);(have ag:(((l.length:Int)+1)==0)=false:=by simp;omega);have Z:=aB P;clear P;have cb:=mh s 10 s.size;by_cases hc:0<aR s 10 s.size
   .have E:=aB (Ip C (aM K) hc)
    go_wp2_with (go_at_call 163;refine zk (vh s 10 _ hs) ?_);refine zp (v:=.tuple #[(aE.mk 0 0 0 0 0).val,.int .i64 4]) (by simp[results,results95,go_sem,U,V,W,X,Y,aE.val]) rfl ⟨by rw[E.out],kA D.out _ _ _ _ _⟩
   go_wp2_with (go_at_call 163;refine zk (vh s 10 _ hs) ?_);refine zK (EP t l g 0 cap _ hl hg O (aM Z)) λ w2 j=>?_;have x0:=(j.cell (p:=⟨w.heap.size,0,none⟩) y).trans U;have x1:=(j.cell (p:=⟨w.heap.size,1,none⟩) y).trans V;have x2:=(j.cell (p:=⟨w.heap.size,2,none⟩) y).trans W;have x3:=(j.cell (p:=⟨w.heap.size,3,none⟩) y).trans X;have x4:=(j.cell (p:=⟨w.heap.size,4,none⟩) y).trans Y;(have xf:∀q,w2.frozen? ⟨w.heap.size,q,none⟩=false:=λ q=>(j.frozen (p:=⟨w.heap.size,q,none⟩) y).trans (zf q));(have T:w.heap.size<w2.heap.size:=by have:=j.size;omega);(have N:Hid (Below w.heap.size w w2):=D.out.trans (j.mono (by omega)));(have J:=aB (λ hp=>IC C (aM K) (by omega) hp));(have H:=aB (λ hp=>Aw C (aM K) (by omega) hp));clear j U V W X Y zf;generalize plain t l false=R at *;obtain ⟨I,nm,er⟩:=R;obtain ⟨op,rd,rs1,rs2,imm⟩:=I;unfold iv;simp only;by_cases Q:(er != 0)=false
   .have E:=aB (aM J (by simpa using Q))
    clear J H;go_wp2;(refine zp (v:=.tuple #[(aE.mk op rd rs1 rs2 imm).val,.int .i64 0]) (by simp[results,results95,go_sem,x0,x1,x2,x3,x4,T,aE.val]) rfl ⟨by rw[E.out],?_⟩);exact (kA N.out _ _ _ _ _).alloc (by simp[World.setCell];omega) _
   (have aa:(er != 0)=true:=by simpa using Q);(have E:=aB (aM H (by simpa using aa)));clear J H Q;go_wp2;(refine zp (v:=.tuple #[(aE.mk 0 0 0 0 0).val,.int .i64 er]) (by simp[results,results95,go_sem,x0,x1,x2,x3,x4,T,aE.val]) rfl ⟨by rw[E.out],?_⟩);exact (kA N.out _ _ _ _ _).alloc (by simp[World.setCell];omega) _
def NM (s) (w) (j:2000<s.size):
    aG prog 95 #[.string s] w (.tuple #[(aE.mk 0 0 0 0 0).val,.int .i64 4]):=by
 unfold aG;have h:(2000:Int)<s.size:=by omega
 go_in;go_wp2_with fail;exact zp (v:=.tuple #[(aE.mk 0 0 0 0 0).val,.int .i64 4]) (by simp[results,results95,go_sem,aE.val]) rfl ⟨rfl,aJ⟩
def P8 (s) (w):
    aG prog 95 #[.string s] w (.tuple #[(rd s).1.val,.int .i64 (rd s).2]):=by
 unfold aG;by_cases h:2000<s.size
 .rw[FJ h];exact NM s w h
 exact Tc s w (by omega)
def mM (n) (w):zS prog 92 #[.int .i64 n] w (.int .i64 n):=by
 unfold zS;go_in;go_wp2;go_ret;exact ⟨rfl,rfl⟩
def cM (kd on a b op rd rs1 rs2 imm:Int) (s:ByteArray) (sh:Bool):List Value:=
 [.int .i64 kd,.int .i64 on,.int .i64 a,.int .i64 b,.int .i64 op,.int .i64 rd,.int .i64 rs1,.int .i64 rs2,.int .i64 imm,.string s,.bool sh]
def Sk (on a b op rd rs1 rs2 imm) (s) (sh) (w):
    aG prog 52 #[.agg (cM 1 on a b op rd rs1 rs2 imm s sh).toArray] w (.bool true):=by
 unfold aG;have A:=aB (aF.new w (cM 1 on a b op rd rs1 rs2 imm s sh) 74);unfold cM;go_in;go_wp2_with fail;refine zK (KG ⟨op,rd,rs1,rs2,imm⟩ _) λ I h=>?_;have y:=aB (aF.next A.out h);have q:=aB (aJ.trans (h.mono (by simp)))
 obtain ⟨H,_,j⟩:=y.out;have c4:=j 4 _ rfl;have C:=j 5 _ rfl;have D:=j 6 _ rfl;have F:=j 7 _ rfl;have G:=j 8 _ rfl;clear j h;go_wp2_with fail;refine zK (xK ⟨op,rd,rs1,rs2,imm⟩ _) λ J u=>?_;have v:=aB (q.out.trans (u.mono q.out.size));clear u c4 C D F G;generalize bB ⟨op,rd,rs1,rs2,imm⟩=E;go_wp2_with (go_at_call 92;refine zk (mM _ _) ?_);go_ret;exact ⟨rfl,v.out⟩
def S4 (on a b op rd rs1 rs2 imm) (s) (sh) (w):
    aG prog 52 #[.agg (cM 2 on a b op rd rs1 rs2 imm s sh).toArray] w (.bool true):=by
 unfold aG;have I:=aB (aF.new w (cM 2 on a b op rd rs1 rs2 imm s sh) 74);unfold cM;go_in;go_wp2_with fail;refine zK (Ki a _) λ L j=>?_;have v:=aB (aF.next I.out j);have h:=aB (aJ.trans (j.mono (by simp)))
 have c2:=v.out.2.2 2 _ rfl;have M:=v.out.1;clear j;generalize y:bW a=D;have J:=aB y;clear y;obtain ⟨⟨H,F,C,E,G⟩,er⟩:=D;unfold aE.val;simp only;go_wp2_with fail;refine zK (Cx a _) λ T q=>?_;have K:=aB ((aF.new L [.int .i64 H,.int .i64 F,.int .i64 C,.int .i64 E,.int .i64 G] 26).next q);have u:=aB ((h.out.alloc h.out.size (.cells #[.int .i64 H,.int .i64 F,.int .i64 C,.int .i64 E,.int .i64 G] 26)).trans (q.mono (by have:=h.out.size;simp;omega)))
 rw[J.out];unfold aE.val;simp only;obtain ⟨hi,_,A⟩:=K.out;obtain ⟨N,O,P,Q,R⟩:=bF A;clear A q c2;go_wp2_with (go_at_call 92;refine zk (mM _ _) ?_);go_ret;exact ⟨rfl,u.out.alloc u.out.size _⟩
def SL (on a b op rd rs1 rs2 imm) (s) (sh) (w) (J:aS w):
    aG prog 52 #[.agg (cM 3 on a b op rd rs1 rs2 imm s sh).toArray] w (.bool true):=by
 unfold aG;have D:=aB (aF.new w (cM 3 on a b op rd rs1 rs2 imm s sh) 74);have A:=aB (λ o=>J.alloc o)
 unfold cM;go_in;go_wp2_with fail;refine zK (MC ⟨op,rd,rs1,rs2,imm⟩ _ (A.out _)) λ K h=>?_;have y:=aB (aF.next D.out h);have q:=aB (aJ.trans (h.mono (by simp)))
 have C:Hid (aS K):=aS.below (A.out _) h (A.out _).1;obtain ⟨L,_,j⟩:=y.out;have c4:=j 4 _ rfl;have F:=j 5 _ rfl;have G:=j 6 _ rfl;have H:=j 7 _ rfl;have I:=j 8 _ rfl;clear j h;go_wp2_with fail;refine zK (EG ⟨op,rd,rs1,rs2,imm⟩ _ C.out) λ M u=>?_;have v:=aB (q.out.trans (u.mono q.out.size));clear u c4 F G H I;generalize gZ ⟨op,rd,rs1,rs2,imm⟩=E;go_wp2_with (go_at_call 92;refine zk (mM _ _) ?_);go_ret;exact ⟨rfl,v.out⟩
def S6 (on a b op rd rs1 rs2 imm) (s) (sh) (w) (N:aS w):
    aG prog 52 #[.agg (cM 4 on a b op rd rs1 rs2 imm s sh).toArray] w (.bool true):=by
 unfold aG;have I:=aB (aF.new w (cM 4 on a b op rd rs1 rs2 imm s sh) 74);have K:=aB (λ o=>N.alloc o)
 unfold cM;go_in;go_wp2_with fail;refine zK (MW s _ (K.out _)) λ O j=>?_;have v:=aB (aF.next I.out j);have h:=aB (aJ.trans (j.mono (by simp)))
 have M:=v.out.2.2 9 _ rfl;have P:=v.out.1;clear j;rw[Ty];generalize y:Go.rd s=D;have J:=aB y;clear y;obtain ⟨⟨H,F,C,E,G⟩,er⟩:=D;unfold aE.val;simp only;go_wp2_with fail;refine zK (P8 s _) λ W q=>?_;have L:=aB ((aF.new O [.int .i64 H,.int .i64 F,.int .i64 C,.int .i64 E,.int .i64 G] 26).next q);have u:=aB ((h.out.alloc h.out.size (.cells #[.int .i64 H,.int .i64 F,.int .i64 C,.int .i64 E,.int .i64 G] 26)).trans (q.mono (by have:=h.out.size;simp;omega)))
 rw[J.out];unfold aE.val;simp only;obtain ⟨hi,_,A⟩:=L.out;obtain ⟨Q,R,T,U,V⟩:=bF A;clear A q M;go_wp2_with (go_at_call 92;refine zk (mM _ _) ?_);go_ret;exact ⟨rfl,u.out.alloc u.out.size _⟩
structure cG where
 kd:Int
 on:Int
 a:Int
 b:Int
 op:Int
 rd:Int
 rs1:Int
 rs2:Int
 imm:Int
 s:ByteArray
 sh:Bool
def cG.cells (o:cG):List Value:=cM o.kd o.on o.a o.b o.op o.rd o.rs1 o.rs2 o.imm o.s o.sh
def Ej (o:cG) (w) (h:aS w) (j:1<=o.kd) (q:o.kd<=4):aG prog 52 #[.agg o.cells.toArray] w (.bool true):=by
 unfold aG;obtain ⟨kd,on,a,b,op,rd,rs1,rs2,imm,s,sh⟩:=o;simp only at j q;have:kd=1\/kd=2\/kd=3\/kd=4:=by omega
 rcases this with rfl|rfl|rfl|rfl
 .exact Sk on a b op rd rs1 rs2 imm s sh w
 .exact S4 on a b op rd rs1 rs2 imm s sh w
 .exact SL on a b op rd rs1 rs2 imm s sh w h
 exact S6 on a b op rd rs1 rs2 imm s sh w h
def Sd (o:cG) (p) (w) (v:aS w) (u:o.kd<=4):aG prog 33 #[p,.agg o.cells.toArray] w (.bool true):=by
 unfold aG;have A:=aB (λ o=>v.alloc o)
 by_cases q:1<=o.kd
 .have y:=aB (λ (w:World) (v:aS w)=>Ej o w v q u)
  obtain ⟨kd,on,a,b,op,rd,rs1,rs2,imm,s,sh⟩:=o;simp only at q u;unfold cG.cells cM at *;simp only at y ⊢;have E:kd<=6:=by omega
  go_in;go_wp2_with fail;refine zK (y.out _ (A.out _)) λ G h=>?_;have j:=aB (aJ.trans (h.mono (by simp)))
  clear h;go_wp2;go_ret;exact ⟨rfl,j.out⟩
 obtain ⟨kd,on,a,b,op,rd,rs1,rs2,imm,s,sh⟩:=o;simp only at q u;unfold cG.cells cM;simp only;have F:¬7<=kd:=by omega
 have C:(kd==10)=false:=by simp;omega
 have D:¬10<kd:=by omega
 go_in;go_wp2;go_ret;exact ⟨rfl,aJ⟩
def TH:(prog.info? 74).map (λ i=>(i.zero,i.size,i.bytes))=some (some (.agg #[.int .i64 0,.int .i64 0,.int .i64 0,.int .i64 0,.int .i64 0,.int .i64 0,.int .i64 0,.int .i64 0,.int .i64 0,.string ⟨#[]⟩,.bool false]),11,96):=by kernel_rfl
def jJ:List cG:=[⟨1,0,0,0,29,8,8,0,-1,⟨#[]⟩,false⟩,⟨2,0,115,0,0,0,0,0,0,⟨#[]⟩,false⟩,⟨3,0,0,0,29,8,8,0,-1,⟨#[]⟩,false⟩,
 ⟨4,0,0,0,0,0,0,0,0,⟨#[108,100,32,120,49,44,32,56,40,120,50,41]⟩,false⟩,⟨5,0,0,0,29,8,8,0,-1,⟨#[]⟩,false⟩,
 ⟨7,0,0,0,0,0,0,0,0,⟨#[97,58,32,97,100,100,105,32,120,49,44,32,120,49,44,32,49,10,98,110,101,32,120,49,44,32,120,50,44,32,97,10,101,98,114,101,97,107]⟩,true⟩,
 ⟨8,0,0,0,0,0,0,0,0,⟨#[115,0,16,0]⟩,false⟩,⟨9,0,1,0,0,0,0,0,0,⟨#[1,0]⟩,false⟩,⟨10,0,0,0,0,0,0,0,0,⟨#[5,5,2,144]⟩,false⟩,⟨17,0,9,0,0,0,0,0,0,⟨#[]⟩,false⟩,⟨12,0,10,0,0,0,0,0,0,⟨#[]⟩,false⟩]
def rz:List Value:=jJ.flatMap cG.cells
def lw (w:World):World:=((w.alloc (.cells #[.slice none 0 0] 72)).alloc (.cells #[.int .i64 29,.int .i64 8,.int .i64 8,.int .i64 0,.int .i64 (-1)] 26)).alloc (.cells rz.toArray 74)
def qh (w):(lw w).heap.size=w.heap.size+3:=by simp[lw]
def BP (w):Below w.heap.size w (lw w):=(aJ.alloc (by simp) _).alloc (by simp;omega) _
def C5 (w):(lw w).ownsRow w.heap.size 74 11 (.slice (some ⟨w.heap.size+1+1,0,none⟩) 11 11) 11 rz:=by
 refine ⟨rfl,.inr ⟨w.heap.size+1+1,11,rz.toArray,rfl,by omega,?_,zn,by unfold maxLen;omega,rfl,rfl⟩⟩
 have:=heap_alloc_last ((w.alloc (.cells #[.slice none 0 0] 72)).alloc (.cells #[.int .i64 29,.int .i64 8,.int .i64 8,.int .i64 0,.int .i64 (-1)] 26)) (.cells rz.toArray 74);rw[za,za]at this;exact this
def KB {u:World} (h:(lw w).grownBy u (some (w.heap.size+1+1))):Below w.heap.size w u:=by
 have j:=BP w;refine ⟨h.os.trans j.os,h.tape.trans j.tape,h.output.trans j.output,Nat.le_trans j.size h.size,λ b q=>?_⟩
 rw[h.block b (by rw[qh];omega) ?_]
 .exact j.block b q
 intro e;have v:b=w.heap.size+1+1:=Option.some.inj e;omega
def CX (a:Addr) (j:Nat):(a.add j).block=a.block:=by
 unfold Addr.add;split<;>rfl
def NP (l:List cG):∀u∈l.flatMap cG.cells,u.oneCell'=true:=by
 intro u j;obtain ⟨o,_,h⟩:=List.mem_flatMap.1 j;simp[cG.cells,cM]at h;rcases h with rfl|rfl|rfl|rfl|rfl|rfl|rfl|rfl|rfl|rfl|rfl<;>rfl
def yi (l:List cG):(l.flatMap cG.cells).length=l.length*11:=by
 induction l with
 | nil=>rfl
 | cons o l ih=>rw[List.flatMap_cons,List.length_append,ih];simp[cG.cells,cM];omega
def QP {g cap:Nat} {l:List cG} (h:w.ownsRow base 74 11 (.slice (some ⟨g,0,none⟩) l.length cap) l.length (l.flatMap cG.cells)) {o:cG} (A:l[k]?=some o):
    ∀j u,o.cells[j]?=some u->w.cell? ⟨g,k*11+j,none⟩=some u:=λ j u y=>by
 have C:k<l.length:=by
  rcases Nat.lt_or_ge k l.length with h|h
  .exact h
  rw[List.getElem?_eq_none h]at A;cases A
 have q:j<11:=by
  rcases Nat.lt_or_ge j 11 with h|h
  .exact h
  rw[List.getElem?_eq_none (by simp[cG.cells,cM];omega)]at y;cases y
 have v:=jF cG.cells 11 (λ _=>rfl) l k j q C
 rw[A]at v;simp only[zd]at v;have:=h.cells (g:=g) rfl (11*k+j) _ (v.trans y);rw[<-this]
 have e:(⟨g,0,none⟩:Addr).add (11*k+j)=⟨g,k*11+j,none⟩:=by
  simp only[Addr.add];rw[Nat.mul_comm 11 k];simp;omega
 rw[e]
def O9 (b) (ao) (c) (ty) (w):(Builtin.append_ #[22,22] ty #[.slice (some b) 11 11,.slice ao 0 c]).run prog w=.ok (.slice (some b) 11 11) w:=by
 have h:=underlying22
 cases ao with
 | none=>simp[Builtin.append_,underlying,h,go_sem,Builtin.firstCells,storeCells]
 | some a=>simp[Builtin.append_,underlying,h,go_sem,Builtin.firstCells,storeCells]
def KC {o:Oper} {a:Act} {K:Act->World->Prop} {Q:Exit->Act->World->Prop} (w) (s x:Operand) (q:o.op=.call { callee:=.builtin .append,args:=#[s,x],argTypes:=#[22,22] }) (b) (ao) (c m) (j:m=11) (u:a.eval s=.slice (some b) 11 11) (hx:a.eval x=.slice ao 0 c) (h:K (a.put o.dst (.slice (some b) m 11)) w):o.wp prog a w K Q:=by
 subst j;unfold Oper.wp execOp;simp only[q,resolve,invoke,builtin,Sem.run_bind,Sem.run_pure,Result.andThen_ok,List.map_toArray,List.map_cons,List.map_nil,u,hx,O9];exact h
