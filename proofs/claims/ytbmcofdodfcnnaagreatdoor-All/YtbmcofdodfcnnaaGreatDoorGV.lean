import Derived.Test.YtbmcofdodfcnnaaGreatDoorGW
set_option linter.all false
set_option maxHeartbeats 0
set_option maxRecDepth 100000
namespace Go
open Proofs.Tryz RowKit
variable {w wr w3 : World} {b t k : Nat}
def JA (w):
    Calls prog 128 #[] w λ e w'=>e=.returned (.agg (kT 0 28))/\w'=w.alloc (.cells (kT 0 28) 180):=
 xv (n:=29) (s:=0) (y:=29) (Z:=J0 28) (m:=28) (e:=100) func128 rfl (by kernel_rfl) rfl rfl rfl rfl rfl (by kernel_rfl) (by kernel_rfl) (by kernel_rfl) (by kernel_rfl) (by kernel_rfl)
def Kj (w):
    Calls prog 129 #[] w λ e w'=>e=.returned (.agg (kT 28 36))/\w'=w.alloc (.cells (kT 28 36) 182):=
 xv (n:=37) (s:=0) (y:=37) (Z:=J0 36) (m:=36) (e:=100) func129 rfl (by kernel_rfl) rfl rfl rfl rfl rfl (by kernel_rfl) (by kernel_rfl) (by kernel_rfl) (by kernel_rfl) (by kernel_rfl)
def o3 (n) (h:-9223372036854775808<=n/\n<=9223372036854775807):wrap64 n=n:=by unfold wrap64;omega
def oi (n bP width) (w) (v:0<=bP) (y:bP<=40) (w0:1<=width) (D:width<=32):
    Calls prog 112 #[.int .i64 n,.int .i64 bP,.int .i64 width] w λ e w'=>e=.returned (.int .i64 (aD n (bP+width-1) bP))/\∃k,w'=w.drewN k:=by
 go_in;go_wp2_with fail;go_quiet (fail);go_wp2;go_ret;refine ⟨fZ ?_,nq,rfl⟩;have A:=pow_pos width.toNat;have C:=uZ (show width.toNat<=62 by omega)
 have j:wrap64 (2^width.toNat)=2^width.toNat:=o3 _ (by omega)
 rw[j];have q:wrap64 (2^width.toNat-1)=2^width.toNat-1:=o3 _ (by omega)
 rw[q];have h:=xU (n/2^bP.toNat) width.toNat (by omega)
 unfold eO at h;rw[h];unfold aD fE;have u:(bP+width-1).toNat-bP.toNat+1=width.toNat:=by omega
 rw[u]
def Jk (n) (t) (w):
    zS prog 110 #[.int .i64 n,.bool t] w (.bool (cK t n)):=by
 unfold zS
 cases t
 .go_in
  go_wp2;go_ret;exact ⟨rfl,rfl⟩
 go_in;go_wp2
 all_goals
  go_ret;refine ⟨iZ ?_,rfl⟩;unfold cK bU
  first
  | (rw[decide_eq_true (p:=0<=n) (by omega)];rfl)
  | (rw[decide_eq_false (p:=0<=n) (by omega)];rfl)
def eW (o:Option Nat):Value:=.tuple #[(match o with|some k=>dE k|none=>gV),.bool o.isSome]
def CG (T) (n k f) (w) (j:k<n) (q:prog.underlying T=some (.array n 100)):
    (Instr.index T (.agg (kT f n)) (.int .i64 (k:Int))).run prog w=.ok (.agg (bO (f+k)).toArray) w:=by
 have hx:=Px f n k j;simp[Instr.index,asIntOf,underlying,q,part,hx,go_sem];intro h;omega
def ZR (w wr:World):Prop:=Below w.heap.size w wr/\w.heap.size<wr.heap.size/\wr.cell? ⟨w.heap.size,0,none⟩=some (.int .i64 0)/\wr.cell? ⟨w.heap.size,1,none⟩=some (.string ⟨#[]⟩)/\
 wr.cell? ⟨w.heap.size,2,none⟩=some (.int .i64 0)/\wr.cell? ⟨w.heap.size,3,none⟩=some (.int .i64 0)/\wr.cell? ⟨w.heap.size,4,none⟩=some (.int .i64 0)/\wr.cell? ⟨w.heap.size,5,none⟩=some (.int .i64 0)/\(∀q,wr.frozen? ⟨w.heap.size,q,none⟩=false)
def ZR.step {v:World} (h:ZR w wr) (j:Below wr.heap.size wr v):ZR w v:=by
 obtain ⟨y,u,A,C,D,E,F,G,H⟩:=h
 exact ⟨y.trans (j.mono (by omega)),by have:=j.size;omega,(j.cell (p:=⟨w.heap.size,0,none⟩) u).trans A,(j.cell (p:=⟨w.heap.size,1,none⟩) u).trans C,(j.cell (p:=⟨w.heap.size,2,none⟩) u).trans D,
  (j.cell (p:=⟨w.heap.size,3,none⟩) u).trans E,(j.cell (p:=⟨w.heap.size,4,none⟩) u).trans F,(j.cell (p:=⟨w.heap.size,5,none⟩) u).trans G,λ q=>(j.frozen (p:=⟨w.heap.size,q,none⟩) u).trans (H q)⟩
def ZR.begin (w) (t):ZR w (w.alloc (.cells #[.int .i64 0,.string ⟨#[]⟩,.int .i64 0,.int .i64 0,.int .i64 0,.int .i64 0] t)):=
 ⟨aJ,by simp,by go_simp,by go_simp,by go_simp,by go_simp,by go_simp,by go_simp,λ q=>by go_simp⟩
def IK (p:Nat->Bool) (w:World) (lo n:Nat) (i:Value) (wr:World):Prop:=
 ∃j:Nat,j<=n/\i=.int .i64 j/\Hid (∀j',j'<lo+j->p j'=false)/\ZR w wr
def DP {j:World} (h:ZR w wr) {a b c d e f:Value} (q:Below (wr.alloc (.cells #[a,b,c,d,e,f] t)).heap.size (wr.alloc (.cells #[a,b,c,d,e,f] t)) j):
    ZR w j/\j.cell? ⟨wr.heap.size,0,none⟩=some a/\j.cell? ⟨wr.heap.size,1,none⟩=some b/\j.cell? ⟨wr.heap.size,2,none⟩=some c/\j.cell? ⟨wr.heap.size,3,none⟩=some d/\j.cell? ⟨wr.heap.size,4,none⟩=some e/\j.cell? ⟨wr.heap.size,5,none⟩=some f:=by
 refine ⟨(h.step aJ).step q,(q.cell (p:=⟨wr.heap.size,0,none⟩) (by simp)).trans (by go_simp),(q.cell (p:=⟨wr.heap.size,1,none⟩) (by simp)).trans (by go_simp),(q.cell (p:=⟨wr.heap.size,2,none⟩) (by simp)).trans (by go_simp),
  (q.cell (p:=⟨wr.heap.size,3,none⟩) (by simp)).trans (by go_simp),(q.cell (p:=⟨wr.heap.size,4,none⟩) (by simp)).trans (by go_simp),(q.cell (p:=⟨wr.heap.size,5,none⟩) (by simp)).trans (by go_simp)⟩
def AG (h:Below w.heap.size w w3) (a b c d e f):
    Below w.heap.size w ((((((w3.setCell ⟨w.heap.size,0,none⟩ a).setCell ⟨w.heap.size,1,none⟩ b).setCell ⟨w.heap.size,2,none⟩ c).setCell ⟨w.heap.size,3,none⟩ d).setCell ⟨w.heap.size,4,none⟩ e).setCell ⟨w.heap.size,5,none⟩ f):=
 (((((h.setCell zn _).setCell zn _).setCell zn _).setCell zn _).setCell zn _).setCell zn _
def EW {p:Nat->Bool} (q:k<64) (h:∀j,j<k->p j=false) (u:p k=true):eW ((List.range 64).find? p)=eW (some k):=by rw[pp p 64 k q h u]
def Rq {p:Nat->Bool} (h:∀j,j<64->p j=false):eW ((List.range 64).find? p)=eW none:=by rw[lX p 64 h]
def vE {p:Nat->Bool} (h:∀j,j<k->p j=false) (q:p k=false):∀j,j<k+1->p j=false:=λ j u=>by
 by_cases e:j=k
 .rw[e];exact q
 exact h j (by omega)
def zT (F:FuncId) (cap) (p:Nat->Bool) (w) (av:∀args w',(callFunc F args).run prog w'=.ok (.enter F args) w') (hc:∀k,k<64->∀X,Below w.heap.size w X->Calls prog F #[.agg (bO k).toArray,cap] X λ e w'=>e=.returned (.bool (p k))/\Below X.heap.size X w'):
    aG prog 67 #[.func (.func F) #[] #[cap]] w (eW ((List.range 64).find? p)):=by
 unfold aG;have HC:=(show Hid _ from hc)
 clear hc;go_in;go_wp2_with fail;refine (JA _).mono ?_;rintro e X ⟨rfl,rfl⟩
 have L:Hid (∀(k:Nat) (w':World),k<28->(Instr.index 180 (.agg (kT 0 28)) (.int .i64 (k:Int))).run prog w'=.ok (.agg (bO k).toArray) w'):=λ k w' hk=>by
  have:=CG 180 28 k 0 w' hk (by kernel_rfl)
  rw[Nat.zero_add]at this;exact this
 generalize kT 0 28=C1 at L ⊢;go_wp2_with fail;go_loopw [9] (λ i wr=>IK p w 0 28 i wr) (λ i _=>28-(intOf i).toNat)
 case atStart=>exact ⟨0,by omega,rfl,λ _ h=>by omega,(ZR.begin w _).step aJ⟩
 case round=>
  obtain ⟨k,hk,rfl,q,Z⟩:=hrel;have J:=(show Hid _ from Z)
  obtain ⟨_,hz,N,O,P,Q,R,T,yf⟩:=Z;by_cases W:k<28
  .have af:(k:Int)<28:=by omega
   (have H:∀w',(Instr.index 180 (.agg C1) (.int .i64 (k:Int))).run prog w'=.ok (.agg #[.int .i64 ((0+k:Nat)+1),.string ⟨(row (0+k)).name.toArray⟩,.int .i64 (fN (row (0+k)).kind),.int .i64 (row (0+k)).opc,.int .i64 (row (0+k)).f,.int .i64 (row (0+k)).g]) w':=λ w'=>by have:=L.out k w' W;rw[Nat.zero_add];exact this);generalize E:0+k=K at H;(have y:K<64:=by omega);(have U:=(show Hid _ from E));(have u:Hid (∀j,j<K->p j=false):=λ j hj=>q.out j (by omega));clear E N O P Q R T yf;go_wp2_with fail;(refine (HC.out K y _ (J.out.1.alloc (by have:=J.out.2.1;omega) _)).mono ?_);rintro e w2 ⟨rfl,A⟩;obtain ⟨G,x0,x1,x2,x3,x4,x5⟩:=DP J.out A;(have D:=(show Hid _ from G));obtain ⟨_,al,N,O,P,Q,R,T,yf⟩:=G;(have am:wr.heap.size<w2.heap.size:=by have:=A.size;simp at this;omega);(have ak:(w.heap.size==wr.heap.size)=false:=by simp;omega);(have ag:¬w.heap.size=wr.heap.size:=by omega);clear A H;by_cases I:p K=true
   .rw[I]
    (have Y:=(show Hid _ from EW y u.out I));clear q I;go_wp2;refine zp (v:=eW (some K)) (by simp[results,results67,go_sem,N,O,P,Q,R,T,eW,dE,bO]) rfl ⟨by rw[Y.out],AG D.out.1 _ _ _ _ _ _⟩
   (have C:p K=false:=by simpa using I);rw[C];(have V:=(show Hid _ from vE u.out C));clear I C q;go_wp2;go_roundw;(case rel=>exact ⟨k+1,by omega,by go_num,λ j hj=>V.out j (by have:=U.out;omega),D.out⟩);case measure=>simp[intOf];omega
  have ac:k=28:=by omega
  subst ac;have ai:=(show Hid (∀j,j<28->p j=false) from λ j hj=>q.out j (by omega))
  have aj:=J;clear q J;go_wp2_with fail;refine (Kj _).mono ?_;rintro e X ⟨rfl,rfl⟩
  have M:Hid (∀(k:Nat) (w':World),k<36->(Instr.index 182 (.agg (kT 28 36)) (.int .i64 (k:Int))).run prog w'=.ok (.agg (bO (28+k)).toArray) w'):=λ k w' hk=>
   CG 182 36 k 28 w' hk (by kernel_rfl)
  generalize kT 28 36=C2 at M ⊢;go_wp2_with fail;go_loopw [18] (λ i wr=>IK p w 28 36 i wr) (λ i _=>36-(intOf i).toNat)
  case atStart=>exact ⟨0,by omega,rfl,λ j h=>ai.out j (by omega),ZR.step aj.out aJ⟩
  case round=>
   obtain ⟨k,hk,rfl,q,Z⟩:=hrel;(have J:=(show Hid _ from Z));obtain ⟨_,hz,N,O,P,Q,R,T,yf⟩:=Z;by_cases W:k<36
   .have af:(k:Int)<36:=by omega
    (have H:∀w',(Instr.index 182 (.agg C2) (.int .i64 (k:Int))).run prog w'=.ok (.agg #[.int .i64 ((28+k:Nat)+1),.string ⟨(row (28+k)).name.toArray⟩,.int .i64 (fN (row (28+k)).kind),.int .i64 (row (28+k)).opc,.int .i64 (row (28+k)).f,.int .i64 (row (28+k)).g]) w':=λ w'=>M.out k w' W);generalize E:28+k=K at H;(have y:K<64:=by omega);(have U:=(show Hid _ from E));(have u:Hid (∀j,j<K->p j=false):=λ j hj=>q.out j (by omega));clear E N O P Q R T yf;go_wp2_with fail;(refine (HC.out K y _ (J.out.1.alloc (by have:=J.out.2.1;omega) _)).mono ?_);rintro e w2 ⟨rfl,A⟩;obtain ⟨G,x0,x1,x2,x3,x4,x5⟩:=DP J.out A;(have D:=(show Hid _ from G));obtain ⟨_,al,N,O,P,Q,R,T,yf⟩:=G;(have am:wr.heap.size<w2.heap.size:=by have:=A.size;simp at this;omega);(have ak:(w.heap.size==wr.heap.size)=false:=by simp;omega);(have ag:¬w.heap.size=wr.heap.size:=by omega);clear A H;by_cases I:p K=true
    .rw[I]
     (have Y:=(show Hid _ from EW y u.out I));clear q I;go_wp2;refine zp (v:=eW (some K)) (by simp[results,results67,go_sem,N,O,P,Q,R,T,eW,dE,bO]) rfl ⟨by rw[Y.out],AG D.out.1 _ _ _ _ _ _⟩
    (have C:p K=false:=by simpa using I);rw[C];(have V:=(show Hid _ from vE u.out C));clear I C q;go_wp2;go_roundw;(case rel=>exact ⟨k+1,by omega,by go_num,λ j hj=>V.out j (by have:=U.out;omega),D.out⟩);case measure=>simp[intOf];omega
   (have ae:k=36:=by omega);subst ae;(have Y:=(show Hid _ from Rq (λ j hj=>q.out j (by omega))));clear q;go_wp2;refine zp (v:=eW none) (by simp[results,results67,go_sem,N,O,P,Q,R,T,eW,gV,gX]) rfl ⟨by rw[Y.out],AG J.out.1 _ _ _ _ _ _⟩
def T8 (k b) (op) (w) (h:b<w.heap.size) (j:w.cell? ⟨b,0,none⟩=some (.int .i64 op)):
    aG prog 180 #[.agg (bO k).toArray,.pointer (some ⟨b,0,none⟩)] w (.bool (nS op k)):=by
 unfold aG;unfold bO;go_in;go_wp2;go_ret;exact ⟨rfl,aJ⟩
def Mp (k b) (nm) (w) (h:b<w.heap.size) (j:w.cell? ⟨b,0,none⟩=some (.string nm)):
    aG prog 188 #[.agg (bO k).toArray,.pointer (some ⟨b,0,none⟩)] w (.bool (gW nm k)):=by
 unfold aG;unfold bO;go_in;go_wp2;go_ret;exact ⟨rfl,aJ⟩
def oz (h:Below w.heap.size w w3) (x0 x1 x2 x3 x4 x5):
    Below w.heap.size w ((((((w3.setCell ⟨w.heap.size+b,0,none⟩ x0).setCell ⟨w.heap.size+b,1,none⟩ x1).setCell ⟨w.heap.size+b,2,none⟩ x2).setCell ⟨w.heap.size+b,3,none⟩ x3).setCell ⟨w.heap.size+b,4,none⟩ x4).setCell ⟨w.heap.size+b,5,none⟩ x5):=
 (((((h.setCell (by simp) _).setCell (by simp) _).setCell (by simp) _).setCell (by simp) _).setCell (by simp) _).setCell (by simp) _
def BV (op) (w):
    aG prog 109 #[.int .i64 op] w (eW ((List.range 64).find? (nS op))):=by
 unfold aG;go_in;go_wp2_with fail;refine zK (zT 180 _ (nS op) _ call180 (λ k _ J A=>T8 k w.heap.size op J (by have:=A.size;simp at this;omega) ((A.cell (p:=⟨w.heap.size,0,none⟩) (by simp;omega)).trans (by go_simp)))) λ j h=>?_;have D:j.cell? ⟨w.heap.size+1,0,none⟩=some (.int .i64 0):=(h.cell (p:=⟨w.heap.size+1,0,none⟩) (by simp)).trans (by go_simp)
 have E:j.cell? ⟨w.heap.size+1,1,none⟩=some (.string ⟨#[]⟩):=(h.cell (p:=⟨w.heap.size+1,1,none⟩) (by simp)).trans (by go_simp)
 have F:j.cell? ⟨w.heap.size+1,2,none⟩=some (.int .i64 0):=(h.cell (p:=⟨w.heap.size+1,2,none⟩) (by simp)).trans (by go_simp)
 have G:j.cell? ⟨w.heap.size+1,3,none⟩=some (.int .i64 0):=(h.cell (p:=⟨w.heap.size+1,3,none⟩) (by simp)).trans (by go_simp)
 have H:j.cell? ⟨w.heap.size+1,4,none⟩=some (.int .i64 0):=(h.cell (p:=⟨w.heap.size+1,4,none⟩) (by simp)).trans (by go_simp)
 have I:j.cell? ⟨w.heap.size+1,5,none⟩=some (.int .i64 0):=(h.cell (p:=⟨w.heap.size+1,5,none⟩) (by simp)).trans (by go_simp)
 have K:∀q,j.frozen? ⟨w.heap.size+1,q,none⟩=false:=λ q=>(h.frozen (p:=⟨w.heap.size+1,q,none⟩) (by simp)).trans (by go_simp)
 have u:Hid (Below w.heap.size w j):=(aJ.alloc (by simp) _).trans (h.mono (by simp;omega))
 clear h;generalize C:(List.range 64).find? (nS op)=o;have y:=(show Hid _ from C)
 clear C
 cases o with
 | none=>
  unfold eW gV gX;go_wp2;refine zp (v:=eW none) (by simp[results,results109,go_sem,D,E,F,G,H,I,eW,gV,gX]) rfl ⟨by rw[y.out],oz u.out _ _ _ _ _ _⟩
 | some k=>
  unfold eW dE bO;go_wp2;refine zp (v:=eW (some k)) (by simp[results,results109,go_sem,D,E,F,G,H,I,eW,dE,bO]) rfl ⟨by rw[y.out],oz u.out _ _ _ _ _ _⟩
def yy (op) (w):
    aG prog 135 #[.string op] w (eW ((List.range 64).find? (gW op))):=by
 unfold aG;go_in;go_wp2_with fail;refine zK (zT 188 _ (gW op) _ call188 (λ k _ J A=>Mp k w.heap.size op J (by have:=A.size;simp at this;omega) ((A.cell (p:=⟨w.heap.size,0,none⟩) (by simp;omega)).trans (by go_simp)))) λ j h=>?_;have D:j.cell? ⟨w.heap.size+1,0,none⟩=some (.int .i64 0):=(h.cell (p:=⟨w.heap.size+1,0,none⟩) (by simp)).trans (by go_simp)
 have E:j.cell? ⟨w.heap.size+1,1,none⟩=some (.string ⟨#[]⟩):=(h.cell (p:=⟨w.heap.size+1,1,none⟩) (by simp)).trans (by go_simp)
 have F:j.cell? ⟨w.heap.size+1,2,none⟩=some (.int .i64 0):=(h.cell (p:=⟨w.heap.size+1,2,none⟩) (by simp)).trans (by go_simp)
 have G:j.cell? ⟨w.heap.size+1,3,none⟩=some (.int .i64 0):=(h.cell (p:=⟨w.heap.size+1,3,none⟩) (by simp)).trans (by go_simp)
 have H:j.cell? ⟨w.heap.size+1,4,none⟩=some (.int .i64 0):=(h.cell (p:=⟨w.heap.size+1,4,none⟩) (by simp)).trans (by go_simp)
 have I:j.cell? ⟨w.heap.size+1,5,none⟩=some (.int .i64 0):=(h.cell (p:=⟨w.heap.size+1,5,none⟩) (by simp)).trans (by go_simp)
 have K:∀q,j.frozen? ⟨w.heap.size+1,q,none⟩=false:=λ q=>(h.frozen (p:=⟨w.heap.size+1,q,none⟩) (by simp)).trans (by go_simp)
 have u:Hid (Below w.heap.size w j):=(aJ.alloc (by simp) _).trans (h.mono (by simp;omega))
 clear h;generalize C:(List.range 64).find? (gW op)=o;have y:=(show Hid _ from C)
 clear C
 cases o with
 | none=>
  unfold eW gV gX;go_wp2;refine zp (v:=eW none) (by simp[results,results135,go_sem,D,E,F,G,H,I,eW,gV,gX]) rfl ⟨by rw[y.out],oz u.out _ _ _ _ _ _⟩
 | some k=>
  unfold eW dE bO;go_wp2;refine zp (v:=eW (some k)) (by simp[results,results135,go_sem,D,E,F,G,H,I,eW,dE,bO]) rfl ⟨by rw[y.out],oz u.out _ _ _ _ _ _⟩
def ud (kd) (j:nG kd) (w):
    Calls prog 59 #[.int .i64 (fN kd)] w λ e w'=>∃h,e=.returned (.agg (cT kd h).toArray)/\yT w.heap.size (bZ kd) h w'/\Below w.heap.size w w':=by
 rcases j with rfl|rfl|rfl|rfl|rfl|rfl|rfl|rfl|rfl|rfl
 .have:fN 82=0:=rfl
  rw[this];clear this;go_in;go_wp2;refine zp (v:=.agg (cT 82 (.slice none 0 0)).toArray) (by simp[results,results59,go_sem,cT,has,dZ,most,jH,dL,fX]) rfl ⟨_,rfl,CC _ _,aJ⟩
 .have:fN 73=1:=rfl
  rw[this];clear this;go_in;go_wp2;refine zp (v:=.agg (cT 73 (.slice (some ⟨w.heap.size+1,0,none⟩) 1 1)).toArray) (by simp[results,results59,go_sem,cT,has,dZ,most,jH,dL,fX]) rfl ⟨_,rfl,by have:=od w.heap.size (bZ 73) (w.alloc (.cells (cT 73 (.slice (some ⟨w.heap.size+1,0,none⟩) 1 1)).toArray 105)) 175 1 zn (by simp);rw[za]at this;exact this,aJ.alloc (by simp) _⟩
 .have:fN 76=4:=rfl
  rw[this];clear this;go_in;go_wp2;refine zp (v:=.agg (cT 76 (.slice (some ⟨w.heap.size+1,0,none⟩) 1 1)).toArray) (by simp[results,results59,go_sem,cT,has,dZ,most,jH,dL,fX]) rfl ⟨_,rfl,by have:=od w.heap.size (bZ 76) (w.alloc (.cells (cT 76 (.slice (some ⟨w.heap.size+1,0,none⟩) 1 1)).toArray 105)) 175 1 zn (by simp);rw[za]at this;exact this,aJ.alloc (by simp) _⟩
 .have:fN 72=2:=rfl
  rw[this];clear this;go_in;go_wp2;refine zp (v:=.agg (cT 72 (.slice (some ⟨w.heap.size+1,0,none⟩) 1 1)).toArray) (by simp[results,results59,go_sem,cT,has,dZ,most,jH,dL,fX]) rfl ⟨_,rfl,by have:=od w.heap.size (bZ 72) (w.alloc (.cells (cT 72 (.slice (some ⟨w.heap.size+1,0,none⟩) 1 1)).toArray 105)) 175 1 zn (by simp);rw[za]at this;exact this,aJ.alloc (by simp) _⟩
 .have:fN 87=3:=rfl
  rw[this];clear this;go_in;go_wp2;refine zp (v:=.agg (cT 87 (.slice (some ⟨w.heap.size+1,0,none⟩) 1 1)).toArray) (by simp[results,results59,go_sem,cT,has,dZ,most,jH,dL,fX]) rfl ⟨_,rfl,by have:=od w.heap.size (bZ 87) (w.alloc (.cells (cT 87 (.slice (some ⟨w.heap.size+1,0,none⟩) 1 1)).toArray 105)) 175 1 zn (by simp);rw[za]at this;exact this,aJ.alloc (by simp) _⟩
 .have:fN 83=5:=rfl
  rw[this];clear this;go_in;go_wp2;refine zp (v:=.agg (cT 83 (.slice (some ⟨w.heap.size+1,0,none⟩) 2 2)).toArray) (by simp[results,results59,go_sem,cT,has,dZ,most,jH,dL,fX]) rfl ⟨_,rfl,by have:=od w.heap.size (bZ 83) (w.alloc (.cells (cT 83 (.slice (some ⟨w.heap.size+1,0,none⟩) 2 2)).toArray 105)) 175 2 zn (by simp);rw[za]at this;exact this,aJ.alloc (by simp) _⟩
 .have:fN 66=6:=rfl
  rw[this];clear this;go_in;go_wp2;refine zp (v:=.agg (cT 66 (.slice (some ⟨w.heap.size+1,0,none⟩) 4 4)).toArray) (by simp[results,results59,go_sem,cT,has,dZ,most,jH,dL,fX]) rfl ⟨_,rfl,by have:=od w.heap.size (bZ 66) (w.alloc (.cells (cT 66 (.slice (some ⟨w.heap.size+1,0,none⟩) 4 4)).toArray 105)) 175 4 zn (by simp);rw[za]at this;exact this,aJ.alloc (by simp) _⟩
 .have:fN 85=7:=rfl
  rw[this];clear this;go_in;go_wp2;refine zp (v:=.agg (cT 85 (.slice (some ⟨w.heap.size+1,0,none⟩) 1 1)).toArray) (by simp[results,results59,go_sem,cT,has,dZ,most,jH,dL,fX]) rfl ⟨_,rfl,by have:=od w.heap.size (bZ 85) (w.alloc (.cells (cT 85 (.slice (some ⟨w.heap.size+1,0,none⟩) 1 1)).toArray 105)) 175 1 zn (by simp);rw[za]at this;exact this,aJ.alloc (by simp) _⟩
 .have:fN 74=8:=rfl
  rw[this];clear this;go_in;go_wp2;refine zp (v:=.agg (cT 74 (.slice (some ⟨w.heap.size+1,0,none⟩) 4 4)).toArray) (by simp[results,results59,go_sem,cT,has,dZ,most,jH,dL,fX]) rfl ⟨_,rfl,by have:=od w.heap.size (bZ 74) (w.alloc (.cells (cT 74 (.slice (some ⟨w.heap.size+1,0,none⟩) 4 4)).toArray 105)) 175 4 zn (by simp);rw[za]at this;exact this,aJ.alloc (by simp) _⟩
 have:fN 78=9:=rfl;rw[this];clear this;go_in;go_wp2;refine zp (v:=.agg (cT 78 (.slice none 0 0)).toArray) (by simp[results,results59,go_sem,cT,has,dZ,most,jH,dL,fX]) rfl ⟨_,rfl,CC _ _,aJ⟩
def Kb (a b c ev) (lo hi g fx n) (ao) (ln cp) (w):
    Calls prog 111 #[.agg #[.bool a,.bool b,.bool c,.int .i64 lo,.int .i64 hi,.bool ev,.slice ao ln cp,.int .i64 g,.int .i64 fx],.int .i64 n] w λ e w'=>
     e=.returned (.bool (tk ev lo hi n))/\Below w.heap.size w w':=by
 cases ev
 all_goals
  go_in;go_wp2_with fail
  all_goals
   go_ret;refine ⟨iZ (congrArg Value.bool ?_),aJ⟩;unfold tk
   first
   | (rw[decide_eq_true (p:=lo<=n) (by omega)];simp[*])
   | (rw[decide_eq_false (p:=lo<=n) (by omega)];simp)
   | simp[*]
def BD (op kd opc f g lo hi gat fx) (nm) (a b c ev) (ao) (ln cp) (w) (u:0<=gat) (v:gat<=40) (f0:0<=f) (f1:f<=7) (j:0<=g) (q:g<=127):
    Calls prog 60 #[.agg #[.int .i64 op,.string nm,.int .i64 kd,.int .i64 opc,.int .i64 f,.int .i64 g],.agg #[.bool a,.bool b,.bool c,.int .i64 lo,.int .i64 hi,.bool ev,.slice ao ln cp,.int .i64 gat,.int .i64 fx]] w λ e w'=>
     e=.returned (.int .i64 (je opc f g (2^gat.toNat)))/\Below w.heap.size w w':=by
 go_in;go_wp2_with fail;go_quiet (fail);go_wp2;go_ret;refine ⟨fZ ?_,below_drewN (aJ.alloc (by simp) _) _⟩
 have C:=pow_pos gat.toNat;have h:(2:Int)^gat.toNat<=2^40:=gU (by omega)
 have y:0<=g*2^gat.toNat:=Int.mul_nonneg j (by omega)
 have A:g*2^gat.toNat<=127*2^40:=Int.mul_le_mul q h (by omega) (by decide)
 rw[o3 (g*2^gat.toNat) (by omega)]
 rfl
