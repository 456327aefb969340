import Derived.Test.YtbmcofdodfcnnaaGreatDoorGK
import Derived.Test.YtbmcofdodfcnnaaGreatDoorGP
import Derived.Test.YtbmcofdodfcnnaaGreatDoorGW
set_option linter.all false
set_option maxHeartbeats 400000000
set_option maxRecDepth 100000
namespace Go.Proofs.YtbmcofdodfcnnaaGreatDoor
open Pn
open Go.Proofs.Tryz
open Go.RowKit
theorem a8i (w:World):
    Calls prog 128 #[] w fun e w'=>e=.returned (.agg (b56 0 28))/\w'=w.alloc (.cells (b56 0 28) 180):=
 a5s (n:=29) (s:=0) (y:=29) (Z:=c9V 28) (m:=28) (e:=100) func128 rfl (by kernel_rfl) rfl rfl rfl rfl rfl (by kernel_rfl) (by kernel_rfl) (by kernel_rfl) (by kernel_rfl) (by kernel_rfl)
theorem b2d (w:World):
    Calls prog 129 #[] w fun e w'=>e=.returned (.agg (b56 28 36))/\w'=w.alloc (.cells (b56 28 36) 182):=
 a5s (n:=37) (s:=0) (y:=37) (Z:=c9V 36) (m:=36) (e:=100) func129 rfl (by kernel_rfl) rfl rfl rfl rfl rfl (by kernel_rfl) (by kernel_rfl) (by kernel_rfl) (by kernel_rfl) (by kernel_rfl)
theorem w64 (n:Int) (h:-9223372036854775808<=n/\n<=9223372036854775807):wrap64 n=n:=by unfold wrap64;omega
theorem a3m (n low width:Int) (w:World) (l0:0<=low) (l1:low<=40) (w0:1<=width) (w1:width<=32):
    Calls prog 112 #[.int .i64 n,.int .i64 low,.int .i64 width] w fun e w'=>e=.returned (.int .i64 (a0c n (low+width-1) low))/\∃k,w'=w.drewN k:=by
 go_enter func112,ntmps112;go_wp2_with fail;go_quiet (fail);go_wp2_with fail;go_ret;refine ⟨a0P ?_,nq,rfl⟩;have p0:=Pn.pow_pos width.toNat;have p1:=a7D (show width.toNat<=62 by omega)
 have e1:wrap64 (2^width.toNat)=2^width.toNat:=w64 _ (by omega)
 rw[e1];have e2:wrap64 (2^width.toNat-1)=2^width.toNat-1:=w64 _ (by omega)
 rw[e2];have e3:=a8I (n/2^low.toNat) width.toNat (by omega)
 unfold a5E at e3;rw[e3];unfold a0c Pn.bits;have e4:(low+width-1).toNat-low.toNat+1=width.toNat:=by omega
 rw[e4]
theorem a7a (n:Int) (t:Bool) (w:World):
    Calls prog 110 #[.int .i64 n,.bool t] w fun e w'=>e=.returned (.bool (a0e t n))/\w'=w:=by
 cases t
 ·go_enter func110,ntmps110
  go_wp2;go_ret;exact ⟨rfl,rfl⟩
 ·go_enter func110,ntmps110
  go_wp2
  all_goals
   go_ret;refine ⟨a1r ?_,rfl⟩;unfold a0e a0j
   first
   | (rw[decide_eq_true (p:=0<=n) (by omega)];rfl)
   | (rw[decide_eq_false (p:=0<=n) (by omega)];rfl)
def a1e (o:Option Nat):Value:=.tuple #[(match o with|some k=>a3y k|none=>a0U),.bool o.isSome]
theorem b1V (T:TypeId) (n k f:Nat) (w:World) (hk:k<n) (hu:prog.underlying T=some (.array n 100)):
    (Instr.index T (.agg (b56 f n)) (.int .i64 (k:Int))).run prog w=.ok (.agg (a3a (f+k)).toArray) w:=by
 have hx:=c2d f n k hk;simp[Instr.index,asIntOf,underlying,hu,part,hx,go_sem];intro h;omega
def ZR (w wr:World):Prop:=Below w.heap.size w wr/\w.heap.size<wr.heap.size/\wr.cell? ⟨w.heap.size,0,none⟩=some (.int .i64 0)/\wr.cell? ⟨w.heap.size,1,none⟩=some (.string ⟨#[]⟩)/\
 wr.cell? ⟨w.heap.size,2,none⟩=some (.int .i64 0)/\wr.cell? ⟨w.heap.size,3,none⟩=some (.int .i64 0)/\wr.cell? ⟨w.heap.size,4,none⟩=some (.int .i64 0)/\wr.cell? ⟨w.heap.size,5,none⟩=some (.int .i64 0)/\(∀q,wr.frozen? ⟨w.heap.size,q,none⟩=false)
theorem ZR.step {w wr wr':World} (h:ZR w wr) (hB:Below wr.heap.size wr wr'):ZR w wr':=by
 obtain ⟨h0,hz,h1,h2,h3,h4,h5,h6,hf⟩:=h
 exact ⟨h0.trans (hB.mono (by omega)),by have:=hB.size;omega,(hB.cell (p:=⟨w.heap.size,0,none⟩) hz).trans h1,(hB.cell (p:=⟨w.heap.size,1,none⟩) hz).trans h2,(hB.cell (p:=⟨w.heap.size,2,none⟩) hz).trans h3,
  (hB.cell (p:=⟨w.heap.size,3,none⟩) hz).trans h4,(hB.cell (p:=⟨w.heap.size,4,none⟩) hz).trans h5,(hB.cell (p:=⟨w.heap.size,5,none⟩) hz).trans h6,fun q=>(hB.frozen (p:=⟨w.heap.size,q,none⟩) hz).trans (hf q)⟩
theorem ZR.begin (w:World) (t:TypeId):ZR w (w.alloc (.cells #[.int .i64 0,.string ⟨#[]⟩,.int .i64 0,.int .i64 0,.int .i64 0,.int .i64 0] t)):=
 ⟨(Below.refl _ _).alloc (Nat.le_refl _) _,by simp,by go_simp,by go_simp,by go_simp,by go_simp,by go_simp,by go_simp,fun q=>by go_simp⟩
def c9R (p:Nat->Bool) (w:World) (lo n:Nat) (i:Value) (wr:World):Prop:=
 ∃j:Nat,j<=n/\i=.int .i64 j/\Hid (∀j',j'<lo+j->p j'=false)/\ZR w wr
theorem b11 {w wr w2:World} (h:ZR w wr) {a b c d e f:Value} {t:Nat} (hB:Below (wr.alloc (.cells #[a,b,c,d,e,f] t)).heap.size (wr.alloc (.cells #[a,b,c,d,e,f] t)) w2):
    ZR w w2/\w2.cell? ⟨wr.heap.size,0,none⟩=some a/\w2.cell? ⟨wr.heap.size,1,none⟩=some b/\w2.cell? ⟨wr.heap.size,2,none⟩=some c/\w2.cell? ⟨wr.heap.size,3,none⟩=some d/\w2.cell? ⟨wr.heap.size,4,none⟩=some e/\w2.cell? ⟨wr.heap.size,5,none⟩=some f:=by
 refine ⟨(h.step ((Below.refl _ _).alloc (Nat.le_refl _) _)).step hB,(hB.cell (p:=⟨wr.heap.size,0,none⟩) (by simp)).trans (by go_simp),(hB.cell (p:=⟨wr.heap.size,1,none⟩) (by simp)).trans (by go_simp),(hB.cell (p:=⟨wr.heap.size,2,none⟩) (by simp)).trans (by go_simp),
  (hB.cell (p:=⟨wr.heap.size,3,none⟩) (by simp)).trans (by go_simp),(hB.cell (p:=⟨wr.heap.size,4,none⟩) (by simp)).trans (by go_simp),(hB.cell (p:=⟨wr.heap.size,5,none⟩) (by simp)).trans (by go_simp)⟩
theorem b8F {w w3:World} (h:Below w.heap.size w w3) (a b c d e f:Value):
    Below w.heap.size w ((((((w3.setCell ⟨w.heap.size,0,none⟩ a).setCell ⟨w.heap.size,1,none⟩ b).setCell ⟨w.heap.size,2,none⟩ c).setCell ⟨w.heap.size,3,none⟩ d).setCell ⟨w.heap.size,4,none⟩ e).setCell ⟨w.heap.size,5,none⟩ f):=
 (((((h.setCell (Nat.le_refl _) _).setCell (Nat.le_refl _) _).setCell (Nat.le_refl _) _).setCell (Nat.le_refl _) _).setCell (Nat.le_refl _) _).setCell (Nat.le_refl _) _
theorem b38 {p:Nat->Bool} {k:Nat} (hk:k<64) (h:∀j,j<k->p j=false) (hp:p k=true):a1e ((List.range 64).find? p)=a1e (some k):=by rw[a2u p 64 k hk h hp]
theorem c3U {p:Nat->Bool} (h:∀j,j<64->p j=false):a1e ((List.range 64).find? p)=a1e none:=by rw[a1I p 64 h]
theorem b0A {p:Nat->Bool} {k:Nat} (h:∀j,j<k->p j=false) (hp:p k=false):∀j,j<k+1->p j=false:=fun j hj=>by
 by_cases e:j=k
 ·rw[e];exact hp
 ·exact h j (by omega)
theorem b2G (F:FuncId) (cap:Value) (p:Nat->Bool) (w:World) (hcf:∀args w',(callFunc F args).run prog w'=.ok (.enter F args) w')
    (hc:∀k,k<64->∀w1,Below w.heap.size w w1->Calls prog F #[.agg (a3a k).toArray,cap] w1 fun e w'=>e=.returned (.bool (p k))/\Below w1.heap.size w1 w'):
    Calls prog 67 #[.func (.func F) #[] #[cap]] w fun e w'=>e=.returned (a1e ((List.range 64).find? p))/\Below w.heap.size w w':=by
 have HC:=(show Hid _ from hc)
 clear hc;go_enter func67,ntmps67;go_wp2_with fail;refine (a8i _).mono ?_;rintro e w1 ⟨rfl,rfl⟩
 have hix0:Hid (∀(k:Nat) (w':World),k<28->(Instr.index 180 (.agg (b56 0 28)) (.int .i64 (k:Int))).run prog w'=.ok (.agg (a3a k).toArray) w'):=fun k w' hk=>by
  have:=b1V 180 28 k 0 w' hk (by kernel_rfl)
  rw[Nat.zero_add]at this;exact this
 generalize b56 0 28=C1 at hix0 ⊢;go_wp2_with fail;go_loopw [9] (fun i wr=>c9R p w 0 28 i wr) (fun i _=>28-(intOf i).toNat)
 case atStart=>exact ⟨0,by omega,rfl,fun _ h=>by omega,(ZR.begin w _).step ((Below.refl _ _).alloc (Nat.le_refl _) _)⟩
 case round=>
  obtain ⟨k,hk,rfl,hno,hZ⟩:=hrel;have HZ:=(show Hid _ from hZ)
  obtain ⟨_,hz,y0,y1,y2,y3,y4,y5,yf⟩:=hZ;by_cases hlt:k<28
  ·have hlt2:(k:Int)<28:=by omega
   (have hix:∀w',(Instr.index 180 (.agg C1) (.int .i64 (k:Int))).run prog w'=.ok (.agg #[.int .i64 ((0+k:Nat)+1),.string ⟨(Pn.row (0+k)).name.toArray⟩,.int .i64 (Pn.kdI (Pn.row (0+k)).kind),.int .i64 (Pn.row (0+k)).opc,.int .i64 (Pn.row (0+k)).f,.int .i64 (Pn.row (0+k)).g]) w':=fun w'=>by have:=hix0.out k w' hlt;rw[Nat.zero_add];exact this);generalize hKK:0+k=K at hix;(have hK64:K<64:=by omega);(have HKK:=(show Hid _ from hKK));(have HNO':Hid (∀j,j<K->p j=false):=fun j hj=>hno.out j (by omega));clear hKK y0 y1 y2 y3 y4 y5 yf;go_wp2_with fail;(refine (HC.out K hK64 _ (HZ.out.1.alloc (by have:=HZ.out.2.1;omega) _)).mono ?_);rintro e w2 ⟨rfl,hB2⟩;obtain ⟨hZ2,x0,x1,x2,x3,x4,x5⟩:=b11 HZ.out hB2;(have HZ2:=(show Hid _ from hZ2));obtain ⟨_,hz2,y0,y1,y2,y3,y4,y5,yf⟩:=hZ2;(have hzr:wr.heap.size<w2.heap.size:=by have:=hB2.size;simp at this;omega);(have hne:(w.heap.size==wr.heap.size)=false:=by simp;omega);(have hne2:¬w.heap.size=wr.heap.size:=by omega);clear hB2 hix;by_cases hp:p K=true
   ·rw[hp]
    (have HD:=(show Hid _ from b38 hK64 HNO'.out hp));clear hno hp;go_wp2_with fail;refine bodyPost_ret (v:=a1e (some K)) (by simp[results,results67,go_sem,y0,y1,y2,y3,y4,y5,a1e,a3y,a3a]) rfl ⟨by rw[HD.out],b8F HZ2.out.1 _ _ _ _ _ _⟩
   ·have hp':p K=false:=by simpa using hp
    rw[hp'];(have HN2:=(show Hid _ from b0A HNO'.out hp'));clear hp hp' hno;go_wp2_with fail;go_roundw;(case rel=>exact ⟨k+1,by omega,by go_num,fun j hj=>HN2.out j (by have:=HKK.out;omega),HZ2.out⟩);case measure=>simp[intOf];omega
  ·have hk28:k=28:=by omega
   subst hk28;(have HNO:=(show Hid (∀j,j<28->p j=false) from fun j hj=>hno.out j (by omega)));have HZ1:=HZ;clear hno HZ;go_wp2_with fail;refine (b2d _).mono ?_;rintro e w1 ⟨rfl,rfl⟩
   have hix1:Hid (∀(k:Nat) (w':World),k<36->(Instr.index 182 (.agg (b56 28 36)) (.int .i64 (k:Int))).run prog w'=.ok (.agg (a3a (28+k)).toArray) w'):=fun k w' hk=>
    b1V 182 36 k 28 w' hk (by kernel_rfl)
   generalize b56 28 36=C2 at hix1 ⊢;go_wp2_with fail;(go_loopw [18] (fun i wr=>c9R p w 28 36 i wr) (fun i _=>36-(intOf i).toNat));case atStart=>exact ⟨0,by omega,rfl,fun j h=>HNO.out j (by omega),ZR.step HZ1.out ((Below.refl _ _).alloc (Nat.le_refl _) _)⟩
   case round=>
    obtain ⟨k,hk,rfl,hno,hZ⟩:=hrel;(have HZ:=(show Hid _ from hZ));obtain ⟨_,hz,y0,y1,y2,y3,y4,y5,yf⟩:=hZ;by_cases hlt:k<36
    ·have hlt2:(k:Int)<36:=by omega
     (have hix:∀w',(Instr.index 182 (.agg C2) (.int .i64 (k:Int))).run prog w'=.ok (.agg #[.int .i64 ((28+k:Nat)+1),.string ⟨(Pn.row (28+k)).name.toArray⟩,.int .i64 (Pn.kdI (Pn.row (28+k)).kind),.int .i64 (Pn.row (28+k)).opc,.int .i64 (Pn.row (28+k)).f,.int .i64 (Pn.row (28+k)).g]) w':=fun w'=>hix1.out k w' hlt);generalize hKK:28+k=K at hix;(have hK64:K<64:=by omega);(have HKK:=(show Hid _ from hKK));(have HNO':Hid (∀j,j<K->p j=false):=fun j hj=>hno.out j (by omega));clear hKK y0 y1 y2 y3 y4 y5 yf;go_wp2_with fail;(refine (HC.out K hK64 _ (HZ.out.1.alloc (by have:=HZ.out.2.1;omega) _)).mono ?_);rintro e w2 ⟨rfl,hB2⟩;obtain ⟨hZ2,x0,x1,x2,x3,x4,x5⟩:=b11 HZ.out hB2;(have HZ2:=(show Hid _ from hZ2));obtain ⟨_,hz2,y0,y1,y2,y3,y4,y5,yf⟩:=hZ2;(have hzr:wr.heap.size<w2.heap.size:=by have:=hB2.size;simp at this;omega);(have hne:(w.heap.size==wr.heap.size)=false:=by simp;omega);(have hne2:¬w.heap.size=wr.heap.size:=by omega);clear hB2 hix;by_cases hp:p K=true
     ·rw[hp]
      (have HD:=(show Hid _ from b38 hK64 HNO'.out hp));clear hno hp;go_wp2_with fail;refine bodyPost_ret (v:=a1e (some K)) (by simp[results,results67,go_sem,y0,y1,y2,y3,y4,y5,a1e,a3y,a3a]) rfl ⟨by rw[HD.out],b8F HZ2.out.1 _ _ _ _ _ _⟩
     ·have hp':p K=false:=by simpa using hp
      rw[hp'];(have HN2:=(show Hid _ from b0A HNO'.out hp'));clear hp hp' hno;go_wp2_with fail;go_roundw;(case rel=>exact ⟨k+1,by omega,by go_num,fun j hj=>HN2.out j (by have:=HKK.out;omega),HZ2.out⟩);case measure=>simp[intOf];omega
    ·have hk36:k=36:=by omega
     subst hk36;(have HD:=(show Hid _ from c3U (fun j hj=>hno.out j (by omega))));clear hno;go_wp2_with fail;refine bodyPost_ret (v:=a1e none) (by simp[results,results67,go_sem,y0,y1,y2,y3,y4,y5,a1e,a0U,a1P]) rfl ⟨by rw[HD.out],b8F HZ.out.1 _ _ _ _ _ _⟩
theorem c39 (k b:Nat) (op:Int) (w:World) (hb:b<w.heap.size) (hc:w.cell? ⟨b,0,none⟩=some (.int .i64 op)):
    Calls prog 180 #[.agg (a3a k).toArray,.pointer (some ⟨b,0,none⟩)] w fun e w'=>e=.returned (.bool (c0c op k))/\Below w.heap.size w w':=by
 unfold a3a;go_enter func180,ntmps180;go_wp2_with fail;go_ret;exact ⟨rfl,(Below.refl _ _).alloc (Nat.le_refl _) _⟩
theorem b8z (k b:Nat) (nm:ByteArray) (w:World) (hb:b<w.heap.size) (hc:w.cell? ⟨b,0,none⟩=some (.string nm)):
    Calls prog 188 #[.agg (a3a k).toArray,.pointer (some ⟨b,0,none⟩)] w fun e w'=>e=.returned (.bool (a1v nm k))/\Below w.heap.size w w':=by
 unfold a3a;go_enter func188,ntmps188;go_wp2_with fail;go_ret;exact ⟨rfl,(Below.refl _ _).alloc (Nat.le_refl _) _⟩
theorem a4S {w w3:World} {b:Nat} (h:Below w.heap.size w w3) (x0 x1 x2 x3 x4 x5:Value):
    Below w.heap.size w ((((((w3.setCell ⟨w.heap.size+b,0,none⟩ x0).setCell ⟨w.heap.size+b,1,none⟩ x1).setCell ⟨w.heap.size+b,2,none⟩ x2).setCell ⟨w.heap.size+b,3,none⟩ x3).setCell ⟨w.heap.size+b,4,none⟩ x4).setCell ⟨w.heap.size+b,5,none⟩ x5):=
 (((((h.setCell (by simp) _).setCell (by simp) _).setCell (by simp) _).setCell (by simp) _).setCell (by simp) _).setCell (by simp) _
theorem a8f (op:Int) (w:World):
    Calls prog 109 #[.int .i64 op] w fun e w'=>e=.returned (a1e ((List.range 64).find? (c0c op)))/\Below w.heap.size w w':=by
 go_enter func109,ntmps109;go_wp2_with fail;refine (b2G 180 _ (c0c op) _ Tryz.call180 (fun k _ w1 hB=>c39 k w.heap.size op w1 (by have:=hB.size;simp at this;omega) ((hB.cell (p:=⟨w.heap.size,0,none⟩) (by simp;omega)).trans (by go_simp)))).mono ?_
 rintro e w2 ⟨rfl,hB2⟩;have y0:w2.cell? ⟨w.heap.size+1,0,none⟩=some (.int .i64 0):=(hB2.cell (p:=⟨w.heap.size+1,0,none⟩) (by simp)).trans (by go_simp)
 have y1:w2.cell? ⟨w.heap.size+1,1,none⟩=some (.string ⟨#[]⟩):=(hB2.cell (p:=⟨w.heap.size+1,1,none⟩) (by simp)).trans (by go_simp)
 have y2:w2.cell? ⟨w.heap.size+1,2,none⟩=some (.int .i64 0):=(hB2.cell (p:=⟨w.heap.size+1,2,none⟩) (by simp)).trans (by go_simp)
 have y3:w2.cell? ⟨w.heap.size+1,3,none⟩=some (.int .i64 0):=(hB2.cell (p:=⟨w.heap.size+1,3,none⟩) (by simp)).trans (by go_simp)
 have y4:w2.cell? ⟨w.heap.size+1,4,none⟩=some (.int .i64 0):=(hB2.cell (p:=⟨w.heap.size+1,4,none⟩) (by simp)).trans (by go_simp)
 have y5:w2.cell? ⟨w.heap.size+1,5,none⟩=some (.int .i64 0):=(hB2.cell (p:=⟨w.heap.size+1,5,none⟩) (by simp)).trans (by go_simp)
 have yf:∀q,w2.frozen? ⟨w.heap.size+1,q,none⟩=false:=fun q=>(hB2.frozen (p:=⟨w.heap.size+1,q,none⟩) (by simp)).trans (by go_simp)
 have HB2:Hid (Below w.heap.size w w2):=(((Below.refl _ _).alloc (Nat.le_refl _) _).alloc (by simp) _).trans (hB2.mono (by simp;omega))
 clear hB2;generalize hO:(List.range 64).find? (c0c op)=o;have HO:=(show Hid _ from hO)
 clear hO
 cases o with
 | none=>
  unfold a1e a0U a1P;go_wp2_with fail;refine bodyPost_ret (v:=a1e none) (by simp[results,results109,go_sem,y0,y1,y2,y3,y4,y5,a1e,a0U,a1P]) rfl ⟨by rw[HO.out],a4S HB2.out _ _ _ _ _ _⟩
 | some k=>
  unfold a1e a3y a3a;go_wp2_with fail;refine bodyPost_ret (v:=a1e (some k)) (by simp[results,results109,go_sem,y0,y1,y2,y3,y4,y5,a1e,a3y,a3a]) rfl ⟨by rw[HO.out],a4S HB2.out _ _ _ _ _ _⟩
theorem b0X (op:ByteArray) (w:World):
    Calls prog 135 #[.string op] w fun e w'=>e=.returned (a1e ((List.range 64).find? (a1v op)))/\Below w.heap.size w w':=by
 go_enter func135,ntmps135;go_wp2_with fail;refine (b2G 188 _ (a1v op) _ Tryz.call188 (fun k _ w1 hB=>b8z k w.heap.size op w1 (by have:=hB.size;simp at this;omega) ((hB.cell (p:=⟨w.heap.size,0,none⟩) (by simp;omega)).trans (by go_simp)))).mono ?_
 rintro e w2 ⟨rfl,hB2⟩;have y0:w2.cell? ⟨w.heap.size+1,0,none⟩=some (.int .i64 0):=(hB2.cell (p:=⟨w.heap.size+1,0,none⟩) (by simp)).trans (by go_simp)
 have y1:w2.cell? ⟨w.heap.size+1,1,none⟩=some (.string ⟨#[]⟩):=(hB2.cell (p:=⟨w.heap.size+1,1,none⟩) (by simp)).trans (by go_simp)
 have y2:w2.cell? ⟨w.heap.size+1,2,none⟩=some (.int .i64 0):=(hB2.cell (p:=⟨w.heap.size+1,2,none⟩) (by simp)).trans (by go_simp)
 have y3:w2.cell? ⟨w.heap.size+1,3,none⟩=some (.int .i64 0):=(hB2.cell (p:=⟨w.heap.size+1,3,none⟩) (by simp)).trans (by go_simp)
 have y4:w2.cell? ⟨w.heap.size+1,4,none⟩=some (.int .i64 0):=(hB2.cell (p:=⟨w.heap.size+1,4,none⟩) (by simp)).trans (by go_simp)
 have y5:w2.cell? ⟨w.heap.size+1,5,none⟩=some (.int .i64 0):=(hB2.cell (p:=⟨w.heap.size+1,5,none⟩) (by simp)).trans (by go_simp)
 have yf:∀q,w2.frozen? ⟨w.heap.size+1,q,none⟩=false:=fun q=>(hB2.frozen (p:=⟨w.heap.size+1,q,none⟩) (by simp)).trans (by go_simp)
 have HB2:Hid (Below w.heap.size w w2):=(((Below.refl _ _).alloc (Nat.le_refl _) _).alloc (by simp) _).trans (hB2.mono (by simp;omega))
 clear hB2;generalize hO:(List.range 64).find? (a1v op)=o;have HO:=(show Hid _ from hO)
 clear hO
 cases o with
 | none=>
  unfold a1e a0U a1P;go_wp2_with fail;refine bodyPost_ret (v:=a1e none) (by simp[results,results135,go_sem,y0,y1,y2,y3,y4,y5,a1e,a0U,a1P]) rfl ⟨by rw[HO.out],a4S HB2.out _ _ _ _ _ _⟩
 | some k=>
  unfold a1e a3y a3a;go_wp2_with fail;refine bodyPost_ret (v:=a1e (some k)) (by simp[results,results135,go_sem,y0,y1,y2,y3,y4,y5,a1e,a3y,a3a]) rfl ⟨by rw[HO.out],a4S HB2.out _ _ _ _ _ _⟩
theorem a32 (kd:Nat) (hk:a4i kd) (w:World):
    Calls prog 59 #[.int .i64 (Pn.kdI kd)] w fun e w'=>∃sl,e=.returned (.agg (a0l kd sl).toArray)/\b0c w.heap.size (a0g kd) sl w'/\Below w.heap.size w w':=by
 rcases hk with rfl|rfl|rfl|rfl|rfl|rfl|rfl|rfl|rfl|rfl
 ·have:Pn.kdI 82=0:=rfl
  rw[this];clear this;go_enter func59,ntmps59;go_wp2_with fail;refine bodyPost_ret (v:=.agg (a0l 82 (.slice none 0 0)).toArray) (by simp[results,results59,go_sem,a0l,Pn.has,Pn.least,Pn.most,a4N,a2G,a6n]) rfl ⟨_,rfl,a9G _ _,(Below.refl _ _).alloc (Nat.le_refl _) _⟩
 ·have:Pn.kdI 73=1:=rfl
  rw[this];clear this;go_enter func59,ntmps59;go_wp2_with fail;refine bodyPost_ret (v:=.agg (a0l 73 (.slice (some ⟨w.heap.size+1,0,none⟩) 1 1)).toArray) (by simp[results,results59,go_sem,a0l,Pn.has,Pn.least,Pn.most,a4N,a2G,a6n]) rfl ⟨_,rfl,by have:=a14 w.heap.size (a0g 73) (w.alloc (.cells (a0l 73 (.slice (some ⟨w.heap.size+1,0,none⟩) 1 1)).toArray 105)) 175 1 (Nat.le_refl _) (by simp);rw[World.size_alloc]at this;exact this,((Below.refl _ _).alloc (Nat.le_refl _) _).alloc (by simp) _⟩
 ·have:Pn.kdI 76=4:=rfl
  rw[this];clear this;go_enter func59,ntmps59;go_wp2_with fail;refine bodyPost_ret (v:=.agg (a0l 76 (.slice (some ⟨w.heap.size+1,0,none⟩) 1 1)).toArray) (by simp[results,results59,go_sem,a0l,Pn.has,Pn.least,Pn.most,a4N,a2G,a6n]) rfl ⟨_,rfl,by have:=a14 w.heap.size (a0g 76) (w.alloc (.cells (a0l 76 (.slice (some ⟨w.heap.size+1,0,none⟩) 1 1)).toArray 105)) 175 1 (Nat.le_refl _) (by simp);rw[World.size_alloc]at this;exact this,((Below.refl _ _).alloc (Nat.le_refl _) _).alloc (by simp) _⟩
 ·have:Pn.kdI 72=2:=rfl
  rw[this];clear this;go_enter func59,ntmps59;go_wp2_with fail;refine bodyPost_ret (v:=.agg (a0l 72 (.slice (some ⟨w.heap.size+1,0,none⟩) 1 1)).toArray) (by simp[results,results59,go_sem,a0l,Pn.has,Pn.least,Pn.most,a4N,a2G,a6n]) rfl ⟨_,rfl,by have:=a14 w.heap.size (a0g 72) (w.alloc (.cells (a0l 72 (.slice (some ⟨w.heap.size+1,0,none⟩) 1 1)).toArray 105)) 175 1 (Nat.le_refl _) (by simp);rw[World.size_alloc]at this;exact this,((Below.refl _ _).alloc (Nat.le_refl _) _).alloc (by simp) _⟩
 ·have:Pn.kdI 87=3:=rfl
  rw[this];clear this;go_enter func59,ntmps59;go_wp2_with fail;refine bodyPost_ret (v:=.agg (a0l 87 (.slice (some ⟨w.heap.size+1,0,none⟩) 1 1)).toArray) (by simp[results,results59,go_sem,a0l,Pn.has,Pn.least,Pn.most,a4N,a2G,a6n]) rfl ⟨_,rfl,by have:=a14 w.heap.size (a0g 87) (w.alloc (.cells (a0l 87 (.slice (some ⟨w.heap.size+1,0,none⟩) 1 1)).toArray 105)) 175 1 (Nat.le_refl _) (by simp);rw[World.size_alloc]at this;exact this,((Below.refl _ _).alloc (Nat.le_refl _) _).alloc (by simp) _⟩
 ·have:Pn.kdI 83=5:=rfl
  rw[this];clear this;go_enter func59,ntmps59;go_wp2_with fail;refine bodyPost_ret (v:=.agg (a0l 83 (.slice (some ⟨w.heap.size+1,0,none⟩) 2 2)).toArray) (by simp[results,results59,go_sem,a0l,Pn.has,Pn.least,Pn.most,a4N,a2G,a6n]) rfl ⟨_,rfl,by have:=a14 w.heap.size (a0g 83) (w.alloc (.cells (a0l 83 (.slice (some ⟨w.heap.size+1,0,none⟩) 2 2)).toArray 105)) 175 2 (Nat.le_refl _) (by simp);rw[World.size_alloc]at this;exact this,((Below.refl _ _).alloc (Nat.le_refl _) _).alloc (by simp) _⟩
 ·have:Pn.kdI 66=6:=rfl
  rw[this];clear this;go_enter func59,ntmps59;go_wp2_with fail;refine bodyPost_ret (v:=.agg (a0l 66 (.slice (some ⟨w.heap.size+1,0,none⟩) 4 4)).toArray) (by simp[results,results59,go_sem,a0l,Pn.has,Pn.least,Pn.most,a4N,a2G,a6n]) rfl ⟨_,rfl,by have:=a14 w.heap.size (a0g 66) (w.alloc (.cells (a0l 66 (.slice (some ⟨w.heap.size+1,0,none⟩) 4 4)).toArray 105)) 175 4 (Nat.le_refl _) (by simp);rw[World.size_alloc]at this;exact this,((Below.refl _ _).alloc (Nat.le_refl _) _).alloc (by simp) _⟩
 ·have:Pn.kdI 85=7:=rfl
  rw[this];clear this;go_enter func59,ntmps59;go_wp2_with fail;refine bodyPost_ret (v:=.agg (a0l 85 (.slice (some ⟨w.heap.size+1,0,none⟩) 1 1)).toArray) (by simp[results,results59,go_sem,a0l,Pn.has,Pn.least,Pn.most,a4N,a2G,a6n]) rfl ⟨_,rfl,by have:=a14 w.heap.size (a0g 85) (w.alloc (.cells (a0l 85 (.slice (some ⟨w.heap.size+1,0,none⟩) 1 1)).toArray 105)) 175 1 (Nat.le_refl _) (by simp);rw[World.size_alloc]at this;exact this,((Below.refl _ _).alloc (Nat.le_refl _) _).alloc (by simp) _⟩
 ·have:Pn.kdI 74=8:=rfl
  rw[this];clear this;go_enter func59,ntmps59;go_wp2_with fail;refine bodyPost_ret (v:=.agg (a0l 74 (.slice (some ⟨w.heap.size+1,0,none⟩) 4 4)).toArray) (by simp[results,results59,go_sem,a0l,Pn.has,Pn.least,Pn.most,a4N,a2G,a6n]) rfl ⟨_,rfl,by have:=a14 w.heap.size (a0g 74) (w.alloc (.cells (a0l 74 (.slice (some ⟨w.heap.size+1,0,none⟩) 4 4)).toArray 105)) 175 4 (Nat.le_refl _) (by simp);rw[World.size_alloc]at this;exact this,((Below.refl _ _).alloc (Nat.le_refl _) _).alloc (by simp) _⟩
 ·have:Pn.kdI 78=9:=rfl
  rw[this];clear this;go_enter func59,ntmps59;go_wp2_with fail;refine bodyPost_ret (v:=.agg (a0l 78 (.slice none 0 0)).toArray) (by simp[results,results59,go_sem,a0l,Pn.has,Pn.least,Pn.most,a4N,a2G,a6n]) rfl ⟨_,rfl,a9G _ _,(Below.refl _ _).alloc (Nat.le_refl _) _⟩
theorem b1Q (a b c ev:Bool) (lo hi g fx n:Int) (ao:Option Addr) (ln cp:Nat) (w:World):
    Calls prog 111 #[.agg #[.bool a,.bool b,.bool c,.int .i64 lo,.int .i64 hi,.bool ev,.slice ao ln cp,.int .i64 g,.int .i64 fx],.int .i64 n] w fun e w'=>
     e=.returned (.bool (Pn.tk ev lo hi n))/\Below w.heap.size w w':=by
 cases ev
 all_goals
  go_enter func111,ntmps111;go_wp2_with fail
  all_goals
   go_ret;refine ⟨a1r (congrArg Value.bool ?_),(Below.refl _ _).alloc (Nat.le_refl _) _⟩;unfold Pn.tk
   first
   | (rw[decide_eq_true (p:=lo<=n) (by omega)];simp[*])
   | (rw[decide_eq_false (p:=lo<=n) (by omega)];simp)
   | simp[*]
theorem a5H (op kd opc f g lo hi gat fx:Int) (nm:ByteArray) (a b c ev:Bool) (ao:Option Addr) (ln cp:Nat) (w:World) (g0:0<=gat) (g1:gat<=40) (f0:0<=f) (f1:f<=7) (q0:0<=g) (q1:g<=127):
    Calls prog 60 #[.agg #[.int .i64 op,.string nm,.int .i64 kd,.int .i64 opc,.int .i64 f,.int .i64 g],.agg #[.bool a,.bool b,.bool c,.int .i64 lo,.int .i64 hi,.bool ev,.slice ao ln cp,.int .i64 gat,.int .i64 fx]] w fun e w'=>
     e=.returned (.int .i64 (a6o opc f g (2^gat.toNat)))/\Below w.heap.size w w':=by
 go_enter func60,ntmps60;go_wp2_with fail;go_quiet (fail);go_wp2_with fail;go_ret;refine ⟨a0P ?_,below_drewN (((Below.refl _ _).alloc (Nat.le_refl _) _).alloc (by simp) _) _⟩
 have p0:=Pn.pow_pos gat.toNat;have p1:(2:Int)^gat.toNat<=2^40:=a0M (by omega)
 have m0:0<=g*2^gat.toNat:=Int.mul_nonneg q0 (by omega)
 have m1:g*2^gat.toNat<=127*2^40:=Int.mul_le_mul q1 p1 (by omega) (by decide)
 rw[w64 (g*2^gat.toNat) (by omega)]
 rfl
