import Derived.Test.YtbmcofdodfcnnaaGreatDoorGFA
set_option linter.all false
set_option maxHeartbeats 0
set_option maxRecDepth 100000
namespace Go
open Proofs.Tryz
variable {w0 w w' : World} {b : Nat}
structure rA (f:Fm):Prop extends qa f where
 r1:0<=f.rd/\f.rd<=200
 r2:0<=f.rs1/\f.rs1<=200
 r3:0<=f.rs2/\f.rs2<=200
 h8:f.hold<8
open RowKit
def lS:List Value:=[.int .i64 0,.int .i64 0,.int .i64 0,.int .i64 0,.int .i64 0]
structure RD (w0:World) (f:Fm) (w:World):Prop where
 f:aF w0.heap.size (eN f) w
 r:aF (w0.heap.size+1) lS w
 b:Below w0.heap.size w0 w
def RD.next {f:Fm} (h:RD w0 f w) (j:Below w.heap.size w w'):RD w0 f w':=
 ⟨h.f.next j,h.r.next j,h.b.trans (j.mono h.b.size)⟩
def RD.cells {f:Fm} (h:RD w0 f w):
    w.cell? ⟨w0.heap.size,0,none⟩=some (.string ⟨f.half.toArray⟩)/\w.cell? ⟨w0.heap.size,1,none⟩=some (.string ⟨f.order.toArray⟩)/\w.cell? ⟨w0.heap.size,2,none⟩=some (.bool f.signed)/\w.cell? ⟨w0.heap.size,3,none⟩=some (.int .i64 f.op)/\
    w.cell? ⟨w0.heap.size,4,none⟩=some (.int .i64 f.rd)/\w.cell? ⟨w0.heap.size,5,none⟩=some (.int .i64 f.rs1)/\w.cell? ⟨w0.heap.size,6,none⟩=some (.int .i64 f.rs2)/\w.cell? ⟨w0.heap.size,7,none⟩=some (.func (.func (gr f.hold)) #[] #[]):=
 ⟨h.f.2.2 0 _ rfl,h.f.2.2 1 _ rfl,h.f.2.2 2 _ rfl,h.f.2.2 3 _ rfl,h.f.2.2 4 _ rfl,h.f.2.2 5 _ rfl,h.f.2.2 6 _ rfl,h.f.2.2 7 _ rfl⟩
def RD.alloc {f:Fm} (h:RD w0 f w) (o):RD w0 f (w.alloc o):=h.next aJ
structure ZA (w0:World) (b:Nat) (w:World):Prop where
 z:aF b lS w
 lt:w0.heap.size+1<b
def ZA.new {f:Fm} (h:RD w0 f w) (j:Below (w.alloc (.cells #[.int .i64 0,.int .i64 0,.int .i64 0,.int .i64 0,.int .i64 0] 26)).heap.size (w.alloc (.cells #[.int .i64 0,.int .i64 0,.int .i64 0,.int .i64 0,.int .i64 0] 26)) w'):ZA w0 w.heap.size w':=
 ⟨(aF.new w lS 26).next j,h.r.1⟩
def ZA.next (h:ZA w0 b w) (j:Below w.heap.size w w'):ZA w0 b w':=⟨h.z.next j,h.lt⟩
def ZA.facts (h:ZA w0 b w):w.cell? ⟨b,0,none⟩=some (.int .i64 0)/\w.cell? ⟨b,1,none⟩=some (.int .i64 0)/\w.cell? ⟨b,2,none⟩=some (.int .i64 0)/\w.cell? ⟨b,3,none⟩=some (.int .i64 0)/\w.cell? ⟨b,4,none⟩=some (.int .i64 0)/\(∀q,w.frozen? ⟨b,q,none⟩=false)/\b≠w0.heap.size/\b≠w0.heap.size+1:=
 ⟨h.z.2.2 0 _ rfl,h.z.2.2 1 _ rfl,h.z.2.2 2 _ rfl,h.z.2.2 3 _ rfl,h.z.2.2 4 _ rfl,h.z.2.1,by have:=h.lt;omega,by have:=h.lt;omega⟩
structure jB (w0:World) (f:Fm) (B:Nat) (w:World):Prop where
 d:RD w0 f w
 z:ZA w0 B w
def jB.new {f:Fm} (h:RD w0 f w):jB w0 f w.heap.size (w.alloc (.cells #[.int .i64 0,.int .i64 0,.int .i64 0,.int .i64 0,.int .i64 0] 26)):=
 ⟨h.alloc _,ZA.new h aU⟩
def Ba (w0:World) (f:Fm) (v:Int) (e:Ending) (w':World):Prop:=e=.returned (.int .i64 v)/\RD w0 f w'
def B7 (w0:World) (f:Fm) (B:Nat) (v:Int) (e:Ending) (w':World):Prop:=e=.returned (.int .i64 v)/\jB w0 f B w'/\w'.cell? ⟨B,0,none⟩=some (.int .i64 0)/\w'.cell? ⟨B,1,none⟩=some (.int .i64 0)/\w'.cell? ⟨B,2,none⟩=some (.int .i64 0)/\w'.cell? ⟨B,3,none⟩=some (.int .i64 0)/\w'.cell? ⟨B,4,none⟩=some (.int .i64 0)/\(∀q,w'.frozen? ⟨B,q,none⟩=false)
def Iz {f:Fm} {v:Int} {e:Ending} (h:RD w0 f w) (q:e=.returned (.int .i64 v)) (j:Below w.heap.size w w'):Ba w0 f v e w':=by
 exact ⟨q,h.next j⟩
def Ig {f:Fm} {B:Nat} {v:Int} {e:Ending} (h:jB w0 f B w) (q:e=.returned (.int .i64 v)) (j:Below w.heap.size w w'):B7 w0 f B v e w':=by
 obtain ⟨u,y,A,C,D,E,_,_⟩:=(h.z.next j).facts;exact ⟨q,⟨h.d.next j,h.z.next j⟩,u,y,A,C,D,E⟩
def RD.allocD {f:Fm} (h:RD w0 f w) (o):RD w0 f ((w.alloc o).drew):=(h.alloc o).next (aU.drew)
def jB.newD {f:Fm} (h:RD w0 f w):jB w0 f w.heap.size ((w.alloc (.cells #[.int .i64 0,.int .i64 0,.int .i64 0,.int .i64 0,.int .i64 0] 26)).drew):=
 ⟨h.allocD _,ZA.new h (aU.drew)⟩
def Xz (i:aE):List Value:=[.int .i64 i.op,.int .i64 i.rd,.int .i64 i.rs1,.int .i64 i.rs2,.int .i64 i.imm]
structure RF (w0:World) (f:Fm) (B:Nat) (i:aE) (w:World):Prop where
 f:aF w0.heap.size (eN f) w
 r:aF (w0.heap.size+1) lS w
 z:aF B (Xz i) w
 b:Below w0.heap.size w0 w
 n:w0.heap.size+1<B
def RF.next {f:Fm} {B:Nat} {i:aE} (h:RF w0 f B i w) (j:Below w.heap.size w w'):RF w0 f B i w':=
 ⟨h.f.next j,h.r.next j,h.z.next j,h.b.trans (j.mono h.b.size),h.n⟩
def RF.cells {f:Fm} {B:Nat} {i:aE} (h:RF w0 f B i w):
    w.cell? ⟨w0.heap.size,0,none⟩=some (.string ⟨f.half.toArray⟩)/\w.cell? ⟨w0.heap.size,1,none⟩=some (.string ⟨f.order.toArray⟩)/\w.cell? ⟨w0.heap.size,2,none⟩=some (.bool f.signed)/\w.cell? ⟨w0.heap.size,3,none⟩=some (.int .i64 f.op)/\
    w.cell? ⟨w0.heap.size,4,none⟩=some (.int .i64 f.rd)/\w.cell? ⟨w0.heap.size,5,none⟩=some (.int .i64 f.rs1)/\w.cell? ⟨w0.heap.size,6,none⟩=some (.int .i64 f.rs2)/\w.cell? ⟨w0.heap.size,7,none⟩=some (.func (.func (gr f.hold)) #[] #[]):=
 ⟨h.f.2.2 0 _ rfl,h.f.2.2 1 _ rfl,h.f.2.2 2 _ rfl,h.f.2.2 3 _ rfl,h.f.2.2 4 _ rfl,h.f.2.2 5 _ rfl,h.f.2.2 6 _ rfl,h.f.2.2 7 _ rfl⟩
def mG {j:List Value} (h:aF b j w) (c q) (v) (u:c≠b):aF b j (w.setCell ⟨c,q,none⟩ v):=
 h.kept (aN.setCell c w q v) (λ e=>u e.symm)
def jB.fin {f:Fm} {B:Nat} (h:jB w0 f B w) (a b c d e):
    RF w0 f B ⟨a,b,c,d,e⟩ (((((w.setCell ⟨B,0,none⟩ (.int .i64 a)).setCell ⟨B,1,none⟩ (.int .i64 b)).setCell ⟨B,2,none⟩ (.int .i64 c)).setCell ⟨B,3,none⟩ (.int .i64 d)).setCell ⟨B,4,none⟩ (.int .i64 e)):=by
 have n:=h.z.lt;have q:B≠w0.heap.size:=by omega
 have u:B≠w0.heap.size+1:=by omega
 have j:w0.heap.size<=B:=by omega
 refine ⟨?_,?_,?_,?_,n⟩
 .exact mG (mG (mG (mG (mG h.d.f _ _ _ q) _ _ _ q) _ _ _ q) _ _ _ q) _ _ _ q
 .exact mG (mG (mG (mG (mG h.d.r _ _ _ u) _ _ _ u) _ _ _ u) _ _ _ u) _ _ _ u
 .have:=((((h.z.z.set 0 (.int .i64 a) (by decide)).set 1 (.int .i64 b) (by simp[lS])).set 2 (.int .i64 c) (by simp[lS])).set 3 (.int .i64 d) (by simp[lS])).set 4 (.int .i64 e) (by simp[lS])
  exact this
 exact ((((h.d.b.setCell j _).setCell j _).setCell j _).setCell j _).setCell j _
def RD.fin {f:Fm} (h:RD w0 f w) (a b c d e):
    RF w0 f w.heap.size ⟨a,b,c,d,e⟩ (w.alloc (.cells #[.int .i64 a,.int .i64 b,.int .i64 c,.int .i64 d,.int .i64 e] 26)):=
 ⟨h.f.alloc _,h.r.alloc _,aF.new w [.int .i64 a,.int .i64 b,.int .i64 c,.int .i64 d,.int .i64 e] 26,h.b.alloc h.b.size _,h.r.1⟩
def Vi {f:Fm} (j:rA f) (c n) (u:c=f.rd\/c=f.rs1\/c=f.rs2) (h:RD w0 f w):
    Calls prog 126 #[.agg #[.string ⟨f.half.toArray⟩,.string ⟨f.order.toArray⟩,.bool f.signed,.int .i64 f.op,.int .i64 f.rd,.int .i64 f.rs1,.int .i64 f.rs2,.func (.func (gr f.hold)) #[] #[]],.int .i64 c,.int .i64 n] w λ e w'=>Ba w0 f (jl f.half c n) e w':=by
 have q:0<=c/\c<=200:=by rcases u with rfl|rfl|rfl;exact j.r1;exact j.r2;exact j.r3
 exact (C4 f c n w j.asc j.len q.1 q.2).mono λ _ _ ⟨he,hB⟩=>Iz h he hB
def B1 {f:Fm} {B:Nat} (j:rA f) (c n) (u:c=f.rd\/c=f.rs1\/c=f.rs2) (h:jB w0 f B w):
    Calls prog 126 #[.agg #[.string ⟨f.half.toArray⟩,.string ⟨f.order.toArray⟩,.bool f.signed,.int .i64 f.op,.int .i64 f.rd,.int .i64 f.rs1,.int .i64 f.rs2,.func (.func (gr f.hold)) #[] #[]],.int .i64 c,.int .i64 n] w λ e w'=>B7 w0 f B (jl f.half c n) e w':=by
 have q:0<=c/\c<=200:=by rcases u with rfl|rfl|rfl;exact j.r1;exact j.r2;exact j.r3
 exact (C4 f c n w j.asc j.len q.1 q.2).mono λ _ _ ⟨he,hB⟩=>Ig h he hB
def Wv {f:Fm} (j:rA f) (n) (h:RD w0 f w):
    Calls prog 127 #[.agg #[.string ⟨f.half.toArray⟩,.string ⟨f.order.toArray⟩,.bool f.signed,.int .i64 f.op,.int .i64 f.rd,.int .i64 f.rs1,.int .i64 f.rs2,.func (.func (gr f.hold)) #[] #[]],.int .i64 n] w λ e w'=>Ba w0 f (nc f n) e w':=
 (Hc f n w j.toqa).mono λ _ _ ⟨he,hB⟩=>Iz h he hB
def IF {f:Fm} {B:Nat} (j:rA f) (n) (h:jB w0 f B w):
    Calls prog 127 #[.agg #[.string ⟨f.half.toArray⟩,.string ⟨f.order.toArray⟩,.bool f.signed,.int .i64 f.op,.int .i64 f.rd,.int .i64 f.rs1,.int .i64 f.rs2,.func (.func (gr f.hold)) #[] #[]],.int .i64 n] w λ e w'=>B7 w0 f B (nc f n) e w':=
 (Hc f n w j.toqa).mono λ _ _ ⟨he,hB⟩=>Ig h he hB
def MG (h) (j:h<8) (args) (w):(callFunc (gr h) args).run prog w=.ok (.enter (gr h) args) w:=by
 match h,j with
 | 0,_=>show (callFunc 115 args).run prog w=.ok (.enter 115 args) w;go_simp
 | 1,_=>show (callFunc 117 args).run prog w=.ok (.enter 117 args) w;go_simp
 | 2,_=>show (callFunc 120 args).run prog w=.ok (.enter 120 args) w;go_simp
 | 3,_=>show (callFunc 114 args).run prog w=.ok (.enter 114 args) w;go_simp
 | 4,_=>show (callFunc 121 args).run prog w=.ok (.enter 121 args) w;go_simp
 | 5,_=>show (callFunc 119 args).run prog w=.ok (.enter 119 args) w;go_simp
 | 6,_=>show (callFunc 116 args).run prog w=.ok (.enter 116 args) w;go_simp
 | 7,_=>show (callFunc 118 args).run prog w=.ok (.enter 118 args) w;go_simp
 | k+8,h=>exact absurd h (by omega)
def PH (f:Fm) (n) (w) (E:rA f):
    aG prog 66 #[.agg (eN f).toArray,.int .i64 n] w (.tuple #[(fW f n).1.val,.bool (fW f n).2]):=by
 unfold aG;have j:=aA (λ w'=>OC f n w' E.asc E.len)
 have R:Hid (aF w.heap.size (eN f) (w.alloc (.cells (eN f).toArray 114))):=aA (aF.new w (eN f) 114)
 have u:Hid (RD w f ((w.alloc (.cells (eN f).toArray 114)).alloc (.cells lS.toArray 26))):=aA
  ⟨R.out.alloc _,by have:=aF.new (w.alloc (.cells (eN f).toArray 114)) lS 26;rw[za]at this;exact this,aJ.alloc (by rw[za];omega) _⟩
 clear R;by_cases y:hZ f.half n=true
 .have U:Hid (fW f n=(gS f n,fH f.hold (gS f n))):=aA (by unfold fW;rw[zt y])
  unfold eN at j u ⊢;unfold lS at u;go_in;go_wp2_with fail;refine zK (j.out _) λ w1 D=>?_;rw[y];have q:=u.out.next D;clear D j u;obtain ⟨k0,k1,k2,k3,k4,k5,k6,k7⟩:=q.cells;have ab:=q.r.1;have Y:w1.heap.size≠w.heap.size:=by omega
  have X:w.heap.size≠w1.heap.size:=by omega
  go_wp2_with fail;have aa:RD w f w1.drew:=q.next (aU.drew);rename_i K0 hK0
  have J:∀(B:Nat) (W3:World) (x7 x8 x9 x10 x11 x12 x13 x14 x15 x16 x17 x18 x19 x20 x21 x22 x23 x24 x25 x26 x27 x28 x29 x30 x31 x32:Value),RF w f B (gS f n) W3->K0 { tmps:=#[.agg #[.string ⟨f.half.toArray⟩,.string ⟨f.order.toArray⟩,.bool f.signed,.int .i64 f.op,.int .i64 f.rd,.int .i64 f.rs1,.int .i64 f.rs2,.func (.func (gr f.hold)) #[] #[]],.int .i64 n,.pointer (some ⟨w.heap.size,0,none⟩),undef,.pointer (some ⟨w.heap.size+1,0,none⟩),.bool false,.pointer (some ⟨B,0,none⟩),x7,x8,x9,x10,x11,x12,x13,x14,x15,x16,x17,x18,x19,x20,x21,x22,x23,x24,x25,x26,x27,x28,x29,x30,x31,x32,undef,undef,undef,undef,undef],defers:=[] } W3:=by
   intro B W3 x7 x8 x9 x10 x11 x12 x13 x14 x15 x16 x17 x18 x19 x20 x21 x22 x23 x24 x25 x26 x27 x28 x29 x30 x31 x32 A;(have T:=aA (λ w'=>Pg f.hold E.h8 (gS f n) w'));(have ai:=λ args w'=>MG f.hold E.h8 args w');generalize gS f n=i at T U A;generalize fH f.hold i=hb at T U;obtain ⟨K,L,H,I,G⟩:=i;clear k0 k1 k2 k3 k4 k5 k6 k7 ab Y X q aa y;unfold aE.val at T;simp only at T;apply hK0;clear hK0;obtain ⟨M,N,O,P,Q⟩:=bF A.z.2.2;have k7:=A.f.2.2 7 _ rfl;(have a1:¬B=w.heap.size+1:=by have:=A.n;omega);(have a2:¬w.heap.size+1=B:=by have:=A.n;omega);simp only at M N O P Q;generalize W:gr f.hold=hF at *;have ag:=aA W;clear W;go_wp2_with fail
   go_region_held3 (λ w'=>w'.cell? ⟨B,0,none⟩=some (.int .i64 K)/\w'.cell? ⟨B,1,none⟩=some (.int .i64 L)/\w'.cell? ⟨B,2,none⟩=some (.int .i64 H)/\w'.cell? ⟨B,3,none⟩=some (.int .i64 I)/\w'.cell? ⟨B,4,none⟩=some (.int .i64 G)/\w'.cell? ⟨w.heap.size,7,none⟩=some (.func (.func hF) #[] #[]))
    (first|(with_reducible assumption)|go_keep)
    (first
     | (refine zK (T.out _) λ w' V=>?_;have h:=(A.next (aU.drew)).next V;have hq:w'.cell? ⟨B,0,none⟩=some (.int .i64 K)/\w'.cell? ⟨B,1,none⟩=some (.int .i64 L)/\w'.cell? ⟨B,2,none⟩=some (.int .i64 H)/\w'.cell? ⟨B,3,none⟩=some (.int .i64 I)/\w'.cell? ⟨B,4,none⟩=some (.int .i64 G)/\w'.cell? ⟨w.heap.size,7,none⟩=some (.func (.func hF) #[] #[]):=⟨h.z.2.2 0 _ rfl,h.z.2.2 1 _ rfl,h.z.2.2 2 _ rfl,h.z.2.2 3 _ rfl,h.z.2.2 4 _ rfl,h.f.2.2 7 (.func (.func hF) #[] #[]) (by rw[<-ag.out];rfl)⟩;obtain ⟨y0,y1,y2,y3,y4⟩:=bF h.r.2.2;have yf:=h.r.2.1))
   have HB:=aA h.b;clear hq A h V ai;go_wp2;(refine zp (v:=.tuple #[(aE.mk K L H I G).val,.bool hb]) (by simp[results,results66,go_sem,y0,y1,y2,y3,y4,aE.val]) rfl ⟨by rw[U.out],?_⟩);exact (((((HB.out.setCell (by simp) _).setCell (by simp) _).setCell (by simp) _).setCell (by simp) _).setCell (by simp) _)
  have HT:=aA J;clear J hK0 k0 k1 k2 k3 k4 k5 k6 k7 ab Y X y
  go_region_held3 (λ w'=>w'.cell? ⟨w.heap.size,0,none⟩=some (.string ⟨f.half.toArray⟩)/\w'.cell? ⟨w.heap.size,1,none⟩=some (.string ⟨f.order.toArray⟩)/\w'.cell? ⟨w.heap.size,2,none⟩=some (.bool f.signed)/\w'.cell? ⟨w.heap.size,3,none⟩=some (.int .i64 f.op)/\
      w'.cell? ⟨w.heap.size,4,none⟩=some (.int .i64 f.rd)/\w'.cell? ⟨w.heap.size,5,none⟩=some (.int .i64 f.rs1)/\w'.cell? ⟨w.heap.size,6,none⟩=some (.int .i64 f.rs2)/\w'.cell? ⟨w.heap.size,7,none⟩=some (.func (.func (gr f.hold)) #[] #[]))
   (first|(with_reducible exact RD.cells (jB.d (by with_reducible assumption)))|(with_reducible exact RD.cells (by with_reducible assumption))|(rename jB w f _ _=>hz;with_reducible exact RF.cells (jB.fin hz _ _ _ _ _))|(with_reducible exact RD.cells (RD.alloc (by with_reducible assumption) _))|(with_reducible exact RD.cells (RD.allocD (by with_reducible assumption) _))|go_keep)
   (first
    | (go_at_call 126;refine (B1 E _ _ (by first|with_reducible exact Or.inl rfl|with_reducible exact Or.inr (Or.inl rfl)|with_reducible exact Or.inr (Or.inr rfl)) (by with_reducible assumption)).mono ?_;rintro e w' ⟨rfl,C,M,N,O,P,Q,zf⟩)
    | (go_at_call 126;refine (B1 E _ _ (by first|with_reducible exact Or.inl rfl|with_reducible exact Or.inr (Or.inl rfl)|with_reducible exact Or.inr (Or.inr rfl)) (by with_reducible exact jB.new (by with_reducible assumption))).mono ?_;rintro e w' ⟨rfl,C,M,N,O,P,Q,zf⟩)
    | (go_at_call 126;refine (B1 E _ _ (by first|with_reducible exact Or.inl rfl|with_reducible exact Or.inr (Or.inl rfl)|with_reducible exact Or.inr (Or.inr rfl)) (by with_reducible exact jB.newD (by with_reducible assumption))).mono ?_;rintro e w' ⟨rfl,C,M,N,O,P,Q,zf⟩)
    | (go_at_call 126;refine zK (Vi E _ _ (by first|with_reducible exact Or.inl rfl|with_reducible exact Or.inr (Or.inl rfl)|with_reducible exact Or.inr (Or.inr rfl)) (by with_reducible assumption)) λ w' Z=>?_)
    | (go_at_call 127;refine (IF E _ (by with_reducible assumption)).mono ?_;rintro e w' ⟨rfl,C,M,N,O,P,Q,zf⟩)
    | (go_at_call 127;refine (IF E _ (by with_reducible exact jB.new (by with_reducible assumption))).mono ?_;rintro e w' ⟨rfl,C,M,N,O,P,Q,zf⟩)
    | (go_at_call 127;refine zK (Wv E _ (by with_reducible assumption)) λ w' Z=>?_))
  all_goals first
   | exact HT.out _ _ _ _ _ _ _ _ _ _ _ _ _ _ _ _ _ _ _ _ _ _ _ _ _ _ _ _ (jB.fin (by assumption) _ _ _ _ _)
   | exact HT.out _ _ _ _ _ _ _ _ _ _ _ _ _ _ _ _ _ _ _ _ _ _ _ _ _ _ _ _ (RD.fin (by assumption) _ _ _ _ _)
 have F:hZ f.half n=false:=by simpa using y
 have U:Hid (fW f n=(⟨0,0,0,0,0⟩,false)):=aA (by unfold fW;rw[F];rfl)
 unfold eN at j u ⊢;unfold lS at u;go_in;go_wp2_with fail;refine zK (j.out _) λ w1 D=>?_;rw[F];have q:=u.out.next D;obtain ⟨y0,y1,y2,y3,y4⟩:=bF q.r.2.2;have yf:=q.r.2.1;have HB:=aA q.b;clear D j u q;go_wp2;refine zp (v:=.tuple #[(aE.mk 0 0 0 0 0).val,.bool false]) (by simp[results,results66,go_sem,y0,y1,y2,y3,y4,aE.val]) rfl ⟨by rw[U.out],?_⟩
 exact (((((HB.out.setCell (by simp) _).setCell (by simp) _).setCell (by simp) _).setCell (by simp) _).setCell (by simp) _)
