import Derived.Test.YtbmcofdodfcnnaaGreatDoorGV6
set_option linter.all false
set_option maxHeartbeats 0
set_option maxRecDepth 100000
namespace Go
open Proofs.Tryz RowKit
variable {w0 w w' w3 : World} {n : Int} {k b c cap : Nat} {ao : Option Addr}
def zI:List Value:=[.int .i64 0,.int .i64 0,.int .i64 0,.int .i64 0,.int .i64 0]
def DA (w0:World) (n:Int) (k b c:Nat) (ao:Option Addr) (cap:Nat) (w':World):Prop:=
 aF w0.heap.size [.int .i64 n] w'/\aF (w0.heap.size+1) zI w'/\aF b (bO k) w'/\aF c (cT (row k).kind (.slice ao (bZ (row k).kind).length cap)) w'/\kq (bZ (row k).kind) ao cap w'/\Below w0.heap.size w0 w'
def DA.next (h:DA w0 n k b c ao cap w) (j:Below w.heap.size w w'):DA w0 n k b c ao cap w':=
 ⟨h.1.next j,h.2.1.next j,h.2.2.1.next j,h.2.2.2.1.next j,h.2.2.2.2.1.next j,h.2.2.2.2.2.trans (j.mono h.2.2.2.2.2.size)⟩
def DA.cells (h:DA w0 n k b c ao cap w'):
    w'.cell? ⟨w0.heap.size,0,none⟩=some (.int .i64 n)/\w'.cell? ⟨b,0,none⟩=some (.int .i64 (k+1))/\
    w'.cell? ⟨c,0,none⟩=some (.bool (has (row k).kind).1)/\w'.cell? ⟨c,1,none⟩=some (.bool (has (row k).kind).2.1)/\w'.cell? ⟨c,2,none⟩=some (.bool (has (row k).kind).2.2)/\
    w'.cell? ⟨c,3,none⟩=some (.int .i64 (dZ (row k).kind))/\w'.cell? ⟨c,4,none⟩=some (.int .i64 (most (row k).kind))/\w'.cell? ⟨c,5,none⟩=some (.bool (jH (row k).kind))/\
    w'.cell? ⟨c,6,none⟩=some (.slice ao (bZ (row k).kind).length cap)/\w'.cell? ⟨c,7,none⟩=some (.int .i64 (dL (row k).kind))/\w'.cell? ⟨c,8,none⟩=some (.int .i64 (fX (row k).kind)):=
 ⟨h.1.2.2 0 _ rfl,h.2.2.1.2.2 0 _ rfl,h.2.2.2.1.2.2 0 _ rfl,h.2.2.2.1.2.2 1 _ rfl,h.2.2.2.1.2.2 2 _ rfl,h.2.2.2.1.2.2 3 _ rfl,h.2.2.2.1.2.2 4 _ rfl,h.2.2.2.1.2.2 5 _ rfl,h.2.2.2.1.2.2 6 _ rfl,h.2.2.2.1.2.2 7 _ rfl,h.2.2.2.1.2.2 8 _ rfl⟩
def DA.res (h:DA w0 n k b c ao cap w'):
    w'.cell? ⟨w0.heap.size+1,0,none⟩=some (.int .i64 0)/\w'.cell? ⟨w0.heap.size+1,1,none⟩=some (.int .i64 0)/\w'.cell? ⟨w0.heap.size+1,2,none⟩=some (.int .i64 0)/\w'.cell? ⟨w0.heap.size+1,3,none⟩=some (.int .i64 0)/\w'.cell? ⟨w0.heap.size+1,4,none⟩=some (.int .i64 0)/\
    (∀q,w'.frozen? ⟨w0.heap.size+1,q,none⟩=false):=
 ⟨h.2.1.2.2 0 _ rfl,h.2.1.2.2 1 _ rfl,h.2.1.2.2 2 _ rfl,h.2.1.2.2 3 _ rfl,h.2.1.2.2 4 _ rfl,h.2.1.2.1⟩
def G1 (h:Below w.heap.size w w3) (x0 x1 x2 x3 x4):
    Below w.heap.size w (((((w3.setCell ⟨w.heap.size+b,0,none⟩ x0).setCell ⟨w.heap.size+b,1,none⟩ x1).setCell ⟨w.heap.size+b,2,none⟩ x2).setCell ⟨w.heap.size+b,3,none⟩ x3).setCell ⟨w.heap.size+b,4,none⟩ x4):=
 ((((h.setCell (by simp) _).setCell (by simp) _).setCell (by simp) _).setCell (by simp) _).setCell (by simp) _
def kf (h:Below w.heap.size w w3) (a b c d e):
    Below w.heap.size w (((((w3.setCell ⟨w.heap.size,0,none⟩ a).setCell ⟨w.heap.size,1,none⟩ b).setCell ⟨w.heap.size,2,none⟩ c).setCell ⟨w.heap.size,3,none⟩ d).setCell ⟨w.heap.size,4,none⟩ e):=
 ((((h.setCell zn _).setCell zn _).setCell zn _).setCell zn _).setCell zn _
def sd (w) (k):Below w.heap.size w (w.drewN k):=below_drewN aU k
def Rj (at') (t) (h:DA w0 n k b c ao cap w) (q:0<=at') (u:at'<=40):
    Calls prog 70 #[.int .i64 n,.int .i64 at',.bool t] w λ e w'=>e=.returned (.int .i64 (wU n at' t))/\DA w0 n k b c ao cap w':=
 (Jn n at' t w q u).mono λ _ _ ⟨he,j,hw⟩=>⟨he,by rw[hw];exact h.next (sd w j)⟩
def RE (j:k<64) (h:DA w0 n k b c ao cap w):
    Calls prog 71 #[.agg (cT (row k).kind (.slice ao (bZ (row k).kind).length cap)).toArray,.int .i64 n] w λ e w'=>e=.returned (.int .i64 (fL (row k).kind n))/\DA w0 n k b c ao cap w':=by
 have hi:=Ru n k j;have q:=Pd (row k).kind;refine zK (JG _ _ _ _ _ _ _ _ _ _ _ _ _ (EJ (iH k j)) (Cg _) h.2.2.2.2.1 hi.1 hi.2.1 q.1 q.2) λ w' u=>?_;exact ⟨by rw[RC,hi.2.2],h.next u⟩
def L9 (n) (w) (T:0<=n) (U:n<4294967296):
    aG prog 38 #[.int .i64 n] w (.tuple #[(bW n).1.val,.int .i64 (bW n).2]):=by
 unfold aG;go_in;go_wp2_with fail;refine zK (zT 68 _ (λ k=>jC k n) _ call68 (λ k J E P=>Td k w.heap.size n E J (by have:=P.size;simp at this;omega) ((P.cell (p:=⟨w.heap.size,0,none⟩) (by simp;omega)).trans (by go_simp)))) λ E D=>?_;have F:=(show Hid _ from ((aF.new w [.int .i64 n] 3).alloc (.cells zI.toArray 26)).next D)
 have A:Hid (aF (w.heap.size+1) zI E):=(by have:=aF.new (w.alloc (.cells #[.int .i64 n] 3)) zI 26;rw[za]at this;exact this.next D)
 have q:Hid (Below w.heap.size w E):=(aJ.alloc (by simp) _).trans (D.mono (by simp;omega))
 clear D;generalize R:(List.range 64).find? (λ k=>jC k n)=o
 have O:=(show Hid _ from R)
 clear R
 cases o with
 | none=>
  have L:=(show Hid _ from UL T U O.out)
  obtain ⟨N,yf,V⟩:=A.out;obtain ⟨y0,y1,y2,y3,y4⟩:=bF V;clear V A F;unfold eW gV gX;go_wp2;refine zp (v:=.tuple #[(aE.mk 0 0 0 0 0).val,.int .i64 1]) (by simp[results,results38,go_sem,y0,y1,y2,y3,y4,N,aE.val]) rfl ⟨by rw[L.out],?_⟩
  exact (G1 q.out _ _ _ _ _).alloc (by have:=q.out.size;simp[World.setCell];omega) _
 | some k=>
  obtain ⟨J,Q⟩:=Pe T U O.out;have L:=(show Hid _ from Q)
  clear Q;unfold eW dE bO;go_wp2_with fail;refine (ud (row k).kind (iH k J) _).mono ?_;rintro e h ⟨sl,rfl,Z,u⟩;obtain ⟨ao,cap,rfl,I⟩:=Z
  have C:DA w n k E.heap.size h.heap.size ao cap (h.alloc (.cells (cT (row k).kind (.slice ao (bZ (row k).kind).length cap)).toArray 105)):=by
   (have M:∀o,Below h.heap.size h (h.alloc o):=λ o=>aJ);refine ⟨(aF.next (aF.alloc F.out _) u).alloc _,(aF.next (aF.alloc A.out _) u).alloc _,((aF.new E (bO k) 100).next u).alloc _,aF.new h _ _,kq.next (λ j p hj=>?_) (M _),?_⟩
   .obtain ⟨b,X,_,Y⟩:=I j p hj
    exact ⟨b,X,Y⟩
   exact ((q.out.alloc q.out.size _).trans (u.mono (by have:=q.out.size;simp;omega))).alloc (by have:=u.size;have:=q.out.size;simp at *;omega) _
  have G:¬w.heap.size+1=E.heap.size:=by have:=A.out.1;omega
  have H:¬w.heap.size+1=h.heap.size:=by have:=A.out.1;have:=u.size;simp at this;omega
  clear u I F A q;unfold cT;go_wp2_with fail;unfold cT at C;generalize h.alloc _=W at C ⊢;obtain ⟨s0,s1,s2,s3,s4,s5,s6,s7,s8,s9,ab⟩:=C.cells
  go_region_held3 (λ w'=>w'.cell? ⟨w.heap.size,0,none⟩=some (.int .i64 n)/\w'.cell? ⟨E.heap.size,0,none⟩=some (.int .i64 (k+1))/\
   w'.cell? ⟨h.heap.size,0,none⟩=some (.bool (has (row k).kind).1)/\w'.cell? ⟨h.heap.size,1,none⟩=some (.bool (has (row k).kind).2.1)/\w'.cell? ⟨h.heap.size,2,none⟩=some (.bool (has (row k).kind).2.2)/\
   w'.cell? ⟨h.heap.size,3,none⟩=some (.int .i64 (dZ (row k).kind))/\w'.cell? ⟨h.heap.size,4,none⟩=some (.int .i64 (most (row k).kind))/\w'.cell? ⟨h.heap.size,5,none⟩=some (.bool (jH (row k).kind))/\
   w'.cell? ⟨h.heap.size,6,none⟩=some (.slice ao (bZ (row k).kind).length cap)/\w'.cell? ⟨h.heap.size,7,none⟩=some (.int .i64 (dL (row k).kind))/\w'.cell? ⟨h.heap.size,8,none⟩=some (.int .i64 (fX (row k).kind)))
   (first|(exact DA.cells (by assumption))|go_keep)
   (first
    | (go_at_call 70;refine zK (Rj _ _ (by first|assumption|exact DA.next C (sd _ _)) (by decide) (by decide)) λ w' y=>?_)
    | (go_at_call 71;refine zK (RE J (by assumption)) λ w' y=>?_;obtain ⟨x0,x1,x2,x3,x4,xf⟩:=DA.res y))
  have K:=(show Hid _ from y.2.2.2.2.2)
  clear C y G H;go_wp2
  refine zp (v:=.tuple #[.agg #[.int .i64 (k+1),.int .i64 (wU n 7 (has (row k).kind).1),.int .i64 (wU n 15 (has (row k).kind).2.1),.int .i64 (wU n 20 (has (row k).kind).2.2),.int .i64 (fL (row k).kind n)],.int .i64 0])
   (by simp[results,results38,go_sem,x0,x1,x2,x3,x4]) rfl ⟨by rw[L.out];rfl,G1 K.out _ _ _ _ _⟩
def KA (n) (w) (h:n<0\/4294967296<=n):
    aG prog 38 #[.int .i64 n] w (.tuple #[(aE.mk 0 0 0 0 0).val,.int .i64 1]):=by
 unfold aG;rcases h with h|h
 .go_in
  go_wp2_with fail;exact zp (v:=.tuple #[(aE.mk 0 0 0 0 0).val,.int .i64 1]) (by simp[results,results38,go_sem,aE.val]) rfl ⟨rfl,aJ.alloc (by simp) _⟩
 have j:¬n<0:=by omega
 go_in;go_wp2_with fail;exact zp (v:=.tuple #[(aE.mk 0 0 0 0 0).val,.int .i64 1]) (by simp[results,results38,go_sem,aE.val]) rfl ⟨rfl,aJ.alloc (by simp) _⟩
def xx (n) (w):
    aG prog 38 #[.int .i64 n] w (.tuple #[(bW n).1.val,.int .i64 (bW n).2]):=by
 unfold aG;by_cases h:n<0\/4294967296<=n
 .rw[Ge h];exact KA n w h
 exact L9 n w (by omega) (by omega)
def Ki (n) (w):
    aG prog 17 #[.int .i64 n] w (.tuple #[(bW n).1.val,.int .i64 (bW n).2]):=by
 unfold aG;go_in;go_wp2_with fail;refine zK (xx n _) λ C h=>?_;obtain ⟨A,J,u⟩:=(aF.new w zI 26).next h;obtain ⟨E,F,G,H,I⟩:=bF u;have j:Hid (Below w.heap.size w C):=aJ.trans (h.mono (by simp))
 clear h u;generalize q:bW n=D;have y:=(show Hid _ from q)
 clear q;obtain ⟨⟨op,rd,rs1,rs2,imm⟩,er⟩:=D;unfold aE.val;simp only;go_wp2;refine zp (v:=.tuple #[(aE.mk op rd rs1 rs2 imm).val,.int .i64 er]) (by simp[results,results17,go_sem,E,F,G,H,I,aE.val]) rfl ⟨by rw[y.out],kf j.out _ _ _ _ _⟩
