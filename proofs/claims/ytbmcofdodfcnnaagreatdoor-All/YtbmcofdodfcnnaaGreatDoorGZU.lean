import Derived.Test.YtbmcofdodfcnnaaGreatDoorGZO
import Derived.Test.YtbmcofdodfcnnaaGreatDoorGV9
set_option linter.all false
set_option maxHeartbeats 0
set_option maxRecDepth 100000
namespace Go
open Proofs.Tryz RowKit
variable {v : Value} {mem regs : List Int} {pc : Int}
def QR:(prog.info? 97).map (λ i=>(i.zero,i.size,i.bytes))=some (some (.agg #[.pointer none,.pointer none]),2,16):=by kernel_rfl
def R6 (k):dH (iQ.getD k 0):=by
 have:iQ.getD k 0=0:=by unfold iQ;rw[zG,List.getElem?_replicate];split<;>rfl
 rw[this];exact ⟨by decide,by decide⟩
def fU.frz {B g n:Nat} {f:Nat->Mc} {w w':World} (h:fU B g n f v w) (j:w.grownBy w' v.ownBlock):w'.frozen? ⟨g,0,none⟩=false/\w'.cell? ⟨g,0,none⟩=some v:=by
 have e:w'.heap[g]?=some (.cells #[v] 72 (0,0)):=(j.block g (zl h.gl h.bw) (λ e=>by have:=(h.row.lt g e.symm).1;have:=h.gl;omega)).trans h.cell
 refine ⟨?_,by rw[cell_of_row _ _ 0 _ _ (0,0) e];rfl⟩
 unfold World.frozen?;rw[show ({ block:=g,off:=0 }:Addr).block=g from rfl,e]
 simp
def Nb (g) (s) (w) (h:4096<s.size):
    zS prog 54 #[.pointer (some ⟨g,0,none⟩),.string s] w (.bool true):=by
 unfold zS;have j:=aA (λ (w':World)=>SM s w' h)
 have q:=aA (λ (w':World)=>Sz s w' h)
 clear h;go_in
 go_wp2_with (first
  | (go_at_call 24;refine (j.out _).mono ?_;rintro e w' ⟨rfl,rfl⟩)
  | (go_at_call 101;refine (q.out _).mono ?_;rintro e w' ⟨rfl,rfl⟩)
  | (go_at_call 92;refine (mM _ _).mono ?_;rintro e w' ⟨rfl,rfl⟩))
 go_ret;exact ⟨rfl,rfl⟩
def L1 {B g n:Nat} {f:Nat->Mc} (s) (w) (h:fU B g n f v w) (W:s.size<=4096) (hn:n<=2000000):
    Calls prog 54 #[.pointer (some ⟨g,0,none⟩),.string s] w λ e w'=>e=.returned (.bool true)/\∃f' v',fU B g (n+1) f' v' w'/\gJ B g w w':=by
 obtain ⟨i0,hi,X,Y,Z⟩:=info_parts QR;have T:=aA (λ (w':World)=>Tt s w' W)
 have U:=aA (λ (w':World)=>S9 s w' W)
 have Q:=aA h;have al:=h.gl;have V:=h.bw;generalize eH jm 0 s.data.toList=mem at T U;clear h W;go_in;go_wp2_with fail;refine (T.out _).mono ?_;rintro e G ⟨b,rfl,hb,M,E⟩;have F:=aA (Q.out.next E);have L:=aA M;have I:=aA E;have ag:=E.size;clear E M T;go_wp2_with fail;refine (U.out _).mono ?_;rintro e H ⟨rfl,N,C⟩;have ah:=C.size;have A:=aA (F.out.next C);have O:=aA ((gJ.of_below (g:=g) I.out V).trans (gJ.of_below C F.out.bw));have K:Hid (Mc.At B ⟨b,G.heap.size,mem,iQ,0⟩ H):=aA ⟨show B<=b by omega,show B<=G.heap.size by omega,L.out.next C,N,R6⟩
 have R:Hid (∀i,i<n->(f i).x≠b/\(f i).r≠G.heap.size):=aA λ i hi=>by
  have h1:=(Q.out.each i hi).x.lt;have h2:=(Q.out.each i hi).r.lt;exact ⟨by omega,by omega⟩
 clear C N L I U F;obtain ⟨ao,cp,rfl⟩:=A.out.form;have cv:=A.out.cellv;have ak:g<H.heap.size:=by omega
 go_wp2_with (first
  | (go_at_call 92;refine zK (mM _ _) λ w' hw=>?_;obtain rfl:=hw.symm;clear hw)
  | (at_builtin;refine wpList_append_own _ rfl _ _ 70 rfl B 97 i0 _ 2 16 underlying70 hi X Y Z rfl (by decide) _ _ _ rfl (A.out.row.alloc _) ⟨H.heap.size,0,none⟩ 1 1 (iJ b G.heap.size) rfl rfl ?c1 ?c2 ?c3 ?c4 ?c5 ?_))
 case c1=>exact nD H (iJ b G.heap.size) 97
 case c2=>intro u hu;simp[iJ]at hu;rcases hu with rfl|rfl<;>rfl
 case c3=>unfold maxLen;omega
 case c4=>omega
 case c5=>simp;omega
 intro v' w5 y j _;obtain ⟨q,cq,rfl,_,_⟩:=y.form (by omega)
 have D:=aA ((Below.refl H.heap.size H).alloc zn (.cells #[.pointer (some ⟨b,0,none⟩),.pointer (some ⟨G.heap.size,0,none⟩)] 97));have J:=aA (A.out.next D.out);have HF:=aA (J.out.frz j);have HN:=aA (J.out.add (m:=⟨b,G.heap.size,mem,iQ,0⟩) ⟨K.out.bx,K.out.br,K.out.x.next D.out,K.out.r.next D.out,K.out.i⟩ R.out j y);have P:=aA ((O.out.trans (gJ.of_below D.out A.out.bw)).trans HN.out.2);have aa:=j.size;rw[za]at aa;have ff:=HF.out.1;have fc:=HF.out.2;clear y j cv;go_wp2;go_ret;exact ⟨rfl,_,_,HN.out.1,P.out⟩
def rI (B g n:Nat) (ok:Prop) (w:World) (e:Ending) (w':World):Prop:=e=.returned (.bool true)/\∃n' f' v',fU B g n' f' v' w'/\gJ B g w w'/\n<=n'/\n'<=n+1/\(ok->0<n')
def Mh {B g n:Nat} {f:Nat->Mc} (s) (w) (h:fU B g n f v w) (A:n<=2000000):
    Calls prog 54 #[.pointer (some ⟨g,0,none⟩),.string s] w (rI B g n (s.size<=4096) w):=by
 by_cases j:s.size<=4096
 .refine (L1 s w h j A).mono ?_
  rintro e w' ⟨rfl,q,C,y,u⟩;exact ⟨rfl,n+1,q,C,y,u,by omega,by omega,λ _=>by omega⟩
 refine (Nb g s w (by omega)).mono ?_
 rintro e w' ⟨rfl,rfl⟩;exact ⟨rfl,n,f,v,h,gJ.refl _ _ _,by omega,by omega,λ k=>absurd k j⟩
def SF (x r) (o:cG) (w) (hx:aK 92 x mem regs pc w) (C:aK 171 r mem regs pc w) (j:∀k,dH (regs.getD k 0)) (F:10<o.kd) (G:o.kd<=17) (I:o.ok):
    Calls prog 55 #[.agg (iJ x r).toArray,.agg o.cells.toArray] w λ e w'=>e=.returned (.bool true)/\∃A q D,aK 92 x A q D w'/\aK 171 r A q D w'/\ki x r w w'/\∀k,dH (q.getD k 0):=by
 obtain ⟨kd,on,a,b,op,rd,rs1,rs2,imm,s,sh⟩:=o;obtain ⟨_,_,_,E⟩:=I;simp only at F G E;have H:kd=11\/kd=12\/kd=13\/kd=14\/kd=15\/kd=16\/kd=17:=by omega
 rcases H with rfl|rfl|rfl|rfl|rfl|rfl|rfl
 .refine (kH x r 11 on a b op rd rs1 rs2 imm _ 0 s sh _ _ _ _ _ (.inl ⟨rfl,rfl,rfl,rfl,rfl,rfl⟩) w hx C (λ w' h=>Sw x a b w' h) (λ w' h=>Sa r a b w' h)).mono ?_
  rintro e w' ⟨rfl,y,v,u⟩;refine ⟨rfl,_,_,_,y,v,u,?_⟩
  split
  .exact sW j _ E
  exact j
 .refine (kH x r 12 on a b op rd rs1 rs2 imm _ _ s sh _ _ _ _ _ (.inr (.inr (.inl ⟨rfl,rfl,rfl,rfl,rfl,rfl⟩))) w hx C (λ w' h=>iW h (RM x a w' h)) (λ w' h=>iW h (RZ r a w' h))).mono ?_
  rintro e w' ⟨rfl,y,v,u⟩;exact ⟨rfl,_,_,_,y,v,u,j⟩
 .refine (kH x r 13 on a b op rd rs1 rs2 imm _ 0 s sh _ _ _ _ _ (.inr (.inl ⟨rfl,rfl,rfl,rfl,rfl,rfl⟩)) w hx C (λ w' h=>Pb x a b w' h) (λ w' h=>O4 r a b w' h)).mono ?_
  rintro e w' ⟨rfl,y,v,u⟩;exact ⟨rfl,_,_,_,y,v,u,j⟩
 .refine (kH x r 14 on a b op rd rs1 rs2 imm _ _ s sh _ _ _ _ _ (.inr (.inr (.inr ⟨rfl,rfl,rfl,rfl,rfl,rfl⟩))) w hx C (λ w' h=>iW h (Om x a w' h)) (λ w' h=>iW h (PT r a w' h))).mono ?_
  rintro e w' ⟨rfl,y,v,u⟩;exact ⟨rfl,_,_,_,y,v,u,j⟩
 .refine (Uw x r on a b op rd rs1 rs2 imm s sh w hx C).mono ?_
  rintro e w' ⟨rfl,y,v,u⟩;exact ⟨rfl,_,_,_,y,v,u,j⟩
 .refine (Uj x r on a b op rd rs1 rs2 imm s sh w hx C j).mono ?_
  rintro e w' ⟨rfl,y,v,u⟩;exact ⟨rfl,_,_,_,y,v,u,sS j⟩
 refine (Ux x r on a b op rd rs1 rs2 imm s sh w hx C j).mono ?_;rintro e w' ⟨rfl,y,v,u⟩;exact ⟨rfl,_,_,_,y,v,u,FV _ _ j⟩
def TU (c:Int) (n:Nat) (w:World) (q:0<n) (j:n<=2000000) (h:-9223372036854775808<=c/\c<9223372036854775808):
    Calls prog 56 #[.int .i64 c,.int .i64 n] w λ e w'=>(∃r:Nat,e=.returned (.int .i64 r)/\r<n)/\w'=w:=by
 obtain ⟨m,rfl⟩:∃m,n=m+1:=⟨n-1,by omega⟩
 refine (ED c m w (by omega) h).mono ?_
 rintro e w' ⟨⟨r,rfl,u⟩,rfl⟩;exact ⟨⟨r,rfl,by omega⟩,rfl⟩
structure Sx (B g n N:Nat) (f:Nat->Mc) (v:Value) (O:List Value) (w0 w:World):Prop where
 o:aF N O w
 m:∃f',fU B g n f' v w/\∀i,i<n->(f' i).x=(f i).x/\(f' i).r=(f i).r
 k:gJ B g w0 w
 l:∀i,i<n->(f i).x<N/\(f i).r<N
section
variable {B g n N q cp : Nat} {f : Nat → Mc} {O : List Value} {w0 w w' : World}
def Sx.cv (h:Sx B g n N f v O w0 w):w.cell? ⟨g,0,none⟩=some v:=by
 obtain ⟨q,j,_⟩:=h.m;exact j.cellv
def Sx.px (h:Sx B g n N f (.slice (some ⟨q,0,none⟩) n cp) O w0 w):∀i,i<n->w.cell? ⟨q,i*2,none⟩=some (.pointer (some ⟨(f i).x,0,none⟩))/\w.cell? ⟨q,i*2+1,none⟩=some (.pointer (some ⟨(f i).r,0,none⟩)):=λ i hi=>by
 obtain ⟨D,A,u⟩:=h.m;obtain ⟨C,j,e,v,y⟩:=A.pair hi;obtain ⟨rfl,_⟩:q=C/\cp=j:=by simpa using e
 rw[<-(u i hi).1,<-(u i hi).2];exact ⟨v,y⟩
def Sx.ran (h:Sx B g n N f v O w0 w) {i:Nat} (hi:i<n) (hx:aK 92 (f i).x mem regs pc w') (F:aK 171 (f i).r mem regs pc w') (u:ki (f i).x (f i).r w w') (C:∀k,dH (regs.getD k 0)):Sx B g n N f v O w0 w':=by
 obtain ⟨G,D,y⟩:=h.m;have H:=h.l i hi;have e:w'.heap[N]?=w.heap[N]?:=u.block N h.o.1 (by omega) (by omega)
 have E:=D.each i hi;rw[<-(y i hi).1]at hx u;rw[<-(y i hi).2]at F u;refine ⟨⟨zl h.o.1 u.size,λ q=>(World.frozen?_of_block (a:=⟨N,q,none⟩) e).trans (h.o.2.1 q),λ j v A=>(World.cell?_of_block (a:=⟨N,j,none⟩) e).trans (h.o.2.2 j v A)⟩,⟨_,D.ran hi hx F u C,λ j A=>?_⟩,h.k.trans (gJ.of_kept2 u D.bw E.bx E.br),h.l⟩
 rw[<-(y j A).1,<-(y j A).2]
 constructor<;>split<;>simp_all
def Sx.next (h:Sx B g n N f v O w0 w) (j:Below w.heap.size w w'):Sx B g n N f v O w0 w':=by
 obtain ⟨u,q,y⟩:=h.m;exact ⟨h.o.next j,⟨u,q.next j,y⟩,h.k.trans (gJ.of_below j q.bw),h.l⟩
def Sx.at (h:Sx B g n N f v O w0 w) {i:Nat} (hi:i<n):∃m:Mc,m.At B w/\m.x=(f i).x/\m.r=(f i).r:=by
 obtain ⟨j,u,q⟩:=h.m;exact ⟨j i,u.each i hi,q i hi⟩
end
def Qn {B g n:Nat} {f:Nat->Mc} (o:cG) (w) (h:fU B g n f v w) (P:10<o.kd) (Q:o.kd<=17) (K:o.ok) (M:0<n) (hn:n<=2000000):
    Calls prog 33 #[.pointer (some ⟨g,0,none⟩),.agg o.cells.toArray] w (rI B g n False w):=by
 have ab:=h.gl;have I:=h.bw;obtain ⟨O,y⟩:∃O,O=o.cells:=⟨_,rfl⟩;have j:Hid (Sx B g n w.heap.size f v O w (w.alloc (.cells o.cells.toArray 74))):=aA (by rw[y];exact ⟨aF.new _ _ _,⟨f,h.next aJ,λ _ _=>⟨rfl,rfl⟩⟩,gJ.of_below aJ I,λ i hi=>⟨(h.each i hi).x.lt,(h.each i hi).r.lt⟩⟩)
 have D:=aA (λ (w':World)=>TU o.on n w' M hn K.2.1)
 have E:Hid (∀(w':World) (i:Nat),i<n->Sx B g n w.heap.size f v O w w'->Calls prog 55 #[.agg #[.pointer (some ⟨(f i).x,0,none⟩),.pointer (some ⟨(f i).r,0,none⟩)],.agg o.cells.toArray] w' λ e U=>e=.returned (.bool true)/\Sx B g n w.heap.size f v O w U):=aA λ w' i hi A=>by
  obtain ⟨m,H,V,er⟩:=A.at hi;have:=SF m.x m.r o w' H.x H.r H.i P Q K;rw[V,er]at this;refine this.mono ?_;rintro e U ⟨rfl,T,L,ah,hx,R,hk,J⟩;exact ⟨rfl,A.ran hi hx R hk J⟩
 obtain ⟨q,cp,rfl,_,_⟩:=h.row.form M;clear h K;obtain ⟨kd,on,a,b,op,rd,rs1,rs2,imm,s,sh⟩:=o;unfold cG.cells cM at *;simp only at P Q D E j y ⊢;replace y:=aA y;have cv:=j.out.cv;have h6:¬kd<=6:=by omega
 have h9:¬kd<=9:=by omega
 have Z:(kd==10)=false:=by simp;omega
 have Y:(0:Int)<n:=by omega
 have ac:g<w.heap.size:=by omega
 go_in;go_wp2_with fail;generalize w.alloc _=W at j ⊢;generalize w.heap.size=N at *
 have C:Hid (∀w',Sx B g n N f (.slice (some ⟨q,0,none⟩) n cp) O w w'->Sx B g n N f (.slice (some ⟨q,0,none⟩) n cp) O w w'/\w'.cell? ⟨g,0,none⟩=some (.slice (some ⟨q,0,none⟩) n cp)/\(∀i,i<n->w'.cell? ⟨q,i*2,none⟩=some (.pointer (some ⟨(f i).x,0,none⟩)))/\(∀i,i<n->w'.cell? ⟨q,i*2+1,none⟩=some (.pointer (some ⟨(f i).r,0,none⟩)))/\w'.cell? ⟨N,0,none⟩=some (.int .i64 kd)/\w'.cell? ⟨N,1,none⟩=some (.int .i64 on)/\w'.cell? ⟨N,2,none⟩=some (.int .i64 a)/\w'.cell? ⟨N,3,none⟩=some (.int .i64 b)/\w'.cell? ⟨N,4,none⟩=some (.int .i64 op)/\w'.cell? ⟨N,5,none⟩=some (.int .i64 rd)/\w'.cell? ⟨N,6,none⟩=some (.int .i64 rs1)/\w'.cell? ⟨N,7,none⟩=some (.int .i64 rs2)/\w'.cell? ⟨N,8,none⟩=some (.int .i64 imm)/\w'.cell? ⟨N,9,none⟩=some (.string s)/\w'.cell? ⟨N,10,none⟩=some (.bool sh)):=aA λ w' A=>by
  have y:=y.out;subst y;have u:=A.o.2.2;exact ⟨A,A.cv,λ i hi=>(A.px i hi).1,λ i hi=>(A.px i hi).2,u 0 _ rfl,u 1 _ rfl,u 2 _ rfl,u 3 _ rfl,u 4 _ rfl,u 5 _ rfl,u 6 _ rfl,u 7 _ rfl,u 8 _ rfl,u 9 _ rfl,u 10 _ rfl⟩
 have aa:=j.out.next (Below.refl _ W).drew;clear j y
 go_region_held3 (λ w'=>Sx B g n N f (.slice (some ⟨q,0,none⟩) n cp) O w w'/\w'.cell? ⟨g,0,none⟩=some (.slice (some ⟨q,0,none⟩) n cp)/\(∀i,i<n->w'.cell? ⟨q,i*2,none⟩=some (.pointer (some ⟨(f i).x,0,none⟩)))/\(∀i,i<n->w'.cell? ⟨q,i*2+1,none⟩=some (.pointer (some ⟨(f i).r,0,none⟩)))/\w'.cell? ⟨N,0,none⟩=some (.int .i64 kd)/\w'.cell? ⟨N,1,none⟩=some (.int .i64 on)/\w'.cell? ⟨N,2,none⟩=some (.int .i64 a)/\w'.cell? ⟨N,3,none⟩=some (.int .i64 b)/\w'.cell? ⟨N,4,none⟩=some (.int .i64 op)/\w'.cell? ⟨N,5,none⟩=some (.int .i64 rd)/\w'.cell? ⟨N,6,none⟩=some (.int .i64 rs1)/\w'.cell? ⟨N,7,none⟩=some (.int .i64 rs2)/\w'.cell? ⟨N,8,none⟩=some (.int .i64 imm)/\w'.cell? ⟨N,9,none⟩=some (.string s)/\w'.cell? ⟨N,10,none⟩=some (.bool sh)) (first|(exact C.out _ (by assumption))|go_keep)
  (first
   | (go_at_call 56;refine (D.out _).mono ?_;rintro e w' ⟨⟨r,rfl,R⟩,rfl⟩;have ag:(r:Int)<n:=by omega)
   | (go_at_call 55;refine zK (E.out _ _ (by assumption) (by assumption)) λ w' G=>?_))
 have F:=aA G;clear G;go_wp2;go_ret;obtain ⟨X,H,_⟩:=F.out.m;exact ⟨rfl,n,X,_,H,F.out.k,by omega,by omega,λ h=>h.elim⟩
def RT {B g n:Nat} {f:Nat->Mc} (o:cG) (w) (h:fU B g n f v w) (j:10<o.kd) (y:17<o.kd\/n=0):
    aG prog 33 #[.pointer (some ⟨g,0,none⟩),.agg o.cells.toArray] w (.bool true):=by
 unfold aG;have cv:=(h.next ((Below.refl w.heap.size w).alloc zn (.cells o.cells.toArray 74))).cellv;have A:g<w.heap.size:=zl h.gl h.bw;obtain ⟨C,cp,rfl⟩:=h.form;clear h;obtain ⟨kd,on,a,b,op,rd,rs1,rs2,imm,s,sh⟩:=o;unfold cG.cells cM at *;simp only at j y cv ⊢;have D:¬kd<=6:=by omega
 have E:¬kd<=9:=by omega
 have q:(kd==10)=false:=by simp;omega
 by_cases u:kd<=17
 .obtain rfl:n=0:=by omega
  go_in;go_wp2;go_ret;exact ⟨rfl,aJ⟩
 go_in;go_wp2;go_ret;exact ⟨rfl,aJ⟩
def Qq {B g n:Nat} {f:Nat->Mc} (o:cG) (w) (h:fU B g n f v w) (u:o.kd=10) (H:n<=2000000):
    Calls prog 33 #[.pointer (some ⟨g,0,none⟩),.agg o.cells.toArray] w (rI B g n (o.s.size<=4096) w):=by
 have j:=aA (gJ.of_below (g:=g) ((Below.refl w.heap.size w).alloc zn (.cells o.cells.toArray 74)) h.bw);have q:=aA (Mh o.s _ (h.next ((Below.refl w.heap.size w).alloc zn (.cells o.cells.toArray 74))) H);clear h;obtain ⟨kd,on,a,b,op,rd,rs1,rs2,imm,s,sh⟩:=o;unfold cG.cells cM at *;simp only at u j q ⊢;subst u;go_in;go_wp2_with fail;refine q.out.mono ?_;rintro e K ⟨rfl,I,G,J,A,y,C,D,E⟩;have F:Hid (rI B g n (s.size<=4096) w (.returned (.bool true)) K):=aA ⟨rfl,I,G,J,A,j.out.trans y,C,D,E⟩;clear A y C D E;go_wp2;go_ret;exact F.out
def Uk {B g n:Nat} {f:Nat->Mc} (o:cG) (w) (M:aS w) (h:fU B g n f v w) (I:o.ok) (H:n<=2000000):
    Calls prog 33 #[.pointer (some ⟨g,0,none⟩),.agg o.cells.toArray] w (rI B g n (o.kd=10/\o.s.size<=4096) w):=by
 have bP:∀{w':World} {e:Ending},o.kd≠10->e=.returned (.bool true)->Below w.heap.size w w'->rI B g n (o.kd=10/\o.s.size<=4096) w e w':=λ N q G=>
  ⟨q,n,f,v,h.next G,gJ.of_below G h.bw,by omega,by omega,λ k=>absurd k.1 N⟩
 by_cases L:o.kd<=9
 .exact (Qa o _ w M L I).mono λ e w' hx=>bP (by omega) hx.1 hx.2
 by_cases j:o.kd=10
 .refine (Qq o w h j H).mono ?_
  rintro e w' ⟨q,E,u,F,A,y,C,D,K⟩;exact ⟨q,E,u,F,A,y,C,D,λ k=>K k.2⟩
 by_cases J:o.kd<=17/\0<n
 .refine (Qn o w h (by omega) J.1 I J.2 H).mono ?_
  rintro e w' ⟨q,E,u,F,A,y,C,D,K⟩;exact ⟨q,E,u,F,A,y,C,D,λ k=>absurd k.1 j⟩
 exact (RT o w h (by omega) (by omega)).mono λ e w' hx=>bP j hx.1 hx.2
def yS (x:Value) (ops:List cG) (w:World):Prop:=
 (∃ad cap,x=.slice (some ad) ops.length cap/\0<ops.length/\(∀j u,(ops.flatMap cG.cells)[j]?=some u->w.cell? (ad.add j)=some u)/\ad.block<w.heap.size)\/∃ao cap,x=.slice ao 0 cap/\ops=[]
def KW {o:Oper} {a:Act} {K:Act->World->Prop} {Q:Exit->Act->World->Prop} (w) (x) (ops) (U:yS x ops w) (M:ops.length<=1048576) (s y:Operand) (N:o.op=.call { callee:=.builtin .append,args:=#[s,y],argTypes:=#[22,22] }) (O:a.eval s=.slice (some ⟨w.heap.size+1+1,0,none⟩) 11 11) (hx:a.eval y=x) (h:∀A q F,F.ownsRow w.heap.size 74 11 (.slice (some ⟨A,0,none⟩) (jJ++ops).length q) (jJ++ops).length ((jJ++ops).flatMap cG.cells)->(lw w).grownBy F (some (w.heap.size+1+1))->w.heap.size<A->A<F.heap.size->K (a.put o.dst (.slice (some ⟨A,0,none⟩) (jJ++ops).length q)) F):
    o.wp prog a (lw w) K Q:=by
 rcases U with ⟨ad,cap,rfl,X,V,G⟩|⟨P,cap,rfl,rfl⟩
 .obtain ⟨Y,hi,I,J,L⟩:=info_parts TH
  have D:∀j u,(ops.flatMap cG.cells)[j]?=some u->(lw w).cell? (ad.add j)=some u:=λ j u W=>((BP w).cell (p:=ad.add j) (by rw[CX];exact G)).trans (V j u W)
  refine wp_append_lies (lw w) s y 22 N w.heap.size 74 Y _ 11 96 underlying22 hi I J L rfl (by decide) _ 11 rz O (C5 w) ad ops.length cap (ops.flatMap cG.cells) hx (yi ops) D (NP ops) X
   (by unfold maxLen;omega) (by omega) (by rw[qh];omega) _ rfl ?_
  intro A q F E C v H;have R:(jJ++ops).length=11+ops.length:=by rw[List.length_append];rfl
  have T:(jJ++ops).flatMap cG.cells=rz++ops.flatMap cG.cells:=by rw[List.flatMap_append];rfl
  have:=h A q F;rw[R,T]at this;refine this E C ?_ H;rcases v with v|v
  .have:w.heap.size+1+1=A:=Option.some.inj v
   omega
  rw[v,qh];omega
 refine KC (lw w) s y N ⟨w.heap.size+1+1,0,none⟩ P cap (jJ++[]).length rfl O hx (h _ _ _ (C5 w) ⟨rfl,rfl,rfl,zn,λ _ _ _=>rfl⟩ (by omega) (by rw[qh];omega))
def KR {w h:World} (q:(lw w).grownBy h (some (w.heap.size+1+1))) (f):fU h.heap.size w.heap.size 0 f (.slice none 0 0) h:=by
 have u:=q.size;rw[qh]at u;refine ⟨by omega,zn,?_,World.ownsRow_nil _ _ _ _,λ i hi=>by omega,λ i j hi=>by omega⟩
 rw[q.block w.heap.size (by rw[qh];omega) (λ e=>by have:=Option.some.inj e;omega)]
 exact (heap_alloc_old _ _ (by simp;omega)).trans ((heap_alloc_old _ _ (by simp)).trans (heap_alloc_last _ _))
def Tf (x) (ops) (w) (hE:aS w) (I:ops.length<=1048576) (hS:yS x ops w) (aa:∀o∈ops,o.ok):
    aG prog 12 #[x,.int .i64 17] w (.bool true):=by
 unfold aG;have HS:=aA hS;have HE:=aA hE;have ah:Hid (∀o∈jJ++ops,o.ok):=aA (λ o K=>(List.mem_append.1 K).elim (Rd o) (aa o))
 have H8:Hid (∀k o,(jJ++ops)[k]?=some o->(k<8->o.kd≠10)/\(k=8->o.kd=10/\o.s.size<=4096)):=aA λ k o K=>by
  have ha:k<11->jJ[k]?=some o:=λ Y=>by rwa[List.getElem?_append_left (by exact Y)]at K
  refine ⟨λ Y=>?_,λ Y=>?_⟩
  .have hc:k=0\/k=1\/k=2\/k=3\/k=4\/k=5\/k=6\/k=7:=by omega
   (have ha:=ha (by omega));rcases hc with rfl|rfl|rfl|rfl|rfl|rfl|rfl|rfl<;>(obtain rfl:=Option.some.inj ha;decide)
  subst Y;obtain rfl:=Option.some.inj (ha (by omega))
  exact ⟨rfl,by decide⟩
 clear hS hE aa;go_in;go_wp2_with fail;show Oper.wp prog _ _ (lw w) _ _;refine KW w x ops HS.out I (.tmp 28) (.tmp 29) rfl rfl rfl ?_;intro M ar w9 D y ba Z;have ag:=aA D;have A:=aA (KB y);have af:=aA (KR y);have bf:=A.out.size;have hN:(jJ++ops).length=11+ops.length:=by rw[List.length_append];rfl
 have a7:(jJ++ops).length<=1500000:=by omega
 have a8:((jJ++ops).length:Int)<=1500000:=by omega
 clear D y hN I HS;generalize jJ++ops=L at *;generalize X:w.heap.size=g at *;have V:=aA X;clear X;go_wp2_with fail;go_loopw [8] (λ i wr=>∃(k n:Nat) (f:Nat->Mc) (v:Value),k<=L.length/\i=.int .i64 k/\fU w9.heap.size g n f v wr/\gJ w9.heap.size g w9 wr/\n<=k/\(8<k->0<n)) (λ i _=>L.length-(intOf i).toNat)
 case atStart=>exact ⟨0,0,λ _=>⟨0,0,[],[],0⟩,_,by omega,rfl,af.out _,gJ.refl _ _ _,by omega,by omega⟩
 case round=>
  obtain ⟨k,n,f,v,Y,rfl,hM,O,bd,h8⟩:=hrel;have HM:=aA hM;have HA:=aA O;have R:=aA h8;have U:Hid (Below g w wr):=aA ⟨O.os.trans A.out.os,O.tape.trans A.out.tape,O.output.trans A.out.output,Nat.le_trans A.out.size O.size,λ j hj=>(O.block j (by have:=HM.out.gl;omega) (by omega)).trans (A.out.block j hj)⟩
  clear hM O h8;by_cases ak:k<L.length
  .have bb:(k:Int)<L.length:=by omega
   obtain ⟨o,K⟩:∃o,L[k]?=some o:=⟨_,zg ak⟩;(have q:∀j u,o.cells[j]?=some u->wr.cell? ⟨M,k*11+j,none⟩=some u:=λ j u hj=>(World.cell?_of_block (a:=⟨M,k*11+j,none⟩) (HA.out.block M Z (by omega))).trans (QP ag.out K j u hj));(have G:=aA (Uk o wr (aS.below HE.out U.out (by have:=HE.out.1;have:=V.out;omega)) HM.out (ah.out o (List.mem_of_getElem? K)) (by omega)));have C:=aA (H8.out k o K);clear K;obtain ⟨kd,on,a,b,op,rd,rs1,rs2,imm,s,sh⟩:=o;unfold cG.cells cM at q G;simp only at q G C;have c0:wr.cell? ⟨M,k*11,none⟩=some (.int .i64 kd):=q 0 _ rfl;by_cases h4:17<kd
   .clear q
    go_wp2;go_roundw
    case rel=>exact ⟨k+1,n,f,v,by omega,by go_num,HM.out,HA.out,by omega,λ h=>by
     by_cases P:k=8
     .have:=(C.out.2 P).1;omega
     exact R.out (by omega)⟩
    case measure=>simp[intOf];omega
   have c1:=q 1 _ rfl;have c2:=q 2 _ rfl;have c3:=q 3 _ rfl;have c4:=q 4 _ rfl;have c5:=q 5 _ rfl;have c6:=q 6 _ rfl;have c7:=q 7 _ rfl;have c8:=q 8 _ rfl;have c9:=q 9 _ rfl;have ai:=q 10 _ rfl;clear q;go_wp2_with fail;refine G.out.mono ?_;rintro e w2 ⟨rfl,Q,f',v',H,hA2,i1,i2,i3⟩;have W:=aA H;have T:=aA (HA.out.trans hA2);have d0:w2.cell? ⟨M,k*11,none⟩=some (.int .i64 kd):=(World.cell?_of_block (a:=⟨M,k*11,none⟩) (hA2.block M Z (by omega))).trans c0
   have E:8<k+1->0<Q:=λ h=>by
    by_cases P:k=8
    .exact i3 (C.out.2 P)
    have:=R.out (by omega);omega
   (have F:kd=10->0<Q:=λ h=>E (by rcases Nat.lt_or_ge k 8 with P|P;exact absurd h (C.out.1 P);omega));have HP:=aA E;(have J:Q<=k+1:=by omega);obtain ⟨ao,cp,rfl⟩:=H.form;have cv:=H.cellv;clear H hA2 c0 c1 c2 c3 c4 c5 c6 c7 c8 c9 ai i1 i2 i3 E G C HM HA;by_cases N:kd=10
   .have be:((Q:Int)==0)=false:=by have:=F N;simp;omega
    clear F;go_wp2;go_roundw;(case rel=>exact ⟨k+1,Q,f',_,by omega,by go_num,W.out,T.out,J,HP.out⟩);case measure=>simp[intOf];omega
   (have N:(kd==10)=false:=by simpa using N);clear F;go_wp2;go_roundw;(case rel=>exact ⟨k+1,Q,f',_,by omega,by go_num,W.out,T.out,J,HP.out⟩);case measure=>simp[intOf];omega
  have bc:k=L.length:=by omega
  go_wp2;go_ret;exact ⟨rfl,by rw[V.out];exact U.out⟩
def AB (x) (ops) (w) (A:aS w) (h:ops.length<=1048576) (u:yS x ops w) (j:∀o∈ops,o.ok):
    aG prog 5 #[x] w (.bool true):=by
 unfold aG;have y:=aA (Tf x ops w A h u j);clear u j;go_in;go_wp2_with fail;refine zK y.out λ C q=>?_;have v:=aA q;clear q;go_wp2;go_ret;exact ⟨rfl,v.out⟩
