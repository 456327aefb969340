import Derived.Test.YtbmcofdodfcnnaaGreatDoorGNF
import Derived.Test.YtbmcofdodfcnnaaGreatDoorLF
set_option linter.all false
set_option maxHeartbeats 0
set_option maxRecDepth 100000
namespace Go
open Proofs.Tryz RowKit Maps
variable {b base mb n ln cp : Nat} {v0 v : Value} {xs ys ss vs : List Value} {W0 w w0 w' : World} {ao : Option Addr}
structure AS (b base mb:Nat) (W0:World) (v0:Value) (xs:List Value) (n:Nat) (v:Value) (w:World):Prop where
 c:aF b [v,.map (some mb)] w
 o:w.ownsRow base 202 9 v n xs
 ne:v.ownBlock≠some b
 k:bS b v0.ownBlock W0 w
 own:v.ownBlock=v0.ownBlock\/∃q,v.ownBlock=some q/\W0.heap.size<=q
def AS.nm {N:List (List UInt8×Nat)} (h:AS b base mb W0 v0 xs n v w) (q:fY mb N W0) (j:mb≠b) (u:v0.ownBlock≠some mb):fY mb N w:=q.block (h.k.block mb q.lt j u)
def Gd {u cap:Nat} {W y:World} {o:Obj} (h:AS b base mb W0 v0 xs n v w) (I:Below w.heap.size w W) (j:(W.alloc o).drew.grownBy y v.ownBlock) (C:v.ownBlock=some u\/u=W.heap.size+1) (F:y.ownsRow base 202 9 (.slice (some ⟨u,0,none⟩) (n+1) cap) (n+1) (xs++ys)):
    AS b base mb W0 v0 (xs++ys) (n+1) (.slice (some ⟨u,0,none⟩) (n+1) cap) (y.setCell ⟨b,0,none⟩ (.slice (some ⟨u,0,none⟩) (n+1) cap)):=by
 have Q:=h.c.1;have P:=I.size;have K:=h.k.size
 have E:u≠b:=by
  rcases C with e|e
  .exact λ H=>h.ne (by rw[e,H])
  omega
 have A:Below w.heap.size w (W.alloc o).drew:=(I.alloc I.size _).drew;have D:aF b [v,.map (some mb)] (W.alloc o).drew:=h.c.step A Q;have J:aF b [v,.map (some mb)] y:=D.keeps (bS.of_grown (c:=y.heap.size) j) (by have:=j.size;have:=D.1;omega) h.ne
 refine ⟨?_,?_,?_,?_,?_⟩
 .exact J.set 0 _ (by simp)
 .exact le F (λ k O=>by
   (have:u=k:=by simpa[Value.ownBlock] using O);subst this;exact Below.heap_setCell _ _ _ _ (λ e=>E e))
 .simpa[Value.ownBlock] using E
 .have R:bS b v.ownBlock w y:=(bS.of_below A).trans (bS.of_grown j)
  have G:bS b v.ownBlock w (y.setCell ⟨b,0,none⟩ (.slice (some ⟨u,0,none⟩) (n+1) cap)):=R.trans (bS.setCell _ _ _ _ _);refine ⟨G.os.trans h.k.os,G.tape.trans h.k.tape,G.output.trans h.k.output,Nat.le_trans K G.size,λ d N L M=>?_⟩
  refine (G.block d (by omega) L ?_).trans (h.k.block d N L M)
  rcases h.own with e|⟨q,e,T⟩
  .rw[e];exact M
  rw[e];intro H;injection H with H;omega
 rcases C with e|e
 .rw[show (Value.slice (some ⟨u,0,none⟩) (n+1) cap).ownBlock=some u by simp[Value.ownBlock],<-e]
  exact h.own
 exact .inr ⟨u,by simp[Value.ownBlock],by omega⟩
def qU {e:TypeId} {size m:Nat} (h:w.ownsRow base e size (.slice ao ln cp) m xs):ln=m:=by
 obtain ⟨_,⟨j,u⟩|⟨g,cap,q,j,_⟩⟩:=h
 .simp at j;omega
 simp at j;exact j.2.1
def DI {l:List cQ} (h:w.ownsRow base 193 7 (.slice ao ln cp) l.length (l.flatMap cY)) (L:0<l.length):
    ∃g,ao=some ⟨g,0,none⟩/\base<=g/\g<w.heap.size/\∀k x,l[k]?=some x->∀j u,(cY x)[j]?=some u->w.cell? ⟨g,k*7+j,none⟩=some u:=by
 have A:=h;obtain ⟨I,⟨y,H⟩|⟨g,cap,E,y,F,K,J⟩⟩:=h
 .omega
 simp at y;obtain ⟨rfl,rfl,rfl⟩:=y;refine ⟨g,rfl,F,(A.lt g rfl).2,λ k x C j u D=>?_⟩
 have v:k<l.length:=(kz C).2
 have G:j<7:=by
  have:=(List.getElem?_eq_some_iff.1 D).1;simpa[cY] using this
 have q:=jF cY 7 (λ _=>rfl) l k j G v
 rw[C]at q;simp only[zd]at q;have:=A.cells (g:=g) rfl (7*k+j) _ (q.trans D)
 have e:(⟨g,0,none⟩:Addr).add (7*k+j)=⟨g,k*7+j,none⟩:=by
  simp only[Addr.add];rw[Nat.mul_comm 7 k];simp;omega
 rw[e]at this;exact this
def kr (number:Int) (p:cQ):Qt:=⟨p,number,0⟩
def km (l:List Qt) (ps:List cQ) (number:Int) (j:Nat):List Value:=(l++(ps.take j).map (kr number)).flatMap dR
def CL (l:List Qt) (h:List cQ) (number):km l h number 0=l.flatMap dR:=by simp[km]
def CO (l:List Qt) (q:List cQ) (number) (j) (p:cQ) (h:q[j]?=some p):km l q number (j+1)=km l q number j++dR (kr number p):=by
 have u:=(List.getElem?_eq_some_iff.1 h).1;have e:q[j]=p:=(List.getElem?_eq_some_iff.1 h).2;unfold km;rw[List.take_succ_eq_append_getElem u,e];simp
def nU (b base mb:Nat) (v:Value) (r:Int×List Qt×List (List UInt8×Nat)) (w:World) (e:Ending) (w':World):Prop:=
 e=.returned (.int .i64 r.1)/\∃v',aF b [v',.map (some mb)] w'/\w'.ownsRow base 202 9 v' r.2.1.length (r.2.1.flatMap dR)/\v'.ownBlock≠some b/\fY mb r.2.2 w'/\
  (v'.ownBlock=v.ownBlock\/∃q,v'.ownBlock=some q/\w.heap.size<=q)/\w'.os=w.os/\w'.tape=w.tape/\w'.output=w.output/\w.heap.size<=w'.heap.size/\∀k,k<w.heap.size->k≠b->k≠mb->v.ownBlock≠some k->w'.heap[k]?=w.heap[k]?
def EK {I:Value} {l:List Qt} {H:List cQ} {j:Int} {N:List (List UInt8×Nat)} {wr:World} (G:w.heap.size<=W0.heap.size) (C:W0.os=w.os) (E:W0.tape=w.tape) (D:W0.output=w.output) (u:∀k,k<w.heap.size->k≠mb->W0.heap[k]?=w.heap[k]?) (A:fY mb N W0) (y:mb≠b) (F:v.ownBlock≠some mb) (h:AS b base mb W0 v (km l H j n) (l.length+n) I wr) (O:n=H.length):
    nU b base mb v (0,l++H.map (kr j),N) w (.returned (.int .i64 0)) wr:=by
 subst O;refine ⟨rfl,I,h.c,?_,h.ne,h.nm A y F,?_,h.k.os.trans C,h.k.tape.trans E,h.k.output.trans D,Nat.le_trans G h.k.size,λ k M J K L=>(h.k.block k (by omega) J L).trans (u k M K)⟩
 .have:=h.o
  unfold km at this;rw[List.take_length]at this;simpa using this
 rcases h.own with e|⟨q,e,P⟩
 .exact .inl e
 exact .inr ⟨q,e,by omega⟩
def Pw (b base mb) (s) (number) (v) (l:List Qt) (N:List (List UInt8×Nat)) (w) (K:aF b [v,.map (some mb)] w) (y:w.ownsRow base 202 9 v l.length (l.flatMap dR)) (E:v.ownBlock≠some b) (G:v.ownBlock≠some mb) (F:mb≠b) (A:base<=w.heap.size) (D:fY mb N w) (J:l.length<=500000) (R:s.size<=2000) (L:aS w) (er) (H:(bH s.data.toList).2.2=er) (j:er≠0):
    Calls prog 141 #[.pointer (some ⟨b,0,none⟩),.string s,.int .i64 number] w λ e w'=>nU b base mb v (ip s.data.toList number l N) w e w':=by
 have I:Hid (ip s.data.toList number l N=(er,l,N)):=aA (by unfold ip;rw[H,aC j])
 have C:=aA (uf s w R L);rw[H]at C;have P:(er != 0)=true:=by simpa using j
 have O:(er==0)=false:=by simpa using j
 go_in;go_wp2_with fail;refine C.out.mono ?_;rintro e T ⟨ao,n,cp,rfl,M,u⟩;have q:=aA u;clear u M C;go_wp2;go_ret;rw[I.out];have h:=q.out.alloc q.out.size (.cells #[.string ⟨(bH s.data.toList).1.toArray⟩,.slice ao n cp] 255);exact ⟨rfl,v,K.next h,kI y h,E,D.next h,.inl rfl,h.os,h.tape,h.output,h.size,λ k Q _ _ _=>h.block k Q⟩
def KO (b base mb) (s) (number) (v) (l:List Qt) (N:List (List UInt8×Nat)) (w) (hC:aF b [v,.map (some mb)] w) (C:w.ownsRow base 202 9 v l.length (l.flatMap dR)) (ay:v.ownBlock≠some b) (az:v.ownBlock≠some mb) (ax:mb≠b) (aq:base<=w.heap.size) (Q:fY mb N w) (hn:l.length<=500000) (hs:s.size<=2000) (hE:aS w) (y:List cQ) (bh:y.length<=1000) (hr:bH s.data.toList=([],y,0)):
    Calls prog 141 #[.pointer (some ⟨b,0,none⟩),.string s,.int .i64 number] w λ e w'=>nU b base mb v (ip s.data.toList number l N) w e w':=by
 obtain ⟨i0,hi,a0,a1,a2⟩:=info_parts E8;have HV:Hid (ip s.data.toList number l N=(0,l++y.map (kr number),N)):=aA (by unfold ip;rw[hr];simp[kr])
 have HR:=aA (uf s w hs hE);rw[hr]at HR;have bd:=hC.1;go_in;go_wp2_with fail;refine HR.out.mono ?_;rintro e X ⟨ao,n,cp,rfl,hO,J⟩;have aw:n=y.length:=qU hO;subst aw;have E:Hid (Below w.heap.size w (X.alloc (.cells #[.string ⟨#[]⟩,.slice ao y.length cp] 255))):=aA (J.alloc J.size _);have P:=aA (λ h=>DI (kI hO (aU.alloc zn (.cells #[.string ⟨#[]⟩,.slice ao y.length cp] 255))) h)
 have ag:Hid (AS b base mb (X.alloc (.cells #[.string ⟨#[]⟩,.slice ao y.length cp] 255)) v (km l y number 0) (l.length+0) v (X.alloc (.cells #[.string ⟨#[]⟩,.slice ao y.length cp] 255))):=aA ⟨hC.next E.out,by rw[CL];exact kI C E.out,ay,bS.refl _ _ _,.inl rfl⟩
 have ak:Hid (∀g,w.heap.size<=g->v.ownBlock≠some g):=aA (λ g hg e=>by have:=(C.lt g e).2;omega)
 have bc:=E.out.size
 have M:Hid (∀j G wr,AS b base mb (X.alloc (.cells #[.string ⟨#[]⟩,.slice ao y.length cp] 255)) v (km l y number j) (l.length+j) G wr->j=y.length->nU b base mb v (0,l++y.map (kr number),N) w (.returned (.int .i64 0)) wr):=aA (λ j G wr h hj=>
  EK E.out.size E.out.os E.out.tape E.out.output (λ k hk _=>E.out.block k hk) (Q.next E.out) ax az h hj)
 clear hO J HR hC C Q hE;go_wp2_with fail;generalize X.alloc (.cells #[.string ⟨#[]⟩,.slice ao y.length cp] 255)=W at *;go_loopw [49] (λ k wr=>∃(j:Nat) (G:Value),j<=y.length/\k=.int .i64 j/\AS b base mb W v (km l y number j) (l.length+j) G wr) (λ k _=>y.length-(intOf k).toNat)
 case atStart=>exact ⟨0,v,Nat.zero_le _,rfl,ag.out⟩
 case round=>
  obtain ⟨j,G,hj,rfl,L⟩:=hrel;by_cases K:j<y.length
  .obtain ⟨x,hx⟩:∃x,y[j]?=some x:=⟨_,zg K⟩
   (obtain ⟨g,rfl,ar,T,q⟩:=P.out (by omega));(have u:=L.k.block g T (by omega) (ak.out g ar));have ai:=aA (CO l y number j x hx);obtain ⟨data,⟨op,rd,rs1,rs2,imm⟩,tg⟩:=x;have p0:=(World.cell?_of_block (a:=⟨g,j*7+0,none⟩) u).trans (q j _ hx 0 _ rfl);have p1:=(World.cell?_of_block (a:=⟨g,j*7+1,none⟩) u).trans (q j _ hx 1 _ rfl);have p2:=(World.cell?_of_block (a:=⟨g,j*7+2,none⟩) u).trans (q j _ hx 2 _ rfl);have p3:=(World.cell?_of_block (a:=⟨g,j*7+3,none⟩) u).trans (q j _ hx 3 _ rfl);have p4:=(World.cell?_of_block (a:=⟨g,j*7+4,none⟩) u).trans (q j _ hx 4 _ rfl);have p5:=(World.cell?_of_block (a:=⟨g,j*7+5,none⟩) u).trans (q j _ hx 5 _ rfl);have p6:=(World.cell?_of_block (a:=⟨g,j*7+6,none⟩) u).trans (q j _ hx 6 _ rfl);simp only[Nat.add_zero]at p0 p1 p2 p3 p4 p5 p6;have au:g<wr.heap.size:=zl T L.k.size;(have be:(j:Int)<y.length:=by omega);have H:=aA L;clear L u q;go_wp2_with fail;have F:Hid (Below wr.heap.size wr (wr.alloc (.cells #[.string ⟨data.toArray⟩,.int .i64 op,.int .i64 rd,.int .i64 rs1,.int .i64 rs2,.int .i64 imm,.string ⟨tg.toArray⟩] 193))):=aA aJ;have I:=aA (H.out.c.next F.out);have ah:=aA (kI H.out.o F.out);have HN:Hid (aF wr.heap.size (cY ⟨data,⟨op,rd,rs1,rs2,imm⟩,tg⟩) (wr.alloc (.cells #[.string ⟨data.toArray⟩,.int .i64 op,.int .i64 rd,.int .i64 rs1,.int .i64 rs2,.int .i64 imm,.string ⟨tg.toArray⟩] 193))):=aA (aF.new wr (cY ⟨data,⟨op,rd,rs1,rs2,imm⟩,tg⟩) 193);have bj:=F.out.size;have bg:=H.out.k.size;have U:=H.out.ne;clear p0 p1 p2 p3 p4 p5 p6 au;generalize wr.alloc (.cells #[.string ⟨data.toArray⟩,.int .i64 op,.int .i64 rd,.int .i64 rs1,.int .i64 rs2,.int .i64 imm,.string ⟨tg.toArray⟩] 193)=V at *;obtain ⟨p0,p1,p2,p3,p4,p5,p6⟩:=fT HN.out.2.2;simp only at p1 p2 p3 p4 p5;have pl:=HN.out.1;have c0:=I.out.2.2 0 _ rfl;have cf:=I.out.2.1 0;have an:=I.out.1;have Y:base<=V.heap.size:=by omega
   go_region_law
    ((refine step_append_lies _ (by rfl) _ _ _ (by rfl) base 202 i0 _ 9 88 underlying145 hi a0 a1 a2 rfl (by omega) G (l.length+j) (km l y number j) (by rfl) ((ah.out.alloc _).drew)
        ⟨V.heap.size,0,none⟩ 1 1 (dR (kr number ⟨data,⟨op,rd,rs1,rs2,imm⟩,tg⟩)) (by rfl) (by rfl) (World.news_of_block (cs:=(dR (kr number ⟨data,⟨op,rd,rs1,rs2,imm⟩,tg⟩)).toArray) (t:=202) (fr:=(0,0)) (heap_alloc_new V _)) (by simp[Value.oneCell',kr,dR,cY])
        (by omega) (by unfold maxLen;omega) (by omega) (by simp;omega) (V.heap.size+1) (by simp) ?_;intro gg cap w9 D A R K;have q1:w9.cell? ⟨b,0,none⟩=some G:=(A.cell_far _ (by simp;omega) (Ne.symm U)).trans (by simp[c0,World.cell?_alloc_some]);have qf:w9.frozen? ⟨b,0,none⟩=false:=(A.frozen_far _ (by simp;omega) (Ne.symm U)).trans (by simp[cf,World.frozen?_alloc_old,Nat.ne_of_lt an])))
   all_goals
    have O:=aA (Gd H.out F.out A R D);clear D A R q1 qf K;generalize w9.setCell ⟨b,0,none⟩ _=Z at *;go_wp2;go_roundw;(case rel=>exact ⟨j+1,_,by omega,by go_num,by rw[ai.out];exact O.out⟩);case measure=>simp[intOf];omega
  have av:j=y.length:=by omega
  have H:=aA L;clear L;go_wp2;go_ret;rw[HV.out];exact M.out j G wr H.out av
def La (b base mb) (s) (number) (v) (l:List Qt) (N:List (List UInt8×Nat)) (w) (G:aF b [v,.map (some mb)] w) (A:w.ownsRow base 202 9 v l.length (l.flatMap dR)) (I:v.ownBlock≠some b) (M:v.ownBlock≠some mb) (L:mb≠b) (D:base<=w.heap.size) (q:fY mb N w) (T:l.length<=500000) (Y:s.size<=2000) (O:aS w) (nm) (y:nm≠[]) (X:nm.length<=2000) (J:List cQ) (Q:bH s.data.toList=(nm,J,0)) (u:(N.lookup nm).isSome=true):
    Calls prog 141 #[.pointer (some ⟨b,0,none⟩),.string s,.int .i64 number] w λ e w'=>nU b base mb v (ip s.data.toList number l N) w e w':=by
 have R:Hid (ip s.data.toList number l N=(6,l,N)):=aA (by unfold ip;rw[Q];simp[y,u])
 have F:=aA (uf s w Y O);rw[Q]at F;have U:=G.1;have Z:=cP y;go_in;go_wp2_with fail;refine F.out.mono ?_;rintro e w1 ⟨ao,n,cp,rfl,P,j⟩;have H:n=J.length:=qU P;subst H;have E:Hid (Below w.heap.size w (w1.alloc (.cells #[.string ⟨nm.toArray⟩,.slice ao J.length cp] 255))):=aA (j.alloc j.size _);have K:=aA (G.next E.out);obtain ⟨c0,c1⟩:=bE K.out.2.2;have V:=K.out.1;obtain ⟨cq,C⟩:=(q.next E.out.drew).look nm (by unfold maxLen;omega)
 rw[u]at C;clear P j F O;go_wp2_with fail;go_region
 all_goals
  go_wp2;go_ret;rw[R.out];have h:=E.out.drew;exact ⟨rfl,v,G.next h,kI A h,I,q.next h,.inl rfl,h.os,h.tape,h.output,h.size,λ k W _ _ _=>h.block k W⟩
def KV (b base mb) (s) (number) (v) (l:List Qt) (N:List (List UInt8×Nat)) (w) (hC:aF b [v,.map (some mb)] w) (F:w.ownsRow base 202 9 v l.length (l.flatMap dR)) (bn:v.ownBlock≠some b) (au:v.ownBlock≠some mb) (ab:mb≠b) (bg:base<=w.heap.size) (X:fY mb N w) (hn:l.length<=500000) (hs:s.size<=2000) (hE:aS w) (nm) (an:nm≠[]) (c6:nm.length<=2000) (hN:N.length<=1000000) (y:List cQ) (c7:y.length<=1000) (hr:bH s.data.toList=(nm,y,0)) (Y:N.lookup nm=none):
    Calls prog 141 #[.pointer (some ⟨b,0,none⟩),.string s,.int .i64 number] w λ e w'=>nU b base mb v (ip s.data.toList number l N) w e w':=by
 obtain ⟨i0,hi,bq,bs,bu⟩:=info_parts E8;have HV:Hid (ip s.data.toList number l N=(0,l++y.map (kr number),N++[(nm,l.length)])):=aA (by unfold ip;rw[hr];simp[an,Y,kr])
 have HR:=aA (uf s w hs hE);rw[hr]at HR;have cw:=hC.1;have c9:=cP an;go_in;go_wp2_with fail;refine HR.out.mono ?_;rintro e P ⟨ao,n,cp,rfl,hO,G⟩;have bm:n=y.length:=qU hO;subst bm;have HB:Hid (Below w.heap.size w (P.alloc (.cells #[.string ⟨nm.toArray⟩,.slice ao y.length cp] 255))):=aA (G.alloc G.size _);have HC:=aA (hC.next HB.out);obtain ⟨c0,c1⟩:=bE HC.out.2.2;have cx:=HC.out.1;obtain ⟨cq,I⟩:=(X.next HB.out.drew).look nm (by unfold maxLen;omega)
 rw[Y]at I;simp only[Option.isSome]at I;obtain ⟨C,df,D,bp,_⟩:=mF F;subst bp;have bo:=qU F;subst bo;have HL:Hid (aF P.heap.size [.string ⟨nm.toArray⟩,.slice ao y.length cp] (P.alloc (.cells #[.string ⟨nm.toArray⟩,.slice ao y.length cp] 255)).drew):=aA ((aF.new P [.string ⟨nm.toArray⟩,.slice ao y.length cp] 255).next (aU.drew));have HO:=aA (kI (kI hO (aU.alloc zn (.cells #[.string ⟨nm.toArray⟩,.slice ao y.length cp] 255))) (aU.drew));have R:=aA HB.out.drew;have cj:b<P.heap.size:=by have:=G.size;omega
 have db:w.heap.size<=P.heap.size:=G.size;clear G HR hE;go_wp2_with fail;go_region
 all_goals
  go_wp2_with fail;generalize (P.alloc (.cells #[.string ⟨nm.toArray⟩,.slice ao y.length cp] 255)).drew=W2 at *;obtain ⟨J,aq,M,am⟩:=(X.next R.out.drew).put nm (by unfold maxLen;omega) l.length (by omega) hN Y
  have E:=aA R.out.drew;have W:=hC.next R.out;obtain ⟨d0,d1⟩:=bE W.2.2;have e0:=HL.out.2.2 0 _ rfl;have cu:=W.1;have c3:=HL.out.1;have L:=aA am;have a8:=aA M;have a7:=aA (HL.out.next (aU.drew));have U:=aA (kI HO.out (aU.drew));clear am M I;go_region
  all_goals
   have c5:mb<w.heap.size:=X.lt;have av:W2.heap.size<=J.heap.size:=L.out.size;have ac:w.heap.size<=W2.heap.size:=E.out.size;(have a5:Hid (aF b [.slice C l.length D,.map (some mb)] J):=aA (((hC.next E.out)).keeps (bS.of_grown (c:=mb) L.out) (λ e=>ab e.symm) (λ e=>by injection e with e;exact ab e)));(have ah:Hid (aF P.heap.size [.string ⟨nm.toArray⟩,.slice ao y.length cp] J):=aA (a7.out.keeps (bS.of_grown (c:=mb) L.out) (by omega) (λ e=>by injection e with e;omega)));(have a9:=aA (le U.out (w':=J) (λ g hg=>L.out.block g (U.out.lt g hg).2 (λ e=>by injection e with e;have:=(U.out.lt g hg).1;omega))));(have aj:=aA (λ h=>DI a9.out h));(have be:Hid (J.ownsRow base 202 9 (.slice C l.length D) l.length (l.flatMap dR)):=aA (le (kI F E.out) (λ g hg=>L.out.block g ((kI F E.out).lt g hg).2 (λ e=>au (by rw[hg,<-e])))));(have a3:Hid (AS b base mb J (.slice C l.length D) (km l y number 0) (l.length+0) (.slice C l.length D) J):=aA ⟨a5.out,by rw[CL];exact be.out,bn,bS.refl _ _ _,.inl rfl⟩);have bd:Hid (∀g,w.heap.size<=g->(Value.slice C l.length D).ownBlock≠some g):=aA (λ g hg e=>by have:=(F.lt g e).2;omega)
   have ag:Hid (∀j O wr,AS b base mb J (.slice C l.length D) (km l y number j) (l.length+j) O wr->j=y.length->nU b base mb (.slice C l.length D) (0,l++y.map (kr number),N++[(nm,l.length)]) w (.returned (.int .i64 0)) wr):=aA (λ j O wr h hj=>
    EK (Nat.le_trans ac av) (L.out.os.trans E.out.os) (L.out.tape.trans E.out.tape) (L.out.output.trans E.out.output) (λ k hk bk=>(L.out.block k (zl hk ac) (λ e=>bk (by injection e))).trans (E.out.block k hk)) a8.out ab au h hj)
   have l1:=ah.out.2.2 1 _ rfl;have c2:=ah.out.1;have ce:w.heap.size<=J.heap.size:=Nat.le_trans ac av;clear aq d0 d1 e0 W;go_wp2_with fail;(go_loopw [49] (λ k wr=>∃(j:Nat) (O:Value),j<=y.length/\k=.int .i64 j/\AS b base mb J (.slice C l.length D) (km l y number j) (l.length+j) O wr) (λ k _=>y.length-(intOf k).toNat));case atStart=>exact ⟨0,.slice C l.length D,Nat.zero_le _,rfl,a3.out⟩
   case round=>
    obtain ⟨j,O,hj,rfl,hA⟩:=hrel;by_cases aa:j<y.length
    .obtain ⟨x,hx⟩:∃x,y[j]?=some x:=⟨_,zg aa⟩
     (obtain ⟨g,rfl,bh,al,q⟩:=aj.out (by omega));(have u:=hA.k.block g al (by omega) (bd.out g bh));have bb:=aA (CO l y number j x hx);obtain ⟨data,⟨op,rd,rs1,rs2,imm⟩,tg⟩:=x;have p0:=(World.cell?_of_block (a:=⟨g,j*7+0,none⟩) u).trans (q j _ hx 0 _ rfl);have p1:=(World.cell?_of_block (a:=⟨g,j*7+1,none⟩) u).trans (q j _ hx 1 _ rfl);have p2:=(World.cell?_of_block (a:=⟨g,j*7+2,none⟩) u).trans (q j _ hx 2 _ rfl);have p3:=(World.cell?_of_block (a:=⟨g,j*7+3,none⟩) u).trans (q j _ hx 3 _ rfl);have p4:=(World.cell?_of_block (a:=⟨g,j*7+4,none⟩) u).trans (q j _ hx 4 _ rfl);have p5:=(World.cell?_of_block (a:=⟨g,j*7+5,none⟩) u).trans (q j _ hx 5 _ rfl);have p6:=(World.cell?_of_block (a:=⟨g,j*7+6,none⟩) u).trans (q j _ hx 6 _ rfl);simp only[Nat.add_zero]at p0 p1 p2 p3 p4 p5 p6;have bi:g<wr.heap.size:=zl al hA.k.size;(have cy:(j:Int)<y.length:=by omega);have Q:=aA hA;clear hA u q;go_wp2_with fail;have K:Hid (Below wr.heap.size wr (wr.alloc (.cells #[.string ⟨data.toArray⟩,.int .i64 op,.int .i64 rd,.int .i64 rs1,.int .i64 rs2,.int .i64 imm,.string ⟨tg.toArray⟩] 193))):=aA aJ;have T:=aA (Q.out.c.next K.out);have ba:=aA (kI Q.out.o K.out);have HN:Hid (aF wr.heap.size (cY ⟨data,⟨op,rd,rs1,rs2,imm⟩,tg⟩) (wr.alloc (.cells #[.string ⟨data.toArray⟩,.int .i64 op,.int .i64 rd,.int .i64 rs1,.int .i64 rs2,.int .i64 imm,.string ⟨tg.toArray⟩] 193))):=aA (aF.new wr (cY ⟨data,⟨op,rd,rs1,rs2,imm⟩,tg⟩) 193);have dc:=K.out.size;have cz:=Q.out.k.size;have ar:=Q.out.ne;clear p0 p1 p2 p3 p4 p5 p6 bi;generalize wr.alloc (.cells #[.string ⟨data.toArray⟩,.int .i64 op,.int .i64 rd,.int .i64 rs1,.int .i64 rs2,.int .i64 imm,.string ⟨tg.toArray⟩] 193)=V at *;obtain ⟨p0,p1,p2,p3,p4,p5,p6⟩:=fT HN.out.2.2;simp only at p1 p2 p3 p4 p5;have pl:=HN.out.1;have c0:=T.out.2.2 0 _ rfl;have cf:=T.out.2.1 0;have bf:=T.out.1;have ax:base<=V.heap.size:=by omega
     go_region_law
      ((refine step_append_lies _ (by rfl) _ _ _ (by rfl) base 202 i0 _ 9 88 underlying145 hi bq bs bu rfl (by omega) O (l.length+j) (km l y number j) (by rfl) ((ba.out.alloc _).drew)
          ⟨V.heap.size,0,none⟩ 1 1 (dR (kr number ⟨data,⟨op,rd,rs1,rs2,imm⟩,tg⟩)) (by rfl) (by rfl) (World.news_of_block (cs:=(dR (kr number ⟨data,⟨op,rd,rs1,rs2,imm⟩,tg⟩)).toArray) (t:=202) (fr:=(0,0)) (heap_alloc_new V _)) (by simp[Value.oneCell',kr,dR,cY])
          (by omega) (by unfold maxLen;omega) (by omega) (by simp;omega) (V.heap.size+1) (by simp) ?_;intro gg cap w9 H A ak aa;have q1:w9.cell? ⟨b,0,none⟩=some O:=(A.cell_far _ (by simp;omega) (Ne.symm ar)).trans (by simp[c0,World.cell?_alloc_some]);have qf:w9.frozen? ⟨b,0,none⟩=false:=(A.frozen_far _ (by simp;omega) (Ne.symm ar)).trans (by simp[cf,World.frozen?_alloc_old,Nat.ne_of_lt bf])))
     all_goals
      have ai:=aA (Gd Q.out K.out A ak H);clear H A ak q1 qf aa;generalize w9.setCell ⟨b,0,none⟩ _=Z at *;go_wp2;go_roundw;(case rel=>exact ⟨j+1,_,by omega,by go_num,by rw[bb.out];exact ai.out⟩);case measure=>simp[intOf];omega
    (have bj:j=y.length:=by omega);have Q:=aA hA;clear hA;go_wp2;go_ret;rw[HV.out];exact ag.out j O wr Q.out bj
def iq (ss:List (List UInt8)) (j:Nat):Int:=(ip (ss.getD j []) (j+1) (eJ ss j).1 (eJ ss j).2).1
def kp (l:List Qt) (N:List (List UInt8×Nat)) (k:Nat):Bool:=match l[k]? with|some x=>!x.p.tg.isEmpty&&(N.lookup x.p.tg).isNone|none=>false
def cJ (ss:List (List UInt8)):Int×Int×List Qt×List (List UInt8×Nat):=
 match (List.range ss.length).find? (λ j=>!(iq ss j==0)) with
 | some j=>(iq ss j,j+1,[],[])
 | none=>match (List.range (eJ ss ss.length).1.length).find? (kp (eJ ss ss.length).1 (eJ ss ss.length).2) with
  | some k=>(7,(match (eJ ss ss.length).1[k]? with|some x=>x.line|none=>0),[],[])
  | none=>(0,0,(eJ ss ss.length).1,(eJ ss ss.length).2)
def To (b base mb j) (s) (number) (v) (l:List Qt) (N:List (List UInt8×Nat)) (w) (G:aF b [v,.map (some mb)] w) (u:w.ownsRow base 202 9 v l.length (l.flatMap dR)) (C:v.ownBlock≠some b) (D:v.ownBlock≠some mb) (A:mb≠b) (h:base<=w.heap.size) (y:fY mb N w) (L:tG j l N) (P:j<=100000) (J:s.size<=2000) (H:aS w):
    Calls prog 141 #[.pointer (some ⟨b,0,none⟩),.string s,.int .i64 number] w λ e w'=>nU b base mb v (ip s.data.toList number l N) w e w':=by
 obtain ⟨M,O,_⟩:=F2 s.data.toList;have Q:=L.len;have R:=L.nl;generalize I:bH s.data.toList=X at *;obtain ⟨nm,K,er⟩:=X;simp only at M O;by_cases F:er=0
 .subst F
  by_cases E:nm=[]
  .subst E
   exact KO b base mb s number v l N w G u C D A h y (by omega) J H K (by omega) I
  cases hlk:N.lookup nm with
  | none=>exact KV b base mb s number v l N w G u C D A h y (by omega) J H nm E (by omega) (by omega) K (by omega) I hlk
  | some q=>exact La b base mb s number v l N w G u C D A h y (by omega) J H nm E (by omega) K I (by rw[hlk];rfl)
 exact Pw b base mb s number v l N w G u C D A h y (by omega) J H er (by rw[I]) F
structure RQ (w0:World) (ss:List Value) (l:List Qt) (N:List (List UInt8×Nat)) (v:Value) (w:World):Prop where
 r:aF w0.heap.size [.slice none 0 0,.map none] w
 e:aF (w0.heap.size+1) [.int .i64 0,.int .i64 0] w
 m:fY (w0.heap.size+2) N w
 p:aF (w0.heap.size+3) [v,.map (some (w0.heap.size+2))] w
 s:aF (w0.heap.size+4) ss w
 o:w.ownsRow (w0.heap.size+5) 202 9 v l.length (l.flatMap dR)
 b:Below w0.heap.size w0 w
def RQ.next {l:List Qt} {N:List (List UInt8×Nat)} (h:RQ w0 ss l N v w) (j:Below w.heap.size w w'):RQ w0 ss l N v w':=
 ⟨h.r.next j,h.e.next j,h.m.next j,h.p.next j,h.s.next j,kI h.o j,h.b.trans (j.mono h.b.size)⟩
def ue (h:aF b vs w) (y:w.heap.size<=w'.heap.size) (e:w'.heap[b]?=w.heap[b]?):aF b vs w':=
 ⟨zl h.1 y,λ q=>(World.frozen?_of_block (a:=⟨b,q,none⟩) e).trans (h.2.1 q),λ j u v=>(World.cell?_of_block (a:=⟨b,j,none⟩) e).trans (h.2.2 j u v)⟩
def RQ.more {l:List Qt} {N:List (List UInt8×Nat)} {r:Int×List Qt×List (List UInt8×Nat)} {e:Ending} (h:RQ w0 ss l N v w) (H:nU (w0.heap.size+3) (w0.heap.size+5) (w0.heap.size+2) v r w e w'):
    ∃F,RQ w0 ss r.2.1 r.2.2 F w':=by
 obtain ⟨_,F,L,K,J,A,G,C,E,D,q,j⟩:=H;have y:∀d,d<w0.heap.size+5->v.ownBlock≠some d:=λ d O e=>by have:=(h.o.lt d e).1;omega
 have M:=h.s.1;refine ⟨F,ue h.r q (j _ h.r.1 (by omega) (by omega) (y _ (by omega))),ue h.e q (j _ h.e.1 (by omega) (by omega) (y _ (by omega))),A,L,ue h.s q (j _ h.s.1 (by omega) (by omega) (y _ (by omega))),K,?_⟩
 have u:=h.b;exact ⟨C.trans u.os,E.trans u.tape,D.trans u.output,Nat.le_trans u.size q,λ k I=>(j k (by have:=u.size;omega) (by omega) (by omega) (y k (by omega))).trans (u.block k I)⟩
def O1 (w) (ss):RQ w ss [] [] (.slice none 0 0) (((((w.alloc (.cells #[.slice none 0 0,.map none] 148)).alloc (.cells #[.int .i64 0,.int .i64 0] 39)).alloc (.map #[] 0)).alloc (.cells #[.slice none 0 0,.map (some (w.heap.size+1+1))] 148)).alloc (.cells ss.toArray 9)):=by
 have y:=aF.new w [.slice none 0 0,.map none] 148;have h:=aF.new (w.alloc (.cells #[.slice none 0 0,.map none] 148)) [.int .i64 0,.int .i64 0] 39;have j:=World.ownsMap_made (H:=Unit) ((w.alloc (.cells #[.slice none 0 0,.map none] 148)).alloc (.cells #[.int .i64 0,.int .i64 0] 39)) prog 9 (plainElem prog 3);have q:=aF.new (((w.alloc (.cells #[.slice none 0 0,.map none] 148)).alloc (.cells #[.int .i64 0,.int .i64 0] 39)).alloc (.map #[] 0)) [.slice none 0 0,.map (some (w.heap.size+1+1))] 148;have u:=aF.new ((((w.alloc (.cells #[.slice none 0 0,.map none] 148)).alloc (.cells #[.int .i64 0,.int .i64 0] 39)).alloc (.map #[] 0)).alloc (.cells #[.slice none 0 0,.map (some (w.heap.size+1+1))] 148)) ss 9;simp only[za]at h j q u;exact ⟨(((y.alloc _).alloc _).alloc _).alloc _,((h.alloc _).alloc _).alloc _,⟨0,.map [],zn,(j.alloc _).alloc _,λ C=>⟨rfl,λ v A=>by cases A⟩⟩,q.alloc _,u,World.ownsRow_nil _ _ _ _,(Ie w _ _ _ _).alloc (by simp only[za];omega) _⟩
def IG (r:Int×Int×List Qt×List (List UInt8×Nat)) (w:World) (e:Ending) (w':World):Prop:=
 ∃ao n cp mo,e=.returned (.tuple #[.agg #[.slice ao n cp,.map mo],.agg #[.int .i64 r.1,.int .i64 r.2.1]])/\Below w.heap.size w w'/\
  (r.1=0->∃mb,mo=some mb/\w.heap.size<=mb/\fY mb r.2.2.2 w'/\w'.ownsRow w.heap.size 202 9 (.slice ao n cp) r.2.2.1.length (r.2.2.1.flatMap dR)/\(Value.slice ao n cp).ownBlock≠some mb)
def D0 {er ln:Int} {l:List Qt} {N:List (List UInt8×Nat)} (j:Below w.heap.size w w') (h:er≠0):IG (er,ln,l,N) w (.returned (.tuple #[.agg #[.slice none 0 0,.map none],.agg #[.int .i64 er,.int .i64 ln]])) w':=
 ⟨_,_,_,_,rfl,j,λ e=>absurd e h⟩
def Gh {l:List Qt} (h:w.ownsRow base 202 9 (.slice ao ln cp) l.length (l.flatMap dR)) (M:0<l.length):
    ∃g,ao=some ⟨g,0,none⟩/\base<=g/\g<w.heap.size/\(∀q,w.frozen? ⟨g,q,none⟩=false)/\∀k x,l[k]?=some x->∀j u,(dR x)[j]?=some u->w.cell? ⟨g,k*9+j,none⟩=some u:=by
 have v:=h;obtain ⟨J,⟨C,I⟩|⟨g,cap,F,C,G,L,K⟩⟩:=h
 .omega
 simp at C;obtain ⟨rfl,rfl,rfl⟩:=C;refine ⟨g,rfl,G,(v.lt g rfl).2,λ q=>v.frozenAt q,λ k x D j u E=>?_⟩
 have A:k<l.length:=(kz D).2
 have H:j<9:=by
  have:=(List.getElem?_eq_some_iff.1 E).1;simpa[dR,cY] using this
 have y:=jF dR 9 (λ _=>rfl) l k j H A
 rw[D]at y;simp only[zd]at y;have:=v.cells (g:=g) rfl (9*k+j) _ (y.trans E)
 have e:(⟨g,0,none⟩:Addr).add (9*k+j)=⟨g,k*9+j,none⟩:=by
  simp only[Addr.add];rw[Nat.mul_comm 9 k];simp;omega
 rw[e]at this;exact this
def Jq (s) (ls:List ByteArray) (w) (hE:aS w) (hs:s.size<=2000) (an:Lib.splitB ⟨#[10]⟩ 0 (Lib.countB s ⟨#[10]⟩) s=ls) (aq:∀t∈ls,t.size<=2000):
    Calls prog 79 #[.string s] w λ e w'=>IG (cJ (ls.map (·.data.toList))) w e w':=by
 have a5:Lib.countB s ⟨#[10]⟩+1=ls.length:=by rw[<-an,Lib.splitB_all ⟨#[10]⟩ (by decide) 0 _ s rfl]
 have b9:=@run_makeMap prog;have U:=aA (λ W m hm=>strings_Split s ⟨#[10]⟩ m W (by omega) hm (by decide))
 rw[an,a5]at U;have az:=aA (λ w' (E:Below w.heap.size w w')=>hE.below E hE.1)
 have ca:ls.length<=2001:=by
  have:=Lib.countB_mul_le ⟨#[10]⟩ (by decide) _ s zn
  have Y:(⟨#[10]⟩:ByteArray).size=1:=rfl;rw[Y]at this;omega
 have a0:=aA aq;have X:Hid (∀(j:Nat) (t:ByteArray),ls[j]?=some t->(ls.map (·.data.toList)).getD j []=t.data.toList):=aA (λ j t h=>by simp[List.getD,h])
 have L:Hid ((ls.map (·.data.toList)).length=ls.length):=aA (by simp)
 obtain ⟨m,ar⟩:=hE.2.2.1;have b5:=hE.1;have ah:Hid (cJ (ls.map (·.data.toList))=cJ (ls.map (·.data.toList))):=aA rfl
 generalize al:ls.map (·.data.toList)=ss at X L ah
 have b0:=aA al;clear hE aq al ah;go_in;go_wp2_with fail;refine zK (U.out _ m ((Ie w _ _ _ _).cell (p:=⟨0,0,none⟩) (by show 0<w.heap.size;omega) |>.trans ar)) λ w1 av=>?_
 have a1:Hid (RQ w (ls.map Value.string) [] [] (.slice none 0 0) w1):=aA (by
  subst av;exact O1 w _)
 clear av U ar;go_wp2_with fail;go_loopw [17] (λ i wr=>∃(j:Nat) (v:Value),j<=ls.length/\i=.int .i64 (j:Nat)/\(∀k,k<j->iq ss k=0)/\RQ w (ls.map Value.string) (eJ ss j).1 (eJ ss j).2 v wr) (λ i _=>ls.length-(intOf i).toNat)
 case atStart=>exact ⟨0,_,Nat.zero_le _,rfl,λ k O=>by omega,a1.out⟩
 case round=>
  obtain ⟨j,v,hj,rfl,am,D⟩:=hrel;have Q:=aA am;clear am;by_cases J:j<ls.length
  .obtain ⟨t,ht⟩:∃t,ls[j]?=some t:=⟨_,zg J⟩
   have HR:=aA D;(have cs:=D.s.2.2 j (.string t) (by simp[ht]));have cc:=D.s.1;(have a4:(j:Int)<ls.length:=by omega);(have bc:(j:Int)<1000000:=by omega);have HA:=aA (To (w.heap.size+3) (w.heap.size+5) (w.heap.size+2) j t ((j:Int)+1) v (eJ ss j).1 (eJ ss j).2 wr D.p D.o (λ e=>by have:=(D.o.lt _ e).1;omega) (λ e=>by have:=(D.o.lt _ e).1;omega) (by omega) (by have:=D.s.1;omega) D.m (ve ss j) (by omega) (a0.out t (List.mem_of_getElem? ht)) (az.out wr D.b))
   have ac:Hid (ip t.data.toList ((j:Int)+1) (eJ ss j).1 (eJ ss j).2=(iq ss j,eJ ss (j+1))):=aA (by
    unfold iq;rw[eJ,X.out j t ht])
   rw[ac.out]at HA;clear D ht ac;go_wp2_with fail;refine HA.out.mono ?_;rintro e w2 P;obtain ⟨v',ak⟩:=HR.out.more P;obtain ⟨rfl,_⟩:=P;have C:=aA ak;clear ak HA;by_cases I:iq ss j=0
   .have ag:Hid (∀k,k<j+1->iq ss k=0):=aA (λ k O=>by
     rcases Nat.lt_or_ge k j with h|h
     .exact Q.out k h
     (have:k=j:=by omega);rw[this];exact I)
    rw[I];go_wp2;go_roundw;(case rel=>exact ⟨j+1,v',by omega,by go_num,ag.out,C.out⟩);case measure=>simp[intOf];omega
   have HV:Hid (cJ ss=(iq ss j,(j:Int)+1,[],[])):=aA (by
    unfold cJ;rw[xJ (n:=ss.length) (by rw[L.out];exact J) (λ k O=>by rw[Q.out k O];rfl) (by simpa using I)])
   generalize iq ss j=er at *;(have b4:(er != 0)=true:=by simpa using I);(have b3:(er==0)=false:=by simpa using I);obtain ⟨r0,r1⟩:=bE C.out.r.2.2;have rf:=C.out.r.2.1;have rl:=C.out.r.1;obtain ⟨e0,Y⟩:=bE C.out.e.2.2;have ef:=C.out.e.2.1;have el:=C.out.e.1;have HB:=aA C.out.b;clear C HR X;go_wp2;(refine zp (v:=.tuple #[.agg #[.slice none 0 0,.map none],.agg #[.int .i64 er,.int .i64 ((j:Int)+1)]]) (by simp[results,results79,go_sem,r0,r1,e0,Y]) rfl ?_);rw[HV.out];exact D0 ((((HB.out.setCell (by simp) _).setCell (by simp) _).setCell (by simp) _).setCell (by simp) _) I
  have Z:j=ls.length:=by omega
  subst Z
  have M:Hid (cJ ss=match (List.range (eJ ss ss.length).1.length).find? (kp (eJ ss ss.length).1 (eJ ss ss.length).2) with
   | some k=>(7,(match (eJ ss ss.length).1[k]? with|some x=>x.line|none=>0),[],[])
   | none=>(0,0,(eJ ss ss.length).1,(eJ ss ss.length).2)):=aA (by
   conv=>lhs;unfold cJ
   rw[lX _ ss.length (λ k O=>by rw[Q.out k (by rw[<-L.out];exact O)];rfl)]
   all_goals rfl)
  rw[L.out]at M;have T:=aA (ve ss ls.length);generalize eJ ss ls.length=LN at *;obtain ⟨l,N⟩:=LN;simp only at D M T;have HR:=aA D;obtain ⟨ao,ln,cp,a9,_⟩:=mF D.o;subst a9;have a6:=qU D.o;subst a6;have c0:=D.p.2.2 0 _ rfl;have cb:=D.p.1;obtain ⟨wa,ba⟩:∃x,x=wr:=⟨_,rfl⟩;subst ba;have bd:=T.out.len;clear D;go_wp2_with fail;go_loopw [37] (λ i wx=>∃j:Nat,j<=l.length/\i=.int .i64 j/\(∀k,k<j->kp l N k=false)/\Below wa.heap.size wa wx) (λ i _=>l.length-(intOf i).toNat)
  case atStart=>exact ⟨0,Nat.zero_le _,rfl,λ k O=>by omega,aU⟩
  case round=>
   obtain ⟨j,hj,rfl,au,E⟩:=hrel;have K:=aA au;clear au;by_cases J:j<l.length
   .obtain ⟨x,hx⟩:∃x,l[j]?=some x:=⟨_,zg J⟩
    (obtain ⟨g,rfl,b6,A,a3,y⟩:=Gh HR.out.o (by omega));have u:=aA (HR.out.next E);have af:=aA E;(have H:Hid (kp l N j=(!x.p.tg.isEmpty&&(N.lookup x.p.tg).isNone)):=aA (by simp only[kp,hx]));have a8:=(T.out.pt x (List.mem_of_getElem? hx)).2.1;have HX:=aA hx;obtain ⟨⟨data,⟨op,rd,rs1,rs2,imm⟩,tg⟩,line,size⟩:=x;simp only at H a8;have gl:g<wr.heap.size:=zl A E.size;have p0:=(E.cell (p:=⟨g,j*9+0,none⟩) A).trans (y j _ hx 0 _ rfl);have p1:=(E.cell (p:=⟨g,j*9+1,none⟩) A).trans (y j _ hx 1 _ rfl);have p2:=(E.cell (p:=⟨g,j*9+2,none⟩) A).trans (y j _ hx 2 _ rfl);have p3:=(E.cell (p:=⟨g,j*9+3,none⟩) A).trans (y j _ hx 3 _ rfl);have p4:=(E.cell (p:=⟨g,j*9+4,none⟩) A).trans (y j _ hx 4 _ rfl);have p5:=(E.cell (p:=⟨g,j*9+5,none⟩) A).trans (y j _ hx 5 _ rfl);have p6:=(E.cell (p:=⟨g,j*9+6,none⟩) A).trans (y j _ hx 6 _ rfl);have p7:=(E.cell (p:=⟨g,j*9+7,none⟩) A).trans (y j _ hx 7 _ rfl);have p8:=(E.cell (p:=⟨g,j*9+8,none⟩) A).trans (y j _ hx 8 _ rfl);simp only[Nat.add_zero]at p0 p1 p2 p3 p4 p5 p6 p7 p8;(have a4:(j:Int)<l.length:=by omega);have c1:=u.out.p.2.2 1 _ rfl;have bg:=u.out.p.1;have ae:=aA (af.out.alloc af.out.size (.cells #[.string ⟨data.toArray⟩,.int .i64 op,.int .i64 rd,.int .i64 rs1,.int .i64 rs2,.int .i64 imm,.string ⟨tg.toArray⟩,.int .i64 line,.int .i64 size] 202));(obtain ⟨cq,F⟩:=(u.out.m.next (aU.alloc zn (.cells #[.string ⟨data.toArray⟩,.int .i64 op,.int .i64 rd,.int .i64 rs1,.int .i64 rs2,.int .i64 imm,.string ⟨tg.toArray⟩,.int .i64 line,.int .i64 size] 202))).look tg (by unfold maxLen;omega));clear E hx c0 y a3;by_cases ht:tg=[]
    .subst ht
     have R:Hid (∀k,k<j+1->kp l N k=false):=aA (λ k O=>by
      rcases Nat.lt_or_ge k j with h|h
      .exact K.out k h
      (have:k=j:=by omega);rw[this,H.out];rfl)
     go_wp2;go_roundw;(case rel=>exact ⟨j+1,by omega,by go_num,R.out,ae.out⟩);case measure=>simp[intOf];omega
    have a7:=cP ht
    cases hlk:N.lookup tg with
    | some q=>
     rw[hlk]at F H;simp only[Option.isSome]at F
     have R:Hid (∀k,k<j+1->kp l N k=false):=aA (λ k O=>by
      rcases Nat.lt_or_ge k j with h|h
      .exact K.out k h
      (have:k=j:=by omega);rw[this,H.out];simp)
     clear hlk;go_wp2;go_roundw;(case rel=>exact ⟨j+1,by omega,by go_num,R.out,ae.out⟩);case measure=>simp[intOf];omega
    | none=>
     rw[hlk]at F H;simp only[Option.isSome]at F
     have HV:Hid (cJ ss=(7,line,[],[])):=aA (by
      (rw[M.out,xJ J K.out (by rw[H.out,a7];rfl)]);simp only[HX.out])
     have G:=aA (u.out.next (aU.alloc zn (.cells #[.string ⟨data.toArray⟩,.int .i64 op,.int .i64 rd,.int .i64 rs1,.int .i64 rs2,.int .i64 imm,.string ⟨tg.toArray⟩,.int .i64 line,.int .i64 size] 202)));have ay:=aA G.out.b;clear hlk;go_wp2_with fail;obtain ⟨r0,r1⟩:=bE G.out.r.2.2;have rf:=G.out.r.2.1;have rl:=G.out.r.1;obtain ⟨e0,Y⟩:=bE G.out.e.2.2;have ef:=G.out.e.2.1;have el:=G.out.e.1;have k7:=(aF.new wr [.string ⟨data.toArray⟩,.int .i64 op,.int .i64 rd,.int .i64 rs1,.int .i64 rs2,.int .i64 imm,.string ⟨tg.toArray⟩,.int .i64 line,.int .i64 size] 202).2.2 7 _ rfl;have kl:=(aF.new wr [.string ⟨data.toArray⟩,.int .i64 op,.int .i64 rd,.int .i64 rs1,.int .i64 rs2,.int .i64 imm,.string ⟨tg.toArray⟩,.int .i64 line,.int .i64 size] 202).1;(have be:wr.heap.size≠w.heap.size:=by have:=u.out.r.1;omega);(have bf:wr.heap.size≠w.heap.size+1:=by have:=u.out.e.1;omega);clear p0 p1 p2 p3 p4 p5 p6 p7 p8 F c1;generalize wr.alloc _=V at *;go_region
     all_goals
      go_wp2;(refine zp (v:=.tuple #[.agg #[.slice none 0 0,.map none],.agg #[.int .i64 7,.int .i64 line]]) (by simp[results,results79,go_sem,r0,r1,e0,Y]) rfl ?_);rw[HV.out];exact D0 (((((ay.out.setCell (by simp) _).setCell (by simp) _).setCell (by simp) _).setCell (by simp) _).drew) (by decide)
   (have Z:j=l.length:=by omega);subst Z;(have HV:Hid (cJ ss=(0,0,l,N)):=aA (by rw[M.out,lX _ l.length K.out]));have u:=aA (HR.out.next E);obtain ⟨y0,y1⟩:=bE u.out.p.2.2;obtain ⟨r0,r1⟩:=bE u.out.r.2.2;have rf:=u.out.r.2.1;have rl:=u.out.r.1;obtain ⟨e0,Y⟩:=bE u.out.e.2.2;have ef:=u.out.e.2.1;have el:=u.out.e.1;clear E c0;go_wp2;(refine zp (v:=.tuple #[.agg #[.slice ao l.length cp,.map (some (w.heap.size+2))],.agg #[.int .i64 0,.int .i64 0]]) (by simp[results,results79,go_sem,r0,r1,e0,Y]) rfl ?_);rw[HV.out];refine ⟨_,_,_,_,rfl,(((u.out.b.setCell (by simp) _).setCell (by simp) _).setCell (by simp) _).setCell (by simp) _,λ _=>⟨_,rfl,by omega,?_,?_,λ e=>by have:=(u.out.o.lt _ e).1;omega⟩⟩
   .exact u.out.m.block (((Below.heap_setCell _ _ _ _ (λ e=>by have e':w.heap.size+2=w.heap.size+1:=e;omega)).trans (Below.heap_setCell _ _ _ _ (λ e=>by have e':w.heap.size+2=w.heap.size+1:=e;omega))).trans ((Below.heap_setCell _ _ _ _ (λ e=>by have e':w.heap.size+2=w.heap.size:=e;omega)).trans (Below.heap_setCell _ _ _ _ (λ e=>by have e':w.heap.size+2=w.heap.size:=e;omega))))
   exact sC (pH (pH (pH (pH u.out.o _ _ _ (by omega)) _ _ _ (by omega)) _ _ _ (by omega)) _ _ _ (by omega)) (by omega)
