import Derived.Test.YtbmcofdodfcnnaaGreatDoorGNA
set_option linter.all false
set_option maxHeartbeats 0
set_option maxRecDepth 100000
namespace Go
open Proofs.Tryz RowKit Maps
variable {b g cap mb base j n : Nat} {ao pa : Option Addr} {w w' w0 : World} {P : List Int} {bs ys : List UInt8}
def PQ.size {l l':List Qt} {N:List (List UInt8×Nat)} (j) (x:Qt) (v) (h:PQ b g cap mb ao l N w) (hx:l[j]?=some x) (M:l'.length=l.length) (K:l'[j]?=some ⟨x.p,x.line,v⟩) (L:∀k,k≠j->l'[k]?=l[k]?):
    PQ b g cap mb ao l' N (w.setCell ⟨g,j*9+8,none⟩ (.int .i64 v)):=by
 have A:=(kz hx).1;have D:(w.setCell ⟨g,j*9+8,none⟩ (.int .i64 v)).heap[b]?=w.heap[b]?:=Below.heap_setCell _ _ _ _ (λ e=>h.ne e)
 have G:(w.setCell ⟨g,j*9+8,none⟩ (.int .i64 v)).heap[mb]?=w.heap[mb]?:=Below.heap_setCell _ _ _ _ (λ e=>h.mg A e)
 refine ⟨?_,(World.cell?_of_block (a:=⟨b,1,none⟩) D).trans h.c1,?_,λ q=>(World.frozen?_of_block (a:=⟨b,q,none⟩) D).trans (h.fb q),h.ne,h.nm.block G,λ _=>h.mg A,λ _=>h.ad A,λ _=>?_,λ _ q=>by rw[World.frozen?_setCell];exact h.fg A q,λ k y C i u E=>?_⟩
 .rw[M];exact (World.cell?_of_block (a:=⟨b,0,none⟩) D).trans h.c0
 .simpa[World.setCell] using h.bl
 .simpa[World.setCell] using h.gl A
 by_cases e:k=j
 .subst e
  rw[K]at C;cases C
  by_cases J:i=8
  .subst J
   (have:u=.int .i64 v:=by simpa[dR,cY] using E.symm);rw[this];exact World.cell?_setCell_same' _ _ _ (by rw[h.at' k _ hx 8 _ rfl];rfl)
  have H:(dR x)[i]?=some u:=by
   have F:i<9:=by
    have:=(List.getElem?_eq_some_iff.1 E).1;simpa[dR,cY] using this
   rw[<-E];(have:i=0\/i=1\/i=2\/i=3\/i=4\/i=5\/i=6\/i=7:=by omega);rcases this with rfl|rfl|rfl|rfl|rfl|rfl|rfl|rfl<;>rfl
  rw[World.cell?_setCell_other _ _ _ _ (by intro e;injection e with _ e;omega)]
  exact h.at' k _ hx i u H
 rw[L k e]at C
 have F:i<9:=by
  have:=(List.getElem?_eq_some_iff.1 E).1;simpa[dR,cY] using this
 rw[World.cell?_setCell_other _ _ _ _ (by intro I;injection I with _ I;omega)]
 exact h.at' k y C i u E
def IA.kept (h:IA pa P base w) (v:aN g w w') (E:g<base):IA pa P base w':=
 ⟨λ j D=>by
  obtain ⟨q,e,y,u,A⟩:=h.at' j D;have C:=v.block q u (by omega)
  exact ⟨q,e,y,zl u v.size,(World.cell?_of_block (a:=⟨q,j,none⟩) C).trans A⟩⟩
def dW.grw {l:List Qt} {N:List (List UInt8×Nat)} (h:dW l N) (P) (j):dW (grw P N l j) N:=by
 intro x hx w;obtain ⟨k,q⟩:=List.getElem?_of_mem hx;have u:k<l.length:=by have:=(kz q).2;rwa[nL]at this
 obtain ⟨y,hy⟩:∃y,l[k]?=some y:=⟨_,zg u⟩;rw[kB hy]at q
 have e:x.p=y.p:=by
  injection q with q
  rw[<-q]
  split<;>rfl
 rw[e]at w ⊢;obtain ⟨A,v,C,D⟩:=h y (List.mem_of_getElem? hy) w;exact ⟨A,v,C,by rw[nL];exact D⟩
def RL {N:List (List UInt8×Nat)} {l:List Qt} {x:Qt} (h:l[j]?=some x) (q:j6 P N j x=true):(grw P N l (j+1))[j]?=some ⟨x.p,x.line,4⟩/\∀k,k≠j->(grw P N l (j+1))[k]?=(grw P N l j)[k]?:=by
 refine ⟨by rw[kB h,zt ⟨by omega,q⟩],λ k u=>?_⟩
 cases hy:l[k]? with
 | none=>simp[grw,hy]
 | some y=>
  rw[kB hy,kB hy];have:k<j+1↔k<j:=by omega
  simp only[this]
def OP (b g cap mb) (ao) (l:List Qt) (N:List (List UInt8×Nat)) (P) (pa) (base cp) (w) (h:PQ b g cap mb ao l N w) (hT:dW l N) (hn:l.length<=1000000) (hP:P.length=l.length+1) (R:IA pa P base w) (ak:0<l.length->g<base) (T:∀j,0<=P.getD j 0/\P.getD j 0<=100000000):
    Calls prog 144 #[.pointer (some ⟨b,0,none⟩),.slice pa P.length cp] w λ e w'=>e=.returned (.bool (kD P N l l.length))/\PQ b g cap mb ao (grw P N l l.length) N w'/\aN g w w':=by
 have HP:=aA h;have HT:=aA hT;have HI:=aA R;have ag:=aA T;have c0:=h.c0;have af:=aA hP;clear h hT R T hP;go_in;go_wp2_with fail;clear c0;go_loopw [5,13] (λ a i wr=>∃j:Nat,j<=l.length/\a=.bool (kD P N l j)/\i=.int .i64 j/\PQ b g cap mb ao (grw P N l j) N wr/\aN g w wr) (λ _ i _=>l.length-(intOf i).toNat)
 case atStart=>exact ⟨0,Nat.zero_le _,rfl,rfl,by rw[ON];exact HP.out,aN.refl _ _⟩
 case round=>
  obtain ⟨j,hj,rfl,rfl,u,hK⟩:=hrel;by_cases am:j<l.length
  .obtain ⟨x,hx⟩:∃x,l[j]?=some x:=⟨_,zg am⟩
   (have q:(grw P N l j)[j]?=some x:=by rw[kB hx,aC (λ h=>Nat.lt_irrefl _ h.1)]);have A:=(kz q).1;obtain rfl:=u.ad A;have HX:=aA hx;(have K:=aA (λ W (hB:Below wr.heap.size wr W)=>CR b g cap mb _ (grw P N l j) N j x P pa base cp W (u.next hB) q (HT.out.grw P j) (by rw[nL];exact af.out) ((HI.out.kept hK (ak (by omega))).next hB) ag.out));have D:=aA (Dm P N l j hx);(have H:=aA (λ v=>Ti (P:=P) (N:=N) hx v));(have M:=aA (λ v=>RL (P:=P) (N:=N) hx v));have C:Hid (j6 P N j x=(!x.p.tg.isEmpty&&(x.size==2)&&!((bQ (gD P N j x.p)).2==0))):=aA rfl;(have I:=aA (λ W=>BX (gD P N j x.p) W));have ai:=aA q;generalize gD P N j x.p=J at *;obtain ⟨aq,ar,aa,ab,Z⟩:=J;generalize bQ ⟨aq,ar,aa,ab,Z⟩=SJ at *;obtain ⟨sn,se⟩:=SJ;unfold aE.val at K I;simp only at K I C;obtain ⟨⟨data,i,tg⟩,line,size⟩:=x;have gl:=u.gl A;have bl:=u.bl;have aj:=u.fg A;(have cb:wr.cell? ⟨b,0,none⟩=some (.slice (some ⟨g,0,none⟩) l.length cap):=by have:=u.c0;rwa[nL]at this);have p0:=u.at' j _ q 0 _ rfl;have p1:=u.at' j _ q 1 _ rfl;have p2:=u.at' j _ q 2 _ rfl;have p3:=u.at' j _ q 3 _ rfl;have p4:=u.at' j _ q 4 _ rfl;have p5:=u.at' j _ q 5 _ rfl;have p6:=u.at' j _ q 6 _ rfl;have p7:=u.at' j _ q 7 _ rfl;have p8:=u.at' j _ q 8 _ rfl;simp only[Nat.add_zero]at p0 p1 p2 p3 p4 p5 p6 p7 p8;(have be:(j:Int)<l.length:=by omega);have F:=aA u;have E:=aA hK;clear u hK hx q;simp only at C;by_cases ht:tg=[]
   .subst ht
    (have v:j6 P N j ⟨⟨data,i,[]⟩,line,size⟩=false:=by rw[C.out];rfl);go_wp2;go_roundw;(case rel=>exact ⟨j+1,by omega,by rw[D.out,v,Bool.or_false],by go_num,by rw[H.out v];exact F.out.next aJ,oc E.out aJ⟩);case measure=>simp[intOf];omega
   have an:=cP ht;by_cases U:size=2
   .subst U
    have G:Hid (Below wr.heap.size wr (wr.alloc (.cells #[.string ⟨data.toArray⟩,.int .i64 i.op,.int .i64 i.rd,.int .i64 i.rs1,.int .i64 i.rs2,.int .i64 i.imm,.string ⟨tg.toArray⟩,.int .i64 line,.int .i64 2] 202))):=aA aJ;go_wp2_with fail;generalize wr.alloc _=W at *;refine zK (K.out _ G.out) λ w1 O=>?_;have L:=aA (G.out.trans (O.mono G.out.size));clear O;go_wp2_with fail;refine zK (I.out _) λ w2 Q=>?_;have y:=aA (L.out.trans (Q.mono L.out.size));have bd:=(y.out.cell (p:=⟨b,0,none⟩) bl).trans cb;have q8:=(y.out.cell (p:=⟨g,j*9+8,none⟩) gl).trans p8;have f8:=(y.out.frozen (p:=⟨g,j*9+8,none⟩) gl).trans (aj _);clear Q p0 p1 p2 p3 p4 p5 p6 p7 p8;by_cases X:se=0
    .subst X
     (have v:j6 P N j ⟨⟨data,i,tg⟩,line,2⟩=false:=by rw[C.out];simp);go_wp2;go_roundw;(case rel=>exact ⟨j+1,by omega,by rw[D.out,v,Bool.or_false],by go_num,by rw[H.out v];exact F.out.next y.out,oc E.out y.out⟩);case measure=>simp[intOf];omega
    (have Y:(se==0)=false:=by simpa using X);(have v:j6 P N j ⟨⟨data,i,tg⟩,line,2⟩=true:=by rw[C.out,an,Y];rfl);(have ah:=aA ((F.out.next y.out).size (l':=grw P N l (j+1)) j _ 4 ai.out (by rw[nL,nL]) (M.out v).1 (M.out v).2));have ae:=aA ((oc E.out y.out).trans (aN.setCell g w2 (j*9+8) (.int .i64 4)));go_wp2;go_roundw;(case rel=>exact ⟨j+1,by omega,by rw[D.out,v,Bool.or_true],by go_num,ah.out,ae.out⟩);case measure=>simp[intOf];omega
   (have V:(size==2)=false:=by simpa using U);(have v:j6 P N j ⟨⟨data,i,tg⟩,line,size⟩=false:=by rw[C.out,V];simp);go_wp2;go_roundw;(case rel=>exact ⟨j+1,by omega,by rw[D.out,v,Bool.or_false],by go_num,by rw[H.out v];exact F.out.next aJ,oc E.out aJ⟩);case measure=>simp[intOf];omega
  have al:j=l.length:=by omega
  subst al;go_wp2;go_ret;exact ⟨rfl,u,hK⟩
def dW.same {l l':List Qt} {N:List (List UInt8×Nat)} (h:dW l N) (q:l'.length=l.length) (D:∀(k:Nat) (x y:Qt),l'[k]?=some x->l[k]?=some y->x.p=y.p):dW l' N:=by
 intro x hx u;obtain ⟨k,j⟩:=List.getElem?_of_mem hx;obtain ⟨y,hy⟩:=pL q j;rw[D k x y j hy]at u ⊢;obtain ⟨w,v,A,C⟩:=h y (List.mem_of_getElem? hy) u;exact ⟨w,v,A,by rw[q];exact C⟩
def dW.fszs {l:List Qt} {N:List (List UInt8×Nat)} (h:dW l N) (short) (j):dW (fszs short l j) N:=
 h.same (nB _ _ _) λ k x y hx hy=>by
  rw[nI hy]at hx;cases hx
  split<;>rfl
def dW.rnds {N:List (List UInt8×Nat)}:∀(m:Nat) {l:List Qt},dW l N->dW (rnds N m l) N
 | 0,_,h=>h
 | m+1,_,h=>dW.rnds m (h.grw _ _)
def Be (n:Nat) (a:Value) (w:World):Nat:=match a with
 | .slice (some q) _ _=>(match w.cell? ⟨q.block,n,none⟩ with|some (.int _ x)=>100000000-x.toNat|_=>0)
 | _=>0
def F3 {c1 c2:Nat} (h:IA pa P base w) (u:n<P.length):Be n (.slice pa c1 c2) w=100000000-(P.getD n 0).toNat:=by
 obtain ⟨q,rfl,_,_,j⟩:=h.at' n u;simp only[Be,j]
def jL {N:List (List UInt8×Nat)} {l:List Qt} (h:kD P N l n=false) (q:l.length=n):grw P N l n=l:=by
 subst q;apply List.ext_getElem?;intro k
 cases hk:l[k]? with
 | none=>simp[grw,hk]
 | some x=>
  rw[kB hk];have j:=(List.getElem?_eq_some_iff.1 hk).1
  have:j6 P N k x=false:=by
   unfold kD at h;rw[List.any_eq_false]at h;(have:=h k (by simpa using j));rw[hk]at this;simpa using this
  rw[this];simp
def Lz (b g cap mb) (ao) (l:List Qt) (N:List (List UInt8×Nat)) (short) (w) (h:PQ b g cap mb ao l N w) (ar:g<w.heap.size) (hT:dW l N) (hn:l.length<=1000000) (hd:∀x∈l,x.p.data.length<=4):
    Calls prog 80 #[.pointer (some ⟨b,0,none⟩),.bool short] w λ e w'=>∃m pa M,e=.returned (.slice pa (l.length+1) M)/\IA pa (cX (rnds N m (fszs short l l.length)) l.length) w.heap.size w'/\
     PQ b g cap mb ao (rnds N m (fszs short l l.length)) N w'/\aN g w w'/\kD (cX (rnds N m (fszs short l l.length)) l.length) N (rnds N m (fszs short l l.length)) l.length=false:=by
 have HP:=aA h;have HT:=aA hT;have HD:=aA hd;have c0:=h.c0;clear h hT hd;go_in;go_wp2_with fail;clear c0;go_loopw [12] (λ i wr=>∃j:Nat,j<=l.length/\i=.int .i64 j/\PQ b g cap mb ao (fszs short l j) N wr/\aN g w wr) (λ i _=>l.length-(intOf i).toNat)
 case atStart=>exact ⟨0,Nat.zero_le _,rfl,by rw[MP];exact HP.out,aN.refl _ _⟩
 case round=>
  obtain ⟨j,hj,rfl,A,hK⟩:=hrel;by_cases bf:j<l.length
  .obtain ⟨x,hx⟩:∃x,l[j]?=some x:=⟨_,zg bf⟩
   (have q:(fszs short l j)[j]?=some x:=by rw[nI hx,aC (Nat.lt_irrefl j)]);have L:=(kz q).1;obtain rfl:=A.ad L;have X:=λ w'=>Kl x short w'
   have a5:Hid (∀W v,PQ b g cap mb (some ⟨g,0,none⟩) (fszs short l j) N W->v=iS short x.p->PQ b g cap mb (some ⟨g,0,none⟩) (fszs short l (j+1)) N (W.setCell ⟨g,j*9+8,none⟩ (.int .i64 v))):=aA (λ W v hW hv=>by
    subst hv;refine hW.size j x _ q (by rw[nB,nB]) (by rw[nI hx,zt (by omega)]) (λ k hk=>?_)
    cases hy:l[k]? with
    | none=>simp[fszs,hy]
    | some y=>
     rw[nI hy,nI hy];(have:k<j+1↔k<j:=by omega);simp only[this])
   generalize iS short x.p=fz at *;obtain ⟨⟨data,i,tg⟩,line,size⟩:=x;have gl:=A.gl L;have bl:=A.bl;(have cb:wr.cell? ⟨b,0,none⟩=some (.slice (some ⟨g,0,none⟩) l.length cap):=by have:=A.c0;rwa[nB]at this);have p0:=A.at' j _ q 0 _ rfl;have p1:=A.at' j _ q 1 _ rfl;have p2:=A.at' j _ q 2 _ rfl;have p3:=A.at' j _ q 3 _ rfl;have p4:=A.at' j _ q 4 _ rfl;have p5:=A.at' j _ q 5 _ rfl;have p6:=A.at' j _ q 6 _ rfl;have p7:=A.at' j _ q 7 _ rfl;have p8:=A.at' j _ q 8 _ rfl;simp only[Nat.add_zero]at p0 p1 p2 p3 p4 p5 p6 p7 p8;have b5:=A.fg L;(have b6:(j:Int)<l.length:=by omega);unfold dR cY at X;simp only[List.cons_append,List.nil_append]at X;have aw:=aA X;have R:=aA A;have O:=aA hK;clear A hK hx q X;go_wp2_with fail;go_region_with (go_at_call 142;refine zK (aw.out _) λ w' G=>?_;have bb:=(G.cell (p:=⟨b,0,none⟩) bl).trans (by go_simp:_=some (.slice (some ⟨g,0,none⟩) l.length cap));have ba:=(G.cell (p:=⟨g,j*9+8,none⟩) gl).trans (by go_simp:_=some (.int .i64 size));have bc:=(G.frozen (p:=⟨g,j*9+8,none⟩) gl).trans (by go_simp:_=false))
   all_goals
    have a6:=aA (a5.out _ fz ((R.out.next (aU.drew)).next G) rfl);have a0:=aA ((oc (oc O.out (aU.drew)) G).near (j*9+8) (.int .i64 fz));clear G bb ba bc;go_wp2;go_roundw;(case rel=>exact ⟨j+1,by omega,by go_num,a6.out,a0.out⟩);case measure=>simp[intOf];omega
  have be:j=l.length:=by omega
  subst be;have F:=aA (nB short l l.length);have U:=aA (Gx (short:=short) HD.out);have a9:=aA (HT.out.fszs short l.length);generalize au:fszs short l l.length=u at *;have a4:=aA au;clear au;have R:=aA A;have O:=aA hK;clear A hK
  have Z:=aA (λ m W (hW:PQ b g cap mb ao (rnds N m u) N W)=>KZ b g cap mb ao (rnds N m u) N W hW (by rw[m9,F.out];exact hn) (λ k hk=>by
   have:=pN (nK (N:=N) m U.out) k;rw[m9,F.out]at hk;omega))
  go_wp2_with fail;refine (Z.out 0 wr R.out).mono ?_;rintro e w2 ⟨v,rfl,ab,ae⟩;have HO:=aA ab;have a7:=aA (R.out.next ae);have a1:=aA (oc O.out ae);clear ab ae
  have ax:=aA (λ m pa M W (hW:PQ b g cap mb ao (rnds N m u) N W) (hI:IA pa (cX (rnds N m u) l.length) w.heap.size W)=>by
   (have J:(rnds N m u).length=l.length:=by rw[m9,F.out]);have hb:=pN (nK (N:=N) m U.out)
   have:=OP b g cap mb ao (rnds N m u) N (cX (rnds N m u) l.length) pa w.heap.size M W hW (a9.out.rnds m) (by rw[J];exact hn) (by rw[ku,J]) hI (λ _=>ar) (λ j=>by
    rcases Nat.lt_or_ge l.length j with hj|hj
    .rw[zG,List.getElem?_eq_none (by rw[ku];omega)];simp
    rw[oC _ _ _ hj];have:=hb j;omega)
   rw[ku,J]at this;exact this)
  have ah:Hid (w2.ownsRow w.heap.size 3 1 v (cX u l.length).length (lF (cX u l.length))):=aA (by
   have:=sC HO.out O.out.size;rw[m9,F.out]at this;exact this)
  obtain ⟨pa,M,rfl,am⟩:=pB ah.out;rw[ku];have az:=aA am;clear am HO ah;go_wp2_with fail;go_loopw [6] (λ a wx=>∃m pa M,a=.slice pa (l.length+1) M/\IA pa (cX (rnds N m u) l.length) w.heap.size wx/\PQ b g cap mb ao (rnds N m u) N wx/\aN g w wx) (λ a wx=>Be l.length a wx)
  case atStart=>exact ⟨0,_,_,rfl,az.out,a7.out,a1.out⟩
  case round=>
   obtain ⟨m,pa,M,rfl,hI,A,hK⟩:=hrel;have HI:=aA hI;have HQ:=aA A;have HK:=aA hK;(have Q:Hid ((rnds N m u).length=l.length):=aA (by rw[m9,F.out]));have aj:=aA (nK (N:=N) m U.out)
   have ai:Hid (rnds N (m+1) u=grw (cX (rnds N m u) l.length) N (rnds N m u) l.length):=aA (by
    rw[uF];unfold kX;rw[Q.out])
   (have a3:=aA (F3 (n:=l.length) (c1:=l.length+1) (c2:=M) hI (by rw[ku];omega)));clear hI A hK;go_wp2_with fail;refine (ax.out m pa M wr HQ.out HI.out).mono ?_;rintro e w3 ⟨rfl,I,V⟩;have ac:=aA (HK.out.trans V);by_cases E:kD (cX (rnds N m u) l.length) N (rnds N m u) l.length=true
   .rw[E]
    (have D:PQ b g cap mb ao (rnds N (m+1) u) N w3:=by rw[ai.out];exact I);have T:=aA D;have H:=aA E;clear I D V E;go_wp2_with fail;refine (Z.out (m+1) w3 T.out).mono ?_;rintro e w4 ⟨v4,rfl,K,af⟩
    have an:w4.ownsRow w.heap.size 3 1 v4 (cX (rnds N (m+1) u) l.length).length (lF (cX (rnds N (m+1) u) l.length)):=by
     have:=sC K ac.out.size;rw[m9,F.out]at this;exact this
    obtain ⟨bg,ak,rfl,aa⟩:=pB an;rw[ku];have Y:=aA aa;have a8:=aA (T.out.next af);have a2:=aA (oc ac.out af);clear K af an aa;go_wp2;go_roundw;case rel=>exact ⟨m+1,bg,ak,rfl,Y.out,a8.out,a2.out⟩
    case measure=>
     (have e1:=F3 (n:=l.length) (c1:=l.length+1) (c2:=ak) Y.out (by rw[ku];omega));have hm:=ER (P:=cX (rnds N m u) l.length) (N:=N) aj.out l.length (Nat.le_of_eq Q.out.symm) H.out;have b1:=pN (nK (N:=N) (m+1) U.out) l.length;have b0:=pN aj.out l.length;rw[Q.out]at hm;rw[<-ai.out]at hm;rw[e1,a3.out,oC _ _ _ zn,oC _ _ _ zn];omega
   (have C:kD (cX (rnds N m u) l.length) N (rnds N m u) l.length=false:=by simpa using E);rw[C]
   have D:PQ b g cap mb ao (rnds N m u) N w3:=by
    rw[jL C Q.out]at I;exact I
   have T:=aA D;have H:=aA C;have ay:=aA (HI.out.kept V ar);clear I D V E C;go_wp2;go_ret;rw[a4.out];exact ⟨m,pa,M,rfl,ay.out,T.out,ac.out,H.out⟩
def mW (P:List Int) (N:List (List UInt8×Nat)) (l:List Qt) (k:Nat):Bool:=match l[k]? with|some x=>(mZ P N k x).isNone|none=>false
def kQ (P:List Int) (N:List (List UInt8×Nat)) (l:List Qt):List UInt8×Int×Int:=
 match (List.range l.length).find? (mW P N l) with
 | some k=>([],5,match l[k]? with|some x=>x.line|none=>0)
 | none=>(kn P N l l.length,0,0)
def Fh (P) (N:List (List UInt8×Nat)) (k) (x:Qt):mZ P N k x=if (jo x (gD P N k x.p)).2=0 then some (jo x (gD P N k x.p)).1 else none:=by
 unfold mZ jo;by_cases q:x.p.data=[]
 .simp only[q,if_true]
  by_cases j:x.size=2
  .simp only[j,if_true]
   by_cases h:(bQ (gD P N k x.p)).2=0<;>simp[h]
  simp only[j,if_false];by_cases h:(bB (gD P N k x.p)).2=0<;>simp[h]
 simp only[q,if_false,if_true]
def G3 (x:Qt) (j) (h:x.p.data.length<=4):(jo x j).1.length<=4:=by
 unfold jo
 repeat' split
 all_goals simp only[kw,List.length_nil]
 all_goals omega
def Qc (P) (N:List (List UInt8×Nat)) (l:List Qt) (h:∀x∈l,x.p.data.length<=4) (j):(kn P N l j).length<=4*j:=by
 induction j with
 | zero=>simp[kn]
 | succ j ih=>
  simp only[kn,List.length_append]
  cases hj:l[j]? with
  | none=>simp;omega
  | some x=>
   have:((mZ P N j x).getD []).length<=4:=by
    rw[Fh];have:=G3 x (gD P N j x.p) (h x (vV hj))
    split<;>simp<;>omega
   simp only;omega
structure BT (w0:World) (b g cap mb:Nat) (ao:Option Addr) (l:List Qt) (N:List (List UInt8×Nat)) (P:List Int) (pa:Option Addr) (base:Nat) (bs:List UInt8) (w:World):Prop where
 p:PQ b g cap mb ao l N w
 f:aF w0.heap.size [.int .i64 0,.int .i64 0] w
 d:Lib.IsBuilder 134 5 (w0.heap.size+1) (w0.heap.size+1) (Lib.byteCells bs) w
 b:Below w0.heap.size w0 w
 i:IA pa P base w
def BT.next {l:List Qt} {N:List (List UInt8×Nat)} (h:BT w0 b g cap mb ao l N P pa base bs w) (j:Below w.heap.size w w'):BT w0 b g cap mb ao l N P pa base bs w':=
 ⟨h.p.next j,h.f.next j,A6 h.d j,h.b.trans (j.mono h.b.size),h.i.next j⟩
def IA.step {B:Nat} (h:IA pa P base w) (v:Below B w w') (u:∀j,j<P.length->∀q,pa=some ⟨q,0,none⟩->q<B):IA pa P base w':=
 ⟨λ j y=>by
  obtain ⟨q,e,A,C,D⟩:=h.at' j y;exact ⟨q,e,A,zl C v.size,(v.cell (p:=⟨q,j,none⟩) (u j y q e)).trans D⟩⟩
def BT.more {l:List Qt} {N:List (List UInt8×Nat)} (v:PQ b g cap mb ao l N w0) (y:IA pa P base w0) (h:BT w0 b g cap mb ao l N P pa base bs w) (D:Lib.BuilderAt 134 5 (w0.heap.size+1) (w0.heap.size+1) (.pointer (some ⟨w0.heap.size+1,0,none⟩)) (Lib.byteCells bs++Lib.strCells ⟨ys.toArray⟩) w') (u:Below (w0.heap.size+1) w w'):BT w0 b g cap mb ao l N P pa base (bs++ys) w':=by
 have F:=v.bl;have G:=v.nm.lt;refine ⟨h.p.step u (by omega) (λ p=>by have:=v.gl p;omega) (by omega),h.f.step u (by omega),.inr ?_,h.b.trans (u.mono (by omega)),h.i.step u (λ j C q e=>?_)⟩
 .have e:Lib.byteCells (bs++ys)=Lib.byteCells bs++Lib.strCells ⟨ys.toArray⟩:=by
   rw[KK];simp[Lib.byteCells]
  rw[e];exact D
 obtain ⟨H,A,_,E,_⟩:=y.at' j C;rw[e]at A;cases A
 omega
def xJ {p:Nat->Bool} {k:Nat} (u:k<n) (q:∀j,j<k->p j=false) (h:p k=true):(List.range n).find? p=some k:=pp p n k u q h
def KP (b g cap mb) (ao) (l:List Qt) (N:List (List UInt8×Nat)) (P) (pa) (base cp) (w) (h:PQ b g cap mb ao l N w) (hT:dW l N) (hn:l.length<=1000000) (hP:P.length=l.length+1) (V:IA pa P base w) (X:∀j,0<=P.getD j 0/\P.getD j 0<=100000000) (hd:∀x∈l,x.p.data.length<=4) (aa:∀x∈l,x.p.data=[]->x.size=2\/x.size=4):
    aG prog 81 #[.pointer (some ⟨b,0,none⟩),.slice pa P.length cp] w (.tuple #[.string ⟨(kQ P N l).1.toArray⟩,.agg #[.int .i64 (kQ P N l).2.1,.int .i64 (kQ P N l).2.2]]):=by
 unfold aG;have HP:=aA h;have HT:=aA hT;have HI:=aA V;have aj:=aA X;have ai:=aA hP;have HD:=aA hd;have al:=aA aa;have c0:=h.c0;have bl:=h.bl;clear h hT V X hP hd aa;go_in;go_wp2_with fail;clear c0;go_loopw [16] (λ i wr=>∃j:Nat,j<=l.length/\i=.int .i64 j/\(∀k,k<j->mW P N l k=false)/\BT w b g cap mb ao l N P pa base (kn P N l j) wr) (λ i _=>l.length-(intOf i).toNat)
 case atStart=>
  refine ⟨0,Nat.zero_le _,rfl,λ k hk=>by omega,HP.out.next ?_,(aF.new w [.int .i64 0,.int .i64 0] 39).alloc _,.inl ⟨zn,.slice none 0 0,?_,World.ownsRow_nil _ _ _ _,by simp[Value.ownBlock]⟩,?_,HI.out.next ?_⟩
  .exact aJ.alloc (by rw[za];omega) _
  .have:=heap_alloc_last (w.alloc (.cells #[.int .i64 0,.int .i64 0] 39)) (.cells #[.pointer none,.slice none 0 0] 134)
   rw[za]at this;exact this
  .exact aJ.alloc (by rw[za];omega) _
  exact aJ.alloc (by rw[za];omega) _
 case round=>
  obtain ⟨j,hj,rfl,F,u⟩:=hrel;by_cases Z:j<l.length
  .obtain ⟨x,hx⟩:∃x,l[j]?=some x:=⟨_,zg Z⟩
   have K:=(kz hx).1;obtain rfl:=u.p.ad K;have gl:=u.p.gl K;have HX:=aA hx;(have G:=aA (λ W (hB:Below wr.heap.size wr W)=>CR b g cap mb _ l N j x P pa base cp W (u.p.next hB) hx HT.out ai.out (u.i.next hB) aj.out));(have y:=aA (λ W=>JN x (gD P N j x.p) W (al.out x (List.mem_of_getElem? hx))));have Q:=aA (G3 x (gD P N j x.p) (HD.out x (List.mem_of_getElem? hx)));have A:=aA (Fh P N j x);(have L:Hid (mW P N l j=(mZ P N j x).isNone):=aA (by simp only[mW,hx]));(have R:Hid (kn P N l (j+1)=kn P N l j++(mZ P N j x).getD []):=aA (by simp only[kn,hx]));have ah:=aA (Qc P N l HD.out j);have O:=aA F;generalize jo x (gD P N j x.p)=BI at *;obtain ⟨bi,be⟩:=BI;generalize gD P N j x.p=J at *;obtain ⟨b3,b4,a3,a4,a2⟩:=J;obtain ⟨⟨data,i,tg⟩,line,size⟩:=x;have p0:=u.p.at' j _ hx 0 _ rfl;have p1:=u.p.at' j _ hx 1 _ rfl;have p2:=u.p.at' j _ hx 2 _ rfl;have p3:=u.p.at' j _ hx 3 _ rfl;have p4:=u.p.at' j _ hx 4 _ rfl;have p5:=u.p.at' j _ hx 5 _ rfl;have p6:=u.p.at' j _ hx 6 _ rfl;have p7:=u.p.at' j _ hx 7 _ rfl;have p8:=u.p.at' j _ hx 8 _ rfl;simp only[Nat.add_zero]at p0 p1 p2 p3 p4 p5 p6 p7 p8;(have b0:(j:Int)<l.length:=by omega);unfold aE.val at G y;unfold dR cY at y;simp only[List.cons_append,List.nil_append]at y G Q A;have H:=aA u;clear u hx F;go_wp2_with fail;have D:Hid (Below wr.heap.size wr (wr.alloc (.cells #[.string ⟨data.toArray⟩,.int .i64 i.op,.int .i64 i.rd,.int .i64 i.rs1,.int .i64 i.rs2,.int .i64 i.imm,.string ⟨tg.toArray⟩,.int .i64 line,.int .i64 size] 202))):=aA aJ;have q:=aF.new wr [.string ⟨data.toArray⟩,.int .i64 i.op,.int .i64 i.rd,.int .i64 i.rs1,.int .i64 i.rs2,.int .i64 i.imm,.string ⟨tg.toArray⟩,.int .i64 line,.int .i64 size] 202;have M:=aA q;have k0:=cell_regrown (q.2.2 0 _ rfl);have k1:=cell_regrown (q.2.2 1 _ rfl);have k2:=cell_regrown (q.2.2 2 _ rfl);have k3:=cell_regrown (q.2.2 3 _ rfl);have k4:=cell_regrown (q.2.2 4 _ rfl);have k5:=cell_regrown (q.2.2 5 _ rfl);have k6:=cell_regrown (q.2.2 6 _ rfl);have k7:=cell_regrown (q.2.2 7 _ rfl);have k8:=cell_regrown (q.2.2 8 _ rfl);clear q p0 p1 p2 p3 p4 p5 p6 p7 p8 gl;generalize wr.alloc _=W at D M k0 k1 k2 k3 k4 k5 k6 k7 k8 ⊢;refine wp_region_quiet_below (by kernel_rfl) (by kernel_rfl) ?_
   repeat (quiet_step (first
    | (go_at_call 146;exact Calls.regrown_of (G.out _ (D.out.trans ((below_regrown _ _ _).mono D.out.size))))
    | (go_at_call 145;exact Calls.regrown_of (y.out _))))
   refine wpQuiet_nil ?_;intro _ ar;obtain ⟨⟨dq,osq⟩,ab⟩:=ar;subst ab;have C:=aA (H.out.next (D.out.trans ((below_regrown W dq osq).mono D.out.size)));have T:=aA (M.out.next (below_regrown W dq osq));have b2:wr.heap.size<(Go.Sort.grow (redrawn W dq) osq).heap.size:=T.out.1;clear k0 k1 k2 k3 k4 k5 k6 k7 k8 y G H M D;simp only at *;generalize Go.Sort.grow (redrawn W dq) osq=W3 at *;by_cases I:be=0
   .subst I
    have A:Hid (mZ P N j ⟨⟨data,i,tg⟩,line,size⟩=some bi):=aA (by rw[A.out];simp)
    have ag:Hid (∀k,k<j+1->mW P N l k=false):=aA (λ k hk=>by
     rcases Nat.lt_or_ge k j with h|h
     .exact O.out k h
     (have:k=j:=by omega);subst this;rw[L.out,A.out];rfl)
    go_wp2_with fail;(refine (Jr (w.heap.size+1) (w.heap.size+1) (Lib.byteCells (kn P N l j)) ⟨bi.toArray⟩ _ C.out.d (by have h1:=ah.out;have h2:=Q.out;simp[Lib.byteCells,ByteArray.size];omega) (by have:=C.out.f.1;omega)).mono ?_);rintro e w5 ⟨rfl,Y,U⟩;have ak:=aA (BT.more HP.out HI.out C.out Y U);clear Y U;go_wp2;go_roundw;(case rel=>exact ⟨j+1,by omega,by go_num,ag.out,by rw[R.out,A.out];exact ak.out⟩);case measure=>simp[intOf];omega
   (have bv:(be==0)=false:=by simpa using I);have bz:(be != 0)=true:=by simpa using I
   have HV:Hid (kQ P N l=([],5,line)):=aA (by
    unfold kQ;(rw[xJ Z O.out (by rw[L.out,A.out,aC I];rfl)]);simp only[HX.out])
   have c7:=T.out.2.2 7 _ rfl;obtain ⟨f0,f1⟩:=bE C.out.f.2.2;have ff:=C.out.f.2.1;have af:=aA C.out.b;clear A L R;go_wp2_with fail;go_region
   all_goals
    go_wp2;(refine zp (v:=.tuple #[.string ⟨#[]⟩,.agg #[.int .i64 5,.int .i64 line]]) (by simp[results,results81,go_sem,f0,f1]) rfl ⟨by rw[HV.out],?_⟩);exact ((af.out.setCell zn _).setCell zn _).drew
  have aq:j=l.length:=by omega
  subst aq
  have HV:Hid (kQ P N l=(kn P N l l.length,0,0)):=aA (by
   unfold kQ;rw[lX _ l.length F])
  have H:=aA u;obtain ⟨f0,f1⟩:=bE u.f.2.2;clear u;go_wp2_with fail;refine zK (Builder_String_any (w.heap.size+1) (w.heap.size+1) (kn P N l l.length) _ H.out.d (by have:=H.out.f.1;omega)) λ w2 E=>?_;have q0:=(H.out.f.step E (by omega)).2.2 0 _ rfl
  have q1:=(H.out.f.step E (by omega)).2.2 1 _ rfl
  have qf:=(H.out.f.step E (by omega)).2.1
  have ae:=aA (H.out.b.trans (E.mono (by omega)))
  clear E;go_wp2;refine zp (v:=.tuple #[.string ⟨(kn P N l l.length).toArray⟩,.agg #[.int .i64 0,.int .i64 0]]) (by simp[results,results81,go_sem,q0,q1]) rfl ⟨by rw[HV.out],?_⟩
  exact (ae.out.setCell zn _).setCell zn _
