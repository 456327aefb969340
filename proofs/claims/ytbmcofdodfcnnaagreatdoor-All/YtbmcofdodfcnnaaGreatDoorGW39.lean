import Derived.Laws.OwnMore
import Derived.Test.YtbmcofdodfcnnaaGreatDoorGW38
import Derived.Test.YtbmcofdodfcnnaaGreatDoorGW14
set_option linter.all false
set_option maxHeartbeats 0
set_option maxRecDepth 100000
namespace Go
open Proofs.Tryz
variable {b k n base cap : Nat} {L : List UInt8} {w w' : World} {v : Value} {xs xs' : List Value} {am la na : Option Addr}
def n7:List aI->Option aI×List aI
 | t::c::l=>if t.kind=119/\c.kind=58 then (some t,l) else (none,t::c::l)
 | l=>(none,l)
def cZ:List aI->List Rp×Int
 | []=>([],0)
 | t::l=>fO t l
def dY (L:List UInt8) (at':Nat) (nms:List (ByteArray×Nat)):(List Rp×List (ByteArray×Nat))×Int:=
 match aW L false with
 | none=>(([],nms),4)
 | some T=>match n7 T with
  | (none,l)=>if (cZ l).2=0 then (((cZ l).1,nms),0) else (([],nms),(cZ l).2)
  | (some t,l)=>if 8<t.text.length then (([],nms),4) else if (cZ l).2=0 then (if nms.any (λ x=>x.1.toList==t.S.toList) then (([],nms),6) else (((cZ l).1,nms++[(t.S,at')]),0)) else (([],nms),(cZ l).2)
def pY (nms nms':List (ByteArray×Nat)) (tw:Bool) (st:List Rp×Int):(List Rp×List (ByteArray×Nat))×Int:=
 if st.2=0 then (if tw then (([],nms),6) else ((st.1,nms'),0)) else (([],nms),st.2)
def lL:List aI->Bool
 | t::c::_=>decide (t.kind=119)&&decide (c.kind=58)
 | _=>false
def Tw {j nms':List (ByteArray×Nat)} {b:Bool} {q:List Rp} {er:Int} (h:er≠0):pY j nms' b (q,er)=(([],j),er):=by
 unfold pY;rw[aC h]
def Mm {T:List aI} (h:lL T=true):∃t c l,T=t::c::l/\t.kind=119/\c.kind=58:=by
 match T,h with
 | t::c::l,h=>
  simp[lL]at h;exact ⟨t,c,l,rfl,h.1,h.2⟩
def Ck (h:aW L false=none) (n) (j:List (ByteArray×Nat)):dY L n j=(([],j),4):=by
 unfold dY;rw[h]
def PX {T:List aI} (h:aW L false=some T) (u:lL T=false) (n) (j:List (ByteArray×Nat)):dY L n j=pY j j false (cZ T):=by
 have e:n7 T=(none,T):=by
  match T,u with
  | [],_=>rfl
  | [t],_=>rfl
  | t::c::l,u=>
   simp only[n7];rw[aC (λ q=>by simp[lL,q.1,q.2]at u)]
 unfold dY;rw[h];simp only[e];rfl
def NS {t c:aI} {l:List aI} (h:aW L false=some (t::c::l)) (q:t.kind=119) (u:c.kind=58) (v:¬8<t.text.length) (n) (j:List (ByteArray×Nat)):
    dY L n j=pY j (j++[(t.S,n)]) (j.any λ x=>x.1.toList==t.S.toList) (cZ l):=by
 unfold dY pY;rw[h];simp only[n7];rw[zt ⟨q,u⟩];simp only;rw[aC v]
def LD {t c:aI} {l:List aI} (h:aW L false=some (t::c::l)) (q:t.kind=119) (u:c.kind=58) (v:8<t.text.length) (n) (j:List (ByteArray×Nat)):dY L n j=(([],j),4):=by
 unfold dY;rw[h];simp only[n7];rw[zt ⟨q,u⟩];simp only;rw[zt v]
def fD:List (List UInt8)->Nat->List (Rp×Int)->List (ByteArray×Nat)->(List (Rp×Int)×List (ByteArray×Nat))×Int×Int
 | [],_,ps,nms=>((ps,nms),0,0)
 | L::rest,n,ps,nms=>if (dY L ps.length nms).2=0 then fD rest (n+1) (ps++(dY L ps.length nms).1.1.map λ p=>(p,(n:Int)+1)) (dY L ps.length nms).1.2 else (([],[]),(dY L ps.length nms).2,(n:Int)+1)
def Qe {A:List (List UInt8)} (q:k<A.length) {u:List (Rp×Int)} {j:List (ByteArray×Nat)} {x:(List Rp×List (ByteArray×Nat))×Int} (h:dY (A[k]'q) u.length j=x) (hx:x.2≠0):
    fD (A.drop k) k u j=(([],[]),x.2,(k:Int)+1):=by
 rw[List.drop_eq_getElem_cons q,fD,h,aC hx]
def S1 {A:List (List UInt8)} (v:k<A.length) {u:List (Rp×Int)} {j nms':List (ByteArray×Nat)} {q:List Rp} (h:dY (A[k]'v) u.length j=((q,nms'),0)):
    fD (A.drop k) k u j=fD (A.drop (k+1)) (k+1) (u++q.map λ p=>(p,(k:Int)+1)) nms':=by
 rw[List.drop_eq_getElem_cons v,fD,h,zt rfl]
def Gn:∀(l h:List UInt8),0<(eE h l).length
 | [],h=>by simp[eE]
 | c::l,h=>by
  rw[eE]
  split
  .simp
  exact Gn l _
def Mg (r n):(kN r n).1.length<=2:=by
 unfold kN
 split
 .simp
 unfold j7
 split
 .simp
 split<;>simp
def FB (t:aI) (l:List aI):(fO t l).1.length<=2:=by
 unfold fO
 split
 .split
  .unfold cR
   split
   .split<;>simp
   simp
  simp
 unfold kb
 split
 .simp
 split
 .simp
 unfold hU
 split
 .unfold jI
  split
  .simp
  split
  .simp
  unfold iA
  split
  .simp
  split
  .simp
  split<;>simp
 unfold cU
 split
 .simp
 unfold kR
 split
 .simp
 split
 .split
  .exact Mg _ _
  split<;>simp
 simp
def Ad (T:List aI):(cZ T).1.length<=2:=by
 match T with
 | []=>simp[cZ]
 | t::l=>exact FB t l
def my (ps:List (Rp×Int)):List Value:=ps.flatMap λ p=>fF p.1 p.2 0
def jv (x:ByteArray×Nat):List Value:=[.string x.1,.int .i64 x.2]
open RowKit
def Vd:(prog.info? 278).map (λ i=>(i.zero,i.size,i.bytes))=some (some (.agg #[.string ⟨#[]⟩,.int .i64 0]),2,24):=by kernel_rfl
def He (r:(List (Rp×Int)×List (ByteArray×Nat))×Int×Int) (w:World) (e:Ending) (w':World):Prop:=
 ∃ao n cp ao' n' cp',e=.returned (.tuple #[.slice ao n cp,.slice ao' n' cp',.agg #[.int .i64 r.2.1,.int .i64 r.2.2]])/\
  w'.ownsRow w.heap.size 224 10 (.slice ao n cp) r.1.1.length (my r.1.1)/\w'.ownsRow w.heap.size 278 2 (.slice ao' n' cp') r.1.2.length (r.1.2.flatMap jv)/\Below w.heap.size w w'
def TB (w1:World) (A:List (List UInt8)) (R:(List (Rp×Int)×List (ByteArray×Nat))×Int×Int) (vp vn n:Value) (wr:World):Prop:=
 ∃(k:Nat) (ps:List (Rp×Int)) (nms:List (ByteArray×Nat)),k<=A.length/\n=.int .i64 k/\ps.length<=2*k/\nms.length<=k/\
  Hid (wr.ownsRow w1.heap.size 224 10 vp ps.length (my ps))/\Hid (wr.ownsRow w1.heap.size 278 2 vn nms.length (nms.flatMap jv))/\Below w1.heap.size w1 wr/\
  Hid (R=fD (A.drop k) k ps nms)
def ut {B G e D size q J:Nat} {F:Value} (h:w.ownsRow B e size v n xs) (I:w.ownsRow G D q F J xs') (y:e≠D):v.ownBlock=none\/v.ownBlock≠F.ownBlock:=by
 rcases h.2 with ⟨rfl,_⟩|⟨g,cap,H,rfl,_,u,_⟩
 .exact .inl rfl
 rcases I.2 with ⟨rfl,_⟩|⟨K,A,C,rfl,_,j,_⟩
 .exact .inr (by simp[Value.ownBlock])
 refine .inr λ E=>?_
 simp only[Value.ownBlock,Option.some.injEq]at E;subst E;rw[u]at j;simp only[Option.some.injEq,Obj.cells.injEq]at j;exact y j.2.1
def sG (g k):(⟨g,0,none⟩:Addr).add k=⟨g,k,none⟩:=by
 simp only[Addr.add]
 split
 .rename_i h;rw[h]
 simp
def Bh (w:World) (v:Value) (L:List aI):Prop:=
 ∃ao cap,v=.slice ao L.length cap/\L.length<=cap/\∀t l,L=t::l->∃g o,ao=some ⟨g,o,none⟩/\g<w.heap.size/\gK t l g o w
def oQ (b:Nat) (w:World):Prop:=w.cell? ⟨b,0,none⟩=some (.int .i64 0)/\w.cell? ⟨b,1,none⟩=some (.int .i64 0)/\∀q,w.frozen? ⟨b,q,none⟩=false
def oQ.below {B:Nat} (h:oQ b w) (j:Below B w w') (u:b<B):oQ b w':=
 ⟨(j.cell (p:=⟨b,0,none⟩) u).trans h.1,(j.cell (p:=⟨b,1,none⟩) u).trans h.2.1,λ q=>(j.frozen (p:=⟨b,q,none⟩) u).trans (h.2.2 q)⟩
def QS {T:List aI} (h:w.ownsRow base 268 4 v T.length (T.flatMap jE)):Bh w v T:=by
 match T,h with
 | [],h=>
  obtain ⟨_,q|⟨g,cap,y,u,_,_,j,_⟩⟩:=h
  .exact ⟨none,0,q.1,by simp,λ t l h=>by cases h⟩
  exact ⟨_,cap,u,j,λ t l h=>by cases h⟩
 | t::l,h=>
  obtain ⟨g,cap,u,C,j,A⟩:=yj h;exact ⟨_,cap,u,by simpa using j,λ D l' h=>by injection h with q h2;subst q h2;exact ⟨g,0,rfl,C,A⟩⟩
def X8 (w1:World) (L:List UInt8) (k:Nat) (ps:List (Rp×Int)) (nms:List (ByteArray×Nat)) (vp vn lv tw:Value) (wx:World):Prop:=
 ∃(nms':List (ByteArray×Nat)) (T':List aI) (b:Bool),tw=.bool b/\nms'.length<=k+1/\Hid (wx.ownsRow w1.heap.size 224 10 vp ps.length (my ps))/\Hid (wx.ownsRow w1.heap.size 278 2 vn nms'.length (nms'.flatMap jv))/\
  Hid (Bh wx lv T')/\Below w1.heap.size w1 wx/\Hid (T'.length<=2000/\∀t∈T',-1099511627776<=t.num/\t.num<=1099511627776)/\Hid (dY L ps.length nms=pY nms nms' b (cZ T'))
def LB {g o q:Nat} {t c:aI} {l:List aI} (h:w.ownsRow base 268 4 (.slice (some ⟨g,o,none⟩) (t::c::l).length q) (t::c::l).length ((t::c::l).flatMap jE)):
    Bh w (.slice (some ⟨g,o+8,none⟩) l.length (q-2)) l:=by
 obtain ⟨A,cap,y,v,j,u⟩:=yj h;injection y with h1 h2 h3
 injection h1 with h1
 injection h1 with h1 h4 _
 subst h1 h3 h4;refine ⟨_,_,rfl,by simp at j;omega,λ C l' e=>?_⟩
 subst e;exact ⟨g,0+8,rfl,v,D3 u⟩
def WS (w1:World) (k:Nat) (ps:List (Rp×Int)) (nms':List (ByteArray×Nat)) (T':List aI) (vn vp:Value) (wx:World):Prop:=
 (cZ T').2=0/\Hid (wx.ownsRow w1.heap.size 224 10 vp (ps++(cZ T').1.map λ p=>(p,(k:Int)+1)).length (my (ps++(cZ T').1.map λ p=>(p,(k:Int)+1))))/\
  Hid (wx.ownsRow w1.heap.size 278 2 vn nms'.length (nms'.flatMap jv))/\Below w1.heap.size w1 wx
def AU (b:Nat) (am:Option Addr) (q:List Rp) (j:Nat) (w:World):Prop:=
 ∀i p,j<=i->q[i]?=some p->∃gm:Nat,am=some ⟨gm,0,none⟩/\b<=gm/\gm<w.heap.size/\(∀y,w.frozen? ⟨gm,y,none⟩=false)/\∀x v,(fF p 0 0)[x]?=some v->w.cell? ⟨gm,i*10+x,none⟩=some v
def Sv {cm:Nat} {q:List Rp} (h:w.ownsRow b 224 10 (.slice am q.length cm) q.length (q.flatMap λ p=>fF p 0 0)):AU b am q 0 w:=by
 intro i p _ D
 have G:i<q.length:=by
  rcases Nat.lt_or_ge i q.length with h|h
  .exact h
  rw[List.getElem?_eq_none h]at D;cases D
 have C:=h;obtain ⟨_,u|⟨g,cap,E,I,F,J,H,_⟩⟩:=h
 .have:=u.2;omega
 injection I with u _ h3
 subst u h3;refine ⟨g,rfl,F,(C.lt g rfl).2,λ y=>C.frozenAt y,λ x v hx=>?_⟩
 have j:x<10:=by
  rcases Nat.lt_or_ge x 10 with h|h
  .exact h
  rw[List.getElem?_eq_none (by simpa[fF] using h)]at hx;cases hx
 have A:=jF (λ p=>fF p 0 0) 10 (λ _=>rfl) q i x j G
 rw[D]at A;simp only[zd]at A;have:=C.cells (g:=g) rfl (10*i+x) _ (A.trans hx);rw[sG]at this;rw[Nat.mul_comm i 10];exact this
def lm {e:TypeId} {size:Nat} (h:w.ownsRow base e size v n xs):∃q u,v=.slice q n u:=by
 obtain ⟨_,⟨j,A⟩|⟨g,cap,y,j,_⟩⟩:=h
 .exact ⟨none,0,by rw[j,A]⟩
 exact ⟨_,_,j⟩
def EV {q:List (ByteArray×Nat)} (h:w.ownsRow base 278 2 v q.length (q.flatMap jv)):
    ∃C cap,v=.slice C q.length cap/\∀i x,q[i]?=some x->∃B:Nat,C=some ⟨B,0,none⟩/\B<w.heap.size/\w.cell? ⟨B,i*2,none⟩=some (.string x.1)/\w.cell? ⟨B,i*2+1,none⟩=some (.int .i64 x.2):=by
 have E:=h;obtain ⟨_,u|⟨g,cap,F,A,K,J,I,_⟩⟩:=h
 .refine ⟨none,0,by rw[u.1,u.2],λ i x hx=>?_⟩
  have:q=[]:=List.eq_nil_of_length_eq_zero u.2;subst this;cases hx
 refine ⟨_,cap,A,λ i x hx=>⟨g,rfl,(E.lt g (by rw[A];rfl)).2,?_⟩⟩
 have H:i<q.length:=by
  rcases Nat.lt_or_ge i q.length with h|h
  .exact h
  rw[List.getElem?_eq_none h]at hx;cases hx
 have D:∀j,j<2->w.cell? ⟨g,i*2+j,none⟩=(jv x)[j]?:=λ j G=>by
  have y:=jF jv 2 (λ _=>rfl) q i j G H
  rw[hx]at y;have hy:(jv x)[j]?=some ((jv x)[j]'(by simp[jv];omega)):=zg _
  simp only[zd]at y;have:=E.cells (g:=g) (by rw[A];rfl) (2*i+j) _ (y.trans hy)
  rw[sG]at this;rw[hy,<-this,Nat.mul_comm 2 i]
 exact ⟨D 0 (by omega),D 1 (by omega)⟩
def Xc (w1:World) (b k:Nat) (ps:List (Rp×Int)) (q:List Rp) (am:Option Addr) (nms':List (ByteArray×Nat)) (vn vp kk:Value) (wr:World):Prop:=
 ∃j:Nat,j<=q.length/\kk=.int .i64 j/\Hid (wr.ownsRow w1.heap.size 224 10 vp (ps++(q.take j).map λ p=>(p,(k:Int)+1)).length (my (ps++(q.take j).map λ p=>(p,(k:Int)+1))))/\
  Hid (wr.ownsRow w1.heap.size 278 2 vn nms'.length (nms'.flatMap jv))/\Below w1.heap.size w1 wr/\Hid (AU b am q j wr)/\Hid (∀gm,am=some ⟨gm,0,none⟩->vp.ownBlock≠some gm)/\b<=wr.heap.size
def um {c ln:Int} {W:World} (h:Below w.heap.size w W):He (([],[]),c,ln) w (.returned (.tuple #[.slice none 0 0,.slice none 0 0,.agg #[.int .i64 c,.int .i64 ln]])) W:=
 ⟨none,0,0,none,0,0,rfl,World.ownsRow_nil _ _ _ _,World.ownsRow_nil _ _ _ _,h⟩
def Ml (s) (w) (hs:s.size<=2000):
    Calls prog 169 #[.string s] w λ e w'=>He (fD (eE [] s.data.toList) 0 [] []) w e w':=by
 obtain ⟨i0,hi,fk,fl,cu⟩:=info_parts I4;obtain ⟨j0,hj,fh,fi,fj⟩:=info_parts Vd;have HL:=aB (λ W=>Nj s W hs)
 have hA1:(eE [] s.data.toList).length<=2001:=by have:=vi s.data.toList [];simp at this;omega
 have ej:Hid (∀x∈eE [] s.data.toList,x.length<=2000):=aB (λ x hx=>by have:=Aa s.data.toList [] x hx;simp at this;omega)
 have hA0:=Gn s.data.toList [];generalize eE [] s.data.toList=A at *;have HR:Hid (fD A 0 [] []=fD (A.drop 0) 0 [] []):=aB rfl;generalize fD A 0 [] []=R at *;go_in;go_wp2_with fail;refine (HL.out _).mono ?_;rintro e G ⟨⟨v,rfl,b1⟩,hB⟩;have dj:oQ w.heap.size G:=oQ.below (w:=w.alloc (.cells #[.int .i64 0,.int .i64 0] 39)) ⟨by go_simp,by go_simp,λ q=>by go_simp⟩ hB (by simp)
 obtain ⟨ga,ca,rfl,hd,ds,g9,dn⟩:=rX b1 hA0;have E:w.heap.size<G.heap.size:=by have:=hB.size;simp at this;omega
 have em:Hid (Below w.heap.size w G):=aB (aJ.trans (hB.mono (by simp)))
 have ar:∀{W:World} (a b:Value),Below G.heap.size G W->Below w.heap.size w ((W.setCell ⟨w.heap.size,0,none⟩ a).setCell ⟨w.heap.size,1,none⟩ b):=λ a b h=>((em.out.trans (h.mono (Nat.le_of_lt E))).setCell (p:=⟨w.heap.size,0,none⟩) zn a).setCell (p:=⟨w.heap.size,1,none⟩) zn b
 have en:=aB dn;have aq:=aB dj;clear hB b1 dn dj HL hs;go_wp2_with fail;go_loopw [5,6,8] (λ vp vn n wr=>TB G A R vp vn n wr) (λ _ _ n _=>A.length-(intOf n).toNat)
 case atStart=>exact ⟨0,[],[],by omega,rfl,by simp,by simp,aB (World.ownsRow_nil _ _ _ _),aB (World.ownsRow_nil _ _ _ _),aU,HR⟩
 case round=>
  obtain ⟨k,I,C,hk,rfl,hp,hn,bd,bc,aj,b5⟩:=hrel;obtain ⟨f0,f1,ff⟩:=aq.out.below aj E;have fr:G.heap.size<=wr.heap.size:=aj.size;by_cases X:k<A.length
  .have c0:wr.cell? ⟨ga,k,none⟩=some (.string ⟨(A[k]).toArray⟩):=by
    (have:=en.out k (wN A[k]) (by simp[X]));rw[sG]at this;exact (aj.cell (p:=⟨ga,k,none⟩) ds).trans this
   have ek:=aB aj;have ba:Hid (A[k].length<=2000):=aB (ej.out _ (List.getElem_mem X));(have au:Hid (∀x,dY A[k] I.length C=x->(x.2≠0->R=(([],[]),x.2,(k:Int)+1))/\(x.2=0->R=fD (A.drop (k+1)) (k+1) (I++x.1.1.map λ p=>(p,(k:Int)+1)) x.1.2)):=aB (λ x hx=>⟨λ h=>b5.out.trans (Qe X hx h),λ h=>b5.out.trans (S1 (nms':=x.1.2) (q:=x.1.1) X (by rw[hx];obtain ⟨⟨_,_⟩,_⟩:=x;simp only at h;rw[h]))⟩));generalize A[k]=L at *;(have HT:=aB (λ W=>Dd ⟨L.toArray⟩ W (by have:=ba.out;show L.toArray.size<=2000;simpa using this)));clear aj;go_wp2_with fail;refine (HT.out _).mono ?_;rintro e w2 ⟨ho,bn⟩;replace ho:pM (aW L false) wr e w2:=ho;have cu:wr.heap.size<=w2.heap.size:=bn.size;have b3:=aB bn;have O:Hid (Below G.heap.size G w2):=aB (ek.out.trans (bn.mono fr));obtain ⟨g0,g1,gf⟩:=aq.out.below O.out E;clear f0 f1 ff c0 bn
   cases htk:aW L false with
   | none=>
    rw[htk]at ho;have he:e=.returned (.tuple #[.slice none 0 0,.bool false]):=ho;subst he;(have HQ:R=(([],[]),4,(k:Int)+1):=(au.out _ rfl).1 (by rw[Ck htk];exact (by decide:(4:Int)≠0)) |>.trans (by rw[Ck htk]));subst HQ;clear ho htk;go_wp2;refine zp (v:=.tuple #[.slice none 0 0,.slice none 0 0,.agg #[.int .i64 4,.int .i64 ((k:Int)+1)]]) (by simp[results,results169,go_sem,g0,g1,gf]) rfl (um (ar _ _ O.out))
   | some T=>
    rw[htk]at ho;obtain ⟨v2,rfl,aa⟩:=ho;have bi:=aB (Lj htk);have bj:=aB (Qb htk);have ae:Hid (w2.ownsRow G.heap.size 224 10 u5 I.length (my I)):=aB (lZ bd.out b3.out);have ac:Hid (w2.ownsRow G.heap.size 278 2 u6 C.length (C.flatMap jv)):=aB (lZ bc.out b3.out);obtain ⟨ao,cp,fe,Z,dl⟩:=QS aa;have P:=aB dl;have dc:Hid (w2.ownsRow wr.heap.size 268 4 v2 T.length (T.flatMap jE)):=aB aa;subst fe;have bh:=aB htk;clear htk aa bd bc dl HT;go_upto_region 11 with fail;go_cut [53] (λ b wx=>b=.bool (lL T)/\w2=wx)
    case first=>
     match T,Z,P with
     | [],Z,P=>
      go_wp2_with fail;go_meet;case rel=>exact ⟨rfl,rfl⟩
     | [t],Z,P=>
      go_wp2_with fail;go_meet;case rel=>exact ⟨rfl,rfl⟩
     | t::c::l,Z,P=>
      obtain ⟨g,o,rfl,hg,N⟩:=P.out t _ rfl;obtain ⟨t0,_,_,_⟩:=N 0 t rfl;obtain ⟨c0,_,_,_⟩:=N 1 c rfl;simp only[Nat.zero_mul,Nat.add_zero,Nat.one_mul]at t0 c0;clear N;(have dy:(1:Int)<((t::c::l).length:Nat):=by simp;omega);(have dz:1<(t::c::l).length:=by simp);by_cases h1:t.kind=119
      .by_cases h2:c.kind=58
       .have e:lL (t::c::l)=true:=by simp[lL,h1,h2]
        rw[h1]at t0;rw[h2]at c0;go_wp2_with fail;go_meet;case rel=>exact ⟨by rw[e],rfl⟩
       (have e:lL (t::c::l)=false:=by simp[lL,h2]);rw[h1]at t0;(have g7:(c.kind==58)=false:=by simpa using h2);go_wp2_with fail;go_meet;case rel=>exact ⟨by rw[e],rfl⟩
      (have e:lL (t::c::l)=false:=by simp[lL,h1]);(have g6:(t.kind==119)=false:=by simpa using h1);go_wp2_with fail;go_meet;case rel=>exact ⟨by rw[e],rfl⟩
    case rest=>
     obtain ⟨rfl,hw⟩:=hcut;subst hw;go_upto_if 53 with fail;go_cut [6,9,11] (λ vn lv tw wx=>X8 G L k I C u5 vn lv tw wx)
     case first=>
      cases hlb:lL T with
      | false=>
       go_wp2_with fail;go_meet;case rel=>exact ⟨C,T,false,rfl,by omega,ae,ac,aB ⟨_,_,rfl,Z,P.out⟩,O.out,aB ⟨Nat.le_trans bi.out ba.out,bj.out⟩,aB (PX bh.out hlb _ _)⟩
      | true=>
       obtain ⟨t,c,l,rfl,dv,dw⟩:=Mm hlb;obtain ⟨g,o,rfl,hg,N⟩:=P.out t _ rfl;obtain ⟨_,t1,_,_⟩:=N 0 t rfl;simp only[Nat.zero_mul,Nat.add_zero]at t1;have eo:=aB N;(have eb:t.S.size=t.text.length:=by show t.text.toArray.size=_;simp);(have dy:0<(t::c::l).length:=by simp);(have dz:(0:Int)<((t::c::l).length:Nat):=by simp;omega);clear N hlb;by_cases h8:8<t.text.length
       .have HQ:R=(([],[]),4,(k:Int)+1):=((au.out _ (LD bh.out dv dw h8 _ _)).1 (show (4:Int)≠0 by decide))
        subst HQ;(have e4:(8:Int)<t.S.size:=by omega);(have dh:8<t.S.size:=by omega);clear eb h8;generalize t.S=ts at *;go_wp2;refine zp (v:=.tuple #[.slice none 0 0,.slice none 0 0,.agg #[.int .i64 4,.int .i64 ((k:Int)+1)]]) (by simp[results,results169,go_sem,g0,g1,gf]) rfl (um (ar _ _ O.out))
       have J:=aB (NS bh.out dv dw h8 I.length C);(have e4:(t.S.size:Int)<=8:=by omega);(have dh:t.S.size<=8:=by omega);clear eb h8;obtain ⟨an,cn,rfl,dp⟩:=EV ac.out;have ep:=aB dp;clear dp;generalize ec:t.S=ts at *;have gu:=aB ec;clear ec;go_upto_block 2 with fail;go_cut [11] (λ tw wx=>tw=.bool (C.any λ x=>x.1.toList==ts.toList)/\Below w2.heap.size w2 wx)
       case first=>
        go_wp2_with fail;(go_loopw [11,12] (λ tw kk ft=>∃j:Nat,j<=C.length/\kk=.int .i64 j/\tw=.bool ((C.take j).any λ x=>x.1.toList==ts.toList)/\Below w2.heap.size w2 ft) (λ _ kk _=>C.length-(intOf kk).toNat));case atStart=>exact ⟨0,by omega,rfl,by simp,aU⟩
        case round=>
         obtain ⟨j,hl,rfl,rfl,H⟩:=hrel;by_cases a0:j<C.length
         .obtain ⟨B,rfl,e5,n0,_⟩:=ep.out j C[j] (by simp[a0])
          replace n0:=(H.cell (p:=⟨B,j*2,none⟩) e5).trans n0;have h7:=(H.cell (p:=⟨g,o+1,none⟩) hg).trans t1;have fn:w2.heap.size<=wr.heap.size:=H.size;have a8:=aB H;(have bq:Hid (((C.take (j+1)).any λ x=>x.1.toList==ts.toList)=(((C.take j).any λ x=>x.1.toList==ts.toList)||(C[j].1.toList==ts.toList))):=aB (by rw[List.take_add_one,zg a0,List.any_append];simp));(have du:(j:Int)<C.length:=by omega);generalize C[j]=xj at *;(generalize ((C.take j).any λ x=>x.1.toList==ts.toList)=ab at *);clear H
          cases ab with
          | true=>
           go_wp2_with fail;go_quiet (fail);go_wp2;go_roundw;(case rel=>exact ⟨j+1,by omega,by go_num,by rw[bq.out];rfl,below_drewN a8.out nq⟩);case measure=>simp[intOf];omega
          | false=>
           go_wp2_with fail;go_quiet (fail);go_wp2;go_roundw;(case rel=>exact ⟨j+1,by omega,by go_num,by rw[bq.out];rfl,below_drewN a8.out nq⟩);case measure=>simp[intOf];omega
         (have cj:j=C.length:=by omega);subst cj;go_wp2_with fail;go_meet;case rel=>exact ⟨by rw[List.take_length],H⟩
       case rest=>
        obtain ⟨rfl,H⟩:=hcut;have fn:w2.heap.size<=wc.heap.size:=H.size;replace t1:=(H.cell (p:=⟨g,o+1,none⟩) hg).trans t1;(have hc:g<wc.heap.size:=by omega);obtain ⟨ap,cb,rfl⟩:=lm ae.out;have av:=aB (lZ ae.out H);have Q:=aB (lZ ac.out H);have aw:=aB (lZ dc.out H);(generalize (C.any λ x=>x.1.toList==ts.toList)=tw at *);have a8:=aB H;clear H P eo;(have gn:wr.heap.size<=wc.heap.size:=by omega);(go_wp2_with (at_builtin;refine wpList_append_own _ rfl _ _ 234 rfl G.heap.size 278 j0 _ 2 24 underlying234 hj fh fi fj rfl (by decide) _ _ _ rfl (Q.out.alloc _) ⟨wc.heap.size,0,none⟩ 1 1 (jv (ts,I.length)) rfl rfl ?c1 ?c2 ?c3 ?c4 ?c5 ?_));(case c1=>exact nD wc (jv (ts,I.length)) 278);(case c2=>intro u hu;simp[jv]at hu;rcases hu with rfl|rfl<;>rfl);(case c3=>unfold maxLen;omega);(case c4=>omega);(case c5=>simp;omega);intro v' w5 a5 D _;(have cz:Hid (w5.ownsRow G.heap.size 278 2 v' (C++[(ts,I.length)]).length ((C++[(ts,I.length)]).flatMap jv)):=aB (by simpa using a5));(have dd:Hid (w5.ownsRow G.heap.size 224 10 (.slice ap I.length cb) I.length (my I)):=aB ((av.out.alloc _).kept D (ut av.out Q.out (by decide))));(have ew:Hid (w5.ownsRow wr.heap.size 268 4 (.slice (some ⟨g,o,none⟩) (t::c::l).length cp) (t::c::l).length ((t::c::l).flatMap jE)):=aB ((aw.out.alloc _).kept D (ut aw.out Q.out (by decide))));(have al:Hid (Below G.heap.size G w5):=aB (((O.out.trans (a8.out.mono (by omega))).alloc (by omega) _).grown D (by simp;omega) (λ j hj=>by have:=(Q.out.lt j hj).1;omega)));clear a5 D Q av aw;go_wp2_with fail
        .go_meet
         case rel=>
          (have dq:cp=2:=by first|assumption|omega);(have dx:l=[]:=by have:=Z;rw[dq]at this;simpa using this);exact ⟨C++[(ts,I.length)],l,tw,rfl,by simp;omega,dd,cz,aB ⟨_,_,rfl,by rw[dx];simp,λ t' l' e=>by rw[dx]at e;cases e⟩,al.out,aB ⟨by have h1:=bi.out;have h2:=ba.out;simp at h1;omega,λ u hu=>bj.out u (by simp[hu])⟩,J⟩
        go_meet;case rel=>exact ⟨C++[(ts,I.length)],l,tw,rfl,by simp;omega,dd,cz,aB (LB ew.out),al.out,aB ⟨by have h1:=bi.out;have h2:=ba.out;simp at h1;omega,λ u hu=>bj.out u (by simp[hu])⟩,J⟩
     case rest=>
      obtain ⟨nms',T',b,rfl,e8,V,U,bs,bo,ay,J⟩:=hcut;have fo:G.heap.size<=wc.heap.size:=bo.size;have al:=aB bo;obtain ⟨p0,p1,pf⟩:=aq.out.below bo E;clear bo P dc ae ac b3 g0 g1 gf O bi bj bh cu Z;obtain ⟨g2,ez,rfl,ag,bv⟩:=bs.out;have az:=aB bv;clear bs bv;go_upto_if 96 with fail;go_cut [5] (λ vp wx=>WS G k I nms' T' u6 vp wx)
      case first=>
       match T',ag,az,ay,J with
       | [],ag,az,ay,J=>
        go_wp2_with fail;go_meet;case rel=>exact ⟨rfl,aB (by simpa[cZ] using V.out),U,al.out⟩
       | t::l,ag,az,ay,J=>
        obtain ⟨g,o,rfl,hg,N⟩:=az.out t l rfl;(have bg:=aB (JV t l g o ez wc (by have:=ay.out.1;simp at this;omega) hg (by simpa using ag) N (λ u hu=>ay.out.2 u (by simp[hu]))));replace J:Hid (dY L I.length C=pY C nms' b (fO t l)):=J;(rw[show l.length+1=(t::l).length by simp]at bg);(have dy:(0:Int)<((t::l).length:Nat):=by simp only[List.length_cons];omega);have df:Hid (cZ (t::l)=fO t l):=aB rfl;have fa:=FB t l;clear N az;generalize fO t l=ST at *;obtain ⟨q,er⟩:=ST;generalize (t::l).length=tl at *;simp only at fa;go_wp2_with fail;refine bg.out.mono ?_;rintro e w6 ⟨am,nm,cm,rfl,M,ai⟩;obtain ⟨gz,g3,fc⟩:=lm M;(injection fc with hs1 hs2 hs3);subst hs1 hs2 hs3;have fp:wc.heap.size<=w6.heap.size:=ai.size;have b4:Hid (Below G.heap.size G w6):=aB (al.out.trans (ai.mono fo));obtain ⟨x0,x1,xf⟩:=aq.out.below b4.out E;by_cases bp:er=0
        .subst bp
         have db:=aB (lZ V.out ai);have c9:=aB (lZ U.out ai);have es:=aB (Sv M)
         have eu:Hid (∀F,am=some ⟨F,0,none⟩->u5.ownBlock≠some F):=aB (λ F e h=>by
          subst e;have h1:=(M.lt F rfl).1;have h2:=(V.out.lt F h).2;omega)
         (have et:Hid (∀F,u6.ownBlock=some F->F<wc.heap.size):=aB (λ F h=>(U.out.lt F h).2));clear M ai V U p0 p1 pf bg;go_wp2_with fail;(go_loopw [5,15] (λ vp kk fu=>Xc G wc.heap.size k I q am nms' u6 vp kk fu) (λ _ kk _=>q.length-(intOf kk).toNat));case atStart=>exact ⟨0,by omega,rfl,aB (by simpa using db.out),c9,b4.out,es,eu,fp⟩
         case round=>
          obtain ⟨j,hm,rfl,be,bb,ce,b6,bu,ht⟩:=hrel;have cy:=aB ce;have go:G.heap.size<=wr.heap.size:=ce.size;clear ce;by_cases a0:j<q.length
          .obtain ⟨F,rfl,hf,e6,hh,K⟩:=b6.out j q[j] zn (by simp[a0])
           (have ex:Hid (q.take (j+1)=q.take j++[q[j]]):=aB (by rw[List.take_add_one,zg a0];rfl));generalize q[j]=p at *;have y0:=K 0 _ rfl;rw[Nat.add_zero]at y0;have y1:=K 1 _ rfl;have y2:=K 2 _ rfl;have y3:=K 3 _ rfl;have y4:=K 4 _ rfl;have y5:=K 5 _ rfl;have y6:=K 6 _ rfl;have y7:=K 7 _ rfl;have y8:=K 8 _ rfl;have y9:=K 9 _ rfl;(have du:(j:Int)<q.length:=by omega);(have b8:Hid (∀gp,u5.ownBlock=some gp->gp≠F):=aB (λ gp h e=>by subst e;exact bu.out gp rfl h));(have b9:Hid ((wr.setCell ⟨F,j*10+8,none⟩ (.int .i64 ((k:Int)+1))).ownsRow G.heap.size 224 10 u5 (I++(q.take j).map λ p=>(p,(k:Int)+1)).length (my (I++(q.take j).map λ p=>(p,(k:Int)+1)))):=aB (le be.out (λ gp h=>Below.heap_setCell _ _ _ _ (b8.out gp h))));clear K;(have Y:(wr.setCell ⟨F,j*10+8,none⟩ (.int .i64 ((k:Int)+1))).heap.size=wr.heap.size:=by simp[World.setCell]);(have hq:(I++(q.take j).map λ p=>(p,(k:Int)+1)).length<=5000:=by simp;omega);(generalize dk:(I++(q.take j).map λ p=>(p,(k:Int)+1))=PL at *);have ev:=aB dk;clear dk;(go_wp2_with (at_builtin;refine wpList_append_lies _ rfl _ _ 233 rfl G.heap.size 224 i0 _ 10 96 underlying233 hi fk fl cu rfl (by decide) _ _ _ rfl (b9.out.alloc _) ⟨wr.heap.size,0,none⟩ 1 1 (fF p ((k:Int)+1) 0) rfl rfl ?c1 ?c2 (by decide) ?c3 ?c4 ?c5 (wr.heap.size+1) ?c6 ?_));(case c1=>have:=nD (wr.setCell ⟨F,j*10+8,none⟩ (.int .i64 ((k:Int)+1))) (fF p ((k:Int)+1) 0) 224;rw[Y]at this;exact this);(case c2=>intro u hu;simp[fF]at hu;rcases hu with rfl|rfl|rfl|rfl|rfl|rfl|rfl|rfl|rfl|rfl<;>rfl);(case c3=>unfold maxLen;omega);(case c4=>omega);(case c5=>rw[za,Y];omega);(case c6=>rw[za,Y]);intro g8 c8 w8 a6 D dm gh
           have bf:Hid (w8.ownsRow G.heap.size 224 10 (.slice (some ⟨g8,0,none⟩) (PL.length+1) c8) (I++(q.take (j+1)).map λ p=>(p,(k:Int)+1)).length (my (I++(q.take (j+1)).map λ p=>(p,(k:Int)+1)))):=aB (by
            (have e:(I++(q.take (j+1)).map λ p=>(p,(k:Int)+1))=PL++[(p,(k:Int)+1)]:=by rw[ex.out,List.map_append,<-List.append_assoc,ev.out];rfl);rw[e];simpa[my] using a6)
           (have b7:Hid (w8.ownsRow G.heap.size 278 2 u6 nms'.length (nms'.flatMap jv)):=aB (((le bb.out (λ gp h=>Below.heap_setCell _ _ _ _ (show gp≠F by have:=et.out gp h;omega))).alloc _).kept D (ut bb.out be.out (by decide))));(have a9:Hid (Below G.heap.size G w8):=aB (((cy.out.setCell (p:=⟨F,j*10+8,none⟩) (show G.heap.size<=F by omega) _).alloc (by rw[Y];omega) _).grown D (by rw[za,Y];omega) (λ j hj=>by have:=(b9.out.lt j hj).1;omega)));(have fq:wc.heap.size<=w8.heap.size:=by have:=D.size;rw[za,Y]at this;omega);have bz:some F≠u5.ownBlock:=λ e=>b8.out F e.symm rfl
           have eq:Hid (AU wc.heap.size (some ⟨F,0,none⟩) q (j+1) w8):=aB (λ i p' hi e9=>by
            (obtain ⟨bk,e,a1,a2,a3,a4⟩:=b6.out i p' (by omega) e9);(injection e with e);(injection e with e);subst e;(have X:F<((wr.setCell ⟨F,j*10+8,none⟩ (.int .i64 ((k:Int)+1))).alloc (.cells #[.int .i64 p.ins.op,.int .i64 p.ins.rd,.int .i64 p.ins.rs1,.int .i64 p.ins.rs2,.int .i64 p.ins.imm,.string ⟨p.tg.toArray⟩,.bool p.sh,.string ⟨p.bt.toArray⟩,.int .i64 ((k:Int)+1),.int .i64 0] 224)).heap.size:=by rw[za,Y];omega);(have b0:F<(wr.setCell ⟨F,j*10+8,none⟩ (.int .i64 ((k:Int)+1))).heap.size:=by rw[Y];exact e6);have di:=(Below.refl (wr.setCell ⟨F,j*10+8,none⟩ (.int .i64 ((k:Int)+1))).heap.size (wr.setCell ⟨F,j*10+8,none⟩ (.int .i64 ((k:Int)+1)))).alloc zn (.cells #[.int .i64 p.ins.op,.int .i64 p.ins.rd,.int .i64 p.ins.rs1,.int .i64 p.ins.rs2,.int .i64 p.ins.imm,.string ⟨p.tg.toArray⟩,.bool p.sh,.string ⟨p.bt.toArray⟩,.int .i64 ((k:Int)+1),.int .i64 0] 224);refine ⟨F,rfl,a1,zl X D.size,λ y=>?_,λ x v hx=>?_⟩
            .rw[D.frozen_far ⟨F,y,none⟩ X bz,di.frozen (p:=⟨F,y,none⟩) b0,World.frozen?_setCell]
             exact a3 y
            have gj:x<10:=by
             rcases Nat.lt_or_ge x 10 with h|h
             .exact h
             rw[List.getElem?_eq_none (by simpa[fF] using h)]at hx;cases hx
            (rw[D.cell_far ⟨F,i*10+x,none⟩ X bz,di.cell (p:=⟨F,i*10+x,none⟩) b0,World.cell?_setCell_other _ _ _ _ (by intro h';injection h' with _ h1;omega)]);exact a4 x v hx)
           have c7:Hid (∀bk,(some ⟨F,0,none⟩:Option Addr)=some ⟨bk,0,none⟩->(Value.slice (some ⟨g8,0,none⟩) (PL.length+1) c8).ownBlock≠some bk):=aB (λ bk e h=>by
            (injection e with e);(injection e with e);subst e;(have e2:g8=F:=by simpa[Value.ownBlock] using h);rcases dm with h1|h1
            .exact b8.out g8 h1 e2
            omega)
           clear a6 D dm b9 b6 bb be bu y0 y1 y2 y3 y4 y5 y6 y7 y8 y9;go_wp2;go_roundw;(case rel=>exact ⟨j+1,by omega,by go_num,bf,b7,a9.out,eq,c7,fq⟩);case measure=>simp[intOf];omega
          (have cj:j=q.length:=by omega);subst cj;go_wp2_with fail;go_meet;case rel=>exact ⟨by rw[df.out],aB (by rw[df.out];have:=be.out;rw[List.take_length]at this;exact this),bb,cy.out⟩
        have HQ:R=(([],[]),er,(k:Int)+1):=((au.out _ (J.out.trans (Tw bp))).1 bp);subst HQ;(have hb:(er != 0)=true:=by simpa using bp);clear J bg M ai V U;go_wp2;refine zp (v:=.tuple #[.slice none 0 0,.slice none 0 0,.agg #[.int .i64 er,.int .i64 ((k:Int)+1)]]) (by simp[results,results169,go_sem,x0,x1,xf]) rfl (um (ar _ _ b4.out))
      case rest=>
       obtain ⟨ea,bf,b7,cf⟩:=hcut;have fd:=Ad T';generalize cZ T'=ST at *;obtain ⟨q,er⟩:=ST;simp only at ea fd bf;subst ea;obtain ⟨x0,x1,xf⟩:=aq.out.below cf E;have a9:=aB cf;clear cf
       cases b with
       | true=>
        (have HQ:R=(([],[]),6,(k:Int)+1):=((au.out _ J.out).1 (show (6:Int)≠0 by decide)));subst HQ;go_wp2;refine zp (v:=.tuple #[.slice none 0 0,.slice none 0 0,.agg #[.int .i64 6,.int .i64 ((k:Int)+1)]]) (by simp[results,results169,go_sem,x0,x1,xf]) rfl (um (ar _ _ a9.out))
       | false=>
        (have HQ:Hid (R=fD (A.drop (k+1)) (k+1) (I++q.map λ p=>(p,(k:Int)+1)) nms'):=aB ((au.out _ J.out).2 rfl));go_wp2;go_roundw;(case rel=>exact ⟨k+1,I++q.map λ p=>(p,(k:Int)+1),nms',by omega,by go_num,by simp;omega,e8,bf,b7,a9.out,HQ⟩);case measure=>simp[intOf];omega
  have e7:k=A.length:=by omega
  subst e7;have HQ:R=((I,C),0,0):=b5.out.trans (by rw[List.drop_length];rfl)
  subst HQ;obtain ⟨ap,cb,rfl⟩:=lm bd.out;obtain ⟨an,cn,rfl⟩:=lm bc.out;go_wp2;refine zp (v:=.tuple #[.slice ap I.length cb,.slice an C.length cn,.agg #[.int .i64 0,.int .i64 0]]) (by simp[results,results169,go_sem,f0,f1,ff]) rfl ⟨_,_,_,_,_,_,rfl,uq (ownsRow_setCell_below (ownsRow_setCell_below bd.out E _) E _) (Nat.le_of_lt E),uq (ownsRow_setCell_below (ownsRow_setCell_below bc.out E _) E _) (Nat.le_of_lt E),ar _ _ aj⟩
abbrev Pz:=Rp×Int×Int
def dM (ps:List Pz):List Int:=ps.map λ p=>p.2.2
def eA (ps:List Pz) (nm:List (ByteArray×Nat)) (p:Rp) (k:Nat):aE:=if p.tg=[] then p.ins else { p.ins with imm:=jK (dM ps) nm ⟨p.tg.toArray⟩-eF (dM ps) k }
def Vb {sz:List Int} (h:∀x∈sz,0<=x/\x<=4) (nm:List (ByteArray×Nat)) (j:∀x∈nm,x.2<=sz.length) (s):-1<=jK sz nm s/\jK sz nm s<=4*sz.length:=by
 unfold jK
 split
 .rename_i x hx
  have:=oE h x.2;have:=j x (List.mem_of_find?_eq_some hx);omega
 omega
def pS (la:Option Addr) (ps:List Pz) (w:World):Prop:=
 ∀i p,ps[i]?=some p->∃B:Nat,la=some ⟨B,0,none⟩/\B<w.heap.size/\∀x v,(fF p.1 p.2.1 p.2.2)[x]?=some v->w.cell? ⟨B,i*10+x,none⟩=some v
def rq (na:Option Addr) (nm:List (ByteArray×Nat)) (w:World):Prop:=
 ∀i x,nm[i]?=some x->∃B:Nat,na=some ⟨B,0,none⟩/\B<w.heap.size/\w.cell? ⟨B,i*2,none⟩=some (.string x.1)/\w.cell? ⟨B,i*2+1,none⟩=some (.int .i64 x.2)
structure Lay (ps:List Pz) (nm:List (ByteArray×Nat)):Prop where
 len:ps.length<=5000
 nlen:nm.length<=5000
 sz:∀p∈ps,0<=p.2.2/\p.2.2<=4
 at':∀x∈nm,x.2<=ps.length
def Lay.szs {j:List Pz} {nm:List (ByteArray×Nat)} (h:Lay j nm):∀x∈dM j,0<=x/\x<=4:=λ x hx=>by
 obtain ⟨p,q,rfl⟩:=List.mem_map.1 hx;exact h.sz p q
def It {q:List Pz} (h:pS la q w):∀i,i<(dM q).length->∃B:Nat,la=some ⟨B,0,none⟩/\w.cell? ⟨B,i*10+9,none⟩=some (.int .i64 ((dM q).getD i 0)):=λ i hi=>by
 have j:i<q.length:=by simpa[dM] using hi
 obtain ⟨B,u,_,v⟩:=h i q[i] (by simp[j])
 refine ⟨B,u,(v 9 _ rfl).trans ?_⟩;simp[dM,List.getD,j]
def Gt {h:List Pz} {nm:List (ByteArray×Nat)} (j:Lay h nm) (A:pS la h w) (y:rq na nm w) (cap ncap) (s):
    zS prog 170 #[.slice la h.length cap,.slice na nm.length ncap,.string s] w (.int .i64 (jK (dM h) nm s)):=by
 unfold zS;have e:(dM h).length=h.length:=by simp[dM]
 have:=Pj la cap (dM h) na ncap nm s w (by have:=j.len;omega) j.szs (by have:=j.nlen;omega) (λ x hx=>by rw[e];exact j.at' x hx) (It A) (λ i x hx=>by obtain ⟨B,q,_,u,v⟩:=y i x hx;exact ⟨B,q,u,v⟩)
 rw[e]at this;exact this
def DS {h:List Pz} {nm:List (ByteArray×Nat)} (j:Lay h nm) (q:pS la h w) (cap k) (u:k<=h.length):
    zS prog 172 #[.slice la h.length cap,.int .i64 k] w (.int .i64 (eF (dM h) k)):=by
 unfold zS;have e:(dM h).length=h.length:=by simp[dM]
 have:=CS la cap (dM h) k w (by omega) (by have:=j.len;omega) j.szs (It q)
 rw[e]at this;exact this
def uI {q:List Pz} (h:pS la q w) (j:Below w.heap.size w w'):pS la q w':=λ i p C=>by
 obtain ⟨B,u,y,A⟩:=h i p C;exact ⟨B,u,by have:=j.size;omega,λ x v hx=>(j.cell (p:=⟨B,_,none⟩) y).trans (A x v hx)⟩
def uy {nm:List (ByteArray×Nat)} (h:rq na nm w) (j:Below w.heap.size w w'):rq na nm w':=λ i x hx=>by
 obtain ⟨B,u,q,v,y⟩:=h i x hx;exact ⟨B,u,by have:=j.size;omega,(j.cell (p:=⟨B,_,none⟩) q).trans v,(j.cell (p:=⟨B,_,none⟩) q).trans y⟩
def Cr (la na:Option Addr) (j:List Pz) (nm:List (ByteArray×Nat)) (cap q k:Nat) (p:Pz) (w:World) (u:Lay j nm) (D:pS la j w) (M:rq na nm w) (E:j[k]?=some p) (N:j.length<=cap):
    Calls prog 171 #[.slice la j.length cap,.slice na nm.length q,.int .i64 k] w λ e w'=>e=.returned (eA j nm p.1 k).val/\Below w.heap.size w w':=by
 have V:k<j.length:=by
  rcases Nat.lt_or_ge k j.length with h|h
  .exact h
  rw[List.getElem?_eq_none h]at E;cases E
 obtain ⟨B,rfl,T,K⟩:=D k p E;have Z:=K 0 _ rfl;rw[Nat.add_zero]at Z;obtain ⟨_,y1,y2,y3,y4,y5⟩:=z6 K;have O:(k:Int)<j.length:=by omega
 have X:=u.len;have P:=aB (λ W (C:Below w.heap.size w W)=>Gt u (uI D C) (uy M C) cap q ⟨p.1.tg.toArray⟩)
 have G:=aB (λ W (C:Below w.heap.size w W)=>DS u (uI D C) cap k (by omega))
 have U:=oE u.szs k;have J:=Vb u.szs nm (λ x hx=>by rw[show (dM j).length=j.length by simp[dM]];exact u.at' x hx) ⟨p.1.tg.toArray⟩
 rw[show (dM j).length=j.length by simp[dM]]at J
 have A:Hid (eA j nm p.1 k=if p.1.tg=[] then p.1.ins else { p.1.ins with imm:=jK (dM j) nm ⟨p.1.tg.toArray⟩-eF (dM j) k }):=aB rfl
 generalize eA j nm p.1 k=R at *;generalize jK (dM j) nm ⟨p.1.tg.toArray⟩=F at *;generalize eF (dM j) k=Q at *;obtain ⟨⟨I,tg,sh,bt⟩,ln,sz⟩:=p;simp only at *;clear K D M u E;have L:(⟨tg.toArray⟩:ByteArray).toList=tg:=pz tg;by_cases y:tg=[]
 .have H:R=I:=A.out.trans (zt y)
  subst H y;clear A;go_in;go_wp2;refine zp (v:=R.val) (by simp[results,results171,go_sem,aE.val]) rfl ⟨rfl,?_⟩
  exact aJ.alloc (by simp) _
 have H:R = { I with imm:=F-Q }:=A.out.trans (aC y)
 subst H;have Y:tg.isEmpty=false:=by simpa using y
 clear A y L;go_in;go_wp2_with fail;refine (P.out _ (aJ.alloc (by simp) _)).mono ?_
 rintro e w2 ⟨rfl,rfl⟩;go_wp2_with fail;refine (G.out _ (aJ.alloc (by simp) _)).mono ?_
 rintro e w3 ⟨rfl,rfl⟩;go_wp2;refine zp (v:=({ I with imm:=F-Q }:aE).val) (by simp[results,results171,go_sem,aE.val]) rfl ⟨rfl,?_⟩
 exact aJ.alloc (by simp) _
def rM (b:Nat) (la:Option Addr) (ps:List Pz) (w:World):Prop:=pS la ps w/\∀B,la=some ⟨B,0,none⟩->b<=B/\B<w.heap.size/\∀y,w.frozen? ⟨B,y,none⟩=false
def Vk (p:Rp) (ln a b) (x) (hx:x≠9):(fF p ln a)[x]?=(fF p ln b)[x]?:=by
 match x,hx with
 | 0,_=>rfl
 | 1,_=>rfl
 | 2,_=>rfl
 | 3,_=>rfl
 | 4,_=>rfl
 | 5,_=>rfl
 | 6,_=>rfl
 | 7,_=>rfl
 | 8,_=>rfl
 | x+10,_=>rfl
def Vp {B:Nat} {E:List Pz} {p:Pz} (h:rM b la E w) (u:la=some ⟨B,0,none⟩) (I:E[k]?=some p) (n):
    rM b la (E.set k (p.1,p.2.1,n)) (w.setCell ⟨B,k*10+9,none⟩ (.int .i64 n)):=by
 obtain ⟨P,L⟩:=h;have N:(w.setCell ⟨B,k*10+9,none⟩ (.int .i64 n)).heap.size=w.heap.size:=by simp[World.setCell]
 refine ⟨λ i q A=>?_,λ Q e=>?_⟩
 .obtain ⟨M,C,V⟩:=L B u
  refine ⟨B,u,by rw[N];exact C,λ x v hx=>?_⟩
  have O:x<10:=by
   rcases Nat.lt_or_ge x 10 with h|h
   .exact h
   rw[List.getElem?_eq_none (by simpa[fF] using h)]at hx;cases hx
  by_cases D:k=i
  .subst D
   obtain ⟨R,j,_,F⟩:=P k p I;rw[u]at j;(injection j with j);(injection j with j);subst j
   have J:k<E.length:=by
    rcases Nat.lt_or_ge k E.length with h|h
    .exact h
    rw[List.getElem?_eq_none h]at I;cases I
   rw[List.getElem?_set_self J]at A;(injection A with A);subst A;by_cases K:x=9
   .subst K
    (have:v=.int .i64 n:=by injection hx with hx;exact hx.symm);subst this;exact World.cell?_setCell_same _ _ _ (F 9 _ rfl)
   (rw[World.cell?_setCell_other _ _ _ _ (by intro G;injection G with _ H;omega)]);exact F x v (by rw[Vk p.1 p.2.1 p.2.2 n x K];exact hx)
  rw[List.getElem?_set_ne D]at A;obtain ⟨R,j,_,F⟩:=P i q A;rw[u]at j;injection j with j
  injection j with j
  subst j;rw[World.cell?_setCell_other _ _ _ _ (by intro G;injection G with _ H;omega)]
  exact F x v hx
 obtain ⟨H,T,U⟩:=L Q e;exact ⟨H,by rw[N];exact T,λ y=>by rw[World.frozen?_setCell];exact U y⟩
def uV {q:List Pz} (h:rM b la q w) (j:Below w.heap.size w w'):rM b la q w':=
 ⟨uI h.1 j,λ B e=>by
  obtain ⟨u,v,A⟩:=h.2 B e;exact ⟨u,by have:=j.size;omega,λ y=>(j.frozen (p:=⟨B,y,none⟩) v).trans (A y)⟩⟩
def TS {u:List (Rp×Int)} (h:w.ownsRow b 224 10 (.slice la u.length cap) u.length (my u)):rM b la (u.map λ p=>(p.1,p.2,0)) w:=by
 have D:=h;obtain ⟨_,C|⟨g,F,G,L,H,M,J,_⟩⟩:=h
 .have K:u=[]:=List.eq_nil_of_length_eq_zero C.2
  subst K;refine ⟨λ i p j=>(by cases j),λ B e=>?_⟩
  have:=C.1;subst e;cases this
 injection L with C _ h3
 subst C h3;refine ⟨λ i p j=>?_,λ B e=>?_⟩
 .rw[List.getElem?_map]at j
  cases hq:u[i]? with
  | none=>rw[hq]at j;cases j
  | some q=>
   rw[hq]at j;(injection j with j);subst j
   have I:i<u.length:=by
    rcases Nat.lt_or_ge i u.length with h|h
    .exact h
    rw[List.getElem?_eq_none h]at hq;cases hq
   refine ⟨g,rfl,(D.lt g rfl).2,λ x v hx=>?_⟩
   have A:x<10:=by
    rcases Nat.lt_or_ge x 10 with h|h
    .exact h
    rw[List.getElem?_eq_none (by simpa[fF] using h)]at hx;cases hx
   (have E:=jF (λ p:Rp×Int=>fF p.1 p.2 0) 10 (λ _=>rfl) u i x A I);rw[hq]at E;simp only[zd]at E;have:=D.cells (g:=g) rfl (10*i+x) _ (E.trans hx);rw[sG]at this;rw[Nat.mul_comm i 10];exact this
 injection e with e
 injection e with e
 subst e;exact ⟨H,(D.lt g rfl).2,λ y=>D.frozenAt y⟩
def Tp {nm:List (ByteArray×Nat)} (h:w.ownsRow b 278 2 (.slice na nm.length cap) nm.length (nm.flatMap jv)):rq na nm w/\∀B,na=some ⟨B,0,none⟩->b<=B:=by
 obtain ⟨u,j,e,q⟩:=EV h;injection e with e1 _ _
 subst e1;refine ⟨q,λ B e=>?_⟩
 subst e;exact (h.lt B rfl).1
