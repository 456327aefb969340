import Derived.Test.YtbmcofdodfcnnaaGreatDoorGWB
import Derived.Test.YtbmcofdodfcnnaaGreatDoorW37
set_option linter.all false
set_option maxHeartbeats 0
set_option maxRecDepth 100000
namespace Go
open Proofs.Tryz RowKit
variable {g o : Nat} {w W : World} {er : Int}
def Oo (t:aI) (l:List aI) (g o cap) (w) (J:l.length<=1999) (N:g<w.heap.size) (u:l.length+1<=cap) (q:gK t l g o w) (O:(t.kind==46)=false) (h:t.text≠[109,118]/\t.text≠[110,111,116]/\t.text≠[110,101,103]/\t.text≠[115,101,113,122]/\t.text≠[115,110,101,122]/\t.text≠[98,101,113,122]/\t.text≠[98,110,101,122]/\t.text≠[106]/\t.text≠[108,105]/\t.text≠[110,111,112]/\t.text≠[114,101,116]):
    Calls prog 243 #[.slice (some ⟨g,o,none⟩) (l.length+1) cap] w λ e w'=>gM [] 4 w e w':=by
 obtain ⟨t0,t1,_,_⟩:=q 0 t rfl;simp only[Nat.zero_mul,Nat.add_zero]at t0 t1;have v:(t.S.toList==[109,118])=false:=by rw[hQ];simpa using h.1
 have y:(t.S.toList==[110,111,116])=false:=by rw[hQ];simpa using h.2.1
 have A:(t.S.toList==[110,101,103])=false:=by rw[hQ];simpa using h.2.2.1
 have C:(t.S.toList==[115,101,113,122])=false:=by rw[hQ];simpa using h.2.2.2.1
 have D:(t.S.toList==[115,110,101,122])=false:=by rw[hQ];simpa using h.2.2.2.2.1
 have E:(t.S.toList==[98,101,113,122])=false:=by rw[hQ];simpa using h.2.2.2.2.2.1
 have F:(t.S.toList==[98,110,101,122])=false:=by rw[hQ];simpa using h.2.2.2.2.2.2.1
 have G:(t.S.toList==[106])=false:=by rw[hQ];simpa using h.2.2.2.2.2.2.2.1
 have H:(t.S.toList==[108,105])=false:=by rw[hQ];simpa using h.2.2.2.2.2.2.2.2.1
 have I:(t.S.toList==[110,111,112])=false:=by rw[hQ];simpa using h.2.2.2.2.2.2.2.2.2.1
 have j:(t.S.toList==[114,101,116])=false:=by rw[hQ];simpa using h.2.2.2.2.2.2.2.2.2.2
 clear h;generalize K:l.length+1=n at *;have dQ:0<n:=by omega
 have M:(0:Int)<n:=by omega
 have L:n<=2000:=by omega
 clear K J q;generalize t.S=s at *;go_in;go_wp2;go_ret2;exact fQ aU
def UQ (t:aI) (l:List aI) (g o cap) (w) (y:l.length<=1999) (q:g<w.heap.size) (h:l.length+1<=cap) (j:gK t l g o w) (C:∀u∈l,-1099511627776<=u.num/\u.num<=1099511627776) (v:(t.kind==46)=false):
    Calls prog 243 #[.slice (some ⟨g,o,none⟩) (l.length+1) cap] w λ e w'=>gM (cU t l).1 (cU t l).2 w e w':=by
 by_cases D:t.text=[109,118]
 .exact sZ t l g o cap w y q h j v (.inl D)
 by_cases E:t.text=[110,111,116]
 .exact sZ t l g o cap w y q h j v (.inr (.inl E))
 by_cases F:t.text=[110,101,103]
 .exact sZ t l g o cap w y q h j v (.inr (.inr (.inl F)))
 by_cases G:t.text=[115,101,113,122]
 .exact sZ t l g o cap w y q h j v (.inr (.inr (.inr (.inl G))))
 by_cases H:t.text=[115,110,101,122]
 .exact sZ t l g o cap w y q h j v (.inr (.inr (.inr (.inr H))))
 by_cases I:t.text=[98,101,113,122]
 .exact Hv t l g o cap w y q h j v (.inl I)
 by_cases J:t.text=[98,110,101,122]
 .exact Hv t l g o cap w y q h j v (.inr J)
 by_cases K:t.text=[106]
 .exact WJ t l g o cap w y q h j v K
 by_cases h8:t.text=[108,105]
 .exact VO t l g o cap w y q h j C v h8
 by_cases L:t.text=[110,111,112]
 .exact H1 t l g o cap w y q h j v (.inl L)
 by_cases A:t.text=[114,101,116]
 .exact H1 t l g o cap w y q h j v (.inr A)
 have e:cU t l=([],4):=by
  unfold cU lN;rw[aC D,aC E,aC F,aC G,aC H,aC I,aC J,aC K,aC h8,aC L,aC A]
 rw[e];exact Oo t l g o cap w y q h j v ⟨D,E,F,G,H,I,J,K,h8,L,A⟩
def hU (t:aI) (l:List aI):List Rp×Int:=if t.kind=46 then jI l else cU t l
def js (t:aI):List aI->Bool
 | d::u::_=>decide (t.text=[99])&&decide (d.kind=46)&&!d.blank&&!u.blank
 | _=>false
def cR (p:aE×ByteArray×Int):List Rp×Int:=if p.2.2=0 then (if (eM p.1).2=0 then ([⟨p.1,p.2.1.data.toList,true,[]⟩],0) else ([],5)) else ([],p.2.2)
def kb (t:aI) (l:List aI) (p:aE×ByteArray×Int):List Rp×Int:=
 if p.2.2=0 then ([⟨p.1,p.2.1.data.toList,false,[]⟩],0) else if p.2.2=5 then ([],5) else hU t l
def fO (t:aI) (l:List aI):List Rp×Int:=
 if js t l=true then (match l with|_::u::r=>cR (plain u r false)|_=>([],4)) else kb t l (plain t l true)
def mT {t:aI} {l:List aI} (h:js t l=false):fO t l=kb t l (plain t l true):=by
 unfold fO;rw[aC (by rw[h];decide)]
def xh (t:aI) (l:List aI):(plain t l true).2.2=0\/(plain t l true).2.2=4\/(plain t l true).2.2=5:=by
 unfold plain
 split
 .exact Or.inr (Or.inl rfl)
 split
 .exact Or.inr (Or.inl rfl)
 split
 .exact Or.inr (Or.inl rfl)
 split
 .exact Or.inl rfl
 exact Or.inr (Or.inr rfl)
def xF (t:aI) (l:List aI) (g o cap) (w) (A:l.length<=1999) (y:g<w.heap.size) (j:l.length+1<=cap) (v:gK t l g o w) (q:∀u∈l,-1099511627776<=u.num/\u.num<=1099511627776):
    Calls prog 243 #[.slice (some ⟨g,o,none⟩) (l.length+1) cap] w λ e w'=>gM (hU t l).1 (hU t l).2 w e w':=by
 unfold hU;by_cases h:t.kind=46
 .rw[zt h]
  exact U4 t l g o cap w A y j v q h
 rw[aC h];exact UQ t l g o cap w A y j v q (by simpa using h)
def xl {t:aI} {l:List aI} {w':World} (h:gK t l g o w) (q:g<w.heap.size) (j:Below w.heap.size w w'):gK t l g o w':=λ k u v=>by
 obtain ⟨a,b,c,d⟩:=h k u v;exact ⟨(j.cell (p:=⟨g,_,none⟩) q).trans a,(j.cell (p:=⟨g,_,none⟩) q).trans b,(j.cell (p:=⟨g,_,none⟩) q).trans c,(j.cell (p:=⟨g,_,none⟩) q).trans d⟩
def D3 {t d u:aI} {l:List aI} (h:gK t (d::u::l) g o w):gK u l g (o+8) w:=λ k v q=>by
 have:=h (k+2) v (by simpa using q)
 have j:o+(k+2)*4=o+8+k*4:=by omega
 rw[j]at this;exact this
def xg {p:Rp} {X:Obj} (h:Below w.heap.size w W):gM [p] er w (.returned (.tuple #[.slice (some ⟨W.heap.size+1,0,none⟩) 1 1,.int .i64 er])) ((W.alloc X).alloc (.cells (fF p 0 0).toArray 224)):=by
 have:=mE (p:=p) (er:=er) (h.alloc h.size X);rw[za]at this;exact this
def Lc {p:Rp} {q:Addr} {v:Value} (h:Below w.heap.size w W) (j:w.heap.size<=q.block):gM [p] er w (.returned (.tuple #[.slice (some ⟨W.heap.size,0,none⟩) 1 1,.int .i64 er])) ((W.setCell q v).alloc (.cells (fF p 0 0).toArray 224)):=by
 have:=mE (p:=p) (er:=er) (h.setCell j v);rw[show (W.setCell q v).heap.size=W.heap.size by simp[World.setCell]]at this
 exact this
def KT (w:World) (i:aE) (nm:ByteArray):eU w.heap.size i nm (w.alloc (.cells #[.int .i64 i.op,.int .i64 i.rd,.int .i64 i.rs1,.int .i64 i.rs2,.int .i64 i.imm,.string nm,.bool false,.string ⟨#[]⟩,.int .i64 0,.int .i64 0] 224)):=
 ⟨⟨by go_simp,by go_simp,by go_simp,by go_simp,by go_simp⟩,⟨by go_simp,by go_simp,by go_simp,by go_simp,by go_simp⟩,λ q=>by go_simp⟩
def X3 (t d u:aI) (l:List aI) (g o cap) (w) (hl:l.length<=1997) (hg:g<w.heap.size) (V:l.length+3<=cap) (H:gK t (d::u::l) g o w) (O:t.text=[99]) (P:d.kind=46) (Q:d.blank=false) (T:u.blank=false):
    Calls prog 214 #[.slice (some ⟨g,o,none⟩) (l.length+3) cap] w λ e w'=>gM (cR (plain u l false)).1 (cR (plain u l false)).2 w e w':=by
 obtain ⟨_,t1,_,_⟩:=H 0 t rfl;obtain ⟨d0,_,_,d3⟩:=H 1 d rfl;obtain ⟨_,_,_,u3⟩:=H 2 u rfl;simp only[Nat.zero_mul,Nat.add_zero,Nat.one_mul,Nat.add_assoc,Nat.reduceAdd,Nat.reduceMul]at t1 d0 d3 u3;rw[P]at d0;rw[Q]at d3;rw[T]at u3;have hS:t.S.toList=[99]:=(hQ t).trans O;have M:=aB (EP u l g (o+8) (cap-2) w (by omega) hg (by omega) (D3 H))
 generalize hn:l.length+3=n at *;rw[show l.length+1=n-2 by omega]at M
 have dQ:2<n:=by omega
 have ag:(2:Int)<n:=by omega
 have af:n<=2000:=by omega
 clear hn hl H O P Q T;generalize t.S=s at *;generalize plain u l false=Y at *;obtain ⟨I,nm,c⟩:=Y;generalize U:cR (I,nm,c)=R;have K:=aB U.symm;clear U;go_in;go_wp2_with fail;refine zK M.out λ L A=>?_;have E:=aB A;have D:w.heap.size<=L.heap.size:=A.size;clear A M t1 d0 d3 u3;unfold iv;by_cases y:c=0
 .subst y
  generalize C:eM I=Z at *;obtain ⟨sh,N⟩:=Z;have G:=aB (λ W=>qu I W)
  rw[C]at G;have j:R=if N=0 then ([⟨I,nm.data.toList,true,[]⟩],0) else ([],5):=K.out.trans (by unfold cR;simp only[if_true];rw[C])
  have J:=aB j;clear j K C;go_wp2_with fail;refine zK (G.out _) λ X v=>?_;obtain ⟨⟨x0,x1,x2,x3,x4⟩,⟨x5,x6,x7,x8,x9⟩,xf⟩:=(KT L I nm).below v (by simp)
  have ai:L.heap.size<X.heap.size:=by have:=v.size;simp at this;omega
  have F:Hid (Below w.heap.size w X):=aB ((E.out.alloc D _).trans (v.mono (by simp;omega)))
  clear v;by_cases h:N=0
  .have j:=J.out
   rw[zt h]at j;subst j h;clear J;go_wp2;go_ret2;exact Lc (p:=⟨I,nm.data.toList,true,[]⟩) (q:=⟨L.heap.size,6,none⟩) F.out D
  have j:=J.out;rw[aC h]at j;subst j;have ah:(N != 0)=true:=by simpa using h
  clear J h;go_wp2;go_ret2;exact fQ F.out
 have j:R=([],c):=K.out.trans (by unfold cR;rw[aC y])
 subst j;have aa:(c != 0)=true:=by simpa using y
 clear K y;go_wp2;go_ret2;exact fQ (E.out.alloc D _)
def Iy (t:aI) (l:List aI) (g o cap) (w) (K:l.length<=1999) (N:g<w.heap.size) (j:l.length+1<=cap) (H:gK t l g o w) (D:∀u∈l,-1099511627776<=u.num/\u.num<=1099511627776) (V:l.length+1<=2):
    Calls prog 214 #[.slice (some ⟨g,o,none⟩) (l.length+1) cap] w λ e w'=>gM (kb t l (plain t l true)).1 (kb t l (plain t l true)).2 w e w':=by
 have L:=aB (xE t l g o cap w K N j H);have G:=aB (λ W (F:Below w.heap.size w W)=>xF t l g o cap W K (by have:=F.size;omega) j (xl H N F) D)
 generalize Q:l.length+1=n at *;have hq:¬((2:Int)<n):=by omega
 have dQ:0<n:=by omega
 have U:(0:Int)<n:=by omega
 have T:n<=2000:=by omega
 clear Q K H;clear V;have J:=xh t l;generalize plain t l true=P at *;obtain ⟨I,nm,c⟩:=P;generalize M:kb t l (I,nm,c)=R;have y:=aB M.symm;clear M;go_in;go_wp2_with fail;refine zK L.out λ X q=>?_;have h:=aB q;have v:w.heap.size<=X.heap.size:=q.size;clear q L;unfold iv;rcases J with rfl|rfl|rfl
 .have C:R=([⟨I,nm.data.toList,false,[]⟩],0):=y.out
  subst C;clear y G;go_wp2;go_ret2;exact xg (p:=⟨I,nm.data.toList,false,[]⟩) h.out
 .have C:R=hU t l:=y.out
  subst C;clear y;go_wp2_with fail;refine (G.out _ (h.out.alloc v _)).mono ?_;intro e w5 O;have A:=aB O;clear O;obtain ⟨Y,m,Z,rfl,E,F⟩:=id A.out;clear E F;go_wp2;go_ret2;exact ua (h.out.alloc v _) A.out
 have C:R=([],5):=y.out;subst C;clear y G;go_wp2;go_ret2;exact fQ (h.out.alloc v _)
def Wq (t:aI) (l:List aI) (g o cap) (w) (D:2<=l.length) (L:l.length<=1999) (O:g<w.heap.size) (j:l.length+1<=cap) (H:gK t l g o w) (E:∀u∈l,-1099511627776<=u.num/\u.num<=1099511627776) (Q:t.text≠[99]):
    Calls prog 214 #[.slice (some ⟨g,o,none⟩) (l.length+1) cap] w λ e w'=>gM (kb t l (plain t l true)).1 (kb t l (plain t l true)).2 w e w':=by
 obtain ⟨_,t1,_,_⟩:=H 0 t rfl;simp only[Nat.zero_mul,Nat.add_zero]at t1;have hS:(t.S.toList==[99])=false:=by rw[hQ];simpa using Q
 have M:=aB (xE t l g o cap w L O j H);have J:=aB (λ W (G:Below w.heap.size w W)=>xF t l g o cap W L (by have:=G.size;omega) j (xl H O G) E)
 generalize U:l.length+1=n at *;have hq:(2:Int)<n:=by omega
 have Y:2<n:=by omega
 have dQ:0<n:=by omega
 have X:(0:Int)<n:=by omega
 have V:n<=2000:=by omega
 clear U L H;clear Q D;generalize t.S=s at *;have K:=xh t l;generalize plain t l true=T at *;obtain ⟨I,nm,c⟩:=T;generalize N:kb t l (I,nm,c)=R;have y:=aB N.symm;clear N;go_in;go_wp2_with fail;refine zK M.out λ Z q=>?_;have h:=aB q;have v:w.heap.size<=Z.heap.size:=q.size;clear q M t1;unfold iv;rcases K with rfl|rfl|rfl
 .have C:R=([⟨I,nm.data.toList,false,[]⟩],0):=y.out
  subst C;clear y J;go_wp2;go_ret2;exact xg (p:=⟨I,nm.data.toList,false,[]⟩) h.out
 .have C:R=hU t l:=y.out
  subst C;clear y;go_wp2_with fail;refine (J.out _ (h.out.alloc v _)).mono ?_;intro e w5 P;have A:=aB P;clear P;obtain ⟨ao,m,cp,rfl,F,G⟩:=id A.out;clear F G;go_wp2;go_ret2;exact ua (h.out.alloc v _) A.out
 have C:R=([],5):=y.out;subst C;clear y J;go_wp2;go_ret2;exact fQ (h.out.alloc v _)
def Bg (t:aI) (d u:aI) (r l:List aI) (g o cap) (w) (O:l.length<=1999) (T:g<w.heap.size) (q:l.length+1<=cap) (C:gK t l g o w) (H:∀u∈l,-1099511627776<=u.num/\u.num<=1099511627776) (j:l=d::u::r) (V:t.text=[99]) (hx:d.kind≠46\/(d.kind=46/\d.blank=true)\/d.kind=46/\d.blank=false/\u.blank=true):
    Calls prog 214 #[.slice (some ⟨g,o,none⟩) (l.length+1) cap] w λ e w'=>gM (kb t l (plain t l true)).1 (kb t l (plain t l true)).2 w e w':=by
 obtain ⟨_,t1,_,_⟩:=C 0 t rfl;obtain ⟨d0,_,_,d3⟩:=C 1 d (by rw[j];rfl)
 obtain ⟨_,_,_,u3⟩:=C 2 u (by rw[j];rfl)
 simp only[Nat.zero_mul,Nat.add_zero,Nat.one_mul,Nat.add_assoc,Nat.reduceAdd,Nat.reduceMul]at t1 d0 d3 u3;have hS:t.S.toList=[99]:=(hQ t).trans V;have G:2<=l.length:=by rw[j];simp
 rcases hx with D|⟨D,M⟩|⟨D,M,X⟩
 all_goals
  first
  | ((have hq:d.kind≠46:=D);have Z:(d.kind==46)=false:=by simpa using D)
  | (rw[D]at d0;rw[M]at d3;clear M;first|(rw[X]at u3;clear X)|skip)
  have P:=aB (xE t l g o cap w O T q C);have L:=aB (λ W (K:Below w.heap.size w W)=>xF t l g o cap W O (by have:=K.size;omega) q (xl C T K) H)
  generalize hn:l.length+1=n at *;have hq:(2:Int)<n:=by omega
  have af:2<n:=by omega
  have dQ:0<n:=by omega
  have ac:(0:Int)<n:=by omega
  have ab:n<=2000:=by omega
  clear hn O C;clear V j G;generalize t.S=s at *;clear D;have N:=xh t l;generalize plain t l true=Y at *;obtain ⟨I,nm,c⟩:=Y;generalize Q:kb t l (I,nm,c)=R;have A:=aB Q.symm;clear Q;go_in;go_wp2_with fail;refine zK P.out λ w1 v=>?_;have h:=aB v;have y:w.heap.size<=w1.heap.size:=v.size;clear v P t1 d0 d3 u3;unfold iv;rcases N with rfl|rfl|rfl
  .have F:R=([⟨I,nm.data.toList,false,[]⟩],0):=A.out
   subst F;clear A L;go_wp2;go_ret2;exact xg (p:=⟨I,nm.data.toList,false,[]⟩) h.out
  .have F:R=hU t l:=A.out
   subst F;clear A;go_wp2_with fail;refine (L.out _ (h.out.alloc y _)).mono ?_;intro e w5 U;have E:=aB U;clear U;obtain ⟨ao,m,cp,rfl,J,K⟩:=id E.out;clear J K;go_wp2;go_ret2;exact ua (h.out.alloc y _) E.out
  have F:R=([],5):=A.out;subst F;clear A L;go_wp2;go_ret2;exact fQ (h.out.alloc y _)
def JV (t:aI) (l:List aI) (g o cap) (w) (v:l.length<=1999) (y:g<w.heap.size) (h:l.length+1<=cap) (q:gK t l g o w) (j:∀u∈l,-1099511627776<=u.num/\u.num<=1099511627776):
    Calls prog 214 #[.slice (some ⟨g,o,none⟩) (l.length+1) cap] w λ e w'=>gM (fO t l).1 (fO t l).2 w e w':=by
 match l,v,h,q,j with
 | [],v,h,q,j=>
  rw[mT rfl];exact Iy t [] g o cap w v y h q j (by simp)
 | [d],v,h,q,j=>
  rw[mT rfl];exact Iy t [d] g o cap w v y h q j (by simp)
 | d::u::r,v,h,q,j=>
  by_cases A:t.text=[99]
  .by_cases C:d.kind=46
   .cases hb:d.blank with
    | true=>
     (rw[mT (by simp[js,hb])]);exact Bg t d u r _ g o cap w v y h q j rfl A (.inr (.inl ⟨C,hb⟩))
    | false=>
     cases hu:u.blank with
     | true=>
      (rw[mT (by simp[js,hu])]);exact Bg t d u r _ g o cap w v y h q j rfl A (.inr (.inr ⟨C,hb,hu⟩))
     | false=>
      (have e:fO t (d::u::r)=cR (plain u r false):=by unfold fO;rw[zt (by simp[js,A,C,hb,hu])]);(rw[e,show (d::u::r).length+1=r.length+3 by simp]);exact X3 t d u r g o cap w (by simp at v;omega) y (by simp at h;omega) q A C hb hu
   (rw[mT (by simp[js,C])]);exact Bg t d u r _ g o cap w v y h q j rfl A (.inl C)
  rw[mT (by simp[js,A])]
  exact Wq t _ g o cap w (by simp) v y h q j A
