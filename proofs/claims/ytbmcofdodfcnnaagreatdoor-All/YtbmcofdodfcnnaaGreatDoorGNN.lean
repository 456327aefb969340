import Derived.Test.YtbmcofdodfcnnaaGreatDoorGNJ
set_option linter.all false
set_option maxHeartbeats 0
set_option maxRecDepth 100000
namespace Go
open Proofs.Tryz
variable {m j v : Nat} {short : Bool}
def done (N:List (List UInt8×Nat)) (l:List Qt):Prop:=kD (cX l l.length) N l l.length=false
def OD {N:List (List UInt8×Nat)} {l:List Qt} (h:done N l):kX N l=l:=jL h rfl
def ux {N:List (List UInt8×Nat)} {l:List Qt} {m:Nat} (h:done N (rnds N m l)):∀k,rnds N (m+k) l=rnds N m l
 | 0=>rfl
 | k+1=>by rw[<-Nat.add_assoc,uF,ux h k,OD h]
def kF (N:List (List UInt8×Nat)) (l:List Qt):List Qt:=rnds N (4*l.length+1) l
def Dy {N:List (List UInt8×Nat)} {l:List Qt} (u:k9 l):∀m,(∀k,k<m->¬done N (rnds N k l))->(m:Int)<=eZ (rnds N m l) l.length
 | 0,_=>(pN u _).1
 | m+1,h=>by
  have ih:=Dy u m (λ k v=>h k (by omega))
  have q:=h m (by omega)
  have j:=m9 N m l;unfold done at q;rw[j]at q;have:=ER (P:=cX (rnds N m l) l.length) (N:=N) (nK (N:=N) m u) l.length (Nat.le_of_eq j.symm) (by simpa using q)
  rw[j]at this
  have e:rnds N (m+1) l=grw (cX (rnds N m l) l.length) N (rnds N m l) l.length:=by
   rw[uF];unfold kX;rw[j]
  rw[e];omega
def NB {N:List (List UInt8×Nat)} {l:List Qt} (j:k9 l):∃m,m<=4*l.length/\done N (rnds N m l):=by
 apply Classical.byContradiction;intro u;have h:=Dy (N:=N) j (4*l.length+1) (λ k v q=>u ⟨k,by omega,q⟩)
 have:=(pN (nK (N:=N) (4*l.length+1) j) l.length).2;omega
def Po {N:List (List UInt8×Nat)} {l:List Qt} (j:k9 l):done N (kF N l):=by
 obtain ⟨m,q,h⟩:=NB (N:=N) j;have:=ux h (4*l.length+1-m);rw[show m+(4*l.length+1-m)=4*l.length+1 by omega]at this
 unfold kF;rw[this];exact h
def Hd {N:List (List UInt8×Nat)} {l:List Qt} (q:k9 l) (j:done N (rnds N m l)):rnds N m l=kF N l:=by
 rcases Nat.le_total m (4*l.length+1) with h|h
 .have:=ux j (4*l.length+1-m)
  rw[show m+(4*l.length+1-m)=4*l.length+1 by omega]at this
  exact this.symm
 have:=ux (Po (N:=N) q) (m-(4*l.length+1));rw[show 4*l.length+1+(m-(4*l.length+1))=m by omega]at this
 exact this
def rT (l:List Qt):Prop:=∀x∈l,x.p.data=[]->x.size=2\/x.size=4
def UG (short) (l:List Qt):rT (fszs short l l.length):=λ x hx j=>by
 obtain ⟨k,h⟩:=List.getElem?_of_mem hx;obtain ⟨y,hy⟩:=pL (nB short l l.length) h;rw[nI hy,zt (List.getElem?_eq_some_iff.1 hy).1]at h;cases h
 simp only at j ⊢;unfold iS;rw[zt j]
 split
 .exact .inl rfl
 exact .inr rfl
def Wu {P:List Int} {N:List (List UInt8×Nat)} {l:List Qt} (h:rT l):rT (grw P N l j):=λ x hx u=>by
 obtain ⟨k,q⟩:=List.getElem?_of_mem hx;obtain ⟨y,hy⟩:=pL (nL P N l j) q;rw[kB hy]at q;cases q
 split
 .exact .inr rfl
 rename_i hc;rw[aC hc]at u;exact h y (vV hy) u
def GP {N:List (List UInt8×Nat)}:∀(m:Nat) {l:List Qt},rT l->rT (rnds N m l)
 | 0,_,h=>h
 | m+1,_,h=>GP m (Wu h)
def Ht {N:List (List UInt8×Nat)}:∀(m:Nat) {l:List Qt} (k:Nat) (x y:Qt),(rnds N m l)[k]?=some x->l[k]?=some y->x.p=y.p/\x.line=y.line
 | 0,_,_,x,y,hx,hy=>by
  have:x=y:=Option.some.inj (hx.symm.trans hy);rw[this];exact ⟨rfl,rfl⟩
 | m+1,l,k,x,y,hx,hy=>by
  have h:(kX N l)[k]?=some (if k<l.length/\j6 (cX l l.length) N k y=true then ⟨y.p,y.line,4⟩ else y):=kB hy;have:=Ht m k x _ hx h;rw[this.1,this.2]
  split<;>exact ⟨rfl,rfl⟩
def VF {l:List Qt} {k:Nat} {x y:Qt} (hx:(fszs short l j)[k]?=some x) (hy:l[k]?=some y):x.p=y.p/\x.line=y.line:=by
 rw[nI hy]at hx;cases hx
 split<;>exact ⟨rfl,rfl⟩
def oT (ss:List (List UInt8)) (short:Bool):List UInt8×Int×Int:=
 if (cJ ss).1=0 then
  (if 1024<eZ (kF (cJ ss).2.2.2 (fszs short (cJ ss).2.2.1 (cJ ss).2.2.1.length)) (cJ ss).2.2.1.length then ([],8,0)
   else kQ (cX (kF (cJ ss).2.2.2 (fszs short (cJ ss).2.2.1 (cJ ss).2.2.1.length)) (cJ ss).2.2.1.length) (cJ ss).2.2.2 (kF (cJ ss).2.2.2 (fszs short (cJ ss).2.2.1 (cJ ss).2.2.1.length)))
 else ([],(cJ ss).1,(cJ ss).2.1)
def CA {N:List (List UInt8×Nat)} {t:List UInt8} (h:N.lookup t=some v):(t,v)∈N:=by
 induction N with
 | nil=>cases h
 | cons p N ih=>
  obtain ⟨a,b⟩:=p;simp only[List.lookup]at h
  split at h
  .rename_i hb
   (have e:t=a:=by simpa using hb);(cases h);rw[e];exact List.mem_cons_self ..
  exact List.mem_cons_of_mem _ (ih h)
def TA (h:List (List UInt8)):(cJ h).1=0->tG h.length (cJ h).2.2.1 (cJ h).2.2.2/\dW (cJ h).2.2.1 (cJ h).2.2.2:=by
 intro u;unfold cJ at u ⊢
 split at u
 .rename_i j hj
  have:=List.find?_some hj;simp only at u;rw[u]at this;simp at this
 rename_i hj
 split at u
 .simp at u
 rename_i hk;simp only;have q:=ve h h.length;refine ⟨q,λ x hx D=>?_⟩
 refine ⟨by have:=(q.pt x hx).2.1;omega,?_⟩
 obtain ⟨k,w⟩:=List.getElem?_of_mem hx;have A:=(List.getElem?_eq_some_iff.1 w).1;have y:=List.find?_eq_none.1 hk k (by simpa using A)
 simp only[kp,w]at y;have C:=cP D;rw[C]at y
 cases hl:(eJ h h.length).2.lookup x.p.tg with
 | none=>rw[hl]at y;simp at y
 | some v=>exact ⟨v,rfl,q.at' _ (CA hl)⟩
open RowKit Maps
def T7 {N:List (List UInt8×Nat)} {l:List Qt} (m) (h:∀x∈l,x.p.data.length<=4):∀x∈rnds N m l,x.p.data.length<=4:=λ x hx=>by
 obtain ⟨k,j⟩:=List.getElem?_of_mem hx;obtain ⟨y,hy⟩:=pL (m9 N m l) j;rw[(Ht m k x y j hy).1];exact h y (List.mem_of_getElem? hy)
def U3 {l:List Qt} (h:∀x∈l,x.p.data.length<=4):∀x∈fszs short l l.length,x.p.data.length<=4:=λ x hx=>by
 obtain ⟨k,j⟩:=List.getElem?_of_mem hx;obtain ⟨y,hy⟩:=pL (nB short l l.length) j;rw[(VF j hy).1];exact h y (List.mem_of_getElem? hy)
def QE {w v:World} {C:Option Addr} {D A:Nat} {l:List Qt} {N:List (List UInt8×Nat)} (o) (I:w.heap.size<=A) (G:fY A N v) (Q:v.ownsRow w.heap.size 202 9 (.slice C l.length D) l.length (l.flatMap dR)) (K:(Value.slice C l.length D).ownBlock≠some A):
    ∃g,g<v.heap.size/\w.heap.size<=g/\PQ v.heap.size g D A C l N ((v.alloc (.cells #[.slice C l.length D,.map (some A)] 148)).alloc o):=by
 have y:=(aF.new v [.slice C l.length D,.map (some A)] 148).alloc o;have E:Below v.heap.size v ((v.alloc (.cells #[.slice C l.length D,.map (some A)] 148)).alloc o):=aJ.alloc (by rw[za];omega) _
 have J:=G.lt;rcases Nat.eq_zero_or_pos l.length with T|R
 .refine ⟨A,J,I,y.2.2 0 _ rfl,y.2.2 1 _ rfl,y.1,y.2.1,by omega,G.next E,λ h=>by omega,λ h=>by omega,λ h=>by omega,λ h=>by omega,λ k x H=>?_⟩
  have:=(kz H).1;omega
 obtain ⟨g,rfl,L,F,M,O⟩:=Gh Q R;refine ⟨g,F,L,y.2.2 0 _ rfl,y.2.2 1 _ rfl,y.1,y.2.1,by omega,G.next E,λ _ e=>K (by rw[e];rfl),λ _=>rfl,λ _=>zl F E.size,λ _ q=>(E.frozen (p:=⟨g,q,none⟩) F).trans (M q),λ k x H j u P=>(E.cell (p:=⟨g,k*9+j,none⟩) F).trans (O k x H j u P)⟩
def JQ (s) (short) (w) (j:2000<s.size):
    aG prog 42 #[.string s,.bool short] w (.tuple #[.string ⟨#[]⟩,.agg #[.int .i64 3,.int .i64 0]]):=by
 unfold aG;have h:(2000:Int)<s.size:=by omega
 go_in;go_wp2;refine zp (v:=.tuple #[.string ⟨#[]⟩,.agg #[.int .i64 3,.int .i64 0]]) (by simp[results,results42,go_sem]) rfl ⟨rfl,?_⟩
 exact aJ
def K8 (s) (ls:List ByteArray) (short) (w) (hE:aS w) (hs:s.size<=2000) (av:Lib.splitB ⟨#[10]⟩ 0 (Lib.countB s ⟨#[10]⟩) s=ls) (bf:∀t∈ls,t.size<=2000) (bz:ls.length<=2001):
    aG prog 42 #[.string s,.bool short] w (.tuple #[.string ⟨(oT (ls.map (·.data.toList)) short).1.toArray⟩,.agg #[.int .i64 (oT (ls.map (·.data.toList)) short).2.1,.int .i64 (oT (ls.map (·.data.toList)) short).2.2]]):=by
 unfold aG;have HR:=aA (λ W hB=>Jq s ls W (hE.below hB hE.1) hs av bf)
 have H:=aA (TA (ls.map (·.data.toList)))
 have u:Hid (oT (ls.map (·.data.toList)) short=if (cJ (ls.map (·.data.toList))).1=0 then
  (if 1024<eZ (kF (cJ (ls.map (·.data.toList))).2.2.2 (fszs short (cJ (ls.map (·.data.toList))).2.2.1 (cJ (ls.map (·.data.toList))).2.2.1.length)) (cJ (ls.map (·.data.toList))).2.2.1.length then ([],8,0)
   else kQ (cX (kF (cJ (ls.map (·.data.toList))).2.2.2 (fszs short (cJ (ls.map (·.data.toList))).2.2.1 (cJ (ls.map (·.data.toList))).2.2.1.length)) (cJ (ls.map (·.data.toList))).2.2.1.length) (cJ (ls.map (·.data.toList))).2.2.2 (kF (cJ (ls.map (·.data.toList))).2.2.2 (fszs short (cJ (ls.map (·.data.toList))).2.2.1 (cJ (ls.map (·.data.toList))).2.2.1.length)))
  else ([],(cJ (ls.map (·.data.toList))).1,(cJ (ls.map (·.data.toList))).2.1)):=aA rfl
 rw[List.length_map]at H;generalize oT (ls.map (·.data.toList)) short=PA at *
 generalize cJ (ls.map (·.data.toList))=RD at *
 obtain ⟨er,h,l,N⟩:=RD;simp only at H u;have b4:(s.size:Int)<=2000:=by omega
 clear hE av;go_in;go_wp2_with fail;refine (HR.out _ (aU.alloc zn (.cells #[.int .i64 0,.int .i64 0] 39))).mono ?_;rintro e E ⟨I,n,J,mo,rfl,Y,ae⟩;simp only at ae;have D:=aA ((aF.new w [.int .i64 0,.int .i64 0] 39).next Y);have C:Hid (Below w.heap.size w E):=aA (aJ.trans (Y.mono (by simp)))
 have V:=aA ae;have b5:=D.out.1;clear Y HR ae;by_cases Q:er=0
 .subst Q
  obtain ⟨mb,rfl,aw,aq,A,ax⟩:=V.out rfl;have be:=qU A;subst be;obtain ⟨ab,au⟩:=H.out rfl;rw[zt rfl]at u;rw[za]at aw A;obtain ⟨g,bv,bd,ar⟩:=QE (w:=(w.alloc (.cells #[.int .i64 0,.int .i64 0] 39))) (.cells #[.int .i64 0,.int .i64 h] 39) (by rw[za];exact aw) aq (by rw[za];exact A) ax
  rw[za]at bd;have al:=aA ar;have T:=aA ((D.out.alloc (.cells #[.slice I l.length J,.map (some mb)] 148)).alloc (.cells #[.int .i64 0,.int .i64 h] 39));have ai:Hid (Below w.heap.size w ((E.alloc (.cells #[.slice I l.length J,.map (some mb)] 148)).alloc (.cells #[.int .i64 0,.int .i64 h] 39))):=aA ((C.out.alloc C.out.size _).alloc (by rw[za];have:=C.out.size;omega) _)
  have bc:g<((E.alloc (.cells #[.slice I l.length J,.map (some mb)] 148)).alloc (.cells #[.int .i64 0,.int .i64 h] 39)).heap.size:=by simp only[za];omega
  have am:=aA au;have X:=aA ab;have bj:=ab.len;clear ar au ab aq A ax V H D;go_wp2_with fail;generalize (E.alloc (.cells #[.slice I l.length J,.map (some mb)] 148)).alloc (.cells #[.int .i64 0,.int .i64 h] 39)=W at *;refine (Lz E.heap.size g J mb I l N short W al.out bc am.out (by omega) (λ x hx=>(X.out.pt x hx).1)).mono ?_
  rintro e w2 ⟨m,pa,pc,rfl,Z,ay,R,O⟩;have ac:=Gx (short:=short) (λ x hx=>(X.out.pt x hx).1)
  have aa:=nB short l l.length
  have an:rnds N m (fszs short l l.length)=kF N (fszs short l l.length):=Hd ac (by
   unfold done;rw[m9,aa];exact O)
  have a6:=aA (GP (N:=N) m (UG short l));have a7:=aA ((am.out.fszs short l.length).rnds m);have a4:=aA (T7 (N:=N) m (U3 (short:=short) (λ x hx=>(X.out.pt x hx).1)))
  have aj:=aA (pN (nK (N:=N) m ac));have U:Hid ((rnds N m (fszs short l l.length)).length=l.length):=aA (by rw[m9,aa])
  rw[<-an]at u;clear an ac aa O;generalize rnds N m (fszs short l l.length)=L at *;obtain ⟨q,rfl,b1,b2,az⟩:=Z.at' l.length (by rw[ku];omega)
  rw[oC _ _ _ zn]at az;have G:=aA ay;have a5:=aA Z;have c0:=G.out.c0;rw[U.out]at c0;have bs:=G.out.bl;have F:Hid (Below w.heap.size w w2):=aA (R.below ai.out (by omega) zn)
  have y:Hid (aF w.heap.size [.int .i64 0,.int .i64 0] w2):=aA (ue T.out R.size (R.block w.heap.size T.out.1 (by omega)))
  have bq:=aj.out l.length;clear Z ay R al T ai;have bk:(l.length:Int)<((l.length+1:Nat):Int):=by omega
  have bm:(l.length:Int)<(l.length:Int)+1:=by omega
  by_cases K:1024<eZ L l.length
  .rw[zt K]at u
   obtain ⟨q0,q1⟩:=bE y.out.2.2;have qf:=y.out.2.1;go_wp2;(refine zp (v:=.tuple #[.string ⟨#[]⟩,.agg #[.int .i64 8,.int .i64 0]]) (by simp[results,results42,go_sem,q0,q1]) rfl ⟨by rw[u.out],?_⟩);exact (F.out.setCell (by simp) _).setCell (by simp) _
  rw[aC K]at u;have a1:eZ L l.length<=1024:=by omega
  have P:=aA (λ pc=>KP E.heap.size g J mb I L N (cX L l.length) (some ⟨q,0,none⟩) W.heap.size pc w2 G.out a7.out (by rw[U.out];omega) (by rw[ku,U.out]) a5.out (λ j=>by
   rcases Nat.lt_or_ge l.length j with hj|hj
   .rw[zG,List.getElem?_eq_none (by rw[ku];omega)];simp
   rw[oC _ _ _ hj];have:=aj.out j;omega) a4.out a6.out)
  rw[ku]at P;generalize kQ (cX L l.length) N L=BY at *;obtain ⟨a8,a9,ba⟩:=BY;simp only at P;go_wp2_with fail;refine zK (P.out _) λ w3 M=>?_;have q0:=(y.out.next M).2.2 0 _ rfl;have q1:=(y.out.next M).2.2 1 _ rfl;have qf:=(y.out.next M).2.1;have a3:=aA (F.out.trans (M.mono F.out.size));clear M P c0 az;go_wp2;refine zp (v:=.tuple #[.string ⟨a8.toArray⟩,.agg #[.int .i64 a9,.int .i64 ba]]) (by simp[results,results42,go_sem,q0,q1]) rfl ⟨by rw[u.out],?_⟩
  exact (a3.out.setCell (by simp) _).setCell (by simp) _
 rw[aC Q]at u;have bu:(er != 0)=true:=by simpa using Q
 have bp:(er==0)=false:=by simpa using Q
 obtain ⟨q0,q1⟩:=bE D.out.2.2;have qf:=D.out.2.1;clear V H;have F:Hid (Below w.heap.size w ((E.alloc (.cells #[.slice I n J,.map mo] 148)).alloc (.cells #[.int .i64 er,.int .i64 h] 39))):=aA ((C.out.alloc C.out.size _).alloc (by rw[za];have:=C.out.size;omega) _)
 have y:=aA ((D.out.alloc (.cells #[.slice I n J,.map mo] 148)).alloc (.cells #[.int .i64 er,.int .i64 h] 39))
 have ak:Hid (aF (E.heap.size+1) [.int .i64 er,.int .i64 h] ((E.alloc (.cells #[.slice I n J,.map mo] 148)).alloc (.cells #[.int .i64 er,.int .i64 h] 39))):=aA (by
  have:=aF.new (E.alloc (.cells #[.slice I n J,.map mo] 148)) [.int .i64 er,.int .i64 h] 39;rw[za]at this;exact this)
 go_wp2_with fail;generalize (E.alloc (.cells #[.slice I n J,.map mo] 148)).alloc (.cells #[.int .i64 er,.int .i64 h] 39)=W at *;clear q0 q1 qf;obtain ⟨q0,q1⟩:=bE y.out.2.2;have qf:=y.out.2.1;obtain ⟨n0,n1⟩:=bE ak.out.2.2;have nl:=ak.out.1;have b0:E.heap.size+1≠w.heap.size:=by omega
 go_region
 all_goals
  go_wp2;refine zp (v:=.tuple #[.string ⟨#[]⟩,.agg #[.int .i64 er,.int .i64 h]]) (by simp[results,results42,go_sem,q0,q1]) rfl ⟨by rw[u.out],?_⟩
  exact ((F.out.setCell (by simp) _).setCell (by simp) _).drew
def QL {s:ByteArray} (w:s.size<=2000):(∀t∈Lib.splitB ⟨#[10]⟩ 0 (Lib.countB s ⟨#[10]⟩) s,t.size<=2000)/\(Lib.splitB ⟨#[10]⟩ 0 (Lib.countB s ⟨#[10]⟩) s).length<=2001:=by
 have j:∀(k:Nat) (q:ByteArray),q.size<=2000->∀t∈Lib.splitB ⟨#[10]⟩ 0 k q,t.size<=2000:=by
  intro k
  induction k with
  | zero=>intro q u t h;simp[Lib.splitB]at h;rw[h];exact u
  | succ k ih=>
   intro q u t h;unfold Lib.splitB at h
   split at h
   .simp at h;rw[h];exact u
   rcases List.mem_cons.1 h with rfl|h
   .rw[ByteArray.size_extract];omega
   exact ih _ (by rw[ByteArray.size_extract];omega) t h
 refine ⟨j _ s w,?_⟩;rw[Lib.splitB_all ⟨#[10]⟩ (by decide) 0 _ s rfl]
 have:=Lib.countB_mul_le ⟨#[10]⟩ (by decide) _ s zn
 have v:(⟨#[10]⟩:ByteArray).size=1:=rfl;rw[v]at this;omega
def vq (s:ByteArray):List (List UInt8):=(Lib.splitB ⟨#[10]⟩ 0 (Lib.countB s ⟨#[10]⟩) s).map (·.data.toList)
def kE (s:ByteArray) (short:Bool):List UInt8×Int×Int:=if 2000<s.size then ([],3,0) else oT (vq s) short
def Kq (s) (short) (w) (u:aS w):
    aG prog 42 #[.string s,.bool short] w (.tuple #[.string ⟨(kE s short).1.toArray⟩,.agg #[.int .i64 (kE s short).2.1,.int .i64 (kE s short).2.2]]):=by
 unfold aG;by_cases h:2000<s.size
 .have e:kE s short=([],3,0):=by unfold kE;rw[zt h]
  rw[e];exact JQ s short w h
 have e:kE s short=oT (vq s) short:=by unfold kE;rw[aC h]
 rw[e];obtain ⟨j,q⟩:=QL (s:=s) (by omega)
 exact K8 s _ short w u (by omega) rfl j q
