import Derived.Test.YtbmcofdodfcnnaaGreatDoorGW29
import Derived.Test.YtbmcofdodfcnnaaGreatDoorGLC
import Derived.Test.YtbmcofdodfcnnaaGreatDoorW12
set_option linter.all false
set_option maxHeartbeats 0
set_option maxRecDepth 100000
namespace Go
open Proofs.Tryz
variable {er kd : Int} {w w' W w5 wc : World} {n base : Nat} {T e : TypeId} {xs : List Value}
def eE:List UInt8->List UInt8->List (List UInt8)
 | cur,[]=>[cur]
 | cur,c::l=>if c=10 then cur::eE [] l else eE (cur++[c]) l
def vi:∀(l h:List UInt8),(eE h l).length<=l.length+1
 | [],h=>by simp[eE]
 | c::l,h=>by
  rw[eE]
  split
  .have:=vi l []
   simp;omega
  have:=vi l (h++[c]);simp;omega
def Aa:∀(l h:List UInt8),∀x∈eE h l,x.length<=h.length+l.length
 | [],h=>by simp[eE]
 | c::l,h=>by
  intro x hx;rw[eE]at hx
  split at hx
  .rcases List.mem_cons.1 hx with rfl|hx
   .simp
   have:=Aa l [] x hx;simp at this ⊢;omega
  have:=Aa l (h++[c]) x hx;simp at this ⊢;omega
def wN (l:List UInt8):Value:=.string ⟨l.toArray⟩
open RowKit
def Tu:(prog.info? 9).map (λ i=>(i.zero,i.size,i.bytes))=some (some (.string ⟨#[]⟩),1,16):=by kernel_rfl
def We (s:ByteArray) (w:World) (l from' i:Value) (wr:World):Prop:=
 ∃(A:List (List UInt8)) (f j:Nat),f<=j/\j<=s.size/\A.length<=j/\from'=.int .i64 f/\i=.int .i64 j/\wr.ownsRow w.heap.size 9 1 l A.length (A.map wN)/\
  Hid (eE [] s.data.toList=A++eE ((s.data.toList.drop f).take (j-f)) (s.data.toList.drop j))/\Below w.heap.size w wr
def Ry {s:ByteArray} {f j:Nat} (u:f<=j) (h:j<s.size):(s.data.toList.drop f).take (j+1-f)=(s.data.toList.drop f).take (j-f)++[B s j]:=by
 have q:j-f<(s.data.toList.drop f).length:=by simp;omega
 have e:j+1-f=(j-f)+1:=by omega
 rw[e,List.take_succ_eq_append_getElem q];congr 1;rw[List.getElem_drop,<-iF s j h];have:f+(j-f)=j:=by omega
 simp only[this];rfl
def Gy (s:ByteArray) (f j:Nat):Value.string (s.extract f j)=wN ((s.data.toList.drop f).take (j-f)):=by
 refine qV ?_;simp[ByteArray.data_extract,Array.toList_extract,List.extract_eq_take_drop]
def Nj (s) (w) (hs:s.size<=2000):
    Calls prog 213 #[.string s] w λ e w'=>(∃v,e=.returned v/\w'.ownsRow w.heap.size 9 1 v (eE [] s.data.toList).length ((eE [] s.data.toList).map wN))/\Below w.heap.size w w':=by
 obtain ⟨V,hi,I,J,K⟩:=info_parts Tu;have ab:(s.size:Int)<=2000:=by omega
 go_in;go_wp2_with fail;go_loopw [3,4,5] (λ l f i wr=>We s w l f i wr) (λ _ _ i _=>s.size-(intOf i).toNat)
 case atStart=>exact ⟨[],0,0,by omega,by omega,by simp,rfl,rfl,World.ownsRow_nil _ _ _ _,aB (by simp),aU⟩
 case round=>
  obtain ⟨A,f,j,hf,hj,hA,rfl,rfl,C,F,M⟩:=hrel;have G:=aB C;have D:=aB M;have ac:=M.size;clear C M;have wj:IntKind.i64.wrap ((j:Int)+1)=(j:Int)+1:=zw _ (by omega)
  have Z:=iF s;by_cases H:j<s.size
  .have U:(j:Int)<s.size:=by omega
   have R:=aB (iY s j H);have Y:=aB (Ry hf H);by_cases T:(((B s j).toNat:Int)==10)=true
   .have E:Hid (B s j=10):=aB (wP T)
    go_wp2_with (first
     | (at_builtin;refine wpList_append_own _ rfl _ _ 78 rfl w.heap.size 9 V (.string ⟨#[]⟩) 1 16 underlying78 hi I J K rfl (by decide) _ A.length _ rfl (G.out.alloc _) ⟨wr.heap.size,0,none⟩ 1 1 [_] rfl rfl (cell_one_new _ _ _) ?h1 ?h63 ?hby ?hbase ?_
        (case h1=>intro x hx;simp at hx;subst hx;rfl);(case h63=>unfold maxLen;omega);(case hby=>omega);(case hbase=>simp;omega);intro Q L u h y;(have X:Hid (L.ownsRow w.heap.size 9 1 Q (A.length+1) _/\Below w.heap.size w L):=⟨u,Below.grown (D.out.alloc D.out.size _) h (by have:=D.out.size;simp;omega) (λ q P=>(G.out.lt q P).1)⟩);clear u h y))
    go_roundw
    case rel=>
     refine ⟨A++[(s.data.toList.drop f).take (j-f)],j+1,j+1,by omega,by omega,by simp;omega,by go_num,by go_num,?_,aB ?_,X.out.2⟩
     .have:=X.out.1
      rw[Gy]at this;simpa using this
     rw[F.out,R.out,E.out,eE,zt rfl];simp
    case measure=>simp[intOf];omega
   (have N:(((B s j).toNat:Int)==10)=false:=by simpa using T);(have E:Hid (B s j≠10):=aB (vY (n:=10) (by omega) N));go_wp2;go_roundw
   case rel=>
    (refine ⟨A,f,j+1,by omega,by omega,by omega,rfl,by go_num,G.out,aB ?_,D.out⟩);rw[F.out,R.out,eE,aC E.out,Y.out]
   case measure=>simp[intOf];omega
  have O:j=s.size:=by omega
  subst O
  have W:Hid (eE [] s.data.toList=A++[(s.data.toList.drop f).take (s.size-f)]):=aB (by
   rw[F.out,List.drop_eq_nil_of_le (i:=s.size) (by simp),eE])
  go_wp2_with (first
      | (at_builtin;refine wpList_append_own _ rfl _ _ 78 rfl w.heap.size 9 V (.string ⟨#[]⟩) 1 16 underlying78 hi I J K rfl (by decide) _ A.length _ rfl (G.out.alloc _) ⟨wr.heap.size,0,none⟩ 1 1 [_] rfl rfl (cell_one_new _ _ _) ?h1 ?h63 ?hby ?hbase ?_
         (case h1=>intro x hx;simp at hx;subst hx;rfl);(case h63=>unfold maxLen;omega);(case hby=>omega);(case hbase=>simp;omega);intro Q L u h y;(have X:Hid (L.ownsRow w.heap.size 9 1 Q (A.length+1) _/\Below w.heap.size w L):=⟨u,Below.grown (D.out.alloc D.out.size _) h (by have:=D.out.size;simp;omega) (λ q P=>(G.out.lt q P).1)⟩);clear u h y))
  go_ret;refine ⟨⟨_,rfl,?_⟩,X.out.2⟩;rw[W.out];have:=X.out.1;rw[Gy]at this;simpa using this
structure Rp where
 ins:aE
 tg:List UInt8
 sh:Bool
 bt:List UInt8
def fF (p:Rp) (ln sz:Int):List Value:=[.int .i64 p.ins.op,.int .i64 p.ins.rd,.int .i64 p.ins.rs1,.int .i64 p.ins.rs2,.int .i64 p.ins.imm,.string ⟨p.tg.toArray⟩,.bool p.sh,.string ⟨p.bt.toArray⟩,.int .i64 ln,.int .i64 sz]
def pU (p:cQ):Rp:=⟨p.ins,p.tg,false,p.data⟩
def kN (r n:Int):List Rp×Int:=if n < -2147483648\/2147483647<n then ([],5) else ((j7 r n).map pU,0)
def yH (n):aD n 11 0=n%4096:=by
 show n/2^0%2^12=_;omega
def NZ (n):bG (aD n 11 0) 12=fS n:=by
 have h:cB (12-1)=2048:=by decide
 have j:cB 12=4096:=by decide
 unfold bG fS;rw[yH,h,j]
 split<;>omega
def I4:(prog.info? 224).map (λ i=>(i.zero,i.size,i.bytes))=some (some (.agg #[.int .i64 0,.int .i64 0,.int .i64 0,.int .i64 0,.int .i64 0,.string ⟨#[]⟩,.bool false,.string ⟨#[]⟩,.int .i64 0,.int .i64 0]),10,96):=by kernel_rfl
def gM (ps:List Rp) (er:Int) (w:World) (e:Ending) (w':World):Prop:=
 ∃ao n cp,e=.returned (.tuple #[.slice ao n cp,.int .i64 er])/\w'.ownsRow w.heap.size 224 10 (.slice ao n cp) ps.length (ps.flatMap λ p=>fF p 0 0)/\Below w.heap.size w w'
def fQ (h:Below w.heap.size w w'):gM [] er w (.returned (.tuple #[.slice none 0 0,.int .i64 er])) w':=
 ⟨_,_,_,rfl,World.ownsRow_nil _ _ _ _,h⟩
def Ak (w W:World) (p:Rp) (h:w.heap.size<=W.heap.size):(W.alloc (.cells (fF p 0 0).toArray 224)).ownsRow w.heap.size 224 10 (.slice (some ⟨W.heap.size,0,none⟩) 1 1) 1 (fF p 0 0):=by
 have:=World.ownsRow_lit (base:=w.heap.size) (e:=224) (size:=10) W (fF p 0 0).toArray 1 h (by unfold maxLen;omega) (by rfl)
 simpa using this
def mE {p:Rp} (h:Below w.heap.size w W):gM [p] er w (.returned (.tuple #[.slice (some ⟨W.heap.size,0,none⟩) 1 1,.int .i64 er])) (W.alloc (.cells (fF p 0 0).toArray 224)):=
 ⟨_,_,_,rfl,by simpa using Ak w W p h.size,h.alloc h.size _⟩
def Qu (r n) (w) (n0:-1099511627776<=n) (n1:n<=1099511627776):
    Calls prog 267 #[.int .i64 r,.int .i64 n] w λ e w'=>gM (kN r n).1 (kN r n).2 w e w':=by
 obtain ⟨i0,hi,Y,Z,aa⟩:=info_parts I4;obtain ⟨H,hn,hh,ht,l0,l1⟩:=CW n;have F:=aB (λ W=>uc n (-2147483648) 2147483647 W)
 have G:=aB (λ W=>uc n (-2048) 2047 W)
 have T:=aB (λ W=>nC n 11 0 W n0 n1 (by omega) (by omega) (by omega))
 have N:=aB (λ W=>si (aD n 11 0) 12 W (by rw[yH];omega) (by rw[yH];omega) (by omega) (by omega))
 rw[NZ]at N;generalize aD n 11 0=bz at *;have y:Hid (j7 r n=if fS n=n then [⟨[],⟨29,r,0,0,n⟩,[]⟩] else ⟨[],⟨60,r,0,0,if H=524288 then -524288 else H⟩,[]⟩::(if fS n=0 then [] else [⟨[],⟨38,r,r,0,fS n⟩,[]⟩])):=aB (by unfold j7 wB;rw[hh])
 clear hh;have J:Hid ((-2048<=n/\n<=2047)↔fS n=n):=aB (by unfold fS;omega)
 have V:Hid (kN r n=if n < -2147483648\/2147483647<n then ([],5) else ((j7 r n).map pU,0)):=aB rfl;generalize kN r n=R at *;generalize fS n=L at *;generalize j7 r n=PL at *;by_cases A:n < -2147483648\/2147483647<n
 .rw[zt A]at V
  have E:bU n (-2147483648) 2147483647=false:=by unfold bU;simp;omega
  have C:=V.out;subst C;rw[E]at F;clear y J V G T N A ht E hn;go_in;go_wp2_with fail;refine (F.out _).mono ?_;rintro e w ⟨rfl,rfl⟩;go_wp2;go_ret2;exact fQ aU
 rw[aC A]at V;have E:bU n (-2147483648) 2147483647=true:=by unfold bU;simp;omega
 have C:=V.out;subst C;rw[E]at F;clear V;by_cases D:L=n
 .rw[zt D]at y
  have M:bU n (-2048) 2047=true:=by have:=J.out.2 D;unfold bU;simp;omega
  have C:=y.out;subst C;rw[M]at G;clear y J T N D ht E M hn;go_in;go_wp2_with fail;refine (F.out _).mono ?_;rintro e w ⟨rfl,rfl⟩;go_wp2_with fail;refine (G.out _).mono ?_;rintro e w ⟨rfl,rfl⟩;go_wp2;go_ret2;exact mE (p:=⟨⟨29,r,0,0,n⟩,[],false,[]⟩) aU
 rw[aC D]at y;have M:bU n (-2048) 2047=false:=by have:=mt J.out.1 D;unfold bU;simp;omega
 rw[M]at G;have am:-524288<=H:=by omega
 have an:H<=524288:=by omega
 have wn:IntKind.i64.wrap (n-L)=n-L:=zw _ (by omega)
 have ar:-2147483648<=n:=by omega
 have au:n<=2147483647:=by omega
 clear J A D hn n0 n1 E M;go_in;go_wp2_with fail;refine (F.out _).mono ?_;rintro e w ⟨rfl,rfl⟩;go_wp2_with fail;refine (G.out _).mono ?_;rintro e w ⟨rfl,rfl⟩;go_wp2_with fail;refine (T.out _).mono ?_;rintro e w ⟨rfl,rfl⟩;go_wp2_with fail;refine (N.out _).mono ?_;rintro e w ⟨rfl,rfl⟩;by_cases hH:H=524288
 .subst hH
  rw[zt rfl]at y;by_cases q:L=0
  .rw[zt q]at y
   (have K:(L != 0)=false:=by simpa using q);have C:=y.out;subst C;clear y q;go_wp2;go_ret2;exact mE (p:=⟨⟨60,r,0,0,-524288⟩,[],false,[]⟩) aU
  have K:(L != 0)=true:=by simpa using q
  rw[aC q]at y;have C:=y.out;subst C;have I:=aB (Ak w w ⟨⟨60,r,0,0,-524288⟩,[],false,[]⟩ zn);unfold fF at I;simp only at I;clear q y;go_wp2_with (at_builtin;refine wpList_append_own _ rfl _ _ 233 rfl w.heap.size 224 i0 _ 10 96 underlying233 hi Y Z aa rfl (by decide) _ _ _ rfl (I.out.alloc _) ⟨w.heap.size+1,0,none⟩ 1 1 (fF ⟨⟨38,r,r,0,L⟩,[],false,[]⟩ 0 0) rfl rfl ?c1 ?c2 ?c3 ?c4 ?c5 ?_)
  case c1=>have:=nD (w.alloc (.cells (fF ⟨⟨60,r,0,0,-524288⟩,[],false,[]⟩ 0 0).toArray 224)) (fF ⟨⟨38,r,r,0,L⟩,[],false,[]⟩ 0 0) 224;rw[za]at this;exact this
  case c2=>intro u X;simp[fF]at X;rcases X with rfl|rfl|rfl|rfl|rfl|rfl|rfl|rfl|rfl|rfl<;>rfl
  case c3=>unfold maxLen;omega
  case c4=>omega
  case c5=>simp;omega
  intro v' w1 h v _;have Q:Hid (Below w.heap.size w w1):=aB ((aJ.alloc (by simp) _).grown v (by simp;omega) (λ j hj=>by have:=(I.out.lt j hj).1;omega))
  have U:=aB h
  obtain ⟨O,m,P,rfl⟩:∃O m P,v'=.slice O m P:=by
   obtain ⟨O,m,P,e,_⟩:=mF h;exact ⟨O,m,P,e⟩
  clear h v I;go_wp2;go_ret2;exact ⟨_,_,_,rfl,U.out,Q.out⟩
 rw[aC hH]at y;have aq:(H==524288)=false:=by simpa using hH
 by_cases q:L=0
 .rw[zt q]at y
  have K:(L != 0)=false:=by simpa using q
  have C:=y.out;subst C;clear y q;go_wp2;go_ret2;exact mE (p:=⟨⟨60,r,0,0,H⟩,[],false,[]⟩) aU
 have K:(L != 0)=true:=by simpa using q
 rw[aC q]at y;have C:=y.out;subst C;have I:=aB (Ak w w ⟨⟨60,r,0,0,H⟩,[],false,[]⟩ zn);unfold fF at I;simp only at I;clear q y;go_wp2_with (at_builtin;refine wpList_append_own _ rfl _ _ 233 rfl w.heap.size 224 i0 _ 10 96 underlying233 hi Y Z aa rfl (by decide) _ _ _ rfl (I.out.alloc _) ⟨w.heap.size+1,0,none⟩ 1 1 (fF ⟨⟨38,r,r,0,L⟩,[],false,[]⟩ 0 0) rfl rfl ?c1 ?c2 ?c3 ?c4 ?c5 ?_)
 case c1=>have:=nD (w.alloc (.cells (fF ⟨⟨60,r,0,0,H⟩,[],false,[]⟩ 0 0).toArray 224)) (fF ⟨⟨38,r,r,0,L⟩,[],false,[]⟩ 0 0) 224;rw[za]at this;exact this
 case c2=>intro u X;simp[fF]at X;rcases X with rfl|rfl|rfl|rfl|rfl|rfl|rfl|rfl|rfl|rfl<;>rfl
 case c3=>unfold maxLen;omega
 case c4=>omega
 case c5=>simp;omega
 intro v' w1 h v _;have Q:Hid (Below w.heap.size w w1):=aB ((aJ.alloc (by simp) _).grown v (by simp;omega) (λ j hj=>by have:=(I.out.lt j hj).1;omega))
 have U:=aB h
 obtain ⟨O,m,P,rfl⟩:∃O m P,v'=.slice O m P:=by
  obtain ⟨O,m,P,e,_⟩:=mF h;exact ⟨O,m,P,e⟩
 clear h v I;go_wp2;go_ret2;exact ⟨_,_,_,rfl,U.out,Q.out⟩
def lN (l:List UInt8):Option (List UInt8):=
 if l=[109,118] then some [114,44,114]
 else if l=[110,111,116] then some [114,44,114]
 else if l=[110,101,103] then some [114,44,114]
 else if l=[115,101,113,122] then some [114,44,114]
 else if l=[115,110,101,122] then some [114,44,114]
 else if l=[98,101,113,122] then some [114,44,116]
 else if l=[98,110,101,122] then some [114,44,116]
 else if l=[106] then some [116]
 else if l=[108,105] then some [114,44,105]
 else if l=[110,111,112] then some []
 else if l=[114,101,116] then some []
 else none
def rB (l:List UInt8) (rs:List Int) (n:Int):aE:=
 if l=[110,111,112] then ⟨29,0,0,0,0⟩
 else if l=[114,101,116] then ⟨49,0,1,0,0⟩
 else if l=[109,118] then ⟨29,rs.getD 0 0,rs.getD 1 0,0,0⟩
 else if l=[110,111,116] then ⟨32,rs.getD 0 0,rs.getD 1 0,0,-1⟩
 else if l=[110,101,103] then ⟨2,rs.getD 0 0,0,rs.getD 1 0,0⟩
 else if l=[115,101,113,122] then ⟨31,rs.getD 0 0,rs.getD 1 0,0,1⟩
 else if l=[115,110,101,122] then ⟨5,rs.getD 0 0,0,rs.getD 1 0,0⟩
 else if l=[98,101,113,122] then ⟨54,0,rs.getD 0 0,0,n⟩
 else if l=[98,110,101,122] then ⟨55,0,rs.getD 0 0,0,n⟩
 else ⟨62,0,0,0,n⟩
def kR (kd:Int) (nme:List UInt8):Option (List Int×Int×ByteArray)->List Rp×Int
 | none=>([],4)
 | some (rs,n,nm)=>
  if kd=119 then
   (if nme=[108,105] then kN (rs.getD 0 0) n
   else if right (rB nme rs n) then ([⟨rB nme rs n,nm.data.toList,false,[]⟩],0) else ([],5))
  else ([],4)
def kv (h:kd=119) (nme) (rs) (n) (nm):kR kd nme (some (rs,n,nm)) =
    (if nme=[108,105] then kN (rs.getD 0 0) n else if right (rB nme rs n) then ([⟨rB nme rs n,nm.data.toList,false,[]⟩],0) else ([],5)):=by
 simp only[kR];rw[zt h]
def qT (h:¬kd=119) (nme) (rs) (n) (nm):kR kd nme (some (rs,n,nm))=([],4):=by
 simp only[kR];rw[aC h]
def cU (t:aI) (l:List aI):List Rp×Int:=
 match lN t.text with
 | none=>([],4)
 | some F=>kR t.kind t.text (aL l F [] 0 ⟨#[]⟩)
def pn:∀(l:List aI) (F:List UInt8) (w:List Int) (n:Int) (nm:ByteArray) (rs':List Int) (q:Int) (j:ByteArray),aL l F w n nm=some (rs',q,j)->
    (∀u∈l,-1099511627776<=u.num/\u.num<=1099511627776)->(-1099511627776<=n/\n<=1099511627776)->-1099511627776<=q/\q<=1099511627776
 | [],[],w,n,nm,rs',q,j,h,_,hn=>by simp[aL]at h;rw[<-h.2.1];exact hn
 | [],f::F,_,_,_,_,_,_,h,_,_=>by simp[aL]at h
 | t::l,[],_,_,_,_,_,_,h,_,_=>by simp[aL]at h
 | t::l,f::F,w,n,nm,rs',q,j,h,ha,hn=>by
  have y:=ha t (by simp)
  have v:∀u∈l,-1099511627776<=u.num/\u.num<=1099511627776:=λ u A=>ha u (by simp[A])
  simp only[aL]at h
  split at h
  .split at h
   .cases h
   exact pn l F _ _ _ _ _ _ h v hn
  split at h
  .exact pn l F _ _ _ _ _ _ h v y
  split at h
  .exact pn l F _ _ _ _ _ _ h v hn
  split at h
  .exact pn l F _ _ _ _ _ _ h v hn
  cases h
def hQ (t:aI):t.S.toList=t.text:=by
 rw[ByteArray.toList_eq];simp[aI.S]
def gK (t:aI) (l:List aI) (g o:Nat) (w:World):Prop:=
 ∀k u,(t::l)[k]?=some u->w.cell? ⟨g,o+k*4,none⟩=some (.int .u8 u.kind)/\w.cell? ⟨g,o+k*4+1,none⟩=some (.string u.S)/\w.cell? ⟨g,o+k*4+2,none⟩=some (.int .i64 u.num)/\w.cell? ⟨g,o+k*4+3,none⟩=some (.bool u.blank)
def sO {t:aI} {l:List aI} {g o cap:Nat} (y:l.length+1=n) (j:gK t l g o w) (q:g<w.heap.size):kx w (.slice (some ⟨g,o+4,none⟩) (n-1) cap) l:=by
 have e:n-1=l.length:=by omega
 refine ⟨_,_,by rw[e],λ _=>⟨g,o+4,rfl,q,λ k u v=>?_⟩⟩
 have:=j (k+1) u (by simpa using v)
 have h:o+(k+1)*4=o+4+k*4:=by omega
 rw[h]at this;exact this
def o7 (h:Below w.heap.size w W) (j:Below W.heap.size W w5):Below w.heap.size w w5:=h.trans (j.mono h.size)
def uE {a b c d f:Value} (h:Below W.heap.size W w5) (q:wc.heap.size<W.heap.size) (j:∀p,W.cell? p=(wc.alloc (.cells #[a,b,c,d,f] T)).cell? p):
    w5.cell? ⟨wc.heap.size,0,none⟩=some a/\w5.cell? ⟨wc.heap.size,1,none⟩=some b/\w5.cell? ⟨wc.heap.size,2,none⟩=some c/\w5.cell? ⟨wc.heap.size,3,none⟩=some d/\w5.cell? ⟨wc.heap.size,4,none⟩=some f:=
 ⟨((h.cell (p:=⟨wc.heap.size,0,none⟩) q).trans (j _)).trans (by go_simp),((h.cell (p:=⟨wc.heap.size,1,none⟩) q).trans (j _)).trans (by go_simp),((h.cell (p:=⟨wc.heap.size,2,none⟩) q).trans (j _)).trans (by go_simp),
   ((h.cell (p:=⟨wc.heap.size,3,none⟩) q).trans (j _)).trans (by go_simp),((h.cell (p:=⟨wc.heap.size,4,none⟩) q).trans (j _)).trans (by go_simp)⟩
def uq {j:Nat} {size:Nat} {v:Value} (h:w.ownsRow base e size v n xs) (A:j<=base):w.ownsRow j e size v n xs:=by
 obtain ⟨u,y|⟨g,cap,q,a,b,c⟩⟩:=h
 .exact ⟨u,.inl y⟩
 exact ⟨u,.inr ⟨g,cap,q,a,Nat.le_trans A b,c⟩⟩
def rX {v:Value} (h:w.ownsRow base e 1 v n xs) (G:0<n):
    ∃g cap,v=.slice (some ⟨g,0,none⟩) n cap/\base<=g/\g<w.heap.size/\n<=cap/\∀j u,xs[j]?=some u->w.cell? ((⟨g,0,none⟩:Addr).add j)=some u:=by
 have E:=h;obtain ⟨_,F|⟨g,cap,A,y,D,C,q,_⟩⟩:=h
 .omega
 exact ⟨g,cap,y,D,(Array.getElem?_eq_some_iff.1 C).1,q,E.cells (by rw[y];rfl)⟩
def ua {q:List Rp} {e:Ending} (h:Below w.heap.size w wc) (C:gM q er wc e w'):gM q er w e w':=by
 obtain ⟨u,n,v,A,j,y⟩:=C;exact ⟨u,n,v,A,uq j h.size,h.trans (y.mono h.size)⟩
