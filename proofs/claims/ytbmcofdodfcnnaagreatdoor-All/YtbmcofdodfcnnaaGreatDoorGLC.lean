import Derived.Test.YtbmcofdodfcnnaaGreatDoorGLA
set_option linter.all false
set_option maxHeartbeats 0
set_option maxRecDepth 100000
namespace Go
open Proofs.Tryz RowKit
variable {er : Int}
def rx (ps:List cQ) (er:Int) (w:World) (e:Ending) (w':World):Prop:=
 ∃ao n cp,e=.returned (.tuple #[.slice ao n cp,.int .i64 er])/\w'.ownsRow w.heap.size 193 7 (.slice ao n cp) ps.length (ps.flatMap cY)/\Below w.heap.size w w'
def kJ {w w':World} (h:Below w.heap.size w w'):rx [] er w (.returned (.tuple #[.slice none 0 0,.int .i64 er])) w':=
 ⟨_,_,_,rfl,World.ownsRow_nil _ _ _ _,h⟩
def sx {p:cQ} {w W:World} (h:Below w.heap.size w W):rx [p] er w (.returned (.tuple #[.slice (some ⟨W.heap.size,0,none⟩) 1 1,.int .i64 er])) (W.alloc (.cells (cY p).toArray 193)):=
 ⟨_,_,_,rfl,by
  have:=World.ownsRow_lit (base:=w.heap.size) (e:=193) (size:=7) W (cY p).toArray 1 h.size (by unfold maxLen;omega) (by rfl)
  simpa using this,h.alloc h.size _⟩
def Km (nm) (l:List Pc) (ao) (cp) (w) (G:aS w) (I:gN ao l w.heap.size w):
    Calls prog 258 #[.string nm,.slice ao l.length cp] w λ e w'=>rx (lu nm l).1 (lu nm l).2 w e w':=by
 have A:=aA (BL nm l ao cp w G I);clear G I;unfold lu;generalize eR nm l=X at *;obtain ⟨⟨op,rd,rs1,rs2,imm⟩,er⟩:=X;simp only;have D:=aA (λ w'=>sL ⟨op,rd,rs1,rs2,imm⟩ w' qm)
 generalize bQ ⟨op,rd,rs1,rs2,imm⟩=Y at *;obtain ⟨h,J⟩:=Y;simp only;unfold aE.val at A D;simp only at A D;by_cases H:er=0
 .subst H
  rw[zt rfl];by_cases hx:J=0
  .subst hx
   rw[zt rfl];go_in;go_wp2_with fail;refine zK A.out λ E q=>?_;have j:=aA q;clear q;go_wp2_with fail;have u:=aA (j.out.alloc j.out.size (.cells #[.int .i64 op,.int .i64 rd,.int .i64 rs1,.int .i64 rs2,.int .i64 imm] 26));generalize E.alloc _=W at *;refine zK (D.out _) λ K v=>?_;have y:=aA (u.out.trans (v.mono u.out.size));clear v;go_wp2_with fail;(refine (pD h 2 _ (by decide)).mono ?_);rintro e L ⟨rfl,C⟩;have F:=aA (y.out.trans (C.mono y.out.size));clear C;go_wp2;go_ret2;exact sx (p:=⟨bR 2 h,cI,[]⟩) F.out
  rw[aC hx];go_in;go_wp2_with fail;refine zK A.out λ E q=>?_;have j:=aA q;clear q;go_wp2_with fail;have u:=aA (j.out.alloc j.out.size (.cells #[.int .i64 op,.int .i64 rd,.int .i64 rs1,.int .i64 rs2,.int .i64 imm] 26));generalize E.alloc _=W at *;refine zK (D.out _) λ K v=>?_;have y:=aA (u.out.trans (v.mono u.out.size));clear v;go_wp2;go_ret2;exact kJ y.out
 rw[aC H];go_in;go_wp2_with fail;refine zK A.out λ E q=>?_;have j:=aA q;clear q;go_wp2;go_ret2;exact kJ (j.out.alloc j.out.size _)
def TR:∀r∈(ByteArray.mk #[105]).data.toList,gQ r:=by
 intro r h;have:r=105:=by simpa using h
 subst this;simp[gQ]
def LW {size:Nat} {l:List Pc} (h:bM [105] l cI []=none):iy size l=([],4):=by simp[iy,h]
def qI {size:Nat} {l:List Pc} {s:aE×List UInt8} (h:bM [105] l cI []=some s) (j:s.1.imm<0\/2^(8*size)<=s.1.imm):iy size l=([],5):=by simp[iy,h,j]
def xW {size:Nat} {l:List Pc} {s:aE×List UInt8} (h:bM [105] l cI []=some s) (j:¬(s.1.imm<0\/2^(8*size)<=s.1.imm)):iy size l=([⟨bR size s.1.imm,cI,[]⟩],0):=by
 unfold iy;rw[h];simp only;rw[aC j]
def KM (size:Nat) (I:size=1\/size=2\/size=4) (l:List Pc) (G:Option Addr) (J:Nat) (w:World) (H:aS w) (M:gN G l w.heap.size w):
    Calls prog 260 #[.int .i64 size,.slice G l.length J] w λ e w'=>rx (iy size l).1 (iy size l).2 w e w':=by
 have R:Hid (aF w.heap.size (dD cI []) (w.alloc (.cells #[.string ⟨#[]⟩,.int .i64 0,.int .i64 0,.int .i64 0,.int .i64 0,.int .i64 0,.string ⟨#[]⟩] 193))):=aA (aF.new w (dD cI []) 193);have A:Hid (Below w.heap.size w (w.alloc (.cells #[.string ⟨#[]⟩,.int .i64 0,.int .i64 0,.int .i64 0,.int .i64 0,.int .i64 0,.string ⟨#[]⟩] 193))):=aA aJ;have Q:Hid (gN G l w.heap.size (w.alloc (.cells #[.string ⟨#[]⟩,.int .i64 0,.int .i64 0,.int .i64 0,.int .i64 0,.int .i64 0,.string ⟨#[]⟩] 193))):=aA (M.move A.out _ zn);have P:=aA (H.below A.out H.1);have U:=H.1;have V:w.heap.size<(w.alloc (.cells #[.string ⟨#[]⟩,.int .i64 0,.int .i64 0,.int .i64 0,.int .i64 0,.int .i64 0,.string ⟨#[]⟩] 193)).heap.size:=by simp
 clear H M;go_in;go_wp2_with fail;generalize w.alloc _=W at *;refine (tX ⟨#[105]⟩ TR (by decide) w.heap.size cI [] l G J W P.out (by omega) R.out Q.out).mono ?_
 rintro e Y ⟨rfl,C,y⟩;have T:(ByteArray.mk #[105]).data.toList=[105]:=rfl;rw[T]at y ⊢;have j:=aA (C.below A.out zn (λ _ h=>by cases h) zn)
 cases hps:bM [105] l cI [] with
 | none=>
  have q:=aA (LW (size:=size) hps);simp only[Option.isSome];clear C y;go_wp2;go_ret2;rw[q.out];exact kJ j.out
 | some s=>
  obtain ⟨⟨op,rd,rs1,rs2,imm⟩,tg⟩:=s;have L:=y _ hps;have X:=L.2.2 5 _ rfl;simp only at X;simp only[Option.isSome];clear C y L;rcases I with rfl|rfl|rfl
  .have N:(2:Int)^(8*1)=256:=by decide
   by_cases D:imm<0
   .have q:=aA (qI (size:=1) hps (.inl D))
    clear hps;go_wp2;go_ret2;rw[q.out];exact kJ j.out
   by_cases K:256<=imm
   .have q:=aA (qI (size:=1) hps (.inr (by simp only;omega)))
    clear hps;go_wp2;go_ret2;rw[q.out];exact kJ j.out
   (have q:=aA (xW (size:=1) hps (by simp only;omega)));(have F:imm<256:=by omega);(have E:0<=imm:=by omega);clear hps;go_wp2_with fail;(refine (pD imm 1 _ (by decide)).mono ?_);rintro e O ⟨rfl,u⟩;have v:=aA (j.out.trans (u.mono j.out.size));clear u;go_wp2;go_ret2;rw[q.out];exact sx (p:=⟨bR 1 imm,cI,[]⟩) v.out
  .have N:(2:Int)^(8*2)=65536:=by decide
   by_cases D:imm<0
   .have q:=aA (qI (size:=2) hps (.inl D))
    clear hps;go_wp2;go_ret2;rw[q.out];exact kJ j.out
   by_cases K:65536<=imm
   .have q:=aA (qI (size:=2) hps (.inr (by simp only;omega)))
    clear hps;go_wp2;go_ret2;rw[q.out];exact kJ j.out
   (have q:=aA (xW (size:=2) hps (by simp only;omega)));(have F:imm<65536:=by omega);(have E:0<=imm:=by omega);clear hps;go_wp2_with fail;(refine (pD imm 2 _ (by decide)).mono ?_);rintro e O ⟨rfl,u⟩;have v:=aA (j.out.trans (u.mono j.out.size));clear u;go_wp2;go_ret2;rw[q.out];exact sx (p:=⟨bR 2 imm,cI,[]⟩) v.out
  have N:(2:Int)^(8*4)=4294967296:=by decide
  by_cases D:imm<0
  .have q:=aA (qI (size:=4) hps (.inl D))
   clear hps;go_wp2;go_ret2;rw[q.out];exact kJ j.out
  by_cases K:4294967296<=imm
  .have q:=aA (qI (size:=4) hps (.inr (by simp only;omega)))
   clear hps;go_wp2;go_ret2;rw[q.out];exact kJ j.out
  have q:=aA (xW (size:=4) hps (by simp only;omega))
  have F:imm<4294967296:=by omega
  have E:0<=imm:=by omega
  clear hps;go_wp2_with fail;refine zK (pD imm 4 _ (by decide)) λ O u=>?_;have v:=aA (j.out.trans (u.mono j.out.size));clear u;go_wp2;go_ret2;rw[q.out];exact sx (p:=⟨bR 4 imm,cI,[]⟩) v.out
def CW (n):∃H,n=fS n+4096*H/\(n-fS n)/4096=H/\(n-fS n).tdiv 4096=H/\-2048<=fS n/\fS n<=2047:=by
 refine ⟨(n+2048)/4096,?_,?_,?_,?_,?_⟩<;>unfold fS
 .omega
 .omega
 .have e:n-((n+2048)%4096-2048)=4096*((n+2048)/4096):=by omega
  rw[e,Int.mul_tdiv_cancel_left _ (by decide)]
 .omega
 omega
def SE (n):bits .and .i64 (n+2048) 4095=fS n+2048:=by
 have:=xU (n+2048) 12 (by decide)
 have e:(2:Int)^12=4096:=by decide
 rw[e]at this;unfold eO at this;rw[show (4096:Int)-1=4095 from rfl]at this
 rw[this];unfold fS;omega
def MF:(prog.info? 193).map (λ i=>(i.zero,i.size,i.bytes))=some (some (.agg #[.string ⟨#[]⟩,.int .i64 0,.int .i64 0,.int .i64 0,.int .i64 0,.int .i64 0,.string ⟨#[]⟩]),7,72):=by kernel_rfl
def sY (w:World) (p:cQ):(w.alloc (.cells (cY p).toArray 193)).ownsRow w.heap.size 193 7 (.slice (some ⟨w.heap.size,0,none⟩) 1 1) 1 (cY p):=by
 have:=World.ownsRow_lit (base:=w.heap.size) (e:=193) (size:=7) w (cY p).toArray 1 zn (by unfold maxLen;omega) (by rfl)
 simpa using this
def nD (w:World) (q:List Value) (t:TypeId):∀j u,q[j]?=some u->(w.alloc (.cells q.toArray t)).cell? ((⟨w.heap.size,0,none⟩:Addr).add j)=some u:=by
 intro j u v;have h:(⟨w.heap.size,0,none⟩:Addr).add j=⟨w.heap.size,j,none⟩:=by unfold Addr.add;split<;>simp_all
 rw[h];exact (aF.new w q t).2.2 j u v
def Sf (r n) (w) (h0:-2147483648<=n) (h1:n<=2147483647):
    Calls prog 275 #[.int .i64 r,.int .i64 n] w λ e w'=>∃C m D,e=.returned (.slice C m D)/\w'.ownsRow w.heap.size 193 7 (.slice C m D) (j7 r n).length ((j7 r n).flatMap cY)/\Below w.heap.size w w':=by
 obtain ⟨Y,hi,K,M,N⟩:=info_parts MF;obtain ⟨H,X,W,ht,l0,l1⟩:=CW n;have ha:=SE n;have y:Hid (j7 r n=if fS n=n then [⟨[],⟨29,r,0,0,n⟩,[]⟩] else ⟨[],⟨60,r,0,0,if H=524288 then -524288 else H⟩,[]⟩::(if fS n=0 then [] else [⟨[],⟨38,r,r,0,fS n⟩,[]⟩])):=aA (by unfold j7 wB;rw[W])
 clear W;generalize fS n=L at *;have V:=aA X;clear X;by_cases A:L=n
 .rw[zt A]at y
  have Q:(L==n)=true:=by simpa using A
  have Z:=aA A;clear A;go_in;go_wp2;go_ret;refine ⟨_,_,_,rfl,?_,aJ⟩;rw[y.out];exact sY w ⟨[],⟨29,r,0,0,n⟩,[]⟩
 rw[aC A]at y;have Q:(L==n)=false:=by simpa using A
 by_cases P:H=524288
 .subst P
  rw[zt rfl]at y;by_cases q:L=0
  .rw[zt q]at y
   (have F:(L != 0)=false:=by simpa using q);have O:=aA q;clear q;go_in;go_wp2;go_ret;refine ⟨_,_,_,rfl,?_,aJ⟩;rw[y.out];exact sY w ⟨[],⟨60,r,0,0,-524288⟩,[]⟩
  have F:(L != 0)=true:=by simpa using q
  rw[aC q]at y;have E:=aA (sY w ⟨[],⟨60,r,0,0,-524288⟩,[]⟩);unfold cY at E;simp only at E;go_in;go_wp2_with (at_builtin;refine wpList_append_own _ rfl _ _ 253 rfl w.heap.size 193 Y _ 7 72 underlying253 hi K M N rfl (by decide) _ _ _ rfl (E.out.alloc _) ⟨w.heap.size+1,0,none⟩ 1 1 (cY ⟨[],⟨38,r,r,0,L⟩,[]⟩) rfl rfl ?c1 ?c2 ?c3 ?c4 ?c5 ?_)
  case c1=>have:=nD (w.alloc (.cells (cY ⟨[],⟨60,r,0,0,-524288⟩,[]⟩).toArray 193)) (cY ⟨[],⟨38,r,r,0,L⟩,[]⟩) 193;rw[za]at this;exact this
  case c2=>intro u J;simp[cY]at J;rcases J with rfl|rfl|rfl|rfl|rfl|rfl|rfl<;>rfl
  case c3=>unfold maxLen;omega
  case c4=>omega
  case c5=>simp;omega
  intro T U h v _;have G:Hid (Below w.heap.size w U):=aA ((aJ.alloc (by simp) _).grown v (by simp;omega) (λ j R=>by have:=(E.out.lt j R).1;omega))
  have I:=aA h
  obtain ⟨C,m,D,rfl⟩:∃C m D,T=.slice C m D:=by
   obtain ⟨C,m,D,e,_⟩:=mF h;exact ⟨C,m,D,e⟩
  clear h v E;go_wp2;go_ret;refine ⟨_,_,_,rfl,?_,G.out⟩;rw[y.out];exact I.out
 rw[aC P]at y;have ac:(H==524288)=false:=by simpa using P
 have aa:-524288<=H:=by have:=V.out;omega
 have ab:H<=524288:=by have:=V.out;omega
 by_cases q:L=0
 .rw[zt q]at y
  have F:(L != 0)=false:=by simpa using q
  have O:=aA q;clear q;go_in;go_wp2;go_ret;refine ⟨_,_,_,rfl,?_,aJ⟩;rw[y.out];exact sY w ⟨[],⟨60,r,0,0,H⟩,[]⟩
 have F:(L != 0)=true:=by simpa using q
 rw[aC q]at y;have E:=aA (sY w ⟨[],⟨60,r,0,0,H⟩,[]⟩);unfold cY at E;simp only at E;go_in;go_wp2_with (at_builtin;refine wpList_append_own _ rfl _ _ 253 rfl w.heap.size 193 Y _ 7 72 underlying253 hi K M N rfl (by decide) _ _ _ rfl (E.out.alloc _) ⟨w.heap.size+1,0,none⟩ 1 1 (cY ⟨[],⟨38,r,r,0,L⟩,[]⟩) rfl rfl ?c1 ?c2 ?c3 ?c4 ?c5 ?_)
 case c1=>have:=nD (w.alloc (.cells (cY ⟨[],⟨60,r,0,0,H⟩,[]⟩).toArray 193)) (cY ⟨[],⟨38,r,r,0,L⟩,[]⟩) 193;rw[za]at this;exact this
 case c2=>intro u J;simp[cY]at J;rcases J with rfl|rfl|rfl|rfl|rfl|rfl|rfl<;>rfl
 case c3=>unfold maxLen;omega
 case c4=>omega
 case c5=>simp;omega
 intro T U h v _;have G:Hid (Below w.heap.size w U):=aA ((aJ.alloc (by simp) _).grown v (by simp;omega) (λ j R=>by have:=(E.out.lt j R).1;omega))
 have I:=aA h
 obtain ⟨C,m,D,rfl⟩:∃C m D,T=.slice C m D:=by
  obtain ⟨C,m,D,e,_⟩:=mF h;exact ⟨C,m,D,e⟩
 clear h v E;go_wp2;go_ret;refine ⟨_,_,_,rfl,?_,G.out⟩;rw[y.out];exact I.out
def T4:∀r∈(ByteArray.mk #[100,44,105]).data.toList,gQ r:=by
 intro r h;have:r=100\/r=44\/r=105:=by simpa using h
 rcases this with rfl|rfl|rfl<;>simp[gQ]
def Lq {l:List Pc} (h:bM [100,44,105] l cI []=none):j8 l=([],4):=by simp[j8,h]
def EL {l:List Pc} {s:aE×List UInt8} (h:bM [100,44,105] l cI []=some s) (j:s.1.imm < -2147483648\/2147483647<s.1.imm):j8 l=([],5):=by simp[j8,h,j]
def N7 {l:List Pc} {s:aE×List UInt8} (h:bM [100,44,105] l cI []=some s) (j:¬(s.1.imm < -2147483648\/2147483647<s.1.imm)):j8 l=(j7 s.1.rd s.1.imm,0):=by
 unfold j8;rw[h];simp only;rw[aC j]
def Kc (l:List Pc) (ao) (cp) (w) (D:aS w) (J:gN ao l w.heap.size w):
    Calls prog 261 #[.slice ao l.length cp] w λ e w'=>rx (j8 l).1 (j8 l).2 w e w':=by
 have M:Hid (aF w.heap.size (dD cI []) (w.alloc (.cells #[.string ⟨#[]⟩,.int .i64 0,.int .i64 0,.int .i64 0,.int .i64 0,.int .i64 0,.string ⟨#[]⟩] 193))):=aA (aF.new w (dD cI []) 193);have v:Hid (Below w.heap.size w (w.alloc (.cells #[.string ⟨#[]⟩,.int .i64 0,.int .i64 0,.int .i64 0,.int .i64 0,.int .i64 0,.string ⟨#[]⟩] 193))):=aA aJ;have L:Hid (gN ao l w.heap.size (w.alloc (.cells #[.string ⟨#[]⟩,.int .i64 0,.int .i64 0,.int .i64 0,.int .i64 0,.int .i64 0,.string ⟨#[]⟩] 193))):=aA (J.move v.out _ zn);have K:=aA (D.below v.out D.1);have T:=D.1;clear D J;go_in;go_wp2_with fail;generalize w.alloc _=W at *;refine (tX ⟨#[100,44,105]⟩ T4 (by decide) w.heap.size cI [] l ao cp W K.out (by omega) M.out L.out).mono ?_
 rintro e X ⟨rfl,y,q⟩;have P:(ByteArray.mk #[100,44,105]).data.toList=[100,44,105]:=rfl;rw[P]at q ⊢;have j:=aA (y.below v.out zn (λ _ h=>by cases h) zn)
 cases hps:bM [100,44,105] l cI [] with
 | none=>
  have u:=aA (Lq hps);simp only[Option.isSome];clear y q;go_wp2;go_ret2;rw[u.out];exact kJ j.out
 | some s=>
  obtain ⟨⟨op,rd,rs1,rs2,imm⟩,tg⟩:=s;have I:=q _ hps;obtain ⟨_,_,U,_,_,V⟩:=z6 I.2.2;simp only at U V;simp only[Option.isSome];clear y q I;by_cases Q:imm < -2147483648
  .have u:=aA (EL hps (.inl Q))
   clear hps;go_wp2;go_ret2;rw[u.out];exact kJ j.out
  by_cases R:2147483647<imm
  .have u:=aA (EL hps (.inr R))
   clear hps;go_wp2;go_ret2;rw[u.out];exact kJ j.out
  have u:=aA (N7 hps (by simp only;omega))
  simp only at u;have H:imm<=2147483647:=by omega
  have G:-2147483648<=imm:=by omega
  clear hps;go_wp2_with fail;refine (Sf rd imm _ G H).mono ?_;rintro e Y ⟨N,m4,O,rfl,C,A⟩;have F:=aA (sC C j.out.size);have E:=aA (j.out.trans (A.mono j.out.size));clear A C;go_wp2;go_ret2;rw[u.out];exact ⟨_,_,_,rfl,F.out,E.out⟩
def MJ (l):fK l=1\/fK l=2\/fK l=4\/fK l=0:=by
 unfold fK
 split
 .exact .inl rfl
 split
 .exact .inr (.inl rfl)
 split
 .exact .inr (.inr (.inl rfl))
 exact .inr (.inr (.inr rfl))
def Jh (nm) (l:List Pc) (ao) (cp) (w) (P:aS w) (R:gN ao l w.heap.size w):
    Calls prog 227 #[.string nm,.slice ao l.length cp] w λ e w'=>rx (cL nm l).1 (cL nm l).2 w e w':=by
 have W:=aA (λ q=>Km q l ao cp w P R)
 have N:=aA (λ s h=>KM s h l ao cp w P R)
 have V:=aA (Kc l ao cp w P R);have J:=aA (J7 nm l ao cp w P R);clear P R;by_cases T:Lib.hasPrefix nm.data.toList [99,46]=true
 .have D:Hid (cL nm l=lu ⟨(Lib.trimPrefix nm.data.toList [99,46]).toArray⟩ l):=aA (by unfold cL;rw[zt T])
  have v:Lib.hasPrefix nm.data.toList (ByteArray.mk #[99,46]).data.toList=true:=T;go_in;go_wp2_with fail;refine (strings_CutPrefix nm ⟨#[99,46]⟩ _).mono ?_;rintro e G ⟨rfl,rfl⟩;rw[v];go_wp2_with fail;refine (W.out _).mono ?_;rintro e O ⟨K,U,L,rfl,C,A⟩;have I:=aA C;have H:=aA A;clear C A;go_wp2;go_ret2;rw[D.out];exact ⟨_,_,_,rfl,I.out,H.out⟩
 have Y:Lib.hasPrefix nm.data.toList [99,46]=false:=by simpa using T
 have v:Lib.hasPrefix nm.data.toList (ByteArray.mk #[99,46]).data.toList=false:=Y;have u:Hid (cL nm l=if fK nm.data.toList≠0 then iy (fK nm.data.toList).toNat l else if nm.data.toList=[108,105] then j8 l else if (cN nm l).2=0 then ([(cN nm l).1],0) else ([],(cN nm l).2)):=aA (by unfold cL;rw[aC T])
 rcases MJ nm.data.toList with E|E|E|E
 .have D:Hid (cL nm l=iy 1 l):=aA (by rw[u.out,E];rfl)
  clear u;go_in;go_wp2_with fail;refine (strings_CutPrefix nm ⟨#[99,46]⟩ _).mono ?_;rintro e G ⟨rfl,rfl⟩;rw[v];go_wp2_with fail;refine (qg nm _).mono ?_;rintro e G ⟨rfl,rfl⟩;rw[E];go_wp2_with fail;refine (N.out 1 (by omega)).mono ?_
  rintro e O ⟨K,U,L,rfl,C,A⟩;have I:=aA C;have H:=aA A;clear C A;go_wp2;go_ret2;rw[D.out];exact ⟨_,_,_,rfl,I.out,H.out⟩
 .have D:Hid (cL nm l=iy 2 l):=aA (by rw[u.out,E];rfl)
  clear u;go_in;go_wp2_with fail;refine (strings_CutPrefix nm ⟨#[99,46]⟩ _).mono ?_;rintro e G ⟨rfl,rfl⟩;rw[v];go_wp2_with fail;refine (qg nm _).mono ?_;rintro e G ⟨rfl,rfl⟩;rw[E];go_wp2_with fail;refine (N.out 2 (by omega)).mono ?_
  rintro e O ⟨K,U,L,rfl,C,A⟩;have I:=aA C;have H:=aA A;clear C A;go_wp2;go_ret2;rw[D.out];exact ⟨_,_,_,rfl,I.out,H.out⟩
 .have D:Hid (cL nm l=iy 4 l):=aA (by rw[u.out,E];rfl)
  clear u;go_in;go_wp2_with fail;refine (strings_CutPrefix nm ⟨#[99,46]⟩ _).mono ?_;rintro e G ⟨rfl,rfl⟩;rw[v];go_wp2_with fail;refine (qg nm _).mono ?_;rintro e G ⟨rfl,rfl⟩;rw[E];go_wp2_with fail;refine (N.out 4 (by omega)).mono ?_
  rintro e O ⟨K,U,L,rfl,C,A⟩;have I:=aA C;have H:=aA A;clear C A;go_wp2;go_ret2;rw[D.out];exact ⟨_,_,_,rfl,I.out,H.out⟩
 have j:Hid (cL nm l=if nm.data.toList=[108,105] then j8 l else if (cN nm l).2=0 then ([(cN nm l).1],0) else ([],(cN nm l).2)):=aA (by rw[u.out,E];rfl)
 clear u;by_cases F:nm.data.toList=[108,105]
 .have D:Hid (cL nm l=j8 l):=aA (by rw[j.out,zt F])
  have Z:(nm.toList==[108,105])=true:=by rw[ByteArray.toList_eq];simpa using F
  clear j F;go_in;go_wp2_with fail;refine (strings_CutPrefix nm ⟨#[99,46]⟩ _).mono ?_;rintro e G ⟨rfl,rfl⟩;rw[v];go_wp2_with fail;refine (qg nm _).mono ?_;rintro e G ⟨rfl,rfl⟩;rw[E];go_wp2_with fail;refine V.out.mono ?_;rintro e O ⟨K,U,L,rfl,C,A⟩;have I:=aA C;have H:=aA A;clear C A;go_wp2;go_ret2;rw[D.out];exact ⟨_,_,_,rfl,I.out,H.out⟩
 have j:Hid (cL nm l=if (cN nm l).2=0 then ([(cN nm l).1],0) else ([],(cN nm l).2)):=aA (by rw[j.out,aC F])
 have Z:(nm.toList==[108,105])=false:=by rw[ByteArray.toList_eq];simpa using F
 clear F;generalize cN nm l=X at *;obtain ⟨⟨data,⟨op,rd,rs1,rs2,imm⟩,tg⟩,er⟩:=X;unfold cY at J;simp only at J j;by_cases Q:er=0
 .subst Q
  have D:Hid (cL nm l=([⟨data,⟨op,rd,rs1,rs2,imm⟩,tg⟩],0)):=aA (by rw[j.out,zt rfl])
  clear j;go_in;go_wp2_with fail;refine (strings_CutPrefix nm ⟨#[99,46]⟩ _).mono ?_;rintro e G ⟨rfl,rfl⟩;rw[v];go_wp2_with fail;refine (qg nm _).mono ?_;rintro e G ⟨rfl,rfl⟩;rw[E];go_wp2_with fail;refine zK J.out λ O y=>?_;have M:=aA (y.alloc y.size (.cells #[.string ⟨data.toArray⟩,.int .i64 op,.int .i64 rd,.int .i64 rs1,.int .i64 rs2,.int .i64 imm,.string ⟨tg.toArray⟩] 193));clear y;go_wp2;go_ret2;rw[D.out];have hp:=sx (p:=⟨data,⟨op,rd,rs1,rs2,imm⟩,tg⟩) (er:=0) M.out;rw[za]at hp;exact hp
 have D:Hid (cL nm l=([],er)):=aA (by rw[j.out,aC Q])
 clear j;go_in;go_wp2_with fail;refine (strings_CutPrefix nm ⟨#[99,46]⟩ _).mono ?_;rintro e G ⟨rfl,rfl⟩;rw[v];go_wp2_with fail;refine (qg nm _).mono ?_;rintro e G ⟨rfl,rfl⟩;rw[E];go_wp2_with fail;refine zK J.out λ O y=>?_;have M:=aA (y.alloc y.size (.cells #[.string ⟨data.toArray⟩,.int .i64 op,.int .i64 rd,.int .i64 rs1,.int .i64 rs2,.int .i64 imm,.string ⟨tg.toArray⟩] 193));clear y;go_wp2;go_ret2;rw[D.out];exact kJ M.out
