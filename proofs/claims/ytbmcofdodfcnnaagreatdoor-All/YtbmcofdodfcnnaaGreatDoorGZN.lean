import Derived.Test.YtbmcofdodfcnnaaGreatDoorGZG
import Derived.Test.YtbmcofdodfcnnaaGreatDoorGZE
set_option linter.all false
set_option maxHeartbeats 0
set_option maxRecDepth 100000
namespace Go
open Proofs.Tryz RowKit
variable {T : TypeId} {b : Nat} {mem regs : List Int} {pc : Int} {w0 w w' : World} {i : List Value}
def U2 (k:Nat) (A:41<=k) (C:k<48) (u:pZ ((k:Int)+1)=true) (w:bN ((k:Int)+1)<8) (V:Int) (y:0<=V) (h:V<2^(8*bN ((k:Int)+1))):bG V (8*(bN ((k:Int)+1):Int))=ir ((k:Int)+1) V/\V<=4294967295/\bN ((k:Int)+1)<=4:=by
 have:k=41\/k=42\/k=43\/k=44\/k=45\/k=46\/k=47:=by omega
 rcases this with rfl|rfl|rfl|rfl|rfl|rfl|rfl
 .have e:ir (((41:Nat):Int)+1) V=IntKind.i8.wrap V:=rfl
  have z:bN (((41:Nat):Int)+1)=1:=rfl;rw[z]at h ⊢
  have v:IntKind.i8.wrap V=(V+128)%256-128:=by
   simp[IntKind.wrap,IntKind.bits,IntKind.signed]
   split<;>omega
  rw[e,v];have j:bG V (8*((1:Nat):Int))=if 128<=V then V-256 else V:=rfl;rw[j];have q:V<256:=h;refine ⟨?_,by omega,by decide⟩
  split<;>omega
 .have e:ir (((42:Nat):Int)+1) V=IntKind.i16.wrap V:=rfl
  have z:bN (((42:Nat):Int)+1)=2:=rfl;rw[z]at h ⊢
  have v:IntKind.i16.wrap V=(V+32768)%65536-32768:=by
   simp[IntKind.wrap,IntKind.bits,IntKind.signed]
   split<;>omega
  rw[e,v];have j:bG V (8*((2:Nat):Int))=if 32768<=V then V-65536 else V:=rfl;rw[j];have q:V<65536:=h;refine ⟨?_,by omega,by decide⟩
  split<;>omega
 .have e:ir (((43:Nat):Int)+1) V=IntKind.i32.wrap V:=rfl
  have z:bN (((43:Nat):Int)+1)=4:=rfl;rw[z]at h ⊢;rw[e,IntKind.wrap_i32];have j:bG V (8*((4:Nat):Int))=if 2147483648<=V then V-4294967296 else V:=rfl;rw[j];have q:V<4294967296:=h;refine ⟨?_,by omega,by decide⟩
  split<;>omega
 .exact absurd w (by decide)
 .exact absurd u (by decide)
 .exact absurd u (by decide)
 exact absurd u (by decide)
def Vu (k:Nat) (j:41<=k) (q:k<48) (h:¬(pZ ((k:Int)+1)=true/\bN ((k:Int)+1)<8)) (V:Int):ir ((k:Int)+1) V=V:=by
 have:k=41\/k=42\/k=43\/k=44\/k=45\/k=46\/k=47:=by omega
 rcases this with rfl|rfl|rfl|rfl|rfl|rfl|rfl
 .exact absurd ⟨by decide,by decide⟩ h
 .exact absurd ⟨by decide,by decide⟩ h
 .exact absurd ⟨by decide,by decide⟩ h
 .rfl
 .rfl
 .rfl
 rfl
def T3 (x y):wrap64 (wrap64 (IntKind.i64.wrap x*256)+y)=IntKind.i64.wrap (y+256*x):=by
 rw[zo,zo];unfold wrap64;omega
structure kZ (T:TypeId) (b:Nat) (mem regs:List Int) (pc:Int) (w0:World) (i:List Value) (w:World):Prop where
 m:aK T b mem regs pc w
 i:aF w0.heap.size i w
 k:aN b w0 w
def kZ.next (h:kZ T b mem regs pc w0 i w) (j:Below w.heap.size w w'):kZ T b mem regs pc w0 i w':=
 ⟨h.m.next j,h.i.next j,h.k.next j⟩
def kZ.new (h:aK T b mem regs pc w0) (i) (t):kZ T b mem regs pc w0 i (w0.alloc (.cells i.toArray t)):=
 ⟨h.alloc _,aF.new w0 i t,(aN.refl b w0).alloc _⟩
def Cf (b:Nat) (i:aE) (ad v:Int) (w:World) (h:aK T b mem regs pc w) (u:bA ad (bN i.op)=false):
    Calls prog 216 #[.pointer (some ⟨b,0,none⟩),i.val,.int .i64 ad,.int .i64 v] w λ e w'=>e=.returned (.bool false)/\aK T b mem regs pc w'/\aN b w w':=by
 have A:=mQ i.op;have q:Hid (∀w',Calls prog 178 #[.int .i64 ad,.int .i64 (bN i.op)] w' λ e y=>e=.returned (.bool (bA ad (bN i.op)))/\y=w'):=aA (λ w'=>nP ad _ w' (by omega) (by omega))
 obtain ⟨op,rd,r1,r2,imm⟩:=i;simp only at u A q;have j:=aA (kZ.new h [.int .i64 op,.int .i64 rd,.int .i64 r1,.int .i64 r2,.int .i64 imm] 26);have C:=j.out.i.2.2 0 _ rfl;rw[u]at q;clear h u;go_in;unfold aE.val;simp only
 go_wp2_with (first
  | (go_at_call 245;refine (yO _ _).mono ?_;rintro e w' ⟨rfl,rfl⟩)
  | (go_at_call 178;refine (q.out _).mono ?_;rintro e w' ⟨rfl,rfl⟩))
 go_ret;exact ⟨rfl,j.out.m,j.out.k⟩
def QK (b k a:Nat) (rd r1 r2 imm v:Int) (w:World) (h:aK T b mem regs pc w) (Y:49<=k) (Z:k<53) (ha:a+bN ((k:Int)+1)<=4096) (hv:dH v):
    Calls prog 216 #[.pointer (some ⟨b,0,none⟩),(aE.mk ((k:Int)+1) rd r1 r2 imm).val,.int .i64 a,.int .i64 v] w λ e w'=>e=.returned (.bool true)/\aK T b (eH mem a (bR (bN ((k:Int)+1)) v)) regs pc w'/\aN b w w':=by
 have hz:=mQ ((k:Int)+1);have L:bA (a:Int) (bN ((k:Int)+1))=true:=by simp[bA];omega
 have O:Hid (∀w',Calls prog 178 #[.int .i64 a,.int .i64 (bN ((k:Int)+1))] w' λ e J=>e=.returned (.bool true)/\J=w'):=aA (λ w'=>by rw[<-L];exact nP a _ w' (by omega) (by omega))
 have F:=aA (λ w'=>yO ((k:Int)+1) w')
 have H:=AN k Z Y;have U:(k:Int)<64:=by omega
 have X:IntKind.i64.wrap (k:Int)=(k:Int):=zw _ (by omega)
 generalize bN ((k:Int)+1)=n at *;generalize pZ ((k:Int)+1)=sg at *;have D:=aA (kZ.new h [.int .i64 ((k:Int)+1),.int .i64 rd,.int .i64 r1,.int .i64 r2,.int .i64 imm] 26);have i0:=D.out.i.2.2 0 _ rfl;clear L;go_in;unfold aE.val;simp only
 go_wp2_with (first
  | (go_at_call 245;refine (F.out _).mono ?_;rintro e w' ⟨rfl,rfl⟩)
  | (go_at_call 178;refine (O.out _).mono ?_;rintro e w' ⟨rfl,rfl⟩))
 go_cut [33] (λ q wx=>q=.bool true/\kZ T b mem regs pc w [.int .i64 ((k:Int)+1),.int .i64 rd,.int .i64 r1,.int .i64 r2,.int .i64 imm] wx)
 case first=>
  go_region_with (go_at_call 157;refine (ox _).mono ?_;rintro e w' ⟨C,P,rfl,rfl⟩;obtain ⟨c0,c1,c2,c3,c4⟩:=P k (by omega);rw[H]at c1)
  all_goals (go_wp2_with fail;go_meet)
  all_goals exact ⟨by first|rfl|simp,D.out.next (aJ.drew)⟩
 case rest=>
  obtain ⟨rfl,A⟩:=hcut;have y:=aA A;clear A D;go_wp2_with fail;go_loopw [3,12] (λ x i wr=>∃j:Nat,j<=n/\i=.int .i64 j/\x=.int .i64 (v/256^j)/\kZ T b (eH mem a (bR j v)) regs pc w [.int .i64 ((k:Int)+1),.int .i64 rd,.int .i64 r1,.int .i64 r2,.int .i64 imm] wr) (λ _ i _=>n-(intOf i).toNat)
  case atStart=>exact ⟨0,by omega,rfl,by simp,by simpa[bR,eH] using y.out⟩
  case round=>
   clear y;obtain ⟨j,hj,rfl,rfl,u⟩:=hrel;by_cases V:j<n
   .have R:(j:Int)<n:=by omega
    (have hc:=u.m.cellM (a+j) (by omega));have hf:=u.m.frozen;(have wa:IntKind.i64.wrap ((a:Int)+j)=((a+j:Nat):Int):=by rw[show ((a+j:Nat):Int)=(a:Int)+j from by omega];exact zw _ (by omega));(have Q:((a+j:Nat):Int)<4096:=by omega);(have hq:bits .and .i64 (v/256^j) 255=v/256^j%256:=(pA (v/256^j) 8 (by omega)).trans (by rw[show (2:Int)^8=256 from by decide]));have hx:=FQ (v/256^j)
    have E:Hid (kZ T b (eH mem a (bR (j+1) v)) regs pc w [.int .i64 ((k:Int)+1),.int .i64 rd,.int .i64 r1,.int .i64 r2,.int .i64 imm] (wr.setCell ⟨b,a+j,none⟩ (.int .u8 (v/256^j%256)))):=aA (by
     have M:=u.m.setM (a+j) (by omega) (v/256^j%256) (by omega) (by omega)
     have e:(eH mem a (bR j v)).set (a+j) (v/256^j%256)=eH mem a (bR (j+1) v):=by
      rw[tZ,<-Dl _ _ _ _ (by rw[kw,h.mlen];omega),kw,hx]
     rw[e]at M;(have I:w.heap.size≠b:=by have:=h.lt;omega);exact ⟨M,u.i.kept (aN.setCell b wr _ _) I,u.k.near _ _⟩)
    (have W:IntKind.u8.wrap (v/256^j%256)=v/256^j%256:=by rw[IntKind.wrap_u8];omega);have N:=aA (Hb v j);clear u hx;generalize v/256^j=x at *;(have h8:0<=x%256/\x%256<256:=by omega);go_wp2;go_roundw;(case rel=>exact ⟨j+1,by omega,by go_num,by rw[N.out],E.out⟩);case measure=>simp[intOf];omega
   (have G:j=n:=by omega);subst G;have K:=aA u;clear u;go_wp2;go_ret;exact ⟨rfl,K.out.m,K.out.k⟩
def Qz (b k a rd:Nat) (r1 r2 imm v:Int) (w:World) (h:aK T b mem regs pc w) (Z:41<=k) (k2:k<48) (ha:a+bN ((k:Int)+1)<=4096) (hd:rd<32):
    Calls prog 216 #[.pointer (some ⟨b,0,none⟩),(aE.mk ((k:Int)+1) rd r1 r2 imm).val,.int .i64 a,.int .i64 v] w λ e w'=>e=.returned (.bool true)/\aK T b mem (eC regs rd (ir ((k:Int)+1) (bY mem a (bN ((k:Int)+1))))) pc w'/\aN b w w':=by
 have hz:=mQ ((k:Int)+1);have hh:bA (a:Int) (bN ((k:Int)+1))=true:=by simp[bA];omega
 have HN:Hid (∀w',Calls prog 178 #[.int .i64 a,.int .i64 (bN ((k:Int)+1))] w' λ e ab=>e=.returned (.bool true)/\ab=w'):=aA (λ w'=>by rw[<-hh];exact nP a _ w' (by omega) (by omega))
 have U:=aA (λ w'=>yO ((k:Int)+1) w')
 have X:=Aq k k2 Z;have ay:(k:Int)<64:=by omega
 have az:IntKind.i64.wrap (k:Int)=(k:Int):=zw _ (by omega)
 have P:=kM (cF mem a (bN ((k:Int)+1)));rw[sX (by rw[h.mlen];omega)]at P
 have HY:=aA (λ G Y=>U2 k Z k2 G Y _ P.1 P.2)
 have HO:=aA (λ G=>Vu k Z k2 G (bY mem a (bN ((k:Int)+1))))
 have R:Hid (bN ((k:Int)+1)<8->bY mem a (bN ((k:Int)+1))=aP (cF mem a (bN ((k:Int)+1)))):=aA (λ Y=>by
  unfold bY;have:(2:Int)^(8*bN ((k:Int)+1))<=2^56:=gU (by omega)
  have aq:(2:Int)^56=72057594037927936:=by decide
  exact zw _ (by omega))
 have HV:Hid (bY mem a (bN ((k:Int)+1))=IntKind.i64.wrap (aP (cF mem a (bN ((k:Int)+1))))):=aA rfl;clear P;generalize hS:ir ((k:Int)+1)=SG at *;generalize bN ((k:Int)+1)=n at *;generalize pZ ((k:Int)+1)=sg at *;clear hS;have Q:=aA (kZ.new h [.int .i64 ((k:Int)+1),.int .i64 rd,.int .i64 r1,.int .i64 r2,.int .i64 imm] 26);have i0:=Q.out.i.2.2 0 _ rfl;clear hh;go_in;unfold aE.val;simp only
 go_wp2_with (first
  | (go_at_call 245;refine (U.out _).mono ?_;rintro e w' ⟨rfl,rfl⟩)
  | (go_at_call 178;refine (HN.out _).mono ?_;rintro e w' ⟨rfl,rfl⟩))
 go_cut [33] (λ q wx=>q=.bool false/\kZ T b mem regs pc w [.int .i64 ((k:Int)+1),.int .i64 rd,.int .i64 r1,.int .i64 r2,.int .i64 imm] wx)
 case first=>
  go_region_with (go_at_call 157;refine (ox _).mono ?_;rintro e w' ⟨C,hC,rfl,rfl⟩;obtain ⟨c0,c1,c2,c3,c4⟩:=hC k (by omega);rw[X]at c1)
  all_goals (go_wp2_with fail;go_meet)
  all_goals exact ⟨by first|rfl|simp,Q.out.next (aJ.drew)⟩
 case rest=>
  obtain ⟨rfl,I⟩:=hcut;have u:=aA I;clear I Q;go_wp2_with fail;go_loop [13,14] (λ x i=>∃j:Nat,j<=n/\i=.int .i64 ((j:Int)-1)/\x=.int .i64 (IntKind.i64.wrap (aP (cF mem (a+j) (n-j))))) (λ _ i=>(intOf i+1).toNat)
  case atStart=>exact ⟨n,by omega,by go_num,by rw[Nat.sub_self,SZ];rfl⟩
  case round=>
   obtain ⟨j,hj,rfl,rfl⟩:=hrel
   cases j with
   | zero=>
    simp only[Nat.add_zero,Nat.sub_zero];(rw[show ((0:Nat):Int)-1=-1 from rfl]);have i1:=u.out.i.2.2 1 _ rfl;by_cases G:sg=true/\n<8
    .obtain ⟨rfl,K⟩:=G
     (have ag:(n:Int)<8:=by omega);obtain ⟨y1,y2,y3⟩:=HY.out rfl K;have L:=R.out K;have J:=kM (cF mem a n);(have N:IntKind.i64.wrap (aP (cF mem a n))=aP (cF mem a n):=zw _ (by omega));rw[N];(have O:=aA (λ w' W=>vF b rd (bG (aP (cF mem a n)) (8*(n:Int))) w' (T:=T) (mem:=mem) (regs:=regs) (pc:=pc) W hd));(have F:Hid (SG (bY mem a n)=bG (aP (cF mem a n)) (8*(n:Int))):=aA (by rw[L,y1]));have aw:=J.1;clear y1 L N J;generalize aP (cF mem a n)=V at *;(go_wp2_with (go_at_call 161;refine (si _ _ _ (by omega) (by omega) (by omega) (by omega)).mono ?_;rintro e w' ⟨rfl,rfl⟩));refine (O.out _ u.out.m).mono ?_;rintro e w4 ⟨rfl,A,y⟩;have E:=aA A;have D:=aA (u.out.k.trans y);clear A y;go_wp2;go_ret;exact ⟨rfl,by rw[F.out];exact E.out,D.out⟩
    (have O:=aA (λ w' W=>vF b rd (IntKind.i64.wrap (aP (cF mem a n))) w' (T:=T) (mem:=mem) (regs:=regs) (pc:=pc) W hd));(have F:Hid (SG (bY mem a n)=IntKind.i64.wrap (aP (cF mem a n))):=aA (by rw[HO.out G,HV.out]));generalize IntKind.i64.wrap (aP (cF mem a n))=V at *
    have M:sg=false\/8<=(n:Int):=by
     rcases Bool.eq_false_or_eq_true sg with e|e
     .right
      rcases Nat.lt_or_ge n 8 with q|q
      .exact absurd ⟨e,q⟩ G
      omega
     exact .inl e
    rcases M with rfl|M
    .go_wp2_with fail
     refine (O.out _ u.out.m).mono ?_;rintro e w4 ⟨rfl,A,y⟩;have E:=aA A;have D:=aA (u.out.k.trans y);clear A y;go_wp2;go_ret;exact ⟨rfl,by rw[F.out];exact E.out,D.out⟩
    (have Y:¬(n:Int)<8:=by omega);go_wp2_with fail
    all_goals
     refine (O.out _ u.out.m).mono ?_;rintro e w4 ⟨rfl,A,y⟩;have E:=aA A;have D:=aA (u.out.k.trans y);clear A y;go_wp2;go_ret;exact ⟨rfl,by rw[F.out];exact E.out,D.out⟩
   | succ j=>
    (rw[show ((j+1:Nat):Int)-1=j from by omega]);(have hc:=u.out.m.cellM (a+j) (by omega));have hx:=T0 h (a+j);(have wa:IntKind.i64.wrap ((a:Int)+j)=((a+j:Nat):Int):=by rw[show ((a+j:Nat):Int)=(a:Int)+j from by omega];exact zw _ (by omega));(have av:((a+j:Nat):Int)<4096:=by omega);(have ax:(j:Int)<4096:=by omega);(have H:=aA (Qg (mem:=mem) (a:=a+j) (n:=n-(j+1)) (by rw[h.mlen];omega) hx));(rw[show n-(j+1)+1=n-j from by omega]at H);(have e5:a+(j+1)=a+j+1:=by omega);rw[e5];generalize aP (cF mem (a+j+1) (n-(j+1)))=V at *;generalize mem.getD (a+j) 0=x at *;have HW:=aA (T3 V x);go_wp2_with fail;go_round;(case rel=>exact ⟨j,by omega,rfl,by rw[aH V,HW.out,<-H.out]⟩);case measure=>simp[intOf]
def aV.to {q j:List Int} {u:Int} (h:aV T b mem regs pc w0 i w) (A:b<w0.heap.size) (y:aK T b q j u w') (v:aN b w w'):aV T b q j u w0 i w':=
 ⟨y,h.i.kept v (by omega),h.e.kept v (by omega),h.k.trans v⟩
def aV.set (h:aV T b mem regs pc w0 i w) (j:b<w0.heap.size) (v):aV T b mem regs v w0 i (w.setCell ⟨b,4128,none⟩ (.int .i64 v)):=
 h.to j (h.m.setP v) (aN.setCell b w _ _)
def aV.fin (h:aV T b mem regs pc w0 i w) (j:b<w0.heap.size) (x y):aK T b mem regs pc ((w.setCell ⟨w0.heap.size+1,0,none⟩ x).setCell ⟨w0.heap.size+1,1,none⟩ y)/\aN b w0 ((w.setCell ⟨w0.heap.size+1,0,none⟩ x).setCell ⟨w0.heap.size+1,1,none⟩ y):=
 (kg h j h.m (aN.refl b w)).2.2 x y
def Nd (b k rd r1 r2:Nat) (imm:Int) (n:Nat) (p:Nat) (w:World) (h:aK T b mem regs (p:Int) w) (hk:k<64) (hr:right ⟨(k:Int)+1,rd,r1,r2,imm⟩=true) (hd:rd<32) (h1:r1<32) (h2:r2<32) (a1:dH imm) (a2:∀k,dH (regs.getD k 0)) (hp:p<=4094) (hn:n<=4):
    Calls prog 179 #[.pointer (some ⟨b,0,none⟩),(aE.mk ((k:Int)+1) rd r1 r2 imm).val,.int .i64 n] w (jY T b (fJ ⟨(k:Int)+1,rd,r1,r2,imm⟩ mem regs p ((p:Int)+n)) w):=by
 have Q:=h.lt;have HM:=aA (aV.new h [.int .i64 ((k:Int)+1),.int .i64 rd,.int .i64 r1,.int .i64 r2,.int .i64 imm] 26 56);obtain ⟨i0,_,i2,i3⟩:=kt HM.out.i.2.2;have m1:=HM.out.m.cellR r1 h1;have m2:=HM.out.m.cellR r2 h2;have mp:=HM.out.m.cellP;have mb:=HM.out.m.lt;have ca:(k:Int)<64:=by omega
 have cj:IntKind.i64.wrap (k:Int)=(k:Int):=zw _ (by omega)
 have cc:(r1:Int)<32:=by omega
 have ce:(r2:Int)<32:=by omega
 have cf:IntKind.i64.wrap ((p:Int)+n)=(p:Int)+n:=zw _ (by omega)
 obtain ⟨M,F⟩:∃x,Hid (regs.getD r1 0=x):=⟨_,aA rfl⟩;obtain ⟨N,E⟩:∃x,Hid (regs.getD r2 0=x):=⟨_,aA rfl⟩;rw[F.out]at m1;rw[E.out]at m2;obtain ⟨R,J⟩:∃x,Hid (fJ ⟨(k:Int)+1,rd,r1,r2,imm⟩ mem regs p ((p:Int)+n)=x):=⟨_,aA rfl⟩;rw[J.out];go_in;unfold aE.val;simp only;go_wp2_with fail;go_quiet (fail);go_wp2_with fail;generalize az:World.drewN _ nq=W1;have ay:aV T b mem regs p w [.int .i64 ((k:Int)+1),.int .i64 rd,.int .i64 r1,.int .i64 r2,.int .i64 imm] W1:=by rw[<-az];exact HM.out.drewN nq
 clear az HM i0 i2 i3 m1 m2 mp mb;have W:=aA ay;clear ay;have i3:=W.out.i.2.2 3 _ rfl;have m2:=W.out.m.cellR r2 h2;rw[E.out]at m2;have mb:=W.out.m.lt;have ah:=W.out.i.1;go_wp2_with fail;go_quiet (fail);generalize a0:World.drewN _ nq=W2;have ac:Hid (aV T b mem regs p w [.int .i64 ((k:Int)+1),.int .i64 rd,.int .i64 r1,.int .i64 r2,.int .i64 imm] W2):=aA (by rw[<-a0];exact W.out.drewN nq)
 clear a0 W i3 m2 mb ah;have i0:=ac.out.i.2.2 0 _ rfl;have ah:=ac.out.i.1;have U:=ac.out.e.1;go_wp2_with fail;go_cut [9] (λ q wx=>q=.int .u8 (row k).kind/\aV T b mem regs p w [.int .i64 ((k:Int)+1),.int .i64 rd,.int .i64 r1,.int .i64 r2,.int .i64 imm] wx)
 case first=>
  as_aux_lemma=>
   go_region_with (go_at_call 157;refine (ox _).mono ?_;rintro e w' ⟨C,hC,rfl,rfl⟩;obtain ⟨c0,c1,c2,c3,c4⟩:=hC k (by omega))
   all_goals (go_wp2_with fail;go_meet)
   all_goals exact ⟨by first|rfl|simp,ac.out.next (aJ.drew)⟩
 case rest=>
  obtain ⟨rfl,D⟩:=hcut;have H:=aA D;clear D ac i0 ah U;obtain ⟨i0,i1,_,_,i4⟩:=bF H.out.i.2.2;have ah:=H.out.i.1;have U:=H.out.e.1;obtain ⟨f0,f1⟩:=bE H.out.e.2.2;have ff:=H.out.e.2.1;have mp:=H.out.m.cellP;have a4:=H.out.m.cellR 17 (by omega)
  have mb:=H.out.m.lt;have mf:=H.out.m.frozen;go_upto_block 0 with fail;go_cut [9,10,11,12] (λ _ q _ _ wx=>∃m' r' p',R=((0,0),m',r',p')/\q=.int .i64 p'/\aV T b m' r' p w [.int .i64 ((k:Int)+1),.int .i64 rd,.int .i64 r1,.int .i64 r2,.int .i64 imm] wx)
  case first=>
   (have e2:((k:Int)+1).toNat=k+1:=by omega);have D:=H.out;obtain ⟨_,_,i2,i3⟩:=kt D.i.2.2;have Y:=aA (F.out ▸ a2 r1);have ae:=aA (E.out ▸ a2 r2);(have Z:Hid (∀v w' {mem regs:List Int},aK T b mem regs p w'->Calls prog 176 #[.pointer (some ⟨b,0,none⟩),.int .i64 rd,.int .i64 v] w' λ e u=>e=.returned (.tuple #[])/\aK T b mem (eC regs rd v) p u/\aN b w' u):=aA (λ v w' _ _ hM=>vF b rd v w' hM hd));by_cases c1:k<28
   .as_aux_lemma=>
     have I:Hid (R=((0,0),mem,eC regs rd (comp (k+1) M N),(p:Int)+n)):=aA (by
      rw[<-J.out];unfold fJ;simp only[Int.toNat_natCast,F.out,E.out,e2];rw[zt (by omega)])
     (have am:Hid (∀w',Calls prog 217 #[.int .i64 ((k:Int)+1),.int .i64 M,.int .i64 N] w' λ e u=>e=.returned (.int .i64 (comp (k+1) M N))/\Below w'.heap.size w' u):=aA (λ w'=>CT (k+1) (by omega) (by omega) M N w' Y.out.1 Y.out.2 ae.out.1 ae.out.2));have L:=AR k c1;rw[L];(have n1:¬(k:Int)+1=64:=by omega);(have n2:¬(k:Int)+1=63:=by omega);(have n3:¬(k:Int)+1=60:=by omega);(have n4:¬(k:Int)+1=61:=by omega);(have n5:¬(k:Int)+1=62:=by omega);(have n6:¬(k:Int)+1=49:=by omega);generalize comp (k+1) M N=V at *;go_wp2_with fail
     go_region_held3 (λ w'=>w'.cell? ⟨w.heap.size,0,none⟩=some (.int .i64 ((k:Int)+1))/\w'.cell? ⟨w.heap.size,1,none⟩=some (.int .i64 rd)/\w'.cell? ⟨w.heap.size,4,none⟩=some (.int .i64 imm)) (go_keep)
      (first
       | (go_at_call 217;refine zK (am.out _) λ w' ao=>?_;have aq:=aV.next (by first|exact D|exact aV.drewN D _) ao;obtain ⟨q0,q1,_,_,q4⟩:=bF aq.i.2.2)
       | (go_at_call 176;refine (Z.out _ _ (aV.m (by first|assumption|exact aV.drewN (by assumption) _))).mono ?_;rintro e u ⟨rfl,A,y⟩;have j:=aV.to (by first|assumption|exact aV.drewN (by assumption) _) Q A y;obtain ⟨q0,q1,_,_,q4⟩:=bF j.i.2.2))
     go_wp2_with fail;go_meet;case rel=>exact ⟨_,_,_,I.out,rfl,j⟩
   by_cases c2:k<41
   .as_aux_lemma=>
     have I:Hid (R=((0,0),mem,eC regs rd (comp (k+1) M imm),(p:Int)+n)):=aA (by
      rw[<-J.out];unfold fJ;simp only[Int.toNat_natCast,F.out,E.out,e2];rw[aC (by omega),zt (by omega)])
     (have am:Hid (∀w',Calls prog 217 #[.int .i64 ((k:Int)+1),.int .i64 M,.int .i64 imm] w' λ e u=>e=.returned (.int .i64 (comp (k+1) M imm))/\Below w'.heap.size w' u):=aA (λ w'=>CT (k+1) (by omega) (by omega) M imm w' Y.out.1 Y.out.2 a1.1 a1.2));(have n1:¬(k:Int)+1=64:=by omega);(have n2:¬(k:Int)+1=63:=by omega);(have n3:¬(k:Int)+1=60:=by omega);(have n4:¬(k:Int)+1=61:=by omega);(have n5:¬(k:Int)+1=62:=by omega);(have n6:¬(k:Int)+1=49:=by omega);generalize comp (k+1) M imm=V at *;rcases GS k c2 (by omega) with L|L|L
     all_goals
      rw[L];go_wp2_with fail
      go_region_held3 (λ w'=>w'.cell? ⟨w.heap.size,0,none⟩=some (.int .i64 ((k:Int)+1))/\w'.cell? ⟨w.heap.size,1,none⟩=some (.int .i64 rd)/\w'.cell? ⟨w.heap.size,4,none⟩=some (.int .i64 imm)) (go_keep)
       (first
        | (go_at_call 217;refine zK (am.out _) λ w' ao=>?_;have aq:=aV.next (by first|exact D|exact aV.drewN D _) ao;obtain ⟨q0,q1,_,_,q4⟩:=bF aq.i.2.2)
        | (go_at_call 176;refine (Z.out _ _ (aV.m (by first|assumption|exact aV.drewN (by assumption) _))).mono ?_;rintro e u ⟨rfl,A,y⟩;have j:=aV.to (by first|assumption|exact aV.drewN (by assumption) _) Q A y;obtain ⟨q0,q1,_,_,q4⟩:=bF j.i.2.2))
      go_wp2_with fail;go_meet;case rel=>exact ⟨_,_,_,I.out,rfl,j⟩
   by_cases c3:k=48
   .as_aux_lemma=>
     subst c3;have bg:=vj (M+imm);obtain ⟨ad,O⟩:∃x,Hid (IntKind.i64.wrap (M+imm)=x):=⟨_,aA rfl⟩;rw[O.out]at bg
     have I:Hid (R=((0,0),mem,eC regs rd ((p:Int)+n),ad-ad%2)):=aA (by
      rw[<-J.out];unfold fJ;simp only[Int.toNat_natCast,F.out,E.out,e2];rw[aC (by omega),aC (by omega),zt (by omega),O.out])
     have hA2:wrap64 (M+imm)=ad:=(aH _).trans O.out;have hA1:=O.out;(have hq:bits .and .i64 ad 1=ad%2:=(pA ad 1 (by omega)).trans (by rw[show (2:Int)^1=2 from by decide]));(have bi:IntKind.i64.wrap (ad-ad%2)=ad-ad%2:=zw _ (by omega));have cb:wrap64 (ad-ad%2)=ad-ad%2:=(aH _).trans bi;clear O;(go_wp2_with (go_at_call 176;refine (Z.out _ _ (aV.m (by first|assumption|exact aV.drewN (by assumption) _))).mono ?_;rintro e u ⟨rfl,A,y⟩;have j:=aV.to (by first|assumption|exact aV.drewN (by assumption) _) Q A y;obtain ⟨q0,q1,_,_,q4⟩:=bF j.i.2.2));go_meet;case rel=>exact ⟨_,_,_,I.out,rfl,j⟩
   by_cases c4:k<48
   .as_aux_lemma=>
     (have L:=Aq k c4 (by omega));(have n1:¬(k:Int)+1=64:=by omega);(have n2:¬(k:Int)+1=63:=by omega);(have n3:¬(k:Int)+1=60:=by omega);(have n4:¬(k:Int)+1=61:=by omega);(have n5:¬(k:Int)+1=62:=by omega);(have n6:¬(k:Int)+1=49:=by omega);obtain ⟨ad,O⟩:∃x,Hid (IntKind.i64.wrap (M+imm)=x):=⟨_,aA rfl⟩;have hA1:=O.out;have hA2:wrap64 (M+imm)=ad:=(aH _).trans O.out;rw[L];by_cases hh:bA ad (bN ((k:Int)+1))=false
     .have I:Hid (R=((3,ad),mem,regs,(p:Int))):=aA (by
       rw[<-J.out];unfold fJ;simp only[Int.toNat_natCast,F.out,E.out,e2,O.out];rw[aC (by omega),aC (by omega),aC (by omega),zt (by omega),zt hh])
      (have K:Hid (∀w',aK T b mem regs p w'->Calls prog 216 #[.pointer (some ⟨b,0,none⟩),(aE.mk ((k:Int)+1) rd r1 r2 imm).val,.int .i64 ad,.int .i64 N] w' λ e u=>e=.returned (.bool false)/\aK T b mem regs p u/\aN b w' u):=aA (λ w' hM=>Cf b ⟨(k:Int)+1,rd,r1,r2,imm⟩ ad N w' hM hh));unfold aE.val at K;clear O hh;go_wp2_with (go_at_call 216;refine (K.out _ D.m).mono ?_;rintro e u ⟨rfl,A,y⟩;have j:=aV.to D Q A y;obtain ⟨q0,q1,_,_,q4⟩:=bF j.i.2.2;obtain ⟨f0,f1⟩:=bE j.e.2.2;have ff:=j.e.2.1;have U:=j.e.1);(refine zp (v:=aO 3 ad) (by simp[results,results179,go_sem,aO,f0,f1]) rfl ?_);rw[I.out];exact ⟨rfl,j.fin Q _ _⟩
     (have af:0<=ad/\ad<=4096-(bN ((k:Int)+1):Int):=by simpa[bA] using hh);have hz:=mQ ((k:Int)+1);obtain ⟨a,rfl⟩:=zi af.1
     have I:Hid (R=((0,0),mem,(eC regs rd (ir ((k:Int)+1) (bY mem a (bN ((k:Int)+1))))),(p:Int)+n)):=aA (by
      rw[<-J.out];unfold fJ;simp only[Int.toNat_natCast,F.out,E.out,e2,O.out];rw[aC (by omega),aC (by omega),aC (by omega),zt (by omega),aC hh,zt (by omega)])
     (have K:Hid (∀w',aK T b mem regs p w'->Calls prog 216 #[.pointer (some ⟨b,0,none⟩),(aE.mk ((k:Int)+1) rd r1 r2 imm).val,.int .i64 a,.int .i64 N] w' λ e u=>e=.returned (.bool true)/\aK T b mem (eC regs rd (ir ((k:Int)+1) (bY mem a (bN ((k:Int)+1))))) p u/\aN b w' u):=aA (λ w' hM=>Qz b k a rd r1 r2 imm N w' hM (by omega) (by omega) (by omega) hd));unfold aE.val at K;clear O hh af hz;generalize hG:eC regs rd (ir ((k:Int)+1) (bY mem a (bN ((k:Int)+1))))=G at I K;clear hG;go_wp2_with (go_at_call 216;refine (K.out _ D.m).mono ?_;rintro e u ⟨rfl,A,y⟩;have j:=aV.to D Q A y;obtain ⟨q0,q1,_,_,q4⟩:=bF j.i.2.2;obtain ⟨f0,f1⟩:=bE j.e.2.2;have ff:=j.e.2.1;have U:=j.e.1);go_meet;case rel=>exact ⟨_,_,_,I.out,rfl,j⟩
   by_cases c5:k<53
   .as_aux_lemma=>
     (have L:=AN k c5 (by omega));(have n1:¬(k:Int)+1=64:=by omega);(have n2:¬(k:Int)+1=63:=by omega);(have n3:¬(k:Int)+1=60:=by omega);(have n4:¬(k:Int)+1=61:=by omega);(have n5:¬(k:Int)+1=62:=by omega);(have n6:¬(k:Int)+1=49:=by omega);obtain ⟨ad,O⟩:∃x,Hid (IntKind.i64.wrap (M+imm)=x):=⟨_,aA rfl⟩;have hA1:=O.out;have hA2:wrap64 (M+imm)=ad:=(aH _).trans O.out;rw[L];by_cases hh:bA ad (bN ((k:Int)+1))=false
     .have I:Hid (R=((3,ad),mem,regs,(p:Int))):=aA (by
       rw[<-J.out];unfold fJ;simp only[Int.toNat_natCast,F.out,E.out,e2,O.out];rw[aC (by omega),aC (by omega),aC (by omega),zt (by omega),zt hh])
      (have K:Hid (∀w',aK T b mem regs p w'->Calls prog 216 #[.pointer (some ⟨b,0,none⟩),(aE.mk ((k:Int)+1) rd r1 r2 imm).val,.int .i64 ad,.int .i64 N] w' λ e u=>e=.returned (.bool false)/\aK T b mem regs p u/\aN b w' u):=aA (λ w' hM=>Cf b ⟨(k:Int)+1,rd,r1,r2,imm⟩ ad N w' hM hh));unfold aE.val at K;clear O hh;go_wp2_with (go_at_call 216;refine (K.out _ D.m).mono ?_;rintro e u ⟨rfl,A,y⟩;have j:=aV.to D Q A y;obtain ⟨q0,q1,_,_,q4⟩:=bF j.i.2.2;obtain ⟨f0,f1⟩:=bE j.e.2.2;have ff:=j.e.2.1;have U:=j.e.1);(refine zp (v:=aO 3 ad) (by simp[results,results179,go_sem,aO,f0,f1]) rfl ?_);rw[I.out];exact ⟨rfl,j.fin Q _ _⟩
     (have af:0<=ad/\ad<=4096-(bN ((k:Int)+1):Int):=by simpa[bA] using hh);have hz:=mQ ((k:Int)+1);obtain ⟨a,rfl⟩:=zi af.1
     have I:Hid (R=((0,0),(eH mem a (bR (bN ((k:Int)+1)) N)),regs,(p:Int)+n)):=aA (by
      rw[<-J.out];unfold fJ;simp only[Int.toNat_natCast,F.out,E.out,e2,O.out];rw[aC (by omega),aC (by omega),aC (by omega),zt (by omega),aC hh,aC (by omega)])
     (have K:Hid (∀w',aK T b mem regs p w'->Calls prog 216 #[.pointer (some ⟨b,0,none⟩),(aE.mk ((k:Int)+1) rd r1 r2 imm).val,.int .i64 a,.int .i64 N] w' λ e u=>e=.returned (.bool true)/\aK T b (eH mem a (bR (bN ((k:Int)+1)) N)) regs p u/\aN b w' u):=aA (λ w' hM=>QK b k a rd r1 r2 imm N w' hM (by omega) (by omega) (by omega) ae.out));unfold aE.val at K;clear O hh af hz;generalize hG:eH mem a (bR (bN ((k:Int)+1)) N)=G at I K;clear hG;go_wp2_with (go_at_call 216;refine (K.out _ D.m).mono ?_;rintro e u ⟨rfl,A,y⟩;have j:=aV.to D Q A y;obtain ⟨q0,q1,_,_,q4⟩:=bF j.i.2.2;obtain ⟨f0,f1⟩:=bE j.e.2.2;have ff:=j.e.2.1;have U:=j.e.1);go_meet;case rel=>exact ⟨_,_,_,I.out,rfl,j⟩
   by_cases c6:k<59
   .as_aux_lemma=>
     (have L:=Hx k c6 (by omega));(have n1:¬(k:Int)+1=64:=by omega);(have n2:¬(k:Int)+1=63:=by omega);(have n3:¬(k:Int)+1=60:=by omega);(have n4:¬(k:Int)+1=61:=by omega);(have n5:¬(k:Int)+1=62:=by omega);have n6:¬(k:Int)+1=49:=by omega
     have I:Hid (R=((0,0),mem,regs,if lP ((k:Int)+1) M N=true then IntKind.i64.wrap ((p:Int)+imm) else (p:Int)+n)):=aA (by
      rw[<-J.out];unfold fJ;simp only[Int.toNat_natCast,F.out,E.out,e2];rw[aC (by omega),aC (by omega),aC (by omega),aC (by omega),zt (by omega)])
     (have ax:Hid (∀w',Calls prog 215 #[.int .i64 ((k:Int)+1),.int .i64 M,.int .i64 N] w' λ e u=>e=.returned (.bool (lP ((k:Int)+1) M N))/\u=w'):=aA (λ w'=>OJ (k+1) (by omega) (by omega) M N w' Y.out.1 Y.out.2 ae.out.1 ae.out.2));rw[L];generalize lP ((k:Int)+1) M N=g at *;cases g
     .go_wp2_with (go_at_call 215;refine (ax.out _).mono ?_;rintro e w' ⟨rfl,rfl⟩)
      go_meet;case rel=>exact ⟨_,_,_,I.out,rfl,H.out⟩
     go_wp2_with (go_at_call 215;refine (ax.out _).mono ?_;rintro e w' ⟨rfl,rfl⟩);go_quiet (fail);go_wp2_with fail;go_meet;case rel=>exact ⟨_,_,_,I.out,by simp[aH],H.out.drewN nq⟩
   by_cases c7:k=59
   .as_aux_lemma=>
     subst c7
     have I:Hid (R=((0,0),mem,eC regs rd (IntKind.i64.wrap (imm*4096)),(p:Int)+n)):=aA (by
      rw[<-J.out];unfold fJ;simp only[Int.toNat_natCast,F.out,E.out,e2];rw[aC (by omega),aC (by omega),aC (by omega),aC (by omega),aC (by omega),zt (by omega)])
     have hA2:wrap64 (imm*4096)=IntKind.i64.wrap (imm*4096):=aH _;(go_wp2_with (go_at_call 176;refine (Z.out _ _ (aV.m (by first|assumption|exact aV.drewN (by assumption) _))).mono ?_;rintro e u ⟨rfl,A,y⟩;have j:=aV.to (by first|assumption|exact aV.drewN (by assumption) _) Q A y;obtain ⟨q0,q1,_,_,q4⟩:=bF j.i.2.2));go_meet;case rel=>exact ⟨_,_,_,I.out,rfl,by rw[<-aH];exact j⟩
   by_cases c8:k=60
   .as_aux_lemma=>
     subst c8
     have I:Hid (R=((0,0),mem,eC regs rd (IntKind.i64.wrap ((p:Int)+IntKind.i64.wrap (imm*4096))),(p:Int)+n)):=aA (by
      rw[<-J.out];unfold fJ;simp only[Int.toNat_natCast,F.out,E.out,e2];rw[aC (by omega),aC (by omega),aC (by omega),aC (by omega),aC (by omega),aC (by omega),zt (by omega)])
     go_wp2_with fail
     go_region_held3 (λ w'=>w'.cell? ⟨w.heap.size,0,none⟩=some (.int .i64 (((60:Nat):Int)+1))/\w'.cell? ⟨w.heap.size,1,none⟩=some (.int .i64 rd)/\w'.cell? ⟨w.heap.size,4,none⟩=some (.int .i64 imm)/\w'.cell? ⟨b,4128,none⟩=some (.int .i64 p)) (go_keep)
      (first|(go_at_call 176;refine (Z.out _ _ (aV.m (by first|assumption|exact aV.drewN (by assumption) _))).mono ?_;rintro e u ⟨rfl,A,y⟩;have j:=aV.to (by first|assumption|exact aV.drewN (by assumption) _) Q A y;have mp:=j.m.cellP;obtain ⟨q0,q1,_,_,q4⟩:=bF j.i.2.2))
     go_wp2_with fail;go_meet;case rel=>exact ⟨_,_,_,I.out,rfl,j⟩
   by_cases c9:k=61
   .as_aux_lemma=>
     subst c9
     have I:Hid (R=((0,0),mem,eC regs rd ((p:Int)+n),IntKind.i64.wrap ((p:Int)+imm))):=aA (by
      rw[<-J.out];unfold fJ;simp only[Int.toNat_natCast,F.out,E.out,e2];rw[aC (by omega),aC (by omega),aC (by omega),aC (by omega),aC (by omega),aC (by omega),aC (by omega),zt (by omega)])
     (go_wp2_with (go_at_call 176;refine (Z.out _ _ (aV.m (by first|assumption|exact aV.drewN (by assumption) _))).mono ?_;rintro e u ⟨rfl,A,y⟩;have j:=aV.to (by first|assumption|exact aV.drewN (by assumption) _) Q A y;have mp:=j.m.cellP;have mb:=j.m.lt;obtain ⟨q0,q1,_,_,q4⟩:=bF j.i.2.2));go_quiet (fail);go_wp2_with fail;go_meet;case rel=>exact ⟨_,_,_,I.out,by rw[aH],j.drewN nq⟩
   by_cases bf:k=62
   .as_aux_lemma=>
     subst bf
     have I:Hid (R=((4,regs.getD 17 0),mem,regs,(p:Int)+n)):=aA (by
      rw[<-J.out];unfold fJ;simp only[Int.toNat_natCast,F.out,E.out,e2];rw[aC (by omega),aC (by omega),aC (by omega),aC (by omega),aC (by omega),aC (by omega),aC (by omega),aC (by omega),zt (by omega)])
     have HE:=aA (D.set Q ((p:Int)+n));(have ar:w.heap.size+1≠b:=by omega);(have ag:b≠w.heap.size+1:=by omega);obtain ⟨X,HX⟩:∃x,Hid (regs.getD 17 0=x):=⟨_,aA rfl⟩;rw[HX.out]at a4 I;go_wp2;(refine zp (v:=aO 4 X) (by simp[results,results179,go_sem,aO,f0,f1,ar,ag]) rfl ?_);rw[I.out];exact ⟨rfl,HE.out.fin Q _ _⟩
   obtain rfl:k=63:=by omega
   have I:Hid (R=((5,(p:Int)),mem,regs,(p:Int))):=aA (by
    rw[<-J.out];unfold fJ;simp only[Int.toNat_natCast,F.out,E.out,e2];rw[aC (by omega),aC (by omega),aC (by omega),aC (by omega),aC (by omega),aC (by omega),aC (by omega),aC (by omega),aC (by omega)])
   go_wp2;(refine zp (v:=aO 5 p) (by simp[results,results179,go_sem,aO,f0,f1]) rfl ?_);rw[I.out];exact ⟨rfl,H.out.fin Q _ _⟩
  case rest=>
   as_aux_lemma=>
    obtain ⟨m',r',p',rfl,rfl,P⟩:=hcut;clear H i0 i1 i4 ah U f0 f1 ff mp a4 mb mf;have mb:=P.m.lt;have mf:=P.m.frozen;have mp:=P.m.cellP;have U:=P.e.1;obtain ⟨f0,f1⟩:=bE P.e.2.2;have ff:=P.e.2.1;(have ar:w.heap.size+1≠b:=by omega);(have ag:b≠w.heap.size+1:=by omega);have be:=aA (P.set Q p');clear P;go_wp2;(refine zp (v:=aO 0 0) (by simp[results,results179,go_sem,aO,f0,f1,ar,ag]) rfl ⟨rfl,?_⟩);exact be.out.fin Q _ _
