import Derived.Test.YtbmcofdodfcnnaaGreatDoorGW10
set_option linter.all false
set_option maxHeartbeats 0
set_option maxRecDepth 100000
namespace Go
open Proofs.Tryz RowKit
variable {vs f x : List Value} {w V V' : World} {bx i k : Nat}
def Mw (w):
    Calls prog 165 #[] w λ e w'=>e=.returned (.slice (some ⟨w.heap.size,0,none⟩) 32 32)/\w'=w.alloc (.cells uo 230):=
 DE _ _ func165 rfl (by kernel_rfl)
def Dj (w):
    Calls prog 165 #[] w λ e w'=>∃C,vJ C/\e=.returned (.slice (some ⟨w.heap.size,0,none⟩) 32 32)/\w'=w.alloc (.cells C 230):=
 (Mw w).mono λ _ _ h=>⟨_,Uo,h⟩
def DQ (F H) (c) (w) (hF:F.size=16) (O:H.size=16):
    zS prog 242 #[.string F,.string H,.int .u8 c] w (.int .i64 (dV F H c)):=by
 unfold zS;have J:=iF F;have K:=iF H;have I:=aB (vh F c w (by omega))
 go_in;go_wp2_with fail;go_loop [7,8] (λ n i=>∃k:Nat,k<=16/\i=.int .i64 k/\n=.int .i64 (fI F H c k)) (λ _ i=>16-(intOf i).toNat)
 case atStart=>exact ⟨0,by omega,rfl,rfl⟩
 case round=>
  obtain ⟨k,L,rfl,rfl⟩:=hrel;have P:=MO F H c k L;by_cases M:k<16
  .have Q:=(B H k).toNat_lt
   by_cases A:(((B F k).toNat:Int)==c)=true
   .have v:=aB (O7 (H:=H) A)
    generalize h:fI F H c k=N at *;have E:=aB h;clear h;go_wp2_with fail;go_round;(case rel=>exact ⟨k+1,by omega,by go_num,by rw[aM v]⟩);case measure=>simp[intOf];omega
   (have C:(((B F k).toNat:Int)==c)=false:=by simpa using A);clear A;have v:=aB (T2 (H:=H) C);generalize h:fI F H c k=N at *;have E:=aB h;clear h;go_wp2_with fail;go_round;(case rel=>exact ⟨k+1,by omega,by go_num,by rw[aM v]⟩);case measure=>simp[intOf];omega
  have D:k=16:=by omega
  subst D;have G:=aB (show dV F H c=if aR F c F.size=3 then fI F H c 16+8 else fI F H c 16 from rfl)
  generalize h:fI F H c 16=N at *;have E:=aB h;clear h;go_wp2_with fail;refine zk I.out ?_;by_cases u:aR F c F.size=3
  .have y:(aR F c F.size==3)=true:=by simpa using u
   have j:=aB (G.out.trans (zt u));generalize aR F c F.size=q at *;go_wp2;go_ret;exact ⟨fZ j.out.symm,rfl⟩
  have y:(aR F c F.size==3)=false:=by simpa using u
  have j:=aB (G.out.trans (aC u));generalize aR F c F.size=q at *;go_wp2;go_ret;exact ⟨fZ j.out.symm,rfl⟩
def FP (F H) (sg) (o a b c d) (w) (hF:F.size=16) (hH:H.size=16) (K:rp H):
    aG prog 212 #[.agg #[.string F,o,a,b,c,.bool sg,d],.string H] w (.int .i64 (lM F H sg)):=by
 unfold aG;have af:=iF F;have ag:=iF H;have HP:=aB (λ k w J G=>ke k w J G)
 have HS:=aB (λ n s w J G T h3=>si n s w J G T h3)
 have c0:(w.alloc (.cells #[.string F,o,a,b,c,.bool sg,d] 230)).cell? ⟨w.heap.size,0,none⟩=some (.string F):=by go_simp
 have c5:(w.alloc (.cells #[.string F,o,a,b,c,.bool sg,d] 230)).cell? ⟨w.heap.size,5,none⟩=some (.bool sg):=by go_simp
 have L:w.heap.size<(w.alloc (.cells #[.string F,o,a,b,c,.bool sg,d] 230)).heap.size:=by simp
 have j:Hid (Below w.heap.size w (w.alloc (.cells #[.string F,o,a,b,c,.bool sg,d] 230))):=aJ;go_in;go_wp2_with fail;generalize (w.alloc (.cells #[.string F,o,a,b,c,.bool sg,d] 230))=w1 at *;go_loopw [5,6,7] (λ n m i wr=>∃k:Nat,k<=16/\i=.int .i64 k/\n=.int .i64 (il F H k)/\m=.int .i64 (gA F k)/\Below w1.heap.size w1 wr) (λ _ _ i _=>16-(intOf i).toNat)
 case atStart=>exact ⟨0,by omega,rfl,rfl,rfl,aU⟩
 case round=>
  obtain ⟨k,hk,rfl,rfl,rfl,P⟩:=hrel;have d0:wr.cell? ⟨w.heap.size,0,none⟩=some (.string F):=(P.cell (p:=⟨w.heap.size,0,none⟩) L).trans c0;have d5:wr.cell? ⟨w.heap.size,5,none⟩=some (.bool sg):=(P.cell (p:=⟨w.heap.size,5,none⟩) L).trans c5;have E:=aB P;clear P c0 c5;have hb:=Gw F H K k hk;have hm:=Gl F k;by_cases X:k<16
  .have hd:=K k X
   by_cases O:kC F k=true
   .have I:65<=((B F k).toNat:Int)/\((B F k).toNat:Int)<=90:=by simpa[kC] using O
    (have hp:=Fi (k:=((B F k).toNat:Int)-65) (by omega) (by omega));have q:=aB (Ot (H:=H) O);(have y:=aB (λ h=>Mj O h));(have Q:=aB (λ h=>MN O h));generalize D:il F H k=N at *;generalize C:gA F k=M at *;have Z:=aB D;have Y:=aB C;clear D C;have U:=I.1;have V:=I.2
    have hx:0<=cB (((B F k).toNat:Int)-65)*(((B H k).toNat:Int)-48)/\cB (((B F k).toNat:Int)-65)*(((B H k).toNat:Int)-48)<=33554432:=by
     rcases hd with e|e<;>rw[e]<;>omega
    (have wa:IntKind.i64.wrap (((B H k).toNat:Int)-48)=((B H k).toNat:Int)-48:=zw _ (by omega));(have wb:IntKind.i64.wrap (cB (((B F k).toNat:Int)-65)*(((B H k).toNat:Int)-48))=cB (((B F k).toNat:Int)-65)*(((B H k).toNat:Int)-48):=zw _ (by omega));(have wc:IntKind.i64.wrap (N+cB (((B F k).toNat:Int)-65)*(((B H k).toNat:Int)-48))=N+cB (((B F k).toNat:Int)-65)*(((B H k).toNat:Int)-48):=zw _ (by omega));by_cases v:((B F k).toNat:Int)-65+1>M
    .go_wp2_with fail
     (go_quiet ((go_at_call 158;exact Calls.quiet_of_same (ke _ _ (by omega) (by omega)))));go_wp2;go_roundw;(case rel=>exact ⟨k+1,by omega,by go_num,by rw[aM q],by rw[y.out v],below_drewN E.out _⟩);case measure=>simp[intOf];omega
    go_wp2_with fail;(go_quiet ((go_at_call 158;exact Calls.quiet_of_same (ke _ _ (by omega) (by omega)))));go_wp2;go_roundw;(case rel=>exact ⟨k+1,by omega,by go_num,by rw[aM q],by rw[Q.out v],below_drewN E.out _⟩);case measure=>simp[intOf];omega
   have A:kC F k=false:=by simpa using O
   have I:¬65<=((B F k).toNat:Int)\/¬((B F k).toNat:Int)<=90:=by
    rcases Decidable.em (65<=((B F k).toNat:Int)) with G|G
    .right;intro T;rw[kC,decide_eq_true G,decide_eq_true T]at A;cases A
    exact .inl G
   have q:=aB (Rv (H:=H) A);have y:=aB (SU A);generalize D:il F H k=N at *;generalize C:gA F k=M at *;have Z:=aB D;have Y:=aB C;clear D C;by_cases U:65<=((B F k).toNat:Int)
   .have V:¬((B F k).toNat:Int)<=90:=by omega
    go_wp2;go_roundw;(case rel=>exact ⟨k+1,by omega,by go_num,by rw[aM q],by rw[aM y],E.out⟩);case measure=>simp[intOf];omega
   go_wp2;go_roundw;(case rel=>exact ⟨k+1,by omega,by go_num,by rw[aM q],by rw[aM y],E.out⟩);case measure=>simp[intOf];omega
  have W:k=16:=by omega
  subst W;have R:=aB (show lM F H sg=if sg=true/\0<gA F 16 then bG (il F H 16) (gA F 16) else il F H 16 from rfl)
  generalize D:il F H 16=N at *;generalize C:gA F 16=M at *;have Z:=aB D;have Y:=aB C;clear D C;by_cases J:0<M
  .cases sg
   .have u:=aB (R.out.trans (aC (by simp)))
    go_wp2;go_ret;exact ⟨fZ u.out.symm,j.out.trans (E.out.mono j.out.size)⟩
   have u:=aB (R.out.trans (zt ⟨rfl,J⟩));go_wp2_with fail;(refine (HS.out _ _ _ (by omega) (by omega) (by omega) (by omega)).mono ?_);rintro e w' ⟨rfl,rfl⟩;go_wp2;go_ret;exact ⟨fZ u.out.symm,j.out.trans (E.out.mono j.out.size)⟩
  have u:=aB (R.out.trans (aC (by omega)))
  cases sg
  all_goals
   go_wp2;go_ret;exact ⟨fZ u.out.symm,j.out.trans (E.out.mono j.out.size)⟩
def yZ (F H s) (o a b c g d) (w) (hF:F.size=16) (O:H.size=16) (P:0<s.size):
    aG prog 211 #[.agg #[.string F,o,a,b,c,g,d],.string H,.string s] w (.int .i64 (ii F H s)):=by
 unfold aG;have N:=iF s;have G:=aB (show ii F H s=_ from rfl)
 unfold ii at G;have y:=λ (w:World) o=>(Below.refl w.heap.size w).alloc zn o
 have j:=aB y;clear y;by_cases A:(s.toList==[45])=true
 .have h:=aB (G.out.trans (zt A))
  go_in;go_wp2;go_ret;exact ⟨fZ h.out.symm,j.out _ _⟩
 have q:=aB (G.out.trans (aC A));have J:(s.toList==[45])=false:=by simpa using A
 by_cases C:(s.toList==[48])=true
 .have h:=aB (q.out.trans (zt C))
  go_in;go_wp2;go_ret;exact ⟨fZ h.out.symm,j.out _ _⟩
 have u:=aB (q.out.trans (aC C));have K:(s.toList==[48])=false:=by simpa using C
 by_cases D:(s.toList==[49])=true
 .have h:=aB (u.out.trans (zt D))
  go_in;go_wp2;go_ret;exact ⟨fZ h.out.symm,j.out _ _⟩
 have v:=aB (u.out.trans (aC D));have L:(s.toList==[49])=false:=by simpa using D
 by_cases E:(s.toList==[50])=true
 .have h:=aB (v.out.trans (zt E))
  go_in;go_wp2;go_ret;exact ⟨fZ h.out.symm,j.out _ _⟩
 have I:=aB (v.out.trans (aC E));have M:(s.toList==[50])=false:=by simpa using E
 clear A C D E;go_in;go_wp2_with fail;go_quiet ((go_at_call 242;exact Calls.quiet_of_same (DQ F H _ _ hF O)));go_wp2;go_ret;exact ⟨fZ I.out.symm,below_drewN (j.out _ _) _⟩
def oj {a b:Bool} (h:a=b):Ending.returned (.bool a)=.returned (.bool b):=by rw[h]
def TE (F H c) (sg) (o a b g) (w) (hF:F.size=16) (hH:H.size=16) (ag:rp H):
    Calls prog 210 #[.agg #[.string F,o,a,b,g,.bool sg,.string c],.string H] w λ e w'=>
     e=.returned (.bool (kj (dV F H 100) (dV F H 115) (dV F H 116) (lM F H sg) c))/\Below w.heap.size w w':=by
 have HL:=aB (λ c w=>DQ F H c w hF hH)
 have HI:=aB (λ o a b c d w=>FP F H sg o a b c d w hF hH ag)
 have HA:=aB (λ (w:World) o=>(Below.refl w.heap.size w).alloc zn o)
 go_in;go_wp2_with (first|(go_at_call 242;refine (HL.out _ _).mono ?_;rintro e w' ⟨rfl,rfl⟩));refine zK (HI.out _ _ _ _ _ _) λ w2 L=>?_;have c6:w2.cell? ⟨w.heap.size,6,none⟩=some (.string c):=(L.cell (p:=⟨w.heap.size,6,none⟩) (by show w.heap.size<_;simp)).trans (by go_simp)
 have q:=aB ((HA.out w (.cells #[.string F,o,a,b,g,.bool sg,.string c] 230)).trans (L.mono (by simp)))
 clear L;generalize qD:dV F H 100=D at *;generalize W:dV F H 115=h at *;generalize X:dV F H 116=j at *;generalize qN:lM F H sg=N at *;have J:=aB qD;have G:=aB W;have I:=aB X;have K:=aB qN;clear qD W X qN;have HR:=aB (Tm D h j N c);by_cases Y:(c.toList==[105])=true
 .have M:=aB (HR.out.trans (zt Y))
  go_wp2_with fail
  all_goals
   go_ret;(refine ⟨oj (Eq.trans ?_ (show kj D h j N c=_ by rw[aM J,aM G,aM I,aM K])),q.out⟩);rw[aM M]
   all_goals first|rfl|simp_all
 have u:=aB (HR.out.trans (aC Y));have Y:(c.toList==[105])=false:=by simpa using Y
 by_cases Z:(c.toList==[100])=true
 .have O:=aB (u.out.trans (zt Z))
  go_wp2_with fail
  all_goals
   go_ret;(refine ⟨oj (Eq.trans ?_ (show kj D h j N c=_ by rw[aM J,aM G,aM I,aM K])),q.out⟩);rw[aM O]
   all_goals first|rfl|simp_all
 have v:=aB (u.out.trans (aC Z));have Z:(c.toList==[100])=false:=by simpa using Z
 by_cases h2:(c.toList==[98,111,116,104])=true
 .have P:=aB (v.out.trans (zt h2))
  go_wp2_with fail
  all_goals
   go_ret;(refine ⟨oj (Eq.trans ?_ (show kj D h j N c=_ by rw[aM J,aM G,aM I,aM K])),q.out⟩);rw[aM P]
   all_goals first|rfl|simp_all
 have y:=aB (v.out.trans (aC h2));have h2:(c.toList==[98,111,116,104])=false:=by simpa using h2
 by_cases h3:(c.toList==[100,50,105])=true
 .have Q:=aB (y.out.trans (zt h3))
  go_wp2_with fail
  all_goals
   go_ret;(refine ⟨oj (Eq.trans ?_ (show kj D h j N c=_ by rw[aM J,aM G,aM I,aM K])),q.out⟩);rw[aM Q]
   all_goals first|rfl|simp_all
 have A:=aB (y.out.trans (aC h3));have h3:(c.toList==[100,50,105])=false:=by simpa using h3
 by_cases h4:(c.toList==[100,105])=true
 .have R:=aB (A.out.trans (zt h4))
  go_wp2_with fail
  all_goals
   go_ret;(refine ⟨oj (Eq.trans ?_ (show kj D h j N c=_ by rw[aM J,aM G,aM I,aM K])),q.out⟩);rw[aM R]
   all_goals first|rfl|simp_all
 have C:=aB (A.out.trans (aC h4));have h4:(c.toList==[100,105])=false:=by simpa using h4
 by_cases h5:(c.toList==[115])=true
 .have T:=aB (C.out.trans (zt h5))
  go_wp2_with fail
  all_goals
   go_ret;(refine ⟨oj (Eq.trans ?_ (show kj D h j N c=_ by rw[aM J,aM G,aM I,aM K])),q.out⟩);rw[aM T]
   all_goals first|rfl|simp_all
 have E:=aB (C.out.trans (aC h5));have h5:(c.toList==[115])=false:=by simpa using h5
 by_cases h6:(c.toList==[100,116])=true
 .have U:=aB (E.out.trans (zt h6))
  go_wp2_with fail
  all_goals
   go_ret;(refine ⟨oj (Eq.trans ?_ (show kj D h j N c=_ by rw[aM J,aM G,aM I,aM K])),q.out⟩);rw[aM U]
   all_goals first|rfl|simp_all
 have V:=aB (E.out.trans (aC h6));have h6:(c.toList==[100,116])=false:=by simpa using h6
 go_wp2_with fail
 all_goals
  go_ret;refine ⟨oj (Eq.trans ?_ (show kj D h j N c=_ by rw[aM J,aM G,aM I,aM K])),q.out⟩
  rw[aM V]
  all_goals first|rfl|simp_all
def Ok (w:World) (q:Int) (h:0<=q/\q<=1):(convert 65 9 (.slice (some ⟨w.heap.size,0,none⟩) 1 1)).run prog (w.alloc (.cells #[.int .u8 (48+q)] 5)) =
    .ok (.string ⟨#[UInt8.ofNat (48+q).toNat]⟩) (w.alloc (.cells #[.int .u8 (48+q)] 5)):=
 run_convert_bytes_back _ 65 9 5 ⟨w.heap.size,0,none⟩ 1 [UInt8.ofNat (48+q).toNat] underlying65 underlying5 underlying9 (λ j u=>by
  obtain rfl:j=0:=by simpa using u
  have:q=0\/q=1:=by omega
  rcases this with rfl|rfl
  .go_simp
  go_simp)
def DB (h) (w) (J:0<=h) (K:h<=65535):
    aG prog 167 #[.int .i64 h] w (.string (dP h 16)):=by
 unfold aG;go_in;go_wp2_with fail;go_loopw [3,4] (λ s i wr=>∃k:Nat,k<=16/\i=.int .i64 (15-k)/\s=.string (dP h k)/\Below w.heap.size w wr) (λ _ i _=>(intOf i+1).toNat)
 case atStart=>exact ⟨0,by omega,rfl,rfl,aU⟩
 case round=>
  obtain ⟨k,L,rfl,rfl,y⟩:=hrel;have j:=aB y;clear y;by_cases G:k<16
  .have C:=fV h (15-k) (15-k)
   have v:0<=aD h (15-k) (15-k)/\aD h (15-k) (15-k)<=1:=by
    (have e:(15-(k:Int)).toNat-(15-(k:Int)).toNat+1=1:=by omega);rw[e]at C;omega
   clear C;go_wp2_with fail;(refine (nC _ _ _ _ (by omega) (by omega) (by omega) (by omega) (by omega)).mono ?_);rintro e I ⟨rfl,rfl⟩;generalize A:aD h (15-k) (15-k)=q at *;have D:=aB A;clear A;have F:=Ok I q v;have E:=aB (Nc h k);have H:=DC h k;go_wp2;go_roundw;(case rel=>exact ⟨k+1,by omega,by go_num,by rw[aM E,aM D],j.out.alloc j.out.size _⟩);case measure=>simp[intOf];omega
  have u:k=16:=by omega
  subst u;go_wp2;go_ret;exact ⟨rfl,j.out⟩
def uG {b c:Nat} (h:aF b vs w) (A:b≠c) (q) (v):aF b vs (w.setCell ⟨c,q,none⟩ v):=by
 refine ⟨by simpa[World.setCell] using h.1,λ p=>?_,λ j u C=>?_⟩
 .rw[World.frozen?_setCell];exact h.2.1 p
 rw[World.cell?_setCell_other _ _ _ _ (by intro y;injection y with h1;exact A h1.symm)]
 exact h.2.2 j u C
structure ph (w:World) (bx:Nat) (f x:List Value) (V:World):Prop where
 f:aF w.heap.size f V
 z:aF (w.heap.size+1) [.int .i64 0,.int .i64 0,.int .i64 0,.int .i64 0,.int .i64 0] V
 x:aF bx x V
 b:Below w.heap.size w V
 lt:w.heap.size+1<bx
def ph.next (h:ph w bx f x V) (j:Below V.heap.size V V'):ph w bx f x V':=⟨h.f.next j,h.z.next j,h.x.next j,h.b.trans (j.mono h.b.size),h.lt⟩
def ph.set {j u y A C:Value} (h:ph w bx f [j,u,y,A,C] V) (q) (v) (D:q<5:=by decide):ph w bx f ([j,u,y,A,C].set q v) (V.setCell ⟨bx,q,none⟩ v):=
 ⟨uG h.f (by have:=h.lt;omega) _ _,uG h.z (by have:=h.lt;omega) _ _,h.x.set q v D,h.b.setCell (by have:=h.lt;show w.heap.size<=bx;omega) _,h.lt⟩
def AV {j:World} (h:Below w.heap.size w j) (a b c d e):Below w.heap.size w (((((j.setCell ⟨w.heap.size+1,0,none⟩ a).setCell ⟨w.heap.size+1,1,none⟩ b).setCell ⟨w.heap.size+1,2,none⟩ c).setCell ⟨w.heap.size+1,3,none⟩ d).setCell ⟨w.heap.size+1,4,none⟩ e):=
 ((((h.setCell (Nat.le_succ _) a).setCell (Nat.le_succ _) b).setCell (Nat.le_succ _) c).setCell (Nat.le_succ _) d).setCell (Nat.le_succ _) e
def MY (F H rd rs1 rs2 c) (op) (sg) (w) (hF:F.size=16) (hH:H.size=16) (al:rp H) (s1:0<rd.size) (s2:0<rs1.size) (s3:0<rs2.size):
    aG prog 168 #[.agg #[.string F,.int .i64 op,.string rd,.string rs1,.string rs2,.bool sg,.string c],.string H] w (lq (pG F H rd rs1 rs2 c op sg)):=by
 unfold aG;have HM:=aB (λ o a b g w'=>TE F H c sg o a b g w' hF hH al)
 have HB:=aB (iF F);have a1:=aB (iF H);go_in;go_wp2_with fail;obtain ⟨W1,P⟩:∃W1,(w.alloc (.cells #[.string F,.int .i64 op,.string rd,.string rs1,.string rs2,.bool sg,.string c] 230)).alloc (.cells #[.int .i64 0,.int .i64 0,.int .i64 0,.int .i64 0,.int .i64 0] 26)=W1:=⟨_,rfl⟩;have HC:Hid (aF w.heap.size [.string F,.int .i64 op,.string rd,.string rs1,.string rs2,.bool sg,.string c] W1):=aB (by rw[<-P];exact (aF.new w [.string F,.int .i64 op,.string rd,.string rs1,.string rs2,.bool sg,.string c] 230).alloc _)
 have HX:Hid (aF (w.heap.size+1) [.int .i64 0,.int .i64 0,.int .i64 0,.int .i64 0,.int .i64 0] W1):=aB (by
  rw[<-P];have:=aF.new (w.alloc (.cells #[.string F,.int .i64 op,.string rd,.string rs1,.string rs2,.bool sg,.string c] 230)) [.int .i64 0,.int .i64 0,.int .i64 0,.int .i64 0,.int .i64 0] 26;rwa[za]at this)
 have M:Hid (Below w.heap.size w W1):=aB (by rw[<-P];exact aJ.alloc (by rw[za];omega) _)
 rw[P];clear P;go_loopw [6] (λ v wr=>∃i:Nat,v=.int .i64 i/\i<=16/\kS F H i=true/\Hid (Below W1.heap.size W1 wr)) (λ v _=>16-(intOf v).toNat)
 case atStart=>exact ⟨0,rfl,by omega,rfl,aB aU⟩
 case round=>
  obtain ⟨i,rfl,hi,Q,u⟩:=hrel;have Y:=aB (HC.out.next u.out);have C:=Y.out.2.2 0 _ rfl;by_cases ax:i<16
  .have a0:(i:Int)<16:=by omega
   (have a3:(i:Int)<F.size:=by omega);(have a4:(i:Int)<H.size:=by omega);(have b1:((F[i]'(by omega)).toNat:Int)=((B F i).toNat:Int):=by rw[iF F i (by omega)]);(have b2:((H[i]'(by omega)).toNat:Int)=((B H i).toNat:Int):=by rw[iF H i (by omega)]);(have wi:IntKind.i64.wrap ((i:Int)+1)=(i:Int)+1:=zw _ (by omega));have hz:=HX.out.next u.out;obtain ⟨z0,z1,z2,z3,z4⟩:=bF hz.2.2;have zf:=hz.2.1;have ah:Hid (eK F H i=((((B F i).toNat:Int)==48||((B F i).toNat:Int)==49)&&(((B F i).toNat:Int) != ((B H i).toNat:Int)))):=aB rfl;have ak:Hid (kS F H (i+1)=(kS F H i&&!eK F H i)):=aB rfl;(have ar:=aB (λ h=>Fy (F:=F) (H:=H) (i:=i) h 16 (by omega)));(have Z:Hid (kS F H 16=false->pG F H rd rs1 rs2 c op sg=none):=aB (λ h=>by unfold pG;rw[h,aC (by decide)]));have q:=aB (M.out.trans (u.out.mono M.out.size));generalize ((B F i).toNat:Int)=x at *;generalize ((B H i).toNat:Int)=y at *;by_cases L:x=48\/x=49
   .by_cases hy:x=y
    .subst hy
     rcases L with rfl|rfl
     all_goals
      go_wp2_with fail;go_quiet (fail);go_wp2;go_roundw;(case rel=>exact ⟨i+1,by go_num,by omega,by rw[ak.out,Q,ah.out];rfl,aB (below_drewN u.out _)⟩);case measure=>simp[intOf];omega
    rcases L with rfl|rfl
    all_goals
     go_wp2_with fail;go_quiet (fail);go_wp2;refine zp (v:=lq none) (by simp[results,results168,go_sem,lq,aE.val,z0,z1,z2,z3,z4]) rfl ⟨by rw[Z.out (ar.out (by rw[ah.out];simp[hy]))],AV (below_drewN q.out _) _ _ _ _ _⟩
   (have av:¬x=49:=λ h=>L (.inr h));(replace L:¬x=48:=λ h=>L (.inl h));go_wp2_with fail;go_quiet (fail);go_wp2;go_roundw;(case rel=>exact ⟨i+1,by go_num,by omega,by rw[ak.out,Q,ah.out];simp[L,av],aB (below_drewN u.out _)⟩);case measure=>simp[intOf];omega
  have an:i=16:=by omega
  subst an;have q:=aB (M.out.trans (u.out.mono M.out.size));have hz:=HX.out.next u.out;obtain ⟨z0,z1,z2,z3,z4⟩:=bF hz.2.2;have zf:=hz.2.1;obtain ⟨_,D,E,G,I,J,K⟩:=fT Y.out.2.2;have Z:Hid (pG F H rd rs1 rs2 c op sg=if kj (dV F H 100) (dV F H 115) (dV F H 116) (lM F H sg) c=true then some (sr F H rd rs1 rs2 op sg) else none):=aB (by unfold pG;rw[zt Q])
  clear ax hi;go_wp2_with fail;refine zK (HM.out _ _ _ _ _) λ w2 aa=>?_;have q:=aB (q.out.trans (aa.mono q.out.size));have N:=aB (Y.out.next aa);have A:=aB (hz.next aa);clear aa Y hz z0 z1 z2 z3 z4 zf C D E G I J K u HX HC M HM;generalize kj (dV F H 100) (dV F H 115) (dV F H 116) (lM F H sg) c=MB at *;obtain ⟨z0,z1,z2,z3,z4⟩:=bF A.out.2.2;have zf:=A.out.2.1;cases MB
  .go_wp2
   refine zp (v:=lq none) (by simp[results,results168,go_sem,lq,aE.val,z0,z1,z2,z3,z4]) rfl ⟨by rw[Z.out];rfl,AV q.out _ _ _ _ _⟩
  obtain ⟨C,D,E,G,I,J,K⟩:=fT N.out.2.2;go_upto_region 10 with fail;have j:Hid (ph w w2.heap.size [.string F,.int .i64 op,.string rd,.string rs1,.string rs2,.bool sg,.string c] [.int .i64 op,.int .i64 0,.int .i64 0,.int .i64 0,.int .i64 0] (w2.alloc (.cells #[.int .i64 op,.int .i64 0,.int .i64 0,.int .i64 0,.int .i64 0] 26))):=aB ⟨N.out.alloc _,A.out.alloc _,aF.new w2 [.int .i64 op,.int .i64 0,.int .i64 0,.int .i64 0,.int .i64 0] 26,q.out.alloc q.out.size _,by have:=A.out.1;omega⟩
  generalize w2.alloc _=W3 at *;generalize aw:w2.heap.size=bx at *;have a5:¬w.heap.size=bx:=by have:=N.out.1;omega
  have a6:¬bx=w.heap.size:=by have:=N.out.1;omega
  have a7:¬w.heap.size+1=bx:=by have:=A.out.1;omega
  have a8:¬bx=w.heap.size+1:=by have:=A.out.1;omega
  clear z0 z1 z2 z3 z4 zf N A q aw;clear C D E G I J K;obtain ⟨C,D,E,G,I,J,K⟩:=fT j.out.f.2.2;obtain ⟨R,T,U,V,W⟩:=bF j.out.x.2.2;have X:=j.out.x.2.1;go_wp2_with fail;refine zK (yZ F H rd _ _ _ _ _ _ _ hF hH s1) λ w4 O=>?_;have j:=aB (j.out.next O);clear O;obtain ⟨C,D,E,G,I,J,K⟩:=fT j.out.f.2.2;obtain ⟨R,T,U,V,W⟩:=bF j.out.x.2.2;have X:=j.out.x.2.1;go_upto_region 11 with fail;have j:=aB (j.out.set 1 (.int .i64 (ii F H rd)));generalize World.setCell w4 _ _=V4 at *;clear C D E G I J K R T U V W X;obtain ⟨C,D,E,G,I,J,K⟩:=fT j.out.f.2.2;obtain ⟨R,T,U,V,W⟩:=bF j.out.x.2.2;have X:=j.out.x.2.1;go_wp2_with fail;refine zK (yZ F H rs1 _ _ _ _ _ _ _ hF hH s2) λ w5 O=>?_;have j:=aB (j.out.next O);clear O;obtain ⟨C,D,E,G,I,J,K⟩:=fT j.out.f.2.2;obtain ⟨R,T,U,V,W⟩:=bF j.out.x.2.2;have X:=j.out.x.2.1;go_upto_region 12 with fail;have j:=aB (j.out.set 2 (.int .i64 (ii F H rs1)));generalize World.setCell w5 _ _=V5 at *;clear C D E G I J K R T U V W X;obtain ⟨C,D,E,G,I,J,K⟩:=fT j.out.f.2.2;obtain ⟨R,T,U,V,W⟩:=bF j.out.x.2.2;have X:=j.out.x.2.1;go_wp2_with fail;refine zK (yZ F H rs2 _ _ _ _ _ _ _ hF hH s3) λ w6 O=>?_;have j:=aB (j.out.next O);clear O;obtain ⟨C,D,E,G,I,J,K⟩:=fT j.out.f.2.2;obtain ⟨R,T,U,V,W⟩:=bF j.out.x.2.2;have X:=j.out.x.2.1;go_upto_region 13 with fail;have j:=aB (j.out.set 3 (.int .i64 (ii F H rs2)));generalize World.setCell w6 _ _=V6 at *;clear C D E G I J K R T U V W X;obtain ⟨C,D,E,G,I,J,K⟩:=fT j.out.f.2.2;obtain ⟨R,T,U,V,W⟩:=bF j.out.x.2.2;have X:=j.out.x.2.1;go_wp2_with fail;refine zK (FP F H sg _ _ _ _ _ _ hF hH al) λ w7 O=>?_;have j:=aB (j.out.next O);clear O;obtain ⟨C,D,E,G,I,J,K⟩:=fT j.out.f.2.2;obtain ⟨R,T,U,V,W⟩:=bF j.out.x.2.2;have X:=j.out.x.2.1;obtain ⟨z0,z1,z2,z3,z4⟩:=bF j.out.z.2.2;have zf:=j.out.z.2.1;go_wp2;refine zp (v:=lq (some ⟨op,ii F H rd,ii F H rs1,ii F H rs2,lM F H sg⟩)) (by simp[results,results168,go_sem,lq,aE.val,z0,z1,z2,z3,z4]) rfl ⟨by rw[Z.out,zt trivial];rfl,AV (j.out.b.setCell (by have:=j.out.lt;show w.heap.size<=bx;omega) _) _ _ _ _ _⟩
def kY (k:Nat) (H:ByteArray):Option aE:=pG ⟨(aQ k).half.toArray⟩ H ⟨(aQ k).rd.toArray⟩ ⟨(aQ k).rs1.toArray⟩ ⟨(aQ k).rs2.toArray⟩ ⟨(aQ k).cond.toArray⟩ (aQ k).op (aQ k).sgn
def iN (h:Int):aE×Int:=if h<0\/65535<h then (⟨0,0,0,0,0⟩,1) else (match (List.range 32).findSome? (λ k=>kY k (dP h 16)) with|some i=>(i,0)|none=>(⟨0,0,0,0,0⟩,1))
def AD:∀k,k<32->(aQ k).half.length=16/\0<(aQ k).rd.length/\0<(aQ k).rs1.length/\0<(aQ k).rs2.length:=by decide
def Fg (h:Int):∀j i:Nat,i<j->(nW h j)[i]?=some (UInt8.ofNat (48+aD h (15-i) (15-i)).toNat)
 | 0,i,hi=>by omega
 | j+1,i,hi=>by
  rw[nW];rcases Nat.lt_or_ge i j with q|q
  .rw[List.getElem?_append_left (by rw[sH];exact q)]
   exact Fg h j i q
  have e:i=j:=by omega
  subst e;rw[List.getElem?_append_right (by rw[sH];exact zn),sH]
  simp
def qZ (h) (hi:i<16):((B (dP h 16) i).toNat:Int)=48+aD h (15-i) (15-i)/\0<=aD h (15-i) (15-i)/\aD h (15-i) (15-i)<=1:=by
 have u:=fV h (15-i) (15-i)
 have e:B (dP h 16) i=UInt8.ofNat (48+aD h (15-i) (15-i)).toNat:=by
  unfold B;have j:(dP h 16).data.toList=nW h 16:=by simp[dP]
  rw[j,zG,Fg h 16 i hi];rfl
 have q:(2:Int)^(((15:Int)-i).toNat-((15:Int)-i).toNat+1)=2:=by simp
 rw[q]at u;rw[e,UInt8.toNat_ofNat'];omega
def IH (h):rp (dP h 16):=by
 intro i hi;have:=qZ h hi;omega
def zy {α β:Type} {f:α->Option β}:∀{l:List α} {k:Nat} {x:α} {y:β},l[k]?=some x->(∀j z,j<k->l[j]?=some z->f z=none)->f x=some y->l.findSome? f=some y
 | [],k,x,y,h,_,_=>by simp at h
 | a::l,0,x,y,h,_,hy=>by
  simp at h;subst h;simp[List.findSome?,hy]
 | a::l,k+1,x,y,h,hn,hy=>by
  have q:=hn 0 a (by omega) rfl
  rw[List.findSome?_cons,q];exact zy (k:=k) (by simpa using h) (λ j z v u=>hn (j+1) z (by omega) (by simpa using u)) hy
def Qd {h:Int} (A:¬(h<0\/65535<h)) (v:k<32) {i:aE} (w:∀j,j<k->kY j (dP h 16)=none) (hi:kY k (dP h 16)=some i):iN h=(i,0):=by
 unfold iN;rw[aC A,zy (k:=k) (x:=k) (y:=i) (List.getElem?_range v) (λ j z u q=>?_) hi]
 rw[List.getElem?_range (by omega)]at q
 cases q
 exact w j u
def Rn {h:Int} (v:¬(h<0\/65535<h)) (u:∀j,j<32->kY j (dP h 16)=none):iN h=(⟨0,0,0,0,0⟩,1):=by
 unfold iN
 have e:(List.range 32).findSome? (λ k=>kY k (dP h 16))=none:=by
  rw[List.findSome?_eq_none_iff];intro k q;exact u k (List.mem_range.1 q)
 rw[aC v,e]
def EH (k) (y:k<32) (h) (w):
    aG prog 168 #[.agg #[.string ⟨(aQ k).half.toArray⟩,.int .i64 (aQ k).op,.string ⟨(aQ k).rd.toArray⟩,.string ⟨(aQ k).rs1.toArray⟩,.string ⟨(aQ k).rs2.toArray⟩,.bool (aQ k).sgn,.string ⟨(aQ k).cond.toArray⟩],.string (dP h 16)] w (lq (kY k (dP h 16))):=by
 unfold aG;obtain ⟨j,q,u,v⟩:=AD k y;have sz:∀l:List UInt8,(⟨l.toArray⟩:ByteArray).size=l.length:=λ l=>by simp[ByteArray.size]
 exact MY _ _ _ _ _ _ _ _ w (by rw[sz];exact j) (DC h 16) (IH h) (by rw[sz];exact q) (by rw[sz];exact u) (by rw[sz];exact v)
structure rR (w V:World):Prop where
 z:aF w.heap.size [.int .i64 0,.int .i64 0,.int .i64 0,.int .i64 0,.int .i64 0] V
 f:∀k,k<32->∀q v,(pw (aQ k))[q]?=some v->V.cell? ⟨w.heap.size+1,k*7+q,none⟩=some v
 lt:w.heap.size+1<V.heap.size
 b:Below w.heap.size w V
def rR.next (h:rR w V) (j:Below V.heap.size V V'):rR w V':=
 ⟨h.z.next j,λ k u q v y=>(j.cell (p:=⟨w.heap.size+1,k*7+q,none⟩) h.lt).trans (h.f k u q v y),zl h.lt j.size,h.b.trans (j.mono h.b.size)⟩
def QY (w) {C:Array Value} (E:vJ C):rR w ((w.alloc (.cells #[.int .i64 0,.int .i64 0,.int .i64 0,.int .i64 0,.int .i64 0] 26)).alloc (.cells C 230)):=by
 have u:(w.alloc (.cells #[.int .i64 0,.int .i64 0,.int .i64 0,.int .i64 0,.int .i64 0] 26)).heap.size=w.heap.size+1:=by simp
 have j:=heap_alloc_new (w.alloc (.cells #[.int .i64 0,.int .i64 0,.int .i64 0,.int .i64 0,.int .i64 0] 26)) (.cells C 230);rw[u]at j;refine ⟨(aF.new w [.int .i64 0,.int .i64 0,.int .i64 0,.int .i64 0,.int .i64 0] 26).alloc _,λ k F q v h=>?_,by simp,aJ.alloc (by rw[u];omega) _⟩
 rw[Lib.cell_of_heap j];obtain ⟨c0,c1,c2,y,c4,A,D⟩:=E k F;unfold pw at h;rcases q with _|_|_|_|_|_|_|q
 .simp at h;subst h;exact c0
 .simp at h;subst h;exact c1
 .simp at h;subst h;exact c2
 .simp at h;subst h;exact y
 .simp at h;subst h;exact c4
 .simp at h;subst h;exact A
 .simp at h;subst h;exact D
 simp at h
def KI (h) (w) (j:h<0\/65535<h):
    aG prog 97 #[.int .i64 h] w (.tuple #[(iN h).1.val,.int .i64 (iN h).2]):=by
 unfold aG;have e:iN h=(⟨0,0,0,0,0⟩,1):=by unfold iN;rw[zt j]
 rw[e];rcases j with j|j
 .go_in
  go_wp2;refine zp (v:=.tuple #[(aE.mk 0 0 0 0 0).val,.int .i64 1]) (by simp[results,results97,go_sem,aE.val]) rfl ⟨rfl,?_⟩
  exact aJ
 have q:¬h<0:=by omega
 go_in;go_wp2;refine zp (v:=.tuple #[(aE.mk 0 0 0 0 0).val,.int .i64 1]) (by simp[results,results97,go_sem,aE.val]) rfl ⟨rfl,?_⟩
 exact aJ
def LF (h) (w) (h0:0<=h) (h1:h<=65535):
    aG prog 97 #[.int .i64 h] w (.tuple #[(iN h).1.val,.int .i64 (iN h).2]):=by
 unfold aG;have HH:=aB (λ k i O T hi=>Qd (h:=h) (by omega) (k:=k) O (i:=i) T hi)
 have HN:=aB (λ T=>Rn (h:=h) (by omega) T)
 have Z:=aB (λ k O w'=>EH k O h w')
 have I:=aB (λ w'=>DB h w' h0 h1)
 generalize dP h 16=D at *;have ak:¬h<0:=by omega
 have al:¬65535<h:=by omega
 clear h0 h1;go_in;go_wp2_with fail;refine (Dj _).mono ?_;rintro e w1 ⟨C,hC,rfl,rfl⟩;have q:=aB (QY w hC);clear hC;go_wp2_with fail;generalize World.alloc (w.alloc _) _=W1 at *;refine zK (I.out W1) λ w2 L=>?_;have q:=aB (q.out.next L);clear L I;go_wp2_with fail;go_loopw [6] (λ v wr=>∃k:Nat,v=.int .i64 k/\k<=32/\Hid (∀j,j<k->kY j D=none)/\Hid (rR w wr)) (λ v _=>32-(intOf v).toNat)
 case atStart=>exact ⟨0,rfl,by omega,aB (λ j hj=>by omega),q⟩
 case round=>
  clear q;obtain ⟨k,rfl,O,F,q⟩:=hrel;by_cases u:k<32
  .have ae:(k:Int)<32:=by omega
   have y0:wr.cell? ⟨w.heap.size+1,k*7,none⟩=some (.string ⟨(aQ k).half.toArray⟩):=q.out.f k u 0 _ rfl;have y1:wr.cell? ⟨w.heap.size+1,k*7+1,none⟩=some (.int .i64 (aQ k).op):=q.out.f k u 1 _ rfl;have y2:wr.cell? ⟨w.heap.size+1,k*7+2,none⟩=some (.string ⟨(aQ k).rd.toArray⟩):=q.out.f k u 2 _ rfl;have y3:wr.cell? ⟨w.heap.size+1,k*7+3,none⟩=some (.string ⟨(aQ k).rs1.toArray⟩):=q.out.f k u 3 _ rfl;have y4:wr.cell? ⟨w.heap.size+1,k*7+4,none⟩=some (.string ⟨(aQ k).rs2.toArray⟩):=q.out.f k u 4 _ rfl;have y5:wr.cell? ⟨w.heap.size+1,k*7+5,none⟩=some (.bool (aQ k).sgn):=q.out.f k u 5 _ rfl;have y6:wr.cell? ⟨w.heap.size+1,k*7+6,none⟩=some (.string ⟨(aQ k).cond.toArray⟩):=q.out.f k u 6 _ rfl;(have wk:IntKind.i64.wrap ((k:Int)+1)=(k:Int)+1:=zw _ (by omega));have K:=aB (Z.out k u);generalize N:kY k D=ST at *;have J:=aB N;clear N;generalize (⟨(aQ k).half.toArray⟩:ByteArray)=g0 at *;generalize (aQ k).op=g1 at *;generalize (⟨(aQ k).rd.toArray⟩:ByteArray)=g2 at *;generalize (⟨(aQ k).rs1.toArray⟩:ByteArray)=g3 at *;generalize (⟨(aQ k).rs2.toArray⟩:ByteArray)=g4 at *;generalize (aQ k).sgn=g5 at *;generalize (⟨(aQ k).cond.toArray⟩:ByteArray)=g6 at *;clear Z;go_wp2_with fail;refine zK (K.out wr) λ w3 M=>?_;have q:=aB (q.out.next M);clear M K y0 y1 y2 y3 y4 y5 y6
   cases ST with
   | none=>
    unfold lq aE.val;simp only;go_wp2;go_roundw
    case rel=>
     (refine ⟨k+1,by go_num,by omega,aB (λ j hj=>?_),aB (q.out.next aJ)⟩);by_cases e:j=k
     .rw[e];exact J.out
     exact F.out j (by omega)
    case measure=>simp[intOf];omega
   | some i=>
    have Q:=aB (HH.out k i u F.out J.out);obtain ⟨G,H,A,E,y⟩:=i;unfold lq aE.val;simp only;go_upto_region 10 with fail;have HX:=aB (aF.new w3 [.int .i64 G,.int .i64 H,.int .i64 A,.int .i64 E,.int .i64 y] 26);have q:=aB (q.out.next (aU.alloc zn (.cells #[.int .i64 G,.int .i64 H,.int .i64 A,.int .i64 E,.int .i64 y] 26)));generalize w3.alloc _=W4 at *;obtain ⟨U,V,W,X,Y⟩:=bF q.out.z.2.2;have zf:=q.out.z.2.1;obtain ⟨x0,x1,x2,x3,x4⟩:=bF HX.out.2.2;go_wp2;refine zp (v:=.tuple #[(aE.mk G H A E y).val,.int .i64 0]) (by simp[results,results97,go_sem,aE.val,U,V,W,X,Y]) rfl ⟨by rw[Q.out],kA q.out.b _ _ _ _ _⟩
  have P:k=32:=by omega
  subst P;have R:=aB (HN.out F.out);obtain ⟨U,V,W,X,Y⟩:=bF q.out.z.2.2;have zf:=q.out.z.2.1;clear u O;go_wp2;refine zp (v:=.tuple #[(aE.mk 0 0 0 0 0).val,.int .i64 1]) (by simp[results,results97,go_sem,aE.val,U,V,W,X,Y]) rfl ⟨by rw[R.out],kA q.out.b _ _ _ _ _⟩
def xn (h) (w):
    aG prog 97 #[.int .i64 h] w (.tuple #[(iN h).1.val,.int .i64 (iN h).2]):=by
 unfold aG;by_cases j:h<0\/65535<h
 .exact KI h w j
 exact LF h w (by omega) (by omega)
