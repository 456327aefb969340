import Derived.Test.YtbmcofdodfcnnaaGreatDoorGWH
set_option linter.all false
set_option maxHeartbeats 0
set_option maxRecDepth 100000
namespace Go
open Proofs.Tryz
variable {rs : List Int}
def iA (size:Nat):Option (List Int×Int×ByteArray)->List Rp×Int
 | none=>([],4)
 | some (_,n,_)=>if size=0 then ([],4) else if n<0\/2^(8*size)<=n then ([],5) else ([⟨⟨0,0,0,0,0⟩,[],false,bR size n⟩],0)
def xr {size:Nat} (j:size≠0) {n:Int} {nm:ByteArray} (h:n<0\/2^(8*size)<=n):iA size (some (rs,n,nm))=([],5):=by
 simp only[iA];rw[aC j,zt h]
def Cv {size:Nat} (j:size≠0) {n:Int} {nm:ByteArray} (h:¬(n<0\/2^(8*size)<=n)):iA size (some (rs,n,nm))=([⟨⟨0,0,0,0,0⟩,[],false,bR size n⟩],0):=by
 simp only[iA];rw[aC j,aC h]
def lH (l:List UInt8):Nat:=if l=[98,121,116,101] then 1 else if l=[104,97,108,102] then 2 else if l=[119,111,114,100] then 4 else 0
def jI:List aI->List Rp×Int
 | []=>([],4)
 | u::l=>if u.blank=true\/u.kind≠119 then ([],4) else iA (lH u.text) (aL l [105] [] 0 ⟨#[]⟩)
def C0 (n:Int) (q:Nat) (h:0<=n) (j:n<=1099511627776):0<=n/256^q/\n/256^q<=1099511627776/\n/256^q/256=n/256^(q+1):=by
 have u:(0:Int)<256^q:=Int.pow_pos (by omega)
 refine ⟨Int.ediv_nonneg h (by omega),Int.le_trans (Int.ediv_le_self _ h) j,?_⟩
 rw[Int.ediv_ediv_of_nonneg (by omega),Int.pow_succ]
open RowKit
def BC (w:World) (q:Int) (u:0<=q) (v:q<=255):(convert 65 9 (.slice (some ⟨w.heap.size,0,none⟩) 1 1)).run prog (w.alloc (.cells #[.int .u8 q] 5)) =
    .ok (.string ⟨#[UInt8.ofNat q.toNat]⟩) (w.alloc (.cells #[.int .u8 q] 5)):=
 run_convert_bytes_back _ 65 9 5 ⟨w.heap.size,0,none⟩ 1 [UInt8.ofNat q.toNat] underlying65 underlying5 underlying9 (λ j h=>by
  obtain rfl:j=0:=by simpa using h
  have:((UInt8.ofNat q.toNat).toNat:Int)=q:=by rw[UInt8.toNat_ofNat'];omega
  simp only[List.getElem_cons_zero,this];go_simp)
def C3 {w:World} {t u:aI} {l:List aI} {n g o cap:Nat} (A:l.length+2=n) (j:gK t (u::l) g o w) (q:g<w.heap.size):kx w (.slice (some ⟨g,o+8,none⟩) (n-2) cap) l:=by
 have e:n-2=l.length:=by omega
 refine ⟨_,_,by rw[e],λ _=>⟨g,o+8,rfl,q,λ k v y=>?_⟩⟩
 have:=j (k+2) v (by simpa using y)
 have h:o+(k+2)*4=o+8+k*4:=by omega
 rw[h]at this;exact this
def BA {w:World} {l:List aI} {n:Nat} {j:Option Addr} {cap:Nat} (u:l.length+2=n) (q:n=2):kx w (.slice j (n-2) cap) l:=by
 have e:l=[]:=List.eq_nil_of_length_eq_zero (by omega)
 subst e;exact ⟨j,cap,by rw[q];rfl,λ h=>absurd rfl h⟩
def GC (l:List aI) (w:World) (nn ok:Value) (wx:World):Prop:=
 (match aL l [105] [] 0 ⟨#[]⟩ with
 | none=>ok=.bool false
 | some (_,n,_)=>nn=.int .i64 n/\ok=.bool true)/\Below w.heap.size w wx
def iR (z:Nat) (M:Int) (t u:aI) (l:List aI) (g o cap:Nat) (w:World) (hl:l.length<=1998) (hg:g<w.heap.size) (an:l.length+2<=cap) (V:gK t (u::l) g o w)
    (Q:∀u∈l,-1099511627776<=u.num/\u.num<=1099511627776) (hk:t.kind=46) (hu:u.blank=false) (hw:u.kind=119) (hs:u.text=[98,121,116,101]/\z=1/\M=256\/u.text=[104,97,108,102]/\z=2/\M=65536\/u.text=[119,111,114,100]/\z=4/\M=4294967296):
    Calls prog 243 #[.slice (some ⟨g,o,none⟩) (l.length+2) cap] w λ e w'=>gM (iA z (aL l [105] [] 0 ⟨#[]⟩)).1 (iA z (aL l [105] [] 0 ⟨#[]⟩)).2 w e w':=by
 generalize hR:iA z (aL l [105] [] 0 ⟨#[]⟩)=R;have D:=aB hR.symm;clear hR;obtain ⟨t0,_,_,_⟩:=V 0 t rfl;obtain ⟨v0,v1,_,v3⟩:=V 1 u rfl;simp only[Nat.zero_mul,Nat.add_zero,Nat.one_mul,Nat.add_assoc,Nat.reduceAdd]at t0 v0 v1 v3;rw[hk]at t0;rw[hw]at v0;rw[hu]at v3;have O:=aB hs;rw[<-hQ u]at O;clear hs;generalize hn:l.length+2=n at *;have HL:=aB hn;have HT:=aB (C3 (cap:=cap-2) hn V hg);have L:=aB (λ (v:Value) (hv:kx w v l)=>o8 l ⟨#[105]⟩ v w (by omega) hv)
 have dQ:1<n:=by omega
 have ba:(1:Int)<n:=by omega
 have a9:n<=2000:=by omega
 clear hn hl V hk hu hw;generalize u.S=s at *;obtain ⟨Z,T⟩:∃Z,Z=z:=⟨_,rfl⟩;obtain ⟨N,E⟩:∃N,N=M:=⟨_,rfl⟩;obtain O|O|O:=O.out
 all_goals
  obtain ⟨O,rfl,rfl⟩:=O;go_in;go_upto_region 12 with fail;go_cut [0,4,6,8] (λ l0 sz h ok wx=>(l0=.slice (some ⟨g,o,none⟩) n cap/\sz=.int .i64 Z)/\GC l w h ok wx)
  case first=>
   go_wp2_with fail
   all_goals
    first
    | ((have A:n=2:=by omega);refine (aM L _ (BA (aM HL) A)).mono ?_;clear A)
    | (refine (aM L _ (aM HT)).mono ?_)
    rintro e wx ⟨F,y⟩;replace F:fM (aL l [105] [] 0 ⟨#[]⟩) w e wx:=F;have j:=aB y;clear y
    cases hop:aL l [105] [] 0 ⟨#[]⟩ with
    | none=>
     rw[hop]at F;have K:=aB hop;clear hop;simp only[fM]at F;subst F;go_wp2_with fail;go_meet;case rel=>exact ⟨⟨by first|rfl|rw[‹cap=2›],by rw[T];rfl⟩,by rw[aM K],j.out⟩
    | some r=>
     obtain ⟨rs,h,nm⟩:=r;rw[hop]at F;have K:=aB hop;clear hop;simp only[fM]at F;obtain ⟨v,he,G⟩:=F;have ay:=aB G;clear G;subst he;go_wp2_with fail;go_meet;case rel=>exact ⟨⟨by first|rfl|rw[‹cap=2›],by rw[T];rfl⟩,by rw[aM K];exact ⟨rfl,rfl⟩,j.out⟩
  case rest=>
   obtain ⟨⟨rfl,P⟩,U,y⟩:=hcut;rw[T]at P;obtain rfl:=P;have bc:w.heap.size<=wc.heap.size:=y.size;have j:=aB y;clear y L HT t0 v0 v1 v3
   cases hop:aL l [105] [] 0 ⟨#[]⟩ with
   | none=>
    rw[hop]at U D;clear hop;have C:R=([],4):=D.out;subst C;clear D;subst U;go_wp2;go_ret2;exact fQ j.out
   | some r=>
    obtain ⟨rs,h,nm⟩:=r;rw[hop]at U D;(have af:=pn _ _ _ _ _ _ _ _ hop Q (by omega));clear hop;obtain ⟨e1,e2⟩:=U;subst e1 e2;obtain ⟨a7,a8⟩:=af;(have H:=aB (λ W=>ke 8 W (by omega) (by omega)));(have I:=aB (λ W=>ke 16 W (by omega) (by omega)));(have J:=aB (λ W=>ke 32 W (by omega) (by omega)));(rw[show cB 8=256 by decide]at H);(rw[show cB 16=65536 by decide]at I);(rw[show cB 32=4294967296 by decide]at J);by_cases ac:h<0
    .have C:R=([],5):=D.out.trans (xr (by decide) (Or.inl ac))
     subst C;clear D;go_wp2;go_ret2;exact fQ j.out
    by_cases a4:N<=h
    .have C:R=([],5):=D.out.trans (xr (by decide) (Or.inr (by first|(have A:N=256:=E;exact show (256:Int)<=h by omega)|(have A:N=65536:=E;exact show (65536:Int)<=h by omega)|exact show (4294967296:Int)<=h by omega)))
     subst C;clear D;go_wp2_with fail
     first|(have A:N=256:=E;refine (H.out _).mono ?_)|(have A:N=65536:=E;refine (I.out _).mono ?_)|refine (J.out _).mono ?_
     rintro e wc ⟨rfl,rfl⟩;go_wp2;go_ret2;exact fQ j.out
    have C:R=([⟨⟨0,0,0,0,0⟩,[],false,bR Z h⟩],0):=by
     rw[T];exact D.out.trans (Cv (by decide) (by first|(have A:N=256:=E;show ¬(h<0\/256<=h);omega)|(have A:N=65536:=E;show ¬(h<0\/65536<=h);omega)|(show ¬(h<0\/4294967296<=h);omega)))
    have HR:=aB C;clear C D;go_wp2_with fail
    first|(have A:N=256:=E;refine (H.out _).mono ?_)|(have A:N=65536:=E;refine (I.out _).mono ?_)|refine (J.out _).mono ?_
    rintro e wc ⟨rfl,rfl⟩;go_wp2_with fail;(go_loopw [6,9,10] (λ nv s k wr=>∃q:Nat,q<=Z/\nv=.int .i64 (h/256^q)/\s=.string ⟨(bR q h).toArray⟩/\k=.int .i64 q/\Below w.heap.size w wr) (λ _ _ k _=>Z-(intOf k).toNat));case atStart=>exact ⟨0,by omega,by simp,rfl,rfl,j.out⟩
    case round=>
     obtain ⟨q,A,rfl,rfl,rfl,hB⟩:=hrel;have X:=aB hB;clear hB;by_cases a6:q<Z
     .obtain ⟨x0,x1,xs⟩:=C0 h q (by omega) (by omega)
      have aa:=aB xs;have P:=kw q h;have Y:=aB (tZ q h);clear xs;generalize hX:h/256^q=x at *;(have a1:=BC wr (x%256) (by omega) (by omega));generalize bR q h=S at *;go_wp2;go_roundw;(case rel=>exact ⟨q+1,by omega,by rw[aa.out],by rw[Y.out];exact congrArg Value.string (ByteArray.ext (by simp)),by go_num,X.out.alloc X.out.size _⟩);case measure=>simp[intOf];omega
     (have ab:q=Z:=by omega);subst ab;have C:=HR.out;subst C;clear HR;go_wp2;go_ret2;exact mE (p:=⟨⟨0,0,0,0,0⟩,[],false,bR _ h⟩) X.out
def OG (t u:aI) (l:List aI) (g o cap) (w) (hl:l.length<=1998) (hg:g<w.heap.size) (U:l.length+2<=cap) (J:gK t (u::l) g o w) (E:∀u∈l,-1099511627776<=u.num/\u.num<=1099511627776) (V:t.kind=46) (X:u.blank=false) (Y:u.kind=119) (F:u.text≠[98,121,116,101]) (G:u.text≠[104,97,108,102]) (H:u.text≠[119,111,114,100]):
    Calls prog 243 #[.slice (some ⟨g,o,none⟩) (l.length+2) cap] w λ e w'=>gM (iA 0 (aL l [105] [] 0 ⟨#[]⟩)).1 (iA 0 (aL l [105] [] 0 ⟨#[]⟩)).2 w e w':=by
 generalize T:iA 0 (aL l [105] [] 0 ⟨#[]⟩)=R;have D:=aB T.symm;clear T;obtain ⟨t0,_,_,_⟩:=J 0 t rfl;obtain ⟨N,Z,_,O⟩:=J 1 u rfl;simp only[Nat.zero_mul,Nat.add_zero,Nat.one_mul,Nat.add_assoc,Nat.reduceAdd]at t0 N Z O;rw[V]at t0;rw[Y]at N;rw[X]at O;have af:(u.S.toList==[98,121,116,101])=false:=by rw[hQ];simpa using F
 have ag:(u.S.toList==[104,97,108,102])=false:=by rw[hQ];simpa using G
 have ah:(u.S.toList==[119,111,114,100])=false:=by rw[hQ];simpa using H
 clear F G H;generalize L:l.length+2=n at *;have HL:=aB L;have Q:=aB (C3 (cap:=cap-2) L J hg);have C:=aB (λ (v:Value) (hv:kx w v l)=>o8 l ⟨#[105]⟩ v w (by omega) hv)
 have dQ:1<n:=by omega
 have an:(1:Int)<n:=by omega
 have al:n<=2000:=by omega
 clear L hl J V X Y;generalize u.S=s at *;go_in;go_upto_region 12 with fail;go_cut [0,4,6,8] (λ l0 sz M ok P=>(l0=.slice (some ⟨g,o,none⟩) n cap/\sz=.int .i64 0)/\GC l w M ok P)
 case first=>
  go_wp2_with fail
  all_goals
   first
   | ((have W:n=2:=by omega);refine (aM C _ (BA (aM HL) W)).mono ?_;clear W)
   | (refine (aM C _ (aM Q)).mono ?_)
   rintro e P ⟨q,h⟩;replace q:fM (aL l [105] [] 0 ⟨#[]⟩) w e P:=q;have j:=aB h;clear h
   cases hop:aL l [105] [] 0 ⟨#[]⟩ with
   | none=>
    rw[hop]at q;have A:=aB hop;clear hop;simp only[fM]at q;subst q;go_wp2_with fail;go_meet;case rel=>exact ⟨⟨by first|rfl|rw[‹cap=2›],rfl⟩,by rw[aM A],j.out⟩
   | some r=>
    obtain ⟨rs,M,nm⟩:=r;rw[hop]at q;have A:=aB hop;clear hop;simp only[fM]at q;obtain ⟨v,he,y⟩:=q;have ab:=aB y;clear y;subst he;go_wp2_with fail;go_meet;case rel=>exact ⟨⟨by first|rfl|rw[‹cap=2›],rfl⟩,by rw[aM A];exact ⟨rfl,rfl⟩,j.out⟩
 case rest=>
  obtain ⟨⟨rfl,rfl⟩,I,h⟩:=hcut;have aq:w.heap.size<=wc.heap.size:=h.size;have j:=aB h;clear h C Q t0 N Z O
  cases hop:aL l [105] [] 0 ⟨#[]⟩ with
  | none=>
   rw[hop]at I D;clear hop;have K:R=([],4):=D.out;subst K;clear D;subst I;go_wp2;go_ret2;exact fQ j.out
  | some r=>
   obtain ⟨rs,M,nm⟩:=r;rw[hop]at I D;(have am:=pn _ _ _ _ _ _ _ _ hop E (by omega));clear hop;obtain ⟨e1,e2⟩:=I;subst e1 e2;have K:R=([],4):=D.out;subst K;clear D;go_wp2;go_ret2;exact fQ j.out
def NI (t:aI) (g o cap) (w) (h:gK t [] g o w) (j:1<=cap) (q:t.kind=46):
    Calls prog 243 #[.slice (some ⟨g,o,none⟩) 1 cap] w λ e w'=>gM [] 4 w e w':=by
 obtain ⟨t0,_,_,_⟩:=h 0 t rfl;simp only[Nat.zero_mul,Nat.add_zero]at t0;rw[q]at t0;clear h q;go_in;go_wp2;go_ret2;exact fQ aU
def Tv (t u:aI) (l:List aI) (g o cap) (w) (F:l.length<=1998) (C:l.length+2<=cap) (v:gK t (u::l) g o w) (D:t.kind=46) (y:u.blank=true\/u.kind≠119):
    Calls prog 243 #[.slice (some ⟨g,o,none⟩) (l.length+2) cap] w λ e w'=>gM [] 4 w e w':=by
 obtain ⟨t0,_,_,_⟩:=v 0 t rfl;obtain ⟨K,L,_,A⟩:=v 1 u rfl;simp only[Nat.zero_mul,Nat.add_zero,Nat.one_mul,Nat.add_assoc,Nat.reduceAdd]at t0 K L A;rw[D]at t0;generalize G:l.length+2=n at *;have dQ:1<n:=by omega
 have I:(1:Int)<n:=by omega
 have H:n<=2000:=by omega
 have J:¬((n:Int)<2):=by omega
 clear G F v D;by_cases j:u.blank=true
 .rw[j]at A
  clear y j;go_in;go_wp2;go_ret2;exact fQ aU
 have q:u.blank=false:=by simpa using j
 rw[q]at A;have E:(u.kind != 119)=true:=by rcases y with h|h;exact absurd h j;simpa using h
 clear y j q;go_in;go_wp2;go_ret2;exact fQ aU
def U4 (t:aI) (l:List aI) (g o cap) (w) (M:l.length<=1999) (L:g<w.heap.size) (y:l.length+1<=cap) (D:gK t l g o w) (C:∀u∈l,-1099511627776<=u.num/\u.num<=1099511627776) (F:t.kind=46):
    Calls prog 243 #[.slice (some ⟨g,o,none⟩) (l.length+1) cap] w λ e w'=>gM (jI l).1 (jI l).2 w e w':=by
 match l,M,y,D,C with
 | [],_,y,D,_=>exact NI t g o cap w D (by simpa using y) F
 | u::l,M,y,D,C=>
  have A:l.length<=1998:=by simp at M;omega
  have j:l.length+2<=cap:=by simp at y;omega
  have q:∀v∈l,-1099511627776<=v.num/\v.num<=1099511627776:=λ v N=>C v (by simp[N])
  have el:(u::l).length+1=l.length+2:=by simp
  rw[el];by_cases G:u.blank=true\/u.kind≠119
  .have e:jI (u::l)=([],4):=by simp only[jI];rw[zt G]
   rw[e];exact Tv t u l g o cap w A j D F G
  have K:u.blank=false:=by
   cases h:u.blank with
   | true=>exact absurd (Or.inl h) G
   | false=>rfl
  have E:u.kind=119:=by
   by_cases h:u.kind=119
   .exact h
   exact absurd (Or.inr h) G
  have e:jI (u::l)=iA (lH u.text) (aL l [105] [] 0 ⟨#[]⟩):=by simp only[jI];rw[aC G]
  rw[e];unfold lH;by_cases H:u.text=[98,121,116,101]
  .rw[zt H]
   exact iR 1 256 t u l g o cap w A L j D q F K E (.inl ⟨H,rfl,rfl⟩)
  rw[aC H];by_cases I:u.text=[104,97,108,102]
  .rw[zt I]
   exact iR 2 65536 t u l g o cap w A L j D q F K E (.inr (.inl ⟨I,rfl,rfl⟩))
  rw[aC I];by_cases J:u.text=[119,111,114,100]
  .rw[zt J]
   exact iR 4 4294967296 t u l g o cap w A L j D q F K E (.inr (.inr ⟨J,rfl,rfl⟩))
  rw[aC J];exact OG t u l g o cap w A L j D q F K E H I J
