import Derived.Test.YtbmcofdodfcnnaaGreatDoorGWH
set_option linter.all false
set_option maxHeartbeats 0
set_option maxRecDepth 100000
namespace Go
open Proofs.Tryz RowKit
def sZ (t:aI) (l:List aI) (g o cap) (w) (hl:l.length<=1999) (Z:g<w.heap.size) (ah:l.length+1<=cap) (X:gK t l g o w) (hk:(t.kind==46)=false) (E:t.text=[109,118]\/t.text=[110,111,116]\/t.text=[110,101,103]\/t.text=[115,101,113,122]\/t.text=[115,110,101,122]):
    Calls prog 243 #[.slice (some ⟨g,o,none⟩) (l.length+1) cap] w λ e w'=>gM (cU t l).1 (cU t l).2 w e w':=by
 rcases E with E|E|E|E|E
 all_goals
  obtain ⟨t0,t1,_,_⟩:=X 0 t rfl;simp only[Nat.zero_mul,Nat.add_zero]at t0 t1;have D:Hid (cU t l=kR t.kind t.text (aL l [114,44,114] [] 0 ⟨#[]⟩)):=aB (by unfold cU;rw[E];rfl)
  rw[E]at D;have hS:=(hQ t).trans E;generalize hR:cU t l=R at *;clear hR E;generalize hn:l.length+1=n at *;have HL:=aB hn;have HT:=aB (sO (cap:=cap-1) hn X Z);have J:=aB (λ (v:Value) (P:kx w v l)=>o8 l ⟨#[114,44,114]⟩ v w (by omega) P)
  have dQ:0<n:=by omega
  have ax:(0:Int)<n:=by omega
  have aw:n<=2000:=by omega
  clear hn hl X;generalize t.S=s at *;go_in;go_upto_region 42 with fail;go_cut [0,12,13,14,15] (λ l0 v nn nm ok wx=>l0=.slice (some ⟨g,o,none⟩) n cap/\rH l [114,44,114] w v nn nm ok wx)
  case first=>
   go_wp2_with fail
   all_goals
    first
    | ((have hq:n=1:=by omega);refine (aM J _ (qd (aM HL) hq)).mono ?_;clear hq)
    | (refine (aM J _ (aM HT)).mono ?_)
    rintro e wx ⟨G,u⟩;replace G:fM (aL l [114,44,114] [] 0 ⟨#[]⟩) w e wx:=G;have y:=aB u;clear u
    cases hop:aL l [114,44,114] [] 0 ⟨#[]⟩ with
    | none=>
     rw[hop]at G;have H:=aB hop;clear hop;simp only[fM]at G;subst G;go_wp2_with fail;go_meet;case rel=>exact ⟨by first|rfl|rw[‹cap=1›],by rw[aM H],y.out⟩
    | some r=>
     obtain ⟨rs,nn,nm⟩:=r;rw[hop]at G;have H:=aB hop;clear hop;simp only[fM]at G;obtain ⟨v,he,j⟩:=G;have V:=aB j;clear j;subst he;go_wp2_with fail;go_meet;case rel=>exact ⟨by first|rfl|rw[‹cap=1›],by rw[aM H];exact ⟨rfl,rfl,rfl,V.out⟩,y.out⟩
  case rest=>
   obtain ⟨rfl,U,u⟩:=hcut;replace t0:=(u.cell (p:=⟨g,o,none⟩) Z).trans t0;replace t1:=(u.cell (p:=⟨g,o+1,none⟩) Z).trans t1;have Q:w.heap.size<=wc.heap.size:=u.size;(have au:g<wc.heap.size:=by omega);have y:=aB u;clear u J HT
   cases hop:aL l [114,44,114] [] 0 ⟨#[]⟩ with
   | none=>
    rw[hop]at U D;have C:R=([],4):=D.out;subst C;clear hop D;subst U;go_wp2;go_ret2;exact fQ y.out
   | some r=>
    obtain ⟨rs,nn,nm⟩:=r;rw[hop]at U D;(have M:rs.length=2:=by have:=oa _ _ _ _ _ _ _ _ hop;simpa using this);clear hop;obtain ⟨e1,e2,e3,j⟩:=U;subst e1 e2 e3;by_cases h:t.kind=119
    .have aa:(t.kind != 119)=false:=by simp[h]
     obtain ⟨q,r1,rfl⟩:∃q r1,rs=[q,r1]:=wO M;(obtain ⟨W,O,P,ar,ai,Y,L⟩:=rX j (by simp));replace P:u12=.slice (some ⟨W,0,none⟩) 2 O:=P;subst P;have z0:wc.cell? ⟨W,0,none⟩=some (.int .i64 q):=L 0 _ rfl;have z1:wc.cell? ⟨W,1,none⟩=some (.int .i64 r1):=L 1 _ rfl;clear L;clear M j
     first
     | ((have C:Hid (R=if right ⟨29,q,r1,0,0⟩ then ([⟨⟨29,q,r1,0,0⟩,nm.data.toList,false,[]⟩],0) else ([],5)):=aB (D.out.trans (by rw[kv h];rfl)));obtain ⟨A,F⟩:∃A,right ⟨29,q,r1,0,0⟩=A:=⟨_,rfl⟩)
     | ((have C:Hid (R=if right ⟨32,q,r1,0,-1⟩ then ([⟨⟨32,q,r1,0,-1⟩,nm.data.toList,false,[]⟩],0) else ([],5)):=aB (D.out.trans (by rw[kv h];rfl)));obtain ⟨A,F⟩:∃A,right ⟨32,q,r1,0,-1⟩=A:=⟨_,rfl⟩)
     | ((have C:Hid (R=if right ⟨2,q,0,r1,0⟩ then ([⟨⟨2,q,0,r1,0⟩,nm.data.toList,false,[]⟩],0) else ([],5)):=aB (D.out.trans (by rw[kv h];rfl)));obtain ⟨A,F⟩:∃A,right ⟨2,q,0,r1,0⟩=A:=⟨_,rfl⟩)
     | ((have C:Hid (R=if right ⟨31,q,r1,0,1⟩ then ([⟨⟨31,q,r1,0,1⟩,nm.data.toList,false,[]⟩],0) else ([],5)):=aB (D.out.trans (by rw[kv h];rfl)));obtain ⟨A,F⟩:∃A,right ⟨31,q,r1,0,1⟩=A:=⟨_,rfl⟩)
     | ((have C:Hid (R=if right ⟨5,q,0,r1,0⟩ then ([⟨⟨5,q,0,r1,0⟩,nm.data.toList,false,[]⟩],0) else ([],5)):=aB (D.out.trans (by rw[kv h];rfl)));obtain ⟨A,F⟩:∃A,right ⟨5,q,0,r1,0⟩=A:=⟨_,rfl⟩)
     clear D h;go_wp2_with fail;go_region;go_wp2_with fail;refine zK (lV ⟨_,_,_,_,_⟩ _) λ w5 K=>?_;(obtain ⟨i0,i1,i2,i3,i4⟩:=uE (wc:=wc) (T:=26) K (by show wc.heap.size<(wc.alloc _).heap.size;simp) (λ _=>rfl));have N:=aB K;clear K;rw[F]
     cases A with
     | false=>
      rw[F]at C;have I:R=([],5):=C.out;subst I;clear F C;go_wp2;go_ret2;exact fQ (o7 (below_drewN (y.out.alloc Q _) 1) N.out)
     | true=>
      rw[F]at C;have I:R=([⟨_,nm.data.toList,false,[]⟩],0):=C.out;subst I;clear F C;go_wp2;go_ret2;exact mE (p:=⟨_,nm.data.toList,false,[]⟩) (o7 (below_drewN (y.out.alloc Q _) 1) N.out)
    (have aa:(t.kind != 119)=true:=by simp[h]);have C:R=([],4):=D.out.trans (qT h _ _ _ _);subst C;clear D h j M;go_wp2;go_ret2;exact fQ y.out
def Hv (t:aI) (l:List aI) (g o cap) (w) (hl:l.length<=1999) (Z:g<w.heap.size) (ah:l.length+1<=cap) (X:gK t l g o w) (hk:(t.kind==46)=false) (K:t.text=[98,101,113,122]\/t.text=[98,110,101,122]):
    Calls prog 243 #[.slice (some ⟨g,o,none⟩) (l.length+1) cap] w λ e w'=>gM (cU t l).1 (cU t l).2 w e w':=by
 rcases K with K|K
 all_goals
  obtain ⟨t0,t1,_,_⟩:=X 0 t rfl;simp only[Nat.zero_mul,Nat.add_zero]at t0 t1;have A:Hid (cU t l=kR t.kind t.text (aL l [114,44,116] [] 0 ⟨#[]⟩)):=aB (by unfold cU;rw[K];rfl)
  rw[K]at A;have hS:=(hQ t).trans K;generalize hR:cU t l=R at *;clear hR K;generalize hn:l.length+1=n at *;have HL:=aB hn;have HT:=aB (sO (cap:=cap-1) hn X Z);have H:=aB (λ (v:Value) (Q:kx w v l)=>o8 l ⟨#[114,44,116]⟩ v w (by omega) Q)
  have dQ:0<n:=by omega
  have ax:(0:Int)<n:=by omega
  have aw:n<=2000:=by omega
  clear hn hl X;generalize t.S=s at *;go_in;go_upto_region 42 with fail;go_cut [0,12,13,14,15] (λ l0 v C nm ok wx=>l0=.slice (some ⟨g,o,none⟩) n cap/\rH l [114,44,116] w v C nm ok wx)
  case first=>
   go_wp2_with fail
   all_goals
    first
    | ((have hq:n=1:=by omega);refine (aM H _ (qd (aM HL) hq)).mono ?_;clear hq)
    | (refine (aM H _ (aM HT)).mono ?_)
    rintro e wx ⟨E,j⟩;replace E:fM (aL l [114,44,116] [] 0 ⟨#[]⟩) w e wx:=E;have q:=aB j;clear j
    cases hop:aL l [114,44,116] [] 0 ⟨#[]⟩ with
    | none=>
     rw[hop]at E;have F:=aB hop;clear hop;simp only[fM]at E;subst E;go_wp2_with fail;go_meet;case rel=>exact ⟨by first|rfl|rw[‹cap=1›],by rw[aM F],q.out⟩
    | some r=>
     obtain ⟨rs,C,nm⟩:=r;rw[hop]at E;have F:=aB hop;clear hop;simp only[fM]at E;obtain ⟨v,he,h⟩:=E;have W:=aB h;clear h;subst he;go_wp2_with fail;go_meet;case rel=>exact ⟨by first|rfl|rw[‹cap=1›],by rw[aM F];exact ⟨rfl,rfl,rfl,W.out⟩,q.out⟩
  case rest=>
   obtain ⟨rfl,V,j⟩:=hcut;replace t0:=(j.cell (p:=⟨g,o,none⟩) Z).trans t0;replace t1:=(j.cell (p:=⟨g,o+1,none⟩) Z).trans t1;have U:w.heap.size<=wc.heap.size:=j.size;(have au:g<wc.heap.size:=by omega);have q:=aB j;clear j H HT
   cases hop:aL l [114,44,116] [] 0 ⟨#[]⟩ with
   | none=>
    rw[hop]at V A;have y:R=([],4):=A.out;subst y;clear hop A;subst V;go_wp2;go_ret2;exact fQ q.out
   | some r=>
    obtain ⟨rs,C,nm⟩:=r;rw[hop]at V A;(have J:rs.length=1:=by have:=oa _ _ _ _ _ _ _ _ hop;simpa using this);clear hop;obtain ⟨e1,e2,e3,h⟩:=V;subst e1 e2 e3;by_cases u:t.kind=119
    .have aa:(t.kind != 119)=false:=by simp[u]
     obtain ⟨D,rfl⟩:∃D,rs=[D]:=Bj J;(obtain ⟨g2,O,Q,ar,ai,Y,P⟩:=rX h (by simp));replace Q:u12=.slice (some ⟨g2,0,none⟩) 1 O:=Q;subst Q;have z0:wc.cell? ⟨g2,0,none⟩=some (.int .i64 D):=P 0 _ rfl;clear P;clear J h
     first
     | ((have y:Hid (R=if right ⟨54,0,D,0,C⟩ then ([⟨⟨54,0,D,0,C⟩,nm.data.toList,false,[]⟩],0) else ([],5)):=aB (A.out.trans (by rw[kv u];rfl)));obtain ⟨M,L⟩:∃M,right ⟨54,0,D,0,C⟩=M:=⟨_,rfl⟩)
     | ((have y:Hid (R=if right ⟨55,0,D,0,C⟩ then ([⟨⟨55,0,D,0,C⟩,nm.data.toList,false,[]⟩],0) else ([],5)):=aB (A.out.trans (by rw[kv u];rfl)));obtain ⟨M,L⟩:∃M,right ⟨55,0,D,0,C⟩=M:=⟨_,rfl⟩)
     clear A u;go_wp2_with fail;refine zK (lV ⟨_,_,_,_,_⟩ _) λ w5 I=>?_;(obtain ⟨i0,i1,i2,i3,i4⟩:=uE (wc:=wc) (T:=26) I (by show wc.heap.size<(wc.alloc _).heap.size;simp) (λ _=>rfl));have N:=aB I;clear I;rw[L]
     cases M with
     | false=>
      rw[L]at y;have G:R=([],5):=y.out;subst G;clear L y;go_wp2;go_ret2;exact fQ (o7 (q.out.alloc U _) N.out)
     | true=>
      rw[L]at y;have G:R=([⟨_,nm.data.toList,false,[]⟩],0):=y.out;subst G;clear L y;go_wp2;go_ret2;exact mE (p:=⟨_,nm.data.toList,false,[]⟩) (o7 (q.out.alloc U _) N.out)
    (have aa:(t.kind != 119)=true:=by simp[u]);have y:R=([],4):=A.out.trans (qT u _ _ _ _);subst y;clear A u h J;go_wp2;go_ret2;exact fQ q.out
def WJ (t:aI) (l:List aI) (g o cap) (w) (hl:l.length<=1999) (P:g<w.heap.size) (aa:l.length+1<=cap) (O:gK t l g o w) (hk:(t.kind==46)=false) (V:t.text=[106]):
    Calls prog 243 #[.slice (some ⟨g,o,none⟩) (l.length+1) cap] w λ e w'=>gM (cU t l).1 (cU t l).2 w e w':=by
 obtain ⟨t0,t1,_,_⟩:=O 0 t rfl;simp only[Nat.zero_mul,Nat.add_zero]at t0 t1;have A:Hid (cU t l=kR t.kind [106] (aL l [116] [] 0 ⟨#[]⟩)):=aB (by unfold cU;rw[V];rfl)
 have hS:t.S.toList=[106]:=(hQ t).trans V;generalize hR:cU t l=R at *;clear hR V;generalize U:l.length+1=n at *;have HL:=aB U;have Z:=aB (sO (cap:=cap-1) U O P);have G:=aB (λ (v:Value) (hv:kx w v l)=>o8 l ⟨#[116]⟩ v w (by omega) hv)
 have dQ:0<n:=by omega
 have am:(0:Int)<n:=by omega
 have al:n<=2000:=by omega
 clear U hl O;generalize t.S=s at *;go_in;go_upto_region 42 with fail;go_cut [0,12,13,14,15] (λ l0 v D nm ok Y=>l0=.slice (some ⟨g,o,none⟩) n cap/\rH l [116] w v D nm ok Y)
 case first=>
  go_wp2_with fail
  all_goals
   first
   | ((have hq:n=1:=by omega);refine (aM G _ (qd (aM HL) hq)).mono ?_;clear hq)
   | (refine (aM G _ (aM Z)).mono ?_)
   rintro e Y ⟨C,h⟩;replace C:fM (aL l [116] [] 0 ⟨#[]⟩) w e Y:=C;have q:=aB h;clear h
   cases hop:aL l [116] [] 0 ⟨#[]⟩ with
   | none=>
    rw[hop]at C;have E:=aB hop;clear hop;simp only[fM]at C;subst C;go_wp2_with fail;go_meet;case rel=>exact ⟨by first|rfl|rw[‹cap=1›],by rw[aM E],q.out⟩
   | some r=>
    obtain ⟨X,D,nm⟩:=r;rw[hop]at C;have E:=aB hop;clear hop;simp only[fM]at C;obtain ⟨v,he,j⟩:=C;have N:=aB j;clear j;subst he;go_wp2_with fail;go_meet;case rel=>exact ⟨by first|rfl|rw[‹cap=1›],by rw[aM E];exact ⟨rfl,rfl,rfl,N.out⟩,q.out⟩
 case rest=>
  obtain ⟨rfl,M,h⟩:=hcut;replace t0:=(h.cell (p:=⟨g,o,none⟩) P).trans t0;replace t1:=(h.cell (p:=⟨g,o+1,none⟩) P).trans t1;have L:w.heap.size<=wc.heap.size:=h.size;have aj:g<wc.heap.size:=by omega
  have q:=aB h;clear h G Z
  cases hop:aL l [116] [] 0 ⟨#[]⟩ with
  | none=>
   rw[hop]at M A;have y:R=([],4):=A.out;subst y;clear hop A;subst M;go_wp2;go_ret2;exact fQ q.out
  | some r=>
   obtain ⟨X,D,nm⟩:=r;rw[hop]at M A;(have I:X.length=0:=by have:=oa _ _ _ _ _ _ _ _ hop;simpa using this);clear hop;obtain ⟨e1,e2,e3,j⟩:=M;subst e1 e2 e3;by_cases u:t.kind=119
   .have Q:(t.kind != 119)=false:=by simp[u]
    obtain rfl:X=[]:=List.eq_nil_of_length_eq_zero I;clear I j
    (have y:Hid (R=if right ⟨62,0,0,0,D⟩ then ([⟨⟨62,0,0,0,D⟩,nm.data.toList,false,[]⟩],0) else ([],5)):=aB (A.out.trans (by rw[kv u];rfl)));obtain ⟨W,K⟩:∃W,right ⟨62,0,0,0,D⟩=W:=⟨_,rfl⟩
    clear A u;go_wp2_with fail;refine zK (lV ⟨_,_,_,_,_⟩ _) λ w5 H=>?_;(obtain ⟨i0,i1,i2,i3,i4⟩:=uE (wc:=wc) (T:=26) H (by show wc.heap.size<(wc.alloc _).heap.size;simp) (λ _=>rfl));have J:=aB H;clear H;rw[K]
    cases W with
    | false=>
     rw[K]at y;have F:R=([],5):=y.out;subst F;clear K y;go_wp2;go_ret2;exact fQ (o7 (q.out.alloc L _) J.out)
    | true=>
     rw[K]at y;have F:R=([⟨⟨62,0,0,0,D⟩,nm.data.toList,false,[]⟩],0):=y.out;subst F;clear K y;go_wp2;go_ret2;exact mE (p:=⟨⟨62,0,0,0,D⟩,nm.data.toList,false,[]⟩) (o7 (q.out.alloc L _) J.out)
   (have Q:(t.kind != 119)=true:=by simp[u]);have y:R=([],4):=A.out.trans (qT u _ _ _ _);subst y;clear A u j I;go_wp2;go_ret2;exact fQ q.out
def VO (t:aI) (l:List aI) (g o cap) (w) (hl:l.length<=1999) (U:g<w.heap.size) (af:l.length+1<=cap) (Q:gK t l g o w) (K:∀u∈l,-1099511627776<=u.num/\u.num<=1099511627776) (hk:(t.kind==46)=false) (X:t.text=[108,105]):
    Calls prog 243 #[.slice (some ⟨g,o,none⟩) (l.length+1) cap] w λ e w'=>gM (cU t l).1 (cU t l).2 w e w':=by
 obtain ⟨t0,t1,_,_⟩:=Q 0 t rfl;simp only[Nat.zero_mul,Nat.add_zero]at t0 t1;have C:Hid (cU t l=kR t.kind [108,105] (aL l [114,44,105] [] 0 ⟨#[]⟩)):=aB (by unfold cU;rw[X];rfl)
 have hS:t.S.toList=[108,105]:=(hQ t).trans X;generalize hR:cU t l=R at *;clear hR X;generalize W:l.length+1=n at *;have HL:=aB W;have HT:=aB (sO (cap:=cap-1) W Q U);have E:=aB (λ (v:Value) (L:kx w v l)=>o8 l ⟨#[114,44,105]⟩ v w (by omega) L)
 have dQ:0<n:=by omega
 have ax:(0:Int)<n:=by omega
 have aw:n<=2000:=by omega
 clear W hl Q;generalize t.S=s at *;go_in;go_upto_region 42 with fail;go_cut [0,12,13,14,15] (λ l0 v M nm ok wx=>l0=.slice (some ⟨g,o,none⟩) n cap/\rH l [114,44,105] w v M nm ok wx)
 case first=>
  go_wp2_with fail
  all_goals
   first
   | ((have hq:n=1:=by omega);refine (aM E _ (qd (aM HL) hq)).mono ?_;clear hq)
   | (refine (aM E _ (aM HT)).mono ?_)
   rintro e wx ⟨A,j⟩;replace A:fM (aL l [114,44,105] [] 0 ⟨#[]⟩) w e wx:=A;have q:=aB j;clear j
   cases hop:aL l [114,44,105] [] 0 ⟨#[]⟩ with
   | none=>
    rw[hop]at A;have D:=aB hop;clear hop;simp only[fM]at A;subst A;go_wp2_with fail;go_meet;case rel=>exact ⟨by first|rfl|rw[‹cap=1›],by rw[aM D],q.out⟩
   | some r=>
    obtain ⟨Z,M,nm⟩:=r;rw[hop]at A;have D:=aB hop;clear hop;simp only[fM]at A;obtain ⟨v,he,h⟩:=A;have P:=aB h;clear h;subst he;go_wp2_with fail;go_meet;case rel=>exact ⟨by first|rfl|rw[‹cap=1›],by rw[aM D];exact ⟨rfl,rfl,rfl,P.out⟩,q.out⟩
 case rest=>
  obtain ⟨rfl,O,j⟩:=hcut;replace t0:=(j.cell (p:=⟨g,o,none⟩) U).trans t0;replace t1:=(j.cell (p:=⟨g,o+1,none⟩) U).trans t1;have Y:w.heap.size<=wc.heap.size:=j.size;have au:g<wc.heap.size:=by omega
  have q:=aB j;clear j E HT
  cases hop:aL l [114,44,105] [] 0 ⟨#[]⟩ with
  | none=>
   rw[hop]at O C;have G:R=([],4):=C.out;subst G;clear hop C;subst O;go_wp2;go_ret2;exact fQ q.out
  | some r=>
   obtain ⟨Z,M,nm⟩:=r;rw[hop]at O C;(have J:=pn _ _ _ _ _ _ _ _ hop K (by omega));(have F:Z.length=1:=by have:=oa _ _ _ _ _ _ _ _ hop;simpa using this);clear hop;obtain ⟨e1,e2,e3,h⟩:=O;subst e1 e2 e3;by_cases y:t.kind=119
   .have V:(t.kind != 119)=false:=by simp[y]
    obtain ⟨N,rfl⟩:∃N,Z=[N]:=Bj F;(obtain ⟨g2,H,L,ar,ag,T,I⟩:=rX h (by simp));replace L:u12=.slice (some ⟨g2,0,none⟩) 1 H:=L;subst L;have z0:wc.cell? ⟨g2,0,none⟩=some (.int .i64 N):=I 0 _ rfl;clear I;clear F h;(have G:R=kN N M:=C.out.trans (by rw[kv y];rfl));subst G;clear C y;go_wp2_with fail;refine (Qu N M _ J.1 J.2).mono ?_;intro e w5 A;have HO:=aB A;clear A;obtain ⟨ao,m,cp,rfl,h,hB⟩:=id HO.out;clear h hB;go_wp2;go_ret2;exact ua (q.out.alloc Y _) HO.out
   (have V:(t.kind != 119)=true:=by simp[y]);have G:R=([],4):=C.out.trans (qT y _ _ _ _);subst G;clear C y h F;go_wp2;go_ret2;exact fQ q.out
def H1 (t:aI) (l:List aI) (g o cap) (w) (hl:l.length<=1999) (Q:g<w.heap.size) (aa:l.length+1<=cap) (P:gK t l g o w) (hk:(t.kind==46)=false) (I:t.text=[110,111,112]\/t.text=[114,101,116]):
    Calls prog 243 #[.slice (some ⟨g,o,none⟩) (l.length+1) cap] w λ e w'=>gM (cU t l).1 (cU t l).2 w e w':=by
 rcases I with I|I
 all_goals
  obtain ⟨t0,t1,_,_⟩:=P 0 t rfl;simp only[Nat.zero_mul,Nat.add_zero]at t0 t1;have A:Hid (cU t l=kR t.kind t.text (aL l [] [] 0 ⟨#[]⟩)):=aB (by unfold cU;rw[I];rfl)
  rw[I]at A;have hS:=(hQ t).trans I;generalize hR:cU t l=R at *;clear hR I;generalize V:l.length+1=n at *;have HL:=aB V;have Z:=aB (sO (cap:=cap-1) V P Q);have F:=aB (λ (v:Value) (hv:kx w v l)=>o8 l ⟨#[]⟩ v w (by omega) hv)
  have dQ:0<n:=by omega
  have am:(0:Int)<n:=by omega
  have al:n<=2000:=by omega
  clear V hl P;generalize t.S=s at *;go_in;go_upto_region 42 with fail;go_cut [0,12,13,14,15] (λ l0 v W nm ok Y=>l0=.slice (some ⟨g,o,none⟩) n cap/\rH l [] w v W nm ok Y)
  case first=>
   go_wp2_with fail
   all_goals
    first
    | ((have hq:n=1:=by omega);refine (aM F _ (qd (aM HL) hq)).mono ?_;clear hq)
    | (refine (aM F _ (aM Z)).mono ?_)
    rintro e Y ⟨C,h⟩;replace C:fM (aL l [] [] 0 ⟨#[]⟩) w e Y:=C;have q:=aB h;clear h
    cases hop:aL l [] [] 0 ⟨#[]⟩ with
    | none=>
     rw[hop]at C;have D:=aB hop;clear hop;simp only[fM]at C;subst C;go_wp2_with fail;go_meet;case rel=>exact ⟨by first|rfl|rw[‹cap=1›],by rw[aM D],q.out⟩
    | some r=>
     obtain ⟨X,W,nm⟩:=r;rw[hop]at C;have D:=aB hop;clear hop;simp only[fM]at C;obtain ⟨v,he,j⟩:=C;have O:=aB j;clear j;subst he;go_wp2_with fail;go_meet;case rel=>exact ⟨by first|rfl|rw[‹cap=1›],by rw[aM D];exact ⟨rfl,rfl,rfl,O.out⟩,q.out⟩
  case rest=>
   obtain ⟨rfl,N,h⟩:=hcut;replace t0:=(h.cell (p:=⟨g,o,none⟩) Q).trans t0;replace t1:=(h.cell (p:=⟨g,o+1,none⟩) Q).trans t1;have M:w.heap.size<=wc.heap.size:=h.size;(have aj:g<wc.heap.size:=by omega);have q:=aB h;clear h F Z
   cases hop:aL l [] [] 0 ⟨#[]⟩ with
   | none=>
    rw[hop]at N A;have y:R=([],4):=A.out;subst y;clear hop A;subst N;go_wp2;go_ret2;exact fQ q.out
   | some r=>
    obtain ⟨X,W,nm⟩:=r;rw[hop]at N A;(have H:X.length=0:=by have:=oa _ _ _ _ _ _ _ _ hop;simpa using this);clear hop;obtain ⟨e1,e2,e3,j⟩:=N;subst e1 e2 e3;by_cases u:t.kind=119
    .have U:(t.kind != 119)=false:=by simp[u]
     obtain rfl:X=[]:=List.eq_nil_of_length_eq_zero H;clear H j
     first
     | ((have y:Hid (R=if right ⟨29,0,0,0,0⟩ then ([⟨⟨29,0,0,0,0⟩,nm.data.toList,false,[]⟩],0) else ([],5)):=aB (A.out.trans (by rw[kv u];rfl)));obtain ⟨K,J⟩:∃K,right ⟨29,0,0,0,0⟩=K:=⟨_,rfl⟩)
     | ((have y:Hid (R=if right ⟨49,0,1,0,0⟩ then ([⟨⟨49,0,1,0,0⟩,nm.data.toList,false,[]⟩],0) else ([],5)):=aB (A.out.trans (by rw[kv u];rfl)));obtain ⟨K,J⟩:∃K,right ⟨49,0,1,0,0⟩=K:=⟨_,rfl⟩)
     clear A u;go_wp2_with fail;refine zK (lV ⟨_,_,_,_,_⟩ _) λ w5 G=>?_;(obtain ⟨i0,i1,i2,i3,i4⟩:=uE (wc:=wc) (T:=26) G (by show wc.heap.size<(wc.alloc _).heap.size;simp) (λ _=>rfl));have L:=aB G;clear G;rw[J]
     cases K with
     | false=>
      rw[J]at y;have E:R=([],5):=y.out;subst E;clear J y;go_wp2;go_ret2;exact fQ (o7 (q.out.alloc M _) L.out)
     | true=>
      rw[J]at y;have E:R=([⟨_,nm.data.toList,false,[]⟩],0):=y.out;subst E;clear J y;go_wp2;go_ret2;exact mE (p:=⟨_,nm.data.toList,false,[]⟩) (o7 (q.out.alloc M _) L.out)
    (have U:(t.kind != 119)=true:=by simp[u]);have y:R=([],4):=A.out.trans (qT u _ _ _ _);subst y;clear A u j H;go_wp2;go_ret2;exact fQ q.out
