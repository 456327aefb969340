import Derived.Test.YtbmcofdodfcnnaaGreatDoorGY
set_option linter.all false
set_option maxHeartbeats 0
set_option maxRecDepth 100000
namespace Go
open Proofs.Tryz RowKit
variable {F ns ns' : ByteArray} {w wr : World} {n q base : Nat} {rs rs' : List Int} {nn : Int} {xs : List Value}
def UI (kd N) (S) (bl) (w):
    aG prog 241 #[.agg #[.int .u8 kd,.string S,.int .i64 N,.bool bl]] w (.int .i64 (gE kd S)):=by
 unfold aG;have V:=iF S;by_cases L:(kd != 119)=true
 .go_in
  go_wp2;go_ret;exact ⟨fZ (nH (λ h=>by simp[h.1]at L)).symm,aJ⟩
 have E:(kd != 119)=false:=by simpa using L
 clear L;by_cases h2:(S.size:Int)<2
 .go_in
  go_wp2;go_ret;exact ⟨fZ (nH (λ h=>by omega)).symm,aJ⟩
 by_cases h3:(3:Int)<S.size
 .go_in
  go_wp2;go_ret;exact ⟨fZ (nH (λ h=>by omega)).symm,aJ⟩
 have hz:0<S.size:=by omega
 have X:(0:Int)<S.size:=by omega
 by_cases hx:(((B S 0).toNat:Int) != 120)=true
 .go_in
  go_wp2;go_ret;exact ⟨fZ (nH (λ h=>by simp[h.2.2.2.1]at hx)).symm,aJ⟩
 have I:(((B S 0).toNat:Int) != 120)=false:=by simpa using hx
 clear hx;go_in;go_wp2_with fail;go_loopw [3,4] (λ n i Y=>∃k:Nat,1<=k/\k<=S.size/\i=.int .i64 k/\n=.int .i64 (dX S 1 k)/\Hid (lA S k=true)/\w.alloc (.cells #[.int .u8 kd,.string S,.int .i64 N,.bool bl] 268)=Y) (λ _ i _=>S.size-(intOf i).toNat)
 case atStart=>exact ⟨1,by omega,by omega,rfl,by rw[po],MT S,rfl⟩
 case round=>
  obtain ⟨k,y,O,rfl,rfl,J,W⟩:=hrel;subst W;have nb:=rY S 1 k y O (by omega) (so J.out)
  by_cases F:k<S.size
  .have G:(k:Int)<S.size:=by omega
   (have Z:((B S k).toNat:Int)<=255:=by have:=(B S k).toNat_lt;omega);by_cases v:cA (B S k).toNat=true
   .have R:=aB (qw S 1 k y F)
    generalize j:dX S 1 k=M at *;have q:=aB j;clear j;go_wp2_with (go_at_call 208;refine zk (gG _ _) ?_);go_roundw;(case rel=>exact ⟨k+1,by omega,by omega,by go_num,by rw[aM R],Lf J.out v,by first|rfl|trivial⟩);case measure=>simp[intOf];omega
   (have D:cA (B S k).toNat=false:=by simpa using v);clear v;generalize j:dX S 1 k=M at *;have q:=aB j;clear j;go_wp2_with (go_at_call 208;refine zk (gG _ _) ?_);go_ret;exact ⟨fZ (nH (λ h=>QJ y F D h.2.2.2.2.1)).symm,aJ⟩
  have P:k=S.size:=by omega
  subst P;have G:¬(S.size:Int)<S.size:=by omega
  have U:(1:Int)<S.size:=by omega
  have T:1<S.size:=by omega
  generalize j:dX S 1 S.size=M at *;have q:=aB j;clear j;by_cases K:31<M
  .go_wp2
   go_ret;exact ⟨fZ (nH (λ h=>by have:=h.2.2.2.2.2.1;rw[aM q]at this;omega)).symm,aJ⟩
  have Q:¬31<M:=K;by_cases A:((S.size:Int)==3)=true
  .by_cases u:(((B S 1).toNat:Int)==48)=true
   .go_wp2
    go_ret;exact ⟨fZ (nH (λ h=>h.2.2.2.2.2.2 ⟨by simp at A;omega,by simp at u;omega⟩)).symm,aJ⟩
   (have C:(((B S 1).toNat:Int)==48)=false:=by simpa using u);clear u;go_wp2;go_ret;refine ⟨fZ ?_,aJ⟩;unfold gE;rw[zt ⟨by simpa using E,by omega,by omega,by simp at I;omega,J.out,by rw[aM q];omega,λ h=>by simp[h.2]at C⟩,aM q]
  have H:((S.size:Int)==3)=false:=by simpa using A
  clear A;go_wp2;go_ret;refine ⟨fZ ?_,aJ⟩;unfold gE;rw[zt ⟨by simpa using E,by omega,by omega,by simp at I;omega,J.out,by rw[aM q];omega,λ h=>by simp[h.1]at H⟩,aM q]
def kx (w:World) (v:Value) (L:List aI):Prop:=
 ∃ao cap,v=.slice ao L.length cap/\(L≠[]->∃g o,ao=some ⟨g,o,none⟩/\g<w.heap.size/\∀k t,L[k]?=some t->
  w.cell? ⟨g,o+k*4,none⟩=some (.int .u8 t.kind)/\w.cell? ⟨g,o+k*4+1,none⟩=some (.string t.S)/\w.cell? ⟨g,o+k*4+2,none⟩=some (.int .i64 t.num)/\w.cell? ⟨g,o+k*4+3,none⟩=some (.bool t.blank))
def fM (o:Option (List Int×Int×ByteArray)) (w:World) (e:Ending) (w':World):Prop:=
 match o with
 | none=>e=.returned (.tuple #[.slice none 0 0,.int .i64 0,.string ⟨#[]⟩,.bool false])
 | some (rs,n,nm)=>∃v,e=.returned (.tuple #[v,.int .i64 n,.string nm,.bool true])/\w'.ownsRow w.heap.size 3 1 v rs.length (rs.map (.int .i64))
def IB (L:List aI) (F:ByteArray) (w:World) (regs n nm k:Value) (wr:World):Prop:=
 ∃(q:Nat) (rs:List Int) (nn:Int) (ns:ByteArray),q<=L.length/\rs.length<=q/\k=.int .i64 q/\n=.int .i64 nn/\nm=.string ns/\wr.ownsRow w.heap.size 3 1 regs rs.length (rs.map (.int .i64))/\
  Hid (aL L F.data.toList [] 0 ⟨#[]⟩=aL (L.drop q) (F.data.toList.drop q) rs nn ns)/\Below w.heap.size w wr
def infoInt:(prog.info? 3).map (λ i=>(i.zero,i.size,i.bytes))=some (some (.int .i64 0),1,8):=by kernel_rfl
def lp {L:List aI} {regs n nm:Value} {h:Int} {t:aI} (C:L[q]?=some t) (hF:q<F.size) (A:q<L.length) (I:rs'.length<=q+1) (u:aL L F.data.toList [] 0 ⟨#[]⟩=aL (L.drop q) (F.data.toList.drop q) rs nn ns) (v:∀l y,aL (t::l) (B F q::y) rs nn ns=aL l y rs' h ns') (H:n=.int .i64 h) (G:nm=.string ns') (j:wr.ownsRow w.heap.size 3 1 regs rs'.length (rs'.map (.int .i64))) (E:Below w.heap.size w wr):
    ∀D:Value,D=.int .i64 ((q+1:Nat):Int)->IB L F w regs n nm D wr:=by
 rintro _ rfl;refine ⟨q+1,rs',h,ns',by omega,I,rfl,H,G,j,?_,E⟩
 show aL L F.data.toList [] 0 ⟨#[]⟩=_;rw[u,iY F q hF,List.drop_eq_getElem_cons A];have:L[q]=t:=by rw[zg A]at C;exact Option.some.inj C
 rw[this,v]
def sJ {L:List aI} {t:aI} {e:Ending} (v:L[q]?=some t) (hF:q<F.size) (u:q<L.length) (h:aL L F.data.toList [] 0 ⟨#[]⟩=aL (L.drop q) (F.data.toList.drop q) rs nn ns) (j:∀l y,aL (t::l) (B F q::y) rs nn ns=none) (A:e=.returned (.tuple #[.slice none 0 0,.int .i64 0,.string ⟨#[]⟩,.bool false])):fM (aL L F.data.toList [] 0 ⟨#[]⟩) w e wr:=by
 rw[h,iY F q hF,List.drop_eq_getElem_cons u];have:L[q]=t:=by rw[zg u]at v;exact Option.some.inj v
 rw[this,j];exact A
def lZ {w':World} {e:TypeId} {size:Nat} {v:Value} (h:w.ownsRow base e size v n xs) (j:Below w.heap.size w w'):w'.ownsRow base e size v n xs:=
 h.kept (row:=none) ⟨j.os,j.tape,j.output,j.size,λ k q _=>j.block k q⟩ (by cases u:v.ownBlock;exact .inl rfl;exact .inr (by simp))
def uz {e:TypeId} {size:Nat} {v:Value} (h:w.ownsRow base e size v n xs) (d):(w.drewN d).ownsRow base e size v n xs:=h
def Oi {L:List aI} (h:aL L F.data.toList [] 0 ⟨#[]⟩=aL (L.drop q) (F.data.toList.drop q) rs nn ns) (j:L.length<=q) (u:F.size<=q):
    aL L F.data.toList [] 0 ⟨#[]⟩=some (rs,nn,ns):=by
 rw[h,List.drop_eq_nil_of_le j,List.drop_eq_nil_of_le (by simpa using u),tN]
def Kz (L:List aI) (F) (g o cap) (w) (hl:L.length<=2000) (hg:g<w.heap.size) (ae:L.length=F.size) (hc:∀k t,L[k]?=some t->w.cell? ⟨g,o+k*4,none⟩=some (.int .u8 t.kind)/\w.cell? ⟨g,o+k*4+1,none⟩=some (.string t.S)/\w.cell? ⟨g,o+k*4+2,none⟩=some (.int .i64 t.num)/\w.cell? ⟨g,o+k*4+3,none⟩=some (.bool t.blank)):
    Calls prog 209 #[.slice (some ⟨g,o,none⟩) L.length cap,.string F] w λ e w'=>fM (aL L F.data.toList [] 0 ⟨#[]⟩) w e w'/\Below w.heap.size w w':=by
 obtain ⟨i0,hi,an,ao,aq⟩:=info_parts infoInt;have HC:=aB hc;clear hc;generalize hn:L.length=n at *;have HL:=aB hn;have HF:=aB ae;have bc:(n:Int)<=2000:=by omega
 have a7:(F.size:Int)=n:=by omega
 clear hn ae;go_in;go_wp2_with fail;go_loopw [8,9,10,11] (λ regs a nm k wr=>IB L F w regs a nm k wr) (λ _ _ _ k _=>n-(intOf k).toNat)
 case atStart=>exact ⟨0,[],0,⟨#[]⟩,by omega,by simp,rfl,rfl,rfl,World.ownsRow_nil _ _ _ _,by simp[Hid],aU⟩
 case round=>
  obtain ⟨q,rs,nn,ns,am,bb,rfl,rfl,rfl,T,y,U⟩:=hrel;rw[aM HL]at am;have HO:Hid (wr.ownsRow w.heap.size 3 1 u8 rs.length (rs.map (.int .i64))):=T;have HB:Hid (Below w.heap.size w wr):=U;have bd:w.heap.size<=wr.heap.size:=U.size;clear T;have a6:=iF F;by_cases al:q<n
  .have aw:(q:Int)<n:=by omega
   (have u:q<F.size:=by have:=aM HF;omega);(have j:q<L.length:=by rw[aM HL];exact al);obtain ⟨t,Y⟩:∃t,L[q]?=some t:=⟨L[q],zg j⟩;obtain ⟨x0,x1,x2,x3⟩:=(aM HC) q t Y;have y0:=(U.cell (p:=⟨g,o+q*4,none⟩) hg).trans x0;have y1:=(U.cell (p:=⟨g,o+q*4+1,none⟩) hg).trans x1;have y2:=(U.cell (p:=⟨g,o+q*4+2,none⟩) hg).trans x2;have y3:=(U.cell (p:=⟨g,o+q*4+3,none⟩) hg).trans x3;have I:=aB Y;clear x0 x1 x2 x3 U Y;by_cases f1:(((B F q).toNat:Int)==114)=true
   ·-- a cK
    have C:Hid (B F q=114):=wP f1;(go_upto_region 13 with (go_at_call 241;refine zK (UI t.kind t.num t.S t.blank _) λ w3 V=>?_;(have M:Hid (Below w.heap.size w w3):=(HB.out.alloc HB.out.size _).trans (V.mono (by simp;omega)));(have ab:Hid (w3.ownsRow w.heap.size 3 1 u8 rs.length (rs.map (.int .i64))):=lZ (HO.out.alloc _) V);clear V));have ba:=Gs t.kind t.S;by_cases N:gE t.kind t.S<0
    .go_wp2_with fail
     exact zp (v:=.tuple #[.slice none 0 0,.int .i64 0,.string ⟨#[]⟩,.bool false]) (by simp[results,results209,go_sem]) rfl ⟨sJ (aM I) u j y.out (λ l A=>CV C.out t l A rs nn ns N) rfl,M.out⟩
    go_wp2_with (first
     | (at_builtin;refine wpList_append_own _ rfl _ _ 49 rfl w.heap.size 3 i0 (.int .i64 0) 1 8 underlying49 hi an ao aq rfl (by decide) _ rs.length _ rfl (ab.out.alloc _) ⟨w3.heap.size,0,none⟩ 1 1 [_] rfl rfl (cell_one_new _ _ _) ?h1 ?h63 ?hby ?hbase ?_
        (case h1=>intro x hx;simp at hx;subst hx;rfl);(case h63=>unfold maxLen;omega);(case hby=>omega);(case hbase=>have:=M.out.size;simp;omega);intro v' w4 O J W;(have X:Hid (w4.ownsRow w.heap.size 3 1 v' (rs.length+1) _/\Below w.heap.size w w4):=⟨O,Below.grown (M.out.alloc M.out.size _) J (by have:=M.out.size;simp;omega) (λ q hq=>(ab.out.lt q hq).1)⟩);clear O J W))
    go_roundw;(case rel=>first|exact lp (rs':=rs++[gE t.kind t.S]) (aM I) u j (by simp;omega) y.out (λ l A=>Ao C.out t l A rs nn ns N) rfl rfl (by simpa using X.out.1) X.out.2 _ (by go_num)|((repeat apply Exists.intro);refine ⟨?_,rfl⟩;exact lp (rs':=rs++[gE t.kind t.S]) (aM I) u j (by simp;omega) y.out (λ l A=>Ao C.out t l A rs nn ns N) rfl rfl (by simpa using X.out.1) X.out.2 _ (by go_num)));case measure=>simp[intOf];omega
   (have aj:(((B F q).toNat:Int)==114)=false:=by simpa using f1);(have C:Hid (B F q≠114):=vY (n:=114) (by omega) aj);clear f1;have D:Hid (Below w.heap.size w (wr.alloc (.cells #[.int .u8 t.kind,.string t.S,.int .i64 t.num,.bool t.blank] 268))):=HB.out.alloc HB.out.size _;have H:Hid ((wr.alloc (.cells #[.int .u8 t.kind,.string t.S,.int .i64 t.num,.bool t.blank] 268)).ownsRow w.heap.size 3 1 u8 rs.length (rs.map (.int .i64))):=HO.out.alloc _;by_cases f2:(((B F q).toNat:Int)==105)=true
   .have E:Hid (B F q=105):=wP f2
    (have f3:(((B F q).toNat:Int)==116)=false:=by rw[E.out];rfl);by_cases Q:(t.kind==105)=true
    .go_wp2
     go_roundw;(case rel=>first|exact lp (aM I) u j (by omega) y.out (λ l A=>qY C.out (.inl E.out) t l A rs nn ns (by simpa using Q)) rfl rfl H.out D.out _ (by go_num)|((repeat apply Exists.intro);refine ⟨?_,rfl⟩;exact lp (aM I) u j (by omega) y.out (λ l A=>qY C.out (.inl E.out) t l A rs nn ns (by simpa using Q)) rfl rfl H.out D.out _ (by go_num)));case measure=>simp[intOf];omega
    (have K:(t.kind==105)=false:=by simpa using Q);(have R:(((B F q).toNat:Int)==t.kind)=false:=by rw[E.out];simp at Q ⊢;omega);clear Q;go_wp2_with fail;go_quiet (fail);go_wp2_with fail;exact zp (v:=.tuple #[.slice none 0 0,.int .i64 0,.string ⟨#[]⟩,.bool false]) (by simp[results,results209,go_sem]) rfl ⟨sJ (aM I) u j y.out (λ l A=>pJ C.out t l A rs nn ns (λ h=>by simp[h.2]at K) (λ h=>by have:=h.1;rw[E.out]at this;exact absurd this (by decide)) (λ h=>h.2 E.out)) rfl,below_drewN D.out _⟩
   (have ac:(((B F q).toNat:Int)==105)=false:=by simpa using f2);(have E:Hid (B F q≠105):=vY (n:=105) (by omega) ac);(have a5:(((B F q).toNat:Int) != 105)=true:=by simpa using ac);clear f2;by_cases f3:(((B F q).toNat:Int)==116)=true
   .have G:Hid (B F q=116):=wP f3
    by_cases Q:(t.kind==105)=true
    .go_wp2
     go_roundw;(case rel=>first|exact lp (aM I) u j (by omega) y.out (λ l A=>qY C.out (.inr G.out) t l A rs nn ns (by simpa using Q)) rfl rfl (H.out) (D.out) _ (by go_num)|((repeat apply Exists.intro);refine ⟨?_,rfl⟩;exact lp (aM I) u j (by omega) y.out (λ l A=>qY C.out (.inr G.out) t l A rs nn ns (by simpa using Q)) rfl rfl (H.out) (D.out) _ (by go_num)));case measure=>simp[intOf];omega
    (have K:(t.kind==105)=false:=by simpa using Q);clear Q;by_cases k2:(t.kind==119)=true
    .by_cases k3:(t.S.size:Int)<=8
     .go_wp2
      go_roundw;(case rel=>first|exact lp (aM I) u j (by omega) y.out (λ l A=>Al G.out t l A rs nn ns (by simpa using k2) (by omega)) rfl rfl (H.out) (D.out) _ (by go_num)|((repeat apply Exists.intro);refine ⟨?_,rfl⟩;exact lp (aM I) u j (by omega) y.out (λ l A=>Al G.out t l A rs nn ns (by simpa using k2) (by omega)) rfl rfl (H.out) (D.out) _ (by go_num)));case measure=>simp[intOf];omega
     (have bg:decide ((t.S.size:Int)<=8)=false:=by simpa using k3);(have P:(((B F q).toNat:Int)==t.kind)=false:=by rw[G.out];simp at k2 ⊢;omega);go_wp2_with fail;go_quiet (fail);go_wp2_with fail;exact zp (v:=.tuple #[.slice none 0 0,.int .i64 0,.string ⟨#[]⟩,.bool false]) (by simp[results,results209,go_sem]) rfl ⟨sJ (aM I) u j y.out (λ l A=>pJ C.out t l A rs nn ns (λ h=>by simp[h.2]at K) (λ h=>by have:=h.2.2;omega) (λ h=>by simp[h.1]at P)) rfl,below_drewN D.out _⟩
    (have R:(t.kind==119)=false:=by simpa using k2);clear k2;by_cases P:(((B F q).toNat:Int)==t.kind)=true
    .go_wp2_with fail
     go_quiet (fail);go_wp2;go_roundw;(case rel=>first|exact lp (aM I) u j (by omega) y.out (λ l A=>ti C.out t l A rs nn ns (λ h=>by simp[h.2]at K) (λ h=>by simp[h.2.1]at R) (by simpa using P) E.out) rfl rfl (uz H.out _) (below_drewN D.out _) _ (by go_num)|((repeat apply Exists.intro);refine ⟨?_,rfl⟩;exact lp (aM I) u j (by omega) y.out (λ l A=>ti C.out t l A rs nn ns (λ h=>by simp[h.2]at K) (λ h=>by simp[h.2.1]at R) (by simpa using P) E.out) rfl rfl (uz H.out _) (below_drewN D.out _) _ (by go_num)));case measure=>simp[intOf];omega
    (have Z:(((B F q).toNat:Int)==t.kind)=false:=by simpa using P);clear P;go_wp2_with fail;go_quiet (fail);go_wp2_with fail;exact zp (v:=.tuple #[.slice none 0 0,.int .i64 0,.string ⟨#[]⟩,.bool false]) (by simp[results,results209,go_sem]) rfl ⟨sJ (aM I) u j y.out (λ l A=>pJ C.out t l A rs nn ns (λ h=>by simp[h.2]at K) (λ h=>by simp[h.2.1]at R) (λ h=>by simp[h.1]at Z)) rfl,below_drewN D.out _⟩
   (have ak:(((B F q).toNat:Int)==116)=false:=by simpa using f3);(have G:Hid (B F q≠116):=vY (n:=116) (by omega) ak);clear f3;by_cases P:(((B F q).toNat:Int)==t.kind)=true
   .go_wp2_with fail
    go_quiet (fail);go_wp2;go_roundw;(case rel=>first|exact lp (aM I) u j (by omega) y.out (λ l A=>ti C.out t l A rs nn ns (λ h=>h.1.elim E.out G.out) (λ h=>G.out h.1) (by simpa using P) E.out) rfl rfl (uz H.out _) (below_drewN D.out _) _ (by go_num)|((repeat apply Exists.intro);refine ⟨?_,rfl⟩;exact lp (aM I) u j (by omega) y.out (λ l A=>ti C.out t l A rs nn ns (λ h=>h.1.elim E.out G.out) (λ h=>G.out h.1) (by simpa using P) E.out) rfl rfl (uz H.out _) (below_drewN D.out _) _ (by go_num)));case measure=>simp[intOf];omega
   (have Z:(((B F q).toNat:Int)==t.kind)=false:=by simpa using P);clear P;go_wp2_with fail;go_quiet (fail);go_wp2_with fail;exact zp (v:=.tuple #[.slice none 0 0,.int .i64 0,.string ⟨#[]⟩,.bool false]) (by simp[results,results209,go_sem]) rfl ⟨sJ (aM I) u j y.out (λ l A=>pJ C.out t l A rs nn ns (λ h=>h.1.elim E.out G.out) (λ h=>G.out h.1) (λ h=>by simp[h.1]at Z)) rfl,below_drewN D.out _⟩
  have a9:q=n:=by omega
  have HE:=aB (Oi y.out (by rw[aM HL];omega) (by have:=aM HF;omega))
  go_wp2;refine zp (v:=.tuple #[u8,.int .i64 nn,.string ns,.bool true]) (by simp[results,results209,go_sem]) rfl ⟨?_,HB.out⟩
  rw[aM HE];exact ⟨u8,rfl,HO.out⟩
def Ka (ao) (n cap) (F) (w) (h:n≠F.size):
    zS prog 209 #[.slice ao n cap,.string F] w (.tuple #[.slice none 0 0,.int .i64 0,.string ⟨#[]⟩,.bool false]):=by
 unfold zS;have j:((n:Int) != F.size)=true:=by simp;omega
 clear h;go_in;go_wp2_with fail;exact zp (v:=.tuple #[.slice none 0 0,.int .i64 0,.string ⟨#[]⟩,.bool false]) (by simp[results,results209,go_sem]) rfl ⟨rfl,rfl⟩
def Kn (ao) (cap) (F) (w) (h:F.size=0):
    zS prog 209 #[.slice ao 0 cap,.string F] w (.tuple #[.slice none 0 0,.int .i64 0,.string ⟨#[]⟩,.bool true]):=by
 unfold zS;go_in;go_wp2_with fail;go_loop [8,9,10,11] (λ a b c k=>a=.slice none 0 0/\b=.int .i64 0/\c=.string ⟨#[]⟩/\k=.int .i64 0) (λ _ _ _ _=>0)
 case atStart=>exact ⟨rfl,rfl,rfl,rfl⟩
 case round=>
  obtain ⟨rfl,rfl,rfl,rfl⟩:=hrel;go_wp2_with fail;exact zp (v:=.tuple #[.slice none 0 0,.int .i64 0,.string ⟨#[]⟩,.bool true]) (by simp[results,results209,go_sem]) rfl ⟨rfl,rfl⟩
def o8 (L:List aI) (F) (v) (w) (D:L.length<=2000) (E:kx w v L):
    Calls prog 209 #[v,.string F] w λ e w'=>fM (aL L F.data.toList [] 0 ⟨#[]⟩) w e w'/\Below w.heap.size w w':=by
 obtain ⟨q,cap,rfl,A⟩:=E;by_cases h:L.length=F.size
 .by_cases u:L=[]
  .subst u
   (have y:F.size=0:=by simpa using h.symm);refine zk (Kn q cap F w y) ?_;refine ⟨?_,aU⟩;(have:F.data.toList=[]:=List.eq_nil_of_length_eq_zero (by simpa using y));rw[this,tN];exact ⟨_,rfl,World.ownsRow_nil _ _ _ _⟩
  obtain ⟨g,o,rfl,C,j⟩:=A u;exact Kz L F g o cap w D C h j
 refine zk (Ka q _ cap F w h) ?_;refine ⟨?_,aU⟩;rw[Bt _ _ _ _ _ (by simpa using h)]
 rfl
def vh (s) (c) (w) (F:s.size<=2000):
    zS prog 163 #[.string s,.int .u8 c] w (.int .i64 (aR s c s.size)):=by
 unfold zS;have y:=iF s;go_in;go_wp2_with fail;go_loop [5,6] (λ n i=>∃k:Nat,k<=s.size/\i=.int .i64 k/\n=.int .i64 (aR s c k)) (λ _ i=>s.size-(intOf i).toNat)
 case atStart=>exact ⟨0,by omega,rfl,rfl⟩
 case round=>
  obtain ⟨k,E,rfl,rfl⟩:=hrel;have D:=mh s c k;by_cases C:k<s.size
  .by_cases q:(((B s k).toNat:Int)==c)=true
   .have j:=aB (Rm q)
    generalize h:aR s c k=N at *;have v:=aB h;clear h;go_wp2_with fail;go_round;(case rel=>exact ⟨k+1,by omega,by go_num,by rw[aM j]⟩);case measure=>simp[intOf];omega
   (have u:(((B s k).toNat:Int)==c)=false:=by simpa using q);clear q;have j:=aB (UN u);generalize h:aR s c k=N at *;have v:=aB h;clear h;go_wp2_with fail;go_round;(case rel=>exact ⟨k+1,by omega,by go_num,by rw[aM j]⟩);case measure=>simp[intOf];omega
  have A:k=s.size:=by omega
  go_wp2;go_ret;exact ⟨rfl,rfl⟩
