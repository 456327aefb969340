import Derived.Test.YtbmcofdodfcnnaaGreatDoorGZN
set_option linter.all false
set_option maxHeartbeats 0
set_option maxRecDepth 100000
namespace Go
open Proofs.Tryz RowKit
variable {a b c base e i : Nat} {T : TypeId} {p : Int} {y z : World} {xs : List Value}
def qP {mem:List Int} (n) (h:a<mem.length) (j:0<=mem.getD a 0/\mem.getD a 0<256):aP (cF mem a (n+1))=mem.getD a 0+256*aP (cF mem (a+1) n):=by
 have e:mem.getD a 0=mem[a]:=by simp[zG,h]
 unfold cF;rw[List.drop_eq_getElem_cons h,List.take_succ_cons,List.map_cons,aP,e];rw[e]at j
 have:((UInt8.ofNat mem[a].toNat).toNat:Int)=mem[a]:=by
  rw[UInt8.toNat_ofNat'];omega
 rw[this]
def Ag {mem regs:List Int} {pc:Int} {w:World} (h:aK T b mem regs pc w) (k):0<=mem.getD k 0/\mem.getD k 0<256:=by
 by_cases j:k<mem.length
 .have e:mem.getD k 0=mem[k]:=by simp[zG,j]
  rw[e];exact h.byte _ (List.getElem_mem j)
 have e:mem.getD k 0=0:=by simp[zG,Nat.le_of_not_lt j]
 rw[e];omega
def cS.far {mem regs:List Int} {pc:Int} {w0 w:World} (h:cS T b mem regs pc w0 w) (j:b<w0.heap.size) (c q) (v) (u:w0.heap.size<c):cS T b mem regs pc w0 (w.setCell ⟨c,q,none⟩ v):=
 ⟨h.m.far c q v (by omega),h.e.far c q v (by omega),h.k.far c q v (by omega)⟩
def B3 {mem:List Int} (h:a+2<=mem.length) (j:∀k,0<=mem.getD k 0/\mem.getD k 0<256):aP (cF mem a 2)=mem.getD a 0+256*mem.getD (a+1) 0:=by
 rw[qP 1 (by omega) (j _),qP 0 (by omega) (j _)]
 simp[cF,aP]
def Wn {mem:List Int} (h:a+4<=mem.length) (j:∀k,0<=mem.getD k 0/\mem.getD k 0<256):aP (cF mem a 4)=mem.getD a 0+256*mem.getD (a+1) 0+65536*mem.getD (a+2) 0+16777216*mem.getD (a+3) 0:=by
 rw[qP 3 (by omega) (j _),qP 2 (by omega) (j _),qP 1 (by omega) (j _),qP 0 (by omega) (j _)]
 have e0:aP (cF mem (a+1+1+1+1) 0)=0:=by simp[cF,aP]
 rw[e0];have q:a+1+1=a+2:=rfl;have u:a+1+1+1=a+3:=rfl;rw[q];rw[show a+2+1=a+3 from rfl]
 omega
def NN (b) (w) {mem regs:List Int} {pc:Int} (h:aK T b mem regs pc w) (u:bA pc 2=false):
    Calls prog 107 #[.pointer (some ⟨b,0,none⟩)] w (jY T b ((1,pc),mem,regs,pc) w):=by
 have y:=h.lt;have A:=h.cellP;have q:Hid (∀w',Calls prog 178 #[.int .i64 pc,.int .i64 2] w' λ e j=>e=.returned (.bool (bA pc 2))/\j=w'):=aA (λ w'=>nP pc 2 w' (by omega) (by omega))
 rw[u]at q;go_in;go_wp2_with (go_at_call 178;refine (q.out _).mono ?_;rintro e w' ⟨rfl,rfl⟩);refine zp (v:=aO 1 pc) (by simp[results,results107,go_sem,aO]) rfl ⟨rfl,h.alloc _,(aN.refl b w).alloc _⟩
def LR (b a:Nat) (w:World) {mem regs:List Int} (h:aK T b mem regs (a:Int) w) (ha:a+2<=4096) (h3:¬aP (cF mem a 2)%4=3) (G:∀w1,(cE (bY mem a 2)).2=0->aK T b mem regs (a:Int) w1->Calls prog 179 #[.pointer (some ⟨b,0,none⟩),(cE (bY mem a 2)).1.val,.int .i64 2] w1 (jY T b (fJ (cE (bY mem a 2)).1 mem regs a ((a:Int)+2)) w1)):
    Calls prog 107 #[.pointer (some ⟨b,0,none⟩)] w (jY T b (if (cE (bY mem a 2)).2=0 then fJ (cE (bY mem a 2)).1 mem regs a ((a:Int)+2) else ((2,bY mem a 2),mem,regs,(a:Int))) w):=by
 have O:=h.lt;have hh:bA (a:Int) 2=true:=by simp[bA];omega
 have HN:Hid (∀w',Calls prog 178 #[.int .i64 a,.int .i64 2] w' λ e Q=>e=.returned (.bool true)/\Q=w'):=aA (λ w'=>by rw[<-hh];exact nP a 2 w' (by omega) (by omega))
 have P:=Ag h;have e2:=B3 (a:=a) (by rw[h.mlen];omega) P
 have b0:=P a;have b1:=P (a+1);have ab:Hid (bY mem a 2=mem.getD a 0+256*mem.getD (a+1) 0):=aA (by unfold bY;rw[e2];exact zw _ (by omega))
 rw[e2]at h3;rw[ab.out]at G ⊢;have U:=aA (cS.new h 56);have mp:=U.out.m.cellP;have c0:=U.out.m.cellM a (by omega)
 have c1:=U.out.m.cellM (a+1) (by omega)
 have mb:=U.out.m.lt;generalize mem.getD a 0=H at *;generalize mem.getD (a+1) 0=D at *;have wa:IntKind.i64.wrap ((a:Int)+1)=((a+1:Nat):Int):=by rw[show ((a+1:Nat):Int)=(a:Int)+1 from by omega];exact zw _ (by omega)
 have wb:IntKind.i64.wrap (256*D)=256*D:=zw _ (by omega)
 have wc:IntKind.i64.wrap (H+256*D)=H+256*D:=zw _ (by omega)
 have la:(a:Int)<4096:=by omega
 have a7:((a+1:Nat):Int)<4096:=by omega
 have E:Hid (∀w',Calls prog 97 #[.int .i64 (H+256*D)] w' λ e Q=>e=.returned (.tuple #[(cE (H+256*D)).1.val,.int .i64 (cE (H+256*D)).2])/\Below w'.heap.size w' Q):=aA (λ w'=>by rw[<-vr];exact xn _ w')
 generalize hX:cE (H+256*D)=X at *;obtain ⟨⟨xo,xd,x1,x2,xi⟩,xe⟩:=X;simp only at G E ⊢;have V:=aA G;clear G hX;obtain ⟨R,q⟩:∃x,Hid ((if xe=0 then fJ ⟨xo,xd,x1,x2,xi⟩ mem regs a ((a:Int)+2) else ((2,H+256*D),mem,regs,(a:Int)))=x):=⟨_,aA rfl⟩;rw[q.out];unfold aE.val at E V;go_in;go_wp2_with (go_at_call 178;refine (HN.out _).mono ?_;rintro e w' ⟨rfl,rfl⟩);go_quiet (fail);generalize Y:World.drewN _ nq=j;have K:Hid (cS T b mem regs a w j):=aA (by rw[<-Y];exact U.out.next (mL _ nq))
 clear Y U mp c0 c1 mb;have L:=aA (K.out.alloc (.cells #[.int .i64 0,.int .i64 0,.int .i64 0,.int .i64 0,.int .i64 0] 26));generalize a3:H+256*D=N at *;have ht:N.tmod 4=N%4:=Int.tmod_eq_emod_of_nonneg (by omega)
 have wm:IntKind.i64.wrap (N%4)=N%4:=zw _ (by omega)
 have a2:((N%4==3)=false):=by simpa using h3
 go_upto_region 8 with fail;have I:=aA (aF.new j [.int .i64 0,.int .i64 0,.int .i64 0,.int .i64 0,.int .i64 0] 26);generalize M:j.alloc _=W2;rw[show j.alloc (.cells #[.int .i64 0,.int .i64 0,.int .i64 0,.int .i64 0,.int .i64 0] 26)=W2 from M]at L
 rw[show j.alloc (.cells [Value.int .i64 0,.int .i64 0,.int .i64 0,.int .i64 0,.int .i64 0].toArray 26)=W2 from M]at I
 clear M;have C:w.heap.size<j.heap.size:=K.out.e.1;have a6:j.heap.size≠w.heap.size:=by omega
 have az:w.heap.size≠j.heap.size:=by omega
 go_upto_region 16 with (go_at_call 97;refine zK (E.out _) λ w' W=>?_;have A:=L.out.next W;have y:=I.out.next W;obtain ⟨g0,g1,g2,g3,g4⟩:=bF y.2.2;have gf:=y.2.1;have gs:=y.1;obtain ⟨f0,f1⟩:=bE A.e.2.2;have ff:=A.e.2.1;have fs:=A.e.1)
 have u:=aA (((((A.far O j.heap.size 0 (.int .i64 xo) C).far O j.heap.size 1 (.int .i64 xd) C).far O j.heap.size 2 (.int .i64 x1) C).far O j.heap.size 3 (.int .i64 x2) C).far O j.heap.size 4 (.int .i64 xi) C);have J:=aA (((((y.set 0 (.int .i64 xo) (by simp)).set 1 (.int .i64 xd) (by simp)).set 2 (.int .i64 x1) (by simp)).set 3 (.int .i64 x2) (by simp)).set 4 (.int .i64 xi) (by simp))
 clear A y g0 g1 g2 g3 g4 gf gs f0 f1 ff fs L I E HN K;generalize World.setCell _ _ _=W4 at u J ⊢;obtain ⟨g0,g1,g2,g3,g4⟩:=bF J.out.2.2;have gs:=J.out.1;by_cases Z:xe=0
 .subst Z
  rw[zt rfl]at q;go_wp2_with (go_at_call 179;refine (V.out _ rfl u.out.m).mono ?_;rw[q.out];rintro e w' ⟨rfl,ag,af⟩;have F:=cS.fin u.out O ag af;obtain ⟨f0,f1⟩:=bE F.1.2.2;have ff:=F.1.2.1;have fs:=F.1.1;unfold aO);refine zp (v:=aO R.1.1 R.1.2) (by simp[results,results107,go_sem,aO,f0,f1]) rfl ⟨rfl,F.2 _ _⟩
 rw[aC Z]at q;have HF:=aA (cS.fin u.out O u.out.m (aN.refl b W4));obtain ⟨f0,f1⟩:=bE HF.out.1.2.2;have ff:=HF.out.1.2.1;have fs:=HF.out.1.1;go_wp2_with fail;rw[<-q.out];refine zp (v:=aO 2 N) (by simp[results,results107,go_sem,aO,f0,f1]) rfl ⟨rfl,HF.out.2 _ _⟩
def LI (b a:Nat) (w:World) {mem regs:List Int} (h:aK T b mem regs (a:Int) w) (ha:a+4<=4096) (h3:aP (cF mem a 2)%4=3) (G:∀w1,(bW (bY mem a 4)).2=0->aK T b mem regs (a:Int) w1->Calls prog 179 #[.pointer (some ⟨b,0,none⟩),(bW (bY mem a 4)).1.val,.int .i64 4] w1 (jY T b (fJ (bW (bY mem a 4)).1 mem regs a ((a:Int)+4)) w1)):
    Calls prog 107 #[.pointer (some ⟨b,0,none⟩)] w (jY T b (if (bW (bY mem a 4)).2=0 then fJ (bW (bY mem a 4)).1 mem regs a ((a:Int)+4) else ((2,bY mem a 4),mem,regs,(a:Int))) w):=by
 have Z:=h.lt;have hh:bA (a:Int) 2=true:=by simp[bA];omega
 have HN:Hid (∀w',Calls prog 178 #[.int .i64 a,.int .i64 2] w' λ e I=>e=.returned (.bool true)/\I=w'):=aA (λ w'=>by rw[<-hh];exact nP a 2 w' (by omega) (by omega))
 have an:bA (a:Int) 4=true:=by simp[bA];omega
 have ac:Hid (∀w',Calls prog 178 #[.int .i64 a,.int .i64 4] w' λ e I=>e=.returned (.bool true)/\I=w'):=aA (λ w'=>by rw[<-an];exact nP a 4 w' (by omega) (by omega))
 have u:=Ag h;have e2:=B3 (a:=a) (by rw[h.mlen];omega) u
 have b0:=u a;have b1:=u (a+1);have b2:=u (a+2);have b3:=u (a+3);have ai:Hid (bY mem a 4=mem.getD a 0+256*mem.getD (a+1) 0+65536*mem.getD (a+2) 0+16777216*mem.getD (a+3) 0):=aA (by unfold bY;rw[Wn (a:=a) (by rw[h.mlen];omega) u];exact zw _ (by omega))
 rw[e2]at h3;rw[ai.out]at G ⊢;have HS:=aA (cS.new h 56);have mp:=HS.out.m.cellP;have c0:=HS.out.m.cellM a (by omega)
 have c1:=HS.out.m.cellM (a+1) (by omega)
 have mb:=HS.out.m.lt;generalize mem.getD a 0=O at *;generalize mem.getD (a+1) 0=J at *;obtain ⟨y,P⟩:∃x,Hid (mem.getD (a+2) 0=x):=⟨_,aA rfl⟩;obtain ⟨K,Q⟩:∃x,Hid (mem.getD (a+3) 0=x):=⟨_,aA rfl⟩;rw[P.out,Q.out]at G ⊢;rw[P.out]at b2;rw[Q.out]at b3;have wa:IntKind.i64.wrap ((a:Int)+1)=((a+1:Nat):Int):=by rw[show ((a+1:Nat):Int)=(a:Int)+1 from by omega];exact zw _ (by omega)
 have wb:IntKind.i64.wrap (256*J)=256*J:=zw _ (by omega)
 have wc:IntKind.i64.wrap (O+256*J)=O+256*J:=zw _ (by omega)
 have bo:IntKind.i64.wrap ((a:Int)+2)=((a+2:Nat):Int):=by rw[show ((a+2:Nat):Int)=(a:Int)+2 from by omega];exact zw _ (by omega)
 have bp:IntKind.i64.wrap ((a:Int)+3)=((a+3:Nat):Int):=by rw[show ((a+3:Nat):Int)=(a:Int)+3 from by omega];exact zw _ (by omega)
 have bq:IntKind.i64.wrap (65536*y)=65536*y:=zw _ (by omega)
 have bs:IntKind.i64.wrap (16777216*K)=16777216*K:=zw _ (by omega)
 have bm:((a+2:Nat):Int)<4096:=by omega
 have bn:((a+3:Nat):Int)<4096:=by omega
 have la:(a:Int)<4096:=by omega
 have bk:((a+1:Nat):Int)<4096:=by omega
 have L:Hid (∀w',Calls prog 93 #[.int .i64 (O+256*J+65536*y+16777216*K)] w' λ e I=>e=.returned (.tuple #[(bW (O+256*J+65536*y+16777216*K)).1.val,.int .i64 (bW (O+256*J+65536*y+16777216*K)).2])/\Below w'.heap.size w' I):=aA (λ w'=>Cx _ w')
 generalize hX:bW (O+256*J+65536*y+16777216*K)=X at *;obtain ⟨⟨xo,xd,x1,x2,xi⟩,xe⟩:=X;simp only at G L ⊢;have ab:=aA G;clear G hX;obtain ⟨R,C⟩:∃x,Hid ((if xe=0 then fJ ⟨xo,xd,x1,x2,xi⟩ mem regs a ((a:Int)+4) else ((2,O+256*J+65536*y+16777216*K),mem,regs,(a:Int)))=x):=⟨_,aA rfl⟩;rw[C.out];unfold aE.val at L ab;go_in;go_wp2_with (go_at_call 178;refine (HN.out _).mono ?_;rintro e w' ⟨rfl,rfl⟩);go_quiet (fail);generalize af:World.drewN _ nq=q;have V:Hid (cS T b mem regs a w q):=aA (by rw[<-af];exact HS.out.next (mL _ nq))
 clear af HS mp c0 c1 mb;have j:=aA (V.out.alloc (.cells #[.int .i64 0,.int .i64 0,.int .i64 0,.int .i64 0,.int .i64 0] 26));generalize bg:O+256*J=N at *;have ht:N.tmod 4=N%4:=Int.tmod_eq_emod_of_nonneg (by omega)
 have wm:IntKind.i64.wrap (N%4)=N%4:=zw _ (by omega)
 have bf:((N%4==3)=true):=by simpa using h3
 go_upto_region 8 with fail;have A:=aA (aF.new q [.int .i64 0,.int .i64 0,.int .i64 0,.int .i64 0,.int .i64 0] 26);generalize W:q.alloc _=W2;rw[show q.alloc (.cells #[.int .i64 0,.int .i64 0,.int .i64 0,.int .i64 0,.int .i64 0] 26)=W2 from W]at j
 rw[show q.alloc (.cells [Value.int .i64 0,.int .i64 0,.int .i64 0,.int .i64 0,.int .i64 0].toArray 26)=W2 from W]at A
 clear W;have wn:IntKind.i64.wrap (N+65536*y)=N+65536*y:=zw _ (by omega)
 have bu:IntKind.i64.wrap (N+65536*y+16777216*K)=N+65536*y+16777216*K:=zw _ (by omega)
 have mp:=j.out.m.cellP;have mb:=j.out.m.lt;have c2:=j.out.m.cellM (a+2) (by omega)
 have c3:=j.out.m.cellM (a+3) (by omega)
 rw[P.out]at c2;rw[Q.out]at c3;have H:w.heap.size<q.heap.size:=V.out.e.1;have bj:q.heap.size≠w.heap.size:=by omega
 have a9:w.heap.size≠q.heap.size:=by omega
 go_upto_region 12 with (go_at_call 178;refine (ac.out _).mono ?_;rintro e w' ⟨rfl,rfl⟩)
 go_quiet (fail);generalize Y:World.drewN _ nq=W3;replace j:Hid (cS T b mem regs a w W3):=aA (by rw[<-Y];exact j.out.next (mL _ nq))
 replace A:Hid (aF q.heap.size [.int .i64 0,.int .i64 0,.int .i64 0,.int .i64 0,.int .i64 0] W3):=aA (by rw[<-Y];exact A.out.next (mL _ nq))
 clear Y mp mb c2 c3;go_upto_region 16 with (go_at_call 93;refine zK (L.out _) λ w' ae=>?_;have F:=j.out.next ae;have E:=A.out.next ae;obtain ⟨g0,g1,g2,g3,g4⟩:=bF E.2.2;have gf:=E.2.1;have gs:=E.1;obtain ⟨f0,f1⟩:=bE F.e.2.2;have ff:=F.e.2.1;have fs:=F.e.1)
 have D:=aA (((((F.far Z q.heap.size 0 (.int .i64 xo) H).far Z q.heap.size 1 (.int .i64 xd) H).far Z q.heap.size 2 (.int .i64 x1) H).far Z q.heap.size 3 (.int .i64 x2) H).far Z q.heap.size 4 (.int .i64 xi) H);have U:=aA (((((E.set 0 (.int .i64 xo) (by simp)).set 1 (.int .i64 xd) (by simp)).set 2 (.int .i64 x1) (by simp)).set 3 (.int .i64 x2) (by simp)).set 4 (.int .i64 xi) (by simp))
 clear F E g0 g1 g2 g3 g4 gf gs f0 f1 ff fs j A L HN V ac;generalize World.setCell _ _ _=W4 at D U ⊢;obtain ⟨g0,g1,g2,g3,g4⟩:=bF U.out.2.2;have gs:=U.out.1;by_cases ag:xe=0
 .subst ag
  rw[zt rfl]at C;go_wp2_with (go_at_call 179;refine (ab.out _ rfl D.out.m).mono ?_;rw[C.out];rintro e w' ⟨rfl,am,al⟩;have M:=cS.fin D.out Z am al;obtain ⟨f0,f1⟩:=bE M.1.2.2;have ff:=M.1.2.1;have fs:=M.1.1;unfold aO);refine zp (v:=aO R.1.1 R.1.2) (by simp[results,results107,go_sem,aO,f0,f1]) rfl ⟨rfl,M.2 _ _⟩
 rw[aC ag]at C;have HF:=aA (cS.fin D.out Z D.out.m (aN.refl b W4));obtain ⟨f0,f1⟩:=bE HF.out.1.2.2;have ff:=HF.out.1.2.1;have fs:=HF.out.1.1;go_wp2_with fail;rw[<-C.out];refine zp (v:=aO 2 (N+65536*y+16777216*K)) (by simp[results,results107,go_sem,aO,f0,f1]) rfl ⟨rfl,HF.out.2 _ _⟩
def Ly (b a:Nat) (w:World) {mem regs:List Int} (h:aK T b mem regs (a:Int) w) (ha:a+2<=4096) (M:aP (cF mem a 2)%4=3) (L:bA (a:Int) 4=false):
    Calls prog 107 #[.pointer (some ⟨b,0,none⟩)] w (jY T b ((1,(a:Int)),mem,regs,(a:Int)) w):=by
 have J:Hid (∀w',Calls prog 178 #[.int .i64 a,.int .i64 4] w' λ e A=>e=.returned (.bool false)/\A=w'):=aA (λ w'=>by rw[<-L];exact nP a 4 w' (by omega) (by omega))
 have X:=h.lt;have Y:bA (a:Int) 2=true:=by simp[bA];omega
 have R:Hid (∀w',Calls prog 178 #[.int .i64 a,.int .i64 2] w' λ e A=>e=.returned (.bool true)/\A=w'):=aA (λ w'=>by rw[<-Y];exact nP a 2 w' (by omega) (by omega))
 have y:=Ag h;have U:=B3 (a:=a) (by rw[h.mlen];omega) y
 have b0:=y a;have b1:=y (a+1);rw[U]at M;have C:=aA (cS.new h 56);have Q:=C.out.m.cellP;have c0:=C.out.m.cellM a (by omega)
 have c1:=C.out.m.cellM (a+1) (by omega)
 have P:=C.out.m.lt;generalize mem.getD a 0=H at *;generalize mem.getD (a+1) 0=D at *;have wa:IntKind.i64.wrap ((a:Int)+1)=((a+1:Nat):Int):=by rw[show ((a+1:Nat):Int)=(a:Int)+1 from by omega];exact zw _ (by omega)
 have wb:IntKind.i64.wrap (256*D)=256*D:=zw _ (by omega)
 have wc:IntKind.i64.wrap (H+256*D)=H+256*D:=zw _ (by omega)
 have la:(a:Int)<4096:=by omega
 have ab:((a+1:Nat):Int)<4096:=by omega
 go_in;go_wp2_with (go_at_call 178;refine (R.out _).mono ?_;rintro e w' ⟨rfl,rfl⟩);go_quiet (fail);generalize F:World.drewN _ nq=q;have E:Hid (cS T b mem regs a w q):=aA (by rw[<-F];exact C.out.next (mL _ nq))
 clear F C Q c0 c1 P;have j:=aA (E.out.alloc (.cells #[.int .i64 0,.int .i64 0,.int .i64 0,.int .i64 0,.int .i64 0] 26));generalize W:H+256*D=N at *;have ht:N.tmod 4=N%4:=Int.tmod_eq_emod_of_nonneg (by omega)
 have wm:IntKind.i64.wrap (N%4)=N%4:=zw _ (by omega)
 have V:((N%4==3)=true):=by simpa using M
 go_upto_region 8 with fail;have I:=aA (aF.new q [.int .i64 0,.int .i64 0,.int .i64 0,.int .i64 0,.int .i64 0] 26);generalize u:q.alloc _=K;rw[show q.alloc (.cells #[.int .i64 0,.int .i64 0,.int .i64 0,.int .i64 0,.int .i64 0] 26)=K from u]at j
 rw[show q.alloc (.cells [Value.int .i64 0,.int .i64 0,.int .i64 0,.int .i64 0,.int .i64 0].toArray 26)=K from u]at I
 clear u;have aa:w.heap.size<q.heap.size:=E.out.e.1;have Z:q.heap.size≠w.heap.size:=by omega
 have O:w.heap.size≠q.heap.size:=by omega
 have Q:=j.out.m.cellP;have P:=j.out.m.lt;have G:=aA (cS.fin j.out X j.out.m (aN.refl b K));obtain ⟨f0,f1⟩:=bE G.out.1.2.2;have ff:=G.out.1.2.1;have fs:=G.out.1.1;go_wp2_with (go_at_call 178;refine (J.out _).mono ?_;rintro e w' ⟨rfl,rfl⟩);refine zp (v:=aO 1 a) (by simp[results,results107,go_sem,aO,f0,f1]) rfl ⟨rfl,G.out.2 _ _⟩
def BR (b:Nat) (i:aE) (n p:Nat) (w:World) {mem regs:List Int} (h:aK T b mem regs (p:Int) w) (q:right i=true) (j:∀k,dH (regs.getD k 0)) (C:p<=4094) (A:n<=4):
    Calls prog 179 #[.pointer (some ⟨b,0,none⟩),i.val,.int .i64 n] w (jY T b (fJ i mem regs p ((p:Int)+n)) w):=by
 obtain ⟨k,u,v⟩:=uK q;obtain ⟨op,rd,r1,r2,imm⟩:=i;simp only at v;subst v;have y:=o6 u q;obtain ⟨rd,rfl⟩:=zi (show 0<=rd by omega)
 obtain ⟨r1,rfl⟩:=zi (show 0<=r1 by omega)
 obtain ⟨r2,rfl⟩:=zi (show 0<=r2 by omega)
 exact Nd b k rd r1 r2 imm n p w h u q (by omega) (by omega) (by omega) (by unfold dH;omega) j C A
def DK (b) (w) {mem regs:List Int} {pc:Int} (h:aK T b mem regs pc w) (u:∀k,dH (regs.getD k 0)):
    Calls prog 107 #[.pointer (some ⟨b,0,none⟩)] w (jY T b (eB mem regs pc) w):=by
 unfold eB;by_cases v:bA pc 2=false
 .rw[zt v]
  exact NN b w h v
 rw[aC v];have C:0<=pc/\pc<=4096-2:=by simpa[bA] using v
 obtain ⟨a,rfl⟩:=zi C.1;simp only[Int.toNat_natCast];by_cases q:aP (cF mem a 2)%4=3
 .rw[zt q]
  by_cases y:bA (a:Int) 4=false
  .rw[zt y]
   exact Ly b a w h (by omega) q y
  rw[aC y];have D:(a:Int)<=4096-4:=by simpa[bA] using y
  exact LI b a w h (by omega) q (λ w1 A j=>BR b _ 4 a w1 j (CJ A) u (by omega) (by omega))
 rw[aC q];exact LR b a w h (by omega) q (λ w1 A j=>BR b _ 2 a w1 j (De A) u (by omega) (by omega))
def E2 {i:aE} {mem regs:List Int} {pc:Int} (h:(fJ i mem regs pc p).1.1=0):(fJ i mem regs pc p).1=(0,0):=by
 unfold fJ at h ⊢;simp only at h ⊢
 repeat' split
 all_goals first
 | rfl
 | (exfalso;revert h;repeat' split
    all_goals simp_all)
def NH {mem regs:List Int} {pc:Int} (h:(eB mem regs pc).1.1=0):(eB mem regs pc).1=(0,0):=by
 unfold eB at h ⊢
 split at h
 .exact absurd h (by simp)
 split at h
 .split at h
  .exact absurd h (by simp)
  split at h
  .rename_i a b c d;rw[aC a,zt b,aC c,zt d];exact E2 h
  exact absurd h (by simp)
 split at h
 .rename_i a b c;rw[aC a,aC b,zt c];exact E2 h
 exact absurd h (by simp)
def OL (b) (m) (w) {mem regs:List Int} {pc:Int} (h:aK T b mem regs pc w) (J:∀k,dH (regs.getD k 0)):
    Calls prog 108 #[.pointer (some ⟨b,0,none⟩),.int .i64 m] w (pT T b (iP (mq m) 0 mem regs pc) w):=by
 have hb:=h.lt;have ae:=aA (λ (mem regs:List Int) (pc:Int) (w:World) (h:aK T b mem regs pc w) (J:∀k,dH (regs.getD k 0))=>DK b w h J)
 have P:=aA J;clear J;have ac:Hid (mq m=(min m 10000).toNat):=aA rfl;generalize af:mq m=N at *;clear af;go_in;go_wp2_with fail;have V:=aA ((cS.new h 56).alloc (.cells #[.int .i64 0,.int .i64 0] 56));have L:=aA (aF.new (w.alloc (.cells #[.int .i64 0,.int .i64 0] 56)) [.int .i64 0,.int .i64 0] 56);rw[za]at L;go_loopw [7,8] (λ d i wr=>∃(k:Nat) (mem' regs':List Int) (pc':Int),k<=N/\d=.int .i64 k/\i=.int .i64 k/\cS T b mem' regs' pc' w wr/\aF (w.heap.size+1) [.int .i64 0,.int .i64 0] wr/\Hid (∀j,dH (regs'.getD j 0))/\Hid (iP N 0 mem regs pc=iP (N-k) k mem' regs' pc')) (λ _ i _=>N-(intOf i).toNat)
 case atStart=>exact ⟨0,mem,regs,pc,by omega,rfl,rfl,V.out,L.out,P,aA rfl⟩
 case round=>
  clear V L P;obtain ⟨k,mem',regs',pc',hk,rfl,rfl,hS,Z,HI,Q⟩:=hrel;have U:=aA hS;have hn:=ac.out;by_cases O:(k:Int)<m/\(k:Int)<10000
  .obtain ⟨ar,ah⟩:=O
   have M:k<N:=by omega
   have q:Hid (iP N 0 mem regs pc=if (eB mem' regs' pc').1.1=0 then iP (N-(k+1)) ((k:Int)+1) (eB mem' regs' pc').2.1 (eB mem' regs' pc').2.2.1 (eB mem' regs' pc').2.2.2 else (((eB mem' regs' pc').1,if (eB mem' regs' pc').1.1=4 then (k:Int)+1 else k),(eB mem' regs' pc').2)):=aA (by
    rw[Q.out,show N-k=(N-(k+1))+1 from by omega];rfl)
   have u:=aA (ae.out mem' regs' pc' wr hS.m HI.out);have F:=aA (sS (mem:=mem') (pc:=pc') HI.out);have Y:=aA (NH (mem:=mem') (regs:=regs') (pc:=pc'));clear Q HI hS hn;generalize eB mem' regs' pc'=R at *;obtain ⟨⟨x,y⟩,mem1,E,X⟩:=R;simp only at q F Y;unfold jY at u;simp only at u;(go_upto_region 7 with (go_at_call 107;refine u.out.mono ?_;rintro e w1 ⟨rfl,K,I⟩;have W:cS T b mem1 E X w w1:=⟨K,U.out.e.kept I (by omega),U.out.k.trans I⟩;have C:=Z.kept I (by omega);obtain ⟨l0,l1⟩:=bE C.2.2;have lf:=C.2.1;have ls:=C.1;unfold aO));(have H:=aA ((W.far hb (w.heap.size+1) 0 (.int .i64 x) (by omega)).far hb (w.heap.size+1) 1 (.int .i64 y) (by omega)));(have G:=aA ((C.set 0 (.int .i64 x) (by simp)).set 1 (.int .i64 y) (by simp)));clear W C l0 l1 lf ls K I u Z U;generalize World.setCell _ _ _=W3 at H G ⊢;obtain ⟨l0,l1⟩:=bE G.out.2.2;have ls:=G.out.1;have A:=aA (cS.fin H.out hb H.out.m (aN.refl b W3));obtain ⟨f0,f1⟩:=bE A.out.1.2.2;have ff:=A.out.1.2.1;have fs:=A.out.1.1;by_cases hx:x=0
   .subst hx
    (obtain rfl:y=0:=by have:=Y.out rfl;simpa using this);rw[zt rfl]at q;go_wp2;go_roundw;(case rel=>exact ⟨k+1,mem1,E,X,by omega,by go_num,by go_num,H.out,G.out,F,q⟩);case measure=>simp[intOf];omega
   rw[aC hx]at q;by_cases D:x=4
   .rw[zt D]at q
    subst D;clear hx Y F;go_wp2_with fail;rw[q.out];refine zp (v:=.tuple #[aO 4 y,.int .i64 ((k:Int)+1)]) (by simp[results,results108,go_sem,aO,f0,f1]) rfl ⟨rfl,A.out.2 _ _⟩
   rw[aC D]at q;(have h0:(x==0)=false:=by simpa using hx);(have h4:(x==4)=false:=by simpa using D);(have ho:(x==0||x==4)=false:=by rw[h0,h4];rfl);(have av:(x != 0)=true:=by simpa using hx);clear hx D Y F;go_wp2_with fail;rw[q.out];refine zp (v:=.tuple #[aO x y,.int .i64 k]) (by simp[results,results108,go_sem,aO,f0,f1]) rfl ⟨rfl,A.out.2 _ _⟩
  have M:N-k=0:=by omega
  rw[M]at Q;clear M;have aw:=aA hn;clear hn;have A:=aA (cS.fin U.out hb U.out.m (aN.refl b wr));obtain ⟨f0,f1⟩:=bE A.out.1.2.2;have ff:=A.out.1.2.1;have fs:=A.out.1.1;obtain ⟨l0,l1⟩:=bE Z.2.2;have ls:=Z.1;by_cases au:(k:Int)<m
  .have ah:¬(k:Int)<10000:=by omega
   clear O;go_wp2_with fail;rw[Q.out];refine zp (v:=.tuple #[aO 0 0,.int .i64 k]) (by simp[results,results108,go_sem,aO,f0,f1]) rfl ⟨rfl,A.out.2 _ _⟩
  clear O;go_wp2_with fail;rw[Q.out];refine zp (v:=.tuple #[aO 0 0,.int .i64 k]) (by simp[results,results108,go_sem,aO,f0,f1]) rfl ⟨rfl,A.out.2 _ _⟩
def Sw (b) (r v) (w) {mem regs:List Int} {pc:Int} (h:aK T b mem regs pc w):
    Calls prog 25 #[.pointer (some ⟨b,0,none⟩),.int .i64 r,.int .i64 v] w λ e w'=>e=.returned (.int .i64 (if fC r=true then 0 else 9))/\aK T b mem (if fC r=true then eC regs r.toNat v else regs) pc w'/\aN b w w':=by
 by_cases j:fC r=true
 .have q:0<=r/\r<=31:=by simpa[fC] using j
  obtain ⟨k,rfl⟩:=zi q.1;rw[zt j,zt j];exact Si b k v w h (by omega)
 rw[aC j,aC j];go_in
 go_wp2_with (first
  | (go_at_call 46;refine (mI _ _).mono ?_;rintro e w' ⟨rfl,rfl⟩)
  | (go_at_call 47;refine (H6 b r v _ h).mono ?_;rw[aC j,aC (λ x=>j x.1)];rintro e w' ⟨rfl,rfl⟩))
 go_ret;exact ⟨rfl,h,aN.refl _ _⟩
def RM (b) (r) (w) {mem regs:List Int} {pc:Int} (h:aK T b mem regs pc w):
    zS prog 30 #[.pointer (some ⟨b,0,none⟩),.int .i64 r] w (.tuple #[.int .i64 (if fC r=true then regs.getD r.toNat 0 else 0),.int .i64 (if fC r=true then 0 else 9)]):=by
 unfold zS;by_cases j:fC r=true
 .rw[zt j,zt j]
  go_in
  go_wp2_with (first
   | (go_at_call 46;refine (mI _ _).mono ?_;rintro e w' ⟨rfl,rfl⟩)
   | (go_at_call 49;refine (H4 b r _ h).mono ?_;rw[zt j];rintro e w' ⟨rfl,rfl⟩))
  go_ret2;exact ⟨rfl,rfl⟩
 rw[aC j,aC j];go_in
 go_wp2_with (first
  | (go_at_call 46;refine (mI _ _).mono ?_;rintro e w' ⟨rfl,rfl⟩)
  | (go_at_call 49;refine (H4 b r _ h).mono ?_;rw[aC j];rintro e w' ⟨rfl,rfl⟩))
 go_ret2;exact ⟨rfl,rfl⟩
def Om (b) (a) (w) {mem regs:List Int} {pc:Int} (h:aK T b mem regs pc w):
    zS prog 32 #[.pointer (some ⟨b,0,none⟩),.int .i64 a] w (.tuple #[.int .i64 (if bA a 1=true then mem.getD a.toNat 0 else 0),.int .i64 (if bA a 1=true then 0 else 9)]):=by
 unfold zS;by_cases j:bA a 1=true
 .rw[zt j,zt j]
  go_in
  go_wp2_with (first
   | (go_at_call 46;refine (mI _ _).mono ?_;rintro e w' ⟨rfl,rfl⟩)
   | (go_at_call 51;refine (Gu b a _ h).mono ?_;rw[zt j];rintro e w' ⟨rfl,rfl⟩))
  go_ret2;exact ⟨rfl,rfl⟩
 rw[aC j,aC j];go_in
 go_wp2_with (first
  | (go_at_call 46;refine (mI _ _).mono ?_;rintro e w' ⟨rfl,rfl⟩)
  | (go_at_call 51;refine (Gu b a _ h).mono ?_;rw[aC j];rintro e w' ⟨rfl,rfl⟩))
 go_ret2;exact ⟨rfl,rfl⟩
def OK (b) (a v) (w) {mem regs:List Int} {pc:Int} (h:aK T b mem regs pc w):
    Calls prog 177 #[.pointer (some ⟨b,0,none⟩),.int .i64 a,.int .i64 v] w λ e w'=>e=.returned (.int .i64 (if mm a v=true then 0 else 9))/\aK T b (mn mem a v) regs pc w'/\aN b w w':=by
 by_cases j:mm a v=true
 .have H:(0<=a/\a<=4095)/\0<=v/\v<=255:=by simpa[mm,bA] using j
  obtain ⟨⟨D,G⟩,I,J⟩:=H;obtain ⟨k,rfl⟩:=zi D
  have u:mn mem k v=eH mem k (bR 1 v):=by
   unfold mn;(rw[zt j,bR,bR,O8 mem k _ (by rw[h.mlen];omega),UInt8.toNat_ofNat']);show mem.set k v=_;congr 1;omega
  rw[u,zt j];have q:bA k 1=true:=by simp[bA];omega
  have F:=aA (CZ b k 1 v w h (by decide) (by decide) (by omega))
  clear h j u;go_in;go_wp2_with (go_at_call 87;refine (iX _ _ _ _ (by decide) (by decide)).mono ?_;rw[q];rintro e w' ⟨rfl,rfl⟩)
  refine F.out.mono ?_;rintro e w1 ⟨rfl,C,A⟩;go_wp2;go_ret;exact ⟨rfl,C,A⟩
 have u:mn mem a v=mem:=by unfold mn;rw[aC j]
 rw[u,aC j];have y:=aA h;clear h u;by_cases q:bA a 1=true
 .have M:v<0\/255<v:=by simp[mm,q]at j;omega
  clear j;by_cases K:v<0
  .go_in
   (go_wp2_with (go_at_call 87;refine (iX _ _ _ _ (by decide) (by decide)).mono ?_;rw[q];rintro e w' ⟨rfl,rfl⟩));go_ret;exact ⟨rfl,y.out,aN.refl _ _⟩
  have L:255<v:=by omega
  go_in;go_wp2_with (go_at_call 87;refine (iX _ _ _ _ (by decide) (by decide)).mono ?_;rw[q];rintro e w' ⟨rfl,rfl⟩)
  go_ret;exact ⟨rfl,y.out,aN.refl _ _⟩
 clear j;have E:bA a 1=false:=by simpa using q
 clear q;go_in;go_wp2_with (go_at_call 87;refine (iX _ _ _ _ (by decide) (by decide)).mono ?_;rw[E];rintro e w' ⟨rfl,rfl⟩)
 go_ret;exact ⟨rfl,y.out,aN.refl _ _⟩
def Pb (b) (a v) (w) {mem regs:List Int} {pc:Int} (h:aK T b mem regs pc w):
    Calls prog 104 #[.pointer (some ⟨b,0,none⟩),.int .i64 a,.int .i64 v] w λ e w'=>e=.returned (.int .i64 (if mm a v=true then 0 else 9))/\aK T b (mn mem a v) regs pc w'/\aN b w w':=by
 have y:=aA (OK b a v w h);clear h;generalize (if mm a v=true then (0:Int) else 9)=q at *;go_in
 go_wp2_with (first
  | (go_at_call 46;refine (mI _ _).mono ?_;rintro e w' ⟨rfl,rfl⟩)
  | (go_at_call 177;refine y.out.mono ?_;rintro e w' ⟨rfl,u,j⟩))
 go_ret;exact ⟨rfl,u,j⟩
def T5 (s) (w) (j:4096<s.size):
    zS prog 45 #[.string s] w (.tuple #[.pointer none,.int .i64 8]):=by
 unfold zS;have h:(4096:Int)<s.size:=by omega
 go_in;go_wp2;go_ret2;exact ⟨rfl,rfl⟩
def SM (s) (w) (h:4096<s.size):
    zS prog 24 #[.string s] w (.tuple #[.pointer none,.int .i64 8]):=by
 unfold zS;have j:=aA (T5 s w h);clear h;go_in;go_wp2_with (go_at_call 45;refine zk j.out ?_);go_ret2;exact ⟨rfl,rfl⟩
def Nt (b) (w) {mem regs:List Int} {pc:Int} (h:aK T b mem regs pc w) (j:∀k,dH (regs.getD k 0)):
    Calls prog 27 #[.pointer (some ⟨b,0,none⟩)] w (jY T b (eB mem regs pc) w):=Q6 b _ _ w h λ w1 q=>EU b w1 q j
def O2 (b) (m) (w) {mem regs:List Int} {pc:Int} (h:aK T b mem regs pc w) (j:∀k,dH (regs.getD k 0)):
    Calls prog 34 #[.pointer (some ⟨b,0,none⟩),.int .i64 m] w (pT T b (iP (mq m) 0 mem regs pc) w):=Rc b m _ _ _ w h λ w1 q=>Qv b m w1 q j
def FV:∀(n:Nat) (d:Int) {mem regs:List Int} {pc:Int},(∀k,dH (regs.getD k 0))->∀k,dH ((iP n d mem regs pc).2.2.1.getD k 0)
 | 0,_,_,_,_,h=>h
 | n+1,d,mem,regs,pc,h=>by
  unfold iP
  split
  .exact FV n _ (sS h)
  exact sS h
structure ki (b c:Nat) (w w':World):Prop where
 os:w'.os=w.os
 tape:w'.tape=w.tape
 output:w'.output=w.output
 size:w.heap.size<=w'.heap.size
 block:∀k,k<w.heap.size->k≠b->k≠c->w'.heap[k]?=w.heap[k]?
def ki.left {x:World} (h:ki b c x y) (k:aN b y z):ki b c x z:=
 ⟨k.os.trans h.os,k.tape.trans h.tape,k.output.trans h.output,Nat.le_trans h.size k.size,λ i hi j q=>(k.block i (zl hi h.size) j).trans (h.block i hi j q)⟩
def ki.right {x:World} (h:ki b c x y) (k:aN c y z):ki b c x z:=
 ⟨k.os.trans h.os,k.tape.trans h.tape,k.output.trans h.output,Nat.le_trans h.size k.size,λ i hi q j=>(k.block i (zl hi h.size) j).trans (h.block i hi q j)⟩
def ki.refl (b c) (w):ki b c w w:=⟨rfl,rfl,rfl,zn,λ _ _ _ _=>rfl⟩
def aK.same {mem regs:List Int} {pc:Int} {w w':World} (h:aK T b mem regs pc w) (e:w'.heap[b]?=w.heap[b]?):aK T b mem regs pc w':=⟨e.trans h.row,h.mlen,h.rlen,h.byte⟩
def aK.ne {U:TypeId} {q u r1 r2:List Int} {v y:Int} {w:World} (h:aK T b q r1 v w) (k:aK U c u r2 y w) (j:T≠U):b≠c:=by
 rintro rfl;have:=h.row.symm.trans k.row;injection this with e
 injection e with _ e2
 exact j e2
def iJ (x r:Nat):List Value:=[.pointer (some ⟨x,0,none⟩),.pointer (some ⟨r,0,none⟩)]
structure jM (x r:Nat) (mem regs:List Int) (pc:Int) (mem' regs':List Int) (pc':Int) (O:List Value) (w0 w:World):Prop where
 mx:aK 92 x mem regs pc w
 mr:aK 171 r mem' regs' pc' w
 p:aF w0.heap.size (iJ x r) w
 o:aF (w0.heap.size+1) O w
 k:ki x r w0 w
 lx:x<w0.heap.size
 lr:r<w0.heap.size
 ne:x≠r
section
variable {x r : Nat} {mem regs mem' regs' : List Int} {pc pc' : Int} {O : List Value} {w0 w w1 : World}
def jM.new (hx:aK 92 x mem regs pc w) (h:aK 171 r mem regs pc w) (O):jM x r mem regs pc mem regs pc O w ((w.alloc (.cells (iJ x r).toArray 97)).alloc (.cells O.toArray 74)):=
 ⟨(hx.alloc _).alloc _,(h.alloc _).alloc _,(aF.new _ _ _).alloc _,by have:=aF.new (w.alloc (.cells (iJ x r).toArray 97)) O 74;rwa[za]at this,
   (ki.refl _ _ _).left (((aN.refl _ _).alloc _).alloc _),hx.lt,h.lt,hx.ne h (by decide)⟩
def jM.goX (h:jM x r mem regs pc mem' regs' pc' O w0 w) {m g:List Int} (q:aK 92 x m g p w1) (j:aN x w w1):jM x r m g p mem' regs' pc' O w0 w1:=
 ⟨q,h.mr.same (j.block _ h.mr.lt h.ne.symm),h.p.kept j (by have:=h.lx;omega),h.o.kept j (by have:=h.lx;omega),h.k.left j,h.lx,h.lr,h.ne⟩
def jM.goR (h:jM x r mem regs pc mem' regs' pc' O w0 w) {m g:List Int} (q:aK 171 r m g p w1) (j:aN r w w1):jM x r mem regs pc m g p O w0 w1:=
 ⟨h.mx.same (j.block _ h.mx.lt h.ne),q,h.p.kept j (by have:=h.lr;omega),h.o.kept j (by have:=h.lr;omega),h.k.right j,h.lx,h.lr,h.ne⟩
def jM.alloc (h:jM x r mem regs pc mem' regs' pc' O w0 w) (o):jM x r mem regs pc mem' regs' pc' O w0 (w.alloc o):=
 ⟨h.mx.alloc _,h.mr.alloc _,h.p.alloc _,h.o.alloc _,h.k.left ((aN.refl _ _).alloc _),h.lx,h.lr,h.ne⟩
end
def wL (x r:Nat) (mem regs:List Int) (pc:Int) (w:World) (e:Ending) (w':World):Prop:=
 e=.returned (.bool true)/\aK 92 x mem regs pc w'/\aK 171 r mem regs pc w'/\ki x r w w'
def kH (x r:Nat) (kd on a b op rd rs1 rs2 imm q u:Int) (s:ByteArray) (sh:Bool) (F G:Nat) (X Y:Array Value) (V:Value) (v:(kd=11/\F=25/\G=102/\X=#[.pointer (some ⟨x,0,none⟩),.int .i64 a,.int .i64 b]/\Y=#[.pointer (some ⟨r,0,none⟩),.int .i64 a,.int .i64 b]/\V=.int .i64 q)\/(kd=13/\F=104/\G=105/\X=#[.pointer (some ⟨x,0,none⟩),.int .i64 a,.int .i64 b]/\Y=#[.pointer (some ⟨r,0,none⟩),.int .i64 a,.int .i64 b]/\V=.int .i64 q)\/(kd=12/\F=30/\G=103/\X=#[.pointer (some ⟨x,0,none⟩),.int .i64 a]/\Y=#[.pointer (some ⟨r,0,none⟩),.int .i64 a]/\V=.tuple #[.int .i64 u,.int .i64 q])\/(kd=14/\F=32/\G=106/\X=#[.pointer (some ⟨x,0,none⟩),.int .i64 a]/\Y=#[.pointer (some ⟨r,0,none⟩),.int .i64 a]/\V=.tuple #[.int .i64 u,.int .i64 q])) (w:World) {mem regs L K:List Int} {pc:Int} (hx:aK 92 x mem regs pc w) (M:aK 171 r mem regs pc w)
    (H:∀w',aK 92 x mem regs pc w'->Calls prog F X w' λ e y=>e=.returned V/\aK 92 x L K pc y/\aN x w' y) (I:∀w',aK 171 r mem regs pc w'->Calls prog G Y w' λ e y=>e=.returned V/\aK 171 r L K pc y/\aN r w' y):
    Calls prog 55 #[.agg (iJ x r).toArray,.agg (cM kd on a b op rd rs1 rs2 imm s sh).toArray] w (wL x r L K pc w):=by
 have J:=aA (jM.new hx M (cM kd on a b op rd rs1 rs2 imm s sh));replace H:=aA H;replace I:=aA I;clear hx M;unfold cM iJ;rcases v with v|v|v|v
 all_goals
  obtain ⟨rfl,rfl,rfl,rfl,rfl,rfl⟩:=v;go_in;go_wp2_with fail;refine (H.out _ J.out.mx).mono ?_;rintro e w1 ⟨rfl,D,A⟩;have h:=aA (J.out.goX D A);have P:w1.cell? ⟨w.heap.size,1,none⟩=_:=h.out.p.2.2 1 _ rfl;have c2:w1.cell? ⟨w.heap.size+1,2,none⟩=_:=h.out.o.2.2 2 _ rfl;have N:w1.cell? ⟨w.heap.size+1,3,none⟩=_:=h.out.o.2.2 3 _ rfl;have Q:=h.out.p.1;have O:=h.out.o.1;clear J H D A;go_wp2_with fail;refine (I.out _ h.out.mr).mono ?_;rintro e y ⟨rfl,E,C⟩;have j:=aA (h.out.goR E C);clear E C h P c2 N Q O I;go_wp2_with (go_at_call 92;refine (mM _ _).mono ?_;rintro e w' ⟨rfl,rfl⟩);go_ret;exact ⟨rfl,j.out.mx,j.out.mr,j.out.k⟩
def iW {P:Program} {f:Nat} {A:Array Value} {mem regs:List Int} {pc:Int} {w:World} {v:Value} (h:aK T b mem regs pc w) (k:Calls P f A w λ e w'=>e=.returned v/\w'=w):Calls P f A w λ e w'=>e=.returned v/\aK T b mem regs pc w'/\aN b w w':=
 k.mono λ _ _ x=>⟨x.1,x.2 ▸ h,x.2 ▸ aN.refl _ _⟩
def Uw (x r) (on a b op rd rs1 rs2 imm) (s) (sh) (w) {mem regs:List Int} {pc:Int} (hx:aK 92 x mem regs pc w) (v:aK 171 r mem regs pc w):
    Calls prog 55 #[.agg (iJ x r).toArray,.agg (cM 15 on a b op rd rs1 rs2 imm s sh).toArray] w (wL x r mem regs pc w):=by
 have q:=aA (jM.new hx v (cM 15 on a b op rd rs1 rs2 imm s sh));have u:=aA (λ (w':World) (h:aK 92 x mem regs pc w')=>Hy x w' h)
 have A:=aA (λ (w':World) (h:aK 171 r mem regs pc w')=>Hy r w' h)
 clear hx v;clear A;unfold cM iJ;go_in;go_wp2_with fail;refine zK (u.out _ q.out.mx) λ w1 y=>?_;have j:=aA (show jM x r mem regs pc mem regs pc _ w w1 from y.symm ▸ q.out)
 have E:w1.cell? ⟨w.heap.size,1,none⟩=_:=j.out.p.2.2 1 _ rfl;have c2:w1.cell? ⟨w.heap.size+1,2,none⟩=_:=j.out.o.2.2 2 _ rfl;have C:w1.cell? ⟨w.heap.size+1,3,none⟩=_:=j.out.o.2.2 3 _ rfl;have F:=j.out.p.1;have D:=j.out.o.1;clear q u y;have H:=j.out.mr.cellP;have G:=j.out.mr.lt;go_wp2;go_ret;exact ⟨rfl,j.out.mx,j.out.mr,j.out.k⟩
def Uj (x r) (on a b op rd rs1 rs2 imm) (s) (sh) (w) {mem regs:List Int} {pc:Int} (hx:aK 92 x mem regs pc w) (M:aK 171 r mem regs pc w) (C:∀k,dH (regs.getD k 0)):
    Calls prog 55 #[.agg (iJ x r).toArray,.agg (cM 16 on a b op rd rs1 rs2 imm s sh).toArray] w (wL x r (eB mem regs pc).2.1 (eB mem regs pc).2.2.1 (eB mem regs pc).2.2.2 w):=by
 have J:=aA (jM.new hx M (cM 16 on a b op rd rs1 rs2 imm s sh));have H:=aA (λ (w':World) (h:aK 92 x mem regs pc w')=>Nt x w' h C)
 have I:=aA (λ (w':World) (h:aK 171 r mem regs pc w')=>DK r w' h C)
 clear hx M;clear C;generalize eB mem regs pc=R at *;obtain ⟨⟨u,q⟩,X,W,Y⟩:=R;unfold jY at H I;simp only at H I ⊢;unfold cM iJ;go_in;go_wp2_with fail;refine (H.out _ J.out.mx).mono ?_;rintro e w1 ⟨rfl,F,E⟩;have j:=aA (J.out.goX F E);have P:w1.cell? ⟨w.heap.size,1,none⟩=_:=j.out.p.2.2 1 _ rfl;have c2:w1.cell? ⟨w.heap.size+1,2,none⟩=_:=j.out.o.2.2 2 _ rfl;have N:w1.cell? ⟨w.heap.size+1,3,none⟩=_:=j.out.o.2.2 3 _ rfl;have Q:=j.out.p.1;have O:=j.out.o.1;clear J H F E;unfold aO;go_wp2_with fail;have L:=aA (aF.new w1 [.int .i64 u,.int .i64 q] 56);have y:=aA (j.out.alloc (.cells #[.int .i64 u,.int .i64 q] 56));have Z:=j.out.mr.lt;refine (I.out _ y.out.mr).mono ?_;rintro e w2 ⟨rfl,G,A⟩;have D:=aA (y.out.goR G A);have v:=aA (L.out.kept A (by omega))
 obtain ⟨T,U⟩:=bE v.out.2.2;have V:=v.out.1;have K:=aA (D.out.alloc (.cells #[.int .i64 u,.int .i64 q] 56));clear G A j D y L v P c2 N Q O I;unfold aO;go_wp2;go_ret;exact ⟨rfl,K.out.mx,K.out.mr,K.out.k⟩
def Ux (x r) (on a b op rd rs1 rs2 imm) (s) (sh) (w) {mem regs:List Int} {pc:Int} (hx:aK 92 x mem regs pc w) (M:aK 171 r mem regs pc w) (C:∀k,dH (regs.getD k 0)):
    Calls prog 55 #[.agg (iJ x r).toArray,.agg (cM 17 on a b op rd rs1 rs2 imm s sh).toArray] w (wL x r (iP (mq a) 0 mem regs pc).2.1 (iP (mq a) 0 mem regs pc).2.2.1 (iP (mq a) 0 mem regs pc).2.2.2 w):=by
 have J:=aA (jM.new hx M (cM 17 on a b op rd rs1 rs2 imm s sh));have H:=aA (λ (w':World) (h:aK 92 x mem regs pc w')=>O2 x a w' h C)
 have I:=aA (λ (w':World) (h:aK 171 r mem regs pc w')=>OL r a w' h C)
 clear hx M;clear C;generalize iP (mq a) 0 mem regs pc=R at *;obtain ⟨⟨⟨u,q⟩,n⟩,X,W,Y⟩:=R;unfold pT at H I;simp only at H I ⊢;unfold cM iJ;go_in;go_wp2_with fail;refine (H.out _ J.out.mx).mono ?_;rintro e w1 ⟨rfl,F,E⟩;have j:=aA (J.out.goX F E);have P:w1.cell? ⟨w.heap.size,1,none⟩=_:=j.out.p.2.2 1 _ rfl;have c2:w1.cell? ⟨w.heap.size+1,2,none⟩=_:=j.out.o.2.2 2 _ rfl;have N:w1.cell? ⟨w.heap.size+1,3,none⟩=_:=j.out.o.2.2 3 _ rfl;have Q:=j.out.p.1;have O:=j.out.o.1;clear J H F E;unfold aO;go_wp2_with fail;have L:=aA (aF.new w1 [.int .i64 u,.int .i64 q] 56);have y:=aA (j.out.alloc (.cells #[.int .i64 u,.int .i64 q] 56));have Z:=j.out.mr.lt;refine (I.out _ y.out.mr).mono ?_;rintro e w2 ⟨rfl,G,A⟩;have D:=aA (y.out.goR G A);have v:=aA (L.out.kept A (by omega))
 obtain ⟨T,U⟩:=bE v.out.2.2;have V:=v.out.1;have K:=aA (D.out.alloc (.cells #[.int .i64 u,.int .i64 q] 56));clear G A j D y L v P c2 N Q O I;unfold aO;go_wp2;go_ret;exact ⟨rfl,K.out.mx,K.out.mr,K.out.k⟩
structure gJ (B g:Nat) (w w':World):Prop where
 os:w'.os=w.os
 tape:w'.tape=w.tape
 output:w'.output=w.output
 size:w.heap.size<=w'.heap.size
 block:∀k,k<B->k≠g->w'.heap[k]?=w.heap[k]?
def gJ.refl (B g) (w):gJ B g w w:=⟨rfl,rfl,rfl,zn,λ _ _ _=>rfl⟩
def gJ.trans {B g:Nat} {x:World} (h:gJ B g x y) (k:gJ B g y z):gJ B g x z:=
 ⟨k.os.trans h.os,k.tape.trans h.tape,k.output.trans h.output,Nat.le_trans h.size k.size,λ i hi j=>(k.block i hi j).trans (h.block i hi j)⟩
def gJ.of_below {B g:Nat} {w w':World} (h:Below w.heap.size w w') (j:B<=w.heap.size):gJ B g w w':=⟨h.os,h.tape,h.output,h.size,λ k q _=>h.block k (by omega)⟩
def gJ.of_kept2 {B g x r:Nat} {w w':World} (h:ki x r w w') (j:B<=w.heap.size) (hx:B<=x) (u:B<=r):gJ B g w w':=⟨h.os,h.tape,h.output,h.size,λ k q _=>h.block k (by omega) (by omega) (by omega)⟩
def World.ownsRow.same {w w':World} {size n:Nat} {v:Value} (h:w.ownsRow base e size v n xs) (C:∀k,v.ownBlock=some k->w'.heap[k]?=w.heap[k]?):w'.ownsRow base e size v n xs:=by
 refine ⟨h.1,?_⟩;rcases h.2 with A|⟨g,cap,q,rfl,y,u,j⟩
 .exact .inl A
 exact .inr ⟨g,cap,q,rfl,y,(C g rfl).trans u,j⟩
def World.ownsRow.not_m {w:World} {size n:Nat} {v:Value} (h:w.ownsRow base e size v n xs) {mem regs:List Int} {pc:Int} (k:aK T b mem regs pc w) (q:e≠T):v.ownBlock≠some b:=by
 intro u;rcases h.2 with ⟨rfl,_⟩|⟨g,cap,A,rfl,C,j,y⟩
 .cases u
 obtain rfl:g=b:=Option.some.inj u;have:=j.symm.trans k.row;injection this with e1
 injection e1 with _ e2
 exact q e2
structure Mc where
 x:Nat
 r:Nat
 mem:List Int
 regs:List Int
 pc:Int
structure Mc.At (B:Nat) (m:Mc) (w:World):Prop where
 bx:B<=m.x
 br:B<=m.r
 x:aK 92 m.x m.mem m.regs m.pc w
 r:aK 171 m.r m.mem m.regs m.pc w
 i:∀k,dH (m.regs.getD k 0)
def oY (n:Nat) (f:Nat->Mc):List Value:=(List.range n).flatMap λ i=>iJ (f i).x (f i).r
structure fU (B g n:Nat) (f:Nat->Mc) (v:Value) (w:World):Prop where
 gl:g<B
 bw:B<=w.heap.size
 cell:w.heap[g]?=some (.cells #[v] 72 (0,0))
 row:w.ownsRow B 97 2 v n (oY n f)
 each:∀i,i<n->(f i).At B w
 ap:∀i j,i<n->j<n->i≠j->(f i).x≠(f j).x/\(f i).r≠(f j).r
section
variable {B g n : Nat} {f : Nat → Mc} {v : Value} {w w' : World}
def fU.next (h:fU B g n f v w) (j:Below w.heap.size w w'):fU B g n f v w':=
 ⟨h.gl,Nat.le_trans h.bw j.size,(j.block g (zl h.gl h.bw)).trans h.cell,h.row.same λ k q=>j.block k (h.row.lt k q).2,
  λ i hi=>⟨(h.each i hi).bx,(h.each i hi).br,(h.each i hi).x.next j,(h.each i hi).r.next j,(h.each i hi).i⟩,h.ap⟩
def fU.ran (h:fU B g n f v w) (hi:i<n) {mem regs:List Int} {pc:Int} (hx:aK 92 (f i).x mem regs pc w') (K:aK 171 (f i).r mem regs pc w') (C:ki (f i).x (f i).r w w') (E:∀k,dH (regs.getD k 0)):
    fU B g n (λ j=>if j=i then ⟨(f i).x,(f i).r,mem,regs,pc⟩ else f j) v w':=by
 have u:=h.each i hi;have G:∀j,(if j=i then (⟨(f i).x,(f i).r,mem,regs,pc⟩:Mc) else f j).x=(f j).x:=λ j=>by split<;>simp_all
 have F:∀j,(if j=i then (⟨(f i).x,(f i).r,mem,regs,pc⟩:Mc) else f j).r=(f j).r:=λ j=>by split<;>simp_all
 refine ⟨h.gl,Nat.le_trans h.bw C.size,?_,?_,λ j H=>?_,λ a b I J D=>?_⟩
 .have:=u.bx;have:=u.br;have:=h.gl;have:=h.bw
  exact (C.block g (by omega) (by omega) (by omega)).trans h.cell
 .have e:oY n (λ j=>if j=i then ⟨(f i).x,(f i).r,mem,regs,pc⟩ else f j)=oY n f:=by
   unfold oY;simp only[G,F]
  rw[e];exact h.row.same λ k y=>C.block k (h.row.lt k y).2 (λ e=>h.row.not_m u.x (by decide) (e ▸ y)) (λ e=>h.row.not_m u.r (by decide) (e ▸ y))
 .by_cases e:j=i
  .subst e
   simp only[if_true];exact ⟨u.bx,u.br,hx,K,E⟩
  simp only[aC e];have q:=h.each j H;have A:=h.ap j i H hi e;exact ⟨q.bx,q.br,q.x.same (C.block _ q.x.lt A.1 (q.x.ne u.r (by decide))),q.r.same (C.block _ q.r.lt (q.r.ne u.x (by decide)) A.2),q.i⟩
 simp only[G,F];exact h.ap a b I J D
def fU.add (h:fU B g n f v w) {m:Mc} (P:m.At B w) (D:∀i,i<n->(f i).x≠m.x/\(f i).r≠m.r) {A:Value} (y:w.grownBy w' v.ownBlock) (N:w'.ownsRow B 97 2 A (n+1) (oY n f++iJ m.x m.r)):
    fU B g (n+1) (λ j=>if j=n then m else f j) A (w'.setCell ⟨g,0,none⟩ A)/\gJ B g w (w'.setCell ⟨g,0,none⟩ A):=by
 have H:=h.gl;have O:=h.bw;have J:=y.size;have u:∀k,k≠g->(w'.setCell ⟨g,0,none⟩ A).heap[k]?=w'.heap[k]?:=λ k F=>Below.heap_setCell _ _ _ _ (λ e=>F e)
 have E:w'.heap[g]?=some (.cells #[v] 72 (0,0)):=(y.block g (by omega) (λ e=>by have:=(h.row.lt g e.symm).1;omega)).trans h.cell
 have C:∀{q:Mc},q.At B w->q.At B (w'.setCell ⟨g,0,none⟩ A):=λ {q} hq=>by
  have:=hq.bx;have:=hq.br;exact ⟨hq.bx,hq.br,hq.x.same ((u _ (by omega)).trans (y.block _ hq.x.lt (λ e=>h.row.not_m hq.x (by decide) e.symm))),hq.r.same ((u _ (by omega)).trans (y.block _ hq.r.lt (λ e=>h.row.not_m hq.r (by decide) e.symm))),hq.i⟩
 refine ⟨⟨H,by simp[World.setCell];omega,?_,?_,λ j R=>?_,λ a b M Q G=>?_⟩,y.os,y.tape,y.output,by simpa[World.setCell] using J,λ k F I=>(u k I).trans (y.block k (by omega) (λ e=>by have:=(h.row.lt k e.symm).1;omega))⟩
 .rw[heap_setCell_same w' g 0 _ _ A E];rfl
 .have e:oY (n+1) (λ j=>if j=n then m else f j)=oY n f++iJ m.x m.r:=by
   unfold oY;rw[List.range_succ,List.flatMap_append];congr 1
   .rw[List.flatMap_def,List.flatMap_def]
    congr 1;exact List.map_congr_left λ a M=>by simp only[aC (show ¬a=n by have:=List.mem_range.1 M;omega)]
   simp
  rw[e];exact N.same λ k F=>u k (by have:=(N.lt k F).1;omega)
 .by_cases e:j=n
  .subst e
   simp only[if_true];exact C P
  simp only[aC e];exact C (h.each j (by omega))
 try simp only
 by_cases K:a=n
 .subst K
  rw[zt rfl,aC (by omega)]
  have:=D b (by omega)
  exact ⟨λ e=>this.1 e.symm,λ e=>this.2 e.symm⟩
 rw[aC K];by_cases L:b=n
 .subst L
  rw[zt rfl];exact D a (by omega)
 rw[aC L];exact h.ap a b (by omega) (by omega) G
def fU.form (h:fU B g n f v w):∃j cap,v=.slice j n cap:=by
 rcases h.row.2 with ⟨rfl,rfl⟩|⟨q,cap,u,rfl,_⟩
 .exact ⟨_,_,rfl⟩
 exact ⟨_,_,rfl⟩
def fU.cellv (h:fU B g n f v w):w.cell? ⟨g,0,none⟩=some v:=by
 rw[cell_of_row _ _ 0 _ _ (0,0) h.cell];rfl
def fU.pair (h:fU B g n f v w) (hi:i<n):∃q cap,v=.slice (some ⟨q,0,none⟩) n cap/\w.cell? ⟨q,i*2,none⟩=some (.pointer (some ⟨(f i).x,0,none⟩))/\w.cell? ⟨q,i*2+1,none⟩=some (.pointer (some ⟨(f i).r,0,none⟩)):=by
 obtain ⟨q,cap,rfl,_,_⟩:=h.row.form (by omega)
 have u:=λ j D=>jF (λ i=>iJ (f i).x (f i).r) 2 (λ _=>rfl) (List.range n) i j D (by simpa using hi)
 rw[List.getElem?_range hi]at u;have A:=h.row.cellAt (i*2) (by omega)
 have C:=h.row.cellAt (i*2+1) (by omega)
 have e0:=u 0 (by omega)
 have y:=u 1 (by omega)
 rw[Nat.mul_comm 2 i]at e0 y;exact ⟨q,cap,rfl,A.trans e0,C.trans y⟩
end
