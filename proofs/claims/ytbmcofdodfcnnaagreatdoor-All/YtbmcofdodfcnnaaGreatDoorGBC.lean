import Derived.Test.YtbmcofdodfcnnaaGreatDoorGFK
set_option linter.all false
set_option maxHeartbeats 0
set_option maxRecDepth 100000
namespace Go
variable {o kd n k j : Nat} {l m : List UInt8}
def bC (P:Nat->Bool):List UInt8->Nat->Bool
 | [],a=>P a
 | c::r,a=>if c=48 then bC P r (2*a) else if c=49 then bC P r (2*a+1) else bC P r (2*a)&&bC P r (2*a+1)
def py (P:Nat->Bool):∀(l:List UInt8) (a n:Nat),bC P l a=true->n/2^l.length=a->
    (∀j,j<l.length->(l.getD j 0=48->n/2^(l.length-1-j)%2=0)/\(l.getD j 0=49->n/2^(l.length-1-j)%2=1))->P n=true
 | [],a,n,h,hn,_=>by
  simp at hn;subst hn;exact h
 | c::r,a,n,h,hn,hd=>by
  have e:n/2^r.length/2=a:=by rw[Nat.div_div_eq_div_mul];simpa[Nat.pow_succ] using hn
  have y:=hd 0 (by simp)
  simp only[List.getD_cons_zero,List.length_cons,Nat.add_sub_cancel,Nat.sub_zero]at y
  have q:∀j,j<r.length->(r.getD j 0=48->n/2^(r.length-1-j)%2=0)/\(r.getD j 0=49->n/2^(r.length-1-j)%2=1):=λ j C=>by
   (have:=hd (j+1) (by simp;omega));simp only[List.getD_cons_succ,List.length_cons,Nat.add_sub_cancel]at this;(have A:r.length-(j+1)=r.length-1-j:=by omega);rw[A]at this;exact this
  have w:n/2^r.length=2*a\/n/2^r.length=2*a+1:=by omega
  unfold bC at h;by_cases u:c=48
  .rw[zt u]at h
   exact py P r _ n h (by have:=y.1 u;omega) q
  rw[aC u]at h;by_cases v:c=49
  .rw[zt v]at h
   exact py P r _ n h (by have:=y.2 v;omega) q
  rw[aC v,Bool.and_eq_true]at h;rcases w with w|w
  .exact py P r _ n h.1 w q
  exact py P r _ n h.2 w q
def dN (k:Nat) (n:Nat):Bool:=decide (jR (fm k) (gS (fm k) n)=n)&&(right (gS (fm k) n)||!(fH (fm k).hold (gS (fm k) n)))
def oK {α:Type} (x:Int) (f:Int->α):α:=match x with
 | .ofNat 0=>f 0
 | .ofNat (m+1)=>f (.ofNat (m+1))
 | .negSucc 0=>f (-1)
 | .negSucc (m+1)=>f (.negSucc (m+1))
def tf {α:Type} (x) (f:Int->α):oK x f=f x:=by
 unfold oK
 split<;>rfl
def kW (k:Nat):Int:=((2^k:Nat):Int)
def oG (k):(2:Int)^k=kW k:=by unfold kW;rw[Int.natCast_pow];rfl
def gR (n p:Int):Int:=n/kW p.toNat%2
def nM (n p):bt n p=gR n p:=by
 unfold bt gR aD fE;rw[<-oG];simp
def nZ (a b:Int):Int:=match a,b with
 | .ofNat x,.ofNat y=>if Nat.ble x 65535&&Nat.ble y 65535 then .ofNat (x ||| y) else aT a b
 | _,_=>aT a b
def tb (a b):aT a b=nZ a b:=by
 unfold nZ
 split
 .rename_i x y
  split
  .rename_i h
   simp at h;exact nJ x y (by omega) (by omega)
  rfl
 rfl
def wT (p:List Int) (n:Int):Nat->Int
 | 0=>0
 | j+1=>nZ (wT p n j*2) (gR n (p.getD j 0))
def Ud (p) (n) (j):jz p n j=wT p n j:=by
 induction j with
 | zero=>rfl
 | succ j ih=>simp only[jz,wT,ih,nM,tb]
def rQ (p:List Int) (r:Int) (L:Int):Nat->Int
 | 0=>0
 | j+1=>nZ (rQ p r L j) (gR r (L-1-j)*kW (p.getD j 0).toNat)
def Ub (p) (r) (j):lR p r j=rQ p r p.length j:=by
 induction j with
 | zero=>rfl
 | succ j ih=>simp only[lR,rQ,ih,nM,oG,tb]
def kG (sg:Bool) (q p:List Int) (n:Int):Nat->Int
 | 0=>0
 | j+1=>nZ (kG sg q p n j) (if j=0/\sg=true then -(gR n (p.getD j 0)*kW (q.getD j 0).toNat) else gR n (p.getD j 0)*kW (q.getD j 0).toNat)
def Ha (f:Fm) (q p) (n) (j) (h:∀k,k<j->im f.order k=q.getD k 0):nY f p n j=kG f.signed q p n j:=by
 induction j with
 | zero=>rfl
 | succ j ih=>simp only[nY,kG,vK,ih (λ k u=>h k (by omega)),nM,oG,tb,h j (by omega)]
def tK (q p:List Int) (imm h0:Int):Nat->Int
 | 0=>h0
 | j+1=>nZ (tK q p imm h0 j) (gR imm (q.getD j 0)*kW (p.getD j 0).toNat)
def Uv (f:Fm) (q p) (imm h0) (j) (h:∀k,k<j->im f.order k=q.getD k 0):mB f p imm h0 j=tK q p imm h0 j:=by
 induction j with
 | zero=>rfl
 | succ j ih=>simp only[mB,tK,ih (λ k u=>h k (by omega)),nM,oG,tb,h j (by omega)]
def tE (c:Int) (p:List Int) (n:Int):Int:=if c<=31 then c else wT p n p.length+(if p.length=3 then 8 else 0)
def Ar (t:Bool×Bool×Bool) (kd:Nat) (a b c d:Int):Bool:=cK t.1 a&&cK t.2.1 b&&cK t.2.2 c&&cW kd d
def Mu {t:Bool×Bool×Bool} (j:o<64) (q:has kd=t) (h:(row o).kind=kd) (a b c d):right ⟨o+1,a,b,c,d⟩=Ar t kd a b c d:=by
 rw[dJ _ _ _ _ _ j,h,q];rfl
def Bq (f:Fm) (t:Bool×Bool×Bool) (kd:Nat) (p1 p2 p3 pd ps pt pi q:List Int) (one:Int) (n:Nat):Bool:=
 oK (tE f.rd p1 n) λ a=>oK (tE f.rs1 p2 n) λ b=>oK (tE f.rs2 p3 n) λ c=>oK (kG f.signed q pi n pi.length) λ d=>
  decide (tK q pi d (nZ one (nZ (nZ (rQ pd a pd.length pd.length) (rQ ps b ps.length ps.length)) (rQ pt c pt.length pt.length))) pi.length=n)&&(Ar t kd a b c d||!(fH f.hold ⟨f.op,a,b,c,d⟩))
def TT (k:Nat) (f:Fm) (o:Nat) (t:Bool×Bool×Bool) (kd:Nat) (C D E F G pt y q:List Int) (one:Int) (O:fm k=f) (j:f.op=(o:Int)+1) (w:o<64) (h:(row o).kind=kd) (u:has kd=t) (K:places f.half f.rd=C) (L:places f.half f.rs1=D) (M:places f.half f.rs2=E) (N:places f.half 100=F) (Q:places f.half 115=G) (R:places f.half 116=pt) (hi:places f.half 105=y) (A:∀k,k<y.length->im f.order k=q.getD k 0) (P:jV f.half f.half.length=one) (n:Nat):
    Bq f t kd C D E F G pt y q one n=dN k n:=by
 unfold Bq dN;simp only[tf];have er:∀a b c d,Ar t kd a b c d=right ⟨f.op,a,b,c,d⟩:=λ a b c d=>by rw[j];exact (Mu w u h a b c d).symm
 simp only[er];clear er j h u;subst O K L M N Q R hi P;have H:∀x,kG (fm k).signed q (places (fm k).half 105) x (places (fm k).half 105).length=nc (fm k) x:=λ x=>(Ha _ _ _ _ _ A).symm
 have I:∀i:aE,tK q (places (fm k).half 105) i.imm (oM (fm k) i) (places (fm k).half 105).length=jR (fm k) i:=λ i=>(Uv _ _ _ _ _ _ A).symm
 have J:∀c x,tE c (places (fm k).half c) x=jl (fm k).half c x:=λ c x=>by unfold tE jl;rw[Ud]
 simp only[J,H,<-Ub,<-tb];have v:=I (gS (fm k) n);unfold oM at v;unfold ni at v;unfold gS at *;simp only at v;rw[v]
def fB (k:Nat) (f:Fm) (o:Nat) (t:Bool×Bool×Bool) (kd:Nat) (A C D E F pt j q:List Int) (one:Int) (G:fm k=f) (w:f.op=(o:Int)+1) (v:o<64) (u:(row o).kind=kd) (y:has kd=t) (H:places f.half f.rd=A) (I:places f.half f.rs1=C) (J:places f.half f.rs2=D) (K:places f.half 100=E) (N:places f.half 115=F) (O:places f.half 116=pt) (hi:places f.half 105=j) (M:∀k,k<j.length->im f.order k=q.getD k 0) (L:jV f.half f.half.length=one)
    (h:bC (Bq f t kd A C D E F pt j q one) f.half 0=true):bC (dN k) (fm k).half 0=true:=by
 rw[<-funext (TT k f o t kd A C D E F pt j q one G w v u y H I J K N O hi M L),G];exact h
def Xa:bC (dN 0) (fm 0).half 0=true:=fB 0 ⟨[48,48,48,105,105,105,105,105,105,105,105,100,100,100,48,48],[53,52,57,56,55,54,50,51],false,29,100,2,0,3⟩ 28 (true,true,false) 73 [4,3,2] [] [] [4,3,2] [] [] [12,11,10,9,8,7,6,5] [5,4,9,8,7,6,2,3] 0 rfl rfl (by decide) rfl rfl rfl rfl rfl rfl rfl rfl rfl (by decide) (by decide +kernel) (by decide +kernel)
def WV:bC (dN 1) (fm 1).half 0=true:=fB 1 ⟨[48,49,48,105,105,105,115,115,115,105,105,100,100,100,48,48],[53,52,51,50,54],false,44,100,115,0,0⟩ 43 (true,true,false) 76 [4,3,2] [9,8,7] [] [4,3,2] [9,8,7] [] [12,11,10,6,5] [5,4,3,2,6] 16384 rfl rfl (by decide) rfl rfl rfl rfl rfl rfl rfl rfl rfl (by decide) (by decide +kernel) (by decide +kernel)
def Xb:bC (dN 2) (fm 2).half 0=true:=fB 2 ⟨[48,49,49,105,105,105,115,115,115,105,105,100,100,100,48,48],[53,52,51,55,54],false,45,100,115,0,0⟩ 44 (true,true,false) 76 [4,3,2] [9,8,7] [] [4,3,2] [9,8,7] [] [12,11,10,6,5] [5,4,3,7,6] 24576 rfl rfl (by decide) rfl rfl rfl rfl rfl rfl rfl rfl rfl (by decide) (by decide +kernel) (by decide +kernel)
def WR:bC (dN 3) (fm 3).half 0=true:=fB 3 ⟨[49,49,48,105,105,105,115,115,115,105,105,116,116,116,48,48],[53,52,51,50,54],false,52,0,115,116,0⟩ 51 (false,true,true) 83 [] [9,8,7] [4,3,2] [] [9,8,7] [4,3,2] [12,11,10,6,5] [5,4,3,2,6] 49152 rfl rfl (by decide) rfl rfl rfl rfl rfl rfl rfl rfl rfl (by decide) (by decide +kernel) (by decide +kernel)
def X5:bC (dN 4) (fm 4).half 0=true:=fB 4 ⟨[49,49,49,105,105,105,115,115,115,105,105,116,116,116,48,48],[53,52,51,55,54],false,53,0,115,116,0⟩ 52 (false,true,true) 83 [] [9,8,7] [4,3,2] [] [9,8,7] [4,3,2] [12,11,10,6,5] [5,4,3,7,6] 57344 rfl rfl (by decide) rfl rfl rfl rfl rfl rfl rfl rfl rfl (by decide) (by decide +kernel) (by decide +kernel)
def WO:bC (dN 5) (fm 5).half 0=true:=fB 5 ⟨[48,48,48,105,100,100,100,100,100,105,105,105,105,105,48,49],[53,52,51,50,49,48],true,29,100,100,0,6⟩ 28 (true,true,false) 73 [11,10,9,8,7] [11,10,9,8,7] [] [11,10,9,8,7] [] [] [12,6,5,4,3,2] [5,4,3,2,1,0] 1 rfl rfl (by decide) rfl rfl rfl rfl rfl rfl rfl rfl rfl (by decide) (by decide +kernel) (by decide +kernel)
def WT:bC (dN 6) (fm 6).half 0=true:=fB 6 ⟨[48,48,49,105,100,100,100,100,100,105,105,105,105,105,48,49],[53,52,51,50,49,48],true,38,100,100,0,1⟩ 37 (true,true,false) 73 [11,10,9,8,7] [11,10,9,8,7] [] [11,10,9,8,7] [] [] [12,6,5,4,3,2] [5,4,3,2,1,0] 8193 rfl rfl (by decide) rfl rfl rfl rfl rfl rfl rfl rfl rfl (by decide) (by decide +kernel) (by decide +kernel)
def X9:bC (dN 7) (fm 7).half 0=true:=fB 7 ⟨[48,49,48,105,100,100,100,100,100,105,105,105,105,105,48,49],[53,52,51,50,49,48],true,29,100,0,0,1⟩ 28 (true,true,false) 73 [11,10,9,8,7] [] [] [11,10,9,8,7] [] [] [12,6,5,4,3,2] [5,4,3,2,1,0] 16385 rfl rfl (by decide) rfl rfl rfl rfl rfl rfl rfl rfl rfl (by decide) (by decide +kernel) (by decide +kernel)
def X2:bC (dN 8) (fm 8).half 0=true:=fB 8 ⟨[48,49,49,105,48,48,48,49,48,105,105,105,105,105,48,49],[57,52,54,56,55,53],true,29,2,2,0,3⟩ 28 (true,true,false) 73 [] [] [] [] [] [] [12,6,5,4,3,2] [9,4,6,8,7,5] 24833 rfl rfl (by decide) rfl rfl rfl rfl rfl rfl rfl rfl rfl (by decide) (by decide +kernel) (by decide +kernel)
def X1:bC (dN 9) (fm 9).half 0=true:=fB 9 ⟨[48,49,49,105,100,100,100,100,100,105,105,105,105,105,48,49],[53,52,51,50,49,48],true,60,100,0,0,7⟩ 59 (true,false,false) 85 [11,10,9,8,7] [] [] [11,10,9,8,7] [] [] [12,6,5,4,3,2] [5,4,3,2,1,0] 24577 rfl rfl (by decide) rfl rfl rfl rfl rfl rfl rfl rfl rfl (by decide) (by decide +kernel) (by decide +kernel)
def Wb:bC (dN 10) (fm 10).half 0=true:=fB 10 ⟨[49,48,48,105,48,48,100,100,100,105,105,105,105,105,48,49],[53,52,51,50,49,48],false,36,100,100,0,3⟩ 35 (true,true,false) 72 [9,8,7] [9,8,7] [] [9,8,7] [] [] [12,6,5,4,3,2] [5,4,3,2,1,0] 32769 rfl rfl (by decide) rfl rfl rfl rfl rfl rfl rfl rfl rfl (by decide) (by decide +kernel) (by decide +kernel)
def Vz:bC (dN 11) (fm 11).half 0=true:=fB 11 ⟨[49,48,48,105,48,49,100,100,100,105,105,105,105,105,48,49],[53,52,51,50,49,48],false,37,100,100,0,3⟩ 36 (true,true,false) 72 [9,8,7] [9,8,7] [] [9,8,7] [] [] [12,6,5,4,3,2] [5,4,3,2,1,0] 33793 rfl rfl (by decide) rfl rfl rfl rfl rfl rfl rfl rfl rfl (by decide) (by decide +kernel) (by decide +kernel)
def WL:bC (dN 12) (fm 12).half 0=true:=fB 12 ⟨[49,48,48,105,49,48,100,100,100,105,105,105,105,105,48,49],[53,52,51,50,49,48],true,34,100,100,0,0⟩ 33 (true,true,false) 73 [9,8,7] [9,8,7] [] [9,8,7] [] [] [12,6,5,4,3,2] [5,4,3,2,1,0] 34817 rfl rfl (by decide) rfl rfl rfl rfl rfl rfl rfl rfl rfl (by decide) (by decide +kernel) (by decide +kernel)
def Wc:bC (dN 13) (fm 13).half 0=true:=fB 13 ⟨[49,48,48,48,49,49,100,100,100,48,48,116,116,116,48,49],[],false,2,100,100,116,0⟩ 1 (true,true,true) 82 [9,8,7] [9,8,7] [4,3,2] [9,8,7] [] [4,3,2] [] [] 35841 rfl rfl (by decide) rfl rfl rfl rfl rfl rfl rfl rfl rfl (by decide) (by decide +kernel) (by decide +kernel)
def Wj:bC (dN 14) (fm 14).half 0=true:=fB 14 ⟨[49,48,48,48,49,49,100,100,100,48,49,116,116,116,48,49],[],false,6,100,100,116,0⟩ 5 (true,true,true) 82 [9,8,7] [9,8,7] [4,3,2] [9,8,7] [] [4,3,2] [] [] 35873 rfl rfl (by decide) rfl rfl rfl rfl rfl rfl rfl rfl rfl (by decide) (by decide +kernel) (by decide +kernel)
def W7:bC (dN 15) (fm 15).half 0=true:=fB 15 ⟨[49,48,48,48,49,49,100,100,100,49,48,116,116,116,48,49],[],false,9,100,100,116,0⟩ 8 (true,true,true) 82 [9,8,7] [9,8,7] [4,3,2] [9,8,7] [] [4,3,2] [] [] 35905 rfl rfl (by decide) rfl rfl rfl rfl rfl rfl rfl rfl rfl (by decide) (by decide +kernel) (by decide +kernel)
def Xk:bC (dN 16) (fm 16).half 0=true:=fB 16 ⟨[49,48,48,48,49,49,100,100,100,49,49,116,116,116,48,49],[],false,10,100,100,116,0⟩ 9 (true,true,true) 82 [9,8,7] [9,8,7] [4,3,2] [9,8,7] [] [4,3,2] [] [] 35937 rfl rfl (by decide) rfl rfl rfl rfl rfl rfl rfl rfl rfl (by decide) (by decide +kernel) (by decide +kernel)
def Vx:bC (dN 17) (fm 17).half 0=true:=fB 17 ⟨[49,48,48,49,49,49,100,100,100,48,48,116,116,116,48,49],[],false,20,100,100,116,0⟩ 19 (true,true,true) 82 [9,8,7] [9,8,7] [4,3,2] [9,8,7] [] [4,3,2] [] [] 39937 rfl rfl (by decide) rfl rfl rfl rfl rfl rfl rfl rfl rfl (by decide) (by decide +kernel) (by decide +kernel)
def Wp:bC (dN 18) (fm 18).half 0=true:=fB 18 ⟨[49,48,48,49,49,49,100,100,100,48,49,116,116,116,48,49],[],false,19,100,100,116,0⟩ 18 (true,true,true) 82 [9,8,7] [9,8,7] [4,3,2] [9,8,7] [] [4,3,2] [] [] 39969 rfl rfl (by decide) rfl rfl rfl rfl rfl rfl rfl rfl rfl (by decide) (by decide +kernel) (by decide +kernel)
def Vr:bC (dN 19) (fm 19).half 0=true:=fB 19 ⟨[49,48,49,105,105,105,105,105,105,105,105,105,105,105,48,49],[98,52,57,56,97,54,55,51,50,49,53],true,62,0,0,0,0⟩ 61 (true,false,false) 74 [] [] [] [] [] [] [12,11,10,9,8,7,6,5,4,3,2] [11,4,9,8,10,6,7,3,2,1,5] 40961 rfl rfl (by decide) rfl rfl rfl rfl rfl rfl rfl rfl rfl (by decide) (by decide +kernel) (by decide +kernel)
def Xd:bC (dN 20) (fm 20).half 0=true:=fB 20 ⟨[49,49,48,105,105,105,115,115,115,105,105,105,105,105,48,49],[56,52,51,55,54,50,49,53],true,54,0,115,0,0⟩ 53 (false,true,true) 66 [] [9,8,7] [] [] [9,8,7] [] [12,11,10,6,5,4,3,2] [8,4,3,7,6,2,1,5] 49153 rfl rfl (by decide) rfl rfl rfl rfl rfl rfl rfl rfl rfl (by decide) (by decide +kernel) (by decide +kernel)
def WF:bC (dN 21) (fm 21).half 0=true:=fB 21 ⟨[49,49,49,105,105,105,115,115,115,105,105,105,105,105,48,49],[56,52,51,55,54,50,49,53],true,55,0,115,0,0⟩ 54 (false,true,true) 66 [] [9,8,7] [] [] [9,8,7] [] [12,11,10,6,5,4,3,2] [8,4,3,7,6,2,1,5] 57345 rfl rfl (by decide) rfl rfl rfl rfl rfl rfl rfl rfl rfl (by decide) (by decide +kernel) (by decide +kernel)
def VR:bC (dN 22) (fm 22).half 0=true:=fB 22 ⟨[48,48,48,105,100,100,100,100,100,105,105,105,105,105,49,48],[53,52,51,50,49,48],false,35,100,100,0,5⟩ 34 (true,true,false) 72 [11,10,9,8,7] [11,10,9,8,7] [] [11,10,9,8,7] [] [] [12,6,5,4,3,2] [5,4,3,2,1,0] 2 rfl rfl (by decide) rfl rfl rfl rfl rfl rfl rfl rfl rfl (by decide) (by decide +kernel) (by decide +kernel)
def Wt:bC (dN 23) (fm 23).half 0=true:=fB 23 ⟨[48,49,48,105,100,100,100,100,100,105,105,105,105,105,49,48],[53,52,51,50,55,54],false,44,100,2,0,1⟩ 43 (true,true,false) 76 [11,10,9,8,7] [] [] [11,10,9,8,7] [] [] [12,6,5,4,3,2] [5,4,3,2,7,6] 16386 rfl rfl (by decide) rfl rfl rfl rfl rfl rfl rfl rfl rfl (by decide) (by decide +kernel) (by decide +kernel)
def Wg:bC (dN 24) (fm 24).half 0=true:=fB 24 ⟨[48,49,49,105,100,100,100,100,100,105,105,105,105,105,49,48],[53,52,51,56,55,54],false,45,100,2,0,1⟩ 44 (true,true,false) 76 [11,10,9,8,7] [] [] [11,10,9,8,7] [] [] [12,6,5,4,3,2] [5,4,3,8,7,6] 24578 rfl rfl (by decide) rfl rfl rfl rfl rfl rfl rfl rfl rfl (by decide) (by decide +kernel) (by decide +kernel)
def Vj:bC (dN 25) (fm 25).half 0=true:=fB 25 ⟨[49,48,48,48,115,115,115,115,115,48,48,48,48,48,49,48],[],false,49,0,115,0,2⟩ 48 (true,true,false) 76 [] [11,10,9,8,7] [] [] [11,10,9,8,7] [] [] [] 32770 rfl rfl (by decide) rfl rfl rfl rfl rfl rfl rfl rfl rfl (by decide) (by decide +kernel) (by decide +kernel)
def Xm:bC (dN 26) (fm 26).half 0=true:=fB 26 ⟨[49,48,48,48,100,100,100,100,100,116,116,116,116,116,49,48],[],false,1,100,0,116,4⟩ 0 (true,true,true) 82 [11,10,9,8,7] [] [6,5,4,3,2] [11,10,9,8,7] [] [6,5,4,3,2] [] [] 32770 rfl rfl (by decide) rfl rfl rfl rfl rfl rfl rfl rfl rfl (by decide) (by decide +kernel) (by decide +kernel)
def Vy:bC (dN 27) (fm 27).half 0=true:=fB 27 ⟨[49,48,48,49,48,48,48,48,48,48,48,48,48,48,49,48],[],false,64,0,0,0,0⟩ 63 (false,false,false) 78 [] [] [] [] [] [] [] [] 36866 rfl rfl (by decide) rfl rfl rfl rfl rfl rfl rfl rfl rfl (by decide) (by decide +kernel) (by decide +kernel)
def VW:bC (dN 28) (fm 28).half 0=true:=fB 28 ⟨[49,48,48,49,115,115,115,115,115,48,48,48,48,48,49,48],[],false,49,1,115,0,2⟩ 48 (true,true,false) 76 [] [11,10,9,8,7] [] [] [11,10,9,8,7] [] [] [] 36866 rfl rfl (by decide) rfl rfl rfl rfl rfl rfl rfl rfl rfl (by decide) (by decide +kernel) (by decide +kernel)
def Ws:bC (dN 29) (fm 29).half 0=true:=fB 29 ⟨[49,48,48,49,100,100,100,100,100,116,116,116,116,116,49,48],[],false,1,100,100,116,4⟩ 0 (true,true,true) 82 [11,10,9,8,7] [11,10,9,8,7] [6,5,4,3,2] [11,10,9,8,7] [] [6,5,4,3,2] [] [] 36866 rfl rfl (by decide) rfl rfl rfl rfl rfl rfl rfl rfl rfl (by decide) (by decide +kernel) (by decide +kernel)
def VU:bC (dN 30) (fm 30).half 0=true:=fB 30 ⟨[49,49,48,105,105,105,105,105,105,116,116,116,116,116,49,48],[53,52,51,50,55,54],false,52,0,2,116,0⟩ 51 (false,true,true) 83 [] [] [6,5,4,3,2] [] [] [6,5,4,3,2] [12,11,10,9,8,7] [5,4,3,2,7,6] 49154 rfl rfl (by decide) rfl rfl rfl rfl rfl rfl rfl rfl rfl (by decide) (by decide +kernel) (by decide +kernel)
def W9:bC (dN 31) (fm 31).half 0=true:=fB 31 ⟨[49,49,49,105,105,105,105,105,105,116,116,116,116,116,49,48],[53,52,51,56,55,54],false,53,0,2,116,0⟩ 52 (false,true,true) 83 [] [] [6,5,4,3,2] [] [] [6,5,4,3,2] [12,11,10,9,8,7] [5,4,3,8,7,6] 57346 rfl rfl (by decide) rfl rfl rfl rfl rfl rfl rfl rfl rfl (by decide) (by decide +kernel) (by decide +kernel)
def V0:∀k,k<32->bC (dN k) (fm k).half 0=true
 | 0,_=>Xa
 | 1,_=>WV
 | 2,_=>Xb
 | 3,_=>WR
 | 4,_=>X5
 | 5,_=>WO
 | 6,_=>WT
 | 7,_=>X9
 | 8,_=>X2
 | 9,_=>X1
 | 10,_=>Wb
 | 11,_=>Vz
 | 12,_=>WL
 | 13,_=>Wc
 | 14,_=>Wj
 | 15,_=>W7
 | 16,_=>Xk
 | 17,_=>Vx
 | 18,_=>Wp
 | 19,_=>Vr
 | 20,_=>Xd
 | 21,_=>WF
 | 22,_=>VR
 | 23,_=>Wt
 | 24,_=>Wg
 | 25,_=>Vj
 | 26,_=>Xm
 | 27,_=>Vy
 | 28,_=>VW
 | 29,_=>Ws
 | 30,_=>VU
 | 31,_=>W9
 | k+32,h=>absurd h (by omega)
def oH:∀k,k<32->(fm k).half.length=16:=by decide
def Ai (n j:Nat) (q:j<16):aD (n:Int) (15-(j:Int)) (15-(j:Int))=((n/2^(15-j)%2:Nat):Int):=by
 have e:(15-(j:Int)).toNat=15-j:=by omega
 have h:=nM (n:Int) (15-(j:Int));unfold bt at h;rw[h];unfold gR kW;rw[e];omega
def ql (v:l.length=16) (h:hZ l n=true) (j) (u:j<16):
    (l.getD j 0=48->n/2^(15-j)%2=0)/\(l.getD j 0=49->n/2^(15-j)%2=1):=by
 unfold hZ at h;rw[List.all_eq_true]at h;have q:=h j (by simp[v];exact u)
 unfold nh at q
 constructor
 .intro e
  rw[e]at q;simp at q;rw[Ai n j u]at q;omega
 intro e;rw[e]at q;simp at q;rw[Ai n j u]at q;omega
def H2 (v:k<32) (w:n<65536) (h:hZ (fm k).half n=true):dN k n=true:=by
 have q:=oH k v;refine py (dN k) (fm k).half 0 n (V0 k v) (by rw[q];omega) (λ j u=>?_)
 rw[q]at u ⊢;exact ql q h j u
def wF (l m:List UInt8):Bool:=(List.range 16).any λ j=>(l.getD j 0==48&&m.getD j 0==49)||(l.getD j 0==49&&m.getD j 0==48)
def S7 (w:l.length=16) (y:m.length=16) (h:wF l m=true) (u:hZ l n=true) (v:hZ m n=true):False:=by
 unfold wF at h;rw[List.any_eq_true]at h;obtain ⟨j,q,h⟩:=h;have q:j<16:=by simpa using q
 have d1:=ql w u j q;have d2:=ql y v j q;simp at h;rcases h with ⟨a,b⟩|⟨a,b⟩
 .have:=d1.1 a;have:=d2.2 b;omega
 have:=d1.2 a;have:=d2.1 b;omega
def spec (j k:Nat):Bool:=(j==8&&k==9)||(j==25&&k==26)||(j==27&&k==28)||(j==27&&k==29)||(j==28&&k==29)
def St:((List.range 32).all λ j=>(List.range 32).all λ k=>!(decide (j<k))||wF (fm j).half (fm k).half||spec j k)=true:=by decide +kernel
def Vc (w:k<32) (q:j<k):wF (fm j).half (fm k).half=true\/spec j k=true:=by
 have h:=St;rw[List.all_eq_true]at h;have u:=h j (by simp;omega)
 rw[List.all_eq_true]at u;have v:=u k (by simp;omega)
 simp[q]at v;exact v
def oJ (k n:Nat):Bool:=!(fH (fm k).hold (gS (fm k) n))
def Up:bC (oJ 9) (fm 8).half 0=true:=by decide +kernel
def PD:bC (oJ 26) (fm 25).half 0=true:=by decide +kernel
def NV:bC (oJ 28) (fm 27).half 0=true:=by decide +kernel
def Pm:bC (oJ 29) (fm 27).half 0=true:=by decide +kernel
def OS:bC (oJ 29) (fm 28).half 0=true:=by decide +kernel
def tA (v:j<32) (w:n<65536) (h:bC (oJ k) (fm j).half 0=true) (u:hZ (fm j).half n=true):fH (fm k).hold (gS (fm k) n)=false:=by
 have q:=oH j v
 have:=py (oJ k) (fm j).half 0 n h (by rw[q];omega) (λ x hx=>by
  rw[q]at hx ⊢;exact ql q u x hx)
 simpa[oJ] using this
def oy {n:Int} (h:iE n k=true):hZ (fm k).half n=true/\fH (fm k).hold (gS (fm k) n)=true/\fW (fm k) n=(gS (fm k) n,true):=by
 unfold iE fW at h;by_cases j:hZ (fm k).half n=true
 .rw[zt j]at h
  exact ⟨j,h,by unfold fW;rw[zt j,show fH (fm k).hold (gS (fm k) n)=true from h]⟩
 rw[aC j]at h;cases h
def Hh (A:k<32) (q:n<65536) (u:j<k) (C:iE n j=true) (v:iE n k=true):False:=by
 obtain ⟨f1,_,_⟩:=oy C;obtain ⟨f2,y,_⟩:=oy v;rcases Vc A u with h|h
 .exact S7 (oH j (by omega)) (oH k A) h f1 f2
 have w:fH (fm k).hold (gS (fm k) n)=false:=by
  simp[spec]at h;rcases h with (((⟨rfl,rfl⟩|⟨rfl,rfl⟩)|⟨rfl,rfl⟩)|⟨rfl,rfl⟩)|⟨rfl,rfl⟩
  .exact tA (by decide) q Up f1
  .exact tA (by decide) q PD f1
  .exact tA (by decide) q NV f1
  .exact tA (by decide) q Pm f1
  exact tA (by decide) q OS f1
 rw[w]at y;cases y
def Sy (w:j<32) (y:k<32) (v:n<65536) (q:iE n j=true) (u:iE n k=true):j=k:=by
 rcases Nat.lt_trichotomy j k with h|h|h
 .exact (Hh y v h q u).elim
 .exact h
 exact (Hh w v h u q).elim
def Ls (u:k<32) (v:n<65536) (h:iE n k=true):cE n=(gS (fm k) n,0):=by
 have e:=(oy h).2.2;rw[Gk (by omega) u (λ j w=>?_) h,e]
 by_cases q:iE n j=true
 .have:=Sy (by omega) u v q h;omega
 simpa using q
def LL:∀k,k<32->((fm k).half.getD 14 0=48\/((fm k).half.getD 14 0=49/\(fm k).half.getD 15 0=48)):=by decide
def FW (j:k<32) (q:hZ (fm k).half n=true):n%4≠3:=by
 have d14:=ql (oH k j) q 14 (by decide)
 have d15:=ql (oH k j) q 15 (by decide)
 rcases LL k j with h|⟨_,h⟩
 .have:=d14.1 h;simp at this;omega
 have:=d15.1 h;simp at this;omega
def yw (q:k<32) (i):0<=jR (fm k) i/\jR (fm k) i<65536:=by
 have j:=A9 k q;have h:=DZ (fm k) j i;exact Ul (fm k) _ _ _ h.1 h.2 (ry (fm k).half 105 (fm k).half.length j.len) _ zn
def GB {a b:aE} (h:nT a b=true):a=b:=by
 obtain ⟨j,q,u,v,w⟩:=a;obtain ⟨y,A,C,D,E⟩:=b;simp[nT]at h;obtain ⟨rfl,rfl,rfl,rfl,rfl⟩:=h;rfl
def Di (a):nT a a=true:=by simp[nT]
def DD {i:aE} {h:Int} (q:bQ i=(h,0)):cE h=(i,0)/\0<=h/\h<=65535/\h%4≠3/\right i=true:=by
 unfold bQ at q;by_cases v:right i=true
 .rw[zt v]at q
  split at q
  .rename_i k hk
   have u:=List.find?_some hk;(have j:k<32:=by have:=List.mem_of_find?_eq_some hk;simpa using this);simp only[Prod.mk.injEq,and_true]at q;subst q;have w:=yw j i;obtain ⟨n,C⟩:=zi w.1;rw[C]at w ⊢;unfold jU at u;rw[C]at u;simp only[Bool.and_eq_true]at u;have y:iE n k=true:=u.2.1;have hi:=GB u.2.2;(have hx:=Ls j (by omega) y);have A:=oy y;rw[A.2.2]at hi;simp only at hi;rw[hx,hi];have:=FW j A.1;exact ⟨rfl,by omega,by omega,by omega,v⟩
  simp at q
 rw[aC v]at q;simp at q
def Ma {n:Int} {y:aE} (h:cE n=(y,0)):∃v,bQ y=(v,0):=by
 unfold cE at h;by_cases w:n<0\/65535<n
 .rw[zt w]at h;simp at h
 rw[aC w]at h;obtain ⟨m,E⟩:=zi (show 0<=n by omega)
 subst E
 split at h
 .rename_i k hk
  have F:iE m k=true:=List.find?_some hk;have u:k<32:=by have:=List.mem_of_find?_eq_some hk;simpa using this
  obtain ⟨C,D,A⟩:=oy F;rw[A]at h;simp only[Prod.mk.injEq,and_true]at h;have ok:=H2 u (by omega) C
  unfold dN at ok;rw[D,h]at ok;simp at ok;obtain ⟨H,q⟩:=ok
  have G:jU y k=true:=by
   unfold jU;rw[H,A,h];simp only[Di,Bool.and_true];rw[<-h];simp[gS]
  unfold bQ;rw[zt q]
  cases hfi:(List.range 32).find? (jU y) with
  | some j=>exact ⟨_,rfl⟩
  | none=>
   (have:=List.find?_eq_none.1 hfi k (by simp;omega));exact absurd G this
 simp at h
