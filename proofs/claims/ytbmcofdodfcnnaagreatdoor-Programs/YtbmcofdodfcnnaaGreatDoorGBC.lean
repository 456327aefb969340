import Derived.Test.YtbmcofdodfcnnaaGreatDoorGFK
set_option linter.all false
set_option maxHeartbeats 400000000
set_option maxRecDepth 100000
namespace Pn
def a0k (P:Nat->Bool):List UInt8->Nat->Bool
 | [],a=>P a
 | c::r,a=>if c=48 then a0k P r (2*a) else if c=49 then a0k P r (2*a+1) else a0k P r (2*a)&&a0k P r (2*a+1)
theorem a27 (P:Nat->Bool):∀(l:List UInt8) (a n:Nat),a0k P l a=true->n/2^l.length=a->
    (∀j,j<l.length->(l.getD j 0=48->n/2^(l.length-1-j)%2=0)/\(l.getD j 0=49->n/2^(l.length-1-j)%2=1))->P n=true
 | [],a,n,h,hn,_=>by
  simp at hn;subst hn;exact h
 | c::r,a,n,h,hn,hd=>by
  have e:n/2^r.length/2=a:=by rw[Nat.div_div_eq_div_mul];simpa[Nat.pow_succ] using hn
  have h0:=hd 0 (by simp)
  simp only[List.getD_cons_zero,List.length_cons,Nat.add_sub_cancel,Nat.sub_zero]at h0
  have hd':∀j,j<r.length->(r.getD j 0=48->n/2^(r.length-1-j)%2=0)/\(r.getD j 0=49->n/2^(r.length-1-j)%2=1):=fun j hj=>by
   (have:=hd (j+1) (by simp;omega));simp only[List.getD_cons_succ,List.length_cons,Nat.add_sub_cancel]at this;(have e2:r.length-(j+1)=r.length-1-j:=by omega);rw[e2]at this;exact this
  have hb:n/2^r.length=2*a\/n/2^r.length=2*a+1:=by omega
  unfold a0k at h;by_cases h48:c=48
  ·rw[if_pos h48]at h
   exact a27 P r _ n h (by have:=h0.1 h48;omega) hd'
  ·rw[if_neg h48]at h
   by_cases h49:c=49
   ·rw[if_pos h49]at h
    exact a27 P r _ n h (by have:=h0.2 h49;omega) hd'
   ·rw[if_neg h49,Bool.and_eq_true]at h
    rcases hb with hb|hb
    ·exact a27 P r _ n h.1 hb hd'
    ·exact a27 P r _ n h.2 hb hd'
def a3V (k:Nat) (n:Nat):Bool:=decide (a2J (fm k) (a01 (fm k) n)=n)&&(right (a01 (fm k) n)||!(a11 (fm k).hold (a01 (fm k) n)))
def due {α:Type} (x:Int) (f:Int->α):α:=match x with
 | .ofNat 0=>f 0
 | .ofNat (m+1)=>f (.ofNat (m+1))
 | .negSucc 0=>f (-1)
 | .negSucc (m+1)=>f (.negSucc (m+1))
theorem b1P {α:Type} (x:Int) (f:Int->α):due x f=f x:=by
 unfold due
 split<;>rfl
def pwF (k:Nat):Int:=((2^k:Nat):Int)
theorem a6Y (k:Nat):(2:Int)^k=pwF k:=by unfold pwF;rw[Int.natCast_pow];rfl
def btF (n p:Int):Int:=n/pwF p.toNat%2
theorem a5N (n p:Int):bt n p=btF n p:=by
 unfold bt btF a0c bits;rw[<-a6Y];simp
def orF (a b:Int):Int:=match a,b with
 | .ofNat x,.ofNat y=>if Nat.ble x 65535&&Nat.ble y 65535 then .ofNat (x ||| y) else orz a b
 | _,_=>orz a b
theorem b1w (a b:Int):orz a b=orF a b:=by
 unfold orF
 split
 ·rename_i x y
  split
  ·rename_i h
   simp at h;exact a4c x y (by omega) (by omega)
  ·rfl
 ·rfl
def rgF (p:List Int) (n:Int):Nat->Int
 | 0=>0
 | j+1=>orF (rgF p n j*2) (btF n (p.getD j 0))
theorem c54 (p:List Int) (n:Int) (j:Nat):rgR p n j=rgF p n j:=by
 induction j with
 | zero=>rfl
 | succ j ih=>simp only[rgR,rgF,ih,a5N,b1w]
def wrF (p:List Int) (r:Int) (L:Int):Nat->Int
 | 0=>0
 | j+1=>orF (wrF p r L j) (btF r (L-1-j)*pwF (p.getD j 0).toNat)
theorem c7P (p:List Int) (r:Int) (j:Nat):wrR p r j=wrF p r p.length j:=by
 induction j with
 | zero=>rfl
 | succ j ih=>simp only[wrR,wrF,ih,a5N,a6Y,b1w]
def imF (sg:Bool) (q p:List Int) (n:Int):Nat->Int
 | 0=>0
 | j+1=>orF (imF sg q p n j) (if j=0/\sg=true then -(btF n (p.getD j 0)*pwF (q.getD j 0).toNat) else btF n (p.getD j 0)*pwF (q.getD j 0).toNat)
theorem c2I (f:Fm) (q p:List Int) (n:Int) (j:Nat) (hq:∀k,k<j->imB f.order k=q.getD k 0):imR f p n j=imF f.signed q p n j:=by
 induction j with
 | zero=>rfl
 | succ j ih=>simp only[imR,imF,b5d,ih (fun k hk=>hq k (by omega)),a5N,a6Y,b1w,hq j (by omega)]
def wiF (q p:List Int) (imm h0:Int):Nat->Int
 | 0=>h0
 | j+1=>orF (wiF q p imm h0 j) (btF imm (q.getD j 0)*pwF (p.getD j 0).toNat)
theorem c7x (f:Fm) (q p:List Int) (imm h0:Int) (j:Nat) (hq:∀k,k<j->imB f.order k=q.getD k 0):wiR f p imm h0 j=wiF q p imm h0 j:=by
 induction j with
 | zero=>rfl
 | succ j ih=>simp only[wiR,wiF,ih (fun k hk=>hq k (by omega)),a5N,a6Y,b1w,hq j (by omega)]
def c5A (c:Int) (p:List Int) (n:Int):Int:=if c<=31 then c else rgF p n p.length+(if p.length=3 then 8 else 0)
def b8W (t:Bool×Bool×Bool) (kd:Nat) (a b c d:Int):Bool:=a0e t.1 a&&a0e t.2.1 b&&a0e t.2.2 c&&a0p kd d
theorem b8r {o:Nat} {t:Bool×Bool×Bool} {kd:Nat} (ho:o<64) (ht:has kd=t) (hk:(row o).kind=kd) (a b c d:Int):right ⟨o+1,a,b,c,d⟩=b8W t kd a b c d:=by
 rw[a0d _ _ _ _ _ ho,hk,ht];rfl
def okF (f:Fm) (t:Bool×Bool×Bool) (kd:Nat) (p1 p2 p3 pd ps pt pi q:List Int) (one:Int) (n:Nat):Bool:=
 due (c5A f.rd p1 n) fun a=>due (c5A f.rs1 p2 n) fun b=>due (c5A f.rs2 p3 n) fun c=>due (imF f.signed q pi n pi.length) fun d=>
  decide (wiF q pi d (orF one (orF (orF (wrF pd a pd.length pd.length) (wrF ps b ps.length ps.length)) (wrF pt c pt.length pt.length))) pi.length=n)&&(b8W t kd a b c d||!(a11 f.hold ⟨f.op,a,b,c,d⟩))
theorem c7g (k:Nat) (f:Fm) (o:Nat) (t:Bool×Bool×Bool) (kd:Nat) (p1 p2 p3 pd ps pt pi q:List Int) (one:Int) (hf:fm k=f) (hop:f.op=(o:Int)+1) (hol:o<64) (hkd:(row o).kind=kd) (hth:has kd=t) (h1:places f.half f.rd=p1) (h2:places f.half f.rs1=p2) (h3:places f.half f.rs2=p3) (hd:places f.half 100=pd) (hs:places f.half 115=ps) (ht:places f.half 116=pt) (hi:places f.half 105=pi) (hq:∀k,k<pi.length->imB f.order k=q.getD k 0) (ho:b2C f.half f.half.length=one) (n:Nat):
    okF f t kd p1 p2 p3 pd ps pt pi q one n=a3V k n:=by
 unfold okF a3V;simp only[b1P];have er:∀a b c d,b8W t kd a b c d=right ⟨f.op,a,b,c,d⟩:=fun a b c d=>by rw[hop];exact (b8r hol hth hkd a b c d).symm
 simp only[er];clear er hop hkd hth;subst hf h1 h2 h3 hd hs ht hi ho;have e1:∀x,imF (fm k).signed q (places (fm k).half 105) x (places (fm k).half 105).length=b9X (fm k) x:=fun x=>(c2I _ _ _ _ _ hq).symm
 have e2:∀i:Ins,wiF q (places (fm k).half 105) i.imm (b12 (fm k) i) (places (fm k).half 105).length=a2J (fm k) i:=fun i=>(c7x _ _ _ _ _ _ hq).symm
 have e3:∀c x,c5A c (places (fm k).half c) x=b01 (fm k).half c x:=fun c x=>by unfold c5A b01;rw[c54]
 simp only[e3,e1,<-c7P,<-b1w];have e4:=e2 (a01 (fm k) n);unfold b12 at e4;unfold b9Z at e4;unfold a01 at *;simp only at e4;rw[e4]
theorem a1W (k:Nat) (f:Fm) (o:Nat) (t:Bool×Bool×Bool) (kd:Nat) (p1 p2 p3 pd ps pt pi q:List Int) (one:Int) (hf:fm k=f) (hop:f.op=(o:Int)+1) (hol:o<64) (hkd:(row o).kind=kd) (hth:has kd=t) (h1:places f.half f.rd=p1) (h2:places f.half f.rs1=p2) (h3:places f.half f.rs2=p3) (hd:places f.half 100=pd) (hs:places f.half 115=ps) (ht:places f.half 116=pt) (hi:places f.half 105=pi) (hq:∀k,k<pi.length->imB f.order k=q.getD k 0) (ho:b2C f.half f.half.length=one)
    (h:a0k (okF f t kd p1 p2 p3 pd ps pt pi q one) f.half 0=true):a0k (a3V k) (fm k).half 0=true:=by
 rw[<-funext (c7g k f o t kd p1 p2 p3 pd ps pt pi q one hf hop hol hkd hth h1 h2 h3 hd hs ht hi hq ho),hf];exact h
theorem c92:a0k (a3V 0) (fm 0).half 0=true:=a1W 0 ⟨[48,48,48,105,105,105,105,105,105,105,105,100,100,100,48,48],[53,52,57,56,55,54,50,51],false,29,100,2,0,3⟩ 28 (true,true,false) 73 [4,3,2] [] [] [4,3,2] [] [] [12,11,10,9,8,7,6,5] [5,4,9,8,7,6,2,3] 0 rfl rfl (by decide) rfl rfl rfl rfl rfl rfl rfl rfl rfl (by decide) (by decide +kernel) (by decide +kernel)
theorem c98:a0k (a3V 1) (fm 1).half 0=true:=a1W 1 ⟨[48,49,48,105,105,105,115,115,115,105,105,100,100,100,48,48],[53,52,51,50,54],false,44,100,115,0,0⟩ 43 (true,true,false) 76 [4,3,2] [9,8,7] [] [4,3,2] [9,8,7] [] [12,11,10,6,5] [5,4,3,2,6] 16384 rfl rfl (by decide) rfl rfl rfl rfl rfl rfl rfl rfl rfl (by decide) (by decide +kernel) (by decide +kernel)
theorem d0a:a0k (a3V 2) (fm 2).half 0=true:=a1W 2 ⟨[48,49,49,105,105,105,115,115,115,105,105,100,100,100,48,48],[53,52,51,55,54],false,45,100,115,0,0⟩ 44 (true,true,false) 76 [4,3,2] [9,8,7] [] [4,3,2] [9,8,7] [] [12,11,10,6,5] [5,4,3,7,6] 24576 rfl rfl (by decide) rfl rfl rfl rfl rfl rfl rfl rfl rfl (by decide) (by decide +kernel) (by decide +kernel)
theorem d0b:a0k (a3V 3) (fm 3).half 0=true:=a1W 3 ⟨[49,49,48,105,105,105,115,115,115,105,105,116,116,116,48,48],[53,52,51,50,54],false,52,0,115,116,0⟩ 51 (false,true,true) 83 [] [9,8,7] [4,3,2] [] [9,8,7] [4,3,2] [12,11,10,6,5] [5,4,3,2,6] 49152 rfl rfl (by decide) rfl rfl rfl rfl rfl rfl rfl rfl rfl (by decide) (by decide +kernel) (by decide +kernel)
theorem c9Y:a0k (a3V 4) (fm 4).half 0=true:=a1W 4 ⟨[49,49,49,105,105,105,115,115,115,105,105,116,116,116,48,48],[53,52,51,55,54],false,53,0,115,116,0⟩ 52 (false,true,true) 83 [] [9,8,7] [4,3,2] [] [9,8,7] [4,3,2] [12,11,10,6,5] [5,4,3,7,6] 57344 rfl rfl (by decide) rfl rfl rfl rfl rfl rfl rfl rfl rfl (by decide) (by decide +kernel) (by decide +kernel)
theorem d0h:a0k (a3V 5) (fm 5).half 0=true:=a1W 5 ⟨[48,48,48,105,100,100,100,100,100,105,105,105,105,105,48,49],[53,52,51,50,49,48],true,29,100,100,0,6⟩ 28 (true,true,false) 73 [11,10,9,8,7] [11,10,9,8,7] [] [11,10,9,8,7] [] [] [12,6,5,4,3,2] [5,4,3,2,1,0] 1 rfl rfl (by decide) rfl rfl rfl rfl rfl rfl rfl rfl rfl (by decide) (by decide +kernel) (by decide +kernel)
theorem c95:a0k (a3V 6) (fm 6).half 0=true:=a1W 6 ⟨[48,48,49,105,100,100,100,100,100,105,105,105,105,105,48,49],[53,52,51,50,49,48],true,38,100,100,0,1⟩ 37 (true,true,false) 73 [11,10,9,8,7] [11,10,9,8,7] [] [11,10,9,8,7] [] [] [12,6,5,4,3,2] [5,4,3,2,1,0] 8193 rfl rfl (by decide) rfl rfl rfl rfl rfl rfl rfl rfl rfl (by decide) (by decide +kernel) (by decide +kernel)
theorem c94:a0k (a3V 7) (fm 7).half 0=true:=a1W 7 ⟨[48,49,48,105,100,100,100,100,100,105,105,105,105,105,48,49],[53,52,51,50,49,48],true,29,100,0,0,1⟩ 28 (true,true,false) 73 [11,10,9,8,7] [] [] [11,10,9,8,7] [] [] [12,6,5,4,3,2] [5,4,3,2,1,0] 16385 rfl rfl (by decide) rfl rfl rfl rfl rfl rfl rfl rfl rfl (by decide) (by decide +kernel) (by decide +kernel)
theorem d0f:a0k (a3V 8) (fm 8).half 0=true:=a1W 8 ⟨[48,49,49,105,48,48,48,49,48,105,105,105,105,105,48,49],[57,52,54,56,55,53],true,29,2,2,0,3⟩ 28 (true,true,false) 73 [] [] [] [] [] [] [12,6,5,4,3,2] [9,4,6,8,7,5] 24833 rfl rfl (by decide) rfl rfl rfl rfl rfl rfl rfl rfl rfl (by decide) (by decide +kernel) (by decide +kernel)
theorem c91:a0k (a3V 9) (fm 9).half 0=true:=a1W 9 ⟨[48,49,49,105,100,100,100,100,100,105,105,105,105,105,48,49],[53,52,51,50,49,48],true,60,100,0,0,7⟩ 59 (true,false,false) 85 [11,10,9,8,7] [] [] [11,10,9,8,7] [] [] [12,6,5,4,3,2] [5,4,3,2,1,0] 24577 rfl rfl (by decide) rfl rfl rfl rfl rfl rfl rfl rfl rfl (by decide) (by decide +kernel) (by decide +kernel)
theorem c9s:a0k (a3V 10) (fm 10).half 0=true:=a1W 10 ⟨[49,48,48,105,48,48,100,100,100,105,105,105,105,105,48,49],[53,52,51,50,49,48],false,36,100,100,0,3⟩ 35 (true,true,false) 72 [9,8,7] [9,8,7] [] [9,8,7] [] [] [12,6,5,4,3,2] [5,4,3,2,1,0] 32769 rfl rfl (by decide) rfl rfl rfl rfl rfl rfl rfl rfl rfl (by decide) (by decide +kernel) (by decide +kernel)
theorem c8j:a0k (a3V 11) (fm 11).half 0=true:=a1W 11 ⟨[49,48,48,105,48,49,100,100,100,105,105,105,105,105,48,49],[53,52,51,50,49,48],false,37,100,100,0,3⟩ 36 (true,true,false) 72 [9,8,7] [9,8,7] [] [9,8,7] [] [] [12,6,5,4,3,2] [5,4,3,2,1,0] 33793 rfl rfl (by decide) rfl rfl rfl rfl rfl rfl rfl rfl rfl (by decide) (by decide +kernel) (by decide +kernel)
theorem c8R:a0k (a3V 12) (fm 12).half 0=true:=a1W 12 ⟨[49,48,48,105,49,48,100,100,100,105,105,105,105,105,48,49],[53,52,51,50,49,48],true,34,100,100,0,0⟩ 33 (true,true,false) 73 [9,8,7] [9,8,7] [] [9,8,7] [] [] [12,6,5,4,3,2] [5,4,3,2,1,0] 34817 rfl rfl (by decide) rfl rfl rfl rfl rfl rfl rfl rfl rfl (by decide) (by decide +kernel) (by decide +kernel)
theorem c8Q:a0k (a3V 13) (fm 13).half 0=true:=a1W 13 ⟨[49,48,48,48,49,49,100,100,100,48,48,116,116,116,48,49],[],false,2,100,100,116,0⟩ 1 (true,true,true) 82 [9,8,7] [9,8,7] [4,3,2] [9,8,7] [] [4,3,2] [] [] 35841 rfl rfl (by decide) rfl rfl rfl rfl rfl rfl rfl rfl rfl (by decide) (by decide +kernel) (by decide +kernel)
theorem c88:a0k (a3V 14) (fm 14).half 0=true:=a1W 14 ⟨[49,48,48,48,49,49,100,100,100,48,49,116,116,116,48,49],[],false,6,100,100,116,0⟩ 5 (true,true,true) 82 [9,8,7] [9,8,7] [4,3,2] [9,8,7] [] [4,3,2] [] [] 35873 rfl rfl (by decide) rfl rfl rfl rfl rfl rfl rfl rfl rfl (by decide) (by decide +kernel) (by decide +kernel)
theorem c9i:a0k (a3V 15) (fm 15).half 0=true:=a1W 15 ⟨[49,48,48,48,49,49,100,100,100,49,48,116,116,116,48,49],[],false,9,100,100,116,0⟩ 8 (true,true,true) 82 [9,8,7] [9,8,7] [4,3,2] [9,8,7] [] [4,3,2] [] [] 35905 rfl rfl (by decide) rfl rfl rfl rfl rfl rfl rfl rfl rfl (by decide) (by decide +kernel) (by decide +kernel)
theorem c8q:a0k (a3V 16) (fm 16).half 0=true:=a1W 16 ⟨[49,48,48,48,49,49,100,100,100,49,49,116,116,116,48,49],[],false,10,100,100,116,0⟩ 9 (true,true,true) 82 [9,8,7] [9,8,7] [4,3,2] [9,8,7] [] [4,3,2] [] [] 35937 rfl rfl (by decide) rfl rfl rfl rfl rfl rfl rfl rfl rfl (by decide) (by decide +kernel) (by decide +kernel)
theorem c8p:a0k (a3V 17) (fm 17).half 0=true:=a1W 17 ⟨[49,48,48,49,49,49,100,100,100,48,48,116,116,116,48,49],[],false,20,100,100,116,0⟩ 19 (true,true,true) 82 [9,8,7] [9,8,7] [4,3,2] [9,8,7] [] [4,3,2] [] [] 39937 rfl rfl (by decide) rfl rfl rfl rfl rfl rfl rfl rfl rfl (by decide) (by decide +kernel) (by decide +kernel)
theorem c9g:a0k (a3V 18) (fm 18).half 0=true:=a1W 18 ⟨[49,48,48,49,49,49,100,100,100,48,49,116,116,116,48,49],[],false,19,100,100,116,0⟩ 18 (true,true,true) 82 [9,8,7] [9,8,7] [4,3,2] [9,8,7] [] [4,3,2] [] [] 39969 rfl rfl (by decide) rfl rfl rfl rfl rfl rfl rfl rfl rfl (by decide) (by decide +kernel) (by decide +kernel)
theorem c9o:a0k (a3V 19) (fm 19).half 0=true:=a1W 19 ⟨[49,48,49,105,105,105,105,105,105,105,105,105,105,105,48,49],[98,52,57,56,97,54,55,51,50,49,53],true,62,0,0,0,0⟩ 61 (true,false,false) 74 [] [] [] [] [] [] [12,11,10,9,8,7,6,5,4,3,2] [11,4,9,8,10,6,7,3,2,1,5] 40961 rfl rfl (by decide) rfl rfl rfl rfl rfl rfl rfl rfl rfl (by decide) (by decide +kernel) (by decide +kernel)
theorem c8N:a0k (a3V 20) (fm 20).half 0=true:=a1W 20 ⟨[49,49,48,105,105,105,115,115,115,105,105,105,105,105,48,49],[56,52,51,55,54,50,49,53],true,54,0,115,0,0⟩ 53 (false,true,true) 66 [] [9,8,7] [] [] [9,8,7] [] [12,11,10,6,5,4,3,2] [8,4,3,7,6,2,1,5] 49153 rfl rfl (by decide) rfl rfl rfl rfl rfl rfl rfl rfl rfl (by decide) (by decide +kernel) (by decide +kernel)
theorem c84:a0k (a3V 21) (fm 21).half 0=true:=a1W 21 ⟨[49,49,49,105,105,105,115,115,115,105,105,105,105,105,48,49],[56,52,51,55,54,50,49,53],true,55,0,115,0,0⟩ 54 (false,true,true) 66 [] [9,8,7] [] [] [9,8,7] [] [12,11,10,6,5,4,3,2] [8,4,3,7,6,2,1,5] 57345 rfl rfl (by decide) rfl rfl rfl rfl rfl rfl rfl rfl rfl (by decide) (by decide +kernel) (by decide +kernel)
theorem c9k:a0k (a3V 22) (fm 22).half 0=true:=a1W 22 ⟨[48,48,48,105,100,100,100,100,100,105,105,105,105,105,49,48],[53,52,51,50,49,48],false,35,100,100,0,5⟩ 34 (true,true,false) 72 [11,10,9,8,7] [11,10,9,8,7] [] [11,10,9,8,7] [] [] [12,6,5,4,3,2] [5,4,3,2,1,0] 2 rfl rfl (by decide) rfl rfl rfl rfl rfl rfl rfl rfl rfl (by decide) (by decide +kernel) (by decide +kernel)
theorem c8r:a0k (a3V 23) (fm 23).half 0=true:=a1W 23 ⟨[48,49,48,105,100,100,100,100,100,105,105,105,105,105,49,48],[53,52,51,50,55,54],false,44,100,2,0,1⟩ 43 (true,true,false) 76 [11,10,9,8,7] [] [] [11,10,9,8,7] [] [] [12,6,5,4,3,2] [5,4,3,2,7,6] 16386 rfl rfl (by decide) rfl rfl rfl rfl rfl rfl rfl rfl rfl (by decide) (by decide +kernel) (by decide +kernel)
theorem c9H:a0k (a3V 24) (fm 24).half 0=true:=a1W 24 ⟨[48,49,49,105,100,100,100,100,100,105,105,105,105,105,49,48],[53,52,51,56,55,54],false,45,100,2,0,1⟩ 44 (true,true,false) 76 [11,10,9,8,7] [] [] [11,10,9,8,7] [] [] [12,6,5,4,3,2] [5,4,3,8,7,6] 24578 rfl rfl (by decide) rfl rfl rfl rfl rfl rfl rfl rfl rfl (by decide) (by decide +kernel) (by decide +kernel)
theorem c9m:a0k (a3V 25) (fm 25).half 0=true:=a1W 25 ⟨[49,48,48,48,115,115,115,115,115,48,48,48,48,48,49,48],[],false,49,0,115,0,2⟩ 48 (true,true,false) 76 [] [11,10,9,8,7] [] [] [11,10,9,8,7] [] [] [] 32770 rfl rfl (by decide) rfl rfl rfl rfl rfl rfl rfl rfl rfl (by decide) (by decide +kernel) (by decide +kernel)
theorem c9n:a0k (a3V 26) (fm 26).half 0=true:=a1W 26 ⟨[49,48,48,48,100,100,100,100,100,116,116,116,116,116,49,48],[],false,1,100,0,116,4⟩ 0 (true,true,true) 82 [11,10,9,8,7] [] [6,5,4,3,2] [11,10,9,8,7] [] [6,5,4,3,2] [] [] 32770 rfl rfl (by decide) rfl rfl rfl rfl rfl rfl rfl rfl rfl (by decide) (by decide +kernel) (by decide +kernel)
theorem c8C:a0k (a3V 27) (fm 27).half 0=true:=a1W 27 ⟨[49,48,48,49,48,48,48,48,48,48,48,48,48,48,49,48],[],false,64,0,0,0,0⟩ 63 (false,false,false) 78 [] [] [] [] [] [] [] [] 36866 rfl rfl (by decide) rfl rfl rfl rfl rfl rfl rfl rfl rfl (by decide) (by decide +kernel) (by decide +kernel)
theorem c8v:a0k (a3V 28) (fm 28).half 0=true:=a1W 28 ⟨[49,48,48,49,115,115,115,115,115,48,48,48,48,48,49,48],[],false,49,1,115,0,2⟩ 48 (true,true,false) 76 [] [11,10,9,8,7] [] [] [11,10,9,8,7] [] [] [] 36866 rfl rfl (by decide) rfl rfl rfl rfl rfl rfl rfl rfl rfl (by decide) (by decide +kernel) (by decide +kernel)
theorem c8l:a0k (a3V 29) (fm 29).half 0=true:=a1W 29 ⟨[49,48,48,49,100,100,100,100,100,116,116,116,116,116,49,48],[],false,1,100,100,116,4⟩ 0 (true,true,true) 82 [11,10,9,8,7] [11,10,9,8,7] [6,5,4,3,2] [11,10,9,8,7] [] [6,5,4,3,2] [] [] 36866 rfl rfl (by decide) rfl rfl rfl rfl rfl rfl rfl rfl rfl (by decide) (by decide +kernel) (by decide +kernel)
theorem c9K:a0k (a3V 30) (fm 30).half 0=true:=a1W 30 ⟨[49,49,48,105,105,105,105,105,105,116,116,116,116,116,49,48],[53,52,51,50,55,54],false,52,0,2,116,0⟩ 51 (false,true,true) 83 [] [] [6,5,4,3,2] [] [] [6,5,4,3,2] [12,11,10,9,8,7] [5,4,3,2,7,6] 49154 rfl rfl (by decide) rfl rfl rfl rfl rfl rfl rfl rfl rfl (by decide) (by decide +kernel) (by decide +kernel)
theorem c9p:a0k (a3V 31) (fm 31).half 0=true:=a1W 31 ⟨[49,49,49,105,105,105,105,105,105,116,116,116,116,116,49,48],[53,52,51,56,55,54],false,53,0,2,116,0⟩ 52 (false,true,true) 83 [] [] [6,5,4,3,2] [] [] [6,5,4,3,2] [12,11,10,9,8,7] [5,4,3,8,7,6] 57346 rfl rfl (by decide) rfl rfl rfl rfl rfl rfl rfl rfl rfl (by decide) (by decide +kernel) (by decide +kernel)
theorem c7n:∀k,k<32->a0k (a3V k) (fm k).half 0=true
 | 0,_=>c92
 | 1,_=>c98
 | 2,_=>d0a
 | 3,_=>d0b
 | 4,_=>c9Y
 | 5,_=>d0h
 | 6,_=>c95
 | 7,_=>c94
 | 8,_=>d0f
 | 9,_=>c91
 | 10,_=>c9s
 | 11,_=>c8j
 | 12,_=>c8R
 | 13,_=>c8Q
 | 14,_=>c88
 | 15,_=>c9i
 | 16,_=>c8q
 | 17,_=>c8p
 | 18,_=>c9g
 | 19,_=>c9o
 | 20,_=>c8N
 | 21,_=>c84
 | 22,_=>c9k
 | 23,_=>c8r
 | 24,_=>c9H
 | 25,_=>c9m
 | 26,_=>c9n
 | 27,_=>c8C
 | 28,_=>c8v
 | 29,_=>c8l
 | 30,_=>c9K
 | 31,_=>c9p
 | k+32,h=>absurd h (by omega)
theorem a6S:∀k,k<32->(fm k).half.length=16:=by decide
theorem b8Y (n j:Nat) (hj:j<16):a0c (n:Int) (15-(j:Int)) (15-(j:Int))=((n/2^(15-j)%2:Nat):Int):=by
 have e:(15-(j:Int)).toNat=15-j:=by omega
 have h:=a5N (n:Int) (15-(j:Int));unfold bt at h;rw[h];unfold btF pwF;rw[e];omega
theorem a3J {l:List UInt8} {n:Nat} (hl:l.length=16) (h:a8h l n=true) (j:Nat) (hj:j<16):
    (l.getD j 0=48->n/2^(15-j)%2=0)/\(l.getD j 0=49->n/2^(15-j)%2=1):=by
 unfold a8h at h;rw[List.all_eq_true]at h;have hj2:=h j (by simp[hl];exact hj)
 unfold b9Y at hj2
 constructor
 ·intro e
  rw[e]at hj2;simp at hj2;rw[b8Y n j hj]at hj2;omega
 ·intro e
  rw[e]at hj2;simp at hj2;rw[b8Y n j hj]at hj2;omega
theorem c2R {k n:Nat} (hk:k<32) (hn:n<65536) (h:a8h (fm k).half n=true):a3V k n=true:=by
 have hl:=a6S k hk;refine a27 (a3V k) (fm k).half 0 n (c7n k hk) (by rw[hl];omega) (fun j hj=>?_)
 rw[hl]at hj ⊢;exact a3J hl h j hj
def c1f (l m:List UInt8):Bool:=(List.range 16).any fun j=>(l.getD j 0==48&&m.getD j 0==49)||(l.getD j 0==49&&m.getD j 0==48)
theorem c3R {l m:List UInt8} {n:Nat} (hl:l.length=16) (hm:m.length=16) (h:c1f l m=true) (h1:a8h l n=true) (h2:a8h m n=true):False:=by
 unfold c1f at h;rw[List.any_eq_true]at h;obtain ⟨j,hj,h⟩:=h;have hj:j<16:=by simpa using hj
 have d1:=a3J hl h1 j hj;have d2:=a3J hm h2 j hj;simp at h;rcases h with ⟨a,b⟩|⟨a,b⟩
 ·have:=d1.1 a;have:=d2.2 b;omega
 ·have:=d1.2 a;have:=d2.1 b;omega
def spec (j k:Nat):Bool:=(j==8&&k==9)||(j==25&&k==26)||(j==27&&k==28)||(j==27&&k==29)||(j==28&&k==29)
theorem c4b:((List.range 32).all fun j=>(List.range 32).all fun k=>!(decide (j<k))||c1f (fm j).half (fm k).half||spec j k)=true:=by decide +kernel
theorem c5Q {j k:Nat} (hk:k<32) (hjk:j<k):c1f (fm j).half (fm k).half=true\/spec j k=true:=by
 have h:=c4b;rw[List.all_eq_true]at h;have h1:=h j (by simp;omega)
 rw[List.all_eq_true]at h1;have h2:=h1 k (by simp;omega)
 simp[hjk]at h2;exact h2
def a63 (k n:Nat):Bool:=!(a11 (fm k).hold (a01 (fm k) n))
theorem c7j:a0k (a63 9) (fm 8).half 0=true:=by decide +kernel
theorem c03:a0k (a63 26) (fm 25).half 0=true:=by decide +kernel
theorem c1o:a0k (a63 28) (fm 27).half 0=true:=by decide +kernel
theorem c0O:a0k (a63 29) (fm 27).half 0=true:=by decide +kernel
theorem c0I:a0k (a63 29) (fm 28).half 0=true:=by decide +kernel
theorem b7A {j k n:Nat} (hj:j<32) (hn:n<65536) (h:a0k (a63 k) (fm j).half 0=true) (hf:a8h (fm j).half n=true):a11 (fm k).hold (a01 (fm k) n)=false:=by
 have hl:=a6S j hj
 have:=a27 (a63 k) (fm j).half 0 n h (by rw[hl];omega) (fun x hx=>by
  rw[hl]at hx ⊢;exact a3J hl hf x hx)
 simpa[a63] using this
theorem a4X {n:Int} {k:Nat} (h:a9g n k=true):a8h (fm k).half n=true/\a11 (fm k).hold (a01 (fm k) n)=true/\a2n (fm k) n=(a01 (fm k) n,true):=by
 unfold a9g a2n at h;by_cases hf:a8h (fm k).half n=true
 ·rw[if_pos hf]at h
  exact ⟨hf,h,by unfold a2n;rw[if_pos hf,show a11 (fm k).hold (a01 (fm k) n)=true from h]⟩
 ·rw[if_neg hf]at h;cases h
theorem c2v {n j k:Nat} (hk:k<32) (hn:n<65536) (hjk:j<k) (hj:a9g n j=true) (hk':a9g n k=true):False:=by
 obtain ⟨f1,_,_⟩:=a4X hj;obtain ⟨f2,h2,_⟩:=a4X hk';rcases c5Q hk hjk with h|h
 ·exact c3R (a6S j (by omega)) (a6S k hk) h f1 f2
 ·have key:a11 (fm k).hold (a01 (fm k) n)=false:=by
   simp[spec]at h;rcases h with (((⟨rfl,rfl⟩|⟨rfl,rfl⟩)|⟨rfl,rfl⟩)|⟨rfl,rfl⟩)|⟨rfl,rfl⟩
   ·exact b7A (by decide) hn c7j f1
   ·exact b7A (by decide) hn c03 f1
   ·exact b7A (by decide) hn c1o f1
   ·exact b7A (by decide) hn c0O f1
   ·exact b7A (by decide) hn c0I f1
  rw[key]at h2;cases h2
theorem c4I {n j k:Nat} (hj:j<32) (hk:k<32) (hn:n<65536) (h1:a9g n j=true) (h2:a9g n k=true):j=k:=by
 rcases Nat.lt_trichotomy j k with h|h|h
 ·exact (c2v hk hn h h1 h2).elim
 ·exact h
 ·exact (c2v hj hn h h2 h1).elim
theorem b5F {n k:Nat} (hk:k<32) (hn:n<65536) (h:a9g n k=true):a4q n=(a01 (fm k) n,0):=by
 have e:=(a4X h).2.2;rw[b7N (by omega) hk (fun j hj=>?_) h,e]
 by_cases hc:a9g n j=true
 ·have:=c4I (by omega) hk hn hc h;omega
 ·simpa using hc
theorem b5J:∀k,k<32->((fm k).half.getD 14 0=48\/((fm k).half.getD 14 0=49/\(fm k).half.getD 15 0=48)):=by decide
theorem b6B {k n:Nat} (hk:k<32) (hf:a8h (fm k).half n=true):n%4≠3:=by
 have d14:=a3J (a6S k hk) hf 14 (by decide)
 have d15:=a3J (a6S k hk) hf 15 (by decide)
 rcases b5J k hk with h|⟨_,h⟩
 ·have:=d14.1 h;simp at this;omega
 ·have:=d15.1 h;simp at this;omega
theorem b0m {k:Nat} (hk:k<32) (i:Ins):0<=a2J (fm k) i/\a2J (fm k) i<65536:=by
 have hf:=b2X k hk;have hb:=b5n (fm k) hf i;exact c6N (fm k) _ _ _ hb.1 hb.2 (b6k (fm k).half 105 (fm k).half.length hf.len) _ (Nat.le_refl _)
theorem b64 {a b:Ins} (h:b92 a b=true):a=b:=by
 obtain ⟨a1,a2,a3,a4,a5⟩:=a;obtain ⟨b1,b2,b3,b4,b5⟩:=b;simp[b92]at h;obtain ⟨rfl,rfl,rfl,rfl,rfl⟩:=h;rfl
theorem b2n (a:Ins):b92 a a=true:=by simp[b92]
theorem b1M {i:Ins} {h:Int} (hs:a0q i=(h,0)):a4q h=(i,0)/\0<=h/\h<=65535/\h%4≠3/\right i=true:=by
 unfold a0q at hs;by_cases hr:right i=true
 ·rw[if_pos hr]at hs
  split at hs
  ·rename_i k hk
   have hp:=List.find?_some hk;(have hk32:k<32:=by have:=List.mem_of_find?_eq_some hk;simpa using this);simp only[Prod.mk.injEq,and_true]at hs;subst hs;have hb:=b0m hk32 i;obtain ⟨n,hn⟩:=Int.eq_ofNat_of_zero_le hb.1;rw[hn]at hb ⊢;unfold b2D at hp;rw[hn]at hp;simp only[Bool.and_eq_true]at hp;have he:a9g n k=true:=hp.2.1;have hi:=b64 hp.2.2;(have hx:=b5F hk32 (by omega) he);have hf:=a4X he;rw[hf.2.2]at hi;simp only at hi;rw[hx,hi];have:=b6B hk32 hf.1;exact ⟨rfl,by omega,by omega,by omega,hr⟩
  ·simp at hs
 ·rw[if_neg hr]at hs;simp at hs
theorem b7L {n:Int} {y:Ins} (h:a4q n=(y,0)):∃v,a0q y=(v,0):=by
 unfold a4q at h;by_cases hn:n<0\/65535<n
 ·rw[if_pos hn]at h;simp at h
 ·rw[if_neg hn]at h
  obtain ⟨m,hm⟩:=Int.eq_ofNat_of_zero_le (show 0<=n by omega)
  subst hm
  split at h
  ·rename_i k hk
   have hp:a9g m k=true:=List.find?_some hk;(have hk32:k<32:=by have:=List.mem_of_find?_eq_some hk;simpa using this);obtain ⟨hf,hh,hr⟩:=a4X hp;rw[hr]at h;simp only[Prod.mk.injEq,and_true]at h;(have ok:=c2R hk32 (by omega) hf);unfold a3V at ok;rw[hh,h]at ok;simp at ok;obtain ⟨hw,hright⟩:=ok
   have hs:b2D y k=true:=by
    unfold b2D;rw[hw,hr,h];simp only[b2n,Bool.and_true];rw[<-h];simp[a01]
   unfold a0q;rw[if_pos hright]
   cases hfi:(List.range 32).find? (b2D y) with
   | some j=>exact ⟨_,rfl⟩
   | none=>
    (have:=List.find?_eq_none.1 hfi k (by simp;omega));exact absurd hs this
  ·simp at h
