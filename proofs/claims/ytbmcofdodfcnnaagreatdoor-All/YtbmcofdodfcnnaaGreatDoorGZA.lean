import Derived.Deep.CutBlock
import Derived.Test.YtbmcofdodfcnnaaGreatDoorGFA
set_option linter.all false
set_option maxHeartbeats 0
set_option maxRecDepth 100000
namespace Go
open Proofs.Tryz RowKit
variable {w : World} {base e n : Nat} {xs : List Value}
def zb (n:Int) (i:Nat):Int:=n/2^i%2
def mu (n:Int) (k:Nat):List Int:=(List.range k).map (zb n)
def Oa (n) (k):mu n (k+1)=mu n k++[zb n k]:=by simp[mu,List.range_succ]
def B5 (n) (i):0<=zb n i/\zb n i<=1:=by unfold zb;omega
def vL:List Int->Int
 | []=>0
 | x::r=>x+2*vL r
def SB (l:List Int) (k:Nat) (h:k<l.length):vL (l.drop k)=2*vL (l.drop (k+1))+l.getD k 0:=by
 rw[List.drop_eq_getElem_cons h];simp only[vL,zG,zg h,Option.getD_some];omega
def pA (x) (k) (y:k<=62):bits .and .i64 x (2^k-1)=x%2^k:=by
 have D:(2:Int)^k<=2^62:=gU y;have h:=pow_pos k;have v:(2:Int)^62=4611686018427387904:=by decide
 refine (E6 x _).trans ?_;have j:((2:Int)^k-1)%18446744073709551616=2^k-1:=by omega
 rw[j]
 have q:((2:Int)^k-1).toNat=2^k-1:=by
  have:(2:Int)^k=((2^k:Nat):Int):=by simp
  rw[this];omega
 rw[q,Nat.and_two_pow_sub_one_eq_mod]
 have u:(((x%18446744073709551616).toNat%2^k:Nat):Int)=x%2^k:=by
  rw[Int.natCast_emod,Int.toNat_of_nonneg (by omega)]
  have:((2^k:Nat):Int)=2^k:=by simp
  rw[this];have w:(2:Int)^k ∣ 18446744073709551616:=⟨2^(64-k),by rw[<-Int.pow_add,show k+(64-k)=64 from by omega];decide⟩
  exact Int.emod_emod_of_dvd x w
 rw[u];have A:=Int.emod_nonneg x (Int.ne_of_gt h);have C:=Int.emod_lt_of_pos x h;rw[zo];omega
def WX (x):bits .and .i64 x 1=x%2:=pA x 1 (by omega)
def Bb (x:Int) (k:Nat):x/2^(k+1)=x/2^k/2:=by rw[Int.pow_succ,Int.ediv_ediv_of_nonneg (Int.le_of_lt (Int.pow_pos (by decide)))]
def Fw (x y):wrap64 (wrap64 (wrap64 x*2)+y)=IntKind.i64.wrap (2*x+y):=by
 rw[zo];unfold wrap64;omega
def iC (l:List Int):List Value:=l.map (.int .i64)
def vx (l) (x):iC (l++[x])=iC l++[.int .i64 x]:=by simp[iC]
def yV (n) (w):
    Calls prog 276 #[.int .i64 n] w λ e w'=>∃v,e=.returned v/\w'.ownsRow w.heap.size 3 1 v 64 (iC (mu n 64))/\Below w.heap.size w w':=by
 obtain ⟨K,hi,F,G,H⟩:=info_parts Tryz.infoInt;go_in;go_wp2;go_loopw [0,3,4] (λ m v i wr=>∃k:Nat,k<=64/\i=.int .i64 k/\m=.int .i64 (n/2^k)/\wr.ownsRow w.heap.size 3 1 v k (iC (mu n k))/\Below w.heap.size w wr) (λ _ _ i _=>64-(intOf i).toNat)
 case atStart=>exact ⟨0,Nat.zero_le _,rfl,by simp,World.ownsRow_nil _ _ _ _,aU⟩
 case round=>
  obtain ⟨k,M,rfl,rfl,h,A⟩:=hrel;by_cases J:k<64
  .go_wp2_with (first
    | (at_builtin;refine wpList_append_own _ rfl _ _ 49 rfl w.heap.size 3 K (.int .i64 0) 1 8 underlying49 hi F G H rfl (by decide) _ _ _ rfl (h.alloc _) ⟨wr.heap.size,0,none⟩ 1 1 [.int .i64 (zb n k)] rfl rfl ?c1 ?c2 ?c3 ?c4 ?c5 ?_)
    | go_in)
   case c1=>
    intro j u C
    match j,C with
    | 0,C=>simp at C;subst C;simp[Addr.add];exact WX _
   (case c2=>intro u I;simp at I;subst I;rfl);(case c3=>unfold maxLen;omega);(case c4=>omega);(case c5=>have:=A.size;simp;omega);intro N L y q _;(have D:Below w.heap.size w L:=(A.alloc A.size _).grown q (by have:=A.size;simp;omega) (λ j C=>(h.lt j C).1));clear q h A;go_wp2;go_roundw;(case rel=>exact ⟨k+1,by omega,by go_num,by rw[Bb],by rw[Oa,vx];exact y,D⟩);case measure=>simp[intOf];omega
  have E:k=64:=by omega
  subst E;go_wp2;go_ret;exact ⟨_,rfl,h,A⟩
def DO (ad) (cap) (l) (w) (y:l.length=64) (h:∀j,j<64->w.cell? (ad.add j)=some (.int .i64 (l.getD j 0))):
    zS prog 277 #[.slice (some ad) 64 cap] w (.int .i64 (IntKind.i64.wrap (vL l))):=by
 unfold zS;have q:=aA h;clear h;go_in;go_wp2;go_loop [3,4] (λ n i=>∃k:Nat,k<=64/\i=.int .i64 ((k:Int)-1)/\n=.int .i64 (IntKind.i64.wrap (vL (l.drop k)))) (λ _ i=>(intOf i+1).toNat)
 case atStart=>exact ⟨64,zn,rfl,by rw[List.drop_eq_nil_of_le (by omega)];rfl⟩
 case round=>
  obtain ⟨k,v,rfl,rfl⟩:=hrel
  cases k with
  | zero=>
   go_wp2;go_ret;exact ⟨rfl,rfl⟩
  | succ k=>
   (have h:=q.out k (by omega));(have u:=aA (SB l k (by omega)));(have e:((k+1:Nat):Int)-1=k:=by omega);rw[e];generalize vL (l.drop (k+1))=x at *;go_wp2;go_round;(case rel=>exact ⟨k,by omega,rfl,by rw[u.out,Fw,zG]⟩);case measure=>simp[intOf]
def sm (f:Nat->Int):Nat->Int
 | 0=>0
 | n+1=>sm f n+f n
def Ac (f:Nat->Int):∀n,sm f (n+1)=f 0+sm (λ i=>f (i+1)) n
 | 0=>by simp[sm]
 | n+1=>by rw[sm,Ac f n,sm];omega
def qF {f g:Nat->Int}:∀n,(∀i,i<n->f i=g i)->sm f n=sm g n
 | 0,_=>rfl
 | n+1,h=>by rw[sm,sm,qF n (λ i hi=>h i (by omega)),h n (by omega)]
def AM (c:Int) (f:Nat->Int):∀n,sm (λ i=>c*f i) n=c*sm f n
 | 0=>by simp[sm]
 | n+1=>by rw[sm,sm,AM c f n,Int.mul_add]
def GV (f g:Nat->Int):∀n,sm (λ i=>f i+g i) n=sm f n+sm g n
 | 0=>by simp[sm]
 | n+1=>by rw[sm,sm,sm,GV f g n];omega
def B8 {f:Nat->Int}:∀n,(∀i,i<n->0<=f i/\f i<=1)->0<=sm f n/\sm f n<=n
 | 0,_=>by simp[sm]
 | n+1,h=>by
  have:=B8 n (λ i hi=>h i (by omega))
  have:=h n (by omega)
  rw[sm];omega
def pv (x:Nat->Int) (n:Nat):Int:=sm (λ i=>x i*2^i) n
def oB (x:Nat->Int) (n):pv x (n+1)=pv x n+x n*2^n:=rfl
def vz (x:Nat->Int) (n):pv x (n+1)=x 0+2*pv (λ i=>x (i+1)) n:=by
 unfold pv;rw[Ac,<-AM];congr 1
 .simp
 exact qF n (λ i _=>by rw[Int.pow_succ,<-Int.mul_assoc,Int.mul_comm])
def sD {f g:Nat->Int} (n) (h:∀i,i<n->f i=g i):pv f n=pv g n:=qF n (λ i hi=>by rw[h i hi])
def TV (x y:Nat->Int) (n):pv (λ i=>x i+y i) n=pv x n+pv y n:=by
 unfold pv;rw[<-GV];exact qF n (λ i _=>by rw[Int.add_mul])
def AH (c) (x:Nat->Int) (n):pv (λ i=>c*x i) n=c*pv x n:=by
 unfold pv;rw[<-AM];exact qF n (λ i _=>by rw[Int.mul_assoc])
def yC (x:Nat->Int) (n:Nat):∀m,pv x (n+m)=pv x n+2^n*pv (λ i=>x (i+n)) m
 | 0=>by simp[pv,sm]
 | m+1=>by
  rw[show n+(m+1)=n+m+1 from by omega,oB,yC x n m,oB,Int.mul_add,Nat.add_comm m n,Int.pow_add,<-Int.mul_assoc,<-Int.mul_assoc,Int.mul_comm (2^n) (x (n+m)),Int.add_assoc]
def Ii {x:Nat->Int}:∀n,(∀i,i<n->0<=x i/\x i<=1)->0<=pv x n/\pv x n<2^n
 | 0,_=>by simp[pv,sm]
 | n+1,h=>by
  have:=Ii n (λ i hi=>h i (by omega))
  have j:=h n (by omega)
  have q:=pow_pos n;rw[oB,pr];have:x n=0\/x n=1:=by omega
  rcases this with e|e<;>rw[e]<;>omega
def B9 (a:Int):∀n,pv (zb a) n=a%2^n
 | 0=>by simp[pv,sm]
 | n+1=>by
  rw[oB,B9 a n,pr];unfold zb;have C:=pow_pos n;have v:=Int.mul_ediv_add_emod a (2^n);have w:=Int.mul_ediv_add_emod (a/2^n) 2;have h:a/(2*2^n)=a/2^n/2:=by rw[Int.mul_comm,Int.ediv_ediv_of_nonneg (by omega)]
  have j:=Int.mul_ediv_add_emod a (2*2^n);rw[h]at j;generalize a/2^n/2=q at *;have u:a/2^n%2*2^n=(a/2^n-2*q)*2^n:=by rw[show a/2^n%2=a/2^n-2*q from by omega]
  rw[u,Int.sub_mul];have y:a/2^n*2^n=2^n*(a/2^n):=Int.mul_comm _ _;have A:2*q*2^n=2*2^n*q:=by rw[Int.mul_assoc,Int.mul_comm q,<-Int.mul_assoc]
  omega
def AZ:∀(n:Nat) (f:Nat->Int),vL ((List.range n).map f)=pv f n
 | 0,_=>rfl
 | n+1,f=>by
  rw[List.range_succ_eq_map,List.map_cons,List.map_map,vL,AZ n,vz];rfl
def cv (x y:Nat->Int) (k:Nat):Int:=sm (λ i=>x i*y (k-i)) (k+1)
def RU (x y:Nat->Int):cv x y 0=x 0*y 0:=by simp[cv,sm]
def Tb (x y:Nat->Int) (k):cv x y (k+1)=x 0*y (k+1)+cv (λ i=>x (i+1)) y k:=by
 unfold cv;rw[Ac];congr 1;exact qF _ (λ i _=>by rw[Nat.add_sub_add_right])
def Hw (y:Nat->Int):∀(n:Nat) (x:Nat->Int),∃q,pv (cv x y) n=pv x n*pv y n+2^n*q
 | 0,_=>⟨0,by simp[pv,sm]⟩
 | n+1,x=>by
  obtain ⟨q,v⟩:=Hw y n (λ i=>x (i+1))
  refine ⟨q-pv (λ i=>x (i+1)) n*y n,?_⟩
  have e:pv (λ i=>cv x y (i+1)) n=x 0*pv (λ i=>y (i+1)) n+pv (cv (λ i=>x (i+1)) y) n:=by
   rw[<-AH,<-TV];exact sD n (λ i _=>Tb x y i)
  rw[vz,e,v,RU,vz x,pr];have j:=vz y n;have w:=oB y n;generalize pv (λ i=>x (i+1)) n=X at *
  generalize pv (λ i=>y (i+1)) n=h at *
  generalize pv y (n+1)=Y at *;have u:pv y n=Y-y n*2^n:=by omega
  rw[u];generalize (2:Int)^n=p at *;subst j;simp only[Int.mul_add,Int.add_mul,Int.mul_sub,Int.sub_mul];have A:x 0*(2*h)=2*(x 0*h):=by rw[<-Int.mul_assoc,Int.mul_comm (x 0),Int.mul_assoc]
  have C:2*X*y 0=2*(X*y 0):=Int.mul_assoc _ _ _;have D:2*X*(2*h)=2*(X*(2*h)):=Int.mul_assoc _ _ _;have E:2*p*q=2*(p*q):=Int.mul_assoc _ _ _;have F:2*p*(X*y n)=2*(X*(y n*p)):=by rw[Int.mul_assoc,<-Int.mul_assoc X,Int.mul_comm p]
  omega
def cr (c:Nat->Int):Nat->Int
 | 0=>0
 | k+1=>(cr c k+c k)/2
def ou (c:Nat->Int) (k:Nat):Int:=(cr c k+c k)%2
def Ik (c:Nat->Int) (k):0<=ou c k/\ou c k<=1:=by unfold ou;omega
def Hs (c:Nat->Int):∀k,pv (ou c) k+cr c k*2^k=pv c k
 | 0=>by simp[pv,sm,cr]
 | k+1=>by
  have ih:=Hs c k;rw[oB,oB,pr,cr];have h:=Int.mul_ediv_add_emod (cr c k+c k) 2;rw[show ou c k=(cr c k+c k)%2 from rfl]
  generalize (cr c k+c k)/2=q at *;generalize (cr c k+c k)%2=r at *;have e:c k*2^k=(2*q+r-cr c k)*2^k:=by rw[show c k=2*q+r-cr c k from by omega]
  rw[e,Int.sub_mul,Int.add_mul];have j:q*(2*2^k)=2*q*2^k:=by rw[<-Int.mul_assoc,Int.mul_comm q 2]
  omega
def Im {c:Nat->Int} (h:∀k,k<128->0<=c k/\c k<=128):∀k,k<=128->0<=cr c k/\cr c k<=128
 | 0,_=>by simp[cr]
 | k+1,hk=>by
  have:=Im h k (by omega)
  have:=h k (by omega)
  rw[cr];omega
def xt (a:Int) (s:Bool) (i:Nat):Int:=if i<64 then zb a i else if s=true then zb a 63 else 0
def Ij (a) (s) (i):0<=xt a s i/\xt a s i<=1:=by
 unfold xt;have:=B5 a i;have:=B5 a 63
 split
 .omega
 split<;>omega
def sg (a:Int) (s:Bool):Int:=if s=true then a else a%18446744073709551616
def Hr:∀n,pv (λ _=>1) n=2^n-1
 | 0=>by simp[pv,sm]
 | n+1=>by rw[oB,Hr n,pr];omega
def GI (a) (s) (v:-9223372036854775808<=a) (w:a<9223372036854775808):∃q,pv (xt a s) 128=sg a s+340282366920938463463374607431768211456*q:=by
 rw[show (128:Nat)=64+64 from rfl,yC]
 rw[sD (g:=zb a) 64 (λ i hi=>by simp[xt,hi]),B9]
 have u:zb a 63=if a<0 then 1 else 0:=by
  unfold zb;rw[show (2:Int)^63=9223372036854775808 from by decide]
  split<;>omega
 have j:(2:Int)^64=18446744073709551616:=by decide
 cases s with
 | false=>
  rw[sD (g:=λ _=>0*1) 64 (λ i hi=>by simp only[xt,aC (show ¬i+64<64 by omega)];rfl),AH,j]
  exact ⟨0,by simp[sg]⟩
 | true=>
  rw[sD (g:=λ _=>zb a 63*1) 64 (λ i hi=>by simp only[xt,aC (show ¬i+64<64 by omega)];simp),AH,Hr,u,j]
  by_cases h:a<0
  .exact ⟨1,by simp only[zt h,sg,if_true];omega⟩
  exact ⟨0,by simp only[aC h,sg,if_true];omega⟩
def oV (a b:Int) (sa sb:Bool):Int:=IntKind.i64.wrap (sg a sa*sg b sb/18446744073709551616)
def Ta (a b) (sa sb) (v:-9223372036854775808<=a) (w:a<9223372036854775808) (y:-9223372036854775808<=b) (C:b<9223372036854775808):
    IntKind.i64.wrap (pv (λ i=>ou (cv (xt a sa) (xt b sb)) (i+64)) 64)=oV a b sa sb:=by
 obtain ⟨p,E⟩:=GI a sa v w;obtain ⟨q,F⟩:=GI b sb y C;obtain ⟨r,G⟩:=Hw (xt b sb) 128 (xt a sa);have u:=Hs (cv (xt a sa) (xt b sb)) 128;rw[G,E,F]at u;rw[show (128:Nat)=64+64 from rfl,yC]at u
 have D:=Ii (x:=ou (cv (xt a sa) (xt b sb))) 64 (λ i _=>Ik _ i)
 have j:(2:Int)^64=18446744073709551616:=by decide
 have h:(2:Int)^(64+64)=340282366920938463463374607431768211456:=by decide
 rw[j]at D;rw[j,h]at u;unfold oV;generalize pv (λ i=>ou (cv (xt a sa) (xt b sb)) (i+64)) 64=H at *
 generalize pv (ou (cv (xt a sa) (xt b sb))) 64=L at *;generalize cr (cv (xt a sa) (xt b sb)) (64+64)=c at *;generalize sg a sa=A at *;generalize sg b sb=B at *
 have e:(A+340282366920938463463374607431768211456*p)*(B+340282366920938463463374607431768211456*q)=A*B+340282366920938463463374607431768211456*(A*q+p*B+p*(340282366920938463463374607431768211456*q)):=by
  simp only[Int.add_mul,Int.mul_add];rw[Int.mul_assoc _ p B,Int.mul_assoc _ p (340282366920938463463374607431768211456*q),<-Int.mul_assoc A,Int.mul_comm A 340282366920938463463374607431768211456,Int.mul_assoc _ A q];omega
 rw[e]at u;generalize A*q+p*B+p*(340282366920938463463374607431768211456*q)=z at *;generalize A*B=m at *;rw[zo,zo];omega
def mC (a:Int) (s:Bool) (k:Nat):List Int:=(List.range k).map (xt a s)
def Fb (a) (s) (k):mC a s (k+1)=mC a s k++[xt a s k]:=by simp[mC,List.range_succ]
def Hj (a) (s):mC a s 64=mu a 64:=by
 unfold mC mu;refine List.map_congr_left (λ i hi=>?_)
 rw[List.mem_range]at hi;simp[xt,hi]
def vZ (a) (s) (k i) (h:i<k):(iC (mC a s k))[i]?=some (.int .i64 (xt a s i)):=by
 simp[iC,mC,h]
def B0 {x y:Int} (hx:0<=x/\x<=1) (hy:0<=y/\y<=1):0<=x*y/\x*y<=1:=by
 have:x=0\/x=1:=by omega
 rcases this with rfl|rfl<;>simp<;>omega
def oW (c:Nat->Int) (k:Nat):List Int:=(List.range k).map (ou c)
def PZ (c:Nat->Int) (k):oW c (k+1)=oW c k++[ou c k]:=by simp[oW,List.range_succ]
def VG (c:Nat->Int) (k i) (h:i<k):(iC (oW c k))[i]?=some (.int .i64 (ou c i)):=by
 simp[iC,oW,h]
def uS {size:Nat} {v:Value} (h:w.ownsRow base e size v n xs) (C:0<n):∃g cap,v=.slice (some ⟨g,0,none⟩) n cap/\base<=g/\g<w.heap.size/\n<=cap:=by
 rcases h.2 with ⟨_,A⟩|⟨g,cap,q,rfl,u,j,y,_⟩
 .omega
 refine ⟨g,cap,rfl,u,?_,y⟩;rcases Nat.lt_or_ge g w.heap.size with h|h
 .exact h
 rw[Array.getElem?_eq_none h]at j;cases j
def tt (g j):(⟨g,0,none⟩:Addr).add j=⟨g,j,none⟩:=by unfold Addr.add;split<;>simp_all
def sM {w':World} {j size:Nat} {v:Value} (h:w.ownsRow base e size v n xs) (D:∀g,v.ownBlock=some g->w'.heap[g]?=w.heap[g]?) (F:j<=base):w'.ownsRow j e size v n xs:=by
 obtain ⟨u,A|⟨g,cap,q,y,G,E,C⟩⟩:=h
 .exact ⟨u,.inl A⟩
 exact ⟨u,.inr ⟨g,cap,q,y,by omega,(D g (by rw[y];rfl)).trans E,C⟩⟩
structure wX (a b:Int) (sa sb:Bool) (gx cx gy cy k:Nat) (w wr:World):Prop where
 hx:wr.ownsRow w.heap.size 3 1 (.slice (some ⟨gx,0,none⟩) k cx) k (iC (mC a sa k))
 hy:wr.ownsRow w.heap.size 3 1 (.slice (some ⟨gy,0,none⟩) k cy) k (iC (mC b sb k))
 ne:gx≠gy
 bel:Below w.heap.size w wr
def Ol (a b) (sa sb) (w) (a0:-9223372036854775808<=a) (a1:a<9223372036854775808) (b0:-9223372036854775808<=b) (b1:b<9223372036854775808):
    aG prog 268 #[.int .i64 a,.int .i64 b,.bool sa,.bool sb] w (.int .i64 (oV a b sa sb)):=by
 unfold aG;obtain ⟨i0,hi,ai,aj,ak⟩:=info_parts Tryz.infoInt;have HF:=aA (Ta a b sa sb a0 a1 b0 b1);clear a0 a1 b0 b1;go_in;go_wp2_with fail;refine (yV a _).mono ?_;rintro e w1 ⟨x,rfl,hx,N⟩;obtain ⟨F,cx,rfl,dm,bp,_⟩:=uS hx (by omega)
 go_wp2_with fail;refine (yV b _).mono ?_;rintro e w2 ⟨y,rfl,hy,aa⟩;obtain ⟨E,W,rfl,dn,dp,_⟩:=uS hy (by omega)
 have H0:Hid (wX a b sa sb F cx E W 64 w w2):=aA ⟨by rw[Hj];exact sM hx (λ g M=>aa.block g (by cases M;exact bp)) zn,by rw[Hj];exact sM hy (λ g M=>rfl) N.size,by omega,N.trans (aa.mono N.size)⟩
 clear hx hy N aa dm bp dn dp;go_wp2_with fail;go_loopw [9,10,11] (λ x y i wr=>∃k F E cx W:Nat,64<=k/\k<=128/\i=.int .i64 k/\x=.slice (some ⟨F,0,none⟩) k cx/\y=.slice (some ⟨E,0,none⟩) k W/\wX a b sa sb F cx E W k w wr) (λ _ _ i _=>128-(intOf i).toNat)
 case atStart=>exact ⟨64,F,E,cx,W,zn,by omega,rfl,rfl,rfl,H0.out⟩
 case round=>
  clear H0;obtain ⟨k,F,E,cx,W,df,hk,rfl,rfl,rfl,hX⟩:=hrel;have H:=aA hX;by_cases af:k<128
  .have dh:(k:Int)<128:=by omega
   have cj:wr.cell? ⟨F,63,none⟩=some (.int .i64 (zb a 63)):=by
    (have:=hX.hx.cells (g:=F) rfl 63 _ (vZ a sa k 63 (by omega)));simpa[xt,Addr.add] using this
   have cp:wr.cell? ⟨E,63,none⟩=some (.int .i64 (zb b 63)):=by
    (have:=hX.hy.cells (g:=E) rfl 63 _ (vZ b sb k 63 (by omega)));simpa[xt,Addr.add] using this
   (have ex:(if sa=true then zb a 63 else 0)=xt a sa k:=by unfold xt;rw[aC (show ¬k<64 by omega)]);(have ey:(if sb=true then zb b 63 else 0)=xt b sb k:=by unfold xt;rw[aC (show ¬k<64 by omega)]);have EX:=aA ex;have EY:=aA ey;clear ex ey hX;generalize zb a 63=ba at *;generalize zb b 63=bb at *;generalize bq:xt a sa k=xa at *;generalize bs:xt b sb k=xb at *;have cc:=aA bq;have ce:=aA bs;clear bq bs;go_upto_if 27 with fail;go_cut [12] from 90 to 90 (λ u wx=>u=.int .i64 xa/\wr=wx)
   case first=>
    cases sa
    .go_wp2_with fail
     go_meet;case rel=>exact ⟨by rw[<-EX.out];rfl,rfl⟩
    go_wp2_with fail;go_meet;case rel=>exact ⟨by rw[<-EX.out];rfl,rfl⟩
   case rest=>
    obtain ⟨rfl,hw⟩:=hcut;subst hw;go_upto_if 31 with fail;go_cut [13] from 90 to 90 (λ u wx=>u=.int .i64 xb/\wr=wx)
    case first=>
     cases sb
     .go_wp2_with fail
      go_meet;case rel=>exact ⟨by rw[<-EY.out];rfl,rfl⟩
     go_wp2_with fail;go_meet;case rel=>exact ⟨by rw[<-EY.out];rfl,rfl⟩
    case rest=>
     obtain ⟨rfl,hw⟩:=hcut;subst hw;clear cj cp;have dk:w.heap.size<=wr.heap.size:=H.out.bel.size;have a2:=aA (H.out.hx.alloc (.cells #[.int .i64 xa] 3));go_wp2_with (at_builtin;refine wpList_append_lies _ rfl _ _ 49 rfl w.heap.size 3 i0 (.int .i64 0) 1 8 underlying49 hi ai aj ak rfl (by decide) _ _ _ rfl a2.out ⟨wr.heap.size,0,none⟩ 1 1 [.int .i64 xa] rfl rfl ?c1 ?c2 (by decide) ?c3 ?c4 ?c5 (wr.heap.size+1) ?c6 ?_)
     case c1=>
      intro j u A
      match j,A with
      | 0,A=>simp at A;subst A;simp[Addr.add]
     (case c2=>intro u Q;simp at Q;subst Q;rfl);(case c3=>unfold maxLen;omega);(case c4=>omega);(case c5=>simp;omega);(case c6=>simp);intro g8 c8 L K q J bj;(have e4:wr.heap.size+1<=L.heap.size:=by have:=q.size;simpa using this);(have eu:g8=F\/g8=wr.heap.size+1:=by rcases J with h|h;(left;cases h;rfl);exact .inr h);have bi:=(H.out.hy.lt E rfl);(have bd:∀j,j<wr.heap.size->j≠F->L.heap[j]?=wr.heap[j]?:=λ j A ag=>(q.block j (by simp;omega) (λ e=>ag (Option.some.inj e))).trans (aJ.block j A));(have a5:Hid (L.ownsRow w.heap.size 3 1 (.slice (some ⟨g8,0,none⟩) (k+1) c8) (k+1) (iC (mC a sa (k+1)))):=aA (by rw[Fb,vx,cc.out];exact K));(have U:Hid (L.ownsRow w.heap.size 3 1 (.slice (some ⟨E,0,none⟩) k W) k (iC (mC b sb k))):=aA (sM H.out.hy (λ g M=>by cases M;exact bd _ bi.2 (λ e=>H.out.ne e.symm)) zn));(have T:Hid (Below w.heap.size w L):=aA ((H.out.bel.alloc dk _).grown q (by simp;omega) (λ j A=>by cases A;exact (H.out.hx.lt F rfl).1)));(have bk:g8≠E:=by have:=H.out.ne;omega);clear K q J bd a2 H;have a3:=aA (U.out.alloc (.cells #[.int .i64 xb] 3));have bn:w.heap.size<=L.heap.size:=T.out.size;go_wp2_with (at_builtin;refine wpList_append_lies _ rfl _ _ 49 rfl w.heap.size 3 i0 (.int .i64 0) 1 8 underlying49 hi ai aj ak rfl (by decide) _ _ _ rfl a3.out ⟨L.heap.size,0,none⟩ 1 1 [.int .i64 xb] rfl rfl ?c1 ?c2 (by decide) ?c3 ?c4 ?c5 (L.heap.size+1) ?c6 ?_)
     case c1=>
      intro j u A
      match j,A with
      | 0,A=>simp at A;subst A;simp[Addr.add]
     (case c2=>intro u Q;simp at Q;subst Q;rfl);(case c3=>unfold maxLen;omega);(case c4=>omega);(case c5=>simp;omega);(case c6=>simp);intro g9 c9 w9 C q J em;(have ev:g9=E\/g9=L.heap.size+1:=by rcases J with h|h;(left;cases h;rfl);exact .inr h);have be:∀j,j<L.heap.size->j≠E->w9.heap[j]?=L.heap[j]?:=λ j A ag=>(q.block j (by simp;omega) (λ e=>ag (Option.some.inj e))).trans (aJ.block j A)
     have H9:Hid (wX a b sa sb g8 c8 g9 c9 (k+1) w w9):=aA ⟨sM a5.out (λ g M=>by cases M;exact be _ bj bk) zn,by rw[Fb,vx,ce.out];exact C,by omega,
      (T.out.alloc bn _).grown q (by simp;omega) (λ j A=>by cases A;exact (U.out.lt E rfl).1)⟩
     clear C q J be a3 a5 U T;go_wp2;go_roundw;(case rel=>exact ⟨k+1,g8,g9,c8,c9,by omega,by omega,by go_num,rfl,rfl,H9.out⟩);case measure=>simp[intOf];omega
  have ae:k=128:=by omega
  subst ae;rw[show ((128:Nat):Int)=128 from rfl]
  clear af hk df hX
  have bu:∀j,j<128->wr.cell? ⟨F,j,none⟩=some (.int .i64 (xt a sa j)):=λ j A=>by
   have:=H.out.hx.cells (g:=F) rfl j _ (vZ a sa 128 j A);rwa[tt]at this
  have bv:∀j,j<128->wr.cell? ⟨E,j,none⟩=some (.int .i64 (xt b sb j)):=λ j A=>by
   have:=H.out.hy.cells (g:=E) rfl j _ (vZ b sb 128 j A);rwa[tt]at this
  have db:F<wr.heap.size:=(H.out.hx.lt F rfl).2;have dc:E<wr.heap.size:=(H.out.hy.lt E rfl).2;have a6:=aA bu;have a7:=aA bv;have ao:=aA H.out.bel;clear bu bv H;have ab:=λ i=>Ij a sa i
  have ac:=λ i=>Ij b sb i
  generalize xt a sa=X at *;generalize xt b sb=Y at *;generalize wr=D at *
  have bf:∀k,k<128->0<=cv X Y k/\cv X Y k<=128:=λ k hk=>by
   (have:=B8 (f:=λ i=>X i*Y (k-i)) (k+1) (λ i _=>B0 (ab i) (ac _)));unfold cv;omega
  go_wp2_with fail;go_loopw [14,15,16] (λ c v i wq=>∃k:Nat,k<=128/\i=.int .i64 k/\c=.int .i64 (cr (cv X Y) k)/\wq.ownsRow D.heap.size 3 1 v k (iC (oW (cv X Y) k))/\Below D.heap.size D wq) (λ _ _ i _=>128-(intOf i).toNat)
  case atStart=>exact ⟨0,by omega,rfl,rfl,World.ownsRow_nil _ _ _ _,aU⟩
  case round=>
   obtain ⟨k,hk,rfl,rfl,P,hB⟩:=hrel;generalize wr=w3 at *;have HB:=aA hB;have HO:=aA P;have Z:=hB;clear hB P;have et:=Im bf k hk;by_cases af:k<128
   .have dh:(k:Int)<128:=by omega
    (have bg:=λ j A=>(HB.out.cell (p:=⟨F,j,none⟩) db).trans (a6.out j A));(have bh:=λ j A=>(HB.out.cell (p:=⟨E,j,none⟩) dc).trans (a7.out j A));have aw:=aA bg;have ax:=aA bh;clear bg bh;generalize a9:cr (cv X Y) k=c0 at *;have au:=aA a9;clear a9;have c7:=Z.size;go_upto_block 4 with fail;go_cut [17,18] from 43 to 72 (λ s _ wx=>s=.int .i64 (c0+cv X Y k)/\Below w3.heap.size w3 wx)
    case first=>
     go_wp2_with fail;(go_loopw [17,18] (λ s i wq=>∃j:Nat,j<=k+1/\i=.int .i64 j/\s=.int .i64 (c0+sm (λ i=>X i*Y (k-i)) j)/\Below w3.heap.size w3 wq) (λ _ i _=>k+1-(intOf i).toNat));case atStart=>exact ⟨0,by omega,rfl,by simp[sm],aU⟩
     case round=>
      obtain ⟨j,A,rfl,rfl,G⟩:=hrel;have aq:=aA G;(have dj:=B8 (f:=λ i=>X i*Y (k-i)) j (λ i _=>B0 (ab i) (ac _)));by_cases ew:j<=k
      .have ek:(j:Int)<=k:=by omega
       (have ah:sm (λ i=>X i*Y (k-i)) (j+1)=sm (λ i=>X i*Y (k-i)) j+X j*Y (k-j):=rfl);(have c1:wr.cell? ⟨F,j,none⟩=some (.int .i64 (X j)):=(G.cell (p:=⟨F,j,none⟩) (by show F<_;omega)).trans (aw.out j (by omega)));(have c2:wr.cell? ⟨E,k-j,none⟩=some (.int .i64 (Y (k-j))):=(G.cell (p:=⟨E,k-j,none⟩) (by show E<_;omega)).trans (ax.out (k-j) (by omega)));have hp:=B0 (ab j) (ac (k-j));obtain ⟨d,hd⟩:∃d:Nat,k-j=d:=⟨_,rfl⟩;rw[hd]at ah c2 hp;(have cz:(k:Int)-j=d:=by omega);(have wd:IntKind.i64.wrap ((k:Int)-j)=d:=by rw[cz];exact zw _ (by omega));have HS:=aA ah;clear ah G hd;(generalize sm (λ i=>X i*Y (k-i)) j=sj at *);generalize X j=xj at *;generalize Y d=yd at *;(have we:IntKind.i64.wrap (xj*yd)=xj*yd:=zw _ (by omega));(have wf:IntKind.i64.wrap (c0+sj+xj*yd)=c0+sj+xj*yd:=zw _ (by omega));(have cw:(d:Int)<128:=by omega);go_wp2_with fail;go_quiet (fail);go_wp2;go_roundw;(case rel=>exact ⟨j+1,by omega,by go_num,by rw[HS.out,Int.add_assoc],below_drewN aq.out _⟩);case measure=>simp[intOf];omega
      (have dd:j=k+1:=by omega);subst dd;(have cu:sm (λ i=>X i*Y (k-i)) (k+1)=cv X Y k:=rfl);rw[cu]at dj ⊢;go_wp2_with fail;go_meet;case rel=>exact ⟨rfl,aq.out⟩
    case rest=>
     obtain ⟨rfl,G⟩:=hcut;have eg:=bf k af;(have e1:(c0+cv X Y k).tmod 2=ou (cv X Y) k:=by rw[Int.tmod_eq_emod_of_nonneg (by omega),ou,au.out]);(have O:(c0+cv X Y k).tdiv 2=cr (cv X Y) (k+1):=by rw[Int.tdiv_eq_ediv_of_nonneg (by omega),cr,au.out]);have av:=aA O;have en:=Ik (cv X Y) k;(have R:∀g,u15.ownBlock=some g->g<w3.heap.size:=λ g M=>(HO.out.lt g M).2);(have a4:Hid (wc.ownsRow D.heap.size 3 1 u15 k (iC (oW (cv X Y) k))):=aA (sM HO.out (λ g M=>G.block g (R g M)) zn));have ar:Hid (Below D.heap.size D wc):=aA (HB.out.trans (G.mono c7));have bo:D.heap.size<=wc.heap.size:=ar.out.size;have az:=aA (a4.out.alloc (.cells #[.int .i64 (ou (cv X Y) k)] 3));clear G O a6 a7 aw ax R;generalize cv X Y k=V at *;(have di:0<=c0+V:=by omega);(have e3:c0+V<=256:=by omega);generalize c0+V=ss at *;go_wp2_with (at_builtin;refine wpList_append_own _ rfl _ _ 49 rfl D.heap.size 3 i0 (.int .i64 0) 1 8 underlying49 hi ai aj ak rfl (by decide) _ _ _ rfl az.out ⟨wc.heap.size,0,none⟩ 1 1 [.int .i64 (ou (cv X Y) k)] rfl rfl ?c1 ?c2 ?c3 ?c4 ?c5 ?_)
     case c1=>
      intro j u A
      match j,A with
      | 0,A=>simp at A;subst A;simp[Addr.add]
     (case c2=>intro u Q;simp at Q;subst Q;rfl);(case c3=>unfold maxLen;omega);(case c4=>omega);(case c5=>simp;omega);intro v9 w9 C q _;(have H9:Hid (w9.ownsRow D.heap.size 3 1 v9 (k+1) (iC (oW (cv X Y) (k+1)))):=aA (by rw[PZ,vx];exact C));(have ca:Hid (Below D.heap.size D w9):=aA ((ar.out.alloc bo _).grown q (by simp;omega) (λ j A=>(a4.out.lt j A).1)));clear C q az;go_wp2;go_roundw;(case rel=>exact ⟨k+1,by omega,by go_num,by rw[<-av.out,Int.tdiv_eq_ediv_of_nonneg di],H9.out,ca.out⟩);case measure=>simp[intOf];omega
   (have ae:k=128:=by omega);subst ae;obtain ⟨go,co,rfl,ei,ej,es⟩:=uS HO.out (by omega)
   have bm:∀j,j<64->w3.cell? ((⟨go,64,none⟩:Addr).add j)=some (.int .i64 (((List.range 64).map (λ i=>ou (cv X Y) (i+64))).getD j 0)):=λ j A=>by
    (have:=HO.out.cells (g:=go) rfl (64+j) _ (VG (cv X Y) 128 (64+j) (by omega)));rw[tt]at this;(have e:(⟨go,64,none⟩:Addr).add j=⟨go,64+j,none⟩:=by unfold Addr.add;split<;>simp_all);rw[e,this];simp[A,Nat.add_comm]
   (have HV:=aA (DO ⟨go,64,none⟩ (co-64) ((List.range 64).map (λ i=>ou (cv X Y) (i+64))) w3 (by simp) bm));rw[AZ,HF.out]at HV;have I:=ao.out.trans (Z.mono ao.out.size);have cb:=aA I;have ee:¬co=64:=by omega
   have ef:co<=9223372036854775807:=by
    rcases HO.out.2 with ⟨h,_⟩|⟨g,cap,er,h,_,_,_,hm,_⟩
    .cases h
    cases h;exact hm
   clear bm I Z;go_wp2_with fail;refine zk HV.out ?_;go_wp2;go_ret;exact ⟨rfl,cb.out⟩
def nt (a b:Int):Bool:=decide (a%18446744073709551616<b%18446744073709551616)
def qL (Q:Int) (k:Nat):List Int:=(List.range 64).map λ j=>if j<k then 0 else zb Q j
def ta (Q) (k):(qL Q k).length=64:=by simp[qL]
def wJ (Q) (k j) (h:j<64):(iC (qL Q k))[j]?=some (.int .i64 (if j<k then 0 else zb Q j)):=by
 simp[iC,qL,h]
def Vw (Q):qL Q 64=List.replicate 64 0:=by
 unfold qL;rw[List.map_congr_left (g:=λ _=>0) (λ j h=>by rw[zt (List.mem_range.1 h)])]
 rfl
def Sh (Q) (k) (h:zb Q k=0):qL Q k=qL Q (k+1):=by
 unfold qL;refine List.map_congr_left (λ j _=>?_)
 by_cases e:j=k
 .subst e;simp[h]
 by_cases q:j<k
 .rw[zt q,zt (by omega)]
 rw[aC q,aC (by omega)]
def TZ (Q) (k) (w:k<64) (h:zb Q k=1):(iC (qL Q (k+1))).set k (.int .i64 1)=iC (qL Q k):=by
 refine List.ext_getElem? (λ j=>?_)
 by_cases u:j<64
 .rw[wJ Q k j u]
  by_cases e:j=k
  .subst e
   rw[List.getElem?_set_self (by simp[iC,ta,u]),aC (by omega),h]
  rw[List.getElem?_set_ne (λ q=>e q.symm),wJ Q (k+1) j u]
  by_cases v:j<k
  .rw[zt v,zt (by omega)]
  rw[aC v,aC (by omega)]
 rw[List.getElem?_eq_none (by simp[iC,ta];omega),List.getElem?_eq_none (by simp[iC,ta];omega)]
def Ob (A B:Int) (k:Nat) (h:0<=B):A/B/2^k=A/2^k/B:=by
 rw[Int.ediv_ediv_of_nonneg h,Int.ediv_ediv_of_nonneg (Int.le_of_lt (pow_pos k)),Int.mul_comm]
def WA (P B l:Int) (j:0<B) (y:0<=l/\l<=1):
    ((2*P+l)%B=if B<=2*(P%B)+l then 2*(P%B)+l-B else 2*(P%B)+l)/\((2*P+l)/B%2=if B<=2*(P%B)+l then 1 else 0):=by
 have u:=Int.mul_ediv_add_emod P B;have v:=Int.emod_nonneg P (Int.ne_of_gt j);have w:=Int.emod_lt_of_pos P j;generalize P/B=q at *;generalize P%B=r at *;by_cases h:B<=2*r+l
 .rw[zt h,zt h]
  have e:2*P+l=(2*r+l-B)+B*(2*q+1):=by
   (have:B*(2*q+1)=2*(B*q)+B:=by rw[Int.mul_add,<-Int.mul_assoc,Int.mul_comm B 2,Int.mul_assoc,Int.mul_one]);omega
  rw[e,Int.add_mul_emod_self_left,Int.add_mul_ediv_left _ _ (Int.ne_of_gt j),Int.emod_eq_of_lt (by omega) (by omega),Int.ediv_eq_zero_of_lt (by omega) (by omega)]
  omega
 rw[aC h,aC h]
 have e:2*P+l=(2*r+l)+B*(2*q):=by
  have:B*(2*q)=2*(B*q):=by rw[<-Int.mul_assoc,Int.mul_comm B 2,Int.mul_assoc]
  omega
 rw[e,Int.add_mul_emod_self_left,Int.add_mul_ediv_left _ _ (Int.ne_of_gt j),Int.emod_eq_of_lt (by omega) (by omega),Int.ediv_eq_zero_of_lt (by omega) (by omega)]
 omega
def S3 (A) (k):A/2^k=2*(A/2^(k+1))+zb A k:=by
 rw[Bb];unfold zb;omega
def UK (a) (k) (h:k<64):zb a k=zb (a%18446744073709551616) k:=by
 have e:a=a%18446744073709551616+2^k*(2*(2^(63-k)*(a/18446744073709551616))):=by
  have j:(2:Int)^k*(2*(2^(63-k)*(a/18446744073709551616)))=18446744073709551616*(a/18446744073709551616):=by
   (rw[<-Int.mul_assoc,<-Int.mul_assoc,<-Int.pow_succ,<-Int.pow_add,show k+1+(63-k)=64 from by omega]);rw[show (2:Int)^64=18446744073709551616 from by decide]
  rw[j];omega
 unfold zb;refine (congrArg (λ x=>x/2^k%2) e).trans ?_
 show (a%18446744073709551616+2^k*(2*(2^(63-k)*(a/18446744073709551616))))/2^k%2=_;rw[Int.add_mul_ediv_left _ _ (Int.ne_of_gt (pow_pos k))];omega
def xY (a b) (w) (h:-9223372036854775808<=a) (j:a<9223372036854775808) (q:-9223372036854775808<=b) (u:b<9223372036854775808):
    zS prog 244 #[.int .i64 a,.int .i64 b] w (.bool (nt a b)):=by
 unfold zS;by_cases v:a<0<;>by_cases y:b<0
 all_goals
  go_in;go_wp2;go_ret;refine ⟨?_,rfl⟩
  first
  | rfl
  | (refine congrArg (λ z=>Ending.returned (.bool z)) ?_;unfold nt;simp only[decide_eq_decide];omega)
  | (refine congrArg (λ z=>Ending.returned (.bool z)) ?_;unfold nt;symm;simp only[decide_eq_true_eq,decide_eq_false_iff_not];omega)
def CU {g cap:Nat} (h:w.ownsRow base e 1 (.slice (some ⟨g,0,none⟩) n cap) n xs):aF g xs w:=by
 have A:=h.cells (g:=g) rfl;have E:=(h.lt g rfl).2;refine ⟨E,λ q=>?_,λ j v D=>by have:=A j v D;rwa[tt]at this⟩
 rcases h.2 with ⟨h,_⟩|⟨G,u,y,F,_,C,_⟩
 .cases h
 cases F
 unfold World.frozen?;rw[show ({ block:=g,off:=q }:Addr).block=g from rfl,C]
 simp
def JW (a b) (w) (a0:-9223372036854775808<=a) (a1:a<9223372036854775808) (b0:-9223372036854775808<=b) (b1:b<9223372036854775808) (hb:¬b=0):
    aG prog 278 #[.int .i64 a,.int .i64 b] w (.tuple #[.int .i64 (lI a b),.int .i64 (lJ a b)]):=by
 unfold aG;obtain ⟨i0,hi,ao,aq,bh⟩:=info_parts Tryz.infoInt;obtain ⟨A,hA⟩:∃A,A=a%18446744073709551616:=⟨_,rfl⟩;obtain ⟨B,I⟩:∃B,B=b%18446744073709551616:=⟨_,rfl⟩;have hA0:0<=A/\A<18446744073709551616:=by omega
 have C:0<B/\B<18446744073709551616:=by omega
 have HQ:Hid (lI a b=IntKind.i64.wrap (A/B)):=aA (by unfold lI;rw[aC hb,<-hA,<-I])
 have HR:Hid (lJ a b=IntKind.i64.wrap (A%B)):=aA (by unfold lJ;rw[aC hb,<-hA,<-I])
 have aj:Hid (∀k,k<64->zb a k=zb A k):=aA (λ k hk=>by rw[hA];exact UK a k hk)
 have U:=aA I;clear hA I a0 a1 hb;go_in;go_wp2_with fail;refine (yV a _).mono ?_;rintro e R ⟨x,rfl,hx,L⟩;obtain ⟨gl,cl,rfl,bf,bg,_⟩:=uS hx (by omega)
 have HL:=aA (CU hx);have T:=aA L;have ab:w.heap.size<=R.heap.size:=L.size;clear hx L;go_wp2_with (refine wpList_make_full _ rfl _ _ 49 rfl R.heap.size 3 i0 (.int .i64 0) 1 underlying49 hi ao aq .i64 .i64 64 64 64 rfl rfl rfl rfl ?m1 ?m2 zn ?_);case m1=>omega
 case m2=>unfold maxLen;omega
 intro w2 v u
 have aa:(madeCells #[Value.int .i64 0] 64).toList=iC (qL (A/B) 64):=by
  rw[Vw];kernel_rfl
 rw[aa]at v;have Z:gl≠R.heap.size:=by omega
 have H0:Hid (aF R.heap.size (iC (qL (A/B) 64)) w2/\aF gl (iC (mu a 64)) w2/\Below w.heap.size w w2):=aA ⟨CU v,HL.out.keeps (c:=R.heap.size) (bS.of_grown u) Z (by intro h;cases h),T.out.grown u ab (λ j hj=>by cases hj)⟩
 clear v u aa HL T;generalize R.heap.size=H at *;have J:A/2^64=0:=by rw[show (2:Int)^64=18446744073709551616 from by decide];exact Int.ediv_eq_zero_of_lt hA0.1 hA0.2
 go_wp2_with fail;go_loopw [8,9] (λ r i wr=>∃k:Nat,k<=64/\i=.int .i64 ((k:Int)-1)/\r=.int .i64 (IntKind.i64.wrap (A/2^k%B))/\aF H (iC (qL (A/B) k)) wr/\aF gl (iC (mu a 64)) wr/\Below w.heap.size w wr) (λ _ i _=>(intOf i+1).toNat)
 case atStart=>exact ⟨64,by omega,rfl,by rw[J];rfl,H0.out⟩
 case round=>
  clear H0 J;obtain ⟨k,hk,rfl,rfl,hq,hl,hB⟩:=hrel;have E:=aA hq;have K:=aA hl;have HB:=aA hB;clear hq hl hB
  cases k with
  | zero=>
   have HV:=aA (DO ⟨H,0,none⟩ 64 (qL (A/B) 0) wr (ta _ _) (λ j hj=>by
    rw[tt];have:=E.out.2.2 j _ (wJ (A/B) 0 j hj);rw[this];simp[qL,hj]))
   have hv:vL (qL (A/B) 0)=A/B:=by
    unfold qL;(rw[AZ,sD (g:=zb (A/B)) 64 (λ i _=>by simp),B9,show (2:Int)^64=18446744073709551616 from by decide]);(refine Int.emod_eq_of_lt (Int.ediv_nonneg hA0.1 (by omega)) ?_);have:=Int.ediv_le_self B hA0.1;omega
   rw[hv]at HV;(have hr:A/2^0%B=A%B:=by simp);rw[hr];clear hv hr;generalize IntKind.i64.wrap (A%B)=rr at *;generalize IntKind.i64.wrap (A/B)=qq at *;go_wp2_with fail;refine HV.out.mono ?_;rintro e w' ⟨rfl,rfl⟩;go_wp2;go_ret2;exact ⟨by rw[HQ.out,HR.out];rfl,HB.out⟩
  | succ k=>
   (have e:((k+1:Nat):Int)-1=k:=by omega);rw[e];(have hl:=K.out.2.2 k (.int .i64 (zb a k)) (by simp[iC,mu,show k<64 by omega]));have am:=B5 a k;have N:=S3 A k;(rw[<-aj.out k (by omega)]at N);obtain ⟨s1,s2⟩:=WA (A/2^(k+1)) B (zb a k) C.1 am;rw[<-N]at s1 s2;(have s3:zb (A/B) k=A/2^k/B%2:=by unfold zb;rw[Ob _ _ _ (by omega)]);rw[<-s3]at s2;have O:=Int.emod_nonneg (A/2^(k+1)) (Int.ne_of_gt C.1);have P:=Int.emod_lt_of_pos (A/2^(k+1)) C.1;clear N s3;generalize A/2^(k+1)%B=q at *;generalize zb a k=l at *;have hw:wrap64 (wrap64 (IntKind.i64.wrap q*2)+l)=IntKind.i64.wrap (2*q+l):=by rw[<-aH q];exact Fw q l
   have y:nt (IntKind.i64.wrap (2*q+l)) b=decide ((2*q+l)%18446744073709551616<B):=by
    unfold nt;rw[U.out,zo];refine decide_eq_decide.2 ?_;omega
   (have D:(IntKind.i64.wrap q<0)↔9223372036854775808<=q:=by rw[zo];omega);have ac:=vj (2*q+l);(have Q:=aA (λ w'=>xY (IntKind.i64.wrap (2*q+l)) b w' ac.1 ac.2 b0 b1));rw[y]at Q
   have ae:IntKind.i64.wrap (IntKind.i64.wrap (2*q+l)-b)=IntKind.i64.wrap (2*q+l-B):=by
    have:=U.out;rw[zo,zo,zo];omega
   (have F:wrap64 (IntKind.i64.wrap (2*q+l)-b)=IntKind.i64.wrap (2*q+l-B):=by rw[aH];exact ae);have bd:=E.out.2.1 k;(have be:=E.out.2.2 k _ (wJ (A/B) (k+1) k (by omega)));have Y:A/2^k%B=(if B<=2*q+l then 2*q+l-B else 2*q+l):=s1;have V:=aA Y;have W:=aA s2;clear ae Y s1 s2;by_cases M:B<=2*q+l
   .have HN:Hid (aF H (iC (qL (A/B) k)) (wr.setCell ⟨H,k,none⟩ (.int .i64 1))/\aF gl (iC (mu a 64)) (wr.setCell ⟨H,k,none⟩ (.int .i64 1))/\Below w.heap.size w (wr.setCell ⟨H,k,none⟩ (.int .i64 1))):=aA ⟨by
     (have:=E.out.set k (.int .i64 1) (by simp[iC,ta];omega));rwa[TZ _ _ (by omega) (by rw[W.out,zt M])]at this,K.out.keeps (bS.setCell H none wr k _) Z (by intro h;cases h),HB.out.setCell (p:=⟨H,k,none⟩) (show w.heap.size<=H by omega) _⟩
    (have G:Hid (IntKind.i64.wrap (A/2^k%B)=IntKind.i64.wrap (2*q+l-B)):=aA (by rw[V.out,zt M]));by_cases ho:9223372036854775808<=q
    .have h0:IntKind.i64.wrap q<0:=D.2 ho
     clear D y O P hA0 C M ho;generalize decide ((2*q+l)%18446744073709551616<B)=ls at *;generalize IntKind.i64.wrap (2*q+l-B)=r3 at *;generalize IntKind.i64.wrap (2*q+l)=r2 at *;generalize IntKind.i64.wrap q=r1 at *;go_wp2_with fail;refine (Q.out _).mono ?_;rintro e w' ⟨rfl,rfl⟩;go_wp2;go_roundw;(case rel=>exact ⟨k,by omega,rfl,by rw[G.out,<-F],HN.out⟩);case measure=>simp[intOf]
    (have h0:¬IntKind.i64.wrap q<0:=λ h=>ho (D.1 h));(have X:decide ((2*q+l)%18446744073709551616<B)=false:=decide_eq_false (by omega));rw[X]at Q;clear D y O P hA0 C M ho X;generalize IntKind.i64.wrap (2*q+l-B)=r3 at *;generalize IntKind.i64.wrap (2*q+l)=r2 at *;generalize IntKind.i64.wrap q=r1 at *;go_wp2_with fail;refine (Q.out _).mono ?_;rintro e w' ⟨rfl,rfl⟩;go_wp2;go_roundw;(case rel=>exact ⟨k,by omega,rfl,by rw[G.out,<-F],HN.out⟩);case measure=>simp[intOf]
   (have G:Hid (IntKind.i64.wrap (A/2^k%B)=IntKind.i64.wrap (2*q+l)):=aA (by rw[V.out,aC M]));(have h0:¬IntKind.i64.wrap q<0:=λ h=>by have:=D.1 h;omega);(have X:decide ((2*q+l)%18446744073709551616<B)=true:=decide_eq_true (by omega));rw[X]at Q;(have ak:=aA (Sh (A/B) k (by rw[W.out,aC M])));clear D y O P hA0 C M X F;generalize IntKind.i64.wrap (2*q+l)=r2 at *;generalize IntKind.i64.wrap q=r1 at *;go_wp2_with fail;refine (Q.out _).mono ?_;rintro e w' ⟨rfl,rfl⟩;go_wp2;go_roundw;(case rel=>exact ⟨k,by omega,rfl,by rw[G.out],by rw[ak.out];exact E.out,K.out,HB.out⟩);case measure=>simp[intOf]
