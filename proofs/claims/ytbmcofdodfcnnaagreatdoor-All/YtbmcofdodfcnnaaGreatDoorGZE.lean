import Derived.Test.YtbmcofdodfcnnaaGreatDoorGZA
import Derived.Test.YtbmcofdodfcnnaaGreatDoorGUI
set_option linter.all false
set_option maxHeartbeats 0
set_option maxRecDepth 100000
namespace Go
open Proofs.Tryz RowKit
def Xf (a b):oV a b false false=mw a b:=rfl
def Ih (a b) (q:-9223372036854775808<=a) (u:a<9223372036854775808):oV a b true false=IntKind.i64.wrap (mw a b-mY a b):=by
 unfold oV mw sg mY;simp only[if_true,Bool.false_eq_true,if_false];have j:∃k,b%18446744073709551616=b+18446744073709551616*k:=⟨-(b/18446744073709551616),by omega⟩
 obtain ⟨k,w⟩:=j;generalize v:b%18446744073709551616=B at *;by_cases h:a<0
 .rw[zt h]
  have e:a%18446744073709551616=a+18446744073709551616:=by omega
  rw[e,Int.add_mul,Int.add_mul_ediv_left _ _ (by decide)]
  generalize a*B/18446744073709551616=x;rw[zo,zo,zo];omega
 rw[aC h];have e:a%18446744073709551616=a:=by omega
 rw[e];generalize a*B/18446744073709551616=x;rw[zo,zo];omega
def Wx (a b) (j:-9223372036854775808<=a) (q:a<9223372036854775808) (u:-9223372036854775808<=b) (v:b<9223372036854775808):oV a b true true=IntKind.i64.wrap (IntKind.i64.wrap (mw a b-mY a b)-mY b a):=by
 rw[<-Ih a b j q];unfold oV sg mY;simp only[if_true,Bool.false_eq_true,if_false];by_cases h:b<0
 .rw[zt h]
  have e:b%18446744073709551616=b+18446744073709551616:=by omega
  rw[e,Int.mul_add,Int.mul_comm a 18446744073709551616,Int.add_mul_ediv_left _ _ (by decide)]
  generalize a*b/18446744073709551616=x;rw[zo,zo,zo];omega
 rw[aC h];have e:b%18446744073709551616=b:=by omega
 rw[e];generalize a*b/18446744073709551616=x;rw[zo,zo];omega
def NO (n):bG (n%4294967296) 32=bP n:=by
 unfold bG bP cB;rw[IntKind.wrap_i32,show (2:Int)^((32:Int)-1).toNat=2147483648 from by decide,show (2:Int)^(32:Int).toNat=4294967296 from by decide]
 split<;>omega
def np (a b dZ:Int):Int:=if b=0 then -1 else if a=dZ/\b=-1 then a else IntKind.i64.wrap (a.tdiv b)
def oU (a b dZ:Int):Int:=if b=0 then a else if a=dZ/\b=-1 then 0 else a.tmod b
def UA (a b):np a b (-9223372036854775808)=lQ a b:=by
 unfold np lQ;by_cases h:b=0
 .rw[zt h,zt h]
 rw[aC h,aC h];by_cases j:a=-9223372036854775808/\b=-1
 .rw[zt j,j.1,j.2];decide
 rw[aC j]
def Fr (a b dZ):oU a b dZ=ms a b:=by
 unfold oU ms;by_cases h:b=0
 .rw[zt h,zt h]
 rw[aC h,aC h];by_cases j:a=dZ/\b=-1
 .rw[zt j,j.2];simp
 rw[aC j]
def TP (a b):bP (np a b (-2147483648))=bP (lQ a b):=by
 unfold np lQ;by_cases h:b=0
 .rw[zt h,zt h]
 rw[aC h,aC h];by_cases j:a=-2147483648/\b=-1
 .rw[zt j,j.1,j.2];decide
 rw[aC j]
def RH (a b):bP (ms (bP a) (bP b))=ms (bP a) (bP b):=by
 have h:=Bk (a:=bP a) (bP b) (m:=2147483648) (n8 a);unfold bP at *;rw[IntKind.wrap_i32];omega
def U5 (x):bits .and .i64 x 9223372036854775807=x%9223372036854775808:=by
 refine (E6 x _).trans ?_;have h:(9223372036854775807:Int)%18446744073709551616=9223372036854775807:=by decide
 rw[h];have j:(9223372036854775807:Int).toNat=2^63-1:=by decide
 rw[j,Nat.and_two_pow_sub_one_eq_mod];have q:(2:Nat)^63=9223372036854775808:=by decide
 rw[q,zo];omega
def Mn (U) (k) (h:0<=U) (u:U<18446744073709551616):IntKind.i64.wrap (U/2^k)/2%9223372036854775808=IntKind.i64.wrap (U/2^(k+1)):=by
 rw[Bb];have j:0<=U/2^k:=Int.ediv_nonneg h (Int.le_of_lt (pow_pos k));have q:U/2^k<=U:=Int.ediv_le_self _ h;generalize U/2^k=x at *;rw[zo,zo];omega
def o9 (n) (w):
    zS prog 247 #[.int .i64 n] w (.int .i64 (bP n)):=by
 unfold zS;have q:bits .and .i64 n 4294967295=n%4294967296:=(pA n 32 (by omega)).trans (by rw[show (2:Int)^32=4294967296 from by decide])
 have h:=aA (NO n);have j:0<=n%4294967296/\n%4294967296<4294967296:=by omega
 go_in;go_wp2_with (go_at_call 161;refine zk (si _ _ _ (by omega) (by omega) (by decide) (by decide)) ?_)
 go_ret;exact ⟨fZ h.out,rfl⟩
def PK (a:Int) (n:Nat) (w:World) (u:-9223372036854775808<=a) (v:a<9223372036854775808) (C:n<=63):
    zS prog 246 #[.int .i64 a,.int .i64 n] w (.int .i64 (IntKind.i64.wrap (a%18446744073709551616/2^n))):=by
 unfold zS;go_in;go_wp2;go_loop [0,5] (λ x i=>∃k:Nat,k<=n/\i=.int .i64 k/\x=.int .i64 (IntKind.i64.wrap (a%18446744073709551616/2^k))) (λ _ i=>n-(intOf i).toNat)
 case atStart=>exact ⟨0,by omega,rfl,by rw[zo];simp;omega⟩
 case round=>
  obtain ⟨k,y,rfl,rfl⟩:=hrel;by_cases q:k<n
  .have j:=aA (Mn (a%18446744073709551616) k (by omega) (by omega))
   generalize IntKind.i64.wrap (a%18446744073709551616/2^k)=x at *;have A:bits .and .i64 (x/2) 9223372036854775807=x/2%9223372036854775808:=U5 _;go_wp2;go_round;(case rel=>exact ⟨k+1,by omega,by go_num,by rw[<-j.out]⟩);case measure=>simp[intOf];omega
  have h:k=n:=by omega
  subst h;go_wp2;go_ret;exact ⟨rfl,rfl⟩
def BU (a b l) (w):
    aG prog 269 #[.int .i64 a,.int .i64 b,.int .i64 l] w (.tuple #[.int .i64 (np a b l),.int .i64 (oU a b l)]):=by
 unfold aG;by_cases h:b=0
 .subst h
  go_in;go_wp2;go_ret2;exact ⟨rfl,aU⟩
 by_cases v:a=l
 .by_cases C:b=-1
  .subst v C
   go_in;go_wp2;go_ret2;exact ⟨by unfold np oU;simp,aU⟩
  have j:np a b l=IntKind.i64.wrap (a.tdiv b):=by unfold np;rw[aC h,aC (λ q=>C q.2)]
  have u:oU a b l=a.tmod b:=by unfold oU;rw[aC h,aC (λ q=>C q.2)]
  have y:=aA j;have A:=aA u;clear j u;subst v;go_in;go_wp2_with fail;go_quiet (fail);go_wp2;go_ret2;exact ⟨by rw[y.out,A.out,<-aH];rfl,below_drewN aU _⟩
 have j:np a b l=IntKind.i64.wrap (a.tdiv b):=by unfold np;rw[aC h,aC (λ q=>v q.1)]
 have u:oU a b l=a.tmod b:=by unfold oU;rw[aC h,aC (λ q=>v q.1)]
 have y:=aA j;have A:=aA u;clear j u;go_in;go_wp2_with fail;go_quiet (fail);go_wp2;go_ret2;exact ⟨by rw[y.out,A.out,<-aH];rfl,below_drewN aU _⟩
def BH (a b) (w) (v:-9223372036854775808<=a) (y:a<9223372036854775808) (A:-9223372036854775808<=b) (C:b<9223372036854775808):
    aG prog 270 #[.int .i64 a,.int .i64 b] w (.tuple #[.int .i64 (lI a b),.int .i64 (lJ a b)]):=by
 unfold aG;by_cases h:b=0
 .subst h
  go_in;go_wp2;go_ret2;exact ⟨rfl,aU⟩
 have u:=aA (JW a b w v y A C h);go_in;go_wp2_with fail;refine zK u.out λ w' j=>?_;have q:=aA j;clear j;go_wp2;go_ret2;exact ⟨rfl,q.out⟩
def QV (k:Nat) (h:k∈[11,24]) (a b:Int) (w:World) (j:-9223372036854775808<=a) (q:a<9223372036854775808) (u:-9223372036854775808<=b) (v:b<9223372036854775808):
    aG prog 248 #[.int .i64 k,.int .i64 a,.int .i64 b] w (.int .i64 (comp k a b)):=by
 unfold aG;simp only[List.mem_cons,List.not_mem_nil,or_false]at h;rcases h with rfl|rfl
 all_goals
  go_in;go_wp2_with (go_at_call 247;refine zk (o9 _ _) ?_);go_ret;refine ⟨iB ?_,aU⟩;simp only[comp,aH,xA]
def PY (k:Nat) (A:k∈[12,13,14,15,17,16,18]) (a b:Int) (w:World) (j:-9223372036854775808<=a) (q:a<9223372036854775808) (v:-9223372036854775808<=b) (y:b<9223372036854775808):
    aG prog 248 #[.int .i64 k,.int .i64 a,.int .i64 b] w (.int .i64 (comp k a b)):=by
 unfold aG;have D:=aA (λ (w':World) (s t:Bool)=>Ol a b s t w' j q v y)
 have C:=aA (λ (w':World)=>BU a b (-9223372036854775808) w')
 have E:=aA (λ (w':World)=>BH a b w' j q v y)
 simp only[List.mem_cons,List.not_mem_nil,or_false]at A;rcases A with rfl|rfl|rfl|rfl|rfl|rfl|rfl
 all_goals
  go_in;go_wp2_with (go_at_call 247;refine (o9 _ _).mono ?_;rintro e w' ⟨rfl,rfl⟩)
  first
  | refine (D.out _ _ _).mono ?_
  | refine (C.out _).mono ?_
  | refine (E.out _).mono ?_
  rintro e F ⟨rfl,h⟩;have u:=aA h;clear h;go_wp2_with (go_at_call 247;refine (o9 _ _).mono ?_;rintro e w' ⟨rfl,rfl⟩);go_ret;refine ⟨iB ?_,u.out⟩
 .exact Wx a b j q v y
 .exact Ih a b j q
 .exact Xf a b
 .exact UA a b
 .exact Fr a b _
 all_goals rfl
def Pk (k:Nat) (v:k∈[25,27,26,28]) (a b:Int) (w:World) (C:-9223372036854775808<=a) (D:a<9223372036854775808) (E:-9223372036854775808<=b) (F:b<9223372036854775808):
    aG prog 248 #[.int .i64 k,.int .i64 a,.int .i64 b] w (.int .i64 (comp k a b)):=by
 unfold aG;have q:bits .and .i64 a 4294967295=a%4294967296:=(pA a 32 (by omega)).trans (by rw[show (2:Int)^32=4294967296 from by decide])
 have u:bits .and .i64 b 4294967295=b%4294967296:=(pA b 32 (by omega)).trans (by rw[show (2:Int)^32=4294967296 from by decide])
 have y:=aA (λ (w':World)=>BU (bP a) (bP b) (-2147483648) w')
 have A:=aA (λ (w':World)=>BH (a%4294967296) (b%4294967296) w' (by omega) (by omega) (by omega) (by omega))
 simp only[List.mem_cons,List.not_mem_nil,or_false]at v;rcases v with rfl|rfl|rfl|rfl
 all_goals
  go_in;go_wp2_with (go_at_call 247;refine (o9 _ _).mono ?_;rintro e w' ⟨rfl,rfl⟩)
  first
  | refine (y.out _).mono ?_
  | refine (A.out _).mono ?_
  rintro e G ⟨rfl,h⟩;have j:=aA h;clear h;go_wp2_with (go_at_call 247;refine (o9 _ _).mono ?_;rintro e w' ⟨rfl,rfl⟩);go_ret;refine ⟨iB ?_,j.out⟩
 .exact TP _ _
 .exact (congrArg bP (Fr _ _ _)).trans (RH a b)
 all_goals rfl
def Qi (k:Nat) (A:k∈[11,24,12,13,14,15,17,16,18,25,27,26,28]) (a b:Int) (w:World) (j:-9223372036854775808<=a) (q:a<9223372036854775808) (u:-9223372036854775808<=b) (v:b<9223372036854775808):
    aG prog 248 #[.int .i64 k,.int .i64 a,.int .i64 b] w (.int .i64 (comp k a b)):=by
 unfold aG;by_cases h:k∈[11,24]
 .exact QV k h a b w j q u v
 by_cases y:k∈[12,13,14,15,17,16,18]
 .exact PY k y a b w j q u v
 exact Pk k (by simp only[List.mem_cons,List.not_mem_nil,or_false]at A h y ⊢;omega) a b w j q u v
def SP (k:Nat) (q:k∈[11,24,12,13,14,15,17,16,18,25,27,26,28]) (a b:Int) (w:World) (v:-9223372036854775808<=a) (y:a<9223372036854775808) (A:-9223372036854775808<=b) (C:b<9223372036854775808):
    aG prog 217 #[.int .i64 k,.int .i64 a,.int .i64 b] w (.int .i64 (comp k a b)):=by
 unfold aG;have u:=aA (λ (w':World)=>Qi k q a b w' v y A C)
 simp only[List.mem_cons,List.not_mem_nil,or_false]at q;rcases q with rfl|rfl|rfl|rfl|rfl|rfl|rfl|rfl|rfl|rfl|rfl|rfl|rfl
 all_goals
  go_in;go_wp2_with (go_at_call 247;refine (o9 _ _).mono ?_;rintro e w' ⟨rfl,rfl⟩);refine zK (u.out _) λ D h=>?_;have j:=aA h;clear h;go_wp2_with (go_at_call 247;refine (o9 _ _).mono ?_;rintro e w' ⟨rfl,rfl⟩);go_ret;exact ⟨rfl,j.out⟩
def So (k:Nat) (v:k∈[1,29,2,6,32,9,33,10,34,19,38,20,3,35,8,37,7,36,21,39,22,40,23,41]) (a b:Int) (w:World) (D:-9223372036854775808<=a) (E:a<9223372036854775808) (G:-9223372036854775808<=b) (H:b<9223372036854775808):
    aG prog 217 #[.int .i64 k,.int .i64 a,.int .i64 b] w (.int .i64 (comp k a b)):=by
 unfold aG;have u:bits .and .i64 a 4294967295=a%4294967296:=(pA a 32 (by omega)).trans (by rw[show (2:Int)^32=4294967296 from by decide])
 have K:bits .and .i64 b 63=((b%64).toNat:Int):=(kK b 6 63 rfl (by decide)).trans (by have:(2:Int)^6=64:=(by decide);rw[this];omega)
 have F:(b%64).toNat<=63:=by omega
 generalize q:(b%64).toNat=j at *;have C:=(show Hid _ from q)
 clear q;have J:bits .and .i64 b 31=((b%32).toNat:Int):=(kK b 5 31 rfl (by decide)).trans (by have:(2:Int)^5=32:=(by decide);rw[this];omega)
 have I:(b%32).toNat<=31:=by omega
 generalize h:(b%32).toNat=i at *;have A:=(show Hid _ from h)
 clear h;have y:=aA (λ (w':World)=>PK a j w' D E F)
 simp only[List.mem_cons,List.not_mem_nil,or_false]at v;rcases v with rfl|rfl|rfl|rfl|rfl|rfl|rfl|rfl|rfl|rfl|rfl|rfl|rfl|rfl|rfl|rfl|rfl|rfl|rfl|rfl|rfl|rfl|rfl|rfl
 all_goals
  go_in;go_wp2_with (first|(go_at_call 247;refine (o9 _ _).mono ?_;rintro e w' ⟨rfl,rfl⟩)|(go_at_call 246;refine (y.out _).mono ?_;rintro e w' ⟨rfl,rfl⟩));go_ret;refine ⟨iB ?_,aU⟩;simp only[comp,C.out,A.out,aH,xA]
 all_goals rfl
def RJ (k:Nat) (j:k∈[4,30]) (a b:Int) (w:World) (u:-9223372036854775808<=a) (v:a<9223372036854775808) (y:-9223372036854775808<=b) (A:b<9223372036854775808):
    aG prog 217 #[.int .i64 k,.int .i64 a,.int .i64 b] w (.int .i64 (comp k a b)):=by
 unfold aG;have q:Hid (comp k a b=if a<b then 1 else 0):=aA (by
  simp only[List.mem_cons,List.not_mem_nil,or_false]at j;rcases j with rfl|rfl<;>(show mA (decide (a<b))=_;unfold mA;by_cases h:a<b<;>simp[h]))
 simp only[List.mem_cons,List.not_mem_nil,or_false]at j;by_cases h:a<b
 .rw[zt h]at q
  rcases j with rfl|rfl
  all_goals
   go_in;go_wp2;go_ret;exact ⟨by rw[q.out];rfl,aU⟩
 rw[aC h]at q;rcases j with rfl|rfl
 all_goals
  go_in;go_wp2;go_ret;exact ⟨by rw[q.out];rfl,aU⟩
def Rt (k:Nat) (h:k∈[5,31]) (a b:Int) (w:World) (u:-9223372036854775808<=a) (v:a<9223372036854775808) (y:-9223372036854775808<=b) (A:b<9223372036854775808):
    aG prog 217 #[.int .i64 k,.int .i64 a,.int .i64 b] w (.int .i64 (comp k a b)):=by
 unfold aG;have q:=aA (λ (w':World)=>xY a b w' u v y A)
 have j:Hid (comp k a b=mA (nt a b)):=aA (by
  simp only[List.mem_cons,List.not_mem_nil,or_false]at h;rcases h with rfl|rfl<;>rfl)
 simp only[List.mem_cons,List.not_mem_nil,or_false]at h;cases hu:nt a b
 all_goals
  rw[hu]at q j;clear hu;rcases h with rfl|rfl
  all_goals
   go_in;go_wp2_with (go_at_call 244;refine (q.out _).mono ?_;rintro e w' ⟨rfl,rfl⟩);go_ret;exact ⟨by rw[j.out];rfl,aU⟩
def CT (k:Nat) (C:1<=k) (D:k<=41) (a b:Int) (w:World) (h:-9223372036854775808<=a) (j:a<9223372036854775808) (q:-9223372036854775808<=b) (u:b<9223372036854775808):
    aG prog 217 #[.int .i64 k,.int .i64 a,.int .i64 b] w (.int .i64 (comp k a b)):=by
 unfold aG;by_cases v:k∈[11,24,12,13,14,15,17,16,18,25,27,26,28]
 .exact SP k v a b w h j q u
 by_cases y:k∈[1,29,2,6,32,9,33,10,34,19,38,20,3,35,8,37,7,36,21,39,22,40,23,41]
 .exact So k y a b w h j q u
 by_cases A:k∈[4,30]
 .exact RJ k A a b w h j q u
 exact Rt k (by simp only[List.mem_cons,List.not_mem_nil,or_false]at v y A ⊢;omega) a b w h j q u
