import Derived.Test.YtbmcofdodfcnnaaGreatDoorGZA
import Derived.Test.YtbmcofdodfcnnaaGreatDoorGUI
import Derived.Test.YtbmcofdodfcnnaaGreatDoorGRG
set_option linter.all false
set_option maxHeartbeats 0
set_option maxRecDepth 100000
namespace Go
open Proofs.Tryz RowKit
variable {T : TypeId} {mem regs : List Int} {pc r1 r2 imm n v : Int} {b k : Nat}
def nP (a n) (w) (q:0<=n) (u:n<=8):
    zS prog 178 #[.int .i64 a,.int .i64 n] w (.bool (bA a n)):=by
 unfold zS;by_cases h:0<=a
 .by_cases j:a<=4096-n
  .go_in
   go_wp2;go_ret;exact ⟨by simp[bA,h,j],rfl⟩
  go_in;go_wp2;go_ret;exact ⟨by simp[bA,h,j],rfl⟩
 go_in;go_wp2;go_ret;exact ⟨by simp[bA];omega,rfl⟩
def vF (b k:Nat) (v:Int) (w:World) (h:aK T b mem regs pc w) (u:k<32):
    Calls prog 176 #[.pointer (some ⟨b,0,none⟩),.int .i64 k,.int .i64 v] w λ e w'=>e=.returned (.tuple #[])/\aK T b mem (eC regs k v) pc w'/\aN b w w':=by
 by_cases q:k=0
 .subst q
  have j:=aA h;clear h;go_in;go_wp2;go_end0;exact ⟨rfl,j.out,aN.refl _ _⟩
 have y:=h.cellR k u;have A:=h.frozen;have C:¬((k:Int)=0):=by omega
 have j:=aA (h.setR k u v);clear h;go_in;go_wp2;go_end0;refine ⟨rfl,?_,aN.setCell _ _ _ _⟩;unfold eC;rw[aC q];exact j.out
def Sa (b) (r v) (w) (h:aK T b mem regs pc w):
    Calls prog 102 #[.pointer (some ⟨b,0,none⟩),.int .i64 r,.int .i64 v] w λ e w'=>e=.returned (.int .i64 (if fC r=true then 0 else 9))/\aK T b mem (if fC r=true then eC regs r.toNat v else regs) pc w'/\aN b w w':=by
 by_cases j:fC r=true
 .have q:0<=r/\r<=31:=by simpa[fC] using j
  obtain ⟨k,rfl⟩:=zi q.1;have F:=aA (vF b k v w h (by omega))
  have E:=aA j;clear h j;go_in;go_wp2_with fail;refine F.out.mono ?_;rintro e w' ⟨rfl,y,A⟩;have C:=aA y;have D:=aA A;clear y A;go_wp2;go_ret;exact ⟨rfl,C.out,D.out⟩
 have u:=aA h;have E:=aA j;have q:r<0\/31<r:=by simp[fC]at j;omega
 clear h j;rcases q with q|q
 .go_in
  go_wp2;go_ret;exact ⟨rfl,u.out,aN.refl _ _⟩
 have G:¬r<0:=by omega
 go_in;go_wp2;go_ret;exact ⟨rfl,u.out,aN.refl _ _⟩
def RZ (b) (r) (w) (h:aK T b mem regs pc w):
    zS prog 103 #[.pointer (some ⟨b,0,none⟩),.int .i64 r] w (.tuple #[.int .i64 (if fC r=true then regs.getD r.toNat 0 else 0),.int .i64 (if fC r=true then 0 else 9)]):=by
 unfold zS;by_cases j:fC r=true
 .have q:0<=r/\r<=31:=by simpa[fC] using j
  obtain ⟨k,rfl⟩:=zi q.1;have y:=h.cellR k (by omega)
  have u:=aA j;clear h j;go_in;go_wp2;go_ret2;exact ⟨rfl,rfl⟩
 have u:=aA j;have q:r<0\/31<r:=by simp[fC]at j;omega
 clear h j;rcases q with q|q
 .go_in
  go_wp2;go_ret2;exact ⟨rfl,rfl⟩
 have v:¬r<0:=by omega
 go_in;go_wp2;go_ret2;exact ⟨rfl,rfl⟩
def PT (b) (a) (w) (h:aK T b mem regs pc w):
    zS prog 106 #[.pointer (some ⟨b,0,none⟩),.int .i64 a] w (.tuple #[.int .i64 (if bA a 1=true then mem.getD a.toNat 0 else 0),.int .i64 (if bA a 1=true then 0 else 9)]):=by
 unfold zS;by_cases j:bA a 1=true
 .have q:0<=a/\a<=4095:=by simpa[bA] using j
  obtain ⟨k,rfl⟩:=zi q.1;have C:=h.cellM k (by omega)
  have A:0<=mem.getD k 0/\mem.getD k 0<256:=by
   (have u:k<mem.length:=by rw[h.mlen];omega);have:=h.byte (mem[k]) (List.getElem_mem u);rw[zG,zg u];exact this
  have v:=aA j;clear h j;rw[Int.toNat_natCast];generalize mem.getD k 0=x at *;go_in;go_wp2;go_ret2;exact ⟨rfl,rfl⟩
 have v:=aA j;have q:a<0\/4096<=a:=by simp[bA]at j;omega
 clear h j;rcases q with q|q
 .go_in
  go_wp2;go_ret2;exact ⟨rfl,rfl⟩
 have y:¬a<0:=by omega
 go_in;go_wp2;go_ret2;exact ⟨rfl,rfl⟩
def Qf (k) (v) (h:k<mem.length):(eI mem regs pc).set k (.int .u8 v)=eI (mem.set k v) regs pc:=by
 unfold eI;rw[List.set_append_left _ _ (by simpa using h),List.map_set]
def aK.setM {w:World} (h:aK T b mem regs pc w) (k) (q:k<4096) (v) (u:0<=v) (y:v<256):aK T b (mem.set k v) regs pc (w.setCell ⟨b,k,none⟩ (.int .u8 v)):=
 ⟨by rw[h.setCell,Qf k v (by rw[h.mlen];exact q)],by simpa using h.mlen,h.rlen,λ x hx=>by
  rcases List.mem_or_eq_of_mem_set hx with j|rfl
  .exact h.byte x j
  exact ⟨u,y⟩⟩
def O8 (mem) (k) (x) (h:k<mem.length):eH mem k [x]=mem.set k x.toNat:=by
 unfold eH;rw[List.set_eq_take_append_cons_drop,zt h];simp
def Dl (mem) (a) (l) (x) (h:a+l.length<mem.length):(eH mem a l).set (a+l.length) x.toNat=eH mem a (l++[x]):=by
 unfold eH;rw[List.set_append_right _ _ (by simp;omega)]
 have e:a+l.length-(mem.take a++l.map (λ b=>(b.toNat:Int))).length=0:=by simp;omega
 rw[e,List.drop_eq_getElem_cons h];simp[Nat.add_assoc]
def mm (a v:Int):Bool:=bA a 1&&(decide (0<=v)&&decide (v<=255))
def mn (mem:List Int) (a v:Int):List Int:=if mm a v=true then mem.set a.toNat v else mem
def O4 (b) (a v) (w) (h:aK T b mem regs pc w):
    Calls prog 105 #[.pointer (some ⟨b,0,none⟩),.int .i64 a,.int .i64 v] w λ e w'=>e=.returned (.int .i64 (if mm a v=true then 0 else 9))/\aK T b (mn mem a v) regs pc w'/\aN b w w':=by
 by_cases j:mm a v=true
 .have C:(0<=a/\a<=4095)/\0<=v/\v<=255:=by simpa[mm,bA] using j
  obtain ⟨⟨y,E⟩,A,G⟩:=C;obtain ⟨k,rfl⟩:=zi y;have L:=h.cellM k (by omega)
  have M:=h.frozen;have q:=aA (h.setM k (by omega) v A (by omega))
  have u:mn mem k v=mem.set k v:=by unfold mn;rw[zt j];rfl
  rw[u];have N:IntKind.u8.wrap v=v:=by rw[IntKind.wrap_u8];omega
  have F:v%256=v:=by omega
  have D:=aA j;clear h j u;go_in;go_wp2;go_ret;exact ⟨rfl,q.out,aN.setCell _ _ _ _⟩
 have q:=aA h;have u:mn mem a v=mem:=by unfold mn;rw[aC j]
 rw[u];have C:a<0\/4096<=a\/v<0\/255<v:=by simp[mm,bA]at j;omega
 clear h u;have D:=aA j;clear j;by_cases H:a<0
 .go_in
  go_wp2;go_ret;exact ⟨rfl,q.out,aN.refl _ _⟩
 by_cases I:4096<=a
 .go_in
  go_wp2;go_ret;exact ⟨rfl,q.out,aN.refl _ _⟩
 by_cases J:v<0
 .go_in
  go_wp2;go_ret;exact ⟨rfl,q.out,aN.refl _ _⟩
 have K:255<v:=by omega
 go_in;go_wp2;go_ret;exact ⟨rfl,q.out,aN.refl _ _⟩
def TQ:zeroCells171=(eI jm iQ 0).toArray:=by kernel_rfl
def S9 (s) (w) (J:s.size<=4096):
    Calls prog 101 #[.string s] w λ e w'=>e=.returned (.tuple #[.pointer (some ⟨w.heap.size,0,none⟩),.int .i64 0])/\aK 171 w.heap.size (eH jm 0 s.data.toList) iQ 0 w'/\Below w.heap.size w w':=by
 have q:Hid (aK 171 w.heap.size jm iQ 0 (w.alloc (.cells zeroCells171 171))):=
  aA ⟨by rw[heap_alloc_last,TQ],by simp[jm],by simp[iQ],by intro x hx;simp[jm]at hx;omega⟩
 have j:=aA ((Below.refl w.heap.size w).alloc zn (.cells zeroCells171 171));go_in;go_wp2_with fail;generalize w.alloc (.cells zeroCells171 171)=w0 at *;go_loopw [5] (λ i wr=>∃k:Nat,k<=s.size/\i=.int .i64 k/\aK 171 w.heap.size (eH jm 0 (s.data.toList.take k)) iQ 0 wr/\Below w.heap.size w wr) (λ i _=>s.size-(intOf i).toNat)
 case atStart=>exact ⟨0,by omega,rfl,by simpa[eH] using q.out,j.out⟩
 case round=>
  clear q j;obtain ⟨k,I,rfl,h,v⟩:=hrel;by_cases D:k<s.size
  .have F:(k:Int)<s.size:=by omega
   (have G:=h.cellM k (by omega));have H:=h.frozen;have hx:=s[k].toNat_lt;have C:(s.data.toList.take k).length=k:=by rw[List.length_take,<-Lib.size_eq];omega
   have u:Hid (aK 171 w.heap.size (eH jm 0 (s.data.toList.take (k+1))) iQ 0 (wr.setCell ⟨w.heap.size,k,none⟩ (.int .u8 s[k].toNat))):=aA (by
    (have:=h.setM k (by omega) (s[k].toNat) (by omega) (by omega));(rw[Cw s k D,<-Dl _ _ _ _ (by rw[C];simp[jm];omega),C,Nat.zero_add]);exact this)
   have y:=aA (v.setCell (p:=⟨w.heap.size,k,none⟩) zn (.int .u8 s[k].toNat));clear h v C;go_wp2_with fail;go_region;go_wp2;go_roundw;(case rel=>exact ⟨k+1,by omega,by go_num,⟨u.out.row,u.out.mlen,u.out.rlen,u.out.byte⟩,y.out.drew⟩);case measure=>simp[intOf];omega
  have A:k=s.size:=by omega
  subst A;rw[List.take_of_length_le (by rw[<-Lib.size_eq];omega)]at h
  have E:=aA h;have y:=aA v;clear h v;go_wp2;go_ret2;exact ⟨rfl,E.out,y.out⟩
def Sz (s) (w) (j:4096<s.size):
    zS prog 101 #[.string s] w (.tuple #[.pointer none,.int .i64 8]):=by
 unfold zS;have h:(4096:Int)<s.size:=by omega
 go_in;go_wp2;go_ret2;exact ⟨rfl,rfl⟩
def pZ (op:Int):Bool:=!(decide (op=46)||decide (op=47)||decide (op=48))
def yO (op) (w):zS prog 245 #[.int .i64 op] w (.tuple #[.int .i64 (bN op),.bool (pZ op)]):=by
 unfold zS;by_cases h:42<=op/\op<=52
 .have q:op=42\/op=43\/op=44\/op=45\/op=46\/op=47\/op=48\/op=49\/op=50\/op=51\/op=52:=by omega
  rcases q with rfl|rfl|rfl|rfl|rfl|rfl|rfl|rfl|rfl|rfl|rfl
  all_goals
   go_in;go_wp2;go_ret2;exact ⟨rfl,rfl⟩
 have j:Hid (bN op=8/\pZ op=true):=aA ⟨by unfold bN;rw[aC (by omega),aC (by omega),aC (by omega)],by unfold pZ;simp;omega⟩
 have u:(op==42)=false:=by simp;omega
 have v:(op==43)=false:=by simp;omega
 have y:(op==44)=false:=by simp;omega
 have A:(op==46)=false:=by simp;omega
 have C:(op==47)=false:=by simp;omega
 have D:(op==48)=false:=by simp;omega
 have E:(op==50)=false:=by simp;omega
 have F:(op==51)=false:=by simp;omega
 have G:(op==52)=false:=by simp;omega
 go_in;go_wp2;go_ret2;rw[j.out.1,j.out.2];exact ⟨rfl,rfl⟩
def OJ (o:Nat) (D:54<=o) (E:o<=59) (a b:Int) (w:World) (u:-9223372036854775808<=a) (v:a<9223372036854775808) (y:-9223372036854775808<=b) (A:b<9223372036854775808):
    zS prog 215 #[.int .i64 o,.int .i64 a,.int .i64 b] w (.bool (lP o a b)):=by
 unfold zS;have q:=aA (λ w'=>xY a b w' u v y A)
 have h:Hid (nt a b=lP 58 a b):=aA rfl
 have j:Hid ((!nt a b)=lP 59 a b):=aA (by
  show (!decide (a%18446744073709551616<b%18446744073709551616))=decide (IntKind.u64.wrap b<=IntKind.u64.wrap a);rw[lE,lE,<-decide_not];refine decide_eq_decide.2 ?_;omega)
 generalize nt a b=U at *;have C:o=54\/o=55\/o=56\/o=57\/o=58\/o=59:=by omega
 rcases C with rfl|rfl|rfl|rfl|rfl|rfl
 all_goals
  go_in;go_wp2_with (go_at_call 244;refine (q.out _).mono ?_;rintro e w' ⟨rfl,rfl⟩);go_ret;refine ⟨?_,rfl⟩
  first
  | exact congrArg (λ z=>Ending.returned (.bool z)) h.out
  | exact congrArg (λ z=>Ending.returned (.bool z)) j.out
  | (congr 2;first|done|simp[lP])
def WK (a) (h:a<18446744073709551616):a &&& 18446744073709551614=a-a%2:=by
 have j:(a &&& 18446744073709551614)/2=a/2 &&& 9223372036854775807:=Nat.and_div_two
 have q:a/2 &&& 9223372036854775807=a/2:=by
  have:=Nat.and_two_pow_sub_one_eq_mod (a/2) 63;rw[show (2:Nat)^63-1=9223372036854775807 from by decide,show (2:Nat)^63=9223372036854775808 from by decide]at this
  rw[this];omega
 have u:(a &&& 18446744073709551614)%2=0:=by
  have h:=Nat.and_mod_two_pow (a:=a) (b:=18446744073709551614) (n:=1);simp at h;omega
 omega
def X6 (a) (h:-9223372036854775808<=a) (j:a<9223372036854775808):bits .andNot .i64 a 1=a-a%2:=by
 show IntKind.i64.wrap (((BitVec.ofInt 64 a &&& ~~~ BitVec.ofInt 64 1).toNat:Nat):Int)=_;rw[BitVec.toNat_and,BitVec.toNat_not,BitVec.toNat_ofInt,BitVec.toNat_ofInt];have e:(2^64-1-((1:Int)%((2^64:Nat):Int)).toNat:Nat)=18446744073709551614:=by decide
 rw[e,WK _ (by omega),zo]
 omega
def Kh (b) (rd imm v) (w) (h:aK T b mem regs pc w) (u:IntKind.i64.wrap (pc+IntKind.i64.wrap (imm*4096))=v):
    aG prog 154 #[.pointer (some ⟨b,0,none⟩),(aE.mk 61 rd 0 0 imm).val] w (.int .i64 v):=by
 unfold aG;have y:=h.lt;have A:=h.cellP;have j:wrap64 (pc+wrap64 (imm*4096))=v:=by rw[aH,aH];exact u
 have q:wrap64 (wrap64 (imm*4096)+pc)=v:=by rw[Int.add_comm];exact j
 clear u;go_in;unfold aE.val;simp only;go_wp2;go_ret;exact ⟨iB (by first|exact q|exact j|trace_state),aJ⟩
def WW (b rd:Nat) (imm p v:Int) (w:World) (h:aK T b mem regs pc w) (X:rd<32) (Y:iL ⟨61,rd,0,0,imm⟩=.tuple #[dE 60,.bool true]) (J:fN (row 60).kind=7) (M:IntKind.i64.wrap (pc+IntKind.i64.wrap (imm*4096))=v):
    Calls prog 90 #[.pointer (some ⟨b,0,none⟩),(aE.mk 61 rd 0 0 imm).val,.int .i64 p] w λ e w'=>e=.returned (aO 0 0)/\aK T b mem (eC regs rd v) p w'/\aN b w w':=by
 have W:=h.lt;have y:=aA (λ w' (V:aK T b mem regs pc w')=>Kh b rd imm v w' V M)
 unfold aE.val at y;simp only at y;go_in;unfold aE.val;simp only;go_wp2_with fail;refine zK (iI (aE.mk 61 rd 0 0 imm) _) λ w1 C=>?_;have q:=(show Hid _ from (aV.new h [.int .i64 61,.int .i64 rd,.int .i64 0,.int .i64 0,.int .i64 imm] 26 56).next C)
 clear C;obtain ⟨N,O,P,Q⟩:=kt q.out.i.2.2;have K:=q.out.i.1;have L:=q.out.e.1;have Z:=q.out.m.cellR 0 (by decide)
 have mb:=q.out.m.lt;rw[Y];unfold dE bO;rw[J];go_wp2_with fail;go_quiet (fail);go_wp2_with fail;generalize H:World.drewN (w1.alloc _) nq=U;have j:aV T b mem regs pc w [.int .i64 61,.int .i64 rd,.int .i64 0,.int .i64 0,.int .i64 imm] U:=by rw[<-H];exact (q.out.alloc _).drewN nq
 clear H q N O P Q K L Z mb;obtain ⟨N,O,P,Q,i4⟩:=bF j.i.2.2;go_wp2_with fail;have u:=j
 go_region_held3 (λ w'=>w'.cell? ⟨w.heap.size,0,none⟩=some (.int .i64 61)/\w'.cell? ⟨w.heap.size,1,none⟩=some (.int .i64 rd)/\w'.cell? ⟨w.heap.size,2,none⟩=some (.int .i64 0)/\w'.cell? ⟨w.heap.size,3,none⟩=some (.int .i64 0)/\w'.cell? ⟨w.heap.size,4,none⟩=some (.int .i64 imm)) (go_keep)
  (first
   | (go_at_call 154;refine zK (y.out _ (aV.m (by first|exact j|exact aV.drewN j _|exact j.next (aU.drew)))) λ w' I=>?_;have u:=aV.next (by first|exact j|exact aV.drewN j _|exact j.next (aU.drew)) I;obtain ⟨q0,q1,q2,q3,q4⟩:=bF u.i.2.2)
   | (go_at_call 149;refine (mO b rd _ _ _ u.m X).mono ?_;rintro e w' ⟨rfl,G,F⟩;obtain ⟨E,A,D⟩:=kg u W G F;obtain ⟨q0,q1,q2,q3,q4⟩:=bF E.2.2;obtain ⟨f0,f1⟩:=bE A.2.2;have ff:=A.2.1;unfold aO))
 all_goals
  have R:=aA D;clear D E A G F;go_wp2;refine zp (v:=aO 0 0) (by simp[results,results90,go_sem,aO,f0,f1]) rfl ⟨rfl,?_⟩
  exact R.out _ _
def WZ (b) (p) (w) (h:aK T b mem regs pc w):
    Calls prog 90 #[.pointer (some ⟨b,0,none⟩),(aE.mk 63 0 0 0 0).val,.int .i64 p] w λ e w'=>e=.returned (aO 4 (regs.getD 17 0))/\aK T b mem regs p w'/\aN b w w':=by
 have G:=h.lt;have H:iL ⟨63,0,0,0,0⟩=.tuple #[dE 62,.bool true]:=rfl;have D:fN (row 62).kind=9:=by decide
 go_in;unfold aE.val;simp only;go_wp2_with fail;refine zK (iI (aE.mk 63 0 0 0 0) _) λ O u=>?_;have j:=(show Hid _ from (aV.new h [.int .i64 63,.int .i64 0,.int .i64 0,.int .i64 0,.int .i64 0] 26 56).next u)
 clear u;obtain ⟨I,J,K,L⟩:=kt j.out.i.2.2;have E:=j.out.i.1;have F:=j.out.e.1;have M:=j.out.m.cellR 0 (by decide)
 have N:=j.out.m.lt;rw[H];unfold dE bO;rw[D];go_wp2_with fail;go_quiet (fail);go_wp2_with fail;have q:∀o,aV T b mem regs pc w [.int .i64 63,.int .i64 0,.int .i64 0,.int .i64 0,.int .i64 0] ((O.alloc o).drewN nq):=λ o=>(j.out.alloc o).drewN nq
 clear j I J K L E F M N;refine (SV b p _ (q _).m).mono ?_;rintro e Q ⟨rfl,A,y⟩;have C:=aA (kg (q _) G A y);clear A y q;obtain ⟨f0,f1⟩:=bE C.out.2.1.2.2;have P:=C.out.2.1.2.1;unfold aO;go_wp2;refine zp (v:=aO 4 (regs.getD 17 0)) (by simp[results,results90,go_sem,aO,f0,f1]) rfl ⟨rfl,?_⟩
 exact C.out.2.2 _ _
def Xe (b r1 rd:Nat) (imm p ad:Int) (w:World) (h:aK T b mem regs pc w) (M:r1<32) (P:rd<32) (Q:iL ⟨49,rd,r1,0,imm⟩=.tuple #[dE 48,.bool true]) (F:fN (row 48).kind=4) (H:IntKind.i64.wrap (regs.getD r1 0+imm)=ad):
    Calls prog 90 #[.pointer (some ⟨b,0,none⟩),(aE.mk 49 rd r1 0 imm).val,.int .i64 p] w λ e w'=>e=.returned (aO 0 0)/\aK T b mem (eC regs rd p) (ad-ad%2) w'/\aN b w w':=by
 have O:=h.lt;go_in;unfold aE.val;simp only;go_wp2_with fail;refine zK (iI (aE.mk 49 rd r1 0 imm) _) λ w1 A=>?_;have j:=(show Hid _ from (aV.new h [.int .i64 49,.int .i64 rd,.int .i64 r1,.int .i64 0,.int .i64 imm] 26 56).next A)
 clear A;obtain ⟨R,U,V,W⟩:=kt j.out.i.2.2;have I:=j.out.i.1;have J:=j.out.e.1;have Y:=j.out.m.cellR r1 M;have Z:=j.out.m.cellR 0 (by decide)
 have mb:=j.out.m.lt;rw[Q];unfold dE bO;rw[F];generalize E:regs.getD r1 0=K at *;have L:=(show Hid _ from E)
 clear E;have X:=j.out.i.2.2 4 _ rfl;have hA2:wrap64 (K+imm)=ad:=(aH _).trans H;have y:=vj (K+imm);rw[H]at y;have N:=X6 ad y.1 y.2;clear H;go_wp2_with fail;go_quiet (fail);have q:=(j.out.alloc (.cells (bO 48).toArray 100)).drewN nq;unfold bO at q;rw[F]at q;have u:=(show Hid _ from q)
 clear j q;go_wp2_with fail;refine (mO b rd p (ad-ad%2) _ u.out.m P).mono ?_;rintro e w3 ⟨rfl,D,C⟩;have G:=aA (kg u.out O D C);clear D C u R U V W X I J Y Z mb;obtain ⟨f0,f1⟩:=bE G.out.2.1.2.2;have ff:=G.out.2.1.2.1;unfold aO;go_wp2;refine zp (v:=aO 0 0) (by simp[results,results90,go_sem,aO,f0,f1]) rfl ⟨rfl,?_⟩
 exact G.out.2.2 _ _
def Hx:∀k,k<59->53<=k->(row k).kind=66:=by decide
def S8 (q:(row k).kind=66) (j:k<64) {rd:Int} (h:right ⟨k+1,rd,r1,r2,imm⟩=true):rd=0/\(0<=r1/\r1<=31)/\(0<=r2/\r2<=31)/\-4096<=imm/\imm<=4095:=by
 rw[dJ k _ _ _ _ j,q]at h;simp[has,cK,bU,cW]at h;omega
def zj (j:(row k).kind=85\/(row k).kind=74) (q:k<64) {rd:Int} (h:right ⟨k+1,rd,r1,r2,imm⟩=true):(0<=rd/\rd<=31)/\r1=0/\r2=0/\-1048576<=imm/\imm<=1048576:=by
 rw[dJ k _ _ _ _ q]at h;rcases j with j|j
 all_goals
  rw[j]at h;simp[has,cK,bU,cW]at h;omega
def Fk (q:(row k).kind=78) (j:k<64) {rd:Int} (h:right ⟨k+1,rd,r1,r2,imm⟩=true):rd=0/\r1=0/\r2=0/\imm=0:=by
 rw[dJ k _ _ _ _ j,q]at h;simp[has,cK,bU,cW]at h;omega
def fJ (i:aE) (mem regs:List Int) (pc p:Int):(Int×Int)×List Int×List Int×Int:=
 let a:=regs.getD i.rs1.toNat 0
 let b:=regs.getD i.rs2.toNat 0
 let ad:=IntKind.i64.wrap (a+i.imm)
 let n:=bN i.op
 if i.op<=28 then ((0,0),mem,eC regs i.rd.toNat (comp i.op.toNat a b),p)
 else if i.op<=41 then ((0,0),mem,eC regs i.rd.toNat (comp i.op.toNat a i.imm),p)
 else if i.op=49 then ((0,0),mem,eC regs i.rd.toNat p,ad-ad%2)
 else if i.op<=53 then
  if bA ad n=false then ((3,ad),mem,regs,pc)
  else if i.op<=48 then ((0,0),mem,eC regs i.rd.toNat (ir i.op (bY mem ad.toNat n)),p)
  else ((0,0),eH mem ad.toNat (bR n b),regs,p)
 else if i.op<=59 then ((0,0),mem,regs,if lP i.op a b=true then IntKind.i64.wrap (pc+i.imm) else p)
 else if i.op=60 then ((0,0),mem,eC regs i.rd.toNat (IntKind.i64.wrap (i.imm*4096)),p)
 else if i.op=61 then ((0,0),mem,eC regs i.rd.toNat (IntKind.i64.wrap (pc+IntKind.i64.wrap (i.imm*4096))),p)
 else if i.op=62 then ((0,0),mem,eC regs i.rd.toNat p,IntKind.i64.wrap (pc+i.imm))
 else if i.op=63 then ((4,regs.getD 17 0),mem,regs,p)
 else ((5,pc),mem,regs,pc)
def jY (T:TypeId) (b:Nat) (r:(Int×Int)×List Int×List Int×Int) (w:World) (e:Ending) (w':World):Prop:=
 e=.returned (aO r.1.1 r.1.2)/\aK T b r.2.1 r.2.2.1 r.2.2.2 w'/\aN b w w'
def GK (b) (i) (p) (w) (h:aK T b mem regs pc w) (A:right i=true) (K:∀k,dH (regs.getD k 0)):
    Calls prog 90 #[.pointer (some ⟨b,0,none⟩),i.val,.int .i64 p] w (jY T b (fJ i mem regs pc p) w):=by
 obtain ⟨k,D,R⟩:=uK A;obtain ⟨op,rd,r1,r2,imm⟩:=i;simp only at R;subst R;have u:((k+1:Nat):Int)=(k:Int)+1:=by omega
 have U:((k:Int)+1).toNat=k+1:=by omega
 have E:=qr A;unfold jY fJ;simp only[U];by_cases Q:k<28
 .rw[zt (by omega)]
  obtain ⟨⟨v,H⟩,⟨C,M⟩,⟨F,I⟩,rfl⟩:=Tl (AR k Q) D A;obtain ⟨rd,rfl⟩:=zi v;obtain ⟨r1,rfl⟩:=zi C;obtain ⟨r2,rfl⟩:=zi F;have:=WQ b (k+1) r1 r2 rd p w h (by omega) (by omega) (by omega) (by omega) (by omega) (by rw[u];exact E) (by rw[Nat.add_sub_cancel,AR k Q];rfl) (K _) (K _)
  rw[u]at this;exact this
 rw[aC (by omega)]
 by_cases V:k<41
 .rw[zt (by omega)]
  have j:=GS k V (by omega)
  obtain ⟨⟨v,H⟩,⟨C,M⟩,rfl,F,I⟩:=zO (by rcases j with q|q|q<;>simp[q]) D A
  obtain ⟨rd,rfl⟩:=zi v;obtain ⟨r1,rfl⟩:=zi C;have:=Xq (fN (row k).kind) (by rcases j with q|q|q<;>rw[q]<;>simp[fN]) b (k+1) r1 rd imm p w h (by omega) (by omega) (by omega) (by omega) (by rw[u];exact E) (by rw[Nat.add_sub_cancel]) (K _) (by unfold dH;omega)
  rw[u]at this;exact this
 rw[aC (by omega)]
 by_cases W:k=48
 .subst W
  rw[zt (by omega)]
  obtain ⟨⟨v,H⟩,⟨C,M⟩,rfl,F,I⟩:=zO (k:=48) (.inr (.inr (.inr rfl))) D A;obtain ⟨rd,rfl⟩:=zi v;obtain ⟨r1,rfl⟩:=zi C;exact Xe b r1 rd imm p _ w h (by omega) (by omega) E (by decide) rfl
 rw[aC (by omega)]
 by_cases Z:k<53
 .rw[zt (by omega)]
  have hz:=mQ ((k:Int)+1);by_cases O:k<48
  .have j:=Aq k O (by omega)
   (obtain ⟨⟨v,H⟩,⟨C,M⟩,rfl,F,I⟩:=zO (by simp[j]) D A);obtain ⟨rd,rfl⟩:=zi v;obtain ⟨r1,rfl⟩:=zi C;simp only[Int.toNat_natCast];generalize N:IntKind.i64.wrap (regs.getD r1 0+imm)=ad;by_cases G:bA ad (bN ((k:Int)+1))=false
   .rw[zt G]
    have:=IU b (k+1) r1 rd imm p ad 3 ad w h (by omega) (by omega) (by rw[u];exact E) (by rw[Nat.add_sub_cancel,j];rfl) N
     (λ L y=>PG b _ ad p L y (by simp only[u];exact G))
    rw[u]at this;exact this
   (rw[aC G,zt (by omega)]);(have J:0<=ad/\ad<=4096-(bN ((k:Int)+1):Int):=by simpa[bA] using G);obtain ⟨a,rfl⟩:=zi J.1
   have:=IU b (k+1) r1 rd imm p a 0 0 w h (by omega) (by omega) (by rw[u];exact E) (by rw[Nat.add_sub_cancel,j];rfl) N
    (λ L y=>Rw b a (k+1) rd r1 0 imm p L y (by rw[u];omega) (by omega))
   rw[u]at this;exact this
  have j:=AN k (by omega) (by omega)
  obtain ⟨rfl,⟨v,H⟩,⟨C,M⟩,F,I⟩:=Sn j D A;obtain ⟨r1,rfl⟩:=zi v;obtain ⟨r2,rfl⟩:=zi C;simp only[Int.toNat_natCast];generalize N:IntKind.i64.wrap (regs.getD r1 0+imm)=ad;by_cases G:bA ad (bN ((k:Int)+1))=false
  .rw[zt G]
   have:=IP b (k+1) r1 r2 imm p ad 3 ad w h (by omega) (by omega) (by rw[u];exact E) (by rw[Nat.add_sub_cancel,j];rfl) N
    (λ L y=>Nv b _ ad p L y (by simp only[u];exact G))
   rw[u]at this;exact this
  rw[aC G,aC (by omega)]
  have J:0<=ad/\ad<=4096-(bN ((k:Int)+1):Int):=by simpa[bA] using G
  obtain ⟨a,rfl⟩:=zi J.1
  have:=IP b (k+1) r1 r2 imm p a 0 0 w h (by omega) (by omega) (by rw[u];exact E) (by rw[Nat.add_sub_cancel,j];rfl) N
   (λ L y=>QA b a (k+1) r2 r1 imm p L y (by rw[u];omega) (by omega))
  rw[u]at this;exact this
 rw[aC (by omega)]
 by_cases O:k<59
 .rw[zt (by omega)]
  have j:=Hx k O (by omega)
  obtain ⟨rfl,⟨v,H⟩,⟨C,M⟩,F,I⟩:=S8 j D A;obtain ⟨r1,rfl⟩:=zi v;obtain ⟨r2,rfl⟩:=zi C;simp only[Int.toNat_natCast];have:=Vm b (k+1) r1 r2 imm p _ w h (by omega) (by omega) (by omega) (by omega) (by rw[u];exact E) (by rw[Nat.add_sub_cancel,j];rfl) rfl _ rfl
  rw[u]at this;exact this
 rw[aC (by omega)]
 by_cases X:k=59
 .subst X
  rw[zt (by omega)]
  obtain ⟨⟨v,H⟩,rfl,rfl,F,I⟩:=zj (k:=59) (.inl rfl) D A;obtain ⟨rd,rfl⟩:=zi v;exact WU b rd imm p _ w h (by omega) E (by decide) rfl
 rw[aC (by omega)]
 by_cases Y:k=60
 .subst Y
  rw[zt (by omega)]
  obtain ⟨⟨v,H⟩,rfl,rfl,F,I⟩:=zj (k:=60) (.inl rfl) D A;obtain ⟨rd,rfl⟩:=zi v;exact WW b rd imm p _ w h (by omega) E (by decide) rfl
 rw[aC (by omega)]
 by_cases h8:k=61
 .subst h8
  rw[zt (by omega)]
  obtain ⟨⟨v,H⟩,rfl,rfl,F,I⟩:=zj (k:=61) (.inr rfl) D A;obtain ⟨rd,rfl⟩:=zi v;exact Xr b rd imm p _ w h (by omega) E (by decide) rfl
 rw[aC (by omega)]
 by_cases P:k=62
 .subst P
  rw[zt (by omega)]
  obtain ⟨rfl,rfl,rfl,rfl⟩:=Fk (k:=62) rfl D A;exact WZ b p w h
 have P:k=63:=by omega
 subst P;rw[aC (by omega)]
 obtain ⟨rfl,rfl,rfl,rfl⟩:=Fk (k:=63) rfl D A;exact WY b p w h
def eB (mem regs:List Int) (pc:Int):(Int×Int)×List Int×List Int×Int:=
 if bA pc 2=false then ((1,pc),mem,regs,pc)
 else if aP (cF mem pc.toNat 2)%4=3 then
  if bA pc 4=false then ((1,pc),mem,regs,pc)
  else if (bW (bY mem pc.toNat 4)).2=0 then fJ (bW (bY mem pc.toNat 4)).1 mem regs pc (pc+4)
  else ((2,bY mem pc.toNat 4),mem,regs,pc)
 else if (cE (bY mem pc.toNat 2)).2=0 then fJ (cE (bY mem pc.toNat 2)).1 mem regs pc (pc+2)
 else ((2,bY mem pc.toNat 2),mem,regs,pc)
def Fx (b a:Nat) (w:World) (h:aK T b mem regs (a:Int) w) (v:a+2<=4096) (q:aP (cF mem a 2)%4=3):
    zS prog 86 #[.pointer (some ⟨b,0,none⟩)] w (.int .i64 4):=by
 unfold zS;have y:=h.cellP;have A:bA (a:Int) 2=true:=by simp[bA];omega
 have j:=kM (cF mem a 2);rw[sX (by rw[h.mlen];omega)]at j
 have C:bits .and .i64 (bY mem a 2) 3=3:=by
  have u:bY mem a 2=aP (cF mem a 2):=by unfold bY;rw[zo];simp at j;omega
  rw[u];exact (kK _ 2 3 rfl (by decide)).trans (by simpa using q)
 clear j q;go_in
 go_wp2_with (first
  | (go_at_call 50;refine zk (nQ _ _ h) ?_)
  | (go_at_call 87;refine zk (iX _ _ _ _ (by decide) (by decide)) ?_)
  | (go_at_call 88;refine zk (ow _ a 2 _ h (by decide) (by decide) (by omega)) ?_))
 go_ret;exact ⟨rfl,rfl⟩
def QM (b) (w) (h:aK T b mem regs pc w) (q:bA pc 2=false):
    zS prog 86 #[.pointer (some ⟨b,0,none⟩)] w (.int .i64 2):=by
 unfold zS;have j:=h.cellP;go_in
 go_wp2_with (first
  | (go_at_call 50;refine zk (nQ _ _ h) ?_)
  | (go_at_call 87;refine zk (iX _ _ _ _ (by decide) (by decide)) ?_))
 go_ret;exact ⟨rfl,rfl⟩
def Cj (b) (n) (w) (h:aK T b mem regs pc w) (A:0<=n/\n<=8) (G:bA pc n=false) (q:∀y,aK T b mem regs pc y->Calls prog 86 #[.pointer (some ⟨b,0,none⟩)] y λ e w'=>e=.returned (.int .i64 n)/\w'=y):
    Calls prog 48 #[.pointer (some ⟨b,0,none⟩)] w λ e w'=>e=.returned (aO 1 pc)/\aK T b mem regs pc w'/\aN b w w':=by
 have E:=h.lt;have F:=h.cellP;have j:=aA (cS.new h 56);have u:=aA q;clear q;obtain ⟨e0,C⟩:=bE j.out.e.2.2;have D:=j.out.e.2.1;go_in
 go_wp2_with (first
  | (go_at_call 86;refine zk (u.out _ j.out.m) ?_)
  | (go_at_call 50;refine zk (nQ _ _ j.out.m) ?_)
  | (go_at_call 87;refine zk (iX _ _ _ _ A.1 A.2) ?_))
 refine zp (v:=aO 1 pc) (by simp[results,results48,go_sem,aO]) rfl ⟨rfl,h.alloc _,(aN.refl b w).alloc _⟩
def DX (b a n:Nat) (er:Int) (i:aE) (w:World) (h:aK T b mem regs (a:Int) w) (G:0<n/\n<=8) (N:a+n<=4096) (O:¬er=0) (D:∀y,aK T b mem regs (a:Int) y->Calls prog 86 #[.pointer (some ⟨b,0,none⟩)] y λ e w'=>e=.returned (.int .i64 n)/\w'=y) (F:∀y,Calls prog 89 #[.int .i64 (bY mem a n),.int .i64 n] y λ e w'=>e=.returned (.tuple #[i.val,.int .i64 er])/\Below y.heap.size y w'):
    Calls prog 48 #[.pointer (some ⟨b,0,none⟩)] w λ e w'=>e=.returned (aO 2 (bY mem a n))/\aK T b mem regs a w'/\aN b w w':=by
 have I:=h.lt;have P:bA (a:Int) n=true:=by simp[bA];omega
 have q:=aA (h.alloc (.cells #[.int .i64 0,.int .i64 0] 56));have J:=h.cellP;have A:=aA D;have u:=aA F;clear D F;obtain ⟨op,rd,rs1,rs2,imm⟩:=i;unfold aE.val at u;simp only at u;go_in
 go_wp2_with (first
  | (go_at_call 86;refine zk (A.out _ q.out) ?_)
  | (go_at_call 50;refine zk (nQ _ _ q.out) ?_)
  | (go_at_call 87;refine zk (iX _ _ _ _ (by omega) (by omega)) ?_)
  | (go_at_call 88;refine zk (ow _ a n _ q.out G.1 G.2 (by omega)) ?_))
 refine zK (u.out _) λ y C=>?_;have j:=aA ((cS.new h 56).next C);clear C J q u A;obtain ⟨e0,L⟩:=bE j.out.e.2.2;have M:=j.out.e.2.1;have K:=j.out.e.1;have E:=aA (cS.fin j.out I j.out.m (aN.refl b y)).2;have H:=aA (((j.out.e.set 0 (.int .i64 2) (by simp)).set 1 (.int .i64 (bY mem a n)) (by simp)).alloc (.cells #[.int .i64 op,.int .i64 rd,.int .i64 rs1,.int .i64 rs2,.int .i64 imm] 26))
 go_wp2_with fail;obtain ⟨c0,c1⟩:=bE H.out.2.2;refine zp (v:=aO 2 (bY mem a n)) (by simp[results,results48,go_sem,aO,c0,c1]) rfl ⟨rfl,(E.out _ _).1.alloc _,(E.out _ _).2.alloc _⟩
def CJ (h:(bW n).2=0):right (bW n).1=true:=(Ah h).2
def De (h:(cE n).2=0):right (cE n).1=true:=(H5 h).2
def EU (b) (w) (h:aK T b mem regs pc w) (A:∀k,dH (regs.getD k 0)):
    Calls prog 48 #[.pointer (some ⟨b,0,none⟩)] w (jY T b (eB mem regs pc) w):=by
 unfold eB;by_cases y:bA pc 2=false
 .rw[zt y]
  exact Cj b 2 w h (by omega) y (λ q j=>QM b q j y)
 rw[aC y];have D:0<=pc/\pc<=4096-2:=by simpa[bA] using y
 obtain ⟨a,rfl⟩:=zi D.1;simp only[Int.toNat_natCast];by_cases v:aP (cF mem a 2)%4=3
 .rw[zt v]
  by_cases C:bA (a:Int) 4=false
  .rw[zt C]
   exact Cj b 4 w h (by omega) C (λ q j=>Fx b a q j (by omega) v)
  rw[aC C];have E:(a:Int)<=4096-4:=by simpa[bA] using C
  by_cases u:(bW (bY mem a 4)).2=0
  .rw[zt u]
   exact N6 b a _ _ _ w h (by omega) v (Prod.ext rfl u) (λ q j=>GK b _ _ q j (CJ u) A)
  rw[aC u];exact DX b a 4 _ _ w h (by omega) (by omega) u (λ q j=>Fx b a q j (by omega) v) (λ q=>DM _ q)
 rw[aC v];by_cases u:(cE (bY mem a 2)).2=0
 .rw[zt u]
  exact N9 b a _ _ _ w h (by omega) v (Prod.ext rfl u) (λ q j=>GK b _ _ q j (De u) A)
 rw[aC u];exact DX b a 2 _ _ w h (by omega) (by omega) u (λ q j=>DN b a q j (by omega) v) (λ q=>DL _ q)
def sW (h:∀k,dH (regs.getD k 0)) (j) (q:dH v):∀k,dH ((eC regs j v).getD k 0):=λ k=>by
 unfold eC
 split
 .exact h k
 rw[zG];by_cases e:j=k
 .subst e
  rw[List.getElem?_set];simp only[if_true]
  split
  .exact q
  exact ⟨by decide,by decide⟩
 rw[List.getElem?_set_ne e,<-zG];exact h k
def sR (x):dH (IntKind.i64.wrap x):=vj x
def TJ {op:Int} (h:dH n):dH (ir op n):=by
 have h8:IntKind.i8.wrap n=IntKind.i64.wrap (IntKind.i8.wrap n):=by rw[<-aH];exact (J5 n).symm
 have j:IntKind.i16.wrap n=IntKind.i64.wrap (IntKind.i16.wrap n):=by rw[<-aH];exact (IM n).symm
 have q:IntKind.i32.wrap n=IntKind.i64.wrap (IntKind.i32.wrap n):=by rw[<-aH];exact (J2 n).symm
 unfold ir
 split
 .rw[h8];exact sR _
 split
 .rw[j];exact sR _
 split
 .rw[q];exact sR _
 exact h
def Tz {i:aE} {p:Int} (h:∀k,dH (regs.getD k 0)) (j:dH p):∀k,dH ((fJ i mem regs pc p).2.2.1.getD k 0):=by
 unfold fJ;simp only
 repeat' split
 all_goals first
 | exact h
 | exact sW h _ j
 | exact sW h _ (sR _)
 | exact sW h _ (VT _ (h _))
 | exact sW h _ (TJ (sR _))
def sS (h:∀k,dH (regs.getD k 0)):∀k,dH ((eB mem regs pc).2.2.1.getD k 0):=by
 unfold eB;by_cases j:bA pc 2=false
 .rw[zt j];exact h
 have q:0<=pc/\pc<=4096-2:=by simpa[bA] using j
 repeat' split
 all_goals first
 | exact h
 | exact Tz h (by unfold dH;omega)
def iP:Nat->Int->List Int->List Int->Int->((Int×Int)×Int)×List Int×List Int×Int
 | 0,d,mem,regs,pc=>(((0,0),d),mem,regs,pc)
 | k+1,d,mem,regs,pc=>
  if (eB mem regs pc).1.1=0 then iP k (d+1) (eB mem regs pc).2.1 (eB mem regs pc).2.2.1 (eB mem regs pc).2.2.2
  else (((eB mem regs pc).1,if (eB mem regs pc).1.1=4 then d+1 else d),(eB mem regs pc).2)
def mq (m:Int):Nat:=(min m 10000).toNat
def pT (T:TypeId) (b:Nat) (r:((Int×Int)×Int)×List Int×List Int×Int) (w:World) (e:Ending) (w':World):Prop:=
 e=.returned (.tuple #[aO r.1.1.1 r.1.1.2,.int .i64 r.1.2])/\aK T b r.2.1 r.2.2.1 r.2.2.2 w'/\aN b w w'
def Qv (b) (m) (w) (h:aK T b mem regs pc w) (I:∀k,dH (regs.getD k 0)):
    Calls prog 57 #[.pointer (some ⟨b,0,none⟩),.int .i64 m] w (pT T b (iP (mq m) 0 mem regs pc) w):=by
 have hb:=h.lt;have P:=aA (cS.new h 56);have aa:=aA (λ (mem regs:List Int) (pc:Int) (w:World) (h:aK T b mem regs pc w) (I:∀k,dH (regs.getD k 0))=>EU b w h I)
 have L:=aA I;clear I;go_in;go_wp2_with fail;have O:Hid (mq m=(min m 10000).toNat):=aA rfl;have ak:min m 10000<=10000:=Int.min_le_right _ _;generalize min m 10000=M at *;generalize ab:mq m=N at *;have HN:=aA O.out;clear ab O;go_loopw [6,10] (λ d i wr=>∃(k:Nat) (u q:List Int) (A:Int),k<=N/\d=.int .i64 k/\i=.int .i64 k/\cS T b u q A w wr/\Hid (∀j,dH (q.getD j 0))/\Hid (iP N 0 mem regs pc=iP (N-k) k u q A)) (λ _ i _=>N-(intOf i).toNat)
 case atStart=>exact ⟨0,mem,regs,pc,by omega,rfl,rfl,P.out,L,aA rfl⟩
 case round=>
  clear P L;obtain ⟨k,u,q,A,hk,rfl,rfl,Q,Y,W⟩:=hrel;have X:=aA Q;have hn:=HN.out;by_cases al:(k:Int)<M
  .have U:k<N:=by omega
   have C:Hid (iP N 0 mem regs pc=if (eB u q A).1.1=0 then iP (N-(k+1)) ((k:Int)+1) (eB u q A).2.1 (eB u q A).2.2.1 (eB u q A).2.2.2 else (((eB u q A).1,if (eB u q A).1.1=4 then (k:Int)+1 else k),(eB u q A).2)):=aA (by
    rw[W.out,show N-k=(N-(k+1))+1 from by omega];rfl)
   have D:=aA (aa.out u q A wr Q.m Y.out);have K:=aA (sS (mem:=u) (pc:=A) Y.out);clear W Y Q hn;generalize eB u q A=R at *;obtain ⟨⟨x,y⟩,mem1,F,V⟩:=R;simp only at C K;unfold jY at D;simp only at D;go_wp2_with fail;refine D.out.mono ?_;rintro e w1 ⟨rfl,E,H⟩;(have Z:=aA ((cS.mk E (X.out.e.kept H (by omega)) (X.out.k.trans H):cS T b mem1 F V w w1)));have G:=aA (cS.fin X.out hb E H);clear E H D;unfold aO;by_cases hx:x=0
   .subst hx
    rw[zt rfl]at C;go_wp2;go_roundw;(case rel=>exact ⟨k+1,mem1,F,V,by omega,by go_num,by go_num,Z.out.alloc _,K,C⟩);case measure=>simp[intOf];omega
   obtain ⟨f0,f1⟩:=bE G.out.1.2.2;have ff:=G.out.1.2.1;have fs:=G.out.1.1;rw[aC hx]at C;by_cases J:x=4
   .subst J
    rw[zt rfl]at C;go_wp2;(refine zp (v:=.tuple #[aO 4 y,.int .i64 ((k:Int)+1)]) (by simp[results,results57,go_sem,aO,f0,f1,fs]) rfl ?_);unfold pT;rw[C.out];obtain ⟨q1,q2⟩:=G.out.2 (.int .i64 4) (.int .i64 y);exact ⟨rfl,q1.alloc _,q2.alloc _⟩
   rw[aC J]at C;(have b0:(x==0)=false:=by simpa using hx);(have b4:(x==4)=false:=by simpa using J);(have b1:(x != 0)=true:=by simpa using hx);go_wp2;(refine zp (v:=.tuple #[aO x y,.int .i64 k]) (by simp[results,results57,go_sem,aO,f0,f1,fs]) rfl ?_);unfold pT;rw[C.out];obtain ⟨q1,q2⟩:=G.out.2 (.int .i64 x) (.int .i64 y);exact ⟨rfl,q1.alloc _,q2.alloc _⟩
  have U:k=N:=by omega
  subst U;have C:Hid (iP k 0 mem regs pc=(((0,0),(k:Int)),u,q,A)):=aA (by rw[W.out,Nat.sub_self];rfl)
  have G:=aA (cS.fin X.out hb Q.m (aN.refl b wr));obtain ⟨f0,f1⟩:=bE G.out.1.2.2;have ff:=G.out.1.2.1;clear Q W hn;go_wp2;refine zp (v:=.tuple #[aO 0 0,.int .i64 k]) (by simp[results,results57,go_sem,aO,f0,f1]) rfl ?_
  unfold pT;rw[C.out];exact ⟨rfl,G.out.2 _ _⟩
