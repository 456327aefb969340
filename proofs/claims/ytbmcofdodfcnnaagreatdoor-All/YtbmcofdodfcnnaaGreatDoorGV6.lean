import Derived.Laws.IdiomStrings
import Derived.Deep.RegionHeld3
import Derived.Laws.BytesArg
import Derived.Lib.QuietBelow
import Derived.Test.YtbmcofdodfcnnaaGreatDoorShelf
import Derived.Test.YtbmcofdodfcnnaaGreatDoorGV
set_option linter.all false
set_option maxHeartbeats 0
set_option maxRecDepth 100000
namespace Go
open Proofs.Tryz RowKit
variable {T : TypeId} {mem regs : List Int} {pc : Int} {w w0 w' : World} {base b cap : Nat} {vs i : List Value}
def fC (r:Int):Bool:=decide (0<=r)&&decide (r<=31)
def bA (a n:Int):Bool:=decide (0<=a)&&decide (a<=4096-n)
def th (b) (r) (w):
    zS prog 84 #[.pointer (some ⟨b,0,none⟩),.int .i64 r] w (.bool (fC r)):=by
 unfold zS;by_cases h:0<=r
 .by_cases j:r<=31
  .go_in
   go_wp2;go_ret;exact ⟨by simp[fC,h,j],rfl⟩
  go_in;go_wp2;go_ret;exact ⟨by simp[fC,h,j],rfl⟩
 go_in;go_wp2;go_ret;exact ⟨by simp[fC];omega,rfl⟩
def iX (b) (a n) (w) (q:0<=n) (u:n<=8):
    zS prog 87 #[.pointer (some ⟨b,0,none⟩),.int .i64 a,.int .i64 n] w (.bool (bA a n)):=by
 unfold zS;by_cases h:0<=a
 .by_cases j:a<=4096-n
  .go_in
   go_wp2;go_ret;exact ⟨by simp[bA,h,j],rfl⟩
  go_in;go_wp2;go_ret;exact ⟨by simp[bA,h,j],rfl⟩
 go_in;go_wp2;go_ret;exact ⟨by simp[bA];omega,rfl⟩
def mI (b) (w):
    zS prog 46 #[.pointer (some ⟨b,0,none⟩)] w (.pointer (some ⟨b,0,none⟩)):=by
 unfold zS;go_in;go_wp2;go_ret;exact ⟨rfl,rfl⟩
def I7 (b) (v) (w):
    zS prog 85 #[.pointer (some ⟨b,0,none⟩),.int .i64 0,.int .i64 v] w (.tuple #[]):=by
 unfold zS;go_in;go_wp2;go_end0;exact ⟨rfl,rfl⟩
def I6 (b:Nat) (k:Nat) (v:Int) (w:World) (h:aK T b mem regs pc w) (A:0<k) (j:k<32):
    Calls prog 85 #[.pointer (some ⟨b,0,none⟩),.int .i64 k,.int .i64 v] w λ e w'=>e=.returned (.tuple #[])/\w'=w.setCell ⟨b,4096+k,none⟩ (.int .i64 v):=by
 have q:=h.cellR k j;have u:=h.frozen;have y:¬((k:Int)=0):=by omega
 go_in;go_wp2;go_end0;exact ⟨rfl,rfl⟩
def aH (n):wrap64 n=IntKind.i64.wrap n:=by rw[zo];unfold wrap64;rfl
def Cw (s:ByteArray) (k:Nat) (h:k<s.size):s.data.toList.take (k+1)=s.data.toList.take k++[s[k]]:=by
 rw[List.take_succ_eq_append_getElem (by simpa using h)];rfl
def Dq (s) (w) (C:s.size<=8):
    zS prog 148 #[.string s] w (.int .i64 (IntKind.i64.wrap (aP s.data.toList))):=by
 unfold zS;go_in;go_wp2;go_loop [3,7] (λ n i=>∃k:Nat,k<=s.size/\i=.int .i64 k/\n=.int .i64 (IntKind.i64.wrap (aP (s.data.toList.take k)))) (λ _ i=>s.size-(intOf i).toNat)
 case atStart=>exact ⟨0,Nat.zero_le _,rfl,rfl⟩
 case round=>
  obtain ⟨k,A,rfl,rfl⟩:=hrel;have q:(s.data.toList.take k).length=k:=by rw[List.length_take,<-Lib.size_eq];omega
  by_cases j:k<s.size
  .have h:=kM (s.data.toList.take k)
   rw[q]at h;have y:=s[k].toNat_lt;have v:Hid (aP (s.data.toList.take (k+1))=aP (s.data.toList.take k)+s[k].toNat*2^(8*k)):=by rw[Cw s k j,MU,q];exact rfl
   have u:Hid (aT (IntKind.i64.wrap (aP (s.data.toList.take k))) (IntKind.i64.wrap (s[k].toNat*2^(8*k)))=IntKind.i64.wrap (aP (s.data.toList.take k)+s[k].toNat*2^(8*k))):=
    PU _ _ k (by omega) h.1 h.2 (by omega) (by omega)
   clear h;generalize IntKind.i64.wrap (aP (s.data.toList.take k))=x at *;go_wp2;go_round
   case rel=>
    (refine ⟨k+1,by omega,by go_num,?_⟩);rw[v.out,<-u.out];exact congrArg (λ z=>Value.int .i64 (aT x z)) (aH _)
   case measure=>simp[intOf];omega
  go_wp2;go_ret;exact ⟨by rw[List.take_of_length_le (by rw[<-Lib.size_eq];omega)];rfl,rfl⟩
def Hb (x:Int) (k:Nat):x/256^(k+1)=x/256^k/256:=by rw[Int.pow_succ,Int.ediv_ediv_of_nonneg (Int.le_of_lt (Int.pow_pos (by decide)))]
def Tryz.infoByte:(prog.info? 5).map (λ i=>(i.zero,i.size,i.bytes))=some (some (.int .u8 0),1,1):=by kernel_rfl
def JJ (l) (b):Lib.byteCells (l++[b])=Lib.byteCells l++[.int .u8 b.toNat]:=by simp[Lib.byteCells]
def OY {v:Value} {l:List UInt8} (h:w.ownsRow base 5 1 v l.length (Lib.byteCells l)):(convert 65 9 v).run prog w=.ok (.string ⟨l.toArray⟩) w:=by
 have u:=h;obtain ⟨D,⟨rfl,y⟩|⟨g,cap,q,rfl,G,F,E⟩⟩:=h
 .have C:l=[]:=List.eq_nil_of_length_eq_zero (by simpa using y)
  subst C;exact run_convert_bytes_nil w 65 5 underlying65 underlying5 0 0 _ underlying9
 refine run_convert_bytes_back w _ _ 5 _ _ _ underlying65 underlying5 underlying9 (λ j A=>u.cells rfl j _ (by simp[Lib.byteCells,A]))
def pD (x:Int) (n:Nat) (w:World) (O:n<=8):
    aG prog 195 #[.int .i64 x,.int .i64 n] w (.string ⟨(bR n x).toArray⟩):=by
 unfold aG;obtain ⟨L,hi,F,G,H⟩:=info_parts Tryz.infoByte;go_in;go_wp2;go_loopw [0,5,7] (λ m v i wr=>∃k:Nat,k<=n/\i=.int .i64 k/\m=.int .i64 (x/256^k)/\wr.ownsRow w.heap.size 5 1 v k (Lib.byteCells (bR k x))/\Below w.heap.size w wr) (λ _ _ i _=>n-(intOf i).toNat)
 case atStart=>exact ⟨0,Nat.zero_le _,rfl,by simp,World.ownsRow_nil _ _ _ _,aU⟩
 case round=>
  obtain ⟨k,N,rfl,rfl,h,A⟩:=hrel;by_cases K:k<n
  .go_wp2_with (first
    | (at_builtin;refine wpList_append_own _ rfl _ _ 65 rfl w.heap.size 5 L (.int .u8 0) 1 1 underlying65 hi F G H rfl (by decide) _ _ _ rfl (h.alloc _) ⟨wr.heap.size,0,none⟩ 1 1 [.int .u8 ((x/256^k)%256)] rfl rfl ?c1 ?c2 ?c3 ?c4 ?c5 ?_)
    | go_in)
   case c1=>
    intro j u C
    match j,C with
    | 0,C=>simp at C;subst C;simp[Addr.add]
   (case c2=>intro u I;simp at I;subst I;rfl);(case c3=>unfold maxLen;omega);(case c4=>omega);(case c5=>have:=A.size;simp;omega);intro P M y q _;(have D:Below w.heap.size w M:=(A.alloc A.size _).grown q (by have:=A.size;simp;omega) (λ j C=>(h.lt j C).1));clear q h A;go_wp2;go_roundw;(case rel=>exact ⟨k+1,by omega,by go_num,by rw[Hb],by rw[tZ,JJ,FQ];exact y,D⟩);case measure=>simp[intOf];omega
  have E:k=n:=by omega
  subst E;have J:=OY (l:=bR k x) (by rw[kw];exact h)
  go_wp2;go_ret;exact ⟨rfl,A⟩
def iB {k:IntKind} {a b:Int} (h:a=b):Ending.returned (.int k a)=.returned (.int k b):=by rw[h]
def cF (mem:List Int) (a n:Nat):List UInt8:=((mem.drop a).take n).map λ x=>UInt8.ofNat x.toNat
def bY (mem:List Int) (a n:Nat):Int:=IntKind.i64.wrap (aP (cF mem a n))
def sX {a n:Nat} (h:a+n<=mem.length):(cF mem a n).length=n:=by simp[cF];omega
def VY (b a n:Nat) (w:World) (C:0<n) (A:a+n<=4096):
    (Instr.sliceAt 87 (.pointer (some ⟨b,0,none⟩)) (some (.int .i64 a)) (some (.int .i64 (a+n))) none).run prog w=.ok (.slice (some ⟨b,a,none⟩) n (4096-a)) w:=by
 have j:(0:Int)<=(a:Int)+n:=by omega
 have q:(a:Int)+n<=4096:=by omega
 have u:((a:Int)+n).toNat=a+n:=by omega
 have v:¬4096=a:=by omega
 have y:(Instr.sliceBound (.int .i64 a) (a+n) .sliceB).run prog w=.ok a w:=by simp[Instr.sliceBound,asIntOf];intro h;omega
 simp[Instr.sliceAt,Instr.sureAddr,run_underlying underlying87,Instr.sliceBounds,run_sliceBound,j,q,u,v,y,Addr.add];intro h;exact h.symm
def WN (b a:Nat) (w:World) (u:a<4096):
    (Instr.sliceAt 87 (.pointer (some ⟨b,0,none⟩)) (some (.int .i64 a)) none none).run prog w=.ok (.slice (some ⟨b,a,none⟩) (4096-a) (4096-a)) w:=by
 have j:(a:Int)<=4096:=by omega
 have q:¬4096=a:=by omega
 simp[Instr.sliceAt,Instr.sureAddr,run_underlying underlying87,Instr.sliceBounds,run_sliceBound,j,q,Addr.add];intro h;exact h.symm
def ow (b:Nat) (a n:Nat) (w:World) (h:aK T b mem regs pc w) (y:0<n) (C:n<=8) (u:a+n<=4096):
    zS prog 88 #[.pointer (some ⟨b,0,none⟩),.int .i64 a,.int .i64 n] w (.int .i64 (bY mem a n)):=by
 unfold zS;have A:(convert 65 9 (.slice (some ⟨b,a,none⟩) n (4096-a))).run prog w=.ok (.string (strOfNums ((mem.drop a).take n))) w:=
  run_convert_bytes_arg w _ 5 underlying65 underlying5 b a n _ _ (by simp[h.mlen];omega) (λ i hi=>by rw[h.cellM (a+i) (by omega)];simp[List.getD,hi]) _ underlying9
 have D:=VY b a n w y u;have j:Hid ((strOfNums ((mem.drop a).take n)).data.toList=cF mem a n):=show _=_ from (by simp[strOfNums,cF])
 have v:Hid ((strOfNums ((mem.drop a).take n)).size<=8):=show _<=_ from (by rw[Lib.size_eq,j.out,sX (by rw[h.mlen];exact u)];exact C)
 generalize strOfNums ((mem.drop a).take n)=q at *;go_in;go_wp2_with (go_at_call 148;refine zk (Dq _ _ v.out) ?_);go_ret;exact ⟨iB (by unfold bY;rw[j.out,<-aH]),rfl⟩
def H6 (b) (r v) (w) (h:aK T b mem regs pc w):
    Calls prog 47 #[.pointer (some ⟨b,0,none⟩),.int .i64 r,.int .i64 v] w λ e w'=>e=.returned (.int .i64 (if fC r=true then 0 else 9))/\w'=(if fC r=true/\r≠0 then w.setCell ⟨b,4096+r.toNat,none⟩ (.int .i64 v) else w):=by
 by_cases j:fC r=true
 .have y:0<=r/\r<=31:=by simpa[fC] using j
  obtain ⟨k,rfl⟩:=zi y.1;by_cases q:k=0
  .subst q
   go_in;go_wp2_with (first|(go_at_call 84;refine zk (th _ _ _) ?_)|(go_at_call 85;refine zk (I7 _ _ _) ?_));go_ret;exact ⟨rfl,by simp⟩
  go_in;go_wp2_with (first|(go_at_call 84;refine zk (th _ _ _) ?_)|(go_at_call 85;refine zk (I6 _ k _ _ h (by omega) (by omega)) ?_))
  go_ret;exact ⟨rfl,rfl⟩
 have u:fC r=false:=by simpa using j
 go_in;go_wp2_with (go_at_call 84;refine zk (th _ _ _) ?_);go_ret;exact ⟨rfl,rfl⟩
def H4 (b) (r) (w) (h:aK T b mem regs pc w):
    zS prog 49 #[.pointer (some ⟨b,0,none⟩),.int .i64 r] w (if fC r=true then .tuple #[.int .i64 (regs.getD r.toNat 0),.int .i64 0] else .tuple #[.int .i64 0,.int .i64 9]):=by
 unfold zS;by_cases j:fC r=true
 .have u:0<=r/\r<=31:=by simpa[fC] using j
  obtain ⟨k,rfl⟩:=zi u.1;have v:=h.cellR k (by omega)
  go_in;go_wp2_with (go_at_call 84;refine zk (th _ _ _) ?_);go_ret2;exact ⟨rfl,rfl⟩
 have q:fC r=false:=by simpa using j
 go_in;go_wp2_with (go_at_call 84;refine zk (th _ _ _) ?_);go_ret2;exact ⟨rfl,rfl⟩
def Gu (b) (a) (w) (h:aK T b mem regs pc w):
    zS prog 51 #[.pointer (some ⟨b,0,none⟩),.int .i64 a] w (if bA a 1=true then .tuple #[.int .i64 (mem.getD a.toNat 0),.int .i64 0] else .tuple #[.int .i64 0,.int .i64 9]):=by
 unfold zS;by_cases q:bA a 1=true
 .have D:0<=a/\a<=4095:=by simpa[bA] using q
  obtain ⟨k,rfl⟩:=zi D.1
  have u:Hid (bY mem k 1=mem.getD k 0):=show _=_ from (by
   unfold bY;(have j:k<mem.length:=by rw[h.mlen];omega);have E:=h.byte (mem[k]) (List.getElem_mem j)
   have v:cF mem k 1=[UInt8.ofNat (mem[k]).toNat]:=by
    simp[cF,List.take_one,j]
   rw[v];(have y:(UInt8.ofNat (mem[k]).toNat).toNat=(mem[k]).toNat:=by rw[UInt8.toNat_ofNat'];exact Nat.mod_eq_of_lt (by omega));(have A:mem.getD k 0=mem[k]:=by simp[List.getD,j]);simp only[aP,y,zo,A];omega)
  go_in;go_wp2_with (first|(go_at_call 87;refine zk (iX _ _ _ _ (by decide) (by decide)) ?_)|(go_at_call 88;refine zk (ow _ k 1 _ h (by decide) (by decide) (by omega)) ?_))
  go_ret2;exact ⟨by rw[u.out];rfl,rfl⟩
 have C:bA a 1=false:=by simpa using q
 go_in;go_wp2_with (go_at_call 87;refine zk (iX _ _ _ _ (by decide) (by decide)) ?_)
 go_ret2;exact ⟨rfl,rfl⟩
def nQ (b) (w) (h:aK T b mem regs pc w):
    zS prog 50 #[.pointer (some ⟨b,0,none⟩)] w (.int .i64 pc):=by
 unfold zS;have j:=h.cellP;go_in;go_wp2;go_ret;exact ⟨rfl,rfl⟩
def mY (a b:Int):Int:=if a<0 then b else 0
def mA (t:Bool):Int:=if t=true then 1 else 0
def SI (a b):wrap64 (IntKind.u64.wrap ((IntKind.u64.wrap a).tdiv (IntKind.u64.wrap b)))=IntKind.i64.wrap (a%18446744073709551616/(b%18446744073709551616)):=by
 rw[aH,lE a,lE b,Int.tdiv_eq_ediv_of_nonneg (by omega),lE,zo,zo]
 omega
def S5 (a b):wrap64 ((IntKind.u64.wrap a).tmod (IntKind.u64.wrap b))=IntKind.i64.wrap (a%18446744073709551616%(b%18446744073709551616)):=by
 rw[aH,lE a,lE b,Int.tmod_eq_emod_of_nonneg (by omega)]
def Mx (n):wrap32 n=IntKind.i32.wrap n:=by rw[IntKind.wrap_i32];unfold wrap32;rfl
def J8 (a b) (w):zS prog 235 #[.int .i64 a,.int .i64 b] w (.int .i64 (lQ a b)):=by
 unfold zS;by_cases h:b=0
 .subst h
  go_in;go_wp2;go_ret;exact ⟨rfl,rfl⟩
 go_in;go_wp2;go_ret;exact ⟨iB (by simp only[lQ,aC h];exact aH _),rfl⟩
def Jc (a b) (w):zS prog 237 #[.int .i64 a,.int .i64 b] w (.int .i64 (ms a b)):=by
 unfold zS;by_cases h:b=0
 .subst h
  go_in;go_wp2;go_ret;exact ⟨rfl,rfl⟩
 go_in;go_wp2;go_ret;exact ⟨iB (by simp only[ms,aC h]),rfl⟩
def Jb (a b) (w) (j:-9223372036854775808<=b) (q:b<9223372036854775808):zS prog 236 #[.int .i64 a,.int .i64 b] w (.int .i64 (lI a b)):=by
 unfold zS;by_cases h:b=0
 .subst h
  go_in;go_wp2;go_ret;exact ⟨rfl,rfl⟩
 have u:¬IntKind.u64.wrap b=0:=by rw[lE];have:=ID b j q h;omega
 go_in;go_wp2;go_ret;exact ⟨iB (by simp only[lI,aC h];exact SI a b),rfl⟩
def J6 (a b) (w) (j:-9223372036854775808<=b) (q:b<9223372036854775808):zS prog 238 #[.int .i64 a,.int .i64 b] w (.int .i64 (lJ a b)):=by
 unfold zS;by_cases h:b=0
 .subst h
  go_in;go_wp2;go_ret;exact ⟨rfl,rfl⟩
 have u:¬IntKind.u64.wrap b=0:=by rw[lE];have:=ID b j q h;omega
 go_in;go_wp2;go_ret;exact ⟨iB (by simp only[lJ,aC h];exact S5 a b),rfl⟩
def M9 (a) (w):zS prog 265 #[.int .i64 a] w (.int .i64 (bP a)):=by
 unfold zS;go_in;go_wp2;go_ret;exact ⟨iB (by rw[aH,Mx];have:=TL a;unfold bP at *;rw[zo];omega),rfl⟩
def Ks (a) (w):zS prog 266 #[.int .i64 a] w (.int .i64 (a%4294967296)):=by
 unfold zS;go_in;go_wp2;go_ret;exact ⟨rfl,rfl⟩
def JD (a b) (w):zS prog 234 #[.int .i64 a,.int .i64 b] w (.int .i64 (mY a b)):=by
 unfold zS;by_cases h:a<0
 all_goals
  go_in;go_wp2;go_ret;exact ⟨iB (by unfold mY;first|(rw[zt (by assumption)];done)|(rw[aC (by omega)];done)),rfl⟩
def JI (t) (w):zS prog 200 #[.bool t] w (.int .i64 (mA t)):=by
 unfold zS
 cases t
 all_goals
  go_in;go_wp2;go_ret;exact ⟨rfl,rfl⟩
def KH (a b) (w):
    zS prog 233 #[.int .i64 a,.int .i64 b] w (.int .i64 (mw a b)):=by
 unfold zS;obtain ⟨x,hx⟩:=zi (show 0<=a%18446744073709551616 by omega)
 obtain ⟨y,hy⟩:=zi (show 0<=b%18446744073709551616 by omega)
 have h:IntKind.u64.wrap a=(x:Int):=by rw[lE,hx]
 have j:IntKind.u64.wrap b=(y:Int):=by rw[lE,hy]
 go_in;go_wp2_with (go_at_call 264;refine zk (bits_Mul64 x y (by omega) (by omega) _) ?_)
 go_ret;exact ⟨iB (by rw[aH];unfold mw;rw[hx,hy]),rfl⟩
def comp (op:Nat) (a b:Int):Int:=match op with
 | 1=>IntKind.i64.wrap (a+b)
 | 2=>IntKind.i64.wrap (a-b)
 | 3=>IntKind.i64.wrap (a*2^(b%64).toNat)
 | 4=>mA (decide (a<b))
 | 5=>mA (decide (a%18446744073709551616<b%18446744073709551616))
 | 6=>bits .xor .i64 a b
 | 7=>IntKind.i64.wrap (a%18446744073709551616/2^(b%64).toNat)
 | 8=>a/2^(b%64).toNat
 | 9=>aT a b
 | 10=>eO a b
 | 11=>IntKind.i64.wrap (a*b)
 | 12=>IntKind.i64.wrap (IntKind.i64.wrap (mw a b-mY a b)-mY b a)
 | 13=>IntKind.i64.wrap (mw a b-mY a b)
 | 14=>mw a b
 | 15=>lQ a b
 | 16=>lI a b
 | 17=>ms a b
 | 18=>lJ a b
 | 19=>bP (a+b)
 | 20=>bP (a-b)
 | 21=>bP (a*2^(b%32).toNat)
 | 22=>bP (a%4294967296/2^(b%32).toNat)
 | 23=>bP a/2^(b%32).toNat
 | 24=>bP (a*b)
 | 25=>bP (lQ (bP a) (bP b))
 | 26=>bP (lI (a%4294967296) (b%4294967296))
 | 27=>ms (bP a) (bP b)
 | 28=>bP (lJ (a%4294967296) (b%4294967296))
 | 29=>IntKind.i64.wrap (a+b)
 | 30=>mA (decide (a<b))
 | 31=>mA (decide (a%18446744073709551616<b%18446744073709551616))
 | 32=>bits .xor .i64 a b
 | 33=>aT a b
 | 34=>eO a b
 | 35=>IntKind.i64.wrap (a*2^(b%64).toNat)
 | 36=>IntKind.i64.wrap (a%18446744073709551616/2^(b%64).toNat)
 | 37=>a/2^(b%64).toNat
 | 38=>bP (a+b)
 | 39=>bP (a*2^(b%32).toNat)
 | 40=>bP (a%4294967296/2^(b%32).toNat)
 | 41=>bP a/2^(b%32).toNat
 | _=>0
def xA (x:Int):bP (IntKind.i64.wrap x)=bP x:=by
 unfold bP;rw[IntKind.wrap_i32,IntKind.wrap_i32,zo];omega
def Ew (op:Nat) (A:1<=op) (C:op<=41) (a b:Int) (w:World) (_:-9223372036854775808<=a) (_:a<9223372036854775808) (_:-9223372036854775808<=b) (_:b<9223372036854775808):
    zS prog 150 #[.int .i64 op,.int .i64 a,.int .i64 b] w (.int .i64 (comp op a b)):=by
 unfold zS;have G:bits .and .i64 b 63=((b%64).toNat:Int):=(kK b 6 63 rfl (by decide)).trans (by have:(2:Int)^6=64:=(by decide);rw[this];omega)
 have F:bits .and .i64 b 31=((b%32).toNat:Int):=(kK b 5 31 rfl (by decide)).trans (by have:(2:Int)^5=32:=(by decide);rw[this];omega)
 have E:(b%64).toNat<=63:=by omega
 have D:(b%32).toNat<=31:=by omega
 generalize q:(b%64).toNat=k at *;generalize h:(b%32).toNat=j at *;have v:=(show Hid _ from q)
 have u:=(show Hid _ from h)
 clear q h;have y:op=1\/op=2\/op=3\/op=4\/op=5\/op=6\/op=7\/op=8\/op=9\/op=10\/op=11\/op=12\/op=13\/op=14\/op=15\/op=16\/op=17\/op=18\/op=19\/op=20\/op=21\/op=22\/op=23\/op=24\/op=25\/op=26\/op=27\/op=28\/op=29\/op=30\/op=31\/op=32\/op=33\/op=34\/op=35\/op=36\/op=37\/op=38\/op=39\/op=40\/op=41:=by omega
 clear A C;rcases y with rfl|rfl|rfl|rfl|rfl|rfl|rfl|rfl|rfl|rfl|rfl|rfl|rfl|rfl|rfl|rfl|rfl|rfl|rfl|rfl|rfl|rfl|rfl|rfl|rfl|rfl|rfl|rfl|rfl|rfl|rfl|rfl|rfl|rfl|rfl|rfl|rfl|rfl|rfl|rfl|rfl
 all_goals
  go_in
  go_wp2_with (first
   | (go_at_call 200;refine zk (JI _ _) ?_)
   | (go_at_call 235;refine zk (J8 _ _ _) ?_)
   | (go_at_call 237;refine zk (Jc _ _ _) ?_)
   | (go_at_call 236;refine zk (Jb _ _ _ (by omega) (by omega)) ?_)
   | (go_at_call 238;refine zk (J6 _ _ _ (by omega) (by omega)) ?_)
   | (go_at_call 265;refine zk (M9 _ _) ?_)
   | (go_at_call 266;refine zk (Ks _ _) ?_)
   | (go_at_call 234;refine zk (JD _ _ _) ?_)
   | (go_at_call 233;refine zk (KH _ _ _) ?_)
   | go_in)
  go_ret;refine ⟨iB ?_,rfl⟩;simp only[comp,v.out,u.out,aH,xA,lE]
 all_goals rfl
def LZ (op rd rs1 rs2 imm) (w) (h:¬(1<=op/\op<=64)):
    aG prog 58 #[.agg #[.int .i64 op,.int .i64 rd,.int .i64 rs1,.int .i64 rs2,.int .i64 imm]] w (.tuple #[gV,.bool false]):=by
 unfold aG;have C:=(show Hid _ from Ns op h)
 clear h;go_in;go_wp2_with fail;refine zK (BV _ _) λ y j=>?_;rw[C.out];have D:aF (w.heap.size+1) gX y:=(by have:=aF.new (w.alloc (.cells #[.int .i64 op,.int .i64 rd,.int .i64 rs1,.int .i64 rs2,.int .i64 imm] 26)) gX 100;rw[za]at this;exact this.next j)
 obtain ⟨u,K,A⟩:=D;obtain ⟨E,F,G,H,I,J⟩:=z6 A;have q:Hid (Below w.heap.size w y):=(aJ.alloc (by simp) _).trans (j.mono (by simp;omega))
 clear j A;unfold eW gV gX;go_wp2;refine zp (v:=.tuple #[gV,.bool false]) (by simp[results,results58,go_sem,E,F,G,H,I,J,u,gV,gX]) rfl ⟨rfl,?_⟩
 exact (oz q.out _ _ _ _ _ _).alloc (by have:=q.out.size;simp[World.setCell];omega) _
def Nq (k:Nat) (rd rs1 rs2 imm:Int) (w:World) (H:k<64):
    aG prog 58 #[.agg #[.int .i64 (k+1),.int .i64 rd,.int .i64 rs1,.int .i64 rs2,.int .i64 imm]] w (iL ⟨k+1,rd,rs1,rs2,imm⟩):=by
 unfold aG;have HF:=(show Hid _ from My k H)
 have ax:IntKind.i64.wrap (k:Int)=(k:Int):=zw _ (by omega)
 go_in;go_wp2_with fail;refine zK (BV _ _) λ U G=>?_;rw[HF.out];have L:=(show Hid _ from ((aF.new w [.int .i64 (k+1),.int .i64 rd,.int .i64 rs1,.int .i64 rs2,.int .i64 imm] 26).alloc (.cells gX.toArray 100)).next G)
 have O:Hid (aF (w.heap.size+1) gX U):=(by have:=aF.new (w.alloc (.cells #[.int .i64 (k+1),.int .i64 rd,.int .i64 rs1,.int .i64 rs2,.int .i64 imm] 26)) gX 100;rw[za]at this;exact this.next G)
 have D:Hid (Below w.heap.size w U):=(aJ.alloc (by simp) _).trans (G.mono (by simp;omega))
 clear G;unfold eW dE bO;go_wp2_with fail;refine (ud (row k).kind (iH k H) _).mono ?_;rintro e J ⟨sl,rfl,hP,E⟩;obtain ⟨ao,cap,rfl,_⟩:=hP;have M:=(show Hid _ from (aF.new U (bO k) 100).next E)
 obtain ⟨T,_,ic⟩:=aF.next (aF.alloc L.out _) E;obtain ⟨u,yf,yc⟩:=aF.next (aF.alloc O.out _) E;obtain ⟨y,_,rc⟩:=M.out;obtain ⟨_,i1,i2,i3,i4⟩:=bF ic;obtain ⟨V,W,X,Y,Z,y5⟩:=z6 yc;obtain ⟨r0,r1,r2,r3,r4,r5⟩:=z6 rc;have A:Hid (Below w.heap.size w J):=(D.out.alloc D.out.size _).trans (E.mono (by have:=D.out.size;simp;omega))
 have aw:=D.out.size;clear E ic yc rc D;unfold cT;go_wp2_with (go_at_call 110;refine zk (Jk _ _ _) ?_)
 .have R:Hid (cK (has (row k).kind).1 rd=true/\cK (has (row k).kind).2.1 rs1=true/\cK (has (row k).kind).2.2 rs2=true):=⟨by assumption,by assumption,by assumption⟩
  refine zK (Kb _ _ _ _ _ _ _ _ _ _ _ _ _) λ Q F=>?_;have ay:w.heap.size+1<Q.heap.size:=by have:=F.size;simp at this;omega
  have a3:∀q,Q.frozen? ⟨w.heap.size+1,q,none⟩=false:=λ q=>(F.frozen (p:=⟨w.heap.size+1,q,none⟩) (by simp;omega)).trans ((Below.frozen ((Below.refl J.heap.size J).alloc zn _) (p:=⟨w.heap.size+1,q,none⟩) u).trans (yf q))
  have C:∀b j v,b<J.heap.size->J.cell? ⟨b,j,none⟩=some v->Q.cell? ⟨b,j,none⟩=some v:=λ b j v hb h=>(F.cell (p:=⟨b,j,none⟩) (by simp;omega)).trans ((Below.cell ((Below.refl J.heap.size J).alloc zn _) (p:=⟨b,j,none⟩) hb).trans h)
  have Y0:=C _ _ _ u V;have Y1:=C _ _ _ u W;have Y2:=C _ _ _ u X;have Y3:=C _ _ _ u Y;have Y4:=C _ _ _ u Z;have Y5:=C _ _ _ u y5;have R0:=C _ _ _ y r0;have R1:=C _ _ _ y r1;have R2:=C _ _ _ y r2;have R3:=C _ _ _ y r3;have R4:=C _ _ _ y r4;have R5:=C _ _ _ y r5;have K:Hid (Below w.heap.size w Q):=(A.out.alloc A.out.size _).trans (F.mono (by have:=A.out.size;simp;omega))
  clear F C V W X Y Z y5 r0 r1 r2 r3 r4 r5 i1 i2 i3 i4 A yf L O M u T y;by_cases P:tk (jH (row k).kind) (dZ (row k).kind) (most (row k).kind) imm=true
  .have N:=(show Hid _ from qr (k:=k) (rd:=rd) (rs1:=rs1) (rs2:=rs2) (imm:=imm) (by
    rw[dJ _ _ _ _ _ H];have:=El (iH k H) imm;unfold takes at this;rw[<-this,R.out.1,R.out.2.1,R.out.2.2,P];rfl))
   rw[P];clear P;go_wp2;(refine zp (v:=.tuple #[dE k,.bool true]) (by simp[results,results58,go_sem,Y0,Y1,Y2,Y3,Y4,Y5,dE,bO]) rfl ⟨by rw[N.out],?_⟩);exact oz K.out _ _ _ _ _ _
  have I:tk (jH (row k).kind) (dZ (row k).kind) (most (row k).kind) imm=false:=by simpa using P
  have N:=(show Hid _ from ob (i:=⟨k+1,rd,rs1,rs2,imm⟩) (by
   rw[dJ _ _ _ _ _ H];have:=El (iH k H) imm;unfold takes at this;rw[<-this,I];simp))
  rw[I];clear P I;go_wp2;refine zp (v:=.tuple #[gV,.bool false]) (by simp[results,results58,go_sem,Y0,Y1,Y2,Y3,Y4,Y5,gV,gX]) rfl ⟨by rw[N.out],?_⟩
  exact oz K.out _ _ _ _ _ _
 all_goals
  have N:=(show Hid _ from ob (i:=⟨k+1,rd,rs1,rs2,imm⟩) (by
   rw[dJ _ _ _ _ _ H]
   first
   | (refine Iu ?_ ?_ ?_<;>assumption)
   | (refine I5 ?_ ?_<;>assumption)
   | (refine Iw ?_<;>assumption)))
  refine zp (v:=.tuple #[gV,.bool false]) (by simp[results,results58,go_sem,V,W,X,Y,Z,y5,u,gV,gX]) rfl ⟨by rw[N.out],?_⟩
  exact (oz A.out _ _ _ _ _ _).alloc (by have:=A.out.size;simp[World.setCell];omega) _
def iI (i) (w):
    aG prog 58 #[i.val] w (iL i):=by
 unfold aG;obtain ⟨op,rd,rs1,rs2,imm⟩:=i;unfold aE.val;simp only;by_cases h:1<=op/\op<=64
 .obtain ⟨k,rfl⟩:∃k:Nat,op=k+1:=⟨(op-1).toNat,by omega⟩
  exact Nq k rd rs1 rs2 imm w (by omega)
 rw[ob (lY _ h)];exact LZ _ _ _ _ _ _ h
def aK.far (h:aK T b mem regs pc w) (c q) (v) (j:c≠b):aK T b mem regs pc (w.setCell ⟨c,q,none⟩ v):=
 ⟨(Below.heap_setCell _ _ _ _ (λ e=>j e.symm)).trans h.row,h.mlen,h.rlen,h.byte⟩
def aK.alloc (h:aK T b mem regs pc w) (o):aK T b mem regs pc (w.alloc o):=h.next aJ
def aN.far (h:aN b w0 w) (c q) (v) (y:w0.heap.size<=c):aN b w0 (w.setCell ⟨c,q,none⟩ v):=
 ⟨h.os,h.tape,h.output,by have:=h.size;simpa[World.setCell] using this,λ k u j=>(Below.heap_setCell _ _ _ _ (λ e=>by have:k=c:=e;omega)).trans (h.block k u j)⟩
def aN.alloc (h:aN b w0 w) (o):aN b w0 (w.alloc o):=h.trans (aN.of_below aJ b)
def aN.near (h:aN b w0 w) (q) (v):aN b w0 (w.setCell ⟨b,q,none⟩ v):=h.trans (aN.setCell b w q v)
def aN.next (h:aN b w0 w) (j:Below w.heap.size w w'):aN b w0 w':=h.trans (aN.of_below j b)
def eC (regs:List Int) (k:Nat) (v:Int):List Int:=if k=0 then regs else regs.set k v
def aO (k v:Int):Value:=.agg #[.int .i64 k,.int .i64 v]
def mO (b k:Nat) (v p:Int) (w:World) (h:aK T b mem regs pc w) (j:k<32):
    Calls prog 149 #[.pointer (some ⟨b,0,none⟩),.int .i64 k,.int .i64 v,.int .i64 p] w λ e w'=>e=.returned (aO 0 0)/\aK T b mem (eC regs k v) p w'/\aN b w w':=by
 have y:=h.lt;have C:=h.frozen;have A:=h.cellP;by_cases q:k=0
 .subst q
  go_in;go_wp2_with (go_at_call 85;refine zk (I7 _ _ _) ?_);refine zp (v:=aO 0 0) (by simp[results,results149,go_sem,aO]) rfl ⟨rfl,?_,?_⟩
  .exact (h.setP p).alloc _
  exact ((aN.refl b w).near _ _).alloc _
 have u:=h.cellR k j;go_in;go_wp2_with (go_at_call 85;refine zk (I6 _ k _ _ (h.alloc _) (by omega) j) ?_)
 refine zp (v:=aO 0 0) (by simp[results,results149,go_sem,aO]) rfl ⟨rfl,?_,?_⟩
 .have:=((h.setR k j v).setP p).alloc (.cells #[.int .i64 0,.int .i64 0] 56)
  unfold eC;rw[aC q];exact this
 exact (((aN.refl b w).near _ _).near _ _).alloc _
def aF.kept {c:Nat} (h:aF c vs w) (u:aN b w w') (y:c≠b):aF c vs w':=by
 have e:=u.block c h.1 y;exact ⟨zl h.1 u.size,λ q=>(World.frozen?_of_block (a:=⟨c,q,none⟩) e).trans (h.2.1 q),λ j v A=>(World.cell?_of_block (a:=⟨c,j,none⟩) e).trans (h.2.2 j v A)⟩
def dH (x:Int):Prop:=-9223372036854775808<=x/\x<9223372036854775808
def mL (w) (k):Below w.heap.size w (w.drewN k):=below_drewN aU k
structure aV (T:TypeId) (b:Nat) (mem regs:List Int) (pc:Int) (w0:World) (i:List Value) (w:World):Prop where
 m:aK T b mem regs pc w
 i:aF w0.heap.size i w
 e:aF (w0.heap.size+1) [.int .i64 0,.int .i64 0] w
 k:aN b w0 w
def aV.next (h:aV T b mem regs pc w0 i w) (j:Below w.heap.size w w'):aV T b mem regs pc w0 i w':=
 ⟨h.m.next j,h.i.next j,h.e.next j,h.k.next j⟩
def aV.alloc (h:aV T b mem regs pc w0 i w) (o):aV T b mem regs pc w0 i (w.alloc o):=h.next aJ
def aV.drewN (h:aV T b mem regs pc w0 i w) (n):aV T b mem regs pc w0 i (w.drewN n):=h.next (mL w n)
def aV.new (h:aK T b mem regs pc w0) (i) (t) (t'):aV T b mem regs pc w0 i ((w0.alloc (.cells i.toArray t)).alloc (.cells #[.int .i64 0,.int .i64 0] t')):=
 ⟨(h.alloc _).alloc _,(aF.new w0 i t).alloc _,by have:=aF.new (w0.alloc (.cells i.toArray t)) [.int .i64 0,.int .i64 0] t';rw[za]at this;exact this,((aN.refl b w0).alloc _).alloc _⟩
def kg {q j:List Int} {p:Int} (h:aV T b mem regs pc w0 i w) (A:b<w0.heap.size) (v:aK T b q j p w') (u:aN b w w'):
    aF w0.heap.size i w'/\aF (w0.heap.size+1) [.int .i64 0,.int .i64 0] w'/\∀x y,aK T b q j p ((w'.setCell ⟨w0.heap.size+1,0,none⟩ x).setCell ⟨w0.heap.size+1,1,none⟩ y)/\aN b w0 ((w'.setCell ⟨w0.heap.size+1,0,none⟩ x).setCell ⟨w0.heap.size+1,1,none⟩ y):=
 ⟨h.i.kept u (by omega),h.e.kept u (by omega),λ x y=>⟨(v.far _ _ _ (by omega)).far _ _ _ (by omega),((h.k.trans u).far _ _ _ (by omega)).far _ _ _ (by omega)⟩⟩
def WQ (b o r1 r2 rd:Nat) (p:Int) (w:World) (h:aK T b mem regs pc w) (X:r1<32) (Y:r2<32) (hd:rd<32) (o1:1<=o) (o2:o<=28) (hv:iL ⟨o,rd,r1,r2,0⟩=.tuple #[dE (o-1),.bool true]) (L:fN (row (o-1)).kind=0) (Q:dH (regs.getD r1 0)) (R:dH (regs.getD r2 0)):
    Calls prog 90 #[.pointer (some ⟨b,0,none⟩),(aE.mk o rd r1 r2 0).val,.int .i64 p] w λ e w'=>e=.returned (aO 0 0)/\aK T b mem (eC regs rd (comp o (regs.getD r1 0) (regs.getD r2 0))) p w'/\aN b w w':=by
 have Z:=h.lt;go_in;unfold aE.val;simp only;go_wp2_with fail;refine zK (iI (aE.mk o rd r1 r2 0) _) λ w1 A=>?_;have j:=(show Hid _ from (aV.new h [.int .i64 o,.int .i64 rd,.int .i64 r1,.int .i64 r2,.int .i64 0] 26 56).next A)
 clear A;obtain ⟨O,P,i2,i3⟩:=kt j.out.i.2.2;have M:=j.out.i.1;have N:=j.out.e.1;have m1:=j.out.m.cellR r1 X;have m2:=j.out.m.cellR r2 Y;have mb:=j.out.m.lt;rw[hv];unfold dE bO;rw[L];have u:=(show Hid _ from Q)
 have y:=(show Hid _ from R)
 clear Q R;generalize D:regs.getD r1 0=V at *;generalize E:regs.getD r2 0=W at *;have F:=(show Hid _ from D)
 have G:=(show Hid _ from E)
 clear D E;go_wp2_with fail;go_quiet (fail);go_wp2_with fail;have q:=(j.out.alloc (.cells #[.int .i64 (((o-1:Nat):Int)+1),.string ⟨(row (o-1)).name.toArray⟩,.int .i64 0,.int .i64 (row (o-1)).opc,.int .i64 (row (o-1)).f,.int .i64 (row (o-1)).g] 100)).drewN nq;clear j O P i2 i3 M N m1 m2 mb;generalize World.drewN (w1.alloc _) nq=W2 at q ⊢;obtain ⟨O,P⟩:=bE q.i.2.2
 go_region_held3 (λ w'=>w'.cell? ⟨w.heap.size,0,none⟩=some (.int .i64 o)/\w'.cell? ⟨w.heap.size,1,none⟩=some (.int .i64 rd)) (go_keep)
  (first
   | (go_at_call 150;refine (Ew o (by omega) (by omega) V W _ u.out.1 u.out.2 y.out.1 y.out.2).mono ?_;rintro e w' ⟨rfl,rfl⟩)
   | (go_at_call 149;refine (mO b rd _ _ _ (aV.m (by first|assumption|exact aV.drewN q _)) hd).mono ?_;rintro e w' ⟨rfl,K,J⟩;obtain ⟨I,C,H⟩:=kg (by first|assumption|exact aV.drewN q _) Z K J;obtain ⟨q0,q1⟩:=bE I.2.2;obtain ⟨f0,f1⟩:=bE C.2.2;have ff:=C.2.1;unfold aO))
 have U:=(show Hid _ from H)
 go_wp2;refine zp (v:=aO 0 0) (by simp[results,results90,go_sem,aO,f0,f1]) rfl ⟨rfl,?_⟩
 rw[F.out,G.out];exact U.out _ _
def kq (ps:List (Int×Int×Int)) (ao:Option Addr) (cap:Nat) (w:World):Prop:=
 ∀j p,ps[j]?=some p->∃b,ao=some ⟨b,0,none⟩/\b<w.heap.size/\ps.length<=cap/\
  w.cell? ⟨b,j*3,none⟩=some (.int .i64 p.1)/\w.cell? ⟨b,j*3+1,none⟩=some (.int .i64 p.2.1)/\w.cell? ⟨b,j*3+2,none⟩=some (.int .i64 p.2.2)
def kq.next {y:List (Int×Int×Int)} {v:Option Addr} (h:kq y v cap w) (q:Below w.heap.size w w'):kq y v cap w':=λ j p G=>by
 obtain ⟨b,A,u,C,D,E,F⟩:=h j p G;exact ⟨b,A,by have:=q.size;omega,C,(q.cell (p:=⟨b,_,none⟩) u).trans D,(q.cell (p:=⟨b,_,none⟩) u).trans E,(q.cell (p:=⟨b,_,none⟩) u).trans F⟩
def IL (f:List (Int×Int×Int)->Int) (ps:List (Int×Int×Int)) (ao:Option Addr) (cap:Nat) (L:List Value) (w:World) (acc i:Value) (wr:World):Prop:=
 ∃j:Nat,j<=ps.length/\i=.int .i64 j/\acc=.int .i64 (f (ps.take j))/\kq ps ao cap wr/\Below w.heap.size w wr/\aF w.heap.size L wr
def Jp (a b c ev) (lo hi g fx n) (ao) (h:List (Int×Int×Int)) (cp) (w) (T:PB h) (hl:h.length<=4) (P:kq h ao cp w):
    Calls prog 61 #[.agg #[.bool a,.bool b,.bool c,.int .i64 lo,.int .i64 hi,.bool ev,.slice ao h.length cp,.int .i64 g,.int .i64 fx],.int .i64 n] w λ e w'=>
     e=.returned (.int .i64 (j9 n h 0))/\Below w.heap.size w w':=by
 have Z:=(show Hid _ from P)
 have E:=(show Hid _ from T)
 have Q:(h.length:Int)<=4:=by omega
 clear P T;go_in;go_wp2_with fail;go_loopw [5,11] (λ G i wr=>IL (λ q=>j9 n q 0) h ao cp [.bool a,.bool b,.bool c,.int .i64 lo,.int .i64 hi,.bool ev,.slice ao h.length cp,.int .i64 g,.int .i64 fx] w G i wr) (λ _ i _=>h.length-(intOf i).toNat)
 case atStart=>exact ⟨0,by omega,rfl,rfl,kq.next Z.out aJ,aJ,aF.new w _ _⟩
 case round=>
  obtain ⟨j,hj,rfl,rfl,y,H,O⟩:=hrel;by_cases K:j<h.length
  .have R:(j:Int)<h.length:=by omega
   obtain ⟨p,u⟩:∃p,h[j]?=some p:=⟨_,zg K⟩;obtain ⟨b,hb,I,ac,c0,c1,c2⟩:=y j p u;subst hb;have ae:b<wr.heap.size:=I;obtain ⟨U,q2,V,W,q5,X⟩:=E.out p (List.mem_of_getElem? u);(have N:=(show Hid _ from MA (n:=n) u));(have F:=(show Hid _ from y));(have C:=(show Hid _ from H));(have Y:=(show Hid _ from O));obtain ⟨D,L,M⟩:=p;simp only at c0 c1 c2 U q2 V W q5 X;have z:=Fu n D L U V W;have z2:=Hf _ M z.1 z.2 X;(have HW:=(show Hid _ from o3 (aD n (D+L-1) D*2^M.toNat) (by omega)));clear y H O u z2;generalize hA:j9 n (h.take j) 0=A at N ⊢;go_wp2_with fail;(go_quiet ((go_at_call 112;exact Calls.quiet_of (oi _ _ _ _ (by omega) (by omega) (by omega) (by omega)))));go_wp2;go_roundw
   case rel=>
    have v:Below wr.heap.size wr ((wr.alloc (.cells #[.int .i64 D,.int .i64 L,.int .i64 M] 175)).drewN nq):=below_drewN aJ _;(refine ⟨j+1,by omega,by go_num,?_,kq.next F.out v,Below.trans C.out (v.mono C.out.size),aF.next Y.out v⟩);show _=Value.int IntKind.i64 (j9 n (List.take (j+1) h) 0);rw[N.out,HW.out];rfl
   case measure=>simp[intOf];omega
  have J:j=h.length:=by omega
  subst J;rw[List.take_length];have C:=(show Hid _ from H)
  go_wp2;go_ret;exact ⟨rfl,C.out⟩
def JG (a b c ev) (lo hi g fx n) (ao) (h:List (Int×Int×Int)) (cp) (w) (U:PB h) (hl:h.length<=4) (Q:kq h ao cp w) (a0:0<=gH n h 0) (a1:gH n h 0<=2097152) (ah:-1048576<=lo) (ai:lo<=0):
    Calls prog 71 #[.agg #[.bool a,.bool b,.bool c,.int .i64 lo,.int .i64 hi,.bool ev,.slice ao h.length cp,.int .i64 g,.int .i64 fx],.int .i64 n] w λ e w'=>
     e=.returned (.int .i64 (wQ lo hi (gH n h 0)))/\Below w.heap.size w w':=by
 have HP:=(show Hid _ from Q)
 have F:=(show Hid _ from U)
 have R:(h.length:Int)<=4:=by omega
 clear Q U;go_in;go_wp2_with fail;go_loopw [5,11] (λ H i wr=>IL (λ q=>gH n q 0) h ao cp [.bool a,.bool b,.bool c,.int .i64 lo,.int .i64 hi,.bool ev,.slice ao h.length cp,.int .i64 g,.int .i64 fx] w H i wr) (λ _ i _=>h.length-(intOf i).toNat)
 case atStart=>exact ⟨0,by omega,rfl,rfl,kq.next HP.out aJ,aJ,aF.new w _ _⟩
 case round=>
  obtain ⟨j,hj,rfl,rfl,y,D,J⟩:=hrel;by_cases M:j<h.length
  .have T:(j:Int)<h.length:=by omega
   obtain ⟨p,u⟩:∃p,h[j]?=some p:=⟨_,zg M⟩;obtain ⟨b,hb,K,ae,c0,c1,c2⟩:=y j p u;subst hb;have af:b<wr.heap.size:=K;obtain ⟨q1,q2,W,X,Y,q6⟩:=F.out p (List.mem_of_getElem? u);(have P:=(show Hid _ from Nk (n:=n) u));(have G:=(show Hid _ from y));(have C:=(show Hid _ from D));(have Z:=(show Hid _ from J));obtain ⟨N,O,E⟩:=p;simp only at c0 c1 c2 q1 q2 W X Y q6;have z:=Fu n E O Y W X;(have z2:=Hf _ N z.1 z.2 (by omega));(have HW:=(show Hid _ from o3 (aD n (E+O-1) E*2^N.toNat) (by omega)));clear y D J u z2;generalize I:gH n (h.take j) 0=A at P ⊢;go_wp2_with fail;(go_quiet ((go_at_call 112;exact Calls.quiet_of (oi _ _ _ _ (by omega) (by omega) (by omega) (by omega)))));go_wp2;go_roundw
   case rel=>
    have v:Below wr.heap.size wr ((wr.alloc (.cells #[.int .i64 N,.int .i64 O,.int .i64 E] 175)).drewN nq):=below_drewN aJ _;(refine ⟨j+1,by omega,by go_num,?_,kq.next G.out v,Below.trans C.out (v.mono C.out.size),aF.next Z.out v⟩);show _=Value.int IntKind.i64 (gH n (List.take (j+1) h) 0);rw[P.out,HW.out];rfl
   case measure=>simp[intOf];omega
  have L:j=h.length:=by omega
  subst L;rw[List.take_length];have C:=(show Hid _ from D)
  obtain ⟨hz,_,V⟩:=J;obtain ⟨_,_,_,l3,l4⟩:=bF V;clear V D;generalize I:gH n h 0=A at *;by_cases hm:hi<A
  .go_wp2
   go_ret;refine ⟨fZ ?_,C.out⟩;unfold wQ;rw[I,zt hm]
  go_wp2;go_ret;refine ⟨fZ ?_,C.out⟩;unfold wQ;first|rw[I,aC (by omega)]|rw[aC (by omega)]
def Ke (i) (w) (h:right i=false):
    aG prog 35 #[i.val] w (.tuple #[.int .i64 0,.int .i64 1]):=by
 unfold aG;have u:=(show Hid _ from ob h)
 clear h;obtain ⟨op,rd,rs1,rs2,imm⟩:=i;unfold aE.val;simp only;go_in;go_wp2_with fail;refine zK (iI ⟨op,rd,rs1,rs2,imm⟩ _) λ v q=>?_;rw[u.out];have j:Hid (Below w.heap.size w v):=aJ.trans (q.mono (by simp))
 clear q;unfold gV gX;go_wp2;go_ret2;exact ⟨rfl,j.out.alloc j.out.size _⟩
def M4 (k:Nat) (rd rs1 rs2 imm:Int) (w:World) (K:k<64) (N:right ⟨k+1,rd,rs1,rs2,imm⟩=true):
    Calls prog 35 #[.agg #[.int .i64 (k+1),.int .i64 rd,.int .i64 rs1,.int .i64 rs2,.int .i64 imm]] w λ e w'=>
     e=.returned (.tuple #[.int .i64 (dS k rd rs1 rs2 imm),.int .i64 0])/\Below w.heap.size w w':=by
 have HV:=(show Hid _ from qr N)
 obtain ⟨⟨d0,d1⟩,⟨s0,s1⟩,⟨t0,t1⟩,m0,m1⟩:=o6 K N;have HE:=(show Hid _ from SY K N)
 clear N;go_in;go_wp2_with fail;refine zK (iI ⟨k+1,rd,rs1,rs2,imm⟩ _) λ w1 G=>?_;rw[HV.out];have I:=(show Hid _ from (aF.new w [.int .i64 (k+1),.int .i64 rd,.int .i64 rs1,.int .i64 rs2,.int .i64 imm] 26).next G)
 have A:Hid (Below w.heap.size w w1):=aJ.trans (G.mono (by simp))
 clear G;unfold dE bO;go_wp2_with fail;refine (ud (row k).kind (iH k K) _).mono ?_;rintro e y ⟨sl,rfl,hP,D⟩;obtain ⟨J,cap,rfl,L⟩:=hP;obtain ⟨q,_,rc⟩:=(aF.new w1 (bO k) 100).next D;obtain ⟨R,_,ic⟩:=aF.next (aF.alloc I.out _) D
 have O:Hid (kq (bZ (row k).kind) J cap y):=λ j p hj=>by
  obtain ⟨b,h1,_,h3⟩:=L j p hj;exact ⟨b,h1,h3⟩
 obtain ⟨_,i1,i2,i3,i4⟩:=bF ic;obtain ⟨r0,r1,r2,r3,r4,r5⟩:=z6 rc;have H:Hid (Below w.heap.size w y):=(A.out.alloc A.out.size _).trans (D.mono (by have:=A.out.size;simp;omega))
 clear D ic rc A I L;unfold cT;go_wp2_with fail;have Q:Below y.heap.size y (y.alloc (.cells (cT (row k).kind (.slice J (bZ (row k).kind).length cap)).toArray 105)):=aJ
 have E:∀b j v,b<y.heap.size->y.cell? ⟨b,j,none⟩=some v->∀d os,(Go.Sort.grow (redrawn (y.alloc (.cells (cT (row k).kind (.slice J (bZ (row k).kind).length cap)).toArray 105)) d) os).cell? ⟨b,j,none⟩=some v:=
  λ b j v hb h d os=>cell_regrown ((Q.cell (p:=⟨b,j,none⟩) hb).trans h) d os
 have R0:=E _ _ _ q r0;have R1:=E _ _ _ q r1;have R2:=E _ _ _ q r2;have R3:=E _ _ _ q r3;have R4:=E _ _ _ q r4;have R5:=E _ _ _ q r5;have X:=E _ _ _ R i4;obtain ⟨T,_,u⟩:=aF.new y (cT (row k).kind (.slice J (bZ (row k).kind).length cap)) 105;have Y:=cell_regrown (u 0 _ rfl);have Z:=cell_regrown (u 1 _ rfl);have L2:=cell_regrown (u 2 _ rfl);have L3:=cell_regrown (u 3 _ rfl);have L4:=cell_regrown (u 4 _ rfl);have L5:=cell_regrown (u 5 _ rfl);have L6:=cell_regrown (u 6 _ rfl);have L7:=cell_regrown (u 7 _ rfl);have L8:=cell_regrown (u 8 _ rfl);have F:=(show Hid _ from kq.next O.out Q)
 have C:=(show Hid _ from Below.alloc H.out H.out.size (.cells (cT (row k).kind (.slice J (bZ (row k).kind).length cap)).toArray 105))
 clear u E Q r0 r1 r2 r3 r4 r5 i1 i2 i3 i4;unfold cT at Y Z L2 L3 L4 L5 L6 L7 L8 R0 R1 R2 R3 R4 R5 X F C;generalize y.alloc _=W at Y Z L2 L3 L4 L5 L6 L7 L8 R0 R1 R2 R3 R4 R5 X F C T ⊢;obtain ⟨f0,f1,f2,f3,f4,f5,f6⟩:=kc k K;have P:=(show Hid _ from EJ (iH k K))
 have U:(bZ (row k).kind).length<=4:=Cg _;have a6:(dL (row k).kind:Int)<=40:=Fo _;refine wp_region_quiet_below (by kernel_rfl) (by kernel_rfl) ?_
 repeat (quiet_step (first
  | (go_at_call 60;exact Calls.regrown_of (BD _ _ _ _ _ _ _ _ _ _ _ _ _ _ _ _ _ _ (by omega) (by omega) (by omega) (by omega) (by omega) (by omega)))
  | (go_at_call 61;exact Calls.regrown_of (Jp _ _ _ _ _ _ _ _ _ _ _ _ _ P.out U (kq.next F.out (below_regrown _ _ _))))))
 refine wpQuiet_nil ?_;intro _ V;obtain ⟨⟨dq,osq⟩,M⟩:=V;subst M;go_wp2;go_ret2;refine ⟨?_,Below.trans C.out ((below_regrown W dq osq).mono C.out.size)⟩;rw[<-HE.out];rfl
def Cs (i) (w):
    aG prog 35 #[i.val] w (.tuple #[.int .i64 (bB i).1,.int .i64 (bB i).2]):=by
 unfold aG;by_cases h:right i=true
 .obtain ⟨op,rd,rs1,rs2,imm⟩:=i
  have v:1<=op/\op<=64:=by
   apply Classical.byContradiction;intro u;rw[lY _ u]at h;cases h
  obtain ⟨k,rfl⟩:∃k:Nat,op=k+1:=⟨(op-1).toNat,by omega⟩
  have q:k<64:=by omega
  rw[ky h];exact M4 k rd rs1 rs2 imm w q h
 have j:right i=false:=by simpa using h
 rw[A7 j];exact Ke i w j
def KG (i) (w):
    aG prog 14 #[i.val] w (.tuple #[.int .i64 (bB i).1,.int .i64 (bB i).2]):=by
 unfold aG;obtain ⟨op,rd,rs1,rs2,imm⟩:=i;unfold aE.val;simp only;go_in;go_wp2_with fail;refine zK (Cs ⟨op,rd,rs1,rs2,imm⟩ _) λ q h=>?_;have j:Hid (Below w.heap.size w q):=aJ.trans (h.mono (by simp))
 clear h;go_wp2;go_ret2;exact ⟨rfl,j.out⟩
def Jn (n at') (t) (w) (h:0<=at') (j:at'<=40):
    Calls prog 70 #[.int .i64 n,.int .i64 at',.bool t] w λ e w'=>e=.returned (.int .i64 (if t then aD n (at'+5-1) at' else 0))/\∃k,w'=w.drewN k:=by
 cases t
 .go_in
  go_wp2;go_ret;exact ⟨rfl,0,rfl⟩
 go_in;go_wp2_with fail;refine (oi _ _ _ _ h j (by decide) (by decide)).mono ?_
 rintro e q ⟨rfl,k,rfl⟩;go_wp2;go_ret;exact ⟨rfl,k,rfl⟩
def Sl (k) (n) (w) (hk:k<64):
    aG prog 69 #[.agg (bO k).toArray,.int .i64 n] w (.bool (jC k n)):=by
 unfold aG;unfold bO;by_cases F:(row k).opc=eO n 127
 .have h1:((row k).opc != bits BinOp.and IntKind.i64 n 127)=false:=by
   have:eO n 127=bits BinOp.and IntKind.i64 n 127:=rfl;rw[<-this];simpa using F
  have J:Hid (jC k n=(bits BinOp.and IntKind.i64 n (fX (row k).kind)==je (row k).opc (row k).f (row k).g (2^dL (row k).kind))):=by
   show jC k n=_;unfold jC;rw[decide_eq_true F,Bool.true_and,Bool.beq_eq_decide_eq];rfl
  clear F;go_in;go_wp2_with fail;refine (ud (row k).kind (iH k hk) _).mono ?_;rintro e A ⟨sl,rfl,hP,C⟩;obtain ⟨I,cap,rfl,_⟩:=hP;obtain ⟨q,_,D⟩:=(aF.new w (bO k) 100).next C;have G:Hid (Below w.heap.size w A):=aJ.trans (C.mono (by simp))
  clear C;unfold cT;go_wp2_with fail;have hW:Below A.heap.size A (A.alloc (.cells (cT (row k).kind (.slice I (bZ (row k).kind).length cap)).toArray 105)):=aJ
  have E:∀b j v,b<A.heap.size->A.cell? ⟨b,j,none⟩=some v->∀d os,(Go.Sort.grow (redrawn (A.alloc (.cells (cT (row k).kind (.slice I (bZ (row k).kind).length cap)).toArray 105)) d) os).cell? ⟨b,j,none⟩=some v:=
   λ b j v hb h d os=>cell_regrown ((hW.cell (p:=⟨b,j,none⟩) hb).trans h) d os
  have X:=E _ _ _ q (D 0 _ rfl);have Y:=E _ _ _ q (D 1 _ rfl);have Z:=E _ _ _ q (D 2 _ rfl);have R3:=E _ _ _ q (D 3 _ rfl);have R4:=E _ _ _ q (D 4 _ rfl);have R5:=E _ _ _ q (D 5 _ rfl);obtain ⟨K,_,u⟩:=aF.new A (cT (row k).kind (.slice I (bZ (row k).kind).length cap)) 105;have M:=cell_regrown (u 0 _ rfl);have N:=cell_regrown (u 1 _ rfl);have O:=cell_regrown (u 2 _ rfl);have P:=cell_regrown (u 3 _ rfl);have Q:=cell_regrown (u 4 _ rfl);have R:=cell_regrown (u 5 _ rfl);have T:=cell_regrown (u 6 _ rfl);have U:=cell_regrown (u 7 _ rfl);have V:=cell_regrown (u 8 _ rfl);have y:=(show Hid _ from Below.alloc G.out G.out.size (.cells (cT (row k).kind (.slice I (bZ (row k).kind).length cap)).toArray 105))
  clear u E hW D;unfold cT at M N O P Q R T U V X Y Z R3 R4 R5 y;generalize A.alloc _=W at M N O P Q R T U V X Y Z R3 R4 R5 y K ⊢;obtain ⟨f0,f1,f2,f3,f4,f5,f6⟩:=kc k hk;have ak:(dL (row k).kind:Int)<=40:=Fo _;refine wp_region_quiet_below (by kernel_rfl) (by kernel_rfl) ?_
  repeat (quiet_step (first
   | (go_at_call 60;exact Calls.regrown_of (BD _ _ _ _ _ _ _ _ _ _ _ _ _ _ _ _ _ _ (by omega) (by omega) (by omega) (by omega) (by omega) (by omega)))))
  refine wpQuiet_nil ?_;intro _ L;obtain ⟨⟨dq,osq⟩,H⟩:=L;subst H;go_wp2;go_ret;refine ⟨?_,Below.trans y.out ((below_regrown W dq osq).mono y.out.size)⟩;rw[J.out];rfl
 have h1:((row k).opc != bits BinOp.and IntKind.i64 n 127)=true:=by
  have:eO n 127=bits BinOp.and IntKind.i64 n 127:=rfl;rw[<-this];simpa using F
 have J:Hid (jC k n=false):=by
  show jC k n=_;unfold jC;rw[decide_eq_false F,Bool.false_and]
 clear F;go_in;go_wp2;go_ret;exact ⟨by rw[J.out];rfl,aJ⟩
def Td (k b) (n) (w) (q:k<64) (v:b<w.heap.size) (y:w.cell? ⟨b,0,none⟩=some (.int .i64 n)):
    aG prog 68 #[.agg (bO k).toArray,.pointer (some ⟨b,0,none⟩)] w (.bool (jC k n)):=by
 unfold aG;unfold bO;go_in;go_wp2_with fail;refine zK (Sl k n _ q) λ u h=>?_;have j:Hid (Below w.heap.size w u):=aJ.trans (h.mono (by simp))
 clear h;go_wp2;go_ret;exact ⟨rfl,j.out⟩
