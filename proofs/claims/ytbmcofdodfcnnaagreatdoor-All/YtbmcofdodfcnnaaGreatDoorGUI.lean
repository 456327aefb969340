import Derived.Deep.LoopGhost
import Derived.Test.YtbmcofdodfcnnaaGreatDoorGXF
set_option linter.all false
set_option maxHeartbeats 0
set_option maxRecDepth 100000
namespace Go
open Proofs.Tryz
variable {T : TypeId} {mem regs mem' regs' : List Int} {pc pc' a m r1 r2 imm : Int} {b k : Nat}
def bN (op:Int):Nat:=if op=42\/op=46\/op=50 then 1 else if op=43\/op=47\/op=51 then 2 else if op=44\/op=48\/op=52 then 4 else 8
def ir (op n:Int):Int:=if op=42 then IntKind.i8.wrap n else if op=43 then IntKind.i16.wrap n else if op=44 then IntKind.i32.wrap n else n
open RowKit
def J5 (n):wrap64 (IntKind.i8.wrap n)=IntKind.i8.wrap n:=by
 have h:-128<=IntKind.i8.wrap n/\IntKind.i8.wrap n<128:=by
  simp[IntKind.wrap,IntKind.bits,IntKind.signed]
  split<;>omega
 rw[aH,zo];omega
def IM (n):wrap64 (IntKind.i16.wrap n)=IntKind.i16.wrap n:=by
 have h:-32768<=IntKind.i16.wrap n/\IntKind.i16.wrap n<32768:=by
  simp[IntKind.wrap,IntKind.bits,IntKind.signed]
  split<;>omega
 rw[aH,zo];omega
def J2 (n):wrap64 (IntKind.i32.wrap n)=IntKind.i32.wrap n:=by
 have h:-2147483648<=IntKind.i32.wrap n/\IntKind.i32.wrap n<2147483648:=by
  simp[IntKind.wrap,IntKind.bits,IntKind.signed]
  split<;>omega
 rw[aH,zo];omega
def uv (op) (w):zS prog 202 #[.int .i64 op] w (.int .i64 (bN op)):=by
 unfold zS;by_cases h:op=42\/op=46\/op=50
 .have q:Hid (bN op=1):=(show _=_ from by unfold bN;rw[zt h])
  rcases h with rfl|rfl|rfl
  all_goals
   go_in;go_wp2;go_ret;exact ⟨by rw[q.out];rfl,rfl⟩
 by_cases j:op=43\/op=47\/op=51
 .have q:Hid (bN op=2):=(show _=_ from by unfold bN;rw[aC h,zt j])
  rcases j with rfl|rfl|rfl
  all_goals
   go_in;go_wp2;go_ret;exact ⟨by rw[q.out];rfl,rfl⟩
 by_cases u:op=44\/op=48\/op=52
 .have q:Hid (bN op=4):=(show _=_ from by unfold bN;rw[aC h,aC j,zt u])
  rcases u with rfl|rfl|rfl
  all_goals
   go_in;go_wp2;go_ret;exact ⟨by rw[q.out];rfl,rfl⟩
 have q:Hid (bN op=8):=(show _=_ from by unfold bN;rw[aC h,aC j,aC u])
 have v:¬op=42:=λ e=>h (.inl e)
 have y:¬op=46:=λ e=>h (.inr (.inl e))
 have A:¬op=50:=λ e=>h (.inr (.inr e))
 have C:¬op=43:=λ e=>j (.inl e)
 have D:¬op=47:=λ e=>j (.inr (.inl e))
 have E:¬op=51:=λ e=>j (.inr (.inr e))
 have c1:¬op=44:=λ e=>u (.inl e)
 have c2:¬op=48:=λ e=>u (.inr (.inl e))
 have F:¬op=52:=λ e=>u (.inr (.inr e))
 clear h j u;go_in;go_wp2;go_ret;exact ⟨by rw[q.out];rfl,rfl⟩
def Lt (op n) (w):zS prog 203 #[.int .i64 op,.int .i64 n] w (.int .i64 (ir op n)):=by
 unfold zS;by_cases h:op=42
 .subst h
  go_in;go_wp2;go_ret;exact ⟨iB (by unfold ir;rw[zt rfl];exact J5 n),rfl⟩
 by_cases j:op=43
 .subst j
  go_in;go_wp2;go_ret;exact ⟨iB (by unfold ir;rw[aC h,zt rfl];exact IM n),rfl⟩
 by_cases q:op=44
 .subst q
  go_in;go_wp2;go_ret;exact ⟨iB (by unfold ir;rw[aC h,aC j,zt rfl];rw[show wrap32 n=IntKind.i32.wrap n from by rw[IntKind.wrap_i32];unfold wrap32;rfl];exact J2 n),rfl⟩
 have u:Hid (ir op n=n):=(show _=_ from by unfold ir;rw[aC h,aC j,aC q])
 go_in;go_wp2;go_ret;exact ⟨iB u.out.symm,rfl⟩
def MK:(prog.info? 5).map (·.size)=some 1:=by kernel_rfl
def CZ (b a n:Nat) (v:Int) (w:World) (h:aK T b mem regs pc w) (N:0<n) (L:n<=8) (K:a+n<=4096):
    Calls prog 204 #[.pointer (some ⟨b,0,none⟩),.int .i64 a,.int .i64 v,.int .i64 n] w λ e w'=>e=.returned (.tuple #[])/\aK T b (eH mem a (bR n v)) regs pc w'/\aN b w w':=by
 have O:=h.lt;have H:=(show Hid _ from h)
 have M:=λ w'=>WN b a w' (by omega)
 have j:(⟨(bR n v).toArray⟩:ByteArray).size=n:=by simp[ByteArray.size,kw]
 obtain ⟨R,E⟩:∃R,R=((eI mem regs pc).toArray.toList.take a++Lib.byteCells (bR n v)++(eI mem regs pc).toArray.toList.drop (a+(bR n v).length)).toArray:=⟨_,rfl⟩;have I:Hid (∀w',aK T b mem regs pc w'->aK T b (eH mem a (bR n v)) regs pc (w'.setRow b R)):=(show ∀w',_->_ from λ w' y=>by rw[E];exact y.put a (bR n v) (by rw[kw];exact K))
 have J:Hid (∀w',aK T b mem regs pc w'->(Builtin.copy_ #[65,9] 3 #[.slice (some ⟨b,a,none⟩) (4096-a) (4096-a),.string ⟨(bR n v).toArray⟩]).run prog w'=.ok (goInt n) (w'.setRow b R)):=(show ∀w',_->_ from λ w' y=>by
  have e:=BB (P:=prog) w' 65 9 3 5 b a (4096-a) (4096-a) ⟨(bR n v).toArray⟩ (eI mem regs pc).toArray T underlying65 MK y.row (by rw[j];omega) (by rw[j,List.size_toArray,xH y.mlen y.rlen];omega)
  rw[e,j,E,kw])
 clear h E j;go_in;go_wp2_with fail;have D:=(show Hid _ from H.out.next (aU.drew))
 have C:=(show Hid _ from (aN.of_below ((Below.refl w.heap.size w).drew) b))
 go_region_with (first
  | (go_at_call 195;refine zK (pD v n _ L) λ w' q=>?_;have u:=(show Hid _ from D.out.next q);have A:=(show Hid _ from C.out.trans (aN.of_below q b));clear q)
  | (rw[J.out _ u.out];go_simp))
 have F:=(show Hid _ from I.out _ u.out)
 have G:=(show Hid _ from A.out.trans (aN.setRow b _ R))
 generalize World.setRow _ b R=Z at *;go_wp2_with fail;go_end0;exact ⟨rfl,F.out,G.out⟩
def mQ (op):0<bN op/\bN op<=8:=by unfold bN;split<;>(try split)<;>(try split)<;>decide
def PG (b:Nat) (i:aE) (ad p:Int) (w:World) (h:aK T b mem regs pc w) (q:bA ad (bN i.op)=false):
    Calls prog 151 #[.pointer (some ⟨b,0,none⟩),i.val,.int .i64 ad,.int .i64 p] w λ e w'=>e=.returned (aO 3 ad)/\aK T b mem regs pc w'/\aN b w w':=by
 have y:=h.lt;obtain ⟨o,rd,r1,r2,imm⟩:=i;have u:=(show Hid _ from aV.new h [.int .i64 o,.int .i64 rd,.int .i64 r1,.int .i64 r2,.int .i64 imm] 26 56)
 have A:=mQ o;have j:=(show Hid _ from λ w'=>uv o w')
 unfold aE.val;simp only at q ⊢;generalize bN o=n at *;go_in
 go_wp2_with (first
  | (go_at_call 202;refine (j.out _).mono ?_;rintro e w' ⟨rfl,rfl⟩)
  | (go_at_call 87;refine (iX _ _ _ _ (by omega) (by omega)).mono ?_;rintro e w' ⟨rfl,rfl⟩))
 refine zp (v:=aO 3 ad) (by simp[results,results151,go_sem,aO]) rfl ⟨rfl,?_⟩
 exact ⟨(h.alloc _).alloc _,((aN.refl b w).alloc _).alloc _⟩
def Nv (b:Nat) (i:aE) (ad p:Int) (w:World) (h:aK T b mem regs pc w) (q:bA ad (bN i.op)=false):
    Calls prog 152 #[.pointer (some ⟨b,0,none⟩),i.val,.int .i64 ad,.int .i64 p] w λ e w'=>e=.returned (aO 3 ad)/\aK T b mem regs pc w'/\aN b w w':=by
 have u:=h.lt;obtain ⟨o,rd,r1,r2,imm⟩:=i;have y:=mQ o;have j:=(show Hid _ from λ w'=>uv o w')
 unfold aE.val;simp only at q ⊢;generalize bN o=n at *;go_in
 go_wp2_with (first
  | (go_at_call 202;refine (j.out _).mono ?_;rintro e w' ⟨rfl,rfl⟩)
  | (go_at_call 87;refine (iX _ _ _ _ (by omega) (by omega)).mono ?_;rintro e w' ⟨rfl,rfl⟩))
 refine zp (v:=aO 3 ad) (by simp[results,results152,go_sem,aO]) rfl ⟨rfl,?_⟩
 exact ⟨(h.alloc _).alloc _,((aN.refl b w).alloc _).alloc _⟩
def Rw (b a o rd:Nat) (r1 r2 imm p:Int) (w:World) (h:aK T b mem regs pc w) (M:a+bN o<=4096) (O:rd<32):
    Calls prog 151 #[.pointer (some ⟨b,0,none⟩),(aE.mk o rd r1 r2 imm).val,.int .i64 a,.int .i64 p] w λ e w'=>e=.returned (aO 0 0)/\aK T b mem (eC regs rd (ir o (bY mem a (bN o)))) p w'/\aN b w w':=by
 have N:=h.lt;have u:=(show Hid _ from aV.new h [.int .i64 o,.int .i64 rd,.int .i64 r1,.int .i64 r2,.int .i64 imm] 26 56)
 have I:=mQ o;have C:=(show Hid _ from λ w'=>uv o w')
 have A:=(show Hid _ from λ n w'=>Lt o n w')
 unfold aE.val;simp only;generalize bN o=n at *;have R:bA a n=true:=by simp[bA];omega
 have y:=(show Hid _ from λ w' (L:aK T b mem regs pc w')=>ow b a n w' L I.1 I.2 M)
 generalize bY mem a n=V at *;generalize H:ir o V=X at *;have K:=(show Hid _ from H)
 clear H h;go_in
 go_wp2_with (first
  | (go_at_call 202;refine (C.out _).mono ?_;rintro e w' ⟨rfl,rfl⟩)
  | (go_at_call 87;refine (iX _ _ _ _ (by omega) (by omega)).mono ?_;rintro e w' ⟨rfl,rfl⟩))
 generalize World.alloc (w.alloc _) _=P at u ⊢;obtain ⟨U,W⟩:=bE u.out.i.2.2;have j:=u.out
 go_region_held3 (λ w'=>w'.cell? ⟨w.heap.size,0,none⟩=some (.int .i64 o)/\w'.cell? ⟨w.heap.size,1,none⟩=some (.int .i64 rd)) (go_keep)
     (first
      | (go_at_call 88;refine (y.out _ (aV.m (by first|assumption|exact aV.next j (aU.drew)))).mono ?_;rintro e w' ⟨rfl,rfl⟩)
      | (go_at_call 203;refine (A.out V _).mono ?_;rw[K.out];rintro e w' ⟨rfl,rfl⟩)
      | (go_at_call 149;refine (mO b rd _ _ _ (aV.m (by first|assumption|exact aV.next j (aU.drew))) O).mono ?_;rintro e w' ⟨rfl,G,F⟩;obtain ⟨E,q,D⟩:=kg (by first|assumption|exact aV.next j (aU.drew)) N G F;obtain ⟨Y,Z⟩:=bE E.2.2;obtain ⟨f0,f1⟩:=bE q.2.2;have Q:=q.2.1;unfold aO))
 have J:=(show Hid _ from D)
 go_wp2;refine zp (v:=aO 0 0) (by simp[results,results151,go_sem,aO,f0,f1]) rfl ⟨rfl,?_⟩
 exact J.out _ _
def aV.kept {p:Int} {w0 w w':World} {i:List Value} (h:aV T b mem regs pc w0 i w) (u:b<w0.heap.size) (q:aK T b mem' regs' p w') (j:aN b w w'):aV T b mem' regs' p w0 i w':=
 ⟨q,h.i.kept j (by omega),h.e.kept j (by omega),h.k.trans j⟩
def QA (b a o r2:Nat) (r1 imm p:Int) (w:World) (h:aK T b mem regs pc w) (M:a+bN o<=4096) (L:r2<32):
    Calls prog 152 #[.pointer (some ⟨b,0,none⟩),(aE.mk o 0 r1 r2 imm).val,.int .i64 a,.int .i64 p] w λ e w'=>e=.returned (aO 0 0)/\aK T b (eH mem a (bR (bN o) (regs.getD r2 0))) regs p w'/\aN b w w':=by
 have H:=h.lt;have q:=(show Hid _ from aV.new h [.int .i64 o,.int .i64 0,.int .i64 r1,.int .i64 r2,.int .i64 imm] 26 56)
 have I:=mQ o;have E:=(show Hid _ from λ w'=>uv o w')
 unfold aE.val;simp only;generalize bN o=n at *;have U:bA a n=true:=by simp[bA];omega
 have F:=(show Hid _ from λ w' v (K:aK T b mem regs pc w')=>CZ b a n v w' K I.1 I.2 M)
 clear h;go_in
 go_wp2_with (first
  | (go_at_call 202;refine (E.out _).mono ?_;rintro e w' ⟨rfl,rfl⟩)
  | (go_at_call 87;refine (iX _ _ _ _ (by omega) (by omega)).mono ?_;rintro e w' ⟨rfl,rfl⟩))
 generalize World.alloc (w.alloc _) _=Q at q ⊢;have O:=q.out.i.2.2 3 _ rfl;have P:=q.out.m.cellR r2 L;have N:(r2:Int)<32:=by omega
 generalize G:regs.getD r2 0=X at *;have J:=(show Hid _ from G)
 clear G;go_region_with (go_at_call 204;refine (F.out _ X (q.out.next (aU.drew)).m).mono ?_;rintro e W ⟨rfl,A,u⟩);have j:=(show Hid _ from aV.kept (q.out.next (aU.drew)) H A u)
 clear A u q O P;have V:=j.out.i.2.2 1 _ rfl;go_wp2_with fail;refine (mO b 0 _ _ _ j.out.m (by omega)).mono ?_
 rintro e Y ⟨rfl,C,y⟩;have D:=(show Hid _ from kg j.out H C y)
 obtain ⟨f0,f1⟩:=bE D.out.2.1.2.2;have R:=D.out.2.1.2.1;clear C y;unfold aO;go_wp2;refine zp (v:=aO 0 0) (by simp[results,results152,go_sem,aO,f0,f1]) rfl ⟨rfl,?_⟩
 rw[J.out];exact D.out.2.2 _ _
def IU (b o r1 rd:Nat) (imm p ad x y:Int) (w:World) (h:aK T b mem regs pc w) (P:r1<32) (hj:¬(o:Int)=49) (R:iL ⟨o,rd,r1,0,imm⟩=.tuple #[dE (o-1),.bool true]) (G:fN (row (o-1)).kind=4) (M:IntKind.i64.wrap (regs.getD r1 0+imm)=ad) (u:∀H,aK T b mem regs pc H->Calls prog 151 #[.pointer (some ⟨b,0,none⟩),(aE.mk o rd r1 0 imm).val,.int .i64 ad,.int .i64 p] H λ e w'=>e=.returned (aO x y)/\aK T b mem' regs' pc' w'/\aN b H w'):
    Calls prog 90 #[.pointer (some ⟨b,0,none⟩),(aE.mk o rd r1 0 imm).val,.int .i64 p] w λ e w'=>e=.returned (aO x y)/\aK T b mem' regs' pc' w'/\aN b w w':=by
 have Q:=h.lt;unfold aE.val at u;simp only at u;have J:=(show Hid _ from u)
 clear u;go_in;unfold aE.val;simp only;go_wp2_with fail;refine zK (iI (aE.mk o rd r1 0 imm) _) λ H C=>?_;have j:=(show Hid _ from (aV.new h [.int .i64 o,.int .i64 rd,.int .i64 r1,.int .i64 0,.int .i64 imm] 26 56).next C)
 clear C;obtain ⟨U,V,W,X⟩:=kt j.out.i.2.2;have K:=j.out.i.1;have L:=j.out.e.1;have Z:=j.out.m.cellR r1 P;have m2:=j.out.m.cellR 0 (by decide)
 have mb:=j.out.m.lt;rw[R];unfold dE bO;rw[G];generalize F:regs.getD r1 0=O at *;have N:=(show Hid _ from F)
 clear F;have Y:=j.out.i.2.2 4 _ rfl;have hA2:wrap64 (O+imm)=ad:=(aH _).trans M;clear M;go_wp2_with fail;go_quiet (fail);have q:=(j.out.alloc (.cells (bO (o-1)).toArray 100)).drewN nq;unfold bO at q;rw[G]at q;have A:=(show Hid _ from q)
 clear j q;go_wp2_with fail;refine (J.out _ A.out.m).mono ?_;rintro e w3 ⟨rfl,E,D⟩;have I:=(show Hid _ from kg A.out Q E D)
 clear E D A U V W X Y K L Z m2 mb;obtain ⟨f0,f1⟩:=bE I.out.2.1.2.2;have ff:=I.out.2.1.2.1;unfold aO;go_wp2;refine zp (v:=aO x y) (by simp[results,results90,go_sem,aO,f0,f1]) rfl ⟨rfl,?_⟩
 exact I.out.2.2 _ _
def IP (b o r1 r2:Nat) (imm p ad x y:Int) (w:World) (h:aK T b mem regs pc w) (P:r1<32) (Q:r2<32) (U:iL ⟨o,0,r1,r2,imm⟩=.tuple #[dE (o-1),.bool true]) (G:fN (row (o-1)).kind=5) (M:IntKind.i64.wrap (regs.getD r1 0+imm)=ad) (u:∀H,aK T b mem regs pc H->Calls prog 152 #[.pointer (some ⟨b,0,none⟩),(aE.mk o 0 r1 r2 imm).val,.int .i64 ad,.int .i64 p] H λ e w'=>e=.returned (aO x y)/\aK T b mem' regs' pc' w'/\aN b H w'):
    Calls prog 90 #[.pointer (some ⟨b,0,none⟩),(aE.mk o 0 r1 r2 imm).val,.int .i64 p] w λ e w'=>e=.returned (aO x y)/\aK T b mem' regs' pc' w'/\aN b w w':=by
 have R:=h.lt;unfold aE.val at u;simp only at u;have J:=(show Hid _ from u)
 clear u;go_in;unfold aE.val;simp only;go_wp2_with fail;refine zK (iI (aE.mk o 0 r1 r2 imm) _) λ H C=>?_;have j:=(show Hid _ from (aV.new h [.int .i64 o,.int .i64 0,.int .i64 r1,.int .i64 r2,.int .i64 imm] 26 56).next C)
 clear C;obtain ⟨V,W,X,Y⟩:=kt j.out.i.2.2;have K:=j.out.i.1;have L:=j.out.e.1;have m1:=j.out.m.cellR r1 P;have m2:=j.out.m.cellR r2 Q;have mb:=j.out.m.lt;rw[U];unfold dE bO;rw[G];generalize F:regs.getD r1 0=O at *;have N:=(show Hid _ from F)
 clear F;have Z:=j.out.i.2.2 4 _ rfl;have hA2:wrap64 (O+imm)=ad:=(aH _).trans M;clear M;go_wp2_with fail;go_quiet (fail);have q:=(j.out.alloc (.cells (bO (o-1)).toArray 100)).drewN nq;unfold bO at q;rw[G]at q;have A:=(show Hid _ from q)
 clear j q;go_wp2_with fail;refine (J.out _ A.out.m).mono ?_;rintro e w3 ⟨rfl,E,D⟩;have I:=(show Hid _ from kg A.out R E D)
 clear E D A V W X Y Z K L m1 m2 mb;obtain ⟨f0,f1⟩:=bE I.out.2.1.2.2;have ff:=I.out.2.1.2.1;unfold aO;go_wp2;refine zp (v:=aO x y) (by simp[results,results90,go_sem,aO,f0,f1]) rfl ⟨rfl,?_⟩
 exact I.out.2.2 _ _
def lP (op:Int) (a b:Int):Bool:=
 if op=54 then decide (a=b) else if op=55 then a != b else if op=56 then decide (a<b) else if op=57 then decide (b<=a)
 else if op=58 then decide (IntKind.u64.wrap a<IntKind.u64.wrap b) else decide (IntKind.u64.wrap b<=IntKind.u64.wrap a)
def Kt (o:Nat) (j:54<=o) (q:o<=59) (a b:Int) (w:World):
    zS prog 153 #[.int .i64 o,.int .i64 a,.int .i64 b] w (.bool (lP o a b)):=by
 unfold zS;have h:o=54\/o=55\/o=56\/o=57\/o=58\/o=59:=by omega
 rcases h with rfl|rfl|rfl|rfl|rfl|rfl
 all_goals
  go_in;go_wp2;go_ret;refine ⟨?_,rfl⟩;congr 2
  first|done|simp[lP]
def Vm (b o r1 r2:Nat) (imm p q:Int) (w:World) (h:aK T b mem regs pc w) (Z:r1<32) (h2:r2<32) (o1:54<=o) (o2:o<=59) (hv:iL ⟨o,0,r1,r2,imm⟩=.tuple #[dE (o-1),.bool true]) (J:fN (row (o-1)).kind=6) (hq:IntKind.i64.wrap (pc+imm)=q) (z:Int) (E:(if lP o (regs.getD r1 0) (regs.getD r2 0)=true then q else p)=z):
    Calls prog 90 #[.pointer (some ⟨b,0,none⟩),(aE.mk o 0 r1 r2 imm).val,.int .i64 p] w λ e w'=>e=.returned (aO 0 0)/\aK T b mem regs z w'/\aN b w w':=by
 have U:=h.lt;go_in;unfold aE.val;simp only;go_wp2_with fail;refine zK (iI (aE.mk o 0 r1 r2 imm) _) λ w1 H=>?_;have u:=(show Hid _ from (aV.new h [.int .i64 o,.int .i64 0,.int .i64 r1,.int .i64 r2,.int .i64 imm] 26 56).next H)
 clear H;obtain ⟨V,W,i2,i3⟩:=kt u.out.i.2.2;have N:=u.out.i.1;have O:=u.out.e.1;have m1:=u.out.m.cellR r1 Z;have m2:=u.out.m.cellR r2 h2;have mb:=u.out.m.lt;rw[hv];unfold dE bO;rw[J];generalize L:regs.getD r1 0=Q at *;generalize M:regs.getD r2 0=R at *;clear L M;have G:=aA (λ w'=>Kt o o1 o2 Q R w')
 have P:=aA E;clear E;have ac:wrap64 (pc+imm)=q:=(aH _).trans hq;go_wp2_with fail;go_quiet (fail);go_wp2_with fail;have j:=(u.out.alloc (.cells (bO (o-1)).toArray 100)).drewN nq;unfold bO at j;rw[J]at j;clear u V W i2 i3 N O m1 m2 mb;generalize World.drewN (w1.alloc _) nq=W2 at j ⊢;obtain ⟨V,W,_,_,i4⟩:=bF j.i.2.2;have mp:=j.m.cellP;go_wp2_with fail;refine (G.out _).mono ?_;rintro e w' ⟨rfl,rfl⟩;have E:=P.out;clear P G;generalize lP o Q R=X at E ⊢;have I:(0:Nat)<32:=by decide
 cases X
 .rw[aC (by decide)]at E
  subst E;go_wp2_with fail;refine (mO b 0 _ _ _ j.m I).mono ?_;rintro e w' ⟨rfl,D,C⟩;obtain ⟨F,y,A⟩:=kg j U D C;obtain ⟨f0,f1⟩:=bE y.2.2;have Y:=y.2.1;have K:=aA A;clear A F y D C;unfold aO;go_wp2;refine zp (v:=aO 0 0) (by simp[results,results90,go_sem,aO,f0,f1]) rfl ⟨rfl,?_⟩
  exact K.out _ _
 rw[zt rfl]at E;subst E;go_wp2_with fail
 go_region_with (first
  | (go_at_call 149;refine (mO b 0 _ _ _ (aV.m (by first|exact j|exact aV.drewN j _|exact j.next (aU.drew))) I).mono ?_;rintro e w' ⟨rfl,D,C⟩;obtain ⟨F,y,A⟩:=kg (by first|exact j|exact aV.drewN j _|exact j.next (aU.drew)) U D C;obtain ⟨f0,f1⟩:=bE y.2.2;have Y:=y.2.1;unfold aO))
 all_goals
  have K:=aA A;clear A F y D C;go_wp2;refine zp (v:=aO 0 0) (by simp[results,results90,go_sem,aO,f0,f1]) rfl ⟨rfl,?_⟩
  exact K.out _ _
def N0 (b) (rd imm v) (w) (h:aK T b mem regs pc w) (j:IntKind.i64.wrap (imm*4096)=v):
    aG prog 154 #[.pointer (some ⟨b,0,none⟩),(aE.mk 60 rd 0 0 imm).val] w (.int .i64 v):=by
 unfold aG;have u:=h.lt;have q:wrap64 (imm*4096)=v:=(aH _).trans j;go_in;unfold aE.val;simp only;go_wp2;go_ret;exact ⟨rfl,aJ⟩
def WU (b rd:Nat) (imm p v:Int) (w:World) (h:aK T b mem regs pc w) (X:rd<32) (Y:iL ⟨60,rd,0,0,imm⟩=.tuple #[dE 59,.bool true]) (J:fN (row 59).kind=7) (M:IntKind.i64.wrap (imm*4096)=v):
    Calls prog 90 #[.pointer (some ⟨b,0,none⟩),(aE.mk 60 rd 0 0 imm).val,.int .i64 p] w λ e w'=>e=.returned (aO 0 0)/\aK T b mem (eC regs rd v) p w'/\aN b w w':=by
 have W:=h.lt;have y:=aA (λ w' (V:aK T b mem regs pc w')=>N0 b rd imm v w' V M)
 unfold aE.val at y;simp only at y;go_in;unfold aE.val;simp only;go_wp2_with fail;refine zK (iI (aE.mk 60 rd 0 0 imm) _) λ w1 C=>?_;have q:=(show Hid _ from (aV.new h [.int .i64 60,.int .i64 rd,.int .i64 0,.int .i64 0,.int .i64 imm] 26 56).next C)
 clear C;obtain ⟨N,O,P,Q⟩:=kt q.out.i.2.2;have K:=q.out.i.1;have L:=q.out.e.1;have Z:=q.out.m.cellR 0 (by decide)
 have mb:=q.out.m.lt;rw[Y];unfold dE bO;rw[J];go_wp2_with fail;go_quiet (fail);go_wp2_with fail;generalize H:World.drewN (w1.alloc _) nq=U;have j:aV T b mem regs pc w [.int .i64 60,.int .i64 rd,.int .i64 0,.int .i64 0,.int .i64 imm] U:=by rw[<-H];exact (q.out.alloc _).drewN nq
 clear H q N O P Q K L Z mb;obtain ⟨N,O,P,Q,i4⟩:=bF j.i.2.2;go_wp2_with fail;have u:=j
 go_region_held3 (λ w'=>w'.cell? ⟨w.heap.size,0,none⟩=some (.int .i64 60)/\w'.cell? ⟨w.heap.size,1,none⟩=some (.int .i64 rd)/\w'.cell? ⟨w.heap.size,2,none⟩=some (.int .i64 0)/\w'.cell? ⟨w.heap.size,3,none⟩=some (.int .i64 0)/\w'.cell? ⟨w.heap.size,4,none⟩=some (.int .i64 imm)) (go_keep)
  (first
   | (go_at_call 154;refine zK (y.out _ (aV.m (by first|exact j|exact aV.drewN j _|exact j.next (aU.drew)))) λ w' I=>?_;have u:=aV.next (by first|exact j|exact aV.drewN j _|exact j.next (aU.drew)) I;obtain ⟨q0,q1,q2,q3,q4⟩:=bF u.i.2.2)
   | (go_at_call 149;refine (mO b rd _ _ _ u.m X).mono ?_;rintro e w' ⟨rfl,G,F⟩;obtain ⟨E,A,D⟩:=kg u W G F;obtain ⟨q0,q1,q2,q3,q4⟩:=bF E.2.2;obtain ⟨f0,f1⟩:=bE A.2.2;have ff:=A.2.1;unfold aO))
 all_goals
  have R:=aA D;clear D E A G F;go_wp2;refine zp (v:=aO 0 0) (by simp[results,results90,go_sem,aO,f0,f1]) rfl ⟨rfl,?_⟩
  exact R.out _ _
def Xr (b rd:Nat) (imm p q:Int) (w:World) (h:aK T b mem regs pc w) (P:rd<32) (U:iL ⟨62,rd,0,0,imm⟩=.tuple #[dE 61,.bool true]) (H:fN (row 61).kind=8) (Q:IntKind.i64.wrap (pc+imm)=q):
    Calls prog 90 #[.pointer (some ⟨b,0,none⟩),(aE.mk 62 rd 0 0 imm).val,.int .i64 p] w λ e w'=>e=.returned (aO 0 0)/\aK T b mem (eC regs rd p) q w'/\aN b w w':=by
 have O:=h.lt;go_in;unfold aE.val;simp only;go_wp2_with fail;refine zK (iI (aE.mk 62 rd 0 0 imm) _) λ Z A=>?_;have u:=(show Hid _ from (aV.new h [.int .i64 62,.int .i64 rd,.int .i64 0,.int .i64 0,.int .i64 imm] 26 56).next A)
 clear A;obtain ⟨K,L,V,W⟩:=kt u.out.i.2.2;have I:=u.out.i.1;have J:=u.out.e.1;have X:=u.out.m.cellR 0 (by decide)
 have Y:=u.out.m.lt;rw[U];unfold dE bO;rw[H];have R:wrap64 (pc+imm)=q:=(aH _).trans Q;go_wp2_with fail;go_quiet (fail);go_wp2_with fail;generalize F:World.drewN (Z.alloc _) nq=N;have j:aV T b mem regs pc w [.int .i64 62,.int .i64 rd,.int .i64 0,.int .i64 0,.int .i64 imm] N:=by rw[<-F];exact (u.out.alloc _).drewN nq
 clear F u K L V W I J X Y;obtain ⟨K,L,_,_,i4⟩:=bF j.i.2.2;have mp:=j.m.cellP;go_wp2_with fail
 go_region_with (first
  | (go_at_call 149;refine (mO b rd _ _ _ (aV.m (by first|exact j|exact aV.drewN j _|exact j.next (aU.drew))) P).mono ?_;rintro e w' ⟨rfl,E,D⟩;obtain ⟨G,y,C⟩:=kg (by first|exact j|exact aV.drewN j _|exact j.next (aU.drew)) O E D;obtain ⟨f0,f1⟩:=bE y.2.2;have ff:=y.2.1;unfold aO))
 all_goals
  have M:=aA C;clear C G y E D;go_wp2;refine zp (v:=aO 0 0) (by simp[results,results90,go_sem,aO,f0,f1]) rfl ⟨rfl,?_⟩
  exact M.out _ _
def DN (b a:Nat) (w:World) (h:aK T b mem regs (a:Int) w) (A:a+2<=4096) (u:¬aP (cF mem a 2)%4=3):
    zS prog 86 #[.pointer (some ⟨b,0,none⟩)] w (.int .i64 2):=by
 unfold zS;have C:=h.cellP;have D:bA (a:Int) 2=true:=by simp[bA];omega
 have j:=kM (cF mem a 2);rw[sX (by rw[h.mlen];omega)]at j
 have E:¬bits .and .i64 (bY mem a 2) 3=3:=by
  have v:bY mem a 2=aP (cF mem a 2):=by unfold bY;rw[zo];simp at j;omega
  rw[v];have q:bits .and .i64 (aP (cF mem a 2)) 3=aP (cF mem a 2)%2^2:=kK (aP (cF mem a 2)) 2 3 rfl (by decide)
  intro y;rw[y]at q;exact u (by simpa using q.symm)
 clear j u;go_in
 go_wp2_with (first
  | (go_at_call 50;refine zk (nQ _ _ h) ?_)
  | (go_at_call 87;refine zk (iX _ _ _ _ (by decide) (by decide)) ?_)
  | (go_at_call 88;refine zk (ow _ a 2 _ h (by decide) (by decide) (by omega)) ?_))
 go_ret;exact ⟨rfl,rfl⟩
def DL (n) (w):
    aG prog 89 #[.int .i64 n,.int .i64 2] w (.tuple #[(cE n).1.val,.int .i64 (cE n).2]):=by
 unfold aG;go_in;go_wp2_with fail;refine zK (xu n _) λ C h=>?_;obtain ⟨A,J,u⟩:=(aF.new w zI 26).next h;obtain ⟨E,F,G,H,I⟩:=bF u;have j:Hid (Below w.heap.size w C):=aJ.trans (h.mono (by simp))
 clear h u;generalize q:cE n=D;have y:=(show Hid _ from q)
 clear q;obtain ⟨⟨op,rd,rs1,rs2,imm⟩,er⟩:=D;unfold aE.val;simp only;go_wp2;refine zp (v:=.tuple #[(aE.mk op rd rs1 rs2 imm).val,.int .i64 er]) (by simp[results,results89,go_sem,E,F,G,H,I,aE.val]) rfl ⟨by rw[y.out],kf j.out _ _ _ _ _⟩
def N9 (b a:Nat) (i:aE) (x y:Int) (w:World) (h:aK T b mem regs (a:Int) w) (O:a+2<=4096) (N:¬aP (cF mem a 2)%4=3) (hi:cE (bY mem a 2)=(i,0)) (u:∀C,aK T b mem regs (a:Int) C->Calls prog 90 #[.pointer (some ⟨b,0,none⟩),i.val,.int .i64 (a+2)] C λ e w'=>e=.returned (aO x y)/\aK T b mem' regs' pc' w'/\aN b C w'):
    Calls prog 48 #[.pointer (some ⟨b,0,none⟩)] w λ e w'=>e=.returned (aO x y)/\aK T b mem' regs' pc' w'/\aN b w w':=by
 have P:=h.lt;have X:bA (a:Int) 2=true:=by simp[bA];omega
 have q:=(show Hid _ from h.alloc (.cells #[.int .i64 0,.int .i64 0] 56))
 have R:=h.cellP;obtain ⟨op,rd,rs1,rs2,imm⟩:=i;unfold aE.val at u;simp only at u;have G:=(show Hid _ from u)
 clear u;go_in
 go_wp2_with (first
  | (go_at_call 86;refine (DN _ _ _ q.out O N).mono ?_;rintro e w' ⟨rfl,rfl⟩)
  | (go_at_call 50;refine (nQ _ _ q.out).mono ?_;rintro e w' ⟨rfl,rfl⟩)
  | (go_at_call 87;refine (iX _ _ _ _ (by decide) (by decide)).mono ?_;rintro e w' ⟨rfl,rfl⟩)
  | (go_at_call 88;refine (ow _ a 2 _ q.out (by decide) (by decide) (by omega)).mono ?_;rintro e w' ⟨rfl,rfl⟩))
 refine zK (DL _ _) λ C D=>?_;rw[hi];have j:=(show Hid _ from (cS.new h 56).next D)
 clear D R q;have L:=j.out.e.1;have K:=j.out.m.cellP;have Q:=j.out.m.lt;unfold aE.val;simp only;go_wp2_with fail;have A:=(show Hid _ from j.out.alloc (.cells #[.int .i64 op,.int .i64 rd,.int .i64 rs1,.int .i64 rs2,.int .i64 imm] 26))
 have F:=aF.new C [.int .i64 op,.int .i64 rd,.int .i64 rs1,.int .i64 rs2,.int .i64 imm] 26;clear L K j;obtain ⟨Y,Z,i2,i3,i4⟩:=bF F.2.2;clear F;generalize C.alloc (.cells #[.int .i64 op,.int .i64 rd,.int .i64 rs1,.int .i64 rs2,.int .i64 imm] 26)=V at *;have U:=A.out.m.cellP;have wa:IntKind.i64.wrap ((a:Int)+2)=a+2:=zw _ (by omega)
 go_region_with (go_at_call 90;refine (G.out _ (A.out.m.next (aU.drew))).mono ?_;rintro e w' ⟨rfl,J,I⟩;obtain ⟨E,H⟩:=cS.fin (A.out.next (aU.drew)) P J I;obtain ⟨f0,f1⟩:=bE E.2.2;have W:=E.2.1;unfold aO)
 all_goals
  have M:=(show Hid _ from H)
  go_wp2;refine zp (v:=aO x y) (by simp[results,results48,go_sem,aO,f0,f1]) rfl ⟨rfl,?_⟩
  exact M.out _ _
def T0 {w:World} (h:aK T b mem regs pc w) (a):0<=mem.getD a 0/\mem.getD a 0<256:=by
 by_cases j:a<mem.length
 .have e:mem.getD a 0=mem[a]:=by simp[List.getD,j]
  rw[e];exact h.byte _ (List.getElem_mem j)
 have e:mem.getD a 0=0:=by simp[List.getD,Nat.le_of_not_lt j]
 rw[e];decide
def rE (x):-9223372036854775808<=IntKind.i64.wrap x/\IntKind.i64.wrap x<9223372036854775808:=by
 rw[zo];omega
def n8 (x):-2147483648<=bP x/\bP x<2147483648:=by
 unfold bP;rw[IntKind.wrap_i32];omega
def IV (t):0<=mA t/\mA t<=1:=by unfold mA;split<;>omega
def J1 (n) (u:0<m) (h:-m<=a/\a<m):-m<=a/2^n/\a/2^n<m:=by
 have j:(1:Int)<=2^n:=by
  have:=Int.pow_pos (n:=2) (m:=n) (by decide)
  omega
 have q:m*1<=m*2^n:=Int.mul_le_mul_of_nonneg_left j (by omega)
 constructor
 .refine (Int.le_ediv_iff_mul_le (by omega)).2 ?_
  rw[Int.neg_mul];omega
 refine Int.ediv_lt_of_lt_mul (by omega) ?_
 omega
def Wo (b) (h:-m<=a/\a<m):-m<=a.tmod b/\a.tmod b<m:=by
 rcases Int.le_total 0 a with j|j
 .have q:=Int.tmod_nonneg b j
  have u:(a.tmod b).natAbs<=a.natAbs:=by rw[Int.natAbs_tmod];exact Nat.mod_le _ _
  omega
 have q:=Int.tmod_nonneg b (a:=-a) (by omega)
 have u:(a.tmod b).natAbs<=a.natAbs:=by rw[Int.natAbs_tmod];exact Nat.mod_le _ _
 rw[Int.neg_tmod]at q;omega
def WP (a b):-9223372036854775808<=lQ a b/\lQ a b<9223372036854775808:=by
 unfold lQ;split
 .omega
 exact rE _
def Xp (a b):-9223372036854775808<=lI a b/\lI a b<9223372036854775808:=by
 unfold lI;split
 .omega
 exact rE _
def WI (b) (h:-9223372036854775808<=a/\a<9223372036854775808):-9223372036854775808<=lJ a b/\lJ a b<9223372036854775808:=by
 unfold lJ;split
 .exact h
 exact rE _
def Bk (b) (h:-m<=a/\a<m):-m<=ms a b/\ms a b<m:=by
 unfold ms;split
 .exact h
 exact Wo b h
def Wh (a b):-9223372036854775808<=mw a b/\mw a b<9223372036854775808:=rE _
def B2 (op:BinOp) (a b):-9223372036854775808<=bits op .i64 a b/\bits op .i64 a b<9223372036854775808:=by
 unfold bits;exact rE _
def VT (op) {b:Int} (j:-9223372036854775808<=a/\a<9223372036854775808):-9223372036854775808<=comp op a b/\comp op a b<9223372036854775808:=by
 have q:=n8 a;unfold comp
 split
 all_goals first
  | with_reducible exact rE _
  | with_reducible exact B2 _ _ _
  | with_reducible exact Wh _ _
  | (unfold aT;with_reducible exact B2 _ _ _)
  | (unfold eO;with_reducible exact B2 _ _ _)
  | with_reducible exact WP _ _
  | with_reducible exact Xp _ _
  | with_reducible exact WI _ j
  | with_reducible exact Bk _ j
  | with_reducible exact J1 _ (by decide) j
  | (have h:=IV (decide (a<b));omega)
  | (have h:=IV (decide (a%18446744073709551616<b%18446744073709551616));omega)
  | (have h:=Bk (m:=2147483648) (bP b) q;omega)
  | (have h:=J1 (m:=2147483648) (b%32).toNat (by decide) q;omega)
  | (have h:=n8 (a+b);omega)
  | (have h:=n8 (a-b);omega)
  | (have h:=n8 (a*2^(b%32).toNat);omega)
  | (have h:=n8 (a%4294967296/2^(b%32).toNat);omega)
  | (have h:=n8 (a*b);omega)
  | (have h:=n8 (lQ (bP a) (bP b));omega)
  | (have h:=n8 (lI (a%4294967296) (b%4294967296));omega)
  | (have h:=n8 (lJ (a%4294967296) (b%4294967296));omega)
  | omega
def Qg {a n:Nat} (h:a<mem.length) (j:0<=mem.getD a 0/\mem.getD a 0<256):aP (cF mem a (n+1))=mem.getD a 0+256*aP (cF mem (a+1) n):=by
 have e:mem.getD a 0=mem[a]:=by simp[List.getD,h]
 rw[e]at j ⊢;unfold cF;rw[List.drop_eq_getElem_cons h,List.take_succ_cons,List.map_cons,aP,UInt8.toNat_ofNat'];omega
def SZ (mem) (a):aP (cF mem a 0)=0:=by simp[cF,aP]
def AR:∀k,k<28->(row k).kind=82:=by decide
def GS:∀k,k<41->28<=k->(row k).kind=73\/(row k).kind=72\/(row k).kind=87:=by decide
def Aq:∀k,k<48->41<=k->(row k).kind=76:=by decide
def AN:∀k,k<53->49<=k->(row k).kind=83:=by decide
def Tl (q:(row k).kind=82) (j:k<64) {rd:Int} (h:right ⟨k+1,rd,r1,r2,imm⟩=true):(0<=rd/\rd<=31)/\(0<=r1/\r1<=31)/\(0<=r2/\r2<=31)/\imm=0:=by
 rw[dJ k _ _ _ _ j,q]at h;simp[has,cK,bU,cW]at h;omega
def zO (j:(row k).kind=73\/(row k).kind=72\/(row k).kind=87\/(row k).kind=76) (q:k<64) {rd:Int} (h:right ⟨k+1,rd,r1,r2,imm⟩=true):(0<=rd/\rd<=31)/\(0<=r1/\r1<=31)/\r2=0/\-2048<=imm/\imm<=2047:=by
 rw[dJ k _ _ _ _ q]at h;rcases j with j|j|j|j
 all_goals
  rw[j]at h;simp[has,cK,bU,cW]at h;omega
def Sn (q:(row k).kind=83) (j:k<64) {rd:Int} (h:right ⟨k+1,rd,r1,r2,imm⟩=true):rd=0/\(0<=r1/\r1<=31)/\(0<=r2/\r2<=31)/\-2048<=imm/\imm<=2047:=by
 rw[dJ k _ _ _ _ j,q]at h;simp[has,cK,bU,cW]at h;omega
