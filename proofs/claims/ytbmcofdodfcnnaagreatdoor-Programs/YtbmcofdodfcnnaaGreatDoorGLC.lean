import Derived.Test.YtbmcofdodfcnnaaGreatDoorGLA
import Derived.Test.YtbmcofdodfcnnaaGreatDoorGAW
set_option linter.all false
set_option maxHeartbeats 400000000
set_option maxRecDepth 100000
namespace Go.Proofs.YtbmcofdodfcnnaaGreatDoor
open Pn
open Go.Proofs.Tryz
open Go.RowKit
def b57 (ps:List Pn.Prt) (er:Int) (w:World) (e:Ending) (w':World):Prop:=
 ∃ao n cp,e=.returned (.tuple #[.slice ao n cp,.int .i64 er])/\w'.ownsRow w.heap.size 193 7 (.slice ao n cp) ps.length (ps.flatMap a3j)/\Below w.heap.size w w'
theorem a1n {er:Int} {w w':World} (hB:Below w.heap.size w w'):b57 [] er w (.returned (.tuple #[.slice none 0 0,.int .i64 er])) w':=
 ⟨_,_,_,rfl,World.ownsRow_nil _ _ _ _,hB⟩
theorem a4G {p:Pn.Prt} {er:Int} {w W:World} (hB:Below w.heap.size w W):b57 [p] er w (.returned (.tuple #[.slice (some ⟨W.heap.size,0,none⟩) 1 1,.int .i64 er])) (W.alloc (.cells (a3j p).toArray 193)):=
 ⟨_,_,_,rfl,by
  have:=World.ownsRow_lit (base:=w.heap.size) (e:=193) (size:=7) W (a3j p).toArray 1 hB.size (by unfold maxLen;omega) (by rfl)
  simpa using this,hB.alloc hB.size _⟩
theorem b1H (nm:ByteArray) (l:List Pn.Pc) (ao:Option Addr) (cp:Nat) (w:World) (hE:Env w) (hl:a3Z ao l w.heap.size w):
    Calls prog 258 #[.string nm,.slice ao l.length cp] w fun e w'=>b57 (a4m nm l).1 (a4m nm l).2 w e w':=by
 have HR:=hid (a61 nm l ao cp w hE hl);clear hE hl;unfold a4m;generalize a0W nm l=X at *;obtain ⟨⟨op,rd,rs1,rs2,imm⟩,er⟩:=X;simp only;have HS:=hid (fun w'=>a6k ⟨op,rd,rs1,rs2,imm⟩ w' a3O)
 generalize a0q ⟨op,rd,rs1,rs2,imm⟩=Y at *;obtain ⟨h,sx⟩:=Y;simp only;unfold Pn.Ins.val at HR HS;simp only at HR HS;by_cases he:er=0
 ·subst he
  rw[if_pos rfl];by_cases hx:sx=0
  ·subst hx
   rw[if_pos rfl];go_enter func258,ntmps258;go_wp2_with fail;refine HR.out.mono ?_;rintro e w1 ⟨rfl,hB1⟩;have HB1:=hid hB1;clear hB1;go_wp2_with fail;have HB2:=hid (HB1.out.alloc HB1.out.size (.cells #[.int .i64 op,.int .i64 rd,.int .i64 rs1,.int .i64 rs2,.int .i64 imm] 26));generalize w1.alloc _=W at *;refine (HS.out _).mono ?_;rintro e w3 ⟨rfl,hB3⟩;have HB3:=hid (HB2.out.trans (hB3.mono HB2.out.size));clear hB3;go_wp2_with fail;(refine (a5b h 2 _ (by decide)).mono ?_);rintro e w4 ⟨rfl,hB4⟩;have HB4:=hid (HB3.out.trans (hB4.mono HB3.out.size));clear hB4;go_wp2_with fail;go_ret2;exact a4G (p:=⟨a2I 2 h,Pn.a1U,[]⟩) HB4.out
  ·rw[if_neg hx]
   go_enter func258,ntmps258;go_wp2_with fail;refine HR.out.mono ?_;rintro e w1 ⟨rfl,hB1⟩;have HB1:=hid hB1;clear hB1;go_wp2_with fail;have HB2:=hid (HB1.out.alloc HB1.out.size (.cells #[.int .i64 op,.int .i64 rd,.int .i64 rs1,.int .i64 rs2,.int .i64 imm] 26));generalize w1.alloc _=W at *;refine (HS.out _).mono ?_;rintro e w3 ⟨rfl,hB3⟩;have HB3:=hid (HB2.out.trans (hB3.mono HB2.out.size));clear hB3;go_wp2_with fail;go_ret2;exact a1n HB3.out
 ·rw[if_neg he]
  go_enter func258,ntmps258;go_wp2_with fail;refine HR.out.mono ?_;rintro e w1 ⟨rfl,hB1⟩;have HB1:=hid hB1;clear hB1;go_wp2_with fail;go_ret2;exact a1n (HB1.out.alloc HB1.out.size _)
theorem c64:∀r∈(ByteArray.mk #[105]).data.toList,a7b r:=by
 intro r hr;have:r=105:=by simpa using hr
 subst this;simp[a7b]
theorem b5B {size:Nat} {l:List Pn.Pc} (h:a0i [105] l Pn.a1U []=none):a3F size l=([],4):=by simp[a3F,h]
theorem a44 {size:Nat} {l:List Pn.Pc} {s:Pn.Ins×List UInt8} (h:a0i [105] l Pn.a1U []=some s) (hn:s.1.imm<0\/2^(8*size)<=s.1.imm):a3F size l=([],5):=by simp[a3F,h,hn]
theorem a7T {size:Nat} {l:List Pn.Pc} {s:Pn.Ins×List UInt8} (h:a0i [105] l Pn.a1U []=some s) (hn:¬(s.1.imm<0\/2^(8*size)<=s.1.imm)):a3F size l=([⟨a2I size s.1.imm,Pn.a1U,[]⟩],0):=by
 unfold a3F;rw[h];simp only;rw[if_neg hn]
theorem b3g (size:Nat) (hsz:size=1\/size=2\/size=4) (l:List Pn.Pc) (ao:Option Addr) (cp:Nat) (w:World) (hE:Env w) (hl:a3Z ao l w.heap.size w):
    Calls prog 260 #[.int .i64 size,.slice ao l.length cp] w fun e w'=>b57 (a3F size l).1 (a3F size l).2 w e w':=by
 have HZ:Hid (CellsAt w.heap.size (a0f Pn.a1U []) (w.alloc (.cells #[.string ⟨#[]⟩,.int .i64 0,.int .i64 0,.int .i64 0,.int .i64 0,.int .i64 0,.string ⟨#[]⟩] 193))):=hid (CellsAt.new w (a0f Pn.a1U []) 193);have HB0:Hid (Below w.heap.size w (w.alloc (.cells #[.string ⟨#[]⟩,.int .i64 0,.int .i64 0,.int .i64 0,.int .i64 0,.int .i64 0,.string ⟨#[]⟩] 193))):=hid ((Below.refl _ _).alloc (Nat.le_refl _) _);have HL:Hid (a3Z ao l w.heap.size (w.alloc (.cells #[.string ⟨#[]⟩,.int .i64 0,.int .i64 0,.int .i64 0,.int .i64 0,.int .i64 0,.string ⟨#[]⟩] 193))):=hid (hl.move HB0.out _ (Nat.le_refl _));have HE:=hid (hE.below HB0.out hE.1);have hng:=hE.1;have hw0:w.heap.size<(w.alloc (.cells #[.string ⟨#[]⟩,.int .i64 0,.int .i64 0,.int .i64 0,.int .i64 0,.int .i64 0,.string ⟨#[]⟩] 193)).heap.size:=by simp
 clear hE hl;go_enter func260,ntmps260;go_wp2_with fail;generalize w.alloc _=W at *;refine (a3s ⟨#[105]⟩ c64 (by decide) w.heap.size Pn.a1U [] l ao cp W HE.out (by omega) HZ.out HL.out).mono ?_
 rintro e w1 ⟨rfl,hK1,hS1⟩;have e5:(ByteArray.mk #[105]).data.toList=[105]:=rfl;rw[e5]at hS1 ⊢;have HB1:=hid (hK1.below HB0.out (Nat.le_refl _) (fun _ h=>by cases h) (Nat.le_refl _))
 cases hps:a0i [105] l Pn.a1U [] with
 | none=>
  have HV:=hid (b5B (size:=size) hps);simp only[Option.isSome];clear hK1 hS1;go_wp2_with fail;go_ret2;rw[HV.out];exact a1n HB1.out
 | some s=>
  obtain ⟨⟨op,rd,rs1,rs2,imm⟩,tg⟩:=s;have hC:=hS1 _ hps;have p5:=hC.2.2 5 _ rfl;simp only at p5;simp only[Option.isSome];clear hK1 hS1 hC;rcases hsz with rfl|rfl|rfl
  ·have hp:(2:Int)^(8*1)=256:=by decide
   by_cases h0:imm<0
   ·have HV:=hid (a44 (size:=1) hps (.inl h0))
    clear hps;go_wp2_with fail;go_ret2;rw[HV.out];exact a1n HB1.out
   ·by_cases h1:256<=imm
    ·have HV:=hid (a44 (size:=1) hps (.inr (by simp only;omega)))
     clear hps;go_wp2_with fail;go_ret2;rw[HV.out];exact a1n HB1.out
    ·have HV:=hid (a7T (size:=1) hps (by simp only;omega))
     (have h1':imm<256:=by omega);(have h0':0<=imm:=by omega);clear hps;go_wp2_with fail;(refine (a5b imm 1 _ (by decide)).mono ?_);rintro e w4 ⟨rfl,hB4⟩;have HB4:=hid (HB1.out.trans (hB4.mono HB1.out.size));clear hB4;go_wp2_with fail;go_ret2;rw[HV.out];exact a4G (p:=⟨a2I 1 imm,Pn.a1U,[]⟩) HB4.out
  ·have hp:(2:Int)^(8*2)=65536:=by decide
   by_cases h0:imm<0
   ·have HV:=hid (a44 (size:=2) hps (.inl h0))
    clear hps;go_wp2_with fail;go_ret2;rw[HV.out];exact a1n HB1.out
   ·by_cases h1:65536<=imm
    ·have HV:=hid (a44 (size:=2) hps (.inr (by simp only;omega)))
     clear hps;go_wp2_with fail;go_ret2;rw[HV.out];exact a1n HB1.out
    ·have HV:=hid (a7T (size:=2) hps (by simp only;omega))
     (have h1':imm<65536:=by omega);(have h0':0<=imm:=by omega);clear hps;go_wp2_with fail;(refine (a5b imm 2 _ (by decide)).mono ?_);rintro e w4 ⟨rfl,hB4⟩;have HB4:=hid (HB1.out.trans (hB4.mono HB1.out.size));clear hB4;go_wp2_with fail;go_ret2;rw[HV.out];exact a4G (p:=⟨a2I 2 imm,Pn.a1U,[]⟩) HB4.out
  ·have hp:(2:Int)^(8*4)=4294967296:=by decide
   by_cases h0:imm<0
   ·have HV:=hid (a44 (size:=4) hps (.inl h0))
    clear hps;go_wp2_with fail;go_ret2;rw[HV.out];exact a1n HB1.out
   ·by_cases h1:4294967296<=imm
    ·have HV:=hid (a44 (size:=4) hps (.inr (by simp only;omega)))
     clear hps;go_wp2_with fail;go_ret2;rw[HV.out];exact a1n HB1.out
    ·have HV:=hid (a7T (size:=4) hps (by simp only;omega))
     (have h1':imm<4294967296:=by omega);(have h0':0<=imm:=by omega);clear hps;go_wp2_with fail;(refine (a5b imm 4 _ (by decide)).mono ?_);rintro e w4 ⟨rfl,hB4⟩;have HB4:=hid (HB1.out.trans (hB4.mono HB1.out.size));clear hB4;go_wp2_with fail;go_ret2;rw[HV.out];exact a4G (p:=⟨a2I 4 imm,Pn.a1U,[]⟩) HB4.out
end Go.Proofs.YtbmcofdodfcnnaaGreatDoor
namespace Pn
open Go
theorem b1U (n:Int):∃H,n=a5Z n+4096*H/\(n-a5Z n)/4096=H/\(n-a5Z n).tdiv 4096=H/\-2048<=a5Z n/\a5Z n<=2047:=by
 refine ⟨(n+2048)/4096,?_,?_,?_,?_,?_⟩<;>unfold a5Z
 ·omega
 ·omega
 ·have e:n-((n+2048)%4096-2048)=4096*((n+2048)/4096):=by omega
  rw[e,Int.mul_tdiv_cancel_left _ (by decide)]
 ·omega
 ·omega
theorem c3N (n:Int):Go.bits .and .i64 (n+2048) 4095=a5Z n+2048:=by
 have:=a8I (n+2048) 12 (by decide)
 have e:(2:Int)^12=4096:=by decide
 rw[e]at this;unfold a5E at this;rw[show (4096:Int)-1=4095 from rfl]at this
 rw[this];unfold a5Z;omega
end Pn
namespace Go.Proofs.YtbmcofdodfcnnaaGreatDoor
open Pn
open Go.Proofs.Tryz
open Go.RowKit
theorem b6R:(prog.info? 193).map (fun i=>(i.zero,i.size,i.bytes))=some (some (.agg #[.string ⟨#[]⟩,.int .i64 0,.int .i64 0,.int .i64 0,.int .i64 0,.int .i64 0,.string ⟨#[]⟩]),7,72):=by kernel_rfl
theorem a8v (w:World) (p:Pn.Prt):(w.alloc (.cells (a3j p).toArray 193)).ownsRow w.heap.size 193 7 (.slice (some ⟨w.heap.size,0,none⟩) 1 1) 1 (a3j p):=by
 have:=World.ownsRow_lit (base:=w.heap.size) (e:=193) (size:=7) w (a3j p).toArray 1 (Nat.le_refl _) (by unfold maxLen;omega) (by rfl)
 simpa using this
theorem a2D (w:World) (vs:List Value) (t:TypeId):∀j u,vs[j]?=some u->(w.alloc (.cells vs.toArray t)).cell? ((⟨w.heap.size,0,none⟩:Addr).add j)=some u:=by
 intro j u hj;have hadd:(⟨w.heap.size,0,none⟩:Addr).add j=⟨w.heap.size,j,none⟩:=by unfold Addr.add;split<;>simp_all
 rw[hadd];exact (CellsAt.new w vs t).2.2 j u hj
theorem c4y (r n:Int) (w:World) (h0:-2147483648<=n) (h1:n<=2147483647):
    Calls prog 275 #[.int .i64 r,.int .i64 n] w fun e w'=>∃ao m cp,e=.returned (.slice ao m cp)/\w'.ownsRow w.heap.size 193 7 (.slice ao m cp) (a4p r n).length ((a4p r n).flatMap a3j)/\Below w.heap.size w w':=by
 obtain ⟨i0,hi,hz0,hz1,hz2⟩:=info_parts b6R;obtain ⟨H,hn,hh,ht,l0,l1⟩:=b1U n;have ha:=c3N n;have HV:Hid (a4p r n=if a5Z n=n then [⟨[],⟨29,r,0,0,n⟩,[]⟩] else ⟨[],⟨60,r,0,0,if H=524288 then -524288 else H⟩,[]⟩::(if a5Z n=0 then [] else [⟨[],⟨38,r,r,0,a5Z n⟩,[]⟩])):=hid (by unfold a4p c1S;rw[hh])
 clear hh;generalize a5Z n=L at *;have HN:=hid hn;clear hn;by_cases hLn:L=n
 ·rw[if_pos hLn]at HV
  have hLb:(L==n)=true:=by simpa using hLn
  have HLN:=hid hLn;clear hLn;go_enter func275,ntmps275;go_wp2_with fail;go_ret;refine ⟨_,_,_,rfl,?_,(Below.refl _ _).alloc (Nat.le_refl _) _⟩;rw[HV.out];exact a8v w ⟨[],⟨29,r,0,0,n⟩,[]⟩
 ·rw[if_neg hLn]at HV
  have hLb:(L==n)=false:=by simpa using hLn
  by_cases hH:H=524288
  ·subst hH
   rw[if_pos rfl]at HV;by_cases hL0:L=0
   ·rw[if_pos hL0]at HV
    (have hL0b:(L != 0)=false:=by simpa using hL0);have HL0:=hid hL0;clear hL0;go_enter func275,ntmps275;go_wp2_with fail;go_ret;refine ⟨_,_,_,rfl,?_,(Below.refl _ _).alloc (Nat.le_refl _) _⟩;rw[HV.out];exact a8v w ⟨[],⟨60,r,0,0,-524288⟩,[]⟩
   ·have hL0b:(L != 0)=true:=by simpa using hL0
    rw[if_neg hL0]at HV;have HO:=hid (a8v w ⟨[],⟨60,r,0,0,-524288⟩,[]⟩);unfold a3j at HO;simp only at HO;go_enter func275,ntmps275;(go_wp2_with (at_builtin;refine wpList_append_own _ rfl _ _ 253 rfl w.heap.size 193 i0 _ 7 72 underlying253 hi hz0 hz1 hz2 rfl (by decide) _ _ _ rfl (HO.out.alloc _) ⟨w.heap.size+1,0,none⟩ 1 1 (a3j ⟨[],⟨38,r,r,0,L⟩,[]⟩) rfl rfl ?c1 ?c2 ?c3 ?c4 ?c5 ?_));(case c1=>have:=a2D (w.alloc (.cells (a3j ⟨[],⟨60,r,0,0,-524288⟩,[]⟩).toArray 193)) (a3j ⟨[],⟨38,r,r,0,L⟩,[]⟩) 193;rw[World.size_alloc]at this;exact this);(case c2=>intro u hu;simp[a3j]at hu;rcases hu with rfl|rfl|rfl|rfl|rfl|rfl|rfl<;>rfl);(case c3=>unfold maxLen;omega);(case c4=>omega);(case c5=>simp;omega);intro v' w1 hown' hgrow _;(have HB1:Hid (Below w.heap.size w w1):=hid ((((Below.refl _ _).alloc (Nat.le_refl _) _).alloc (by simp) _).grown hgrow (by simp;omega) (fun j hj=>by have:=(HO.out.lt j hj).1;omega)));have HO1:=hid hown'
    obtain ⟨ao,m,cp,rfl⟩:∃ao m cp,v'=.slice ao m cp:=by
     obtain ⟨ao,m,cp,e,_⟩:=a1R hown';exact ⟨ao,m,cp,e⟩
    clear hown' hgrow HO;go_wp2_with fail;go_ret;refine ⟨_,_,_,rfl,?_,HB1.out⟩;rw[HV.out];exact HO1.out
  ·rw[if_neg hH]at HV
   (have hHb:(H==524288)=false:=by simpa using hH);(have hH0:-524288<=H:=by have:=HN.out;omega);(have hH1:H<=524288:=by have:=HN.out;omega);by_cases hL0:L=0
   ·rw[if_pos hL0]at HV
    (have hL0b:(L != 0)=false:=by simpa using hL0);have HL0:=hid hL0;clear hL0;go_enter func275,ntmps275;go_wp2_with fail;go_ret;refine ⟨_,_,_,rfl,?_,(Below.refl _ _).alloc (Nat.le_refl _) _⟩;rw[HV.out];exact a8v w ⟨[],⟨60,r,0,0,H⟩,[]⟩
   ·have hL0b:(L != 0)=true:=by simpa using hL0
    rw[if_neg hL0]at HV;have HO:=hid (a8v w ⟨[],⟨60,r,0,0,H⟩,[]⟩);unfold a3j at HO;simp only at HO;go_enter func275,ntmps275;(go_wp2_with (at_builtin;refine wpList_append_own _ rfl _ _ 253 rfl w.heap.size 193 i0 _ 7 72 underlying253 hi hz0 hz1 hz2 rfl (by decide) _ _ _ rfl (HO.out.alloc _) ⟨w.heap.size+1,0,none⟩ 1 1 (a3j ⟨[],⟨38,r,r,0,L⟩,[]⟩) rfl rfl ?c1 ?c2 ?c3 ?c4 ?c5 ?_));(case c1=>have:=a2D (w.alloc (.cells (a3j ⟨[],⟨60,r,0,0,H⟩,[]⟩).toArray 193)) (a3j ⟨[],⟨38,r,r,0,L⟩,[]⟩) 193;rw[World.size_alloc]at this;exact this);(case c2=>intro u hu;simp[a3j]at hu;rcases hu with rfl|rfl|rfl|rfl|rfl|rfl|rfl<;>rfl);(case c3=>unfold maxLen;omega);(case c4=>omega);(case c5=>simp;omega);intro v' w1 hown' hgrow _;(have HB1:Hid (Below w.heap.size w w1):=hid ((((Below.refl _ _).alloc (Nat.le_refl _) _).alloc (by simp) _).grown hgrow (by simp;omega) (fun j hj=>by have:=(HO.out.lt j hj).1;omega)));have HO1:=hid hown'
    obtain ⟨ao,m,cp,rfl⟩:∃ao m cp,v'=.slice ao m cp:=by
     obtain ⟨ao,m,cp,e,_⟩:=a1R hown';exact ⟨ao,m,cp,e⟩
    clear hown' hgrow HO;go_wp2_with fail;go_ret;refine ⟨_,_,_,rfl,?_,HB1.out⟩;rw[HV.out];exact HO1.out
theorem c4A:∀r∈(ByteArray.mk #[100,44,105]).data.toList,a7b r:=by
 intro r hr;have:r=100\/r=44\/r=105:=by simpa using hr
 rcases this with rfl|rfl|rfl<;>simp[a7b]
theorem b5u {l:List Pn.Pc} (h:a0i [100,44,105] l Pn.a1U []=none):a4u l=([],4):=by simp[a4u,h]
theorem b4q {l:List Pn.Pc} {s:Pn.Ins×List UInt8} (h:a0i [100,44,105] l Pn.a1U []=some s) (hn:s.1.imm < -2147483648\/2147483647<s.1.imm):a4u l=([],5):=by simp[a4u,h,hn]
theorem b9L {l:List Pn.Pc} {s:Pn.Ins×List UInt8} (h:a0i [100,44,105] l Pn.a1U []=some s) (hn:¬(s.1.imm < -2147483648\/2147483647<s.1.imm)):a4u l=(a4p s.1.rd s.1.imm,0):=by
 unfold a4u;rw[h];simp only;rw[if_neg hn]
theorem b3r (l:List Pn.Pc) (ao:Option Addr) (cp:Nat) (w:World) (hE:Env w) (hl:a3Z ao l w.heap.size w):
    Calls prog 261 #[.slice ao l.length cp] w fun e w'=>b57 (a4u l).1 (a4u l).2 w e w':=by
 have HZ:Hid (CellsAt w.heap.size (a0f Pn.a1U []) (w.alloc (.cells #[.string ⟨#[]⟩,.int .i64 0,.int .i64 0,.int .i64 0,.int .i64 0,.int .i64 0,.string ⟨#[]⟩] 193))):=hid (CellsAt.new w (a0f Pn.a1U []) 193);have HB0:Hid (Below w.heap.size w (w.alloc (.cells #[.string ⟨#[]⟩,.int .i64 0,.int .i64 0,.int .i64 0,.int .i64 0,.int .i64 0,.string ⟨#[]⟩] 193))):=hid ((Below.refl _ _).alloc (Nat.le_refl _) _);have HL:Hid (a3Z ao l w.heap.size (w.alloc (.cells #[.string ⟨#[]⟩,.int .i64 0,.int .i64 0,.int .i64 0,.int .i64 0,.int .i64 0,.string ⟨#[]⟩] 193))):=hid (hl.move HB0.out _ (Nat.le_refl _));have HE:=hid (hE.below HB0.out hE.1);have hng:=hE.1;clear hE hl;go_enter func261,ntmps261;go_wp2_with fail;generalize w.alloc _=W at *;refine (a3s ⟨#[100,44,105]⟩ c4A (by decide) w.heap.size Pn.a1U [] l ao cp W HE.out (by omega) HZ.out HL.out).mono ?_
 rintro e w1 ⟨rfl,hK1,hS1⟩;have e5:(ByteArray.mk #[100,44,105]).data.toList=[100,44,105]:=rfl;rw[e5]at hS1 ⊢;have HB1:=hid (hK1.below HB0.out (Nat.le_refl _) (fun _ h=>by cases h) (Nat.le_refl _))
 cases hps:a0i [100,44,105] l Pn.a1U [] with
 | none=>
  have HV:=hid (b5u hps);simp only[Option.isSome];clear hK1 hS1;go_wp2_with fail;go_ret2;rw[HV.out];exact a1n HB1.out
 | some s=>
  obtain ⟨⟨op,rd,rs1,rs2,imm⟩,tg⟩:=s;have hC:=hS1 _ hps;have p2:=hC.2.2 2 _ rfl;have p5:=hC.2.2 5 _ rfl;simp only at p2 p5;simp only[Option.isSome];clear hK1 hS1 hC;by_cases h0:imm < -2147483648
  ·have HV:=hid (b4q hps (.inl h0))
   clear hps;go_wp2_with fail;go_ret2;rw[HV.out];exact a1n HB1.out
  ·by_cases h1:2147483647<imm
   ·have HV:=hid (b4q hps (.inr h1))
    clear hps;go_wp2_with fail;go_ret2;rw[HV.out];exact a1n HB1.out
   ·have HV:=hid (b9L hps (by simp only;omega))
    simp only at HV;(have h1':imm<=2147483647:=by omega);(have h0':-2147483648<=imm:=by omega);clear hps;go_wp2_with fail;refine (c4y rd imm _ h0' h1').mono ?_;rintro e w4 ⟨ao4,m4,cp4,rfl,hO4,hB4⟩;have HO4:=hid (a52 hO4 HB1.out.size);have HB4:=hid (HB1.out.trans (hB4.mono HB1.out.size));clear hB4 hO4;go_wp2_with fail;go_ret2;rw[HV.out];exact ⟨_,_,_,rfl,HO4.out,HB4.out⟩
theorem b7T (l:List UInt8):Pn.dsz l=1\/Pn.dsz l=2\/Pn.dsz l=4\/Pn.dsz l=0:=by
 unfold Pn.dsz
 split
 ·exact .inl rfl
 ·split
  ·exact .inr (.inl rfl)
  ·split
   ·exact .inr (.inr (.inl rfl))
   ·exact .inr (.inr (.inr rfl))
theorem a68 (nm:ByteArray) (l:List Pn.Pc) (ao:Option Addr) (cp:Nat) (w:World) (hE:Env w) (hl:a3Z ao l w.heap.size w):
    Calls prog 227 #[.string nm,.slice ao l.length cp] w fun e w'=>b57 (Pn.rst nm l).1 (Pn.rst nm l).2 w e w':=by
 have HSH:=hid (fun q=>b1H q l ao cp w hE hl)
 have HDA:=hid (fun s h=>b3g s h l ao cp w hE hl)
 have HLO:=hid (b3r l ao cp w hE hl);have HRI:=hid (a5B nm l ao cp w hE hl);clear hE hl;by_cases hc:Lib.hasPrefix nm.data.toList [99,46]=true
 ·have HV:Hid (Pn.rst nm l=a4m ⟨(Lib.trimPrefix nm.data.toList [99,46]).toArray⟩ l):=hid (by unfold Pn.rst;rw[if_pos hc])
  have hc':Lib.hasPrefix nm.data.toList (ByteArray.mk #[99,46]).data.toList=true:=hc;go_enter func227,ntmps227;go_wp2_with fail;refine (Tryz.strings_CutPrefix nm ⟨#[99,46]⟩ _).mono ?_;rintro e w1 ⟨rfl,rfl⟩;rw[hc'];go_wp2_with fail;refine (HSH.out _).mono ?_;rintro e w2 ⟨ao2,m2,cp2,rfl,hO,hB⟩;have HO:=hid hO;have HB:=hid hB;clear hO hB;go_wp2_with fail;go_ret2;rw[HV.out];exact ⟨_,_,_,rfl,HO.out,HB.out⟩
 ·have hcf:Lib.hasPrefix nm.data.toList [99,46]=false:=by simpa using hc
  have hc':Lib.hasPrefix nm.data.toList (ByteArray.mk #[99,46]).data.toList=false:=hcf;have HV0:Hid (Pn.rst nm l=if Pn.dsz nm.data.toList≠0 then a3F (Pn.dsz nm.data.toList).toNat l else if nm.data.toList=[108,105] then a4u l else if (a2K nm l).2=0 then ([(a2K nm l).1],0) else ([],(a2K nm l).2)):=hid (by unfold Pn.rst;rw[if_neg hc])
  rcases b7T nm.data.toList with hd|hd|hd|hd
  ·have HV:Hid (Pn.rst nm l=a3F 1 l):=hid (by rw[HV0.out,hd];rfl)
   clear HV0;go_enter func227,ntmps227;go_wp2_with fail;refine (Tryz.strings_CutPrefix nm ⟨#[99,46]⟩ _).mono ?_;rintro e w1 ⟨rfl,rfl⟩;rw[hc'];go_wp2_with fail;refine (a1J nm _).mono ?_;rintro e w1 ⟨rfl,rfl⟩;rw[hd];go_wp2_with fail;(refine (HDA.out 1 (by omega)).mono ?_);rintro e w2 ⟨ao2,m2,cp2,rfl,hO,hB⟩;have HO:=hid hO;have HB:=hid hB;clear hO hB;go_wp2_with fail;go_ret2;rw[HV.out];exact ⟨_,_,_,rfl,HO.out,HB.out⟩
  ·have HV:Hid (Pn.rst nm l=a3F 2 l):=hid (by rw[HV0.out,hd];rfl)
   clear HV0;go_enter func227,ntmps227;go_wp2_with fail;refine (Tryz.strings_CutPrefix nm ⟨#[99,46]⟩ _).mono ?_;rintro e w1 ⟨rfl,rfl⟩;rw[hc'];go_wp2_with fail;refine (a1J nm _).mono ?_;rintro e w1 ⟨rfl,rfl⟩;rw[hd];go_wp2_with fail;(refine (HDA.out 2 (by omega)).mono ?_);rintro e w2 ⟨ao2,m2,cp2,rfl,hO,hB⟩;have HO:=hid hO;have HB:=hid hB;clear hO hB;go_wp2_with fail;go_ret2;rw[HV.out];exact ⟨_,_,_,rfl,HO.out,HB.out⟩
  ·have HV:Hid (Pn.rst nm l=a3F 4 l):=hid (by rw[HV0.out,hd];rfl)
   clear HV0;go_enter func227,ntmps227;go_wp2_with fail;refine (Tryz.strings_CutPrefix nm ⟨#[99,46]⟩ _).mono ?_;rintro e w1 ⟨rfl,rfl⟩;rw[hc'];go_wp2_with fail;refine (a1J nm _).mono ?_;rintro e w1 ⟨rfl,rfl⟩;rw[hd];go_wp2_with fail;(refine (HDA.out 4 (by omega)).mono ?_);rintro e w2 ⟨ao2,m2,cp2,rfl,hO,hB⟩;have HO:=hid hO;have HB:=hid hB;clear hO hB;go_wp2_with fail;go_ret2;rw[HV.out];exact ⟨_,_,_,rfl,HO.out,HB.out⟩
  ·have HV1:Hid (Pn.rst nm l=if nm.data.toList=[108,105] then a4u l else if (a2K nm l).2=0 then ([(a2K nm l).1],0) else ([],(a2K nm l).2)):=hid (by rw[HV0.out,hd];rfl)
   clear HV0;by_cases hli:nm.data.toList=[108,105]
   ·have HV:Hid (Pn.rst nm l=a4u l):=hid (by rw[HV1.out,if_pos hli])
    (have hlb:(nm.toList==[108,105])=true:=by rw[ByteArray.toList_eq];simpa using hli);clear HV1 hli;go_enter func227,ntmps227;go_wp2_with fail;refine (Tryz.strings_CutPrefix nm ⟨#[99,46]⟩ _).mono ?_;rintro e w1 ⟨rfl,rfl⟩;rw[hc'];go_wp2_with fail;refine (a1J nm _).mono ?_;rintro e w1 ⟨rfl,rfl⟩;rw[hd];go_wp2_with fail;refine HLO.out.mono ?_;rintro e w2 ⟨ao2,m2,cp2,rfl,hO,hB⟩;have HO:=hid hO;have HB:=hid hB;clear hO hB;go_wp2_with fail;go_ret2;rw[HV.out];exact ⟨_,_,_,rfl,HO.out,HB.out⟩
   ·have HV1:Hid (Pn.rst nm l=if (a2K nm l).2=0 then ([(a2K nm l).1],0) else ([],(a2K nm l).2)):=hid (by rw[HV1.out,if_neg hli])
    (have hlb:(nm.toList==[108,105])=false:=by rw[ByteArray.toList_eq];simpa using hli);clear hli;generalize a2K nm l=X at *;obtain ⟨⟨data,⟨op,rd,rs1,rs2,imm⟩,tg⟩,er⟩:=X;unfold a3j at HRI;simp only at HRI HV1;by_cases her:er=0
    ·subst her
     (have HV:Hid (Pn.rst nm l=([⟨data,⟨op,rd,rs1,rs2,imm⟩,tg⟩],0)):=hid (by rw[HV1.out,if_pos rfl]));clear HV1;go_enter func227,ntmps227;go_wp2_with fail;refine (Tryz.strings_CutPrefix nm ⟨#[99,46]⟩ _).mono ?_;rintro e w1 ⟨rfl,rfl⟩;rw[hc'];go_wp2_with fail;refine (a1J nm _).mono ?_;rintro e w1 ⟨rfl,rfl⟩;rw[hd];go_wp2_with fail;refine HRI.out.mono ?_;rintro e w2 ⟨rfl,hB2⟩;have HB2:=hid (hB2.alloc hB2.size (.cells #[.string ⟨data.toArray⟩,.int .i64 op,.int .i64 rd,.int .i64 rs1,.int .i64 rs2,.int .i64 imm,.string ⟨tg.toArray⟩] 193));clear hB2;go_wp2_with fail;go_ret2;rw[HV.out];have hp:=a4G (p:=⟨data,⟨op,rd,rs1,rs2,imm⟩,tg⟩) (er:=0) HB2.out;rw[World.size_alloc]at hp;exact hp
    ·have HV:Hid (Pn.rst nm l=([],er)):=hid (by rw[HV1.out,if_neg her])
     clear HV1;go_enter func227,ntmps227;go_wp2_with fail;refine (Tryz.strings_CutPrefix nm ⟨#[99,46]⟩ _).mono ?_;rintro e w1 ⟨rfl,rfl⟩;rw[hc'];go_wp2_with fail;refine (a1J nm _).mono ?_;rintro e w1 ⟨rfl,rfl⟩;rw[hd];go_wp2_with fail;refine HRI.out.mono ?_;rintro e w2 ⟨rfl,hB2⟩;have HB2:=hid (hB2.alloc hB2.size (.cells #[.string ⟨data.toArray⟩,.int .i64 op,.int .i64 rd,.int .i64 rs1,.int .i64 rs2,.int .i64 imm,.string ⟨tg.toArray⟩] 193));clear hB2;go_wp2_with fail;go_ret2;rw[HV.out];exact a1n HB2.out
