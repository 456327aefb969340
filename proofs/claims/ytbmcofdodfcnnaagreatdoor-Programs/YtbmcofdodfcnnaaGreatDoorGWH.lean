import Derived.Test.YtbmcofdodfcnnaaGreatDoorGW29
import Derived.Test.YtbmcofdodfcnnaaGreatDoorGLC
import Derived.Test.YtbmcofdodfcnnaaGreatDoorW12
set_option linter.all false
set_option maxHeartbeats 400000000
set_option maxRecDepth 100000
namespace Pn
def lnR:List UInt8->List UInt8->List (List UInt8)
 | cur,[]=>[cur]
 | cur,c::l=>if c=10 then cur::lnR [] l else lnR (cur++[c]) l
theorem a9X:∀(l cur:List UInt8),(lnR cur l).length<=l.length+1
 | [],cur=>by simp[lnR]
 | c::l,cur=>by
  rw[lnR]
  split
  ·have:=a9X l []
   simp;omega
  ·have:=a9X l (cur++[c])
   simp;omega
theorem b3s:∀(l cur:List UInt8),∀x∈lnR cur l,x.length<=cur.length+l.length
 | [],cur=>by simp[lnR]
 | c::l,cur=>by
  intro x hx;rw[lnR]at hx
  split at hx
  ·rcases List.mem_cons.1 hx with rfl|hx
   ·simp
   ·have:=b3s l [] x hx
    simp at this ⊢;omega
  ·have:=b3s l (cur++[c]) x hx
   simp at this ⊢;omega
def c8e (l:List UInt8):Go.Value:=.string ⟨l.toArray⟩
end Pn
namespace Go.Proofs.YtbmcofdodfcnnaaGreatDoor
open Pn
open Go.Proofs.Tryz
open Go.RowKit
theorem c41:(prog.info? 9).map (fun i=>(i.zero,i.size,i.bytes))=some (some (.string ⟨#[]⟩),1,16):=by kernel_rfl
def c8M (s:ByteArray) (w:World) (l from' i:Value) (wr:World):Prop:=
 ∃(A:List (List UInt8)) (f j:Nat),f<=j/\j<=s.size/\A.length<=j/\from'=.int .i64 f/\i=.int .i64 j/\wr.ownsRow w.heap.size 9 1 l A.length (A.map c8e)/\
  Hid (Pn.lnR [] s.data.toList=A++Pn.lnR ((s.data.toList.drop f).take (j-f)) (s.data.toList.drop j))/\Below w.heap.size w wr
theorem c4m {s:ByteArray} {f j:Nat} (hf:f<=j) (hj:j<s.size):(s.data.toList.drop f).take (j+1-f)=(s.data.toList.drop f).take (j-f)++[Pn.B s j]:=by
 have hl:j-f<(s.data.toList.drop f).length:=by simp;omega
 have e:j+1-f=(j-f)+1:=by omega
 rw[e,List.take_succ_eq_append_getElem hl];congr 1;rw[List.getElem_drop,<-a9J s j hj];have:f+(j-f)=j:=by omega
 simp only[this];rfl
theorem b7k (s:ByteArray) (f j:Nat):Value.string (s.extract f j)=c8e ((s.data.toList.drop f).take (j-f)):=by
 refine a6O ?_;simp[ByteArray.data_extract,Array.toList_extract,List.extract_eq_take_drop]
theorem b7E (s:ByteArray) (w:World) (hs:s.size<=2000):
    Calls prog 213 #[.string s] w fun e w'=>(∃v,e=.returned v/\w'.ownsRow w.heap.size 9 1 v (Pn.lnR [] s.data.toList).length ((Pn.lnR [] s.data.toList).map c8e))/\Below w.heap.size w w':=by
 obtain ⟨i0,hi,hz0,hz1,hz2⟩:=info_parts c41;have hs2:(s.size:Int)<=2000:=by omega
 go_enter func213,ntmps213;go_wp2_with fail;go_loopw [3,4,5] (fun l f i wr=>c8M s w l f i wr) (fun _ _ i _=>s.size-(intOf i).toNat)
 case atStart=>exact ⟨[],0,0,by omega,by omega,by simp,rfl,rfl,World.ownsRow_nil _ _ _ _,a0a (by simp),Below.refl _ _⟩
 case round=>
  obtain ⟨A,f,j,hf,hj,hA,rfl,rfl,hown,HNO,hB⟩:=hrel;have HO:=a0a hown;have HB:=a0a hB;have hzr:=hB.size;clear hown hB;have wj:IntKind.i64.wrap ((j:Int)+1)=(j:Int)+1:=IntWalk.i64_in _ (by omega)
  have hBq:=a9J s;by_cases hlt:j<s.size
  ·have hlt2:(j:Int)<s.size:=by omega
   have HC:=a0a (a0N s j hlt);have HM:=a0a (c4m hf hlt);by_cases hc:(((Pn.B s j).toNat:Int)==10)=true
   ·have HC1:Hid (Pn.B s j=10):=a0a (c8b hc)
    go_wp2_with (first
     | (at_builtin;refine wpList_append_own _ rfl _ _ 78 rfl w.heap.size 9 i0 (.string ⟨#[]⟩) 1 16 underlying78 hi hz0 hz1 hz2 rfl (by decide) _ A.length _ rfl (HO.out.alloc _) ⟨wr.heap.size,0,none⟩ 1 1 [_] rfl rfl (cell_one_new _ _ _) ?h1 ?h63 ?hby ?hbase ?_
        (case h1=>intro x hx;simp at hx;subst hx;rfl);(case h63=>unfold maxLen;omega);(case hby=>omega);(case hbase=>simp;omega);intro v' w4 hown' hgrow3 hnil3;(have X:Hid (w4.ownsRow w.heap.size 9 1 v' (A.length+1) _/\Below w.heap.size w w4):=⟨hown',Below.grown (HB.out.alloc HB.out.size _) hgrow3 (by have:=HB.out.size;simp;omega) (fun q hq=>(HO.out.lt q hq).1)⟩);clear hown' hgrow3 hnil3))
    go_roundw
    case rel=>
     refine ⟨A++[(s.data.toList.drop f).take (j-f)],j+1,j+1,by omega,by omega,by simp;omega,by go_num,by go_num,?_,a0a ?_,X.out.2⟩
     ·have:=X.out.1
      rw[b7k]at this;simpa using this
     ·rw[HNO.out,HC.out,HC1.out,Pn.lnR,if_pos rfl]
      simp
    case measure=>simp[intOf];omega
   ·have hc':(((Pn.B s j).toNat:Int)==10)=false:=by simpa using hc
    (have HC1:Hid (Pn.B s j≠10):=a0a (b5f (n:=10) (by omega) hc'));go_wp2_with fail;go_roundw
    case rel=>
     (refine ⟨A,f,j+1,by omega,by omega,by omega,rfl,by go_num,HO.out,a0a ?_,HB.out⟩);rw[HNO.out,HC.out,Pn.lnR,if_neg HC1.out,HM.out]
    case measure=>simp[intOf];omega
  ·have hje:j=s.size:=by omega
   subst hje
   have HE:Hid (Pn.lnR [] s.data.toList=A++[(s.data.toList.drop f).take (s.size-f)]):=a0a (by
    rw[HNO.out,List.drop_eq_nil_of_le (i:=s.size) (by simp),Pn.lnR])
   go_wp2_with (first
       | (at_builtin;refine wpList_append_own _ rfl _ _ 78 rfl w.heap.size 9 i0 (.string ⟨#[]⟩) 1 16 underlying78 hi hz0 hz1 hz2 rfl (by decide) _ A.length _ rfl (HO.out.alloc _) ⟨wr.heap.size,0,none⟩ 1 1 [_] rfl rfl (cell_one_new _ _ _) ?h1 ?h63 ?hby ?hbase ?_
          (case h1=>intro x hx;simp at hx;subst hx;rfl);(case h63=>unfold maxLen;omega);(case hby=>omega);(case hbase=>simp;omega);intro v' w4 hown' hgrow3 hnil3;(have X:Hid (w4.ownsRow w.heap.size 9 1 v' (A.length+1) _/\Below w.heap.size w w4):=⟨hown',Below.grown (HB.out.alloc HB.out.size _) hgrow3 (by have:=HB.out.size;simp;omega) (fun q hq=>(HO.out.lt q hq).1)⟩);clear hown' hgrow3 hnil3))
   go_ret;refine ⟨⟨_,rfl,?_⟩,X.out.2⟩;rw[HE.out];have:=X.out.1;rw[b7k]at this;simpa using this
end Go.Proofs.YtbmcofdodfcnnaaGreatDoor
namespace Pn
open Go
structure Rp where
 ins:Ins
 tg:List UInt8
 sh:Bool
 bt:List UInt8
def rpC (p:Rp) (ln sz:Int):List Value:=[.int .i64 p.ins.op,.int .i64 p.ins.rd,.int .i64 p.ins.rs1,.int .i64 p.ins.rs2,.int .i64 p.ins.imm,.string ⟨p.tg.toArray⟩,.bool p.sh,.string ⟨p.bt.toArray⟩,.int .i64 ln,.int .i64 sz]
def c5d (p:Prt):Rp:=⟨p.ins,p.tg,false,p.data⟩
def a6y (r n:Int):List Rp×Int:=if n < -2147483648\/2147483647<n then ([],5) else ((a4p r n).map c5d,0)
theorem b0g (n:Int):a0c n 11 0=n%4096:=by
 show n/2^0%2^12=_;omega
theorem c0m (n:Int):a0E (a0c n 11 0) 12=a5Z n:=by
 have h1:a2A (12-1)=2048:=by decide
 have h2:a2A 12=4096:=by decide
 unfold a0E a5Z;rw[b0g,h1,h2]
 split<;>omega
end Pn
namespace Go.Proofs.YtbmcofdodfcnnaaGreatDoor
open Pn
open Go.Proofs.Tryz
open Go.RowKit
theorem c2C:(prog.info? 224).map (fun i=>(i.zero,i.size,i.bytes))=some (some (.agg #[.int .i64 0,.int .i64 0,.int .i64 0,.int .i64 0,.int .i64 0,.string ⟨#[]⟩,.bool false,.string ⟨#[]⟩,.int .i64 0,.int .i64 0]),10,96):=by kernel_rfl
def a2k (ps:List Pn.Rp) (er:Int) (w:World) (e:Ending) (w':World):Prop:=
 ∃ao n cp,e=.returned (.tuple #[.slice ao n cp,.int .i64 er])/\w'.ownsRow w.heap.size 224 10 (.slice ao n cp) ps.length (ps.flatMap fun p=>Pn.rpC p 0 0)/\Below w.heap.size w w'
theorem a0n {er:Int} {w w':World} (hB:Below w.heap.size w w'):a2k [] er w (.returned (.tuple #[.slice none 0 0,.int .i64 er])) w':=
 ⟨_,_,_,rfl,World.ownsRow_nil _ _ _ _,hB⟩
theorem b8P (w W:World) (p:Pn.Rp) (h:w.heap.size<=W.heap.size):(W.alloc (.cells (Pn.rpC p 0 0).toArray 224)).ownsRow w.heap.size 224 10 (.slice (some ⟨W.heap.size,0,none⟩) 1 1) 1 (Pn.rpC p 0 0):=by
 have:=World.ownsRow_lit (base:=w.heap.size) (e:=224) (size:=10) W (Pn.rpC p 0 0).toArray 1 h (by unfold maxLen;omega) (by rfl)
 simpa using this
theorem a0O {p:Pn.Rp} {er:Int} {w W:World} (hB:Below w.heap.size w W):a2k [p] er w (.returned (.tuple #[.slice (some ⟨W.heap.size,0,none⟩) 1 1,.int .i64 er])) (W.alloc (.cells (Pn.rpC p 0 0).toArray 224)):=
 ⟨_,_,_,rfl,by simpa using b8P w W p hB.size,hB.alloc hB.size _⟩
theorem c1s (r n:Int) (w:World) (n0:-1099511627776<=n) (n1:n<=1099511627776):
    Calls prog 267 #[.int .i64 r,.int .i64 n] w fun e w'=>a2k (a6y r n).1 (a6y r n).2 w e w':=by
 obtain ⟨i0,hi,hz0,hz1,hz2⟩:=info_parts c2C;obtain ⟨H,hn,hh,ht,l0,l1⟩:=b1U n;have HC1:=a0a (fun W=>a30 n (-2147483648) 2147483647 W)
 have HC2:=a0a (fun W=>a30 n (-2048) 2047 W)
 have HC3:=a0a (fun W=>a2g n 11 0 W n0 n1 (by omega) (by omega) (by omega))
 have HC4:=a0a (fun W=>a8E (a0c n 11 0) 12 W (by rw[b0g];omega) (by rw[b0g];omega) (by omega) (by omega))
 rw[c0m]at HC4;generalize a0c n 11 0=bz at *;have HV:Hid (a4p r n=if a5Z n=n then [⟨[],⟨29,r,0,0,n⟩,[]⟩] else ⟨[],⟨60,r,0,0,if H=524288 then -524288 else H⟩,[]⟩::(if a5Z n=0 then [] else [⟨[],⟨38,r,r,0,a5Z n⟩,[]⟩])):=a0a (by unfold a4p c1S;rw[hh])
 clear hh;have HSM:Hid ((-2048<=n/\n<=2047)↔a5Z n=n):=a0a (by unfold a5Z;omega)
 have HR:Hid (a6y r n=if n < -2147483648\/2147483647<n then ([],5) else ((a4p r n).map c5d,0)):=a0a rfl;generalize a6y r n=R at *;generalize a5Z n=L at *;generalize a4p r n=PL at *;by_cases hout:n < -2147483648\/2147483647<n
 ·rw[if_pos hout]at HR
  have hbt:a0j n (-2147483648) 2147483647=false:=by unfold a0j;simp;omega
  have HQ:=HR.out;subst HQ;rw[hbt]at HC1;clear HV HSM HR HC2 HC3 HC4 hout ht hbt hn;go_enter func267,ntmps267;go_wp2_with fail;refine (HC1.out _).mono ?_;rintro e w ⟨rfl,rfl⟩;go_wp2_with fail;go_ret2;exact a0n (Below.refl _ _)
 ·rw[if_neg hout]at HR
  have hbt:a0j n (-2147483648) 2147483647=true:=by unfold a0j;simp;omega
  have HQ:=HR.out;subst HQ;rw[hbt]at HC1;clear HR;by_cases hLn:L=n
  ·rw[if_pos hLn]at HV
   (have hb2:a0j n (-2048) 2047=true:=by have:=HSM.out.2 hLn;unfold a0j;simp;omega);have HQ:=HV.out;subst HQ;rw[hb2]at HC2;clear HV HSM HC3 HC4 hLn ht hbt hb2 hn;go_enter func267,ntmps267;go_wp2_with fail;refine (HC1.out _).mono ?_;rintro e w ⟨rfl,rfl⟩;go_wp2_with fail;refine (HC2.out _).mono ?_;rintro e w ⟨rfl,rfl⟩;go_wp2_with fail;go_ret2;exact a0O (p:=⟨⟨29,r,0,0,n⟩,[],false,[]⟩) (Below.refl _ _)
  ·rw[if_neg hLn]at HV
   (have hb2:a0j n (-2048) 2047=false:=by have:=mt HSM.out.1 hLn;unfold a0j;simp;omega);rw[hb2]at HC2;(have hH0:-524288<=H:=by omega);(have hH1:H<=524288:=by omega);(have wn:IntKind.i64.wrap (n-L)=n-L:=IntWalk.i64_in _ (by omega));(have hn0:-2147483648<=n:=by omega);(have hn1:n<=2147483647:=by omega);clear HSM hout hLn hn n0 n1 hbt hb2;go_enter func267,ntmps267;go_wp2_with fail;refine (HC1.out _).mono ?_;rintro e w ⟨rfl,rfl⟩;go_wp2_with fail;refine (HC2.out _).mono ?_;rintro e w ⟨rfl,rfl⟩;go_wp2_with fail;refine (HC3.out _).mono ?_;rintro e w ⟨rfl,rfl⟩;go_wp2_with fail;refine (HC4.out _).mono ?_;rintro e w ⟨rfl,rfl⟩;by_cases hH:H=524288
   ·subst hH
    rw[if_pos rfl]at HV;by_cases hL0:L=0
    ·rw[if_pos hL0]at HV
     (have hL0b:(L != 0)=false:=by simpa using hL0);have HQ:=HV.out;subst HQ;clear HV hL0;go_wp2_with fail;go_ret2;exact a0O (p:=⟨⟨60,r,0,0,-524288⟩,[],false,[]⟩) (Below.refl _ _)
    ·have hL0b:(L != 0)=true:=by simpa using hL0
     rw[if_neg hL0]at HV;have HQ:=HV.out;subst HQ;have HO:=a0a (b8P w w ⟨⟨60,r,0,0,-524288⟩,[],false,[]⟩ (Nat.le_refl _));unfold Pn.rpC at HO;simp only at HO;clear hL0 HV;(go_wp2_with (at_builtin;refine wpList_append_own _ rfl _ _ 233 rfl w.heap.size 224 i0 _ 10 96 underlying233 hi hz0 hz1 hz2 rfl (by decide) _ _ _ rfl (HO.out.alloc _) ⟨w.heap.size+1,0,none⟩ 1 1 (Pn.rpC ⟨⟨38,r,r,0,L⟩,[],false,[]⟩ 0 0) rfl rfl ?c1 ?c2 ?c3 ?c4 ?c5 ?_));(case c1=>have:=a2D (w.alloc (.cells (Pn.rpC ⟨⟨60,r,0,0,-524288⟩,[],false,[]⟩ 0 0).toArray 224)) (Pn.rpC ⟨⟨38,r,r,0,L⟩,[],false,[]⟩ 0 0) 224;rw[World.size_alloc]at this;exact this);(case c2=>intro u hu;simp[Pn.rpC]at hu;rcases hu with rfl|rfl|rfl|rfl|rfl|rfl|rfl|rfl|rfl|rfl<;>rfl);(case c3=>unfold maxLen;omega);(case c4=>omega);(case c5=>simp;omega);intro v' w1 hown' hgrow _;(have HB1:Hid (Below w.heap.size w w1):=a0a ((((Below.refl _ _).alloc (Nat.le_refl _) _).alloc (by simp) _).grown hgrow (by simp;omega) (fun j hj=>by have:=(HO.out.lt j hj).1;omega)));have HO1:=a0a hown'
     obtain ⟨ao,m,cp,rfl⟩:∃ao m cp,v'=.slice ao m cp:=by
      obtain ⟨ao,m,cp,e,_⟩:=a1R hown';exact ⟨ao,m,cp,e⟩
     clear hown' hgrow HO;go_wp2_with fail;go_ret2;exact ⟨_,_,_,rfl,HO1.out,HB1.out⟩
   ·rw[if_neg hH]at HV
    (have hHb:(H==524288)=false:=by simpa using hH);by_cases hL0:L=0
    ·rw[if_pos hL0]at HV
     (have hL0b:(L != 0)=false:=by simpa using hL0);have HQ:=HV.out;subst HQ;clear HV hL0;go_wp2_with fail;go_ret2;exact a0O (p:=⟨⟨60,r,0,0,H⟩,[],false,[]⟩) (Below.refl _ _)
    ·have hL0b:(L != 0)=true:=by simpa using hL0
     rw[if_neg hL0]at HV;have HQ:=HV.out;subst HQ;have HO:=a0a (b8P w w ⟨⟨60,r,0,0,H⟩,[],false,[]⟩ (Nat.le_refl _));unfold Pn.rpC at HO;simp only at HO;clear hL0 HV;(go_wp2_with (at_builtin;refine wpList_append_own _ rfl _ _ 233 rfl w.heap.size 224 i0 _ 10 96 underlying233 hi hz0 hz1 hz2 rfl (by decide) _ _ _ rfl (HO.out.alloc _) ⟨w.heap.size+1,0,none⟩ 1 1 (Pn.rpC ⟨⟨38,r,r,0,L⟩,[],false,[]⟩ 0 0) rfl rfl ?c1 ?c2 ?c3 ?c4 ?c5 ?_));(case c1=>have:=a2D (w.alloc (.cells (Pn.rpC ⟨⟨60,r,0,0,H⟩,[],false,[]⟩ 0 0).toArray 224)) (Pn.rpC ⟨⟨38,r,r,0,L⟩,[],false,[]⟩ 0 0) 224;rw[World.size_alloc]at this;exact this);(case c2=>intro u hu;simp[Pn.rpC]at hu;rcases hu with rfl|rfl|rfl|rfl|rfl|rfl|rfl|rfl|rfl|rfl<;>rfl);(case c3=>unfold maxLen;omega);(case c4=>omega);(case c5=>simp;omega);intro v' w1 hown' hgrow _;(have HB1:Hid (Below w.heap.size w w1):=a0a ((((Below.refl _ _).alloc (Nat.le_refl _) _).alloc (by simp) _).grown hgrow (by simp;omega) (fun j hj=>by have:=(HO.out.lt j hj).1;omega)));have HO1:=a0a hown'
     obtain ⟨ao,m,cp,rfl⟩:∃ao m cp,v'=.slice ao m cp:=by
      obtain ⟨ao,m,cp,e,_⟩:=a1R hown';exact ⟨ao,m,cp,e⟩
     clear hown' hgrow HO;go_wp2_with fail;go_ret2;exact ⟨_,_,_,rfl,HO1.out,HB1.out⟩
end Go.Proofs.YtbmcofdodfcnnaaGreatDoor
namespace Pn
open Go
def b6y (l:List UInt8):Option (List UInt8):=
 if l=[109,118] then some [114,44,114]
 else if l=[110,111,116] then some [114,44,114]
 else if l=[110,101,103] then some [114,44,114]
 else if l=[115,101,113,122] then some [114,44,114]
 else if l=[115,110,101,122] then some [114,44,114]
 else if l=[98,101,113,122] then some [114,44,116]
 else if l=[98,110,101,122] then some [114,44,116]
 else if l=[106] then some [116]
 else if l=[108,105] then some [114,44,105]
 else if l=[110,111,112] then some []
 else if l=[114,101,116] then some []
 else none
def c5c (l:List UInt8) (rs:List Int) (n:Int):Ins:=
 if l=[110,111,112] then ⟨29,0,0,0,0⟩
 else if l=[114,101,116] then ⟨49,0,1,0,0⟩
 else if l=[109,118] then ⟨29,rs.getD 0 0,rs.getD 1 0,0,0⟩
 else if l=[110,111,116] then ⟨32,rs.getD 0 0,rs.getD 1 0,0,-1⟩
 else if l=[110,101,103] then ⟨2,rs.getD 0 0,0,rs.getD 1 0,0⟩
 else if l=[115,101,113,122] then ⟨31,rs.getD 0 0,rs.getD 1 0,0,1⟩
 else if l=[115,110,101,122] then ⟨5,rs.getD 0 0,0,rs.getD 1 0,0⟩
 else if l=[98,101,113,122] then ⟨54,0,rs.getD 0 0,0,n⟩
 else if l=[98,110,101,122] then ⟨55,0,rs.getD 0 0,0,n⟩
 else ⟨62,0,0,0,n⟩
def b5v (kd:Int) (nme:List UInt8):Option (List Int×Int×ByteArray)->List Rp×Int
 | none=>([],4)
 | some (rs,n,nm)=>
  if kd=119 then
   (if nme=[108,105] then a6y (rs.getD 0 0) n
   else if right (c5c nme rs n) then ([⟨c5c nme rs n,nm.data.toList,false,[]⟩],0) else ([],5))
  else ([],4)
theorem a1y {kd:Int} (h:kd=119) (nme:List UInt8) (rs:List Int) (n:Int) (nm:ByteArray):b5v kd nme (some (rs,n,nm)) =
    (if nme=[108,105] then a6y (rs.getD 0 0) n else if right (c5c nme rs n) then ([⟨c5c nme rs n,nm.data.toList,false,[]⟩],0) else ([],5)):=by
 simp only[b5v];rw[if_pos h]
theorem a6x {kd:Int} (h:¬kd=119) (nme:List UInt8) (rs:List Int) (n:Int) (nm:ByteArray):b5v kd nme (some (rs,n,nm))=([],4):=by
 simp only[b5v];rw[if_neg h]
def a3d (t:Tok) (l:List Tok):List Rp×Int:=
 match b6y t.text with
 | none=>([],4)
 | some F=>b5v t.kind t.text (a0r l F [] 0 ⟨#[]⟩)
theorem a2R:∀(l:List Tok) (F:List UInt8) (rs:List Int) (n:Int) (nm:ByteArray) (rs':List Int) (n':Int) (nm':ByteArray),a0r l F rs n nm=some (rs',n',nm')->
    (∀u∈l,-1099511627776<=u.num/\u.num<=1099511627776)->(-1099511627776<=n/\n<=1099511627776)->-1099511627776<=n'/\n'<=1099511627776
 | [],[],rs,n,nm,rs',n',nm',h,_,hn=>by simp[a0r]at h;rw[<-h.2.1];exact hn
 | [],f::F,_,_,_,_,_,_,h,_,_=>by simp[a0r]at h
 | t::l,[],_,_,_,_,_,_,h,_,_=>by simp[a0r]at h
 | t::l,f::F,rs,n,nm,rs',n',nm',h,ha,hn=>by
  have ht:=ha t (by simp)
  have hr:∀u∈l,-1099511627776<=u.num/\u.num<=1099511627776:=fun u hu=>ha u (by simp[hu])
  simp only[a0r]at h
  split at h
  ·split at h
   ·cases h
   ·exact a2R l F _ _ _ _ _ _ h hr hn
  ·split at h
   ·exact a2R l F _ _ _ _ _ _ h hr ht
   ·split at h
    ·exact a2R l F _ _ _ _ _ _ h hr hn
    ·split at h
     ·exact a2R l F _ _ _ _ _ _ h hr hn
     ·cases h
end Pn
namespace Go.Proofs.YtbmcofdodfcnnaaGreatDoor
open Pn
open Go.Proofs.Tryz
open Go.RowKit
theorem a05 (t:Pn.Tok):t.S.toList=t.text:=by
 rw[ByteArray.toList_eq];simp[Pn.Tok.S]
def a0A (t:Pn.Tok) (l:List Pn.Tok) (g o:Nat) (w:World):Prop:=
 ∀k u,(t::l)[k]?=some u->w.cell? ⟨g,o+k*4,none⟩=some (.int .u8 u.kind)/\w.cell? ⟨g,o+k*4+1,none⟩=some (.string u.S)/\w.cell? ⟨g,o+k*4+2,none⟩=some (.int .i64 u.num)/\w.cell? ⟨g,o+k*4+3,none⟩=some (.bool u.blank)
theorem a8C {w:World} {t:Pn.Tok} {l:List Pn.Tok} {n g o cap:Nat} (hn:l.length+1=n) (hc:a0A t l g o w) (hg:g<w.heap.size):a2L w (.slice (some ⟨g,o+4,none⟩) (n-1) cap) l:=by
 have e:n-1=l.length:=by omega
 refine ⟨_,_,by rw[e],fun _=>⟨g,o+4,rfl,hg,fun k u hu=>?_⟩⟩
 have:=hc (k+1) u (by simpa using hu)
 have ek:o+(k+1)*4=o+4+k*4:=by omega
 rw[ek]at this;exact this
theorem a09 {w W w5:World} (h:Below w.heap.size w W) (h5:Below W.heap.size W w5):Below w.heap.size w w5:=h.trans (h5.mono h.size)
theorem a6j {wc W w5:World} {a b c d f:Value} {T:TypeId} (h5:Below W.heap.size W w5) (hz:wc.heap.size<W.heap.size) (hW:∀p,W.cell? p=(wc.alloc (.cells #[a,b,c,d,f] T)).cell? p):
    w5.cell? ⟨wc.heap.size,0,none⟩=some a/\w5.cell? ⟨wc.heap.size,1,none⟩=some b/\w5.cell? ⟨wc.heap.size,2,none⟩=some c/\w5.cell? ⟨wc.heap.size,3,none⟩=some d/\w5.cell? ⟨wc.heap.size,4,none⟩=some f:=
 ⟨((h5.cell (p:=⟨wc.heap.size,0,none⟩) hz).trans (hW _)).trans (by go_simp),((h5.cell (p:=⟨wc.heap.size,1,none⟩) hz).trans (hW _)).trans (by go_simp),((h5.cell (p:=⟨wc.heap.size,2,none⟩) hz).trans (hW _)).trans (by go_simp),
   ((h5.cell (p:=⟨wc.heap.size,3,none⟩) hz).trans (hW _)).trans (by go_simp),((h5.cell (p:=⟨wc.heap.size,4,none⟩) hz).trans (hW _)).trans (by go_simp)⟩
theorem a57 {w:World} {base base':Nat} {e:TypeId} {size:Nat} {v:Value} {n:Nat} {xs:List Value} (h:w.ownsRow base e size v n xs) (hb:base'<=base):w.ownsRow base' e size v n xs:=by
 obtain ⟨h0,h1|⟨g,cap,cur,a,b,c⟩⟩:=h
 ·exact ⟨h0,.inl h1⟩
 ·exact ⟨h0,.inr ⟨g,cap,cur,a,Nat.le_trans hb b,c⟩⟩
theorem a3M {w:World} {base:Nat} {e:TypeId} {v:Value} {n:Nat} {xs:List Value} (h:w.ownsRow base e 1 v n xs) (hn:0<n):
    ∃g cap,v=.slice (some ⟨g,0,none⟩) n cap/\base<=g/\g<w.heap.size/\n<=cap/\∀j u,xs[j]?=some u->w.cell? ((⟨g,0,none⟩:Addr).add j)=some u:=by
 have hh:=h;obtain ⟨_,h1|⟨g,cap,cur,hv,hg,hb,hle,_⟩⟩:=h
 ·omega
 ·exact ⟨g,cap,hv,hg,(Array.getElem?_eq_some_iff.1 hb).1,hle,hh.cells (by rw[hv];rfl)⟩
theorem a2V {ps:List Pn.Rp} {er:Int} {w wc:World} {e:Ending} {w':World} (h:Below w.heap.size w wc) (ho:a2k ps er wc e w'):a2k ps er w e w':=by
 obtain ⟨ao,n,cp,he,hown,hB⟩:=ho;exact ⟨ao,n,cp,he,a57 hown h.size,h.trans (hB.mono h.size)⟩
