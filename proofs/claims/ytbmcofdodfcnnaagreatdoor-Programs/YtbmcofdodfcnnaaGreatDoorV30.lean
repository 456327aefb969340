import Derived.Test.YtbmcofdodfcnnaaGreatDoorGV23
import Derived.Test.YtbmcofdodfcnnaaGreatDoorGV27
import Derived.Test.YtbmcofdodfcnnaaGreatDoorV29
set_option linter.all false
set_option maxHeartbeats 400000000
set_option maxRecDepth 100000
namespace Go.Proofs.YtbmcofdodfcnnaaGreatDoor
open Go.Proofs.Tryz
open Go.RowKit
def OpD.ok (o:OpD):Prop:=o.s.size<=2000000/\(-9223372036854775808<=o.on/\o.on<9223372036854775808)/\(-9223372036854775808<=o.a/\o.a<9223372036854775808)/\(-9223372036854775808<=o.b/\o.b<9223372036854775808)
theorem b9M:∀o∈b8D,o.ok:=by
 intro o ho;simp only[b8D,List.mem_cons,List.not_mem_nil,or_false]at ho;rcases ho with rfl|rfl|rfl|rfl|rfl|rfl|rfl|rfl|rfl|rfl|rfl<;>exact ⟨by decide,⟨by decide,by decide⟩,⟨by decide,by decide⟩,by decide,by decide⟩
theorem b6A (on a b op rd rs1 rs2 imm:Int) (s:ByteArray) (sh:Bool) (w:World) (hs:s.size<=2000000) (ha:-9223372036854775808<=a/\a<9223372036854775808):
    Calls prog 53 #[.agg (a0C 9 on a b op rd rs1 rs2 imm s sh).toArray] w fun e w'=>e=.returned (.bool true)/\Below w.heap.size w w':=by
 have HT:=a0a (fun w'=>c3W s a w' hs ha)
 clear hs ha;unfold a0C;go_enter func53,ntmps53;go_wp2_with fail;refine (HT.out _).mono ?_;rintro e w1 ⟨rfl,hB1⟩;have HB1:=a0a (((Below.refl w.heap.size w).alloc (Nat.le_refl _) _).trans (hB1.mono (by simp)))
 clear hB1;go_wp2_with fail;go_ret;exact ⟨rfl,HB1.out⟩
theorem b9e (o:OpD) (w:World) (hE:Env w) (h1:1<=o.kd) (h6:o.kd<=6):Calls prog 52 #[.agg o.cells.toArray] w fun e w'=>e=.returned (.bool true)/\Below w.heap.size w w':=by
 by_cases h4:o.kd<=4
 ·exact b3K o w hE h1 h4
 ·obtain ⟨kd,on,a,b,op,rd,rs1,rs2,imm,s,sh⟩:=o
  simp only at h1 h4 h6;have:kd=5\/kd=6:=by omega
  rcases this with rfl|rfl
  ·exact c34 on a b op rd rs1 rs2 imm s sh w
  ·exact c4H on a b op rd rs1 rs2 imm s sh w
theorem b6b (o:OpD) (w:World) (hE:Env w) (h7:7<=o.kd) (h9:o.kd<=9) (ho:o.ok):Calls prog 53 #[.agg o.cells.toArray] w fun e w'=>e=.returned (.bool true)/\Below w.heap.size w w':=by
 obtain ⟨kd,on,a,b,op,rd,rs1,rs2,imm,s,sh⟩:=o;obtain ⟨hs,_,ha,_⟩:=ho;simp only at h7 h9 hs ha;have:kd=7\/kd=8\/kd=9:=by omega
 rcases this with rfl|rfl|rfl
 ·exact b9k on a b op rd rs1 rs2 imm s sh w hE
 ·exact b9v on a b op rd rs1 rs2 imm s sh w hE
 ·exact b6A on a b op rd rs1 rs2 imm s sh w hs ha
theorem b4l (o:OpD) (p:Value) (w:World) (hE:Env w) (h9:o.kd<=9) (ho:o.ok):Calls prog 33 #[p,.agg o.cells.toArray] w fun e w'=>e=.returned (.bool true)/\Below w.heap.size w w':=by
 by_cases h4:o.kd<=4
 ·exact c4c o p w hE h4
 have HE:=a0a (fun o=>hE.alloc o)
 by_cases h6:o.kd<=6
 ·have HK:=a0a (fun (w:World) (hE:Env w)=>b9e o w hE (by omega) h6)
  clear ho;obtain ⟨kd,on,a,b,op,rd,rs1,rs2,imm,s,sh⟩:=o;simp only at h4 h6 h9;unfold OpD.cells a0C at *;simp only at HK ⊢;have h1:1<=kd:=by omega
  go_enter func33,ntmps33;go_wp2_with fail;refine (HK.out _ (HE.out _)).mono ?_;rintro e w1 ⟨rfl,hB1⟩;have HB1:=a0a (((Below.refl w.heap.size w).alloc (Nat.le_refl _) _).trans (hB1.mono (by simp)))
  clear hB1;go_wp2_with fail;go_ret;exact ⟨rfl,HB1.out⟩
 ·have HK:=a0a (fun (w:World) (hE:Env w)=>b6b o w hE (by omega) h9 ho)
  clear ho;obtain ⟨kd,on,a,b,op,rd,rs1,rs2,imm,s,sh⟩:=o;simp only at h4 h6 h9;unfold OpD.cells a0C at *;simp only at HK ⊢;have h1:1<=kd:=by omega
  have h7:7<=kd:=by omega
  go_enter func33,ntmps33;go_wp2_with fail;refine (HK.out _ (HE.out _)).mono ?_;rintro e w1 ⟨rfl,hB1⟩;have HB1:=a0a (((Below.refl w.heap.size w).alloc (Nat.le_refl _) _).trans (hB1.mono (by simp)))
  clear hB1;go_wp2_with fail;go_ret;exact ⟨rfl,HB1.out⟩
theorem b9l (ops:List OpD) (ad:Addr) (cap:Nat) (w:World) (hE:Env w) (hn:0<ops.length) (hmax:ops.length*96<=140737488351232) (hc:∀j u,(ops.flatMap OpD.cells)[j]?=some u->w.cell? (ad.add j)=some u) (hbl:ad.block<w.heap.size) (hok:∀o∈ops,o.ok):
    Calls prog 12 #[.slice (some ad) ops.length cap,.int .i64 9] w fun e w'=>e=.returned (.bool true)/\Below w.heap.size w w':=by
 obtain ⟨i0,hi,hz0,hz1,hz2⟩:=info_parts c5s;have hnews:∀j u,(ops.flatMap OpD.cells)[j]?=some u->(a25 w).cell? (ad.add j)=some u:=fun j u hj=>((a4Y w).cell (p:=ad.add j) (by rw[b1g];exact hbl)).trans (hc j u hj)
 have HC:=a0a hnews;have HE:=a0a hE;have HOK:Hid (∀o∈b8D++ops,o.ok):=a0a (fun o ho=>(List.mem_append.1 ho).elim (b9M o) (hok o))
 clear hc hE hnews hok;go_enter func12,ntmps12;go_wp2_with fail;show Oper.wp prog _ _ (a25 w) _ _
 refine wp_append_lies (a25 w) (.tmp 28) (.tmp 29) 22 rfl w.heap.size 74 i0 _ 11 96 underlying22 hi hz0 hz1 hz2 rfl (by decide) _ 11 b76 rfl (a9j w) ad ops.length cap (ops.flatMap OpD.cells) rfl (a8y ops) HC.out (b8T ops) hn
  (by unfold maxLen;omega) (by omega) (by rw[a5u];omega) _ rfl ?_
 intro gg cap9 w9 hown9 hgrow hat hlt
 have HO9:Hid (w9.ownsRow w.heap.size 74 11 (.slice (some ⟨gg,0,none⟩) (b8D++ops).length cap9) (b8D++ops).length ((b8D++ops).flatMap OpD.cells)):=by
  have e1:(b8D++ops).length=11+ops.length:=by rw[List.length_append];rfl
  have e2:(b8D++ops).flatMap OpD.cells=b76++ops.flatMap OpD.cells:=by rw[List.flatMap_append];rfl
  show World.ownsRow _ _ _ _ _ _ _;rw[e1,e2];exact hown9
 have HB9:Hid (Below w.heap.size w w9):=b23 hgrow;have HE9:Hid (Env w9):=Env.below HE.out HB9.out HE.out.1;have hN:(b8D++ops).length=11+ops.length:=by rw[List.length_append];rfl
 have hNi:((11+ops.length:Nat):Int)<=1500000000000:=by omega
 rw[<-hN]at hNi ⊢;clear hown9 hgrow hat hN;generalize b8D++ops=L at *;go_wp2_with fail;go_loopw [8] (fun i wr=>∃k:Nat,k<=L.length/\i=.int .i64 k/\Below w9.heap.size w9 wr) (fun i _=>L.length-(intOf i).toNat)
 case atStart=>exact ⟨0,by omega,rfl,Below.refl _ _⟩
 case round=>
  obtain ⟨k,hk,rfl,hB⟩:=hrel;have HB:=a0a hB;by_cases hk2:k<L.length
  ·have hk3:(k:Int)<L.length:=by omega
   obtain ⟨o,ho⟩:∃o,L[k]?=some o:=⟨_,List.getElem?_eq_getElem hk2⟩;have hcs:=b4K HO9.out ho;(have hwr:∀j u,o.cells[j]?=some u->wr.cell? ⟨gg,k*11+j,none⟩=some u:=fun j u hj=>(hB.cell (p:=⟨gg,k*11+j,none⟩) hlt).trans (hcs j u hj));have HEr:Hid (Env wr):=Env.below HE9.out hB HE9.out.1;(have HST:=a0a (fun (p:Value) (h9:o.kd<=9)=>b4l o p wr HEr.out h9 (HOK.out o (List.mem_of_getElem? ho))));have HWR:=a0a hwr;clear hcs hB ho;obtain ⟨kd,on,a,b,op,rd,rs1,rs2,imm,s,sh⟩:=o;unfold OpD.cells a0C at hwr HST;simp only at hwr HST;have c0:wr.cell? ⟨gg,k*11,none⟩=some (.int .i64 kd):=hwr 0 _ rfl;by_cases h4:9<kd
   ·clear hwr
    go_wp2_with fail;go_roundw;(case rel=>exact ⟨k+1,by omega,by go_num,HB.out⟩);case measure=>simp[intOf];omega
   ·have c1:=hwr 1 _ rfl
    have c2:=hwr 2 _ rfl;have c3:=hwr 3 _ rfl;have c4:=hwr 4 _ rfl;have c5:=hwr 5 _ rfl;have c6:=hwr 6 _ rfl;have c7:=hwr 7 _ rfl;have c8:=hwr 8 _ rfl;have c9:=hwr 9 _ rfl;have c10:=hwr 10 _ rfl;clear hwr;go_wp2_with fail;(refine (HST.out _ (by omega)).mono ?_);rintro e w2 ⟨rfl,hB2⟩;have HB2:=a0a (HB.out.trans (hB2.mono HB.out.size));(have d0:w2.cell? ⟨gg,k*11,none⟩=some (.int .i64 kd):=(hB2.cell (p:=⟨gg,k*11,none⟩) (by have:=HB.out.size;show gg<_;omega)).trans c0);(have h10:(kd==10)=false:=by simp;omega);clear hB2 c0 c1 c2 c3 c4 c5 c6 c7 c8 c9 c10;go_wp2_with fail;go_roundw;(case rel=>exact ⟨k+1,by omega,by go_num,HB2.out⟩);case measure=>simp[intOf];omega
  ·have hke:k=L.length:=by omega
   go_wp2_with fail;go_ret;exact ⟨rfl,HB9.out.trans (HB.out.mono HB9.out.size)⟩
theorem b5O (ao:Option Addr) (cap:Nat) (x:Value) (HX:Hid (x=.slice ao 0 cap)) (w:World) (hE:Env w):
    Calls prog 12 #[x,.int .i64 9] w fun e w'=>e=.returned (.bool true)/\Below w.heap.size w w':=by
 have HE:=a0a hE;clear hE;obtain ⟨L,hL⟩:∃L:List OpD,L=b8D:=⟨_,rfl⟩;go_enter func12,ntmps12;go_wp2_with fail;show Oper.wp prog _ _ (a25 w) _ _;refine b3D (a25 w) (.tmp 28) (.tmp 29) rfl ⟨w.heap.size+1+1,0,none⟩ ao cap L.length (by rw[hL];rfl) rfl HX.out ?_
 have HO9:Hid ((a25 w).ownsRow w.heap.size 74 11 (.slice (some ⟨w.heap.size+1+1,0,none⟩) L.length 11) L.length (L.flatMap OpD.cells)):=by
  show World.ownsRow _ _ _ _ _ _ _;rw[hL];exact a9j w
 have HB9:Hid (Below w.heap.size w (a25 w)):=a4Y w;have HE9:Hid (Env (a25 w)):=Env.below HE.out HB9.out HE.out.1;have HOK:Hid (∀o∈L,o.ok):=a0a (by rw[hL];exact b9M)
 have hNi:(L.length:Int)<=1500000000000:=by rw[hL];decide
 have hlt:w.heap.size+1+1<(a25 w).heap.size:=by rw[a5u];omega
 clear hL;generalize a25 w=w9 at *;generalize w.heap.size+1+1=gg at *;go_wp2_with fail;go_loopw [8] (fun i wr=>∃k:Nat,k<=L.length/\i=.int .i64 k/\Below w9.heap.size w9 wr) (fun i _=>L.length-(intOf i).toNat)
 case atStart=>exact ⟨0,by omega,rfl,Below.refl _ _⟩
 case round=>
  obtain ⟨k,hk,rfl,hB⟩:=hrel;have HB:=a0a hB;by_cases hk2:k<L.length
  ·have hk3:(k:Int)<L.length:=by omega
   obtain ⟨o,ho⟩:∃o,L[k]?=some o:=⟨_,List.getElem?_eq_getElem hk2⟩;have hcs:=b4K HO9.out ho;(have hwr:∀j u,o.cells[j]?=some u->wr.cell? ⟨gg,k*11+j,none⟩=some u:=fun j u hj=>(hB.cell (p:=⟨gg,k*11+j,none⟩) hlt).trans (hcs j u hj));have HEr:Hid (Env wr):=Env.below HE9.out hB HE9.out.1;(have HST:=a0a (fun (p:Value) (h9:o.kd<=9)=>b4l o p wr HEr.out h9 (HOK.out o (List.mem_of_getElem? ho))));have HWR:=a0a hwr;clear hcs hB ho;obtain ⟨kd,on,a,b,op,rd,rs1,rs2,imm,s,sh⟩:=o;unfold OpD.cells a0C at hwr HST;simp only at hwr HST;have c0:wr.cell? ⟨gg,k*11,none⟩=some (.int .i64 kd):=hwr 0 _ rfl;by_cases h4:9<kd
   ·clear hwr
    go_wp2_with fail;go_roundw;(case rel=>exact ⟨k+1,by omega,by go_num,HB.out⟩);case measure=>simp[intOf];omega
   ·have c1:=hwr 1 _ rfl
    have c2:=hwr 2 _ rfl;have c3:=hwr 3 _ rfl;have c4:=hwr 4 _ rfl;have c5:=hwr 5 _ rfl;have c6:=hwr 6 _ rfl;have c7:=hwr 7 _ rfl;have c8:=hwr 8 _ rfl;have c9:=hwr 9 _ rfl;have c10:=hwr 10 _ rfl;clear hwr;go_wp2_with fail;(refine (HST.out _ (by omega)).mono ?_);rintro e w2 ⟨rfl,hB2⟩;have HB2:=a0a (HB.out.trans (hB2.mono HB.out.size));(have d0:w2.cell? ⟨gg,k*11,none⟩=some (.int .i64 kd):=(hB2.cell (p:=⟨gg,k*11,none⟩) (by have:=HB.out.size;show gg<_;omega)).trans c0);(have h10:(kd==10)=false:=by simp;omega);clear hB2 c0 c1 c2 c3 c4 c5 c6 c7 c8 c9 c10;go_wp2_with fail;go_roundw;(case rel=>exact ⟨k+1,by omega,by go_num,HB2.out⟩);case measure=>simp[intOf];omega
  ·have hke:k=L.length:=by omega
   go_wp2_with fail;go_ret;exact ⟨rfl,HB9.out.trans (HB.out.mono HB9.out.size)⟩
theorem a6R (ao:Option Addr) (cap:Nat) (w:World) (hE:Env w):
    Calls prog 4 #[.slice ao 0 cap] w fun e w'=>e=.returned (.bool true)/\Below w.heap.size w w':=by
 have HP:=a0a (b5O ao cap _ (a0a rfl) w hE);go_enter func4,ntmps4;go_wp2_with fail;refine HP.out.mono ?_;rintro e w1 ⟨rfl,hB⟩;have HB:=a0a hB;clear hB;go_wp2_with fail;go_ret;exact ⟨rfl,HB.out⟩
theorem b3G (ops:List OpD) (ad:Addr) (cap:Nat) (w:World) (hE:Env w) (hn:0<ops.length) (hmax:ops.length*96<=140737488351232) (hc:∀j u,(ops.flatMap OpD.cells)[j]?=some u->w.cell? (ad.add j)=some u) (hbl:ad.block<w.heap.size) (hok:∀o∈ops,o.ok):
    Calls prog 4 #[.slice (some ad) ops.length cap] w fun e w'=>e=.returned (.bool true)/\Below w.heap.size w w':=by
 have HP:=a0a (b9l ops ad cap w hE hn hmax hc hbl hok);clear hc hok;go_enter func4,ntmps4;go_wp2_with fail;refine HP.out.mono ?_;rintro e w1 ⟨rfl,hB⟩;have HB:=a0a hB;clear hB;go_wp2_with fail;go_ret;exact ⟨rfl,HB.out⟩
