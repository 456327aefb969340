import Derived.Test.YtbmcofdodfcnnaaGreatDoorGPM
import Derived.Test.YtbmcofdodfcnnaaGreatDoorGAW
import Derived.Test.YtbmcofdodfcnnaaGreatDoorGAG
import Derived.Test.YtbmcofdodfcnnaaGreatDoorGV6
import Derived.Test.YtbmcofdodfcnnaaGreatDoorGFA
set_option linter.all false
set_option maxHeartbeats 400000000
set_option maxRecDepth 100000
namespace Go.Proofs.YtbmcofdodfcnnaaGreatDoor
open Pn
open Go.Proofs.Tryz
open Go.RowKit
theorem a8u (i:Pn.Ins) (w:World):
    Calls prog 194 #[i.val] w fun e w'=>e=.returned (.bool ((a0q i).2==0))/\Below w.heap.size w w':=by
 have HS:=hid (fun w'=>a6k i w' a3O)
 generalize a0q i=X at *;obtain ⟨n,er⟩:=X;obtain ⟨op,rd,rs1,rs2,imm⟩:=i;unfold Pn.Ins.val at *;simp only at *;go_enter func194,ntmps194;go_wp2_with fail;have HB0:Hid (Below w.heap.size w (w.alloc (.cells #[.int .i64 op,.int .i64 rd,.int .i64 rs1,.int .i64 rs2,.int .i64 imm] 26))):=hid ((Below.refl _ _).alloc (Nat.le_refl _) _);generalize w.alloc _=W at *;refine (HS.out _).mono ?_;rintro e w1 ⟨rfl,hB1⟩;have HB1:=hid (HB0.out.trans (hB1.mono HB0.out.size));clear hB1;go_wp2_with fail;go_ret;exact ⟨rfl,HB1.out⟩
theorem isE_not {l:List UInt8} (h:l≠[]):l.isEmpty=false:=by cases l with|nil=>exact absurd rfl h|cons a b=>rfl
theorem b1k (x:Pn.Qt) (short:Bool) (w:World):
    Calls prog 142 #[.agg (Pn.qtC x).toArray,.bool short] w fun e w'=>e=.returned (.int .i64 (Pn.fsz short x.p))/\Below w.heap.size w w':=by
 obtain ⟨⟨data,⟨op,rd,rs1,rs2,imm⟩,tg⟩,line,size⟩:=x;unfold Pn.qtC a3j;simp only[List.cons_append,List.nil_append];by_cases hd:data=[]
 ·subst hd
  cases short with
  | false=>
   (have HV:Hid (Pn.fsz false ⟨[],⟨op,rd,rs1,rs2,imm⟩,tg⟩=4):=hid (by simp[Pn.fsz]));go_enter func142,ntmps142;go_wp2_with fail;go_ret;exact ⟨by rw[HV.out];rfl,(Below.refl _ _).alloc (Nat.le_refl _) _⟩
  | true=>
   by_cases ht:tg=[]
   ·subst ht
    (have HS:=hid (fun w'=>a8u ⟨op,rd,rs1,rs2,imm⟩ w'));unfold Pn.Ins.val at HS;simp only at HS;have HA:Hid (Below w.heap.size w (w.alloc (.cells #[.string ⟨#[]⟩,.int .i64 op,.int .i64 rd,.int .i64 rs1,.int .i64 rs2,.int .i64 imm,.string ⟨#[]⟩,.int .i64 line,.int .i64 size] 202))):=hid ((Below.refl _ _).alloc (Nat.le_refl _) _);by_cases hsx:(a0q ⟨op,rd,rs1,rs2,imm⟩).2=0
    ·have HV:Hid (Pn.fsz true ⟨[],⟨op,rd,rs1,rs2,imm⟩,[]⟩=2):=hid (by simp[Pn.fsz,hsx])
     rw[hsx]at HS;clear hsx;go_enter func142,ntmps142;go_wp2_with fail;generalize w.alloc _=W at *;refine (HS.out _).mono ?_;rintro e w1 ⟨rfl,hB1⟩;have HB1:=hid (HA.out.trans (hB1.mono HA.out.size));clear hB1;go_wp2_with fail;go_ret;exact ⟨by rw[HV.out];rfl,HB1.out⟩
    ·have HV:Hid (Pn.fsz true ⟨[],⟨op,rd,rs1,rs2,imm⟩,[]⟩=4):=hid (by simp[Pn.fsz,hsx])
     (rw[show ((a0q ⟨op,rd,rs1,rs2,imm⟩).2==0)=false by simpa using hsx]at HS);clear hsx;go_enter func142,ntmps142;go_wp2_with fail;generalize w.alloc _=W at *;refine (HS.out _).mono ?_;rintro e w1 ⟨rfl,hB1⟩;have HB1:=hid (HA.out.trans (hB1.mono HA.out.size));clear hB1;go_wp2_with fail;go_ret;exact ⟨by rw[HV.out];rfl,HB1.out⟩
   ·have HV:Hid (Pn.fsz true ⟨[],⟨op,rd,rs1,rs2,imm⟩,tg⟩=2):=hid (by simp[Pn.fsz,ht])
    have hte:=isE_not ht;clear ht;go_enter func142,ntmps142;go_wp2_with fail;go_ret;exact ⟨by rw[HV.out];rfl,(Below.refl _ _).alloc (Nat.le_refl _) _⟩
 ·have HV:Hid (Pn.fsz short ⟨data,⟨op,rd,rs1,rs2,imm⟩,tg⟩=data.length):=hid (by simp[Pn.fsz,hd])
  have hde:=isE_not hd;clear hd;go_enter func142,ntmps142;go_wp2_with fail;go_ret;exact ⟨by rw[HV.out];rfl,(Below.refl _ _).alloc (Nat.le_refl _) _⟩
end Go.Proofs.YtbmcofdodfcnnaaGreatDoor
namespace Pn
open Go
def byI (x:Qt) (j:Ins):List UInt8×Int:=
 if x.p.data=[] then
  (if x.size=2 then (if (a0q j).2=0 then (a2I 2 (a0q j).1,0) else ([],(a0q j).2))
   else (if (enc j).2=0 then (a2I 4 (enc j).1,0) else ([],(enc j).2)))
 else (x.p.data,0)
end Pn
namespace Go.Proofs.YtbmcofdodfcnnaaGreatDoor
open Pn
open Go.Proofs.Tryz
open Go.RowKit
theorem a81 (x:Pn.Qt) (j:Pn.Ins) (w:World) (hd:x.p.data≠[]):
    Calls prog 145 #[.agg (Pn.qtC x).toArray,j.val] w fun e w'=>e=.returned (.tuple #[.string ⟨x.p.data.toArray⟩,.int .i64 0])/\Below w.heap.size w w':=by
 obtain ⟨⟨data,⟨op,rd,rs1,rs2,imm⟩,tg⟩,line,size⟩:=x;obtain ⟨jop,jrd,jrs1,jrs2,jimm⟩:=j;unfold Pn.qtC a3j Pn.Ins.val;simp only[List.cons_append,List.nil_append];simp only at hd;have hde:=isE_not hd;clear hd;go_enter func145,ntmps145;go_wp2_with fail;go_ret2;exact ⟨rfl,((Below.refl _ _).alloc (Nat.le_refl _) _).alloc (by rw[World.size_alloc];omega) _⟩
theorem b3C (p:Pn.Prt) (line:Int) (j:Pn.Ins) (w:World) (hd:p.data=[]):
    Calls prog 145 #[.agg (Pn.qtC ⟨p,line,4⟩).toArray,j.val] w fun e w'=>e=.returned (.tuple #[.string ⟨(Pn.byI ⟨p,line,4⟩ j).1.toArray⟩,.int .i64 (Pn.byI ⟨p,line,4⟩ j).2])/\Below w.heap.size w w':=by
 have HV:Hid (Pn.byI ⟨p,line,4⟩ j=if (Pn.enc j).2=0 then (a2I 4 (Pn.enc j).1,0) else ([],(Pn.enc j).2)):=hid (by simp[Pn.byI,hd])
 obtain ⟨data,⟨op,rd,rs1,rs2,imm⟩,tg⟩:=p;simp only at hd;subst hd;have HE:=hid (fun w'=>a8k j w')
 obtain ⟨jop,jrd,jrs1,jrs2,jimm⟩:=j;generalize Pn.enc ⟨jop,jrd,jrs1,jrs2,jimm⟩=X at *;obtain ⟨n,er⟩:=X;unfold Pn.qtC a3j Pn.Ins.val at *;simp only[List.cons_append,List.nil_append]at *;have HA0:=hid ((CellsAt.new w [.string ⟨#[]⟩,.int .i64 op,.int .i64 rd,.int .i64 rs1,.int .i64 rs2,.int .i64 imm,.string ⟨tg.toArray⟩,.int .i64 line,.int .i64 4] 202).alloc (.cells #[.int .i64 jop,.int .i64 jrd,.int .i64 jrs1,.int .i64 jrs2,.int .i64 jimm] 26));have HB0:Hid (Below w.heap.size w ((w.alloc (.cells #[.string ⟨#[]⟩,.int .i64 op,.int .i64 rd,.int .i64 rs1,.int .i64 rs2,.int .i64 imm,.string ⟨tg.toArray⟩,.int .i64 line,.int .i64 4] 202)).alloc (.cells #[.int .i64 jop,.int .i64 jrd,.int .i64 jrs1,.int .i64 jrs2,.int .i64 jimm] 26))):=hid (((Below.refl _ _).alloc (Nat.le_refl _) _).alloc (by rw[World.size_alloc];omega) _)
 by_cases he:er=0
 ·subst he
  rw[if_pos rfl]at HV;go_enter func145,ntmps145;go_wp2_with fail;generalize (w.alloc _).alloc _=W at *;refine (HE.out _).mono ?_;rintro e w1 ⟨rfl,hB1⟩;have c8:=(HA0.out.next hB1).2.2 8 _ rfl;have HB1:Hid (Below w.heap.size w w1):=hid (HB0.out.trans (hB1.mono HB0.out.size));clear hB1 HA0 HE HB0;go_wp2_with fail;refine (a5b n 4 _ (by decide)).mono ?_
  rintro e w2 ⟨rfl,hB2⟩;have HB2:=hid (HB1.out.trans (hB2.mono HB1.out.size));clear hB2;go_wp2_with fail;go_ret2;exact ⟨by rw[HV.out];rfl,HB2.out⟩
 ·rw[if_neg he]at HV
  go_enter func145,ntmps145;go_wp2_with fail;generalize (w.alloc _).alloc _=W at *;refine (HE.out _).mono ?_;rintro e w1 ⟨rfl,hB1⟩;have HB1:Hid (Below w.heap.size w w1):=hid (HB0.out.trans (hB1.mono HB0.out.size));clear hB1 HA0 HE HB0;go_wp2_with fail;go_ret2;exact ⟨by rw[HV.out];rfl,HB1.out⟩
theorem b3I (p:Pn.Prt) (line:Int) (j:Pn.Ins) (w:World) (hd:p.data=[]):
    Calls prog 145 #[.agg (Pn.qtC ⟨p,line,2⟩).toArray,j.val] w fun e w'=>e=.returned (.tuple #[.string ⟨(Pn.byI ⟨p,line,2⟩ j).1.toArray⟩,.int .i64 (Pn.byI ⟨p,line,2⟩ j).2])/\Below w.heap.size w w':=by
 have HV:Hid (Pn.byI ⟨p,line,2⟩ j=if (a0q j).2=0 then (a2I 2 (a0q j).1,0) else ([],(a0q j).2)):=hid (by simp[Pn.byI,hd])
 obtain ⟨data,⟨op,rd,rs1,rs2,imm⟩,tg⟩:=p;simp only at hd;subst hd;have HE:=hid (fun w'=>a6k j w' a3O)
 obtain ⟨jop,jrd,jrs1,jrs2,jimm⟩:=j;generalize a0q ⟨jop,jrd,jrs1,jrs2,jimm⟩=X at *;obtain ⟨n,er⟩:=X;unfold Pn.qtC a3j Pn.Ins.val at *;simp only[List.cons_append,List.nil_append]at *;have HA0:=hid ((CellsAt.new w [.string ⟨#[]⟩,.int .i64 op,.int .i64 rd,.int .i64 rs1,.int .i64 rs2,.int .i64 imm,.string ⟨tg.toArray⟩,.int .i64 line,.int .i64 2] 202).alloc (.cells #[.int .i64 jop,.int .i64 jrd,.int .i64 jrs1,.int .i64 jrs2,.int .i64 jimm] 26));have HB0:Hid (Below w.heap.size w ((w.alloc (.cells #[.string ⟨#[]⟩,.int .i64 op,.int .i64 rd,.int .i64 rs1,.int .i64 rs2,.int .i64 imm,.string ⟨tg.toArray⟩,.int .i64 line,.int .i64 2] 202)).alloc (.cells #[.int .i64 jop,.int .i64 jrd,.int .i64 jrs1,.int .i64 jrs2,.int .i64 jimm] 26))):=hid (((Below.refl _ _).alloc (Nat.le_refl _) _).alloc (by rw[World.size_alloc];omega) _)
 by_cases he:er=0
 ·subst he
  rw[if_pos rfl]at HV;go_enter func145,ntmps145;go_wp2_with fail;generalize (w.alloc _).alloc _=W at *;refine (HE.out _).mono ?_;rintro e w1 ⟨rfl,hB1⟩;have c8:=(HA0.out.next hB1).2.2 8 _ rfl;have HB1:Hid (Below w.heap.size w w1):=hid (HB0.out.trans (hB1.mono HB0.out.size));clear hB1 HA0 HE HB0;go_wp2_with fail;refine (a5b n 2 _ (by decide)).mono ?_
  rintro e w2 ⟨rfl,hB2⟩;have HB2:=hid (HB1.out.trans (hB2.mono HB1.out.size));clear hB2;go_wp2_with fail;go_ret2;exact ⟨by rw[HV.out];rfl,HB2.out⟩
 ·rw[if_neg he]at HV
  go_enter func145,ntmps145;go_wp2_with fail;generalize (w.alloc _).alloc _=W at *;refine (HE.out _).mono ?_;rintro e w1 ⟨rfl,hB1⟩;have HB1:Hid (Below w.heap.size w w1):=hid (HB0.out.trans (hB1.mono HB0.out.size));clear hB1 HA0 HE HB0;go_wp2_with fail;go_ret2;exact ⟨by rw[HV.out];rfl,HB1.out⟩
theorem b1R (x:Pn.Qt) (j:Pn.Ins) (w:World) (hs:x.p.data=[]->x.size=2\/x.size=4):
    Calls prog 145 #[.agg (Pn.qtC x).toArray,j.val] w fun e w'=>e=.returned (.tuple #[.string ⟨(Pn.byI x j).1.toArray⟩,.int .i64 (Pn.byI x j).2])/\Below w.heap.size w w':=by
 obtain ⟨p,line,size⟩:=x;by_cases hd:p.data=[]
 ·rcases hs hd with rfl|rfl
  ·exact b3I p line j w hd
  ·exact b3C p line j w hd
 ·have e:Pn.byI ⟨p,line,size⟩ j=(p.data,0):=by simp[Pn.byI,hd]
  rw[e];exact a81 ⟨p,line,size⟩ j w hd
open Go.RowKit Go.Maps
def a8W (mb:Nat) (N:List (List UInt8×Nat)) (w:World):Prop:=
 ∃n D,n<=N.length/\w.ownsMap (H:=Unit) prog 9 (plainElem prog 3) mb n D/\
  ∀key:List UInt8,Maps.has D (.string key)=(N.lookup key).isSome/\∀v,N.lookup key=some v->∀z,D.atKey (.string key) z=.lit (.int .i64 (v:Nat))
theorem a8W.block {mb:Nat} {N:List (List UInt8×Nat)} {w w':World} (h:a8W mb N w) (hb:w'.heap[mb]?=w.heap[mb]?):a8W mb N w':=by
 obtain ⟨n,D,hn,⟨es,clock,hb0,F,hs,hD⟩,hk⟩:=h;exact ⟨n,D,hn,⟨es,clock,hb.trans hb0,F,hs,hD⟩,hk⟩
theorem a8W.lt {mb:Nat} {N:List (List UInt8×Nat)} {w:World} (h:a8W mb N w):mb<w.heap.size:=by
 obtain ⟨n,D,hn,hm,hk⟩:=h;exact hm.lt
theorem a8W.next {mb:Nat} {N:List (List UInt8×Nat)} {w w':World} (h:a8W mb N w) (hB:Below w.heap.size w w'):a8W mb N w':=h.block (hB.block mb h.lt)
theorem b2P (t:List UInt8) (hl:t.length<=maxLen):keyOf prog 9 (.string ⟨t.toArray⟩)=some (.string t):=by
 have:=Go.WideMaps.keyOf_string_mk underlying9 (s:=⟨t.toArray⟩) (by simpa[ByteArray.size] using hl)
 simpa using this
theorem a8W.look {mb:Nat} {N:List (List UInt8×Nat)} {w:World} (h:a8W mb N w) (t:List UInt8) (hl:t.length<=maxLen):
    ∃c,(Instr.lookup 146 (.map (some mb)) (.string ⟨t.toArray⟩) true).run prog w=.ok (.tuple #[.int .i64 c,.bool (N.lookup t).isSome]) w:=by
 obtain ⟨n,D,hn,hm,hk⟩:=h;obtain ⟨v,ps,hrun,hv⟩:=hm.look_ok b6H underlying146 (c5K _) (plainElem_int underlying3 (by decide)) (b2P t hl)
 obtain ⟨c,rfl,_,_⟩:=plainElem_int_inv underlying3 hv;rw[(hk t).1]at hrun;exact ⟨c,hrun⟩
theorem a8W.get {mb:Nat} {N:List (List UInt8×Nat)} {w:World} (h:a8W mb N w) (t:List UInt8) (hl:t.length<=maxLen) {v:Nat} (hv:N.lookup t=some v):
    (Instr.lookup 146 (.map (some mb)) (.string ⟨t.toArray⟩) false).run prog w=.ok (.int .i64 v) w:=by
 obtain ⟨n,D,hn,hm,hk⟩:=h;obtain ⟨c,hrun,hat,_⟩:=hm.lookup_int b6H underlying146 underlying3 (c5K _) (b2P t hl);rw[(hk t).2 v hv]at hat;simp only[DataW.lit.injEq,Lit.int.injEq,true_and]at hat;rw[<-hat]at hrun;exact hrun
theorem b2Y (N:List (List UInt8×Nat)) (t key:List UInt8) (v:Nat):(N++[(t,v)]).lookup key=(N.lookup key).or (if key=t then some v else none):=by
 induction N with
 | nil=>
  by_cases h:key=t
  ·subst h;simp[List.lookup]
  ·have e:=beq_false_of_ne h
   simp[List.lookup,e,h]
 | cons p N ih=>
  obtain ⟨a,b⟩:=p;simp only[List.cons_append,List.lookup]
  split
  ·rfl
  ·exact ih
theorem c23 (t:List UInt8):WideAt.IsKeyLit (.string t):=by first|trivial|(unfold WideAt.IsKeyLit;trivial)|simp[WideAt.IsKeyLit]
theorem a8W.put {mb:Nat} {N:List (List UInt8×Nat)} {w:World} (h:a8W mb N w) (t:List UInt8) (hl:t.length<=maxLen) (v:Nat) (hv:v<=1000000) (hN:N.length<=1000000) (hno:N.lookup t=none):
    ∃w',(Instr.mapUpdate 146 (.map (some mb)) (.string ⟨t.toArray⟩) (.int .i64 v)).run prog w=.ok () w'/\a8W mb (N++[(t,v)]) w'/\w.grownBy w' (some mb):=by
 obtain ⟨n,D,hn,hm,hk⟩:=h;obtain ⟨w',hrun,hm',hg⟩:=hm.update b6H underlying146 (by unfold maxLen;omega) (b2P t hl) (plainElem_int (H:=Unit) underlying3 (a:=v) (by simp[Lit.wf,IntKind.min,IntKind.max,IntKind.bits,IntKind.signed];omega))
 refine ⟨w',hrun,⟨n+1,_,by simp;omega,hm',fun key=>?_⟩,hg⟩
 rw[b2Y];by_cases e:key=t
 ·subst e
  rw[hno,if_pos rfl];refine ⟨by rw[Maps.has_put_same hm.isMap (show WideAt.IsKeyLit (.string _) from c23 _)];rfl,fun u hu z=>?_⟩
  have:v=u:=by simpa using hu
  subst this;exact Maps.atKey_put_same hm.isMap (show WideAt.IsKeyLit (.string _) from c23 _) _ _
 ·rw[if_neg e]
  have hne:Lit.string key≠Lit.string t:=fun h=>e (by injection h)
  simp only[Option.or_none];exact ⟨by rw[Maps.has_put_other hne];exact (hk key).1,fun u hu z=>by rw[Maps.atKey_put_other hne];exact (hk key).2 u hu z⟩
structure PQ (b g cap mb:Nat) (ao:Option Addr) (l:List Pn.Qt) (N:List (List UInt8×Nat)) (w:World):Prop where
 c0:w.cell? ⟨b,0,none⟩=some (.slice ao l.length cap)
 c1:w.cell? ⟨b,1,none⟩=some (.map (some mb))
 bl:b<w.heap.size
 fb:∀q,w.frozen? ⟨b,q,none⟩=false
 ne:b≠g
 nm:a8W mb N w
 mg:0<l.length->mb≠g
 ad:0<l.length->ao=some ⟨g,0,none⟩
 gl:0<l.length->g<w.heap.size
 fg:0<l.length->∀q,w.frozen? ⟨g,q,none⟩=false
 at':∀k x,l[k]?=some x->∀j u,(Pn.qtC x)[j]?=some u->w.cell? ⟨g,k*9+j,none⟩=some u
theorem a2e {α:Type} {l:List α} {k:Nat} {x:α} (h:l[k]?=some x):0<l.length/\k<l.length:=by
 rcases Nat.lt_or_ge k l.length with h'|h'
 ·exact ⟨by omega,h'⟩
 ·rw[List.getElem?_eq_none h']at h;cases h
theorem PQ.step {b g cap mb B:Nat} {ao:Option Addr} {l:List Pn.Qt} {N:List (List UInt8×Nat)} {w w':World} (h:PQ b g cap mb ao l N w) (hB:Below B w w') (h1:b<B) (h2:0<l.length->g<B) (h3:mb<B):PQ b g cap mb ao l N w':=
 ⟨(hB.cell (p:=⟨b,0,none⟩) h1).trans h.c0,(hB.cell (p:=⟨b,1,none⟩) h1).trans h.c1,Nat.lt_of_lt_of_le h.bl hB.size,fun q=>(hB.frozen (p:=⟨b,q,none⟩) h1).trans (h.fb q),h.ne,h.nm.block (hB.block mb h3),h.mg,h.ad,
   fun p=>Nat.lt_of_lt_of_le (h.gl p) hB.size,fun p q=>(hB.frozen (p:=⟨g,q,none⟩) (h2 p)).trans (h.fg p q),fun k x hk j u hj=>(hB.cell (p:=⟨g,k*9+j,none⟩) (h2 (a2e hk).1)).trans (h.at' k x hk j u hj)⟩
theorem PQ.next {b g cap mb:Nat} {ao:Option Addr} {l:List Pn.Qt} {N:List (List UInt8×Nat)} {w w':World} (h:PQ b g cap mb ao l N w) (hB:Below w.heap.size w w'):PQ b g cap mb ao l N w':=h.step hB h.bl h.gl h.nm.lt
theorem b5K (b g cap mb:Nat) (ao:Option Addr) (l:List Pn.Qt) (N:List (List UInt8×Nat)) (k:Nat) (x:Pn.Qt) (sl:Value) (w:World) (h:PQ b g cap mb ao l N w) (hk:l[k]?=some x) (ht:x.p.tg=[]):
    Calls prog 146 #[.pointer (some ⟨b,0,none⟩),.int .i64 k,sl] w fun e w'=>e=.returned x.p.ins.val/\Below w.heap.size w w':=by
 obtain ⟨hpos,hkl⟩:=a2e hk;have hki:(k:Int)<l.length:=by omega
 obtain rfl:=h.ad hpos;obtain ⟨⟨data,⟨iop,ird,irs1,irs2,iimm⟩,tg⟩,line,size⟩:=x;simp only at ht;subst ht;have c0:=h.c0;have bl:=h.bl;have gl:=h.gl hpos;have p1:=h.at' k _ hk 1 _ rfl;have p2:=h.at' k _ hk 2 _ rfl;have p3:=h.at' k _ hk 3 _ rfl;have p4:=h.at' k _ hk 4 _ rfl;have p5:=h.at' k _ hk 5 _ rfl;have p6:=h.at' k _ hk 6 _ rfl;simp only at p1 p2 p3 p4 p5 p6;clear hk h;go_enter func146,ntmps146;go_wp2_with fail;refine bodyPost_ret (v:=(Pn.Ins.mk iop ird irs1 irs2 iimm).val) (by simp[results,results146,go_sem,Pn.Ins.val]) rfl ⟨rfl,?_⟩
 exact ((Below.refl _ _).alloc (Nat.le_refl _) _).alloc (by rw[World.size_alloc];omega) _
theorem b7F (b g cap mb:Nat) (ao:Option Addr) (l:List Pn.Qt) (N:List (List UInt8×Nat)) (k v:Nat) (x:Pn.Qt) (P:List Int) (q cp:Nat) (w:World) (h:PQ b g cap mb ao l N w) (hk:l[k]?=some x) (ht:x.p.tg≠[]) (htl:x.p.tg.length<=2000) (hv:N.lookup x.p.tg=some v)
    (hkP:k<P.length) (hvP:v<P.length) (hq:q<w.heap.size) (hqk:w.cell? ⟨q,k,none⟩=some (.int .i64 (P.getD k 0))) (hqv:w.cell? ⟨q,v,none⟩=some (.int .i64 (P.getD v 0))) (hPb:∀j,0<=P.getD j 0/\P.getD j 0<=100000000):
    Calls prog 146 #[.pointer (some ⟨b,0,none⟩),.int .i64 k,.slice (some ⟨q,0,none⟩) P.length cp] w fun e w'=>e=.returned (a6w P N k x.p).val/\Below w.heap.size w w':=by
 obtain ⟨hpos,hkl⟩:=a2e hk;have hki:(k:Int)<l.length:=by omega
 obtain rfl:=h.ad hpos;have HV:Hid (a6w P N k x.p=⟨x.p.ins.op,x.p.ins.rd,x.p.ins.rs1,x.p.ins.rs2,P.getD v 0-P.getD k 0⟩):=hid (by simp[a6w,ht,Pn.nmI,hv])
 have hgt:=fun W hB=>(h.nm.next (w':=W) hB).get x.p.tg (by unfold maxLen;omega) hv
 obtain ⟨⟨data,⟨iop,ird,irs1,irs2,iimm⟩,tg⟩,line,size⟩:=x;simp only at ht hv htl HV hgt;have hte:=isE_not ht;have c0:=h.c0;have c1:=h.c1;have bl:=h.bl;have gl:=h.gl hpos;have p1:=h.at' k _ hk 1 _ rfl;have p2:=h.at' k _ hk 2 _ rfl;have p3:=h.at' k _ hk 3 _ rfl;have p4:=h.at' k _ hk 4 _ rfl;have p5:=h.at' k _ hk 5 _ rfl;have p6:=h.at' k _ hk 6 _ rfl;simp only at p1 p2 p3 p4 p5 p6;have hkPi:(k:Int)<P.length:=by omega
 have hvPi:(v:Int)<P.length:=by omega
 have b1:=hPb k;have b2:=hPb v;clear hk h ht hv hPb;generalize P.getD k 0=pk at *;generalize P.getD v 0=pv at *;have wa:IntKind.i64.wrap (pv-pk)=pv-pk:=IntWalk.i64_in _ (by omega)
 go_enter func146,ntmps146;go_wp2_with fail;have hbw2:Below w.heap.size w ((w.alloc (.cells #[.int .i64 0,.int .i64 0,.int .i64 0,.int .i64 0,.int .i64 0] 26)).alloc (.cells #[.int .i64 iop,.int .i64 ird,.int .i64 irs1,.int .i64 irs2,.int .i64 iimm] 26)):=((Below.refl _ _).alloc (Nat.le_refl _) _).alloc (by rw[World.size_alloc];omega) _
 have hrun:=hgt _ hbw2.drew;go_region
 all_goals
  go_wp2_with fail;refine bodyPost_ret (v:=(Pn.Ins.mk iop ird irs1 irs2 (pv-pk)).val) (by simp[results,results146,go_sem,Pn.Ins.val]) rfl ⟨by rw[HV.out],?_⟩
  exact (((Below.refl _ _).alloc (Nat.le_refl _) _).alloc (by rw[World.size_alloc];omega) _).drew
def TgOk (l:List Pn.Qt) (N:List (List UInt8×Nat)):Prop:=∀x∈l,x.p.tg≠[]->x.p.tg.length<=2000/\∃v,N.lookup x.p.tg=some v/\v<=l.length
theorem b1y (b g cap mb:Nat) (ao:Option Addr) (l:List Pn.Qt) (N:List (List UInt8×Nat)) (k:Nat) (x:Pn.Qt) (P:List Int) (pa:Option Addr) (base cp:Nat) (w:World) (h:PQ b g cap mb ao l N w) (hk:l[k]?=some x) (hT:TgOk l N)
    (hP:P.length=l.length+1) (hIA:IA pa P base w) (hPb:∀j,0<=P.getD j 0/\P.getD j 0<=100000000):
    Calls prog 146 #[.pointer (some ⟨b,0,none⟩),.int .i64 k,.slice pa P.length cp] w fun e w'=>e=.returned (a6w P N k x.p).val/\Below w.heap.size w w':=by
 by_cases ht:x.p.tg=[]
 ·have e:a6w P N k x.p=x.p.ins:=by simp[a6w,ht]
  rw[e];exact b5K b g cap mb ao l N k x _ w h hk ht
 ·obtain ⟨h1,v,h2,h3⟩:=hT x (List.mem_of_getElem? hk) ht
  obtain ⟨_,hkl⟩:=a2e hk;obtain ⟨q,rfl,_,hq2,hqk⟩:=hIA.at' k (by omega)
  obtain ⟨q',e',_,_,hqv⟩:=hIA.at' v (by omega)
  cases e'
  exact b7F b g cap mb ao l N k v x P q cp w h hk ht h1 h2 (by omega) (by omega) hq2 hqk hqv hPb
theorem b5X (b g cap mb:Nat) (ao:Option Addr) (l:List Pn.Qt) (N:List (List UInt8×Nat)) (w:World) (h:PQ b g cap mb ao l N w) (hn:l.length<=1000000) (hs:∀k,k<=l.length->0<=Pn.plq l k/\Pn.plq l k<=100000000):
    Calls prog 143 #[.pointer (some ⟨b,0,none⟩)] w fun e w'=>∃v,e=.returned v/\w'.ownsRow w.heap.size 3 1 v (a3h l l.length).length (b6z (a3h l l.length))/\Below w.heap.size w w':=by
 obtain ⟨i0,hi,hz0,hz1,hz2⟩:=info_parts Tryz.infoInt;have HP:=hid h;have HS:=hid hs;have c0:=h.c0;have bl:=h.bl;clear h hs;go_enter func143,ntmps143;go_wp2_with fail;clear c0;go_loopw [3,12] (fun v i wr=>∃j:Nat,j<=l.length/\i=.int .i64 j/\wr.ownsRow w.heap.size 3 1 v (a3h l j).length (b6z (a3h l j))/\Below w.heap.size w wr) (fun _ i _=>l.length-(intOf i).toNat)
 case atStart=>
  refine ⟨0,Nat.zero_le _,rfl,?_,(Below.refl _ _).alloc (Nat.le_refl _) _⟩;exact World.ownsRow_lit w #[.int .i64 0] 1 (Nat.le_refl _) (by unfold maxLen;omega) (by rfl)
 case round=>
  obtain ⟨j,hj,rfl,hown,hB⟩:=hrel;by_cases hlt:j<l.length
  ·obtain ⟨⟨⟨data,i,tg⟩,line,size⟩,hx⟩:∃x,l[j]?=some x:=⟨_,List.getElem?_eq_getElem hlt⟩
   have hP:=HP.out.next hB;obtain rfl:=hP.ad (a2e hx).1;have gl:=hP.gl (a2e hx).1;have p0:=hP.at' j _ hx 0 _ rfl;have p1:=hP.at' j _ hx 1 _ rfl;have p2:=hP.at' j _ hx 2 _ rfl;have p3:=hP.at' j _ hx 3 _ rfl;have p4:=hP.at' j _ hx 4 _ rfl;have p5:=hP.at' j _ hx 5 _ rfl;have p6:=hP.at' j _ hx 6 _ rfl;have p7:=hP.at' j _ hx 7 _ rfl;have p8:=hP.at' j _ hx 8 _ rfl;simp only[Nat.add_zero]at p0 p1 p2 p3 p4 p5 p6 p7 p8;(have hji:(j:Int)<l.length:=by omega);obtain ⟨pa,cp,rfl,hIA⟩:=a4h hown;rw[a1w]at *;(obtain ⟨q,rfl,hq1,hq2,hqc⟩:=hIA.at' j (by rw[a1w];omega));rw[a4F l j j (Nat.le_refl _)]at hqc;(have hs0:=HS.out j (by omega));(have hs1:=HS.out (j+1) (by omega));(have HSZ:Hid (Pn.plq l (j+1)=Pn.plq l j+size):=hid (by simp[Pn.plq,hx]));have HB:=hid hB;have HO:=hid hown;clear hP hB hx hown hIA;(have hjj:(j:Int)<((j+1:Nat):Int):=by omega);(have hj0:(0:Int)<=(j:Int):=by omega);(have hjk:(j:Int)<(j:Int)+1:=by omega);(have wa:IntKind.i64.wrap (Pn.plq l j+size)=Pn.plq l j+size:=IntWalk.i64_in _ (by have:=HSZ.out;omega));go_wp2_with fail;have HOW:=hid (HO.out.alloc (.cells #[.string ⟨data.toArray⟩,.int .i64 i.op,.int .i64 i.rd,.int .i64 i.rs1,.int .i64 i.rs2,.int .i64 i.imm,.string ⟨tg.toArray⟩,.int .i64 line,.int .i64 size] 202));have HBW:=hid (HB.out.alloc HB.out.size (.cells #[.string ⟨data.toArray⟩,.int .i64 i.op,.int .i64 i.rd,.int .i64 i.rs1,.int .i64 i.rs2,.int .i64 i.imm,.string ⟨tg.toArray⟩,.int .i64 line,.int .i64 size] 202));(have k1:(wr.alloc (.cells #[.string ⟨data.toArray⟩,.int .i64 i.op,.int .i64 i.rd,.int .i64 i.rs1,.int .i64 i.rs2,.int .i64 i.imm,.string ⟨tg.toArray⟩,.int .i64 line,.int .i64 size] 202)).cell? ⟨q,j,none⟩=some (.int .i64 (Pn.plq l j)):=by go_simp);(have k2:(wr.alloc (.cells #[.string ⟨data.toArray⟩,.int .i64 i.op,.int .i64 i.rd,.int .i64 i.rs1,.int .i64 i.rs2,.int .i64 i.imm,.string ⟨tg.toArray⟩,.int .i64 line,.int .i64 size] 202)).cell? ⟨wr.heap.size,8,none⟩=some (.int .i64 size):=by go_simp);have hwz:=HBW.out.size;clear p0 p1 p2 p3 p4 p5 p6 p7 p8 hqc HO HB;generalize wr.alloc (.cells #[.string ⟨data.toArray⟩,.int .i64 i.op,.int .i64 i.rd,.int .i64 i.rs1,.int .i64 i.rs2,.int .i64 i.imm,.string ⟨tg.toArray⟩,.int .i64 line,.int .i64 size] 202)=W at *
   go_region_law
    ((refine step_append_lies _ (by rfl) _ _ _ (by rfl) w.heap.size 3 i0 _ 1 8 underlying49 hi hz0 hz1 hz2 rfl (by omega) (.slice (some ⟨q,0,none⟩) (j+1) cp) (j+1) (b6z (a3h l j)) (by rfl) ((HOW.out.alloc _).drew)
        ⟨W.heap.size,0,none⟩ 1 1 [.int .i64 (Pn.plq l j+size)] (by rfl) (by rfl) (World.news_of_block (cs:=#[.int .i64 (Pn.plq l j+size)]) (t:=3) (fr:=(0,0)) (heap_alloc_new W _)) (by simp[Value.oneCell'])
        (by omega) (by unfold maxLen;omega) (by omega) (by simp;omega) (W.heap.size+1) (by simp) ?_;intro gg cap9 w9 hown9 hgrow hat hlt9))
   all_goals
    have hB9:Below w.heap.size w w9:=((HBW.out.alloc hwz _).drew).grown hgrow (by simp;omega) (fun k hk=>by have:=(HOW.out.lt k hk).1;omega)
    have hO9:w9.ownsRow w.heap.size 3 1 (.slice (some ⟨gg,0,none⟩) (j+1+1) cap9) (a3h l (j+1)).length (b6z (a3h l (j+1))):=by
     rw[a1w,b83,HSZ.out];simpa[b6z] using hown9
    clear hgrow hown9 hat;go_wp2_with fail;go_roundw;(case rel=>exact ⟨j+1,by omega,by go_num,hO9,hB9⟩);case measure=>simp[intOf];omega
  ·have hjn:j=l.length:=by omega
   subst hjn;go_wp2_with fail;go_ret;exact ⟨_,rfl,hown,hB⟩
