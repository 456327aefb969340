import Derived.Test.YtbmcofdodfcnnaaGreatDoorGLA
set_option linter.all false
set_option maxHeartbeats 0
set_option maxRecDepth 100000
namespace Go
open Proofs.Tryz
variable {short : Bool} {j k mb v b g cap : Nat} {P : List Int} {l t tg : List UInt8} {w w' : World} {ao : Option Addr}
structure Qt where
 p:cQ
 line:Int
 size:Int
def dR (x:Qt):List Value:=cY x.p++[.int .i64 x.line,.int .i64 x.size]
def iS (short:Bool) (p:cQ):Int:=if p.data=[] then (if short=true/\(p.tg≠[]\/(bQ p.ins).2=0) then 2 else 4) else p.data.length
def fszs (short:Bool) (l:List Qt) (j:Nat):List Qt:=l.mapIdx λ k x=>if k<j then ⟨x.p,x.line,iS short x.p⟩ else x
def nB (short) (l:List Qt) (j):(fszs short l j).length=l.length:=by simp[fszs]
def nI {l:List Qt} {x:Qt} (h:l[k]?=some x):(fszs short l j)[k]?=some (if k<j then ⟨x.p,x.line,iS short x.p⟩ else x):=by simp[fszs,h]
def MP (short) (l:List Qt):fszs short l 0=l:=by
 apply List.ext_getElem?;intro k
 cases h:l[k]? with
 | none=>simp[fszs,h]
 | some x=>simp[fszs,h]
def eZ:List Qt->Nat->Int
 | _,0=>0
 | l,k+1=>eZ l k+(match l[k]? with|some x=>x.size|none=>0)
def cX (l:List Qt) (j:Nat):List Int:=(List.range (j+1)).map (eZ l)
def ku (l:List Qt) (j):(cX l j).length=j+1:=by simp[cX]
def ME (l:List Qt) (j):cX l (j+1)=cX l j++[eZ l (j+1)]:=by simp[cX,List.range_succ]
def oC (l:List Qt) (j k) (h:k<=j):(cX l j).getD k 0=eZ l k:=by simp[cX,List.getD,List.getElem?_range (show k<j+1 by omega)]
def Bp (N:List (List UInt8×Nat)) (t:List UInt8):Nat:=(N.lookup t).getD 0
def gD (P:List Int) (N:List (List UInt8×Nat)) (k:Nat) (p:cQ):aE:=if p.tg=[] then p.ins else ⟨p.ins.op,p.ins.rd,p.ins.rs1,p.ins.rs2,P.getD (Bp N p.tg) 0-P.getD k 0⟩
def j6 (P:List Int) (N:List (List UInt8×Nat)) (k:Nat) (x:Qt):Bool:=!x.p.tg.isEmpty&&(x.size==2)&&!((bQ (gD P N k x.p)).2==0)
def grw (P:List Int) (N:List (List UInt8×Nat)) (l:List Qt) (j:Nat):List Qt:=l.mapIdx λ k x=>if k<j/\j6 P N k x=true then ⟨x.p,x.line,4⟩ else x
def nL (P) (N:List (List UInt8×Nat)) (l:List Qt) (j):(grw P N l j).length=l.length:=by simp[grw]
def kB {N:List (List UInt8×Nat)} {l:List Qt} {x:Qt} (h:l[k]?=some x):(grw P N l j)[k]?=some (if k<j/\j6 P N k x=true then ⟨x.p,x.line,4⟩ else x):=by simp[grw,h]
def ON (P) (N:List (List UInt8×Nat)) (l:List Qt):grw P N l 0=l:=by
 apply List.ext_getElem?;intro k
 cases h:l[k]? with
 | none=>simp[grw,h]
 | some x=>simp[grw,h]
def Ti {N:List (List UInt8×Nat)} {l:List Qt} {x:Qt} (h:l[j]?=some x) (q:j6 P N j x=false):grw P N l (j+1)=grw P N l j:=by
 apply List.ext_getElem?;intro k
 cases hk:l[k]? with
 | none=>simp[grw,hk]
 | some y=>
  rw[kB hk,kB hk];by_cases e:k=j
  .subst e
   rw[h]at hk;cases hk;simp[q]
  have:k<j+1↔k<j:=by omega
  simp only[this]
def kD (P:List Int) (N:List (List UInt8×Nat)) (l:List Qt) (j:Nat):Bool:=(List.range j).any λ k=>match l[k]? with|some x=>j6 P N k x|none=>false
def Dm (P) (N:List (List UInt8×Nat)) (l:List Qt) (j) {x:Qt} (h:l[j]?=some x):kD P N l (j+1)=(kD P N l j||j6 P N j x):=by simp[kD,List.range_succ,h]
def kX (N:List (List UInt8×Nat)) (l:List Qt):List Qt:=grw (cX l l.length) N l l.length
def rnds (N:List (List UInt8×Nat)):Nat->List Qt->List Qt
 | 0,l=>l
 | m+1,l=>rnds N m (kX N l)
def mZ (P:List Int) (N:List (List UInt8×Nat)) (k:Nat) (x:Qt):Option (List UInt8):=
 if x.p.data=[] then
  (if x.size=2 then (if (bQ (gD P N k x.p)).2=0 then some (bR 2 (bQ (gD P N k x.p)).1) else none)
   else (if (bB (gD P N k x.p)).2=0 then some (bR 4 (bB (gD P N k x.p)).1) else none))
 else some x.p.data
def kn (P:List Int) (N:List (List UInt8×Nat)) (l:List Qt):Nat->List UInt8
 | 0=>[]
 | j+1=>kn P N l j++(match l[j]? with|some x=>(mZ P N j x).getD []|none=>[])
def ip (s:List UInt8) (number:Int) (l:List Qt) (N:List (List UInt8×Nat)):Int×List Qt×List (List UInt8×Nat):=
 if (bH s).2.2=0 then
  (if (bH s).1=[] then (0,l++(bH s).2.1.map (λ p=>⟨p,number,0⟩),N)
   else if (N.lookup (bH s).1).isSome then (6,l,N)
   else (0,l++(bH s).2.1.map (λ p=>⟨p,number,0⟩),N++[((bH s).1,l.length)]))
 else ((bH s).2.2,l,N)
open RowKit
def BX (i) (w):
    aG prog 194 #[i.val] w (.bool ((bQ i).2==0)):=by
 unfold aG;have u:=aA (λ w'=>sL i w' qm)
 generalize bQ i=X at *;obtain ⟨n,er⟩:=X;obtain ⟨op,rd,rs1,rs2,imm⟩:=i;unfold aE.val at *;simp only at *;go_in;go_wp2_with fail;have h:Hid (Below w.heap.size w (w.alloc (.cells #[.int .i64 op,.int .i64 rd,.int .i64 rs1,.int .i64 rs2,.int .i64 imm] 26))):=aA aJ;generalize w.alloc _=W at *;refine zK (u.out _) λ v j=>?_;have q:=aA (h.out.trans (j.mono h.out.size));clear j;go_wp2;go_ret;exact ⟨rfl,q.out⟩
def cP (h:l≠[]):l.isEmpty=false:=by cases l with|nil=>exact absurd rfl h|cons a b=>rfl
def Kl (x:Qt) (short) (w):
    aG prog 142 #[.agg (dR x).toArray,.bool short] w (.int .i64 (iS short x.p)):=by
 unfold aG;obtain ⟨⟨data,⟨op,rd,rs1,rs2,imm⟩,tg⟩,line,size⟩:=x;unfold dR cY;simp only[List.cons_append,List.nil_append];by_cases A:data=[]
 .subst A
  cases short with
  | false=>
   (have q:Hid (iS false ⟨[],⟨op,rd,rs1,rs2,imm⟩,tg⟩=4):=aA (by simp[iS]));go_in;go_wp2;go_ret;exact ⟨by rw[q.out];rfl,aJ⟩
  | true=>
   by_cases C:tg=[]
   .subst C
    (have v:=aA (λ w'=>BX ⟨op,rd,rs1,rs2,imm⟩ w'));unfold aE.val at v;simp only at v;have y:Hid (Below w.heap.size w (w.alloc (.cells #[.string ⟨#[]⟩,.int .i64 op,.int .i64 rd,.int .i64 rs1,.int .i64 rs2,.int .i64 imm,.string ⟨#[]⟩,.int .i64 line,.int .i64 size] 202))):=aA aJ;by_cases h:(bQ ⟨op,rd,rs1,rs2,imm⟩).2=0
    .have q:Hid (iS true ⟨[],⟨op,rd,rs1,rs2,imm⟩,[]⟩=2):=aA (by simp[iS,h])
     rw[h]at v;clear h;go_in;go_wp2_with fail;generalize w.alloc _=W at *;refine zK (v.out _) λ F j=>?_;have u:=aA (y.out.trans (j.mono y.out.size));clear j;go_wp2;go_ret;exact ⟨by rw[q.out];rfl,u.out⟩
    (have q:Hid (iS true ⟨[],⟨op,rd,rs1,rs2,imm⟩,[]⟩=4):=aA (by simp[iS,h]));(rw[show ((bQ ⟨op,rd,rs1,rs2,imm⟩).2==0)=false by simpa using h]at v);clear h;go_in;go_wp2_with fail;generalize w.alloc _=W at *;refine zK (v.out _) λ F j=>?_;have u:=aA (y.out.trans (j.mono y.out.size));clear j;go_wp2;go_ret;exact ⟨by rw[q.out];rfl,u.out⟩
   (have q:Hid (iS true ⟨[],⟨op,rd,rs1,rs2,imm⟩,tg⟩=2):=aA (by simp[iS,C]));have E:=cP C;clear C;go_in;go_wp2;go_ret;exact ⟨by rw[q.out];rfl,aJ⟩
 have q:Hid (iS short ⟨data,⟨op,rd,rs1,rs2,imm⟩,tg⟩=data.length):=aA (by simp[iS,A])
 have D:=cP A;clear A;go_in;go_wp2;go_ret;exact ⟨by rw[q.out];rfl,aJ⟩
def jo (x:Qt) (j:aE):List UInt8×Int:=
 if x.p.data=[] then
  (if x.size=2 then (if (bQ j).2=0 then (bR 2 (bQ j).1,0) else ([],(bQ j).2))
   else (if (bB j).2=0 then (bR 4 (bB j).1,0) else ([],(bB j).2)))
 else (x.p.data,0)
def Jt (x:Qt) (j:aE) (w:World) (h:x.p.data≠[]):
    aG prog 145 #[.agg (dR x).toArray,j.val] w (.tuple #[.string ⟨x.p.data.toArray⟩,.int .i64 0]):=by
 unfold aG;obtain ⟨⟨data,⟨op,rd,rs1,rs2,imm⟩,tg⟩,line,size⟩:=x;obtain ⟨A,C,u,v,q⟩:=j;unfold dR cY aE.val;simp only[List.cons_append,List.nil_append];simp only at h;have y:=cP h;clear h;go_in;go_wp2;go_ret2;exact ⟨rfl,aJ.alloc (by rw[za];omega) _⟩
def K6 (p:cQ) (line) (j) (w) (J:p.data=[]):
    aG prog 145 #[.agg (dR ⟨p,line,4⟩).toArray,j.val] w (.tuple #[.string ⟨(jo ⟨p,line,4⟩ j).1.toArray⟩,.int .i64 (jo ⟨p,line,4⟩ j).2]):=by
 unfold aG;have H:Hid (jo ⟨p,line,4⟩ j=if (bB j).2=0 then (bR 4 (bB j).1,0) else ([],(bB j).2)):=aA (by simp[jo,J])
 obtain ⟨data,⟨op,rd,rs1,rs2,imm⟩,tg⟩:=p;simp only at J;subst J;have G:=aA (λ w'=>Cs j w')
 obtain ⟨D,E,v,y,u⟩:=j;generalize bB ⟨D,E,v,y,u⟩=X at *;obtain ⟨n,er⟩:=X;unfold dR cY aE.val at *;simp only[List.cons_append,List.nil_append]at *;have C:=aA ((aF.new w [.string ⟨#[]⟩,.int .i64 op,.int .i64 rd,.int .i64 rs1,.int .i64 rs2,.int .i64 imm,.string ⟨tg.toArray⟩,.int .i64 line,.int .i64 4] 202).alloc (.cells #[.int .i64 D,.int .i64 E,.int .i64 v,.int .i64 y,.int .i64 u] 26));have h:Hid (Below w.heap.size w ((w.alloc (.cells #[.string ⟨#[]⟩,.int .i64 op,.int .i64 rd,.int .i64 rs1,.int .i64 rs2,.int .i64 imm,.string ⟨tg.toArray⟩,.int .i64 line,.int .i64 4] 202)).alloc (.cells #[.int .i64 D,.int .i64 E,.int .i64 v,.int .i64 y,.int .i64 u] 26))):=aA (aJ.alloc (by rw[za];omega) _)
 by_cases L:er=0
 .subst L
  rw[zt rfl]at H;go_in;go_wp2_with fail;generalize (w.alloc _).alloc _=W at *;refine zK (G.out _) λ K q=>?_;have M:=(C.out.next q).2.2 8 _ rfl;have A:Hid (Below w.heap.size w K):=aA (h.out.trans (q.mono h.out.size));clear q C G h;go_wp2_with fail;refine zK (pD n 4 _ (by decide)) λ N F=>?_;have I:=aA (A.out.trans (F.mono A.out.size));clear F;go_wp2;go_ret2;exact ⟨by rw[H.out];rfl,I.out⟩
 rw[aC L]at H;go_in;go_wp2_with fail;generalize (w.alloc _).alloc _=W at *;refine zK (G.out _) λ K q=>?_;have A:Hid (Below w.heap.size w K):=aA (h.out.trans (q.mono h.out.size));clear q C G h;go_wp2;go_ret2;exact ⟨by rw[H.out];rfl,A.out⟩
def K7 (p:cQ) (line) (j) (w) (J:p.data=[]):
    aG prog 145 #[.agg (dR ⟨p,line,2⟩).toArray,j.val] w (.tuple #[.string ⟨(jo ⟨p,line,2⟩ j).1.toArray⟩,.int .i64 (jo ⟨p,line,2⟩ j).2]):=by
 unfold aG;have H:Hid (jo ⟨p,line,2⟩ j=if (bQ j).2=0 then (bR 2 (bQ j).1,0) else ([],(bQ j).2)):=aA (by simp[jo,J])
 obtain ⟨data,⟨op,rd,rs1,rs2,imm⟩,tg⟩:=p;simp only at J;subst J;have G:=aA (λ w'=>sL j w' qm)
 obtain ⟨D,E,v,y,u⟩:=j;generalize bQ ⟨D,E,v,y,u⟩=X at *;obtain ⟨n,er⟩:=X;unfold dR cY aE.val at *;simp only[List.cons_append,List.nil_append]at *;have C:=aA ((aF.new w [.string ⟨#[]⟩,.int .i64 op,.int .i64 rd,.int .i64 rs1,.int .i64 rs2,.int .i64 imm,.string ⟨tg.toArray⟩,.int .i64 line,.int .i64 2] 202).alloc (.cells #[.int .i64 D,.int .i64 E,.int .i64 v,.int .i64 y,.int .i64 u] 26));have h:Hid (Below w.heap.size w ((w.alloc (.cells #[.string ⟨#[]⟩,.int .i64 op,.int .i64 rd,.int .i64 rs1,.int .i64 rs2,.int .i64 imm,.string ⟨tg.toArray⟩,.int .i64 line,.int .i64 2] 202)).alloc (.cells #[.int .i64 D,.int .i64 E,.int .i64 v,.int .i64 y,.int .i64 u] 26))):=aA (aJ.alloc (by rw[za];omega) _)
 by_cases L:er=0
 .subst L
  rw[zt rfl]at H;go_in;go_wp2_with fail;generalize (w.alloc _).alloc _=W at *;refine zK (G.out _) λ K q=>?_;have M:=(C.out.next q).2.2 8 _ rfl;have A:Hid (Below w.heap.size w K):=aA (h.out.trans (q.mono h.out.size));clear q C G h;go_wp2_with fail;refine zK (pD n 2 _ (by decide)) λ N F=>?_;have I:=aA (A.out.trans (F.mono A.out.size));clear F;go_wp2;go_ret2;exact ⟨by rw[H.out];rfl,I.out⟩
 rw[aC L]at H;go_in;go_wp2_with fail;generalize (w.alloc _).alloc _=W at *;refine zK (G.out _) λ K q=>?_;have A:Hid (Below w.heap.size w K):=aA (h.out.trans (q.mono h.out.size));clear q C G h;go_wp2;go_ret2;exact ⟨by rw[H.out];rfl,A.out⟩
def JN (x:Qt) (j) (w) (q:x.p.data=[]->x.size=2\/x.size=4):
    aG prog 145 #[.agg (dR x).toArray,j.val] w (.tuple #[.string ⟨(jo x j).1.toArray⟩,.int .i64 (jo x j).2]):=by
 unfold aG;obtain ⟨p,line,size⟩:=x;by_cases h:p.data=[]
 .rcases q h with rfl|rfl
  .exact K7 p line j w h
  exact K6 p line j w h
 have e:jo ⟨p,line,size⟩ j=(p.data,0):=by simp[jo,h]
 rw[e];exact Jt ⟨p,line,size⟩ j w h
open Maps
def fY (mb:Nat) (N:List (List UInt8×Nat)) (w:World):Prop:=
 ∃n D,n<=N.length/\w.ownsMap (H:=Unit) prog 9 (plainElem prog 3) mb n D/\
  ∀key:List UInt8,Maps.has D (.string key)=(N.lookup key).isSome/\∀v,N.lookup key=some v->∀z,D.atKey (.string key) z=.lit (.int .i64 (v:Nat))
def fY.block {N:List (List UInt8×Nat)} (h:fY mb N w) (y:w'.heap[mb]?=w.heap[mb]?):fY mb N w':=by
 obtain ⟨n,D,C,⟨u,j,q,F,E,v⟩,A⟩:=h;exact ⟨n,D,C,⟨u,j,y.trans q,F,E,v⟩,A⟩
def fY.lt {N:List (List UInt8×Nat)} (h:fY mb N w):mb<w.heap.size:=by
 obtain ⟨n,D,u,j,q⟩:=h;exact j.lt
def fY.next {N:List (List UInt8×Nat)} (h:fY mb N w) (j:Below w.heap.size w w'):fY mb N w':=h.block (j.block mb h.lt)
def zP (t) (h:t.length<=maxLen):keyOf prog 9 (.string ⟨t.toArray⟩)=some (.string t):=by
 have:=Go.WideMaps.keyOf_string_mk underlying9 (s:=⟨t.toArray⟩) (by simpa[ByteArray.size] using h)
 simpa using this
def fY.look {N:List (List UInt8×Nat)} (h:fY mb N w) (t) (u:t.length<=maxLen):
    ∃c,(Instr.lookup 146 (.map (some mb)) (.string ⟨t.toArray⟩) true).run prog w=.ok (.tuple #[.int .i64 c,.bool (N.lookup t).isSome]) w:=by
 obtain ⟨n,D,C,y,q⟩:=h;obtain ⟨v,E,j,A⟩:=y.look_ok Av underlying146 (Ib _) (plainElem_int underlying3 (by decide)) (zP t u)
 obtain ⟨c,rfl,_,_⟩:=plainElem_int_inv underlying3 A;rw[(q t).1]at j;exact ⟨c,j⟩
def fY.get {N:List (List UInt8×Nat)} (h:fY mb N w) (t) (y:t.length<=maxLen) (C:N.lookup t=some v):
    (Instr.lookup 146 (.map (some mb)) (.string ⟨t.toArray⟩) false).run prog w=.ok (.int .i64 v) w:=by
 obtain ⟨n,D,E,A,u⟩:=h;obtain ⟨c,j,q,_⟩:=A.lookup_int Av underlying146 underlying3 (Ib _) (zP t y);rw[(u t).2 v C]at q;simp only[DataW.lit.injEq,Lit.int.injEq,true_and]at q;rw[<-q]at j;exact j
def K5 (N:List (List UInt8×Nat)) (t key) (v):(N++[(t,v)]).lookup key=(N.lookup key).or (if key=t then some v else none):=by
 induction N with
 | nil=>
  by_cases h:key=t
  .subst h;simp[List.lookup]
  have e:=beq_false_of_ne h;simp[List.lookup,e,h]
 | cons p N ih=>
  obtain ⟨a,b⟩:=p;simp only[List.cons_append,List.lookup]
  split
  .rfl
  exact ih
def GQ (t):WideAt.IsKeyLit (.string t):=by first|trivial|(unfold WideAt.IsKeyLit;trivial)|simp[WideAt.IsKeyLit]
def fY.put {N:List (List UInt8×Nat)} (h:fY mb N w) (t:List UInt8) (J:t.length<=maxLen) (v:Nat) (M:v<=1000000) (K:N.length<=1000000) (E:N.lookup t=none):
    ∃w',(Instr.mapUpdate 146 (.map (some mb)) (.string ⟨t.toArray⟩) (.int .i64 v)).run prog w=.ok () w'/\fY mb (N++[(t,v)]) w'/\w.grownBy w' (some mb):=by
 obtain ⟨n,D,L,A,G⟩:=h;obtain ⟨w',y,C,I⟩:=A.update Av underlying146 (by unfold maxLen;omega) (zP t J) (plainElem_int (H:=Unit) underlying3 (a:=v) (by simp[Lit.wf,IntKind.min,IntKind.max,IntKind.bits,IntKind.signed];omega))
 refine ⟨w',y,⟨n+1,_,by simp;omega,C,λ j=>?_⟩,I⟩
 rw[K5];by_cases e:j=t
 .subst e
  rw[E,zt rfl];refine ⟨by rw[Maps.has_put_same A.isMap (show WideAt.IsKeyLit (.string _) from GQ _)];rfl,λ u F z=>?_⟩
  have:v=u:=by simpa using F
  subst this;exact Maps.atKey_put_same A.isMap (show WideAt.IsKeyLit (.string _) from GQ _) _ _
 rw[aC e];have q:Lit.string j≠Lit.string t:=λ h=>e (by injection h)
 simp only[Option.or_none];exact ⟨by rw[Maps.has_put_other q];exact (G j).1,λ u F z=>by rw[Maps.atKey_put_other q];exact (G j).2 u F z⟩
structure PQ (b g cap mb:Nat) (ao:Option Addr) (l:List Qt) (N:List (List UInt8×Nat)) (w:World):Prop where
 c0:w.cell? ⟨b,0,none⟩=some (.slice ao l.length cap)
 c1:w.cell? ⟨b,1,none⟩=some (.map (some mb))
 bl:b<w.heap.size
 fb:∀q,w.frozen? ⟨b,q,none⟩=false
 ne:b≠g
 nm:fY mb N w
 mg:0<l.length->mb≠g
 ad:0<l.length->ao=some ⟨g,0,none⟩
 gl:0<l.length->g<w.heap.size
 fg:0<l.length->∀q,w.frozen? ⟨g,q,none⟩=false
 at':∀k x,l[k]?=some x->∀j u,(dR x)[j]?=some u->w.cell? ⟨g,k*9+j,none⟩=some u
def kz {α:Type} {l:List α} {x:α} (h:l[k]?=some x):0<l.length/\k<l.length:=by
 rcases Nat.lt_or_ge k l.length with j|j
 .exact ⟨by omega,j⟩
 rw[List.getElem?_eq_none j]at h;cases h
def PQ.step {B:Nat} {l:List Qt} {N:List (List UInt8×Nat)} (h:PQ b g cap mb ao l N w) (v:Below B w w') (y:b<B) (A:0<l.length->g<B) (D:mb<B):PQ b g cap mb ao l N w':=
 ⟨(v.cell (p:=⟨b,0,none⟩) y).trans h.c0,(v.cell (p:=⟨b,1,none⟩) y).trans h.c1,zl h.bl v.size,λ q=>(v.frozen (p:=⟨b,q,none⟩) y).trans (h.fb q),h.ne,h.nm.block (v.block mb D),h.mg,h.ad,
   λ p=>zl (h.gl p) v.size,λ p q=>(v.frozen (p:=⟨g,q,none⟩) (A p)).trans (h.fg p q),λ k x C j u E=>(v.cell (p:=⟨g,k*9+j,none⟩) (A (kz C).1)).trans (h.at' k x C j u E)⟩
def PQ.next {l:List Qt} {N:List (List UInt8×Nat)} (h:PQ b g cap mb ao l N w) (j:Below w.heap.size w w'):PQ b g cap mb ao l N w':=h.step j h.bl h.gl h.nm.lt
def Ln (b g cap mb:Nat) (ao:Option Addr) (l:List Qt) (N:List (List UInt8×Nat)) (k:Nat) (x:Qt) (O:Value) (w:World) (h:PQ b g cap mb ao l N w) (j:l[k]?=some x) (E:x.p.tg=[]):
    aG prog 146 #[.pointer (some ⟨b,0,none⟩),.int .i64 k,O] w x.p.ins.val:=by
 unfold aG;obtain ⟨q,G⟩:=kz j;have F:(k:Int)<l.length:=by omega
 obtain rfl:=h.ad q;obtain ⟨⟨data,⟨C,D,y,A,u⟩,tg⟩,line,size⟩:=x;simp only at E;subst E;have c0:=h.c0;have bl:=h.bl;have gl:=h.gl q;have H:=h.at' k _ j 1 _ rfl;have I:=h.at' k _ j 2 _ rfl;have J:=h.at' k _ j 3 _ rfl;have K:=h.at' k _ j 4 _ rfl;have L:=h.at' k _ j 5 _ rfl;have M:=h.at' k _ j 6 _ rfl;simp only at H I J K L M;clear j h;go_in;go_wp2;refine zp (v:=(aE.mk C D y A u).val) (by simp[results,results146,go_sem,aE.val]) rfl ⟨rfl,?_⟩
 exact aJ.alloc (by rw[za];omega) _
def Nw (b g cap mb) (ao) (l:List Qt) (N:List (List UInt8×Nat)) (k v) (x:Qt) (P) (q cp) (w) (h:PQ b g cap mb ao l N w) (u:l[k]?=some x) (J:x.p.tg≠[]) (L:x.p.tg.length<=2000) (K:N.lookup x.p.tg=some v) (V:k<P.length) (ac:v<P.length) (hq:q<w.heap.size) (Z:w.cell? ⟨q,k,none⟩=some (.int .i64 (P.getD k 0))) (aa:w.cell? ⟨q,v,none⟩=some (.int .i64 (P.getD v 0))) (D:∀j,0<=P.getD j 0/\P.getD j 0<=100000000):
    Calls prog 146 #[.pointer (some ⟨b,0,none⟩),.int .i64 k,.slice (some ⟨q,0,none⟩) P.length cp] w λ e w'=>e=.returned (gD P N k x.p).val/\Below w.heap.size w w':=by
 obtain ⟨y,Y⟩:=kz u;have X:(k:Int)<l.length:=by omega
 obtain rfl:=h.ad y;have O:Hid (gD P N k x.p=⟨x.p.ins.op,x.p.ins.rd,x.p.ins.rs1,x.p.ins.rs2,P.getD v 0-P.getD k 0⟩):=aA (by simp[gD,J,Bp,K])
 have F:=λ W U=>(h.nm.next (w':=W) U).get x.p.tg (by unfold maxLen;omega) K
 obtain ⟨⟨data,⟨H,I,A,C,G⟩,tg⟩,line,size⟩:=x;simp only at J K L O F;have ab:=cP J;have c0:=h.c0;have c1:=h.c1;have bl:=h.bl;have gl:=h.gl y;have p1:=h.at' k _ u 1 _ rfl;have p2:=h.at' k _ u 2 _ rfl;have p3:=h.at' k _ u 3 _ rfl;have p4:=h.at' k _ u 4 _ rfl;have p5:=h.at' k _ u 5 _ rfl;have p6:=h.at' k _ u 6 _ rfl;simp only at p1 p2 p3 p4 p5 p6;have Q:(k:Int)<P.length:=by omega
 have T:(v:Int)<P.length:=by omega
 have b1:=D k;have b2:=D v;clear u h J K D;generalize P.getD k 0=M at *;generalize P.getD v 0=pv at *;have wa:IntKind.i64.wrap (pv-M)=pv-M:=zw _ (by omega)
 go_in;go_wp2_with fail;have E:Below w.heap.size w ((w.alloc (.cells #[.int .i64 0,.int .i64 0,.int .i64 0,.int .i64 0,.int .i64 0] 26)).alloc (.cells #[.int .i64 H,.int .i64 I,.int .i64 A,.int .i64 C,.int .i64 G] 26)):=aJ.alloc (by rw[za];omega) _
 have R:=F _ E.drew;go_region
 all_goals
  go_wp2;refine zp (v:=(aE.mk H I A C (pv-M)).val) (by simp[results,results146,go_sem,aE.val]) rfl ⟨by rw[O.out],?_⟩
  exact (aJ.alloc (by rw[za];omega) _).drew
def dW (l:List Qt) (N:List (List UInt8×Nat)):Prop:=∀x∈l,x.p.tg≠[]->x.p.tg.length<=2000/\∃v,N.lookup x.p.tg=some v/\v<=l.length
def CR (b g cap mb:Nat) (ao:Option Addr) (l:List Qt) (N:List (List UInt8×Nat)) (k:Nat) (x:Qt) (P:List Int) (H:Option Addr) (base G:Nat) (w:World) (h:PQ b g cap mb ao l N w) (y:l[k]?=some x) (L:dW l N)
    (Q:P.length=l.length+1) (u:IA H P base w) (C:∀j,0<=P.getD j 0/\P.getD j 0<=100000000):
    Calls prog 146 #[.pointer (some ⟨b,0,none⟩),.int .i64 k,.slice H P.length G] w λ e w'=>e=.returned (gD P N k x.p).val/\Below w.heap.size w w':=by
 by_cases A:x.p.tg=[]
 .have e:gD P N k x.p=x.p.ins:=by simp[gD,A]
  rw[e];exact Ln b g cap mb ao l N k x _ w h y A
 obtain ⟨J,v,K,O⟩:=L x (List.mem_of_getElem? y) A;obtain ⟨_,M⟩:=kz y;obtain ⟨q,rfl,_,D,E⟩:=u.at' k (by omega)
 obtain ⟨R,I,_,_,F⟩:=u.at' v (by omega)
 cases I
 exact Nw b g cap mb ao l N k v x P q G w h y A J K (by omega) (by omega) D E F C
def KZ (b g cap mb) (ao) (l:List Qt) (N:List (List UInt8×Nat)) (w) (h:PQ b g cap mb ao l N w) (hn:l.length<=1000000) (hs:∀k,k<=l.length->0<=eZ l k/\eZ l k<=100000000):
    Calls prog 143 #[.pointer (some ⟨b,0,none⟩)] w λ e w'=>∃v,e=.returned v/\w'.ownsRow w.heap.size 3 1 v (cX l l.length).length (lF (cX l l.length))/\Below w.heap.size w w':=by
 obtain ⟨i0,hi,T,U,V⟩:=info_parts Tryz.infoInt;have HP:=aA h;have Y:=aA hs;have c0:=h.c0;have bl:=h.bl;clear h hs;go_in;go_wp2_with fail;clear c0;go_loopw [3,12] (λ v i wr=>∃j:Nat,j<=l.length/\i=.int .i64 j/\wr.ownsRow w.heap.size 3 1 v (cX l j).length (lF (cX l j))/\Below w.heap.size w wr) (λ _ i _=>l.length-(intOf i).toNat)
 case atStart=>
  refine ⟨0,Nat.zero_le _,rfl,?_,aJ⟩;exact World.ownsRow_lit w #[.int .i64 0] 1 zn (by unfold maxLen;omega) (by rfl)
 case round=>
  obtain ⟨j,hj,rfl,u,J⟩:=hrel;by_cases Q:j<l.length
  .obtain ⟨⟨⟨data,i,tg⟩,line,size⟩,hx⟩:∃x,l[j]?=some x:=⟨_,zg Q⟩
   have y:=HP.out.next J;obtain rfl:=y.ad (kz hx).1;have gl:=y.gl (kz hx).1;have p0:=y.at' j _ hx 0 _ rfl;have p1:=y.at' j _ hx 1 _ rfl;have p2:=y.at' j _ hx 2 _ rfl;have p3:=y.at' j _ hx 3 _ rfl;have p4:=y.at' j _ hx 4 _ rfl;have p5:=y.at' j _ hx 5 _ rfl;have p6:=y.at' j _ hx 6 _ rfl;have p7:=y.at' j _ hx 7 _ rfl;have p8:=y.at' j _ hx 8 _ rfl;simp only[Nat.add_zero]at p0 p1 p2 p3 p4 p5 p6 p7 p8;(have au:(j:Int)<l.length:=by omega);obtain ⟨pa,cp,rfl,H⟩:=pB u;rw[ku]at *;(obtain ⟨q,rfl,ay,az,I⟩:=H.at' j (by rw[ku];omega));rw[oC l j j zn]at I;(have a0:=Y.out j (by omega));(have a1:=Y.out (j+1) (by omega));(have F:Hid (eZ l (j+1)=eZ l j+size):=aA (by simp[eZ,hx]));have K:=aA J;have X:=aA u;clear y J hx u H;(have av:(j:Int)<((j+1:Nat):Int):=by omega);(have ar:(0:Int)<=(j:Int):=by omega);(have aw:(j:Int)<(j:Int)+1:=by omega);(have wa:IntKind.i64.wrap (eZ l j+size)=eZ l j+size:=zw _ (by have:=F.out;omega));go_wp2_with fail;have E:=aA (X.out.alloc (.cells #[.string ⟨data.toArray⟩,.int .i64 i.op,.int .i64 i.rd,.int .i64 i.rs1,.int .i64 i.rs2,.int .i64 i.imm,.string ⟨tg.toArray⟩,.int .i64 line,.int .i64 size] 202));have D:=aA (K.out.alloc K.out.size (.cells #[.string ⟨data.toArray⟩,.int .i64 i.op,.int .i64 i.rd,.int .i64 i.rs1,.int .i64 i.rs2,.int .i64 i.imm,.string ⟨tg.toArray⟩,.int .i64 line,.int .i64 size] 202));(have k1:(wr.alloc (.cells #[.string ⟨data.toArray⟩,.int .i64 i.op,.int .i64 i.rd,.int .i64 i.rs1,.int .i64 i.rs2,.int .i64 i.imm,.string ⟨tg.toArray⟩,.int .i64 line,.int .i64 size] 202)).cell? ⟨q,j,none⟩=some (.int .i64 (eZ l j)):=by go_simp);(have k2:(wr.alloc (.cells #[.string ⟨data.toArray⟩,.int .i64 i.op,.int .i64 i.rd,.int .i64 i.rs1,.int .i64 i.rs2,.int .i64 i.imm,.string ⟨tg.toArray⟩,.int .i64 line,.int .i64 size] 202)).cell? ⟨wr.heap.size,8,none⟩=some (.int .i64 size):=by go_simp);have R:=D.out.size;clear p0 p1 p2 p3 p4 p5 p6 p7 p8 I X K;generalize wr.alloc (.cells #[.string ⟨data.toArray⟩,.int .i64 i.op,.int .i64 i.rd,.int .i64 i.rs1,.int .i64 i.rs2,.int .i64 i.imm,.string ⟨tg.toArray⟩,.int .i64 line,.int .i64 size] 202)=W at *
   go_region_law
    ((refine step_append_lies _ (by rfl) _ _ _ (by rfl) w.heap.size 3 i0 _ 1 8 underlying49 hi T U V rfl (by omega) (.slice (some ⟨q,0,none⟩) (j+1) cp) (j+1) (lF (cX l j)) (by rfl) ((E.out.alloc _).drew)
        ⟨W.heap.size,0,none⟩ 1 1 [.int .i64 (eZ l j+size)] (by rfl) (by rfl) (World.news_of_block (cs:=#[.int .i64 (eZ l j+size)]) (t:=3) (fr:=(0,0)) (heap_alloc_new W _)) (by simp[Value.oneCell'])
        (by omega) (by unfold maxLen;omega) (by omega) (by simp;omega) (W.heap.size+1) (by simp) ?_;intro gg G w9 C A O Z))
   all_goals
    have L:Below w.heap.size w w9:=((D.out.alloc R _).drew).grown A (by simp;omega) (λ k hk=>by have:=(E.out.lt k hk).1;omega)
    have M:w9.ownsRow w.heap.size 3 1 (.slice (some ⟨gg,0,none⟩) (j+1+1) G) (cX l (j+1)).length (lF (cX l (j+1))):=by
     rw[ku,ME,F.out];simpa[lF] using C
    clear A C O;go_wp2;go_roundw;(case rel=>exact ⟨j+1,by omega,by go_num,M,L⟩);case measure=>simp[intOf];omega
  have P:j=l.length:=by omega
  subst P;go_wp2;go_ret;exact ⟨_,rfl,u,J⟩
def k9 (l:List Qt):Prop:=∀x∈l,0<=x.size/\x.size<=4
def vV {l:List Qt} {x:Qt} (h:l[k]?=some x):x∈l:=List.mem_of_getElem? h
def k9.at' {l:List Qt} (h:k9 l) {x:Qt} (j:l[k]?=some x):0<=x.size/\x.size<=4:=h x (vV j)
def Fs {l:List Qt} (h:∀(k:Nat) (x:Qt),l[k]?=some x->0<=x.size/\x.size<=4):k9 l:=λ x hx=>by
 obtain ⟨k,j⟩:=List.getElem?_of_mem hx;exact h k x j
def pN {l:List Qt} (h:k9 l) (k):0<=eZ l k/\eZ l k<=4*k:=by
 induction k with
 | zero=>simp[eZ]
 | succ k ih=>
  simp only[eZ]
  cases hk:l[k]? with
  | none=>simp only;omega
  | some x=>
   have:=h.at' hk;simp only;omega
def pL {α:Type} {l m:List α} (q:l.length=m.length) {x:α} (h:l[k]?=some x):∃y,m[k]?=some y:=by
 have j:=(List.getElem?_eq_some_iff.1 h).1;exact ⟨_,zg (by omega)⟩
def Gx {l:List Qt} (h:∀x∈l,x.p.data.length<=4):k9 (fszs short l l.length):=Fs λ k x j=>by
 obtain ⟨y,hy⟩:=pL (nB short l l.length) j;rw[nI hy,zt (List.getElem?_eq_some_iff.1 hy).1]at j;cases j
 have q:=h y (vV hy);simp only[iS]
 split
 .split<;>omega
 omega
def Um {N:List (List UInt8×Nat)} {l:List Qt} (h:k9 l):k9 (grw P N l j):=Fs λ k x q=>by
 obtain ⟨y,hy⟩:=pL (nL P N l j) q;rw[kB hy]at q;cases q
 have:=h.at' hy
 split
 .simp
 exact this
def Ri (N:List (List UInt8×Nat)) (l:List Qt):(kX N l).length=l.length:=nL _ _ _ _
def m9 (N:List (List UInt8×Nat)):∀(m:Nat) (l:List Qt),(rnds N m l).length=l.length
 | 0,_=>rfl
 | m+1,l=>by rw[rnds,m9 N m,Ri]
def nK {N:List (List UInt8×Nat)}:∀(m:Nat) {l:List Qt},k9 l->k9 (rnds N m l)
 | 0,_,h=>h
 | m+1,_,h=>nK m (Um h)
def uF (N:List (List UInt8×Nat)):∀(m:Nat) (l:List Qt),rnds N (m+1) l=kX N (rnds N m l)
 | 0,_=>rfl
 | m+1,l=>by rw[rnds,uF N m (kX N l)];rfl
def Uu {N:List (List UInt8×Nat)} {l:List Qt} (h:k9 l) (k):eZ l k<=eZ (grw P N l j) k:=by
 induction k with
 | zero=>simp[eZ]
 | succ k ih=>
  simp only[eZ]
  cases hk:l[k]? with
  | none=>
   (have:(grw P N l j)[k]?=none:=by simp[grw,hk]);rw[this];simp only;omega
  | some x=>
   have hx:=h.at' hk;rw[kB hk];simp only
   split
   .simp only;omega
   omega
def ER {N:List (List UInt8×Nat)} {l:List Qt} (h:k9 l) (k) (C:k<=l.length) (u:kD P N l k=true):eZ l k<eZ (grw P N l l.length) k:=by
 induction k with
 | zero=>simp[kD]at u
 | succ k ih=>
  obtain ⟨x,hx⟩:∃x,l[k]?=some x:=⟨_,zg (by omega)⟩
  rw[Dm P N l k hx]at u;have A:=h.at' hx;simp only[eZ,hx,kB hx];have w:=Uu (P:=P) (N:=N) (j:=l.length) h k;by_cases q:j6 P N k x=true
  .have y:x.size=2:=by
    simp only[j6,Bool.and_eq_true,beq_iff_eq]at q;exact q.1.2
   (rw[zt ⟨by omega,q⟩]);simp only;omega
  have v:j6 P N k x=false:=by simpa using q
  rw[v,Bool.or_false]at u;rw[aC (λ h=>q h.2)]
  have:=ih (by omega) u
  omega
def Er {k:Int} (h:eX k t=true):t.length<=8:=by
 simp only[eX,Bool.and_eq_true,decide_eq_true_eq]at h;exact h.1.2
def QC {r:UInt8} {k:Int} {i:aE} {s:aE×List UInt8} (h:dF r k t i tg=some s) (j:tg.length<=8):s.2.length<=8:=by
 unfold dF at h
 split at h
 .simp only[Option.map_eq_some_iff]at h;obtain ⟨_,_,rfl⟩:=h;exact j
 split at h
 .simp only[Option.map_eq_some_iff]at h;obtain ⟨_,_,rfl⟩:=h;exact j
 split at h
 .simp only[Option.map_eq_some_iff]at h;obtain ⟨_,_,rfl⟩:=h;exact j
 split at h
 .simp only[Option.map_eq_some_iff]at h;obtain ⟨_,_,rfl⟩:=h;exact j
 split at h
 .split at h
  .rename_i hn
   (injection h with h;subst h);exact Er hn
  simp only[Option.map_eq_some_iff]at h;obtain ⟨_,_,rfl⟩:=h;exact j
 split at h
 .injection h with h;subst h;exact j
 cases h
def Dw:∀(F:List UInt8) (l:List Pc) (i:aE) (tg:List UInt8) {s:aE×List UInt8},bM F l i tg=some s->tg.length<=8->s.2.length<=8
 | [],[],_,_,_,h,ht=>by simp only[bM]at h;injection h with h;subst h;exact ht
 | [],_::_,_,_,_,h,_=>by simp[bM]at h
 | _::_,[],_,_,_,h,_=>by simp[bM]at h
 | r::F,(k,t)::l,i,tg,s,h,ht=>by
  simp only[bM]at h
  cases hs:dF r k t i tg with
  | none=>rw[hs]at h;cases h
  | some q=>
   rw[hs]at h;exact Dw F l q.1 q.2 h (QC hs ht)
def kP (p:cQ):Prop:=p.data.length<=4/\p.tg.length<=8/\(p.data≠[]->p.tg=[])
def PI (r n):(j7 r n).length<=2/\∀p∈j7 r n,kP p:=by
 unfold j7
 split
 .exact ⟨by simp,λ p h=>by simp at h;subst h;simp[kP]⟩
 split
 .exact ⟨by simp,λ p h=>by simp at h;subst h;simp[kP]⟩
 exact ⟨by simp,λ p h=>by simp at h;rcases h with rfl|rfl<;>simp[kP]⟩
def GN (nm) (l:List Pc):(cL nm l).1.length<=2/\∀p∈(cL nm l).1,kP p:=by
 unfold cL
 split
 .unfold lu
  split
  .split
   .exact ⟨by simp,λ p j=>by simp at j;subst j;simp[kP,kw]⟩
   exact ⟨by simp,λ p j=>by simp at j⟩
  exact ⟨by simp,λ p j=>by simp at j⟩
 split
 .have q:(fK nm.data.toList).toNat<=4:=by
   unfold fK
   repeat' split
   all_goals decide
  unfold iy
  split
  .exact ⟨by simp,λ p j=>by simp at j⟩
  split
  .exact ⟨by simp,λ p j=>by simp at j⟩
  exact ⟨by simp,λ p j=>by simp at j;subst j;simp[kP,kw,q]⟩
 split
 .unfold j8
  split
  .exact ⟨by simp,λ p j=>by simp at j⟩
  split
  .exact ⟨by simp,λ p j=>by simp at j⟩
  exact PI _ _
 split
 .refine ⟨by simp,λ p j=>?_⟩
  have e:p=(cN nm l).1:=by simpa using j
  subst e;unfold cN
  split
  .simp[kP,jZ]
  split
  .simp[kP,jZ]
  rename_i t ht
  split
  .exact ⟨by simp,Dw _ _ _ _ ht (by simp),λ h=>absurd rfl h⟩
  simp[kP,jZ]
 exact ⟨by simp,λ p j=>by simp at j⟩
def uL (nm) (l:List Pc) (h:nm.length<=8):(eV nm l).1.length<=8/\(eV nm l).2.1.length<=2/\∀p∈(eV nm l).2.1,kP p:=by
 cases l with
 | nil=>exact ⟨h,by simp[eV],λ p j=>by simp[eV]at j⟩
 | cons q l=>
  simp only[eV]
  split
  .exact ⟨h,(GN _ _).1,(GN _ _).2⟩
  exact ⟨by simp,by simp,λ p j=>by simp at j⟩
def F2 (s):(bH s).1.length<=8/\(bH s).2.1.length<=2/\∀p∈(bH s).2.1,kP p:=by
 unfold bH
 split
 .exact ⟨by simp,by simp,λ p h=>by simp at h⟩
 rename_i l hl
 match l with
 | []=>exact uL [] [] (by simp)
 | [p]=>exact uL [] [p] (by simp)
 | p::q::l=>
  simp only[iK]
  split
  .split
   .rename_i hn
    exact uL _ _ (Er hn)
   exact ⟨by simp,by simp,λ p h=>by simp at h⟩
  exact uL [] _ (by simp)
def eJ (ss:List (List UInt8)):Nat->List Qt×List (List UInt8×Nat)
 | 0=>([],[])
 | j+1=>(ip (ss.getD j []) (j+1) (eJ ss j).1 (eJ ss j).2).2
structure tG (j:Nat) (l:List Qt) (N:List (List UInt8×Nat)):Prop where
 len:l.length<=2*j
 nl:N.length<=j
 pt:∀x∈l,kP x.p
 at':∀p∈N,p.2<=l.length
def T6 {l:List Qt} {N:List (List UInt8×Nat)} (h:tG j l N) (s) (n):tG (j+1) (ip s n l N).2.1 (ip s n l N).2.2:=by
 obtain ⟨v,w,u⟩:=F2 s;have y:=h.len;have A:=h.nl;unfold ip
 split
 .split
  .refine ⟨by simp;omega,by simp only;omega,λ x hx=>?_,λ p q=>?_⟩
   .rcases List.mem_append.1 hx with hx|hx
    .exact h.pt x hx
    obtain ⟨p,q,rfl⟩:=List.mem_map.1 hx;exact u p q
   have:=h.at' p q;simp;omega
  split
  .exact ⟨by simp only;omega,by simp only;omega,h.pt,h.at'⟩
  refine ⟨by simp;omega,by simp;omega,λ x hx=>?_,λ p q=>?_⟩
  .rcases List.mem_append.1 hx with hx|hx
   .exact h.pt x hx
   obtain ⟨p,q,rfl⟩:=List.mem_map.1 hx;exact u p q
  rcases List.mem_append.1 q with q|q
  .have:=h.at' p q;simp;omega
  have e:p=((bH s).1,l.length):=by simpa using q
  subst e;simp
 exact ⟨by simp only;omega,by simp only;omega,h.pt,h.at'⟩
def ve (h:List (List UInt8)):∀j,tG j (eJ h j).1 (eJ h j).2
 | 0=>⟨by simp[eJ],by simp[eJ],λ x hx=>by simp[eJ]at hx,λ p q=>by simp[eJ]at q⟩
 | j+1=>T6 (ve h j) _ _
