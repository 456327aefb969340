import Derived.Test.YtbmcofdodfcnnaaGreatDoorGVF
set_option linter.all false
set_option maxHeartbeats 0
set_option maxRecDepth 100000
namespace Go
open Proofs.Tryz RowKit
variable {ao : Option Addr} {P k g base : Nat} {w w' w0 W : World} {t : List UInt8}
def m6 (P:Nat) (o:Option (aE×List UInt8)) (w:World) (e:Ending) (w':World):Prop:=
 e=.returned (.bool o.isSome)/\bS P none w w'/\∀s,o=some s->aF P (dD s.1 s.2) w'
def KL (P) (i) (tg) (k) (t) (w) (G:t.size<=2000) (F:aS w) (E:aF P (dD i tg) w):
    Calls prog 223 #[.pointer (some ⟨P,0,none⟩),.int .i32 100,.agg #[.int .i64 k,.string t]] w λ e w'=>m6 P (dF 100 k t.data.toList i tg) w e w':=by
 have D:=aB (λ o=>F.alloc o)
 have C:=aB E;go_in;go_wp2_with fail;refine zK (xk k t _ G (D.out _)) λ I y=>?_;have u:=aB (aJ.trans (y.mono (by simp)))
 have h:=aB (aF.next C.out u.out);obtain ⟨H,K,A⟩:=h.out;have J:=A 2 _ rfl;clear y A;have v:Hid (dF 100 k t.data.toList i tg=(dU t.data.toList).map λ n=>({ i with rd:=n },tg)):=rfl
 generalize dU t.data.toList=q at *;go_wp2;go_ret;refine ⟨?_,(bS.of_below u.out).trans (bS.setCell P none _ _ _),λ s j=>?_⟩
 .rw[v.out];cases q<;>rfl
 rw[v.out]at j
 cases q with
 | none=>cases j
 | some n=>cases j;exact aF.set h.out 2 _ (by simp[dD])
def Ku (P) (i) (tg) (k) (t) (w) (G:t.size<=2000) (F:aS w) (E:aF P (dD i tg) w):
    Calls prog 223 #[.pointer (some ⟨P,0,none⟩),.int .i32 115,.agg #[.int .i64 k,.string t]] w λ e w'=>m6 P (dF 115 k t.data.toList i tg) w e w':=by
 have D:=aB (λ o=>F.alloc o)
 have C:=aB E;go_in;go_wp2_with fail;refine zK (xk k t _ G (D.out _)) λ I y=>?_;have u:=aB (aJ.trans (y.mono (by simp)))
 have h:=aB (aF.next C.out u.out);obtain ⟨H,K,A⟩:=h.out;have J:=A 3 _ rfl;clear y A;have v:Hid (dF 115 k t.data.toList i tg=(dU t.data.toList).map λ n=>({ i with rs1:=n },tg)):=rfl
 generalize dU t.data.toList=q at *;go_wp2;go_ret;refine ⟨?_,(bS.of_below u.out).trans (bS.setCell P none _ _ _),λ s j=>?_⟩
 .rw[v.out];cases q<;>rfl
 rw[v.out]at j
 cases q with
 | none=>cases j
 | some n=>cases j;exact aF.set h.out 3 _ (by simp[dD])
def Kv (P) (i) (tg) (k) (t) (w) (G:t.size<=2000) (F:aS w) (E:aF P (dD i tg) w):
    Calls prog 223 #[.pointer (some ⟨P,0,none⟩),.int .i32 116,.agg #[.int .i64 k,.string t]] w λ e w'=>m6 P (dF 116 k t.data.toList i tg) w e w':=by
 have D:=aB (λ o=>F.alloc o)
 have C:=aB E;go_in;go_wp2_with fail;refine zK (xk k t _ G (D.out _)) λ I y=>?_;have u:=aB (aJ.trans (y.mono (by simp)))
 have h:=aB (aF.next C.out u.out);obtain ⟨H,K,A⟩:=h.out;have J:=A 4 _ rfl;clear y A;have v:Hid (dF 116 k t.data.toList i tg=(dU t.data.toList).map λ n=>({ i with rs2:=n },tg)):=rfl
 generalize dU t.data.toList=q at *;go_wp2;go_ret;refine ⟨?_,(bS.of_below u.out).trans (bS.setCell P none _ _ _),λ s j=>?_⟩
 .rw[v.out];cases q<;>rfl
 rw[v.out]at j
 cases q with
 | none=>cases j
 | some n=>cases j;exact aF.set h.out 4 _ (by simp[dD])
def Kw (P) (i) (tg) (k) (t) (w) (J:t.size<=2000) (I:aS w) (H:aF P (dD i tg) w):
    Calls prog 223 #[.pointer (some ⟨P,0,none⟩),.int .i32 105,.agg #[.int .i64 k,.string t]] w λ e w'=>m6 P (dF 105 k t.data.toList i tg) w e w':=by
 have F:=aB (λ o=>I.alloc o)
 have E:=aB H;go_in;go_wp2_with fail;have y:Hid (dF 105 k t.data.toList i tg=(gO k t.data.toList).map λ n=>({ i with imm:=n },tg)):=rfl
 refine (BF k t _ J (F.out _)).mono ?_;rintro e L ⟨n,rfl,C,A⟩;have u:=aB (aJ.trans (A.mono (by simp)))
 have h:=aB (aF.next E.out u.out);obtain ⟨K,N,D⟩:=h.out;have M:=D 5 _ rfl;have G:=aB C;clear A D C;generalize gO k t.data.toList=q at *;go_wp2;go_ret;refine ⟨?_,(bS.of_below u.out).trans (bS.setCell P none _ _ _),λ s j=>?_⟩
 .rw[y.out];cases q<;>rfl
 rw[y.out]at j
 cases q with
 | none=>cases j
 | some v=>cases j;have:=G.out v rfl;subst this;exact aF.set h.out 5 _ (by simp[dD])
def JO (P) (i) (tg) (k) (t) (w) (I:t.size<=2000) (N:aS w) (M:aF P (dD i tg) w) (H:eX k t.data.toList=false):
    Calls prog 223 #[.pointer (some ⟨P,0,none⟩),.int .i32 112,.agg #[.int .i64 k,.string t]] w λ e w'=>m6 P (dF 112 k t.data.toList i tg) w e w':=by
 have E:=aB (λ o=>N.alloc o)
 have K:=aB M;go_in;go_wp2_with fail;have F:Hid (dF 112 k t.data.toList i tg=(gO k t.data.toList).map λ n=>({ i with imm:=n },tg)):=by show (if eX k t.data.toList then some (i,t.data.toList) else _)=_;rw[H];rfl
 refine zK (qk k t _ I) λ w0 h=>?_;rw[H];have hx:=(aF.new w [.int .i64 k,.string t] 131).next h;obtain ⟨R,T⟩:=bE hx.2.2;have j:=aB h;have A:Hid (aS w0):=aS.below (E.out _) h (E.out _).1;clear h hx;go_wp2_with fail;refine (BF k t _ I A.out).mono ?_;rintro e Q ⟨n,rfl,y,G⟩;have D:=aB ((aJ.trans (j.out.mono (by simp))).trans (G.mono (by have:=j.out.size;simp at this;omega)))
 have u:=aB (aF.next K.out D.out);obtain ⟨O,V,J⟩:=u.out;have U:=J 5 _ rfl;have L:=aB y;clear G J y;generalize gO k t.data.toList=q at *;go_wp2;go_ret;refine ⟨?_,(bS.of_below D.out).trans (bS.setCell P none _ _ _),λ s C=>?_⟩
 .rw[F.out];cases q<;>rfl
 rw[F.out]at C
 cases q with
 | none=>cases C
 | some v=>cases C;have:=L.out v rfl;subst this;exact aF.set u.out 5 _ (by simp[dD])
def K1 (P) (i) (tg) (k) (t) (w) (E:t.size<=2000) (D:aF P (dD i tg) w) (v:eX k t.data.toList=true):
    Calls prog 223 #[.pointer (some ⟨P,0,none⟩),.int .i32 112,.agg #[.int .i64 k,.string t]] w λ e w'=>m6 P (dF 112 k t.data.toList i tg) w e w':=by
 have C:=aB D;have u:Hid (dF 112 k t.data.toList i tg=some (i,t.data.toList)):=by show (if eX k t.data.toList then some (i,t.data.toList) else _)=_;rw[v];rfl
 go_in;go_wp2_with fail;refine zK (qk k t _ E) λ w0 h=>?_;rw[v];have hx:=(aF.new w [.int .i64 k,.string t] 131).next h;obtain ⟨G,H⟩:=bE hx.2.2;have j:=aB (aJ.trans (h.mono (by simp)))
 have q:=aB (aF.next C.out j.out);obtain ⟨F,J,A⟩:=q.out;have I:=A 6 _ rfl;clear h hx A;go_wp2;go_ret;refine ⟨by rw[u.out];rfl,(bS.of_below j.out).trans (bS.setCell P none _ _ _),λ s y=>?_⟩
 rw[u.out]at y;cases y
 exact aF.set q.out 6 _ (by simp[dD])
def K3 (P) (i) (tg) (k) (t) (w) (A:aF P (dD i tg) w):
    Calls prog 223 #[.pointer (some ⟨P,0,none⟩),.int .i32 44,.agg #[.int .i64 k,.string t]] w λ e w'=>m6 P (dF 44 k t.data.toList i tg) w e w':=by
 have y:=aB A;have u:Hid (dF 44 k t.data.toList i tg=if t.data.toList=[44] then some (i,tg) else none):=rfl;go_in;go_wp2;go_ret;have v:Below w.heap.size w (w.alloc (.cells #[.int .i64 k,.string t] 131)):=aJ;refine ⟨?_,bS.of_below v,λ s q=>?_⟩
 .rw[u.out]
  refine iZ (congrArg Value.bool ?_);have j:Utf8.encode 44=⟨#[44]⟩:=by rfl
  by_cases h:t.data.toList=[44]
  .rw[zt h];show (t.toList==(Utf8.encode 44).toList)=true
   rw[j,ByteArray.toList_eq,ByteArray.toList_eq,h];rfl
  rw[aC h];show (t.toList==(Utf8.encode 44).toList)=false;rw[j,ByteArray.toList_eq,ByteArray.toList_eq];exact beq_false_of_ne h
 rw[u.out]at q
 split at q
 .cases q;exact aF.next y.out v
 cases q
def JU (P) (i) (tg) (k) (t) (w) (A:aF P (dD i tg) w):
    Calls prog 223 #[.pointer (some ⟨P,0,none⟩),.int .i32 40,.agg #[.int .i64 k,.string t]] w λ e w'=>m6 P (dF 40 k t.data.toList i tg) w e w':=by
 have y:=aB A;have u:Hid (dF 40 k t.data.toList i tg=if t.data.toList=[40] then some (i,tg) else none):=rfl;go_in;go_wp2;go_ret;have v:Below w.heap.size w (w.alloc (.cells #[.int .i64 k,.string t] 131)):=aJ;refine ⟨?_,bS.of_below v,λ s q=>?_⟩
 .rw[u.out]
  refine iZ (congrArg Value.bool ?_);have j:Utf8.encode 40=⟨#[40]⟩:=by rfl
  by_cases h:t.data.toList=[40]
  .rw[zt h];show (t.toList==(Utf8.encode 40).toList)=true
   rw[j,ByteArray.toList_eq,ByteArray.toList_eq,h];rfl
  rw[aC h];show (t.toList==(Utf8.encode 40).toList)=false;rw[j,ByteArray.toList_eq,ByteArray.toList_eq];exact beq_false_of_ne h
 rw[u.out]at q
 split at q
 .cases q;exact aF.next y.out v
 cases q
def JX (P) (i) (tg) (k) (t) (w) (A:aF P (dD i tg) w):
    Calls prog 223 #[.pointer (some ⟨P,0,none⟩),.int .i32 41,.agg #[.int .i64 k,.string t]] w λ e w'=>m6 P (dF 41 k t.data.toList i tg) w e w':=by
 have y:=aB A;have u:Hid (dF 41 k t.data.toList i tg=if t.data.toList=[41] then some (i,tg) else none):=rfl;go_in;go_wp2;go_ret;have v:Below w.heap.size w (w.alloc (.cells #[.int .i64 k,.string t] 131)):=aJ;refine ⟨?_,bS.of_below v,λ s q=>?_⟩
 .rw[u.out]
  refine iZ (congrArg Value.bool ?_);have j:Utf8.encode 41=⟨#[41]⟩:=by rfl
  by_cases h:t.data.toList=[41]
  .rw[zt h];show (t.toList==(Utf8.encode 41).toList)=true
   rw[j,ByteArray.toList_eq,ByteArray.toList_eq,h];rfl
  rw[aC h];show (t.toList==(Utf8.encode 41).toList)=false;rw[j,ByteArray.toList_eq,ByteArray.toList_eq];exact beq_false_of_ne h
 rw[u.out]at q
 split at q
 .cases q;exact aF.next y.out v
 cases q
def JY (r) (v:gQ r) (P) (i) (tg) (k) (t) (w) (q:t.size<=2000) (u:aS w) (j:aF P (dD i tg) w):
    Calls prog 223 #[.pointer (some ⟨P,0,none⟩),.int .i32 r.toNat,.agg #[.int .i64 k,.string t]] w λ e w'=>m6 P (dF r k t.data.toList i tg) w e w':=by
 rcases v with rfl|rfl|rfl|rfl|rfl|rfl|rfl|rfl
 .exact KL P i tg k t w q u j
 .exact Ku P i tg k t w q u j
 .exact Kv P i tg k t w q u j
 .exact Kw P i tg k t w q u j
 .by_cases h:eX k t.data.toList=true
  .exact K1 P i tg k t w q j h
  exact JO P i tg k t w q u j (by simpa using h)
 .exact K3 P i tg k t w j
 .exact JU P i tg k t w j
 exact JX P i tg k t w j
def gN (ao:Option Addr) (l:List Pc) (P:Nat) (w:World):Prop:=
 ∀i p,l[i]?=some p->∃g o,ao=some ⟨g,o,none⟩/\g<w.heap.size/\g≠P/\p.2.length<=2000/\w.cell? ⟨g,o+i*2,none⟩=some (.int .i64 p.1)/\w.cell? ⟨g,o+i*2+1,none⟩=some (.string ⟨p.2.toArray⟩)
def gN.keeps {l:List Pc} (h:gN ao l P w) (u:bS P none w w'):gN ao l P w':=λ i p hi=>by
 obtain ⟨g,o,v,j,q,y,A,C⟩:=h i p hi;have e:=u.block g j q (by simp)
 exact ⟨g,o,v,zl j u.size,q,y,(World.cell?_of_block (a:=⟨g,_,none⟩) e).trans A,(World.cell?_of_block (a:=⟨g,_,none⟩) e).trans C⟩
def aS.keeps (h:aS w) (q:bS P none w w') (j:8<=P):aS w':=
 h.below (q.below (Below.refl 8 w) j (λ _ h=>by cases h) h.1) zn
def Cl:∀(F:List UInt8) (l:List Pc) (i:aE) (tg:List UInt8),l.length≠F.length->bM F l i tg=none
 | [],[],_,_,h=>by simp at h
 | [],p::l,_,_,_=>by simp[bM]
 | r::F,[],_,_,_=>by simp[bM]
 | r::F,(k,t)::l,i,tg,h=>by
  simp only[bM]
  cases dF r k t i tg with
  | none=>rfl
  | some s=>exact Cl F l s.1 s.2 (by simpa using h)
def Vv (S:ByteArray) (l:List Pc) (i:aE) (tg:List UInt8) (P:Nat) (w wr:World):Prop:=
 ∃(j:Nat) (i':aE) (tg':List UInt8),j<=S.size/\wr.heap[w.heap.size]?=some (.stringIter S j)/\aF P (dD i' tg') wr/\bS P none w wr/\
  Hid (bM S.data.toList l i tg=bM (S.data.toList.drop j) (l.drop j) i' tg')
def KS {j:Nat} {wr:World} (h:bS P none w wr) (hit:w.heap.size<=j) (S) (p):bS P none w (wr.iterAt j S p):=
 ⟨h.os,h.tape,h.output,by rw[Lib.iterAt_size];exact h.size,λ b v q u=>(Lib.iterAt_other wr j b S p (by omega)).trans (h.block b v q u)⟩
def tX (S) (hS:∀r∈S.data.toList,gQ r) (a2:S.size<=6) (P) (i) (tg) (l:List Pc) (ao) (cp) (w) (hE:aS w) (hP:8<=P) (hC:aF P (dD i tg) w) (hl:gN ao l P w):
    Calls prog 190 #[.pointer (some ⟨P,0,none⟩),.string S,.slice ao l.length cp] w λ e w'=>m6 P (bM S.data.toList l i tg) w e w':=by
 have HE:=aB hE;have HC:=aB hC;have HL:=aB hl;have ak:=hC.1;clear hE hC hl;by_cases H:((l.length:Int) != (S.size:Int))=true
 .have D:Hid (bM S.data.toList l i tg=none):=Cl _ _ _ _ (by
   (have e:S.data.toList.length=S.size:=by simp);(have:¬(l.length:Int)=S.size:=by simpa using H);omega)
  go_in;go_wp2;go_ret;exact ⟨by rw[D.out];rfl,bS.refl _ _ _,λ s h=>by rw[D.out]at h;cases h⟩
 have V:((l.length:Int) != (S.size:Int))=false:=by simpa using H
 have a6:l.length=S.size:=by
  have:(l.length:Int)=S.size:=by simpa using V
  omega
 clear H;go_in;go_wp2_with fail;go_loopw [] (λ wr=>Vv S l i tg P w wr) (λ wr=>S.size-wr.iterPos w.heap.size)
 case atStart=>exact ⟨0,i,tg,by omega,World.iter_heap w S 0,aF.alloc HC.out _,bS.of_below aJ,rfl⟩
 case round=>
  obtain ⟨j,i',A,hj,hit,u,hK,HM⟩:=hrel;by_cases q:j<S.size
  .have Y:gQ (S[j]'q):=hS _ (by show S.data[j]∈S.data.toList;exact Array.mem_toList_iff.2 (Array.getElem_mem _))
   have U:(S[j]'q).toNat<128:=by rcases Y with h|h|h|h|h|h|h|h<;>(rw[h];decide)
   have X:∀J,(Instr.next (.pointer (some ⟨w.heap.size,0,none⟩)) true J).run prog wr=.ok (.tuple #[.bool true,.int .i64 j,.int .i32 (S[j]'q).toNat]) (wr.iterAt w.heap.size S (j+1)):=λ J=>
    Lib.run_next_ascii_at wr w.heap.size S j J hit q U
   (have G:j<l.length:=by omega);(have au:(j:Int)<(l.length:Int):=by omega);obtain ⟨⟨k,t⟩,I⟩:∃p,l[j]?=some p:=⟨_,zg G⟩
   have L:Hid (S.data.toList.drop j=(S[j]'q)::S.data.toList.drop (j+1)):=by
    show _=_;rw[List.drop_eq_getElem_cons (by simpa using q)];rfl
   have K:Hid (l.drop j=(k,t)::l.drop (j+1)):=by
    show _=_;rw[List.drop_eq_getElem_cons G];congr 1;rw[zg G]at I;exact Option.some.inj I
   have y:=KS hK zn S (j+1);have R:aF P (dD i' A) (wr.iterAt w.heap.size S (j+1)):=aF.step u (xC wr w.heap.size S (j+1)) ak;obtain ⟨g,o,al,a3,a4,Z,c0,c1⟩:=gN.keeps HL.out y j (k,t) I;have T:aS (wr.iterAt w.heap.size S (j+1)):=aS.keeps HE.out y hP;have M:Hid ((wr.iterAt w.heap.size S (j+1)).heap[w.heap.size]?=some (.stringIter S (j+1))):=Lib.iterAt_heap wr _ S j (j+1) hit;have N:=aB hit;have af:=aB y;have ae:=aB R;subst al;simp only at Z c0 c1;(have an:(ByteArray.mk t.toArray).size<=2000:=by simpa[ByteArray.size] using Z);clear hit u hK y R;generalize wr.iterAt w.heap.size S (j+1)=W at *;go_wp2_with fail;refine (JY _ Y P i' A k ⟨t.toArray⟩ W an T ae.out).mono ?_;rintro e w3 ⟨rfl,v,F⟩;have ay:=aB v;(have am:(ByteArray.mk t.toArray).data.toList=t:=by simp);rw[am]at F ⊢;have Q:=aB F;(have E:w3.heap[w.heap.size]?=some (.stringIter S (j+1)):=(v.block _ (Array.getElem?_eq_some_iff.1 M.out).1 (by omega) (by simp)).trans M.out);have C:=aB E;have O:=aB (af.out.trans v);clear v F c0 c1 X T E
   cases hps:dF (S[j]'q) k t i' A with
   | none=>
    have D:Hid (bM S.data.toList l i tg=none):=by
     show _=_;rw[HM.out,L.out,K.out];simp only[bM];rw[hps];rfl
    simp only[Option.isSome];go_wp2;go_ret;exact ⟨by rw[D.out];rfl,O.out,λ s h=>by rw[D.out]at h;cases h⟩
   | some s=>
    have ai:=aB (Q.out s hps);have ah:=aB hps;clear Q hps;simp only[Option.isSome];go_wp2;go_roundw
    case rel=>
     (refine ⟨j+1,s.1,s.2,by omega,C.out,ai.out,O.out,?_⟩);show _=_;rw[HM.out,L.out,K.out];simp only[bM];rw[ah.out];rfl
    case measure=>
     simp[World.iterPos,C.out,N.out];omega
  have a5:j=S.size:=by omega
  have X:∀J,(Instr.next (.pointer (some ⟨w.heap.size,0,none⟩)) true J).run prog wr=.ok (.tuple #[.bool false]) wr:=λ J=>
   Lib.run_next_end_at wr w.heap.size S j J hit q
  have D:Hid (bM S.data.toList l i tg=some (i',A)):=by
   show _=_;(rw[HM.out,List.drop_eq_nil_of_le (by simp;omega),List.drop_eq_nil_of_le (by omega)]);rfl
  have HK:=aB hK;have ac:=aB u;clear u hK hit;go_wp2;go_ret;exact ⟨by rw[D.out];rfl,HK.out,λ s h=>by rw[D.out]at h;cases h;exact ac.out⟩
def EC (nm) (k) (w) (F:k<64) (E:(List.range 64).find? (gW nm)=some k):
    aG prog 189 #[.string nm] w (.tuple #[(aE.mk (k+1) 0 0 0 0).val,.string ⟨(eQ (row k).kind).toArray⟩,.bool true]):=by
 unfold aG;have D:=aB E;go_in;go_wp2_with fail;refine zK (yy nm _) λ j h=>?_;rw[D.out];have A:=aB (aF.alloc ((aF.new w zI 26).next h) (.cells (bO k).toArray 100));have H:w.heap.size<j.heap.size:=((aF.new w zI 26).next h).1;have q:=aB (aJ.trans (h.mono (by simp)))
 have y:=aB (aF.new j (bO k) 100);have u:=aB (q.out.alloc q.out.size (.cells (bO k).toArray 100));clear h;unfold eW dE;unfold bO at A y u ⊢;go_wp2_with fail;obtain ⟨O,_,s2⟩:=tL y.out.2.2;obtain ⟨N,P,C⟩:=A.out;obtain ⟨I,J,K,L,M⟩:=bF C;have G:w.heap.size≠j.heap.size:=by omega
 clear C A y;generalize j.alloc _=W at *
 go_region_held3 (λ w'=>w'.cell? ⟨j.heap.size,0,none⟩=some (.int .i64 (k+1))/\w'.cell? ⟨j.heap.size,2,none⟩=some (.int .i64 (fN (row k).kind))) (go_keep)
  (first|(go_at_call 62;refine (Ce _ (iH k F) _).mono ?_;rintro e w' ⟨rfl,rfl⟩))
 all_goals
  go_wp2;refine zp (v:=.tuple #[(aE.mk (k+1) 0 0 0 0).val,.string ⟨(eQ (row k).kind).toArray⟩,.bool true]) (by simp[results,results189,go_sem,I,J,K,L,M,aE.val]) rfl ⟨rfl,?_⟩
  exact kf u.out.drew _ _ _ _ _
def gN.move {l:List Pc} (h:gN ao l w.heap.size w) (q:Below w.heap.size w w') (P) (D:w.heap.size<=P):gN ao l P w':=λ i p hi=>by
 obtain ⟨g,o,u,j,C,v,y,A⟩:=h i p hi;exact ⟨g,o,u,zl j q.size,by omega,v,(q.cell (p:=⟨g,_,none⟩) j).trans y,(q.cell (p:=⟨g,_,none⟩) j).trans A⟩
def kO:List Value:=[.string ⟨#[]⟩,.int .i64 0,.int .i64 0,.int .i64 0,.int .i64 0,.int .i64 0,.string ⟨#[]⟩]
def ly {j:World} (h:Below w.heap.size w j) (a b c d e f g):
    Below w.heap.size w (((((((j.setCell ⟨w.heap.size,0,none⟩ a).setCell ⟨w.heap.size,1,none⟩ b).setCell ⟨w.heap.size,2,none⟩ c).setCell ⟨w.heap.size,3,none⟩ d).setCell ⟨w.heap.size,4,none⟩ e).setCell ⟨w.heap.size,5,none⟩ f).setCell ⟨w.heap.size,6,none⟩ g):=
 ((((((h.setCell zn _).setCell zn _).setCell zn _).setCell zn _).setCell zn _).setCell zn _).setCell zn _
def Je (nm) (k) (l:List Pc) (ao) (cp) (w) (hk:k<64) (hf:(List.range 64).find? (gW nm)=some k) (hE:aS w) (hl:gN ao l w.heap.size w):
    aG prog 136 #[.string nm,.slice ao l.length cp] w (.tuple #[.agg (oZ k l).1.toArray,.int .i64 (oZ k l).2]):=by
 unfold aG;have HL:=aB hl;have HE:=aB hE;have ai:=aB (iH k hk);have be:=hE.1;clear hl;go_in;go_wp2_with fail;refine zK (EC nm k _ hk hf) λ q G=>?_;have F:=aB ((aF.new w kO 193).next G);have D:=aB (aJ.trans (G.mono (by simp)))
 have bg:w.heap.size<q.heap.size:=F.out.1;clear G;unfold aE.val;simp only;go_wp2_with fail
 have H:Below q.heap.size q ((q.alloc (.cells #[.int .i64 (k+1),.int .i64 0,.int .i64 0,.int .i64 0,.int .i64 0] 26)).alloc (.cells #[.string ⟨#[]⟩,.int .i64 (k+1),.int .i64 0,.int .i64 0,.int .i64 0,.int .i64 0,.string ⟨#[]⟩] 193)):=
  aJ.alloc (by simp) _
 have R:aF (q.heap.size+1) (dD ⟨k+1,0,0,0,0⟩ []) ((q.alloc (.cells #[.int .i64 (k+1),.int .i64 0,.int .i64 0,.int .i64 0,.int .i64 0] 26)).alloc (.cells #[.string ⟨#[]⟩,.int .i64 (k+1),.int .i64 0,.int .i64 0,.int .i64 0,.int .i64 0,.string ⟨#[]⟩] 193)):=by
  have:=aF.new (q.alloc (.cells #[.int .i64 (k+1),.int .i64 0,.int .i64 0,.int .i64 0,.int .i64 0] 26)) (dD ⟨k+1,0,0,0,0⟩ []) 193;rw[za]at this;exact this
 have ak:=aB (aF.next F.out H);have A:=D.out.trans (H.mono D.out.size);have T:=aS.below HE.out A HE.out.1;have U:=gN.move HL.out A (q.heap.size+1) (by omega)
 have ah:=aB A;have P:Hid ((ByteArray.mk (eQ (row k).kind).toArray).data.toList=eQ (row k).kind):=by show _=_;simp
 clear H A D F;generalize ((q.alloc (.cells #[.int .i64 (k+1),.int .i64 0,.int .i64 0,.int .i64 0,.int .i64 0] 26)).alloc (.cells #[.string ⟨#[]⟩,.int .i64 (k+1),.int .i64 0,.int .i64 0,.int .i64 0,.int .i64 0,.string ⟨#[]⟩] 193))=W at *;refine (tX _ (by rw[P.out];exact qC ai.out) (by simpa[ByteArray.size] using vy (row k).kind) (q.heap.size+1) ⟨k+1,0,0,0,0⟩ [] l ao cp W T (by omega) R U).mono ?_
 rintro e w3 ⟨rfl,I,J⟩;rw[P.out]at J ⊢;have Q:=aB (aF.keeps ak.out I (by omega) (by simp))
 have E:=aB (I.below ah.out (by omega) (λ _ h=>by cases h) zn)
 have O:=aB J;obtain ⟨C,yf,yc⟩:=Q.out;obtain ⟨Y,Z,y2,y3,y4,y5,y6⟩:=fT yc;clear I J R T U yc
 cases hps:bM (eQ (row k).kind) l ⟨k+1,0,0,0,0⟩ [] with
 | none=>
  have N:=aB (Em hps);simp only[Option.isSome];go_wp2;refine zp (v:=.tuple #[.agg kO.toArray,.int .i64 4]) (by simp[results,results136,go_sem,Y,Z,y2,y3,y4,y5,y6,kO]) rfl ⟨by rw[N.out];rfl,ly E.out _ _ _ _ _ _ _⟩
 | some s=>
  obtain ⟨⟨op,rd,rs1,rs2,imm⟩,tg⟩:=s;have M:=aB hps;obtain ⟨X,_,pc⟩:=O.out _ hps;obtain ⟨p0,p1,p2,p3,p4,p5,p6⟩:=fT pc;simp only at p1 p2 p3 p4 p5 p6;have aj:=aB pc;clear hps pc O;simp only[Option.isSome];go_wp2_with fail;refine zK (iI ⟨op,rd,rs1,rs2,imm⟩ _) λ w4 u=>?_;have al:=aB (aF.next Q.out u);have y:=aB (E.out.trans (u.mono E.out.size));have V:∀j v,(dD ⟨op,rd,rs1,rs2,imm⟩ tg)[j]?=some v->w4.cell? ⟨q.heap.size+1,j,none⟩=some v:=λ j v hj=>(u.cell (p:=⟨q.heap.size+1,j,none⟩) X).trans (aj.out j v hj)
  obtain ⟨P0,P1,P2,P3,P4,P5,P6⟩:=fT V;simp only at P1 P2 P3 P4 P5 P6;have av:q.heap.size+1<w4.heap.size:=zl X u.size;clear Y Z y2 y3 y4 y5 y6 yf C p0 p1 p2 p3 p4 p5 p6 u V;obtain ⟨C,yf,yc⟩:=al.out;obtain ⟨Y,Z,y2,y3,y4,y5,y6⟩:=fT yc;clear yc;by_cases K:right ⟨op,rd,rs1,rs2,imm⟩=true
  .have bf:1<=op/\op<=64:=by
    apply Classical.byContradiction;intro hn;rw[lY _ hn]at K;cases K
   (obtain ⟨kk,rfl⟩:∃kk:Nat,op=kk+1:=⟨(op-1).toNat,by omega⟩);have N:=aB (Gj M.out K);rw[qr K];unfold dE bO;clear K;go_wp2;(refine zp (v:=.tuple #[.agg (dD ⟨kk+1,rd,rs1,rs2,imm⟩ tg).toArray,.int .i64 0]) (by simp[results,results136,go_sem,Y,Z,y2,y3,y4,y5,y6,C,dD]) rfl ⟨by rw[N.out],?_⟩);exact (ly y.out _ _ _ _ _ _ _).alloc (by have:=y.out.size;simp[World.setCell];omega) _
  have L:right ⟨op,rd,rs1,rs2,imm⟩=false:=by simpa using K
  have N:=aB (I0 M.out L);rw[ob L];unfold gV gX;clear K L;go_wp2;refine zp (v:=.tuple #[.agg kO.toArray,.int .i64 5]) (by simp[results,results136,go_sem,Y,Z,y2,y3,y4,y5,y6,C,kO]) rfl ⟨by rw[N.out];rfl,?_⟩
  exact (ly y.out _ _ _ _ _ _ _).alloc (by have:=y.out.size;simp[World.setCell];omega) _
def Gz {p:Nat->Bool} (h:(List.range 64).find? p=some k):k<64:=by
 rw[List.find?_range_eq_some]at h;simpa using h.2.1
def BL (nm) (l:List Pc) (ao) (cp) (w) (Z:aS w) (X:gN ao l w.heap.size w):
    aG prog 74 #[.string nm,.slice ao l.length cp] w (.tuple #[(eR nm l).1.val,.int .i64 (eR nm l).2]):=by
 unfold aG;have Y:=aB X;have W:=aB Z;clear X;go_in;go_wp2_with fail;refine zK (yy nm _) λ T E=>?_;have D:=aB ((aF.new w zI 26).next E);have j:=aB (aJ.trans (E.mono (by simp)))
 have V:w.heap.size<T.heap.size:=D.out.1;clear E
 cases hf:(List.range 64).find? (gW nm) with
 | none=>
  have q:Hid (eR nm l=(⟨0,0,0,0,0⟩,4)):=by show _=_;simp only[eR,hf]
  obtain ⟨_,yf,R⟩:=D.out;obtain ⟨K,L,M,N,O⟩:=bF R;clear R;unfold eW gV gX;go_wp2;refine zp (v:=.tuple #[(aE.mk 0 0 0 0 0).val,.int .i64 4]) (by simp[results,results74,go_sem,K,L,M,N,O,V,aE.val]) rfl ⟨by rw[q.out],?_⟩
  exact (kf j.out _ _ _ _ _).alloc (by have:=j.out.size;simp[World.setCell];omega) _
 | some k=>
  have hk:=Gz hf;have P:=aB hf;have u:Below w.heap.size w (T.alloc (.cells (bO k).toArray 100)):=j.out.alloc j.out.size _;have G:=aS.below W.out u W.out.1;have H:gN ao l (T.alloc (.cells (bO k).toArray 100)).heap.size (T.alloc (.cells (bO k).toArray 100)):=gN.move Y.out u _ (by simp;omega)
  have Q:=aB (aF.alloc D.out (.cells (bO k).toArray 100));have C:=aB u;clear hf u;unfold eW dE;unfold bO at G H Q C ⊢;go_wp2_with fail;refine zK (Je nm k l ao cp _ hk P.out G H) λ w3 F=>?_;have U:=aB (aF.next Q.out F);have h:=aB (C.out.trans (F.mono C.out.size));obtain ⟨A,yf,R⟩:=U.out;obtain ⟨K,L,M,N,O⟩:=bF R;clear F G H R
  cases hps:bM (eQ (row k).kind) l ⟨k+1,0,0,0,0⟩ [] with
  | none=>
   (have q:Hid (eR nm l=(⟨0,0,0,0,0⟩,4)):=by show _=_;simp only[eR,P.out,hps]);rw[Em hps];unfold dD;simp only;go_wp2;(refine zp (v:=.tuple #[(aE.mk 0 0 0 0 0).val,.int .i64 4]) (by simp[results,results74,go_sem,K,L,M,N,O,A,aE.val]) rfl ⟨by rw[q.out],?_⟩);exact (kf h.out _ _ _ _ _).alloc (by have:=h.out.size;simp[World.setCell];omega) _
  | some s=>
   obtain ⟨⟨op,rd,rs1,rs2,imm⟩,tg⟩:=s;by_cases I:right ⟨op,rd,rs1,rs2,imm⟩=true
   .rw[Gj hps I]
    unfold dD;simp only;by_cases y:tg=[]
    .have q:Hid (eR nm l=(⟨op,rd,rs1,rs2,imm⟩,0)):=by show _=_;simp only[eR,P.out,hps,I,y,if_true]
     subst y;clear hps I;go_wp2;(refine zp (v:=.tuple #[(aE.mk op rd rs1 rs2 imm).val,.int .i64 0]) (by simp[results,results74,go_sem,K,L,M,N,O,A,aE.val]) rfl ⟨by rw[q.out],?_⟩);exact (kf h.out _ _ _ _ _).alloc (by have:=h.out.size;simp[World.setCell];omega) _
    (have q:Hid (eR nm l=(⟨0,0,0,0,0⟩,4)):=by show _=_;simp only[eR,P.out,hps,I,y,if_true,if_false]);(have ab:tg.isEmpty=false:=by cases tg with|nil=>exact absurd rfl y|cons a b=>rfl);clear hps I;go_wp2;(refine zp (v:=.tuple #[(aE.mk 0 0 0 0 0).val,.int .i64 4]) (by simp[results,results74,go_sem,K,L,M,N,O,A,aE.val]) rfl ⟨by rw[q.out],?_⟩);exact (kf h.out _ _ _ _ _).alloc (by have:=h.out.size;simp[World.setCell];omega) _
   (have J:right ⟨op,rd,rs1,rs2,imm⟩=false:=by simpa using I);(have q:Hid (eR nm l=(⟨0,0,0,0,0⟩,5)):=by show _=_;simp only[eR,P.out,hps,J,if_false,Bool.false_eq_true]);rw[I0 hps J];unfold dD;simp only;clear hps I J;go_wp2;(refine zp (v:=.tuple #[(aE.mk 0 0 0 0 0).val,.int .i64 5]) (by simp[results,results74,go_sem,K,L,M,N,O,A,aE.val]) rfl ⟨by rw[q.out],?_⟩);exact (kf h.out _ _ _ _ _).alloc (by have:=h.out.size;simp[World.setCell];omega) _
def LS (s) (w) (h:2000<s.size):
    aG prog 39 #[.string s] w (.tuple #[(aE.mk 0 0 0 0 0).val,.int .i64 4]):=by
 unfold aG;have j:(2000:Int)<s.size:=by omega
 go_in;go_wp2_with fail;exact zp (v:=.tuple #[(aE.mk 0 0 0 0 0).val,.int .i64 4]) (by simp[results,results39,go_sem,aE.val]) rfl ⟨rfl,aJ⟩
def Pr (s) (w) (h:¬2000<s.size) (j:0<=Lib.indexByte s.data.toList 10):
    aG prog 39 #[.string s] w (.tuple #[(aE.mk 0 0 0 0 0).val,.int .i64 4]):=by
 unfold aG;have u:¬(2000:Int)<s.size:=by omega
 have q:decide (0<=Lib.indexByte s.data.toList 10)=true:=decide_eq_true j;clear j;go_in;go_wp2_with fail;refine (strings_Contains_one s 10 _).mono ?_;rintro e y ⟨rfl,rfl⟩;rw[q];go_wp2_with fail;exact zp (v:=.tuple #[(aE.mk 0 0 0 0 0).val,.int .i64 4]) (by simp[results,results39,go_sem,aE.val]) rfl ⟨rfl,aJ⟩
structure RA (w0:World) (ao:Option Addr) (g:Nat) (t:List UInt8) (l:List Pc) (W:World):Prop where
 env:aS W
 pcs:gN ao l W.heap.size W
 res:aF w0.heap.size zI W
 below:Below w0.heap.size w0 W
 lt:g<W.heap.size
 far:g≠w0.heap.size
 text:W.cell? ⟨g,1,none⟩=some (.string ⟨t.toArray⟩)
def RA.next {l:List Pc} {q:World} (h:RA w0 ao g t l W) (j:Below W.heap.size W q):RA w0 ao g t l q:=
 ⟨h.env.below j h.env.1,h.pcs.move j _ j.size,h.res.next j,h.below.trans (j.mono h.below.size),zl h.lt j.size,h.far,(j.cell (p:=⟨g,1,none⟩) h.lt).trans h.text⟩
def BO (nm) (cp) {n:Nat} {l:List Pc} (h:RA w0 ao g t l W) (j:l.length=n):
    Calls prog 74 #[.string nm,.slice ao n cp] W λ e w'=>∃op rd rs1 rs2 imm er,Hid (eR nm l=(⟨op,rd,rs1,rs2,imm⟩,er))/\e=.returned (.tuple #[.agg #[.int .i64 op,.int .i64 rd,.int .i64 rs1,.int .i64 rs2,.int .i64 imm],.int .i64 er])/\RA w0 ao g t l w':=by
 subst j;exact (BL nm l _ cp W h.env h.pcs).mono λ _ _ ⟨he,hB⟩=>⟨_,_,_,_,_,_,rfl,he,h.next hB⟩
def VZ {C:World} {v:Value} {p:Pc} {l:List Pc} (u:C.ownsRow base 131 2 v (p::l).length ((p::l).flatMap jD)) (T:w.heap.size<base) (O:aS C) (P:aF w.heap.size zI C) (N:Below w.heap.size w C) (D:∀q∈p::l,q.2.length<=2000):∃g cap,v=.slice (some ⟨g,0,none⟩) (l.length+1) cap/\l.length+1<=cap/\RA w (some ⟨g,2,none⟩) g p.2 l C:=by
 have J:=u;obtain ⟨_,M|⟨g,cap,K,I,V,U,G,_⟩⟩:=u
 .have:=M.2;simp at this
 have E:g<C.heap.size:=(J.lt g (by rw[I];rfl)).2
 have A:∀k j q,j<2->(p::l)[k]?=some q->C.cell? ⟨g,k*2+j,none⟩=(jD q)[j]?:=λ k j q Q H=>by
  have R:k<(p::l).length:=by
   rcases Nat.lt_or_ge k (p::l).length with h|h
   .exact h
   rw[List.getElem?_eq_none h]at H;cases H
  have F:=jF jD 2 (λ _=>rfl) (p::l) k j Q R
  rw[H]at F;have hx:(jD q)[j]?=some ((jD q)[j]'(by simp[jD];omega)):=zg _
  simp only[zd]at F;have:=J.cells (g:=g) (by rw[I];rfl) (2*k+j) _ (F.trans hx)
  rw[hx,<-this]
  have e:(⟨g,0,none⟩:Addr).add (2*k+j)=⟨g,k*2+j,none⟩:=by
   simp only[Addr.add];rw[Nat.mul_comm 2 k];simp;omega
  rw[e]
 refine ⟨g,cap,by rw[I];rfl,by simpa using G,O,λ i q hi=>?_,P,N,E,by omega,?_⟩
 .have y:(p::l)[i+1]?=some q:=by simpa using hi
  have e0:=A (i+1) 0 q (by omega) y
  have L:=A (i+1) 1 q (by omega) y
  refine ⟨g,2,rfl,E,by omega,D q (List.mem_of_getElem? y),?_,?_⟩
  .have:2+i*2=(i+1)*2+0:=by omega
   rw[this];exact e0
  have:2+i*2+1=(i+1)*2+1:=by omega
  rw[this];exact L
 exact A 0 1 p (by omega) rfl
def OE (s) (w) (h:¬2000<s.size) (U:¬0<=Lib.indexByte s.data.toList 10) (hE:aS w):
    aG prog 39 #[.string s] w (.tuple #[(iT s).1.val,.int .i64 (iT s).2]):=by
 unfold aG;have h':¬(2000:Int)<s.size:=by omega
 have hs:s.size<=2000:=by omega
 have hd:decide (0<=Lib.indexByte s.data.toList 10)=false:=decide_eq_false U
 have y:Hid (iT s=match aZ (Lib.cut s.data.toList [35]).1 0 [] with
  | none=>(⟨0,0,0,0,0⟩,4)
  | some []=>(⟨0,0,0,0,0⟩,4)
  | some (p::l)=>eR ⟨p.2.toArray⟩ l):=by
  show _=_;unfold iT;rw[aC (by rintro (a|a);exact h a;exact U a)]
  rfl
 have N:=aB (λ o=>hE.alloc o)
 clear U h;go_in;go_wp2_with fail;refine (strings_Contains_one s 10 _).mono ?_;rintro e w1 ⟨rfl,rfl⟩;rw[hd];go_wp2_with fail;refine (nO s _ hs (N.out _)).mono ?_;rintro e X ⟨I,E⟩;have J:=aB ((aF.new w zI 26).next E);have F:=aB (aJ.trans (E.mono (by simp)))
 have O:Hid (aS X):=aS.below (N.out _) E (N.out _).1;obtain ⟨W,yf,yc⟩:=J.out;obtain ⟨y0,y1,y2,y3,y4⟩:=bF yc;clear yc E
 cases hc:aZ (Lib.cut s.data.toList [35]).1 0 [] with
 | none=>
  rw[hc]at y I;simp only[vM]at I;subst I;go_wp2;refine zp (v:=.tuple #[(aE.mk 0 0 0 0 0).val,.int .i64 4]) (by simp[results,results39,go_sem,y0,y1,y2,y3,y4,aE.val]) rfl ⟨by rw[y.out],kf F.out _ _ _ _ _⟩
 | some A=>
  rw[hc]at y I;simp only[vM]at I;obtain ⟨v,he,C⟩:=I;subst he
  cases A with
  | nil=>
   have H:∃ao cap,v=.slice ao 0 cap:=by
    obtain ⟨_,P|⟨g,cap,am,H,_⟩⟩:=C
    .exact ⟨none,0,P.1⟩
    exact ⟨_,_,H⟩
   clear C;obtain ⟨ao,cap,H⟩:=H;subst H;go_wp2;refine zp (v:=.tuple #[(aE.mk 0 0 0 0 0).val,.int .i64 4]) (by simp[results,results39,go_sem,y0,y1,y2,y3,y4,aE.val]) rfl ⟨by rw[y.out],kf F.out _ _ _ _ _⟩
  | cons p l=>
   have Q:∃g cap,v=.slice (some ⟨g,0,none⟩) (l.length+1) cap/\l.length+1<=cap/\RA w (some ⟨g,2,none⟩) g p.2 l X:=
    VZ C (by simp) O.out J.out F.out (λ q hq=>by
     have P:=vc _ _ _ _ hc q hq
     have h2:(Lib.cut s.data.toList [35]).1.length<=s.data.toList.length:=by
      unfold Lib.cut;split
      .simp;omega
      simp
     (have e:s.data.toList.length=s.size:=by simp);simp at P h2;omega)
   obtain ⟨g,cap,H,K,u⟩:=Q;clear C;subst H;(have ax:(((l.length+1:Nat):Int)==0)=false:=by simp;omega);(have ak:(((l.length:Int)+1)==0)=false:=by simp;omega);have tx:=u.text;(have aj:w.heap.size≠g:=λ e=>u.far e.symm);(have T:(l.length:Int)+1<=cap:=by omega);clear y0 y1 y2 y3 y4 yf W;by_cases R:cap=1
   .have V:l=[]:=by cases l with|nil=>rfl|cons a b=>simp at K;omega
    subst V;subst R;(have L:∀ao,RA w ao g p.2 [] X:=λ ao=>⟨u.env,λ i q hi=>by simp at hi,u.res,u.below,u.lt,u.far,u.text⟩);go_wp2_with fail
    go_region_held3 (λ w'=>w'.cell? ⟨g,1,none⟩=some (.string ⟨p.2.toArray⟩)) (first|(exact RA.text (by assumption))|go_keep)
     (first|(go_at_call 74;refine (BO (w0:=w) (g:=g) (t:=p.2) (l:=[]) _ _ (by first|assumption|exact RA.next (L _) (sd _ _)) rfl).mono ?_;rintro e w' ⟨op,rd,rs1,rs2,imm,er,D,rfl,j⟩;obtain ⟨zz,xf,M⟩:=j.res;obtain ⟨Y,Z,x2,x3,x4⟩:=bF M;clear M))
    have G:=aB j.below;clear j;go_wp2;refine zp (v:=.tuple #[(aE.mk op rd rs1 rs2 imm).val,.int .i64 er]) (by simp[results,results39,go_sem,Y,Z,x2,x3,x4,aE.val]) rfl ⟨by first|rw[y.out,D.out]|(rw[y.out];simp only;rw[D.out]),kf G.out _ _ _ _ _⟩
   (have an:(1:Int)<=(l.length:Int)+1:=by omega);(have aq:((l.length+1:Nat):Int)<=cap:=by omega);go_wp2_with fail
   go_region_held3 (λ w'=>w'.cell? ⟨g,1,none⟩=some (.string ⟨p.2.toArray⟩)) (first|(exact RA.text (by assumption))|go_keep)
    (first|(go_at_call 74;refine (BO _ _ (by first|assumption|exact RA.next u (sd _ _)) rfl).mono ?_;rintro e w' ⟨op,rd,rs1,rs2,imm,er,D,rfl,j⟩;obtain ⟨zz,xf,M⟩:=j.res;obtain ⟨Y,Z,x2,x3,x4⟩:=bF M;clear M))
   have G:=aB j.below;clear j;go_wp2;refine zp (v:=.tuple #[(aE.mk op rd rs1 rs2 imm).val,.int .i64 er]) (by simp[results,results39,go_sem,Y,Z,x2,x3,x4,aE.val]) rfl ⟨by first|rw[y.out,D.out]|(rw[y.out];simp only;rw[D.out]),kf G.out _ _ _ _ _⟩
def Mo (s) (w) (q:aS w):
    aG prog 39 #[.string s] w (.tuple #[(iT s).1.val,.int .i64 (iT s).2]):=by
 unfold aG;by_cases h:2000<s.size
 .have e:iT s=(⟨0,0,0,0,0⟩,4):=by unfold iT;rw[zt (Or.inl h)]
  rw[e];exact LS s w h
 by_cases j:0<=Lib.indexByte s.data.toList 10
 .have e:iT s=(⟨0,0,0,0,0⟩,4):=by unfold iT;rw[zt (Or.inr j)]
  rw[e];exact Pr s w h j
 exact OE s w h j q
def MW (s) (w) (C:aS w):
    aG prog 18 #[.string s] w (.tuple #[(iT s).1.val,.int .i64 (iT s).2]):=by
 unfold aG;have A:=aB (λ o=>C.alloc o)
 go_in;go_wp2_with fail;refine zK (Mo s _ (A.out _)) λ F h=>?_;obtain ⟨E,L,u⟩:=(aF.new w zI 26).next h;obtain ⟨G,H,I,J,K⟩:=bF u;have j:Hid (Below w.heap.size w F):=aJ.trans (h.mono (by simp))
 clear h u;generalize q:iT s=D;have y:=(show Hid _ from q)
 clear q;obtain ⟨⟨op,rd,rs1,rs2,imm⟩,er⟩:=D;unfold aE.val;simp only;go_wp2;refine zp (v:=.tuple #[(aE.mk op rd rs1 rs2 imm).val,.int .i64 er]) (by simp[results,results18,go_sem,G,H,I,J,K,aE.val]) rfl ⟨by rw[y.out],kf j.out _ _ _ _ _⟩
